import Derived.Test.YtnbgnhhnpmmloaaGreatDoorK8
namespace Go.Proofs.YtnbgnhhnpmmloaaGreatDoor
open Go.ChangeShapes Go.WideShapes Go.ChangeAt Go.RowKit
set_option linter.unusedVariables false
set_option linter.unusedSimpArgs false
set_option maxRecDepth 100000
def sumF {α : Type} (F : α → Nat) (l : List α) : Nat := (l.map F).sum
theorem sumF_step {α : Type} (F : α → Nat) {l : List α} {k : Nat} {y : α} (h : l[k]? = some y) : sumF F (l.take (k + 1)) = sumF F (l.take k) + F y := by
 rw [List.take_add_one, h]
 simp [sumF]
def szSes (s : Ses) : Nat := s.2.2.length + sumF (fun e : Ev => e.2.length) s.2.2
def szNod (nd : Nod) : Nat := nd.path.length + nd.value.length + nd.holders.length + nd.watchers.length
def szSt (ss : List Ses) (ns : List Nod) : Nat := ss.length + sumF szSes ss + (ns.length + sumF szNod ns)
end Go.Proofs.YtnbgnhhnpmmloaaGreatDoor

