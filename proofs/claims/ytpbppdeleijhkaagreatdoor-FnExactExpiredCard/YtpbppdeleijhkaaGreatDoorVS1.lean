import Derived.Test.YtpbppdeleijhkaaGreatDoorVS0
namespace Go.Proofs.YtpbppdeleijhkaaGreatDoor
open Go.ChangeShapes Go.WideShapes Go.ChangeAt Go.RowKit
set_option linter.unusedVariables false
set_option linter.unusedSimpArgs false
set_option maxRecDepth 100000

/-- is a session of this number there? -/
def live (ss : List Ses) (id : Int) : Bool := ss.any fun s => s.1 == id
/-- the number at place i is a session's, and greater than the one before -/
def idAt (ss : List Ses) (ids : List Int) (i : Nat) : Bool := live ss (ids.getD i 0) && (i == 0 || decide (ids.getD (i - 1) 0 < ids.getD i 0))
def idsOK (ss : List Ses) (ids : List Int) : Bool := (List.range ids.length).all (idAt ss ids)
theorem range_all_step {f : Nat → Bool} {k : Nat} (h : (List.range k).all f = true) (hk : f k = true) : (List.range (k + 1)).all f = true := by
  rw [List.range_succ, List.all_append, h]
  simp [hk]
theorem range_all_no {f : Nat → Bool} {k n : Nat} (hk : k < n) (h : f k = false) : (List.range n).all f = false := by
  rw [List.all_eq_false]
  exact ⟨k, List.mem_range.2 hk, by simp [h]⟩
end Go.Proofs.YtpbppdeleijhkaaGreatDoor
