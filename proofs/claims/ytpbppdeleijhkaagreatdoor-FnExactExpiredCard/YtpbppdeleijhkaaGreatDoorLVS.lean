import Derived.Test.YtpbppdeleijhkaaGreatDoorVMa
import Derived.Test.YtpbppdeleijhkaaGreatDoorLSz
import Derived.Test.YtpbppdeleijhkaaGreatDoorLEq
import Derived.Test.YtpbppdeleijhkaaGreatDoorJ1
namespace Go.Proofs.YtpbppdeleijhkaaGreatDoor
open Go.ChangeShapes Go.WideShapes Go.ChangeAt Go.RowKit
set_option linter.unusedVariables false
set_option linter.unusedSimpArgs false
set_option maxRecDepth 100000

theorem sumF_mem {α : Type} (F : α → Nat) {l : List α} {y : α} (h : y ∈ l) : F y ≤ sumF F l := by
  induction l with
  | nil => cases h
  | cons z l ih =>
    have e : sumF F (z :: l) = F z + sumF F l := by simp [sumF]
    rcases List.mem_cons.1 h with rfl | h
    · omega
    · have := ih h; omega
theorem sz_ses {ss : List Ses} {ns : List Nod} (h : szSt ss ns ≤ 1048576) : ss.length ≤ 1048576 ∧ ns.length ≤ 1048576 ∧ (∀ s ∈ ss, s.2.2.length ≤ 1048576 ∧ ∀ e ∈ s.2.2, e.2.length ≤ 1048576) ∧ ∀ nd ∈ ns, nd.path.length ≤ 1048576 ∧ nd.value.length ≤ 1048576 ∧ nd.holders.length ≤ 1048576 ∧ nd.watchers.length ≤ 1048576 := by
  unfold szSt at h
  refine ⟨by omega, by omega, fun s hs => ?_, fun nd hnd => ?_⟩
  · have h1 := sumF_mem szSes hs
    have h0 : szSes s = s.2.2.length + sumF (fun e : Ev => e.2.length) s.2.2 := rfl
    refine ⟨by omega, fun e he => ?_⟩
    have h2 : e.2.length ≤ sumF (fun e : Ev => e.2.length) s.2.2 := sumF_mem (fun e : Ev => e.2.length) he
    omega
  · have h1 := sumF_mem szNod hnd
    have h0 : szNod nd = nd.path.length + nd.value.length + nd.holders.length + nd.watchers.length := rfl
    omega

end Go.Proofs.YtpbppdeleijhkaaGreatDoor
