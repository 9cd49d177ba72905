import Derived.Test.YtnhnbpkfpaondaaGreatDoorK17
namespace Go.Proofs.YtnhnbpkfpaondaaGreatDoor
set_option maxHeartbeats 0
set_option linter.all false
set_option maxRecDepth 100000
open Go.ChangeShapes Go.WideShapes Go.ChangeAt Go.RowKit Go.Deep
namespace srRow
def jf:joinedFacts Tryz.prog 3 Tryz.f3 Rows.fnExactSnapSpec Rows.fnExactSnapRow=true:=by
 unfold joinedFacts;simp only[fk]
 repeat' apply ai
 all_goals as_aux_lemma=>kernel_rfl
def over:Rows.fnExactSnapRow.holds Tryz.pinned (OpenSpec.ofChange Rows.fnExactSnapSpec):=
 OpenClaim.holds_of_wide 3 Tryz.f3 rfl rfl rfl rfl rfl rfl rfl ⟨rfl,rfl,rfl,rfl,rfl⟩ rfl rfl rfl rfl rfl bg Tryz.func3 jf
  (QA bg) (by unfold Func.isWrapper;first|(rw[bO (by decide +kernel)];kernel_rfl)|(rw[bH (by decide +kernel)];exact⟨rfl,rfl⟩))
  (λos started H enc _=>lifted os started H enc)
end srRow
end Go.Proofs.YtnhnbpkfpaondaaGreatDoor
