import Derived.Test.YthlkmijffhhimaaGreatDoorK12
open Go.Proofs.Tryz renaming prog->dG
namespace Go.Proofs.YthlkmijffhhimaaGreatDoor
set_option maxHeartbeats 6400000
set_option linter.all false
set_option maxRecDepth 100000
open Go.ChangeShapes Go.WideShapes Go.ChangeAt Go.RowKit Go.Deep
namespace sR
theorem jf:joinedFacts dG 3 Tryz.f3 Rows.fnExactSubmitSpec Rows.fnExactSubmitRow:=by
 unfold joinedFacts;simp only[gP]
 repeat' apply aE
 all_goals as_aux_lemma=>kernel_rfl
theorem over:Rows.fnExactSubmitRow.holds Tryz.pinned (OpenSpec.ofChange Rows.fnExactSubmitSpec):=
 OpenClaim.holds_of_wide 3 Tryz.f3 rfl rfl rfl rfl rfl rfl rfl ⟨rfl,rfl,rfl,rfl,rfl⟩ rfl rfl rfl rfl rfl aS Tryz.func3 jf
  (VM aS) (by unfold Func.isWrapper;first|(rw[aK (by decide +kernel)];kernel_rfl)|(rw[aJ (by decide +kernel)];exact⟨rfl,rfl⟩))
  (λm i H j _=>lifted m i H j)
end sR
end Go.Proofs.YthlkmijffhhimaaGreatDoor
