import Derived.Test.YtpkakgkipopiaaaGreatDoorFF2
open Go.Proofs.Tryz renaming prog->dG
namespace Go.Proofs.YtpkakgkipopiaaaGreatDoor
set_option maxHeartbeats 6400000
set_option linter.all false
set_option maxRecDepth 100000
open Go.ChangeShapes Go.WideShapes Go.ChangeAt Go.RowKit Go.Deep
namespace srRow
theorem jf:joinedFacts dG 3 Tryz.f3 Rows.fnFullSpec Rows.fnFullRow:=by
 unfold joinedFacts;simp only[gI]
 repeat' apply aD
 all_goals as_aux_lemma=>kernel_rfl
theorem over:Rows.fnFullRow.holds Tryz.pinned (OpenSpec.ofChange Rows.fnFullSpec):=
 OpenClaim.holds_of_wide 3 Tryz.f3 rfl rfl rfl rfl rfl rfl rfl ⟨rfl,rfl,rfl,rfl,rfl⟩ rfl rfl rfl rfl rfl aU Tryz.func3 jf
  (XC aU) (by unfold Func.isWrapper;first|(rw[aK (by decide +kernel)];kernel_rfl)|(rw[aJ (by decide +kernel)];exact⟨rfl,rfl⟩))
  (λj i H enc _=>lifted j i H enc)
end srRow
end Go.Proofs.YtpkakgkipopiaaaGreatDoor
