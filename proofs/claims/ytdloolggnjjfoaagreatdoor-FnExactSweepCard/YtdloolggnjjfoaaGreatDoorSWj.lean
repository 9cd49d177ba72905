import Derived.Test.YtdloolggnjjfoaaGreatDoorK14
open Go.Proofs.Tryz renaming prog->dG
namespace Go.Proofs.YtdloolggnjjfoaaGreatDoor
set_option maxHeartbeats 6400000
set_option linter.all false
set_option maxRecDepth 100000
open Go.ChangeShapes Go.WideShapes Go.ChangeAt Go.RowKit Go.Deep
namespace srRow
def jf:joinedFacts dG 3 Tryz.f3 Rows.fnExactSweepSpec Rows.fnExactSweepRow:=by
 unfold joinedFacts;simp only[gL]
 repeat' apply aF
 all_goals as_aux_lemma=>kernel_rfl
def over:Rows.fnExactSweepRow.holds Tryz.pinned (OpenSpec.ofChange Rows.fnExactSweepSpec):=
 OpenClaim.holds_of_wide 3 Tryz.f3 rfl rfl rfl rfl rfl rfl rfl ⟨rfl,rfl,rfl,rfl,rfl⟩ rfl rfl rfl rfl rfl aU Tryz.func3 jf
  (Xm aU) (by unfold Func.isWrapper;first|(rw[aM (by decide +kernel)];kernel_rfl)|(rw[aL (by decide +kernel)];exact⟨rfl,rfl⟩))
  (λm i H j _=>lifted m i H j)
end srRow
end Go.Proofs.YtdloolggnjjfoaaGreatDoor
