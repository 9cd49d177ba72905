import Derived.Test.YtdloolggnjjfoaaGreatDoorSWj
import Derived.Test.YtdloolggnjjfoaaGreatDoorCards
import Derived.Test.YtdloolggnjjfoaaGreatDoorTie
import Derived.SevenTiedAt
namespace Go.Proofs.YtdloolggnjjfoaaGreatDoor
open Go
theorem fnExactSweepCard_holds:Rows.FnExactSweepCardSaid:=
 Claim7.holds_tied_plain_at .later [] [.data, .handle, .wider, .pinned] true (true, "8aa34d43f87bcd0099b2e5df630fb71638bc32da65683fa9f16f8b5d765088db") true srRow.over (λ_ h=>by cases h) (by as_aux_lemma=>kernel_rfl) (λ_ h=>by cases h) fnExactSweep_row_tie rfl ⟨rfl,rfl⟩ (by as_aux_lemma=>kernel_rfl) rfl
  (λf o hf i=>by
   obtain rfl : f = 3:=AG ((show Tryz.prog.funcNamed "loop.example/s02132/laws.FnExactSweep" = some 3 by as_aux_lemma=>kernel_rfl).C.Z hf) |>.C;obtain rfl:o=Tryz.f3:=(AG (Tryz.func3.C.Z i)).C;exact⟨by as_aux_lemma=>kernel_rfl,λj t m=>by
    rw[Tryz.params3]at m;have hm:t∈[33]:=by simpa using Array.mem_of_getElem? m
    have q:([33].all λu=>!Tryz.prog.wantsStandIn u)=true:=by as_aux_lemma=>kernel_rfl
    exact(show Tryz.prog.wantsStandIn t=false by simpa using ky.1 q t hm)⟩)
  (by as_aux_lemma=>kernel_rfl)
end Go.Proofs.YtdloolggnjjfoaaGreatDoor
