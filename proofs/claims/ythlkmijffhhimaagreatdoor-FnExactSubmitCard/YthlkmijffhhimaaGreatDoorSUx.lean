import Derived.Test.YthlkmijffhhimaaGreatDoorSUj
import Derived.Test.YthlkmijffhhimaaGreatDoorCards
import Derived.Test.YthlkmijffhhimaaGreatDoorTie
import Derived.SevenTiedAt
namespace Go.Proofs.YthlkmijffhhimaaGreatDoor
open Go
theorem fnExactSubmitCard_holds:Rows.FnExactSubmitCardSaid:=
 Claim7.holds_tied_plain_at .later [] [.data, .handle, .wider, .pinned] true (true, "4e9a8a5931d1747beb43351596332752e6fcf33612f86d241e03186f941ab5d0") true sR.over (λ_ h=>by cases h) (by as_aux_lemma=>kernel_rfl) (λ_ h=>by cases h) fnExactSubmit_row_tie rfl ⟨rfl,rfl⟩ (by as_aux_lemma=>kernel_rfl) rfl
  (λf o hf i=>by
   obtain rfl : f = 3:=CU ((show Tryz.prog.funcNamed "loop.example/s02132/laws.FnExactSubmit" = some 3 by as_aux_lemma=>kernel_rfl).C.Z hf) |>.C;obtain rfl:o=Tryz.f3:=(CU (Tryz.func3.C.Z i)).C;exact⟨by as_aux_lemma=>kernel_rfl,λj t m=>by
    rw[Tryz.params3]at m;have hm:t∈[33,35]:=by simpa using Array.mem_of_getElem? m
    have q:([33,35].all λu=>!Tryz.prog.wantsStandIn u)=true:=by as_aux_lemma=>kernel_rfl
    exact(show Tryz.prog.wantsStandIn t=false by simpa using mL.1 q t hm)⟩)
  (by as_aux_lemma=>kernel_rfl)
end Go.Proofs.YthlkmijffhhimaaGreatDoor
