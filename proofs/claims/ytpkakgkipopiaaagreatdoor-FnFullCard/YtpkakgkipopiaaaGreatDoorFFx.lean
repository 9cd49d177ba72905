import Derived.Test.YtpkakgkipopiaaaGreatDoorFFj
import Derived.Test.YtpkakgkipopiaaaGreatDoorCards
import Derived.Test.YtpkakgkipopiaaaGreatDoorTie
import Derived.SevenTiedAt
namespace Go.Proofs.YtpkakgkipopiaaaGreatDoor
open Go
theorem fnFullCard_holds:Rows.FnFullCardSaid:=
 Claim7.holds_tied_plain_at .later [] [.data, .handle, .wider, .pinned] true (true, "8dc3f17de648b9403505d27c12e8ffc0030948879467e5eaf9b6ce614d2496f7") true srRow.over (λ_ h=>by cases h) (by as_aux_lemma=>kernel_rfl) (λ_ h=>by cases h) fnFull_row_tie rfl ⟨rfl,rfl⟩ (by as_aux_lemma=>kernel_rfl) rfl
  (λf o hf i=>by
   obtain rfl : f = 3:=BN ((show Tryz.prog.funcNamed "loop.example/s02132/laws.FnFull" = some 3 by as_aux_lemma=>kernel_rfl).C.Z hf) |>.C;obtain rfl:o=Tryz.f3:=(BN (Tryz.func3.C.Z i)).C;exact⟨by as_aux_lemma=>kernel_rfl,λj t m=>by
    rw[Tryz.params3]at m;have hm:t∈[22]:=by simpa using aR8 m
    have q:([22].all λu=>!Tryz.prog.wantsStandIn u)=true:=by as_aux_lemma=>kernel_rfl
    exact(show Tryz.prog.wantsStandIn t=false by simpa using lW.1 q t hm)⟩)
  (by as_aux_lemma=>kernel_rfl)
end Go.Proofs.YtpkakgkipopiaaaGreatDoor
