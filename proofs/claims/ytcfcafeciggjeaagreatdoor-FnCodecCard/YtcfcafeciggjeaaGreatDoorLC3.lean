import Derived.Test.YtcfcafeciggjeaaGreatDoorDWz
import Derived.Test.YtcfcafeciggjeaaGreatDoorCards
import Derived.Test.YtcfcafeciggjeaaGreatDoorTie
import Derived.SevenTiedAt
namespace Go.Proofs.YtcfcafeciggjeaaGreatDoor
open Go
theorem fnCodecCard_holds:Rows.FnCodecCardSaid:=
 Claim7.holds_tied_plain_at .later [] [.data, .wider, .pinned] true (true, "fa67b5837ebbd862b9b9509ed2fc638b2901d9d5d3a20c037885861d5b5cbcae") true (lcRow.over fun cd t h1 h2 => qn yT cd t h1 h2) (fun _ h => by cases h) cW (fun _ h => by cases h) fnCodec_row_tie rfl ⟨rfl, rfl⟩ cW rfl
  (fun f fn hf hfn=>by
   obtain rfl : f = 7 := Option.some.inj ((show Tryz.prog.funcNamed "loop.example/s02132/laws.FnCodec" = some 7 by kernel_rfl).symm.trans hf) |>.symm;obtain rfl:fn=Tryz.f7:=(Option.some.inj (Tryz.func7.symm.trans hfn)).symm;exact ⟨cW,fun j t ht=>by
    rw [Tryz.params7] at ht;have hm:t∈[22]:=by simpa using Array.mem_of_getElem? ht
    have lK:([22].all fun u=>!Tryz.prog.wantsStandIn u)=true:=cW;exact (show Tryz.prog.wantsStandIn t=false by simpa using List.all_eq_true.1 lK t hm)⟩)
  cW
end Go.Proofs.YtcfcafeciggjeaaGreatDoor
