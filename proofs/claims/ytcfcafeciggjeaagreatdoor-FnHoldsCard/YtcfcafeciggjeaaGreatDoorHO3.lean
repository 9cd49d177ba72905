import Derived.Test.YtcfcafeciggjeaaGreatDoorHO2
import Derived.Test.YtcfcafeciggjeaaGreatDoorK47
import Derived.Test.YtcfcafeciggjeaaGreatDoorCards
import Derived.Test.YtcfcafeciggjeaaGreatDoorTie
import Derived.SevenTiedAt
namespace Go.Proofs.YtcfcafeciggjeaaGreatDoor
open Go
theorem fnHoldsCard_holds:Rows.FnHoldsCardSaid:=
 Claim7.holds_tied_plain_at .later [] [.data, .handle, .wider, .pinned] true (true, "fa67b5837ebbd862b9b9509ed2fc638b2901d9d5d3a20c037885861d5b5cbcae") true (hoRow.over Aj) (fun _ h => by cases h) (by kernel_rfl) (fun _ h => by cases h) fnHolds_row_tie rfl ⟨rfl, rfl⟩ (by kernel_rfl) rfl
  (fun f fn hf hfn=>by
   obtain rfl : f = 4 := Option.some.inj ((show Tryz.prog.funcNamed "loop.example/s02132/laws.FnHolds" = some 4 by kernel_rfl).symm.trans hf) |>.symm;obtain rfl:fn=Tryz.f4:=(Option.some.inj (Tryz.func4.symm.trans hfn)).symm;exact ⟨by kernel_rfl,fun j t ht=>by
    rw [Tryz.params4] at ht;have hm:t∈[22]:=by simpa using Array.mem_of_getElem? ht
    have lK:([22].all fun u=>!Tryz.prog.wantsStandIn u)=true:=by kernel_rfl
    exact (show Tryz.prog.wantsStandIn t=false by simpa using List.all_eq_true.1 lK t hm)⟩)
  (by kernel_rfl)
end Go.Proofs.YtcfcafeciggjeaaGreatDoor
