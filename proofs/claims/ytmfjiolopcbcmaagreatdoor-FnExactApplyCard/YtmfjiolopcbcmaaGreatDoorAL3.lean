import Derived.Test.YtmfjiolopcbcmaaGreatDoorAL2
import Derived.Test.YtmfjiolopcbcmaaGreatDoorCards
import Derived.Test.YtmfjiolopcbcmaaGreatDoorTie
import Derived.SevenTiedAt
namespace Go.Proofs.YtmfjiolopcbcmaaGreatDoor
open Go
theorem fnExactApplyCard_holds:Rows.FnExactApplyCardSaid:=
 Claim7.holds_tied_plain_at .later [] [.data, .handle, .wider, .pinned] true (true, "1ef53139ffe704d1ea83229d0611c0464d19c3071c43ed8238e97a5aebdad06a") true apRow.over (fun _ h => by cases h) (by kernel_rfl) (fun _ h => by cases h) fnExactApply_row_tie rfl ⟨rfl, rfl⟩ (by kernel_rfl) rfl
  (fun f fn hf hfn=>by
   obtain rfl : f = 3 := Option.some.inj ((show Tryz.prog.funcNamed "loop.example/s02132/laws.FnExactApply" = some 3 by kernel_rfl).symm.trans hf) |>.symm;obtain rfl:fn=Tryz.f3:=(Option.some.inj (Tryz.func3.symm.trans hfn)).symm;exact ⟨by kernel_rfl,fun j t ht=>by
    rw [Tryz.params3] at ht;have hm:t∈[26,29]:=by simpa using Array.mem_of_getElem? ht
    have U8:([26,29].all fun u=>!Tryz.prog.wantsStandIn u)=true:=by kernel_rfl
    exact (show Tryz.prog.wantsStandIn t=false by simpa using List.all_eq_true.1 U8 t hm)⟩)
  (by kernel_rfl)
end Go.Proofs.YtmfjiolopcbcmaaGreatDoor
