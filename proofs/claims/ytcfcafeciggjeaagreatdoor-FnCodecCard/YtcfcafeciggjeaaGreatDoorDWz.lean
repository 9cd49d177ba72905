import Derived.Test.YtcfcafeciggjeaaGreatDoorDW7a
import Derived.Test.YtcfcafeciggjeaaGreatDoorK51
import Derived.Test.YtcfcafeciggjeaaGreatDoorK47
namespace Go.Proofs.YtcfcafeciggjeaaGreatDoor
set_option linter.all false
set_option maxRecDepth 100000
open Go.ChangeShapes Go.WideShapes Go.ChangeAt Go.RowKit Go.Deep
theorem yT (cd:List Int) (t:Nat) (hb:bM cd) (hl:cd.length<=500) (D:SD) (hv:VD D) (he:UD D):∃ D',BD D'/\DSp cd t D D':=by
 have r0:=cG cd hb t;obtain ⟨k,ek,hk⟩:∃ k:Nat,cd.getD t 0 % 22=k/\k<22:=⟨(cd.getD t 0 % 22).toNat,ab,ab⟩;by_cases gd:D.ns.length=0\/D.ss.length=0;{exact GN cd t hb hl D hv he (fun j hj=>.inr gd)};{have h6:∀ k:Nat,k<22->k∈[0,1,2,3,4,5,8,11,12,13,14,18,19,20]\/k∈[6,7,9,10,15,16,17,21]:=bl;have hj:∀ j:Nat,cd.getD t 0 % 22=j->j=k:=fun j hj=>ab;rcases h6 k hk with h | h;{exact GN cd t hb hl D hv he (fun j e=>.inl (by rw [hj j e];exact h))};{exact Qd cd t hb hl D hv he (fun j e=>⟨by rw [hj j e];exact h,gd⟩)}}
end Go.Proofs.YtcfcafeciggjeaaGreatDoor
