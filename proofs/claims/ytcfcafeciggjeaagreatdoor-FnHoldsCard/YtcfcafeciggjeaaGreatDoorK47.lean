import Derived.Test.YtcfcafeciggjeaaGreatDoorDW7a
import Derived.Test.YtcfcafeciggjeaaGreatDoorK46
import Derived.Test.YtcfcafeciggjeaaGreatDoorK42
namespace Go.Proofs.YtcfcafeciggjeaaGreatDoor
set_option linter.all false
set_option maxRecDepth 100000
open Go.ChangeShapes Go.WideShapes Go.ChangeAt Go.RowKit Go.Deep
theorem yT (cd:List Int) (t:Nat) (hb:bM cd) (hl:cd.length<=500) (D:SD) (hv:VD D) (he:0<=D.e):∃ D',BD D'/\DSp cd t D D':=by
 have r0:=cG cd hb t;obtain ⟨k,ek,hk⟩:∃ k:Nat,cd.getD t 0 % 22=k/\k<22:=⟨(cd.getD t 0 % 22).toNat,by omega,by omega⟩;by_cases bL:D.ns.length=0\/D.ss.length=0;{exact GN cd t hb hl D hv he (fun j hj=>.inr bL)};{
 have h6:∀ k:Nat,k<22->k∈[0,1,2,3,4,5,8,11,12,13,14,18,19,20]\/k∈[6,7,9,10,15,16,17,21]:=by decide
 have hj:∀ j:Nat,cd.getD t 0 % 22=j->j=k:=fun j hj=>by omega
 rcases h6 k hk with h | h;{exact GN cd t hb hl D hv he (fun j e=>.inl (by rw [hj j e];exact h))};{exact Qd cd t hb hl D hv he (fun j e=>⟨by rw [hj j e];exact h,bL⟩)}}
theorem ak1 (code:List Int) (hb:bM code) (hl:code.length<=1048576):∃ D O,BD D/\Cj O/\DAp code D O:=by
 obtain ⟨D,O,hD,hO,h⟩:=uE (fun cd t h1 h2=>qn yT cd t h1 h2) code hb hl;refine ⟨D,O,hD,hO,fun p c w h1 h2=>(h p c w h1 h2).mono ?_⟩;rintro r w' ⟨ps,cs,qs,ds,pp,cp,pq,cv,e,a,b,d,f⟩;exact ⟨ps,cs,qs,ds,pp,cp,pq,cv,e,(a w' (Fr.refl _ _)).1,(a w' (Fr.refl _ _)).2,b,d,f⟩
theorem Aj (code:List Int) (hb:bM code) (hl:code.length<=1048576):∃ D O,BD D/\Cj O/\UG code D O:=uE (fun cd t h1 h2=>qn yT cd t h1 h2) code hb hl
end Go.Proofs.YtcfcafeciggjeaaGreatDoor
