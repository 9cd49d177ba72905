import Derived.Test.YtcfcafeciggjeaaGreatDoorDW7a
import Derived.Test.YtcfcafeciggjeaaGreatDoorK49
import Derived.Test.YtcfcafeciggjeaaGreatDoorK50
import Derived.Test.YtcfcafeciggjeaaGreatDoorDW7d
import Derived.Test.YtcfcafeciggjeaaGreatDoorK47
namespace Go.Proofs.YtcfcafeciggjeaaGreatDoor
set_option linter.unusedVariables false
set_option linter.unusedSimpArgs false
set_option maxRecDepth 100000
open Go.ChangeShapes Go.WideShapes Go.ChangeAt Go.RowKit Go.Deep
theorem DE (cd:List Int) (t:Nat) (hb:bQ cd) (hl:cd.length<=500) (D:SD) (hv:VD D) (he:0<=D.e):∃ D',BD D'/\NJ cd t D D':=by
 have r0:=aV cd hb t;obtain ⟨k,ek,hk⟩:∃ k:Nat,cd.getD t 0 % 22=k/\k<22:=⟨(cd.getD t 0 % 22).toNat,by omega,by omega⟩;by_cases bq:D.ns.length=0\/D.ss.length=0;{exact Cj cd t hb hl D hv he (fun j hj=>.inr bq)};{
 have h5:k∈[0,1,2,3,4,5,8,11,12,13,14,18,19,20]\/k∈[10,16,21]\/k∈[7]\/k∈[15]\/k∈[9,17]\/k∈[6]:=by
  have h6:∀ k:Nat,k<22->k∈[0,1,2,3,4,5,8,11,12,13,14,18,19,20]\/k∈[10,16,21]\/k∈[7]\/k∈[15]\/k∈[9,17]\/k∈[6]:=by decide
  exact h6 k hk
 have hj:∀ j:Nat,cd.getD t 0 % 22=j->j=k:=fun j hj=>by omega
 rcases h5 with h | h | h | h | h | h;{exact Cj cd t hb hl D hv he (fun j e=>.inl (by rw [hj j e];exact h))};{exact JQ cd t hb hl D hv he (fun j e=>⟨by rw [hj j e];exact h,bq⟩)};{exact JP cd t hb hl D hv he (fun j e=>⟨by rw [hj j e];exact h,bq⟩)};{exact JO cd t hb hl D hv he (fun j e=>⟨by rw [hj j e];exact h,bq⟩)};{exact JN cd t hb hl D hv he (fun j e=>⟨by rw [hj j e];exact h,bq⟩)};{exact JM cd t hb hl D hv he (fun j e=>⟨by rw [hj j e];exact h,bq⟩)}}
theorem It (code:List Int) (hb:bQ code) (hl:code.length<=1048576):∃ D O,BD D/\Fo O/\WC code D O:=uF (fun cd t h1 h2=>uE DE cd t h1 h2) code hb hl
end Go.Proofs.YtcfcafeciggjeaaGreatDoor
