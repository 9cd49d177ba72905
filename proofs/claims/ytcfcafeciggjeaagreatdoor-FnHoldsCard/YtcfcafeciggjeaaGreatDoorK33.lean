import Derived.Test.YtcfcafeciggjeaaGreatDoorK31
namespace Go.Proofs.YtcfcafeciggjeaaGreatDoor
set_option maxHeartbeats 3200000
set_option linter.all false
set_option maxRecDepth 100000
open Go.ChangeShapes Go.WideShapes Go.ChangeAt Go.RowKit Go.Maps Go.Proofs.Tryz
variable {D:SD} {P:List Int} {b bn bs gN j:Nat} {nd:aD} {w w' w0:World}
theorem Ko (w:World) (b bs bn:Nat) (D:SD) (SB NB HB UB:List Nat) (h:Hid (PS w0 w b bs bn D SB NB HB UB)) (k:Nat) (nd:aD) (hk:Hid (D.ns[k]?=some nd)) (jR:nd.path.length<=1048576) (uV:Hid (nd.watchers.Pairwise (·<·))) (Tp:Hid (nd.watchers.length<=1048576)) (id:Int) (hid:0<=id/\id<18446744073709551616) :
  Calls prog 278 #[.agg #[.U id,.string (aC nd.path)],.pointer (some ⟨b,0,none⟩)] w (jU w0 w b bs bn { D with ns:=D.ns.set k { nd with watchers:=ig nd.watchers id } } SB NB HB UB rp0):=by
 obtain ⟨g,hh,uu,V0,hg,jT,jX,gl,-,ul,g0,hW⟩:=h.AO hk jR;obtain ⟨X,Y,hX,hY,bY,zX,zY,CY,RY⟩:=sN w #[.U id,.string (aC nd.path)] 215;have HW:=ae hW;clear hW;have df:=keyOf_int_mk underlying23 (jO hid);go_enter func278,ntmps278;go_wp2_with fail;rw [<-hX,<-hY];refine de 15 (by kernel_rfl) (fun W eW=>?_);have bW:Bw w W:=by rw [eW];exact bY.drew
 obtain ⟨k5,kl,kN,kb⟩:=aa HW W bW;have c0:W.cell? ⟨w.heap.size,0,none⟩=some (.U id):=by rw [eW];exact CY.1 0 _ rfl
 have c1:W.cell? ⟨w.heap.size,1,none⟩=some (.string (aC nd.path)):=by rw [eW];exact CY.1 1 _ rfl
 have RW:=RY.below (w':=W) (by rw [eW];exact aJ.drew);have sU:=h.be.size;have PW:=ae (h.below bW);have g6:=ay kb 6;obtain ⟨M,n,o,hn,hs,hz⟩:=kN.Iq;have o':=dB o;rw [hz] at o';obtain ⟨Z,cK,ho,sy⟩:=o'.update gR underlying84 (by have:=aa Tp;unfold maxLen;omega) (val:=.agg #[]) df unitElem_mk;have O:=One.Lk PW.be sy kN.lo.2.2 (ownsMap_at o');have SZ:=SM.put (w:=W) hs o'.isMap uV (by have:=aa Tp;omega) ho;have PZ:=ae (PW.Iq hk hg jT jX O SZ);have Ej:=RW.fr O.fr;obtain ⟨r0,r1,r2,r3,r4,r5,r6,r7,rf⟩:=Ej.cells;have FZ:=ae ((Fr.below (T:=T3) bW).trans O.fr);have RZ:=ae Ej;clear hX hY eW kb CY RY kN O SZ ho sy o o' hs hz Ej RW;simp only [List.take_succ_cons,List.take_zero,List.drop_succ_cons,List.drop_zero]
 repeat still_step
 refine wpStill_nil ?_;go_wp2;exact gQ PZ FZ RZ sU (by kernel_rfl) rfl rfl rfl
theorem Ir (w:World) (b bs bn:Nat) (D:SD) (SB NB HB UB:List Nat) (h:Hid (PS w0 w b bs bn D SB NB HB UB)) (k:Nat) (nd:aD) (hk:Hid (D.ns[k]?=some nd)) (jR:nd.path.length<=1048576) (id:Int) (hid:0<=id/\id<18446744073709551616) (C:Int) (eC:Hid ((if nd.holders.contains id=true then 0 else 10)=C)) :
  Calls prog 276 #[.agg #[.U id,.string (aC nd.path)],.pointer (some ⟨b,0,none⟩)] w fun r w'=>r=.returned (vJ C)/\Bw w w':=by
 obtain ⟨g,hh,uu,V0,hg,jT,jX,gl,-,ul,g0,hW⟩:=h.AO hk jR;obtain ⟨X,hX,bX,zX,CX,-⟩:=aj w #[.U id,.string (aC nd.path)] 211;have HW:=ae hW;clear hW;go_enter func276,ntmps276;go_wp2_with fail;rw [<-hX];refine de 11 (by kernel_rfl) (fun W eW=>?_);have bW:Bw w W:=by rw [eW];exact bX.drew
 obtain ⟨k5,kl,kN,kb⟩:=aa HW W bW;have c0:W.cell? ⟨w.heap.size,0,none⟩=some (.U id):=by rw [eW];exact CX.1 0 _ rfl
 have c1:W.cell? ⟨w.heap.size,1,none⟩=some (.string (aC nd.path)):=by rw [eW];exact CX.1 1 _ rfl
 have KN:=ae kN;clear hX eW kb CX kN;simp only [List.take_succ_cons,List.take_zero,List.drop_succ_cons,List.drop_zero]
 repeat still_step
 refine wpStill_nil ?_;obtain ⟨B,eB⟩:=aL (nd.holders.contains id);go_wp2_with fail;refine (fV W g hh uu nd KN id hid B eB).mono ?_;rintro r w1 ⟨rfl,bq⟩;have jN:=ae (ah bW bq);have e:=aa eC;rw [aa eB] at e;clear bq c0 c1 k5 kl;cases B;{
 have e':C=10:=by rw [<-e];rfl
 subst e';go_wp2;go_ret;exact ⟨rfl,jN⟩};{
 have e':C=0:=by rw [<-e];rfl
 subst e';go_wp2;go_ret;exact ⟨rfl,jN⟩}
def Sc (D:SD) (nd:aD) (id:Int):Int:=if gJ D.ns nd.path≠[] then 8 else if jH nd id=false then 9 else 0
theorem Jq (w:World) (b bs bn:Nat) (D:SD) (SB NB HB UB:List Nat) (h:Hid (PS w0 w b bs bn D SB NB HB UB)) (uV:Hid ((D.ns.map fun nd=>ko nd.path).Pairwise (·<·))) (fI:Hid (∀ nd∈D.ns,bM nd.path/\nd.path.length<=1048576)) (k:Nat) (nd:aD) (hk:Hid (D.ns[k]?=some nd)) (id:Int) (hid:0<=id/\id<18446744073709551616) (C:Int) (eC:Hid (Sc D nd id=C)) :
  Calls prog 268 #[.agg #[.U id,.string (aC nd.path)],.pointer (some ⟨b,0,none⟩)] w fun r w'=>r=.returned (vJ C)/\Bw w w':=by
 obtain ⟨ad5,jR⟩:=aa fI nd (aF (aa hk));obtain ⟨g,hh,uu,V0,hg,jT,jX,gl,-,ul,g0,hW⟩:=h.AO hk jR;obtain ⟨X,hX,bX,zX,CX,-⟩:=aj w #[.U id,.string (aC nd.path)] 204;have HW:=ae hW;have HBY:=ae ad5;have e:=aa eC;unfold Sc at e;rw [zG] at e;obtain ⟨L,eL⟩:=aL (oC D.ns nd.path);rw [aa eL] at e;obtain ⟨m,em⟩:=aH L.length;have E:=ae e;have EM:=ae em;clear hW ad5 e em;go_enter func268,ntmps268;go_wp2_with fail;rw [<-hX];refine (sK X b bs bn D SB NB HB UB (ae (h.below bX)) uV fI nd.path HBY L eL).mono ?_;rintro r w1 ⟨p,c,rfl,-,bq⟩;rw [aa EM];have CW:=CX.aS (w':=w1) (bq.block _ (by omega));have B1:=ae (ah bX bq);clear CX hX bq;by_cases h0:m=0;{
 subst h0;have hL:L=[]:=List.length_eq_zero_iff.1 EM;have e2:(if jH nd id=false then 9 else 0)=C:=by have:=aa E;rw [hL] at this;simpa using this
 have E2:=ae e2;clear e2 hL;go_wp2_with fail;refine de 11 (by kernel_rfl) (fun W eW=>?_);have bW:Bw w W:=by rw [eW];exact B1.drew
 obtain ⟨k5,kl,kN,kb⟩:=aa HW W bW;have c0:W.cell? ⟨w.heap.size,0,none⟩=some (.U id):=by rw [eW];exact CW.1 0 _ rfl
 have c1:W.cell? ⟨w.heap.size,1,none⟩=some (.string (aC nd.path)):=by rw [eW];exact CW.1 1 _ rfl
 have KN:=ae kN;clear eW kb CW kN;simp only [List.take_succ_cons,List.take_zero,List.drop_succ_cons,List.drop_zero]
 repeat still_step
 refine wpStill_nil ?_;obtain ⟨B,eB⟩:=aL (jH nd id);go_wp2_with fail;refine (Je W g hh uu nd KN id hid B eB).mono ?_;rintro r w5 ⟨rfl,ew⟩;have mZ:=ae (ah bW ew);have e:=aa E2;rw [aa eB] at e;clear ew c0 c1 k5 kl;cases B;{
 have e':C=9:=by rw [<-e];rfl
 subst e';go_wp2;go_ret;exact ⟨rfl,mZ⟩};{
 have e':C=0:=by rw [<-e];rfl
 subst e';go_wp2;go_ret;exact ⟨rfl,mZ⟩}};{
 have WJ:=ja 0 m;have e':C=8:=by have:=aa E;rw [if_pos (fun e=>h0 (by rw [<-aa EM];simpa using e))] at this;exact this.symm
 subst e';go_wp2;go_ret;exact ⟨rfl,B1⟩}
def KM (nd:aD) (id:Int):Int:=if nd.mode=1/\nd.holders.contains id=false then 9 else 0
theorem UZ (w:World) (b bs bn:Nat) (D:SD) (SB NB HB UB:List Nat) (h:Hid (PS w0 w b bs bn D SB NB HB UB)) (k:Nat) (nd:aD) (hk:Hid (D.ns[k]?=some nd)) (jR:nd.path.length<=1048576) (id:Int) (hid:0<=id/\id<18446744073709551616) (V:Value) (pv:Option Addr) (nv cv:Nat) (C:Int) (eC:Hid (KM nd id=C)) :
  Calls prog 272 #[.agg #[.U id,.string (aC nd.path),.S pv nv cv],.pointer (some ⟨b,0,none⟩)] w fun r w'=>r=.returned (vJ C)/\Bw w w':=by
 obtain ⟨g,hh,uu,V0,hg,jT,jX,gl,-,ul,g0,hW⟩:=h.AO hk jR;obtain ⟨X,hX,bX,zX,CX,-⟩:=aj w #[.U id,.string (aC nd.path),.S pv nv cv] 208;have HW:=ae hW;clear hW;go_enter func272,ntmps272;go_wp2_with fail;rw [<-hX];refine fx (by kernel_rfl) (fun W eW=>?_);have bW:Bw w W:=by rw [eW];exact bX.drew
 obtain ⟨k5,kl,kN,kb⟩:=aa HW W bW;have c0:W.cell? ⟨w.heap.size,0,none⟩=some (.U id):=by rw [eW];exact CX.1 0 _ rfl
 have c1:W.cell? ⟨w.heap.size,1,none⟩=some (.string (aC nd.path)):=by rw [eW];exact CX.1 1 _ rfl
 have KN:=ae kN;have g2:=ay kb 2;clear hX eW kb CX kN
 repeat still_step
 refine wpStill_nil ?_;have e:=aa eC;unfold KM at e;by_cases hm:nd.mode=1;{
 have To:(nd.mode==1)=true:=by simp [hm]
 obtain ⟨B,eB⟩:=aL (nd.holders.contains id);rw [aa eB] at e;have E:=ae (by simpa [hm] using e:(if B=false then 9 else 0)=C);clear hm e;go_wp2_with fail;refine (fV W g hh uu nd KN id hid B eB).mono ?_;rintro r w5 ⟨rfl,ew⟩;have mZ:=ae (ah bW ew);clear ew c0 c1 k5 kl g2;have e:=aa E;cases B;{
 have e':C=9:=by rw [<-e];rfl
 subst e';go_wp2;go_ret;exact ⟨rfl,mZ⟩};{
 have e':C=0:=by rw [<-e];rfl
 subst e';go_wp2;go_ret;exact ⟨rfl,mZ⟩}};{
 have To:(nd.mode==1)=false:=by simp [hm]
 have e':C=0:=by rw [<-e];simp [hm]
 subst e';clear hm e;go_wp2;go_ret;exact ⟨rfl,bW⟩}
def jV (D:SD) (nd:aD) (id F:Int):Int:=if nd.holders.contains id then 9 else if F=2 then (if nd.mode=1 then 9 else 0) else if nd.mode≠0 then 9 else if 4611686018427387904<=D.g then 12 else 0
theorem QG (w:World) (b bs bn:Nat) (D:SD) (SB NB HB UB:List Nat) (h:Hid (PS w0 w b bs bn D SB NB HB UB)) (k:Nat) (nd:aD) (hk:Hid (D.ns[k]?=some nd)) (jR:nd.path.length<=1048576) (id:Int) (hid:0<=id/\id<18446744073709551616) (F:Int) (hF:F=1\/F=2) (C:Int) (eC:Hid (jV D nd id F=C)) :
  Calls prog 274 #[.agg #[.U id,.string (aC nd.path),.I F],.pointer (some ⟨b,0,none⟩)] w fun r w'=>r=.returned (vJ C)/\Bw w w':=by
 obtain ⟨g,hh,uu,V0,hg,jT,jX,gl,-,ul,g0,hW⟩:=h.AO hk jR;obtain ⟨X,hX,bX,zX,CX,-⟩:=aj w #[.U id,.string (aC nd.path),.I F] 210;have HW:=ae hW;clear hW;have HF:=ae hF;clear hF;go_enter func274,ntmps274;go_wp2_with fail;rw [<-hX];refine fx (by kernel_rfl) (fun W eW=>?_);have bW:Bw w W:=by rw [eW];exact bX.drew
 obtain ⟨k5,kl,kN,kb⟩:=aa HW W bW;obtain ⟨-,kg,-⟩:=(h.below bW).dC;have c0:W.cell? ⟨w.heap.size,0,none⟩=some (.U id):=by rw [eW];exact CX.1 0 _ rfl
 have c1:W.cell? ⟨w.heap.size,1,none⟩=some (.string (aC nd.path)):=by rw [eW];exact CX.1 1 _ rfl
 have c2:W.cell? ⟨w.heap.size,2,none⟩=some (.I F):=by rw [eW];exact CX.1 2 _ rfl
 have KN:=ae kN;have g2:=ay kb 2;clear hX eW kb CX kN
 repeat still_step
 refine wpStill_nil ?_;rcases aa HF with e1 | e1;{
 subst e1;by_cases hm:nd.mode=0;{
 have HM:=ae hm;have m1:(nd.mode==1)=false:=by simp [hm]
 have m0:(nd.mode != 0)=false:=by simp [hm]
 clear hm;obtain ⟨B,eB⟩:=aL (nd.holders.contains id);go_wp2_with fail;refine (fV W g hh uu nd KN id hid B eB).mono ?_;rintro r w5 ⟨rfl,ew⟩;have d2:=af c2 ew;have d1:=af kg ew;have mZ:=ae (ah bW ew);have e:=aa eC;unfold jV at e;rw [aa eB] at e;clear ew c0 c1 c2 k5 kl g2 kg;cases B;{
 by_cases hx:4611686018427387904<=D.g;{
 have LO:decide (4611686018427387904<=D.g)=true:=by simpa using hx
 have e':C=12:=by rw [<-e];simp [aa HM,hx]
 subst e';clear e hx;go_wp2;go_ret;exact ⟨rfl,mZ⟩};{
 have LO:decide (4611686018427387904<=D.g)=false:=by simpa using hx
 have e':C=0:=by rw [<-e];simp [aa HM,hx]
 subst e';clear e hx;go_wp2;go_ret;exact ⟨rfl,mZ⟩}};{
 have e':C=9:=by rw [<-e];simp
 subst e';clear e;go_wp2;go_ret;exact ⟨rfl,mZ⟩}};{
 have HM:=ae hm;by_cases sj:nd.mode=1;{
 have m1:(nd.mode==1)=true:=by simp [sj]
 clear hm sj;obtain ⟨B,eB⟩:=aL (nd.holders.contains id);go_wp2_with fail;refine (fV W g hh uu nd KN id hid B eB).mono ?_;rintro r w5 ⟨rfl,ew⟩;have d2:=af c2 ew;have d1:=af kg ew;have mZ:=ae (ah bW ew);have e:=aa eC;unfold jV at e;rw [aa eB] at e;clear ew c0 c1 c2 k5 kl g2 kg;cases B;{
 have e':C=9:=by rw [<-e];simp [aa HM]
 subst e';clear e;go_wp2;go_ret;exact ⟨rfl,mZ⟩};{
 have e':C=9:=by rw [<-e];simp
 subst e';clear e;go_wp2;go_ret;exact ⟨rfl,mZ⟩}};{
 have m1:(nd.mode==1)=false:=by simp [sj]
 have m0:(nd.mode != 0)=true:=by simp [hm]
 clear hm sj;obtain ⟨B,eB⟩:=aL (nd.holders.contains id);go_wp2_with fail;refine (fV W g hh uu nd KN id hid B eB).mono ?_;rintro r w5 ⟨rfl,ew⟩;have d2:=af c2 ew;have d1:=af kg ew;have mZ:=ae (ah bW ew);have e:=aa eC;unfold jV at e;rw [aa eB] at e;clear ew c0 c1 c2 k5 kl g2 kg;cases B;{
 have e':C=9:=by rw [<-e];simp [aa HM]
 subst e';clear e;go_wp2;go_ret;exact ⟨rfl,mZ⟩};{
 have e':C=9:=by rw [<-e];simp
 subst e';clear e;go_wp2;go_ret;exact ⟨rfl,mZ⟩}}}};{
 subst e1;by_cases hm:nd.mode=1;{
 have HM:=ae hm;have m1:(nd.mode==1)=true:=by simp [hm]
 clear hm;obtain ⟨B,eB⟩:=aL (nd.holders.contains id);go_wp2_with fail;refine (fV W g hh uu nd KN id hid B eB).mono ?_;rintro r w5 ⟨rfl,ew⟩;have d2:=af c2 ew;have d1:=af kg ew;have mZ:=ae (ah bW ew);have e:=aa eC;unfold jV at e;rw [aa eB] at e;clear ew c0 c1 c2 k5 kl g2 kg;cases B;{
 have e':C=9:=by rw [<-e];simp [aa HM]
 subst e';clear e;go_wp2;go_ret;exact ⟨rfl,mZ⟩};{
 have e':C=9:=by rw [<-e];simp
 subst e';clear e;go_wp2;go_ret;exact ⟨rfl,mZ⟩}};{
 have HM:=ae hm;have m1:(nd.mode==1)=false:=by simp [hm]
 clear hm;obtain ⟨B,eB⟩:=aL (nd.holders.contains id);go_wp2_with fail;refine (fV W g hh uu nd KN id hid B eB).mono ?_;rintro r w5 ⟨rfl,ew⟩;have d2:=af c2 ew;have d1:=af kg ew;have mZ:=ae (ah bW ew);have e:=aa eC;unfold jV at e;rw [aa eB] at e;clear ew c0 c1 c2 k5 kl g2 kg;cases B;{
 have e':C=0:=by rw [<-e];simp [aa HM]
 subst e';clear e;go_wp2;go_ret;exact ⟨rfl,mZ⟩};{
 have e':C=9:=by rw [<-e];simp
 subst e';clear e;go_wp2;go_ret;exact ⟨rfl,mZ⟩}}}
theorem iY (w:World) (cs:Array Value) (ty:TypeId):∃ X Y,X=w.alloc (.cells cs ty)/\Y=X.alloc (.cells #[.I 0,.U 0,.U 0,.U 0,.I 0,.S none 0 0,.S none 0 0,.S none 0 0] 41)/\Bw w Y/\X.heap.size=w.heap.size+1/\Y.heap.size=w.heap.size+2/\Y.heap[w.heap.size]?=some (.cells cs ty)/\RX Y (w.heap.size+1) [.I 0,.U 0,.U 0,.U 0,.I 0,.S none 0 0,.S none 0 0,.S none 0 0]:=by
 obtain ⟨X,hX,bX,zX,-,gX⟩:=aj w cs ty;obtain ⟨Y,hY,bY,zY,RY⟩:=gw X (.I 0) (.U 0) (.U 0) (.U 0) (.I 0) (.S none 0 0) (.S none 0 0) (.S none 0 0);rw [zX] at RY;exact ⟨X,Y,hX,hY,ah bX bY,zX,by omega,(bY.block _ (by omega)).trans gX,RY⟩
theorem Lx (w:World) (b bs bn:Nat) (D:SD) (SB NB HB UB:List Nat) (h:Hid (PS w0 w b bs bn D SB NB HB UB)) (k:Nat) (nd:aD) (hk:Hid (D.ns[k]?=some nd)) (jR:nd.path.length<=1048576) (uV:Hid (nd.holders.Pairwise (·<·))) (Tp:Hid (nd.holders.length<=1048576)) (id:Int) (hid:0<=id/\id<18446744073709551616) (he:Hid (nd.aB=0/\nd.gen=0)) :
  Calls prog 273 #[.agg #[.U id,.string (aC nd.path),.I 2],.pointer (some ⟨b,0,none⟩)] w (jU w0 w b bs bn { D with ns:=D.ns.set k { nd with mode:=2,holders:=ig nd.holders id } } SB NB HB UB rp0):=by
 obtain ⟨g,hh,uu,V0,hg,jT,jX,gl,-,-,g0,hW⟩:=h.AO hk jR;obtain ⟨X,Y,hX,hY,bY,zX,zY,BX,RY⟩:=iY w #[.U id,.string (aC nd.path),.I 2] 210;have HW:=ae hW;have OM:=ae BX;have BO:=ae RY;have IX:=ae (ag hg (ag jT jX));have sU:=h.be.size;clear hW BX RY hg jT jX;have df:=keyOf_int_mk underlying23 (jO hid);go_enter func273,ntmps273;go_wp2_with fail;rw [<-hX,<-hY];refine fx (by kernel_rfl) (fun W eW=>?_);have nR:=dG eW;obtain ⟨k5,kl,kN,kb⟩:=aa HW W (ah bY nR);have FW:=ae (Fr.below (T:=T3) nR);have bx:=FW.2 _ _ _ _ (by decide) OM;have c1:=ay bx 1;have c2:=ay bx 2;have g2:=ay kb 2;have gf:∀ o,W.frozen? ⟨g,o,none⟩=false:=fun o=>by simp [World.frozen?,kb]
 have PW:=ae (h.below (ah bY nR));obtain ⟨V',TF,cR,-⟩:=kN.cells;rw [kb] at cR;cases cR;have HV:=ae TF;have KB:=ae kb;clear hX hY eW kb kN bx TF nR
 repeat still_step
 refine wpStill_nil ?_;obtain ⟨Z,hZ⟩:=ax (W.setCell ⟨g,2,none⟩ (.I 2));have xj:Z.heap[g]?=some (.cells #[V0,.U nd.owner,.I 2,.map (some hh),.U nd.aB,.U nd.gen,.map (some uu)] 137):=by rw [hZ];simp [World.setCell,Array.getElem?_modify,aa KB]
 have bZ:Below g W Z:=by rw [hZ];exact aJ.setCell (p:=⟨g,2,none⟩) aA _
 have kZ:∀ z,z<W.heap.size->z≠g->Z.heap[z]?=W.heap[z]?:=fun z _ bL=>by rw [hZ];exact dF _ _ _ _ (show z≠_ from bL)
 have O:=One.Qw PW.be bZ (aa KB) g0 (by simp) kZ;have PZ:=ae (PW.Lo hk IX.1 IX.2.1 IX.2.2 O V0 nd.value nd.owner 2 nd.aB nd.gen xj (HV.fr O.fr));have FZ:=ae (FW.trans O.fr);clear bZ kZ O xj;go_wp2_with fail;rw [<-hZ];clear hZ c1 c2 g2 gf k5 kl KB HV PW FW;refine de 8 (by kernel_rfl) (fun W1 eW1=>?_);have Xl:=dG eW1;have XC:=ae (PZ.below Xl);have FW1:=ae (FZ.trans (Fr.below (T:=T3) Xl));have bx:=FW1.2 _ _ _ _ (by decide) OM;have c0:=ay bx 0;have nw:=aP hk { nd with mode:=2 }
 have kN:=XC.jC k _ g hh uu nw IX.1 IX.2.1 IX.2.2;obtain ⟨V1,-,-,-,-,-,n3,-⟩:=kN.cells;obtain ⟨M,n,o,hn,hs,hz⟩:=kN.Hn;have o':=dB o;rw [hz] at o';obtain ⟨Y2,cK,ho,sy⟩:=o'.update gR underlying84 (by have:=aa Tp;show nd.holders.length<_;unfold maxLen;omega) (val:=.agg #[]) df unitElem_mk;have O2:=One.Lk XC.be sy kN.lo.2.1 (ownsMap_at o');have SZ:=SM.put (w:=W1) hs o'.isMap uV (by have:=aa Tp;show nd.holders.length+1<=_;omega) ho;have Ii:=XC.Hn nw IX.1 IX.2.1 IX.2.2 O2 SZ;simp only [lh] at Ii;replace Ii:=ae Ii;have FY2:=ae (FW1.trans O2.fr);have yC:=ae (aP hk { nd with mode:=2,holders:=ig nd.holders id });have Ss:=FY2.2 _ _ _ _ (by decide) OM;have e2:=ay Ss 2;clear eW1 kN O2 SZ ho sy o o' hs hz bx Ss nw Xl;simp only [List.take_succ_cons,List.take_zero,List.drop_succ_cons,List.drop_zero]
 repeat still_step
 refine wpStill_nil ?_;go_wp2_with fail;clear cK c0 n3 e2;refine de 9 (by kernel_rfl) (fun W2 Uj=>?_);have Xm:=dG Uj;have Kc:=ae (Ii.below Xm);have PG:=FY2.trans (Fr.below (T:=T3) Xm);have XA:=BO.fr PG;have kN:=Kc.jC k _ g hh uu yC IX.1 IX.2.1 IX.2.2;obtain ⟨V1,-,-,-,-,-,-,n4,n5,-⟩:=kN.cells;simp only [he.1,he.2] at n4 n5;obtain ⟨r0,r1,r2,r3,r4,r5,r6,r7,rf⟩:=XA.cells;have FZ2:=ae ((Fr.below (T:=T3) bY).trans PG);have RZ2:=ae XA;clear Uj kN PG XA Xm;simp only [List.take_succ_cons,List.take_zero,List.drop_succ_cons,List.drop_zero]
 repeat still_step
 refine wpStill_nil ?_;go_wp2;exact gQ Kc FZ2 RZ2 sU (by kernel_rfl) rfl rfl rfl
theorem Ly (w:World) (b bs bn:Nat) (D:SD) (SB NB HB UB:List Nat) (h:Hid (PS w0 w b bs bn D SB NB HB UB)) (k:Nat) (nd:aD) (hk:Hid (D.ns[k]?=some nd)) (jR:nd.path.length<=1048576) (uV:Hid (nd.holders.Pairwise (·<·))) (Tp:Hid (nd.holders.length<=1048576)) (id:Int) (hid:0<=id/\id<18446744073709551616) (hgg:0<=D.g/\D.g<4611686018427387904) :
  Calls prog 273 #[.agg #[.U id,.string (aC nd.path),.I 1],.pointer (some ⟨b,0,none⟩)] w (jU w0 w b bs bn { D with g:=D.g+1,ns:=D.ns.set k { nd with mode:=1,holders:=ig nd.holders id,aB:=D.e,gen:=D.g+1 } } SB NB HB UB { rp0 with e:=D.e,g:=D.g+1 }):=by
 obtain ⟨g,hh,uu,V0,hg,jT,jX,gl,-,-,g0,hW⟩:=h.AO hk jR;obtain ⟨X,Y,hX,hY,bY,zX,zY,BX,RY⟩:=iY w #[.U id,.string (aC nd.path),.I 1] 210;have HW:=ae hW;have OM:=ae BX;have BO:=ae RY;have IX:=ae (ag hg (ag jT jX));have sU:=h.be.size;clear hW BX RY hg jT jX;have df:=keyOf_int_mk underlying23 (jO hid);go_enter func273,ntmps273;go_wp2_with fail;rw [<-hX,<-hY];refine fx (by kernel_rfl) (fun W eW=>?_);have nR:=dG eW;obtain ⟨k5,kl,kN,kb⟩:=aa HW W (ah bY nR);have FW:=ae (Fr.below (T:=T3) nR);have bx:=FW.2 _ _ _ _ (by decide) OM;have c1:=ay bx 1;have c2:=ay bx 2;have g2:=ay kb 2;have gf:∀ o,W.frozen? ⟨g,o,none⟩=false:=fun o=>by simp [World.frozen?,kb]
 have PW:=ae (h.below (ah bY nR));obtain ⟨V',TF,cR,-⟩:=kN.cells;rw [kb] at cR;cases cR;have HV:=ae TF;have KB:=ae kb;clear hX hY eW kb kN bx TF nR
 repeat still_step
 refine wpStill_nil ?_;obtain ⟨Z,hZ⟩:=ax (W.setCell ⟨g,2,none⟩ (.I 1));have xj:Z.heap[g]?=some (.cells #[V0,.U nd.owner,.I 1,.map (some hh),.U nd.aB,.U nd.gen,.map (some uu)] 137):=by rw [hZ];simp [World.setCell,Array.getElem?_modify,aa KB]
 have bZ:Below g W Z:=by rw [hZ];exact aJ.setCell (p:=⟨g,2,none⟩) aA _
 have kZ:∀ z,z<W.heap.size->z≠g->Z.heap[z]?=W.heap[z]?:=fun z _ bL=>by rw [hZ];exact dF _ _ _ _ (show z≠_ from bL)
 have O:=One.Qw PW.be bZ (aa KB) g0 (by simp) kZ;have PZ:=ae (PW.Lo hk IX.1 IX.2.1 IX.2.2 O V0 nd.value nd.owner 1 nd.aB nd.gen xj (HV.fr O.fr));have FZ:=ae (FW.trans O.fr);clear bZ kZ O xj;go_wp2_with fail;rw [<-hZ];clear hZ c1 c2 g2 gf k5 kl KB HV PW FW;refine de 8 (by kernel_rfl) (fun W1 eW1=>?_);have Xl:=dG eW1;have XC:=ae (PZ.below Xl);have FW1:=ae (FZ.trans (Fr.below (T:=T3) Xl));have bx:=FW1.2 _ _ _ _ (by decide) OM;have c0:=ay bx 0;have nw:=aP hk { nd with mode:=1 }
 have kN:=XC.jC k _ g hh uu nw IX.1 IX.2.1 IX.2.2;obtain ⟨V1,-,-,-,-,-,n3,-⟩:=kN.cells;obtain ⟨M,n,o,hn,hs,hz⟩:=kN.Hn;have o':=dB o;rw [hz] at o';obtain ⟨Y2,cK,ho,sy⟩:=o'.update gR underlying84 (by have:=aa Tp;show nd.holders.length<_;unfold maxLen;omega) (val:=.agg #[]) df unitElem_mk;have O2:=One.Lk XC.be sy kN.lo.2.1 (ownsMap_at o');have SZ:=SM.put (w:=W1) hs o'.isMap uV (by have:=aa Tp;show nd.holders.length+1<=_;omega) ho;have Ii:=XC.Hn nw IX.1 IX.2.1 IX.2.2 O2 SZ;simp only [lh] at Ii;replace Ii:=ae Ii;have FY2:=ae (FW1.trans O2.fr);have yC:=ae (aP hk { nd with mode:=1,holders:=ig nd.holders id });have Ss:=FY2.2 _ _ _ _ (by decide) OM;have e2:=ay Ss 2;clear eW1 kN O2 SZ ho sy o o' hs hz bx Ss nw Xl;simp only [List.take_succ_cons,List.take_zero,List.drop_succ_cons,List.drop_zero]
 repeat still_step
 refine wpStill_nil ?_;obtain ⟨q0,q1,q2,q3,q4,q5,qf⟩:=Ii.dC;obtain ⟨Z3,MI⟩:=ax (Y2.setCell ⟨b,1,none⟩ (.U (D.g+1)));have xj:Z3.heap[b]?=some (.cells #[.U D.e,.U (D.g+1),.U D.x,.I D.t,.map (some bs),.map (some bn)] 132):=by rw [MI];simp [World.setCell,Array.getElem?_modify,Ii.hd]
 have O3:=One.Qw Ii.be (by rw [MI];exact aJ.setCell (p:=⟨b,1,none⟩) aA _:Below b Y2 Z3) Ii.hd Ii.lo.1 (by simp) (fun z _ bL=>by rw [MI];exact dF _ _ _ _ (show z≠_ from bL));have P3:=ae (Ii.Ta O3 D.e (D.g+1) D.x D.t xj);have F3:=ae (FY2.trans O3.fr);clear xj O3;go_wp2_with fail;rw [<-MI];clear MI cK c0 n3 e2 q0 q1 q2 q3 q4 q5 qf;obtain ⟨vA,aX⟩:=ax Z3.drew;have bA:=dG aX;have PA:=ae (P3.below bA);have FA:=ae (F3.trans (Fr.below (T:=T3) bA));obtain ⟨q0,q1,-⟩:=PA.dC;have kN:=PA.jC k _ g hh uu yC IX.1 IX.2.1 IX.2.2;obtain ⟨V1,Hp,kb1,-,-,-,-,n4,n5,-,nf⟩:=kN.cells;have Pd:b≠g:=fun e=>by have:=PA.hd;rw [e,kb1] at this;simp at this
 have HKB:=ae (ag Hp kb1);clear bA kN Hp kb1;refine bO (fun w'=>w'.cell? ⟨b,0,none⟩=some (.U D.e)/\w'.cell? ⟨b,1,none⟩=some (.U (D.g+1))) (by rw [<-aX];exact ⟨q0,q1⟩) fun hS=>?_;rw [<-aX] at hS ⊢;clear aX;refine gy 0 1 2 3 4 5 6 7 hS ?_;refine gC 8 9 10 11 hS ?_;refine ry [12] ?_;refine cn (fun KK hK=>?_) ?_;rotate_left;exact AllReadyH.nil
 rotate_right
 go_simp;obtain ⟨Z4,hZ4⟩:=ax (vA.setCell ⟨g,4,none⟩ (.U D.e));have k4:∀ z,z≠g->Z4.heap[z]?=vA.heap[z]?:=fun z bL=>by rw [hZ4];exact dF _ _ _ _ (show z≠_ from bL)
 have b4:Below g vA Z4:=by rw [hZ4];exact aJ.setCell (p:=⟨g,4,none⟩) aA _
 have hz4:Z4.heap[g]?=some (.cells #[V1,.U nd.owner,.I 1,.map (some hh),.U D.e,.U nd.gen,.map (some uu)] 137):=by rw [hZ4];simp [World.setCell,Array.getElem?_modify,HKB.2]
 rw [<-hZ4];have p0:=(ai (k4 b Pd) 0).trans q0;have p1:=(ai (k4 b Pd) 1).trans q1;refine cg hK (by exact ⟨p0,p1⟩) fun hS=>?_;clear hK KK n4 n5 nf hZ4 q0 q1;refine fe 13 14 hS ?_;have m5:=ay hz4 5;have mf:∀ o,Z4.frozen? ⟨g,o,none⟩=false:=fun o=>by simp [World.frozen?,hz4]
 have H4:=ae (ag hz4 (ag k4 b4));clear hz4 k4 b4;refine ry [15] ?_;refine cn (fun KK hK=>?_) ?_;rotate_left;exact AllReadyH.nil
 rotate_right
 go_simp;obtain ⟨Z5,hZ5⟩:=ax (Z4.setCell ⟨g,5,none⟩ (.U (D.g+1)));have k5:∀ z,z≠g->Z5.heap[z]?=Z4.heap[z]?:=fun z bL=>by rw [hZ5];exact dF _ _ _ _ (show z≠_ from bL)
 have b5:Below g Z4 Z5:=by rw [hZ5];exact aJ.setCell (p:=⟨g,5,none⟩) aA _
 have hz5:Z5.heap[g]?=some (.cells #[V1,.U nd.owner,.I 1,.map (some hh),.U D.e,.U (D.g+1),.map (some uu)] 137):=by rw [hZ5];simp [World.setCell,Array.getElem?_modify,H4.1]
 rw [<-hZ5];have s0:=(ai (k5 b Pd) 0).trans p0;have s1:=(ai (k5 b Pd) 1).trans p1;have O5:=One.Qw PA.be (H4.2.2.trans b5) HKB.2 g0 (by simp) (fun z _ bL=>(k5 z bL).trans (H4.2.1 z bL));have P5:=PA.Lo yC IX.1 IX.2.1 IX.2.2 O5 V1 nd.value nd.owner 1 D.e (D.g+1) hz5 (HKB.1.fr O5.fr);simp only [lh] at P5;have PY3:=ae P5;have FY3:=ae (FA.trans O5.fr);have VV:=ae (aP hk { nd with mode:=1,holders:=ig nd.holders id,aB:=D.e,gen:=D.g+1 });refine cg hK (by exact ⟨s0,s1⟩) fun hS=>?_;clear hK KK hZ5 k5 b5 hz5 s0 s1 O5 P5 m5 mf p0 p1;refine bu ?_;clear hS;go_wp2_with fail;refine de 9 (by kernel_rfl) (fun W2 Uj=>?_);have Xm:=dG Uj;have Kc:=ae (PY3.below Xm);have PG:=FY3.trans (Fr.below (T:=T3) Xm);have XA:=BO.fr PG;have kN:=Kc.jC k _ g hh uu VV IX.1 IX.2.1 IX.2.2;obtain ⟨V2,-,-,-,-,-,-,n4,n5,-⟩:=kN.cells;obtain ⟨r0,r1,r2,r3,r4,r5,r6,r7,rf⟩:=XA.cells;have FZ2:=ae ((Fr.below (T:=T3) bY).trans PG);have RZ2:=ae XA;clear Uj kN PG XA Xm;simp only [List.take_succ_cons,List.take_zero,List.drop_succ_cons,List.drop_zero]
 repeat still_step
 refine wpStill_nil ?_;go_wp2;exact gQ Kc FZ2 RZ2 sU (by kernel_rfl) rfl rfl rfl
theorem PS.aX9 {SB NB HB UB:List Nat} (h:PS w0 w b bs bn D SB NB HB UB) {s:aY} (hE:PE w0 w gN s) (oH:gN∉SB) (hid:∀ s'∈D.ss,s'.1≠s.1) (O:One w0 w w' bs) (hl:D.ss.length<1048576)
  (hM:∀ M,w.ownsMap prog 23 aZ bs D.ss.length M->w'.ownsMap prog 23 aZ bs (D.ss.length+1) (M.put (.U s.1) (.lit (.I gN)))):PS w0 w' b bs bn { D with ss:=D.ss++[s] } (SB++[gN]) NB HB UB:=by
 obtain ⟨d0,d1,d2,d3,d4,d5⟩:=h.hu;obtain ⟨M,n,o,hn,m,hz⟩:=h.my;obtain ⟨es0,c0,m0⟩:=ownsMap_at o;have nc:∀ {y:Nat} {cs:Array Value} {ty:TypeId},w.heap[y]?=some (.cells cs ty)->y≠bs:=fun {y cs ty} hy e=>by rw [e,m0] at hy;cases hy
 have jS:∀ p∈List.zipWith (fun (s:aY) g=>(Lit.U s.1,g)) D.ss SB,p.1≠.U s.1:=fun p hp e=>by obtain ⟨i,s',y,h1,-,rfl⟩:=gM hp;exact hid s' (aF h1) (by simpa using e)
 have o':=dB o;rw [hz] at o';refine ⟨h.be.trans O.b,O.obj h.hd (nc h.hd),by simp [h.mF],⟨_,_,hM M o',by omega,?_,?_⟩,fun j s1 g1 gx fO=>?_,?_,h.nE,h.hlen,h.oe,?_,fun j iR gb h1 u1 gx fO uz ur=>?_,h.Lp,h.lo,h.BF⟩;{rw [List.zipWith_append h.mF.symm];exact m.put o.isMap (k:=.U s.1) trivial jS gN};{
 have hh:Maps.has M (.U s.1)=false:=by rw [Bool.eq_false_iff];intro e;obtain ⟨p,hp,e2⟩:=(m.hs _).1 e;exact jS p hp e2
 rw [size_put (jZ o gR),hh];simp [hz]};{
 have bj:j<D.ss.length\/j=D.ss.length:=by have:=(aN.1 gx).1;simp at this;omega
 rcases bj with bj | rfl;{simp only [List.getElem?_append_left bj] at gx;rw [List.getElem?_append_left (by rw [h.mF];exact bj)] at fO;have q:=h.mH j s1 g1 gx fO;obtain ⟨-,u,h1,-⟩:=id q;exact q.aU O (nc h1)};{simp at gx;rw [<-h.mF] at fO;simp at fO;subst gx;subst fO;obtain ⟨-,u,h1,-⟩:=id hE;exact hE.aU O (nc h1)}};{rw [List.nodup_append];refine ⟨h.snd,by simp,fun a ha c hc=>?_⟩;simp at hc;subst hc;exact fun e=>oH (e▸ha)};{obtain ⟨M,n,o,r⟩:=h.jQ;exact ⟨M,n,O.map o (fun e=>d0 e.symm),r⟩};{have q:=h.jC j iR gb h1 u1 gx fO uz ur;obtain ⟨-,⟨V,q1,-⟩,p3,p4⟩:=id q;exact q.aU O (nc q1) (d1 _ (aF uz)).1 (d2 _ (aF ur)).1}
theorem Qt (w:World) (b bs bn:Nat) (D:SD) (SB NB HB UB:List Nat) (h:Hid (PS w0 w b bs bn D SB NB HB UB)) (hx:0<=D.x/\D.x<4611686018427387904) (ht:0<=D.t/\D.t<=1000000) (oH:Hid (∀ s'∈D.ss,s'.1≠D.x+1)) (hl:Hid (D.ss.length<1048576)) :
  Calls prog 253 #[.agg #[],.pointer (some ⟨b,0,none⟩)] w fun r w'=>∃ gN,jU w0 w b bs bn { D with x:=D.x+1,ss:=D.ss++[(D.x+1,D.t+10,[])] } (SB++[gN]) NB HB UB { rp0 with i:=D.x+1,n:=D.t+10 } r w':=by
 obtain ⟨X,Y,hX,hY,bY,zX,zY,BX,RY⟩:=iY w #[] 196;have BO:=ae RY;have sU:=h.be.size;obtain ⟨-,-,h2,-,-,-,hf⟩:=h.dC;have bl:b<w.heap.size:=aG h.hd;have k2:=fun (o1 o2:Obj)=>af h2 (((Below.refl w.heap.size w).alloc aA o1).alloc (by simp) o2);have kf:=fun (o1 o2:Obj) (o:Nat)=>((((Below.refl w.heap.size w).alloc aA o1).alloc (by simp) o2).frozen (p:=⟨b,o,none⟩) bl).trans (hf o);clear RY BX h2 hf bl;go_enter func253,ntmps253;go_wp2_with fail;rw [<-hX,<-hY];clear k2 kf;have PY:=ae (h.below bY);obtain ⟨Z,hZ⟩:=ax (Y.setCell ⟨b,2,none⟩ (.U (D.x+1)));rw [<-hZ];have xj:Z.heap[b]?=some (.cells #[.U D.e,.U D.g,.U (D.x+1),.I D.t,.map (some bs),.map (some bn)] 132):=by rw [hZ];simp [World.setCell,Array.getElem?_modify,PY.hd]
 have O:=One.Qw PY.be (by rw [hZ];exact aJ.setCell (p:=⟨b,2,none⟩) aA _:Below b Y Z) PY.hd PY.lo.1 (by simp) (fun z _ bL=>by rw [hZ];exact dF _ _ _ _ (show z≠_ from bL));have PZ:=ae (PY.Ta O D.e D.g (D.x+1) D.t xj);have FZ:=ae O.fr;clear xj O hZ PY hX hY;refine de 10 (by kernel_rfl) (fun W eW=>?_);have bW:=dG eW;have PW:=ae (PZ.below bW);have FW:=ae (FZ.trans (Fr.below (T:=T3) bW));obtain ⟨-,-,q2,q3,-⟩:=PW.dC;clear eW bW PZ FZ;simp only [List.take_succ_cons,List.take_zero,List.drop_succ_cons,List.drop_zero]
 repeat still_step
 refine wpStill_nil ?_;obtain ⟨V,hV,bV,zV,-,gV⟩:=aj W #[.U (D.x+1),.I (D.t+10),.S none 0 0] 35;go_wp2_with fail;rw [<-hV];clear hV q2 q3;have PV:=ae (PW.below bV);have FV:=ae (FW.trans (Fr.below (T:=T3) bV));obtain ⟨gN,eN⟩:=ax W.heap.size;rw [<-eN] at gV ⊢;have hnS:gN∉SB:=fun e=>by obtain ⟨i,hi⟩:=List.mem_iff_getElem?.1 e;obtain ⟨s',uS⟩:∃ s',D.ss[i]?=some s':=⟨_,aK (by have:=PW.mF;simp only at this;rw [<-this];exact (aN.1 hi).1)⟩;obtain ⟨-,u,hu,-⟩:=PW.mH i s' gN uS hi;have:=aG hu;omega
 have glo:w0.heap.size<=gN:=by have:=PW.be.size;omega
 have HN:=ae (ag hnS glo);have GV:=ae gV;clear hnS eN PW FW gV;refine de 9 (by kernel_rfl) (fun W2 Uj=>?_);have bV2:=dG Uj;have Kc:=ae (PV.below bV2);have PG:=ae (FV.trans (Fr.below (T:=T3) bV2));obtain ⟨-,-,-,-,q4,-⟩:=Kc.dC;have gW2:=(bV2.block gN (aG GV)).trans GV;have g0:=ay gW2 0;have df:=keyOf_int_mk underlying23 (jO (i:=D.x+1) (by omega));obtain ⟨M,n,o,hn,m,hz⟩:=Kc.my;have o':=dB o;rw [hz] at o';obtain ⟨U,cK,ho,sy⟩:=o'.update gR underlying129 (by have:=aa hl;show D.ss.length<_;unfold maxLen;omega) df (ji gN);have O2:=One.Lk Kc.be sy Kc.lo.2.1 (ownsMap_at o');have PU:=ae (Kc.aX9 (s:=(D.x+1,D.t+10,[])) (gN:=gN) ⟨HN.2,_,gW2,AQ.nil _ _⟩ HN.1 oH O2 hl (fun M' o1=>by obtain ⟨U',uv,JZ,-⟩:=o1.update gR underlying129 (by have:=aa hl;show D.ss.length<_;unfold maxLen;omega) df (ji gN);rw [cK] at uv;cases uv;exact JZ))
 have FU:=ae (PG.trans O2.fr);have bL:gN≠bs:=fun e=>by obtain ⟨es,c,hm⟩:=ownsMap_at o;rw [<-e,gW2] at hm;cases hm
 have GU:=ae (O2.obj gW2 bL);clear Uj bV2 gW2 o o' m hz ho sy O2 PV FV bL;simp only [List.take_succ_cons,List.take_zero,List.drop_succ_cons,List.drop_zero]
 repeat still_step
 refine wpStill_nil ?_;go_wp2_with fail;clear cK g0 q4 Kc PG;refine de 9 (by kernel_rfl) (fun W3 eW3=>?_);have bU:=dG eW3;have P3:=ae (PU.below bU);have F3:=FU.trans (Fr.below (T:=T3) bU);have gW3:=(bU.block gN (aG GU)).trans GU;have g0:=ay gW3 0;have g1:=ay gW3 1;have R3:=BO.fr F3;obtain ⟨r0,r1,r2,r3,r4,r5,r6,r7,rf⟩:=R3.cells;have F3':=ae ((Fr.below (T:=T3) bY).trans F3);have R3':=ae R3;clear eW3 bU gW3 R3 F3;simp only [List.take_succ_cons,List.take_zero,List.drop_succ_cons,List.drop_zero]
 repeat still_step
 refine wpStill_nil ?_;go_wp2;exact kT R3' (by kernel_rfl) rfl rfl ⟨gN,PS.rep P3 R3' (by omega) _ _ _ _ _ _ _ _,F3'.low ((aO _ (w.heap.size+1) _ _ _ _ _ _ _ _).mono (by omega)),rfl⟩
theorem Le (l:List Int):(dm l).length<=l.length+1:=by
 unfold dm;split;{simp};{rw [List.length_take];omega}
theorem QK (hl:P.length<=1048577):keyOf prog 9 (.string (aC P))=some (bN P):=by
 rw [WideMaps.keyOf_string_mk underlying9 (by rw [di];unfold maxLen;omega),kq]
theorem PS.Re {SB NB HB UB:List Nat} (h:PS w0 w b bs bn D SB NB HB UB) {i g:Nat} (hi:D.ns[i]?=some nd) (hg:NB[i]?=some g) (hl:nd.path.length<=1048577):(Instr.lookup 130 (.map (some bn)) (.string (aC nd.path)) true).run prog w=.ok (.tuple #[.pointer (some ⟨g,0,none⟩),.bool true]) w:=by
 obtain ⟨M,n,o,-,m,-⟩:=h.jQ;obtain ⟨v,ps,hr,hv⟩:=o.look_ok kM underlying130 (ke w) (zd:=.nil) (zp:=[]) rfl (QK hl);have hp:(bN nd.path,g)∈List.zipWith (fun (nd:aD) g=>(bN nd.path,g)) D.ns NB:=aF (i:=i) (by rw [List.getElem?_zipWith,hi,hg]);rw [m.at' _ hp] at hv;obtain rfl:=iB hv;rw [hr,(m.hs _).2 ⟨_,hp,rfl⟩]
theorem PS.Ha {SB NB HB UB:List Nat} (h:PS w0 w b bs bn D SB NB HB UB) (jS:fE D.ns P=none) (hB:bM P) (rh:∀ nd∈D.ns,bM nd.path) (hl:P.length<=1048577):(Instr.lookup 130 (.map (some bn)) (.string (aC P)) true).run prog w=.ok (.tuple #[.pointer none,.bool false]) w:=by
 obtain ⟨M,n,o,-,m,-⟩:=h.jQ;obtain ⟨v,ps,hr,hv⟩:=o.look_ok kM underlying130 (ke w) (zd:=.nil) (zp:=[]) rfl (QK hl);have hh:Maps.has M (bN P)=false:=by rw [Bool.eq_false_iff];intro e;obtain ⟨p,hp,e2⟩:=(m.hs _).1 e;obtain ⟨i,nd,y,hx,hy,rfl⟩:=gM hp;exact zE jS nd (aF hx) (jD (rh nd (aF hx)) hB e2)
 rw [Maps.atKey_of_not_has hh] at hv;obtain rfl:=ox hv;rw [hr,hh]
theorem JD (w:World) (b bs bn:Nat) (D:SD) (SB NB HB UB:List Nat) (h:Hid (PS w0 w b bs bn D SB NB HB UB)) (l:List Int) (hB:Hid (bM l)) (rh:Hid (∀ nd∈D.ns,bM nd.path)) (hl:l.length<=1048577) (B:Bool) (eB:Hid (dw D.ns l=B)) :
  Calls prog 121 #[.pointer (some ⟨b,0,none⟩),.string (aC l)] w fun r w'=>r=.returned (.bool B)/\Bw w w':=by
 obtain ⟨-,-,-,-,-,Pb,-⟩:=h.dC;have iU:((aC l).toList==(aC [47]).toList)=decide (l=[47]):=sL (aa hB) (by intro y hy;simp at hy;omega);rw [show (aC [47]).toList=[47] from dR [47]] at iU;by_cases kL:l=[47];{
 have eT:B=true:=by rw [<-aa eB,dw,if_pos kL]
 subst eT;have hr:((aC l).toList==[47])=true:=by rw [iU];simp [kL]
 obtain ⟨s,es⟩:=ax (aC l);rw [<-es] at hr ⊢;clear iU kL es;go_enter func121,ntmps121;go_wp2;go_ret;exact ⟨rfl,Below.refl _ _⟩};{
 have hr:((aC l).toList==[47])=false:=by rw [iU];simp [kL]
 have jL:(match fE D.ns l with | some nd=>nd.owner==0 | none=>false)=B:=by rw [<-aa eB,dw,if_neg kL];rfl
 clear iU kL;cases hF:fE D.ns l with
 | none=>
  rw [hF] at jL;have eF:B=false:=jL.symm;subst eF;have cK:=h.Ha hF hB rh hl;obtain ⟨s,es⟩:=ax (aC l);rw [<-es] at hr cK ⊢;clear hF jL es;go_enter func121,ntmps121;go_wp2;go_ret;exact ⟨rfl,Below.refl _ _⟩
 | some nd=>
  rw [hF] at jL;replace jL:(nd.owner==0)=B:=jL;obtain ⟨rfl,i,hi⟩:=mg hF;obtain ⟨g1,h1,u1,q1,q2,q3,hN⟩:=h.nat hi;have cK:=h.Re hi q1 hl;obtain ⟨V,-,-,-,hcO,-⟩:=hN.cells;obtain ⟨ow,eow⟩:=aH nd.owner;rw [eow] at hcO jL;obtain ⟨s,es⟩:=ax (aC nd.path);rw [<-es] at hr cK ⊢;clear hF hi q1 q2 q3 hN eow es;go_enter func121,ntmps121;go_wp2;go_ret;exact ⟨by rw [<-jL];rfl,Below.refl _ _⟩}
def BG (D:SD) (P:List Int):Int:=if (fE D.ns P).isSome then 6 else if dw D.ns (dm P)=false then 7 else if 200<=D.ns.length then 11 else 0
theorem Jt (w:World) (b bs bn:Nat) (D:SD) (SB NB HB UB:List Nat) (h:Hid (PS w0 w b bs bn D SB NB HB UB)) (P:List Int) (hB:Hid (bM P)) (np:Nat) (Ai:Hid (P.length=np)) (jR:np<=1048576) (rh:Hid (∀ nd∈D.ns,bM nd.path)) (id:Int) (F:Bool) (pv:Option Addr) (nv cv:Nat) (C:Int) (eC:Hid (BG D P=C)) :
  Calls prog 266 #[.agg #[.U id,.string (aC P),.bool F,.S pv nv cv],.pointer (some ⟨b,0,none⟩)] w fun r w'=>r=.returned (vJ C)/\Bw w w':=by
 obtain ⟨X,hX,bX,zX,CX,-⟩:=aj w #[.U id,.string (aC P),.bool F,.S pv nv cv] 202;have e:=aa eC;unfold BG at e;go_enter func266,ntmps266;go_wp2_with fail;rw [<-hX];refine fx (by kernel_rfl) (fun W eW=>?_);have bW:Bw w W:=by rw [eW];exact bX.drew
 have PW:=ae (h.below bW);obtain ⟨-,-,-,-,-,k5,-⟩:=PW.dC;have CW:=CX.aS (w':=W) (by rw [eW];rfl);have c1:=CW.1 1 _ rfl;have zW:w.heap.size<W.heap.size:=by rw [eW];show _<X.heap.size;omega
 have HCW:=ae CW;clear hX eW CX CW;cases hF:fE D.ns P with
 | some nd=>
  rw [hF] at e;obtain ⟨rfl,i,hi⟩:=mg hF;obtain ⟨g1,h1,u1,q1,-,-,hN⟩:=PW.nat hi;have cK:=PW.Re hi q1 (by rw [aa Ai];omega);have e':C=6:=by rw [<-e];rfl
  subst e';clear e hF hi q1 hN
  repeat still_step
  refine wpStill_nil ?_;go_wp2;go_ret;exact ⟨rfl,bW⟩
 | none=>
  rw [hF] at e;have cK:=PW.Ha hF (aa hB) (aa rh) (by rw [aa Ai];omega);have E:=ae e;clear e hF
  repeat still_step
  refine wpStill_nil ?_;go_wp2_with fail;refine (mJ P np Ai hB jR W).mono ?_;rintro r w2 ⟨rfl,rfl⟩;obtain ⟨B,eB⟩:=aL (dw D.ns (dm P));have aa9:(dm P).length<=1048577:=by have:=Le P;have:=aa Ai;omega
  go_wp2_with fail;refine (JD w2 b bs bn D SB NB HB UB PW (dm P) (ae (mc hB)) rh aa9 B eB).mono ?_;rintro r w5 ⟨rfl,ew⟩;have e:=aa E;rw [aa eB] at e;have mZ:=ae (ah bW ew);have P5:=ae (PW.below ew);clear cK c1 k5 aa9 ew;cases B with
  | false=>
   have e':C=7:=by rw [<-e];simp
   subst e';clear e;go_wp2;go_ret;exact ⟨rfl,mZ⟩
  | true=>
   obtain ⟨-,-,-,-,-,k5,-⟩:=P5.dC;obtain ⟨M,n,o,hn,m,hz⟩:=P5.jQ;have hlen:=o.len underlying130 3;rw [hz] at hlen;obtain ⟨nl,je⟩:=aH D.ns.length;rw [je] at hlen e;clear o m hz je;by_cases h2:200<=nl;{
 have h2':=dE 200 nl;have e':C=11:=by rw [<-e];simp [h2]
 subst e';clear e;go_wp2;go_ret;exact ⟨rfl,mZ⟩};{
 have h2':¬ (200:Int)<=(nl:Int):=by omega
 have e':C=0:=by rw [<-e];simp [h2]
 subst e';clear e;go_wp2;go_ret;exact ⟨rfl,mZ⟩}
def fW {α:Type} (j:Nat) (a:α) (l:List α):List α:=l.take j++a::l.drop j
theorem jr {α:Type} {a:α} {l:List α} (hj:j<=l.length):(fW j a l).length=l.length+1:=by
 unfold fW;simp;omega
theorem mP {α:Type} (j:Nat) (a:α) (l:List α):(fW j a l).Perm (a::l):=by
 unfold fW;refine List.perm_middle.trans ?_;rw [List.take_append_drop]
theorem py {α:Type} {a:α} {l:List α} (hj:j<=l.length) (i:Nat):(fW j a l)[i]?=if i<j then l[i]? else if i=j then some a else l[i-1]?:=by
 unfold fW;by_cases h1:i<j;{rw [if_pos h1,List.getElem?_append_left (by rw [List.length_take];omega),List.getElem?_take,if_pos h1]};{rw [if_neg h1,List.getElem?_append_right (by rw [List.length_take];omega),List.length_take,Nat.min_eq_left hj];by_cases h2:i=j;{subst h2;simp};{rw [if_neg h2];obtain ⟨d,rfl⟩:∃ d,i=j+d+1:=⟨i-j-1,by omega⟩;rw [show j+d+1-j=d+1 by omega,List.getElem?_cons_succ,List.getElem?_drop];simp}}
theorem He (nd:aD):∀ l:List aD,∃ j,j<=l.length/\jq nd l=fW j nd l
 | []=>⟨0,by simp,by simp [jq,fW]⟩
 | x::r=>by rw [jq];split;{exact ⟨0,by simp,by simp [fW]⟩};{obtain ⟨j,hj,e⟩:=He nd r;refine ⟨j+1,by simp;omega,?_⟩;rw [e];simp [fW]}
theorem IT {α β γ:Type} (f:α->β->γ) {a:α} {c:β} {l:List α} {m:List β} (hl:l.length=m.length) (hj:j<=l.length):List.zipWith f (fW j a l) (fW j c m)=fW j (f a c) (List.zipWith f l m):=by
 unfold fW;rw [List.zipWith_append (by simp [hl]),List.zipWith_cons_cons,List.take_zipWith,List.drop_zipWith]
theorem PS.al5 {SB NB HB UB:List Nat} (h:PS w0 w b bs bn D SB NB HB UB) {hN uN:Nat} (hj:j<=D.ns.length) (hPN:PN w0 w gN hN uN nd) (hg:gN∉NB) (oH:∀ z∈bs::bn::(HB++UB),z≠hN/\z≠uN) (hNu:hN≠uN) (hid:∀ nd'∈D.ns,bN nd'.path≠bN nd.path) (O:One w0 w w' bn) (hl:D.ns.length<1048576)
  (hM:∀ M,w.ownsMap Tryz.prog 9 aZ bn D.ns.length M->w'.ownsMap Tryz.prog 9 aZ bn (D.ns.length+1) (M.put (bN nd.path) (.lit (.I gN)))):PS w0 w' b bs bn { D with ns:=fW j nd D.ns } SB (fW j gN NB) (fW j hN HB) (fW j uN UB):=by
 obtain ⟨d0,d1,d2,d3,d4,d5⟩:=h.hu;obtain ⟨M,n,o,hn,m,hz⟩:=h.jQ;obtain ⟨es0,c0,m0⟩:=ownsMap_at o;have nc:∀ {y:Nat} {cs:Array Value} {ty:TypeId},w.heap[y]?=some (.cells cs ty)->y≠bn:=fun {y cs ty} hy e=>by rw [e,m0] at hy;cases hy
 have jS:∀ p∈List.zipWith (fun (nd:aD) g=>(bN nd.path,g)) D.ns NB,p.1≠bN nd.path:=fun p hp e=>by obtain ⟨i,s',y,h1,-,rfl⟩:=gM hp;exact hid s' (aF h1) e
 have o':=dB o;rw [hz] at o';refine ⟨h.be.trans O.b,O.obj h.hd (nc h.hd),h.mF,?_,fun i s1 g1 gx fO=>?_,h.snd,?_,?_,?_,⟨_,_,hM M o',by omega,?_,?_⟩,fun i iR gb h1 u1 gx fO uz ur=>?_,?_,h.lo,?_⟩;{obtain ⟨M,n,o,r⟩:=h.my;exact ⟨M,n,O.map o d0,r⟩};{have q:=h.mH i s1 g1 gx fO;obtain ⟨-,u,h1,-⟩:=id q;exact q.aU O (nc h1)};{rw [jr (by rw [h.nE];exact hj),jr hj,h.nE]};{rw [jr (by rw [h.hlen];exact hj),jr hj,h.hlen]};{rw [jr (by rw [h.oe];exact hj),jr hj,h.oe]};{rw [IT _ h.nE.symm hj];refine (m.put o.isMap (k:=bN nd.path) trivial jS gN).same fun p=>?_;rw [(mP _ _ _).mem_iff];simp [or_comm]};{
 have hh:Maps.has M (bN nd.path)=false:=by rw [Bool.eq_false_iff];intro e;obtain ⟨p,hp,e2⟩:=(m.hs _).1 e;exact jS p hp e2
 rw [size_put (jZ o kM),hh,jr hj];simp [hz]};{
 simp only [py hj] at gx;rw [py (by rw [h.nE];exact hj)] at fO;rw [py (by rw [h.hlen];exact hj)] at uz;rw [py (by rw [h.oe];exact hj)] at ur;have kp:∀ {i':Nat},D.ns[i']?=some iR->NB[i']?=some gb->HB[i']?=some h1->UB[i']?=some u1->PN w0 w' gb h1 u1 iR:=fun a1 a2 a3 a4=>by have q:=h.jC _ iR gb h1 u1 a1 a2 a3 a4;obtain ⟨-,⟨V,q1,-⟩,p3,p4⟩:=id q;exact q.aU O (nc q1) (d1 _ (aF a3)).2 (d2 _ (aF a4)).2
 by_cases e1:i<j;{rw [if_pos e1] at gx fO uz ur;exact kp gx fO uz ur};{rw [if_neg e1] at gx fO uz ur;by_cases e2:i=j;{rw [if_pos e2] at gx fO uz ur;cases gx;cases fO;cases uz;cases ur;obtain ⟨-,⟨V,q1,-⟩,p3,p4⟩:=id hPN;exact hPN.aU O (nc q1) (fun e=>(oH bn (by simp)).1 e.symm) (fun e=>(oH bn (by simp)).2 e.symm)};{rw [if_neg e2] at gx fO uz ur;exact kp gx fO uz ur}}};{rw [(mP _ _ _).nodup_iff,List.nodup_cons];exact ⟨hg,h.Lp⟩};{
 have pm:(bs::bn::(fW j hN HB++fW j uN UB)).Perm (hN::uN::(bs::bn::(HB++UB))):=by
  have a1:(fW j hN HB++fW j uN UB).Perm (hN::uN::(HB++UB)):=
   ((mP j hN HB).append (mP j uN UB)).trans ((List.perm_middle (a:=uN) (l₁:=HB) (l₂:=UB)).cons hN)
  have a2:=(a1.cons bn).cons bs;have mv:∀ (x y:Nat) (l:List Nat),(x::bs::bn::y::l).Perm (x::y::bs::bn::l):=fun x y l=>(((List.Perm.swap y bn l).cons bs).trans (List.Perm.swap y bs (bn::l))).cons x;have a3:(bs::bn::hN::uN::(HB++UB)).Perm (hN::bs::bn::uN::(HB++UB)):=((List.Perm.swap hN bn (uN::(HB++UB))).cons bs).trans (List.Perm.swap hN bs _);exact (a2.trans a3).trans (mv hN uN _)
 rw [pm.nodup_iff,List.nodup_cons,List.nodup_cons];refine ⟨fun e=>?_,fun e=>(oH uN e).2 rfl,h.BF⟩;rcases List.mem_cons.1 e with e | e;{exact hNu e};{exact (oH hN e).1 rfl}}
end Go.Proofs.YtcfcafeciggjeaaGreatDoor
