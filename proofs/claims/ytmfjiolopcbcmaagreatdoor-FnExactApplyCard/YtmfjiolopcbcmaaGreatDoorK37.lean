import Derived.Test.YtmfjiolopcbcmaaGreatDoorK36
namespace Go.Proofs.YtmfjiolopcbcmaaGreatDoor
set_option maxHeartbeats 3200000
set_option linter.unusedVariables false
set_option linter.unusedSimpArgs false
set_option maxRecDepth 100000
open Go.ChangeShapes Go.WideShapes Go.ChangeAt Go.RowKit Go.Maps Go.Proofs.Tryz
variable {w0:World}
theorem JA (w:World) (b bs bn:Nat) (D:SD) (SB NB HB UB:List Nat) (h:Hid (PS w0 w b bs bn D SB NB HB UB)) (k:Nat) (nd:aA) (hk:Hid (D.ns[k]?=some nd)) (jy:nd.path.length<=1048576) (tv:Hid (nd.watchers.Pairwise (·<·))) (tX:Hid (nd.watchers.length<=1048576)) (id:Int) (hid:0<=id/\id<18446744073709551616) :
  Calls prog 262 #[.agg #[.int .u64 id,.string (aB nd.path)],.pointer (some ⟨b,0,none⟩)] w (jC w0 w b bs bn { D with ns:=D.ns.set k { nd with watchers:=mi nd.watchers id } } SB NB HB UB iQ):=by
 obtain ⟨g,hh,uu,V0,hg,je,jq,gl,-,ul,g0,hW⟩:=h.y9 hk jy;obtain ⟨X,Y,hX,hY,bY,zX,zY,CY,RY⟩:=rE w #[.int .u64 id,.string (aB nd.path)] 201;have HW:=ae hW;clear hW;have cD:=keyOf_int_mk underlying22 (jt hid);go_enter func262,ntmps262;go_wp2_with fail;rw [<-hX,<-hY];refine cK 15 (by kernel_rfl) (fun W eW=>?_);have bW:Below w.heap.size w W:=by rw [eW];exact bY.drew
 obtain ⟨k5,kl,kN,kb⟩:=aa HW W bW;have c0:W.cell? ⟨w.heap.size,0,none⟩=some (.int .u64 id):=by rw [eW];exact CY.1 0 _ rfl
 have c1:W.cell? ⟨w.heap.size,1,none⟩=some (.string (aB nd.path)):=by rw [eW];exact CY.1 1 _ rfl
 have RW:=RY.below (w':=W) (by rw [eW];exact ar.drew);have rN:=h.be.size;have PW:=ae (h.below bW);have g6:=aq kb 6;obtain ⟨M,n,o,hn,hs,hz⟩:=kN.G9;have o':=cY o;rw [hz] at o';obtain ⟨Z,bS,ho,ra⟩:=o'.update gp underlying109 (by have:=aa tX;unfold maxLen;omega) (val:=.agg #[]) cD unitElem_mk;have O:=One.J6 PW.be ra kN.lo.2.2 (ownsMap_at o');have SZ:=SM.put hs o'.isMap tv (by have:=aa tX;omega) ho;have PZ:=ae (PW.G9 hk hg je jq O SZ);have AJ:=RW.fr O.fr (by decide);obtain ⟨r0,r1,r2,r3,r4,r5,r6,r7,rf⟩:=AJ.cells;have FZ:=ae ((Fr.below (T:=T3) bW).trans O.fr);have RZ:=ae AJ;clear hX hY eW kb CY RY kN O SZ ho ra o o' hs hz AJ RW;simp only [List.take_succ_cons,List.take_zero,List.drop_succ_cons,List.drop_zero]
 repeat still_step
 refine wpStill_nil ?_;go_wp2;exact gm PZ FZ RZ rN (by kernel_rfl) rfl rfl rfl
theorem Ha (w:World) (b bs bn:Nat) (D:SD) (SB NB HB UB:List Nat) (h:Hid (PS w0 w b bs bn D SB NB HB UB)) (k:Nat) (nd:aA) (hk:Hid (D.ns[k]?=some nd)) (jy:nd.path.length<=1048576) (id:Int) (hid:0<=id/\id<18446744073709551616) (C:Int) (eC:Hid ((if nd.holders.contains id=true then 0 else 10)=C)) :
  Calls prog 260 #[.agg #[.int .u64 id,.string (aB nd.path)],.pointer (some ⟨b,0,none⟩)] w fun r w'=>r=.returned (uh C)/\Below w.heap.size w w':=by
 obtain ⟨g,hh,uu,V0,hg,je,jq,gl,-,ul,g0,hW⟩:=h.y9 hk jy;obtain ⟨X,hX,bX,zX,CX,-⟩:=au w #[.int .u64 id,.string (aB nd.path)] 197;have HW:=ae hW;clear hW;go_enter func260,ntmps260;go_wp2_with fail;rw [<-hX];refine cK 11 (by kernel_rfl) (fun W eW=>?_);have bW:Below w.heap.size w W:=by rw [eW];exact bX.drew
 obtain ⟨k5,kl,kN,kb⟩:=aa HW W bW;have c0:W.cell? ⟨w.heap.size,0,none⟩=some (.int .u64 id):=by rw [eW];exact CX.1 0 _ rfl
 have c1:W.cell? ⟨w.heap.size,1,none⟩=some (.string (aB nd.path)):=by rw [eW];exact CX.1 1 _ rfl
 have KN:=ae kN;clear hX eW kb CX kN;simp only [List.take_succ_cons,List.take_zero,List.drop_succ_cons,List.drop_zero]
 repeat still_step
 refine wpStill_nil ?_;obtain ⟨B,eB⟩:∃ B,Hid (nd.holders.contains id=B):=⟨_,ae rfl⟩;go_wp2_with fail;refine (fh W g hh uu nd KN id hid B eB).mono ?_;rintro r w1 ⟨rfl,aK⟩;have kK:=ae (ai bW aK);have e:=aa eC;rw [aa eB] at e;clear aK c0 c1 k5 kl;cases B;{
 have e':C=10:=by rw [<-e];rfl
 subst e';go_wp2;go_ret;exact ⟨rfl,kK⟩};{
 have e':C=0:=by rw [<-e];rfl
 subst e';go_wp2;go_ret;exact ⟨rfl,kK⟩}
def QI (D:SD) (nd:aA) (id:Int):Int:=if gw D.ns nd.path≠[] then 8 else if jh nd id=false then 9 else 0
theorem Iw (w:World) (b bs bn:Nat) (D:SD) (SB NB HB UB:List Nat) (h:Hid (PS w0 w b bs bn D SB NB HB UB)) (tv:Hid ((D.ns.map fun nd=>kI nd.path).Pairwise (·<·))) (du:Hid (∀ nd∈D.ns,cT nd.path/\nd.path.length<=1048576)) (k:Nat) (nd:aA) (hk:Hid (D.ns[k]?=some nd)) (id:Int) (hid:0<=id/\id<18446744073709551616) (C:Int) (eC:Hid (QI D nd id=C)) :
  Calls prog 252 #[.agg #[.int .u64 id,.string (aB nd.path)],.pointer (some ⟨b,0,none⟩)] w fun r w'=>r=.returned (uh C)/\Below w.heap.size w w':=by
 obtain ⟨Y7,jy⟩:=aa du nd (aL (aa hk));obtain ⟨g,hh,uu,V0,hg,je,jq,gl,-,ul,g0,hW⟩:=h.y9 hk jy;obtain ⟨X,hX,bX,zX,CX,-⟩:=au w #[.int .u64 id,.string (aB nd.path)] 190;have HW:=ae hW;have HBY:=ae Y7;have e:=aa eC;unfold QI at e;rw [xP] at e;obtain ⟨L,eL⟩:∃ L,Hid (nF D.ns nd.path=L):=⟨_,ae rfl⟩;rw [aa eL] at e;obtain ⟨m,em⟩:=aZ L.length;have E:=ae e;have EM:=ae em;clear hW Y7 e em;go_enter func252,ntmps252;go_wp2_with fail;rw [<-hX];refine (rC X b bs bn D SB NB HB UB (ae (h.below bX)) tv du nd.path HBY L eL).mono ?_;rintro r w1 ⟨p,c,rfl,-,aK⟩;rw [aa EM];have CW:=CX.bg (w':=w1) (aK.block _ (by omega));have B1:=ae (ai bX aK);clear CX hX aK;by_cases h0:m=0;{
 subst h0;have hL:L=[]:=List.length_eq_zero_iff.1 EM;have e2:(if jh nd id=false then 9 else 0)=C:=by have:=aa E;rw [hL] at this;simpa using this
 have E2:=ae e2;clear e2 hL;go_wp2_with fail;refine cK 11 (by kernel_rfl) (fun W eW=>?_);have bW:Below w.heap.size w W:=by rw [eW];exact B1.drew
 obtain ⟨k5,kl,kN,kb⟩:=aa HW W bW;have c0:W.cell? ⟨w.heap.size,0,none⟩=some (.int .u64 id):=by rw [eW];exact CW.1 0 _ rfl
 have c1:W.cell? ⟨w.heap.size,1,none⟩=some (.string (aB nd.path)):=by rw [eW];exact CW.1 1 _ rfl
 have KN:=ae kN;clear eW kb CW kN;simp only [List.take_succ_cons,List.take_zero,List.drop_succ_cons,List.drop_zero]
 repeat still_step
 refine wpStill_nil ?_;obtain ⟨B,eB⟩:∃ B,Hid (jh nd id=B):=⟨_,ae rfl⟩;go_wp2_with fail;refine (Ik W g hh uu nd KN id hid B eB).mono ?_;rintro r w5 ⟨rfl,dH⟩;have pB:=ae (ai bW dH);have e:=aa E2;rw [aa eB] at e;clear dH c0 c1 k5 kl;cases B;{
 have e':C=9:=by rw [<-e];rfl
 subst e';go_wp2;go_ret;exact ⟨rfl,pB⟩};{
 have e':C=0:=by rw [<-e];rfl
 subst e';go_wp2;go_ret;exact ⟨rfl,pB⟩}};{
 have h0':(0:Int)<(m:Int):=by omega
 have e':C=8:=by have:=aa E;rw [if_pos (fun e=>h0 (by rw [<-aa EM];simpa using e))] at this;exact this.symm
 subst e';go_wp2;go_ret;exact ⟨rfl,B1⟩}
def JL (nd:aA) (id:Int):Int:=if nd.mode=1/\nd.holders.contains id=false then 9 else 0
theorem TI (w:World) (b bs bn:Nat) (D:SD) (SB NB HB UB:List Nat) (h:Hid (PS w0 w b bs bn D SB NB HB UB)) (k:Nat) (nd:aA) (hk:Hid (D.ns[k]?=some nd)) (jy:nd.path.length<=1048576) (id:Int) (hid:0<=id/\id<18446744073709551616) (V:Value) (pv:Option Addr) (nv cv:Nat) (C:Int) (eC:Hid (JL nd id=C)) :
  Calls prog 256 #[.agg #[.int .u64 id,.string (aB nd.path),.slice pv nv cv],.pointer (some ⟨b,0,none⟩)] w fun r w'=>r=.returned (uh C)/\Below w.heap.size w w':=by
 obtain ⟨g,hh,uu,V0,hg,je,jq,gl,-,ul,g0,hW⟩:=h.y9 hk jy;obtain ⟨X,hX,bX,zX,CX,-⟩:=au w #[.int .u64 id,.string (aB nd.path),.slice pv nv cv] 194;have HW:=ae hW;clear hW;go_enter func256,ntmps256;go_wp2_with fail;rw [<-hX];refine dV (by kernel_rfl) (fun W eW=>?_);have bW:Below w.heap.size w W:=by rw [eW];exact bX.drew
 obtain ⟨k5,kl,kN,kb⟩:=aa HW W bW;have c0:W.cell? ⟨w.heap.size,0,none⟩=some (.int .u64 id):=by rw [eW];exact CX.1 0 _ rfl
 have c1:W.cell? ⟨w.heap.size,1,none⟩=some (.string (aB nd.path)):=by rw [eW];exact CX.1 1 _ rfl
 have KN:=ae kN;have g2:=aq kb 2;clear hX eW kb CX kN
 repeat still_step
 refine wpStill_nil ?_;have e:=aa eC;unfold JL at e;by_cases hm:nd.mode=1;{
 have R6:(nd.mode==1)=true:=by simp [hm]
 obtain ⟨B,eB⟩:∃ B,Hid (nd.holders.contains id=B):=⟨_,ae rfl⟩;rw [aa eB] at e;have E:=ae (by simpa [hm] using e:(if B=false then 9 else 0)=C);clear hm e;go_wp2_with fail;refine (fh W g hh uu nd KN id hid B eB).mono ?_;rintro r w5 ⟨rfl,dH⟩;have pB:=ae (ai bW dH);clear dH c0 c1 k5 kl g2;have e:=aa E;cases B;{
 have e':C=9:=by rw [<-e];rfl
 subst e';go_wp2;go_ret;exact ⟨rfl,pB⟩};{
 have e':C=0:=by rw [<-e];rfl
 subst e';go_wp2;go_ret;exact ⟨rfl,pB⟩}};{
 have R6:(nd.mode==1)=false:=by simp [hm]
 have e':C=0:=by rw [<-e];simp [hm]
 subst e';clear hm e;go_wp2;go_ret;exact ⟨rfl,bW⟩}
def jF (D:SD) (nd:aA) (id F:Int):Int:=if nd.holders.contains id then 9 else if F=2 then (if nd.mode=1 then 9 else 0) else if nd.mode≠0 then 9 else if 4611686018427387904<=D.g then 12 else 0
theorem Pp (w:World) (b bs bn:Nat) (D:SD) (SB NB HB UB:List Nat) (h:Hid (PS w0 w b bs bn D SB NB HB UB)) (k:Nat) (nd:aA) (hk:Hid (D.ns[k]?=some nd)) (jy:nd.path.length<=1048576) (id:Int) (hid:0<=id/\id<18446744073709551616) (F:Int) (hF:F=1\/F=2) (C:Int) (eC:Hid (jF D nd id F=C)) :
  Calls prog 258 #[.agg #[.int .u64 id,.string (aB nd.path),.int .i64 F],.pointer (some ⟨b,0,none⟩)] w fun r w'=>r=.returned (uh C)/\Below w.heap.size w w':=by
 obtain ⟨g,hh,uu,V0,hg,je,jq,gl,-,ul,g0,hW⟩:=h.y9 hk jy;obtain ⟨X,hX,bX,zX,CX,-⟩:=au w #[.int .u64 id,.string (aB nd.path),.int .i64 F] 196;have HW:=ae hW;clear hW;have HF:=ae hF;clear hF;go_enter func258,ntmps258;go_wp2_with fail;rw [<-hX];refine dV (by kernel_rfl) (fun W eW=>?_);have bW:Below w.heap.size w W:=by rw [eW];exact bX.drew
 obtain ⟨k5,kl,kN,kb⟩:=aa HW W bW;obtain ⟨-,kg,-⟩:=(h.below bW).cO;have c0:W.cell? ⟨w.heap.size,0,none⟩=some (.int .u64 id):=by rw [eW];exact CX.1 0 _ rfl
 have c1:W.cell? ⟨w.heap.size,1,none⟩=some (.string (aB nd.path)):=by rw [eW];exact CX.1 1 _ rfl
 have c2:W.cell? ⟨w.heap.size,2,none⟩=some (.int .i64 F):=by rw [eW];exact CX.1 2 _ rfl
 have KN:=ae kN;have g2:=aq kb 2;clear hX eW kb CX kN
 repeat still_step
 refine wpStill_nil ?_;rcases aa HF with e1 | e1;{
 subst e1;by_cases hm:nd.mode=0;{
 have HM:=ae hm;have m1:(nd.mode==1)=false:=by simp [hm]
 have m0:(nd.mode != 0)=false:=by simp [hm]
 clear hm;obtain ⟨B,eB⟩:∃ B,Hid (nd.holders.contains id=B):=⟨_,ae rfl⟩;go_wp2_with fail;refine (fh W g hh uu nd KN id hid B eB).mono ?_;rintro r w5 ⟨rfl,dH⟩;have d2:=af c2 dH;have d1:=af kg dH;have pB:=ae (ai bW dH);have e:=aa eC;unfold jF at e;rw [aa eB] at e;clear dH c0 c1 c2 k5 kl g2 kg;cases B;{
 by_cases hx:4611686018427387904<=D.g;{
 have Ku:decide (4611686018427387904<=D.g)=true:=by simpa using hx
 have e':C=12:=by rw [<-e];simp [aa HM,hx]
 subst e';clear e hx;go_wp2;go_ret;exact ⟨rfl,pB⟩};{
 have Ku:decide (4611686018427387904<=D.g)=false:=by simpa using hx
 have e':C=0:=by rw [<-e];simp [aa HM,hx]
 subst e';clear e hx;go_wp2;go_ret;exact ⟨rfl,pB⟩}};{
 have e':C=9:=by rw [<-e];simp
 subst e';clear e;go_wp2;go_ret;exact ⟨rfl,pB⟩}};{
 have HM:=ae hm;by_cases mG:nd.mode=1;{
 have m1:(nd.mode==1)=true:=by simp [mG]
 clear hm mG;obtain ⟨B,eB⟩:∃ B,Hid (nd.holders.contains id=B):=⟨_,ae rfl⟩;go_wp2_with fail;refine (fh W g hh uu nd KN id hid B eB).mono ?_;rintro r w5 ⟨rfl,dH⟩;have d2:=af c2 dH;have d1:=af kg dH;have pB:=ae (ai bW dH);have e:=aa eC;unfold jF at e;rw [aa eB] at e;clear dH c0 c1 c2 k5 kl g2 kg;cases B;{
 have e':C=9:=by rw [<-e];simp [aa HM]
 subst e';clear e;go_wp2;go_ret;exact ⟨rfl,pB⟩};{
 have e':C=9:=by rw [<-e];simp
 subst e';clear e;go_wp2;go_ret;exact ⟨rfl,pB⟩}};{
 have m1:(nd.mode==1)=false:=by simp [mG]
 have m0:(nd.mode != 0)=true:=by simp [hm]
 clear hm mG;obtain ⟨B,eB⟩:∃ B,Hid (nd.holders.contains id=B):=⟨_,ae rfl⟩;go_wp2_with fail;refine (fh W g hh uu nd KN id hid B eB).mono ?_;rintro r w5 ⟨rfl,dH⟩;have d2:=af c2 dH;have d1:=af kg dH;have pB:=ae (ai bW dH);have e:=aa eC;unfold jF at e;rw [aa eB] at e;clear dH c0 c1 c2 k5 kl g2 kg;cases B;{
 have e':C=9:=by rw [<-e];simp [aa HM]
 subst e';clear e;go_wp2;go_ret;exact ⟨rfl,pB⟩};{
 have e':C=9:=by rw [<-e];simp
 subst e';clear e;go_wp2;go_ret;exact ⟨rfl,pB⟩}}}};{
 subst e1;by_cases hm:nd.mode=1;{
 have HM:=ae hm;have m1:(nd.mode==1)=true:=by simp [hm]
 clear hm;obtain ⟨B,eB⟩:∃ B,Hid (nd.holders.contains id=B):=⟨_,ae rfl⟩;go_wp2_with fail;refine (fh W g hh uu nd KN id hid B eB).mono ?_;rintro r w5 ⟨rfl,dH⟩;have d2:=af c2 dH;have d1:=af kg dH;have pB:=ae (ai bW dH);have e:=aa eC;unfold jF at e;rw [aa eB] at e;clear dH c0 c1 c2 k5 kl g2 kg;cases B;{
 have e':C=9:=by rw [<-e];simp [aa HM]
 subst e';clear e;go_wp2;go_ret;exact ⟨rfl,pB⟩};{
 have e':C=9:=by rw [<-e];simp
 subst e';clear e;go_wp2;go_ret;exact ⟨rfl,pB⟩}};{
 have HM:=ae hm;have m1:(nd.mode==1)=false:=by simp [hm]
 clear hm;obtain ⟨B,eB⟩:∃ B,Hid (nd.holders.contains id=B):=⟨_,ae rfl⟩;go_wp2_with fail;refine (fh W g hh uu nd KN id hid B eB).mono ?_;rintro r w5 ⟨rfl,dH⟩;have d2:=af c2 dH;have d1:=af kg dH;have pB:=ae (ai bW dH);have e:=aa eC;unfold jF at e;rw [aa eB] at e;clear dH c0 c1 c2 k5 kl g2 kg;cases B;{
 have e':C=0:=by rw [<-e];simp [aa HM]
 subst e';clear e;go_wp2;go_ret;exact ⟨rfl,pB⟩};{
 have e':C=9:=by rw [<-e];simp
 subst e';clear e;go_wp2;go_ret;exact ⟨rfl,pB⟩}}}
theorem im (w:World) (cs:Array Value) (ty:TypeId):∃ X Y,X=w.alloc (.cells cs ty)/\Y=X.alloc (.cells #[.int .i64 0,.int .u64 0,.int .u64 0,.int .u64 0,.int .i64 0,.slice none 0 0,.slice none 0 0,.slice none 0 0] 39)/\Below w.heap.size w Y/\X.heap.size=w.heap.size+1/\Y.heap.size=w.heap.size+2/\Y.heap[w.heap.size]?=some (.cells cs ty)/\RX Y (w.heap.size+1) [.int .i64 0,.int .u64 0,.int .u64 0,.int .u64 0,.int .i64 0,.slice none 0 0,.slice none 0 0,.slice none 0 0]:=by
 obtain ⟨X,hX,bX,zX,-,gX⟩:=au w cs ty;obtain ⟨Y,hY,bY,zY,RY⟩:=fo X (.int .i64 0) (.int .u64 0) (.int .u64 0) (.int .u64 0) (.int .i64 0) (.slice none 0 0) (.slice none 0 0) (.slice none 0 0);rw [zX] at RY;exact ⟨X,Y,hX,hY,ai bX bY,zX,by omega,(bY.block _ (by omega)).trans gX,RY⟩
theorem Kk (w:World) (b bs bn:Nat) (D:SD) (SB NB HB UB:List Nat) (h:Hid (PS w0 w b bs bn D SB NB HB UB)) (k:Nat) (nd:aA) (hk:Hid (D.ns[k]?=some nd)) (jy:nd.path.length<=1048576) (tv:Hid (nd.holders.Pairwise (·<·))) (tX:Hid (nd.holders.length<=1048576)) (id:Int) (hid:0<=id/\id<18446744073709551616) (he:Hid (nd.aC=0/\nd.gen=0)) :
  Calls prog 257 #[.agg #[.int .u64 id,.string (aB nd.path),.int .i64 2],.pointer (some ⟨b,0,none⟩)] w (jC w0 w b bs bn { D with ns:=D.ns.set k { nd with mode:=2,holders:=mi nd.holders id } } SB NB HB UB iQ):=by
 obtain ⟨g,hh,uu,V0,hg,je,jq,gl,-,-,g0,hW⟩:=h.y9 hk jy;obtain ⟨X,Y,hX,hY,bY,zX,zY,BX,RY⟩:=im w #[.int .u64 id,.string (aB nd.path),.int .i64 2] 196;have HW:=ae hW;have Nq:=ae BX;have AK:=ae RY;have IX:=ae (ag hg (ag je jq));have rN:=h.be.size;clear hW BX RY hg je jq;have cD:=keyOf_int_mk underlying22 (jt hid);go_enter func257,ntmps257;go_wp2_with fail;rw [<-hX,<-hY];refine dV (by kernel_rfl) (fun W eW=>?_);have mO:Below Y.heap.size Y W:=by rw [eW];exact ar.drew
 obtain ⟨k5,kl,kN,kb⟩:=aa HW W (ai bY mO);have FW:=ae (Fr.below (T:=T3) mO);have bx:=FW.2 _ _ _ _ (by decide) Nq;have c1:=aq bx 1;have c2:=aq bx 2;have g2:=aq kb 2;have gf:∀ o,W.frozen? ⟨g,o,none⟩=false:=fun o=>by simp [World.frozen?,kb]
 have PW:=ae (h.below (ai bY mO));obtain ⟨V',Sm,bu,-⟩:=kN.cells;rw [kb] at bu;cases bu;have HV:=ae Sm;have KB:=ae kb;clear hX hY eW kb kN bx Sm mO
 repeat still_step
 refine wpStill_nil ?_;obtain ⟨Z,hZ⟩:=ax (W.setCell ⟨g,2,none⟩ (.int .i64 2));have tS:Z.heap[g]?=some (.cells #[V0,.int .u64 nd.owner,.int .i64 2,.map (some hh),.int .u64 nd.aC,.int .u64 nd.gen,.map (some uu)] 119):=by rw [hZ];simp [World.setCell,Array.getElem?_modify,aa KB]
 have bZ:Below g W Z:=by rw [hZ];exact ar.setCell (p:=⟨g,2,none⟩) ay _
 have kZ:∀ z,z<W.heap.size->z≠g->Z.heap[z]?=W.heap[z]?:=fun z _ bm=>by rw [hZ];exact dr _ _ _ _ (show z≠_ from bm)
 have O:=One.Pd PW.be bZ (aa KB) g0 (by simp) kZ;have PZ:=ae (PW.Ka hk IX.1 IX.2.1 IX.2.2 O V0 nd.value nd.owner 2 nd.aC nd.gen tS (HV.fr O.fr (by decide)));have FZ:=ae (FW.trans O.fr);clear bZ kZ O tS;go_wp2_with fail;rw [<-hZ];clear hZ c1 c2 g2 gf k5 kl KB HV PW FW;refine cK 8 (by kernel_rfl) (fun W1 DH=>?_);have V7:Below Z.heap.size Z W1:=by rw [DH];exact ar.drew
 have Wl:=ae (PZ.below V7);have FW1:=ae (FZ.trans (Fr.below (T:=T3) V7));have bx:=FW1.2 _ _ _ _ (by decide) Nq;have c0:=aq bx 0;have oo:=bk hk { nd with mode:=2 }
 have kN:=Wl.jb k _ g hh uu oo IX.1 IX.2.1 IX.2.2;obtain ⟨V1,-,-,-,-,-,n3,-⟩:=kN.cells;obtain ⟨M,n,o,hn,hs,hz⟩:=kN.GC;have o':=cY o;rw [hz] at o';obtain ⟨Y2,bS,ho,ra⟩:=o'.update gp underlying109 (by have:=aa tX;show nd.holders.length<_;unfold maxLen;omega) (val:=.agg #[]) cD unitElem_mk;have O2:=One.J6 Wl.be ra kN.lo.2.1 (ownsMap_at o');have SZ:=SM.put hs o'.isMap tv (by have:=aa tX;show nd.holders.length+1<=_;omega) ho;have GS:=Wl.GC oo IX.1 IX.2.1 IX.2.2 O2 SZ;simp only [ky] at GS;replace GS:=ae GS;have FY2:=ae (FW1.trans O2.fr);have zQ:=ae (bk hk { nd with mode:=2,holders:=mi nd.holders id });have bx2:=FY2.2 _ _ _ _ (by decide) Nq;have e2:=aq bx2 2;clear DH kN O2 SZ ho ra o o' hs hz bx bx2 oo V7;simp only [List.take_succ_cons,List.take_zero,List.drop_succ_cons,List.drop_zero]
 repeat still_step
 refine wpStill_nil ?_;go_wp2_with fail;clear bS c0 n3 e2;refine cK 9 (by kernel_rfl) (fun W2 SK=>?_);have IN:Below Y2.heap.size Y2 W2:=by rw [SK];exact ar.drew
 have Jt:=ae (GS.below IN);have Om:=FY2.trans (Fr.below (T:=T3) IN);have Wj:=AK.fr Om (by decide);have kN:=Jt.jb k _ g hh uu zQ IX.1 IX.2.1 IX.2.2;obtain ⟨V1,-,-,-,-,-,-,n4,n5,-⟩:=kN.cells;simp only [he.1,he.2] at n4 n5;obtain ⟨r0,r1,r2,r3,r4,r5,r6,r7,rf⟩:=Wj.cells;have FZ2:=ae ((Fr.below (T:=T3) bY).trans Om);have RZ2:=ae Wj;clear SK kN Om Wj IN;simp only [List.take_succ_cons,List.take_zero,List.drop_succ_cons,List.drop_zero]
 repeat still_step
 refine wpStill_nil ?_;go_wp2;exact gm Jt FZ2 RZ2 rN (by kernel_rfl) rfl rfl rfl
theorem Kl (w:World) (b bs bn:Nat) (D:SD) (SB NB HB UB:List Nat) (h:Hid (PS w0 w b bs bn D SB NB HB UB)) (k:Nat) (nd:aA) (hk:Hid (D.ns[k]?=some nd)) (jy:nd.path.length<=1048576) (tv:Hid (nd.holders.Pairwise (·<·))) (tX:Hid (nd.holders.length<=1048576)) (id:Int) (hid:0<=id/\id<18446744073709551616) (UY:0<=D.g/\D.g<4611686018427387904) :
  Calls prog 257 #[.agg #[.int .u64 id,.string (aB nd.path),.int .i64 1],.pointer (some ⟨b,0,none⟩)] w (jC w0 w b bs bn { D with g:=D.g+1,ns:=D.ns.set k { nd with mode:=1,holders:=mi nd.holders id,aC:=D.e,gen:=D.g+1 } } SB NB HB UB { iQ with e:=D.e,g:=D.g+1 }):=by
 obtain ⟨g,hh,uu,V0,hg,je,jq,gl,-,-,g0,hW⟩:=h.y9 hk jy;obtain ⟨X,Y,hX,hY,bY,zX,zY,BX,RY⟩:=im w #[.int .u64 id,.string (aB nd.path),.int .i64 1] 196;have HW:=ae hW;have Nq:=ae BX;have AK:=ae RY;have IX:=ae (ag hg (ag je jq));have rN:=h.be.size;clear hW BX RY hg je jq;have cD:=keyOf_int_mk underlying22 (jt hid);go_enter func257,ntmps257;go_wp2_with fail;rw [<-hX,<-hY];refine dV (by kernel_rfl) (fun W eW=>?_);have mO:Below Y.heap.size Y W:=by rw [eW];exact ar.drew
 obtain ⟨k5,kl,kN,kb⟩:=aa HW W (ai bY mO);have FW:=ae (Fr.below (T:=T3) mO);have bx:=FW.2 _ _ _ _ (by decide) Nq;have c1:=aq bx 1;have c2:=aq bx 2;have g2:=aq kb 2;have gf:∀ o,W.frozen? ⟨g,o,none⟩=false:=fun o=>by simp [World.frozen?,kb]
 have PW:=ae (h.below (ai bY mO));obtain ⟨V',Sm,bu,-⟩:=kN.cells;rw [kb] at bu;cases bu;have HV:=ae Sm;have KB:=ae kb;clear hX hY eW kb kN bx Sm mO
 repeat still_step
 refine wpStill_nil ?_;obtain ⟨Z,hZ⟩:=ax (W.setCell ⟨g,2,none⟩ (.int .i64 1));have tS:Z.heap[g]?=some (.cells #[V0,.int .u64 nd.owner,.int .i64 1,.map (some hh),.int .u64 nd.aC,.int .u64 nd.gen,.map (some uu)] 119):=by rw [hZ];simp [World.setCell,Array.getElem?_modify,aa KB]
 have bZ:Below g W Z:=by rw [hZ];exact ar.setCell (p:=⟨g,2,none⟩) ay _
 have kZ:∀ z,z<W.heap.size->z≠g->Z.heap[z]?=W.heap[z]?:=fun z _ bm=>by rw [hZ];exact dr _ _ _ _ (show z≠_ from bm)
 have O:=One.Pd PW.be bZ (aa KB) g0 (by simp) kZ;have PZ:=ae (PW.Ka hk IX.1 IX.2.1 IX.2.2 O V0 nd.value nd.owner 1 nd.aC nd.gen tS (HV.fr O.fr (by decide)));have FZ:=ae (FW.trans O.fr);clear bZ kZ O tS;go_wp2_with fail;rw [<-hZ];clear hZ c1 c2 g2 gf k5 kl KB HV PW FW;refine cK 8 (by kernel_rfl) (fun W1 DH=>?_);have V7:Below Z.heap.size Z W1:=by rw [DH];exact ar.drew
 have Wl:=ae (PZ.below V7);have FW1:=ae (FZ.trans (Fr.below (T:=T3) V7));have bx:=FW1.2 _ _ _ _ (by decide) Nq;have c0:=aq bx 0;have oo:=bk hk { nd with mode:=1 }
 have kN:=Wl.jb k _ g hh uu oo IX.1 IX.2.1 IX.2.2;obtain ⟨V1,-,-,-,-,-,n3,-⟩:=kN.cells;obtain ⟨M,n,o,hn,hs,hz⟩:=kN.GC;have o':=cY o;rw [hz] at o';obtain ⟨Y2,bS,ho,ra⟩:=o'.update gp underlying109 (by have:=aa tX;show nd.holders.length<_;unfold maxLen;omega) (val:=.agg #[]) cD unitElem_mk;have O2:=One.J6 Wl.be ra kN.lo.2.1 (ownsMap_at o');have SZ:=SM.put hs o'.isMap tv (by have:=aa tX;show nd.holders.length+1<=_;omega) ho;have GS:=Wl.GC oo IX.1 IX.2.1 IX.2.2 O2 SZ;simp only [ky] at GS;replace GS:=ae GS;have FY2:=ae (FW1.trans O2.fr);have zQ:=ae (bk hk { nd with mode:=1,holders:=mi nd.holders id });have bx2:=FY2.2 _ _ _ _ (by decide) Nq;have e2:=aq bx2 2;clear DH kN O2 SZ ho ra o o' hs hz bx bx2 oo V7;simp only [List.take_succ_cons,List.take_zero,List.drop_succ_cons,List.drop_zero]
 repeat still_step
 refine wpStill_nil ?_;obtain ⟨q0,q1,q2,q3,q4,q5,qf⟩:=GS.cO;obtain ⟨Z3,Zh⟩:=ax (Y2.setCell ⟨b,1,none⟩ (.int .u64 (D.g+1)));have tS:Z3.heap[b]?=some (.cells #[.int .u64 D.e,.int .u64 (D.g+1),.int .u64 D.x,.int .i64 D.t,.map (some bs),.map (some bn)] 114):=by rw [Zh];simp [World.setCell,Array.getElem?_modify,GS.hd]
 have O3:=One.Pd GS.be (by rw [Zh];exact ar.setCell (p:=⟨b,1,none⟩) ay _:Below b Y2 Z3) GS.hd GS.lo.1 (by simp) (fun z _ bm=>by rw [Zh];exact dr _ _ _ _ (show z≠_ from bm));have P3:=ae (GS.Rt O3 D.e (D.g+1) D.x D.t tS);have F3:=ae (FY2.trans O3.fr);clear tS O3;go_wp2_with fail;rw [<-Zh];clear Zh bS c0 n3 e2 q0 q1 q2 q3 q4 q5 qf;obtain ⟨vA,bt⟩:=ax Z3.drew;have bA:Below Z3.heap.size Z3 vA:=by rw [bt];exact ar.drew
 have PA:=ae (P3.below bA);have FA:=ae (F3.trans (Fr.below (T:=T3) bA));obtain ⟨q0,q1,-⟩:=PA.cO;have kN:=PA.jb k _ g hh uu zQ IX.1 IX.2.1 IX.2.2;obtain ⟨V1,Jl,kb1,-,-,-,-,n4,n5,-,nf⟩:=kN.cells;have Qf:b≠g:=fun e=>by have:=PA.hd;rw [e,kb1] at this;simp at this
 have HKB:=ae (ag Jl kb1);clear bA kN Jl kb1;refine wp_region_noPanic ?_;refine wp_region_held_drew (S:=fun w'=>w'.cell? ⟨b,0,none⟩=some (.int .u64 D.e)/\w'.cell? ⟨b,1,none⟩=some (.int .u64 (D.g+1))) (by kernel_rfl) (by rw [<-bt];exact ⟨q0,q1⟩) (fun hS=>?_);rw [<-bt] at hS ⊢;clear bt;refine fL 0 1 2 3 4 5 6 7 hS ?_;refine gD 8 9 10 11 hS ?_;refine ry [12] ?_;refine cn (fun KK hK=>?_) ?_;rotate_left;exact AllReadyH.nil
 rotate_right
 go_simp;obtain ⟨Z4,Zg⟩:=ax (vA.setCell ⟨g,4,none⟩ (.int .u64 D.e));have k4:∀ z,z≠g->Z4.heap[z]?=vA.heap[z]?:=fun z bm=>by rw [Zg];exact dr _ _ _ _ (show z≠_ from bm)
 have b4:Below g vA Z4:=by rw [Zg];exact ar.setCell (p:=⟨g,4,none⟩) ay _
 have Up:Z4.heap[g]?=some (.cells #[V1,.int .u64 nd.owner,.int .i64 1,.map (some hh),.int .u64 D.e,.int .u64 nd.gen,.map (some uu)] 119):=by rw [Zg];simp [World.setCell,Array.getElem?_modify,HKB.2]
 rw [<-Zg];have p0:=(aj (k4 b Qf) 0).trans q0;have p1:=(aj (k4 b Qf) 1).trans q1;refine bM hK (by exact ⟨p0,p1⟩) fun hS=>?_;clear hK KK n4 n5 nf Zg q0 q1;refine fq 13 14 hS ?_;have m5:=aq Up 5;have mf:∀ o,Z4.frozen? ⟨g,o,none⟩=false:=fun o=>by simp [World.frozen?,Up]
 have H4:=ae (ag Up (ag k4 b4));clear Up k4 b4;refine ry [15] ?_;refine cn (fun KK hK=>?_) ?_;rotate_left;exact AllReadyH.nil
 rotate_right
 go_simp;obtain ⟨Z5,Zf⟩:=ax (Z4.setCell ⟨g,5,none⟩ (.int .u64 (D.g+1)));have k5:∀ z,z≠g->Z5.heap[z]?=Z4.heap[z]?:=fun z bm=>by rw [Zf];exact dr _ _ _ _ (show z≠_ from bm)
 have b5:Below g Z4 Z5:=by rw [Zf];exact ar.setCell (p:=⟨g,5,none⟩) ay _
 have hz5:Z5.heap[g]?=some (.cells #[V1,.int .u64 nd.owner,.int .i64 1,.map (some hh),.int .u64 D.e,.int .u64 (D.g+1),.map (some uu)] 119):=by rw [Zf];simp [World.setCell,Array.getElem?_modify,H4.1]
 rw [<-Zf];have s0:=(aj (k5 b Qf) 0).trans p0;have s1:=(aj (k5 b Qf) 1).trans p1;have O5:=One.Pd PA.be (H4.2.2.trans b5) HKB.2 g0 (by simp) (fun z _ bm=>(k5 z bm).trans (H4.2.1 z bm));have P5:=PA.Ka zQ IX.1 IX.2.1 IX.2.2 O5 V1 nd.value nd.owner 1 D.e (D.g+1) hz5 (HKB.1.fr O5.fr (by decide));simp only [ky] at P5;have PY3:=ae P5;have FY3:=ae (FA.trans O5.fr);have UP:=ae (bk hk { nd with mode:=1,holders:=mi nd.holders id,aC:=D.e,gen:=D.g+1 });refine bM hK (by exact ⟨s0,s1⟩) fun hS=>?_;clear hK KK Zf k5 b5 hz5 s0 s1 O5 P5 m5 mf p0 p1;refine wpAnyH_done (by kernel_rfl) ?_ _;refine bc ?_;clear hS;go_wp2_with fail;refine cK 9 (by kernel_rfl) (fun W2 SK=>?_);have IN:Below Z5.heap.size Z5 W2:=by rw [SK];exact ar.drew
 have Jt:=ae (PY3.below IN);have Om:=FY3.trans (Fr.below (T:=T3) IN);have Wj:=AK.fr Om (by decide);have kN:=Jt.jb k _ g hh uu UP IX.1 IX.2.1 IX.2.2;obtain ⟨V2,-,-,-,-,-,-,n4,n5,-⟩:=kN.cells;obtain ⟨r0,r1,r2,r3,r4,r5,r6,r7,rf⟩:=Wj.cells;have FZ2:=ae ((Fr.below (T:=T3) bY).trans Om);have RZ2:=ae Wj;clear SK kN Om Wj IN;simp only [List.take_succ_cons,List.take_zero,List.drop_succ_cons,List.drop_zero]
 repeat still_step
 refine wpStill_nil ?_;go_wp2;exact gm Jt FZ2 RZ2 rN (by kernel_rfl) rfl rfl rfl
end Go.Proofs.YtmfjiolopcbcmaaGreatDoor
