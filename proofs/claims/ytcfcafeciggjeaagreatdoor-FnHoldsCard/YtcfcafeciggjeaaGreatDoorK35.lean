import Derived.Test.YtcfcafeciggjeaaGreatDoorK33
import Derived.Test.YtcfcafeciggjeaaGreatDoorK23
namespace Go.Proofs.YtcfcafeciggjeaaGreatDoor
set_option maxHeartbeats 6400000
set_option linter.all false
set_option maxRecDepth 100000
open Go.ChangeShapes Go.WideShapes Go.ChangeAt Go.RowKit Go.Maps Go.Proofs.Tryz
variable {D:SD} {P V:List Int} {k:Nat} {nd:aD} {s:Int} {w w0:World}
theorem Da (Y:World) (s:Nat) (es:Y.heap.size=s) (v0 v1 v2 v4 v5:Value):∃ V,V=((Y.alloc (.map #[] 0)).alloc (.map #[] 0)).alloc (.cells #[v0,v1,v2,.map (some s),v4,v5,.map (some (s+1))] 137)/\Bw Y V/\V.heap.size=s+3/\V.heap[s+2]?=some (.cells #[v0,v1,v2,.map (some s),v4,v5,.map (some (s+1))] 137)/\SM V s []/\SM V (s+1) []:=by
 subst es;have z1:(Y.alloc (.map #[] 0)).heap.size=Y.heap.size+1:=by simp
 have z2:((Y.alloc (.map #[] 0)).alloc (.map #[] 0)).heap.size=Y.heap.size+2:=by simp
 obtain ⟨V,hV,bV,zV,-,gV⟩:=aj ((Y.alloc (.map #[] 0)).alloc (.map #[] 0)) #[v0,v1,v2,.map (some Y.heap.size),v4,v5,.map (some (Y.heap.size+1))] 137;rw [z2] at gV zV;have o1:=World.ownsMap_made (H:=Unit) Y prog 23 unitElem;have o2:=World.ownsMap_made (H:=Unit) (Y.alloc (.map #[] 0)) prog 23 unitElem;rw [z1] at o2;refine ⟨V,hV,?_,zV,gV,?_,?_⟩;{exact ah ((aJ.alloc aA _).alloc (by rw [z1];omega) _) bV};{refine ⟨.map [],0,?_,by omega,db.nil,rfl⟩;rw [hV];exact (o1.alloc _).alloc _};{refine ⟨.map [],0,?_,by omega,db.nil,rfl⟩;rw [hV];exact o2.alloc _}
theorem Ju (w:World) (b bs bn:Nat) (D:SD) (SB NB HB UB:List Nat) (h:Hid (PS w0 w b bs bn D SB NB HB UB)) (P:List Int) (id:Int) (F:Bool) (pv:Option Addr) (nv cv:Nat) (VL:List Int) (hV:Hid (AB w0 w (.S pv nv cv) VL)) (jR:Hid (P.length<=1048576)) (jS:Hid (∀ nd'∈D.ns,bN nd'.path≠bN P)) (hl:Hid (D.ns.length<1048576)) (j:Nat) (hj:Hid (j<=D.ns.length)) :
  Calls prog 265 #[.agg #[.U id,.string (aC P),.bool F,.S pv nv cv],.pointer (some ⟨b,0,none⟩)] w fun r w'=>∃ gN hN uN,jU w0 w b bs bn { D with ns:=fW j (gj P VL (if F then id else 0)) D.ns } SB (fW j gN NB) (fW j hN HB) (fW j uN UB) rp0 r w':=by
 obtain ⟨X,Y,hX,hY,bY,zX,zY,BX,RY⟩:=iY w #[.U id,.string (aC P),.bool F,.S pv nv cv] 202;have Be:=@run_makeMap prog;have BO:=ae RY;have sU:=h.be.size;clear RY;go_enter func265,ntmps265;cases F;{
 obtain ⟨V,eV,bV,zV,gV,s1,s2⟩:=Da Y (w.heap.size+1+1) zY (.S pv nv cv) (.U 0) (.I 0) (.U 0) (.U 0);have HV:=ae (ag bV (ag zV (ag gV (ag s1 s2))));have OM:=ae BX;clear bV zV gV s1 s2 BX;go_wp2_with fail;rw [<-hX,<-hY,<-eV];clear hX hY eV Be;refine de 8 (by kernel_rfl) (fun W eW=>?_);obtain ⟨bV,zV,gV,s1,s2⟩:=aa HV;have Oh:=dG eW;have nR:Bw Y W:=ah bV Oh;have bW:Bw w W:=ah bY nR;have PW:=ae (h.below bW);have c1:=ay ((nR.block w.heap.size (by omega)).trans OM) 1;obtain ⟨-,-,-,-,-,k5,-⟩:=PW.dC;have df:=QK (P:=P) (by have:=aa jR;omega);have gW:=(Oh.block (w.heap.size+1+1+2) (by omega)).trans gV;have PNW:PN w0 W (w.heap.size+1+1+2) (w.heap.size+1+1) (w.heap.size+1+1+1) (gj P VL 0):=⟨⟨by omega,by omega,by omega⟩,⟨_,gW,hV.fr (al bW) (by simp)⟩,s1.kept (Oh.block _ (by omega)),s2.kept (Oh.block _ (by omega))⟩;obtain ⟨M,n,o,hn,m,hz⟩:=PW.jQ;have o':=dB o;rw [hz] at o';obtain ⟨U,cK,ho,sy⟩:=o'.update kM underlying130 (by have:=aa hl;unfold maxLen;omega) df (ji (w.heap.size+1+1+1+1));have O2:=One.Lk PW.be sy PW.lo.2.2 (ownsMap_at o');have hgN:w.heap.size+1+1+2∉NB:=fun e=>by obtain ⟨i,hi⟩:=List.mem_iff_getElem?.1 e;obtain ⟨nd',aV⟩:=h.ZD hi;obtain ⟨g',hh',uu',a1,a2,a3,hN'⟩:=h.nat aV;rw [hi] at a1;cases a1;obtain ⟨V',cR,-⟩:=hN'.aI;have:=aG cR;omega
 have hold:∀ z∈bs::bn::(HB++UB),z<w.heap.size:=fun z hz=>by
  have nb:∀ i nd',D.ns[i]?=some nd'->∃ hh uu,HB[i]?=some hh/\UB[i]?=some uu/\hh<w.heap.size/\uu<w.heap.size:=fun i nd' aV=>by obtain ⟨g',hh',uu',a1,a2,a3,hN'⟩:=h.nat aV;obtain ⟨es,c,m3⟩:=hN'.Hn.at;obtain ⟨RN,c',m4⟩:=hN'.Iq.at;exact ⟨_,_,a2,a3,aG m3,aG m4⟩
  simp only [List.mem_cons,List.mem_append] at hz;rcases hz with rfl | rfl | hz | hz;{obtain ⟨M,n,o,-⟩:=h.my;exact o.lt};{obtain ⟨M,n,o,-⟩:=h.jQ;exact o.lt};{obtain ⟨i,hi⟩:=List.mem_iff_getElem?.1 hz;obtain ⟨hh,uu,a1,a2,a3,a4⟩:=nb i _ (aK (by rw [<-h.hlen];exact (aN.1 hi).1));rw [hi] at a1;cases a1;exact a3};{obtain ⟨i,hi⟩:=List.mem_iff_getElem?.1 hz;obtain ⟨hh,uu,a1,a2,a3,a4⟩:=nb i _ (aK (by rw [<-h.oe];exact (aN.1 hi).1));rw [hi] at a2;cases a2;exact a4}
 have PU:=ae (PW.al5 (j:=j) hj PNW hgN (fun z hz=>by have:=hold z hz;omega) (by omega) jS O2 hl (fun M' o1=>by obtain ⟨U',uv,JZ,-⟩:=o1.update kM underlying130 (by have:=aa hl;unfold maxLen;omega) df (ji (w.heap.size+1+1+1+1));rw [cK] at uv;cases uv;exact JZ))
 have FY:=(Fr.below (T:=T3) nR).trans O2.fr;have RU:=BO.fr FY;obtain ⟨r0,r1,r2,r3,r4,r5,r6,r7,rf⟩:=RU.cells;have FU':=ae ((Fr.below (T:=T3) bY).trans FY);have RU':=ae RU;clear eW bV zV gV s1 s2 Oh nR gW PNW o o' m hz ho sy O2 hgN hold FY RU HV;simp only [List.take_succ_cons,List.take_zero,List.drop_succ_cons,List.drop_zero]
 repeat still_step
 refine wpStill_nil ?_;go_wp2;exact kT RU' (by kernel_rfl) rfl rfl ⟨_,_,_,PS.rep PU RU' (by omega) _ _ _ _ _ _ _ _,FU'.low ((aO _ (w.heap.size+1) _ _ _ _ _ _ _ _).mono (by omega)),rfl⟩};{
 obtain ⟨V,eV,bV,zV,gV,s1,s2⟩:=Da Y (w.heap.size+1+1) zY (.S pv nv cv) (.U id) (.I 0) (.U 0) (.U 0);have HV:=ae (ag bV (ag zV (ag gV (ag s1 s2))));have OM:=ae BX;clear bV zV gV s1 s2 BX;go_wp2_with fail;rw [<-hX,<-hY,<-eV];clear hX hY eV Be;refine de 8 (by kernel_rfl) (fun W eW=>?_);obtain ⟨bV,zV,gV,s1,s2⟩:=aa HV;have Oh:=dG eW;have nR:Bw Y W:=ah bV Oh;have bW:Bw w W:=ah bY nR;have PW:=ae (h.below bW);have c1:=ay ((nR.block w.heap.size (by omega)).trans OM) 1;obtain ⟨-,-,-,-,-,k5,-⟩:=PW.dC;have df:=QK (P:=P) (by have:=aa jR;omega);have gW:=(Oh.block (w.heap.size+1+1+2) (by omega)).trans gV;have PNW:PN w0 W (w.heap.size+1+1+2) (w.heap.size+1+1) (w.heap.size+1+1+1) (gj P VL id):=⟨⟨by omega,by omega,by omega⟩,⟨_,gW,hV.fr (al bW) (by simp)⟩,s1.kept (Oh.block _ (by omega)),s2.kept (Oh.block _ (by omega))⟩;obtain ⟨M,n,o,hn,m,hz⟩:=PW.jQ;have o':=dB o;rw [hz] at o';obtain ⟨U,cK,ho,sy⟩:=o'.update kM underlying130 (by have:=aa hl;unfold maxLen;omega) df (ji (w.heap.size+1+1+1+1));have O2:=One.Lk PW.be sy PW.lo.2.2 (ownsMap_at o');have hgN:w.heap.size+1+1+2∉NB:=fun e=>by obtain ⟨i,hi⟩:=List.mem_iff_getElem?.1 e;obtain ⟨nd',aV⟩:=h.ZD hi;obtain ⟨g',hh',uu',a1,a2,a3,hN'⟩:=h.nat aV;rw [hi] at a1;cases a1;obtain ⟨V',cR,-⟩:=hN'.aI;have:=aG cR;omega
 have hold:∀ z∈bs::bn::(HB++UB),z<w.heap.size:=fun z hz=>by
  have nb:∀ i nd',D.ns[i]?=some nd'->∃ hh uu,HB[i]?=some hh/\UB[i]?=some uu/\hh<w.heap.size/\uu<w.heap.size:=fun i nd' aV=>by obtain ⟨g',hh',uu',a1,a2,a3,hN'⟩:=h.nat aV;obtain ⟨es,c,m3⟩:=hN'.Hn.at;obtain ⟨RN,c',m4⟩:=hN'.Iq.at;exact ⟨_,_,a2,a3,aG m3,aG m4⟩
  simp only [List.mem_cons,List.mem_append] at hz;rcases hz with rfl | rfl | hz | hz;{obtain ⟨M,n,o,-⟩:=h.my;exact o.lt};{obtain ⟨M,n,o,-⟩:=h.jQ;exact o.lt};{obtain ⟨i,hi⟩:=List.mem_iff_getElem?.1 hz;obtain ⟨hh,uu,a1,a2,a3,a4⟩:=nb i _ (aK (by rw [<-h.hlen];exact (aN.1 hi).1));rw [hi] at a1;cases a1;exact a3};{obtain ⟨i,hi⟩:=List.mem_iff_getElem?.1 hz;obtain ⟨hh,uu,a1,a2,a3,a4⟩:=nb i _ (aK (by rw [<-h.oe];exact (aN.1 hi).1));rw [hi] at a2;cases a2;exact a4}
 have PU:=ae (PW.al5 (j:=j) hj PNW hgN (fun z hz=>by have:=hold z hz;omega) (by omega) jS O2 hl (fun M' o1=>by obtain ⟨U',uv,JZ,-⟩:=o1.update kM underlying130 (by have:=aa hl;unfold maxLen;omega) df (ji (w.heap.size+1+1+1+1));rw [cK] at uv;cases uv;exact JZ))
 have FY:=(Fr.below (T:=T3) nR).trans O2.fr;have RU:=BO.fr FY;obtain ⟨r0,r1,r2,r3,r4,r5,r6,r7,rf⟩:=RU.cells;have FU':=ae ((Fr.below (T:=T3) bY).trans FY);have RU':=ae RU;clear eW bV zV gV s1 s2 Oh nR gW PNW o o' m hz ho sy O2 hgN hold FY RU HV;simp only [List.take_succ_cons,List.take_zero,List.drop_succ_cons,List.drop_zero]
 repeat still_step
 refine wpStill_nil ?_;go_wp2;exact kT RU' (by kernel_rfl) rfl rfl ⟨_,_,_,PS.rep PU RU' (by omega) _ _ _ _ _ _ _ _,FU'.low ((aO _ (w.heap.size+1) _ _ _ _ _ _ _ _).mono (by omega)),rfl⟩}
theorem Jg (a c d:Value) (w:World):(Instr.field 35 (.agg #[a,c,d]) 2).run prog w=.ok d w:=by kernel_rfl
theorem Qn (w:World) (b bs bn:Nat) (D:SD) (SB NB HB UB:List Nat) (h:Hid (PS w0 w b bs bn D SB NB HB UB)) (k:Nat) (s:aY) (hk:Hid (D.ss[k]?=some s)) (hr:0<=s.1/\s.1<18446744073709551616) (n:Nat) (en:Hid (s.2.2.length=n)) (hn:n<=1048576) (hbq:Hid (∀ e∈s.2.2,e.2.length<=1048576)) :
  Calls prog 279 #[.agg #[.U s.1],.pointer (some ⟨b,0,none⟩)] w fun r w'=>∃ p c A,PS w0 w' b bs bn { D with ss:=D.ss.set k (s.1,s.2.1,[]) } SB NB HB UB/\Fr T3 w w'/\r=.returned (gP 0 0 0 0 0 (.S none 0 0) (.S none 0 0) (.S p n c))/\jJ w' (.S p n c) s.2.2/\Ek w' (.S p n c) s.2.2 A/\lx w.heap.size w' A:=by
 obtain ⟨g,u,hg,gl,g0,hW⟩:=h.Fc hk hr;obtain ⟨X,Y,hX,hY,bY,zX,zY,BX,RY⟩:=iY w #[.U s.1] 216;have HW:=ae hW;have sU:=h.be.size;clear hW;go_enter func279,ntmps279;go_wp2_with fail;rw [<-hX,<-hY];refine fx (by kernel_rfl) (fun W eW=>?_);have nR:=dG eW;have bW:Bw w W:=ah bY nR;have zW:w.heap.size+2<=W.heap.size:=by have:=nR.size;omega
 obtain ⟨k3,k4,kl,kb,k1,kf⟩:=aa HW W bW;have c0:=ay ((nR.block w.heap.size (by omega)).trans BX) 0;have PW:=ae (h.below bW);obtain ⟨-,u',OP,hQ⟩:=PW.mH k s g hk hg;rw [kb] at OP;cases OP;have hR:=hQ.IC PW.be;obtain ⟨pq,cq,rfl,-⟩:=id hQ;rw [aa en] at kb hR;have g0c:=ay kb 0;have g2c:=ay kb 2;have KB:=ae kb;have HR:=ae hR;have IX:=ae hg;have PH:=ae (ag nR RY);clear hX hY eW kb BX hQ k3 hR hg nR RY
 repeat still_step
 refine wpStill_nil ?_;go_wp2_with fail;refine (xM s.1 s.2.1 pq cq n s.2.2 en W HR hn hbq).mono ?_;rintro r w5 ⟨p',c',A,rfl,hRd,hLv,hAp,ew⟩;have P5:=ae (PW.below ew);have gW5:=(ew.block g (by omega)).trans KB;have e2:=ay gW5 2;have ef:∀ o,w5.frozen? ⟨g,o,none⟩=false:=fun o=>by simp [World.frozen?,gW5]
 have HQ:=ae (ag hRd (ag hLv hAp));obtain ⟨Z,hZ⟩:=ax (w5.setCell ⟨g,2,none⟩ (.S none 0 0));have xj:Z.heap[g]?=some (.cells #[.U s.1,.I s.2.1,.S none 0 0] 35):=by rw [hZ];simp [World.setCell,Array.getElem?_modify,gW5]
 have kZ:∀ z,z≠g->Z.heap[z]?=w5.heap[z]?:=fun z bL=>by rw [hZ];exact dF _ _ _ _ (show z≠_ from bL)
 have O:=One.Qw P5.be (by rw [hZ];exact aJ.setCell (p:=⟨g,2,none⟩) aA _:Below g w5 Z) gW5 g0 (by simp) (fun z _ bL=>kZ z bL);have PZ:=ae (PS.GI (s':=(s.1,s.2.1,[])) P5 hk IX O rfl ⟨g0,_,xj,AQ.nil _ _⟩);have FY:=((Fr.below (T:=T3) PH.1).trans (Fr.below (T:=T3) ew)).trans O.fr;have Ej:=PH.2.fr FY;obtain ⟨r0,r1,r2,r3,r4,r5,r6,r7,rf⟩:=Ej.cells;have FZ:=ae ((Fr.below (T:=T3) bY).trans FY);have RZ:=ae Ej;have KZ:=ae kZ;obtain ⟨t0,t1,t2,t3,t4,t5,t6,t7,tf⟩:=(PH.2.fr ((Fr.below (T:=T3) PH.1).trans (Fr.below (T:=T3) ew))).cells;clear hRd hLv hAp ew gW5 xj kZ O FY Ej k4 kl k1 kf c0 g0c g2c;subst hZ;have hfd:=Jg (.U s.1) (.I s.2.1) (.S p' n c') w5;go_wp2;have FL:∀ a∈A,(fg (w5.setCell ⟨g,2,none⟩ (.S none 0 0)) (w.heap.size+1) (.I 0) (.U 0) (.U 0) (.U 0) (.I 0) (.S none 0 0) (.S none 0 0) (.S p' n c')).heap[a.b]?=w5.heap[a.b]?:=fun a ha=>by have:=HQ.2.2.lo a ha;exact (gu (by omega)).trans (aa KZ a.b (by omega))
 exact kT RZ (by kernel_rfl) rfl rfl ⟨p',c',A,PS.rep PZ RZ (by omega) _ _ _ _ _ _ _ _,FZ.low ((aO _ (w.heap.size+1) _ _ _ _ _ _ _ _).mono (by omega)),rfl,HQ.1.cX HQ.2.1 FL,HQ.2.1.aU FL,(HQ.2.2.aU FL).mono (by omega)⟩
theorem WL (w:World) (b bs bn:Nat) (D:SD) (SB NB HB UB:List Nat) (h:Hid (PS w0 w b bs bn D SB NB HB UB)) (k:Nat) (nd:aD) (hk:Hid (D.ns[k]?=some nd)) (jR:nd.path.length<=1048576) (n:Nat) (en:Hid (nd.value.length=n)) (hn:n<=1048576) :
  Calls prog 270 #[.agg #[.string (aC nd.path)],.pointer (some ⟨b,0,none⟩)] w fun r w'=>∃ p c w5,PS w0 w' b bs bn D SB NB HB UB/\Fr T3 w w'/\r=.returned (gP 0 nd.owner nd.aB nd.gen nd.mode (.S p n c) (.S none 0 0) (.S none 0 0))/\Own (w.heap.size+2) w5 (.S p n c) nd.value/\(∀ z,z≠w.heap.size+1->w'.heap[z]?=w5.heap[z]?):=by
 obtain ⟨g,hh,uu,V0,hg,jT,jX,gl,-,-,g0,hW⟩:=h.AO hk jR;obtain ⟨X,Y,hX,hY,bY,zX,zY,BX,RY⟩:=iY w #[.string (aC nd.path)] 206;have HW:=ae hW;have BO:=ae RY;have sU:=h.be.size;clear hW RY;go_enter func270,ntmps270;go_wp2_with fail;rw [<-hX,<-hY];refine fx (by kernel_rfl) (fun W eW=>?_);have nR:=dG eW;obtain ⟨k5,kl,kN,kb⟩:=aa HW W (ah bY nR);have c0:=ay ((nR.block w.heap.size (by omega)).trans BX) 0;obtain ⟨V',TF,cR,-⟩:=kN.cells;rw [kb] at cR;cases cR;have PW:=ae (h.below (ah bY nR));have hR:=TF.rd PW.be;obtain ⟨pv,cv,rfl,-⟩:=id hR;rw [aa en] at kb hR;have SI:=ae nR;have HR:=ae hR;have KB:=ae kb;clear hX hY eW BX kN TF hR kb nR
 repeat still_step
 refine wpStill_nil ?_;go_wp2_with fail;clear k5 kl c0;obtain ⟨vA,aX⟩:=ax W.drew;have bA:=dG aX;have qZ:=ae bA;have Ck:=ae (fun (vs:Array Value) (w:World)=>show (callFunc 61 vs).run prog w=.ok (.enter 61 vs) w by kernel_rfl);have HC:=ae (fun (v:World) (hv:Bw W v)=>(hv.block g (aG KB)).trans KB);have HS:=ae (fun (v:World) (hb:v.heap[g]?=some (.cells #[.S pv n cv,.U nd.owner,.I nd.mode,.map (some hh),.U nd.aB,.U nd.gen,.map (some uu)] 137))=>ag (ay hb 0) (ag (ay hb 1) (ag (ay hb 2) (ag (ay hb 4) (ay hb 5)))));refine bO (fun w'=>w'.cell? ⟨g,0,none⟩=some (.S pv n cv)/\w'.cell? ⟨g,1,none⟩=some (.U nd.owner)/\w'.cell? ⟨g,2,none⟩=some (.I nd.mode)/\w'.cell? ⟨g,4,none⟩=some (.U nd.aB)/\w'.cell? ⟨g,5,none⟩=some (.U nd.gen)) (by rw [<-aX];exact aa HS vA (aa HC vA bA)) fun hS=>?_;rw [<-aX] at hS ⊢;clear aX bA;refine gy 0 1 2 3 4 5 6 7 hS ?_;refine gy 8 9 10 11 12 13 14 15 hS ?_;refine gC 16 17 18 19 hS ?_;refine ry [20] ?_;refine cn (fun KK hK=>?_) ?_;rotate_left;exact AllReadyH.nil
 rotate_right
 go_simp;obtain ⟨Z,hZ,bZ,zZ,-,-⟩:=aj vA #[.S pv n cv] 22;rw [<-hZ];have B1:=ae (ah qZ bZ);refine cg hK (by exact HS Z (aa HC Z B1)) fun hS=>?_;have HZ:=ae hZ;clear hK KK hZ bZ;refine ry [21] ?_;refine cn (fun KK hK=>?_) ?_;rotate_left;exact AllReadyH.nil
 rotate_right
 refine gG (by rfl) 61 _ _ (by rfl) (.S (some ⟨vA.heap.size,0,none⟩) 1 1) (by rfl) (fun _=>aa Ck _ _) (by rw [aa HZ];exact zI vA (.S pv n cv) nd.value n en (HR.below (aa qZ)) (by omega)) ?_;rintro r w5 ⟨p',c',rfl,hO5,ew⟩;refine ⟨_,rfl,?_⟩;have B5:=ae (ah qZ ew);have YK:=ae hO5;refine cg hK (by exact HS w5 (aa HC w5 B5)) fun hS=>?_;clear hK KK hO5 ew HZ B1;refine tn 22 hS ?_;have FY:=Fr.below (T:=T3) (ah SI B5);have R5:=BO.fr FY;obtain ⟨r0,r1,r2,r3,r4,r5,r6,r7,rf⟩:=R5.cells;have F5:=ae ((Fr.below (T:=T3) bY).trans FY);have R5':=ae R5;have P5:=ae (PW.below B5);clear FY R5;refine ry [23] ?_;refine cn (fun KK hK=>?_) ?_;rotate_left;exact AllReadyH.nil
 rotate_right
 go_simp;obtain ⟨U,hU⟩:=ax (fg w5 (w.heap.size+1) (.I 0) (.U nd.owner) (.U nd.aB) (.U nd.gen) (.I nd.mode) (.S p' n c') (.S none 0 0) (.S none 0 0));have HU:=ae hU;have gU:U.heap[g]?=w5.heap[g]?:=by rw [hU];exact gu (by omega)
 unfold fg bg at hU;rw [<-hU];refine cg hK (by exact HS U (gU.trans (aa HC w5 B5))) fun hS=>?_;clear hK KK hU gU r0 r1 r2 r3 r4 r5 r6 r7 rf;refine bu ?_;clear hS;go_wp2;rw [aa HU];have zA:w.heap.size+2<=vA.heap.size:=by have:=qZ.size;have:=SI.size;omega
 exact kT R5' (by kernel_rfl) rfl rfl ⟨p',c',w5,PS.rep P5 R5' (by omega) _ _ _ _ _ _ _ _,F5.low ((aO _ (w.heap.size+1) _ _ _ _ _ _ _ _).mono (by omega)),rfl,YK.mono zA,fun z bL=>gu bL⟩
theorem jw {P:Program} {ops:Array Oper} {o:Oper} {a:Act} {K:Act->World->Prop} {Q:Exit->Act->World->Prop} {E:Prop} {R:Ending->World->Prop} (hw:Region.wanted o (yielded ops a.tmps)=true) (f:FuncId) (x1 x2:Operand) (Cq:Array TypeId)
  (ho:o.op=.call { callee:=.value (.func f),args:=#[x1,x2],argTypes:=Cq }) (v1 v2:Value) (h1:a.eval x1=v1) (h2:a.eval x2=v2) (ve:∀ vs,(callFunc f vs).run P w=.ok (.enter f vs) w) (hc:Calls P f #[v1,v2] w R) (hR:∀ e w',R e w'->∃ v,e=.returned v/\K (a.put o.dst v) w') :
  if Region.wanted o (yielded ops a.tmps)=true then Oper.wp P o a w K Q else E:=by
 rw [if_pos hw];have cK:(execOp a.eval o).run P w=.ok (.enter f #[v1,v2]) w:=by subst h1 h2;unfold execOp;simp [go_sem,ho,resolve,invoke,ve]
 show o.upon P a K Q _;rw [cK,Oper.upon_enter];refine hc.mono ?_;intro e w' h;obtain ⟨v,rfl,hk⟩:=hR e w' h;exact hk
def NR (ns:List aD) (P:List Int) (S E G:Int):Int:=match fE ns P with
 | none=>0
 | some nd=>if nd.mode=1/\nd.holders.contains S=true/\nd.aB=E/\nd.gen=G then 1 else 0
theorem NS (w:World) (b bs bn:Nat) (D:SD) (SB NB HB UB:List Nat) (h:Hid (PS w0 w b bs bn D SB NB HB UB)) (P:List Int) (hB:Hid (bM P)) (jR:Hid (P.length<=1048576)) (rh:Hid (∀ nd∈D.ns,bM nd.path)) (id:Int) (hid:0<=id/\id<18446744073709551616) (E G:Int) (N:Int) (eN:Hid (NR D.ns P id E G=N)) :
  Calls prog 277 #[.agg #[.U id,.string (aC P),.U E,.U G],.pointer (some ⟨b,0,none⟩)] w (jU w0 w b bs bn D SB NB HB UB { rp0 with n:=N }):=by
 obtain ⟨X,Y,hX,hY,bY,zX,zY,BX,RY⟩:=iY w #[.U id,.string (aC P),.U E,.U G] 213;have sU:=h.be.size;have e:=aa eN;unfold NR at e;go_enter func277,ntmps277;go_wp2_with fail;rw [<-hX,<-hY];refine fx (by kernel_rfl) (fun W eW=>?_);have nR:=dG eW;have PW:=ae (h.below (ah bY nR));have SI:=ae nR;have MF:=(nR.block w.heap.size (by omega)).trans BX;have c1:=ay MF 1;have BO:=ae RY;have BXW:=ae MF;obtain ⟨-,-,-,-,-,k5,-⟩:=PW.dC;clear hX hY eW BX RY MF nR;cases hF:fE D.ns P with
 | none=>
  rw [hF] at e;have e':N=0:=by rw [<-e]
  subst e';have cK:=PW.Ha hF hB rh (by have:=aa jR;omega);clear hF e
  repeat still_step
  refine wpStill_nil ?_;go_wp2_with fail;clear cK c1 k5;obtain ⟨vA,aX⟩:=ax W.drew;have b2:=dG aX;refine bO (fun _=>True) trivial fun hS=>?_;rw [<-aX];clear aX;refine fe 0 1 hS ?_;refine iI 2 3 4 5 hS ?_;refine sn 6 hS ?_;refine fe 7 8 hS ?_;refine iI 9 10 11 12 hS ?_;refine sn 13 hS ?_;refine fe 14 15 hS ?_;refine iI 16 17 18 19 hS ?_;refine sn 20 hS ?_;refine sn 21 hS ?_;refine sn 22 hS ?_;refine fe 23 24 hS ?_;refine iI 25 26 27 28 hS ?_;refine sn 29 hS ?_;refine sn 30 hS ?_;refine sn 31 hS ?_;refine tn 32 hS ?_;refine bu ?_;clear hS;have P2:=ae (PW.below b2);have FY:=Fr.below (T:=T3) (ah SI b2);have R2:=BO.fr FY;obtain ⟨r0,r1,r2,r3,r4,r5,r6,r7,rf⟩:=R2.cells;have F2:=ae ((Fr.below (T:=T3) bY).trans FY);have Oo:=ae R2;clear FY R2 b2;go_wp2;exact gQ P2 F2 Oo sU (by kernel_rfl) rfl rfl rfl
 | some nd=>
  rw [hF] at e;obtain ⟨rfl,i,hi⟩:=mg hF;obtain ⟨g,hh,uu,q1,q2,q3,hN⟩:=PW.nat hi;have cK:=PW.Re hi q1 (by have:=aa jR;omega);have IX:=ae (ag hi (ag q1 (ag q2 q3)));have E0:=ae e;clear hF e hi q1 q2 q3 hN
  repeat still_step
  refine wpStill_nil ?_;go_wp2_with fail;clear cK c1 k5;have Jd:=ae (fun (v:World) (hv:Bw W v)=>(PW.below hv).jC i nd g hh uu IX.1 IX.2.1 IX.2.2.1 IX.2.2.2);by_cases hm:nd.mode=1;{
 have m1:(nd.mode==1)=true:=by simp [hm]
 have HM:=ae hm;clear hm;obtain ⟨B,eB⟩:=aL (nd.holders.contains id);obtain ⟨V,-,-,-,-,g2,-,g4,g5,-⟩:=(aa Jd W aJ).cells;have y0:=ay BXW 0;have y2:=ay BXW 2;have y3:=ay BXW 3;have HS:=ae (fun (v:World) (hv:Bw W v)=>ag (af g2 hv) (ag (af g4 hv) (ag (af g5 hv) (ag (af y0 hv) (ag (af y2 hv) (af y3 hv))))));have Ck:=ae (fun (vs:Array Value) (w:World)=>show (callFunc 258 vs).run prog w=.ok (.enter 258 vs) w by kernel_rfl);clear g2 g4 g5 y0 y2 y3;cases B with
 | false=>
  have e':N=0:=by have:=aa E0;rw [aa eB] at this;rw [<-this];simp
  subst e';obtain ⟨vA,aX⟩:=ax W.drew;have bA:=dG aX;refine bO (fun w'=>w'.cell? ⟨g,2,none⟩=some (.I nd.mode)/\w'.cell? ⟨g,4,none⟩=some (.U nd.aB)/\w'.cell? ⟨g,5,none⟩=some (.U nd.gen)/\w'.cell? ⟨w.heap.size,0,none⟩=some (.U id)/\w'.cell? ⟨w.heap.size,2,none⟩=some (.U E)/\w'.cell? ⟨w.heap.size,3,none⟩=some (.U G)) (by rw [<-aX];exact aa HS vA bA) fun hS=>?_;rw [<-aX] at hS ⊢;have qZ:=ae bA;clear aX bA;refine gy 0 1 2 3 4 5 6 7 hS ?_;refine gC 8 9 10 11 hS ?_;refine tn 12 hS ?_;refine ry [13] ?_;refine cn (fun KK hK=>?_) ?_;rotate_left;exact AllReadyH.nil
  rotate_right
  refine jw (by rfl) 258 _ _ _ (by rfl) (.pointer (some ⟨g,0,none⟩)) (.U id) (by rfl) (by rfl) (fun _=>aa Ck _ _) (fV vA g hh uu nd (ae (aa Jd vA qZ)) id hid _ eB) ?_;rintro r W2 ⟨rfl,ew⟩;refine ⟨_,rfl,?_⟩;have B5:=ae (ah qZ ew);refine cg hK (by exact HS W2 B5) fun hS=>?_;clear hK KK ew;refine fe 14 15 hS ?_;refine iI 16 17 18 19 hS ?_;refine sn 20 hS ?_;refine sn 21 hS ?_;refine sn 22 hS ?_;refine fe 23 24 hS ?_;refine iI 25 26 27 28 hS ?_;refine sn 29 hS ?_;refine sn 30 hS ?_;refine sn 31 hS ?_;refine tn 32 hS ?_;refine bu ?_;clear hS;have b2:=aa B5;have P2:=ae (PW.below b2);have FY:=Fr.below (T:=T3) (ah SI b2);have R2:=BO.fr FY;obtain ⟨r0,r1,r2,r3,r4,r5,r6,r7,rf⟩:=R2.cells;have F2:=ae ((Fr.below (T:=T3) bY).trans FY);have Oo:=ae R2;clear FY R2 b2;go_wp2;exact gQ P2 F2 Oo sU (by kernel_rfl) rfl rfl rfl
 | true=>
  by_cases h4:nd.aB=E;{
 have h4':(nd.aB==E)=true:=by simp [h4]
 by_cases h5:nd.gen=G;{
 have h5':(nd.gen==G)=true:=by simp [h5]
 have e':N=1:=by have:=aa E0;rw [aa eB] at this;rw [<-this];simp [aa HM,h4,h5]
 subst e';clear h4 h5;obtain ⟨vA,aX⟩:=ax W.drew;have bA:=dG aX;refine bO (fun w'=>w'.cell? ⟨g,2,none⟩=some (.I nd.mode)/\w'.cell? ⟨g,4,none⟩=some (.U nd.aB)/\w'.cell? ⟨g,5,none⟩=some (.U nd.gen)/\w'.cell? ⟨w.heap.size,0,none⟩=some (.U id)/\w'.cell? ⟨w.heap.size,2,none⟩=some (.U E)/\w'.cell? ⟨w.heap.size,3,none⟩=some (.U G)) (by rw [<-aX];exact aa HS vA bA) fun hS=>?_;rw [<-aX] at hS ⊢;have qZ:=ae bA;clear aX bA;refine gy 0 1 2 3 4 5 6 7 hS ?_;refine gC 8 9 10 11 hS ?_;refine tn 12 hS ?_;refine ry [13] ?_;refine cn (fun KK hK=>?_) ?_;rotate_left;exact AllReadyH.nil
 rotate_right
 refine jw (by rfl) 258 _ _ _ (by rfl) (.pointer (some ⟨g,0,none⟩)) (.U id) (by rfl) (by rfl) (fun _=>aa Ck _ _) (fV vA g hh uu nd (ae (aa Jd vA qZ)) id hid _ eB) ?_;rintro r W2 ⟨rfl,ew⟩;refine ⟨_,rfl,?_⟩;have B5:=ae (ah qZ ew);refine cg hK (by exact HS W2 B5) fun hS=>?_;clear hK KK ew;refine gy 14 15 16 17 18 19 20 21 hS ?_;refine gy 22 23 24 25 26 27 28 29 hS ?_;refine fe 30 31 hS ?_;refine tn 32 hS ?_;refine bu ?_;clear hS;have b2:=aa B5;have P2:=ae (PW.below b2);have FY:=Fr.below (T:=T3) (ah SI b2);have R2:=BO.fr FY;obtain ⟨r0,r1,r2,r3,r4,r5,r6,r7,rf⟩:=R2.cells;have F2:=ae ((Fr.below (T:=T3) bY).trans FY);have Oo:=ae R2;clear FY R2 b2;go_wp2;exact gQ P2 F2 Oo sU (by kernel_rfl) rfl rfl rfl};{
 have h5':(nd.gen==G)=false:=by simp [h5]
 have e':N=0:=by have:=aa E0;rw [aa eB] at this;rw [<-this];simp [h5]
 subst e';clear h4 h5;obtain ⟨vA,aX⟩:=ax W.drew;have bA:=dG aX;refine bO (fun w'=>w'.cell? ⟨g,2,none⟩=some (.I nd.mode)/\w'.cell? ⟨g,4,none⟩=some (.U nd.aB)/\w'.cell? ⟨g,5,none⟩=some (.U nd.gen)/\w'.cell? ⟨w.heap.size,0,none⟩=some (.U id)/\w'.cell? ⟨w.heap.size,2,none⟩=some (.U E)/\w'.cell? ⟨w.heap.size,3,none⟩=some (.U G)) (by rw [<-aX];exact aa HS vA bA) fun hS=>?_;rw [<-aX] at hS ⊢;have qZ:=ae bA;clear aX bA;refine gy 0 1 2 3 4 5 6 7 hS ?_;refine gC 8 9 10 11 hS ?_;refine tn 12 hS ?_;refine ry [13] ?_;refine cn (fun KK hK=>?_) ?_;rotate_left;exact AllReadyH.nil
 rotate_right
 refine jw (by rfl) 258 _ _ _ (by rfl) (.pointer (some ⟨g,0,none⟩)) (.U id) (by rfl) (by rfl) (fun _=>aa Ck _ _) (fV vA g hh uu nd (ae (aa Jd vA qZ)) id hid _ eB) ?_;rintro r W2 ⟨rfl,ew⟩;refine ⟨_,rfl,?_⟩;have B5:=ae (ah qZ ew);refine cg hK (by exact HS W2 B5) fun hS=>?_;clear hK KK ew;refine gy 14 15 16 17 18 19 20 21 hS ?_;refine gy 22 23 24 25 26 27 28 29 hS ?_;refine fe 30 31 hS ?_;refine tn 32 hS ?_;refine bu ?_;clear hS;have b2:=aa B5;have P2:=ae (PW.below b2);have FY:=Fr.below (T:=T3) (ah SI b2);have R2:=BO.fr FY;obtain ⟨r0,r1,r2,r3,r4,r5,r6,r7,rf⟩:=R2.cells;have F2:=ae ((Fr.below (T:=T3) bY).trans FY);have Oo:=ae R2;clear FY R2 b2;go_wp2;exact gQ P2 F2 Oo sU (by kernel_rfl) rfl rfl rfl}};{
 have h4':(nd.aB==E)=false:=by simp [h4]
 have e':N=0:=by have:=aa E0;rw [aa eB] at this;rw [<-this];simp [h4]
 subst e';clear h4;obtain ⟨vA,aX⟩:=ax W.drew;have bA:=dG aX;refine bO (fun w'=>w'.cell? ⟨g,2,none⟩=some (.I nd.mode)/\w'.cell? ⟨g,4,none⟩=some (.U nd.aB)/\w'.cell? ⟨g,5,none⟩=some (.U nd.gen)/\w'.cell? ⟨w.heap.size,0,none⟩=some (.U id)/\w'.cell? ⟨w.heap.size,2,none⟩=some (.U E)/\w'.cell? ⟨w.heap.size,3,none⟩=some (.U G)) (by rw [<-aX];exact aa HS vA bA) fun hS=>?_;rw [<-aX] at hS ⊢;have qZ:=ae bA;clear aX bA;refine gy 0 1 2 3 4 5 6 7 hS ?_;refine gC 8 9 10 11 hS ?_;refine tn 12 hS ?_;refine ry [13] ?_;refine cn (fun KK hK=>?_) ?_;rotate_left;exact AllReadyH.nil
 rotate_right
 refine jw (by rfl) 258 _ _ _ (by rfl) (.pointer (some ⟨g,0,none⟩)) (.U id) (by rfl) (by rfl) (fun _=>aa Ck _ _) (fV vA g hh uu nd (ae (aa Jd vA qZ)) id hid _ eB) ?_;rintro r W2 ⟨rfl,ew⟩;refine ⟨_,rfl,?_⟩;have B5:=ae (ah qZ ew);refine cg hK (by exact HS W2 B5) fun hS=>?_;clear hK KK ew;refine gy 14 15 16 17 18 19 20 21 hS ?_;refine fe 22 23 hS ?_;refine tn 24 hS ?_;refine iI 25 26 27 28 hS ?_;refine sn 29 hS ?_;refine sn 30 hS ?_;refine sn 31 hS ?_;refine tn 32 hS ?_;refine bu ?_;clear hS;have b2:=aa B5;have P2:=ae (PW.below b2);have FY:=Fr.below (T:=T3) (ah SI b2);have R2:=BO.fr FY;obtain ⟨r0,r1,r2,r3,r4,r5,r6,r7,rf⟩:=R2.cells;have F2:=ae ((Fr.below (T:=T3) bY).trans FY);have Oo:=ae R2;clear FY R2 b2;go_wp2;exact gQ P2 F2 Oo sU (by kernel_rfl) rfl rfl rfl}};{
 have m1:(nd.mode==1)=false:=by simp [hm]
 have e':N=0:=by have:=aa E0;rw [<-this];simp [hm]
 subst e';clear hm;obtain ⟨vA,aX⟩:=ax W.drew;have b2:=dG aX;obtain ⟨V,-,-,-,-,g2,-⟩:=(aa Jd vA b2).cells;refine bO (fun w'=>w'.cell? ⟨g,2,none⟩=some (.I nd.mode)) (by rw [<-aX];exact g2) fun hS=>?_;rw [<-aX] at hS ⊢;clear aX;refine gy 0 1 2 3 4 5 6 7 hS ?_;refine tn 8 hS ?_;refine iI 9 10 11 12 hS ?_;refine sn 13 hS ?_;refine fe 14 15 hS ?_;refine iI 16 17 18 19 hS ?_;refine sn 20 hS ?_;refine sn 21 hS ?_;refine sn 22 hS ?_;refine fe 23 24 hS ?_;refine iI 25 26 27 28 hS ?_;refine sn 29 hS ?_;refine sn 30 hS ?_;refine sn 31 hS ?_;refine tn 32 hS ?_;refine bu ?_;clear hS;have P2:=ae (PW.below b2);have FY:=Fr.below (T:=T3) (ah SI b2);have R2:=BO.fr FY;obtain ⟨r0,r1,r2,r3,r4,r5,r6,r7,rf⟩:=R2.cells;have F2:=ae ((Fr.below (T:=T3) bY).trans FY);have Oo:=ae R2;clear FY R2 b2;go_wp2;exact gQ P2 F2 Oo sU (by kernel_rfl) rfl rfl rfl}
theorem DL {l:List Int} (h:l.length=1) (s:Int):l.headD 0=s↔l.contains s=true:=by
 match l,h with
 | [y],_=>
  simp;exact ⟨fun e=>e.symm,fun e=>e.symm⟩
theorem Qf (h:nd.mode=1->nd.holders.length=1):KM nd s=if nd.mode=1/\nd.holders.headD 0≠s then 9 else 0:=by
 unfold KM;by_cases hm:nd.mode=1;{have:=DL (h hm) s;by_cases hc:nd.holders.contains s=true;{rw [if_neg (by rw [hc];simp),if_neg (fun e=>e.2 (this.2 hc))]};{rw [if_pos ⟨hm,by simpa using hc⟩,if_pos ⟨hm,fun e=>hc (this.1 e)⟩]}};{rw [if_neg (fun e=>hm e.1),if_neg (fun e=>hm e.1)]}
theorem Sl {ns:List aD} {S E G:Int} (h:∀ nd∈ns,nd.mode=1->nd.holders.length=1):NR ns P S E G=kI ns P S E G:=by
 unfold NR kI;cases hF:fE ns P with
 | none=>rfl
 | some nd=>
  have hm:=h nd (List.mem_of_find?_eq_some hF);by_cases h1:nd.mode=1;{have:=DL (hm h1) S;simp only [h1,true_and,this]};{simp [h1]}
theorem Lw {F:Int} (hk:D.ns[k]?=some nd) (h:jV D nd s F≠0):iC D k s F=(D,sV (jV D nd s F)):=by
 unfold jV at h ⊢;simp only [iC,hk];generalize nd.holders.contains s=B at h ⊢;cases B;{by_cases h2:F=2;{by_cases h3:nd.mode=1;{simp [h2,h3]};{simp [h2,h3] at h}};{by_cases h3:nd.mode=0;{by_cases h4:4611686018427387904<=D.g;{simp [h2,h3,h4]};{simp [h2,h3,h4] at h}};{simp [h2,h3]}}};{simp}
theorem IL (hk:D.ns[k]?=some nd) (h:jV D nd s 2=0):iC D k s 2=({ D with ns:=D.ns.set k { nd with mode:=2,holders:=ig nd.holders s } },rp0):=by
 unfold jV at h;simp only [iC,hk];generalize nd.holders.contains s=B at h ⊢;cases B;{by_cases h3:nd.mode=1;{simp [h3] at h};{simp [h3]}};{simp at h}
theorem IM (hk:D.ns[k]?=some nd) (hh:nd.mode=0->nd.holders=[]) (h:jV D nd s 1=0):iC D k s 1=({ D with g:=D.g+1,ns:=D.ns.set k { nd with mode:=1,holders:=ig nd.holders s,aB:=D.e,gen:=D.g+1 } },{ rp0 with e:=D.e,g:=D.g+1 })/\D.g<4611686018427387904:=by
 unfold jV at h;simp only [iC,hk];generalize nd.holders.contains s=B at h ⊢;cases B;{by_cases h3:nd.mode=0;{by_cases h4:4611686018427387904<=D.g;{simp [h3,h4] at h};{refine ⟨?_,by omega⟩;rw [hh h3];simp [h3,h4,ig]}};{simp [h3] at h}};{simp at h}
theorem Gm {S F:Int} (h:BG D P≠0):fG D P V S F=(D,sV (BG D P)):=by
 unfold BG at h ⊢;unfold fG;by_cases h1:(fE D.ns P).isSome=true;{simp [h1]};{by_cases h2:dw D.ns (dm P)=false;{simp [h1,h2]};{by_cases h3:200<=D.ns.length;{simp [h1,h2,h3]};{simp [h1,h2,h3] at h}}}
theorem uF {S F:Int} (h:BG D P=0):fG D P V S F=({ D with ns:=jq (gj P V (if F=1 then S else 0)) D.ns },rp0)/\fE D.ns P=none/\D.ns.length<200:=by
 unfold BG at h;unfold fG;by_cases h1:(fE D.ns P).isSome=true;{simp [h1] at h};{by_cases h2:dw D.ns (dm P)=false;{simp [h1,h2] at h};{by_cases h3:200<=D.ns.length;{simp [h1,h2,h3] at h};{exact ⟨by simp [h1,h2,h3],by simpa using h1,by omega⟩}}}
theorem Lh (h:rQ D≠0):ik D=(D,sV (rQ D)):=by
 unfold rQ at h ⊢;unfold ik;by_cases h1:50<=D.ss.length;{simp [h1]};{by_cases h2:4611686018427387904<=D.x;{simp [h1,h2]};{simp [h1,h2] at h}}
theorem zl (h:rQ D=0):ik D=({ D with x:=D.x+1,ss:=D.ss++[(D.x+1,D.t+10,[])] },{ rp0 with i:=D.x+1,n:=D.t+10 })/\D.ss.length<50/\D.x<4611686018427387904:=by
 unfold rQ at h;unfold ik;by_cases h1:50<=D.ss.length;{simp [h1] at h};{by_cases h2:4611686018427387904<=D.x;{simp [h1,h2] at h};{exact ⟨by simp [h1,h2],by omega,by omega⟩}}
def Tg (K:Int):Bool:=(K==5||(K==6||(K==7||(K==8||(K==9||(K==11||K==13))))))
theorem G9 (k:Nat) (h1:1<=k) (h2:k<=13) (w:World):Calls prog 166 #[.I (k:Int)] w fun r w'=>r=.returned (.bool (Tg k))/\w'=w:=by
 have h:k=1\/k=2\/k=3\/k=4\/k=5\/k=6\/k=7\/k=8\/k=9\/k=10\/k=11\/k=12\/k=13:=by omega
 clear h1 h2;rcases h with rfl | rfl | rfl | rfl | rfl | rfl | rfl | rfl | rfl | rfl | rfl | rfl | rfl
 all_goals
  go_enter func166,ntmps166;go_wp2;go_ret;exact ⟨rfl,rfl⟩
def ng (D:SD) (K:Int) (P:List Int):Int:=if jA K P=true then 0 else if vp P=false then 4 else if Tg K=true/\(fE D.ns P).isNone=true then 5 else 0
theorem ab4 (w:World) (b bs bn:Nat) (D:SD) (SB NB HB UB:List Nat) (h:Hid (PS w0 w b bs bn D SB NB HB UB)) (rh:Hid (∀ nd∈D.ns,bM nd.path)) (k:Nat) (h1:1<=k) (h2:k<=13) (S F E G:Int) (pp:Option Addr) (np cp:Nat) (pq:Option Addr) (nv cv:Nat) (P:List Int) (eP:Hid (P.length=np)) (hP:Hid (Rd w (.S pp np cp) P)) (hB:Hid (bM P)) (hp:np<=1048576) (kH:np<=cp) (jF:Hid (cp<=maxLen)) (hm:Hid (∃ m,w.cell? ⟨2,0,none⟩=some (.I m))) (C:Int) (eC:Hid (ng D k P=C)) :
  Calls prog 139 #[.pointer (some ⟨b,0,none⟩),lW k S (.S pp np cp) F (.S pq nv cv) E G] w fun r w'=>r=.returned (vJ C)/\Bw w w':=by
 obtain ⟨X,hX,bX,zX,CX,-⟩:=aj w #[.I (k:Int),.U S,.S pp np cp,.I F,.S pq nv cv,.U E,.U G] 29;have hcv:=fun (ob:Obj)=>gH eP (hP.below ((Below.refl w.heap.size w).alloc aA ob));have iU:((aC P).toList==(aC [47]).toList)=decide (P=[47]):=sL (aa hB) (by intro y hy;simp at hy;omega);rw [show (aC [47]).toList=[47] from dR [47]] at iU;have e:=aa eC;unfold ng jA at e;obtain ⟨st,Nk⟩:=aL (aC P);rw [aa Nk] at iU;simp only [aa Nk] at hcv;by_cases IW:(k:Int)=13/\P=[47];{
 have e13:((k:Int)==13)=true:=by simp [IW.1]
 have hr:(st.toList==[47])=true:=by rw [iU];simp [IW.2]
 have e':C=0:=by rw [<-e];simp [IW.1,IW.2]
 subst e';clear e IW iU;go_enter func139,ntmps139;go_wp2;go_ret;exact ⟨rfl,aJ.alloc aA _⟩};{
 have e1:(if vp P=false then 4 else if Tg k=true/\(fE D.ns P).isNone=true then 5 else 0)=C:=by
  rw [<-e];have:(decide ((k:Int)=13)&&decide (P=[47]))=false:=by simpa using IW
  rw [this];simp
 have E1:=ae e1;have aL9:∃ t,Hid (((k:Int)==13)=t/\(t=true->(st.toList==[47])=false)):=⟨_,ae ⟨rfl,fun ht=>by rw [iU];simp at ht;simpa using fun hP=>IW ⟨by omega,hP⟩⟩⟩
 obtain ⟨t,ht⟩:=aL9;obtain ⟨B,eB⟩:=aL (vp P);clear e e1 IW iU;go_enter func139,ntmps139;have STEP:True:=trivial;cases t
 all_goals
  obtain ⟨e13,dz⟩:=aa ht
  try have bQ0:=dz rfl
  clear dz;go_wp2_with fail;rw [<-hX];refine (Fx pp cp np P eP X (hP.below bX) hB hp kH jF (hm.imp fun m hm=>af hm bX) B eB).mono ?_;rintro r w2 ⟨rfl,bk⟩;have XT:=CX.aS (w':=w2) (bk.block _ (by omega));have B2:=ae (ah bX bk);have e:=aa E1;rw [aa eB] at e;clear bk hcv e13;cases B;{
 have e':C=4:=by rw [<-e];rfl
 subst e';clear e;go_wp2;go_ret;exact ⟨rfl,B2⟩};{
 have e2:(if Tg k=true/\(fE D.ns P).isNone=true then 5 else 0)=C:=by simpa using e
 have E2:=ae e2;clear e e2;go_wp2_with fail;refine fx (by kernel_rfl) (fun W eW=>?_);have bW:Bw w W:=by rw [eW];exact B2.drew
 have PW:=ae (h.below bW);obtain ⟨-,-,-,-,-,k5,-⟩:=PW.dC;have CW:=XT.aS (w':=W) (by rw [eW];rfl);have c0:=CW.1 0 _ rfl;have c2:=CW.1 2 _ rfl;have hcv:=gH eP (hP.below bW);rw [aa Nk] at hcv;clear eW CW XT;cases hF:fE D.ns P with
 | none=>
  have cK:=PW.Ha hF (aa hB) (aa rh) (by rw [aa eP];omega);rw [aa Nk] at cK;have e:=aa E2;rw [hF] at e;clear hF
  repeat still_step
  refine wpStill_nil ?_;go_wp2_with fail;refine (G9 k h1 h2 W).mono ?_;rintro r w5 ⟨rfl,rfl⟩;obtain ⟨T,eT⟩:=aH (Tg k);rw [eT] at e ⊢;clear eT;cases T;{
 have e':C=0:=by rw [<-e];simp
 subst e';clear e;go_wp2;go_ret;exact ⟨rfl,bW⟩};{
 have e':C=5:=by rw [<-e];simp
 subst e';clear e;go_wp2;go_ret;exact ⟨rfl,bW⟩}
 | some nd=>
  obtain ⟨rfl,i,hi⟩:=mg hF;obtain ⟨g1,Hr,u1,q1,-,-,hN⟩:=PW.nat hi;have cK:=PW.Re hi q1 (by rw [aa eP];omega);rw [aa Nk] at cK;have e:=aa E2;rw [hF] at e;have e':C=0:=by rw [<-e];simp
  subst e';clear hF hi q1 hN e
  repeat still_step
  refine wpStill_nil ?_;go_wp2_with fail;refine (G9 k h1 h2 W).mono ?_;rintro r w5 ⟨rfl,rfl⟩;obtain ⟨T,eT⟩:=aH (Tg k);rw [eT];clear eT;cases T;{go_wp2;go_ret;exact ⟨rfl,bW⟩};{go_wp2;go_ret;exact ⟨rfl,bW⟩}}}
theorem PS.okS {b bs bn:Nat} {SB NB HB UB:List Nat} (h:PS w0 w b bs bn D SB NB HB UB) {S:Int} (hr:0<=S/\S<18446744073709551616):∃ v,(Instr.lookup 129 (.map (some bs)) (.U S) true).run prog w=.ok (.tuple #[.pointer v,.bool (decide (0<=lT D.ss S))]) w:=by
 obtain ⟨M,n,o,-,m,-⟩:=h.my;obtain ⟨v,ps,hrn,hv⟩:=o.look_ok gR underlying129 (Cm w) (zd:=.nil) (zp:=[]) rfl (key:=.U S) (keyOf_int_mk underlying23 (jO hr));by_cases hs:lT D.ss S<0;{
 have hh:Maps.has M (.U S)=false:=by
  rw [Bool.eq_false_iff];intro e;obtain ⟨p,hp,e2⟩:=(m.hs _).1 e;obtain ⟨i,s,y,hx,hy,rfl⟩:=gM hp;simp only [Lit.int.injEq,true_and] at e2;unfold lT at hs;cases hf:D.ss.findIdx? (fun s=>s.1==S) with
  | some k=>rw [hf] at hs;simp at hs;omega
  | none=>
   have:=List.findIdx?_eq_none_iff.1 hf s (aF hx);simp [e2] at this
 rw [Maps.atKey_of_not_has hh] at hv;obtain rfl:=ox hv;refine ⟨none,?_⟩;rw [hrn,hh,show decide (0<=lT D.ss S)=false by simp;omega]};{
 obtain ⟨k,s,e1,hk⟩:=AE hs;obtain ⟨g,hg,-⟩:=h.sat hk;have es:s.1=S:=by
  unfold lT at e1;cases hf:D.ss.findIdx? (fun s=>s.1==S) with
  | none=>rw [hf] at e1;simp at e1
  | some k'=>
   rw [hf] at e1;simp at e1;obtain ⟨h1,h2,-⟩:=List.findIdx?_eq_some_iff_getElem.1 hf;have ek:k'=k:=by omega
   subst ek;have:D.ss[k']=s:=by rw [aK h1] at hk;simpa using hk
   rw [<-this];simpa using h2
 subst es;have hp:(Lit.U s.1,g)∈List.zipWith (fun (s:aY) g=>(Lit.U s.1,g)) D.ss SB:=aF (i:=k) (by rw [List.getElem?_zipWith,hk,hg]);rw [m.at' _ hp] at hv;obtain rfl:=iB hv;refine ⟨some ⟨g,0,none⟩,?_⟩;rw [hrn,(m.hs _).2 ⟨_,hp,rfl⟩,show decide (0<=lT D.ss s.1)=true by simp;omega]}
def oQ (D:SD) (se pa B:Bool) (K S:Int) (P:List Int):Int:=if B=false then 2 else if se=true/\lT D.ss S<0 then 3 else if pa=true then ng D K P else 0
theorem NM (w:World) (b bs bn:Nat) (D:SD) (SB NB HB UB:List Nat) (h:Hid (PS w0 w b bs bn D SB NB HB UB)) (rh:Hid (∀ nd∈D.ns,bM nd.path)) (k:Nat) (h1:1<=k) (h2:k<=13) (S F E G:Int) (hS:0<=S/\S<18446744073709551616) (pp:Option Addr) (np cp:Nat) (pq:Option Addr) (nv cv:Nat) (P:List Int) (eP:Hid (P.length=np)) (hP:Hid (Rd w (.S pp np cp) P)) (hB:Hid (bM P)) (hp:np<=1048576) (kH:np<=cp) (jF:Hid (cp<=maxLen)) (hm:Hid (∃ m,w.cell? ⟨2,0,none⟩=some (.I m))) (se pa:Bool) (lo hi vs:Int) (sq jo:Bool) (hT:Hid (sR w 0 (k*7) se pa lo hi vs sq jo)) (B:Bool) (eB:Hid (Jf se pa lo hi vs sq S F np nv E G=B)) (C:Int) (eC:Hid (oQ D se pa B k S P=C)) :
  Calls prog 93 #[.pointer (some ⟨b,0,none⟩),lW k S (.S pp np cp) F (.S pq nv cv) E G] w fun r w'=>r=.returned (vJ C)/\Bw w w':=by
 obtain ⟨X,hX,bX,zX,CX,-⟩:=aj w #[.I (k:Int),.U S,.S pp np cp,.I F,.S pq nv cv,.U E,.U G] 29;have e:=aa eC;unfold oQ at e;have i3:(k:Int)<14:=by omega
 have i4:k<14:=by omega
 have i5:=dE 0 k;go_enter func93,ntmps93;go_wp2_with fail;rw [<-hX];refine (vT k h1 h2 se pa lo hi vs sq jo S F E G pp pq np nv cp cv X (hT.below bX) B eB).mono ?_;rintro r w2 ⟨rfl,bk⟩;have XT:=CX.aS (w':=w2) (bk.block _ (by omega));have B2:=ae (ah bX bk);clear bk hX CX;cases B;{
 have e':C=2:=by rw [<-e];rfl
 subst e';clear e;go_wp2;go_ret;exact ⟨rfl,B2⟩};{
 have e2:(if se=true/\lT D.ss S<0 then 3 else if pa=true then ng D k P else 0)=C:=by simpa using e
 have E2:=ae e2;clear e e2;go_wp2_with fail;refine fx (by kernel_rfl) (fun W eW=>?_);have bW:Bw w W:=by rw [eW];exact B2.drew
 have PW:=ae (h.below bW);obtain ⟨-,-,-,-,k4,-,-⟩:=PW.dC;have CW:=XT.aS (w':=W) (by rw [eW];rfl);have c0:=CW.1 0 _ rfl;have c1:=CW.1 1 _ rfl;have c2:=CW.1 2 _ rfl;have c3:=CW.1 3 _ rfl;have c4:=CW.1 4 _ rfl;have c5:=CW.1 5 _ rfl;have c6:=CW.1 6 _ rfl;obtain ⟨t0,t1,-⟩:=hT.below bW;obtain ⟨v,cK⟩:=PW.okS (S:=S) hS;obtain ⟨T,eT⟩:∃ T,Hid (decide (0<=lT D.ss S)=T):=⟨_,ae rfl⟩;rw [aa eT] at cK;have e:=aa E2;have ai6:(lT D.ss S<0)↔T=false:=by rw [<-aa eT];simp
 simp only [ai6] at e;clear eW CW XT ai6
 repeat still_step
 refine wpStill_nil ?_;clear cK k4;by_cases hx:se=true/\T=false;{
 obtain ⟨rfl,rfl⟩:=hx;have e':C=3:=by rw [<-e];simp
 subst e';clear e;go_wp2;go_ret;exact ⟨rfl,bW⟩};{
 have e3:(if pa=true then ng D k P else 0)=C:=by rw [if_neg hx] at e;exact e
 have E3:=ae e3;clear e e3;have LO:(se=false/\T=false)\/(se=false/\T=true)\/(se=true/\T=true):=by cases se<;>cases T<;>simp at hx ⊢
 clear hx;rcases LO with ⟨rfl,rfl⟩ | ⟨rfl,rfl⟩ | ⟨rfl,rfl⟩
 all_goals
  cases pa;{
 have e':C=0:=by have:=aa E3;rw [<-this];rfl
 subst e';go_wp2;go_ret;exact ⟨rfl,bW⟩};{
 have e3:ng D k P=C:=by have:=aa E3;rw [if_pos rfl] at this;exact this
 have E4:=ae e3;clear e3;go_wp2_with fail;refine (ab4 W b bs bn D SB NB HB UB PW rh k h1 h2 S F E G pp np cp pq nv cv P eP (ae (hP.below bW)) hB hp kH jF (ae (hm.imp fun m hm=>af hm bW)) C E4).mono ?_;rintro r w9 ⟨rfl,fo⟩;have B9:=ae (ah bW fo);clear fo;go_wp2;go_ret;exact ⟨rfl,B9⟩}}}
def Zu (k:Nat) (S:Int) (st:ByteArray) (F:Int) (V:Value) (E G:Int):Value:=match k with
 | 1=>.iface 196 (.agg #[])
 | 2=>.iface 199 (.agg #[.int .u64 S])
 | 3=>.iface 200 (.agg #[.int .u64 S])
 | 4=>.iface 202 (.agg #[.int .u64 S,.string st,.bool (F==1),V])
 | 5=>.iface 204 (.agg #[.int .u64 S,.string st])
 | 6=>.iface 206 (.agg #[.string st])
 | 7=>.iface 208 (.agg #[.int .u64 S,.string st,V])
 | 8=>.iface 210 (.agg #[.int .u64 S,.string st,.int .i64 F])
 | 9=>.iface 211 (.agg #[.int .u64 S,.string st])
 | 10=>.iface 213 (.agg #[.int .u64 S,.string st,.int .u64 E,.int .u64 G])
 | 11=>.iface 215 (.agg #[.int .u64 S,.string st])
 | 12=>.iface 216 (.agg #[.int .u64 S])
 | _=>.iface 217 (.agg #[.string st])
theorem CE (k:Nat) (h1:1<=k) (h2:k<=13) (S F E G:Int) (pp:Option Addr) (np cp:Nat) (pq:Option Addr) (nv cv:Nat) (P:List Int) (eP:Hid (P.length=np)) (w:World) (hP:Hid (Rd w (.S pp np cp) P)) :
  Calls prog 94 #[lW k S (.S pp np cp) F (.S pq nv cv) E G] w fun r w'=>r=.returned (Zu k S (aC P) F (.S pq nv cv) E G)/\Bw w w':=by
 have hcv:=fun (o1 o2:Obj)=>gH (aa eP) (hP.below (((Below.refl w.heap.size w).alloc aA o1).alloc (by simp) o2));have aO1:=fun (o1:Obj)=>gH eP (hP.below ((Below.refl w.heap.size w).alloc aA o1));obtain ⟨st,Nk⟩:=aH (aC P);simp only [Nk] at hcv aO1 ⊢;clear Nk;have h:k=1\/k=2\/k=3\/k=4\/k=5\/k=6\/k=7\/k=8\/k=9\/k=10\/k=11\/k=12\/k=13:=by omega
 clear h1 h2;rcases h with rfl | rfl | rfl | rfl | rfl | rfl | rfl | rfl | rfl | rfl | rfl | rfl | rfl
 all_goals
  go_enter func94,ntmps94;go_wp2;go_ret;exact ⟨rfl,((Below.refl w.heap.size w).alloc aA _).alloc (by simp) _⟩
theorem Jv (w:World) (b:Nat) (K S F E G:Int) (hK:K<1\/13<K) (pp:Option Addr) (np cp:Nat) (pq:Option Addr) (nv cv:Nat) :
  Calls prog 93 #[.pointer (some ⟨b,0,none⟩),lW K S (.S pp np cp) F (.S pq nv cv) E G] w fun r w'=>r=.returned (vJ 2)/\Bw w w':=by
 obtain ⟨X,hX,bX,zX,CX,-⟩:=aj w #[.I K,.U S,.S pp np cp,.I F,.S pq nv cv,.U E,.U G] 29;have HK:=ae hK;clear hK;go_enter func93,ntmps93;go_wp2_with fail;rw [<-hX];refine (vS K S F E G pp pq np nv cp cv X HK).mono ?_;rintro r w2 ⟨rfl,bk⟩;have B2:=ae (ah bX bk);clear bk hX CX;go_wp2;go_ret;exact ⟨rfl,B2⟩
end Go.Proofs.YtcfcafeciggjeaaGreatDoor
