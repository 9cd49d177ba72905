import Derived.Test.YtmfjiolopcbcmaaGreatDoorK44
import Derived.Test.YtmfjiolopcbcmaaGreatDoorK40
namespace Go.Proofs.YtmfjiolopcbcmaaGreatDoor
set_option maxHeartbeats 6400000
set_option linter.unusedVariables false
set_option linter.unusedSimpArgs false
set_option maxRecDepth 100000
variable {D:SD} {F S s:Int} {P V:List Int} {k:Nat} {nd:aA} {w0:World}
theorem CN {l:List Int} (h:l.length=1) (s:Int):l.headD 0=s↔l.contains s=true:=by
 match l,h with
 | [y],_=>
  simp;exact ⟨fun e=>e.symm,fun e=>e.symm⟩
theorem OK (h:nd.mode=1->nd.holders.length=1):JL nd s=if nd.mode=1/\nd.holders.headD 0≠s then 9 else 0:=by
 unfold JL;by_cases hm:nd.mode=1;{have:=CN (h hm) s;by_cases hc:nd.holders.contains s=true;{rw [if_neg (by rw [hc];simp),if_neg (fun e=>e.2 (this.2 hc))]};{rw [if_pos ⟨hm,by simpa using hc⟩,if_pos ⟨hm,fun e=>hc (this.1 e)⟩]}};{rw [if_neg (fun e=>hm e.1),if_neg (fun e=>hm e.1)]}
theorem QQ {ns:List aA} {E G:Int} (h:∀ nd∈ns,nd.mode=1->nd.holders.length=1):Mr ns P S E G=ka ns P S E G:=by
 unfold Mr ka;cases hF:fe ns P with
 | none=>rfl
 | some nd=>
  have hm:=h nd (List.mem_of_find?_eq_some hF);by_cases h1:nd.mode=1;{have:=CN (hm h1) S;simp only [h1,true_and,this]};{simp [h1]}
theorem Kj (hk:D.ns[k]?=some nd) (h:jF D nd s F≠0):lp D k s F=(D,rO (jF D nd s F)):=by
 unfold jF at h ⊢;simp only [lp,hk];generalize nd.holders.contains s=B at h ⊢;cases B;{by_cases h2:F=2;{by_cases h3:nd.mode=1;{simp [h2,h3]};{simp [h2,h3] at h}};{by_cases h3:nd.mode=0;{by_cases h4:4611686018427387904<=D.g;{simp [h2,h3,h4]};{simp [h2,h3,h4] at h}};{simp [h2,h3]}}};{simp}
theorem Hp (hk:D.ns[k]?=some nd) (h:jF D nd s 2=0):lp D k s 2=({ D with ns:=D.ns.set k { nd with mode:=2,holders:=mi nd.holders s } },iQ):=by
 unfold jF at h;simp only [lp,hk];generalize nd.holders.contains s=B at h ⊢;cases B;{by_cases h3:nd.mode=1;{simp [h3] at h};{simp [h3]}};{simp at h}
theorem Hq (hk:D.ns[k]?=some nd) (hh:nd.mode=0->nd.holders=[]) (h:jF D nd s 1=0):lp D k s 1=({ D with g:=D.g+1,ns:=D.ns.set k { nd with mode:=1,holders:=mi nd.holders s,aC:=D.e,gen:=D.g+1 } },{ iQ with e:=D.e,g:=D.g+1 })/\D.g<4611686018427387904:=by
 unfold jF at h;simp only [lp,hk];generalize nd.holders.contains s=B at h ⊢;cases B;{by_cases h3:nd.mode=0;{by_cases h4:4611686018427387904<=D.g;{simp [h3,h4] at h};{refine ⟨?_,by omega⟩;rw [hh h3];simp [h3,h4,mi]}};{simp [h3] at h}};{simp at h}
theorem Fs (h:Ax D P≠0):iT D P V S F=(D,rO (Ax D P)):=by
 unfold Ax at h ⊢;unfold iT;by_cases h1:(fe D.ns P).isSome=true;{simp [h1]};{by_cases h2:dy D.ns (de P)=false;{simp [h1,h2]};{by_cases h3:200<=D.ns.length;{simp [h1,h2,h3]};{simp [h1,h2,h3] at h}}}
theorem sV (h:Ax D P=0):iT D P V S F=({ D with ns:=jM (jv P V (if F=1 then S else 0)) D.ns },iQ)/\fe D.ns P=none/\D.ns.length<200:=by
 unfold Ax at h;unfold iT;by_cases h1:(fe D.ns P).isSome=true;{simp [h1] at h};{by_cases h2:dy D.ns (de P)=false;{simp [h1,h2] at h};{by_cases h3:200<=D.ns.length;{simp [h1,h2,h3] at h};{exact ⟨by simp [h1,h2,h3],by simpa using h1,by omega⟩}}}
theorem J3 (h:qT D≠0):jZ D=(D,rO (qT D)):=by
 unfold qT at h ⊢;unfold jZ;by_cases h1:50<=D.ss.length;{simp [h1]};{by_cases h2:4611686018427387904<=D.x;{simp [h1,h2]};{simp [h1,h2] at h}}
theorem xI (h:qT D=0):jZ D=({ D with x:=D.x+1,ss:=D.ss++[(D.x+1,D.t+10,[])] },{ iQ with i:=D.x+1,n:=D.t+10 })/\D.ss.length<50/\D.x<4611686018427387904:=by
 unfold qT at h;unfold jZ;by_cases h1:50<=D.ss.length;{simp [h1] at h};{by_cases h2:4611686018427387904<=D.x;{simp [h1,h2] at h};{exact ⟨by simp [h1,h2],by omega,by omega⟩}}
open Go.ChangeShapes Go.WideShapes Go.ChangeAt Go.RowKit Go.Maps Go.Proofs.Tryz
def Rz (K:Int):Bool:=(K==5||(K==6||(K==7||(K==8||(K==9||(K==11||K==13))))))
theorem Gq (k:Nat) (h1:1<=k) (h2:k<=13) (w:World):Calls prog 147 #[.int .i64 (k:Int)] w fun r w'=>r=.returned (.bool (Rz k))/\w'=w:=by
 have h:k=1\/k=2\/k=3\/k=4\/k=5\/k=6\/k=7\/k=8\/k=9\/k=10\/k=11\/k=12\/k=13:=by omega
 clear h1 h2;rcases h with rfl | rfl | rfl | rfl | rfl | rfl | rfl | rfl | rfl | rfl | rfl | rfl | rfl
 all_goals
  go_enter func147,ntmps147;go_wp2;go_ret;exact ⟨rfl,rfl⟩
def mj (D:SD) (K:Int) (P:List Int):Int:=if jY K P=true then 0 else if vp P=false then 4 else if Rz K=true/\(fe D.ns P).isNone=true then 5 else 0
theorem Dw (w:World) (b bs bn:Nat) (D:SD) (SB NB HB UB:List Nat) (h:Hid (PS w0 w b bs bn D SB NB HB UB)) (qD:Hid (∀ nd∈D.ns,cT nd.path)) (k:Nat) (h1:1<=k) (h2:k<=13) (S F E G:Int) (pp:Option Addr) (np cp:Nat) (pq:Option Addr) (nv cv:Nat) (P:List Int) (eP:Hid (P.length=np)) (hP:Hid (Rd w (.slice pp np cp) P)) (hB:Hid (cT P)) (hp:np<=1048576) (jg:np<=cp) (jf:Hid (cp<=maxLen)) (hm:Hid (∃ m,w.cell? ⟨2,0,none⟩=some (.int .i64 m))) (C:Int) (eC:Hid (mj D k P=C)) :
  Calls prog 124 #[.pointer (some ⟨b,0,none⟩),oP k S (.slice pp np cp) F (.slice pq nv cv) E G] w fun r w'=>r=.returned (uh C)/\Below w.heap.size w w':=by
 obtain ⟨X,hX,bX,zX,CX,-⟩:=au w #[.int .i64 (k:Int),.int .u64 S,.slice pp np cp,.int .i64 F,.slice pq nv cv,.int .u64 E,.int .u64 G] 43;have hcv:=fun (ob:Obj)=>fU eP (hP.below ((Below.refl w.heap.size w).alloc ay ob));have ib:((aB P).toList==(aB [47]).toList)=decide (P=[47]):=rD (aa hB) (by intro y hy;simp at hy;omega);rw [show (aB [47]).toList=[47] from dW [47]] at ib;have e:=aa eC;unfold mj jY at e;obtain ⟨st,LP⟩:∃ st,Hid (aB P=st):=⟨_,ae rfl⟩;rw [aa LP] at ib;simp only [aa LP] at hcv;by_cases HJ:(k:Int)=13/\P=[47];{
 have e13:((k:Int)==13)=true:=by simp [HJ.1]
 have hr:(st.toList==[47])=true:=by rw [ib];simp [HJ.2]
 have e':C=0:=by rw [<-e];simp [HJ.1,HJ.2]
 subst e';clear e HJ ib;go_enter func124,ntmps124;go_wp2;go_ret;exact ⟨rfl,ar.alloc ay _⟩};{
 have e1:(if vp P=false then 4 else if Rz k=true/\(fe D.ns P).isNone=true then 5 else 0)=C:=by
  rw [<-e];have:(decide ((k:Int)=13)&&decide (P=[47]))=false:=by simpa using HJ
  rw [this];simp
 have E1:=ae e1;have aD1:∃ t,Hid (((k:Int)==13)=t/\(t=true->(st.toList==[47])=false)):=⟨_,ae ⟨rfl,fun ht=>by rw [ib];simp at ht;simpa using fun hP=>HJ ⟨by omega,hP⟩⟩⟩
 obtain ⟨t,ht⟩:=aD1;obtain ⟨B,eB⟩:∃ B,Hid (vp P=B):=⟨_,ae rfl⟩;clear e e1 HJ ib;go_enter func124,ntmps124;have STEP:True:=trivial;cases t
 all_goals
  obtain ⟨e13,cF⟩:=aa ht
  try have bz9:=cF rfl
  clear cF;go_wp2_with fail;rw [<-hX];refine (EU pp cp np P eP X (hP.below bX) hB hp jg jf (hm.imp fun m hm=>af hm bX) B eB).mono ?_;rintro r w2 ⟨rfl,aG⟩;have Tn:=CX.bg (w':=w2) (aG.block _ (by omega));have B2:=ae (ai bX aG);have e:=aa E1;rw [aa eB] at e;clear aG hcv e13;cases B;{
 have e':C=4:=by rw [<-e];rfl
 subst e';clear e;go_wp2;go_ret;exact ⟨rfl,B2⟩};{
 have e2:(if Rz k=true/\(fe D.ns P).isNone=true then 5 else 0)=C:=by simpa using e
 have E2:=ae e2;clear e e2;go_wp2_with fail;refine dV (by kernel_rfl) (fun W eW=>?_);have bW:Below w.heap.size w W:=by rw [eW];exact B2.drew
 have PW:=ae (h.below bW);obtain ⟨-,-,-,-,-,k5,-⟩:=PW.cO;have CW:=Tn.bg (w':=W) (by rw [eW];rfl);have c0:=CW.1 0 _ rfl;have c2:=CW.1 2 _ rfl;have hcv:=fU eP (hP.below bW);rw [aa LP] at hcv;clear eW CW Tn;cases hF:fe D.ns P with
 | none=>
  have bS:=PW.Gr hF (aa hB) (aa qD) (by rw [aa eP];omega);rw [aa LP] at bS;have e:=aa E2;rw [hF] at e;clear hF
  repeat still_step
  refine wpStill_nil ?_;go_wp2_with fail;refine (Gq k h1 h2 W).mono ?_;rintro r w5 ⟨rfl,rfl⟩;obtain ⟨T,eT⟩:=aZ (Rz k);rw [eT] at e ⊢;clear eT;cases T;{
 have e':C=0:=by rw [<-e];simp
 subst e';clear e;go_wp2;go_ret;exact ⟨rfl,bW⟩};{
 have e':C=5:=by rw [<-e];simp
 subst e';clear e;go_wp2;go_ret;exact ⟨rfl,bW⟩}
 | some nd=>
  obtain ⟨rfl,i,hi⟩:=ll hF;obtain ⟨g1,GI,u1,q1,-,-,hN⟩:=PW.nat hi;have bS:=PW.PK hi q1 (by rw [aa eP];omega);rw [aa LP] at bS;have e:=aa E2;rw [hF] at e;have e':C=0:=by rw [<-e];simp
  subst e';clear hF hi q1 hN e
  repeat still_step
  refine wpStill_nil ?_;go_wp2_with fail;refine (Gq k h1 h2 W).mono ?_;rintro r w5 ⟨rfl,rfl⟩;obtain ⟨T,eT⟩:=aZ (Rz k);rw [eT];clear eT;cases T;{go_wp2;go_ret;exact ⟨rfl,bW⟩};{go_wp2;go_ret;exact ⟨rfl,bW⟩}}}
theorem PS.okS {w:World} {b bs bn:Nat} {SB NB HB UB:List Nat} (h:PS w0 w b bs bn D SB NB HB UB) (hr:0<=S/\S<18446744073709551616):∃ v,(Instr.lookup 111 (.map (some bs)) (.int .u64 S) true).run prog w=.ok (.tuple #[.pointer v,.bool (decide (0<=ni D.ss S))]) w:=by
 obtain ⟨M,n,o,-,m,-⟩:=h.lI;obtain ⟨v,ps,hrn,hv⟩:=o.look_ok gp underlying111 (Bh w) (zd:=.nil) (zp:=[]) rfl (key:=.int .u64 S) (keyOf_int_mk underlying22 (jt hr));by_cases hs:ni D.ss S<0;{
 have hh:Maps.has M (.int .u64 S)=false:=by
  rw [Bool.eq_false_iff];intro e;obtain ⟨p,hp,e2⟩:=(m.hs _).1 e;obtain ⟨i,s,y,hx,hy,rfl⟩:=gj hp;simp only [Lit.int.injEq,true_and] at e2;unfold ni at hs;cases hf:D.ss.findIdx? (fun s=>s.1==S) with
  | some k=>rw [hf] at hs;simp at hs;omega
  | none=>
   have:=List.findIdx?_eq_none_iff.1 hf s (aL hx);simp [e2] at this
 rw [Maps.atKey_of_not_has hh] at hv;obtain rfl:=nj hv;refine ⟨none,?_⟩;rw [hrn,hh,show decide (0<=ni D.ss S)=false by simp;omega]};{
 obtain ⟨k,s,e1,hk⟩:=yS hs;obtain ⟨g,hg,-⟩:=h.sat hk;have es:s.1=S:=by
  unfold ni at e1;cases hf:D.ss.findIdx? (fun s=>s.1==S) with
  | none=>rw [hf] at e1;simp at e1
  | some k'=>
   rw [hf] at e1;simp at e1;obtain ⟨h1,h2,-⟩:=List.findIdx?_eq_some_iff_getElem.1 hf;have ek:k'=k:=by omega
   subst ek;have:D.ss[k']=s:=by rw [aH h1] at hk;simpa using hk
   rw [<-this];simpa using h2
 subst es;have hp:(Lit.int .u64 s.1,g)∈List.zipWith (fun (s:aR) g=>(Lit.int .u64 s.1,g)) D.ss SB:=aL (i:=k) (by rw [List.getElem?_zipWith,hk,hg]);rw [m.at' _ hp] at hv;obtain rfl:=gJ hv;refine ⟨some ⟨g,0,none⟩,?_⟩;rw [hrn,(m.hs _).2 ⟨_,hp,rfl⟩,show decide (0<=ni D.ss s.1)=true by simp;omega]}
def nO (D:SD) (se pa B:Bool) (K S:Int) (P:List Int):Int:=if B=false then 2 else if se=true/\ni D.ss S<0 then 3 else if pa=true then mj D K P else 0
theorem Mm (w:World) (b bs bn:Nat) (D:SD) (SB NB HB UB:List Nat) (h:Hid (PS w0 w b bs bn D SB NB HB UB)) (qD:Hid (∀ nd∈D.ns,cT nd.path)) (k:Nat) (h1:1<=k) (h2:k<=13) (S F E G:Int) (hS:0<=S/\S<18446744073709551616) (pp:Option Addr) (np cp:Nat) (pq:Option Addr) (nv cv:Nat) (P:List Int) (eP:Hid (P.length=np)) (hP:Hid (Rd w (.slice pp np cp) P)) (hB:Hid (cT P)) (hp:np<=1048576) (jg:np<=cp) (jf:Hid (cp<=maxLen)) (hm:Hid (∃ m,w.cell? ⟨2,0,none⟩=some (.int .i64 m))) (se pa:Bool) (lo hi vs:Int) (sq jo:Bool) (hT:Hid (ta w 1 (k*7) se pa lo hi vs sq jo)) (B:Bool) (eB:Hid (Sw se pa lo hi vs sq S F np nv E G=B)) (C:Int) (eC:Hid (nO D se pa B k S P=C)) :
  Calls prog 74 #[.pointer (some ⟨b,0,none⟩),oP k S (.slice pp np cp) F (.slice pq nv cv) E G] w fun r w'=>r=.returned (uh C)/\Below w.heap.size w w':=by
 obtain ⟨X,hX,bX,zX,CX,-⟩:=au w #[.int .i64 (k:Int),.int .u64 S,.slice pp np cp,.int .i64 F,.slice pq nv cv,.int .u64 E,.int .u64 G] 43;have e:=aa eC;unfold nO at e;have i3:(k:Int)<14:=by omega
 have i4:k<14:=by omega
 have i5:(0:Int)<=(k:Int):=by omega
 go_enter func74,ntmps74;go_wp2_with fail;rw [<-hX];refine (ur k h1 h2 se pa lo hi vs sq jo S F E G pp pq np nv cp cv X (hT.below bX) B eB).mono ?_;rintro r w2 ⟨rfl,aG⟩;have Tn:=CX.bg (w':=w2) (aG.block _ (by omega));have B2:=ae (ai bX aG);clear aG hX CX;cases B;{
 have e':C=2:=by rw [<-e];rfl
 subst e';clear e;go_wp2;go_ret;exact ⟨rfl,B2⟩};{
 have e2:(if se=true/\ni D.ss S<0 then 3 else if pa=true then mj D k P else 0)=C:=by simpa using e
 have E2:=ae e2;clear e e2;go_wp2_with fail;refine dV (by kernel_rfl) (fun W eW=>?_);have bW:Below w.heap.size w W:=by rw [eW];exact B2.drew
 have PW:=ae (h.below bW);obtain ⟨-,-,-,-,k4,-,-⟩:=PW.cO;have CW:=Tn.bg (w':=W) (by rw [eW];rfl);have c0:=CW.1 0 _ rfl;have c1:=CW.1 1 _ rfl;have c2:=CW.1 2 _ rfl;have c3:=CW.1 3 _ rfl;have c4:=CW.1 4 _ rfl;have c5:=CW.1 5 _ rfl;have c6:=CW.1 6 _ rfl;obtain ⟨t0,t1,-⟩:=hT.below bW;obtain ⟨v,bS⟩:=PW.okS (S:=S) hS;obtain ⟨T,eT⟩:∃ T,Hid (decide (0<=ni D.ss S)=T):=⟨_,ae rfl⟩;rw [aa eT] at bS;have e:=aa E2;have Z8:(ni D.ss S<0)↔T=false:=by rw [<-aa eT];simp
 simp only [Z8] at e;clear eW CW Tn Z8
 repeat still_step
 refine wpStill_nil ?_;clear bS k4;by_cases hx:se=true/\T=false;{
 obtain ⟨rfl,rfl⟩:=hx;have e':C=3:=by rw [<-e];simp
 subst e';clear e;go_wp2;go_ret;exact ⟨rfl,bW⟩};{
 have e3:(if pa=true then mj D k P else 0)=C:=by rw [if_neg hx] at e;exact e
 have E3:=ae e3;clear e e3;have Ku:(se=false/\T=false)\/(se=false/\T=true)\/(se=true/\T=true):=by cases se<;>cases T<;>simp at hx ⊢
 clear hx;rcases Ku with ⟨rfl,rfl⟩ | ⟨rfl,rfl⟩ | ⟨rfl,rfl⟩
 all_goals
  cases pa;{
 have e':C=0:=by have:=aa E3;rw [<-this];rfl
 subst e';go_wp2;go_ret;exact ⟨rfl,bW⟩};{
 have e3:mj D k P=C:=by have:=aa E3;rw [if_pos rfl] at this;exact this
 have E4:=ae e3;clear e3;go_wp2_with fail;refine (Dw W b bs bn D SB NB HB UB PW qD k h1 h2 S F E G pp np cp pq nv cv P eP (ae (hP.below bW)) hB hp jg jf (ae (hm.imp fun m hm=>af hm bW)) C E4).mono ?_;rintro r w9 ⟨rfl,dR⟩;have B9:=ae (ai bW dR);clear dR;go_wp2;go_ret;exact ⟨rfl,B9⟩}}}
def XZ (k:Nat) (S:Int) (st:ByteArray) (F:Int) (V:Value) (E G:Int):Value:=match k with
 | 1=>.iface 182 (.agg #[])
 | 2=>.iface 185 (.agg #[.int .u64 S])
 | 3=>.iface 186 (.agg #[.int .u64 S])
 | 4=>.iface 188 (.agg #[.int .u64 S,.string st,.bool (F==1),V])
 | 5=>.iface 190 (.agg #[.int .u64 S,.string st])
 | 6=>.iface 192 (.agg #[.string st])
 | 7=>.iface 194 (.agg #[.int .u64 S,.string st,V])
 | 8=>.iface 196 (.agg #[.int .u64 S,.string st,.int .i64 F])
 | 9=>.iface 197 (.agg #[.int .u64 S,.string st])
 | 10=>.iface 199 (.agg #[.int .u64 S,.string st,.int .u64 E,.int .u64 G])
 | 11=>.iface 201 (.agg #[.int .u64 S,.string st])
 | 12=>.iface 202 (.agg #[.int .u64 S])
 | _=>.iface 203 (.agg #[.string st])
theorem BL (k:Nat) (h1:1<=k) (h2:k<=13) (S F E G:Int) (pp:Option Addr) (np cp:Nat) (pq:Option Addr) (nv cv:Nat) (P:List Int) (eP:Hid (P.length=np)) (w:World) (hP:Hid (Rd w (.slice pp np cp) P)) :
  Calls prog 75 #[oP k S (.slice pp np cp) F (.slice pq nv cv) E G] w fun r w'=>r=.returned (XZ k S (aB P) F (.slice pq nv cv) E G)/\Below w.heap.size w w':=by
 have hcv:=fun (o1 o2:Obj)=>fU (aa eP) (hP.below (((Below.refl w.heap.size w).alloc ay o1).alloc (by simp) o2));have aF3:=fun (o1:Obj)=>fU eP (hP.below ((Below.refl w.heap.size w).alloc ay o1));obtain ⟨st,LP⟩:=aZ (aB P);simp only [LP] at hcv aF3 ⊢;clear LP;have h:k=1\/k=2\/k=3\/k=4\/k=5\/k=6\/k=7\/k=8\/k=9\/k=10\/k=11\/k=12\/k=13:=by omega
 clear h1 h2;rcases h with rfl | rfl | rfl | rfl | rfl | rfl | rfl | rfl | rfl | rfl | rfl | rfl | rfl
 all_goals
  go_enter func75,ntmps75;go_wp2;go_ret;exact ⟨rfl,((Below.refl w.heap.size w).alloc ay _).alloc (by simp) _⟩
theorem IB (w:World) (b:Nat) (K S F E G:Int) (hK:K<1\/13<K) (pp:Option Addr) (np cp:Nat) (pq:Option Addr) (nv cv:Nat) :
  Calls prog 74 #[.pointer (some ⟨b,0,none⟩),oP K S (.slice pp np cp) F (.slice pq nv cv) E G] w fun r w'=>r=.returned (uh 2)/\Below w.heap.size w w':=by
 obtain ⟨X,hX,bX,zX,CX,-⟩:=au w #[.int .i64 K,.int .u64 S,.slice pp np cp,.int .i64 F,.slice pq nv cv,.int .u64 E,.int .u64 G] 43;have HK:=ae hK;clear hK;go_enter func74,ntmps74;go_wp2_with fail;rw [<-hX];refine (uq K S F E G pp pq np nv cp cv X HK).mono ?_;rintro r w2 ⟨rfl,aG⟩;have B2:=ae (ai bX aG);clear aG hX CX;go_wp2;go_ret;exact ⟨rfl,B2⟩
end Go.Proofs.YtmfjiolopcbcmaaGreatDoor
