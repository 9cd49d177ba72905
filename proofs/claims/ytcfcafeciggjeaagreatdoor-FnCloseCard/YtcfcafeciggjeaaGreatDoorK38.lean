import Derived.Test.YtcfcafeciggjeaaGreatDoorK36
import Derived.Test.YtcfcafeciggjeaaGreatDoorK34
namespace Go.Proofs.YtcfcafeciggjeaaGreatDoor
set_option maxHeartbeats 6400000
set_option linter.unusedVariables false
set_option linter.unusedSimpArgs false
set_option maxRecDepth 100000
open Go.ChangeShapes Go.WideShapes Go.ChangeAt Go.RowKit Go.Maps Go.Proofs.Tryz
variable {e ep g ge mo:Int} {i nh:Nat} {nd:aA} {ns:List aA} {ss:List aL} {w0:World}
theorem PS.okS {w:World} {b bs bn:Nat} {D:SD} {SB NB HB UB:List Nat} (h:PS w0 w b bs bn D SB NB HB UB) {S:Int} (hr:0<=S/\S<18446744073709551616):∃ v,(Instr.lookup 129 (.map (some bs)) (.int .u64 S) true).run prog w=.ok (.tuple #[.pointer v,.bool (decide (0<=kp D.ss S))]) w:=by
 obtain ⟨M,n,o,-,m,-⟩:=h.qT;obtain ⟨v,ps,hrn,hv⟩:=o.look_ok gD underlying129 (xy w) (zd:=.nil) (zp:=[]) rfl (key:=.int .u64 S) (keyOf_int_mk underlying23 (kU hr));by_cases hs:kp D.ss S<0;{
 have hh:Maps.has M (.int .u64 S)=false:=by
  rw [Bool.eq_false_iff];intro e;obtain ⟨p,hp,e2⟩:=(m.hs _).1 e;obtain ⟨i,s,y,hx,hy,rfl⟩:=gm hp;simp only [Lit.int.injEq,true_and] at e2;unfold kp at hs;cases hf:D.ss.findIdx? (fun s=>s.1==S) with
  | some k=>rw [hf] at hs;simp at hs;omega
  | none=>
   have:=List.findIdx?_eq_none_iff.1 hf s (aF hx);simp [e2] at this
 rw [Maps.atKey_of_not_has hh] at hv;obtain rfl:=ll hv;refine ⟨none,?_⟩;rw [hrn,hh,show decide (0<=kp D.ss S)=false by simp;omega]};{
 obtain ⟨k,s,e1,hk⟩:=vL hs;obtain ⟨g,hg,-⟩:=h.sat hk;have es:s.1=S:=by
  unfold kp at e1;cases hf:D.ss.findIdx? (fun s=>s.1==S) with
  | none=>rw [hf] at e1;simp at e1
  | some k'=>
   rw [hf] at e1;simp at e1;obtain ⟨h1,h2,-⟩:=List.findIdx?_eq_some_iff_getElem.1 hf;have ek:k'=k:=by omega
   subst ek;have:D.ss[k']=s:=by rw [aE h1] at hk;simpa using hk
   rw [<-this];simpa using h2
 subst es;have hp:(Lit.int .u64 s.1,g)∈List.zipWith (fun (s:aL) g=>(Lit.int .u64 s.1,g)) D.ss SB:=aF (i:=k) (by rw [List.getElem?_zipWith,hk,hg]);rw [m.at' _ hp] at hv;obtain rfl:=fS hv;refine ⟨some ⟨g,0,none⟩,?_⟩;rw [hrn,(m.hs _).2 ⟨_,hp,rfl⟩,show decide (0<=kp D.ss s.1)=true by simp;omega]}
def uG (D:SD) (se pa B:Bool) (K S:Int) (P:List Int):Int:=if B=false then 2 else if se=true/\kp D.ss S<0 then 3 else if pa=true then oF D K P else 0
theorem IB (w:World) (b bs bn:Nat) (D:SD) (SB NB HB UB:List Nat) (h:Hid (PS w0 w b bs bn D SB NB HB UB)) (uA:Hid (∀ nd∈D.ns,bQ nd.path)) (k:Nat) (h1:1<=k) (h2:k<=13) (S F E G:Int) (hS:0<=S/\S<18446744073709551616) (pp:Option Addr) (np cp:Nat) (pq:Option Addr) (nv cv:Nat) (P:List Int) (eP:Hid (P.length=np)) (hP:Hid (Rd w (.slice pp np cp) P)) (hB:Hid (bQ P)) (hp:np<=1048576) (mG:np<=cp) (jN:Hid (cp<=maxLen)) (hm:Hid (∃ m,w.cell? ⟨2,0,none⟩=some (.int .i64 m))) (se pa:Bool) (lo hi vs:Int) (sq jo:Bool) (hT:Hid (qP w 0 (k*7) se pa lo hi vs sq jo)) (B:Bool) (eB:Hid (Ll se pa lo hi vs sq S F np nv E G=B)) (C:Int) (eC:Hid (uG D se pa B k S P=C)) :
  Calls prog 93 #[.pointer (some ⟨b,0,none⟩),tJ k S (.slice pp np cp) F (.slice pq nv cv) E G] w fun r w'=>r=.returned (yR C)/\Below w.heap.size w w':=by
 obtain ⟨X,hX,bX,zX,CX,-⟩:=aj w #[.int .i64 (k:Int),.int .u64 S,.slice pp np cp,.int .i64 F,.slice pq nv cv,.int .u64 E,.int .u64 G] 29;have e:=aa eC;unfold uG at e;have i3:(k:Int)<14:=by omega
 have i4:k<14:=by omega
 have i5:(0:Int)<=(k:Int):=by omega
 go_enter func93,ntmps93;go_wp2_with fail;rw [<-hX];refine (rP k h1 h2 se pa lo hi vs sq jo S F E G pp pq np nv cp cv X (hT.below bX) B eB).mono ?_;rintro r w2 ⟨rfl,aS⟩;have WG:=CX.bc (w':=w2) (aS.block _ (by omega));have B2:=ae (ai bX aS);clear aS hX CX;cases B;{
 have e':C=2:=by rw [<-e];rfl
 subst e';clear e;go_wp2;go_ret;exact ⟨rfl,B2⟩};{
 have e2:(if se=true/\kp D.ss S<0 then 3 else if pa=true then oF D k P else 0)=C:=by simpa using e
 have E2:=ae e2;clear e e2;go_wp2_with fail;refine lZ (by kernel_rfl) (fun W eW=>?_);have bW:Below w.heap.size w W:=by rw [eW];exact B2.drew
 have PW:=ae (h.below bW);obtain ⟨-,-,-,-,k4,-,-⟩:=PW.gw;have CW:=WG.bc (w':=W) (by rw [eW];rfl);have c0:=CW.1 0 _ rfl;have c1:=CW.1 1 _ rfl;have c2:=CW.1 2 _ rfl;have c3:=CW.1 3 _ rfl;have c4:=CW.1 4 _ rfl;have c5:=CW.1 5 _ rfl;have c6:=CW.1 6 _ rfl;obtain ⟨t0,t1,-⟩:=hT.below bW;obtain ⟨v,du⟩:=PW.okS (S:=S) hS;obtain ⟨T,eT⟩:∃ T,Hid (decide (0<=kp D.ss S)=T):=⟨_,ae rfl⟩;rw [aa eT] at du;have e:=aa E2;have Vp:(kp D.ss S<0)↔T=false:=by rw [<-aa eT];simp
 simp only [Vp] at e;clear eW CW WG Vp
 repeat still_step
 refine wpStill_nil ?_;clear du k4;by_cases hx:se=true/\T=false;{
 obtain ⟨rfl,rfl⟩:=hx;have e':C=3:=by rw [<-e];simp
 subst e';clear e;go_wp2;go_ret;exact ⟨rfl,bW⟩};{
 have e3:(if pa=true then oF D k P else 0)=C:=by rw [if_neg hx] at e;exact e
 have E3:=ae e3;clear e e3;have ON:(se=false/\T=false)\/(se=false/\T=true)\/(se=true/\T=true):=by cases se<;>cases T<;>simp at hx ⊢
 clear hx;rcases ON with ⟨rfl,rfl⟩ | ⟨rfl,rfl⟩ | ⟨rfl,rfl⟩
 all_goals
  cases pa;{
 have e':C=0:=by have:=aa E3;rw [<-this];rfl
 subst e';go_wp2;go_ret;exact ⟨rfl,bW⟩};{
 have e3:oF D k P=C:=by have:=aa E3;rw [if_pos rfl] at this;exact this
 have E4:=ae e3;clear e3;go_wp2_with fail;refine (y8 W b bs bn D SB NB HB UB PW uA k h1 h2 S F E G pp np cp pq nv cv P eP (ae (hP.below bW)) hB hp mG jN (ae (hm.imp fun m hm=>af hm bW)) C E4).mono ?_;rintro r w9 ⟨rfl,ft⟩;have B9:=ae (ai bW ft);clear ft;go_wp2;go_ret;exact ⟨rfl,B9⟩}}}
def SK (k:Nat) (S:Int) (st:ByteArray) (F:Int) (V:Value) (E G:Int):Value:=match k with
 | 1=>.iface 196 (.agg #[])
 | 2=>.iface 199 (.agg #[.int .u64 S])
 | 3=>.iface 200 (.agg #[.int .u64 S])
 | 4=>.iface 202 (.agg #[.int .u64 S,.string st,.bool (F==1),V])
 | 5=>.iface 204 (.agg #[.int .u64 S,.string st])
 | 6=>.iface 206 (.agg #[.string st])
 | 7=>.iface 208 (.agg #[.int .u64 S,.string st,V])
 | 8=>.iface 210 (.agg #[.int .u64 S,.string st,.int .i64 F])
 | 9=>.iface 211 (.agg #[.int .u64 S,.string st])
 | 10=>.iface 213 (.agg #[.int .u64 S,.string st,.int .u64 E,.int .u64 G])
 | 11=>.iface 215 (.agg #[.int .u64 S,.string st])
 | 12=>.iface 216 (.agg #[.int .u64 S])
 | _=>.iface 217 (.agg #[.string st])
theorem xJ (k:Nat) (h1:1<=k) (h2:k<=13) (S F E G:Int) (pp:Option Addr) (np cp:Nat) (pq:Option Addr) (nv cv:Nat) (P:List Int) (eP:Hid (P.length=np)) (w:World) (hP:Hid (Rd w (.slice pp np cp) P)) :
  Calls prog 94 #[tJ k S (.slice pp np cp) F (.slice pq nv cv) E G] w fun r w'=>r=.returned (SK k S (aY P) F (.slice pq nv cv) E G)/\Below w.heap.size w w':=by
 have hcv:=fun (o1 o2:Obj)=>eG (aa eP) (hP.below (((Below.refl w.heap.size w).alloc ax o1).alloc (by simp) o2));have ac1:=fun (o1:Obj)=>eG eP (hP.below ((Below.refl w.heap.size w).alloc ax o1));obtain ⟨st,Il⟩:=aN (aY P);simp only [Il] at hcv ac1 ⊢;clear Il;have h:k=1\/k=2\/k=3\/k=4\/k=5\/k=6\/k=7\/k=8\/k=9\/k=10\/k=11\/k=12\/k=13:=by omega
 clear h1 h2;rcases h with rfl | rfl | rfl | rfl | rfl | rfl | rfl | rfl | rfl | rfl | rfl | rfl | rfl
 all_goals
  go_enter func94,ntmps94;go_wp2;go_ret;exact ⟨rfl,((Below.refl w.heap.size w).alloc ax _).alloc (by simp) _⟩
theorem KD.of (h:xk ss ns):KD ns:=fun i j a c ha hc e=>by
 have e2:a.path=c.path:=iM (h.n2 a (aF ha)).1 (h.n2 c (aF hc)).1 e;rcases Nat.lt_trichotomy i j with hh | hh | hh;{exact absurd e2 (h.n3 i j a c ha hc hh)};{exact hh};{exact absurd e2.symm (h.n3 j i c a hc ha hh)}
theorem oL (h:(List.range ns.length).all (gq e g ss ns)=true) (hi:ns[i]?=some nd):dh e g nd.mode nd.holders.length nd.aD nd.gen=true/\dZ ss nd.holders=true/\dZ ss nd.watchers=true:=by
 have hl:=(aJ.1 hi).1;have:=List.all_eq_true.1 h i (by simpa using hl);unfold gq at this;rw [List.getD_eq_getElem?_getD,hi] at this;simp only [Option.getD_some,Bool.and_eq_true] at this;exact ⟨this.2.2.2.2.2.2,this.2.2.2.2.1,this.2.2.2.2.2.1⟩
theorem jZ {ids:List Int} (h:dZ ss ids=true):∀ x∈ids,∃ s∈ss,s.1=x:=fun x hx=>by
 obtain ⟨i,hi⟩:=List.mem_iff_getElem?.1 hx;have:=List.all_eq_true.1 h i (by simpa using (aJ.1 hi).1);unfold uk live at this;rw [List.getD_eq_getElem?_getD,hi] at this;simp only [Option.getD_some,Bool.and_eq_true,List.any_eq_true] at this;obtain ⟨s,hs,e⟩:=this.1;exact ⟨s,hs,by simpa using e⟩
theorem jW (h:dh e g mo nh ep ge=true) (hm:mo=1):nh=1:=by
 unfold dh at h;rw [if_pos hm] at h;simp at h;exact h.1
theorem ly (h:dh e g mo nh ep ge=true) (hm:mo≠1):ep=0/\ge=0/\(mo=0->nh=0):=by
 unfold dh at h;rw [if_neg hm] at h;simp only [Bool.and_eq_true,beq_iff_eq] at h;refine ⟨h.1,h.2.1,fun h0=>?_⟩;have:=h.2.2;rw [if_pos h0] at this;simpa using this
theorem NT.of (hF:xk ss ns) (h:(List.range ns.length).all (gq e g ss ns)=true) (hi:ns[i]?=some nd):NT ss nd:=by
 obtain ⟨a,b,c,d,f,k,m⟩:=hF.n2 nd (aF hi);exact ⟨a,b,m,f,jZ (oL h hi).2.2⟩
end Go.Proofs.YtcfcafeciggjeaaGreatDoor
