import Derived.Test.YtcfcafeciggjeaaGreatDoorAS1
namespace Go.Proofs.YtcfcafeciggjeaaGreatDoor
set_option maxHeartbeats 6400000
set_option linter.unusedVariables false
set_option linter.unusedSimpArgs false
set_option maxRecDepth 100000
open Go.ChangeShapes Go.WideShapes Go.ChangeAt Go.RowKit Go.Proofs.Tryz
variable {B B0 b b' i j k:Nat} {Qs:List Value} {id:Int} {l:List Int} {nd:aA} {ns:List aA} {p:Option Addr} {s:aL} {ss:List aL} {v v0 v1 v2 v3 v4 v5:Value} {w:World}
theorem Ct {o0 o1 o2 o3 o4 o5:Value} (h:al w b [o0,o1,o2,o3,o4,o5]) (v0 v1 v2 v3 v4 v5:Value):al (aP w b v0 v1 v2 v3 v4 v5) b [v0,v1,v2,v3,v4,v5]:=
 (((((h.da 0 (by simp) v0).da 1 (by simp) v1).da 2 (by simp) v2).da 3 (by simp) v3).da 4 (by simp) v4).da 5 (by simp) v5
theorem oE {vs:List Value} (h:al w b' vs) (bq:b'≠b) (v0 v1 v2 v3 v4 v5:Value):al (aP w b v0 v1 v2 v3 v4 v5) b' vs:=
 (((((h.pD (a:=⟨b,0,none⟩) bq v0).pD (a:=⟨b,1,none⟩) bq v1).pD (a:=⟨b,2,none⟩) bq v2).pD (a:=⟨b,3,none⟩) bq v3).pD (a:=⟨b,4,none⟩) bq v4).pD (a:=⟨b,5,none⟩) bq v5
theorem ma (w:World) (b:Nat) (v0 v1 v2 v3 v4 v5:Value):(aP w b v0 v1 v2 v3 v4 v5).heap.size=w.heap.size:=by simp [aP]
theorem gK (bq:b'≠b) :(aP w b v0 v1 v2 v3 v4 v5).heap[b']?=w.heap[b']?:=by
 unfold aP
 iterate 6 rw [dt _ _ _ _ (show b'≠_ from bq)]
theorem oC {ty:TypeId} (h:∃ cur,w.heap[b]?=some (.cells cur ty)) :∃ cur,(aP w b v0 v1 v2 v3 v4 v5).heap[b]?=some (.cells cur ty):=
 (aZ (aZ (aZ (aZ (aZ (aZ h).1).1).1).1).1).1
theorem QL.trans {tY Q2:List Value} {N M:Nat} (h:QL Qs tY N) (h2:QL tY Q2 M) (hM:N<=M):QL Qs Q2 N:=fun i Q b hq hb=>by
 rcases h2 i Q b hq hb with ⟨j,Q',hj,cL⟩ | h3;{exact h j Q' b hj cL};{exact .inr (by omega)}
theorem aR.at {n c:Nat} (h:aR B0 B w (.slice p n c) ns) (hx:ns[i]?=some nd) :
  ∃ g P V H U,p=some ⟨g,0,none⟩/\n=ns.length/\n<=c/\w.cell? ⟨g,i*8,none⟩=some P/\w.cell? ⟨g,i*8+1,none⟩=some V/\w.cell? ⟨g,i*8+2,none⟩=some (.int .u64 nd.owner)/\w.cell? ⟨g,i*8+3,none⟩=some (.int .i64 nd.mode)/\w.cell? ⟨g,i*8+4,none⟩=some H/\w.cell? ⟨g,i*8+5,none⟩=some (.int .u64 nd.aD)/\w.cell? ⟨g,i*8+6,none⟩=some (.int .u64 nd.gen)/\w.cell? ⟨g,i*8+7,none⟩=some U/\TB w P nd.path/\TB w V nd.value/\TU B0 w H nd.holders/\TU B0 w U nd.watchers/\∀ o,w.frozen? ⟨g,o,none⟩=false:=by
 obtain ⟨p',c',e,hc,-,hp⟩:=h.form;simp only [Value.slice.injEq] at e;obtain ⟨rfl,rfl,rfl⟩:=e;obtain ⟨g,rfl⟩:=hp (by have:=(aJ.1 hx).1;omega);obtain ⟨cs,-,⟨P,V,H,U,rfl,h1,h2,h3,h4⟩,iH,hf⟩:=RT.at h hx;exact ⟨g,P,V,H,U,rfl,rfl,hc,iH 0 _ rfl,iH 1 _ rfl,iH 2 _ rfl,iH 3 _ rfl,iH 4 _ rfl,iH 5 _ rfl,iH 6 _ rfl,iH 7 _ rfl,h1,h2,h3,h4,hf⟩
theorem TB.ew (h:TB w v l):∃ p c,v=.slice p l.length c:=by
 obtain ⟨⟨p,c,e,-⟩,-⟩:=h;exact ⟨p,c,e⟩
theorem aR.Oj (h:aR B0 B w v ns):mi w v ns:=by
 obtain ⟨p,c,rfl,-,-,hp⟩:=RT.form h;refine ⟨p,c,rfl,?_⟩;by_cases h0:ns=[];{exact .inl h0};{obtain ⟨g,rfl⟩:=hp (List.length_pos_iff.2 h0);refine .inr ⟨g,0,rfl,fun i nd hi=>?_⟩;obtain ⟨g',P,V,H,U,e,-,-,c0,c1,c2,c3,c4,c5,c6,c7,tP,tV,tH,tU,-⟩:=aR.at h hi;simp only [Option.some.injEq,Addr.mk.injEq,and_true] at e;subst e;rw [Nat.zero_add];exact ⟨P,V,H,U,c0,c1,c2,c3,c4,c5,c6,c7,tP.1,tV.1,tH.1,tU.1,tP.2.2⟩}
theorem TU.ew (h:TU B w v l):∃ p c,v=.slice p l.length c:=by
 obtain ⟨⟨p,c,e,-⟩,-⟩:=h;exact ⟨p,c,e⟩
theorem Ef (ss:List aL) (id:Int) (ev:Ev):(jf ss id ev).length=ss.length:=by simp [jf]
theorem jB (ids:List Int) (ev:Ev):∀ ss:List aL,(gH ss ids ev).length=ss.length:=by
 unfold gH
 induction ids with
 | nil=>intro ss;rfl
 | cons a r ih=>intro ss;rw [List.foldl_cons,ih,Ef]
theorem rS {ids:List Int} {ev:Ev} (h:ids[k]?=some id):gH ss (ids.take (k+1)) ev=jf (gH ss (ids.take k) ev) id ev:=by
 rw [gH,List.take_add_one,h,List.foldl_append]
 rfl
theorem oq (e g x t:Int) (p:Option Addr) (n c:Nat) (q:Option Addr) (m d:Nat) (ss:List aL) (Qs:List Value) (ns:List aA) (en:Hid (ss.length=n)) (k:Nat) (kd:Int) (nd:aA) (hk:Hid (ns[k]?=some nd)) (B:Nat) (w:World) (hS:Hid (de B w (.slice p n c) ss Qs)) (hN:Hid (jh B w (.slice q m d) ns)) (hB:B<=w.heap.size) (hn:n<=1048576) (hm:m<=1048576) (hp:nd.path.length<=1048576) (hw:nd.watchers.length<=1048576) :
  Calls prog 150 #[cK e g x t (.slice p n c) (.slice q m d),.int .i64 k,.int .i64 kd] w fun r w'=>r=.returned (cK e g x t (.slice p n c) (.slice q m d))/\(∃ tY,de B w' (.slice p n c) (gH ss nd.watchers (kd,nd.path)) tY)/\jh B w' (.slice q m d) (ns.set k { nd with watchers:=[] })/\Fr [49,35,38] w w'/\Below B w w':=by
 obtain ⟨gn,Pv,Vv,Hv,Uv,rfl,em,hmd,c0,-,-,-,-,-,-,c7,tP,-,-,tU,tW⟩:=aR.at hN hk;have Uh:k<m:=by rw [em];exact (aJ.1 (aa hk)).1
 have KH:(k:Int)<(m:Int):=by omega
 clear em;obtain ⟨pe,ce,rfl⟩:=tP.ew;obtain ⟨pu,cu,rfl⟩:=tU.ew;obtain ⟨ne,eP⟩:∃ ne,Hid (nd.path.length=ne):=⟨_,ae rfl⟩;obtain ⟨nu,eU⟩:∃ nu,Hid (nd.watchers.length=nu):=⟨_,ae rfl⟩;rw [aa eP] at hp tP c0;rw [aa eU] at hw tU c7;have pM:gn<w.heap.size:=(hN.lt gn rfl).2;obtain ⟨W0,cA,b0,z0,C0,T0⟩:=aj w #[.int .u64 e,.int .u64 g,.int .u64 x,.int .i64 t,.slice p n c,.slice (some ⟨gn,0,none⟩) m d] 27;obtain ⟨W1,fP,b1,z1,C1,T1⟩:=aj W0 #[.int .u64 0,.int .u64 0,.int .u64 0,.int .i64 0,.slice none 0 0,.slice none 0 0] 27;obtain ⟨W2,iY,b2,z2,C2,T2⟩:=aj W1 #[.int .i64 kd,.slice pe ne ce] 49;rw [z0] at C1 T1 z1;rw [z1] at C2 T2 z2;have bW:=ai (ai b0 b1) b2;have k0:=fun (ob o2:Obj)=>af (af c0 ((Below.refl _ w).alloc ax ob)) (ay.alloc ax o2);have k7:=fun (ob o2 o3:Obj)=>af (af (af c7 ((Below.refl _ w).alloc ax ob)) (ay.alloc ax o2)) (ay.alloc ax o3);have kz:=fun (ob o2 o3:Obj)=>((((((Below.refl w.heap.size w).alloc ax ob).alloc (by simp) o2).alloc (by simp;omega) o3)).frozen (p:=⟨gn,k*8+7,none⟩) pM).trans (tW _);have NW:=hN.fr (Fr.below (T:=[]) bW) (by decide);obtain ⟨NX,FX⟩:=aR.put NW hk (j:=7) (by omega) (.slice none 0 0) { nd with watchers:=[] } (fun w' P V H U h1 h2 h3 h4 _=>⟨P,V,H,.slice none 0 0,rfl,h1,h2,h3,TU.nil _⟩);obtain ⟨X,hX⟩:=ar (W2.setCell ⟨gn,k*8+7,none⟩ (.slice none 0 0));rw [<-hX] at NX FX;have SX:=(hS.fr (Fr.below (T:=[]) bW) (by decide)).fr FX (by decide);have bq:∀ b,w.heap.size<=b->X.heap[b]?=W2.heap[b]?:=fun b hb=>by rw [hX];exact dt _ _ _ _ (by show b≠gn;omega)
 have HX:=ae (ag NX (ag SX (ag (tU.fr (Fr.below (T:=[]) bW) (by decide) |>.fr FX (by decide)) (tP.fr (Fr.below (T:=[]) bW) (by decide) |>.fr FX (by decide)))));have HC:=ae (ag (((C0.below (by omega) b1).below (by omega) b2).bc (bq _ ax)) (ag ((C1.below (by omega) b2).bc (bq _ (by omega))) (C2.bc (bq _ (by omega)))));have HT:=ae (ag ((bq _ ax).trans ((b2.block _ (by omega)).trans ((b1.block _ (by omega)).trans T0))) (ag ((bq _ (by omega)).trans ((b2.block _ (by omega)).trans T1)) ((bq _ (by omega)).trans T2)));have BX:Below B w X:=by rw [hX];exact (bW.mono hB).setCell (hN.lt gn rfl).1 _
 have FW:Fr [49,35,38] w X:=(Fr.below bW).trans (FX.sub (by simp));have zX:X.heap.size=w.heap.size+3:=by rw [hX];simp;omega
 have Yi:Hid (∀ (i:Nat) (Q:Value),Qs[i]?=some Q->∀ b,Q.ownBlock=some b->b<w.heap.size):=fun i Q hq b hb=>by obtain ⟨s,hs⟩:∃ s,ss[i]?=some s:=⟨_,aE (by rw [<-hS.len];exact (aJ.1 hq).1)⟩;exact ((hS.xm i s Q hs hq).lt b hb).2
 have Wk:Hid (∀ b,(Value.slice p n c).ownBlock=some b->b<w.heap.size):=fun b hb=>(hS.row.lt b hb).2;clear b0 b1 b2 C0 C1 C2 T0 T1 T2 NX SX NW bq c0 c7 tW tP tU;go_enter func150,ntmps150;go_wp2;rw [<-cA,<-fP,<-iY,<-hX];clear cA fP iY hX k0 k7 kz;have sP:∀ (vs:Array Value) (w:World),(callFunc 174 vs).run prog w=.ok (.enter 174 vs) w:=fun vs w=>by kernel_rfl
 have Mh:=ae sP;clear sP
 go_loopw [9] (fun iv wr=>∃ (i:Nat) (Qk:List Value),i<=nu/\iv=.int .i64 i/\X.heap.size<=wr.heap.size/\Hid (de B wr (.slice p n c) (gH ss (nd.watchers.take i) (kd,nd.path)) Qk)/\Hid (jh B wr (.slice (some ⟨gn,0,none⟩) m d) (ns.set k { nd with watchers:=[] }))/\Hid (TU B wr (.slice pu nu cu) nd.watchers/\TB wr (.slice pe ne ce) nd.path)/\Hid (QL Qs Qk X.heap.size) ∧
  Hid (al wr w.heap.size [.int .u64 e,.int .u64 g,.int .u64 x,.int .i64 t,.slice p n c,.slice (some ⟨gn,0,none⟩) m d]/\al wr (w.heap.size+1) [.int .u64 0,.int .u64 0,.int .u64 0,.int .i64 0,.slice none 0 0,.slice none 0 0]/\al wr (w.heap.size+2) [.int .i64 kd,.slice pe ne ce]) ∧
  Hid ((∃ cur,wr.heap[w.heap.size]?=some (.cells cur 27))/\(∃ cur,wr.heap[w.heap.size+1]?=some (.cells cur 27)))/\Hid (Fr [49,35,38] w wr)/\Hid (Below B w wr)) (fun iv _=>nu-(intOf iv).toNat)
 case atStart=>exact ⟨0,Qs,Nat.zero_le _,rfl,Nat.le_refl _,(by show de _ _ _ _ _;exact HX.2.1),HX.1,HX.2.2,(fun i Q b hq hb=>.inl ⟨i,Q,hq,hb⟩),HC,⟨⟨_,HT.1⟩,⟨_,HT.2.1⟩⟩,FW,BX⟩
 case round =>(
 obtain ⟨i,Qk,hi,rfl,zr,og,Aa,hU,hQO,qM,hTk,pT,ij⟩:=hrel;have wi:IntKind.i64.wrap ((i:Int)+1)=((i+1:Nat):Int):=by rw [IntWalk.i64_in _ (by omega)];omega
 by_cases jL:i<nu;{
 have Hd:(i:Int)<(nu:Int):=by omega
 obtain ⟨id,hid⟩:∃ id,nd.watchers[i]?=some id:=⟨_,aE (by rw [aa eU];exact jL)⟩;obtain ⟨bw,ow,rfl,Ps⟩:=hU.1.1.at hid;have E1:=ae (rS (ss:=ss) (ev:=(kd,nd.path)) hid);clear hid;obtain ⟨vA,bM⟩:=ar wr.drew;have cg:Below wr.heap.size wr vA:=by rw [bM];exact ay.drew
 have zA:=cg.size;have CA:=ae (ag (qM.1.below (by omega) cg) (ag (qM.2.1.below (by omega) cg) (qM.2.2.below (by omega) cg)));have UA:=ae (ag (hU.1.fr (Fr.below (T:=[]) cg) (by decide)) (hU.2.fr (Fr.below (T:=[]) cg) (by decide)));have SA:=ae (og.fr (Fr.below (T:=[]) cg) (by decide));have NA:=ae (Aa.fr (Fr.below (T:=[]) cg) (by decide));have TA:=ae (ag (hTk.1.imp fun cur h=>(cg.block _ (by omega)).trans h) (hTk.2.imp fun cur h=>(cg.block _ (by omega)).trans h));have FA:=ae (pT.trans (Fr.below cg));have BA:=ae (ij.trans (cg.mono (by have:=ij.size;omega)));have hwA:=af Ps cg;have HG:=ae (Hy e g x t p n c (some ⟨gn,0,none⟩) m d _ Qk (ae (by rw [jB,aa en])) id kd pe ne ce nd.path eP B vA SA (ae UA.2) (by have:=BA.size;omega) hn hp);go_wp2_with fail;refine wp_region_noPanic ?_;refine wp_region_held_drew (S:=fun w'=>w'.cell? ⟨w.heap.size,0,none⟩=some (.int .u64 e)/\w'.cell? ⟨w.heap.size,1,none⟩=some (.int .u64 g)/\w'.cell? ⟨w.heap.size,2,none⟩=some (.int .u64 x)/\w'.cell? ⟨w.heap.size,3,none⟩=some (.int .i64 t)/\w'.cell? ⟨w.heap.size,4,none⟩=some (.slice p n c)/\w'.cell? ⟨w.heap.size,5,none⟩=some (.slice (some ⟨gn,0,none⟩) m d)/\w'.cell? ⟨w.heap.size+2,0,none⟩=some (.int .i64 kd)/\w'.cell? ⟨w.heap.size+2,1,none⟩=some (.slice pe ne ce)/\w'.cell? ⟨bw,ow+i,none⟩=some (.int .u64 id)) (by kernel_rfl) (by rw [<-bM];exact ⟨CA.1.1 0 _ rfl,CA.1.1 1 _ rfl,CA.1.1 2 _ rfl,CA.1.1 3 _ rfl,CA.1.1 4 _ rfl,CA.1.1 5 _ rfl,CA.2.2.1 0 _ rfl,CA.2.2.1 1 _ rfl,hwA⟩) (fun hS=>?_);rw [<-bM] at hS ⊢;clear bM cg Ps hwA;refine gp 0 1 2 3 hS ?_;refine dQ 4 5 hS ?_;refine aH 6 fun KK hK=>?_;refine DC (by rfl) 174 _ _ _ _ (by rfl) (cK e g x t (.slice p n c) (.slice (some ⟨gn,0,none⟩) m d)) (.int .u64 id) (.agg #[.int .i64 kd,.slice pe ne ce]) (by rfl) (by rfl) (by rfl) (fun _=>aa Mh _ _) HG ?_;rintro r v1 ⟨rfl,⟨Q1,La,OR⟩,Uq,yD,bf⟩;refine ⟨_,rfl,?_⟩;have kb:v1.heap[w.heap.size+2]?=vA.heap[w.heap.size+2]?:=Uq _ (by omega) (fun j Q hq e=>by rcases aa hQO j Q _ hq e with ⟨j',Q',hj,e'⟩ | h;{have:=aa Yi j' Q' hj _ e';omega};{omega}) (fun e=>by have:=aa Wk _ e;omega)
 obtain ⟨⟨cu0,t0⟩,⟨cu1,t1⟩⟩:=aa TA;have YL:=yD.2 _ _ _ _ (by decide) t0;have YK:=yD.2 _ _ _ _ (by decide) t1;have C1:=ae (ag (CA.1.bc (YL.trans t0.symm)) (ag (CA.2.1.bc (YK.trans t1.symm)) (CA.2.2.bc kb)));have U1:=ae (ag (UA.1.fr yD (by decide)) (UA.2.fr yD (by decide)));have N1:=ae (NA.fr yD (by decide));have S1:=ae La;have T1:=ae (ag YL YK);have Q1':=ae (hQO.trans OR (by omega));have F1:=ae (FA.trans (yD.sub (by simp)));have B1:=ae (BA.trans bf);have z1:=bf.size;have Ps:v1.cell? ⟨bw,ow+i,none⟩=some (.int .u64 id):=by obtain ⟨-,h2⟩:=U1.1;exact (ah (by obtain ⟨cur,hc⟩:=UA.1.2.1 bw rfl;exact (yD.2 _ _ _ _ (by decide) hc).trans hc.symm) _).trans hS.2.2.2.2.2.2.2.2
 refine bm hK (by exact ⟨C1.1.1 0 _ rfl,C1.1.1 1 _ rfl,C1.1.1 2 _ rfl,C1.1.1 3 _ rfl,C1.1.1 4 _ rfl,C1.1.1 5 _ rfl,C1.2.2.1 0 _ rfl,C1.2.2.1 1 _ rfl,Ps⟩) fun hS=>?_;clear hK KK La OR Uq yD bf kb t0 t1 YL YK Ps;refine aH 7 fun KK hK=>?_;have tW:=C1.1.2;go_simp;obtain ⟨v2,fM⟩:=ar (aP v1 w.heap.size (.int .u64 e) (.int .u64 g) (.int .u64 x) (.int .i64 t) (.slice p n c) (.slice (some ⟨gn,0,none⟩) m d));have F2:Fr [27] v1 v2:=by rw [fM];exact dJ T1.1
 have B2:Below w.heap.size v1 v2:=by rw [fM];exact bH _ _ _ _ _ _ _ _
 have C2:al v2 w.heap.size [.int .u64 e,.int .u64 g,.int .u64 x,.int .i64 t,.slice p n c,.slice (some ⟨gn,0,none⟩) m d]:=by rw [fM];exact Ct C1.1 _ _ _ _ _ _
 have C3:al v2 (w.heap.size+1) [.int .u64 0,.int .u64 0,.int .u64 0,.int .i64 0,.slice none 0 0,.slice none 0 0]:=by rw [fM];exact oE C1.2.1 (by omega) _ _ _ _ _ _
 have C4:al v2 (w.heap.size+2) [.int .i64 kd,.slice pe ne ce]:=by rw [fM];exact oE C1.2.2 (by omega) _ _ _ _ _ _
 have z2:v2.heap.size=v1.heap.size:=by rw [fM];exact ma _ _ _ _ _ _ _ _
 have T2:(∃ cur,v2.heap[w.heap.size]?=some (.cells cur 27))/\∃ cur,v2.heap[w.heap.size+1]?=some (.cells cur 27):=by rw [fM];exact ⟨oC ⟨_,T1.1⟩,_,(gK (by omega)).trans T1.2⟩
 have Ut:v2.cell? ⟨bw,ow+i,none⟩=some (.int .u64 id):=by
  have hb:bw≠w.heap.size:=fun e2=>by obtain ⟨cur,hc⟩:=U1.1.2.1 bw rfl;rw [e2,T1.1] at hc;simp at hc
  rw [fM];exact (ah (gK hb) _).trans hS.2.2.2.2.2.2.2.2
 have R2:=ae (ag C2 (ag C3 (ag C4 (ag T2 (ag F2 B2)))));unfold aP at fM;rw [<-fM];refine bm hK (by exact ⟨C2.1 0 _ rfl,C2.1 1 _ rfl,C2.1 2 _ rfl,C2.1 3 _ rfl,C2.1 4 _ rfl,C2.1 5 _ rfl,C4.1 0 _ rfl,C4.1 1 _ rfl,Ut⟩) fun hS=>?_;clear hK KK fM C2 C3 C4 T2 F2 B2 tW Ut;refine wpAnyH_done (by kernel_rfl) ?_ _;refine aX ?_;clear hS;go_wp2;go_roundw
 case rel=>exact ⟨i+1,Q1,by omega,by go_num,by omega,(by show de _ _ _ _ _;rw [aa E1];exact S1.fr R2.2.2.2.2.1 (by decide)),N1.fr R2.2.2.2.2.1 (by decide),⟨U1.1.fr R2.2.2.2.2.1 (by decide),U1.2.fr R2.2.2.2.2.1 (by decide)⟩,Q1',⟨R2.1,R2.2.1,R2.2.2.1⟩,R2.2.2.2.1,⟨Nat.le_trans F1.1 R2.2.2.2.2.1.1,fun b cur ty mm ht hb=>(R2.2.2.2.2.2.block b (cD hb)).trans (F1.2 b cur ty mm ht hb)⟩,B1.trans (R2.2.2.2.2.2.mono hB)⟩
 case measure=>simp [intOf];omega}
 {
 have Hd:¬ (i:Int)<(nu:Int):=by omega
 have SF:=aa og;rw [List.take_of_length_le (by rw [aa eU];omega)] at SF;have Wf:=ae SF;clear SF;obtain ⟨K0,kf⟩:=qM.1;obtain ⟨R0,rf⟩:=qM.2.1;have k0:=K0 0 _ rfl;have k1:=K0 1 _ rfl;have k2:=K0 2 _ rfl;have k3:=K0 3 _ rfl;have k4:=K0 4 _ rfl;have k5:=K0 5 _ rfl;have q0:=R0 0 _ rfl;have q1:=R0 1 _ rfl;have q2:=R0 2 _ rfl;have q3:=R0 3 _ rfl;have q4:=R0 4 _ rfl;have q5:=R0 5 _ rfl;clear K0 R0;go_wp2;obtain ⟨cu,tq⟩:=hTk.2;have hF:=dJ (v0:=.int .u64 e) (v1:=.int .u64 g) (v2:=.int .u64 x) (v3:=.int .i64 t) (v4:=.slice p n c) (v5:=.slice (some ⟨gn,0,none⟩) m d) tq;have uC:Below (w.heap.size+1) wr (aP wr (w.heap.size+1) (.int .u64 e) (.int .u64 g) (.int .u64 x) (.int .i64 t) (.slice p n c) (.slice (some ⟨gn,0,none⟩) m d)):=bH _ _ _ _ _ _ _ _;refine bodyPost_ret (v:=cK e g x t (.slice p n c) (.slice (some ⟨gn,0,none⟩) m d)) (by simp [results,results150,go_sem,q0,q1,q2,q3,q4,q5]) rfl ?_;exact ⟨rfl,⟨_,Wf.fr hF (by decide)⟩,Aa.fr hF (by decide),⟨Nat.le_trans pT.1 uC.size,fun b cur ty mm ht hb=>(uC.block b (by have:=cD hb;omega)).trans (pT.2 b cur ty mm ht hb)⟩,ij.trans (uC.mono (by omega))⟩})
theorem dB {ops:Array Oper} {rest:List Oper} {o:Oper} {a:Act} {Q:Exit->Act->World->Prop} (jw:o.guard=none) (s x:Operand)
  (ho:o.op=.call { callee:=.builtin .append,args:=#[s,x],argTypes:=#[25,25] })
 (B:Nat) (v:Value) (ns:List aA) (nd:aA) (k:Nat) (ek:Hid (ns.length=k)) (hs:a.eval s=v) (bj:aR B0 B w v ns) (g:Nat) (cs:List Value) (hx:a.eval x=.slice (some ⟨g,0,none⟩) 1 1) (mF:fD B0 w nd cs) (dR:∀ j u,cs[j]?=some u->w.cell? ⟨g,j,none⟩=some u)
  (hk:k<4194304) (hB:B<=w.heap.size)
  (h:∀ p' c' w',aR B0 B w' (.slice p' (k+1) c') (ns++[nd])->w.grownBy w' v.ownBlock->Fr [38] w w'->wpList prog ops Q rest (a.put o.dst (.slice p' (k+1) c')) w'):wpList prog ops Q (o::rest) a w:=by
 obtain ⟨i,hi,mX,ik,jv⟩:=info_parts Tryz.infoNod;have ht:=bj.gS;obtain ⟨rs,h1,h2,h3,h4⟩:=bj;have tQ:cs.length=8/\∀ u∈cs,u.oneCell'=true:=by obtain ⟨P,V,H,U,rfl,a1,a2,a3,a4⟩:=mF;obtain ⟨_,_,rfl⟩:=a1.ew;obtain ⟨_,_,rfl⟩:=a2.ew;obtain ⟨_,_,rfl⟩:=a3.ew;obtain ⟨_,_,rfl⟩:=a4.ew;exact ⟨rfl,fun u hu=>by simp at hu;rcases hu with rfl | rfl | rfl | rfl | rfl | rfl | rfl | rfl<;>rfl⟩
 rw [aa ek] at h3;refine gI jw s x 25 ho B 38 i _ 8 128 underlying25 hi mX ik jv rfl (by decide) v _ _ hs h3 g 1 1 cs hx tQ.1 dR tQ.2 (by unfold maxLen;omega) (by omega) hB ?_;intro v' w' dN hg _;have hf:Fr [38] w w':=Fr.grown hg fun b hb=>by obtain ⟨cur,hc⟩:=ht b hb;exact ⟨cur,_,hc,by simp⟩
 have sn:aR B0 B w' v' (ns++[nd]):=RT.snoc h1 h2 h4 (fD.fr hf (by decide) (by decide)) mF tQ.1 (by rw [aa ek];exact dN);obtain ⟨p',c',rfl,-⟩:=RT.form sn;rw [List.length_append,aa ek] at sn ⊢;exact h p' c' w' sn hg hf
theorem JW (h:ns[j]?=some nd):(ns.take (j+1)).eraseIdx k=if j=k then (ns.take j).eraseIdx k else (ns.take j).eraseIdx k++[nd]:=by
 have hj:=(aJ.1 h).1;have hl:(ns.take j).length=j:=by rw [List.length_take];omega
 rw [List.take_add_one,h,Option.toList_some];by_cases e:j=k;{subst e;rw [if_pos rfl,List.eraseIdx_append_of_length_le (by omega),hl,Nat.sub_self,List.eraseIdx_of_length_le (l:=ns.take j) (by omega)];simp};{rw [if_neg e];by_cases e2:k<j;{rw [List.eraseIdx_append_of_lt_length (by omega)]};{rw [List.eraseIdx_append_of_length_le (by omega),hl,List.eraseIdx_of_length_le (l:=ns.take j) (by omega),List.eraseIdx_of_length_le (by simp;omega)]}}
theorem nG (e g x t:Int) (p:Option Addr) (n c:Nat) (q:Option Addr) (m d:Nat) (ns:List aA) (em:Hid (ns.length=m)) (k:Nat) (B:Nat) (w:World) (hN:Hid (jh B w (.slice q m d) ns)) (hm:m<=1048576) :
  Calls prog 137 #[cK e g x t (.slice p n c) (.slice q m d),.int .i64 k] w fun r w'=>∃ p' c',r=.returned (cK e g x t (.slice p n c) (.slice p' (ns.eraseIdx k).length c'))/\aR B w.heap.size w' (.slice p' (ns.eraseIdx k).length c') (ns.eraseIdx k)/\Below w.heap.size w w':=by
 obtain ⟨W0,cA,b0,z0,C0,T0⟩:=aj w #[.int .u64 e,.int .u64 g,.int .u64 x,.int .i64 t,.slice p n c,.slice q m d] 27;obtain ⟨W1,fP,b1,z1,C1,T1⟩:=aj W0 #[.int .u64 0,.int .u64 0,.int .u64 0,.int .i64 0,.slice none 0 0,.slice none 0 0] 27;rw [z0] at C1 T1 z1;have bW:=ae (ai b0 b1);have HC:=ae (ag (C0.below (by omega) b1) C1);have HT:=ae (ag ((b1.block _ (by omega)).trans T0) T1);go_enter func137,ntmps137;go_wp2;rw [<-cA,<-fP]
 go_loopw [5,6] (fun ov iv wr=>∃ (j:Nat) (L:List aA) (nl:Nat) (po:Option Addr) (co:Nat),j<=m/\iv=.int .i64 j/\ov=.slice po nl co/\Hid (L.length=nl)/\Hid ((ns.take j).eraseIdx k=L)/\Hid (aR B (w.heap.size+2) wr (.slice po nl co) L)/\Hid (Below (w.heap.size+2) W1 wr)) (fun _ iv _=>m-(intOf iv).toNat)
 case atStart=>exact ⟨0,[],0,none,0,Nat.zero_le _,rfl,rfl,ae rfl,(by show _=_;simp),RT.nil _ _ _ _ _,Below.refl _ _⟩
 case round =>(
 obtain ⟨j,L,nl,po,co,hj,rfl,rfl,iI,hL,ho,aT⟩:=hrel;have zr:=aT.size;have KF:nl<4194304:=by have h1:=(List.eraseIdx_sublist (ns.take j) k).length_le;have h2:=List.length_take_le j ns;rw [aa hL,aa iI] at h1;omega
 have HCr:=ae (ag (HC.1.below (by omega) (aT.mono (by omega):Below W1.heap.size W1 wr)) (HC.2.below (by omega) (aT.mono (by omega):Below W1.heap.size W1 wr)));have s5:=HCr.1.1 5 _ rfl;by_cases br:j<m;{
 have bt:(j:Int)<(m:Int):=by omega
 obtain ⟨nd,aK⟩:∃ nd,ns[j]?=some nd:=⟨_,aE (by rw [aa em];exact br)⟩;have cF:=JW (k:=k) aK;rw [aa hL] at cF;have jQ:=ae cF;by_cases he:j=k;{
 have E1:Hid ((ns.take (j+1)).eraseIdx k=L):=by have:=aa jQ;rwa [if_pos he] at this
 have Bi:((j:Int) != (k:Int))=false:=by simp;omega
 go_wp2;go_roundw
 case rel=>exact ⟨j+1,L,nl,po,co,by omega,by go_num,rfl,iI,E1,ho,aT⟩
 case measure=>simp [intOf];omega}
 {
 have E1:Hid ((ns.take (j+1)).eraseIdx k=L++[nd]):=by have:=aa jQ;rwa [if_neg he] at this
 have Bi:((j:Int) != (k:Int))=true:=by simp;omega
 have VI:Below w.heap.size w wr:=bW.trans (aT.mono (by omega));obtain ⟨gn,P,V,H,U,rfl,-,-,c0,c1,c2,c3,c4,c5,c6,c7,tP,tV,tH,tU,-⟩:=aR.at (hN.fr (Fr.below (T:=[]) VI) (by decide)) aK;obtain ⟨pP,cP,rfl⟩:=tP.ew;obtain ⟨pV,cV,rfl⟩:=tV.ew;obtain ⟨pH,cH,rfl⟩:=tH.ew;obtain ⟨pU,cU,rfl⟩:=tU.ew;obtain ⟨v3,Fc⟩:=ar (wr.alloc (.cells #[.slice pP nd.path.length cP,.slice pV nd.value.length cV,.int .u64 nd.owner,.int .i64 nd.mode,.slice pH nd.holders.length cH,.int .u64 nd.aD,.int .u64 nd.gen,.slice pU nd.watchers.length cU] 38));have b3:Below wr.heap.size wr v3:=by rw [Fc];exact ay.alloc ax _
 have HX:=ae (ag (ho.fr (Fr.below (T:=[]) b3) (by decide)) (ag (show fD B v3 nd [.slice pP nd.path.length cP,.slice pV nd.value.length cV,.int .u64 nd.owner,.int .i64 nd.mode,.slice pH nd.holders.length cH,.int .u64 nd.aD,.int .u64 nd.gen,.slice pU nd.watchers.length cU] from ⟨_,_,_,_,rfl,tP.fr (Fr.below (T:=[]) b3) (by decide),tV.fr (Fr.below (T:=[]) b3) (by decide),tH.fr (Fr.below (T:=[]) b3) (by decide),tU.fr (Fr.below (T:=[]) b3) (by decide)⟩) (show al v3 wr.heap.size _ by rw [Fc];exact al.alloc wr _ _)));have uv:=ae fun b e=>(ho.lt b e).1;have b3':=ae b3;have z3:=b3.size;go_wp2_with (at_builtin;rw [<-Fc];refine dB rfl _ _ rfl (w.heap.size+2) (.slice po nl co) L nd nl iI rfl HX.1 wr.heap.size _ rfl HX.2.1 HX.2.2.1 KF (by omega) ?_);intro p' c' w' o2 dV _;rw [<-Fc] at dV;have b4:=ae ((aT.trans (b3'.mono (by omega))).grown dV (by omega) uv);have O2:=ae o2;go_wp2;go_roundw
 case rel=>exact ⟨j+1,L++[nd],nl+1,p',c',by omega,by go_num,rfl,ae (by rw [List.length_append,aa iI];rfl),E1,O2,b4⟩
 case measure=>simp [intOf];omega}}
 {
 have bt:¬ (j:Int)<(m:Int):=by omega
 have fq:=aa hL;rw [List.take_of_length_le (by rw [aa em];omega)] at fq;obtain ⟨K0,kf⟩:=HCr.1;obtain ⟨R0,rf⟩:=HCr.2;have k0:=K0 0 _ rfl;have k1:=K0 1 _ rfl;have k2:=K0 2 _ rfl;have k3:=K0 3 _ rfl;have k4:=K0 4 _ rfl;have q0:=R0 0 _ rfl;have q1:=R0 1 _ rfl;have q2:=R0 2 _ rfl;have q3:=R0 3 _ rfl;have q4:=R0 4 _ rfl;have q5:=R0 5 _ rfl;have xw:=ae (ag ((aT.block _ (by omega)).trans HT.1) ((aT.block _ (by omega)).trans HT.2));go_wp2;subst fq;have en:=aa iI;subst en;have f1:=aZ (j:=5) (u:=.slice po (ns.eraseIdx k).length co) ⟨_,xw.1⟩;have t1:(wr.setCell ⟨w.heap.size,5,none⟩ (.slice po (ns.eraseIdx k).length co)).heap[w.heap.size+1]?=_:=(dt _ _ _ _ (by show w.heap.size+1≠w.heap.size;omega)).trans xw.2;have f2:=dJ (v0:=.int .u64 e) (v1:=.int .u64 g) (v2:=.int .u64 x) (v3:=.int .i64 t) (v4:=.slice p n c) (v5:=.slice po (ns.eraseIdx k).length co) t1;have uC:=((bW.trans (aT.mono (by omega))).setCell (p:=⟨w.heap.size,5,none⟩) ax (.slice po (ns.eraseIdx k).length co)).trans ((bH _ (w.heap.size+1) (.int .u64 e) (.int .u64 g) (.int .u64 x) (.int .i64 t) (.slice p n c) (.slice po (ns.eraseIdx k).length co)).mono (by omega));refine bodyPost_ret (v:=cK e g x t (.slice p n c) (.slice po (ns.eraseIdx k).length co)) (by simp [results,results137,go_sem,q0,q1,q2,q3,q4,q5]) rfl ?_;exact ⟨po,co,rfl,((ho.fr f1.2 (by decide)).fr f2 (by decide)).mono (by omega),uC⟩})
theorem de.at {n c:Nat} (h:de B w (.slice p n c) ss Qs) (hx:ss[i]?=some s) :
  ∃ g Q,p=some ⟨g,0,none⟩/\n=ss.length/\n<=c/\Qs[i]?=some Q/\w.cell? ⟨g,i*3,none⟩=some (.int .u64 s.1)/\w.cell? ⟨g,i*3+1,none⟩=some (.int .i64 s.2.1)/\w.cell? ⟨g,i*3+2,none⟩=some Q/\tX B w Q s.2.2/\∀ o,w.frozen? ⟨g,o,none⟩=false:=by
 have hi:=(aJ.1 hx).1;obtain ⟨Q,hQ⟩:∃ Q,Qs[i]?=some Q:=⟨_,aE (by rw [h.len];exact hi)⟩;have hz:(ss.zip Qs)[i]?=some (s,Q):=by rw [List.getElem?_zip_eq_some];exact ⟨hx,hQ⟩
 have hl:(ss.zip Qs).length=ss.length:=by rw [List.length_zip,h.len];simp
 obtain ⟨p',c',e,hc,-,hp⟩:=h.row.form;rw [hl] at e hc hp;simp only [Value.slice.injEq] at e;obtain ⟨rfl,rfl,rfl⟩:=e;obtain ⟨g,rfl⟩:=hp (by omega);obtain ⟨cs,-,he,iH,hf⟩:=RT.at h.row hz;unfold jO at he;subst he;exact ⟨g,Q,rfl,rfl,hc,hQ,iH 0 _ rfl,iH 1 _ rfl,iH 2 _ rfl,h.xm i s Q hx hQ,hf⟩
def kp (ss:List aL) (id:Int):Int:=match ss.findIdx? (fun s=>s.1==id) with
 | some i=>i
 | none=>-1
theorem JU (h:ss[j]?=some s) (hs:s.1=id) (lG:∀ (i:Nat) (s':aL),i<j->ss[i]?=some s'->¬ s'.1=id):kp ss id=j:=by
 have hj:=(aJ.1 h);have:ss.findIdx? (fun s=>s.1==id)=some j:=by rw [List.findIdx?_eq_some_iff_getElem];refine ⟨hj.1,by rw [hj.2];simp [hs],fun i hi=>?_⟩;have:=lG i _ hi (aE (by have:=hj.1;omega));simpa using this
 rw [kp,this]
theorem Gd (lG:∀ (i:Nat) (s':aL),ss[i]?=some s'->¬ s'.1=id):kp ss id=-1:=by
 have:ss.findIdx? (fun s=>s.1==id)=none:=by rw [List.findIdx?_eq_none_iff];intro x hx;obtain ⟨i,hi⟩:=List.mem_iff_getElem?.1 hx;simpa using lG i x hi
 rw [kp,this]
theorem Au (e g x t:Int) (p:Option Addr) (n c:Nat) (q:Option Addr) (m d:Nat) (ss:List aL) (Qs:List Value) (en:Hid (ss.length=n)) (id:Int) (B:Nat) (w:World) (hS:Hid (de B w (.slice p n c) ss Qs)) (hn:n<=1048576) :
  Calls prog 104 #[cK e g x t (.slice p n c) (.slice q m d),.int .u64 id] w fun r w'=>r=.returned (.int .i64 (kp ss id))/\Below w.heap.size w w':=by
 obtain ⟨W0,cA,b0,z0,C0,T0⟩:=aj w #[.int .u64 e,.int .u64 g,.int .u64 x,.int .i64 t,.slice p n c,.slice q m d] 27;have bW:=ae b0;have HC:=ae C0;clear b0 C0 T0;go_enter func104,ntmps104;go_wp2;rw [<-cA];clear cA
 go_loopw [5] (fun iv wr=>∃ j:Nat,j<=n/\iv=.int .i64 j/\Hid (∀ (i:Nat) (s':aL),i<j->ss[i]?=some s'->¬ s'.1=id)/\Hid (Below W0.heap.size W0 wr)) (fun iv _=>n-(intOf iv).toNat)
 case atStart=>exact ⟨0,Nat.zero_le _,rfl,(fun i s' h=>absurd h (by omega)),Below.refl _ _⟩
 case round =>(
 obtain ⟨j,hj,rfl,lG,aT⟩:=hrel;have s4:=(HC.below (by omega) aT).1 4 _ rfl;by_cases br:j<n;{
 have bt:(j:Int)<(n:Int):=by omega
 obtain ⟨s,hs⟩:∃ s,ss[j]?=some s:=⟨_,aE (by rw [aa en];exact br)⟩;have VI:Below w.heap.size w wr:=ai bW aT;obtain ⟨gs,Q,rfl,-,-,-,c0,-⟩:=de.at (hS.fr (Fr.below (T:=[]) VI) (by decide)) hs;have HB:=ae VI;have HS:=ae hs;clear hs VI;obtain ⟨I,J,K⟩:=s;by_cases he:I=id;{
 subst he;have Bi:(I==I)=true:=by simp
 go_wp2;go_ret;refine ⟨?_,HB⟩;rw [JU (aa HS) rfl (aa lG)]
 rfl}
 {
 have GU:Hid (∀ (i:Nat) (s':aL),i<j+1->ss[i]?=some s'->¬ s'.1=id):=fun i s' hi h=>by by_cases e2:i=j;{subst e2;rw [aa HS] at h;cases h;exact he};{exact lG i s' (by omega) h}
 go_wp2;go_roundw
 case rel=>exact ⟨j+1,by omega,by go_num,GU,aT⟩
 case measure=>simp [intOf];omega}}
 {
 have bt:¬ (j:Int)<(n:Int):=by omega
 have HE:=ae (Gd (fun i s' h=>aa lG i s' (by have:=(aJ.1 h).1;rw [aa en] at this;omega) h));have HB:Hid (Below w.heap.size w wr):=ai bW aT;go_wp2;go_ret;exact ⟨by rw [aa HE];rfl,aa HB⟩})
end Go.Proofs.YtcfcafeciggjeaaGreatDoor
