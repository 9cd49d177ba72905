import Derived.Test.YtcfcafeciggjeaaGreatDoorK24
namespace Go.Proofs.YtcfcafeciggjeaaGreatDoor
set_option maxHeartbeats 6400000
set_option linter.unusedVariables false
set_option linter.unusedSimpArgs false
set_option maxRecDepth 100000
open Go.ChangeShapes Go.WideShapes Go.ChangeAt Go.RowKit Go.Proofs.Tryz
variable {B b b' j k:Nat} {D:SD} {e g id t x:Int} {nd:aA} {ns:List aA} {ss:List aL} {v:Value} {vs:List Value} {w w' wr:World}
theorem gi.tu {l:List Int} (h:gi B w v l) {B':Nat} (hB:B'<=B):TU B' w v l:=by
 refine ⟨h.1.rdu,?_,h.2,?_⟩;{intro b e;rcases h.1.2 with ⟨rfl,-⟩ | ⟨g,cap,cur,rfl,-,hg,-⟩;{simp [Value.ownBlock] at e};{simp only [Value.ownBlock,Option.some.injEq] at e;subst e;exact ⟨cur,hg⟩}};{intro b e;rcases h.1.2 with ⟨rfl,-⟩ | ⟨g,cap,cur,rfl,hb,-⟩;{simp [Value.ownBlock] at e};{simp only [Value.ownBlock,Option.some.injEq] at e;subst e;exact Nat.le_trans hB hb}}
theorem aR.Az {B0:Nat} {g n cap:Nat} {nd0:aA} (h:aR B0 B w (.slice (some ⟨g,0,none⟩) n cap) (ns.set k nd)) (hk:ns[k]?=some nd0) (hj:j<8) (u:Value) (nd':aA)
  (hn:∀ w' P V H U,TB w' P nd.path->TB w' V nd.value->TU B0 w' H nd.holders->TU B0 w' U nd.watchers->Fr [38] w w'->fD B0 w' nd' ([P,V,.int .u64 nd.owner,.int .i64 nd.mode,H,.int .u64 nd.aD,.int .u64 nd.gen,U].set j u)) :
  aR B0 B (w.setCell ⟨g,k*8+j,none⟩ u) (.slice (some ⟨g,0,none⟩) n cap) (ns.set k nd')/\Fr [38] w (w.setCell ⟨g,k*8+j,none⟩ u):=by
 have:=aR.put h (i:=k) (nd:=nd) (by rw [List.getElem?_set];simp [(aJ.1 hk).1]) hj u nd' hn;rwa [List.set_set] at this
theorem Lm {T:List TypeId} {cur:Array Value} (hF:Fr T w wr) (ij:Below B w wr) (hb:w.heap.size<=b) (hB:B<=w.heap.size) (ht:wr.heap[b]?=some (.cells cur 27)) (v0 v1 v2 v3 v4 v5:Value) :
  Fr T w (aP wr b v0 v1 v2 v3 v4 v5)/\Below B w (aP wr b v0 v1 v2 v3 v4 v5)/\Fr [27] wr (aP wr b v0 v1 v2 v3 v4 v5):=by
 have uC:=bH wr b v0 v1 v2 v3 v4 v5;exact ⟨⟨Nat.le_trans hF.1 uC.size,fun b' cur ty mm ht cL=>(uC.block b' (by have:=cD cL;omega)).trans (hF.2 b' cur ty mm ht cL)⟩,ij.trans (uC.mono (by omega)),dJ ht⟩
theorem te (hk:D.ns[k]?=some nd) (h:nd.holders.contains id=false):cE D k id=D:=by
 unfold cE;rw [hk];simp only [h,Bool.false_eq_true,if_false]
theorem td (hk:D.ns[k]?=some nd) (h:nd.holders.contains id=true) (h2:ju nd.holders id≠[]):cE D k id={ D with ns:=D.ns.set k { nd with holders:=ju nd.holders id } }:=by
 unfold cE;rw [hk];simp only [h,if_true,if_neg h2]
theorem tg (hk:D.ns[k]?=some nd) (h:nd.holders.contains id=true) (h2:ju nd.holders id=[]):cE D k id={ D with ss:=gH D.ss nd.watchers (3,nd.path),ns:=D.ns.set k { nd with holders:=[],mode:=0,aD:=0,gen:=0,watchers:=[] } }:=by
 unfold cE;rw [hk];simp only [h,if_true,if_pos h2];unfold cX;have dT:=(aJ.1 hk).1;simp only [List.getElem?_set,dT,if_true,List.set_set]
theorem yS (e g x t:Int) (p:Option Addr) (n c:Nat) (q:Option Addr) (m d:Nat) (ss:List aL) (Qs:List Value) (ns:List aA) (en:Hid (ss.length=n)) (k:Nat) (id:Int) (nd:aA) (hk:Hid (ns[k]?=some nd)) (B:Nat) (w:World) (hS:Hid (de B w (.slice p n c) ss Qs)) (hN:Hid (jh B w (.slice q m d) ns)) (hB:B<=w.heap.size) (hn:n<=1048576) (hm:m<=1048576) (hp:nd.path.length<=1048576) (hw:nd.watchers.length<=1048576) (hh:nd.holders.length<=1048576) :
  Calls prog 149 #[cK e g x t (.slice p n c) (.slice q m d),.int .i64 k,.int .u64 id] w fun r w'=>r=.returned (cK e g x t (.slice p n c) (.slice q m d))/\(∃ tY,de B w' (.slice p n c) (cE ⟨e,g,x,t,ss,ns⟩ k id).ss tY)/\jh B w' (.slice q m d) (cE ⟨e,g,x,t,ss,ns⟩ k id).ns/\Fr [49,35,38] w w'/\Below B w w':=by
 obtain ⟨gn,Pv,Vv,Hv,Uv,rfl,em,hmd,-,-,-,-,c4,-,-,-,-,-,tH,-,tW⟩:=aR.at hN hk;have Uh:k<m:=by rw [em];exact (aJ.1 (aa hk)).1
 have KH:(k:Int)<(m:Int):=by omega
 clear em;obtain ⟨ph,ch,rfl⟩:=tH.ew;obtain ⟨nh,eH⟩:∃ nh,Hid (nd.holders.length=nh):=⟨_,ae rfl⟩;rw [aa eH] at hh tH c4;have pM:gn<w.heap.size:=(hN.lt gn rfl).2;have uy:=(hN.lt gn rfl).1;obtain ⟨W0,cA,b0,z0,C0,T0⟩:=aj w #[.int .u64 e,.int .u64 g,.int .u64 x,.int .i64 t,.slice p n c,.slice (some ⟨gn,0,none⟩) m d] 27;obtain ⟨W1,fP,b1,z1,C1,T1⟩:=aj W0 #[.int .u64 0,.int .u64 0,.int .u64 0,.int .i64 0,.slice none 0 0,.slice none 0 0] 27;rw [z0] at C1 T1 z1;have bW:=ae (ai b0 b1);have k4:=fun (ob o2:Obj)=>af (af c4 ((Below.refl _ w).alloc ax ob)) (ay.alloc ax o2);have HC:=ae (ag (C0.below (by omega) b1) C1);have HT:=ae (ag ((b1.block _ (by omega)).trans T0) T1);have Dy:=ae (ag (hS.fr (Fr.below (T:=[]) (aa bW)) (by decide)) (ag (hN.fr (Fr.below (T:=[]) (aa bW)) (by decide)) (tH.fr (Fr.below (T:=[]) (aa bW)) (by decide))));have fz:=fun (v:World) (hv:Below W1.heap.size W1 v) (o:Nat)=>((ai bW hv).frozen (p:=⟨gn,o,none⟩) pM).trans (tW o);have FZ:=ae fz;have Yr:=ae c4;clear b0 b1 C0 C1 T0 T1 c4 tW tH fz;go_enter func149,ntmps149;go_wp2_with fail;rw [<-cA,<-fP];clear cA fP k4;obtain ⟨bo,Jh⟩:∃ bo,Hid (nd.holders.contains id=bo):=⟨_,ae rfl⟩;refine (qi ph ch nh nd.holders eH id W1 Dy.2.2.1 hh bo Jh).mono ?_;rintro r w1 ⟨rfl,bf⟩;have rO:=bf.size;have kN:=ae (ag (HC.1.below (by omega) bf) (HC.2.below (by omega) bf));have Yf:=ae (ag ((bf.block _ (by omega)).trans HT.1) ((bf.block _ (by omega)).trans HT.2));have mj:=ae (ag (Dy.1.fr (Fr.below (T:=[]) bf) (by decide)) (ag (Dy.2.1.fr (Fr.below (T:=[]) bf) (by decide)) (Dy.2.2.fr (Fr.below (T:=[]) bf) (by decide))));have kn:=ae (ai bW bf);have c4:=af Yr kn;have FZ1:=ae (fun (v:World) (hv:Below w1.heap.size w1 v) (o:Nat)=>aa FZ v (ai bf hv) o);clear HC HT Dy FZ Yr bW bf;have s5:=kN.1.1 5 _ rfl;cases bo;{obtain ⟨K0,kf⟩:=kN.1;obtain ⟨R0,rf⟩:=kN.2;have k0:=K0 0 _ rfl;have k1:=K0 1 _ rfl;have k2:=K0 2 _ rfl;have k3:=K0 3 _ rfl;have k4:=K0 4 _ rfl;have q0:=R0 0 _ rfl;have q1:=R0 1 _ rfl;have q2:=R0 2 _ rfl;have q3:=R0 3 _ rfl;have q4:=R0 4 _ rfl;have q5:=R0 5 _ rfl;clear K0 R0 c4;go_wp2;have f2:=dJ (v0:=.int .u64 e) (v1:=.int .u64 g) (v2:=.int .u64 x) (v3:=.int .i64 t) (v4:=.slice p n c) (v5:=.slice (some ⟨gn,0,none⟩) m d) Yf.2;have uC:=kn.trans ((bH w1 (w.heap.size+1) (.int .u64 e) (.int .u64 g) (.int .u64 x) (.int .i64 t) (.slice p n c) (.slice (some ⟨gn,0,none⟩) m d)).mono (by omega));refine bodyPost_ret (v:=cK e g x t (.slice p n c) (.slice (some ⟨gn,0,none⟩) m d)) (by simp [results,results149,go_sem,q0,q1,q2,q3,q4,q5]) rfl ?_;rw [te (aa hk) (aa Jh)];exact ⟨rfl,⟨_,mj.1.fr f2 (by decide)⟩,mj.2.1.fr f2 (by decide),Fr.below uC,uC.mono hB⟩};{
 go_wp2_with fail;refine (mU ph ch nh nd.holders eH id w1 mj.2.2.1 hh).mono ?_;rintro r w2 ⟨pl,cl,rfl,ol,aS⟩;obtain ⟨L,eL⟩:∃ L,Hid (ju nd.holders id=L):=⟨_,ae rfl⟩;rw [aa eL] at ol;obtain ⟨nl,iI⟩:∃ nl,Hid (L.length=nl):=⟨_,ae rfl⟩;rw [aa eL,aa iI];rw [aa iI] at ol;have Sa:=aS.size;have IZ:=ae (ag (kN.1.below (by omega) aS) (kN.2.below (by omega) aS));have We:=ae (ag ((aS.block _ (by omega)).trans Yf.1) ((aS.block _ (by omega)).trans Yf.2));have NC:=ae (ag (mj.1.fr (Fr.below (T:=[]) aS) (by decide)) (ag (mj.2.1.fr (Fr.below (T:=[]) aS) (by decide)) (ol.tu (B':=B) (by have:=kn.size;omega))));have km:=ae (ai kn aS);have fz:=aa FZ1 w2 aS;clear kN Yf mj FZ1 kn aS ol c4 s5;have s5:=IZ.1.1 5 _ rfl;have HJ:=fz (k*8+4);obtain ⟨Da,P',V',H',U',e',-,-,-,-,-,d3,d4,d5,d6,-⟩:=aR.at NC.2.1 hk;simp only [Option.some.injEq,Addr.mk.injEq,and_true] at e';subst e';have bq:¬ gn=w.heap.size:=by omega
 have aV8:¬ gn=w.heap.size+1:=by omega
 obtain ⟨N4,F4⟩:=aR.put NC.2.1 hk (j:=4) (by omega) (.slice pl nl cl) { nd with holders:=L } (fun w' P V H U h1 h2 h3 h4 hf=>⟨P,V,.slice pl nl cl,U,rfl,h1,h2,NC.2.2.fr hf (by decide),h4⟩);obtain ⟨K0,kf⟩:=IZ.1;obtain ⟨R0,rf⟩:=IZ.2;have k0:=K0 0 _ rfl;have k1:=K0 1 _ rfl;have k2:=K0 2 _ rfl;have k3:=K0 3 _ rfl;have k4:=K0 4 _ rfl;have q0:=R0 0 _ rfl;have q1:=R0 1 _ rfl;have q2:=R0 2 _ rfl;have q3:=R0 3 _ rfl;have q4:=R0 4 _ rfl;have q5:=R0 5 _ rfl;clear K0 R0;by_cases h0:nl=0;{
 subst h0;have US:L=[]:=List.length_eq_zero_iff.1 iI;subst US;have Vi:=fz (k*8+3);have Vh:=fz (k*8+5);have XO:=fz (k*8+6);have NK:=hk;obtain ⟨N4',F4'⟩:=(⟨N4,F4⟩:_/\_);obtain ⟨N3,F3⟩:=aR.Az N4 hk (j:=3) (by omega) (.int .i64 0) { nd with holders:=[],mode:=0 } (fun w' P V H U h1 h2 h3 h4 hf=>⟨P,V,H,U,rfl,h1,h2,h3,h4⟩);obtain ⟨N5,F5⟩:=aR.Az N3 hk (j:=5) (by omega) (.int .u64 0) { nd with holders:=[],mode:=0,aD:=0 } (fun w' P V H U h1 h2 h3 h4 hf=>⟨P,V,H,U,rfl,h1,h2,h3,h4⟩);obtain ⟨N6,F6⟩:=aR.Az N5 hk (j:=6) (by omega) (.int .u64 0) { nd with holders:=[],mode:=0,aD:=0,gen:=0 } (fun w' P V H U h1 h2 h3 h4 hf=>⟨P,V,H,U,rfl,h1,h2,h3,h4⟩);obtain ⟨X,hX⟩:=ar ((((w2.setCell ⟨gn,k*8+4,none⟩ (.slice pl 0 cl)).setCell ⟨gn,k*8+3,none⟩ (.int .i64 0)).setCell ⟨gn,k*8+5,none⟩ (.int .u64 0)).setCell ⟨gn,k*8+6,none⟩ (.int .u64 0));rw [<-hX] at N6 F6;have FX:=ae (((F4.trans F3).trans F5).trans F6);have NX:=ae N6;have SX:=ae (NC.1.fr FX (by decide));have BX:Hid (Below B w X):=by rw [hX];exact (((((km.mono hB).setCell (p:=⟨gn,_,none⟩) uy _).setCell (p:=⟨gn,_,none⟩) uy _).setCell (p:=⟨gn,_,none⟩) uy _).setCell (p:=⟨gn,_,none⟩) uy _)
 have FW:=ae ((Fr.below (aa km):Fr [49,35,38] w w2).trans (FX.sub (by simp)));have zX:=FX.1;have YH:=FX.2 _ _ _ _ (by decide) We.1;have YG:=FX.2 _ _ _ _ (by decide) We.2;have EU:=IZ.1.bc (YH.trans We.1.symm);have NL:=IZ.2.bc (YG.trans We.2.symm);have HX:=ae (ag YH (ag YG (ag EU NL)));clear N4 N3 N5 N6 F4 F3 F5 F6 N4' F4' YH YG EU NL;go_wp2_with fail;rw [<-hX];clear hX d3 d4 d5 d6 Vi HJ Vh XO fz k0 k1 k2 k3 k4 s5 q0 q1 q2 q3 q4 q5 kf rf;refine (oq e g x t p n c (some ⟨gn,0,none⟩) m d ss Qs _ en k 3 { nd with holders:=[],mode:=0,aD:=0,gen:=0 } (ae (by rw [List.getElem?_set];simp [(aJ.1 (aa hk)).1])) B X SX NX (by omega) hn hm hp hw).mono ?_;rintro r w3 ⟨rfl,⟨Q3,Bp⟩,vj,rn,dA⟩;rw [List.set_set] at vj;have t0:=rn.2 _ _ _ _ (by decide) HX.1;have t1:=rn.2 _ _ _ _ (by decide) HX.2.1;have C0:=HX.2.2.1.bc (t0.trans HX.1.symm);have C1:=HX.2.2.2.bc (t1.trans HX.2.1.symm);have HE:=ae (ag Bp (ag vj (ag (FW.trans rn) (BX.trans dA))));have HT3:=ae (ag t0 t1);have Mi:=ae C1;obtain ⟨K0,kf⟩:=C0;obtain ⟨R0,rf⟩:=C1;have k0:=K0 0 _ rfl;have k1:=K0 1 _ rfl;have k2:=K0 2 _ rfl;have k3:=K0 3 _ rfl;have k4:=K0 4 _ rfl;have k5:=K0 5 _ rfl;have q0:=R0 0 _ rfl;have q1:=R0 1 _ rfl;have q2:=R0 2 _ rfl;have q3:=R0 3 _ rfl;have q4:=R0 4 _ rfl;have q5:=R0 5 _ rfl;clear K0 R0 t0 t1 Bp vj rn dA;go_wp2;obtain ⟨fA,bA,gA⟩:=Lm HE.2.2.1 HE.2.2.2 ax hB HT3.1 (.int .u64 e) (.int .u64 g) (.int .u64 x) (.int .i64 t) (.slice p n c) (.slice (some ⟨gn,0,none⟩) m d);obtain ⟨fB,bB,gB⟩:=Lm fA bA (Nat.le_succ _) hB ((gK (by omega)).trans HT3.2) (.int .u64 e) (.int .u64 g) (.int .u64 x) (.int .i64 t) (.slice p n c) (.slice (some ⟨gn,0,none⟩) m d);refine bodyPost_ret (v:=cK e g x t (.slice p n c) (.slice (some ⟨gn,0,none⟩) m d)) (by simp [results,results149,go_sem,q0,q1,q2,q3,q4,q5]) rfl ?_;rw [tg (aa hk) (aa Jh) (aa eL)];exact ⟨rfl,⟨_,(HE.1.fr gA (by decide)).fr gB (by decide)⟩,(HE.2.1.fr gA (by decide)).fr gB (by decide),fB,bB⟩};{
 have Ff:¬ ((nl:Int)=0):=by omega
 go_wp2;have t1:=F4.2 _ _ _ _ (by decide) We.2;obtain ⟨fB,bB,gB⟩:=Lm ((Fr.below (aa km):Fr [49,35,38] w w2).trans (F4.sub (by simp))) ((km.mono hB).setCell (p:=⟨gn,_,none⟩) uy _) (Nat.le_succ _) hB t1 (.int .u64 e) (.int .u64 g) (.int .u64 x) (.int .i64 t) (.slice p n c) (.slice (some ⟨gn,0,none⟩) m d);refine bodyPost_ret (v:=cK e g x t (.slice p n c) (.slice (some ⟨gn,0,none⟩) m d)) (by simp [results,results149,go_sem,q0,q1,q2,q3,q4,q5]) rfl ?_;rw [td (aa hk) (aa Jh) (by rw [aa eL];intro e;rw [e] at iI;exact h0 iI.symm)];refine ⟨rfl,⟨_,(NC.1.fr F4 (by decide)).fr gB (by decide)⟩,?_,fB,bB⟩;simp only [aa eL];exact aR.fr N4 gB (by decide)}}
def BX (w:World) (b:Nat) (vs:List Value):Prop:=al w b vs/\∃ cur,w.heap[b]?=some (.cells cur 27)
theorem BX.fr {T:List TypeId} (h:BX w b vs) (hf:Fr T w w') (ht:27∉T):BX w' b vs:=by
 obtain ⟨h1,cur,h2⟩:=h;have h3:=hf.2 _ _ _ _ ht h2;exact ⟨h1.bc (h3.trans h2.symm),cur,h3⟩
theorem BX.lt (h:BX w b vs):b<w.heap.size:=by
 obtain ⟨h1,cur,h2⟩:=h;exact cD h2
theorem BX.below (h:BX w b vs) (hb:Below w.heap.size w w'):BX w' b vs:=h.fr (Fr.below (T:=[]) hb) (by simp)
theorem BX.put {o0 o1 o2 o3 o4 o5:Value} (h:BX w b [o0,o1,o2,o3,o4,o5]) (v0 v1 v2 v3 v4 v5:Value):BX (aP w b v0 v1 v2 v3 v4 v5) b [v0,v1,v2,v3,v4,v5]:=⟨Ct h.1 _ _ _ _ _ _,oC h.2⟩
theorem BX.pD (h:BX w b' vs) (bq:b'≠b) (v0 v1 v2 v3 v4 v5:Value):BX (aP w b v0 v1 v2 v3 v4 v5) b' vs:=⟨oE h.1 bq _ _ _ _ _ _,h.2.imp fun cur hc=>(gK bq).trans hc⟩
theorem BX.fin {T:List TypeId} (h:BX wr b vs) (hF:Fr T w wr) (ij:Below B w wr) (hb:w.heap.size<=b) (hB:B<=w.heap.size) (v0 v1 v2 v3 v4 v5:Value) :
  Fr T w (aP wr b v0 v1 v2 v3 v4 v5)/\Below B w (aP wr b v0 v1 v2 v3 v4 v5)/\Fr [27] wr (aP wr b v0 v1 v2 v3 v4 v5):=by
 obtain ⟨-,cur,h2⟩:=h;exact Lm hF ij hb hB h2 _ _ _ _ _ _
theorem BX.nF {u:Value} (h:BX w b' vs) (bq:b'≠b):BX (w.setCell ⟨b,j,none⟩ u) b' vs:=⟨h.1.bc (dt _ _ _ _ bq),h.2.imp fun cur hc=>(dt _ _ _ _ bq).trans hc⟩
theorem BX.Vk {T:List TypeId} (h:BX wr b vs) (hF:Fr T w wr) (ij:Below B w wr) (hb:w.heap.size<=b) (hB:B<=w.heap.size) (u:Value) :
  Fr T w (wr.setCell ⟨b,j,none⟩ u)/\Below B w (wr.setCell ⟨b,j,none⟩ u)/\Fr [27] wr (wr.setCell ⟨b,j,none⟩ u):=by
 have uC:Below b wr (wr.setCell ⟨b,j,none⟩ u):=ay.setCell (p:=⟨b,j,none⟩) ax _;exact ⟨⟨Nat.le_trans hF.1 uC.size,fun b' cur ty mm ht cL=>(uC.block b' (by have:=cD cL;omega)).trans (hF.2 b' cur ty mm ht cL)⟩,ij.trans (uC.mono (by omega)),(aZ h.2).2⟩
theorem BX.cells {v0 v1 v2 v3 v4 v5:Value} (h:BX w b [v0,v1,v2,v3,v4,v5]):w.cell? ⟨b,0,none⟩=some v0/\w.cell? ⟨b,1,none⟩=some v1/\w.cell? ⟨b,2,none⟩=some v2/\w.cell? ⟨b,3,none⟩=some v3/\w.cell? ⟨b,4,none⟩=some v4/\w.cell? ⟨b,5,none⟩=some v5/\∀ o,w.frozen? ⟨b,o,none⟩=false:=
 ⟨h.1.1 0 _ rfl,h.1.1 1 _ rfl,h.1.1 2 _ rfl,h.1.1 3 _ rfl,h.1.1 4 _ rfl,h.1.1 5 _ rfl,h.1.2⟩
theorem bg (w:World) (v0 v1 v2 v3 v4 v5:Value):∃ W,W=w.alloc (.cells #[v0,v1,v2,v3,v4,v5] 27)/\Below w.heap.size w W/\W.heap.size=w.heap.size+1/\BX W w.heap.size [v0,v1,v2,v3,v4,v5]:=by
 obtain ⟨W,h1,h2,h3,h4,h5⟩:=aj w #[v0,v1,v2,v3,v4,v5] 27;exact ⟨W,h1,h2,h3,h4,_,h5⟩
def V9 (nd:aA):Prop:=nd.path.length<=1048576/\nd.watchers.length<=1048576/\nd.holders.length<=1048576
def NB (ns:List aA):Prop:=∀ nd∈ns,V9 nd
theorem NB.set (h:NB ns) (hn:V9 nd):NB (ns.set k nd):=fun x hx=>by
 rcases List.mem_or_eq_of_mem_set hx with hx | rfl;{exact h x hx};{exact hn}
theorem NB.erase (h:NB ns) (k:Nat):NB (ns.eraseIdx k):=fun x hx=>h x (List.mem_of_mem_eraseIdx hx)
theorem rT (hk:ns[k]?=some nd) (kd:Int):cX ⟨e,g,x,t,ss,ns⟩ k kd=⟨e,g,x,t,gH ss nd.watchers (kd,nd.path),ns.set k { nd with watchers:=[] }⟩:=by
 unfold cX;simp only [hk]
theorem bN {α:Type} {l:List α} {a:α} (hk:l[k]?=some a) (b:α):(l.set k b)[k]?=some b:=by
 rw [List.getElem?_set,if_pos rfl,if_pos (aJ.1 hk).1]
theorem yT (hk:ns[k]?=some nd) (id:Int):∃ uM J9 ia,cE ⟨e,g,x,t,ss,ns⟩ k id=⟨e,g,x,t,uM,J9⟩/\uM.length=ss.length/\J9.length=ns.length/\J9[k]?=some ia/\ia.owner=nd.owner/\(NB ns->NB J9):=by
 by_cases h:nd.holders.contains id=true;{by_cases h2:ju nd.holders id=[];{exact ⟨_,_,_,tg hk h h2,jB _ _ _,List.length_set,bN hk _,rfl,fun hb=>hb.set ⟨(hb nd (aF hk)).1,by simp,by simp⟩⟩};{exact ⟨_,_,_,td hk h h2,rfl,List.length_set,bN hk _,rfl,fun hb=>hb.set ⟨(hb nd (aF hk)).1,(hb nd (aF hk)).2.1,Nat.le_trans (kP _ _) (hb nd (aF hk)).2.2⟩⟩}};{exact ⟨_,_,_,te hk (by simpa using h),rfl,rfl,hk,rfl,fun hb=>hb⟩}
def rJ (id:Int) (nd:aA):aA:={ nd with watchers:=ju nd.watchers id }
def bO (id:Int):Nat->Nat->SD->SD
 | 0,_,D=>D
 | f+1,k,D=>match (cE D k id).ns[k]? with
  | none=>D
  | some nd=>if nd.owner=id then bO id f k (zO (cX (cE D k id) k 2) k) else bO id f (k+1) (cE D k id)
def DR (id:Int) (ss:List aL):List aL:=ss.filter fun s=>!(s.1==id)
def dw (D:SD) (id:Int):SD:={ bO id D.ns.length 0 { D with ns:=D.ns.map (rJ id) } with ss:=DR id (bO id D.ns.length 0 { D with ns:=D.ns.map (rJ id) }).ss }
theorem Qr (h:V9 nd):V9 (rJ id nd):=⟨h.1,Nat.le_trans (kP _ _) h.2.1,h.2.2⟩
theorem NB.map (h:NB ns) (id:Int):NB (ns.map (rJ id)):=fun x hx=>by
 obtain ⟨y,hy,rfl⟩:=List.mem_map.1 hx;exact Qr (h y hy)
theorem fh {ops:Array Oper} {rest:List Oper} {o:Oper} {a:Act} {Q:Exit->Act->World->Prop} (jw:o.guard=none) (s x:Operand)
  (ho:o.op=.call { callee:=.builtin .append,args:=#[s,x],argTypes:=#[24,24] })
  (B:Nat) (v:Value) (zs:List (aL × Value)) (z:aL × Value) (k:Nat) (ek:Hid (zs.length=k)) (hs:a.eval s=v) (bj:RT jO 35 3 B w v zs) (g:Nat) (hx:a.eval x=.slice (some ⟨g,0,none⟩) 1 1) (hq:z.2.oneCell'=true) (dR:∀ (j:Nat) u,[.int .u64 z.1.1,.int .i64 z.1.2.1,z.2][j]?=some u->w.cell? ⟨g,j,none⟩=some u)
  (hk:k<4194304) (hB:B<=w.heap.size)
  (h:∀ p' c' w',RT jO 35 3 B w' (.slice p' (k+1) c') (zs++[z])->w.grownBy w' v.ownBlock->Fr [35] w w'->wpList prog ops Q rest (a.put o.dst (.slice p' (k+1) c')) w'):wpList prog ops Q (o::rest) a w:=by
 obtain ⟨i,hi,mX,ik,jv⟩:=info_parts Tryz.infoSes;have ht:=bj.gS;obtain ⟨rs,h1,h2,h3,h4⟩:=bj;rw [aa ek] at h3;refine gI jw s x 24 ho B 35 i _ 3 40 underlying24 hi mX ik jv rfl (by decide) v _ _ hs h3 g 1 1 _ hx rfl dR (fun u hu=>by simp at hu;rcases hu with rfl | rfl | rfl;rfl;rfl;exact hq) (by unfold maxLen;omega) (by omega) hB ?_;intro v' w' dN hg _;have hf:Fr [35] w w':=Fr.grown hg fun b hb=>by obtain ⟨cur,hc⟩:=ht b hb;exact ⟨cur,_,hc,by simp⟩
 have sn:RT jO 35 3 B w' v' (zs++[z]):=RT.snoc h1 h2 h4 (fun _ _ h=>h) rfl rfl (by rw [aa ek];exact dN);obtain ⟨p',c',rfl,-⟩:=RT.form sn;rw [List.length_append,aa ek] at sn ⊢;exact h p' c' w' sn hg hf
theorem de.filter {v':Value} {Qs:List Value} (h:de B w v ss Qs) (f:aL->Bool) (hr:RT jO 35 3 B w v' ((ss.zip Qs).filter fun z=>f z.1)) :
  de B w v' (ss.filter f) (((ss.zip Qs).filter fun z=>f z.1).map Prod.snd):=by
 have e1:ss.filter f=((ss.zip Qs).filter fun z=>f z.1).map Prod.fst:=by
  have:((ss.zip Qs).map Prod.fst)=ss:=by rw [List.map_fst_zip (by rw [h.len];exact Nat.le_refl _)]
  conv=>lhs;rw [<-this]
  rw [List.filter_map]
  rfl
 have e2:(ss.zip Qs).map Prod.snd=Qs:=by rw [List.map_snd_zip (by rw [h.len];exact Nat.le_refl _)]
 have D6:Qs.Pairwise fun Q Q'=>∀ b,Q.ownBlock=some b->Q'.ownBlock≠some b:=by rw [List.pairwise_iff_getElem];intro i j hi hj ic b hb;exact h.pD i j _ _ b (by omega) (aE hi) (aE hj) hb
 have OW:(((ss.zip Qs).filter fun z=>f z.1).map Prod.snd).Pairwise fun Q Q'=>∀ b,Q.ownBlock=some b->Q'.ownBlock≠some b:=by rw [<-e2] at D6;exact D6.sublist (List.filter_sublist.map _)
 refine ⟨by rw [e1];simp,?_,fun i s Q hs hQ=>?_,fun i j Q Q' b ic hQ hQ' hb=>?_⟩;{rw [e1,<-List.unzip_fst,<-List.unzip_snd,List.zip_unzip];exact hr};{rw [e1,List.getElem?_map] at hs;rw [List.getElem?_map] at hQ;obtain ⟨z,hz,rfl⟩:=Option.map_eq_some_iff.1 hs;rw [hz] at hQ;cases hQ;obtain ⟨j,hj⟩:=List.mem_iff_getElem?.1 (List.mem_filter.1 (aF hz)).1;rw [List.getElem?_zip_eq_some] at hj;exact h.xm j _ _ hj.1 hj.2};{rw [List.pairwise_iff_getElem] at OW;obtain ⟨hi,rfl⟩:=aJ.1 hQ;obtain ⟨hj,rfl⟩:=aJ.1 hQ';rcases Nat.lt_or_gt_of_ne ic with hl | hl;{exact OW i j hi hj hl b hb};{exact fun e=>OW j i hj hi hl b e hb}}
theorem Ij {zs:List (aL × Value)} {z:aL × Value} (h:zs[k]?=some z) (f:aL->Bool):((zs.take (k+1)).filter fun z=>f z.1)=if f z.1 then ((zs.take k).filter fun z=>f z.1)++[z] else (zs.take k).filter fun z=>f z.1:=by
 rw [List.take_add_one,h,List.filter_append];by_cases e:f z.1<;>simp [e]
end Go.Proofs.YtcfcafeciggjeaaGreatDoor
