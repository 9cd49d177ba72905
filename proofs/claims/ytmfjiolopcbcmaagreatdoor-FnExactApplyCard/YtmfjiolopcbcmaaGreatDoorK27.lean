import Derived.Test.YtmfjiolopcbcmaaGreatDoorK26
namespace Go.Proofs.YtmfjiolopcbcmaaGreatDoor
set_option maxHeartbeats 6400000
set_option linter.unusedVariables false
set_option linter.unusedSimpArgs false
set_option maxRecDepth 100000
open Go.ChangeShapes Go.WideShapes Go.ChangeAt Go.RowKit Go.Proofs.Tryz
variable {B b b' j k:Nat} {D:SD} {T:List TypeId} {e g id t x:Int} {nd:aA} {ns:List aA} {ss:List aR} {v:Value} {vs:List Value} {w w' wr:World}
theorem ga.tu {l:List Int} (h:ga B w v l):TU w v l:=⟨h.rdu,fun b e=>.inr (by
 rcases h.2 with ⟨rfl,-⟩ | ⟨g,cap,cur,rfl,-,hg,-⟩;{simp [Value.ownBlock] at e};{simp only [Value.ownBlock,Option.some.injEq] at e;subst e;exact ⟨cur,_,hg⟩})⟩
theorem dA.Ep {g n cap:Nat} {nd0:aA} (h:dA B w (.slice (some ⟨g,0,none⟩) n cap) (ns.set k nd)) (hk:ns[k]?=some nd0) (hj:j<8) (u:Value) (nd':aA)
  (hn:∀ w' P V H U,TB w' P nd.path->TB w' V nd.value->TU w' H nd.holders->TU w' U nd.watchers->Fr [103] w w'->jH w' nd' ([P,V,.int .u64 nd.owner,.int .i64 nd.mode,H,.int .u64 nd.aC,.int .u64 nd.gen,U].set j u)) :
  dA B (w.setCell ⟨g,k*8+j,none⟩ u) (.slice (some ⟨g,0,none⟩) n cap) (ns.set k nd')/\Fr [103] w (w.setCell ⟨g,k*8+j,none⟩ u):=by
 have:=dA.put h (i:=k) (nd:=nd) (by rw [List.getElem?_set];simp [(aM.1 hk).1]) hj u nd' hn;rwa [List.set_set] at this
theorem Qy {cur:Array Value} (hF:Fr T w wr) (iS:Below B w wr) (hb:w.heap.size<=b) (hB:B<=w.heap.size) (ht:wr.heap[b]?=some (.cells cur 35)) (v0 v1 v2 v3 v4 v5:Value) :
  Fr T w (db wr b v0 v1 v2 v3 v4 v5)/\Below B w (db wr b v0 v1 v2 v3 v4 v5)/\Fr [35] wr (db wr b v0 v1 v2 v3 v4 v5):=by
 have xo:=cE wr b v0 v1 v2 v3 v4 v5;exact ⟨⟨Nat.le_trans hF.1 xo.size,fun b' cur ty mm ht bu=>(xo.block b' (by have:=dX bu;omega)).trans (hF.2 b' cur ty mm ht bu)⟩,iS.trans (xo.mono (by omega)),gH ht⟩
theorem vL (hk:D.ns[k]?=some nd) (h:nd.holders.contains id=false):df D k id=D:=by
 unfold df;rw [hk];simp only [h,Bool.false_eq_true,if_false]
theorem vK (hk:D.ns[k]?=some nd) (h:nd.holders.contains id=true) (h2:mh nd.holders id≠[]):df D k id={ D with ns:=D.ns.set k { nd with holders:=mh nd.holders id } }:=by
 unfold df;rw [hk];simp only [h,if_true,if_neg h2]
theorem vM (hk:D.ns[k]?=some nd) (h:nd.holders.contains id=true) (h2:mh nd.holders id=[]):df D k id={ D with ss:=jD D.ss nd.watchers (3,nd.path),ns:=D.ns.set k { nd with holders:=[],mode:=0,aC:=0,gen:=0,watchers:=[] } }:=by
 unfold df;rw [hk];simp only [h,if_true,if_pos h2];unfold da;have bH:=(aM.1 hk).1;simp only [List.getElem?_set,bH,if_true,List.set_set]
theorem Dm (e g x t:Int) (p:Option Addr) (n c:Nat) (q:Option Addr) (m d:Nat) (ss:List aR) (Qs:List Value) (ns:List aA) (en:Hid (ss.length=n)) (k:Nat) (id:Int) (nd:aA) (hk:Hid (ns[k]?=some nd)) (B:Nat) (w:World) (hS:Hid (fK B w (.slice p n c) ss Qs)) (hN:Hid (dA B w (.slice q m d) ns)) (hB:B<=w.heap.size) (hn:n<=1048576) (hm:m<=1048576) (hp:nd.path.length<=1048576) (hw:nd.watchers.length<=1048576) (hh:nd.holders.length<=1048576) :
  Calls prog 99 #[cL e g x t (.slice p n c) (.slice q m d),.int .i64 k,.int .u64 id] w fun r w'=>r=.returned (cL e g x t (.slice p n c) (.slice q m d))/\(∃ vT,fK B w' (.slice p n c) (df ⟨e,g,x,t,ss,ns⟩ k id).ss vT)/\dA B w' (.slice q m d) (df ⟨e,g,x,t,ss,ns⟩ k id).ns/\Fr [147,95,103] w w'/\Below B w w':=by
 obtain ⟨gn,Pv,Vv,Hv,Uv,rfl,em,hmd,-,-,-,-,c4,-,-,-,-,-,tH,-,wS⟩:=dA.at hN hk;have YL:k<m:=by rw [em];exact (aM.1 (aa hk)).1
 have PJ:(k:Int)<(m:Int):=by omega
 clear em;obtain ⟨ph,ch,rfl⟩:=tH.ed;obtain ⟨nh,eH⟩:∃ nh,Hid (nd.holders.length=nh):=⟨_,ae rfl⟩;rw [aa eH] at hh tH c4;have Jj:gn<w.heap.size:=(hN.lt gn rfl).2;have xm:=(hN.lt gn rfl).1;obtain ⟨W0,dT,b0,z0,C0,T0⟩:=au w #[.int .u64 e,.int .u64 g,.int .u64 x,.int .i64 t,.slice p n c,.slice (some ⟨gn,0,none⟩) m d] 35;obtain ⟨W1,fN,b1,z1,C1,T1⟩:=au W0 #[.int .u64 0,.int .u64 0,.int .u64 0,.int .i64 0,.slice none 0 0,.slice none 0 0] 35;rw [z0] at C1 T1 z1;have bW:=ae (ai b0 b1);have k4:=fun (ob o2:Obj)=>af (af c4 ((Below.refl _ w).alloc ay ob)) (ar.alloc ay o2);have HC:=ae (ag (C0.below (by omega) b1) C1);have HT:=ae (ag ((b1.block _ (by omega)).trans T0) T1);have GZ:=ae (ag (hS.fr (Fr.below (T:=[]) (aa bW)) (by decide)) (ag (hN.fr (Fr.below (T:=[]) (aa bW)) (by decide)) (tH.fr (Fr.below (T:=[]) (aa bW)) (by decide))));have fz:=fun (v:World) (hv:Below W1.heap.size W1 v) (o:Nat)=>((ai bW hv).frozen (p:=⟨gn,o,none⟩) Jj).trans (wS o);have FZ:=ae fz;have Ti:=ae c4;clear b0 b1 C0 C1 T0 T1 c4 wS tH fz;go_enter func99,ntmps99;go_wp2_with fail;rw [<-dT,<-fN];clear dT fN k4;obtain ⟨bo,NI⟩:∃ bo,Hid (nd.holders.contains id=bo):=⟨_,ae rfl⟩;refine (sj ph ch nh nd.holders eH id W1 GZ.2.2.1 hh bo NI).mono ?_;rintro r w1 ⟨rfl,aK⟩;have I8:=aK.size;have kP:=ae (ag (HC.1.below (by omega) aK) (HC.2.below (by omega) aK));have HT1:=ae (ag ((aK.block _ (by omega)).trans HT.1) ((aK.block _ (by omega)).trans HT.2));have qF:=ae (ag (GZ.1.fr (Fr.below (T:=[]) aK) (by decide)) (ag (GZ.2.1.fr (Fr.below (T:=[]) aK) (by decide)) (GZ.2.2.fr (Fr.below (T:=[]) aK) (by decide))));have kK:=ae (ai bW aK);have c4:=af Ti kK;have FZ1:=ae (fun (v:World) (hv:Below w1.heap.size w1 v) (o:Nat)=>aa FZ v (ai aK hv) o);clear HC HT GZ FZ Ti bW aK;have s5:=kP.1.1 5 _ rfl;cases bo;{obtain ⟨K0,kf⟩:=kP.1;obtain ⟨R0,rf⟩:=kP.2;have k0:=K0 0 _ rfl;have k1:=K0 1 _ rfl;have k2:=K0 2 _ rfl;have k3:=K0 3 _ rfl;have k4:=K0 4 _ rfl;have q0:=R0 0 _ rfl;have q1:=R0 1 _ rfl;have q2:=R0 2 _ rfl;have q3:=R0 3 _ rfl;have q4:=R0 4 _ rfl;have q5:=R0 5 _ rfl;clear K0 R0 c4;go_wp2;have f2:=gH (v0:=.int .u64 e) (v1:=.int .u64 g) (v2:=.int .u64 x) (v3:=.int .i64 t) (v4:=.slice p n c) (v5:=.slice (some ⟨gn,0,none⟩) m d) HT1.2;have xo:=kK.trans ((cE w1 (w.heap.size+1) (.int .u64 e) (.int .u64 g) (.int .u64 x) (.int .i64 t) (.slice p n c) (.slice (some ⟨gn,0,none⟩) m d)).mono (by omega));refine bodyPost_ret (v:=cL e g x t (.slice p n c) (.slice (some ⟨gn,0,none⟩) m d)) (by simp [results,results99,go_sem,q0,q1,q2,q3,q4,q5]) rfl ?_;rw [vL (aa hk) (aa NI)];exact ⟨rfl,⟨_,qF.1.fr f2 (by decide)⟩,qF.2.1.fr f2 (by decide),Fr.below xo,xo.mono hB⟩};{
 go_wp2_with fail;refine (oR ph ch nh nd.holders eH id w1 qF.2.2.1 hh).mono ?_;rintro r w2 ⟨pl,cl,rfl,ol,aG⟩;obtain ⟨L,eL⟩:∃ L,Hid (mh nd.holders id=L):=⟨_,ae rfl⟩;rw [aa eL] at ol;obtain ⟨nl,iw⟩:∃ nl,Hid (L.length=nl):=⟨_,ae rfl⟩;rw [aa eL,aa iw];rw [aa iw] at ol;have Tr:=aG.size;have IV:=ae (ag (kP.1.below (by omega) aG) (kP.2.below (by omega) aG));have HT2:=ae (ag ((aG.block _ (by omega)).trans HT1.1) ((aG.block _ (by omega)).trans HT1.2));have Tg:=ae (ag (qF.1.fr (Fr.below (T:=[]) aG) (by decide)) (ag (qF.2.1.fr (Fr.below (T:=[]) aG) (by decide)) ol.tu));have rM:=ae (ai kK aG);have fz:=aa FZ1 w2 aG;clear kP HT1 qF FZ1 kK aG ol c4 s5;have s5:=IV.1.1 5 _ rfl;have Lv:=fz (k*8+4);obtain ⟨Vt,P',V',H',U',e',-,-,-,-,-,d3,d4,d5,d6,-⟩:=dA.at Tg.2.1 hk;simp only [Option.some.injEq,Addr.mk.injEq,and_true] at e';subst e';have bm:¬ gn=w.heap.size:=by omega
 have UG:¬ gn=w.heap.size+1:=by omega
 obtain ⟨N4,F4⟩:=dA.put Tg.2.1 hk (j:=4) (by omega) (.slice pl nl cl) { nd with holders:=L } (fun w' P V H U h1 h2 h3 h4 hf=>⟨P,V,.slice pl nl cl,U,rfl,h1,h2,Tg.2.2.fr hf (by decide),h4⟩);obtain ⟨K0,kf⟩:=IV.1;obtain ⟨R0,rf⟩:=IV.2;have k0:=K0 0 _ rfl;have k1:=K0 1 _ rfl;have k2:=K0 2 _ rfl;have k3:=K0 3 _ rfl;have k4:=K0 4 _ rfl;have q0:=R0 0 _ rfl;have q1:=R0 1 _ rfl;have q2:=R0 2 _ rfl;have q3:=R0 3 _ rfl;have q4:=R0 4 _ rfl;have q5:=R0 5 _ rfl;clear K0 R0;by_cases h0:nl=0;{
 subst h0;have Ss:L=[]:=List.length_eq_zero_iff.1 iw;subst Ss;have ZT:=fz (k*8+3);have ZS:=fz (k*8+5);have fz6:=fz (k*8+6);have NK:=hk;obtain ⟨N4',F4'⟩:=(⟨N4,F4⟩:_/\_);obtain ⟨N3,F3⟩:=dA.Ep N4 hk (j:=3) (by omega) (.int .i64 0) { nd with holders:=[],mode:=0 } (fun w' P V H U h1 h2 h3 h4 hf=>⟨P,V,H,U,rfl,h1,h2,h3,h4⟩);obtain ⟨N5,F5⟩:=dA.Ep N3 hk (j:=5) (by omega) (.int .u64 0) { nd with holders:=[],mode:=0,aC:=0 } (fun w' P V H U h1 h2 h3 h4 hf=>⟨P,V,H,U,rfl,h1,h2,h3,h4⟩);obtain ⟨N6,F6⟩:=dA.Ep N5 hk (j:=6) (by omega) (.int .u64 0) { nd with holders:=[],mode:=0,aC:=0,gen:=0 } (fun w' P V H U h1 h2 h3 h4 hf=>⟨P,V,H,U,rfl,h1,h2,h3,h4⟩);obtain ⟨X,hX⟩:=ax ((((w2.setCell ⟨gn,k*8+4,none⟩ (.slice pl 0 cl)).setCell ⟨gn,k*8+3,none⟩ (.int .i64 0)).setCell ⟨gn,k*8+5,none⟩ (.int .u64 0)).setCell ⟨gn,k*8+6,none⟩ (.int .u64 0));rw [<-hX] at N6 F6;have FX:=ae (((F4.trans F3).trans F5).trans F6);have NX:=ae N6;have SX:=ae (Tg.1.fr FX (by decide));have BX:Hid (Below B w X):=by rw [hX];exact (((((rM.mono hB).setCell (p:=⟨gn,_,none⟩) xm _).setCell (p:=⟨gn,_,none⟩) xm _).setCell (p:=⟨gn,_,none⟩) xm _).setCell (p:=⟨gn,_,none⟩) xm _)
 have FW:=ae ((Fr.below (aa rM):Fr [147,95,103] w w2).trans (FX.sub (by simp)));have zX:=FX.1;have tX0:=FX.2 _ _ _ _ (by decide) HT2.1;have tX1:=FX.2 _ _ _ _ (by decide) HT2.2;have tM:=IV.1.bg (tX0.trans HT2.1.symm);have Tm:=IV.2.bg (tX1.trans HT2.2.symm);have HX:=ae (ag tX0 (ag tX1 (ag tM Tm)));clear N4 N3 N5 N6 F4 F3 F5 F6 N4' F4' tX0 tX1 tM Tm;go_wp2_with fail;rw [<-hX];clear hX d3 d4 d5 d6 ZT Lv ZS fz6 fz k0 k1 k2 k3 k4 s5 q0 q1 q2 q3 q4 q5 kf rf;refine (qN e g x t p n c (some ⟨gn,0,none⟩) m d ss Qs _ en k 3 { nd with holders:=[],mode:=0,aC:=0,gen:=0 } (ae (by rw [List.getElem?_set];simp [(aM.1 (aa hk)).1])) B X SX NX (by omega) hn hm hp hw).mono ?_;rintro r w3 ⟨rfl,⟨Q3,Fi⟩,yb,qB,cX⟩;rw [List.set_set] at yb;have t0:=qB.2 _ _ _ _ (by decide) HX.1;have t1:=qB.2 _ _ _ _ (by decide) HX.2.1;have C0:=HX.2.2.1.bg (t0.trans HX.1.symm);have C1:=HX.2.2.2.bg (t1.trans HX.2.1.symm);have HE:=ae (ag Fi (ag yb (ag (FW.trans qB) (BX.trans cX))));have HT3:=ae (ag t0 t1);have IU:=ae C1;obtain ⟨K0,kf⟩:=C0;obtain ⟨R0,rf⟩:=C1;have k0:=K0 0 _ rfl;have k1:=K0 1 _ rfl;have k2:=K0 2 _ rfl;have k3:=K0 3 _ rfl;have k4:=K0 4 _ rfl;have k5:=K0 5 _ rfl;have q0:=R0 0 _ rfl;have q1:=R0 1 _ rfl;have q2:=R0 2 _ rfl;have q3:=R0 3 _ rfl;have q4:=R0 4 _ rfl;have q5:=R0 5 _ rfl;clear K0 R0 t0 t1 Fi yb qB cX;go_wp2;obtain ⟨fA,bA,gA⟩:=Qy HE.2.2.1 HE.2.2.2 ay hB HT3.1 (.int .u64 e) (.int .u64 g) (.int .u64 x) (.int .i64 t) (.slice p n c) (.slice (some ⟨gn,0,none⟩) m d);obtain ⟨fB,bB,gB⟩:=Qy fA bA (Nat.le_succ _) hB ((jS (by omega)).trans HT3.2) (.int .u64 e) (.int .u64 g) (.int .u64 x) (.int .i64 t) (.slice p n c) (.slice (some ⟨gn,0,none⟩) m d);refine bodyPost_ret (v:=cL e g x t (.slice p n c) (.slice (some ⟨gn,0,none⟩) m d)) (by simp [results,results99,go_sem,q0,q1,q2,q3,q4,q5]) rfl ?_;rw [vM (aa hk) (aa NI) (aa eL)];exact ⟨rfl,⟨_,(HE.1.fr gA (by decide)).fr gB (by decide)⟩,(HE.2.1.fr gA (by decide)).fr gB (by decide),fB,bB⟩};{
 have UE:¬ ((nl:Int)=0):=by omega
 go_wp2;have t1:=F4.2 _ _ _ _ (by decide) HT2.2;obtain ⟨fB,bB,gB⟩:=Qy ((Fr.below (aa rM):Fr [147,95,103] w w2).trans (F4.sub (by simp))) ((rM.mono hB).setCell (p:=⟨gn,_,none⟩) xm _) (Nat.le_succ _) hB t1 (.int .u64 e) (.int .u64 g) (.int .u64 x) (.int .i64 t) (.slice p n c) (.slice (some ⟨gn,0,none⟩) m d);refine bodyPost_ret (v:=cL e g x t (.slice p n c) (.slice (some ⟨gn,0,none⟩) m d)) (by simp [results,results99,go_sem,q0,q1,q2,q3,q4,q5]) rfl ?_;rw [vK (aa hk) (aa NI) (by rw [aa eL];intro e;rw [e] at iw;exact h0 iw.symm)];refine ⟨rfl,⟨_,(Tg.1.fr F4 (by decide)).fr gB (by decide)⟩,?_,fB,bB⟩;simp only [aa eL];exact dA.fr N4 gB (by decide)}}
def BX (w:World) (b:Nat) (vs:List Value):Prop:=ah w b vs/\∃ cur,w.heap[b]?=some (.cells cur 35)
theorem BX.fr (h:BX w b vs) (hf:Fr T w w') (ht:35∉T):BX w' b vs:=by
 obtain ⟨h1,cur,h2⟩:=h;have h3:=hf.2 _ _ _ _ ht h2;exact ⟨h1.bg (h3.trans h2.symm),cur,h3⟩
theorem BX.lt (h:BX w b vs):b<w.heap.size:=by
 obtain ⟨h1,cur,h2⟩:=h;exact dX h2
theorem BX.below (h:BX w b vs) (hb:Below w.heap.size w w'):BX w' b vs:=h.fr (Fr.below (T:=[]) hb) (by simp)
theorem BX.put {o0 o1 o2 o3 o4 o5:Value} (h:BX w b [o0,o1,o2,o3,o4,o5]) (v0 v1 v2 v3 v4 v5:Value):BX (db w b v0 v1 v2 v3 v4 v5) b [v0,v1,v2,v3,v4,v5]:=⟨Gm h.1 _ _ _ _ _ _,qQ h.2⟩
theorem BX.kO (h:BX w b' vs) (bm:b'≠b) (v0 v1 v2 v3 v4 v5:Value):BX (db w b v0 v1 v2 v3 v4 v5) b' vs:=⟨qR h.1 bm _ _ _ _ _ _,h.2.imp fun cur hc=>(jS bm).trans hc⟩
theorem BX.fin (h:BX wr b vs) (hF:Fr T w wr) (iS:Below B w wr) (hb:w.heap.size<=b) (hB:B<=w.heap.size) (v0 v1 v2 v3 v4 v5:Value) :
  Fr T w (db wr b v0 v1 v2 v3 v4 v5)/\Below B w (db wr b v0 v1 v2 v3 v4 v5)/\Fr [35] wr (db wr b v0 v1 v2 v3 v4 v5):=by
 obtain ⟨-,cur,h2⟩:=h;exact Qy hF iS hb hB h2 _ _ _ _ _ _
theorem BX.uG {u:Value} (h:BX w b' vs) (bm:b'≠b):BX (w.setCell ⟨b,j,none⟩ u) b' vs:=⟨h.1.bg (dr _ _ _ _ bm),h.2.imp fun cur hc=>(dr _ _ _ _ bm).trans hc⟩
theorem BX.ZW (h:BX wr b vs) (hF:Fr T w wr) (iS:Below B w wr) (hb:w.heap.size<=b) (hB:B<=w.heap.size) (u:Value) :
  Fr T w (wr.setCell ⟨b,j,none⟩ u)/\Below B w (wr.setCell ⟨b,j,none⟩ u)/\Fr [35] wr (wr.setCell ⟨b,j,none⟩ u):=by
 have xo:Below b wr (wr.setCell ⟨b,j,none⟩ u):=ar.setCell (p:=⟨b,j,none⟩) ay _;exact ⟨⟨Nat.le_trans hF.1 xo.size,fun b' cur ty mm ht bu=>(xo.block b' (by have:=dX bu;omega)).trans (hF.2 b' cur ty mm ht bu)⟩,iS.trans (xo.mono (by omega)),(bO h.2).2⟩
theorem BX.cells {v0 v1 v2 v3 v4 v5:Value} (h:BX w b [v0,v1,v2,v3,v4,v5]):w.cell? ⟨b,0,none⟩=some v0/\w.cell? ⟨b,1,none⟩=some v1/\w.cell? ⟨b,2,none⟩=some v2/\w.cell? ⟨b,3,none⟩=some v3/\w.cell? ⟨b,4,none⟩=some v4/\w.cell? ⟨b,5,none⟩=some v5/\∀ o,w.frozen? ⟨b,o,none⟩=false:=
 ⟨h.1.1 0 _ rfl,h.1.1 1 _ rfl,h.1.1 2 _ rfl,h.1.1 3 _ rfl,h.1.1 4 _ rfl,h.1.1 5 _ rfl,h.1.2⟩
theorem dz (w:World) (v0 v1 v2 v3 v4 v5:Value):∃ W,W=w.alloc (.cells #[v0,v1,v2,v3,v4,v5] 35)/\Below w.heap.size w W/\W.heap.size=w.heap.size+1/\BX W w.heap.size [v0,v1,v2,v3,v4,v5]:=by
 obtain ⟨W,h1,h2,h3,h4,h5⟩:=au w #[v0,v1,v2,v3,v4,v5] 35;exact ⟨W,h1,h2,h3,h4,_,h5⟩
def NBo (nd:aA):Prop:=nd.path.length<=1048576/\nd.watchers.length<=1048576/\nd.holders.length<=1048576
def NB (ns:List aA):Prop:=∀ nd∈ns,NBo nd
theorem NB.set (h:NB ns) (hn:NBo nd):NB (ns.set k nd):=fun x hx=>by
 rcases List.mem_or_eq_of_mem_set hx with hx | rfl;{exact h x hx};{exact hn}
theorem NB.erase (h:NB ns) (k:Nat):NB (ns.eraseIdx k):=fun x hx=>h x (List.mem_of_mem_eraseIdx hx)
theorem uy (hk:ns[k]?=some nd) (kd:Int):da ⟨e,g,x,t,ss,ns⟩ k kd=⟨e,g,x,t,jD ss nd.watchers (kd,nd.path),ns.set k { nd with watchers:=[] }⟩:=by
 unfold da;simp only [hk]
theorem bk {α:Type} {l:List α} {a:α} (hk:l[k]?=some a) (b:α):(l.set k b)[k]?=some b:=by
 rw [List.getElem?_set,if_pos rfl,if_pos (aM.1 hk).1]
theorem Dn (hk:ns[k]?=some nd) (id:Int):∃ TF Pe mr,df ⟨e,g,x,t,ss,ns⟩ k id=⟨e,g,x,t,TF,Pe⟩/\TF.length=ss.length/\Pe.length=ns.length/\Pe[k]?=some mr/\mr.owner=nd.owner/\(NB ns->NB Pe):=by
 by_cases h:nd.holders.contains id=true;{by_cases h2:mh nd.holders id=[];{exact ⟨_,_,_,vM hk h h2,kT _ _ _,List.length_set,bk hk _,rfl,fun hb=>hb.set ⟨(hb nd (aL hk)).1,by simp,by simp⟩⟩};{exact ⟨_,_,_,vK hk h h2,rfl,List.length_set,bk hk _,rfl,fun hb=>hb.set ⟨(hb nd (aL hk)).1,(hb nd (aL hk)).2.1,Nat.le_trans (mT _ _) (hb nd (aL hk)).2.2⟩⟩}};{exact ⟨_,_,_,vL hk (by simpa using h),rfl,rfl,hk,rfl,fun hb=>hb⟩}
def Dp (id:Int) (nd:aA):aA:={ nd with watchers:=mh nd.watchers id }
def dm (id:Int):Nat->Nat->SD->SD
 | 0,_,D=>D
 | f+1,k,D=>match (df D k id).ns[k]? with
  | none=>D
  | some nd=>if nd.owner=id then dm id f k (DQ (da (df D k id) k 2) k) else dm id f (k+1) (df D k id)
def Ph (id:Int) (ss:List aR):List aR:=ss.filter fun s=>!(s.1==id)
def il (D:SD) (id:Int):SD:={ dm id D.ns.length 0 { D with ns:=D.ns.map (Dp id) } with ss:=Ph id (dm id D.ns.length 0 { D with ns:=D.ns.map (Dp id) }).ss }
theorem VR (h:NBo nd):NBo (Dp id nd):=⟨h.1,Nat.le_trans (mT _ _) h.2.1,h.2.2⟩
theorem NB.map (h:NB ns) (id:Int):NB (ns.map (Dp id)):=fun x hx=>by
 obtain ⟨y,hy,rfl⟩:=List.mem_map.1 hx;exact VR (h y hy)
theorem kR {ops:Array Oper} {rest:List Oper} {o:Oper} {a:Act} {Q:Exit->Act->World->Prop} (kM:o.guard=none) (s x:Operand)
  (ho:o.op=.call { callee:=.builtin .append,args:=#[s,x],argTypes:=#[32,32] })
  (B:Nat) (v:Value) (zs:List (aR × Value)) (z:aR × Value) (k:Nat) (ek:Hid (zs.length=k)) (hs:a.eval s=v) (aS:RT ly 95 3 B w v zs) (g:Nat) (hx:a.eval x=.slice (some ⟨g,0,none⟩) 1 1) (hq:z.2.oneCell'=true) (gK:∀ (j:Nat) u,[.int .u64 z.1.1,.int .i64 z.1.2.1,z.2][j]?=some u->w.cell? ⟨g,j,none⟩=some u)
  (hk:k<4194304) (hB:B<=w.heap.size)
  (h:∀ p' c' w',RT ly 95 3 B w' (.slice p' (k+1) c') (zs++[z])->w.grownBy w' v.ownBlock->Fr [95] w w'->wpList prog ops Q rest (a.put o.dst (.slice p' (k+1) c')) w'):wpList prog ops Q (o::rest) a w:=by
 obtain ⟨i,hi,jG,gi,gP⟩:=info_parts Tryz.infoSes;have ht:=aS.yE;obtain ⟨rs,h1,h2,h3,h4⟩:=aS;rw [aa ek] at h3;refine dO kM s x 32 ho B 95 i _ 3 40 underlying32 hi jG gi gP rfl (by decide) v _ _ hs h3 g 1 1 _ hx rfl gK (fun u hu=>by simp at hu;rcases hu with rfl | rfl | rfl;rfl;rfl;exact hq) (by unfold maxLen;omega) (by omega) hB ?_;intro v' w' dN hg _;have hf:Fr [95] w w':=Fr.grown hg fun b hb=>by obtain ⟨cur,hc⟩:=ht b hb;exact ⟨cur,_,hc,by simp⟩
 have sn:RT ly 95 3 B w' v' (zs++[z]):=RT.snoc h1 h2 h4 (fun _ _ h=>h) rfl rfl (by rw [aa ek];exact dN);obtain ⟨p',c',rfl,-⟩:=RT.form sn;rw [List.length_append,aa ek] at sn ⊢;exact h p' c' w' sn hg hf
theorem fK.filter {v':Value} {Qs:List Value} (h:fK B w v ss Qs) (f:aR->Bool) (hr:RT ly 95 3 B w v' ((ss.zip Qs).filter fun z=>f z.1)) :
  fK B w v' (ss.filter f) (((ss.zip Qs).filter fun z=>f z.1).map Prod.snd):=by
 have e1:ss.filter f=((ss.zip Qs).filter fun z=>f z.1).map Prod.fst:=by
  have:((ss.zip Qs).map Prod.fst)=ss:=by rw [List.map_fst_zip (by rw [h.len];exact Nat.le_refl _)]
  conv=>lhs;rw [<-this]
  rw [List.filter_map]
  rfl
 have e2:(ss.zip Qs).map Prod.snd=Qs:=by rw [List.map_snd_zip (by rw [h.len];exact Nat.le_refl _)]
 have tv:Qs.Pairwise fun Q Q'=>∀ b,Q.ownBlock=some b->Q'.ownBlock≠some b:=by rw [List.pairwise_iff_getElem];intro i j hi hj jd b hb;exact h.kO i j _ _ b (by omega) (aH hi) (aH hj) hb
 have Uy:(((ss.zip Qs).filter fun z=>f z.1).map Prod.snd).Pairwise fun Q Q'=>∀ b,Q.ownBlock=some b->Q'.ownBlock≠some b:=by rw [<-e2] at tv;exact tv.sublist (List.filter_sublist.map _)
 refine ⟨by rw [e1];simp,?_,fun i s Q hs hQ=>?_,fun i j Q Q' b jd hQ hQ' hb=>?_⟩;{rw [e1,<-List.unzip_fst,<-List.unzip_snd,List.zip_unzip];exact hr};{rw [e1,List.getElem?_map] at hs;rw [List.getElem?_map] at hQ;obtain ⟨z,hz,rfl⟩:=Option.map_eq_some_iff.1 hs;rw [hz] at hQ;cases hQ;obtain ⟨j,hj⟩:=List.mem_iff_getElem?.1 (List.mem_filter.1 (aL hz)).1;rw [List.getElem?_zip_eq_some] at hj;exact h.DR j _ _ hj.1 hj.2};{rw [List.pairwise_iff_getElem] at Uy;obtain ⟨hi,rfl⟩:=aM.1 hQ;obtain ⟨hj,rfl⟩:=aM.1 hQ';rcases Nat.lt_or_gt_of_ne jd with hl | hl;{exact Uy i j hi hj hl b hb};{exact fun e=>Uy j i hj hi hl b e hb}}
theorem LK {zs:List (aR × Value)} {z:aR × Value} (h:zs[k]?=some z) (f:aR->Bool):((zs.take (k+1)).filter fun z=>f z.1)=if f z.1 then ((zs.take k).filter fun z=>f z.1)++[z] else (zs.take k).filter fun z=>f z.1:=by
 rw [List.take_add_one,h,List.filter_append];by_cases e:f z.1<;>simp [e]
end Go.Proofs.YtmfjiolopcbcmaaGreatDoor
