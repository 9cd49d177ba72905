import Derived.Test.YtcfcafeciggjeaaGreatDoorK23
namespace Go.Proofs.YtcfcafeciggjeaaGreatDoor
set_option maxHeartbeats 6400000
set_option linter.all false
set_option maxRecDepth 100000
open Go.ChangeShapes Go.WideShapes Go.ChangeAt Go.RowKit Go.Proofs.Tryz
variable {B b b' j k:Nat} {D:SD} {e g t x:Int} {nd:aD} {ns:List aD} {ss:List aY} {v:Value} {vs:List Value}
theorem iK.tu {w:World} {l:List Int} (h:iK B w v l) {B':Nat} (hB:B'<=B):TU B' w v l:=by
 refine ⟨h.1.rdu,?_,h.2,?_⟩;{intro b e;rcases h.1.2 with ⟨rfl,-⟩ | ⟨g,cap,cur,rfl,-,hg,-⟩;{simp [Value.ownBlock] at e};{simp only [Value.ownBlock,Option.some.injEq] at e;subst e;exact ⟨cur,hg⟩}};{intro b e;rcases h.1.2 with ⟨rfl,-⟩ | ⟨g,cap,cur,rfl,hb,-⟩;{simp [Value.ownBlock] at e};{simp only [Value.ownBlock,Option.some.injEq] at e;subst e;exact Nat.le_trans hB hb}}
theorem bS.Fg {B0:Nat} {w:World} {g n cap:Nat} {nd0:aD} (h:bS B0 B w (.S (some ⟨g,0,none⟩) n cap) (ns.set k nd)) (hk:ns[k]?=some nd0) (hj:j<8) (u:Value) (nd':aD)
  (hn:∀ w' P V H U,TB w' P nd.path->TB w' V nd.value->TU B0 w' H nd.holders->TU B0 w' U nd.watchers->Fr [38] w w'->jg B0 w' nd' ([P,V,.U nd.owner,.I nd.mode,H,.U nd.aB,.U nd.gen,U].set j u)) :
  bS B0 B (w.setCell ⟨g,k*8+j,none⟩ u) (.S (some ⟨g,0,none⟩) n cap) (ns.set k nd')/\Fr [38] w (w.setCell ⟨g,k*8+j,none⟩ u):=by
 have:=bS.put h (i:=k) (nd:=nd) (by rw [List.getElem?_set];simp [(aN.1 hk).1]) hj u nd' hn;rwa [List.set_set] at this
theorem RJ {T:List TypeId} {w wr:World} {cur:Array Value} (hF:Fr T w wr) (js:Below B w wr) (hb:w.heap.size<=b) (hB:B<=w.heap.size) (ht:wr.heap[b]?=some (.cells cur 27)) (v0 v1 v2 v3 v4 v5:Value) :
  Fr T w (bg wr b v0 v1 v2 v3 v4 v5)/\Below B w (bg wr b v0 v1 v2 v3 v4 v5)/\Fr [27] wr (bg wr b v0 v1 v2 v3 v4 v5):=by
 have yG:=bt wr b v0 v1 v2 v3 v4 v5;exact ⟨⟨Nat.le_trans hF.1 yG.size,fun b' cur ty mm ht cR=>(yG.block b' (by have:=gN cR;omega)).trans (hF.2 b' cur ty mm ht cR)⟩,js.trans (yG.mono ab),dT ht⟩
theorem xI {id:Int} (hk:D.ns[k]?=some nd) (h:nd.holders.contains id=false):cT D k id=D:=by
 unfold cT;rw [hk];simp only [h,Bool.false_eq_true,if_false]
theorem xH {id:Int} (hk:D.ns[k]?=some nd) (h:nd.holders.contains id=true) (h2:lQ nd.holders id≠[]):cT D k id={ D with ns:=D.ns.set k { nd with holders:=lQ nd.holders id } }:=by
 unfold cT;rw [hk];simp only [h,if_true,if_neg h2]
theorem xJ {id:Int} (hk:D.ns[k]?=some nd) (h:nd.holders.contains id=true) (h2:lQ nd.holders id=[]):cT D k id={ D with ss:=fN D.ss nd.watchers (3,nd.path),ns:=D.ns.set k { nd with holders:=[],mode:=0,aB:=0,gen:=0,watchers:=[] } }:=by
 unfold cT;rw [hk];simp only [h,if_true,if_pos h2];unfold cO;have fL:=(aN.1 hk).1;simp only [List.getElem?_set,fL,if_true,List.set_set]
theorem DX (e g x t:Int) (p:Option Addr) (n c:Nat) (q:Option Addr) (m d:Nat) (ss:List aY) (Qs:List Value) (ns:List aD) (en:Hid (ss.length=n)) (k:Nat) (id:Int) (nd:aD) (hk:Hid (ns[k]?=some nd)) (B:Nat) (w:World) (hS:Hid (SpS B w (.S p n c) ss Qs)) (hN:Hid (SpN B w (.S q m d) ns)) (hB:B<=w.heap.size) (hn:n<=1048576) (hm:m<=1048576) (hp:nd.path.length<=1048576) (hw:nd.watchers.length<=1048576) (hh:nd.holders.length<=1048576) :
  Calls prog 149 #[cY e g x t (.S p n c) (.S q m d),.I k,.U id] w fun r w'=>r=.returned (cY e g x t (.S p n c) (.S q m d))/\(∃ vP,SpS B w' (.S p n c) (cT ⟨e,g,x,t,ss,ns⟩ k id).ss vP)/\SpN B w' (.S q m d) (cT ⟨e,g,x,t,ss,ns⟩ k id).ns/\Fr [49,35,38] w w'/\Below B w w':=by
 obtain ⟨gn,Pv,Vv,Hv,Uv,rfl,em,hmd,-,-,-,-,c4,-,-,-,-,-,tH,-,yj⟩:=bS.at hN hk;have hkm:k<m:=by rw [em];exact (aN.1 (aa hk)).1
 have Rb:=aT k m;clear em;obtain ⟨ph,ch,rfl⟩:=tH.gD;obtain ⟨nh,eH⟩:=aL nd.holders.length;rw [aa eH] at hh tH c4;have xw:gn<w.heap.size:=(hN.lt gn rfl).2;have yE:=(hN.lt gn rfl).1;obtain ⟨W0,dh,b0,z0,C0,T0⟩:=aj w #[.U e,.U g,.U x,.I t,.S p n c,.S (some ⟨gn,0,none⟩) m d] 27;obtain ⟨W1,iM,b1,z1,C1,T1⟩:=aj W0 #[.U 0,.U 0,.U 0,.I 0,.S none 0 0,.S none 0 0] 27;rw [z0] at C1 T1 z1;have bW:=ae (ah b0 b1);have k4:=fun (ob o2:Obj)=>af (af c4 ((Below.refl _ w).alloc aA ob)) (aJ.alloc aA o2);have HC:=ae (ag (C0.below ab b1) C1);have HT:=ae (ag ((b1.block _ ab).trans T0) T1);have Il:=ae (ag (hS.fr (al (aa bW))) (ag (hN.fr (al (aa bW))) (tH.fr (al (aa bW)))));have fz:=fun (v:World) (hv:Bw W1 v) (o:Nat)=>((ah bW hv).frozen (p:=⟨gn,o,none⟩) xw).trans (yj o);have FZ:=ae fz;have Fy:=ae c4;clear b0 b1 C0 C1 T0 T1 c4 yj tH fz;go_enter func149,ntmps149;go_wp2_with fail;rw [<-dh,<-iM];clear dh iM k4;obtain ⟨bo,Pc⟩:=aL (nd.holders.contains id);refine (tC ph ch nh nd.holders eH id W1 Il.2.2.1 hh bo Pc).mono ?_;rintro r w1 ⟨rfl,bq⟩;have vo:=bq.size;have nS:=ae (ag (HC.1.below ab bq) (HC.2.below ab bq));have Ux:=ae (ag ((bq.block _ ab).trans HT.1) ((bq.block _ ab).trans HT.2));have xq:=ae (ag (Il.1.fr (al bq)) (ag (Il.2.1.fr (al bq)) (Il.2.2.fr (al bq))));have jN:=ae (ah bW bq);have c4:=af Fy jN;have FZ1:=ae (fun (v:World) (hv:Bw w1 v) (o:Nat)=>aa FZ v (ah bq hv) o);clear HC HT Il FZ Fy bW bq;have s5:=nS.1.1 5 _ rfl;cases bo;{obtain ⟨K0,kf⟩:=nS.1;obtain ⟨R0,rf⟩:=nS.2;have k0:=K0 0 _ rfl;have k1:=K0 1 _ rfl;have k2:=K0 2 _ rfl;have k3:=K0 3 _ rfl;have k4:=K0 4 _ rfl;have q0:=R0 0 _ rfl;have q1:=R0 1 _ rfl;have q2:=R0 2 _ rfl;have q3:=R0 3 _ rfl;have q4:=R0 4 _ rfl;have q5:=R0 5 _ rfl;clear K0 R0 c4;go_wp2;have f2:=dT (v0:=.U e) (v1:=.U g) (v2:=.U x) (v3:=.I t) (v4:=.S p n c) (v5:=.S (some ⟨gn,0,none⟩) m d) Ux.2;have yG:=jN.trans ((bt w1 (w.heap.size+1) (.U e) (.U g) (.U x) (.I t) (.S p n c) (.S (some ⟨gn,0,none⟩) m d)).mono ab);refine bodyPost_ret (v:=cY e g x t (.S p n c) (.S (some ⟨gn,0,none⟩) m d)) (by simp [results,results149,go_sem,q0,q1,q2,q3,q4,q5]) rfl ?_;rw [xI (aa hk) (aa Pc)];exact ⟨rfl,⟨_,xq.1.fr f2⟩,xq.2.1.fr f2,Fr.below yG,yG.mono hB⟩};{
 go_wp2_with fail;refine (pZ ph ch nh nd.holders eH id w1 xq.2.2.1 hh).mono ?_;rintro r w2 ⟨pl,cl,rfl,ol,cX⟩;obtain ⟨L,eL⟩:=aL (lQ nd.holders id);rw [aa eL] at ol;obtain ⟨nl,je⟩:=aL L.length;rw [aa eL,aa je];rw [aa je] at ol;have UL:=cX.size;have OE:=ae (ag (nS.1.below ab cX) (nS.2.below ab cX));have Ot:=ae (ag ((cX.block _ ab).trans Ux.1) ((cX.block _ ab).trans Ux.2));have Uz:=ae (ag (xq.1.fr (al cX)) (ag (xq.2.1.fr (al cX)) (ol.tu (B':=B) (by have:=jN.size;omega))));have qv:=ae (ah jN cX);have fz:=aa FZ1 w2 cX;clear nS Ux xq FZ1 jN cX ol c4 s5;have s5:=OE.1.1 5 _ rfl;have MZ:=fz (k*8+4);obtain ⟨U4,P',V',H',U',e',-,-,-,-,-,d3,d4,d5,d6,-⟩:=bS.at Uz.2.1 hk;obtain ⟨rfl,-⟩:=jf e';have gd:¬ gn=w.heap.size:=ab;have bR4:¬ gn=w.heap.size+1:=ab;obtain ⟨N4,F4⟩:=bS.put Uz.2.1 hk (j:=4) ab (.S pl nl cl) { nd with holders:=L } (fun w' P V H U h1 h2 h3 h4 hf=>⟨P,V,.S pl nl cl,U,rfl,h1,h2,Uz.2.2.fr hf,h4⟩);obtain ⟨K0,kf⟩:=OE.1;obtain ⟨R0,rf⟩:=OE.2;have k0:=K0 0 _ rfl;have k1:=K0 1 _ rfl;have k2:=K0 2 _ rfl;have k3:=K0 3 _ rfl;have k4:=K0 4 _ rfl;have q0:=R0 0 _ rfl;have q1:=R0 1 _ rfl;have q2:=R0 2 _ rfl;have q3:=R0 3 _ rfl;have q4:=R0 4 _ rfl;have q5:=R0 5 _ rfl;clear K0 R0;by_cases h0:nl=0;{
 subst h0;have hL0:L=[]:=List.length_eq_zero_iff.1 je;subst hL0;have fz3:=fz (k*8+3);have fz5:=fz (k*8+5);have fz6:=fz (k*8+6);have NK:=hk;obtain ⟨N4',F4'⟩:=(⟨N4,F4⟩:_/\_);obtain ⟨N3,F3⟩:=bS.Fg N4 hk (j:=3) ab (.I 0) { nd with holders:=[],mode:=0 } (fun w' P V H U h1 h2 h3 h4 hf=>⟨P,V,H,U,rfl,h1,h2,h3,h4⟩);obtain ⟨N5,F5⟩:=bS.Fg N3 hk (j:=5) ab (.U 0) { nd with holders:=[],mode:=0,aB:=0 } (fun w' P V H U h1 h2 h3 h4 hf=>⟨P,V,H,U,rfl,h1,h2,h3,h4⟩);obtain ⟨N6,F6⟩:=bS.Fg N5 hk (j:=6) ab (.U 0) { nd with holders:=[],mode:=0,aB:=0,gen:=0 } (fun w' P V H U h1 h2 h3 h4 hf=>⟨P,V,H,U,rfl,h1,h2,h3,h4⟩);obtain ⟨X,hX⟩:=ax ((((w2.setCell ⟨gn,k*8+4,none⟩ (.S pl 0 cl)).setCell ⟨gn,k*8+3,none⟩ (.I 0)).setCell ⟨gn,k*8+5,none⟩ (.U 0)).setCell ⟨gn,k*8+6,none⟩ (.U 0));rw [<-hX] at N6 F6;have FX:=ae (((F4.trans F3).trans F5).trans F6);have NX:=ae N6;have SX:=ae (Uz.1.fr FX);have BX:Hid (Below B w X):=by rw [hX];exact (((((qv.mono hB).setCell (p:=⟨gn,_,none⟩) yE _).setCell (p:=⟨gn,_,none⟩) yE _).setCell (p:=⟨gn,_,none⟩) yE _).setCell (p:=⟨gn,_,none⟩) yE _)
 have FW:=ae ((Fr.below (aa qv):Fr [49,35,38] w w2).trans (FX.sub aU));have zX:=FX.1;have tX0:=FX.2 _ _ _ _ bl Ot.1;have tX1:=FX.2 _ _ _ _ bl Ot.2;have uM:=OE.1.aS (tX0.trans Ot.1.symm);have UI:=OE.2.aS (tX1.trans Ot.2.symm);have HX:=ae (ag tX0 (ag tX1 (ag uM UI)));clear N4 N3 N5 N6 F4 F3 F5 F6 N4' F4' tX0 tX1 uM UI;go_wp2_with fail;rw [<-hX];clear hX d3 d4 d5 d6 fz3 MZ fz5 fz6 fz k0 k1 k2 k3 k4 s5 q0 q1 q2 q3 q4 q5 kf rf;refine (xD e g x t p n c (some ⟨gn,0,none⟩) m d ss Qs _ en k 3 { nd with holders:=[],mode:=0,aB:=0,gen:=0 } (ae (by rw [List.getElem?_set];simp [(aN.1 (aa hk)).1])) B X SX NX ab hn hm hp hw).mono ?_;rintro r w3 ⟨rfl,⟨Q3,Ga⟩,zS,uZ,de⟩;rw [List.set_set] at zS;have t0:=uZ.2 _ _ _ _ bl HX.1;have t1:=uZ.2 _ _ _ _ bl HX.2.1;have C0:=HX.2.2.1.aS (t0.trans HX.1.symm);have C1:=HX.2.2.2.aS (t1.trans HX.2.1.symm);have HE:=ae (ag Ga (ag zS (ag (FW.trans uZ) (BX.trans de))));have XH:=ae (ag t0 t1);have SQ:=ae C1;obtain ⟨K0,kf⟩:=C0;obtain ⟨R0,rf⟩:=C1;have k0:=K0 0 _ rfl;have k1:=K0 1 _ rfl;have k2:=K0 2 _ rfl;have k3:=K0 3 _ rfl;have k4:=K0 4 _ rfl;have k5:=K0 5 _ rfl;have q0:=R0 0 _ rfl;have q1:=R0 1 _ rfl;have q2:=R0 2 _ rfl;have q3:=R0 3 _ rfl;have q4:=R0 4 _ rfl;have q5:=R0 5 _ rfl;clear K0 R0 t0 t1 Ga zS uZ de;go_wp2;obtain ⟨fA,bA,gA⟩:=RJ HE.2.2.1 HE.2.2.2 aA hB XH.1 (.U e) (.U g) (.U x) (.I t) (.S p n c) (.S (some ⟨gn,0,none⟩) m d);obtain ⟨fB,bB,gB⟩:=RJ fA bA (Nat.le_succ _) hB ((fS ab).trans XH.2) (.U e) (.U g) (.U x) (.I t) (.S p n c) (.S (some ⟨gn,0,none⟩) m d);refine bodyPost_ret (v:=cY e g x t (.S p n c) (.S (some ⟨gn,0,none⟩) m d)) (by simp [results,results149,go_sem,q0,q1,q2,q3,q4,q5]) rfl ?_;rw [xJ (aa hk) (aa Pc) (aa eL)];exact ⟨rfl,⟨_,(HE.1.fr gA).fr gB⟩,(HE.2.1.fr gA).fr gB,fB,bB⟩};{have IZ:¬ ((nl:Int)=0):=ab;go_wp2;have t1:=F4.2 _ _ _ _ bl Ot.2;obtain ⟨fB,bB,gB⟩:=RJ ((Fr.below (aa qv):Fr [49,35,38] w w2).trans (F4.sub aU)) ((qv.mono hB).setCell (p:=⟨gn,_,none⟩) yE _) (Nat.le_succ _) hB t1 (.U e) (.U g) (.U x) (.I t) (.S p n c) (.S (some ⟨gn,0,none⟩) m d);refine bodyPost_ret (v:=cY e g x t (.S p n c) (.S (some ⟨gn,0,none⟩) m d)) (by simp [results,results149,go_sem,q0,q1,q2,q3,q4,q5]) rfl ?_;rw [xH (aa hk) (aa Pc) (by rw [aa eL];intro e;rw [e] at je;exact h0 je.symm)];refine ⟨rfl,⟨_,(Uz.1.fr F4).fr gB⟩,?_,fB,bB⟩;simp only [aa eL];exact bS.fr N4 gB}}
def BX (w:World) (b:Nat) (vs:List Value):Prop:=aq w b vs/\∃ cur,w.heap[b]?=some (.cells cur 27)
theorem BX.fr {T:List TypeId} {w w':World} (h:BX w b vs) (hf:Fr T w w') (ht:27∉T:=by decide):BX w' b vs:=by
 obtain ⟨h1,cur,h2⟩:=h;have h3:=hf.2 _ _ _ _ ht h2;exact ⟨h1.aS (h3.trans h2.symm),cur,h3⟩
theorem BX.lt {w:World} (h:BX w b vs):b<w.heap.size:=by
 obtain ⟨h1,cur,h2⟩:=h;exact gN h2
theorem BX.below {w w':World} (h:BX w b vs) (hb:Bw w w'):BX w' b vs:=h.fr (al hb) (by simp)
theorem BX.put {w:World} {o0 o1 o2 o3 o4 o5:Value} (h:BX w b [o0,o1,o2,o3,o4,o5]) (v0 v1 v2 v3 v4 v5:Value):BX (bg w b v0 v1 v2 v3 v4 v5) b [v0,v1,v2,v3,v4,v5]:=⟨GY h.1 _ _ _ _ _ _,rM h.2⟩
theorem BX.rj {w:World} (h:BX w b' vs) (gd:b'≠b) (v0 v1 v2 v3 v4 v5:Value):BX (bg w b v0 v1 v2 v3 v4 v5) b' vs:=⟨rN h.1 gd _ _ _ _ _ _,h.2.imp fun cur hc=>(fS gd).trans hc⟩
theorem BX.fin {T:List TypeId} {w wr:World} (h:BX wr b vs) (hF:Fr T w wr) (js:Below B w wr) (hb:w.heap.size<=b) (hB:B<=w.heap.size) (v0 v1 v2 v3 v4 v5:Value) :
  Fr T w (bg wr b v0 v1 v2 v3 v4 v5)/\Below B w (bg wr b v0 v1 v2 v3 v4 v5)/\Fr [27] wr (bg wr b v0 v1 v2 v3 v4 v5):=by
 obtain ⟨-,cur,h2⟩:=h;exact RJ hF js hb hB h2 _ _ _ _ _ _
theorem BX.qz {w:World} {u:Value} (h:BX w b' vs) (gd:b'≠b):BX (w.setCell ⟨b,j,none⟩ u) b' vs:=⟨h.1.aS (dF _ _ _ _ gd),h.2.imp fun cur hc=>(dF _ _ _ _ gd).trans hc⟩
theorem BX.ai0 {T:List TypeId} {w wr:World} (h:BX wr b vs) (hF:Fr T w wr) (js:Below B w wr) (hb:w.heap.size<=b) (hB:B<=w.heap.size) (u:Value) :
  Fr T w (wr.setCell ⟨b,j,none⟩ u)/\Below B w (wr.setCell ⟨b,j,none⟩ u)/\Fr [27] wr (wr.setCell ⟨b,j,none⟩ u):=by
 have yG:Below b wr (wr.setCell ⟨b,j,none⟩ u):=aJ.setCell (p:=⟨b,j,none⟩) aA _;exact ⟨⟨Nat.le_trans hF.1 yG.size,fun b' cur ty mm ht cR=>(yG.block b' (by have:=gN cR;omega)).trans (hF.2 b' cur ty mm ht cR)⟩,js.trans (yG.mono ab),(bf h.2).2⟩
theorem BX.cells {w:World} {v0 v1 v2 v3 v4 v5:Value} (h:BX w b [v0,v1,v2,v3,v4,v5]):w.cell? ⟨b,0,none⟩=some v0/\w.cell? ⟨b,1,none⟩=some v1/\w.cell? ⟨b,2,none⟩=some v2/\w.cell? ⟨b,3,none⟩=some v3/\w.cell? ⟨b,4,none⟩=some v4/\w.cell? ⟨b,5,none⟩=some v5/\∀ o,w.frozen? ⟨b,o,none⟩=false:=
 ⟨h.1.1 0 _ rfl,h.1.1 1 _ rfl,h.1.1 2 _ rfl,h.1.1 3 _ rfl,h.1.1 4 _ rfl,h.1.1 5 _ rfl,h.1.2⟩
theorem ft (w:World) (v0 v1 v2 v3 v4 v5:Value):∃ W,W=w.alloc (.cells #[v0,v1,v2,v3,v4,v5] 27)/\Bw w W/\W.heap.size=w.heap.size+1/\BX W w.heap.size [v0,v1,v2,v3,v4,v5]:=by
 obtain ⟨W,h1,h2,h3,h4,h5⟩:=aj w #[v0,v1,v2,v3,v4,v5] 27;exact ⟨W,h1,h2,h3,h4,_,h5⟩
theorem iq (w:World):∃ W,W=w.alloc (.cells #[.U 0,.U 0,.U 0,.I 0,.S none 0 0,.S none 0 0] 27)/\Bw w W/\W.heap.size=w.heap.size+1/\BX W w.heap.size [.U 0,.U 0,.U 0,.I 0,.S none 0 0,.S none 0 0]:=ft w _ _ _ _ _ _
theorem oR (w:World) (D:SD) (p:Option Addr) (n c:Nat) (q:Option Addr) (m d:Nat):∃ W,W=w.alloc (.cells #[.U D.e,.U D.g,.U D.x,.I D.t,.S p n c,.S q m d] 27)/\Bw w W/\W.heap.size=w.heap.size+1/\BX W w.heap.size [.U D.e,.U D.g,.U D.x,.I D.t,.S p n c,.S q m d]:=ft w _ _ _ _ _ _
def NBo (nd:aD):Prop:=nd.path.length<=1048576/\nd.watchers.length<=1048576/\nd.holders.length<=1048576
def NB (ns:List aD):Prop:=∀ nd∈ns,NBo nd
theorem NB.set (h:NB ns) (hn:NBo nd):NB (ns.set k nd):=fun x hx=>by
 rcases List.mem_or_eq_of_mem_set hx with hx | rfl;{exact h x hx};{exact hn}
theorem NB.erase (h:NB ns) (k:Nat):NB (ns.eraseIdx k):=fun x hx=>h x (List.mem_of_mem_eraseIdx hx)
theorem vY (hk:ns[k]?=some nd) (kd:Int):cO ⟨e,g,x,t,ss,ns⟩ k kd=⟨e,g,x,t,fN ss nd.watchers (kd,nd.path),ns.set k { nd with watchers:=[] }⟩:=by
 unfold cO;simp only [hk]
theorem aP {α:Type} {l:List α} {a:α} (hk:l[k]?=some a) (b:α):(l.set k b)[k]?=some b:=by
 rw [List.getElem?_set,if_pos rfl,if_pos (aN.1 hk).1]
theorem DY (hk:ns[k]?=some nd) (id:Int):∃ yS Qy iR,cT ⟨e,g,x,t,ss,ns⟩ k id=⟨e,g,x,t,yS,Qy⟩/\yS.length=ss.length/\Qy.length=ns.length/\Qy[k]?=some iR/\iR.owner=nd.owner/\(NB ns->NB Qy):=by
 by_cases h:nd.holders.contains id=true;{by_cases h2:lQ nd.holders id=[];{exact ⟨_,_,_,xJ hk h h2,l8 _ _ _,List.length_set,aP hk _,rfl,fun hb=>hb.set ⟨(hb nd (aF hk)).1,aU,aU⟩⟩};{exact ⟨_,_,_,xH hk h h2,rfl,List.length_set,aP hk _,rfl,fun hb=>hb.set ⟨(hb nd (aF hk)).1,(hb nd (aF hk)).2.1,Nat.le_trans (nW _ _) (hb nd (aF hk)).2.2⟩⟩}};{exact ⟨_,_,_,xI hk (by simpa using h),rfl,rfl,hk,rfl,fun hb=>hb⟩}
def vL (id:Int) (nd:aD):aD:={ nd with watchers:=lQ nd.watchers id }
def fW (id:Int):Nat->Nat->SD->SD
 | 0,_,D=>D
 | f+1,k,D=>match (cT D k id).ns[k]? with
  | none=>D
  | some nd=>if nd.owner=id then fW id f k (AH (cO (cT D k id) k 2) k) else fW id f (k+1) (cT D k id)
def IJ (id:Int) (ss:List aY):List aY:=ss.filter fun s=>!(s.1==id)
def gv (D:SD) (id:Int):SD:={ fW id D.ns.length 0 { D with ns:=D.ns.map (vL id) } with ss:=IJ id (fW id D.ns.length 0 { D with ns:=D.ns.map (vL id) }).ss }
theorem Xf {id:Int} (h:NBo nd):NBo (vL id nd):=⟨h.1,Nat.le_trans (nW _ _) h.2.1,h.2.2⟩
theorem NB.map (h:NB ns) (id:Int):NB (ns.map (vL id)):=fun x hx=>by
 obtain ⟨y,hy,rfl⟩:=List.mem_map.1 hx;exact Xf (h y hy)
theorem gO {w:World} {ops:Array Oper} {rest:List Oper} {o:Oper} {a:Act} {Q:Exit->Act->World->Prop} (jK:o.guard=none) (s x:Operand)
  (ho:o.op=.call { callee:=.builtin .append,args:=#[s,x],argTypes:=#[24,24] })
  (B:Nat) (v:Value) (zs:List (aY × Value)) (z:aY × Value) (k:Nat) (ek:Hid (zs.length=k)) (hs:a.eval s=v) (br:RT r8 35 3 B w v zs) (g:Nat) (hx:a.eval x=.S (some ⟨g,0,none⟩) 1 1) (hq:z.2.oneCell'=true) (eh:∀ (j:Nat) u,[.U z.1.1,.I z.1.2.1,z.2][j]?=some u->w.cell? ⟨g,j,none⟩=some u)
  (hk:k<4194304) (hB:B<=w.heap.size)
  (h:∀ p' c' w',RT r8 35 3 B w' (.S p' (k+1) c') (zs++[z])->w.grownBy w' v.ownBlock->Fr [35] w w'->wpList prog ops Q rest (a.put o.dst (.S p' (k+1) c')) w'):wpList prog ops Q (o::rest) a w:=by
 obtain ⟨i,hi,mw,iT,jW⟩:=info_parts Tryz.infoSes;have ht:=br.nJ;obtain ⟨rs,h1,h2,h3,h4⟩:=br;rw [aa ek] at h3;refine e8 jK s x 24 ho B 35 i _ 3 40 underlying24 hi mw iT jW rfl bl v _ _ hs h3 g 1 1 _ hx rfl eh (fun u hu=>by simp at hu;rcases hu with rfl | rfl | rfl;rfl;rfl;exact hq) jC ab hB ?_;intro v' w' dW hg _;have hf:Fr [35] w w':=Fr.grown hg fun b hb=>by obtain ⟨cur,hc⟩:=ht b hb;exact ⟨cur,_,hc,aU⟩
 have sn:RT r8 35 3 B w' v' (zs++[z]):=RT.snoc h1 h2 h4 (fun _ _ h=>h) rfl rfl (by rw [aa ek];exact dW);obtain ⟨p',c',rfl,-⟩:=RT.form sn;rw [List.length_append,aa ek] at sn ⊢;exact h p' c' w' sn hg hf
theorem SpS.filter {w:World} {v':Value} {Qs:List Value} (h:SpS B w v ss Qs) (f:aY->Bool) (hr:RT r8 35 3 B w v' ((ss.zip Qs).filter fun z=>f z.1)) :
  SpS B w v' (ss.filter f) (((ss.zip Qs).filter fun z=>f z.1).map Prod.snd):=by
 have e1:ss.filter f=((ss.zip Qs).filter fun z=>f z.1).map Prod.fst:=by
  have:((ss.zip Qs).map Prod.fst)=ss:=by rw [List.map_fst_zip (by rw [h.len];exact Nat.le_refl _)]
  conv=>lhs;rw [<-this]
  rw [List.filter_map]
  rfl
 have e2:(ss.zip Qs).map Prod.snd=Qs:=by rw [List.map_snd_zip (by rw [h.len];exact Nat.le_refl _)]
 have uV:Qs.Pairwise fun Q Q'=>∀ b,Q.ownBlock=some b->Q'.ownBlock≠some b:=by rw [List.pairwise_iff_getElem];intro i j hi hj jc b hb;exact h.rj i j _ _ b ab (aK hi) (aK hj) hb
 have VE:(((ss.zip Qs).filter fun z=>f z.1).map Prod.snd).Pairwise fun Q Q'=>∀ b,Q.ownBlock=some b->Q'.ownBlock≠some b:=by rw [<-e2] at uV;exact uV.sublist (List.filter_sublist.map _)
 refine ⟨by rw [e1];simp,?_,fun i s Q hs hQ=>?_,fun i j Q Q' b jc hQ hQ' hb=>?_⟩;{rw [e1,<-List.unzip_fst,<-List.unzip_snd,List.zip_unzip];exact hr};{rw [e1,List.getElem?_map] at hs;rw [List.getElem?_map] at hQ;obtain ⟨z,hz,rfl⟩:=Option.map_eq_some_iff.1 hs;rw [hz] at hQ;cases hQ;obtain ⟨j,hj⟩:=List.mem_iff_getElem?.1 (List.mem_filter.1 (aF hz)).1;rw [List.getElem?_zip_eq_some] at hj;exact h.za j _ _ hj.1 hj.2};{rw [List.pairwise_iff_getElem] at VE;obtain ⟨hi,rfl⟩:=aN.1 hQ;obtain ⟨hj,rfl⟩:=aN.1 hQ';rcases Nat.lt_or_gt_of_ne jc with hl | hl;{exact VE i j hi hj hl b hb};{exact fun e=>VE j i hj hi hl b e hb}}
theorem Nh {zs:List (aY × Value)} {z:aY × Value} (h:zs[k]?=some z) (f:aY->Bool):((zs.take (k+1)).filter fun z=>f z.1)=if f z.1 then ((zs.take k).filter fun z=>f z.1)++[z] else (zs.take k).filter fun z=>f z.1:=by
 rw [List.take_add_one,h,List.filter_append];by_cases e:f z.1<;>simp [e]
end Go.Proofs.YtcfcafeciggjeaaGreatDoor
