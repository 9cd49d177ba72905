import Derived.Test.YtcfcafeciggjeaaGreatDoorK25
namespace Go.Proofs.YtcfcafeciggjeaaGreatDoor
set_option maxHeartbeats 12800000
set_option linter.unusedVariables false
set_option linter.unusedSimpArgs false
set_option maxRecDepth 100000
open Go.ChangeShapes Go.WideShapes Go.ChangeAt Go.RowKit Go.Proofs.Tryz
variable {B b m:Nat} {Qs vs:List Value} {a:Act} {o0 o1 o2 o3 o4 o5 r0 r1 r2 r3 r4 r5 r6 r7 v0 v1 v2 v3 v4:Value} {ss:List aL} {w w' w1:World}
theorem qN {id:Int} {k:Nat} {D D1:SD} {nd:aA} (hk:k<m) (hd:cE D k id=D1) (hn:D1.ns[k]?=some nd):bO id (m-k) k D=if nd.owner=id then bO id (m-1-k) k (zO (cX D1 k 2) k) else bO id (m-(k+1)) (k+1) D1:=by
 obtain ⟨f,hf⟩:∃ f,m-k=f+1:=⟨m-k-1,by omega⟩;rw [hf,bO,hd,hn,show m-1-k=f by omega,show m-(k+1)=f by omega]
def GC (b:Nat) (w:World):Nat:=match w.cell? ⟨b,5,none⟩ with
 | some (.slice _ m _)=>m
 | _=>0
theorem sB {q:Option Addr} {d:Nat} (h:BX w b [v0,v1,v2,v3,v4,.slice q m d]):GC b w=m:=by
 unfold GC;rw [h.1.1 5 _ rfl]
theorem Er (e g x t:Int) (p:Option Addr) (n c:Nat) (q:Option Addr) (m d:Nat) (ss:List aL) (Qs:List Value) (ns:List aA) (en:Hid (ss.length=n)) (em:Hid (ns.length=m)) (id:Int) (B:Nat) (w:World) (hS:Hid (de B w (.slice p n c) ss Qs)) (hN:Hid (jh B w (.slice q m d) ns)) (hNB:Hid (NB ns)) (hB:B<=w.heap.size) (hn:n<=1048576) (hm:m<=1048576) (D:SD) (eD:Hid (dw ⟨e,g,x,t,ss,ns⟩ id=D)) :
  Calls prog 105 #[cK e g x t (.slice p n c) (.slice q m d),.int .u64 id] w fun r w'=>∃ p' c' q' d',r=.returned (cK e g x t (.slice p' D.ss.length c') (.slice q' D.ns.length d'))/\(∃ tY,de B w' (.slice p' D.ss.length c') D.ss tY)/\jh B w' (.slice q' D.ns.length d') D.ns/\Fr [49,35,38] w w'/\Below B w w':=by
 obtain ⟨W0,cA,b0,z0,C0⟩:=bg w (.int .u64 e) (.int .u64 g) (.int .u64 x) (.int .i64 t) (.slice p n c) (.slice q m d);obtain ⟨W1,fP,b1,z1,C1⟩:=bg W0 (.int .u64 0) (.int .u64 0) (.int .u64 0) (.int .i64 0) (.slice none 0 0) (.slice none 0 0);rw [z0] at C1;have HC:=ae (ag (C0.below b1) C1);have bW:=ae (ai b0 b1);have zW:W1.heap.size=w.heap.size+2:=by omega
 clear b0 b1 C0 C1 z0 z1;go_enter func105,ntmps105;go_wp2;rw [<-cA,<-fP];clear cA fP
 go_loopw [5] (fun kv wr=>∃ k:Nat,k<=m/\kv=.int .i64 k/\w.heap.size+2<=wr.heap.size/\Hid (jh B wr (.slice q m d) (ig (rJ id) k ns))/\Hid (de B wr (.slice p n c) ss Qs)/\Hid (BX wr w.heap.size [.int .u64 e,.int .u64 g,.int .u64 x,.int .i64 t,.slice p n c,.slice q m d]/\BX wr (w.heap.size+1) [.int .u64 0,.int .u64 0,.int .u64 0,.int .i64 0,.slice none 0 0,.slice none 0 0])/\Hid (Fr [49,35,38] w wr)/\Hid (Below B w wr)) (fun kv _=>m-(intOf kv).toNat)
 case atStart=>exact ⟨0,Nat.zero_le _,rfl,by omega,(by show jh _ _ _ _;simpa [ig] using hN.fr (Fr.below (T:=[]) (aa bW)) (by decide)),hS.fr (Fr.below (T:=[]) (aa bW)) (by decide),aa HC,Fr.below (aa bW),bW.mono hB⟩
 case round =>(
 obtain ⟨k,hk,rfl,zr,Aa,og,qM,pT,ij⟩:=hrel;have s5:=qM.1.1.1 5 _ rfl;by_cases br:k<m;{
 have bt:(k:Int)<(m:Int):=by omega
 obtain ⟨nd,aK⟩:∃ nd,ns[k]?=some nd:=⟨_,aE (by rw [aa em];exact br)⟩;have oe:=De (rJ id) aK;have E1:=ae (vr (rJ id) aK);obtain ⟨gn,P,V,H,U,rfl,-,-,-,-,-,-,-,-,-,c7,-,-,-,tU,tW⟩:=aR.at Aa oe;obtain ⟨pu,cu,rfl⟩:=tU.ew;obtain ⟨nu,eU⟩:∃ nu,Hid (nd.watchers.length=nu):=⟨_,ae rfl⟩;have ME:nu<=1048576:=by rw [<-aa eU];exact (aa hNB nd (aF aK)).2.1
 rw [aa eU] at tU c7;have HK:=ae oe;have uy:B<=gn:=(Aa.lt gn rfl).1;have KL:gn<wr.heap.size:=(Aa.lt gn rfl).2;have pM:¬ w.heap.size=gn:=fun e=>by obtain ⟨-,cur,h1⟩:=qM.1;obtain ⟨tm,h2⟩:=Aa.gS gn rfl;rw [e,h2] at h1;simp at h1
 obtain ⟨vA,bM⟩:=ar wr.drew;have cg:Below wr.heap.size wr vA:=by rw [bM];exact ay.drew
 have zA:=cg.size;have GA:=ae (fun (v:World) (hv:Below vA.heap.size vA v)=>ag (af s5 (ai cg hv)) (ag (af c7 (ai cg hv)) (ag (fun o=>((ai cg hv).frozen (p:=⟨gn,o,none⟩) KL).trans (tW o)) (ai cg hv))));have UA:=ae (tU.fr (Fr.below (T:=[]) cg) (by decide));clear aK oe tU c7 tW;go_wp2_with fail;refine wp_region_noPanic ?_;refine wp_region_held_drew (S:=fun w'=>w'.cell? ⟨w.heap.size,5,none⟩=some (.slice (some ⟨gn,0,none⟩) m d)) (by kernel_rfl) (by rw [<-bM];exact (aa GA vA ay).1) (fun hS=>?_);rw [<-bM] at hS ⊢;clear bM cg s5;refine gj 0 1 2 3 4 5 6 7 hS ?_;refine tn 9 hS ?_;refine aH 8 fun KK hK=>?_;have c7:=(aa GA _ ay).2.1;go_simp;refine bm hK (by exact (aa GA _ ay).1) fun hS=>?_;clear hK KK c7;refine aH 10 fun KK hK=>?_;refine ld (mU pu cu nu nd.watchers eU id vA UA.1 ME) ?_;rintro r v1 ⟨pl,cl,rfl,ol,bf⟩;refine ⟨_,rfl,?_⟩;obtain ⟨nl,iI⟩:∃ nl,Hid ((ju nd.watchers id).length=nl):=⟨_,ae rfl⟩;rw [aa iI] at ol ⊢;have OL:=ae (ol.tu (B':=B) (by omega));have kn:=ae bf;refine bm hK (by exact (aa GA v1 bf).1) fun hS=>?_;clear hK KK ol bf;refine dQ 11 12 hS ?_;refine aH 13 fun KK hK=>?_;obtain ⟨s5,c7,fz,bv⟩:=aa GA v1 kn;have fz7:=fz (k*8+7);have Qt:=ae bv;clear bv;go_simp;obtain ⟨N2,F2⟩:=aR.put (Aa.fr (Fr.below (T:=[]) Qt) (by decide)) HK (j:=7) (by omega) (.slice pl nl cl) (rJ id nd) (fun w' P V H U h1 h2 h3 h4 hf=>⟨P,V,H,.slice pl nl cl,rfl,h1,h2,h3,OL.fr hf (by decide)⟩);rw [<-aa E1] at N2;obtain ⟨Z,hZ⟩:=ar (v1.setCell ⟨gn,k*8+7,none⟩ (.slice pl nl cl));have BZ:Below B w Z:=by rw [hZ];exact (ij.trans (Qt.mono (by have:=ij.size;omega))).setCell (p:=⟨gn,_,none⟩) uy _
 have sZ:Z.cell? ⟨w.heap.size,5,none⟩=some (.slice (some ⟨gn,0,none⟩) m d):=by rw [hZ];exact (ah (dt _ _ _ _ pM) _).trans s5
 rw [<-hZ] at N2 F2 ⊢;have RZ:=ae (ag N2 (ag F2 BZ));have zv:=Qt.size;have zZ:w.heap.size+2<=Z.heap.size:=by have:=F2.1;omega
 refine bm hK (by exact sZ) fun hS=>?_;clear hK KK hZ N2 F2 BZ sZ s5 c7 fz fz7;refine wpAnyH_done (by kernel_rfl) ?_ _;refine aX ?_;clear hS;go_wp2;go_roundw
 case rel=>exact ⟨k+1,by omega,by go_num,zZ,RZ.1,(og.fr (Fr.below (T:=[]) (aa Qt)) (by decide)).fr RZ.2.1 (by decide),⟨(qM.1.below (aa Qt)).fr RZ.2.1 (by decide),(qM.2.below (aa Qt)).fr RZ.2.1 (by decide)⟩,(pT.trans (Fr.below (aa Qt))).trans (RZ.2.1.sub (by simp)),RZ.2.2⟩
 case measure=>simp [intOf];omega}
 {
 have bt:¬ (k:Int)<(m:Int):=by omega
 have M6:=aa Aa;rw [yQ _ (by rw [aa em];omega)] at M6;have Dy:=ae M6;clear M6;obtain ⟨DF,eF⟩:∃ DF,Hid (bO id m 0 ⟨e,g,x,t,ss,ns.map (rJ id)⟩=DF):=⟨_,ae rfl⟩;have Qq:Hid (D={ DF with ss:=DR id DF.ss }):=by show _=_;rw [<-aa eD];unfold dw;simp only [aa em];rw [aa eF]
 go_wp2
 go_loopw [6] (fun kv wr=>∃ (k mk dk:Nat) (qk:Option Addr) (Ar:List aL) (Ms:List aA) (Qk:List Value),k<=mk/\mk<=m/\kv=.int .i64 k/\w.heap.size+2<=wr.heap.size/\Hid (Ar.length=n)/\Hid (Ms.length=mk)/\Hid (NB Ms)/\Hid (bO id (mk-k) k ⟨e,g,x,t,Ar,Ms⟩=DF)/\Hid (jh B wr (.slice qk mk dk) Ms)/\Hid (de B wr (.slice p n c) Ar Qk)/\Hid (BX wr w.heap.size [.int .u64 e,.int .u64 g,.int .u64 x,.int .i64 t,.slice p n c,.slice qk mk dk]/\BX wr (w.heap.size+1) [.int .u64 0,.int .u64 0,.int .u64 0,.int .i64 0,.slice none 0 0,.slice none 0 0])/\Hid (Fr [49,35,38] w wr)/\Hid (Below B w wr)) (fun kv wr=>GC w.heap.size wr-(intOf kv).toNat)
 case atStart=>exact ⟨0,m,d,q,ss,_,Qs,Nat.zero_le _,Nat.le_refl _,rfl,zr,en,ae (by rw [List.length_map];exact aa em),ae (hNB.map id),eF,Dy,og,qM,pT,ij⟩
 case round =>(
 clear Aa og qM pT ij Dy s5 zr hk br bt;obtain ⟨k,mk,dk,qk,Ar,Ms,Qk,hk,hmk,rfl,zr,Ry,Lp,UQ,eK,Aa,og,qM,pT,ij⟩:=hrel;have hlen:=ae (sB qM.1);obtain ⟨k0,k1,k2,k3,k4,k5,kf⟩:=qM.1.cells;by_cases br:k<mk;{
 have bt:(k:Int)<(mk:Int):=by omega
 obtain ⟨nd,aK⟩:∃ nd,Ms[k]?=some nd:=⟨_,aE (by rw [aa Lp];exact br)⟩;have hb:=aa UQ nd (aF aK);obtain ⟨uM,J9,ia,hd,l1,l2,oe,ho1,GW⟩:=yT (e:=e) (g:=g) (x:=x) (t:=t) (ss:=Ar) aK id;have Jp:=aa eK;rw [qN br hd oe] at Jp;obtain ⟨gn,-,-,-,-,rfl,-,-,-⟩:=aR.at Aa aK;have bf:=hb.1;have aS:=hb.2.1;have dA:=hb.2.2;have HD:=ae (yS e g x t p n c (some ⟨gn,0,none⟩) mk dk Ar Qk Ms Ry k id nd (ae aK) B wr og Aa (by omega) hn (by omega) bf aS dA);rw [hd] at HD;have HX1:=ae (ag l1 (ag l2 (ag oe (ag (GW (aa UQ)) Jp))));clear aK hb bf aS dA hd l1 l2 oe ho1 GW Jp;go_wp2_with fail;refine HD.mono ?_;rintro r w1 ⟨rfl,⟨Q1,La⟩,M6,yD,bf⟩;obtain ⟨l1,l2,oe,GW,Jp⟩:=aa HX1;have ba3:=ae La;have ba8:=ae M6;obtain ⟨Da,-,-,-,-,eg,-,-,-,-,c2,-⟩:=aR.at M6 oe;simp only [Option.some.injEq,Addr.mk.injEq,and_true] at eg;subst eg;have nw:=ae (ag (qM.1.fr yD (by decide)) (qM.2.fr yD (by decide)));have F1:=ae (pT.trans yD);have B1:=ae (ij.trans bf);have z1:w.heap.size+2<=w1.heap.size:=by have:=yD.1;omega
 have pM:¬ w.heap.size=gn:=fun e=>by obtain ⟨-,cur,h1⟩:=qM.1;obtain ⟨tm,h2⟩:=Aa.gS gn rfl;rw [e,h2] at h1;simp at h1
 have aY2:¬ gn=w.heap.size:=fun e=>pM e.symm;obtain ⟨X,hX⟩:=ar (aP w1 w.heap.size (.int .u64 e) (.int .u64 g) (.int .u64 x) (.int .i64 t) (.slice p n c) (.slice (some ⟨gn,0,none⟩) mk dk));obtain ⟨fX,bX,gX⟩:=nw.1.fin F1 B1 ax hB (.int .u64 e) (.int .u64 g) (.int .u64 x) (.int .i64 t) (.slice p n c) (.slice (some ⟨gn,0,none⟩) mk dk);have BXX:=ag (nw.1.put (.int .u64 e) (.int .u64 g) (.int .u64 x) (.int .i64 t) (.slice p n c) (.slice (some ⟨gn,0,none⟩) mk dk)) (nw.2.pD (b:=w.heap.size) (by omega) (.int .u64 e) (.int .u64 g) (.int .u64 x) (.int .i64 t) (.slice p n c) (.slice (some ⟨gn,0,none⟩) mk dk));have zX:X.heap.size=w1.heap.size:=by rw [hX];exact ma _ _ _ _ _ _ _ _
 rw [<-hX] at fX bX gX BXX;have SX:=ae (La.fr gX (by decide));have NX:=ae (aR.fr M6 gX (by decide));have Mb:=ae (ag fX (ag bX BXX));unfold aP at hX;clear k0 k1 k2 k3 k4 k5 kf;obtain ⟨k0,k1,k2,k3,k4,k5,kf⟩:=nw.1.cells;have Jr:=ae (ag l1 (ag l2 GW));have Yk:=ae oe;have EK2:=ae Jp;clear La M6 yD bf oe Jp HX1 HD l1 l2 GW fX bX gX BXX;by_cases MC:ia.owner=id;{
 have Bi:(ia.owner==id)=true:=by simp [MC]
 have Qp:=aa EK2;rw [if_pos MC,rT (aa Yk),zO] at Qp;have EK3:=ae Qp;have hb:=Jr.2.2 ia (aF (aa Yk));have HT:=ae (oq e g x t p n c (some ⟨gn,0,none⟩) mk dk uM Q1 J9 (ae (Jr.1.trans Ry)) k 2 ia Yk B X SX NX (by omega) hn (by omega) hb.1 hb.2.1);clear Qp hb MC;go_wp2_with fail;rw [<-hX];clear hX Bi c2 k0 k1 k2 k3 k4 k5 kf;refine HT.mono ?_;rintro r w2 ⟨rfl,⟨Q2,CQ⟩,CU,wE,aS⟩;have Fu:=ae (ag (Mb.2.2.1.fr wE (by decide)) (Mb.2.2.2.fr wE (by decide)));have F2:=ae (Mb.1.trans wE);have B2:=ae (Mb.2.1.trans aS);have z2:w.heap.size+2<=w2.heap.size:=by have:=wE.1;omega
 obtain ⟨Y,hY⟩:=ar (aP w2 w.heap.size (.int .u64 e) (.int .u64 g) (.int .u64 x) (.int .i64 t) (.slice p n c) (.slice (some ⟨gn,0,none⟩) mk dk));obtain ⟨fY,bY,gY⟩:=Fu.1.fin F2 B2 ax hB (.int .u64 e) (.int .u64 g) (.int .u64 x) (.int .i64 t) (.slice p n c) (.slice (some ⟨gn,0,none⟩) mk dk);have WK:=ag (Fu.1.put (.int .u64 e) (.int .u64 g) (.int .u64 x) (.int .i64 t) (.slice p n c) (.slice (some ⟨gn,0,none⟩) mk dk)) (Fu.2.pD (b:=w.heap.size) (by omega) (.int .u64 e) (.int .u64 g) (.int .u64 x) (.int .i64 t) (.slice p n c) (.slice (some ⟨gn,0,none⟩) mk dk));have zY:Y.heap.size=w2.heap.size:=by rw [hY];exact ma _ _ _ _ _ _ _ _
 rw [<-hY] at fY bY gY WK;have SY:=ae (CQ.fr gY (by decide));have NY:=ae (aR.fr CU gY (by decide));have Wd:=ae (ag fY (ag bY WK));unfold aP at hY;obtain ⟨k0,k1,k2,k3,k4,k5,kf⟩:=Fu.1.cells;have HR:=ae (nG e g x t p n c (some ⟨gn,0,none⟩) mk dk _ (ae (by rw [List.length_set];exact Jr.2.1.trans (aa Lp))) k B Y NY (by omega));clear CQ CU wE aS fY bY gY WK HT SX NX Mb;go_wp2_with fail;rw [<-hY];clear hY k0 k1 k2 k3 k4 k5 kf;refine HR.mono ?_;rintro r w3 ⟨p3,c3,rfl,vj,dA⟩;obtain ⟨S7,Io⟩:∃ S7,Hid ((J9.set k { ia with watchers:=[] }).eraseIdx k=S7):=⟨_,ae rfl⟩;have Oz:Hid (S7.length=mk-1):=by show _=_;have h1:=Jr.2.1.trans Lp;rw [<-aa Io,List.length_eraseIdx,List.length_set,if_pos (by omega)];omega
 rw [aa Io,aa Oz] at vj;rw [aa Io,aa Oz];have EK4:=aa EK3;simp only [aa Io] at EK4;have YC:=ae (ag (Wd.2.2.1.below dA) (Wd.2.2.2.below dA));have F3:=ae (Wd.1.trans (Fr.below dA));have B3:=ae (Wd.2.1.trans (dA.mono (by omega)));have z3:=dA.size;obtain ⟨Z,hZ⟩:=ar (aP w3 w.heap.size (.int .u64 e) (.int .u64 g) (.int .u64 x) (.int .i64 t) (.slice p n c) (.slice p3 (mk-1) c3));obtain ⟨fZ,bZ,gZ⟩:=YC.1.fin F3 B3 ax hB (.int .u64 e) (.int .u64 g) (.int .u64 x) (.int .i64 t) (.slice p n c) (.slice p3 (mk-1) c3);have Q7:=ag (YC.1.put (.int .u64 e) (.int .u64 g) (.int .u64 x) (.int .i64 t) (.slice p n c) (.slice p3 (mk-1) c3)) (YC.2.pD (b:=w.heap.size) (by omega) (.int .u64 e) (.int .u64 g) (.int .u64 x) (.int .i64 t) (.slice p n c) (.slice p3 (mk-1) c3));have zZ:Z.heap.size=w3.heap.size:=by rw [hZ];exact ma _ _ _ _ _ _ _ _
 rw [<-hZ] at fZ bZ gZ Q7;have SZ:=ae ((SY.fr (Fr.below (T:=[]) dA) (by decide)).fr gZ (by decide));have NZ:=ae ((aR.fr vj gZ (by decide)).mono (by omega:B<=Y.heap.size));have RH:=ae (ag fZ (ag bZ Q7));have Zf:=ae (sB Q7.1);have ZO:Hid (NB S7):=by show NB _;rw [<-aa Io];have hb:=Jr.2.2 ia (aF (aa Yk));exact (NB.set (nd:={ ia with watchers:=[] }) Jr.2.2 ⟨hb.1,Nat.zero_le _,hb.2.2⟩).erase k
 have EK5:=ae EK4;have Zh:Hid ((gH uM ia.watchers (2,ia.path)).length=n):=by show _=_;rw [jB];exact Jr.1.trans (aa Ry)
 unfold aP at hZ;obtain ⟨k0,k1,k2,k3,k4,k5,kf⟩:=YC.1.cells;clear vj dA fZ bZ gZ Q7 HR SY NY Wd EK4;go_wp2;rw [<-hZ];clear hZ k0 k1 k2 k3 k4 k5 kf;go_roundw
 case rel=>exact ⟨k,mk-1,c3,p3,_,S7,Q2,by omega,by omega,rfl,by omega,Zh,Oz,ZO,EK5,NZ,SZ,ae RH.2.2,ae RH.1,ae RH.2.1⟩
 case measure =>(
 rw [aa Zf,aa hlen];simp [intOf];omega)}
 {
 have Bi:(ia.owner==id)=false:=by simp [MC]
 have Qp:=aa EK2;rw [if_neg MC] at Qp;have EK3:=ae Qp;have Zg:=ae (sB Mb.2.2.1);clear Qp MC;go_wp2;rw [<-hX];clear hX Bi c2 k0 k1 k2 k3 k4 k5 kf;go_roundw
 case rel=>exact ⟨k+1,mk,dk,_,uM,J9,Q1,by omega,by omega,by go_num,by omega,ae (Jr.1.trans Ry),ae (Jr.2.1.trans Lp),ae (Jr.2.2),EK3,NX,SX,ae Mb.2.2,ae Mb.1,ae Mb.2.1⟩
 case measure =>(
 rw [aa Zg,aa hlen];simp [intOf];omega)}}
 {
 have bt:¬ (k:Int)<(mk:Int):=by omega
 have Jp:=aa eK;rw [show mk-k=0 by omega,bO] at Jp;have X5:Hid (D=⟨e,g,x,t,DR id Ar,Ms⟩):=by show _=_;rw [aa Qq,<-Jp]
 clear Jp Qq eK;obtain ⟨W5,eW5⟩:∃ W5,Hid (W5=wr):=⟨_,ae rfl⟩;obtain ⟨wz,XP⟩:∃ wz,Hid (wz=W5.heap.size):=⟨_,ae rfl⟩;have H5:=ag (aa og) (ag (aa Aa) (ag (aa qM) (ag (aa pT) (aa ij))));have z5:=zr;rw [<-aa eW5] at H5 z5;rw [<-aa XP] at z5;have G5:=ae H5;clear H5;go_wp2
 go_loopw [7,8] (fun lv iv w9=>∃ (j nl cl:Nat) (pl:Option Addr) (L:List (aL × Value)),j<=n/\iv=.int .i64 j/\lv=.slice pl nl cl/\wz<=w9.heap.size/\Hid (L.length=nl)/\Hid ((((Ar.zip Qk).take j).filter fun z=>!(z.1.1==id))=L)/\Hid (RT jO 35 3 wz w9 (.slice pl nl cl) L)/\Hid (Below wz W5 w9)) (fun _ iv _=>n-(intOf iv).toNat)
 case atStart=>exact ⟨0,0,0,none,[],Nat.zero_le _,rfl,rfl,by rw [aa XP,aa eW5];exact Nat.le_refl _,ae rfl,ae (by simp),RT.nil _ _ _ _ _,(by show Below _ _ _;rw [aa eW5];exact Below.refl _ _)⟩
 case round =>(
 obtain ⟨j,nl,cl,pl,L,hj,rfl,rfl,z9,iI,hL,hR,ft⟩:=hrel;clear k0 k1 k2 k3 k4 k5 kf og Aa qM pT ij hlen zr;have j7:Below W5.heap.size W5 wr:=by have:=aa ft;rwa [aa XP] at this
 have H9:=ae (ag (G5.1.fr (Fr.below (T:=[]) j7) (by decide)) (ag (G5.2.1.fr (Fr.below (T:=[]) j7) (by decide)) (ag (G5.2.2.1.1.below j7) (G5.2.2.1.2.below j7))));have RM:=ae (ag (G5.2.2.2.1.trans (Fr.below j7)) (G5.2.2.2.2.trans (j7.mono (by have:=G5.2.2.2.2.size;omega))));obtain ⟨k0,k1,k2,k3,k4,k5,kf⟩:=H9.2.2.1.cells;clear j7;by_cases br:j<n;{
 have bt:(j:Int)<(n:Int):=by omega
 obtain ⟨s,hs⟩:∃ s,Ar[j]?=some s:=⟨_,aE (by rw [aa Ry];exact br)⟩;obtain ⟨gs,Q,rfl,-,-,hQ,c0,c1,c2,sq,-⟩:=de.at H9.1 hs;obtain ⟨pq,cq,rfl,-⟩:=sq.form;have hz:(Ar.zip Qk)[j]?=some (s,.slice pq s.2.2.length cq):=by rw [List.getElem?_zip_eq_some];exact ⟨hs,hQ⟩
 have cF:=Ij hz (fun s=>!(s.1==id));rw [aa hL] at cF;have jQ:=ae cF;have KF:nl<4194304:=by have h1:=List.length_filter_le (fun z:aL × Value=>!(z.1.1==id)) ((Ar.zip Qk).take j);have h2:=List.length_take_le j (Ar.zip Qk);rw [aa hL,aa iI] at h1;omega
 clear hs hQ sq hz cF;by_cases he:s.1=id;{
 have E1:Hid ((((Ar.zip Qk).take (j+1)).filter fun z=>!(z.1.1==id))=L):=by have:=aa jQ;show _=_;simpa [he] using this
 have Bi:(s.1 != id)=false:=by simp [he]
 clear he;go_wp2;go_roundw
 case rel=>exact ⟨j+1,nl,cl,pl,L,by omega,by go_num,rfl,z9,iI,E1,hR,ft⟩
 case measure=>simp [intOf];omega}
 {
 have E1:Hid ((((Ar.zip Qk).take (j+1)).filter fun z=>!(z.1.1==id))=L++[(s,.slice pq s.2.2.length cq)]):=by have:=aa jQ;show _=_;simpa [he] using this
 have Bi:(s.1 != id)=true:=by simp [he]
 obtain ⟨v3,Fc,b3,z3,C3,-⟩:=aj wr #[.int .u64 s.1,.int .i64 s.2.1,.slice pq s.2.2.length cq] 35;have R3:=ae (RT.fr hR (Fr.below (T:=[]) b3) (by decide) (fun _ _ h=>h));have B3:=ae b3;have Mi:=ae C3;have uv:=ae fun b e=>(hR.lt b e).1;clear he b3 C3;go_wp2_with (at_builtin;rw [<-Fc];refine fh rfl _ _ rfl wz (.slice pl nl cl) L (s,.slice pq s.2.2.length cq) nl iI rfl (aa R3) wr.heap.size rfl rfl Mi.1 KF (by omega) ?_);intro p' c' w' o2 dV _;rw [<-Fc] at dV;have b4:=ae ((ft.trans (B3.mono (by omega))).grown dV (by omega) uv);have O2:=ae o2;have z4:=b4.size;clear dV o2 c0 c1 c2 Fc Bi k0 k1 k2 k3 k4 k5 kf;go_wp2;go_roundw
 case rel=>exact ⟨j+1,nl+1,c',p',_,by omega,by go_num,rfl,by have:=aa XP;omega,ae (by rw [List.length_append,aa iI];rfl),E1,O2,b4⟩
 case measure=>simp [intOf];omega}}
 {
 have bt:¬ (j:Int)<(n:Int):=by omega
 have XH:=aa hL;rw [List.take_of_length_le (by rw [List.length_zip,aa Ry];omega)] at XH;obtain ⟨q0,q1,q2,q3,q4,q5,qf⟩:=H9.2.2.2.cells;have SF:=de.filter (v':=.slice pl nl cl) H9.1 (fun s=>!(s.1==id)) (by rw [XH];exact RT.mono (aa hR) (by omega));have lF:(DR id Ar).length=nl:=by have:=SF.len;rw [XH,List.length_map,aa iI] at this;exact this.symm
 have Wf:=ae SF;have HLF:=ae lF;clear SF lF XH;go_wp2;rw [aa X5];simp only [aa HLF,aa Lp];obtain ⟨fA,bA,gA⟩:=H9.2.2.1.Vk (j:=4) RM.1 RM.2 ax hB (.slice pl nl cl);obtain ⟨fB,bB,gB⟩:=(H9.2.2.2.nF (b:=w.heap.size) (j:=4) (u:=.slice pl nl cl) (by omega)).fin fA bA (Nat.le_succ _) hB (.int .u64 e) (.int .u64 g) (.int .u64 x) (.int .i64 t) (.slice pl nl cl) (.slice qk mk dk);refine bodyPost_ret (v:=cK e g x t (.slice pl nl cl) (.slice qk mk dk)) (by simp [results,results105,go_sem,q0,q1,q2,q3,q4,q5]) rfl ?_;exact ⟨pl,cl,qk,dk,rfl,⟨_,(Wf.fr gA (by decide)).fr gB (by decide)⟩,(H9.2.1.fr gA (by decide)).fr gB (by decide),fB,bB⟩})})})
abbrev fW (k i e g n:Int) (D N E:Value):Value:=.agg #[.int .i64 k,.int .u64 i,.int .u64 e,.int .u64 g,.int .i64 n,D,N,E]
abbrev aq:Value:=.slice none 0 0
def RX (w:World) (b:Nat) (vs:List Value):Prop:=al w b vs/\∃ cur,w.heap[b]?=some (.cells cur 41)
theorem RX.fr {T:List TypeId} (h:RX w b vs) (hf:Fr T w w') (ht:41∉T):RX w' b vs:=by
 obtain ⟨h1,cur,h2⟩:=h;have h3:=hf.2 _ _ _ _ ht h2;exact ⟨h1.bc (h3.trans h2.symm),cur,h3⟩
theorem RX.below (h:RX w b vs) (hb:Below w.heap.size w w'):RX w' b vs:=h.fr (Fr.below (T:=[]) hb) (by simp)
def fk (w:World) (b:Nat) (v0 v1 v2 v3 v4 v5 v6 v7:Value):World:=((aP w b v0 v1 v2 v3 v4 v5).setCell ⟨b,6,none⟩ v6).setCell ⟨b,7,none⟩ v7
theorem aU (w:World) (b:Nat) (v0 v1 v2 v3 v4 v5 v6 v7:Value):Below b w (fk w b v0 v1 v2 v3 v4 v5 v6 v7):=((bH w b v0 v1 v2 v3 v4 v5).setCell (p:=⟨b,6,none⟩) ax _).setCell (p:=⟨b,7,none⟩) ax _
theorem RX.put {o6 o7:Value} (h:RX w b [o0,o1,o2,o3,o4,o5,o6,o7]) (v0 v1 v2 v3 v4 v5 v6 v7:Value):RX (fk w b v0 v1 v2 v3 v4 v5 v6 v7) b [v0,v1,v2,v3,v4,v5,v6,v7]/\Fr [41] w (fk w b v0 v1 v2 v3 v4 v5 v6 v7):=by
 obtain ⟨hc,cur,ht⟩:=h;have t6:=oC ⟨cur,ht⟩ (v0:=v0) (v1:=v1) (v2:=v2) (v3:=v3) (v4:=v4) (v5:=v5);have a6:=aZ (j:=6) (u:=v6) t6;have a7:=aZ (j:=7) (u:=v7) a6.1;exact ⟨⟨(((((((hc.da 0 (by simp) v0).da 1 (by simp) v1).da 2 (by simp) v2).da 3 (by simp) v3).da 4 (by simp) v4).da 5 (by simp) v5).da 6 (by simp) v6).da 7 (by simp) v7,a7.1⟩,((dJ ht).trans a6.2).trans a7.2⟩
theorem RX.cells {v5 v6 v7:Value} (h:RX w b [v0,v1,v2,v3,v4,v5,v6,v7]):w.cell? ⟨b,0,none⟩=some v0/\w.cell? ⟨b,1,none⟩=some v1/\w.cell? ⟨b,2,none⟩=some v2/\w.cell? ⟨b,3,none⟩=some v3/\w.cell? ⟨b,4,none⟩=some v4/\w.cell? ⟨b,5,none⟩=some v5/\w.cell? ⟨b,6,none⟩=some v6/\w.cell? ⟨b,7,none⟩=some v7/\∀ o,w.frozen? ⟨b,o,none⟩=false:=
 ⟨h.1.1 0 _ rfl,h.1.1 1 _ rfl,h.1.1 2 _ rfl,h.1.1 3 _ rfl,h.1.1 4 _ rfl,h.1.1 5 _ rfl,h.1.1 6 _ rfl,h.1.1 7 _ rfl,h.1.2⟩
theorem gP (w:World) (v0 v1 v2 v3 v4 v5 v6 v7:Value):∃ W,W=w.alloc (.cells #[v0,v1,v2,v3,v4,v5,v6,v7] 41)/\Below w.heap.size w W/\W.heap.size=w.heap.size+1/\RX W w.heap.size [v0,v1,v2,v3,v4,v5,v6,v7]:=by
 obtain ⟨W,h1,h2,h3,h4,h5⟩:=aj w #[v0,v1,v2,v3,v4,v5,v6,v7] 41;exact ⟨W,h1,h2,h3,h4,_,h5⟩
theorem AK (k:Int) (w:World):Calls prog 39 #[.int .i64 k] w fun r w'=>r=.returned (fW k 0 0 0 0 aq aq aq)/\Below w.heap.size w w':=by
 go_enter func39,ntmps39;go_wp2;exact bodyPost_ret (v:=fW k 0 0 0 0 aq aq aq) (by simp [results,results39,go_sem]) rfl ⟨rfl,ay.alloc ax _⟩
abbrev Gj (t1 t2 t3 d1 d2:Nat) (ps:String) (k:Int):Array Oper:=#[{ dst:=some d1,op:=Op.load 27 (Operand.tmp t1),type:=27,pos:=ps,after:=#[],guard:=none },
 { dst:=some d2,op:=Op.call { callee:=Callee.value (Operand.func 39),args:=#[Operand.const (Value.int IntKind.i64 k)],argTypes:=#[3] },type:=41,pos:=ps,after:=#[],guard:=none },
 { dst:=none,op:=Op.store 27 (Operand.tmp t2) (Operand.tmp d1),type:=0,pos:=ps,after:=#[{ on:=0,ground:=Ground.data },{ on:=1,ground:=Ground.chain },{ on:=0,ground:=Ground.phase },{ on:=1,ground:=Ground.textOnly Departure.lateStoresUnsure }],guard:=none },
 { dst:=none,op:=Op.store 41 (Operand.tmp t3) (Operand.tmp d2),type:=0,pos:=ps,after:=#[{ on:=1,ground:=Ground.data },{ on:=2,ground:=Ground.chain },{ on:=0,ground:=Ground.phase },{ on:=1,ground:=Ground.phase },{ on:=2,ground:=Ground.phase }],guard:=none }]
theorem df (i t1 t2 t3 d1 d2:Nat) (ps:String) (k:Int) {Q:Exit->Act->World->Prop} (b0 b1 b2:Nat) (e g x t:Int) (p:Option Addr) (n c:Nat) (q:Option Addr) (m d:Nat) 
  (hf:Region.free .any (Gj t1 t2 t3 d1 d2 ps k) (Array.replicate 4 false) 0=true) (e1:a.tmps[t1]?.getD undef=.pointer (some ⟨b0,0,none⟩)) (e2:∀ v u,((a.put (some d1) v).put (some d2) u).tmps[t2]?.getD undef=.pointer (some ⟨b1,0,none⟩)) (e3:∀ v u,((a.put (some d1) v).put (some d2) u).tmps[d1]?.getD undef=v) (e4:∀ v u,((a.put (some d1) v).put (some d2) u).tmps[t3]?.getD undef=.pointer (some ⟨b2,0,none⟩)) (e5:∀ v u,((a.put (some d1) v).put (some d2) u).tmps[d2]?.getD undef=u)
  (h0:BX w b0 [.int .u64 e,.int .u64 g,.int .u64 x,.int .i64 t,.slice p n c,.slice q m d]) (h1:BX w b1 [o0,o1,o2,o3,o4,o5]) (h2:RX w b2 [r0,r1,r2,r3,r4,r5,r6,r7]) (bq:b0≠b1) (B:Nat) (vm:B<=b1) (js:B<=b2)
  (h:∀ w',BX w' b1 [.int .u64 e,.int .u64 g,.int .u64 x,.int .i64 t,.slice p n c,.slice q m d]->RX w' b2 [.int .i64 k,.int .u64 0,.int .u64 0,.int .u64 0,.int .i64 0,aq,aq,aq]->Fr [27,41] w w'->Below B w w'->Q .normal ((a.put (some d1) (cK e g x t (.slice p n c) (.slice q m d))).put (some d2) (fW k 0 0 0 0 aq aq aq)) w') :
  Code.wp prog (Code.region i (Gj t1 t2 t3 d1 d2 ps k) true) Q a w:=by
 unfold Gj at hf ⊢;refine wp_region_noPanic ?_;have cg:Below w.heap.size w w.drew:=ay.drew;have H0:=ae (ag (h0.below cg) (ag (h1.below cg) (h2.below cg)));refine wp_region_held_drew (S:=fun w'=>BX w' b0 [.int .u64 e,.int .u64 g,.int .u64 x,.int .i64 t,.slice p n c,.slice q m d]) (by kernel_rfl) H0.1 (fun hS=>?_);obtain ⟨vA,bM⟩:=ar w.drew;rw [<-bM] at hS H0 cg ⊢;clear bM;refine wpAnyH_take (i:=0) (oi:=_) (v:=cK e g x t (.slice p n c) (.slice q m d)) (by simp only [List.getElem?_toArray,List.getElem?_cons_zero];rfl) (by kernel_rfl) hf (by kernel_rfl) (fun _ _ _ h=>h) (Or.inl ⟨rfl,?_⟩) hS ?_;{intro w' hw;obtain ⟨k0,k1,k2,k3,k4,k5,kf⟩:=hw.cells;go_simp};refine aH 1 fun KK hK=>?_;refine fw (AK k vA) ?_;rintro r v1 ⟨rfl,bf⟩;refine ⟨_,rfl,?_⟩;refine hK.out _ _ (hS.below bf) (fun hS=>?_);clear hK KK;have H1:=ae (ag (H0.2.1.below bf) (H0.2.2.below bf));have B1:=ae (ai cg bf);clear H0 cg bf;obtain ⟨a2,py⟩:=ar ((a.put (some d1) (cK e g x t (.slice p n c) (.slice q m d))).put (some d2) (fW k 0 0 0 0 aq aq aq));refine aH 2 fun KK hK=>?_;have e2':=e2 (cK e g x t (.slice p n c) (.slice q m d)) (fW k 0 0 0 0 aq aq aq);have e3':=e3 (cK e g x t (.slice p n c) (.slice q m d)) (fW k 0 0 0 0 aq aq aq);have e4':=e4 (cK e g x t (.slice p n c) (.slice q m d)) (fW k 0 0 0 0 aq aq aq);have e5':=e5 (cK e g x t (.slice p n c) (.slice q m d)) (fW k 0 0 0 0 aq aq aq);have H2:=h;rw [<-py] at e2' e3' e4' e5' ⊢;rw [show (a.put (some d1) (cK e g x t (.slice p n c) (.slice q m d))).put (some d2) (fW k 0 0 0 0 aq aq aq)=a2 from py.symm] at H2;clear e1 e2 e3 e4 e5 h py;obtain ⟨k0,k1,k2,k3,k4,k5,kf⟩:=H1.1.cells;go_simp;obtain ⟨X,hX⟩:=ar (aP v1 b1 (.int .u64 e) (.int .u64 g) (.int .u64 x) (.int .i64 t) (.slice p n c) (.slice q m d));have bX:Below b1 v1 X:=by rw [hX];exact bH _ _ _ _ _ _ _ _
 have nw:BX X b1 [.int .u64 e,.int .u64 g,.int .u64 x,.int .i64 t,.slice p n c,.slice q m d]:=by rw [hX];exact H1.1.put _ _ _ _ _ _
 have BX0:BX X b0 [.int .u64 e,.int .u64 g,.int .u64 x,.int .i64 t,.slice p n c,.slice q m d]:=by rw [hX];exact hS.pD bq _ _ _ _ _ _
 have fX:Fr [27] v1 X:=by obtain ⟨-,cur,ht⟩:=H1.1;rw [hX];exact dJ ht
 have IT:=H1.2.fr fX (by decide);unfold aP at hX;rw [<-hX];refine hK.out _ _ BX0 (fun hS=>?_);clear hK KK hX BX0 k0 k1 k2 k3 k4 k5 kf;refine aH 3 fun KK hK=>?_;obtain ⟨k0,k1,k2,k3,k4,k5,k6,k7,kf⟩:=IT.cells;go_simp;obtain ⟨Fm,fY⟩:=IT.put (.int .i64 k) (.int .u64 0) (.int .u64 0) (.int .u64 0) (.int .i64 0) aq aq aq;have bY:=aU X b2 (.int .i64 k) (.int .u64 0) (.int .u64 0) (.int .u64 0) (.int .i64 0) aq aq aq;obtain ⟨Y,hY⟩:=ar (fk X b2 (.int .i64 k) (.int .u64 0) (.int .u64 0) (.int .u64 0) (.int .i64 0) aq aq aq);rw [<-hY] at Fm fY bY;unfold fk aP at hY;rw [<-hY];refine hK.out _ _ (hS.fr fY (by decide)) (fun hS=>?_);clear hK KK hY;refine wpAnyH_done (by kernel_rfl) ?_ _;refine aX ?_;exact H2 Y (nw.fr fY (by decide)) Fm ((Fr.below (aa B1)).trans ((fX.sub (by simp)).trans (fY.sub (by simp)))) ((B1.mono (by have:=h1.lt;omega)).trans ((bX.mono vm).trans (bY.mono js)))
structure RP where
 k:Int
 i:Int
 e:Int
 g:Int
 n:Int
 vt:List Int
 qh:List (List Int)
 tT:List Ev
def mR:RP:=⟨0,0,0,0,0,[],[],[]⟩
def qV (k:Int):RP:=⟨k,0,0,0,0,[],[],[]⟩
def jG (D:SD):SD × RP:=if 50<=D.ss.length then (D,qV 11) else if 4611686018427387904<=D.x then (D,qV 12) else ({ D with x:=D.x+1,ss:=D.ss++[(D.x+1,D.t+10,[])] },{ mR with i:=D.x+1,n:=D.t+10 })
def Vs (w:World) (l:List Int) (c:List Value):Prop:=∃ P,c=[P]/\TB w P l
abbrev TN (B:Nat) (w:World) (v:Value) (l:List (List Int)):Prop:=RT Vs 22 1 B w v l
def QR (B:Nat) (w w':World) (r:Ending) (D:SD) (R:RP):Prop:=∃ p c q d Dv Nv Ev Qs,r=.returned (.tuple #[cK D.e D.g D.x D.t (.slice p D.ss.length c) (.slice q D.ns.length d),fW R.k R.i R.e R.g R.n Dv Nv Ev])/\de B w' (.slice p D.ss.length c) D.ss Qs/\jh B w' (.slice q D.ns.length d) D.ns/\TB w' Dv R.vt/\TN B w' Nv R.qh/\tX B w' Ev R.tT/\Fr [49,35,38] w w'/\Below B w w'
theorem Fr.low {T:List TypeId} (h:Fr T w w1) (hb:Below w.heap.size w1 w'):Fr T w w':=⟨Nat.le_trans h.1 hb.size,fun b cur ty m ht hc=>(hb.block b (cD hc)).trans (h.2 b cur ty m ht hc)⟩
theorem QR.num {e g x t:Int} {p q:Option Addr} {n c m d:Nat} {ns:List aA} (en:Hid (ss.length=n)) (em:Hid (ns.length=m)) (hS:de B w1 (.slice p n c) ss Qs) (hN:jh B w1 (.slice q m d) ns) (hF:Fr [49,35,38] w w1) (hB:Below B w w1) (f:Fr [27,41] w1 w') (b:Below w.heap.size w1 w') (hle:B<=w.heap.size) (k i a h s:Int) :
  QR B w w' (.returned (.tuple #[cK e g x t (.slice p n c) (.slice q m d),fW k i a h s aq aq aq])) ⟨e,g,x,t,ss,ns⟩ ⟨k,i,a,h,s,[],[],[]⟩:=by
 refine ⟨p,c,q,d,aq,aq,aq,Qs,by simp only [aa en,aa em],?_,?_,TB.nil _,RT.nil _ _ _ _ _,RT.nil _ _ _ _ _,hF.low b,hB.trans (b.mono hle)⟩;{simp only [aa en];exact hS.fr f (by decide)};{simp only [aa em];exact aR.fr hN f (by decide)}
theorem de.FV {v v':Value} (h:de B w v ss Qs) (hf:Fr [35] w w') (I J:Int) (hr:RT jO 35 3 B w' v' (ss.zip Qs++[((I,J,[]),aq)])):de B w' v' (ss++[(I,J,[])]) (Qs++[aq]):=by
 have hl:=h.len;refine ⟨by simp [hl],by rw [List.zip_append hl.symm];exact hr,fun i s Q hs hq=>?_,fun i j Q Q' b ic hq yw hb=>?_⟩;{
 by_cases hi:i<ss.length;{rw [List.getElem?_append_left hi] at hs;rw [List.getElem?_append_left (by omega)] at hq;exact (h.xm i s Q hs hq).fr hf (by decide)};{
 have ei:i=ss.length:=by have:=(aJ.1 hs).1;simp at this;omega
 subst ei;rw [List.getElem?_append_right ax,Nat.sub_self] at hs;rw [List.getElem?_append_right (by omega),hl,Nat.sub_self] at hq;simp at hs hq;subst hs hq;exact RT.nil _ _ _ _ _}};{
 by_cases hi:i<Qs.length;{
 rw [List.getElem?_append_left hi] at hq;by_cases hj:j<Qs.length;{rw [List.getElem?_append_left hj] at yw;exact h.pD i j Q Q' b ic hq yw hb};{
 rw [List.getElem?_append_right (by omega)] at yw;have e:j-Qs.length=0:=by have:=(aJ.1 yw).1;simp at this;omega
 rw [e] at yw;simp at yw;subst yw;simp [Value.ownBlock]}};{
 rw [List.getElem?_append_right (by omega)] at hq;have e:i-Qs.length=0:=by have:=(aJ.1 hq).1;simp at this;omega
 rw [e] at hq;simp at hq;subst hq;simp [Value.ownBlock] at hb}}
theorem oA {md:Region.Mode} {ops:Array Oper} {Q:Exit->Act->World->Prop} {S:World->Prop} {listed:Array Bool} (i5 i6 t2 t3 d1 d2:Nat) {ps J1:String} {A5 A6:Array Edge} (gF:Region.ready md ops listed=[i5]) (tL:Region.ready md ops (listed.setIfInBounds i5 true)=[i6]) (Tx:Region.ready md ops ((listed.setIfInBounds i5 true).setIfInBounds i6 true)=[])
  (TI:ops[i5]?=some { dst:=none,op:=Op.store 27 (Operand.tmp t2) (Operand.tmp d1),type:=0,pos:=ps,after:=A5,guard:=none }) (ZK:ops[i6]?=some { dst:=none,op:=Op.store 41 (Operand.tmp t3) (Operand.tmp d2),type:=0,pos:=J1,after:=A6,guard:=none })
  (b1 b2:Nat) (e g x t:Int) (p:Option Addr) (n c:Nat) (q:Option Addr) (m d:Nat) (k i h s z:Int) (dp:Option Addr) (dn dc:Nat) (np:Option Addr) (nn nc:Nat) (vp:Option Addr) (vn vc:Nat) 
  (e2:a.tmps[t2]?.getD undef=.pointer (some ⟨b1,0,none⟩)) (e3:a.tmps[d1]?.getD undef=cK e g x t (.slice p n c) (.slice q m d)) (e4:a.tmps[t3]?.getD undef=.pointer (some ⟨b2,0,none⟩)) (e5:a.tmps[d2]?.getD undef=fW k i h s z (.slice dp dn dc) (.slice np nn nc) (.slice vp vn vc))
  (h1:BX w b1 [o0,o1,o2,o3,o4,o5]) (h2:RX w b2 [r0,r1,r2,r3,r4,r5,r6,r7]) (Ru:b1<b2) (og:∀ w',Below b1 w w'->Fr [27,41] w w'->S w')
  (hQ:∀ w',BX w' b1 [.int .u64 e,.int .u64 g,.int .u64 x,.int .i64 t,.slice p n c,.slice q m d]->RX w' b2 [.int .i64 k,.int .u64 i,.int .u64 h,.int .u64 s,.int .i64 z,.slice dp dn dc,.slice np nn nc,.slice vp vn vc]->Fr [27,41] w w'->Below b1 w w'->Q .normal a w'):wpAnyH prog md ops Q S 2 listed a w:=by
 refine wpAnyH_ready gF (by simp) ?_;refine AllReadyH.cons TI (fun KK hK=>?_) AllReadyH.nil;obtain ⟨k0,k1,k2,k3,k4,k5,kf⟩:=h1.cells;go_simp;obtain ⟨X,hX⟩:=ar (aP w b1 (.int .u64 e) (.int .u64 g) (.int .u64 x) (.int .i64 t) (.slice p n c) (.slice q m d));have bX:Below b1 w X:=by rw [hX];exact bH _ _ _ _ _ _ _ _
 have nw:=h1.put (.int .u64 e) (.int .u64 g) (.int .u64 x) (.int .i64 t) (.slice p n c) (.slice q m d);have fX:Fr [27] w X:=by obtain ⟨-,cur,ht⟩:=h1;rw [hX];exact dJ ht
 rw [<-hX] at nw;have IT:=h2.fr fX (by decide);unfold aP at hX;rw [<-hX];refine hK.out _ _ (og X bX (fX.sub (by simp))) (fun hS=>?_);clear hK KK hX k0 k1 k2 k3 k4 k5 kf;refine wpAnyH_ready tL (by simp) ?_;refine AllReadyH.cons ZK (fun KK hK=>?_) AllReadyH.nil;obtain ⟨k0,k1,k2,k3,k4,k5,k6,k7,kf⟩:=IT.cells;go_simp;obtain ⟨Fm,fY⟩:=IT.put (.int .i64 k) (.int .u64 i) (.int .u64 h) (.int .u64 s) (.int .i64 z) (.slice dp dn dc) (.slice np nn nc) (.slice vp vn vc);have bY:=aU X b2 (.int .i64 k) (.int .u64 i) (.int .u64 h) (.int .u64 s) (.int .i64 z) (.slice dp dn dc) (.slice np nn nc) (.slice vp vn vc);obtain ⟨Y,hY⟩:=ar (fk X b2 (.int .i64 k) (.int .u64 i) (.int .u64 h) (.int .u64 s) (.int .i64 z) (.slice dp dn dc) (.slice np nn nc) (.slice vp vn vc));rw [<-hY] at Fm fY bY;unfold fk aP at hY;rw [<-hY];have bY':=bX.trans (bY.mono (Nat.le_of_lt Ru));refine hK.out _ _ (og Y bY' ((fX.sub (by simp)).trans (fY.sub (by simp)))) (fun hS=>?_);clear hK KK hY;refine wpAnyH_done Tx ?_ _;exact hQ Y (nw.fr fY (by decide)) Fm ((fX.sub (by simp)).trans (fY.sub (by simp))) bY'
def ni (nd:aA) (id:Int):Bool:=decide (nd.mode=0)||(decide (nd.holders.length=1)&&decide (nd.holders.headD 0=id))
theorem Ia (P V H U:Value) (nd:aA) (p:Option Addr) (n c:Nat) (eH:Hid (nd.holders.length=n)) (id:Int) (w:World) (tH:Hid (kL w (.slice p n c) nd.holders)) (hP:P.oneCell'=true) (hV:V.oneCell'=true) (hU:U.oneCell'=true) :
  Calls prog 152 #[.agg #[P,V,.int .u64 nd.owner,.int .i64 nd.mode,.slice p n c,.int .u64 nd.aD,.int .u64 nd.gen,U],.int .u64 id] w fun r w'=>r=.returned (.bool (ni nd id))/\Below w.heap.size w w':=by
 go_enter func152,ntmps152;by_cases hm:nd.mode=0;{
 have hf:ni nd id=true:=by simp [ni,hm]
 rw [hf];have Xi:(nd.mode==0)=true:=by simp [hm]
 go_wp2;go_ret;exact ⟨rfl,ay.alloc ax _⟩};{
 have Xi:(nd.mode==0)=false:=by simp [hm]
 by_cases hn:n=1;{
 obtain ⟨x,hx⟩:∃ x,nd.holders=[x]:=List.length_eq_one_iff.1 (by rw [aa eH,hn]);obtain ⟨b,o,rfl,hc⟩:=tH.at (k:=0) (x:=x) (by rw [hx];rfl);rw [Nat.add_zero] at hc;have fq:=fun ob:Obj=>af hc ((Below.refl _ w).alloc ax ob);have hf:Hid (ni nd id=decide (x=id)):=by show _=_;simp [ni,hm,hx]
 subst hn;have h1:((1:Int)==1)=true:=by decide
 by_cases Zo:x=id;{
 subst Zo;have h2:(x==x)=true:=by simp
 go_wp2;go_ret;have wE:ni nd x=true:=by rw [aa hf];simp
 exact ⟨by rw [wE];rfl,ay.alloc ax _⟩};{
 have h2:(x==id)=false:=by simpa using Zo
 go_wp2;go_ret;exact ⟨by rw [aa hf,decide_eq_false Zo];rfl,ay.alloc ax _⟩}};{
 have hf:Hid (ni nd id=false):=by show _=_;simp [ni,hm,aa eH,hn]
 have h1:((n:Int)==1)=false:=by simp;omega
 go_wp2;go_ret;exact ⟨by rw [aa hf];rfl,ay.alloc ax _⟩}}
end Go.Proofs.YtcfcafeciggjeaaGreatDoor
