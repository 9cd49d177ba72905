import Derived.Test.YtcfcafeciggjeaaGreatDoorK24
namespace Go.Proofs.YtcfcafeciggjeaaGreatDoor
set_option maxHeartbeats 12800000
set_option linter.all false
set_option maxRecDepth 100000
open Go.ChangeShapes Go.WideShapes Go.ChangeAt Go.RowKit Go.Proofs.Tryz
variable {B b m:Nat} {Qs vs:List Value} {a:Act} {o0 o1 o2 o3 o4 o5 r0 r1 r2 r3 r4 r5 r6 r7 v0 v1 v2 v3 v4:Value} {ss:List aY} {w w' w1:World}
theorem uG {id:Int} {k:Nat} {D D1:SD} {nd:aD} (hk:k<m) (hd:cT D k id=D1) (hn:D1.ns[k]?=some nd):cA id (m-k) k D=if nd.owner=id then cA id (m-1-k) k (AH (cO D1 k 2) k) else cA id (m-(k+1)) (k+1) D1:=by
 obtain ⟨f,hf⟩:∃ f,m-k=f+1:=⟨m-k-1,by omega⟩;rw [hf,cA,hd,hn,show m-1-k=f by omega,show m-(k+1)=f by omega]
def LG (b:Nat) (w:World):Nat:=match w.cell? ⟨b,5,none⟩ with
 | some (.slice _ m _)=>m
 | _=>0
theorem wV {q:Option Addr} {d:Nat} (h:BX w b [v0,v1,v2,v3,v4,.S q m d]):LG b w=m:=by
 unfold LG;rw [h.1.1 5 _ rfl]
theorem Jw (e g x t:Int) (p:Option Addr) (n c:Nat) (q:Option Addr) (m d:Nat) (ss:List aY) (Qs:List Value) (ns:List aD) (en:Hid (ss.length=n)) (em:Hid (ns.length=m)) (id:Int) (B:Nat) (w:World) (hS:Hid (dJ B w (.S p n c) ss Qs)) (hN:Hid (lX B w (.S q m d) ns)) (hNB:Hid (NB ns)) (hB:B<=w.heap.size) (hn:n<=1048576) (hm:m<=1048576) (D:SD) (eD:Hid (gv ⟨e,g,x,t,ss,ns⟩ id=D)) :
  Calls prog 105 #[cY e g x t (.S p n c) (.S q m d),.U id] w fun r w'=>∃ p' c' q' d',r=.returned (cY e g x t (.S p' D.ss.length c') (.S q' D.ns.length d'))/\(∃ vP,dJ B w' (.S p' D.ss.length c') D.ss vP)/\lX B w' (.S q' D.ns.length d') D.ns/\Fr [49,35,38] w w'/\Below B w w':=by
 obtain ⟨W0,dh,b0,z0,C0⟩:=ft w (.U e) (.U g) (.U x) (.I t) (.S p n c) (.S q m d);obtain ⟨W1,iM,b1,z1,C1⟩:=iq W0;rw [z0] at C1;have HC:=ae (ag (C0.below b1) C1);have bW:=ae (ah b0 b1);have zW:W1.heap.size=w.heap.size+2:=by omega
 clear b0 b1 C0 C1 z0 z1;go_enter func105,ntmps105;go_wp2;rw [<-dh,<-iM];clear dh iM
 go_loopw [5] (fun kv wr=>∃ k:Nat,k<=m/\kv=.I k/\w.heap.size+2<=wr.heap.size/\Hid (lX B wr (.S q m d) (jI (vL id) k ns))/\Hid (dJ B wr (.S p n c) ss Qs)/\Hid (BX wr w.heap.size [.U e,.U g,.U x,.I t,.S p n c,.S q m d]/\BX wr (w.heap.size+1) [.U 0,.U 0,.U 0,.I 0,.S none 0 0,.S none 0 0])/\Hid (Fr [49,35,38] w wr)/\Hid (Below B w wr)) (fun kv _=>m-(intOf kv).toNat)
 case atStart=>exact ⟨0,Nat.zero_le _,rfl,by omega,(by show lX _ _ _ _;simpa [jI] using hN.fr (al (aa bW))),hS.fr (al (aa bW)),aa HC,Fr.below (aa bW),bW.mono hB⟩
 case round =>(
 obtain ⟨k,hk,rfl,zr,Es,ri,uC,sY,js⟩:=hrel;have s5:=uC.1.1.1 5 _ rfl;by_cases bj:k<m;{
 have bm:=aT k m;obtain ⟨nd,aV⟩:∃ nd,ns[k]?=some nd:=⟨_,aK (by rw [aa em];exact bj)⟩;have nw:=Hs (vL id) aV;have E1:=ae (Ah (vL id) aV);obtain ⟨gn,P,V,H,U,rfl,-,-,-,-,-,-,-,-,-,c7,-,-,-,tU,yj⟩:=bS.at Es nw;obtain ⟨pu,cu,rfl⟩:=tU.gD;obtain ⟨nu,eU⟩:=aL nd.watchers.length;have IY:nu<=1048576:=by rw [<-aa eU];exact (aa hNB nd (aF aV)).2.1
 rw [aa eU] at tU c7;have HK:=ae nw;have yE:B<=gn:=(Es.lt gn rfl).1;have Rg:gn<wr.heap.size:=(Es.lt gn rfl).2;have xw:¬ w.heap.size=gn:=fun e=>by obtain ⟨-,cur,h1⟩:=uC.1;obtain ⟨xL,h2⟩:=Es.nJ gn rfl;rw [e,h2] at h1;simp at h1
 obtain ⟨vA,aX⟩:=ax wr.drew;have cI:=dG aX;have zA:=cI.size;have GA:=ae (fun (v:World) (hv:Bw vA v)=>ag (af s5 (ah cI hv)) (ag (af c7 (ah cI hv)) (ag (fun o=>((ah cI hv).frozen (p:=⟨gn,o,none⟩) Rg).trans (yj o)) (ah cI hv))));have UA:=ae (tU.fr (al cI));clear aV nw tU c7 yj;go_wp2_with fail;refine bO (fun w'=>w'.cell? ⟨w.heap.size,5,none⟩=some (.S (some ⟨gn,0,none⟩) m d)) (by rw [<-aX];exact (aa GA vA aJ).1) fun hS=>?_;rw [<-aX] at hS ⊢;clear aX cI s5;refine gy 0 1 2 3 4 5 6 7 hS ?_;refine tn 9 hS ?_;refine bH 8 fun KK hK=>?_;have c7:=(aa GA _ aJ).2.1;go_simp;refine cg hK (by exact (aa GA _ aJ).1) fun hS=>?_;clear hK KK c7;refine bH 10 fun KK hK=>?_;refine lD (pZ pu cu nu nd.watchers eU id vA UA.1 IY) ?_;rintro r v1 ⟨pl,cl,rfl,ol,bq⟩;refine ⟨_,rfl,?_⟩;obtain ⟨nl,je⟩:=aL (lQ nd.watchers id).length;rw [aa je] at ol ⊢;have OL:=ae (ol.tu (B':=B) (by omega));have jN:=ae bq;refine cg hK (by exact (aa GA v1 bq).1) fun hS=>?_;clear hK KK ol bq;refine fe 11 12 hS ?_;refine bH 13 fun KK hK=>?_;obtain ⟨s5,c7,fz,bv⟩:=aa GA v1 jN;have fz7:=fz (k*8+7);have Xj:=ae bv;clear bv;go_simp;obtain ⟨N2,F2⟩:=bS.put (Es.fr (al Xj)) HK (j:=7) (by omega) (.S pl nl cl) (vL id nd) (fun w' P V H U h1 h2 h3 h4 hf=>⟨P,V,H,.S pl nl cl,rfl,h1,h2,h3,OL.fr hf⟩);rw [<-aa E1] at N2;obtain ⟨Z,hZ⟩:=ax (v1.setCell ⟨gn,k*8+7,none⟩ (.S pl nl cl));have BZ:Below B w Z:=by rw [hZ];exact (js.trans (Xj.mono (by have:=js.size;omega))).setCell (p:=⟨gn,_,none⟩) yE _
 have sZ:Z.cell? ⟨w.heap.size,5,none⟩=some (.S (some ⟨gn,0,none⟩) m d):=by rw [hZ];exact (ai (dF _ _ _ _ xw) _).trans s5
 rw [<-hZ] at N2 F2 ⊢;have RZ:=ae (ag N2 (ag F2 BZ));have zv:=Xj.size;have zZ:w.heap.size+2<=Z.heap.size:=by have:=F2.1;omega
 refine cg hK (by exact sZ) fun hS=>?_;clear hK KK hZ N2 F2 BZ sZ s5 c7 fz fz7;refine bu ?_;clear hS;go_wp2;go_roundw
 case rel=>exact ⟨k+1,by omega,by go_num,zZ,RZ.1,(ri.fr (al (aa Xj))).fr RZ.2.1,⟨(uC.1.below (aa Xj)).fr RZ.2.1,(uC.2.below (aa Xj)).fr RZ.2.1⟩,(sY.trans (Fr.below (aa Xj))).trans (RZ.2.1.sub (by simp)),RZ.2.2⟩
 case measure=>simp [intOf];omega}
 {
 have bm:=dy k m;have Pg:=aa Es;rw [DU _ (by rw [aa em];omega)] at Pg;have Il:=ae Pg;clear Pg;obtain ⟨DF,eF⟩:=aL (cA id m 0 ⟨e,g,x,t,ss,ns.map (vL id)⟩);have Xe:Hid (D={ DF with ss:=IJ id DF.ss }):=by show _=_;rw [<-aa eD];unfold gv;simp only [aa em];rw [aa eF]
 go_wp2
 go_loopw [6] (fun kv wr=>∃ (k mk dk:Nat) (qk:Option Addr) (EP:List aY) (Tf:List aD) (Qk:List Value),k<=mk/\mk<=m/\kv=.I k/\w.heap.size+2<=wr.heap.size/\Hid (EP.length=n)/\Hid (Tf.length=mk)/\Hid (NB Tf)/\Hid (cA id (mk-k) k ⟨e,g,x,t,EP,Tf⟩=DF)/\Hid (lX B wr (.S qk mk dk) Tf)/\Hid (dJ B wr (.S p n c) EP Qk)/\Hid (BX wr w.heap.size [.U e,.U g,.U x,.I t,.S p n c,.S qk mk dk]/\BX wr (w.heap.size+1) [.U 0,.U 0,.U 0,.I 0,.S none 0 0,.S none 0 0])/\Hid (Fr [49,35,38] w wr)/\Hid (Below B w wr)) (fun kv wr=>LG w.heap.size wr-(intOf kv).toNat)
 case atStart=>exact ⟨0,m,d,q,ss,_,Qs,Nat.zero_le _,Nat.le_refl _,rfl,zr,en,ae (by rw [List.length_map];exact aa em),ae (hNB.map id),eF,Il,ri,uC,sY,js⟩
 case round =>(
 clear Es ri uC sY js Il s5 zr hk bj bm;obtain ⟨k,mk,dk,qk,EP,Tf,Qk,hk,hmk,rfl,zr,Yz,R6,af4,eK,Es,ri,uC,sY,js⟩:=hrel;have hlen:=ae (wV uC.1);obtain ⟨k0,k1,k2,k3,k4,k5,kf⟩:=uC.1.cells;by_cases bj:k<mk;{
 have bm:=aT k mk;obtain ⟨nd,aV⟩:∃ nd,Tf[k]?=some nd:=⟨_,aK (by rw [aa R6];exact bj)⟩;have hb:=aa af4 nd (aF aV);obtain ⟨yS,Qy,iR,hd,l1,l2,nw,ho1,Mi⟩:=DY (e:=e) (g:=g) (x:=x) (t:=t) (ss:=EP) aV id;have Pm:=aa eK;rw [uG bj hd nw] at Pm;obtain ⟨gn,-,-,-,-,rfl,-,-,-⟩:=bS.at Es aV;have bq:=hb.1;have bk:=hb.2.1;have dA:=hb.2.2;have HD:=ae (DX e g x t p n c (some ⟨gn,0,none⟩) mk dk EP Qk Tf Yz k id nd (ae aV) B wr ri Es (by omega) hn (by omega) bq bk dA);rw [hd] at HD;have HX1:=ae (ag l1 (ag l2 (ag nw (ag (Mi (aa af4)) Pm))));clear aV hb bq bk dA hd l1 l2 nw ho1 Mi Pm;go_wp2_with fail;refine HD.mono ?_;rintro r w1 ⟨rfl,⟨Q1,MM⟩,Pg,yF,bq⟩;obtain ⟨l1,l2,nw,Mi,Pm⟩:=aa HX1;have bW3:=ae MM;have bX0:=ae Pg;obtain ⟨J8,-,-,-,-,eg,-,-,-,-,c2,-⟩:=bS.at Pg nw;obtain ⟨rfl,-⟩:=jf eg;have qw:=ae (ag (uC.1.fr yF) (uC.2.fr yF));have F1:=ae (sY.trans yF);have B1:=ae (js.trans bq);have z1:w.heap.size+2<=w1.heap.size:=by have:=yF.1;omega
 have xw:¬ w.heap.size=gn:=fun e=>by obtain ⟨-,cur,h1⟩:=uC.1;obtain ⟨xL,h2⟩:=Es.nJ gn rfl;rw [e,h2] at h1;simp at h1
 have bU3:¬ gn=w.heap.size:=fun e=>xw e.symm;obtain ⟨X,hX⟩:=ax (bg w1 w.heap.size (.U e) (.U g) (.U x) (.I t) (.S p n c) (.S (some ⟨gn,0,none⟩) mk dk));obtain ⟨fX,bX,gX⟩:=qw.1.fin F1 B1 aA hB (.U e) (.U g) (.U x) (.I t) (.S p n c) (.S (some ⟨gn,0,none⟩) mk dk);have BXX:=ag (qw.1.put (.U e) (.U g) (.U x) (.I t) (.S p n c) (.S (some ⟨gn,0,none⟩) mk dk)) (qw.2.rj (b:=w.heap.size) (by omega) (.U e) (.U g) (.U x) (.I t) (.S p n c) (.S (some ⟨gn,0,none⟩) mk dk));have zX:X.heap.size=w1.heap.size:=by rw [hX];exact pr _ _ _ _ _ _ _ _
 rw [<-hX] at fX bX gX BXX;have SX:=ae (MM.fr gX);have NX:=ae (bS.fr Pg gX);have SK:=ae (ag fX (ag bX BXX));unfold bg at hX;clear k0 k1 k2 k3 k4 k5 kf;obtain ⟨k0,k1,k2,k3,k4,k5,kf⟩:=qw.1.cells;have Pr:=ae (ag l1 (ag l2 Mi));have HK1:=ae nw;have EK2:=ae Pm;clear MM Pg yF bq nw Pm HX1 HD l1 l2 Mi fX bX gX BXX;by_cases Tm:iR.owner=id;{
 have Ho:(iR.owner==id)=true:=by simp [Tm]
 have Xc:=aa EK2;rw [if_pos Tm,vY (aa HK1),AH] at Xc;have EK3:=ae Xc;have hb:=Pr.2.2 iR (aF (aa HK1));have HT:=ae (rD e g x t p n c (some ⟨gn,0,none⟩) mk dk yS Q1 Qy (ae (Pr.1.trans Yz)) k 2 iR HK1 B X SX NX (by omega) hn (by omega) hb.1 hb.2.1);clear Xc hb Tm;go_wp2_with fail;rw [<-hX];clear hX Ho c2 k0 k1 k2 k3 k4 k5 kf;refine HT.mono ?_;rintro r w2 ⟨rfl,⟨Q2,Er⟩,Et,Bj,bk⟩;have Kj:=ae (ag (SK.2.2.1.fr Bj) (SK.2.2.2.fr Bj));have F2:=ae (SK.1.trans Bj);have B2:=ae (SK.2.1.trans bk);have z2:w.heap.size+2<=w2.heap.size:=by have:=Bj.1;omega
 obtain ⟨Y,hY⟩:=ax (bg w2 w.heap.size (.U e) (.U g) (.U x) (.I t) (.S p n c) (.S (some ⟨gn,0,none⟩) mk dk));obtain ⟨fY,bY,gY⟩:=Kj.1.fin F2 B2 aA hB (.U e) (.U g) (.U x) (.I t) (.S p n c) (.S (some ⟨gn,0,none⟩) mk dk);have PH:=ag (Kj.1.put (.U e) (.U g) (.U x) (.I t) (.S p n c) (.S (some ⟨gn,0,none⟩) mk dk)) (Kj.2.rj (b:=w.heap.size) (by omega) (.U e) (.U g) (.U x) (.I t) (.S p n c) (.S (some ⟨gn,0,none⟩) mk dk));have zY:Y.heap.size=w2.heap.size:=by rw [hY];exact pr _ _ _ _ _ _ _ _
 rw [<-hY] at fY bY gY PH;have SY:=ae (Er.fr gY);have NY:=ae (bS.fr Et gY);have HYY:=ae (ag fY (ag bY PH));unfold bg at hY;obtain ⟨k0,k1,k2,k3,k4,k5,kf⟩:=Kj.1.cells;have HR:=ae (qD e g x t p n c (some ⟨gn,0,none⟩) mk dk _ (ae (by rw [List.length_set];exact Pr.2.1.trans (aa R6))) k B Y NY (by omega));clear Er Et Bj bk fY bY gY PH HT SX NX SK;go_wp2_with fail;rw [<-hY];clear hY k0 k1 k2 k3 k4 k5 kf;refine HR.mono ?_;rintro r w3 ⟨p3,c3,rfl,zS,dA⟩;obtain ⟨ZC,No⟩:∃ ZC,Hid ((Qy.set k { iR with watchers:=[] }).eraseIdx k=ZC):=⟨_,ae rfl⟩;have Vq:Hid (ZC.length=mk-1):=by show _=_;have h1:=Pr.2.1.trans R6;rw [<-aa No,List.length_eraseIdx,List.length_set,if_pos (by omega)];omega
 rw [aa No,aa Vq] at zS;rw [aa No,aa Vq];have EK4:=aa EK3;simp only [aa No] at EK4;have BX3:=ae (ag (HYY.2.2.1.below dA) (HYY.2.2.2.below dA));have F3:=ae (HYY.1.trans (Fr.below dA));have B3:=ae (HYY.2.1.trans (dA.mono (by omega)));have z3:=dA.size;obtain ⟨Z,hZ⟩:=ax (bg w3 w.heap.size (.U e) (.U g) (.U x) (.I t) (.S p n c) (.S p3 (mk-1) c3));obtain ⟨fZ,bZ,gZ⟩:=BX3.1.fin F3 B3 aA hB (.U e) (.U g) (.U x) (.I t) (.S p n c) (.S p3 (mk-1) c3);have XV:=ag (BX3.1.put (.U e) (.U g) (.U x) (.I t) (.S p n c) (.S p3 (mk-1) c3)) (BX3.2.rj (b:=w.heap.size) (by omega) (.U e) (.U g) (.U x) (.I t) (.S p n c) (.S p3 (mk-1) c3));have zZ:Z.heap.size=w3.heap.size:=by rw [hZ];exact pr _ _ _ _ _ _ _ _
 rw [<-hZ] at fZ bZ gZ XV;have SZ:=ae ((SY.fr (al dA)).fr gZ);have NZ:=ae ((bS.fr zS gZ).mono (by omega:B<=Y.heap.size));have YG:=ae (ag fZ (ag bZ XV));have aG3:=ae (wV XV.1);have aK7:Hid (NB ZC):=by show NB _;rw [<-aa No];have hb:=Pr.2.2 iR (aF (aa HK1));exact (NB.set (nd:={ iR with watchers:=[] }) Pr.2.2 ⟨hb.1,Nat.zero_le _,hb.2.2⟩).erase k
 have EK5:=ae EK4;have aG5:Hid ((fN yS iR.watchers (2,iR.path)).length=n):=by show _=_;rw [l8];exact Pr.1.trans (aa Yz)
 unfold bg at hZ;obtain ⟨k0,k1,k2,k3,k4,k5,kf⟩:=BX3.1.cells;clear zS dA fZ bZ gZ XV HR SY NY HYY EK4;go_wp2;rw [<-hZ];clear hZ k0 k1 k2 k3 k4 k5 kf;go_roundw
 case rel=>exact ⟨k,mk-1,c3,p3,_,ZC,Q2,by omega,by omega,rfl,by omega,aG5,Vq,aK7,EK5,NZ,SZ,ae YG.2.2,ae YG.1,ae YG.2.1⟩
 case measure =>(
 rw [aa aG3,aa hlen];simp [intOf];omega)}
 {
 have Ho:(iR.owner==id)=false:=by simp [Tm]
 have Xc:=aa EK2;rw [if_neg Tm] at Xc;have EK3:=ae Xc;have aG4:=ae (wV SK.2.2.1);clear Xc Tm;go_wp2;rw [<-hX];clear hX Ho c2 k0 k1 k2 k3 k4 k5 kf;go_roundw
 case rel=>exact ⟨k+1,mk,dk,_,yS,Qy,Q1,by omega,by omega,by go_num,by omega,ae (Pr.1.trans Yz),ae (Pr.2.1.trans R6),ae (Pr.2.2),EK3,NX,SX,ae SK.2.2,ae SK.1,ae SK.2.1⟩
 case measure =>(
 rw [aa aG4,aa hlen];simp [intOf];omega)}}
 {
 have bm:=dy k mk;have Pm:=aa eK;rw [show mk-k=0 by omega,cA] at Pm;have eD3:Hid (D=⟨e,g,x,t,IJ id EP,Tf⟩):=by show _=_;rw [aa Xe,<-Pm]
 clear Pm Xe eK;obtain ⟨W5,eW5⟩:∃ W5,Hid (W5=wr):=⟨_,ae rfl⟩;obtain ⟨wz,ewz⟩:∃ wz,Hid (wz=W5.heap.size):=⟨_,ae rfl⟩;have H5:=ag (aa ri) (ag (aa Es) (ag (aa uC) (ag (aa sY) (aa js))));have z5:=zr;rw [<-aa eW5] at H5 z5;rw [<-aa ewz] at z5;have G5:=ae H5;clear H5;go_wp2
 go_loopw [7,8] (fun lv iv w9=>∃ (j nl cl:Nat) (pl:Option Addr) (L:List (aY × Value)),j<=n/\iv=.I j/\lv=.S pl nl cl/\wz<=w9.heap.size/\Hid (L.length=nl)/\Hid ((((EP.zip Qk).take j).filter fun z=>!(z.1.1==id))=L)/\Hid (RT ll 35 3 wz w9 (.S pl nl cl) L)/\Hid (Below wz W5 w9)) (fun _ iv _=>n-(intOf iv).toNat)
 case atStart=>exact ⟨0,0,0,none,[],Nat.zero_le _,rfl,rfl,by rw [aa ewz,aa eW5];exact Nat.le_refl _,ae rfl,ae (by simp),RT.nil _ _ _ _ _,(by show Below _ _ _;rw [aa eW5];exact Below.refl _ _)⟩
 case round =>(
 obtain ⟨j,nl,cl,pl,L,hj,rfl,rfl,z9,je,hL,hR,fo⟩:=hrel;clear k0 k1 k2 k3 k4 k5 kf ri Es uC sY js hlen zr;have ew:Bw W5 wr:=by have:=aa fo;rwa [aa ewz] at this
 have H9:=ae (ag (G5.1.fr (al ew)) (ag (G5.2.1.fr (al ew)) (ag (G5.2.2.1.1.below ew) (G5.2.2.1.2.below ew))));have xU:=ae (ag (G5.2.2.2.1.trans (Fr.below ew)) (G5.2.2.2.2.trans (ew.mono (by have:=G5.2.2.2.2.size;omega))));obtain ⟨k0,k1,k2,k3,k4,k5,kf⟩:=H9.2.2.1.cells;clear ew;by_cases bj:j<n;{
 have bm:=aT j n;obtain ⟨s,hs⟩:∃ s,EP[j]?=some s:=⟨_,aK (by rw [aa Yz];exact bj)⟩;obtain ⟨gs,Q,rfl,-,-,hQ,c0,c1,c2,sq,-⟩:=dJ.at H9.1 hs;obtain ⟨pq,cq,rfl,-⟩:=sq.form;have hz:(EP.zip Qk)[j]?=some (s,.S pq s.2.2.length cq):=by rw [List.getElem?_zip_eq_some];exact ⟨hs,hQ⟩
 have dz:=Nh hz (fun s=>!(s.1==id));rw [aa hL] at dz;have lr:=ae dz;have Q8:nl<4194304:=by have h1:=List.length_filter_le (fun z:aY × Value=>!(z.1.1==id)) ((EP.zip Qk).take j);have h2:=List.length_take_le j (EP.zip Qk);rw [aa hL,aa je] at h1;omega
 clear hs hQ sq hz dz;by_cases he:s.1=id;{
 have E1:Hid ((((EP.zip Qk).take (j+1)).filter fun z=>!(z.1.1==id))=L):=by have:=aa lr;show _=_;simpa [he] using this
 have Ho:(s.1 != id)=false:=by simp [he]
 clear he;go_wp2;go_roundw
 case rel=>exact ⟨j+1,nl,cl,pl,L,by omega,by go_num,rfl,z9,je,E1,hR,fo⟩
 case measure=>simp [intOf];omega}
 {
 have E1:Hid ((((EP.zip Qk).take (j+1)).filter fun z=>!(z.1.1==id))=L++[(s,.S pq s.2.2.length cq)]):=by have:=aa lr;show _=_;simpa [he] using this
 have Ho:(s.1 != id)=true:=by simp [he]
 obtain ⟨v3,JW,b3,z3,C3,-⟩:=aj wr #[.U s.1,.I s.2.1,.S pq s.2.2.length cq] 35;have R3:=ae (RT.fr hR (al b3) (by decide) (fun _ _ h=>h));have B3:=ae b3;have SQ:=ae C3;have yB:=ae fun b e=>(hR.lt b e).1;clear he b3 C3;go_wp2_with (at_builtin;rw [<-JW];refine gO rfl _ _ rfl wz (.S pl nl cl) L (s,.S pq s.2.2.length cq) nl je rfl (aa R3) wr.heap.size rfl rfl SQ.1 Q8 (by omega) ?_);intro p' c' w' o2 fU _;rw [<-JW] at fU;have b4:=ae ((fo.trans (B3.mono (by omega))).grown fU (by omega) yB);have O2:=ae o2;have z4:=b4.size;clear fU o2 c0 c1 c2 JW Ho k0 k1 k2 k3 k4 k5 kf;go_wp2;go_roundw
 case rel=>exact ⟨j+1,nl+1,c',p',_,by omega,by go_num,rfl,by have:=aa ewz;omega,ae (by rw [List.length_append,aa je];rfl),E1,O2,b4⟩
 case measure=>simp [intOf];omega}}
 {
 have bm:=dy j n;have hL':=aa hL;rw [List.take_of_length_le (by rw [List.length_zip,aa Yz];omega)] at hL';obtain ⟨q0,q1,q2,q3,q4,q5,qf⟩:=H9.2.2.2.cells;have SF:=dJ.filter (v':=.S pl nl cl) H9.1 (fun s=>!(s.1==id)) (by rw [hL'];exact RT.mono (aa hR) (by omega));have lF:(IJ id EP).length=nl:=by have:=SF.len;rw [hL',List.length_map,aa je] at this;exact this.symm
 have HSF:=ae SF;have HLF:=ae lF;clear SF lF hL';go_wp2;rw [aa eD3];simp only [aa HLF,aa R6];obtain ⟨fA,bA,gA⟩:=H9.2.2.1.ai0 (j:=4) xU.1 xU.2 aA hB (.S pl nl cl);obtain ⟨fB,bB,gB⟩:=(H9.2.2.2.qz (b:=w.heap.size) (j:=4) (u:=.S pl nl cl) (by omega)).fin fA bA (Nat.le_succ _) hB (.U e) (.U g) (.U x) (.I t) (.S pl nl cl) (.S qk mk dk);refine bodyPost_ret (v:=cY e g x t (.S pl nl cl) (.S qk mk dk)) (by simp [results,results105,go_sem,q0,q1,q2,q3,q4,q5]) rfl ?_;exact ⟨pl,cl,qk,dk,rfl,⟨_,(HSF.fr gA).fr gB⟩,(H9.2.1.fr gA).fr gB,fB,bB⟩})})})
abbrev gP (k i e g n:Int) (D N E:Value):Value:=.agg #[.I k,.U i,.U e,.U g,.I n,D,N,E]
abbrev ao:Value:=.S none 0 0
def RX (w:World) (b:Nat) (vs:List Value):Prop:=aq w b vs/\∃ cur,w.heap[b]?=some (.cells cur 41)
theorem RX.fr {T:List TypeId} (h:RX w b vs) (hf:Fr T w w') (ht:41∉T:=by decide):RX w' b vs:=by
 obtain ⟨h1,cur,h2⟩:=h;have h3:=hf.2 _ _ _ _ ht h2;exact ⟨h1.aS (h3.trans h2.symm),cur,h3⟩
theorem RX.below (h:RX w b vs) (hb:Bw w w'):RX w' b vs:=h.fr (al hb) (by simp)
def fg (w:World) (b:Nat) (v0 v1 v2 v3 v4 v5 v6 v7:Value):World:=((bg w b v0 v1 v2 v3 v4 v5).setCell ⟨b,6,none⟩ v6).setCell ⟨b,7,none⟩ v7
theorem aO (w:World) (b:Nat) (v0 v1 v2 v3 v4 v5 v6 v7:Value):Below b w (fg w b v0 v1 v2 v3 v4 v5 v6 v7):=((bt w b v0 v1 v2 v3 v4 v5).setCell (p:=⟨b,6,none⟩) aA _).setCell (p:=⟨b,7,none⟩) aA _
theorem RX.put {o6 o7:Value} (h:RX w b [o0,o1,o2,o3,o4,o5,o6,o7]) (v0 v1 v2 v3 v4 v5 v6 v7:Value):RX (fg w b v0 v1 v2 v3 v4 v5 v6 v7) b [v0,v1,v2,v3,v4,v5,v6,v7]/\Fr [41] w (fg w b v0 v1 v2 v3 v4 v5 v6 v7):=by
 obtain ⟨hc,cur,ht⟩:=h;have t6:=rM ⟨cur,ht⟩ (v0:=v0) (v1:=v1) (v2:=v2) (v3:=v3) (v4:=v4) (v5:=v5);have a6:=bf (j:=6) (u:=v6) t6;have a7:=bf (j:=7) (u:=v7) a6.1;exact ⟨⟨(((((((hc.dI 0 (by simp) v0).dI 1 (by simp) v1).dI 2 (by simp) v2).dI 3 (by simp) v3).dI 4 (by simp) v4).dI 5 (by simp) v5).dI 6 (by simp) v6).dI 7 (by simp) v7,a7.1⟩,((dT ht).trans a6.2).trans a7.2⟩
theorem RX.cells {v5 v6 v7:Value} (h:RX w b [v0,v1,v2,v3,v4,v5,v6,v7]):w.cell? ⟨b,0,none⟩=some v0/\w.cell? ⟨b,1,none⟩=some v1/\w.cell? ⟨b,2,none⟩=some v2/\w.cell? ⟨b,3,none⟩=some v3/\w.cell? ⟨b,4,none⟩=some v4/\w.cell? ⟨b,5,none⟩=some v5/\w.cell? ⟨b,6,none⟩=some v6/\w.cell? ⟨b,7,none⟩=some v7/\∀ o,w.frozen? ⟨b,o,none⟩=false:=
 ⟨h.1.1 0 _ rfl,h.1.1 1 _ rfl,h.1.1 2 _ rfl,h.1.1 3 _ rfl,h.1.1 4 _ rfl,h.1.1 5 _ rfl,h.1.1 6 _ rfl,h.1.1 7 _ rfl,h.1.2⟩
theorem gw (w:World) (v0 v1 v2 v3 v4 v5 v6 v7:Value):∃ W,W=w.alloc (.cells #[v0,v1,v2,v3,v4,v5,v6,v7] 41)/\Bw w W/\W.heap.size=w.heap.size+1/\RX W w.heap.size [v0,v1,v2,v3,v4,v5,v6,v7]:=by
 obtain ⟨W,h1,h2,h3,h4,h5⟩:=aj w #[v0,v1,v2,v3,v4,v5,v6,v7] 41;exact ⟨W,h1,h2,h3,h4,_,h5⟩
theorem wX (k:Int) (w:World):Calls prog 39 #[.I k] w fun r w'=>r=.returned (gP k 0 0 0 0 ao ao ao)/\Bw w w':=by
 go_enter func39,ntmps39;go_wp2;exact bodyPost_ret (v:=gP k 0 0 0 0 ao ao ao) (by simp [results,results39,go_sem]) rfl ⟨rfl,aJ.alloc aA _⟩
abbrev KU (t1 t2 t3 d1 d2:Nat) (ps:String) (k:Int):Array Oper:=#[{ dst:=some d1,op:=Op.load 27 (Operand.tmp t1),type:=27,pos:=ps,after:=#[],guard:=none },
 { dst:=some d2,op:=Op.call { callee:=Callee.value (Operand.func 39),args:=#[Operand.const (Value.int IntKind.i64 k)],argTypes:=#[3] },type:=41,pos:=ps,after:=#[],guard:=none },
 { dst:=none,op:=Op.store 27 (Operand.tmp t2) (Operand.tmp d1),type:=0,pos:=ps,after:=#[{ on:=0,ground:=Ground.data },{ on:=1,ground:=Ground.chain },{ on:=0,ground:=Ground.phase },{ on:=1,ground:=Ground.textOnly Departure.lateStoresUnsure }],guard:=none },
 { dst:=none,op:=Op.store 41 (Operand.tmp t3) (Operand.tmp d2),type:=0,pos:=ps,after:=#[{ on:=1,ground:=Ground.data },{ on:=2,ground:=Ground.chain },{ on:=0,ground:=Ground.phase },{ on:=1,ground:=Ground.phase },{ on:=2,ground:=Ground.phase }],guard:=none }]
theorem dL (i t1 t2 t3 d1 d2:Nat) (ps:String) (k:Int) {Q:Exit->Act->World->Prop} (b0 b1 b2:Nat) (e g x t:Int) (p:Option Addr) (n c:Nat) (q:Option Addr) (m d:Nat) 
  (hf:Region.free .any (KU t1 t2 t3 d1 d2 ps k) (Array.replicate 4 false) 0=true) (e1:a.tmps[t1]?.getD undef=.pointer (some ⟨b0,0,none⟩)) (e2:∀ v u,((a.put (some d1) v).put (some d2) u).tmps[t2]?.getD undef=.pointer (some ⟨b1,0,none⟩)) (e3:∀ v u,((a.put (some d1) v).put (some d2) u).tmps[d1]?.getD undef=v) (e4:∀ v u,((a.put (some d1) v).put (some d2) u).tmps[t3]?.getD undef=.pointer (some ⟨b2,0,none⟩)) (e5:∀ v u,((a.put (some d1) v).put (some d2) u).tmps[d2]?.getD undef=u)
  (h0:BX w b0 [.U e,.U g,.U x,.I t,.S p n c,.S q m d]) (h1:BX w b1 [o0,o1,o2,o3,o4,o5]) (h2:RX w b2 [r0,r1,r2,r3,r4,r5,r6,r7]) (bL:b0≠b1) (B:Nat) (vG:B<=b1) (jL:B<=b2)
  (h:∀ w',BX w' b1 [.U e,.U g,.U x,.I t,.S p n c,.S q m d]->RX w' b2 [.I k,.U 0,.U 0,.U 0,.I 0,ao,ao,ao]->Fr [27,41] w w'->Below B w w'->Q .normal ((a.put (some d1) (cY e g x t (.S p n c) (.S q m d))).put (some d2) (gP k 0 0 0 0 ao ao ao)) w') :
  Code.wp prog (Code.region i (KU t1 t2 t3 d1 d2 ps k) true) Q a w:=by
 unfold KU at hf ⊢;refine wp_region_noPanic ?_;have cI:Bw w w.drew:=aJ.drew;have H0:=ae (ag (h0.below cI) (ag (h1.below cI) (h2.below cI)));refine wp_region_held_drew (S:=fun w'=>BX w' b0 [.U e,.U g,.U x,.I t,.S p n c,.S q m d]) (by kernel_rfl) H0.1 (fun hS=>?_);obtain ⟨vA,aX⟩:=ax w.drew;rw [<-aX] at hS H0 cI ⊢;clear aX;refine wpAnyH_take (i:=0) (oi:=_) (v:=cY e g x t (.S p n c) (.S q m d)) (by simp only [List.getElem?_toArray,List.getElem?_cons_zero];rfl) (by kernel_rfl) hf (by kernel_rfl) (fun _ _ _ h=>h) (Or.inl ⟨rfl,?_⟩) hS ?_;{intro w' hw;obtain ⟨k0,k1,k2,k3,k4,k5,kf⟩:=hw.cells;go_simp};refine bH 1 fun KK hK=>?_;refine ia (wX k vA) ?_;rintro r v1 ⟨rfl,bq⟩;refine ⟨_,rfl,?_⟩;refine hK.out _ _ (hS.below bq) (fun hS=>?_);clear hK KK;have H1:=ae (ag (H0.2.1.below bq) (H0.2.2.below bq));have B1:=ae (ah cI bq);clear H0 cI bq;obtain ⟨a2,sB⟩:=ax ((a.put (some d1) (cY e g x t (.S p n c) (.S q m d))).put (some d2) (gP k 0 0 0 0 ao ao ao));refine bH 2 fun KK hK=>?_;have e2':=e2 (cY e g x t (.S p n c) (.S q m d)) (gP k 0 0 0 0 ao ao ao);have e3':=e3 (cY e g x t (.S p n c) (.S q m d)) (gP k 0 0 0 0 ao ao ao);have e4':=e4 (cY e g x t (.S p n c) (.S q m d)) (gP k 0 0 0 0 ao ao ao);have e5':=e5 (cY e g x t (.S p n c) (.S q m d)) (gP k 0 0 0 0 ao ao ao);have H2:=h;rw [<-sB] at e2' e3' e4' e5' ⊢;rw [show (a.put (some d1) (cY e g x t (.S p n c) (.S q m d))).put (some d2) (gP k 0 0 0 0 ao ao ao)=a2 from sB.symm] at H2;clear e1 e2 e3 e4 e5 h sB;obtain ⟨k0,k1,k2,k3,k4,k5,kf⟩:=H1.1.cells;go_simp;obtain ⟨X,hX⟩:=ax (bg v1 b1 (.U e) (.U g) (.U x) (.I t) (.S p n c) (.S q m d));have bX:Below b1 v1 X:=by rw [hX];exact bt _ _ _ _ _ _ _ _
 have qw:BX X b1 [.U e,.U g,.U x,.I t,.S p n c,.S q m d]:=by rw [hX];exact H1.1.put _ _ _ _ _ _
 have BX0:BX X b0 [.U e,.U g,.U x,.I t,.S p n c,.S q m d]:=by rw [hX];exact hS.rj bL _ _ _ _ _ _
 have fX:Fr [27] v1 X:=by obtain ⟨-,cur,ht⟩:=H1.1;rw [hX];exact dT ht
 have Ih:=H1.2.fr fX;unfold bg at hX;rw [<-hX];refine hK.out _ _ BX0 (fun hS=>?_);clear hK KK hX BX0 k0 k1 k2 k3 k4 k5 kf;refine bH 3 fun KK hK=>?_;obtain ⟨k0,k1,k2,k3,k4,k5,k6,k7,kf⟩:=Ih.cells;go_simp;obtain ⟨Ka,fY⟩:=Ih.put (.I k) (.U 0) (.U 0) (.U 0) (.I 0) ao ao ao;have bY:=aO X b2 (.I k) (.U 0) (.U 0) (.U 0) (.I 0) ao ao ao;obtain ⟨Y,hY⟩:=ax (fg X b2 (.I k) (.U 0) (.U 0) (.U 0) (.I 0) ao ao ao);rw [<-hY] at Ka fY bY;unfold fg bg at hY;rw [<-hY];refine hK.out _ _ (hS.fr fY) (fun hS=>?_);clear hK KK hY;refine bu ?_;exact H2 Y (qw.fr fY) Ka ((Fr.below (aa B1)).trans ((fX.sub (by simp)).trans (fY.sub (by simp)))) ((B1.mono (by have:=h1.lt;omega)).trans ((bX.mono vG).trans (bY.mono jL)))
structure RP where
 k:Int
 i:Int
 e:Int
 g:Int
 n:Int
 vK:List Int
 pY:List (List Int)
 qm:List Ev
def rp0:RP:=⟨0,0,0,0,0,[],[],[]⟩
def sV (k:Int):RP:=⟨k,0,0,0,0,[],[],[]⟩
def ik (D:SD):SD × RP:=if 50<=D.ss.length then (D,sV 11) else if 4611686018427387904<=D.x then (D,sV 12) else ({ D with x:=D.x+1,ss:=D.ss++[(D.x+1,D.t+10,[])] },{ rp0 with i:=D.x+1,n:=D.t+10 })
def aj0 (w:World) (l:List Int) (c:List Value):Prop:=∃ P,c=[P]/\TB w P l
abbrev TN (B:Nat) (w:World) (v:Value) (l:List (List Int)):Prop:=RT aj0 22 1 B w v l
def QR (B:Nat) (w w':World) (r:Ending) (D:SD) (R:RP):Prop:=∃ p c q d Dv Nv Ev Qs,r=.returned (.tuple #[cY D.e D.g D.x D.t (.S p D.ss.length c) (.S q D.ns.length d),gP R.k R.i R.e R.g R.n Dv Nv Ev])/\dJ B w' (.S p D.ss.length c) D.ss Qs/\lX B w' (.S q D.ns.length d) D.ns/\TB w' Dv R.vK/\TN B w' Nv R.pY/\mu B w' Ev R.qm/\Fr [49,35,38] w w'/\Below B w w'
theorem Fr.low {T:List TypeId} (h:Fr T w w1) (hb:Below w.heap.size w1 w'):Fr T w w':=⟨Nat.le_trans h.1 hb.size,fun b cur ty m ht hc=>(hb.block b (cF hc)).trans (h.2 b cur ty m ht hc)⟩
theorem QR.num {e g x t:Int} {p q:Option Addr} {n c m d:Nat} {ns:List aD} (en:Hid (ss.length=n)) (em:Hid (ns.length=m)) (hS:dJ B w1 (.S p n c) ss Qs) (hN:lX B w1 (.S q m d) ns) (hF:Fr [49,35,38] w w1) (hB:Below B w w1) (f:Fr [27,41] w1 w') (b:Below w.heap.size w1 w') (hle:B<=w.heap.size) (k i a h s:Int) :
  QR B w w' (.returned (.tuple #[cY e g x t (.S p n c) (.S q m d),gP k i a h s ao ao ao])) ⟨e,g,x,t,ss,ns⟩ ⟨k,i,a,h,s,[],[],[]⟩:=by
 refine ⟨p,c,q,d,ao,ao,ao,Qs,by simp only [aa en,aa em],?_,?_,TB.nil _,RT.nil _ _ _ _ _,RT.nil _ _ _ _ _,hF.low b,hB.trans (b.mono hle)⟩;{simp only [aa en];exact hS.fr f};{simp only [aa em];exact bS.fr hN f}
theorem dJ.KI {v v':Value} (h:dJ B w v ss Qs) (hf:Fr [35] w w') (I J:Int) (hr:RT ll 35 3 B w' v' (ss.zip Qs++[((I,J,[]),ao)])):dJ B w' v' (ss++[(I,J,[])]) (Qs++[ao]):=by
 have hl:=h.len;refine ⟨by simp [hl],by rw [List.zip_append hl.symm];exact hr,fun i s Q hs hq=>?_,fun i j Q Q' b jc hq qg hb=>?_⟩;{
 by_cases hi:i<ss.length;{rw [List.getElem?_append_left hi] at hs;rw [List.getElem?_append_left (by omega)] at hq;exact (h.za i s Q hs hq).fr hf};{
 have ei:i=ss.length:=by have:=(aN.1 hs).1;simp at this;omega
 subst ei;rw [List.getElem?_append_right aA,Nat.sub_self] at hs;rw [List.getElem?_append_right (by omega),hl,Nat.sub_self] at hq;simp at hs hq;subst hs hq;exact RT.nil _ _ _ _ _}};{
 by_cases hi:i<Qs.length;{
 rw [List.getElem?_append_left hi] at hq;by_cases hj:j<Qs.length;{rw [List.getElem?_append_left hj] at qg;exact h.rj i j Q Q' b jc hq qg hb};{
 rw [List.getElem?_append_right (by omega)] at qg;have e:j-Qs.length=0:=by have:=(aN.1 qg).1;simp at this;omega
 rw [e] at qg;simp at qg;subst qg;simp [Value.ownBlock]}};{
 rw [List.getElem?_append_right (by omega)] at hq;have e:i-Qs.length=0:=by have:=(aN.1 hq).1;simp at this;omega
 rw [e] at hq;simp at hq;subst hq;simp [Value.ownBlock] at hb}}
theorem pj {md:Region.Mode} {ops:Array Oper} {Q:Exit->Act->World->Prop} {S:World->Prop} {listed:Array Bool} (i5 i6 t2 t3 d1 d2:Nat) {ps Qm:String} {A5 A6:Array Edge} (iV:Region.ready md ops listed=[i5]) (hr2:Region.ready md ops (listed.setIfInBounds i5 true)=[i6]) (hr3:Region.ready md ops ((listed.setIfInBounds i5 true).setIfInBounds i6 true)=[])
  (Me:ops[i5]?=some { dst:=none,op:=Op.store 27 (Operand.tmp t2) (Operand.tmp d1),type:=0,pos:=ps,after:=A5,guard:=none }) (ho6:ops[i6]?=some { dst:=none,op:=Op.store 41 (Operand.tmp t3) (Operand.tmp d2),type:=0,pos:=Qm,after:=A6,guard:=none })
  (b1 b2:Nat) (e g x t:Int) (p:Option Addr) (n c:Nat) (q:Option Addr) (m d:Nat) (k i h s z:Int) (dp:Option Addr) (dn dc:Nat) (np:Option Addr) (nn nc:Nat) (vp:Option Addr) (vn vc:Nat) 
  (e2:a.tmps[t2]?.getD undef=.pointer (some ⟨b1,0,none⟩)) (e3:a.tmps[d1]?.getD undef=cY e g x t (.S p n c) (.S q m d)) (e4:a.tmps[t3]?.getD undef=.pointer (some ⟨b2,0,none⟩)) (e5:a.tmps[d2]?.getD undef=gP k i h s z (.S dp dn dc) (.S np nn nc) (.S vp vn vc))
  (h1:BX w b1 [o0,o1,o2,o3,o4,o5]) (h2:RX w b2 [r0,r1,r2,r3,r4,r5,r6,r7]) (WI:b1<b2) (ri:∀ w',Below b1 w w'->Fr [27,41] w w'->S w')
  (hQ:∀ w',BX w' b1 [.U e,.U g,.U x,.I t,.S p n c,.S q m d]->RX w' b2 [.I k,.U i,.U h,.U s,.I z,.S dp dn dc,.S np nn nc,.S vp vn vc]->Fr [27,41] w w'->Below b1 w w'->Q .normal a w'):wpAnyH prog md ops Q S 2 listed a w:=by
 refine wpAnyH_ready iV (by simp) ?_;refine AllReadyH.cons Me (fun KK hK=>?_) AllReadyH.nil;obtain ⟨k0,k1,k2,k3,k4,k5,kf⟩:=h1.cells;go_simp;obtain ⟨X,hX⟩:=ax (bg w b1 (.U e) (.U g) (.U x) (.I t) (.S p n c) (.S q m d));have bX:Below b1 w X:=by rw [hX];exact bt _ _ _ _ _ _ _ _
 have qw:=h1.put (.U e) (.U g) (.U x) (.I t) (.S p n c) (.S q m d);have fX:Fr [27] w X:=by obtain ⟨-,cur,ht⟩:=h1;rw [hX];exact dT ht
 rw [<-hX] at qw;have Ih:=h2.fr fX;unfold bg at hX;rw [<-hX];refine hK.out _ _ (ri X bX (fX.sub (by simp))) (fun hS=>?_);clear hK KK hX k0 k1 k2 k3 k4 k5 kf;refine wpAnyH_ready hr2 (by simp) ?_;refine AllReadyH.cons ho6 (fun KK hK=>?_) AllReadyH.nil;obtain ⟨k0,k1,k2,k3,k4,k5,k6,k7,kf⟩:=Ih.cells;go_simp;obtain ⟨Ka,fY⟩:=Ih.put (.I k) (.U i) (.U h) (.U s) (.I z) (.S dp dn dc) (.S np nn nc) (.S vp vn vc);have bY:=aO X b2 (.I k) (.U i) (.U h) (.U s) (.I z) (.S dp dn dc) (.S np nn nc) (.S vp vn vc);obtain ⟨Y,hY⟩:=ax (fg X b2 (.I k) (.U i) (.U h) (.U s) (.I z) (.S dp dn dc) (.S np nn nc) (.S vp vn vc));rw [<-hY] at Ka fY bY;unfold fg bg at hY;rw [<-hY];have bY':=bX.trans (bY.mono (Nat.le_of_lt WI));refine hK.out _ _ (ri Y bY' ((fX.sub (by simp)).trans (fY.sub (by simp)))) (fun hS=>?_);clear hK KK hY;refine wpAnyH_done hr3 ?_ _;exact hQ Y (qw.fr fY) Ka ((fX.sub (by simp)).trans (fY.sub (by simp))) bY'
def jH (nd:aD) (id:Int):Bool:=decide (nd.mode=0)||(decide (nd.holders.length=1)&&decide (nd.holders.headD 0=id))
theorem M6 (P V H U:Value) (nd:aD) (p:Option Addr) (n c:Nat) (eH:Hid (nd.holders.length=n)) (id:Int) (w:World) (tH:Hid (nH w (.S p n c) nd.holders)) (hP:P.oneCell'=true) (hV:V.oneCell'=true) (hU:U.oneCell'=true) :
  Calls prog 152 #[.agg #[P,V,.U nd.owner,.I nd.mode,.S p n c,.U nd.aB,.U nd.gen,U],.U id] w fun r w'=>r=.returned (.bool (jH nd id))/\Bw w w':=by
 go_enter func152,ntmps152;by_cases hm:nd.mode=0;{
 have hf:jH nd id=true:=by simp [jH,hm]
 rw [hf];have To:(nd.mode==0)=true:=by simp [hm]
 go_wp2;go_ret;exact ⟨rfl,aJ.alloc aA _⟩};{
 have To:(nd.mode==0)=false:=by simp [hm]
 by_cases hn:n=1;{
 obtain ⟨x,hx⟩:∃ x,nd.holders=[x]:=List.length_eq_one_iff.1 (by rw [aa eH,hn]);obtain ⟨b,o,rfl,hc⟩:=tH.at (k:=0) (x:=x) (by rw [hx];rfl);rw [Nat.add_zero] at hc;have iw:=fun ob:Obj=>af hc ((Below.refl _ w).alloc aA ob);have hf:Hid (jH nd id=decide (x=id)):=by show _=_;simp [jH,hm,hx]
 subst hn;have h1:((1:Int)==1)=true:=by decide
 by_cases hxi:x=id;{
 subst hxi;have h2:(x==x)=true:=by simp
 go_wp2;go_ret;have Bj:jH nd x=true:=by rw [aa hf];simp
 exact ⟨by rw [Bj];rfl,aJ.alloc aA _⟩};{
 have h2:(x==id)=false:=by simpa using hxi
 go_wp2;go_ret;exact ⟨by rw [aa hf,decide_eq_false hxi];rfl,aJ.alloc aA _⟩}};{
 have hf:Hid (jH nd id=false):=by show _=_;simp [jH,hm,aa eH,hn]
 have h1:((n:Int)==1)=false:=by simp;omega
 go_wp2;go_ret;exact ⟨by rw [aa hf];rfl,aJ.alloc aA _⟩}}
end Go.Proofs.YtcfcafeciggjeaaGreatDoor
