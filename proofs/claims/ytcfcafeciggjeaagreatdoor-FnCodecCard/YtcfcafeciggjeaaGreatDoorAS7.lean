import Derived.Test.YtcfcafeciggjeaaGreatDoorK24
namespace Go.Proofs.YtcfcafeciggjeaaGreatDoor
set_option maxHeartbeats 12800000
set_option linter.all false
set_option maxRecDepth 100000
open Go.ChangeShapes Go.WideShapes Go.ChangeAt Go.RowKit Go.Proofs.Tryz
theorem uG {id:Int} {m k:Nat} {D D1:SD} {nd:aD} (hk:k<m) (hd:cT D k id=D1) (hn:D1.ns[k]?=some nd):fW id (m-k) k D=if nd.owner=id then fW id (m-1-k) k (AH (cO D1 k 2) k) else fW id (m-(k+1)) (k+1) D1:=by
 obtain ⟨f,hf⟩:∃ f,m-k=f+1:=⟨m-k-1,ab⟩;rw [hf,fW,hd,hn,show m-1-k=f by omega,show m-(k+1)=f by omega]
def LG (b:Nat) (w:World):Nat:=match w.cell? ⟨b,5,none⟩ with
 | some (.slice _ m _)=>m
 | _=>0
theorem wV {b:Nat} {w:World} {v0 v1 v2 v3 v4:Value} {q:Option Addr} {m d:Nat} (h:BX w b [v0,v1,v2,v3,v4,.S q m d]):LG b w=m:=by
 unfold LG;rw [h.1.1 5 _ rfl]
theorem Jw (e g x t:Int) (p:Option Addr) (n c:Nat) (q:Option Addr) (m d:Nat) (ss:List aY) (Qs:List Value) (ns:List aD) (en:Hid (ss.length=n)) (em:Hid (ns.length=m)) (id:Int) (B:Nat) (w:World) (hS:Hid (SpS B w (.S p n c) ss Qs)) (hN:Hid (SpN B w (.S q m d) ns)) (hNB:Hid (NB ns)) (hB:B<=w.heap.size) (hn:n<=1048576) (hm:m<=1048576) (D:SD) (eD:Hid (gv ⟨e,g,x,t,ss,ns⟩ id=D)) :
  Calls prog 105 #[cY e g x t (.S p n c) (.S q m d),.U id] w fun r w'=>∃ p' c' q' d',r=.returned (cY e g x t (.S p' D.ss.length c') (.S q' D.ns.length d'))/\(∃ vP,SpS B w' (.S p' D.ss.length c') D.ss vP)/\SpN B w' (.S q' D.ns.length d') D.ns/\Fr [49,35,38] w w'/\Below B w w':=by
 obtain ⟨W0,dh,b0,z0,C0⟩:=ft w (.U e) (.U g) (.U x) (.I t) (.S p n c) (.S q m d);obtain ⟨W1,iM,b1,z1,C1⟩:=iq W0;rw [z0] at C1;have HC:=ae (ag (C0.below b1) C1);have bW:=ae (ah b0 b1);have zW:W1.heap.size=w.heap.size+2:=ab;clear b0 b1 C0 C1 z0 z1;go_enter func105,ntmps105;go_wp2;rw [<-dh,<-iM];clear dh iM
 go_loopw [5] (fun kv wr=>∃ k:Nat,k<=m/\kv=.I k/\w.heap.size+2<=wr.heap.size/\Hid (SpN B wr (.S q m d) (jI (vL id) k ns))/\Hid (SpS B wr (.S p n c) ss Qs)/\Hid (BX wr w.heap.size [.U e,.U g,.U x,.I t,.S p n c,.S q m d]/\BX wr (w.heap.size+1) [.U 0,.U 0,.U 0,.I 0,.S none 0 0,.S none 0 0])/\Hid (Fr [49,35,38] w wr)/\Hid (Below B w wr)) (fun kv _=>m-(intOf kv).toNat)
 case atStart=>exact ⟨0,Nat.zero_le _,rfl,ab,(by show SpN _ _ _ _;simpa [jI] using hN.fr (al (aa bW))),hS.fr (al (aa bW)),aa HC,Fr.below (aa bW),bW.mono hB⟩
 case round =>(
 obtain ⟨k,hk,rfl,zr,Es,ri,uC,sY,js⟩:=hrel;have s5:=uC.1.1.1 5 _ rfl;by_cases bj:k<m;{
 have da:=aT k m;obtain ⟨nd,aV⟩:∃ nd,ns[k]?=some nd:=⟨_,aK (by rw [aa em];exact bj)⟩;have nw:=Hs (vL id) aV;have E1:=ae (Ah (vL id) aV);obtain ⟨gn,P,V,H,U,rfl,-,-,-,-,-,-,-,-,-,c7,-,-,-,tU,yj⟩:=bS.at Es nw;obtain ⟨pu,cu,rfl⟩:=tU.gD;obtain ⟨nu,eU⟩:=aL nd.watchers.length;have IY:nu<=1048576:=by rw [<-aa eU];exact (aa hNB nd (aF aV)).2.1
 rw [aa eU] at tU c7;have HK:=ae nw;have yE:B<=gn:=(Es.lt gn rfl).1;have Rg:gn<wr.heap.size:=(Es.lt gn rfl).2;have xw:¬ w.heap.size=gn:=fun e=>by obtain ⟨-,cur,h1⟩:=uC.1;obtain ⟨xL,h2⟩:=Es.nJ gn rfl;rw [e,h2] at h1;simp at h1
 obtain ⟨vA,aX⟩:=ax wr.drew;have cI:=dG aX;have zA:=cI.size;have GA:=ae (fun (v:World) (hv:Bw vA v)=>ag (af s5 (ah cI hv)) (ag (af c7 (ah cI hv)) (ag (fun o=>((ah cI hv).frozen (p:=⟨gn,o,none⟩) Rg).trans (yj o)) (ah cI hv))));have UA:=ae (tU.fr (al cI));clear aV nw tU c7 yj;go_wp2_with fail;refine bO (fun w'=>w'.cell? ⟨w.heap.size,5,none⟩=some (.S (some ⟨gn,0,none⟩) m d)) (by rw [<-aX];exact (aa GA vA aJ).1) fun hS=>?_;rw [<-aX] at hS ⊢;clear aX cI s5;refine gy 0 1 2 3 4 5 6 7 hS ?_;refine tn 9 hS ?_;refine bH 8 fun KK hK=>?_;have c7:=(aa GA _ aJ).2.1;go_simp;refine cg hK (by exact (aa GA _ aJ).1) fun hS=>?_;clear hK KK c7;refine bH 10 fun KK hK=>?_;refine rz (pZ pu cu nu nd.watchers eU id vA UA.1 IY) ?_;rintro r v1 ⟨pl,cl,rfl,ol,bq⟩;refine ⟨_,rfl,?_⟩;obtain ⟨nl,je⟩:=aL (lQ nd.watchers id).length;rw [aa je] at ol ⊢;have OL:=ae (ol.tu (B':=B) ab);have jN:=ae bq;refine cg hK (by exact (aa GA v1 bq).1) fun hS=>?_;clear hK KK ol bq;refine fe 11 12 hS ?_;refine bH 13 fun KK hK=>?_;obtain ⟨s5,c7,fz,bv⟩:=aa GA v1 jN;have fz7:=fz (k*8+7);have Xj:=ae bv;clear bv;go_simp;obtain ⟨N2,F2⟩:=bS.put (Es.fr (al Xj)) HK (j:=7) ab (.S pl nl cl) (vL id nd) (fun w' P V H U h1 h2 h3 h4 hf=>⟨P,V,H,.S pl nl cl,rfl,h1,h2,h3,OL.fr hf⟩);rw [<-aa E1] at N2;obtain ⟨Z,hZ⟩:=ax (v1.setCell ⟨gn,k*8+7,none⟩ (.S pl nl cl));have BZ:Below B w Z:=by rw [hZ];exact (js.trans (Xj.mono (by have:=js.size;omega))).setCell (p:=⟨gn,_,none⟩) yE _
 have sZ:Z.cell? ⟨w.heap.size,5,none⟩=some (.S (some ⟨gn,0,none⟩) m d):=by rw [hZ];exact (ai (dF _ _ _ _ xw) _).trans s5
 rw [<-hZ] at N2 F2 ⊢;have RZ:=ae (ag N2 (ag F2 BZ));have zv:=Xj.size;have zZ:w.heap.size+2<=Z.heap.size:=by have:=F2.1;omega
 refine cg hK (by exact sZ) fun hS=>?_;clear hK KK hZ N2 F2 BZ sZ s5 c7 fz fz7;refine bu ?_;clear hS;go_wp2;go_roundw
 case rel=>exact ⟨k+1,ab,by go_num,zZ,RZ.1,(ri.fr (al (aa Xj))).fr RZ.2.1,⟨(uC.1.below (aa Xj)).fr RZ.2.1,(uC.2.below (aa Xj)).fr RZ.2.1⟩,(sY.trans (Fr.below (aa Xj))).trans (RZ.2.1.sub aU),RZ.2.2⟩
 exact dC};{
 have da:=dy k m;have Pg:=aa Es;rw [DU _ (by rw [aa em];omega)] at Pg;have Il:=ae Pg;clear Pg;obtain ⟨DF,eF⟩:=aL (fW id m 0 ⟨e,g,x,t,ss,ns.map (vL id)⟩);have Xe:Hid (D={ DF with ss:=IJ id DF.ss }):=by show _=_;rw [<-aa eD];unfold gv;simp only [aa em];rw [aa eF]
 go_wp2
 go_loopw [6] (fun kv wr=>∃ (k mk dk:Nat) (qk:Option Addr) (EP:List aY) (Tf:List aD) (Qk:List Value),k<=mk/\mk<=m/\kv=.I k/\w.heap.size+2<=wr.heap.size/\Hid (EP.length=n)/\Hid (Tf.length=mk)/\Hid (NB Tf)/\Hid (fW id (mk-k) k ⟨e,g,x,t,EP,Tf⟩=DF)/\Hid (SpN B wr (.S qk mk dk) Tf)/\Hid (SpS B wr (.S p n c) EP Qk)/\Hid (BX wr w.heap.size [.U e,.U g,.U x,.I t,.S p n c,.S qk mk dk]/\BX wr (w.heap.size+1) [.U 0,.U 0,.U 0,.I 0,.S none 0 0,.S none 0 0])/\Hid (Fr [49,35,38] w wr)/\Hid (Below B w wr)) (fun kv wr=>LG w.heap.size wr-(intOf kv).toNat)
 case atStart=>exact ⟨0,m,d,q,ss,_,Qs,Nat.zero_le _,Nat.le_refl _,rfl,zr,en,ae (by rw [List.length_map];exact aa em),ae (hNB.map id),eF,Il,ri,uC,sY,js⟩
 case round =>(
 clear Es ri uC sY js Il s5 zr hk bj da;obtain ⟨k,mk,dk,qk,EP,Tf,Qk,hk,hmk,rfl,zr,Yz,enk,af4,eK,Es,ri,uC,sY,js⟩:=hrel;have hlen:=ae (wV uC.1);obtain ⟨k0,k1,k2,k3,k4,k5,kf⟩:=uC.1.cells;by_cases bj:k<mk;{
 have da:=aT k mk;obtain ⟨nd,aV⟩:∃ nd,Tf[k]?=some nd:=⟨_,aK (by rw [aa enk];exact bj)⟩;have hb:=aa af4 nd (aF aV);obtain ⟨yS,Qy,iR,hd,l1,l2,nw,ho1,Mi⟩:=DY (e:=e) (g:=g) (x:=x) (t:=t) (ss:=EP) aV id;have Pm:=aa eK;rw [uG bj hd nw] at Pm;obtain ⟨gn,-,-,-,-,rfl,-,-,-⟩:=bS.at Es aV;have bq:=hb.1;have cX:=hb.2.1;have de:=hb.2.2;have HD:=ae (DX e g x t p n c (some ⟨gn,0,none⟩) mk dk EP Qk Tf Yz k id nd (ae aV) B wr ri Es ab hn ab bq cX de);rw [hd] at HD;have HX1:=ae (ag l1 (ag l2 (ag nw (ag (Mi (aa af4)) Pm))));clear aV hb bq cX de hd l1 l2 nw ho1 Mi Pm;go_wp2_with fail;refine HD.mono ?_;rintro r w1 ⟨rfl,⟨Q1,MM⟩,Pg,yF,bq⟩;obtain ⟨l1,l2,nw,Mi,Pm⟩:=aa HX1;have bW3:=ae MM;have bX0:=ae Pg;obtain ⟨U4,-,-,-,-,eg,-,-,-,-,c2,-⟩:=bS.at Pg nw;obtain ⟨rfl,-⟩:=jf eg;have qw:=ae (ag (uC.1.fr yF) (uC.2.fr yF));have F1:=ae (sY.trans yF);have B1:=ae (js.trans bq);have z1:w.heap.size+2<=w1.heap.size:=by have:=yF.1;omega
 have xw:¬ w.heap.size=gn:=fun e=>by obtain ⟨-,cur,h1⟩:=uC.1;obtain ⟨xL,h2⟩:=Es.nJ gn rfl;rw [e,h2] at h1;simp at h1
 have bU3:¬ gn=w.heap.size:=fun e=>xw e.symm;obtain ⟨X,hX⟩:=ax (bg w1 w.heap.size (.U e) (.U g) (.U x) (.I t) (.S p n c) (.S (some ⟨gn,0,none⟩) mk dk));obtain ⟨fX,bX,gX⟩:=qw.1.fin F1 B1 aA hB (.U e) (.U g) (.U x) (.I t) (.S p n c) (.S (some ⟨gn,0,none⟩) mk dk);have BXX:=ag (qw.1.put (.U e) (.U g) (.U x) (.I t) (.S p n c) (.S (some ⟨gn,0,none⟩) mk dk)) (qw.2.rj (b:=w.heap.size) ab (.U e) (.U g) (.U x) (.I t) (.S p n c) (.S (some ⟨gn,0,none⟩) mk dk));have zX:X.heap.size=w1.heap.size:=by rw [hX];exact uE _ _ _ _ _ _ _ _
 rw [<-hX] at fX bX gX BXX;have SX:=ae (MM.fr gX);have NX:=ae (bS.fr Pg gX);have SK:=ae (ag fX (ag bX BXX));unfold bg at hX;clear k0 k1 k2 k3 k4 k5 kf;obtain ⟨k0,k1,k2,k3,k4,k5,kf⟩:=qw.1.cells;have Pr:=ae (ag l1 (ag l2 Mi));have Uw:=ae nw;have EK2:=ae Pm;clear MM Pg yF bq nw Pm HX1 HD l1 l2 Mi fX bX gX BXX;by_cases Tm:iR.owner=id;{
 have Ho:(iR.owner==id)=true:=by simp [Tm]
 have Xc:=aa EK2;rw [if_pos Tm,vY (aa Uw),AH] at Xc;have EK3:=ae Xc;have hb:=Pr.2.2 iR (aF (aa Uw));have HT:=ae (xD e g x t p n c (some ⟨gn,0,none⟩) mk dk yS Q1 Qy (ae (Pr.1.trans Yz)) k 2 iR Uw B X SX NX ab hn ab hb.1 hb.2.1);clear Xc hb Tm;go_wp2_with fail;rw [<-hX];clear hX Ho c2 k0 k1 k2 k3 k4 k5 kf;refine HT.mono ?_;rintro r w2 ⟨rfl,⟨Q2,Er⟩,Et,Bj,cX⟩;have Kj:=ae (ag (SK.2.2.1.fr Bj) (SK.2.2.2.fr Bj));have F2:=ae (SK.1.trans Bj);have B2:=ae (SK.2.1.trans cX);have z2:w.heap.size+2<=w2.heap.size:=by have:=Bj.1;omega
 obtain ⟨Y,hY⟩:=ax (bg w2 w.heap.size (.U e) (.U g) (.U x) (.I t) (.S p n c) (.S (some ⟨gn,0,none⟩) mk dk));obtain ⟨fY,bY,gY⟩:=Kj.1.fin F2 B2 aA hB (.U e) (.U g) (.U x) (.I t) (.S p n c) (.S (some ⟨gn,0,none⟩) mk dk);have BXY:=ag (Kj.1.put (.U e) (.U g) (.U x) (.I t) (.S p n c) (.S (some ⟨gn,0,none⟩) mk dk)) (Kj.2.rj (b:=w.heap.size) ab (.U e) (.U g) (.U x) (.I t) (.S p n c) (.S (some ⟨gn,0,none⟩) mk dk));have zY:Y.heap.size=w2.heap.size:=by rw [hY];exact uE _ _ _ _ _ _ _ _
 rw [<-hY] at fY bY gY BXY;have SY:=ae (Er.fr gY);have NY:=ae (bS.fr Et gY);have HYY:=ae (ag fY (ag bY BXY));unfold bg at hY;obtain ⟨k0,k1,k2,k3,k4,k5,kf⟩:=Kj.1.cells;have HR:=ae (qD e g x t p n c (some ⟨gn,0,none⟩) mk dk _ (ae (by rw [List.length_set];exact Pr.2.1.trans (aa enk))) k B Y NY ab);clear Er Et Bj cX fY bY gY BXY HT SX NX SK;go_wp2_with fail;rw [<-hY];clear hY k0 k1 k2 k3 k4 k5 kf;refine HR.mono ?_;rintro r w3 ⟨p3,c3,rfl,zS,de⟩;obtain ⟨ZC,No⟩:∃ ZC,Hid ((Qy.set k { iR with watchers:=[] }).eraseIdx k=ZC):=⟨_,ae rfl⟩;have Vq:Hid (ZC.length=mk-1):=by show _=_;have h1:=Pr.2.1.trans enk;rw [<-aa No,List.length_eraseIdx,List.length_set,if_pos ab];omega
 rw [aa No,aa Vq] at zS;rw [aa No,aa Vq];have EK4:=aa EK3;simp only [aa No] at EK4;have BX3:=ae (ag (HYY.2.2.1.below de) (HYY.2.2.2.below de));have F3:=ae (HYY.1.trans (Fr.below de));have B3:=ae (HYY.2.1.trans (de.mono ab));have z3:=de.size;obtain ⟨Z,hZ⟩:=ax (bg w3 w.heap.size (.U e) (.U g) (.U x) (.I t) (.S p n c) (.S p3 (mk-1) c3));obtain ⟨fZ,bZ,gZ⟩:=BX3.1.fin F3 B3 aA hB (.U e) (.U g) (.U x) (.I t) (.S p n c) (.S p3 (mk-1) c3);have XV:=ag (BX3.1.put (.U e) (.U g) (.U x) (.I t) (.S p n c) (.S p3 (mk-1) c3)) (BX3.2.rj (b:=w.heap.size) ab (.U e) (.U g) (.U x) (.I t) (.S p n c) (.S p3 (mk-1) c3));have zZ:Z.heap.size=w3.heap.size:=by rw [hZ];exact uE _ _ _ _ _ _ _ _
 rw [<-hZ] at fZ bZ gZ XV;have SZ:=ae ((SY.fr (al de)).fr gZ);have NZ:=ae ((bS.fr zS gZ).mono (by omega:B<=Y.heap.size));have YG:=ae (ag fZ (ag bZ XV));have aG3:=ae (wV XV.1);have aK7:Hid (NB ZC):=by show NB _;rw [<-aa No];have hb:=Pr.2.2 iR (aF (aa Uw));exact (NB.set (nd:={ iR with watchers:=[] }) Pr.2.2 ⟨hb.1,Nat.zero_le _,hb.2.2⟩).erase k
 have EK5:=ae EK4;have aG5:Hid ((fN yS iR.watchers (2,iR.path)).length=n):=by show _=_;rw [l8];exact Pr.1.trans (aa Yz)
 unfold bg at hZ;obtain ⟨k0,k1,k2,k3,k4,k5,kf⟩:=BX3.1.cells;clear zS de fZ bZ gZ XV HR SY NY HYY EK4;go_wp2;rw [<-hZ];clear hZ k0 k1 k2 k3 k4 k5 kf;go_roundw
 case rel=>exact ⟨k,mk-1,c3,p3,_,ZC,Q2,ab,ab,rfl,ab,aG5,Vq,aK7,EK5,NZ,SZ,ae YG.2.2,ae YG.1,ae YG.2.1⟩
 case measure =>(
 rw [aa aG3,aa hlen];simp [intOf];omega)}
 {
 have Ho:(iR.owner==id)=false:=by simp [Tm]
 have Xc:=aa EK2;rw [if_neg Tm] at Xc;have EK3:=ae Xc;have aG4:=ae (wV SK.2.2.1);clear Xc Tm;go_wp2;rw [<-hX];clear hX Ho c2 k0 k1 k2 k3 k4 k5 kf;go_roundw
 case rel=>exact ⟨k+1,mk,dk,_,yS,Qy,Q1,ab,ab,by go_num,ab,ae (Pr.1.trans Yz),ae (Pr.2.1.trans enk),ae (Pr.2.2),EK3,NX,SX,ae SK.2.2,ae SK.1,ae SK.2.1⟩
 case measure =>(
 rw [aa aG4,aa hlen];simp [intOf];omega)}}
 {
 have da:=dy k mk;have Pm:=aa eK;rw [show mk-k=0 by omega,fW] at Pm;have eD3:Hid (D=⟨e,g,x,t,IJ id EP,Tf⟩):=by show _=_;rw [aa Xe,<-Pm]
 clear Pm Xe eK;obtain ⟨W5,eW5⟩:∃ W5,Hid (W5=wr):=⟨_,ae rfl⟩;obtain ⟨wz,ewz⟩:∃ wz,Hid (wz=W5.heap.size):=⟨_,ae rfl⟩;have H5:=ag (aa ri) (ag (aa Es) (ag (aa uC) (ag (aa sY) (aa js))));have z5:=zr;rw [<-aa eW5] at H5 z5;rw [<-aa ewz] at z5;have G5:=ae H5;clear H5;go_wp2
 go_loopw [7,8] (fun lv iv w9=>∃ (j nl cl:Nat) (pl:Option Addr) (L:List (aY × Value)),j<=n/\iv=.I j/\lv=.S pl nl cl/\wz<=w9.heap.size/\Hid (L.length=nl)/\Hid ((((EP.zip Qk).take j).filter fun z=>!(z.1.1==id))=L)/\Hid (RT r8 35 3 wz w9 (.S pl nl cl) L)/\Hid (Below wz W5 w9)) (fun _ iv _=>n-(intOf iv).toNat)
 case atStart=>exact ⟨0,0,0,none,[],Nat.zero_le _,rfl,rfl,by rw [aa ewz,aa eW5];exact Nat.le_refl _,ae rfl,ae aU,RT.nil _ _ _ _ _,(by show Below _ _ _;rw [aa eW5];exact Below.refl _ _)⟩
 case round =>(
 obtain ⟨j,nl,cl,pl,L,hj,rfl,rfl,z9,je,hL,hR,fo⟩:=hrel;clear k0 k1 k2 k3 k4 k5 kf ri Es uC sY js hlen zr;have ew:Bw W5 wr:=by have:=aa fo;rwa [aa ewz] at this
 have H9:=ae (ag (G5.1.fr (al ew)) (ag (G5.2.1.fr (al ew)) (ag (G5.2.2.1.1.below ew) (G5.2.2.1.2.below ew))));have xU:=ae (ag (G5.2.2.2.1.trans (Fr.below ew)) (G5.2.2.2.2.trans (ew.mono (by have:=G5.2.2.2.2.size;omega))));obtain ⟨k0,k1,k2,k3,k4,k5,kf⟩:=H9.2.2.1.cells;clear ew;by_cases bj:j<n;{
 have da:=aT j n;obtain ⟨s,hs⟩:∃ s,EP[j]?=some s:=⟨_,aK (by rw [aa Yz];exact bj)⟩;obtain ⟨gs,Q,rfl,-,-,hQ,c0,c1,c2,sq,-⟩:=SpS.at H9.1 hs;obtain ⟨pq,cq,rfl,-⟩:=sq.form;have hz:(EP.zip Qk)[j]?=some (s,.S pq s.2.2.length cq):=by rw [List.getElem?_zip_eq_some];exact ⟨hs,hQ⟩
 have dz:=Nh hz (fun s=>!(s.1==id));rw [aa hL] at dz;have lr:=ae dz;have Q8:nl<4194304:=by have h1:=List.length_filter_le (fun z:aY × Value=>!(z.1.1==id)) ((EP.zip Qk).take j);have h2:=List.length_take_le j (EP.zip Qk);rw [aa hL,aa je] at h1;omega
 clear hs hQ sq hz dz;by_cases he:s.1=id;{
 have E1:Hid ((((EP.zip Qk).take (j+1)).filter fun z=>!(z.1.1==id))=L):=by have:=aa lr;show _=_;simpa [he] using this
 have Ho:(s.1 != id)=false:=by simp [he]
 clear he;go_wp2;go_roundw
 case rel=>exact ⟨j+1,nl,cl,pl,L,ab,by go_num,rfl,z9,je,E1,hR,fo⟩
 exact dC};{
 have E1:Hid ((((EP.zip Qk).take (j+1)).filter fun z=>!(z.1.1==id))=L++[(s,.S pq s.2.2.length cq)]):=by have:=aa lr;show _=_;simpa [he] using this
 have Ho:(s.1 != id)=true:=by simp [he]
 obtain ⟨v3,JW,b3,z3,C3,-⟩:=aj wr #[.U s.1,.I s.2.1,.S pq s.2.2.length cq] 35;have R3:=ae (RT.fr hR (al b3) bl (fun _ _ h=>h));have B3:=ae b3;have SQ:=ae C3;have yB:=ae fun b e=>(hR.lt b e).1;clear he b3 C3;go_wp2_with (at_builtin;rw [<-JW];refine gO rfl _ _ rfl wz (.S pl nl cl) L (s,.S pq s.2.2.length cq) nl je rfl (aa R3) wr.heap.size rfl rfl SQ.1 Q8 ab ?_);intro p' c' w' o2 fU _;rw [<-JW] at fU;have b4:=ae ((fo.trans (B3.mono ab)).grown fU ab yB);have O2:=ae o2;have z4:=b4.size;clear fU o2 c0 c1 c2 JW Ho k0 k1 k2 k3 k4 k5 kf;go_wp2;go_roundw
 case rel=>exact ⟨j+1,nl+1,c',p',_,ab,by go_num,rfl,by have:=aa ewz;omega,ae (by rw [List.length_append,aa je];rfl),E1,O2,b4⟩
 exact dC}};{
 have da:=dy j n;have hL':=aa hL;rw [List.take_of_length_le (by rw [List.length_zip,aa Yz];omega)] at hL';obtain ⟨q0,q1,q2,q3,q4,q5,qf⟩:=H9.2.2.2.cells;have SF:=SpS.filter (v':=.S pl nl cl) H9.1 (fun s=>!(s.1==id)) (by rw [hL'];exact RT.mono (aa hR) ab);have lF:(IJ id EP).length=nl:=by have:=SF.len;rw [hL',List.length_map,aa je] at this;exact this.symm
 have HSF:=ae SF;have HLF:=ae lF;clear SF lF hL';go_wp2;rw [aa eD3];simp only [aa HLF,aa enk];obtain ⟨fA,bA,gA⟩:=H9.2.2.1.ai0 (j:=4) xU.1 xU.2 aA hB (.S pl nl cl);obtain ⟨fB,bB,gB⟩:=(H9.2.2.2.qz (b:=w.heap.size) (j:=4) (u:=.S pl nl cl) ab).fin fA bA (Nat.le_succ _) hB (.U e) (.U g) (.U x) (.I t) (.S pl nl cl) (.S qk mk dk);refine bodyPost_ret (v:=cY e g x t (.S pl nl cl) (.S qk mk dk)) (by simp [results,results105,go_sem,q0,q1,q2,q3,q4,q5]) rfl ?_;exact ⟨pl,cl,qk,dk,rfl,⟨_,(HSF.fr gA).fr gB⟩,(H9.2.1.fr gA).fr gB,fB,bB⟩})})})
end Go.Proofs.YtcfcafeciggjeaaGreatDoor
