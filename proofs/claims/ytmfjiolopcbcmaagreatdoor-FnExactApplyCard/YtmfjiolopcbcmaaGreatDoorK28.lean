import Derived.Test.YtmfjiolopcbcmaaGreatDoorK27
namespace Go.Proofs.YtmfjiolopcbcmaaGreatDoor
set_option maxHeartbeats 12800000
set_option linter.unusedVariables false
set_option linter.unusedSimpArgs false
set_option maxRecDepth 100000
open Go.ChangeShapes Go.WideShapes Go.ChangeAt Go.RowKit Go.Proofs.Tryz
variable {B b m:Nat} {Q:Exit->Act->World->Prop} {Qs vs:List Value} {T:List TypeId} {a:Act} {o0 o1 o2 o3 o4 o5 r0 r1 r2 r3 r4 r5 r6 r7 v0 v1 v2 v3 v4:Value} {q:Option Addr} {ss:List aR} {w w' w1:World}
theorem sX {id:Int} {k:Nat} {D D1:SD} {nd:aA} (hk:k<m) (hd:df D k id=D1) (hn:D1.ns[k]?=some nd):dm id (m-k) k D=if nd.owner=id then dm id (m-1-k) k (DQ (da D1 k 2) k) else dm id (m-(k+1)) (k+1) D1:=by
 obtain ⟨f,hf⟩:∃ f,m-k=f+1:=⟨m-k-1,by omega⟩;rw [hf,dm,hd,hn,show m-1-k=f by omega,show m-(k+1)=f by omega]
def Kn (b:Nat) (w:World):Nat:=match w.cell? ⟨b,5,none⟩ with
 | some (.slice _ m _)=>m
 | _=>0
theorem uS {d:Nat} (h:BX w b [v0,v1,v2,v3,v4,.slice q m d]):Kn b w=m:=by
 unfold Kn;rw [h.1.1 5 _ rfl]
theorem IC (e g x t:Int) (p:Option Addr) (n c:Nat) (q:Option Addr) (m d:Nat) (ss:List aR) (Qs:List Value) (ns:List aA) (en:Hid (ss.length=n)) (em:Hid (ns.length=m)) (id:Int) (B:Nat) (w:World) (hS:Hid (fK B w (.slice p n c) ss Qs)) (hN:Hid (dA B w (.slice q m d) ns)) (hNB:Hid (NB ns)) (hB:B<=w.heap.size) (hn:n<=1048576) (hm:m<=1048576) (D:SD) (eD:Hid (il ⟨e,g,x,t,ss,ns⟩ id=D)) :
  Calls prog 56 #[cL e g x t (.slice p n c) (.slice q m d),.int .u64 id] w fun r w'=>∃ p' c' q' d',r=.returned (cL e g x t (.slice p' D.ss.length c') (.slice q' D.ns.length d'))/\(∃ vT,fK B w' (.slice p' D.ss.length c') D.ss vT)/\dA B w' (.slice q' D.ns.length d') D.ns/\Fr [147,95,103] w w'/\Below B w w':=by
 obtain ⟨W0,dT,b0,z0,C0⟩:=dz w (.int .u64 e) (.int .u64 g) (.int .u64 x) (.int .i64 t) (.slice p n c) (.slice q m d);obtain ⟨W1,fN,b1,z1,C1⟩:=dz W0 (.int .u64 0) (.int .u64 0) (.int .u64 0) (.int .i64 0) (.slice none 0 0) (.slice none 0 0);rw [z0] at C1;have HC:=ae (ag (C0.below b1) C1);have bW:=ae (ai b0 b1);have zW:W1.heap.size=w.heap.size+2:=by omega
 clear b0 b1 C0 C1 z0 z1;go_enter func56,ntmps56;go_wp2;rw [<-dT,<-fN];clear dT fN
 go_loopw [5] (fun kv wr=>∃ k:Nat,k<=m/\kv=.int .i64 k/\w.heap.size+2<=wr.heap.size/\Hid (dA B wr (.slice q m d) (ji (Dp id) k ns))/\Hid (fK B wr (.slice p n c) ss Qs)/\Hid (BX wr w.heap.size [.int .u64 e,.int .u64 g,.int .u64 x,.int .i64 t,.slice p n c,.slice q m d]/\BX wr (w.heap.size+1) [.int .u64 0,.int .u64 0,.int .u64 0,.int .i64 0,.slice none 0 0,.slice none 0 0])/\Hid (Fr [147,95,103] w wr)/\Hid (Below B w wr)) (fun kv _=>m-(intOf kv).toNat)
 case atStart=>exact ⟨0,Nat.zero_le _,rfl,by omega,(by show dA _ _ _ _;simpa [ji] using hN.fr (Fr.below (T:=[]) (aa bW)) (by decide)),hS.fr (Fr.below (T:=[]) (aa bW)) (by decide),aa HC,Fr.below (aa bW),bW.mono hB⟩
 case round =>(
 obtain ⟨k,hk,rfl,zr,DV,qE,sT,rR,iS⟩:=hrel;have s5:=sT.1.1.1 5 _ rfl;by_cases aU:k<m;{
 have aV:(k:Int)<(m:Int):=by omega
 obtain ⟨nd,bf⟩:∃ nd,ns[k]?=some nd:=⟨_,aH (by rw [aa em];exact aU)⟩;have oo:=GK (Dp id) bf;have E1:=ae (yk (Dp id) bf);obtain ⟨gn,P,V,H,U,rfl,-,-,-,-,-,-,-,-,-,c7,-,-,-,tU,wS⟩:=dA.at DV oo;obtain ⟨pu,cu,rfl⟩:=tU.ed;obtain ⟨nu,eU⟩:∃ nu,Hid (nd.watchers.length=nu):=⟨_,ae rfl⟩;have KE:nu<=1048576:=by rw [<-aa eU];exact (aa hNB nd (aL bf)).2.1
 rw [aa eU] at tU c7;have HK:=ae oo;have xm:B<=gn:=(DV.lt gn rfl).1;have PQ:gn<wr.heap.size:=(DV.lt gn rfl).2;have Jj:¬ w.heap.size=gn:=fun e=>by obtain ⟨-,cur,h1⟩:=sT.1;obtain ⟨vN,h2⟩:=DV.yE gn rfl;rw [e,h2] at h1;simp at h1
 obtain ⟨vA,bt⟩:=ax wr.drew;have bG:Below wr.heap.size wr vA:=by rw [bt];exact ar.drew
 have zA:=bG.size;have GA:=ae (fun (v:World) (hv:Below vA.heap.size vA v)=>ag (af s5 (ai bG hv)) (ag (af c7 (ai bG hv)) (ag (fun o=>((ai bG hv).frozen (p:=⟨gn,o,none⟩) PQ).trans (wS o)) (ai bG hv))));have UA:=ae (tU.fr (Fr.below (T:=[]) bG) (by decide));clear bf oo tU c7 wS;go_wp2_with fail;refine wp_region_noPanic ?_;refine wp_region_held_drew (S:=fun w'=>w'.cell? ⟨w.heap.size,5,none⟩=some (.slice (some ⟨gn,0,none⟩) m d)) (by kernel_rfl) (by rw [<-bt];exact (aa GA vA ar).1) (fun hS=>?_);rw [<-bt] at hS ⊢;clear bt bG s5;refine fL 0 1 2 3 4 5 6 7 hS ?_;refine tn 9 hS ?_;refine bR 8 fun KK hK=>?_;have c7:=(aa GA _ ar).2.1;go_simp;refine bM hK (by exact (aa GA _ ar).1) fun hS=>?_;clear hK KK c7;refine bR 10 fun KK hK=>?_;refine oy (oR pu cu nu nd.watchers eU id vA UA.1 KE) ?_;rintro r v1 ⟨pl,cl,rfl,ol,aK⟩;refine ⟨_,rfl,?_⟩;obtain ⟨nl,iw⟩:∃ nl,Hid ((mh nd.watchers id).length=nl):=⟨_,ae rfl⟩;rw [aa iw] at ol ⊢;have OL:=ae ol.tu;have kK:=ae aK;refine bM hK (by exact (aa GA v1 aK).1) fun hS=>?_;clear hK KK ol aK;refine fq 11 12 hS ?_;refine bR 13 fun KK hK=>?_;obtain ⟨s5,c7,fz,bv⟩:=aa GA v1 kK;have fz7:=fz (k*8+7);have VZ:=ae bv;clear bv;go_simp;obtain ⟨N2,F2⟩:=dA.put (DV.fr (Fr.below (T:=[]) VZ) (by decide)) HK (j:=7) (by omega) (.slice pl nl cl) (Dp id nd) (fun w' P V H U h1 h2 h3 h4 hf=>⟨P,V,H,.slice pl nl cl,rfl,h1,h2,h3,OL.fr hf (by decide)⟩);rw [<-aa E1] at N2;obtain ⟨Z,hZ⟩:=ax (v1.setCell ⟨gn,k*8+7,none⟩ (.slice pl nl cl));have BZ:Below B w Z:=by rw [hZ];exact (iS.trans (VZ.mono (by have:=iS.size;omega))).setCell (p:=⟨gn,_,none⟩) xm _
 have sZ:Z.cell? ⟨w.heap.size,5,none⟩=some (.slice (some ⟨gn,0,none⟩) m d):=by rw [hZ];exact (aj (dr _ _ _ _ Jj) _).trans s5
 rw [<-hZ] at N2 F2 ⊢;have RZ:=ae (ag N2 (ag F2 BZ));have zv:=VZ.size;have zZ:w.heap.size+2<=Z.heap.size:=by have:=F2.1;omega
 refine bM hK (by exact sZ) fun hS=>?_;clear hK KK hZ N2 F2 BZ sZ s5 c7 fz fz7;refine wpAnyH_done (by kernel_rfl) ?_ _;refine bc ?_;clear hS;go_wp2;go_roundw
 case rel=>exact ⟨k+1,by omega,by go_num,zZ,RZ.1,(qE.fr (Fr.below (T:=[]) (aa VZ)) (by decide)).fr RZ.2.1 (by decide),⟨(sT.1.below (aa VZ)).fr RZ.2.1 (by decide),(sT.2.below (aa VZ)).fr RZ.2.1 (by decide)⟩,(rR.trans (Fr.below (aa VZ))).trans (RZ.2.1.sub (by simp)),RZ.2.2⟩
 case measure=>simp [intOf];omega}
 {
 have aV:¬ (k:Int)<(m:Int):=by omega
 have Li:=aa DV;rw [Dc _ (by rw [aa em];omega)] at Li;have GZ:=ae Li;clear Li;obtain ⟨DF,eF⟩:∃ DF,Hid (dm id m 0 ⟨e,g,x,t,ss,ns.map (Dp id)⟩=DF):=⟨_,ae rfl⟩;have VQ:Hid (D={ DF with ss:=Ph id DF.ss }):=by show _=_;rw [<-aa eD];unfold il;simp only [aa em];rw [aa eF]
 go_wp2
 go_loopw [6] (fun kv wr=>∃ (k mk dk:Nat) (qk:Option Addr) (Eh:List aR) (Ry:List aA) (Qk:List Value),k<=mk/\mk<=m/\kv=.int .i64 k/\w.heap.size+2<=wr.heap.size/\Hid (Eh.length=n)/\Hid (Ry.length=mk)/\Hid (NB Ry)/\Hid (dm id (mk-k) k ⟨e,g,x,t,Eh,Ry⟩=DF)/\Hid (dA B wr (.slice qk mk dk) Ry)/\Hid (fK B wr (.slice p n c) Eh Qk)/\Hid (BX wr w.heap.size [.int .u64 e,.int .u64 g,.int .u64 x,.int .i64 t,.slice p n c,.slice qk mk dk]/\BX wr (w.heap.size+1) [.int .u64 0,.int .u64 0,.int .u64 0,.int .i64 0,.slice none 0 0,.slice none 0 0])/\Hid (Fr [147,95,103] w wr)/\Hid (Below B w wr)) (fun kv wr=>Kn w.heap.size wr-(intOf kv).toNat)
 case atStart=>exact ⟨0,m,d,q,ss,_,Qs,Nat.zero_le _,Nat.le_refl _,rfl,zr,en,ae (by rw [List.length_map];exact aa em),ae (hNB.map id),eF,GZ,qE,sT,rR,iS⟩
 case round =>(
 clear DV qE sT rR iS GZ s5 zr hk aU aV;obtain ⟨k,mk,dk,qk,Eh,Ry,Qk,hk,hmk,rfl,zr,Xc,QE,Zu,eK,DV,qE,sT,rR,iS⟩:=hrel;have hlen:=ae (uS sT.1);obtain ⟨k0,k1,k2,k3,k4,k5,kf⟩:=sT.1.cells;by_cases aU:k<mk;{
 have aV:(k:Int)<(mk:Int):=by omega
 obtain ⟨nd,bf⟩:∃ nd,Ry[k]?=some nd:=⟨_,aH (by rw [aa QE];exact aU)⟩;have hb:=aa Zu nd (aL bf);obtain ⟨TF,Pe,mr,hd,l1,l2,oo,ho1,KH⟩:=Dn (e:=e) (g:=g) (x:=x) (t:=t) (ss:=Eh) bf id;have As:=aa eK;rw [sX aU hd oo] at As;obtain ⟨gn,-,-,-,-,rfl,-,-,-⟩:=dA.at DV bf;have aK:=hb.1;have aG:=hb.2.1;have cX:=hb.2.2;have HD:=ae (Dm e g x t p n c (some ⟨gn,0,none⟩) mk dk Eh Qk Ry Xc k id nd (ae bf) B wr qE DV (by omega) hn (by omega) aK aG cX);rw [hd] at HD;have HX1:=ae (ag l1 (ag l2 (ag oo (ag (KH (aa Zu)) As))));clear bf hb aK aG cX hd l1 l2 oo ho1 KH As;go_wp2_with fail;refine HD.mono ?_;rintro r w1 ⟨rfl,⟨Q1,Qm⟩,Li,vt,aK⟩;obtain ⟨l1,l2,oo,KH,As⟩:=aa HX1;have bE8:=ae Qm;have bF2:=ae Li;obtain ⟨Vt,-,-,-,-,eg,-,-,-,-,c2,-⟩:=dA.at Li oo;simp only [Option.some.injEq,Addr.mk.injEq,and_true] at eg;subst eg;have mQ:=ae (ag (sT.1.fr vt (by decide)) (sT.2.fr vt (by decide)));have F1:=ae (rR.trans vt);have B1:=ae (iS.trans aK);have z1:w.heap.size+2<=w1.heap.size:=by have:=vt.1;omega
 have Jj:¬ w.heap.size=gn:=fun e=>by obtain ⟨-,cur,h1⟩:=sT.1;obtain ⟨vN,h2⟩:=DV.yE gn rfl;rw [e,h2] at h1;simp at h1
 have bD3:¬ gn=w.heap.size:=fun e=>Jj e.symm;obtain ⟨X,hX⟩:=ax (db w1 w.heap.size (.int .u64 e) (.int .u64 g) (.int .u64 x) (.int .i64 t) (.slice p n c) (.slice (some ⟨gn,0,none⟩) mk dk));obtain ⟨fX,bX,gX⟩:=mQ.1.fin F1 B1 ay hB (.int .u64 e) (.int .u64 g) (.int .u64 x) (.int .i64 t) (.slice p n c) (.slice (some ⟨gn,0,none⟩) mk dk);have BXX:=ag (mQ.1.put (.int .u64 e) (.int .u64 g) (.int .u64 x) (.int .i64 t) (.slice p n c) (.slice (some ⟨gn,0,none⟩) mk dk)) (mQ.2.kO (b:=w.heap.size) (by omega) (.int .u64 e) (.int .u64 g) (.int .u64 x) (.int .i64 t) (.slice p n c) (.slice (some ⟨gn,0,none⟩) mk dk));have zX:X.heap.size=w1.heap.size:=by rw [hX];exact oe _ _ _ _ _ _ _ _
 rw [<-hX] at fX bX gX BXX;have SX:=ae (Qm.fr gX (by decide));have NX:=ae (dA.fr Li gX (by decide));have Rj:=ae (ag fX (ag bX BXX));unfold db at hX;clear k0 k1 k2 k3 k4 k5 kf;obtain ⟨k0,k1,k2,k3,k4,k5,kf⟩:=mQ.1.cells;have Oc:=ae (ag l1 (ag l2 KH));have HK1:=ae oo;have EK2:=ae As;clear Qm Li vt aK oo As HX1 HD l1 l2 KH fX bX gX BXX;by_cases RJ:mr.owner=id;{
 have GF:(mr.owner==id)=true:=by simp [RJ]
 have DX:=aa EK2;rw [if_pos RJ,uy (aa HK1),DQ] at DX;have EK3:=ae DX;have hb:=Oc.2.2 mr (aL (aa HK1));have HT:=ae (qN e g x t p n c (some ⟨gn,0,none⟩) mk dk TF Q1 Pe (ae (Oc.1.trans Xc)) k 2 mr HK1 B X SX NX (by omega) hn (by omega) hb.1 hb.2.1);clear DX hb RJ;go_wp2_with fail;rw [<-hX];clear hX GF c2 k0 k1 k2 k3 k4 k5 kf;refine HT.mono ?_;rintro r w2 ⟨rfl,⟨Q2,CP⟩,CU,CM,aG⟩;have Jw:=ae (ag (Rj.2.2.1.fr CM (by decide)) (Rj.2.2.2.fr CM (by decide)));have F2:=ae (Rj.1.trans CM);have B2:=ae (Rj.2.1.trans aG);have z2:w.heap.size+2<=w2.heap.size:=by have:=CM.1;omega
 obtain ⟨Y,hY⟩:=ax (db w2 w.heap.size (.int .u64 e) (.int .u64 g) (.int .u64 x) (.int .i64 t) (.slice p n c) (.slice (some ⟨gn,0,none⟩) mk dk));obtain ⟨fY,bY,gY⟩:=Jw.1.fin F2 B2 ay hB (.int .u64 e) (.int .u64 g) (.int .u64 x) (.int .i64 t) (.slice p n c) (.slice (some ⟨gn,0,none⟩) mk dk);have Oo:=ag (Jw.1.put (.int .u64 e) (.int .u64 g) (.int .u64 x) (.int .i64 t) (.slice p n c) (.slice (some ⟨gn,0,none⟩) mk dk)) (Jw.2.kO (b:=w.heap.size) (by omega) (.int .u64 e) (.int .u64 g) (.int .u64 x) (.int .i64 t) (.slice p n c) (.slice (some ⟨gn,0,none⟩) mk dk));have zY:Y.heap.size=w2.heap.size:=by rw [hY];exact oe _ _ _ _ _ _ _ _
 rw [<-hY] at fY bY gY Oo;have SY:=ae (CP.fr gY (by decide));have NY:=ae (dA.fr CU gY (by decide));have HYY:=ae (ag fY (ag bY Oo));unfold db at hY;obtain ⟨k0,k1,k2,k3,k4,k5,kf⟩:=Jw.1.cells;have HR:=ae (uL e g x t p n c (some ⟨gn,0,none⟩) mk dk _ (ae (by rw [List.length_set];exact Oc.2.1.trans (aa QE))) k B Y NY (by omega));clear CP CU CM aG fY bY gY Oo HT SX NX Rj;go_wp2_with fail;rw [<-hY];clear hY k0 k1 k2 k3 k4 k5 kf;refine HR.mono ?_;rintro r w3 ⟨p3,c3,rfl,yb,cX⟩;obtain ⟨X9,L5⟩:∃ X9,Hid ((Pe.set k { mr with watchers:=[] }).eraseIdx k=X9):=⟨_,ae rfl⟩;have Uk:Hid (X9.length=mk-1):=by show _=_;have h1:=Oc.2.1.trans QE;rw [<-aa L5,List.length_eraseIdx,List.length_set,if_pos (by omega)];omega
 rw [aa L5,aa Uk] at yb;rw [aa L5,aa Uk];have EK4:=aa EK3;simp only [aa L5] at EK4;have BX3:=ae (ag (HYY.2.2.1.below cX) (HYY.2.2.2.below cX));have F3:=ae (HYY.1.trans (Fr.below cX));have B3:=ae (HYY.2.1.trans (cX.mono (by omega)));have z3:=cX.size;obtain ⟨Z,hZ⟩:=ax (db w3 w.heap.size (.int .u64 e) (.int .u64 g) (.int .u64 x) (.int .i64 t) (.slice p n c) (.slice p3 (mk-1) c3));obtain ⟨fZ,bZ,gZ⟩:=BX3.1.fin F3 B3 ay hB (.int .u64 e) (.int .u64 g) (.int .u64 x) (.int .i64 t) (.slice p n c) (.slice p3 (mk-1) c3);have WD:=ag (BX3.1.put (.int .u64 e) (.int .u64 g) (.int .u64 x) (.int .i64 t) (.slice p n c) (.slice p3 (mk-1) c3)) (BX3.2.kO (b:=w.heap.size) (by omega) (.int .u64 e) (.int .u64 g) (.int .u64 x) (.int .i64 t) (.slice p n c) (.slice p3 (mk-1) c3));have zZ:Z.heap.size=w3.heap.size:=by rw [hZ];exact oe _ _ _ _ _ _ _ _
 rw [<-hZ] at fZ bZ gZ WD;have SZ:=ae ((SY.fr (Fr.below (T:=[]) cX) (by decide)).fr gZ (by decide));have NZ:=ae ((dA.fr yb gZ (by decide)).mono (by omega:B<=Y.heap.size));have Xn:=ae (ag fZ (ag bZ WD));have ay3:=ae (uS WD.1);have aC3:Hid (NB X9):=by show NB _;rw [<-aa L5];have hb:=Oc.2.2 mr (aL (aa HK1));exact (NB.set (nd:={ mr with watchers:=[] }) Oc.2.2 ⟨hb.1,Nat.zero_le _,hb.2.2⟩).erase k
 have EK5:=ae EK4;have ay5:Hid ((jD TF mr.watchers (2,mr.path)).length=n):=by show _=_;rw [kT];exact Oc.1.trans (aa Xc)
 unfold db at hZ;obtain ⟨k0,k1,k2,k3,k4,k5,kf⟩:=BX3.1.cells;clear yb cX fZ bZ gZ WD HR SY NY HYY EK4;go_wp2;rw [<-hZ];clear hZ k0 k1 k2 k3 k4 k5 kf;go_roundw
 case rel=>exact ⟨k,mk-1,c3,p3,_,X9,Q2,by omega,by omega,rfl,by omega,ay5,Uk,aC3,EK5,NZ,SZ,ae Xn.2.2,ae Xn.1,ae Xn.2.1⟩
 case measure =>(
 rw [aa ay3,aa hlen];simp [intOf];omega)}
 {
 have GF:(mr.owner==id)=false:=by simp [RJ]
 have DX:=aa EK2;rw [if_neg RJ] at DX;have EK3:=ae DX;have ay4:=ae (uS Rj.2.2.1);clear DX RJ;go_wp2;rw [<-hX];clear hX GF c2 k0 k1 k2 k3 k4 k5 kf;go_roundw
 case rel=>exact ⟨k+1,mk,dk,_,TF,Pe,Q1,by omega,by omega,by go_num,by omega,ae (Oc.1.trans Xc),ae (Oc.2.1.trans QE),ae (Oc.2.2),EK3,NX,SX,ae Rj.2.2,ae Rj.1,ae Rj.2.1⟩
 case measure =>(
 rw [aa ay4,aa hlen];simp [intOf];omega)}}
 {
 have aV:¬ (k:Int)<(mk:Int):=by omega
 have As:=aa eK;rw [show mk-k=0 by omega,dm] at As;have eD3:Hid (D=⟨e,g,x,t,Ph id Eh,Ry⟩):=by show _=_;rw [aa VQ,<-As]
 clear As VQ eK;obtain ⟨W5,eW5⟩:∃ W5,Hid (W5=wr):=⟨_,ae rfl⟩;obtain ⟨wz,ewz⟩:∃ wz,Hid (wz=W5.heap.size):=⟨_,ae rfl⟩;have H5:=ag (aa qE) (ag (aa DV) (ag (aa sT) (ag (aa rR) (aa iS))));have z5:=zr;rw [<-aa eW5] at H5 z5;rw [<-aa ewz] at z5;have G5:=ae H5;clear H5;go_wp2
 go_loopw [7,8] (fun lv iv w9=>∃ (j nl cl:Nat) (pl:Option Addr) (L:List (aR × Value)),j<=n/\iv=.int .i64 j/\lv=.slice pl nl cl/\wz<=w9.heap.size/\Hid (L.length=nl)/\Hid ((((Eh.zip Qk).take j).filter fun z=>!(z.1.1==id))=L)/\Hid (RT ly 95 3 wz w9 (.slice pl nl cl) L)/\Hid (Below wz W5 w9)) (fun _ iv _=>n-(intOf iv).toNat)
 case atStart=>exact ⟨0,0,0,none,[],Nat.zero_le _,rfl,rfl,by rw [aa ewz,aa eW5];exact Nat.le_refl _,ae rfl,ae (by simp),RT.nil _ _ _ _ _,(by show Below _ _ _;rw [aa eW5];exact Below.refl _ _)⟩
 case round =>(
 obtain ⟨j,nl,cl,pl,L,hj,rfl,rfl,z9,iw,hL,hR,dR⟩:=hrel;clear k0 k1 k2 k3 k4 k5 kf qE DV sT rR iS hlen zr;have dH:Below W5.heap.size W5 wr:=by have:=aa dR;rwa [aa ewz] at this
 have H9:=ae (ag (G5.1.fr (Fr.below (T:=[]) dH) (by decide)) (ag (G5.2.1.fr (Fr.below (T:=[]) dH) (by decide)) (ag (G5.2.2.1.1.below dH) (G5.2.2.1.2.below dH))));have Xr:=ae (ag (G5.2.2.2.1.trans (Fr.below dH)) (G5.2.2.2.2.trans (dH.mono (by have:=G5.2.2.2.2.size;omega))));obtain ⟨k0,k1,k2,k3,k4,k5,kf⟩:=H9.2.2.1.cells;clear dH;by_cases aU:j<n;{
 have aV:(j:Int)<(n:Int):=by omega
 obtain ⟨s,hs⟩:∃ s,Eh[j]?=some s:=⟨_,aH (by rw [aa Xc];exact aU)⟩;obtain ⟨gs,Q,rfl,-,-,hQ,c0,c1,c2,sq,-⟩:=fK.at H9.1 hs;obtain ⟨pq,cq,rfl,-⟩:=sq.form;have hz:(Eh.zip Qk)[j]?=some (s,.slice pq s.2.2.length cq):=by rw [List.getElem?_zip_eq_some];exact ⟨hs,hQ⟩
 have cF:=LK hz (fun s=>!(s.1==id));rw [aa hL] at cF;have jl:=ae cF;have KP:nl<4194304:=by have h1:=List.length_filter_le (fun z:aR × Value=>!(z.1.1==id)) ((Eh.zip Qk).take j);have h2:=List.length_take_le j (Eh.zip Qk);rw [aa hL,aa iw] at h1;omega
 clear hs hQ sq hz cF;by_cases he:s.1=id;{
 have E1:Hid ((((Eh.zip Qk).take (j+1)).filter fun z=>!(z.1.1==id))=L):=by have:=aa jl;show _=_;simpa [he] using this
 have GF:(s.1 != id)=false:=by simp [he]
 clear he;go_wp2;go_roundw
 case rel=>exact ⟨j+1,nl,cl,pl,L,by omega,by go_num,rfl,z9,iw,E1,hR,dR⟩
 case measure=>simp [intOf];omega}
 {
 have E1:Hid ((((Eh.zip Qk).take (j+1)).filter fun z=>!(z.1.1==id))=L++[(s,.slice pq s.2.2.length cq)]):=by have:=aa jl;show _=_;simpa [he] using this
 have GF:(s.1 != id)=true:=by simp [he]
 obtain ⟨v3,Hz,b3,z3,C3,-⟩:=au wr #[.int .u64 s.1,.int .i64 s.2.1,.slice pq s.2.2.length cq] 95;have R3:=ae (RT.fr hR (Fr.below (T:=[]) b3) (by decide) (fun _ _ h=>h));have B3:=ae b3;have IU:=ae C3;have KL:=ae fun b e=>(hR.lt b e).1;clear he b3 C3;go_wp2_with (at_builtin;rw [<-Hz];refine kR rfl _ _ rfl wz (.slice pl nl cl) L (s,.slice pq s.2.2.length cq) nl iw rfl (aa R3) wr.heap.size rfl rfl IU.1 KP (by omega) ?_);intro p' c' w' o2 dY _;rw [<-Hz] at dY;have b4:=ae ((dR.trans (B3.mono (by omega))).grown dY (by omega) KL);have O2:=ae o2;have z4:=b4.size;clear dY o2 c0 c1 c2 Hz GF k0 k1 k2 k3 k4 k5 kf;go_wp2;go_roundw
 case rel=>exact ⟨j+1,nl+1,c',p',_,by omega,by go_num,rfl,by have:=aa ewz;omega,ae (by rw [List.length_append,aa iw];rfl),E1,O2,b4⟩
 case measure=>simp [intOf];omega}}
 {
 have aV:¬ (j:Int)<(n:Int):=by omega
 have Zy:=aa hL;rw [List.take_of_length_le (by rw [List.length_zip,aa Xc];omega)] at Zy;obtain ⟨q0,q1,q2,q3,q4,q5,qf⟩:=H9.2.2.2.cells;have SF:=fK.filter (v':=.slice pl nl cl) H9.1 (fun s=>!(s.1==id)) (by rw [Zy];exact RT.mono (aa hR) (by omega));have lF:(Ph id Eh).length=nl:=by have:=SF.len;rw [Zy,List.length_map,aa iw] at this;exact this.symm
 have HSF:=ae SF;have HLF:=ae lF;clear SF lF Zy;go_wp2;rw [aa eD3];simp only [aa HLF,aa QE];obtain ⟨fA,bA,gA⟩:=H9.2.2.1.ZW (j:=4) Xr.1 Xr.2 ay hB (.slice pl nl cl);obtain ⟨fB,bB,gB⟩:=(H9.2.2.2.uG (b:=w.heap.size) (j:=4) (u:=.slice pl nl cl) (by omega)).fin fA bA (Nat.le_succ _) hB (.int .u64 e) (.int .u64 g) (.int .u64 x) (.int .i64 t) (.slice pl nl cl) (.slice qk mk dk);refine bodyPost_ret (v:=cL e g x t (.slice pl nl cl) (.slice qk mk dk)) (by simp [results,results56,go_sem,q0,q1,q2,q3,q4,q5]) rfl ?_;exact ⟨pl,cl,qk,dk,rfl,⟨_,(HSF.fr gA (by decide)).fr gB (by decide)⟩,(H9.2.1.fr gA (by decide)).fr gB (by decide),fB,bB⟩})})})
abbrev fM (k i e g n:Int) (D N E:Value):Value:=.agg #[.int .i64 k,.int .u64 i,.int .u64 e,.int .u64 g,.int .i64 n,D,N,E]
abbrev al:Value:=.slice none 0 0
def RX (w:World) (b:Nat) (vs:List Value):Prop:=ah w b vs/\∃ cur,w.heap[b]?=some (.cells cur 39)
theorem RX.fr (h:RX w b vs) (hf:Fr T w w') (ht:39∉T):RX w' b vs:=by
 obtain ⟨h1,cur,h2⟩:=h;have h3:=hf.2 _ _ _ _ ht h2;exact ⟨h1.bg (h3.trans h2.symm),cur,h3⟩
theorem RX.below (h:RX w b vs) (hb:Below w.heap.size w w'):RX w' b vs:=h.fr (Fr.below (T:=[]) hb) (by simp)
def fE (w:World) (b:Nat) (v0 v1 v2 v3 v4 v5 v6 v7:Value):World:=((db w b v0 v1 v2 v3 v4 v5).setCell ⟨b,6,none⟩ v6).setCell ⟨b,7,none⟩ v7
theorem aQ (w:World) (b:Nat) (v0 v1 v2 v3 v4 v5 v6 v7:Value):Below b w (fE w b v0 v1 v2 v3 v4 v5 v6 v7):=((cE w b v0 v1 v2 v3 v4 v5).setCell (p:=⟨b,6,none⟩) ay _).setCell (p:=⟨b,7,none⟩) ay _
theorem RX.put {o6 o7:Value} (h:RX w b [o0,o1,o2,o3,o4,o5,o6,o7]) (v0 v1 v2 v3 v4 v5 v6 v7:Value):RX (fE w b v0 v1 v2 v3 v4 v5 v6 v7) b [v0,v1,v2,v3,v4,v5,v6,v7]/\Fr [39] w (fE w b v0 v1 v2 v3 v4 v5 v6 v7):=by
 obtain ⟨hc,cur,ht⟩:=h;have t6:=qQ ⟨cur,ht⟩ (v0:=v0) (v1:=v1) (v2:=v2) (v3:=v3) (v4:=v4) (v5:=v5);have a6:=bO (j:=6) (u:=v6) t6;have a7:=bO (j:=7) (u:=v7) a6.1;exact ⟨⟨(((((((hc.dC 0 (by simp) v0).dC 1 (by simp) v1).dC 2 (by simp) v2).dC 3 (by simp) v3).dC 4 (by simp) v4).dC 5 (by simp) v5).dC 6 (by simp) v6).dC 7 (by simp) v7,a7.1⟩,((gH ht).trans a6.2).trans a7.2⟩
theorem RX.cells {v5 v6 v7:Value} (h:RX w b [v0,v1,v2,v3,v4,v5,v6,v7]):w.cell? ⟨b,0,none⟩=some v0/\w.cell? ⟨b,1,none⟩=some v1/\w.cell? ⟨b,2,none⟩=some v2/\w.cell? ⟨b,3,none⟩=some v3/\w.cell? ⟨b,4,none⟩=some v4/\w.cell? ⟨b,5,none⟩=some v5/\w.cell? ⟨b,6,none⟩=some v6/\w.cell? ⟨b,7,none⟩=some v7/\∀ o,w.frozen? ⟨b,o,none⟩=false:=
 ⟨h.1.1 0 _ rfl,h.1.1 1 _ rfl,h.1.1 2 _ rfl,h.1.1 3 _ rfl,h.1.1 4 _ rfl,h.1.1 5 _ rfl,h.1.1 6 _ rfl,h.1.1 7 _ rfl,h.1.2⟩
theorem fo (w:World) (v0 v1 v2 v3 v4 v5 v6 v7:Value):∃ W,W=w.alloc (.cells #[v0,v1,v2,v3,v4,v5,v6,v7] 39)/\Below w.heap.size w W/\W.heap.size=w.heap.size+1/\RX W w.heap.size [v0,v1,v2,v3,v4,v5,v6,v7]:=by
 obtain ⟨W,h1,h2,h3,h4,h5⟩:=au w #[v0,v1,v2,v3,v4,v5,v6,v7] 39;exact ⟨W,h1,h2,h3,h4,_,h5⟩
theorem uV (k:Int) (w:World):Calls prog 22 #[.int .i64 k] w fun r w'=>r=.returned (fM k 0 0 0 0 al al al)/\Below w.heap.size w w':=by
 go_enter func22,ntmps22;go_wp2;exact bodyPost_ret (v:=fM k 0 0 0 0 al al al) (by simp [results,results22,go_sem]) rfl ⟨rfl,ar.alloc ay _⟩
abbrev JQ (t1 t2 t3 d1 d2:Nat) (ps:String) (k:Int):Array Oper:=#[{ dst:=some d1,op:=Op.load 35 (Operand.tmp t1),type:=35,pos:=ps,after:=#[],guard:=none },
 { dst:=some d2,op:=Op.call { callee:=Callee.value (Operand.func 22),args:=#[Operand.const (Value.int IntKind.i64 k)],argTypes:=#[3] },type:=39,pos:=ps,after:=#[],guard:=none },
 { dst:=none,op:=Op.store 35 (Operand.tmp t2) (Operand.tmp d1),type:=0,pos:=ps,after:=#[{ on:=0,ground:=Ground.data },{ on:=1,ground:=Ground.chain },{ on:=0,ground:=Ground.phase },{ on:=1,ground:=Ground.textOnly Departure.lateStoresUnsure }],guard:=none },
 { dst:=none,op:=Op.store 39 (Operand.tmp t3) (Operand.tmp d2),type:=0,pos:=ps,after:=#[{ on:=1,ground:=Ground.data },{ on:=2,ground:=Ground.chain },{ on:=0,ground:=Ground.phase },{ on:=1,ground:=Ground.phase },{ on:=2,ground:=Ground.phase }],guard:=none }]
theorem dF (i t1 t2 t3 d1 d2:Nat) (ps:String) (k:Int) (b0 b1 b2:Nat) (e g x t:Int) (p:Option Addr) (n c:Nat) (q:Option Addr) (m d:Nat) 
  (hf:Region.free .any (JQ t1 t2 t3 d1 d2 ps k) (Array.replicate 4 false) 0=true) (e1:a.tmps[t1]?.getD undef=.pointer (some ⟨b0,0,none⟩)) (e2:∀ v u,((a.put (some d1) v).put (some d2) u).tmps[t2]?.getD undef=.pointer (some ⟨b1,0,none⟩)) (e3:∀ v u,((a.put (some d1) v).put (some d2) u).tmps[d1]?.getD undef=v) (e4:∀ v u,((a.put (some d1) v).put (some d2) u).tmps[t3]?.getD undef=.pointer (some ⟨b2,0,none⟩)) (e5:∀ v u,((a.put (some d1) v).put (some d2) u).tmps[d2]?.getD undef=u)
  (h0:BX w b0 [.int .u64 e,.int .u64 g,.int .u64 x,.int .i64 t,.slice p n c,.slice q m d]) (h1:BX w b1 [o0,o1,o2,o3,o4,o5]) (h2:RX w b2 [r0,r1,r2,r3,r4,r5,r6,r7]) (bm:b0≠b1) (B:Nat) (wN:B<=b1) (iD:B<=b2)
  (h:∀ w',BX w' b1 [.int .u64 e,.int .u64 g,.int .u64 x,.int .i64 t,.slice p n c,.slice q m d]->RX w' b2 [.int .i64 k,.int .u64 0,.int .u64 0,.int .u64 0,.int .i64 0,al,al,al]->Fr [35,39] w w'->Below B w w'->Q .normal ((a.put (some d1) (cL e g x t (.slice p n c) (.slice q m d))).put (some d2) (fM k 0 0 0 0 al al al)) w') :
  Code.wp prog (Code.region i (JQ t1 t2 t3 d1 d2 ps k) true) Q a w:=by
 unfold JQ at hf ⊢;refine wp_region_noPanic ?_;have bG:Below w.heap.size w w.drew:=ar.drew;have H0:=ae (ag (h0.below bG) (ag (h1.below bG) (h2.below bG)));refine wp_region_held_drew (S:=fun w'=>BX w' b0 [.int .u64 e,.int .u64 g,.int .u64 x,.int .i64 t,.slice p n c,.slice q m d]) (by kernel_rfl) H0.1 (fun hS=>?_);obtain ⟨vA,bt⟩:=ax w.drew;rw [<-bt] at hS H0 bG ⊢;clear bt;refine wpAnyH_take (i:=0) (oi:=_) (v:=cL e g x t (.slice p n c) (.slice q m d)) (by simp only [List.getElem?_toArray,List.getElem?_cons_zero];rfl) (by kernel_rfl) hf (by kernel_rfl) (fun _ _ _ h=>h) (Or.inl ⟨rfl,?_⟩) hS ?_;{intro w' hw;obtain ⟨k0,k1,k2,k3,k4,k5,kf⟩:=hw.cells;go_simp};refine bR 1 fun KK hK=>?_;refine iG (uV k vA) ?_;rintro r v1 ⟨rfl,aK⟩;refine ⟨_,rfl,?_⟩;refine hK.out _ _ (hS.below aK) (fun hS=>?_);clear hK KK;have H1:=ae (ag (H0.2.1.below aK) (H0.2.2.below aK));have B1:=ae (ai bG aK);clear H0 bG aK;obtain ⟨a2,qc⟩:=ax ((a.put (some d1) (cL e g x t (.slice p n c) (.slice q m d))).put (some d2) (fM k 0 0 0 0 al al al));refine bR 2 fun KK hK=>?_;have e2':=e2 (cL e g x t (.slice p n c) (.slice q m d)) (fM k 0 0 0 0 al al al);have e3':=e3 (cL e g x t (.slice p n c) (.slice q m d)) (fM k 0 0 0 0 al al al);have e4':=e4 (cL e g x t (.slice p n c) (.slice q m d)) (fM k 0 0 0 0 al al al);have e5':=e5 (cL e g x t (.slice p n c) (.slice q m d)) (fM k 0 0 0 0 al al al);have H2:=h;rw [<-qc] at e2' e3' e4' e5' ⊢;rw [show (a.put (some d1) (cL e g x t (.slice p n c) (.slice q m d))).put (some d2) (fM k 0 0 0 0 al al al)=a2 from qc.symm] at H2;clear e1 e2 e3 e4 e5 h qc;obtain ⟨k0,k1,k2,k3,k4,k5,kf⟩:=H1.1.cells;go_simp;obtain ⟨X,hX⟩:=ax (db v1 b1 (.int .u64 e) (.int .u64 g) (.int .u64 x) (.int .i64 t) (.slice p n c) (.slice q m d));have bX:Below b1 v1 X:=by rw [hX];exact cE _ _ _ _ _ _ _ _
 have mQ:BX X b1 [.int .u64 e,.int .u64 g,.int .u64 x,.int .i64 t,.slice p n c,.slice q m d]:=by rw [hX];exact H1.1.put _ _ _ _ _ _
 have Xu:BX X b0 [.int .u64 e,.int .u64 g,.int .u64 x,.int .i64 t,.slice p n c,.slice q m d]:=by rw [hX];exact hS.kO bm _ _ _ _ _ _
 have fX:Fr [35] v1 X:=by obtain ⟨-,cur,ht⟩:=H1.1;rw [hX];exact gH ht
 have MZ:=H1.2.fr fX (by decide);unfold db at hX;rw [<-hX];refine hK.out _ _ Xu (fun hS=>?_);clear hK KK hX Xu k0 k1 k2 k3 k4 k5 kf;refine bR 3 fun KK hK=>?_;obtain ⟨k0,k1,k2,k3,k4,k5,k6,k7,kf⟩:=MZ.cells;go_simp;obtain ⟨Js,fY⟩:=MZ.put (.int .i64 k) (.int .u64 0) (.int .u64 0) (.int .u64 0) (.int .i64 0) al al al;have bY:=aQ X b2 (.int .i64 k) (.int .u64 0) (.int .u64 0) (.int .u64 0) (.int .i64 0) al al al;obtain ⟨Y,hY⟩:=ax (fE X b2 (.int .i64 k) (.int .u64 0) (.int .u64 0) (.int .u64 0) (.int .i64 0) al al al);rw [<-hY] at Js fY bY;unfold fE db at hY;rw [<-hY];refine hK.out _ _ (hS.fr fY (by decide)) (fun hS=>?_);clear hK KK hY;refine wpAnyH_done (by kernel_rfl) ?_ _;refine bc ?_;exact H2 Y (mQ.fr fY (by decide)) Js ((Fr.below (aa B1)).trans ((fX.sub (by simp)).trans (fY.sub (by simp)))) ((B1.mono (by have:=h1.lt;omega)).trans ((bX.mono wN).trans (bY.mono iD)))
structure RP where
 k:Int
 i:Int
 e:Int
 g:Int
 n:Int
 iy:List Int
 fS:List (List Int)
 gy:List Ev
def iQ:RP:=⟨0,0,0,0,0,[],[],[]⟩
def rO (k:Int):RP:=⟨k,0,0,0,0,[],[],[]⟩
def jZ (D:SD):SD × RP:=if 50<=D.ss.length then (D,rO 11) else if 4611686018427387904<=D.x then (D,rO 12) else ({ D with x:=D.x+1,ss:=D.ss++[(D.x+1,D.t+10,[])] },{ iQ with i:=D.x+1,n:=D.t+10 })
def aa1 (w:World) (l:List Int) (c:List Value):Prop:=∃ P,c=[P]/\TB w P l
abbrev TN (B:Nat) (w:World) (v:Value) (l:List (List Int)):Prop:=RT aa1 27 1 B w v l
def QR (B:Nat) (w w':World) (r:Ending) (D:SD) (R:RP):Prop:=∃ p c q d Dv Nv Ev Qs,r=.returned (.tuple #[cL D.e D.g D.x D.t (.slice p D.ss.length c) (.slice q D.ns.length d),fM R.k R.i R.e R.g R.n Dv Nv Ev])/\fK B w' (.slice p D.ss.length c) D.ss Qs/\dA B w' (.slice q D.ns.length d) D.ns/\TB w' Dv R.iy/\TN B w' Nv R.fS/\qn B w' Ev R.gy/\Fr [147,95,103] w w'/\Below B w w'
theorem Fr.low (h:Fr T w w1) (hb:Below w.heap.size w1 w'):Fr T w w':=⟨Nat.le_trans h.1 hb.size,fun b cur ty m ht hc=>(hb.block b (dX hc)).trans (h.2 b cur ty m ht hc)⟩
theorem QR.num {e g x t:Int} {p:Option Addr} {n c m d:Nat} {ns:List aA} (en:Hid (ss.length=n)) (em:Hid (ns.length=m)) (hS:fK B w1 (.slice p n c) ss Qs) (hN:dA B w1 (.slice q m d) ns) (hF:Fr [147,95,103] w w1) (hB:Below B w w1) (f:Fr [35,39] w1 w') (b:Below w.heap.size w1 w') (hle:B<=w.heap.size) (k i a h s:Int) :
  QR B w w' (.returned (.tuple #[cL e g x t (.slice p n c) (.slice q m d),fM k i a h s al al al])) ⟨e,g,x,t,ss,ns⟩ ⟨k,i,a,h,s,[],[],[]⟩:=by
 refine ⟨p,c,q,d,al,al,al,Qs,by simp only [aa en,aa em],?_,?_,TB.nil _,RT.nil _ _ _ _ _,RT.nil _ _ _ _ _,hF.low b,hB.trans (b.mono hle)⟩;{simp only [aa en];exact hS.fr f (by decide)};{simp only [aa em];exact dA.fr hN f (by decide)}
theorem fK.XE {v v':Value} (h:fK B w v ss Qs) (hf:Fr [95] w w') (I J:Int) (hr:RT ly 95 3 B w' v' (ss.zip Qs++[((I,J,[]),al)])):fK B w' v' (ss++[(I,J,[])]) (Qs++[al]):=by
 have hl:=h.len;refine ⟨by simp [hl],by rw [List.zip_append hl.symm];exact hr,fun i s Q hs hq=>?_,fun i j Q Q' b jd hq om hb=>?_⟩;{
 by_cases hi:i<ss.length;{rw [List.getElem?_append_left hi] at hs;rw [List.getElem?_append_left (by omega)] at hq;exact (h.DR i s Q hs hq).fr hf (by decide)};{
 have ei:i=ss.length:=by have:=(aM.1 hs).1;simp at this;omega
 subst ei;rw [List.getElem?_append_right ay,Nat.sub_self] at hs;rw [List.getElem?_append_right (by omega),hl,Nat.sub_self] at hq;simp at hs hq;subst hs hq;exact RT.nil _ _ _ _ _}};{
 by_cases hi:i<Qs.length;{
 rw [List.getElem?_append_left hi] at hq;by_cases hj:j<Qs.length;{rw [List.getElem?_append_left hj] at om;exact h.kO i j Q Q' b jd hq om hb};{
 rw [List.getElem?_append_right (by omega)] at om;have e:j-Qs.length=0:=by have:=(aM.1 om).1;simp at this;omega
 rw [e] at om;simp at om;subst om;simp [Value.ownBlock]}};{
 rw [List.getElem?_append_right (by omega)] at hq;have e:i-Qs.length=0:=by have:=(aM.1 hq).1;simp at this;omega
 rw [e] at hq;simp at hq;subst hq;simp [Value.ownBlock] at hb}}
theorem od {md:Region.Mode} {ops:Array Oper} {S:World->Prop} {listed:Array Bool} (i5 i6 t2 t3 d1 d2:Nat) {ps ps':String} {A5 A6:Array Edge} (gQ:Region.ready md ops listed=[i5]) (Je:Region.ready md ops (listed.setIfInBounds i5 true)=[i6]) (Ys:Region.ready md ops ((listed.setIfInBounds i5 true).setIfInBounds i6 true)=[])
  (WQ:ops[i5]?=some { dst:=none,op:=Op.store 35 (Operand.tmp t2) (Operand.tmp d1),type:=0,pos:=ps,after:=A5,guard:=none }) (ho6:ops[i6]?=some { dst:=none,op:=Op.store 39 (Operand.tmp t3) (Operand.tmp d2),type:=0,pos:=ps',after:=A6,guard:=none })
  (b1 b2:Nat) (e g x t:Int) (p:Option Addr) (n c:Nat) (q:Option Addr) (m d:Nat) (k i h s z:Int) (dp:Option Addr) (dn dc:Nat) (np:Option Addr) (nn nc:Nat) (vp:Option Addr) (vn vc:Nat) 
  (e2:a.tmps[t2]?.getD undef=.pointer (some ⟨b1,0,none⟩)) (e3:a.tmps[d1]?.getD undef=cL e g x t (.slice p n c) (.slice q m d)) (e4:a.tmps[t3]?.getD undef=.pointer (some ⟨b2,0,none⟩)) (e5:a.tmps[d2]?.getD undef=fM k i h s z (.slice dp dn dc) (.slice np nn nc) (.slice vp vn vc))
  (h1:BX w b1 [o0,o1,o2,o3,o4,o5]) (h2:RX w b2 [r0,r1,r2,r3,r4,r5,r6,r7]) (Vs:b1<b2) (qE:∀ w',Below b1 w w'->Fr [35,39] w w'->S w')
  (hQ:∀ w',BX w' b1 [.int .u64 e,.int .u64 g,.int .u64 x,.int .i64 t,.slice p n c,.slice q m d]->RX w' b2 [.int .i64 k,.int .u64 i,.int .u64 h,.int .u64 s,.int .i64 z,.slice dp dn dc,.slice np nn nc,.slice vp vn vc]->Fr [35,39] w w'->Below b1 w w'->Q .normal a w'):wpAnyH prog md ops Q S 2 listed a w:=by
 refine wpAnyH_ready gQ (by simp) ?_;refine AllReadyH.cons WQ (fun KK hK=>?_) AllReadyH.nil;obtain ⟨k0,k1,k2,k3,k4,k5,kf⟩:=h1.cells;go_simp;obtain ⟨X,hX⟩:=ax (db w b1 (.int .u64 e) (.int .u64 g) (.int .u64 x) (.int .i64 t) (.slice p n c) (.slice q m d));have bX:Below b1 w X:=by rw [hX];exact cE _ _ _ _ _ _ _ _
 have mQ:=h1.put (.int .u64 e) (.int .u64 g) (.int .u64 x) (.int .i64 t) (.slice p n c) (.slice q m d);have fX:Fr [35] w X:=by obtain ⟨-,cur,ht⟩:=h1;rw [hX];exact gH ht
 rw [<-hX] at mQ;have MZ:=h2.fr fX (by decide);unfold db at hX;rw [<-hX];refine hK.out _ _ (qE X bX (fX.sub (by simp))) (fun hS=>?_);clear hK KK hX k0 k1 k2 k3 k4 k5 kf;refine wpAnyH_ready Je (by simp) ?_;refine AllReadyH.cons ho6 (fun KK hK=>?_) AllReadyH.nil;obtain ⟨k0,k1,k2,k3,k4,k5,k6,k7,kf⟩:=MZ.cells;go_simp;obtain ⟨Js,fY⟩:=MZ.put (.int .i64 k) (.int .u64 i) (.int .u64 h) (.int .u64 s) (.int .i64 z) (.slice dp dn dc) (.slice np nn nc) (.slice vp vn vc);have bY:=aQ X b2 (.int .i64 k) (.int .u64 i) (.int .u64 h) (.int .u64 s) (.int .i64 z) (.slice dp dn dc) (.slice np nn nc) (.slice vp vn vc);obtain ⟨Y,hY⟩:=ax (fE X b2 (.int .i64 k) (.int .u64 i) (.int .u64 h) (.int .u64 s) (.int .i64 z) (.slice dp dn dc) (.slice np nn nc) (.slice vp vn vc));rw [<-hY] at Js fY bY;unfold fE db at hY;rw [<-hY];have bY':=bX.trans (bY.mono (Nat.le_of_lt Vs));refine hK.out _ _ (qE Y bY' ((fX.sub (by simp)).trans (fY.sub (by simp)))) (fun hS=>?_);clear hK KK hY;refine wpAnyH_done Ys ?_ _;exact hQ Y (mQ.fr fY (by decide)) Js ((fX.sub (by simp)).trans (fY.sub (by simp))) bY'
def jh (nd:aA) (id:Int):Bool:=decide (nd.mode=0)||(decide (nd.holders.length=1)&&decide (nd.holders.headD 0=id))
theorem Lw (P V H U:Value) (nd:aA) (p:Option Addr) (n c:Nat) (eH:Hid (nd.holders.length=n)) (id:Int) (w:World) (tH:Hid (iA w (.slice p n c) nd.holders)) (hP:P.oneCell'=true) (hV:V.oneCell'=true) (hU:U.oneCell'=true) :
  Calls prog 105 #[.agg #[P,V,.int .u64 nd.owner,.int .i64 nd.mode,.slice p n c,.int .u64 nd.aC,.int .u64 nd.gen,U],.int .u64 id] w fun r w'=>r=.returned (.bool (jh nd id))/\Below w.heap.size w w':=by
 go_enter func105,ntmps105;by_cases hm:nd.mode=0;{
 have hf:jh nd id=true:=by simp [jh,hm]
 rw [hf];have R6:(nd.mode==0)=true:=by simp [hm]
 go_wp2;go_ret;exact ⟨rfl,ar.alloc ay _⟩};{
 have R6:(nd.mode==0)=false:=by simp [hm]
 by_cases hn:n=1;{
 obtain ⟨x,hx⟩:∃ x,nd.holders=[x]:=List.length_eq_one_iff.1 (by rw [aa eH,hn]);obtain ⟨b,o,rfl,hc⟩:=tH.at (k:=0) (x:=x) (by rw [hx];rfl);rw [Nat.add_zero] at hc;have gq:=fun ob:Obj=>af hc ((Below.refl _ w).alloc ay ob);have hf:Hid (jh nd id=decide (x=id)):=by show _=_;simp [jh,hm,hx]
 subst hn;have h1:((1:Int)==1)=true:=by decide
 by_cases hxi:x=id;{
 subst hxi;have h2:(x==x)=true:=by simp
 go_wp2;go_ret;have CM:jh nd x=true:=by rw [aa hf];simp
 exact ⟨by rw [CM];rfl,ar.alloc ay _⟩};{
 have h2:(x==id)=false:=by simpa using hxi
 go_wp2;go_ret;exact ⟨by rw [aa hf,decide_eq_false hxi];rfl,ar.alloc ay _⟩}};{
 have hf:Hid (jh nd id=false):=by show _=_;simp [jh,hm,aa eH,hn]
 have h1:((n:Int)==1)=false:=by simp;omega
 go_wp2;go_ret;exact ⟨by rw [aa hf];rfl,ar.alloc ay _⟩}}
end Go.Proofs.YtmfjiolopcbcmaaGreatDoor
