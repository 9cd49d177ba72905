import Derived.Test.YtcfcafeciggjeaaGreatDoorDW3
namespace Go.Proofs.YtcfcafeciggjeaaGreatDoor
set_option maxHeartbeats 12800000
set_option linter.all false
set_option maxRecDepth 100000
open Go.ChangeShapes Go.WideShapes Go.ChangeAt Go.RowKit Go.Deep Go.Proofs.Tryz
theorem vt (cd:List Int) (t n:Nat) (hb:bM cd) (hl:cd.length<=500) (hn:n<=900):∃ D t',VD D/\UD D/\bf4 cd t n D t':=by
 obtain ⟨f,hf⟩:=Classical.axiomOfChoice (fun t=>xK cd t hb hl);have yF:∀ t,Cj (f t):=fun t=>(hf t).1;have r0:=cG cd hb t;have r1:=cG cd hb (t+1);obtain ⟨x0,ex0⟩:=aH (cd.getD t 0);obtain ⟨x1,ex1⟩:=aH (cd.getD (t+1) 0);rw [ex0] at r0;rw [ex1] at r1;obtain ⟨D0,eD0⟩:=aL (⟨1+x0 % 3,0,0,x1 % 40,[],[]⟩:SD);have V0:VR 0 D0:=by rw [<-aa eD0];exact al8 r0 r1
 have V3:=fun k=>Q9 V0 k;obtain ⟨D3,eD3⟩:=aL (CL D0 3);have W3:VR 0 D3:=by rw [<-aa eD3];exact V3 3
 have V7:=fun k=>Hu W3 k;obtain ⟨D7,eD7⟩:=aL (D8 D3 4);have W7:VR 0 D7:=by rw [<-aa eD7];exact V7 4
 have VK:=GS hb yF (s:=(D7,t+1+1)) W7;have hn9:n<1000:=ab;have VN:=VK n hn9;refine ⟨_,(runK cd f (D7,t+1+1) n).2,VN.1,VN.2.1,?_⟩;intro g p c w h;have EX:=ae (ag ex0 ex1);have HV:=ae (ag V3 (ag V7 VK));have HF:=ae hf;clear ex0 ex1 V0 V3 V7 VK hf yF W3 W7 VN;have mn:=h.lt;obtain ⟨W0,dh,b0,z0,C0⟩:=iq w;have hr0:=h.low b0 mn;have PC:=ae (ag C0 (Dr.below b0 mn));clear b0 C0;go_enter func83,ntmps83;go_wp2_with fail;rw [<-dh];clear dh;refine (fD g p cd c t W0 hr0 hb hl).mono ?_;rintro r w1 ⟨rfl,h1,d1⟩;rw [EX.1];go_wp2_with fail;refine (fD g p cd c (t+1) w1 h1 hb hl).mono ?_;rintro r w2 ⟨rfl,h2,d2⟩;rw [EX.2];have d12:=ae (d1.trans d2);have z2:w.heap.size+1<=w2.heap.size:=by have:=d12.2.1.size;omega
 obtain ⟨W3,kn,b3,z3,C3⟩:=ft w2 (.U (1+x0 % 3)) (.U 0) (.U 0) (.I (x1 % 40)) (.S none 0 0) (.S none 0 0);have H0:RB w W3 w2.heap.size g p cd c (t+1+1) D0:=by rw [<-aa eD0];exact ⟨⟨none,0,none,0,[],C3,SpS.nil _ _,RT.nil _ _ _ _ _⟩,((PC.1.fr d12.1)).below b3,h2.low b3 h2.lt,((PC.2.trans d12)).trans (Dr.below b3 ab),ab,mn⟩
 obtain ⟨sb,tX⟩:=aH w2.heap.size;rw [tX] at H0;have HH:=ae H0;have xW:=ae tX;clear H0 h1 d1 d2 h2 b3 C3 h hr0 z0 z3 d12 PC;have w3a:IntKind.u64.wrap (1+x0 % 3)=1+x0 % 3:=IntWalk.u64_in _ ab;clear tX z2;go_wp2;rw [<-kn];clear kn;rw [aa xW];clear xW
 go_loopw [6] (fun iv wr=>∃ k:Nat,k<=3/\iv=.I k/\Hid (RB w wr sb g p cd c (t+1+1) (CL D0 k))) (fun iv _=>3-(intOf iv).toNat)
 case atStart=>exact ⟨0,ab,rfl,HH⟩
 case round =>(
 obtain ⟨k,hk,rfl,HR⟩:=hrel;by_cases bj:k<3;{
 have da:(k:Int)<3:=ab;obtain ⟨ps,cs,qs,ds,Qs,hx,-,-⟩:=HR.st;obtain ⟨q0,q1,q2,q3,q4,q5,qf⟩:=hx.cells;obtain ⟨D,eD⟩:=aL (CL D0 k);have hv:VD (CL D0 k):=(HV.1 k).1;obtain ⟨R,eR⟩:=aL (aM (CL D0 k) 1 0 0 0 0 [] []);have hE:Hid (CL D0 (k+1)=R.1):=by rw [<-aa eR];rfl
 rw [aa eD] at HR hx q0 q1 q2 q3 q4 q5 hv eR;have HX:=ae (ag hx hv);clear hx hv;go_wp2_with fail;refine (HR.app HX.2 HX.1 1 0 0 0 0 none 0 none 0 [] [] (TB.nil _) (TB.nil _) (fun z hz=>by simp at hz) aU aU R eR).mono ?_;rintro r w' ⟨p1,c1,zh,d1,Rv,rfl,H2,uR,-⟩;obtain ⟨Z,hZ⟩:=ax (bg w' sb (.U R.1.e) (.U R.1.g) (.U R.1.x) (.I R.1.t) (.S p1 R.1.ss.length c1) (.S zh R.1.ns.length d1));rw [<-hZ] at H2;have H3:=ae H2;clear H2 HX HR q0 q1 q2 q3 q4 q5 qf;obtain ⟨q0,q1,q2,q3,q4,q5,qf⟩:=uR.cells;clear uR;unfold bg at hZ;go_wp2;rw [<-hZ];go_roundw
 case rel=>exact ⟨k+1,ab,by go_num,by rw [aa hE];exact H3⟩
 exact dC};{
 have da:¬ (k:Int)<3:=ab;have e3:k=3:=ab;subst e3;rw [aa eD3] at HR;go_wp2_with fail;refine (kV wr).mono ?_;rintro r w4 ⟨rfl,DO,b4,z4,aW3,ht4⟩;have H4:=ae (HR.below b4);obtain ⟨pb,epb⟩:=aH wr.heap.size;rw [epb] at DO ht4;have P4:Hid (Uu w4 pb):=⟨aW3,ht4,DO⟩;clear HR DO ht4 b4 z4;have EPB:=ae epb;clear epb;go_wp2;rw [aa EPB];clear EPB;have HCG:=ae (fun (vs:Array Value) (w:World)=>show (callFunc 40 vs).run prog w=.ok (.enter 40 vs) w by kernel_rfl)
 go_loopw [8] (fun iv wr=>∃ k:Nat,k<=4/\iv=.I k/\Hid (RB w wr sb g p cd c (t+1+1) (D8 D3 k))/\Hid (Uu wr pb)) (fun iv _=>4-(intOf iv).toNat)
 case atStart=>exact ⟨0,ab,rfl,H4,P4⟩
 case round =>(
 obtain ⟨k,hk,rfl,HR,HP⟩:=hrel;by_cases bj:k<4;{
 have da:(k:Int)<4:=ab;have tI:(k:Int)<10:=ab;obtain ⟨D,eD⟩:=aL (D8 D3 k);have hv:VD (D8 D3 k):=(HV.2.1 k).1;obtain ⟨P,eP⟩:=aL (CJ.getD k []);have hP:=vw k;rw [aa eP] at hP;obtain ⟨R,eR⟩:=aL (aM (D8 D3 k) 4 1 0 0 0 P []);have hE:Hid (D8 D3 (k+1)=R.1):=by rw [<-aa eR,<-aa eP];rfl
 rw [aa eD] at HR hv eR;obtain ⟨ps,cs,qs,ds,Qs,hx,-,-⟩:=HR.st;have hkp:∀ v,Uu v pb->v.cell? ⟨pb,k,none⟩=some (.string (aC P)):=fun v hv=>by obtain ⟨cur,-,hm⟩:=hv;rw [<-aa eP];exact hm k ab
 have HK:=ae hkp;have HX:=ae (ag hx hv);clear hx hv hkp;go_wp2_with fail;obtain ⟨vA,aX⟩:=ax wr.drew;have bA:=dG aX;have HA:=ae (ag (HR.below bA) (ag (HP.fr (al bA) aU) (HX.1.below bA)));refine bO (fun w'=>w'.cell? ⟨pb,k,none⟩=some (.string (aC P))) (by rw [<-aX];exact aa HK vA HA.2.1) fun hS=>?_;rw [<-aX] at hS ⊢;clear aX bA HR HP;refine gC 1 2 3 4 hS ?_;refine ry [0,5] ?_;refine cn (fun KK hK=>?_) (cn (fun KK hK=>?_) AllReadyH.nil);{
 obtain ⟨q0,q1,q2,q3,q4,q5,qf⟩:=HA.2.2.cells;go_simp;refine cg hK (by exact HK vA HA.2.1) fun hS=>?_;clear hK KK q0 q1 q2 q3 q4 q5 qf;refine bH 5 fun KK hK=>?_;refine yR P hP.1 ab ?_;intro pp cp v1 u9 b1;have HB:=ae (ag (HA.1.below b1) (ag (HA.2.1.fr (al b1) aU) (ag (HA.2.2.below b1) u9)));refine cg hK (by exact HK v1 HB.2.1) fun hS=>?_;clear hK KK u9 b1;refine tn 6 hS ?_;refine bH 7 fun KK hK=>?_;refine rz (HB.1.app HX.2 HB.2.2.1 4 1 0 0 0 pp cp none 0 P [] HB.2.2.2.tb (TB.nil _) hP.1 ab aU R eR) ?_;rintro r v2 ⟨p1,c1,zh,d1,Rv,rfl,H2,uR,Bj⟩;refine ⟨_,rfl,?_⟩;have H3:=ae (ag H2 (ag uR (HB.2.1.fr Bj)));clear H2 uR Bj;refine cg hK (by exact HK v2 H3.2.2) fun hS=>?_;clear hK KK;refine fe 8 9 hS ?_;refine tn 10 hS ?_;refine bH 11 fun KK hK=>?_;obtain ⟨Z,hZ⟩:=ax (bg v2 sb (.U R.1.e) (.U R.1.g) (.U R.1.x) (.I R.1.t) (.S p1 R.1.ss.length c1) (.S zh R.1.ns.length d1));have HZ:Hid (RB w Z sb g p cd c (t+1+1) R.1/\Uu Z pb):=by rw [hZ];obtain ⟨cur,hc⟩:=H3.2.1.2;exact ⟨H3.1,H3.2.2.fr (dT hc)⟩
 obtain ⟨q0,q1,q2,q3,q4,q5,qf⟩:=H3.2.1.cells;unfold bg at hZ;go_simp;rw [<-hZ];refine hK.out _ _ (by exact HK Z HZ.2) (fun hS=>?_);clear hK KK q0 q1 q2 q3 q4 q5 qf hZ;refine bu ?_;clear hS;go_wp2;go_roundw
 case rel=>exact ⟨k+1,ab,by go_num,by rw [aa hE];exact HZ.1,HZ.2⟩
 exact dC};{
 refine yR P hP.1 ab ?_;intro pp cp v1 u9 b1;have HB:=ae (ag (HA.1.below b1) (ag (HA.2.1.fr (al b1) aU) (ag (HA.2.2.below b1) u9)));refine cg hK (by exact HK v1 HB.2.1) fun hS=>?_;clear hK KK u9 b1;refine tn 6 hS ?_;refine bH 0 fun KK hK=>?_;obtain ⟨q0,q1,q2,q3,q4,q5,qf⟩:=HB.2.2.1.cells;go_simp;refine cg hK (by exact HK v1 HB.2.1) fun hS=>?_;clear hK KK q0 q1 q2 q3 q4 q5 qf;refine bH 7 fun KK hK=>?_;refine rz (HB.1.app HX.2 HB.2.2.1 4 1 0 0 0 pp cp none 0 P [] HB.2.2.2.tb (TB.nil _) hP.1 ab aU R eR) ?_;rintro r v2 ⟨p1,c1,zh,d1,Rv,rfl,H2,uR,Bj⟩;refine ⟨_,rfl,?_⟩;have H3:=ae (ag H2 (ag uR (HB.2.1.fr Bj)));clear H2 uR Bj;refine cg hK (by exact HK v2 H3.2.2) fun hS=>?_;clear hK KK;refine fe 8 9 hS ?_;refine tn 10 hS ?_;refine bH 11 fun KK hK=>?_;obtain ⟨Z,hZ⟩:=ax (bg v2 sb (.U R.1.e) (.U R.1.g) (.U R.1.x) (.I R.1.t) (.S p1 R.1.ss.length c1) (.S zh R.1.ns.length d1));have HZ:Hid (RB w Z sb g p cd c (t+1+1) R.1/\Uu Z pb):=by rw [hZ];obtain ⟨cur,hc⟩:=H3.2.1.2;exact ⟨H3.1,H3.2.2.fr (dT hc)⟩
 obtain ⟨q0,q1,q2,q3,q4,q5,qf⟩:=H3.2.1.cells;unfold bg at hZ;go_simp;rw [<-hZ];refine hK.out _ _ (by exact HK Z HZ.2) (fun hS=>?_);clear hK KK q0 q1 q2 q3 q4 q5 qf hZ;refine bu ?_;clear hS;go_wp2;go_roundw
 case rel=>exact ⟨k+1,ab,by go_num,by rw [aa hE];exact HZ.1,HZ.2⟩
 exact dC}};{
 have da:¬ (k:Int)<4:=ab;have e3:k=4:=ab;subst e3;rw [aa eD7] at HR;go_wp2
 go_loopw [9] (fun iv wr=>∃ k:Nat,k<=n/\iv=.I k/\Hid (RB w wr sb g p cd c (runK cd f (D7,t+1+1) k).2 (runK cd f (D7,t+1+1) k).1)) (fun iv _=>n-(intOf iv).toNat)
 case atStart=>exact ⟨0,ab,rfl,HR⟩
 case round =>(
 clear HR HP;obtain ⟨k,hk,rfl,HR⟩:=hrel;obtain ⟨s,es⟩:=aL (runK cd f (D7,t+1+1) k);have hv:VD (runK cd f (D7,t+1+1) k).1:=(HV.2.2 k ab).1;rw [aa es] at HR hv;obtain ⟨D,tj⟩:=s;have HVD:=ae hv;clear hv;have YN:Hid (runK cd f (D7,t+1+1) n=(D,tj)->∀ (K9:Prop),K9=K9):=fun _ _=>rfl;clear YN;by_cases bj:k<n;{
 have da:=aT k n;go_wp2_with fail;refine (ZH g p cd c tj wr HR.jP hl).mono ?_;rintro r w4 ⟨rfl,b4⟩;have H4:=ae (HR.below b4);clear HR b4;by_cases Tq:cd.length<=tj;{
 have e0:cd.length-tj=0:=ab;rw [e0];have hE:Hid (runK cd f (D7,t+1+1) n=(D,tj)):=by have:=Gs (cd:=cd) (f:=f) (s:=(D7,t+1+1)) (i:=k) (by rw [aa es];exact Tq) (n-k);rw [show k+(n-k)=n by omega,aa es] at this;exact this
 obtain ⟨ps,cs,qs,ds,Qs,hx,hS,hN⟩:=H4.st;obtain ⟨Z,hZ⟩:=ax (bg w4 w.heap.size (.U D.e) (.U D.g) (.U D.x) (.I D.t) (.S ps D.ss.length cs) (.S qs D.ns.length ds));have HZ:=ae (H4.fin hS hN hZ);obtain ⟨q0,q1,q2,q3,q4,q5,qf⟩:=hx.cells;obtain ⟨u0,u1,u2,u3,u4,u5,uf⟩:=H4.res.cells;unfold bg at hZ;clear hx hS hN;go_wp2;rw [<-hZ];clear hZ q0 q1 q2 q3 q4 q5 qf u0 u1 u2 u3 u4 u5 uf;obtain ⟨s0,s1,s2,s3,s4,s5,sf⟩:=HZ.1.cells;refine bodyPost_ret (v:=cY D.e D.g D.x D.t (.S ps D.ss.length cs) (.S qs D.ns.length ds)) (by simp [results,results83,go_sem,s0,s1,s2,s3,s4,s5]) rfl ?_;rw [aa hE]
 first | exact ⟨_,_,_,_,_,rfl,HZ.2⟩ | exact ⟨_,_,_,_,rfl,⟨_,HZ.2.1⟩,HZ.2.2⟩}
 {
 obtain ⟨lf,elf⟩:∃ lf:Nat,cd.length-tj=lf:=⟨_,rfl⟩;have hlf:=ja 0 lf;rw [elf];clear elf;have hG:Cj (f tj)/\DOp cd tj (f tj):=aa HF tj;have HG:=ae hG.1;have HD:=ae hG.2;obtain ⟨R,eR⟩:=aL (aM D (f tj).K (f tj).S (f tj).F (f tj).E (f tj).G (f tj).P (f tj).V);obtain ⟨y,ey⟩:=aL (cd.getD (f tj).t 0);obtain ⟨z,ez⟩:=aL (cd.getD ((f tj).t+1) 0);have hy:0<=y/\y<256:=by rw [<-aa ey];exact cG cd hb _
 have hz:0<=z/\z<256:=by rw [<-aa ez];exact cG cd hb _
 have hRt:Hid (R.1.t=D.t):=by rw [<-aa eR];exact Ie _ _ _ _ _ _ _ _
 have dz:Hid (runK cd f (D7,t+1+1) (k+1)=if y % 8=1 then ({ R.1 with t:=D.t+z % 6 },(f tj).t+1+1) else (R.1,(f tj).t+1)):=by show Fe cd f (runK cd f (D7,t+1+1) k)=_;rw [aa es,Fe,if_neg Tq];simp only [aa ey,aa ez,aa eR]
 clear hG;obtain ⟨ps,cs,qs,ds,Qs,hx,-,-⟩:=H4.st;have HX:=ae (ag hx (aa HVD));clear hx
 go_upto_region 14 with fail
 go_cut [] (fun wc=>Hid (RB w wc sb g p cd c (f tj).t R.1))
 case first =>(
 obtain ⟨vA,aX⟩:=ax w4.drew;have bA:=dG aX;have HA:=ae (ag (H4.below bA) (HX.1.below bA));refine bO (fun w'=>True) trivial fun hS=>?_;rw [<-aX];clear aX bA;refine tn 1 hS ?_;refine ry [0,2] ?_;refine cn (fun KK hK=>?_) (cn (fun KK hK=>?_) AllReadyH.nil);{
 obtain ⟨q0,q1,q2,q3,q4,q5,qf⟩:=HA.2.cells;go_simp;refine cg hK trivial fun hS=>?_;clear hK KK q0 q1 q2 q3 q4 q5 qf;refine bH 2 fun KK hK=>?_;refine ia (aa HD g p c vA HA.1.jP) ?_;rintro r v1 ⟨pp,cp,pq,cv,rfl,tP,tV,r1,d1⟩;refine ⟨_,rfl,?_⟩;have HB:=ae (ag (HA.1.draw r1 d1) (ag (HA.2.fr d1.1) (ag tP tV)));refine cg hK trivial fun hS=>?_;clear hK KK tP tV r1 d1;refine bH 3 fun KK hK=>?_;refine rz (HB.1.app HX.2 HB.2.1 (f tj).K (f tj).S (f tj).F (f tj).E (f tj).G pp cp pq cv (f tj).P (f tj).V HB.2.2.1 HB.2.2.2 HG.p (by have:=HG.pl;omega) (by have:=HG.vl;omega) R eR) ?_;rintro r v2 ⟨p1,c1,zh,d1,Rv,rfl,H2,uR,Bj⟩;refine ⟨_,rfl,?_⟩;have H3:=ae (ag H2 uR);clear H2 uR Bj;refine cg hK trivial fun hS=>?_;clear hK KK;refine fe 4 5 hS ?_;refine tn 6 hS ?_;refine bH 7 fun KK hK=>?_;obtain ⟨Z,hZ⟩:=ax (bg v2 sb (.U R.1.e) (.U R.1.g) (.U R.1.x) (.I R.1.t) (.S p1 R.1.ss.length c1) (.S zh R.1.ns.length d1));have HZ:Hid (RB w Z sb g p cd c (f tj).t R.1):=by rw [hZ];exact H3.1
 obtain ⟨q0,q1,q2,q3,q4,q5,qf⟩:=H3.2.cells;unfold bg at hZ;go_simp;rw [<-hZ];refine hK.out _ _ trivial (fun hS=>?_);clear hK KK q0 q1 q2 q3 q4 q5 qf hZ;refine bu ?_;clear hS;go_wp2;go_meet
 case rel=>exact HZ}
 {
 refine ia (aa HD g p c vA HA.1.jP) ?_;rintro r v1 ⟨pp,cp,pq,cv,rfl,tP,tV,r1,d1⟩;refine ⟨_,rfl,?_⟩;have HB:=ae (ag (HA.1.draw r1 d1) (ag (HA.2.fr d1.1) (ag tP tV)));refine cg hK trivial fun hS=>?_;clear hK KK tP tV r1 d1;refine bH 0 fun KK hK=>?_;obtain ⟨q0,q1,q2,q3,q4,q5,qf⟩:=HB.2.1.cells;go_simp;refine cg hK trivial fun hS=>?_;clear hK KK q0 q1 q2 q3 q4 q5 qf;refine bH 3 fun KK hK=>?_;refine rz (HB.1.app HX.2 HB.2.1 (f tj).K (f tj).S (f tj).F (f tj).E (f tj).G pp cp pq cv (f tj).P (f tj).V HB.2.2.1 HB.2.2.2 HG.p (by have:=HG.pl;omega) (by have:=HG.vl;omega) R eR) ?_;rintro r v2 ⟨p1,c1,zh,d1,Rv,rfl,H2,uR,Bj⟩;refine ⟨_,rfl,?_⟩;have H3:=ae (ag H2 uR);clear H2 uR Bj;refine cg hK trivial fun hS=>?_;clear hK KK;refine fe 4 5 hS ?_;refine tn 6 hS ?_;refine bH 7 fun KK hK=>?_;obtain ⟨Z,hZ⟩:=ax (bg v2 sb (.U R.1.e) (.U R.1.g) (.U R.1.x) (.I R.1.t) (.S p1 R.1.ss.length c1) (.S zh R.1.ns.length d1));have HZ:Hid (RB w Z sb g p cd c (f tj).t R.1):=by rw [hZ];exact H3.1
 obtain ⟨q0,q1,q2,q3,q4,q5,qf⟩:=H3.2.cells;unfold bg at hZ;go_simp;rw [<-hZ];refine hK.out _ _ trivial (fun hS=>?_);clear hK KK q0 q1 q2 q3 q4 q5 qf hZ;refine bu ?_;clear hS;go_wp2;go_meet
 case rel=>exact HZ})
 case rest=>
 have H5:=hcut;clear hcut H4 HX;obtain ⟨v5,Vx⟩:=ax wc;rw [<-Vx] at H5 ⊢;clear Vx wc;go_wp2_with fail;refine (fD g p cd c (f tj).t v5 H5.jP hb hl).mono ?_;rintro r w6 ⟨rfl,h6,d6⟩;rw [aa ey];have H6:=ae (H5.draw h6 d6);clear H5 h6 d6;by_cases hy8:y % 8=1;{
 have e1:=aa dz;rw [if_pos hy8] at e1;have HE:=ae e1;clear e1 dz;go_wp2_with fail;have ht:0<=R.1.t/\R.1.t<=1000000:=by rw [aa hRt];exact HVD.t
 have ht1:=ht.1;have ht2:=ht.2;clear ht;have hwr:IntKind.i64.wrap (R.1.t+z.tmod 6)=R.1.t+z % 6:=by rw [Int.tmod_eq_emod_of_nonneg hz.1];exact IntWalk.i64_in _ ab
 obtain ⟨vA,aX⟩:=ax w6.drew;have bA:=dG aX;have HA:=ae (H6.below bA);refine bO (fun w'=>True) trivial fun hS=>?_;rw [<-aX];clear aX bA H6;refine fe 0 2 hS ?_;refine ry [1,3] ?_;refine cn (fun KK hK=>?_) (cn (fun KK hK=>?_) AllReadyH.nil);{
 obtain ⟨ps,cs,qs,ds,Qs,hx,-,-⟩:=HA.st;obtain ⟨q0,q1,q2,q3,q4,q5,qf⟩:=hx.cells;go_simp;refine cg hK trivial fun hS=>?_;clear hK KK q0 q1 q2 q3 q4 q5 qf hx;refine bH 3 fun KK hK=>?_;refine ia (fD g p cd c ((f tj).t+1) vA HA.jP hb hl) ?_;rintro r v1 ⟨rfl,r1,d1⟩;refine ⟨_,rfl,?_⟩;rw [aa ez];have HB:=ae (HA.draw r1 d1);refine cg hK trivial fun hS=>?_;clear hK KK r1 d1;refine fe 4 5 hS ?_;refine tn 6 hS ?_;refine bH 7 fun KK hK=>?_;have HZ:=ae (HB.time (R.1.t+z % 6));obtain ⟨Z,hZ⟩:=ax (v1.setCell ⟨sb,3,none⟩ (.I (R.1.t+z % 6)));rw [<-hZ] at HZ;obtain ⟨ps,cs,qs,ds,Qs,hx,-,-⟩:=HB.st;obtain ⟨q0,q1,q2,q3,q4,q5,qf⟩:=hx.cells;go_simp
 (try rw [hwr])
 rw [<-hZ];refine hK.out _ _ trivial (fun hS=>?_);clear hK KK q0 q1 q2 q3 q4 q5 qf hZ hx;refine bu ?_;clear hS;go_wp2;go_roundw
 case rel=>exact ⟨k+1,ab,by go_num,by rw [aa HE,<-aa hRt];exact HZ⟩
 exact dC};{
 refine ia (fD g p cd c ((f tj).t+1) vA HA.jP hb hl) ?_;rintro r v1 ⟨rfl,r1,d1⟩;refine ⟨_,rfl,?_⟩;rw [aa ez];have HB:=ae (HA.draw r1 d1);refine cg hK trivial fun hS=>?_;clear hK KK r1 d1;refine tn 4 hS ?_;refine bH 1 fun KK hK=>?_;obtain ⟨ps,cs,qs,ds,Qs,hx,-,-⟩:=HB.st;obtain ⟨q0,q1,q2,q3,q4,q5,qf⟩:=hx.cells;go_simp;refine cg hK trivial fun hS=>?_;clear hK KK q0 q1 q2 q3 q4 q5 qf hx;refine fe 5 6 hS ?_;refine bH 7 fun KK hK=>?_;have HZ:=ae (HB.time (R.1.t+z % 6));obtain ⟨Z,hZ⟩:=ax (v1.setCell ⟨sb,3,none⟩ (.I (R.1.t+z % 6)));rw [<-hZ] at HZ;obtain ⟨ps,cs,qs,ds,Qs,hx,-,-⟩:=HB.st;obtain ⟨q0,q1,q2,q3,q4,q5,qf⟩:=hx.cells;go_simp
 (try rw [hwr])
 rw [<-hZ];refine hK.out _ _ trivial (fun hS=>?_);clear hK KK q0 q1 q2 q3 q4 q5 qf hZ hx;refine bu ?_;clear hS;go_wp2;go_roundw
 case rel=>exact ⟨k+1,ab,by go_num,by rw [aa HE,<-aa hRt];exact HZ⟩
 exact dC}};{
 have e1:=aa dz;rw [if_neg hy8] at e1;have HE:=ae e1;have hy9:(y % 8==1)=false:=by simp [hy8]
 clear e1 dz;go_wp2;go_roundw
 case rel=>exact ⟨k+1,ab,by go_num,by rw [aa HE];exact H6⟩
 exact dC}}};{
 have da:=dy k n;have e3:k=n:=ab;subst e3;have hE:Hid (runK cd f (D7,t+1+1) k=(D,tj)):=es;obtain ⟨ps,cs,qs,ds,Qs,hx,hS,hN⟩:=HR.st;obtain ⟨Z,hZ⟩:=ax (bg wr w.heap.size (.U D.e) (.U D.g) (.U D.x) (.I D.t) (.S ps D.ss.length cs) (.S qs D.ns.length ds));have HZ:=ae (HR.fin hS hN hZ);obtain ⟨q0,q1,q2,q3,q4,q5,qf⟩:=hx.cells;obtain ⟨u0,u1,u2,u3,u4,u5,uf⟩:=HR.res.cells;unfold bg at hZ;clear hx hS hN;go_wp2;rw [<-hZ];clear hZ q0 q1 q2 q3 q4 q5 qf u0 u1 u2 u3 u4 u5 uf;obtain ⟨s0,s1,s2,s3,s4,s5,sf⟩:=HZ.1.cells;refine bodyPost_ret (v:=cY D.e D.g D.x D.t (.S ps D.ss.length cs) (.S qs D.ns.length ds)) (by simp [results,results83,go_sem,s0,s1,s2,s3,s4,s5]) rfl ?_;rw [aa hE]
 first | exact ⟨_,_,_,_,_,rfl,HZ.2⟩ | exact ⟨_,_,_,_,rfl,⟨_,HZ.2.1⟩,HZ.2.2⟩})})})
end Go.Proofs.YtcfcafeciggjeaaGreatDoor
