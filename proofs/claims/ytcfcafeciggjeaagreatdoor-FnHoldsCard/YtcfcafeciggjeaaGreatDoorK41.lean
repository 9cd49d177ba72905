import Derived.Test.YtcfcafeciggjeaaGreatDoorK40
namespace Go.Proofs.YtcfcafeciggjeaaGreatDoor
set_option maxHeartbeats 12800000
set_option linter.all false
set_option maxRecDepth 100000
open Go.ChangeShapes Go.WideShapes Go.ChangeAt Go.RowKit Go.Deep Go.Proofs.Tryz
variable {B c g rb sb t:Nat} {D:SD} {cd l:List Int} {ns:List aD} {p:Option Addr} {v:Value} {vs:List Value} {w w' w0 w1 w2:World}
theorem vt (cd:List Int) (t n:Nat) (hb:bM cd) (hl:cd.length<=500) (hn:n<=900):∃ D t',VD D/\0<=D.e/\bf4 cd t n D t':=by
 obtain ⟨f,hf⟩:=Classical.axiomOfChoice (fun t=>xK cd t hb hl);have yF:∀ t,Cj (f t):=fun t=>(hf t).1;have r0:=cG cd hb t;have r1:=cG cd hb (t+1);obtain ⟨x0,ex0⟩:=aH (cd.getD t 0);obtain ⟨x1,ex1⟩:=aH (cd.getD (t+1) 0);rw [ex0] at r0;rw [ex1] at r1;obtain ⟨D0,eD0⟩:=aL (⟨1+x0 % 3,0,0,x1 % 40,[],[]⟩:SD);have V0:VR 0 D0:=by rw [<-aa eD0];exact al8 r0 r1
 have V3:=fun k=>G7 V0 k;obtain ⟨D3,eD3⟩:=aL (CL D0 3);have W3:VR 0 D3:=by rw [<-aa eD3];exact V3 3
 have V7:=fun k=>Hu W3 k;obtain ⟨D7,eD7⟩:=aL (D8 D3 4);have W7:VR 0 D7:=by rw [<-aa eD7];exact V7 4
 have VK:=GS hb yF (s:=(D7,t+1+1)) W7;have hn9:n<1000:=by omega
 have VN:=VK n hn9;refine ⟨_,(runK cd f (D7,t+1+1) n).2,VN.1,VN.2.1,?_⟩;intro g p c w h;have EX:=ae (ag ex0 ex1);have HV:=ae (ag V3 (ag V7 VK));have HF:=ae hf;clear ex0 ex1 V0 V3 V7 VK hf yF W3 W7 VN;have mn:=h.lt;obtain ⟨W0,dh,b0,z0,C0⟩:=iq w;have hr0:=h.low b0 mn;have PC:=ae (ag C0 (Dr.below b0 mn));clear b0 C0;go_enter func83,ntmps83;go_wp2_with fail;rw [<-dh];clear dh;refine (fD g p cd c t W0 hr0 hb hl).mono ?_;rintro r w1 ⟨rfl,h1,d1⟩;rw [EX.1];go_wp2_with fail;refine (fD g p cd c (t+1) w1 h1 hb hl).mono ?_;rintro r w2 ⟨rfl,h2,d2⟩;rw [EX.2];have d12:=ae (d1.trans d2);have z2:w.heap.size+1<=w2.heap.size:=by have:=d12.2.1.size;omega
 obtain ⟨W3,kn,b3,z3,C3⟩:=ft w2 (.U (1+x0 % 3)) (.U 0) (.U 0) (.I (x1 % 40)) (.S none 0 0) (.S none 0 0);have H0:RB w W3 w2.heap.size g p cd c (t+1+1) D0:=by rw [<-aa eD0];exact ⟨⟨none,0,none,0,[],C3,dJ.nil _ _,RT.nil _ _ _ _ _⟩,((PC.1.fr d12.1)).below b3,h2.low b3 h2.lt,((PC.2.trans d12)).trans (Dr.below b3 (by omega)),by omega,mn⟩
 obtain ⟨sb,nA⟩:=aH w2.heap.size;rw [nA] at H0;have HH:=ae H0;have xW:=ae nA;clear H0 h1 d1 d2 h2 b3 C3 h hr0 z0 z3 d12 PC;have w3a:IntKind.u64.wrap (1+x0 % 3)=1+x0 % 3:=IntWalk.u64_in _ (by omega);clear nA z2;go_wp2;rw [<-kn];clear kn;rw [aa xW];clear xW
 go_loopw [6] (fun iv wr=>∃ k:Nat,k<=3/\iv=.I k/\Hid (RB w wr sb g p cd c (t+1+1) (CL D0 k))) (fun iv _=>3-(intOf iv).toNat)
 case atStart=>exact ⟨0,by omega,rfl,HH⟩
 case round =>(
 obtain ⟨k,hk,rfl,HR⟩:=hrel;by_cases bj:k<3;{
 have bm:(k:Int)<3:=by omega
 obtain ⟨ps,cs,qs,ds,Qs,hx,-,-⟩:=HR.st;obtain ⟨q0,q1,q2,q3,q4,q5,qf⟩:=hx.cells;obtain ⟨D,eD⟩:=aL (CL D0 k);have hv:VD (CL D0 k):=(HV.1 k).1;obtain ⟨R,eR⟩:=aL (aM (CL D0 k) 1 0 0 0 0 [] []);have hE:Hid (CL D0 (k+1)=R.1):=by rw [<-aa eR];rfl
 rw [aa eD] at HR hx q0 q1 q2 q3 q4 q5 hv eR;have HX:=ae (ag hx hv);clear hx hv;go_wp2_with fail;refine (HR.app HX.2 HX.1 1 0 0 0 0 none 0 none 0 [] [] (TB.nil _) (TB.nil _) (fun z hz=>by simp at hz) (by simp) (by simp) R eR).mono ?_;rintro r w' ⟨p1,c1,zh,d1,Rv,rfl,H2,uR,-⟩;obtain ⟨Z,hZ⟩:=ax (bg w' sb (.U R.1.e) (.U R.1.g) (.U R.1.x) (.I R.1.t) (.S p1 R.1.ss.length c1) (.S zh R.1.ns.length d1));rw [<-hZ] at H2;have H3:=ae H2;clear H2 HX HR q0 q1 q2 q3 q4 q5 qf;obtain ⟨q0,q1,q2,q3,q4,q5,qf⟩:=uR.cells;clear uR;unfold bg at hZ;go_wp2;rw [<-hZ];go_roundw
 case rel=>exact ⟨k+1,by omega,by go_num,by rw [aa hE];exact H3⟩
 case measure=>simp [intOf];omega}
 {
 have bm:¬ (k:Int)<3:=by omega
 have e3:k=3:=by omega
 subst e3;rw [aa eD3] at HR;go_wp2_with fail;refine (kV wr).mono ?_;rintro r w4 ⟨rfl,DO,b4,z4,aW3,ht4⟩;have H4:=ae (HR.below b4);obtain ⟨pb,epb⟩:=aH wr.heap.size;rw [epb] at DO ht4;have P4:Hid (Uu w4 pb):=⟨aW3,ht4,DO⟩;clear HR DO ht4 b4 z4;have EPB:=ae epb;clear epb;go_wp2;rw [aa EPB];clear EPB;have HCG:=ae (fun (vs:Array Value) (w:World)=>show (callFunc 40 vs).run prog w=.ok (.enter 40 vs) w by kernel_rfl)
 go_loopw [8] (fun iv wr=>∃ k:Nat,k<=4/\iv=.I k/\Hid (RB w wr sb g p cd c (t+1+1) (D8 D3 k))/\Hid (Uu wr pb)) (fun iv _=>4-(intOf iv).toNat)
 case atStart=>exact ⟨0,by omega,rfl,H4,P4⟩
 case round =>(
 obtain ⟨k,hk,rfl,HR,HP⟩:=hrel;by_cases bj:k<4;{
 have bm:(k:Int)<4:=by omega
 have tI:(k:Int)<10:=by omega
 obtain ⟨D,eD⟩:=aL (D8 D3 k);have hv:VD (D8 D3 k):=(HV.2.1 k).1;obtain ⟨P,eP⟩:=aL (CJ.getD k []);have hP:=vw k;rw [aa eP] at hP;obtain ⟨R,eR⟩:=aL (aM (D8 D3 k) 4 1 0 0 0 P []);have hE:Hid (D8 D3 (k+1)=R.1):=by rw [<-aa eR,<-aa eP];rfl
 rw [aa eD] at HR hv eR;obtain ⟨ps,cs,qs,ds,Qs,hx,-,-⟩:=HR.st;have hkp:∀ v,Uu v pb->v.cell? ⟨pb,k,none⟩=some (.string (aC P)):=fun v hv=>by obtain ⟨cur,-,hm⟩:=hv;rw [<-aa eP];exact hm k (by omega)
 have HK:=ae hkp;have HX:=ae (ag hx hv);clear hx hv hkp;go_wp2_with fail;obtain ⟨vA,aX⟩:=ax wr.drew;have bA:=dG aX;have HA:=ae (ag (HR.below bA) (ag (HP.fr (al bA) (by simp)) (HX.1.below bA)));refine bO (fun w'=>w'.cell? ⟨pb,k,none⟩=some (.string (aC P))) (by rw [<-aX];exact aa HK vA HA.2.1) fun hS=>?_;rw [<-aX] at hS ⊢;clear aX bA HR HP;refine gC 1 2 3 4 hS ?_;refine ry [0,5] ?_;refine cn (fun KK hK=>?_) (cn (fun KK hK=>?_) AllReadyH.nil);{
 obtain ⟨q0,q1,q2,q3,q4,q5,qf⟩:=HA.2.2.cells;go_simp;refine cg hK (by exact HK vA HA.2.1) fun hS=>?_;clear hK KK q0 q1 q2 q3 q4 q5 qf;refine bH 5 fun KK hK=>?_;refine yR P hP.1 (by omega) ?_;intro pp cp v1 u9 b1;have HB:=ae (ag (HA.1.below b1) (ag (HA.2.1.fr (al b1) (by simp)) (ag (HA.2.2.below b1) u9)));refine cg hK (by exact HK v1 HB.2.1) fun hS=>?_;clear hK KK u9 b1;refine tn 6 hS ?_;refine bH 7 fun KK hK=>?_;refine lD (HB.1.app HX.2 HB.2.2.1 4 1 0 0 0 pp cp none 0 P [] HB.2.2.2.tb (TB.nil _) hP.1 (by omega) (by simp) R eR) ?_;rintro r v2 ⟨p1,c1,zh,d1,Rv,rfl,H2,uR,Bj⟩;refine ⟨_,rfl,?_⟩;have H3:=ae (ag H2 (ag uR (HB.2.1.fr Bj)));clear H2 uR Bj;refine cg hK (by exact HK v2 H3.2.2) fun hS=>?_;clear hK KK;refine fe 8 9 hS ?_;refine tn 10 hS ?_;refine bH 11 fun KK hK=>?_;obtain ⟨Z,hZ⟩:=ax (bg v2 sb (.U R.1.e) (.U R.1.g) (.U R.1.x) (.I R.1.t) (.S p1 R.1.ss.length c1) (.S zh R.1.ns.length d1));have HZ:Hid (RB w Z sb g p cd c (t+1+1) R.1/\Uu Z pb):=by rw [hZ];obtain ⟨cur,hc⟩:=H3.2.1.2;exact ⟨H3.1,H3.2.2.fr (dT hc)⟩
 obtain ⟨q0,q1,q2,q3,q4,q5,qf⟩:=H3.2.1.cells;unfold bg at hZ;go_simp;rw [<-hZ];refine hK.out _ _ (by exact HK Z HZ.2) (fun hS=>?_);clear hK KK q0 q1 q2 q3 q4 q5 qf hZ;refine bu ?_;clear hS;go_wp2;go_roundw
 case rel=>exact ⟨k+1,by omega,by go_num,by rw [aa hE];exact HZ.1,HZ.2⟩
 case measure=>simp [intOf];omega}
 {
 refine yR P hP.1 (by omega) ?_;intro pp cp v1 u9 b1;have HB:=ae (ag (HA.1.below b1) (ag (HA.2.1.fr (al b1) (by simp)) (ag (HA.2.2.below b1) u9)));refine cg hK (by exact HK v1 HB.2.1) fun hS=>?_;clear hK KK u9 b1;refine tn 6 hS ?_;refine bH 0 fun KK hK=>?_;obtain ⟨q0,q1,q2,q3,q4,q5,qf⟩:=HB.2.2.1.cells;go_simp;refine cg hK (by exact HK v1 HB.2.1) fun hS=>?_;clear hK KK q0 q1 q2 q3 q4 q5 qf;refine bH 7 fun KK hK=>?_;refine lD (HB.1.app HX.2 HB.2.2.1 4 1 0 0 0 pp cp none 0 P [] HB.2.2.2.tb (TB.nil _) hP.1 (by omega) (by simp) R eR) ?_;rintro r v2 ⟨p1,c1,zh,d1,Rv,rfl,H2,uR,Bj⟩;refine ⟨_,rfl,?_⟩;have H3:=ae (ag H2 (ag uR (HB.2.1.fr Bj)));clear H2 uR Bj;refine cg hK (by exact HK v2 H3.2.2) fun hS=>?_;clear hK KK;refine fe 8 9 hS ?_;refine tn 10 hS ?_;refine bH 11 fun KK hK=>?_;obtain ⟨Z,hZ⟩:=ax (bg v2 sb (.U R.1.e) (.U R.1.g) (.U R.1.x) (.I R.1.t) (.S p1 R.1.ss.length c1) (.S zh R.1.ns.length d1));have HZ:Hid (RB w Z sb g p cd c (t+1+1) R.1/\Uu Z pb):=by rw [hZ];obtain ⟨cur,hc⟩:=H3.2.1.2;exact ⟨H3.1,H3.2.2.fr (dT hc)⟩
 obtain ⟨q0,q1,q2,q3,q4,q5,qf⟩:=H3.2.1.cells;unfold bg at hZ;go_simp;rw [<-hZ];refine hK.out _ _ (by exact HK Z HZ.2) (fun hS=>?_);clear hK KK q0 q1 q2 q3 q4 q5 qf hZ;refine bu ?_;clear hS;go_wp2;go_roundw
 case rel=>exact ⟨k+1,by omega,by go_num,by rw [aa hE];exact HZ.1,HZ.2⟩
 case measure=>simp [intOf];omega}}
 {
 have bm:¬ (k:Int)<4:=by omega
 have e3:k=4:=by omega
 subst e3;rw [aa eD7] at HR;go_wp2
 go_loopw [9] (fun iv wr=>∃ k:Nat,k<=n/\iv=.I k/\Hid (RB w wr sb g p cd c (runK cd f (D7,t+1+1) k).2 (runK cd f (D7,t+1+1) k).1)) (fun iv _=>n-(intOf iv).toNat)
 case atStart=>exact ⟨0,by omega,rfl,HR⟩
 case round =>(
 clear HR HP;obtain ⟨k,hk,rfl,HR⟩:=hrel;obtain ⟨s,es⟩:=aL (runK cd f (D7,t+1+1) k);have hv:VD (runK cd f (D7,t+1+1) k).1:=(HV.2.2 k (by omega)).1;rw [aa es] at HR hv;obtain ⟨D,tj⟩:=s;have HVD:=ae hv;clear hv;have YN:Hid (runK cd f (D7,t+1+1) n=(D,tj)->∀ (K9:Prop),K9=K9):=fun _ _=>rfl;clear YN;by_cases bj:k<n;{
 have bm:=aT k n;go_wp2_with fail;refine (ZH g p cd c tj wr HR.jP hl).mono ?_;rintro r w4 ⟨rfl,b4⟩;have H4:=ae (HR.below b4);clear HR b4;by_cases Tq:cd.length<=tj;{
 have e0:cd.length-tj=0:=by omega
 rw [e0];have hE:Hid (runK cd f (D7,t+1+1) n=(D,tj)):=by have:=y8 (cd:=cd) (f:=f) (s:=(D7,t+1+1)) (i:=k) (by rw [aa es];exact Tq) (n-k);rw [show k+(n-k)=n by omega,aa es] at this;exact this
 obtain ⟨ps,cs,qs,ds,Qs,hx,hS,hN⟩:=H4.st;obtain ⟨Z,hZ⟩:=ax (bg w4 w.heap.size (.U D.e) (.U D.g) (.U D.x) (.I D.t) (.S ps D.ss.length cs) (.S qs D.ns.length ds));have HZ:=ae (H4.fin hS hN hZ);obtain ⟨q0,q1,q2,q3,q4,q5,qf⟩:=hx.cells;obtain ⟨u0,u1,u2,u3,u4,u5,uf⟩:=H4.res.cells;unfold bg at hZ;clear hx hS hN;go_wp2;rw [<-hZ];clear hZ q0 q1 q2 q3 q4 q5 qf u0 u1 u2 u3 u4 u5 uf;obtain ⟨s0,s1,s2,s3,s4,s5,sf⟩:=HZ.1.cells;refine bodyPost_ret (v:=cY D.e D.g D.x D.t (.S ps D.ss.length cs) (.S qs D.ns.length ds)) (by simp [results,results83,go_sem,s0,s1,s2,s3,s4,s5]) rfl ?_;rw [aa hE]
 first | exact ⟨_,_,_,_,_,rfl,HZ.2⟩ | exact ⟨_,_,_,_,rfl,⟨_,HZ.2.1⟩,HZ.2.2⟩}
 {
 obtain ⟨lf,elf⟩:∃ lf:Nat,cd.length-tj=lf:=⟨_,rfl⟩;have hlf:=ja 0 lf;rw [elf];clear elf;have hG:Cj (f tj)/\DOp cd tj (f tj):=aa HF tj;have HG:=ae hG.1;have HD:=ae hG.2;obtain ⟨R,eR⟩:=aL (aM D (f tj).K (f tj).S (f tj).F (f tj).E (f tj).G (f tj).P (f tj).V);obtain ⟨y,ey⟩:=aL (cd.getD (f tj).t 0);obtain ⟨z,ez⟩:=aL (cd.getD ((f tj).t+1) 0);have hy:0<=y/\y<256:=by rw [<-aa ey];exact cG cd hb _
 have hz:0<=z/\z<256:=by rw [<-aa ez];exact cG cd hb _
 have hRt:Hid (R.1.t=D.t):=by rw [<-aa eR];exact Ie _ _ _ _ _ _ _ _
 have dz:Hid (runK cd f (D7,t+1+1) (k+1)=if y % 8=1 then ({ R.1 with t:=D.t+z % 6 },(f tj).t+1+1) else (R.1,(f tj).t+1)):=by show Fe cd f (runK cd f (D7,t+1+1) k)=_;rw [aa es,Fe,if_neg Tq];simp only [aa ey,aa ez,aa eR]
 clear hG;obtain ⟨ps,cs,qs,ds,Qs,hx,-,-⟩:=H4.st;have HX:=ae (ag hx (aa HVD));clear hx
 go_upto_region 14 with fail
 go_cut [] (fun wc=>Hid (RB w wc sb g p cd c (f tj).t R.1))
 case first =>(
 obtain ⟨vA,aX⟩:=ax w4.drew;have bA:=dG aX;have HA:=ae (ag (H4.below bA) (HX.1.below bA));refine bO (fun w'=>True) trivial fun hS=>?_;rw [<-aX];clear aX bA;refine tn 1 hS ?_;refine ry [0,2] ?_;refine cn (fun KK hK=>?_) (cn (fun KK hK=>?_) AllReadyH.nil);{
 obtain ⟨q0,q1,q2,q3,q4,q5,qf⟩:=HA.2.cells;go_simp;refine cg hK trivial fun hS=>?_;clear hK KK q0 q1 q2 q3 q4 q5 qf;refine bH 2 fun KK hK=>?_;refine ia (aa HD g p c vA HA.1.jP) ?_;rintro r v1 ⟨pp,cp,pq,cv,rfl,tP,tV,r1,d1⟩;refine ⟨_,rfl,?_⟩;have HB:=ae (ag (HA.1.draw r1 d1) (ag (HA.2.fr d1.1) (ag tP tV)));refine cg hK trivial fun hS=>?_;clear hK KK tP tV r1 d1;refine bH 3 fun KK hK=>?_;refine lD (HB.1.app HX.2 HB.2.1 (f tj).K (f tj).S (f tj).F (f tj).E (f tj).G pp cp pq cv (f tj).P (f tj).V HB.2.2.1 HB.2.2.2 HG.p (by have:=HG.pl;omega) (by have:=HG.vl;omega) R eR) ?_;rintro r v2 ⟨p1,c1,zh,d1,Rv,rfl,H2,uR,Bj⟩;refine ⟨_,rfl,?_⟩;have H3:=ae (ag H2 uR);clear H2 uR Bj;refine cg hK trivial fun hS=>?_;clear hK KK;refine fe 4 5 hS ?_;refine tn 6 hS ?_;refine bH 7 fun KK hK=>?_;obtain ⟨Z,hZ⟩:=ax (bg v2 sb (.U R.1.e) (.U R.1.g) (.U R.1.x) (.I R.1.t) (.S p1 R.1.ss.length c1) (.S zh R.1.ns.length d1));have HZ:Hid (RB w Z sb g p cd c (f tj).t R.1):=by rw [hZ];exact H3.1
 obtain ⟨q0,q1,q2,q3,q4,q5,qf⟩:=H3.2.cells;unfold bg at hZ;go_simp;rw [<-hZ];refine hK.out _ _ trivial (fun hS=>?_);clear hK KK q0 q1 q2 q3 q4 q5 qf hZ;refine bu ?_;clear hS;go_wp2;go_meet
 case rel=>exact HZ}
 {
 refine ia (aa HD g p c vA HA.1.jP) ?_;rintro r v1 ⟨pp,cp,pq,cv,rfl,tP,tV,r1,d1⟩;refine ⟨_,rfl,?_⟩;have HB:=ae (ag (HA.1.draw r1 d1) (ag (HA.2.fr d1.1) (ag tP tV)));refine cg hK trivial fun hS=>?_;clear hK KK tP tV r1 d1;refine bH 0 fun KK hK=>?_;obtain ⟨q0,q1,q2,q3,q4,q5,qf⟩:=HB.2.1.cells;go_simp;refine cg hK trivial fun hS=>?_;clear hK KK q0 q1 q2 q3 q4 q5 qf;refine bH 3 fun KK hK=>?_;refine lD (HB.1.app HX.2 HB.2.1 (f tj).K (f tj).S (f tj).F (f tj).E (f tj).G pp cp pq cv (f tj).P (f tj).V HB.2.2.1 HB.2.2.2 HG.p (by have:=HG.pl;omega) (by have:=HG.vl;omega) R eR) ?_;rintro r v2 ⟨p1,c1,zh,d1,Rv,rfl,H2,uR,Bj⟩;refine ⟨_,rfl,?_⟩;have H3:=ae (ag H2 uR);clear H2 uR Bj;refine cg hK trivial fun hS=>?_;clear hK KK;refine fe 4 5 hS ?_;refine tn 6 hS ?_;refine bH 7 fun KK hK=>?_;obtain ⟨Z,hZ⟩:=ax (bg v2 sb (.U R.1.e) (.U R.1.g) (.U R.1.x) (.I R.1.t) (.S p1 R.1.ss.length c1) (.S zh R.1.ns.length d1));have HZ:Hid (RB w Z sb g p cd c (f tj).t R.1):=by rw [hZ];exact H3.1
 obtain ⟨q0,q1,q2,q3,q4,q5,qf⟩:=H3.2.cells;unfold bg at hZ;go_simp;rw [<-hZ];refine hK.out _ _ trivial (fun hS=>?_);clear hK KK q0 q1 q2 q3 q4 q5 qf hZ;refine bu ?_;clear hS;go_wp2;go_meet
 case rel=>exact HZ})
 case rest=>
 have H5:=hcut;clear hcut H4 HX;obtain ⟨v5,Vx⟩:=ax wc;rw [<-Vx] at H5 ⊢;clear Vx wc;go_wp2_with fail;refine (fD g p cd c (f tj).t v5 H5.jP hb hl).mono ?_;rintro r w6 ⟨rfl,h6,d6⟩;rw [aa ey];have H6:=ae (H5.draw h6 d6);clear H5 h6 d6;by_cases hy8:y % 8=1;{
 have e1:=aa dz;rw [if_pos hy8] at e1;have HE:=ae e1;clear e1 dz;go_wp2_with fail;have ht:0<=R.1.t/\R.1.t<=1000000:=by rw [aa hRt];exact HVD.t
 have ht1:=ht.1;have ht2:=ht.2;clear ht;have hwr:IntKind.i64.wrap (R.1.t+z.tmod 6)=R.1.t+z % 6:=by rw [Int.tmod_eq_emod_of_nonneg hz.1];exact IntWalk.i64_in _ (by omega)
 obtain ⟨vA,aX⟩:=ax w6.drew;have bA:=dG aX;have HA:=ae (H6.below bA);refine bO (fun w'=>True) trivial fun hS=>?_;rw [<-aX];clear aX bA H6;refine fe 0 2 hS ?_;refine ry [1,3] ?_;refine cn (fun KK hK=>?_) (cn (fun KK hK=>?_) AllReadyH.nil);{
 obtain ⟨ps,cs,qs,ds,Qs,hx,-,-⟩:=HA.st;obtain ⟨q0,q1,q2,q3,q4,q5,qf⟩:=hx.cells;go_simp;refine cg hK trivial fun hS=>?_;clear hK KK q0 q1 q2 q3 q4 q5 qf hx;refine bH 3 fun KK hK=>?_;refine ia (fD g p cd c ((f tj).t+1) vA HA.jP hb hl) ?_;rintro r v1 ⟨rfl,r1,d1⟩;refine ⟨_,rfl,?_⟩;rw [aa ez];have HB:=ae (HA.draw r1 d1);refine cg hK trivial fun hS=>?_;clear hK KK r1 d1;refine fe 4 5 hS ?_;refine tn 6 hS ?_;refine bH 7 fun KK hK=>?_;have HZ:=ae (HB.time (R.1.t+z % 6));obtain ⟨Z,hZ⟩:=ax (v1.setCell ⟨sb,3,none⟩ (.I (R.1.t+z % 6)));rw [<-hZ] at HZ;obtain ⟨ps,cs,qs,ds,Qs,hx,-,-⟩:=HB.st;obtain ⟨q0,q1,q2,q3,q4,q5,qf⟩:=hx.cells;go_simp
 (try rw [hwr])
 rw [<-hZ];refine hK.out _ _ trivial (fun hS=>?_);clear hK KK q0 q1 q2 q3 q4 q5 qf hZ hx;refine bu ?_;clear hS;go_wp2;go_roundw
 case rel=>exact ⟨k+1,by omega,by go_num,by rw [aa HE,<-aa hRt];exact HZ⟩
 case measure=>simp [intOf];omega}
 {
 refine ia (fD g p cd c ((f tj).t+1) vA HA.jP hb hl) ?_;rintro r v1 ⟨rfl,r1,d1⟩;refine ⟨_,rfl,?_⟩;rw [aa ez];have HB:=ae (HA.draw r1 d1);refine cg hK trivial fun hS=>?_;clear hK KK r1 d1;refine tn 4 hS ?_;refine bH 1 fun KK hK=>?_;obtain ⟨ps,cs,qs,ds,Qs,hx,-,-⟩:=HB.st;obtain ⟨q0,q1,q2,q3,q4,q5,qf⟩:=hx.cells;go_simp;refine cg hK trivial fun hS=>?_;clear hK KK q0 q1 q2 q3 q4 q5 qf hx;refine fe 5 6 hS ?_;refine bH 7 fun KK hK=>?_;have HZ:=ae (HB.time (R.1.t+z % 6));obtain ⟨Z,hZ⟩:=ax (v1.setCell ⟨sb,3,none⟩ (.I (R.1.t+z % 6)));rw [<-hZ] at HZ;obtain ⟨ps,cs,qs,ds,Qs,hx,-,-⟩:=HB.st;obtain ⟨q0,q1,q2,q3,q4,q5,qf⟩:=hx.cells;go_simp
 (try rw [hwr])
 rw [<-hZ];refine hK.out _ _ trivial (fun hS=>?_);clear hK KK q0 q1 q2 q3 q4 q5 qf hZ hx;refine bu ?_;clear hS;go_wp2;go_roundw
 case rel=>exact ⟨k+1,by omega,by go_num,by rw [aa HE,<-aa hRt];exact HZ⟩
 case measure=>simp [intOf];omega}}
 {
 have e1:=aa dz;rw [if_neg hy8] at e1;have HE:=ae e1;have hy9:(y % 8==1)=false:=by simp [hy8]
 clear e1 dz;go_wp2;go_roundw
 case rel=>exact ⟨k+1,by omega,by go_num,by rw [aa HE];exact H6⟩
 case measure=>simp [intOf];omega}}}
 {
 have bm:=dy k n;have e3:k=n:=by omega
 subst e3;have hE:Hid (runK cd f (D7,t+1+1) k=(D,tj)):=es;obtain ⟨ps,cs,qs,ds,Qs,hx,hS,hN⟩:=HR.st;obtain ⟨Z,hZ⟩:=ax (bg wr w.heap.size (.U D.e) (.U D.g) (.U D.x) (.I D.t) (.S ps D.ss.length cs) (.S qs D.ns.length ds));have HZ:=ae (HR.fin hS hN hZ);obtain ⟨q0,q1,q2,q3,q4,q5,qf⟩:=hx.cells;obtain ⟨u0,u1,u2,u3,u4,u5,uf⟩:=HR.res.cells;unfold bg at hZ;clear hx hS hN;go_wp2;rw [<-hZ];clear hZ q0 q1 q2 q3 q4 q5 qf u0 u1 u2 u3 u4 u5 uf;obtain ⟨s0,s1,s2,s3,s4,s5,sf⟩:=HZ.1.cells;refine bodyPost_ret (v:=cY D.e D.g D.x D.t (.S ps D.ss.length cs) (.S qs D.ns.length ds)) (by simp [results,results83,go_sem,s0,s1,s2,s3,s4,s5]) rfl ?_;rw [aa hE]
 first | exact ⟨_,_,_,_,_,rfl,HZ.2⟩ | exact ⟨_,_,_,_,rfl,⟨_,HZ.2.1⟩,HZ.2.2⟩})})})
theorem RT.ZL {α:Type} {el el':World->α->List Value->Prop} {ty:TypeId} {sz:Nat} {xs:List α} (h:RT el ty sz B w v xs) (pL:∀ x∈xs,∀ c,el w x c->el' w' x c) (hr:∀ b,v.ownBlock=some b->w'.heap[b]?=w.heap[b]?):RT el' ty sz B w' v xs:=by
 obtain ⟨cs,h1,h2,h3,h4⟩:=h;refine ⟨cs,h1,h2,⟨h3.1,?_⟩,fun i x c hx hc=>pL x (aF hx) c (h4 i x c hx hc)⟩;rcases h3.2 with hn | ⟨g,cap,cur,rfl,hb,hg,rest⟩;{exact .inl hn};{exact .inr ⟨g,cap,cur,rfl,hb,(hr g rfl).trans hg,rest⟩}
def TW (w:World) (v:Value) (l:List Int):Prop:=nH w v l/\∀ b,v.ownBlock=some b->∃ cur,w.heap[b]?=some (.cells cur 23)
theorem TU.tw (h:TU B w v l):TW w v l:=⟨h.1,h.2.1⟩
theorem TW.fr {T:List TypeId} (h:TW w v l) (hf:Fr T w w') (ht:23∉T:=by decide):TW w' v l:=by
 obtain ⟨⟨p,c,rfl,hd⟩,h2⟩:=h;have hk:∀ b,(Value.slice p l.length c).ownBlock=some b->w'.heap[b]?=w.heap[b]?:=fun b e=>by obtain ⟨cur,hb⟩:=h2 b e;exact (hf.2 b cur _ _ ht hb).trans hb.symm
 refine ⟨⟨p,c,rfl,?_⟩,fun b e=>?_⟩;{rcases hd with hd | ⟨b,o,rfl,hd⟩;{exact .inl hd};{exact .inr ⟨b,o,rfl,fun i hi=>(ai (hk b rfl) _).trans (hd i hi)⟩}};{obtain ⟨cur,hb⟩:=h2 b e;exact ⟨cur,(hk b e).trans hb⟩}
def xF (w:World) (nd:aD) (c:List Value):Prop:=∃ P V H U,c=[P,V,.U nd.owner,.I nd.mode,H,.U nd.aB,.U nd.gen,U]/\TB w P nd.path/\TB w V nd.value/\TW w H nd.holders/\TW w U nd.watchers
abbrev Ig (B:Nat) (w:World) (v:Value) (ns:List aD):Prop:=RT xF 38 8 B w v ns
theorem xF.fr {T:List TypeId} (hf:Fr T w w') (ht:5∉T) (hu:23∉T) (x:aD) (c:List Value) (h:xF w x c):xF w' x c:=by
 obtain ⟨P,V,H,U,e,h1,h2,h3,h4⟩:=h;exact ⟨P,V,H,U,e,h1.fr hf ht,h2.fr hf ht,h3.fr hf hu,h4.fr hf hu⟩
theorem Ig.fr {T:List TypeId} (h:Ig B w v ns) (hf:Fr T w w') (ht:5∉T/\23∉T/\38∉T:=by decide):Ig B w' v ns:=
 RT.fr h hf ht.2.2 (xF.fr hf ht.1 ht.2.1)
theorem Ig.Td (h:Ig B w v ns):kJ w v ns:=by
 obtain ⟨p,c,rfl,-,-,hp⟩:=RT.form h;refine ⟨p,c,rfl,?_⟩;by_cases h0:ns=[];{exact .inl h0};{obtain ⟨g,rfl⟩:=hp (List.length_pos_iff.2 h0);refine .inr ⟨g,0,rfl,fun i nd hi=>?_⟩;obtain ⟨cs,-,⟨P,V,H,U,rfl,h1,h2,h3,h4⟩,la,hf⟩:=RT.at h hi;rw [Nat.zero_add];exact ⟨P,V,H,U,la 0 _ rfl,la 1 _ rfl,la 2 _ rfl,la 3 _ rfl,la 4 _ rfl,la 5 _ rfl,la 6 _ rfl,la 7 _ rfl,h1.1,h2.1,h3.1,h4.1,h1.2.2⟩}
abbrev LX:List TypeId:=[27,29,41,117]
abbrev Kx (w w':World):Prop:=Fr LX w w'
theorem dJ.kx {ss:List aY} {Qs:List Value} (h:dJ B w v ss Qs) (hk:Kx w w'):ic w' v ss:=(h.fr hk).Zv
theorem Ig.kx (h:Ig B w v ns) (hk:Kx w w'):kJ w' v ns:=(Ig.fr h hk).Td
theorem bS.kx {B0:Nat} (h:bS B0 B w v ns) (hk:Kx w w'):kJ w' v ns:=bS.Td (bS.fr h hk)
theorem Kx.pre {T:List TypeId} (f:Fr T w w1) (h:Kx w1 w') (hs:∀ t∈T,t∈LX:=by decide):Kx w w':=(f.sub hs).trans h
structure BD (D:SD):Prop where
 e:0<=D.e/\D.e<18446744073709551616
 g:0<=D.g/\D.g<18446744073709551616
 x:0<=D.x/\D.x<18446744073709551616
 sl:D.ss.length<=1000
 nl:D.ns.length<=1000
 s:∀ s∈D.ss,s.2.2.length<=1000/\∀ e∈s.2.2,bM e.2/\e.2.length<=1000
 n:∀ nd∈D.ns,bM nd.path/\nd.path.length<=1000/\nd.value.length<=1000/\bM nd.value/\nd.holders.length<=1000/\nd.watchers.length<=1000
theorem VD.ids (h:VD D) (hp:l.Pairwise (·<·)) (hm:∀ i∈l,i∈iD D.ss):l.length<=50:=by
 have:=vD l (iD D.ss) (hp.imp (fun FR e=>by omega)) hm;have:=h.sl;unfold iD at *;rw [List.length_map] at *;omega
theorem SV.q {x:Int} {s:aY} (h:SV x s):s.2.2.length<=8/\∀ e∈s.2.2,bM e.2/\e.2.length<=136:=by
 have q:=h.2.2.1;unfold fy at q;simp only [Bool.and_eq_true,decide_eq_true_eq,List.all_eq_true,List.mem_range] at q;refine ⟨q.1,fun e he=>⟨h.2.2.2 e he,?_⟩⟩;obtain ⟨i,hi⟩:=List.mem_iff_getElem?.1 he;have h1:=q.2 i (aN.1 hi).1;rw [List.getD_eq_getElem?_getD,hi,Option.getD_some] at h1;unfold iy at h1;split at h1;{simp only [Bool.and_eq_true,beq_iff_eq] at h1;omega};{simp only [Bool.and_eq_true] at h1;exact nZ h1.2.2}
theorem VD.bd (h:VD D) (he:0<=D.e):BD D:=by
 have h1:=h.e;have h2:=h.g;have h3:=h.x;have h4:=h.sl;have h5:=h.nl;refine ⟨⟨he,by omega⟩,⟨h2.1,by omega⟩,⟨h3.1,by omega⟩,by omega,by omega,fun s hs=>?_,fun nd aV=>?_⟩;{obtain ⟨q1,q2⟩:=(h.s2 s hs).q;exact ⟨by omega,fun e he=>⟨(q2 e he).1,by have:=(q2 e he).2;omega⟩⟩};{have hn:=h.n2 nd aV;have a1:=nZ hn.vp;have a2:=hn.va;have a3:=h.ids hn.h1 hn.h2;have a4:=h.ids hn.w1 hn.w2;exact ⟨hn.pb,by omega,by omega,hn.vb,by omega,by omega⟩}
def pF (g:Nat) (w w':World):Prop:=(w'.os=w.os/\w'.tape=w.tape/\w'.output=w.output)/\w.heap.size<=w'.heap.size/\∀ b,b≠g->b<w.heap.size->w'.heap[b]?=w.heap[b]?
theorem Dr.z (h:Dr g w w'):pF g w w':=⟨⟨h.2.1.os,h.2.1.tape,h.2.1.output⟩,h.2.1.size,h.2.2⟩
theorem pF.tr (h:pF g w w1) (h1:w2.os=w1.os/\w2.tape=w1.tape/\w2.output=w1.output) (hz:w1.heap.size<=w2.heap.size) (hk:∀ b,b≠g->b<w.heap.size->w2.heap[b]?=w1.heap[b]?):pF g w w2:=
 ⟨⟨h1.1.trans h.1.1,h1.2.1.trans h.1.2.1,h1.2.2.trans h.1.2.2⟩,Nat.le_trans h.2.1 hz,fun b hb hl=>(hk b hb hl).trans (h.2.2 b hb hl)⟩
theorem pF.trans (h:pF g w w1) (h2:pF g w1 w2):pF g w w2:=h.tr h2.1 h2.2.1 fun b hb hl=>h2.2.2 b hb (by have:=h.2.1;omega)
theorem pF.dr (h:pF g w w1) (d:Dr g w1 w2):pF g w w2:=h.tr ⟨d.2.1.os,d.2.1.tape,d.2.1.output⟩ d.2.1.size fun b hb hl=>d.2.2 b hb (by have:=h.2.1;omega)
theorem pF.add (h:pF g w w1) (h2:Below w.heap.size w1 w2):pF g w w2:=h.tr ⟨h2.os,h2.tape,h2.output⟩ h2.size fun b _ hl=>h2.block b hl
structure RA (w0 w:World) (sb rb g:Nat) (p:Option Addr) (cd:List Int) (c t:Nat) (vs:List Value):Prop where
 box:BX w sb vs
 res:BX w rb [.U 0,.U 0,.U 0,.I 0,.S none 0 0,.S none 0 0]
 jP:lu w g p cd c t
 dr:pF g w0 w
 ne:rb≠sb
 lo:w0.heap.size<=sb/\w0.heap.size<=rb
 gl:g<w0.heap.size
theorem RA.fr {T:List TypeId} (h:RA w0 w sb rb g p cd c t vs) (hf:Fr T w w1) (ht:27∉T) (hb:Below w0.heap.size w w1):RA w0 w1 sb rb g p cd c t vs:=
 ⟨h.box.fr hf ht,h.res.fr hf ht,h.jP.low hb h.gl,h.dr.add hb,h.ne,h.lo,h.gl⟩
theorem RA.draw {t':Nat} (h:RA w0 w sb rb g p cd c t vs) (hd:lu w1 g p cd c t') (d:Dr g w w1):RA w0 w1 sb rb g p cd c t' vs:=
 ⟨h.box.fr d.1,h.res.fr d.1,hd,h.dr.dr d,h.ne,h.lo,h.gl⟩
theorem RA.below (h:RA w0 w sb rb g p cd c t vs) (b:Bw w w1):RA w0 w1 sb rb g p cd c t vs:=h.draw (h.jP.low b h.jP.lt) (Dr.below b h.jP.lt)
theorem RA.set (h:RA w0 w sb rb g p cd c t vs) (j:Nat) (hj:j<vs.length) (u:Value):RA w0 (w.setCell ⟨sb,j,none⟩ u) sb rb g p cd c t (vs.set j u)/\Fr [27] w (w.setCell ⟨sb,j,none⟩ u):=by
 have ts:=bf (j:=j) (u:=u) h.box.2;have b2:Below sb w (w.setCell ⟨sb,j,none⟩ u):=aJ.setCell (p:=⟨sb,j,none⟩) aA _;exact ⟨⟨⟨h.box.1.dI j hj _,ts.1⟩,h.res.qz h.ne,h.jP.low (b2.mono h.lo.1) h.gl,h.dr.add (b2.mono h.lo.1),h.ne,h.lo,h.gl⟩,ts.2⟩
theorem RA.fin (h:RA w0 w sb rb g p cd c t vs) {v0 v1 v2 v3 v4 v5:Value} {Z:World} (hZ:Z=bg w rb v0 v1 v2 v3 v4 v5):BX Z rb [v0,v1,v2,v3,v4,v5]/\Fr [27] w Z/\lu Z g p cd c t/\pF g w0 Z:=by
 subst hZ;obtain ⟨cur,hc⟩:=h.res.2;have b2:=bt w rb v0 v1 v2 v3 v4 v5;exact ⟨h.res.put _ _ _ _ _ _,dT hc,h.jP.low (b2.mono h.lo.2) h.gl,h.dr.add (b2.mono h.lo.2)⟩
def JP (m:Nat):List aY:=(List.range m).map fun (i:Nat)=>((i:Int)+1,(i:Int),[])
def Kn (n:Nat):List aD:=(List.range n).map fun (i:Nat)=>gj [47,97+(i:Int) / 26,97+(i:Int) % 26] [] 0
theorem Ao (m:Nat):(JP m).length=m:=by simp [JP]
theorem Ap (m:Nat):(Kn m).length=m:=by simp [Kn]
theorem Kl (m:Nat):JP (m+1)=JP m++[((m:Int)+1,(m:Int),[])]:=by simp [JP,List.range_succ]
theorem Km (m:Nat):Kn (m+1)=Kn m++[gj [47,97+(m:Int) / 26,97+(m:Int) % 26] [] 0]:=by simp [Kn,List.range_succ]
theorem YU (m n:Nat) (hm:m<=500) (hn:n<=500):BD ⟨1,0,m,0,JP m,Kn n⟩:=by
 refine ⟨⟨by show (0:Int)<=1;decide,by show (1:Int)<18446744073709551616;decide⟩,⟨Int.le_refl _,by show (0:Int)<18446744073709551616;decide⟩,by show 0<=(m:Int)/\(m:Int)<18446744073709551616;omega,by show (JP m).length<=_;rw [Ao];omega,by show (Kn n).length<=_;rw [Ap];omega,fun s hs=>?_,fun nd aV=>?_⟩;{obtain ⟨i,-,rfl⟩:=List.mem_map.1 hs;exact ⟨Nat.zero_le _,fun e he=>by simp at he⟩};{obtain ⟨i,hi,rfl⟩:=List.mem_map.1 aV;have:=List.mem_range.1 hi;refine ⟨fun z hz=>?_,by simp [gj],by simp [gj],fun z hz=>by simp [gj] at hz,by simp [gj],by simp [gj]⟩;simp [gj] at hz;omega}
def DSf (f:FuncId) (cd:List Int) (t:Nat) (D:SD):Prop:=
 ∀ (g:Nat) (p:Option Addr) (c:Nat) (w:World),lu w g p cd c t->Calls prog f #[.pointer (some ⟨g,0,none⟩)] w fun r w'=>∃ ps cs qs ds,r=.returned (cY D.e D.g D.x D.t (.S ps D.ss.length cs) (.S qs D.ns.length ds))/\(∀ w2,Kx w' w2->ic w2 (.S ps D.ss.length cs) D.ss/\kJ w2 (.S qs D.ns.length ds) D.ns)/\pF g w w'
def DSp (cd:List Int) (t:Nat) (D D':SD):Prop:=
 ∀ (g:Nat) (p:Option Addr) (c:Nat) (w0 w:World) (ps:Option Addr) (cs:Nat) (qs:Option Addr) (ds:Nat) (Qs:List Value),lu w g p cd c t->g<w0.heap.size->pF g w0 w->dJ w0.heap.size w (.S ps D.ss.length cs) D.ss Qs->lX w0.heap.size w (.S qs D.ns.length ds) D.ns->Calls prog 84 #[cY D.e D.g D.x D.t (.S ps D.ss.length cs) (.S qs D.ns.length ds),.pointer (some ⟨g,0,none⟩)] w fun r w'=>∃ Qm Sf Zy ds',r=.returned (cY D'.e D'.g D'.x D'.t (.S Qm D'.ss.length Sf) (.S Zy D'.ns.length ds'))/\(∀ w2,Kx w' w2->ic w2 (.S Qm D'.ss.length Sf) D'.ss/\kJ w2 (.S Zy D'.ns.length ds') D'.ns)/\pF g w0 w'
def DAp (code:List Int) (D:SD) (O:Gv):Prop:=∀ (p:Option Addr) (c:Nat) (w:World),Rd w (.S p code.length c) code->code.length<=c->Calls prog 8 #[.S p code.length c] w fun r w'=>∃ ps cs qs ds pp cp pq cv,r=.returned (.tuple #[cY D.e D.g D.x D.t (.S ps D.ss.length cs) (.S qs D.ns.length ds),lW O.K O.S (.S pp O.P.length cp) O.F (.S pq O.V.length cv) O.E O.G])/\ic w' (.S ps D.ss.length cs) D.ss/\kJ w' (.S qs D.ns.length ds) D.ns/\TB w' (.S pp O.P.length cp) O.P/\TB w' (.S pq O.V.length cv) O.V/\Bw w w'
theorem Kk (cd:List Int) (t:Nat) (hb:bM cd) (hl:cd.length<=500):∃ D,BD D/\DSf 82 cd t D:=by
 have r0:=cG cd hb t;obtain ⟨x,ex⟩:=aL (cd.getD t 0);rw [aa ex] at r0;obtain ⟨m,n,em,en,hm,hn⟩:∃ m n:Nat,Hid ((if x % 2=0 then 2 else 49+x / 2 % 3)=(m:Int))/\Hid ((if x % 2=0 then 199+x / 2 % 3 else 2)=(n:Int))/\m<=300/\n<=300:=by by_cases h:x % 2=0;{exact ⟨2,(199+x / 2 % 3).toNat,by show _=_;rw [if_pos h];rfl,by show _=_;rw [if_pos h];omega,by omega,by omega⟩};{exact ⟨(49+x / 2 % 3).toNat,2,by show _=_;rw [if_neg h];omega,by show _=_;rw [if_neg h];rfl,by omega,by omega⟩}
 refine ⟨⟨1,0,m,0,JP m,Kn n⟩,YU m n (by omega) (by omega),?_⟩;intro g p c w h;have mn:=h.lt;obtain ⟨W0,dh,b0,z0,C0⟩:=iq w;have hr0:=h.low b0 mn;have PC:=ae (ag C0 (Dr.below b0 mn));clear b0 C0;go_enter func82,ntmps82;go_wp2_with fail;rw [<-dh];clear dh;refine (fD g p cd c t W0 hr0 hb hl).mono ?_;rintro r w1 ⟨rfl,h1,d1⟩;rw [aa ex];have z1:=d1.2.1.size;obtain ⟨W2,iL,b2,z2,C2⟩:=ft w1 (.U 1) (.U 0) (.U 0) (.I 0) (.S none 0 0) (.S none 0 0);obtain ⟨sb,nA⟩:=aH w1.heap.size;have H0:Hid (RA w W2 sb w.heap.size g p cd c (t+1) [.U 1,.U 0,.U 0,.I 0,.S none 0 0,.S none 0 0]):=by rw [<-nA];exact ⟨C2,(PC.1.fr d1.1).below b2,h1.low b2 h1.lt,((PC.2.trans d1).trans (Dr.below b2 (by omega))).z,by omega,⟨by omega,Nat.le_refl _⟩,mn⟩
 have xW:=ae nA;clear nA b2 z2 C2 d1 h1 hr0 h z0 PC z1
 go_upto_if 19 with fail
 rw [<-iL];rw [aa xW];clear xW iL
 go_cut [5,6] (fun nv mv wc=>nv=.I n/\mv=.I m/\wc=W2)
 case first =>(
 have e1:=aa em;have e2:=aa en;by_cases h:x % 2=0;{
 rw [if_pos h] at e1 e2;have Rc:(x % 2==0)=true:=by simp [h]
 have E1:=ae e1;have E2:=ae e2;clear e1 e2;go_wp2;go_meet
 case rel=>exact ⟨by rw [<-aa E2],by rw [<-aa E1],rfl⟩}
 {
 rw [if_neg h] at e1 e2;have Rc:(x % 2==0)=false:=by simp [h]
 have E1:=ae e1;have E2:=ae e2;clear e1 e2;go_wp2;go_meet
 case rel=>exact ⟨by rw [<-aa E2],by rw [<-aa E1],rfl⟩})
 case rest=>
 obtain ⟨rfl,rfl,Hg⟩:=hcut;rw [Hg];clear Hg wc;go_wp2
 go_loopw [7] (fun iv wr=>∃ (k:Nat) (ps:Option Addr) (cs:Nat) (Qs:List Value),k<=m/\iv=.I k/\Hid (RA w wr sb w.heap.size g p cd c (t+1) [.U 1,.U 0,.U k,.I 0,.S ps k cs,.S none 0 0])/\Hid (dJ w.heap.size wr (.S ps k cs) (JP k) Qs)) (fun iv _=>m-(intOf iv).toNat)
 case atStart=>exact ⟨0,none,0,[],by omega,rfl,H0,dJ.nil _ _⟩
 case round =>(
 clear H0;obtain ⟨k,ps,cs,Qs,hk,rfl,HR,HS⟩:=hrel;have hwl:=HR.dr.2.1;by_cases bj:k<m;{
 have bm:=aT k m;obtain ⟨q0,q1,q2,q3,q4,q5,qf⟩:=HR.box.cells;have wk:IntKind.u64.wrap ((k:Int)+1)=(k:Int)+1:=IntWalk.u64_in _ (by omega);obtain ⟨X,hX⟩:∃ X,X=wr.setCell ⟨sb,2,none⟩ (.U ((k:Int)+1)):=⟨_,rfl⟩;obtain ⟨RX,fX⟩:=HR.set 2 (by simp) (.U ((k:Int)+1));rw [<-hX] at RX fX;obtain ⟨Y,hY,bY,zY,CY,-⟩:=aj X #[.U ((k:Int)+1),.I k,.S none 0 0] 35;have zX:X.heap.size=wr.heap.size:=by rw [hX];simp
 rw [zX] at CY zY;have HY:=ae (ag (RX.below bY) (ag ((HS.fr fX).fr (al bY)) (ag CY.1 zY)));have lz:Hid (((JP k).zip Qs).length=k):=by show _=_;rw [List.length_zip,HS.len,Ao];simp
 have yB:Hid (∀ b,(Value.slice ps k cs).ownBlock=some b->w.heap.size<=b):=fun b hb=>(HS.row.lt b hb).1;clear RX fX bY zY CY zX;go_wp2_with (at_builtin;rw [<-hX,<-hY];refine gO rfl _ _ rfl w.heap.size (.S ps k cs) ((JP k).zip Qs) (((k:Int)+1,(k:Int),[]),ao) k lz rfl HY.2.1.row wr.heap.size rfl rfl HY.2.2.1 (by omega) (by have:=HY.1.dr.2.1;exact this) ?_);intro p' c' w9 hr9 fh uY;rw [<-hX,<-hY] at fh uY;have S9:=ae (HY.2.1.KI uY _ _ hr9);have B9:Below w.heap.size Y w9:=⟨fh.os,fh.tape,fh.output,fh.size,fun b hb=>fh.block b (by have:=HY.1.dr.2.1;omega) (fun e=>by have:=aa yB b e.symm;omega)⟩;have R9:=ae (HY.1.fr uY (by decide) B9);clear hr9 fh uY B9 HY lz yB q0 q1 q2 q3 q4 q5 qf hX hY;obtain ⟨q0,q1,q2,q3,q4,q5,qf⟩:=R9.box.cells;obtain ⟨RZ,fZ⟩:=R9.set 4 (by simp) (.S p' (k+1) c');have HZ:=ae (ag RZ (S9.fr fZ));clear RZ fZ;go_wp2;go_roundw
 case rel=>exact ⟨k+1,p',c',_,by omega,by go_num,HZ.1,by rw [Kl];exact HZ.2⟩
 case measure=>simp [intOf];omega}
 {
 have bm:=dy k m;have e3:k=m:=by omega
 subst e3;go_wp2
 go_loopw [8] (fun iv wr=>∃ (j:Nat) (qs:Option Addr) (ds:Nat),j<=n/\iv=.I j/\Hid (RA w wr sb w.heap.size g p cd c (t+1) [.U 1,.U 0,.U k,.I 0,.S ps k cs,.S qs j ds])/\Hid (dJ w.heap.size wr (.S ps k cs) (JP k) Qs)/\Hid (lX w.heap.size wr (.S qs j ds) (Kn j))) (fun iv _=>n-(intOf iv).toNat)
 case atStart=>exact ⟨0,none,0,by omega,rfl,HR,HS,RT.nil _ _ _ _ _⟩
 case round =>(
 clear HR HS;obtain ⟨j,qs,ds,hj,rfl,HR,HS,HN⟩:=hrel;have hwl:=HR.dr.2.1;by_cases bj:j<n;{
 have bm:=aT j n;obtain ⟨q0,q1,q2,q3,q4,q5,qf⟩:=HR.box.cells;obtain ⟨a1,ea1⟩:∃ a1:Int,97+(j:Int) / 26=a1:=⟨_,rfl⟩;obtain ⟨a2,ea2⟩:∃ a2:Int,97+(j:Int) % 26=a2:=⟨_,rfl⟩;obtain ⟨X,hX,bX,zX,CX,TX⟩:=aj wr #[.int .u8 47,.int .u8 (97+(j:Int) / 26),.int .u8 (97+(j:Int) % 26)] 5;obtain ⟨Y,hY,bY,zY,CY,-⟩:=aj X #[.S (some ⟨wr.heap.size,0,none⟩) 3 3,.S none 0 0,.U 0,.I 0,.S none 0 0,.U 0,.U 0,.S none 0 0] 38;have bW:=ah bX bY;have tb:TB Y (.S (some ⟨wr.heap.size,0,none⟩) 3 3) [47,97+(j:Int) / 26,97+(j:Int) % 26]:=by
  refine ⟨⟨_,_,rfl,.inr ⟨wr.heap.size,0,rfl,fun i hi=>?_⟩⟩,fun b e=>.inr ?_,_,_,_,rfl,by omega,by unfold maxLen;omega⟩;{
 have SR:=CX.below (by omega) bY;simp at hi;have:i=0\/i=1\/i=2:=by omega
 rw [Nat.zero_add];rcases this with rfl | rfl | rfl;{exact SR.1 0 _ rfl};{exact SR.1 1 _ rfl};{exact SR.1 2 _ rfl}};{simp only [Value.ownBlock,Option.some.injEq] at e;subst e;exact ⟨_,_,(bY.block _ (by omega)).trans TX⟩}
 have HY:=ae (ag (HR.below bW) (ag (HS.fr (al bW)) (ag (bS.fr (aa HN) (al bW)) (ag CY.1 tb))));have yB:Hid (∀ b,(Value.slice qs j ds).ownBlock=some b->w.heap.size<=b):=fun b hb=>(HN.lt b hb).1;have lz:Hid ((Kn j).length=j):=Ap j;have k5:=af q5 bX;rw [hX] at k5;rw [zX] at CY;have Im:=ae CY;clear bX bY bW CX CY TX tb zX zY ea1 ea2;go_wp2_with (at_builtin;rw [<-hX,<-hY];refine eG rfl _ _ rfl w.heap.size (.S qs j ds) (Kn j) (gj [47,97+(j:Int) / 26,97+(j:Int) % 26] [] 0) j lz rfl HY.2.2.1 (wr.heap.size+1) _ rfl ⟨_,_,_,_,rfl,HY.2.2.2.2,TB.nil _,TU.nil _,TU.nil _⟩ Im.1 (by omega) (by have:=HY.1.dr.2.1;exact this) ?_);intro p' c' w9 hr9 fh uY;rw [<-hX,<-hY] at fh uY;have B9:Below w.heap.size Y w9:=⟨fh.os,fh.tape,fh.output,fh.size,fun b hb=>fh.block b (by have:=HY.1.dr.2.1;omega) (fun e=>by have:=aa yB b e.symm;omega)⟩;have R9:=ae (HY.1.fr uY (by decide) B9);have S9:=ae (ag (HY.2.1.fr uY) hr9);clear hr9 fh uY B9 HY Im lz yB q0 q1 q2 q3 q4 q5 qf hX hY k5;obtain ⟨q0,q1,q2,q3,q4,q5,qf⟩:=R9.box.cells;obtain ⟨RZ,fZ⟩:=R9.set 5 (by simp) (.S p' (j+1) c');have HZ:=ae (ag RZ (ag (S9.1.fr fZ) (bS.fr S9.2 fZ)));clear RZ fZ;go_wp2;go_roundw
 case rel=>exact ⟨j+1,p',c',by omega,by go_num,HZ.1,HZ.2.1,by rw [Km];exact HZ.2.2⟩
 case measure=>simp [intOf];omega}
 {
 have bm:=dy j n;have e3:j=n:=by omega
 subst e3;obtain ⟨Z,hZ⟩:=ax (bg wr w.heap.size (.U 1) (.U 0) (.U k) (.I 0) (.S ps k cs) (.S qs j ds));have HZ:=ae (HR.fin hZ);obtain ⟨q0,q1,q2,q3,q4,q5,qf⟩:=HR.box.cells;obtain ⟨u0,u1,u2,u3,u4,u5,uf⟩:=HR.res.cells;unfold bg at hZ;go_wp2;rw [<-hZ];clear hZ q0 q1 q2 q3 q4 q5 qf u0 u1 u2 u3 u4 u5 uf;obtain ⟨s0,s1,s2,s3,s4,s5,sf⟩:=HZ.1.cells;refine bodyPost_ret (v:=cY 1 0 k 0 (.S ps k cs) (.S qs j ds)) (by simp [results,results82,go_sem,s0,s1,s2,s3,s4,s5]) rfl ?_;have f2:=HZ.2.1;refine ⟨ps,cs,qs,ds,?_⟩;rw [Ao,Ap];exact ⟨rfl,fun w2 hk=>⟨(HS.fr f2).kx hk,bS.kx (bS.fr HN f2) hk⟩,HZ.2.2.2⟩})})
end Go.Proofs.YtcfcafeciggjeaaGreatDoor
