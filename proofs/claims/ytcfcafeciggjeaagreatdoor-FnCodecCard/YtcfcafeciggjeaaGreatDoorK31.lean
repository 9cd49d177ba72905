import Derived.Test.YtcfcafeciggjeaaGreatDoorK18
import Derived.Test.YtcfcafeciggjeaaGreatDoorK27
import Derived.Test.YtcfcafeciggjeaaGreatDoorK14
import Derived.Test.YtcfcafeciggjeaaGreatDoorK29
import Derived.Lib.ConvBytes
namespace Go.Proofs.YtcfcafeciggjeaaGreatDoor
set_option maxHeartbeats 12800000
set_option linter.all false
set_option maxRecDepth 100000
open Go.ChangeShapes Go.WideShapes Go.ChangeAt Go.RowKit Go.Proofs.Tryz
variable {A:List Lf} {B M N a i i2 j j2:Nat} {d:Array Int} {l ss xs:List Int} {v:Value}
theorem zI (X:World) (v0:Value) (l0:List Int) (N:Nat) (en:Hid (l0.length=N)) (r0:Rd X v0 l0) (hl:N<=4194304) :
  Calls prog 61 #[.S (some ⟨X.heap.size,0,none⟩) 1 1] (X.alloc (.cells #[v0] 22)) fun e w'=>∃ p' c',e=.returned (.S p' N c')/\Own X.heap.size w' (.S p' N c') l0/\Bw X w':=by
 have ba:Bw X (X.alloc (.cells #[v0] 22)):=aJ.alloc aA _;refine (xh X.heap.size [v0] [l0] l0 N 1 rfl (by show _=_;simp [cat]) en _ ⟨rfl,fun j v x e1 e2=>?_⟩ hl ab).mono ?_;{
 match j,e1,e2 with
 | 0,e1,e2=>simp at e1 e2;subst e1 e2;exact ⟨aU,r0.below ba⟩}
 {rintro e w' ⟨p',c',rfl,o,hb⟩;exact ⟨p',c',rfl,Own.mono o aU,ah ba hb⟩}
theorem xM (I D:Int) (p:Option Addr) (c n:Nat) (Q:List Ev) (en:Hid (Q.length=n)) (w:World) (h:jJ w (.S p n c) Q) (hn:n<=1048576) (hbq:Hid (∀ e∈Q,e.2.length<=1048576)) :
  Calls prog 100 #[.agg #[.U I,.I D,.S p n c]] w fun r w'=>∃ p' c' A,r=.returned (.agg #[.U I,.I D,.S p' n c'])/\jJ w' (.S p' n c') Q/\LvE w' (.S p' n c') Q A/\lx w.heap.size w' A/\Bw w w':=by
 obtain ⟨ie,Yb,mw,iT,jW⟩:=info_parts Tryz.infoEv;have HR:=ae fun (w':World) (hb:Bw w w')=>h.below hb;clear h;obtain ⟨W,hW⟩:=ax (w.alloc (.cells #[.U I,.I D,.S p n c] 35));have bW:=ju hW;have zW:W.heap.size=w.heap.size+1:=by rw [hW];simp
 have k0:W.cell? ⟨w.heap.size,0,none⟩=some (.U I):=by rw [hW];simp
 have k1:W.cell? ⟨w.heap.size,1,none⟩=some (.I D):=by rw [hW];simp
 have k2:W.cell? ⟨w.heap.size,2,none⟩=some (.S p n c):=by rw [hW];simp
 go_enter func100,ntmps100;go_wp2_with fail;obtain ⟨W2,iL⟩:=ax (W.alloc (.cells #[.U 0,.I 0,.S none 0 0] 35));have Uo:=ju iL;have zW2:W2.heap.size=w.heap.size+2:=by rw [iL];simp;omega
 have TG:aq W2 (w.heap.size+1) [.U 0,.I 0,.S none 0 0]:=by rw [iL,show w.heap.size+1=W.heap.size by omega];exact aq.alloc W #[.U 0,.I 0,.S none 0 0] _
 rw [<-hW,<-iL];have b2:=ah bW Uo;have HK:=ae (ag (af k0 Uo) (ag (af k1 Uo) (af k2 Uo)));have Pt:=ae TG;clear hW iL Uo k0 k1 k2 bW zW TG
 go_loopw [3,9] (fun ov iv wr=>∃ (k:Nat) (Ls:List (List Lf)),k<=n/\iv=.I k/\Hid (OwnT Bv 49 2 W2.heap.size wr ov (Q.take k) Ls)/\Bw W2 wr) (fun _ iv _=>n-(intOf iv).toNat)
 case atStart=>exact ⟨0,[],Nat.zero_le _,rfl,OwnT.nil _ _ _ _ _,Below.refl _ _⟩
 case round =>(
 obtain ⟨k,Ls,hk,rfl,ho,aR⟩:=hrel;have BB:=ah b2 aR;by_cases bj:k<n;{
 have da:=aT k n;have fL:k<Q.length:=by rw [aa en];exact bj
 obtain ⟨⟨K,P⟩,hy⟩:∃ y,Q[k]?=some y:=⟨_,aK fL⟩;obtain ⟨b,o,rfl,hcK,u,Wk,Hk,qP⟩:∃ b o,p=some ⟨b,o,none⟩/\wr.cell? ⟨b,o+k*2,none⟩=some (.I K)/\∃ u,wr.cell? ⟨b,o+k*2+1,none⟩=some u/\Rd wr u P/\iH u:=by obtain ⟨p',c',ev,hd⟩:=aa HR _ BB;simp only [Value.slice.injEq] at ev;obtain ⟨rfl,-,-⟩:=ev;rcases hd with h0 | ⟨b,o,h1,h2⟩;{rw [h0] at fL;simp at fL};{exact ⟨b,o,h1,h2 k _ hy⟩}
 obtain ⟨pp,pc,m,rfl,em⟩:=Hk.gD;have hm:m<=1048576:=by rw [<-aa em];exact aa hbq _ (aF hy)
 have XK:=ae Hk;have HY:=ae hy;clear Hk qP hy fL;go_wp2_with fail;obtain ⟨X,hX⟩:=ax (wr.alloc (.cells #[.I K,.S pp m pc] 49));have Yl:=ju hX;have e0:X.cell? ⟨wr.heap.size,0,none⟩=some (.I K):=by rw [hX];simp
 have e1:X.cell? ⟨wr.heap.size,1,none⟩=some (.S pp m pc):=by rw [hX];simp
 obtain ⟨V,hV⟩:=ax X.drew;have P5:Bw wr V:=by rw [hV];exact Yl.drew
 rw [<-hX];refine bO (fun w'=>w'.cell? ⟨wr.heap.size,0,none⟩=some (.I K)/\w'.cell? ⟨wr.heap.size,1,none⟩=some (.S pp m pc)) (by exact ⟨e0,e1⟩) fun hS=>?_;rw [<-hV] at hS ⊢;have KV:=ae hS;have zV:wr.heap.size<V.heap.size:=World.block_lt_of_cell? V _ hS.1;have z2r:=aR.size;clear hX Yl e0 e1 hV hcK Wk;have OV:=ae (ho.below Bv.keep P5);have HU3:=ae fun b hb=>(ho.lt.1 b hb).2;have rV:=ae (XK.below P5);clear ho;refine gC 0 1 2 3 hS ?_;refine tn 4 hS ?_;refine bH 5 fun KK hK=>?_;go_simp;have S5:=(Below.refl V.heap.size V).alloc aA (.cells #[.S pp m pc] 22);refine cg hK (by exact ⟨af KV.1 S5,af KV.2 S5⟩) fun hS=>?_;clear hK KK;refine bH 6 fun KK hK=>?_;refine ia (zI V (.S pp m pc) P m em rV ab) ?_;rintro r v1 ⟨p6,c6,rfl,o6,DP⟩;refine ⟨_,rfl,?_⟩;have K6:=ae (ag (af KV.1 DP) (af KV.2 DP));refine cg hK (by exact K6) fun hS=>?_;clear hK KK S5;have O6:=ae o6;have B6:=ae DP;clear o6 DP;refine tn 7 hS ?_;refine bH 8 fun KK hK=>?_;go_simp;have A8:=(Below.refl v1.heap.size v1).alloc aA (.cells #[.I K,.S p6 m c6] 49);refine hK.out _ _ (by exact ⟨af K6.1 A8,af K6.2 A8⟩) (fun hS=>?_);clear hK KK;obtain ⟨Z,hZ⟩:=ax (v1.alloc (.cells #[.I K,.S p6 m c6] 49));have Xt:∀ j u,[Value.I K,.S p6 m c6][j]?=some u->Z.cell? ⟨v1.heap.size,j,none⟩=some u:=fun j u hu=>by have:=(aq.alloc v1 #[.I K,.S p6 m c6] 49).1 j u (by simpa using hu);rw [hZ];exact this
 rw [<-hZ] at A8 hS ⊢;have bVZ:Bw V Z:=ah B6 A8;have OZ:=OV.below Bv.keep bVZ;obtain ⟨lb,q1,q2,q3,q4⟩:=KR (kd:=.u8) (Own.below O6 A8);have XU:Bv Z (K,P) [.I K,.S p6 m c6] lb:=⟨p6,c6,by rw [aa em],by rw [aa em];exact (Own.below (aa O6) A8).rd,by rw [aa em];exact ⟨_,_,_,rfl,(Own.below (aa O6) A8).cap,(Own.below (aa O6) A8).BJ⟩,by rw [aa em];exact q1⟩;obtain ⟨cs,g1,g2,g3,g4,g5,g6,g7⟩:=id OZ;have zk:=OV.lt;have hle:(Q.take k).length<=1048576:=by rw [List.length_take];omega
 have z9:W2.heap.size<=Z.heap.size:=by have:=bVZ.size;omega
 clear hZ
 (try simp only [Act.put,xa,xb,xc])
 refine bH 9 fun KK hK=>?_;refine jB bU _ _ 33 bU W2.heap.size 49 ie _ 2 32 underlying33 Yb mw iT jW rfl bl u3 _ _ bU g4 v1.heap.size 1 1 [.I K,.S p6 m c6] bU rfl Xt (fun u hu=>by simp at hu;rcases hu with rfl | rfl<;>rfl) jC ab z9 ?_;intro v' w9 dW hg mr;have sn:=OwnT.snoc g1 g2 g3 g5 g6 g7 Bv.keep XU rfl q2 ab (fun a ha=>(zk.2 a ha).2) (fun b hb=>(zk.1 b hb).2) dW hg mr;rw [<-l9 (aa HY)] at sn;have fo:Bw W2 w9:=(ah (ah aR P5) bVZ).grown hg z9 (fun b hb=>(zk.1 b hb).1);have K9:w9.cell? ⟨wr.heap.size,0,none⟩=some (.I K)/\w9.cell? ⟨wr.heap.size,1,none⟩=some (.S pp m pc):=by
  have gd:some wr.heap.size≠u3.ownBlock:=fun e=>by have:=aa HU3 _ e.symm;omega
  exact ⟨hg.cell hS.1 gd,hg.cell hS.2 gd⟩
 refine cg hK (by exact K9) fun hS=>?_;clear hK KK;refine tn 10 hS ?_;refine bu ?_;have SN:=ae sn;clear hS sn dW hg mr g1 g2 g3 g4 g5 g6 g7 XU q1 q2 q3 q4 Xt OZ zk;go_wp2;go_roundw
 case rel=>exact ⟨k+1,_,ab,by go_num,SN,fo⟩
 exact dC};{
 have da:=dy k n;have Ex:k=n:=ab;subst Ex;have o2:=aa ho;rw [List.take_of_length_le (by rw [aa en];exact Nat.le_refl _)] at o2;obtain ⟨JR,A,IK,BN⟩:=o2.ev;obtain ⟨pv,cv,rfl,-⟩:=id JR;rw [aa en] at JR IK ⊢;obtain ⟨q0,q1,q2⟩:=aa HK;have c0:=af q0 aR;have c1:=af q1 aR;have TG:=Pt.below ab aR;have r0:=TG.1 0 _ rfl;have r1:=TG.1 1 _ rfl;have r2:=TG.1 2 _ rfl;have rf:=TG.2;have gd:¬ w.heap.size+1=w.heap.size:=ab;have RD:=ae (ag JR (ag IK BN));have Fz:=aR.size;clear JR IK BN o2 q0 q1 q2 TG;go_wp2;obtain ⟨JR,IK,BN⟩:=aa RD;obtain ⟨Z,hZ⟩:=ax (((wr.setCell ⟨w.heap.size+1,0,none⟩ (.U I)).setCell ⟨w.heap.size+1,1,none⟩ (.I D)).setCell ⟨w.heap.size+1,2,none⟩ (.S pv k cv));have hk:∀ a∈A,Z.heap[a.b]?=wr.heap[a.b]?:=fun a ha=>by have:=BN.lo a ha;rw [hZ];rw [dF _ _ _ _ dx,dF _ _ _ _ dx,dF _ _ _ _ dx]
 have Yk:Bw w Z:=by rw [hZ];exact ((BB.setCell aU _).setCell aU _).setCell aU _
 refine bodyPost_ret (v:=.agg #[.U I,.I D,.S pv k cv]) (by simp [results,results100,go_sem,r0,r1,r2]) rfl ⟨pv,cv,rfl,?_⟩;rw [<-hZ];exact ⟨JR.keepLv IK hk,A,LvE.keep IK hk,(BN.keep hk).mono ab,Yk⟩})
namespace Q
open Go.Sort
theorem uP (h1:scanUp (fun x=>!ltInt d[a]! x) d j i=i2) (h2:scanDown (fun x=>ltInt d[a]! x) d i2 j=j2) (h:j2<i2):partEqLoop ltInt a i j d=(i2,d):=by
 rw [partEqLoop];simp only [h1,h2];rw [if_pos h]
theorem yt (h1:scanUp (fun x=>!ltInt d[a]! x) d j i=i2) (h2:scanDown (fun x=>ltInt d[a]! x) d i2 j=j2) (h:¬ j2<i2) (hi:i<=i2) (hj:j2<=j) (hi0:0<i2):partEqLoop ltInt a i j d=partEqLoop ltInt a (i2+1) (j2-1) (swp d i2 j2):=by
 rw [partEqLoop];simp only [h1,h2];rw [if_neg h,dif_pos ab]
theorem Fi (aI off cap N a b piv:Nat) (d:Array Int) (hN:Hid (d.size=N)) (w:World) (h:HU w aI off d) (Ym:a<=piv) (hpb:piv<b) (hb:b<=N) (il:N<=1048576) :
  Calls prog 192 #[.S (some ⟨aI,off,none⟩) N cap,.I a,.I b,.I piv] w fun e w'=>e=.returned (.I (partitionEqual ltInt d a b piv).1)/\HU w' aI off (partitionEqual ltInt d a b piv).2/\w.grownBy w' (some aI):=by
 obtain ⟨⟨Q1,Q2⟩,eR⟩:∃ R,partitionEqual ltInt d a b piv=R:=⟨_,rfl⟩;rw [eR];have qO:=aa hN;obtain ⟨B1,eB1⟩:∃ x:Nat,(b:Int)-1=(x:Int):=⟨b-1,ab⟩;have YD:b-1=B1:=ab;have wB:=ji B1;obtain ⟨ca,fa⟩:=h a ab;obtain ⟨cp,fp⟩:=h piv ab;obtain ⟨u,eu⟩:=aH d[a]!;obtain ⟨v,ev⟩:=aH d[piv]!;have XI:=ae (h.swap (i:=a) (j:=piv) ab ab ev.symm eu.symm);rw [eu] at ca;rw [ev] at cp;obtain ⟨tt,ct⟩:=ij (q:=⟨aI,off+a,none⟩) (u:=.U v) cp;obtain ⟨d1,Xa⟩:=aH (swp d a piv);rw [Xa] at XI;have JK:Hid (d1.size=N):=by show _=_;rw [<-Xa,size_swp];exact qO
 have HG:=ae (aQ (aE w aI (off+a) (.U v)) (aE _ aI (off+piv) (.U u)));have EQ:Hid (partEqLoop ltInt a (a+1) B1 d1=(Q1,Q2)):=by show _=_;rw [<-eR,partitionEqual,Xa,YD]
 have kk1:=aT a N;have kk2:=aT piv N;go_enter func192,ntmps192;go_wp2_with fail
 go_region
 go_wp2_with fail
 go_loopw [9,10] (fun s9 AG wr=>∃ (i j:Nat) (dk:Array Int),s9=.I i/\AG=.I j/\a+1<=i/\i<=j+2/\j<=B1/\Hid (dk.size=N)/\Hid (HU wr aI off dk)/\Hid (partEqLoop ltInt a i j dk=(Q1,Q2))/\Hid (w.grownBy wr (some aI))) (fun s9 AG _=>(intOf AG+2-intOf s9).toNat)
 case atStart=>exact ⟨a+1,B1,_,by first | rfl | go_num,by first | rfl | go_num,ab,ab,ab,JK,XI,EQ,ar HG⟩
 case round =>(
 obtain ⟨i,j,dk,rfl,rfl,z1,z2,z3,Eu,Bp,hQ3,Ru⟩:=hrel;obtain ⟨y,ey⟩:=aH dk[a]!;have SJ:=ae ey;obtain ⟨I4,eI4⟩:∃ I,scanUp (fun x=>!ltInt dk[a]! x) dk j i=I:=⟨_,rfl⟩;obtain ⟨J5,eJ5⟩:∃ J,scanDown (fun x=>ltInt dk[a]! x) dk I4 j=J:=⟨_,rfl⟩;have EI4:=ae eI4;have EJ5:=ae eJ5;have OI:=EI4;have OG:=EJ5;go_wp2_with fail;obtain ⟨Y,eY⟩:=ax wr;subst eY
 go_loopw [9] (fun s wr=>∃ i4:Nat,s=.I i4/\i<=i4/\i4<=j+2/\Hid (HU wr aI off dk)/\Hid (scanUp (fun x=>!ltInt dk[a]! x) dk j i4=I4)/\Hid (w.grownBy wr (some aI))) (fun s _=>j+1-(intOf s).toNat)
 case atStart=>exact ⟨i,by first | rfl | go_num,ab,ab,Bp,EI4,Ru⟩
 case round =>(
 obtain ⟨i4,rfl,qa4,qb4,DQ,hE4,hG4⟩:=hrel;obtain ⟨Bc,Jn⟩:∃ B,(decide (i4<=j)&&((fun x=>!ltInt dk[a]! x) dk[i4]!))=B:=⟨_,rfl⟩;have vv:=ae Jn;go_wp2_with fail
 go_cut [43] (fun rv wc=>rv=.bool Bc/\wc=wr.drew)
 case first =>(
 by_cases jc:i4<=j;{
 have tK:=vj i4 j;have hdd:=aa Eu;obtain ⟨ci,-⟩:=aa DQ i4 ab;obtain ⟨ca,-⟩:=aa DQ a ab;obtain ⟨x,ex⟩:=aH dk[i4]!;rw [ex] at ci;rw [aa SJ] at ca;have k1:=aT i4 N;have k2:=aT a N;have k3:=dE 0 i4;obtain ⟨L,eL⟩:=aH (ltInt y x);have EL:=ae eL;have eB:Bc=(!L):=by rw [<-aa vv];simp only [decide_eq_true jc,Bool.true_and,ex,aa SJ,eL]
 subst eB;have K0:=ae (ag ci ca);refine bO (fun w'=>w'.cell? ⟨aI,off+i4,none⟩=some (.U x)/\w'.cell? ⟨aI,off+a,none⟩=some (.U y)) (by exact K0) fun hS=>?_;refine gy 0 1 2 3 4 5 6 7 hS ?_;refine gC 8 9 10 11 hS ?_;refine bH 12 fun KK hK=>?_;refine cL bU 191 _ _ _ bU (.U y) (.U x) bU bU (fun _=>dZ _ _) (dY y x _) ?_;rintro r' w2 ⟨rfl,rfl⟩;refine ⟨_,rfl,?_⟩;rw [aa EL];refine cg hK (by exact K0) fun hS=>?_;refine fe 13 14 hS ?_;refine bu ?_;go_wp2_with fail;go_meet;exact ⟨rfl,rfl⟩};{
 have tK:¬ (i4:Int)<=(j:Int):=ab;have eB:Bc=false:=by rw [<-aa vv,decide_eq_false jc];rfl
 subst eB;refine bO (fun w'=>True) trivial fun hS=>?_;refine gC 0 1 2 3 hS ?_;refine iI 4 5 6 7 hS ?_;refine iI 8 9 10 11 hS ?_;refine sn 12 hS ?_;refine sn 13 hS ?_;refine tn 14 hS ?_;refine bu ?_;go_wp2_with fail;go_meet;exact ⟨rfl,rfl⟩})
 obtain ⟨rfl,rfl⟩:=hcut;cases Bc with
 | true=>
  have hh:i4<=j/\((fun x=>!ltInt dk[a]! x) dk[i4]!)=true:=by have:=aa vv;rw [Bool.and_eq_true,decide_eq_true_iff] at this;exact this
  have hn:Hid (scanUp (fun x=>!ltInt dk[a]! x) dk j (i4+1)=I4):=by show _=_;rw [<-Kq hh.1 hh.2];exact aa hE4
  have hle:=hh.1;go_wp2;go_roundw
  case rel=>exact ⟨i4+1,by go_num,ab,ab,DQ.drew,hn,ar hG4⟩
  exact dC
 | false=>
  have dz:i4=I4:=by rw [<-aa hE4,Aq];have:=aa vv;rw [Bool.and_eq_false_iff,decide_eq_false_iff_not] at this;exact this
  subst dz;go_wp2_with fail
  go_loopw [10] (fun s wr=>∃ j5:Nat,s=.I j5/\i4<=j5+2/\j5<=j/\Hid (HU wr aI off dk)/\Hid (scanDown (fun x=>ltInt dk[a]! x) dk i4 j5=J5)/\Hid (w.grownBy wr (some aI))) (fun s _=>(intOf s).toNat)
  case atStart=>exact ⟨j,by first | rfl | go_num,ab,ab,DQ,EJ5,(ar hG4)⟩
  case round =>(
 obtain ⟨j5,rfl,qa5,qb5,yI,hE5,WA⟩:=hrel;obtain ⟨Bc,Jn⟩:∃ B,(decide (i4<=j5)&&((fun x=>ltInt dk[a]! x) dk[j5]!))=B:=⟨_,rfl⟩;have vv:=ae Jn;go_wp2_with fail
 go_cut [59] (fun rv wc=>rv=.bool Bc/\wc=wr.drew)
 case first =>(
 by_cases jc:i4<=j5;{
 have tK:=vj i4 j5;have hdd:=aa Eu;obtain ⟨ci,-⟩:=aa yI j5 ab;obtain ⟨ca,-⟩:=aa yI a ab;obtain ⟨x,ex⟩:=aH dk[j5]!;rw [ex] at ci;rw [aa SJ] at ca;have k1:=aT j5 N;have k2:=aT a N;have k3:=dE 0 j5;obtain ⟨L,eL⟩:=aH (ltInt y x);have EL:=ae eL;have eB:Bc=L:=by rw [<-aa vv];simp only [decide_eq_true jc,Bool.true_and,ex,aa SJ,eL]
 subst eB;have K0:=ae (ag ci ca);refine bO (fun w'=>w'.cell? ⟨aI,off+j5,none⟩=some (.U x)/\w'.cell? ⟨aI,off+a,none⟩=some (.U y)) (by exact K0) fun hS=>?_;refine gy 0 1 2 3 4 5 6 7 hS ?_;refine gC 8 9 10 11 hS ?_;refine bH 12 fun KK hK=>?_;refine cL bU 191 _ _ _ bU (.U y) (.U x) bU bU (fun _=>dZ _ _) (dY y x _) ?_;rintro r' w2 ⟨rfl,rfl⟩;refine ⟨_,rfl,?_⟩;rw [aa EL];refine cg hK (by exact K0) fun hS=>?_;refine tn 13 hS ?_;refine bu ?_;go_wp2_with fail;go_meet;exact ⟨rfl,rfl⟩};{
 have tK:¬ (i4:Int)<=(j5:Int):=ab;have eB:Bc=false:=by rw [<-aa vv,decide_eq_false jc];rfl
 subst eB;refine bO (fun w'=>True) trivial fun hS=>?_;refine gC 0 1 2 3 hS ?_;refine iI 4 5 6 7 hS ?_;refine iI 8 9 10 11 hS ?_;refine sn 12 hS ?_;refine tn 13 hS ?_;refine bu ?_;go_wp2_with fail;go_meet;exact ⟨rfl,rfl⟩})
 obtain ⟨rfl,rfl⟩:=hcut;cases Bc with
 | true=>
  have hh:i4<=j5/\((fun x=>ltInt dk[a]! x) dk[j5]!)=true:=by have:=aa vv;rw [Bool.and_eq_true,decide_eq_true_iff] at this;exact this
  have hle:=hh.1;obtain ⟨m,em⟩:∃ m:Nat,(j5:Int)-1=(m:Int):=⟨j5-1,ab⟩;have hn:Hid (scanDown (fun x=>ltInt dk[a]! x) dk i4 m=J5):=by show _=_;rw [<-aa hE5,By ab hh.1 hh.2,show j5-1=m by omega]
  go_wp2;go_roundw
  case rel=>exact ⟨m,by first | rfl | go_num,ab,ab,yI.drew,hn,ar WA⟩
  exact dC
 | false=>
  have dz:j5=J5:=by rw [<-aa hE5,tS ab];have:=aa vv;rw [Bool.and_eq_false_iff,decide_eq_false_iff_not] at this;exact this
  subst dz;by_cases qh:j5<i4;{have Wc:=aT j5 i4;have hq:=aa hQ3;rw [uP (aa OI) (aa OG) qh] at hq;simp only [Prod.mk.injEq] at hq;obtain ⟨eq1,RO⟩:=hq;subst eq1 RO;go_wp2;go_ret;exact ⟨rfl,yI,ar WA⟩};{
 have Wc:=dy j5 i4;have hq:=aa hQ3;rw [yt (aa OI) (aa OG) qh ab ab ab] at hq;have Ke:=ae hq;obtain ⟨c1,f1⟩:=aa yI i4 (by have:=aa Eu;omega);obtain ⟨c2,f2⟩:=aa yI j5 (by have:=aa Eu;omega);obtain ⟨p1,xB⟩:=aH dk[i4]!;obtain ⟨p2,xA⟩:=aH dk[j5]!;rw [xB] at c1;rw [xA] at c2;obtain ⟨tt,ct⟩:=ij (q:=⟨aI,off+i4,none⟩) (u:=.U p2) c2;have tY:=ae (yI.swap (i:=i4) (j:=j5) (by have:=aa Eu;omega) (by have:=aa Eu;omega) xA.symm xB.symm);have Od:=ae (aQ (aQ WA (aE _ aI (off+i4) (.U p2))) (aE _ aI (off+j5) (.U p1)));have l1:=aT i4 N;have l2:=aT j5 N;have l3:=dE 0 i4;have l4:=dE 0 j5;obtain ⟨m5,em5⟩:∃ m:Nat,(j5:Int)-1=(m:Int):=⟨j5-1,ab⟩;have WT:j5-1=m5:=ab;rw [WT] at Ke;have XQ:Hid ((swp dk i4 j5).size=N):=by show _=_;rw [size_swp];exact aa Eu
 go_wp2_with fail
 go_region
 go_wp2;go_roundw
 case rel=>exact ⟨i4+1,m5,_,by first | rfl | go_num,by first | rfl | go_num,ab,ab,ab,XQ,tY,Ke,ar (ar Od)⟩
 case measure=>simp [intOf];omega})))
end Q
namespace Q
open Go.Sort
theorem BG:SWO ltInt:=swo_ltInt
abbrev Left (a b a1 b1:Nat) (d dk:Array Int):Prop:=∀ R,PermIn a1 b1 dk R->SortedIn ltInt a1 b1 R->PermIn a b d R/\SortedIn ltInt a b R
theorem Qq (aI off cap N:Nat) (il:N<=1048576):∀ (n a b:Nat) (Dj:Int) (d:Array Int) (w:World),Hid (b-a=n)->Hid (d.size=N)->HU w aI off d->aI<w.heap.size->a<=b->b<=N->0<=Dj->Dj<=64->Go.Sort.Below ltInt a b d →
  Calls prog 179 #[.S (some ⟨aI,off,none⟩) N cap,.I a,.I b,.I Dj] w fun e w'=>
   e=.returned (.tuple #[])/\∃ d',HU w' aI off d'/\PermIn a b d d'/\SortedIn ltInt a b d'/\w.grownBy w' (some aI):=by
 intro n
 induction n using Nat.strongRecOn with
 | _ n ih=>
  intro a b Dj d w hn hN h jd FR hb tJ Cd hB;have IH:=ae ih;have H0:=ae h;have B0:=ae hB;go_enter func179,ntmps179;go_wp2_with fail
  go_loopw [1,2,3,8,9] (fun s1 s2 s3 s8 s9 wr=>∃ (a1 b1:Nat) (li:Int) (p q:Bool) (dk:Array Int),s1=.I a1/\s2=.I b1/\s3=.I li/\s8=.bool p/\s9=.bool q/\a<=a1/\a1<=b1/\b1<=b/\0<=li/\li<=64/\Hid (dk.size=N)/\Hid (HU wr aI off dk)/\Hid (Go.Sort.Below ltInt a1 b1 dk)/\Hid (Left a b a1 b1 d dk)/\Hid (w.grownBy wr (some aI))) (fun s1 s2 _ _ _ _=>(intOf s2-intOf s1).toNat)
  case atStart=>exact ⟨a,b,Dj,true,true,d,rfl,rfl,rfl,rfl,rfl,Nat.le_refl _,FR,Nat.le_refl _,tJ,Cd,hN,H0,B0,fun R h1 h2=>⟨h1,h2⟩,ld _ _⟩
  case round =>(
 obtain ⟨a1,b1,li,p,q,dk,rfl,rfl,rfl,rfl,rfl,z1,z2,z3,z4,z5,hD,hH,hB,hF,hG⟩:=hrel;obtain ⟨L,eL⟩:∃ x:Nat,(b1:Int)-(a1:Int)=(x:Int):=⟨b1-a1,ab⟩;have wL:=ji L;have BK:b1<=N:=ab;by_cases WI:L<=12;{have aS4:(L:Int)<=12:=ab;go_wp2_with fail;refine (ab6 aI off cap N a1 b1 dk hD _ hH z2 BK il).mono ?_;rintro e w1 ⟨rfl,tL,fO⟩;have HH1:=ae tL;have HG1:=ae (aQ hG fO);go_wp2;refine bodyPost_ret (results_none (h:=rfl) _ _ _) rfl ⟨rfl,_,HH1,?_,?_,HG1⟩;{have:=insertionSort_holds BG dk a1 b1 z2 (by rw [aa hD];exact BK);exact (aa hF _ this.1 this.2).1};{have:=insertionSort_holds BG dk a1 b1 z2 (by rw [aa hD];exact BK);exact (aa hF _ this.1 this.2).2}};{
 have aS4:¬ (L:Int)<=12:=ab;by_cases hli:li=0;{subst hli;go_wp2_with fail;refine (MC aI off cap N a1 b1 dk hD _ hH z2 BK il).mono ?_;rintro e w1 ⟨rfl,tL,fO⟩;have HH1:=ae tL;have HG1:=ae (aQ hG fO);go_wp2;refine bodyPost_ret (results_none (h:=rfl) _ _ _) rfl ⟨rfl,_,HH1,?_,?_,HG1⟩;{have:=heapSort_holds BG dk a1 b1 z2 (by rw [aa hD];exact BK);exact (aa hF _ this.1 this.2).1};{have:=heapSort_holds BG dk a1 b1 z2 (by rw [aa hD];exact BK);exact (aa hF _ this.1 this.2).2}};{
 have h8:a1+8<=b1:=ab
 go_upto_if 35 with fail
 go_cut [3] (fun s3 wc=>∃ (lj:Int) (d1:Array Int),s3=.I lj/\0<=lj/\lj<=64/\Hid (d1.size=N)/\Hid (HU wc aI off d1)/\Hid (PermIn a1 b1 dk d1)/\Hid (w.grownBy wc (some aI)))
 case first =>(
 cases p with
 | true=>
  go_wp2_with fail;go_meet;exact ⟨li,dk,rfl,z4,z5,hD,hH,permIn_refl dk a1 b1,hG⟩
 | false=>
  go_wp2_with fail;refine (JE aI off cap N a1 b1 dk hD _ hH (Nat.lt_of_lt_of_le jd hG.size) h8 BK il).mono ?_;rintro e w1 ⟨rfl,d1,tL,Pf,fO⟩;have HH1:=ae tL;have Pw:=ae Pf;have HG1:=ae (aQ hG fO);go_wp2_with fail;go_meet;exact ⟨li-1,d1,by first | rfl | go_num,ab,ab,Pw.1.trans hD,HH1,Pw,HG1⟩)
 obtain ⟨lj,d1,rfl,y1,y2,TL,tL,Pf,Ph⟩:=hcut;obtain ⟨Y1,eY1⟩:=ax wc;subst eY1;go_wp2_with fail;refine (IE aI off cap N a1 b1 d1 TL _ tL (Nat.lt_of_lt_of_le jd Ph.size) h8 BK il).mono ?_;rintro e w2 ⟨pv,t,rfl,v1,v2,sX,fU⟩;have UC:=ae sX;have HG2:=ae (aQ Ph fU)
 go_upto_if 50 with fail
 go_cut [11,12] (fun Zd s12 wc=>∃ (pw:Nat) (tt:Int) (d2:Array Int),Zd=.I pw/\s12=.I tt/\a1<=pw/\pw<b1/\Hid (d2.size=N)/\Hid (HU wc aI off d2)/\Hid (PermIn a1 b1 d1 d2)/\Hid (w.grownBy wc (some aI)))
 case first =>(
 by_cases ht:t=2;{
 subst ht;have q1:IntKind.i64.wrap ((b1:Int)-1)=(b1:Int)-1:=IntWalk.i64_in _ ab;have q2:IntKind.i64.wrap ((pv:Int)-(a1:Int))=(pv:Int)-(a1:Int):=IntWalk.i64_in _ ab;obtain ⟨nv,env⟩:∃ x:Nat,(b1:Int)-1-((pv:Int)-(a1:Int))=(x:Int):=⟨b1-1-(pv-a1),ab⟩;have q3:=ji nv;have bn:a1<=nv/\nv<b1:=ab
 go_wp2_with fail;refine (Ql aI off cap N a1 b1 d1 TL _ UC z2 BK il).mono ?_;rintro e w3 ⟨rfl,Bp,uA⟩;have HH3:=ae Bp;have HG3:=ae (aQ HG2 uA);have HP3:=ae (reverseRange_holds d1 a1 b1 z2 (by rw [aa TL];exact BK));go_wp2_with fail;go_meet;exact ⟨nv,1,_,rfl,rfl,bn.1,bn.2,HP3.1.trans TL,HH3,HP3,HG3⟩};{
 have ht':(t==2)=false:=by simp [ht]
 go_wp2_with fail;go_meet;exact ⟨pv,t,d1,rfl,rfl,v1,v2,TL,UC,permIn_refl d1 a1 b1,HG2⟩})
 obtain ⟨pw,tt,d2,rfl,rfl,x1,x2,Yt,sX,hP2,Yr⟩:=hcut;obtain ⟨Y2,Nt⟩:=ax wc;subst Nt
 go_upto_region 15 with fail
 go_cut [68] (fun s68 wc=>∃ Bq:Bool,s68=.bool Bq/\wc=Y2)
 case first =>(
 cases p<;>cases q
 all_goals
  go_wp2_with fail;go_meet;exact ⟨_,rfl,rfl⟩)
 obtain ⟨Bq,rfl,rfl⟩:=hcut
 go_upto_if 68 with fail
 go_cut [72] (fun s72 wc=>∃ d3:Array Int,Hid (d3.size=N)/\Hid (HU wc aI off d3)/\Hid (PermIn a1 b1 d2 d3)/\Hid (w.grownBy wc (some aI)))
 case first =>(
 cases Bq with
 | false=>
  go_wp2_with fail;go_meet;exact ⟨d2,Yt,sX,permIn_refl d2 a1 b1,Yr⟩
 | true=>
  go_wp2_with fail;refine (IF aI off cap N a1 b1 d2 Yt _ sX ab BK il).mono ?_;have jL:Go.Sort.Below ltInt a1 b1 d2:=(hB.perm (by rw [aa hD];exact BK) (aa Pf)).perm (by rw [aa TL];exact BK) (aa hP2);have XM:=ae (partialInsertionSort_holds BG d2 a1 b1 ab (by rw [aa Yt];exact BK) jL);generalize partialInsertionSort ltInt d2 a1 b1=R at XM;obtain ⟨R1,R2⟩:=R;rintro e w3 ⟨rfl,Bp,uA⟩;have HH3:=ae Bp;have HG3:=ae (aQ Yr uA);cases R2 with
  | true=>
   go_wp2;refine bodyPost_ret (results_none (h:=rfl) _ _ _) rfl ⟨rfl,R1,HH3,?_,?_,HG3⟩;{exact (aa hF R1 (permIn_trans _ _ _ a1 b1 (permIn_trans _ _ _ a1 b1 Pf hP2) XM.1) (XM.2 (by first | trivial | rfl))).1};{exact (aa hF R1 (permIn_trans _ _ _ a1 b1 (permIn_trans _ _ _ a1 b1 Pf hP2) XM.1) (XM.2 (by first | trivial | rfl))).2}
  | false=>
   go_wp2_with fail;go_meet;exact ⟨R1,XM.1.1.trans Yt,HH3,XM.1,HG3⟩)
 obtain ⟨d3,WC,Bp,aQ0,Ru⟩:=hcut;obtain ⟨Y3,eY3⟩:=ax wc;subst eY3;have hP3:Hid (PermIn a1 b1 dk d3):=permIn_trans _ _ _ a1 b1 (permIn_trans _ _ _ a1 b1 Pf hP2) aQ0;have Zu:Hid (Go.Sort.Below ltInt a1 b1 d3):=hB.perm (by rw [aa hD];exact BK) (aa hP3)
 go_upto_region 17 with fail
 go_cut [87] (fun s87 wc=>∃ B:Bool,s87=.bool B/\Hid (B=true->0<a1/\ltInt d3[a1-1]! d3[pw]! = false)/\wc=Y3.drew)
 case first =>(
 by_cases ha:0<a1;{have Tz:=ja 0 a1;have x8:(a1:Int)>0:=ab;obtain ⟨m,em⟩:∃ x:Nat,(a1:Int)-1=(x:Int):=⟨a1-1,ab⟩;have Ud:a1-1=m:=ab;have wm:=ji m;have qO:=aa WC;obtain ⟨c1,-⟩:=aa Bp m ab;obtain ⟨c2,-⟩:=aa Bp pw ab;obtain ⟨x,ex⟩:=aH d3[m]!;obtain ⟨y,ey⟩:=aH d3[pw]!;rw [ex] at c1;rw [ey] at c2;have k1:=aT m N;have k2:=aT pw N;have k3:=dE 0 m;obtain ⟨Lt,eLt⟩:=aH (ltInt x y);have EL:=ae eLt;have HX:Hid ((!Lt)=true->0<a1/\ltInt d3[a1-1]! d3[pw]! = false):=fun cR=>⟨ha,by rw [Ud,ex,ey,eLt];simpa using cR⟩;have K0:=ae (ag c1 c2);refine bO (fun w'=>w'.cell? ⟨aI,off+m,none⟩=some (.U x)/\w'.cell? ⟨aI,off+pw,none⟩=some (.U y)) (by exact K0) fun hS=>?_;refine gy 0 1 2 3 4 5 6 7 hS ?_;refine gC 8 9 10 11 hS ?_;refine bH 12 fun KK hK=>?_;refine cL bU 191 _ _ _ bU (.U x) (.U y) bU bU (fun _=>dZ _ _) (dY x y _) ?_;rintro r' w2' ⟨rfl,rfl⟩;refine ⟨_,rfl,?_⟩;rw [aa EL];refine cg hK (by exact K0) fun hS=>?_;refine fe 13 14 hS ?_;refine bu ?_;go_wp2_with fail;go_meet;exact ⟨_,rfl,HX,rfl⟩};{have Tz:¬ (0:Int)<(a1:Int):=ab;refine bO (fun w'=>True) trivial fun hS=>?_;refine fe 0 1 hS ?_;refine tn 2 hS ?_;refine iI 3 4 5 6 hS ?_;refine iI 7 8 9 10 hS ?_;refine sn 11 hS ?_;refine sn 12 hS ?_;refine sn 13 hS ?_;refine tn 14 hS ?_;refine bu ?_;go_wp2_with fail;go_meet;exact ⟨false,rfl,(fun h=>by cases h),rfl⟩})
 obtain ⟨B,rfl,hBB,rfl⟩:=hcut;cases B with
 | true=>
  obtain ⟨⟨mid,d4⟩,ePE⟩:∃ R,partitionEqual ltInt d3 a1 b1 pw=R:=⟨_,rfl⟩;have hc:=Fi aI off cap N a1 b1 pw d3 WC Y3.drew Bp x1 x2 BK il;rw [ePE] at hc;obtain ⟨m1,m2,m3,m4,m5⟩:=round_eq BG (partitionEqual_holds ltInt) (aa hBB rfl).1 x1 x2 (by rw [aa WC];exact BK) (aa Zu) (aa hBB rfl).2 ePE;have Py:Hid (d4.size=N):=m3.trans WC;have AF:=ae m4;have HL4:Hid (Left a b mid b1 d d4):=fun R r1 r2=>by have:=m5 R r1 r2;exact hF R (permIn_trans _ _ _ a1 b1 hP3 this.1) this.2
  go_wp2_with fail;refine hc.mono ?_;rintro e w4 ⟨rfl,DQ,sw⟩;have HH4:=ae DQ;have YL:=ae (aQ (ar Ru) sw);go_wp2;go_roundw
  case rel=>exact ⟨mid,b1,lj,p,q,d4,rfl,rfl,rfl,rfl,rfl,ab,ab,ab,ab,ab,Py,HH4,AF,HL4,YL⟩
  exact dC
 | false=>
  obtain ⟨⟨mid,ap,d4⟩,ePE⟩:∃ R,partition ltInt d3 a1 b1 pw=R:=⟨_,rfl⟩;have hc:=Ld aI off cap N a1 b1 pw d3 WC Y3.drew Bp x1 x2 BK il;rw [ePE] at hc;obtain ⟨m1,m2,m3,m4,m5,m6,m7⟩:=round_part BG (partition_holds ltInt) x1 x2 (by rw [aa WC];exact BK) (aa Zu) ePE;have Py:Hid (d4.size=N):=m3.trans WC;have AF:=ae m4;have mZ:=ae m5;have HL6:=ae m6;have HL7:=ae m7;obtain ⟨lL,elL⟩:∃ x:Nat,(mid:Int)-(a1:Int)=(x:Int):=⟨mid-a1,ab⟩;obtain ⟨rL,erL⟩:∃ x:Nat,(b1:Int)-(mid:Int)=(x:Int):=⟨b1-mid,ab⟩;have wlL:=ji lL;have wrL:=ji rL;obtain ⟨th,eth⟩:∃ x:Nat,(L:Int) / 8=(x:Int):=⟨L / 8,ab⟩;have bZ6:Int.tdiv (L:Int) 8=(th:Int):=by rw [<-eth];exact Int.tdiv_eq_ediv_of_nonneg ab
  have wth:=ji th;go_wp2_with fail;refine hc.mono ?_;rintro e w4 ⟨rfl,DQ,sw⟩;have HH4:=ae DQ;have YL:=ae (aQ (ar Ru) sw);by_cases hlr:lL<rL;{
 have aL4:=aT lL rL;go_wp2_with fail;refine (aa IH (mid-a1) (by have:=aa hn;omega) a1 mid lj d4 _ rfl Py HH4 (Nat.lt_of_lt_of_le jd YL.size) m1 ab y1 y2 AF).mono ?_;rintro e w5 ⟨rfl,d5,yI,Wx,hS5,qh⟩;have HH5:=ae yI;have HG5:=ae (aQ YL qh);obtain ⟨o1,o2⟩:=aa HL6 d5 Wx hS5;have XR:=ae o1;have XQ:Hid (d5.size=N):=Wx.1.trans Py;have XO:Hid (Left a b (mid+1) b1 d d5):=fun R r1 r2=>by have:=o2 R r1 r2;exact hF R (permIn_trans _ _ _ a1 b1 hP3 this.1) this.2
 go_wp2;go_roundw
 case rel=>exact ⟨mid+1,b1,lj,_,ap,d5,by first | rfl | go_num,rfl,rfl,rfl,rfl,ab,ab,ab,ab,ab,XQ,HH5,XR,XO,HG5⟩
 exact dC};{
 have aL4:=dy lL rL;obtain ⟨mp,emp⟩:∃ x:Nat,(mid:Int)+1=(x:Int):=⟨mid+1,ab⟩;have aU0:mid+1=mp:=ab;have wmp:=ji mp;rw [aU0] at mZ HL7;go_wp2_with fail;refine (aa IH (b1-mp) (by have:=aa hn;omega) mp b1 lj d4 _ rfl Py HH4 (Nat.lt_of_lt_of_le jd YL.size) ab ab y1 y2 mZ).mono ?_;rintro e w5 ⟨rfl,d5,yI,Wx,hS5,qh⟩;have HH5:=ae yI;have HG5:=ae (aQ YL qh);obtain ⟨o1,o2⟩:=aa HL7 d5 Wx hS5;have XR:=ae o1;have XQ:Hid (d5.size=N):=Wx.1.trans Py;have XO:Hid (Left a b a1 mid d d5):=fun R r1 r2=>by have:=o2 R r1 r2;exact hF R (permIn_trans _ _ _ a1 b1 hP3 this.1) this.2
 go_wp2;go_roundw
 case rel=>exact ⟨a1,mid,lj,_,ap,d5,rfl,rfl,rfl,rfl,rfl,ab,ab,ab,ab,ab,XQ,HH5,XR,XO,HG5⟩
 case measure=>simp [intOf];omega}}})
end Q
namespace Q
open Go.Sort
theorem QP (cap:Nat) (w:World):Calls prog 185 #[.S none 0 cap,.I 0,.I 0] w fun e w'=>e=.returned (.tuple #[])/\w'=w:=by
 go_enter func185,ntmps185;go_wp2_with fail
 go_loopw [6] (fun s6 wr=>s6=.I 1/\wr=w) (fun _ _=>0)
 case atStart=>exact ⟨rfl,rfl⟩
 case round =>(
 obtain ⟨rfl,rfl⟩:=hrel;go_wp2
 go_end0
 exact ⟨rfl,rfl⟩)
theorem Qp (cap:Nat) (w:World):Calls prog 179 #[.S none 0 cap,.I 0,.I 0,.I 0] w fun e w'=>e=.returned (.tuple #[])/\w'=w:=by
 go_enter func179,ntmps179;go_wp2_with fail
 go_loopw [1,2,3,8,9] (fun s1 s2 s3 s8 s9 wr=>s1=.I 0/\s2=.I 0/\s3=.I 0/\s8=.bool true/\s9=.bool true/\wr=w) (fun _ _ _ _ _ _=>0)
 case atStart=>exact ⟨rfl,rfl,rfl,rfl,rfl,rfl⟩
 case round =>(
 obtain ⟨rfl,rfl,rfl,rfl,rfl,rfl⟩:=hrel;go_wp2_with fail;refine (QP cap _).mono ?_;rintro e w1 ⟨rfl,rfl⟩;go_wp2;exact bodyPost_ret (results_none (h:=rfl) _ _ _) rfl ⟨rfl,rfl⟩)
theorem DD (cap:Nat) (w:World):Calls prog 168 #[.S none 0 cap] w fun e w'=>e=.returned (.tuple #[])/\w'=w:=by
 have hL:=AV 0 ab;have e0:Lib.bitLen 0=0:=bl;rw [e0] at hL;go_enter func168,ntmps168;go_wp2_with fail;refine (hL _).mono ?_;rintro e w1 ⟨rfl,rfl⟩;go_wp2_with fail;refine (Qp cap _).mono ?_;rintro e w1 ⟨rfl,rfl⟩;go_wp2
 go_end0
 exact ⟨rfl,rfl⟩
theorem KH (aI off cap N:Nat) (d:Array Int) (hN:Hid (d.size=N)) (il:N<=1048576) (w:World) (h:HU w aI off d) (jd:aI<w.heap.size) :
  Calls prog 168 #[.S (some ⟨aI,off,none⟩) N cap] w fun e w'=>
   e=.returned (.tuple #[])/\∃ d',HU w' aI off d'/\PermIn 0 N d d'/\SortedIn ltInt 0 N d'/\w.grownBy w' (some aI):=by
 have hL:=AV N il;have hK:Lib.bitLen N<=21:=Lib.bitLen_le N 21 ab ab;generalize Lib.bitLen N=K at hL hK;have wU:IntKind.u64.wrap (N:Int)=(N:Int):=by rw [IntKind.wrap_u64];omega
 have H0:=ae h;clear h;go_enter func168,ntmps168;go_wp2_with fail;refine (hL _).mono ?_;rintro e w1 ⟨rfl,rfl⟩;go_wp2_with fail;refine (Qq aI off cap N il N 0 N K d _ (by show _=_;omega) hN H0 jd (Nat.zero_le _) aA ab ab (Or.inl rfl)).mono ?_;rintro e w2 ⟨rfl,d',hH,hP,hS,hg⟩;have HH:=ae hH;have HP:=ae hP;have HS:=ae hS;have HG:=ae hg;clear hH hP hS hg;go_wp2
 go_end0
 exact ⟨rfl,d',HH,HP,HS,HG⟩
theorem zM (aI off cap:Nat) (l:List Int) (il:l.length<=1048576) (w:World) (h:HU w aI off l.toArray) (jd:aI<w.heap.size) :
  Calls prog 168 #[.S (some ⟨aI,off,none⟩) l.length cap] w fun e w'=>
   e=.returned (.tuple #[])/\HU w' aI off (l.mergeSort (fun x y=>decide (x<=y))).toArray/\w.grownBy w' (some aI):=by
 refine (KH aI off cap l.length l.toArray (by show _=_;simp) il w h jd).mono ?_;rintro e w' ⟨rfl,d',hH,hP,hS,hg⟩;refine ⟨rfl,?_,hg⟩;have e:=sorted_unique_holds BG (fun x y h1 h2=>by simp [ltInt] at h1 h2;omega) l.toArray d' (by simpa using hP) (by simpa using hS);have e2:(fun x y:Int=>!ltInt y x)=(fun x y=>decide (x<=y)):=by
  funext x y
  by_cases hh:x<=y;{rw [decide_eq_true hh];simp [ltInt];omega};{rw [decide_eq_false hh];simp [ltInt];omega}
 rw [e2] at e;have e3:d'=(l.mergeSort (fun x y=>decide (x<=y))).toArray:=by rw [<-show d'.toList.toArray=d' from by simp,e]
 rw [<-e3];exact hH
end Q
namespace Q
open Go.Maps Go.Sort
theorem qU (n:Nat) (hn:3<=n) (g:Nat) (lb:Array Value) (eg:∀ args w,(callFunc g args).run prog w=.ok (.enter g args) w)
  (S Sp:List Int->Prop) (N:Nat) (hN:N<=1048576) (w:World) (oF:SeqStopsK Fence.wide (n-1-1) prog g lb (fun x:Int=>#[dQ x]) KeepsWalks S Sp N w) :
  CallsIn Fence.wide n prog 167 #[.func (.func g) #[] lb] w fun e w'=>∃ (v:Value) (ss:List Int),e=.returned v/\S ss/\w'.ownsRow (w.heap.size+1) 23 1 v ss.length (ss.map dQ)/\(v=.S none 0 0↔ss=[])/\Bw w w':=by
 have h1:1<=n:=ab;have Ye:Fence.wide.fn 178:=trivial;refine callsIn_of_wp func167 rfl trivial ?_ rfl;simp only [ntmps167,List.size_toArray,List.length_cons,List.length_nil,Nat.reduceAdd,Nat.reduceSub,Array.replicate_succ,Array.replicate_zero,List.push_toArray,List.append_toArray,List.nil_append,List.cons_append]
 gi_wp2_with (gi_at_call 178;refine (mX (n-1) ab g lb eg S Sp N hN _ oF).mono ?_;rintro e w' ⟨v,ss,rfl,hS,dW,yz,hb⟩)
 go_ret;exact ⟨v,ss,rfl,hS,dW,yz,hb⟩
theorem FB {w:World} {g:Nat} {cur:Array Value} {e:TypeId} (hb:w.heap[g]?=some (.cells cur e (0,0))) (ht:cur.toList.take ss.length=ss.map dQ):HU w g 0 ss.toArray:=by
 intro j hj;have VZ:j<ss.length:=by simpa using hj
 refine ⟨?_,by simp [World.frozen?,hb]⟩;have h1:(cur.toList.take ss.length)[j]?=(ss.map dQ)[j]?:=by rw [ht]
 rw [List.getElem?_take_of_lt VZ] at h1;simp only [World.cell?,hb,Nat.zero_add];simp only [Option.isSome_none,Bool.false_eq_true,if_false];rw [<-Array.getElem?_toList,h1];simp [VZ,dQ]
def SC (B:Nat) (w:World) (v:Value) (ss:List Int):Prop:=(v=.S none 0 0/\ss=[])\/∃ g cap,v=.S (some ⟨g,0,none⟩) ss.length cap/\B<=g/\g<w.heap.size/\HU w g 0 ss.toArray
structure Asc {H:Type} (D0:DataW H) (ss:List Int):Prop where
 lt:ss.Pairwise (·<·)
 mem:∀ x,x∈ss↔has D0 (.U x)=true
 size:ss.length<=Maps.size D0
theorem Jr {H:Type} {D0:DataW H} (h:jb D0 ss):Asc D0 (ss.mergeSort (fun x y=>decide (x<=y))):=by
 have hp:=List.mergeSort_perm ss (fun x y=>decide (x<=y));refine ⟨?_,fun x=>(hp.mem_iff).trans (h.2.1 x),by rw [hp.length_eq];exact h.2.2⟩;have h1:=List.pairwise_mergeSort (le:=fun x y:Int=>decide (x<=y)) (fun a b c h1 h2=>by simp at *;omega) (fun a b=>by simp;omega) ss;have h2:(ss.mergeSort (fun x y=>decide (x<=y))).Pairwise (·≠·):=hp.nodup_iff.2 h.1;exact (h1.and h2).imp (fun {a b} ⟨x,y⟩=>by simp at x;omega)
theorem pf (n:Nat) (hn:4<=n) (g:Nat) (lb:Array Value) (eg:∀ args w,(callFunc g args).run prog w=.ok (.enter g args) w)
  (S Sp:List Int->Prop) (N:Nat) (hN:N<=1048576) (hS:∀ ss,S ss->ss.length<=1048576) (w:World) (oF:SeqStopsK Fence.wide (n-1-1-1) prog g lb (fun x:Int=>#[dQ x]) KeepsWalks S Sp N w) :
  CallsIn Fence.wide n prog 143 #[.func (.func g) #[] lb] w fun e w'=>∃ (v:Value) (ss:List Int),e=.returned v/\S ss/\SC w.heap.size w' v (ss.mergeSort (fun x y=>decide (x<=y)))/\Bw w w':=by
 have h1:1<=n:=ab;have hfC:Fence.wide.fn 167:=trivial;have Ye:Fence.wide.fn 168:=trivial;refine callsIn_of_wp func143 rfl trivial ?_ rfl;simp only [ntmps143,List.size_toArray,List.length_cons,List.length_nil,Nat.reduceAdd,Nat.reduceSub,Array.replicate_succ,Array.replicate_zero,List.push_toArray,List.append_toArray,List.nil_append,List.cons_append]
 gi_wp2_with (gi_at_call 167;refine (qU (n-1) ab g lb eg S Sp N hN _ oF).mono ?_;rintro e w' ⟨v,ss,rfl,Wu,dW,yz,hb⟩)
 rcases dW.2 with ⟨rfl,_⟩ | ⟨gb,cap,cur,rfl,sA,Rh,iV,mG,EH,TI⟩;{
 have e0:ss=[]:=yz.1 rfl;subst e0
 gi_wp2_with (gi_at_call 168;refine (callsIn_wide.2 (DD 0 _)).mono ?_;rintro e w2 ⟨rfl,rfl⟩)
 go_ret;exact ⟨_,[],rfl,Wu,.inl ⟨rfl,aU⟩,hb⟩};{
 have bj:gb<w'.heap.size:=(Array.getElem?_eq_some_iff.1 Rh).1;have hH:=FB Rh (by simpa using TI)
 gi_wp2_with (gi_at_call 168;refine (callsIn_wide.2 (zM gb 0 cap ss (hS ss Wu) _ hH bj)).mono ?_;rintro e w2 ⟨rfl,sX,fU⟩)
 go_ret;refine ⟨_,ss,rfl,Wu,.inr ⟨gb,cap,by rw [List.length_mergeSort];rfl,ab,Nat.lt_of_lt_of_le bj fU.size,sX⟩,?_⟩;exact hb.grown fU hb.size (fun k e=>by cases e;omega)}
theorem iO {H:Type} (b nn:Nat) (D0:DataW H) {R:Value->Option (DataW H × List MemPlace)} (w:World) (br:w.ownsMap prog 23 R b nn D0) (il:Maps.size D0<=1048576) :
  Calls prog 99 #[.map (some b)] w fun e w'=>∃ (v:Value) (ss:List Int),e=.returned v/\Asc D0 ss/\SC w.heap.size w' v ss/\Bw w w':=by
 refine (callsIn_wide (n:=6)).1 ?_;have hfK:Fence.wide.fn 144:=trivial;have Ye:Fence.wide.fn 143:=trivial;have Cf:=br.lt;have nj:(w.alloc (.cells #[.map (some b)] 129)).ownsMap prog 23 R b nn D0:=by obtain ⟨es,clock,hb,Ft,hs,hD⟩:=br;exact ⟨es,clock,(Below.heap_alloc _ _ b Cf).trans hb,Ft,hs,hD⟩
 have oF:=Aw 2 ab w.heap.size b nn D0 (w.alloc (.cells #[.map (some b)] 129)) aU aU nj;refine callsIn_of_wp func99 rfl trivial ?_ rfl;simp only [ntmps99,List.size_toArray,List.length_cons,List.length_nil,Nat.reduceAdd,Nat.reduceSub,Array.replicate_succ,Array.replicate_zero,List.push_toArray,List.append_toArray,List.nil_append,List.cons_append]
 gi_wp2_with (first
  | (gi_at_call 144;refine (Fv _ _ _).mono ?_;rintro e w' ⟨rfl,rfl⟩)
  | (gi_at_call 143;refine (pf 5 ab _ _ (fun args w=>(by kernel_rfl:(callFunc 169 args).run prog w=.ok (.enter 169 args) w)) _ _ _ il (fun ss h=>Nat.le_trans h.2.2 il) _ oF).mono ?_;rintro e w' ⟨v,ss,rfl,hS,DG,hb⟩))
 go_ret;refine ⟨v,_,rfl,Jr hS,?_,((Below.refl _ w).alloc aA _).trans (hb.mono aU)⟩;rcases DG with h | ⟨g,cap,h1,h2,h3,h4⟩;{exact .inl h};{exact .inr ⟨g,cap,h1,by simp at h2;omega,h3,h4⟩}
theorem mB {H:Type} (b nn:Nat) (D0:DataW H) {R:Value->Option (DataW H × List MemPlace)} (w:World) (br:w.ownsMap prog 23 R b nn D0) (il:Maps.size D0<=1048576) :
  Calls prog 147 #[.map (some b)] w fun e w'=>∃ (v:Value) (ss:List Int),e=.returned v/\Asc D0 ss/\SC w.heap.size w' v ss/\Bw w w':=by
 refine (callsIn_wide (n:=6)).1 ?_;have hfK:Fence.wide.fn 173:=trivial;have Ye:Fence.wide.fn 143:=trivial;have Cf:=br.lt;have nj:(w.alloc (.cells #[.map (some b)] 83)).ownsMap prog 23 R b nn D0:=by obtain ⟨es,clock,hb,Ft,hs,hD⟩:=br;exact ⟨es,clock,(Below.heap_alloc _ _ b Cf).trans hb,Ft,hs,hD⟩
 have oF:=PX 2 ab w.heap.size b nn D0 (w.alloc (.cells #[.map (some b)] 83)) aU aU nj;refine callsIn_of_wp func147 rfl trivial ?_ rfl;simp only [ntmps147,List.size_toArray,List.length_cons,List.length_nil,Nat.reduceAdd,Nat.reduceSub,Array.replicate_succ,Array.replicate_zero,List.push_toArray,List.append_toArray,List.nil_append,List.cons_append]
 gi_wp2_with (first
  | (gi_at_call 173;refine (Vr _ _ _).mono ?_;rintro e w' ⟨rfl,rfl⟩)
  | (gi_at_call 143;refine (pf 5 ab _ _ (fun args w=>(by kernel_rfl:(callFunc 183 args).run prog w=.ok (.enter 183 args) w)) _ _ _ il (fun ss h=>Nat.le_trans h.2.2 il) _ oF).mono ?_;rintro e w' ⟨v,ss,rfl,hS,DG,hb⟩))
 go_ret;refine ⟨v,_,rfl,Jr hS,?_,((Below.refl _ w).alloc aA _).trans (hb.mono aU)⟩;rcases DG with h | ⟨g,cap,h1,h2,h3,h4⟩;{exact .inl h};{exact .inr ⟨g,cap,h1,by simp at h2;omega,h3,h4⟩}
end Q
theorem AK {w:World} (h:Q.SC B w v ss):∃ p c A,v=.S p ss.length c/\nH w (.S p ss.length c) ss/\XE (.S p ss.length c) ss A/\lx B w A:=by
 rcases h with ⟨rfl,rfl⟩ | ⟨g,cap,rfl,hb,hl,hH⟩;{exact ⟨none,0,[],rfl,⟨none,0,rfl,.inl rfl⟩,⟨none,0,[],rfl,rfl,rfl,.inl rfl⟩,lx.nil _ _⟩};{
 have hc:∀ i,i<ss.length->w.cell? ⟨g,0+i,none⟩=some (.U (ss.getD i 0))/\w.frozen? ⟨g,0+i,none⟩=false:=fun i hi=>by
  have:=hH i (by simpa using hi);simp only [List.getElem!_toArray] at this;rw [List.getD_eq_getElem?_getD,aK hi];have e:ss[i]! = ss[i]:=by simp [hi]
  first | (rw [e] at this;exact this) | simpa [hi] using this
 refine ⟨some ⟨g,0,none⟩,cap,(List.range ss.length).map fun i=>⟨g,0+i,.u64⟩,rfl,⟨_,_,rfl,.inr ⟨g,0,rfl,fun i hi=>(hc i hi).1⟩⟩,⟨some ⟨g,0,none⟩,cap,(List.range ss.length).map fun i=>[⟨g,0+i,.u64⟩],rfl,aU,?_,.inr ⟨g,0,rfl,fun i x l' hx hl=>?_⟩⟩,⟨?_,fun a ha=>?_,fun a ha=>?_⟩⟩;{
 induction (List.range ss.length) with
 | nil=>rfl
 | cons i r ih=>rw [List.map_cons,List.map_cons,List.flatten_cons,<-ih];rfl}
 {
 obtain ⟨hi,e⟩:=aN.1 hl;simp at e;rw [<-e,Nat.mul_one,Nat.zero_add]
 rfl}
 {rw [List.map_map,List.Nodup,List.pairwise_map];exact List.nodup_range.imp (fun {i j} jc=>by simpa using jc)};{obtain ⟨i,hi,rfl⟩:=List.mem_map.1 ha;exact hb};{obtain ⟨i,hi,rfl⟩:=List.mem_map.1 ha;obtain ⟨h1,h2⟩:=hc i (by simpa using hi);exact ⟨⟨_,h1⟩,h2⟩}}
theorem mW:∀ {l m:List Int},l.Pairwise (·<·)->m.Pairwise (·<·)->(∀ x,x∈l↔x∈m)->l=m
 | [],[],_,_,_=>rfl
 | [],b::m,_,_,h=>absurd ((h b).2 aU) aU
 | a::l,[],_,_,h=>absurd ((h a).1 aU) aU
 | a::l,b::m,h1,h2,h=>by
  rw [List.pairwise_cons] at h1 h2;have FR:a=b:=by rcases List.mem_cons.1 ((h a).1 aU) with e | e;{exact e};{rcases List.mem_cons.1 ((h b).2 aU) with e' | e';{exact e'.symm};{have:=h2.1 a e;have:=h1.1 b e';omega}}
  subst FR;rw [mW h1.2 h2.2 (fun x=>?_)];constructor;{intro hx;rcases List.mem_cons.1 ((h x).1 (by simp [hx])) with e | e;{have:=h1.1 x hx;omega};{exact e}};{intro hx;rcases List.mem_cons.1 ((h x).2 (by simp [hx])) with e | e;{have:=h2.1 x hx;omega};{exact e}}
theorem wu {D:DataW Unit} {s:List Int} (h:db D s) (hs:s.Pairwise (·<·)) (ha:Q.Asc D ss):ss=s:=by
 refine mW ha.lt hs fun x=>?_;rw [ha.mem x,h];constructor;{rintro ⟨i,hi,e⟩;simp only [Lit.int.injEq,true_and] at e;rw [e];exact hi};{intro hx;exact ⟨x,hx,rfl⟩}
structure KN (w:World) (g h u:Nat) (V:Value) (nd:aD):Prop where
 aI:w.heap[g]?=some (.cells #[V,.U nd.owner,.I nd.mode,.map (some h),.U nd.aB,.U nd.gen,.map (some u)] 137)
 val:Rd w V nd.value
 hld:∃ D,w.ownsMap Tryz.prog 23 unitElem h nd.holders.length D/\db D nd.holders
 wat:∃ D,w.ownsMap Tryz.prog 23 unitElem u nd.watchers.length D/\db D nd.watchers
structure PB (w:World) (M N:Nat) (v:Value) (xs:List Int) (A:List Lf):Prop where
 rd:Rd w v xs
 cap:iH v
 lv:JI v xs A
 ap:lx M w A
 hi:∀ a∈A,a.b<N
structure PU (w:World) (M N:Nat) (v:Value) (xs:List Int) (A:List Lf):Prop where
 rd:nH w v xs
 lv:XE v xs A
 ap:lx M w A
 hi:∀ a∈A,a.b<N
theorem PB.below {w w':World} (h:PB w M N v xs A) (hb:Bw w w'):PB w' M N v xs A:=
 ⟨h.rd.below hb,h.cap,h.lv,h.ap.keep (fun a ha=>hb.block _ (h.ap.vE.lt ha)),h.hi⟩
theorem PU.below {w w':World} (h:PU w M N v xs A) (hb:Bw w w'):PU w' M N v xs A:=
 ⟨h.rd.below hb,h.lv,h.ap.keep (fun a ha=>hb.block _ (h.ap.vE.lt ha)),h.hi⟩
theorem Own.pb {w:World} {p:Option Addr} {n c:Nat} (h:Own B w (.S p n c) l):∃ A,PB w B w.heap.size (.S p n c) l A:=by
 obtain ⟨A,q1,q2,q3,q4⟩:=KR (kd:=.u8) h;exact ⟨A,h.rd,⟨_,_,_,rfl,h.cap,h.BJ⟩,q1,q2,fun a ha=>q2.vE.lt ha⟩
theorem lx.Xs {w:World} {A2:List Lf} (h:lx B w A) (h2:lx B w A2) (hd:∀ a∈A,∀ a2∈A2,a.b≠a2.b):lx B w (A++A2):=by
 refine ⟨?_,fun a ha=>?_,kK.app.2 ⟨h.vE,h2.vE⟩⟩;{rw [List.map_append,List.nodup_append];refine ⟨h.nd,h2.nd,fun x hx y hy=>?_⟩;obtain ⟨a,ha,rfl⟩:=List.mem_map.1 hx;obtain ⟨a2,x8,rfl⟩:=List.mem_map.1 hy;intro e;simp only [Prod.mk.injEq] at e;exact hd a ha a2 x8 e.1};{rcases List.mem_append.1 ha with ha | ha;{exact h.lo a ha};{exact h2.lo a ha}}
theorem Al (hB:bM l) (j:Nat) (hj:j<l.length):(((aC l).data.toList.getD j 0).toNat:Int)=l.getD j 0:=by
 have VZ:j<(aC l).size:=by rw [di];exact hj
 have h:=ab5 hB j VZ;rw [<-h];have hl:j<(aC l).data.toList.length:=by rw [fM];simpa using hj
 rw [List.getD_eq_getElem?_getD,aK hl]
 rfl
theorem Hw (w:World) (hB:bM l) (hl:l.length<=1048576):∃ p' c' W A,(convert 9 22 (.string (aC l))).run prog w=.ok (.S p' l.length c') W/\PB W w.heap.size W.heap.size (.S p' l.length c') l A/\Bw w W:=by
 have cK:=Lib.run_convert_string_bytes (P:=prog) w 9 22 5 (aC l) underlying9 underlying22 underlying5;rw [di] at cK;obtain ⟨W,hW⟩:=ax (Lib.bytesWorld w 5 (aC l));have il:W.heap.size=w.heap.size+1:=by rw [hW];exact Lib.bytesWorld_size _ _ _
 have bG:∀ j,j<l.length->W.cell? ⟨w.heap.size,0+j,none⟩=some (.int .u8 (l.getD j 0)):=fun j hj=>by rw [hW,Nat.zero_add,Lib.bytesWorld_cell _ _ _ _ (by rw [di];exact hj),Al hB j hj]
 have My:∀ j,j<l.length->W.frozen? ⟨w.heap.size,0+j,none⟩=false:=fun j hj=>by
  have hn:=Lib.bytesWorld_at_new w 5 (aC l);have hs:j<(Lib.bytesCells w 5 (aC l)).size:=by simp only [Lib.bytesCells,Array.size_append,Array.size_map];have:(aC l).data.size=l.length:=di l;omega
  rw [hW,Nat.zero_add];simp only [World.frozen?,hn];simp;omega
 have hb:Bw w W:=by refine ⟨by rw [hW];rfl,by rw [hW];rfl,by rw [hW];rfl,ab,fun k hk=>by rw [hW];exact Lib.bytesWorld_at_old _ _ _ _ hk⟩
 have qP:iH (.S (some ⟨w.heap.size,0,none⟩) l.length (grownCap w l.length 0 5)):=⟨_,_,_,rfl,grownCap_ge _ _ _ _,grownCap_le_maxLen _ _ _ _ jC⟩;rw [<-hW] at cK;refine ⟨_,_,_,(List.range l.length).map fun i=>⟨w.heap.size,0+i,.u8⟩,cK,⟨⟨_,_,rfl,.inr ⟨w.heap.size,0,rfl,bG⟩⟩,qP,⟨some ⟨w.heap.size,0,none⟩,_,(List.range l.length).map fun i=>[⟨w.heap.size,0+i,.u8⟩],rfl,aU,?_,.inr ⟨w.heap.size,0,rfl,fun i x l' hx hl=>?_⟩⟩,⟨?_,fun a ha=>?_,fun a ha=>?_⟩,fun a ha=>?_⟩,hb⟩;{
 induction (List.range l.length) with
 | nil=>rfl
 | cons i r ih=>rw [List.map_cons,List.map_cons,List.flatten_cons,<-ih];rfl}
 {
 obtain ⟨hi,e⟩:=aN.1 hl;simp at e;rw [<-e,Nat.mul_one,Nat.zero_add]
 rfl}
 {rw [List.map_map,List.Nodup,List.pairwise_map];exact List.nodup_range.imp (fun {i j} jc=>by simpa using jc)};{obtain ⟨i,hi,rfl⟩:=List.mem_map.1 ha;exact Nat.le_refl _};{obtain ⟨i,hi,rfl⟩:=List.mem_map.1 ha;exact ⟨⟨_,bG i (by simpa using hi)⟩,My i (by simpa using hi)⟩};{obtain ⟨i,hi,rfl⟩:=List.mem_map.1 ha;simp only;omega}
theorem OM {w:World} {ops:Array Oper} {o:Oper} {a:Act} {K:Act->World->Prop} {Q:Exit->Act->World->Prop} {E:Prop} (jK:o.guard=none) (x:Operand) (hop:o.op=Op.convert 9 22 x) (l:List Int) (hx:a.eval x=.string (aC l)) (hB:bM l) (hl:l.length<=1048576)
  (hK:∀ p' c' w' A,PB w' w.heap.size w'.heap.size (.S p' l.length c') l A->Bw w w'->K (a.put o.dst (.S p' l.length c')) w') :
  if Region.wanted o (yielded ops a.tmps)=true then Oper.wp prog o a w K Q else E:=by
 have hw:Region.wanted o (yielded ops a.tmps)=true:=by simp [Region.wanted,jK]
 rw [if_pos hw];obtain ⟨p',c',W,A,cK,hP,hb⟩:=Hw w hB hl;unfold Oper.wp;simp only [execOp,hop,hx,Sem.run_bind,Sem.run_pure,Result.andThen_ok,cK,Result.andThen];exact hK _ _ _ _ hP hb
theorem mT.mk4 {w:World} {nd:aD} {p0 p1 p4 p7:Option Addr} {c0 c1 c4 c7 M0 N0 M1 N1 M4 N4 M7 N7:Nat} {l0 l1 l4 l7:List Lf} (h0:PB w M0 N0 (.S p0 nd.path.length c0) nd.path l0) (h1:PB w M1 N1 (.S p1 nd.value.length c1) nd.value l1) (h4:PU w M4 N4 (.S p4 nd.holders.length c4) nd.holders l4) (h7:PU w M7 N7 (.S p7 nd.watchers.length c7) nd.watchers l7)
  (b0:B<=M0) (b1:B<=M1) (b4:B<=M4) (b7:B<=M7) (d01:N0<=M1\/N1<=M0) (d04:N0<=M4\/N4<=M0) (d07:N0<=M7\/N7<=M0) (d14:N1<=M4) (d17:N1<=M7) (d47:N4<=M7) :
  mT w nd [.S p0 nd.path.length c0,.S p1 nd.value.length c1,.U nd.owner,.I nd.mode,.S p4 nd.holders.length c4,.U nd.aB,.U nd.gen,.S p7 nd.watchers.length c7] (l0++(l1++(l4++l7)))/\lx B w (l0++(l1++(l4++l7))):=by
 refine ⟨⟨p0,c0,p1,c1,p4,c4,p7,c7,l0,l1,l4,l7,rfl,rfl,⟨h0.rd,h0.cap,h0.lv⟩,⟨h1.rd,h1.lv⟩,⟨h4.rd,h4.lv⟩,⟨h7.rd,h7.lv⟩⟩,?_⟩;refine (h0.ap.mono b0).Xs ((h1.ap.mono b1).Xs ((h4.ap.mono b4).Xs (h7.ap.mono b7) fun a ha a2 x8 e=>?_) fun a ha a2 x8 e=>?_) fun a ha a2 x8 e=>?_;{have:=h4.hi a ha;have:=h7.ap.lo a2 x8;omega};{rcases List.mem_append.1 x8 with x8 | x8;{have:=h1.hi a ha;have:=h4.ap.lo a2 x8;omega};{have:=h1.hi a ha;have:=h7.ap.lo a2 x8;omega}};{rcases List.mem_append.1 x8 with x8 | x8;{have:=h0.hi a ha;have:=h0.ap.lo a ha;have:=h1.hi a2 x8;have:=h1.ap.lo a2 x8;omega};{rcases List.mem_append.1 x8 with x8 | x8;{have:=h0.hi a ha;have:=h0.ap.lo a ha;have:=h4.hi a2 x8;have:=h4.ap.lo a2 x8;omega};{have:=h0.hi a ha;have:=h0.ap.lo a ha;have:=h7.hi a2 x8;have:=h7.ap.lo a2 x8;omega}}}
theorem Lm (g h u:Nat) (V:Value) (nd:aD) (w:World) (hk:KN w g h u V nd) (hh:nd.holders.Pairwise (·<·)) (hu:nd.watchers.Pairwise (·<·)) (l1:nd.path.length<=1048576) (l2:nd.value.length<=1048576) (l3:nd.holders.length<=1048576) (l4:nd.watchers.length<=1048576) (fI:bM nd.path) :
  Calls prog 102 #[.pointer (some ⟨g,0,none⟩),.string (aC nd.path)] w fun r w'=>∃ c l,r=.returned (.agg c)/\mT w' nd c.toList l/\lx w.heap.size w' l/\Bw w w':=by
 obtain ⟨jd,Fc,⟨D1,o1,s1⟩,⟨D2,o2,s2⟩⟩:=hk;obtain ⟨pv,cv,nv,rfl,ev⟩:=Fc.gD;have hA7:sc w g (.S pv nv cv) (.U nd.owner) (.I nd.mode) (.map (some h)) (.U nd.aB) (.U nd.gen) (.map (some u)):=⟨ay jd 0,ay jd 1,ay jd 2,ay jd 3,ay jd 4,ay jd 5,ay jd 6⟩;obtain ⟨W0,dh⟩:=ax (w.alloc (.cells #[.S none 0 0,.S none 0 0,.U 0,.I 0,.S none 0 0,.U 0,.U 0,.S none 0 0] 38));have b0:=ju dh;have z0:W0.heap.size=w.heap.size+1:=by rw [dh];simp
 have r0:aq W0 w.heap.size [.S none 0 0,.S none 0 0,.U 0,.I 0,.S none 0 0,.U 0,.U 0,.S none 0 0]:=by rw [dh];exact aq.alloc w #[.S none 0 0,.S none 0 0,.U 0,.I 0,.S none 0 0,.U 0,.U 0,.S none 0 0] _
 have SZ1:=ae (Nat.le_trans o1.size_le l3);have SZ2:=ae (Nat.le_trans o2.size_le l4);obtain ⟨ow,mo,ep,ge,e1,e2,e3,e4⟩:∃ a b c d,nd.owner=a/\nd.mode=b/\nd.aB=c/\nd.gen=d:=⟨_,_,_,_,rfl,rfl,rfl,rfl⟩
 rw [e1,e2,e3,e4] at hA7;have HE:=ae (ag e1 (ag e2 (ag e3 e4)));clear e1 e2 e3 e4;go_enter func102,ntmps102;go_wp2_with fail;rw [<-dh];obtain ⟨v,IV⟩:=ax W0.drew;have bv:Bw w v:=by rw [IV];exact b0.drew
 have zv:w.heap.size<v.heap.size:=by rw [IV];show w.heap.size<W0.heap.size;omega
 have R:Hid (aq v w.heap.size [.S none 0 0,.S none 0 0,.U 0,.I 0,.S none 0 0,.U 0,.U 0,.S none 0 0]):=by rw [IV];exact r0
 have S:=ae (hA7.below bv);refine bO (fun w'=>sc w' g (.S pv nv cv) (.U ow) (.I mo) (.map (some h)) (.U ep) (.U ge) (.map (some u))) (by rw [<-IV];exact aa S) fun hS=>?_;rw [<-IV] at hS ⊢;have BW:=ae bv;have OH:=ae (o1.kept (az bv none) aU);have OU:=ae (o2.kept (az bv none) aU);have RV:=ae (Fc.below bv);have T1:=ae s1;have T2:=ae s2;have HH:=ae hh;have HU:=ae hu;have HBY:=ae fI;clear IV dh b0 z0 r0 jd Fc o1 o2 hA7 s1 s2 hh hu fI bv;refine gy 0 2 3 4 5 8 9 10 hS ?_;refine gy 11 12 13 14 15 16 17 18 hS ?_;refine gy 19 20 21 22 23 24 25 26 hS ?_;refine gC 27 29 30 31 hS ?_;refine tn 32 hS ?_
 iterate 5 (
  all_goals (first | refine UG 1 (fun KK hK=>?_) | refine Zl 1 6 (fun KK hK=>?_) (fun KK hK=>?_) | refine UG 6 (fun KK hK=>?_) | refine Zl 1 7 (fun KK hK=>?_) (fun KK hK=>?_) | refine UG 7 (fun KK hK=>?_) | refine Zl 1 28 (fun KK hK=>?_) (fun KK hK=>?_) | refine UG 28 (fun KK hK=>?_) | refine Zl 1 33 (fun KK hK=>?_) (fun KK hK=>?_) | refine UG 33 (fun KK hK=>?_))
  all_goals (first
   | (
    refine Tag.go 1 ?_;refine OM bU _ bU nd.path bU HBY l1 ?_;intro pC cC v' lC fC hb;have FC:=ae fC;clear fC)
   | (
    refine Tag.go 6 ?_;go_simp;obtain ⟨v',hv⟩:=ax (v.alloc (.cells #[.S pv nv cv] 22));have hb:=ju hv;have HP:Hid (uK v' v.heap.size [.S pv nv cv] [nd.value]):=⟨rfl,fun j y x q1 q2=>by
     match j,q1,q2 with
     | 0,q1,q2=>simp at q1 q2;subst q1 q2;exact ⟨by rw [hv];simp,RV.below hb⟩⟩
    rw [<-hv];obtain ⟨GB,hGB⟩:=ax v.heap.size;rw [<-hGB] at HP ⊢;clear hv hGB)
   | (
    refine Tag.go 7 ?_;refine ia (xh GB [.S pv nv cv] [nd.value] nd.value nd.value.length 1 rfl (by show _=_;simp [cat]) cw _ (aa HP) ab ab) ?_;rintro r v' ⟨pJ,cJ,rfl,oJ,hb⟩;refine ⟨_,rfl,?_⟩;obtain ⟨lJ,fJ⟩:=Own.pb oJ;have FJ:=ae fJ;clear fJ oJ HP)
   | (
    refine Tag.go 28 ?_;refine ia (Q.mB h _ D1 _ OH SZ1) ?_;rintro r v' ⟨y,ss,rfl,Ez,Ca,hb⟩;refine ⟨_,rfl,?_⟩;rw [wu (aa T1) (aa HH) Ez] at Ca;obtain ⟨pH,cH,lH,rfl,q1,q2,q3⟩:=AK Ca;have FH:Hid (PU v' v.heap.size v'.heap.size (.S pH nd.holders.length cH) nd.holders lH):=⟨q1,q2,q3,fun a ha=>q3.vE.lt ha⟩;clear Ez Ca q1 q2 q3)
   | (
    refine Tag.go 33 ?_;refine ia (Q.mB u _ D2 _ OU SZ2) ?_;rintro r v' ⟨y,ss,rfl,Ez,Ca,hb⟩;refine ⟨_,rfl,?_⟩;rw [wu (aa T2) (aa HU) Ez] at Ca;obtain ⟨pU,cU,lU,rfl,q1,q2,q3⟩:=AK Ca;have FU:Hid (PU v' v.heap.size v'.heap.size (.S pU nd.watchers.length cU) nd.watchers lU):=⟨q1,q2,q3,fun a ha=>q3.vE.lt ha⟩;clear Ez Ca q1 q2 q3))
  all_goals (
   have S:=ae (S.below hb);have BW:=ae (ah BW hb);have OH:=ae (OH.kept (az hb none) aU);have OU:=ae (OU.kept (az hb none) aU);have RV:=ae (RV.below hb);have R:=ae (R.below ab hb);have z:v.heap.size<=v'.heap.size:=hb.size
   try have HP:=ae (HP.below hb)
   try have FC:=ae (FC.below hb)
   try have FJ:=ae (FJ.below hb)
   try have FH:=ae (FH.below hb)
   try have FU:=ae (FU.below hb)
   refine cg hK (by exact S) fun hS=>?_;clear hK KK hb
   rename World=>v
   skip))
 all_goals (
  refine tn 34 hS ?_;have rc0:=R.1 0 _ rfl;have rc1:=R.1 1 _ rfl;have rc2:=R.1 2 _ rfl;have rc3:=R.1 3 _ rfl;have rc4:=R.1 4 _ rfl;have rc5:=R.1 5 _ rfl;have rc6:=R.1 6 _ rfl;have rc7:=R.1 7 _ rfl;have rf:=R.2;refine ry [35] (cn (fun KK hK=>?_) AllReadyH.nil);go_simp;obtain ⟨Z,hZ⟩:=ax ((((((((v.setCell ⟨w.heap.size,0,none⟩ (.S pC nd.path.length cC)).setCell ⟨w.heap.size,1,none⟩ (.S pJ nd.value.length cJ)).setCell ⟨w.heap.size,2,none⟩ (.U ow)).setCell ⟨w.heap.size,3,none⟩ (.I mo)).setCell ⟨w.heap.size,4,none⟩ (.S pH nd.holders.length cH)).setCell ⟨w.heap.size,5,none⟩ (.U ep)).setCell ⟨w.heap.size,6,none⟩ (.U ge)).setCell ⟨w.heap.size,7,none⟩ (.S pU nd.watchers.length cU));have VT:∀ b,b≠w.heap.size->Z.heap[b]?=v.heap[b]?:=fun b hb=>by
   rw [hZ]
   iterate 8 rw [dF _ _ _ _ hb]
  have cZ:=(aq.dI (aq.dI (aq.dI (aq.dI (aq.dI (aq.dI (aq.dI (aq.dI (aa R) 0 aU (.S pC nd.path.length cC)) 1 aU (.S pJ nd.value.length cJ)) 2 aU (.U ow)) 3 aU (.I mo)) 4 aU (.S pH nd.holders.length cH)) 5 aU (.U ep)) 6 aU (.U ge)) 7 aU (.S pU nd.watchers.length cU));rw [<-hZ] at cZ;have Yk:Bw w Z:=by rw [hZ];exact ((((((((BW.setCell aA _).setCell aA _).setCell aA _).setCell aA _).setCell aA _).setCell aA _).setCell aA _).setCell aA _)
  obtain ⟨en,apn⟩:=mT.mk4 (B:=w.heap.size+1) FC FJ FH FU ab ab ab ab ab ab ab ab ab ab;have fL:∀ y∈lC++(lJ++(lH++lU)),Z.heap[y.b]?=v.heap[y.b]?:=fun y hy=>VT _ (by have:=apn.lo y hy;omega);have EN:=ae (ag (mT.keep _ Z _ _ _ en fL) (ag ((apn.keep fL).mono (B':=w.heap.size) ab) Yk));have SZg:sc Z g (.S pv nv cv) (.U ow) (.I mo) (.map (some h)) (.U ep) (.U ge) (.map (some u)):=by
   have gd:g≠w.heap.size:=fun e=>by have h1:=R.1 0 _ rfl;have h2:=S.2.1;rw [e] at h2;have h3:=R.1 1 _ rfl;rw [h2] at h3;simp at h3
   obtain ⟨s0,s1,s2,s3,s4,s5,s6⟩:=aa S;have hz:=ai (VT g gd);exact ⟨(hz _).trans s0,(hz _).trans s1,(hz _).trans s2,(hz _).trans s3,(hz _).trans s4,(hz _).trans s5,(hz _).trans s6⟩
  rw [<-hZ];refine cg hK (by exact SZg) fun hS=>?_;have zc0:=cZ.1 0 _ rfl;have zc1:=cZ.1 1 _ rfl;have zc2:=cZ.1 2 _ rfl;have zc3:=cZ.1 3 _ rfl;have zc4:=cZ.1 4 _ rfl;have zc5:=cZ.1 5 _ rfl;have zc6:=cZ.1 6 _ rfl;have zc7:=cZ.1 7 _ rfl;clear hK KK hZ VT Yk en apn fL SZg cZ rc0 rc1 rc2 rc3 rc4 rc5 rc6 rc7 rf;refine bu ?_;clear hS;obtain ⟨e1,e2,e3,e4⟩:=aa HE;go_wp2;refine bodyPost_ret (v:=.agg #[.S pC nd.path.length cC,.S pJ nd.value.length cJ,.U ow,.I mo,.S pH nd.holders.length cH,.U ep,.U ge,.S pU nd.watchers.length cU]) (by simp [results,results102,go_sem,zc0,zc1,zc2,zc3,zc4,zc5,zc6,zc7]) rfl ⟨_,lC++(lJ++(lH++lU)),rfl,?_,EN.2.1,EN.2.2⟩;have Bk:=EN.1;rw [e1,e2,e3,e4] at Bk;exact Bk
  skip)
end Go.Proofs.YtcfcafeciggjeaaGreatDoor
