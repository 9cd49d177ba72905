import Derived.Test.YtcfcafeciggjeaaGreatDoorK10
namespace Go.Proofs.YtcfcafeciggjeaaGreatDoor
set_option maxHeartbeats 6400000
set_option linter.unusedVariables false
set_option linter.unusedSimpArgs false
set_option maxRecDepth 100000
variable {I a b i i2 j j2 s:Nat} {d:Array Int} {p:Int->Bool}
namespace Q
open Go.Sort Go.RowKit Go.Proofs.Tryz
theorem FE (h:i<=j) (hp:p d[i]! = true):scanUp p d j i=scanUp p d j (i+1):=by
 rw [scanUp,if_pos (by simp [h,hp])]
theorem vF (h:¬ i<=j\/p d[i]! = false):scanUp p d j i=i:=by
 rw [scanUp,if_neg];rcases h with h | h;{simp;omega};{simp [h]}
theorem wY (hj:0<j) (h:i<=j) (hp:p d[j]! = true):scanDown p d i j=scanDown p d i (j-1):=by
 cases j with
 | zero=>omega
 | succ j=>rw [scanDown,if_pos (by simp [h,hp])];rfl
theorem qv (hi:0<i) (h:¬ i<=j\/p d[j]! = false):scanDown p d i j=j:=by
 cases j with
 | zero=>rfl
 | succ j=>
  rw [scanDown,if_neg];rcases h with h | h;{simp;omega};{simp [h]}
theorem ue (h1:scanUp (fun x=>ltInt x d[a]!) d j i=i2) (h2:scanDown (fun x=>!ltInt x d[a]!) d i2 j=j2) (h:j2<i2):partLoop ltInt a i j d=(j2,d):=by
 rw [partLoop];simp only [h1,h2];rw [if_pos h]
theorem xO (h1:scanUp (fun x=>ltInt x d[a]!) d j i=i2) (h2:scanDown (fun x=>!ltInt x d[a]!) d i2 j=j2) (h:¬ j2<i2) (hi:i<=i2) (hj:j2<=j) (hi0:0<i2):partLoop ltInt a i j d=partLoop ltInt a (i2+1) (j2-1) (swp d i2 j2):=by
 rw [partLoop];simp only [h1,h2];rw [if_neg h,dif_pos (by omega)]
theorem Gp (aB off cap N a b piv:Nat) (d:Array Int) (hN:Hid (d.size=N)) (w:World) (h:HU w aB off d) (Ji:a<=piv) (hpb:piv<b) (hb:b<=N) (fI:N<=1048576) :
  Calls prog 193 #[.slice (some ⟨aB,off,none⟩) N cap,.int .i64 a,.int .i64 b,.int .i64 piv] w fun e w'=>e=.returned (.tuple #[.int .i64 (partition ltInt d a b piv).1,.bool (partition ltInt d a b piv).2.1])/\HU w' aB off (partition ltInt d a b piv).2.2/\w.grownBy w' (some aB):=by
 obtain ⟨⟨R1,R2,R3⟩,eR⟩:∃ R,partition ltInt d a b piv=R:=⟨_,rfl⟩;rw [eR];have pj:=aa hN;obtain ⟨B1,eB1⟩:∃ x:Nat,(b:Int)-1=(x:Int):=⟨b-1,by omega⟩;have RE:b-1=B1:=by omega
 have wB:IntKind.i64.wrap (B1:Int)=(B1:Int):=IntWalk.i64_in _ (by omega);obtain ⟨ca,fa⟩:=h a (by omega);obtain ⟨cp,fp⟩:=h piv (by omega);obtain ⟨u,eu⟩:∃ u,d[a]! = u:=⟨_,rfl⟩;obtain ⟨v,ev⟩:∃ v,d[piv]! = v:=⟨_,rfl⟩;have QO:=ae (h.swap (i:=a) (j:=piv) (by omega) (by omega) ev.symm eu.symm);rw [eu] at ca;rw [ev] at cp;obtain ⟨tt,ct⟩:=fu (q:=⟨aB,off+a,none⟩) (u:=.int .u64 v) cp;obtain ⟨d1,Qm⟩:=aN (swp d a piv);rw [Qm] at QO;have EH:Hid (d1.size=N):=by show _=_;rw [<-Qm,size_swp];exact pj
 obtain ⟨y,ey⟩:∃ y,d1[a]! = y:=⟨_,rfl⟩;have Yd:=ae ey;have HG:=ae (aG (az w aB (off+a) (.int .u64 v)) (az _ aB (off+piv) (.int .u64 u)));obtain ⟨I1,eI1⟩:∃ I,scanUp (fun x=>ltInt x d1[a]!) d1 B1 (a+1)=I:=⟨_,rfl⟩;obtain ⟨J2,eJ2⟩:∃ J,scanDown (fun x=>!ltInt x d1[a]!) d1 I1 B1=J:=⟨_,rfl⟩;have HR:Hid (((R1,R2,R3):Nat × Bool × Array Int)=if I1>J2 then (J2,true,swp d1 J2 a) else ((partLoop ltInt a (I1+1) (J2-1) (swp d1 I1 J2)).1,false,swp (partLoop ltInt a (I1+1) (J2-1) (swp d1 I1 J2)).2 (partLoop ltInt a (I1+1) (J2-1) (swp d1 I1 J2)).1 a)):=by show _=_;rw [<-eR,partition,Qm,RE];simp only [eI1,eJ2]
 have EI1:=ae eI1;have EJ2:=ae eJ2;have kk1:(a:Int)<(N:Int):=by omega
 have kk2:(piv:Int)<(N:Int):=by omega
 go_enter func193,ntmps193;go_wp2_with fail
 go_region
 go_wp2_with fail
 go_loopw [10] (fun s wr=>∃ i1:Nat,s=.int .i64 i1/\a+1<=i1/\i1<=B1+2/\Hid (HU wr aB off d1)/\Hid (scanUp (fun x=>ltInt x d1[a]!) d1 B1 i1=I1)/\Hid (w.grownBy wr (some aB))) (fun s _=>B1+1-(intOf s).toNat)
 case atStart=>exact ⟨a+1,by first | rfl | go_num,by omega,by omega,(aa QO),EI1,(ao HG)⟩
 case round =>(
 obtain ⟨i1,rfl,qa1,qb1,qn,Lg,Jk⟩:=hrel;obtain ⟨Bc,Em⟩:∃ B,(decide (i1<=B1)&&((fun x=>ltInt x d1[a]!) d1[i1]!))=B:=⟨_,rfl⟩;have mn:=ae Em;go_wp2_with fail
 go_cut [43] (fun rv wc=>rv=.bool Bc/\wc=wr.drew)
 case first =>(
 by_cases ic:i1<=B1;{
 have qm:(i1:Int)<=(B1:Int):=by omega
 have hdd:=aa EH;obtain ⟨ci,-⟩:=aa qn i1 (by omega);obtain ⟨ca,-⟩:=aa qn a (by omega);obtain ⟨x,ex⟩:∃ x,d1[i1]! = x:=⟨_,rfl⟩;rw [ex] at ci;rw [aa Yd] at ca;have k1:(i1:Int)<(N:Int):=by omega
 have k2:(a:Int)<(N:Int):=by omega
 have k3:(0:Int)<=(i1:Int):=by omega
 obtain ⟨L,eL⟩:=aN (ltInt x y);have EL:=ae eL;have eB:Bc=L:=by rw [<-aa mn];simp only [decide_eq_true ic,Bool.true_and,ex,aa Yd,eL]
 subst eB;have K0:=ae (ag ci ca);refine wp_region_noPanic ?_;refine wp_region_held_drew (S:=fun w'=>w'.cell? ⟨aB,off+i1,none⟩=some (.int .u64 x)/\w'.cell? ⟨aB,off+a,none⟩=some (.int .u64 y)) (by kernel_rfl) (by exact K0) (fun hS=>?_);refine gj 0 1 2 3 4 5 6 7 hS ?_;refine gp 8 9 10 11 hS ?_;refine aH 12 fun KK hK=>?_;refine bR (by rfl) 191 _ _ _ (by rfl) (.int .u64 x) (.int .u64 y) (by rfl) (by rfl) (fun _=>dz _ _) (dy x y _) ?_;rintro r' w2 ⟨rfl,rfl⟩;refine ⟨_,rfl,?_⟩;rw [aa EL];refine bm hK (by exact K0) fun hS=>?_;refine tn 13 hS ?_;refine wpAnyH_done (by kernel_rfl) ?_ _;refine aX ?_;go_wp2_with fail;go_meet;exact ⟨rfl,rfl⟩};{
 have qm:¬ (i1:Int)<=(B1:Int):=by omega
 have eB:Bc=false:=by rw [<-aa mn,decide_eq_false ic];rfl
 subst eB;refine wp_region_noPanic ?_;refine wp_region_held_drew (S:=fun w'=>True) (by kernel_rfl) trivial (fun hS=>?_);refine gp 0 1 2 3 hS ?_;refine sn 4 hS ?_;refine sn 5 hS ?_;refine sn 6 hS ?_;refine sn 7 hS ?_;refine sn 8 hS ?_;refine sn 9 hS ?_;refine sn 10 hS ?_;refine sn 11 hS ?_;refine sn 12 hS ?_;refine tn 13 hS ?_;refine wpAnyH_done (by kernel_rfl) ?_ _;refine aX ?_;go_wp2_with fail;go_meet;exact ⟨rfl,rfl⟩})
 obtain ⟨rfl,rfl⟩:=hcut;cases Bc with
 | true=>
  have hh:i1<=B1/\((fun x=>ltInt x d1[a]!) d1[i1]!)=true:=by have:=aa mn;rw [Bool.and_eq_true,decide_eq_true_iff] at this;exact this
  have hn:Hid (scanUp (fun x=>ltInt x d1[a]!) d1 B1 (i1+1)=I1):=by show _=_;rw [<-FE hh.1 hh.2];exact aa Lg
  have hle:=hh.1;go_wp2;go_roundw
  case rel=>exact ⟨i1+1,by go_num,by omega,by omega,qn.drew,hn,ao Jk⟩
  case measure=>simp [intOf];omega
 | false=>
  have cF:i1=I1:=by rw [<-aa Lg,vF];have:=aa mn;rw [Bool.and_eq_false_iff,decide_eq_false_iff_not] at this;exact this
  subst cF;go_wp2_with fail
  go_loopw [11] (fun s wr=>∃ j2:Nat,s=.int .i64 j2/\i1<=j2+2/\j2<=B1/\Hid (HU wr aB off d1)/\Hid (scanDown (fun x=>!ltInt x d1[a]!) d1 i1 j2=J2)/\Hid (w.grownBy wr (some aB))) (fun s _=>(intOf s).toNat)
  case atStart=>exact ⟨B1,by first | rfl | go_num,by omega,by omega,qn,EJ2,(ao Jk)⟩
  case round =>(
 obtain ⟨j2,rfl,qa2,qb2,pR,hE2,Rr⟩:=hrel;obtain ⟨Bc,Em⟩:∃ B,(decide (i1<=j2)&&((fun x=>!ltInt x d1[a]!) d1[j2]!))=B:=⟨_,rfl⟩;have mn:=ae Em;go_wp2_with fail
 go_cut [60] (fun rv wc=>rv=.bool Bc/\wc=wr.drew)
 case first =>(
 by_cases ic:i1<=j2;{
 have qm:(i1:Int)<=(j2:Int):=by omega
 have hdd:=aa EH;obtain ⟨ci,-⟩:=aa pR j2 (by omega);obtain ⟨ca,-⟩:=aa pR a (by omega);obtain ⟨x,ex⟩:∃ x,d1[j2]! = x:=⟨_,rfl⟩;rw [ex] at ci;rw [aa Yd] at ca;have k1:(j2:Int)<(N:Int):=by omega
 have k2:(a:Int)<(N:Int):=by omega
 have k3:(0:Int)<=(j2:Int):=by omega
 obtain ⟨L,eL⟩:=aN (ltInt x y);have EL:=ae eL;have eB:Bc=(!L):=by rw [<-aa mn];simp only [decide_eq_true ic,Bool.true_and,ex,aa Yd,eL]
 subst eB;have K0:=ae (ag ci ca);refine wp_region_noPanic ?_;refine wp_region_held_drew (S:=fun w'=>w'.cell? ⟨aB,off+j2,none⟩=some (.int .u64 x)/\w'.cell? ⟨aB,off+a,none⟩=some (.int .u64 y)) (by kernel_rfl) (by exact K0) (fun hS=>?_);refine gj 0 1 2 3 4 5 6 7 hS ?_;refine gp 8 9 10 11 hS ?_;refine aH 12 fun KK hK=>?_;refine bR (by rfl) 191 _ _ _ (by rfl) (.int .u64 x) (.int .u64 y) (by rfl) (by rfl) (fun _=>dz _ _) (dy x y _) ?_;rintro r' w2 ⟨rfl,rfl⟩;refine ⟨_,rfl,?_⟩;rw [aa EL];refine bm hK (by exact K0) fun hS=>?_;refine dQ 13 14 hS ?_;refine wpAnyH_done (by kernel_rfl) ?_ _;refine aX ?_;go_wp2_with fail;go_meet;exact ⟨rfl,rfl⟩};{
 have qm:¬ (i1:Int)<=(j2:Int):=by omega
 have eB:Bc=false:=by rw [<-aa mn,decide_eq_false ic];rfl
 subst eB;refine wp_region_noPanic ?_;refine wp_region_held_drew (S:=fun w'=>True) (by kernel_rfl) trivial (fun hS=>?_);refine gp 0 1 2 3 hS ?_;refine sn 4 hS ?_;refine sn 5 hS ?_;refine sn 6 hS ?_;refine sn 7 hS ?_;refine sn 8 hS ?_;refine sn 9 hS ?_;refine sn 10 hS ?_;refine sn 11 hS ?_;refine sn 12 hS ?_;refine sn 13 hS ?_;refine tn 14 hS ?_;refine wpAnyH_done (by kernel_rfl) ?_ _;refine aX ?_;go_wp2_with fail;go_meet;exact ⟨rfl,rfl⟩})
 obtain ⟨rfl,rfl⟩:=hcut;cases Bc with
 | true=>
  have hh:i1<=j2/\((fun x=>!ltInt x d1[a]!) d1[j2]!)=true:=by have:=aa mn;rw [Bool.and_eq_true,decide_eq_true_iff] at this;exact this
  have hle:=hh.1;obtain ⟨m,em⟩:∃ m:Nat,(j2:Int)-1=(m:Int):=⟨j2-1,by omega⟩;have hn:Hid (scanDown (fun x=>!ltInt x d1[a]!) d1 i1 m=J2):=by show _=_;rw [<-aa hE2,wY (by omega) hh.1 hh.2,show j2-1=m by omega]
  go_wp2;go_roundw
  case rel=>exact ⟨m,by first | rfl | go_num,by omega,by omega,pR.drew,hn,ao Rr⟩
  case measure=>simp [intOf];omega
 | false=>
  have cF:j2=J2:=by rw [<-aa hE2,qv (by omega)];have:=aa mn;rw [Bool.and_eq_false_iff,decide_eq_false_iff_not] at this;exact this
  subst cF;by_cases hgt:j2<i1;{
 have ab0:(j2:Int)<(i1:Int):=by omega
 have hr:=aa HR;rw [if_pos hgt] at hr;simp only [Prod.mk.injEq] at hr;obtain ⟨Im,er2,Qb⟩:=hr;replace Im:=Im.symm;replace Qb:=Qb.symm;subst Im er2 Qb;obtain ⟨c1,f1⟩:=aa pR j2 (by have:=aa EH;omega);obtain ⟨c2,f2⟩:=aa pR a (by have:=aa EH;omega);obtain ⟨p1,sY⟩:∃ u,d1[j2]! = u:=⟨_,rfl⟩;obtain ⟨p2,sX⟩:∃ u,d1[a]! = u:=⟨_,rfl⟩;rw [sY] at c1;rw [sX] at c2;obtain ⟨tt,ct⟩:=fu (q:=⟨aB,off+j2,none⟩) (u:=.int .u64 p2) c2;have lX:=ae (pR.swap (i:=j2) (j:=a) (by have:=aa EH;omega) (by have:=aa EH;omega) sX.symm sY.symm);have Ah:=ae (aG (aG Rr (az _ aB (off+j2) (.int .u64 p2))) (az _ aB (off+a) (.int .u64 p1)));have l1:(j2:Int)<(N:Int):=by omega
 have l2:(a:Int)<(N:Int):=by omega
 have l3:(0:Int)<=(j2:Int):=by omega
 have l4:(0:Int)<=(a:Int):=by omega
 go_wp2_with fail
 go_region
 go_wp2
 go_ret2
 exact ⟨rfl,lX,ao (ao Ah)⟩};{
 have ab0:¬ (j2:Int)<(i1:Int):=by omega
 obtain ⟨⟨Q1,Q2⟩,eQ⟩:∃ Q,partLoop ltInt a (i1+1) (j2-1) (swp d1 i1 j2)=Q:=⟨_,rfl⟩;have hr:=aa HR;rw [if_neg hgt,eQ] at hr;have HRB:=ae hr;have EQ:=ae eQ;obtain ⟨c1,f1⟩:=aa pR i1 (by have:=aa EH;omega);obtain ⟨c2,f2⟩:=aa pR j2 (by have:=aa EH;omega);obtain ⟨p1,sY⟩:∃ u,d1[i1]! = u:=⟨_,rfl⟩;obtain ⟨p2,sX⟩:∃ u,d1[j2]! = u:=⟨_,rfl⟩;rw [sY] at c1;rw [sX] at c2;obtain ⟨tt,ct⟩:=fu (q:=⟨aB,off+i1,none⟩) (u:=.int .u64 p2) c2;have lX:=ae (pR.swap (i:=i1) (j:=j2) (by have:=aa EH;omega) (by have:=aa EH;omega) sX.symm sY.symm);have Ah:=ae (aG (aG Rr (az _ aB (off+i1) (.int .u64 p2))) (az _ aB (off+j2) (.int .u64 p1)));have l1:(i1:Int)<(N:Int):=by omega
 have l2:(j2:Int)<(N:Int):=by omega
 have l3:(0:Int)<=(i1:Int):=by omega
 have l4:(0:Int)<=(j2:Int):=by omega
 obtain ⟨m2,em2⟩:∃ m:Nat,(j2:Int)-1=(m:Int):=⟨j2-1,by omega⟩;have ah7:j2-1=m2:=by omega
 rw [ah7] at EQ;have Wu:Hid ((swp d1 i1 j2).size=N):=by show _=_;rw [size_swp];exact aa EH
 go_wp2_with fail
 go_region
 go_wp2_with fail
 go_loopw [10,11] (fun Aw Sk wr=>∃ (i j:Nat) (dk:Array Int),Aw=.int .i64 i/\Sk=.int .i64 j/\a+1<=i/\i<=j+2/\j<=B1/\Hid (dk.size=N)/\Hid (HU wr aB off dk)/\Hid (partLoop ltInt a i j dk=(Q1,Q2))/\Hid (w.grownBy wr (some aB))) (fun Aw Sk _=>(intOf Sk+2-intOf Aw).toNat)
 case atStart=>exact ⟨i1+1,m2,_,by first | rfl | go_num,by first | rfl | go_num,by omega,by omega,by omega,Wu,lX,EQ,ao (ao Ah)⟩
 case round =>(
 obtain ⟨i,j,dk,rfl,rfl,z1,z2,z3,tG,wR,UO,Le⟩:=hrel;obtain ⟨y,ey⟩:∃ y,dk[a]! = y:=⟨_,rfl⟩;have Ma:=ae ey;obtain ⟨I4,eI4⟩:∃ I,scanUp (fun x=>ltInt x dk[a]!) dk j i=I:=⟨_,rfl⟩;obtain ⟨J5,eJ5⟩:∃ J,scanDown (fun x=>!ltInt x dk[a]!) dk I4 j=J:=⟨_,rfl⟩;have Wz:=ae eI4;have Wy:=ae eJ5;have I5:=Wz;have I0:=Wy;go_wp2_with fail;obtain ⟨Y,eY⟩:=ar wr;subst eY
 go_loopw [10] (fun s wr=>∃ i4:Nat,s=.int .i64 i4/\i<=i4/\i4<=j+2/\Hid (HU wr aB off dk)/\Hid (scanUp (fun x=>ltInt x dk[a]!) dk j i4=I4)/\Hid (w.grownBy wr (some aB))) (fun s _=>j+1-(intOf s).toNat)
 case atStart=>exact ⟨i,by first | rfl | go_num,by omega,by omega,wR,Wz,Le⟩
 case round =>(
 obtain ⟨i4,rfl,qa4,qb4,yJ,Vc,U8⟩:=hrel;obtain ⟨Bc,Em⟩:∃ B,(decide (i4<=j)&&((fun x=>ltInt x dk[a]!) dk[i4]!))=B:=⟨_,rfl⟩;have mn:=ae Em;go_wp2_with fail
 go_cut [112] (fun rv wc=>rv=.bool Bc/\wc=wr.drew)
 case first =>(
 by_cases ic:i4<=j;{
 have qm:(i4:Int)<=(j:Int):=by omega
 have hdd:=aa tG;obtain ⟨ci,-⟩:=aa yJ i4 (by omega);obtain ⟨ca,-⟩:=aa yJ a (by omega);obtain ⟨x,ex⟩:∃ x,dk[i4]! = x:=⟨_,rfl⟩;rw [ex] at ci;rw [aa Ma] at ca;have k1:(i4:Int)<(N:Int):=by omega
 have k2:(a:Int)<(N:Int):=by omega
 have k3:(0:Int)<=(i4:Int):=by omega
 obtain ⟨L,eL⟩:=aN (ltInt x y);have EL:=ae eL;have eB:Bc=L:=by rw [<-aa mn];simp only [decide_eq_true ic,Bool.true_and,ex,aa Ma,eL]
 subst eB;have K0:=ae (ag ci ca);refine wp_region_noPanic ?_;refine wp_region_held_drew (S:=fun w'=>w'.cell? ⟨aB,off+i4,none⟩=some (.int .u64 x)/\w'.cell? ⟨aB,off+a,none⟩=some (.int .u64 y)) (by kernel_rfl) (by exact K0) (fun hS=>?_);refine gj 0 1 2 3 4 5 6 7 hS ?_;refine gp 8 9 10 11 hS ?_;refine aH 12 fun KK hK=>?_;refine bR (by rfl) 191 _ _ _ (by rfl) (.int .u64 x) (.int .u64 y) (by rfl) (by rfl) (fun _=>dz _ _) (dy x y _) ?_;rintro r' w2 ⟨rfl,rfl⟩;refine ⟨_,rfl,?_⟩;rw [aa EL];refine bm hK (by exact K0) fun hS=>?_;refine tn 13 hS ?_;refine wpAnyH_done (by kernel_rfl) ?_ _;refine aX ?_;go_wp2_with fail;go_meet;exact ⟨rfl,rfl⟩};{
 have qm:¬ (i4:Int)<=(j:Int):=by omega
 have eB:Bc=false:=by rw [<-aa mn,decide_eq_false ic];rfl
 subst eB;refine wp_region_noPanic ?_;refine wp_region_held_drew (S:=fun w'=>True) (by kernel_rfl) trivial (fun hS=>?_);refine gp 0 1 2 3 hS ?_;refine sn 4 hS ?_;refine sn 5 hS ?_;refine sn 6 hS ?_;refine sn 7 hS ?_;refine sn 8 hS ?_;refine sn 9 hS ?_;refine sn 10 hS ?_;refine sn 11 hS ?_;refine sn 12 hS ?_;refine tn 13 hS ?_;refine wpAnyH_done (by kernel_rfl) ?_ _;refine aX ?_;go_wp2_with fail;go_meet;exact ⟨rfl,rfl⟩})
 obtain ⟨rfl,rfl⟩:=hcut;cases Bc with
 | true=>
  have hh:i4<=j/\((fun x=>ltInt x dk[a]!) dk[i4]!)=true:=by have:=aa mn;rw [Bool.and_eq_true,decide_eq_true_iff] at this;exact this
  have hn:Hid (scanUp (fun x=>ltInt x dk[a]!) dk j (i4+1)=I4):=by show _=_;rw [<-FE hh.1 hh.2];exact aa Vc
  have hle:=hh.1;go_wp2;go_roundw
  case rel=>exact ⟨i4+1,by go_num,by omega,by omega,yJ.drew,hn,ao U8⟩
  case measure=>simp [intOf];omega
 | false=>
  have cF:i4=I4:=by rw [<-aa Vc,vF];have:=aa mn;rw [Bool.and_eq_false_iff,decide_eq_false_iff_not] at this;exact this
  subst cF;go_wp2_with fail
  go_loopw [11] (fun s wr=>∃ j5:Nat,s=.int .i64 j5/\i4<=j5+2/\j5<=j/\Hid (HU wr aB off dk)/\Hid (scanDown (fun x=>!ltInt x dk[a]!) dk i4 j5=J5)/\Hid (w.grownBy wr (some aB))) (fun s _=>(intOf s).toNat)
  case atStart=>exact ⟨j,by first | rfl | go_num,by omega,by omega,yJ,Wy,(ao U8)⟩
  case round =>(
 obtain ⟨j5,rfl,qa5,qb5,uD,Va,PO⟩:=hrel;obtain ⟨Bc,Em⟩:∃ B,(decide (i4<=j5)&&((fun x=>!ltInt x dk[a]!) dk[j5]!))=B:=⟨_,rfl⟩;have mn:=ae Em;go_wp2_with fail
 go_cut [129] (fun rv wc=>rv=.bool Bc/\wc=wr.drew)
 case first =>(
 by_cases ic:i4<=j5;{
 have qm:(i4:Int)<=(j5:Int):=by omega
 have hdd:=aa tG;obtain ⟨ci,-⟩:=aa uD j5 (by omega);obtain ⟨ca,-⟩:=aa uD a (by omega);obtain ⟨x,ex⟩:∃ x,dk[j5]! = x:=⟨_,rfl⟩;rw [ex] at ci;rw [aa Ma] at ca;have k1:(j5:Int)<(N:Int):=by omega
 have k2:(a:Int)<(N:Int):=by omega
 have k3:(0:Int)<=(j5:Int):=by omega
 obtain ⟨L,eL⟩:=aN (ltInt x y);have EL:=ae eL;have eB:Bc=(!L):=by rw [<-aa mn];simp only [decide_eq_true ic,Bool.true_and,ex,aa Ma,eL]
 subst eB;have K0:=ae (ag ci ca);refine wp_region_noPanic ?_;refine wp_region_held_drew (S:=fun w'=>w'.cell? ⟨aB,off+j5,none⟩=some (.int .u64 x)/\w'.cell? ⟨aB,off+a,none⟩=some (.int .u64 y)) (by kernel_rfl) (by exact K0) (fun hS=>?_);refine gj 0 1 2 3 4 5 6 7 hS ?_;refine gp 8 9 10 11 hS ?_;refine aH 12 fun KK hK=>?_;refine bR (by rfl) 191 _ _ _ (by rfl) (.int .u64 x) (.int .u64 y) (by rfl) (by rfl) (fun _=>dz _ _) (dy x y _) ?_;rintro r' w2 ⟨rfl,rfl⟩;refine ⟨_,rfl,?_⟩;rw [aa EL];refine bm hK (by exact K0) fun hS=>?_;refine dQ 13 14 hS ?_;refine wpAnyH_done (by kernel_rfl) ?_ _;refine aX ?_;go_wp2_with fail;go_meet;exact ⟨rfl,rfl⟩};{
 have qm:¬ (i4:Int)<=(j5:Int):=by omega
 have eB:Bc=false:=by rw [<-aa mn,decide_eq_false ic];rfl
 subst eB;refine wp_region_noPanic ?_;refine wp_region_held_drew (S:=fun w'=>True) (by kernel_rfl) trivial (fun hS=>?_);refine gp 0 1 2 3 hS ?_;refine sn 4 hS ?_;refine sn 5 hS ?_;refine sn 6 hS ?_;refine sn 7 hS ?_;refine sn 8 hS ?_;refine sn 9 hS ?_;refine sn 10 hS ?_;refine sn 11 hS ?_;refine sn 12 hS ?_;refine sn 13 hS ?_;refine tn 14 hS ?_;refine wpAnyH_done (by kernel_rfl) ?_ _;refine aX ?_;go_wp2_with fail;go_meet;exact ⟨rfl,rfl⟩})
 obtain ⟨rfl,rfl⟩:=hcut;cases Bc with
 | true=>
  have hh:i4<=j5/\((fun x=>!ltInt x dk[a]!) dk[j5]!)=true:=by have:=aa mn;rw [Bool.and_eq_true,decide_eq_true_iff] at this;exact this
  have hle:=hh.1;obtain ⟨m,em⟩:∃ m:Nat,(j5:Int)-1=(m:Int):=⟨j5-1,by omega⟩;have hn:Hid (scanDown (fun x=>!ltInt x dk[a]!) dk i4 m=J5):=by show _=_;rw [<-aa Va,wY (by omega) hh.1 hh.2,show j5-1=m by omega]
  go_wp2;go_roundw
  case rel=>exact ⟨m,by first | rfl | go_num,by omega,by omega,uD.drew,hn,ao PO⟩
  case measure=>simp [intOf];omega
 | false=>
  have cF:j5=J5:=by rw [<-aa Va,qv (by omega)];have:=aa mn;rw [Bool.and_eq_false_iff,decide_eq_false_iff_not] at this;exact this
  subst cF;by_cases sO:j5<i4;{
 have Po:(j5:Int)<(i4:Int):=by omega
 have hq:=aa UO;rw [ue (aa I5) (aa I0) sO] at hq;simp only [Prod.mk.injEq] at hq;obtain ⟨Lo,Ln⟩:=hq;subst Lo Ln;have hr:=aa HRB;simp only [Prod.mk.injEq] at hr;obtain ⟨Im,er2,Qb⟩:=hr;replace Im:=Im.symm;replace Qb:=Qb.symm;subst Im er2 Qb;obtain ⟨c1,f1⟩:=aa uD j5 (by have:=aa tG;omega);obtain ⟨c2,f2⟩:=aa uD a (by have:=aa tG;omega);obtain ⟨p1,sY⟩:∃ u,dk[j5]! = u:=⟨_,rfl⟩;obtain ⟨p2,sX⟩:∃ u,dk[a]! = u:=⟨_,rfl⟩;rw [sY] at c1;rw [sX] at c2;obtain ⟨tt,ct⟩:=fu (q:=⟨aB,off+j5,none⟩) (u:=.int .u64 p2) c2;have lX:=ae (uD.swap (i:=j5) (j:=a) (by have:=aa tG;omega) (by have:=aa tG;omega) sX.symm sY.symm);have Ah:=ae (aG (aG PO (az _ aB (off+j5) (.int .u64 p2))) (az _ aB (off+a) (.int .u64 p1)));have l1:(j5:Int)<(N:Int):=by omega
 have l2:(a:Int)<(N:Int):=by omega
 have l3:(0:Int)<=(j5:Int):=by omega
 have l4:(0:Int)<=(a:Int):=by omega
 go_wp2_with fail
 go_region
 go_wp2
 go_ret2
 exact ⟨rfl,lX,ao (ao Ah)⟩};{
 have Po:¬ (j5:Int)<(i4:Int):=by omega
 have hq:=aa UO;rw [xO (aa I5) (aa I0) sO (by omega) (by omega) (by omega)] at hq;have QT:=ae hq;obtain ⟨c1,f1⟩:=aa uD i4 (by have:=aa tG;omega);obtain ⟨c2,f2⟩:=aa uD j5 (by have:=aa tG;omega);obtain ⟨p1,sY⟩:∃ u,dk[i4]! = u:=⟨_,rfl⟩;obtain ⟨p2,sX⟩:∃ u,dk[j5]! = u:=⟨_,rfl⟩;rw [sY] at c1;rw [sX] at c2;obtain ⟨tt,ct⟩:=fu (q:=⟨aB,off+i4,none⟩) (u:=.int .u64 p2) c2;have lX:=ae (uD.swap (i:=i4) (j:=j5) (by have:=aa tG;omega) (by have:=aa tG;omega) sX.symm sY.symm);have Ah:=ae (aG (aG PO (az _ aB (off+i4) (.int .u64 p2))) (az _ aB (off+j5) (.int .u64 p1)));have l1:(i4:Int)<(N:Int):=by omega
 have l2:(j5:Int)<(N:Int):=by omega
 have l3:(0:Int)<=(i4:Int):=by omega
 have l4:(0:Int)<=(j5:Int):=by omega
 obtain ⟨m5,em5⟩:∃ m:Nat,(j5:Int)-1=(m:Int):=⟨j5-1,by omega⟩;have Qf:j5-1=m5:=by omega
 rw [Qf] at QT;have QZ:Hid ((swp dk i4 j5).size=N):=by show _=_;rw [size_swp];exact aa tG
 go_wp2_with fail
 go_region
 go_wp2;go_roundw
 case rel=>exact ⟨i4+1,m5,_,by first | rfl | go_num,by first | rfl | go_num,by omega,by omega,by omega,QZ,lX,QT,ao (ao Ah)⟩
 case measure=>simp [intOf];omega})))}))
end Q
namespace Q
open Go.Sort Go.RowKit Go.Proofs.Tryz
theorem qW (h1:scanUp (fun x=>!ltInt d[a]! x) d j i=i2) (h2:scanDown (fun x=>ltInt d[a]! x) d i2 j=j2) (h:j2<i2):partEqLoop ltInt a i j d=(i2,d):=by
 rw [partEqLoop];simp only [h1,h2];rw [if_pos h]
theorem ug (h1:scanUp (fun x=>!ltInt d[a]! x) d j i=i2) (h2:scanDown (fun x=>ltInt d[a]! x) d i2 j=j2) (h:¬ j2<i2) (hi:i<=i2) (hj:j2<=j) (hi0:0<i2):partEqLoop ltInt a i j d=partEqLoop ltInt a (i2+1) (j2-1) (swp d i2 j2):=by
 rw [partEqLoop];simp only [h1,h2];rw [if_neg h,dif_pos (by omega)]
theorem AD (aB off cap N a b piv:Nat) (d:Array Int) (hN:Hid (d.size=N)) (w:World) (h:HU w aB off d) (Ji:a<=piv) (hpb:piv<b) (hb:b<=N) (fI:N<=1048576) :
  Calls prog 192 #[.slice (some ⟨aB,off,none⟩) N cap,.int .i64 a,.int .i64 b,.int .i64 piv] w fun e w'=>e=.returned (.int .i64 (partitionEqual ltInt d a b piv).1)/\HU w' aB off (partitionEqual ltInt d a b piv).2/\w.grownBy w' (some aB):=by
 obtain ⟨⟨Q1,Q2⟩,eR⟩:∃ R,partitionEqual ltInt d a b piv=R:=⟨_,rfl⟩;rw [eR];have pj:=aa hN;obtain ⟨B1,eB1⟩:∃ x:Nat,(b:Int)-1=(x:Int):=⟨b-1,by omega⟩;have RE:b-1=B1:=by omega
 have wB:IntKind.i64.wrap (B1:Int)=(B1:Int):=IntWalk.i64_in _ (by omega);obtain ⟨ca,fa⟩:=h a (by omega);obtain ⟨cp,fp⟩:=h piv (by omega);obtain ⟨u,eu⟩:∃ u,d[a]! = u:=⟨_,rfl⟩;obtain ⟨v,ev⟩:∃ v,d[piv]! = v:=⟨_,rfl⟩;have QO:=ae (h.swap (i:=a) (j:=piv) (by omega) (by omega) ev.symm eu.symm);rw [eu] at ca;rw [ev] at cp;obtain ⟨tt,ct⟩:=fu (q:=⟨aB,off+a,none⟩) (u:=.int .u64 v) cp;obtain ⟨d1,Qm⟩:=aN (swp d a piv);rw [Qm] at QO;have EH:Hid (d1.size=N):=by show _=_;rw [<-Qm,size_swp];exact pj
 have HG:=ae (aG (az w aB (off+a) (.int .u64 v)) (az _ aB (off+piv) (.int .u64 u)));have EQ:Hid (partEqLoop ltInt a (a+1) B1 d1=(Q1,Q2)):=by show _=_;rw [<-eR,partitionEqual,Qm,RE]
 have kk1:(a:Int)<(N:Int):=by omega
 have kk2:(piv:Int)<(N:Int):=by omega
 go_enter func192,ntmps192;go_wp2_with fail
 go_region
 go_wp2_with fail
 go_loopw [9,10] (fun s9 Aw wr=>∃ (i j:Nat) (dk:Array Int),s9=.int .i64 i/\Aw=.int .i64 j/\a+1<=i/\i<=j+2/\j<=B1/\Hid (dk.size=N)/\Hid (HU wr aB off dk)/\Hid (partEqLoop ltInt a i j dk=(Q1,Q2))/\Hid (w.grownBy wr (some aB))) (fun s9 Aw _=>(intOf Aw+2-intOf s9).toNat)
 case atStart=>exact ⟨a+1,B1,_,by first | rfl | go_num,by first | rfl | go_num,by omega,by omega,by omega,EH,QO,EQ,ao HG⟩
 case round =>(
 obtain ⟨i,j,dk,rfl,rfl,z1,z2,z3,tG,wR,UO,Le⟩:=hrel;obtain ⟨y,ey⟩:∃ y,dk[a]! = y:=⟨_,rfl⟩;have Ma:=ae ey;obtain ⟨I4,eI4⟩:∃ I,scanUp (fun x=>!ltInt dk[a]! x) dk j i=I:=⟨_,rfl⟩;obtain ⟨J5,eJ5⟩:∃ J,scanDown (fun x=>ltInt dk[a]! x) dk I4 j=J:=⟨_,rfl⟩;have Wz:=ae eI4;have Wy:=ae eJ5;have I5:=Wz;have I0:=Wy;go_wp2_with fail;obtain ⟨Y,eY⟩:=ar wr;subst eY
 go_loopw [9] (fun s wr=>∃ i4:Nat,s=.int .i64 i4/\i<=i4/\i4<=j+2/\Hid (HU wr aB off dk)/\Hid (scanUp (fun x=>!ltInt dk[a]! x) dk j i4=I4)/\Hid (w.grownBy wr (some aB))) (fun s _=>j+1-(intOf s).toNat)
 case atStart=>exact ⟨i,by first | rfl | go_num,by omega,by omega,wR,Wz,Le⟩
 case round =>(
 obtain ⟨i4,rfl,qa4,qb4,yJ,Vc,U8⟩:=hrel;obtain ⟨Bc,Em⟩:∃ B,(decide (i4<=j)&&((fun x=>!ltInt dk[a]! x) dk[i4]!))=B:=⟨_,rfl⟩;have mn:=ae Em;go_wp2_with fail
 go_cut [43] (fun rv wc=>rv=.bool Bc/\wc=wr.drew)
 case first =>(
 by_cases ic:i4<=j;{
 have qm:(i4:Int)<=(j:Int):=by omega
 have hdd:=aa tG;obtain ⟨ci,-⟩:=aa yJ i4 (by omega);obtain ⟨ca,-⟩:=aa yJ a (by omega);obtain ⟨x,ex⟩:∃ x,dk[i4]! = x:=⟨_,rfl⟩;rw [ex] at ci;rw [aa Ma] at ca;have k1:(i4:Int)<(N:Int):=by omega
 have k2:(a:Int)<(N:Int):=by omega
 have k3:(0:Int)<=(i4:Int):=by omega
 obtain ⟨L,eL⟩:=aN (ltInt y x);have EL:=ae eL;have eB:Bc=(!L):=by rw [<-aa mn];simp only [decide_eq_true ic,Bool.true_and,ex,aa Ma,eL]
 subst eB;have K0:=ae (ag ci ca);refine wp_region_noPanic ?_;refine wp_region_held_drew (S:=fun w'=>w'.cell? ⟨aB,off+i4,none⟩=some (.int .u64 x)/\w'.cell? ⟨aB,off+a,none⟩=some (.int .u64 y)) (by kernel_rfl) (by exact K0) (fun hS=>?_);refine gj 0 1 2 3 4 5 6 7 hS ?_;refine gp 8 9 10 11 hS ?_;refine aH 12 fun KK hK=>?_;refine bR (by rfl) 191 _ _ _ (by rfl) (.int .u64 y) (.int .u64 x) (by rfl) (by rfl) (fun _=>dz _ _) (dy y x _) ?_;rintro r' w2 ⟨rfl,rfl⟩;refine ⟨_,rfl,?_⟩;rw [aa EL];refine bm hK (by exact K0) fun hS=>?_;refine dQ 13 14 hS ?_;refine wpAnyH_done (by kernel_rfl) ?_ _;refine aX ?_;go_wp2_with fail;go_meet;exact ⟨rfl,rfl⟩};{
 have qm:¬ (i4:Int)<=(j:Int):=by omega
 have eB:Bc=false:=by rw [<-aa mn,decide_eq_false ic];rfl
 subst eB;refine wp_region_noPanic ?_;refine wp_region_held_drew (S:=fun w'=>True) (by kernel_rfl) trivial (fun hS=>?_);refine gp 0 1 2 3 hS ?_;refine sn 4 hS ?_;refine sn 5 hS ?_;refine sn 6 hS ?_;refine sn 7 hS ?_;refine sn 8 hS ?_;refine sn 9 hS ?_;refine sn 10 hS ?_;refine sn 11 hS ?_;refine sn 12 hS ?_;refine sn 13 hS ?_;refine tn 14 hS ?_;refine wpAnyH_done (by kernel_rfl) ?_ _;refine aX ?_;go_wp2_with fail;go_meet;exact ⟨rfl,rfl⟩})
 obtain ⟨rfl,rfl⟩:=hcut;cases Bc with
 | true=>
  have hh:i4<=j/\((fun x=>!ltInt dk[a]! x) dk[i4]!)=true:=by have:=aa mn;rw [Bool.and_eq_true,decide_eq_true_iff] at this;exact this
  have hn:Hid (scanUp (fun x=>!ltInt dk[a]! x) dk j (i4+1)=I4):=by show _=_;rw [<-FE hh.1 hh.2];exact aa Vc
  have hle:=hh.1;go_wp2;go_roundw
  case rel=>exact ⟨i4+1,by go_num,by omega,by omega,yJ.drew,hn,ao U8⟩
  case measure=>simp [intOf];omega
 | false=>
  have cF:i4=I4:=by rw [<-aa Vc,vF];have:=aa mn;rw [Bool.and_eq_false_iff,decide_eq_false_iff_not] at this;exact this
  subst cF;go_wp2_with fail
  go_loopw [10] (fun s wr=>∃ j5:Nat,s=.int .i64 j5/\i4<=j5+2/\j5<=j/\Hid (HU wr aB off dk)/\Hid (scanDown (fun x=>ltInt dk[a]! x) dk i4 j5=J5)/\Hid (w.grownBy wr (some aB))) (fun s _=>(intOf s).toNat)
  case atStart=>exact ⟨j,by first | rfl | go_num,by omega,by omega,yJ,Wy,(ao U8)⟩
  case round =>(
 obtain ⟨j5,rfl,qa5,qb5,uD,Va,PO⟩:=hrel;obtain ⟨Bc,Em⟩:∃ B,(decide (i4<=j5)&&((fun x=>ltInt dk[a]! x) dk[j5]!))=B:=⟨_,rfl⟩;have mn:=ae Em;go_wp2_with fail
 go_cut [59] (fun rv wc=>rv=.bool Bc/\wc=wr.drew)
 case first =>(
 by_cases ic:i4<=j5;{
 have qm:(i4:Int)<=(j5:Int):=by omega
 have hdd:=aa tG;obtain ⟨ci,-⟩:=aa uD j5 (by omega);obtain ⟨ca,-⟩:=aa uD a (by omega);obtain ⟨x,ex⟩:∃ x,dk[j5]! = x:=⟨_,rfl⟩;rw [ex] at ci;rw [aa Ma] at ca;have k1:(j5:Int)<(N:Int):=by omega
 have k2:(a:Int)<(N:Int):=by omega
 have k3:(0:Int)<=(j5:Int):=by omega
 obtain ⟨L,eL⟩:=aN (ltInt y x);have EL:=ae eL;have eB:Bc=L:=by rw [<-aa mn];simp only [decide_eq_true ic,Bool.true_and,ex,aa Ma,eL]
 subst eB;have K0:=ae (ag ci ca);refine wp_region_noPanic ?_;refine wp_region_held_drew (S:=fun w'=>w'.cell? ⟨aB,off+j5,none⟩=some (.int .u64 x)/\w'.cell? ⟨aB,off+a,none⟩=some (.int .u64 y)) (by kernel_rfl) (by exact K0) (fun hS=>?_);refine gj 0 1 2 3 4 5 6 7 hS ?_;refine gp 8 9 10 11 hS ?_;refine aH 12 fun KK hK=>?_;refine bR (by rfl) 191 _ _ _ (by rfl) (.int .u64 y) (.int .u64 x) (by rfl) (by rfl) (fun _=>dz _ _) (dy y x _) ?_;rintro r' w2 ⟨rfl,rfl⟩;refine ⟨_,rfl,?_⟩;rw [aa EL];refine bm hK (by exact K0) fun hS=>?_;refine tn 13 hS ?_;refine wpAnyH_done (by kernel_rfl) ?_ _;refine aX ?_;go_wp2_with fail;go_meet;exact ⟨rfl,rfl⟩};{
 have qm:¬ (i4:Int)<=(j5:Int):=by omega
 have eB:Bc=false:=by rw [<-aa mn,decide_eq_false ic];rfl
 subst eB;refine wp_region_noPanic ?_;refine wp_region_held_drew (S:=fun w'=>True) (by kernel_rfl) trivial (fun hS=>?_);refine gp 0 1 2 3 hS ?_;refine sn 4 hS ?_;refine sn 5 hS ?_;refine sn 6 hS ?_;refine sn 7 hS ?_;refine sn 8 hS ?_;refine sn 9 hS ?_;refine sn 10 hS ?_;refine sn 11 hS ?_;refine sn 12 hS ?_;refine tn 13 hS ?_;refine wpAnyH_done (by kernel_rfl) ?_ _;refine aX ?_;go_wp2_with fail;go_meet;exact ⟨rfl,rfl⟩})
 obtain ⟨rfl,rfl⟩:=hcut;cases Bc with
 | true=>
  have hh:i4<=j5/\((fun x=>ltInt dk[a]! x) dk[j5]!)=true:=by have:=aa mn;rw [Bool.and_eq_true,decide_eq_true_iff] at this;exact this
  have hle:=hh.1;obtain ⟨m,em⟩:∃ m:Nat,(j5:Int)-1=(m:Int):=⟨j5-1,by omega⟩;have hn:Hid (scanDown (fun x=>ltInt dk[a]! x) dk i4 m=J5):=by show _=_;rw [<-aa Va,wY (by omega) hh.1 hh.2,show j5-1=m by omega]
  go_wp2;go_roundw
  case rel=>exact ⟨m,by first | rfl | go_num,by omega,by omega,uD.drew,hn,ao PO⟩
  case measure=>simp [intOf];omega
 | false=>
  have cF:j5=J5:=by rw [<-aa Va,qv (by omega)];have:=aa mn;rw [Bool.and_eq_false_iff,decide_eq_false_iff_not] at this;exact this
  subst cF;by_cases sO:j5<i4;{
 have Po:(j5:Int)<(i4:Int):=by omega
 have hq:=aa UO;rw [qW (aa I5) (aa I0) sO] at hq;simp only [Prod.mk.injEq] at hq;obtain ⟨Lo,Ln⟩:=hq;subst Lo Ln;go_wp2;go_ret;exact ⟨rfl,uD,ao PO⟩};{
 have Po:¬ (j5:Int)<(i4:Int):=by omega
 have hq:=aa UO;rw [ug (aa I5) (aa I0) sO (by omega) (by omega) (by omega)] at hq;have QT:=ae hq;obtain ⟨c1,f1⟩:=aa uD i4 (by have:=aa tG;omega);obtain ⟨c2,f2⟩:=aa uD j5 (by have:=aa tG;omega);obtain ⟨p1,sY⟩:∃ u,dk[i4]! = u:=⟨_,rfl⟩;obtain ⟨p2,sX⟩:∃ u,dk[j5]! = u:=⟨_,rfl⟩;rw [sY] at c1;rw [sX] at c2;obtain ⟨tt,ct⟩:=fu (q:=⟨aB,off+i4,none⟩) (u:=.int .u64 p2) c2;have lX:=ae (uD.swap (i:=i4) (j:=j5) (by have:=aa tG;omega) (by have:=aa tG;omega) sX.symm sY.symm);have Ah:=ae (aG (aG PO (az _ aB (off+i4) (.int .u64 p2))) (az _ aB (off+j5) (.int .u64 p1)));have l1:(i4:Int)<(N:Int):=by omega
 have l2:(j5:Int)<(N:Int):=by omega
 have l3:(0:Int)<=(i4:Int):=by omega
 have l4:(0:Int)<=(j5:Int):=by omega
 obtain ⟨m5,em5⟩:∃ m:Nat,(j5:Int)-1=(m:Int):=⟨j5-1,by omega⟩;have Qf:j5-1=m5:=by omega
 rw [Qf] at QT;have QZ:Hid ((swp dk i4 j5).size=N):=by show _=_;rw [size_swp];exact aa tG
 go_wp2_with fail
 go_region
 go_wp2;go_roundw
 case rel=>exact ⟨i4+1,m5,_,by first | rfl | go_num,by first | rfl | go_num,by omega,by omega,by omega,QZ,lX,QT,ao (ao Ah)⟩
 case measure=>simp [intOf];omega})))
end Q
namespace Q
open Go.Sort Go.RowKit Go.Proofs.Tryz
theorem Sf (h:i<b) (hp:ltInt d[i]! d[i-1]! = false):scanSorted ltInt d b i=scanSorted ltInt d b (i+1):=by
 rw [scanSorted,if_pos (by simp [h,hp])]
theorem JK (h:¬ i<b\/ltInt d[i]! d[i-1]! = true):scanSorted ltInt d b i=i:=by
 rw [scanSorted,if_neg];rcases h with h | h;{simp;omega};{simp [h]}
theorem Cn:∀ (j:Nat) (d:Array Int),(shiftDown ltInt j d).size=d.size
 | 0,d=>rfl
 | j+1,d=>by
  rw [shiftDown];split;{rfl}
  {rw [Cn j,size_swp]}
theorem JG (b:Nat):∀ (k j:Nat) (d:Array Int),b-j<=k->(shiftUp ltInt b j d).size=d.size:=by
 intro k
 induction k with
 | zero=>intro j d h;rw [shiftUp,if_neg (by omega)]
 | succ k ih=>
  intro j d h;rw [shiftUp];split;{
 split;{rfl}
 {rw [ih _ _ (by omega),size_swp]}};{rfl}
theorem Sj (h:0<j) (hp:ltInt d[j]! d[j-1]! = true):shiftDown ltInt j d=shiftDown ltInt (j-1) (swp d j (j-1)):=by
 cases j with
 | zero=>omega
 | succ j=>
  simp only [Nat.add_sub_cancel] at hp ⊢;rw [shiftDown,if_neg (by simp [hp])]
theorem Cm (h:j=0\/ltInt d[j]! d[j-1]! = false):shiftDown ltInt j d=d:=by
 cases j with
 | zero=>rfl
 | succ j=>
  rcases h with h | h;{omega};{simp only [Nat.add_sub_cancel] at h;rw [shiftDown,if_pos (by simp [h])]}
theorem Se (h:j<b) (hp:ltInt d[j]! d[j-1]! = true):shiftUp ltInt b j d=shiftUp ltInt b (j+1) (swp d j (j-1)):=by
 rw [shiftUp,if_pos h,if_neg (by simp [hp])]
theorem Ci (h:¬ j<b\/ltInt d[j]! d[j-1]! = false):shiftUp ltInt b j d=d:=by
 rw [shiftUp];rcases h with h | h;{rw [if_neg h]};{split;{rw [if_pos (by simp [h])]};{rfl}}
theorem J3 (hI:scanSorted ltInt d b i=I) (h:I=b):partialIns ltInt a b (s+1) i d=(d,true):=by
 rw [partialIns];simp only [hI];rw [if_pos h]
theorem pi_short (hI:scanSorted ltInt d b i=I) (h:¬ I=b) (h5:b-a<50):partialIns ltInt a b (s+1) i d=(d,false):=by
 rw [partialIns];simp only [hI];rw [if_neg h,if_pos h5]
theorem pi_go (hI:scanSorted ltInt d b i=I) (h:¬ I=b) (h5:¬ b-a<50) {d2 d3 d4:Array Int} (h2:swp d I (I-1)=d2) (h3:(if I-a>=2 then shiftDown ltInt (I-1) d2 else d2)=d3)
  (h4:(if b-I>=2 then shiftUp ltInt b (I+1) d3 else d3)=d4):partialIns ltInt a b (s+1) i d=partialIns ltInt a b s I d4:=by
 rw [partialIns];simp only [hI];rw [if_neg h,if_neg h5,h2,h3,h4]
theorem DM (aB off cap N a b:Nat) (d:Array Int) (hN:Hid (d.size=N)) (w:World) (h:HU w aB off d) (Bo:a<b) (hb:b<=N) (fI:N<=1048576) :
  Calls prog 190 #[.slice (some ⟨aB,off,none⟩) N cap,.int .i64 a,.int .i64 b] w fun e w'=>e=.returned (.bool (partialInsertionSort ltInt d a b).2)/\HU w' aB off (partialInsertionSort ltInt d a b).1/\w.grownBy w' (some aB):=by
 obtain ⟨⟨R1,R2⟩,eR⟩:∃ R,partialInsertionSort ltInt d a b=R:=⟨_,rfl⟩;rw [eR];have ER:Hid (partialIns ltInt a b 5 (a+1) d=(R1,R2)):=eR;have H0:=ae h;obtain ⟨Lz,eL⟩:∃ x:Nat,(b:Int)-(a:Int)=(x:Int):=⟨b-a,by omega⟩;have eL0:=ae (show b-a=Lz by omega);have wL:IntKind.i64.wrap (Lz:Int)=(Lz:Int):=IntWalk.i64_in _ (by omega);go_enter func190,ntmps190;go_wp2_with fail
 go_loopw [7,8] (fun s7 s8 wr=>∃ (i s:Nat) (jz:Int) (dk:Array Int),s7=.int .i64 i/\s8=.int .i64 jz/\jz+s=5/\0<=jz/\a+1<=i/\i<=b/\Hid (dk.size=N)/\Hid (HU wr aB off dk)/\Hid (partialIns ltInt a b s i dk=(R1,R2))/\Hid (w.grownBy wr (some aB))) (fun _ s8 _=>(5-intOf s8).toNat)
 case atStart=>exact ⟨a+1,5,0,d,by first | rfl | go_num,rfl,rfl,by omega,by omega,by omega,hN,H0,ER,je _ _⟩
 case round =>(
 obtain ⟨i,s,jz,dk,rfl,rfl,z1,z2,z3,z4,HD,hH,hQ,hG⟩:=hrel;cases s with
 | zero=>
  have hj:¬ jz<5:=by omega
  have hq:=aa hQ;simp only [partialIns,Prod.mk.injEq] at hq;obtain ⟨Lo,Ln⟩:=hq;subst Lo Ln;go_wp2;go_ret;exact ⟨rfl,hH,hG⟩
 | succ t=>
  have hj:jz<5:=by omega
  obtain ⟨I,eI⟩:=aN (scanSorted ltInt dk b i);have EI:=ae eI;have EI':=ae eI;have pj:=aa HD;go_wp2_with fail;obtain ⟨Y,eY⟩:=ar wr;subst eY
  go_loopw [7] (fun s7 wr=>∃ i1:Nat,s7=.int .i64 i1/\a+1<=i1/\i1<=b/\Hid (HU wr aB off dk)/\Hid (scanSorted ltInt dk b i1=I)/\Hid (w.grownBy wr (some aB))) (fun s7 _=>b-(intOf s7).toNat)
  case atStart=>exact ⟨i,rfl,by omega,by omega,hH,EI,hG⟩
  case round =>(
 obtain ⟨i1,rfl,qa,qb,qn,Lg,Jk⟩:=hrel;obtain ⟨Bc,Em⟩:=aN (decide (i1<b)&&!ltInt dk[i1]! dk[i1-1]!);have mn:=ae Em;obtain ⟨m,em⟩:∃ m:Nat,(i1:Int)-1=(m:Int):=⟨i1-1,by omega⟩;have Ni:=ae (show i1-1=m by omega);have wm:IntKind.i64.wrap (m:Int)=(m:Int):=IntWalk.i64_in _ (by omega);go_wp2_with fail
 go_cut [32] (fun rv wc=>rv=.bool Bc/\wc=wr.drew)
 case first =>(
 by_cases ic:i1<b;{
 have qm:(i1:Int)<(b:Int):=by omega
 obtain ⟨c1,-⟩:=aa qn i1 (by omega);obtain ⟨c2,-⟩:=aa qn m (by omega);obtain ⟨x,ex⟩:∃ x,dk[i1]! = x:=⟨_,rfl⟩;obtain ⟨y,ey⟩:∃ y,dk[m]! = y:=⟨_,rfl⟩;rw [ex] at c1;rw [ey] at c2;have k1:(i1:Int)<(N:Int):=by omega
 have k2:(m:Int)<(N:Int):=by omega
 have k3:(0:Int)<=(i1:Int):=by omega
 have k4:(0:Int)<=(m:Int):=by omega
 obtain ⟨L,eL'⟩:=aN (ltInt x y);have EL:=ae eL';have eB:Bc=(!L):=by rw [<-aa mn];simp only [decide_eq_true ic,Bool.true_and,aa Ni,ex,ey,eL']
 subst eB;have K0:=ae (ag c1 c2);refine wp_region_noPanic ?_;refine wp_region_held_drew (S:=fun w'=>w'.cell? ⟨aB,off+i1,none⟩=some (.int .u64 x)/\w'.cell? ⟨aB,off+m,none⟩=some (.int .u64 y)) (by kernel_rfl) (by exact K0) (fun hS=>?_);refine gj 0 1 2 3 4 5 6 7 hS ?_;refine gp 8 9 10 11 hS ?_;refine tn 12 hS ?_;refine aH 13 fun KK hK=>?_;refine bR (by rfl) 191 _ _ _ (by rfl) (.int .u64 x) (.int .u64 y) (by rfl) (by rfl) (fun _=>dz _ _) (dy x y _) ?_;rintro r' w2 ⟨rfl,rfl⟩;refine ⟨_,rfl,?_⟩;rw [aa EL];refine bm hK (by exact K0) fun hS=>?_;refine dQ 14 15 hS ?_;refine wpAnyH_done (by kernel_rfl) ?_ _;refine aX ?_;go_wp2_with fail;go_meet;exact ⟨rfl,rfl⟩};{
 have qm:¬ (i1:Int)<(b:Int):=by omega
 have eB:Bc=false:=by rw [<-aa mn,decide_eq_false ic];rfl
 subst eB;refine wp_region_noPanic ?_;refine wp_region_held_drew (S:=fun w'=>True) (by kernel_rfl) trivial (fun hS=>?_);refine gp 0 1 2 3 hS ?_;refine sn 4 hS ?_;refine sn 5 hS ?_;refine sn 6 hS ?_;refine sn 7 hS ?_;refine sn 8 hS ?_;refine sn 9 hS ?_;refine sn 10 hS ?_;refine sn 11 hS ?_;refine sn 12 hS ?_;refine sn 13 hS ?_;refine sn 14 hS ?_;refine tn 15 hS ?_;refine wpAnyH_done (by kernel_rfl) ?_ _;refine aX ?_;go_wp2_with fail;go_meet;exact ⟨rfl,rfl⟩})
 obtain ⟨rfl,rfl⟩:=hcut;cases Bc with
 | true=>
  have hh:i1<b/\ltInt dk[i1]! dk[i1-1]! = false:=by have:=aa mn;simp only [Bool.and_eq_true,decide_eq_true_iff,Bool.not_eq_true'] at this;exact this
  have hn:Hid (scanSorted ltInt dk b (i1+1)=I):=by show _=_;rw [<-Sf hh.1 hh.2];exact aa Lg
  have hle:=hh.1;go_wp2;go_roundw
  case rel=>exact ⟨i1+1,by go_num,by omega,by omega,qn.drew,hn,ao Jk⟩
  case measure=>simp [intOf];omega
 | false=>
  have cF:i1=I:=by rw [<-aa Lg,JK];have:=aa mn;simp only [Bool.and_eq_false_iff,decide_eq_false_iff_not,Bool.not_eq_false'] at this;exact this
  subst cF;by_cases Xo:i1=b;{have hq:=aa hQ;rw [J3 (aa EI') Xo,Prod.mk.injEq] at hq;obtain ⟨Lo,Ln⟩:=hq;subst Lo Ln;subst Xo;go_wp2;go_ret;exact ⟨rfl,qn,ao Jk⟩};{
 have aX7:¬ (i1:Int)=(b:Int):=by omega
 by_cases h5:Lz<50;{
 have h5':(Lz:Int)<50:=by omega
 have hq:=aa hQ;rw [pi_short (aa EI') Xo (by rw [aa eL0];exact h5),Prod.mk.injEq] at hq;obtain ⟨Lo,Ln⟩:=hq;subst Lo Ln;go_wp2;go_ret;exact ⟨rfl,qn,ao Jk⟩};{
 have h5':¬ (Lz:Int)<50:=by omega
 obtain ⟨d2,e2⟩:=aN (swp dk i1 (i1-1));obtain ⟨d3,e3⟩:∃ x,(if i1-a>=2 then shiftDown ltInt (i1-1) d2 else d2)=x:=⟨_,rfl⟩;obtain ⟨d4,e4⟩:∃ x,(if b-i1>=2 then shiftUp ltInt b (i1+1) d3 else d3)=x:=⟨_,rfl⟩;have hq:=aa hQ;rw [pi_go (aa EI') Xo (by rw [aa eL0];exact h5) e2 e3 e4] at hq;have HQ:=ae hq;rw [aa Ni] at e2 e3;have Wu:Hid (d2.size=N):=by show _=_;rw [<-e2,size_swp];exact pj
 have tG:Hid (d3.size=N):=by show _=_;rw [<-e3];split;{rw [Cn];exact aa Wu};{exact Wu}
 have Jw:Hid (d4.size=N):=by show _=_;rw [<-e4];split;{rw [JG b _ _ _ ax];exact aa tG};{exact tG}
 obtain ⟨c1,f1⟩:=aa qn i1 (by omega);obtain ⟨c2,f2⟩:=aa qn m (by omega);obtain ⟨p1,sY⟩:∃ u,dk[i1]! = u:=⟨_,rfl⟩;obtain ⟨p2,sX⟩:∃ u,dk[m]! = u:=⟨_,rfl⟩;rw [sY] at c1;rw [sX] at c2;have lX:=ae (qn.swap (i:=i1) (j:=m) (by omega) (by omega) sX.symm sY.symm);rw [e2] at lX;have Ah:=ae (aG (aG Jk (az _ aB (off+i1) (.int .u64 p2))) (az _ aB (off+m) (.int .u64 p1)));have l1:(i1:Int)<(N:Int):=by omega
 have l2:(m:Int)<(N:Int):=by omega
 have l3:(0:Int)<=(m:Int):=by omega
 have E3:=ae e3;have E4:=ae e4;obtain ⟨A1,eA⟩:∃ x:Nat,(i1:Int)-(a:Int)=(x:Int):=⟨i1-a,by omega⟩;have eA0:=ae (show i1-a=A1 by omega);have wA:IntKind.i64.wrap (A1:Int)=(A1:Int):=IntWalk.i64_in _ (by omega);obtain ⟨B1,eB1⟩:∃ x:Nat,(b:Int)-(i1:Int)=(x:Int):=⟨b-i1,by omega⟩;have RE:=ae (show b-i1=B1 by omega);have wB:IntKind.i64.wrap (B1:Int)=(B1:Int):=IntWalk.i64_in _ (by omega);go_wp2_with fail
 go_region
 go_upto_if 61 with fail
 go_cut [9] (fun s9 wc=>Hid (HU wc aB off d3)/\Hid (w.grownBy wc (some aB)))
 case first =>(
 by_cases hC:A1>=2;{
 have hC':(A1:Int)>=2:=by omega
 have PT:(2:Int)<=(A1:Int):=by omega
 try simp only [PT,decide_true]
 have E3':Hid (shiftDown ltInt m d2=d3):=by have:=aa E3;rw [aa eA0,if_pos hC] at this;exact this
 go_wp2_with fail;obtain ⟨Y2,Qn⟩:=ar wr;subst Qn
 go_loopw [9] (fun s9 wr=>∃ (j:Nat) (dj:Array Int),s9=.int .i64 j/\j<=m/\Hid (dj.size=N)/\Hid (HU wr aB off dj)/\Hid (shiftDown ltInt j dj=d3)/\Hid (w.grownBy wr (some aB))) (fun s9 _=>(intOf s9).toNat)
 case atStart=>exact ⟨m,d2,by first | rfl | go_num,by omega,Wu,by exact lX,E3',by exact ao (ao Ah)⟩
 case round =>(
 obtain ⟨j,dj,rfl,q1,KR,tS,Bh,hg⟩:=hrel;by_cases KM:0<j;{
 have Hg:(1:Int)<=(j:Int):=by omega
 obtain ⟨jm,ejm⟩:∃ x:Nat,(j:Int)-1=(x:Int):=⟨j-1,by omega⟩;have Bx:j-1=jm:=by omega
 have wjm:IntKind.i64.wrap (jm:Int)=(jm:Int):=IntWalk.i64_in _ (by omega);have yE:=aa KR;obtain ⟨cj,fj⟩:=aa tS j (by omega);obtain ⟨cm,fm⟩:=aa tS jm (by omega);obtain ⟨y,ey⟩:∃ y,dj[j]! = y:=⟨_,rfl⟩;obtain ⟨z,ez⟩:∃ z,dj[jm]! = z:=⟨_,rfl⟩;have CF:=ae (tS.swap (i:=j) (j:=jm) (by omega) (by omega) ez.symm ey.symm);rw [ey] at cj;rw [ez] at cm;have i1':(j:Int)<(N:Int):=by omega
 have i2':(jm:Int)<(N:Int):=by omega
 have i3':(0:Int)<=(jm:Int):=by omega
 have i4':(0:Int)<=(j:Int):=by omega
 obtain ⟨B,eB⟩:=aN (ltInt y z);have EB:=ae eB;have lY:Hid (B=false->dj=d3):=fun hB=>by rw [<-aa Bh,Cm (.inr (by rw [Bx,ey,ez,eB,hB]))]
 have IY:Hid (B=true->shiftDown ltInt jm (swp dj j jm)=d3):=fun hB=>by rw [<-aa Bh,Sj KM (by rw [Bx,ey,ez,eB,hB]),Bx]
 have rN:Hid ((swp dj j jm).size=N):=by show _=_;rw [size_swp];exact yE
 have HGs:=ae (aG (aG hg (az _ aB (off+j) (.int .u64 z))) (az _ aB (off+jm) (.int .u64 y)));have K0:=ae (ag cj cm);have FF:=ae (ag fj fm);go_wp2_with fail
 go_cut [78] (fun rv wc=>rv=.bool (!B)/\wc=wr.drew)
 case first =>(
 refine wp_region_noPanic ?_;refine wp_region_held_drew (S:=fun w'=>w'.cell? ⟨aB,off+j,none⟩=some (.int .u64 y)/\w'.cell? ⟨aB,off+jm,none⟩=some (.int .u64 z)) (by kernel_rfl) (by exact K0) (fun hS=>?_);refine gj 0 1 2 3 4 5 6 7 hS ?_;refine tn 8 hS ?_;refine ry [9] ?_;refine cn (fun KK hK=>?_) ?_;{refine bR (by rfl) 191 _ _ _ (by rfl) (.int .u64 y) (.int .u64 z) (by rfl) (by rfl) (fun _=>dz _ _) (dy y z _) ?_;rintro r w2 ⟨rfl,rfl⟩;refine ⟨_,rfl,?_⟩;rw [aa EB];refine bm hK (by exact K0) fun hS=>?_;refine tn 10 hS ?_;refine wpAnyH_done (by kernel_rfl) ?_ _;refine aX ?_;go_wp2_with fail;go_meet;exact ⟨rfl,rfl⟩};exact AllReadyH.nil)
 obtain ⟨rfl,rfl⟩:=hcut;cases B with
 | false=>
  have e:=aa lY rfl;subst e;go_wp2_with fail;go_meet;exact ⟨tS,ao hg⟩
 | true=>
  have e:=ae (aa IY rfl);obtain ⟨cj,cm⟩:=aa K0;obtain ⟨fj,fm⟩:=aa FF;go_wp2_with fail
  go_region
  go_wp2;go_roundw
  case rel =>(
 exact ⟨jm,swp dj j jm,by first | rfl | go_num,by omega,rN,(aa CF),e,ao (ao HGs)⟩)
  case measure=>simp [intOf];omega}
 {
 have Hg:¬ (1:Int)<=(j:Int):=by omega
 have e:dj=d3:=by rw [<-aa Bh,Cm (.inl (by omega))]
 subst e;go_wp2_with fail;go_meet;exact ⟨tS,hg⟩})}
 {
 have hC':¬ (A1:Int)>=2:=by omega
 have PT:¬ (2:Int)<=(A1:Int):=by omega
 try simp only [PT,decide_false]
 have e:d2=d3:=by have:=aa E3;rw [aa eA0,if_neg hC] at this;exact this
 subst e;go_wp2_with fail;go_meet;exact ⟨by exact lX,by exact ao (ao Ah)⟩})
 obtain ⟨wR,Le⟩:=hcut;obtain ⟨Y3,eY3⟩:=ar wc;subst eY3
 go_upto_if 98 with fail
 by_cases hC:B1>=2;{
 have hC':(B1:Int)>=2:=by omega
 have PT:(2:Int)<=(B1:Int):=by omega
 try simp only [PT,decide_true]
 have E3':Hid (shiftUp ltInt b (i1+1) d3=d4):=by have:=aa E4;rw [aa RE,if_pos hC] at this;exact this
 go_wp2_with fail;obtain ⟨Y2,Qn⟩:=ar wr;subst Qn
 go_loopw [10] (fun Aw wr=>∃ (j:Nat) (dj:Array Int),Aw=.int .i64 j/\i1+1<=j/\j<=b/\Hid (dj.size=N)/\Hid (HU wr aB off dj)/\Hid (shiftUp ltInt b j dj=d4)/\Hid (w.grownBy wr (some aB))) (fun Aw _=>b-(intOf Aw).toNat)
 case atStart=>exact ⟨i1+1,d3,by first | rfl | go_num,by omega,by omega,tG,by exact wR,E3',by exact Le⟩
 case round =>(
 obtain ⟨j,dj,rfl,q1,q2,KR,tS,Bh,hg⟩:=hrel;by_cases KM:j<b;{
 have Hg:(j:Int)<(b:Int):=by omega
 obtain ⟨jm,ejm⟩:∃ x:Nat,(j:Int)-1=(x:Int):=⟨j-1,by omega⟩;have Bx:j-1=jm:=by omega
 have wjm:IntKind.i64.wrap (jm:Int)=(jm:Int):=IntWalk.i64_in _ (by omega);have yE:=aa KR;obtain ⟨cj,fj⟩:=aa tS j (by omega);obtain ⟨cm,fm⟩:=aa tS jm (by omega);obtain ⟨y,ey⟩:∃ y,dj[j]! = y:=⟨_,rfl⟩;obtain ⟨z,ez⟩:∃ z,dj[jm]! = z:=⟨_,rfl⟩;have CF:=ae (tS.swap (i:=j) (j:=jm) (by omega) (by omega) ez.symm ey.symm);rw [ey] at cj;rw [ez] at cm;have i1':(j:Int)<(N:Int):=by omega
 have i2':(jm:Int)<(N:Int):=by omega
 have i3':(0:Int)<=(jm:Int):=by omega
 have i4':(0:Int)<=(j:Int):=by omega
 obtain ⟨B,eB⟩:=aN (ltInt y z);have EB:=ae eB;have lY:Hid (B=false->dj=d4):=fun hB=>by rw [<-aa Bh,Ci (.inr (by rw [Bx,ey,ez,eB,hB]))]
 have IY:Hid (B=true->shiftUp ltInt b (j+1) (swp dj j jm)=d4):=fun hB=>by rw [<-aa Bh,Se KM (by rw [Bx,ey,ez,eB,hB]),Bx]
 have rN:Hid ((swp dj j jm).size=N):=by show _=_;rw [size_swp];exact yE
 have HGs:=ae (aG (aG hg (az _ aB (off+j) (.int .u64 z))) (az _ aB (off+jm) (.int .u64 y)));have K0:=ae (ag cj cm);have FF:=ae (ag fj fm);go_wp2_with fail
 go_cut [116] (fun rv wc=>rv=.bool (!B)/\wc=wr.drew)
 case first =>(
 refine wp_region_noPanic ?_;refine wp_region_held_drew (S:=fun w'=>w'.cell? ⟨aB,off+j,none⟩=some (.int .u64 y)/\w'.cell? ⟨aB,off+jm,none⟩=some (.int .u64 z)) (by kernel_rfl) (by exact K0) (fun hS=>?_);refine gj 0 1 2 3 4 5 6 7 hS ?_;refine tn 8 hS ?_;refine ry [9] ?_;refine cn (fun KK hK=>?_) ?_;{refine bR (by rfl) 191 _ _ _ (by rfl) (.int .u64 y) (.int .u64 z) (by rfl) (by rfl) (fun _=>dz _ _) (dy y z _) ?_;rintro r w2 ⟨rfl,rfl⟩;refine ⟨_,rfl,?_⟩;rw [aa EB];refine bm hK (by exact K0) fun hS=>?_;refine tn 10 hS ?_;refine wpAnyH_done (by kernel_rfl) ?_ _;refine aX ?_;go_wp2_with fail;go_meet;exact ⟨rfl,rfl⟩};exact AllReadyH.nil)
 obtain ⟨rfl,rfl⟩:=hcut;cases B with
 | false=>
  have e:=aa lY rfl;subst e;go_wp2;go_roundw
  case rel =>(
 exact ⟨i1,t,jz+1,_,rfl,by first | rfl | go_num,by omega,by omega,by omega,by omega,Jw,tS,HQ,ao hg⟩)
  case measure=>simp [intOf];omega
 | true=>
  have e:=ae (aa IY rfl);obtain ⟨cj,cm⟩:=aa K0;obtain ⟨fj,fm⟩:=aa FF;go_wp2_with fail
  go_region
  go_wp2;go_roundw
  case rel =>(
 exact ⟨j+1,swp dj j jm,by first | rfl | go_num,by omega,by omega,rN,(aa CF),e,ao (ao HGs)⟩)
  case measure=>simp [intOf];omega}
 {
 have Hg:¬ (j:Int)<(b:Int):=by omega
 have e:dj=d4:=by rw [<-aa Bh,Ci (.inl KM)]
 subst e;go_wp2;go_roundw
 case rel =>(
 exact ⟨i1,t,jz+1,_,rfl,by first | rfl | go_num,by omega,by omega,by omega,by omega,Jw,tS,HQ,hg⟩)
 case measure=>simp [intOf];omega})}
 {
 have hC':¬ (B1:Int)>=2:=by omega
 have PT:¬ (2:Int)<=(B1:Int):=by omega
 try simp only [PT,decide_false]
 have e:d3=d4:=by have:=aa E4;rw [aa RE,if_neg hC] at this;exact this
 subst e;go_wp2;go_roundw
 case rel =>(
 exact ⟨i1,t,jz+1,_,rfl,by first | rfl | go_num,by omega,by omega,by omega,by omega,Jw,by exact wR,HQ,by exact Le⟩)
 case measure=>simp [intOf];omega}}}))
end Q
end Go.Proofs.YtcfcafeciggjeaaGreatDoor
