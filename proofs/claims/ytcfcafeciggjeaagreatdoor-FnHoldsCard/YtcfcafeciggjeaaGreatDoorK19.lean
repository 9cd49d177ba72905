import Derived.Test.YtcfcafeciggjeaaGreatDoorK7
import Derived.Test.YtcfcafeciggjeaaGreatDoorQTs
import Derived.RangeFuncGives
import Derived.RangeFuncSeq
import Derived.Sort.MapsRangeIn
import Derived.OwnWalkIn
import Derived.TacticsInMore
import Derived.RegionIn
import Derived.LoopNIn
import Derived.LoopIn
import Derived.Maps.AppendAt
import Derived.RangeFuncKeeps
import Derived.RangeFuncFrom
import Derived.RangeFuncNested
import Derived.RangeFuncBound
import Derived.RangeFuncCalls
import Derived.RangeFuncLeaves
import Derived.Sort.KeysCollected
namespace Go.Proofs.YtcfcafeciggjeaaGreatDoor
set_option maxHeartbeats 6400000
set_option linter.all false
set_option maxRecDepth 100000
open Go.ChangeShapes Go.WideShapes Go.ChangeAt Go.RowKit Go.Proofs.Tryz
variable {W W':World} {a b base i j k:Nat} {d:Array Int} {e:TypeId} {left:Lit->Bool} {o:Obj} {p:Prop} {ss:List (List UInt8)} {v:Value} {xs:List Value}
theorem xh (g:Nat) (vs:List Value) (ls:List (List Int)) (lm:List Int) (n k:Nat) (ek:Hid (k=ls.length)) (e:Hid (lm=cat ls)) (en:Hid (lm.length=n)) (w:World) (h:uK w g vs ls) (hl:n<=4194304) (hk:k<=10) :
  Calls prog 61 #[.S (some ⟨g,0,none⟩) k k] w fun e w'=>∃ p' c',e=.returned (.S p' n c')/\Own w.heap.size w' (.S p' n c') lm/\Bw w w':=by
 have e1:=aa ek;have e2:=aa e;have e3:=aa en;subst e1 e3 e2;go_enter func61,ntmps61;go_wp2_with fail;refine (Gn g vs ls _ h hl (by omega)).mono ?_;rintro e w1 ⟨p1,c1,rfl,o1,bq⟩;go_wp2;go_ret;exact ⟨p1,c1,rfl,o1,bq⟩
def tx (l:List Int):List Int:=vi l.length++l
namespace Q
open Go.Sort
theorem qd (lt:Int->Int->Bool) (a:Nat):∀ (j:Nat) (d:Array Int),(insInner lt a j d).size=d.size
 | 0,d=>rfl
 | j+1,d=>by rw [insInner];split;{rw [qd lt a j,size_swp]};{rfl}
theorem insInner_stop (h:¬ a<j\/ltInt d[j]! d[j-1]! = false):insInner ltInt a j d=d:=by
 cases j with
 | zero=>rfl
 | succ j=>
  rw [insInner,if_neg];rcases h with h | h;{simp;omega};{simp only [Nat.add_sub_cancel] at h;simp [h]}
theorem insInner_go (h:a<j) (hl:ltInt d[j]! d[j-1]! = true):insInner ltInt a j d=insInner ltInt a (j-1) (swp d j (j-1)):=by
 cases j with
 | zero=>omega
 | succ j=>
  simp only [Nat.add_sub_cancel] at hl ⊢;rw [insInner,if_pos (by simp [hl];omega)]
theorem QQ (aI off cap N a b:Nat) (d:Array Int) (hN:Hid (d.size=N)) (w:World) (h:HU w aI off d) (FR:a<=b) (hb:b<=N) (il:N<=1048576) :
  Calls prog 185 #[.S (some ⟨aI,off,none⟩) N cap,.I a,.I b] w fun e w'=>e=.returned (.tuple #[])/\HU w' aI off (insertionSort ltInt d a b)/\w.grownBy w' (some aI):=by
 obtain ⟨D,eD⟩:=aH (insertionSort ltInt d a b);rw [eD];have ED:Hid (insOuter ltInt a b (a+1) d=D):=eD;have H0:=ae h;go_enter func185,ntmps185;go_wp2_with fail
 go_loopw [6] (fun s6 wr=>∃ (i:Nat) (dk:Array Int),s6=.I i/\i<=1048577/\a<i/\Hid (dk.size=N)/\Hid (HU wr aI off dk)/\Hid (insOuter ltInt a b i dk=D)/\Hid (w.grownBy wr (some aI))) (fun s6 _=>b-(intOf s6).toNat)
 case atStart=>exact ⟨a+1,d,by first | rfl | go_num,by omega,by omega,hN,H0,ED,ld _ _⟩
 case round =>(
 obtain ⟨i,dk,rfl,q1,q2,qO,xy,heq,hg⟩:=hrel;by_cases bj:i<b;{
 have bm:=aT i b;have hq:=aa heq;rw [insOuter,if_pos bj] at hq;obtain ⟨E,eE⟩:=aH (insInner ltInt a i dk);rw [eE] at hq;have HQ:=ae hq;have EE:=ae eE;have hEs:Hid (E.size=N):=by show _=_;rw [<-eE,qd];exact aa qO
 go_wp2_with fail;obtain ⟨Y,eY⟩:=ax wr;subst eY;have HG0:=hg
 go_loopw [7] (fun s7 wr=>∃ (j:Nat) (dj:Array Int),s7=.I j/\j<=i/\a<=j/\Hid (dj.size=N)/\Hid (HU wr aI off dj)/\Hid (insInner ltInt a j dj=E)/\Hid (w.grownBy wr (some aI))) (fun s7 _=>(intOf s7).toNat)
 case atStart=>exact ⟨i,dk,rfl,Nat.le_refl _,by omega,qO,xy,EE,HG0⟩
 case round =>(
 obtain ⟨j,dj,rfl,q3,q4,Rk,yi,FO,hg⟩:=hrel;by_cases hja:a<j;{
 have aM1:=aT a j;obtain ⟨m,em⟩:∃ m:Nat,(j:Int)-1=(m:Int):=⟨j-1,by omega⟩;have Ud:j-1=m:=by omega
 have DM:=aa Rk;obtain ⟨cj,fj⟩:=aa yi j (by omega);obtain ⟨cm,fm⟩:=aa yi m (by omega);obtain ⟨y,ey⟩:=aH dj[j]!;obtain ⟨z,ez⟩:=aH dj[m]!;have Hh:=ae (yi.swap (i:=j) (j:=m) (by omega) (by omega) ez.symm ey.symm);rw [ey] at cj;rw [ez] at cm;have i1:=aT j N;have i2:=aT m N;have i3:=dE 0 m;have wm:=fH m;obtain ⟨B,eB⟩:=aH (ltInt y z);have EB:=ae eB;have oW:Hid (B=false->dj=E):=fun hB=>by rw [<-aa FO,insInner_stop (.inr (by rw [Ud,ey,ez,eB,hB]))]
 have Oz:Hid (B=true->insInner ltInt a m (swp dj j m)=E):=fun hB=>by rw [<-aa FO,insInner_go hja (by rw [Ud,ey,ez,eB,hB]),Ud]
 have vQ:Hid ((swp dj j m).size=N):=by show _=_;rw [size_swp];exact DM
 have HG:=ae (aQ (aQ hg (aE wr aI (off+j) (.U z))) (aE _ aI (off+m) (.U y)));have K0:=ae (ag cj cm);have FF:=ae (ag fj fm);go_wp2_with fail
 go_cut [30] (fun rv wc=>rv=.bool B/\wc=wr.drew)
 case first =>(
 refine bO (fun w'=>w'.cell? ⟨aI,off+j,none⟩=some (.U y)/\w'.cell? ⟨aI,off+m,none⟩=some (.U z)) (by exact K0) fun hS=>?_;refine gy 0 1 2 3 4 5 6 7 hS ?_;refine gC 8 9 10 11 hS ?_;refine tn 12 hS ?_;refine ry [13] ?_;refine cn (fun KK hK=>?_) ?_;{refine cL (by rfl) 191 _ _ _ (by rfl) (.U y) (.U z) (by rfl) (by rfl) (fun _=>dZ _ _) (dY y z _) ?_;rintro r w2 ⟨rfl,rfl⟩;refine ⟨_,rfl,?_⟩;rw [aa EB];refine cg hK (by exact K0) fun hS=>?_;refine tn 14 hS ?_;refine bu ?_;go_wp2_with fail;go_meet;exact ⟨rfl,rfl⟩};exact AllReadyH.nil)
 obtain ⟨rfl,rfl⟩:=hcut;cases B with
 | false=>
  have e:=aa oW rfl;subst e;go_wp2;go_roundw
  case rel=>exact ⟨i+1,dj,by go_num,by omega,by omega,Rk,yi.drew,HQ,ar hg⟩
  case measure=>simp [intOf];omega
 | true=>
  have e:=ae (aa Oz rfl);obtain ⟨cj,cm⟩:=aa K0;obtain ⟨fj,fm⟩:=aa FF;go_wp2_with fail
  go_region
  go_wp2;go_roundw
  case rel=>exact ⟨m,swp dj j m,by first | rfl | go_num,by omega,by omega,vQ,(aa Hh),e,ar (ar HG)⟩
  case measure=>simp [intOf];omega}
 {
 have aM1:=dy a j;have e:dj=E:=by rw [<-aa FO,insInner_stop (.inl hja)]
 subst e;go_wp2_with fail
 go_cut [30] (fun rv wc=>rv=.bool false/\wc=wr.drew)
 case first =>(
 refine bO (fun w'=>True) trivial fun hS=>?_;refine gC 0 1 2 3 hS ?_;refine iI 4 5 6 7 hS ?_;refine iI 8 9 10 11 hS ?_;refine sn 12 hS ?_;refine sn 13 hS ?_;refine tn 14 hS ?_;refine bu ?_;go_wp2_with fail;go_meet;exact ⟨rfl,rfl⟩)
 obtain ⟨rfl,rfl⟩:=hcut;go_wp2;go_roundw
 case rel=>exact ⟨i+1,dj,by go_num,by omega,by omega,Rk,yi.drew,HQ,ar hg⟩
 case measure=>simp [intOf];omega})}
 {
 have bm:=dy i b;have hq:=aa heq;rw [insOuter,if_neg bj] at hq;subst hq;go_wp2
 go_end0
 exact ⟨rfl,xy,hg⟩})
end Q
namespace Q
open Go.Sort
theorem am4 (h:i<b) (hp:ltInt d[i]! d[i-1]! = false):scanSorted ltInt d b i=scanSorted ltInt d b (i+1):=by
 rw [scanSorted,if_pos (by simp [h,hp])]
theorem Qb (h:¬ i<b\/ltInt d[i]! d[i-1]! = true):scanSorted ltInt d b i=i:=by
 rw [scanSorted,if_neg];rcases h with h | h;{simp;omega};{simp [h]}
theorem GQ:∀ (j:Nat) (d:Array Int),(shiftDown ltInt j d).size=d.size
 | 0,d=>rfl
 | j+1,d=>by
  rw [shiftDown];split;{rfl}
  {rw [GQ j,size_swp]}
theorem PT (b:Nat):∀ (k j:Nat) (d:Array Int),b-j<=k->(shiftUp ltInt b j d).size=d.size:=by
 intro k
 induction k with
 | zero=>intro j d h;rw [shiftUp,if_neg (by omega)]
 | succ k ih=>
  intro j d h;rw [shiftUp];split;{
 split;{rfl}
 {rw [ih _ _ (by omega),size_swp]}};{rfl}
theorem Zc (h:0<j) (hp:ltInt d[j]! d[j-1]! = true):shiftDown ltInt j d=shiftDown ltInt (j-1) (swp d j (j-1)):=by
 cases j with
 | zero=>omega
 | succ j=>
  simp only [Nat.add_sub_cancel] at hp ⊢;rw [shiftDown,if_neg (by simp [hp])]
theorem GP (h:j=0\/ltInt d[j]! d[j-1]! = false):shiftDown ltInt j d=d:=by
 cases j with
 | zero=>rfl
 | succ j=>
  rcases h with h | h;{omega};{simp only [Nat.add_sub_cancel] at h;rw [shiftDown,if_pos (by simp [h])]}
theorem ah5 (h:j<b) (hp:ltInt d[j]! d[j-1]! = true):shiftUp ltInt b j d=shiftUp ltInt b (j+1) (swp d j (j-1)):=by
 rw [shiftUp,if_pos h,if_neg (by simp [hp])]
theorem GM (h:¬ j<b\/ltInt d[j]! d[j-1]! = false):shiftUp ltInt b j d=d:=by
 rw [shiftUp];rcases h with h | h;{rw [if_neg h]};{split;{rw [if_pos (by simp [h])]};{rfl}}
theorem Qo {a b s i I:Nat} (hI:scanSorted ltInt d b i=I) (h:I=b):partialIns ltInt a b (s+1) i d=(d,true):=by
 rw [partialIns];simp only [hI];rw [if_pos h]
theorem pi_short {a b s i I:Nat} (hI:scanSorted ltInt d b i=I) (h:¬ I=b) (h5:b-a<50):partialIns ltInt a b (s+1) i d=(d,false):=by
 rw [partialIns];simp only [hI];rw [if_neg h,if_pos h5]
theorem pi_go {a b s i I:Nat} (hI:scanSorted ltInt d b i=I) (h:¬ I=b) (h5:¬ b-a<50) {d2 d3 d4:Array Int} (h2:swp d I (I-1)=d2) (h3:(if I-a>=2 then shiftDown ltInt (I-1) d2 else d2)=d3)
  (h4:(if b-I>=2 then shiftUp ltInt b (I+1) d3 else d3)=d4):partialIns ltInt a b (s+1) i d=partialIns ltInt a b s I d4:=by
 rw [partialIns];simp only [hI];rw [if_neg h,if_neg h5,h2,h3,h4]
theorem IF (aI off cap N a b:Nat) (d:Array Int) (hN:Hid (d.size=N)) (w:World) (h:HU w aI off d) (FR:a<b) (hb:b<=N) (il:N<=1048576) :
  Calls prog 190 #[.S (some ⟨aI,off,none⟩) N cap,.I a,.I b] w fun e w'=>e=.returned (.bool (partialInsertionSort ltInt d a b).2)/\HU w' aI off (partialInsertionSort ltInt d a b).1/\w.grownBy w' (some aI):=by
 obtain ⟨⟨R1,R2⟩,eR⟩:∃ R,partialInsertionSort ltInt d a b=R:=⟨_,rfl⟩;rw [eR];have ER:Hid (partialIns ltInt a b 5 (a+1) d=(R1,R2)):=eR;have H0:=ae h;obtain ⟨Lz,eL⟩:∃ x:Nat,(b:Int)-(a:Int)=(x:Int):=⟨b-a,by omega⟩;have eL0:=ae (show b-a=Lz by omega);have wL:=fH Lz;go_enter func190,ntmps190;go_wp2_with fail
 go_loopw [7,8] (fun s7 s8 wr=>∃ (i s:Nat) (jz:Int) (dk:Array Int),s7=.I i/\s8=.I jz/\jz+s=5/\0<=jz/\a+1<=i/\i<=b/\Hid (dk.size=N)/\Hid (HU wr aI off dk)/\Hid (partialIns ltInt a b s i dk=(R1,R2))/\Hid (w.grownBy wr (some aI))) (fun _ s8 _=>(5-intOf s8).toNat)
 case atStart=>exact ⟨a+1,5,0,d,by first | rfl | go_num,rfl,rfl,by omega,by omega,by omega,hN,H0,ER,ld _ _⟩
 case round =>(
 obtain ⟨i,s,jz,dk,rfl,rfl,z1,z2,z3,z4,HD,hH,hQ,hG⟩:=hrel;cases s with
 | zero=>
  have hj:¬ jz<5:=by omega
  have hq:=aa hQ;simp only [partialIns,Prod.mk.injEq] at hq;obtain ⟨RR,RO⟩:=hq;subst RR RO;go_wp2;go_ret;exact ⟨rfl,hH,hG⟩
 | succ t=>
  have hj:jz<5:=by omega
  obtain ⟨I,eI⟩:=aH (scanSorted ltInt dk b i);have EI:=ae eI;have EI':=ae eI;have qO:=aa HD;go_wp2_with fail;obtain ⟨Y,eY⟩:=ax wr;subst eY
  go_loopw [7] (fun s7 wr=>∃ i1:Nat,s7=.I i1/\a+1<=i1/\i1<=b/\Hid (HU wr aI off dk)/\Hid (scanSorted ltInt dk b i1=I)/\Hid (w.grownBy wr (some aI))) (fun s7 _=>b-(intOf s7).toNat)
  case atStart=>exact ⟨i,rfl,by omega,by omega,hH,EI,hG⟩
  case round =>(
 obtain ⟨i1,rfl,qa,qb,tL,Rw,Ph⟩:=hrel;obtain ⟨Bc,Jn⟩:=aH (decide (i1<b)&&!ltInt dk[i1]! dk[i1-1]!);have pE:=ae Jn;obtain ⟨m,em⟩:∃ m:Nat,(i1:Int)-1=(m:Int):=⟨i1-1,by omega⟩;have Ud:=ae (show i1-1=m by omega);have wm:=fH m;go_wp2_with fail
 go_cut [32] (fun rv wc=>rv=.bool Bc/\wc=wr.drew)
 case first =>(
 by_cases jc:i1<b;{
 have tK:=aT i1 b;obtain ⟨c1,-⟩:=aa tL i1 (by omega);obtain ⟨c2,-⟩:=aa tL m (by omega);obtain ⟨x,ex⟩:=aH dk[i1]!;obtain ⟨y,ey⟩:=aH dk[m]!;rw [ex] at c1;rw [ey] at c2;have k1:=aT i1 N;have k2:=aT m N;have k3:=dE 0 i1;have k4:=dE 0 m;obtain ⟨L,eL'⟩:=aH (ltInt x y);have EL:=ae eL';have eB:Bc=(!L):=by rw [<-aa pE];simp only [decide_eq_true jc,Bool.true_and,aa Ud,ex,ey,eL']
 subst eB;have K0:=ae (ag c1 c2);refine bO (fun w'=>w'.cell? ⟨aI,off+i1,none⟩=some (.U x)/\w'.cell? ⟨aI,off+m,none⟩=some (.U y)) (by exact K0) fun hS=>?_;refine gy 0 1 2 3 4 5 6 7 hS ?_;refine gC 8 9 10 11 hS ?_;refine tn 12 hS ?_;refine bH 13 fun KK hK=>?_;refine cL (by rfl) 191 _ _ _ (by rfl) (.U x) (.U y) (by rfl) (by rfl) (fun _=>dZ _ _) (dY x y _) ?_;rintro r' w2 ⟨rfl,rfl⟩;refine ⟨_,rfl,?_⟩;rw [aa EL];refine cg hK (by exact K0) fun hS=>?_;refine fe 14 15 hS ?_;refine bu ?_;go_wp2_with fail;go_meet;exact ⟨rfl,rfl⟩};{
 have tK:=dy i1 b;have eB:Bc=false:=by rw [<-aa pE,decide_eq_false jc];rfl
 subst eB;refine bO (fun w'=>True) trivial fun hS=>?_;refine gC 0 1 2 3 hS ?_;refine iI 4 5 6 7 hS ?_;refine iI 8 9 10 11 hS ?_;refine sn 12 hS ?_;refine sn 13 hS ?_;refine sn 14 hS ?_;refine tn 15 hS ?_;refine bu ?_;go_wp2_with fail;go_meet;exact ⟨rfl,rfl⟩})
 obtain ⟨rfl,rfl⟩:=hcut;cases Bc with
 | true=>
  have hh:i1<b/\ltInt dk[i1]! dk[i1-1]! = false:=by have:=aa pE;simp only [Bool.and_eq_true,decide_eq_true_iff,Bool.not_eq_true'] at this;exact this
  have hn:Hid (scanSorted ltInt dk b (i1+1)=I):=by show _=_;rw [<-am4 hh.1 hh.2];exact aa Rw
  have hle:=hh.1;go_wp2;go_roundw
  case rel=>exact ⟨i1+1,by go_num,by omega,by omega,tL.drew,hn,ar Ph⟩
  case measure=>simp [intOf];omega
 | false=>
  have dz:i1=I:=by rw [<-aa Rw,Qb];have:=aa pE;simp only [Bool.and_eq_false_iff,decide_eq_false_iff_not,Bool.not_eq_false'] at this;exact this
  subst dz;by_cases hib:i1=b;{have hq:=aa hQ;rw [Qo (aa EI') hib,Prod.mk.injEq] at hq;obtain ⟨RR,RO⟩:=hq;subst RR RO;subst hib;go_wp2;go_ret;exact ⟨rfl,tL,ar Ph⟩};{
 have bT7:¬ (i1:Int)=(b:Int):=by omega
 by_cases h5:Lz<50;{
 have h5':(Lz:Int)<50:=by omega
 have hq:=aa hQ;rw [pi_short (aa EI') hib (by rw [aa eL0];exact h5),Prod.mk.injEq] at hq;obtain ⟨RR,RO⟩:=hq;subst RR RO;go_wp2;go_ret;exact ⟨rfl,tL,ar Ph⟩};{
 have h5':¬ (Lz:Int)<50:=by omega
 obtain ⟨d2,e2⟩:=aH (swp dk i1 (i1-1));obtain ⟨d3,e3⟩:∃ x,(if i1-a>=2 then shiftDown ltInt (i1-1) d2 else d2)=x:=⟨_,rfl⟩;obtain ⟨d4,e4⟩:∃ x,(if b-i1>=2 then shiftUp ltInt b (i1+1) d3 else d3)=x:=⟨_,rfl⟩;have hq:=aa hQ;rw [pi_go (aa EI') hib (by rw [aa eL0];exact h5) e2 e3 e4] at hq;have HQ:=ae hq;rw [aa Ud] at e2 e3;have HD2:Hid (d2.size=N):=by show _=_;rw [<-e2,size_swp];exact qO
 have xV:Hid (d3.size=N):=by show _=_;rw [<-e3];split;{rw [GQ];exact aa HD2};{exact HD2}
 have Py:Hid (d4.size=N):=by show _=_;rw [<-e4];split;{rw [PT b _ _ _ aA];exact aa xV};{exact xV}
 obtain ⟨c1,f1⟩:=aa tL i1 (by omega);obtain ⟨c2,f2⟩:=aa tL m (by omega);obtain ⟨p1,xB⟩:=aH dk[i1]!;obtain ⟨p2,xA⟩:=aH dk[m]!;rw [xB] at c1;rw [xA] at c2;have oV:=ae (tL.swap (i:=i1) (j:=m) (by omega) (by omega) xA.symm xB.symm);rw [e2] at oV;have EA:=ae (aQ (aQ Ph (aE _ aI (off+i1) (.U p2))) (aE _ aI (off+m) (.U p1)));have l1:=aT i1 N;have l2:=aT m N;have l3:=dE 0 m;have E3:=ae e3;have E4:=ae e4;obtain ⟨A1,eA⟩:∃ x:Nat,(i1:Int)-(a:Int)=(x:Int):=⟨i1-a,by omega⟩;have eA0:=ae (show i1-a=A1 by omega);have wA:=fH A1;obtain ⟨B1,eB1⟩:∃ x:Nat,(b:Int)-(i1:Int)=(x:Int):=⟨b-i1,by omega⟩;have YD:=ae (show b-i1=B1 by omega);have wB:=fH B1;go_wp2_with fail
 go_region
 go_upto_if 61 with fail
 go_cut [9] (fun s9 wc=>Hid (HU wc aI off d3)/\Hid (w.grownBy wc (some aI)))
 case first =>(
 by_cases hC:A1>=2;{
 have hC':(A1:Int)>=2:=by omega
 have WD:=dE 2 A1
 try simp only [WD,decide_true]
 have E3':Hid (shiftDown ltInt m d2=d3):=by have:=aa E3;rw [aa eA0,if_pos hC] at this;exact this
 go_wp2_with fail;obtain ⟨Y2,Nt⟩:=ax wr;subst Nt
 go_loopw [9] (fun s9 wr=>∃ (j:Nat) (dj:Array Int),s9=.I j/\j<=m/\Hid (dj.size=N)/\Hid (HU wr aI off dj)/\Hid (shiftDown ltInt j dj=d3)/\Hid (w.grownBy wr (some aI))) (fun s9 _=>(intOf s9).toNat)
 case atStart=>exact ⟨m,d2,by first | rfl | go_num,by omega,HD2,by exact oV,E3',by exact ar (ar EA)⟩
 case round =>(
 obtain ⟨j,dj,rfl,q1,Rk,yi,FO,hg⟩:=hrel;by_cases hgo:0<j;{
 have Mx:=dE 1 j;obtain ⟨jm,ejm⟩:∃ x:Nat,(j:Int)-1=(x:Int):=⟨j-1,by omega⟩;have Gg:j-1=jm:=by omega
 have wjm:=fH jm;have DM:=aa Rk;obtain ⟨cj,fj⟩:=aa yi j (by omega);obtain ⟨cm,fm⟩:=aa yi jm (by omega);obtain ⟨y,ey⟩:=aH dj[j]!;obtain ⟨z,ez⟩:=aH dj[jm]!;have Hh:=ae (yi.swap (i:=j) (j:=jm) (by omega) (by omega) ez.symm ey.symm);rw [ey] at cj;rw [ez] at cm;have i1':=aT j N;have i2':=aT jm N;have i3':=dE 0 jm;have i4':=dE 0 j;obtain ⟨B,eB⟩:=aH (ltInt y z);have EB:=ae eB;have oW:Hid (B=false->dj=d3):=fun hB=>by rw [<-aa FO,GP (.inr (by rw [Gg,ey,ez,eB,hB]))]
 have Oz:Hid (B=true->shiftDown ltInt jm (swp dj j jm)=d3):=fun hB=>by rw [<-aa FO,Zc hgo (by rw [Gg,ey,ez,eB,hB]),Gg]
 have vQ:Hid ((swp dj j jm).size=N):=by show _=_;rw [size_swp];exact DM
 have HGs:=ae (aQ (aQ hg (aE _ aI (off+j) (.U z))) (aE _ aI (off+jm) (.U y)));have K0:=ae (ag cj cm);have FF:=ae (ag fj fm);go_wp2_with fail
 go_cut [78] (fun rv wc=>rv=.bool (!B)/\wc=wr.drew)
 case first =>(
 refine bO (fun w'=>w'.cell? ⟨aI,off+j,none⟩=some (.U y)/\w'.cell? ⟨aI,off+jm,none⟩=some (.U z)) (by exact K0) fun hS=>?_;refine gy 0 1 2 3 4 5 6 7 hS ?_;refine tn 8 hS ?_;refine ry [9] ?_;refine cn (fun KK hK=>?_) ?_;{refine cL (by rfl) 191 _ _ _ (by rfl) (.U y) (.U z) (by rfl) (by rfl) (fun _=>dZ _ _) (dY y z _) ?_;rintro r w2 ⟨rfl,rfl⟩;refine ⟨_,rfl,?_⟩;rw [aa EB];refine cg hK (by exact K0) fun hS=>?_;refine tn 10 hS ?_;refine bu ?_;go_wp2_with fail;go_meet;exact ⟨rfl,rfl⟩};exact AllReadyH.nil)
 obtain ⟨rfl,rfl⟩:=hcut;cases B with
 | false=>
  have e:=aa oW rfl;subst e;go_wp2_with fail;go_meet;exact ⟨yi,ar hg⟩
 | true=>
  have e:=ae (aa Oz rfl);obtain ⟨cj,cm⟩:=aa K0;obtain ⟨fj,fm⟩:=aa FF;go_wp2_with fail
  go_region
  go_wp2;go_roundw
  case rel =>(
 exact ⟨jm,swp dj j jm,by first | rfl | go_num,by omega,vQ,(aa Hh),e,ar (ar HGs)⟩)
  case measure=>simp [intOf];omega}
 {
 have Mx:¬ (1:Int)<=(j:Int):=by omega
 have e:dj=d3:=by rw [<-aa FO,GP (.inl (by omega))]
 subst e;go_wp2_with fail;go_meet;exact ⟨yi,hg⟩})}
 {
 have hC':¬ (A1:Int)>=2:=by omega
 have WD:¬ (2:Int)<=(A1:Int):=by omega
 try simp only [WD,decide_false]
 have e:d2=d3:=by have:=aa E3;rw [aa eA0,if_neg hC] at this;exact this
 subst e;go_wp2_with fail;go_meet;exact ⟨by exact oV,by exact ar (ar EA)⟩})
 obtain ⟨Bp,Ru⟩:=hcut;obtain ⟨Y3,eY3⟩:=ax wc;subst eY3
 go_upto_if 98 with fail
 by_cases hC:B1>=2;{
 have hC':(B1:Int)>=2:=by omega
 have WD:=dE 2 B1
 try simp only [WD,decide_true]
 have E3':Hid (shiftUp ltInt b (i1+1) d3=d4):=by have:=aa E4;rw [aa YD,if_pos hC] at this;exact this
 go_wp2_with fail;obtain ⟨Y2,Nt⟩:=ax wr;subst Nt
 go_loopw [10] (fun AG wr=>∃ (j:Nat) (dj:Array Int),AG=.I j/\i1+1<=j/\j<=b/\Hid (dj.size=N)/\Hid (HU wr aI off dj)/\Hid (shiftUp ltInt b j dj=d4)/\Hid (w.grownBy wr (some aI))) (fun AG _=>b-(intOf AG).toNat)
 case atStart=>exact ⟨i1+1,d3,by first | rfl | go_num,by omega,by omega,xV,by exact Bp,E3',by exact Ru⟩
 case round =>(
 obtain ⟨j,dj,rfl,q1,q2,Rk,yi,FO,hg⟩:=hrel;by_cases hgo:j<b;{
 have Mx:=aT j b;obtain ⟨jm,ejm⟩:∃ x:Nat,(j:Int)-1=(x:Int):=⟨j-1,by omega⟩;have Gg:j-1=jm:=by omega
 have wjm:=fH jm;have DM:=aa Rk;obtain ⟨cj,fj⟩:=aa yi j (by omega);obtain ⟨cm,fm⟩:=aa yi jm (by omega);obtain ⟨y,ey⟩:=aH dj[j]!;obtain ⟨z,ez⟩:=aH dj[jm]!;have Hh:=ae (yi.swap (i:=j) (j:=jm) (by omega) (by omega) ez.symm ey.symm);rw [ey] at cj;rw [ez] at cm;have i1':=aT j N;have i2':=aT jm N;have i3':=dE 0 jm;have i4':=dE 0 j;obtain ⟨B,eB⟩:=aH (ltInt y z);have EB:=ae eB;have oW:Hid (B=false->dj=d4):=fun hB=>by rw [<-aa FO,GM (.inr (by rw [Gg,ey,ez,eB,hB]))]
 have Oz:Hid (B=true->shiftUp ltInt b (j+1) (swp dj j jm)=d4):=fun hB=>by rw [<-aa FO,ah5 hgo (by rw [Gg,ey,ez,eB,hB]),Gg]
 have vQ:Hid ((swp dj j jm).size=N):=by show _=_;rw [size_swp];exact DM
 have HGs:=ae (aQ (aQ hg (aE _ aI (off+j) (.U z))) (aE _ aI (off+jm) (.U y)));have K0:=ae (ag cj cm);have FF:=ae (ag fj fm);go_wp2_with fail
 go_cut [116] (fun rv wc=>rv=.bool (!B)/\wc=wr.drew)
 case first =>(
 refine bO (fun w'=>w'.cell? ⟨aI,off+j,none⟩=some (.U y)/\w'.cell? ⟨aI,off+jm,none⟩=some (.U z)) (by exact K0) fun hS=>?_;refine gy 0 1 2 3 4 5 6 7 hS ?_;refine tn 8 hS ?_;refine ry [9] ?_;refine cn (fun KK hK=>?_) ?_;{refine cL (by rfl) 191 _ _ _ (by rfl) (.U y) (.U z) (by rfl) (by rfl) (fun _=>dZ _ _) (dY y z _) ?_;rintro r w2 ⟨rfl,rfl⟩;refine ⟨_,rfl,?_⟩;rw [aa EB];refine cg hK (by exact K0) fun hS=>?_;refine tn 10 hS ?_;refine bu ?_;go_wp2_with fail;go_meet;exact ⟨rfl,rfl⟩};exact AllReadyH.nil)
 obtain ⟨rfl,rfl⟩:=hcut;cases B with
 | false=>
  have e:=aa oW rfl;subst e;go_wp2;go_roundw
  case rel =>(
 exact ⟨i1,t,jz+1,_,rfl,by first | rfl | go_num,by omega,by omega,by omega,by omega,Py,yi,HQ,ar hg⟩)
  case measure=>simp [intOf];omega
 | true=>
  have e:=ae (aa Oz rfl);obtain ⟨cj,cm⟩:=aa K0;obtain ⟨fj,fm⟩:=aa FF;go_wp2_with fail
  go_region
  go_wp2;go_roundw
  case rel =>(
 exact ⟨j+1,swp dj j jm,by first | rfl | go_num,by omega,by omega,vQ,(aa Hh),e,ar (ar HGs)⟩)
  case measure=>simp [intOf];omega}
 {
 have Mx:=dy j b;have e:dj=d4:=by rw [<-aa FO,GM (.inl hgo)]
 subst e;go_wp2;go_roundw
 case rel =>(
 exact ⟨i1,t,jz+1,_,rfl,by first | rfl | go_num,by omega,by omega,by omega,by omega,Py,yi,HQ,hg⟩)
 case measure=>simp [intOf];omega})}
 {
 have hC':¬ (B1:Int)>=2:=by omega
 have WD:¬ (2:Int)<=(B1:Int):=by omega
 try simp only [WD,decide_false]
 have e:d3=d4:=by have:=aa E4;rw [aa YD,if_neg hC] at this;exact this
 subst e;go_wp2;go_roundw
 case rel =>(
 exact ⟨i1,t,jz+1,_,rfl,by first | rfl | go_num,by omega,by omega,by omega,by omega,Py,by exact Bp,HQ,by exact Ru⟩)
 case measure=>simp [intOf];omega}}}))
end Q
namespace Q
open Go.Maps
theorem gR:Keyed prog 23:=int_keyed underlying23
abbrev dQ (x:Int):Value:=.U x
def lM {H:Type} (D0:DataW H) (left:Lit->Bool) (ss:List Int):Prop:=ss.Nodup/\∀ x,x∈ss↔(has D0 (.U x)=true/\left (.U x)=false)
theorem lM.start {H:Type} (D0:DataW H):lM D0 (has D0) []:=⟨List.nodup_nil,fun x=>by cases has D0 (.U x)<;>simp⟩
theorem lM.step {H:Type} {D0:DataW H} {ss:List Int} (h:lM D0 left ss) {x:Int} {y:DataW H} (hlk:left (.U x)=true) (gS:∀ zd,D0.atKey (.U x) zd=y):lM D0 (fun z=>left z&&!z.sameKey (.U x)) (ss++[x]):=by
 have FM:has D0 (.U x)=true:=has_true_of_atKey gS;have oH:x∉ss:=fun hx=>by have:=((h.2 x).1 hx).2;rw [hlk] at this;cases this
 refine ⟨List.nodup_append.2 ⟨h.1,by simp,fun a ha b hb=>by simp at hb;subst hb;exact fun e=>oH (e▸ha)⟩,fun y=>?_⟩;by_cases hy:y=x;{subst hy;simp [FM,Lit.sameKey]};{simp [h.2 y,hy,Lit.sameKey]}
def jb {H:Type} (D0:DataW H) (ss:List Int):Prop:=ss.Nodup/\(∀ x,x∈ss↔has D0 (.U x)=true)/\ss.length<=Maps.size D0
theorem lM.all {H:Type} {D0:DataW H} {ss:List Int} (h:lM D0 left ss) (hl:∀ kl,left kl=false) (hs:ss.length<=Maps.size D0):jb D0 ss:=⟨h.1,(fun x=>by rw [h.2 x,hl];simp),hs⟩
theorem AY {H:Type} (n:Nat) (hn:1<=n) (l Bm b nn:Nat) (D0:DataW H) {R:Value->Option (DataW H × List MemPlace)} (J Jx:List Int->World->Prop)
  (hY:∀ pre x W,J pre W->pre.length<Maps.size D0->YieldAt Fence.wide (n-1) prog l #[dQ x] W fun e W'=>(e=.returned (.bool true)/\J (pre++[x]) W'/\KeepsWalks W W')\/(e=.returned (.bool false)/\Jx (pre++[x]) W'))
  (W:World) (hJ:AbidesFrom W.heap.size J) (hm:W.cell? ⟨Bm,0,none⟩=some (.map (some b))) (br:W.ownsMap prog 23 R b nn D0) (h0:J [] W) :
  CallsIn Fence.wide n prog 169 #[.func (.yield l) #[] #[],.pointer (some ⟨Bm,0,none⟩)] W fun e W'=>(∃ v,e=.returned v)/\((∃ ss:List Int,jb D0 ss/\J ss W')\/(∃ pre,Jx pre W')):=by
 refine callsIn_of_wp func169 rfl trivial ?_ rfl;simp only [ntmps169,List.size_toArray,List.length_cons,List.length_nil,Nat.reduceAdd,Nat.reduceSub,Array.replicate_succ,Array.replicate_zero,List.push_toArray,List.append_toArray,List.nil_append,List.cons_append]
 gi_wp2_with (first
  | (gi_at_range;refine wpListIn_range_own _ rfl _ 129 rfl 23 _ gR underlying129 _ b nn _ rfl br ?_;intro w0 pI uX Hj)
  | gi_in)
 go_frame
 gi_loopw [3] (fun _ wr=>∃ (left:Lit->Bool) (mV:Nat) (ss:List Int),wr.ranges prog 23 R b W.heap.size nn D0 left mV/\ss.length+mV<=Maps.size D0/\lM D0 left ss/\J ss wr)
  (fun _ wr=>wr.rangeLeft b W.heap.size)
 case atStart=>exact ⟨_,_,[],pI,by simp,lM.start D0,hJ [] W w0 none h0 uX (fun r e=>by cases e)⟩
 case round =>(
 obtain ⟨left,mV,ss,nM,Ce,hC,TJ⟩:=hrel
 gi_wp2_with (first
  | (gi_at_next;refine wpListIn_next_ranges _ rfl _ rfl 23 gR R dQ id (fun key kl hk=>by obtain ⟨x,hx,_⟩:=Maps.keyOf_int_inv underlying23 hk;exact ⟨x,hx⟩) (fun v _ _=>⟨v,rfl⟩) b W.heap.size nn _ _ _ rfl nM ?_ ?_)
  | gi_in)
 {
 intro Yh tJ
 gi_wp2
 go_end0
 exact ⟨⟨_,rfl⟩,.inl ⟨ss,hC.all tJ (by omega),TJ⟩⟩};{
 intro x c kl yd yp w2 NN df hlk hv gS xm bj fU DC Bk;obtain ⟨x',ex,rfl,_⟩:=Maps.keyOf_int_inv underlying23 df;obtain rfl:x=x':=by simpa [dQ] using ex
 have TK:J ss w2:=hJ ss wr w2 (some W.heap.size) TJ fU (fun r e=>by cases e;exact ⟨Nat.le_refl _,nM.iter_walk⟩);obtain ⟨fn,tmps,assign,body,hy,hR⟩:=hY ss x w2 TK (by omega);clear DC
 gi_wp2
 refine hR.mono ?_;rintro e W3 (⟨rfl,hJ3,VV⟩ | ⟨rfl,MU⟩);{
 gi_wp2
 have si:=xm.of_walks VV;go_roundw
 case rel=>exact ⟨_,NN,ss++[x],si,by simp;omega,hC.step hlk gS,hJ3⟩
 case measure=>rw [si.left_eq,nM.left_eq];exact bj}
 {
 gi_wp2
 refine bodyPost_ret (results_none rfl _ _ _) rfl ?_;exact ⟨⟨_,rfl⟩,.inr ⟨_,MU⟩⟩}})
theorem Fv (n:Nat) (mb:Option Nat) (w:World) :
  CallsIn Fence.wide n prog 144 #[.map mb] w fun e w'=>e=.returned (.func (.func 169) #[] #[.pointer (some ⟨w.heap.size,0,none⟩)])/\w'=w.alloc (.cells #[.map mb] 129):=by
 refine callsIn_of_wp func144 rfl trivial ?_ rfl;simp only [ntmps144,List.size_toArray,List.length_cons,List.length_nil,Nat.reduceAdd,Nat.reduceSub,Array.replicate_succ,Array.replicate_zero,List.push_toArray,List.append_toArray,List.nil_append,List.cons_append]
 gi_wp2
 go_ret;exact ⟨rfl,rfl⟩
theorem Aw {H:Type} (n:Nat) (hn:1<=n) (Bm b nn:Nat) (D0:DataW H) {R:Value->Option (DataW H × List MemPlace)} (w:World) (hBm:Bm<w.heap.size)
  (hm:w.cell? ⟨Bm,0,none⟩=some (.map (some b))) (br:w.ownsMap prog 23 R b nn D0) :
  SeqStopsK Fence.wide n prog 169 #[.pointer (some ⟨Bm,0,none⟩)] (fun x:Int=>#[dQ x]) KeepsWalks (jb D0) (fun _=>True) (Maps.size D0) w:=fun l J Jx W hW hJ _ hY h0=>by
 have mj:W.ownsMap prog 23 R b nn D0:=by have Cf:=br.lt;obtain ⟨es,clock,hb,Ft,hs,hD⟩:=br;exact ⟨es,clock,(hW.block b Cf).trans hb,Ft,hs,hD⟩
 refine (AY n hn l Bm b nn D0 J Jx hY W hJ ((hW.cell (p:=⟨Bm,0,none⟩) hBm).trans hm) mj h0).mono ?_;rintro e W' ⟨he,⟨ss,hs,hj⟩ | ⟨pre,hj⟩⟩;{exact ⟨he,.inl ⟨ss,hs,hj⟩⟩};{exact ⟨he,.inr ⟨pre,trivial,hj⟩⟩}
theorem QJ {H:Type} (n:Nat) (hn:1<=n) (l Bm b nn:Nat) (D0:DataW H) {R:Value->Option (DataW H × List MemPlace)} (J Jx:List Int->World->Prop)
  (hY:∀ pre x W,J pre W->pre.length<Maps.size D0->YieldAt Fence.wide (n-1) prog l #[dQ x] W fun e W'=>(e=.returned (.bool true)/\J (pre++[x]) W'/\KeepsWalks W W')\/(e=.returned (.bool false)/\Jx (pre++[x]) W'))
  (W:World) (hJ:AbidesFrom W.heap.size J) (hm:W.cell? ⟨Bm,0,none⟩=some (.map (some b))) (br:W.ownsMap prog 23 R b nn D0) (h0:J [] W) :
  CallsIn Fence.wide n prog 183 #[.func (.yield l) #[] #[],.pointer (some ⟨Bm,0,none⟩)] W fun e W'=>(∃ v,e=.returned v)/\((∃ ss:List Int,jb D0 ss/\J ss W')\/(∃ pre,Jx pre W')):=by
 refine callsIn_of_wp func183 rfl trivial ?_ rfl;simp only [ntmps183,List.size_toArray,List.length_cons,List.length_nil,Nat.reduceAdd,Nat.reduceSub,Array.replicate_succ,Array.replicate_zero,List.push_toArray,List.append_toArray,List.nil_append,List.cons_append]
 gi_wp2_with (first
  | (gi_at_range;refine wpListIn_range_own _ rfl _ 83 rfl 23 _ gR underlying83 _ b nn _ rfl br ?_;intro w0 pI uX Hj)
  | gi_in)
 go_frame
 gi_loopw [3] (fun _ wr=>∃ (left:Lit->Bool) (mV:Nat) (ss:List Int),wr.ranges prog 23 R b W.heap.size nn D0 left mV/\ss.length+mV<=Maps.size D0/\lM D0 left ss/\J ss wr)
  (fun _ wr=>wr.rangeLeft b W.heap.size)
 case atStart=>exact ⟨_,_,[],pI,by simp,lM.start D0,hJ [] W w0 none h0 uX (fun r e=>by cases e)⟩
 case round =>(
 obtain ⟨left,mV,ss,nM,Ce,hC,TJ⟩:=hrel
 gi_wp2_with (first
  | (gi_at_next;refine wpListIn_next_ranges _ rfl _ rfl 23 gR R dQ id (fun key kl hk=>by obtain ⟨x,hx,_⟩:=Maps.keyOf_int_inv underlying23 hk;exact ⟨x,hx⟩) (fun v _ _=>⟨v,rfl⟩) b W.heap.size nn _ _ _ rfl nM ?_ ?_)
  | gi_in)
 {
 intro Yh tJ
 gi_wp2
 go_end0
 exact ⟨⟨_,rfl⟩,.inl ⟨ss,hC.all tJ (by omega),TJ⟩⟩};{
 intro x c kl yd yp w2 NN df hlk hv gS xm bj fU DC Bk;obtain ⟨x',ex,rfl,_⟩:=Maps.keyOf_int_inv underlying23 df;obtain rfl:x=x':=by simpa [dQ] using ex
 have TK:J ss w2:=hJ ss wr w2 (some W.heap.size) TJ fU (fun r e=>by cases e;exact ⟨Nat.le_refl _,nM.iter_walk⟩);obtain ⟨fn,tmps,assign,body,hy,hR⟩:=hY ss x w2 TK (by omega);clear DC
 gi_wp2
 refine hR.mono ?_;rintro e W3 (⟨rfl,hJ3,VV⟩ | ⟨rfl,MU⟩);{
 gi_wp2
 have si:=xm.of_walks VV;go_roundw
 case rel=>exact ⟨_,NN,ss++[x],si,by simp;omega,hC.step hlk gS,hJ3⟩
 case measure=>rw [si.left_eq,nM.left_eq];exact bj}
 {
 gi_wp2
 refine bodyPost_ret (results_none rfl _ _ _) rfl ?_;exact ⟨⟨_,rfl⟩,.inr ⟨_,MU⟩⟩}})
theorem Vr (n:Nat) (mb:Option Nat) (w:World) :
  CallsIn Fence.wide n prog 173 #[.map mb] w fun e w'=>e=.returned (.func (.func 183) #[] #[.pointer (some ⟨w.heap.size,0,none⟩)])/\w'=w.alloc (.cells #[.map mb] 83):=by
 refine callsIn_of_wp func173 rfl trivial ?_ rfl;simp only [ntmps173,List.size_toArray,List.length_cons,List.length_nil,Nat.reduceAdd,Nat.reduceSub,Array.replicate_succ,Array.replicate_zero,List.push_toArray,List.append_toArray,List.nil_append,List.cons_append]
 gi_wp2
 go_ret;exact ⟨rfl,rfl⟩
theorem PX {H:Type} (n:Nat) (hn:1<=n) (Bm b nn:Nat) (D0:DataW H) {R:Value->Option (DataW H × List MemPlace)} (w:World) (hBm:Bm<w.heap.size)
  (hm:w.cell? ⟨Bm,0,none⟩=some (.map (some b))) (br:w.ownsMap prog 23 R b nn D0) :
  SeqStopsK Fence.wide n prog 183 #[.pointer (some ⟨Bm,0,none⟩)] (fun x:Int=>#[dQ x]) KeepsWalks (jb D0) (fun _=>True) (Maps.size D0) w:=fun l J Jx W hW hJ _ hY h0=>by
 have mj:W.ownsMap prog 23 R b nn D0:=by have Cf:=br.lt;obtain ⟨es,clock,hb,Ft,hs,hD⟩:=br;exact ⟨es,clock,(hW.block b Cf).trans hb,Ft,hs,hD⟩
 refine (QJ n hn l Bm b nn D0 J Jx hY W hJ ((hW.cell (p:=⟨Bm,0,none⟩) hBm).trans hm) mj h0).mono ?_;rintro e W' ⟨he,⟨ss,hs,hj⟩ | ⟨pre,hj⟩⟩;{exact ⟨he,.inl ⟨ss,hs,hj⟩⟩};{exact ⟨he,.inr ⟨pre,trivial,hj⟩⟩}
end Q
namespace Q
open Go.Maps
theorem Hid.qK (h:p):Hid p:=h
theorem od (h:Hid p):p:=h
theorem iW (W:World) (l:Nat) (o:Obj):W.grownBy (W.putObj l o) (some l):=⟨rfl,rfl,rfl,by simp,fun k _ hk=>World.putObj_heap_other (fun e=>hk (by rw [e]))⟩
theorem oL (W:World) (b:Nat) (v:Value):W.grownBy (W.setCell ⟨b,0,none⟩ v) (some b):=⟨rfl,rfl,rfl,by simp,fun k _ hk=>Below.heap_setCell _ _ _ k (fun e=>hk (by rw [e]))⟩
theorem ma {size:Nat} (h:W.ownsRow base e size v k xs) (hj:W.heap[j]?=some o) (ho:o.isCells=false):v.ownBlock=none\/v.ownBlock≠some j:=by
  rcases h.2 with ⟨rfl,_⟩ | ⟨g,cap,cur,rfl,_,Rh,_⟩;{exact .inl rfl};{
 refine .inr fun e'=>?_;have:g=j:=by simpa [Value.ownBlock] using e'
 subst this;rw [Rh] at hj;cases hj;cases ho}
theorem rF {row:Option Nat} {size:Nat} (h:W.ownsRow base e size v k xs) (hg:W.grownBy W' row)
    (hr:∀ r,row=some r->∃ o:Obj,W.heap[r]?=some o/\o.isCells=false):W'.ownsRow base e size v k xs:=by
  refine h.kept hg ?_;cases hv:v.ownBlock with
  | none=>exact .inl rfl
  | some j=>
    refine .inr fun e'=>?_;obtain ⟨o,ho,hc⟩:=hr j e'.symm;rcases ma h ho hc with e1 | e1;{rw [hv] at e1;cases e1};{exact e1 hv}
theorem qF {size:Nat} (h:W.ownsRow base e size v k xs) (hg:W.grownBy W' v.ownBlock):KeepsOthers W W':=
  ⟨hg.size,fun j o hj ho=>(hg.block j (Array.getElem?_eq_some_iff.1 hj).1 (fun e1=>by rcases ma h hj ho with e2 | e2;{rw [e2] at e1;cases e1};{exact e2 e1.symm})).trans hj⟩
structure Got (w0:World) (Bs:Nat) (pre:List Int) (v:Value) (W:World):Prop where
  cell:W.cell? ⟨Bs,0,none⟩=some v
  fr:W.frozen? ⟨Bs,0,none⟩=false
  row:W.ownsRow (Bs+1) 23 1 v pre.length (pre.map dQ)
  nil:v=.S none 0 0↔pre=[]
theorem mX (n:Nat) (hn:2<=n) (g:Nat) (lb:Array Value) (eg:∀ args w,(callFunc g args).run prog w=.ok (.enter g args) w)
    (S Sp:List Int->Prop) (N:Nat) (hN:N<=1048576) (w:World) (oF:SeqStopsK Fence.wide (n-1) prog g lb (fun x:Int=>#[dQ x]) KeepsWalks S Sp N w) :
    CallsIn Fence.wide n prog 178 #[.S none 0 0,.func (.func g) #[] lb] w fun e w'=>∃ (v:Value) (ss:List Int),e=.returned v/\S ss/\w'.ownsRow (w.heap.size+1) 23 1 v ss.length (ss.map dQ)/\(v=.S none 0 0↔ss=[])/\Bw w w':=by
  have h1:1<=n:=by omega
  obtain ⟨i0,hi,mw,iT,jW⟩:=info_parts (P:=prog) (e:=23) (z:=.U 0) (size:=1) (bytes:=8) (by kernel_rfl);refine callsIn_of_wp_marks func178 rfl trivial ?_ rfl;simp only [ntmps178,List.size_toArray,List.length_cons,List.length_nil,Nat.reduceAdd,Nat.reduceSub,Array.replicate_succ,Array.replicate_zero,List.push_toArray,List.append_toArray,List.nil_append,List.cons_append]
  gi_wp2
  obtain ⟨W0,dh⟩:=ax (w.alloc (.cells #[.S none 0 0] 36));have z0:W0.heap.size=w.heap.size+1:=by rw [dh];simp
  have k0:W0.cell? ⟨w.heap.size,0,none⟩=some (.S none 0 0):=by rw [dh];simp
  have f0:W0.frozen? ⟨w.heap.size,0,none⟩=false:=by rw [dh];simp
  have RE:=ju dh;rw [<-dh];clear dh;refine wpIn_rangeFunc_ownF (F:=Fence.wide) rfl h1 (gf:=g) (lb:=lb) rfl trivial eg oF (fun h k=>h.trans k) (fun W l o o' _ hl _ hw=>KeepsWalks.putObj _ hl hw) RE (fun _=>rfl)
    (fun pre W=>(∃ v,Got w w.heap.size pre v W)/\Bw w W)
    (fun _ _ _=>False)
    (OwnFrom.and (Own.from (fun s A B row hs hg hr=>by obtain ⟨v,hv⟩:=hs;exact ⟨v,cell_kept hv.cell hg hr,(frozen_kept hv.cell hg hr).trans hv.fr,rF hv.row hg hr,hv.nil⟩) _) (ownFrom_below aA (by omega)))
    (fun _ _ _ _ _ hs _ _=>hs)
    ⟨⟨_,k0,f0,⟨rfl,.inl ⟨rfl,rfl⟩⟩,by simp⟩,RE⟩
    (fun x=>{ tmps:=#[.S none 0 0,.func (.func g) #[] lb,.pointer (some ⟨w.heap.size,0,none⟩),undef,.S none 0 0,dQ x,.func (.func g) #[] lb,dQ x,undef,undef,undef,undef,undef],defers:=[] }) ?assign ?body ?done ?stop
  case assign =>(
 intro l x W K hK
 gi_wp2_with (rw [Oper.semAt_eq _ _ _ (fun c h=>by cases h)];go_simp;try go_bits)
 exact hK)
  case body =>(
 rintro L pre x W ⟨⟨v,hv⟩,js⟩ jR;have hc:=hv.cell;have hf:=hv.fr;have dW:=hv.row;have bj:w.heap.size<W.heap.size:=World.block_lt_of_cell? W _ hc;have DE:=dW.alloc (.cells #[dQ x] 23)
 gi_wp2_with (first
   | (gi_at_builtin;refine wpListIn_append_own _ rfl _ _ 36 rfl (w.heap.size+1) 23 i0 (.int .u64 0) 1 8 underlying36 hi mw iT jW rfl (by decide) _ _ _ rfl DE ⟨W.heap.size,0,none⟩ 1 1 [dQ x] rfl rfl (cell_one_new _ _ _) (by simp [Value.oneCell',dQ]) (by unfold maxLen;omega) (by omega) (by simp;omega) ?_;intro v' w3 mj uA Mh
      have Bh:(W.alloc (.cells #[dQ x] 23)).grownBy w3 v.ownBlock:=uA;have VM:some w.heap.size≠v.ownBlock:=fun e=>by have:=(dW.lt _ e.symm).1;omega
      have Rm:(W.alloc (.cells #[dQ x] 23)).cell? ⟨w.heap.size,0,none⟩=some v:=(World.cell?_of_block (a:=⟨w.heap.size,0,none⟩) (Below.heap_alloc _ _ _ bj)).trans hc;have Ri:(W.alloc (.cells #[dQ x] 23)).frozen? ⟨w.heap.size,0,none⟩=false:=(World.frozen?_of_block (a:=⟨w.heap.size,0,none⟩) (Below.heap_alloc _ _ _ bj)).trans hf;have dA:w3.heap[w.heap.size]?=(W.alloc (.cells #[dQ x] 23)).heap[w.heap.size]?:=Bh.block _ (by simp;omega) VM;have Rn:w3.cell? ⟨w.heap.size,0,none⟩=some v:=(World.cell?_of_block (a:=⟨w.heap.size,0,none⟩) dA).trans Rm;have uZ:w3.frozen? ⟨w.heap.size,0,none⟩=false:=(World.frozen?_of_block (a:=⟨w.heap.size,0,none⟩) dA).trans Ri;obtain ⟨g',xO,rfl⟩:∃ g' xO,v'=.S (some ⟨g',0,none⟩) (pre.length+1) xO:=by rcases mj.2 with ⟨_,h0⟩ | ⟨g',xO,_,h',_⟩;{exact absurd h0 (by omega)};{exact ⟨g',xO,h'⟩}
      have HO3:=Hid.qK ((KeepsOthers.alloc W (.cells #[dQ x] 23)).trans (qF DE Bh));have ra:=Hid.qK (((js.alloc js.size (.cells #[dQ x] 23)).grown Bh (by have:=js.size;simp;omega) (fun k e=>by have:=(dW.lt k e).1;omega)));have Pt:=Hid.qK mj;clear mj Mh uA Bh Rm Ri dA
      go_frame)
   | (rw [Oper.semAt_eq _ _ _ (fun c h=>by cases h)];go_simp;try go_bits))
 refine ⟨(od HO3).trans (KeepsOthers.setCell _ _ _),((od HO3).trans (KeepsOthers.setCell _ _ _)).walks,⟨_,World.cell?_setCell_same _ _ _ Rn,by rw [World.frozen?_setCell];exact uZ,?_,by simp⟩,(od ra).setCell (p:=⟨w.heap.size,0,none⟩) aA _⟩;have hr:=(od Pt).kept (oL w3 w.heap.size (.S (some ⟨g',0,none⟩) (pre.length+1) xO)) (.inr (fun e=>by have:=((od Pt).lt _ e).1;omega));simpa using hr)
  case done =>(
 rintro D ys W hD hS ⟨⟨v,hv⟩,js⟩ hK;have hc:=hv.cell
 gi_wp2
 refine ⟨by simp,.inl ⟨_,_,rfl,run_takeDeferred hK,?_⟩⟩;exact ⟨_,results_tmp rfl _ _ _,v,ys,rfl,hS,rF hv.row (iW _ _ _) (fun r e=>by cases e;exact ⟨_,hK,rfl⟩),hv.nil,js.grown (iW _ _ _) js.size (fun k e=>by cases e;omega)⟩)
  case stop =>(
 rintro D c pre W _ _ h _;exact h.elim)
end Q
namespace T
open Go.Sort
abbrev HT (w:World) (aI off:Nat) (d:Array (List UInt8)):Prop:=Holds (fun x:List UInt8=>Value.string ⟨x.toArray⟩) w aI off d
theorem wh (cap:Nat) (w:World):Calls prog 171 #[.S none 0 cap] w fun e w'=>e=.returned (.tuple #[])/\w'=w:=Tryz.slices_Sort_string_none none cap w
theorem tm (aI off cap:Nat) (l:List (List UInt8)) (il:l.length<=1048576) (w:World) (h:HT w aI off l.toArray) (jd:aI<w.heap.size) :
  Calls prog 171 #[.S (some ⟨aI,off,none⟩) l.length cap] w fun e w'=>
   e=.returned (.tuple #[])/\HT w' aI off (l.mergeSort (fun x y=>decide (x<=y))).toArray/\w.grownBy w' (some aI):=by
 refine (Tryz.slices_Sort_string aI off cap l w h jd (by omega)).mono ?_;rintro e w' ⟨rfl,n,os,rfl⟩;have hz:(putRow encStr (Sort.ahead w n) aI off (l.mergeSort fun x y=>decide (x<=y)).toArray).heap.size=w.heap.size:=by simp [putRow,mapBlock,Sort.ahead]
 have hb:∀ i,i<w.heap.size->(grow (putRow encStr (Sort.ahead w n) aI off (l.mergeSort fun x y=>decide (x<=y)).toArray) os).heap[i]?=(putRow encStr (Sort.ahead w n) aI off (l.mergeSort fun x y=>decide (x<=y)).toArray).heap[i]?:=fun i hi=>Array.getElem?_append_left (by rw [hz];exact hi);have hH:=holds_putRow encStr (Sort.ahead w n) aI off l.toArray (l.mergeSort fun x y=>decide (x<=y)).toArray h (by simp);refine ⟨rfl,fun j hj=>⟨(World.cell?_of_block (a:=⟨aI,off+j,none⟩) (hb aI jd)).trans (hH j hj).1,(World.frozen?_of_block (a:=⟨aI,off+j,none⟩) (hb aI jd)).trans (hH j hj).2⟩,rfl,rfl,rfl,by simp [grow,hz],fun i hi bL=>(hb i hi).trans ?_⟩;have:aI≠i:=fun e=>bL (by rw [e]);simp [putRow,mapBlock,Sort.ahead,Array.getElem?_modify,this]
theorem j9:∀ x y:List UInt8,Op.bytesLess x y=decide (x<y)
 | [],[]=>by simp [Op.bytesLess]
 | [],b::y=>by simp [Op.bytesLess]
 | a::x,[]=>by simp [Op.bytesLess]
 | a::x,b::y=>by have ih:=j9 x y;simp only [Op.bytesLess,ih,List.cons_lt_cons_iff];by_cases h1:a<b;{simp [h1]};{by_cases h2:a=b;{subst h2;simp};{simp [h1,h2]}}
end T
namespace T
open Go.Maps
theorem gR:Keyed prog 9:=string_keyed underlying9
abbrev dQ (x:List UInt8):Value:=.string ⟨x.toArray⟩
def lM {H:Type} (D0:DataW H) (left:Lit->Bool) (ss:List (List UInt8)):Prop:=ss.Nodup/\∀ x,x∈ss↔(has D0 (.string x)=true/\left (.string x)=false)
theorem lM.start {H:Type} (D0:DataW H):lM D0 (has D0) []:=⟨List.nodup_nil,fun x=>by cases has D0 (.string x)<;>simp⟩
theorem lM.step {H:Type} {D0:DataW H} (h:lM D0 left ss) {x:List UInt8} {y:DataW H} (hlk:left (.string x)=true) (gS:∀ zd,D0.atKey (.string x) zd=y):lM D0 (fun z=>left z&&!z.sameKey (.string x)) (ss++[x]):=by
 have FM:has D0 (.string x)=true:=has_true_of_atKey gS;have oH:x∉ss:=fun hx=>by have:=((h.2 x).1 hx).2;rw [hlk] at this;cases this
 refine ⟨List.nodup_append.2 ⟨h.1,by simp,fun a ha b hb=>by simp at hb;subst hb;exact fun e=>oH (e▸ha)⟩,fun y=>?_⟩;by_cases hy:y=x;{subst hy;simp [FM,Lit.sameKey]};{simp [h.2 y,hy,Lit.sameKey]}
def jb {H:Type} (D0:DataW H) (ss:List (List UInt8)):Prop:=ss.Nodup/\(∀ x,x∈ss↔has D0 (.string x)=true)/\ss.length<=Maps.size D0
theorem lM.all {H:Type} {D0:DataW H} (h:lM D0 left ss) (hl:∀ kl,left kl=false) (hs:ss.length<=Maps.size D0):jb D0 ss:=⟨h.1,(fun x=>by rw [h.2 x,hl];simp),hs⟩
theorem AY {H:Type} (n:Nat) (hn:1<=n) (l Bm b nn:Nat) (D0:DataW H) {R:Value->Option (DataW H × List MemPlace)} (J Jx:List (List UInt8)->World->Prop)
  (hY:∀ pre x W,J pre W->pre.length<Maps.size D0->YieldAt Fence.wide (n-1) prog l #[dQ x] W fun e W'=>(e=.returned (.bool true)/\J (pre++[x]) W'/\KeepsWalks W W')\/(e=.returned (.bool false)/\Jx (pre++[x]) W'))
  (W:World) (hJ:AbidesFrom W.heap.size J) (hm:W.cell? ⟨Bm,0,none⟩=some (.map (some b))) (br:W.ownsMap prog 9 R b nn D0) (h0:J [] W) :
  CallsIn Fence.wide n prog 172 #[.func (.yield l) #[] #[],.pointer (some ⟨Bm,0,none⟩)] W fun e W'=>(∃ v,e=.returned v)/\((∃ ss:List (List UInt8),jb D0 ss/\J ss W')\/(∃ pre,Jx pre W')):=by
 refine callsIn_of_wp func172 rfl trivial ?_ rfl;simp only [ntmps172,List.size_toArray,List.length_cons,List.length_nil,Nat.reduceAdd,Nat.reduceSub,Array.replicate_succ,Array.replicate_zero,List.push_toArray,List.append_toArray,List.nil_append,List.cons_append]
 gi_wp2_with (first
  | (gi_at_range;refine wpListIn_range_own _ rfl _ 130 rfl 9 _ gR underlying130 _ b nn _ rfl br ?_;intro w0 pI uX Hj)
  | gi_in)
 go_frame
 gi_loopw [3] (fun _ wr=>∃ (left:Lit->Bool) (mV:Nat) (ss:List (List UInt8)),wr.ranges prog 9 R b W.heap.size nn D0 left mV/\ss.length+mV<=Maps.size D0/\lM D0 left ss/\J ss wr)
  (fun _ wr=>wr.rangeLeft b W.heap.size)
 case atStart=>exact ⟨_,_,[],pI,by simp,lM.start D0,hJ [] W w0 none h0 uX (fun r e=>by cases e)⟩
 case round =>(
 obtain ⟨left,mV,ss,nM,Ce,hC,TJ⟩:=hrel
 gi_wp2_with (first
  | (gi_at_next;refine wpListIn_next_ranges _ rfl _ rfl 9 gR R dQ id (fun key kl hk=>by obtain ⟨x,hx,_⟩:=Maps.keyOf_str underlying9 hk;exact ⟨x,hx⟩) (fun v _ _=>⟨v,rfl⟩) b W.heap.size nn _ _ _ rfl nM ?_ ?_)
  | gi_in)
 {
 intro Yh tJ
 gi_wp2
 go_end0
 exact ⟨⟨_,rfl⟩,.inl ⟨ss,hC.all tJ (by omega),TJ⟩⟩};{
 intro x c kl yd yp w2 NN df hlk hv gS xm bj fU DC Bk;obtain ⟨x',ex,rfl,_⟩:=Maps.keyOf_str underlying9 df;obtain rfl:x=x':=by simpa [dQ] using ex
 have TK:J ss w2:=hJ ss wr w2 (some W.heap.size) TJ fU (fun r e=>by cases e;exact ⟨Nat.le_refl _,nM.iter_walk⟩);obtain ⟨fn,tmps,assign,body,hy,hR⟩:=hY ss x w2 TK (by omega);clear DC
 gi_wp2
 refine hR.mono ?_;rintro e W3 (⟨rfl,hJ3,VV⟩ | ⟨rfl,MU⟩);{
 gi_wp2
 have si:=xm.of_walks VV;go_roundw
 case rel=>exact ⟨_,NN,ss++[x],si,by simp;omega,hC.step hlk gS,hJ3⟩
 case measure=>rw [si.left_eq,nM.left_eq];exact bj}
 {
 gi_wp2
 refine bodyPost_ret (results_none rfl _ _ _) rfl ?_;exact ⟨⟨_,rfl⟩,.inr ⟨_,MU⟩⟩}})
theorem Fv (n:Nat) (mb:Option Nat) (w:World) :
  CallsIn Fence.wide n prog 146 #[.map mb] w fun e w'=>e=.returned (.func (.func 172) #[] #[.pointer (some ⟨w.heap.size,0,none⟩)])/\w'=w.alloc (.cells #[.map mb] 130):=by
 refine callsIn_of_wp func146 rfl trivial ?_ rfl;simp only [ntmps146,List.size_toArray,List.length_cons,List.length_nil,Nat.reduceAdd,Nat.reduceSub,Array.replicate_succ,Array.replicate_zero,List.push_toArray,List.append_toArray,List.nil_append,List.cons_append]
 gi_wp2
 go_ret;exact ⟨rfl,rfl⟩
theorem Aw {H:Type} (n:Nat) (hn:1<=n) (Bm b nn:Nat) (D0:DataW H) {R:Value->Option (DataW H × List MemPlace)} (w:World) (hBm:Bm<w.heap.size)
  (hm:w.cell? ⟨Bm,0,none⟩=some (.map (some b))) (br:w.ownsMap prog 9 R b nn D0) :
  SeqStopsK Fence.wide n prog 172 #[.pointer (some ⟨Bm,0,none⟩)] (fun x:List UInt8=>#[dQ x]) KeepsWalks (jb D0) (fun _=>True) (Maps.size D0) w:=fun l J Jx W hW hJ _ hY h0=>by
 have mj:W.ownsMap prog 9 R b nn D0:=by have Cf:=br.lt;obtain ⟨es,clock,hb,Ft,hs,hD⟩:=br;exact ⟨es,clock,(hW.block b Cf).trans hb,Ft,hs,hD⟩
 refine (AY n hn l Bm b nn D0 J Jx hY W hJ ((hW.cell (p:=⟨Bm,0,none⟩) hBm).trans hm) mj h0).mono ?_;rintro e W' ⟨he,⟨ss,hs,hj⟩ | ⟨pre,hj⟩⟩;{exact ⟨he,.inl ⟨ss,hs,hj⟩⟩};{exact ⟨he,.inr ⟨pre,trivial,hj⟩⟩}
end T
namespace T
open Go.Maps
theorem Hid.qK (h:p):Hid p:=h
theorem od (h:Hid p):p:=h
theorem iW (W:World) (l:Nat) (o:Obj):W.grownBy (W.putObj l o) (some l):=⟨rfl,rfl,rfl,by simp,fun k _ hk=>World.putObj_heap_other (fun e=>hk (by rw [e]))⟩
theorem oL (W:World) (b:Nat) (v:Value):W.grownBy (W.setCell ⟨b,0,none⟩ v) (some b):=⟨rfl,rfl,rfl,by simp,fun k _ hk=>Below.heap_setCell _ _ _ k (fun e=>hk (by rw [e]))⟩
theorem ma {size:Nat} (h:W.ownsRow base e size v k xs) (hj:W.heap[j]?=some o) (ho:o.isCells=false):v.ownBlock=none\/v.ownBlock≠some j:=by
  rcases h.2 with ⟨rfl,_⟩ | ⟨g,cap,cur,rfl,_,Rh,_⟩;{exact .inl rfl};{
 refine .inr fun e'=>?_;have:g=j:=by simpa [Value.ownBlock] using e'
 subst this;rw [Rh] at hj;cases hj;cases ho}
theorem rF {row:Option Nat} {size:Nat} (h:W.ownsRow base e size v k xs) (hg:W.grownBy W' row)
    (hr:∀ r,row=some r->∃ o:Obj,W.heap[r]?=some o/\o.isCells=false):W'.ownsRow base e size v k xs:=by
  refine h.kept hg ?_;cases hv:v.ownBlock with
  | none=>exact .inl rfl
  | some j=>
    refine .inr fun e'=>?_;obtain ⟨o,ho,hc⟩:=hr j e'.symm;rcases ma h ho hc with e1 | e1;{rw [hv] at e1;cases e1};{exact e1 hv}
theorem qF {size:Nat} (h:W.ownsRow base e size v k xs) (hg:W.grownBy W' v.ownBlock):KeepsOthers W W':=
  ⟨hg.size,fun j o hj ho=>(hg.block j (Array.getElem?_eq_some_iff.1 hj).1 (fun e1=>by rcases ma h hj ho with e2 | e2;{rw [e2] at e1;cases e1};{exact e2 e1.symm})).trans hj⟩
structure Got (w0:World) (Bs:Nat) (pre:List (List UInt8)) (v:Value) (W:World):Prop where
  cell:W.cell? ⟨Bs,0,none⟩=some v
  fr:W.frozen? ⟨Bs,0,none⟩=false
  row:W.ownsRow (Bs+1) 9 1 v pre.length (pre.map dQ)
  nil:v=.S none 0 0↔pre=[]
theorem mX (n:Nat) (hn:2<=n) (g:Nat) (lb:Array Value) (eg:∀ args w,(callFunc g args).run prog w=.ok (.enter g args) w)
    (S Sp:List (List UInt8)->Prop) (N:Nat) (hN:N<=1048576) (w:World) (oF:SeqStopsK Fence.wide (n-1) prog g lb (fun x:List UInt8=>#[dQ x]) KeepsWalks S Sp N w) :
    CallsIn Fence.wide n prog 181 #[.S none 0 0,.func (.func g) #[] lb] w fun e w'=>∃ (v:Value) (ss:List (List UInt8)),e=.returned v/\S ss/\w'.ownsRow (w.heap.size+1) 9 1 v ss.length (ss.map dQ)/\(v=.S none 0 0↔ss=[])/\Bw w w':=by
  have h1:1<=n:=by omega
  obtain ⟨i0,hi,mw,iT,jW⟩:=info_parts (P:=prog) (e:=9) (z:=.string ⟨#[]⟩) (size:=1) (bytes:=16) (by kernel_rfl);refine callsIn_of_wp_marks func181 rfl trivial ?_ rfl;simp only [ntmps181,List.size_toArray,List.length_cons,List.length_nil,Nat.reduceAdd,Nat.reduceSub,Array.replicate_succ,Array.replicate_zero,List.push_toArray,List.append_toArray,List.nil_append,List.cons_append]
  gi_wp2
  obtain ⟨W0,dh⟩:=ax (w.alloc (.cells #[.S none 0 0] 157));have z0:W0.heap.size=w.heap.size+1:=by rw [dh];simp
  have k0:W0.cell? ⟨w.heap.size,0,none⟩=some (.S none 0 0):=by rw [dh];simp
  have f0:W0.frozen? ⟨w.heap.size,0,none⟩=false:=by rw [dh];simp
  have RE:=ju dh;rw [<-dh];clear dh;refine wpIn_rangeFunc_ownF (F:=Fence.wide) rfl h1 (gf:=g) (lb:=lb) rfl trivial eg oF (fun h k=>h.trans k) (fun W l o o' _ hl _ hw=>KeepsWalks.putObj _ hl hw) RE (fun _=>rfl)
    (fun pre W=>(∃ v,Got w w.heap.size pre v W)/\Bw w W)
    (fun _ _ _=>False)
    (OwnFrom.and (Own.from (fun s A B row hs hg hr=>by obtain ⟨v,hv⟩:=hs;exact ⟨v,cell_kept hv.cell hg hr,(frozen_kept hv.cell hg hr).trans hv.fr,rF hv.row hg hr,hv.nil⟩) _) (ownFrom_below aA (by omega)))
    (fun _ _ _ _ _ hs _ _=>hs)
    ⟨⟨_,k0,f0,⟨rfl,.inl ⟨rfl,rfl⟩⟩,by simp⟩,RE⟩
    (fun x=>{ tmps:=#[.S none 0 0,.func (.func g) #[] lb,.pointer (some ⟨w.heap.size,0,none⟩),undef,.S none 0 0,dQ x,.func (.func g) #[] lb,dQ x,undef,undef,undef,undef,undef],defers:=[] }) ?assign ?body ?done ?stop
  case assign =>(
 intro l x W K hK
 gi_wp2_with (rw [Oper.semAt_eq _ _ _ (fun c h=>by cases h)];go_simp;try go_bits)
 exact hK)
  case body =>(
 rintro L pre x W ⟨⟨v,hv⟩,js⟩ jR;have hc:=hv.cell;have hf:=hv.fr;have dW:=hv.row;have bj:w.heap.size<W.heap.size:=World.block_lt_of_cell? W _ hc;have DE:=dW.alloc (.cells #[dQ x] 9)
 gi_wp2_with (first
   | (gi_at_builtin;refine wpListIn_append_own _ rfl _ _ 157 rfl (w.heap.size+1) 9 i0 (.string ⟨#[]⟩) 1 16 underlying157 hi mw iT jW rfl (by decide) _ _ _ rfl DE ⟨W.heap.size,0,none⟩ 1 1 [dQ x] rfl rfl (cell_one_new _ _ _) (by simp [Value.oneCell',dQ]) (by unfold maxLen;omega) (by omega) (by simp;omega) ?_;intro v' w3 mj uA Mh
      have Bh:(W.alloc (.cells #[dQ x] 9)).grownBy w3 v.ownBlock:=uA;have VM:some w.heap.size≠v.ownBlock:=fun e=>by have:=(dW.lt _ e.symm).1;omega
      have Rm:(W.alloc (.cells #[dQ x] 9)).cell? ⟨w.heap.size,0,none⟩=some v:=(World.cell?_of_block (a:=⟨w.heap.size,0,none⟩) (Below.heap_alloc _ _ _ bj)).trans hc;have Ri:(W.alloc (.cells #[dQ x] 9)).frozen? ⟨w.heap.size,0,none⟩=false:=(World.frozen?_of_block (a:=⟨w.heap.size,0,none⟩) (Below.heap_alloc _ _ _ bj)).trans hf;have dA:w3.heap[w.heap.size]?=(W.alloc (.cells #[dQ x] 9)).heap[w.heap.size]?:=Bh.block _ (by simp;omega) VM;have Rn:w3.cell? ⟨w.heap.size,0,none⟩=some v:=(World.cell?_of_block (a:=⟨w.heap.size,0,none⟩) dA).trans Rm;have uZ:w3.frozen? ⟨w.heap.size,0,none⟩=false:=(World.frozen?_of_block (a:=⟨w.heap.size,0,none⟩) dA).trans Ri;obtain ⟨g',xO,rfl⟩:∃ g' xO,v'=.S (some ⟨g',0,none⟩) (pre.length+1) xO:=by rcases mj.2 with ⟨_,h0⟩ | ⟨g',xO,_,h',_⟩;{exact absurd h0 (by omega)};{exact ⟨g',xO,h'⟩}
      have HO3:=Hid.qK ((KeepsOthers.alloc W (.cells #[dQ x] 9)).trans (qF DE Bh));have ra:=Hid.qK (((js.alloc js.size (.cells #[dQ x] 9)).grown Bh (by have:=js.size;simp;omega) (fun k e=>by have:=(dW.lt k e).1;omega)));have Pt:=Hid.qK mj;clear mj Mh uA Bh Rm Ri dA
      go_frame)
   | (rw [Oper.semAt_eq _ _ _ (fun c h=>by cases h)];go_simp;try go_bits))
 refine ⟨(od HO3).trans (KeepsOthers.setCell _ _ _),((od HO3).trans (KeepsOthers.setCell _ _ _)).walks,⟨_,World.cell?_setCell_same _ _ _ Rn,by rw [World.frozen?_setCell];exact uZ,?_,by simp⟩,(od ra).setCell (p:=⟨w.heap.size,0,none⟩) aA _⟩;have hr:=(od Pt).kept (oL w3 w.heap.size (.S (some ⟨g',0,none⟩) (pre.length+1) xO)) (.inr (fun e=>by have:=((od Pt).lt _ e).1;omega));simpa using hr)
  case done =>(
 rintro D ys W hD hS ⟨⟨v,hv⟩,js⟩ hK;have hc:=hv.cell
 gi_wp2
 refine ⟨by simp,.inl ⟨_,_,rfl,run_takeDeferred hK,?_⟩⟩;exact ⟨_,results_tmp rfl _ _ _,v,ys,rfl,hS,rF hv.row (iW _ _ _) (fun r e=>by cases e;exact ⟨_,hK,rfl⟩),hv.nil,js.grown (iW _ _ _) js.size (fun k e=>by cases e;omega)⟩)
  case stop =>(
 rintro D c pre W _ _ h _;exact h.elim)
end T
namespace T
open Go.Maps Go.Sort
theorem qU (n:Nat) (hn:3<=n) (g:Nat) (lb:Array Value) (eg:∀ args w,(callFunc g args).run prog w=.ok (.enter g args) w)
  (S Sp:List (List UInt8)->Prop) (N:Nat) (hN:N<=1048576) (w:World) (oF:SeqStopsK Fence.wide (n-1-1) prog g lb (fun x:List UInt8=>#[dQ x]) KeepsWalks S Sp N w) :
  CallsIn Fence.wide n prog 170 #[.func (.func g) #[] lb] w fun e w'=>∃ (v:Value) (ss:List (List UInt8)),e=.returned v/\S ss/\w'.ownsRow (w.heap.size+1) 9 1 v ss.length (ss.map dQ)/\(v=.S none 0 0↔ss=[])/\Bw w w':=by
 have h1:1<=n:=by omega
 have Ye:Fence.wide.fn 181:=trivial;refine callsIn_of_wp func170 rfl trivial ?_ rfl;simp only [ntmps170,List.size_toArray,List.length_cons,List.length_nil,Nat.reduceAdd,Nat.reduceSub,Array.replicate_succ,Array.replicate_zero,List.push_toArray,List.append_toArray,List.nil_append,List.cons_append]
 gi_wp2_with (gi_at_call 181;refine (mX (n-1) (by omega) g lb eg S Sp N hN _ oF).mono ?_;rintro e w' ⟨v,ss,rfl,hS,dW,yz,hb⟩)
 go_ret;exact ⟨v,ss,rfl,hS,dW,yz,hb⟩
theorem FB {w:World} {g:Nat} {cur:Array Value} (hb:w.heap[g]?=some (.cells cur e (0,0))) (ht:cur.toList.take ss.length=ss.map dQ):HT w g 0 ss.toArray:=by
 intro j hj;have VZ:j<ss.length:=by simpa using hj
 refine ⟨?_,by simp [World.frozen?,hb]⟩;have h1:(cur.toList.take ss.length)[j]?=(ss.map dQ)[j]?:=by rw [ht]
 rw [List.getElem?_take_of_lt VZ] at h1;simp only [World.cell?,hb,Nat.zero_add];simp only [Option.isSome_none,Bool.false_eq_true,if_false];rw [<-Array.getElem?_toList,h1];simp [VZ,dQ]
def SC (B:Nat) (w:World) (v:Value) (ss:List (List UInt8)):Prop:=(v=.S none 0 0/\ss=[])\/∃ g cap,v=.S (some ⟨g,0,none⟩) ss.length cap/\B<=g/\g<w.heap.size/\HT w g 0 ss.toArray
structure S7 {H:Type} (D0:DataW H) (ss:List (List UInt8)):Prop where
 lt:ss.Pairwise (·<·)
 mem:∀ x,x∈ss↔has D0 (.string x)=true
 size:ss.length<=Maps.size D0
theorem BL {H:Type} {D0:DataW H} (h:jb D0 ss):S7 D0 (ss.mergeSort (fun x y=>decide (x<=y))):=by
 have hp:=List.mergeSort_perm ss (fun x y=>decide (x<=y));refine ⟨?_,fun x=>(hp.mem_iff).trans (h.2.1 x),by rw [hp.length_eq];exact h.2.2⟩;have h1:=List.pairwise_mergeSort (le:=fun x y:List UInt8=>decide (x<=y)) (fun a b c h1 h2=>by simp only [decide_eq_true_eq] at *;exact List.le_trans h1 h2) (fun a b=>by simp only [Bool.or_eq_true,decide_eq_true_eq];exact List.le_total a b) ss;have h2:(ss.mergeSort (fun x y=>decide (x<=y))).Pairwise (·≠·):=hp.nodup_iff.2 h.1;refine (h1.and h2).imp (fun {a b} ⟨x,y⟩=>?_);simp only [decide_eq_true_eq] at x;exact Decidable.byContradiction fun hh=>y (List.le_antisymm x hh)
theorem pf (n:Nat) (hn:4<=n) (g:Nat) (lb:Array Value) (eg:∀ args w,(callFunc g args).run prog w=.ok (.enter g args) w)
  (S Sp:List (List UInt8)->Prop) (N:Nat) (hN:N<=1048576) (hS:∀ ss,S ss->ss.length<=1048576) (w:World) (oF:SeqStopsK Fence.wide (n-1-1-1) prog g lb (fun x:List UInt8=>#[dQ x]) KeepsWalks S Sp N w) :
  CallsIn Fence.wide n prog 145 #[.func (.func g) #[] lb] w fun e w'=>∃ (v:Value) (ss:List (List UInt8)),e=.returned v/\S ss/\SC w.heap.size w' v (ss.mergeSort (fun x y=>decide (x<=y)))/\Bw w w':=by
 have h1:1<=n:=by omega
 have hfC:Fence.wide.fn 170:=trivial;have Ye:Fence.wide.fn 171:=trivial;refine callsIn_of_wp func145 rfl trivial ?_ rfl;simp only [ntmps145,List.size_toArray,List.length_cons,List.length_nil,Nat.reduceAdd,Nat.reduceSub,Array.replicate_succ,Array.replicate_zero,List.push_toArray,List.append_toArray,List.nil_append,List.cons_append]
 gi_wp2_with (gi_at_call 170;refine (qU (n-1) (by omega) g lb eg S Sp N hN _ oF).mono ?_;rintro e w' ⟨v,ss,rfl,Wu,dW,yz,hb⟩)
 rcases dW.2 with ⟨rfl,_⟩ | ⟨gb,cap,cur,rfl,sA,Rh,iV,hr2,hr3,hr4⟩;{
 have e0:ss=[]:=yz.1 rfl;subst e0
 gi_wp2_with (gi_at_call 171;refine (callsIn_wide.2 (wh 0 _)).mono ?_;rintro e w2 ⟨rfl,rfl⟩)
 go_ret;exact ⟨_,[],rfl,Wu,.inl ⟨rfl,by simp⟩,hb⟩};{
 have bj:gb<w'.heap.size:=(Array.getElem?_eq_some_iff.1 Rh).1;have hH:=FB Rh (by simpa using hr4)
 gi_wp2_with (gi_at_call 171;refine (callsIn_wide.2 (tm gb 0 cap ss (hS ss Wu) _ hH bj)).mono ?_;rintro e w2 ⟨rfl,sX,fU⟩)
 go_ret;refine ⟨_,ss,rfl,Wu,.inr ⟨gb,cap,by rw [List.length_mergeSort];rfl,by omega,Nat.lt_of_lt_of_le bj fU.size,sX⟩,?_⟩;exact hb.grown fU hb.size (fun k e=>by cases e;omega)}
theorem aa4 {H:Type} (b nn:Nat) (D0:DataW H) {R:Value->Option (DataW H × List MemPlace)} (w:World) (br:w.ownsMap prog 9 R b nn D0) (il:Maps.size D0<=1048576) :
  Calls prog 101 #[.map (some b)] w fun e w'=>∃ (v:Value) (ss:List (List UInt8)),e=.returned v/\S7 D0 ss/\SC w.heap.size w' v ss/\Bw w w':=by
 refine (callsIn_wide (n:=6)).1 ?_;have hfK:Fence.wide.fn 146:=trivial;have Ye:Fence.wide.fn 145:=trivial;have Cf:=br.lt;have nj:(w.alloc (.cells #[.map (some b)] 130)).ownsMap prog 9 R b nn D0:=by obtain ⟨es,clock,hb,Ft,hs,hD⟩:=br;exact ⟨es,clock,(Below.heap_alloc _ _ b Cf).trans hb,Ft,hs,hD⟩
 have oF:=Aw 2 (by omega) w.heap.size b nn D0 (w.alloc (.cells #[.map (some b)] 130)) (by simp) (by simp) nj;refine callsIn_of_wp func101 rfl trivial ?_ rfl;simp only [ntmps101,List.size_toArray,List.length_cons,List.length_nil,Nat.reduceAdd,Nat.reduceSub,Array.replicate_succ,Array.replicate_zero,List.push_toArray,List.append_toArray,List.nil_append,List.cons_append]
 gi_wp2_with (first
  | (gi_at_call 146;refine (Fv _ _ _).mono ?_;rintro e w' ⟨rfl,rfl⟩)
  | (gi_at_call 145;refine (pf 5 (by omega) _ _ (fun args w=>(by kernel_rfl:(callFunc 172 args).run prog w=.ok (.enter 172 args) w)) _ _ _ il (fun ss h=>Nat.le_trans h.2.2 il) _ oF).mono ?_;rintro e w' ⟨v,ss,rfl,hS,DG,hb⟩))
 go_ret;refine ⟨v,_,rfl,BL hS,?_,((Below.refl _ w).alloc aA _).trans (hb.mono (by simp))⟩;rcases DG with h | ⟨g,cap,h1,h2,h3,h4⟩;{exact .inl h};{exact .inr ⟨g,cap,h1,by simp at h2;omega,h3,h4⟩}
end T
end Go.Proofs.YtcfcafeciggjeaaGreatDoor
