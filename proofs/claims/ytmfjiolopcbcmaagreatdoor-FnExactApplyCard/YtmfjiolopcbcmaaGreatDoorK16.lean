import Derived.Test.YtmfjiolopcbcmaaGreatDoorQTs
import Derived.Test.YtmfjiolopcbcmaaGreatDoorK8
import Derived.RangeFuncGives
import Derived.RangeFuncSeq
import Derived.Sort.MapsRangeIn
import Derived.OwnWalkIn
import Derived.TacticsInMore
import Derived.RegionIn
import Derived.LoopNIn
import Derived.LoopIn
import Derived.Maps.AppendAt
import Derived.RangeFuncKeeps
import Derived.RangeFuncFrom
import Derived.RangeFuncNested
import Derived.RangeFuncBound
import Derived.RangeFuncCalls
import Derived.RangeFuncLeaves
import Derived.Sort.KeysCollected
namespace Go.Proofs.YtmfjiolopcbcmaaGreatDoor
set_option maxHeartbeats 6400000
set_option linter.unusedVariables false
set_option linter.unusedSimpArgs false
set_option maxRecDepth 100000
open Go.ChangeShapes Go.WideShapes Go.ChangeAt Go.RowKit Go.Proofs.Tryz
variable {I a b base i j k s:Nat} {W W':World} {d:Array Int} {e:TypeId} {left:Lit->Bool} {o:Obj} {p:Prop} {ss:List (List UInt8)} {v:Value} {xs:List Value}
theorem u9 (g:Nat) (vs:List Value) (ls:List (List Int)) (lm:List Int) (n k:Nat) (ek:Hid (k=ls.length)) (e:Hid (lm=cat ls)) (en:Hid (lm.length=n)) (w:World) (h:tc w g vs ls) (hl:n<=4194304) (hk:k<=10) :
  Calls prog 130 #[.slice (some ⟨g,0,none⟩) k k] w fun e w'=>∃ p' c',e=.returned (.slice p' n c')/\Own w.heap.size w' (.slice p' n c') lm/\Below w.heap.size w w':=by
 have e1:=aa ek;have e2:=aa e;have e3:=aa en;subst e1 e3 e2;go_enter func130,ntmps130;go_wp2_with fail;refine (Fv g vs ls _ h hl (by omega)).mono ?_;rintro e w1 ⟨p1,c1,rfl,o1,aK⟩;go_wp2;go_ret;exact ⟨p1,c1,rfl,o1,aK⟩
def tx (l:List Int):List Int:=vi l.length++l
namespace Q
open Go.Sort
theorem oV (lt:Int->Int->Bool) (a:Nat):∀ (j:Nat) (d:Array Int),(insInner lt a j d).size=d.size
 | 0,d=>rfl
 | j+1,d=>by rw [insInner];split;{rw [oV lt a j,size_swp]};{rfl}
theorem insInner_stop (h:¬ a<j\/ltInt d[j]! d[j-1]! = false):insInner ltInt a j d=d:=by
 cases j with
 | zero=>rfl
 | succ j=>
  rw [insInner,if_neg];rcases h with h | h;{simp;omega};{simp only [Nat.add_sub_cancel] at h;simp [h]}
theorem insInner_go (h:a<j) (hl:ltInt d[j]! d[j-1]! = true):insInner ltInt a j d=insInner ltInt a (j-1) (swp d j (j-1)):=by
 cases j with
 | zero=>omega
 | succ j=>
  simp only [Nat.add_sub_cancel] at hl ⊢;rw [insInner,if_pos (by simp [hl];omega)]
theorem Px (aF off cap N a b:Nat) (d:Array Int) (hN:Hid (d.size=N)) (w:World) (h:HU w aF off d) (wF:a<=b) (hb:b<=N) (fH:N<=1048576) :
  Calls prog 167 #[.slice (some ⟨aF,off,none⟩) N cap,.int .i64 a,.int .i64 b] w fun e w'=>e=.returned (.tuple #[])/\HU w' aF off (insertionSort ltInt d a b)/\w.grownBy w' (some aF):=by
 obtain ⟨D,eD⟩:=aZ (insertionSort ltInt d a b);rw [eD];have ED:Hid (insOuter ltInt a b (a+1) d=D):=eD;have H0:=ae h;go_enter func167,ntmps167;go_wp2_with fail
 go_loopw [6] (fun s6 wr=>∃ (i:Nat) (dk:Array Int),s6=.int .i64 i/\i<=1048577/\a<i/\Hid (dk.size=N)/\Hid (HU wr aF off dk)/\Hid (insOuter ltInt a b i dk=D)/\Hid (w.grownBy wr (some aF))) (fun s6 _=>b-(intOf s6).toNat)
 case atStart=>exact ⟨a+1,d,by first | rfl | go_num,by omega,by omega,hN,H0,ED,kx _ _⟩
 case round =>(
 obtain ⟨i,dk,rfl,q1,q2,oC,vE,heq,hg⟩:=hrel;by_cases aU:i<b;{
 have aV:(i:Int)<(b:Int):=by omega
 have hq:=aa heq;rw [insOuter,if_pos aU] at hq;obtain ⟨E,eE⟩:=aZ (insInner ltInt a i dk);rw [eE] at hq;have HQ:=ae hq;have EE:=ae eE;have hEs:Hid (E.size=N):=by show _=_;rw [<-eE,oV];exact aa oC
 go_wp2_with fail;obtain ⟨Y,eY⟩:=ax wr;subst eY;have HG0:=hg
 go_loopw [7] (fun s7 wr=>∃ (j:Nat) (dj:Array Int),s7=.int .i64 j/\j<=i/\a<=j/\Hid (dj.size=N)/\Hid (HU wr aF off dj)/\Hid (insInner ltInt a j dj=E)/\Hid (w.grownBy wr (some aF))) (fun s7 _=>(intOf s7).toNat)
 case atStart=>exact ⟨i,dk,rfl,Nat.le_refl _,by omega,oC,vE,EE,HG0⟩
 case round =>(
 obtain ⟨j,dj,rfl,q3,q4,P8,wG,Ff,hg⟩:=hrel;by_cases hja:a<j;{
 have aD3:(a:Int)<(j:Int):=by omega
 obtain ⟨m,em⟩:∃ m:Nat,(j:Int)-1=(m:Int):=⟨j-1,by omega⟩;have NQ:j-1=m:=by omega
 have vu:=aa P8;obtain ⟨cj,fj⟩:=aa wG j (by omega);obtain ⟨cm,fm⟩:=aa wG m (by omega);obtain ⟨y,ey⟩:∃ y,dj[j]! = y:=⟨_,rfl⟩;obtain ⟨z,ez⟩:∃ z,dj[m]! = z:=⟨_,rfl⟩;have xU:=ae (wG.swap (i:=j) (j:=m) (by omega) (by omega) ez.symm ey.symm);rw [ey] at cj;rw [ez] at cm;have i1:(j:Int)<(N:Int):=by omega
 have i2:(m:Int)<(N:Int):=by omega
 have i3:(0:Int)<=(m:Int):=by omega
 have wm:IntKind.i64.wrap (m:Int)=(m:Int):=IntWalk.i64_in _ (by omega);obtain ⟨B,eB⟩:=aZ (ltInt y z);have EB:=ae eB;have gh:Hid (B=false->dj=E):=fun hB=>by rw [<-aa Ff,insInner_stop (.inr (by rw [NQ,ey,ez,eB,hB]))]
 have wu:Hid (B=true->insInner ltInt a m (swp dj j m)=E):=fun hB=>by rw [<-aa Ff,insInner_go hja (by rw [NQ,ey,ez,eB,hB]),NQ]
 have tJ:Hid ((swp dj j m).size=N):=by show _=_;rw [size_swp];exact vu
 have HG:=ae (aO (aO hg (aD wr aF (off+j) (.int .u64 z))) (aD _ aF (off+m) (.int .u64 y)));have K0:=ae (ag cj cm);have FF:=ae (ag fj fm);go_wp2_with fail
 go_cut [30] (fun rv wc=>rv=.bool B/\wc=wr.drew)
 case first =>(
 refine wp_region_noPanic ?_;refine wp_region_held_drew (S:=fun w'=>w'.cell? ⟨aF,off+j,none⟩=some (.int .u64 y)/\w'.cell? ⟨aF,off+m,none⟩=some (.int .u64 z)) (by kernel_rfl) (by exact K0) (fun hS=>?_);refine fL 0 1 2 3 4 5 6 7 hS ?_;refine gD 8 9 10 11 hS ?_;refine tn 12 hS ?_;refine ry [13] ?_;refine cn (fun KK hK=>?_) ?_;{refine bL (by rfl) 173 _ _ _ (by rfl) (.int .u64 y) (.int .u64 z) (by rfl) (by rfl) (fun _=>dL _ _) (dK y z _) ?_;rintro r w2 ⟨rfl,rfl⟩;refine ⟨_,rfl,?_⟩;rw [aa EB];refine bM hK (by exact K0) fun hS=>?_;refine tn 14 hS ?_;refine wpAnyH_done (by kernel_rfl) ?_ _;refine bc ?_;go_wp2_with fail;go_meet;exact ⟨rfl,rfl⟩};exact AllReadyH.nil)
 obtain ⟨rfl,rfl⟩:=hcut;cases B with
 | false=>
  have e:=aa gh rfl;subst e;go_wp2;go_roundw
  case rel=>exact ⟨i+1,dj,by go_num,by omega,by omega,P8,wG.drew,HQ,ao hg⟩
  case measure=>simp [intOf];omega
 | true=>
  have e:=ae (aa wu rfl);obtain ⟨cj,cm⟩:=aa K0;obtain ⟨fj,fm⟩:=aa FF;go_wp2_with fail
  go_region
  go_wp2;go_roundw
  case rel=>exact ⟨m,swp dj j m,by first | rfl | go_num,by omega,by omega,tJ,(aa xU),e,ao (ao HG)⟩
  case measure=>simp [intOf];omega}
 {
 have aD3:¬ (a:Int)<(j:Int):=by omega
 have e:dj=E:=by rw [<-aa Ff,insInner_stop (.inl hja)]
 subst e;go_wp2_with fail
 go_cut [30] (fun rv wc=>rv=.bool false/\wc=wr.drew)
 case first =>(
 refine wp_region_noPanic ?_;refine wp_region_held_drew (S:=fun w'=>True) (by kernel_rfl) trivial (fun hS=>?_);refine gD 0 1 2 3 hS ?_;refine sn 4 hS ?_;refine sn 5 hS ?_;refine sn 6 hS ?_;refine sn 7 hS ?_;refine sn 8 hS ?_;refine sn 9 hS ?_;refine sn 10 hS ?_;refine sn 11 hS ?_;refine sn 12 hS ?_;refine sn 13 hS ?_;refine tn 14 hS ?_;refine wpAnyH_done (by kernel_rfl) ?_ _;refine bc ?_;go_wp2_with fail;go_meet;exact ⟨rfl,rfl⟩)
 obtain ⟨rfl,rfl⟩:=hcut;go_wp2;go_roundw
 case rel=>exact ⟨i+1,dj,by go_num,by omega,by omega,P8,wG.drew,HQ,ao hg⟩
 case measure=>simp [intOf];omega})}
 {
 have aV:¬ (i:Int)<(b:Int):=by omega
 have hq:=aa heq;rw [insOuter,if_neg aU] at hq;subst hq;go_wp2
 go_end0
 exact ⟨rfl,vE,hg⟩})
end Q
namespace Q
open Go.Sort
theorem XD (h:i<b) (hp:ltInt d[i]! d[i-1]! = false):scanSorted ltInt d b i=scanSorted ltInt d b (i+1):=by
 rw [scanSorted,if_pos (by simp [h,hp])]
theorem OI (h:¬ i<b\/ltInt d[i]! d[i-1]! = true):scanSorted ltInt d b i=i:=by
 rw [scanSorted,if_neg];rcases h with h | h;{simp;omega};{simp [h]}
theorem Gk:∀ (j:Nat) (d:Array Int),(shiftDown ltInt j d).size=d.size
 | 0,d=>rfl
 | j+1,d=>by
  rw [shiftDown];split;{rfl}
  {rw [Gk j,size_swp]}
theorem Oy (b:Nat):∀ (k j:Nat) (d:Array Int),b-j<=k->(shiftUp ltInt b j d).size=d.size:=by
 intro k
 induction k with
 | zero=>intro j d h;rw [shiftUp,if_neg (by omega)]
 | succ k ih=>
  intro j d h;rw [shiftUp];split;{
 split;{rfl}
 {rw [ih _ _ (by omega),size_swp]}};{rfl}
theorem XG (h:0<j) (hp:ltInt d[j]! d[j-1]! = true):shiftDown ltInt j d=shiftDown ltInt (j-1) (swp d j (j-1)):=by
 cases j with
 | zero=>omega
 | succ j=>
  simp only [Nat.add_sub_cancel] at hp ⊢;rw [shiftDown,if_neg (by simp [hp])]
theorem Gj (h:j=0\/ltInt d[j]! d[j-1]! = false):shiftDown ltInt j d=d:=by
 cases j with
 | zero=>rfl
 | succ j=>
  rcases h with h | h;{omega};{simp only [Nat.add_sub_cancel] at h;rw [shiftDown,if_pos (by simp [h])]}
theorem XC (h:j<b) (hp:ltInt d[j]! d[j-1]! = true):shiftUp ltInt b j d=shiftUp ltInt b (j+1) (swp d j (j-1)):=by
 rw [shiftUp,if_pos h,if_neg (by simp [hp])]
theorem Gg (h:¬ j<b\/ltInt d[j]! d[j-1]! = false):shiftUp ltInt b j d=d:=by
 rw [shiftUp];rcases h with h | h;{rw [if_neg h]};{split;{rw [if_pos (by simp [h])]};{rfl}}
theorem OY (hI:scanSorted ltInt d b i=I) (h:I=b):partialIns ltInt a b (s+1) i d=(d,true):=by
 rw [partialIns];simp only [hI];rw [if_pos h]
theorem pi_short (hI:scanSorted ltInt d b i=I) (h:¬ I=b) (h5:b-a<50):partialIns ltInt a b (s+1) i d=(d,false):=by
 rw [partialIns];simp only [hI];rw [if_neg h,if_pos h5]
theorem pi_go (hI:scanSorted ltInt d b i=I) (h:¬ I=b) (h5:¬ b-a<50) {d2 d3 d4:Array Int} (h2:swp d I (I-1)=d2) (h3:(if I-a>=2 then shiftDown ltInt (I-1) d2 else d2)=d3)
  (h4:(if b-I>=2 then shiftUp ltInt b (I+1) d3 else d3)=d4):partialIns ltInt a b (s+1) i d=partialIns ltInt a b s I d4:=by
 rw [partialIns];simp only [hI];rw [if_neg h,if_neg h5,h2,h3,h4]
theorem Hl (aF off cap N a b:Nat) (d:Array Int) (hN:Hid (d.size=N)) (w:World) (h:HU w aF off d) (wF:a<b) (hb:b<=N) (fH:N<=1048576) :
  Calls prog 172 #[.slice (some ⟨aF,off,none⟩) N cap,.int .i64 a,.int .i64 b] w fun e w'=>e=.returned (.bool (partialInsertionSort ltInt d a b).2)/\HU w' aF off (partialInsertionSort ltInt d a b).1/\w.grownBy w' (some aF):=by
 obtain ⟨⟨R1,R2⟩,eR⟩:∃ R,partialInsertionSort ltInt d a b=R:=⟨_,rfl⟩;rw [eR];have ER:Hid (partialIns ltInt a b 5 (a+1) d=(R1,R2)):=eR;have H0:=ae h;obtain ⟨Lz,eL⟩:∃ x:Nat,(b:Int)-(a:Int)=(x:Int):=⟨b-a,by omega⟩;have Mc:=ae (show b-a=Lz by omega);have wL:IntKind.i64.wrap (Lz:Int)=(Lz:Int):=IntWalk.i64_in _ (by omega);go_enter func172,ntmps172;go_wp2_with fail
 go_loopw [7,8] (fun s7 s8 wr=>∃ (i s:Nat) (jz:Int) (dk:Array Int),s7=.int .i64 i/\s8=.int .i64 jz/\jz+s=5/\0<=jz/\a+1<=i/\i<=b/\Hid (dk.size=N)/\Hid (HU wr aF off dk)/\Hid (partialIns ltInt a b s i dk=(R1,R2))/\Hid (w.grownBy wr (some aF))) (fun _ s8 _=>(5-intOf s8).toNat)
 case atStart=>exact ⟨a+1,5,0,d,by first | rfl | go_num,rfl,rfl,by omega,by omega,by omega,hN,H0,ER,kx _ _⟩
 case round =>(
 obtain ⟨i,s,jz,dk,rfl,rfl,z1,z2,z3,z4,HD,hH,hQ,hG⟩:=hrel;cases s with
 | zero=>
  have hj:¬ jz<5:=by omega
  have hq:=aa hQ;simp only [partialIns,Prod.mk.injEq] at hq;obtain ⟨QC,QA⟩:=hq;subst QC QA;go_wp2;go_ret;exact ⟨rfl,hH,hG⟩
 | succ t=>
  have hj:jz<5:=by omega
  obtain ⟨I,eI⟩:=aZ (scanSorted ltInt dk b i);have EI:=ae eI;have EI':=ae eI;have oC:=aa HD;go_wp2_with fail;obtain ⟨Y,eY⟩:=ax wr;subst eY
  go_loopw [7] (fun s7 wr=>∃ i1:Nat,s7=.int .i64 i1/\a+1<=i1/\i1<=b/\Hid (HU wr aF off dk)/\Hid (scanSorted ltInt dk b i1=I)/\Hid (w.grownBy wr (some aF))) (fun s7 _=>b-(intOf s7).toNat)
  case atStart=>exact ⟨i,rfl,by omega,by omega,hH,EI,hG⟩
  case round =>(
 obtain ⟨i1,rfl,qa,qb,oq,Lo,ri⟩:=hrel;obtain ⟨Bc,yt⟩:=aZ (decide (i1<b)&&!ltInt dk[i1]! dk[i1-1]!);have iP:=ae yt;obtain ⟨m,em⟩:∃ m:Nat,(i1:Int)-1=(m:Int):=⟨i1-1,by omega⟩;have NQ:=ae (show i1-1=m by omega);have wm:IntKind.i64.wrap (m:Int)=(m:Int):=IntWalk.i64_in _ (by omega);go_wp2_with fail
 go_cut [32] (fun rv wc=>rv=.bool Bc/\wc=wr.drew)
 case first =>(
 by_cases jd:i1<b;{
 have sv:(i1:Int)<(b:Int):=by omega
 obtain ⟨c1,-⟩:=aa oq i1 (by omega);obtain ⟨c2,-⟩:=aa oq m (by omega);obtain ⟨x,ex⟩:∃ x,dk[i1]! = x:=⟨_,rfl⟩;obtain ⟨y,ey⟩:∃ y,dk[m]! = y:=⟨_,rfl⟩;rw [ex] at c1;rw [ey] at c2;have k1:(i1:Int)<(N:Int):=by omega
 have k2:(m:Int)<(N:Int):=by omega
 have k3:(0:Int)<=(i1:Int):=by omega
 have k4:(0:Int)<=(m:Int):=by omega
 obtain ⟨L,eL'⟩:=aZ (ltInt x y);have EL:=ae eL';have eB:Bc=(!L):=by rw [<-aa iP];simp only [decide_eq_true jd,Bool.true_and,aa NQ,ex,ey,eL']
 subst eB;have K0:=ae (ag c1 c2);refine wp_region_noPanic ?_;refine wp_region_held_drew (S:=fun w'=>w'.cell? ⟨aF,off+i1,none⟩=some (.int .u64 x)/\w'.cell? ⟨aF,off+m,none⟩=some (.int .u64 y)) (by kernel_rfl) (by exact K0) (fun hS=>?_);refine fL 0 1 2 3 4 5 6 7 hS ?_;refine gD 8 9 10 11 hS ?_;refine tn 12 hS ?_;refine bR 13 fun KK hK=>?_;refine bL (by rfl) 173 _ _ _ (by rfl) (.int .u64 x) (.int .u64 y) (by rfl) (by rfl) (fun _=>dL _ _) (dK x y _) ?_;rintro r' w2 ⟨rfl,rfl⟩;refine ⟨_,rfl,?_⟩;rw [aa EL];refine bM hK (by exact K0) fun hS=>?_;refine fq 14 15 hS ?_;refine wpAnyH_done (by kernel_rfl) ?_ _;refine bc ?_;go_wp2_with fail;go_meet;exact ⟨rfl,rfl⟩};{
 have sv:¬ (i1:Int)<(b:Int):=by omega
 have eB:Bc=false:=by rw [<-aa iP,decide_eq_false jd];rfl
 subst eB;refine wp_region_noPanic ?_;refine wp_region_held_drew (S:=fun w'=>True) (by kernel_rfl) trivial (fun hS=>?_);refine gD 0 1 2 3 hS ?_;refine sn 4 hS ?_;refine sn 5 hS ?_;refine sn 6 hS ?_;refine sn 7 hS ?_;refine sn 8 hS ?_;refine sn 9 hS ?_;refine sn 10 hS ?_;refine sn 11 hS ?_;refine sn 12 hS ?_;refine sn 13 hS ?_;refine sn 14 hS ?_;refine tn 15 hS ?_;refine wpAnyH_done (by kernel_rfl) ?_ _;refine bc ?_;go_wp2_with fail;go_meet;exact ⟨rfl,rfl⟩})
 obtain ⟨rfl,rfl⟩:=hcut;cases Bc with
 | true=>
  have hh:i1<b/\ltInt dk[i1]! dk[i1-1]! = false:=by have:=aa iP;simp only [Bool.and_eq_true,decide_eq_true_iff,Bool.not_eq_true'] at this;exact this
  have hn:Hid (scanSorted ltInt dk b (i1+1)=I):=by show _=_;rw [<-XD hh.1 hh.2];exact aa Lo
  have hle:=hh.1;go_wp2;go_roundw
  case rel=>exact ⟨i1+1,by go_num,by omega,by omega,oq.drew,hn,ao ri⟩
  case measure=>simp [intOf];omega
 | false=>
  have cF:i1=I:=by rw [<-aa Lo,OI];have:=aa iP;simp only [Bool.and_eq_false_iff,decide_eq_false_iff_not,Bool.not_eq_false'] at this;exact this
  subst cF;by_cases hib:i1=b;{have hq:=aa hQ;rw [OY (aa EI') hib,Prod.mk.injEq] at hq;obtain ⟨QC,QA⟩:=hq;subst QC QA;subst hib;go_wp2;go_ret;exact ⟨rfl,oq,ao ri⟩};{
 have bC6:¬ (i1:Int)=(b:Int):=by omega
 by_cases h5:Lz<50;{
 have ZM:(Lz:Int)<50:=by omega
 have hq:=aa hQ;rw [pi_short (aa EI') hib (by rw [aa Mc];exact h5),Prod.mk.injEq] at hq;obtain ⟨QC,QA⟩:=hq;subst QC QA;go_wp2;go_ret;exact ⟨rfl,oq,ao ri⟩};{
 have ZM:¬ (Lz:Int)<50:=by omega
 obtain ⟨d2,e2⟩:=aZ (swp dk i1 (i1-1));obtain ⟨d3,e3⟩:∃ x,(if i1-a>=2 then shiftDown ltInt (i1-1) d2 else d2)=x:=⟨_,rfl⟩;obtain ⟨d4,e4⟩:∃ x,(if b-i1>=2 then shiftUp ltInt b (i1+1) d3 else d3)=x:=⟨_,rfl⟩;have hq:=aa hQ;rw [pi_go (aa EI') hib (by rw [aa Mc];exact h5) e2 e3 e4] at hq;have HQ:=ae hq;rw [aa NQ] at e2 e3;have HD2:Hid (d2.size=N):=by show _=_;rw [<-e2,size_swp];exact oC
 have wv:Hid (d3.size=N):=by show _=_;rw [<-e3];split;{rw [Gk];exact aa HD2};{exact HD2}
 have Oj:Hid (d4.size=N):=by show _=_;rw [<-e4];split;{rw [Oy b _ _ _ ay];exact aa wv};{exact wv}
 obtain ⟨c1,f1⟩:=aa oq i1 (by omega);obtain ⟨c2,f2⟩:=aa oq m (by omega);obtain ⟨p1,qg⟩:∃ u,dk[i1]! = u:=⟨_,rfl⟩;obtain ⟨p2,qe⟩:∃ u,dk[m]! = u:=⟨_,rfl⟩;rw [qg] at c1;rw [qe] at c2;have nT:=ae (oq.swap (i:=i1) (j:=m) (by omega) (by omega) qe.symm qg.symm);rw [e2] at nT;have DZ:=ae (aO (aO ri (aD _ aF (off+i1) (.int .u64 p2))) (aD _ aF (off+m) (.int .u64 p1)));have l1:(i1:Int)<(N:Int):=by omega
 have l2:(m:Int)<(N:Int):=by omega
 have l3:(0:Int)<=(m:Int):=by omega
 have E3:=ae e3;have E4:=ae e4;obtain ⟨A1,eA⟩:∃ x:Nat,(i1:Int)-(a:Int)=(x:Int):=⟨i1-a,by omega⟩;have eA0:=ae (show i1-a=A1 by omega);have wA:IntKind.i64.wrap (A1:Int)=(A1:Int):=IntWalk.i64_in _ (by omega);obtain ⟨B1,eB1⟩:∃ x:Nat,(b:Int)-(i1:Int)=(x:Int):=⟨b-i1,by omega⟩;have SP:=ae (show b-i1=B1 by omega);have wB:IntKind.i64.wrap (B1:Int)=(B1:Int):=IntWalk.i64_in _ (by omega);go_wp2_with fail
 go_region
 go_upto_if 61 with fail
 go_cut [9] (fun s9 wc=>Hid (HU wc aF off d3)/\Hid (w.grownBy wc (some aF)))
 case first =>(
 by_cases hC:A1>=2;{
 have hC':(A1:Int)>=2:=by omega
 have NL:(2:Int)<=(A1:Int):=by omega
 try simp only [NL,decide_true]
 have E3':Hid (shiftDown ltInt m d2=d3):=by have:=aa E3;rw [aa eA0,if_pos hC] at this;exact this
 go_wp2_with fail;obtain ⟨Y2,VM⟩:=ax wr;subst VM
 go_loopw [9] (fun s9 wr=>∃ (j:Nat) (dj:Array Int),s9=.int .i64 j/\j<=m/\Hid (dj.size=N)/\Hid (HU wr aF off dj)/\Hid (shiftDown ltInt j dj=d3)/\Hid (w.grownBy wr (some aF))) (fun s9 _=>(intOf s9).toNat)
 case atStart=>exact ⟨m,d2,by first | rfl | go_num,by omega,HD2,by exact nT,E3',by exact ao (ao DZ)⟩
 case round =>(
 obtain ⟨j,dj,rfl,q1,P8,wG,Ff,hg⟩:=hrel;by_cases YU:0<j;{
 have KW:(1:Int)<=(j:Int):=by omega
 obtain ⟨jm,ejm⟩:∃ x:Nat,(j:Int)-1=(x:Int):=⟨j-1,by omega⟩;have Ar:j-1=jm:=by omega
 have wjm:IntKind.i64.wrap (jm:Int)=(jm:Int):=IntWalk.i64_in _ (by omega);have vu:=aa P8;obtain ⟨cj,fj⟩:=aa wG j (by omega);obtain ⟨cm,fm⟩:=aa wG jm (by omega);obtain ⟨y,ey⟩:∃ y,dj[j]! = y:=⟨_,rfl⟩;obtain ⟨z,ez⟩:∃ z,dj[jm]! = z:=⟨_,rfl⟩;have xU:=ae (wG.swap (i:=j) (j:=jm) (by omega) (by omega) ez.symm ey.symm);rw [ey] at cj;rw [ez] at cm;have i1':(j:Int)<(N:Int):=by omega
 have i2':(jm:Int)<(N:Int):=by omega
 have i3':(0:Int)<=(jm:Int):=by omega
 have i4':(0:Int)<=(j:Int):=by omega
 obtain ⟨B,eB⟩:=aZ (ltInt y z);have EB:=ae eB;have gh:Hid (B=false->dj=d3):=fun hB=>by rw [<-aa Ff,Gj (.inr (by rw [Ar,ey,ez,eB,hB]))]
 have wu:Hid (B=true->shiftDown ltInt jm (swp dj j jm)=d3):=fun hB=>by rw [<-aa Ff,XG YU (by rw [Ar,ey,ez,eB,hB]),Ar]
 have tJ:Hid ((swp dj j jm).size=N):=by show _=_;rw [size_swp];exact vu
 have HGs:=ae (aO (aO hg (aD _ aF (off+j) (.int .u64 z))) (aD _ aF (off+jm) (.int .u64 y)));have K0:=ae (ag cj cm);have FF:=ae (ag fj fm);go_wp2_with fail
 go_cut [78] (fun rv wc=>rv=.bool (!B)/\wc=wr.drew)
 case first =>(
 refine wp_region_noPanic ?_;refine wp_region_held_drew (S:=fun w'=>w'.cell? ⟨aF,off+j,none⟩=some (.int .u64 y)/\w'.cell? ⟨aF,off+jm,none⟩=some (.int .u64 z)) (by kernel_rfl) (by exact K0) (fun hS=>?_);refine fL 0 1 2 3 4 5 6 7 hS ?_;refine tn 8 hS ?_;refine ry [9] ?_;refine cn (fun KK hK=>?_) ?_;{refine bL (by rfl) 173 _ _ _ (by rfl) (.int .u64 y) (.int .u64 z) (by rfl) (by rfl) (fun _=>dL _ _) (dK y z _) ?_;rintro r w2 ⟨rfl,rfl⟩;refine ⟨_,rfl,?_⟩;rw [aa EB];refine bM hK (by exact K0) fun hS=>?_;refine tn 10 hS ?_;refine wpAnyH_done (by kernel_rfl) ?_ _;refine bc ?_;go_wp2_with fail;go_meet;exact ⟨rfl,rfl⟩};exact AllReadyH.nil)
 obtain ⟨rfl,rfl⟩:=hcut;cases B with
 | false=>
  have e:=aa gh rfl;subst e;go_wp2_with fail;go_meet;exact ⟨wG,ao hg⟩
 | true=>
  have e:=ae (aa wu rfl);obtain ⟨cj,cm⟩:=aa K0;obtain ⟨fj,fm⟩:=aa FF;go_wp2_with fail
  go_region
  go_wp2;go_roundw
  case rel =>(
 exact ⟨jm,swp dj j jm,by first | rfl | go_num,by omega,tJ,(aa xU),e,ao (ao HGs)⟩)
  case measure=>simp [intOf];omega}
 {
 have KW:¬ (1:Int)<=(j:Int):=by omega
 have e:dj=d3:=by rw [<-aa Ff,Gj (.inl (by omega))]
 subst e;go_wp2_with fail;go_meet;exact ⟨wG,hg⟩})}
 {
 have hC':¬ (A1:Int)>=2:=by omega
 have NL:¬ (2:Int)<=(A1:Int):=by omega
 try simp only [NL,decide_false]
 have e:d2=d3:=by have:=aa E3;rw [aa eA0,if_neg hC] at this;exact this
 subst e;go_wp2_with fail;go_meet;exact ⟨by exact nT,by exact ao (ao DZ)⟩})
 obtain ⟨vG,Qq⟩:=hcut;obtain ⟨Y3,eY3⟩:=ax wc;subst eY3
 go_upto_if 98 with fail
 by_cases hC:B1>=2;{
 have hC':(B1:Int)>=2:=by omega
 have NL:(2:Int)<=(B1:Int):=by omega
 try simp only [NL,decide_true]
 have E3':Hid (shiftUp ltInt b (i1+1) d3=d4):=by have:=aa E4;rw [aa SP,if_pos hC] at this;exact this
 go_wp2_with fail;obtain ⟨Y2,VM⟩:=ax wr;subst VM
 go_loopw [10] (fun Eo wr=>∃ (j:Nat) (dj:Array Int),Eo=.int .i64 j/\i1+1<=j/\j<=b/\Hid (dj.size=N)/\Hid (HU wr aF off dj)/\Hid (shiftUp ltInt b j dj=d4)/\Hid (w.grownBy wr (some aF))) (fun Eo _=>b-(intOf Eo).toNat)
 case atStart=>exact ⟨i1+1,d3,by first | rfl | go_num,by omega,by omega,wv,by exact vG,E3',by exact Qq⟩
 case round =>(
 obtain ⟨j,dj,rfl,q1,q2,P8,wG,Ff,hg⟩:=hrel;by_cases YU:j<b;{
 have KW:(j:Int)<(b:Int):=by omega
 obtain ⟨jm,ejm⟩:∃ x:Nat,(j:Int)-1=(x:Int):=⟨j-1,by omega⟩;have Ar:j-1=jm:=by omega
 have wjm:IntKind.i64.wrap (jm:Int)=(jm:Int):=IntWalk.i64_in _ (by omega);have vu:=aa P8;obtain ⟨cj,fj⟩:=aa wG j (by omega);obtain ⟨cm,fm⟩:=aa wG jm (by omega);obtain ⟨y,ey⟩:∃ y,dj[j]! = y:=⟨_,rfl⟩;obtain ⟨z,ez⟩:∃ z,dj[jm]! = z:=⟨_,rfl⟩;have xU:=ae (wG.swap (i:=j) (j:=jm) (by omega) (by omega) ez.symm ey.symm);rw [ey] at cj;rw [ez] at cm;have i1':(j:Int)<(N:Int):=by omega
 have i2':(jm:Int)<(N:Int):=by omega
 have i3':(0:Int)<=(jm:Int):=by omega
 have i4':(0:Int)<=(j:Int):=by omega
 obtain ⟨B,eB⟩:=aZ (ltInt y z);have EB:=ae eB;have gh:Hid (B=false->dj=d4):=fun hB=>by rw [<-aa Ff,Gg (.inr (by rw [Ar,ey,ez,eB,hB]))]
 have wu:Hid (B=true->shiftUp ltInt b (j+1) (swp dj j jm)=d4):=fun hB=>by rw [<-aa Ff,XC YU (by rw [Ar,ey,ez,eB,hB]),Ar]
 have tJ:Hid ((swp dj j jm).size=N):=by show _=_;rw [size_swp];exact vu
 have HGs:=ae (aO (aO hg (aD _ aF (off+j) (.int .u64 z))) (aD _ aF (off+jm) (.int .u64 y)));have K0:=ae (ag cj cm);have FF:=ae (ag fj fm);go_wp2_with fail
 go_cut [116] (fun rv wc=>rv=.bool (!B)/\wc=wr.drew)
 case first =>(
 refine wp_region_noPanic ?_;refine wp_region_held_drew (S:=fun w'=>w'.cell? ⟨aF,off+j,none⟩=some (.int .u64 y)/\w'.cell? ⟨aF,off+jm,none⟩=some (.int .u64 z)) (by kernel_rfl) (by exact K0) (fun hS=>?_);refine fL 0 1 2 3 4 5 6 7 hS ?_;refine tn 8 hS ?_;refine ry [9] ?_;refine cn (fun KK hK=>?_) ?_;{refine bL (by rfl) 173 _ _ _ (by rfl) (.int .u64 y) (.int .u64 z) (by rfl) (by rfl) (fun _=>dL _ _) (dK y z _) ?_;rintro r w2 ⟨rfl,rfl⟩;refine ⟨_,rfl,?_⟩;rw [aa EB];refine bM hK (by exact K0) fun hS=>?_;refine tn 10 hS ?_;refine wpAnyH_done (by kernel_rfl) ?_ _;refine bc ?_;go_wp2_with fail;go_meet;exact ⟨rfl,rfl⟩};exact AllReadyH.nil)
 obtain ⟨rfl,rfl⟩:=hcut;cases B with
 | false=>
  have e:=aa gh rfl;subst e;go_wp2;go_roundw
  case rel =>(
 exact ⟨i1,t,jz+1,_,rfl,by first | rfl | go_num,by omega,by omega,by omega,by omega,Oj,wG,HQ,ao hg⟩)
  case measure=>simp [intOf];omega
 | true=>
  have e:=ae (aa wu rfl);obtain ⟨cj,cm⟩:=aa K0;obtain ⟨fj,fm⟩:=aa FF;go_wp2_with fail
  go_region
  go_wp2;go_roundw
  case rel =>(
 exact ⟨j+1,swp dj j jm,by first | rfl | go_num,by omega,by omega,tJ,(aa xU),e,ao (ao HGs)⟩)
  case measure=>simp [intOf];omega}
 {
 have KW:¬ (j:Int)<(b:Int):=by omega
 have e:dj=d4:=by rw [<-aa Ff,Gg (.inl YU)]
 subst e;go_wp2;go_roundw
 case rel =>(
 exact ⟨i1,t,jz+1,_,rfl,by first | rfl | go_num,by omega,by omega,by omega,by omega,Oj,wG,HQ,hg⟩)
 case measure=>simp [intOf];omega})}
 {
 have hC':¬ (B1:Int)>=2:=by omega
 have NL:¬ (2:Int)<=(B1:Int):=by omega
 try simp only [NL,decide_false]
 have e:d3=d4:=by have:=aa E4;rw [aa SP,if_neg hC] at this;exact this
 subst e;go_wp2;go_roundw
 case rel =>(
 exact ⟨i1,t,jz+1,_,rfl,by first | rfl | go_num,by omega,by omega,by omega,by omega,Oj,by exact vG,HQ,by exact Qq⟩)
 case measure=>simp [intOf];omega}}}))
end Q
namespace Q
open Go.Maps
theorem gp:Keyed prog 22:=int_keyed underlying22
abbrev dG (x:Int):Value:=.int .u64 x
def kL {H:Type} (D0:DataW H) (left:Lit->Bool) (ss:List Int):Prop:=ss.Nodup/\∀ x,x∈ss↔(has D0 (.int .u64 x)=true/\left (.int .u64 x)=false)
theorem kL.start {H:Type} (D0:DataW H):kL D0 (has D0) []:=⟨List.nodup_nil,fun x=>by cases has D0 (.int .u64 x)<;>simp⟩
theorem kL.step {H:Type} {D0:DataW H} {ss:List Int} (h:kL D0 left ss) {x:Int} {y:DataW H} (hlk:left (.int .u64 x)=true) (dE:∀ zd,D0.atKey (.int .u64 x) zd=y):kL D0 (fun z=>left z&&!z.sameKey (.int .u64 x)) (ss++[x]):=by
 have Fc:has D0 (.int .u64 x)=true:=has_true_of_atKey dE;have pT:x∉ss:=fun hx=>by have:=((h.2 x).1 hx).2;rw [hlk] at this;cases this
 refine ⟨List.nodup_append.2 ⟨h.1,by simp,fun a ha b hb=>by simp at hb;subst hb;exact fun e=>pT (e▸ha)⟩,fun y=>?_⟩;by_cases hy:y=x;{subst hy;simp [Fc,Lit.sameKey]};{simp [h.2 y,hy,Lit.sameKey]}
def iu {H:Type} (D0:DataW H) (ss:List Int):Prop:=ss.Nodup/\(∀ x,x∈ss↔has D0 (.int .u64 x)=true)/\ss.length<=Maps.size D0
theorem kL.all {H:Type} {D0:DataW H} {ss:List Int} (h:kL D0 left ss) (hl:∀ kl,left kl=false) (hs:ss.length<=Maps.size D0):iu D0 ss:=⟨h.1,(fun x=>by rw [h.2 x,hl];simp),hs⟩
theorem zw {H:Type} (n:Nat) (hn:1<=n) (l Bm b nn:Nat) (D0:DataW H) {R:Value->Option (DataW H × List MemPlace)} (J Jx:List Int->World->Prop)
  (hY:∀ pre x W,J pre W->pre.length<Maps.size D0->YieldAt Fence.wide (n-1) prog l #[dG x] W fun e W'=>(e=.returned (.bool true)/\J (pre++[x]) W'/\KeepsWalks W W')\/(e=.returned (.bool false)/\Jx (pre++[x]) W'))
  (W:World) (hJ:AbidesFrom W.heap.size J) (hm:W.cell? ⟨Bm,0,none⟩=some (.map (some b))) (aS:W.ownsMap prog 22 R b nn D0) (h0:J [] W) :
  CallsIn Fence.wide n prog 150 #[.func (.yield l) #[] #[],.pointer (some ⟨Bm,0,none⟩)] W fun e W'=>(∃ v,e=.returned v)/\((∃ ss:List Int,iu D0 ss/\J ss W')\/(∃ pre,Jx pre W')):=by
 refine callsIn_of_wp func150 rfl trivial ?_ rfl;simp only [ntmps150,List.size_toArray,List.length_cons,List.length_nil,Nat.reduceAdd,Nat.reduceSub,Array.replicate_succ,Array.replicate_zero,List.push_toArray,List.append_toArray,List.nil_append,List.cons_append]
 gi_wp2_with (first
  | (gi_at_range;refine wpListIn_range_own _ rfl _ 111 rfl 22 _ gp underlying111 _ b nn _ rfl aS ?_;intro w0 oA tA Gw)
  | gi_in)
 go_frame
 gi_loopw [3] (fun _ wr=>∃ (left:Lit->Bool) (gu:Nat) (ss:List Int),wr.ranges prog 22 R b W.heap.size nn D0 left gu/\ss.length+gu<=Maps.size D0/\kL D0 left ss/\J ss wr)
  (fun _ wr=>wr.rangeLeft b W.heap.size)
 case atStart=>exact ⟨_,_,[],oA,by simp,kL.start D0,hJ [] W w0 none h0 tA (fun r e=>by cases e)⟩
 case round =>(
 obtain ⟨left,gu,ss,mF,Qb,hC,St⟩:=hrel
 gi_wp2_with (first
  | (gi_at_next;refine wpListIn_next_ranges _ rfl _ rfl 22 gp R dG id (fun key kl hk=>by obtain ⟨x,hx,_⟩:=Maps.keyOf_int_inv underlying22 hk;exact ⟨x,hx⟩) (fun v _ _=>⟨v,rfl⟩) b W.heap.size nn _ _ _ rfl mF ?_ ?_)
  | gi_in)
 {
 intro oF tY
 gi_wp2
 go_end0
 exact ⟨⟨_,rfl⟩,.inl ⟨ss,hC.all tY (by omega),St⟩⟩};{
 intro x c kl yd yp w2 Mo cD hlk hv dE vj aU dY xV wE;obtain ⟨x',ex,rfl,_⟩:=Maps.keyOf_int_inv underlying22 cD;obtain rfl:x=x':=by simpa [dG] using ex
 have ZE:J ss w2:=hJ ss wr w2 (some W.heap.size) St dY (fun r e=>by cases e;exact ⟨Nat.le_refl _,mF.iter_walk⟩);obtain ⟨fn,tmps,assign,body,hy,hR⟩:=hY ss x w2 ZE (by omega);clear xV
 gi_wp2
 refine hR.mono ?_;rintro e W3 (⟨rfl,ZD,UP⟩ | ⟨rfl,Lm⟩);{
 gi_wp2
 have q9:=vj.of_walks UP;go_roundw
 case rel=>exact ⟨_,Mo,ss++[x],q9,by simp;omega,hC.step hlk dE,ZD⟩
 case measure=>rw [q9.left_eq,mF.left_eq];exact aU}
 {
 gi_wp2
 refine bodyPost_ret (results_none rfl _ _ _) rfl ?_;exact ⟨⟨_,rfl⟩,.inr ⟨_,Lm⟩⟩}})
theorem EP (n:Nat) (mb:Option Nat) (w:World) :
  CallsIn Fence.wide n prog 129 #[.map mb] w fun e w'=>e=.returned (.func (.func 150) #[] #[.pointer (some ⟨w.heap.size,0,none⟩)])/\w'=w.alloc (.cells #[.map mb] 111):=by
 refine callsIn_of_wp func129 rfl trivial ?_ rfl;simp only [ntmps129,List.size_toArray,List.length_cons,List.length_nil,Nat.reduceAdd,Nat.reduceSub,Array.replicate_succ,Array.replicate_zero,List.push_toArray,List.append_toArray,List.nil_append,List.cons_append]
 gi_wp2
 go_ret;exact ⟨rfl,rfl⟩
theorem yN {H:Type} (n:Nat) (hn:1<=n) (Bm b nn:Nat) (D0:DataW H) {R:Value->Option (DataW H × List MemPlace)} (w:World) (ZK:Bm<w.heap.size)
  (hm:w.cell? ⟨Bm,0,none⟩=some (.map (some b))) (aS:w.ownsMap prog 22 R b nn D0) :
  SeqStopsK Fence.wide n prog 150 #[.pointer (some ⟨Bm,0,none⟩)] (fun x:Int=>#[dG x]) KeepsWalks (iu D0) (fun _=>True) (Maps.size D0) w:=fun l J Jx W hW hJ _ hY h0=>by
 have lu:W.ownsMap prog 22 R b nn D0:=by have x8:=aS.lt;obtain ⟨es,clock,hb,Ft,hs,hD⟩:=aS;exact ⟨es,clock,(hW.block b x8).trans hb,Ft,hs,hD⟩
 refine (zw n hn l Bm b nn D0 J Jx hY W hJ ((hW.cell (p:=⟨Bm,0,none⟩) ZK).trans hm) lu h0).mono ?_;rintro e W' ⟨he,⟨ss,hs,hj⟩ | ⟨pre,hj⟩⟩;{exact ⟨he,.inl ⟨ss,hs,hj⟩⟩};{exact ⟨he,.inr ⟨pre,trivial,hj⟩⟩}
theorem Ps {H:Type} (n:Nat) (hn:1<=n) (l Bm b nn:Nat) (D0:DataW H) {R:Value->Option (DataW H × List MemPlace)} (J Jx:List Int->World->Prop)
  (hY:∀ pre x W,J pre W->pre.length<Maps.size D0->YieldAt Fence.wide (n-1) prog l #[dG x] W fun e W'=>(e=.returned (.bool true)/\J (pre++[x]) W'/\KeepsWalks W W')\/(e=.returned (.bool false)/\Jx (pre++[x]) W'))
  (W:World) (hJ:AbidesFrom W.heap.size J) (hm:W.cell? ⟨Bm,0,none⟩=some (.map (some b))) (aS:W.ownsMap prog 22 R b nn D0) (h0:J [] W) :
  CallsIn Fence.wide n prog 165 #[.func (.yield l) #[] #[],.pointer (some ⟨Bm,0,none⟩)] W fun e W'=>(∃ v,e=.returned v)/\((∃ ss:List Int,iu D0 ss/\J ss W')\/(∃ pre,Jx pre W')):=by
 refine callsIn_of_wp func165 rfl trivial ?_ rfl;simp only [ntmps165,List.size_toArray,List.length_cons,List.length_nil,Nat.reduceAdd,Nat.reduceSub,Array.replicate_succ,Array.replicate_zero,List.push_toArray,List.append_toArray,List.nil_append,List.cons_append]
 gi_wp2_with (first
  | (gi_at_range;refine wpListIn_range_own _ rfl _ 108 rfl 22 _ gp underlying108 _ b nn _ rfl aS ?_;intro w0 oA tA Gw)
  | gi_in)
 go_frame
 gi_loopw [3] (fun _ wr=>∃ (left:Lit->Bool) (gu:Nat) (ss:List Int),wr.ranges prog 22 R b W.heap.size nn D0 left gu/\ss.length+gu<=Maps.size D0/\kL D0 left ss/\J ss wr)
  (fun _ wr=>wr.rangeLeft b W.heap.size)
 case atStart=>exact ⟨_,_,[],oA,by simp,kL.start D0,hJ [] W w0 none h0 tA (fun r e=>by cases e)⟩
 case round =>(
 obtain ⟨left,gu,ss,mF,Qb,hC,St⟩:=hrel
 gi_wp2_with (first
  | (gi_at_next;refine wpListIn_next_ranges _ rfl _ rfl 22 gp R dG id (fun key kl hk=>by obtain ⟨x,hx,_⟩:=Maps.keyOf_int_inv underlying22 hk;exact ⟨x,hx⟩) (fun v _ _=>⟨v,rfl⟩) b W.heap.size nn _ _ _ rfl mF ?_ ?_)
  | gi_in)
 {
 intro oF tY
 gi_wp2
 go_end0
 exact ⟨⟨_,rfl⟩,.inl ⟨ss,hC.all tY (by omega),St⟩⟩};{
 intro x c kl yd yp w2 Mo cD hlk hv dE vj aU dY xV wE;obtain ⟨x',ex,rfl,_⟩:=Maps.keyOf_int_inv underlying22 cD;obtain rfl:x=x':=by simpa [dG] using ex
 have ZE:J ss w2:=hJ ss wr w2 (some W.heap.size) St dY (fun r e=>by cases e;exact ⟨Nat.le_refl _,mF.iter_walk⟩);obtain ⟨fn,tmps,assign,body,hy,hR⟩:=hY ss x w2 ZE (by omega);clear xV
 gi_wp2
 refine hR.mono ?_;rintro e W3 (⟨rfl,ZD,UP⟩ | ⟨rfl,Lm⟩);{
 gi_wp2
 have q9:=vj.of_walks UP;go_roundw
 case rel=>exact ⟨_,Mo,ss++[x],q9,by simp;omega,hC.step hlk dE,ZD⟩
 case measure=>rw [q9.left_eq,mF.left_eq];exact aU}
 {
 gi_wp2
 refine bodyPost_ret (results_none rfl _ _ _) rfl ?_;exact ⟨⟨_,rfl⟩,.inr ⟨_,Lm⟩⟩}})
theorem Ul (n:Nat) (mb:Option Nat) (w:World) :
  CallsIn Fence.wide n prog 155 #[.map mb] w fun e w'=>e=.returned (.func (.func 165) #[] #[.pointer (some ⟨w.heap.size,0,none⟩)])/\w'=w.alloc (.cells #[.map mb] 108):=by
 refine callsIn_of_wp func155 rfl trivial ?_ rfl;simp only [ntmps155,List.size_toArray,List.length_cons,List.length_nil,Nat.reduceAdd,Nat.reduceSub,Array.replicate_succ,Array.replicate_zero,List.push_toArray,List.append_toArray,List.nil_append,List.cons_append]
 gi_wp2
 go_ret;exact ⟨rfl,rfl⟩
theorem Oz {H:Type} (n:Nat) (hn:1<=n) (Bm b nn:Nat) (D0:DataW H) {R:Value->Option (DataW H × List MemPlace)} (w:World) (ZK:Bm<w.heap.size)
  (hm:w.cell? ⟨Bm,0,none⟩=some (.map (some b))) (aS:w.ownsMap prog 22 R b nn D0) :
  SeqStopsK Fence.wide n prog 165 #[.pointer (some ⟨Bm,0,none⟩)] (fun x:Int=>#[dG x]) KeepsWalks (iu D0) (fun _=>True) (Maps.size D0) w:=fun l J Jx W hW hJ _ hY h0=>by
 have lu:W.ownsMap prog 22 R b nn D0:=by have x8:=aS.lt;obtain ⟨es,clock,hb,Ft,hs,hD⟩:=aS;exact ⟨es,clock,(hW.block b x8).trans hb,Ft,hs,hD⟩
 refine (Ps n hn l Bm b nn D0 J Jx hY W hJ ((hW.cell (p:=⟨Bm,0,none⟩) ZK).trans hm) lu h0).mono ?_;rintro e W' ⟨he,⟨ss,hs,hj⟩ | ⟨pre,hj⟩⟩;{exact ⟨he,.inl ⟨ss,hs,hj⟩⟩};{exact ⟨he,.inr ⟨pre,trivial,hj⟩⟩}
end Q
namespace Q
open Go.Maps
theorem Hid.pO (h:p):Hid p:=h
theorem mU (h:Hid p):p:=h
theorem ik (W:World) (l:Nat) (o:Obj):W.grownBy (W.putObj l o) (some l):=⟨rfl,rfl,rfl,by simp,fun k _ hk=>World.putObj_heap_other (fun e=>hk (by rw [e]))⟩
theorem nK (W:World) (b:Nat) (v:Value):W.grownBy (W.setCell ⟨b,0,none⟩ v) (some b):=⟨rfl,rfl,rfl,by simp,fun k _ hk=>Below.heap_setCell _ _ _ k (fun e=>hk (by rw [e]))⟩
theorem kW {size:Nat} (h:W.ownsRow base e size v k xs) (hj:W.heap[j]?=some o) (ho:o.isCells=false):v.ownBlock=none\/v.ownBlock≠some j:=by
  rcases h.2 with ⟨rfl,_⟩ | ⟨g,cap,cur,rfl,_,PR,_⟩;{exact .inl rfl};{
 refine .inr fun e'=>?_;have:g=j:=by simpa [Value.ownBlock] using e'
 subst this;rw [PR] at hj;cases hj;cases ho}
theorem qO {row:Option Nat} {size:Nat} (h:W.ownsRow base e size v k xs) (hg:W.grownBy W' row)
    (hr:∀ r,row=some r->∃ o:Obj,W.heap[r]?=some o/\o.isCells=false):W'.ownsRow base e size v k xs:=by
  refine h.kept hg ?_;cases hv:v.ownBlock with
  | none=>exact .inl rfl
  | some j=>
    refine .inr fun e'=>?_;obtain ⟨o,ho,hc⟩:=hr j e'.symm;rcases kW h ho hc with e1 | e1;{rw [hv] at e1;cases e1};{exact e1 hv}
theorem pI {size:Nat} (h:W.ownsRow base e size v k xs) (hg:W.grownBy W' v.ownBlock):KeepsOthers W W':=
  ⟨hg.size,fun j o hj ho=>(hg.block j (Array.getElem?_eq_some_iff.1 hj).1 (fun e1=>by rcases kW h hj ho with e2 | e2;{rw [e2] at e1;cases e1};{exact e2 e1.symm})).trans hj⟩
structure Got (w0:World) (Bs:Nat) (pre:List Int) (v:Value) (W:World):Prop where
  cell:W.cell? ⟨Bs,0,none⟩=some v
  fr:W.frozen? ⟨Bs,0,none⟩=false
  row:W.ownsRow (Bs+1) 22 1 v pre.length (pre.map dG)
  nil:v=.slice none 0 0↔pre=[]
theorem ma (n:Nat) (hn:2<=n) (g:Nat) (lb:Array Value) (eg:∀ args w,(callFunc g args).run prog w=.ok (.enter g args) w)
    (S Sp:List Int->Prop) (N:Nat) (hN:N<=1048576) (w:World) (nH:SeqStopsK Fence.wide (n-1) prog g lb (fun x:Int=>#[dG x]) KeepsWalks S Sp N w) :
    CallsIn Fence.wide n prog 159 #[.slice none 0 0,.func (.func g) #[] lb] w fun e w'=>∃ (v:Value) (ss:List Int),e=.returned v/\S ss/\w'.ownsRow (w.heap.size+1) 22 1 v ss.length (ss.map dG)/\(v=.slice none 0 0↔ss=[])/\Below w.heap.size w w':=by
  have h1:1<=n:=by omega
  obtain ⟨i0,hi,jG,gi,gP⟩:=info_parts (P:=prog) (e:=22) (z:=.int .u64 0) (size:=1) (bytes:=8) (by kernel_rfl);refine callsIn_of_wp_marks func159 rfl trivial ?_ rfl;simp only [ntmps159,List.size_toArray,List.length_cons,List.length_nil,Nat.reduceAdd,Nat.reduceSub,Array.replicate_succ,Array.replicate_zero,List.push_toArray,List.append_toArray,List.nil_append,List.cons_append]
  gi_wp2
  obtain ⟨W0,dT⟩:=ax (w.alloc (.cells #[.slice none 0 0] 86));have z0:W0.heap.size=w.heap.size+1:=by rw [dT];simp
  have k0:W0.cell? ⟨w.heap.size,0,none⟩=some (.slice none 0 0):=by rw [dT];simp
  have f0:W0.frozen? ⟨w.heap.size,0,none⟩=false:=by rw [dT];simp
  have ZL:Below w.heap.size w W0:=by rw [dT];exact ar.alloc ay _
  rw [<-dT];clear dT;refine wpIn_rangeFunc_ownF (F:=Fence.wide) rfl h1 (gf:=g) (lb:=lb) rfl trivial eg nH (fun h k=>h.trans k) (fun W l o o' _ hl _ hw=>KeepsWalks.putObj _ hl hw) ZL (fun _=>rfl)
    (fun pre W=>(∃ v,Got w w.heap.size pre v W)/\Below w.heap.size w W)
    (fun _ _ _=>False)
    (OwnFrom.and (Own.from (fun s A B row hs hg hr=>by obtain ⟨v,hv⟩:=hs;exact ⟨v,cell_kept hv.cell hg hr,(frozen_kept hv.cell hg hr).trans hv.fr,qO hv.row hg hr,hv.nil⟩) _) (ownFrom_below ay (by omega)))
    (fun _ _ _ _ _ hs _ _=>hs)
    ⟨⟨_,k0,f0,⟨rfl,.inl ⟨rfl,rfl⟩⟩,by simp⟩,ZL⟩
    (fun x=>{ tmps:=#[.slice none 0 0,.func (.func g) #[] lb,.pointer (some ⟨w.heap.size,0,none⟩),undef,.slice none 0 0,dG x,.func (.func g) #[] lb,dG x,undef,undef,undef,undef,undef],defers:=[] }) ?assign ?body ?done ?stop
  case assign =>(
 intro l x W K hK
 gi_wp2_with (rw [Oper.semAt_eq _ _ _ (fun c h=>by cases h)];go_simp;try go_bits)
 exact hK)
  case body =>(
 rintro L pre x W ⟨⟨v,hv⟩,iS⟩ jy;have hc:=hv.cell;have hf:=hv.fr;have dN:=hv.row;have aU:w.heap.size<W.heap.size:=World.block_lt_of_cell? W _ hc;have Cy:=dN.alloc (.cells #[dG x] 22)
 gi_wp2_with (first
   | (gi_at_builtin;refine wpListIn_append_own _ rfl _ _ 86 rfl (w.heap.size+1) 22 i0 (.int .u64 0) 1 8 underlying86 hi jG gi gP rfl (by decide) _ _ _ rfl Cy ⟨W.heap.size,0,none⟩ 1 1 [dG x] rfl rfl (cell_one_new _ _ _) (by simp [Value.oneCell',dG]) (by unfold maxLen;omega) (by omega) (by simp;omega) ?_;intro v' w3 lu pf KG
      have zR:(W.alloc (.cells #[dG x] 22)).grownBy w3 v.ownBlock:=pf;have UF:some w.heap.size≠v.ownBlock:=fun e=>by have:=(dN.lt _ e.symm).1;omega
      have Qe:(W.alloc (.cells #[dG x] 22)).cell? ⟨w.heap.size,0,none⟩=some v:=(World.cell?_of_block (a:=⟨w.heap.size,0,none⟩) (Below.heap_alloc _ _ _ aU)).trans hc;have NC:(W.alloc (.cells #[dG x] 22)).frozen? ⟨w.heap.size,0,none⟩=false:=(World.frozen?_of_block (a:=⟨w.heap.size,0,none⟩) (Below.heap_alloc _ _ _ aU)).trans hf;have cX:w3.heap[w.heap.size]?=(W.alloc (.cells #[dG x] 22)).heap[w.heap.size]?:=zR.block _ (by simp;omega) UF;have Ag:w3.cell? ⟨w.heap.size,0,none⟩=some v:=(World.cell?_of_block (a:=⟨w.heap.size,0,none⟩) cX).trans Qe;have qB:w3.frozen? ⟨w.heap.size,0,none⟩=false:=(World.frozen?_of_block (a:=⟨w.heap.size,0,none⟩) cX).trans NC;obtain ⟨g',vS,rfl⟩:∃ g' vS,v'=.slice (some ⟨g',0,none⟩) (pre.length+1) vS:=by rcases lu.2 with ⟨_,h0⟩ | ⟨g',vS,_,h',_⟩;{exact absurd h0 (by omega)};{exact ⟨g',vS,h'⟩}
      have HO3:=Hid.pO ((KeepsOthers.alloc W (.cells #[dG x] 22)).trans (pI Cy zR));have qw:=Hid.pO (((iS.alloc iS.size (.cells #[dG x] 22)).grown zR (by have:=iS.size;simp;omega) (fun k e=>by have:=(dN.lt k e).1;omega)));have Of:=Hid.pO lu;clear lu KG pf zR Qe NC cX
      go_frame)
   | (rw [Oper.semAt_eq _ _ _ (fun c h=>by cases h)];go_simp;try go_bits))
 refine ⟨(mU HO3).trans (KeepsOthers.setCell _ _ _),((mU HO3).trans (KeepsOthers.setCell _ _ _)).walks,⟨_,World.cell?_setCell_same _ _ _ Ag,by rw [World.frozen?_setCell];exact qB,?_,by simp⟩,(mU qw).setCell (p:=⟨w.heap.size,0,none⟩) ay _⟩;have hr:=(mU Of).kept (nK w3 w.heap.size (.slice (some ⟨g',0,none⟩) (pre.length+1) vS)) (.inr (fun e=>by have:=((mU Of).lt _ e).1;omega));simpa using hr)
  case done =>(
 rintro D ys W hD hS ⟨⟨v,hv⟩,iS⟩ hK;have hc:=hv.cell
 gi_wp2
 refine ⟨by simp,.inl ⟨_,_,rfl,run_takeDeferred hK,?_⟩⟩;exact ⟨_,results_tmp rfl _ _ _,v,ys,rfl,hS,qO hv.row (ik _ _ _) (fun r e=>by cases e;exact ⟨_,hK,rfl⟩),hv.nil,iS.grown (ik _ _ _) iS.size (fun k e=>by cases e;omega)⟩)
  case stop =>(
 rintro D c pre W _ _ h _;exact h.elim)
end Q
namespace T
open Go.Sort
abbrev HT (w:World) (aF off:Nat) (d:Array (List UInt8)):Prop:=Holds (fun x:List UInt8=>Value.string ⟨x.toArray⟩) w aF off d
theorem uE (cap:Nat) (w:World):Calls prog 153 #[.slice none 0 cap] w fun e w'=>e=.returned (.tuple #[])/\w'=w:=Tryz.slices_Sort_string_none none cap w
theorem sc (aF off cap:Nat) (l:List (List UInt8)) (fH:l.length<=1048576) (w:World) (h:HT w aF off l.toArray) (iB:aF<w.heap.size) :
  Calls prog 153 #[.slice (some ⟨aF,off,none⟩) l.length cap] w fun e w'=>
   e=.returned (.tuple #[])/\HT w' aF off (l.mergeSort (fun x y=>decide (x<=y))).toArray/\w.grownBy w' (some aF):=by
 refine (Tryz.slices_Sort_string aF off cap l w h iB (by omega)).mono ?_;rintro e w' ⟨rfl,n,os,rfl⟩;have hz:(putRow encStr (Sort.ahead w n) aF off (l.mergeSort fun x y=>decide (x<=y)).toArray).heap.size=w.heap.size:=by simp [putRow,mapBlock,Sort.ahead]
 have hb:∀ i,i<w.heap.size->(grow (putRow encStr (Sort.ahead w n) aF off (l.mergeSort fun x y=>decide (x<=y)).toArray) os).heap[i]?=(putRow encStr (Sort.ahead w n) aF off (l.mergeSort fun x y=>decide (x<=y)).toArray).heap[i]?:=fun i hi=>Array.getElem?_append_left (by rw [hz];exact hi);have hH:=holds_putRow encStr (Sort.ahead w n) aF off l.toArray (l.mergeSort fun x y=>decide (x<=y)).toArray h (by simp);refine ⟨rfl,fun j hj=>⟨(World.cell?_of_block (a:=⟨aF,off+j,none⟩) (hb aF iB)).trans (hH j hj).1,(World.frozen?_of_block (a:=⟨aF,off+j,none⟩) (hb aF iB)).trans (hH j hj).2⟩,rfl,rfl,rfl,by simp [grow,hz],fun i hi bm=>(hb i hi).trans ?_⟩;have:aF≠i:=fun e=>bm (by rw [e]);simp [putRow,mapBlock,Sort.ahead,Array.getElem?_modify,this]
theorem l8:∀ x y:List UInt8,Op.bytesLess x y=decide (x<y)
 | [],[]=>by simp [Op.bytesLess]
 | [],b::y=>by simp [Op.bytesLess]
 | a::x,[]=>by simp [Op.bytesLess]
 | a::x,b::y=>by have ih:=l8 x y;simp only [Op.bytesLess,ih,List.cons_lt_cons_iff];by_cases h1:a<b;{simp [h1]};{by_cases h2:a=b;{subst h2;simp};{simp [h1,h2]}}
end T
namespace T
open Go.Maps
theorem gp:Keyed prog 9:=string_keyed underlying9
abbrev dG (x:List UInt8):Value:=.string ⟨x.toArray⟩
def kL {H:Type} (D0:DataW H) (left:Lit->Bool) (ss:List (List UInt8)):Prop:=ss.Nodup/\∀ x,x∈ss↔(has D0 (.string x)=true/\left (.string x)=false)
theorem kL.start {H:Type} (D0:DataW H):kL D0 (has D0) []:=⟨List.nodup_nil,fun x=>by cases has D0 (.string x)<;>simp⟩
theorem kL.step {H:Type} {D0:DataW H} (h:kL D0 left ss) {x:List UInt8} {y:DataW H} (hlk:left (.string x)=true) (dE:∀ zd,D0.atKey (.string x) zd=y):kL D0 (fun z=>left z&&!z.sameKey (.string x)) (ss++[x]):=by
 have Fc:has D0 (.string x)=true:=has_true_of_atKey dE;have pT:x∉ss:=fun hx=>by have:=((h.2 x).1 hx).2;rw [hlk] at this;cases this
 refine ⟨List.nodup_append.2 ⟨h.1,by simp,fun a ha b hb=>by simp at hb;subst hb;exact fun e=>pT (e▸ha)⟩,fun y=>?_⟩;by_cases hy:y=x;{subst hy;simp [Fc,Lit.sameKey]};{simp [h.2 y,hy,Lit.sameKey]}
def iu {H:Type} (D0:DataW H) (ss:List (List UInt8)):Prop:=ss.Nodup/\(∀ x,x∈ss↔has D0 (.string x)=true)/\ss.length<=Maps.size D0
theorem kL.all {H:Type} {D0:DataW H} (h:kL D0 left ss) (hl:∀ kl,left kl=false) (hs:ss.length<=Maps.size D0):iu D0 ss:=⟨h.1,(fun x=>by rw [h.2 x,hl];simp),hs⟩
theorem zw {H:Type} (n:Nat) (hn:1<=n) (l Bm b nn:Nat) (D0:DataW H) {R:Value->Option (DataW H × List MemPlace)} (J Jx:List (List UInt8)->World->Prop)
  (hY:∀ pre x W,J pre W->pre.length<Maps.size D0->YieldAt Fence.wide (n-1) prog l #[dG x] W fun e W'=>(e=.returned (.bool true)/\J (pre++[x]) W'/\KeepsWalks W W')\/(e=.returned (.bool false)/\Jx (pre++[x]) W'))
  (W:World) (hJ:AbidesFrom W.heap.size J) (hm:W.cell? ⟨Bm,0,none⟩=some (.map (some b))) (aS:W.ownsMap prog 9 R b nn D0) (h0:J [] W) :
  CallsIn Fence.wide n prog 154 #[.func (.yield l) #[] #[],.pointer (some ⟨Bm,0,none⟩)] W fun e W'=>(∃ v,e=.returned v)/\((∃ ss:List (List UInt8),iu D0 ss/\J ss W')\/(∃ pre,Jx pre W')):=by
 refine callsIn_of_wp func154 rfl trivial ?_ rfl;simp only [ntmps154,List.size_toArray,List.length_cons,List.length_nil,Nat.reduceAdd,Nat.reduceSub,Array.replicate_succ,Array.replicate_zero,List.push_toArray,List.append_toArray,List.nil_append,List.cons_append]
 gi_wp2_with (first
  | (gi_at_range;refine wpListIn_range_own _ rfl _ 112 rfl 9 _ gp underlying112 _ b nn _ rfl aS ?_;intro w0 oA tA Gw)
  | gi_in)
 go_frame
 gi_loopw [3] (fun _ wr=>∃ (left:Lit->Bool) (gu:Nat) (ss:List (List UInt8)),wr.ranges prog 9 R b W.heap.size nn D0 left gu/\ss.length+gu<=Maps.size D0/\kL D0 left ss/\J ss wr)
  (fun _ wr=>wr.rangeLeft b W.heap.size)
 case atStart=>exact ⟨_,_,[],oA,by simp,kL.start D0,hJ [] W w0 none h0 tA (fun r e=>by cases e)⟩
 case round =>(
 obtain ⟨left,gu,ss,mF,Qb,hC,St⟩:=hrel
 gi_wp2_with (first
  | (gi_at_next;refine wpListIn_next_ranges _ rfl _ rfl 9 gp R dG id (fun key kl hk=>by obtain ⟨x,hx,_⟩:=Maps.keyOf_str underlying9 hk;exact ⟨x,hx⟩) (fun v _ _=>⟨v,rfl⟩) b W.heap.size nn _ _ _ rfl mF ?_ ?_)
  | gi_in)
 {
 intro oF tY
 gi_wp2
 go_end0
 exact ⟨⟨_,rfl⟩,.inl ⟨ss,hC.all tY (by omega),St⟩⟩};{
 intro x c kl yd yp w2 Mo cD hlk hv dE vj aU dY xV wE;obtain ⟨x',ex,rfl,_⟩:=Maps.keyOf_str underlying9 cD;obtain rfl:x=x':=by simpa [dG] using ex
 have ZE:J ss w2:=hJ ss wr w2 (some W.heap.size) St dY (fun r e=>by cases e;exact ⟨Nat.le_refl _,mF.iter_walk⟩);obtain ⟨fn,tmps,assign,body,hy,hR⟩:=hY ss x w2 ZE (by omega);clear xV
 gi_wp2
 refine hR.mono ?_;rintro e W3 (⟨rfl,ZD,UP⟩ | ⟨rfl,Lm⟩);{
 gi_wp2
 have q9:=vj.of_walks UP;go_roundw
 case rel=>exact ⟨_,Mo,ss++[x],q9,by simp;omega,hC.step hlk dE,ZD⟩
 case measure=>rw [q9.left_eq,mF.left_eq];exact aU}
 {
 gi_wp2
 refine bodyPost_ret (results_none rfl _ _ _) rfl ?_;exact ⟨⟨_,rfl⟩,.inr ⟨_,Lm⟩⟩}})
theorem EP (n:Nat) (mb:Option Nat) (w:World) :
  CallsIn Fence.wide n prog 132 #[.map mb] w fun e w'=>e=.returned (.func (.func 154) #[] #[.pointer (some ⟨w.heap.size,0,none⟩)])/\w'=w.alloc (.cells #[.map mb] 112):=by
 refine callsIn_of_wp func132 rfl trivial ?_ rfl;simp only [ntmps132,List.size_toArray,List.length_cons,List.length_nil,Nat.reduceAdd,Nat.reduceSub,Array.replicate_succ,Array.replicate_zero,List.push_toArray,List.append_toArray,List.nil_append,List.cons_append]
 gi_wp2
 go_ret;exact ⟨rfl,rfl⟩
theorem yN {H:Type} (n:Nat) (hn:1<=n) (Bm b nn:Nat) (D0:DataW H) {R:Value->Option (DataW H × List MemPlace)} (w:World) (ZK:Bm<w.heap.size)
  (hm:w.cell? ⟨Bm,0,none⟩=some (.map (some b))) (aS:w.ownsMap prog 9 R b nn D0) :
  SeqStopsK Fence.wide n prog 154 #[.pointer (some ⟨Bm,0,none⟩)] (fun x:List UInt8=>#[dG x]) KeepsWalks (iu D0) (fun _=>True) (Maps.size D0) w:=fun l J Jx W hW hJ _ hY h0=>by
 have lu:W.ownsMap prog 9 R b nn D0:=by have x8:=aS.lt;obtain ⟨es,clock,hb,Ft,hs,hD⟩:=aS;exact ⟨es,clock,(hW.block b x8).trans hb,Ft,hs,hD⟩
 refine (zw n hn l Bm b nn D0 J Jx hY W hJ ((hW.cell (p:=⟨Bm,0,none⟩) ZK).trans hm) lu h0).mono ?_;rintro e W' ⟨he,⟨ss,hs,hj⟩ | ⟨pre,hj⟩⟩;{exact ⟨he,.inl ⟨ss,hs,hj⟩⟩};{exact ⟨he,.inr ⟨pre,trivial,hj⟩⟩}
end T
namespace T
open Go.Maps
theorem Hid.pO (h:p):Hid p:=h
theorem mU (h:Hid p):p:=h
theorem ik (W:World) (l:Nat) (o:Obj):W.grownBy (W.putObj l o) (some l):=⟨rfl,rfl,rfl,by simp,fun k _ hk=>World.putObj_heap_other (fun e=>hk (by rw [e]))⟩
theorem nK (W:World) (b:Nat) (v:Value):W.grownBy (W.setCell ⟨b,0,none⟩ v) (some b):=⟨rfl,rfl,rfl,by simp,fun k _ hk=>Below.heap_setCell _ _ _ k (fun e=>hk (by rw [e]))⟩
theorem kW {size:Nat} (h:W.ownsRow base e size v k xs) (hj:W.heap[j]?=some o) (ho:o.isCells=false):v.ownBlock=none\/v.ownBlock≠some j:=by
  rcases h.2 with ⟨rfl,_⟩ | ⟨g,cap,cur,rfl,_,PR,_⟩;{exact .inl rfl};{
 refine .inr fun e'=>?_;have:g=j:=by simpa [Value.ownBlock] using e'
 subst this;rw [PR] at hj;cases hj;cases ho}
theorem qO {row:Option Nat} {size:Nat} (h:W.ownsRow base e size v k xs) (hg:W.grownBy W' row)
    (hr:∀ r,row=some r->∃ o:Obj,W.heap[r]?=some o/\o.isCells=false):W'.ownsRow base e size v k xs:=by
  refine h.kept hg ?_;cases hv:v.ownBlock with
  | none=>exact .inl rfl
  | some j=>
    refine .inr fun e'=>?_;obtain ⟨o,ho,hc⟩:=hr j e'.symm;rcases kW h ho hc with e1 | e1;{rw [hv] at e1;cases e1};{exact e1 hv}
theorem pI {size:Nat} (h:W.ownsRow base e size v k xs) (hg:W.grownBy W' v.ownBlock):KeepsOthers W W':=
  ⟨hg.size,fun j o hj ho=>(hg.block j (Array.getElem?_eq_some_iff.1 hj).1 (fun e1=>by rcases kW h hj ho with e2 | e2;{rw [e2] at e1;cases e1};{exact e2 e1.symm})).trans hj⟩
structure Got (w0:World) (Bs:Nat) (pre:List (List UInt8)) (v:Value) (W:World):Prop where
  cell:W.cell? ⟨Bs,0,none⟩=some v
  fr:W.frozen? ⟨Bs,0,none⟩=false
  row:W.ownsRow (Bs+1) 9 1 v pre.length (pre.map dG)
  nil:v=.slice none 0 0↔pre=[]
theorem ma (n:Nat) (hn:2<=n) (g:Nat) (lb:Array Value) (eg:∀ args w,(callFunc g args).run prog w=.ok (.enter g args) w)
    (S Sp:List (List UInt8)->Prop) (N:Nat) (hN:N<=1048576) (w:World) (nH:SeqStopsK Fence.wide (n-1) prog g lb (fun x:List UInt8=>#[dG x]) KeepsWalks S Sp N w) :
    CallsIn Fence.wide n prog 163 #[.slice none 0 0,.func (.func g) #[] lb] w fun e w'=>∃ (v:Value) (ss:List (List UInt8)),e=.returned v/\S ss/\w'.ownsRow (w.heap.size+1) 9 1 v ss.length (ss.map dG)/\(v=.slice none 0 0↔ss=[])/\Below w.heap.size w w':=by
  have h1:1<=n:=by omega
  obtain ⟨i0,hi,jG,gi,gP⟩:=info_parts (P:=prog) (e:=9) (z:=.string ⟨#[]⟩) (size:=1) (bytes:=16) (by kernel_rfl);refine callsIn_of_wp_marks func163 rfl trivial ?_ rfl;simp only [ntmps163,List.size_toArray,List.length_cons,List.length_nil,Nat.reduceAdd,Nat.reduceSub,Array.replicate_succ,Array.replicate_zero,List.push_toArray,List.append_toArray,List.nil_append,List.cons_append]
  gi_wp2
  obtain ⟨W0,dT⟩:=ax (w.alloc (.cells #[.slice none 0 0] 140));have z0:W0.heap.size=w.heap.size+1:=by rw [dT];simp
  have k0:W0.cell? ⟨w.heap.size,0,none⟩=some (.slice none 0 0):=by rw [dT];simp
  have f0:W0.frozen? ⟨w.heap.size,0,none⟩=false:=by rw [dT];simp
  have ZL:Below w.heap.size w W0:=by rw [dT];exact ar.alloc ay _
  rw [<-dT];clear dT;refine wpIn_rangeFunc_ownF (F:=Fence.wide) rfl h1 (gf:=g) (lb:=lb) rfl trivial eg nH (fun h k=>h.trans k) (fun W l o o' _ hl _ hw=>KeepsWalks.putObj _ hl hw) ZL (fun _=>rfl)
    (fun pre W=>(∃ v,Got w w.heap.size pre v W)/\Below w.heap.size w W)
    (fun _ _ _=>False)
    (OwnFrom.and (Own.from (fun s A B row hs hg hr=>by obtain ⟨v,hv⟩:=hs;exact ⟨v,cell_kept hv.cell hg hr,(frozen_kept hv.cell hg hr).trans hv.fr,qO hv.row hg hr,hv.nil⟩) _) (ownFrom_below ay (by omega)))
    (fun _ _ _ _ _ hs _ _=>hs)
    ⟨⟨_,k0,f0,⟨rfl,.inl ⟨rfl,rfl⟩⟩,by simp⟩,ZL⟩
    (fun x=>{ tmps:=#[.slice none 0 0,.func (.func g) #[] lb,.pointer (some ⟨w.heap.size,0,none⟩),undef,.slice none 0 0,dG x,.func (.func g) #[] lb,dG x,undef,undef,undef,undef,undef],defers:=[] }) ?assign ?body ?done ?stop
  case assign =>(
 intro l x W K hK
 gi_wp2_with (rw [Oper.semAt_eq _ _ _ (fun c h=>by cases h)];go_simp;try go_bits)
 exact hK)
  case body =>(
 rintro L pre x W ⟨⟨v,hv⟩,iS⟩ jy;have hc:=hv.cell;have hf:=hv.fr;have dN:=hv.row;have aU:w.heap.size<W.heap.size:=World.block_lt_of_cell? W _ hc;have Cy:=dN.alloc (.cells #[dG x] 9)
 gi_wp2_with (first
   | (gi_at_builtin;refine wpListIn_append_own _ rfl _ _ 140 rfl (w.heap.size+1) 9 i0 (.string ⟨#[]⟩) 1 16 underlying140 hi jG gi gP rfl (by decide) _ _ _ rfl Cy ⟨W.heap.size,0,none⟩ 1 1 [dG x] rfl rfl (cell_one_new _ _ _) (by simp [Value.oneCell',dG]) (by unfold maxLen;omega) (by omega) (by simp;omega) ?_;intro v' w3 lu pf KG
      have zR:(W.alloc (.cells #[dG x] 9)).grownBy w3 v.ownBlock:=pf;have UF:some w.heap.size≠v.ownBlock:=fun e=>by have:=(dN.lt _ e.symm).1;omega
      have Qe:(W.alloc (.cells #[dG x] 9)).cell? ⟨w.heap.size,0,none⟩=some v:=(World.cell?_of_block (a:=⟨w.heap.size,0,none⟩) (Below.heap_alloc _ _ _ aU)).trans hc;have NC:(W.alloc (.cells #[dG x] 9)).frozen? ⟨w.heap.size,0,none⟩=false:=(World.frozen?_of_block (a:=⟨w.heap.size,0,none⟩) (Below.heap_alloc _ _ _ aU)).trans hf;have cX:w3.heap[w.heap.size]?=(W.alloc (.cells #[dG x] 9)).heap[w.heap.size]?:=zR.block _ (by simp;omega) UF;have Ag:w3.cell? ⟨w.heap.size,0,none⟩=some v:=(World.cell?_of_block (a:=⟨w.heap.size,0,none⟩) cX).trans Qe;have qB:w3.frozen? ⟨w.heap.size,0,none⟩=false:=(World.frozen?_of_block (a:=⟨w.heap.size,0,none⟩) cX).trans NC;obtain ⟨g',vS,rfl⟩:∃ g' vS,v'=.slice (some ⟨g',0,none⟩) (pre.length+1) vS:=by rcases lu.2 with ⟨_,h0⟩ | ⟨g',vS,_,h',_⟩;{exact absurd h0 (by omega)};{exact ⟨g',vS,h'⟩}
      have HO3:=Hid.pO ((KeepsOthers.alloc W (.cells #[dG x] 9)).trans (pI Cy zR));have qw:=Hid.pO (((iS.alloc iS.size (.cells #[dG x] 9)).grown zR (by have:=iS.size;simp;omega) (fun k e=>by have:=(dN.lt k e).1;omega)));have Of:=Hid.pO lu;clear lu KG pf zR Qe NC cX
      go_frame)
   | (rw [Oper.semAt_eq _ _ _ (fun c h=>by cases h)];go_simp;try go_bits))
 refine ⟨(mU HO3).trans (KeepsOthers.setCell _ _ _),((mU HO3).trans (KeepsOthers.setCell _ _ _)).walks,⟨_,World.cell?_setCell_same _ _ _ Ag,by rw [World.frozen?_setCell];exact qB,?_,by simp⟩,(mU qw).setCell (p:=⟨w.heap.size,0,none⟩) ay _⟩;have hr:=(mU Of).kept (nK w3 w.heap.size (.slice (some ⟨g',0,none⟩) (pre.length+1) vS)) (.inr (fun e=>by have:=((mU Of).lt _ e).1;omega));simpa using hr)
  case done =>(
 rintro D ys W hD hS ⟨⟨v,hv⟩,iS⟩ hK;have hc:=hv.cell
 gi_wp2
 refine ⟨by simp,.inl ⟨_,_,rfl,run_takeDeferred hK,?_⟩⟩;exact ⟨_,results_tmp rfl _ _ _,v,ys,rfl,hS,qO hv.row (ik _ _ _) (fun r e=>by cases e;exact ⟨_,hK,rfl⟩),hv.nil,iS.grown (ik _ _ _) iS.size (fun k e=>by cases e;omega)⟩)
  case stop =>(
 rintro D c pre W _ _ h _;exact h.elim)
end T
namespace T
open Go.Maps Go.Sort
theorem qi (n:Nat) (hn:3<=n) (g:Nat) (lb:Array Value) (eg:∀ args w,(callFunc g args).run prog w=.ok (.enter g args) w)
  (S Sp:List (List UInt8)->Prop) (N:Nat) (hN:N<=1048576) (w:World) (nH:SeqStopsK Fence.wide (n-1-1) prog g lb (fun x:List UInt8=>#[dG x]) KeepsWalks S Sp N w) :
  CallsIn Fence.wide n prog 152 #[.func (.func g) #[] lb] w fun e w'=>∃ (v:Value) (ss:List (List UInt8)),e=.returned v/\S ss/\w'.ownsRow (w.heap.size+1) 9 1 v ss.length (ss.map dG)/\(v=.slice none 0 0↔ss=[])/\Below w.heap.size w w':=by
 have h1:1<=n:=by omega
 have WT:Fence.wide.fn 163:=trivial;refine callsIn_of_wp func152 rfl trivial ?_ rfl;simp only [ntmps152,List.size_toArray,List.length_cons,List.length_nil,Nat.reduceAdd,Nat.reduceSub,Array.replicate_succ,Array.replicate_zero,List.push_toArray,List.append_toArray,List.nil_append,List.cons_append]
 gi_wp2_with (gi_at_call 163;refine (ma (n-1) (by omega) g lb eg S Sp N hN _ nH).mono ?_;rintro e w' ⟨v,ss,rfl,hS,dN,vr,hb⟩)
 go_ret;exact ⟨v,ss,rfl,hS,dN,vr,hb⟩
theorem EY {w:World} {g:Nat} {cur:Array Value} (hb:w.heap[g]?=some (.cells cur e (0,0))) (ht:cur.toList.take ss.length=ss.map dG):HT w g 0 ss.toArray:=by
 intro j hj;have US:j<ss.length:=by simpa using hj
 refine ⟨?_,by simp [World.frozen?,hb]⟩;have h1:(cur.toList.take ss.length)[j]?=(ss.map dG)[j]?:=by rw [ht]
 rw [List.getElem?_take_of_lt US] at h1;simp only [World.cell?,hb,Nat.zero_add];simp only [Option.isSome_none,Bool.false_eq_true,if_false];rw [<-Array.getElem?_toList,h1];simp [US,dG]
def Rf (B:Nat) (w:World) (v:Value) (ss:List (List UInt8)):Prop:=(v=.slice none 0 0/\ss=[])\/∃ g cap,v=.slice (some ⟨g,0,none⟩) ss.length cap/\B<=g/\g<w.heap.size/\HT w g 0 ss.toArray
structure Rr {H:Type} (D0:DataW H) (ss:List (List UInt8)):Prop where
 lt:ss.Pairwise (·<·)
 mem:∀ x,x∈ss↔has D0 (.string x)=true
 size:ss.length<=Maps.size D0
theorem AG {H:Type} {D0:DataW H} (h:iu D0 ss):Rr D0 (ss.mergeSort (fun x y=>decide (x<=y))):=by
 have hp:=List.mergeSort_perm ss (fun x y=>decide (x<=y));refine ⟨?_,fun x=>(hp.mem_iff).trans (h.2.1 x),by rw [hp.length_eq];exact h.2.2⟩;have h1:=List.pairwise_mergeSort (le:=fun x y:List UInt8=>decide (x<=y)) (fun a b c h1 h2=>by simp only [decide_eq_true_eq] at *;exact List.le_trans h1 h2) (fun a b=>by simp only [Bool.or_eq_true,decide_eq_true_eq];exact List.le_total a b) ss;have h2:(ss.mergeSort (fun x y=>decide (x<=y))).Pairwise (·≠·):=hp.nodup_iff.2 h.1;refine (h1.and h2).imp (fun {a b} ⟨x,y⟩=>?_);simp only [decide_eq_true_eq] at x;exact Decidable.byContradiction fun hh=>y (List.le_antisymm x hh)
theorem nZ (n:Nat) (hn:4<=n) (g:Nat) (lb:Array Value) (eg:∀ args w,(callFunc g args).run prog w=.ok (.enter g args) w)
  (S Sp:List (List UInt8)->Prop) (N:Nat) (hN:N<=1048576) (hS:∀ ss,S ss->ss.length<=1048576) (w:World) (nH:SeqStopsK Fence.wide (n-1-1-1) prog g lb (fun x:List UInt8=>#[dG x]) KeepsWalks S Sp N w) :
  CallsIn Fence.wide n prog 131 #[.func (.func g) #[] lb] w fun e w'=>∃ (v:Value) (ss:List (List UInt8)),e=.returned v/\S ss/\Rf w.heap.size w' v (ss.mergeSort (fun x y=>decide (x<=y)))/\Below w.heap.size w w':=by
 have h1:1<=n:=by omega
 have WU:Fence.wide.fn 152:=trivial;have WT:Fence.wide.fn 153:=trivial;refine callsIn_of_wp func131 rfl trivial ?_ rfl;simp only [ntmps131,List.size_toArray,List.length_cons,List.length_nil,Nat.reduceAdd,Nat.reduceSub,Array.replicate_succ,Array.replicate_zero,List.push_toArray,List.append_toArray,List.nil_append,List.cons_append]
 gi_wp2_with (gi_at_call 152;refine (qi (n-1) (by omega) g lb eg S Sp N hN _ nH).mono ?_;rintro e w' ⟨v,ss,rfl,Va,dN,vr,hb⟩)
 rcases dN.2 with ⟨rfl,_⟩ | ⟨gb,cap,cur,rfl,vx,PR,gQ,Je,Ys,Yr⟩;{
 have e0:ss=[]:=vr.1 rfl;subst e0
 gi_wp2_with (gi_at_call 153;refine (callsIn_wide.2 (uE 0 _)).mono ?_;rintro e w2 ⟨rfl,rfl⟩)
 go_ret;exact ⟨_,[],rfl,Va,.inl ⟨rfl,by simp⟩,hb⟩};{
 have aU:gb<w'.heap.size:=(Array.getElem?_eq_some_iff.1 PR).1;have hH:=EY PR (by simpa using Yr)
 gi_wp2_with (gi_at_call 153;refine (callsIn_wide.2 (sc gb 0 cap ss (hS ss Va) _ hH aU)).mono ?_;rintro e w2 ⟨rfl,py,dY⟩)
 go_ret;refine ⟨_,ss,rfl,Va,.inr ⟨gb,cap,by rw [List.length_mergeSort];rfl,by omega,Nat.lt_of_lt_of_le aU dY.size,py⟩,?_⟩;exact hb.grown dY hb.size (fun k e=>by cases e;omega)}
theorem gR {H:Type} (b nn:Nat) (D0:DataW H) {R:Value->Option (DataW H × List MemPlace)} (w:World) (aS:w.ownsMap prog 9 R b nn D0) (fH:Maps.size D0<=1048576) :
  Calls prog 82 #[.map (some b)] w fun e w'=>∃ (v:Value) (ss:List (List UInt8)),e=.returned v/\Rr D0 ss/\Rf w.heap.size w' v ss/\Below w.heap.size w w':=by
 refine (callsIn_wide (n:=6)).1 ?_;have hfK:Fence.wide.fn 132:=trivial;have WT:Fence.wide.fn 131:=trivial;have x8:=aS.lt;have mw:(w.alloc (.cells #[.map (some b)] 112)).ownsMap prog 9 R b nn D0:=by obtain ⟨es,clock,hb,Ft,hs,hD⟩:=aS;exact ⟨es,clock,(Below.heap_alloc _ _ b x8).trans hb,Ft,hs,hD⟩
 have nH:=yN 2 (by omega) w.heap.size b nn D0 (w.alloc (.cells #[.map (some b)] 112)) (by simp) (by simp) mw;refine callsIn_of_wp func82 rfl trivial ?_ rfl;simp only [ntmps82,List.size_toArray,List.length_cons,List.length_nil,Nat.reduceAdd,Nat.reduceSub,Array.replicate_succ,Array.replicate_zero,List.push_toArray,List.append_toArray,List.nil_append,List.cons_append]
 gi_wp2_with (first
  | (gi_at_call 132;refine (EP _ _ _).mono ?_;rintro e w' ⟨rfl,rfl⟩)
  | (gi_at_call 131;refine (nZ 5 (by omega) _ _ (fun args w=>(by kernel_rfl:(callFunc 154 args).run prog w=.ok (.enter 154 args) w)) _ _ _ fH (fun ss h=>Nat.le_trans h.2.2 fH) _ nH).mono ?_;rintro e w' ⟨v,ss,rfl,hS,Cz,hb⟩))
 go_ret;refine ⟨v,_,rfl,AG hS,?_,((Below.refl _ w).alloc ay _).trans (hb.mono (by simp))⟩;rcases Cz with h | ⟨g,cap,h1,h2,h3,h4⟩;{exact .inl h};{exact .inr ⟨g,cap,h1,by simp at h2;omega,h3,h4⟩}
end T
structure SD where
 e:Int
 g:Int
 x:Int
 t:Int
 ss:List aR
 ns:List aA
def mh (ids:List Int) (id:Int):List Int:=ids.filter fun x=>!(x==id)
def mi:List Int->Int->List Int
 | [],id=>[id]
 | x::r,id=>if id<=x then id::mh (x::r) id else x::mi r id
def iY (q:List Ev) (ev:Ev):List Ev:=if q.length<7 then q++[ev] else if q.length=7 then q++[(4,[])] else q
def lx (ss:List aR) (id:Int) (ev:Ev):List aR:=ss.map fun s=>if s.1=id then (s.1,s.2.1,iY s.2.2 ev) else s
def jD (ss:List aR) (ids:List Int) (ev:Ev):List aR:=ids.foldl (fun ss id=>lx ss id ev) ss
def da (D:SD) (k:Nat) (kind:Int):SD:=match D.ns[k]? with
 | none=>D
 | some nd=>{ D with ss:=jD D.ss nd.watchers (kind,nd.path),ns:=D.ns.set k { nd with watchers:=[] } }
def DQ (D:SD) (k:Nat):SD:={ D with ns:=D.ns.eraseIdx k }
def df (D:SD) (k:Nat) (id:Int):SD:=match D.ns[k]? with
 | none=>D
 | some nd=>if nd.holders.contains id then (if mh nd.holders id=[] then da { D with ns:=D.ns.set k { nd with holders:=[],mode:=0,aC:=0,gen:=0 } } k 3 else { D with ns:=D.ns.set k { nd with holders:=mh nd.holders id } }) else D
end Go.Proofs.YtmfjiolopcbcmaaGreatDoor
