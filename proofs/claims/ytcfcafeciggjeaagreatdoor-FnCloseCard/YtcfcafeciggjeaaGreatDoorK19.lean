import Derived.Test.YtcfcafeciggjeaaGreatDoorK10
import Derived.Test.YtcfcafeciggjeaaGreatDoorQTs
import Derived.Lib.BitFns
import Derived.Lib.Walk
import Derived.Lib.Small
import Derived.Lib.Strings
import Derived.Lib.Slices
import Derived.Laws.Bits64
import Derived.Laws.Bits64b
import Derived.RangeFuncGives
import Derived.RangeFuncSeq
import Derived.Sort.MapsRangeIn
import Derived.OwnWalkIn
import Derived.TacticsInMore
import Derived.RegionIn
import Derived.LoopNIn
import Derived.LoopIn
import Derived.Maps.AppendAt
import Derived.RangeFuncKeeps
import Derived.RangeFuncFrom
import Derived.RangeFuncNested
import Derived.RangeFuncBound
import Derived.RangeFuncCalls
import Derived.RangeFuncLeaves
import Derived.Sort.KeysCollected
namespace Go.Proofs.YtcfcafeciggjeaaGreatDoor
set_option maxHeartbeats 6400000
set_option linter.unusedVariables false
set_option linter.unusedSimpArgs false
set_option maxRecDepth 100000
open Go.ChangeShapes Go.WideShapes Go.ChangeAt Go.RowKit Go.Proofs.Tryz
variable {W W' w:World} {a aB base g j k off:Nat} {d:Array Int} {e:TypeId} {left:Lit->Bool} {o:Obj} {p:Prop} {ss:List (List UInt8)} {v:Value} {xs:List Value}
theorem sH (g:Nat) (vs:List Value) (ls:List (List Int)) (lm:List Int) (n k:Nat) (ek:Hid (k=ls.length)) (e:Hid (lm=cat ls)) (en:Hid (lm.length=n)) (w:World) (h:qQ w g vs ls) (hl:n<=4194304) (hk:k<=10) :
  Calls prog 61 #[.slice (some ⟨g,0,none⟩) k k] w fun e w'=>∃ p' c',e=.returned (.slice p' n c')/\Own w.heap.size w' (.slice p' n c') lm/\Below w.heap.size w w':=by
 have e1:=aa ek;have e2:=aa e;have e3:=aa en;subst e1 e3 e2;go_enter func61,ntmps61;go_wp2_with fail;refine (BK g vs ls _ h hl (by omega)).mono ?_;rintro e w1 ⟨p1,c1,rfl,o1,bf⟩;go_wp2;go_ret;exact ⟨p1,c1,rfl,o1,bf⟩
def tx (l:List Int):List Int:=vi l.length++l
namespace Q
open Go.Sort
theorem mW (lt:Int->Int->Bool) (a:Nat):∀ (j:Nat) (d:Array Int),(insInner lt a j d).size=d.size
 | 0,d=>rfl
 | j+1,d=>by rw [insInner];split;{rw [mW lt a j,size_swp]};{rfl}
theorem insInner_stop (h:¬ a<j\/ltInt d[j]! d[j-1]! = false):insInner ltInt a j d=d:=by
 cases j with
 | zero=>rfl
 | succ j=>
  rw [insInner,if_neg];rcases h with h | h;{simp;omega};{simp only [Nat.add_sub_cancel] at h;simp [h]}
theorem insInner_go (h:a<j) (hl:ltInt d[j]! d[j-1]! = true):insInner ltInt a j d=insInner ltInt a (j-1) (swp d j (j-1)):=by
 cases j with
 | zero=>omega
 | succ j=>
  simp only [Nat.add_sub_cancel] at hl ⊢;rw [insInner,if_pos (by simp [hl];omega)]
theorem Ko (aB off cap N a b:Nat) (d:Array Int) (hN:Hid (d.size=N)) (w:World) (h:HU w aB off d) (Bo:a<=b) (hb:b<=N) (fI:N<=1048576) :
  Calls prog 185 #[.slice (some ⟨aB,off,none⟩) N cap,.int .i64 a,.int .i64 b] w fun e w'=>e=.returned (.tuple #[])/\HU w' aB off (insertionSort ltInt d a b)/\w.grownBy w' (some aB):=by
 obtain ⟨D,eD⟩:=aN (insertionSort ltInt d a b);rw [eD];have ED:Hid (insOuter ltInt a b (a+1) d=D):=eD;have H0:=ae h;go_enter func185,ntmps185;go_wp2_with fail
 go_loopw [6] (fun s6 wr=>∃ (i:Nat) (dk:Array Int),s6=.int .i64 i/\i<=1048577/\a<i/\Hid (dk.size=N)/\Hid (HU wr aB off dk)/\Hid (insOuter ltInt a b i dk=D)/\Hid (w.grownBy wr (some aB))) (fun s6 _=>b-(intOf s6).toNat)
 case atStart=>exact ⟨a+1,d,by first | rfl | go_num,by omega,by omega,hN,H0,ED,je _ _⟩
 case round =>(
 obtain ⟨i,dk,rfl,q1,q2,pj,sS,heq,hg⟩:=hrel;by_cases br:i<b;{
 have bt:(i:Int)<(b:Int):=by omega
 have hq:=aa heq;rw [insOuter,if_pos br] at hq;obtain ⟨E,eE⟩:=aN (insInner ltInt a i dk);rw [eE] at hq;have HQ:=ae hq;have EE:=ae eE;have hEs:Hid (E.size=N):=by show _=_;rw [<-eE,mW];exact aa pj
 go_wp2_with fail;obtain ⟨Y,eY⟩:=ar wr;subst eY;have HG0:=hg
 go_loopw [7] (fun s7 wr=>∃ (j:Nat) (dj:Array Int),s7=.int .i64 j/\j<=i/\a<=j/\Hid (dj.size=N)/\Hid (HU wr aB off dj)/\Hid (insInner ltInt a j dj=E)/\Hid (w.grownBy wr (some aB))) (fun s7 _=>(intOf s7).toNat)
 case atStart=>exact ⟨i,dk,rfl,Nat.le_refl _,by omega,pj,sS,EE,HG0⟩
 case round =>(
 obtain ⟨j,dj,rfl,q3,q4,KR,tS,Bh,hg⟩:=hrel;by_cases hja:a<j;{
 have aa1:(a:Int)<(j:Int):=by omega
 obtain ⟨m,em⟩:∃ m:Nat,(j:Int)-1=(m:Int):=⟨j-1,by omega⟩;have Ni:j-1=m:=by omega
 have yE:=aa KR;obtain ⟨cj,fj⟩:=aa tS j (by omega);obtain ⟨cm,fm⟩:=aa tS m (by omega);obtain ⟨y,ey⟩:∃ y,dj[j]! = y:=⟨_,rfl⟩;obtain ⟨z,ez⟩:∃ z,dj[m]! = z:=⟨_,rfl⟩;have CF:=ae (tS.swap (i:=j) (j:=m) (by omega) (by omega) ez.symm ey.symm);rw [ey] at cj;rw [ez] at cm;have i1:(j:Int)<(N:Int):=by omega
 have i2:(m:Int)<(N:Int):=by omega
 have i3:(0:Int)<=(m:Int):=by omega
 have wm:IntKind.i64.wrap (m:Int)=(m:Int):=IntWalk.i64_in _ (by omega);obtain ⟨B,eB⟩:=aN (ltInt y z);have EB:=ae eB;have lY:Hid (B=false->dj=E):=fun hB=>by rw [<-aa Bh,insInner_stop (.inr (by rw [Ni,ey,ez,eB,hB]))]
 have IY:Hid (B=true->insInner ltInt a m (swp dj j m)=E):=fun hB=>by rw [<-aa Bh,insInner_go hja (by rw [Ni,ey,ez,eB,hB]),Ni]
 have rN:Hid ((swp dj j m).size=N):=by show _=_;rw [size_swp];exact yE
 have HG:=ae (aG (aG hg (az wr aB (off+j) (.int .u64 z))) (az _ aB (off+m) (.int .u64 y)));have K0:=ae (ag cj cm);have FF:=ae (ag fj fm);go_wp2_with fail
 go_cut [30] (fun rv wc=>rv=.bool B/\wc=wr.drew)
 case first =>(
 refine wp_region_noPanic ?_;refine wp_region_held_drew (S:=fun w'=>w'.cell? ⟨aB,off+j,none⟩=some (.int .u64 y)/\w'.cell? ⟨aB,off+m,none⟩=some (.int .u64 z)) (by kernel_rfl) (by exact K0) (fun hS=>?_);refine gj 0 1 2 3 4 5 6 7 hS ?_;refine gp 8 9 10 11 hS ?_;refine tn 12 hS ?_;refine ry [13] ?_;refine cn (fun KK hK=>?_) ?_;{refine bR (by rfl) 191 _ _ _ (by rfl) (.int .u64 y) (.int .u64 z) (by rfl) (by rfl) (fun _=>dz _ _) (dy y z _) ?_;rintro r w2 ⟨rfl,rfl⟩;refine ⟨_,rfl,?_⟩;rw [aa EB];refine bm hK (by exact K0) fun hS=>?_;refine tn 14 hS ?_;refine wpAnyH_done (by kernel_rfl) ?_ _;refine aX ?_;go_wp2_with fail;go_meet;exact ⟨rfl,rfl⟩};exact AllReadyH.nil)
 obtain ⟨rfl,rfl⟩:=hcut;cases B with
 | false=>
  have e:=aa lY rfl;subst e;go_wp2;go_roundw
  case rel=>exact ⟨i+1,dj,by go_num,by omega,by omega,KR,tS.drew,HQ,ao hg⟩
  case measure=>simp [intOf];omega
 | true=>
  have e:=ae (aa IY rfl);obtain ⟨cj,cm⟩:=aa K0;obtain ⟨fj,fm⟩:=aa FF;go_wp2_with fail
  go_region
  go_wp2;go_roundw
  case rel=>exact ⟨m,swp dj j m,by first | rfl | go_num,by omega,by omega,rN,(aa CF),e,ao (ao HG)⟩
  case measure=>simp [intOf];omega}
 {
 have aa1:¬ (a:Int)<(j:Int):=by omega
 have e:dj=E:=by rw [<-aa Bh,insInner_stop (.inl hja)]
 subst e;go_wp2_with fail
 go_cut [30] (fun rv wc=>rv=.bool false/\wc=wr.drew)
 case first =>(
 refine wp_region_noPanic ?_;refine wp_region_held_drew (S:=fun w'=>True) (by kernel_rfl) trivial (fun hS=>?_);refine gp 0 1 2 3 hS ?_;refine sn 4 hS ?_;refine sn 5 hS ?_;refine sn 6 hS ?_;refine sn 7 hS ?_;refine sn 8 hS ?_;refine sn 9 hS ?_;refine sn 10 hS ?_;refine sn 11 hS ?_;refine sn 12 hS ?_;refine sn 13 hS ?_;refine tn 14 hS ?_;refine wpAnyH_done (by kernel_rfl) ?_ _;refine aX ?_;go_wp2_with fail;go_meet;exact ⟨rfl,rfl⟩)
 obtain ⟨rfl,rfl⟩:=hcut;go_wp2;go_roundw
 case rel=>exact ⟨i+1,dj,by go_num,by omega,by omega,KR,tS.drew,HQ,ao hg⟩
 case measure=>simp [intOf];omega})}
 {
 have bt:¬ (i:Int)<(b:Int):=by omega
 have hq:=aa heq;rw [insOuter,if_neg br] at hq;subst hq;go_wp2
 go_end0
 exact ⟨rfl,sS,hg⟩})
end Q
namespace Q
open Go.Sort
theorem Ga {hi first r:Nat} (h:¬ 2*r+1<hi):siftDown ltInt hi first r d=d:=by
 rw [siftDown,dif_pos (by omega)]
def Fa (hi first r:Nat) (d:Array Int):Nat:=if 2*r+1+1<hi&&ltInt d[first+(2*r+1)]! d[first+(2*r+1)+1]! then 2*r+2 else 2*r+1
theorem qe {hi first r:Nat} (h:2*r+1<hi) (hl:ltInt d[first+r]! d[first+Fa hi first r d]! = false):siftDown ltInt hi first r d=d:=by
 rw [siftDown,dif_neg (by omega)];unfold Fa at hl;split;{next hc=>rw [if_pos hc] at hl;rw [if_pos (by simp [hl])]}
 {next hc=>rw [if_neg hc] at hl;rw [if_pos (by simp [hl])]}
theorem vJ {hi first r:Nat} (h:2*r+1<hi) (hl:ltInt d[first+r]! d[first+Fa hi first r d]! = true):siftDown ltInt hi first r d=siftDown ltInt hi first (Fa hi first r d) (swp d (first+r) (first+Fa hi first r d)):=by
 rw [siftDown,dif_neg (by omega)];unfold Fa at hl ⊢;split;{
 next hc=>
 rw [if_pos hc] at hl;rw [if_neg (by simp [hl])];have:2*r+2<hi:=by simp at hc;omega
 rw [dif_pos this]};{
 next hc=>
 rw [if_neg hc] at hl;rw [if_neg (by simp [hl])]}
theorem xH (aB off cap N lo hi first:Nat) (d:Array Int) (hN:Hid (d.size=N)) (w:World) (h:HU w aB off d) (hh:first+hi<=N) (uv:lo<=N) (fI:N<=1048576) :
  Calls prog 208 #[.slice (some ⟨aB,off,none⟩) N cap,.int .i64 lo,.int .i64 hi,.int .i64 first] w fun e w'=>e=.returned (.tuple #[])/\HU w' aB off (siftDown ltInt hi first lo d)/\w.grownBy w' (some aB):=by
 obtain ⟨D,eD⟩:=aN (siftDown ltInt hi first lo d);rw [eD];have ED:=ae eD;have H0:=ae h;go_enter func208,ntmps208;go_wp2_with fail
 go_loopw [8] (fun s8 wr=>∃ (r:Nat) (dk:Array Int),s8=.int .i64 r/\r<=1048576/\Hid (dk.size=N)/\Hid (HU wr aB off dk)/\Hid (siftDown ltInt hi first r dk=D)/\Hid (w.grownBy wr (some aB))) (fun s8 _=>hi-(intOf s8).toNat)
 case atStart=>exact ⟨lo,d,rfl,by omega,hN,H0,ED,je _ _⟩
 case round =>(
 obtain ⟨r,dk,rfl,q1,pj,sS,heq,hg⟩:=hrel;have w1:IntKind.i64.wrap (2*(r:Int))=2*(r:Int):=IntWalk.i64_in _ (by omega);obtain ⟨c,ec⟩:∃ c:Nat,2*(r:Int)+1=(c:Int):=⟨2*r+1,by omega⟩;have XX:2*r+1=c:=by omega
 have wc:IntKind.i64.wrap (c:Int)=(c:Int):=IntWalk.i64_in _ (by omega);by_cases br:c<hi;{
 have bt:¬ (hi:Int)<=(c:Int):=by omega
 have wG:=aa pj;obtain ⟨c2,ec2⟩:∃ c2:Nat,(c:Int)+1=(c2:Int):=⟨c+1,by omega⟩;have wc2:IntKind.i64.wrap (c2:Int)=(c2:Int):=IntWalk.i64_in _ (by omega);obtain ⟨fr,efr⟩:∃ x:Nat,(first:Int)+(r:Int)=(x:Int):=⟨first+r,by omega⟩;have wfr:IntKind.i64.wrap (fr:Int)=(fr:Int):=IntWalk.i64_in _ (by omega);obtain ⟨fc,efc⟩:∃ x:Nat,(first:Int)+(c:Int)=(x:Int):=⟨first+c,by omega⟩;have wfc:IntKind.i64.wrap (fc:Int)=(fc:Int):=IntWalk.i64_in _ (by omega);obtain ⟨fd,efd⟩:∃ x:Nat,(fc:Int)+1=(x:Int):=⟨fc+1,by omega⟩;have wfd:IntKind.i64.wrap (fd:Int)=(fd:Int):=IntWalk.i64_in _ (by omega);have be9:(first:Int)+(c2:Int)=(fd:Int):=by omega
 have n1:first+r=fr:=by omega
 have n2:first+c=fc:=by omega
 have n3:fc+1=fd:=by omega
 have n4:2*r+2=c2:=by omega
 obtain ⟨cr,Jm⟩:=aa sS fr (by omega);obtain ⟨cc,fcc⟩:=aa sS fc (by omega);obtain ⟨y,ey⟩:∃ y,dk[fr]! = y:=⟨_,rfl⟩;obtain ⟨z,ez⟩:∃ z,dk[fc]! = z:=⟨_,rfl⟩;rw [ey] at cr;rw [ez] at cc;have j1:(fr:Int)<(N:Int):=by omega
 have j2:(fc:Int)<(N:Int):=by omega
 have K1:=ae (ag cr cc);have F1:=ae (ag Jm fcc);by_cases jN:c2<hi;{
 have ac7:(c2:Int)<(hi:Int):=by omega
 obtain ⟨cd,Jn⟩:=aa sS fd (by omega);obtain ⟨x,ex⟩:∃ x,dk[fd]! = x:=⟨_,rfl⟩;rw [ex] at cd;have j3:(fd:Int)<(N:Int):=by omega
 obtain ⟨B,eB⟩:=aN (ltInt z x);have EB:=ae eB;have Be:Fa hi first r dk=if B then c2 else c:=by unfold Fa;rw [XX,n4,n2,n3,ez,ex,eB];simp only [show decide (c+1<hi)=true by (rw [decide_eq_true_iff];omega),Bool.true_and]
 have K2:=ae (ag K1.2 cd);have Wp:=ae Be;have HX:=ae (ag ex (ag cd Jn));have mj:=ae (ag XX (ag n1 (ag n2 (ag n3 n4))));have HE:=ae (ag ey ez);go_wp2_with fail
 go_cut [36] (fun rv wc=>rv=.bool B/\wc=wr.drew)
 case first =>(
 refine wp_region_noPanic ?_;refine wp_region_held_drew (S:=fun w'=>w'.cell? ⟨aB,off+fc,none⟩=some (.int .u64 z)/\w'.cell? ⟨aB,off+fd,none⟩=some (.int .u64 x)) (by kernel_rfl) (by exact K2) (fun hS=>?_);refine gj 0 1 2 3 4 5 6 7 hS ?_;refine gj 8 9 10 11 12 13 14 15 hS ?_;refine dQ 16 17 hS ?_;refine ry [18] ?_;refine cn (fun KK hK=>?_) ?_;{refine bR (by rfl) 191 _ _ _ (by rfl) (.int .u64 z) (.int .u64 x) (by rfl) (by rfl) (fun _=>dz _ _) (dy z x _) ?_;rintro r' w2 ⟨rfl,rfl⟩;refine ⟨_,rfl,?_⟩;rw [aa EB];refine bm hK (by exact K2) fun hS=>?_;refine tn 19 hS ?_;refine wpAnyH_done (by kernel_rfl) ?_ _;refine aX ?_;go_wp2_with fail;go_meet;exact ⟨rfl,rfl⟩};exact AllReadyH.nil)
 obtain ⟨rfl,rfl⟩:=hcut;cases B with
 | true=>
  have IW:Hid (Fa hi first r dk=c2):=by show _=_;rw [aa Wp];rfl
  obtain ⟨ex,cd,Jn⟩:=aa HX;obtain ⟨cr,-⟩:=aa K1;obtain ⟨Jm,-⟩:=aa F1;obtain ⟨B2,Ac⟩:=aN (ltInt y x);have WA:=ae Ac;have CK:first+c2=fd:=by have:=aa mj;omega
  have j6:first+r=fr:=mj.2.1
  have lY:Hid (B2=false->dk=D):=fun hB=>by rw [<-aa heq,qe (by have:=mj.1;omega) (by rw [aa IW,CK,j6,HE.1,ex,Ac,hB])]
  have IY:Hid (B2=true->siftDown ltInt hi first c2 (swp dk fr fd)=D):=fun hB=>by have:=aa heq;rw [vJ (by have:=mj.1;omega) (by rw [aa IW,CK,j6,HE.1,ex,Ac,hB]),aa IW,CK,j6] at this;exact this
  have wG:=aa pj;have CF:=ae (sS.swap (i:=fr) (j:=fd) (by omega) (by omega) ex.symm HE.1.symm);have rN:Hid ((swp dk fr fd).size=N):=by show _=_;rw [size_swp];exact wG
  have HG:=ae (aG (aG hg (az wr aB (off+fr) (.int .u64 x))) (az _ aB (off+fd) (.int .u64 y)));have K3:=ae (ag cr cd);have F3:=ae (ag Jm Jn);have hrc:r<c2:=by have:=aa mj;omega
  go_wp2_with fail
  go_cut [52] (fun rv wc=>rv=.bool (!B2)/\wc=wr.drew.drew)
  case first =>(
 refine wp_region_noPanic ?_;refine wp_region_held_drew (S:=fun w'=>w'.cell? ⟨aB,off+fr,none⟩=some (.int .u64 y)/\w'.cell? ⟨aB,off+fd,none⟩=some (.int .u64 x)) (by kernel_rfl) (by exact K3) (fun hS=>?_);refine gj 0 1 2 3 4 5 6 7 hS ?_;refine gp 8 9 10 11 hS ?_;refine ry [12] ?_;refine cn (fun KK hK=>?_) ?_;{refine bR (by rfl) 191 _ _ _ (by rfl) (.int .u64 y) (.int .u64 x) (by rfl) (by rfl) (fun _=>dz _ _) (dy y x _) ?_;rintro r' w2 ⟨rfl,rfl⟩;refine ⟨_,rfl,?_⟩;rw [aa WA];refine bm hK (by exact K3) fun hS=>?_;refine tn 13 hS ?_;refine wpAnyH_done (by kernel_rfl) ?_ _;refine aX ?_;go_wp2_with fail;go_meet;exact ⟨rfl,rfl⟩};exact AllReadyH.nil)
  obtain ⟨rfl,rfl⟩:=hcut;cases B2 with
  | false=>
   have e:=aa lY rfl;subst e;go_wp2;exact bodyPost_ret (results_none (h:=rfl) _ _ _) rfl ⟨rfl,sS,ao (ao hg)⟩
  | true=>
   have e:=ae (aa IY rfl);obtain ⟨cr,cd⟩:=aa K3;obtain ⟨Jm,Jn⟩:=aa F3;go_wp2_with fail
   go_region
   go_wp2;go_roundw
   case rel=>exact ⟨c2,swp dk fr fd,rfl,by omega,rN,(aa CF),e,ao (ao (ao HG))⟩
   case measure=>simp [intOf];omega
 | false=>
  have IW:Hid (Fa hi first r dk=c):=by show _=_;rw [aa Wp];rfl
  have ex:=HE.2;have cd:=K1.2;have Jn:=F1.2;obtain ⟨cr,-⟩:=aa K1;obtain ⟨Jm,-⟩:=aa F1;obtain ⟨B2,Ac⟩:=aN (ltInt y z);have WA:=ae Ac;have CK:first+c=fc:=by have:=aa mj;omega
  have j6:first+r=fr:=mj.2.1
  have lY:Hid (B2=false->dk=D):=fun hB=>by rw [<-aa heq,qe (by have:=mj.1;omega) (by rw [aa IW,CK,j6,HE.1,ex,Ac,hB])]
  have IY:Hid (B2=true->siftDown ltInt hi first c (swp dk fr fc)=D):=fun hB=>by have:=aa heq;rw [vJ (by have:=mj.1;omega) (by rw [aa IW,CK,j6,HE.1,ex,Ac,hB]),aa IW,CK,j6] at this;exact this
  have wG:=aa pj;have CF:=ae (sS.swap (i:=fr) (j:=fc) (by omega) (by omega) ex.symm HE.1.symm);have rN:Hid ((swp dk fr fc).size=N):=by show _=_;rw [size_swp];exact wG
  have HG:=ae (aG (aG hg (az wr aB (off+fr) (.int .u64 z))) (az _ aB (off+fc) (.int .u64 y)));have K3:=ae (ag cr cd);have F3:=ae (ag Jm Jn);have hrc:r<c:=by have:=aa mj;omega
  go_wp2_with fail
  go_cut [52] (fun rv wc=>rv=.bool (!B2)/\wc=wr.drew.drew)
  case first =>(
 refine wp_region_noPanic ?_;refine wp_region_held_drew (S:=fun w'=>w'.cell? ⟨aB,off+fr,none⟩=some (.int .u64 y)/\w'.cell? ⟨aB,off+fc,none⟩=some (.int .u64 z)) (by kernel_rfl) (by exact K3) (fun hS=>?_);refine gj 0 1 2 3 4 5 6 7 hS ?_;refine gp 8 9 10 11 hS ?_;refine ry [12] ?_;refine cn (fun KK hK=>?_) ?_;{refine bR (by rfl) 191 _ _ _ (by rfl) (.int .u64 y) (.int .u64 z) (by rfl) (by rfl) (fun _=>dz _ _) (dy y z _) ?_;rintro r' w2 ⟨rfl,rfl⟩;refine ⟨_,rfl,?_⟩;rw [aa WA];refine bm hK (by exact K3) fun hS=>?_;refine tn 13 hS ?_;refine wpAnyH_done (by kernel_rfl) ?_ _;refine aX ?_;go_wp2_with fail;go_meet;exact ⟨rfl,rfl⟩};exact AllReadyH.nil)
  obtain ⟨rfl,rfl⟩:=hcut;cases B2 with
  | false=>
   have e:=aa lY rfl;subst e;go_wp2;exact bodyPost_ret (results_none (h:=rfl) _ _ _) rfl ⟨rfl,sS,ao (ao hg)⟩
  | true=>
   have e:=ae (aa IY rfl);obtain ⟨cr,cd⟩:=aa K3;obtain ⟨Jm,Jn⟩:=aa F3;go_wp2_with fail
   go_region
   go_wp2;go_roundw
   case rel=>exact ⟨c,swp dk fr fc,rfl,by omega,rN,(aa CF),e,ao (ao (ao HG))⟩
   case measure=>simp [intOf];omega}
 {
 have ac7:¬ (c2:Int)<(hi:Int):=by omega
 have IW:Hid (Fa hi first r dk=c):=by show _=_;unfold Fa;rw [if_neg (by simp;omega),XX]
 have mj:=ae (ag XX (ag n1 (ag n2 (ag n3 n4))));have HE:=ae (ag ey ez);have ex:=HE.2;have cd:=K1.2;have Jn:=F1.2;go_wp2_with fail
 go_cut [36] (fun rv wc=>rv=.bool false/\wc=wr.drew)
 case first =>(
 refine wp_region_noPanic ?_;refine wp_region_held_drew (S:=fun w'=>True) (by kernel_rfl) trivial (fun hS=>?_);refine gp 0 1 2 3 hS ?_;refine tn 4 hS ?_;refine sn 5 hS ?_;refine sn 6 hS ?_;refine sn 7 hS ?_;refine sn 8 hS ?_;refine sn 9 hS ?_;refine sn 10 hS ?_;refine sn 11 hS ?_;refine sn 12 hS ?_;refine sn 13 hS ?_;refine sn 14 hS ?_;refine sn 15 hS ?_;refine sn 16 hS ?_;refine sn 17 hS ?_;refine sn 18 hS ?_;refine tn 19 hS ?_;refine wpAnyH_done (by kernel_rfl) ?_ _;refine aX ?_;go_wp2_with fail;go_meet;exact ⟨rfl,rfl⟩)
 obtain ⟨rfl,rfl⟩:=hcut;obtain ⟨cr,-⟩:=aa K1;obtain ⟨Jm,-⟩:=aa F1;obtain ⟨B2,Ac⟩:=aN (ltInt y z);have WA:=ae Ac;have CK:first+c=fc:=by have:=aa mj;omega
 have j6:first+r=fr:=mj.2.1
 have lY:Hid (B2=false->dk=D):=fun hB=>by rw [<-aa heq,qe (by have:=mj.1;omega) (by rw [aa IW,CK,j6,HE.1,ex,Ac,hB])]
 have IY:Hid (B2=true->siftDown ltInt hi first c (swp dk fr fc)=D):=fun hB=>by have:=aa heq;rw [vJ (by have:=mj.1;omega) (by rw [aa IW,CK,j6,HE.1,ex,Ac,hB]),aa IW,CK,j6] at this;exact this
 have wG:=aa pj;have CF:=ae (sS.swap (i:=fr) (j:=fc) (by omega) (by omega) ex.symm HE.1.symm);have rN:Hid ((swp dk fr fc).size=N):=by show _=_;rw [size_swp];exact wG
 have HG:=ae (aG (aG hg (az wr aB (off+fr) (.int .u64 z))) (az _ aB (off+fc) (.int .u64 y)));have K3:=ae (ag cr cd);have F3:=ae (ag Jm Jn);have hrc:r<c:=by have:=aa mj;omega
 go_wp2_with fail
 go_cut [52] (fun rv wc=>rv=.bool (!B2)/\wc=wr.drew.drew)
 case first =>(
 refine wp_region_noPanic ?_;refine wp_region_held_drew (S:=fun w'=>w'.cell? ⟨aB,off+fr,none⟩=some (.int .u64 y)/\w'.cell? ⟨aB,off+fc,none⟩=some (.int .u64 z)) (by kernel_rfl) (by exact K3) (fun hS=>?_);refine gj 0 1 2 3 4 5 6 7 hS ?_;refine gp 8 9 10 11 hS ?_;refine ry [12] ?_;refine cn (fun KK hK=>?_) ?_;{refine bR (by rfl) 191 _ _ _ (by rfl) (.int .u64 y) (.int .u64 z) (by rfl) (by rfl) (fun _=>dz _ _) (dy y z _) ?_;rintro r' w2 ⟨rfl,rfl⟩;refine ⟨_,rfl,?_⟩;rw [aa WA];refine bm hK (by exact K3) fun hS=>?_;refine tn 13 hS ?_;refine wpAnyH_done (by kernel_rfl) ?_ _;refine aX ?_;go_wp2_with fail;go_meet;exact ⟨rfl,rfl⟩};exact AllReadyH.nil)
 obtain ⟨rfl,rfl⟩:=hcut;cases B2 with
 | false=>
  have e:=aa lY rfl;subst e;go_wp2;exact bodyPost_ret (results_none (h:=rfl) _ _ _) rfl ⟨rfl,sS,ao (ao hg)⟩
 | true=>
  have e:=ae (aa IY rfl);obtain ⟨cr,cd⟩:=aa K3;obtain ⟨Jm,Jn⟩:=aa F3;go_wp2_with fail
  go_region
  go_wp2;go_roundw
  case rel=>exact ⟨c,swp dk fr fc,rfl,by omega,rN,(aa CF),e,ao (ao (ao HG))⟩
  case measure=>simp [intOf];omega}}
 {
 have bt:(hi:Int)<=(c:Int):=by omega
 have hq:=aa heq;rw [Ga (by omega)] at hq;subst hq;go_wp2
 first
  | exact bodyPost_ret (results_none (h:=rfl) _ _ _) rfl ⟨rfl,sS,hg⟩
  | (go_end0;exact ⟨rfl,sS,hg⟩)})
end Q
namespace Q
open Go.Sort
theorem uN (lt:Int->Int->Bool) (hi first:Nat):∀ (k r:Nat) (d:Array Int),hi-r<=k->(siftDown lt hi first r d).size=d.size:=by
 intro k
 induction k with
 | zero=>intro r d hk;rw [siftDown,dif_pos (by omega)]
 | succ k ih=>
  intro r d hk;rw [siftDown];split;{rfl}
  {
 split;{
 split;{rfl}
 {split;{rw [ih _ _ (by omega),size_swp]};{rfl}}}
 {
 split;{rfl}
 {rw [ih _ _ (by omega),size_swp]}}}
theorem Hl (aB off cap N a b:Nat) (d:Array Int) (hN:Hid (d.size=N)) (w:World) (h:HU w aB off d) (Bo:a<=b) (hb:b<=N) (fI:N<=1048576) :
  Calls prog 186 #[.slice (some ⟨aB,off,none⟩) N cap,.int .i64 a,.int .i64 b] w fun e w'=>e=.returned (.tuple #[])/\HU w' aB off (heapSort ltInt d a b)/\w.grownBy w' (some aB):=by
 obtain ⟨D,eD⟩:=aN (heapSort ltInt d a b);rw [eD];obtain ⟨H,eH⟩:∃ H:Nat,(b:Int)-(a:Int)=(H:Int):=⟨b-a,by omega⟩;have eH0:b-a=H:=by omega
 have wH:IntKind.i64.wrap (H:Int)=(H:Int):=IntWalk.i64_in _ (by omega);unfold heapSort at eD;rw [eH0] at eD;obtain ⟨M,eM⟩:=aN (heapBuild ltInt H a ((H-1) / 2+1) d);rw [eM] at eD;have ED:=ae eD;have EM:=ae eM;have H0:=ae h;have hHN:a+H<=N:=by omega
 have HE0:=ae eH0;have w1:IntKind.i64.wrap ((H:Int)-1)=(H:Int)-1:=IntWalk.i64_in _ (by omega);obtain ⟨q,eq⟩:∃ q:Int,Int.tdiv ((H:Int)-1) 2=q:=⟨_,rfl⟩;have hq:q=((H-1) / 2:Nat):=by rw [<-eq];by_cases hz:H=0;{subst hz;decide};{rw [show (H:Int)-1=((H-1:Nat):Int) by omega];exact (Int.ofNat_tdiv _ _).symm}
 have OR:0<=q:=by omega
 have Xd:q<=1048576:=by omega
 have wq:IntKind.i64.wrap q=q:=IntWalk.i64_in _ (by omega);have HQ:=ae hq;clear eD eM h eH0 hq;go_enter func186,ntmps186;go_wp2_with fail
 go_loopw [9] (fun s9 wr=>∃ (iz:Int) (k:Nat) (dk:Array Int),s9=.int .i64 iz/\iz=(k:Int)-1/\k<=H+1/\Hid (dk.size=N)/\Hid (HU wr aB off dk)/\Hid (heapBuild ltInt H a k dk=M)/\Hid (w.grownBy wr (some aB))) (fun s9 _=>(intOf s9+1).toNat)
 case atStart=>exact ⟨q,(H-1) / 2+1,d,rfl,by have:=aa HQ;omega,by omega,hN,H0,EM,je _ _⟩
 case round =>(
 obtain ⟨iz,k,dk,rfl,hk,hiz,pj,sS,heq,hg⟩:=hrel;have HK:=ae hk;by_cases hz:0<=iz;{
 obtain ⟨m,em⟩:∃ m:Nat,iz=(m:Int):=⟨iz.toNat,by omega⟩;have ek:k=m+1:=by omega
 subst ek;clear hk HK;subst em;have Fb:(0:Int)<=(m:Int):=by omega
 have yw:=aa heq;rw [heapBuild] at yw;have Wi:=ae yw;have ac0:Hid ((siftDown ltInt H a m dk).size=N):=by show _=_;rw [uN ltInt H a _ m dk ax];exact aa pj
 have hm:m<=N:=by omega
 clear yw heq;go_wp2_with fail;refine (xH aB off cap N m H a dk pj _ sS hHN hm fI).mono ?_;rintro e w2 ⟨rfl,pR,dV⟩;have HG:=ae (aG hg dV);have NF:=ae pR;clear dV pR;go_wp2;go_roundw
 case rel=>exact ⟨(m:Int)-1,m,_,by first | rfl | go_num,by omega,by omega,ac0,NF,Wi,HG⟩
 case measure=>first | (simp [intOf];done) | (simp [intOf];omega)}
 {
 have ek:k=0:=by omega
 subst ek;have eM:dk=M:=aa heq;subst eM;clear hk HK;go_wp2_with fail;obtain ⟨Y,eY⟩:=ar wr;subst eY;have HG0:=hg;clear hg hz
 go_loopw [10] (fun Aw wr=>∃ (iz:Int) (k:Nat) (dj:Array Int),Aw=.int .i64 iz/\iz=(k:Int)-1/\k<=H/\Hid (dj.size=N)/\Hid (HU wr aB off dj)/\Hid (heapPop ltInt a k dj=D)/\Hid (w.grownBy wr (some aB))) (fun Aw _=>(intOf Aw+1).toNat)
 case atStart=>exact ⟨(H:Int)-1,H,dk,rfl,rfl,Nat.le_refl _,pj,sS,ED,HG0⟩
 case round =>(
 obtain ⟨iz,k,dj,rfl,hk,hiz,KR,tS,Bh,hg⟩:=hrel;by_cases hz:0<=iz;{
 obtain ⟨m,em⟩:∃ m:Nat,iz=(m:Int):=⟨iz.toNat,by omega⟩;have ek:k=m+1:=by omega
 subst ek;clear hk;subst em;have Fb:(0:Int)<=(m:Int):=by omega
 obtain ⟨f,ef⟩:∃ x:Nat,(a:Int)+(m:Int)=(x:Int):=⟨a+m,by omega⟩;have wf:IntKind.i64.wrap (f:Int)=(f:Int):=IntWalk.i64_in _ (by omega);have ef0:a+m=f:=by omega
 have yE:=aa KR;obtain ⟨ca,fa⟩:=aa tS a (by omega);obtain ⟨cf,ff⟩:=aa tS f (by omega);obtain ⟨y,ey⟩:∃ y,dj[a]! = y:=⟨_,rfl⟩;obtain ⟨z,ez⟩:∃ z,dj[f]! = z:=⟨_,rfl⟩;rw [ey] at ca;rw [ez] at cf;obtain ⟨tt,ct⟩:=fu (q:=⟨aB,off+a,none⟩) (u:=.int .u64 z) cf;have i1:(a:Int)<(N:Int):=by omega
 have i2:(f:Int)<(N:Int):=by omega
 have yw:=aa Bh;rw [heapPop,ef0] at yw;have Wi:=ae yw;have QO:=ae (tS.swap (i:=a) (j:=f) (by omega) (by omega) ez.symm ey.symm);have rN:Hid ((swp dj a f).size=N):=by show _=_;rw [size_swp];exact yE
 have HS3:Hid ((siftDown ltInt m a 0 (swp dj a f)).size=N):=by show _=_;rw [uN ltInt m a _ 0 _ ax];exact aa rN
 have HG:=ae (aG (aG hg (az wr aB (off+a) (.int .u64 z))) (az _ aB (off+f) (.int .u64 y)));have tM:a+m<=N:=by omega
 clear ey ez yE yw Bh ef0;go_wp2_with fail
 go_region
 go_wp2_with fail;refine (xH aB off cap N 0 m a (swp dj a f) rN _ (by exact QO) tM (Nat.zero_le _) fI).mono ?_;rintro e w2 ⟨rfl,pR,dV⟩;have Yp:=ae (aG (ao HG) dV);have NF:=ae pR;clear dV pR ca cf fa ff ct;go_wp2;go_roundw
 case rel=>exact ⟨(m:Int)-1,m,_,by first | rfl | go_num,rfl,by omega,HS3,NF,Wi,Yp⟩
 case measure=>first | (simp [intOf];done) | (simp [intOf];omega)}
 {
 have ek:k=0:=by omega
 subst ek;have eD:dj=D:=aa Bh;subst eD;clear hk;go_wp2
 go_end0
 exact ⟨rfl,tS,hg⟩})})
end Q
namespace Q
open Go.Sort
structure EP (w:World) (g:Nat) (S:Int):Prop where
 cell:w.cell? ⟨g,0,none⟩=some (.int .i64 S)
 fr:w.frozen? ⟨g,0,none⟩=false
theorem EP.drew {S:Int} (h:EP w g S):EP w.drew g S:=⟨h.cell,h.fr⟩
theorem EP.set {S T:Int} (h:EP w g S):EP (w.setCell ⟨g,0,none⟩ (.int .i64 T)) g T:=
 ⟨World.cell?_setCell_same _ _ _ h.cell,by rw [World.frozen?_setCell];exact h.fr⟩
theorem HU.aside {o:Nat} (h:HU w aB off d) (bq:g≠aB):HU (w.setCell ⟨g,o,none⟩ v) aB off d:=
 h.kept (dt _ _ _ _ (fun e=>bq (by simpa using e.symm)))
theorem nJ (aB off cap N g x y:Nat) (S:Int) (d:Array Int) (hN:Hid (d.size=N)) (w:World) (h:HU w aB off d) (hx:x<N) (hy:y<N) (fI:N<=1048576) (hg:g≠aB) (hc:EP w g S) (hS:0<=S) (UN:S<=1000) :
  Calls prog 224 #[.slice (some ⟨aB,off,none⟩) N cap,.int .i64 x,.int .i64 y,.pointer (some ⟨g,0,none⟩)] w fun e w'=>
   ∃ (x' y':Nat) (S':Int),e=.returned (.tuple #[.int .i64 x',.int .i64 y'])/\((x'=x/\y'=y)\/(x'=y/\y'=x))/\S<=S'/\S'<=S+1/\EP w' g S'/\HU w' aB off d/\w.grownBy w' (some g):=by
 have pj:=aa hN;obtain ⟨cx,-⟩:=h x (by omega);obtain ⟨cy,-⟩:=h y (by omega);obtain ⟨u,eu⟩:∃ u,d[x]! = u:=⟨_,rfl⟩;obtain ⟨v,ev⟩:∃ v,d[y]! = v:=⟨_,rfl⟩;rw [eu] at cx;rw [ev] at cy;have k1:(x:Int)<(N:Int):=by omega
 have k2:(y:Int)<(N:Int):=by omega
 obtain ⟨B,eB⟩:=aN (ltInt v u);have EB:=ae eB;have K0:=ae (ag cx cy);have H0:=ae h;have C0:=ae hc;have iH:=hc.cell;have sP:=hc.fr;go_enter func224,ntmps224;go_wp2_with fail
 go_cut [18] (fun rv wc=>rv=.bool B/\wc=w.drew)
 case first =>(
 refine wp_region_noPanic ?_;refine wp_region_held_drew (S:=fun w'=>w'.cell? ⟨aB,off+x,none⟩=some (.int .u64 u)/\w'.cell? ⟨aB,off+y,none⟩=some (.int .u64 v)) (by kernel_rfl) (by exact K0) (fun hS=>?_);refine gj 0 1 2 3 4 5 6 7 hS ?_;refine ry [8] ?_;refine cn (fun KK hK=>?_) ?_;{refine bR (by rfl) 191 _ _ _ (by rfl) (.int .u64 v) (.int .u64 u) (by rfl) (by rfl) (fun _=>dz _ _) (dy v u _) ?_;rintro r' w2 ⟨rfl,rfl⟩;refine ⟨_,rfl,?_⟩;rw [aa EB];refine bm hK (by exact K0) fun hS=>?_;refine wpAnyH_done (by kernel_rfl) ?_ _;refine aX ?_;go_wp2_with fail;go_meet;exact ⟨rfl,rfl⟩};exact AllReadyH.nil)
 obtain ⟨rfl,rfl⟩:=hcut;cases B with
 | true=>
  go_wp2
  go_ret2
  exact ⟨y,x,S+1,rfl,.inr ⟨rfl,rfl⟩,by omega,by omega,C0.drew.set,(H0.drew).aside hg,aG (ao (je w _)) (az _ g 0 _)⟩
 | false=>
  go_wp2
  go_ret2
  exact ⟨x,y,S,rfl,.inl ⟨rfl,rfl⟩,by omega,by omega,C0.drew,H0.drew,ao (je w _)⟩
theorem nK (aB off cap N g x y z:Nat) (S:Int) (d:Array Int) (hN:Hid (d.size=N)) (w:World) (h:HU w aB off d) (hx:x<N) (hy:y<N) (hz:z<N) (fI:N<=1048576) (hg:g≠aB) (hc:EP w g S) (hS:0<=S) (UN:S<=900) :
  Calls prog 212 #[.slice (some ⟨aB,off,none⟩) N cap,.int .i64 x,.int .i64 y,.int .i64 z,.pointer (some ⟨g,0,none⟩)] w fun e w'=>
   ∃ (m:Nat) (S':Int),e=.returned (.int .i64 m)/\(m=x\/m=y\/m=z)/\S<=S'/\S'<=S+3/\EP w' g S'/\HU w' aB off d/\w.grownBy w' (some g):=by
 have H0:=ae h;have C0:=ae hc;go_enter func212,ntmps212;go_wp2_with fail;refine (nJ aB off cap N g x y S d hN w H0 hx hy fI hg C0 hS (by omega)).mono ?_;rintro e w1 ⟨x1,y1,S1,rfl,Xa,s1,s2,mG,qn,fN⟩;have C1:=ae mG;have H1:=ae qn;have G1:=ae fN;have XY:=ae Xa;have x1N:x1<N:=by omega
 have y1N:y1<N:=by omega
 go_wp2_with fail;refine (nJ aB off cap N g y1 z S1 d hN w1 H1 y1N hz fI hg C1 (by omega) (by omega)).mono ?_;rintro e w2 ⟨y2,z2,S2,rfl,hyz,s3,s4,jN,pR,dV⟩;have C2:=ae jN;have H2:=ae pR;have G2:=ae dV;have YZ:=ae hyz;have y2N:y2<N:=by omega
 go_wp2_with fail;refine (nJ aB off cap N g x1 y2 S2 d hN w2 H2 x1N y2N fI hg C2 (by omega) (by omega)).mono ?_;rintro e w3 ⟨x3,y3,S3,rfl,Zn,s5,s6,KU,wR,qL⟩;have C3:=ae KU;have H3:=ae wR;have G3:=ae qL;have XY3:=ae Zn;go_wp2;go_ret;exact ⟨y3,S3,rfl,by have:=aa XY;have:=aa YZ;have:=aa XY3;omega,by omega,by omega,C3,H3,aG G1 (aG G2 G3)⟩
theorem jq (aB off cap N g x:Nat) (S:Int) (d:Array Int) (hN:Hid (d.size=N)) (w:World) (h:HU w aB off d) (hx:1<=x) (ON:x+1<N) (fI:N<=1048576) (hg:g≠aB) (hc:EP w g S) (hS:0<=S) (UN:S<=900) :
  Calls prog 211 #[.slice (some ⟨aB,off,none⟩) N cap,.int .i64 x,.pointer (some ⟨g,0,none⟩)] w fun e w'=>
   ∃ (m:Nat) (S':Int),e=.returned (.int .i64 m)/\x<=m+1/\m<=x+1/\S<=S'/\S'<=S+3/\EP w' g S'/\HU w' aB off d/\w.grownBy w' (some g):=by
 have H0:=ae h;have C0:=ae hc;obtain ⟨m,em⟩:∃ m:Nat,(x:Int)-1=(m:Int):=⟨x-1,by omega⟩;obtain ⟨n,en⟩:∃ n:Nat,(x:Int)+1=(n:Int):=⟨x+1,by omega⟩;have wm:IntKind.i64.wrap (m:Int)=(m:Int):=IntWalk.i64_in _ (by omega);have wn:IntKind.i64.wrap (n:Int)=(n:Int):=IntWalk.i64_in _ (by omega);have mN:m<N:=by omega
 have nN:n<N:=by omega
 have xN:x<N:=by omega
 go_enter func211,ntmps211;go_wp2_with fail;refine (nK aB off cap N g m x n S d hN w H0 mN xN nN fI hg C0 hS UN).mono ?_;rintro e w1 ⟨r,S1,rfl,hr,s1,s2,mG,qn,fN⟩;have C1:=ae mG;have H1:=ae qn;have G1:=ae fN;have HR:=ae hr;go_wp2;go_ret;exact ⟨r,S1,rfl,by have:=aa HR;omega,by have:=aa HR;omega,s1,s2,C1,H1,G1⟩
end Q
namespace Q
open Go.Sort
theorem lT (w:World) (o:Obj) (row:Option Nat):w.grownBy (w.alloc o) row:=World.grownBy_alloc w o row
theorem qo {w1 w2:World} {row:Option Nat} (h:w.grownBy w1 row) (k:w1.grownBy w2 (some g)) (hg:w.heap.size<=g):w.grownBy w2 row:=
 ⟨k.os.trans h.os,k.tape.trans h.tape,k.output.trans h.output,Nat.le_trans h.size k.size,fun i hi bq=>(k.block i (Nat.lt_of_lt_of_le hi h.size) (fun e=>by
  have:i=g:=by simpa using e
  omega)).trans (h.block i hi bq)⟩
theorem HU.alloc (h:HU w aB off d) (hb:aB<w.heap.size) (o:Obj):HU (w.alloc o) aB off d:=
 h.kept (RowKit.Below.heap_alloc w o aB hb)
theorem DL (aB off cap N a b:Nat) (d:Array Int) (hN:Hid (d.size=N)) (w:World) (h:HU w aB off d) (gG:aB<w.heap.size) (Bo:a+8<=b) (hb:b<=N) (fI:N<=1048576) :
  Calls prog 188 #[.slice (some ⟨aB,off,none⟩) N cap,.int .i64 a,.int .i64 b] w fun e w'=>
   ∃ (p:Nat) (t:Int),e=.returned (.tuple #[.int .i64 p,.int .i64 t])/\a<=p/\p<b/\HU w' aB off d/\w.grownBy w' (some aB):=by
 obtain ⟨L,eL⟩:∃ x:Nat,(b:Int)-(a:Int)=(x:Int):=⟨b-a,by omega⟩;have wL:IntKind.i64.wrap (L:Int)=(L:Int):=IntWalk.i64_in _ (by omega);obtain ⟨Q,eQ⟩:=aN (L / 4);have eQ1:Int.tdiv (L:Int) 4=(Q:Int):=by rw [<-eQ];exact (Int.ofNat_tdiv L 4).symm
 have eQ2:(L:Int) / 4=(Q:Int):=by omega
 have wQ:IntKind.i64.wrap (Q:Int)=(Q:Int):=IntWalk.i64_in _ (by omega);have wQ2:IntKind.i64.wrap ((Q:Int)*2)=(Q:Int)*2:=IntWalk.i64_in _ (by omega);have wQ3:IntKind.i64.wrap ((Q:Int)*3)=(Q:Int)*3:=IntWalk.i64_in _ (by omega);obtain ⟨I,eI⟩:∃ x:Nat,(a:Int)+(Q:Int)=(x:Int):=⟨a+Q,by omega⟩;obtain ⟨J,eJ⟩:∃ x:Nat,(a:Int)+(Q:Int)*2=(x:Int):=⟨a+Q*2,by omega⟩;obtain ⟨K,eK⟩:∃ x:Nat,(a:Int)+(Q:Int)*3=(x:Int):=⟨a+Q*3,by omega⟩;have wI:IntKind.i64.wrap (I:Int)=(I:Int):=IntWalk.i64_in _ (by omega);have wJ:IntKind.i64.wrap (J:Int)=(J:Int):=IntWalk.i64_in _ (by omega);have wK:IntKind.i64.wrap (K:Int)=(K:Int):=IntWalk.i64_in _ (by omega);have bI:a+2<=I/\I+6<=b:=by omega
 have bJ:a+2<=J/\J+2<b:=by omega
 have bK:a+2<=K/\K+1<b:=by omega
 have h8:(8:Int)<=(L:Int):=by omega
 have hg:w.heap.size≠aB:=by omega
 have H0:=ae (h.alloc gG (.cells #[.int .i64 0] 3));have C0:Hid (EP (w.alloc (.cells #[.int .i64 0] 3)) w.heap.size 0):=⟨by simp,by simp⟩;have HL:=ae (ag eQ Bo);go_enter func188,ntmps188;by_cases XL:(50:Int)<=(L:Int);{
 go_wp2_with fail;refine (jq aB off cap N w.heap.size I 0 d hN _ H0 (by omega) (by omega) fI hg C0 (by omega) (by omega)).mono ?_;rintro e w1 ⟨i1,S1,rfl,p1,p2,s1,s2,mG,qn,fN⟩;have C1:=ae mG;have H1:=ae qn;have G1:=ae fN;go_wp2_with fail;refine (jq aB off cap N w.heap.size J S1 d hN _ H1 (by omega) (by omega) fI hg C1 (by omega) (by omega)).mono ?_;rintro e w2 ⟨j1,S2,rfl,p3,p4,s3,s4,jN,pR,dV⟩;have C2:=ae jN;have H2:=ae pR;have G2:=ae dV;go_wp2_with fail;refine (jq aB off cap N w.heap.size K S2 d hN _ H2 (by omega) (by omega) fI hg C2 (by omega) (by omega)).mono ?_;rintro e w3 ⟨k1,S3,rfl,p5,p6,s5,s6,KU,wR,qL⟩;have C3:=ae KU;have H3:=ae wR;have G3:=ae qL;go_wp2_with fail;refine (nK aB off cap N w.heap.size i1 j1 k1 S3 d hN _ H3 (by omega) (by omega) (by omega) fI hg C3 (by omega) (by omega)).mono ?_;rintro e w4 ⟨m,S4,rfl,hm,s7,s8,yF,yJ,pf⟩;have H4:=ae yJ;have G4:=ae (qo (lT w _ (some aB)) (aG G1 (aG G2 (aG G3 pf))) ax);have B4:a<=m/\m<b:=by omega
 have HB:=ae B4;have iH:=yF.cell;go_wp2
 all_goals
  go_ret2
  exact ⟨m,_,rfl,HB.1,HB.2,H4,G4⟩};{
 go_wp2_with fail;refine (nK aB off cap N w.heap.size I J K 0 d hN _ H0 (by omega) (by omega) (by omega) fI hg C0 (by omega) (by omega)).mono ?_;rintro e w4 ⟨m,S4,rfl,hm,s7,s8,yF,yJ,pf⟩;have H4:=ae yJ;have G4:=ae (qo (lT w _ (some aB)) pf ax);have B4:a<=m/\m<b:=by omega
 have HB:=ae B4;have iH:=yF.cell;go_wp2
 all_goals
  go_ret2
  exact ⟨m,_,rfl,HB.1,HB.2,H4,G4⟩}
end Q
namespace Q
open Go.Sort
theorem AA:∀ x:Nat,0<x->x<2 ^ 64->2 ^ (Lib.bitLen x)<=2*x:=by
 intro x
 induction x using Nat.strongRecOn with
 | _ x ih=>
  intro h0 h;rw [Lib.bitLen_half x (by omega) h,Nat.add_comm,Nat.pow_succ];by_cases h1:x=1;{subst h1;decide};{have:=ih (x / 2) (by omega) (by omega) (by omega);omega}
theorem NU (i:Nat) (h:i<Lib.len8tab.size):(Lib.len8tab[i]).toNat=Lib.bitLen i/\Lib.bitLen i<=8:=by
 have h':=h;rw [Lib.len8tab_size] at h';have h2:=Lib.len8_of (i:Int) (by omega) (by omega);have h3:=Lib.bitLen_le8' (i:Int) (by omega) (by omega);simp only [Lib.len8,Int.toNat_natCast,ByteArray.getElem?_lt' _ _ h,Option.getD_some] at h2 h3;omega
theorem vH {i:Int} {m:Nat} (e:i.toNat=m) (h:i.toNat<Lib.len8tab.size):((Lib.len8tab[i.toNat]).toNat:Int)=(Lib.bitLen m:Int)/\Lib.bitLen m<=8:=by
 subst e;have:=NU i.toNat h;omega
theorem DU (n:Nat) (hn:n<=1048576) (w:World):Calls prog 195 #[.int .u64 n] w fun e w'=>e=.returned (.int .i64 (Lib.bitLen n))/\w'=w:=by
 obtain ⟨x,ex⟩:∃ x:Int,(n:Int)=x:=⟨_,rfl⟩;have Zq:0<=x:=by omega
 have Tn:x<=1048576:=by omega
 rw [ex];have EX:=ae (ag ex hn);clear ex hn;go_enter func195,ntmps195;go_wp2
 all_goals (try (exfalso;simp only [Lib.len8tab_size] at *;omega))
 all_goals (go_ret;refine ⟨congrArg Ending.returned (congrArg (Value.int IntKind.i64) ?_),rfl⟩)
 {obtain ⟨ex,hn⟩:=aa EX;obtain ⟨t1,t2⟩:=vH (i:=x / 65536) (m:=n / 65536) (by omega) (by omega);have s:=Lib.bitLen_shift16 n (by omega) (by omega);rw [t1,IntWalk.wrap64_in (Lib.bitLen _:Int) (by omega),IntWalk.wrap64_in _ (by omega)];omega};{obtain ⟨ex,hn⟩:=aa EX;obtain ⟨t1,t2⟩:=vH (i:=x / 256) (m:=n / 256) (by omega) (by omega);have s:=Lib.bitLen_shift8 n (by omega) (by omega);rw [t1,IntWalk.wrap64_in (Lib.bitLen _:Int) (by omega),IntWalk.wrap64_in _ (by omega)];omega};{obtain ⟨ex,hn⟩:=aa EX;obtain ⟨t1,t2⟩:=vH (i:=x) (m:=n) (by omega) (by omega);rw [t1,IntWalk.wrap64_in (Lib.bitLen _:Int) (by omega),IntWalk.wrap64_in _ (by omega)]}
theorem vT (n:Nat) (hn:n<=1048576) (w:World):Calls prog 180 #[.int .u64 n] w fun e w'=>e=.returned (.int .i64 (Lib.bitLen n))/\w'=w:=by
 go_enter func180,ntmps180;go_wp2_with fail;refine (DU n hn _).mono ?_;rintro e w' ⟨rfl,rfl⟩;go_wp2;go_ret;exact ⟨rfl,rfl⟩
theorem Gr (n:Nat) (Fh:0<n) (hn:n<=1048576) (w:World):Calls prog 209 #[.int .i64 n] w fun e w'=>∃ M:Nat,e=.returned (.int .u64 M)/\0<M/\M<=2*n/\w'=w:=by
 have hK:Lib.bitLen n<=21:=Lib.bitLen_le n 21 (by omega) (by omega);have hP:=AA n Fh (by omega);have hL:=vT n hn;generalize Lib.bitLen n=K at hK hP hL;obtain ⟨M,eM⟩:=aN (2 ^ K);have h0:0<M:=by rw [<-eM];exact Nat.two_pow_pos K
 rw [eM] at hP;have hp:((2:Int) ^ K)=(M:Int):=by rw [<-eM];push_cast;rfl
 have hw:IntKind.u64.wrap ((2:Int) ^ K)=(M:Int):=by rw [hp,IntKind.wrap_u64];omega
 have hP':=ae hP;have C8:=ae h0;clear hP h0 eM hp;go_enter func209,ntmps209;go_wp2_with fail;refine (hL _).mono ?_;rintro e w' ⟨rfl,rfl⟩;go_wp2;go_ret;exact ⟨M,by first | rfl | simp only [hw],aa C8,aa hP',rfl⟩
theorem Gu (g X:Nat) (hX:X<18446744073709551616) (w:World) (hc:w.cell? ⟨g,0,none⟩=some (.int .u64 X)) (hf:w.frozen? ⟨g,0,none⟩=false) :
  Calls prog 210 #[.pointer (some ⟨g,0,none⟩)] w fun e w'=>∃ C:Nat,e=.returned (.int .u64 C)/\C<18446744073709551616/\w'.cell? ⟨g,0,none⟩=some (.int .u64 C)/\w'.frozen? ⟨g,0,none⟩=false/\w.grownBy w' (some g):=by
 obtain ⟨A,lA,e1⟩:∃ A:Nat,A<18446744073709551616/\bits .xor .u64 (X:Int) (IntKind.u64.wrap ((X:Int)*8192))=(A:Int):=by refine ⟨X ^^^ (X*8192 % 18446744073709551616),Nat.xor_lt_two_pow (n:=64) (by omega) (by omega),?_⟩;rw [IntKind.wrap_u64,show ((X:Int)*8192 % 18446744073709551616)=((X*8192 % 18446744073709551616:Nat):Int) by omega,bits_xor_u64_nat _ _ hX (by omega)]
 obtain ⟨B,lB,e2⟩:∃ B:Nat,B<18446744073709551616/\bits .xor .u64 (A:Int) ((A:Int) / 128)=(B:Int):=by refine ⟨A ^^^ (A / 128),Nat.xor_lt_two_pow (n:=64) (by omega) (by omega),?_⟩;rw [show ((A:Int) / 128)=((A / 128:Nat):Int) by omega,bits_xor_u64_nat _ _ lA (by omega)]
 obtain ⟨C,lC,e3⟩:∃ C:Nat,C<18446744073709551616/\bits .xor .u64 (B:Int) (IntKind.u64.wrap ((B:Int)*131072))=(C:Int):=by refine ⟨B ^^^ (B*131072 % 18446744073709551616),Nat.xor_lt_two_pow (n:=64) (by omega) (by omega),?_⟩;rw [IntKind.wrap_u64,show ((B:Int)*131072 % 18446744073709551616)=((B*131072 % 18446744073709551616:Nat):Int) by omega,bits_xor_u64_nat _ _ lB (by omega)]
 have c1:=World.cell?_setCell_same w ⟨g,0,none⟩ (.int .u64 A) hc;have c2:=World.cell?_setCell_same _ ⟨g,0,none⟩ (.int .u64 B) c1;have c3:=World.cell?_setCell_same _ ⟨g,0,none⟩ (.int .u64 C) c2;have HG:=ae (aG (aG (az w g 0 (.int .u64 A)) (az _ g 0 (.int .u64 B))) (az _ g 0 (.int .u64 C)));have HF:Hid ((((w.setCell ⟨g,0,none⟩ (.int .u64 A)).setCell ⟨g,0,none⟩ (.int .u64 B)).setCell ⟨g,0,none⟩ (.int .u64 C)).frozen? ⟨g,0,none⟩=false):=by show _=_;simp only [World.frozen?_setCell];exact hf
 have LC:=ae lC;have HC:=ae c3;clear hX lA lB lC;go_enter func210,ntmps210;go_wp2_with fail
 go_region
 go_wp2_with fail
 go_region
 go_wp2_with fail
 go_region
 go_wp2;go_ret;exact ⟨C,rfl,LC,by exact HC,by exact HF,by exact ao (ao (ao HG))⟩
end Q
namespace Q
open Go.Sort
theorem Ew (aB off cap N a b:Nat) (d:Array Int) (hN:Hid (d.size=N)) (w:World) (h:HU w aB off d) (gG:aB<w.heap.size) (Bo:a+8<=b) (hb:b<=N) (fI:N<=1048576) :
  Calls prog 187 #[.slice (some ⟨aB,off,none⟩) N cap,.int .i64 a,.int .i64 b] w fun e w'=>
   e=.returned (.tuple #[])/\∃ d',HU w' aB off d'/\PermIn a b d d'/\w.grownBy w' (some aB):=by
 obtain ⟨L,eL⟩:∃ x:Nat,(b:Int)-(a:Int)=(x:Int):=⟨b-a,by omega⟩;have wL:IntKind.i64.wrap (L:Int)=(L:Int):=IntWalk.i64_in _ (by omega);obtain ⟨Q,eQ⟩:=aN (L / 4);have eQ1:Int.tdiv (L:Int) 4=(Q:Int):=by rw [<-eQ];exact (Int.ofNat_tdiv L 4).symm
 have eQ2:(L:Int) / 4=(Q:Int):=by omega
 have wQ:IntKind.i64.wrap (Q:Int)=(Q:Int):=IntWalk.i64_in _ (by omega);have wQ2:IntKind.i64.wrap ((Q:Int)*2)=(Q:Int)*2:=IntWalk.i64_in _ (by omega);obtain ⟨J,eJ⟩:∃ x:Nat,(a:Int)+(Q:Int)*2=(x:Int):=⟨a+Q*2,by omega⟩;have wJ:IntKind.i64.wrap (J:Int)=(J:Int):=IntWalk.i64_in _ (by omega);have bJ:a+2<=J/\J+2<b:=by omega
 have wJ1:IntKind.i64.wrap ((J:Int)+1)=(J:Int)+1:=IntWalk.i64_in _ (by omega);obtain ⟨J0,eJ0⟩:∃ x:Nat,(J:Int)-1=(x:Int):=⟨J-1,by omega⟩;have wJ0:IntKind.i64.wrap (J0:Int)=(J0:Int):=IntWalk.i64_in _ (by omega);have h8:(8:Int)<=(L:Int):=by omega
 have wU:IntKind.u64.wrap (L:Int)=(L:Int):=by rw [IntKind.wrap_u64];omega
 have hg:w.heap.size≠aB:=by omega
 have hLb:a+L=b:=by omega
 have H0:=ae (h.alloc gG (.cells #[.int .u64 L] 280));have HL:=ae (ag eQ Bo);go_enter func187,ntmps187;go_wp2_with fail;refine (Gr L (by omega) (by omega) _).mono ?_;rintro e w1 ⟨M,rfl,hM0,hM,rfl⟩;have wM:IntKind.u64.wrap ((M:Int)-1)=(M:Int)-1:=by rw [IntKind.wrap_u64];omega
 go_wp2_with fail
 go_loopw [9] (fun s9 wr=>∃ (idx R:Nat) (dk:Array Int),s9=.int .i64 idx/\J0<=idx/\idx<=J+2/\R<18446744073709551616/\Hid (wr.cell? ⟨w.heap.size,0,none⟩=some (.int .u64 R)/\wr.frozen? ⟨w.heap.size,0,none⟩=false)/\Hid (HU wr aB off dk)/\Hid (PermIn a b d dk)/\Hid (dk.size=N)/\Hid (w.grownBy wr (some aB))) (fun s9 _=>J+2-(intOf s9).toNat)
 case atStart=>exact ⟨J0,L,d,rfl,by omega,by omega,by omega,⟨by simp,by simp⟩,by exact aa H0,permIn_refl d a b,hN,by exact lT w _ _⟩
 case round =>(
 obtain ⟨idx,R,dk,rfl,z1,z2,lR,hC,hH,hP,hdk,hG⟩:=hrel;by_cases KM:idx<=J+1;{
 have Hg:(idx:Int)<=(J:Int)+1:=by omega
 go_wp2_with fail;refine (Gu w.heap.size R lR _ hC.1 hC.2).mono ?_;rintro e w2 ⟨C,rfl,lC,jN,wE,dV⟩;have C2:=ae (ag jN wE);have H2:=ae (hH.kept (dV.block aB (Nat.lt_of_lt_of_le gG hG.size) (fun e=>hg (by simpa using e.symm))));have G2:=ae (qo hG dV ax);obtain ⟨O,lO,bf8⟩:∃ O:Nat,O<=M-1/\bits .and .u64 (C:Int) ((M:Int)-1)=(O:Int):=by refine ⟨C &&& (M-1),Nat.and_le_right,?_⟩;rw [show ((M:Int)-1)=((M-1:Nat):Int) by omega,bits_and_u64_nat _ _ lC (by omega)]
 have wO:IntKind.i64.wrap (O:Int)=(O:Int):=IntWalk.i64_in _ (by omega);by_cases hLO:L<=O;{
 have ae6:(L:Int)<=(O:Int):=by omega
 obtain ⟨P,eP⟩:∃ x:Nat,(O:Int)-(L:Int)=(x:Int):=⟨O-L,by omega⟩;have wP:IntKind.i64.wrap (P:Int)=(P:Int):=IntWalk.i64_in _ (by omega);have bP:P<L:=by omega
 obtain ⟨T,eT⟩:∃ x:Nat,(a:Int)+(P:Int)=(x:Int):=⟨a+P,by omega⟩;have wT:IntKind.i64.wrap (T:Int)=(T:Int):=IntWalk.i64_in _ (by omega);have bT:a<=T/\T<b:=by omega
 have pj:=aa hdk;obtain ⟨c1,f1⟩:=aa H2 idx (by omega);obtain ⟨c2,f2⟩:=aa H2 T (by omega);obtain ⟨p1,sY⟩:∃ u,dk[idx]! = u:=⟨_,rfl⟩;obtain ⟨p2,sX⟩:∃ u,dk[T]! = u:=⟨_,rfl⟩;rw [sY] at c1;rw [sX] at c2;obtain ⟨tt,ct⟩:=fu (q:=⟨aB,off+idx,none⟩) (u:=.int .u64 p2) c2;have lX:=ae (H2.swap (i:=idx) (j:=T) (by omega) (by omega) sX.symm sY.symm);have Ah:=ae (aG (aG G2 (az _ aB (off+idx) (.int .u64 p2))) (az _ aB (off+T) (.int .u64 p1)));have HPn:Hid (PermIn a b d (swp dk idx T)):=permIn_trans _ _ _ a b hP (swp_permIn dk a b idx T (by omega) (by omega) (by omega) (by omega) (by omega));have HDn:Hid ((swp dk idx T).size=N):=by show _=_;rw [size_swp];exact pj
 have HCn:Hid ((((w2.setCell ⟨aB,off+idx,none⟩ (.int .u64 p2)).setCell ⟨aB,off+T,none⟩ (.int .u64 p1)).drew).cell? ⟨w.heap.size,0,none⟩=some (.int .u64 C)/\(((w2.setCell ⟨aB,off+idx,none⟩ (.int .u64 p2)).setCell ⟨aB,off+T,none⟩ (.int .u64 p1)).drew).frozen? ⟨w.heap.size,0,none⟩=false):=
  ⟨(World.cell?_setCell_other _ _ _ _ (by simp<;>omega)).trans ((World.cell?_setCell_other _ _ _ _ (by simp<;>omega)).trans C2.1),by show World.frozen? ((w2.setCell ⟨aB,off+idx,none⟩ (.int .u64 p2)).setCell ⟨aB,off+T,none⟩ (.int .u64 p1)) _=false;rw [World.frozen?_setCell,World.frozen?_setCell];exact C2.2⟩
 have l1:(idx:Int)<(N:Int):=by omega
 have l2:(T:Int)<(N:Int):=by omega
 have l3:(0:Int)<=(T:Int):=by omega
 go_wp2_with fail
 go_region
 go_wp2;go_roundw
 case rel=>exact ⟨idx+1,C,swp dk idx T,by first | rfl | go_num,by omega,by omega,lC,HCn,by exact lX,HPn,HDn,by exact ao Ah⟩
 case measure=>simp [intOf];omega}
 {
 have ae6:¬ (L:Int)<=(O:Int):=by omega
 obtain ⟨P,eP⟩:∃ x:Nat,O=x:=⟨O,rfl⟩;subst eP;have bP:O<L:=by omega
 obtain ⟨T,eT⟩:∃ x:Nat,(a:Int)+(O:Int)=(x:Int):=⟨a+O,by omega⟩;have wT:IntKind.i64.wrap (T:Int)=(T:Int):=IntWalk.i64_in _ (by omega);have bT:a<=T/\T<b:=by omega
 have pj:=aa hdk;obtain ⟨c1,f1⟩:=aa H2 idx (by omega);obtain ⟨c2,f2⟩:=aa H2 T (by omega);obtain ⟨p1,sY⟩:∃ u,dk[idx]! = u:=⟨_,rfl⟩;obtain ⟨p2,sX⟩:∃ u,dk[T]! = u:=⟨_,rfl⟩;rw [sY] at c1;rw [sX] at c2;obtain ⟨tt,ct⟩:=fu (q:=⟨aB,off+idx,none⟩) (u:=.int .u64 p2) c2;have lX:=ae (H2.swap (i:=idx) (j:=T) (by omega) (by omega) sX.symm sY.symm);have Ah:=ae (aG (aG G2 (az _ aB (off+idx) (.int .u64 p2))) (az _ aB (off+T) (.int .u64 p1)));have HPn:Hid (PermIn a b d (swp dk idx T)):=permIn_trans _ _ _ a b hP (swp_permIn dk a b idx T (by omega) (by omega) (by omega) (by omega) (by omega));have HDn:Hid ((swp dk idx T).size=N):=by show _=_;rw [size_swp];exact pj
 have HCn:Hid ((((w2.setCell ⟨aB,off+idx,none⟩ (.int .u64 p2)).setCell ⟨aB,off+T,none⟩ (.int .u64 p1)).drew).cell? ⟨w.heap.size,0,none⟩=some (.int .u64 C)/\(((w2.setCell ⟨aB,off+idx,none⟩ (.int .u64 p2)).setCell ⟨aB,off+T,none⟩ (.int .u64 p1)).drew).frozen? ⟨w.heap.size,0,none⟩=false):=
  ⟨(World.cell?_setCell_other _ _ _ _ (by simp<;>omega)).trans ((World.cell?_setCell_other _ _ _ _ (by simp<;>omega)).trans C2.1),by show World.frozen? ((w2.setCell ⟨aB,off+idx,none⟩ (.int .u64 p2)).setCell ⟨aB,off+T,none⟩ (.int .u64 p1)) _=false;rw [World.frozen?_setCell,World.frozen?_setCell];exact C2.2⟩
 have l1:(idx:Int)<(N:Int):=by omega
 have l2:(T:Int)<(N:Int):=by omega
 have l3:(0:Int)<=(T:Int):=by omega
 go_wp2_with fail
 go_region
 go_wp2;go_roundw
 case rel=>exact ⟨idx+1,C,swp dk idx T,by first | rfl | go_num,by omega,by omega,lC,HCn,by exact lX,HPn,HDn,by exact ao Ah⟩
 case measure=>simp [intOf];omega}}
 {
 have Hg:¬ (idx:Int)<=(J:Int)+1:=by omega
 go_wp2
 go_end0
 exact ⟨rfl,dk,hH,hP,hG⟩})
end Q
namespace Q
open Go.Maps
theorem gD:Keyed prog 23:=int_keyed underlying23
abbrev di (x:Int):Value:=.int .u64 x
def jt {H:Type} (D0:DataW H) (left:Lit->Bool) (ss:List Int):Prop:=ss.Nodup/\∀ x,x∈ss↔(has D0 (.int .u64 x)=true/\left (.int .u64 x)=false)
theorem jt.start {H:Type} (D0:DataW H):jt D0 (has D0) []:=⟨List.nodup_nil,fun x=>by cases has D0 (.int .u64 x)<;>simp⟩
theorem jt.step {H:Type} {D0:DataW H} {ss:List Int} (h:jt D0 left ss) {x:Int} {y:DataW H} (hlk:left (.int .u64 x)=true) (fo:∀ zd,D0.atKey (.int .u64 x) zd=y):jt D0 (fun z=>left z&&!z.sameKey (.int .u64 x)) (ss++[x]):=by
 have Bg:has D0 (.int .u64 x)=true:=has_true_of_atKey fo;have yy:x∉ss:=fun hx=>by have:=((h.2 x).1 hx).2;rw [hlk] at this;cases this
 refine ⟨List.nodup_append.2 ⟨h.1,by simp,fun a ha b hb=>by simp at hb;subst hb;exact fun e=>yy (e▸ha)⟩,fun y=>?_⟩;by_cases hy:y=x;{subst hy;simp [Bg,Lit.sameKey]};{simp [h.2 y,hy,Lit.sameKey]}
def gy {H:Type} (D0:DataW H) (ss:List Int):Prop:=ss.Nodup/\(∀ x,x∈ss↔has D0 (.int .u64 x)=true)/\ss.length<=Maps.size D0
theorem jt.all {H:Type} {D0:DataW H} {ss:List Int} (h:jt D0 left ss) (hl:∀ kl,left kl=false) (hs:ss.length<=Maps.size D0):gy D0 ss:=⟨h.1,(fun x=>by rw [h.2 x,hl];simp),hs⟩
theorem vW {H:Type} (n:Nat) (hn:1<=n) (l Bm b nn:Nat) (D0:DataW H) {R:Value->Option (DataW H × List MemPlace)} (J Jx:List Int->World->Prop)
  (hY:∀ pre x W,J pre W->pre.length<Maps.size D0->YieldAt Fence.wide (n-1) prog l #[di x] W fun e W'=>(e=.returned (.bool true)/\J (pre++[x]) W'/\KeepsWalks W W')\/(e=.returned (.bool false)/\Jx (pre++[x]) W'))
  (W:World) (hJ:AbidesFrom W.heap.size J) (hm:W.cell? ⟨Bm,0,none⟩=some (.map (some b))) (bj:W.ownsMap prog 23 R b nn D0) (h0:J [] W) :
  CallsIn Fence.wide n prog 169 #[.func (.yield l) #[] #[],.pointer (some ⟨Bm,0,none⟩)] W fun e W'=>(∃ v,e=.returned v)/\((∃ ss:List Int,gy D0 ss/\J ss W')\/(∃ pre,Jx pre W')):=by
 refine callsIn_of_wp func169 rfl trivial ?_ rfl;simp only [ntmps169,List.size_toArray,List.length_cons,List.length_nil,Nat.reduceAdd,Nat.reduceSub,Array.replicate_succ,Array.replicate_zero,List.push_toArray,List.append_toArray,List.nil_append,List.cons_append]
 gi_wp2_with (first
  | (gi_at_range;refine wpListIn_range_own _ rfl _ 129 rfl 23 _ gD underlying129 _ b nn _ rfl bj ?_;intro w0 my ri GP)
  | gi_in)
 go_frame
 gi_loopw [3] (fun _ wr=>∃ (left:Lit->Bool) (kc:Nat) (ss:List Int),wr.ranges prog 23 R b W.heap.size nn D0 left kc/\ss.length+kc<=Maps.size D0/\jt D0 left ss/\J ss wr)
  (fun _ wr=>wr.rangeLeft b W.heap.size)
 case atStart=>exact ⟨_,_,[],my,by simp,jt.start D0,hJ [] W w0 none h0 ri (fun r e=>by cases e)⟩
 case round =>(
 obtain ⟨left,kc,ss,kK,CM,hC,M8⟩:=hrel
 gi_wp2_with (first
  | (gi_at_next;refine wpListIn_next_ranges _ rfl _ rfl 23 gD R di id (fun key kl hk=>by obtain ⟨x,hx,_⟩:=Maps.keyOf_int_inv underlying23 hk;exact ⟨x,hx⟩) (fun v _ _=>⟨v,rfl⟩) b W.heap.size nn _ _ _ rfl kK ?_ ?_)
  | gi_in)
 {
 intro Xx rh
 gi_wp2
 go_end0
 exact ⟨⟨_,rfl⟩,.inl ⟨ss,hC.all rh (by omega),M8⟩⟩};{
 intro x c kl yd yp w2 IC dC hlk hv fo sJ br dV GO wF;obtain ⟨x',ex,rfl,_⟩:=Maps.keyOf_int_inv underlying23 dC;obtain rfl:x=x':=by simpa [di] using ex
 have U3:J ss w2:=hJ ss wr w2 (some W.heap.size) M8 dV (fun r e=>by cases e;exact ⟨Nat.le_refl _,kK.iter_walk⟩);obtain ⟨fn,tmps,assign,body,hy,hR⟩:=hY ss x w2 U3 (by omega);clear GO
 gi_wp2
 refine hR.mono ?_;rintro e W3 (⟨rfl,UZ,Uk⟩ | ⟨rfl,Hs⟩);{
 gi_wp2
 have oY:=sJ.of_walks Uk;go_roundw
 case rel=>exact ⟨_,IC,ss++[x],oY,by simp;omega,hC.step hlk fo,UZ⟩
 case measure=>rw [oY.left_eq,kK.left_eq];exact br}
 {
 gi_wp2
 refine bodyPost_ret (results_none rfl _ _ _) rfl ?_;exact ⟨⟨_,rfl⟩,.inr ⟨_,Hs⟩⟩}})
theorem AR (n:Nat) (mb:Option Nat) (w:World) :
  CallsIn Fence.wide n prog 144 #[.map mb] w fun e w'=>e=.returned (.func (.func 169) #[] #[.pointer (some ⟨w.heap.size,0,none⟩)])/\w'=w.alloc (.cells #[.map mb] 129):=by
 refine callsIn_of_wp func144 rfl trivial ?_ rfl;simp only [ntmps144,List.size_toArray,List.length_cons,List.length_nil,Nat.reduceAdd,Nat.reduceSub,Array.replicate_succ,Array.replicate_zero,List.push_toArray,List.append_toArray,List.nil_append,List.cons_append]
 gi_wp2
 go_ret;exact ⟨rfl,rfl⟩
theorem vI {H:Type} (n:Nat) (hn:1<=n) (Bm b nn:Nat) (D0:DataW H) {R:Value->Option (DataW H × List MemPlace)} (w:World) (Vd:Bm<w.heap.size)
  (hm:w.cell? ⟨Bm,0,none⟩=some (.map (some b))) (bj:w.ownsMap prog 23 R b nn D0) :
  SeqStopsK Fence.wide n prog 169 #[.pointer (some ⟨Bm,0,none⟩)] (fun x:Int=>#[di x]) KeepsWalks (gy D0) (fun _=>True) (Maps.size D0) w:=fun l J Jx W hW hJ _ hY h0=>by
 have jK:W.ownsMap prog 23 R b nn D0:=by have Bk:=bj.lt;obtain ⟨es,clock,hb,Ft,hs,hD⟩:=bj;exact ⟨es,clock,(hW.block b Bk).trans hb,Ft,hs,hD⟩
 refine (vW n hn l Bm b nn D0 J Jx hY W hJ ((hW.cell (p:=⟨Bm,0,none⟩) Vd).trans hm) jK h0).mono ?_;rintro e W' ⟨he,⟨ss,hs,hj⟩ | ⟨pre,hj⟩⟩;{exact ⟨he,.inl ⟨ss,hs,hj⟩⟩};{exact ⟨he,.inr ⟨pre,trivial,hj⟩⟩}
theorem Ki {H:Type} (n:Nat) (hn:1<=n) (l Bm b nn:Nat) (D0:DataW H) {R:Value->Option (DataW H × List MemPlace)} (J Jx:List Int->World->Prop)
  (hY:∀ pre x W,J pre W->pre.length<Maps.size D0->YieldAt Fence.wide (n-1) prog l #[di x] W fun e W'=>(e=.returned (.bool true)/\J (pre++[x]) W'/\KeepsWalks W W')\/(e=.returned (.bool false)/\Jx (pre++[x]) W'))
  (W:World) (hJ:AbidesFrom W.heap.size J) (hm:W.cell? ⟨Bm,0,none⟩=some (.map (some b))) (bj:W.ownsMap prog 23 R b nn D0) (h0:J [] W) :
  CallsIn Fence.wide n prog 183 #[.func (.yield l) #[] #[],.pointer (some ⟨Bm,0,none⟩)] W fun e W'=>(∃ v,e=.returned v)/\((∃ ss:List Int,gy D0 ss/\J ss W')\/(∃ pre,Jx pre W')):=by
 refine callsIn_of_wp func183 rfl trivial ?_ rfl;simp only [ntmps183,List.size_toArray,List.length_cons,List.length_nil,Nat.reduceAdd,Nat.reduceSub,Array.replicate_succ,Array.replicate_zero,List.push_toArray,List.append_toArray,List.nil_append,List.cons_append]
 gi_wp2_with (first
  | (gi_at_range;refine wpListIn_range_own _ rfl _ 83 rfl 23 _ gD underlying83 _ b nn _ rfl bj ?_;intro w0 my ri GP)
  | gi_in)
 go_frame
 gi_loopw [3] (fun _ wr=>∃ (left:Lit->Bool) (kc:Nat) (ss:List Int),wr.ranges prog 23 R b W.heap.size nn D0 left kc/\ss.length+kc<=Maps.size D0/\jt D0 left ss/\J ss wr)
  (fun _ wr=>wr.rangeLeft b W.heap.size)
 case atStart=>exact ⟨_,_,[],my,by simp,jt.start D0,hJ [] W w0 none h0 ri (fun r e=>by cases e)⟩
 case round =>(
 obtain ⟨left,kc,ss,kK,CM,hC,M8⟩:=hrel
 gi_wp2_with (first
  | (gi_at_next;refine wpListIn_next_ranges _ rfl _ rfl 23 gD R di id (fun key kl hk=>by obtain ⟨x,hx,_⟩:=Maps.keyOf_int_inv underlying23 hk;exact ⟨x,hx⟩) (fun v _ _=>⟨v,rfl⟩) b W.heap.size nn _ _ _ rfl kK ?_ ?_)
  | gi_in)
 {
 intro Xx rh
 gi_wp2
 go_end0
 exact ⟨⟨_,rfl⟩,.inl ⟨ss,hC.all rh (by omega),M8⟩⟩};{
 intro x c kl yd yp w2 IC dC hlk hv fo sJ br dV GO wF;obtain ⟨x',ex,rfl,_⟩:=Maps.keyOf_int_inv underlying23 dC;obtain rfl:x=x':=by simpa [di] using ex
 have U3:J ss w2:=hJ ss wr w2 (some W.heap.size) M8 dV (fun r e=>by cases e;exact ⟨Nat.le_refl _,kK.iter_walk⟩);obtain ⟨fn,tmps,assign,body,hy,hR⟩:=hY ss x w2 U3 (by omega);clear GO
 gi_wp2
 refine hR.mono ?_;rintro e W3 (⟨rfl,UZ,Uk⟩ | ⟨rfl,Hs⟩);{
 gi_wp2
 have oY:=sJ.of_walks Uk;go_roundw
 case rel=>exact ⟨_,IC,ss++[x],oY,by simp;omega,hC.step hlk fo,UZ⟩
 case measure=>rw [oY.left_eq,kK.left_eq];exact br}
 {
 gi_wp2
 refine bodyPost_ret (results_none rfl _ _ _) rfl ?_;exact ⟨⟨_,rfl⟩,.inr ⟨_,Hs⟩⟩}})
theorem OE (n:Nat) (mb:Option Nat) (w:World) :
  CallsIn Fence.wide n prog 173 #[.map mb] w fun e w'=>e=.returned (.func (.func 183) #[] #[.pointer (some ⟨w.heap.size,0,none⟩)])/\w'=w.alloc (.cells #[.map mb] 83):=by
 refine callsIn_of_wp func173 rfl trivial ?_ rfl;simp only [ntmps173,List.size_toArray,List.length_cons,List.length_nil,Nat.reduceAdd,Nat.reduceSub,Array.replicate_succ,Array.replicate_zero,List.push_toArray,List.append_toArray,List.nil_append,List.cons_append]
 gi_wp2
 go_ret;exact ⟨rfl,rfl⟩
theorem JH {H:Type} (n:Nat) (hn:1<=n) (Bm b nn:Nat) (D0:DataW H) {R:Value->Option (DataW H × List MemPlace)} (w:World) (Vd:Bm<w.heap.size)
  (hm:w.cell? ⟨Bm,0,none⟩=some (.map (some b))) (bj:w.ownsMap prog 23 R b nn D0) :
  SeqStopsK Fence.wide n prog 183 #[.pointer (some ⟨Bm,0,none⟩)] (fun x:Int=>#[di x]) KeepsWalks (gy D0) (fun _=>True) (Maps.size D0) w:=fun l J Jx W hW hJ _ hY h0=>by
 have jK:W.ownsMap prog 23 R b nn D0:=by have Bk:=bj.lt;obtain ⟨es,clock,hb,Ft,hs,hD⟩:=bj;exact ⟨es,clock,(hW.block b Bk).trans hb,Ft,hs,hD⟩
 refine (Ki n hn l Bm b nn D0 J Jx hY W hJ ((hW.cell (p:=⟨Bm,0,none⟩) Vd).trans hm) jK h0).mono ?_;rintro e W' ⟨he,⟨ss,hs,hj⟩ | ⟨pre,hj⟩⟩;{exact ⟨he,.inl ⟨ss,hs,hj⟩⟩};{exact ⟨he,.inr ⟨pre,trivial,hj⟩⟩}
end Q
namespace Q
open Go.Maps
theorem Hid.nO (h:p):Hid p:=h
theorem kT (h:Hid p):p:=h
theorem gx (W:World) (l:Nat) (o:Obj):W.grownBy (W.putObj l o) (some l):=⟨rfl,rfl,rfl,by simp,fun k _ hk=>World.putObj_heap_other (fun e=>hk (by rw [e]))⟩
theorem lM (W:World) (b:Nat) (v:Value):W.grownBy (W.setCell ⟨b,0,none⟩ v) (some b):=⟨rfl,rfl,rfl,by simp,fun k _ hk=>Below.heap_setCell _ _ _ k (fun e=>hk (by rw [e]))⟩
theorem jF {size:Nat} (h:W.ownsRow base e size v k xs) (hj:W.heap[j]?=some o) (ho:o.isCells=false):v.ownBlock=none\/v.ownBlock≠some j:=by
  rcases h.2 with ⟨rfl,_⟩ | ⟨g,cap,cur,rfl,_,KO,_⟩;{exact .inl rfl};{
 refine .inr fun e'=>?_;have:g=j:=by simpa [Value.ownBlock] using e'
 subst this;rw [KO] at hj;cases hj;cases ho}
theorem oz {row:Option Nat} {size:Nat} (h:W.ownsRow base e size v k xs) (hg:W.grownBy W' row)
    (hr:∀ r,row=some r->∃ o:Obj,W.heap[r]?=some o/\o.isCells=false):W'.ownsRow base e size v k xs:=by
  refine h.kept hg ?_;cases hv:v.ownBlock with
  | none=>exact .inl rfl
  | some j=>
    refine .inr fun e'=>?_;obtain ⟨o,ho,hc⟩:=hr j e'.symm;rcases jF h ho hc with e1 | e1;{rw [hv] at e1;cases e1};{exact e1 hv}
theorem nI {size:Nat} (h:W.ownsRow base e size v k xs) (hg:W.grownBy W' v.ownBlock):KeepsOthers W W':=
  ⟨hg.size,fun j o hj ho=>(hg.block j (Array.getElem?_eq_some_iff.1 hj).1 (fun e1=>by rcases jF h hj ho with e2 | e2;{rw [e2] at e1;cases e1};{exact e2 e1.symm})).trans hj⟩
structure Got (w0:World) (Bs:Nat) (pre:List Int) (v:Value) (W:World):Prop where
  cell:W.cell? ⟨Bs,0,none⟩=some v
  fr:W.frozen? ⟨Bs,0,none⟩=false
  row:W.ownsRow (Bs+1) 23 1 v pre.length (pre.map di)
  nil:v=.slice none 0 0↔pre=[]
theorem ki (n:Nat) (hn:2<=n) (g:Nat) (lb:Array Value) (eg:∀ args w,(callFunc g args).run prog w=.ok (.enter g args) w)
    (S Sp:List Int->Prop) (N:Nat) (hN:N<=1048576) (w:World) (lE:SeqStopsK Fence.wide (n-1) prog g lb (fun x:Int=>#[di x]) KeepsWalks S Sp N w) :
    CallsIn Fence.wide n prog 178 #[.slice none 0 0,.func (.func g) #[] lb] w fun e w'=>∃ (v:Value) (ss:List Int),e=.returned v/\S ss/\w'.ownsRow (w.heap.size+1) 23 1 v ss.length (ss.map di)/\(v=.slice none 0 0↔ss=[])/\Below w.heap.size w w':=by
  have h1:1<=n:=by omega
  obtain ⟨i0,hi,mX,ik,jv⟩:=info_parts (P:=prog) (e:=23) (z:=.int .u64 0) (size:=1) (bytes:=8) (by kernel_rfl);refine callsIn_of_wp_marks func178 rfl trivial ?_ rfl;simp only [ntmps178,List.size_toArray,List.length_cons,List.length_nil,Nat.reduceAdd,Nat.reduceSub,Array.replicate_succ,Array.replicate_zero,List.push_toArray,List.append_toArray,List.nil_append,List.cons_append]
  gi_wp2
  obtain ⟨W0,cA⟩:=ar (w.alloc (.cells #[.slice none 0 0] 36));have z0:W0.heap.size=w.heap.size+1:=by rw [cA];simp
  have k0:W0.cell? ⟨w.heap.size,0,none⟩=some (.slice none 0 0):=by rw [cA];simp
  have f0:W0.frozen? ⟨w.heap.size,0,none⟩=false:=by rw [cA];simp
  have PX:Below w.heap.size w W0:=by rw [cA];exact ay.alloc ax _
  rw [<-cA];clear cA;refine wpIn_rangeFunc_ownF (F:=Fence.wide) rfl h1 (gf:=g) (lb:=lb) rfl trivial eg lE (fun h k=>h.trans k) (fun W l o o' _ hl _ hw=>KeepsWalks.putObj _ hl hw) PX (fun _=>rfl)
    (fun pre W=>(∃ v,Got w w.heap.size pre v W)/\Below w.heap.size w W)
    (fun _ _ _=>False)
    (OwnFrom.and (Own.from (fun s A B row hs hg hr=>by obtain ⟨v,hv⟩:=hs;exact ⟨v,cell_kept hv.cell hg hr,(frozen_kept hv.cell hg hr).trans hv.fr,oz hv.row hg hr,hv.nil⟩) _) (ownFrom_below ax (by omega)))
    (fun _ _ _ _ _ hs _ _=>hs)
    ⟨⟨_,k0,f0,⟨rfl,.inl ⟨rfl,rfl⟩⟩,by simp⟩,PX⟩
    (fun x=>{ tmps:=#[.slice none 0 0,.func (.func g) #[] lb,.pointer (some ⟨w.heap.size,0,none⟩),undef,.slice none 0 0,di x,.func (.func g) #[] lb,di x,undef,undef,undef,undef,undef],defers:=[] }) ?assign ?body ?done ?stop
  case assign =>(
 intro l x W K hK
 gi_wp2_with (rw [Oper.semAt_eq _ _ _ (fun c h=>by cases h)];go_simp;try go_bits)
 exact hK)
  case body =>(
 rintro L pre x W ⟨⟨v,hv⟩,ij⟩ CJ;have hc:=hv.cell;have hf:=hv.fr;have dN:=hv.row;have br:w.heap.size<W.heap.size:=World.block_lt_of_cell? W _ hc;have yt:=dN.alloc (.cells #[di x] 23)
 gi_wp2_with (first
   | (gi_at_builtin;refine wpListIn_append_own _ rfl _ _ 36 rfl (w.heap.size+1) 23 i0 (.int .u64 0) 1 8 underlying36 hi mX ik jv rfl (by decide) _ _ _ rfl yt ⟨W.heap.size,0,none⟩ 1 1 [di x] rfl rfl (cell_one_new _ _ _) (by simp [Value.oneCell',di]) (by unfold maxLen;omega) (by omega) (by simp;omega) ?_;intro v' w3 jK qL GV
      have wC:(W.alloc (.cells #[di x] 23)).grownBy w3 v.ownBlock:=qL;have Pb:some w.heap.size≠v.ownBlock:=fun e=>by have:=(dN.lt _ e.symm).1;omega
      have KS:(W.alloc (.cells #[di x] 23)).cell? ⟨w.heap.size,0,none⟩=some v:=(World.cell?_of_block (a:=⟨w.heap.size,0,none⟩) (Below.heap_alloc _ _ _ br)).trans hc;have KP:(W.alloc (.cells #[di x] 23)).frozen? ⟨w.heap.size,0,none⟩=false:=(World.frozen?_of_block (a:=⟨w.heap.size,0,none⟩) (Below.heap_alloc _ _ _ br)).trans hf;have dA:w3.heap[w.heap.size]?=(W.alloc (.cells #[di x] 23)).heap[w.heap.size]?:=wC.block _ (by simp;omega) Pb;have KU:w3.cell? ⟨w.heap.size,0,none⟩=some v:=(World.cell?_of_block (a:=⟨w.heap.size,0,none⟩) dA).trans KS;have rn:w3.frozen? ⟨w.heap.size,0,none⟩=false:=(World.frozen?_of_block (a:=⟨w.heap.size,0,none⟩) dA).trans KP;obtain ⟨g',tz,rfl⟩:∃ g' tz,v'=.slice (some ⟨g',0,none⟩) (pre.length+1) tz:=by rcases jK.2 with ⟨_,h0⟩ | ⟨g',tz,_,h',_⟩;{exact absurd h0 (by omega)};{exact ⟨g',tz,h'⟩}
      have Wl:=Hid.nO ((KeepsOthers.alloc W (.cells #[di x] 23)).trans (nI yt wC));have jy:=Hid.nO (((ij.alloc ij.size (.cells #[di x] 23)).grown wC (by have:=ij.size;simp;omega) (fun k e=>by have:=(dN.lt k e).1;omega)));have Jt:=Hid.nO jK;clear jK GV qL wC KS KP dA
      go_frame)
   | (rw [Oper.semAt_eq _ _ _ (fun c h=>by cases h)];go_simp;try go_bits))
 refine ⟨(kT Wl).trans (KeepsOthers.setCell _ _ _),((kT Wl).trans (KeepsOthers.setCell _ _ _)).walks,⟨_,World.cell?_setCell_same _ _ _ KU,by rw [World.frozen?_setCell];exact rn,?_,by simp⟩,(kT jy).setCell (p:=⟨w.heap.size,0,none⟩) ax _⟩;have hr:=(kT Jt).kept (lM w3 w.heap.size (.slice (some ⟨g',0,none⟩) (pre.length+1) tz)) (.inr (fun e=>by have:=((kT Jt).lt _ e).1;omega));simpa using hr)
  case done =>(
 rintro D ys W hD hS ⟨⟨v,hv⟩,ij⟩ hK;have hc:=hv.cell
 gi_wp2
 refine ⟨by simp,.inl ⟨_,_,rfl,run_takeDeferred hK,?_⟩⟩;exact ⟨_,results_tmp rfl _ _ _,v,ys,rfl,hS,oz hv.row (gx _ _ _) (fun r e=>by cases e;exact ⟨_,hK,rfl⟩),hv.nil,ij.grown (gx _ _ _) ij.size (fun k e=>by cases e;omega)⟩)
  case stop =>(
 rintro D c pre W _ _ h _;exact h.elim)
end Q
namespace T
open Go.Sort
abbrev HT (w:World) (aB off:Nat) (d:Array (List UInt8)):Prop:=Holds (fun x:List UInt8=>Value.string ⟨x.toArray⟩) w aB off d
theorem rZ (cap:Nat) (w:World):Calls prog 171 #[.slice none 0 cap] w fun e w'=>e=.returned (.tuple #[])/\w'=w:=Tryz.slices_Sort_string_none none cap w
theorem qd (aB off cap:Nat) (l:List (List UInt8)) (fI:l.length<=1048576) (w:World) (h:HT w aB off l.toArray) (gG:aB<w.heap.size) :
  Calls prog 171 #[.slice (some ⟨aB,off,none⟩) l.length cap] w fun e w'=>
   e=.returned (.tuple #[])/\HT w' aB off (l.mergeSort (fun x y=>decide (x<=y))).toArray/\w.grownBy w' (some aB):=by
 refine (Tryz.slices_Sort_string aB off cap l w h gG (by omega)).mono ?_;rintro e w' ⟨rfl,n,os,rfl⟩;have hz:(putRow encStr (Sort.ahead w n) aB off (l.mergeSort fun x y=>decide (x<=y)).toArray).heap.size=w.heap.size:=by simp [putRow,mapBlock,Sort.ahead]
 have hb:∀ i,i<w.heap.size->(grow (putRow encStr (Sort.ahead w n) aB off (l.mergeSort fun x y=>decide (x<=y)).toArray) os).heap[i]?=(putRow encStr (Sort.ahead w n) aB off (l.mergeSort fun x y=>decide (x<=y)).toArray).heap[i]?:=fun i hi=>Array.getElem?_append_left (by rw [hz];exact hi);have hH:=holds_putRow encStr (Sort.ahead w n) aB off l.toArray (l.mergeSort fun x y=>decide (x<=y)).toArray h (by simp);refine ⟨rfl,fun j hj=>⟨(World.cell?_of_block (a:=⟨aB,off+j,none⟩) (hb aB gG)).trans (hH j hj).1,(World.frozen?_of_block (a:=⟨aB,off+j,none⟩) (hb aB gG)).trans (hH j hj).2⟩,rfl,rfl,rfl,by simp [grow,hz],fun i hi bq=>(hb i hi).trans ?_⟩;have:aB≠i:=fun e=>bq (by rw [e]);simp [putRow,mapBlock,Sort.ahead,Array.getElem?_modify,this]
theorem iy:∀ x y:List UInt8,Op.bytesLess x y=decide (x<y)
 | [],[]=>by simp [Op.bytesLess]
 | [],b::y=>by simp [Op.bytesLess]
 | a::x,[]=>by simp [Op.bytesLess]
 | a::x,b::y=>by have ih:=iy x y;simp only [Op.bytesLess,ih,List.cons_lt_cons_iff];by_cases h1:a<b;{simp [h1]};{by_cases h2:a=b;{subst h2;simp};{simp [h1,h2]}}
end T
namespace T
open Go.Maps
theorem gD:Keyed prog 9:=string_keyed underlying9
abbrev di (x:List UInt8):Value:=.string ⟨x.toArray⟩
def jt {H:Type} (D0:DataW H) (left:Lit->Bool) (ss:List (List UInt8)):Prop:=ss.Nodup/\∀ x,x∈ss↔(has D0 (.string x)=true/\left (.string x)=false)
theorem jt.start {H:Type} (D0:DataW H):jt D0 (has D0) []:=⟨List.nodup_nil,fun x=>by cases has D0 (.string x)<;>simp⟩
theorem jt.step {H:Type} {D0:DataW H} (h:jt D0 left ss) {x:List UInt8} {y:DataW H} (hlk:left (.string x)=true) (fo:∀ zd,D0.atKey (.string x) zd=y):jt D0 (fun z=>left z&&!z.sameKey (.string x)) (ss++[x]):=by
 have Bg:has D0 (.string x)=true:=has_true_of_atKey fo;have yy:x∉ss:=fun hx=>by have:=((h.2 x).1 hx).2;rw [hlk] at this;cases this
 refine ⟨List.nodup_append.2 ⟨h.1,by simp,fun a ha b hb=>by simp at hb;subst hb;exact fun e=>yy (e▸ha)⟩,fun y=>?_⟩;by_cases hy:y=x;{subst hy;simp [Bg,Lit.sameKey]};{simp [h.2 y,hy,Lit.sameKey]}
def gy {H:Type} (D0:DataW H) (ss:List (List UInt8)):Prop:=ss.Nodup/\(∀ x,x∈ss↔has D0 (.string x)=true)/\ss.length<=Maps.size D0
theorem jt.all {H:Type} {D0:DataW H} (h:jt D0 left ss) (hl:∀ kl,left kl=false) (hs:ss.length<=Maps.size D0):gy D0 ss:=⟨h.1,(fun x=>by rw [h.2 x,hl];simp),hs⟩
theorem vW {H:Type} (n:Nat) (hn:1<=n) (l Bm b nn:Nat) (D0:DataW H) {R:Value->Option (DataW H × List MemPlace)} (J Jx:List (List UInt8)->World->Prop)
  (hY:∀ pre x W,J pre W->pre.length<Maps.size D0->YieldAt Fence.wide (n-1) prog l #[di x] W fun e W'=>(e=.returned (.bool true)/\J (pre++[x]) W'/\KeepsWalks W W')\/(e=.returned (.bool false)/\Jx (pre++[x]) W'))
  (W:World) (hJ:AbidesFrom W.heap.size J) (hm:W.cell? ⟨Bm,0,none⟩=some (.map (some b))) (bj:W.ownsMap prog 9 R b nn D0) (h0:J [] W) :
  CallsIn Fence.wide n prog 172 #[.func (.yield l) #[] #[],.pointer (some ⟨Bm,0,none⟩)] W fun e W'=>(∃ v,e=.returned v)/\((∃ ss:List (List UInt8),gy D0 ss/\J ss W')\/(∃ pre,Jx pre W')):=by
 refine callsIn_of_wp func172 rfl trivial ?_ rfl;simp only [ntmps172,List.size_toArray,List.length_cons,List.length_nil,Nat.reduceAdd,Nat.reduceSub,Array.replicate_succ,Array.replicate_zero,List.push_toArray,List.append_toArray,List.nil_append,List.cons_append]
 gi_wp2_with (first
  | (gi_at_range;refine wpListIn_range_own _ rfl _ 130 rfl 9 _ gD underlying130 _ b nn _ rfl bj ?_;intro w0 my ri GP)
  | gi_in)
 go_frame
 gi_loopw [3] (fun _ wr=>∃ (left:Lit->Bool) (kc:Nat) (ss:List (List UInt8)),wr.ranges prog 9 R b W.heap.size nn D0 left kc/\ss.length+kc<=Maps.size D0/\jt D0 left ss/\J ss wr)
  (fun _ wr=>wr.rangeLeft b W.heap.size)
 case atStart=>exact ⟨_,_,[],my,by simp,jt.start D0,hJ [] W w0 none h0 ri (fun r e=>by cases e)⟩
 case round =>(
 obtain ⟨left,kc,ss,kK,CM,hC,M8⟩:=hrel
 gi_wp2_with (first
  | (gi_at_next;refine wpListIn_next_ranges _ rfl _ rfl 9 gD R di id (fun key kl hk=>by obtain ⟨x,hx,_⟩:=Maps.keyOf_str underlying9 hk;exact ⟨x,hx⟩) (fun v _ _=>⟨v,rfl⟩) b W.heap.size nn _ _ _ rfl kK ?_ ?_)
  | gi_in)
 {
 intro Xx rh
 gi_wp2
 go_end0
 exact ⟨⟨_,rfl⟩,.inl ⟨ss,hC.all rh (by omega),M8⟩⟩};{
 intro x c kl yd yp w2 IC dC hlk hv fo sJ br dV GO wF;obtain ⟨x',ex,rfl,_⟩:=Maps.keyOf_str underlying9 dC;obtain rfl:x=x':=by simpa [di] using ex
 have U3:J ss w2:=hJ ss wr w2 (some W.heap.size) M8 dV (fun r e=>by cases e;exact ⟨Nat.le_refl _,kK.iter_walk⟩);obtain ⟨fn,tmps,assign,body,hy,hR⟩:=hY ss x w2 U3 (by omega);clear GO
 gi_wp2
 refine hR.mono ?_;rintro e W3 (⟨rfl,UZ,Uk⟩ | ⟨rfl,Hs⟩);{
 gi_wp2
 have oY:=sJ.of_walks Uk;go_roundw
 case rel=>exact ⟨_,IC,ss++[x],oY,by simp;omega,hC.step hlk fo,UZ⟩
 case measure=>rw [oY.left_eq,kK.left_eq];exact br}
 {
 gi_wp2
 refine bodyPost_ret (results_none rfl _ _ _) rfl ?_;exact ⟨⟨_,rfl⟩,.inr ⟨_,Hs⟩⟩}})
theorem AR (n:Nat) (mb:Option Nat) (w:World) :
  CallsIn Fence.wide n prog 146 #[.map mb] w fun e w'=>e=.returned (.func (.func 172) #[] #[.pointer (some ⟨w.heap.size,0,none⟩)])/\w'=w.alloc (.cells #[.map mb] 130):=by
 refine callsIn_of_wp func146 rfl trivial ?_ rfl;simp only [ntmps146,List.size_toArray,List.length_cons,List.length_nil,Nat.reduceAdd,Nat.reduceSub,Array.replicate_succ,Array.replicate_zero,List.push_toArray,List.append_toArray,List.nil_append,List.cons_append]
 gi_wp2
 go_ret;exact ⟨rfl,rfl⟩
theorem vI {H:Type} (n:Nat) (hn:1<=n) (Bm b nn:Nat) (D0:DataW H) {R:Value->Option (DataW H × List MemPlace)} (w:World) (Vd:Bm<w.heap.size)
  (hm:w.cell? ⟨Bm,0,none⟩=some (.map (some b))) (bj:w.ownsMap prog 9 R b nn D0) :
  SeqStopsK Fence.wide n prog 172 #[.pointer (some ⟨Bm,0,none⟩)] (fun x:List UInt8=>#[di x]) KeepsWalks (gy D0) (fun _=>True) (Maps.size D0) w:=fun l J Jx W hW hJ _ hY h0=>by
 have jK:W.ownsMap prog 9 R b nn D0:=by have Bk:=bj.lt;obtain ⟨es,clock,hb,Ft,hs,hD⟩:=bj;exact ⟨es,clock,(hW.block b Bk).trans hb,Ft,hs,hD⟩
 refine (vW n hn l Bm b nn D0 J Jx hY W hJ ((hW.cell (p:=⟨Bm,0,none⟩) Vd).trans hm) jK h0).mono ?_;rintro e W' ⟨he,⟨ss,hs,hj⟩ | ⟨pre,hj⟩⟩;{exact ⟨he,.inl ⟨ss,hs,hj⟩⟩};{exact ⟨he,.inr ⟨pre,trivial,hj⟩⟩}
end T
namespace T
open Go.Maps
theorem Hid.nO (h:p):Hid p:=h
theorem kT (h:Hid p):p:=h
theorem gx (W:World) (l:Nat) (o:Obj):W.grownBy (W.putObj l o) (some l):=⟨rfl,rfl,rfl,by simp,fun k _ hk=>World.putObj_heap_other (fun e=>hk (by rw [e]))⟩
theorem lM (W:World) (b:Nat) (v:Value):W.grownBy (W.setCell ⟨b,0,none⟩ v) (some b):=⟨rfl,rfl,rfl,by simp,fun k _ hk=>Below.heap_setCell _ _ _ k (fun e=>hk (by rw [e]))⟩
theorem jF {size:Nat} (h:W.ownsRow base e size v k xs) (hj:W.heap[j]?=some o) (ho:o.isCells=false):v.ownBlock=none\/v.ownBlock≠some j:=by
  rcases h.2 with ⟨rfl,_⟩ | ⟨g,cap,cur,rfl,_,KO,_⟩;{exact .inl rfl};{
 refine .inr fun e'=>?_;have:g=j:=by simpa [Value.ownBlock] using e'
 subst this;rw [KO] at hj;cases hj;cases ho}
theorem oz {row:Option Nat} {size:Nat} (h:W.ownsRow base e size v k xs) (hg:W.grownBy W' row)
    (hr:∀ r,row=some r->∃ o:Obj,W.heap[r]?=some o/\o.isCells=false):W'.ownsRow base e size v k xs:=by
  refine h.kept hg ?_;cases hv:v.ownBlock with
  | none=>exact .inl rfl
  | some j=>
    refine .inr fun e'=>?_;obtain ⟨o,ho,hc⟩:=hr j e'.symm;rcases jF h ho hc with e1 | e1;{rw [hv] at e1;cases e1};{exact e1 hv}
theorem nI {size:Nat} (h:W.ownsRow base e size v k xs) (hg:W.grownBy W' v.ownBlock):KeepsOthers W W':=
  ⟨hg.size,fun j o hj ho=>(hg.block j (Array.getElem?_eq_some_iff.1 hj).1 (fun e1=>by rcases jF h hj ho with e2 | e2;{rw [e2] at e1;cases e1};{exact e2 e1.symm})).trans hj⟩
structure Got (w0:World) (Bs:Nat) (pre:List (List UInt8)) (v:Value) (W:World):Prop where
  cell:W.cell? ⟨Bs,0,none⟩=some v
  fr:W.frozen? ⟨Bs,0,none⟩=false
  row:W.ownsRow (Bs+1) 9 1 v pre.length (pre.map di)
  nil:v=.slice none 0 0↔pre=[]
theorem ki (n:Nat) (hn:2<=n) (g:Nat) (lb:Array Value) (eg:∀ args w,(callFunc g args).run prog w=.ok (.enter g args) w)
    (S Sp:List (List UInt8)->Prop) (N:Nat) (hN:N<=1048576) (w:World) (lE:SeqStopsK Fence.wide (n-1) prog g lb (fun x:List UInt8=>#[di x]) KeepsWalks S Sp N w) :
    CallsIn Fence.wide n prog 181 #[.slice none 0 0,.func (.func g) #[] lb] w fun e w'=>∃ (v:Value) (ss:List (List UInt8)),e=.returned v/\S ss/\w'.ownsRow (w.heap.size+1) 9 1 v ss.length (ss.map di)/\(v=.slice none 0 0↔ss=[])/\Below w.heap.size w w':=by
  have h1:1<=n:=by omega
  obtain ⟨i0,hi,mX,ik,jv⟩:=info_parts (P:=prog) (e:=9) (z:=.string ⟨#[]⟩) (size:=1) (bytes:=16) (by kernel_rfl);refine callsIn_of_wp_marks func181 rfl trivial ?_ rfl;simp only [ntmps181,List.size_toArray,List.length_cons,List.length_nil,Nat.reduceAdd,Nat.reduceSub,Array.replicate_succ,Array.replicate_zero,List.push_toArray,List.append_toArray,List.nil_append,List.cons_append]
  gi_wp2
  obtain ⟨W0,cA⟩:=ar (w.alloc (.cells #[.slice none 0 0] 157));have z0:W0.heap.size=w.heap.size+1:=by rw [cA];simp
  have k0:W0.cell? ⟨w.heap.size,0,none⟩=some (.slice none 0 0):=by rw [cA];simp
  have f0:W0.frozen? ⟨w.heap.size,0,none⟩=false:=by rw [cA];simp
  have PX:Below w.heap.size w W0:=by rw [cA];exact ay.alloc ax _
  rw [<-cA];clear cA;refine wpIn_rangeFunc_ownF (F:=Fence.wide) rfl h1 (gf:=g) (lb:=lb) rfl trivial eg lE (fun h k=>h.trans k) (fun W l o o' _ hl _ hw=>KeepsWalks.putObj _ hl hw) PX (fun _=>rfl)
    (fun pre W=>(∃ v,Got w w.heap.size pre v W)/\Below w.heap.size w W)
    (fun _ _ _=>False)
    (OwnFrom.and (Own.from (fun s A B row hs hg hr=>by obtain ⟨v,hv⟩:=hs;exact ⟨v,cell_kept hv.cell hg hr,(frozen_kept hv.cell hg hr).trans hv.fr,oz hv.row hg hr,hv.nil⟩) _) (ownFrom_below ax (by omega)))
    (fun _ _ _ _ _ hs _ _=>hs)
    ⟨⟨_,k0,f0,⟨rfl,.inl ⟨rfl,rfl⟩⟩,by simp⟩,PX⟩
    (fun x=>{ tmps:=#[.slice none 0 0,.func (.func g) #[] lb,.pointer (some ⟨w.heap.size,0,none⟩),undef,.slice none 0 0,di x,.func (.func g) #[] lb,di x,undef,undef,undef,undef,undef],defers:=[] }) ?assign ?body ?done ?stop
  case assign =>(
 intro l x W K hK
 gi_wp2_with (rw [Oper.semAt_eq _ _ _ (fun c h=>by cases h)];go_simp;try go_bits)
 exact hK)
  case body =>(
 rintro L pre x W ⟨⟨v,hv⟩,ij⟩ CJ;have hc:=hv.cell;have hf:=hv.fr;have dN:=hv.row;have br:w.heap.size<W.heap.size:=World.block_lt_of_cell? W _ hc;have yt:=dN.alloc (.cells #[di x] 9)
 gi_wp2_with (first
   | (gi_at_builtin;refine wpListIn_append_own _ rfl _ _ 157 rfl (w.heap.size+1) 9 i0 (.string ⟨#[]⟩) 1 16 underlying157 hi mX ik jv rfl (by decide) _ _ _ rfl yt ⟨W.heap.size,0,none⟩ 1 1 [di x] rfl rfl (cell_one_new _ _ _) (by simp [Value.oneCell',di]) (by unfold maxLen;omega) (by omega) (by simp;omega) ?_;intro v' w3 jK qL GV
      have wC:(W.alloc (.cells #[di x] 9)).grownBy w3 v.ownBlock:=qL;have Pb:some w.heap.size≠v.ownBlock:=fun e=>by have:=(dN.lt _ e.symm).1;omega
      have KS:(W.alloc (.cells #[di x] 9)).cell? ⟨w.heap.size,0,none⟩=some v:=(World.cell?_of_block (a:=⟨w.heap.size,0,none⟩) (Below.heap_alloc _ _ _ br)).trans hc;have KP:(W.alloc (.cells #[di x] 9)).frozen? ⟨w.heap.size,0,none⟩=false:=(World.frozen?_of_block (a:=⟨w.heap.size,0,none⟩) (Below.heap_alloc _ _ _ br)).trans hf;have dA:w3.heap[w.heap.size]?=(W.alloc (.cells #[di x] 9)).heap[w.heap.size]?:=wC.block _ (by simp;omega) Pb;have KU:w3.cell? ⟨w.heap.size,0,none⟩=some v:=(World.cell?_of_block (a:=⟨w.heap.size,0,none⟩) dA).trans KS;have rn:w3.frozen? ⟨w.heap.size,0,none⟩=false:=(World.frozen?_of_block (a:=⟨w.heap.size,0,none⟩) dA).trans KP;obtain ⟨g',tz,rfl⟩:∃ g' tz,v'=.slice (some ⟨g',0,none⟩) (pre.length+1) tz:=by rcases jK.2 with ⟨_,h0⟩ | ⟨g',tz,_,h',_⟩;{exact absurd h0 (by omega)};{exact ⟨g',tz,h'⟩}
      have Wl:=Hid.nO ((KeepsOthers.alloc W (.cells #[di x] 9)).trans (nI yt wC));have jy:=Hid.nO (((ij.alloc ij.size (.cells #[di x] 9)).grown wC (by have:=ij.size;simp;omega) (fun k e=>by have:=(dN.lt k e).1;omega)));have Jt:=Hid.nO jK;clear jK GV qL wC KS KP dA
      go_frame)
   | (rw [Oper.semAt_eq _ _ _ (fun c h=>by cases h)];go_simp;try go_bits))
 refine ⟨(kT Wl).trans (KeepsOthers.setCell _ _ _),((kT Wl).trans (KeepsOthers.setCell _ _ _)).walks,⟨_,World.cell?_setCell_same _ _ _ KU,by rw [World.frozen?_setCell];exact rn,?_,by simp⟩,(kT jy).setCell (p:=⟨w.heap.size,0,none⟩) ax _⟩;have hr:=(kT Jt).kept (lM w3 w.heap.size (.slice (some ⟨g',0,none⟩) (pre.length+1) tz)) (.inr (fun e=>by have:=((kT Jt).lt _ e).1;omega));simpa using hr)
  case done =>(
 rintro D ys W hD hS ⟨⟨v,hv⟩,ij⟩ hK;have hc:=hv.cell
 gi_wp2
 refine ⟨by simp,.inl ⟨_,_,rfl,run_takeDeferred hK,?_⟩⟩;exact ⟨_,results_tmp rfl _ _ _,v,ys,rfl,hS,oz hv.row (gx _ _ _) (fun r e=>by cases e;exact ⟨_,hK,rfl⟩),hv.nil,ij.grown (gx _ _ _) ij.size (fun k e=>by cases e;omega)⟩)
  case stop =>(
 rintro D c pre W _ _ h _;exact h.elim)
end T
namespace T
open Go.Maps Go.Sort
theorem nW (n:Nat) (hn:3<=n) (g:Nat) (lb:Array Value) (eg:∀ args w,(callFunc g args).run prog w=.ok (.enter g args) w)
  (S Sp:List (List UInt8)->Prop) (N:Nat) (hN:N<=1048576) (w:World) (lE:SeqStopsK Fence.wide (n-1-1) prog g lb (fun x:List UInt8=>#[di x]) KeepsWalks S Sp N w) :
  CallsIn Fence.wide n prog 170 #[.func (.func g) #[] lb] w fun e w'=>∃ (v:Value) (ss:List (List UInt8)),e=.returned v/\S ss/\w'.ownsRow (w.heap.size+1) 9 1 v ss.length (ss.map di)/\(v=.slice none 0 0↔ss=[])/\Below w.heap.size w w':=by
 have h1:1<=n:=by omega
 have Rk:Fence.wide.fn 181:=trivial;refine callsIn_of_wp func170 rfl trivial ?_ rfl;simp only [ntmps170,List.size_toArray,List.length_cons,List.length_nil,Nat.reduceAdd,Nat.reduceSub,Array.replicate_succ,Array.replicate_zero,List.push_toArray,List.append_toArray,List.nil_append,List.cons_append]
 gi_wp2_with (gi_at_call 181;refine (ki (n-1) (by omega) g lb eg S Sp N hN _ lE).mono ?_;rintro e w' ⟨v,ss,rfl,hS,dN,uo,hb⟩)
 go_ret;exact ⟨v,ss,rfl,hS,dN,uo,hb⟩
theorem AZ {cur:Array Value} (hb:w.heap[g]?=some (.cells cur e (0,0))) (ht:cur.toList.take ss.length=ss.map di):HT w g 0 ss.toArray:=by
 intro j hj;have Pl:j<ss.length:=by simpa using hj
 refine ⟨?_,by simp [World.frozen?,hb]⟩;have h1:(cur.toList.take ss.length)[j]?=(ss.map di)[j]?:=by rw [ht]
 rw [List.getElem?_take_of_lt Pl] at h1;simp only [World.cell?,hb,Nat.zero_add];simp only [Option.isSome_none,Bool.false_eq_true,if_false];rw [<-Array.getElem?_toList,h1];simp [Pl,di]
def LY (B:Nat) (w:World) (v:Value) (ss:List (List UInt8)):Prop:=(v=.slice none 0 0/\ss=[])\/∃ g cap,v=.slice (some ⟨g,0,none⟩) ss.length cap/\B<=g/\g<w.heap.size/\HT w g 0 ss.toArray
structure Mn {H:Type} (D0:DataW H) (ss:List (List UInt8)):Prop where
 lt:ss.Pairwise (·<·)
 mem:∀ x,x∈ss↔has D0 (.string x)=true
 size:ss.length<=Maps.size D0
theorem xi {H:Type} {D0:DataW H} (h:gy D0 ss):Mn D0 (ss.mergeSort (fun x y=>decide (x<=y))):=by
 have hp:=List.mergeSort_perm ss (fun x y=>decide (x<=y));refine ⟨?_,fun x=>(hp.mem_iff).trans (h.2.1 x),by rw [hp.length_eq];exact h.2.2⟩;have h1:=List.pairwise_mergeSort (le:=fun x y:List UInt8=>decide (x<=y)) (fun a b c h1 h2=>by simp only [decide_eq_true_eq] at *;exact List.le_trans h1 h2) (fun a b=>by simp only [Bool.or_eq_true,decide_eq_true_eq];exact List.le_total a b) ss;have h2:(ss.mergeSort (fun x y=>decide (x<=y))).Pairwise (·≠·):=hp.nodup_iff.2 h.1;refine (h1.and h2).imp (fun {a b} ⟨x,y⟩=>?_);simp only [decide_eq_true_eq] at x;exact Decidable.byContradiction fun hh=>y (List.le_antisymm x hh)
theorem l8 (n:Nat) (hn:4<=n) (g:Nat) (lb:Array Value) (eg:∀ args w,(callFunc g args).run prog w=.ok (.enter g args) w)
  (S Sp:List (List UInt8)->Prop) (N:Nat) (hN:N<=1048576) (hS:∀ ss,S ss->ss.length<=1048576) (w:World) (lE:SeqStopsK Fence.wide (n-1-1-1) prog g lb (fun x:List UInt8=>#[di x]) KeepsWalks S Sp N w) :
  CallsIn Fence.wide n prog 145 #[.func (.func g) #[] lb] w fun e w'=>∃ (v:Value) (ss:List (List UInt8)),e=.returned v/\S ss/\LY w.heap.size w' v (ss.mergeSort (fun x y=>decide (x<=y)))/\Below w.heap.size w w':=by
 have h1:1<=n:=by omega
 have Ur:Fence.wide.fn 170:=trivial;have Rk:Fence.wide.fn 171:=trivial;refine callsIn_of_wp func145 rfl trivial ?_ rfl;simp only [ntmps145,List.size_toArray,List.length_cons,List.length_nil,Nat.reduceAdd,Nat.reduceSub,Array.replicate_succ,Array.replicate_zero,List.push_toArray,List.append_toArray,List.nil_append,List.cons_append]
 gi_wp2_with (gi_at_call 170;refine (nW (n-1) (by omega) g lb eg S Sp N hN _ lE).mono ?_;rintro e w' ⟨v,ss,rfl,PH,dN,uo,hb⟩)
 rcases dN.2 with ⟨rfl,_⟩ | ⟨gb,cap,cur,rfl,pr,KO,gF,tL,Tx,ZD⟩;{
 have e0:ss=[]:=uo.1 rfl;subst e0
 gi_wp2_with (gi_at_call 171;refine (callsIn_wide.2 (rZ 0 _)).mono ?_;rintro e w2 ⟨rfl,rfl⟩)
 go_ret;exact ⟨_,[],rfl,PH,.inl ⟨rfl,by simp⟩,hb⟩};{
 have br:gb<w'.heap.size:=(Array.getElem?_eq_some_iff.1 KO).1;have hH:=AZ KO (by simpa using ZD)
 gi_wp2_with (gi_at_call 171;refine (callsIn_wide.2 (qd gb 0 cap ss (hS ss PH) _ hH br)).mono ?_;rintro e w2 ⟨rfl,pR,dV⟩)
 go_ret;refine ⟨_,ss,rfl,PH,.inr ⟨gb,cap,by rw [List.length_mergeSort];rfl,by omega,Nat.lt_of_lt_of_le br dV.size,pR⟩,?_⟩;exact hb.grown dV hb.size (fun k e=>by cases e;omega)}
theorem iq {H:Type} (b nn:Nat) (D0:DataW H) {R:Value->Option (DataW H × List MemPlace)} (w:World) (bj:w.ownsMap prog 9 R b nn D0) (fI:Maps.size D0<=1048576) :
  Calls prog 101 #[.map (some b)] w fun e w'=>∃ (v:Value) (ss:List (List UInt8)),e=.returned v/\Mn D0 ss/\LY w.heap.size w' v ss/\Below w.heap.size w w':=by
 refine (callsIn_wide (n:=6)).1 ?_;have hfK:Fence.wide.fn 146:=trivial;have Rk:Fence.wide.fn 145:=trivial;have Bk:=bj.lt;have kF:(w.alloc (.cells #[.map (some b)] 130)).ownsMap prog 9 R b nn D0:=by obtain ⟨es,clock,hb,Ft,hs,hD⟩:=bj;exact ⟨es,clock,(Below.heap_alloc _ _ b Bk).trans hb,Ft,hs,hD⟩
 have lE:=vI 2 (by omega) w.heap.size b nn D0 (w.alloc (.cells #[.map (some b)] 130)) (by simp) (by simp) kF;refine callsIn_of_wp func101 rfl trivial ?_ rfl;simp only [ntmps101,List.size_toArray,List.length_cons,List.length_nil,Nat.reduceAdd,Nat.reduceSub,Array.replicate_succ,Array.replicate_zero,List.push_toArray,List.append_toArray,List.nil_append,List.cons_append]
 gi_wp2_with (first
  | (gi_at_call 146;refine (AR _ _ _).mono ?_;rintro e w' ⟨rfl,rfl⟩)
  | (gi_at_call 145;refine (l8 5 (by omega) _ _ (fun args w=>(by kernel_rfl:(callFunc 172 args).run prog w=.ok (.enter 172 args) w)) _ _ _ fI (fun ss h=>Nat.le_trans h.2.2 fI) _ lE).mono ?_;rintro e w' ⟨v,ss,rfl,hS,yv,hb⟩))
 go_ret;refine ⟨v,_,rfl,xi hS,?_,((Below.refl _ w).alloc ax _).trans (hb.mono (by simp))⟩;rcases yv with h | ⟨g,cap,h1,h2,h3,h4⟩;{exact .inl h};{exact .inr ⟨g,cap,h1,by simp at h2;omega,h3,h4⟩}
end T
end Go.Proofs.YtcfcafeciggjeaaGreatDoor
