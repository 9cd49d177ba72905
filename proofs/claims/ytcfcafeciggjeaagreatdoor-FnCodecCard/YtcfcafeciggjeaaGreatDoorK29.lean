import Derived.Test.YtcfcafeciggjeaaGreatDoorK11
import Derived.Test.YtcfcafeciggjeaaGreatDoorQTs
import Derived.Lib.BitFns
import Derived.Lib.Walk
import Derived.Lib.Small
import Derived.Lib.Strings
import Derived.Lib.Slices
import Derived.Laws.Bits64
import Derived.Laws.Bits64b
import Derived.RangeFuncGives
import Derived.RangeFuncSeq
import Derived.Sort.MapsRangeIn
import Derived.OwnWalkIn
import Derived.TacticsInMore
import Derived.RegionIn
import Derived.LoopNIn
import Derived.LoopIn
import Derived.Maps.AppendAt
import Derived.RangeFuncKeeps
import Derived.RangeFuncFrom
import Derived.RangeFuncNested
import Derived.RangeFuncBound
import Derived.RangeFuncCalls
import Derived.RangeFuncLeaves
import Derived.Sort.KeysCollected
namespace Go.Proofs.YtcfcafeciggjeaaGreatDoor
set_option maxHeartbeats 6400000
set_option linter.all false
set_option maxRecDepth 100000
variable {W W':World} {a b base first g hi i i2 j j2 k r size:Nat} {cs xs:List Value} {d:Array Int} {e:TypeId} {left:Lit->Bool} {o:Obj} {p:Int->Bool} {ss:List (List UInt8)} {v:Value}
namespace Q
open Go.Sort Go.RowKit Go.Proofs.Tryz
theorem wC (lt:Int->Int->Bool) (a:Nat):∀ (j:Nat) (d:Array Int),(insInner lt a j d).size=d.size
 | 0,d=>rfl
 | j+1,d=>by rw [insInner];split;{rw [wC lt a j,size_swp]};{rfl}
theorem insInner_stop (h:¬ a<j\/ltInt d[j]! d[j-1]! = false):insInner ltInt a j d=d:=by
 cases j with
 | zero=>rfl
 | succ j=>
  rw [insInner,if_neg];rcases h with h | h;{simp;omega};{simp only [Nat.add_sub_cancel] at h;simp [h]}
theorem insInner_go (h:a<j) (hl:ltInt d[j]! d[j-1]! = true):insInner ltInt a j d=insInner ltInt a (j-1) (swp d j (j-1)):=by
 cases j with
 | zero=>omega
 | succ j=>
  simp only [Nat.add_sub_cancel] at hl ⊢;rw [insInner,if_pos (by simp [hl];omega)]
theorem ab6 (aI off cap N a b:Nat) (d:Array Int) (hN:Hid (d.size=N)) (w:World) (h:HU w aI off d) (FR:a<=b) (hb:b<=N) (il:N<=1048576) :
  Calls prog 185 #[.S (some ⟨aI,off,none⟩) N cap,.I a,.I b] w fun e w'=>e=.returned (.tuple #[])/\HU w' aI off (insertionSort ltInt d a b)/\w.grownBy w' (some aI):=by
 obtain ⟨D,eD⟩:=aH (insertionSort ltInt d a b);rw [eD];have ED:Hid (insOuter ltInt a b (a+1) d=D):=eD;have H0:=ae h;go_enter func185,ntmps185;go_wp2_with fail
 go_loopw [6] (fun s6 wr=>∃ (i:Nat) (dk:Array Int),s6=.I i/\i<=1048577/\a<i/\Hid (dk.size=N)/\Hid (HU wr aI off dk)/\Hid (insOuter ltInt a b i dk=D)/\Hid (w.grownBy wr (some aI))) (fun s6 _=>b-(intOf s6).toNat)
 case atStart=>exact ⟨a+1,d,by first | rfl | go_num,ab,ab,hN,H0,ED,ld _ _⟩
 case round =>(
 obtain ⟨i,dk,rfl,q1,q2,qO,xy,heq,hg⟩:=hrel;by_cases bj:i<b;{
 have da:=aT i b;have hq:=aa heq;rw [insOuter,if_pos bj] at hq;obtain ⟨E,eE⟩:=aH (insInner ltInt a i dk);rw [eE] at hq;have HQ:=ae hq;have EE:=ae eE;have hEs:Hid (E.size=N):=by show _=_;rw [<-eE,wC];exact aa qO
 go_wp2_with fail;obtain ⟨Y,eY⟩:=ax wr;subst eY;have HG0:=hg
 go_loopw [7] (fun s7 wr=>∃ (j:Nat) (dj:Array Int),s7=.I j/\j<=i/\a<=j/\Hid (dj.size=N)/\Hid (HU wr aI off dj)/\Hid (insInner ltInt a j dj=E)/\Hid (w.grownBy wr (some aI))) (fun s7 _=>(intOf s7).toNat)
 case atStart=>exact ⟨i,dk,rfl,Nat.le_refl _,ab,qO,xy,EE,HG0⟩
 case round =>(
 obtain ⟨j,dj,rfl,q3,q4,Rk,yi,FO,hg⟩:=hrel;by_cases hja:a<j;{
 have aM1:=aT a j;obtain ⟨m,em⟩:∃ m:Nat,(j:Int)-1=(m:Int):=⟨j-1,ab⟩;have Ud:j-1=m:=ab;have DM:=aa Rk;obtain ⟨cj,fj⟩:=aa yi j ab;obtain ⟨cm,fm⟩:=aa yi m ab;obtain ⟨y,ey⟩:=aH dj[j]!;obtain ⟨z,ez⟩:=aH dj[m]!;have Hh:=ae (yi.swap (i:=j) (j:=m) ab ab ez.symm ey.symm);rw [ey] at cj;rw [ez] at cm;have i1:=aT j N;have i2:=aT m N;have i3:=dE 0 m;have wm:=ji m;obtain ⟨B,eB⟩:=aH (ltInt y z);have EB:=ae eB;have oW:Hid (B=false->dj=E):=fun hB=>by rw [<-aa FO,insInner_stop (.inr (by rw [Ud,ey,ez,eB,hB]))]
 have Oz:Hid (B=true->insInner ltInt a m (swp dj j m)=E):=fun hB=>by rw [<-aa FO,insInner_go hja (by rw [Ud,ey,ez,eB,hB]),Ud]
 have vQ:Hid ((swp dj j m).size=N):=by show _=_;rw [size_swp];exact DM
 have HG:=ae (aQ (aQ hg (aE wr aI (off+j) (.U z))) (aE _ aI (off+m) (.U y)));have K0:=ae (ag cj cm);have FF:=ae (ag fj fm);go_wp2_with fail
 go_cut [30] (fun rv wc=>rv=.bool B/\wc=wr.drew)
 case first =>(
 refine bO (fun w'=>w'.cell? ⟨aI,off+j,none⟩=some (.U y)/\w'.cell? ⟨aI,off+m,none⟩=some (.U z)) (by exact K0) fun hS=>?_;refine gy 0 1 2 3 4 5 6 7 hS ?_;refine gC 8 9 10 11 hS ?_;refine tn 12 hS ?_;refine ry [13] ?_;refine cn (fun KK hK=>?_) ?_;{refine cL bU 191 _ _ _ bU (.U y) (.U z) bU bU (fun _=>dZ _ _) (dY y z _) ?_;rintro r w2 ⟨rfl,rfl⟩;refine ⟨_,rfl,?_⟩;rw [aa EB];refine cg hK (by exact K0) fun hS=>?_;refine tn 14 hS ?_;refine bu ?_;go_wp2_with fail;go_meet;exact ⟨rfl,rfl⟩};exact AllReadyH.nil)
 obtain ⟨rfl,rfl⟩:=hcut;cases B with
 | false=>
  have e:=aa oW rfl;subst e;go_wp2;go_roundw
  case rel=>exact ⟨i+1,dj,by go_num,ab,ab,Rk,yi.drew,HQ,ar hg⟩
  exact dC
 | true=>
  have e:=ae (aa Oz rfl);obtain ⟨cj,cm⟩:=aa K0;obtain ⟨fj,fm⟩:=aa FF;go_wp2_with fail
  go_region
  go_wp2;go_roundw
  case rel=>exact ⟨m,swp dj j m,by first | rfl | go_num,ab,ab,vQ,(aa Hh),e,ar (ar HG)⟩
  exact dC};{
 have aM1:=dy a j;have e:dj=E:=by rw [<-aa FO,insInner_stop (.inl hja)]
 subst e;go_wp2_with fail
 go_cut [30] (fun rv wc=>rv=.bool false/\wc=wr.drew)
 case first =>(
 refine bO (fun w'=>True) trivial fun hS=>?_;refine gC 0 1 2 3 hS ?_;refine iI 4 5 6 7 hS ?_;refine iI 8 9 10 11 hS ?_;refine sn 12 hS ?_;refine sn 13 hS ?_;refine tn 14 hS ?_;refine bu ?_;go_wp2_with fail;go_meet;exact ⟨rfl,rfl⟩)
 obtain ⟨rfl,rfl⟩:=hcut;go_wp2;go_roundw
 case rel=>exact ⟨i+1,dj,by go_num,ab,ab,Rk,yi.drew,HQ,ar hg⟩
 case measure=>simp [intOf];omega})}
 {
 have da:=dy i b;have hq:=aa heq;rw [insOuter,if_neg bj] at hq;subst hq;go_wp2
 go_end0
 exact ⟨rfl,xy,hg⟩})
end Q
namespace Q
open Go.Sort Go.RowKit Go.Proofs.Tryz
theorem KJ (h:¬ 2*r+1<hi):siftDown ltInt hi first r d=d:=by
 rw [siftDown,dif_pos ab]
def JT (hi first r:Nat) (d:Array Int):Nat:=if 2*r+1+1<hi&&ltInt d[first+(2*r+1)]! d[first+(2*r+1)+1]! then 2*r+2 else 2*r+1
theorem zQ (h:2*r+1<hi) (hl:ltInt d[first+r]! d[first+JT hi first r d]! = false):siftDown ltInt hi first r d=d:=by
 rw [siftDown,dif_neg ab];unfold JT at hl;split;{next hc=>rw [if_pos hc] at hl;rw [if_pos (by simp [hl])]}
 {next hc=>rw [if_neg hc] at hl;rw [if_pos (by simp [hl])]}
theorem Hc (h:2*r+1<hi) (hl:ltInt d[first+r]! d[first+JT hi first r d]! = true):siftDown ltInt hi first r d=siftDown ltInt hi first (JT hi first r d) (swp d (first+r) (first+JT hi first r d)):=by
 rw [siftDown,dif_neg ab];unfold JT at hl ⊢;split;{
 next hc=>
 rw [if_pos hc] at hl;rw [if_neg (by simp [hl])];have:2*r+2<hi:=by simp at hc;omega
 rw [dif_pos this]};{
 next hc=>
 rw [if_neg hc] at hl;rw [if_neg (by simp [hl])]}
theorem Cx (aI off cap N lo hi first:Nat) (d:Array Int) (hN:Hid (d.size=N)) (w:World) (h:HU w aI off d) (hh:first+hi<=N) (yB:lo<=N) (il:N<=1048576) :
  Calls prog 208 #[.S (some ⟨aI,off,none⟩) N cap,.I lo,.I hi,.I first] w fun e w'=>e=.returned (.tuple #[])/\HU w' aI off (siftDown ltInt hi first lo d)/\w.grownBy w' (some aI):=by
 obtain ⟨D,eD⟩:=aH (siftDown ltInt hi first lo d);rw [eD];have ED:=ae eD;have H0:=ae h;go_enter func208,ntmps208;go_wp2_with fail
 go_loopw [8] (fun s8 wr=>∃ (r:Nat) (dk:Array Int),s8=.I r/\r<=1048576/\Hid (dk.size=N)/\Hid (HU wr aI off dk)/\Hid (siftDown ltInt hi first r dk=D)/\Hid (w.grownBy wr (some aI))) (fun s8 _=>hi-(intOf s8).toNat)
 case atStart=>exact ⟨lo,d,rfl,ab,hN,H0,ED,ld _ _⟩
 case round =>(
 obtain ⟨r,dk,rfl,q1,qO,xy,heq,hg⟩:=hrel;have w1:IntKind.i64.wrap (2*(r:Int))=2*(r:Int):=IntWalk.i64_in _ ab;obtain ⟨c,ec⟩:∃ c:Nat,2*(r:Int)+1=(c:Int):=⟨2*r+1,ab⟩;have ec0:2*r+1=c:=ab;have wc:=ji c;by_cases bj:c<hi;{
 have da:¬ (hi:Int)<=(c:Int):=ab;have Bl:=aa qO;obtain ⟨c2,ec2⟩:∃ c2:Nat,(c:Int)+1=(c2:Int):=⟨c+1,ab⟩;have wc2:=ji c2;obtain ⟨fr,efr⟩:∃ x:Nat,(first:Int)+(r:Int)=(x:Int):=⟨first+r,ab⟩;have wfr:=ji fr;obtain ⟨fc,efc⟩:∃ x:Nat,(first:Int)+(c:Int)=(x:Int):=⟨first+c,ab⟩;have wfc:=ji fc;obtain ⟨fd,efd⟩:∃ x:Nat,(fc:Int)+1=(x:Int):=⟨fc+1,ab⟩;have wfd:=ji fd;have ca7:(first:Int)+(c2:Int)=(fd:Int):=ab;have n1:first+r=fr:=ab
 have n2:first+c=fc:=ab
 have n3:fc+1=fd:=ab;have n4:2*r+2=c2:=ab;obtain ⟨cr,Pk⟩:=aa xy fr ab;obtain ⟨cc,fcc⟩:=aa xy fc ab;obtain ⟨y,ey⟩:=aH dk[fr]!;obtain ⟨z,ez⟩:=aH dk[fc]!;rw [ey] at cr;rw [ez] at cc;have j1:=aT fr N;have j2:=aT fc N;have K1:=ae (ag cr cc);have F1:=ae (ag Pk fcc);by_cases jF:c2<hi;{
 have aO8:=aT c2 hi;obtain ⟨cd,Pl⟩:=aa xy fd ab;obtain ⟨x,ex⟩:=aH dk[fd]!;rw [ex] at cd;have j3:=aT fd N;obtain ⟨B,eB⟩:=aH (ltInt z x);have EB:=ae eB;have FK:JT hi first r dk=if B then c2 else c:=by unfold JT;rw [ec0,n4,n2,n3,ez,ex,eB];simp only [show decide (c+1<hi)=true by (rw [decide_eq_true_iff];omega),Bool.true_and]
 have K2:=ae (ag K1.2 cd);have ao2:=ae FK;have HX:=ae (ag ex (ag cd Pl));have xq:=ae (ag ec0 (ag n1 (ag n2 (ag n3 n4))));have HE:=ae (ag ey ez);go_wp2_with fail
 go_cut [36] (fun rv wc=>rv=.bool B/\wc=wr.drew)
 case first =>(
 refine bO (fun w'=>w'.cell? ⟨aI,off+fc,none⟩=some (.U z)/\w'.cell? ⟨aI,off+fd,none⟩=some (.U x)) (by exact K2) fun hS=>?_;refine gy 0 1 2 3 4 5 6 7 hS ?_;refine gy 8 9 10 11 12 13 14 15 hS ?_;refine fe 16 17 hS ?_;refine ry [18] ?_;refine cn (fun KK hK=>?_) ?_;{refine cL bU 191 _ _ _ bU (.U z) (.U x) bU bU (fun _=>dZ _ _) (dY z x _) ?_;rintro r' w2 ⟨rfl,rfl⟩;refine ⟨_,rfl,?_⟩;rw [aa EB];refine cg hK (by exact K2) fun hS=>?_;refine tn 19 hS ?_;refine bu ?_;go_wp2_with fail;go_meet;exact ⟨rfl,rfl⟩};exact AllReadyH.nil)
 obtain ⟨rfl,rfl⟩:=hcut;cases B with
 | true=>
  have Oy:Hid (JT hi first r dk=c2):=by show _=_;rw [aa ao2];rfl
  obtain ⟨ex,cd,Pl⟩:=aa HX;obtain ⟨cr,-⟩:=aa K1;obtain ⟨Pk,-⟩:=aa F1;obtain ⟨B2,Ey⟩:=aH (ltInt y x);have EB2:=ae Ey;have Hl:first+c2=fd:=by have:=aa xq;omega
  have mr:first+r=fr:=xq.2.1
  have oW:Hid (B2=false->dk=D):=fun hB=>by rw [<-aa heq,zQ (by have:=xq.1;omega) (by rw [aa Oy,Hl,mr,HE.1,ex,Ey,hB])]
  have Oz:Hid (B2=true->siftDown ltInt hi first c2 (swp dk fr fd)=D):=fun hB=>by have:=aa heq;rw [Hc (by have:=xq.1;omega) (by rw [aa Oy,Hl,mr,HE.1,ex,Ey,hB]),aa Oy,Hl,mr] at this;exact this
  have Bl:=aa qO;have Hh:=ae (xy.swap (i:=fr) (j:=fd) ab ab ex.symm HE.1.symm);have vQ:Hid ((swp dk fr fd).size=N):=by show _=_;rw [size_swp];exact Bl
  have HG:=ae (aQ (aQ hg (aE wr aI (off+fr) (.U x))) (aE _ aI (off+fd) (.U y)));have K3:=ae (ag cr cd);have F3:=ae (ag Pk Pl);have hrc:r<c2:=by have:=aa xq;omega
  go_wp2_with fail
  go_cut [52] (fun rv wc=>rv=.bool (!B2)/\wc=wr.drew.drew)
  case first =>(
 refine bO (fun w'=>w'.cell? ⟨aI,off+fr,none⟩=some (.U y)/\w'.cell? ⟨aI,off+fd,none⟩=some (.U x)) (by exact K3) fun hS=>?_;refine gy 0 1 2 3 4 5 6 7 hS ?_;refine gC 8 9 10 11 hS ?_;refine ry [12] ?_;refine cn (fun KK hK=>?_) ?_;{refine cL bU 191 _ _ _ bU (.U y) (.U x) bU bU (fun _=>dZ _ _) (dY y x _) ?_;rintro r' w2 ⟨rfl,rfl⟩;refine ⟨_,rfl,?_⟩;rw [aa EB2];refine cg hK (by exact K3) fun hS=>?_;refine tn 13 hS ?_;refine bu ?_;go_wp2_with fail;go_meet;exact ⟨rfl,rfl⟩};exact AllReadyH.nil)
  obtain ⟨rfl,rfl⟩:=hcut;cases B2 with
  | false=>
   have e:=aa oW rfl;subst e;go_wp2;exact bodyPost_ret (results_none (h:=rfl) _ _ _) rfl ⟨rfl,xy,ar (ar hg)⟩
  | true=>
   have e:=ae (aa Oz rfl);obtain ⟨cr,cd⟩:=aa K3;obtain ⟨Pk,Pl⟩:=aa F3;go_wp2_with fail
   go_region
   go_wp2;go_roundw
   case rel=>exact ⟨c2,swp dk fr fd,rfl,ab,vQ,(aa Hh),e,ar (ar (ar HG))⟩
   exact dC
 | false=>
  have Oy:Hid (JT hi first r dk=c):=by show _=_;rw [aa ao2];rfl
  have ex:=HE.2;have cd:=K1.2;have Pl:=F1.2;obtain ⟨cr,-⟩:=aa K1;obtain ⟨Pk,-⟩:=aa F1;obtain ⟨B2,Ey⟩:=aH (ltInt y z);have EB2:=ae Ey;have Hl:first+c=fc:=by have:=aa xq;omega
  have mr:first+r=fr:=xq.2.1
  have oW:Hid (B2=false->dk=D):=fun hB=>by rw [<-aa heq,zQ (by have:=xq.1;omega) (by rw [aa Oy,Hl,mr,HE.1,ex,Ey,hB])]
  have Oz:Hid (B2=true->siftDown ltInt hi first c (swp dk fr fc)=D):=fun hB=>by have:=aa heq;rw [Hc (by have:=xq.1;omega) (by rw [aa Oy,Hl,mr,HE.1,ex,Ey,hB]),aa Oy,Hl,mr] at this;exact this
  have Bl:=aa qO;have Hh:=ae (xy.swap (i:=fr) (j:=fc) ab ab ex.symm HE.1.symm);have vQ:Hid ((swp dk fr fc).size=N):=by show _=_;rw [size_swp];exact Bl
  have HG:=ae (aQ (aQ hg (aE wr aI (off+fr) (.U z))) (aE _ aI (off+fc) (.U y)));have K3:=ae (ag cr cd);have F3:=ae (ag Pk Pl);have hrc:r<c:=by have:=aa xq;omega
  go_wp2_with fail
  go_cut [52] (fun rv wc=>rv=.bool (!B2)/\wc=wr.drew.drew)
  case first =>(
 refine bO (fun w'=>w'.cell? ⟨aI,off+fr,none⟩=some (.U y)/\w'.cell? ⟨aI,off+fc,none⟩=some (.U z)) (by exact K3) fun hS=>?_;refine gy 0 1 2 3 4 5 6 7 hS ?_;refine gC 8 9 10 11 hS ?_;refine ry [12] ?_;refine cn (fun KK hK=>?_) ?_;{refine cL bU 191 _ _ _ bU (.U y) (.U z) bU bU (fun _=>dZ _ _) (dY y z _) ?_;rintro r' w2 ⟨rfl,rfl⟩;refine ⟨_,rfl,?_⟩;rw [aa EB2];refine cg hK (by exact K3) fun hS=>?_;refine tn 13 hS ?_;refine bu ?_;go_wp2_with fail;go_meet;exact ⟨rfl,rfl⟩};exact AllReadyH.nil)
  obtain ⟨rfl,rfl⟩:=hcut;cases B2 with
  | false=>
   have e:=aa oW rfl;subst e;go_wp2;exact bodyPost_ret (results_none (h:=rfl) _ _ _) rfl ⟨rfl,xy,ar (ar hg)⟩
  | true=>
   have e:=ae (aa Oz rfl);obtain ⟨cr,cd⟩:=aa K3;obtain ⟨Pk,Pl⟩:=aa F3;go_wp2_with fail
   go_region
   go_wp2;go_roundw
   case rel=>exact ⟨c,swp dk fr fc,rfl,ab,vQ,(aa Hh),e,ar (ar (ar HG))⟩
   exact dC};{
 have aO8:=dy c2 hi;have Oy:Hid (JT hi first r dk=c):=by show _=_;unfold JT;rw [if_neg dx,ec0]
 have xq:=ae (ag ec0 (ag n1 (ag n2 (ag n3 n4))));have HE:=ae (ag ey ez);have ex:=HE.2;have cd:=K1.2;have Pl:=F1.2;go_wp2_with fail
 go_cut [36] (fun rv wc=>rv=.bool false/\wc=wr.drew)
 case first =>(
 refine bO (fun w'=>True) trivial fun hS=>?_;refine gC 0 1 2 3 hS ?_;refine tn 4 hS ?_;refine iI 5 6 7 8 hS ?_;refine iI 9 10 11 12 hS ?_;refine iI 13 14 15 16 hS ?_;refine sn 17 hS ?_;refine sn 18 hS ?_;refine tn 19 hS ?_;refine bu ?_;go_wp2_with fail;go_meet;exact ⟨rfl,rfl⟩)
 obtain ⟨rfl,rfl⟩:=hcut;obtain ⟨cr,-⟩:=aa K1;obtain ⟨Pk,-⟩:=aa F1;obtain ⟨B2,Ey⟩:=aH (ltInt y z);have EB2:=ae Ey;have Hl:first+c=fc:=by have:=aa xq;omega
 have mr:first+r=fr:=xq.2.1
 have oW:Hid (B2=false->dk=D):=fun hB=>by rw [<-aa heq,zQ (by have:=xq.1;omega) (by rw [aa Oy,Hl,mr,HE.1,ex,Ey,hB])]
 have Oz:Hid (B2=true->siftDown ltInt hi first c (swp dk fr fc)=D):=fun hB=>by have:=aa heq;rw [Hc (by have:=xq.1;omega) (by rw [aa Oy,Hl,mr,HE.1,ex,Ey,hB]),aa Oy,Hl,mr] at this;exact this
 have Bl:=aa qO;have Hh:=ae (xy.swap (i:=fr) (j:=fc) ab ab ex.symm HE.1.symm);have vQ:Hid ((swp dk fr fc).size=N):=by show _=_;rw [size_swp];exact Bl
 have HG:=ae (aQ (aQ hg (aE wr aI (off+fr) (.U z))) (aE _ aI (off+fc) (.U y)));have K3:=ae (ag cr cd);have F3:=ae (ag Pk Pl);have hrc:r<c:=by have:=aa xq;omega
 go_wp2_with fail
 go_cut [52] (fun rv wc=>rv=.bool (!B2)/\wc=wr.drew.drew)
 case first =>(
 refine bO (fun w'=>w'.cell? ⟨aI,off+fr,none⟩=some (.U y)/\w'.cell? ⟨aI,off+fc,none⟩=some (.U z)) (by exact K3) fun hS=>?_;refine gy 0 1 2 3 4 5 6 7 hS ?_;refine gC 8 9 10 11 hS ?_;refine ry [12] ?_;refine cn (fun KK hK=>?_) ?_;{refine cL bU 191 _ _ _ bU (.U y) (.U z) bU bU (fun _=>dZ _ _) (dY y z _) ?_;rintro r' w2 ⟨rfl,rfl⟩;refine ⟨_,rfl,?_⟩;rw [aa EB2];refine cg hK (by exact K3) fun hS=>?_;refine tn 13 hS ?_;refine bu ?_;go_wp2_with fail;go_meet;exact ⟨rfl,rfl⟩};exact AllReadyH.nil)
 obtain ⟨rfl,rfl⟩:=hcut;cases B2 with
 | false=>
  have e:=aa oW rfl;subst e;go_wp2;exact bodyPost_ret (results_none (h:=rfl) _ _ _) rfl ⟨rfl,xy,ar (ar hg)⟩
 | true=>
  have e:=ae (aa Oz rfl);obtain ⟨cr,cd⟩:=aa K3;obtain ⟨Pk,Pl⟩:=aa F3;go_wp2_with fail
  go_region
  go_wp2;go_roundw
  case rel=>exact ⟨c,swp dk fr fc,rfl,ab,vQ,(aa Hh),e,ar (ar (ar HG))⟩
  exact dC}};{
 have da:=vj hi c;have hq:=aa heq;rw [KJ ab] at hq;subst hq;go_wp2
 first
  | exact bodyPost_ret (results_none (h:=rfl) _ _ _) rfl ⟨rfl,xy,hg⟩
  | (go_end0;exact ⟨rfl,xy,hg⟩)})
end Q
namespace Q
open Go.Sort Go.RowKit Go.Proofs.Tryz
theorem yW (lt:Int->Int->Bool) (hi first:Nat):∀ (k r:Nat) (d:Array Int),hi-r<=k->(siftDown lt hi first r d).size=d.size:=by
 intro k
 induction k with
 | zero=>intro r d hk;rw [siftDown,dif_pos ab]
 | succ k ih=>
  intro r d hk;rw [siftDown];split;{rfl}
  {
 split;{
 split;{rfl}
 {split;{rw [ih _ _ ab,size_swp]};{rfl}}}
 {
 split;{rfl}
 {rw [ih _ _ ab,size_swp]}}}
theorem MC (aI off cap N a b:Nat) (d:Array Int) (hN:Hid (d.size=N)) (w:World) (h:HU w aI off d) (FR:a<=b) (hb:b<=N) (il:N<=1048576) :
  Calls prog 186 #[.S (some ⟨aI,off,none⟩) N cap,.I a,.I b] w fun e w'=>e=.returned (.tuple #[])/\HU w' aI off (heapSort ltInt d a b)/\w.grownBy w' (some aI):=by
 obtain ⟨D,eD⟩:=aH (heapSort ltInt d a b);rw [eD];obtain ⟨H,eH⟩:∃ H:Nat,(b:Int)-(a:Int)=(H:Int):=⟨b-a,ab⟩;have eH0:b-a=H:=ab;have wH:=ji H;unfold heapSort at eD;rw [eH0] at eD;obtain ⟨M,eM⟩:=aH (heapBuild ltInt H a ((H-1) / 2+1) d);rw [eM] at eD;have ED:=ae eD;have EM:=ae eM;have H0:=ae h;have hHN:a+H<=N:=ab;have HE0:=ae eH0;have w1:IntKind.i64.wrap ((H:Int)-1)=(H:Int)-1:=IntWalk.i64_in _ ab;obtain ⟨q,eq⟩:∃ q:Int,Int.tdiv ((H:Int)-1) 2=q:=⟨_,rfl⟩;have hq:q=((H-1) / 2:Nat):=by rw [<-eq];by_cases hz:H=0;{subst hz;decide};{rw [show (H:Int)-1=((H-1:Nat):Int) by omega];exact (Int.ofNat_tdiv _ _).symm}
 have L8:0<=q:=ab;have VB:q<=1048576:=ab;have wq:IntKind.i64.wrap q=q:=IntWalk.i64_in _ ab;have HQ:=ae hq;clear eD eM h eH0 hq;go_enter func186,ntmps186;go_wp2_with fail
 go_loopw [9] (fun s9 wr=>∃ (iz:Int) (k:Nat) (dk:Array Int),s9=.I iz/\iz=(k:Int)-1/\k<=H+1/\Hid (dk.size=N)/\Hid (HU wr aI off dk)/\Hid (heapBuild ltInt H a k dk=M)/\Hid (w.grownBy wr (some aI))) (fun s9 _=>(intOf s9+1).toNat)
 case atStart=>exact ⟨q,(H-1) / 2+1,d,rfl,by have:=aa HQ;omega,ab,hN,H0,EM,ld _ _⟩
 case round =>(
 obtain ⟨iz,k,dk,rfl,hk,hiz,qO,xy,heq,hg⟩:=hrel;have HK:=ae hk;by_cases hz:0<=iz;{
 obtain ⟨m,em⟩:∃ m:Nat,iz=(m:Int):=⟨iz.toNat,ab⟩;have ek:k=m+1:=ab;subst ek;clear hk HK;subst em;have JU:=dE 0 m;have qg:=aa heq;rw [heapBuild] at qg;have Kf:=ae qg;have aN9:Hid ((siftDown ltInt H a m dk).size=N):=by show _=_;rw [yW ltInt H a _ m dk aA];exact aa qO
 have hm:m<=N:=ab;clear qg heq;go_wp2_with fail;refine (Cx aI off cap N m H a dk qO _ xy hHN hm il).mono ?_;rintro e w2 ⟨rfl,sX,fU⟩;have HG:=ae (aQ hg fU);have UC:=ae sX;clear fU sX;go_wp2;go_roundw
 case rel=>exact ⟨(m:Int)-1,m,_,by first | rfl | go_num,ab,ab,aN9,UC,Kf,HG⟩
 case measure=>first | (simp [intOf];done) | (simp [intOf];omega)}
 {
 have ek:k=0:=ab;subst ek;have eM:dk=M:=aa heq;subst eM;clear hk HK;go_wp2_with fail;obtain ⟨Y,eY⟩:=ax wr;subst eY;have HG0:=hg;clear hg hz
 go_loopw [10] (fun AG wr=>∃ (iz:Int) (k:Nat) (dj:Array Int),AG=.I iz/\iz=(k:Int)-1/\k<=H/\Hid (dj.size=N)/\Hid (HU wr aI off dj)/\Hid (heapPop ltInt a k dj=D)/\Hid (w.grownBy wr (some aI))) (fun AG _=>(intOf AG+1).toNat)
 case atStart=>exact ⟨(H:Int)-1,H,dk,rfl,rfl,Nat.le_refl _,qO,xy,ED,HG0⟩
 case round =>(
 obtain ⟨iz,k,dj,rfl,hk,hiz,Rk,yi,FO,hg⟩:=hrel;by_cases hz:0<=iz;{
 obtain ⟨m,em⟩:∃ m:Nat,iz=(m:Int):=⟨iz.toNat,ab⟩;have ek:k=m+1:=ab;subst ek;clear hk;subst em;have JU:=dE 0 m;obtain ⟨f,ef⟩:∃ x:Nat,(a:Int)+(m:Int)=(x:Int):=⟨a+m,ab⟩;have wf:=ji f;have ef0:a+m=f:=ab;have DM:=aa Rk;obtain ⟨ca,fa⟩:=aa yi a ab;obtain ⟨cf,ff⟩:=aa yi f ab;obtain ⟨y,ey⟩:=aH dj[a]!;obtain ⟨z,ez⟩:=aH dj[f]!;rw [ey] at ca;rw [ez] at cf;obtain ⟨tt,ct⟩:=ij (q:=⟨aI,off+a,none⟩) (u:=.U z) cf;have i1:=aT a N;have i2:=aT f N;have qg:=aa FO;rw [heapPop,ef0] at qg;have Kf:=ae qg;have XI:=ae (yi.swap (i:=a) (j:=f) ab ab ez.symm ey.symm);have vQ:Hid ((swp dj a f).size=N):=by show _=_;rw [size_swp];exact DM
 have HS3:Hid ((siftDown ltInt m a 0 (swp dj a f)).size=N):=by show _=_;rw [yW ltInt m a _ 0 _ aA];exact aa vQ
 have HG:=ae (aQ (aQ hg (aE wr aI (off+a) (.U z))) (aE _ aI (off+f) (.U y)));have sj:a+m<=N:=ab;clear ey ez DM qg FO ef0;go_wp2_with fail
 go_region
 go_wp2_with fail;refine (Cx aI off cap N 0 m a (swp dj a f) vQ _ (by exact XI) sj (Nat.zero_le _) il).mono ?_;rintro e w2 ⟨rfl,sX,fU⟩;have HG2:=ae (aQ (ar HG) fU);have UC:=ae sX;clear fU sX ca cf fa ff ct;go_wp2;go_roundw
 case rel=>exact ⟨(m:Int)-1,m,_,by first | rfl | go_num,rfl,ab,HS3,UC,Kf,HG2⟩
 case measure=>first | (simp [intOf];done) | (simp [intOf];omega)}
 {
 have ek:k=0:=ab;subst ek;have eD:dj=D:=aa FO;subst eD;clear hk;go_wp2
 go_end0
 exact ⟨rfl,yi,hg⟩})})
end Q
namespace Q
open Go.Sort Go.RowKit Go.Proofs.Tryz
theorem Kq (h:i<=j) (hp:p d[i]! = true):scanUp p d j i=scanUp p d j (i+1):=by
 rw [scanUp,if_pos (by simp [h,hp])]
theorem Aq (h:¬ i<=j\/p d[i]! = false):scanUp p d j i=i:=by
 rw [scanUp,if_neg];rcases h with h | h;{simp;omega};{simp [h]}
theorem By (hj:0<j) (h:i<=j) (hp:p d[j]! = true):scanDown p d i j=scanDown p d i (j-1):=by
 cases j with
 | zero=>omega
 | succ j=>rw [scanDown,if_pos (by simp [h,hp])];rfl
theorem tS (hi:0<i) (h:¬ i<=j\/p d[j]! = false):scanDown p d i j=j:=by
 cases j with
 | zero=>rfl
 | succ j=>
  rw [scanDown,if_neg];rcases h with h | h;{simp;omega};{simp [h]}
theorem yr (h1:scanUp (fun x=>ltInt x d[a]!) d j i=i2) (h2:scanDown (fun x=>!ltInt x d[a]!) d i2 j=j2) (h:j2<i2):partLoop ltInt a i j d=(j2,d):=by
 rw [partLoop];simp only [h1,h2];rw [if_pos h]
theorem aa6 (h1:scanUp (fun x=>ltInt x d[a]!) d j i=i2) (h2:scanDown (fun x=>!ltInt x d[a]!) d i2 j=j2) (h:¬ j2<i2) (hi:i<=i2) (hj:j2<=j) (hi0:0<i2):partLoop ltInt a i j d=partLoop ltInt a (i2+1) (j2-1) (swp d i2 j2):=by
 rw [partLoop];simp only [h1,h2];rw [if_neg h,dif_pos ab]
theorem Ld (aI off cap N a b piv:Nat) (d:Array Int) (hN:Hid (d.size=N)) (w:World) (h:HU w aI off d) (Ym:a<=piv) (hpb:piv<b) (hb:b<=N) (il:N<=1048576) :
  Calls prog 193 #[.S (some ⟨aI,off,none⟩) N cap,.I a,.I b,.I piv] w fun e w'=>e=.returned (.tuple #[.I (partition ltInt d a b piv).1,.bool (partition ltInt d a b piv).2.1])/\HU w' aI off (partition ltInt d a b piv).2.2/\w.grownBy w' (some aI):=by
 obtain ⟨⟨R1,R2,R3⟩,eR⟩:∃ R,partition ltInt d a b piv=R:=⟨_,rfl⟩;rw [eR];have qO:=aa hN;obtain ⟨B1,eB1⟩:∃ x:Nat,(b:Int)-1=(x:Int):=⟨b-1,ab⟩;have YD:b-1=B1:=ab;have wB:=ji B1;obtain ⟨ca,fa⟩:=h a ab;obtain ⟨cp,fp⟩:=h piv ab;obtain ⟨u,eu⟩:=aH d[a]!;obtain ⟨v,ev⟩:=aH d[piv]!;have XI:=ae (h.swap (i:=a) (j:=piv) ab ab ev.symm eu.symm);rw [eu] at ca;rw [ev] at cp;obtain ⟨tt,ct⟩:=ij (q:=⟨aI,off+a,none⟩) (u:=.U v) cp;obtain ⟨d1,Xa⟩:=aH (swp d a piv);rw [Xa] at XI;have JK:Hid (d1.size=N):=by show _=_;rw [<-Xa,size_swp];exact qO
 obtain ⟨y,ey⟩:=aH d1[a]!;have HY1:=ae ey;have HG:=ae (aQ (aE w aI (off+a) (.U v)) (aE _ aI (off+piv) (.U u)));obtain ⟨I1,eI1⟩:∃ I,scanUp (fun x=>ltInt x d1[a]!) d1 B1 (a+1)=I:=⟨_,rfl⟩;obtain ⟨J2,Xd⟩:∃ J,scanDown (fun x=>!ltInt x d1[a]!) d1 I1 B1=J:=⟨_,rfl⟩;have HR:Hid (((R1,R2,R3):Nat × Bool × Array Int)=if I1>J2 then (J2,true,swp d1 J2 a) else ((partLoop ltInt a (I1+1) (J2-1) (swp d1 I1 J2)).1,false,swp (partLoop ltInt a (I1+1) (J2-1) (swp d1 I1 J2)).2 (partLoop ltInt a (I1+1) (J2-1) (swp d1 I1 J2)).1 a)):=by show _=_;rw [<-eR,partition,Xa,YD];simp only [eI1,Xd]
 have EI1:=ae eI1;have EJ2:=ae Xd;have kk1:=aT a N;have kk2:=aT piv N;go_enter func193,ntmps193;go_wp2_with fail
 go_region
 go_wp2_with fail
 go_loopw [10] (fun s wr=>∃ i1:Nat,s=.I i1/\a+1<=i1/\i1<=B1+2/\Hid (HU wr aI off d1)/\Hid (scanUp (fun x=>ltInt x d1[a]!) d1 B1 i1=I1)/\Hid (w.grownBy wr (some aI))) (fun s _=>B1+1-(intOf s).toNat)
 case atStart=>exact ⟨a+1,by first | rfl | go_num,ab,ab,(aa XI),EI1,(ar HG)⟩
 case round =>(
 obtain ⟨i1,rfl,qa1,qb1,tL,Rw,Ph⟩:=hrel;obtain ⟨Bc,Jn⟩:∃ B,(decide (i1<=B1)&&((fun x=>ltInt x d1[a]!) d1[i1]!))=B:=⟨_,rfl⟩;have vv:=ae Jn;go_wp2_with fail
 go_cut [43] (fun rv wc=>rv=.bool Bc/\wc=wr.drew)
 case first =>(
 by_cases jc:i1<=B1;{
 have tK:=vj i1 B1;have hdd:=aa JK;obtain ⟨ci,-⟩:=aa tL i1 ab;obtain ⟨ca,-⟩:=aa tL a ab;obtain ⟨x,ex⟩:=aH d1[i1]!;rw [ex] at ci;rw [aa HY1] at ca;have k1:=aT i1 N;have k2:=aT a N;have k3:=dE 0 i1;obtain ⟨L,eL⟩:=aH (ltInt x y);have EL:=ae eL;have eB:Bc=L:=by rw [<-aa vv];simp only [decide_eq_true jc,Bool.true_and,ex,aa HY1,eL]
 subst eB;have K0:=ae (ag ci ca);refine bO (fun w'=>w'.cell? ⟨aI,off+i1,none⟩=some (.U x)/\w'.cell? ⟨aI,off+a,none⟩=some (.U y)) (by exact K0) fun hS=>?_;refine gy 0 1 2 3 4 5 6 7 hS ?_;refine gC 8 9 10 11 hS ?_;refine bH 12 fun KK hK=>?_;refine cL bU 191 _ _ _ bU (.U x) (.U y) bU bU (fun _=>dZ _ _) (dY x y _) ?_;rintro r' w2 ⟨rfl,rfl⟩;refine ⟨_,rfl,?_⟩;rw [aa EL];refine cg hK (by exact K0) fun hS=>?_;refine tn 13 hS ?_;refine bu ?_;go_wp2_with fail;go_meet;exact ⟨rfl,rfl⟩};{
 have tK:¬ (i1:Int)<=(B1:Int):=ab;have eB:Bc=false:=by rw [<-aa vv,decide_eq_false jc];rfl
 subst eB;refine bO (fun w'=>True) trivial fun hS=>?_;refine gC 0 1 2 3 hS ?_;refine iI 4 5 6 7 hS ?_;refine iI 8 9 10 11 hS ?_;refine sn 12 hS ?_;refine tn 13 hS ?_;refine bu ?_;go_wp2_with fail;go_meet;exact ⟨rfl,rfl⟩})
 obtain ⟨rfl,rfl⟩:=hcut;cases Bc with
 | true=>
  have hh:i1<=B1/\((fun x=>ltInt x d1[a]!) d1[i1]!)=true:=by have:=aa vv;rw [Bool.and_eq_true,decide_eq_true_iff] at this;exact this
  have hn:Hid (scanUp (fun x=>ltInt x d1[a]!) d1 B1 (i1+1)=I1):=by show _=_;rw [<-Kq hh.1 hh.2];exact aa Rw
  have hle:=hh.1;go_wp2;go_roundw
  case rel=>exact ⟨i1+1,by go_num,ab,ab,tL.drew,hn,ar Ph⟩
  exact dC
 | false=>
  have dz:i1=I1:=by rw [<-aa Rw,Aq];have:=aa vv;rw [Bool.and_eq_false_iff,decide_eq_false_iff_not] at this;exact this
  subst dz;go_wp2_with fail
  go_loopw [11] (fun s wr=>∃ j2:Nat,s=.I j2/\i1<=j2+2/\j2<=B1/\Hid (HU wr aI off d1)/\Hid (scanDown (fun x=>!ltInt x d1[a]!) d1 i1 j2=J2)/\Hid (w.grownBy wr (some aI))) (fun s _=>(intOf s).toNat)
  case atStart=>exact ⟨B1,by first | rfl | go_num,ab,ab,tL,EJ2,(ar Ph)⟩
  case round =>(
 obtain ⟨j2,rfl,qa2,qb2,sX,hE2,Yr⟩:=hrel;obtain ⟨Bc,Jn⟩:∃ B,(decide (i1<=j2)&&((fun x=>!ltInt x d1[a]!) d1[j2]!))=B:=⟨_,rfl⟩;have vv:=ae Jn;go_wp2_with fail
 go_cut [60] (fun rv wc=>rv=.bool Bc/\wc=wr.drew)
 case first =>(
 by_cases jc:i1<=j2;{
 have tK:=vj i1 j2;have hdd:=aa JK;obtain ⟨ci,-⟩:=aa sX j2 ab;obtain ⟨ca,-⟩:=aa sX a ab;obtain ⟨x,ex⟩:=aH d1[j2]!;rw [ex] at ci;rw [aa HY1] at ca;have k1:=aT j2 N;have k2:=aT a N;have k3:=dE 0 j2;obtain ⟨L,eL⟩:=aH (ltInt x y);have EL:=ae eL;have eB:Bc=(!L):=by rw [<-aa vv];simp only [decide_eq_true jc,Bool.true_and,ex,aa HY1,eL]
 subst eB;have K0:=ae (ag ci ca);refine bO (fun w'=>w'.cell? ⟨aI,off+j2,none⟩=some (.U x)/\w'.cell? ⟨aI,off+a,none⟩=some (.U y)) (by exact K0) fun hS=>?_;refine gy 0 1 2 3 4 5 6 7 hS ?_;refine gC 8 9 10 11 hS ?_;refine bH 12 fun KK hK=>?_;refine cL bU 191 _ _ _ bU (.U x) (.U y) bU bU (fun _=>dZ _ _) (dY x y _) ?_;rintro r' w2 ⟨rfl,rfl⟩;refine ⟨_,rfl,?_⟩;rw [aa EL];refine cg hK (by exact K0) fun hS=>?_;refine fe 13 14 hS ?_;refine bu ?_;go_wp2_with fail;go_meet;exact ⟨rfl,rfl⟩};{
 have tK:¬ (i1:Int)<=(j2:Int):=ab;have eB:Bc=false:=by rw [<-aa vv,decide_eq_false jc];rfl
 subst eB;refine bO (fun w'=>True) trivial fun hS=>?_;refine gC 0 1 2 3 hS ?_;refine iI 4 5 6 7 hS ?_;refine iI 8 9 10 11 hS ?_;refine sn 12 hS ?_;refine sn 13 hS ?_;refine tn 14 hS ?_;refine bu ?_;go_wp2_with fail;go_meet;exact ⟨rfl,rfl⟩})
 obtain ⟨rfl,rfl⟩:=hcut;cases Bc with
 | true=>
  have hh:i1<=j2/\((fun x=>!ltInt x d1[a]!) d1[j2]!)=true:=by have:=aa vv;rw [Bool.and_eq_true,decide_eq_true_iff] at this;exact this
  have hle:=hh.1;obtain ⟨m,em⟩:∃ m:Nat,(j2:Int)-1=(m:Int):=⟨j2-1,ab⟩;have hn:Hid (scanDown (fun x=>!ltInt x d1[a]!) d1 i1 m=J2):=by show _=_;rw [<-aa hE2,By ab hh.1 hh.2,show j2-1=m by omega]
  go_wp2;go_roundw
  case rel=>exact ⟨m,by first | rfl | go_num,ab,ab,sX.drew,hn,ar Yr⟩
  exact dC
 | false=>
  have dz:j2=J2:=by rw [<-aa hE2,tS ab];have:=aa vv;rw [Bool.and_eq_false_iff,decide_eq_false_iff_not] at this;exact this
  subst dz;by_cases hgt:j2<i1;{
 have aN0:=aT j2 i1;have hr:=aa HR;rw [if_pos hgt] at hr;simp only [Prod.mk.injEq] at hr;obtain ⟨Nl,Ob,WN⟩:=hr;replace Nl:=Nl.symm;replace WN:=WN.symm;subst Nl Ob WN;obtain ⟨c1,f1⟩:=aa sX j2 (by have:=aa JK;omega);obtain ⟨c2,f2⟩:=aa sX a (by have:=aa JK;omega);obtain ⟨p1,xB⟩:=aH d1[j2]!;obtain ⟨p2,xA⟩:=aH d1[a]!;rw [xB] at c1;rw [xA] at c2;obtain ⟨tt,ct⟩:=ij (q:=⟨aI,off+j2,none⟩) (u:=.U p2) c2;have tY:=ae (sX.swap (i:=j2) (j:=a) (by have:=aa JK;omega) (by have:=aa JK;omega) xA.symm xB.symm);have Od:=ae (aQ (aQ Yr (aE _ aI (off+j2) (.U p2))) (aE _ aI (off+a) (.U p1)));have l1:=aT j2 N;have l2:=aT a N;have l3:=dE 0 j2;have l4:=dE 0 a;go_wp2_with fail
 go_region
 go_wp2
 go_ret2
 exact ⟨rfl,tY,ar (ar Od)⟩};{
 have aN0:=dy j2 i1;obtain ⟨⟨Q1,Q2⟩,eQ⟩:∃ Q,partLoop ltInt a (i1+1) (j2-1) (swp d1 i1 j2)=Q:=⟨_,rfl⟩;have hr:=aa HR;rw [if_neg hgt,eQ] at hr;have HRB:=ae hr;have EQ:=ae eQ;obtain ⟨c1,f1⟩:=aa sX i1 (by have:=aa JK;omega);obtain ⟨c2,f2⟩:=aa sX j2 (by have:=aa JK;omega);obtain ⟨p1,xB⟩:=aH d1[i1]!;obtain ⟨p2,xA⟩:=aH d1[j2]!;rw [xB] at c1;rw [xA] at c2;obtain ⟨tt,ct⟩:=ij (q:=⟨aI,off+i1,none⟩) (u:=.U p2) c2;have tY:=ae (sX.swap (i:=i1) (j:=j2) (by have:=aa JK;omega) (by have:=aa JK;omega) xA.symm xB.symm);have Od:=ae (aQ (aQ Yr (aE _ aI (off+i1) (.U p2))) (aE _ aI (off+j2) (.U p1)));have l1:=aT i1 N;have l2:=aT j2 N;have l3:=dE 0 i1;have l4:=dE 0 j2;obtain ⟨m2,em2⟩:∃ m:Nat,(j2:Int)-1=(m:Int):=⟨j2-1,ab⟩;have aU1:j2-1=m2:=ab;rw [aU1] at EQ;have HD2:Hid ((swp d1 i1 j2).size=N):=by show _=_;rw [size_swp];exact aa JK
 go_wp2_with fail
 go_region
 go_wp2_with fail
 go_loopw [10,11] (fun AG Zd wr=>∃ (i j:Nat) (dk:Array Int),AG=.I i/\Zd=.I j/\a+1<=i/\i<=j+2/\j<=B1/\Hid (dk.size=N)/\Hid (HU wr aI off dk)/\Hid (partLoop ltInt a i j dk=(Q1,Q2))/\Hid (w.grownBy wr (some aI))) (fun AG Zd _=>(intOf Zd+2-intOf AG).toNat)
 case atStart=>exact ⟨i1+1,m2,_,by first | rfl | go_num,by first | rfl | go_num,ab,ab,ab,HD2,tY,EQ,ar (ar Od)⟩
 case round =>(
 obtain ⟨i,j,dk,rfl,rfl,z1,z2,z3,Eu,Bp,hQ3,Ru⟩:=hrel;obtain ⟨y,ey⟩:=aH dk[a]!;have SJ:=ae ey;obtain ⟨I4,eI4⟩:∃ I,scanUp (fun x=>ltInt x dk[a]!) dk j i=I:=⟨_,rfl⟩;obtain ⟨J5,eJ5⟩:∃ J,scanDown (fun x=>!ltInt x dk[a]!) dk I4 j=J:=⟨_,rfl⟩;have EI4:=ae eI4;have EJ5:=ae eJ5;have OI:=EI4;have OG:=EJ5;go_wp2_with fail;obtain ⟨Y,eY⟩:=ax wr;subst eY
 go_loopw [10] (fun s wr=>∃ i4:Nat,s=.I i4/\i<=i4/\i4<=j+2/\Hid (HU wr aI off dk)/\Hid (scanUp (fun x=>ltInt x dk[a]!) dk j i4=I4)/\Hid (w.grownBy wr (some aI))) (fun s _=>j+1-(intOf s).toNat)
 case atStart=>exact ⟨i,by first | rfl | go_num,ab,ab,Bp,EI4,Ru⟩
 case round =>(
 obtain ⟨i4,rfl,qa4,qb4,DQ,hE4,hG4⟩:=hrel;obtain ⟨Bc,Jn⟩:∃ B,(decide (i4<=j)&&((fun x=>ltInt x dk[a]!) dk[i4]!))=B:=⟨_,rfl⟩;have vv:=ae Jn;go_wp2_with fail
 go_cut [112] (fun rv wc=>rv=.bool Bc/\wc=wr.drew)
 case first =>(
 by_cases jc:i4<=j;{
 have tK:=vj i4 j;have hdd:=aa Eu;obtain ⟨ci,-⟩:=aa DQ i4 ab;obtain ⟨ca,-⟩:=aa DQ a ab;obtain ⟨x,ex⟩:=aH dk[i4]!;rw [ex] at ci;rw [aa SJ] at ca;have k1:=aT i4 N;have k2:=aT a N;have k3:=dE 0 i4;obtain ⟨L,eL⟩:=aH (ltInt x y);have EL:=ae eL;have eB:Bc=L:=by rw [<-aa vv];simp only [decide_eq_true jc,Bool.true_and,ex,aa SJ,eL]
 subst eB;have K0:=ae (ag ci ca);refine bO (fun w'=>w'.cell? ⟨aI,off+i4,none⟩=some (.U x)/\w'.cell? ⟨aI,off+a,none⟩=some (.U y)) (by exact K0) fun hS=>?_;refine gy 0 1 2 3 4 5 6 7 hS ?_;refine gC 8 9 10 11 hS ?_;refine bH 12 fun KK hK=>?_;refine cL bU 191 _ _ _ bU (.U x) (.U y) bU bU (fun _=>dZ _ _) (dY x y _) ?_;rintro r' w2 ⟨rfl,rfl⟩;refine ⟨_,rfl,?_⟩;rw [aa EL];refine cg hK (by exact K0) fun hS=>?_;refine tn 13 hS ?_;refine bu ?_;go_wp2_with fail;go_meet;exact ⟨rfl,rfl⟩};{
 have tK:¬ (i4:Int)<=(j:Int):=ab;have eB:Bc=false:=by rw [<-aa vv,decide_eq_false jc];rfl
 subst eB;refine bO (fun w'=>True) trivial fun hS=>?_;refine gC 0 1 2 3 hS ?_;refine iI 4 5 6 7 hS ?_;refine iI 8 9 10 11 hS ?_;refine sn 12 hS ?_;refine tn 13 hS ?_;refine bu ?_;go_wp2_with fail;go_meet;exact ⟨rfl,rfl⟩})
 obtain ⟨rfl,rfl⟩:=hcut;cases Bc with
 | true=>
  have hh:i4<=j/\((fun x=>ltInt x dk[a]!) dk[i4]!)=true:=by have:=aa vv;rw [Bool.and_eq_true,decide_eq_true_iff] at this;exact this
  have hn:Hid (scanUp (fun x=>ltInt x dk[a]!) dk j (i4+1)=I4):=by show _=_;rw [<-Kq hh.1 hh.2];exact aa hE4
  have hle:=hh.1;go_wp2;go_roundw
  case rel=>exact ⟨i4+1,by go_num,ab,ab,DQ.drew,hn,ar hG4⟩
  exact dC
 | false=>
  have dz:i4=I4:=by rw [<-aa hE4,Aq];have:=aa vv;rw [Bool.and_eq_false_iff,decide_eq_false_iff_not] at this;exact this
  subst dz;go_wp2_with fail
  go_loopw [11] (fun s wr=>∃ j5:Nat,s=.I j5/\i4<=j5+2/\j5<=j/\Hid (HU wr aI off dk)/\Hid (scanDown (fun x=>!ltInt x dk[a]!) dk i4 j5=J5)/\Hid (w.grownBy wr (some aI))) (fun s _=>(intOf s).toNat)
  case atStart=>exact ⟨j,by first | rfl | go_num,ab,ab,DQ,EJ5,(ar hG4)⟩
  case round =>(
 obtain ⟨j5,rfl,qa5,qb5,yI,hE5,WA⟩:=hrel;obtain ⟨Bc,Jn⟩:∃ B,(decide (i4<=j5)&&((fun x=>!ltInt x dk[a]!) dk[j5]!))=B:=⟨_,rfl⟩;have vv:=ae Jn;go_wp2_with fail
 go_cut [129] (fun rv wc=>rv=.bool Bc/\wc=wr.drew)
 case first =>(
 by_cases jc:i4<=j5;{
 have tK:=vj i4 j5;have hdd:=aa Eu;obtain ⟨ci,-⟩:=aa yI j5 ab;obtain ⟨ca,-⟩:=aa yI a ab;obtain ⟨x,ex⟩:=aH dk[j5]!;rw [ex] at ci;rw [aa SJ] at ca;have k1:=aT j5 N;have k2:=aT a N;have k3:=dE 0 j5;obtain ⟨L,eL⟩:=aH (ltInt x y);have EL:=ae eL;have eB:Bc=(!L):=by rw [<-aa vv];simp only [decide_eq_true jc,Bool.true_and,ex,aa SJ,eL]
 subst eB;have K0:=ae (ag ci ca);refine bO (fun w'=>w'.cell? ⟨aI,off+j5,none⟩=some (.U x)/\w'.cell? ⟨aI,off+a,none⟩=some (.U y)) (by exact K0) fun hS=>?_;refine gy 0 1 2 3 4 5 6 7 hS ?_;refine gC 8 9 10 11 hS ?_;refine bH 12 fun KK hK=>?_;refine cL bU 191 _ _ _ bU (.U x) (.U y) bU bU (fun _=>dZ _ _) (dY x y _) ?_;rintro r' w2 ⟨rfl,rfl⟩;refine ⟨_,rfl,?_⟩;rw [aa EL];refine cg hK (by exact K0) fun hS=>?_;refine fe 13 14 hS ?_;refine bu ?_;go_wp2_with fail;go_meet;exact ⟨rfl,rfl⟩};{
 have tK:¬ (i4:Int)<=(j5:Int):=ab;have eB:Bc=false:=by rw [<-aa vv,decide_eq_false jc];rfl
 subst eB;refine bO (fun w'=>True) trivial fun hS=>?_;refine gC 0 1 2 3 hS ?_;refine iI 4 5 6 7 hS ?_;refine iI 8 9 10 11 hS ?_;refine sn 12 hS ?_;refine sn 13 hS ?_;refine tn 14 hS ?_;refine bu ?_;go_wp2_with fail;go_meet;exact ⟨rfl,rfl⟩})
 obtain ⟨rfl,rfl⟩:=hcut;cases Bc with
 | true=>
  have hh:i4<=j5/\((fun x=>!ltInt x dk[a]!) dk[j5]!)=true:=by have:=aa vv;rw [Bool.and_eq_true,decide_eq_true_iff] at this;exact this
  have hle:=hh.1;obtain ⟨m,em⟩:∃ m:Nat,(j5:Int)-1=(m:Int):=⟨j5-1,ab⟩;have hn:Hid (scanDown (fun x=>!ltInt x dk[a]!) dk i4 m=J5):=by show _=_;rw [<-aa hE5,By ab hh.1 hh.2,show j5-1=m by omega]
  go_wp2;go_roundw
  case rel=>exact ⟨m,by first | rfl | go_num,ab,ab,yI.drew,hn,ar WA⟩
  exact dC
 | false=>
  have dz:j5=J5:=by rw [<-aa hE5,tS ab];have:=aa vv;rw [Bool.and_eq_false_iff,decide_eq_false_iff_not] at this;exact this
  subst dz;by_cases qh:j5<i4;{
 have Wc:=aT j5 i4;have hq:=aa hQ3;rw [yr (aa OI) (aa OG) qh] at hq;simp only [Prod.mk.injEq] at hq;obtain ⟨eq1,RO⟩:=hq;subst eq1 RO;have hr:=aa HRB;simp only [Prod.mk.injEq] at hr;obtain ⟨Nl,Ob,WN⟩:=hr;replace Nl:=Nl.symm;replace WN:=WN.symm;subst Nl Ob WN;obtain ⟨c1,f1⟩:=aa yI j5 (by have:=aa Eu;omega);obtain ⟨c2,f2⟩:=aa yI a (by have:=aa Eu;omega);obtain ⟨p1,xB⟩:=aH dk[j5]!;obtain ⟨p2,xA⟩:=aH dk[a]!;rw [xB] at c1;rw [xA] at c2;obtain ⟨tt,ct⟩:=ij (q:=⟨aI,off+j5,none⟩) (u:=.U p2) c2;have tY:=ae (yI.swap (i:=j5) (j:=a) (by have:=aa Eu;omega) (by have:=aa Eu;omega) xA.symm xB.symm);have Od:=ae (aQ (aQ WA (aE _ aI (off+j5) (.U p2))) (aE _ aI (off+a) (.U p1)));have l1:=aT j5 N;have l2:=aT a N;have l3:=dE 0 j5;have l4:=dE 0 a;go_wp2_with fail
 go_region
 go_wp2
 go_ret2
 exact ⟨rfl,tY,ar (ar Od)⟩};{
 have Wc:=dy j5 i4;have hq:=aa hQ3;rw [aa6 (aa OI) (aa OG) qh ab ab ab] at hq;have Ke:=ae hq;obtain ⟨c1,f1⟩:=aa yI i4 (by have:=aa Eu;omega);obtain ⟨c2,f2⟩:=aa yI j5 (by have:=aa Eu;omega);obtain ⟨p1,xB⟩:=aH dk[i4]!;obtain ⟨p2,xA⟩:=aH dk[j5]!;rw [xB] at c1;rw [xA] at c2;obtain ⟨tt,ct⟩:=ij (q:=⟨aI,off+i4,none⟩) (u:=.U p2) c2;have tY:=ae (yI.swap (i:=i4) (j:=j5) (by have:=aa Eu;omega) (by have:=aa Eu;omega) xA.symm xB.symm);have Od:=ae (aQ (aQ WA (aE _ aI (off+i4) (.U p2))) (aE _ aI (off+j5) (.U p1)));have l1:=aT i4 N;have l2:=aT j5 N;have l3:=dE 0 i4;have l4:=dE 0 j5;obtain ⟨m5,em5⟩:∃ m:Nat,(j5:Int)-1=(m:Int):=⟨j5-1,ab⟩;have WT:j5-1=m5:=ab;rw [WT] at Ke;have XQ:Hid ((swp dk i4 j5).size=N):=by show _=_;rw [size_swp];exact aa Eu
 go_wp2_with fail
 go_region
 go_wp2;go_roundw
 case rel=>exact ⟨i4+1,m5,_,by first | rfl | go_num,by first | rfl | go_num,ab,ab,ab,XQ,tY,Ke,ar (ar Od)⟩
 case measure=>simp [intOf];omega})))}))
end Q
namespace Q
open Go.Sort Go.RowKit Go.Proofs.Tryz
theorem Y7 (h:i<b) (hp:ltInt d[i]! d[i-1]! = false):scanSorted ltInt d b i=scanSorted ltInt d b (i+1):=by
 rw [scanSorted,if_pos (by simp [h,hp])]
theorem Qb (h:¬ i<b\/ltInt d[i]! d[i-1]! = true):scanSorted ltInt d b i=i:=by
 rw [scanSorted,if_neg];rcases h with h | h;{simp;omega};{simp [h]}
theorem GQ:∀ (j:Nat) (d:Array Int),(shiftDown ltInt j d).size=d.size
 | 0,d=>rfl
 | j+1,d=>by
  rw [shiftDown];split;{rfl}
  {rw [GQ j,size_swp]}
theorem PT (b:Nat):∀ (k j:Nat) (d:Array Int),b-j<=k->(shiftUp ltInt b j d).size=d.size:=by
 intro k
 induction k with
 | zero=>intro j d h;rw [shiftUp,if_neg ab]
 | succ k ih=>
  intro j d h;rw [shiftUp];split;{
 split;{rfl}
 {rw [ih _ _ ab,size_swp]}};{rfl}
theorem Zc (h:0<j) (hp:ltInt d[j]! d[j-1]! = true):shiftDown ltInt j d=shiftDown ltInt (j-1) (swp d j (j-1)):=by
 cases j with
 | zero=>omega
 | succ j=>
  simp only [Nat.add_sub_cancel] at hp ⊢;rw [shiftDown,if_neg (by simp [hp])]
theorem GP (h:j=0\/ltInt d[j]! d[j-1]! = false):shiftDown ltInt j d=d:=by
 cases j with
 | zero=>rfl
 | succ j=>
  rcases h with h | h;{omega};{simp only [Nat.add_sub_cancel] at h;rw [shiftDown,if_pos (by simp [h])]}
theorem ah5 (h:j<b) (hp:ltInt d[j]! d[j-1]! = true):shiftUp ltInt b j d=shiftUp ltInt b (j+1) (swp d j (j-1)):=by
 rw [shiftUp,if_pos h,if_neg (by simp [hp])]
theorem GM (h:¬ j<b\/ltInt d[j]! d[j-1]! = false):shiftUp ltInt b j d=d:=by
 rw [shiftUp];rcases h with h | h;{rw [if_neg h]};{split;{rw [if_pos (by simp [h])]};{rfl}}
theorem Qo {a b s i I:Nat} (hI:scanSorted ltInt d b i=I) (h:I=b):partialIns ltInt a b (s+1) i d=(d,true):=by
 rw [partialIns];simp only [hI];rw [if_pos h]
theorem pi_short {a b s i I:Nat} (hI:scanSorted ltInt d b i=I) (h:¬ I=b) (h5:b-a<50):partialIns ltInt a b (s+1) i d=(d,false):=by
 rw [partialIns];simp only [hI];rw [if_neg h,if_pos h5]
theorem pi_go {a b s i I:Nat} (hI:scanSorted ltInt d b i=I) (h:¬ I=b) (h5:¬ b-a<50) {d2 d3 d4:Array Int} (h2:swp d I (I-1)=d2) (h3:(if I-a>=2 then shiftDown ltInt (I-1) d2 else d2)=d3)
  (h4:(if b-I>=2 then shiftUp ltInt b (I+1) d3 else d3)=d4):partialIns ltInt a b (s+1) i d=partialIns ltInt a b s I d4:=by
 rw [partialIns];simp only [hI];rw [if_neg h,if_neg h5,h2,h3,h4]
theorem IF (aI off cap N a b:Nat) (d:Array Int) (hN:Hid (d.size=N)) (w:World) (h:HU w aI off d) (FR:a<b) (hb:b<=N) (il:N<=1048576) :
  Calls prog 190 #[.S (some ⟨aI,off,none⟩) N cap,.I a,.I b] w fun e w'=>e=.returned (.bool (partialInsertionSort ltInt d a b).2)/\HU w' aI off (partialInsertionSort ltInt d a b).1/\w.grownBy w' (some aI):=by
 obtain ⟨⟨R1,R2⟩,eR⟩:∃ R,partialInsertionSort ltInt d a b=R:=⟨_,rfl⟩;rw [eR];have ER:Hid (partialIns ltInt a b 5 (a+1) d=(R1,R2)):=eR;have H0:=ae h;obtain ⟨Lz,eL⟩:∃ x:Nat,(b:Int)-(a:Int)=(x:Int):=⟨b-a,ab⟩;have eL0:=ae (show b-a=Lz by omega);have wL:=ji Lz;go_enter func190,ntmps190;go_wp2_with fail
 go_loopw [7,8] (fun s7 s8 wr=>∃ (i s:Nat) (jz:Int) (dk:Array Int),s7=.I i/\s8=.I jz/\jz+s=5/\0<=jz/\a+1<=i/\i<=b/\Hid (dk.size=N)/\Hid (HU wr aI off dk)/\Hid (partialIns ltInt a b s i dk=(R1,R2))/\Hid (w.grownBy wr (some aI))) (fun _ s8 _=>(5-intOf s8).toNat)
 case atStart=>exact ⟨a+1,5,0,d,by first | rfl | go_num,rfl,rfl,ab,ab,ab,hN,H0,ER,ld _ _⟩
 case round =>(
 obtain ⟨i,s,jz,dk,rfl,rfl,z1,z2,z3,z4,HD,hH,hQ,hG⟩:=hrel;cases s with
 | zero=>
  have hj:¬ jz<5:=ab;have hq:=aa hQ;simp only [partialIns,Prod.mk.injEq] at hq;obtain ⟨eq1,RO⟩:=hq;subst eq1 RO;go_wp2;go_ret;exact ⟨rfl,hH,hG⟩
 | succ t=>
  have hj:jz<5:=ab;obtain ⟨I,eI⟩:=aH (scanSorted ltInt dk b i);have EI:=ae eI;have EI':=ae eI;have qO:=aa HD;go_wp2_with fail;obtain ⟨Y,eY⟩:=ax wr;subst eY
  go_loopw [7] (fun s7 wr=>∃ i1:Nat,s7=.I i1/\a+1<=i1/\i1<=b/\Hid (HU wr aI off dk)/\Hid (scanSorted ltInt dk b i1=I)/\Hid (w.grownBy wr (some aI))) (fun s7 _=>b-(intOf s7).toNat)
  case atStart=>exact ⟨i,rfl,ab,ab,hH,EI,hG⟩
  case round =>(
 obtain ⟨i1,rfl,qa,qb,tL,Rw,Ph⟩:=hrel;obtain ⟨Bc,Jn⟩:=aH (decide (i1<b)&&!ltInt dk[i1]! dk[i1-1]!);have vv:=ae Jn;obtain ⟨m,em⟩:∃ m:Nat,(i1:Int)-1=(m:Int):=⟨i1-1,ab⟩;have Ud:=ae (show i1-1=m by omega);have wm:=ji m;go_wp2_with fail
 go_cut [32] (fun rv wc=>rv=.bool Bc/\wc=wr.drew)
 case first =>(
 by_cases jc:i1<b;{
 have tK:=aT i1 b;obtain ⟨c1,-⟩:=aa tL i1 ab;obtain ⟨c2,-⟩:=aa tL m ab;obtain ⟨x,ex⟩:=aH dk[i1]!;obtain ⟨y,ey⟩:=aH dk[m]!;rw [ex] at c1;rw [ey] at c2;have k1:=aT i1 N;have k2:=aT m N;have k3:=dE 0 i1;have k4:=dE 0 m;obtain ⟨L,eL'⟩:=aH (ltInt x y);have EL:=ae eL';have eB:Bc=(!L):=by rw [<-aa vv];simp only [decide_eq_true jc,Bool.true_and,aa Ud,ex,ey,eL']
 subst eB;have K0:=ae (ag c1 c2);refine bO (fun w'=>w'.cell? ⟨aI,off+i1,none⟩=some (.U x)/\w'.cell? ⟨aI,off+m,none⟩=some (.U y)) (by exact K0) fun hS=>?_;refine gy 0 1 2 3 4 5 6 7 hS ?_;refine gC 8 9 10 11 hS ?_;refine tn 12 hS ?_;refine bH 13 fun KK hK=>?_;refine cL bU 191 _ _ _ bU (.U x) (.U y) bU bU (fun _=>dZ _ _) (dY x y _) ?_;rintro r' w2 ⟨rfl,rfl⟩;refine ⟨_,rfl,?_⟩;rw [aa EL];refine cg hK (by exact K0) fun hS=>?_;refine fe 14 15 hS ?_;refine bu ?_;go_wp2_with fail;go_meet;exact ⟨rfl,rfl⟩};{
 have tK:=dy i1 b;have eB:Bc=false:=by rw [<-aa vv,decide_eq_false jc];rfl
 subst eB;refine bO (fun w'=>True) trivial fun hS=>?_;refine gC 0 1 2 3 hS ?_;refine iI 4 5 6 7 hS ?_;refine iI 8 9 10 11 hS ?_;refine sn 12 hS ?_;refine sn 13 hS ?_;refine sn 14 hS ?_;refine tn 15 hS ?_;refine bu ?_;go_wp2_with fail;go_meet;exact ⟨rfl,rfl⟩})
 obtain ⟨rfl,rfl⟩:=hcut;cases Bc with
 | true=>
  have hh:i1<b/\ltInt dk[i1]! dk[i1-1]! = false:=by have:=aa vv;simp only [Bool.and_eq_true,decide_eq_true_iff,Bool.not_eq_true'] at this;exact this
  have hn:Hid (scanSorted ltInt dk b (i1+1)=I):=by show _=_;rw [<-Y7 hh.1 hh.2];exact aa Rw
  have hle:=hh.1;go_wp2;go_roundw
  case rel=>exact ⟨i1+1,by go_num,ab,ab,tL.drew,hn,ar Ph⟩
  exact dC
 | false=>
  have dz:i1=I:=by rw [<-aa Rw,Qb];have:=aa vv;simp only [Bool.and_eq_false_iff,decide_eq_false_iff_not,Bool.not_eq_false'] at this;exact this
  subst dz;by_cases Zo:i1=b;{have hq:=aa hQ;rw [Qo (aa EI') Zo,Prod.mk.injEq] at hq;obtain ⟨eq1,RO⟩:=hq;subst eq1 RO;subst Zo;go_wp2;go_ret;exact ⟨rfl,tL,ar Ph⟩};{
 have bT7:¬ (i1:Int)=(b:Int):=ab;by_cases h5:Lz<50;{have h5':(Lz:Int)<50:=ab;have hq:=aa hQ;rw [pi_short (aa EI') Zo (by rw [aa eL0];exact h5),Prod.mk.injEq] at hq;obtain ⟨eq1,RO⟩:=hq;subst eq1 RO;go_wp2;go_ret;exact ⟨rfl,tL,ar Ph⟩};{
 have h5':¬ (Lz:Int)<50:=ab;obtain ⟨d2,e2⟩:=aH (swp dk i1 (i1-1));obtain ⟨d3,e3⟩:∃ x,(if i1-a>=2 then shiftDown ltInt (i1-1) d2 else d2)=x:=⟨_,rfl⟩;obtain ⟨d4,e4⟩:∃ x,(if b-i1>=2 then shiftUp ltInt b (i1+1) d3 else d3)=x:=⟨_,rfl⟩;have hq:=aa hQ;rw [pi_go (aa EI') Zo (by rw [aa eL0];exact h5) e2 e3 e4] at hq;have HQ:=ae hq;rw [aa Ud] at e2 e3;have HD2:Hid (d2.size=N):=by show _=_;rw [<-e2,size_swp];exact qO
 have Eu:Hid (d3.size=N):=by show _=_;rw [<-e3];split;{rw [GQ];exact aa HD2};{exact HD2}
 have Py:Hid (d4.size=N):=by show _=_;rw [<-e4];split;{rw [PT b _ _ _ aA];exact aa Eu};{exact Eu}
 obtain ⟨c1,f1⟩:=aa tL i1 ab;obtain ⟨c2,f2⟩:=aa tL m ab;obtain ⟨p1,xB⟩:=aH dk[i1]!;obtain ⟨p2,xA⟩:=aH dk[m]!;rw [xB] at c1;rw [xA] at c2;have tY:=ae (tL.swap (i:=i1) (j:=m) ab ab xA.symm xB.symm);rw [e2] at tY;have Od:=ae (aQ (aQ Ph (aE _ aI (off+i1) (.U p2))) (aE _ aI (off+m) (.U p1)));have l1:=aT i1 N;have l2:=aT m N;have l3:=dE 0 m;have E3:=ae e3;have E4:=ae e4;obtain ⟨A1,eA⟩:∃ x:Nat,(i1:Int)-(a:Int)=(x:Int):=⟨i1-a,ab⟩;have eA0:=ae (show i1-a=A1 by omega);have wA:=ji A1;obtain ⟨B1,eB1⟩:∃ x:Nat,(b:Int)-(i1:Int)=(x:Int):=⟨b-i1,ab⟩;have YD:=ae (show b-i1=B1 by omega);have wB:=ji B1;go_wp2_with fail
 go_region
 go_upto_if 61 with fail
 go_cut [9] (fun s9 wc=>Hid (HU wc aI off d3)/\Hid (w.grownBy wc (some aI)))
 case first =>(
 by_cases hC:A1>=2;{
 have hC':(A1:Int)>=2:=ab;have WD:=dE 2 A1
 try simp only [WD,decide_true]
 have E3':Hid (shiftDown ltInt m d2=d3):=by have:=aa E3;rw [aa eA0,if_pos hC] at this;exact this
 go_wp2_with fail;obtain ⟨Y2,Nt⟩:=ax wr;subst Nt
 go_loopw [9] (fun s9 wr=>∃ (j:Nat) (dj:Array Int),s9=.I j/\j<=m/\Hid (dj.size=N)/\Hid (HU wr aI off dj)/\Hid (shiftDown ltInt j dj=d3)/\Hid (w.grownBy wr (some aI))) (fun s9 _=>(intOf s9).toNat)
 case atStart=>exact ⟨m,d2,by first | rfl | go_num,ab,HD2,by exact tY,E3',by exact ar (ar Od)⟩
 case round =>(
 obtain ⟨j,dj,rfl,q1,Rk,yi,FO,hg⟩:=hrel;by_cases hgo:0<j;{
 have Mx:=dE 1 j;obtain ⟨jm,ejm⟩:∃ x:Nat,(j:Int)-1=(x:Int):=⟨j-1,ab⟩;have Gg:j-1=jm:=ab;have wjm:=ji jm;have DM:=aa Rk;obtain ⟨cj,fj⟩:=aa yi j ab;obtain ⟨cm,fm⟩:=aa yi jm ab;obtain ⟨y,ey⟩:=aH dj[j]!;obtain ⟨z,ez⟩:=aH dj[jm]!;have Hh:=ae (yi.swap (i:=j) (j:=jm) ab ab ez.symm ey.symm);rw [ey] at cj;rw [ez] at cm;have i1':=aT j N;have i2':=aT jm N;have i3':=dE 0 jm;have i4':=dE 0 j;obtain ⟨B,eB⟩:=aH (ltInt y z);have EB:=ae eB;have oW:Hid (B=false->dj=d3):=fun hB=>by rw [<-aa FO,GP (.inr (by rw [Gg,ey,ez,eB,hB]))]
 have Oz:Hid (B=true->shiftDown ltInt jm (swp dj j jm)=d3):=fun hB=>by rw [<-aa FO,Zc hgo (by rw [Gg,ey,ez,eB,hB]),Gg]
 have vQ:Hid ((swp dj j jm).size=N):=by show _=_;rw [size_swp];exact DM
 have HGs:=ae (aQ (aQ hg (aE _ aI (off+j) (.U z))) (aE _ aI (off+jm) (.U y)));have K0:=ae (ag cj cm);have FF:=ae (ag fj fm);go_wp2_with fail
 go_cut [78] (fun rv wc=>rv=.bool (!B)/\wc=wr.drew)
 case first =>(
 refine bO (fun w'=>w'.cell? ⟨aI,off+j,none⟩=some (.U y)/\w'.cell? ⟨aI,off+jm,none⟩=some (.U z)) (by exact K0) fun hS=>?_;refine gy 0 1 2 3 4 5 6 7 hS ?_;refine tn 8 hS ?_;refine ry [9] ?_;refine cn (fun KK hK=>?_) ?_;{refine cL bU 191 _ _ _ bU (.U y) (.U z) bU bU (fun _=>dZ _ _) (dY y z _) ?_;rintro r w2 ⟨rfl,rfl⟩;refine ⟨_,rfl,?_⟩;rw [aa EB];refine cg hK (by exact K0) fun hS=>?_;refine tn 10 hS ?_;refine bu ?_;go_wp2_with fail;go_meet;exact ⟨rfl,rfl⟩};exact AllReadyH.nil)
 obtain ⟨rfl,rfl⟩:=hcut;cases B with
 | false=>
  have e:=aa oW rfl;subst e;go_wp2_with fail;go_meet;exact ⟨yi,ar hg⟩
 | true=>
  have e:=ae (aa Oz rfl);obtain ⟨cj,cm⟩:=aa K0;obtain ⟨fj,fm⟩:=aa FF;go_wp2_with fail
  go_region
  go_wp2;go_roundw
  case rel =>(
 exact ⟨jm,swp dj j jm,by first | rfl | go_num,ab,vQ,(aa Hh),e,ar (ar HGs)⟩)
  case measure=>simp [intOf];omega}
 {
 have Mx:¬ (1:Int)<=(j:Int):=ab;have e:dj=d3:=by rw [<-aa FO,GP (.inl ab)]
 subst e;go_wp2_with fail;go_meet;exact ⟨yi,hg⟩})}
 {
 have hC':¬ (A1:Int)>=2:=ab;have WD:¬ (2:Int)<=(A1:Int):=ab
 try simp only [WD,decide_false]
 have e:d2=d3:=by have:=aa E3;rw [aa eA0,if_neg hC] at this;exact this
 subst e;go_wp2_with fail;go_meet;exact ⟨by exact tY,by exact ar (ar Od)⟩})
 obtain ⟨Bp,Ru⟩:=hcut;obtain ⟨Y3,eY3⟩:=ax wc;subst eY3
 go_upto_if 98 with fail
 by_cases hC:B1>=2;{
 have hC':(B1:Int)>=2:=ab;have WD:=dE 2 B1
 try simp only [WD,decide_true]
 have E3':Hid (shiftUp ltInt b (i1+1) d3=d4):=by have:=aa E4;rw [aa YD,if_pos hC] at this;exact this
 go_wp2_with fail;obtain ⟨Y2,Nt⟩:=ax wr;subst Nt
 go_loopw [10] (fun AG wr=>∃ (j:Nat) (dj:Array Int),AG=.I j/\i1+1<=j/\j<=b/\Hid (dj.size=N)/\Hid (HU wr aI off dj)/\Hid (shiftUp ltInt b j dj=d4)/\Hid (w.grownBy wr (some aI))) (fun AG _=>b-(intOf AG).toNat)
 case atStart=>exact ⟨i1+1,d3,by first | rfl | go_num,ab,ab,Eu,by exact Bp,E3',by exact Ru⟩
 case round =>(
 obtain ⟨j,dj,rfl,q1,q2,Rk,yi,FO,hg⟩:=hrel;by_cases hgo:j<b;{
 have Mx:=aT j b;obtain ⟨jm,ejm⟩:∃ x:Nat,(j:Int)-1=(x:Int):=⟨j-1,ab⟩;have Gg:j-1=jm:=ab;have wjm:=ji jm;have DM:=aa Rk;obtain ⟨cj,fj⟩:=aa yi j ab;obtain ⟨cm,fm⟩:=aa yi jm ab;obtain ⟨y,ey⟩:=aH dj[j]!;obtain ⟨z,ez⟩:=aH dj[jm]!;have Hh:=ae (yi.swap (i:=j) (j:=jm) ab ab ez.symm ey.symm);rw [ey] at cj;rw [ez] at cm;have i1':=aT j N;have i2':=aT jm N;have i3':=dE 0 jm;have i4':=dE 0 j;obtain ⟨B,eB⟩:=aH (ltInt y z);have EB:=ae eB;have oW:Hid (B=false->dj=d4):=fun hB=>by rw [<-aa FO,GM (.inr (by rw [Gg,ey,ez,eB,hB]))]
 have Oz:Hid (B=true->shiftUp ltInt b (j+1) (swp dj j jm)=d4):=fun hB=>by rw [<-aa FO,ah5 hgo (by rw [Gg,ey,ez,eB,hB]),Gg]
 have vQ:Hid ((swp dj j jm).size=N):=by show _=_;rw [size_swp];exact DM
 have HGs:=ae (aQ (aQ hg (aE _ aI (off+j) (.U z))) (aE _ aI (off+jm) (.U y)));have K0:=ae (ag cj cm);have FF:=ae (ag fj fm);go_wp2_with fail
 go_cut [116] (fun rv wc=>rv=.bool (!B)/\wc=wr.drew)
 case first =>(
 refine bO (fun w'=>w'.cell? ⟨aI,off+j,none⟩=some (.U y)/\w'.cell? ⟨aI,off+jm,none⟩=some (.U z)) (by exact K0) fun hS=>?_;refine gy 0 1 2 3 4 5 6 7 hS ?_;refine tn 8 hS ?_;refine ry [9] ?_;refine cn (fun KK hK=>?_) ?_;{refine cL bU 191 _ _ _ bU (.U y) (.U z) bU bU (fun _=>dZ _ _) (dY y z _) ?_;rintro r w2 ⟨rfl,rfl⟩;refine ⟨_,rfl,?_⟩;rw [aa EB];refine cg hK (by exact K0) fun hS=>?_;refine tn 10 hS ?_;refine bu ?_;go_wp2_with fail;go_meet;exact ⟨rfl,rfl⟩};exact AllReadyH.nil)
 obtain ⟨rfl,rfl⟩:=hcut;cases B with
 | false=>
  have e:=aa oW rfl;subst e;go_wp2;go_roundw
  case rel =>(
 exact ⟨i1,t,jz+1,_,rfl,by first | rfl | go_num,ab,ab,ab,ab,Py,yi,HQ,ar hg⟩)
  case measure=>simp [intOf];omega
 | true=>
  have e:=ae (aa Oz rfl);obtain ⟨cj,cm⟩:=aa K0;obtain ⟨fj,fm⟩:=aa FF;go_wp2_with fail
  go_region
  go_wp2;go_roundw
  case rel =>(
 exact ⟨j+1,swp dj j jm,by first | rfl | go_num,ab,ab,vQ,(aa Hh),e,ar (ar HGs)⟩)
  case measure=>simp [intOf];omega}
 {
 have Mx:=dy j b;have e:dj=d4:=by rw [<-aa FO,GM (.inl hgo)]
 subst e;go_wp2;go_roundw
 case rel =>(
 exact ⟨i1,t,jz+1,_,rfl,by first | rfl | go_num,ab,ab,ab,ab,Py,yi,HQ,hg⟩)
 case measure=>simp [intOf];omega})}
 {
 have hC':¬ (B1:Int)>=2:=ab;have WD:¬ (2:Int)<=(B1:Int):=ab
 try simp only [WD,decide_false]
 have e:d3=d4:=by have:=aa E4;rw [aa YD,if_neg hC] at this;exact this
 subst e;go_wp2;go_roundw
 case rel =>(
 exact ⟨i1,t,jz+1,_,rfl,by first | rfl | go_num,ab,ab,ab,ab,Py,by exact Bp,HQ,by exact Ru⟩)
 case measure=>simp [intOf];omega}}}))
end Q
namespace Q
open Go.Sort Go.RowKit Go.Proofs.Tryz
structure JM (w:World) (g:Nat) (S:Int):Prop where
 cell:w.cell? ⟨g,0,none⟩=some (.I S)
 fr:w.frozen? ⟨g,0,none⟩=false
theorem JM.drew {w:World} {S:Int} (h:JM w g S):JM w.drew g S:=⟨h.cell,h.fr⟩
theorem JM.set {w:World} {S T:Int} (h:JM w g S):JM (w.setCell ⟨g,0,none⟩ (.I T)) g T:=
 ⟨World.cell?_setCell_same _ _ _ h.cell,by rw [World.frozen?_setCell];exact h.fr⟩
theorem HU.aside {w:World} {aI off g o:Nat} (h:HU w aI off d) (gd:g≠aI):HU (w.setCell ⟨g,o,none⟩ v) aI off d:=
 h.kept (dF _ _ _ _ (fun e=>gd (by simpa using e.symm)))
theorem qG (aI off cap N g x y:Nat) (S:Int) (d:Array Int) (hN:Hid (d.size=N)) (w:World) (h:HU w aI off d) (hx:x<N) (hy:y<N) (il:N<=1048576) (hg:g≠aI) (hc:JM w g S) (hS:0<=S) (Cg:S<=1000) :
  Calls prog 224 #[.S (some ⟨aI,off,none⟩) N cap,.I x,.I y,.pointer (some ⟨g,0,none⟩)] w fun e w'=>
   ∃ (x' y':Nat) (S':Int),e=.returned (.tuple #[.I x',.I y'])/\((x'=x/\y'=y)\/(x'=y/\y'=x))/\S<=S'/\S'<=S+1/\JM w' g S'/\HU w' aI off d/\w.grownBy w' (some g):=by
 have qO:=aa hN;obtain ⟨cx,-⟩:=h x ab;obtain ⟨cy,-⟩:=h y ab;obtain ⟨u,eu⟩:=aH d[x]!;obtain ⟨v,ev⟩:=aH d[y]!;rw [eu] at cx;rw [ev] at cy;have k1:=aT x N;have k2:=aT y N;obtain ⟨B,eB⟩:=aH (ltInt v u);have EB:=ae eB;have K0:=ae (ag cx cy);have H0:=ae h;have C0:=ae hc;have la:=hc.cell;have ve:=hc.fr;go_enter func224,ntmps224;go_wp2_with fail
 go_cut [18] (fun rv wc=>rv=.bool B/\wc=w.drew)
 case first =>(
 refine bO (fun w'=>w'.cell? ⟨aI,off+x,none⟩=some (.U u)/\w'.cell? ⟨aI,off+y,none⟩=some (.U v)) (by exact K0) fun hS=>?_;refine gy 0 1 2 3 4 5 6 7 hS ?_;refine ry [8] ?_;refine cn (fun KK hK=>?_) ?_;{refine cL bU 191 _ _ _ bU (.U v) (.U u) bU bU (fun _=>dZ _ _) (dY v u _) ?_;rintro r' w2 ⟨rfl,rfl⟩;refine ⟨_,rfl,?_⟩;rw [aa EB];refine cg hK (by exact K0) fun hS=>?_;refine bu ?_;go_wp2_with fail;go_meet;exact ⟨rfl,rfl⟩};exact AllReadyH.nil)
 obtain ⟨rfl,rfl⟩:=hcut;cases B with
 | true=>
  go_wp2
  go_ret2
  exact ⟨y,x,S+1,rfl,.inr ⟨rfl,rfl⟩,ab,ab,C0.drew.set,(H0.drew).aside hg,aQ (ar (ld w _)) (aE _ g 0 _)⟩
 | false=>
  go_wp2
  go_ret2
  exact ⟨x,y,S,rfl,.inl ⟨rfl,rfl⟩,ab,ab,C0.drew,H0.drew,ar (ld w _)⟩
theorem qI (aI off cap N g x y z:Nat) (S:Int) (d:Array Int) (hN:Hid (d.size=N)) (w:World) (h:HU w aI off d) (hx:x<N) (hy:y<N) (hz:z<N) (il:N<=1048576) (hg:g≠aI) (hc:JM w g S) (hS:0<=S) (Cg:S<=900) :
  Calls prog 212 #[.S (some ⟨aI,off,none⟩) N cap,.I x,.I y,.I z,.pointer (some ⟨g,0,none⟩)] w fun e w'=>
   ∃ (m:Nat) (S':Int),e=.returned (.I m)/\(m=x\/m=y\/m=z)/\S<=S'/\S'<=S+3/\JM w' g S'/\HU w' aI off d/\w.grownBy w' (some g):=by
 have H0:=ae h;have C0:=ae hc;go_enter func212,ntmps212;go_wp2_with fail;refine (qG aI off cap N g x y S d hN w H0 hx hy il hg C0 hS ab).mono ?_;rintro e w1 ⟨x1,y1,S1,rfl,hxy,s1,s2,kH,tL,fO⟩;have C1:=ae kH;have H1:=ae tL;have G1:=ae fO;have XY:=ae hxy;have x1N:x1<N:=ab;have y1N:y1<N:=ab;go_wp2_with fail;refine (qG aI off cap N g y1 z S1 d hN w1 H1 y1N hz il hg C1 ab ab).mono ?_;rintro e w2 ⟨y2,z2,S2,rfl,hyz,s3,s4,jF,sX,fU⟩;have C2:=ae jF;have H2:=ae sX;have G2:=ae fU;have YZ:=ae hyz;have y2N:y2<N:=ab;go_wp2_with fail;refine (qG aI off cap N g x1 y2 S2 d hN w2 H2 x1N y2N il hg C2 ab ab).mono ?_;rintro e w3 ⟨x3,y3,S3,rfl,aH6,s5,s6,Rn,Bp,uA⟩;have C3:=ae Rn;have H3:=ae Bp;have G3:=ae uA;have XY3:=ae aH6;go_wp2;go_ret;exact ⟨y3,S3,rfl,by have:=aa XY;have:=aa YZ;have:=aa XY3;omega,ab,ab,C3,H3,aQ G1 (aQ G2 G3)⟩
theorem lE (aI off cap N g x:Nat) (S:Int) (d:Array Int) (hN:Hid (d.size=N)) (w:World) (h:HU w aI off d) (hx:1<=x) (LO:x+1<N) (il:N<=1048576) (hg:g≠aI) (hc:JM w g S) (hS:0<=S) (Cg:S<=900) :
  Calls prog 211 #[.S (some ⟨aI,off,none⟩) N cap,.I x,.pointer (some ⟨g,0,none⟩)] w fun e w'=>
   ∃ (m:Nat) (S':Int),e=.returned (.I m)/\x<=m+1/\m<=x+1/\S<=S'/\S'<=S+3/\JM w' g S'/\HU w' aI off d/\w.grownBy w' (some g):=by
 have H0:=ae h;have C0:=ae hc;obtain ⟨m,em⟩:∃ m:Nat,(x:Int)-1=(m:Int):=⟨x-1,ab⟩;obtain ⟨n,en⟩:∃ n:Nat,(x:Int)+1=(n:Int):=⟨x+1,ab⟩;have wm:=ji m;have wn:=ji n;have mN:m<N:=ab;have nN:n<N:=ab;have xN:x<N:=ab;go_enter func211,ntmps211;go_wp2_with fail;refine (qI aI off cap N g m x n S d hN w H0 mN xN nN il hg C0 hS Cg).mono ?_;rintro e w1 ⟨r,S1,rfl,hr,s1,s2,kH,tL,fO⟩;have C1:=ae kH;have H1:=ae tL;have G1:=ae fO;have HR:=ae hr;go_wp2;go_ret;exact ⟨r,S1,rfl,by have:=aa HR;omega,by have:=aa HR;omega,s1,s2,C1,H1,G1⟩
end Q
namespace Q
open Go.Sort Go.RowKit Go.Proofs.Tryz
theorem tF (w:World) (o:Obj) (row:Option Nat):w.grownBy (w.alloc o) row:=World.grownBy_alloc w o row
theorem tM {w w1 w2:World} {row:Option Nat} (h:w.grownBy w1 row) (k:w1.grownBy w2 (some g)) (hg:w.heap.size<=g):w.grownBy w2 row:=
 ⟨k.os.trans h.os,k.tape.trans h.tape,k.output.trans h.output,Nat.le_trans h.size k.size,fun i hi gd=>(k.block i (Nat.lt_of_lt_of_le hi h.size) (fun e=>by
  have:i=g:=by simpa using e
  omega)).trans (h.block i hi gd)⟩
theorem HU.alloc {w:World} {aI off:Nat} (h:HU w aI off d) (hb:aI<w.heap.size) (o:Obj):HU (w.alloc o) aI off d:=
 h.kept (RowKit.Below.heap_alloc w o aI hb)
theorem IE (aI off cap N a b:Nat) (d:Array Int) (hN:Hid (d.size=N)) (w:World) (h:HU w aI off d) (jd:aI<w.heap.size) (FR:a+8<=b) (hb:b<=N) (il:N<=1048576) :
  Calls prog 188 #[.S (some ⟨aI,off,none⟩) N cap,.I a,.I b] w fun e w'=>
   ∃ (p:Nat) (t:Int),e=.returned (.tuple #[.I p,.I t])/\a<=p/\p<b/\HU w' aI off d/\w.grownBy w' (some aI):=by
 obtain ⟨L,eL⟩:∃ x:Nat,(b:Int)-(a:Int)=(x:Int):=⟨b-a,ab⟩;have wL:=ji L;obtain ⟨Q,eQ⟩:=aH (L / 4);have eQ1:Int.tdiv (L:Int) 4=(Q:Int):=by rw [<-eQ];exact (Int.ofNat_tdiv L 4).symm
 have eQ2:(L:Int) / 4=(Q:Int):=ab;have wQ:=ji Q;have wQ2:IntKind.i64.wrap ((Q:Int)*2)=(Q:Int)*2:=IntWalk.i64_in _ ab;have wQ3:IntKind.i64.wrap ((Q:Int)*3)=(Q:Int)*3:=IntWalk.i64_in _ ab;obtain ⟨I,eI⟩:∃ x:Nat,(a:Int)+(Q:Int)=(x:Int):=⟨a+Q,ab⟩;obtain ⟨J,eJ⟩:∃ x:Nat,(a:Int)+(Q:Int)*2=(x:Int):=⟨a+Q*2,ab⟩;obtain ⟨K,eK⟩:∃ x:Nat,(a:Int)+(Q:Int)*3=(x:Int):=⟨a+Q*3,ab⟩;have wI:=ji I;have wJ:=ji J;have wK:=ji K;have bI:a+2<=I/\I+6<=b:=ab;have bJ:a+2<=J/\J+2<b:=ab;have bK:a+2<=K/\K+1<b:=ab;have h8:=dE 8 L;have hg:w.heap.size≠aI:=ab;have H0:=ae (h.alloc jd (.cells #[.I 0] 3));have C0:Hid (JM (w.alloc (.cells #[.I 0] 3)) w.heap.size 0):=⟨aU,aU⟩;have HL:=ae (ag eQ FR);go_enter func188,ntmps188;by_cases WH:(50:Int)<=(L:Int);{
 go_wp2_with fail;refine (lE aI off cap N w.heap.size I 0 d hN _ H0 ab ab il hg C0 ab ab).mono ?_;rintro e w1 ⟨i1,S1,rfl,p1,p2,s1,s2,kH,tL,fO⟩;have C1:=ae kH;have H1:=ae tL;have G1:=ae fO;go_wp2_with fail;refine (lE aI off cap N w.heap.size J S1 d hN _ H1 ab ab il hg C1 ab ab).mono ?_;rintro e w2 ⟨j1,S2,rfl,p3,p4,s3,s4,jF,sX,fU⟩;have C2:=ae jF;have H2:=ae sX;have G2:=ae fU;go_wp2_with fail;refine (lE aI off cap N w.heap.size K S2 d hN _ H2 ab ab il hg C2 ab ab).mono ?_;rintro e w3 ⟨k1,S3,rfl,p5,p6,s5,s6,Rn,Bp,uA⟩;have C3:=ae Rn;have H3:=ae Bp;have G3:=ae uA;go_wp2_with fail;refine (qI aI off cap N w.heap.size i1 j1 k1 S3 d hN _ H3 ab ab ab il hg C3 ab ab).mono ?_;rintro e w4 ⟨m,S4,rfl,hm,s7,s8,DO,DQ,sw⟩;have H4:=ae DQ;have G4:=ae (tM (tF w _ (some aI)) (aQ G1 (aQ G2 (aQ G3 sw))) aA);have B4:a<=m/\m<b:=ab;have HB:=ae B4;have la:=DO.cell;go_wp2
 all_goals
  go_ret2
  exact ⟨m,_,rfl,HB.1,HB.2,H4,G4⟩};{
 go_wp2_with fail;refine (qI aI off cap N w.heap.size I J K 0 d hN _ H0 ab ab ab il hg C0 ab ab).mono ?_;rintro e w4 ⟨m,S4,rfl,hm,s7,s8,DO,DQ,sw⟩;have H4:=ae DQ;have G4:=ae (tM (tF w _ (some aI)) sw aA);have B4:a<=m/\m<b:=ab;have HB:=ae B4;have la:=DO.cell;go_wp2
 all_goals
  go_ret2
  exact ⟨m,_,rfl,HB.1,HB.2,H4,G4⟩}
end Q
namespace Q
open Go.Sort Go.RowKit Go.Proofs.Tryz
theorem Fh:∀ x:Nat,0<x->x<2 ^ 64->2 ^ (Lib.bitLen x)<=2*x:=by
 intro x
 induction x using Nat.strongRecOn with
 | _ x ih=>
  intro h0 h;rw [Lib.bitLen_half x ab h,Nat.add_comm,Nat.pow_succ];by_cases h1:x=1;{subst h1;decide};{have:=ih (x / 2) ab ab ab;omega}
theorem UT (i:Nat) (h:i<Lib.len8tab.size):(Lib.len8tab[i]).toNat=Lib.bitLen i/\Lib.bitLen i<=8:=by
 have h':=h;rw [Lib.len8tab_size] at h';have h2:=Lib.len8_of (i:Int) ab ab;have h3:=Lib.bitLen_le8' (i:Int) ab ab;simp only [Lib.len8,Int.toNat_natCast,ByteArray.getElem?_lt' _ _ h,Option.getD_some] at h2 h3;omega
theorem Av {i:Int} {m:Nat} (e:i.toNat=m) (h:i.toNat<Lib.len8tab.size):((Lib.len8tab[i.toNat]).toNat:Int)=(Lib.bitLen m:Int)/\Lib.bitLen m<=8:=by
 subst e;have:=UT i.toNat h;omega
theorem IN (n:Nat) (hn:n<=1048576) (w:World):Calls prog 195 #[.U n] w fun e w'=>e=.returned (.I (Lib.bitLen n))/\w'=w:=by
 obtain ⟨x,ex⟩:∃ x:Int,(n:Int)=x:=⟨_,rfl⟩;have hx0:0<=x:=ab;have JV:x<=1048576:=ab;rw [ex];have EX:=ae (ag ex hn);clear ex hn;go_enter func195,ntmps195;go_wp2
 all_goals (try (exfalso;simp only [Lib.len8tab_size] at *;omega))
 all_goals (go_ret;refine ⟨congrArg Ending.returned (congrArg (Value.int IntKind.i64) ?_),rfl⟩)
 {obtain ⟨ex,hn⟩:=aa EX;obtain ⟨t1,t2⟩:=Av (i:=x / 65536) (m:=n / 65536) ab ab;have s:=Lib.bitLen_shift16 n ab ab;rw [t1,IntWalk.wrap64_in (Lib.bitLen _:Int) ab,IntWalk.wrap64_in _ ab];omega};{obtain ⟨ex,hn⟩:=aa EX;obtain ⟨t1,t2⟩:=Av (i:=x / 256) (m:=n / 256) ab ab;have s:=Lib.bitLen_shift8 n ab ab;rw [t1,IntWalk.wrap64_in (Lib.bitLen _:Int) ab,IntWalk.wrap64_in _ ab];omega};{obtain ⟨ex,hn⟩:=aa EX;obtain ⟨t1,t2⟩:=Av (i:=x) (m:=n) ab ab;rw [t1,IntWalk.wrap64_in (Lib.bitLen _:Int) ab,IntWalk.wrap64_in _ ab]}
theorem AV (n:Nat) (hn:n<=1048576) (w:World):Calls prog 180 #[.U n] w fun e w'=>e=.returned (.I (Lib.bitLen n))/\w'=w:=by
 go_enter func180,ntmps180;go_wp2_with fail;refine (IN n hn _).mono ?_;rintro e w' ⟨rfl,rfl⟩;go_wp2;go_ret;exact ⟨rfl,rfl⟩
theorem Ll (n:Nat) (RI:0<n) (hn:n<=1048576) (w:World):Calls prog 209 #[.I n] w fun e w'=>∃ M:Nat,e=.returned (.U M)/\0<M/\M<=2*n/\w'=w:=by
 have hK:Lib.bitLen n<=21:=Lib.bitLen_le n 21 ab ab;have hP:=Fh n RI ab;have hL:=AV n hn;generalize Lib.bitLen n=K at hK hP hL;obtain ⟨M,eM⟩:=aH (2 ^ K);have h0:0<M:=by rw [<-eM];exact Nat.two_pow_pos K
 rw [eM] at hP;have hp:((2:Int) ^ K)=(M:Int):=by rw [<-eM];push_cast;rfl
 have hw:IntKind.u64.wrap ((2:Int) ^ K)=(M:Int):=by rw [hp,IntKind.wrap_u64];omega
 have hP':=ae hP;have WJ:=ae h0;clear hP h0 eM hp;go_enter func209,ntmps209;go_wp2_with fail;refine (hL _).mono ?_;rintro e w' ⟨rfl,rfl⟩;go_wp2;go_ret;exact ⟨M,by first | rfl | simp only [hw],aa WJ,aa hP',rfl⟩
theorem WL (g X:Nat) (hX:X<18446744073709551616) (w:World) (hc:w.cell? ⟨g,0,none⟩=some (.U X)) (hf:w.frozen? ⟨g,0,none⟩=false) :
  Calls prog 210 #[.pointer (some ⟨g,0,none⟩)] w fun e w'=>∃ C:Nat,e=.returned (.U C)/\C<18446744073709551616/\w'.cell? ⟨g,0,none⟩=some (.U C)/\w'.frozen? ⟨g,0,none⟩=false/\w.grownBy w' (some g):=by
 obtain ⟨A,lA,e1⟩:∃ A:Nat,A<18446744073709551616/\bits .xor .u64 (X:Int) (IntKind.u64.wrap ((X:Int)*8192))=(A:Int):=by refine ⟨X ^^^ (X*8192 % 18446744073709551616),Nat.xor_lt_two_pow (n:=64) ab ab,?_⟩;rw [IntKind.wrap_u64,show ((X:Int)*8192 % 18446744073709551616)=((X*8192 % 18446744073709551616:Nat):Int) by omega,bits_xor_u64_nat _ _ hX ab]
 obtain ⟨B,lB,e2⟩:∃ B:Nat,B<18446744073709551616/\bits .xor .u64 (A:Int) ((A:Int) / 128)=(B:Int):=by refine ⟨A ^^^ (A / 128),Nat.xor_lt_two_pow (n:=64) ab ab,?_⟩;rw [show ((A:Int) / 128)=((A / 128:Nat):Int) by omega,bits_xor_u64_nat _ _ lA ab]
 obtain ⟨C,lC,e3⟩:∃ C:Nat,C<18446744073709551616/\bits .xor .u64 (B:Int) (IntKind.u64.wrap ((B:Int)*131072))=(C:Int):=by refine ⟨B ^^^ (B*131072 % 18446744073709551616),Nat.xor_lt_two_pow (n:=64) ab ab,?_⟩;rw [IntKind.wrap_u64,show ((B:Int)*131072 % 18446744073709551616)=((B*131072 % 18446744073709551616:Nat):Int) by omega,bits_xor_u64_nat _ _ lB ab]
 have c1:=World.cell?_setCell_same w ⟨g,0,none⟩ (.U A) hc;have c2:=World.cell?_setCell_same _ ⟨g,0,none⟩ (.U B) c1;have c3:=World.cell?_setCell_same _ ⟨g,0,none⟩ (.U C) c2;have HG:=ae (aQ (aQ (aE w g 0 (.U A)) (aE _ g 0 (.U B))) (aE _ g 0 (.U C)));have HF:Hid ((((w.setCell ⟨g,0,none⟩ (.U A)).setCell ⟨g,0,none⟩ (.U B)).setCell ⟨g,0,none⟩ (.U C)).frozen? ⟨g,0,none⟩=false):=by show _=_;simp only [World.frozen?_setCell];exact hf
 have LC:=ae lC;have HC:=ae c3;clear hX lA lB lC;go_enter func210,ntmps210;go_wp2_with fail
 go_region
 go_wp2_with fail
 go_region
 go_wp2_with fail
 go_region
 go_wp2;go_ret;exact ⟨C,rfl,LC,by exact HC,by exact HF,by exact ar (ar (ar HG))⟩
end Q
namespace Q
open Go.Sort Go.RowKit Go.Proofs.Tryz
theorem JE (aI off cap N a b:Nat) (d:Array Int) (hN:Hid (d.size=N)) (w:World) (h:HU w aI off d) (jd:aI<w.heap.size) (FR:a+8<=b) (hb:b<=N) (il:N<=1048576) :
  Calls prog 187 #[.S (some ⟨aI,off,none⟩) N cap,.I a,.I b] w fun e w'=>
   e=.returned (.tuple #[])/\∃ d',HU w' aI off d'/\PermIn a b d d'/\w.grownBy w' (some aI):=by
 obtain ⟨L,eL⟩:∃ x:Nat,(b:Int)-(a:Int)=(x:Int):=⟨b-a,ab⟩;have wL:=ji L;obtain ⟨Q,eQ⟩:=aH (L / 4);have eQ1:Int.tdiv (L:Int) 4=(Q:Int):=by rw [<-eQ];exact (Int.ofNat_tdiv L 4).symm
 have eQ2:(L:Int) / 4=(Q:Int):=ab;have wQ:=ji Q;have wQ2:IntKind.i64.wrap ((Q:Int)*2)=(Q:Int)*2:=IntWalk.i64_in _ ab;obtain ⟨J,eJ⟩:∃ x:Nat,(a:Int)+(Q:Int)*2=(x:Int):=⟨a+Q*2,ab⟩;have wJ:=ji J;have bJ:a+2<=J/\J+2<b:=ab;have wJ1:IntKind.i64.wrap ((J:Int)+1)=(J:Int)+1:=IntWalk.i64_in _ ab;obtain ⟨J0,eJ0⟩:∃ x:Nat,(J:Int)-1=(x:Int):=⟨J-1,ab⟩;have wJ0:=ji J0;have h8:=dE 8 L;have wU:IntKind.u64.wrap (L:Int)=(L:Int):=by rw [IntKind.wrap_u64];omega
 have hg:w.heap.size≠aI:=ab;have hLb:a+L=b:=ab;have H0:=ae (h.alloc jd (.cells #[.U L] 280));have HL:=ae (ag eQ FR);go_enter func187,ntmps187;go_wp2_with fail;refine (Ll L ab ab _).mono ?_;rintro e w1 ⟨M,rfl,hM0,hM,rfl⟩;have wM:IntKind.u64.wrap ((M:Int)-1)=(M:Int)-1:=by rw [IntKind.wrap_u64];omega
 go_wp2_with fail
 go_loopw [9] (fun s9 wr=>∃ (idx R:Nat) (dk:Array Int),s9=.I idx/\J0<=idx/\idx<=J+2/\R<18446744073709551616/\Hid (wr.cell? ⟨w.heap.size,0,none⟩=some (.U R)/\wr.frozen? ⟨w.heap.size,0,none⟩=false)/\Hid (HU wr aI off dk)/\Hid (PermIn a b d dk)/\Hid (dk.size=N)/\Hid (w.grownBy wr (some aI))) (fun s9 _=>J+2-(intOf s9).toNat)
 case atStart=>exact ⟨J0,L,d,rfl,ab,ab,ab,⟨aU,aU⟩,by exact aa H0,permIn_refl d a b,hN,by exact tF w _ _⟩
 case round =>(
 obtain ⟨idx,R,dk,rfl,z1,z2,lR,hC,hH,hP,hdk,hG⟩:=hrel;by_cases hgo:idx<=J+1;{
 have Mx:(idx:Int)<=(J:Int)+1:=ab;go_wp2_with fail;refine (WL w.heap.size R lR _ hC.1 hC.2).mono ?_;rintro e w2 ⟨C,rfl,lC,jF,Bj,fU⟩;have C2:=ae (ag jF Bj);have H2:=ae (hH.kept (fU.block aI (Nat.lt_of_lt_of_le jd hG.size) (fun e=>hg (by simpa using e.symm))));have G2:=ae (tM hG fU aA);obtain ⟨O,lO,cb8⟩:∃ O:Nat,O<=M-1/\bits .and .u64 (C:Int) ((M:Int)-1)=(O:Int):=by refine ⟨C &&& (M-1),Nat.and_le_right,?_⟩;rw [show ((M:Int)-1)=((M-1:Nat):Int) by omega,bits_and_u64_nat _ _ lC ab]
 have wO:=ji O;by_cases hLO:L<=O;{
 have aQ6:=vj L O;obtain ⟨P,eP⟩:∃ x:Nat,(O:Int)-(L:Int)=(x:Int):=⟨O-L,ab⟩;have wP:=ji P;have bP:P<L:=ab;obtain ⟨T,eT⟩:∃ x:Nat,(a:Int)+(P:Int)=(x:Int):=⟨a+P,ab⟩;have wT:=ji T;have bT:a<=T/\T<b:=ab;have qO:=aa hdk;obtain ⟨c1,f1⟩:=aa H2 idx ab;obtain ⟨c2,f2⟩:=aa H2 T ab;obtain ⟨p1,xB⟩:=aH dk[idx]!;obtain ⟨p2,xA⟩:=aH dk[T]!;rw [xB] at c1;rw [xA] at c2;obtain ⟨tt,ct⟩:=ij (q:=⟨aI,off+idx,none⟩) (u:=.U p2) c2;have tY:=ae (H2.swap (i:=idx) (j:=T) ab ab xA.symm xB.symm);have Od:=ae (aQ (aQ G2 (aE _ aI (off+idx) (.U p2))) (aE _ aI (off+T) (.U p1)));have HPn:Hid (PermIn a b d (swp dk idx T)):=permIn_trans _ _ _ a b hP (swp_permIn dk a b idx T ab ab ab ab ab);have HDn:Hid ((swp dk idx T).size=N):=by show _=_;rw [size_swp];exact qO
 have HCn:Hid ((((w2.setCell ⟨aI,off+idx,none⟩ (.U p2)).setCell ⟨aI,off+T,none⟩ (.U p1)).drew).cell? ⟨w.heap.size,0,none⟩=some (.U C)/\(((w2.setCell ⟨aI,off+idx,none⟩ (.U p2)).setCell ⟨aI,off+T,none⟩ (.U p1)).drew).frozen? ⟨w.heap.size,0,none⟩=false):=
  ⟨(World.cell?_setCell_other _ _ _ _ (by simp<;>omega)).trans ((World.cell?_setCell_other _ _ _ _ (by simp<;>omega)).trans C2.1),by show World.frozen? ((w2.setCell ⟨aI,off+idx,none⟩ (.U p2)).setCell ⟨aI,off+T,none⟩ (.U p1)) _=false;rw [World.frozen?_setCell,World.frozen?_setCell];exact C2.2⟩
 have l1:=aT idx N;have l2:=aT T N;have l3:=dE 0 T;go_wp2_with fail
 go_region
 go_wp2;go_roundw
 case rel=>exact ⟨idx+1,C,swp dk idx T,by first | rfl | go_num,ab,ab,lC,HCn,by exact tY,HPn,HDn,by exact ar Od⟩
 exact dC};{
 have aQ6:¬ (L:Int)<=(O:Int):=ab;obtain ⟨P,eP⟩:∃ x:Nat,O=x:=⟨O,rfl⟩;subst eP;have bP:O<L:=ab;obtain ⟨T,eT⟩:∃ x:Nat,(a:Int)+(O:Int)=(x:Int):=⟨a+O,ab⟩;have wT:=ji T;have bT:a<=T/\T<b:=ab;have qO:=aa hdk;obtain ⟨c1,f1⟩:=aa H2 idx ab;obtain ⟨c2,f2⟩:=aa H2 T ab;obtain ⟨p1,xB⟩:=aH dk[idx]!;obtain ⟨p2,xA⟩:=aH dk[T]!;rw [xB] at c1;rw [xA] at c2;obtain ⟨tt,ct⟩:=ij (q:=⟨aI,off+idx,none⟩) (u:=.U p2) c2;have tY:=ae (H2.swap (i:=idx) (j:=T) ab ab xA.symm xB.symm);have Od:=ae (aQ (aQ G2 (aE _ aI (off+idx) (.U p2))) (aE _ aI (off+T) (.U p1)));have HPn:Hid (PermIn a b d (swp dk idx T)):=permIn_trans _ _ _ a b hP (swp_permIn dk a b idx T ab ab ab ab ab);have HDn:Hid ((swp dk idx T).size=N):=by show _=_;rw [size_swp];exact qO
 have HCn:Hid ((((w2.setCell ⟨aI,off+idx,none⟩ (.U p2)).setCell ⟨aI,off+T,none⟩ (.U p1)).drew).cell? ⟨w.heap.size,0,none⟩=some (.U C)/\(((w2.setCell ⟨aI,off+idx,none⟩ (.U p2)).setCell ⟨aI,off+T,none⟩ (.U p1)).drew).frozen? ⟨w.heap.size,0,none⟩=false):=
  ⟨(World.cell?_setCell_other _ _ _ _ (by simp<;>omega)).trans ((World.cell?_setCell_other _ _ _ _ (by simp<;>omega)).trans C2.1),by show World.frozen? ((w2.setCell ⟨aI,off+idx,none⟩ (.U p2)).setCell ⟨aI,off+T,none⟩ (.U p1)) _=false;rw [World.frozen?_setCell,World.frozen?_setCell];exact C2.2⟩
 have l1:=aT idx N;have l2:=aT T N;have l3:=dE 0 T;go_wp2_with fail
 go_region
 go_wp2;go_roundw
 case rel=>exact ⟨idx+1,C,swp dk idx T,by first | rfl | go_num,ab,ab,lC,HCn,by exact tY,HPn,HDn,by exact ar Od⟩
 exact dC}};{
 have Mx:¬ (idx:Int)<=(J:Int)+1:=ab;go_wp2
 go_end0
 exact ⟨rfl,dk,hH,hP,hG⟩})
end Q
namespace Q
open Go.RowKit Go.Maps Go.Proofs.Tryz
theorem gR:Keyed prog 23:=int_keyed underlying23
abbrev dQ (x:Int):Value:=.U x
def lM {H:Type} (D0:DataW H) (left:Lit->Bool) (ss:List Int):Prop:=ss.Nodup/\∀ x,x∈ss↔(has D0 (.U x)=true/\left (.U x)=false)
theorem lM.start {H:Type} (D0:DataW H):lM D0 (has D0) []:=⟨List.nodup_nil,fun x=>by cases has D0 (.U x)<;>simp⟩
theorem lM.step {H:Type} {D0:DataW H} {ss:List Int} (h:lM D0 left ss) {x:Int} {y:DataW H} (hlk:left (.U x)=true) (gS:∀ zd,D0.atKey (.U x) zd=y):lM D0 (fun z=>left z&&!z.sameKey (.U x)) (ss++[x]):=by
 have FM:has D0 (.U x)=true:=has_true_of_atKey gS;have Ly:x∉ss:=fun hx=>by have:=((h.2 x).1 hx).2;rw [hlk] at this;cases this
 refine ⟨List.nodup_append.2 ⟨h.1,aU,fun a ha b hb=>by simp at hb;subst hb;exact fun e=>Ly (e▸ha)⟩,fun y=>?_⟩;by_cases hy:y=x;{subst hy;simp [FM,Lit.sameKey]};{simp [h.2 y,hy,Lit.sameKey]}
def jb {H:Type} (D0:DataW H) (ss:List Int):Prop:=ss.Nodup/\(∀ x,x∈ss↔has D0 (.U x)=true)/\ss.length<=Maps.size D0
theorem lM.all {H:Type} {D0:DataW H} {ss:List Int} (h:lM D0 left ss) (hl:∀ kl,left kl=false) (hs:ss.length<=Maps.size D0):jb D0 ss:=⟨h.1,(fun x=>by rw [h.2 x,hl];simp),hs⟩
theorem AY {H:Type} (n:Nat) (hn:1<=n) (l Bm b nn:Nat) (D0:DataW H) {R:Value->Option (DataW H × List MemPlace)} (J Jx:List Int->World->Prop)
  (hY:∀ pre x W,J pre W->pre.length<Maps.size D0->YieldAt Fence.wide (n-1) prog l #[dQ x] W fun e W'=>(e=.returned (.bool true)/\J (pre++[x]) W'/\KeepsWalks W W')\/(e=.returned (.bool false)/\Jx (pre++[x]) W'))
  (W:World) (hJ:AbidesFrom W.heap.size J) (hm:W.cell? ⟨Bm,0,none⟩=some (.map (some b))) (br:W.ownsMap prog 23 R b nn D0) (h0:J [] W) :
  CallsIn Fence.wide n prog 169 #[.func (.yield l) #[] #[],.pointer (some ⟨Bm,0,none⟩)] W fun e W'=>(∃ v,e=.returned v)/\((∃ ss:List Int,jb D0 ss/\J ss W')\/(∃ pre,Jx pre W')):=by
 refine callsIn_of_wp func169 rfl trivial ?_ rfl;simp only [ntmps169,List.size_toArray,List.length_cons,List.length_nil,Nat.reduceAdd,Nat.reduceSub,Array.replicate_succ,Array.replicate_zero,List.push_toArray,List.append_toArray,List.nil_append,List.cons_append]
 gi_wp2_with (first
  | (gi_at_range;refine wpListIn_range_own _ rfl _ 129 rfl 23 _ gR underlying129 _ b nn _ rfl br ?_;intro w0 pI uX Hj)
  | gi_in)
 go_frame
 gi_loopw [3] (fun _ wr=>∃ (left:Lit->Bool) (mV:Nat) (ss:List Int),wr.ranges prog 23 R b W.heap.size nn D0 left mV/\ss.length+mV<=Maps.size D0/\lM D0 left ss/\J ss wr)
  (fun _ wr=>wr.rangeLeft b W.heap.size)
 case atStart=>exact ⟨_,_,[],pI,aU,lM.start D0,hJ [] W w0 none h0 uX (fun r e=>by cases e)⟩
 case round =>(
 obtain ⟨left,mV,ss,nM,Ce,hC,TJ⟩:=hrel
 gi_wp2_with (first
  | (gi_at_next;refine wpListIn_next_ranges _ rfl _ rfl 23 gR R dQ id (fun key kl hk=>by obtain ⟨x,hx,_⟩:=Maps.keyOf_int_inv underlying23 hk;exact ⟨x,hx⟩) (fun v _ _=>⟨v,rfl⟩) b W.heap.size nn _ _ _ rfl nM ?_ ?_)
  | gi_in)
 {
 intro Yh tJ
 gi_wp2
 go_end0
 exact ⟨⟨_,rfl⟩,.inl ⟨ss,hC.all tJ ab,TJ⟩⟩};{
 intro x c kl yd yp w2 NN kp hlk hv gS xm bj fU DC Bk;obtain ⟨x',ex,rfl,_⟩:=Maps.keyOf_int_inv underlying23 kp;obtain rfl:x=x':=by simpa [dQ] using ex
 have TK:J ss w2:=hJ ss wr w2 (some W.heap.size) TJ fU (fun r e=>by cases e;exact ⟨Nat.le_refl _,nM.iter_walk⟩);obtain ⟨fn,tmps,assign,body,hy,hR⟩:=hY ss x w2 TK ab;clear DC
 gi_wp2
 refine hR.mono ?_;rintro e W3 (⟨rfl,hJ3,uJ⟩ | ⟨rfl,MU⟩);{
 gi_wp2
 have si:=xm.of_walks uJ;go_roundw
 case rel=>exact ⟨_,NN,ss++[x],si,dx,hC.step hlk gS,hJ3⟩
 case measure=>rw [si.left_eq,nM.left_eq];exact bj}
 {
 gi_wp2
 refine bodyPost_ret (results_none rfl _ _ _) rfl ?_;exact ⟨⟨_,rfl⟩,.inr ⟨_,MU⟩⟩}})
theorem Fv (n:Nat) (mb:Option Nat) (w:World) :
  CallsIn Fence.wide n prog 144 #[.map mb] w fun e w'=>e=.returned (.func (.func 169) #[] #[.pointer (some ⟨w.heap.size,0,none⟩)])/\w'=w.alloc (.cells #[.map mb] 129):=by
 refine callsIn_of_wp func144 rfl trivial ?_ rfl;simp only [ntmps144,List.size_toArray,List.length_cons,List.length_nil,Nat.reduceAdd,Nat.reduceSub,Array.replicate_succ,Array.replicate_zero,List.push_toArray,List.append_toArray,List.nil_append,List.cons_append]
 gi_wp2
 go_ret;exact ⟨rfl,rfl⟩
theorem Aw {H:Type} (n:Nat) (hn:1<=n) (Bm b nn:Nat) (D0:DataW H) {R:Value->Option (DataW H × List MemPlace)} (w:World) (hBm:Bm<w.heap.size)
  (hm:w.cell? ⟨Bm,0,none⟩=some (.map (some b))) (br:w.ownsMap prog 23 R b nn D0) :
  SeqStopsK Fence.wide n prog 169 #[.pointer (some ⟨Bm,0,none⟩)] (fun x:Int=>#[dQ x]) KeepsWalks (jb D0) (fun _=>True) (Maps.size D0) w:=fun l J Jx W hW hJ _ hY h0=>by
 have mj:W.ownsMap prog 23 R b nn D0:=by have Cf:=br.lt;obtain ⟨es,clock,hb,Ft,hs,hD⟩:=br;exact ⟨es,clock,(hW.block b Cf).trans hb,Ft,hs,hD⟩
 refine (AY n hn l Bm b nn D0 J Jx hY W hJ ((hW.cell (p:=⟨Bm,0,none⟩) hBm).trans hm) mj h0).mono ?_;rintro e W' ⟨he,⟨ss,hs,hj⟩ | ⟨pre,hj⟩⟩;{exact ⟨he,.inl ⟨ss,hs,hj⟩⟩};{exact ⟨he,.inr ⟨pre,trivial,hj⟩⟩}
theorem QJ {H:Type} (n:Nat) (hn:1<=n) (l Bm b nn:Nat) (D0:DataW H) {R:Value->Option (DataW H × List MemPlace)} (J Jx:List Int->World->Prop)
  (hY:∀ pre x W,J pre W->pre.length<Maps.size D0->YieldAt Fence.wide (n-1) prog l #[dQ x] W fun e W'=>(e=.returned (.bool true)/\J (pre++[x]) W'/\KeepsWalks W W')\/(e=.returned (.bool false)/\Jx (pre++[x]) W'))
  (W:World) (hJ:AbidesFrom W.heap.size J) (hm:W.cell? ⟨Bm,0,none⟩=some (.map (some b))) (br:W.ownsMap prog 23 R b nn D0) (h0:J [] W) :
  CallsIn Fence.wide n prog 183 #[.func (.yield l) #[] #[],.pointer (some ⟨Bm,0,none⟩)] W fun e W'=>(∃ v,e=.returned v)/\((∃ ss:List Int,jb D0 ss/\J ss W')\/(∃ pre,Jx pre W')):=by
 refine callsIn_of_wp func183 rfl trivial ?_ rfl;simp only [ntmps183,List.size_toArray,List.length_cons,List.length_nil,Nat.reduceAdd,Nat.reduceSub,Array.replicate_succ,Array.replicate_zero,List.push_toArray,List.append_toArray,List.nil_append,List.cons_append]
 gi_wp2_with (first
  | (gi_at_range;refine wpListIn_range_own _ rfl _ 83 rfl 23 _ gR underlying83 _ b nn _ rfl br ?_;intro w0 pI uX Hj)
  | gi_in)
 go_frame
 gi_loopw [3] (fun _ wr=>∃ (left:Lit->Bool) (mV:Nat) (ss:List Int),wr.ranges prog 23 R b W.heap.size nn D0 left mV/\ss.length+mV<=Maps.size D0/\lM D0 left ss/\J ss wr)
  (fun _ wr=>wr.rangeLeft b W.heap.size)
 case atStart=>exact ⟨_,_,[],pI,aU,lM.start D0,hJ [] W w0 none h0 uX (fun r e=>by cases e)⟩
 case round =>(
 obtain ⟨left,mV,ss,nM,Ce,hC,TJ⟩:=hrel
 gi_wp2_with (first
  | (gi_at_next;refine wpListIn_next_ranges _ rfl _ rfl 23 gR R dQ id (fun key kl hk=>by obtain ⟨x,hx,_⟩:=Maps.keyOf_int_inv underlying23 hk;exact ⟨x,hx⟩) (fun v _ _=>⟨v,rfl⟩) b W.heap.size nn _ _ _ rfl nM ?_ ?_)
  | gi_in)
 {
 intro Yh tJ
 gi_wp2
 go_end0
 exact ⟨⟨_,rfl⟩,.inl ⟨ss,hC.all tJ ab,TJ⟩⟩};{
 intro x c kl yd yp w2 NN kp hlk hv gS xm bj fU DC Bk;obtain ⟨x',ex,rfl,_⟩:=Maps.keyOf_int_inv underlying23 kp;obtain rfl:x=x':=by simpa [dQ] using ex
 have TK:J ss w2:=hJ ss wr w2 (some W.heap.size) TJ fU (fun r e=>by cases e;exact ⟨Nat.le_refl _,nM.iter_walk⟩);obtain ⟨fn,tmps,assign,body,hy,hR⟩:=hY ss x w2 TK ab;clear DC
 gi_wp2
 refine hR.mono ?_;rintro e W3 (⟨rfl,hJ3,uJ⟩ | ⟨rfl,MU⟩);{
 gi_wp2
 have si:=xm.of_walks uJ;go_roundw
 case rel=>exact ⟨_,NN,ss++[x],si,dx,hC.step hlk gS,hJ3⟩
 case measure=>rw [si.left_eq,nM.left_eq];exact bj}
 {
 gi_wp2
 refine bodyPost_ret (results_none rfl _ _ _) rfl ?_;exact ⟨⟨_,rfl⟩,.inr ⟨_,MU⟩⟩}})
theorem Vr (n:Nat) (mb:Option Nat) (w:World) :
  CallsIn Fence.wide n prog 173 #[.map mb] w fun e w'=>e=.returned (.func (.func 183) #[] #[.pointer (some ⟨w.heap.size,0,none⟩)])/\w'=w.alloc (.cells #[.map mb] 83):=by
 refine callsIn_of_wp func173 rfl trivial ?_ rfl;simp only [ntmps173,List.size_toArray,List.length_cons,List.length_nil,Nat.reduceAdd,Nat.reduceSub,Array.replicate_succ,Array.replicate_zero,List.push_toArray,List.append_toArray,List.nil_append,List.cons_append]
 gi_wp2
 go_ret;exact ⟨rfl,rfl⟩
theorem PX {H:Type} (n:Nat) (hn:1<=n) (Bm b nn:Nat) (D0:DataW H) {R:Value->Option (DataW H × List MemPlace)} (w:World) (hBm:Bm<w.heap.size)
  (hm:w.cell? ⟨Bm,0,none⟩=some (.map (some b))) (br:w.ownsMap prog 23 R b nn D0) :
  SeqStopsK Fence.wide n prog 183 #[.pointer (some ⟨Bm,0,none⟩)] (fun x:Int=>#[dQ x]) KeepsWalks (jb D0) (fun _=>True) (Maps.size D0) w:=fun l J Jx W hW hJ _ hY h0=>by
 have mj:W.ownsMap prog 23 R b nn D0:=by have Cf:=br.lt;obtain ⟨es,clock,hb,Ft,hs,hD⟩:=br;exact ⟨es,clock,(hW.block b Cf).trans hb,Ft,hs,hD⟩
 refine (QJ n hn l Bm b nn D0 J Jx hY W hJ ((hW.cell (p:=⟨Bm,0,none⟩) hBm).trans hm) mj h0).mono ?_;rintro e W' ⟨he,⟨ss,hs,hj⟩ | ⟨pre,hj⟩⟩;{exact ⟨he,.inl ⟨ss,hs,hj⟩⟩};{exact ⟨he,.inr ⟨pre,trivial,hj⟩⟩}
end Q
namespace Q
open Go.RowKit Go.Maps Go.Proofs.Tryz
theorem Hid.qK {p:Prop} (h:p):Hid p:=h
theorem od {p:Prop} (h:Hid p):p:=h
theorem iW (W:World) (l:Nat) (o:Obj):W.grownBy (W.putObj l o) (some l):=⟨rfl,rfl,rfl,by simp,fun k _ hk=>World.putObj_heap_other (fun e=>hk (by rw [e]))⟩
theorem oL (W:World) (b:Nat) (v:Value):W.grownBy (W.setCell ⟨b,0,none⟩ v) (some b):=⟨rfl,rfl,rfl,by simp,fun k _ hk=>Below.heap_setCell _ _ _ k (fun e=>hk (by rw [e]))⟩
theorem rQ (h:W.ownsRow base e size v k xs) (hj:W.heap[j]?=some o) (ho:o.isCells=false):v.ownBlock=none\/v.ownBlock≠some j:=by
  rcases h.2 with ⟨rfl,_⟩ | ⟨g,cap,cur,rfl,_,Rh,_⟩;{exact .inl rfl};{
 refine .inr fun e'=>?_;have:g=j:=by simpa [Value.ownBlock] using e'
 subst this;rw [Rh] at hj;cases hj;cases ho}
theorem rF {row:Option Nat} (h:W.ownsRow base e size v k xs) (hg:W.grownBy W' row)
    (hr:∀ r,row=some r->∃ o:Obj,W.heap[r]?=some o/\o.isCells=false):W'.ownsRow base e size v k xs:=by
  refine h.kept hg ?_;cases hv:v.ownBlock with
  | none=>exact .inl rfl
  | some j=>
    refine .inr fun e'=>?_;obtain ⟨o,ho,hc⟩:=hr j e'.symm;rcases rQ h ho hc with e1 | e1;{rw [hv] at e1;cases e1};{exact e1 hv}
theorem qF (h:W.ownsRow base e size v k xs) (hg:W.grownBy W' v.ownBlock):KeepsOthers W W':=
  ⟨hg.size,fun j o hj ho=>(hg.block j (Array.getElem?_eq_some_iff.1 hj).1 (fun e1=>by rcases rQ h hj ho with e2 | e2;{rw [e2] at e1;cases e1};{exact e2 e1.symm})).trans hj⟩
structure Got (w0:World) (Bs:Nat) (pre:List Int) (v:Value) (W:World):Prop where
  cell:W.cell? ⟨Bs,0,none⟩=some v
  fr:W.frozen? ⟨Bs,0,none⟩=false
  row:W.ownsRow (Bs+1) 23 1 v pre.length (pre.map dQ)
  nil:v=.S none 0 0↔pre=[]
theorem mX (n:Nat) (hn:2<=n) (g:Nat) (lb:Array Value) (eg:∀ args w,(callFunc g args).run prog w=.ok (.enter g args) w)
    (S Sp:List Int->Prop) (N:Nat) (hN:N<=1048576) (w:World) (oF:SeqStopsK Fence.wide (n-1) prog g lb (fun x:Int=>#[dQ x]) KeepsWalks S Sp N w) :
    CallsIn Fence.wide n prog 178 #[.S none 0 0,.func (.func g) #[] lb] w fun e w'=>∃ (v:Value) (ss:List Int),e=.returned v/\S ss/\w'.ownsRow (w.heap.size+1) 23 1 v ss.length (ss.map dQ)/\(v=.S none 0 0↔ss=[])/\Bw w w':=by
  have h1:1<=n:=ab;obtain ⟨i0,hi,mw,iT,jW⟩:=info_parts (P:=prog) (e:=23) (z:=.U 0) (size:=1) (bytes:=8) cW;refine callsIn_of_wp_marks func178 rfl trivial ?_ rfl;simp only [ntmps178,List.size_toArray,List.length_cons,List.length_nil,Nat.reduceAdd,Nat.reduceSub,Array.replicate_succ,Array.replicate_zero,List.push_toArray,List.append_toArray,List.nil_append,List.cons_append]
  gi_wp2
  obtain ⟨W0,dh⟩:=ax (w.alloc (.cells #[.S none 0 0] 36));have z0:W0.heap.size=w.heap.size+1:=by rw [dh];simp
  have k0:W0.cell? ⟨w.heap.size,0,none⟩=some (.S none 0 0):=by rw [dh];simp
  have f0:W0.frozen? ⟨w.heap.size,0,none⟩=false:=by rw [dh];simp
  have Zr:=ju dh;rw [<-dh];clear dh;refine wpIn_rangeFunc_ownF (F:=Fence.wide) rfl h1 (gf:=g) (lb:=lb) rfl trivial eg oF (fun h k=>h.trans k) (fun W l o o' _ hl _ hw=>KeepsWalks.putObj _ hl hw) Zr (fun _=>rfl)
    (fun pre W=>(∃ v,Got w w.heap.size pre v W)/\Bw w W)
    (fun _ _ _=>False)
    (OwnFrom.and (Own.from (fun s A B row hs hg hr=>by obtain ⟨v,hv⟩:=hs;exact ⟨v,cell_kept hv.cell hg hr,(frozen_kept hv.cell hg hr).trans hv.fr,rF hv.row hg hr,hv.nil⟩) _) (ownFrom_below aA ab))
    (fun _ _ _ _ _ hs _ _=>hs)
    ⟨⟨_,k0,f0,⟨rfl,.inl ⟨rfl,rfl⟩⟩,aU⟩,Zr⟩
    (fun x=>{ tmps:=#[.S none 0 0,.func (.func g) #[] lb,.pointer (some ⟨w.heap.size,0,none⟩),undef,.S none 0 0,dQ x,.func (.func g) #[] lb,dQ x,undef,undef,undef,undef,undef],defers:=[] }) ?assign ?body ?done ?stop
  case assign =>(
 intro l x W K hK
 gi_wp2_with (rw [Oper.semAt_eq _ _ _ (fun c h=>by cases h)];go_simp;try go_bits)
 exact hK)
  case body =>(
 rintro L pre x W ⟨⟨v,hv⟩,js⟩ jR;have hc:=hv.cell;have hf:=hv.fr;have dW:=hv.row;have bj:w.heap.size<W.heap.size:=World.block_lt_of_cell? W _ hc;have DE:=dW.alloc (.cells #[dQ x] 23)
 gi_wp2_with (first
   | (gi_at_builtin;refine wpListIn_append_own _ rfl _ _ 36 rfl (w.heap.size+1) 23 i0 (.int .u64 0) 1 8 underlying36 hi mw iT jW rfl bl _ _ _ rfl DE ⟨W.heap.size,0,none⟩ 1 1 [dQ x] rfl rfl (cell_one_new _ _ _) (by simp [Value.oneCell',dQ]) jC ab dx ?_;intro v' w3 mj uA Mh
      have Bh:(W.alloc (.cells #[dQ x] 23)).grownBy w3 v.ownBlock:=uA;have VM:some w.heap.size≠v.ownBlock:=fun e=>by have:=(dW.lt _ e.symm).1;omega
      have Rm:(W.alloc (.cells #[dQ x] 23)).cell? ⟨w.heap.size,0,none⟩=some v:=(World.cell?_of_block (a:=⟨w.heap.size,0,none⟩) (Below.heap_alloc _ _ _ bj)).trans hc;have Ri:(W.alloc (.cells #[dQ x] 23)).frozen? ⟨w.heap.size,0,none⟩=false:=(World.frozen?_of_block (a:=⟨w.heap.size,0,none⟩) (Below.heap_alloc _ _ _ bj)).trans hf;have de:w3.heap[w.heap.size]?=(W.alloc (.cells #[dQ x] 23)).heap[w.heap.size]?:=Bh.block _ dx VM;have Rn:w3.cell? ⟨w.heap.size,0,none⟩=some v:=(World.cell?_of_block (a:=⟨w.heap.size,0,none⟩) de).trans Rm;have uZ:w3.frozen? ⟨w.heap.size,0,none⟩=false:=(World.frozen?_of_block (a:=⟨w.heap.size,0,none⟩) de).trans Ri;obtain ⟨g',cap',rfl⟩:∃ g' cap',v'=.S (some ⟨g',0,none⟩) (pre.length+1) cap':=by rcases mj.2 with ⟨_,h0⟩ | ⟨g',cap',_,h',_⟩;{exact absurd h0 ab};{exact ⟨g',cap',h'⟩}
      have HO3:=Hid.qK ((KeepsOthers.alloc W (.cells #[dQ x] 23)).trans (qF DE Bh));have ra:=Hid.qK (((js.alloc js.size (.cells #[dQ x] 23)).grown Bh (by have:=js.size;simp;omega) (fun k e=>by have:=(dW.lt k e).1;omega)));have Pt:=Hid.qK mj;clear mj Mh uA Bh Rm Ri de
      go_frame)
   | (rw [Oper.semAt_eq _ _ _ (fun c h=>by cases h)];go_simp;try go_bits))
 refine ⟨(od HO3).trans (KeepsOthers.setCell _ _ _),((od HO3).trans (KeepsOthers.setCell _ _ _)).walks,⟨_,World.cell?_setCell_same _ _ _ Rn,by rw [World.frozen?_setCell];exact uZ,?_,aU⟩,(od ra).setCell (p:=⟨w.heap.size,0,none⟩) aA _⟩;have hr:=(od Pt).kept (oL w3 w.heap.size (.S (some ⟨g',0,none⟩) (pre.length+1) cap')) (.inr (fun e=>by have:=((od Pt).lt _ e).1;omega));simpa using hr)
  case done =>(
 rintro D ys W hD hS ⟨⟨v,hv⟩,js⟩ hK;have hc:=hv.cell
 gi_wp2
 refine ⟨aU,.inl ⟨_,_,rfl,run_takeDeferred hK,?_⟩⟩;exact ⟨_,results_tmp rfl _ _ _,v,ys,rfl,hS,rF hv.row (iW _ _ _) (fun r e=>by cases e;exact ⟨_,hK,rfl⟩),hv.nil,js.grown (iW _ _ _) js.size (fun k e=>by cases e;omega)⟩)
  case stop =>(
 rintro D c pre W _ _ h _;exact h.elim)
end Q
namespace T
open Go.Sort Go.RowKit Go.Proofs.Tryz
abbrev HT (w:World) (aI off:Nat) (d:Array (List UInt8)):Prop:=Holds (fun x:List UInt8=>Value.string ⟨x.toArray⟩) w aI off d
theorem DD (cap:Nat) (w:World):Calls prog 171 #[.S none 0 cap] w fun e w'=>e=.returned (.tuple #[])/\w'=w:=Tryz.slices_Sort_string_none none cap w
theorem zM (aI off cap:Nat) (l:List (List UInt8)) (il:l.length<=1048576) (w:World) (h:HT w aI off l.toArray) (jd:aI<w.heap.size) :
  Calls prog 171 #[.S (some ⟨aI,off,none⟩) l.length cap] w fun e w'=>
   e=.returned (.tuple #[])/\HT w' aI off (l.mergeSort (fun x y=>decide (x<=y))).toArray/\w.grownBy w' (some aI):=by
 refine (Tryz.slices_Sort_string aI off cap l w h jd ab).mono ?_;rintro e w' ⟨rfl,n,os,rfl⟩;have hz:(putRow encStr (Sort.ahead w n) aI off (l.mergeSort fun x y=>decide (x<=y)).toArray).heap.size=w.heap.size:=by simp [putRow,mapBlock,Sort.ahead]
 have hb:∀ i,i<w.heap.size->(grow (putRow encStr (Sort.ahead w n) aI off (l.mergeSort fun x y=>decide (x<=y)).toArray) os).heap[i]?=(putRow encStr (Sort.ahead w n) aI off (l.mergeSort fun x y=>decide (x<=y)).toArray).heap[i]?:=fun i hi=>Array.getElem?_append_left (by rw [hz];exact hi);have hH:=holds_putRow encStr (Sort.ahead w n) aI off l.toArray (l.mergeSort fun x y=>decide (x<=y)).toArray h aU;refine ⟨rfl,fun j hj=>⟨(World.cell?_of_block (a:=⟨aI,off+j,none⟩) (hb aI jd)).trans (hH j hj).1,(World.frozen?_of_block (a:=⟨aI,off+j,none⟩) (hb aI jd)).trans (hH j hj).2⟩,rfl,rfl,rfl,by simp [grow,hz],fun i hi gd=>(hb i hi).trans ?_⟩;have:aI≠i:=fun e=>gd (by rw [e]);simp [putRow,mapBlock,Sort.ahead,Array.getElem?_modify,this]
theorem j9:∀ x y:List UInt8,Op.bytesLess x y=decide (x<y)
 | [],[]=>by simp [Op.bytesLess]
 | [],b::y=>by simp [Op.bytesLess]
 | a::x,[]=>by simp [Op.bytesLess]
 | a::x,b::y=>by have ih:=j9 x y;simp only [Op.bytesLess,ih,List.cons_lt_cons_iff];by_cases h1:a<b;{simp [h1]};{by_cases h2:a=b;{subst h2;simp};{simp [h1,h2]}}
end T
namespace T
open Go.RowKit Go.Maps Go.Proofs.Tryz
theorem gR:Keyed prog 9:=string_keyed underlying9
abbrev dQ (x:List UInt8):Value:=.string ⟨x.toArray⟩
def lM {H:Type} (D0:DataW H) (left:Lit->Bool) (ss:List (List UInt8)):Prop:=ss.Nodup/\∀ x,x∈ss↔(has D0 (.string x)=true/\left (.string x)=false)
theorem lM.start {H:Type} (D0:DataW H):lM D0 (has D0) []:=⟨List.nodup_nil,fun x=>by cases has D0 (.string x)<;>simp⟩
theorem lM.step {H:Type} {D0:DataW H} (h:lM D0 left ss) {x:List UInt8} {y:DataW H} (hlk:left (.string x)=true) (gS:∀ zd,D0.atKey (.string x) zd=y):lM D0 (fun z=>left z&&!z.sameKey (.string x)) (ss++[x]):=by
 have FM:has D0 (.string x)=true:=has_true_of_atKey gS;have Ly:x∉ss:=fun hx=>by have:=((h.2 x).1 hx).2;rw [hlk] at this;cases this
 refine ⟨List.nodup_append.2 ⟨h.1,aU,fun a ha b hb=>by simp at hb;subst hb;exact fun e=>Ly (e▸ha)⟩,fun y=>?_⟩;by_cases hy:y=x;{subst hy;simp [FM,Lit.sameKey]};{simp [h.2 y,hy,Lit.sameKey]}
def jb {H:Type} (D0:DataW H) (ss:List (List UInt8)):Prop:=ss.Nodup/\(∀ x,x∈ss↔has D0 (.string x)=true)/\ss.length<=Maps.size D0
theorem lM.all {H:Type} {D0:DataW H} (h:lM D0 left ss) (hl:∀ kl,left kl=false) (hs:ss.length<=Maps.size D0):jb D0 ss:=⟨h.1,(fun x=>by rw [h.2 x,hl];simp),hs⟩
theorem AY {H:Type} (n:Nat) (hn:1<=n) (l Bm b nn:Nat) (D0:DataW H) {R:Value->Option (DataW H × List MemPlace)} (J Jx:List (List UInt8)->World->Prop)
  (hY:∀ pre x W,J pre W->pre.length<Maps.size D0->YieldAt Fence.wide (n-1) prog l #[dQ x] W fun e W'=>(e=.returned (.bool true)/\J (pre++[x]) W'/\KeepsWalks W W')\/(e=.returned (.bool false)/\Jx (pre++[x]) W'))
  (W:World) (hJ:AbidesFrom W.heap.size J) (hm:W.cell? ⟨Bm,0,none⟩=some (.map (some b))) (br:W.ownsMap prog 9 R b nn D0) (h0:J [] W) :
  CallsIn Fence.wide n prog 172 #[.func (.yield l) #[] #[],.pointer (some ⟨Bm,0,none⟩)] W fun e W'=>(∃ v,e=.returned v)/\((∃ ss:List (List UInt8),jb D0 ss/\J ss W')\/(∃ pre,Jx pre W')):=by
 refine callsIn_of_wp func172 rfl trivial ?_ rfl;simp only [ntmps172,List.size_toArray,List.length_cons,List.length_nil,Nat.reduceAdd,Nat.reduceSub,Array.replicate_succ,Array.replicate_zero,List.push_toArray,List.append_toArray,List.nil_append,List.cons_append]
 gi_wp2_with (first
  | (gi_at_range;refine wpListIn_range_own _ rfl _ 130 rfl 9 _ gR underlying130 _ b nn _ rfl br ?_;intro w0 pI uX Hj)
  | gi_in)
 go_frame
 gi_loopw [3] (fun _ wr=>∃ (left:Lit->Bool) (mV:Nat) (ss:List (List UInt8)),wr.ranges prog 9 R b W.heap.size nn D0 left mV/\ss.length+mV<=Maps.size D0/\lM D0 left ss/\J ss wr)
  (fun _ wr=>wr.rangeLeft b W.heap.size)
 case atStart=>exact ⟨_,_,[],pI,aU,lM.start D0,hJ [] W w0 none h0 uX (fun r e=>by cases e)⟩
 case round =>(
 obtain ⟨left,mV,ss,nM,Ce,hC,TJ⟩:=hrel
 gi_wp2_with (first
  | (gi_at_next;refine wpListIn_next_ranges _ rfl _ rfl 9 gR R dQ id (fun key kl hk=>by obtain ⟨x,hx,_⟩:=Maps.keyOf_str underlying9 hk;exact ⟨x,hx⟩) (fun v _ _=>⟨v,rfl⟩) b W.heap.size nn _ _ _ rfl nM ?_ ?_)
  | gi_in)
 {
 intro Yh tJ
 gi_wp2
 go_end0
 exact ⟨⟨_,rfl⟩,.inl ⟨ss,hC.all tJ ab,TJ⟩⟩};{
 intro x c kl yd yp w2 NN kp hlk hv gS xm bj fU DC Bk;obtain ⟨x',ex,rfl,_⟩:=Maps.keyOf_str underlying9 kp;obtain rfl:x=x':=by simpa [dQ] using ex
 have TK:J ss w2:=hJ ss wr w2 (some W.heap.size) TJ fU (fun r e=>by cases e;exact ⟨Nat.le_refl _,nM.iter_walk⟩);obtain ⟨fn,tmps,assign,body,hy,hR⟩:=hY ss x w2 TK ab;clear DC
 gi_wp2
 refine hR.mono ?_;rintro e W3 (⟨rfl,hJ3,uJ⟩ | ⟨rfl,MU⟩);{
 gi_wp2
 have si:=xm.of_walks uJ;go_roundw
 case rel=>exact ⟨_,NN,ss++[x],si,dx,hC.step hlk gS,hJ3⟩
 case measure=>rw [si.left_eq,nM.left_eq];exact bj}
 {
 gi_wp2
 refine bodyPost_ret (results_none rfl _ _ _) rfl ?_;exact ⟨⟨_,rfl⟩,.inr ⟨_,MU⟩⟩}})
theorem Fv (n:Nat) (mb:Option Nat) (w:World) :
  CallsIn Fence.wide n prog 146 #[.map mb] w fun e w'=>e=.returned (.func (.func 172) #[] #[.pointer (some ⟨w.heap.size,0,none⟩)])/\w'=w.alloc (.cells #[.map mb] 130):=by
 refine callsIn_of_wp func146 rfl trivial ?_ rfl;simp only [ntmps146,List.size_toArray,List.length_cons,List.length_nil,Nat.reduceAdd,Nat.reduceSub,Array.replicate_succ,Array.replicate_zero,List.push_toArray,List.append_toArray,List.nil_append,List.cons_append]
 gi_wp2
 go_ret;exact ⟨rfl,rfl⟩
theorem Aw {H:Type} (n:Nat) (hn:1<=n) (Bm b nn:Nat) (D0:DataW H) {R:Value->Option (DataW H × List MemPlace)} (w:World) (hBm:Bm<w.heap.size)
  (hm:w.cell? ⟨Bm,0,none⟩=some (.map (some b))) (br:w.ownsMap prog 9 R b nn D0) :
  SeqStopsK Fence.wide n prog 172 #[.pointer (some ⟨Bm,0,none⟩)] (fun x:List UInt8=>#[dQ x]) KeepsWalks (jb D0) (fun _=>True) (Maps.size D0) w:=fun l J Jx W hW hJ _ hY h0=>by
 have mj:W.ownsMap prog 9 R b nn D0:=by have Cf:=br.lt;obtain ⟨es,clock,hb,Ft,hs,hD⟩:=br;exact ⟨es,clock,(hW.block b Cf).trans hb,Ft,hs,hD⟩
 refine (AY n hn l Bm b nn D0 J Jx hY W hJ ((hW.cell (p:=⟨Bm,0,none⟩) hBm).trans hm) mj h0).mono ?_;rintro e W' ⟨he,⟨ss,hs,hj⟩ | ⟨pre,hj⟩⟩;{exact ⟨he,.inl ⟨ss,hs,hj⟩⟩};{exact ⟨he,.inr ⟨pre,trivial,hj⟩⟩}
end T
namespace T
open Go.RowKit Go.Maps Go.Proofs.Tryz
theorem Hid.qK {p:Prop} (h:p):Hid p:=h
theorem od {p:Prop} (h:Hid p):p:=h
theorem iW (W:World) (l:Nat) (o:Obj):W.grownBy (W.putObj l o) (some l):=⟨rfl,rfl,rfl,by simp,fun k _ hk=>World.putObj_heap_other (fun e=>hk (by rw [e]))⟩
theorem oL (W:World) (b:Nat) (v:Value):W.grownBy (W.setCell ⟨b,0,none⟩ v) (some b):=⟨rfl,rfl,rfl,by simp,fun k _ hk=>Below.heap_setCell _ _ _ k (fun e=>hk (by rw [e]))⟩
theorem rQ (h:W.ownsRow base e size v k xs) (hj:W.heap[j]?=some o) (ho:o.isCells=false):v.ownBlock=none\/v.ownBlock≠some j:=by
  rcases h.2 with ⟨rfl,_⟩ | ⟨g,cap,cur,rfl,_,Rh,_⟩;{exact .inl rfl};{
 refine .inr fun e'=>?_;have:g=j:=by simpa [Value.ownBlock] using e'
 subst this;rw [Rh] at hj;cases hj;cases ho}
theorem rF {row:Option Nat} (h:W.ownsRow base e size v k xs) (hg:W.grownBy W' row)
    (hr:∀ r,row=some r->∃ o:Obj,W.heap[r]?=some o/\o.isCells=false):W'.ownsRow base e size v k xs:=by
  refine h.kept hg ?_;cases hv:v.ownBlock with
  | none=>exact .inl rfl
  | some j=>
    refine .inr fun e'=>?_;obtain ⟨o,ho,hc⟩:=hr j e'.symm;rcases rQ h ho hc with e1 | e1;{rw [hv] at e1;cases e1};{exact e1 hv}
theorem qF (h:W.ownsRow base e size v k xs) (hg:W.grownBy W' v.ownBlock):KeepsOthers W W':=
  ⟨hg.size,fun j o hj ho=>(hg.block j (Array.getElem?_eq_some_iff.1 hj).1 (fun e1=>by rcases rQ h hj ho with e2 | e2;{rw [e2] at e1;cases e1};{exact e2 e1.symm})).trans hj⟩
structure Got (w0:World) (Bs:Nat) (pre:List (List UInt8)) (v:Value) (W:World):Prop where
  cell:W.cell? ⟨Bs,0,none⟩=some v
  fr:W.frozen? ⟨Bs,0,none⟩=false
  row:W.ownsRow (Bs+1) 9 1 v pre.length (pre.map dQ)
  nil:v=.S none 0 0↔pre=[]
theorem mX (n:Nat) (hn:2<=n) (g:Nat) (lb:Array Value) (eg:∀ args w,(callFunc g args).run prog w=.ok (.enter g args) w)
    (S Sp:List (List UInt8)->Prop) (N:Nat) (hN:N<=1048576) (w:World) (oF:SeqStopsK Fence.wide (n-1) prog g lb (fun x:List UInt8=>#[dQ x]) KeepsWalks S Sp N w) :
    CallsIn Fence.wide n prog 181 #[.S none 0 0,.func (.func g) #[] lb] w fun e w'=>∃ (v:Value) (ss:List (List UInt8)),e=.returned v/\S ss/\w'.ownsRow (w.heap.size+1) 9 1 v ss.length (ss.map dQ)/\(v=.S none 0 0↔ss=[])/\Bw w w':=by
  have h1:1<=n:=ab;obtain ⟨i0,hi,mw,iT,jW⟩:=info_parts (P:=prog) (e:=9) (z:=.string ⟨#[]⟩) (size:=1) (bytes:=16) cW;refine callsIn_of_wp_marks func181 rfl trivial ?_ rfl;simp only [ntmps181,List.size_toArray,List.length_cons,List.length_nil,Nat.reduceAdd,Nat.reduceSub,Array.replicate_succ,Array.replicate_zero,List.push_toArray,List.append_toArray,List.nil_append,List.cons_append]
  gi_wp2
  obtain ⟨W0,dh⟩:=ax (w.alloc (.cells #[.S none 0 0] 157));have z0:W0.heap.size=w.heap.size+1:=by rw [dh];simp
  have k0:W0.cell? ⟨w.heap.size,0,none⟩=some (.S none 0 0):=by rw [dh];simp
  have f0:W0.frozen? ⟨w.heap.size,0,none⟩=false:=by rw [dh];simp
  have Zr:=ju dh;rw [<-dh];clear dh;refine wpIn_rangeFunc_ownF (F:=Fence.wide) rfl h1 (gf:=g) (lb:=lb) rfl trivial eg oF (fun h k=>h.trans k) (fun W l o o' _ hl _ hw=>KeepsWalks.putObj _ hl hw) Zr (fun _=>rfl)
    (fun pre W=>(∃ v,Got w w.heap.size pre v W)/\Bw w W)
    (fun _ _ _=>False)
    (OwnFrom.and (Own.from (fun s A B row hs hg hr=>by obtain ⟨v,hv⟩:=hs;exact ⟨v,cell_kept hv.cell hg hr,(frozen_kept hv.cell hg hr).trans hv.fr,rF hv.row hg hr,hv.nil⟩) _) (ownFrom_below aA ab))
    (fun _ _ _ _ _ hs _ _=>hs)
    ⟨⟨_,k0,f0,⟨rfl,.inl ⟨rfl,rfl⟩⟩,aU⟩,Zr⟩
    (fun x=>{ tmps:=#[.S none 0 0,.func (.func g) #[] lb,.pointer (some ⟨w.heap.size,0,none⟩),undef,.S none 0 0,dQ x,.func (.func g) #[] lb,dQ x,undef,undef,undef,undef,undef],defers:=[] }) ?assign ?body ?done ?stop
  case assign =>(
 intro l x W K hK
 gi_wp2_with (rw [Oper.semAt_eq _ _ _ (fun c h=>by cases h)];go_simp;try go_bits)
 exact hK)
  case body =>(
 rintro L pre x W ⟨⟨v,hv⟩,js⟩ jR;have hc:=hv.cell;have hf:=hv.fr;have dW:=hv.row;have bj:w.heap.size<W.heap.size:=World.block_lt_of_cell? W _ hc;have DE:=dW.alloc (.cells #[dQ x] 9)
 gi_wp2_with (first
   | (gi_at_builtin;refine wpListIn_append_own _ rfl _ _ 157 rfl (w.heap.size+1) 9 i0 (.string ⟨#[]⟩) 1 16 underlying157 hi mw iT jW rfl bl _ _ _ rfl DE ⟨W.heap.size,0,none⟩ 1 1 [dQ x] rfl rfl (cell_one_new _ _ _) (by simp [Value.oneCell',dQ]) jC ab dx ?_;intro v' w3 mj uA Mh
      have Bh:(W.alloc (.cells #[dQ x] 9)).grownBy w3 v.ownBlock:=uA;have VM:some w.heap.size≠v.ownBlock:=fun e=>by have:=(dW.lt _ e.symm).1;omega
      have Rm:(W.alloc (.cells #[dQ x] 9)).cell? ⟨w.heap.size,0,none⟩=some v:=(World.cell?_of_block (a:=⟨w.heap.size,0,none⟩) (Below.heap_alloc _ _ _ bj)).trans hc;have Ri:(W.alloc (.cells #[dQ x] 9)).frozen? ⟨w.heap.size,0,none⟩=false:=(World.frozen?_of_block (a:=⟨w.heap.size,0,none⟩) (Below.heap_alloc _ _ _ bj)).trans hf;have de:w3.heap[w.heap.size]?=(W.alloc (.cells #[dQ x] 9)).heap[w.heap.size]?:=Bh.block _ dx VM;have Rn:w3.cell? ⟨w.heap.size,0,none⟩=some v:=(World.cell?_of_block (a:=⟨w.heap.size,0,none⟩) de).trans Rm;have uZ:w3.frozen? ⟨w.heap.size,0,none⟩=false:=(World.frozen?_of_block (a:=⟨w.heap.size,0,none⟩) de).trans Ri;obtain ⟨g',cap',rfl⟩:∃ g' cap',v'=.S (some ⟨g',0,none⟩) (pre.length+1) cap':=by rcases mj.2 with ⟨_,h0⟩ | ⟨g',cap',_,h',_⟩;{exact absurd h0 ab};{exact ⟨g',cap',h'⟩}
      have HO3:=Hid.qK ((KeepsOthers.alloc W (.cells #[dQ x] 9)).trans (qF DE Bh));have ra:=Hid.qK (((js.alloc js.size (.cells #[dQ x] 9)).grown Bh (by have:=js.size;simp;omega) (fun k e=>by have:=(dW.lt k e).1;omega)));have Pt:=Hid.qK mj;clear mj Mh uA Bh Rm Ri de
      go_frame)
   | (rw [Oper.semAt_eq _ _ _ (fun c h=>by cases h)];go_simp;try go_bits))
 refine ⟨(od HO3).trans (KeepsOthers.setCell _ _ _),((od HO3).trans (KeepsOthers.setCell _ _ _)).walks,⟨_,World.cell?_setCell_same _ _ _ Rn,by rw [World.frozen?_setCell];exact uZ,?_,aU⟩,(od ra).setCell (p:=⟨w.heap.size,0,none⟩) aA _⟩;have hr:=(od Pt).kept (oL w3 w.heap.size (.S (some ⟨g',0,none⟩) (pre.length+1) cap')) (.inr (fun e=>by have:=((od Pt).lt _ e).1;omega));simpa using hr)
  case done =>(
 rintro D ys W hD hS ⟨⟨v,hv⟩,js⟩ hK;have hc:=hv.cell
 gi_wp2
 refine ⟨aU,.inl ⟨_,_,rfl,run_takeDeferred hK,?_⟩⟩;exact ⟨_,results_tmp rfl _ _ _,v,ys,rfl,hS,rF hv.row (iW _ _ _) (fun r e=>by cases e;exact ⟨_,hK,rfl⟩),hv.nil,js.grown (iW _ _ _) js.size (fun k e=>by cases e;omega)⟩)
  case stop =>(
 rintro D c pre W _ _ h _;exact h.elim)
end T
namespace T
open Go.RowKit Go.Maps Go.Sort Go.Proofs.Tryz
theorem qU (n:Nat) (hn:3<=n) (g:Nat) (lb:Array Value) (eg:∀ args w,(callFunc g args).run prog w=.ok (.enter g args) w)
  (S Sp:List (List UInt8)->Prop) (N:Nat) (hN:N<=1048576) (w:World) (oF:SeqStopsK Fence.wide (n-1-1) prog g lb (fun x:List UInt8=>#[dQ x]) KeepsWalks S Sp N w) :
  CallsIn Fence.wide n prog 170 #[.func (.func g) #[] lb] w fun e w'=>∃ (v:Value) (ss:List (List UInt8)),e=.returned v/\S ss/\w'.ownsRow (w.heap.size+1) 9 1 v ss.length (ss.map dQ)/\(v=.S none 0 0↔ss=[])/\Bw w w':=by
 have h1:1<=n:=ab;have Ye:Fence.wide.fn 181:=trivial;refine callsIn_of_wp func170 rfl trivial ?_ rfl;simp only [ntmps170,List.size_toArray,List.length_cons,List.length_nil,Nat.reduceAdd,Nat.reduceSub,Array.replicate_succ,Array.replicate_zero,List.push_toArray,List.append_toArray,List.nil_append,List.cons_append]
 gi_wp2_with (gi_at_call 181;refine (mX (n-1) ab g lb eg S Sp N hN _ oF).mono ?_;rintro e w' ⟨v,ss,rfl,hS,dW,yz,hb⟩)
 go_ret;exact ⟨v,ss,rfl,hS,dW,yz,hb⟩
theorem FB {w:World} {cur:Array Value} (hb:w.heap[g]?=some (.cells cur e (0,0))) (ht:cur.toList.take ss.length=ss.map dQ):HT w g 0 ss.toArray:=by
 intro j hj;have VZ:j<ss.length:=by simpa using hj
 refine ⟨?_,by simp [World.frozen?,hb]⟩;have h1:(cur.toList.take ss.length)[j]?=(ss.map dQ)[j]?:=by rw [ht]
 rw [List.getElem?_take_of_lt VZ] at h1;simp only [World.cell?,hb,Nat.zero_add];simp only [Option.isSome_none,Bool.false_eq_true,if_false];rw [<-Array.getElem?_toList,h1];simp [VZ,dQ]
def SC (B:Nat) (w:World) (v:Value) (ss:List (List UInt8)):Prop:=(v=.S none 0 0/\ss=[])\/∃ g cap,v=.S (some ⟨g,0,none⟩) ss.length cap/\B<=g/\g<w.heap.size/\HT w g 0 ss.toArray
structure Asc {H:Type} (D0:DataW H) (ss:List (List UInt8)):Prop where
 lt:ss.Pairwise (·<·)
 mem:∀ x,x∈ss↔has D0 (.string x)=true
 size:ss.length<=Maps.size D0
theorem Jr {H:Type} {D0:DataW H} (h:jb D0 ss):Asc D0 (ss.mergeSort (fun x y=>decide (x<=y))):=by
 have hp:=List.mergeSort_perm ss (fun x y=>decide (x<=y));refine ⟨?_,fun x=>(hp.mem_iff).trans (h.2.1 x),by rw [hp.length_eq];exact h.2.2⟩;have h1:=List.pairwise_mergeSort (le:=fun x y:List UInt8=>decide (x<=y)) (fun a b c h1 h2=>by simp only [decide_eq_true_eq] at *;exact List.le_trans h1 h2) (fun a b=>by simp only [Bool.or_eq_true,decide_eq_true_eq];exact List.le_total a b) ss;have h2:(ss.mergeSort (fun x y=>decide (x<=y))).Pairwise (·≠·):=hp.nodup_iff.2 h.1;refine (h1.and h2).imp (fun {a b} ⟨x,y⟩=>?_);simp only [decide_eq_true_eq] at x;exact Decidable.byContradiction fun hh=>y (List.le_antisymm x hh)
theorem pf (n:Nat) (hn:4<=n) (g:Nat) (lb:Array Value) (eg:∀ args w,(callFunc g args).run prog w=.ok (.enter g args) w)
  (S Sp:List (List UInt8)->Prop) (N:Nat) (hN:N<=1048576) (hS:∀ ss,S ss->ss.length<=1048576) (w:World) (oF:SeqStopsK Fence.wide (n-1-1-1) prog g lb (fun x:List UInt8=>#[dQ x]) KeepsWalks S Sp N w) :
  CallsIn Fence.wide n prog 145 #[.func (.func g) #[] lb] w fun e w'=>∃ (v:Value) (ss:List (List UInt8)),e=.returned v/\S ss/\SC w.heap.size w' v (ss.mergeSort (fun x y=>decide (x<=y)))/\Bw w w':=by
 have h1:1<=n:=ab;have hfC:Fence.wide.fn 170:=trivial;have Ye:Fence.wide.fn 171:=trivial;refine callsIn_of_wp func145 rfl trivial ?_ rfl;simp only [ntmps145,List.size_toArray,List.length_cons,List.length_nil,Nat.reduceAdd,Nat.reduceSub,Array.replicate_succ,Array.replicate_zero,List.push_toArray,List.append_toArray,List.nil_append,List.cons_append]
 gi_wp2_with (gi_at_call 170;refine (qU (n-1) ab g lb eg S Sp N hN _ oF).mono ?_;rintro e w' ⟨v,ss,rfl,Wu,dW,yz,hb⟩)
 rcases dW.2 with ⟨rfl,_⟩ | ⟨gb,cap,cur,rfl,sA,Rh,iV,mG,EH,TI⟩;{
 have e0:ss=[]:=yz.1 rfl;subst e0
 gi_wp2_with (gi_at_call 171;refine (callsIn_wide.2 (DD 0 _)).mono ?_;rintro e w2 ⟨rfl,rfl⟩)
 go_ret;exact ⟨_,[],rfl,Wu,.inl ⟨rfl,aU⟩,hb⟩};{
 have bj:gb<w'.heap.size:=(Array.getElem?_eq_some_iff.1 Rh).1;have hH:=FB Rh (by simpa using TI)
 gi_wp2_with (gi_at_call 171;refine (callsIn_wide.2 (zM gb 0 cap ss (hS ss Wu) _ hH bj)).mono ?_;rintro e w2 ⟨rfl,sX,fU⟩)
 go_ret;refine ⟨_,ss,rfl,Wu,.inr ⟨gb,cap,by rw [List.length_mergeSort];rfl,ab,Nat.lt_of_lt_of_le bj fU.size,sX⟩,?_⟩;exact hb.grown fU hb.size (fun k e=>by cases e;omega)}
theorem iO {H:Type} (b nn:Nat) (D0:DataW H) {R:Value->Option (DataW H × List MemPlace)} (w:World) (br:w.ownsMap prog 9 R b nn D0) (il:Maps.size D0<=1048576) :
  Calls prog 101 #[.map (some b)] w fun e w'=>∃ (v:Value) (ss:List (List UInt8)),e=.returned v/\Asc D0 ss/\SC w.heap.size w' v ss/\Bw w w':=by
 refine (callsIn_wide (n:=6)).1 ?_;have hfK:Fence.wide.fn 146:=trivial;have Ye:Fence.wide.fn 145:=trivial;have Cf:=br.lt;have nj:(w.alloc (.cells #[.map (some b)] 130)).ownsMap prog 9 R b nn D0:=by obtain ⟨es,clock,hb,Ft,hs,hD⟩:=br;exact ⟨es,clock,(Below.heap_alloc _ _ b Cf).trans hb,Ft,hs,hD⟩
 have oF:=Aw 2 ab w.heap.size b nn D0 (w.alloc (.cells #[.map (some b)] 130)) aU aU nj;refine callsIn_of_wp func101 rfl trivial ?_ rfl;simp only [ntmps101,List.size_toArray,List.length_cons,List.length_nil,Nat.reduceAdd,Nat.reduceSub,Array.replicate_succ,Array.replicate_zero,List.push_toArray,List.append_toArray,List.nil_append,List.cons_append]
 gi_wp2_with (first
  | (gi_at_call 146;refine (Fv _ _ _).mono ?_;rintro e w' ⟨rfl,rfl⟩)
  | (gi_at_call 145;refine (pf 5 ab _ _ (fun args w=>(by kernel_rfl:(callFunc 172 args).run prog w=.ok (.enter 172 args) w)) _ _ _ il (fun ss h=>Nat.le_trans h.2.2 il) _ oF).mono ?_;rintro e w' ⟨v,ss,rfl,hS,DG,hb⟩))
 go_ret;refine ⟨v,_,rfl,Jr hS,?_,((Below.refl _ w).alloc aA _).trans (hb.mono aU)⟩;rcases DG with h | ⟨g,cap,h1,h2,h3,h4⟩;{exact .inl h};{exact .inr ⟨g,cap,h1,by simp at h2;omega,h3,h4⟩}
end T
open Go.ChangeShapes Go.WideShapes Go.ChangeAt Go.RowKit
theorem vD:∀ (l m:List Int),l.Nodup->(∀ x∈l,x∈m)->l.length<=m.length
 | [],m,_,_=>Nat.zero_le _
 | x::l,m,hd,hs=>by rw [List.nodup_cons] at hd;have hx:=hs x aU;have h:=vD l (m.erase x) hd.2 fun y hy=>(List.mem_erase_of_ne (fun e=>hd.1 (by rw [<-e];exact hy))).2 (hs y (by simp [hy]));rw [List.length_erase_of_mem hx] at h;have:=List.length_pos_of_mem hx;rw [List.length_cons];omega
theorem YC {α:Type} [DecidableEq α] (c:α) (s:List α):((du c s).map fun n=>n.length+1).sum=s.length+1:=by
 induction s with
 | nil=>rfl
 | cons x l ih=>
  rw [du];split;{rw [List.map_cons,List.sum_cons,ih,List.length_cons,List.length_nil];omega};{
 cases h:du c l with
 | nil=>have:=NC c l;rw [h] at this;simp at this
 | cons n ns=>
  rw [h] at ih;simp only [List.map_cons,List.sum_cons,List.length_cons] at ih ⊢;omega}
theorem Kv (C:Nat):∀ l:List Nat,(∀ x∈l,x<=C)->l.sum<=C*l.length
 | [],_=>Nat.zero_le _
 | x::l,h=>by have h1:=Kv C l fun y hy=>h y (by simp [hy]);have h2:=h x aU;rw [List.sum_cons,List.length_cons,Nat.mul_succ];omega
theorem nZ {p:List Int} (h:vp p=true):p.length<=136:=by
 cases p with
 | nil=>simp
 | cons c t=>
  rw [vp,st,Bool.and_eq_true,Bool.and_eq_true,decide_eq_true_eq,List.all_eq_true] at h;obtain ⟨-,h1,h2⟩:=h;have h3:=Kv 17 ((du 47 t).map fun n=>n.length+1) (fun x hx=>by obtain ⟨n,hn,rfl⟩:=List.mem_map.1 hx;have:=h2 n hn;simp only [iQ,Bool.and_eq_true,decide_eq_true_eq] at this;omega)
  rw [YC,List.length_map] at h3;rw [List.length_cons];omega
open Go.Deep Go.Proofs.Tryz
theorem Rd.Qv {H:Type} {enc:TypeId × Value->H} {w:World} {n:Nat} {x:DataW H × List MemPlace} (h:DataW.trod enc prog w 0 (fun _=>true) true n 22 cs=some x) :
  ∃ (p:Option Addr) (l:List Int) (c:Nat),cs=[.S p l.length c]/\Rd w (.S p l.length c) l/\l.length<=maxLen/\(∀ z∈l,(Lit.int .u8 z).wf=true):=by
 rcases open_ints underlying22 underlying5 cW h with ⟨rfl,_⟩ | ⟨a,len,cap,zs,rfl,_,hl,hm,hz,_,bG,hwz⟩;{exact ⟨none,[],0,rfl,Rd.nil w,aU,aU⟩};{
 simp only [if_true] at hz;have e:(zs.take len).length=len:=by simp;omega
 refine ⟨some a,zs.take len,cap,by rw [e],?_,ab,fun z h=>hwz z (List.mem_of_mem_take h)⟩;refine ⟨some a,cap,rfl,?_⟩;by_cases h0:len=0;{left;subst h0;simp}
 {
 right
 obtain ⟨b,o,spot⟩:=a;have hs:spot=none:=by simpa [Addr.add] using World.cell?_spot (bG 0 ab)
 subst hs;refine ⟨b,o,rfl,fun i hi=>?_⟩;rw [e] at hi;have:=bG i ab;simp only [Addr.add_lit] at this;rw [this];simp [List.getD,List.getElem?_take,hi]}}
theorem Rd.kU {H:Type} {enc:TypeId × Value->H} {w:World} {n:Nat} {x:DataW H × List MemPlace} (h:DataW.trod enc prog w 0 (fun _=>true) true n 22 cs=some x) :
  ∃ (p:Option Addr) (l:List Int) (c:Nat),cs=[.S p l.length c]/\Rd w (.S p l.length c) l/\l.length<=maxLen/\l.length<=c/\(∀ z∈l,0<=z/\z<256):=by
 obtain ⟨p,l,c,e,hr,hm,hw⟩:=Rd.Qv h;refine ⟨p,l,c,e,hr,hm,?_,fun z hz=>?_⟩;{rcases open_ints underlying22 underlying5 cW h with ⟨rfl,_⟩ | ⟨a,len,cap,zs,rfl,_,hl,_⟩;{simp at e;omega};{simp at e;omega}};{have:=hw z hz;simp [Lit.wf,IntKind.min,IntKind.max,IntKind.signed,IntKind.bits] at this;omega}
end Go.Proofs.YtcfcafeciggjeaaGreatDoor
