import Derived.Test.YtmfjiolopcbcmaaGreatDoorK7
import Derived.Lib.BitFns
import Derived.Lib.Walk
import Derived.Lib.Small
import Derived.Lib.Strings
import Derived.Lib.Slices
import Derived.Laws.Bits64
import Derived.Laws.Bits64b
namespace Go.Proofs.YtmfjiolopcbcmaaGreatDoor
set_option maxHeartbeats 6400000
set_option linter.unusedVariables false
set_option linter.unusedSimpArgs false
set_option maxRecDepth 100000
variable {S:Int} {a aF g i i2 j j2 off:Nat} {d:Array Int} {p:Int->Bool} {w:World}
namespace Q
open Go.Sort Go.RowKit Go.Proofs.Tryz
theorem JK {hi first r:Nat} (h:¬ 2*r+1<hi):siftDown ltInt hi first r d=d:=by
 rw [siftDown,dif_pos (by omega)]
def Jb (hi first r:Nat) (d:Array Int):Nat:=if 2*r+1+1<hi&&ltInt d[first+(2*r+1)]! d[first+(2*r+1)+1]! then 2*r+2 else 2*r+1
theorem sg {hi first r:Nat} (h:2*r+1<hi) (hl:ltInt d[first+r]! d[first+Jb hi first r d]! = false):siftDown ltInt hi first r d=d:=by
 rw [siftDown,dif_neg (by omega)];unfold Jb at hl;split;{next hc=>rw [if_pos hc] at hl;rw [if_pos (by simp [hl])]}
 {next hc=>rw [if_neg hc] at hl;rw [if_pos (by simp [hl])]}
theorem yO {hi first r:Nat} (h:2*r+1<hi) (hl:ltInt d[first+r]! d[first+Jb hi first r d]! = true):siftDown ltInt hi first r d=siftDown ltInt hi first (Jb hi first r d) (swp d (first+r) (first+Jb hi first r d)):=by
 rw [siftDown,dif_neg (by omega)];unfold Jb at hl ⊢;split;{
 next hc=>
 rw [if_pos hc] at hl;rw [if_neg (by simp [hl])];have:2*r+2<hi:=by simp at hc;omega
 rw [dif_pos this]};{
 next hc=>
 rw [if_neg hc] at hl;rw [if_neg (by simp [hl])]}
theorem BJ (aF off cap N lo hi first:Nat) (d:Array Int) (hN:Hid (d.size=N)) (w:World) (h:HU w aF off d) (hh:first+hi<=N) (KL:lo<=N) (fH:N<=1048576) :
  Calls prog 190 #[.slice (some ⟨aF,off,none⟩) N cap,.int .i64 lo,.int .i64 hi,.int .i64 first] w fun e w'=>e=.returned (.tuple #[])/\HU w' aF off (siftDown ltInt hi first lo d)/\w.grownBy w' (some aF):=by
 obtain ⟨D,eD⟩:=aZ (siftDown ltInt hi first lo d);rw [eD];have ED:=ae eD;have H0:=ae h;go_enter func190,ntmps190;go_wp2_with fail
 go_loopw [8] (fun s8 wr=>∃ (r:Nat) (dk:Array Int),s8=.int .i64 r/\r<=1048576/\Hid (dk.size=N)/\Hid (HU wr aF off dk)/\Hid (siftDown ltInt hi first r dk=D)/\Hid (w.grownBy wr (some aF))) (fun s8 _=>hi-(intOf s8).toNat)
 case atStart=>exact ⟨lo,d,rfl,by omega,hN,H0,ED,kx _ _⟩
 case round =>(
 obtain ⟨r,dk,rfl,q1,oC,vE,heq,hg⟩:=hrel;have w1:IntKind.i64.wrap (2*(r:Int))=2*(r:Int):=IntWalk.i64_in _ (by omega);obtain ⟨c,ec⟩:∃ c:Nat,2*(r:Int)+1=(c:Int):=⟨2*r+1,by omega⟩;have VK:2*r+1=c:=by omega
 have wc:IntKind.i64.wrap (c:Int)=(c:Int):=IntWalk.i64_in _ (by omega);by_cases aU:c<hi;{
 have aV:¬ (hi:Int)<=(c:Int):=by omega
 have rb:=aa oC;obtain ⟨c2,ec2⟩:∃ c2:Nat,(c:Int)+1=(c2:Int):=⟨c+1,by omega⟩;have wc2:IntKind.i64.wrap (c2:Int)=(c2:Int):=IntWalk.i64_in _ (by omega);obtain ⟨fr,efr⟩:∃ x:Nat,(first:Int)+(r:Int)=(x:Int):=⟨first+r,by omega⟩;have wfr:IntKind.i64.wrap (fr:Int)=(fr:Int):=IntWalk.i64_in _ (by omega);obtain ⟨fc,efc⟩:∃ x:Nat,(first:Int)+(c:Int)=(x:Int):=⟨first+c,by omega⟩;have wfc:IntKind.i64.wrap (fc:Int)=(fc:Int):=IntWalk.i64_in _ (by omega);obtain ⟨fd,efd⟩:∃ x:Nat,(fc:Int)+1=(x:Int):=⟨fc+1,by omega⟩;have wfd:IntKind.i64.wrap (fd:Int)=(fd:Int):=IntWalk.i64_in _ (by omega);have bI9:(first:Int)+(c2:Int)=(fd:Int):=by omega
 have n1:first+r=fr:=by omega
 have n2:first+c=fc:=by omega
 have n3:fc+1=fd:=by omega
 have n4:2*r+2=c2:=by omega
 obtain ⟨cr,GJ⟩:=aa vE fr (by omega);obtain ⟨cc,fcc⟩:=aa vE fc (by omega);obtain ⟨y,ey⟩:∃ y,dk[fr]! = y:=⟨_,rfl⟩;obtain ⟨z,ez⟩:∃ z,dk[fc]! = z:=⟨_,rfl⟩;rw [ey] at cr;rw [ez] at cc;have j1:(fr:Int)<(N:Int):=by omega
 have j2:(fc:Int)<(N:Int):=by omega
 have K1:=ae (ag cr cc);have F1:=ae (ag GJ fcc);by_cases jf:c2<hi;{
 have aG1:(c2:Int)<(hi:Int):=by omega
 obtain ⟨cd,GL⟩:=aa vE fd (by omega);obtain ⟨x,ex⟩:∃ x,dk[fd]! = x:=⟨_,rfl⟩;rw [ex] at cd;have j3:(fd:Int)<(N:Int):=by omega
 obtain ⟨B,eB⟩:=aZ (ltInt z x);have EB:=ae eB;have YM:Jb hi first r dk=if B then c2 else c:=by unfold Jb;rw [VK,n4,n2,n3,ez,ex,eB];simp only [show decide (c+1<hi)=true by (rw [decide_eq_true_iff];omega),Bool.true_and]
 have K2:=ae (ag K1.2 cd);have ag3:=ae YM;have HX:=ae (ag ex (ag cd GL));have qF:=ae (ag VK (ag n1 (ag n2 (ag n3 n4))));have HE:=ae (ag ey ez);go_wp2_with fail
 go_cut [36] (fun rv wc=>rv=.bool B/\wc=wr.drew)
 case first =>(
 refine wp_region_noPanic ?_;refine wp_region_held_drew (S:=fun w'=>w'.cell? ⟨aF,off+fc,none⟩=some (.int .u64 z)/\w'.cell? ⟨aF,off+fd,none⟩=some (.int .u64 x)) (by kernel_rfl) (by exact K2) (fun hS=>?_);refine fL 0 1 2 3 4 5 6 7 hS ?_;refine fL 8 9 10 11 12 13 14 15 hS ?_;refine fq 16 17 hS ?_;refine ry [18] ?_;refine cn (fun KK hK=>?_) ?_;{refine bL (by rfl) 173 _ _ _ (by rfl) (.int .u64 z) (.int .u64 x) (by rfl) (by rfl) (fun _=>dL _ _) (dK z x _) ?_;rintro r' w2 ⟨rfl,rfl⟩;refine ⟨_,rfl,?_⟩;rw [aa EB];refine bM hK (by exact K2) fun hS=>?_;refine tn 19 hS ?_;refine wpAnyH_done (by kernel_rfl) ?_ _;refine bc ?_;go_wp2_with fail;go_meet;exact ⟨rfl,rfl⟩};exact AllReadyH.nil)
 obtain ⟨rfl,rfl⟩:=hcut;cases B with
 | true=>
  have G7:Hid (Jb hi first r dk=c2):=by show _=_;rw [aa ag3];rfl
  obtain ⟨ex,cd,GL⟩:=aa HX;obtain ⟨cr,-⟩:=aa K1;obtain ⟨GJ,-⟩:=aa F1;obtain ⟨B2,Au⟩:=aZ (ltInt y x);have EB2:=ae Au;have CE:first+c2=fd:=by have:=aa qF;omega
  have ku:first+r=fr:=qF.2.1
  have gh:Hid (B2=false->dk=D):=fun hB=>by rw [<-aa heq,sg (by have:=qF.1;omega) (by rw [aa G7,CE,ku,HE.1,ex,Au,hB])]
  have wu:Hid (B2=true->siftDown ltInt hi first c2 (swp dk fr fd)=D):=fun hB=>by have:=aa heq;rw [yO (by have:=qF.1;omega) (by rw [aa G7,CE,ku,HE.1,ex,Au,hB]),aa G7,CE,ku] at this;exact this
  have rb:=aa oC;have xU:=ae (vE.swap (i:=fr) (j:=fd) (by omega) (by omega) ex.symm HE.1.symm);have tJ:Hid ((swp dk fr fd).size=N):=by show _=_;rw [size_swp];exact rb
  have HG:=ae (aO (aO hg (aD wr aF (off+fr) (.int .u64 x))) (aD _ aF (off+fd) (.int .u64 y)));have K3:=ae (ag cr cd);have F3:=ae (ag GJ GL);have hrc:r<c2:=by have:=aa qF;omega
  go_wp2_with fail
  go_cut [52] (fun rv wc=>rv=.bool (!B2)/\wc=wr.drew.drew)
  case first =>(
 refine wp_region_noPanic ?_;refine wp_region_held_drew (S:=fun w'=>w'.cell? ⟨aF,off+fr,none⟩=some (.int .u64 y)/\w'.cell? ⟨aF,off+fd,none⟩=some (.int .u64 x)) (by kernel_rfl) (by exact K3) (fun hS=>?_);refine fL 0 1 2 3 4 5 6 7 hS ?_;refine gD 8 9 10 11 hS ?_;refine ry [12] ?_;refine cn (fun KK hK=>?_) ?_;{refine bL (by rfl) 173 _ _ _ (by rfl) (.int .u64 y) (.int .u64 x) (by rfl) (by rfl) (fun _=>dL _ _) (dK y x _) ?_;rintro r' w2 ⟨rfl,rfl⟩;refine ⟨_,rfl,?_⟩;rw [aa EB2];refine bM hK (by exact K3) fun hS=>?_;refine tn 13 hS ?_;refine wpAnyH_done (by kernel_rfl) ?_ _;refine bc ?_;go_wp2_with fail;go_meet;exact ⟨rfl,rfl⟩};exact AllReadyH.nil)
  obtain ⟨rfl,rfl⟩:=hcut;cases B2 with
  | false=>
   have e:=aa gh rfl;subst e;go_wp2;exact bodyPost_ret (results_none (h:=rfl) _ _ _) rfl ⟨rfl,vE,ao (ao hg)⟩
  | true=>
   have e:=ae (aa wu rfl);obtain ⟨cr,cd⟩:=aa K3;obtain ⟨GJ,GL⟩:=aa F3;go_wp2_with fail
   go_region
   go_wp2;go_roundw
   case rel=>exact ⟨c2,swp dk fr fd,rfl,by omega,tJ,(aa xU),e,ao (ao (ao HG))⟩
   case measure=>simp [intOf];omega
 | false=>
  have G7:Hid (Jb hi first r dk=c):=by show _=_;rw [aa ag3];rfl
  have ex:=HE.2;have cd:=K1.2;have GL:=F1.2;obtain ⟨cr,-⟩:=aa K1;obtain ⟨GJ,-⟩:=aa F1;obtain ⟨B2,Au⟩:=aZ (ltInt y z);have EB2:=ae Au;have CE:first+c=fc:=by have:=aa qF;omega
  have ku:first+r=fr:=qF.2.1
  have gh:Hid (B2=false->dk=D):=fun hB=>by rw [<-aa heq,sg (by have:=qF.1;omega) (by rw [aa G7,CE,ku,HE.1,ex,Au,hB])]
  have wu:Hid (B2=true->siftDown ltInt hi first c (swp dk fr fc)=D):=fun hB=>by have:=aa heq;rw [yO (by have:=qF.1;omega) (by rw [aa G7,CE,ku,HE.1,ex,Au,hB]),aa G7,CE,ku] at this;exact this
  have rb:=aa oC;have xU:=ae (vE.swap (i:=fr) (j:=fc) (by omega) (by omega) ex.symm HE.1.symm);have tJ:Hid ((swp dk fr fc).size=N):=by show _=_;rw [size_swp];exact rb
  have HG:=ae (aO (aO hg (aD wr aF (off+fr) (.int .u64 z))) (aD _ aF (off+fc) (.int .u64 y)));have K3:=ae (ag cr cd);have F3:=ae (ag GJ GL);have hrc:r<c:=by have:=aa qF;omega
  go_wp2_with fail
  go_cut [52] (fun rv wc=>rv=.bool (!B2)/\wc=wr.drew.drew)
  case first =>(
 refine wp_region_noPanic ?_;refine wp_region_held_drew (S:=fun w'=>w'.cell? ⟨aF,off+fr,none⟩=some (.int .u64 y)/\w'.cell? ⟨aF,off+fc,none⟩=some (.int .u64 z)) (by kernel_rfl) (by exact K3) (fun hS=>?_);refine fL 0 1 2 3 4 5 6 7 hS ?_;refine gD 8 9 10 11 hS ?_;refine ry [12] ?_;refine cn (fun KK hK=>?_) ?_;{refine bL (by rfl) 173 _ _ _ (by rfl) (.int .u64 y) (.int .u64 z) (by rfl) (by rfl) (fun _=>dL _ _) (dK y z _) ?_;rintro r' w2 ⟨rfl,rfl⟩;refine ⟨_,rfl,?_⟩;rw [aa EB2];refine bM hK (by exact K3) fun hS=>?_;refine tn 13 hS ?_;refine wpAnyH_done (by kernel_rfl) ?_ _;refine bc ?_;go_wp2_with fail;go_meet;exact ⟨rfl,rfl⟩};exact AllReadyH.nil)
  obtain ⟨rfl,rfl⟩:=hcut;cases B2 with
  | false=>
   have e:=aa gh rfl;subst e;go_wp2;exact bodyPost_ret (results_none (h:=rfl) _ _ _) rfl ⟨rfl,vE,ao (ao hg)⟩
  | true=>
   have e:=ae (aa wu rfl);obtain ⟨cr,cd⟩:=aa K3;obtain ⟨GJ,GL⟩:=aa F3;go_wp2_with fail
   go_region
   go_wp2;go_roundw
   case rel=>exact ⟨c,swp dk fr fc,rfl,by omega,tJ,(aa xU),e,ao (ao (ao HG))⟩
   case measure=>simp [intOf];omega}
 {
 have aG1:¬ (c2:Int)<(hi:Int):=by omega
 have G7:Hid (Jb hi first r dk=c):=by show _=_;unfold Jb;rw [if_neg (by simp;omega),VK]
 have qF:=ae (ag VK (ag n1 (ag n2 (ag n3 n4))));have HE:=ae (ag ey ez);have ex:=HE.2;have cd:=K1.2;have GL:=F1.2;go_wp2_with fail
 go_cut [36] (fun rv wc=>rv=.bool false/\wc=wr.drew)
 case first =>(
 refine wp_region_noPanic ?_;refine wp_region_held_drew (S:=fun w'=>True) (by kernel_rfl) trivial (fun hS=>?_);refine gD 0 1 2 3 hS ?_;refine tn 4 hS ?_;refine sn 5 hS ?_;refine sn 6 hS ?_;refine sn 7 hS ?_;refine sn 8 hS ?_;refine sn 9 hS ?_;refine sn 10 hS ?_;refine sn 11 hS ?_;refine sn 12 hS ?_;refine sn 13 hS ?_;refine sn 14 hS ?_;refine sn 15 hS ?_;refine sn 16 hS ?_;refine sn 17 hS ?_;refine sn 18 hS ?_;refine tn 19 hS ?_;refine wpAnyH_done (by kernel_rfl) ?_ _;refine bc ?_;go_wp2_with fail;go_meet;exact ⟨rfl,rfl⟩)
 obtain ⟨rfl,rfl⟩:=hcut;obtain ⟨cr,-⟩:=aa K1;obtain ⟨GJ,-⟩:=aa F1;obtain ⟨B2,Au⟩:=aZ (ltInt y z);have EB2:=ae Au;have CE:first+c=fc:=by have:=aa qF;omega
 have ku:first+r=fr:=qF.2.1
 have gh:Hid (B2=false->dk=D):=fun hB=>by rw [<-aa heq,sg (by have:=qF.1;omega) (by rw [aa G7,CE,ku,HE.1,ex,Au,hB])]
 have wu:Hid (B2=true->siftDown ltInt hi first c (swp dk fr fc)=D):=fun hB=>by have:=aa heq;rw [yO (by have:=qF.1;omega) (by rw [aa G7,CE,ku,HE.1,ex,Au,hB]),aa G7,CE,ku] at this;exact this
 have rb:=aa oC;have xU:=ae (vE.swap (i:=fr) (j:=fc) (by omega) (by omega) ex.symm HE.1.symm);have tJ:Hid ((swp dk fr fc).size=N):=by show _=_;rw [size_swp];exact rb
 have HG:=ae (aO (aO hg (aD wr aF (off+fr) (.int .u64 z))) (aD _ aF (off+fc) (.int .u64 y)));have K3:=ae (ag cr cd);have F3:=ae (ag GJ GL);have hrc:r<c:=by have:=aa qF;omega
 go_wp2_with fail
 go_cut [52] (fun rv wc=>rv=.bool (!B2)/\wc=wr.drew.drew)
 case first =>(
 refine wp_region_noPanic ?_;refine wp_region_held_drew (S:=fun w'=>w'.cell? ⟨aF,off+fr,none⟩=some (.int .u64 y)/\w'.cell? ⟨aF,off+fc,none⟩=some (.int .u64 z)) (by kernel_rfl) (by exact K3) (fun hS=>?_);refine fL 0 1 2 3 4 5 6 7 hS ?_;refine gD 8 9 10 11 hS ?_;refine ry [12] ?_;refine cn (fun KK hK=>?_) ?_;{refine bL (by rfl) 173 _ _ _ (by rfl) (.int .u64 y) (.int .u64 z) (by rfl) (by rfl) (fun _=>dL _ _) (dK y z _) ?_;rintro r' w2 ⟨rfl,rfl⟩;refine ⟨_,rfl,?_⟩;rw [aa EB2];refine bM hK (by exact K3) fun hS=>?_;refine tn 13 hS ?_;refine wpAnyH_done (by kernel_rfl) ?_ _;refine bc ?_;go_wp2_with fail;go_meet;exact ⟨rfl,rfl⟩};exact AllReadyH.nil)
 obtain ⟨rfl,rfl⟩:=hcut;cases B2 with
 | false=>
  have e:=aa gh rfl;subst e;go_wp2;exact bodyPost_ret (results_none (h:=rfl) _ _ _) rfl ⟨rfl,vE,ao (ao hg)⟩
 | true=>
  have e:=ae (aa wu rfl);obtain ⟨cr,cd⟩:=aa K3;obtain ⟨GJ,GL⟩:=aa F3;go_wp2_with fail
  go_region
  go_wp2;go_roundw
  case rel=>exact ⟨c,swp dk fr fc,rfl,by omega,tJ,(aa xU),e,ao (ao (ao HG))⟩
  case measure=>simp [intOf];omega}}
 {
 have aV:(hi:Int)<=(c:Int):=by omega
 have hq:=aa heq;rw [JK (by omega)] at hq;subst hq;go_wp2
 first
  | exact bodyPost_ret (results_none (h:=rfl) _ _ _) rfl ⟨rfl,vE,hg⟩
  | (go_end0;exact ⟨rfl,vE,hg⟩)})
end Q
namespace Q
open Go.Sort Go.RowKit Go.Proofs.Tryz
theorem xC (lt:Int->Int->Bool) (hi first:Nat):∀ (k r:Nat) (d:Array Int),hi-r<=k->(siftDown lt hi first r d).size=d.size:=by
 intro k
 induction k with
 | zero=>intro r d hk;rw [siftDown,dif_pos (by omega)]
 | succ k ih=>
  intro r d hk;rw [siftDown];split;{rfl}
  {
 split;{
 split;{rfl}
 {split;{rw [ih _ _ (by omega),size_swp]};{rfl}}}
 {
 split;{rfl}
 {rw [ih _ _ (by omega),size_swp]}}}
theorem La (aF off cap N a b:Nat) (d:Array Int) (hN:Hid (d.size=N)) (w:World) (h:HU w aF off d) (wF:a<=b) (hb:b<=N) (fH:N<=1048576) :
  Calls prog 168 #[.slice (some ⟨aF,off,none⟩) N cap,.int .i64 a,.int .i64 b] w fun e w'=>e=.returned (.tuple #[])/\HU w' aF off (heapSort ltInt d a b)/\w.grownBy w' (some aF):=by
 obtain ⟨D,eD⟩:=aZ (heapSort ltInt d a b);rw [eD];obtain ⟨H,eH⟩:∃ H:Nat,(b:Int)-(a:Int)=(H:Int):=⟨b-a,by omega⟩;have eH0:b-a=H:=by omega
 have wH:IntKind.i64.wrap (H:Int)=(H:Int):=IntWalk.i64_in _ (by omega);unfold heapSort at eD;rw [eH0] at eD;obtain ⟨M,eM⟩:=aZ (heapBuild ltInt H a ((H-1) / 2+1) d);rw [eM] at eD;have ED:=ae eD;have EM:=ae eM;have H0:=ae h;have hHN:a+H<=N:=by omega
 have HE0:=ae eH0;have w1:IntKind.i64.wrap ((H:Int)-1)=(H:Int)-1:=IntWalk.i64_in _ (by omega);obtain ⟨q,eq⟩:∃ q:Int,Int.tdiv ((H:Int)-1) 2=q:=⟨_,rfl⟩;have hq:q=((H-1) / 2:Nat):=by rw [<-eq];by_cases hz:H=0;{subst hz;decide};{rw [show (H:Int)-1=((H-1:Nat):Int) by omega];exact (Int.ofNat_tdiv _ _).symm}
 have Kw:0<=q:=by omega
 have Ux:q<=1048576:=by omega
 have wq:IntKind.i64.wrap q=q:=IntWalk.i64_in _ (by omega);have HQ:=ae hq;clear eD eM h eH0 hq;go_enter func168,ntmps168;go_wp2_with fail
 go_loopw [9] (fun s9 wr=>∃ (iz:Int) (k:Nat) (dk:Array Int),s9=.int .i64 iz/\iz=(k:Int)-1/\k<=H+1/\Hid (dk.size=N)/\Hid (HU wr aF off dk)/\Hid (heapBuild ltInt H a k dk=M)/\Hid (w.grownBy wr (some aF))) (fun s9 _=>(intOf s9+1).toNat)
 case atStart=>exact ⟨q,(H-1) / 2+1,d,rfl,by have:=aa HQ;omega,by omega,hN,H0,EM,kx _ _⟩
 case round =>(
 obtain ⟨iz,k,dk,rfl,hk,hiz,oC,vE,heq,hg⟩:=hrel;have HK:=ae hk;by_cases hz:0<=iz;{
 obtain ⟨m,em⟩:∃ m:Nat,iz=(m:Int):=⟨iz.toNat,by omega⟩;have ek:k=m+1:=by omega
 subst ek;clear hk HK;subst em;have Jc:(0:Int)<=(m:Int):=by omega
 have om:=aa heq;rw [heapBuild] at om;have Tf:=ae om;have aE8:Hid ((siftDown ltInt H a m dk).size=N):=by show _=_;rw [xC ltInt H a _ m dk ay];exact aa oC
 have hm:m<=N:=by omega
 clear om heq;go_wp2_with fail;refine (BJ aF off cap N m H a dk oC _ vE hHN hm fH).mono ?_;rintro e w2 ⟨rfl,py,dY⟩;have HG:=ae (aO hg dY);have Wv:=ae py;clear dY py;go_wp2;go_roundw
 case rel=>exact ⟨(m:Int)-1,m,_,by first | rfl | go_num,by omega,by omega,aE8,Wv,Tf,HG⟩
 case measure=>first | (simp [intOf];done) | (simp [intOf];omega)}
 {
 have ek:k=0:=by omega
 subst ek;have eM:dk=M:=aa heq;subst eM;clear hk HK;go_wp2_with fail;obtain ⟨Y,eY⟩:=ax wr;subst eY;have HG0:=hg;clear hg hz
 go_loopw [10] (fun Eo wr=>∃ (iz:Int) (k:Nat) (dj:Array Int),Eo=.int .i64 iz/\iz=(k:Int)-1/\k<=H/\Hid (dj.size=N)/\Hid (HU wr aF off dj)/\Hid (heapPop ltInt a k dj=D)/\Hid (w.grownBy wr (some aF))) (fun Eo _=>(intOf Eo+1).toNat)
 case atStart=>exact ⟨(H:Int)-1,H,dk,rfl,rfl,Nat.le_refl _,oC,vE,ED,HG0⟩
 case round =>(
 obtain ⟨iz,k,dj,rfl,hk,hiz,P8,wG,Ff,hg⟩:=hrel;by_cases hz:0<=iz;{
 obtain ⟨m,em⟩:∃ m:Nat,iz=(m:Int):=⟨iz.toNat,by omega⟩;have ek:k=m+1:=by omega
 subst ek;clear hk;subst em;have Jc:(0:Int)<=(m:Int):=by omega
 obtain ⟨f,ef⟩:∃ x:Nat,(a:Int)+(m:Int)=(x:Int):=⟨a+m,by omega⟩;have wf:IntKind.i64.wrap (f:Int)=(f:Int):=IntWalk.i64_in _ (by omega);have ef0:a+m=f:=by omega
 have vu:=aa P8;obtain ⟨ca,fa⟩:=aa wG a (by omega);obtain ⟨cf,ff⟩:=aa wG f (by omega);obtain ⟨y,ey⟩:∃ y,dj[a]! = y:=⟨_,rfl⟩;obtain ⟨z,ez⟩:∃ z,dj[f]! = z:=⟨_,rfl⟩;rw [ey] at ca;rw [ez] at cf;obtain ⟨tt,ct⟩:=gv (q:=⟨aF,off+a,none⟩) (u:=.int .u64 z) cf;have i1:(a:Int)<(N:Int):=by omega
 have i2:(f:Int)<(N:Int):=by omega
 have om:=aa Ff;rw [heapPop,ef0] at om;have Tf:=ae om;have Od:=ae (wG.swap (i:=a) (j:=f) (by omega) (by omega) ez.symm ey.symm);have tJ:Hid ((swp dj a f).size=N):=by show _=_;rw [size_swp];exact vu
 have HS3:Hid ((siftDown ltInt m a 0 (swp dj a f)).size=N):=by show _=_;rw [xC ltInt m a _ 0 _ ay];exact aa tJ
 have HG:=ae (aO (aO hg (aD wr aF (off+a) (.int .u64 z))) (aD _ aF (off+f) (.int .u64 y)));have mG:a+m<=N:=by omega
 clear ey ez vu om Ff ef0;go_wp2_with fail
 go_region
 go_wp2_with fail;refine (BJ aF off cap N 0 m a (swp dj a f) tJ _ (by exact Od) mG (Nat.zero_le _) fH).mono ?_;rintro e w2 ⟨rfl,py,dY⟩;have HG2:=ae (aO (ao HG) dY);have Wv:=ae py;clear dY py ca cf fa ff ct;go_wp2;go_roundw
 case rel=>exact ⟨(m:Int)-1,m,_,by first | rfl | go_num,rfl,by omega,HS3,Wv,Tf,HG2⟩
 case measure=>first | (simp [intOf];done) | (simp [intOf];omega)}
 {
 have ek:k=0:=by omega
 subst ek;have eD:dj=D:=aa Ff;subst eD;clear hk;go_wp2
 go_end0
 exact ⟨rfl,wG,hg⟩})})
end Q
namespace Q
open Go.Sort Go.RowKit Go.Proofs.Tryz
theorem JB (h:i<=j) (hp:p d[i]! = true):scanUp p d j i=scanUp p d j (i+1):=by
 rw [scanUp,if_pos (by simp [h,hp])]
theorem yD (h:¬ i<=j\/p d[i]! = false):scanUp p d j i=i:=by
 rw [scanUp,if_neg];rcases h with h | h;{simp;omega};{simp [h]}
theorem Av (hj:0<j) (h:i<=j) (hp:p d[j]! = true):scanDown p d i j=scanDown p d i (j-1):=by
 cases j with
 | zero=>omega
 | succ j=>rw [scanDown,if_pos (by simp [h,hp])];rfl
theorem sE (hi:0<i) (h:¬ i<=j\/p d[j]! = false):scanDown p d i j=j:=by
 cases j with
 | zero=>rfl
 | succ j=>
  rw [scanDown,if_neg];rcases h with h | h;{simp;omega};{simp [h]}
theorem xd (h1:scanUp (fun x=>ltInt x d[a]!) d j i=i2) (h2:scanDown (fun x=>!ltInt x d[a]!) d i2 j=j2) (h:j2<i2):partLoop ltInt a i j d=(j2,d):=by
 rw [partLoop];simp only [h1,h2];rw [if_pos h]
theorem BQ (h1:scanUp (fun x=>ltInt x d[a]!) d j i=i2) (h2:scanDown (fun x=>!ltInt x d[a]!) d i2 j=j2) (h:¬ j2<i2) (hi:i<=i2) (hj:j2<=j) (hi0:0<i2):partLoop ltInt a i j d=partLoop ltInt a (i2+1) (j2-1) (swp d i2 j2):=by
 rw [partLoop];simp only [h1,h2];rw [if_neg h,dif_pos (by omega)]
theorem JU (aF off cap N a b piv:Nat) (d:Array Int) (hN:Hid (d.size=N)) (w:World) (h:HU w aF off d) (W6:a<=piv) (Yy:piv<b) (hb:b<=N) (fH:N<=1048576) :
  Calls prog 175 #[.slice (some ⟨aF,off,none⟩) N cap,.int .i64 a,.int .i64 b,.int .i64 piv] w fun e w'=>e=.returned (.tuple #[.int .i64 (partition ltInt d a b piv).1,.bool (partition ltInt d a b piv).2.1])/\HU w' aF off (partition ltInt d a b piv).2.2/\w.grownBy w' (some aF):=by
 obtain ⟨⟨R1,R2,R3⟩,eR⟩:∃ R,partition ltInt d a b piv=R:=⟨_,rfl⟩;rw [eR];have oC:=aa hN;obtain ⟨B1,eB1⟩:∃ x:Nat,(b:Int)-1=(x:Int):=⟨b-1,by omega⟩;have SP:b-1=B1:=by omega
 have wB:IntKind.i64.wrap (B1:Int)=(B1:Int):=IntWalk.i64_in _ (by omega);obtain ⟨ca,fa⟩:=h a (by omega);obtain ⟨cp,fp⟩:=h piv (by omega);obtain ⟨u,eu⟩:∃ u,d[a]! = u:=⟨_,rfl⟩;obtain ⟨v,ev⟩:∃ v,d[piv]! = v:=⟨_,rfl⟩;have Od:=ae (h.swap (i:=a) (j:=piv) (by omega) (by omega) ev.symm eu.symm);rw [eu] at ca;rw [ev] at cp;obtain ⟨tt,ct⟩:=gv (q:=⟨aF,off+a,none⟩) (u:=.int .u64 v) cp;obtain ⟨d1,QG⟩:=aZ (swp d a piv);rw [QG] at Od;have IT:Hid (d1.size=N):=by show _=_;rw [<-QG,size_swp];exact oC
 obtain ⟨y,ey⟩:∃ y,d1[a]! = y:=⟨_,rfl⟩;have HY1:=ae ey;have HG:=ae (aO (aD w aF (off+a) (.int .u64 v)) (aD _ aF (off+piv) (.int .u64 u)));obtain ⟨I1,eI1⟩:∃ I,scanUp (fun x=>ltInt x d1[a]!) d1 B1 (a+1)=I:=⟨_,rfl⟩;obtain ⟨J2,eJ2⟩:∃ J,scanDown (fun x=>!ltInt x d1[a]!) d1 I1 B1=J:=⟨_,rfl⟩;have HR:Hid (((R1,R2,R3):Nat × Bool × Array Int)=if I1>J2 then (J2,true,swp d1 J2 a) else ((partLoop ltInt a (I1+1) (J2-1) (swp d1 I1 J2)).1,false,swp (partLoop ltInt a (I1+1) (J2-1) (swp d1 I1 J2)).2 (partLoop ltInt a (I1+1) (J2-1) (swp d1 I1 J2)).1 a)):=by show _=_;rw [<-eR,partition,QG,SP];simp only [eI1,eJ2]
 have EI1:=ae eI1;have EJ2:=ae eJ2;have kk1:(a:Int)<(N:Int):=by omega
 have kk2:(piv:Int)<(N:Int):=by omega
 go_enter func175,ntmps175;go_wp2_with fail
 go_region
 go_wp2_with fail
 go_loopw [10] (fun s wr=>∃ i1:Nat,s=.int .i64 i1/\a+1<=i1/\i1<=B1+2/\Hid (HU wr aF off d1)/\Hid (scanUp (fun x=>ltInt x d1[a]!) d1 B1 i1=I1)/\Hid (w.grownBy wr (some aF))) (fun s _=>B1+1-(intOf s).toNat)
 case atStart=>exact ⟨a+1,by first | rfl | go_num,by omega,by omega,(aa Od),EI1,(ao HG)⟩
 case round =>(
 obtain ⟨i1,rfl,qa1,qb1,oq,Lo,ri⟩:=hrel;obtain ⟨Bc,yt⟩:∃ B,(decide (i1<=B1)&&((fun x=>ltInt x d1[a]!) d1[i1]!))=B:=⟨_,rfl⟩;have iP:=ae yt;go_wp2_with fail
 go_cut [43] (fun rv wc=>rv=.bool Bc/\wc=wr.drew)
 case first =>(
 by_cases jd:i1<=B1;{
 have sv:(i1:Int)<=(B1:Int):=by omega
 have hdd:=aa IT;obtain ⟨ci,-⟩:=aa oq i1 (by omega);obtain ⟨ca,-⟩:=aa oq a (by omega);obtain ⟨x,ex⟩:∃ x,d1[i1]! = x:=⟨_,rfl⟩;rw [ex] at ci;rw [aa HY1] at ca;have k1:(i1:Int)<(N:Int):=by omega
 have k2:(a:Int)<(N:Int):=by omega
 have k3:(0:Int)<=(i1:Int):=by omega
 obtain ⟨L,eL⟩:=aZ (ltInt x y);have EL:=ae eL;have eB:Bc=L:=by rw [<-aa iP];simp only [decide_eq_true jd,Bool.true_and,ex,aa HY1,eL]
 subst eB;have K0:=ae (ag ci ca);refine wp_region_noPanic ?_;refine wp_region_held_drew (S:=fun w'=>w'.cell? ⟨aF,off+i1,none⟩=some (.int .u64 x)/\w'.cell? ⟨aF,off+a,none⟩=some (.int .u64 y)) (by kernel_rfl) (by exact K0) (fun hS=>?_);refine fL 0 1 2 3 4 5 6 7 hS ?_;refine gD 8 9 10 11 hS ?_;refine bR 12 fun KK hK=>?_;refine bL (by rfl) 173 _ _ _ (by rfl) (.int .u64 x) (.int .u64 y) (by rfl) (by rfl) (fun _=>dL _ _) (dK x y _) ?_;rintro r' w2 ⟨rfl,rfl⟩;refine ⟨_,rfl,?_⟩;rw [aa EL];refine bM hK (by exact K0) fun hS=>?_;refine tn 13 hS ?_;refine wpAnyH_done (by kernel_rfl) ?_ _;refine bc ?_;go_wp2_with fail;go_meet;exact ⟨rfl,rfl⟩};{
 have sv:¬ (i1:Int)<=(B1:Int):=by omega
 have eB:Bc=false:=by rw [<-aa iP,decide_eq_false jd];rfl
 subst eB;refine wp_region_noPanic ?_;refine wp_region_held_drew (S:=fun w'=>True) (by kernel_rfl) trivial (fun hS=>?_);refine gD 0 1 2 3 hS ?_;refine sn 4 hS ?_;refine sn 5 hS ?_;refine sn 6 hS ?_;refine sn 7 hS ?_;refine sn 8 hS ?_;refine sn 9 hS ?_;refine sn 10 hS ?_;refine sn 11 hS ?_;refine sn 12 hS ?_;refine tn 13 hS ?_;refine wpAnyH_done (by kernel_rfl) ?_ _;refine bc ?_;go_wp2_with fail;go_meet;exact ⟨rfl,rfl⟩})
 obtain ⟨rfl,rfl⟩:=hcut;cases Bc with
 | true=>
  have hh:i1<=B1/\((fun x=>ltInt x d1[a]!) d1[i1]!)=true:=by have:=aa iP;rw [Bool.and_eq_true,decide_eq_true_iff] at this;exact this
  have hn:Hid (scanUp (fun x=>ltInt x d1[a]!) d1 B1 (i1+1)=I1):=by show _=_;rw [<-JB hh.1 hh.2];exact aa Lo
  have hle:=hh.1;go_wp2;go_roundw
  case rel=>exact ⟨i1+1,by go_num,by omega,by omega,oq.drew,hn,ao ri⟩
  case measure=>simp [intOf];omega
 | false=>
  have cF:i1=I1:=by rw [<-aa Lo,yD];have:=aa iP;rw [Bool.and_eq_false_iff,decide_eq_false_iff_not] at this;exact this
  subst cF;go_wp2_with fail
  go_loopw [11] (fun s wr=>∃ j2:Nat,s=.int .i64 j2/\i1<=j2+2/\j2<=B1/\Hid (HU wr aF off d1)/\Hid (scanDown (fun x=>!ltInt x d1[a]!) d1 i1 j2=J2)/\Hid (w.grownBy wr (some aF))) (fun s _=>(intOf s).toNat)
  case atStart=>exact ⟨B1,by first | rfl | go_num,by omega,by omega,oq,EJ2,(ao ri)⟩
  case round =>(
 obtain ⟨j2,rfl,qa2,qb2,py,hE2,Ln⟩:=hrel;obtain ⟨Bc,yt⟩:∃ B,(decide (i1<=j2)&&((fun x=>!ltInt x d1[a]!) d1[j2]!))=B:=⟨_,rfl⟩;have iP:=ae yt;go_wp2_with fail
 go_cut [60] (fun rv wc=>rv=.bool Bc/\wc=wr.drew)
 case first =>(
 by_cases jd:i1<=j2;{
 have sv:(i1:Int)<=(j2:Int):=by omega
 have hdd:=aa IT;obtain ⟨ci,-⟩:=aa py j2 (by omega);obtain ⟨ca,-⟩:=aa py a (by omega);obtain ⟨x,ex⟩:∃ x,d1[j2]! = x:=⟨_,rfl⟩;rw [ex] at ci;rw [aa HY1] at ca;have k1:(j2:Int)<(N:Int):=by omega
 have k2:(a:Int)<(N:Int):=by omega
 have k3:(0:Int)<=(j2:Int):=by omega
 obtain ⟨L,eL⟩:=aZ (ltInt x y);have EL:=ae eL;have eB:Bc=(!L):=by rw [<-aa iP];simp only [decide_eq_true jd,Bool.true_and,ex,aa HY1,eL]
 subst eB;have K0:=ae (ag ci ca);refine wp_region_noPanic ?_;refine wp_region_held_drew (S:=fun w'=>w'.cell? ⟨aF,off+j2,none⟩=some (.int .u64 x)/\w'.cell? ⟨aF,off+a,none⟩=some (.int .u64 y)) (by kernel_rfl) (by exact K0) (fun hS=>?_);refine fL 0 1 2 3 4 5 6 7 hS ?_;refine gD 8 9 10 11 hS ?_;refine bR 12 fun KK hK=>?_;refine bL (by rfl) 173 _ _ _ (by rfl) (.int .u64 x) (.int .u64 y) (by rfl) (by rfl) (fun _=>dL _ _) (dK x y _) ?_;rintro r' w2 ⟨rfl,rfl⟩;refine ⟨_,rfl,?_⟩;rw [aa EL];refine bM hK (by exact K0) fun hS=>?_;refine fq 13 14 hS ?_;refine wpAnyH_done (by kernel_rfl) ?_ _;refine bc ?_;go_wp2_with fail;go_meet;exact ⟨rfl,rfl⟩};{
 have sv:¬ (i1:Int)<=(j2:Int):=by omega
 have eB:Bc=false:=by rw [<-aa iP,decide_eq_false jd];rfl
 subst eB;refine wp_region_noPanic ?_;refine wp_region_held_drew (S:=fun w'=>True) (by kernel_rfl) trivial (fun hS=>?_);refine gD 0 1 2 3 hS ?_;refine sn 4 hS ?_;refine sn 5 hS ?_;refine sn 6 hS ?_;refine sn 7 hS ?_;refine sn 8 hS ?_;refine sn 9 hS ?_;refine sn 10 hS ?_;refine sn 11 hS ?_;refine sn 12 hS ?_;refine sn 13 hS ?_;refine tn 14 hS ?_;refine wpAnyH_done (by kernel_rfl) ?_ _;refine bc ?_;go_wp2_with fail;go_meet;exact ⟨rfl,rfl⟩})
 obtain ⟨rfl,rfl⟩:=hcut;cases Bc with
 | true=>
  have hh:i1<=j2/\((fun x=>!ltInt x d1[a]!) d1[j2]!)=true:=by have:=aa iP;rw [Bool.and_eq_true,decide_eq_true_iff] at this;exact this
  have hle:=hh.1;obtain ⟨m,em⟩:∃ m:Nat,(j2:Int)-1=(m:Int):=⟨j2-1,by omega⟩;have hn:Hid (scanDown (fun x=>!ltInt x d1[a]!) d1 i1 m=J2):=by show _=_;rw [<-aa hE2,Av (by omega) hh.1 hh.2,show j2-1=m by omega]
  go_wp2;go_roundw
  case rel=>exact ⟨m,by first | rfl | go_num,by omega,by omega,py.drew,hn,ao Ln⟩
  case measure=>simp [intOf];omega
 | false=>
  have cF:j2=J2:=by rw [<-aa hE2,sE (by omega)];have:=aa iP;rw [Bool.and_eq_false_iff,decide_eq_false_iff_not] at this;exact this
  subst cF;by_cases hgt:j2<i1;{
 have aE0:(j2:Int)<(i1:Int):=by omega
 have hr:=aa HR;rw [if_pos hgt] at hr;simp only [Prod.mk.injEq] at hr;obtain ⟨LU,er2,Vy⟩:=hr;replace LU:=LU.symm;replace Vy:=Vy.symm;subst LU er2 Vy;obtain ⟨c1,f1⟩:=aa py j2 (by have:=aa IT;omega);obtain ⟨c2,f2⟩:=aa py a (by have:=aa IT;omega);obtain ⟨p1,qg⟩:∃ u,d1[j2]! = u:=⟨_,rfl⟩;obtain ⟨p2,qe⟩:∃ u,d1[a]! = u:=⟨_,rfl⟩;rw [qg] at c1;rw [qe] at c2;obtain ⟨tt,ct⟩:=gv (q:=⟨aF,off+j2,none⟩) (u:=.int .u64 p2) c2;have nT:=ae (py.swap (i:=j2) (j:=a) (by have:=aa IT;omega) (by have:=aa IT;omega) qe.symm qg.symm);have DZ:=ae (aO (aO Ln (aD _ aF (off+j2) (.int .u64 p2))) (aD _ aF (off+a) (.int .u64 p1)));have l1:(j2:Int)<(N:Int):=by omega
 have l2:(a:Int)<(N:Int):=by omega
 have l3:(0:Int)<=(j2:Int):=by omega
 have l4:(0:Int)<=(a:Int):=by omega
 go_wp2_with fail
 go_region
 go_wp2
 go_ret2
 exact ⟨rfl,nT,ao (ao DZ)⟩};{
 have aE0:¬ (j2:Int)<(i1:Int):=by omega
 obtain ⟨⟨Q1,Q2⟩,eQ⟩:∃ Q,partLoop ltInt a (i1+1) (j2-1) (swp d1 i1 j2)=Q:=⟨_,rfl⟩;have hr:=aa HR;rw [if_neg hgt,eQ] at hr;have HRB:=ae hr;have EQ:=ae eQ;obtain ⟨c1,f1⟩:=aa py i1 (by have:=aa IT;omega);obtain ⟨c2,f2⟩:=aa py j2 (by have:=aa IT;omega);obtain ⟨p1,qg⟩:∃ u,d1[i1]! = u:=⟨_,rfl⟩;obtain ⟨p2,qe⟩:∃ u,d1[j2]! = u:=⟨_,rfl⟩;rw [qg] at c1;rw [qe] at c2;obtain ⟨tt,ct⟩:=gv (q:=⟨aF,off+i1,none⟩) (u:=.int .u64 p2) c2;have nT:=ae (py.swap (i:=i1) (j:=j2) (by have:=aa IT;omega) (by have:=aa IT;omega) qe.symm qg.symm);have DZ:=ae (aO (aO Ln (aD _ aF (off+i1) (.int .u64 p2))) (aD _ aF (off+j2) (.int .u64 p1)));have l1:(i1:Int)<(N:Int):=by omega
 have l2:(j2:Int)<(N:Int):=by omega
 have l3:(0:Int)<=(i1:Int):=by omega
 have l4:(0:Int)<=(j2:Int):=by omega
 obtain ⟨m2,em2⟩:∃ m:Nat,(j2:Int)-1=(m:Int):=⟨j2-1,by omega⟩;have aa0:j2-1=m2:=by omega
 rw [aa0] at EQ;have HD2:Hid ((swp d1 i1 j2).size=N):=by show _=_;rw [size_swp];exact aa IT
 go_wp2_with fail
 go_region
 go_wp2_with fail
 go_loopw [10,11] (fun Eo XH wr=>∃ (i j:Nat) (dk:Array Int),Eo=.int .i64 i/\XH=.int .i64 j/\a+1<=i/\i<=j+2/\j<=B1/\Hid (dk.size=N)/\Hid (HU wr aF off dk)/\Hid (partLoop ltInt a i j dk=(Q1,Q2))/\Hid (w.grownBy wr (some aF))) (fun Eo XH _=>(intOf XH+2-intOf Eo).toNat)
 case atStart=>exact ⟨i1+1,m2,_,by first | rfl | go_num,by first | rfl | go_num,by omega,by omega,by omega,HD2,nT,EQ,ao (ao DZ)⟩
 case round =>(
 obtain ⟨i,j,dk,rfl,rfl,z1,z2,z3,wv,vG,Zp,Qq⟩:=hrel;obtain ⟨y,ey⟩:∃ y,dk[a]! = y:=⟨_,rfl⟩;have Ri:=ae ey;obtain ⟨I4,eI4⟩:∃ I,scanUp (fun x=>ltInt x dk[a]!) dk j i=I:=⟨_,rfl⟩;obtain ⟨J5,eJ5⟩:∃ J,scanDown (fun x=>!ltInt x dk[a]!) dk I4 j=J:=⟨_,rfl⟩;have EI4:=ae eI4;have EJ5:=ae eJ5;have Nn:=EI4;have Nl:=EJ5;go_wp2_with fail;obtain ⟨Y,eY⟩:=ax wr;subst eY
 go_loopw [10] (fun s wr=>∃ i4:Nat,s=.int .i64 i4/\i<=i4/\i4<=j+2/\Hid (HU wr aF off dk)/\Hid (scanUp (fun x=>ltInt x dk[a]!) dk j i4=I4)/\Hid (w.grownBy wr (some aF))) (fun s _=>j+1-(intOf s).toNat)
 case atStart=>exact ⟨i,by first | rfl | go_num,by omega,by omega,vG,EI4,Qq⟩
 case round =>(
 obtain ⟨i4,rfl,qa4,qb4,xq,Vj,ZH⟩:=hrel;obtain ⟨Bc,yt⟩:∃ B,(decide (i4<=j)&&((fun x=>ltInt x dk[a]!) dk[i4]!))=B:=⟨_,rfl⟩;have iP:=ae yt;go_wp2_with fail
 go_cut [112] (fun rv wc=>rv=.bool Bc/\wc=wr.drew)
 case first =>(
 by_cases jd:i4<=j;{
 have sv:(i4:Int)<=(j:Int):=by omega
 have hdd:=aa wv;obtain ⟨ci,-⟩:=aa xq i4 (by omega);obtain ⟨ca,-⟩:=aa xq a (by omega);obtain ⟨x,ex⟩:∃ x,dk[i4]! = x:=⟨_,rfl⟩;rw [ex] at ci;rw [aa Ri] at ca;have k1:(i4:Int)<(N:Int):=by omega
 have k2:(a:Int)<(N:Int):=by omega
 have k3:(0:Int)<=(i4:Int):=by omega
 obtain ⟨L,eL⟩:=aZ (ltInt x y);have EL:=ae eL;have eB:Bc=L:=by rw [<-aa iP];simp only [decide_eq_true jd,Bool.true_and,ex,aa Ri,eL]
 subst eB;have K0:=ae (ag ci ca);refine wp_region_noPanic ?_;refine wp_region_held_drew (S:=fun w'=>w'.cell? ⟨aF,off+i4,none⟩=some (.int .u64 x)/\w'.cell? ⟨aF,off+a,none⟩=some (.int .u64 y)) (by kernel_rfl) (by exact K0) (fun hS=>?_);refine fL 0 1 2 3 4 5 6 7 hS ?_;refine gD 8 9 10 11 hS ?_;refine bR 12 fun KK hK=>?_;refine bL (by rfl) 173 _ _ _ (by rfl) (.int .u64 x) (.int .u64 y) (by rfl) (by rfl) (fun _=>dL _ _) (dK x y _) ?_;rintro r' w2 ⟨rfl,rfl⟩;refine ⟨_,rfl,?_⟩;rw [aa EL];refine bM hK (by exact K0) fun hS=>?_;refine tn 13 hS ?_;refine wpAnyH_done (by kernel_rfl) ?_ _;refine bc ?_;go_wp2_with fail;go_meet;exact ⟨rfl,rfl⟩};{
 have sv:¬ (i4:Int)<=(j:Int):=by omega
 have eB:Bc=false:=by rw [<-aa iP,decide_eq_false jd];rfl
 subst eB;refine wp_region_noPanic ?_;refine wp_region_held_drew (S:=fun w'=>True) (by kernel_rfl) trivial (fun hS=>?_);refine gD 0 1 2 3 hS ?_;refine sn 4 hS ?_;refine sn 5 hS ?_;refine sn 6 hS ?_;refine sn 7 hS ?_;refine sn 8 hS ?_;refine sn 9 hS ?_;refine sn 10 hS ?_;refine sn 11 hS ?_;refine sn 12 hS ?_;refine tn 13 hS ?_;refine wpAnyH_done (by kernel_rfl) ?_ _;refine bc ?_;go_wp2_with fail;go_meet;exact ⟨rfl,rfl⟩})
 obtain ⟨rfl,rfl⟩:=hcut;cases Bc with
 | true=>
  have hh:i4<=j/\((fun x=>ltInt x dk[a]!) dk[i4]!)=true:=by have:=aa iP;rw [Bool.and_eq_true,decide_eq_true_iff] at this;exact this
  have hn:Hid (scanUp (fun x=>ltInt x dk[a]!) dk j (i4+1)=I4):=by show _=_;rw [<-JB hh.1 hh.2];exact aa Vj
  have hle:=hh.1;go_wp2;go_roundw
  case rel=>exact ⟨i4+1,by go_num,by omega,by omega,xq.drew,hn,ao ZH⟩
  case measure=>simp [intOf];omega
 | false=>
  have cF:i4=I4:=by rw [<-aa Vj,yD];have:=aa iP;rw [Bool.and_eq_false_iff,decide_eq_false_iff_not] at this;exact this
  subst cF;go_wp2_with fail
  go_loopw [11] (fun s wr=>∃ j5:Nat,s=.int .i64 j5/\i4<=j5+2/\j5<=j/\Hid (HU wr aF off dk)/\Hid (scanDown (fun x=>!ltInt x dk[a]!) dk i4 j5=J5)/\Hid (w.grownBy wr (some aF))) (fun s _=>(intOf s).toNat)
  case atStart=>exact ⟨j,by first | rfl | go_num,by omega,by omega,xq,EJ5,(ao ZH)⟩
  case round =>(
 obtain ⟨j5,rfl,qa5,qb5,vF,Vi,Vh⟩:=hrel;obtain ⟨Bc,yt⟩:∃ B,(decide (i4<=j5)&&((fun x=>!ltInt x dk[a]!) dk[j5]!))=B:=⟨_,rfl⟩;have iP:=ae yt;go_wp2_with fail
 go_cut [129] (fun rv wc=>rv=.bool Bc/\wc=wr.drew)
 case first =>(
 by_cases jd:i4<=j5;{
 have sv:(i4:Int)<=(j5:Int):=by omega
 have hdd:=aa wv;obtain ⟨ci,-⟩:=aa vF j5 (by omega);obtain ⟨ca,-⟩:=aa vF a (by omega);obtain ⟨x,ex⟩:∃ x,dk[j5]! = x:=⟨_,rfl⟩;rw [ex] at ci;rw [aa Ri] at ca;have k1:(j5:Int)<(N:Int):=by omega
 have k2:(a:Int)<(N:Int):=by omega
 have k3:(0:Int)<=(j5:Int):=by omega
 obtain ⟨L,eL⟩:=aZ (ltInt x y);have EL:=ae eL;have eB:Bc=(!L):=by rw [<-aa iP];simp only [decide_eq_true jd,Bool.true_and,ex,aa Ri,eL]
 subst eB;have K0:=ae (ag ci ca);refine wp_region_noPanic ?_;refine wp_region_held_drew (S:=fun w'=>w'.cell? ⟨aF,off+j5,none⟩=some (.int .u64 x)/\w'.cell? ⟨aF,off+a,none⟩=some (.int .u64 y)) (by kernel_rfl) (by exact K0) (fun hS=>?_);refine fL 0 1 2 3 4 5 6 7 hS ?_;refine gD 8 9 10 11 hS ?_;refine bR 12 fun KK hK=>?_;refine bL (by rfl) 173 _ _ _ (by rfl) (.int .u64 x) (.int .u64 y) (by rfl) (by rfl) (fun _=>dL _ _) (dK x y _) ?_;rintro r' w2 ⟨rfl,rfl⟩;refine ⟨_,rfl,?_⟩;rw [aa EL];refine bM hK (by exact K0) fun hS=>?_;refine fq 13 14 hS ?_;refine wpAnyH_done (by kernel_rfl) ?_ _;refine bc ?_;go_wp2_with fail;go_meet;exact ⟨rfl,rfl⟩};{
 have sv:¬ (i4:Int)<=(j5:Int):=by omega
 have eB:Bc=false:=by rw [<-aa iP,decide_eq_false jd];rfl
 subst eB;refine wp_region_noPanic ?_;refine wp_region_held_drew (S:=fun w'=>True) (by kernel_rfl) trivial (fun hS=>?_);refine gD 0 1 2 3 hS ?_;refine sn 4 hS ?_;refine sn 5 hS ?_;refine sn 6 hS ?_;refine sn 7 hS ?_;refine sn 8 hS ?_;refine sn 9 hS ?_;refine sn 10 hS ?_;refine sn 11 hS ?_;refine sn 12 hS ?_;refine sn 13 hS ?_;refine tn 14 hS ?_;refine wpAnyH_done (by kernel_rfl) ?_ _;refine bc ?_;go_wp2_with fail;go_meet;exact ⟨rfl,rfl⟩})
 obtain ⟨rfl,rfl⟩:=hcut;cases Bc with
 | true=>
  have hh:i4<=j5/\((fun x=>!ltInt x dk[a]!) dk[j5]!)=true:=by have:=aa iP;rw [Bool.and_eq_true,decide_eq_true_iff] at this;exact this
  have hle:=hh.1;obtain ⟨m,em⟩:∃ m:Nat,(j5:Int)-1=(m:Int):=⟨j5-1,by omega⟩;have hn:Hid (scanDown (fun x=>!ltInt x dk[a]!) dk i4 m=J5):=by show _=_;rw [<-aa Vi,Av (by omega) hh.1 hh.2,show j5-1=m by omega]
  go_wp2;go_roundw
  case rel=>exact ⟨m,by first | rfl | go_num,by omega,by omega,vF.drew,hn,ao Vh⟩
  case measure=>simp [intOf];omega
 | false=>
  have cF:j5=J5:=by rw [<-aa Vi,sE (by omega)];have:=aa iP;rw [Bool.and_eq_false_iff,decide_eq_false_iff_not] at this;exact this
  subst cF;by_cases oB:j5<i4;{
 have U0:(j5:Int)<(i4:Int):=by omega
 have hq:=aa Zp;rw [xd (aa Nn) (aa Nl) oB] at hq;simp only [Prod.mk.injEq] at hq;obtain ⟨QC,QA⟩:=hq;subst QC QA;have hr:=aa HRB;simp only [Prod.mk.injEq] at hr;obtain ⟨LU,er2,Vy⟩:=hr;replace LU:=LU.symm;replace Vy:=Vy.symm;subst LU er2 Vy;obtain ⟨c1,f1⟩:=aa vF j5 (by have:=aa wv;omega);obtain ⟨c2,f2⟩:=aa vF a (by have:=aa wv;omega);obtain ⟨p1,qg⟩:∃ u,dk[j5]! = u:=⟨_,rfl⟩;obtain ⟨p2,qe⟩:∃ u,dk[a]! = u:=⟨_,rfl⟩;rw [qg] at c1;rw [qe] at c2;obtain ⟨tt,ct⟩:=gv (q:=⟨aF,off+j5,none⟩) (u:=.int .u64 p2) c2;have nT:=ae (vF.swap (i:=j5) (j:=a) (by have:=aa wv;omega) (by have:=aa wv;omega) qe.symm qg.symm);have DZ:=ae (aO (aO Vh (aD _ aF (off+j5) (.int .u64 p2))) (aD _ aF (off+a) (.int .u64 p1)));have l1:(j5:Int)<(N:Int):=by omega
 have l2:(a:Int)<(N:Int):=by omega
 have l3:(0:Int)<=(j5:Int):=by omega
 have l4:(0:Int)<=(a:Int):=by omega
 go_wp2_with fail
 go_region
 go_wp2
 go_ret2
 exact ⟨rfl,nT,ao (ao DZ)⟩};{
 have U0:¬ (j5:Int)<(i4:Int):=by omega
 have hq:=aa Zp;rw [BQ (aa Nn) (aa Nl) oB (by omega) (by omega) (by omega)] at hq;have Wp:=ae hq;obtain ⟨c1,f1⟩:=aa vF i4 (by have:=aa wv;omega);obtain ⟨c2,f2⟩:=aa vF j5 (by have:=aa wv;omega);obtain ⟨p1,qg⟩:∃ u,dk[i4]! = u:=⟨_,rfl⟩;obtain ⟨p2,qe⟩:∃ u,dk[j5]! = u:=⟨_,rfl⟩;rw [qg] at c1;rw [qe] at c2;obtain ⟨tt,ct⟩:=gv (q:=⟨aF,off+i4,none⟩) (u:=.int .u64 p2) c2;have nT:=ae (vF.swap (i:=i4) (j:=j5) (by have:=aa wv;omega) (by have:=aa wv;omega) qe.symm qg.symm);have DZ:=ae (aO (aO Vh (aD _ aF (off+i4) (.int .u64 p2))) (aD _ aF (off+j5) (.int .u64 p1)));have l1:(i4:Int)<(N:Int):=by omega
 have l2:(j5:Int)<(N:Int):=by omega
 have l3:(0:Int)<=(i4:Int):=by omega
 have l4:(0:Int)<=(j5:Int):=by omega
 obtain ⟨m5,em5⟩:∃ m:Nat,(j5:Int)-1=(m:Int):=⟨j5-1,by omega⟩;have L8:j5-1=m5:=by omega
 rw [L8] at Wp;have Wx:Hid ((swp dk i4 j5).size=N):=by show _=_;rw [size_swp];exact aa wv
 go_wp2_with fail
 go_region
 go_wp2;go_roundw
 case rel=>exact ⟨i4+1,m5,_,by first | rfl | go_num,by first | rfl | go_num,by omega,by omega,by omega,Wx,nT,Wp,ao (ao DZ)⟩
 case measure=>simp [intOf];omega})))}))
end Q
namespace Q
open Go.Sort Go.RowKit Go.Proofs.Tryz
theorem tj (h1:scanUp (fun x=>!ltInt d[a]! x) d j i=i2) (h2:scanDown (fun x=>ltInt d[a]! x) d i2 j=j2) (h:j2<i2):partEqLoop ltInt a i j d=(i2,d):=by
 rw [partEqLoop];simp only [h1,h2];rw [if_pos h]
theorem xe (h1:scanUp (fun x=>!ltInt d[a]! x) d j i=i2) (h2:scanDown (fun x=>ltInt d[a]! x) d i2 j=j2) (h:¬ j2<i2) (hi:i<=i2) (hj:j2<=j) (hi0:0<i2):partEqLoop ltInt a i j d=partEqLoop ltInt a (i2+1) (j2-1) (swp d i2 j2):=by
 rw [partEqLoop];simp only [h1,h2];rw [if_neg h,dif_pos (by omega)]
theorem Es (aF off cap N a b piv:Nat) (d:Array Int) (hN:Hid (d.size=N)) (w:World) (h:HU w aF off d) (W6:a<=piv) (Yy:piv<b) (hb:b<=N) (fH:N<=1048576) :
  Calls prog 174 #[.slice (some ⟨aF,off,none⟩) N cap,.int .i64 a,.int .i64 b,.int .i64 piv] w fun e w'=>e=.returned (.int .i64 (partitionEqual ltInt d a b piv).1)/\HU w' aF off (partitionEqual ltInt d a b piv).2/\w.grownBy w' (some aF):=by
 obtain ⟨⟨Q1,Q2⟩,eR⟩:∃ R,partitionEqual ltInt d a b piv=R:=⟨_,rfl⟩;rw [eR];have oC:=aa hN;obtain ⟨B1,eB1⟩:∃ x:Nat,(b:Int)-1=(x:Int):=⟨b-1,by omega⟩;have SP:b-1=B1:=by omega
 have wB:IntKind.i64.wrap (B1:Int)=(B1:Int):=IntWalk.i64_in _ (by omega);obtain ⟨ca,fa⟩:=h a (by omega);obtain ⟨cp,fp⟩:=h piv (by omega);obtain ⟨u,eu⟩:∃ u,d[a]! = u:=⟨_,rfl⟩;obtain ⟨v,ev⟩:∃ v,d[piv]! = v:=⟨_,rfl⟩;have Od:=ae (h.swap (i:=a) (j:=piv) (by omega) (by omega) ev.symm eu.symm);rw [eu] at ca;rw [ev] at cp;obtain ⟨tt,ct⟩:=gv (q:=⟨aF,off+a,none⟩) (u:=.int .u64 v) cp;obtain ⟨d1,QG⟩:=aZ (swp d a piv);rw [QG] at Od;have IT:Hid (d1.size=N):=by show _=_;rw [<-QG,size_swp];exact oC
 have HG:=ae (aO (aD w aF (off+a) (.int .u64 v)) (aD _ aF (off+piv) (.int .u64 u)));have EQ:Hid (partEqLoop ltInt a (a+1) B1 d1=(Q1,Q2)):=by show _=_;rw [<-eR,partitionEqual,QG,SP]
 have kk1:(a:Int)<(N:Int):=by omega
 have kk2:(piv:Int)<(N:Int):=by omega
 go_enter func174,ntmps174;go_wp2_with fail
 go_region
 go_wp2_with fail
 go_loopw [9,10] (fun s9 Eo wr=>∃ (i j:Nat) (dk:Array Int),s9=.int .i64 i/\Eo=.int .i64 j/\a+1<=i/\i<=j+2/\j<=B1/\Hid (dk.size=N)/\Hid (HU wr aF off dk)/\Hid (partEqLoop ltInt a i j dk=(Q1,Q2))/\Hid (w.grownBy wr (some aF))) (fun s9 Eo _=>(intOf Eo+2-intOf s9).toNat)
 case atStart=>exact ⟨a+1,B1,_,by first | rfl | go_num,by first | rfl | go_num,by omega,by omega,by omega,IT,Od,EQ,ao HG⟩
 case round =>(
 obtain ⟨i,j,dk,rfl,rfl,z1,z2,z3,wv,vG,Zp,Qq⟩:=hrel;obtain ⟨y,ey⟩:∃ y,dk[a]! = y:=⟨_,rfl⟩;have Ri:=ae ey;obtain ⟨I4,eI4⟩:∃ I,scanUp (fun x=>!ltInt dk[a]! x) dk j i=I:=⟨_,rfl⟩;obtain ⟨J5,eJ5⟩:∃ J,scanDown (fun x=>ltInt dk[a]! x) dk I4 j=J:=⟨_,rfl⟩;have EI4:=ae eI4;have EJ5:=ae eJ5;have Nn:=EI4;have Nl:=EJ5;go_wp2_with fail;obtain ⟨Y,eY⟩:=ax wr;subst eY
 go_loopw [9] (fun s wr=>∃ i4:Nat,s=.int .i64 i4/\i<=i4/\i4<=j+2/\Hid (HU wr aF off dk)/\Hid (scanUp (fun x=>!ltInt dk[a]! x) dk j i4=I4)/\Hid (w.grownBy wr (some aF))) (fun s _=>j+1-(intOf s).toNat)
 case atStart=>exact ⟨i,by first | rfl | go_num,by omega,by omega,vG,EI4,Qq⟩
 case round =>(
 obtain ⟨i4,rfl,qa4,qb4,xq,Vj,ZH⟩:=hrel;obtain ⟨Bc,yt⟩:∃ B,(decide (i4<=j)&&((fun x=>!ltInt dk[a]! x) dk[i4]!))=B:=⟨_,rfl⟩;have iP:=ae yt;go_wp2_with fail
 go_cut [43] (fun rv wc=>rv=.bool Bc/\wc=wr.drew)
 case first =>(
 by_cases jd:i4<=j;{
 have sv:(i4:Int)<=(j:Int):=by omega
 have hdd:=aa wv;obtain ⟨ci,-⟩:=aa xq i4 (by omega);obtain ⟨ca,-⟩:=aa xq a (by omega);obtain ⟨x,ex⟩:∃ x,dk[i4]! = x:=⟨_,rfl⟩;rw [ex] at ci;rw [aa Ri] at ca;have k1:(i4:Int)<(N:Int):=by omega
 have k2:(a:Int)<(N:Int):=by omega
 have k3:(0:Int)<=(i4:Int):=by omega
 obtain ⟨L,eL⟩:=aZ (ltInt y x);have EL:=ae eL;have eB:Bc=(!L):=by rw [<-aa iP];simp only [decide_eq_true jd,Bool.true_and,ex,aa Ri,eL]
 subst eB;have K0:=ae (ag ci ca);refine wp_region_noPanic ?_;refine wp_region_held_drew (S:=fun w'=>w'.cell? ⟨aF,off+i4,none⟩=some (.int .u64 x)/\w'.cell? ⟨aF,off+a,none⟩=some (.int .u64 y)) (by kernel_rfl) (by exact K0) (fun hS=>?_);refine fL 0 1 2 3 4 5 6 7 hS ?_;refine gD 8 9 10 11 hS ?_;refine bR 12 fun KK hK=>?_;refine bL (by rfl) 173 _ _ _ (by rfl) (.int .u64 y) (.int .u64 x) (by rfl) (by rfl) (fun _=>dL _ _) (dK y x _) ?_;rintro r' w2 ⟨rfl,rfl⟩;refine ⟨_,rfl,?_⟩;rw [aa EL];refine bM hK (by exact K0) fun hS=>?_;refine fq 13 14 hS ?_;refine wpAnyH_done (by kernel_rfl) ?_ _;refine bc ?_;go_wp2_with fail;go_meet;exact ⟨rfl,rfl⟩};{
 have sv:¬ (i4:Int)<=(j:Int):=by omega
 have eB:Bc=false:=by rw [<-aa iP,decide_eq_false jd];rfl
 subst eB;refine wp_region_noPanic ?_;refine wp_region_held_drew (S:=fun w'=>True) (by kernel_rfl) trivial (fun hS=>?_);refine gD 0 1 2 3 hS ?_;refine sn 4 hS ?_;refine sn 5 hS ?_;refine sn 6 hS ?_;refine sn 7 hS ?_;refine sn 8 hS ?_;refine sn 9 hS ?_;refine sn 10 hS ?_;refine sn 11 hS ?_;refine sn 12 hS ?_;refine sn 13 hS ?_;refine tn 14 hS ?_;refine wpAnyH_done (by kernel_rfl) ?_ _;refine bc ?_;go_wp2_with fail;go_meet;exact ⟨rfl,rfl⟩})
 obtain ⟨rfl,rfl⟩:=hcut;cases Bc with
 | true=>
  have hh:i4<=j/\((fun x=>!ltInt dk[a]! x) dk[i4]!)=true:=by have:=aa iP;rw [Bool.and_eq_true,decide_eq_true_iff] at this;exact this
  have hn:Hid (scanUp (fun x=>!ltInt dk[a]! x) dk j (i4+1)=I4):=by show _=_;rw [<-JB hh.1 hh.2];exact aa Vj
  have hle:=hh.1;go_wp2;go_roundw
  case rel=>exact ⟨i4+1,by go_num,by omega,by omega,xq.drew,hn,ao ZH⟩
  case measure=>simp [intOf];omega
 | false=>
  have cF:i4=I4:=by rw [<-aa Vj,yD];have:=aa iP;rw [Bool.and_eq_false_iff,decide_eq_false_iff_not] at this;exact this
  subst cF;go_wp2_with fail
  go_loopw [10] (fun s wr=>∃ j5:Nat,s=.int .i64 j5/\i4<=j5+2/\j5<=j/\Hid (HU wr aF off dk)/\Hid (scanDown (fun x=>ltInt dk[a]! x) dk i4 j5=J5)/\Hid (w.grownBy wr (some aF))) (fun s _=>(intOf s).toNat)
  case atStart=>exact ⟨j,by first | rfl | go_num,by omega,by omega,xq,EJ5,(ao ZH)⟩
  case round =>(
 obtain ⟨j5,rfl,qa5,qb5,vF,Vi,Vh⟩:=hrel;obtain ⟨Bc,yt⟩:∃ B,(decide (i4<=j5)&&((fun x=>ltInt dk[a]! x) dk[j5]!))=B:=⟨_,rfl⟩;have iP:=ae yt;go_wp2_with fail
 go_cut [59] (fun rv wc=>rv=.bool Bc/\wc=wr.drew)
 case first =>(
 by_cases jd:i4<=j5;{
 have sv:(i4:Int)<=(j5:Int):=by omega
 have hdd:=aa wv;obtain ⟨ci,-⟩:=aa vF j5 (by omega);obtain ⟨ca,-⟩:=aa vF a (by omega);obtain ⟨x,ex⟩:∃ x,dk[j5]! = x:=⟨_,rfl⟩;rw [ex] at ci;rw [aa Ri] at ca;have k1:(j5:Int)<(N:Int):=by omega
 have k2:(a:Int)<(N:Int):=by omega
 have k3:(0:Int)<=(j5:Int):=by omega
 obtain ⟨L,eL⟩:=aZ (ltInt y x);have EL:=ae eL;have eB:Bc=L:=by rw [<-aa iP];simp only [decide_eq_true jd,Bool.true_and,ex,aa Ri,eL]
 subst eB;have K0:=ae (ag ci ca);refine wp_region_noPanic ?_;refine wp_region_held_drew (S:=fun w'=>w'.cell? ⟨aF,off+j5,none⟩=some (.int .u64 x)/\w'.cell? ⟨aF,off+a,none⟩=some (.int .u64 y)) (by kernel_rfl) (by exact K0) (fun hS=>?_);refine fL 0 1 2 3 4 5 6 7 hS ?_;refine gD 8 9 10 11 hS ?_;refine bR 12 fun KK hK=>?_;refine bL (by rfl) 173 _ _ _ (by rfl) (.int .u64 y) (.int .u64 x) (by rfl) (by rfl) (fun _=>dL _ _) (dK y x _) ?_;rintro r' w2 ⟨rfl,rfl⟩;refine ⟨_,rfl,?_⟩;rw [aa EL];refine bM hK (by exact K0) fun hS=>?_;refine tn 13 hS ?_;refine wpAnyH_done (by kernel_rfl) ?_ _;refine bc ?_;go_wp2_with fail;go_meet;exact ⟨rfl,rfl⟩};{
 have sv:¬ (i4:Int)<=(j5:Int):=by omega
 have eB:Bc=false:=by rw [<-aa iP,decide_eq_false jd];rfl
 subst eB;refine wp_region_noPanic ?_;refine wp_region_held_drew (S:=fun w'=>True) (by kernel_rfl) trivial (fun hS=>?_);refine gD 0 1 2 3 hS ?_;refine sn 4 hS ?_;refine sn 5 hS ?_;refine sn 6 hS ?_;refine sn 7 hS ?_;refine sn 8 hS ?_;refine sn 9 hS ?_;refine sn 10 hS ?_;refine sn 11 hS ?_;refine sn 12 hS ?_;refine tn 13 hS ?_;refine wpAnyH_done (by kernel_rfl) ?_ _;refine bc ?_;go_wp2_with fail;go_meet;exact ⟨rfl,rfl⟩})
 obtain ⟨rfl,rfl⟩:=hcut;cases Bc with
 | true=>
  have hh:i4<=j5/\((fun x=>ltInt dk[a]! x) dk[j5]!)=true:=by have:=aa iP;rw [Bool.and_eq_true,decide_eq_true_iff] at this;exact this
  have hle:=hh.1;obtain ⟨m,em⟩:∃ m:Nat,(j5:Int)-1=(m:Int):=⟨j5-1,by omega⟩;have hn:Hid (scanDown (fun x=>ltInt dk[a]! x) dk i4 m=J5):=by show _=_;rw [<-aa Vi,Av (by omega) hh.1 hh.2,show j5-1=m by omega]
  go_wp2;go_roundw
  case rel=>exact ⟨m,by first | rfl | go_num,by omega,by omega,vF.drew,hn,ao Vh⟩
  case measure=>simp [intOf];omega
 | false=>
  have cF:j5=J5:=by rw [<-aa Vi,sE (by omega)];have:=aa iP;rw [Bool.and_eq_false_iff,decide_eq_false_iff_not] at this;exact this
  subst cF;by_cases oB:j5<i4;{
 have U0:(j5:Int)<(i4:Int):=by omega
 have hq:=aa Zp;rw [tj (aa Nn) (aa Nl) oB] at hq;simp only [Prod.mk.injEq] at hq;obtain ⟨QC,QA⟩:=hq;subst QC QA;go_wp2;go_ret;exact ⟨rfl,vF,ao Vh⟩};{
 have U0:¬ (j5:Int)<(i4:Int):=by omega
 have hq:=aa Zp;rw [xe (aa Nn) (aa Nl) oB (by omega) (by omega) (by omega)] at hq;have Wp:=ae hq;obtain ⟨c1,f1⟩:=aa vF i4 (by have:=aa wv;omega);obtain ⟨c2,f2⟩:=aa vF j5 (by have:=aa wv;omega);obtain ⟨p1,qg⟩:∃ u,dk[i4]! = u:=⟨_,rfl⟩;obtain ⟨p2,qe⟩:∃ u,dk[j5]! = u:=⟨_,rfl⟩;rw [qg] at c1;rw [qe] at c2;obtain ⟨tt,ct⟩:=gv (q:=⟨aF,off+i4,none⟩) (u:=.int .u64 p2) c2;have nT:=ae (vF.swap (i:=i4) (j:=j5) (by have:=aa wv;omega) (by have:=aa wv;omega) qe.symm qg.symm);have DZ:=ae (aO (aO Vh (aD _ aF (off+i4) (.int .u64 p2))) (aD _ aF (off+j5) (.int .u64 p1)));have l1:(i4:Int)<(N:Int):=by omega
 have l2:(j5:Int)<(N:Int):=by omega
 have l3:(0:Int)<=(i4:Int):=by omega
 have l4:(0:Int)<=(j5:Int):=by omega
 obtain ⟨m5,em5⟩:∃ m:Nat,(j5:Int)-1=(m:Int):=⟨j5-1,by omega⟩;have L8:j5-1=m5:=by omega
 rw [L8] at Wp;have Wx:Hid ((swp dk i4 j5).size=N):=by show _=_;rw [size_swp];exact aa wv
 go_wp2_with fail
 go_region
 go_wp2;go_roundw
 case rel=>exact ⟨i4+1,m5,_,by first | rfl | go_num,by first | rfl | go_num,by omega,by omega,by omega,Wx,nT,Wp,ao (ao DZ)⟩
 case measure=>simp [intOf];omega})))
end Q
namespace Q
open Go.Sort Go.RowKit Go.Proofs.Tryz
structure I0 (w:World) (g:Nat) (S:Int):Prop where
 cell:w.cell? ⟨g,0,none⟩=some (.int .i64 S)
 fr:w.frozen? ⟨g,0,none⟩=false
theorem I0.drew (h:I0 w g S):I0 w.drew g S:=⟨h.cell,h.fr⟩
theorem I0.set {T:Int} (h:I0 w g S):I0 (w.setCell ⟨g,0,none⟩ (.int .i64 T)) g T:=
 ⟨World.cell?_setCell_same _ _ _ h.cell,by rw [World.frozen?_setCell];exact h.fr⟩
theorem HU.aside {o:Nat} {v:Value} (h:HU w aF off d) (bm:g≠aF):HU (w.setCell ⟨g,o,none⟩ v) aF off d:=
 h.kept (dr _ _ _ _ (fun e=>bm (by simpa using e.symm)))
theorem pK (aF off cap N g x y:Nat) (S:Int) (d:Array Int) (hN:Hid (d.size=N)) (w:World) (h:HU w aF off d) (hx:x<N) (hy:y<N) (fH:N<=1048576) (hg:g≠aF) (hc:I0 w g S) (hS:0<=S) (Ib:S<=1000) :
  Calls prog 207 #[.slice (some ⟨aF,off,none⟩) N cap,.int .i64 x,.int .i64 y,.pointer (some ⟨g,0,none⟩)] w fun e w'=>
   ∃ (x' y':Nat) (S':Int),e=.returned (.tuple #[.int .i64 x',.int .i64 y'])/\((x'=x/\y'=y)\/(x'=y/\y'=x))/\S<=S'/\S'<=S+1/\I0 w' g S'/\HU w' aF off d/\w.grownBy w' (some g):=by
 have oC:=aa hN;obtain ⟨cx,-⟩:=h x (by omega);obtain ⟨cy,-⟩:=h y (by omega);obtain ⟨u,eu⟩:∃ u,d[x]! = u:=⟨_,rfl⟩;obtain ⟨v,ev⟩:∃ v,d[y]! = v:=⟨_,rfl⟩;rw [eu] at cx;rw [ev] at cy;have k1:(x:Int)<(N:Int):=by omega
 have k2:(y:Int)<(N:Int):=by omega
 obtain ⟨B,eB⟩:=aZ (ltInt v u);have EB:=ae eB;have K0:=ae (ag cx cy);have H0:=ae h;have C0:=ae hc;have jA:=hc.cell;have rQ:=hc.fr;go_enter func207,ntmps207;go_wp2_with fail
 go_cut [18] (fun rv wc=>rv=.bool B/\wc=w.drew)
 case first =>(
 refine wp_region_noPanic ?_;refine wp_region_held_drew (S:=fun w'=>w'.cell? ⟨aF,off+x,none⟩=some (.int .u64 u)/\w'.cell? ⟨aF,off+y,none⟩=some (.int .u64 v)) (by kernel_rfl) (by exact K0) (fun hS=>?_);refine fL 0 1 2 3 4 5 6 7 hS ?_;refine ry [8] ?_;refine cn (fun KK hK=>?_) ?_;{refine bL (by rfl) 173 _ _ _ (by rfl) (.int .u64 v) (.int .u64 u) (by rfl) (by rfl) (fun _=>dL _ _) (dK v u _) ?_;rintro r' w2 ⟨rfl,rfl⟩;refine ⟨_,rfl,?_⟩;rw [aa EB];refine bM hK (by exact K0) fun hS=>?_;refine wpAnyH_done (by kernel_rfl) ?_ _;refine bc ?_;go_wp2_with fail;go_meet;exact ⟨rfl,rfl⟩};exact AllReadyH.nil)
 obtain ⟨rfl,rfl⟩:=hcut;cases B with
 | true=>
  go_wp2
  go_ret2
  exact ⟨y,x,S+1,rfl,.inr ⟨rfl,rfl⟩,by omega,by omega,C0.drew.set,(H0.drew).aside hg,aO (ao (kx w _)) (aD _ g 0 _)⟩
 | false=>
  go_wp2
  go_ret2
  exact ⟨x,y,S,rfl,.inl ⟨rfl,rfl⟩,by omega,by omega,C0.drew,H0.drew,ao (kx w _)⟩
theorem pM (aF off cap N g x y z:Nat) (S:Int) (d:Array Int) (hN:Hid (d.size=N)) (w:World) (h:HU w aF off d) (hx:x<N) (hy:y<N) (hz:z<N) (fH:N<=1048576) (hg:g≠aF) (hc:I0 w g S) (hS:0<=S) (Ib:S<=900) :
  Calls prog 194 #[.slice (some ⟨aF,off,none⟩) N cap,.int .i64 x,.int .i64 y,.int .i64 z,.pointer (some ⟨g,0,none⟩)] w fun e w'=>
   ∃ (m:Nat) (S':Int),e=.returned (.int .i64 m)/\(m=x\/m=y\/m=z)/\S<=S'/\S'<=S+3/\I0 w' g S'/\HU w' aF off d/\w.grownBy w' (some g):=by
 have H0:=ae h;have C0:=ae hc;go_enter func194,ntmps194;go_wp2_with fail;refine (pK aF off cap N g x y S d hN w H0 hx hy fH hg C0 hS (by omega)).mono ?_;rintro e w1 ⟨x1,y1,S1,rfl,Yj,s1,s2,jg,oq,dS⟩;have C1:=ae jg;have H1:=ae oq;have G1:=ae dS;have XY:=ae Yj;have x1N:x1<N:=by omega
 have y1N:y1<N:=by omega
 go_wp2_with fail;refine (pK aF off cap N g y1 z S1 d hN w1 H1 y1N hz fH hg C1 (by omega) (by omega)).mono ?_;rintro e w2 ⟨y2,z2,S2,rfl,hyz,s3,s4,jf,py,dY⟩;have C2:=ae jf;have H2:=ae py;have G2:=ae dY;have YZ:=ae hyz;have y2N:y2<N:=by omega
 go_wp2_with fail;refine (pK aF off cap N g x1 y2 S2 d hN w2 H2 x1N y2N fH hg C2 (by omega) (by omega)).mono ?_;rintro e w3 ⟨x3,y3,S3,rfl,Yi,s5,s6,Ag,vG,pf⟩;have C3:=ae Ag;have H3:=ae vG;have G3:=ae pf;have XY3:=ae Yi;go_wp2;go_ret;exact ⟨y3,S3,rfl,by have:=aa XY;have:=aa YZ;have:=aa XY3;omega,by omega,by omega,C3,H3,aO G1 (aO G2 G3)⟩
theorem kF (aF off cap N g x:Nat) (S:Int) (d:Array Int) (hN:Hid (d.size=N)) (w:World) (h:HU w aF off d) (hx:1<=x) (Ku:x+1<N) (fH:N<=1048576) (hg:g≠aF) (hc:I0 w g S) (hS:0<=S) (Ib:S<=900) :
  Calls prog 193 #[.slice (some ⟨aF,off,none⟩) N cap,.int .i64 x,.pointer (some ⟨g,0,none⟩)] w fun e w'=>
   ∃ (m:Nat) (S':Int),e=.returned (.int .i64 m)/\x<=m+1/\m<=x+1/\S<=S'/\S'<=S+3/\I0 w' g S'/\HU w' aF off d/\w.grownBy w' (some g):=by
 have H0:=ae h;have C0:=ae hc;obtain ⟨m,em⟩:∃ m:Nat,(x:Int)-1=(m:Int):=⟨x-1,by omega⟩;obtain ⟨n,en⟩:∃ n:Nat,(x:Int)+1=(n:Int):=⟨x+1,by omega⟩;have wm:IntKind.i64.wrap (m:Int)=(m:Int):=IntWalk.i64_in _ (by omega);have wn:IntKind.i64.wrap (n:Int)=(n:Int):=IntWalk.i64_in _ (by omega);have mN:m<N:=by omega
 have nN:n<N:=by omega
 have xN:x<N:=by omega
 go_enter func193,ntmps193;go_wp2_with fail;refine (pM aF off cap N g m x n S d hN w H0 mN xN nN fH hg C0 hS Ib).mono ?_;rintro e w1 ⟨r,S1,rfl,hr,s1,s2,jg,oq,dS⟩;have C1:=ae jg;have H1:=ae oq;have G1:=ae dS;have HR:=ae hr;go_wp2;go_ret;exact ⟨r,S1,rfl,by have:=aa HR;omega,by have:=aa HR;omega,s1,s2,C1,H1,G1⟩
end Q
namespace Q
open Go.Sort Go.RowKit Go.Proofs.Tryz
theorem nM (w:World) (o:Obj) (row:Option Nat):w.grownBy (w.alloc o) row:=World.grownBy_alloc w o row
theorem sy {w1 w2:World} {row:Option Nat} (h:w.grownBy w1 row) (k:w1.grownBy w2 (some g)) (hg:w.heap.size<=g):w.grownBy w2 row:=
 ⟨k.os.trans h.os,k.tape.trans h.tape,k.output.trans h.output,Nat.le_trans h.size k.size,fun i hi bm=>(k.block i (Nat.lt_of_lt_of_le hi h.size) (fun e=>by
  have:i=g:=by simpa using e
  omega)).trans (h.block i hi bm)⟩
theorem HU.alloc (h:HU w aF off d) (hb:aF<w.heap.size) (o:Obj):HU (w.alloc o) aF off d:=
 h.kept (RowKit.Below.heap_alloc w o aF hb)
theorem Hk (aF off cap N a b:Nat) (d:Array Int) (hN:Hid (d.size=N)) (w:World) (h:HU w aF off d) (iB:aF<w.heap.size) (wF:a+8<=b) (hb:b<=N) (fH:N<=1048576) :
  Calls prog 170 #[.slice (some ⟨aF,off,none⟩) N cap,.int .i64 a,.int .i64 b] w fun e w'=>
   ∃ (p:Nat) (t:Int),e=.returned (.tuple #[.int .i64 p,.int .i64 t])/\a<=p/\p<b/\HU w' aF off d/\w.grownBy w' (some aF):=by
 obtain ⟨L,eL⟩:∃ x:Nat,(b:Int)-(a:Int)=(x:Int):=⟨b-a,by omega⟩;have wL:IntKind.i64.wrap (L:Int)=(L:Int):=IntWalk.i64_in _ (by omega);obtain ⟨Q,eQ⟩:=aZ (L / 4);have eQ1:Int.tdiv (L:Int) 4=(Q:Int):=by rw [<-eQ];exact (Int.ofNat_tdiv L 4).symm
 have eQ2:(L:Int) / 4=(Q:Int):=by omega
 have wQ:IntKind.i64.wrap (Q:Int)=(Q:Int):=IntWalk.i64_in _ (by omega);have wQ2:IntKind.i64.wrap ((Q:Int)*2)=(Q:Int)*2:=IntWalk.i64_in _ (by omega);have wQ3:IntKind.i64.wrap ((Q:Int)*3)=(Q:Int)*3:=IntWalk.i64_in _ (by omega);obtain ⟨I,eI⟩:∃ x:Nat,(a:Int)+(Q:Int)=(x:Int):=⟨a+Q,by omega⟩;obtain ⟨J,eJ⟩:∃ x:Nat,(a:Int)+(Q:Int)*2=(x:Int):=⟨a+Q*2,by omega⟩;obtain ⟨K,eK⟩:∃ x:Nat,(a:Int)+(Q:Int)*3=(x:Int):=⟨a+Q*3,by omega⟩;have wI:IntKind.i64.wrap (I:Int)=(I:Int):=IntWalk.i64_in _ (by omega);have wJ:IntKind.i64.wrap (J:Int)=(J:Int):=IntWalk.i64_in _ (by omega);have wK:IntKind.i64.wrap (K:Int)=(K:Int):=IntWalk.i64_in _ (by omega);have bI:a+2<=I/\I+6<=b:=by omega
 have bJ:a+2<=J/\J+2<b:=by omega
 have bK:a+2<=K/\K+1<b:=by omega
 have h8:(8:Int)<=(L:Int):=by omega
 have hg:w.heap.size≠aF:=by omega
 have H0:=ae (h.alloc iB (.cells #[.int .i64 0] 3));have C0:Hid (I0 (w.alloc (.cells #[.int .i64 0] 3)) w.heap.size 0):=⟨by simp,by simp⟩;have HL:=ae (ag eQ wF);go_enter func170,ntmps170;by_cases Vr:(50:Int)<=(L:Int);{
 go_wp2_with fail;refine (kF aF off cap N w.heap.size I 0 d hN _ H0 (by omega) (by omega) fH hg C0 (by omega) (by omega)).mono ?_;rintro e w1 ⟨i1,S1,rfl,p1,p2,s1,s2,jg,oq,dS⟩;have C1:=ae jg;have H1:=ae oq;have G1:=ae dS;go_wp2_with fail;refine (kF aF off cap N w.heap.size J S1 d hN _ H1 (by omega) (by omega) fH hg C1 (by omega) (by omega)).mono ?_;rintro e w2 ⟨j1,S2,rfl,p3,p4,s3,s4,jf,py,dY⟩;have C2:=ae jf;have H2:=ae py;have G2:=ae dY;go_wp2_with fail;refine (kF aF off cap N w.heap.size K S2 d hN _ H2 (by omega) (by omega) fH hg C2 (by omega) (by omega)).mono ?_;rintro e w3 ⟨k1,S3,rfl,p5,p6,s5,s6,Ag,vG,pf⟩;have C3:=ae Ag;have H3:=ae vG;have G3:=ae pf;go_wp2_with fail;refine (pM aF off cap N w.heap.size i1 j1 k1 S3 d hN _ H3 (by omega) (by omega) (by omega) fH hg C3 (by omega) (by omega)).mono ?_;rintro e w4 ⟨m,S4,rfl,hm,s7,s8,Af,xq,qz⟩;have H4:=ae xq;have G4:=ae (sy (nM w _ (some aF)) (aO G1 (aO G2 (aO G3 qz))) ay);have B4:a<=m/\m<b:=by omega
 have HB:=ae B4;have jA:=Af.cell;go_wp2
 all_goals
  go_ret2
  exact ⟨m,_,rfl,HB.1,HB.2,H4,G4⟩};{
 go_wp2_with fail;refine (pM aF off cap N w.heap.size I J K 0 d hN _ H0 (by omega) (by omega) (by omega) fH hg C0 (by omega) (by omega)).mono ?_;rintro e w4 ⟨m,S4,rfl,hm,s7,s8,Af,xq,qz⟩;have H4:=ae xq;have G4:=ae (sy (nM w _ (some aF)) qz ay);have B4:a<=m/\m<b:=by omega
 have HB:=ae B4;have jA:=Af.cell;go_wp2
 all_goals
  go_ret2
  exact ⟨m,_,rfl,HB.1,HB.2,H4,G4⟩}
end Q
namespace Q
open Go.Sort Go.RowKit Go.Proofs.Tryz
theorem Er:∀ x:Nat,0<x->x<2 ^ 64->2 ^ (Lib.bitLen x)<=2*x:=by
 intro x
 induction x using Nat.strongRecOn with
 | _ x ih=>
  intro h0 h;rw [Lib.bitLen_half x (by omega) h,Nat.add_comm,Nat.pow_succ];by_cases h1:x=1;{subst h1;decide};{have:=ih (x / 2) (by omega) (by omega) (by omega);omega}
theorem Ty (i:Nat) (h:i<Lib.len8tab.size):(Lib.len8tab[i]).toNat=Lib.bitLen i/\Lib.bitLen i<=8:=by
 have h':=h;rw [Lib.len8tab_size] at h';have h2:=Lib.len8_of (i:Int) (by omega) (by omega);have h3:=Lib.bitLen_le8' (i:Int) (by omega) (by omega);simp only [Lib.len8,Int.toNat_natCast,ByteArray.getElem?_lt' _ _ h,Option.getD_some] at h2 h3;omega
theorem yK {i:Int} {m:Nat} (e:i.toNat=m) (h:i.toNat<Lib.len8tab.size):((Lib.len8tab[i.toNat]).toNat:Int)=(Lib.bitLen m:Int)/\Lib.bitLen m<=8:=by
 subst e;have:=Ty i.toNat h;omega
theorem Hr (n:Nat) (hn:n<=1048576) (w:World):Calls prog 177 #[.int .u64 n] w fun e w'=>e=.returned (.int .i64 (Lib.bitLen n))/\w'=w:=by
 obtain ⟨x,ex⟩:∃ x:Int,(n:Int)=x:=⟨_,rfl⟩;have hx0:0<=x:=by omega
 have hx1:x<=1048576:=by omega
 rw [ex];have EX:=ae (ag ex hn);clear ex hn;go_enter func177,ntmps177;go_wp2
 all_goals (try (exfalso;simp only [Lib.len8tab_size] at *;omega))
 all_goals (go_ret;refine ⟨congrArg Ending.returned (congrArg (Value.int IntKind.i64) ?_),rfl⟩)
 {obtain ⟨ex,hn⟩:=aa EX;obtain ⟨t1,t2⟩:=yK (i:=x / 65536) (m:=n / 65536) (by omega) (by omega);have s:=Lib.bitLen_shift16 n (by omega) (by omega);rw [t1,IntWalk.wrap64_in (Lib.bitLen _:Int) (by omega),IntWalk.wrap64_in _ (by omega)];omega};{obtain ⟨ex,hn⟩:=aa EX;obtain ⟨t1,t2⟩:=yK (i:=x / 256) (m:=n / 256) (by omega) (by omega);have s:=Lib.bitLen_shift8 n (by omega) (by omega);rw [t1,IntWalk.wrap64_in (Lib.bitLen _:Int) (by omega),IntWalk.wrap64_in _ (by omega)];omega};{obtain ⟨ex,hn⟩:=aa EX;obtain ⟨t1,t2⟩:=yK (i:=x) (m:=n) (by omega) (by omega);rw [t1,IntWalk.wrap64_in (Lib.bitLen _:Int) (by omega),IntWalk.wrap64_in _ (by omega)]}
theorem zk (n:Nat) (hn:n<=1048576) (w:World):Calls prog 161 #[.int .u64 n] w fun e w'=>e=.returned (.int .i64 (Lib.bitLen n))/\w'=w:=by
 go_enter func161,ntmps161;go_wp2_with fail;refine (Hr n hn _).mono ?_;rintro e w' ⟨rfl,rfl⟩;go_wp2;go_ret;exact ⟨rfl,rfl⟩
theorem J7 (n:Nat) (UI:0<n) (hn:n<=1048576) (w:World):Calls prog 191 #[.int .i64 n] w fun e w'=>∃ M:Nat,e=.returned (.int .u64 M)/\0<M/\M<=2*n/\w'=w:=by
 have hK:Lib.bitLen n<=21:=Lib.bitLen_le n 21 (by omega) (by omega);have hP:=Er n UI (by omega);have hL:=zk n hn;generalize Lib.bitLen n=K at hK hP hL;obtain ⟨M,eM⟩:=aZ (2 ^ K);have h0:0<M:=by rw [<-eM];exact Nat.two_pow_pos K
 rw [eM] at hP;have hp:((2:Int) ^ K)=(M:Int):=by rw [<-eM];push_cast;rfl
 have hw:IntKind.u64.wrap ((2:Int) ^ K)=(M:Int):=by rw [hp,IntKind.wrap_u64];omega
 have Ie:=ae hP;have h0':=ae h0;clear hP h0 eM hp;go_enter func191,ntmps191;go_wp2_with fail;refine (hL _).mono ?_;rintro e w' ⟨rfl,rfl⟩;go_wp2;go_ret;exact ⟨M,by first | rfl | simp only [hw],aa h0',aa Ie,rfl⟩
theorem Ke (g X:Nat) (hX:X<18446744073709551616) (w:World) (hc:w.cell? ⟨g,0,none⟩=some (.int .u64 X)) (hf:w.frozen? ⟨g,0,none⟩=false) :
  Calls prog 192 #[.pointer (some ⟨g,0,none⟩)] w fun e w'=>∃ C:Nat,e=.returned (.int .u64 C)/\C<18446744073709551616/\w'.cell? ⟨g,0,none⟩=some (.int .u64 C)/\w'.frozen? ⟨g,0,none⟩=false/\w.grownBy w' (some g):=by
 obtain ⟨A,lA,e1⟩:∃ A:Nat,A<18446744073709551616/\bits .xor .u64 (X:Int) (IntKind.u64.wrap ((X:Int)*8192))=(A:Int):=by refine ⟨X ^^^ (X*8192 % 18446744073709551616),Nat.xor_lt_two_pow (n:=64) (by omega) (by omega),?_⟩;rw [IntKind.wrap_u64,show ((X:Int)*8192 % 18446744073709551616)=((X*8192 % 18446744073709551616:Nat):Int) by omega,bits_xor_u64_nat _ _ hX (by omega)]
 obtain ⟨B,lB,e2⟩:∃ B:Nat,B<18446744073709551616/\bits .xor .u64 (A:Int) ((A:Int) / 128)=(B:Int):=by refine ⟨A ^^^ (A / 128),Nat.xor_lt_two_pow (n:=64) (by omega) (by omega),?_⟩;rw [show ((A:Int) / 128)=((A / 128:Nat):Int) by omega,bits_xor_u64_nat _ _ lA (by omega)]
 obtain ⟨C,lC,e3⟩:∃ C:Nat,C<18446744073709551616/\bits .xor .u64 (B:Int) (IntKind.u64.wrap ((B:Int)*131072))=(C:Int):=by refine ⟨B ^^^ (B*131072 % 18446744073709551616),Nat.xor_lt_two_pow (n:=64) (by omega) (by omega),?_⟩;rw [IntKind.wrap_u64,show ((B:Int)*131072 % 18446744073709551616)=((B*131072 % 18446744073709551616:Nat):Int) by omega,bits_xor_u64_nat _ _ lB (by omega)]
 have c1:=World.cell?_setCell_same w ⟨g,0,none⟩ (.int .u64 A) hc;have c2:=World.cell?_setCell_same _ ⟨g,0,none⟩ (.int .u64 B) c1;have c3:=World.cell?_setCell_same _ ⟨g,0,none⟩ (.int .u64 C) c2;have HG:=ae (aO (aO (aD w g 0 (.int .u64 A)) (aD _ g 0 (.int .u64 B))) (aD _ g 0 (.int .u64 C)));have HF:Hid ((((w.setCell ⟨g,0,none⟩ (.int .u64 A)).setCell ⟨g,0,none⟩ (.int .u64 B)).setCell ⟨g,0,none⟩ (.int .u64 C)).frozen? ⟨g,0,none⟩=false):=by show _=_;simp only [World.frozen?_setCell];exact hf
 have LC:=ae lC;have HC:=ae c3;clear hX lA lB lC;go_enter func192,ntmps192;go_wp2_with fail
 go_region
 go_wp2_with fail
 go_region
 go_wp2_with fail
 go_region
 go_wp2;go_ret;exact ⟨C,rfl,LC,by exact HC,by exact HF,by exact ao (ao (ao HG))⟩
end Q
namespace Q
open Go.Sort Go.RowKit Go.Proofs.Tryz
theorem IM (aF off cap N a b:Nat) (d:Array Int) (hN:Hid (d.size=N)) (w:World) (h:HU w aF off d) (iB:aF<w.heap.size) (wF:a+8<=b) (hb:b<=N) (fH:N<=1048576) :
  Calls prog 169 #[.slice (some ⟨aF,off,none⟩) N cap,.int .i64 a,.int .i64 b] w fun e w'=>
   e=.returned (.tuple #[])/\∃ d',HU w' aF off d'/\PermIn a b d d'/\w.grownBy w' (some aF):=by
 obtain ⟨L,eL⟩:∃ x:Nat,(b:Int)-(a:Int)=(x:Int):=⟨b-a,by omega⟩;have wL:IntKind.i64.wrap (L:Int)=(L:Int):=IntWalk.i64_in _ (by omega);obtain ⟨Q,eQ⟩:=aZ (L / 4);have eQ1:Int.tdiv (L:Int) 4=(Q:Int):=by rw [<-eQ];exact (Int.ofNat_tdiv L 4).symm
 have eQ2:(L:Int) / 4=(Q:Int):=by omega
 have wQ:IntKind.i64.wrap (Q:Int)=(Q:Int):=IntWalk.i64_in _ (by omega);have wQ2:IntKind.i64.wrap ((Q:Int)*2)=(Q:Int)*2:=IntWalk.i64_in _ (by omega);obtain ⟨J,eJ⟩:∃ x:Nat,(a:Int)+(Q:Int)*2=(x:Int):=⟨a+Q*2,by omega⟩;have wJ:IntKind.i64.wrap (J:Int)=(J:Int):=IntWalk.i64_in _ (by omega);have bJ:a+2<=J/\J+2<b:=by omega
 have wJ1:IntKind.i64.wrap ((J:Int)+1)=(J:Int)+1:=IntWalk.i64_in _ (by omega);obtain ⟨J0,eJ0⟩:∃ x:Nat,(J:Int)-1=(x:Int):=⟨J-1,by omega⟩;have wJ0:IntKind.i64.wrap (J0:Int)=(J0:Int):=IntWalk.i64_in _ (by omega);have h8:(8:Int)<=(L:Int):=by omega
 have wU:IntKind.u64.wrap (L:Int)=(L:Int):=by rw [IntKind.wrap_u64];omega
 have hg:w.heap.size≠aF:=by omega
 have hLb:a+L=b:=by omega
 have H0:=ae (h.alloc iB (.cells #[.int .u64 L] 268));have HL:=ae (ag eQ wF);go_enter func169,ntmps169;go_wp2_with fail;refine (J7 L (by omega) (by omega) _).mono ?_;rintro e w1 ⟨M,rfl,hM0,hM,rfl⟩;have wM:IntKind.u64.wrap ((M:Int)-1)=(M:Int)-1:=by rw [IntKind.wrap_u64];omega
 go_wp2_with fail
 go_loopw [9] (fun s9 wr=>∃ (idx R:Nat) (dk:Array Int),s9=.int .i64 idx/\J0<=idx/\idx<=J+2/\R<18446744073709551616/\Hid (wr.cell? ⟨w.heap.size,0,none⟩=some (.int .u64 R)/\wr.frozen? ⟨w.heap.size,0,none⟩=false)/\Hid (HU wr aF off dk)/\Hid (PermIn a b d dk)/\Hid (dk.size=N)/\Hid (w.grownBy wr (some aF))) (fun s9 _=>J+2-(intOf s9).toNat)
 case atStart=>exact ⟨J0,L,d,rfl,by omega,by omega,by omega,⟨by simp,by simp⟩,by exact aa H0,permIn_refl d a b,hN,by exact nM w _ _⟩
 case round =>(
 obtain ⟨idx,R,dk,rfl,z1,z2,lR,hC,hH,hP,hdk,hG⟩:=hrel;by_cases YU:idx<=J+1;{
 have KW:(idx:Int)<=(J:Int)+1:=by omega
 go_wp2_with fail;refine (Ke w.heap.size R lR _ hC.1 hC.2).mono ?_;rintro e w2 ⟨C,rfl,lC,jf,CM,dY⟩;have C2:=ae (ag jf CM);have H2:=ae (hH.kept (dY.block aF (Nat.lt_of_lt_of_le iB hG.size) (fun e=>hg (by simpa using e.symm))));have G2:=ae (sy hG dY ay);obtain ⟨O,lO,bJ7⟩:∃ O:Nat,O<=M-1/\bits .and .u64 (C:Int) ((M:Int)-1)=(O:Int):=by refine ⟨C &&& (M-1),Nat.and_le_right,?_⟩;rw [show ((M:Int)-1)=((M-1:Nat):Int) by omega,bits_and_u64_nat _ _ lC (by omega)]
 have wO:IntKind.i64.wrap (O:Int)=(O:Int):=IntWalk.i64_in _ (by omega);by_cases hLO:L<=O;{
 have aI2:(L:Int)<=(O:Int):=by omega
 obtain ⟨P,eP⟩:∃ x:Nat,(O:Int)-(L:Int)=(x:Int):=⟨O-L,by omega⟩;have wP:IntKind.i64.wrap (P:Int)=(P:Int):=IntWalk.i64_in _ (by omega);have bP:P<L:=by omega
 obtain ⟨T,eT⟩:∃ x:Nat,(a:Int)+(P:Int)=(x:Int):=⟨a+P,by omega⟩;have wT:IntKind.i64.wrap (T:Int)=(T:Int):=IntWalk.i64_in _ (by omega);have bT:a<=T/\T<b:=by omega
 have oC:=aa hdk;obtain ⟨c1,f1⟩:=aa H2 idx (by omega);obtain ⟨c2,f2⟩:=aa H2 T (by omega);obtain ⟨p1,qg⟩:∃ u,dk[idx]! = u:=⟨_,rfl⟩;obtain ⟨p2,qe⟩:∃ u,dk[T]! = u:=⟨_,rfl⟩;rw [qg] at c1;rw [qe] at c2;obtain ⟨tt,ct⟩:=gv (q:=⟨aF,off+idx,none⟩) (u:=.int .u64 p2) c2;have nT:=ae (H2.swap (i:=idx) (j:=T) (by omega) (by omega) qe.symm qg.symm);have DZ:=ae (aO (aO G2 (aD _ aF (off+idx) (.int .u64 p2))) (aD _ aF (off+T) (.int .u64 p1)));have HPn:Hid (PermIn a b d (swp dk idx T)):=permIn_trans _ _ _ a b hP (swp_permIn dk a b idx T (by omega) (by omega) (by omega) (by omega) (by omega));have HDn:Hid ((swp dk idx T).size=N):=by show _=_;rw [size_swp];exact oC
 have HCn:Hid ((((w2.setCell ⟨aF,off+idx,none⟩ (.int .u64 p2)).setCell ⟨aF,off+T,none⟩ (.int .u64 p1)).drew).cell? ⟨w.heap.size,0,none⟩=some (.int .u64 C)/\(((w2.setCell ⟨aF,off+idx,none⟩ (.int .u64 p2)).setCell ⟨aF,off+T,none⟩ (.int .u64 p1)).drew).frozen? ⟨w.heap.size,0,none⟩=false):=
  ⟨(World.cell?_setCell_other _ _ _ _ (by simp<;>omega)).trans ((World.cell?_setCell_other _ _ _ _ (by simp<;>omega)).trans C2.1),by show World.frozen? ((w2.setCell ⟨aF,off+idx,none⟩ (.int .u64 p2)).setCell ⟨aF,off+T,none⟩ (.int .u64 p1)) _=false;rw [World.frozen?_setCell,World.frozen?_setCell];exact C2.2⟩
 have l1:(idx:Int)<(N:Int):=by omega
 have l2:(T:Int)<(N:Int):=by omega
 have l3:(0:Int)<=(T:Int):=by omega
 go_wp2_with fail
 go_region
 go_wp2;go_roundw
 case rel=>exact ⟨idx+1,C,swp dk idx T,by first | rfl | go_num,by omega,by omega,lC,HCn,by exact nT,HPn,HDn,by exact ao DZ⟩
 case measure=>simp [intOf];omega}
 {
 have aI2:¬ (L:Int)<=(O:Int):=by omega
 obtain ⟨P,eP⟩:∃ x:Nat,O=x:=⟨O,rfl⟩;subst eP;have bP:O<L:=by omega
 obtain ⟨T,eT⟩:∃ x:Nat,(a:Int)+(O:Int)=(x:Int):=⟨a+O,by omega⟩;have wT:IntKind.i64.wrap (T:Int)=(T:Int):=IntWalk.i64_in _ (by omega);have bT:a<=T/\T<b:=by omega
 have oC:=aa hdk;obtain ⟨c1,f1⟩:=aa H2 idx (by omega);obtain ⟨c2,f2⟩:=aa H2 T (by omega);obtain ⟨p1,qg⟩:∃ u,dk[idx]! = u:=⟨_,rfl⟩;obtain ⟨p2,qe⟩:∃ u,dk[T]! = u:=⟨_,rfl⟩;rw [qg] at c1;rw [qe] at c2;obtain ⟨tt,ct⟩:=gv (q:=⟨aF,off+idx,none⟩) (u:=.int .u64 p2) c2;have nT:=ae (H2.swap (i:=idx) (j:=T) (by omega) (by omega) qe.symm qg.symm);have DZ:=ae (aO (aO G2 (aD _ aF (off+idx) (.int .u64 p2))) (aD _ aF (off+T) (.int .u64 p1)));have HPn:Hid (PermIn a b d (swp dk idx T)):=permIn_trans _ _ _ a b hP (swp_permIn dk a b idx T (by omega) (by omega) (by omega) (by omega) (by omega));have HDn:Hid ((swp dk idx T).size=N):=by show _=_;rw [size_swp];exact oC
 have HCn:Hid ((((w2.setCell ⟨aF,off+idx,none⟩ (.int .u64 p2)).setCell ⟨aF,off+T,none⟩ (.int .u64 p1)).drew).cell? ⟨w.heap.size,0,none⟩=some (.int .u64 C)/\(((w2.setCell ⟨aF,off+idx,none⟩ (.int .u64 p2)).setCell ⟨aF,off+T,none⟩ (.int .u64 p1)).drew).frozen? ⟨w.heap.size,0,none⟩=false):=
  ⟨(World.cell?_setCell_other _ _ _ _ (by simp<;>omega)).trans ((World.cell?_setCell_other _ _ _ _ (by simp<;>omega)).trans C2.1),by show World.frozen? ((w2.setCell ⟨aF,off+idx,none⟩ (.int .u64 p2)).setCell ⟨aF,off+T,none⟩ (.int .u64 p1)) _=false;rw [World.frozen?_setCell,World.frozen?_setCell];exact C2.2⟩
 have l1:(idx:Int)<(N:Int):=by omega
 have l2:(T:Int)<(N:Int):=by omega
 have l3:(0:Int)<=(T:Int):=by omega
 go_wp2_with fail
 go_region
 go_wp2;go_roundw
 case rel=>exact ⟨idx+1,C,swp dk idx T,by first | rfl | go_num,by omega,by omega,lC,HCn,by exact nT,HPn,HDn,by exact ao DZ⟩
 case measure=>simp [intOf];omega}}
 {
 have KW:¬ (idx:Int)<=(J:Int)+1:=by omega
 go_wp2
 go_end0
 exact ⟨rfl,dk,hH,hP,hG⟩})
end Q
end Go.Proofs.YtmfjiolopcbcmaaGreatDoor
