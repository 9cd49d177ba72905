import Derived.Test.YtcfcafeciggjeaaGreatDoorK7
import Derived.Lib.BitFns
import Derived.Lib.Walk
import Derived.Lib.Small
import Derived.Lib.Strings
import Derived.Lib.Slices
import Derived.Laws.Bits64
import Derived.Laws.Bits64b
namespace Go.Proofs.YtcfcafeciggjeaaGreatDoor
set_option maxHeartbeats 6400000
set_option linter.all false
set_option maxRecDepth 100000
variable {aI g off:Nat} {d:Array Int} {w:World}
namespace Q
open Go.Sort Go.RowKit Go.Proofs.Tryz
theorem KJ {hi first r:Nat} (h:¬ 2*r+1<hi):siftDown ltInt hi first r d=d:=by
 rw [siftDown,dif_pos (by omega)]
def JT (hi first r:Nat) (d:Array Int):Nat:=if 2*r+1+1<hi&&ltInt d[first+(2*r+1)]! d[first+(2*r+1)+1]! then 2*r+2 else 2*r+1
theorem tp {hi first r:Nat} (h:2*r+1<hi) (hl:ltInt d[first+r]! d[first+JT hi first r d]! = false):siftDown ltInt hi first r d=d:=by
 rw [siftDown,dif_neg (by omega)];unfold JT at hl;split;{next hc=>rw [if_pos hc] at hl;rw [if_pos (by simp [hl])]}
 {next hc=>rw [if_neg hc] at hl;rw [if_pos (by simp [hl])]}
theorem AA {hi first r:Nat} (h:2*r+1<hi) (hl:ltInt d[first+r]! d[first+JT hi first r d]! = true):siftDown ltInt hi first r d=siftDown ltInt hi first (JT hi first r d) (swp d (first+r) (first+JT hi first r d)):=by
 rw [siftDown,dif_neg (by omega)];unfold JT at hl ⊢;split;{
 next hc=>
 rw [if_pos hc] at hl;rw [if_neg (by simp [hl])];have:2*r+2<hi:=by simp at hc;omega
 rw [dif_pos this]};{
 next hc=>
 rw [if_neg hc] at hl;rw [if_neg (by simp [hl])]}
theorem Cx (aI off cap N lo hi first:Nat) (d:Array Int) (hN:Hid (d.size=N)) (w:World) (h:HU w aI off d) (hh:first+hi<=N) (yB:lo<=N) (il:N<=1048576) :
  Calls prog 208 #[.S (some ⟨aI,off,none⟩) N cap,.I lo,.I hi,.I first] w fun e w'=>e=.returned (.tuple #[])/\HU w' aI off (siftDown ltInt hi first lo d)/\w.grownBy w' (some aI):=by
 obtain ⟨D,eD⟩:=aH (siftDown ltInt hi first lo d);rw [eD];have ED:=ae eD;have H0:=ae h;go_enter func208,ntmps208;go_wp2_with fail
 go_loopw [8] (fun s8 wr=>∃ (r:Nat) (dk:Array Int),s8=.I r/\r<=1048576/\Hid (dk.size=N)/\Hid (HU wr aI off dk)/\Hid (siftDown ltInt hi first r dk=D)/\Hid (w.grownBy wr (some aI))) (fun s8 _=>hi-(intOf s8).toNat)
 case atStart=>exact ⟨lo,d,rfl,by omega,hN,H0,ED,ld _ _⟩
 case round =>(
 obtain ⟨r,dk,rfl,q1,qO,xy,heq,hg⟩:=hrel;have w1:IntKind.i64.wrap (2*(r:Int))=2*(r:Int):=IntWalk.i64_in _ (by omega);obtain ⟨c,ec⟩:∃ c:Nat,2*(r:Int)+1=(c:Int):=⟨2*r+1,by omega⟩;have ec0:2*r+1=c:=by omega
 have wc:=fH c;by_cases bj:c<hi;{
 have bm:¬ (hi:Int)<=(c:Int):=by omega
 have Bl:=aa qO;obtain ⟨c2,ec2⟩:∃ c2:Nat,(c:Int)+1=(c2:Int):=⟨c+1,by omega⟩;have wc2:=fH c2;obtain ⟨fr,efr⟩:∃ x:Nat,(first:Int)+(r:Int)=(x:Int):=⟨first+r,by omega⟩;have wfr:=fH fr;obtain ⟨fc,efc⟩:∃ x:Nat,(first:Int)+(c:Int)=(x:Int):=⟨first+c,by omega⟩;have wfc:=fH fc;obtain ⟨fd,efd⟩:∃ x:Nat,(fc:Int)+1=(x:Int):=⟨fc+1,by omega⟩;have wfd:=fH fd;have ca7:(first:Int)+(c2:Int)=(fd:Int):=by omega
 have n1:first+r=fr:=by omega
 have n2:first+c=fc:=by omega
 have n3:fc+1=fd:=by omega
 have n4:2*r+2=c2:=by omega
 obtain ⟨cr,Pk⟩:=aa xy fr (by omega);obtain ⟨cc,fcc⟩:=aa xy fc (by omega);obtain ⟨y,ey⟩:=aH dk[fr]!;obtain ⟨z,ez⟩:=aH dk[fc]!;rw [ey] at cr;rw [ez] at cc;have j1:=aT fr N;have j2:=aT fc N;have K1:=ae (ag cr cc);have F1:=ae (ag Pk fcc);by_cases jF:c2<hi;{
 have aO8:=aT c2 hi;obtain ⟨cd,Pl⟩:=aa xy fd (by omega);obtain ⟨x,ex⟩:=aH dk[fd]!;rw [ex] at cd;have j3:=aT fd N;obtain ⟨B,eB⟩:=aH (ltInt z x);have EB:=ae eB;have FK:JT hi first r dk=if B then c2 else c:=by unfold JT;rw [ec0,n4,n2,n3,ez,ex,eB];simp only [show decide (c+1<hi)=true by (rw [decide_eq_true_iff];omega),Bool.true_and]
 have K2:=ae (ag K1.2 cd);have ao2:=ae FK;have HX:=ae (ag ex (ag cd Pl));have rn:=ae (ag ec0 (ag n1 (ag n2 (ag n3 n4))));have HE:=ae (ag ey ez);go_wp2_with fail
 go_cut [36] (fun rv wc=>rv=.bool B/\wc=wr.drew)
 case first =>(
 refine bO (fun w'=>w'.cell? ⟨aI,off+fc,none⟩=some (.U z)/\w'.cell? ⟨aI,off+fd,none⟩=some (.U x)) (by exact K2) fun hS=>?_;refine gy 0 1 2 3 4 5 6 7 hS ?_;refine gy 8 9 10 11 12 13 14 15 hS ?_;refine fe 16 17 hS ?_;refine ry [18] ?_;refine cn (fun KK hK=>?_) ?_;{refine cL (by rfl) 191 _ _ _ (by rfl) (.U z) (.U x) (by rfl) (by rfl) (fun _=>dZ _ _) (dY z x _) ?_;rintro r' w2 ⟨rfl,rfl⟩;refine ⟨_,rfl,?_⟩;rw [aa EB];refine cg hK (by exact K2) fun hS=>?_;refine tn 19 hS ?_;refine bu ?_;go_wp2_with fail;go_meet;exact ⟨rfl,rfl⟩};exact AllReadyH.nil)
 obtain ⟨rfl,rfl⟩:=hcut;cases B with
 | true=>
  have Oy:Hid (JT hi first r dk=c2):=by show _=_;rw [aa ao2];rfl
  obtain ⟨ex,cd,Pl⟩:=aa HX;obtain ⟨cr,-⟩:=aa K1;obtain ⟨Pk,-⟩:=aa F1;obtain ⟨B2,Ey⟩:=aH (ltInt y x);have EB2:=ae Ey;have Hl:first+c2=fd:=by have:=aa rn;omega
  have mr:first+r=fr:=rn.2.1
  have oW:Hid (B2=false->dk=D):=fun hB=>by rw [<-aa heq,tp (by have:=rn.1;omega) (by rw [aa Oy,Hl,mr,HE.1,ex,Ey,hB])]
  have Oz:Hid (B2=true->siftDown ltInt hi first c2 (swp dk fr fd)=D):=fun hB=>by have:=aa heq;rw [AA (by have:=rn.1;omega) (by rw [aa Oy,Hl,mr,HE.1,ex,Ey,hB]),aa Oy,Hl,mr] at this;exact this
  have Bl:=aa qO;have Hh:=ae (xy.swap (i:=fr) (j:=fd) (by omega) (by omega) ex.symm HE.1.symm);have vQ:Hid ((swp dk fr fd).size=N):=by show _=_;rw [size_swp];exact Bl
  have HG:=ae (aQ (aQ hg (aE wr aI (off+fr) (.U x))) (aE _ aI (off+fd) (.U y)));have K3:=ae (ag cr cd);have F3:=ae (ag Pk Pl);have hrc:r<c2:=by have:=aa rn;omega
  go_wp2_with fail
  go_cut [52] (fun rv wc=>rv=.bool (!B2)/\wc=wr.drew.drew)
  case first =>(
 refine bO (fun w'=>w'.cell? ⟨aI,off+fr,none⟩=some (.U y)/\w'.cell? ⟨aI,off+fd,none⟩=some (.U x)) (by exact K3) fun hS=>?_;refine gy 0 1 2 3 4 5 6 7 hS ?_;refine gC 8 9 10 11 hS ?_;refine ry [12] ?_;refine cn (fun KK hK=>?_) ?_;{refine cL (by rfl) 191 _ _ _ (by rfl) (.U y) (.U x) (by rfl) (by rfl) (fun _=>dZ _ _) (dY y x _) ?_;rintro r' w2 ⟨rfl,rfl⟩;refine ⟨_,rfl,?_⟩;rw [aa EB2];refine cg hK (by exact K3) fun hS=>?_;refine tn 13 hS ?_;refine bu ?_;go_wp2_with fail;go_meet;exact ⟨rfl,rfl⟩};exact AllReadyH.nil)
  obtain ⟨rfl,rfl⟩:=hcut;cases B2 with
  | false=>
   have e:=aa oW rfl;subst e;go_wp2;exact bodyPost_ret (results_none (h:=rfl) _ _ _) rfl ⟨rfl,xy,ar (ar hg)⟩
  | true=>
   have e:=ae (aa Oz rfl);obtain ⟨cr,cd⟩:=aa K3;obtain ⟨Pk,Pl⟩:=aa F3;go_wp2_with fail
   go_region
   go_wp2;go_roundw
   case rel=>exact ⟨c2,swp dk fr fd,rfl,by omega,vQ,(aa Hh),e,ar (ar (ar HG))⟩
   case measure=>simp [intOf];omega
 | false=>
  have Oy:Hid (JT hi first r dk=c):=by show _=_;rw [aa ao2];rfl
  have ex:=HE.2;have cd:=K1.2;have Pl:=F1.2;obtain ⟨cr,-⟩:=aa K1;obtain ⟨Pk,-⟩:=aa F1;obtain ⟨B2,Ey⟩:=aH (ltInt y z);have EB2:=ae Ey;have Hl:first+c=fc:=by have:=aa rn;omega
  have mr:first+r=fr:=rn.2.1
  have oW:Hid (B2=false->dk=D):=fun hB=>by rw [<-aa heq,tp (by have:=rn.1;omega) (by rw [aa Oy,Hl,mr,HE.1,ex,Ey,hB])]
  have Oz:Hid (B2=true->siftDown ltInt hi first c (swp dk fr fc)=D):=fun hB=>by have:=aa heq;rw [AA (by have:=rn.1;omega) (by rw [aa Oy,Hl,mr,HE.1,ex,Ey,hB]),aa Oy,Hl,mr] at this;exact this
  have Bl:=aa qO;have Hh:=ae (xy.swap (i:=fr) (j:=fc) (by omega) (by omega) ex.symm HE.1.symm);have vQ:Hid ((swp dk fr fc).size=N):=by show _=_;rw [size_swp];exact Bl
  have HG:=ae (aQ (aQ hg (aE wr aI (off+fr) (.U z))) (aE _ aI (off+fc) (.U y)));have K3:=ae (ag cr cd);have F3:=ae (ag Pk Pl);have hrc:r<c:=by have:=aa rn;omega
  go_wp2_with fail
  go_cut [52] (fun rv wc=>rv=.bool (!B2)/\wc=wr.drew.drew)
  case first =>(
 refine bO (fun w'=>w'.cell? ⟨aI,off+fr,none⟩=some (.U y)/\w'.cell? ⟨aI,off+fc,none⟩=some (.U z)) (by exact K3) fun hS=>?_;refine gy 0 1 2 3 4 5 6 7 hS ?_;refine gC 8 9 10 11 hS ?_;refine ry [12] ?_;refine cn (fun KK hK=>?_) ?_;{refine cL (by rfl) 191 _ _ _ (by rfl) (.U y) (.U z) (by rfl) (by rfl) (fun _=>dZ _ _) (dY y z _) ?_;rintro r' w2 ⟨rfl,rfl⟩;refine ⟨_,rfl,?_⟩;rw [aa EB2];refine cg hK (by exact K3) fun hS=>?_;refine tn 13 hS ?_;refine bu ?_;go_wp2_with fail;go_meet;exact ⟨rfl,rfl⟩};exact AllReadyH.nil)
  obtain ⟨rfl,rfl⟩:=hcut;cases B2 with
  | false=>
   have e:=aa oW rfl;subst e;go_wp2;exact bodyPost_ret (results_none (h:=rfl) _ _ _) rfl ⟨rfl,xy,ar (ar hg)⟩
  | true=>
   have e:=ae (aa Oz rfl);obtain ⟨cr,cd⟩:=aa K3;obtain ⟨Pk,Pl⟩:=aa F3;go_wp2_with fail
   go_region
   go_wp2;go_roundw
   case rel=>exact ⟨c,swp dk fr fc,rfl,by omega,vQ,(aa Hh),e,ar (ar (ar HG))⟩
   case measure=>simp [intOf];omega}
 {
 have aO8:=dy c2 hi;have Oy:Hid (JT hi first r dk=c):=by show _=_;unfold JT;rw [if_neg (by simp;omega),ec0]
 have rn:=ae (ag ec0 (ag n1 (ag n2 (ag n3 n4))));have HE:=ae (ag ey ez);have ex:=HE.2;have cd:=K1.2;have Pl:=F1.2;go_wp2_with fail
 go_cut [36] (fun rv wc=>rv=.bool false/\wc=wr.drew)
 case first =>(
 refine bO (fun w'=>True) trivial fun hS=>?_;refine gC 0 1 2 3 hS ?_;refine tn 4 hS ?_;refine iI 5 6 7 8 hS ?_;refine iI 9 10 11 12 hS ?_;refine iI 13 14 15 16 hS ?_;refine sn 17 hS ?_;refine sn 18 hS ?_;refine tn 19 hS ?_;refine bu ?_;go_wp2_with fail;go_meet;exact ⟨rfl,rfl⟩)
 obtain ⟨rfl,rfl⟩:=hcut;obtain ⟨cr,-⟩:=aa K1;obtain ⟨Pk,-⟩:=aa F1;obtain ⟨B2,Ey⟩:=aH (ltInt y z);have EB2:=ae Ey;have Hl:first+c=fc:=by have:=aa rn;omega
 have mr:first+r=fr:=rn.2.1
 have oW:Hid (B2=false->dk=D):=fun hB=>by rw [<-aa heq,tp (by have:=rn.1;omega) (by rw [aa Oy,Hl,mr,HE.1,ex,Ey,hB])]
 have Oz:Hid (B2=true->siftDown ltInt hi first c (swp dk fr fc)=D):=fun hB=>by have:=aa heq;rw [AA (by have:=rn.1;omega) (by rw [aa Oy,Hl,mr,HE.1,ex,Ey,hB]),aa Oy,Hl,mr] at this;exact this
 have Bl:=aa qO;have Hh:=ae (xy.swap (i:=fr) (j:=fc) (by omega) (by omega) ex.symm HE.1.symm);have vQ:Hid ((swp dk fr fc).size=N):=by show _=_;rw [size_swp];exact Bl
 have HG:=ae (aQ (aQ hg (aE wr aI (off+fr) (.U z))) (aE _ aI (off+fc) (.U y)));have K3:=ae (ag cr cd);have F3:=ae (ag Pk Pl);have hrc:r<c:=by have:=aa rn;omega
 go_wp2_with fail
 go_cut [52] (fun rv wc=>rv=.bool (!B2)/\wc=wr.drew.drew)
 case first =>(
 refine bO (fun w'=>w'.cell? ⟨aI,off+fr,none⟩=some (.U y)/\w'.cell? ⟨aI,off+fc,none⟩=some (.U z)) (by exact K3) fun hS=>?_;refine gy 0 1 2 3 4 5 6 7 hS ?_;refine gC 8 9 10 11 hS ?_;refine ry [12] ?_;refine cn (fun KK hK=>?_) ?_;{refine cL (by rfl) 191 _ _ _ (by rfl) (.U y) (.U z) (by rfl) (by rfl) (fun _=>dZ _ _) (dY y z _) ?_;rintro r' w2 ⟨rfl,rfl⟩;refine ⟨_,rfl,?_⟩;rw [aa EB2];refine cg hK (by exact K3) fun hS=>?_;refine tn 13 hS ?_;refine bu ?_;go_wp2_with fail;go_meet;exact ⟨rfl,rfl⟩};exact AllReadyH.nil)
 obtain ⟨rfl,rfl⟩:=hcut;cases B2 with
 | false=>
  have e:=aa oW rfl;subst e;go_wp2;exact bodyPost_ret (results_none (h:=rfl) _ _ _) rfl ⟨rfl,xy,ar (ar hg)⟩
 | true=>
  have e:=ae (aa Oz rfl);obtain ⟨cr,cd⟩:=aa K3;obtain ⟨Pk,Pl⟩:=aa F3;go_wp2_with fail
  go_region
  go_wp2;go_roundw
  case rel=>exact ⟨c,swp dk fr fc,rfl,by omega,vQ,(aa Hh),e,ar (ar (ar HG))⟩
  case measure=>simp [intOf];omega}}
 {
 have bm:=vj hi c;have hq:=aa heq;rw [KJ (by omega)] at hq;subst hq;go_wp2
 first
  | exact bodyPost_ret (results_none (h:=rfl) _ _ _) rfl ⟨rfl,xy,hg⟩
  | (go_end0;exact ⟨rfl,xy,hg⟩)})
end Q
namespace Q
open Go.Sort Go.RowKit Go.Proofs.Tryz
theorem yW (lt:Int->Int->Bool) (hi first:Nat):∀ (k r:Nat) (d:Array Int),hi-r<=k->(siftDown lt hi first r d).size=d.size:=by
 intro k
 induction k with
 | zero=>intro r d hk;rw [siftDown,dif_pos (by omega)]
 | succ k ih=>
  intro r d hk;rw [siftDown];split;{rfl}
  {
 split;{
 split;{rfl}
 {split;{rw [ih _ _ (by omega),size_swp]};{rfl}}}
 {
 split;{rfl}
 {rw [ih _ _ (by omega),size_swp]}}}
theorem MC (aI off cap N a b:Nat) (d:Array Int) (hN:Hid (d.size=N)) (w:World) (h:HU w aI off d) (FR:a<=b) (hb:b<=N) (il:N<=1048576) :
  Calls prog 186 #[.S (some ⟨aI,off,none⟩) N cap,.I a,.I b] w fun e w'=>e=.returned (.tuple #[])/\HU w' aI off (heapSort ltInt d a b)/\w.grownBy w' (some aI):=by
 obtain ⟨D,eD⟩:=aH (heapSort ltInt d a b);rw [eD];obtain ⟨H,eH⟩:∃ H:Nat,(b:Int)-(a:Int)=(H:Int):=⟨b-a,by omega⟩;have eH0:b-a=H:=by omega
 have wH:=fH H;unfold heapSort at eD;rw [eH0] at eD;obtain ⟨M,eM⟩:=aH (heapBuild ltInt H a ((H-1) / 2+1) d);rw [eM] at eD;have ED:=ae eD;have EM:=ae eM;have H0:=ae h;have hHN:a+H<=N:=by omega
 have HE0:=ae eH0;have w1:IntKind.i64.wrap ((H:Int)-1)=(H:Int)-1:=IntWalk.i64_in _ (by omega);obtain ⟨q,eq⟩:∃ q:Int,Int.tdiv ((H:Int)-1) 2=q:=⟨_,rfl⟩;have hq:q=((H-1) / 2:Nat):=by rw [<-eq];by_cases hz:H=0;{subst hz;decide};{rw [show (H:Int)-1=((H-1:Nat):Int) by omega];exact (Int.ofNat_tdiv _ _).symm}
 have L8:0<=q:=by omega
 have VB:q<=1048576:=by omega
 have wq:IntKind.i64.wrap q=q:=IntWalk.i64_in _ (by omega);have HQ:=ae hq;clear eD eM h eH0 hq;go_enter func186,ntmps186;go_wp2_with fail
 go_loopw [9] (fun s9 wr=>∃ (iz:Int) (k:Nat) (dk:Array Int),s9=.I iz/\iz=(k:Int)-1/\k<=H+1/\Hid (dk.size=N)/\Hid (HU wr aI off dk)/\Hid (heapBuild ltInt H a k dk=M)/\Hid (w.grownBy wr (some aI))) (fun s9 _=>(intOf s9+1).toNat)
 case atStart=>exact ⟨q,(H-1) / 2+1,d,rfl,by have:=aa HQ;omega,by omega,hN,H0,EM,ld _ _⟩
 case round =>(
 obtain ⟨iz,k,dk,rfl,hk,hiz,qO,xy,heq,hg⟩:=hrel;have HK:=ae hk;by_cases hz:0<=iz;{
 obtain ⟨m,em⟩:∃ m:Nat,iz=(m:Int):=⟨iz.toNat,by omega⟩;have ek:k=m+1:=by omega
 subst ek;clear hk HK;subst em;have JU:=dE 0 m;have qg:=aa heq;rw [heapBuild] at qg;have Kf:=ae qg;have aN9:Hid ((siftDown ltInt H a m dk).size=N):=by show _=_;rw [yW ltInt H a _ m dk aA];exact aa qO
 have hm:m<=N:=by omega
 clear qg heq;go_wp2_with fail;refine (Cx aI off cap N m H a dk qO _ xy hHN hm il).mono ?_;rintro e w2 ⟨rfl,sX,fU⟩;have HG:=ae (aQ hg fU);have UC:=ae sX;clear fU sX;go_wp2;go_roundw
 case rel=>exact ⟨(m:Int)-1,m,_,by first | rfl | go_num,by omega,by omega,aN9,UC,Kf,HG⟩
 case measure=>first | (simp [intOf];done) | (simp [intOf];omega)}
 {
 have ek:k=0:=by omega
 subst ek;have eM:dk=M:=aa heq;subst eM;clear hk HK;go_wp2_with fail;obtain ⟨Y,eY⟩:=ax wr;subst eY;have HG0:=hg;clear hg hz
 go_loopw [10] (fun AG wr=>∃ (iz:Int) (k:Nat) (dj:Array Int),AG=.I iz/\iz=(k:Int)-1/\k<=H/\Hid (dj.size=N)/\Hid (HU wr aI off dj)/\Hid (heapPop ltInt a k dj=D)/\Hid (w.grownBy wr (some aI))) (fun AG _=>(intOf AG+1).toNat)
 case atStart=>exact ⟨(H:Int)-1,H,dk,rfl,rfl,Nat.le_refl _,qO,xy,ED,HG0⟩
 case round =>(
 obtain ⟨iz,k,dj,rfl,hk,hiz,Rk,yi,FO,hg⟩:=hrel;by_cases hz:0<=iz;{
 obtain ⟨m,em⟩:∃ m:Nat,iz=(m:Int):=⟨iz.toNat,by omega⟩;have ek:k=m+1:=by omega
 subst ek;clear hk;subst em;have JU:=dE 0 m;obtain ⟨f,ef⟩:∃ x:Nat,(a:Int)+(m:Int)=(x:Int):=⟨a+m,by omega⟩;have wf:=fH f;have ef0:a+m=f:=by omega
 have DM:=aa Rk;obtain ⟨ca,fa⟩:=aa yi a (by omega);obtain ⟨cf,ff⟩:=aa yi f (by omega);obtain ⟨y,ey⟩:=aH dj[a]!;obtain ⟨z,ez⟩:=aH dj[f]!;rw [ey] at ca;rw [ez] at cf;obtain ⟨tt,ct⟩:=ij (q:=⟨aI,off+a,none⟩) (u:=.U z) cf;have i1:=aT a N;have i2:=aT f N;have qg:=aa FO;rw [heapPop,ef0] at qg;have Kf:=ae qg;have XI:=ae (yi.swap (i:=a) (j:=f) (by omega) (by omega) ez.symm ey.symm);have vQ:Hid ((swp dj a f).size=N):=by show _=_;rw [size_swp];exact DM
 have HS3:Hid ((siftDown ltInt m a 0 (swp dj a f)).size=N):=by show _=_;rw [yW ltInt m a _ 0 _ aA];exact aa vQ
 have HG:=ae (aQ (aQ hg (aE wr aI (off+a) (.U z))) (aE _ aI (off+f) (.U y)));have sj:a+m<=N:=by omega
 clear ey ez DM qg FO ef0;go_wp2_with fail
 go_region
 go_wp2_with fail;refine (Cx aI off cap N 0 m a (swp dj a f) vQ _ (by exact XI) sj (Nat.zero_le _) il).mono ?_;rintro e w2 ⟨rfl,sX,fU⟩;have HG2:=ae (aQ (ar HG) fU);have UC:=ae sX;clear fU sX ca cf fa ff ct;go_wp2;go_roundw
 case rel=>exact ⟨(m:Int)-1,m,_,by first | rfl | go_num,rfl,by omega,HS3,UC,Kf,HG2⟩
 case measure=>first | (simp [intOf];done) | (simp [intOf];omega)}
 {
 have ek:k=0:=by omega
 subst ek;have eD:dj=D:=aa FO;subst eD;clear hk;go_wp2
 go_end0
 exact ⟨rfl,yi,hg⟩})})
end Q
namespace Q
open Go.Sort Go.RowKit Go.Proofs.Tryz
structure JM (w:World) (g:Nat) (S:Int):Prop where
 cell:w.cell? ⟨g,0,none⟩=some (.I S)
 fr:w.frozen? ⟨g,0,none⟩=false
theorem JM.drew {S:Int} (h:JM w g S):JM w.drew g S:=⟨h.cell,h.fr⟩
theorem JM.set {S T:Int} (h:JM w g S):JM (w.setCell ⟨g,0,none⟩ (.I T)) g T:=
 ⟨World.cell?_setCell_same _ _ _ h.cell,by rw [World.frozen?_setCell];exact h.fr⟩
theorem HU.aside {o:Nat} {v:Value} (h:HU w aI off d) (bL:g≠aI):HU (w.setCell ⟨g,o,none⟩ v) aI off d:=
 h.kept (dF _ _ _ _ (fun e=>bL (by simpa using e.symm)))
theorem qG (aI off cap N g x y:Nat) (S:Int) (d:Array Int) (hN:Hid (d.size=N)) (w:World) (h:HU w aI off d) (hx:x<N) (hy:y<N) (il:N<=1048576) (hg:g≠aI) (hc:JM w g S) (hS:0<=S) (Cg:S<=1000) :
  Calls prog 224 #[.S (some ⟨aI,off,none⟩) N cap,.I x,.I y,.pointer (some ⟨g,0,none⟩)] w fun e w'=>
   ∃ (x' y':Nat) (S':Int),e=.returned (.tuple #[.I x',.I y'])/\((x'=x/\y'=y)\/(x'=y/\y'=x))/\S<=S'/\S'<=S+1/\JM w' g S'/\HU w' aI off d/\w.grownBy w' (some g):=by
 have qO:=aa hN;obtain ⟨cx,-⟩:=h x (by omega);obtain ⟨cy,-⟩:=h y (by omega);obtain ⟨u,eu⟩:=aH d[x]!;obtain ⟨v,ev⟩:=aH d[y]!;rw [eu] at cx;rw [ev] at cy;have k1:=aT x N;have k2:=aT y N;obtain ⟨B,eB⟩:=aH (ltInt v u);have EB:=ae eB;have K0:=ae (ag cx cy);have H0:=ae h;have C0:=ae hc;have la:=hc.cell;have ve:=hc.fr;go_enter func224,ntmps224;go_wp2_with fail
 go_cut [18] (fun rv wc=>rv=.bool B/\wc=w.drew)
 case first =>(
 refine bO (fun w'=>w'.cell? ⟨aI,off+x,none⟩=some (.U u)/\w'.cell? ⟨aI,off+y,none⟩=some (.U v)) (by exact K0) fun hS=>?_;refine gy 0 1 2 3 4 5 6 7 hS ?_;refine ry [8] ?_;refine cn (fun KK hK=>?_) ?_;{refine cL (by rfl) 191 _ _ _ (by rfl) (.U v) (.U u) (by rfl) (by rfl) (fun _=>dZ _ _) (dY v u _) ?_;rintro r' w2 ⟨rfl,rfl⟩;refine ⟨_,rfl,?_⟩;rw [aa EB];refine cg hK (by exact K0) fun hS=>?_;refine bu ?_;go_wp2_with fail;go_meet;exact ⟨rfl,rfl⟩};exact AllReadyH.nil)
 obtain ⟨rfl,rfl⟩:=hcut;cases B with
 | true=>
  go_wp2
  go_ret2
  exact ⟨y,x,S+1,rfl,.inr ⟨rfl,rfl⟩,by omega,by omega,C0.drew.set,(H0.drew).aside hg,aQ (ar (ld w _)) (aE _ g 0 _)⟩
 | false=>
  go_wp2
  go_ret2
  exact ⟨x,y,S,rfl,.inl ⟨rfl,rfl⟩,by omega,by omega,C0.drew,H0.drew,ar (ld w _)⟩
theorem qI (aI off cap N g x y z:Nat) (S:Int) (d:Array Int) (hN:Hid (d.size=N)) (w:World) (h:HU w aI off d) (hx:x<N) (hy:y<N) (hz:z<N) (il:N<=1048576) (hg:g≠aI) (hc:JM w g S) (hS:0<=S) (Cg:S<=900) :
  Calls prog 212 #[.S (some ⟨aI,off,none⟩) N cap,.I x,.I y,.I z,.pointer (some ⟨g,0,none⟩)] w fun e w'=>
   ∃ (m:Nat) (S':Int),e=.returned (.I m)/\(m=x\/m=y\/m=z)/\S<=S'/\S'<=S+3/\JM w' g S'/\HU w' aI off d/\w.grownBy w' (some g):=by
 have H0:=ae h;have C0:=ae hc;go_enter func212,ntmps212;go_wp2_with fail;refine (qG aI off cap N g x y S d hN w H0 hx hy il hg C0 hS (by omega)).mono ?_;rintro e w1 ⟨x1,y1,S1,rfl,hxy,s1,s2,kH,tL,fO⟩;have C1:=ae kH;have H1:=ae tL;have G1:=ae fO;have XY:=ae hxy;have x1N:x1<N:=by omega
 have y1N:y1<N:=by omega
 go_wp2_with fail;refine (qG aI off cap N g y1 z S1 d hN w1 H1 y1N hz il hg C1 (by omega) (by omega)).mono ?_;rintro e w2 ⟨y2,z2,S2,rfl,hyz,s3,s4,jF,sX,fU⟩;have C2:=ae jF;have H2:=ae sX;have G2:=ae fU;have YZ:=ae hyz;have y2N:y2<N:=by omega
 go_wp2_with fail;refine (qG aI off cap N g x1 y2 S2 d hN w2 H2 x1N y2N il hg C2 (by omega) (by omega)).mono ?_;rintro e w3 ⟨x3,y3,S3,rfl,aH6,s5,s6,Rn,Bp,uA⟩;have C3:=ae Rn;have H3:=ae Bp;have G3:=ae uA;have XY3:=ae aH6;go_wp2;go_ret;exact ⟨y3,S3,rfl,by have:=aa XY;have:=aa YZ;have:=aa XY3;omega,by omega,by omega,C3,H3,aQ G1 (aQ G2 G3)⟩
theorem lE (aI off cap N g x:Nat) (S:Int) (d:Array Int) (hN:Hid (d.size=N)) (w:World) (h:HU w aI off d) (hx:1<=x) (LO:x+1<N) (il:N<=1048576) (hg:g≠aI) (hc:JM w g S) (hS:0<=S) (Cg:S<=900) :
  Calls prog 211 #[.S (some ⟨aI,off,none⟩) N cap,.I x,.pointer (some ⟨g,0,none⟩)] w fun e w'=>
   ∃ (m:Nat) (S':Int),e=.returned (.I m)/\x<=m+1/\m<=x+1/\S<=S'/\S'<=S+3/\JM w' g S'/\HU w' aI off d/\w.grownBy w' (some g):=by
 have H0:=ae h;have C0:=ae hc;obtain ⟨m,em⟩:∃ m:Nat,(x:Int)-1=(m:Int):=⟨x-1,by omega⟩;obtain ⟨n,en⟩:∃ n:Nat,(x:Int)+1=(n:Int):=⟨x+1,by omega⟩;have wm:=fH m;have wn:=fH n;have mN:m<N:=by omega
 have nN:n<N:=by omega
 have xN:x<N:=by omega
 go_enter func211,ntmps211;go_wp2_with fail;refine (qI aI off cap N g m x n S d hN w H0 mN xN nN il hg C0 hS Cg).mono ?_;rintro e w1 ⟨r,S1,rfl,hr,s1,s2,kH,tL,fO⟩;have C1:=ae kH;have H1:=ae tL;have G1:=ae fO;have HR:=ae hr;go_wp2;go_ret;exact ⟨r,S1,rfl,by have:=aa HR;omega,by have:=aa HR;omega,s1,s2,C1,H1,G1⟩
end Q
namespace Q
open Go.Sort Go.RowKit Go.Proofs.Tryz
theorem oP (w:World) (o:Obj) (row:Option Nat):w.grownBy (w.alloc o) row:=World.grownBy_alloc w o row
theorem tM {w1 w2:World} {row:Option Nat} (h:w.grownBy w1 row) (k:w1.grownBy w2 (some g)) (hg:w.heap.size<=g):w.grownBy w2 row:=
 ⟨k.os.trans h.os,k.tape.trans h.tape,k.output.trans h.output,Nat.le_trans h.size k.size,fun i hi bL=>(k.block i (Nat.lt_of_lt_of_le hi h.size) (fun e=>by
  have:i=g:=by simpa using e
  omega)).trans (h.block i hi bL)⟩
theorem HU.alloc (h:HU w aI off d) (hb:aI<w.heap.size) (o:Obj):HU (w.alloc o) aI off d:=
 h.kept (RowKit.Below.heap_alloc w o aI hb)
theorem IE (aI off cap N a b:Nat) (d:Array Int) (hN:Hid (d.size=N)) (w:World) (h:HU w aI off d) (jd:aI<w.heap.size) (FR:a+8<=b) (hb:b<=N) (il:N<=1048576) :
  Calls prog 188 #[.S (some ⟨aI,off,none⟩) N cap,.I a,.I b] w fun e w'=>
   ∃ (p:Nat) (t:Int),e=.returned (.tuple #[.I p,.I t])/\a<=p/\p<b/\HU w' aI off d/\w.grownBy w' (some aI):=by
 obtain ⟨L,eL⟩:∃ x:Nat,(b:Int)-(a:Int)=(x:Int):=⟨b-a,by omega⟩;have wL:=fH L;obtain ⟨Q,eQ⟩:=aH (L / 4);have eQ1:Int.tdiv (L:Int) 4=(Q:Int):=by rw [<-eQ];exact (Int.ofNat_tdiv L 4).symm
 have eQ2:(L:Int) / 4=(Q:Int):=by omega
 have wQ:=fH Q;have wQ2:IntKind.i64.wrap ((Q:Int)*2)=(Q:Int)*2:=IntWalk.i64_in _ (by omega);have wQ3:IntKind.i64.wrap ((Q:Int)*3)=(Q:Int)*3:=IntWalk.i64_in _ (by omega);obtain ⟨I,eI⟩:∃ x:Nat,(a:Int)+(Q:Int)=(x:Int):=⟨a+Q,by omega⟩;obtain ⟨J,eJ⟩:∃ x:Nat,(a:Int)+(Q:Int)*2=(x:Int):=⟨a+Q*2,by omega⟩;obtain ⟨K,eK⟩:∃ x:Nat,(a:Int)+(Q:Int)*3=(x:Int):=⟨a+Q*3,by omega⟩;have wI:=fH I;have wJ:=fH J;have wK:=fH K;have bI:a+2<=I/\I+6<=b:=by omega
 have bJ:a+2<=J/\J+2<b:=by omega
 have bK:a+2<=K/\K+1<b:=by omega
 have h8:=dE 8 L;have hg:w.heap.size≠aI:=by omega
 have H0:=ae (h.alloc jd (.cells #[.I 0] 3));have C0:Hid (JM (w.alloc (.cells #[.I 0] 3)) w.heap.size 0):=⟨by simp,by simp⟩;have HL:=ae (ag eQ FR);go_enter func188,ntmps188;by_cases WH:(50:Int)<=(L:Int);{
 go_wp2_with fail;refine (lE aI off cap N w.heap.size I 0 d hN _ H0 (by omega) (by omega) il hg C0 (by omega) (by omega)).mono ?_;rintro e w1 ⟨i1,S1,rfl,p1,p2,s1,s2,kH,tL,fO⟩;have C1:=ae kH;have H1:=ae tL;have G1:=ae fO;go_wp2_with fail;refine (lE aI off cap N w.heap.size J S1 d hN _ H1 (by omega) (by omega) il hg C1 (by omega) (by omega)).mono ?_;rintro e w2 ⟨j1,S2,rfl,p3,p4,s3,s4,jF,sX,fU⟩;have C2:=ae jF;have H2:=ae sX;have G2:=ae fU;go_wp2_with fail;refine (lE aI off cap N w.heap.size K S2 d hN _ H2 (by omega) (by omega) il hg C2 (by omega) (by omega)).mono ?_;rintro e w3 ⟨k1,S3,rfl,p5,p6,s5,s6,Rn,Bp,uA⟩;have C3:=ae Rn;have H3:=ae Bp;have G3:=ae uA;go_wp2_with fail;refine (qI aI off cap N w.heap.size i1 j1 k1 S3 d hN _ H3 (by omega) (by omega) (by omega) il hg C3 (by omega) (by omega)).mono ?_;rintro e w4 ⟨m,S4,rfl,hm,s7,s8,DO,DQ,sw⟩;have H4:=ae DQ;have G4:=ae (tM (oP w _ (some aI)) (aQ G1 (aQ G2 (aQ G3 sw))) aA);have B4:a<=m/\m<b:=by omega
 have HB:=ae B4;have la:=DO.cell;go_wp2
 all_goals
  go_ret2
  exact ⟨m,_,rfl,HB.1,HB.2,H4,G4⟩};{
 go_wp2_with fail;refine (qI aI off cap N w.heap.size I J K 0 d hN _ H0 (by omega) (by omega) (by omega) il hg C0 (by omega) (by omega)).mono ?_;rintro e w4 ⟨m,S4,rfl,hm,s7,s8,DO,DQ,sw⟩;have H4:=ae DQ;have G4:=ae (tM (oP w _ (some aI)) sw aA);have B4:a<=m/\m<b:=by omega
 have HB:=ae B4;have la:=DO.cell;go_wp2
 all_goals
  go_ret2
  exact ⟨m,_,rfl,HB.1,HB.2,H4,G4⟩}
end Q
namespace Q
open Go.Sort Go.RowKit Go.Proofs.Tryz
theorem Fh:∀ x:Nat,0<x->x<2 ^ 64->2 ^ (Lib.bitLen x)<=2*x:=by
 intro x
 induction x using Nat.strongRecOn with
 | _ x ih=>
  intro h0 h;rw [Lib.bitLen_half x (by omega) h,Nat.add_comm,Nat.pow_succ];by_cases h1:x=1;{subst h1;decide};{have:=ih (x / 2) (by omega) (by omega) (by omega);omega}
theorem UT (i:Nat) (h:i<Lib.len8tab.size):(Lib.len8tab[i]).toNat=Lib.bitLen i/\Lib.bitLen i<=8:=by
 have h':=h;rw [Lib.len8tab_size] at h';have h2:=Lib.len8_of (i:Int) (by omega) (by omega);have h3:=Lib.bitLen_le8' (i:Int) (by omega) (by omega);simp only [Lib.len8,Int.toNat_natCast,ByteArray.getElem?_lt' _ _ h,Option.getD_some] at h2 h3;omega
theorem Av {i:Int} {m:Nat} (e:i.toNat=m) (h:i.toNat<Lib.len8tab.size):((Lib.len8tab[i.toNat]).toNat:Int)=(Lib.bitLen m:Int)/\Lib.bitLen m<=8:=by
 subst e;have:=UT i.toNat h;omega
theorem IN (n:Nat) (hn:n<=1048576) (w:World):Calls prog 195 #[.U n] w fun e w'=>e=.returned (.I (Lib.bitLen n))/\w'=w:=by
 obtain ⟨x,ex⟩:∃ x:Int,(n:Int)=x:=⟨_,rfl⟩;have hx0:0<=x:=by omega
 have JV:x<=1048576:=by omega
 rw [ex];have EX:=ae (ag ex hn);clear ex hn;go_enter func195,ntmps195;go_wp2
 all_goals (try (exfalso;simp only [Lib.len8tab_size] at *;omega))
 all_goals (go_ret;refine ⟨congrArg Ending.returned (congrArg (Value.int IntKind.i64) ?_),rfl⟩)
 {obtain ⟨ex,hn⟩:=aa EX;obtain ⟨t1,t2⟩:=Av (i:=x / 65536) (m:=n / 65536) (by omega) (by omega);have s:=Lib.bitLen_shift16 n (by omega) (by omega);rw [t1,IntWalk.wrap64_in (Lib.bitLen _:Int) (by omega),IntWalk.wrap64_in _ (by omega)];omega};{obtain ⟨ex,hn⟩:=aa EX;obtain ⟨t1,t2⟩:=Av (i:=x / 256) (m:=n / 256) (by omega) (by omega);have s:=Lib.bitLen_shift8 n (by omega) (by omega);rw [t1,IntWalk.wrap64_in (Lib.bitLen _:Int) (by omega),IntWalk.wrap64_in _ (by omega)];omega};{obtain ⟨ex,hn⟩:=aa EX;obtain ⟨t1,t2⟩:=Av (i:=x) (m:=n) (by omega) (by omega);rw [t1,IntWalk.wrap64_in (Lib.bitLen _:Int) (by omega),IntWalk.wrap64_in _ (by omega)]}
theorem AV (n:Nat) (hn:n<=1048576) (w:World):Calls prog 180 #[.U n] w fun e w'=>e=.returned (.I (Lib.bitLen n))/\w'=w:=by
 go_enter func180,ntmps180;go_wp2_with fail;refine (IN n hn _).mono ?_;rintro e w' ⟨rfl,rfl⟩;go_wp2;go_ret;exact ⟨rfl,rfl⟩
theorem Ll (n:Nat) (Ep:0<n) (hn:n<=1048576) (w:World):Calls prog 209 #[.I n] w fun e w'=>∃ M:Nat,e=.returned (.U M)/\0<M/\M<=2*n/\w'=w:=by
 have hK:Lib.bitLen n<=21:=Lib.bitLen_le n 21 (by omega) (by omega);have hP:=Fh n Ep (by omega);have hL:=AV n hn;generalize Lib.bitLen n=K at hK hP hL;obtain ⟨M,eM⟩:=aH (2 ^ K);have h0:0<M:=by rw [<-eM];exact Nat.two_pow_pos K
 rw [eM] at hP;have hp:((2:Int) ^ K)=(M:Int):=by rw [<-eM];push_cast;rfl
 have hw:IntKind.u64.wrap ((2:Int) ^ K)=(M:Int):=by rw [hp,IntKind.wrap_u64];omega
 have hP':=ae hP;have WJ:=ae h0;clear hP h0 eM hp;go_enter func209,ntmps209;go_wp2_with fail;refine (hL _).mono ?_;rintro e w' ⟨rfl,rfl⟩;go_wp2;go_ret;exact ⟨M,by first | rfl | simp only [hw],aa WJ,aa hP',rfl⟩
theorem Lr (g X:Nat) (hX:X<18446744073709551616) (w:World) (hc:w.cell? ⟨g,0,none⟩=some (.U X)) (hf:w.frozen? ⟨g,0,none⟩=false) :
  Calls prog 210 #[.pointer (some ⟨g,0,none⟩)] w fun e w'=>∃ C:Nat,e=.returned (.U C)/\C<18446744073709551616/\w'.cell? ⟨g,0,none⟩=some (.U C)/\w'.frozen? ⟨g,0,none⟩=false/\w.grownBy w' (some g):=by
 obtain ⟨A,lA,e1⟩:∃ A:Nat,A<18446744073709551616/\bits .xor .u64 (X:Int) (IntKind.u64.wrap ((X:Int)*8192))=(A:Int):=by refine ⟨X ^^^ (X*8192 % 18446744073709551616),Nat.xor_lt_two_pow (n:=64) (by omega) (by omega),?_⟩;rw [IntKind.wrap_u64,show ((X:Int)*8192 % 18446744073709551616)=((X*8192 % 18446744073709551616:Nat):Int) by omega,bits_xor_u64_nat _ _ hX (by omega)]
 obtain ⟨B,lB,e2⟩:∃ B:Nat,B<18446744073709551616/\bits .xor .u64 (A:Int) ((A:Int) / 128)=(B:Int):=by refine ⟨A ^^^ (A / 128),Nat.xor_lt_two_pow (n:=64) (by omega) (by omega),?_⟩;rw [show ((A:Int) / 128)=((A / 128:Nat):Int) by omega,bits_xor_u64_nat _ _ lA (by omega)]
 obtain ⟨C,lC,e3⟩:∃ C:Nat,C<18446744073709551616/\bits .xor .u64 (B:Int) (IntKind.u64.wrap ((B:Int)*131072))=(C:Int):=by refine ⟨B ^^^ (B*131072 % 18446744073709551616),Nat.xor_lt_two_pow (n:=64) (by omega) (by omega),?_⟩;rw [IntKind.wrap_u64,show ((B:Int)*131072 % 18446744073709551616)=((B*131072 % 18446744073709551616:Nat):Int) by omega,bits_xor_u64_nat _ _ lB (by omega)]
 have c1:=World.cell?_setCell_same w ⟨g,0,none⟩ (.U A) hc;have c2:=World.cell?_setCell_same _ ⟨g,0,none⟩ (.U B) c1;have c3:=World.cell?_setCell_same _ ⟨g,0,none⟩ (.U C) c2;have HG:=ae (aQ (aQ (aE w g 0 (.U A)) (aE _ g 0 (.U B))) (aE _ g 0 (.U C)));have HF:Hid ((((w.setCell ⟨g,0,none⟩ (.U A)).setCell ⟨g,0,none⟩ (.U B)).setCell ⟨g,0,none⟩ (.U C)).frozen? ⟨g,0,none⟩=false):=by show _=_;simp only [World.frozen?_setCell];exact hf
 have LC:=ae lC;have HC:=ae c3;clear hX lA lB lC;go_enter func210,ntmps210;go_wp2_with fail
 go_region
 go_wp2_with fail
 go_region
 go_wp2_with fail
 go_region
 go_wp2;go_ret;exact ⟨C,rfl,LC,by exact HC,by exact HF,by exact ar (ar (ar HG))⟩
end Q
namespace Q
open Go.Sort Go.RowKit Go.Proofs.Tryz
theorem JE (aI off cap N a b:Nat) (d:Array Int) (hN:Hid (d.size=N)) (w:World) (h:HU w aI off d) (jd:aI<w.heap.size) (FR:a+8<=b) (hb:b<=N) (il:N<=1048576) :
  Calls prog 187 #[.S (some ⟨aI,off,none⟩) N cap,.I a,.I b] w fun e w'=>
   e=.returned (.tuple #[])/\∃ d',HU w' aI off d'/\PermIn a b d d'/\w.grownBy w' (some aI):=by
 obtain ⟨L,eL⟩:∃ x:Nat,(b:Int)-(a:Int)=(x:Int):=⟨b-a,by omega⟩;have wL:=fH L;obtain ⟨Q,eQ⟩:=aH (L / 4);have eQ1:Int.tdiv (L:Int) 4=(Q:Int):=by rw [<-eQ];exact (Int.ofNat_tdiv L 4).symm
 have eQ2:(L:Int) / 4=(Q:Int):=by omega
 have wQ:=fH Q;have wQ2:IntKind.i64.wrap ((Q:Int)*2)=(Q:Int)*2:=IntWalk.i64_in _ (by omega);obtain ⟨J,eJ⟩:∃ x:Nat,(a:Int)+(Q:Int)*2=(x:Int):=⟨a+Q*2,by omega⟩;have wJ:=fH J;have bJ:a+2<=J/\J+2<b:=by omega
 have wJ1:IntKind.i64.wrap ((J:Int)+1)=(J:Int)+1:=IntWalk.i64_in _ (by omega);obtain ⟨J0,eJ0⟩:∃ x:Nat,(J:Int)-1=(x:Int):=⟨J-1,by omega⟩;have wJ0:=fH J0;have h8:=dE 8 L;have wU:IntKind.u64.wrap (L:Int)=(L:Int):=by rw [IntKind.wrap_u64];omega
 have hg:w.heap.size≠aI:=by omega
 have hLb:a+L=b:=by omega
 have H0:=ae (h.alloc jd (.cells #[.U L] 280));have HL:=ae (ag eQ FR);go_enter func187,ntmps187;go_wp2_with fail;refine (Ll L (by omega) (by omega) _).mono ?_;rintro e w1 ⟨M,rfl,hM0,hM,rfl⟩;have wM:IntKind.u64.wrap ((M:Int)-1)=(M:Int)-1:=by rw [IntKind.wrap_u64];omega
 go_wp2_with fail
 go_loopw [9] (fun s9 wr=>∃ (idx R:Nat) (dk:Array Int),s9=.I idx/\J0<=idx/\idx<=J+2/\R<18446744073709551616/\Hid (wr.cell? ⟨w.heap.size,0,none⟩=some (.U R)/\wr.frozen? ⟨w.heap.size,0,none⟩=false)/\Hid (HU wr aI off dk)/\Hid (PermIn a b d dk)/\Hid (dk.size=N)/\Hid (w.grownBy wr (some aI))) (fun s9 _=>J+2-(intOf s9).toNat)
 case atStart=>exact ⟨J0,L,d,rfl,by omega,by omega,by omega,⟨by simp,by simp⟩,by exact aa H0,permIn_refl d a b,hN,by exact oP w _ _⟩
 case round =>(
 obtain ⟨idx,R,dk,rfl,z1,z2,lR,hC,hH,hP,hdk,hG⟩:=hrel;by_cases hgo:idx<=J+1;{
 have Mx:(idx:Int)<=(J:Int)+1:=by omega
 go_wp2_with fail;refine (Lr w.heap.size R lR _ hC.1 hC.2).mono ?_;rintro e w2 ⟨C,rfl,lC,jF,Bj,fU⟩;have C2:=ae (ag jF Bj);have H2:=ae (hH.kept (fU.block aI (Nat.lt_of_lt_of_le jd hG.size) (fun e=>hg (by simpa using e.symm))));have G2:=ae (tM hG fU aA);obtain ⟨O,lO,cb8⟩:∃ O:Nat,O<=M-1/\bits .and .u64 (C:Int) ((M:Int)-1)=(O:Int):=by refine ⟨C &&& (M-1),Nat.and_le_right,?_⟩;rw [show ((M:Int)-1)=((M-1:Nat):Int) by omega,bits_and_u64_nat _ _ lC (by omega)]
 have wO:=fH O;by_cases hLO:L<=O;{
 have aQ6:=vj L O;obtain ⟨P,eP⟩:∃ x:Nat,(O:Int)-(L:Int)=(x:Int):=⟨O-L,by omega⟩;have wP:=fH P;have bP:P<L:=by omega
 obtain ⟨T,eT⟩:∃ x:Nat,(a:Int)+(P:Int)=(x:Int):=⟨a+P,by omega⟩;have wT:=fH T;have bT:a<=T/\T<b:=by omega
 have qO:=aa hdk;obtain ⟨c1,f1⟩:=aa H2 idx (by omega);obtain ⟨c2,f2⟩:=aa H2 T (by omega);obtain ⟨p1,xB⟩:=aH dk[idx]!;obtain ⟨p2,xA⟩:=aH dk[T]!;rw [xB] at c1;rw [xA] at c2;obtain ⟨tt,ct⟩:=ij (q:=⟨aI,off+idx,none⟩) (u:=.U p2) c2;have oV:=ae (H2.swap (i:=idx) (j:=T) (by omega) (by omega) xA.symm xB.symm);have EA:=ae (aQ (aQ G2 (aE _ aI (off+idx) (.U p2))) (aE _ aI (off+T) (.U p1)));have HPn:Hid (PermIn a b d (swp dk idx T)):=permIn_trans _ _ _ a b hP (swp_permIn dk a b idx T (by omega) (by omega) (by omega) (by omega) (by omega));have HDn:Hid ((swp dk idx T).size=N):=by show _=_;rw [size_swp];exact qO
 have HCn:Hid ((((w2.setCell ⟨aI,off+idx,none⟩ (.U p2)).setCell ⟨aI,off+T,none⟩ (.U p1)).drew).cell? ⟨w.heap.size,0,none⟩=some (.U C)/\(((w2.setCell ⟨aI,off+idx,none⟩ (.U p2)).setCell ⟨aI,off+T,none⟩ (.U p1)).drew).frozen? ⟨w.heap.size,0,none⟩=false):=
  ⟨(World.cell?_setCell_other _ _ _ _ (by simp<;>omega)).trans ((World.cell?_setCell_other _ _ _ _ (by simp<;>omega)).trans C2.1),by show World.frozen? ((w2.setCell ⟨aI,off+idx,none⟩ (.U p2)).setCell ⟨aI,off+T,none⟩ (.U p1)) _=false;rw [World.frozen?_setCell,World.frozen?_setCell];exact C2.2⟩
 have l1:=aT idx N;have l2:=aT T N;have l3:=dE 0 T;go_wp2_with fail
 go_region
 go_wp2;go_roundw
 case rel=>exact ⟨idx+1,C,swp dk idx T,by first | rfl | go_num,by omega,by omega,lC,HCn,by exact oV,HPn,HDn,by exact ar EA⟩
 case measure=>simp [intOf];omega}
 {
 have aQ6:¬ (L:Int)<=(O:Int):=by omega
 obtain ⟨P,eP⟩:∃ x:Nat,O=x:=⟨O,rfl⟩;subst eP;have bP:O<L:=by omega
 obtain ⟨T,eT⟩:∃ x:Nat,(a:Int)+(O:Int)=(x:Int):=⟨a+O,by omega⟩;have wT:=fH T;have bT:a<=T/\T<b:=by omega
 have qO:=aa hdk;obtain ⟨c1,f1⟩:=aa H2 idx (by omega);obtain ⟨c2,f2⟩:=aa H2 T (by omega);obtain ⟨p1,xB⟩:=aH dk[idx]!;obtain ⟨p2,xA⟩:=aH dk[T]!;rw [xB] at c1;rw [xA] at c2;obtain ⟨tt,ct⟩:=ij (q:=⟨aI,off+idx,none⟩) (u:=.U p2) c2;have oV:=ae (H2.swap (i:=idx) (j:=T) (by omega) (by omega) xA.symm xB.symm);have EA:=ae (aQ (aQ G2 (aE _ aI (off+idx) (.U p2))) (aE _ aI (off+T) (.U p1)));have HPn:Hid (PermIn a b d (swp dk idx T)):=permIn_trans _ _ _ a b hP (swp_permIn dk a b idx T (by omega) (by omega) (by omega) (by omega) (by omega));have HDn:Hid ((swp dk idx T).size=N):=by show _=_;rw [size_swp];exact qO
 have HCn:Hid ((((w2.setCell ⟨aI,off+idx,none⟩ (.U p2)).setCell ⟨aI,off+T,none⟩ (.U p1)).drew).cell? ⟨w.heap.size,0,none⟩=some (.U C)/\(((w2.setCell ⟨aI,off+idx,none⟩ (.U p2)).setCell ⟨aI,off+T,none⟩ (.U p1)).drew).frozen? ⟨w.heap.size,0,none⟩=false):=
  ⟨(World.cell?_setCell_other _ _ _ _ (by simp<;>omega)).trans ((World.cell?_setCell_other _ _ _ _ (by simp<;>omega)).trans C2.1),by show World.frozen? ((w2.setCell ⟨aI,off+idx,none⟩ (.U p2)).setCell ⟨aI,off+T,none⟩ (.U p1)) _=false;rw [World.frozen?_setCell,World.frozen?_setCell];exact C2.2⟩
 have l1:=aT idx N;have l2:=aT T N;have l3:=dE 0 T;go_wp2_with fail
 go_region
 go_wp2;go_roundw
 case rel=>exact ⟨idx+1,C,swp dk idx T,by first | rfl | go_num,by omega,by omega,lC,HCn,by exact oV,HPn,HDn,by exact ar EA⟩
 case measure=>simp [intOf];omega}}
 {
 have Mx:¬ (idx:Int)<=(J:Int)+1:=by omega
 go_wp2
 go_end0
 exact ⟨rfl,dk,hH,hP,hG⟩})
end Q
end Go.Proofs.YtcfcafeciggjeaaGreatDoor
