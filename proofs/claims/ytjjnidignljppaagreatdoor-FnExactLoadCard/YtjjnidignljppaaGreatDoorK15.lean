import Derived.Test.YtjjnidignljppaaGreatDoorK7
import Derived.Lib.BitFns
import Derived.Lib.Walk
import Derived.Lib.Small
import Derived.Lib.Strings
import Derived.Lib.Slices
import Derived.Laws.Bits64
import Derived.Laws.Bits64b
namespace Go.Proofs.YtjjnidignljppaaGreatDoor
set_option maxHeartbeats 6400000
set_option linter.all false
set_option maxRecDepth 100000
variable {a g j:Nat}{d:Array Int}{row:Option Nat}
namespace Q
open Go.Sort Go.RowKit Go.Proofs.Tryz
theorem vD(lt:Int->Int->Bool)(a:Nat):∀(j:Nat)(d:Array Int),(insInner lt a j d).size=d.size
 |0,d=>rfl
 |j+1,d=>by rw[insInner];split;{rw[vD lt a j,size_swp]};{rfl}
theorem insInner_stop(h:¬a<j\/ltInt d[j]! d[j-1]! = false):insInner ltInt a j d=d:=by
 cases j with
 |zero=>rfl
 |succ j=>
  rw[insInner,bH];rcases h with h|h;{simp;omega};{simp only[yC]at h;simp[h]}
theorem insInner_go(h:a<j)(hl:ltInt d[j]! d[j-1]! = true):insInner ltInt a j d=insInner ltInt a (j-1) (swp d j (j-1)):=by
 cases j with
 |zero=>omega
 |succ j=>
  simp only[yC]at hl⊢;rw[insInner,bN (by simp[hl];omega)]
theorem as7{blk off cap N a b:Nat}(hN:Hid (d.size=N)){w:World}(h:HU w blk off d)(Ql:a<=b)(hb:b<=N)(iO:N<=1048576):Cp 196 #[.S (some ⟨blk,off,none⟩) N cap,.I a,.I b] w fun e w'=>e=.returned (.tuple #[])/\HU w' blk off (insertionSort ltInt d a b)/\w.grownBy w' (some blk):=by
 obtain⟨D,eD⟩:=aI (insertionSort ltInt d a b);rw[eD];have ED:Hid (insOuter ltInt a b (a+1) d=D):=eD;have H0:=af h;go_enter func196,ntmps196;go_wp2_with fail
 go_loopw[6](fun s6 wr=>∃(i:Nat)(dk:Array Int),s6=.I i/\i<=1048577/\a<i/\Hid (dk.size=N)/\Hid (HU wr blk off dk)/\Hid (insOuter ltInt a b i dk=D)/\Hid (w.grownBy wr (some blk))) (fun s6 _=>b-(intOf s6).toNat)
 exact⟨a+1,d,by first|rfl|go_num,ae,ae,hN,H0,ED,qj⟩;{
 obtain⟨i,dk,rfl,q1,q2,xf,FL,heq,hg⟩:=hrel;by_cases aX:i<b;{
 have bu:=aP i b;have hq:=aa heq;rw[insOuter,bN aX]at hq;obtain⟨E,eE⟩:=aI (insInner ltInt a i dk);rw[eE]at hq;have HQ:=af hq;have EE:=af eE;have hEs:Hid (E.size=N):=by show _=_;rw[<-eE,vD];exact aa xf
 go_wp2_with fail;obtain⟨Y,eY⟩:=au wr;subst eY;have HG0:=hg
 go_loopw[7](fun s7 wr=>∃(j:Nat)(dj:Array Int),s7=.I j/\j<=i/\a<=j/\Hid (dj.size=N)/\Hid (HU wr blk off dj)/\Hid (insInner ltInt a j dj=E)/\Hid (w.grownBy wr (some blk))) (fun s7 _=>(intOf s7).toNat)
 exact⟨i,dk,rfl,jS _,ae,xf,FL,EE,HG0⟩;{
 obtain⟨j,dj,rfl,q3,q4,hdj,GP,Se,hg⟩:=hrel;by_cases hja:a<j;{
 have ce5:=aP a j;obtain⟨m,em⟩:∃m:Nat,(j:Int)-1=(m:Int):=⟨j-1,ae⟩;have em0:j-1=m:=ae;have OY:=aa hdj;obtain⟨cj,fj⟩:=aa GP j ae;obtain⟨cm,fm⟩:=aa GP m ae;obtain⟨y,ey⟩:=aI dj[j]!;obtain⟨z,ez⟩:=aI dj[m]!;have RH:=af (GP.swap (i:=j) (j:=m) ae ae ez.symm ey.symm);rw[ey]at cj;rw[ez]at cm;have i1:=aP j N;have i2:=aP m N;have i3:=dw 0 m;have wm:=dZ m;obtain⟨B,eB⟩:=aI (ltInt y z);have EB:=af eB;have uJ:Hid (B=false->dj=E):=fun hB=>by rw[<-aa Se,insInner_stop (.inr (by rw[em0,ey,ez,eB,hB]))]
 have HGO:Hid (B=true->insInner ltInt a m (swp dj j m)=E):=fun hB=>by rw[<-aa Se,insInner_go hja (by rw[em0,ey,ez,eB,hB]),em0]
 have tC:Hid ((swp dj j m).size=N):=by show _=_;rw[size_swp];exact OY
 have HG:=af (aY (aY hg (aD wr blk (off+j) (.U z))) (aD _ blk (off+m) (.U y)));have K0:=af (ah cj cm);have FF:=af (ah fj fm);go_wp2_with fail
 go_cut[30](fun rv wc=>rv=.bool B/\wc=wr.drew)
 case first=>(
 refine dy (fun w'=>w'.cell? ⟨blk,off+j,none⟩=some (.U y)/\w'.cell? ⟨blk,off+m,none⟩=some (.U z)) (by exact K0) fun hS=>?_;refine mn 0 1 2 3 4 5 6 7 hS ?_;refine mu 8 9 10 11 hS ?_;refine tn 12 hS ?_;refine ry [13] ?_;refine cn (fun KK hK=>?_) ?_;{refine cX aH aH aH aH (fun _=>fT) (fQ) ?_;rintro r w2⟨rfl,rfl⟩;refine⟨_,rfl,?_⟩;rw[aa EB];refine gr hK (by exact K0) fun hS=>?_;refine tn 14 hS ?_;refine di ?_;go_wp2_with fail;go_meet;exact⟨rfl,rfl⟩};exact AllReadyH.nil)
 obtain⟨rfl,rfl⟩:=hcut;cases B with
 |false=>
  have e:=aa uJ rfl;subst e;go_wp2;go_roundw;exact⟨i+1,dj,by go_num,ae,ae,hdj,GP.drew,HQ,ar hg⟩;exact bG
 |true=>
  have e:=af (aa HGO rfl);obtain⟨cj,cm⟩:=aa K0;obtain⟨fj,fm⟩:=aa FF;go_wp2_with fail
  go_region
  go_wp2;go_roundw;exact⟨m,swp dj j m,by first|rfl|go_num,ae,ae,tC,(aa RH),e,ar (ar HG)⟩;exact bG};{
 have ce5:=du a j;have e:dj=E:=by rw[<-aa Se,insInner_stop (.inl hja)]
 subst e;go_wp2_with fail
 go_cut[30](fun rv wc=>rv=.bool false/\wc=wr.drew)
 case first=>(
 refine dy (fun w'=>True) jW fun hS=>?_;refine mu 0 1 2 3 hS ?_;refine nK 4 5 6 7 hS ?_;refine nK 8 9 10 11 hS ?_;refine sn 12 hS ?_;refine sn 13 hS ?_;refine tn 14 hS ?_;refine di ?_;go_wp2_with fail;go_meet;exact⟨rfl,rfl⟩)
 obtain⟨rfl,rfl⟩:=hcut;go_wp2;go_roundw;exact⟨i+1,dj,by go_num,ae,ae,hdj,GP.drew,HQ,ar hg⟩
 case measure=>simp[intOf];omega}}}
 {
 have bu:=du i b;have hq:=aa heq;rw[insOuter,bH aX]at hq;subst hq;go_wp2
 go_end0
 exact⟨rfl,FL,hg⟩}}
end Q
namespace Q
open Go.Sort Go.RowKit Go.Proofs.Tryz
def Yb{hi first r:Nat}(h:¬2*r+1<hi):siftDown ltInt hi first r d=d:=by
 rw[siftDown,NR ae]
def W8(hi first r:Nat)(d:Array Int):Nat:=if 2*r+1+1<hi&&ltInt d[first+(2*r+1)]! d[first+(2*r+1)+1]! then 2*r+2 else 2*r+1
def Ai{hi first r:Nat}(h:2*r+1<hi)(hl:ltInt d[first+r]! d[first+W8 hi first r d]! = false):siftDown ltInt hi first r d=d:=by
 rw[siftDown,dif_neg ae];unfold W8 at hl;split;{next hc=>rw[bN hc]at hl;rw[bN (by simp[hl])]}
 {next hc=>rw[bH hc]at hl;rw[bN (by simp[hl])]}
def JR{hi first r:Nat}(h:2*r+1<hi)(hl:ltInt d[first+r]! d[first+W8 hi first r d]! = true):siftDown ltInt hi first r d=siftDown ltInt hi first (W8 hi first r d) (swp d (first+r) (first+W8 hi first r d)):=by
 rw[siftDown,dif_neg ae];unfold W8 at hl⊢;split;{
 next hc=>
 rw[bN hc]at hl;rw[bH (by simp[hl])];have:2*r+2<hi:=by simp at hc;omega
 rw[NR this]};{
 next hc=>
 rw[bH hc]at hl;rw[bH (by simp[hl])]}
theorem MV{blk off cap N lo hi first:Nat}(hN:Hid (d.size=N)){w:World}(h:HU w blk off d)(hh:first+hi<=N)(UC:lo<=N)(iO:N<=1048576):Cp 224 #[.S (some ⟨blk,off,none⟩) N cap,.I lo,.I hi,.I first] w fun e w'=>e=.returned (.tuple #[])/\HU w' blk off (siftDown ltInt hi first lo d)/\w.grownBy w' (some blk):=by
 obtain⟨D,eD⟩:=aI (siftDown ltInt hi first lo d);rw[eD];have ED:=af eD;have H0:=af h;go_enter func224,ntmps224;go_wp2_with fail
 go_loopw[8](fun s8 wr=>∃(r:Nat)(dk:Array Int),s8=.I r/\r<=1048576/\Hid (dk.size=N)/\Hid (HU wr blk off dk)/\Hid (siftDown ltInt hi first r dk=D)/\Hid (w.grownBy wr (some blk))) (fun s8 _=>hi-(intOf s8).toNat)
 exact⟨lo,d,rfl,ae,hN,H0,ED,qj⟩;{
 obtain⟨r,dk,rfl,q1,xf,FL,heq,hg⟩:=hrel;have w1:IntKind.i64.wrap (2*(r:Int))=2*(r:Int):=ni _ ae;obtain⟨c,ec⟩:∃c:Nat,2*(r:Int)+1=(c:Int):=⟨2*r+1,ae⟩;have ec0:2*r+1=c:=ae;have wc:=dZ c;by_cases aX:c<hi;{
 have bu:¬(hi:Int)<=(c:Int):=ae;have Lh:=aa xf;obtain⟨c2,ec2⟩:∃c2:Nat,(c:Int)+1=(c2:Int):=⟨c+1,ae⟩;have wc2:=dZ c2;obtain⟨fr,efr⟩:∃x:Nat,(first:Int)+(r:Int)=(x:Int):=⟨first+r,ae⟩;have wfr:=dZ fr;obtain⟨fc,efc⟩:∃x:Nat,(first:Int)+(c:Int)=(x:Int):=⟨first+c,ae⟩;have wfc:=dZ fc;obtain⟨fd,efd⟩:∃x:Nat,(fc:Int)+1=(x:Int):=⟨fc+1,ae⟩;have wfd:=dZ fd;have dz8:(first:Int)+(c2:Int)=(fd:Int):=ae;have n1:first+r=fr:=ae
 have n2:first+c=fc:=ae
 have n3:fc+1=fd:=ae;have n4:2*r+2=c2:=ae;obtain⟨cr,frr⟩:=aa FL fr ae;obtain⟨cc,fcc⟩:=aa FL fc ae;obtain⟨y,ey⟩:=aI dk[fr]!;obtain⟨z,ez⟩:=aI dk[fc]!;rw[ey]at cr;rw[ez]at cc;have j1:=aP fr N;have j2:=aP fc N;have K1:=af (ah cr cc);have F1:=af (ah frr fcc);by_cases js:c2<hi;{
 have ch9:=aP c2 hi;obtain⟨cd,fdd⟩:=aa FL fd ae;obtain⟨x,ex⟩:=aI dk[fd]!;rw[ex]at cd;have j3:=aP fd N;obtain⟨B,eB⟩:=aI (ltInt z x);have EB:=af eB;have Sa:W8 hi first r dk=if B then c2 else c:=by unfold W8;rw[ec0,n4,n2,n3,ez,ex,eB];simp only[show decide (c+1<hi)=true by(rw[oq];omega),ox]
 have K2:=af (ah K1.2 cd);have bE3:=af Sa;have HX:=af (ah ex (ah cd fdd));have xE:=af (ah ec0 (ah n1 (ah n2 (ah n3 n4))));have HE:=af (ah ey ez);go_wp2_with fail
 go_cut[36](fun rv wc=>rv=.bool B/\wc=wr.drew)
 case first=>(
 refine dy (fun w'=>w'.cell? ⟨blk,off+fc,none⟩=some (.U z)/\w'.cell? ⟨blk,off+fd,none⟩=some (.U x)) (by exact K2) fun hS=>?_;refine mn 0 1 2 3 4 5 6 7 hS ?_;refine mn 8 9 10 11 12 13 14 15 hS ?_;refine jZ 16 17 hS ?_;refine ry [18] ?_;refine cn (fun KK hK=>?_) ?_;{refine cX aH aH aH aH (fun _=>fT) (fQ) ?_;rintro r' w2⟨rfl,rfl⟩;refine⟨_,rfl,?_⟩;rw[aa EB];refine gr hK (by exact K2) fun hS=>?_;refine tn 19 hS ?_;refine di ?_;go_wp2_with fail;go_meet;exact⟨rfl,rfl⟩};exact AllReadyH.nil)
 obtain⟨rfl,rfl⟩:=hcut;cases B with
 |true=>
  have JB:Hid (W8 hi first r dk=c2):=by show _=_;rw[aa bE3];rfl
  obtain⟨ex,cd,fdd⟩:=aa HX;obtain⟨cr,-⟩:=aa K1;obtain⟨frr,-⟩:=aa F1;obtain⟨B2,Qp⟩:=aI (ltInt y x);have EB2:=af Qp;have Uz:first+c2=fd:=by have:=aa xE;omega
  have lG:first+r=fr:=xE.2.1
  have uJ:Hid (B2=false->dk=D):=fun hB=>by rw[<-aa heq,Ai (by have:=xE.1;omega) (by rw[aa JB,Uz,lG,HE.1,ex,Qp,hB])]
  have HGO:Hid (B2=true->siftDown ltInt hi first c2 (swp dk fr fd)=D):=fun hB=>by have:=aa heq;rw[JR (by have:=xE.1;omega) (by rw[aa JB,Uz,lG,HE.1,ex,Qp,hB]),aa JB,Uz,lG]at this;exact this
  have Lh:=aa xf;have RH:=af (FL.swap (i:=fr) (j:=fd) ae ae ex.symm HE.1.symm);have tC:Hid ((swp dk fr fd).size=N):=by show _=_;rw[size_swp];exact Lh
  have HG:=af (aY (aY hg (aD wr blk (off+fr) (.U x))) (aD _ blk (off+fd) (.U y)));have K3:=af (ah cr cd);have F3:=af (ah frr fdd);have hrc:r<c2:=by have:=aa xE;omega
  go_wp2_with fail
  go_cut[52](fun rv wc=>rv=.bool (!B2)/\wc=wr.drew.drew)
  case first=>(
 refine dy (fun w'=>w'.cell? ⟨blk,off+fr,none⟩=some (.U y)/\w'.cell? ⟨blk,off+fd,none⟩=some (.U x)) (by exact K3) fun hS=>?_;refine mn 0 1 2 3 4 5 6 7 hS ?_;refine mu 8 9 10 11 hS ?_;refine ry [12] ?_;refine cn (fun KK hK=>?_) ?_;{refine cX aH aH aH aH (fun _=>fT) (fQ) ?_;rintro r' w2⟨rfl,rfl⟩;refine⟨_,rfl,?_⟩;rw[aa EB2];refine gr hK (by exact K3) fun hS=>?_;refine tn 13 hS ?_;refine di ?_;go_wp2_with fail;go_meet;exact⟨rfl,rfl⟩};exact AllReadyH.nil)
  obtain⟨rfl,rfl⟩:=hcut;cases B2 with
  |false=>
   have e:=aa uJ rfl;subst e;go_wp2;exact fL (wD (h:=rfl) _ _ _) rfl ⟨rfl,FL,ar (ar hg)⟩
  |true=>
   have e:=af (aa HGO rfl);obtain⟨cr,cd⟩:=aa K3;obtain⟨frr,fdd⟩:=aa F3;go_wp2_with fail
   go_region
   go_wp2;go_roundw;exact⟨c2,swp dk fr fd,rfl,ae,tC,(aa RH),e,ar (ar (ar HG))⟩;exact bG
 |false=>
  have JB:Hid (W8 hi first r dk=c):=by show _=_;rw[aa bE3];rfl
  have ex:=HE.2;have cd:=K1.2;have fdd:=F1.2;obtain⟨cr,-⟩:=aa K1;obtain⟨frr,-⟩:=aa F1;obtain⟨B2,Qp⟩:=aI (ltInt y z);have EB2:=af Qp;have Uz:first+c=fc:=by have:=aa xE;omega
  have lG:first+r=fr:=xE.2.1
  have uJ:Hid (B2=false->dk=D):=fun hB=>by rw[<-aa heq,Ai (by have:=xE.1;omega) (by rw[aa JB,Uz,lG,HE.1,ex,Qp,hB])]
  have HGO:Hid (B2=true->siftDown ltInt hi first c (swp dk fr fc)=D):=fun hB=>by have:=aa heq;rw[JR (by have:=xE.1;omega) (by rw[aa JB,Uz,lG,HE.1,ex,Qp,hB]),aa JB,Uz,lG]at this;exact this
  have Lh:=aa xf;have RH:=af (FL.swap (i:=fr) (j:=fc) ae ae ex.symm HE.1.symm);have tC:Hid ((swp dk fr fc).size=N):=by show _=_;rw[size_swp];exact Lh
  have HG:=af (aY (aY hg (aD wr blk (off+fr) (.U z))) (aD _ blk (off+fc) (.U y)));have K3:=af (ah cr cd);have F3:=af (ah frr fdd);have hrc:r<c:=by have:=aa xE;omega
  go_wp2_with fail
  go_cut[52](fun rv wc=>rv=.bool (!B2)/\wc=wr.drew.drew)
  case first=>(
 refine dy (fun w'=>w'.cell? ⟨blk,off+fr,none⟩=some (.U y)/\w'.cell? ⟨blk,off+fc,none⟩=some (.U z)) (by exact K3) fun hS=>?_;refine mn 0 1 2 3 4 5 6 7 hS ?_;refine mu 8 9 10 11 hS ?_;refine ry [12] ?_;refine cn (fun KK hK=>?_) ?_;{refine cX aH aH aH aH (fun _=>fT) (fQ) ?_;rintro r' w2⟨rfl,rfl⟩;refine⟨_,rfl,?_⟩;rw[aa EB2];refine gr hK (by exact K3) fun hS=>?_;refine tn 13 hS ?_;refine di ?_;go_wp2_with fail;go_meet;exact⟨rfl,rfl⟩};exact AllReadyH.nil)
  obtain⟨rfl,rfl⟩:=hcut;cases B2 with
  |false=>
   have e:=aa uJ rfl;subst e;go_wp2;exact fL (wD (h:=rfl) _ _ _) rfl ⟨rfl,FL,ar (ar hg)⟩
  |true=>
   have e:=af (aa HGO rfl);obtain⟨cr,cd⟩:=aa K3;obtain⟨frr,fdd⟩:=aa F3;go_wp2_with fail
   go_region
   go_wp2;go_roundw;exact⟨c,swp dk fr fc,rfl,ae,tC,(aa RH),e,ar (ar (ar HG))⟩;exact bG};{
 have ch9:=du c2 hi;have JB:Hid (W8 hi first r dk=c):=by show _=_;unfold W8;rw[bH bj,ec0]
 have xE:=af (ah ec0 (ah n1 (ah n2 (ah n3 n4))));have HE:=af (ah ey ez);have ex:=HE.2;have cd:=K1.2;have fdd:=F1.2;go_wp2_with fail
 go_cut[36](fun rv wc=>rv=.bool false/\wc=wr.drew)
 case first=>(
 refine dy (fun w'=>True) jW fun hS=>?_;refine mu 0 1 2 3 hS ?_;refine tn 4 hS ?_;refine nK 5 6 7 8 hS ?_;refine nK 9 10 11 12 hS ?_;refine nK 13 14 15 16 hS ?_;refine sn 17 hS ?_;refine sn 18 hS ?_;refine tn 19 hS ?_;refine di ?_;go_wp2_with fail;go_meet;exact⟨rfl,rfl⟩)
 obtain⟨rfl,rfl⟩:=hcut;obtain⟨cr,-⟩:=aa K1;obtain⟨frr,-⟩:=aa F1;obtain⟨B2,Qp⟩:=aI (ltInt y z);have EB2:=af Qp;have Uz:first+c=fc:=by have:=aa xE;omega
 have lG:first+r=fr:=xE.2.1
 have uJ:Hid (B2=false->dk=D):=fun hB=>by rw[<-aa heq,Ai (by have:=xE.1;omega) (by rw[aa JB,Uz,lG,HE.1,ex,Qp,hB])]
 have HGO:Hid (B2=true->siftDown ltInt hi first c (swp dk fr fc)=D):=fun hB=>by have:=aa heq;rw[JR (by have:=xE.1;omega) (by rw[aa JB,Uz,lG,HE.1,ex,Qp,hB]),aa JB,Uz,lG]at this;exact this
 have Lh:=aa xf;have RH:=af (FL.swap (i:=fr) (j:=fc) ae ae ex.symm HE.1.symm);have tC:Hid ((swp dk fr fc).size=N):=by show _=_;rw[size_swp];exact Lh
 have HG:=af (aY (aY hg (aD wr blk (off+fr) (.U z))) (aD _ blk (off+fc) (.U y)));have K3:=af (ah cr cd);have F3:=af (ah frr fdd);have hrc:r<c:=by have:=aa xE;omega
 go_wp2_with fail
 go_cut[52](fun rv wc=>rv=.bool (!B2)/\wc=wr.drew.drew)
 case first=>(
 refine dy (fun w'=>w'.cell? ⟨blk,off+fr,none⟩=some (.U y)/\w'.cell? ⟨blk,off+fc,none⟩=some (.U z)) (by exact K3) fun hS=>?_;refine mn 0 1 2 3 4 5 6 7 hS ?_;refine mu 8 9 10 11 hS ?_;refine ry [12] ?_;refine cn (fun KK hK=>?_) ?_;{refine cX aH aH aH aH (fun _=>fT) (fQ) ?_;rintro r' w2⟨rfl,rfl⟩;refine⟨_,rfl,?_⟩;rw[aa EB2];refine gr hK (by exact K3) fun hS=>?_;refine tn 13 hS ?_;refine di ?_;go_wp2_with fail;go_meet;exact⟨rfl,rfl⟩};exact AllReadyH.nil)
 obtain⟨rfl,rfl⟩:=hcut;cases B2 with
 |false=>
  have e:=aa uJ rfl;subst e;go_wp2;exact fL (wD (h:=rfl) _ _ _) rfl ⟨rfl,FL,ar (ar hg)⟩
 |true=>
  have e:=af (aa HGO rfl);obtain⟨cr,cd⟩:=aa K3;obtain⟨frr,fdd⟩:=aa F3;go_wp2_with fail
  go_region
  go_wp2;go_roundw;exact⟨c,swp dk fr fc,rfl,ae,tC,(aa RH),e,ar (ar (ar HG))⟩;exact bG}};{
 have bu:=iE hi c;have hq:=aa heq;rw[Yb ae]at hq;subst hq;go_wp2
 first
  |exact fL (wD (h:=rfl) _ _ _) rfl ⟨rfl,FL,hg⟩
  |(go_end0;exact⟨rfl,FL,hg⟩)}}
end Q
namespace Q
open Go.Sort Go.RowKit Go.Proofs.Tryz
theorem IK(lt:Int->Int->Bool)(hi first:Nat):∀(k r:Nat)(d:Array Int),hi-r<=k->(siftDown lt hi first r d).size=d.size:=by
 intro k
 induction k with
 |zero=>intro r d hk;rw[siftDown,NR ae]
 |succ k ih=>
  intro r d hk;rw[siftDown];split;{rfl}
  {
 split;{
 split;{rfl}
 {split;{rw[ih _ _ ae,size_swp]};{rfl}}}
 {
 split;{rfl}
 {rw[ih _ _ ae,size_swp]}}}
def aa5{blk off cap N a b:Nat}(hN:Hid (d.size=N)){w:World}(h:HU w blk off d)(Ql:a<=b)(hb:b<=N)(iO:N<=1048576):Cp 197 #[.S (some ⟨blk,off,none⟩) N cap,.I a,.I b] w fun e w'=>e=.returned (.tuple #[])/\HU w' blk off (heapSort ltInt d a b)/\w.grownBy w' (some blk):=by
 obtain⟨D,eD⟩:=aI (heapSort ltInt d a b);rw[eD];obtain⟨H,eH⟩:∃H:Nat,(b:Int)-(a:Int)=(H:Int):=⟨b-a,ae⟩;have eH0:b-a=H:=ae;have wH:=dZ H;unfold heapSort at eD;rw[eH0]at eD;obtain⟨M,eM⟩:=aI (heapBuild ltInt H a ((H-1) / 2+1) d);rw[eM]at eD;have ED:=af eD;have EM:=af eM;have H0:=af h;have hHN:a+H<=N:=ae;have HE0:=af eH0;have w1:IntKind.i64.wrap ((H:Int)-1)=(H:Int)-1:=ni _ ae;obtain⟨q,eq⟩:∃q:Int,Int.tdiv ((H:Int)-1) 2=q:=⟨_,rfl⟩;have hq:q=((H-1) / 2:Nat):=by rw[<-eq];by_cases hz:H=0;{subst hz;decide};{rw[show(H:Int)-1=((H-1:Nat):Int) by omega];exact(YY _ _).symm}
 have hq1:0<=q:=ae;have hq2:q<=1048576:=ae;have wq:IntKind.i64.wrap q=q:=ni _ ae;have HQ:=af hq;clear eD eM h eH0 hq;go_enter func197,ntmps197;go_wp2_with fail
 go_loopw[9](fun s9 wr=>∃(iz:Int)(k:Nat)(dk:Array Int),s9=.I iz/\iz=(k:Int)-1/\k<=H+1/\Hid (dk.size=N)/\Hid (HU wr blk off dk)/\Hid (heapBuild ltInt H a k dk=M)/\Hid (w.grownBy wr (some blk))) (fun s9 _=>(intOf s9+1).toNat)
 exact⟨q,(H-1) / 2+1,d,rfl,by have:=aa HQ;omega,ae,hN,H0,EM,qj⟩;{
 obtain⟨iz,k,dk,rfl,hk,hiz,xf,FL,heq,hg⟩:=hrel;have HK:=af hk;by_cases hz:0<=iz;{
 obtain⟨m,em⟩:∃m:Nat,iz=(m:Int):=⟨iz.toNat,ae⟩;have ek:k=m+1:=ae;subst ek;clear hk HK;subst em;have Mi:=dw 0 m;have uw:=aa heq;rw[heapBuild]at uw;have HQ2:=af uw;have cf9:Hid ((siftDown ltInt H a m dk).size=N):=by show _=_;rw[IK ltInt H a _ m dk ao];exact aa xf
 have hm:m<=N:=ae;clear uw heq;go_wp2_with fail;refine(MV xf FL hHN hm iO).mono ?_;rintro e w2⟨rfl,zF,ga⟩;have HG:=af (aY hg ga);have HH2:=af zF;clear ga zF;go_wp2;go_roundw;exact⟨(m:Int)-1,m,_,by first|rfl|go_num,ae,ae,cf9,HH2,HQ2,HG⟩
 case measure=>first|(simp[intOf];done)|(simp[intOf];omega)}
 {
 have ek:k=0:=ae;subst ek;have eM:dk=M:=aa heq;subst eM;clear hk HK;go_wp2_with fail;obtain⟨Y,eY⟩:=au wr;subst eY;have HG0:=hg;clear hg hz
 go_loopw[10](fun Q7 wr=>∃(iz:Int)(k:Nat)(dj:Array Int),Q7=.I iz/\iz=(k:Int)-1/\k<=H/\Hid (dj.size=N)/\Hid (HU wr blk off dj)/\Hid (heapPop ltInt a k dj=D)/\Hid (w.grownBy wr (some blk))) (fun Q7 _=>(intOf Q7+1).toNat)
 exact⟨(H:Int)-1,H,dk,rfl,rfl,jS _,xf,FL,ED,HG0⟩;{
 obtain⟨iz,k,dj,rfl,hk,hiz,hdj,GP,Se,hg⟩:=hrel;by_cases hz:0<=iz;{
 obtain⟨m,em⟩:∃m:Nat,iz=(m:Int):=⟨iz.toNat,ae⟩;have ek:k=m+1:=ae;subst ek;clear hk;subst em;have Mi:=dw 0 m;obtain⟨f,ef⟩:∃x:Nat,(a:Int)+(m:Int)=(x:Int):=⟨a+m,ae⟩;have wf:=dZ f;have ef0:a+m=f:=ae;have OY:=aa hdj;obtain⟨ca,fa⟩:=aa GP a ae;obtain⟨cf,ff⟩:=aa GP f ae;obtain⟨y,ey⟩:=aI dj[a]!;obtain⟨z,ez⟩:=aI dj[f]!;rw[ey]at ca;rw[ez]at cf;obtain⟨tt,ct⟩:=jw (q:=⟨blk,off+a,none⟩) (u:=.U z) cf;have i1:=aP a N;have i2:=aP f N;have uw:=aa Se;rw[heapPop,ef0]at uw;have HQ2:=af uw;have HSW:=af (GP.swap (i:=a) (j:=f) ae ae ez.symm ey.symm);have tC:Hid ((swp dj a f).size=N):=by show _=_;rw[size_swp];exact OY
 have HS3:Hid ((siftDown ltInt m a 0 (swp dj a f)).size=N):=by show _=_;rw[IK ltInt m a _ 0 _ ao];exact aa tC
 have HG:=af (aY (aY hg (aD wr blk (off+a) (.U z))) (aD _ blk (off+f) (.U y)));have xx:a+m<=N:=ae;clear ey ez OY uw Se ef0;go_wp2_with fail
 go_region
 go_wp2_with fail;refine(MV tC (by exact HSW) xx (gq _) iO).mono ?_;rintro e w2⟨rfl,zF,ga⟩;have HG2:=af (aY (ar HG) ga);have HH2:=af zF;clear ga zF ca cf fa ff ct;go_wp2;go_roundw;exact⟨(m:Int)-1,m,_,by first|rfl|go_num,rfl,ae,HS3,HH2,HQ2,HG2⟩
 case measure=>first|(simp[intOf];done)|(simp[intOf];omega)}
 {
 have ek:k=0:=ae;subst ek;have eD:dj=D:=aa Se;subst eD;clear hk;go_wp2
 go_end0
 exact⟨rfl,GP,hg⟩}}}}
end Q
namespace Q
open Go.Sort Go.RowKit Go.Proofs.Tryz
structure WX(w:World)(g:Nat)(S:Int):Prop where
 cell:w.cell? ⟨g,0,none⟩=some (.I S)
 fr:w.frozen? ⟨g,0,none⟩=false
def WX.drew{w:World}{S:Int}(h:WX w g S):WX w.drew g S:=⟨h.cell,h.fr⟩
def WX.set{w:World}{S T:Int}(h:WX w g S):WX (w.setCell ⟨g,0,none⟩ (.I T)) g T:=
 ⟨Bx _ _ _ h.cell,by rw[CF];exact h.fr⟩
def HU.aside{w:World}{blk off g o:Nat}{v:Value}(h:HU w blk off d)(cg:g≠blk):HU (w.setCell ⟨g,o,none⟩ v) blk off d:=
 h.kept (fy _ _ _ _ (fun e=>cg (by simpa using e.symm)))
theorem vX{blk off cap N g x y:Nat}{S:Int}(hN:Hid (d.size=N)){w:World}(h:HU w blk off d)(hx:x<N)(hy:y<N)(iO:N<=1048576)(hg:g≠blk)(hc:WX w g S)(hS:0<=S)(Qn:S<=1000):Cp 235 #[.S (some ⟨blk,off,none⟩) N cap,.I x,.I y,.pointer (some ⟨g,0,none⟩)] w fun e w'=>
   ∃(x' y':Nat)(S':Int),e=.returned (.tuple #[.I x',.I y'])/\((x'=x/\y'=y)\/(x'=y/\y'=x))/\S<=S'/\S'<=S+1/\WX w' g S'/\HU w' blk off d/\w.grownBy w' (some g):=by
 have xf:=aa hN;obtain⟨cx,-⟩:=h x ae;obtain⟨cy,-⟩:=h y ae;obtain⟨u,eu⟩:=aI d[x]!;obtain⟨v,ev⟩:=aI d[y]!;rw[eu]at cx;rw[ev]at cy;have k1:=aP x N;have k2:=aP y N;obtain⟨B,eB⟩:=aI (ltInt v u);have EB:=af eB;have K0:=af (ah cx cy);have H0:=af h;have C0:=af hc;have Dz:=hc.cell;have xB:=hc.fr;go_enter func235,ntmps235;go_wp2_with fail
 go_cut[18](fun rv wc=>rv=.bool B/\wc=w.drew)
 case first=>(
 refine dy (fun w'=>w'.cell? ⟨blk,off+x,none⟩=some (.U u)/\w'.cell? ⟨blk,off+y,none⟩=some (.U v)) (by exact K0) fun hS=>?_;refine mn 0 1 2 3 4 5 6 7 hS ?_;refine ry [8] ?_;refine cn (fun KK hK=>?_) ?_;{refine cX aH aH aH aH (fun _=>fT) (fQ) ?_;rintro r' w2⟨rfl,rfl⟩;refine⟨_,rfl,?_⟩;rw[aa EB];refine gr hK (by exact K0) fun hS=>?_;refine di ?_;go_wp2_with fail;go_meet;exact⟨rfl,rfl⟩};exact AllReadyH.nil)
 obtain⟨rfl,rfl⟩:=hcut;cases B with
 |true=>
  go_wp2
  go_ret2
  exact⟨y,x,S+1,rfl,.inr ⟨rfl,rfl⟩,ae,ae,C0.drew.set,(H0.drew).aside hg,aY (ar (qj)) (aD _ g 0 _)⟩
 |false=>
  go_wp2
  go_ret2
  exact⟨x,y,S,rfl,.inl ⟨rfl,rfl⟩,ae,ae,C0.drew,H0.drew,ar (qj)⟩
def vZ{blk off cap N g x y z:Nat}{S:Int}(hN:Hid (d.size=N)){w:World}(h:HU w blk off d)(hx:x<N)(hy:y<N)(hz:z<N)(iO:N<=1048576)(hg:g≠blk)(hc:WX w g S)(hS:0<=S)(Qn:S<=900):Cp 228 #[.S (some ⟨blk,off,none⟩) N cap,.I x,.I y,.I z,.pointer (some ⟨g,0,none⟩)] w fun e w'=>
   ∃(m:Nat)(S':Int),e=.returned (.I m)/\(m=x\/m=y\/m=z)/\S<=S'/\S'<=S+3/\WX w' g S'/\HU w' blk off d/\w.grownBy w' (some g):=by
 have H0:=af h;have C0:=af hc;go_enter func228,ntmps228;go_wp2_with fail;refine(vX hN H0 hx hy iO hg C0 hS ae).mono ?_;rintro e w1⟨x1,y1,S1,rfl,hxy,s1,s2,iD,AI,fU⟩;have C1:=af iD;have H1:=af AI;have G1:=af fU;have XY:=af hxy;have x1N:x1<N:=ae;have y1N:y1<N:=ae;go_wp2_with fail;refine(vX hN H1 y1N hz iO hg C1 ae ae).mono ?_;rintro e w2⟨y2,z2,S2,rfl,hyz,s3,s4,js,zF,ga⟩;have C2:=af js;have H2:=af zF;have G2:=af ga;have YZ:=af hyz;have y2N:y2<N:=ae;go_wp2_with fail;refine(vX hN H2 x1N y2N iO hg C2 ae ae).mono ?_;rintro e w3⟨x3,y3,S3,rfl,bZ7,s5,s6,Cb,Lo,tz⟩;have C3:=af Cb;have H3:=af Lo;have G3:=af tz;have XY3:=af bZ7;go_wp2;go_ret;exact⟨y3,S3,rfl,by have:=aa XY;have:=aa YZ;have:=aa XY3;omega,ae,ae,C3,H3,aY G1 (aY G2 G3)⟩
def qG{blk off cap N g x:Nat}{S:Int}(hN:Hid (d.size=N)){w:World}(h:HU w blk off d)(hx:1<=x)(VR:x+1<N)(iO:N<=1048576)(hg:g≠blk)(hc:WX w g S)(hS:0<=S)(Qn:S<=900):Cp 227 #[.S (some ⟨blk,off,none⟩) N cap,.I x,.pointer (some ⟨g,0,none⟩)] w fun e w'=>
   ∃(m:Nat)(S':Int),e=.returned (.I m)/\x<=m+1/\m<=x+1/\S<=S'/\S'<=S+3/\WX w' g S'/\HU w' blk off d/\w.grownBy w' (some g):=by
 have H0:=af h;have C0:=af hc;obtain⟨m,em⟩:∃m:Nat,(x:Int)-1=(m:Int):=⟨x-1,ae⟩;obtain⟨n,en⟩:∃n:Nat,(x:Int)+1=(n:Int):=⟨x+1,ae⟩;have wm:=dZ m;have wn:=dZ n;have mN:m<N:=ae;have nN:n<N:=ae;have xN:x<N:=ae;go_enter func227,ntmps227;go_wp2_with fail;refine(vZ hN H0 mN xN nN iO hg C0 hS Qn).mono ?_;rintro e w1⟨r,S1,rfl,hr,s1,s2,iD,AI,fU⟩;have C1:=af iD;have H1:=af AI;have G1:=af fU;have HR:=af hr;go_wp2;go_ret;exact⟨r,S1,rfl,by have:=aa HR;omega,by have:=aa HR;omega,s1,s2,C1,H1,G1⟩
end Q
namespace Q
open Go.Sort Go.RowKit Go.Proofs.Tryz
def uD{w:World}{o:Obj}:w.grownBy (w.alloc o) row:=World.grownBy_alloc w o row
def AJ{w w1 w2:World}(h:w.grownBy w1 row)(k:w1.grownBy w2 (some g))(hg:w.heap.size<=g):w.grownBy w2 row:=
 ⟨k.os.trans h.os,k.tape.trans h.tape,k.output.trans h.output,fW h.size k.size,fun i hi cg=>(k.block i (kV hi h.size) (fun e=>by
  have:i=g:=by simpa using e
  omega)).trans (h.block i hi cg)⟩
def HU.alloc{w:World}{blk off:Nat}(h:HU w blk off d)(hb:blk<w.heap.size)(o:Obj):HU (w.alloc o) blk off d:=
 h.kept (RowKit.Below.heap_alloc w o blk hb)
def Vu{blk off cap N a b:Nat}(hN:Hid (d.size=N)){w:World}(h:HU w blk off d)(ji:blk<w.heap.size)(Ql:a+8<=b)(hb:b<=N)(iO:N<=1048576):Cp 199 #[.S (some ⟨blk,off,none⟩) N cap,.I a,.I b] w fun e w'=>
   ∃(p:Nat)(t:Int),e=.returned (.tuple #[.I p,.I t])/\a<=p/\p<b/\HU w' blk off d/\w.grownBy w' (some blk):=by
 obtain⟨L,eL⟩:∃x:Nat,(b:Int)-(a:Int)=(x:Int):=⟨b-a,ae⟩;have wL:=dZ L;obtain⟨Q,eQ⟩:=aI (L / 4);have eQ1:Int.tdiv (L:Int) 4=(Q:Int):=by rw[<-eQ];exact(YY L 4).symm
 have eQ2:(L:Int) / 4=(Q:Int):=ae;have wQ:=dZ Q;have wQ2:IntKind.i64.wrap ((Q:Int)*2)=(Q:Int)*2:=ni _ ae;have wQ3:IntKind.i64.wrap ((Q:Int)*3)=(Q:Int)*3:=ni _ ae;obtain⟨I,eI⟩:∃x:Nat,(a:Int)+(Q:Int)=(x:Int):=⟨a+Q,ae⟩;obtain⟨J,eJ⟩:∃x:Nat,(a:Int)+(Q:Int)*2=(x:Int):=⟨a+Q*2,ae⟩;obtain⟨K,eK⟩:∃x:Nat,(a:Int)+(Q:Int)*3=(x:Int):=⟨a+Q*3,ae⟩;have wI:=dZ I;have wJ:=dZ J;have wK:=dZ K;have bI:a+2<=I/\I+6<=b:=ae;have bJ:a+2<=J/\J+2<b:=ae;have bK:a+2<=K/\K+1<b:=ae;have h8:=dw 8 L;have hg:w.heap.size≠blk:=ae;have H0:=af (h.alloc ji (.cells #[.I 0] 3));have C0:Hid (WX (w.alloc (.cells #[.I 0] 3)) w.heap.size 0):=⟨ai,ai⟩;have HL:=af (ah eQ Ql);go_enter func199,ntmps199;by_cases h50:(50:Int)<=(L:Int);{
 go_wp2_with fail;refine(qG hN H0 ae ae iO hg C0 ae ae).mono ?_;rintro e w1⟨i1,S1,rfl,p1,p2,s1,s2,iD,AI,fU⟩;have C1:=af iD;have H1:=af AI;have G1:=af fU;go_wp2_with fail;refine(qG hN H1 ae ae iO hg C1 ae ae).mono ?_;rintro e w2⟨j1,S2,rfl,p3,p4,s3,s4,js,zF,ga⟩;have C2:=af js;have H2:=af zF;have G2:=af ga;go_wp2_with fail;refine(qG hN H2 ae ae iO hg C2 ae ae).mono ?_;rintro e w3⟨k1,S3,rfl,p5,p6,s5,s6,Cb,Lo,tz⟩;have C3:=af Cb;have H3:=af Lo;have G3:=af tz;go_wp2_with fail;refine(vZ hN H3 ae ae ae iO hg C3 ae ae).mono ?_;rintro e w4⟨m,S4,rfl,hm,s7,s8,GM,Pj,sS⟩;have H4:=af Pj;have G4:=af (AJ (uD (w:=w) (row:=some blk)) (aY G1 (aY G2 (aY G3 sS))) ao);have B4:a<=m/\m<b:=ae;have HB:=af B4;have Dz:=GM.cell;go_wp2
 all_goals
  go_ret2
  exact⟨m,_,rfl,HB.1,HB.2,H4,G4⟩};{
 go_wp2_with fail;refine(vZ hN H0 ae ae ae iO hg C0 ae ae).mono ?_;rintro e w4⟨m,S4,rfl,hm,s7,s8,GM,Pj,sS⟩;have H4:=af Pj;have G4:=af (AJ (uD (w:=w) (row:=some blk)) sS ao);have B4:a<=m/\m<b:=ae;have HB:=af B4;have Dz:=GM.cell;go_wp2
 all_goals
  go_ret2
  exact⟨m,_,rfl,HB.1,HB.2,H4,G4⟩}
end Q
namespace Q
open Go.Sort Go.RowKit Go.Proofs.Tryz
theorem Re:∀x:Nat,0<x->x<2 ^ 64->2 ^ (Lib.bitLen x)<=2*x:=by
 intro x
 induction x using Nat.strongRecOn with
 |_ x ih=>
  intro h0 h;rw[Lib.bitLen_half x ae h,Zg,bl8];by_cases h1:x=1;{subst h1;decide};{have:=ih (x / 2) ae ae ae;omega}
def aL4{i:Nat}(h:i<Lib.len8tab.size):(Lib.len8tab[i]).toNat=Lib.bitLen i/\Lib.bitLen i<=8:=by
 have h':=h;rw[Lib.len8tab_size]at h';have h2:=Lib.len8_of (i:Int) ae ae;have h3:=Lib.bitLen_le8' (i:Int) ae ae;simp only[Lib.len8,uk,ByteArray.getElem?_lt' _ _ h,qI]at h2 h3;omega
def JM{i:Int}{m:Nat}(e:i.toNat=m)(h:i.toNat<Lib.len8tab.size):((Lib.len8tab[i.toNat]).toNat:Int)=(Lib.bitLen m:Int)/\Lib.bitLen m<=8:=by
 subst e;have:=aL4 h;omega
def VH{n:Nat}(hn:n<=1048576){w:World}:Cp 206 #[.U n] w fun e w'=>e=.returned (.I (Lib.bitLen n))/\w'=w:=by
 obtain⟨x,ex⟩:∃x:Int,(n:Int)=x:=⟨_,rfl⟩;have hx0:0<=x:=ae;have hx1:x<=1048576:=ae;rw[ex];have EX:=af (ah ex hn);clear ex hn;go_enter func206,ntmps206;go_wp2
 all_goals(try(exfalso;simp only[Lib.len8tab_size]at*;omega))
 all_goals(go_ret;refine⟨wF Ending.returned (wF (Value.int IntKind.i64) ?_),rfl⟩)
 {obtain⟨ex,hn⟩:=aa EX;obtain⟨t1,t2⟩:=JM (i:=x / 65536) (m:=n / 65536) ae ae;have s:=Lib.bitLen_shift16 n ae ae;rw[t1,Fa (Lib.bitLen _:Int) ae,Fa _ ae];omega};{obtain⟨ex,hn⟩:=aa EX;obtain⟨t1,t2⟩:=JM (i:=x / 256) (m:=n / 256) ae ae;have s:=Lib.bitLen_shift8 n ae ae;rw[t1,Fa (Lib.bitLen _:Int) ae,Fa _ ae];omega};{obtain⟨ex,hn⟩:=aa EX;obtain⟨t1,t2⟩:=JM (i:=x) (m:=n) ae ae;rw[t1,Fa (Lib.bitLen _:Int) ae,Fa _ ae]}
def Kz{n:Nat}(hn:n<=1048576)(w:World):Cp 178 #[.U n] w fun e w'=>e=.returned (.I (Lib.bitLen n))/\w'=w:=by
 go_enter func178,ntmps178;go_wp2_with fail;refine(VH hn).mono ?_;rintro e w'⟨rfl,rfl⟩;go_wp2;go_ret;exact⟨rfl,rfl⟩
def YE{n:Nat}(Jo:0<n)(hn:n<=1048576){w:World}:Cp 225 #[.I n] w fun e w'=>∃M:Nat,e=.returned (.U M)/\0<M/\M<=2*n/\w'=w:=by
 have hK:Lib.bitLen n<=21:=Lib.bitLen_le n 21 ae ae;have hP:=Re n Jo ae;have hL:=Kz hn;generalize Lib.bitLen n=K at hK hP hL;obtain⟨M,eM⟩:=aI (2 ^ K);have h0:0<M:=by rw[<-eM];exact Nat.two_pow_pos K
 rw[eM]at hP;have hp:((2:Int) ^ K)=(M:Int):=by rw[<-eM];push_cast;rfl
 have hw:IntKind.u64.wrap ((2:Int) ^ K)=(M:Int):=by rw[hp,IntKind.wrap_u64];omega
 have Wi:=af hP;have h0':=af h0;clear hP h0 eM hp;go_enter func225,ntmps225;go_wp2_with fail;refine(hL _).mono ?_;rintro e w'⟨rfl,rfl⟩;go_wp2;go_ret;exact⟨M,by first|rfl|simp only[hw],aa h0',aa Wi,rfl⟩
def YK{X:Nat}(hX:X<18446744073709551616){w:World}(hc:w.cell? ⟨g,0,none⟩=some (.U X))(hf:w.frozen? ⟨g,0,none⟩=false):Cp 226 #[.pointer (some ⟨g,0,none⟩)] w fun e w'=>∃C:Nat,e=.returned (.U C)/\C<18446744073709551616/\w'.cell? ⟨g,0,none⟩=some (.U C)/\w'.frozen? ⟨g,0,none⟩=false/\w.grownBy w' (some g):=by
 obtain⟨A,lA,e1⟩:∃A:Nat,A<18446744073709551616/\bits .xor .u64 (X:Int) (IntKind.u64.wrap ((X:Int)*8192))=(A:Int):=by refine⟨X ^^^ (X*8192 % 18446744073709551616),NQ (n:=64) ae ae,?_⟩;rw[IntKind.wrap_u64,show((X:Int)*8192 % 18446744073709551616)=((X*8192 % 18446744073709551616:Nat):Int) by omega,bits_xor_u64_nat _ _ hX ae]
 obtain⟨B,lB,e2⟩:∃B:Nat,B<18446744073709551616/\bits .xor .u64 (A:Int) ((A:Int) / 128)=(B:Int):=by refine⟨A ^^^ (A / 128),NQ (n:=64) ae ae,?_⟩;rw[show((A:Int) / 128)=((A / 128:Nat):Int) by omega,bits_xor_u64_nat _ _ lA ae]
 obtain⟨C,lC,e3⟩:∃C:Nat,C<18446744073709551616/\bits .xor .u64 (B:Int) (IntKind.u64.wrap ((B:Int)*131072))=(C:Int):=by refine⟨B ^^^ (B*131072 % 18446744073709551616),NQ (n:=64) ae ae,?_⟩;rw[IntKind.wrap_u64,show((B:Int)*131072 % 18446744073709551616)=((B*131072 % 18446744073709551616:Nat):Int) by omega,bits_xor_u64_nat _ _ lB ae]
 have c1:=Bx w ⟨g,0,none⟩ (.U A) hc;have c2:=Bx _ ⟨g,0,none⟩ (.U B) c1;have c3:=Bx _ ⟨g,0,none⟩ (.U C) c2;have HG:=af (aY (aY (aD w g 0 (.U A)) (aD _ g 0 (.U B))) (aD _ g 0 (.U C)));have HF:Hid ((((w.setCell ⟨g,0,none⟩ (.U A)).setCell ⟨g,0,none⟩ (.U B)).setCell ⟨g,0,none⟩ (.U C)).frozen? ⟨g,0,none⟩=false):=by show _=_;simp only[CF];exact hf
 have LC:=af lC;have HC:=af c3;clear hX lA lB lC;go_enter func226,ntmps226;go_wp2_with fail
 go_region
 go_wp2_with fail
 go_region
 go_wp2_with fail
 go_region
 go_wp2;go_ret;exact⟨C,rfl,LC,by exact HC,by exact HF,by exact ar (ar (ar HG))⟩
end Q
namespace Q
open Go.Sort Go.RowKit Go.Proofs.Tryz
def WL{blk off cap N a b:Nat}(hN:Hid (d.size=N)){w:World}(h:HU w blk off d)(ji:blk<w.heap.size)(Ql:a+8<=b)(hb:b<=N)(iO:N<=1048576):Cp 198 #[.S (some ⟨blk,off,none⟩) N cap,.I a,.I b] w fun e w'=>
   e=.returned (.tuple #[])/\∃d',HU w' blk off d'/\PermIn a b d d'/\w.grownBy w' (some blk):=by
 obtain⟨L,eL⟩:∃x:Nat,(b:Int)-(a:Int)=(x:Int):=⟨b-a,ae⟩;have wL:=dZ L;obtain⟨Q,eQ⟩:=aI (L / 4);have eQ1:Int.tdiv (L:Int) 4=(Q:Int):=by rw[<-eQ];exact(YY L 4).symm
 have eQ2:(L:Int) / 4=(Q:Int):=ae;have wQ:=dZ Q;have wQ2:IntKind.i64.wrap ((Q:Int)*2)=(Q:Int)*2:=ni _ ae;obtain⟨J,eJ⟩:∃x:Nat,(a:Int)+(Q:Int)*2=(x:Int):=⟨a+Q*2,ae⟩;have wJ:=dZ J;have bJ:a+2<=J/\J+2<b:=ae;have wJ1:IntKind.i64.wrap ((J:Int)+1)=(J:Int)+1:=ni _ ae;obtain⟨J0,eJ0⟩:∃x:Nat,(J:Int)-1=(x:Int):=⟨J-1,ae⟩;have wJ0:=dZ J0;have h8:=dw 8 L;have wU:IntKind.u64.wrap (L:Int)=(L:Int):=by rw[IntKind.wrap_u64];omega
 have hg:w.heap.size≠blk:=ae;have hLb:a+L=b:=ae;have H0:=af (h.alloc ji (.cells #[.U L] 280));have HL:=af (ah eQ Ql);go_enter func198,ntmps198;go_wp2_with fail;refine(YE ae ae).mono ?_;rintro e w1⟨M,rfl,hM0,hM,rfl⟩;have wM:IntKind.u64.wrap ((M:Int)-1)=(M:Int)-1:=by rw[IntKind.wrap_u64];omega
 go_wp2_with fail
 go_loopw[9](fun s9 wr=>∃(idx R:Nat)(dk:Array Int),s9=.I idx/\J0<=idx/\idx<=J+2/\R<18446744073709551616/\Hid (wr.cell? ⟨w.heap.size,0,none⟩=some (.U R)/\wr.frozen? ⟨w.heap.size,0,none⟩=false)/\Hid (HU wr blk off dk)/\Hid (PermIn a b d dk)/\Hid (dk.size=N)/\Hid (w.grownBy wr (some blk))) (fun s9 _=>J+2-(intOf s9).toNat)
 exact⟨J0,L,d,rfl,ae,ae,ae,⟨ai,ai⟩,by exact aa H0,permIn_refl d a b,hN,by exact uD⟩;{
 obtain⟨idx,R,dk,rfl,z1,z2,lR,hC,hH,hP,hdk,hG⟩:=hrel;by_cases hgo:idx<=J+1;{
 have aa2:(idx:Int)<=(J:Int)+1:=ae;go_wp2_with fail;refine(YK lR hC.1 hC.2).mono ?_;rintro e w2⟨C,rfl,lC,js,Ld,ga⟩;have C2:=af (ah js Ld);have H2:=af (hH.kept (ga.block blk (kV ji hG.size) (fun e=>hg (by simpa using e.symm))));have G2:=af (AJ hG ga ao);obtain⟨O,lO,dA8⟩:∃O:Nat,O<=M-1/\bits .and .u64 (C:Int) ((M:Int)-1)=(O:Int):=by refine⟨C&&& (M-1),Nat.and_le_right,?_⟩;rw[show((M:Int)-1)=((M-1:Nat):Int) by omega,bits_and_u64_nat _ _ lC ae]
 have wO:=dZ O;by_cases hLO:L<=O;{
 have ck5:=iE L O;obtain⟨P,eP⟩:∃x:Nat,(O:Int)-(L:Int)=(x:Int):=⟨O-L,ae⟩;have wP:=dZ P;have bP:P<L:=ae;obtain⟨T,eT⟩:∃x:Nat,(a:Int)+(P:Int)=(x:Int):=⟨a+P,ae⟩;have wT:=dZ T;have bT:a<=T/\T<b:=ae;have xf:=aa hdk;obtain⟨c1,f1⟩:=aa H2 idx ae;obtain⟨c2,f2⟩:=aa H2 T ae;obtain⟨p1,Gf⟩:=aI dk[idx]!;obtain⟨p2,Ge⟩:=aI dk[T]!;rw[Gf]at c1;rw[Ge]at c2;obtain⟨tt,ct⟩:=jw (q:=⟨blk,off+idx,none⟩) (u:=.U p2) c2;have uI:=af (H2.swap (i:=idx) (j:=T) ae ae Ge.symm Gf.symm);have Qy:=af (aY (aY G2 (aD _ blk (off+idx) (.U p2))) (aD _ blk (off+T) (.U p1)));have HPn:Hid (PermIn a b d (swp dk idx T)):=permIn_trans _ _ _ a b hP (swp_permIn dk a b idx T ae ae ae ae ae);have HDn:Hid ((swp dk idx T).size=N):=by show _=_;rw[size_swp];exact xf
 have HCn:Hid ((((w2.setCell ⟨blk,off+idx,none⟩ (.U p2)).setCell ⟨blk,off+T,none⟩ (.U p1)).drew).cell? ⟨w.heap.size,0,none⟩=some (.U C)/\(((w2.setCell ⟨blk,off+idx,none⟩ (.U p2)).setCell ⟨blk,off+T,none⟩ (.U p1)).drew).frozen? ⟨w.heap.size,0,none⟩=false):=
  ⟨(Fb _ _ _ _ (by simp<;>omega)).trans ((Fb _ _ _ _ (by simp<;>omega)).trans C2.1),by show World.frozen? ((w2.setCell ⟨blk,off+idx,none⟩ (.U p2)).setCell ⟨blk,off+T,none⟩ (.U p1)) _=false;rw[CF,CF];exact C2.2⟩
 have l1:=aP idx N;have l2:=aP T N;have l3:=dw 0 T;go_wp2_with fail
 go_region
 go_wp2;go_roundw;exact⟨idx+1,C,swp dk idx T,by first|rfl|go_num,ae,ae,lC,HCn,by exact uI,HPn,HDn,by exact ar Qy⟩;exact bG};{
 have ck5:¬(L:Int)<=(O:Int):=ae;obtain⟨P,eP⟩:∃x:Nat,O=x:=⟨O,rfl⟩;subst eP;have bP:O<L:=ae;obtain⟨T,eT⟩:∃x:Nat,(a:Int)+(O:Int)=(x:Int):=⟨a+O,ae⟩;have wT:=dZ T;have bT:a<=T/\T<b:=ae;have xf:=aa hdk;obtain⟨c1,f1⟩:=aa H2 idx ae;obtain⟨c2,f2⟩:=aa H2 T ae;obtain⟨p1,Gf⟩:=aI dk[idx]!;obtain⟨p2,Ge⟩:=aI dk[T]!;rw[Gf]at c1;rw[Ge]at c2;obtain⟨tt,ct⟩:=jw (q:=⟨blk,off+idx,none⟩) (u:=.U p2) c2;have uI:=af (H2.swap (i:=idx) (j:=T) ae ae Ge.symm Gf.symm);have Qy:=af (aY (aY G2 (aD _ blk (off+idx) (.U p2))) (aD _ blk (off+T) (.U p1)));have HPn:Hid (PermIn a b d (swp dk idx T)):=permIn_trans _ _ _ a b hP (swp_permIn dk a b idx T ae ae ae ae ae);have HDn:Hid ((swp dk idx T).size=N):=by show _=_;rw[size_swp];exact xf
 have HCn:Hid ((((w2.setCell ⟨blk,off+idx,none⟩ (.U p2)).setCell ⟨blk,off+T,none⟩ (.U p1)).drew).cell? ⟨w.heap.size,0,none⟩=some (.U C)/\(((w2.setCell ⟨blk,off+idx,none⟩ (.U p2)).setCell ⟨blk,off+T,none⟩ (.U p1)).drew).frozen? ⟨w.heap.size,0,none⟩=false):=
  ⟨(Fb _ _ _ _ (by simp<;>omega)).trans ((Fb _ _ _ _ (by simp<;>omega)).trans C2.1),by show World.frozen? ((w2.setCell ⟨blk,off+idx,none⟩ (.U p2)).setCell ⟨blk,off+T,none⟩ (.U p1)) _=false;rw[CF,CF];exact C2.2⟩
 have l1:=aP idx N;have l2:=aP T N;have l3:=dw 0 T;go_wp2_with fail
 go_region
 go_wp2;go_roundw;exact⟨idx+1,C,swp dk idx T,by first|rfl|go_num,ae,ae,lC,HCn,by exact uI,HPn,HDn,by exact ar Qy⟩;exact bG}};{
 have aa2:¬(idx:Int)<=(J:Int)+1:=ae;go_wp2
 go_end0
 exact⟨rfl,dk,hH,hP,hG⟩}}
end Q
end Go.Proofs.YtjjnidignljppaaGreatDoor
