import Derived.Test.YtnhnbpkfpaondaaGreatDoorK2
import Derived.Test.YtnhnbpkfpaondaaGreatDoorQTs
import Derived.RangeFuncGives
import Derived.RangeFuncSeq
import Derived.Sort.MapsRangeIn
import Derived.OwnWalkIn
import Derived.TacticsInMore
import Derived.RegionIn
import Derived.LoopNIn
import Derived.LoopIn
import Derived.Maps.AppendAt
import Derived.RangeFuncKeeps
import Derived.RangeFuncFrom
import Derived.RangeFuncNested
import Derived.RangeFuncBound
import Derived.RangeFuncCalls
import Derived.RangeFuncLeaves
import Derived.Sort.KeysCollected
namespace Go.Proofs.YtnhnbpkfpaondaaGreatDoor
set_option maxHeartbeats 6400000
set_option linter.all false
set_option maxRecDepth 100000
set_option linter.defProp false
namespace Q
open Go.Sort Go.RowKit Go.Proofs.Tryz
theorem xq(lt:Int->Int->Bool)(a:Nat):∀(j:Nat)(d:Array Int),(insInner lt a j d).size=d.size
 |0,d=>rfl
 |j+1,d=>by rw[insInner];split;{rw[xq lt a j,size_swp]};{rfl}
theorem insInner_stop{a j:Nat}{d:Array Int}(h:¬a<j\/ltInt d[j]! d[j-1]! = false):insInner ltInt a j d=d:=by
 cases j with
 |zero=>rfl
 |succ j=>
  rw[insInner,bH];rcases h with h|h;{simp;omega};{simp only[Aa]at h;simp[h]}
theorem insInner_go{a j:Nat}{d:Array Int}(h:a<j)(hl:ltInt d[j]! d[j-1]! = true):insInner ltInt a j d=insInner ltInt a (j-1) (swp d j (j-1)):=by
 cases j with
 |zero=>omega
 |succ j=>
  simp only[Aa]at hl⊢;rw[insInner,bO (by simp[hl];omega)]
theorem aL2{blk off cap N a b:Nat}{d:Array Int}(hN:Hid (d.size=N)){w:World}(h:HU w blk off d)(Tq:a<=b)(hb:b<=N)(jl:N<=1048576):Calls prog 254 #[.S (some (Ad blk off)) N cap,.I a,.I b] w λe w'=>e=.returned (.tuple #[])/\HU w' blk off (insertionSort ltInt d a b)/\w.grownBy w' (some blk):=by
 let⟨D,eD⟩:=aL (insertionSort ltInt d a b)
 rw[eD];have ED:Hid (insOuter ltInt a b (a+1) d=D):=eD;have H0:=ag h
 go_in
 go_wp2_with fail
 go_loopw[6](λs6 wr=>∃(i:Nat)(dk:Array Int),s6=.I i/\i<=1048577/\a<i/\Hid (dk.size=N)/\Hid (HU wr blk off dk)/\Hid (insOuter ltInt a b i dk=D)/\Hid (w.grownBy wr (some blk))) (λs6 _=>b-(intOf s6).toNat)
 exact⟨a+1,d,by first|rfl|go_num,af,af,hN,H0,ED,qQ⟩;{
 obtain⟨i,dk,rfl,q1,q2,Ao,Hx,heq,hg⟩:=hrel;by_cases bf:i<b;{
 have bL:=aU i b;have hq:=ae heq;rw[insOuter,bO bf]at hq
 let⟨E,eE⟩:=aL (insInner ltInt a i dk)
 rw[eE]at hq;have HQ:=ag hq;have EE:=ag eE;have hEs:Hid (E.size=N):=by show _=_;rw[<-eE,xq];exact ae Ao
 go_wp2_with fail
 let⟨Y,eY⟩:=aB wr
 subst eY;have HG0:=hg
 go_loopw[7](λs7 wr=>∃(j:Nat)(dj:Array Int),s7=.I j/\j<=i/\a<=j/\Hid (dj.size=N)/\Hid (HU wr blk off dj)/\Hid (insInner ltInt a j dj=E)/\Hid (w.grownBy wr (some blk))) (λs7 _=>(intOf s7).toNat)
 exact⟨i,dk,rfl,iD _,af,Ao,Hx,EE,HG0⟩;{
 obtain⟨j,dj,rfl,q3,q4,hdj,IL,Xr,hg⟩:=hrel;by_cases hja:a<j;{
 have cB0:=aU a j;obtain⟨m,em⟩:∃m:Nat,(j:Int)-1=(m:Int):=⟨j-1,af⟩;have em0:j-1=m:=af;have Vg:=ae hdj
 let⟨cj,fj⟩:=ae IL j af
 let⟨cm,fm⟩:=ae IL m af
 let⟨y,ey⟩:=aL dj[j]!
 let⟨z,ez⟩:=aL dj[m]!
 have UY:=ag (IL.swap (i:=j) (j:=m) af af ez.symm ey.symm);rw[ey]at cj;rw[ez]at cm;have i1:=aU j N;have i2:=aU m N;have i3:=dC 0 m;have wm:=e8 m
 let⟨B,eB⟩:=aL (ltInt y z)
 have EB:=ag eB;have vo:Hid (B=false->dj=E):=λhB=>by rw[<-ae Xr,insInner_stop (.inr (by rw[em0,ey,ez,eB,hB]))]
 have HGO:Hid (B=true->insInner ltInt a m (swp dj j m)=E):=λhB=>by rw[<-ae Xr,insInner_go hja (by rw[em0,ey,ez,eB,hB]),em0]
 have tJ:Hid ((swp dj j m).size=N):=by show _=_;rw[size_swp];exact Vg
 have HG:=ag (aX (aX hg (aH wr blk (off+j) (.U z))) (aH _ blk (off+m) (.U y)));have K0:=ag (ai cj cm);have FF:=ag (ai fj fm);go_wp2_with fail
 go_cut[30](λrv wc=>rv=.bool B/\wc=wr.drew)
 case first=>(
 refine du (λw'=>w'.cell? (Ad blk (off+j))=some (.U y)/\w'.cell? (Ad blk (off+m))=some (.U z)) (by exact K0) λhS=>?_;refine mj 0 1 2 3 4 5 6 7 hS ?_;refine lG 8 9 10 11 hS ?_;refine tn 12 hS ?_;refine ry [13] ?_;refine cn (λKK hK=>?_) ?_;{refine dh aJ aJ aJ aJ (λ_=>fQ) (fO) ?_;rintro r w2⟨rfl,rfl⟩;refine⟨_,rfl,?_⟩;rw[ae EB];refine fh hK (by exact K0) λhS=>?_;refine tn 14 hS ?_;refine cY ?_;go_wp2_with fail;go_meet;exact⟨rfl,rfl⟩};exact eh)
 obtain⟨rfl,rfl⟩:=hcut;cases B with
 |false=>
  have e:=ae vo rfl;subst e;go_wp2;go_roundw;exact⟨i+1,dj,by go_num,af,af,hdj,IL.drew,HQ,az hg⟩;exact cg
 |true=>
  have e:=ag (ae HGO rfl)
  let⟨cj,cm⟩:=ae K0
  let⟨fj,fm⟩:=ae FF
  go_wp2_with fail
  go_region
  go_wp2;go_roundw;exact⟨m,swp dj j m,by first|rfl|go_num,af,af,tJ,(ae UY),e,az (az HG)⟩;exact cg};{
 have cB0:=dB a j;have e:dj=E:=by rw[<-ae Xr,insInner_stop (.inl hja)]
 subst e;go_wp2_with fail
 go_cut[30](λrv wc=>rv=.bool false/\wc=wr.drew)
 case first=>(
 refine du (λw'=>True) km λhS=>?_;refine lG 0 1 2 3 hS ?_;refine oQ 4 5 6 7 hS ?_;refine oQ 8 9 10 11 hS ?_;refine sn 12 hS ?_;refine sn 13 hS ?_;refine tn 14 hS ?_;refine cY ?_;go_wp2_with fail;go_meet;exact⟨rfl,rfl⟩)
 obtain⟨rfl,rfl⟩:=hcut;go_wp2;go_roundw;exact⟨i+1,dj,by go_num,af,af,hdj,IL.drew,HQ,az hg⟩
 case measure=>simp[intOf];omega}}}
 {
 have bL:=dB i b;have hq:=ae heq;rw[insOuter,bH bf]at hq;subst hq;go_wp2
 go_end0
 exact⟨rfl,Hx,hg⟩}}
end Q
namespace Q
open Go.Sort Go.RowKit Go.Proofs.Tryz
def ae2{hi first r:Nat}{d:Array Int}(h:¬2*r+1<hi):siftDown ltInt hi first r d=d:=by
 rw[siftDown,QI af]
def ZL(hi first r:Nat)(d:Array Int):Nat:=if 2*r+1+1<hi&&ltInt d[first+(2*r+1)]! d[first+(2*r+1)+1]! then 2*r+2 else 2*r+1
def Bv{hi first r:Nat}{d:Array Int}(h:2*r+1<hi)(hl:ltInt d[first+r]! d[first+ZL hi first r d]! = false):siftDown ltInt hi first r d=d:=by
 rw[siftDown,dif_neg af];unfold ZL at hl;split;{next hc=>rw[bO hc]at hl;rw[bO (by simp[hl])]}
 {next hc=>rw[bH hc]at hl;rw[bO (by simp[hl])]}
def L8{hi first r:Nat}{d:Array Int}(h:2*r+1<hi)(hl:ltInt d[first+r]! d[first+ZL hi first r d]! = true):siftDown ltInt hi first r d=siftDown ltInt hi first (ZL hi first r d) (swp d (first+r) (first+ZL hi first r d)):=by
 rw[siftDown,dif_neg af];unfold ZL at hl⊢;split;{
 next hc=>
 rw[bO hc]at hl;rw[bH (by simp[hl])];have:2*r+2<hi:=by simp at hc;omega
 rw[QI this]};{
 next hc=>
 rw[bH hc]at hl;rw[bH (by simp[hl])]}
theorem Px{blk off cap N lo hi first:Nat}{d:Array Int}(hN:Hid (d.size=N)){w:World}(h:HU w blk off d)(hh:first+hi<=N)(ZR:lo<=N)(jl:N<=1048576):Calls prog 279 #[.S (some (Ad blk off)) N cap,.I lo,.I hi,.I first] w λe w'=>e=.returned (.tuple #[])/\HU w' blk off (siftDown ltInt hi first lo d)/\w.grownBy w' (some blk):=by
 let⟨D,eD⟩:=aL (siftDown ltInt hi first lo d)
 rw[eD];have ED:=ag eD;have H0:=ag h
 go_in
 go_wp2_with fail
 go_loopw[8](λs8 wr=>∃(r:Nat)(dk:Array Int),s8=.I r/\r<=1048576/\Hid (dk.size=N)/\Hid (HU wr blk off dk)/\Hid (siftDown ltInt hi first r dk=D)/\Hid (w.grownBy wr (some blk))) (λs8 _=>hi-(intOf s8).toNat)
 exact⟨lo,d,rfl,af,hN,H0,ED,qQ⟩;{
 obtain⟨r,dk,rfl,q1,Ao,Hx,heq,hg⟩:=hrel;have w1:IntKind.i64.wrap (2*(r:Int))=2*(r:Int):=kU _ af;obtain⟨c,ec⟩:∃c:Nat,2*(r:Int)+1=(c:Int):=⟨2*r+1,af⟩;have ec0:2*r+1=c:=af;have wc:=e8 c;by_cases bf:c<hi;{
 have bL:¬(hi:Int)<=(c:Int):=af;have Nd:=ae Ao;obtain⟨c2,ec2⟩:∃c2:Nat,(c:Int)+1=(c2:Int):=⟨c+1,af⟩;have wc2:=e8 c2;obtain⟨fr,efr⟩:∃x:Nat,(first:Int)+(r:Int)=(x:Int):=⟨first+r,af⟩;have wfr:=e8 fr;obtain⟨fc,efc⟩:∃x:Nat,(first:Int)+(c:Int)=(x:Int):=⟨first+c,af⟩;have wfc:=e8 fc;obtain⟨fd,efd⟩:∃x:Nat,(fc:Int)+1=(x:Int):=⟨fc+1,af⟩;have wfd:=e8 fd;have ed2:(first:Int)+(c2:Int)=(fd:Int):=af;have n1:first+r=fr:=af
 have n2:first+c=fc:=af
 have n3:fc+1=fd:=af;have n4:2*r+2=c2:=af
 let⟨cr,frr⟩:=ae Hx fr af
 let⟨cc,fcc⟩:=ae Hx fc af
 let⟨y,ey⟩:=aL dk[fr]!
 let⟨z,ez⟩:=aL dk[fc]!
 rw[ey]at cr;rw[ez]at cc;have j1:=aU fr N;have j2:=aU fc N;have K1:=ag (ai cr cc);have F1:=ag (ai frr fcc);by_cases ku:c2<hi;{
 have cE5:=aU c2 hi
 let⟨cd,fdd⟩:=ae Hx fd af
 let⟨x,ex⟩:=aL dk[fd]!
 rw[ex]at cd;have j3:=aU fd N
 let⟨B,eB⟩:=aL (ltInt z x)
 have EB:=ag eB;have Vd:ZL hi first r dk=if B then c2 else c:=by unfold ZL;rw[ec0,n4,n2,n3,ez,ex,eB];simp only[show decide (c+1<hi)=true by(rw[pO];omega),pQ]
 have K2:=ag (ai K1.2 cd);have bY9:=ag Vd;have HX:=ag (ai ex (ai cd fdd));have AZ:=ag (ai ec0 (ai n1 (ai n2 (ai n3 n4))));have HE:=ag (ai ey ez);go_wp2_with fail
 go_cut[36](λrv wc=>rv=.bool B/\wc=wr.drew)
 case first=>(
 refine du (λw'=>w'.cell? (Ad blk (off+fc))=some (.U z)/\w'.cell? (Ad blk (off+fd))=some (.U x)) (by exact K2) λhS=>?_;refine mj 0 1 2 3 4 5 6 7 hS ?_;refine mj 8 9 10 11 12 13 14 15 hS ?_;refine jR 16 17 hS ?_;refine ry [18] ?_;refine cn (λKK hK=>?_) ?_;{refine dh aJ aJ aJ aJ (λ_=>fQ) (fO) ?_;rintro r' w2⟨rfl,rfl⟩;refine⟨_,rfl,?_⟩;rw[ae EB];refine fh hK (by exact K2) λhS=>?_;refine tn 19 hS ?_;refine cY ?_;go_wp2_with fail;go_meet;exact⟨rfl,rfl⟩};exact eh)
 obtain⟨rfl,rfl⟩:=hcut;cases B with
 |true=>
  have Od:Hid (ZL hi first r dk=c2):=by show _=_;rw[ae bY9];rfl
  let⟨ex,cd,fdd⟩:=ae HX
  obtain⟨cr,-⟩:=ae K1;obtain⟨frr,-⟩:=ae F1
  let⟨B2,Tt⟩:=aL (ltInt y x)
  have EB2:=ag Tt;have Xo:first+c2=fd:=aI (ae AZ)
  have qz:first+r=fr:=AZ.2.1
  have vo:Hid (B2=false->dk=D):=λhB=>by rw[<-ae heq,Bv (aI AZ.1) (by rw[ae Od,Xo,qz,HE.1,ex,Tt,hB])]
  have HGO:Hid (B2=true->siftDown ltInt hi first c2 (swp dk fr fd)=D):=λhB=>by have:=ae heq;rw[L8 (aI AZ.1) (by rw[ae Od,Xo,qz,HE.1,ex,Tt,hB]),ae Od,Xo,qz]at this;exact this
  have Nd:=ae Ao;have UY:=ag (Hx.swap (i:=fr) (j:=fd) af af ex.symm HE.1.symm);have tJ:Hid ((swp dk fr fd).size=N):=by show _=_;rw[size_swp];exact Nd
  have HG:=ag (aX (aX hg (aH wr blk (off+fr) (.U x))) (aH _ blk (off+fd) (.U y)));have K3:=ag (ai cr cd);have F3:=ag (ai frr fdd);have hrc:r<c2:=aI (ae AZ);go_wp2_with fail
  go_cut[52](λrv wc=>rv=.bool (!B2)/\wc=wr.drew.drew)
  case first=>(
 refine du (λw'=>w'.cell? (Ad blk (off+fr))=some (.U y)/\w'.cell? (Ad blk (off+fd))=some (.U x)) (by exact K3) λhS=>?_;refine mj 0 1 2 3 4 5 6 7 hS ?_;refine lG 8 9 10 11 hS ?_;refine ry [12] ?_;refine cn (λKK hK=>?_) ?_;{refine dh aJ aJ aJ aJ (λ_=>fQ) (fO) ?_;rintro r' w2⟨rfl,rfl⟩;refine⟨_,rfl,?_⟩;rw[ae EB2];refine fh hK (by exact K3) λhS=>?_;refine tn 13 hS ?_;refine cY ?_;go_wp2_with fail;go_meet;exact⟨rfl,rfl⟩};exact eh)
  obtain⟨rfl,rfl⟩:=hcut;cases B2 with
  |false=>
   have e:=ae vo rfl;subst e;go_wp2;exact dJ (uO (h:=rfl) _ _ _) rfl ⟨rfl,Hx,az (az hg)⟩
  |true=>
   have e:=ag (ae HGO rfl)
   let⟨cr,cd⟩:=ae K3
   let⟨frr,fdd⟩:=ae F3
   go_wp2_with fail
   go_region
   go_wp2;go_roundw;exact⟨c2,swp dk fr fd,rfl,af,tJ,(ae UY),e,az (az (az HG))⟩;exact cg
 |false=>
  have Od:Hid (ZL hi first r dk=c):=by show _=_;rw[ae bY9];rfl
  have ex:=HE.2;have cd:=K1.2;have fdd:=F1.2;obtain⟨cr,-⟩:=ae K1;obtain⟨frr,-⟩:=ae F1
  let⟨B2,Tt⟩:=aL (ltInt y z)
  have EB2:=ag Tt;have Xo:first+c=fc:=aI (ae AZ)
  have qz:first+r=fr:=AZ.2.1
  have vo:Hid (B2=false->dk=D):=λhB=>by rw[<-ae heq,Bv (aI AZ.1) (by rw[ae Od,Xo,qz,HE.1,ex,Tt,hB])]
  have HGO:Hid (B2=true->siftDown ltInt hi first c (swp dk fr fc)=D):=λhB=>by have:=ae heq;rw[L8 (aI AZ.1) (by rw[ae Od,Xo,qz,HE.1,ex,Tt,hB]),ae Od,Xo,qz]at this;exact this
  have Nd:=ae Ao;have UY:=ag (Hx.swap (i:=fr) (j:=fc) af af ex.symm HE.1.symm);have tJ:Hid ((swp dk fr fc).size=N):=by show _=_;rw[size_swp];exact Nd
  have HG:=ag (aX (aX hg (aH wr blk (off+fr) (.U z))) (aH _ blk (off+fc) (.U y)));have K3:=ag (ai cr cd);have F3:=ag (ai frr fdd);have hrc:r<c:=aI (ae AZ);go_wp2_with fail
  go_cut[52](λrv wc=>rv=.bool (!B2)/\wc=wr.drew.drew)
  case first=>(
 refine du (λw'=>w'.cell? (Ad blk (off+fr))=some (.U y)/\w'.cell? (Ad blk (off+fc))=some (.U z)) (by exact K3) λhS=>?_;refine mj 0 1 2 3 4 5 6 7 hS ?_;refine lG 8 9 10 11 hS ?_;refine ry [12] ?_;refine cn (λKK hK=>?_) ?_;{refine dh aJ aJ aJ aJ (λ_=>fQ) (fO) ?_;rintro r' w2⟨rfl,rfl⟩;refine⟨_,rfl,?_⟩;rw[ae EB2];refine fh hK (by exact K3) λhS=>?_;refine tn 13 hS ?_;refine cY ?_;go_wp2_with fail;go_meet;exact⟨rfl,rfl⟩};exact eh)
  obtain⟨rfl,rfl⟩:=hcut;cases B2 with
  |false=>
   have e:=ae vo rfl;subst e;go_wp2;exact dJ (uO (h:=rfl) _ _ _) rfl ⟨rfl,Hx,az (az hg)⟩
  |true=>
   have e:=ag (ae HGO rfl)
   let⟨cr,cd⟩:=ae K3
   let⟨frr,fdd⟩:=ae F3
   go_wp2_with fail
   go_region
   go_wp2;go_roundw;exact⟨c,swp dk fr fc,rfl,af,tJ,(ae UY),e,az (az (az HG))⟩;exact cg};{
 have cE5:=dB c2 hi;have Od:Hid (ZL hi first r dk=c):=by show _=_;unfold ZL;rw[bH bq,ec0]
 have AZ:=ag (ai ec0 (ai n1 (ai n2 (ai n3 n4))));have HE:=ag (ai ey ez);have ex:=HE.2;have cd:=K1.2;have fdd:=F1.2;go_wp2_with fail
 go_cut[36](λrv wc=>rv=.bool false/\wc=wr.drew)
 case first=>(
 refine du (λw'=>True) km λhS=>?_;refine lG 0 1 2 3 hS ?_;refine tn 4 hS ?_;refine oQ 5 6 7 8 hS ?_;refine oQ 9 10 11 12 hS ?_;refine oQ 13 14 15 16 hS ?_;refine sn 17 hS ?_;refine sn 18 hS ?_;refine tn 19 hS ?_;refine cY ?_;go_wp2_with fail;go_meet;exact⟨rfl,rfl⟩)
 obtain⟨rfl,rfl⟩:=hcut;obtain⟨cr,-⟩:=ae K1;obtain⟨frr,-⟩:=ae F1
 let⟨B2,Tt⟩:=aL (ltInt y z)
 have EB2:=ag Tt;have Xo:first+c=fc:=aI (ae AZ)
 have qz:first+r=fr:=AZ.2.1
 have vo:Hid (B2=false->dk=D):=λhB=>by rw[<-ae heq,Bv (aI AZ.1) (by rw[ae Od,Xo,qz,HE.1,ex,Tt,hB])]
 have HGO:Hid (B2=true->siftDown ltInt hi first c (swp dk fr fc)=D):=λhB=>by have:=ae heq;rw[L8 (aI AZ.1) (by rw[ae Od,Xo,qz,HE.1,ex,Tt,hB]),ae Od,Xo,qz]at this;exact this
 have Nd:=ae Ao;have UY:=ag (Hx.swap (i:=fr) (j:=fc) af af ex.symm HE.1.symm);have tJ:Hid ((swp dk fr fc).size=N):=by show _=_;rw[size_swp];exact Nd
 have HG:=ag (aX (aX hg (aH wr blk (off+fr) (.U z))) (aH _ blk (off+fc) (.U y)));have K3:=ag (ai cr cd);have F3:=ag (ai frr fdd);have hrc:r<c:=aI (ae AZ);go_wp2_with fail
 go_cut[52](λrv wc=>rv=.bool (!B2)/\wc=wr.drew.drew)
 case first=>(
 refine du (λw'=>w'.cell? (Ad blk (off+fr))=some (.U y)/\w'.cell? (Ad blk (off+fc))=some (.U z)) (by exact K3) λhS=>?_;refine mj 0 1 2 3 4 5 6 7 hS ?_;refine lG 8 9 10 11 hS ?_;refine ry [12] ?_;refine cn (λKK hK=>?_) ?_;{refine dh aJ aJ aJ aJ (λ_=>fQ) (fO) ?_;rintro r' w2⟨rfl,rfl⟩;refine⟨_,rfl,?_⟩;rw[ae EB2];refine fh hK (by exact K3) λhS=>?_;refine tn 13 hS ?_;refine cY ?_;go_wp2_with fail;go_meet;exact⟨rfl,rfl⟩};exact eh)
 obtain⟨rfl,rfl⟩:=hcut;cases B2 with
 |false=>
  have e:=ae vo rfl;subst e;go_wp2;exact dJ (uO (h:=rfl) _ _ _) rfl ⟨rfl,Hx,az (az hg)⟩
 |true=>
  have e:=ag (ae HGO rfl)
  let⟨cr,cd⟩:=ae K3
  let⟨frr,fdd⟩:=ae F3
  go_wp2_with fail
  go_region
  go_wp2;go_roundw;exact⟨c,swp dk fr fc,rfl,af,tJ,(ae UY),e,az (az (az HG))⟩;exact cg}};{
 have bL:=iC hi c;have hq:=ae heq;rw[ae2 af]at hq;subst hq;go_wp2
 first
  |exact dJ (uO (h:=rfl) _ _ _) rfl ⟨rfl,Hx,hg⟩
  |(go_end0;exact⟨rfl,Hx,hg⟩)}}
end Q
namespace Q
open Go.Sort Go.RowKit Go.Proofs.Tryz
theorem JY(lt:Int->Int->Bool)(hi first:Nat):∀(k r:Nat)(d:Array Int),hi-r<=k->(siftDown lt hi first r d).size=d.size:=by
 intro k
 induction k with
 |zero=>intro r d hk;rw[siftDown,QI af]
 |succ k ih=>
  intro r d hk;rw[siftDown];split;{rfl}
  {
 split;{
 split;{rfl}
 {split;{rw[ih _ _ af,size_swp]};{rfl}}}
 {
 split;{rfl}
 {rw[ih _ _ af,size_swp]}}}
def ar9{blk off cap N a b:Nat}{d:Array Int}(hN:Hid (d.size=N)){w:World}(h:HU w blk off d)(Tq:a<=b)(hb:b<=N)(jl:N<=1048576):Calls prog 255 #[.S (some (Ad blk off)) N cap,.I a,.I b] w λe w'=>e=.returned (.tuple #[])/\HU w' blk off (heapSort ltInt d a b)/\w.grownBy w' (some blk):=by
 let⟨D,eD⟩:=aL (heapSort ltInt d a b)
 rw[eD];obtain⟨H,eH⟩:∃H:Nat,(b:Int)-(a:Int)=(H:Int):=⟨b-a,af⟩;have eH0:b-a=H:=af;have wH:=e8 H;unfold heapSort at eD;rw[eH0]at eD
 let⟨M,eM⟩:=aL (heapBuild ltInt H a ((H-1) / 2+1) d)
 rw[eM]at eD;have ED:=ag eD;have EM:=ag eM;have H0:=ag h;have hHN:a+H<=N:=af;have HE0:=ag eH0;have w1:IntKind.i64.wrap ((H:Int)-1)=(H:Int)-1:=kU _ af;obtain⟨q,eq⟩:∃q:Int,Int.tdiv ((H:Int)-1) 2=q:=⟨_,rfl⟩;have hq:q=((H-1) / 2:Nat):=by rw[<-eq];by_cases hz:H=0;{subst hz;decide};{rw[show(H:Int)-1=((H-1:Nat):Int) by omega];exact(ak2 _ _).symm}
 have hq1:0<=q:=af;have hq2:q<=1048576:=af;have wq:IntKind.i64.wrap q=q:=kU _ af;have HQ:=ag hq;clear eD eM h eH0 hq
 go_in
 go_wp2_with fail
 go_loopw[9](λs9 wr=>∃(iz:Int)(k:Nat)(dk:Array Int),s9=.I iz/\iz=(k:Int)-1/\k<=H+1/\Hid (dk.size=N)/\Hid (HU wr blk off dk)/\Hid (heapBuild ltInt H a k dk=M)/\Hid (w.grownBy wr (some blk))) (λs9 _=>(intOf s9+1).toNat)
 exact⟨q,(H-1) / 2+1,d,rfl,aI (ae HQ),af,hN,H0,EM,qQ⟩;{
 obtain⟨iz,k,dk,rfl,hk,hiz,Ao,Hx,heq,hg⟩:=hrel;have HK:=ag hk;by_cases hz:0<=iz;{
 obtain⟨m,em⟩:∃m:Nat,iz=(m:Int):=⟨iz.toNat,af⟩;have ek:k=m+1:=af;subst ek;clear hk HK;subst em;have Ol:=dC 0 m;have um:=ae heq;rw[heapBuild]at um;have HQ2:=ag um;have cD0:Hid ((siftDown ltInt H a m dk).size=N):=by show _=_;rw[JY ltInt H a _ m dk ay];exact ae Ao
 have hm:m<=N:=af;go_wp2_with fail;refine(Px Ao Hx hHN hm jl).mono ?_;rintro e w2⟨rfl,Fe,gI⟩;have HG:=ag (aX hg gI);have HH2:=ag Fe;go_wp2;go_roundw;exact⟨(m:Int)-1,m,_,by first|rfl|go_num,af,af,cD0,HH2,HQ2,HG⟩
 case measure=>first|(simp[intOf];done)|(simp[intOf];omega)}
 {
 have ek:k=0:=af;subst ek;have eM:dk=M:=ae heq;subst eM;go_wp2_with fail
 let⟨Y,eY⟩:=aB wr
 subst eY;have HG0:=hg
 go_loopw[10](λUy wr=>∃(iz:Int)(k:Nat)(dj:Array Int),Uy=.I iz/\iz=(k:Int)-1/\k<=H/\Hid (dj.size=N)/\Hid (HU wr blk off dj)/\Hid (heapPop ltInt a k dj=D)/\Hid (w.grownBy wr (some blk))) (λUy _=>(intOf Uy+1).toNat)
 exact⟨(H:Int)-1,H,dk,rfl,rfl,iD _,Ao,Hx,ED,HG0⟩;{
 obtain⟨iz,k,dj,rfl,hk,hiz,hdj,IL,Xr,hg⟩:=hrel;by_cases hz:0<=iz;{
 obtain⟨m,em⟩:∃m:Nat,iz=(m:Int):=⟨iz.toNat,af⟩;have ek:k=m+1:=af;subst ek;clear hk;subst em;have Ol:=dC 0 m;obtain⟨f,ef⟩:∃x:Nat,(a:Int)+(m:Int)=(x:Int):=⟨a+m,af⟩;have wf:=e8 f;have ef0:a+m=f:=af;have Vg:=ae hdj
 let⟨ca,fa⟩:=ae IL a af
 let⟨cf,ff⟩:=ae IL f af
 let⟨y,ey⟩:=aL dj[a]!
 let⟨z,ez⟩:=aL dj[f]!
 rw[ey]at ca;rw[ez]at cf
 let⟨tt,ct⟩:=jF (q:=(Ad blk (off+a))) (u:=.U z) cf
 have i1:=aU a N;have i2:=aU f N;have um:=ae Xr;rw[heapPop,ef0]at um;have HQ2:=ag um;have HSW:=ag (IL.swap (i:=a) (j:=f) af af ez.symm ey.symm);have tJ:Hid ((swp dj a f).size=N):=by show _=_;rw[size_swp];exact Vg
 have HS3:Hid ((siftDown ltInt m a 0 (swp dj a f)).size=N):=by show _=_;rw[JY ltInt m a _ 0 _ ay];exact ae tJ
 have HG:=ag (aX (aX hg (aH wr blk (off+a) (.U z))) (aH _ blk (off+f) (.U y)));have EW:a+m<=N:=af;go_wp2_with fail
 go_region
 go_wp2_with fail;refine(Px tJ (by exact HSW) EW (gr _) jl).mono ?_;rintro e w2⟨rfl,Fe,gI⟩;have HG2:=ag (aX (az HG) gI);have HH2:=ag Fe;go_wp2;go_roundw;exact⟨(m:Int)-1,m,_,by first|rfl|go_num,rfl,af,HS3,HH2,HQ2,HG2⟩
 case measure=>first|(simp[intOf];done)|(simp[intOf];omega)}
 {
 have ek:k=0:=af;subst ek;have eD:dj=D:=ae Xr;subst eD;go_wp2
 go_end0
 exact⟨rfl,IL,hg⟩}}}}
end Q
namespace Q
open Go.Sort Go.RowKit Go.Proofs.Tryz
def ac0{p:Int->Bool}{d:Array Int}{j i:Nat}(h:i<=j)(hp:p d[i]! = true):scanUp p d j i=scanUp p d j (i+1):=by
 rw[scanUp,bO (by simp[h,hp])]
def Lv{p:Int->Bool}{d:Array Int}{j i:Nat}(h:¬i<=j\/p d[i]! = false):scanUp p d j i=i:=by
 rw[scanUp,bH];rcases h with h|h;{simp;omega};{simp[h]}
theorem Nx{p:Int->Bool}{d:Array Int}{i j:Nat}(hj:0<j)(h:i<=j)(hp:p d[j]! = true):scanDown p d i j=scanDown p d i (j-1):=by
 cases j with
 |zero=>omega
 |succ j=>rw[scanDown,bO (by simp[h,hp])];rfl
theorem Cv{p:Int->Bool}{d:Array Int}{i j:Nat}(hi:0<i)(h:¬i<=j\/p d[j]! = false):scanDown p d i j=j:=by
 cases j with
 |zero=>rfl
 |succ j=>
  rw[scanDown,bH];rcases h with h|h;{simp;omega};{simp[h]}
def I5{a i j:Nat}{d:Array Int}{i2 j2:Nat}(h1:scanUp (λx=>ltInt x d[a]!) d j i=i2)(h2:scanDown (λx=>!ltInt x d[a]!) d i2 j=j2)(h:j2<i2):partLoop ltInt a i j d=(j2,d):=by
 rw[partLoop];simp only[h1,h2];rw[bO h]
def Qa{a i j:Nat}{d:Array Int}{i2 j2:Nat}(h1:scanUp (λx=>ltInt x d[a]!) d j i=i2)(h2:scanDown (λx=>!ltInt x d[a]!) d i2 j=j2)(h:¬j2<i2)(hi:i<=i2)(hj:j2<=j)(hi0:0<i2):partLoop ltInt a i j d=partLoop ltInt a (i2+1) (j2-1) (swp d i2 j2):=by
 rw[partLoop];simp only[h1,h2];rw[bH h,QI af]
theorem ag6{blk off cap N a b piv:Nat}{d:Array Int}(hN:Hid (d.size=N)){w:World}(h:HU w blk off d)(Z7:a<=piv)(hpb:piv<b)(hb:b<=N)(jl:N<=1048576):Calls prog 262 #[.S (some (Ad blk off)) N cap,.I a,.I b,.I piv] w λe w'=>e=.returned (.tuple #[.I (partition ltInt d a b piv).1,.bool (partition ltInt d a b piv).2.1])/\HU w' blk off (partition ltInt d a b piv).2.2/\w.grownBy w' (some blk):=by
 obtain⟨⟨R1,R2,R3⟩,eR⟩:∃R,partition ltInt d a b piv=R:=⟨_,rfl⟩;rw[eR];have Ao:=ae hN;obtain⟨B1,eB1⟩:∃x:Nat,(b:Int)-1=(x:Int):=⟨b-1,af⟩;have eB0:b-1=B1:=af;have wB:=e8 B1
 let⟨ca,fa⟩:=h a af
 let⟨cp,fp⟩:=h piv af
 let⟨u,eu⟩:=aL d[a]!
 let⟨v,ev⟩:=aL d[piv]!
 have HSW:=ag (h.swap (i:=a) (j:=piv) af af ev.symm eu.symm);rw[eu]at ca;rw[ev]at cp
 let⟨tt,ct⟩:=jF (q:=(Ad blk (off+a))) (u:=.U v) cp
 let⟨d1,ed1⟩:=aL (swp d a piv)
 rw[ed1]at HSW;have ZD:Hid (d1.size=N):=by show _=_;rw[<-ed1,size_swp];exact Ao
 let⟨y,ey⟩:=aL d1[a]!
 have HY1:=ag ey;have HG:=ag (aX (aH w blk (off+a) (.U v)) (aH _ blk (off+piv) (.U u)));obtain⟨I1,eI1⟩:∃I,scanUp (λx=>ltInt x d1[a]!) d1 B1 (a+1)=I:=⟨_,rfl⟩;obtain⟨J2,eJ2⟩:∃J,scanDown (λx=>!ltInt x d1[a]!) d1 I1 B1=J:=⟨_,rfl⟩;have HR:Hid (((R1,R2,R3):Nat×Bool×Array Int)=if I1>J2 then(J2,true,swp d1 J2 a)else((partLoop ltInt a (I1+1) (J2-1) (swp d1 I1 J2)).1,false,swp (partLoop ltInt a (I1+1) (J2-1) (swp d1 I1 J2)).2 (partLoop ltInt a (I1+1) (J2-1) (swp d1 I1 J2)).1 a)):=by show _=_;rw[<-eR,partition,ed1,eB0];simp only[eI1,eJ2]
 have EI1:=ag eI1;have EJ2:=ag eJ2;have kk1:=aU a N;have kk2:=aU piv N
 go_in
 go_wp2_with fail
 go_region
 go_wp2_with fail
 go_loopw[10](λs wr=>∃i1:Nat,s=.I i1/\a+1<=i1/\i1<=B1+2/\Hid (HU wr blk off d1)/\Hid (scanUp (λx=>ltInt x d1[a]!) d1 B1 i1=I1)/\Hid (w.grownBy wr (some blk))) (λs _=>B1+1-(intOf s).toNat)
 exact⟨a+1,by first|rfl|go_num,af,af,(ae HSW),EI1,(az HG)⟩;{
 obtain⟨i1,rfl,qa1,qb1,Ck,hE1,hG1⟩:=hrel;obtain⟨Bc,Zc⟩:∃B,(decide (i1<=B1)&&((λx=>ltInt x d1[a]!) d1[i1]!))=B:=⟨_,rfl⟩;have vR:=ag Zc;go_wp2_with fail
 go_cut[43](λrv wc=>rv=.bool Bc/\wc=wr.drew)
 case first=>(
 by_cases ld:i1<=B1;{
 have Ci:=iC i1 B1;have hdd:=ae ZD;obtain⟨ci,-⟩:=ae Ck i1 af;obtain⟨ca,-⟩:=ae Ck a af
 let⟨x,ex⟩:=aL d1[i1]!
 rw[ex]at ci;rw[ae HY1]at ca;have k1:=aU i1 N;have k2:=aU a N;have k3:=dC 0 i1
 let⟨L,eL⟩:=aL (ltInt x y)
 have EL:=ag eL;have eB:Bc=L:=by rw[<-ae vR];simp only[BJ ld,pQ,ex,ae HY1,eL]
 subst eB;have K0:=ag (ai ci ca);refine du (λw'=>w'.cell? (Ad blk (off+i1))=some (.U x)/\w'.cell? (Ad blk (off+a))=some (.U y)) (by exact K0) λhS=>?_;refine mj 0 1 2 3 4 5 6 7 hS ?_;refine lG 8 9 10 11 hS ?_;refine cX 12 λKK hK=>?_;refine dh aJ aJ aJ aJ (λ_=>fQ) (fO) ?_;rintro r' w2⟨rfl,rfl⟩;refine⟨_,rfl,?_⟩;rw[ae EL];refine fh hK (by exact K0) λhS=>?_;refine tn 13 hS ?_;refine cY ?_;go_wp2_with fail;go_meet;exact⟨rfl,rfl⟩};{
 have Ci:¬(i1:Int)<=(B1:Int):=af;have eB:Bc=false:=by rw[<-ae vR,tW ld];rfl
 subst eB;refine du (λw'=>True) km λhS=>?_;refine lG 0 1 2 3 hS ?_;refine oQ 4 5 6 7 hS ?_;refine oQ 8 9 10 11 hS ?_;refine sn 12 hS ?_;refine tn 13 hS ?_;refine cY ?_;go_wp2_with fail;go_meet;exact⟨rfl,rfl⟩})
 obtain⟨rfl,rfl⟩:=hcut;cases Bc with
 |true=>
  have hh:i1<=B1/\((λx=>ltInt x d1[a]!) d1[i1]!)=true:=by have:=ae vR;rw[fk,pO]at this;exact this
  have hn:Hid (scanUp (λx=>ltInt x d1[a]!) d1 B1 (i1+1)=I1):=by show _=_;rw[<-ac0 hh.1 hh.2];exact ae hE1
  have hle:=hh.1;go_wp2;go_roundw;exact⟨i1+1,by go_num,af,af,Ck.drew,hn,az hG1⟩;exact cg
 |false=>
  have db:i1=I1:=by rw[<-ae hE1,Lv];have:=ae vR;rw[uM,xS]at this;exact this
  subst db;go_wp2_with fail
  go_loopw[11](λs wr=>∃j2:Nat,s=.I j2/\i1<=j2+2/\j2<=B1/\Hid (HU wr blk off d1)/\Hid (scanDown (λx=>!ltInt x d1[a]!) d1 i1 j2=J2)/\Hid (w.grownBy wr (some blk))) (λs _=>(intOf s).toNat)
  exact⟨B1,by first|rfl|go_num,af,af,Ck,EJ2,(az hG1)⟩;{
 obtain⟨j2,rfl,qa2,qb2,Fe,hE2,hG2⟩:=hrel;obtain⟨Bc,Zc⟩:∃B,(decide (i1<=j2)&&((λx=>!ltInt x d1[a]!) d1[j2]!))=B:=⟨_,rfl⟩;have vR:=ag Zc;go_wp2_with fail
 go_cut[60](λrv wc=>rv=.bool Bc/\wc=wr.drew)
 case first=>(
 by_cases ld:i1<=j2;{
 have Ci:=iC i1 j2;have hdd:=ae ZD;obtain⟨ci,-⟩:=ae Fe j2 af;obtain⟨ca,-⟩:=ae Fe a af
 let⟨x,ex⟩:=aL d1[j2]!
 rw[ex]at ci;rw[ae HY1]at ca;have k1:=aU j2 N;have k2:=aU a N;have k3:=dC 0 j2
 let⟨L,eL⟩:=aL (ltInt x y)
 have EL:=ag eL;have eB:Bc=(!L):=by rw[<-ae vR];simp only[BJ ld,pQ,ex,ae HY1,eL]
 subst eB;have K0:=ag (ai ci ca);refine du (λw'=>w'.cell? (Ad blk (off+j2))=some (.U x)/\w'.cell? (Ad blk (off+a))=some (.U y)) (by exact K0) λhS=>?_;refine mj 0 1 2 3 4 5 6 7 hS ?_;refine lG 8 9 10 11 hS ?_;refine cX 12 λKK hK=>?_;refine dh aJ aJ aJ aJ (λ_=>fQ) (fO) ?_;rintro r' w2⟨rfl,rfl⟩;refine⟨_,rfl,?_⟩;rw[ae EL];refine fh hK (by exact K0) λhS=>?_;refine jR 13 14 hS ?_;refine cY ?_;go_wp2_with fail;go_meet;exact⟨rfl,rfl⟩};{
 have Ci:¬(i1:Int)<=(j2:Int):=af;have eB:Bc=false:=by rw[<-ae vR,tW ld];rfl
 subst eB;refine du (λw'=>True) km λhS=>?_;refine lG 0 1 2 3 hS ?_;refine oQ 4 5 6 7 hS ?_;refine oQ 8 9 10 11 hS ?_;refine sn 12 hS ?_;refine sn 13 hS ?_;refine tn 14 hS ?_;refine cY ?_;go_wp2_with fail;go_meet;exact⟨rfl,rfl⟩})
 obtain⟨rfl,rfl⟩:=hcut;cases Bc with
 |true=>
  have hh:i1<=j2/\((λx=>!ltInt x d1[a]!) d1[j2]!)=true:=by have:=ae vR;rw[fk,pO]at this;exact this
  have hle:=hh.1;obtain⟨m,em⟩:∃m:Nat,(j2:Int)-1=(m:Int):=⟨j2-1,af⟩;have hn:Hid (scanDown (λx=>!ltInt x d1[a]!) d1 i1 m=J2):=by show _=_;rw[<-ae hE2,Nx af hh.1 hh.2,show j2-1=m by omega]
  go_wp2;go_roundw;exact⟨m,by first|rfl|go_num,af,af,Fe.drew,hn,az hG2⟩;exact cg
 |false=>
  have db:j2=J2:=by rw[<-ae hE2,Cv af];have:=ae vR;rw[uM,xS]at this;exact this
  subst db;by_cases hgt:j2<i1;{
 have cC5:=aU j2 i1;have hr:=ae HR;rw[bO hgt]at hr;simp only[gy]at hr;obtain⟨Xy,Nq,er3⟩:=hr;replace Xy:=Xy.symm;replace er3:=er3.symm;subst Xy Nq er3
 let⟨c1,f1⟩:=ae Fe j2 (aI (ae ZD))
 let⟨c2,f2⟩:=ae Fe a (aI (ae ZD))
 let⟨p1,Ig⟩:=aL d1[j2]!
 let⟨p2,Ie⟩:=aL d1[a]!
 rw[Ig]at c1;rw[Ie]at c2
 let⟨tt,ct⟩:=jF (q:=(Ad blk (off+j2))) (u:=.U p2) c2
 have vm:=ag (Fe.swap (i:=j2) (j:=a) (aI (ae ZD)) (aI (ae ZD)) Ie.symm Ig.symm);have Tx:=ag (aX (aX hG2 (aH _ blk (off+j2) (.U p2))) (aH _ blk (off+a) (.U p1)));have l1:=aU j2 N;have l2:=aU a N;have l3:=dC 0 j2;have l4:=dC 0 a;go_wp2_with fail
 go_region
 go_wp2
 go_ret2
 exact⟨rfl,vm,az (az Tx)⟩};{
 have cC5:=dB j2 i1;obtain⟨⟨Q1,Q2⟩,eQ⟩:∃Q,partLoop ltInt a (i1+1) (j2-1) (swp d1 i1 j2)=Q:=⟨_,rfl⟩;have hr:=ae HR;rw[bH hgt,eQ]at hr;have HRB:=ag hr;have EQ:=ag eQ
 let⟨c1,f1⟩:=ae Fe i1 (aI (ae ZD))
 let⟨c2,f2⟩:=ae Fe j2 (aI (ae ZD))
 let⟨p1,Ig⟩:=aL d1[i1]!
 let⟨p2,Ie⟩:=aL d1[j2]!
 rw[Ig]at c1;rw[Ie]at c2
 let⟨tt,ct⟩:=jF (q:=(Ad blk (off+i1))) (u:=.U p2) c2
 have vm:=ag (Fe.swap (i:=i1) (j:=j2) (aI (ae ZD)) (aI (ae ZD)) Ie.symm Ig.symm);have Tx:=ag (aX (aX hG2 (aH _ blk (off+i1) (.U p2))) (aH _ blk (off+j2) (.U p1)));have l1:=aU i1 N;have l2:=aU j2 N;have l3:=dC 0 i1;have l4:=dC 0 j2;obtain⟨m2,em2⟩:∃m:Nat,(j2:Int)-1=(m:Int):=⟨j2-1,af⟩;have cL6:j2-1=m2:=af;rw[cL6]at EQ;have HD2:Hid ((swp d1 i1 j2).size=N):=by show _=_;rw[size_swp];exact ae ZD
 go_wp2_with fail
 go_region
 go_wp2_with fail
 go_loopw[10,11](λUy s11 wr=>∃(i j:Nat)(dk:Array Int),Uy=.I i/\s11=.I j/\a+1<=i/\i<=j+2/\j<=B1/\Hid (dk.size=N)/\Hid (HU wr blk off dk)/\Hid (partLoop ltInt a i j dk=(Q1,Q2))/\Hid (w.grownBy wr (some blk))) (λUy s11 _=>(intOf s11+2-intOf Uy).toNat)
 exact⟨i1+1,m2,_,by first|rfl|go_num,by first|rfl|go_num,af,af,af,HD2,vm,EQ,az (az Tx)⟩;{
 obtain⟨i,j,dk,rfl,rfl,z1,z2,z3,Iy,Nj,hQ3,hG3⟩:=hrel
 let⟨y,ey⟩:=aL dk[a]!
 have HY3:=ag ey;obtain⟨I4,eI4⟩:∃I,scanUp (λx=>ltInt x dk[a]!) dk j i=I:=⟨_,rfl⟩;obtain⟨J5,eJ5⟩:∃J,scanDown (λx=>!ltInt x dk[a]!) dk I4 j=J:=⟨_,rfl⟩;have EI4:=ag eI4;have EJ5:=ag eJ5;have aA5:=EI4;have aA4:=EJ5;go_wp2_with fail
 let⟨Y,eY⟩:=aB wr
 subst eY
 go_loopw[10](λs wr=>∃i4:Nat,s=.I i4/\i<=i4/\i4<=j+2/\Hid (HU wr blk off dk)/\Hid (scanUp (λx=>ltInt x dk[a]!) dk j i4=I4)/\Hid (w.grownBy wr (some blk))) (λs _=>j+1-(intOf s).toNat)
 exact⟨i,by first|rfl|go_num,af,af,Nj,EI4,hG3⟩;{
 obtain⟨i4,rfl,qa4,qb4,Ry,hE4,hG4⟩:=hrel;obtain⟨Bc,Zc⟩:∃B,(decide (i4<=j)&&((λx=>ltInt x dk[a]!) dk[i4]!))=B:=⟨_,rfl⟩;have vR:=ag Zc;go_wp2_with fail
 go_cut[112](λrv wc=>rv=.bool Bc/\wc=wr.drew)
 case first=>(
 by_cases ld:i4<=j;{
 have Ci:=iC i4 j;have hdd:=ae Iy;obtain⟨ci,-⟩:=ae Ry i4 af;obtain⟨ca,-⟩:=ae Ry a af
 let⟨x,ex⟩:=aL dk[i4]!
 rw[ex]at ci;rw[ae HY3]at ca;have k1:=aU i4 N;have k2:=aU a N;have k3:=dC 0 i4
 let⟨L,eL⟩:=aL (ltInt x y)
 have EL:=ag eL;have eB:Bc=L:=by rw[<-ae vR];simp only[BJ ld,pQ,ex,ae HY3,eL]
 subst eB;have K0:=ag (ai ci ca);refine du (λw'=>w'.cell? (Ad blk (off+i4))=some (.U x)/\w'.cell? (Ad blk (off+a))=some (.U y)) (by exact K0) λhS=>?_;refine mj 0 1 2 3 4 5 6 7 hS ?_;refine lG 8 9 10 11 hS ?_;refine cX 12 λKK hK=>?_;refine dh aJ aJ aJ aJ (λ_=>fQ) (fO) ?_;rintro r' w2⟨rfl,rfl⟩;refine⟨_,rfl,?_⟩;rw[ae EL];refine fh hK (by exact K0) λhS=>?_;refine tn 13 hS ?_;refine cY ?_;go_wp2_with fail;go_meet;exact⟨rfl,rfl⟩};{
 have Ci:¬(i4:Int)<=(j:Int):=af;have eB:Bc=false:=by rw[<-ae vR,tW ld];rfl
 subst eB;refine du (λw'=>True) km λhS=>?_;refine lG 0 1 2 3 hS ?_;refine oQ 4 5 6 7 hS ?_;refine oQ 8 9 10 11 hS ?_;refine sn 12 hS ?_;refine tn 13 hS ?_;refine cY ?_;go_wp2_with fail;go_meet;exact⟨rfl,rfl⟩})
 obtain⟨rfl,rfl⟩:=hcut;cases Bc with
 |true=>
  have hh:i4<=j/\((λx=>ltInt x dk[a]!) dk[i4]!)=true:=by have:=ae vR;rw[fk,pO]at this;exact this
  have hn:Hid (scanUp (λx=>ltInt x dk[a]!) dk j (i4+1)=I4):=by show _=_;rw[<-ac0 hh.1 hh.2];exact ae hE4
  have hle:=hh.1;go_wp2;go_roundw;exact⟨i4+1,by go_num,af,af,Ry.drew,hn,az hG4⟩;exact cg
 |false=>
  have db:i4=I4:=by rw[<-ae hE4,Lv];have:=ae vR;rw[uM,xS]at this;exact this
  subst db;go_wp2_with fail
  go_loopw[11](λs wr=>∃j5:Nat,s=.I j5/\i4<=j5+2/\j5<=j/\Hid (HU wr blk off dk)/\Hid (scanDown (λx=>!ltInt x dk[a]!) dk i4 j5=J5)/\Hid (w.grownBy wr (some blk))) (λs _=>(intOf s).toNat)
  exact⟨j,by first|rfl|go_num,af,af,Ry,EJ5,(az hG4)⟩;{
 obtain⟨j5,rfl,qa5,qb5,JB,hE5,hG5⟩:=hrel;obtain⟨Bc,Zc⟩:∃B,(decide (i4<=j5)&&((λx=>!ltInt x dk[a]!) dk[j5]!))=B:=⟨_,rfl⟩;have vR:=ag Zc;go_wp2_with fail
 go_cut[129](λrv wc=>rv=.bool Bc/\wc=wr.drew)
 case first=>(
 by_cases ld:i4<=j5;{
 have Ci:=iC i4 j5;have hdd:=ae Iy;obtain⟨ci,-⟩:=ae JB j5 af;obtain⟨ca,-⟩:=ae JB a af
 let⟨x,ex⟩:=aL dk[j5]!
 rw[ex]at ci;rw[ae HY3]at ca;have k1:=aU j5 N;have k2:=aU a N;have k3:=dC 0 j5
 let⟨L,eL⟩:=aL (ltInt x y)
 have EL:=ag eL;have eB:Bc=(!L):=by rw[<-ae vR];simp only[BJ ld,pQ,ex,ae HY3,eL]
 subst eB;have K0:=ag (ai ci ca);refine du (λw'=>w'.cell? (Ad blk (off+j5))=some (.U x)/\w'.cell? (Ad blk (off+a))=some (.U y)) (by exact K0) λhS=>?_;refine mj 0 1 2 3 4 5 6 7 hS ?_;refine lG 8 9 10 11 hS ?_;refine cX 12 λKK hK=>?_;refine dh aJ aJ aJ aJ (λ_=>fQ) (fO) ?_;rintro r' w2⟨rfl,rfl⟩;refine⟨_,rfl,?_⟩;rw[ae EL];refine fh hK (by exact K0) λhS=>?_;refine jR 13 14 hS ?_;refine cY ?_;go_wp2_with fail;go_meet;exact⟨rfl,rfl⟩};{
 have Ci:¬(i4:Int)<=(j5:Int):=af;have eB:Bc=false:=by rw[<-ae vR,tW ld];rfl
 subst eB;refine du (λw'=>True) km λhS=>?_;refine lG 0 1 2 3 hS ?_;refine oQ 4 5 6 7 hS ?_;refine oQ 8 9 10 11 hS ?_;refine sn 12 hS ?_;refine sn 13 hS ?_;refine tn 14 hS ?_;refine cY ?_;go_wp2_with fail;go_meet;exact⟨rfl,rfl⟩})
 obtain⟨rfl,rfl⟩:=hcut;cases Bc with
 |true=>
  have hh:i4<=j5/\((λx=>!ltInt x dk[a]!) dk[j5]!)=true:=by have:=ae vR;rw[fk,pO]at this;exact this
  have hle:=hh.1;obtain⟨m,em⟩:∃m:Nat,(j5:Int)-1=(m:Int):=⟨j5-1,af⟩;have hn:Hid (scanDown (λx=>!ltInt x dk[a]!) dk i4 m=J5):=by show _=_;rw[<-ae hE5,Nx af hh.1 hh.2,show j5-1=m by omega]
  go_wp2;go_roundw;exact⟨m,by first|rfl|go_num,af,af,JB.drew,hn,az hG5⟩;exact cg
 |false=>
  have db:j5=J5:=by rw[<-ae hE5,Cv af];have:=ae vR;rw[uM,xS]at this;exact this
  subst db;by_cases vZ:j5<i4;{
 have bj4:=aU j5 i4;have hq:=ae hQ3;rw[I5 (ae aA5) (ae aA4) vZ]at hq;simp only[gy]at hq;obtain⟨eq1,eq2⟩:=hq;subst eq1 eq2;have hr:=ae HRB;simp only[gy]at hr;obtain⟨Xy,Nq,er3⟩:=hr;replace Xy:=Xy.symm;replace er3:=er3.symm;subst Xy Nq er3
 let⟨c1,f1⟩:=ae JB j5 (aI (ae Iy))
 let⟨c2,f2⟩:=ae JB a (aI (ae Iy))
 let⟨p1,Ig⟩:=aL dk[j5]!
 let⟨p2,Ie⟩:=aL dk[a]!
 rw[Ig]at c1;rw[Ie]at c2
 let⟨tt,ct⟩:=jF (q:=(Ad blk (off+j5))) (u:=.U p2) c2
 have vm:=ag (JB.swap (i:=j5) (j:=a) (aI (ae Iy)) (aI (ae Iy)) Ie.symm Ig.symm);have Tx:=ag (aX (aX hG5 (aH _ blk (off+j5) (.U p2))) (aH _ blk (off+a) (.U p1)));have l1:=aU j5 N;have l2:=aU a N;have l3:=dC 0 j5;have l4:=dC 0 a;go_wp2_with fail
 go_region
 go_wp2
 go_ret2
 exact⟨rfl,vm,az (az Tx)⟩};{
 have bj4:=dB j5 i4;have hq:=ae hQ3;rw[Qa (ae aA5) (ae aA4) vZ af af af]at hq;have HQ5:=ag hq
 let⟨c1,f1⟩:=ae JB i4 (aI (ae Iy))
 let⟨c2,f2⟩:=ae JB j5 (aI (ae Iy))
 let⟨p1,Ig⟩:=aL dk[i4]!
 let⟨p2,Ie⟩:=aL dk[j5]!
 rw[Ig]at c1;rw[Ie]at c2
 let⟨tt,ct⟩:=jF (q:=(Ad blk (off+i4))) (u:=.U p2) c2
 have vm:=ag (JB.swap (i:=i4) (j:=j5) (aI (ae Iy)) (aI (ae Iy)) Ie.symm Ig.symm);have Tx:=ag (aX (aX hG5 (aH _ blk (off+i4) (.U p2))) (aH _ blk (off+j5) (.U p1)));have l1:=aU i4 N;have l2:=aU j5 N;have l3:=dC 0 i4;have l4:=dC 0 j5;obtain⟨m5,em5⟩:∃m:Nat,(j5:Int)-1=(m:Int):=⟨j5-1,af⟩;have bm8:j5-1=m5:=af;rw[bm8]at HQ5;have HD5:Hid ((swp dk i4 j5).size=N):=by show _=_;rw[size_swp];exact ae Iy
 go_wp2_with fail
 go_region
 go_wp2;go_roundw;exact⟨i4+1,m5,_,by first|rfl|go_num,by first|rfl|go_num,af,af,af,HD5,vm,HQ5,az (az Tx)⟩
 case measure=>simp[intOf];omega}}}}}}}
end Q
namespace Q
open Go.Sort Go.RowKit Go.Proofs.Tryz
def DZ{a i j:Nat}{d:Array Int}{i2 j2:Nat}(h1:scanUp (λx=>!ltInt d[a]! x) d j i=i2)(h2:scanDown (λx=>ltInt d[a]! x) d i2 j=j2)(h:j2<i2):partEqLoop ltInt a i j d=(i2,d):=by
 rw[partEqLoop];simp only[h1,h2];rw[bO h]
def I8{a i j:Nat}{d:Array Int}{i2 j2:Nat}(h1:scanUp (λx=>!ltInt d[a]! x) d j i=i2)(h2:scanDown (λx=>ltInt d[a]! x) d i2 j=j2)(h:¬j2<i2)(hi:i<=i2)(hj:j2<=j)(hi0:0<i2):partEqLoop ltInt a i j d=partEqLoop ltInt a (i2+1) (j2-1) (swp d i2 j2):=by
 rw[partEqLoop];simp only[h1,h2];rw[bH h,QI af]
theorem UE{blk off cap N a b piv:Nat}{d:Array Int}(hN:Hid (d.size=N)){w:World}(h:HU w blk off d)(Z7:a<=piv)(hpb:piv<b)(hb:b<=N)(jl:N<=1048576):Calls prog 261 #[.S (some (Ad blk off)) N cap,.I a,.I b,.I piv] w λe w'=>e=.returned (.I (partitionEqual ltInt d a b piv).1)/\HU w' blk off (partitionEqual ltInt d a b piv).2/\w.grownBy w' (some blk):=by
 obtain⟨⟨Q1,Q2⟩,eR⟩:∃R,partitionEqual ltInt d a b piv=R:=⟨_,rfl⟩;rw[eR];have Ao:=ae hN;obtain⟨B1,eB1⟩:∃x:Nat,(b:Int)-1=(x:Int):=⟨b-1,af⟩;have eB0:b-1=B1:=af;have wB:=e8 B1
 let⟨ca,fa⟩:=h a af
 let⟨cp,fp⟩:=h piv af
 let⟨u,eu⟩:=aL d[a]!
 let⟨v,ev⟩:=aL d[piv]!
 have HSW:=ag (h.swap (i:=a) (j:=piv) af af ev.symm eu.symm);rw[eu]at ca;rw[ev]at cp
 let⟨tt,ct⟩:=jF (q:=(Ad blk (off+a))) (u:=.U v) cp
 let⟨d1,ed1⟩:=aL (swp d a piv)
 rw[ed1]at HSW;have ZD:Hid (d1.size=N):=by show _=_;rw[<-ed1,size_swp];exact Ao
 have HG:=ag (aX (aH w blk (off+a) (.U v)) (aH _ blk (off+piv) (.U u)));have EQ:Hid (partEqLoop ltInt a (a+1) B1 d1=(Q1,Q2)):=by show _=_;rw[<-eR,partitionEqual,ed1,eB0]
 have kk1:=aU a N;have kk2:=aU piv N
 go_in
 go_wp2_with fail
 go_region
 go_wp2_with fail
 go_loopw[9,10](λs9 Uy wr=>∃(i j:Nat)(dk:Array Int),s9=.I i/\Uy=.I j/\a+1<=i/\i<=j+2/\j<=B1/\Hid (dk.size=N)/\Hid (HU wr blk off dk)/\Hid (partEqLoop ltInt a i j dk=(Q1,Q2))/\Hid (w.grownBy wr (some blk))) (λs9 Uy _=>(intOf Uy+2-intOf s9).toNat)
 exact⟨a+1,B1,_,by first|rfl|go_num,by first|rfl|go_num,af,af,af,ZD,HSW,EQ,az HG⟩;{
 obtain⟨i,j,dk,rfl,rfl,z1,z2,z3,Iy,Nj,hQ3,hG3⟩:=hrel
 let⟨y,ey⟩:=aL dk[a]!
 have HY3:=ag ey;obtain⟨I4,eI4⟩:∃I,scanUp (λx=>!ltInt dk[a]! x) dk j i=I:=⟨_,rfl⟩;obtain⟨J5,eJ5⟩:∃J,scanDown (λx=>ltInt dk[a]! x) dk I4 j=J:=⟨_,rfl⟩;have EI4:=ag eI4;have EJ5:=ag eJ5;have aA5:=EI4;have aA4:=EJ5;go_wp2_with fail
 let⟨Y,eY⟩:=aB wr
 subst eY
 go_loopw[9](λs wr=>∃i4:Nat,s=.I i4/\i<=i4/\i4<=j+2/\Hid (HU wr blk off dk)/\Hid (scanUp (λx=>!ltInt dk[a]! x) dk j i4=I4)/\Hid (w.grownBy wr (some blk))) (λs _=>j+1-(intOf s).toNat)
 exact⟨i,by first|rfl|go_num,af,af,Nj,EI4,hG3⟩;{
 obtain⟨i4,rfl,qa4,qb4,Ry,hE4,hG4⟩:=hrel;obtain⟨Bc,Zc⟩:∃B,(decide (i4<=j)&&((λx=>!ltInt dk[a]! x) dk[i4]!))=B:=⟨_,rfl⟩;have vR:=ag Zc;go_wp2_with fail
 go_cut[43](λrv wc=>rv=.bool Bc/\wc=wr.drew)
 case first=>(
 by_cases ld:i4<=j;{
 have Ci:=iC i4 j;have hdd:=ae Iy;obtain⟨ci,-⟩:=ae Ry i4 af;obtain⟨ca,-⟩:=ae Ry a af
 let⟨x,ex⟩:=aL dk[i4]!
 rw[ex]at ci;rw[ae HY3]at ca;have k1:=aU i4 N;have k2:=aU a N;have k3:=dC 0 i4
 let⟨L,eL⟩:=aL (ltInt y x)
 have EL:=ag eL;have eB:Bc=(!L):=by rw[<-ae vR];simp only[BJ ld,pQ,ex,ae HY3,eL]
 subst eB;have K0:=ag (ai ci ca);refine du (λw'=>w'.cell? (Ad blk (off+i4))=some (.U x)/\w'.cell? (Ad blk (off+a))=some (.U y)) (by exact K0) λhS=>?_;refine mj 0 1 2 3 4 5 6 7 hS ?_;refine lG 8 9 10 11 hS ?_;refine cX 12 λKK hK=>?_;refine dh aJ aJ aJ aJ (λ_=>fQ) (fO) ?_;rintro r' w2⟨rfl,rfl⟩;refine⟨_,rfl,?_⟩;rw[ae EL];refine fh hK (by exact K0) λhS=>?_;refine jR 13 14 hS ?_;refine cY ?_;go_wp2_with fail;go_meet;exact⟨rfl,rfl⟩};{
 have Ci:¬(i4:Int)<=(j:Int):=af;have eB:Bc=false:=by rw[<-ae vR,tW ld];rfl
 subst eB;refine du (λw'=>True) km λhS=>?_;refine lG 0 1 2 3 hS ?_;refine oQ 4 5 6 7 hS ?_;refine oQ 8 9 10 11 hS ?_;refine sn 12 hS ?_;refine sn 13 hS ?_;refine tn 14 hS ?_;refine cY ?_;go_wp2_with fail;go_meet;exact⟨rfl,rfl⟩})
 obtain⟨rfl,rfl⟩:=hcut;cases Bc with
 |true=>
  have hh:i4<=j/\((λx=>!ltInt dk[a]! x) dk[i4]!)=true:=by have:=ae vR;rw[fk,pO]at this;exact this
  have hn:Hid (scanUp (λx=>!ltInt dk[a]! x) dk j (i4+1)=I4):=by show _=_;rw[<-ac0 hh.1 hh.2];exact ae hE4
  have hle:=hh.1;go_wp2;go_roundw;exact⟨i4+1,by go_num,af,af,Ry.drew,hn,az hG4⟩;exact cg
 |false=>
  have db:i4=I4:=by rw[<-ae hE4,Lv];have:=ae vR;rw[uM,xS]at this;exact this
  subst db;go_wp2_with fail
  go_loopw[10](λs wr=>∃j5:Nat,s=.I j5/\i4<=j5+2/\j5<=j/\Hid (HU wr blk off dk)/\Hid (scanDown (λx=>ltInt dk[a]! x) dk i4 j5=J5)/\Hid (w.grownBy wr (some blk))) (λs _=>(intOf s).toNat)
  exact⟨j,by first|rfl|go_num,af,af,Ry,EJ5,(az hG4)⟩;{
 obtain⟨j5,rfl,qa5,qb5,JB,hE5,hG5⟩:=hrel;obtain⟨Bc,Zc⟩:∃B,(decide (i4<=j5)&&((λx=>ltInt dk[a]! x) dk[j5]!))=B:=⟨_,rfl⟩;have vR:=ag Zc;go_wp2_with fail
 go_cut[59](λrv wc=>rv=.bool Bc/\wc=wr.drew)
 case first=>(
 by_cases ld:i4<=j5;{
 have Ci:=iC i4 j5;have hdd:=ae Iy;obtain⟨ci,-⟩:=ae JB j5 af;obtain⟨ca,-⟩:=ae JB a af
 let⟨x,ex⟩:=aL dk[j5]!
 rw[ex]at ci;rw[ae HY3]at ca;have k1:=aU j5 N;have k2:=aU a N;have k3:=dC 0 j5
 let⟨L,eL⟩:=aL (ltInt y x)
 have EL:=ag eL;have eB:Bc=L:=by rw[<-ae vR];simp only[BJ ld,pQ,ex,ae HY3,eL]
 subst eB;have K0:=ag (ai ci ca);refine du (λw'=>w'.cell? (Ad blk (off+j5))=some (.U x)/\w'.cell? (Ad blk (off+a))=some (.U y)) (by exact K0) λhS=>?_;refine mj 0 1 2 3 4 5 6 7 hS ?_;refine lG 8 9 10 11 hS ?_;refine cX 12 λKK hK=>?_;refine dh aJ aJ aJ aJ (λ_=>fQ) (fO) ?_;rintro r' w2⟨rfl,rfl⟩;refine⟨_,rfl,?_⟩;rw[ae EL];refine fh hK (by exact K0) λhS=>?_;refine tn 13 hS ?_;refine cY ?_;go_wp2_with fail;go_meet;exact⟨rfl,rfl⟩};{
 have Ci:¬(i4:Int)<=(j5:Int):=af;have eB:Bc=false:=by rw[<-ae vR,tW ld];rfl
 subst eB;refine du (λw'=>True) km λhS=>?_;refine lG 0 1 2 3 hS ?_;refine oQ 4 5 6 7 hS ?_;refine oQ 8 9 10 11 hS ?_;refine sn 12 hS ?_;refine tn 13 hS ?_;refine cY ?_;go_wp2_with fail;go_meet;exact⟨rfl,rfl⟩})
 obtain⟨rfl,rfl⟩:=hcut;cases Bc with
 |true=>
  have hh:i4<=j5/\((λx=>ltInt dk[a]! x) dk[j5]!)=true:=by have:=ae vR;rw[fk,pO]at this;exact this
  have hle:=hh.1;obtain⟨m,em⟩:∃m:Nat,(j5:Int)-1=(m:Int):=⟨j5-1,af⟩;have hn:Hid (scanDown (λx=>ltInt dk[a]! x) dk i4 m=J5):=by show _=_;rw[<-ae hE5,Nx af hh.1 hh.2,show j5-1=m by omega]
  go_wp2;go_roundw;exact⟨m,by first|rfl|go_num,af,af,JB.drew,hn,az hG5⟩;exact cg
 |false=>
  have db:j5=J5:=by rw[<-ae hE5,Cv af];have:=ae vR;rw[uM,xS]at this;exact this
  subst db;by_cases vZ:j5<i4;{have bj4:=aU j5 i4;have hq:=ae hQ3;rw[DZ (ae aA5) (ae aA4) vZ]at hq;simp only[gy]at hq;obtain⟨eq1,eq2⟩:=hq;subst eq1 eq2;go_wp2;go_ret;exact⟨rfl,JB,az hG5⟩};{
 have bj4:=dB j5 i4;have hq:=ae hQ3;rw[I8 (ae aA5) (ae aA4) vZ af af af]at hq;have HQ5:=ag hq
 let⟨c1,f1⟩:=ae JB i4 (aI (ae Iy))
 let⟨c2,f2⟩:=ae JB j5 (aI (ae Iy))
 let⟨p1,Ig⟩:=aL dk[i4]!
 let⟨p2,Ie⟩:=aL dk[j5]!
 rw[Ig]at c1;rw[Ie]at c2
 let⟨tt,ct⟩:=jF (q:=(Ad blk (off+i4))) (u:=.U p2) c2
 have vm:=ag (JB.swap (i:=i4) (j:=j5) (aI (ae Iy)) (aI (ae Iy)) Ie.symm Ig.symm);have Tx:=ag (aX (aX hG5 (aH _ blk (off+i4) (.U p2))) (aH _ blk (off+j5) (.U p1)));have l1:=aU i4 N;have l2:=aU j5 N;have l3:=dC 0 i4;have l4:=dC 0 j5;obtain⟨m5,em5⟩:∃m:Nat,(j5:Int)-1=(m:Int):=⟨j5-1,af⟩;have bm8:j5-1=m5:=af;rw[bm8]at HQ5;have HD5:Hid ((swp dk i4 j5).size=N):=by show _=_;rw[size_swp];exact ae Iy
 go_wp2_with fail
 go_region
 go_wp2;go_roundw;exact⟨i4+1,m5,_,by first|rfl|go_num,by first|rfl|go_num,af,af,af,HD5,vm,HQ5,az (az Tx)⟩
 case measure=>simp[intOf];omega}}}}
end Q
namespace Q
open Go.Sort Go.RowKit Go.Proofs.Tryz
def bC4{d:Array Int}{b i:Nat}(h:i<b)(hp:ltInt d[i]! d[i-1]! = false):scanSorted ltInt d b i=scanSorted ltInt d b (i+1):=by
 rw[scanSorted,bO (by simp[h,hp])]
def aG5{d:Array Int}{b i:Nat}(h:¬i<b\/ltInt d[i]! d[i-1]! = true):scanSorted ltInt d b i=i:=by
 rw[scanSorted,bH];rcases h with h|h;{simp;omega};{simp[h]}
theorem Wv:∀(j:Nat)(d:Array Int),(shiftDown ltInt j d).size=d.size
 |0,d=>rfl
 |j+1,d=>by
  rw[shiftDown];split;{rfl}
  {rw[Wv j,size_swp]}
theorem aG1(b:Nat):∀(k j:Nat)(d:Array Int),b-j<=k->(shiftUp ltInt b j d).size=d.size:=by
 intro k
 induction k with
 |zero=>intro j d h;rw[shiftUp,bH af]
 |succ k ih=>
  intro j d h;rw[shiftUp];split;{
 split;{rfl}
 {rw[ih _ _ af,size_swp]}};{rfl}
theorem bC8{j:Nat}{d:Array Int}(h:0<j)(hp:ltInt d[j]! d[j-1]! = true):shiftDown ltInt j d=shiftDown ltInt (j-1) (swp d j (j-1)):=by
 cases j with
 |zero=>omega
 |succ j=>
  simp only[Aa]at hp⊢;rw[shiftDown,bH (by simp[hp])]
theorem Wu{j:Nat}{d:Array Int}(h:j=0\/ltInt d[j]! d[j-1]! = false):shiftDown ltInt j d=d:=by
 cases j with
 |zero=>rfl
 |succ j=>
  rcases h with h|h;{omega};{simp only[Aa]at h;rw[shiftDown,bO (by simp[h])]}
def bC1{b j:Nat}{d:Array Int}(h:j<b)(hp:ltInt d[j]! d[j-1]! = true):shiftUp ltInt b j d=shiftUp ltInt b (j+1) (swp d j (j-1)):=by
 rw[shiftUp,bO h,bH (by simp[hp])]
def Wn{b j:Nat}{d:Array Int}(h:¬j<b\/ltInt d[j]! d[j-1]! = false):shiftUp ltInt b j d=d:=by
 rw[shiftUp];rcases h with h|h;{rw[bH h]};{split;{rw[bO (by simp[h])]};{rfl}}
def aH8{a b s i I:Nat}{d:Array Int}(hI:scanSorted ltInt d b i=I)(h:I=b):partialIns ltInt a b (s+1) i d=(d,true):=by
 rw[partialIns];simp only[hI];rw[bO h]
def pi_short{a b s i I:Nat}{d:Array Int}(hI:scanSorted ltInt d b i=I)(h:¬I=b)(h5:b-a<50):partialIns ltInt a b (s+1) i d=(d,false):=by
 rw[partialIns];simp only[hI];rw[bH h,bO h5]
def pi_go{a b s i I:Nat}{d:Array Int}(hI:scanSorted ltInt d b i=I)(h:¬I=b)(h5:¬b-a<50){d2 d3 d4:Array Int}(h2:swp d I (I-1)=d2)(h3:(if I-a>=2 then shiftDown ltInt (I-1) d2 else d2)=d3)(h4:(if b-I>=2 then shiftUp ltInt b (I+1) d3 else d3)=d4):partialIns ltInt a b (s+1) i d=partialIns ltInt a b s I d4:=by
 rw[partialIns];simp only[hI];rw[bH h,bH h5,h2,h3,h4]
theorem Yo{blk off cap N a b:Nat}{d:Array Int}(hN:Hid (d.size=N)){w:World}(h:HU w blk off d)(Tq:a<b)(hb:b<=N)(jl:N<=1048576):Calls prog 259 #[.S (some (Ad blk off)) N cap,.I a,.I b] w λe w'=>e=.returned (.bool (partialInsertionSort ltInt d a b).2)/\HU w' blk off (partialInsertionSort ltInt d a b).1/\w.grownBy w' (some blk):=by
 obtain⟨⟨R1,R2⟩,eR⟩:∃R,partialInsertionSort ltInt d a b=R:=⟨_,rfl⟩;rw[eR];have ER:Hid (partialIns ltInt a b 5 (a+1) d=(R1,R2)):=eR;have H0:=ag h;obtain⟨Lz,eL⟩:∃x:Nat,(b:Int)-(a:Int)=(x:Int):=⟨b-a,af⟩;have eL0:=ag (show b-a=Lz by omega);have wL:=e8 Lz
 go_in
 go_wp2_with fail
 go_loopw[7,8](λs7 s8 wr=>∃(i s:Nat)(jz:Int)(dk:Array Int),s7=.I i/\s8=.I jz/\jz+s=5/\0<=jz/\a+1<=i/\i<=b/\Hid (dk.size=N)/\Hid (HU wr blk off dk)/\Hid (partialIns ltInt a b s i dk=(R1,R2))/\Hid (w.grownBy wr (some blk))) (λ_ s8 _=>(5-intOf s8).toNat)
 exact⟨a+1,5,0,d,by first|rfl|go_num,rfl,rfl,af,af,af,hN,H0,ER,qQ⟩;{
 obtain⟨i,s,jz,dk,rfl,rfl,z1,z2,z3,z4,HD,hH,hQ,hG⟩:=hrel;cases s with
 |zero=>
  have hj:¬jz<5:=af;have hq:=ae hQ;simp only[partialIns,gy]at hq;obtain⟨eq1,eq2⟩:=hq;subst eq1 eq2;go_wp2;go_ret;exact⟨rfl,hH,hG⟩
 |succ t=>
  have hj:jz<5:=af
  let⟨I,eI⟩:=aL (scanSorted ltInt dk b i)
  have EI:=ag eI;have EI':=ag eI;have Ao:=ae HD;go_wp2_with fail
  let⟨Y,eY⟩:=aB wr
  subst eY
  go_loopw[7](λs7 wr=>∃i1:Nat,s7=.I i1/\a+1<=i1/\i1<=b/\Hid (HU wr blk off dk)/\Hid (scanSorted ltInt dk b i1=I)/\Hid (w.grownBy wr (some blk))) (λs7 _=>b-(intOf s7).toNat)
  exact⟨i,rfl,af,af,hH,EI,hG⟩;{
 obtain⟨i1,rfl,qa,qb,Ck,hE1,hG1⟩:=hrel
 let⟨Bc,Zc⟩:=aL (decide (i1<b)&&!ltInt dk[i1]! dk[i1-1]!)
 have vR:=ag Zc;obtain⟨m,em⟩:∃m:Nat,(i1:Int)-1=(m:Int):=⟨i1-1,af⟩;have em0:=ag (show i1-1=m by omega);have wm:=e8 m;go_wp2_with fail
 go_cut[32](λrv wc=>rv=.bool Bc/\wc=wr.drew)
 case first=>(
 by_cases ld:i1<b;{
 have Ci:=aU i1 b;obtain⟨c1,-⟩:=ae Ck i1 af;obtain⟨c2,-⟩:=ae Ck m af
 let⟨x,ex⟩:=aL dk[i1]!
 let⟨y,ey⟩:=aL dk[m]!
 rw[ex]at c1;rw[ey]at c2;have k1:=aU i1 N;have k2:=aU m N;have k3:=dC 0 i1;have k4:=dC 0 m
 let⟨L,eL'⟩:=aL (ltInt x y)
 have EL:=ag eL';have eB:Bc=(!L):=by rw[<-ae vR];simp only[BJ ld,pQ,ae em0,ex,ey,eL']
 subst eB;have K0:=ag (ai c1 c2);refine du (λw'=>w'.cell? (Ad blk (off+i1))=some (.U x)/\w'.cell? (Ad blk (off+m))=some (.U y)) (by exact K0) λhS=>?_;refine mj 0 1 2 3 4 5 6 7 hS ?_;refine lG 8 9 10 11 hS ?_;refine tn 12 hS ?_;refine cX 13 λKK hK=>?_;refine dh aJ aJ aJ aJ (λ_=>fQ) (fO) ?_;rintro r' w2⟨rfl,rfl⟩;refine⟨_,rfl,?_⟩;rw[ae EL];refine fh hK (by exact K0) λhS=>?_;refine jR 14 15 hS ?_;refine cY ?_;go_wp2_with fail;go_meet;exact⟨rfl,rfl⟩};{
 have Ci:=dB i1 b;have eB:Bc=false:=by rw[<-ae vR,tW ld];rfl
 subst eB;refine du (λw'=>True) km λhS=>?_;refine lG 0 1 2 3 hS ?_;refine oQ 4 5 6 7 hS ?_;refine oQ 8 9 10 11 hS ?_;refine sn 12 hS ?_;refine sn 13 hS ?_;refine sn 14 hS ?_;refine tn 15 hS ?_;refine cY ?_;go_wp2_with fail;go_meet;exact⟨rfl,rfl⟩})
 obtain⟨rfl,rfl⟩:=hcut;cases Bc with
 |true=>
  have hh:i1<b/\ltInt dk[i1]! dk[i1-1]! = false:=by have:=ae vR;simp only[fk,pO,Bool.not_eq_true']at this;exact this
  have hn:Hid (scanSorted ltInt dk b (i1+1)=I):=by show _=_;rw[<-bC4 hh.1 hh.2];exact ae hE1
  have hle:=hh.1;go_wp2;go_roundw;exact⟨i1+1,by go_num,af,af,Ck.drew,hn,az hG1⟩;exact cg
 |false=>
  have db:i1=I:=by rw[<-ae hE1,aG5];have:=ae vR;simp only[uM,xS,Bool.not_eq_false']at this;exact this
  subst db;by_cases hib:i1=b;{have hq:=ae hQ;rw[aH8 (ae EI') hib,gy]at hq;obtain⟨eq1,eq2⟩:=hq;subst eq1 eq2;subst hib;go_wp2;go_ret;exact⟨rfl,Ck,az hG1⟩};{
 have dS4:¬(i1:Int)=(b:Int):=af;by_cases h5:Lz<50;{have h5':(Lz:Int)<50:=af;have hq:=ae hQ;rw[pi_short (ae EI') hib (ae eL0▸h5),gy]at hq;obtain⟨eq1,eq2⟩:=hq;subst eq1 eq2;go_wp2;go_ret;exact⟨rfl,Ck,az hG1⟩};{
 have h5':¬(Lz:Int)<50:=af
 let⟨d2,e2⟩:=aL (swp dk i1 (i1-1))
 obtain⟨d3,e3⟩:∃x,(if i1-a>=2 then shiftDown ltInt (i1-1) d2 else d2)=x:=⟨_,rfl⟩;obtain⟨d4,e4⟩:∃x,(if b-i1>=2 then shiftUp ltInt b (i1+1) d3 else d3)=x:=⟨_,rfl⟩;have hq:=ae hQ;rw[pi_go (ae EI') hib (ae eL0▸h5) e2 e3 e4]at hq;have HQ:=ag hq;rw[ae em0]at e2 e3;have HD2:Hid (d2.size=N):=by show _=_;rw[<-e2,size_swp];exact Ao
 have Iy:Hid (d3.size=N):=by show _=_;rw[<-e3];split;{rw[Wv];exact ae HD2};{exact HD2}
 have HD4:Hid (d4.size=N):=by show _=_;rw[<-e4];split;{rw[aG1 b _ _ _ ay];exact ae Iy};{exact Iy}
 let⟨c1,f1⟩:=ae Ck i1 af
 let⟨c2,f2⟩:=ae Ck m af
 let⟨p1,Ig⟩:=aL dk[i1]!
 let⟨p2,Ie⟩:=aL dk[m]!
 rw[Ig]at c1;rw[Ie]at c2;have vm:=ag (Ck.swap (i:=i1) (j:=m) af af Ie.symm Ig.symm);rw[e2]at vm;have Tx:=ag (aX (aX hG1 (aH _ blk (off+i1) (.U p2))) (aH _ blk (off+m) (.U p1)));have l1:=aU i1 N;have l2:=aU m N;have l3:=dC 0 m;have E3:=ag e3;have E4:=ag e4;obtain⟨A1,eA⟩:∃x:Nat,(i1:Int)-(a:Int)=(x:Int):=⟨i1-a,af⟩;have eA0:=ag (show i1-a=A1 by omega);have wA:=e8 A1;obtain⟨B1,eB1⟩:∃x:Nat,(b:Int)-(i1:Int)=(x:Int):=⟨b-i1,af⟩;have eB0:=ag (show b-i1=B1 by omega);have wB:=e8 B1;go_wp2_with fail
 go_region
 go_upto_if 61 with fail
 go_cut[9](λs9 wc=>Hid (HU wc blk off d3)/\Hid (w.grownBy wc (some blk)))
 case first=>(
 by_cases hC:A1>=2;{
 have hC':(A1:Int)>=2:=af;have hC2:=dC 2 A1
 try simp only[hC2,decide_true]
 have E3':Hid (shiftDown ltInt m d2=d3):=by have:=ae E3;rw[ae eA0,bO hC]at this;exact this
 go_wp2_with fail
 let⟨Y2,eY2⟩:=aB wr
 subst eY2
 go_loopw[9](λs9 wr=>∃(j:Nat)(dj:Array Int),s9=.I j/\j<=m/\Hid (dj.size=N)/\Hid (HU wr blk off dj)/\Hid (shiftDown ltInt j dj=d3)/\Hid (w.grownBy wr (some blk))) (λs9 _=>(intOf s9).toNat)
 exact⟨m,d2,by first|rfl|go_num,af,HD2,by exact vm,E3',by exact az (az Tx)⟩;{
 obtain⟨j,dj,rfl,q1,hdj,IL,Xr,hg⟩:=hrel;by_cases hgo:0<j;{
 have ar6:=dC 1 j;obtain⟨jm,ejm⟩:∃x:Nat,(j:Int)-1=(x:Int):=⟨j-1,af⟩;have Vx:j-1=jm:=af;have wjm:=e8 jm;have Vg:=ae hdj
 let⟨cj,fj⟩:=ae IL j af
 let⟨cm,fm⟩:=ae IL jm af
 let⟨y,ey⟩:=aL dj[j]!
 let⟨z,ez⟩:=aL dj[jm]!
 have UY:=ag (IL.swap (i:=j) (j:=jm) af af ez.symm ey.symm);rw[ey]at cj;rw[ez]at cm;have i1':=aU j N;have i2':=aU jm N;have i3':=dC 0 jm;have i4':=dC 0 j
 let⟨B,eB⟩:=aL (ltInt y z)
 have EB:=ag eB;have vo:Hid (B=false->dj=d3):=λhB=>by rw[<-ae Xr,Wu (.inr (by rw[Vx,ey,ez,eB,hB]))]
 have HGO:Hid (B=true->shiftDown ltInt jm (swp dj j jm)=d3):=λhB=>by rw[<-ae Xr,bC8 hgo (by rw[Vx,ey,ez,eB,hB]),Vx]
 have tJ:Hid ((swp dj j jm).size=N):=by show _=_;rw[size_swp];exact Vg
 have HGs:=ag (aX (aX hg (aH _ blk (off+j) (.U z))) (aH _ blk (off+jm) (.U y)));have K0:=ag (ai cj cm);have FF:=ag (ai fj fm);go_wp2_with fail
 go_cut[78](λrv wc=>rv=.bool (!B)/\wc=wr.drew)
 case first=>(
 refine du (λw'=>w'.cell? (Ad blk (off+j))=some (.U y)/\w'.cell? (Ad blk (off+jm))=some (.U z)) (by exact K0) λhS=>?_;refine mj 0 1 2 3 4 5 6 7 hS ?_;refine tn 8 hS ?_;refine ry [9] ?_;refine cn (λKK hK=>?_) ?_;{refine dh aJ aJ aJ aJ (λ_=>fQ) (fO) ?_;rintro r w2⟨rfl,rfl⟩;refine⟨_,rfl,?_⟩;rw[ae EB];refine fh hK (by exact K0) λhS=>?_;refine tn 10 hS ?_;refine cY ?_;go_wp2_with fail;go_meet;exact⟨rfl,rfl⟩};exact eh)
 obtain⟨rfl,rfl⟩:=hcut;cases B with
 |false=>
  have e:=ae vo rfl;subst e;go_wp2_with fail;go_meet;exact⟨IL,az hg⟩
 |true=>
  have e:=ag (ae HGO rfl)
  let⟨cj,cm⟩:=ae K0
  let⟨fj,fm⟩:=ae FF
  go_wp2_with fail
  go_region
  go_wp2;go_roundw
  case rel=>(
 exact⟨jm,swp dj j jm,by first|rfl|go_num,af,tJ,(ae UY),e,az (az HGs)⟩)
  case measure=>simp[intOf];omega}
 {
 have ar6:¬(1:Int)<=(j:Int):=af;have e:dj=d3:=by rw[<-ae Xr,Wu (.inl af)]
 subst e;go_wp2_with fail;go_meet;exact⟨IL,hg⟩}}};{
 have hC':¬(A1:Int)>=2:=af;have hC2:¬(2:Int)<=(A1:Int):=af
 try simp only[hC2,WX]
 have e:d2=d3:=by have:=ae E3;rw[ae eA0,bH hC]at this;exact this
 subst e;go_wp2_with fail;go_meet;exact⟨by exact vm,by exact az (az Tx)⟩})
 obtain⟨Nj,hG3⟩:=hcut
 let⟨Y3,eY3⟩:=aB wc
 subst eY3
 go_upto_if 98 with fail
 by_cases hC:B1>=2;{
 have hC':(B1:Int)>=2:=af;have hC2:=dC 2 B1
 try simp only[hC2,decide_true]
 have E3':Hid (shiftUp ltInt b (i1+1) d3=d4):=by have:=ae E4;rw[ae eB0,bO hC]at this;exact this
 go_wp2_with fail
 let⟨Y2,eY2⟩:=aB wr
 subst eY2
 go_loopw[10](λUy wr=>∃(j:Nat)(dj:Array Int),Uy=.I j/\i1+1<=j/\j<=b/\Hid (dj.size=N)/\Hid (HU wr blk off dj)/\Hid (shiftUp ltInt b j dj=d4)/\Hid (w.grownBy wr (some blk))) (λUy _=>b-(intOf Uy).toNat)
 exact⟨i1+1,d3,by first|rfl|go_num,af,af,Iy,by exact Nj,E3',by exact hG3⟩;{
 obtain⟨j,dj,rfl,q1,q2,hdj,IL,Xr,hg⟩:=hrel;by_cases hgo:j<b;{
 have ar6:=aU j b;obtain⟨jm,ejm⟩:∃x:Nat,(j:Int)-1=(x:Int):=⟨j-1,af⟩;have Vx:j-1=jm:=af;have wjm:=e8 jm;have Vg:=ae hdj
 let⟨cj,fj⟩:=ae IL j af
 let⟨cm,fm⟩:=ae IL jm af
 let⟨y,ey⟩:=aL dj[j]!
 let⟨z,ez⟩:=aL dj[jm]!
 have UY:=ag (IL.swap (i:=j) (j:=jm) af af ez.symm ey.symm);rw[ey]at cj;rw[ez]at cm;have i1':=aU j N;have i2':=aU jm N;have i3':=dC 0 jm;have i4':=dC 0 j
 let⟨B,eB⟩:=aL (ltInt y z)
 have EB:=ag eB;have vo:Hid (B=false->dj=d4):=λhB=>by rw[<-ae Xr,Wn (.inr (by rw[Vx,ey,ez,eB,hB]))]
 have HGO:Hid (B=true->shiftUp ltInt b (j+1) (swp dj j jm)=d4):=λhB=>by rw[<-ae Xr,bC1 hgo (by rw[Vx,ey,ez,eB,hB]),Vx]
 have tJ:Hid ((swp dj j jm).size=N):=by show _=_;rw[size_swp];exact Vg
 have HGs:=ag (aX (aX hg (aH _ blk (off+j) (.U z))) (aH _ blk (off+jm) (.U y)));have K0:=ag (ai cj cm);have FF:=ag (ai fj fm);go_wp2_with fail
 go_cut[116](λrv wc=>rv=.bool (!B)/\wc=wr.drew)
 case first=>(
 refine du (λw'=>w'.cell? (Ad blk (off+j))=some (.U y)/\w'.cell? (Ad blk (off+jm))=some (.U z)) (by exact K0) λhS=>?_;refine mj 0 1 2 3 4 5 6 7 hS ?_;refine tn 8 hS ?_;refine ry [9] ?_;refine cn (λKK hK=>?_) ?_;{refine dh aJ aJ aJ aJ (λ_=>fQ) (fO) ?_;rintro r w2⟨rfl,rfl⟩;refine⟨_,rfl,?_⟩;rw[ae EB];refine fh hK (by exact K0) λhS=>?_;refine tn 10 hS ?_;refine cY ?_;go_wp2_with fail;go_meet;exact⟨rfl,rfl⟩};exact eh)
 obtain⟨rfl,rfl⟩:=hcut;cases B with
 |false=>
  have e:=ae vo rfl;subst e;go_wp2;go_roundw
  case rel=>(
 exact⟨i1,t,jz+1,_,rfl,by first|rfl|go_num,af,af,af,af,HD4,IL,HQ,az hg⟩)
  case measure=>simp[intOf];omega
 |true=>
  have e:=ag (ae HGO rfl)
  let⟨cj,cm⟩:=ae K0
  let⟨fj,fm⟩:=ae FF
  go_wp2_with fail
  go_region
  go_wp2;go_roundw
  case rel=>(
 exact⟨j+1,swp dj j jm,by first|rfl|go_num,af,af,tJ,(ae UY),e,az (az HGs)⟩)
  case measure=>simp[intOf];omega}
 {
 have ar6:=dB j b;have e:dj=d4:=by rw[<-ae Xr,Wn (.inl hgo)]
 subst e;go_wp2;go_roundw
 case rel=>(
 exact⟨i1,t,jz+1,_,rfl,by first|rfl|go_num,af,af,af,af,HD4,IL,HQ,hg⟩)
 case measure=>simp[intOf];omega}}}
 {
 have hC':¬(B1:Int)>=2:=af;have hC2:¬(2:Int)<=(B1:Int):=af
 try simp only[hC2,WX]
 have e:d3=d4:=by have:=ae E4;rw[ae eB0,bH hC]at this;exact this
 subst e;go_wp2;go_roundw
 case rel=>(
 exact⟨i1,t,jz+1,_,rfl,by first|rfl|go_num,af,af,af,af,HD4,by exact Nj,HQ,by exact hG3⟩)
 case measure=>simp[intOf];omega}}}}}
end Q
namespace Q
open Go.RowKit Go.Maps Go.Proofs.Tryz
def jI:Keyed prog 27:=int_keyed underlying27
abbrev jT(x:Int):Value:=.U x
def vr{H:Type}(D0:DataW H)(left:Lit->Bool)(ss:LI):Prop:=ss.Nodup/\∀x,x∈ss↔(has D0 (.U x)=true/\left (.U x)=false)
def vr.start{H:Type}(D0:DataW H):vr D0 (has D0) []:=⟨WT,λx=>by cases has D0 (.U x)<;>simp⟩
def vr.step{H:Type}{D0:DataW H}{left:Lit->Bool}{ss:LI}(h:vr D0 left ss){x:Int}{y:DataW H}(hlk:left (.U x)=true)(iM:∀zd,D0.atKey (.U x) zd=y):vr D0 (λz=>left z&&!z.sameKey (.U x)) (ss++[x]):=by
 have Ve:has D0 (.U x)=true:=has_true_of_atKey iM;have yj:x∉ss:=λhx=>by have:=((h.2 x).1 hx).2;rw[hlk]at this;cases this
 refine⟨BN.2 ⟨h.1,al,λa ha b hb=>by simp at hb;subst hb;exactλe=>yj (e▸ha)⟩,λy=>?_⟩;by_cases hy:y=x;{subst hy;simp[Ve,Lit.sameKey]};{simp[h.2 y,hy,Lit.sameKey]}
def jQ{H:Type}(D0:DataW H)(ss:LI):Prop:=ss.Nodup/\(∀x,x∈ss↔has D0 (.U x)=true)/\ss.length<=Maps.size D0
def vr.all{H:Type}{D0:DataW H}{left:Lit->Bool}{ss:LI}(h:vr D0 left ss)(hl:∀kl,left kl=false)(hs:ss.length<=Maps.size D0):jQ D0 ss:=⟨h.1,(λx=>by rw[h.2 x,hl];simp),hs⟩
abbrev kT:TypeId:=27
def bg1{key:Value}{kl:Lit}(h:keyOf prog 27 key=some kl):=Maps.keyOf_int_inv underlying27 h
theorem scA{p:Prop}(h:p:=by
  first|refine mJ func216 rfl km ?_ rfl|refine mJ func248 rfl km ?_ rfl|refine mJ func219 rfl km ?_ rfl
  simp only[ntmps216,ntmps248,ntmps219,Er,Nat.reduceAdd,Nat.reduceSub]
  gi_wp2_with(first
   |(gi_at_range;refine wpListIn_range_own _ rfl _ _ rfl _ _ jI (by first|exact underlying154|exact underlying140|exact underlying155) _ b nn _ rfl bR ?_;intro w0 vY Rt U0)
   |gi_in)
  go_frame
  gi_loopw [3] (λ_ wr=>∃(left:Lit->Bool)(kx:Nat)(ss:List _),wr.ranges prog kT R b W.heap.size nn D0 left kx/\ss.length+kx<=Maps.size D0/\vr D0 left ss/\J ss wr) (λ_ wr=>wr.rangeLeft b W.heap.size)
  {exact⟨_,_,[],vY,al,vr.start D0,hJ [] W w0 none h0 Rt (λr e=>by cases e)⟩};{
 obtain⟨left,kx,ss,mZ,hcs,hC,hJs⟩:=hrel
 gi_wp2_with(first
  |(gi_at_next;refine wpListIn_next_ranges _ rfl _ rfl _ jI R jT id (λkey kl hk=>by obtain⟨x,hx,_⟩:=bg1 hk;exact⟨x,hx⟩) (λv _ _=>⟨v,rfl⟩) b W.heap.size nn _ _ _ rfl mZ ?_ ?_)
  |gi_in)
 {
 intro tv Fa
 gi_wp2
 go_end0
 exact⟨⟨_,rfl⟩,.inl ⟨ss,hC.all Fa af,hJs⟩⟩};{
 intro x c kl yd yp w2 cO5 cW hlk hv iM U6 bf gI Om Jt;obtain⟨x',ex,rfl,_⟩:=bg1 cW;obtain rfl:x=x':=by simpa[jT]using ex
 have hJ2:J ss w2:=hJ ss wr w2 (some W.heap.size) hJs gI (λr e=>by cases e;exact⟨iD _,mZ.iter_walk⟩)
 let⟨fn,tmps,assign,body,hy,hR⟩:=hY ss x w2 hJ2 af
 clear Om
 gi_wp2
 refine hR.mono ?_;rintro e W3(⟨rfl,hJ3,tZ⟩|⟨rfl,Ni⟩);{
 gi_wp2
 have Ek:=U6.of_walks tZ;go_roundw;{exact⟨_,cO5,ss++[x],Ek,bq,hC.step hlk iM,hJ3⟩};{rw[Ek.left_eq,mZ.left_eq];exact bf}};{
 gi_wp2
 refine dJ (uO rfl _ _ _) rfl ?_;exact⟨⟨_,rfl⟩,.inr ⟨_,Ni⟩⟩}}}):p:=h
def scB{p:Prop}(h:p:=by
  first|refine mJ func176 rfl km ?_ rfl|refine mJ func220 rfl km ?_ rfl|refine mJ func178 rfl km ?_ rfl
  simp only[ntmps176,ntmps220,ntmps178,Er,Nat.reduceAdd,Nat.reduceSub]
  gi_wp2
  go_ret;exact⟨rfl,rfl⟩):p:=h
theorem scC{p:Prop}(h:p:=by
  intro l J Jx W hW hJ _ hY h0;have KQ:W.ownsMap prog kT R b nn D0:=by have Ru:=bR.lt;obtain⟨es,clock,hb,Ft,hs,hD⟩:=bR;exact⟨es,clock,(hW.block b Ru).trans hb,Ft,hs,hD⟩
  have hm':=(hW.cell (p:=(Ad Bm 0)) hBm).trans hm
  first
   |refine(Xc n hn l Bm b nn D0 J Jx hY W hJ hm' KQ h0).mono ?_
   |refine(aK4 hn J Jx hY hJ hm' KQ h0).mono ?_
  rintro e W'⟨he,⟨ss,hs,hj⟩|⟨pre,hj⟩⟩;{exact⟨he,.inl ⟨ss,hs,hj⟩⟩};{exact⟨he,.inr ⟨pre,km,hj⟩⟩}):p:=h
def Xc{H:Type}(n:Nat)(hn:1<=n)(l Bm b nn:Nat)(D0:DataW H){R:Value->Option (DataW H×List MemPlace)}(J Jx:LI->World->Prop)(hY:∀pre x W,J pre W->pre.length<Maps.size D0->YieldAt Fence.wide (n-1) prog l #[jT x] W λe W'=>(e=.returned (.bool true)/\J (pre++[x]) W'/\KeepsWalks W W')\/(e=.returned (.bool false)/\Jx (pre++[x]) W'))(W:World)(hJ:AbidesFrom W.heap.size J)(hm:W.cell? (Ad Bm 0)=some (.map (some b)))(bR:W.ownsMap prog 27 R b nn D0)(h0:J [] W):CallsIn Fence.wide n prog 216 #[.func (.yield l) #[] #[],.pointer (some (Ad Bm 0))] W λe W'=>(∃v,e=.returned v)/\((∃ss:LI,jQ D0 ss/\J ss W')\/(∃pre,Jx pre W')):=scA
def an6(n:Nat)(mb:Option Nat)(w:World):CallsIn Fence.wide n prog 176 #[.map mb] w λe w'=>e=.returned (.func (.func 216) #[] #[.pointer (some (Ad w.heap.size 0))])/\w'=w.alloc (.cells #[.map mb] 154):=scB
def Wo{H:Type}(n:Nat)(hn:1<=n)(Bm b nn:Nat)(D0:DataW H){R:Value->Option (DataW H×List MemPlace)}(w:World)(hBm:Bm<w.heap.size)(hm:w.cell? (Ad Bm 0)=some (.map (some b)))(bR:w.ownsMap prog 27 R b nn D0):SeqStopsK Fence.wide n prog 216 #[.pointer (some (Ad Bm 0))] (λx:Int=>#[jT x]) KeepsWalks (jQ D0) (λ_=>True) (Maps.size D0) w:=scC
def aK4{H:Type}{n:Nat}(hn:1<=n){l Bm b nn:Nat}{D0:DataW H}{R:Value->Option (DataW H×List MemPlace)}(J Jx:LI->World->Prop)(hY:∀pre x W,J pre W->pre.length<Maps.size D0->YieldAt Fence.wide (n-1) prog l #[jT x] W λe W'=>(e=.returned (.bool true)/\J (pre++[x]) W'/\KeepsWalks W W')\/(e=.returned (.bool false)/\Jx (pre++[x]) W')){W:World}(hJ:AbidesFrom W.heap.size J)(hm:W.cell? (Ad Bm 0)=some (.map (some b)))(bR:W.ownsMap prog 27 R b nn D0)(h0:J [] W):CallsIn Fence.wide n prog 248 #[.func (.yield l) #[] #[],.pointer (some (Ad Bm 0))] W λe W'=>(∃v,e=.returned v)/\((∃ss:LI,jQ D0 ss/\J ss W')\/(∃pre,Jx pre W')):=scA
def bg0{n:Nat}{mb:Option Nat}{w:World}:CallsIn Fence.wide n prog 220 #[.map mb] w λe w'=>e=.returned (.func (.func 248) #[] #[.pointer (some (Ad w.heap.size 0))])/\w'=w.alloc (.cells #[.map mb] 140):=scB
def aG2{H:Type}{n:Nat}(hn:1<=n){Bm b nn:Nat}{D0:DataW H}{R:Value->Option (DataW H×List MemPlace)}{w:World}(hBm:Bm<w.heap.size)(hm:w.cell? (Ad Bm 0)=some (.map (some b)))(bR:w.ownsMap prog 27 R b nn D0):SeqStopsK Fence.wide n prog 248 #[.pointer (some (Ad Bm 0))] (λx:Int=>#[jT x]) KeepsWalks (jQ D0) (λ_=>True) (Maps.size D0) w:=scC
end Q
namespace Q
open Go.RowKit Go.Maps Go.Proofs.Tryz
def Hid.UQ{p:Prop}(h:p):Hid p:=h
def OQ{p:Prop}(h:Hid p):p:=h
def Ar(W:World)(l:Nat)(o:Obj):W.grownBy (W.putObj l o) (some l):=⟨rfl,rfl,rfl,by simp,λk _ hk=>World.putObj_heap_other (λe=>hk (by rw[e]))⟩
def RG(W:World)(b:Nat)(v:Value):W.grownBy (W.setCell (Ad b 0) v) (some b):=⟨rfl,rfl,rfl,by simp,λk _ hk=>Dc _ _ _ k (λe=>hk (by rw[e]))⟩
def J4{W:World}{base:Nat}{e:TypeId}{size:Nat}{v:Value}{k:Nat}{xs:List Value}(h:W.ownsRow base e size v k xs){j:Nat}{o:Obj}(hj:W.heap[j]?=some o)(ho:o.isCells=false):v.ownBlock=none\/v.ownBlock≠some j:=by
  rcases h.2 with⟨rfl,_⟩|⟨g,cap,cur,rfl,_,hgb,_⟩;{exact .inl rfl};{
 refine .inr λe'=>?_;have:g=j:=by simpa[Value.ownBlock]using e'
 subst this;rw[hgb]at hj;cases hj;cases ho}
theorem Wy{W W':World}{row:Option Nat}{base:Nat}{e:TypeId}{size:Nat}{v:Value}{k:Nat}{xs:List Value}(h:W.ownsRow base e size v k xs)(hg:W.grownBy W' row)(hr:∀r,row=some r->∃o:Obj,W.heap[r]?=some o/\o.isCells=false):W'.ownsRow base e size v k xs:=by
  refine h.kept hg ?_;cases hv:v.ownBlock with
  |none=>exact .inl rfl
  | some j=>
    refine .inr λe'=>?_
    let⟨o,ho,hc⟩:=hr j e'.symm
    rcases J4 h ho hc with e1|e1;{rw[hv]at e1;cases e1};{exact e1 hv}
def UF{W W':World}{base:Nat}{e:TypeId}{size:Nat}{v:Value}{k:Nat}{xs:List Value}(h:W.ownsRow base e size v k xs)(hg:W.grownBy W' v.ownBlock):KeepsOthers W W':=
  ⟨hg.size,λj o hj ho=>(hg.block j (Jg.1 hj).1 (λe1=>by rcases J4 h hj ho with e2|e2;{rw[e2]at e1;cases e1};{exact e2 e1.symm})).trans hj⟩
def aI1(W:World)(o:Obj):KeepsOthers W (W.alloc o):=⟨by simp,λk o' h _=>(Yv _ _ k (Jg.1 h).1).trans h⟩
def aF3{W W':World}(h:KeepsOthers W W'):KeepsWalks W W':=⟨h.size,λk o hk hw=>h.same k o hk (Obj.not_cells_of_walk hw)⟩
structure Got{α:Type}(ty:TypeId)(enc:α->Value)(Bs:Nat)(pre:List α)(v:Value)(W:World):Prop where
  cell:W.cell? (Ad Bs 0)=some v
  fr:W.frozen? (Ad Bs 0)=false
  row:W.ownsRow (Bs+1) ty 1 v pre.length (pre.map enc)
  nil:v=aq↔pre=[]
abbrev kS:TypeId:=108
def aW2:=fD (P:=prog) (e:=27) (z:=.U 0) (size:=1) (bytes:=8) (by kernel_rfl)
theorem scD{p:Prop}(h:p:=by
    have h1:1<=n:=af;obtain⟨i0,hi,qx,jd,jJ⟩:=aW2
    first|refine callsIn_of_wp_marks func243 rfl km ?_ rfl|refine callsIn_of_wp_marks func246 rfl km ?_ rfl
    simp only[ntmps243,ntmps246,Er,Nat.reduceAdd,Nat.reduceSub]
    gi_wp2
    let⟨W0,fL⟩:=aB (w.alloc (.cells #[aq] kS))
    have z0:W0.heap.size=w.heap.size+1:=by rw[fL];simp
    have k0:W0.cell? (Ad w.heap.size 0)=some aq:=by rw[fL];simp
    have f0:W0.frozen? (Ad w.heap.size 0)=false:=by rw[fL];simp
    have hB0:=dX fL;rw[<-fL];clear fL;refine wpIn_rangeFunc_ownF (F:=Fence.wide) rfl h1 (gf:=g) (lb:=lb) rfl km eg Rk (λh k=>h.trans k) (λW l o o' _ hl _ hw=>KeepsWalks.putObj _ hl hw) hB0 (λ_=>rfl)
      (λpre W=>(∃v,Got kT jT w.heap.size pre v W)/\Bw w W)
      (λ_ _ _=>False)
      (OwnFrom.and (Own.from (λs A B row hs hg hr=>by obtain⟨v,hv⟩:=hs;exact⟨v,cell_kept hv.cell hg hr,(frozen_kept hv.cell hg hr).trans hv.fr,Wy hv.row hg hr,hv.nil⟩) _) (ownFrom_below ay af))
      (λ_ _ _ _ _ hs _ _=>hs)
      ⟨⟨_,k0,f0,⟨rfl,.inl ⟨rfl,rfl⟩⟩,al⟩,hB0⟩
      (λx=>{tmps:=#[aq,.func (.func g) #[] lb,.pointer (some (Ad w.heap.size 0)),undef,aq,jT x,.func (.func g) #[] lb,jT x,undef,undef,undef,undef,undef],defers:=[]}) ?assign ?body ?done ?stop
    case assign=>(
 intro l x W K hK
 gi_wp2_with(rw[aj2 _ _ _ (λc h=>by cases h)];go_simp;try go_bits)
 exact hK)
    case body=>(
 rintro L pre x W⟨⟨v,hv⟩,rI⟩rz;have hc:=hv.cell;have hf:=hv.fr;have fo:=hv.row;have bf:w.heap.size<W.heap.size:=nZ W _ hc;have aW6:=fo.alloc (.cells #[jT x] kT)
 gi_wp2_with(first
   | (gi_at_builtin;refine wpListIn_append_own _ rfl _ _ _ rfl (w.heap.size+1) _ i0 _ 1 _ (by first|exact underlying108|exact underlying165) hi qx jd jJ rfl bj _ _ _ rfl aW6 ⟨W.heap.size,0,none⟩ 1 1 [jT x] rfl rfl (cell_one_new _ _ _) (by simp[Value.oneCell',jT]) iB af bq ?_;intro v' w3 KQ An bI5
      have aM5:(W.alloc (.cells #[jT x] kT)).grownBy w3 v.ownBlock:=An;have cy0:some w.heap.size≠v.ownBlock:=λe=>aI (fo.lt _ e.symm).1;have hcA:(W.alloc (.cells #[jT x] kT)).cell? (Ad w.heap.size 0)=some v:=(xi (a:=(Ad w.heap.size 0)) (Yv _ _ _ bf)).trans hc;have hfA:(W.alloc (.cells #[jT x] kT)).frozen? (Ad w.heap.size 0)=false:=(tM (a:=(Ad w.heap.size 0)) (Yv _ _ _ bf)).trans hf;have br:w3.heap[w.heap.size]?=(W.alloc (.cells #[jT x] kT)).heap[w.heap.size]?:=aM5.block _ bq cy0;have Jw:w3.cell? (Ad w.heap.size 0)=some v:=(xi (a:=(Ad w.heap.size 0)) br).trans hcA;have Ht:w3.frozen? (Ad w.heap.size 0)=false:=(tM (a:=(Ad w.heap.size 0)) br).trans hfA;obtain⟨g',NQ,rfl⟩:∃g' NQ,v'=.T g' (pre.length+1) NQ:=by rcases KQ.2 with⟨_,h0⟩|⟨g',NQ,_,h',_⟩;{exact absurd h0 af};{exact⟨g',NQ,h'⟩}
      have HO3:=Hid.UQ ((KeepsOthers.alloc W (.cells #[jT x] kT)).trans (UF aW6 aM5));have AM:=Hid.UQ (((rI.alloc rI.size (.cells #[jT x] kT)).grown aM5 (by have:=rI.size;simp;omega) (λk e=>aI (fo.lt k e).1)));have JK:=Hid.UQ KQ;clear KQ bI5 An aM5 hcA hfA br
      go_frame)
   |(rw[aj2 _ _ _ (λc h=>by cases h)];go_simp;try go_bits))
 refine⟨(OQ HO3).trans (KeepsOthers.setCell _ _ _),((OQ HO3).trans (KeepsOthers.setCell _ _ _)).walks,⟨_,GX _ _ _ Jw,by rw[Ee];exact Ht,?_,al⟩,(OQ AM).setCell (p:=(Ad w.heap.size 0)) ay _⟩;have hr:=(OQ JK).kept (RG w3 w.heap.size (.T g' (pre.length+1) NQ)) (.inr (λe=>aI ((OQ JK).lt _ e).1));simpa using hr)
    case done=>(
 rintro D ys W hD hS⟨⟨v,hv⟩,rI⟩hK;have hc:=hv.cell
 gi_wp2
 refine⟨al,.inl ⟨_,_,rfl,run_takeDeferred hK,?_⟩⟩;exact⟨_,results_tmp rfl _ _ _,v,ys,rfl,hS,Wy hv.row (Ar _ _ _) (λr e=>by cases e;exact⟨_,hK,rfl⟩),hv.nil,rI.grown (Ar _ _ _) rI.size (λk e=>by cases e;omega)⟩)
    case stop=>(
 rintro D c pre W _ _ h _;exact h.elim)):p:=h
def AG(n:Nat)(hn:2<=n)(g:Nat)(lb:Array Value)(eg:∀args w,(callFunc g args).run prog w=.ok (.enter g args) w)(S Sp:LI->Prop)(N:Nat)(hN:N<=1048576)(w:World)(Rk:SeqStopsK Fence.wide (n-1) prog g lb (λx:Int=>#[jT x]) KeepsWalks S Sp N w):CallsIn Fence.wide n prog 243 #[aq,.func (.func g) #[] lb] w λe w'=>∃(v:Value)(ss:LI),e=.returned v/\S ss/\w'.ownsRow (w.heap.size+1) 27 1 v ss.length (ss.map jT)/\(v=aq↔ss=[])/\Bw w w':=scD
end Q
namespace T
open Go.Sort Go.RowKit Go.Proofs.Tryz
abbrev HT(w:World)(blk off:Nat)(d:Array (List UInt8)):Prop:=Holds (λx:List UInt8=>Value.string ⟨x.toArray⟩) w blk off d
def Pu(cap:Nat)(w:World):Cp 218 #[.S none 0 cap] w λe w'=>e=.returned (.tuple #[])/\w'=w:=Tryz.slices_Sort_string_none none cap w
def JV(blk off cap:Nat)(l:List (List UInt8))(jl:Mg l.length)(w:World)(h:HT w blk off l.toArray)(jr:blk<w.heap.size):Cp 218 #[.S (some (Ad blk off)) l.length cap] w λe w'=>
   e=.returned (.tuple #[])/\HT w' blk off (l.mergeSort (λx y=>decide (x<=y))).toArray/\w.grownBy w' (some blk):=by
 refine(Tryz.slices_Sort_string blk off cap l w h jr af).mono ?_;rintro e w'⟨rfl,n,os,rfl⟩;have hz:(putRow encStr (Sort.ahead w n) blk off (l.mergeSort λx y=>decide (x<=y)).toArray).heap.size=w.heap.size:=by simp[putRow,mapBlock,Sort.ahead]
 have hb:∀i,i<w.heap.size->(grow (putRow encStr (Sort.ahead w n) blk off (l.mergeSort λx y=>decide (x<=y)).toArray) os).heap[i]?=(putRow encStr (Sort.ahead w n) blk off (l.mergeSort λx y=>decide (x<=y)).toArray).heap[i]?:=λi hi=>Array.getElem?_append_left (hz▸hi);have hH:=holds_putRow encStr (Sort.ahead w n) blk off l.toArray (l.mergeSort λx y=>decide (x<=y)).toArray h al;refine⟨rfl,λj hj=>⟨(xi (a:=(Ad blk (off+j))) (hb blk jr)).trans (hH j hj).1,(tM (a:=(Ad blk (off+j))) (hb blk jr)).trans (hH j hj).2⟩,rfl,rfl,rfl,by simp[grow,hz],λi hi bS=>(hb i hi).trans ?_⟩;have:blk≠i:=λe=>bS (by rw[e]);simp[putRow,mapBlock,Sort.ahead,BS,this]
theorem oI:∀x y:List UInt8,Op.bytesLess x y=decide (x<y)
 |[],[]=>by simp[Op.bytesLess]
 |[],b::y=>by simp[Op.bytesLess]
 |a::x,[]=>by simp[Op.bytesLess]
 |a::x,b::y=>by have ih:=oI x y;simp only[Op.bytesLess,ih,List.cons_lt_cons_iff];by_cases h1:a<b;{simp[h1]};{by_cases h2:a=b;{subst h2;simp};{simp[h1,h2]}}
end T
namespace T
open Go.RowKit Go.Maps Go.Proofs.Tryz
def jI:Keyed prog 9:=string_keyed underlying9
abbrev jT(x:List UInt8):Value:=.string ⟨x.toArray⟩
def vr{H:Type}(D0:DataW H)(left:Lit->Bool)(ss:List (List UInt8)):Prop:=ss.Nodup/\∀x,x∈ss↔(has D0 (.string x)=true/\left (.string x)=false)
def vr.start{H:Type}(D0:DataW H):vr D0 (has D0) []:=⟨WT,λx=>by cases has D0 (.string x)<;>simp⟩
def vr.step{H:Type}{D0:DataW H}{left:Lit->Bool}{ss:List (List UInt8)}(h:vr D0 left ss){x:List UInt8}{y:DataW H}(hlk:left (.string x)=true)(iM:∀zd,D0.atKey (.string x) zd=y):vr D0 (λz=>left z&&!z.sameKey (.string x)) (ss++[x]):=by
 have Ve:has D0 (.string x)=true:=has_true_of_atKey iM;have yj:x∉ss:=λhx=>by have:=((h.2 x).1 hx).2;rw[hlk]at this;cases this
 refine⟨BN.2 ⟨h.1,al,λa ha b hb=>by simp at hb;subst hb;exactλe=>yj (e▸ha)⟩,λy=>?_⟩;by_cases hy:y=x;{subst hy;simp[Ve,Lit.sameKey]};{simp[h.2 y,hy,Lit.sameKey]}
def jQ{H:Type}(D0:DataW H)(ss:List (List UInt8)):Prop:=ss.Nodup/\(∀x,x∈ss↔has D0 (.string x)=true)/\ss.length<=Maps.size D0
def vr.all{H:Type}{D0:DataW H}{left:Lit->Bool}{ss:List (List UInt8)}(h:vr D0 left ss)(hl:∀kl,left kl=false)(hs:ss.length<=Maps.size D0):jQ D0 ss:=⟨h.1,(λx=>by rw[h.2 x,hl];simp),hs⟩
abbrev kT:TypeId:=9
def bg1{key:Value}{kl:Lit}(h:keyOf prog 9 key=some kl):=Maps.keyOf_str underlying9 h
def Xc{H:Type}(n:Nat)(hn:1<=n)(l Bm b nn:Nat)(D0:DataW H){R:Value->Option (DataW H×List MemPlace)}(J Jx:List (List UInt8)->World->Prop)(hY:∀pre x W,J pre W->pre.length<Maps.size D0->YieldAt Fence.wide (n-1) prog l #[jT x] W λe W'=>(e=.returned (.bool true)/\J (pre++[x]) W'/\KeepsWalks W W')\/(e=.returned (.bool false)/\Jx (pre++[x]) W'))(W:World)(hJ:AbidesFrom W.heap.size J)(hm:W.cell? (Ad Bm 0)=some (.map (some b)))(bR:W.ownsMap prog 9 R b nn D0)(h0:J [] W):CallsIn Fence.wide n prog 219 #[.func (.yield l) #[] #[],.pointer (some (Ad Bm 0))] W λe W'=>(∃v,e=.returned v)/\((∃ss:List (List UInt8),jQ D0 ss/\J ss W')\/(∃pre,Jx pre W')):=Q.scA
def an6(n:Nat)(mb:Option Nat)(w:World):CallsIn Fence.wide n prog 178 #[.map mb] w λe w'=>e=.returned (.func (.func 219) #[] #[.pointer (some (Ad w.heap.size 0))])/\w'=w.alloc (.cells #[.map mb] 155):=Q.scB
def Wo{H:Type}(n:Nat)(hn:1<=n)(Bm b nn:Nat)(D0:DataW H){R:Value->Option (DataW H×List MemPlace)}(w:World)(hBm:Bm<w.heap.size)(hm:w.cell? (Ad Bm 0)=some (.map (some b)))(bR:w.ownsMap prog 9 R b nn D0):SeqStopsK Fence.wide n prog 219 #[.pointer (some (Ad Bm 0))] (λx:List UInt8=>#[jT x]) KeepsWalks (jQ D0) (λ_=>True) (Maps.size D0) w:=Q.scC
end T
namespace T
open Go.RowKit Go.Maps Go.Proofs.YtnhnbpkfpaondaaGreatDoor.Q Go.Proofs.Tryz
abbrev kS:TypeId:=165
def aW2:=fD (P:=prog) (e:=9) (z:=.string ⟨#[]⟩) (size:=1) (bytes:=16) (by kernel_rfl)
def AG(n:Nat)(hn:2<=n)(g:Nat)(lb:Array Value)(eg:∀args w,(callFunc g args).run prog w=.ok (.enter g args) w)(S Sp:List (List UInt8)->Prop)(N:Nat)(hN:N<=1048576)(w:World)(Rk:SeqStopsK Fence.wide (n-1) prog g lb (λx:List UInt8=>#[jT x]) KeepsWalks S Sp N w):CallsIn Fence.wide n prog 246 #[aq,.func (.func g) #[] lb] w λe w'=>∃(v:Value)(ss:List (List UInt8)),e=.returned v/\S ss/\w'.ownsRow (w.heap.size+1) 9 1 v ss.length (ss.map jT)/\(v=aq↔ss=[])/\Bw w w':=Q.scD
end T
end Go.Proofs.YtnhnbpkfpaondaaGreatDoor
