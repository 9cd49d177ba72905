import Derived.Test.YtpkakgkipopiaaaGreatDoorK2
import Derived.Test.YtpkakgkipopiaaaGreatDoorQTs
import Derived.Lib.BitFns
import Derived.Lib.Walk
import Derived.Lib.Small
import Derived.Lib.Strings
import Derived.Lib.Slices
import Derived.Laws.Bits64
import Derived.Laws.Bits64b
import Derived.RangeFuncGives
import Derived.RangeFuncSeq
import Derived.Sort.MapsRangeIn
import Derived.OwnWalkIn
import Derived.TacticsInMore
import Derived.RegionIn
import Derived.LoopNIn
import Derived.LoopIn
import Derived.Maps.AppendAt
import Derived.RangeFuncKeeps
import Derived.RangeFuncFrom
import Derived.RangeFuncNested
import Derived.RangeFuncBound
import Derived.RangeFuncCalls
import Derived.RangeFuncLeaves
import Derived.Lib.ConvBytes
import Derived.Sort.KeysCollected
open Array renaming setIfInBounds->jI,size->U
open Bool renaming false->dF,true->dY
open Decidable renaming decide->dD
open Go renaming Calls->dQ,Value->dV,World->G
open Go.Ending renaming returned->dR
open Go.IntKind renaming u64->jU,i64->jV,wrap->jY
open Go.Obj renaming cells->dO
open Go.Proofs.Tryz renaming prog->dG
open Go.Region renaming wanted->jW
open Go.RowKit renaming Hid->O
open Go.Value renaming ownBlock->jB,string->jJ,int->jK,bool->jO,agg->jP,I->dI,pointer->dP,S->dS,tuple->dT,U->dU
open Go.World renaming alloc->jA,frozen?->jF,grownBy->jG,heap->Q,ownsMap->jM,setCell->jS,cell?->I
open Int renaming toNat->jN
open List renaming getD->jE,range->jR,take->jT,zipWith->jZ,length->J
open Option renaming none->dN,some->Y
namespace Go.Proofs.YtpkakgkipopiaaaGreatDoor
set_option maxHeartbeats 12800000
set_option linter.all false
set_option maxRecDepth 100000
open Go.ChangeShapes Go.WideShapes Go.ChangeAt Go.RowKit Go.Proofs.Tryz
variable {X w w' w0:G}{v0 v V S:dV}{l0 ss xs l:LI}{N B M n c j b bs bn d m i kK:Nat}{D:DataW Unit}{A A2:List Lf}{p q:OA}{a:Act}{o:Oper}{x:Operand}{ops:iQ}{K:Act->G->Prop}{E:Prop}{nd:au}{ns:List au}{g e t:Int}{s:ByteArray}{lt:Nat->Nat->Bool}{k:TypeId}{left:Lit->Bool}{P:Program}{f:aC->aC}
theorem dG6(B:Le l0 N)(u:Rd X v0 l0)(hl:N<=2^22):Cp 81 #[.T (U (Q X)) 1 1] (jA X (dO #[v0] 22)) λe w'=>∃i r,e=dR (.S i N r)/\Own (U (Q X)) w' (.S i N r) l0/\Bw X w':=by
 have s:Bw X (jA X (dO #[v0] 22)):=aH.alloc az _;refine(Ep (vs:=[v0]) [l0] 1 rfl (by show _=_;simp[cat]) B ⟨rfl,λj v x q m=>?_⟩ hl ae).h ?_;{
 match j,q,m with
 |0,q,m=>simp at q m;subst q m;exact⟨ai,u.H s⟩}
 {rintro e w'⟨i,r,rfl,o,y⟩;exact⟨i,r,rfl,Own.h o ai,ah s y⟩}
theorem eu5(iI D:Int)(p:OA)(c n:Nat)(iZ:List Ev)(en:Le iZ n)(w:G)(h:ur w (.S p n c) iZ)(hn:Mg n)(hbq:O (∀e∈iZ,J e.2<=2^20)):dQ dG 85 #[jP #[.U iI,.I D,.S p n c]] w λr w'=>∃p' c' A,r=dR (jP #[.U iI,.I D,.S p' n c'])/\ur w' (.S p' n c') iZ/\LvE w' (.S p' n c') iZ A/\je (U (Q w)) w' A/\Bw w w':=by
 let⟨ie,UX,ki,fy,gJ⟩:=og Tryz.infoEv;have HR:=af λ(w':G)(M:Bw w w')=>h.H M;let⟨W,hW⟩:=aF (jA w (dO #[.U iI,.I D,.S p n c] 65));have bW:=ij hW;have zW:U (Q W)=U (Q w)+1:=by rw[hW];simp
 have k0:I W (Aw w 0)=dU iI:=by rw[hW];simp
 have k1:I W (Aw w 1)=dI D:=by rw[hW];simp
 have k2:I W (Aw w 2)=dS p n c:=by rw[hW];simp
 go_in
 go_wp21
 let⟨W2,fM⟩:=aF (jA W (dO #[.U 0,.I 0,aq] 65));have N8:=ij fM;have zW2:U (Q W2)=U (Q w)+2:=by rw[fM];simp;omega
 have uL:aO W2 (U (Q w)+1) [.U 0,.I 0,aq]:=by rw[fM,show U (Q w)+1=U W.heap by omega];exact aO.alloc W #[.U 0,.I 0,aq] _
 rw[<-hW,<-fM];have b2:=ah bW N8;have HK:=dy (aj k0 N8) (aj k1 N8) (aj k2 N8);have uQ:=af uL
 go_loopw[3,9](λov iv wr=>∃(k:Nat)(Ls:List (List Lf)),k<=n/\iv=.I k/\O (OwnT Lq 114 2 (U (Q W2)) wr ov (jT k iZ) Ls)/\Bw W2 wr) (λ_ iv _=>n-(jN (intOf iv)))
 exact⟨0,[],cT _,rfl,OwnT.nil _ _ _ _ _,aR _ _⟩;{
 obtain⟨k,Ls,hk,rfl,ho,aB⟩:=hrel;have BB:=ah b2 aB;by_cases aL:k<n;{
 have cM:=bR k n;have db:k<J iZ:=aa en▸aL;let⟨⟨K,P⟩,hy⟩:=sj db;obtain⟨b,o,rfl,YO,u,QL,Dr,vg⟩:∃b o,p=(Ad b o)/\I wr (Ad b (o+k*2))=dI K/\∃u,I wr (Ad b (o+k*2+1))=Y u/\Rd wr u P/\vr u:=by let⟨p',c',ev,hd⟩:=aa HR _ BB;obtain⟨rfl,-,-⟩:=mg ev;obtain h0|⟨b,o,h1,h2⟩:=hd;{rw[h0]at db;simp at db};{exact⟨b,o,h1,h2 k _ hy⟩}
 obtain⟨pp,pc,m,rfl,em⟩:=Dr.fO;have hm:m<=2^20:=aa em▸aa hbq _ (bq hy);have SL:=af Dr;have HY:=af hy
 go_wp21
 let⟨X,hX⟩:=aF (jA wr (dO #[.I K,.S pp m pc] 114));have tZ:=ij hX;have e0:I X (Aw wr 0)=dI K:=by rw[hX];simp
 have e1:I X (Aw wr 1)=dS pp m pc:=by rw[hX];simp
 let⟨V,hV⟩:=aF X.drew;have AR:Bw wr V:=hV▸tZ.drew;rw[<-hX];refine fK (λw'=>I w' (Aw wr 0)=dI K/\I w' (Aw wr 1)=dS pp m pc) (by exact⟨e0,e1⟩) λhS=>?_;rw[<-hV]at hS⊢;have KV:=af hS;have zV:U (Q wr)<U (Q V):=nI V _ hS.1;have z2r:=aB.size;clear hX tZ e0 e1 hV YO QL;have OV:=af (ho.H Lq.W AR);have HU3:=af λb M=>(ho.lt.1 b M).2;have rV:=af (SL.H AR);refine iL 0 1 2 3 hS ?_;refine tn 4 hS ?_;refine ft 5 λKK hK=>?_;go_simp;have S5:=(aR (U (Q V)) V).alloc az (dO #[.S pp m pc] 22);refine bQ hK (by exact⟨aj KV.1 S5,aj KV.2 S5⟩) λhS=>?_;refine ft 6 λKK hK=>?_;refine js (dG6 em rV ae) ?_;rintro r v1⟨B,N,rfl,o6,gj⟩;refine⟨_,rfl,?_⟩;have K6:=br (aj KV.1 gj) (aj KV.2 gj);refine bQ hK (by exact K6) λhS=>?_;have O6:=af o6;have B6:=af gj;refine tn 7 hS ?_;refine ft 8 λKK hK=>?_;go_simp;have y:=(aR (U (Q v1)) v1).alloc az (dO #[.I K,.S B m N] 114);refine hK.out _ _ (by exact⟨aj K6.1 y,aj K6.2 y⟩) (λhS=>?_);let⟨Z,hZ⟩:=aF (jA v1 (dO #[.I K,.S B m N] 114));have hcZ:∀j u,[Value.I K,.S B m N][j]?=Y u->I Z (Aw v1 j)=Y u:=λj u hu=>by have:=(aO.alloc v1 #[.I K,.S B m N] 114).1 j u (by simpa using hu);rw[hZ];exact this
 rw[<-hZ]at y hS⊢;have bVZ:Bw V Z:=ah B6 y;have OZ:=OV.H Lq.W bVZ;let⟨lb,q1,q2,q3,q4⟩:=Xa (kd:=.u8) (Own.H O6 y);have elz:Lq Z (K,P) [.I K,.S B m N] lb:=⟨B,N,by rw[aa em],by rw[aa em];exact(Own.H O6 y).rd,by rw[aa em];exact⟨_,_,_,rfl,(Own.H O6 y).cap,(Own.H O6 y).NL⟩,by rw[aa em];exact q1⟩;let⟨cs,g1,g2,g3,g4,g5,g6,g7⟩:=id OZ;have Yw:=OV.lt;have hle:J (jT k iZ)<=2^20:=by rw[te];omega
 have z9:U (Q W2)<=U (Q Z):=aM bVZ.size
 (try simp only[Act.put,xa,xb,xc])
 refine ft 9 λKK hK=>?_;refine TD aP aP ie 2 underlying41 UX ki fy gJ rfl aX aP g4 1 1 [.I K,.S B m N] aP rfl hcZ (λu hu=>by simp at hu;obtain rfl|rfl:=hu<;>rfl) kL ae z9 ?_;intro v' w9 gC hg gR;have sn:=OwnT.snoc g1 g2 g3 g5 g6 g7 Lq.W elz rfl q2 ae (λa ha=>(Yw.2 a ha).2) (λb M=>(Yw.1 b M).2) gC hg gR;rw[<-WK (aa HY)]at sn;have me:Bw W2 w9:=(ah (ah aB AR) bVZ).grown hg z9 (λb M=>(Yw.1 b M).1);have K9:I w9 (Aw wr 0)=dI K/\I w9 (Aw wr 1)=dS pp m pc:=by
  have aN:Y (U (Q wr))≠jB u3:=λe=>by have:=aa HU3 _ e.C;omega
  exact⟨hg.cell hS.1 aN,hg.cell hS.2 aN⟩
 refine bQ hK (by exact K9) λhS=>?_;refine tn 10 hS ?_;refine ga ?_;have SN:=af sn;go_wp2;go_roundw;exact⟨k+1,_,ae,by go_num,SN,me⟩;exact dh};{
 have cM:=fG k n;obtain rfl:k=n:=ae;have o2:=aa ho;rw[od (aa en▸fq _)]at o2;let⟨Ij,A,Gb,vk⟩:=o2.ev;obtain⟨pv,cv,rfl,-⟩:=id Ij;rw[aa en]at Ij Gb⊢;let⟨q0,q1,q2⟩:=aa HK;have c0:=aj q0 aB;have c1:=aj q1 aB;have uL:=uQ.H ae aB;let⟨r0,r1,r2⟩:=cI6 uL.1;have rf:=uL.2;have aN:¬U (Q w)+1=U (Q w):=ae;have RD:=dy Ij Gb vk;have Au:=aB.size;go_wp2;let⟨Ij,Gb,vk⟩:=aa RD;let⟨Z,hZ⟩:=aF (jS (jS (jS wr (Ax w 0) (.U iI)) (Ax w 1) (.I D)) (Ax w 2) (.S pv k cv));have hk:∀a∈A,Z.heap[a.b]?=wr.heap[a.b]?:=λa ha=>by have:=vk.lo a ha;rw[hZ];rw[fN _ _ _ _ cg,fN _ _ _ _ cg,fN _ _ _ _ cg]
 have YV:Bw w Z:=by rw[hZ];exact((BB.setCell ai _).setCell ai _).setCell ai _
 refine bO (v:=jP #[.U iI,.I D,.S pv k cv]) (by simp[results,results85,go_sem,r0,r1,r2]) rfl ⟨pv,cv,rfl,?_⟩;rw[<-hZ];exact⟨Ij.ox Gb hk,A,LvE.W Gb hk,(vk.W hk).h ae,YV⟩}}
namespace iZ
open Go.Sort
theorem cf6(i:Int->Int->Bool)(a:Nat):∀(j:Nat)(d:Array Int),(insInner i a j d).size=d.size
 |0,d=>rfl
 |j+1,d=>by rw[insInner];split;{rw[cf6 i a j,size_swp]};{rfl}
variable {a j:Nat}{d:Array Int}
theorem insInner_stop(h:¬a<j\/ltInt d[j]! d[j-1]! = dF):insInner ltInt a j d=d:=by
 cases j with
 |zero=>rfl
 |succ j=>
  rw[insInner,aJ];obtain h|h:=h;{simp;omega};{simp only[Kn]at h;simp[h]}
theorem insInner_go(h:a<j)(hl:ltInt d[j]! d[j-1]! = dY):insInner ltInt a j d=insInner ltInt a (j-1) (swp d j (j-1)):=by
 cases j with
 |zero=>omega
 |succ j=>
  simp only[Kn]at hl⊢;rw[insInner,aK (by simp[hl];omega)]
variable {w:G}
theorem dH6{blk off cap N a b:Nat}(hN:O (d.size=N))(h:HU w blk off d)(yS:a<=b)(hb:b<=N)(gK:N<=2^20):dQ dG 226 #[.S (Ad blk off) N cap,.I a,.I b] w λe w'=>e=dR (dT #[])/\HU w' blk off (insertionSort ltInt d a b)/\jG w w' blk:=by
 let⟨D,eD⟩:=aZ (insertionSort ltInt d a b);rw[eD];have ED:O (insOuter ltInt a b (a+1) d=D):=eD;have H0:=af h;go_in
 go_wp21
 go_loopw[6](λs6 wr=>∃(i:Nat)(u:Array Int),s6=.I i/\i<=1048577/\a<i/\O (u.size=N)/\O (HU wr blk off u)/\O (insOuter ltInt a b i u=D)/\O (jG w wr blk)) (λs6 _=>b-(jN (intOf s6)))
 exact⟨a+1,d,by first|rfl|go_num,ae,ae,hN,H0,ED,Np⟩;{
 obtain⟨i,u,rfl,q1,q2,nw,tB,V,s⟩:=hrel;by_cases aL:i<b;{
 have cM:=bR i b;have hq:=aa V;rw[insOuter,aK aL]at hq;let⟨E,eE⟩:=aZ (insInner ltInt a i u);rw[eE]at hq;have HQ:=af hq;have EE:=af eE;have hEs:O (E.size=N):=by show _=_;rw[<-eE,cf6];exact aa nw
 go_wp21
 let⟨iY,eY⟩:=aF wr;subst eY;have HG0:=s
 go_loopw[7](λZ wr=>∃(j:Nat)(q:Array Int),Z=.I j/\j<=i/\a<=j/\O (q.size=N)/\O (HU wr blk off q)/\O (insInner ltInt a j q=E)/\O (jG w wr blk)) (λZ _=>jN (intOf Z))
 exact⟨i,u,rfl,fq _,ae,nw,tB,EE,HG0⟩;{
 obtain⟨j,q,rfl,q3,q4,KL,x,Ch,s⟩:=hrel;by_cases M:a<j;{
 have dR3:=bR a j;obtain⟨m,em⟩:∃m:Nat,(j:Int)-1=(m:Int):=⟨j-1,ae⟩;have Nt:j-1=m:=ae;have QJ:=aa KL;let⟨cj,fj⟩:=aa x j ae;let⟨cm,fm⟩:=aa x m ae;let⟨y,X⟩:=aZ q[j]!;let⟨z,W⟩:=aZ q[m]!;have Az:=af (x.swap (i:=j) (j:=m) ae ae W.C X.C);rw[X]at cj;rw[W]at cm;have i1:=bR j N;have i2:=bR m N;have i3:=gr 0 m;have wm:=iw m;let⟨B,eB⟩:=aZ (ltInt y z);have EB:=af eB;have Hp:O (B=dF->q=E):=λhB=>by rw[<-aa Ch,insInner_stop (.R (by rw[Nt,X,W,eB,hB]))]
 have Hu:O (B->insInner ltInt a m (swp q j m)=E):=λhB=>by rw[<-aa Ch,insInner_go M (by rw[Nt,X,W,eB,hB]),Nt]
 have lD:O ((swp q j m).size=N):=by show _=_;rw[size_swp];exact QJ
 have HG:=af (iD (iD s (iF wr blk (off+j) (.U z))) (iF _ blk (off+m) (.U y)));have K0:=br cj cm;have FF:=br fj fm
 go_wp21
 go_cut[30](λrv wc=>rv=jO B/\wc=wr.drew)
 case first=>(
 refine fK (λw'=>I w' (Ad blk (off+j))=dU y/\I w' (Ad blk (off+m))=dU z) (by exact K0) λhS=>?_;refine jh 0 1 2 3 4 5 6 7 hS ?_;refine iL 8 9 10 11 hS ?_;refine tn 12 hS ?_;refine ry [13] ?_;refine cn (λKK hK=>?_) ?_;{
 refine Fw aP aP aP aP (λ_=>GZ) (Gc) ?_;rintro r w2⟨rfl,rfl⟩;refine⟨_,rfl,?_⟩;rw[aa EB];refine bQ hK (by exact K0) λhS=>?_;refine tn 14 hS ?_;refine ga ?_
 go_wp21
 go_meet;exact⟨rfl,rfl⟩};exact fI)
 obtain⟨rfl,rfl⟩:=hcut;cases B with
 |false=>
  obtain rfl:=aa Hp rfl;go_wp2;go_roundw;exact⟨i+1,q,by go_num,ae,ae,KL,x.drew,HQ,gp s⟩;exact dh
 |true=>
  have e:=af (aa Hu rfl);let⟨cj,cm⟩:=aa K0;let⟨fj,fm⟩:=aa FF
  go_wp21
  go_region
  go_wp2;go_roundw;exact⟨m,swp q j m,by first|rfl|go_num,ae,ae,lD,(aa Az),e,gp (gp HG)⟩;exact dh};{
 have dR3:=fG a j;obtain rfl:q=E:=by rw[<-aa Ch,insInner_stop (.L M)]
 go_wp21
 go_cut[30](λrv wc=>rv=jO dF/\wc=wr.drew)
 case first=>(
 refine fK (λw'=>True) gQ λhS=>?_;refine iL 0 1 2 3 hS ?_;refine lT 4 5 6 7 hS ?_;refine lT 8 9 10 11 hS ?_;refine sn 12 hS ?_;refine sn 13 hS ?_;refine tn 14 hS ?_;refine ga ?_
 go_wp21
 go_meet;exact⟨rfl,rfl⟩)
 obtain⟨rfl,rfl⟩:=hcut;go_wp2;go_roundw;exact⟨i+1,q,by go_num,ae,ae,KL,x.drew,HQ,gp s⟩
 case measure=>simp[intOf];omega}}}
 {have cM:=fG i b;have hq:=aa V;rw[insOuter,aJ aL]at hq;subst hq;go_wp2;go_end0;exact⟨rfl,tB,s⟩}}
end iZ
namespace iZ
open Go.Sort
variable {d:Array Int}{hi first r:Nat}
theorem dg1(h:¬2*r+1<hi):siftDown ltInt hi first r d=d:=by
 rw[siftDown,XF ae]
def Eo(i first r:Nat)(d:Array Int):Nat:=if 2*r+1+1<i&&ltInt d[first+(2*r+1)]! d[first+(2*r+1)+1]! then 2*r+2 else 2*r+1
theorem aM1(h:2*r+1<hi)(hl:ltInt d[first+r]! d[first+Eo hi first r d]! = dF):siftDown ltInt hi first r d=d:=by
 rw[siftDown,dif_neg ae];unfold Eo at hl;split;{next hc=>rw[aK hc]at hl;rw[aK (by simp[hl])]}
 {next hc=>rw[aJ hc]at hl;rw[aK (by simp[hl])]}
theorem aM2(h:2*r+1<hi)(hl:ltInt d[first+r]! d[first+Eo hi first r d]! = dY):siftDown ltInt hi first r d=siftDown ltInt hi first (Eo hi first r d) (swp d (first+r) (first+Eo hi first r d)):=by
 rw[siftDown,dif_neg ae];unfold Eo at hl⊢;split;{
 next hc=>
 rw[aK hc]at hl;rw[aJ (by simp[hl])];have:2*r+2<hi:=by simp at hc;omega
 rw[XF this]};{
 next hc=>
 rw[aJ hc]at hl;rw[aJ (by simp[hl])]}
variable {w:G}
theorem bP3{blk off cap N lo u first:Nat}(hN:O (d.size=N))(h:HU w blk off d)(hh:first+u<=N)(vR:lo<=N)(gK:N<=2^20):dQ dG 247 #[.S (Ad blk off) N cap,.I lo,.I u,.I first] w λe w'=>e=dR (dT #[])/\HU w' blk off (siftDown ltInt u first lo d)/\jG w w' blk:=by
 let⟨D,eD⟩:=aZ (siftDown ltInt u first lo d);rw[eD];have ED:=af eD;have H0:=af h;go_in
 go_wp21
 go_loopw[8](λs8 wr=>∃(r:Nat)(s:Array Int),s8=.I r/\r<=2^20/\O (s.size=N)/\O (HU wr blk off s)/\O (siftDown ltInt u first r s=D)/\O (jG w wr blk)) (λs8 _=>u-(jN (intOf s8)))
 exact⟨lo,d,rfl,ae,hN,H0,ED,Np⟩;{
 obtain⟨r,s,rfl,q1,nw,tB,V,hg⟩:=hrel;have w1:jY jV (2*(r:Int))=2*(r:Int):=l8 _ ae;obtain⟨c,ec⟩:∃c:Nat,2*(r:Int)+1=(c:Int):=⟨2*r+1,ae⟩;have ec0:2*r+1=c:=ae;have wc:=iw c;by_cases aL:c<u;{
 have cM:¬(u:Int)<=(c:Int):=ae;have KJ:=aa nw;obtain⟨X,ec2⟩:∃X:Nat,(c:Int)+1=(X:Int):=⟨c+1,ae⟩;have wc2:=iw X;obtain⟨fr,efr⟩:∃x:Nat,(first:Int)+(r:Int)=(x:Int):=⟨first+r,ae⟩;have wfr:=iw fr;obtain⟨m,efc⟩:∃x:Nat,(first:Int)+(c:Int)=(x:Int):=⟨first+c,ae⟩;have wfc:=iw m;obtain⟨W,efd⟩:∃x:Nat,(m:Int)+1=(x:Int):=⟨m+1,ae⟩;have wfd:=iw W;have fr4:(first:Int)+(X:Int)=(W:Int):=ae;have n1:first+r=fr:=ae
 have n2:first+c=m:=ae
 have n3:m+1=W:=ae;have n4:2*r+2=X:=ae;let⟨cr,Jh⟩:=aa tB fr ae;let⟨cc,fcc⟩:=aa tB m ae;let⟨y,ey⟩:=aZ s[fr]!;let⟨z,ez⟩:=aZ s[m]!;rw[ey]at cr;rw[ez]at cc;have j1:=bR fr N;have j2:=bR m N;have K1:=br cr cc;have F1:=br Jh fcc;by_cases ju:X<u;{
 have dU5:=bR X u;let⟨cd,Ji⟩:=aa tB W ae;let⟨x,ex⟩:=aZ s[W]!;rw[ex]at cd;have j3:=bR W N;let⟨B,eB⟩:=aZ (ltInt z x);have EB:=af eB;have Qy:Eo u first r s=if B then X else c:=by unfold Eo;rw[ec0,n4,n2,n3,ez,ex,eB];simp only[show dD (c+1<u)=dY by(rw[vK];omega),xm]
 have K2:=br K1.2 cd;have cO2:=af Qy;have HX:=dy ex cd Ji;have M:=nF ec0 n1 n2 n3 n4;have HE:=br ey ez
 go_wp21
 go_cut[36](λrv wc=>rv=jO B/\wc=wr.drew)
 case first=>(
 refine fK (λw'=>I w' (Ad blk (off+m))=dU z/\I w' (Ad blk (off+W))=dU x) (by exact K2) λhS=>?_;refine jh 0 1 2 3 4 5 6 7 hS ?_;refine jh 8 9 10 11 12 13 14 15 hS ?_;refine gh 16 17 hS ?_;refine ry [18] ?_;refine cn (λKK hK=>?_) ?_;{
 refine Fw aP aP aP aP (λ_=>GZ) (Gc) ?_;rintro r' w2⟨rfl,rfl⟩;refine⟨_,rfl,?_⟩;rw[aa EB];refine bQ hK (by exact K2) λhS=>?_;refine tn 19 hS ?_;refine ga ?_
 go_wp21
 go_meet;exact⟨rfl,rfl⟩};exact fI)
 obtain⟨rfl,rfl⟩:=hcut;cases B with
 |true=>
  have wR:O (Eo u first r s=X):=by show _=_;rw[aa cO2];rfl
  let⟨ex,cd,Ji⟩:=aa HX;obtain⟨cr,-⟩:=aa K1;obtain⟨Jh,-⟩:=aa F1;let⟨Z,yX⟩:=aZ (ltInt y x);have EB2:=af yX;have Cd:first+X=W:=aM (aa M)
  have gR:first+r=fr:=M.2.1
  have Hp:O (Z=dF->s=D):=λhB=>by rw[<-aa V,aM1 (aM M.1) (by rw[aa wR,Cd,gR,HE.1,ex,yX,hB])]
  have Hu:O (Z->siftDown ltInt u first X (swp s fr W)=D):=λhB=>by have:=aa V;rw[aM2 (aM M.1) (by rw[aa wR,Cd,gR,HE.1,ex,yX,hB]),aa wR,Cd,gR]at this;exact this
  have KJ:=aa nw;have Az:=af (tB.swap (i:=fr) (j:=W) ae ae ex.C HE.1.C);have lD:O ((swp s fr W).size=N):=by show _=_;rw[size_swp];exact KJ
  have HG:=af (iD (iD hg (iF wr blk (off+fr) (.U x))) (iF _ blk (off+W) (.U y)));have K3:=br cr cd;have F3:=br Jh Ji;have hrc:r<X:=aM (aa M)
  go_wp21
  go_cut[52](λrv wc=>rv=jO (!Z)/\wc=wr.drew.drew)
  case first=>(
 refine fK (λw'=>I w' (Ad blk (off+fr))=dU y/\I w' (Ad blk (off+W))=dU x) (by exact K3) λhS=>?_;refine jh 0 1 2 3 4 5 6 7 hS ?_;refine iL 8 9 10 11 hS ?_;refine ry [12] ?_;refine cn (λKK hK=>?_) ?_;{
 refine Fw aP aP aP aP (λ_=>GZ) (Gc) ?_;rintro r' w2⟨rfl,rfl⟩;refine⟨_,rfl,?_⟩;rw[aa EB2];refine bQ hK (by exact K3) λhS=>?_;refine tn 13 hS ?_;refine ga ?_
 go_wp21
 go_meet;exact⟨rfl,rfl⟩};exact fI)
  obtain⟨rfl,rfl⟩:=hcut;cases Z with
  |false=>
   obtain rfl:=aa Hp rfl;go_wp2;exact bO (xK (h:=rfl) _ _ _) rfl ⟨rfl,tB,gp (gp hg)⟩
  |true=>
   have e:=af (aa Hu rfl);let⟨cr,cd⟩:=aa K3;let⟨Jh,Ji⟩:=aa F3
   go_wp21
   go_region
   go_wp2;go_roundw;exact⟨X,swp s fr W,rfl,ae,lD,(aa Az),e,gp (gp (gp HG))⟩;exact dh
 |false=>
  have wR:O (Eo u first r s=c):=by show _=_;rw[aa cO2];rfl
  have ex:=HE.2;have cd:=K1.2;have Ji:=F1.2;obtain⟨cr,-⟩:=aa K1;obtain⟨Jh,-⟩:=aa F1;let⟨Z,yX⟩:=aZ (ltInt y z);have EB2:=af yX;have Cd:first+c=m:=aM (aa M)
  have gR:first+r=fr:=M.2.1
  have Hp:O (Z=dF->s=D):=λhB=>by rw[<-aa V,aM1 (aM M.1) (by rw[aa wR,Cd,gR,HE.1,ex,yX,hB])]
  have Hu:O (Z->siftDown ltInt u first c (swp s fr m)=D):=λhB=>by have:=aa V;rw[aM2 (aM M.1) (by rw[aa wR,Cd,gR,HE.1,ex,yX,hB]),aa wR,Cd,gR]at this;exact this
  have KJ:=aa nw;have Az:=af (tB.swap (i:=fr) (j:=m) ae ae ex.C HE.1.C);have lD:O ((swp s fr m).size=N):=by show _=_;rw[size_swp];exact KJ
  have HG:=af (iD (iD hg (iF wr blk (off+fr) (.U z))) (iF _ blk (off+m) (.U y)));have K3:=br cr cd;have F3:=br Jh Ji;have hrc:r<c:=aM (aa M)
  go_wp21
  go_cut[52](λrv wc=>rv=jO (!Z)/\wc=wr.drew.drew)
  case first=>(
 refine fK (λw'=>I w' (Ad blk (off+fr))=dU y/\I w' (Ad blk (off+m))=dU z) (by exact K3) λhS=>?_;refine jh 0 1 2 3 4 5 6 7 hS ?_;refine iL 8 9 10 11 hS ?_;refine ry [12] ?_;refine cn (λKK hK=>?_) ?_;{
 refine Fw aP aP aP aP (λ_=>GZ) (Gc) ?_;rintro r' w2⟨rfl,rfl⟩;refine⟨_,rfl,?_⟩;rw[aa EB2];refine bQ hK (by exact K3) λhS=>?_;refine tn 13 hS ?_;refine ga ?_
 go_wp21
 go_meet;exact⟨rfl,rfl⟩};exact fI)
  obtain⟨rfl,rfl⟩:=hcut;cases Z with
  |false=>
   obtain rfl:=aa Hp rfl;go_wp2;exact bO (xK (h:=rfl) _ _ _) rfl ⟨rfl,tB,gp (gp hg)⟩
  |true=>
   have e:=af (aa Hu rfl);let⟨cr,cd⟩:=aa K3;let⟨Jh,Ji⟩:=aa F3
   go_wp21
   go_region
   go_wp2;go_roundw;exact⟨c,swp s fr m,rfl,ae,lD,(aa Az),e,gp (gp (gp HG))⟩;exact dh};{
 have dU5:=fG X u;have wR:O (Eo u first r s=c):=by show _=_;unfold Eo;rw[aJ cg,ec0]
 have M:=nF ec0 n1 n2 n3 n4;have HE:=br ey ez;have ex:=HE.2;have cd:=K1.2;have Ji:=F1.2
 go_wp21
 go_cut[36](λrv wc=>rv=jO dF/\wc=wr.drew)
 case first=>(
 refine fK (λw'=>True) gQ λhS=>?_;refine iL 0 1 2 3 hS ?_;refine tn 4 hS ?_;refine lT 5 6 7 8 hS ?_;refine lT 9 10 11 12 hS ?_;refine lT 13 14 15 16 hS ?_;refine sn 17 hS ?_;refine sn 18 hS ?_;refine tn 19 hS ?_;refine ga ?_
 go_wp21
 go_meet;exact⟨rfl,rfl⟩)
 obtain⟨rfl,rfl⟩:=hcut;obtain⟨cr,-⟩:=aa K1;obtain⟨Jh,-⟩:=aa F1;let⟨Z,yX⟩:=aZ (ltInt y z);have EB2:=af yX;have Cd:first+c=m:=aM (aa M)
 have gR:first+r=fr:=M.2.1
 have Hp:O (Z=dF->s=D):=λhB=>by rw[<-aa V,aM1 (aM M.1) (by rw[aa wR,Cd,gR,HE.1,ex,yX,hB])]
 have Hu:O (Z->siftDown ltInt u first c (swp s fr m)=D):=λhB=>by have:=aa V;rw[aM2 (aM M.1) (by rw[aa wR,Cd,gR,HE.1,ex,yX,hB]),aa wR,Cd,gR]at this;exact this
 have KJ:=aa nw;have Az:=af (tB.swap (i:=fr) (j:=m) ae ae ex.C HE.1.C);have lD:O ((swp s fr m).size=N):=by show _=_;rw[size_swp];exact KJ
 have HG:=af (iD (iD hg (iF wr blk (off+fr) (.U z))) (iF _ blk (off+m) (.U y)));have K3:=br cr cd;have F3:=br Jh Ji;have hrc:r<c:=aM (aa M)
 go_wp21
 go_cut[52](λrv wc=>rv=jO (!Z)/\wc=wr.drew.drew)
 case first=>(
 refine fK (λw'=>I w' (Ad blk (off+fr))=dU y/\I w' (Ad blk (off+m))=dU z) (by exact K3) λhS=>?_;refine jh 0 1 2 3 4 5 6 7 hS ?_;refine iL 8 9 10 11 hS ?_;refine ry [12] ?_;refine cn (λKK hK=>?_) ?_;{
 refine Fw aP aP aP aP (λ_=>GZ) (Gc) ?_;rintro r' w2⟨rfl,rfl⟩;refine⟨_,rfl,?_⟩;rw[aa EB2];refine bQ hK (by exact K3) λhS=>?_;refine tn 13 hS ?_;refine ga ?_
 go_wp21
 go_meet;exact⟨rfl,rfl⟩};exact fI)
 obtain⟨rfl,rfl⟩:=hcut;cases Z with
 |false=>
  obtain rfl:=aa Hp rfl;go_wp2;exact bO (xK (h:=rfl) _ _ _) rfl ⟨rfl,tB,gp (gp hg)⟩
 |true=>
  have e:=af (aa Hu rfl);let⟨cr,cd⟩:=aa K3;let⟨Jh,Ji⟩:=aa F3
  go_wp21
  go_region
  go_wp2;go_roundw;exact⟨c,swp s fr m,rfl,ae,lD,(aa Az),e,gp (gp (gp HG))⟩;exact dh}};{
 have cM:=nT u c;have hq:=aa V;rw[dg1 ae]at hq;subst hq;go_wp2
 first
  |exact bO (xK (h:=rfl) _ _ _) rfl ⟨rfl,tB,hg⟩
  |(go_end0;exact⟨rfl,tB,hg⟩)}}
end iZ
namespace iZ
open Go.Sort
theorem bP2(j:Int->Int->Bool)(i first:Nat):∀(k r:Nat)(d:Array Int),i-r<=k->(siftDown j i first r d).size=d.size:=by
 intro k
 induction k with
 |zero=>intro r d m;rw[siftDown,XF ae]
 |succ k ih=>
  intro r d m;rw[siftDown];split;{rfl};{split;{split;{rfl};{split;{rw[ih _ _ ae,size_swp]};{rfl}}};{split;{rfl};{rw[ih _ _ ae,size_swp]}}}
variable {d:Array Int}{w:G}
theorem dS8{blk off cap N a b:Nat}(hN:O (d.size=N))(h:HU w blk off d)(yS:a<=b)(hb:b<=N)(gK:N<=2^20):dQ dG 227 #[.S (Ad blk off) N cap,.I a,.I b] w λe w'=>e=dR (dT #[])/\HU w' blk off (heapSort ltInt d a b)/\jG w w' blk:=by
 let⟨D,E⟩:=aZ (heapSort ltInt d a b);rw[E];obtain⟨H,eH⟩:∃H:Nat,(b:Int)-(a:Int)=(H:Int):=⟨b-a,ae⟩;have B:b-a=H:=ae;have wH:=iw H;unfold heapSort at E;rw[B]at E;let⟨M,eM⟩:=aZ (heapBuild ltInt H a ((H-1) / 2+1) d);rw[eM]at E;have ED:=af E;have EM:=af eM;have H0:=af h;have hHN:a+H<=N:=ae;have HE0:=af B;have w1:jY jV ((H:Int)-1)=(H:Int)-1:=l8 _ ae;obtain⟨q,eq⟩:∃q:Int,Int.tdiv ((H:Int)-1) 2=q:=⟨_,rfl⟩;have hq:q=((H-1) / 2:Nat):=by rw[<-eq];by_cases hz:H=0;{subst hz;decide};{rw[show(H:Int)-1=((H-1:Nat):Int) by omega];exact(aT9 _ _).C}
 have IN:0<=q:=ae;have yK:q<=2^20:=ae;have wq:jY jV q=q:=l8 _ ae;have HQ:=af hq;clear E eM h B hq;go_in
 go_wp21
 go_loopw[9](λs9 wr=>∃(o:Int)(k:Nat)(s:Array Int),s9=.I o/\o=(k:Int)-1/\k<=H+1/\O (s.size=N)/\O (HU wr blk off s)/\O (heapBuild ltInt H a k s=M)/\O (jG w wr blk)) (λs9 _=>jN (intOf s9+1))
 exact⟨q,(H-1) / 2+1,d,rfl,aM (aa HQ),ae,hN,H0,EM,Np⟩;{
 obtain⟨o,k,s,rfl,Z,hiz,nw,tB,W,V⟩:=hrel;have HK:=af Z;by_cases hz:0<=o;{
 obtain⟨m,em⟩:∃m:Nat,o=(m:Int):=⟨jN o,ae⟩;obtain rfl:k=m+1:=ae;clear Z HK;subst em;have vM:=gr 0 m;have R:=aa W;rw[heapBuild]at R;have SR:=af R;have bg6:O ((siftDown ltInt H a m s).size=N):=by show _=_;rw[bP2 ltInt H a _ m s az];exact aa nw
 have hm:m<=N:=ae
 go_wp21
 refine(bP3 nw tB hHN hm gK).h ?_;rintro e w2⟨rfl,tC,dz⟩;have HG:=af (iD V dz);have Wh:=af tC;go_wp2;go_roundw;exact⟨(m:Int)-1,m,_,by first|rfl|go_num,ae,ae,bg6,Wh,SR,HG⟩
 case measure=>first|(simp[intOf];done)|(simp[intOf];omega)}
 {
 obtain rfl:k=0:=ae;obtain rfl:s=M:=aa W
 go_wp21
 let⟨iY,eY⟩:=aF wr;subst eY;have HG0:=V
 go_loopw[10](λAh wr=>∃(o:Int)(k:Nat)(r:Array Int),Ah=.I o/\o=(k:Int)-1/\k<=H/\O (r.size=N)/\O (HU wr blk off r)/\O (heapPop ltInt a k r=D)/\O (jG w wr blk)) (λAh _=>jN (intOf Ah+1))
 exact⟨(H:Int)-1,H,s,rfl,rfl,fq _,nw,tB,ED,HG0⟩;{
 obtain⟨o,k,r,rfl,Z,hiz,KL,X,Ch,V⟩:=hrel;by_cases hz:0<=o;{
 obtain⟨m,em⟩:∃m:Nat,o=(m:Int):=⟨jN o,ae⟩;obtain rfl:k=m+1:=ae;clear Z;subst em;have vM:=gr 0 m;obtain⟨f,ef⟩:∃x:Nat,(a:Int)+(m:Int)=(x:Int):=⟨a+m,ae⟩;have wf:=iw f;have ef0:a+m=f:=ae;have QJ:=aa KL;let⟨ca,fa⟩:=aa X a ae;let⟨cf,ff⟩:=aa X f ae;let⟨y,ey⟩:=aZ r[a]!;let⟨z,ez⟩:=aZ r[f]!;rw[ey]at ca;rw[ez]at cf;let⟨tt,ct⟩:=Ig (q:=(Ad blk (off+a))) (u:=.U z) cf;have i1:=bR a N;have i2:=bR f N;have R:=aa Ch;rw[heapPop,ef0]at R;have SR:=af R;have SJ:=af (X.swap (i:=a) (j:=f) ae ae ez.C ey.C);have lD:O ((swp r a f).size=N):=by show _=_;rw[size_swp];exact QJ
 have Hq:O ((siftDown ltInt m a 0 (swp r a f)).size=N):=by show _=_;rw[bP2 ltInt m a _ 0 _ az];exact aa lD
 have HG:=af (iD (iD V (iF wr blk (off+a) (.U z))) (iF _ blk (off+f) (.U y)));have sI:a+m<=N:=ae
 go_wp21
 go_region
 go_wp21
 refine(bP3 lD (by exact SJ) sI (cT _) gK).h ?_;rintro e w2⟨rfl,tC,dz⟩;have HG2:=af (iD (gp HG) dz);have Wh:=af tC;go_wp2;go_roundw;exact⟨(m:Int)-1,m,_,by first|rfl|go_num,rfl,ae,Hq,Wh,SR,HG2⟩
 case measure=>first|(simp[intOf];done)|(simp[intOf];omega)}
 {obtain rfl:k=0:=ae;obtain rfl:r=D:=aa Ch;go_wp2;go_end0;exact⟨rfl,X,V⟩}}}}
end iZ
namespace iZ
open Go.Sort
variable {j i:Nat}{d:Array Int}{p:Int->Bool}
theorem cZ5(h:i<=j)(m:p d[i]! = dY):scanUp p d j i=scanUp p d j (i+1):=by
 rw[scanUp,aK (by simp[h,m])]
theorem cZ4(h:¬i<=j\/p d[i]! = dF):scanUp p d j i=i:=by
 rw[scanUp,aJ];obtain h|h:=h;{simp;omega};{simp[h]}
theorem er0(o:0<j)(h:i<=j)(m:p d[j]! = dY):scanDown p d i j=scanDown p d i (j-1):=by
 cases j with
 |zero=>omega
 |succ j=>rw[scanDown,aK (by simp[h,m])];rfl
theorem eq9(m:0<i)(h:¬i<=j\/p d[j]! = dF):scanDown p d i j=j:=by
 cases j with
 |zero=>rfl
 |succ j=>
  rw[scanDown,aJ];obtain h|h:=h;{simp;omega};{simp[h]}
variable {wr:G}{D:Array Int}{l:Int->Int->Bool}{f:Bool->Bool}{Bc:Bool}{y:Int}
theorem Vy{j i Z N a blk off:Nat}(u:O ((dD (j<=i)&&f (l D[Z]! D[a]!))=Bc))(s:O (D.size=N))(o:O (HU wr blk off D))(r:O (D[a]! = y))(M:a<N)(q:j<=i->Z<N):(¬(j:Int)<=(i:Int)/\Bc=dF)\/∃z x L,z=Z/\(j:Int)<=(i:Int)/\(z:Int)<(N:Int)/\(a:Int)<(N:Int)/\(0:Int)<=(z:Int)/\O (l x y=L)/\Bc=f L/\O (I wr (Ad blk (off+z))=dU x/\I wr (Ad blk (off+a))=dU y):=by
 have E:=aa s;have m:=aa r;have e:=aa u;by_cases h:j<=i;{have B:=q h;refine .R ⟨Z,D[Z]!,_,rfl,ae,ae,ae,ae,rfl,?_,af ⟨(aa o Z ae).1,?_⟩⟩;{rw[<-e,m,Df h,xm]};{rw[<-m];exact(aa o a ae).1}};{refine .L ⟨ae,?_⟩;rw[<-e,Cb h];rfl}
variable {iI:Nat}
theorem aI7(h:O ((dD (i<=j)&&p d[i]!)))(e:O (scanUp p d j i=iI)):O (scanUp p d j (i+1)=iI)/\i<=j:=by
 have h:=aa h;rw[gI,vK]at h;exact⟨by show _=_;rw[<-cZ5 h.1 h.2];exact aa e,h.1⟩
theorem aI6(h:O ((dD (i<=j)&&p d[i]!)=dF))(e:O (scanUp p d j i=iI)):i=iI:=by
 have h:=aa h;rw[Di,Iw]at h;rw[<-aa e,cZ4 h]
theorem bs8(h:O ((dD (i<=j)&&p d[j]!)))(e:O (scanDown p d i j=iI))(o:0<i):i<=j/\∃m:Nat,(j:Int)-1=(m:Int)/\O (scanDown p d i m=iI):=by
 have h:=aa h;rw[gI,vK]at h;exact⟨h.1,j-1,ae,by show _=_;rw[<-er0 ae h.1 h.2];exact aa e⟩
theorem bs7(h:O ((dD (i<=j)&&p d[j]!)=dF))(e:O (scanDown p d i j=iI))(m:0<i):j=iI:=by
 have h:=aa h;rw[Di,Iw]at h;rw[<-aa e,eq9 m h]
variable {q:Prop}
theorem Vz(h':q:=by
 obtain⟨bf8,rfl⟩|⟨z,x,L,rfl,bf8,k1,k2,k3,EL,rfl,K0⟩:=CP;{
 refine fK (λw'=>True) gQ λhS=>?_;refine iL 0 1 2 3 hS ?_;refine lT 4 5 6 7 hS ?_;refine lT 8 9 10 11 hS ?_;refine sn 12 hS ?_
 first|(refine tn 13 hS ?_;refine Xr aU ?_ _)|(refine sn 13 hS ?_;refine tn 14 hS ?_;refine Xr aU ?_ _)
 refine Hf ?_
 go_wp21
 go_meet;exact⟨rfl,rfl⟩};{
 refine fK (λw'=>I w' (Ad blk (off+z))=dU x/\I w' (Ad blk (off+a))=dU y) (by exact K0) λhS=>?_;refine jh 0 1 2 3 4 5 6 7 hS ?_;refine iL 8 9 10 11 hS ?_;refine ry [12] ?_;refine cn (λKK hK=>?_) ?_;{
 refine Fw aP aP aP aP (λ_=>GZ) (Gc) ?_;rintro r' w2⟨rfl,rfl⟩;refine⟨_,rfl,?_⟩;rw[aa EL];refine bQ hK (by exact K0) λhS=>?_;refine tn 13 hS ?_
 try(refine tn 14 hS ?_)
 refine ga ?_
 go_wp21
 go_meet;exact⟨rfl,rfl⟩};exact fI}):q:=h'
variable {a i2 j2:Nat}
theorem ds1(o:scanUp (λx=>ltInt x d[a]!) d j i=i2)(m:scanDown (λx=>!ltInt x d[a]!) d i2 j=j2)(h:j2<i2):partLoop ltInt a i j d=(j2,d):=by
 rw[partLoop];simp only[o,m];rw[aK h]
theorem ds2(q:scanUp (λx=>ltInt x d[a]!) d j i=i2)(o:scanDown (λx=>!ltInt x d[a]!) d i2 j=j2)(h:¬j2<i2)(s:i<=i2)(r:j2<=j)(m:0<i2):partLoop ltInt a i j d=partLoop ltInt a (i2+1) (j2-1) (swp d i2 j2):=by
 rw[partLoop];simp only[q,o];rw[aJ h,XF ae]
variable {w:G}
theorem dr9{blk off cap N a b piv:Nat}(hN:O (d.size=N))(h:HU w blk off d)(EF:a<=piv)(hpb:piv<b)(hb:b<=N)(gK:N<=2^20):dQ dG 234 #[.S (Ad blk off) N cap,.I a,.I b,.I piv] w λe w'=>e=dR (dT #[.I (partition ltInt d a b piv).1,jO (partition ltInt d a b piv).2.1])/\HU w' blk off (partition ltInt d a b piv).2.2/\jG w w' blk:=by
 obtain⟨⟨R1,R2,R3⟩,eR⟩:∃R,partition ltInt d a b piv=R:=⟨_,rfl⟩;rw[eR];have nw:=aa hN;obtain⟨B1,eB1⟩:∃x:Nat,(b:Int)-1=(x:Int):=⟨b-1,ae⟩;have Vx:b-1=B1:=ae;have wB:=iw B1;let⟨ca,fa⟩:=h a ae;let⟨cp,fp⟩:=h piv ae;let⟨u,eu⟩:=aZ d[a]!;let⟨v,ev⟩:=aZ d[piv]!;have SJ:=af (h.swap (i:=a) (j:=piv) ae ae ev.C eu.C);rw[eu]at ca;rw[ev]at cp;let⟨tt,ct⟩:=Ig (q:=(Ad blk (off+a))) (u:=.U v) cp;let⟨D,Rt⟩:=aZ (swp d a piv);rw[Rt]at SJ;have DU:O (D.size=N):=by show _=_;rw[<-Rt,size_swp];exact nw
 let⟨y,ey⟩:=aZ D[a]!;have HY1:=af ey;have HG:=af (iD (iF w blk (off+a) (.U v)) (iF _ blk (off+piv) (.U u)));obtain⟨I1,eI1⟩:∃iI,scanUp (λx=>ltInt x D[a]!) D B1 (a+1)=iI:=⟨_,rfl⟩;obtain⟨J2,eJ2⟩:∃iJ,scanDown (λx=>!ltInt x D[a]!) D I1 B1=iJ:=⟨_,rfl⟩;have HR:O (((R1,R2,R3):Nat×Bool×Array Int)=if I1>J2 then(J2,dY,swp D J2 a)else((partLoop ltInt a (I1+1) (J2-1) (swp D I1 J2)).1,dF,swp (partLoop ltInt a (I1+1) (J2-1) (swp D I1 J2)).2 (partLoop ltInt a (I1+1) (J2-1) (swp D I1 J2)).1 a)):=by show _=_;rw[<-eR,partition,Rt,Vx];simp only[eI1,eJ2]
 have EI1:=af eI1;have EJ2:=af eJ2;have kk1:=bR a N;have kk2:=bR piv N;go_in
 go_wp21
 go_region
 go_wp21
 go_loopw[10](λs wr=>∃E:Nat,s=.I E/\a+1<=E/\E<=B1+2/\O (HU wr blk off D)/\O (scanUp (λx=>ltInt x D[a]!) D B1 E=I1)/\O (jG w wr blk)) (λs _=>B1+1-(jN (intOf s)))
 exact⟨a+1,by first|rfl|go_num,ae,ae,(aa SJ),EI1,(gp HG)⟩;{
 obtain⟨E,rfl,qa1,qb1,ri,Jd,GG⟩:=hrel;obtain⟨Bc,DJ⟩:∃B,(dD (E<=B1)&&((λx=>ltInt x D[a]!) D[E]!))=B:=⟨_,rfl⟩;have W:=af DJ
 go_wp21
 go_cut[43](λrv wc=>rv=jO Bc/\wc=wr.drew)
 case first=>(
 have CP:=Vy (l:=ltInt) (f:=λb=>b) W DU ri HY1 ae ae;exact Vz)
 obtain⟨rfl,rfl⟩:=hcut;cases Bc with
 |true=>
  let⟨hn,hle⟩:=aI7 W Jd;go_wp2;go_roundw;exact⟨E+1,by go_num,ae,ae,ri.drew,hn,gp GG⟩;exact dh
 |false=>
  obtain rfl:=aI6 W Jd
  go_wp21
  go_loopw[11](λs wr=>∃o:Nat,s=.I o/\E<=o+2/\o<=B1/\O (HU wr blk off D)/\O (scanDown (λx=>!ltInt x D[a]!) D E o=J2)/\O (jG w wr blk)) (λs _=>jN (intOf s))
  exact⟨B1,by first|rfl|go_num,ae,ae,ri,EJ2,(gp GG)⟩;{
 obtain⟨o,rfl,qa2,qb2,tC,hE2,Lb⟩:=hrel;obtain⟨Bc,DJ⟩:∃B,(dD (E<=o)&&((λx=>!ltInt x D[a]!) D[o]!))=B:=⟨_,rfl⟩;have W:=af DJ
 go_wp21
 go_cut[60](λrv wc=>rv=jO Bc/\wc=wr.drew)
 case first=>(
 have CP:=Vy (l:=ltInt) (f:=not) W DU tC HY1 ae ae;exact Vz)
 obtain⟨rfl,rfl⟩:=hcut;cases Bc with
 |true=>
  let⟨hle,m,em,hn⟩:=bs8 W hE2 ae;go_wp2;go_roundw;exact⟨m,by first|rfl|go_num,ae,ae,tC.drew,hn,gp Lb⟩;exact dh
 |false=>
  obtain rfl:=bs7 W hE2 ae;by_cases hgt:o<E;{
 have dS2:=bR o E;have hr:=aa HR;rw[aK hgt]at hr;simp only[jk]at hr;obtain⟨ya,vY,Rn⟩:=hr;replace ya:=ya.C;replace Rn:=Rn.C;subst ya vY Rn;let⟨c1,f1⟩:=aa tC o (aM (aa DU));let⟨c2,f2⟩:=aa tC a (aM (aa DU));let⟨p1,Z⟩:=aZ D[o]!;let⟨p2,tF⟩:=aZ D[a]!;rw[Z]at c1;rw[tF]at c2;let⟨tt,ct⟩:=Ig (q:=(Ad blk (off+o))) (u:=.U p2) c2;have yh:=af (tC.swap (i:=o) (j:=a) (aM (aa DU)) (aM (aa DU)) tF.C Z.C);have zF:=af (iD (iD Lb (iF _ blk (off+o) (.U p2))) (iF _ blk (off+a) (.U p1)));have l1:=bR o N;have l2:=bR a N;have l3:=gr 0 o;have l4:=gr 0 a
 go_wp21
 go_region
 go_wp2;go_ret2;exact⟨rfl,yh,gp (gp zF)⟩};{
 have dS2:=fG o E;obtain⟨⟨Q1,Q2⟩,eQ⟩:∃iZ,partLoop ltInt a (E+1) (o-1) (swp D E o)=iZ:=⟨_,rfl⟩;have hr:=aa HR;rw[aJ hgt,eQ]at hr;have HRB:=af hr;have EQ:=af eQ;let⟨c1,f1⟩:=aa tC E (aM (aa DU));let⟨c2,f2⟩:=aa tC o (aM (aa DU));let⟨p1,Z⟩:=aZ D[E]!;let⟨p2,tF⟩:=aZ D[o]!;rw[Z]at c1;rw[tF]at c2;let⟨tt,ct⟩:=Ig (q:=(Ad blk (off+E))) (u:=.U p2) c2;have yh:=af (tC.swap (i:=E) (j:=o) (aM (aa DU)) (aM (aa DU)) tF.C Z.C);have zF:=af (iD (iD Lb (iF _ blk (off+E) (.U p2))) (iF _ blk (off+o) (.U p1)));have l1:=bR E N;have l2:=bR o N;have l3:=gr 0 E;have l4:=gr 0 o;obtain⟨m2,em2⟩:∃m:Nat,(o:Int)-1=(m:Int):=⟨o-1,ae⟩;have ek0:o-1=m2:=ae;rw[ek0]at EQ;have HD2:O ((swp D E o).size=N):=by show _=_;rw[size_swp];exact aa DU
 go_wp21
 go_region
 go_wp21
 go_loopw[10,11](λAh WZ wr=>∃(i j:Nat)(M:Array Int),Ah=.I i/\WZ=.I j/\a+1<=i/\i<=j+2/\j<=B1/\O (M.size=N)/\O (HU wr blk off M)/\O (partLoop ltInt a i j M=(Q1,Q2))/\O (jG w wr blk)) (λAh WZ _=>jN (intOf WZ+2-intOf Ah))
 exact⟨E+1,m2,_,by first|rfl|go_num,by first|rfl|go_num,ae,ae,ae,HD2,yh,EQ,gp (gp zF)⟩;{
 obtain⟨i,j,M,rfl,rfl,z1,z2,z3,X,vX,Zg,Jb⟩:=hrel;let⟨y,ey⟩:=aZ M[a]!;have HY3:=af ey;obtain⟨I4,eI4⟩:∃iI,scanUp (λx=>ltInt x M[a]!) M j i=iI:=⟨_,rfl⟩;obtain⟨J5,eJ5⟩:∃iJ,scanDown (λx=>!ltInt x M[a]!) M I4 j=iJ:=⟨_,rfl⟩;have EI4:=af eI4;have EJ5:=af eJ5;have ae9:=EI4;have ae7:=EJ5
 go_wp21
 let⟨iY,eY⟩:=aF wr;subst eY
 go_loopw[10](λs wr=>∃V:Nat,s=.I V/\i<=V/\V<=j+2/\O (HU wr blk off M)/\O (scanUp (λx=>ltInt x M[a]!) M j V=I4)/\O (jG w wr blk)) (λs _=>j+1-(jN (intOf s)))
 exact⟨i,by first|rfl|go_num,ae,ae,vX,EI4,Jb⟩;{
 obtain⟨V,rfl,qa4,qb4,Be,Nh,Zp⟩:=hrel;obtain⟨Bc,DJ⟩:∃B,(dD (V<=j)&&((λx=>ltInt x M[a]!) M[V]!))=B:=⟨_,rfl⟩;have W:=af DJ
 go_wp21
 go_cut[112](λrv wc=>rv=jO Bc/\wc=wr.drew)
 case first=>(
 have CP:=Vy (l:=ltInt) (f:=λb=>b) W X Be HY3 ae ae;exact Vz)
 obtain⟨rfl,rfl⟩:=hcut;cases Bc with
 |true=>
  let⟨hn,hle⟩:=aI7 W Nh;go_wp2;go_roundw;exact⟨V+1,by go_num,ae,ae,Be.drew,hn,gp Zp⟩;exact dh
 |false=>
  obtain rfl:=aI6 W Nh
  go_wp21
  go_loopw[11](λs wr=>∃r:Nat,s=.I r/\V<=r+2/\r<=j/\O (HU wr blk off M)/\O (scanDown (λx=>!ltInt x M[a]!) M V r=J5)/\O (jG w wr blk)) (λs _=>jN (intOf s))
  exact⟨j,by first|rfl|go_num,ae,ae,Be,EJ5,(gp Zp)⟩;{
 obtain⟨r,rfl,qa5,qb5,vW,Zs,Q7⟩:=hrel;obtain⟨Bc,DJ⟩:∃B,(dD (V<=r)&&((λx=>!ltInt x M[a]!) M[r]!))=B:=⟨_,rfl⟩;have W:=af DJ
 go_wp21
 go_cut[129](λrv wc=>rv=jO Bc/\wc=wr.drew)
 case first=>(
 have CP:=Vy (l:=ltInt) (f:=not) W X vW HY3 ae ae;exact Vz)
 obtain⟨rfl,rfl⟩:=hcut;cases Bc with
 |true=>
  let⟨hle,m,em,hn⟩:=bs8 W Zs ae;go_wp2;go_roundw;exact⟨m,by first|rfl|go_num,ae,ae,vW.drew,hn,gp Q7⟩;exact dh
 |false=>
  obtain rfl:=bs7 W Zs ae;by_cases nj:r<V;{
 have bg2:=bR r V;have hq:=aa Zg;rw[ds1 (aa ae9) (aa ae7) nj]at hq;simp only[jk]at hq;obtain⟨Ll,Lk⟩:=hq;subst Ll Lk;have hr:=aa HRB;simp only[jk]at hr;obtain⟨ya,vY,Rn⟩:=hr;replace ya:=ya.C;replace Rn:=Rn.C;subst ya vY Rn;let⟨c1,f1⟩:=aa vW r (aM (aa X));let⟨c2,f2⟩:=aa vW a (aM (aa X));let⟨p1,Z⟩:=aZ M[r]!;let⟨p2,tF⟩:=aZ M[a]!;rw[Z]at c1;rw[tF]at c2;let⟨tt,ct⟩:=Ig (q:=(Ad blk (off+r))) (u:=.U p2) c2;have yh:=af (vW.swap (i:=r) (j:=a) (aM (aa X)) (aM (aa X)) tF.C Z.C);have zF:=af (iD (iD Q7 (iF _ blk (off+r) (.U p2))) (iF _ blk (off+a) (.U p1)));have l1:=bR r N;have l2:=bR a N;have l3:=gr 0 r;have l4:=gr 0 a
 go_wp21
 go_region
 go_wp2;go_ret2;exact⟨rfl,yh,gp (gp zF)⟩};{
 have bg2:=fG r V;have hq:=aa Zg;rw[ds2 (aa ae9) (aa ae7) nj ae ae ae]at hq;have SQ:=af hq;let⟨c1,f1⟩:=aa vW V (aM (aa X));let⟨c2,f2⟩:=aa vW r (aM (aa X));let⟨p1,Z⟩:=aZ M[V]!;let⟨p2,tF⟩:=aZ M[r]!;rw[Z]at c1;rw[tF]at c2;let⟨tt,ct⟩:=Ig (q:=(Ad blk (off+V))) (u:=.U p2) c2;have yh:=af (vW.swap (i:=V) (j:=r) (aM (aa X)) (aM (aa X)) tF.C Z.C);have zF:=af (iD (iD Q7 (iF _ blk (off+V) (.U p2))) (iF _ blk (off+r) (.U p1)));have l1:=bR V N;have l2:=bR r N;have l3:=gr 0 V;have l4:=gr 0 r;obtain⟨m5,em5⟩:∃m:Nat,(r:Int)-1=(m:Int):=⟨r-1,ae⟩;have bp9:r-1=m5:=ae;rw[bp9]at SQ;have Td:O ((swp M V r).size=N):=by show _=_;rw[size_swp];exact aa X
 go_wp21
 go_region
 go_wp2;go_roundw;exact⟨V+1,m5,_,by first|rfl|go_num,by first|rfl|go_num,ae,ae,ae,Td,yh,SQ,gp (gp zF)⟩
 case measure=>simp[intOf];omega}}}}}}}
end iZ
namespace iZ
open Go.Sort
variable {a j i i2 j2:Nat}{d:Array Int}
theorem ds3(o:scanUp (λx=>!ltInt d[a]! x) d j i=i2)(m:scanDown (λx=>ltInt d[a]! x) d i2 j=j2)(h:j2<i2):partEqLoop ltInt a i j d=(i2,d):=by
 rw[partEqLoop];simp only[o,m];rw[aK h]
theorem ds4(q:scanUp (λx=>!ltInt d[a]! x) d j i=i2)(o:scanDown (λx=>ltInt d[a]! x) d i2 j=j2)(h:¬j2<i2)(s:i<=i2)(r:j2<=j)(m:0<i2):partEqLoop ltInt a i j d=partEqLoop ltInt a (i2+1) (j2-1) (swp d i2 j2):=by
 rw[partEqLoop];simp only[q,o];rw[aJ h,XF ae]
variable {w:G}
theorem dr8{blk off cap N a b piv:Nat}(hN:O (d.size=N))(h:HU w blk off d)(EF:a<=piv)(hpb:piv<b)(hb:b<=N)(gK:N<=2^20):dQ dG 233 #[.S (Ad blk off) N cap,.I a,.I b,.I piv] w λe w'=>e=dR (.I (partitionEqual ltInt d a b piv).1)/\HU w' blk off (partitionEqual ltInt d a b piv).2/\jG w w' blk:=by
 obtain⟨⟨Q1,Q2⟩,eR⟩:∃R,partitionEqual ltInt d a b piv=R:=⟨_,rfl⟩;rw[eR];have nw:=aa hN;obtain⟨B1,eB1⟩:∃x:Nat,(b:Int)-1=(x:Int):=⟨b-1,ae⟩;have Vx:b-1=B1:=ae;have wB:=iw B1;let⟨ca,fa⟩:=h a ae;let⟨cp,fp⟩:=h piv ae;let⟨u,eu⟩:=aZ d[a]!;let⟨v,ev⟩:=aZ d[piv]!;have SJ:=af (h.swap (i:=a) (j:=piv) ae ae ev.C eu.C);rw[eu]at ca;rw[ev]at cp;let⟨tt,ct⟩:=Ig (q:=(Ad blk (off+a))) (u:=.U v) cp;let⟨d1,Rt⟩:=aZ (swp d a piv);rw[Rt]at SJ;have DU:O (d1.size=N):=by show _=_;rw[<-Rt,size_swp];exact nw
 have HG:=af (iD (iF w blk (off+a) (.U v)) (iF _ blk (off+piv) (.U u)));have EQ:O (partEqLoop ltInt a (a+1) B1 d1=(Q1,Q2)):=by show _=_;rw[<-eR,partitionEqual,Rt,Vx]
 have kk1:=bR a N;have kk2:=bR piv N;go_in
 go_wp21
 go_region
 go_wp21
 go_loopw[9,10](λs9 Ah wr=>∃(i j:Nat)(r:Array Int),s9=.I i/\Ah=.I j/\a+1<=i/\i<=j+2/\j<=B1/\O (r.size=N)/\O (HU wr blk off r)/\O (partEqLoop ltInt a i j r=(Q1,Q2))/\O (jG w wr blk)) (λs9 Ah _=>jN (intOf Ah+2-intOf s9))
 exact⟨a+1,B1,_,by first|rfl|go_num,by first|rfl|go_num,ae,ae,ae,DU,SJ,EQ,gp HG⟩;{
 obtain⟨i,j,r,rfl,rfl,z1,z2,z3,E,vX,Zg,Jb⟩:=hrel;let⟨y,ey⟩:=aZ r[a]!;have Z:=af ey;obtain⟨I4,eI4⟩:∃iI,scanUp (λx=>!ltInt r[a]! x) r j i=iI:=⟨_,rfl⟩;obtain⟨J5,eJ5⟩:∃iJ,scanDown (λx=>ltInt r[a]! x) r I4 j=iJ:=⟨_,rfl⟩;have EI4:=af eI4;have EJ5:=af eJ5;have W:=EI4;have X:=EJ5
 go_wp21
 let⟨iY,eY⟩:=aF wr;subst eY
 go_loopw[9](λs wr=>∃o:Nat,s=.I o/\i<=o/\o<=j+2/\O (HU wr blk off r)/\O (scanUp (λx=>!ltInt r[a]! x) r j o=I4)/\O (jG w wr blk)) (λs _=>j+1-(jN (intOf s)))
 exact⟨i,by first|rfl|go_num,ae,ae,vX,EI4,Jb⟩;{
 obtain⟨o,rfl,qa4,qb4,Be,Nh,Zp⟩:=hrel;obtain⟨Bc,DJ⟩:∃B,(dD (o<=j)&&((λx=>!ltInt r[a]! x) r[o]!))=B:=⟨_,rfl⟩;have M:=af DJ
 go_wp21
 go_cut[43](λrv wc=>rv=jO Bc/\wc=wr.drew)
 case first=>(
 have CP:=Vy (l:=λx y=>ltInt y x) (f:=not) M E Be Z ae ae;exact Vz)
 obtain⟨rfl,rfl⟩:=hcut;cases Bc with
 |true=>
  let⟨hn,hle⟩:=aI7 M Nh;go_wp2;go_roundw;exact⟨o+1,by go_num,ae,ae,Be.drew,hn,gp Zp⟩;exact dh
 |false=>
  obtain rfl:=aI6 M Nh
  go_wp21
  go_loopw[10](λs wr=>∃D:Nat,s=.I D/\o<=D+2/\D<=j/\O (HU wr blk off r)/\O (scanDown (λx=>ltInt r[a]! x) r o D=J5)/\O (jG w wr blk)) (λs _=>jN (intOf s))
  exact⟨j,by first|rfl|go_num,ae,ae,Be,EJ5,(gp Zp)⟩;{
 obtain⟨D,rfl,qa5,qb5,V,Zs,Q7⟩:=hrel;obtain⟨Bc,DJ⟩:∃B,(dD (o<=D)&&((λx=>ltInt r[a]! x) r[D]!))=B:=⟨_,rfl⟩;have M:=af DJ
 go_wp21
 go_cut[59](λrv wc=>rv=jO Bc/\wc=wr.drew)
 case first=>(
 have CP:=Vy (l:=λx y=>ltInt y x) (f:=λb=>b) M E V Z ae ae;exact Vz)
 obtain⟨rfl,rfl⟩:=hcut;cases Bc with
 |true=>
  let⟨hle,m,em,hn⟩:=bs8 M Zs ae;go_wp2;go_roundw;exact⟨m,by first|rfl|go_num,ae,ae,V.drew,hn,gp Q7⟩;exact dh
 |false=>
  obtain rfl:=bs7 M Zs ae;by_cases nj:D<o;{have bg2:=bR D o;have hq:=aa Zg;rw[ds3 (aa W) (aa X) nj]at hq;simp only[jk]at hq;obtain⟨Ll,Lk⟩:=hq;subst Ll Lk;go_wp2;go_ret;exact⟨rfl,V,gp Q7⟩};{
 have bg2:=fG D o;have hq:=aa Zg;rw[ds4 (aa W) (aa X) nj ae ae ae]at hq;have SQ:=af hq;let⟨c1,f1⟩:=aa V o (aM (aa E));let⟨c2,f2⟩:=aa V D (aM (aa E));let⟨p1,tG⟩:=aZ r[o]!;let⟨p2,tF⟩:=aZ r[D]!;rw[tG]at c1;rw[tF]at c2;let⟨tt,ct⟩:=Ig (q:=(Ad blk (off+o))) (u:=.U p2) c2;have yh:=af (V.swap (i:=o) (j:=D) (aM (aa E)) (aM (aa E)) tF.C tG.C);have zF:=af (iD (iD Q7 (iF _ blk (off+o) (.U p2))) (iF _ blk (off+D) (.U p1)));have l1:=bR o N;have l2:=bR D N;have l3:=gr 0 o;have l4:=gr 0 D;obtain⟨m5,em5⟩:∃m:Nat,(D:Int)-1=(m:Int):=⟨D-1,ae⟩;have bp9:D-1=m5:=ae;rw[bp9]at SQ;have Td:O ((swp r o D).size=N):=by show _=_;rw[size_swp];exact aa E
 go_wp21
 go_region
 go_wp2;go_roundw;exact⟨o+1,m5,_,by first|rfl|go_num,by first|rfl|go_num,ae,ae,ae,Td,yh,SQ,gp (gp zF)⟩
 case measure=>simp[intOf];omega}}}}
end iZ
namespace iZ
open Go.Sort
variable {d:Array Int}{i b:Nat}
theorem dd1(h:i<b)(j:ltInt d[i]! d[i-1]! = dF):scanSorted ltInt d b i=scanSorted ltInt d b (i+1):=by
 rw[scanSorted,aK (by simp[h,j])]
theorem dd0(h:¬i<b\/ltInt d[i]! d[i-1]! = dY):scanSorted ltInt d b i=i:=by
 rw[scanSorted,aJ];obtain h|h:=h;{simp;omega};{simp[h]}
theorem bQ0:∀(j:Nat)(d:Array Int),(shiftDown ltInt j d).size=d.size
 |0,d=>rfl
 |j+1,d=>by rw[shiftDown];split;{rfl};{rw[bQ0 j,size_swp]}
theorem db1(b:Nat):∀(k j:Nat)(d:Array Int),b-j<=k->(shiftUp ltInt b j d).size=d.size:=by
 intro k
 induction k with
 |zero=>intro j d h;rw[shiftUp,aJ ae]
 |succ k ih=>
  intro j d h;rw[shiftUp];split;{split;{rfl};{rw[ih _ _ ae,size_swp]}};{rfl}
variable {j:Nat}
theorem di0(h:0<j)(i:ltInt d[j]! d[j-1]! = dY):shiftDown ltInt j d=shiftDown ltInt (j-1) (swp d j (j-1)):=by
 cases j with
 |zero=>omega
 |succ j=>
  simp only[Kn]at i⊢;rw[shiftDown,aJ (by simp[i])]
theorem bP9(h:j=0\/ltInt d[j]! d[j-1]! = dF):shiftDown ltInt j d=d:=by
 cases j with
 |zero=>rfl
 |succ j=>
  obtain h|h:=h;{omega};{simp only[Kn]at h;rw[shiftDown,aK (by simp[h])]}
theorem db2(h:j<b)(i:ltInt d[j]! d[j-1]! = dY):shiftUp ltInt b j d=shiftUp ltInt b (j+1) (swp d j (j-1)):=by
 rw[shiftUp,aK h,aJ (by simp[i])]
theorem bM1(h:¬j<b\/ltInt d[j]! d[j-1]! = dF):shiftUp ltInt b j d=d:=by
 rw[shiftUp];obtain h|h:=h;{rw[aJ h]};{split;{rw[aK (by simp[h])]};{rfl}}
variable {a iI s:Nat}
theorem dr0(j:scanSorted ltInt d b i=iI)(h:iI=b):partialIns ltInt a b (s+1) i d=(d,dY):=by
 rw[partialIns];simp only[j];rw[aK h]
theorem pi_short(j:scanSorted ltInt d b i=iI)(h:¬iI=b)(m:b-a<50):partialIns ltInt a b (s+1) i d=(d,dF):=by
 rw[partialIns];simp only[j];rw[aJ h,aK m]
theorem pi_go(q:scanSorted ltInt d b i=iI)(h:¬iI=b)(r:¬b-a<50){m j o:Array Int}(y:swp d iI (iI-1)=m)(x:(if iI-a>=2 then shiftDown ltInt (iI-1) m else m)=j)(u:(if b-iI>=2 then shiftUp ltInt b (iI+1) j else j)=o):partialIns ltInt a b (s+1) i d=partialIns ltInt a b s iI o:=by
 rw[partialIns];simp only[q];rw[aJ h,aJ r,y,x,u]
variable {w:G}
theorem dr7{blk off cap N a b:Nat}(hN:O (d.size=N))(h:HU w blk off d)(yS:a<b)(hb:b<=N)(gK:N<=2^20):dQ dG 231 #[.S (Ad blk off) N cap,.I a,.I b] w λe w'=>e=dR (jO (partialInsertionSort ltInt d a b).2)/\HU w' blk off (partialInsertionSort ltInt d a b).1/\jG w w' blk:=by
 obtain⟨⟨R1,R2⟩,eR⟩:∃R,partialInsertionSort ltInt d a b=R:=⟨_,rfl⟩;rw[eR];have ER:O (partialIns ltInt a b 5 (a+1) d=(R1,R2)):=eR;have H0:=af h;obtain⟨Lz,eL⟩:∃x:Nat,(b:Int)-(a:Int)=(x:Int):=⟨b-a,ae⟩;have eL0:=af (show b-a=Lz by omega);have wL:=iw Lz;go_in
 go_wp21
 go_loopw[7,8](λs7 s8 wr=>∃(i s:Nat)(Z:Int)(D:Array Int),s7=.I i/\s8=.I Z/\Z+s=5/\0<=Z/\a+1<=i/\i<=b/\O (D.size=N)/\O (HU wr blk off D)/\O (partialIns ltInt a b s i D=(R1,R2))/\O (jG w wr blk)) (λ_ s8 _=>jN (5-intOf s8))
 exact⟨a+1,5,0,d,by first|rfl|go_num,rfl,rfl,ae,ae,ae,hN,H0,ER,Np⟩;{
 obtain⟨i,s,Z,D,rfl,rfl,z1,z2,z3,z4,HD,hH,hQ,hG⟩:=hrel;cases s with
 |zero=>
  have hj:¬Z<5:=ae;have hq:=aa hQ;simp only[partialIns,jk]at hq;obtain⟨Ll,Lk⟩:=hq;subst Ll Lk;go_wp2;go_ret;exact⟨rfl,hH,hG⟩
 |succ t=>
  have hj:Z<5:=ae;let⟨iI,eI⟩:=aZ (scanSorted ltInt D b i);have EI:=af eI;have EI':=af eI;have nw:=aa HD
  go_wp21
  let⟨iY,eY⟩:=aF wr;subst eY
  go_loopw[7](λs7 wr=>∃i1:Nat,s7=.I i1/\a+1<=i1/\i1<=b/\O (HU wr blk off D)/\O (scanSorted ltInt D b i1=iI)/\O (jG w wr blk)) (λs7 _=>b-(jN (intOf s7)))
  exact⟨i,rfl,ae,ae,hH,EI,hG⟩;{
 obtain⟨i1,rfl,qa,qb,ri,Jd,GG⟩:=hrel;let⟨Bc,DJ⟩:=aZ (dD (i1<b)&&!ltInt D[i1]! D[i1-1]!);have qD:=af DJ;obtain⟨m,em⟩:∃m:Nat,(i1:Int)-1=(m:Int):=⟨i1-1,ae⟩;have Nt:=af (show i1-1=m by omega);have wm:=iw m
 go_wp21
 go_cut[32](λrv wc=>rv=jO Bc/\wc=wr.drew)
 case first=>(
 by_cases ky:i1<b;{
 have bf8:=bR i1 b;obtain⟨c1,-⟩:=aa ri i1 ae;obtain⟨c2,-⟩:=aa ri m ae;let⟨x,ex⟩:=aZ D[i1]!;let⟨y,V⟩:=aZ D[m]!;rw[ex]at c1;rw[V]at c2;have k1:=bR i1 N;have k2:=bR m N;have k3:=gr 0 i1;have k4:=gr 0 m;let⟨L,Vu⟩:=aZ (ltInt x y);have EL:=af Vu;have eB:Bc=(!L):=by rw[<-aa qD];simp only[Df ky,xm,aa Nt,ex,V,Vu]
 subst eB;have X:=br c1 c2;refine fK (λw'=>I w' (Ad blk (off+i1))=dU x/\I w' (Ad blk (off+m))=dU y) (by exact X) λhS=>?_;refine jh 0 1 2 3 4 5 6 7 hS ?_;refine iL 8 9 10 11 hS ?_;refine tn 12 hS ?_;refine ft 13 λKK hK=>?_;refine Fw aP aP aP aP (λ_=>GZ) (Gc) ?_;rintro r' w2⟨rfl,rfl⟩;refine⟨_,rfl,?_⟩;rw[aa EL];refine bQ hK (by exact X) λhS=>?_;refine gh 14 15 hS ?_;refine ga ?_
 go_wp21
 go_meet;exact⟨rfl,rfl⟩};{
 have bf8:=fG i1 b;obtain rfl:Bc=dF:=by rw[<-aa qD,Cb ky];rfl
 refine fK (λw'=>True) gQ λhS=>?_;refine iL 0 1 2 3 hS ?_;refine lT 4 5 6 7 hS ?_;refine lT 8 9 10 11 hS ?_;refine sn 12 hS ?_;refine sn 13 hS ?_;refine sn 14 hS ?_;refine tn 15 hS ?_;refine ga ?_
 go_wp21
 go_meet;exact⟨rfl,rfl⟩})
 obtain⟨rfl,rfl⟩:=hcut;cases Bc with
 |true=>
  have hh:i1<b/\ltInt D[i1]! D[i1-1]! = dF:=by have:=aa qD;simp only[gI,vK,Bool.not_eq_true']at this;exact this
  have hn:O (scanSorted ltInt D b (i1+1)=iI):=by show _=_;rw[<-dd1 hh.1 hh.2];exact aa Jd
  have hle:=hh.1;go_wp2;go_roundw;exact⟨i1+1,by go_num,ae,ae,ri.drew,hn,gp GG⟩;exact dh
 |false=>
  have bD:i1=iI:=by rw[<-aa Jd,dd0];have:=aa qD;simp only[Di,Iw,Bool.not_eq_false']at this;exact this
  subst bD;by_cases UZ:i1=b;{have hq:=aa hQ;rw[dr0 (aa EI') UZ,jk]at hq;obtain⟨Ll,Lk⟩:=hq;subst Ll Lk;subst UZ;go_wp2;go_ret;exact⟨rfl,ri,gp GG⟩};{
 have fj9:¬(i1:Int)=(b:Int):=ae;by_cases h5:Lz<50;{have h5':(Lz:Int)<50:=ae;have hq:=aa hQ;rw[pi_short (aa EI') UZ (aa eL0▸h5),jk]at hq;obtain⟨Ll,Lk⟩:=hq;subst Ll Lk;go_wp2;go_ret;exact⟨rfl,ri,gp GG⟩};{
 have h5':¬(Lz:Int)<50:=ae;let⟨d2,e2⟩:=aZ (swp D i1 (i1-1));obtain⟨M,e3⟩:∃x,(if i1-a>=2 then shiftDown ltInt (i1-1) d2 else d2)=x:=⟨_,rfl⟩;obtain⟨d4,e4⟩:∃x,(if b-i1>=2 then shiftUp ltInt b (i1+1) M else M)=x:=⟨_,rfl⟩;have hq:=aa hQ;rw[pi_go (aa EI') UZ (aa eL0▸h5) e2 e3 e4]at hq;have HQ:=af hq;rw[aa Nt]at e2 e3;have HD2:O (d2.size=N):=by show _=_;rw[<-e2,size_swp];exact nw
 have tK:O (M.size=N):=by show _=_;rw[<-e3];split;{rw[bQ0];exact aa HD2};{exact HD2}
 have JH:O (d4.size=N):=by show _=_;rw[<-e4];split;{rw[db1 b _ _ _ az];exact aa tK};{exact tK}
 let⟨c1,f1⟩:=aa ri i1 ae;let⟨c2,f2⟩:=aa ri m ae;let⟨p1,tG⟩:=aZ D[i1]!;let⟨p2,tF⟩:=aZ D[m]!;rw[tG]at c1;rw[tF]at c2;have yh:=af (ri.swap (i:=i1) (j:=m) ae ae tF.C tG.C);rw[e2]at yh;have zF:=af (iD (iD GG (iF _ blk (off+i1) (.U p2))) (iF _ blk (off+m) (.U p1)));have l1:=bR i1 N;have l2:=bR m N;have l3:=gr 0 m;have E3:=af e3;have E4:=af e4;obtain⟨A1,eA⟩:∃x:Nat,(i1:Int)-(a:Int)=(x:Int):=⟨i1-a,ae⟩;have eA0:=af (show i1-a=A1 by omega);have wA:=iw A1;obtain⟨B1,eB1⟩:∃x:Nat,(b:Int)-(i1:Int)=(x:Int):=⟨b-i1,ae⟩;have Vx:=af (show b-i1=B1 by omega);have wB:=iw B1
 go_wp21
 go_region
 go_upto_if 61 with fail
 go_cut[9](λs9 wc=>O (HU wc blk off M)/\O (jG w wc blk))
 case first=>(
 by_cases hC:A1>=2;{
 have hC':(A1:Int)>=2:=ae;have Je:=gr 2 A1
 try simp only[Je,decide_true]
 have E3':O (shiftDown ltInt m d2=M):=by have:=aa E3;rw[aa eA0,aK hC]at this;exact this
 go_wp21
 let⟨Y2,Ru⟩:=aF wr;subst Ru
 go_loopw[9](λs9 wr=>∃(j:Nat)(u:Array Int),s9=.I j/\j<=m/\O (u.size=N)/\O (HU wr blk off u)/\O (shiftDown ltInt j u=M)/\O (jG w wr blk)) (λs9 _=>jN (intOf s9))
 exact⟨m,d2,by first|rfl|go_num,ae,HD2,by exact yh,E3',by exact gp (gp zF)⟩;{
 obtain⟨j,u,rfl,q1,KL,W,Ch,hg⟩:=hrel;by_cases YF:0<j;{
 have YE:=gr 1 j;obtain⟨q,ejm⟩:∃x:Nat,(j:Int)-1=(x:Int):=⟨j-1,ae⟩;have Rr:j-1=q:=ae;have wjm:=iw q;have QJ:=aa KL;let⟨cj,fj⟩:=aa W j ae;let⟨cm,fm⟩:=aa W q ae;let⟨y,V⟩:=aZ u[j]!;let⟨z,ez⟩:=aZ u[q]!;have Az:=af (W.swap (i:=j) (j:=q) ae ae ez.C V.C);rw[V]at cj;rw[ez]at cm;have i1':=bR j N;have i2':=bR q N;have i3':=gr 0 q;have i4':=gr 0 j;let⟨B,eB⟩:=aZ (ltInt y z);have EB:=af eB;have Hp:O (B=dF->u=M):=λhB=>by rw[<-aa Ch,bP9 (.R (by rw[Rr,V,ez,eB,hB]))]
 have Hu:O (B->shiftDown ltInt q (swp u j q)=M):=λhB=>by rw[<-aa Ch,di0 YF (by rw[Rr,V,ez,eB,hB]),Rr]
 have lD:O ((swp u j q).size=N):=by show _=_;rw[size_swp];exact QJ
 have HGs:=af (iD (iD hg (iF _ blk (off+j) (.U z))) (iF _ blk (off+q) (.U y)));have X:=br cj cm;have FF:=br fj fm
 go_wp21
 go_cut[78](λrv wc=>rv=jO (!B)/\wc=wr.drew)
 case first=>(
 refine fK (λw'=>I w' (Ad blk (off+j))=dU y/\I w' (Ad blk (off+q))=dU z) (by exact X) λhS=>?_;refine jh 0 1 2 3 4 5 6 7 hS ?_;refine tn 8 hS ?_;refine ry [9] ?_;refine cn (λKK hK=>?_) ?_;{
 refine Fw aP aP aP aP (λ_=>GZ) (Gc) ?_;rintro r w2⟨rfl,rfl⟩;refine⟨_,rfl,?_⟩;rw[aa EB];refine bQ hK (by exact X) λhS=>?_;refine tn 10 hS ?_;refine ga ?_
 go_wp21
 go_meet;exact⟨rfl,rfl⟩};exact fI)
 obtain⟨rfl,rfl⟩:=hcut;cases B with
 |false=>
  obtain rfl:=aa Hp rfl
  go_wp21
  go_meet;exact⟨W,gp hg⟩
 |true=>
  have e:=af (aa Hu rfl);let⟨cj,cm⟩:=aa X;let⟨fj,fm⟩:=aa FF
  go_wp21
  go_region
  go_wp2;go_roundw
  case rel=>(
 exact⟨q,swp u j q,by first|rfl|go_num,ae,lD,(aa Az),e,gp (gp HGs)⟩)
  case measure=>simp[intOf];omega}
 {
 have YE:¬(1:Int)<=(j:Int):=ae;obtain rfl:u=M:=by rw[<-aa Ch,bP9 (.L ae)]
 go_wp21
 go_meet;exact⟨W,hg⟩}}};{
 have hC':¬(A1:Int)>=2:=ae;have Je:¬(2:Int)<=(A1:Int):=ae
 try simp only[Je,ao1]
 have e:d2=M:=by have:=aa E3;rw[aa eA0,aJ hC]at this;exact this
 subst e
 go_wp21
 go_meet;exact⟨by exact yh,by exact gp (gp zF)⟩})
 obtain⟨vX,Jb⟩:=hcut;let⟨Y3,eY3⟩:=aF wc;subst eY3
 go_upto_if 98 with fail
 by_cases hC:B1>=2;{
 have hC':(B1:Int)>=2:=ae;have Je:=gr 2 B1
 try simp only[Je,decide_true]
 have E3':O (shiftUp ltInt b (i1+1) M=d4):=by have:=aa E4;rw[aa Vx,aK hC]at this;exact this
 go_wp21
 let⟨Y2,Ru⟩:=aF wr;subst Ru
 go_loopw[10](λAh wr=>∃(j:Nat)(u:Array Int),Ah=.I j/\i1+1<=j/\j<=b/\O (u.size=N)/\O (HU wr blk off u)/\O (shiftUp ltInt b j u=d4)/\O (jG w wr blk)) (λAh _=>b-(jN (intOf Ah)))
 exact⟨i1+1,M,by first|rfl|go_num,ae,ae,tK,by exact vX,E3',by exact Jb⟩;{
 obtain⟨j,u,rfl,q1,q2,KL,W,Ch,hg⟩:=hrel;by_cases YF:j<b;{
 have YE:=bR j b;obtain⟨q,ejm⟩:∃x:Nat,(j:Int)-1=(x:Int):=⟨j-1,ae⟩;have Rr:j-1=q:=ae;have wjm:=iw q;have QJ:=aa KL;let⟨cj,fj⟩:=aa W j ae;let⟨cm,fm⟩:=aa W q ae;let⟨y,V⟩:=aZ u[j]!;let⟨z,ez⟩:=aZ u[q]!;have Az:=af (W.swap (i:=j) (j:=q) ae ae ez.C V.C);rw[V]at cj;rw[ez]at cm;have i1':=bR j N;have i2':=bR q N;have i3':=gr 0 q;have i4':=gr 0 j;let⟨B,eB⟩:=aZ (ltInt y z);have EB:=af eB;have Hp:O (B=dF->u=d4):=λhB=>by rw[<-aa Ch,bM1 (.R (by rw[Rr,V,ez,eB,hB]))]
 have Hu:O (B->shiftUp ltInt b (j+1) (swp u j q)=d4):=λhB=>by rw[<-aa Ch,db2 YF (by rw[Rr,V,ez,eB,hB]),Rr]
 have lD:O ((swp u j q).size=N):=by show _=_;rw[size_swp];exact QJ
 have HGs:=af (iD (iD hg (iF _ blk (off+j) (.U z))) (iF _ blk (off+q) (.U y)));have X:=br cj cm;have FF:=br fj fm
 go_wp21
 go_cut[116](λrv wc=>rv=jO (!B)/\wc=wr.drew)
 case first=>(
 refine fK (λw'=>I w' (Ad blk (off+j))=dU y/\I w' (Ad blk (off+q))=dU z) (by exact X) λhS=>?_;refine jh 0 1 2 3 4 5 6 7 hS ?_;refine tn 8 hS ?_;refine ry [9] ?_;refine cn (λKK hK=>?_) ?_;{
 refine Fw aP aP aP aP (λ_=>GZ) (Gc) ?_;rintro r w2⟨rfl,rfl⟩;refine⟨_,rfl,?_⟩;rw[aa EB];refine bQ hK (by exact X) λhS=>?_;refine tn 10 hS ?_;refine ga ?_
 go_wp21
 go_meet;exact⟨rfl,rfl⟩};exact fI)
 obtain⟨rfl,rfl⟩:=hcut;cases B with
 |false=>
  obtain rfl:=aa Hp rfl;go_wp2;go_roundw
  case rel=>(
 exact⟨i1,t,Z+1,_,rfl,by first|rfl|go_num,ae,ae,ae,ae,JH,W,HQ,gp hg⟩)
  case measure=>simp[intOf];omega
 |true=>
  have e:=af (aa Hu rfl);let⟨cj,cm⟩:=aa X;let⟨fj,fm⟩:=aa FF
  go_wp21
  go_region
  go_wp2;go_roundw
  case rel=>(
 exact⟨j+1,swp u j q,by first|rfl|go_num,ae,ae,lD,(aa Az),e,gp (gp HGs)⟩)
  case measure=>simp[intOf];omega}
 {
 have YE:=fG j b;obtain rfl:u=d4:=by rw[<-aa Ch,bM1 (.L YF)]
 go_wp2;go_roundw
 case rel=>(
 exact⟨i1,t,Z+1,_,rfl,by first|rfl|go_num,ae,ae,ae,ae,JH,W,HQ,hg⟩)
 case measure=>simp[intOf];omega}}}
 {
 have hC':¬(B1:Int)>=2:=ae;have Je:¬(2:Int)<=(B1:Int):=ae
 try simp only[Je,ao1]
 have e:M=d4:=by have:=aa E4;rw[aa Vx,aJ hC]at this;exact this
 subst e;go_wp2;go_roundw
 case rel=>(
 exact⟨i1,t,Z+1,_,rfl,by first|rfl|go_num,ae,ae,ae,ae,JH,by exact vX,HQ,by exact Jb⟩)
 case measure=>simp[intOf];omega}}}}}
end iZ
namespace iZ
open Go.Sort
structure DV(w:G)(g:Nat)(S:Int):Prop where
 cell:I w (Ad g 0)=dI S
 T:jF w (Ad g 0)=dF
variable {w:G}{g:Nat}{S:Int}
theorem DV.drew(h:DV w g S):DV w.drew g S:=⟨h.cell,h.T⟩
theorem DV.set{S T:Int}(h:DV w g S):DV (jS w (Ad g 0) (.I T)) g T:=
 ⟨P8 _ _ _ h.cell,by rw[Ej];exact h.T⟩
variable {d:Array Int}{v:dV}
theorem HU.aside{blk off g o:Nat}(h:HU w blk off d)(i:g≠blk):HU (jS w (Ad g o) v) blk off d:=
 h.kept (fN _ _ _ _ (λe=>i (by simpa using e.C)))
theorem aQ0{blk off cap N g x y:Nat}(V:O (d.size=N))(h:HU w blk off d)(hx:x<N)(hy:y<N)(gK:N<=2^20)(hg:g≠blk)(hc:DV w g S)(hS:0<=S)(AW:S<=1000):dQ dG 259 #[.S (Ad blk off) N cap,.I x,.I y,Pz g] w λe w'=>
   ∃(m j:Nat)(S':Int),e=dR (dT #[.I m,.I j])/\((m=x/\j=y)\/(m=y/\j=x))/\S<=S'/\S'<=S+1/\DV w' g S'/\HU w' blk off d/\jG w w' g:=by
 have nw:=aa V;obtain⟨r,-⟩:=h x ae;obtain⟨q,-⟩:=h y ae;let⟨u,W⟩:=aZ d[x]!;let⟨v,ev⟩:=aZ d[y]!;rw[W]at r;rw[ev]at q;have k1:=bR x N;have k2:=bR y N;let⟨B,X⟩:=aZ (ltInt v u);have Z:=af X;have s:=br r q;have D:=af h;have M:=af hc;have nE:=hc.cell;have kn:=hc.T;go_in
 go_wp21
 go_cut[18](λrv wc=>rv=jO B/\wc=w.drew)
 case first=>(
 refine fK (λw'=>I w' (Ad blk (off+x))=dU u/\I w' (Ad blk (off+y))=dU v) (by exact s) λhS=>?_;refine jh 0 1 2 3 4 5 6 7 hS ?_;refine ry [8] ?_;refine cn (λKK hK=>?_) ?_;{
 refine Fw aP aP aP aP (λ_=>GZ) (Gc) ?_;rintro r' w2⟨rfl,rfl⟩;refine⟨_,rfl,?_⟩;rw[aa Z];refine bQ hK (by exact s) λhS=>?_;refine ga ?_
 go_wp21
 go_meet;exact⟨rfl,rfl⟩};exact fI)
 obtain⟨rfl,rfl⟩:=hcut;cases B with
 |true=>
  go_wp2;go_ret2;exact⟨y,x,S+1,rfl,.R ⟨rfl,rfl⟩,ae,ae,M.drew.set,(D.drew).aside hg,iD (gp (Np)) (iF _ g 0 _)⟩
 |false=>
  go_wp2;go_ret2;exact⟨x,y,S,rfl,.L ⟨rfl,rfl⟩,ae,ae,M.drew,D.drew,gp (Np)⟩
theorem aR4{blk off cap N g x y z:Nat}(u:O (d.size=N))(h:HU w blk off d)(hx:x<N)(hy:y<N)(hz:z<N)(B:N<=2^20)(s:g≠blk)(hc:DV w g S)(hS:0<=S)(AW:S<=900):dQ dG 251 #[.S (Ad blk off) N cap,.I x,.I y,.I z,Pz g] w λe w'=>
   ∃(m:Nat)(S':Int),e=dR (.I m)/\(m=x\/m=y\/m=z)/\S<=S'/\S'<=S+3/\DV w' g S'/\HU w' blk off d/\jG w w' g:=by
 have H0:=af h;have C0:=af hc;go_in
 go_wp21
 refine(aQ0 u H0 hx hy B s C0 hS ae).h ?_;rintro e w1⟨W,V,S1,rfl,r,s1,s2,gL,ri,dw⟩;have C1:=af gL;have H1:=af ri;have G1:=af dw;have XY:=af r;have o:W<N:=ae;have j:V<N:=ae
 go_wp21
 refine(aQ0 u H1 j hz B s C1 ae ae).h ?_;rintro e w2⟨R,z2,S2,rfl,q,s3,s4,ju,Z,dz⟩;have C2:=af ju;have H2:=af Z;have G2:=af dz;have YZ:=af q;have i:R<N:=ae
 go_wp21
 refine(aQ0 u H2 o i B s C2 ae ae).h ?_;rintro e w3⟨x3,M,S3,rfl,D,s5,s6,Gu,X,pX⟩;have C3:=af Gu;have H3:=af X;have G3:=af pX;have E:=af D;go_wp2;go_ret;exact⟨M,S3,rfl,by have:=aa XY;have:=aa YZ;have:=aa E;omega,ae,ae,C3,H3,iD G1 (iD G2 G3)⟩
theorem aR5{blk off cap N g x:Nat}(R:O (d.size=N))(h:HU w blk off d)(hx:1<=x)(Av:x+1<N)(W:N<=2^20)(E:g≠blk)(hc:DV w g S)(M:0<=S)(AW:S<=900):dQ dG 250 #[.S (Ad blk off) N cap,.I x,Pz g] w λe w'=>
   ∃(m:Nat)(S':Int),e=dR (.I m)/\x<=m+1/\m<=x+1/\S<=S'/\S'<=S+3/\DV w' g S'/\HU w' blk off d/\jG w w' g:=by
 have H0:=af h;have C0:=af hc;obtain⟨m,em⟩:∃m:Nat,(x:Int)-1=(m:Int):=⟨x-1,ae⟩;obtain⟨n,en⟩:∃n:Nat,(x:Int)+1=(n:Int):=⟨x+1,ae⟩;have wm:=iw m;have wn:=iw n;have B:m<N:=ae;have y:n<N:=ae;have j:x<N:=ae;go_in
 go_wp21
 refine(aR4 R H0 B j y W E C0 M AW).h ?_;rintro e w1⟨r,Z,rfl,D,s,o,V,u,X⟩;have C1:=af V;have H1:=af u;have G1:=af X;have i:=af D;go_wp2;go_ret;exact⟨r,Z,rfl,aM (aa i),aM (aa i),s,o,C1,H1,G1⟩
end iZ
namespace iZ
open Go.Sort
variable {w:G}{o:Obj}{row:Option Nat}
theorem bm4:jG w (jA w o) row:=Xw w o row
variable {g:Nat}
theorem bm2{w1 j:G}(h:jG w w1 row)(k:jG w1 j g)(q:U (Q w)<=g):jG w j row:=
 ⟨k.os.Z h.os,k.tape.Z h.tape,k.output.Z h.output,fx h.size k.size,λi m o=>(k.block i (mj m h.size) (λe=>by
  have:i=g:=by simpa using e
  omega)).Z (h.block i m o)⟩
variable {d:Array Int}
theorem HU.alloc{blk off:Nat}(h:HU w blk off d)(i:blk<U (Q w))(o:Obj):HU (jA w o) blk off d:=
 h.kept (RowKit.Below.heap_alloc w o blk i)
theorem dq9{blk off cap N a b:Nat}(o:O (d.size=N))(h:HU w blk off d)(nQ:blk<U (Q w))(Z:a+8<=b)(hb:b<=N)(q:N<=2^20):dQ dG 229 #[.S (Ad blk off) N cap,.I a,.I b] w λe w'=>
   ∃(p:Nat)(t:Int),e=dR (dT #[.I p,.I t])/\a<=p/\p<b/\HU w' blk off d/\jG w w' blk:=by
 obtain⟨L,eL⟩:∃x:Nat,(b:Int)-(a:Int)=(x:Int):=⟨b-a,ae⟩;have wL:=iw L;let⟨i,V⟩:=aZ (L / 4);have eQ1:Int.tdiv (L:Int) 4=(i:Int):=V▸(aT9 L 4).C;have eQ2:(L:Int) / 4=(i:Int):=ae;have wQ:=iw i;have wQ2:jY jV ((i:Int)*2)=(i:Int)*2:=l8 _ ae;have wQ3:jY jV ((i:Int)*3)=(i:Int)*3:=l8 _ ae;obtain⟨y,eI⟩:∃x:Nat,(a:Int)+(i:Int)=(x:Int):=⟨a+i,ae⟩;obtain⟨u,eJ⟩:∃x:Nat,(a:Int)+(i:Int)*2=(x:Int):=⟨a+i*2,ae⟩;obtain⟨K,eK⟩:∃x:Nat,(a:Int)+(i:Int)*3=(x:Int):=⟨a+i*3,ae⟩;have wI:=iw y;have wJ:=iw u;have wK:=iw K;have bI:a+2<=y/\y+6<=b:=ae;have bJ:a+2<=u/\u+2<b:=ae;have bK:a+2<=K/\K+1<b:=ae;have h8:=gr 8 L;have j:U (Q w)≠blk:=ae;have W:=af (h.alloc nQ (dO #[.I 0] 3));have X:O (DV (jA w (dO #[.I 0] 3)) (U (Q w)) 0):=⟨ai,ai⟩;have HL:=br V Z;go_in;by_cases Li:(50:Int)<=(L:Int);{
 go_wp21
 refine(aR5 o W ae ae q j X ae ae).h ?_;rintro e w1⟨i1,S1,rfl,p1,p2,s1,s2,gL,ri,dw⟩;have C1:=af gL;have H1:=af ri;have G1:=af dw
 go_wp21
 refine(aR5 o H1 ae ae q j C1 ae ae).h ?_;rintro e w2⟨j1,S2,rfl,p3,p4,s3,s4,ju,tC,dz⟩;have C2:=af ju;have H2:=af tC;have G2:=af dz
 go_wp21
 refine(aR5 o H2 ae ae q j C2 ae ae).h ?_;rintro e w3⟨k1,S3,rfl,p5,p6,s5,s6,Gu,vX,pX⟩;have C3:=af Gu;have H3:=af vX;have G3:=af pX
 go_wp21
 refine(aR4 o H3 ae ae ae q j C3 ae ae).h ?_;rintro e w4⟨m,S4,rfl,hm,s7,s8,R,E,s⟩;have B:=af E;have D:=af (bm2 (bm4 (w:=w) (row:=Y blk)) (iD G1 (iD G2 (iD G3 s))) az);have M:a<=m/\m<b:=ae;have r:=af M;have nE:=R.cell;go_wp2
 all_goals
  go_ret2;exact⟨m,_,rfl,r.1,r.2,B,D⟩};{
 go_wp21
 refine(aR4 o W ae ae ae q j X ae ae).h ?_;rintro e w4⟨m,S4,rfl,hm,s7,s8,R,E,s⟩;have B:=af E;have D:=af (bm2 (bm4 (w:=w) (row:=Y blk)) s az);have M:a<=m/\m<b:=ae;have r:=af M;have nE:=R.cell;go_wp2
 all_goals
  go_ret2;exact⟨m,_,rfl,r.1,r.2,B,D⟩}
end iZ
namespace iZ
open Go.Sort
theorem dq6:∀x:Nat,0<x->x<2 ^ 64->2 ^ (Lib.bitLen x)<=2*x:=by
 intro x
 induction x using Nat.strongRecOn with
 |_ x ih=>
  intro j h;rw[Lib.bitLen_half x ae h,aV4,XI];by_cases i:x=1;{subst i;decide};{have:=ih (x / 2) ae ae ae;omega}
theorem da3(h:i<Lib.len8tab.size):(Lib.len8tab[i]).toNat=Lib.bitLen i/\Lib.bitLen i<=8:=by
 have o:=h;rw[Lib.len8tab_size]at o;have m:=Lib.len8_of (i:Int) ae ae;have j:=Lib.bitLen_le8' (i:Int) ae ae;simp only[Lib.len8,sC,ByteArray.getElem?_lt' _ _ h,ta]at m j;omega
variable {i:Int}{m:Nat}
theorem aJ7(e:i.toNat=m)(h:i.toNat<Lib.len8tab.size):((Lib.len8tab[i.toNat]).toNat:Int)=(Lib.bitLen m:Int)/\Lib.bitLen m<=8:=by
 subst e;have:=da3 h;omega
variable {w:G}{n:Nat}
theorem dC2(o:Mg n):dQ dG 236 #[.U n] w λe w'=>e=dR (.I (Lib.bitLen n))/\w'=w:=by
 obtain⟨x,ex⟩:∃x:Int,(n:Int)=x:=⟨_,rfl⟩;have y:0<=x:=ae;have u:x<=2^20:=ae;rw[ex];have q:=br ex o;clear ex o;go_in;go_wp2
 all_goals(try(exfalso;simp only[Lib.len8tab_size]at*;omega))
 all_goals(go_ret;refine⟨tg Ending.returned (tg (Value.int jV) ?_),rfl⟩)
 {let⟨ex,o⟩:=aa q;let⟨j,r⟩:=aJ7 (i:=x / 65536) (m:=n / 65536) ae ae;have s:=Lib.bitLen_shift16 n ae ae;rw[j,PM (Lib.bitLen _:Int) ae,PM _ ae];omega};{let⟨ex,o⟩:=aa q;let⟨j,r⟩:=aJ7 (i:=x / 256) (m:=n / 256) ae ae;have s:=Lib.bitLen_shift8 n ae ae;rw[j,PM (Lib.bitLen _:Int) ae,PM _ ae];omega};{let⟨ex,o⟩:=aa q;let⟨j,r⟩:=aJ7 (i:=x) (m:=n) ae ae;rw[j,PM (Lib.bitLen _:Int) ae,PM _ ae]}
theorem aW8(i:Mg n)(w:G):dQ dG 218 #[.U n] w λe w'=>e=dR (.I (Lib.bitLen n))/\w'=w:=by
 go_in
 go_wp21
 refine(dC2 i).h ?_;rintro e w'⟨rfl,rfl⟩;go_wp2;go_ret;exact⟨rfl,rfl⟩
theorem dw6(y:0<n)(u:Mg n):dQ dG 248 #[.I n] w λe w'=>∃M:Nat,e=dR (.U M)/\0<M/\M<=2*n/\w'=w:=by
 have hK:Lib.bitLen n<=21:=Lib.bitLen_le n 21 ae ae;have i:=dq6 n y ae;have q:=aW8 u;generalize Lib.bitLen n=K at hK i q;let⟨M,j⟩:=aZ (2 ^ K);have r:0<M:=j▸Nat.two_pow_pos K;rw[j]at i;have o:((2:Int) ^ K)=(M:Int):=by rw[<-j];push_cast;rfl
 have s:jY jU ((2:Int) ^ K)=(M:Int):=by rw[o,uW];omega
 have m:=af i;have x:=af r;clear i r j o;go_in
 go_wp21
 refine(q _).h ?_;rintro e w'⟨rfl,rfl⟩;go_wp2;go_ret;exact⟨M,by first|rfl|simp only[s],x,m,rfl⟩
theorem dy1{g X:Nat}(o:X<2^64)(hc:I w (Ad g 0)=dU X)(hf:jF w (Ad g 0)=dF):dQ dG 249 #[Pz g] w λe w'=>∃C:Nat,e=dR (.U C)/\C<2^64/\I w' (Ad g 0)=dU C/\jF w' (Ad g 0)=dF/\jG w w' g:=by
 obtain⟨A,m,N⟩:∃A:Nat,A<2^64/\bits .xor jU (X:Int) (jY jU ((X:Int)*8192))=(A:Int):=by refine⟨X ^^^ (X*8192 % 18446744073709551616),XE (n:=64) ae ae,?_⟩;rw[uW,show((X:Int)*8192 % 18446744073709551616)=((X*8192 % 18446744073709551616:Nat):Int) by omega,aS2 _ _ o ae]
 obtain⟨B,j,M⟩:∃B:Nat,B<2^64/\bits .xor jU (A:Int) ((A:Int) / 128)=(B:Int):=by refine⟨A ^^^ (A / 128),XE (n:=64) ae ae,?_⟩;rw[show((A:Int) / 128)=((A / 128:Nat):Int) by omega,aS2 _ _ m ae]
 obtain⟨C,i,E⟩:∃C:Nat,C<2^64/\bits .xor jU (B:Int) (jY jU ((B:Int)*131072))=(C:Int):=by refine⟨B ^^^ (B*131072 % 18446744073709551616),XE (n:=64) ae ae,?_⟩;rw[uW,show((B:Int)*131072 % 18446744073709551616)=((B*131072 % 18446744073709551616:Nat):Int) by omega,aS2 _ _ j ae]
 have s:=P8 w (Ad g 0) (.U A) hc;have r:=P8 _ (Ad g 0) (.U B) s;have q:=P8 _ (Ad g 0) (.U C) r;have x:=af (iD (iD (iF w g 0 (.U A)) (iF _ g 0 (.U B))) (iF _ g 0 (.U C)));have y:O (jF (jS (jS (jS w (Ad g 0) (.U A)) (Ad g 0) (.U B)) (Ad g 0) (.U C)) (Ad g 0)=dF):=by show _=_;simp only[Ej];exact hf
 have u:=af i;have D:=af q;clear o m j i;go_in
 go_wp21
 go_region
 go_wp21
 go_region
 go_wp21
 go_region
 go_wp2;go_ret;exact⟨C,rfl,u,by exact D,by exact y,by exact gp (gp (gp x))⟩
end iZ
namespace iZ
open Go.Sort
variable {d:Array Int}{w:G}
theorem eB8{blk off cap N a b:Nat}(hN:O (d.size=N))(h:HU w blk off d)(nQ:blk<U (Q w))(yS:a+8<=b)(hb:b<=N)(gK:N<=2^20):dQ dG 228 #[.S (Ad blk off) N cap,.I a,.I b] w λe w'=>
   e=dR (dT #[])/\∃d',HU w' blk off d'/\PermIn a b d d'/\jG w w' blk:=by
 obtain⟨L,eL⟩:∃x:Nat,(b:Int)-(a:Int)=(x:Int):=⟨b-a,ae⟩;have wL:=iw L;let⟨D,eQ⟩:=aZ (L / 4);have eQ1:Int.tdiv (L:Int) 4=(D:Int):=eQ▸(aT9 L 4).C;have eQ2:(L:Int) / 4=(D:Int):=ae;have wQ:=iw D;have wQ2:jY jV ((D:Int)*2)=(D:Int)*2:=l8 _ ae;obtain⟨s,eJ⟩:∃x:Nat,(a:Int)+(D:Int)*2=(x:Int):=⟨a+D*2,ae⟩;have wJ:=iw s;have bJ:a+2<=s/\s+2<b:=ae;have wJ1:jY jV ((s:Int)+1)=(s:Int)+1:=l8 _ ae;obtain⟨J0,eJ0⟩:∃x:Nat,(s:Int)-1=(x:Int):=⟨s-1,ae⟩;have wJ0:=iw J0;have h8:=gr 8 L;have wU:jY jU (L:Int)=(L:Int):=by rw[uW];omega
 have hg:U (Q w)≠blk:=ae;have hLb:a+L=b:=ae;have H0:=af (h.alloc nQ (dO #[.U L] 316));have HL:=br eQ yS;go_in
 go_wp21
 refine(dw6 ae ae).h ?_;rintro e w1⟨M,rfl,hM0,hM,rfl⟩;have wM:jY jU ((M:Int)-1)=(M:Int)-1:=by rw[uW];omega
 go_wp21
 go_loopw[9](λs9 wr=>∃(m R:Nat)(o:Array Int),s9=.I m/\J0<=m/\m<=s+2/\R<2^64/\O (I wr (Aw w 0)=dU R/\jF wr (Aw w 0)=dF)/\O (HU wr blk off o)/\O (PermIn a b d o)/\O (o.size=N)/\O (jG w wr blk)) (λs9 _=>s+2-(jN (intOf s9)))
 exact⟨J0,L,d,rfl,ae,ae,ae,⟨ai,ai⟩,by exact aa H0,permIn_refl d a b,hN,by exact bm4⟩;{
 obtain⟨m,R,o,rfl,z1,z2,lR,hC,hH,hP,QI,hG⟩:=hrel;by_cases YF:m<=s+1;{
 have YE:(m:Int)<=(s:Int)+1:=ae
 go_wp21
 refine(dy1 lR hC.1 hC.2).h ?_;rintro e X⟨C,rfl,lC,ju,KG,dz⟩;have C2:=br ju KG;have Z:=af (hH.kept (dz.block blk (mj nQ hG.size) (λe=>hg (by simpa using e.C))));have G2:=af (bm2 hG dz az);obtain⟨r,lO,fs2⟩:∃r:Nat,r<=M-1/\bits .and jU (C:Int) ((M:Int)-1)=(r:Int):=by refine⟨C&&& (M-1),Nat.and_le_right,?_⟩;rw[show((M:Int)-1)=((M-1:Nat):Int) by omega,bits_and_u64_nat _ _ lC ae]
 have wO:=iw r;by_cases hLO:L<=r;{
 have dZ1:=nT L r;obtain⟨P,eP⟩:∃x:Nat,(r:Int)-(L:Int)=(x:Int):=⟨r-L,ae⟩;have wP:=iw P;have bP:P<L:=ae;obtain⟨T,eT⟩:∃x:Nat,(a:Int)+(P:Int)=(x:Int):=⟨a+P,ae⟩;have wT:=iw T;have bT:a<=T/\T<b:=ae;have nw:=aa QI;let⟨c1,f1⟩:=aa Z m ae;let⟨c2,f2⟩:=aa Z T ae;let⟨B,tG⟩:=aZ o[m]!;let⟨y,tF⟩:=aZ o[T]!;rw[tG]at c1;rw[tF]at c2;let⟨tt,ct⟩:=Ig (q:=(Ad blk (off+m))) (u:=.U y) c2;have yh:=af (Z.swap (i:=m) (j:=T) ae ae tF.C tG.C);have zF:=af (iD (iD G2 (iF _ blk (off+m) (.U y))) (iF _ blk (off+T) (.U B)));have E:O (PermIn a b d (swp o m T)):=permIn_trans _ _ _ a b hP (swp_permIn o a b m T ae ae ae ae ae);have V:O ((swp o m T).size=N):=by show _=_;rw[size_swp];exact nw
 have W:O (I ((jS (jS X (Ad blk (off+m)) (.U y)) (Ad blk (off+T)) (.U B)).drew) (Aw w 0)=dU C/\jF ((jS (jS X (Ad blk (off+m)) (.U y)) (Ad blk (off+T)) (.U B)).drew) (Aw w 0)=dF):=
  ⟨(PO _ _ _ _ (by simp<;>omega)).Z ((PO _ _ _ _ (by simp<;>omega)).Z C2.1),by show World.frozen? (jS (jS X (Ad blk (off+m)) (.U y)) (Ad blk (off+T)) (.U B)) _=dF;rw[Ej,Ej];exact C2.2⟩
 have l1:=bR m N;have l2:=bR T N;have l3:=gr 0 T
 go_wp21
 go_region
 go_wp2;go_roundw;exact⟨m+1,C,swp o m T,by first|rfl|go_num,ae,ae,lC,W,by exact yh,E,V,by exact gp zF⟩;exact dh};{
 have dZ1:¬(L:Int)<=(r:Int):=ae;obtain⟨P,eP⟩:∃x:Nat,r=x:=⟨r,rfl⟩;subst eP;have bP:r<L:=ae;obtain⟨T,eT⟩:∃x:Nat,(a:Int)+(r:Int)=(x:Int):=⟨a+r,ae⟩;have wT:=iw T;have bT:a<=T/\T<b:=ae;have nw:=aa QI;let⟨c1,f1⟩:=aa Z m ae;let⟨c2,f2⟩:=aa Z T ae;let⟨B,tG⟩:=aZ o[m]!;let⟨y,tF⟩:=aZ o[T]!;rw[tG]at c1;rw[tF]at c2;let⟨tt,ct⟩:=Ig (q:=(Ad blk (off+m))) (u:=.U y) c2;have yh:=af (Z.swap (i:=m) (j:=T) ae ae tF.C tG.C);have zF:=af (iD (iD G2 (iF _ blk (off+m) (.U y))) (iF _ blk (off+T) (.U B)));have E:O (PermIn a b d (swp o m T)):=permIn_trans _ _ _ a b hP (swp_permIn o a b m T ae ae ae ae ae);have V:O ((swp o m T).size=N):=by show _=_;rw[size_swp];exact nw
 have W:O (I ((jS (jS X (Ad blk (off+m)) (.U y)) (Ad blk (off+T)) (.U B)).drew) (Aw w 0)=dU C/\jF ((jS (jS X (Ad blk (off+m)) (.U y)) (Ad blk (off+T)) (.U B)).drew) (Aw w 0)=dF):=
  ⟨(PO _ _ _ _ (by simp<;>omega)).Z ((PO _ _ _ _ (by simp<;>omega)).Z C2.1),by show World.frozen? (jS (jS X (Ad blk (off+m)) (.U y)) (Ad blk (off+T)) (.U B)) _=dF;rw[Ej,Ej];exact C2.2⟩
 have l1:=bR m N;have l2:=bR T N;have l3:=gr 0 T
 go_wp21
 go_region
 go_wp2;go_roundw;exact⟨m+1,C,swp o m T,by first|rfl|go_num,ae,ae,lC,W,by exact yh,E,V,by exact gp zF⟩;exact dh}};{have YE:¬(m:Int)<=(s:Int)+1:=ae;go_wp2;go_end0;exact⟨rfl,o,hH,hP,hG⟩}}
end iZ
namespace iZ
open Go.Sort
theorem Mc:SWO ltInt:=swo_ltInt
abbrev Left(a b a1 b1:Nat)(d dk:Array Int):Prop:=∀R,PermIn a1 b1 dk R->SortedIn ltInt a1 b1 R->PermIn a b d R/\SortedIn ltInt a b R
theorem dr3(blk off cap N:Nat)(gK:N<=2^20):∀(n a b:Nat)(XT:Int)(d:Array Int)(w:G),O (b-a=n)->O (d.size=N)->HU w blk off d->blk<U (Q w)->a<=b->b<=N->0<=XT->XT<=64->Go.Sort.Below ltInt a b d→
  dQ dG 217 #[.S (Ad blk off) N cap,.I a,.I b,.I XT] w λe w'=>
   e=dR (dT #[])/\∃d',HU w' blk off d'/\PermIn a b d d'/\SortedIn ltInt a b d'/\jG w w' blk:=by
 intro n
 induction n using Nat.strongRecOn with
 |_ n ih=>
  intro a b XT d w hn hN h nQ yS hb qL yM hB;have IH:=af ih;have H0:=af h;have B0:=af hB;go_in
  go_wp21
  go_loopw[1,2,3,8,9](λs1 s2 s3 s8 s9 wr=>∃(a1 j:Nat)(li:Int)(p q:Bool)(u:Array Int),s1=.I a1/\s2=.I j/\s3=.I li/\s8=jO p/\s9=jO q/\a<=a1/\a1<=j/\j<=b/\0<=li/\li<=64/\O (u.size=N)/\O (HU wr blk off u)/\O (Go.Sort.Below ltInt a1 j u)/\O (Left a b a1 j d u)/\O (jG w wr blk)) (λs1 s2 _ _ _ _=>jN (intOf s2-intOf s1))
  exact⟨a,b,XT,dY,dY,d,rfl,rfl,rfl,rfl,rfl,fq _,yS,fq _,qL,yM,hN,H0,B0,λR h1 h2=>⟨h1,h2⟩,Np⟩;{
 obtain⟨a1,j,li,p,q,u,rfl,rfl,rfl,rfl,rfl,z1,z2,z3,z4,z5,W,hH,hB,hF,hG⟩:=hrel;obtain⟨L,eL⟩:∃x:Nat,(j:Int)-(a1:Int)=(x:Int):=⟨j-a1,ae⟩;have wL:=iw L;have s:j<=N:=ae;by_cases Rg:L<=12;{
 have eb5:(L:Int)<=12:=ae
 go_wp21
 refine(dH6 (blk:=blk) (off:=off) (cap:=cap) (N:=N) (a:=a1) (b:=j) (d:=u) W hH z2 s gK).h ?_;rintro e w1⟨rfl,ri,dw⟩;have Z:=af ri;have HG1:=af (iD hG dw);go_wp2;refine bO (xK (h:=rfl) _ _ _) rfl ⟨rfl,_,Z,?_,?_,HG1⟩;{have:=insertionSort_holds Mc u a1 j z2 (aa W▸s);exact(aa hF _ this.1 this.2).1};{have:=insertionSort_holds Mc u a1 j z2 (aa W▸s);exact(aa hF _ this.1 this.2).2}};{
 have eb5:¬(L:Int)<=12:=ae;by_cases hli:li=0;{
 subst hli
 go_wp21
 refine(dS8 (blk:=blk) (off:=off) (cap:=cap) (N:=N) (a:=a1) (b:=j) (d:=u) W hH z2 s gK).h ?_;rintro e w1⟨rfl,ri,dw⟩;have Z:=af ri;have HG1:=af (iD hG dw);go_wp2;refine bO (xK (h:=rfl) _ _ _) rfl ⟨rfl,_,Z,?_,?_,HG1⟩;{have:=heapSort_holds Mc u a1 j z2 (aa W▸s);exact(aa hF _ this.1 this.2).1};{have:=heapSort_holds Mc u a1 j z2 (aa W▸s);exact(aa hF _ this.1 this.2).2}};{
 have h8:a1+8<=j:=ae
 go_upto_if 35 with fail
 go_cut[3](λs3 wc=>∃(lj:Int)(V:Array Int),s3=.I lj/\0<=lj/\lj<=64/\O (V.size=N)/\O (HU wc blk off V)/\O (PermIn a1 j u V)/\O (jG w wc blk))
 case first=>(
 cases p with
 |true=>
  go_wp21
  go_meet;exact⟨li,u,rfl,z4,z5,W,hH,permIn_refl u a1 j,hG⟩
 |false=>
  go_wp21
  refine(eB8 (blk:=blk) (off:=off) (cap:=cap) (N:=N) (a:=a1) (b:=j) (d:=u) W hH (mj nQ hG.size) h8 s gK).h ?_;rintro e w1⟨rfl,V,ri,Ja,dw⟩;have Z:=af ri;have LU:=af Ja;have HG1:=af (iD hG dw)
  go_wp21
  go_meet;exact⟨li-1,V,by first|rfl|go_num,ae,ae,LU.1.Z W,Z,LU,HG1⟩)
 obtain⟨lj,V,rfl,y1,y2,Ni,ri,Ja,GG⟩:=hcut;let⟨Y1,eY1⟩:=aF wc;subst eY1
 go_wp21
 refine(dq9 (blk:=blk) (off:=off) (cap:=cap) (N:=N) (a:=a1) (b:=j) (d:=V) Ni ri (mj nQ GG.size) h8 s gK).h ?_;rintro e w2⟨pv,t,rfl,v1,v2,tC,dz⟩;have Wh:=af tC;have HG2:=af (iD GG dz)
 go_upto_if 50 with fail
 go_cut[11,12](λWZ s12 wc=>∃(M:Nat)(tt:Int)(X:Array Int),WZ=.I M/\s12=.I tt/\a1<=M/\M<j/\O (X.size=N)/\O (HU wc blk off X)/\O (PermIn a1 j V X)/\O (jG w wc blk))
 case first=>(
 by_cases ht:t=2;{
 subst ht;have q1:jY jV ((j:Int)-1)=(j:Int)-1:=l8 _ ae;have q2:jY jV ((pv:Int)-(a1:Int))=(pv:Int)-(a1:Int):=l8 _ ae;obtain⟨nv,env⟩:∃x:Nat,(j:Int)-1-((pv:Int)-(a1:Int))=(x:Int):=⟨j-1-(pv-a1),ae⟩;have q3:=iw nv;have bn:a1<=nv/\nv<j:=ae
 go_wp21
 refine(dm9 (blk:=blk) (off:=off) (cap:=cap) (N:=N) (a:=a1) (b:=j) (d:=V) Ni Wh z2 s gK).h ?_;rintro e w3⟨rfl,vX,pX⟩;have HH3:=af vX;have HG3:=af (iD HG2 pX);have We:=af (reverseRange_holds V a1 j z2 (aa Ni▸s))
 go_wp21
 go_meet;exact⟨nv,1,_,rfl,rfl,bn.1,bn.2,We.1.Z Ni,HH3,We,HG3⟩};{
 have UI:(t==2)=dF:=by simp[ht]
 go_wp21
 go_meet;exact⟨pv,t,V,rfl,rfl,v1,v2,Ni,Wh,permIn_refl V a1 j,HG2⟩})
 obtain⟨M,tt,X,rfl,rfl,x1,x2,hD2,tC,ui,Lb⟩:=hcut;let⟨Y2,Ru⟩:=aF wc;subst Ru
 go_upto_region 15 with fail
 go_cut[68](λs68 wc=>∃Bq:Bool,s68=jO Bq/\wc=Y2)
 case first=>(
 cases p<;>cases q
 all_goals
  go_wp21
  go_meet;exact⟨_,rfl,rfl⟩)
 obtain⟨Bq,rfl,rfl⟩:=hcut
 go_upto_if 68 with fail
 go_cut[72](λs72 wc=>∃D:Array Int,O (D.size=N)/\O (HU wc blk off D)/\O (PermIn a1 j X D)/\O (jG w wc blk))
 case first=>(
 cases Bq with
 |false=>
  go_wp21
  go_meet;exact⟨X,hD2,tC,permIn_refl X a1 j,Lb⟩
 | true=>
  go_wp21
  refine(dr7 (blk:=blk) (off:=off) (cap:=cap) (N:=N) (a:=a1) (b:=j) (d:=X) hD2 tC ae s gK).h ?_;have fw:Go.Sort.Below ltInt a1 j X:=(hB.perm (aa W▸s) Ja).perm (aa Ni▸s) ui;have S8:=af (partialInsertionSort_holds Mc X a1 j ae (aa hD2▸s) fw);generalize partialInsertionSort ltInt X a1 j=R at S8;obtain⟨R1,R2⟩:=R;rintro e w3⟨rfl,vX,pX⟩;have HH3:=af vX;have HG3:=af (iD Lb pX);cases R2 with
  |true=>
   go_wp2;refine bO (xK (h:=rfl) _ _ _) rfl ⟨rfl,R1,HH3,?_,?_,HG3⟩;{exact(aa hF R1 (permIn_trans _ _ _ a1 j (permIn_trans _ _ _ a1 j Ja ui) S8.1) (S8.2 (by first|trivial|rfl))).1};{exact(aa hF R1 (permIn_trans _ _ _ a1 j (permIn_trans _ _ _ a1 j Ja ui) S8.1) (S8.2 (by first|trivial|rfl))).2}
  |false=>
   go_wp21
   go_meet;exact⟨R1,S8.1.1.Z hD2,HH3,S8.1,HG3⟩)
 obtain⟨D,Ra,vX,dY1,Jb⟩:=hcut;let⟨Y3,eY3⟩:=aF wc;subst eY3;have hP3:O (PermIn a1 j u D):=permIn_trans _ _ _ a1 j (permIn_trans _ _ _ a1 j Ja ui) dY1;have Nl:O (Go.Sort.Below ltInt a1 j D):=hB.perm (aa W▸s) hP3
 go_upto_region 17 with fail
 go_cut[87](λs87 wc=>∃B:Bool,s87=jO B/\O (B->0<a1/\ltInt D[a1-1]! D[M]! = dF)/\wc=Y3.drew)
 case first=>(
 by_cases ha:0<a1;{
 have xw:=rr 0 a1;have pZ:(a1:Int)>0:=ae;obtain⟨m,em⟩:∃x:Nat,(a1:Int)-1=(x:Int):=⟨a1-1,ae⟩;have Nt:a1-1=m:=ae;have wm:=iw m;have nw:=aa Ra;obtain⟨c1,-⟩:=aa vX m ae;obtain⟨c2,-⟩:=aa vX M ae;let⟨x,ex⟩:=aZ D[m]!;let⟨y,ey⟩:=aZ D[M]!;rw[ex]at c1;rw[ey]at c2;have k1:=bR m N;have k2:=bR M N;have k3:=gr 0 m;let⟨Lt,eLt⟩:=aZ (ltInt x y);have EL:=af eLt;have HX:O ((!Lt)->0<a1/\ltInt D[a1-1]! D[M]! = dF):=λaQ=>⟨ha,by rw[Nt,ex,ey,eLt];simpa using aQ⟩;have K0:=br c1 c2;refine fK (λw'=>I w' (Ad blk (off+m))=dU x/\I w' (Ad blk (off+M))=dU y) (by exact K0) λhS=>?_;refine jh 0 1 2 3 4 5 6 7 hS ?_;refine iL 8 9 10 11 hS ?_;refine ft 12 λKK hK=>?_;refine Fw aP (f:=232) aP (v1:=.U x) (v2:=.U y) aP aP (λ_=>GZ) (Gc (x:=x) (y:=y)) ?_;rintro r' Tt⟨rfl,rfl⟩;refine⟨_,rfl,?_⟩;rw[aa EL];refine bQ hK (by exact K0) λhS=>?_;refine gh 13 14 hS ?_;refine ga ?_
 go_wp21
 go_meet;exact⟨_,rfl,HX,rfl⟩};{
 have xw:¬(0:Int)<(a1:Int):=ae;refine fK (λw'=>True) gQ λhS=>?_;refine gh 0 1 hS ?_;refine tn 2 hS ?_;refine lT 3 4 5 6 hS ?_;refine lT 7 8 9 10 hS ?_;refine sn 11 hS ?_;refine sn 12 hS ?_;refine sn 13 hS ?_;refine tn 14 hS ?_;refine ga ?_
 go_wp21
 go_meet;exact⟨dF,rfl,(λh=>by cases h),rfl⟩})
 obtain⟨B,rfl,hBB,rfl⟩:=hcut;cases B with
 |true=>
  obtain⟨⟨r,d4⟩,ZL⟩:∃R,partitionEqual ltInt D a1 j M=R:=⟨_,rfl⟩;have hc:=dr8 (blk:=blk) (off:=off) (cap:=cap) (N:=N) (a:=a1) (b:=j) (piv:=M) (d:=D) Ra (w:=Y3.drew) vX x1 x2 s gK;rw[ZL]at hc;let⟨m1,m2,m3,m4,m5⟩:=round_eq Mc (partitionEqual_holds ltInt) (aa hBB rfl).1 x1 x2 (aa Ra▸s) Nl (aa hBB rfl).2 ZL;have JH:O (d4.size=N):=m3.Z Ra;have yk:=af m4;have HL4:O (Left a b r j d d4):=λR r1 r2=>by have:=m5 R r1 r2;exact hF R (permIn_trans _ _ _ a1 j hP3 this.1) this.2
  go_wp21
  refine hc.h ?_;rintro e w4⟨rfl,Be,mG⟩;have HH4:=af Be;have Wi:=af (iD (gp Jb) mG);go_wp2;go_roundw;exact⟨r,j,lj,p,q,d4,rfl,rfl,rfl,rfl,rfl,ae,ae,ae,ae,ae,JH,HH4,yk,HL4,Wi⟩;exact dh
 |false=>
  obtain⟨⟨r,ap,d4⟩,ZL⟩:∃R,partition ltInt D a1 j M=R:=⟨_,rfl⟩;have hc:=dr9 (blk:=blk) (off:=off) (cap:=cap) (N:=N) (a:=a1) (b:=j) (piv:=M) (d:=D) Ra (w:=Y3.drew) vX x1 x2 s gK;rw[ZL]at hc;let⟨m1,m2,m3,m4,m5,m6,m7⟩:=round_part Mc (partition_holds ltInt) x1 x2 (aa Ra▸s) Nl ZL;have JH:O (d4.size=N):=m3.Z Ra;have yk:=af m4;have lp:=af m5;have HL6:=af m6;have HL7:=af m7;obtain⟨lL,elL⟩:∃x:Nat,(r:Int)-(a1:Int)=(x:Int):=⟨r-a1,ae⟩;obtain⟨rL,erL⟩:∃x:Nat,(j:Int)-(r:Int)=(x:Int):=⟨j-r,ae⟩;have wlL:=iw lL;have wrL:=iw rL;obtain⟨th,eth⟩:∃x:Nat,(L:Int) / 8=(x:Int):=⟨L / 8,ae⟩;have fq7:Int.tdiv (L:Int) 8=(th:Int):=eth▸Int.tdiv_eq_ediv_of_nonneg ae;have wth:=iw th
  go_wp21
  refine hc.h ?_;rintro e w4⟨rfl,Be,mG⟩;have HH4:=af Be;have Wi:=af (iD (gp Jb) mG);by_cases hlr:lL<rL;{
 have dP5:=bR lL rL
 go_wp21
 refine(aa IH (r-a1) (aM (aa hn)) a1 r lj d4 _ rfl JH HH4 (mj nQ Wi.size) m1 ae y1 y2 yk).h ?_;rintro e w5⟨rfl,d5,vW,QU,Zc,nj⟩;have HH5:=af vW;have HG5:=af (iD Wi nj);let⟨o1,o2⟩:=aa HL6 d5 QU Zc;have bD4:=af o1;have Td:O (d5.size=N):=QU.1.Z JH;have HL5:O (Left a b (r+1) j d d5):=λR r1 r2=>by have:=o2 R r1 r2;exact hF R (permIn_trans _ _ _ a1 j hP3 this.1) this.2
 go_wp2;go_roundw;exact⟨r+1,j,lj,_,ap,d5,by first|rfl|go_num,rfl,rfl,rfl,rfl,ae,ae,ae,ae,ae,Td,HH5,bD4,HL5,HG5⟩;exact dh};{
 have dP5:=fG lL rL;obtain⟨mp,emp⟩:∃x:Nat,(r:Int)+1=(x:Int):=⟨r+1,ae⟩;have ej6:r+1=mp:=ae;have wmp:=iw mp;rw[ej6]at lp HL7
 go_wp21
 refine(aa IH (j-mp) (aM (aa hn)) mp j lj d4 _ rfl JH HH4 (mj nQ Wi.size) ae ae y1 y2 lp).h ?_;rintro e w5⟨rfl,d5,vW,QU,Zc,nj⟩;have HH5:=af vW;have HG5:=af (iD Wi nj);let⟨o1,o2⟩:=aa HL7 d5 QU Zc;have bD4:=af o1;have Td:O (d5.size=N):=QU.1.Z JH;have HL5:O (Left a b a1 r d d5):=λR r1 r2=>by have:=o2 R r1 r2;exact hF R (permIn_trans _ _ _ a1 j hP3 this.1) this.2
 go_wp2;go_roundw;exact⟨a1,r,lj,_,ap,d5,rfl,rfl,rfl,rfl,rfl,ae,ae,ae,ae,ae,Td,HH5,bD4,HL5,HG5⟩
 case measure=>simp[intOf];omega}}}}
end iZ
namespace iZ
open Go.Sort
variable {w:G}{cap:Nat}
theorem dH5:dQ dG 226 #[.S dN 0 cap,.I 0,.I 0] w λe w'=>e=dR (dT #[])/\w'=w:=by
 go_in
 go_wp21
 go_loopw[6](λi wr=>i=.I 1/\wr=w) (λ_ _=>0)
 exact⟨rfl,rfl⟩;{obtain⟨rfl,rfl⟩:=hrel;go_wp2;go_end0;exact⟨rfl,rfl⟩}
theorem dr2:dQ dG 217 #[.S dN 0 cap,.I 0,.I 0,.I 0] w λe w'=>e=dR (dT #[])/\w'=w:=by
 go_in
 go_wp21
 go_loopw[1,2,3,8,9](λq o m j i wr=>q=.I 0/\o=.I 0/\m=.I 0/\j=jO dY/\i=jO dY/\wr=w) (λ_ _ _ _ _ _=>0)
 exact⟨rfl,rfl,rfl,rfl,rfl,rfl⟩;{
 obtain⟨rfl,rfl,rfl,rfl,rfl,rfl⟩:=hrel
 go_wp21
 refine(dH5).h ?_;rintro e r⟨rfl,rfl⟩;go_wp2;exact bO (xK (h:=rfl) _ _ _) rfl ⟨rfl,rfl⟩}
theorem bO3(cap:Nat)(w:G):dQ dG 194 #[.S dN 0 cap] w λe w'=>e=dR (dT #[])/\w'=w:=by
 have i:=aW8 (n:=0) ae;have m:Lib.bitLen 0=0:=aX;rw[m]at i;go_in
 go_wp21
 refine(i _).h ?_;rintro e j⟨rfl,rfl⟩
 go_wp21
 refine(dr2).h ?_;rintro e j⟨rfl,rfl⟩;go_wp2;go_end0;exact⟨rfl,rfl⟩
variable {d:Array Int}
theorem df3{blk off cap N:Nat}(x:O (d.size=N))(s:N<=2^20)(h:HU w blk off d)(u:blk<U (Q w)):dQ dG 194 #[.S (Ad blk off) N cap] w λe w'=>
   e=dR (dT #[])/\∃i,HU w' blk off i/\PermIn 0 N d i/\SortedIn ltInt 0 N i/\jG w w' blk:=by
 have q:=aW8 s;have hK:Lib.bitLen N<=21:=Lib.bitLen_le N 21 ae ae;generalize Lib.bitLen N=K at q hK;have R:jY jU (N:Int)=(N:Int):=by rw[uW];omega
 have M:=af h;clear h;go_in
 go_wp21
 refine(q _).h ?_;rintro e W⟨rfl,rfl⟩
 go_wp21
 refine(dr3 blk off cap N s N 0 N K d _ (by show _=_;omega) x M u (cT _) az ae ae (Or.L rfl)).h ?_;rintro e V⟨rfl,i,r,o,m,j⟩;have D:=af r;have B:=af o;have y:=af m;have E:=af j;clear r o m j;go_wp2;go_end0;exact⟨rfl,i,D,B,y,E⟩
theorem bO4(blk off cap:Nat)(l:LI)(D:Mg (J l))(w:G)(h:HU w blk off l.toArray)(m:blk<U (Q w)):Cp 194 #[.S (Ad blk off) (J l) cap] w λe w'=>
   e=dR (dT #[])/\HU w' blk off (l.mergeSort (λx y=>dD (x<=y))).toArray/\jG w w' blk:=by
 refine(df3 (by show _=_;simp) D h m).h ?_;rintro e w'⟨rfl,i,s,r,q,o⟩;refine⟨rfl,?_,o⟩;have e:=sorted_unique_holds Mc (λx y B u=>by simp[ltInt]at B u;omega) l.toArray i (by simpa using r) (by simpa using q);have M:(λx y:Int=>!ltInt y x)=(λx y=>dD (x<=y)):=by
  funext x y
  by_cases j:x<=y;{rw[Df j];simp[ltInt];omega};{rw[Cb j];simp[ltInt];omega}
 rw[M]at e;have E:i=(l.mergeSort (λx y=>dD (x<=y))).toArray:=by rw[<-show i.toList.toArray=i from by simp,e]
 rw[<-E];exact s
end iZ
namespace iZ
open Go.Maps
theorem mT:Keyed dG 24:=int_keyed underlying24
abbrev oI(x:Int):dV:=.U x
def yt{H:Type}(i:DataW H)(left:Lit->Bool)(ss:LI):Prop:=ss.Nodup/\∀x,x∈ss↔(has i (.U x)/\left (.U x)=dF)
theorem yt.start{H:Type}(i:DataW H):yt i (has i) []:=⟨an8,λx=>by cases has i (.U x)<;>simp⟩
variable {left:Lit->Bool}{ss:LI}{x:Int}
theorem yt.step{H:Type}{i:DataW H}(h:yt i left ss){y:DataW H}(j:left (.U x))(u:∀q,i.atKey (.U x) q=y):yt i (λz=>left z&&!z.sameKey (.U x)) (ss++[x]):=by
 have B:has i (.U x):=has_true_of_atKey u;have D:x∉ss:=λr=>by have:=((h.2 x).1 r).2;rw[j]at this;cases this
 refine⟨Ek.2 ⟨h.1,ai,λa s b o=>by simp at o;subst o;exactλe=>D (e▸s)⟩,λy=>?_⟩;by_cases m:y=x;{subst m;simp[B,Lit.sameKey]};{simp[h.2 y,m,Lit.sameKey]}
def Fq{H:Type}(i:DataW H)(ss:LI):Prop:=ss.Nodup/\(∀x,x∈ss↔has i (.U x))/\J ss<=Maps.size i
theorem yt.all{H:Type}{i:DataW H}(h:yt i left ss)(hl:∀j,left j=dF)(m:J ss<=Maps.size i):Fq i ss:=⟨h.1,(λx=>by rw[h.2 x,hl];simp),m⟩
abbrev kT:TypeId:=24
def aY7{key:dV}{kl:Lit}(h:keyOf dG 24 key=kl):=Maps.keyOf_int_inv underlying24 h
variable {p:Prop}
theorem scA(h:p:=by
  first|refine xL func195 rfl gQ ?_ rfl|refine xL func221 rfl gQ ?_ rfl|refine xL func198 rfl gQ ?_ rfl
  simp only[ntmps195,ntmps221,ntmps198,Ff,Nat.reduceAdd,Nat.reduceSub]
  gi_wp2_with(first
   |(gi_at_range;refine wpListIn_range_own _ rfl _ _ rfl _ _ mT (by first|exact underlying132|exact underlying138|exact underlying133) _ b nn _ rfl du ?_;intro w0 uF pY xR)
   |gi_in)
  go_frame
  gi_loopw [3] (λ_ wr=>∃(left:Lit->Bool)(kK:Nat)(ss:List _),wr.ranges dG kT R b (U W.heap) nn D0 left kK/\J ss+kK<=Maps.size D0/\yt D0 left ss/\iJ ss wr) (λ_ wr=>wr.rangeLeft b (U W.heap))
  {exact⟨_,_,[],uF,ai,yt.start D0,hJ [] W w0 dN h0 pY (λr e=>by cases e)⟩};{
 obtain⟨left,kK,ss,gU,U8,hC,Zl⟩:=hrel
 gi_wp2_with(first
  |(gi_at_next;refine wpListIn_next_ranges _ rfl _ rfl _ mT R oI id (λkey kl hk=>by obtain⟨x,hx,_⟩:=aY7 hk;exact⟨x,hx⟩) (λv _ _=>⟨v,rfl⟩) b (U W.heap) nn _ _ _ rfl gU ?_ ?_)
  |gi_in)
 {intro yQ qL;gi_wp2;go_end0;exact⟨⟨_,rfl⟩,.L ⟨ss,hC.all qL ae,Zl⟩⟩};{
 intro x c kl yd yp w2 ev8 fe hlk hv gi Qi aL dz xQ tA;obtain⟨x',ex,rfl,_⟩:=aY7 fe;obtain rfl:x=x':=by simpa[oI]using ex
 have Q6:iJ ss w2:=hJ ss wr w2 (U W.heap) Zl dz (λr e=>by cases e;exact⟨fq _,gU.iter_walk⟩);let⟨fn,tmps,assign,body,hy,hR⟩:=hY ss x w2 Q6 ae;clear xQ;gi_wp2;refine hR.h ?_;rintro e W3(⟨rfl,EH,mc⟩|⟨rfl,La⟩);{gi_wp2;have Eu:=Qi.of_walks mc;go_roundw;{exact⟨_,ev8,ss++[x],Eu,cg,hC.step hlk gi,EH⟩};{rw[Eu.left_eq,gU.left_eq];exact aL}};{gi_wp2;refine bO (xK rfl _ _ _) rfl ?_;exact⟨⟨_,rfl⟩,.R ⟨_,La⟩⟩}}}):p:=h
theorem scB(h:p:=by
  first|refine xL func141 rfl gQ ?_ rfl|refine xL func199 rfl gQ ?_ rfl|refine xL func143 rfl gQ ?_ rfl
  simp only[ntmps141,ntmps199,ntmps143,Ff,Nat.reduceAdd,Nat.reduceSub];gi_wp2;go_ret;exact⟨rfl,rfl⟩):p:=h
theorem scC(h:p:=by
  intro l iJ Jx W hW hJ _ hY h0;have UL:W.ownsMap dG kT R b nn D0:=by have xW:=du.lt;obtain⟨es,clock,hb,Ft,hs,hD⟩:=du;exact⟨es,clock,(hW.block b xW).Z hb,Ft,hs,hD⟩
  have Gl:=(hW.cell (p:=(Ad Bm 0)) Rc).Z hm
  first
   |refine(ce4 n hn l Bm b nn D0 iJ Jx hY W hJ Gl UL h0).h ?_
   |refine(dF4 hn iJ Jx hY hJ Gl UL h0).h ?_
  rintro e W'⟨he,⟨ss,hs,hj⟩|⟨pre,hj⟩⟩;{exact⟨he,.L ⟨ss,hs,hj⟩⟩};{exact⟨he,.R ⟨pre,gQ,hj⟩⟩}):p:=h
theorem ce4{H:Type}(n:Nat)(q:1<=n)(l o b nn:Nat)(D0:DataW H){R:dV->Option (DataW H×List MemPlace)}(iJ m:LI->G->Prop)(hY:∀i x W,iJ i W->J i<Maps.size D0->YieldAt Fence.wide (n-1) dG l #[oI x] W λe j=>(e=dR (jO dY)/\iJ (i++[x]) j/\KeepsWalks W j)\/(e=dR (jO dF)/\m (i++[x]) j))(W:G)(hJ:AbidesFrom (U (Q W)) iJ)(hm:I W (Ad o 0)=Y (.map b))(du:jM W dG 24 R b nn D0)(h0:iJ [] W):CallsIn Fence.wide n dG 195 #[.func (.yield l) #[] #[],Pz o] W λe j=>(∃v,e=dR v)/\((∃ss:LI,Fq D0 ss/\iJ ss j)\/(∃i,m i j)):=scA
theorem ce3(n:Nat)(i:Option Nat)(w:G):CallsIn Fence.wide n dG 141 #[.map i] w λe w'=>e=dR (.func (.func 195) #[] #[Pz (U (Q w))])/\w'=jA w (dO #[.map i] 132):=scB
theorem bM3{H:Type}(n:Nat)(hn:1<=n)(Bm b nn:Nat)(D0:DataW H){R:dV->Option (DataW H×List MemPlace)}(w:G)(Rc:Bm<U (Q w))(hm:I w (Ad Bm 0)=Y (.map b))(du:jM w dG 24 R b nn D0):SeqStopsK Fence.wide n dG 195 #[Pz Bm] (λx:Int=>#[oI x]) KeepsWalks (Fq D0) (λ_=>True) (Maps.size D0) w:=scC
variable {b n Bm nn:Nat}
theorem dF4{H:Type}(o:1<=n){l:Nat}{D0:DataW H}{R:dV->Option (DataW H×List MemPlace)}(iJ m:LI->G->Prop)(hY:∀i x W,iJ i W->J i<Maps.size D0->YieldAt Fence.wide (n-1) dG l #[oI x] W λe j=>(e=dR (jO dY)/\iJ (i++[x]) j/\KeepsWalks W j)\/(e=dR (jO dF)/\m (i++[x]) j)){W:G}(hJ:AbidesFrom (U (Q W)) iJ)(hm:I W (Ad Bm 0)=Y (.map b))(du:jM W dG 24 R b nn D0)(h0:iJ [] W):CallsIn Fence.wide n dG 221 #[.func (.yield l) #[] #[],Pz Bm] W λe j=>(∃v,e=dR v)/\((∃ss:LI,Fq D0 ss/\iJ ss j)\/(∃i,m i j)):=scA
variable {w:G}{mb:Option Nat}
theorem dF2:CallsIn Fence.wide n dG 199 #[.map mb] w λe w'=>e=dR (.func (.func 221) #[] #[Pz (U (Q w))])/\w'=jA w (dO #[.map mb] 138):=scB
theorem db4{H:Type}(hn:1<=n){D0:DataW H}{R:dV->Option (DataW H×List MemPlace)}(Rc:Bm<U (Q w))(hm:I w (Ad Bm 0)=Y (.map b))(du:jM w dG 24 R b nn D0):SeqStopsK Fence.wide n dG 221 #[Pz Bm] (λx:Int=>#[oI x]) KeepsWalks (Fq D0) (λ_=>True) (Maps.size D0) w:=scC
end iZ
namespace iZ
open Go.Maps
variable {p:Prop}
theorem Hid.aZ3(h:p):O p:=h
theorem WD(h:O p):p:=h
theorem ct8(W:G)(l:Nat)(o:Obj):jG W (W.putObj l o) l:=⟨rfl,rfl,rfl,by simp,λk _ i=>World.putObj_heap_other (λe=>i (by rw[e]))⟩
theorem eb8(W:G)(b:Nat)(v:dV):jG W (jS W (Ad b 0) v) b:=⟨rfl,rfl,rfl,by simp,λk _ i=>Xz _ _ _ k (λe=>i (by rw[e]))⟩
variable {j base k:Nat}{v:dV}{o:Obj}{e:TypeId}{xs:List dV}
theorem bR7{W:G}{size:Nat}(h:W.ownsRow base e size v k xs)(m:W.heap[j]?=o)(q:o.isCells=dF):jB v=dN\/jB v≠Y j:=by
  obtain⟨rfl,_⟩|⟨g,u,s,rfl,_,i,_⟩:=h.2;{exact .L rfl};{
 refine .R λr=>?_;have:g=j:=by simpa[jB]using r
 subst this;rw[i]at m;cases m;cases q}
variable {row:Option Nat}
theorem bR6{W m:G}{size:Nat}(h:W.ownsRow base e size v k xs)(s:jG W m row)(hr:∀r,row=Y r->∃o:Obj,W.heap[r]?=o/\o.isCells=dF):m.ownsRow base e size v k xs:=by
  refine h.kept s ?_;cases hv:jB v with
  |none=>exact .L rfl
  | some j=>
    refine .R λu=>?_;let⟨o,q,hc⟩:=hr j u.C;obtain i|i:=bR7 h q hc;{rw[hv]at i;cases i};{exact i hv}
theorem du0{W s:G}{size:Nat}(h:W.ownsRow base e size v k xs)(r:jG W s (jB v)):KeepsOthers W s:=
  ⟨r.size,λj o i u=>(r.block j (Ke.1 i).1 (λq=>by obtain m|m:=bR7 h i u;{rw[m]at q;cases q};{exact m q.C})).Z i⟩
structure Got{α:Type}(ty:TypeId)(enc:α->dV)(Bs:Nat)(pre:List α)(v:dV)(W:G):Prop where
  cell:I W (Ad Bs 0)=v
  T:jF W (Ad Bs 0)=dF
  row:W.ownsRow (Bs+1) ty 1 v (J pre) (pre.map enc)
  nil:v=aq↔pre=[]
abbrev kS:TypeId:=67
def cf8:=og (P:=dG) (e:=24) (z:=.U 0) (size:=1) (bytes:=8) (by kernel_rfl)
theorem scD(h:p:=by
    have h1:1<=n:=ae;obtain⟨i0,hi,ki,fy,gJ⟩:=cf8
    first|refine callsIn_of_wp_marks func216 rfl gQ ?_ rfl|refine callsIn_of_wp_marks func219 rfl gQ ?_ rfl
    simp only[ntmps216,ntmps219,Ff,Nat.reduceAdd,Nat.reduceSub];gi_wp2;let⟨W0,bG⟩:=aF (w.alloc (dO #[aq] kS));have z0:U W0.heap=U w.heap+1:=by rw[bG];simp
    have k0:I W0 (Aw w 0)=aq:=by rw[bG];simp
    have f0:W0.frozen? (Aw w 0)=dF:=by rw[bG];simp
    have EO:=ij bG;rw[<-bG];clear bG;refine wpIn_rangeFunc_ownF (F:=Fence.wide) rfl h1 (gf:=g) (lb:=lb) rfl gQ eg MJ (λh k=>h.Z k) (λW l o o' _ hl _ hw=>KeepsWalks.putObj _ hl hw) EO (λ_=>rfl)
      (λpre W=>(∃v,Got kT oI (U w.heap) pre v W)/\Bw w W)
      (λ_ _ _=>False)
      (OwnFrom.and (Own.from (λs A B row hs hg hr=>by obtain⟨v,hv⟩:=hs;exact⟨v,cell_kept hv.cell hg hr,(frozen_kept hv.cell hg hr).Z hv.T,bR6 hv.row hg hr,hv.nil⟩) _) (ownFrom_below az ae))
      (λ_ _ _ _ _ hs _ _=>hs)
      ⟨⟨_,k0,f0,⟨rfl,.L ⟨rfl,rfl⟩⟩,ai⟩,EO⟩
      (λx=>{tmps:=#[aq,.func (.func g) #[] lb,Pz (U w.heap),undef,aq,oI x,.func (.func g) #[] lb,oI x,undef,undef,undef,undef,undef],defers:=[]}) ?assign ?body ?done ?stop
    case assign=>(
 intro l x W K hK
 gi_wp2_with(rw[aT0 _ _ _ (λc h=>by cases h)];go_simp;try go_bits)
 exact hK)
    case body=>(
 rintro L pre x W⟨⟨v,hv⟩,ir⟩kx;have hc:=hv.cell;have hf:=hv.T;have gC:=hv.row;have aL:U w.heap<U W.heap:=nI W _ hc;have ci4:=gC.alloc (dO #[oI x] kT)
 gi_wp2_with(first
   | (gi_at_builtin;refine wpListIn_append_own _ rfl _ _ _ rfl (U w.heap+1) _ i0 _ 1 _ (by first|exact underlying67|exact underlying145) hi ki fy gJ rfl aX _ _ _ rfl ci4 ⟨U W.heap,0,dN⟩ 1 1 [oI x] rfl rfl (cell_one_new _ _ _) (by simp[Value.oneCell',oI]) kL ae cg ?_;intro v' w3 UL pX dO2
      have at1:(W.alloc (dO #[oI x] kT)).grownBy w3 v.ownBlock:=pX;have dO3:Y (U w.heap)≠v.ownBlock:=λe=>aM (gC.lt _ e.C).1;have I5:I (W.alloc (dO #[oI x] kT)) (Aw w 0)=Y v:=(Iz (a:=(Aw w 0)) (Xp _ _ _ aL)).Z hc;have U4:(W.alloc (dO #[oI x] kT)).frozen? (Aw w 0)=dF:=(Dj (a:=(Aw w 0)) (Xp _ _ _ aL)).Z hf;have aE:w3.heap[U w.heap]?=(W.alloc (dO #[oI x] kT)).heap[U w.heap]?:=at1.block _ cg dO3;have Gu:I w3 (Aw w 0)=Y v:=(Iz (a:=(Aw w 0)) aE).Z I5;have tY:w3.frozen? (Aw w 0)=dF:=(Dj (a:=(Aw w 0)) aE).Z U4;obtain⟨g',LG,rfl⟩:∃g' LG,v'=.T g' (J pre+1) LG:=by obtain⟨_,h0⟩|⟨g',LG,_,h',_⟩:=UL.2;{exact absurd h0 ae};{exact⟨g',LG,h'⟩}
      have HO3:=Hid.aZ3 ((KeepsOthers.alloc W (dO #[oI x] kT)).Z (du0 ci4 at1));have qj:=Hid.aZ3 (((ir.alloc ir.size (dO #[oI x] kT)).grown at1 (by have:=ir.size;simp;omega) (λk e=>aM (gC.lt k e).1)));have uQ:=Hid.aZ3 UL;clear UL dO2 pX at1 I5 U4 aE
      go_frame)
   |(rw[aT0 _ _ _ (λc h=>by cases h)];go_simp;try go_bits))
 refine⟨(WD HO3).Z (KeepsOthers.setCell _ _ _),((WD HO3).Z (KeepsOthers.setCell _ _ _)).walks,⟨_,P8 _ _ _ Gu,by rw[Ej];exact tY,?_,ai⟩,(WD qj).setCell (p:=(Aw w 0)) az _⟩;have hr:=(WD uQ).kept (eb8 w3 (U w.heap) (.T g' (J pre+1) LG)) (.R (λe=>aM ((WD uQ).lt _ e).1));simpa using hr)
    case done=>(
 rintro D ys W hD hS⟨⟨v,hv⟩,ir⟩hK;have hc:=hv.cell;gi_wp2;refine⟨ai,.L ⟨_,_,rfl,run_takeDeferred hK,?_⟩⟩;exact⟨_,results_tmp rfl _ _ _,v,ys,rfl,hS,bR6 hv.row (ct8 _ _ _) (λr e=>by cases e;exact⟨_,hK,rfl⟩),hv.nil,ir.grown (ct8 _ _ _) ir.size (λk e=>by cases e;omega)⟩)
    case stop=>(
 rintro D c pre W _ _ h _;exact h.elim)):p:=h
theorem cI2(n:Nat)(i:2<=n)(g:Nat)(lb:iA)(eg:∀args w,(callFunc g args).run dG w=.ok (.enter g args) w)(S Sp:LI->Prop)(N:Nat)(j:N<=2^20)(w:G)(MJ:SeqStopsK Fence.wide (n-1) dG g lb (λx:Int=>#[oI x]) KeepsWalks S Sp N w):CallsIn Fence.wide n dG 216 #[aq,.func (.func g) #[] lb] w λe w'=>∃(v:dV)(ss:LI),e=dR v/\S ss/\w'.ownsRow (U w.heap+1) 24 1 v (J ss) (ss.map oI)/\(v=aq↔ss=[])/\Bw w w':=scD
end iZ
namespace iZ
open Go.Maps Go.Sort
variable {p:Prop}
theorem scE(h:p:=by
    have h1:1<=n:=ae;have haf:Fence.wide.fn 216:=gQ;have hbf:Fence.wide.fn 219:=gQ
    first|refine xL func193 rfl gQ ?_ rfl|refine xL func196 rfl gQ ?_ rfl
    simp only[ntmps193,ntmps196,Ff,Nat.reduceAdd,Nat.reduceSub]
    gi_wp2_with((first|gi_at_call 216|gi_at_call 219);refine(cI2 (n-1) ae g lb eg S Sp N hN _ MJ).h ?_;rintro e w'⟨v,ss,rfl,hS,gC,UO,hb⟩)
    go_ret;exact⟨v,ss,rfl,hS,gC,UO,hb⟩):p:=h
theorem cE3(n:Nat)(i:3<=n)(g:Nat)(lb:iA)(eg:∀args w,(callFunc g args).run dG w=.ok (.enter g args) w)(S Sp:LI->Prop)(N:Nat)(hN:N<=2^20)(w:G)(MJ:SeqStopsK Fence.wide (n-1-1) dG g lb (λx:Int=>#[oI x]) KeepsWalks S Sp N w):CallsIn Fence.wide n dG 193 #[.func (.func g) #[] lb] w λe w'=>∃(v:dV)(ss:LI),e=dR v/\S ss/\w'.ownsRow (U (Q w)+1) 24 1 v (J ss) (ss.map oI)/\(v=aq↔ss=[])/\Bw w w':=scE
variable {w:G}{g:Nat}{e:TypeId}{cur:iA}
theorem dL7{α:Type}{enc:α->dV}{ss:List α}[Inhabited α](m:w.heap[g]?=dO cur e (0,0))(q:jT (J ss) cur.toList=ss.map enc):Holds enc w g 0 ss.toArray:=by
  intro j r;have i:j<J ss:=by simpa using r
  refine⟨?_,by simp[World.frozen?,m]⟩;have o:(jT (J ss) cur.toList)[j]?=(ss.map enc)[j]?:=by rw[q]
  rw[dz2 i]at o;simp only[World.cell?,m,l9];simp only[cb6,Ir,Ap];rw[<-aV6,o];simp[i]
def LK(B:Nat)(w:G)(v:dV)(ss:LI):Prop:=(v=aq/\ss=[])\/∃g i,v=.T g (J ss) i/\B<=g/\g<U (Q w)/\HU w g 0 ss.toArray
structure L6{H:Type}(D0:DataW H)(ss:LI):Prop where
  lt:ss.Pairwise (·<·)
  mem:∀x,x∈ss↔has D0 (.U x)=dY
  size:J ss<=Maps.size D0
variable {ss:LI}
theorem cH6{H:Type}{o:DataW H}(h:Fq o ss):L6 o (ss.mergeSort (λx y=>dD (x<=y))):=by
  have i:=List.mergeSort_perm ss (λx y=>dD (x<=y));refine⟨?_,λx=>(i.mem_iff).Z (h.2.1 x),by rw[i.length_eq];exact h.2.2⟩;have m:=cb3 (le:=λx y:Int=>dD (x<=y)) (λa b c m j=>by simp at*;omega) (λa b=>by simp;omega) ss;have j:(ss.mergeSort (λx y=>dD (x<=y))).Pairwise (·≠·):=i.nodup_iff.2 h.1;exact(m.and j).imp (λ{a b}⟨x,y⟩=>by simp at x;omega)
theorem scG(h:p:=by
    have h1:1<=n:=ae;have haf:Fence.wide.fn 193:=gQ;have hbf:Fence.wide.fn 196:=gQ;have kn:Fence.wide.fn 194:=gQ;have hdf:Fence.wide.fn 197:=gQ
    first|refine xL func140 rfl gQ ?_ rfl|refine xL func142 rfl gQ ?_ rfl
    simp only[ntmps140,ntmps142,Ff,Nat.reduceAdd,Nat.reduceSub]
    gi_wp2_with((first|gi_at_call 193|gi_at_call 196);refine(cE3 (n-1) ae g lb eg S Sp N hN _ MJ).h ?_;rintro e w'⟨v,ss,rfl,hSs,gC,UO,hb⟩)
    obtain⟨rfl,_⟩|⟨gb,cap,cur,rfl,Na,hgb,pR,iC,sH,IM⟩:=gC.2;{
 obtain rfl:ss=[]:=UO.1 rfl
 gi_wp2_with((first|gi_at_call 194|gi_at_call 197);refine(IC.2 (bO3 0 _)).h ?_;rintro e w2⟨rfl,rfl⟩)
 go_ret;exact⟨_,[],rfl,hSs,.L ⟨rfl,ai⟩,hb⟩};{
 have aL:gb<U w'.heap:=(Ke.1 hgb).1;have hH:=dL7 hgb (by simpa using IM)
 gi_wp2_with((first|gi_at_call 194|gi_at_call 197);refine(IC.2 (bO4 gb 0 cap ss (hS ss hSs) _ hH aL)).h ?_;rintro e w2⟨rfl,tC,dz⟩)
 go_ret;refine⟨_,ss,rfl,hSs,.R ⟨gb,cap,by rw[List.length_mergeSort];rfl,ae,mj aL dz.size,tC⟩,?_⟩;exact hb.grown dz hb.size (λk e=>by cases e;omega)}):p:=h
theorem bO2(n:Nat)(i:4<=n)(g:Nat)(lb:iA)(eg:∀args w,(callFunc g args).run dG w=.ok (.enter g args) w)(S Sp:LI->Prop)(N:Nat)(hN:N<=2^20)(hS:∀ss,S ss->J ss<=2^20)(w:G)(MJ:SeqStopsK Fence.wide (n-1-1-1) dG g lb (λx:Int=>#[oI x]) KeepsWalks S Sp N w):CallsIn Fence.wide n dG 140 #[.func (.func g) #[] lb] w λe w'=>∃(v:dV)(ss:LI),e=dR v/\S ss/\LK (U (Q w)) w' v (ss.mergeSort (λx y=>dD (x<=y)))/\Bw w w':=scG
theorem scH(h:p:=by
    refine(IC (n:=6)).1 ?_;have haf:Fence.wide.fn 141:=gQ;have hbf:Fence.wide.fn 199:=gQ;have kn:Fence.wide.fn 143:=gQ;have hdf:Fence.wide.fn 140:=gQ;have hef:Fence.wide.fn 142:=gQ;have xW:=du.lt;have Ku:∀t,(w.alloc (dO #[.map b] t)).ownsMap dG kT R b nn D0:=by obtain⟨es,clock,hb,Ft,hs,hD⟩:=du;exactλt=>⟨es,clock,(Xp _ _ b xW).Z hb,Ft,hs,hD⟩
    first|refine xL func84 rfl gQ ?_ rfl|refine xL func144 rfl gQ ?_ rfl|refine xL func86 rfl gQ ?_ rfl
    simp only[ntmps84,ntmps144,ntmps86,Ff,Nat.reduceAdd,Nat.reduceSub]
    gi_wp2_with(first
      | ((first|gi_at_call 141|gi_at_call 199|gi_at_call 143);first|refine(ce3 _ _ _).h ?_|refine(dF2).h ?_
         rintro e w'⟨rfl,rfl⟩)
      |((first|gi_at_call 140|gi_at_call 142);refine CallsIn.h (bO2 5 ae _ _ (λargs w=>aU) (Fq D0) (λ_=>True) _ gK (λss h=>fx h.2.2 gK) _ (by first|exact bM3 2 ae (U w.heap) b nn D0 _ ai ai (Ku _)|exact db4 ae ai ai (Ku _))) ?_;rintro e w'⟨v,ss,rfl,hS,AE,hb⟩))
    go_ret;refine⟨v,_,rfl,cH6 hS,?_,((aR _ w).alloc az _).Z (hb.h ai)⟩;obtain h|⟨g,cap,h1,h2,h3,h4⟩:=AE;{exact .L h};{exact .R ⟨g,cap,h1,by simp at h2;omega,h3,h4⟩}):p:=h
theorem WS{H:Type}(b nn:Nat)(D0:DataW H){R:dV->Option (DataW H×List MemPlace)}(w:G)(du:jM w dG 24 R b nn D0)(gK:Maps.size D0<=2^20):Cp 84 #[.map b] w λe w'=>∃(v:dV)(ss:LI),e=dR v/\L6 D0 ss/\LK (U (Q w)) w' v ss/\Bw w w':=scH
theorem aL3{H:Type}(b nn:Nat)(D0:DataW H){R:dV->Option (DataW H×List MemPlace)}(w:G)(du:jM w dG 24 R b nn D0)(gK:Maps.size D0<=2^20):Cp 144 #[.map b] w λe w'=>∃(v:dV)(ss:LI),e=dR v/\L6 D0 ss/\LK (U (Q w)) w' v ss/\Bw w w':=scH
end iZ
theorem aO5(h:iZ.LK B w v ss):∃p c A,v=.S p (J ss) c/\RdU w (.S p (J ss) c) ss/\SC (.S p (J ss) c) ss A/\je B w A:=by
 obtain⟨rfl,rfl⟩|⟨g,q,rfl,E,y,M⟩:=h;{exact⟨dN,0,[],rfl,⟨dN,0,rfl,.L rfl⟩,⟨dN,0,[],rfl,rfl,rfl,.L rfl⟩,je.nil _ _⟩};{
 have hc:∀i,i<J ss->I w (Ad g (0+i))=dU (jE ss i 0)/\jF w (Ad g (0+i))=dF:=λi m=>by
  have:=M i (by simpa using m);simp only[List.getElem!_toArray]at this;rw[iR,bN m];have e:ss[i]! = ss[i]:=by simp[m]
  first|(rw[e]at this;exact this)|simpa[m]using this
 refine⟨Y (Ad g 0),q,(jR (J ss)).map λi=>⟨g,0+i,jU⟩,rfl,⟨_,_,rfl,.R ⟨g,0,rfl,λi m=>(hc i m).1⟩⟩,⟨Y (Ad g 0),q,(jR (J ss)).map λi=>[⟨g,0+i,jU⟩],rfl,ai,?_,.R ⟨g,0,rfl,λi x V W y=>?_⟩⟩,⟨?_,λa s=>?_,λa s=>?_⟩⟩;{
 induction(jR (J ss))with
 |nil=>rfl
 |cons i r ih=>rw[mR,mR,vH,<-ih];rfl}
 {let⟨m,e⟩:=bu.1 y;simp at e;rw[<-e,ao4,l9];rfl};{rw[sA,List.Nodup,BO];exact aU3.imp (λ{i j}D=>by simpa using D)};{obtain⟨i,m,rfl⟩:=fg.1 s;exact E};{obtain⟨i,m,rfl⟩:=fg.1 s;let⟨R,N⟩:=hc i (by simpa using m);exact⟨⟨_,R⟩,N⟩}}
theorem aB9:∀{l m:LI},l.Pairwise (·<·)->m.Pairwise (·<·)->(∀x,x∈l↔x∈m)->l=m
 |[],[],_,_,_=>rfl
 |[],b::m,_,_,h=>absurd ((h b).2 ai) ai
 |a::l,[],_,_,h=>absurd ((h a).1 ai) ai
 |a::l,b::m,h1,h2,h=>by
  rw[Km]at h1 h2;have o:a=b:=by obtain e|e:=gv.1 ((h a).1 ai);{exact e};{obtain j|j:=gv.1 ((h b).2 ai);{exact j.C};{have:=h2.1 a e;have:=h1.1 b j;omega}}
  subst o;rw[aB9 h1.2 h2.2 (λx=>?_)];constructor;{intro i;obtain e|e:=gv.1 ((h x).1 (by simp[i]));{have:=h1.1 x i;omega};{exact e}};{intro i;obtain e|e:=gv.1 ((h x).2 (by simp[i]));{have:=h2.1 x i;omega};{exact e}}
theorem bP5{s:LI}(h:kM D s)(o:s.Pairwise (·<·))(j:iZ.L6 D ss):ss=s:=by
 refine aB9 j.lt o λx=>?_;rw[j.mem x,h];constructor;{rintro⟨i,q,e⟩;simp only[Mq,Iq]at e;rw[e];exact q};{intro m;exact⟨x,m,rfl⟩}
structure KN(w:G)(g h u:Nat)(V:dV)(nd:au):Prop where
 blk:w.heap[g]?=dO #[V,.U nd.D,.I nd.M,.map h,.U nd.P,.U nd.F,.map u] 142
 val:Rd w V nd.V
 Cg:∃D,jM w dG 24 unitElem h (J nd.y) D/\kM D nd.y
 zL:∃D,jM w dG 24 unitElem u (J nd.X) D/\kM D nd.X
structure PB(w:G)(M N:Nat)(v:dV)(xs:LI)(A:List Lf):Prop where
 rd:Rd w v xs
 cap:vr v
 lv:JB v xs A
 ap:je M w A
 hi:∀a∈A,a.b<N
structure PU(w:G)(M N:Nat)(v:dV)(xs:LI)(A:List Lf):Prop where
 rd:RdU w v xs
 lv:SC v xs A
 ap:je M w A
 hi:∀a∈A,a.b<N
theorem PB.H(h:PB w M N v xs A)(i:Bw w w'):PB w' M N v xs A:=
 ⟨h.rd.H i,h.cap,h.lv,h.ap.W (λa j=>i.block _ (h.ap.oy.lt j)),h.hi⟩
theorem PU.H(h:PU w M N v xs A)(i:Bw w w'):PU w' M N v xs A:=
 ⟨h.rd.H i,h.lv,h.ap.W (λa j=>i.block _ (h.ap.oy.lt j)),h.hi⟩
theorem Own.pb(h:Own B w (.S p n c) l):∃A,PB w B (U (Q w)) (.S p n c) l A:=by
 let⟨A,j,i,q,o⟩:=Xa (kd:=.u8) h;exact⟨A,h.rd,⟨_,_,_,rfl,h.cap,h.NL⟩,j,i,λa m=>i.oy.lt m⟩
theorem je.bw3(h:je B w A)(j:je B w A2)(hd:∀a∈A,∀m∈A2,a.b≠m.b):je B w (A++A2):=by
 refine⟨?_,λa i=>?_,LvIn.app.2 ⟨h.oy,j.oy⟩⟩;{rw[rI,Ek];refine⟨h.nd,j.nd,λx r y q=>?_⟩;obtain⟨a,i,rfl⟩:=fg.1 r;obtain⟨m,o,rfl⟩:=fg.1 q;intro e;simp only[jk]at e;exact hd a i m o e.1};{obtain i|i:=jg.1 i;{exact h.lo a i};{exact j.lo a i}}
theorem cG4(q:aA l)(m:j<J l):(((bf l).data.toList.getD j 0).toNat:Int)=jE l j 0:=by
 have i:j<(bf l).size:=by rw[DM];exact m
 have h:=cG5 q i;rw[<-h];have o:j<(bf l).data.toList.length:=by rw[RM];simpa using m
 rw[iR,bN o];rfl
theorem eu7(w:G)(hB:aA l)(hl:Mg (J l)):∃D M W A,(convert 9 22 (jJ (bf l))).run dG w=.ok (.S D (J l) M) W/\PB W (U (Q w)) (U (Q W)) (.S D (J l) M) l A/\Bw w W:=by
 have B:=Lib.run_convert_string_bytes (P:=dG) w 9 22 5 (bf l) underlying9 underlying22 underlying5;rw[DM]at B;let⟨W,m⟩:=aF (Lib.bytesWorld w 5 (bf l));have gK:U (Q W)=U (Q w)+1:=by rw[m];exact Lib.bytesWorld_size _ _ _
 have E:∀j,j<J l->I W (Aw w (0+j))=Y (jK .u8 (jE l j 0)):=λj y=>by rw[m,l9,Lib.bytesWorld_cell _ _ _ _ (by rw[DM];exact y),cG4 hB y]
 have QG:∀j,j<J l->jF W (Aw w (0+j))=dF:=λj y=>by
  have V:=Lib.bytesWorld_at_new w 5 (bf l);have hs:j<(Lib.bytesCells w 5 (bf l)).size:=by simp only[Lib.bytesCells,aS1,Array.size_map];have:(bf l).data.size=J l:=DM (l:=l);omega
  rw[m,l9];simp only[World.frozen?,V];simp;omega
 have Z:Bw w W:=by refine⟨by rw[m];rfl,by rw[m];rfl,by rw[m];rfl,ae,λk X=>by rw[m];exact Lib.bytesWorld_at_old _ _ _ _ X⟩
 have N:vr (.T (U (Q w)) (J l) (grownCap w (J l) 0 5)):=⟨_,_,_,rfl,am7 _ _ _ _,am6 _ _ _ _ kL⟩;rw[<-m]at B;refine⟨_,_,_,(jR (J l)).map λi=>⟨U (Q w),0+i,.u8⟩,B,⟨⟨_,_,rfl,.R ⟨U (Q w),0,rfl,E⟩⟩,N,⟨Y (Aw w 0),_,(jR (J l)).map λi=>[⟨U (Q w),0+i,.u8⟩],rfl,ai,?_,.R ⟨U (Q w),0,rfl,λi x l' hx hl=>?_⟩⟩,⟨?_,λa s=>?_,λa s=>?_⟩,λa s=>?_⟩,Z⟩;{
 induction(jR (J l))with
 |nil=>rfl
 |cons i r ih=>rw[mR,mR,vH,<-ih];rfl}
 {let⟨q,e⟩:=bu.1 hl;simp at e;rw[<-e,ao4,l9];rfl};{rw[sA,List.Nodup,BO];exact aU3.imp (λ{i j}R=>by simpa using R)};{obtain⟨i,q,rfl⟩:=fg.1 s;exact fq _};{obtain⟨i,q,rfl⟩:=fg.1 s;exact⟨⟨_,E i (by simpa using q)⟩,QG i (by simpa using q)⟩};{obtain⟨i,q,rfl⟩:=fg.1 s;simp only;omega}
theorem db8{r:iE}(q:o.guard=dN)(m:o.op=Op.convert 9 22 x)(s:a.eval x=jJ (bf l))(D:aA l)(hl:Mg (J l))(hK:∀i j w' A,PB w' (U (Q w)) (U (Q w')) (.S i (J l) j) l A->Bw w w'->K (a.put o.dst (.S i (J l) j)) w'):if jW o (yielded ops a.tmps)then Oper.wp dG o a w K r else E:=by
 have u:jW o (yielded ops a.tmps):=by simp[jW,q]
 rw[aK u];let⟨i,j,W,A,M,B,y⟩:=eu7 w D hl;unfold Oper.wp;simp only[execOp,m,s,Mn,Xx,am3,M,Result.andThen];exact hK _ _ _ _ B y
theorem mV.mk4{p0 W V R:OA}{c0 c1 Z X x M M1 E N N4 u N7:Nat}{l0 l1 D y:List Lf}(o:PB w x M (.S p0 (J nd.A) c0) nd.A l0)(s:PB w M1 E (.S W (J nd.V) c1) nd.V l1)(r:PU w N N4 (.S V (J nd.y) Z) nd.y D)(q:PU w u N7 (.S R (J nd.X) X) nd.X y)(b0:B<=x)(b1:B<=M1)(b4:B<=N)(b7:B<=u)(d01:M<=M1\/E<=x)(d04:M<=N\/N4<=x)(d07:M<=u\/N7<=x)(d14:E<=N)(d17:E<=u)(d47:N4<=u):mV w nd [.S p0 (J nd.A) c0,.S W (J nd.V) c1,.U nd.D,.I nd.M,.S V (J nd.y) Z,.U nd.P,.U nd.F,.S R (J nd.X) X] (l0++(l1++(D++y)))/\je B w (l0++(l1++(D++y))):=by
 refine⟨⟨p0,c0,W,c1,V,Z,R,X,l0,l1,D,y,rfl,rfl,⟨o.rd,o.cap,o.lv⟩,⟨s.rd,s.lv⟩,⟨r.rd,r.lv⟩,⟨q.rd,q.lv⟩⟩,?_⟩;refine(o.ap.h b0).bw3 ((s.ap.h b1).bw3 ((r.ap.h b4).bw3 (q.ap.h b7) λa j m i e=>?_) λa j m i e=>?_) λa j m i e=>?_;{have:=r.hi a j;have:=q.ap.lo m i;omega};{obtain i|i:=jg.1 i;{have:=s.hi a j;have:=r.ap.lo m i;omega};{have:=s.hi a j;have:=q.ap.lo m i;omega}};{obtain i|i:=jg.1 i;{have:=o.hi a j;have:=o.ap.lo a j;have:=s.hi m i;have:=s.ap.lo m i;omega};{obtain i|i:=jg.1 i;{have:=o.hi a j;have:=o.ap.lo a j;have:=r.hi m i;have:=r.ap.lo m i;omega};{have:=o.hi a j;have:=o.ap.lo a j;have:=q.hi m i;have:=q.ap.lo m i;omega}}}
theorem dx0{g h u:Nat}(hk:KN w g h u V nd)(hh:nd.y.Pairwise (·<·))(hu:nd.X.Pairwise (·<·))(l1:J nd.A<=2^20)(l2:J nd.V<=2^20)(l3:J nd.y<=2^20)(l4:J nd.X<=2^20)(cW:aA nd.A):dQ dG 87 #[Pz g,jJ (bf nd.A)] w λr w'=>∃c l,r=dR (jP c)/\mV w' nd c.toList l/\je (U (Q w)) w' l/\Bw w w':=by
 obtain⟨W,Er,⟨D1,o1,s1⟩,⟨D2,o2,s2⟩⟩:=hk;obtain⟨pv,cv,nv,rfl,ev⟩:=Er.fO;have hA7:lr w g (.S pv nv cv) (.U nd.D) (.I nd.M) (.map h) (.U nd.P) (.U nd.F) (.map u):=⟨cX W 0,cX W 1,cX W 2,cX W 3,cX W 4,cX W 5,cX W 6⟩;let⟨W0,bG⟩:=aF (jA w (dO #[aq,aq,.U 0,.I 0,aq,.U 0,.U 0,aq] 69));have b0:=ij bG;have z0:U (Q W0)=U (Q w)+1:=by rw[bG];simp
 have r0:aO W0 (U (Q w)) [aq,aq,.U 0,.I 0,aq,.U 0,.U 0,aq]:=by rw[bG];exact aO.alloc w #[aq,aq,.U 0,.I 0,aq,.U 0,.U 0,aq] _
 have SZ1:=af (fx o1.size_le l3);have SZ2:=af (fx o2.size_le l4);obtain⟨ow,mo,ep,ge,e1,e2,e3,e4⟩:∃a b c d,nd.D=a/\nd.M=b/\nd.P=c/\nd.F=d:=⟨_,_,_,_,rfl,rfl,rfl,rfl⟩
 rw[e1,e2,e3,e4]at hA7;have HE:=jq e1 e2 e3 e4;go_in
 go_wp21
 rw[<-bG];let⟨v,fU⟩:=aF W0.drew;have bv:Bw w v:=by rw[fU];exact b0.drew
 have zv:U (Q w)<U (Q v):=by rw[fU];show U (Q w)<U (Q W0);omega
 have R:O (aO v (U (Q w)) [aq,aq,.U 0,.I 0,aq,.U 0,.U 0,aq]):=by rw[fU];exact r0
 have S:=af (hA7.H bv);refine fK (λw'=>lr w' g (.S pv nv cv) (.U ow) (.I mo) (.map h) (.U ep) (.U ge) (.map u)) (by rw[<-fU];exact aa S) λhS=>?_;rw[<-fU]at hS⊢;have BW:=af bv;have OH:=af (o1.kept (mn bv dN) ai);have OU:=af (o2.kept (mn bv dN) ai);have RV:=af (Er.H bv);have T1:=af s1;have T2:=af s2;have HH:=af hh;have HU:=af hu;have HBY:=af cW;clear fU bG b0 z0 r0 W Er o1 o2 hA7 s1 s2 hh hu cW bv;refine jh 0 2 3 4 5 8 9 10 hS ?_;refine jh 11 12 13 14 15 16 17 18 hS ?_;refine jh 19 20 21 22 23 24 25 26 hS ?_;refine iL 27 29 30 31 hS ?_;refine tn 32 hS ?_
 iterate 5 (
  all_goals(first|refine uz 1 (λs hK=>?_)|refine yA 1 6 (λs hK=>?_) (λs hK=>?_)|refine uz 6 (λs hK=>?_)|refine yA 1 7 (λs hK=>?_) (λs hK=>?_)|refine uz 7 (λs hK=>?_)|refine yA 1 28 (λs hK=>?_) (λs hK=>?_)|refine uz 28 (λs hK=>?_)|refine yA 1 33 (λs hK=>?_) (λs hK=>?_)|refine uz 33 (λs hK=>?_))
  all_goals(first
   |(
    refine Tag.go 1 (db8 aP aP (l:=nd.A) aP HBY l1 ?_);intro pC cC D lC fC m;have FC:=af fC;clear fC)
   | (
    refine Tag.go 6 ?_;go_simp;let⟨D,hv⟩:=aF (jA v (dO #[.S pv nv cv] 22));have m:=ij hv;have HP:O (wF D (U (Q v)) [.S pv nv cv] [nd.V]):=⟨rfl,λj y x N M=>by
     match j,N,M with
     |0,N,M=>simp at N M;subst N M;exact⟨by rw[hv];simp,RV.H m⟩⟩
    rw[<-hv];let⟨GB,Zo⟩:=aF (U (Q v));rw[<-Zo]at HP⊢;clear hv Zo)
   |(
    refine Tag.go 7 (js (Ep (g:=GB) (vs:=[.S pv nv cv]) [nd.V] (lm:=nd.V) (n:=J nd.V) 1 rfl (by show _=_;simp[cat]) cO (aa HP) ae ae) ?_);rintro r D⟨pJ,cJ,rfl,oJ,m⟩;refine⟨_,rfl,?_⟩;let⟨lJ,fJ⟩:=Own.pb oJ;have FJ:=af fJ;clear fJ oJ HP)
   |(
    refine Tag.go 28 (js (iZ.aL3 h _ D1 _ OH SZ1) ?_);rintro r D⟨y,ss,rfl,zh,X,m⟩;refine⟨_,rfl,?_⟩;rw[bP5 (aa T1) (aa HH) zh]at X;obtain⟨pH,cH,lH,rfl,N,M,q3⟩:=aO5 X;have FH:O (PU D (U (Q v)) (U (Q D)) (.S pH (J nd.y) cH) nd.y lH):=⟨N,M,q3,λa ha=>q3.oy.lt ha⟩;clear zh X N M q3)
   |(
    refine Tag.go 33 (js (iZ.aL3 u _ D2 _ OU SZ2) ?_);rintro r D⟨y,ss,rfl,zh,X,m⟩;refine⟨_,rfl,?_⟩;rw[bP5 (aa T2) (aa HU) zh]at X;obtain⟨pU,cU,lU,rfl,N,M,q3⟩:=aO5 X;have FU:O (PU D (U (Q v)) (U (Q D)) (.S pU (J nd.X) cU) nd.X lU):=⟨N,M,q3,λa ha=>q3.oy.lt ha⟩;clear zh X N M q3))
  all_goals(
   have S:=af (S.H m);have BW:=af (ah BW m);have OH:=af (OH.kept (mn m dN) ai);have OU:=af (OU.kept (mn m dN) ai);have RV:=af (RV.H m);have R:=af (R.H ae m);have z:U (Q v)<=U (Q D):=m.size
   try have HP:=af (HP.H m)
   try have FC:=af (FC.H m)
   try have FJ:=af (FJ.H m)
   try have FH:=af (FH.H m)
   try have FU:=af (FU.H m)
   refine bQ hK (by exact S) λhS=>?_
   rename G=>v
   skip))
 all_goals(
  refine tn 34 hS ?_;let⟨rc0,rc1,rc2,rc3,rc4,rc5,rc6,rc7⟩:=Sk R.1;have rf:=R.2;refine ry [35] (cn (λs hK=>?_) fI);go_simp;let⟨Z,hZ⟩:=aF (jS (jS (jS (jS (jS (jS (jS (jS v (Aw w 0) (.S pC (J nd.A) cC)) (Aw w 1) (.S pJ (J nd.V) cJ)) (Aw w 2) (.U ow)) (Aw w 3) (.I mo)) (Aw w 4) (.S pH (J nd.y) cH)) (Aw w 5) (.U ep)) (Aw w 6) (.U ge)) (Aw w 7) (.S pU (J nd.X) cU));have Gp:∀b,b≠U (Q w)->Z.heap[b]?=v.heap[b]?:=λb m=>by
   rw[hZ]
   iterate 8 rw[fN _ _ _ _ m]
  have cZ:=(aO.dt (aO.dt (aO.dt (aO.dt (aO.dt (aO.dt (aO.dt (aO.dt R 0 ai (.S pC (J nd.A) cC)) 1 ai (.S pJ (J nd.V) cJ)) 2 ai (.U ow)) 3 ai (.I mo)) 4 ai (.S pH (J nd.y) cH)) 5 ai (.U ep)) 6 ai (.U ge)) 7 ai (.S pU (J nd.X) cU));rw[<-hZ]at cZ;have YV:Bw w Z:=by rw[hZ];exact((((((((BW.setCell az _).setCell az _).setCell az _).setCell az _).setCell az _).setCell az _).setCell az _).setCell az _)
  let⟨en,Sf⟩:=mV.mk4 (B:=U (Q w)+1) FC FJ FH FU ae ae ae ae ae ae ae ae ae ae;have db:∀y∈lC++(lJ++(lH++lU)),Z.heap[y.b]?=v.heap[y.b]?:=λy hy=>Gp _ (aM (Sf.lo y hy));have EN:=dy (mV.W _ Z _ _ _ en db) ((Sf.W db).h (B':=U (Q w)) ae) YV;have SZg:lr Z g (.S pv nv cv) (.U ow) (.I mo) (.map h) (.U ep) (.U ge) (.map u):=by
   have aN:g≠U (Q w):=λe=>by have h1:=R.1 0 _ rfl;have h2:=S.2.1;rw[e]at h2;have h3:=R.1 1 _ rfl;rw[h2]at h3;simp at h3
   let⟨s0,s1,s2,s3,s4,s5,s6⟩:=aa S;have hz:=gF (Gp g aN);exact⟨(hz _).Z s0,(hz _).Z s1,(hz _).Z s2,(hz _).Z s3,(hz _).Z s4,(hz _).Z s5,(hz _).Z s6⟩
  rw[<-hZ];refine bQ hK (by exact SZg) λhS=>?_;let⟨zc0,zc1,zc2,zc3,zc4,zc5,zc6,zc7⟩:=Sk cZ.1;refine ga ?_;let⟨e1,e2,e3,e4⟩:=aa HE;go_wp2;refine bO (v:=jP #[.S pC (J nd.A) cC,.S pJ (J nd.V) cJ,.U ow,.I mo,.S pH (J nd.y) cH,.U ep,.U ge,.S pU (J nd.X) cU]) (by simp[results,results87,go_sem,zc0,zc1,zc2,zc3,zc4,zc5,zc6,zc7]) rfl ⟨_,lC++(lJ++(lH++lU)),rfl,?_,EN.2.1,EN.2.2⟩;have tA:=EN.1;rw[e1,e2,e3,e4]at tA;exact tA
  skip)
namespace T
open Go.Sort
abbrev HT(w:G)(blk off:Nat)(d:Array (List UInt8)):Prop:=Holds (λx:List UInt8=>Value.string ⟨x.toArray⟩) w blk off d
theorem bO3(cap:Nat)(w:G):Cp 197 #[.S dN 0 cap] w λe w'=>e=dR (dT #[])/\w'=w:=Tryz.slices_Sort_string_none dN cap w
theorem bO4(blk off cap:Nat)(l:List (List UInt8))(E:Mg (J l))(w:G)(h:HT w blk off l.toArray)(m:blk<U (Q w)):Cp 197 #[.S (Ad blk off) (J l) cap] w λe w'=>
   e=dR (dT #[])/\HT w' blk off (l.mergeSort (λx y=>dD (x<=y))).toArray/\jG w w' blk:=by
 refine(Tryz.slices_Sort_string blk off cap l w h m ae).h ?_;rintro e w'⟨rfl,n,B,rfl⟩;have r:U (Q (putRow encStr (Sort.ahead w n) blk off (l.mergeSort λx y=>dD (x<=y)).toArray))=U (Q w):=by simp[putRow,mapBlock,Sort.ahead]
 have q:∀i,i<U (Q w)->(grow (putRow encStr (Sort.ahead w n) blk off (l.mergeSort λx y=>dD (x<=y)).toArray) B).heap[i]?=(putRow encStr (Sort.ahead w n) blk off (l.mergeSort λx y=>dD (x<=y)).toArray).heap[i]?:=λi o=>Array.getElem?_append_left (r▸o);have u:=holds_putRow encStr (Sort.ahead w n) blk off l.toArray (l.mergeSort λx y=>dD (x<=y)).toArray h ai;refine⟨rfl,λj s=>⟨(Iz (a:=(Ad blk (off+j))) (q blk m)).Z (u j s).1,(Dj (a:=(Ad blk (off+j))) (q blk m)).Z (u j s).2⟩,rfl,rfl,rfl,by simp[grow,r],λi o D=>(q i o).Z ?_⟩;have:blk≠i:=λe=>D (by rw[e]);simp[putRow,mapBlock,Sort.ahead,yD,this]
theorem aA8:∀x y:List UInt8,Op.bytesLess x y=dD (x<y)
 |[],[]=>by simp[Op.bytesLess]
 |[],b::y=>by simp[Op.bytesLess]
 |a::x,[]=>by simp[Op.bytesLess]
 |a::x,b::y=>by have m:=aA8 x y;simp only[Op.bytesLess,m,List.cons_lt_cons_iff];by_cases j:a<b;{simp[j]};{by_cases i:a=b;{subst i;simp};{simp[j,i]}}
end T
namespace T
open Go.Maps
theorem mT:Keyed dG 9:=string_keyed underlying9
abbrev oI(x:List UInt8):dV:=jJ ⟨x.toArray⟩
def yt{H:Type}(i:DataW H)(left:Lit->Bool)(ss:List (List UInt8)):Prop:=ss.Nodup/\∀x,x∈ss↔(has i (.string x)/\left (.string x)=dF)
theorem yt.start{H:Type}(i:DataW H):yt i (has i) []:=⟨an8,λx=>by cases has i (.string x)<;>simp⟩
variable {left:Lit->Bool}{ss:List (List UInt8)}{x:List UInt8}
theorem yt.step{H:Type}{i:DataW H}(h:yt i left ss){y:DataW H}(j:left (.string x))(u:∀q,i.atKey (.string x) q=y):yt i (λz=>left z&&!z.sameKey (.string x)) (ss++[x]):=by
 have B:has i (.string x):=has_true_of_atKey u;have D:x∉ss:=λr=>by have:=((h.2 x).1 r).2;rw[j]at this;cases this
 refine⟨Ek.2 ⟨h.1,ai,λa s b o=>by simp at o;subst o;exactλe=>D (e▸s)⟩,λy=>?_⟩;by_cases m:y=x;{subst m;simp[B,Lit.sameKey]};{simp[h.2 y,m,Lit.sameKey]}
def Fq{H:Type}(i:DataW H)(ss:List (List UInt8)):Prop:=ss.Nodup/\(∀x,x∈ss↔has i (.string x))/\J ss<=Maps.size i
theorem yt.all{H:Type}{i:DataW H}(h:yt i left ss)(hl:∀j,left j=dF)(m:J ss<=Maps.size i):Fq i ss:=⟨h.1,(λx=>by rw[h.2 x,hl];simp),m⟩
abbrev kT:TypeId:=9
def aY7{key:dV}{kl:Lit}(h:keyOf dG 9 key=kl):=Maps.keyOf_str underlying9 h
theorem ce4{H:Type}(n:Nat)(q:1<=n)(l o b nn:Nat)(D0:DataW H){R:dV->Option (DataW H×List MemPlace)}(iJ m:List (List UInt8)->G->Prop)(hY:∀i x W,iJ i W->J i<Maps.size D0->YieldAt Fence.wide (n-1) dG l #[oI x] W λe j=>(e=dR (jO dY)/\iJ (i++[x]) j/\KeepsWalks W j)\/(e=dR (jO dF)/\m (i++[x]) j))(W:G)(hJ:AbidesFrom (U W.heap) iJ)(hm:I W (Ad o 0)=Y (.map b))(du:jM W dG 9 R b nn D0)(h0:iJ [] W):CallsIn Fence.wide n dG 198 #[.func (.yield l) #[] #[],Pz o] W λe j=>(∃v,e=dR v)/\((∃ss:List (List UInt8),Fq D0 ss/\iJ ss j)\/(∃i,m i j)):=iZ.scA
theorem ce3(n:Nat)(i:Option Nat)(w:G):CallsIn Fence.wide n dG 143 #[.map i] w λe w'=>e=dR (.func (.func 198) #[] #[Pz (U (Q w))])/\w'=jA w (dO #[.map i] 133):=iZ.scB
theorem bM3{H:Type}(n:Nat)(hn:1<=n)(Bm b nn:Nat)(D0:DataW H){R:dV->Option (DataW H×List MemPlace)}(w:G)(Rc:Bm<U (Q w))(hm:I w (Ad Bm 0)=Y (.map b))(du:jM w dG 9 R b nn D0):SeqStopsK Fence.wide n dG 198 #[Pz Bm] (λx:List UInt8=>#[oI x]) KeepsWalks (Fq D0) (λ_=>True) (Maps.size D0) w:=iZ.scC
end T
namespace T
open Go.Maps Go.Proofs.YtpkakgkipopiaaaGreatDoor.iZ
abbrev kS:TypeId:=145
def cf8:=og (P:=dG) (e:=9) (z:=jJ ⟨#[]⟩) (size:=1) (bytes:=16) (by kernel_rfl)
theorem cI2(n:Nat)(i:2<=n)(g:Nat)(lb:iA)(eg:∀args w,(callFunc g args).run dG w=.ok (.enter g args) w)(S Sp:List (List UInt8)->Prop)(N:Nat)(j:N<=2^20)(w:G)(MJ:SeqStopsK Fence.wide (n-1) dG g lb (λx:List UInt8=>#[oI x]) KeepsWalks S Sp N w):CallsIn Fence.wide n dG 219 #[aq,.func (.func g) #[] lb] w λe w'=>∃(v:dV)(ss:List (List UInt8)),e=dR v/\S ss/\w'.ownsRow (U (Q w)+1) 9 1 v (J ss) (ss.map oI)/\(v=aq↔ss=[])/\Bw w w':=iZ.scD
end T
namespace T
open Go.Maps Go.Sort Go.Proofs.YtpkakgkipopiaaaGreatDoor.iZ
theorem cE3(n:Nat)(i:3<=n)(g:Nat)(lb:iA)(eg:∀args w,(callFunc g args).run dG w=.ok (.enter g args) w)(S Sp:List (List UInt8)->Prop)(N:Nat)(hN:N<=2^20)(w:G)(MJ:SeqStopsK Fence.wide (n-1-1) dG g lb (λx:List UInt8=>#[oI x]) KeepsWalks S Sp N w):CallsIn Fence.wide n dG 196 #[.func (.func g) #[] lb] w λe w'=>∃(v:dV)(ss:List (List UInt8)),e=dR v/\S ss/\w'.ownsRow (U (Q w)+1) 9 1 v (J ss) (ss.map oI)/\(v=aq↔ss=[])/\Bw w w':=iZ.scE
def LK(B:Nat)(w:G)(v:dV)(ss:List (List UInt8)):Prop:=(v=aq/\ss=[])\/∃g i,v=.T g (J ss) i/\B<=g/\g<U (Q w)/\HT w g 0 ss.toArray
structure L6{H:Type}(D0:DataW H)(ss:List (List UInt8)):Prop where
 lt:ss.Pairwise (·<·)
 mem:∀x,x∈ss↔has D0 (.string x)=dY
 size:J ss<=Maps.size D0
variable {ss:List (List UInt8)}
theorem cH6{H:Type}{o:DataW H}(h:Fq o ss):L6 o (ss.mergeSort (λx y=>dD (x<=y))):=by
 have i:=List.mergeSort_perm ss (λx y=>dD (x<=y));refine⟨?_,λx=>(i.mem_iff).Z (h.2.1 x),by rw[i.length_eq];exact h.2.2⟩;have m:=cb3 (le:=λx y:List UInt8=>dD (x<=y)) (λa b c m j=>by simp only[lx]at*;exact List.le_trans m j) (λa b=>by simp only[PG,lx];exact List.le_total a b) ss;have j:(ss.mergeSort (λx y=>dD (x<=y))).Pairwise (·≠·):=i.nodup_iff.2 h.1;refine(m.and j).imp (λ{a b}⟨x,y⟩=>?_);simp only[lx]at x;exact cb2 λq=>y (List.le_antisymm x q)
theorem bO2(n:Nat)(i:4<=n)(g:Nat)(lb:iA)(eg:∀args w,(callFunc g args).run dG w=.ok (.enter g args) w)(S Sp:List (List UInt8)->Prop)(N:Nat)(hN:N<=2^20)(hS:∀ss,S ss->Mg (J ss))(w:G)(MJ:SeqStopsK Fence.wide (n-1-1-1) dG g lb (λx:List UInt8=>#[oI x]) KeepsWalks S Sp N w):CallsIn Fence.wide n dG 142 #[.func (.func g) #[] lb] w λe w'=>∃(v:dV)(ss:List (List UInt8)),e=dR v/\S ss/\LK (U (Q w)) w' v (ss.mergeSort (λx y=>dD (x<=y)))/\Bw w w':=iZ.scG
theorem WS{H:Type}(b nn:Nat)(D0:DataW H){R:dV->Option (DataW H×List MemPlace)}(w:G)(du:jM w dG 9 R b nn D0)(gK:Maps.size D0<=2^20):Cp 86 #[.map b] w λe w'=>∃(v:dV)(ss:List (List UInt8)),e=dR v/\L6 D0 ss/\LK (U (Q w)) w' v ss/\Bw w w':=iZ.scH
end T
open Go.Maps
section
variable {P:Program}(w:World){ops:iQ}{rest:List Oper}{o:Oper}{a:Act}{iZ:Exit->Act->World->Prop}
theorem bI6(E:o.guard=dN)(m x:Operand)(t:TypeId)(r:o.op=Op.lookup t m x dY)(k e:TypeId)(K:Keyed P k)(B:P.underlying t=Y (.map k e))(s:(zeroValue e).run P w=.ok (dP dN) w)(b n:Nat)(D:DataW Unit)(l:List (Lit×Nat))(q:qC D l)(hm:a.eval m=.map b)(N:jM w P k iB b n D)(key:dV)(p:Lit×Nat)(j:p∈l)(y:a.eval x=key)(M:keyOf P k key=p.1)(hK:wpList P ops iZ rest (a.put o.dst (dT #[Pz p.2,jO dY])) w):wpList P ops iZ (o::rest) a w:=
 wpList_lookup_own_ok w E m x t r k e K B iB s .nil [] rfl b n D hm N key p.1 y M (λv R i=>by rw[q.at' p j]at i;obtain rfl:=Uc i;rw[(q.hs p.1).2 ⟨p,j,rfl⟩];exact hK)
theorem cW4(M:o.guard=dN)(m x:Operand)(t:TypeId)(q:o.op=Op.lookup t m x dY)(k e:TypeId)(K:Keyed P k)(B:P.underlying t=Y (.map k e))(s:(zeroValue e).run P w=.ok (dP dN) w)(b n:Nat)(D:DataW Unit)(l:List (Lit×Nat))(N:qC D l)(hm:a.eval m=.map b)(S:jM w P k iB b n D)(key:dV)(kl:Lit)(r:∀p∈l,p.1≠kl)(y:a.eval x=key)(R:keyOf P k key=kl)(hK:wpList P ops iZ rest (a.put o.dst (dT #[dP dN,jO dF])) w):wpList P ops iZ (o::rest) a w:=
 wpList_lookup_own_ok w M m x t q k e K B iB s .nil [] rfl b n D hm S key kl y R (λv V i=>by
  have j:Maps.has D kl=dF:=by rw[Eh];intro h;let⟨p,E,e⟩:=(N.hs kl).1 h;exact r p E e
  rw[Maps.atKey_of_not_has j]at i;obtain rfl:=aP3 i;rw[j];exact hK)
end
theorem Tn(w:G):(zeroValue 137).run dG w=.ok (dP dN) w:=by kernel_rfl
theorem al7(h:kU ns l=nd):nd.A=l/\∃i:Nat,ns[i]?=nd:=by
 have m:=XD h;have j:=an7 h;exact⟨by simpa using m,Dg j⟩
theorem bY5(h:kU ns l=dN):∀nd∈ns,nd.A≠l:=by
 intro nd i e;have:=Um.1 h nd i;simp[e]at this
variable {ss:List aC}{x:Int}
theorem ez3{SB NB HB UB:iN}(l:LI)(w:G)(E:O (Jv w0 w b bs bn e g x t ss ns SB NB HB UB))(hB:O (aA l))(nO:O (∀nd∈ns,aA nd.A))(hl:J l<=1048577)(B:Bool)(eB:O (pI ns l=B)):dQ dG 153 #[Pz b,jJ (bf l)] w (Rb (jO B) w):=by
 have xv:I w (Ad b 5)=Y (.map bn):=cX E.hd 5;let⟨D,oD,mD⟩:=E.kc.own;have fe:keyOf dG 9 (jJ (bf l))=(dr l):=by rw[WideMaps.keyOf_string_mk underlying9 (by rw[DM];unfold maxLen;omega),VH]
 have S:=af oD;have W:=af mD;have M:=af fe;have o:((bf l).toList==(bf [47]).toList)=dD (l=[47]):=NU hB (by intro y hy;simp at hy;omega);rw[show(bf [47]).toList=[47]from Cv [47]]at o;clear oD mD fe;let⟨s,es⟩:=aF (bf l);rw[<-es]at o M⊢;clear es;by_cases q:l=[47];{
 obtain rfl:B:=by rw[<-aa eB,pI,aK q]
 have hr:(s.toList==[47]):=by rw[o];simp[q]
 clear o q;go_in;go_wp2;go_ret;exact⟨rfl,aR _ _⟩};{
 have hr:(s.toList==[47])=dF:=by rw[o];simp[q]
 have j:(match kU ns l with|some nd=>nd.D==0|none=>dF)=B:=by rw[<-aa eB,pI,aJ q];rfl
 clear o q;cases hF:kU ns l with
 | none=>
  rw[hF]at j;obtain rfl:B=dF:=j.C;have iT:O (∀p∈jZ (λ(nd:au)g=>(dr nd.A,g)) ns NB,p.1≠dr l):=by intro p r;obtain⟨i,nd,y,hx,hy,rfl⟩:=yv r;intro ee;have hm:=bq hx;exact bY5 hF nd hm (MC (aa nO nd hm) hB ee)
  clear hF j;go_in;go_wp2_with(first
   |(at_lookup;refine cW4 _ rfl _ _ 133 rfl 9 _ sG underlying133 (Tn _) bn _ D _ W rfl S _ (dr l) iT rfl M ?_)
   |go_in)
  go_ret;exact⟨rfl,aR _ _⟩
 | some nd=>
  rw[hF]at j;replace j:(nd.D==0)=B:=j;let⟨r,i,u⟩:=al7 hF;let⟨m,h1,u1,N,Z,X⟩:=E.kc.at u;let⟨_,_,_,⟨V,a4,_⟩,_,_⟩:=E.kc.blk i nd m h1 u1 u N Z X;have R:I w (Ad m 1)=dU nd.D:=cX a4 1;have mF:O ((dr l,m)∈jZ (λ(nd:au)g=>(dr nd.A,g)) ns NB):=by show _∈_;rw[ji];refine⟨i,?_⟩;rw[qV,u,N];show Y (dr nd.A,m)=Y (dr l,m);rw[r]
  let⟨ow,EW⟩:=aZ nd.D;rw[EW]at R j;clear hF r u N Z X a4 EW;cases B with
  | true=>
   obtain rfl:ow=0:=by simpa using j
   clear j;go_in;go_wp2_with(first
    |(at_lookup;refine bI6 _ rfl _ _ 133 rfl 9 _ sG underlying133 (Tn _) bn _ D _ W rfl S _ (dr l,m) mF rfl M ?_)
    |go_in)
   go_ret;exact⟨rfl,aR _ _⟩
  | false=>
   have ho:(ow==0)=dF:=j;clear j;go_in;go_wp2_with(first
    |(at_lookup;refine bI6 _ rfl _ _ 133 rfl 9 _ sG underlying133 (Tn _) bn _ D _ W rfl S _ (dr l,m) mF rfl M ?_)
    |go_in)
   go_ret;exact⟨rfl,aR _ _⟩}
def ME(e g x t:Int)(n m:Nat):Bool:=dD (e<=2^62/\g<=2^62/\x<=2^62/\0<=t/\t<=1000000/\n<=50/\m<=200)
variable {B:Bool}
theorem dA8(j:Mg n)(hm:Mg m)(i:O (ME e g x t n m=B)):dQ dG 88 #[bS e g x t (.S p n c) (.S q m d)] w (Rb (jO B) w):=by
 go_in
 go_wp21
 all_goals(
  go_ret;refine⟨?_,aH.alloc az _⟩;rw[<-aa i];simp only[ME,aS6,aU9])
 all_goals first|(simp_all;done)|(simp_all;omega)|(show Value.bool (dD ((m:Int)<=200))=Value.bool _;congr 1;rw[PQ,vK,vK];omega)|skip
theorem cY9{o i m j:Int}{P V iU:dV}(r:Mg n)(q:O (qx e g i n m j=B)):dQ dG 203 #[Ka P V o i (.S p n c) m j iU,.U e,.U g] w (Rb (jO B) w):=by
 go_in
 go_wp21
 all_goals(
  go_ret;refine⟨?_,aH.alloc az _⟩;rw[<-aa q];simp only[qx,aS6,aU9])
 all_goals first|(simp_all;done)|(simp_all;omega)|skip
def Ob(l:LI):Bool:=vj (J l) (λi j=>dD (jE l i 0<jE l j 0))
def yB(e g:Int)(nd:au):Bool:=vp nd.A&&(dD (J nd.V<=40)&&(qx e g nd.M (J nd.y) nd.P nd.F&&(Ob nd.y&&Ob nd.X)))
variable {N:dV}
theorem cZ0{D vq X M:OA}{E u vc q hc r R s:Nat}(we:Le nd.A u)(Nz:Le nd.V q)(Bj:Le nd.y r)(DI:Le nd.X s) (h0:Rd w (.S D u E) nd.A)(h4:RdU w (.S X r hc) nd.y)(h7:RdU w (.S M s R) nd.X)(Nj:O (aA nd.A))(Dt:u<=2^20)(hvn:q<=2^20)(Ey:r<=2^20)(Es:s<=2^20)(vg:vr (.S D u E))(py:ML w)(eB:O (yB e g nd=B)):dQ dG 149 #[Ka (.S D u E) (.S vq q vc) nd.D nd.M (.S X r hc) nd.P nd.F (.S M s R),bS e g x t S N] w (Rb (jO B) w):=by
 let⟨gL,ju⟩:=vg.of;obtain⟨ow,mo,ep,ge,e1,e2,e3,e4⟩:∃a b c d,nd.D=a/\nd.M=b/\nd.P=c/\nd.F=d:=⟨_,_,_,_,rfl,rfl,rfl,rfl⟩
 rw[e1,e2,e3,e4];have HR:=af λ(w':G)(Z:Bw w w')=>aD (h0.H Z) (aD (h4.H Z) (aD (h7.H Z) (py.H Z)));obtain⟨T1,E1⟩:∃T,O (vp nd.A=T):=⟨_,cO⟩;obtain⟨T3,E3⟩:∃T,O (qx e g mo r ep ge=T):=⟨_,cO⟩;obtain⟨T4,E4⟩:∃T,O (vj r (λi j=>dD (jE nd.y i 0<jE nd.y j 0))=T):=⟨_,cO⟩;obtain⟨T5,E5⟩:∃T,O (vj s (λi j=>dD (jE nd.X i 0<jE nd.X j 0))=T):=⟨_,cO⟩;have hB:B=(T1&&(dD (q<=40)&&(T3&&(T4&&T5)))):=by rw[<-aa eB,yB,Ob,Ob,e2,e3,e4,aa Nz,aa Bj,aa DI,aa E1,aa E3,aa E4,aa E5]
 have HB:=af hB;clear h0 h4 h7 py hB eB e1 e2 e3 e4 vg;let⟨W,m⟩:=aF (jA (jA w (dO #[.S D u E,.S vq q vc,.U ow,.I mo,.S X r hc,.U ep,.U ge,.S M s R] 69)) (dO #[.U e,.U g,.U x,.I t,S,N] 34));have bW:Bw w W:=m▸(aH.alloc az _).alloc ai _;have k0:I W (Aw w 0)=dS D u E:=by rw[m];simp
 have k1:I W (Aw w 1)=dS vq q vc:=by rw[m];simp
 have k2:I W (Aw w 2)=dU ow:=by rw[m];simp
 have k3:I W (Aw w 3)=dI mo:=by rw[m];simp
 have V:I W (Aw w 4)=dS X r hc:=by rw[m];simp
 have k5:I W (Aw w 5)=dU ep:=by rw[m];simp
 have k6:I W (Aw w 6)=dU ge:=by rw[m];simp
 have y:I W (Aw w 7)=dS M s R:=by rw[m];simp
 have k8:I W (Ax w 0)=dU e:=by rw[m];simp
 have k9:I W (Ax w 1)=dU g:=by rw[m];simp
 go_in
 go_wp21
 rw[<-m];refine cK (aZ7 we (aa HR _ bW).1 Nj Dt gL ju (aa HR _ bW).2.2.2 E1) λw1 o=>?_;have b1:=ah bW o;cases T1 with
 |false=>
  obtain rfl:B=dF:=by rw[aa HB];rfl
  go_wp2;go_ret;exact⟨rfl,b1⟩
 |true=>
  replace k0:=aj k0 o;replace k1:=aj k1 o;replace k2:=aj k2 o;replace k3:=aj k3 o;replace V:=aj V o;replace k5:=aj k5 o;replace k6:=aj k6 o;replace y:=aj y o;replace k8:=aj k8 o;replace k9:=aj k9 o;by_cases hv:(q:Int)<=40;{
 have mL:O (B=(T3&&(T4&&T5))):=by show _=_;rw[aa HB,show dD (q<=40)=dY by(rw[vK];omega)];rfl
 go_wp21
 refine cK (cY9 Ey E3) λw2 ay=>?_;have b2:=ah b1 ay;cases T3 with
 |false=>
  obtain rfl:B=dF:=by rw[aa mL];rfl
  go_wp2;go_ret;exact⟨rfl,b2⟩
 | true=>
  replace V:=aj V ay;replace y:=aj y ay
  go_wp21
  refine cK (cH8 Bj (aa HR _ b2).2.1 Ey E4) λw3 aE=>?_;have b3:=ah b2 aE;cases T4 with
  |false=>
   obtain rfl:B=dF:=by rw[aa mL];rfl
   go_wp2;go_ret;exact⟨rfl,b3⟩
  |true=>
   obtain rfl:B=T5:=by rw[aa mL];rfl
   replace y:=aj y aE
   go_wp21
   refine cK (cH8 DI (aa HR _ b3).2.2.1 Es E5) λw4 cG=>?_;have b4:=ah b3 cG;go_wp2;go_ret;exact⟨rfl,b4⟩};{
 obtain rfl:B=dF:=by rw[aa HB,show dD (q<=40)=dF by(rw[Iw];omega)];rfl
 go_wp2;go_ret;exact⟨rfl,b1⟩}
def CJ(x:Int)(ss:List aC):Bool:=(jR (J ss)).all (λi=>Fx x (jE ss i (0,0,[])))&&vj (J ss) (λi j=>dD ((jE ss i (0,0,[])).1<(jE ss j (0,0,[])).1))
def BM(e g:Int)(ns:List au):Bool:=(jR (J ns)).all (λi=>yB e g (jE ns i jt))&&vj (J ns) (λi j=>!leB (jE ns j jt).A (jE ns i jt).A)
theorem cY6(en:Le ss n)(h:mJ w (.S p n c) ss)(hn:Mg n)(gy:O (Bs ss))(py:ML w)(eB:O (CJ x ss=B)):dQ dG 89 #[bS e g x t (.S p n c) N] w (Rb (jO B) w):=by
 have HR:=af λ(w':G)(hb:Bw w w')=>aD (h.H hb) (py.H hb);obtain⟨T2,E2⟩:∃T,O (vj n (λi j=>dD ((jE ss i (0,0,[])).1<(jE ss j (0,0,[])).1))=T):=⟨_,cO⟩;have HB:O (B=((jR n).all (λi=>Fx x (jE ss i (0,0,[])))&&T2)):=by show _=_;rw[<-aa eB,CJ,aa en,aa E2]
 go_in
 go_wp21
 let⟨W,s⟩:=aF (jA w (dO #[.U e,.U g,.U x,.I t,.S p n c,N] 34));have bW:=ij s;have ju:I W (Aw w 2)=dU x:=by rw[s];simp
 have AM:I W (Aw w 4)=dS p n c:=by rw[s];simp
 rw[<-s];have BW:=af bW;have yj:=br ju AM
 go_loopw[8](λX wr=>∃k:Nat,k<=n/\X=.I k/\O ((jR k).all (λi=>Fx x (jE ss i (0,0,[]))))/\Bw W wr) (λX _=>n-(jN (intOf X)))
 exact⟨0,cT _,rfl,cO,aR _ _⟩;{
 obtain⟨k,hk,rfl,fk,M⟩:=hrel;have R:=ah BW M;have i2:=aj yj.1 M;have i4:=aj yj.2 M;by_cases aL:k<n;{
 have cM:=bR k n;have db:k<J ss:=aa en▸aL;let⟨⟨r,D,q⟩,Z⟩:=sj db;have xM:jE ss k (0,0,[])=(r,D,q):=by rw[iR,Z];rfl
 obtain⟨b,o,rfl,hcI,hcD,u,YN,Qj⟩:∃b o,p=(Ad b o)/\I wr (Ad b (o+k*3))=dU r/\I wr (Ad b (o+k*3+1))=dI D/\∃u,I wr (Ad b (o+k*3+2))=Y u/\ur wr u q:=by let⟨p',c',ev,hd⟩:=(aa HR _ R).1;obtain⟨rfl,-,-⟩:=mg ev;obtain h0|⟨b,o,h1,h2⟩:=hd;{rw[h0]at db;simp at db};{exact⟨b,o,h1,h2 k _ Z⟩}
 let⟨hQl,hQb⟩:=aa gy _ (bq Z);obtain⟨pq,cq,rfl,-⟩:=id Qj;let⟨m,em⟩:=aZ (J q);rw[em]at Qj YN;have hm:m<=2^20:=em▸hQl;have EM:=af em;have HBQ:O (∀e∈q,aA e.2/\J e.2<=2^20):=hQb;let⟨V,eV⟩:=aZ (Fx x (r,D,q));have EV:=af eV;have HF:O (V=dF->B=dF):=λh=>by rw[aa HB,Ik aL (by rw[xM,eV];exact h)];rfl
 have HT:O (V->O ((jR (k+1)).all (λi=>Fx x (jE ss i (0,0,[]))))):=λh=>Fz fk (by rw[xM,eV];exact h);have E:Bw wr ((jA wr (dO #[.U r,.I D,.S pq m cq] 65))):=aH.alloc az _;have Wd:=af (Qj.H E);have HML:=af ((aa HR _ R).2.H E);have j2:=aj i2 E
 go_wp21
 refine cK (dh5 EM (by exact Wd) hm HBQ (by exact HML) EV) λw2 ay=>?_;have y:=ah M (ah E ay);have B3:=ah BW y;cases V with
 |false=>
  obtain rfl:=aa HF rfl;go_wp2;go_ret;exact⟨rfl,B3⟩
 |true=>
  have lh:=aa HT rfl;go_wp2;go_roundw;exact⟨k+1,ae,by go_num,lh,y⟩;exact dh};{
 have cM:=fG k n;have DG:k=n:=ae;have eT:B=T2:=by rw[aa HB,show(jR n).all (λi=>Fx x (jE ss i (0,0,[])))=dY from DG▸aa fk,xm]
 subst eT
 go_wp21
 refine cK (eC9 en (aa HR _ R).1.rd hn E2) λw2 ay=>?_;have y:=ah R ay;go_wp2;go_ret;exact⟨rfl,y⟩}}
theorem cY7(Z:Le ns m)(h:iy w (.S q m d) ns)(hm:Mg m)(cW:O (Bn ns))(py:ML w)(eB:O (BM e g ns=B)):dQ dG 90 #[bS e g x t S (.S q m d)] w (Rb (jO B) w):=by
 have HR:=af λ(w':G)(hb:Bw w w')=>aD (h.H hb) (py.H hb);obtain⟨T2,E2⟩:∃T,O (vj m (λi j=>!leB (jE ns j jt).A (jE ns i jt).A)=T):=⟨_,cO⟩;have HB:O (B=((jR m).all (λi=>yB e g (jE ns i jt))&&T2)):=by show _=_;rw[<-aa eB,BM,aa Z,aa E2]
 go_in
 go_wp21
 let⟨W,X⟩:=aF (jA w (dO #[.U e,.U g,.U x,.I t,S,.S q m d] 34));have bW:=ij X;have AL:gH W (U (Q w)) e g x t S (.S q m d):=by rw[X];simp[gH]
 rw[<-X];have BW:=af bW;have Fl:=af AL
 go_loopw[8](λM wr=>∃k:Nat,k<=m/\M=.I k/\O ((jR k).all (λi=>yB e g (jE ns i jt)))/\Bw W wr) (λM _=>m-(jN (intOf M)))
 exact⟨0,cT _,rfl,cO,aR _ _⟩;{
 obtain⟨k,hk,rfl,fk,aB⟩:=hrel;have E:=ah BW aB;let⟨i0,i1,i2,i3,i4,i5⟩:=Fl.H aB;by_cases aL:k<m;{
 have cM:=bR k m;have db:k<J ns:=aa Z▸aL;let⟨s,N⟩:=sj db;have xM:jE ns k jt=s:=by rw[iR,N];rfl
 obtain⟨b,o,rfl,hA⟩:=(aa HR _ E).1.at ae;let⟨P,V,H,iU,u⟩:=hA k s N;let⟨qO,fw,Nl,Nk,Lg⟩:=aa cW _ (bq N);obtain⟨pp,pc,pn,rfl,we⟩:=u.r0.fO;obtain⟨JS,vc,vn,rfl,Nz⟩:=u.r1.fO;obtain⟨hp,hc,hh,rfl,Bj⟩:=u.r4.fO;obtain⟨up,uc,un,rfl,DI⟩:=u.r7.fO;have Dt:pn<=2^20:=aa we▸fw;have R:vn<=2^20:=aa Nz▸Nl;have Ey:hh<=2^20:=aa Bj▸Nk;have Es:un<=2^20:=aa DI▸Lg;have Fm:O (aA s.A):=qO;let⟨T,eV⟩:=aZ (yB e g s);have EV:=af eV;have HF:O (T=dF->B=dF):=λh=>by rw[aa HB,Ik aL (by rw[xM,eV];exact h)];rfl
 have HT:O (T->O ((jR (k+1)).all (λi=>yB e g (jE ns i jt)))):=λh=>Fz fk (by rw[xM,eV];exact h);have r:Bw wr (jA wr (dO #[.S pp pn pc,.S JS vn vc,.U s.D,.I s.M,.S hp hh hc,.U s.P,.U s.F,.S up un uc] 69)):=aH.alloc az _;have D:=af (u.H r);have HML:=af ((aa HR _ E).2.H r);obtain⟨c0,c1,c2,c3,c4,c5,c6,c7,-,-,-,-,-⟩:=u;have j0:=aj i0 r;have j1:=aj i1 r;have j2:=aj i2 r;have j3:=aj i3 r;have j4:=aj i4 r;have j5:=aj i5 r
 go_wp21
 refine cK (cZ0 we Nz Bj DI (by exact D.r0) (by exact D.r4) (by exact D.r7) Fm Dt R Ey Es D.k0 (by exact HML) EV) λw2 ay=>?_;have y:=ah aB (ah r ay);have B3:=ah BW y;cases T with
 |false=>
  obtain rfl:=aa HF rfl;go_wp2;go_ret;exact⟨rfl,B3⟩
 |true=>
  have lh:=aa HT rfl;go_wp2;go_roundw;exact⟨k+1,ae,by go_num,lh,y⟩;exact dh};{
 have cM:=fG k m;have DG:k=m:=ae;have eT:B=T2:=by rw[aa HB,show(jR m).all (λi=>yB e g (jE ns i jt))=dY from DG▸aa fk,xm]
 subst eT
 go_wp21
 refine cK (eD0 Z (aa HR _ E).1 hm E2) λw2 ay=>?_;have y:=ah E ay;go_wp2;go_ret;exact⟨rfl,y⟩}}
theorem ap5:∀(key:dV)(i:Lit),keyOf dG 9 key=i->∃s:ByteArray,key=jJ s:=by
 intro key i j;cases key<;>simp[keyOf,underlying9,mapKey]at j
 exact⟨_,rfl⟩
theorem ce7(h:keyOf dG 9 (jJ s)=(dr l)):s=bf l:=by
 simp[keyOf,underlying9,mapKey]at h;exact dA4 h.2
theorem XS{m:LI}(hl:aA l)(hm:aA m):(dr l).sameKey (dr m)=dD (l=m):=by
 rw[PQ,an0 (by trivial),vK];exact⟨λh=>MC hl hm h,λh=>by rw[h]⟩
theorem dW2{SB NB HB UB:iN}(E:O (Jv w0 w b bs bn e g x t ss ns SB NB HB UB))(W:O (∀nd∈ns,aA nd.A/\J nd.A<=2^20))(eB:O (ns.all (λnd=>pI ns (im nd.A))=B)):dQ dG 91 #[Pz b] w (Rb (jO B) w):=by
 have xv:I w (Ad b 5)=Y (.map bn):=cX E.hd 5;let⟨D,oD,mD⟩:=E.kc.own;let⟨m,em⟩:=aZ (J ns);rw[em]at oD;have Z:O (∀nd∈ns,aA nd.A):=λnd h=>(aa W nd h).1;have MD:=af mD;go_in;go_wp2_with(first
  |(at_range;refine wpList_range_own _ rfl _ 133 rfl 9 _ sG underlying133 _ bn m _ rfl oD ?_;intro w1 uF pY xR)
  |go_in)
 go_frame
 go_loopw[3](λ_ wr=>∃(left:Lit->Bool)(kK:Nat),wr.ranges dG 9 iB bn (U (Q w)) m D left kK/\O (∀nd∈ns,left (dr nd.A)=dF->pI ns (im nd.A))/\Bw w wr) (λ_ wr=>wr.rangeLeft bn (U (Q w)))
 case atStart=>(
 refine⟨_,_,uF,λnd u q=>?_,bm3 pY⟩;exfalso;let⟨i,N⟩:=Dg u;let⟨X,h1,u1,q1,q2,q3⟩:=E.kc.at N;have:Maps.has D (dr nd.A):=(MD.hs _).2 ⟨(dr nd.A,X),by rw[ji];refine⟨i,?_⟩;rw[qV,N,q1],rfl⟩
 rw[this]at q;cases q)
 case round=>(
 obtain⟨left,kK,gU,fk,R⟩:=hrel;have il:=af (E.H R);go_wp2_with(first
  |(at_next;refine OP _ rfl _ rfl 9 sG (λs:ByteArray=>.string s) ap5 bn (U (Q w)) m _ _ MD _ _ rfl gU ?_ ?_)
  |go_in)
 {
 intro _ qL;have y:B:=by rw[<-aa eB,lW];exactλnd u=>aa fk nd u (qL _)
 subst y;go_wp2;go_ret;exact⟨rfl,R⟩};{
 intro s pl X S xy fe hp IT vQ aL dw fh tA;let⟨i,nd,Ri,N,uJ,ee⟩:=yv hp;simp only[jk]at ee;obtain⟨rfl,rfl⟩:=ee;have ay:Bw w S:=Cw R dw R.size (λj hj=>by cases hj;exact fq _);obtain rfl:=ce7 fe;have u:=bq N;let⟨V,fw⟩:=aa W nd u;let⟨T,y⟩:=aZ (pI ns (im nd.A));have ET:=af y;have HF:O (T=dF->B=dF):=λh=>by rw[<-aa eB,XJ];exact⟨nd,u,by rw[y,h];simp⟩
 have HT:O (T->O (∀o∈ns,(λz=>left z&&!z.sameKey (dr nd.A)) (dr o.A)=dF->pI ns (im o.A))):=λh o M q=>by simp only[XS (aa W o M).1 V]at q;by_cases ep:o.A=nd.A;{rw[ep,y,h]};{simp[ep]at q;exact fk o M q}
 have jy:O (aA nd.A):=V;have qj:=af (Ud V);have kx:J (im nd.A)<=1048577:=by unfold im;split;{simp};{rw[te];omega}
 have aE0:=af (E.H ay);have U5:(Instr.entry (Pz (U (Q w)))).run dG S=.ok (dT #[jJ (bf nd.A),Pz X]) S:=tA
 go_wp21
 refine(aP5 cO jy fw).h ?_;rintro r w3⟨rfl,rfl⟩
 go_wp21
 refine cK (ez3 (im nd.A) _ aE0 qj Z kx T ET) λw4 cG=>?_;have b4:=ah ay cG;cases T with
 |false=>
  obtain rfl:=aa HF rfl;go_wp2;go_ret;exact⟨rfl,b4⟩
 |true=>
  have lh:=aa HT rfl;have Qi:=vQ.kept (mn cG dN) ai ai;go_wp2;go_roundw;exact⟨_,xy,Qi,lh,b4⟩
  case measure=>rw[Qi.left_eq,gU.left_eq];exact aL})
def JA(nd:au)(i:Int):Prop:=(nd.D≠0/\i=nd.D)\/i∈nd.y\/i∈nd.X
theorem kM.del{s:LI}(h:kM D s)(i:Int):kM (D.del (.U i)) (s.filter λj=>dD (j≠i)):=by
 intro o;by_cases e:o=.U i;{subst e;rw[Maps.has_del_same];simp};{rw[Maps.has_del_other e,h o];constructor;{rintro⟨j,m,rfl⟩;refine⟨j,?_,rfl⟩;rw[Kj];exact⟨m,by simpa using λq=>e (by rw[q])⟩};{rintro⟨j,m,rfl⟩;exact⟨j,(Kj.1 m).1,rfl⟩}}
theorem aZ2:∀(key:dV)(j:Lit),keyOf dG 24 key=j->∃i:Int,key=.U i:=by
 intro key j m;obtain⟨x,rfl,_⟩:=keyOf_int_inv underlying24 m;exact⟨x,rfl⟩
theorem xC.uniq{NB HB UB:iN}(h:xC w0 w bn ns NB HB UB){nd':au}(y:ns[i]?=nd)(q:ns[j]?=nd')(Z:nd.A=nd'.A):nd=nd':=by
 let⟨D,_,N⟩:=h.own;let⟨g1,_,_,x,_,_⟩:=h.at y;let⟨g2,_,_,s,_,_⟩:=h.at q;have X:(dr nd.A,g1)∈jZ (λ(nd:au)g=>(dr nd.A,g)) ns NB:=by rw[ji];exact⟨i,by rw[qV,y,x]⟩
 have W:(dr nd'.A,g2)∈jZ (λ(nd:au)g=>(dr nd.A,g)) ns NB:=by rw[ji];exact⟨j,by rw[qV,q,s]⟩
 have V:=N.at' _ X .nil;have r:=N.at' _ W .nil;simp only[Z]at V;simp only at r;rw[V]at r;simp only[DataW.lit.injEq,Mq,Iq,Int.natCast_inj]at r;subst r;have S:=(bu.1 x).1;have R:=(bu.1 s).1;have M:=FO.1 h.kc;have E:=(bu.1 x).2;have B:=(bu.1 s).2;have:i=j:=by obtain m|m|m:=Mz i j;{exact absurd (E.Z B.C) (M i j S R m)};{exact m};{exact absurd (B.Z E.C) (M j i R S m)}
 subst this;rw[y]at q;cases q;rfl
theorem db3{SB NB HB UB:iN}(bD:O (Jv w0 w b bs bn e g x t ss ns SB NB HB UB))(nO:O (∀nd∈ns,aA nd.A/\J nd.y<=2^20/\J nd.X<=2^20))(tp:O (Bo ns))(em:Le ns m)(hm:Mg m)(en:Le ss n):dQ dG 92 #[Pz b] w λr w'=>∃nb k D s,r=dR (.map (Y nb))/\jM w' dG 24 unitElem nb k D/\kM D s/\(∀i,i∈s↔(∃nd∈ns,JA nd i)/\¬∃z∈ss,z.1=i)/\Bw w w':=by
 have xv:I w (Ad b 5)=Y (.map bn):=cX bD.hd 5;have AM:I w (Ad b 4)=Y (.map bs):=cX bD.hd 4;have xW:b<U (Q w):=gD bD.hd;let⟨D,oD,mD⟩:=bD.kc.own;let⟨Ds,oS,mS⟩:=bD.Af.own;rw[aa em]at oD;rw[aa en]at oS;have MD:=af mD;have MS:=af mS;have OS:=af oS;have Oz:=af AM;have MP:=@an1 dG;have b1:Bw w (w.alloc (.map #[] 0)):=aH.alloc az _;have fl8:=aj xv b1;have oD1:=oD.alloc (.map #[] 0);go_in;go_wp2_with(first
  |(at_range;refine wpList_range_own _ rfl _ 133 rfl 9 _ sG underlying133 _ bn m _ rfl oD1 ?_;intro w1 uF pY xR)
  |go_in)
 go_frame
 have fy:U (Q (w.alloc (.map #[] 0)))=U (Q w)+1:=ai;have ao:Bw w w1:=ah b1 (bm3 pY);have o0:jM w1 dG 24 (unitElem (H:=Unit)) (U (Q w)) 0 (.map []):=(World.ownsMap_made w _ _ _).kept pY ai;rw[fy]at uF⊢;have Oq:=af fy
 go_loopw[5](λ_ wr=>∃(left:Lit->Bool)(kK k:Nat)(E:DataW Unit)(s:LI),wr.ranges dG 9 iB bn (U (Q w)+1) m D left kK/\k+kK*2097153<=m*2097153/\jM wr dG 24 unitElem (U (Q w)) k E/\O (kM E s/\∀i,i∈s↔∃nd∈ns,left (dr nd.A)=dF/\JA nd i)/\Bw w wr) (λ_ wr=>wr.rangeLeft bn (U (Q w)+1))
 case atStart=>(
 refine⟨_,_,0,_,[],uF,?_,o0,⟨kM.nil,λi=>?_⟩,ao⟩;{have:=oD.size_le;omega};{
 constructor;{intro h;cases h};{
 rintro⟨nd,aG,hl,_⟩;exfalso;let⟨i,hi⟩:=Dg aG;let⟨N,R,u1,q1,q2,q3⟩:=bD.kc.at hi;have:Maps.has D (dr nd.A):=(MD.hs _).2 ⟨(dr nd.A,N),by rw[ji];refine⟨i,?_⟩;rw[qV,hi,q1],rfl⟩
 rw[this]at hl;cases hl}})
 case round=>(
 obtain⟨left,kK,k,E,s,gU,hkc,du,xq,aB⟩:=hrel;go_wp2_with(first
  |(at_next;refine OP _ rfl _ rfl 9 sG (λs:ByteArray=>.string s) ap5 bn (U (Q w)+1) m _ _ MD _ _ (by first|rfl|(rw[<-aa Oq];rfl)) gU ?_ ?_)
  |go_in)
 {
 intro _ qL;have fh:O (∀i,i∈s↔∃nd∈ns,JA nd i):=λi=>by rw[xq.2 i];constructor;{rintro⟨nd,R,_,S⟩;exact⟨nd,R,S⟩};{rintro⟨nd,R,S⟩;exact⟨nd,R,qL _,S⟩}
 have xQ:=af xq.1;have AM:=aj Oz aB;have oS1:=OS.kept (mn aB dN) ai;let⟨iY,eY⟩:=aF wr;subst eY;go_wp2_with(first
  |(at_range;refine wpList_range_own _ rfl _ 132 rfl 24 _ mT underlying132 _ bs n _ rfl oS1 ?_;intro w3 Eu pX hs3)
  |go_in)
 go_frame
 have UK:=du.kept pX ai;have X:Bw w w3:=Cw aB pX aB.size (λj M=>by cases M);have iC:U (Q w)<U (Q iY):=du.lt
 go_loopw[6](λ_ wr=>∃(left:Lit->Bool)(kK:Nat)(E:DataW Unit)(s':LI),wr.ranges dG 24 iB bs (U (Q iY)) n Ds left kK/\jM wr dG 24 unitElem (U (Q w)) k E/\O (kM E s'/\∀i,i∈s'↔i∈s/\¬∃z∈ss,z.1=i/\left (.U i)=dF)/\Bw w wr) (λ_ wr=>wr.rangeLeft bs (U (Q iY)))
 case atStart=>(
 refine⟨_,_,E,s,Eu,UK,⟨xQ,λi=>?_⟩,X⟩;constructor;{
 intro hi;refine⟨hi,?_⟩;rintro⟨z,hz,rfl,hl⟩;let⟨j,M⟩:=Dg hz;obtain⟨gz,AI⟩:∃gz,SB[j]?=Y gz:=⟨_,bN (bD.Af.len▸(bu.1 M).1)⟩;have:Maps.has Ds (.U z.1):=(MS.hs _).2 ⟨(.U z.1,gz),by rw[ji];exact⟨j,by rw[qV,M,AI]⟩,rfl⟩
 rw[this]at hl;cases hl};{exactλh=>h.1})
 case round=>(
 obtain⟨left,kK,E1,s',gU,Ku,xq,aB⟩:=hrel;go_wp2_with(first
  |(at_next;refine OP _ rfl _ rfl 24 mT (λi:Int=>.int jU i) aZ2 bs (U (Q iY)) n _ _ MS _ _ rfl gU ?_ ?_)
  |go_in)
 {intro _ qL;have HS:=aa xq;go_wp2;go_ret;refine⟨U (Q w),k,E1,s',rfl,Ku,HS.1,λi=>?_,aB⟩;rw[HS.2 i,aa fh i];constructor;{rintro⟨R,S⟩;exact⟨R,λ⟨z,hz,e⟩=>S ⟨z,hz,e,qL _⟩⟩};{rintro⟨R,S⟩;exact⟨R,λ⟨z,hz,e,_⟩=>S ⟨z,hz,e⟩⟩}};{
 intro i0 pl N w4 xy fe hp IT vQ aL dw Ym tA;let⟨j,z,Ri,M,Dy,ee⟩:=yv hp;simp only[jk]at ee;obtain⟨rfl,rfl⟩:=ee;let⟨i1,e1,e2,Yg⟩:=keyOf_int_inv underlying24 fe;simp only[dz4,Iq]at e1;simp only[Mq,Iq]at e2;subst e1;subst e2;have W:Bw w w4:=Cw aB dw aB.size (λj M=>by cases M;omega);have MO:=Ku.kept dw cg;have U5:(Instr.entry (Pz (U (Q iY)))).run dG w4=.ok (dT #[.U z.1,Pz N]) w4:=tA;have SK:O (kM (E1.del (.U z.1)) (s'.filter λj=>dD (j≠z.1))/\∀i,i∈(s'.filter λj=>dD (j≠z.1))↔i∈s/\¬∃y∈ss,y.1=i/\(λq=>left q&&!q.sameKey (.U z.1)) (.U i)=dF):=by
  refine⟨xq.1.del z.1,λi=>?_⟩;rw[Kj,xq.2 i];have hk:((Lit.U i).sameKey (.U z.1)=dY)↔i=z.1:=by rw[an0 (by trivial)];simp
  by_cases ei:i=z.1;{subst ei;simp only[ne_eq,aT8,ao1,Ir,and_false,false_iff];rintro⟨_,S⟩;exact S ⟨z,bq M,rfl,by simp[hk.2 rfl]⟩};{simp[ei,show(Lit.U i).sameKey (.U z.1)=dF by(rw[Eh];exactλh=>ei (hk.1 h))]}
 go_wp2_with(first
  |(at_delete;refine wpList_delete_own _ rfl _ _ 139 24 rfl _ mT underlying139 unitElem (U (Q w)) k _ rfl MO _ _ rfl (keyOf_int_mk underlying24 Yg) ?_;intro w5 Qn dL8;go_frame)
  |go_in)
 have nj:=dL8.grown;have cR:Bw w w5:=Cw W nj W.size (λj M=>by cases M;exact fq _);have Z:=vQ.kept nj (by have:=OS.lt;simp;omega) cg;go_roundw;exact⟨_,xy,_,_,Z,Qn,SK,cR⟩
 case measure=>rw[Z.left_eq,gU.left_eq];exact aL})}
 {
 intro sb pl N w2 xy fe hp IT vQ aL dw fh tA;let⟨i,nd,Ri,hi,uJ,ee⟩:=yv hp;simp only[jk]at ee;obtain⟨rfl,rfl⟩:=ee;have ay:Bw w w2:=Cw aB dw aB.size (λj M=>by cases M;omega);obtain rfl:=ce7 fe;have aG:=bq hi;let⟨qO,yM,rM⟩:=aa nO nd aG;let⟨g2,R,u1,q1,q2,q3⟩:=bD.kc.at hi;rw[uJ]at q1;cases q1;let⟨_,_,_,⟨V,a4,_⟩,⟨Dh,oh,sh⟩,⟨Du,ou,su⟩⟩:=bD.kc.blk i nd N R u1 hi uJ q2 q3;have MW:N<U (Q w):=gD a4;have k1:I w (Ad N 1)=Y (.U nd.D):=cX a4 1;have k3:I w (Ad N 3)=Y (.map R):=cX a4 3;have k6:I w (Ad N 6)=Y (.map u1):=cX a4 6;have SH:=af sh;have SU:=af su;have Qo:=du.kept dw (by first|(simp;done)|(simp;omega));have U5:(Instr.entry (Pz (U (Q w)+1))).run dG w2=.ok (dT #[.string (bf nd.A),Pz N]) w2:=tA;have FIN:∀i:Int,((i∈s\/(nd.D≠0/\i=nd.D))\/i∈nd.y)\/i∈nd.X↔∃B∈ns,(λz=>left z&&!z.sameKey (dr nd.A)) (dr B.A)=dF/\JA B i:=by intro i0;rw[xq.2 i0];constructor;{rintro(((⟨B,R,S,h3⟩|h)|h)|h);{exact⟨B,R,by simp[S],h3⟩};{exact⟨nd,aG,by simp[XS qO qO],.L h⟩};{exact⟨nd,aG,by simp[XS qO qO],.R (.L h)⟩};{exact⟨nd,aG,by simp[XS qO qO],.R (.R h)⟩}};{rintro⟨B,R,S,h3⟩;by_cases ep:B.A=nd.A;{let⟨j,M⟩:=Dg R;have:=bD.kc.uniq M hi ep;subst this;obtain h3|h3|h3:=h3;{exact .L (.L (.R h3))};{exact .L (.R h3)};{exact .R h3}};{refine .L (.L (.L ⟨B,R,?_,h3⟩));simpa[XS (aa nO B R).1 qO,ep]using S}}
 have hO:=aa tp nd aG;by_cases ho:nd.D=0;{
 have d1:=(sa (ay.block N MW) (o:=1)).Z k1;have d3:=(sa (ay.block N MW) (o:=3)).Z k3;have d6:=(sa (ay.block N MW) (o:=6)).Z k6;rw[ho]at d1;have M3:∀i,i∈s↔i∈s\/(nd.D≠0/\i=nd.D):=λi=>by simp[ho]
 have S3:=af xq.1;have X:=ay;have UK:=Qo;have Eu:=vQ;let⟨w3,e3⟩:=aF w2;let⟨K3,eK⟩:=aF k;let⟨E3,eE⟩:=aF E;let⟨s3,eS⟩:=aF s;have GF:K3<=k+1:=ae;subst e3 eK eE eS
 go_wp21
 refine(aA1 UK (oh.kept (mn X dN) ai) S3 SH (aM oh.lt) ae yM).h ?_;rintro r w4⟨E4,s4,rfl,MO,bb9,bd7,mG⟩;have W:Bw w w4:=Cw X mG X.size (λj M=>by cases M;exact fq _);have f6:=(sa (W.block N MW) (o:=6)).Z k6;have S4:=af bb9
 go_wp21
 refine(aA1 MO (ou.kept (mn W dN) ai) S4 SU (aM ou.lt) ae rM).h ?_;rintro r w5⟨E5,s5,rfl,Qn,bb8,bd6,nj⟩;have cR:Bw w w5:=Cw W nj W.size (λj M=>by cases M;exact fq _);have Z:=(Eu.kept mG (by have:=oD.lt;simp;omega) (by first|(simp;done)|(simp;omega))).kept nj (by have:=oD.lt;simp;omega) (by first|(simp;done)|(simp;omega));have SK:O (kM E5 s5/\∀i,i∈s5↔∃B∈ns,(λz=>left z&&!z.sameKey (dr nd.A)) (dr B.A)=dF/\JA B i):=⟨bb8,λi=>by rw[bd6,bd7,M3,FIN]⟩
 go_wp2;go_roundw
 case rel=>first|exact⟨_,xy,Z,_,ae,E5,Qn,s5,SK,cR⟩|exact⟨_,xy,_,E5,s5,Z,ae,Qn,SK,cR⟩
 case measure=>rw[Z.left_eq,gU.left_eq];exact aL}
 {
 have yL:(nd.D != 0):=by simp[ho]
 have d1:=(sa (ay.block N MW) (o:=1)).Z k1;have dQ7:keyOf dG 24 (.U nd.D)=Y (.U nd.D):=keyOf_int_mk underlying24 (DZ hO);have M3:∀i,i∈s++[nd.D]↔i∈s\/(nd.D≠0/\i=nd.D):=λi=>by simp[ho]
 have S3:=af (xq.1.put du.isMap nd.D (.agg []));go_wp2_with(first
  |(at_mapUpdate;refine wpList_mapUpdate_own _ rfl _ _ _ 139 rfl 24 _ mT underlying139 unitElem (U (Q w)) k _ rfl Qo kL _ _ _ rfl rfl dQ7 (.agg []) [] unitElem_mk ?_;intro w3 UK cm3;have X:Below (U (Q w)) w w3:=Cw ay cm3 ay.size (λj M=>by cases M;exact fq _);have d3:=(sa (X.block N MW) (o:=3)).Z k3;have d6:=(sa (X.block N MW) (o:=6)).Z k6)
  |fail)
 have Eu:=vQ.kept cm3 (by have:=oD.lt;simp;omega) (by first|(simp;done)|(simp;omega));let⟨K3,eK⟩:=aF (k+1);let⟨E3,eE⟩:=aF (E.put (.U nd.D) (.agg []));let⟨s3,eS⟩:=aF (s++[nd.D]);have GF:K3<=k+1:=ae;rw[<-eK,<-eE]at UK;rw[<-eE,<-eS]at S3;rw[<-eS]at M3;refine(aA1 UK (oh.kept (mn X dN) ai) S3 SH (aM oh.lt) ae yM).h ?_;rintro r w4⟨E4,s4,rfl,MO,bb9,bd7,mG⟩;have W:Bw w w4:=Cw X mG X.size (λj M=>by cases M;exact fq _);have f6:=(sa (W.block N MW) (o:=6)).Z k6;have S4:=af bb9
 go_wp21
 refine(aA1 MO (ou.kept (mn W dN) ai) S4 SU (aM ou.lt) ae rM).h ?_;rintro r w5⟨E5,s5,rfl,Qn,bb8,bd6,nj⟩;have cR:Bw w w5:=Cw W nj W.size (λj M=>by cases M;exact fq _);have Z:=(Eu.kept mG (by have:=oD.lt;simp;omega) (by first|(simp;done)|(simp;omega))).kept nj (by have:=oD.lt;simp;omega) (by first|(simp;done)|(simp;omega));have SK:O (kM E5 s5/\∀i,i∈s5↔∃B∈ns,(λz=>left z&&!z.sameKey (dr nd.A)) (dr B.A)=dF/\JA B i):=⟨bb8,λi=>by rw[bd6,bd7,M3,FIN]⟩
 go_wp2;go_roundw
 case rel=>first|exact⟨_,xy,Z,_,ae,E5,Qn,s5,SK,cR⟩|exact⟨_,xy,_,E5,s5,Z,ae,Qn,SK,cR⟩
 case measure=>rw[Z.left_eq,gU.left_eq];exact aL}})
theorem dK0(ss:List aC)(ids:LI):rK ss ids=dY↔Ob ids/\∀i∈ids,live ss i:=by
 simp only[rK,Ob,vj,lW,xl,II,gI];constructor;{intro h;refine⟨λi j=>(h i j).2,λy m=>?_⟩;obtain⟨i,j,rfl⟩:=Mv m;have:=(h i j).1;rwa [iR,bN j]at this};{rintro⟨q,o⟩i j;refine⟨o _ ?_,q i j⟩;rw[iR,bN j];exact Ao j}
theorem Jr{α:Type}(l:List α)(d:α)(f:α->Bool):(∀i,i<J l->f (jE l i d)=dY)↔∀y∈l,f y:=by
 constructor;{intro h y m;obtain⟨i,j,rfl⟩:=Mv m;have:=h i j;rwa [iR,bN j]at this};{intro h i j;rw[iR,bN j];exact h _ (Ao j)}
theorem dh2(x:Int)(ss:List aC):(jR (J ss)).all (xG x ss)=dY↔CJ x ss:=by
 simp only[CJ,vj,lW,xl,xG,Fx,gI];constructor;{intro h;exact⟨λi j=>⟨(h i j).1,(h i j).2.1,(h i j).2.2.2⟩,λi j=>(h i j).2.2.1⟩};{rintro⟨m,o⟩i j;exact⟨(m i j).1,(m i j).2.1,o i j,(m i j).2.2⟩}
theorem dx2(e g:Int)(ss:List aC)(ns:List au):(jR (J ns)).all (vD e g ss ns)=dY↔BM e g ns/\ns.all (λnd=>pI ns (im nd.A))/\∀nd∈ns,∀i,JA nd i->live ss i:=by
 have key:∀k,vD e g ss ns k=dY↔(yB e g (jE ns k jt)/\(k==0||!leB (jE ns k jt).A (jE ns (k-1) jt).A))/\pI ns (im (jE ns k jt).A)/\(λnd=>dD (nd.D=0)||live ss nd.D) (jE ns k jt)/\(λnd:au=>nd.y.all (live ss)) (jE ns k jt)/\(λnd:au=>nd.X.all (live ss)) (jE ns k jt):=by
  intro k;simp only[vD,yB,gI,dK0,lW];have:((jE ns k jt).D==0||live ss (jE ns k jt).D)=(dD ((jE ns k jt).D=0)||live ss (jE ns k jt).D):=by congr 1
  rw[this];constructor;{rintro⟨⟨V,S⟩,R,N,M,⟨E,D⟩,⟨B,y⟩,W⟩;exact⟨⟨⟨V,N,W,E,B⟩,S⟩,R,M,D,y⟩};{rintro⟨⟨⟨V,N,W,E,B⟩,S⟩,R,M,D,y⟩;exact⟨⟨V,S⟩,R,N,M,⟨E,D⟩,⟨B,y⟩,W⟩}
 simp only[BM,vj,lW,xl,gI,key];rw[<-Jr ns jt];constructor;{intro h;refine⟨⟨λi m=>(h i m).1.1,λi m=>(h i m).1.2⟩,λi m=>(h i m).2.1,?_⟩;have x:=(Jr ns jt (λnd=>dD (nd.D=0)||live ss nd.D)).1 (λi m=>(h i m).2.2.1);have r:=(Jr ns jt (λnd:au=>nd.y.all (live ss))).1 (λi m=>lW.2 (h i m).2.2.2.1);have X:=(Jr ns jt (λnd:au=>nd.X.all (live ss))).1 (λi m=>lW.2 (h i m).2.2.2.2);rintro nd o i(⟨q,rfl⟩|q|q);{have:=x nd o;simpa[q]using this};{exact lW.1 (r nd o) i q};{exact lW.1 (X nd o) i q}};{rintro⟨⟨q,Z⟩,x,r⟩i m;refine⟨⟨q i m,Z i m⟩,x i m,?_,?_,?_⟩;{refine(Jr ns jt (λnd=>dD (nd.D=0)||live ss nd.D)).2 (λnd o=>?_) i m;by_cases s:nd.D=0;{simp[s]};{simp[s,r nd o nd.D (.L ⟨s,rfl⟩)]}};{exact lW.1 ((Jr ns jt (λnd:au=>nd.y.all (live ss))).2 (λnd o=>lW.2 λj u=>r nd o j (.R (.L u))) i m)};{exact lW.1 ((Jr ns jt (λnd:au=>nd.X.all (live ss))).2 (λnd o=>lW.2 λj u=>r nd o j (.R (.R u))) i m)}}
theorem aK7(e g x t:Int)(ss:List aC)(ns:List au):mY e g x t ss ns=dY↔ME e g x t (J ss) (J ns)/\CJ x ss/\BM e g ns/\ns.all (λnd=>pI ns (im nd.A))/\∀nd∈ns,∀i,JA nd i->live ss i:=by
 rw[mY,gI,gI,dh2,dx2];exact Iff.rfl
theorem aW4{i:Int}:live ss i=dY↔∃z∈ss,z.1=i:=by
 rw[live,Ur];simp
theorem aB3:∀a:List UInt8,Op.bytesLess a a=dF
 |[]=>rfl
 |x::a=>by simp[Op.bytesLess,aB3 a,aU6]
theorem aB2:∀{a b c:List UInt8},Op.bytesLess a b->Op.bytesLess b c->Op.bytesLess a c=dY
 |_,[],_,h,_=>by simp[Op.bytesLess]at h
 |_,_::_,[],_,h=>by simp[Op.bytesLess]at h
 |[],_::_,_::_,_,_=>rfl
 |x::a,y::b,z::c,h,k=>by simp only[Op.bytesLess,PG,lx,gI,Ee]at h k⊢;obtain h|⟨rfl,h⟩:=h;{obtain k|⟨rfl,k⟩:=k;{exact .L (UInt8.lt_trans h k)};{exact .L h}};{obtain k|⟨rfl,k⟩:=k;{exact .L k};{exact .R ⟨rfl,aB2 h k⟩}}
theorem cG9:∀{a b:List UInt8},Op.bytesLess a b=dF->a≠b->Op.bytesLess b a=dY
 |[],[],_,h=>absurd rfl h
 |[],_::_,h,_=>by simp[Op.bytesLess]at h
 |_::_,[],_,_=>rfl
 |x::a,y::b,h,aN=>by simp only[Op.bytesLess,Bool.or_eq_false_iff,Iw]at h;simp only[Op.bytesLess,PG,lx,gI,Ee];by_cases i:x=y;{subst i;right;refine⟨rfl,cG9 ?_ (λe=>aN (by rw[e]))⟩;simpa using h.2};{exact .L (UInt8.lt_of_le_of_ne (aU5.1 h.1) (El i))}
theorem Z7(h:vj n lt)(q:∀i j k,lt i j->lt j k->lt i k):∀(j i:Nat),j<n->i<j->lt i j:=by
 have o:∀j,j+1<n->lt j (j+1):=λj m=>by have:=lW.1 h (j+1) (xl.2 m);simpa using this
 intro j
 induction j with
 |zero=>intro i _ r;omega
 |succ j ih=>
  intro i m r;by_cases e:i=j;{subst e;exact o i m};{exact q i j (j+1) (ih i ae ae) (o j m)}
theorem bP7(h:CJ x ss):∀(i j:Nat)(s m:aC),ss[i]?=s->ss[j]?=m->i<j->s.1≠m.1:=by
 intro i j s m r o q;rw[CJ,gI]at h;have:=Z7 h.2 (λi j k y u=>by simp at y u⊢;omega) j i (bu.1 o).1 q;simp only[iR,r,o,ta,lx]at this;omega
theorem J7{m:LI}:(!leB l m)=dY↔Op.bytesLess (bf m).toList (bf l).toList:=by
 simp only[leB,Bool.not_eq_true',Bool.or_eq_false_iff,XA];constructor;{rintro⟨j,i⟩;exact cG9 j i};{intro h;refine⟨?_,λe=>?_⟩;{rw[Eh];intro i;have:=aB2 h i;rw[aB3]at this;cases this};{rw[e,aB3]at h;cases h}}
theorem bX4(h:BM e g ns):∀(i j:Nat)(z m:au),ns[i]?=z->ns[j]?=m->i<j->z.A≠m.A:=by
 intro i j z m r o q;rw[BM,gI]at h;have:=Z7 h.2 (λi j k u s=>J7.2 (aB2 (J7.1 u) (J7.1 s))) j i (bu.1 o).1 q;simp only[iR,r,o,ta]at this;intro e;rw[e,J7,aB3]at this;cases this
theorem aM3(h:CJ x ss)(o:x<=2^62):∀s∈ss,0<=s.1/\s.1<2^64:=by
 rw[CJ,gI,lW]at h;have H:=(Jr ss (0,0,[]) (Fx x)).1 λi m=>h.1 i (xl.2 m);intro s j;have:=H s j;simp only[Fx,gI,lx]at this;omega
theorem ap8(en:Le ss n)(em:Le ns m)(h:mJ w (.S p n c) ss)(R:iy w (.S q m d) ns)(hn:Mg n)(hm:Mg m)(gy:O (Bs ss))(M:O (Bn ns))(mU:O (Bu ns))(tp:O (Bo ns))(py:ML w)(eB:O (mY e g x t ss ns=B)):dQ dG 47 #[bS e g x t (.S p n c) (.S q m d)] w (Rb (jO B) w):=by
 have N:=af λ(w':G)(hb:Bw w w')=>aD (h.H hb) (aD (R.H hb) (py.H hb));have V:O (B=dY↔ME e g x t n m/\CJ x ss/\BM e g ns/\ns.all (λj=>pI ns (im j.A))/\∀j∈ns,∀i,JA j i->live ss i):=by show _↔_;rw[<-aa eB,aK7,aa en,aa em]
 obtain⟨T1,E1⟩:∃T,O (ME e g x t n m=T):=⟨_,cO⟩;obtain⟨T2,X⟩:∃T,O (CJ x ss=T):=⟨_,cO⟩;obtain⟨T3,E3⟩:∃T,O (BM e g ns=T):=⟨_,cO⟩;obtain⟨T4,E4⟩:∃T,O (ns.all (λj=>pI ns (im j.A))=T):=⟨_,cO⟩;let⟨W,hW⟩:=aF (jA w (dO #[.U e,.U g,.U x,.I t,.S p n c,.S q m d] 34));have bW:=ij hW;have AL:gH W (U (Q w)) e g x t (.S p n c) (.S q m d):=by rw[hW];simp[gH]
 have Fl:=af AL;go_in
 go_wp21
 rw[<-hW];refine cK (dA8 hn hm E1) λw1 ao=>?_;have b1:=ah bW ao;cases T1 with
 |false=>
  obtain rfl:B=dF:=by rw[Eh];intro o;have:=(V.1 o).1;rw[aa E1]at this;cases this
  go_wp2;go_ret;exact⟨rfl,b1⟩
 | true=>
  let⟨i0,i1,i2,i3,i4,Z⟩:=Fl.H ao
  go_wp21
  refine cK (cY6 en (aa N _ b1).1 hn gy (aa N _ b1).2.2 X) λw2 y=>?_;have b2:=ah b1 y;cases T2 with
  |false=>
   obtain rfl:B=dF:=by rw[Eh];intro o;have:=(V.1 o).2.1;rw[aa X]at this;cases this
   go_wp2;go_ret;exact⟨rfl,b2⟩
  | true=>
   replace i0:=aj i0 y;replace i1:=aj i1 y;replace i2:=aj i2 y;replace i3:=aj i3 y;replace i4:=aj i4 y;replace Z:=aj Z y
   go_wp21
   refine cK (cY7 em (aa N _ b2).2.1 hm M (aa N _ b2).2.2 E3) λw3 E=>?_;have b3:=ah b2 E;cases T3 with
   |false=>
    obtain rfl:B=dF:=by rw[Eh];intro o;have:=(V.1 o).2.2.1;rw[aa E3]at this;cases this
    go_wp2;go_ret;exact⟨rfl,b3⟩
   | true=>
    replace i0:=aj i0 E;replace i1:=aj i1 E;replace i2:=aj i2 E;replace i3:=aj i3 E;replace i4:=aj i4 E;replace Z:=aj Z E;have hx:x<=2^62:=by have:=aa E1;simp only[ME,lx]at this;exact this.2.2.1
    have H1:=af (aM3 X hx);have H2:=af (bP7 X);have H3:=af (bX4 E3)
    go_wp21
    refine(Ty en em (aa N _ b3).1 (aa N _ b3).2.1 hn hm H1 H2 M mU H3).h ?_;rintro r w4⟨b,bs,bn,SB,NB,HB,UB,rfl,bD,cG⟩;have b4:=ah b3 cG;have il:=af bD
    go_wp21
    refine cK (dW2 il (λj u=>⟨(aa M j u).1,(aa M j u).2.1⟩) E4) λw5 cR=>?_;have b5:=ah b4 cR;cases T4 with
    |false=>
     obtain rfl:B=dF:=by rw[Eh];intro o;have:=(V.1 o).2.2.2.1;rw[aa E4]at this;cases this
     go_wp2;go_ret;exact⟨rfl,b5⟩
    |true=>
     have ac4:=af (il.H cR)
     go_wp21
     refine(db3 ac4 (λj u=>⟨(aa M j u).1,(aa M j u).2.2.2⟩) tp em hm en).h ?_;rintro r w6⟨nb,k,D,s,rfl,oD,sD,hs,gj⟩;have b6:=ah b5 gj;have hlen:∀ty,(Builtin.len_ #[139] ty #[.map nb]).run dG w6=.ok (.I (Maps.size D)) w6:=λty=>oD.len underlying139 ty;have gK:Maps.size D=0↔s=[]:=sD.dg0 oD.isMap (λes ee p hp=>by let⟨Jj,e',_,hk⟩:=oD.entries mT;rw[ee]at e';cases e';exact hk p hp)
     have o:B=dY↔s=[]:=by rw[aa V];constructor;{rintro⟨_,_,_,_,h5⟩;apply List.eq_nil_iff_forall_not_mem.2;intro i hi;let⟨⟨j,u,R⟩,iT⟩:=(hs i).1 hi;exact iT ((aW4).1 (h5 j u i R))};{intro xR;refine⟨E1,X,E3,E4,λj u i R=>?_⟩;rw[aW4];by_cases hh:∃z∈ss,z.1=i;{exact hh};{have:=(hs i).2 ⟨⟨j,u,R⟩,hh⟩;rw[xR]at this;cases this}}
     have hb:((Maps.size D:Int)==0)=B:=by rw[PQ,o,<-gK];simp
     go_wp2;go_ret;exact⟨rfl,b6⟩
def lZ(s:aC):aC:=(s.1,0,[])
def lE(nd:au):au:={nd with X:=[]}
theorem aP9{R:dV->Option (DataW Unit×List MemPlace)}(h:jM w dG k R b n D)(K:∀es c,w.heap[b]?=Y (.map es c)->w'.heap[b]?=Y (.map es c)):jM w' dG k R b n D:=by
 obtain⟨es,i,m,j⟩:=h;exact⟨es,i,K _ _ m,j⟩
theorem bT9{R:dV->Option (DataW Unit×List MemPlace)}{r:Nat}(h:w.ranges P k R b r n D left kK)(B:w'.heap[b]?=w.heap[b]?)(y:w'.heap[r]?=w.heap[r]?):w'.ranges P k R b r n D left kK:=by
 obtain⟨es,j,i,m,E,u,F,q,x,s,o⟩:=h;exact⟨es,j,i,m,E,B.Z u,F,q,x,y.Z s,o⟩
variable {l:iN}
theorem dw7(h:l.Nodup){a:Nat}(y:l[i]?=a)(x:l[j]?=a):i=j:=by
 have u:=(bu.1 y).1;have s:=(bu.1 x).1;have r:=FO.1 h;have q:=(bu.1 y).2;have o:=(bu.1 x).2;obtain m|m|m:=Mz i j;{exact absurd (q.Z o.C) (r i j u s m)};{exact m};{exact absurd (o.Z q.C) (r j i s u m)}
def xF(f:aC->aC)(left:Lit->Bool)(ss:List aC):List aC:=ss.map λs=>if left (.U s.1)then s else f s
theorem bK8(h:∀s∈ss,left (.U s.1)):xF f left ss=ss:=by
 unfold xF;rw[My (g:=id) (λs hs=>by rw[aK (h s hs)];rfl),aV5]
theorem bK9(h:∀k,left k=dF):xF f left ss=ss.map f:=by
 unfold xF;exact My λs _=>by rw[aJ (by rw[h];simp)]
variable {s:aC}
theorem bL0(hs:ss[i]?=s)(hl:left (.U s.1)):(xF f left ss)[i]?=s:=by
 unfold xF;rw[qI,hs,Iv,aK hl]
theorem bK7(hd:∀(i j:Nat)(s s':aC),ss[i]?=s->ss[j]?=s'->i<j->s.1≠s'.1)(hs:ss[i]?=s):(xF f left ss).set i (f s)=xF f (λz=>left z&&!z.sameKey (.U s.1)) ss:=by
 have sK:=(bu.1 hs).1;refine XK λj=>?_;rw[vJ];unfold xF;by_cases ej:i=j;{subst ej;have u:(Lit.U s.1).sameKey (.U s.1):=an2 (by trivial);rw[aK rfl,aK (by simpa using sK),qI,hs,Iv,aJ (by simp[u])]};{
 simp only[ej,Ap];rw[qI,qI];cases hj:ss[j]? with
 |none=>rfl
 | some s'=>
  have x:s'.1≠s.1:=by obtain hh|hh|hh:=Mz i j;{exactλe=>hd i j s s' hs hj hh e.C};{exact absurd hh ej};{exact hd j i s' s hj hs hh}
  have:(Lit.U s'.1).sameKey (.U s.1)=dF:=by
   cases hq:(Lit.U s'.1).sameKey (.U s.1)with
   |false=>rfl
   |true=>rw[an0 (by trivial)]at hq;simp at hq;exact absurd hq x
  simp[this]}
theorem bR0{m q et:TypeId}{R:dV->Option (DataW Unit×List MemPlace)}(hm:P.underlying m=Y (.map q et))(h:jM w P k R b n D)(ty:TypeId):∃v w',(Builtin.clear_ #[m] ty #[.map b]).run P w=.ok v w'/\jM w' P k R b 0 (.map [])/\jG w w' b/\U (Q w')=U (Q w):=by
 obtain⟨es,j,o,F,x,y⟩:=h;have s:∃v,(Builtin.clear_ #[m] ty #[.map b]).run P w=.ok v {w with heap:=jI w.heap b (.map #[] j)}:=by simp[Builtin.clear_,aS8 hm,MapKept.run_getObj_map o,MapKept.run_setObj_map _ o,Result.andThen]
 obtain⟨v,r⟩:=s;refine⟨v,_,r,?_,⟨rfl,rfl,rfl,ai,λi _ u=>(MapKept.heap_set o).2 i (λe=>u (by rw[e]))⟩,ai⟩;exact⟨#[],j,(MapKept.heap_set o).1,⟨ai,MapKept.stamped_empty _,ai⟩,fq _,rfl⟩
end Go.Proofs.YtpkakgkipopiaaaGreatDoor
