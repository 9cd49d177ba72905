import Derived.Test.YtdloolggnjjfoaaGreatDoorK3
import Derived.Lib.LastIndexByte
import Derived.Laws.IdiomRangeMap
import Derived.Lib.BitFns
import Derived.Lib.Walk
import Derived.Lib.Small
import Derived.Lib.Strings
import Derived.Lib.Slices
import Derived.Laws.Bits64
import Derived.Laws.Bits64b
open Array renaming size->U
open Bool renaming false->dF,true->dY
open Decidable renaming decide->dD
open Go renaming Calls->dQ,Value->dV,World->G
open Go.Ending renaming returned->dR
open Go.Obj renaming cells->dO
open Go.Proofs.Tryz renaming prog->dG
open Go.RowKit renaming Hid->O
open Go.Value renaming I->dI,pointer->dP,S->dS,tuple->dT,U->dU
open Go.World renaming cell?->I
open List renaming length->J
open Option renaming none->dN,some->Y
namespace Go.Proofs.YtdloolggnjjfoaaGreatDoor
set_option maxHeartbeats 12800000
set_option linter.all false
set_option maxRecDepth 100000
set_option linter.defProp false
open Go.ChangeShapes Go.WideShapes Go.ChangeAt Go.RowKit Go.Maps Go.Proofs.Tryz
def mr:Keyed dG 27:=int_keyed underlying27
def ru:Keyed dG 9:=string_keyed underlying9
def Dx{i:Int}(h:0<=i/\i<2^64):(Lit.U i).wf:=by
 simp only[Lit.wf,IntKind.min,IntKind.max,IntKind.signed,IntKind.bits,gL,jX];simp;omega
variable {w w' w0 w1 w2:G}{row:Option Nat}{p q:OA}{c n bs j b g bn i m gO:Nat}{ids l:LI}{Dd Ds D D1 D2 d:DataW Unit}{s:ByteArray}{P:Program}{k t:TypeId}{cs:iA}{ss:List aB}{SB:iN}{ns:List ar}{nd:ar}{e ow mo ep ge:Int}{o:Oper}{x:Operand}{ops:iQ}{a:Act}{K:Act->G->Prop}{E:Prop}{kl:Lit}{ps:List MemPlace}{v r V S N:dV}{B:Bool}{left:Lit->Bool}{f:aB->aB}
def kU(h:Bw w w')(row:Option Nat):w.grownBy w' row:=⟨h.os,h.tape,h.output,h.size,λi j _=>h.block i j⟩
def Bk{B:Nat}(h:Below B w0 w)(i:w.grownBy w' row)(o:B<=U w.heap)(hr:∀j,row=Y j->B<=j):Below B w0 w':=
 ⟨i.os.Z h.os,i.tape.Z h.tape,i.output.Z h.output,gv h.size i.size,λk m=>(i.block k (ku m o) (λe=>aK (hr k e.C))).Z (h.block k m)⟩
theorem bP4(V:Le ids n)(h:iZ w (.S p n c) ids)(hn:Mg n)(hU:O (∀i∈ids,0<=i/\i<2^64)):dQ dG 137 #[.S p n c] w λr w'=>∃D,r=dR (.map (U w.heap))/\w'.ownsMap dG 27 unitElem (U w.heap) n D/\jL D ids/\Bw w w'/\U w.heap<U w'.heap:=by
 have HR:=ag λ(w':G)(hb:Bw w w')=>h.H hb;have FO:=@am6 dG;go_in;go_wp2
 go_loopw[9](λx wr=>∃(k:Nat)(D:DataW Unit),k<=n/\x=.I k/\wr.ownsMap dG 27 unitElem (U w.heap) k D/\O (jL D (ids.take k))/\Bw w wr) (λx _=>n-(intOf x).toNat)
 exact⟨0,_,cO _,rfl,World.ownsMap_made _ _ _ _,jL.nil,aD.alloc aA _⟩;{
 obtain⟨k,D,hk,rfl,q,M,E⟩:=hrel;by_cases aH:k<n;{
 have cL:=bM k n;have m:k<J ids:=ae V▸aH;obtain⟨b,o,rfl,gS⟩:∃b o,p=(Ad b o)/\I wr (Ad b (o+k))=Y (.U (ids.getD k 0)):=by let⟨p',c',ev,Z⟩:=ae HR _ E;obtain⟨rfl,-,-⟩:=jJ ev;obtain h0|⟨b,o,h1,h2⟩:=Z;{rw[h0]at m;simp at m};{exact⟨b,o,h1,h2 k m⟩}
 have e1:ids.take (k+1)=ids.take k++[ids.getD k 0]:=by rw[pZ,im,bD m];rfl
 have R:=ae hU (ids.getD k 0) (by rw[im,bD m];exact AJ m);have s:=M.put q.isMap (ids.getD k 0) (.agg []);rw[<-e1]at s;have N:=ag s;let⟨y,ey⟩:=aY (ids.getD k 0);rw[ey]at gS R N;have fh:keyOf dG 27 (.U y)=Y (.U y):=keyOf_int_mk underlying27 (Dx R);go_wp2_with(first
  |(at_mapUpdate;refine wpList_mapUpdate_own _ rfl _ _ _ 158 rfl 27 _ mr underlying158 unitElem (U w.heap) k _ rfl q jC _ _ _ rfl rfl fh (.agg []) [] unitElem_mk ?_;intro w1 Kg B)
  |go_in)
 go_roundw;exact⟨k+1,_,af,by go_num,Kg,N,Bk E B (an2 (Nat.lt_of_le_of_lt aA q.lt)) (λj X=>by cases X;exact eG _)⟩;exact cW};{
 have cL:=fq k n;have:k=n:=by omega
 subst this;have W:=ae M;rw[lY (ae V▸eG _)]at W;go_wp2;go_ret;exact⟨rfl,D,q,W,E,q.lt⟩}}
theorem aA4{m nd ns:Nat}{o ss:LI}(M:w.ownsMap dG 27 unitElem m nd Dd)(E:w.ownsMap dG 27 unitElem bs ns Ds)(Yc:O (jL Dd o))(Yb:O (jL Ds ss))(aN:m≠bs)(hn:nd<=2^62)(hm:ns<=1048576):dQ dG 184 #[.map m,.map bs] w λr w'=>∃D s,r=dR (dT #[])/\w'.ownsMap dG 27 unitElem m (nd+ns) D/\jL D s/\(∀i,i∈s↔i∈o\/i∈ss)/\w.grownBy w' m:=by
 have HS:=E;go_in;go_wp2_with(first
  |(at_range;refine wpList_range_own _ rfl _ 158 rfl 27 _ mr underlying158 _ bs ns _ rfl E ?_;intro w0 xS Z zt)
  |go_in)
 go_frame
 go_loopw[4](λ_ wr=>∃(left:Lit->Bool)(N k:Nat)(D:DataW Unit)(s:LI),wr.ranges dG 27 unitElem bs (U w.heap) ns Ds left N/\k+N<=nd+ns/\wr.ownsMap dG 27 unitElem m k D/\O (jL D s)/\O (∀i,i∈s↔i∈o\/(i∈ss/\left (.U i)=dF))/\w.grownBy wr m) (λ_ wr=>wr.rangeLeft bs (U w.heap))
 case atStart=>(
 refine⟨_,_,nd,Dd,o,xS,?_,M.kept Z aj,Yc,?_,Z.but _⟩;{have:=E.size_le;omega};{intro i;constructor;{exactλh=>.L h};{rintro(h|⟨h1,h2⟩);{exact h};{rw[(ae Yb (.U i)).2 ⟨i,h1,rfl⟩]at h2;cases h2}}})
 case round=>(
 obtain⟨left,N,k,D,s,B,Yt,V,X,lu,u⟩:=hrel;go_wp2_with(first
  |(at_next;refine cW5 _ rfl _ rfl 27 mr underlying27 bs (U w.heap) ns _ ss Yb _ _ rfl B ?_ ?_)
  |go_in)
 {intro _ rC;go_wp2;go_end0;refine⟨D,s,rfl,V.h af,X,λi=>?_,u⟩;rw[ae lu i,rC];simp};{
 intro x w1 yt XW hx hlx xj aH dw fo ti;have R:=u.andThen dw (λj q=>by cases q;exact Or.L aA);have hr:=B.lt;have Kg:=V.kept dw (λe=>by cases e;exact absurd M.lt af);have fh:keyOf dG 27 (.U x)=Y (.U x):=keyOf_int_mk underlying27 XW;have W:=ag (X.put V.isMap x (.agg []));have S:O (∀i,i∈s++[x]↔i∈o\/(i∈ss/\(λz=>left z&&!z.sameKey (.U x)) (.U i)=dF)):=by
  intro i;rw[jd,ae lu i];simp only[pY];have hk:((Lit.U i).sameKey (.U x)=dY)↔i=x:=by rw[am5 (by trivial)];simp
  by_cases e:i=x;{subst e;rw[hk.2 rfl];simp[hx]};{rw[show(Lit.U i).sameKey (.U x)=dF by(rw[DH];exactλh=>e (hk.1 h))];simp[e]}
 go_wp2_with(first
  |(at_mapUpdate;refine wpList_mapUpdate_own _ rfl _ _ _ 158 rfl 27 _ mr underlying158 unitElem m k _ rfl (Kg.alloc _) jC _ _ _ rfl rfl fh (.agg []) [] unitElem_mk ?_;intro w2 Qb y)
  |go_in)
 have PQ:=(xj.alloc _).kept y (by simp;exactλe=>aN e.C) (by simp;intro e;exact absurd M.lt af);go_roundw;exact⟨_,yt,PQ,k+1,af,_,Qb,_,W,S,(R.andThen (Xh _ _ dN) (λj q=>by cases q)).andThen y (λj q=>by cases q;exact Or.R rfl)⟩
 case measure=>rw[PQ.left_eq,B.left_eq];omega})
def Ro:(aZ l).data.toList=l.map (λn=>UInt8.ofNat n.toNat):=by rw[aZ,cG6];rfl
def Da:(aZ l).size=J l:=by
 show(aZ l).data.size=_;rw[<-Array.length_toList,Ro,ir]
def cG5(o:aC l)(m:j<(aZ l).size):(((aZ l)[j]'m).toNat:Int)=l.getD j 0:=by
 have i:j<J l:=by rw[<-Da];exact m
 have q:(aZ l)[j]'m=(aZ l).data.toList[j]'(by rw[Ro,ir];exact i):=by rw[Array.getElem_toList];rfl
 rw[q];simp only[Ro,aV5];rw[im,bD i,rJ];have:=o l[j] (AJ i);rw[UInt8.toNat_ofNat'];omega
def dH1(es:O (s=aZ l))(B:s.size=n)(x:O (aC l))(N:n<=2097152):dQ dG 248 #[.string s,.int .u8 47] w λe w'=>((∃k:Nat,e=dR (.I k)/\k<n/\vK l n=k)\/(e=dR (.I (-1))/\vK l n=0/\∀j,j<n->l.getD j 0≠47))/\w'=w:=by
 have i:O (∀(j:Nat)(m:j<s.size),((s[j]'m).toNat:Int)=l.getD j 0):=by obtain rfl:=ae es;exactλj m=>cG5 x m
 subst B;go_in;go_wp2
 go_loop [5](λvi=>∃k:Nat,k<=s.size/\vi=.I ((k:Int)-1)/\O (vK l s.size=vK l k)/\O (∀j,k<=j->j<s.size->l.getD j 0≠47)) (λvi=>((RowKit.intOf vi)+1).toNat)
 case atStart=>exact⟨s.size,eG _,by first|rfl|go_num|(congr 1;omega),cM,λj y r=>af⟩
 case round=>(
 obtain⟨k,R,rfl,o,hq⟩:=hrel;go_wp2;{
 have hc:(((s[k-1]).toNat:Int)==47):=by assumption
 have u:1<=k:=af;have q:vK l k=k-1:=by have:=Xz l (k-1);rw[show k-1+1=k by omega]at this;rw[this,aM];rw[<-ae i (k-1) af];simpa using hc
 have M:((k-1:Nat):Int)=(k:Int)-1:=af;go_ret;refine⟨.L ⟨k-1,by rw[M];rfl,af,by rw[ae o,q]⟩,rfl⟩};{
 have hc:(((s[k-1]).toNat:Int)==47)=dF:=by assumption
 have u:1<=k:=af;have q:vK l k=vK l (k-1):=by have:=Xz l (k-1);rw[show k-1+1=k by omega]at this;rw[this,aL];rw[<-ae i (k-1) af];simpa using hc
 have E:l.getD (k-1) 0≠47:=by rw[<-ae i (k-1) af];simpa using hc
 refine⟨⟨k-1,af,by congr 1;omega,o.Z q,λj y r=>?_⟩,?_⟩;{by_cases D:j=k-1;{rw[D];exact E};{exact hq j af r}};simp[RowKit.intOf];omega};{obtain rfl:k=0:=af;go_ret;exact⟨.R ⟨rfl,o,λj m=>ae hq j (cO _) m⟩,rfl⟩})
def dH0(es:O (s=aZ l))(x:s.size=n)(u:O (aC l))(q:n<=2097152):dQ dG 215 #[.string s,.int .u8 47] w λe w'=>((∃k:Nat,e=dR (.I k)/\k<n/\vK l n=k)\/(e=dR (.I (-1))/\vK l n=0/\∀j,j<n->l.getD j 0≠47))/\w'=w:=by
 go_in;go_wp2_with fail;refine(dH1 es x u q).h ?_;rintro e w'⟨o,rfl⟩;obtain⟨k,rfl,r,i⟩|⟨rfl,i⟩:=o;{have m:=ag i;go_wp2;go_ret;exact⟨.L ⟨k,rfl,r,m⟩,rfl⟩};{have m:=ag i;go_wp2;go_ret;exact⟨.R ⟨rfl,m⟩,rfl⟩}
def aQ2(o:Le l n)(y:O (aC l))(B:Mg n):dQ dG 183 #[.string (aZ l)] w λe w'=>e=dR (.string (aZ (ig l)))/\w'=w:=by
 let⟨s,es⟩:=aG (aZ l);have u:s.size=n:=by rw[es,Da];exact ae o
 rw[<-es];have r:=ag es;clear es;go_in;go_wp2_with fail;refine(dH0 r u y af).h ?_;rintro e w'⟨x,rfl⟩;obtain⟨k,rfl,D,j⟩|⟨rfl,j,-⟩:=x;{
 by_cases q:k=0;{
 subst q;have i:ig l=[47]:=by rw[ig,ae o,j,aM rfl]
 have m:=ag i;clear j i;go_wp2;go_ret;exact⟨by rw[ae m];rfl,rfl⟩};{
 have i:ig l=l.take k:=by rw[ig,ae o,j,aL q]
 have m:=ag i;clear i;have N:¬(k:Int)<1:=af;have M:=mF k n;have E:k<=s.size:=af;have ex:O (s.extract 0 k=aZ (l.take k)):=by show _=_;rw[ae r];apply ca5;apply an3.1;rw[Ro,List.map_take,<-Ro];simp[dD3]
 clear j;go_wp2;go_ret;exact⟨by rw[ae m,<-ae ex];rfl,rfl⟩}};{
 have i:ig l=[47]:=by rw[ig,ae o,j,aM rfl]
 have m:=ag i;clear j i;go_wp2;go_ret;exact⟨by rw[ae m];rfl,rfl⟩}
structure yy(w0 w:G)(bs:Nat)(ss:List aB)(SB:iN):Prop where
 len:J SB=J ss
 own:∃D,w.ownsMap dG 27 iF bs (J ss) D/\pR D (List.zipWith (λ(s:aB)g=>(Lit.U s.1,g)) ss SB)
 blk:∀(i:Nat)(s:aB)(g:Nat),ss[i]?=s->SB[i]?=Y g->U w0.heap<=g/\∃u,w.heap[g]?=dO #[.U s.1,.I s.2.1,u] 97/\sj w0 u s.2.2
 jt:SB.Nodup
structure vW(w0 w:G)(bn:Nat)(ns:List ar)(NB HB UB:iN):Prop where
 len:J NB=J ns
 Mo:J HB=J ns
 Mn:J UB=J ns
 own:∃D,w.ownsMap dG 9 iF bn (J ns) D/\pR D (List.zipWith (λ(nd:ar)g=>(di nd.A,g)) ns NB)
 blk:∀(i:Nat)(nd:ar)(g h u:Nat),ns[i]?=nd->NB[i]?=Y g->HB[i]?=h->UB[i]?=u->U w0.heap<=g/\U w0.heap<=h/\U w0.heap<=u∧
  (∃V,w.heap[g]?=dO #[V,.U nd.D,.I nd.M,.map h,.U nd.P,.U nd.F,.map u] 186/\Rd w0 V nd.V)∧
  (∃D,w.ownsMap dG 27 unitElem h (J nd.y) D/\jL D nd.y)/\(∃D,w.ownsMap dG 27 unitElem u (J nd.X) D/\jL D nd.X)
 jt:NB.Nodup
 ve:(bn::(HB++UB)).Nodup
def ak6{R:dV->Option (DataW Unit×List MemPlace)}(h:w.ownsMap P k R b n D)(i:w.heap[g]?=dO cs t):g≠b:=by
 rintro rfl;obtain⟨es,m,j,_⟩:=h;rw[j]at i;cases i
def gy{o:Obj}(h:w.heap[g]?=o):g<U w.heap:=(JU.1 h).1
def yy.kept(h:yy w0 w bs ss SB)(m:w.grownBy w' row)(B:Y bs≠row)(y:∀g∈SB,Y g≠row):yy w0 w' bs ss SB:=by
 refine⟨h.len,?_,λi s g q j=>?_,h.jt⟩;{let⟨D,x,r⟩:=h.own;exact⟨D,x.kept m B,r⟩};{let⟨M,u,o,E⟩:=h.blk i s g q j;exact⟨M,u,(m.block g (gy o) (y g (bu j))).Z o,E⟩}
def vW.kept{NB HB UB:iN}(h:vW w0 w bn ns NB HB UB)(j:w.grownBy w' row)(R:Y bn≠row)(N:∀g∈NB,Y g≠row)(q:∀g∈HB++UB,Y g≠row):vW w0 w' bn ns NB HB UB:=by
 refine⟨h.len,h.Mo,h.Mn,?_,λi x g B u y o m s=>?_,h.jt,h.ve⟩;{let⟨D,M,E⟩:=h.own;exact⟨D,M.kept j R,E⟩};{let⟨a1,a2,a3,⟨V,r,a5⟩,⟨D1,Z,X⟩,⟨D2,W,S⟩⟩:=h.blk i x g B u y o m s;exact⟨a1,a2,a3,⟨V,(j.block g (gy r) (N g (bu o))).Z r,a5⟩,⟨D1,Z.kept j (q _ (jd.2 (.L (bu m)))),X⟩,⟨D2,W.kept j (q _ (jd.2 (.R (bu s)))),S⟩⟩}
def cv0{α:Type}{l:List α}{x y:α}(h:(l++[x])[i]?=y):l[i]?=y\/(i=J l/\x=y):=by
 by_cases j:i<J l;{rw[mj j]at h;exact .L h};{rw[pI af]at h;right;let⟨m,e⟩:=bg.1 h;simp at m;refine⟨af,?_⟩;simpa[show i-(J l)=0 by omega]using h}
def bG9{α β γ:Type}(f:α->β->γ){l:List α}{m:List β}(h:J m=J l)(x:α)(y:β):List.zipWith f (l++[x]) (m++[y])=List.zipWith f l m++[f x y]:=by
 rw[aV4 af];rfl
def yD{α β γ:Type}{f:α->β->γ}{l:List α}{m:List β}{z:γ}(h:z∈List.zipWith f l m):∃(i:Nat)(x:α)(y:β),l[i]?=x/\m[i]?=y/\z=f x y:=by
 obtain⟨i,j,rfl⟩:=Mf h;rw[List.length_zipWith]at j;refine⟨i,l[i]'(by omega),m[i]'(by omega),bD _,bD _,?_⟩;simp
def yy.empty(h:w.ownsMap dG 27 iF bs 0 (.map [])):yy w0 w bs [] []:=
 ⟨rfl,⟨_,h,pR.nil⟩,λi s g j=>by simp at j,an1⟩
def vW.empty(h:w.ownsMap dG 9 iF bn 0 (.map [])):vW w0 w bn [] [] [] []:=
 ⟨rfl,rfl,rfl,⟨_,h,pR.nil⟩,λi s g _ _ j=>by simp at j,an1,aj⟩
def yy.lt(h:yy w0 w bs ss SB):∀g∈SB,g<U w.heap:=by
 intro g q;let⟨i,j⟩:=wR q;have o:=(bg.1 j).1;obtain⟨s,m⟩:∃s,ss[i]?=Y s:=⟨_,bD (h.len▸o)⟩;let⟨_,u,r,_⟩:=h.blk i s g m j;exact gy r
def vW.at{NB HB UB:iN}(h:vW w0 w bn ns NB HB UB)(m:ns[i]?=nd):∃g o u,NB[i]?=Y g/\HB[i]?=Y o/\UB[i]?=Y u:=by
 have j:=(bg.1 m).1;exact⟨_,_,_,bD (h.len▸j),bD (h.Mo▸j),bD (h.Mn▸j)⟩
def vW.lt{NB HB UB:iN}(h:vW w0 w bn ns NB HB UB):(∀g∈NB,g<U w.heap)/\∀g∈HB++UB,g<U w.heap:=by
 have key:∀i,i<J ns->∃g r u,NB[i]?=Y g/\HB[i]?=Y r/\UB[i]?=Y u/\g<U w.heap/\r<U w.heap/\u<U w.heap:=λi m=>by let⟨D,B⟩:=nR m;let⟨g,r,u,j,y,x⟩:=h.at B;let⟨_,_,_,⟨V,N,_⟩,⟨S,M,_⟩,⟨R,E,_⟩⟩:=h.blk i D g r u B j y x;exact⟨g,r,u,j,y,x,gy N,M.lt,E.lt⟩
 refine⟨λg o=>?_,λg o=>?_⟩;{let⟨i,m⟩:=wR o;have q:=(bg.1 m).1;let⟨s,_,_,j,_,_,a,_,_⟩:=key i (h.len▸q);rw[m]at j;cases j;exact a};{obtain o|o:=jd.1 o;{let⟨i,m⟩:=wR o;have q:=(bg.1 m).1;let⟨_,s,_,_,j,_,_,a,_⟩:=key i (h.Mo▸q);rw[m]at j;cases j;exact a};{let⟨i,m⟩:=wR o;have q:=(bg.1 m).1;let⟨_,_,s,_,_,j,_,_,a⟩:=key i (h.Mn▸q);rw[m]at j;cases j;exact a}}
def bX5{l:iN}{x:Nat}(h:l.Nodup)(j:∀y∈l,y≠x):(l++[x]).Nodup:=by
 rw[Cd];exact⟨h,aj,λa m b i=>by simp at i;subst i;exact j a m⟩
def yy.step(h:yy w0 w bs ss SB)(s:aB)(g:Nat)(hg:w.grownBy w1 dN)(D5:U w.heap<=g)(hw:U w0.heap<=U w.heap)(u:dV)(X:sj w0 u s.2.2)(N:w1.heap[g]?=dO #[.U s.1,.I s.2.1,u] 97)(m:∀z∈ss,z.1≠s.1)(hM:pR D (List.zipWith (λ(s:aB)g=>(Lit.U s.1,g)) ss SB))(r:IsMap D)(cX:w2.ownsMap dG 27 iF bs (J ss+1) (D.put (.U s.1) (.lit (.I g))))(R:w1.grownBy w2 bs):yy w0 w2 bs (ss++[s]) (SB++[g]):=by
 have gM:bs<U w.heap:=by obtain⟨D,r,_⟩:=h.own;exact r.lt
 refine⟨by simp[h.len],⟨_,by rw[dm];exact cX,?_⟩,λi z B hi j=>?_,bX5 h.jt (λy M=>aK (h.lt y M))⟩;{rw[bG9 _ h.len];refine hM.put r (by trivial) (λp Z=>?_) g;obtain⟨i,x,y,W,M,rfl⟩:=yD Z;intro e;simp only[L6,JQ]at e;exact m x (bu W) e};{obtain V|⟨e1,rfl⟩:=cv0 hi;{have hl:=(bg.1 V).1;rw[mj (h.len▸hl)]at j;let⟨a1,v,E,a3⟩:=h.blk i z B V j;refine⟨a1,v,?_,a3⟩;have S:=(hg.block B (gy E) aj).Z E;refine(R.block B (gy S) ?_).Z S;let⟨D',o,_⟩:=h.own;have:=ak6 o E;simpa using this};{rw[e1,<-h.len,pI aA]at j;simp at j;subst j;refine⟨af,u,?_,X⟩;exact(R.block _ (gy N) bq).Z N}}
structure Jg(w0 w:G)(b bs bn:Nat)(e g x t:Int)(ss:List aB)(ns:List ar)(SB NB HB UB:iN):Prop where
 hd:w.heap[b]?=dO #[.U e,.U g,.U x,.I t,.map bs,.map bn] 181
 yL:yy w0 w bs ss SB
 jt:vW w0 w bn ns NB HB UB
 lo:U w0.heap<=b/\U w0.heap<=bs/\U w0.heap<=bn
 ve:(bs::bn::(HB++UB)).Nodup
def Jg.H{g x t:Int}{SB NB HB UB:iN}(h:Jg w0 w b bs bn e g x t ss ns SB NB HB UB)(i:Bw w w'):Jg w0 w' b bs bn e g x t ss ns SB NB HB UB:=
 ⟨(i.block b (gy h.hd)).Z h.hd,h.yL.kept (kU i dN) aj aj,h.jt.kept (kU i dN) aj aj aj,h.lo,h.ve⟩
def cK(h:w.heap[g]?=dO cs t)(i:Nat):I w (Ad g i)=cs[i]?:=by
 unfold World.cell?;rw[h];rfl
def vW.step{NB HB UB:iN}(h:vW w0 w bn ns NB HB UB)(nd:ar)(g m j:Nat)(R:w.grownBy w1 dN)(D5:U w.heap<=g)(DZ:U w.heap<=m)(DS:U w.heap<=j)(aN:m≠j)(hw:U w0.heap<=U w.heap)(V:dV)(hV:Rd w0 V nd.V)(MI:w1.heap[g]?=dO #[V,.U nd.D,.I nd.M,.map m,.U nd.P,.U nd.F,.map j] 186)(hH:w1.ownsMap dG 27 unitElem m (J nd.y) D1)(X:jL D1 nd.y)(hU:w1.ownsMap dG 27 unitElem j (J nd.X) D2)(W:jL D2 nd.X)(N:∀z∈ns,di z.A≠di nd.A)(hM:pR D (List.zipWith (λ(nd:ar)g=>(di nd.A,g)) ns NB))(hD:IsMap D)(cX:w2.ownsMap dG 9 iF bn (J ns+1) (D.put (di nd.A) (.lit (.I g))))(s:w1.grownBy w2 bn):vW w0 w2 bn (ns++[nd]) (NB++[g]) (HB++[m]) (UB++[j]):=by
 have nL:bn<U w.heap:=by obtain⟨D,hD,_⟩:=h.own;exact hD.lt
 have aH:=h.lt;refine⟨by simp[h.len],by simp[h.Mo],by simp[h.Mn],⟨_,by rw[dm];exact cX,?_⟩,λi z g' h' u' hi B r u=>?_,bX5 h.jt (λy hy=>aK (aH.1 y hy)),?_⟩;{rw[bG9 _ h.len];refine hM.put hD (by trivial) (λp E=>?_) g;obtain⟨i,x,y,hx,hy,rfl⟩:=yD E;exactλe=>N x (bu hx) e};{
 obtain Gh|⟨e1,rfl⟩:=cv0 hi;{
 have M:=(bg.1 Gh).1;rw[mj (h.len▸M)]at B;rw[mj (h.Mo▸M)]at r;rw[mj (h.Mn▸M)]at u;let⟨a1,a2,a3,⟨V',a4,a5⟩,⟨E1,a6,a7⟩,⟨E2,a8,a9⟩⟩:=h.blk i z g' h' u' Gh B r u;have o:=h.ve;rw[AL]at o;have n1:Y h'≠Y bn:=by intro e;cases e;exact o.1 (jd.2 (.L (bu r)))
 have n2:Y u'≠Y bn:=by intro e;cases e;exact o.1 (jd.2 (.R (bu u)))
 have b1:=(R.block g' (gy a4) aj).Z a4;refine⟨a1,a2,a3,⟨V',(s.block g' (gy b1) ?_).Z b1,a5⟩,⟨E1,(a6.kept R aj).kept s n1,a7⟩,⟨E2,(a8.kept R aj).kept s n2,a9⟩⟩;let⟨D',Z,_⟩:=h.own;have:=ak6 Z a4;simpa using this};{rw[e1,<-h.len,pI aA]at B;rw[e1,<-h.Mo,pI aA]at r;rw[e1,<-h.Mn,pI aA]at u;simp at B r u;subst B r u;exact⟨af,af,af,⟨V,(s.block _ (gy MI) bq).Z MI,hV⟩,⟨D1,hH.kept s bq,X⟩,⟨D2,hU.kept s bq,W⟩⟩}};{
 have E:((HB++[m])++(UB++[j])).Perm ((HB++UB)++[m,j]):=by rw[uD,uD];exact List.Perm.append_left HB (show(m::(UB++[j])).Perm (UB++m::[j])from aV3.C)
 have hq:(bn::((HB++[m])++(UB++[j]))).Perm ((bn::(HB++UB))++[m,j]):=E.cons bn;rw[hq.nodup_iff,Cd];refine⟨h.ve,by simp[aN],λa S c hc=>?_⟩;have zQ:a<U w.heap:=by obtain rfl|S:=fU.1 S;{exact nL};{exact aH.2 a S}
 simp at hc;obtain rfl|rfl:=hc<;>omega}
def bM3{Q:iE}(M:o.guard=dN){m v:Operand}(i:o.op=Op.mapUpdate t m x v){e:TypeId}(W:Keyed P k)(y:P.underlying t=Y (.map k e))(R:dV->Option (DataW Unit×List MemPlace))(b n:Nat) (hm:a.eval m=.map b)(V:w.ownsMap P k R b n D)(B:n<maxLen){key:dV}(val:dV)(r:a.eval x=key)(u:a.eval v=val)(N:keyOf P k key=kl)(X:R val=Y (d,ps))(hK:∀w',w'.ownsMap P k R b (n+1) (D.put kl d)->w.grownBy w' b->K (a.put o.dst undef) w'):if Region.wanted o (yielded ops a.tmps)then Oper.wp P o a w K Q else E:=by
 have s:Region.wanted o (yielded ops a.tmps):=by simp[Region.wanted,M]
 rw[aM s];let⟨w',S,q,j⟩:=V.update W y B N X;unfold Oper.wp;simp[execOp,i,hm,r,u,S,Result.andThen];exact hK w' q j
def df3{Q:iE}(q:o.guard=dN)(i:o.op=Op.box t x)(j:a.eval x=v)(s:(Instr.box t v).run P w=.ok r w')(hK:K (a.put o.dst r) w'):if Region.wanted o (yielded ops a.tmps)then Oper.wp P o a w K Q else E:=by
 have m:Region.wanted o (yielded ops a.tmps):=by simp[Region.wanted,q]
 rw[aM m];unfold Oper.wp;simp[execOp,i,j,s,Result.andThen];exact hK
def dn1{h u:Nat}:(Instr.box 186 (.agg #[V,.U ow,.I mo,.map h,.U ep,.U ge,.map u])).run dG w=.ok (Pz (U w.heap)) (w.alloc (dO #[V,.U ow,.I mo,.map h,.U ep,.U ge,.map u] 186)):=by
 go_simp
def Wn{α:Type}{l:List α}{k:Nat}{y:α}(h:l[k]?=y):l.take (k+1)=l.take k++[y]:=by rw[pZ,h];rfl
def bZ7{α:Type}{l:List α}{k:Nat}{z:α}(h:z∈l.take k):∃i,i<k/\l[i]?=z:=by
 let⟨i,j⟩:=wR h;rw[Pp]at j;split at j;{exact⟨i,by assumption,j⟩};{cases j}
def qU(h:w'.heap[b]?=w.heap[b]?){o:Nat}:I w' (Ad b o)=I w (Ad b o):=by
 unfold World.cell?;rw[h]
variable {g t x:Int}
def fK.heap(h:fK w b e g x t S N)(i:w'.heap[b]?=w.heap[b]?):fK w' b e g x t S N:=
 ⟨(qU i).Z h.1,(qU i).Z h.2.1,(qU i).Z h.2.2.1,(qU i).Z h.2.2.2.1,(qU i).Z h.2.2.2.2.1,(qU i).Z h.2.2.2.2.2⟩
def ga{X:G}(h:X.drew.grownBy w2 row):X.grownBy w2 row:=⟨h.os,h.tape,h.output,h.size,h.block⟩
variable {d:Nat}
def Ws(en:Le ss n)(em:Le ns m)(h:kV w (.S p n c) ss)(hN:gJ w (.S q m d) ns)(hn:Mg n)(hm:Mg m)(hsu:O (∀s∈ss,0<=s.1/\s.1<2^64))(Yc:O (∀(i j:Nat)(s s':aB),ss[i]?=Y s->ss[j]?=s'->i<j->s.1≠s'.1))(cQ:O (Bn ns))(og:O (Bu ns))(aJ:O (∀(i j:Nat)(z z':ar),ns[i]?=Y z->ns[j]?=z'->i<j->z.A≠z'.A)):dQ dG 69 #[bS e g x t (.S p n c) (.S q m d)] w λr w'=>∃b bs bn SB NB HB UB,r=dR (Pz b)/\Jg w w' b bs bn e g x t ss ns SB NB HB UB/\Bw w w':=by
 have HR:=ag λ(w':G)(hb:Bw w w')=>aF (h.H hb) (hN.H hb);have HS0:=ag h;have HN0:=ag hN;clear h hN;have FO:=@am6 dG;go_in;go_wp2_with fail;let⟨b,eb⟩:=aG (U w.heap+1+1+1);let⟨bn,Eh⟩:=aG (U w.heap+1+1);let⟨bs,Nh⟩:=aG (U w.heap+1);rw[<-eb,<-Eh,<-Nh];let⟨W,hW⟩:=aG ((((w.alloc (dO #[.U e,.U g,.U x,.I t,.S p n c,.S q m d] 41)).alloc (.map #[] 0)).alloc (.map #[] 0)).alloc (dO #[.U e,.U g,.U x,.I t,.map (Y bs),.map (Y bn)] 181));have bW:Bw w W:=by rw[hW];exact(((aD.alloc aA _).alloc aj _).alloc bq _).alloc bq _
 have zW:U W.heap=U w.heap+4:=by rw[hW];simp
 have ME:W.heap[b]?=Y (dO #[.U e,.U g,.U x,.I t,.map (Y bs),.map (Y bn)] 181):=by rw[hW,eb];have:=(aT7 (((w.alloc (dO #[.U e,.U g,.U x,.I t,.S p n c,.S q m d] 41)).alloc (.map #[] 0)).alloc (.map #[] 0)) (dO #[.U e,.U g,.U x,.I t,.map (Y bs),.map (Y bn)] 181)).1;simpa using this
 have oS:W.ownsMap dG 27 iF bs 0 (.map []):=by rw[hW,Nh];have:=((World.ownsMap_made (w.alloc (dO #[.U e,.U g,.U x,.I t,.S p n c,.S q m d] 41)) dG 27 iF).alloc (.map #[] 0)).alloc (dO #[.U e,.U g,.U x,.I t,.map (Y (U w.heap+1)),.map (Y bn)] 181);simpa using this
 have oN:W.ownsMap dG 9 iF bn 0 (.map []):=by rw[hW,Eh];have:=(World.ownsMap_made ((w.alloc (dO #[.U e,.U g,.U x,.I t,.S p n c,.S q m d] 41)).alloc (.map #[] 0)) dG 9 iF).alloc (dO #[.U e,.U g,.U x,.I t,.map (Y bs),.map (Y (U w.heap+1+1))] 181);simpa using this
 have c6:fK W (U w.heap) e g x t (.S p n c) (.S q m d):=by
  have c0:fK (w.alloc (dO #[.U e,.U g,.U x,.I t,.S p n c,.S q m d] 41)) (U w.heap) e g x t (.S p n c) (.S q m d):=by simp[fK]
  rw[hW];exact c0.H (((aD.alloc aA _).alloc aj _).alloc aj _)
 rw[<-hW];have HEQ:=gI eb Eh Nh zW;have BW:=ag bW;have BI:=ag c6;have BH:=du ME oS oN;clear hW eb Eh Nh zW bW ME oS oN c6 FO
 go_loopw[23](λiv wr=>∃(k:Nat)(SB:iN),k<=n/\iv=.I k/\O (yy w wr bs (ss.take k) SB/\wr.heap[b]?=Y (dO #[.U e,.U g,.U x,.I t,.map (Y bs),.map (Y bn)] 181)/\wr.ownsMap dG 9 iF bn 0 (.map [])/\fK wr (U w.heap) e g x t (.S p n c) (.S q m d))/\Bw w wr/\U W.heap<=U wr.heap) (λiv _=>n-(intOf iv).toNat)
 exact⟨0,[],cO _,rfl,⟨yy.empty BH.2.1,BH.1,BH.2.2,BI⟩,BW,eG _⟩;{
 obtain⟨k,SB,hk,rfl,fL,az,vN⟩:=hrel;by_cases aH:k<n;{
 have cL:=bM k n;have bR:k<J ss:=by rw[ae en];exact aH
 let⟨⟨iI,D,Q⟩,N⟩:=nR bR;obtain⟨b0,o,rfl,Kq,MH,u,IC,PR⟩:∃b o,p=(Ad b o)/\I w (Ad b (o+k*3))=Y (.U iI)/\I w (Ad b (o+k*3+1))=Y (.I D)/\∃u,I w (Ad b (o+k*3+2))=Y u/\sj w u Q:=by let⟨p',c',ev,hd⟩:=ae HS0;obtain⟨rfl,-,-⟩:=jJ ev;obtain h0|⟨b,o,h1,h2⟩:=hd;{rw[h0]at bR;simp at bR};{exact⟨b,o,h1,h2 k _ N⟩}
 obtain⟨pq,cq,rfl,-⟩:=id PR;let⟨mq,emq⟩:=aY (J Q);rw[emq]at PR IC;clear emq;replace Kq:=al Kq az;replace MH:=al MH az;replace IC:=al IC az;have VM:=ag PR;have HY:=ag N;have hI:=ae hsu _ (bu N);have fh:keyOf dG 27 (.U iI)=Y (.U iI):=keyOf_int_mk underlying27 (Dx hI);have Jp:=ag fh;go_wp2_with fail;let⟨X,hX⟩:=aG (wr.alloc (dO #[.U iI,.I D,.S pq mq cq] 97));have bX:=gF hX;have lQ:X.heap[U wr.heap]?=Y (dO #[.U iI,.I D,.S pq mq cq] 97):=by rw[hX];exact(aT7 wr _).1
 have hcX:I X (Aw wr 0)=Y (.U iI):=by rw[hX];simp
 let⟨i1,i2,i3,i4⟩:=ae fL;have jv:X.heap[b]?=Y (dO #[.U e,.U g,.U x,.I t,.map (Y bs),.map (Y bn)] 181):=(bX.block b (gy i2)).Z i2;have uR:I X (Ad b 4)=Y (.map (Y bs)):=cK jv 4;rw[<-hX];have zX:U X.heap=U wr.heap+1:=by rw[hX];simp
 let⟨D0,oD,mD⟩:=i1.own;have hlen:J (ss.take k)=k:=by rw[rM,ae en];omega
 rw[hlen]at oD;have oX:X.ownsMap dG 27 iF bs k D0:=oD.kept (kU bX dN) aj;have gM:bs<U wr.heap:=oD.lt;have co0:bs≠b:=λe=>ak6 oD i2 e.C;have KX:=bG uR hcX;have OX:=ag oX;refine fk (λw'=>I w' (Ad b 4)=Y (.map (Y bs))/\I w' (Aw wr 0)=Y (.U iI)) (by exact KX) λhS=>?_;refine iC 0 1 2 3 hS ?_;refine fO 4 5 hS ?_;refine ew 6 λKK hK=>?_;refine bM3 aS (t:=178) aS (k:=27) mr underlying178 iF bs k (D:=D0) aS (by exact OX.drew) jC (key:=.U iI) (Pz (U wr.heap)) (kl:=.U iI) aS aS Jp (d:=.lit (.I (U wr.heap))) (ps:=[]) rfl ?_;intro M Qb dt;have Kj:X.grownBy M (Y bs):=ga dt;refine bL hK (by exact⟨(qU (Kj.block b (gy jv) (by simpa using co0.C))).Z KX.1,(qU (Kj.block (U wr.heap) (gy lQ) bq)).Z KX.2⟩) λhS=>?_;clear hK KK;refine fy ?_;have bj:yy w M bs (ss.take (k+1)) (SB++[U wr.heap]):=by rw[Wn (ae HY)];refine i1.step (iI,D,Q) (U wr.heap) (kU bX dN) aA az.size (.S pq mq cq) VM lQ (λz hz=>?_) mD oD.isMap (by rw[hlen];exact Qb) Kj;let⟨i,hi,uI⟩:=bZ7 hz;exact Yc i k z (iI,D,Q) uI HY hi
 have vR:M.ownsMap dG 9 iF bn 0 (.map []):=(i3.kept (kU bX dN) aj).kept Kj (by have:=(ae HEQ);simp;omega)
 have ay:M.heap[b]?=Y (dO #[.U e,.U g,.U x,.I t,.map (Y bs),.map (Y bn)] 181):=(Kj.block b (gy jv) (by simpa using co0.C)).Z jv;have h62:fK M (U w.heap) e g x t (.S (Ad b0 o) n c) (.S q m d):=(i4.H bX).heap (Kj.block (U w.heap) (aK az.size) (by have:=ae HEQ;simp;omega));have fN:Bw w M:=Bk (ai az bX) Kj (aK az.size) (λj hj=>by cases hj;have:=ae HEQ;omega);have fI:U W.heap<=U M.heap:=aK Kj.size;have iT:=gI bj ay vR h62;clear bj ay vR h62 hS Qb dt Kj i1 i2 i3 i4 jv oD mD lQ bX;go_wp2;go_roundw;exact⟨k+1,_,af,by go_num,iT,fN,fI⟩;exact cW};{
 have cL:=fq k n;obtain rfl:k=n:=af;let⟨i1,i2,i3,i4⟩:=ae fL;rw[lY (by rw[ae en];exact eG _)]at i1;have j0:=id i4;have I1:=ag i1;have I2:=ag i2;have I3:=ag i3;have I4:=ag i4;clear i1 i2 i3 i4 fL;go_wp2_with fail;clear j0;let⟨iY,eY⟩:=aG wr;subst eY;have BY:=ag az;have ZY:=ag vN;clear az vN aH cL hk
 go_loopw[37](λiv wr=>∃(k:Nat)(NB HB UB:iN),k<=m/\iv=.I k/\O (vW w wr bn (ns.take k) NB HB UB/\yy w wr bs ss SB/\wr.heap[b]?=Y (dO #[.U e,.U g,.U x,.I t,.map (Y bs),.map (Y bn)] 181)/\∀y∈HB++UB,y≠bs)/\Bw w wr/\U W.heap<=U wr.heap) (λiv _=>m-(intOf iv).toNat)
 exact⟨0,[],[],[],cO _,rfl,⟨vW.empty I3,I1,I2,aj⟩,BY,ZY⟩;{
 obtain⟨j,NB,HB,UB,hk,rfl,fL,az,vN⟩:=hrel;by_cases aH:j<m;{
 have cL:=bM j m;have bR:j<J ns:=by rw[ae em];exact aH
 let⟨B,N⟩:=nR bR;obtain⟨b0,o,rfl,hA⟩:=HN0.at af;let⟨P,V,H,iU,Qe⟩:=hA j B N;let⟨qe,fN,MX,MW,U6⟩:=ae cQ _ (bu N);let⟨hU1,hU2⟩:=ae og _ (bu N);obtain⟨pp,pc,pn,rfl,uZ⟩:=Qe.r0.dy;obtain⟨vq,vc,vn,rfl,Nj⟩:=Qe.r1.dy;obtain⟨hp,hc,hh,rfl,Ai⟩:=Qe.r4.dy;obtain⟨up,uc,un,rfl,CM⟩:=Qe.r7.dy;have Co:pn<=1048576:=by rw[<-ae uZ];exact fN
 have DZ:hh<=1048576:=by rw[<-ae Ai];exact MW
 have DS:un<=1048576:=by rw[<-ae CM];exact U6
 have ac8:=ag Qe;have HY:=ag N;have HU1:O (∀i∈B.y,0<=i/\i<2^64):=hU1;have HU2:O (∀i∈B.X,0<=i/\i<2^64):=hU2;have hnr:=Qe.H az;obtain⟨c0,c1,c2,c3,c4,c5,c6,c7,-,-,-,-,-⟩:=hnr;obtain⟨ow,mo,ep,ge,e1,e2,e3,e4⟩:∃a b c d,B.D=a/\B.M=b/\B.P=c/\B.F=d:=⟨_,_,_,_,rfl,rfl,rfl,rfl⟩
 rw[e1]at c2;rw[e2]at c3;rw[e3]at c5;rw[e4]at c6;have HE:=gI e1 e2 e3 e4;clear bR N hA Qe qe fN MX MW U6 hU1 hU2 e1 e2 e3 e4;go_wp2_with fail;let⟨X,hX⟩:=aG (wr.alloc (dO #[.S pp pn pc,.S vq vn vc,.U ow,.I mo,.S hp hh hc,.U ep,.U ge,.S up un uc] 141));let⟨C,eC⟩:=aG (U wr.heap);have bX:=gF hX;have zX:U X.heap=U wr.heap+1:=by rw[hX];simp
 let⟨i1,i2,i3,i4⟩:=ae fL;have jv:X.heap[b]?=Y (dO #[.U e,.U g,.U x,.I t,.map (Y bs),.map (Y bn)] 181):=(bX.block b (gy i3)).Z i3;have rX:Rd X (.S pp pn pc) B.A:=ac8.r0.H (ai az bX);have KX:O (I X (Ad b 5)=Y (.map (Y bn))/\I X (Ad C 0)=Y (.S pp pn pc)/\I X (Ad C 1)=Y (.S vq vn vc)/\I X (Ad C 2)=Y (.U ow)/\I X (Ad C 3)=Y (.I mo)/\I X (Ad C 4)=Y (.S hp hh hc)/\I X (Ad C 5)=Y (.U ep)/\I X (Ad C 6)=Y (.U ge)/\I X (Ad C 7)=Y (.S up un uc)/\Rd X (.S pp pn pc) B.A):=by refine⟨cK jv 5,?_,?_,?_,?_,?_,?_,?_,?_,rX⟩<;>(rw[hX,eC];simp)
 have uH:iZ X (.S hp hh hc) B.y:=ac8.r4.H (ai az bX);have uU:iZ X (.S up un uc) B.X:=ac8.r7.H (ai az bX);rw[<-hX,<-eC];have UH:=ag uH;have UU:=ag uU;have HX:=du bX zX jv;have iT:=fL;clear hX c0 c1 c2 c3 c4 c5 c6 c7 uH uU rX bX zX jv i1 i2 i3 i4 fL;have HCE:=ag eC;clear eC;have fh:keyOf dG 9 (.string (aZ B.A))=(di B.A):=by rw[WideMaps.keyOf_string_mk underlying9 (by rw[Da,ae uZ];unfold maxLen;omega),Vr]
 have Jp:=ag fh;clear fh;refine fk (λw'=>I w' (Ad b 5)=Y (.map (Y bn))/\I w' (Ad C 0)=Y (.S pp pn pc)/\I w' (Ad C 1)=Y (.S vq vn vc)/\I w' (Ad C 2)=Y (.U ow)/\I w' (Ad C 3)=Y (.I mo)/\I w' (Ad C 4)=Y (.S hp hh hc)/\I w' (Ad C 5)=Y (.U ep)/\I w' (Ad C 6)=Y (.U ge)/\I w' (Ad C 7)=Y (.S up un uc)/\Rd w' (.S pp pn pc) B.A) (by exact KX) λhS=>?_;refine iC 0 1 2 3 hS ?_;refine fO 4 5 hS ?_;refine Hy (i:=6) (oi:=_) (v:=?_) (by simp only[sV,uA,uz];rfl) aU aU aU (λ_ _ _ h=>h) (Or.L ⟨aS,?_⟩) hS ?_;rotate_left;{(intro w' mw;(try dsimp only at mw);(have hcv:=tK uZ mw.2.2.2.2.2.2.2.2.2);go_simp;try with_reducible rfl)}
 simp only[Act.put,xa,xb,xc];refine iR 7 8 9 10 11 12 13 14 hS ?_;refine iC 15 16 17 18 hS ?_;refine fO 20 21 hS ?_;refine ew 19 λKK hK=>?_;refine jg (bP4 (p:=hp) (c:=hc) (n:=hh) (ids:=B.y) Ai (UH.H aD.drew) DZ HU1) ?_;rintro r M⟨D1,rfl,o1,s1,ay,uh⟩;refine⟨_,rfl,?_⟩;have A9:Bw X M:=ai (aR (U X.heap) X).drew ay;have KX2:O (I M (Ad b 5)=Y (.map (Y bn))/\I M (Ad C 0)=Y (.S pp pn pc)/\I M (Ad C 1)=Y (.S vq vn vc)/\I M (Ad C 2)=Y (.U ow)/\I M (Ad C 3)=Y (.I mo)/\I M (Ad C 4)=Y (.S hp hh hc)/\I M (Ad C 5)=Y (.U ep)/\I M (Ad C 6)=Y (.U ge)/\I M (Ad C 7)=Y (.S up un uc)/\Rd M (.S pp pn pc) B.A):=by let⟨k0,k1,k2,k3,k4,k5,k6,k7,k8,k9⟩:=ae KX;exact⟨al k0 A9,al k1 A9,al k2 A9,al k3 A9,al k4 A9,al k5 A9,al k6 A9,al k7 A9,al k8 A9,k9.H A9⟩
 refine bL hK (by exact KX2) λhS=>?_;clear hK KK;have zd:U X.drew.heap=U X.heap:=rfl;rw[zd]at o1 uh⊢;let⟨h1,Ng⟩:=aG (U X.heap);rw[<-Ng]at o1 uh⊢;have VO:=gI o1 s1 uh Ng;have lh:=ag A9;clear o1 s1 ay uh A9 zd Ng;refine ew 22 λKK hK=>?_;refine jg (bP4 (p:=up) (c:=uc) (n:=un) (ids:=B.X) CM (UU.H lh) DS HU2) ?_;rintro r w3⟨D2,rfl,o2,s2,aI,vS⟩;refine⟨_,rfl,?_⟩;have KX3:O (I w3 (Ad b 5)=Y (.map (Y bn))/\I w3 (Ad C 0)=Y (.S pp pn pc)/\I w3 (Ad C 1)=Y (.S vq vn vc)/\I w3 (Ad C 2)=Y (.U ow)/\I w3 (Ad C 3)=Y (.I mo)/\I w3 (Ad C 4)=Y (.S hp hh hc)/\I w3 (Ad C 5)=Y (.U ep)/\I w3 (Ad C 6)=Y (.U ge)/\I w3 (Ad C 7)=Y (.S up un uc)/\Rd w3 (.S pp pn pc) B.A):=by let⟨k0,k1,k2,k3,k4,k5,k6,k7,k8,k9⟩:=ae KX2;exact⟨al k0 aI,al k1 aI,al k2 aI,al k3 aI,al k4 aI,al k5 aI,al k6 aI,al k7 aI,al k8 aI,k9.H aI⟩
 refine bL hK (by exact KX3) λhS=>?_;clear hK KK;let⟨u1,M8⟩:=aG (U M.heap);rw[<-M8]at o2 vS⊢;have HO2:=gI o2 s2 vS M8;have oY:=ag aI;clear o2 s2 aI vS M8;refine tn 23 hS ?_;refine ew 24 λKK hK=>?_;refine df3 aS (t:=186) aS (v:=.agg #[.S vq vn vc,.U ow,.I mo,.map h1,.U ep,.U ge,.map u1]) aS (dn1) ?_;let⟨Z,eZ⟩:=aG (w3.alloc (dO #[.S vq vn vc,.U ow,.I mo,.map h1,.U ep,.U ge,.map u1] 186));have bZ:=gF eZ;have hZ:Z.heap[U w3.heap]?=Y (dO #[.S vq vn vc,.U ow,.I mo,.map h1,.U ep,.U ge,.map u1] 186):=by rw[eZ];exact(aT7 w3 _).1
 rw[<-eZ];clear eZ;have KX4:O (I Z (Ad b 5)=Y (.map (Y bn))/\I Z (Ad C 0)=Y (.S pp pn pc)/\I Z (Ad C 1)=Y (.S vq vn vc)/\I Z (Ad C 2)=Y (.U ow)/\I Z (Ad C 3)=Y (.I mo)/\I Z (Ad C 4)=Y (.S hp hh hc)/\I Z (Ad C 5)=Y (.U ep)/\I Z (Ad C 6)=Y (.U ge)/\I Z (Ad C 7)=Y (.S up un uc)/\Rd Z (.S pp pn pc) B.A):=by let⟨k0,k1,k2,k3,k4,k5,k6,k7,k8,k9⟩:=ae KX3;exact⟨al k0 bZ,al k1 bZ,al k2 bZ,al k3 bZ,al k4 bZ,al k5 bZ,al k6 bZ,al k7 bZ,al k8 bZ,k9.H bZ⟩
 refine bL hK (by exact KX4) λhS=>?_;clear hK KK;let⟨g1,Zy⟩:=aG (U w3.heap);rw[<-Zy]at hZ⊢;have VY:Bw X Z:=ai (ai lh oY) bZ;let⟨i1,i2,i3,i4⟩:=ae iT;let⟨bX,zX,jv⟩:=ae HX;let⟨o1,s1,uh,Ng⟩:=ae VO;let⟨o2,s2,vS,M8⟩:=ae HO2;have GM:Bw wr Z:=ai bX VY;let⟨D0,oD,mD⟩:=i1.own;have hlen:J (ns.take j)=j:=by rw[rM,ae em];omega
 rw[hlen]at oD;have oZ:Z.ownsMap dG 9 iF bn j D0:=oD.kept (kU GM dN) aj;have q1:Z.ownsMap dG 27 unitElem h1 hh D1:=(o1.kept (kU oY dN) aj).kept (kU bZ dN) aj;have q2:Z.ownsMap dG 27 unitElem u1 un D2:=o2.kept (kU bZ dN) aj;have lt3:=oY.size;have lt2:=lh.size;have nL:=oD.lt;have HQ:=gI q1 q2 s1 s2;have eY6:=du uh Ng (aF vS (aF M8 (aF Zy (aF zX (aF lt2 (aF lt3 nL))))));have HOZ:=ag oZ;have eX8:=gI hZ GM oD mD;clear q1 q2 s1 s2 uh Ng vS M8 Zy zX lt2 lt3 nL oZ hZ GM oD mD i1 i2 i3 i4 bX jv o1 o2 VY bZ;refine ew 25 λKK hK=>?_;refine bM3 aS (t:=179) aS (k:=9) ru underlying179 iF bn j (D:=D0) aS (by exact HOZ) jC (key:=.string (aZ B.A)) (Pz g1) (kl:=di B.A) aS aS Jp (d:=.lit (.I g1)) (ps:=[]) rfl ?_;intro w4 Mu ly;let⟨hZ,GM,oD,mD⟩:=ae eX8;let⟨i1,i2,i3,i4⟩:=ae iT;let⟨q1,q2,s1,s2⟩:=ae HQ;let⟨uh,Ng,vS,M8,Zy,zX,lt2,lt3,nL⟩:=ae eY6;have dQ1:=ly.size;have zZ:=gy hZ;have zRZ:=GM.size;have eb4:=az.size;let⟨eb,Eh,Nh,zW⟩:=ae HEQ;have hCe:=ae HCE;have au7:Z.heap[b]?=Y (dO #[.U e,.U g,.U x,.I t,.map (Y bs),.map (Y bn)] 181):=(GM.block b (gy i3)).Z i3;have nb:b≠bn:=af;have nC:C≠bn:=af;have KX5:O (I w4 (Ad b 5)=Y (.map (Y bn))/\I w4 (Ad C 0)=Y (.S pp pn pc)/\I w4 (Ad C 1)=Y (.S vq vn vc)/\I w4 (Ad C 2)=Y (.U ow)/\I w4 (Ad C 3)=Y (.I mo)/\I w4 (Ad C 4)=Y (.S hp hh hc)/\I w4 (Ad C 5)=Y (.U ep)/\I w4 (Ad C 6)=Y (.U ge)/\I w4 (Ad C 7)=Y (.S up un uc)/\Rd w4 (.S pp pn pc) B.A):=by
  let⟨k0,k1,k2,k3,k4,k5,k6,k7,k8,k9⟩:=ae KX4;have hC:=ly.block C af (by simpa using nC);exact⟨(qU (ly.block b (gy au7) (by simpa using nb))).Z k0,(qU hC).Z k1,(qU hC).Z k2,(qU hC).Z k3,(qU hC).Z k4,(qU hC).Z k5,(qU hC).Z k6,(qU hC).Z k7,(qU hC).Z k8,
   ac8.r0.H (Bk (ai az GM) ly af (λj hj=>by cases hj;omega))⟩
 refine bL hK (by exact KX5) λhS=>?_;clear hK KK;refine fy ?_;let⟨e1,e2,e3,e4⟩:=ae HE;have bj:vW w w4 bn (ns.take (j+1)) (NB++[g1]) (HB++[h1]) (UB++[u1]):=by rw[Wn (ae HY)];refine i1.step B g1 h1 u1 (kU GM dN) af af af af az.size (.S vq vn vc) ac8.r1 (by rw[e1,e2,e3,e4];exact hZ) (by rw[ae Ai];exact q1) s1 (by rw[ae CM];exact q2) s2 (λz hz=>?_) mD oD.isMap (by rw[hlen];exact Mu) ly;let⟨i,hi,uI⟩:=bZ7 hz;intro ee;exact aJ i j z B uI HY hi (Ml (ae cQ z (bu uI)).1 (ae cQ B (bu (ae HY))).1 ee)
 have hse:yy w w4 bs ss SB:=(i2.kept (kU GM dN) aj aj).kept ly bq (λy N=>by let⟨i,hi⟩:=wR N;obtain⟨s,hs⟩:∃s,ss[i]?=Y s:=⟨_,bD (by rw[<-i2.len];exact(bg.1 hi).1)⟩;let⟨_,u,a2,_⟩:=i2.blk i s y hs hi;have:=ak6 oD a2;simpa using this)
 have cT:w4.heap[b]?=Y (dO #[.U e,.U g,.U x,.I t,.map (Y bs),.map (Y bn)] 181):=(ly.block b (gy au7) (by simpa using nb)).Z au7;have MW:Bw w w4:=Bk (ai az GM) ly af (λj hj=>by cases hj;omega);have FE:U W.heap<=U w4.heap:=af;have hd4:∀y∈(HB++[h1])++(UB++[u1]),y≠bs:=by intro y N;simp only[jd,pY]at N;obtain(N|rfl)|(N|rfl):=N;{exact i4 y (jd.2 (.L N))};{omega};{exact i4 y (jd.2 (.R N))};{omega}
 have fa2:=gI bj hse cT hd4;clear bj hse cT hd4 hS Mu ly i1 i2 i3 i4 q1 q2 s1 s2 uh Ng vS M8 Zy zX lt2 lt3 nL eb Eh Nh zW hCe hZ GM oD mD au7 e1 e2 e3 e4 dQ1 eb4 nb nC zZ zRZ KX KX2 KX3 KX4 KX5;go_wp2;go_roundw;exact⟨j+1,_,_,_,af,by go_num,fa2,MW,FE⟩;exact cW};{
 have cL:=fq j m;obtain rfl:j=m:=af;let⟨i1,i2,i3,i4⟩:=ae fL;rw[lY (by rw[ae em];exact eG _)]at i1;let⟨eb,Eh,Nh,zW⟩:=ae HEQ;have uQ:Jg w wr b bs bn e g x t ss ns SB NB HB UB:=⟨i3,i2,i1,af,by rw[AL];refine⟨λlu=>?_,i1.ve⟩;obtain hh|hh:=fU.1 lu;{omega};{exact i4 _ hh rfl}⟩
 have fa6:=ag uQ;clear i1 i2 i3 i4 eb Eh Nh zW uQ;go_wp2;go_ret;exact⟨b,rfl,⟨bs,bn,SB,NB,HB,UB,fa6⟩,az⟩}}}}
namespace Q
open Go.Sort
variable {d:Array Int}{r hi first:Nat}
def dj8(h:¬2*r+1<hi):siftDown ltInt hi first r d=d:=by
 rw[siftDown,Xr af]
def DP(i first r:Nat)(d:Array Int):Nat:=if 2*r+1+1<i&&ltInt d[first+(2*r+1)]! d[first+(2*r+1)+1]! then 2*r+2 else 2*r+1
def aN2(h:2*r+1<hi)(i:ltInt d[first+r]! d[first+DP hi first r d]! = dF):siftDown ltInt hi first r d=d:=by
 rw[siftDown,dif_neg af];unfold DP at i;split;{next hc=>rw[aM hc]at i;rw[aM (by simp[i])]}
 {next hc=>rw[aL hc]at i;rw[aM (by simp[i])]}
def aN3(h:2*r+1<hi)(i:ltInt d[first+r]! d[first+DP hi first r d]! = dY):siftDown ltInt hi first r d=siftDown ltInt hi first (DP hi first r d) (swp d (first+r) (first+DP hi first r d)):=by
 rw[siftDown,dif_neg af];unfold DP at i⊢;split;{
 next hc=>
 rw[aM hc]at i;rw[aL (by simp[i])];have:2*r+2<hi:=by simp at hc;omega
 rw[Xr this]};{
 next hc=>
 rw[aL hc]at i;rw[aL (by simp[i])]}
variable {w:G}
theorem bP0{blk off cap N lo u first:Nat}(hN:O (d.size=N))(h:HU w blk off d)(hh:first+u<=N)(uL:lo<=N)(fQ:N<=1048576):dQ dG 291 #[.S (Ad blk off) N cap,.I lo,.I u,.I first] w λe w'=>e=dR (dT #[])/\HU w' blk off (siftDown ltInt u first lo d)/\w.grownBy w' blk:=by
 let⟨D,eD⟩:=aY (siftDown ltInt u first lo d);rw[eD];have ED:=ag eD;have H0:=ag h;go_in;go_wp2_with fail
 go_loopw[8](λs8 wr=>∃(r:Nat)(s:Array Int),s8=.I r/\r<=1048576/\O (s.size=N)/\O (HU wr blk off s)/\O (siftDown ltInt u first r s=D)/\O (w.grownBy wr blk)) (λs8 _=>u-(intOf s8).toNat)
 exact⟨lo,d,rfl,af,hN,H0,ED,M6⟩;{
 obtain⟨r,s,rfl,q1,oG,rW,V,hg⟩:=hrel;have w1:IntKind.i64.wrap (2*(r:Int))=2*(r:Int):=kP _ af;obtain⟨c,ec⟩:∃c:Nat,2*(r:Int)+1=(c:Int):=⟨2*r+1,af⟩;have ec0:2*r+1=c:=af;have wc:=il c;by_cases aH:c<u;{
 have cL:¬(u:Int)<=(c:Int):=af;have Km:=ae oG;obtain⟨X,ec2⟩:∃X:Nat,(c:Int)+1=(X:Int):=⟨c+1,af⟩;have wc2:=il X;obtain⟨fr,efr⟩:∃x:Nat,(first:Int)+(r:Int)=(x:Int):=⟨first+r,af⟩;have wfr:=il fr;obtain⟨m,efc⟩:∃x:Nat,(first:Int)+(c:Int)=(x:Int):=⟨first+c,af⟩;have wfc:=il m;obtain⟨W,efd⟩:∃x:Nat,(m:Int)+1=(x:Int):=⟨m+1,af⟩;have wfd:=il W;have fA8:(first:Int)+(X:Int)=(W:Int):=af;have n1:first+r=fr:=af
 have n2:first+c=m:=af
 have n3:m+1=W:=af;have n4:2*r+2=X:=af;let⟨cr,IP⟩:=ae rW fr af;let⟨cc,fcc⟩:=ae rW m af;let⟨y,ey⟩:=aY s[fr]!;let⟨z,ez⟩:=aY s[m]!;rw[ey]at cr;rw[ez]at cc;have j1:=bM fr N;have j2:=bM m N;have K1:=bG cr cc;have F1:=bG IP fcc;by_cases gC:X<u;{
 have UQ:=bM X u;let⟨cd,IQ⟩:=ae rW W af;let⟨x,ex⟩:=aY s[W]!;rw[ex]at cd;have j3:=bM W N;let⟨B,eB⟩:=aY (ltInt z x);have EB:=ag eB;have Qh:DP u first r s=if B then X else c:=by unfold DP;rw[ec0,n4,n2,n3,ez,ex,eB];simp only[show dD (c+1<u)=dY by(rw[uF];omega),vI]
 have K2:=bG K1.2 cd;have cN8:=ag Qh;have HX:=du ex cd IQ;have M:=mX ec0 n1 n2 n3 n4;have HE:=bG ey ez;go_wp2_with fail
 go_cut[36](λrv wc=>rv=.bool B/\wc=wr.drew)
 case first=>(
 refine fk (λw'=>I w' (Ad blk (off+m))=dU z/\I w' (Ad blk (off+W))=dU x) (by exact K2) λhS=>?_;refine iR 0 1 2 3 4 5 6 7 hS ?_;refine iR 8 9 10 11 12 13 14 15 hS ?_;refine fO 16 17 hS ?_;refine ry [18] ?_;refine cn (λKK hK=>?_) ?_;{refine EY aS aS aS aS (λ_=>GH) (FB) ?_;rintro r' w2⟨rfl,rfl⟩;refine⟨_,rfl,?_⟩;rw[ae EB];refine bL hK (by exact K2) λhS=>?_;refine tn 19 hS ?_;refine fy ?_;go_wp2_with fail;go_meet;exact⟨rfl,rfl⟩};exact fg)
 obtain⟨rfl,rfl⟩:=hcut;cases B with
 |true=>
  have vk:O (DP u first r s=X):=by show _=_;rw[ae cN8];rfl
  let⟨ex,cd,IQ⟩:=ae HX;obtain⟨cr,-⟩:=ae K1;obtain⟨IP,-⟩:=ae F1;let⟨Z,yr⟩:=aY (ltInt y x);have EB2:=ag yr;have AU:first+X=W:=aK (ae M)
  have gP:first+r=fr:=M.2.1
  have GX:O (Z=dF->s=D):=λhB=>by rw[<-ae V,aN2 (aK M.1) (by rw[ae vk,AU,gP,HE.1,ex,yr,hB])]
  have Hb:O (Z->siftDown ltInt u first X (swp s fr W)=D):=λhB=>by have:=ae V;rw[aN3 (aK M.1) (by rw[ae vk,AU,gP,HE.1,ex,yr,hB]),ae vk,AU,gP]at this;exact this
  have Km:=ae oG;have zh:=ag (rW.swap (i:=fr) (j:=W) af af ex.C HE.1.C);have kq:O ((swp s fr W).size=N):=by show _=_;rw[size_swp];exact Km
  have HG:=ag (iy (iy hg (iB wr blk (off+fr) (.U x))) (iB _ blk (off+W) (.U y)));have K3:=bG cr cd;have F3:=bG IP IQ;have hrc:r<X:=aK (ae M);go_wp2_with fail
  go_cut[52](λrv wc=>rv=.bool (!Z)/\wc=wr.drew.drew)
  case first=>(
 refine fk (λw'=>I w' (Ad blk (off+fr))=dU y/\I w' (Ad blk (off+W))=dU x) (by exact K3) λhS=>?_;refine iR 0 1 2 3 4 5 6 7 hS ?_;refine iC 8 9 10 11 hS ?_;refine ry [12] ?_;refine cn (λKK hK=>?_) ?_;{refine EY aS aS aS aS (λ_=>GH) (FB) ?_;rintro r' w2⟨rfl,rfl⟩;refine⟨_,rfl,?_⟩;rw[ae EB2];refine bL hK (by exact K3) λhS=>?_;refine tn 13 hS ?_;refine fy ?_;go_wp2_with fail;go_meet;exact⟨rfl,rfl⟩};exact fg)
  obtain⟨rfl,rfl⟩:=hcut;cases Z with
  |false=>
   obtain rfl:=ae GX rfl;go_wp2;exact cg (wS (h:=rfl) _ _ _) rfl ⟨rfl,rW,ga (ga hg)⟩
  |true=>
   have e:=ag (ae Hb rfl);let⟨cr,cd⟩:=ae K3;let⟨IP,IQ⟩:=ae F3;go_wp2_with fail
   go_region
   go_wp2;go_roundw;exact⟨X,swp s fr W,rfl,af,kq,(ae zh),e,ga (ga (ga HG))⟩;exact cW
 |false=>
  have vk:O (DP u first r s=c):=by show _=_;rw[ae cN8];rfl
  have ex:=HE.2;have cd:=K1.2;have IQ:=F1.2;obtain⟨cr,-⟩:=ae K1;obtain⟨IP,-⟩:=ae F1;let⟨Z,yr⟩:=aY (ltInt y z);have EB2:=ag yr;have AU:first+c=m:=aK (ae M)
  have gP:first+r=fr:=M.2.1
  have GX:O (Z=dF->s=D):=λhB=>by rw[<-ae V,aN2 (aK M.1) (by rw[ae vk,AU,gP,HE.1,ex,yr,hB])]
  have Hb:O (Z->siftDown ltInt u first c (swp s fr m)=D):=λhB=>by have:=ae V;rw[aN3 (aK M.1) (by rw[ae vk,AU,gP,HE.1,ex,yr,hB]),ae vk,AU,gP]at this;exact this
  have Km:=ae oG;have zh:=ag (rW.swap (i:=fr) (j:=m) af af ex.C HE.1.C);have kq:O ((swp s fr m).size=N):=by show _=_;rw[size_swp];exact Km
  have HG:=ag (iy (iy hg (iB wr blk (off+fr) (.U z))) (iB _ blk (off+m) (.U y)));have K3:=bG cr cd;have F3:=bG IP IQ;have hrc:r<c:=aK (ae M);go_wp2_with fail
  go_cut[52](λrv wc=>rv=.bool (!Z)/\wc=wr.drew.drew)
  case first=>(
 refine fk (λw'=>I w' (Ad blk (off+fr))=dU y/\I w' (Ad blk (off+m))=dU z) (by exact K3) λhS=>?_;refine iR 0 1 2 3 4 5 6 7 hS ?_;refine iC 8 9 10 11 hS ?_;refine ry [12] ?_;refine cn (λKK hK=>?_) ?_;{refine EY aS aS aS aS (λ_=>GH) (FB) ?_;rintro r' w2⟨rfl,rfl⟩;refine⟨_,rfl,?_⟩;rw[ae EB2];refine bL hK (by exact K3) λhS=>?_;refine tn 13 hS ?_;refine fy ?_;go_wp2_with fail;go_meet;exact⟨rfl,rfl⟩};exact fg)
  obtain⟨rfl,rfl⟩:=hcut;cases Z with
  |false=>
   obtain rfl:=ae GX rfl;go_wp2;exact cg (wS (h:=rfl) _ _ _) rfl ⟨rfl,rW,ga (ga hg)⟩
  |true=>
   have e:=ag (ae Hb rfl);let⟨cr,cd⟩:=ae K3;let⟨IP,IQ⟩:=ae F3;go_wp2_with fail
   go_region
   go_wp2;go_roundw;exact⟨c,swp s fr m,rfl,af,kq,(ae zh),e,ga (ga (ga HG))⟩;exact cW};{
 have UQ:=fq X u;have vk:O (DP u first r s=c):=by show _=_;unfold DP;rw[aL bq,ec0]
 have M:=mX ec0 n1 n2 n3 n4;have HE:=bG ey ez;have ex:=HE.2;have cd:=K1.2;have IQ:=F1.2;go_wp2_with fail
 go_cut[36](λrv wc=>rv=.bool dF/\wc=wr.drew)
 case first=>(
 refine fk (λw'=>True) iq λhS=>?_;refine iC 0 1 2 3 hS ?_;refine tn 4 hS ?_;refine kr 5 6 7 8 hS ?_;refine kr 9 10 11 12 hS ?_;refine kr 13 14 15 16 hS ?_;refine sn 17 hS ?_;refine sn 18 hS ?_;refine tn 19 hS ?_;refine fy ?_;go_wp2_with fail;go_meet;exact⟨rfl,rfl⟩)
 obtain⟨rfl,rfl⟩:=hcut;obtain⟨cr,-⟩:=ae K1;obtain⟨IP,-⟩:=ae F1;let⟨Z,yr⟩:=aY (ltInt y z);have EB2:=ag yr;have AU:first+c=m:=aK (ae M)
 have gP:first+r=fr:=M.2.1
 have GX:O (Z=dF->s=D):=λhB=>by rw[<-ae V,aN2 (aK M.1) (by rw[ae vk,AU,gP,HE.1,ex,yr,hB])]
 have Hb:O (Z->siftDown ltInt u first c (swp s fr m)=D):=λhB=>by have:=ae V;rw[aN3 (aK M.1) (by rw[ae vk,AU,gP,HE.1,ex,yr,hB]),ae vk,AU,gP]at this;exact this
 have Km:=ae oG;have zh:=ag (rW.swap (i:=fr) (j:=m) af af ex.C HE.1.C);have kq:O ((swp s fr m).size=N):=by show _=_;rw[size_swp];exact Km
 have HG:=ag (iy (iy hg (iB wr blk (off+fr) (.U z))) (iB _ blk (off+m) (.U y)));have K3:=bG cr cd;have F3:=bG IP IQ;have hrc:r<c:=aK (ae M);go_wp2_with fail
 go_cut[52](λrv wc=>rv=.bool (!Z)/\wc=wr.drew.drew)
 case first=>(
 refine fk (λw'=>I w' (Ad blk (off+fr))=dU y/\I w' (Ad blk (off+m))=dU z) (by exact K3) λhS=>?_;refine iR 0 1 2 3 4 5 6 7 hS ?_;refine iC 8 9 10 11 hS ?_;refine ry [12] ?_;refine cn (λKK hK=>?_) ?_;{refine EY aS aS aS aS (λ_=>GH) (FB) ?_;rintro r' w2⟨rfl,rfl⟩;refine⟨_,rfl,?_⟩;rw[ae EB2];refine bL hK (by exact K3) λhS=>?_;refine tn 13 hS ?_;refine fy ?_;go_wp2_with fail;go_meet;exact⟨rfl,rfl⟩};exact fg)
 obtain⟨rfl,rfl⟩:=hcut;cases Z with
 |false=>
  obtain rfl:=ae GX rfl;go_wp2;exact cg (wS (h:=rfl) _ _ _) rfl ⟨rfl,rW,ga (ga hg)⟩
 |true=>
  have e:=ag (ae Hb rfl);let⟨cr,cd⟩:=ae K3;let⟨IP,IQ⟩:=ae F3;go_wp2_with fail
  go_region
  go_wp2;go_roundw;exact⟨c,swp s fr m,rfl,af,kq,(ae zh),e,ga (ga (ga HG))⟩;exact cW}};{
 have cL:=mF u c;have hq:=ae V;rw[dj8 af]at hq;subst hq;go_wp2
 first
  |exact cg (wS (h:=rfl) _ _ _) rfl ⟨rfl,rW,hg⟩
  |(go_end0;exact⟨rfl,rW,hg⟩)}}
end Q
namespace Q
open Go.Sort
theorem bO9(j:Int->Int->Bool)(i first:Nat):∀(k r:Nat)(d:Array Int),i-r<=k->(siftDown j i first r d).size=d.size:=by
 intro k
 induction k with
 |zero=>intro r d m;rw[siftDown,Xr af]
 |succ k ih=>
  intro r d m;rw[siftDown];split;{rfl};{split;{split;{rfl};{split;{rw[ih _ _ af,size_swp]};{rfl}}};{split;{rfl};{rw[ih _ _ af,size_swp]}}}
variable {w:G}{d:Array Int}
def dY2{blk off cap N a b:Nat}(hN:O (d.size=N))(h:HU w blk off d)(yb:a<=b)(hb:b<=N)(fQ:N<=1048576):dQ dG 269 #[.S (Ad blk off) N cap,.I a,.I b] w λe w'=>e=dR (dT #[])/\HU w' blk off (heapSort ltInt d a b)/\w.grownBy w' blk:=by
 let⟨D,E⟩:=aY (heapSort ltInt d a b);rw[E];obtain⟨H,eH⟩:∃H:Nat,(b:Int)-(a:Int)=(H:Int):=⟨b-a,af⟩;have B:b-a=H:=af;have wH:=il H;unfold heapSort at E;rw[B]at E;let⟨M,eM⟩:=aY (heapBuild ltInt H a ((H-1) / 2+1) d);rw[eM]at E;have ED:=ag E;have EM:=ag eM;have H0:=ag h;have hHN:a+H<=N:=af;have HE0:=ag B;have w1:IntKind.i64.wrap ((H:Int)-1)=(H:Int)-1:=kP _ af;obtain⟨q,eq⟩:∃q:Int,Int.tdiv ((H:Int)-1) 2=q:=⟨_,rfl⟩;have hq:q=((H-1) / 2:Nat):=by rw[<-eq];by_cases hz:H=0;{subst hz;decide};{rw[show(H:Int)-1=((H-1:Nat):Int) by omega];exact(aV2 _ _).C}
 have Im:0<=q:=af;have Mt:q<=1048576:=af;have wq:IntKind.i64.wrap q=q:=kP _ af;have HQ:=ag hq;clear E eM h B hq;go_in;go_wp2_with fail
 go_loopw[9](λs9 wr=>∃(o:Int)(k:Nat)(s:Array Int),s9=.I o/\o=(k:Int)-1/\k<=H+1/\O (s.size=N)/\O (HU wr blk off s)/\O (heapBuild ltInt H a k s=M)/\O (w.grownBy wr blk)) (λs9 _=>(intOf s9+1).toNat)
 exact⟨q,(H-1) / 2+1,d,rfl,aK (ae HQ),af,hN,H0,EM,M6⟩;{
 obtain⟨o,k,s,rfl,Z,hiz,oG,rW,W,V⟩:=hrel;have HK:=ag Z;by_cases hz:0<=o;{
 obtain⟨m,em⟩:∃m:Nat,o=(m:Int):=⟨o.toNat,af⟩;obtain rfl:k=m+1:=af;clear Z HK;subst em;have uI:=gm 0 m;have R:=ae W;rw[heapBuild]at R;have Ss:=ag R;have dY7:O ((siftDown ltInt H a m s).size=N):=by show _=_;rw[bO9 ltInt H a _ m s aA];exact ae oG
 have hm:m<=N:=af;go_wp2_with fail;refine(bP0 oG rW hHN hm fQ).h ?_;rintro e w2⟨rfl,rY,dt⟩;have HG:=ag (iy V dt);have VP:=ag rY;go_wp2;go_roundw;exact⟨(m:Int)-1,m,_,by first|rfl|go_num,af,af,dY7,VP,Ss,HG⟩
 case measure=>first|(simp[intOf];done)|(simp[intOf];omega)}
 {
 obtain rfl:k=0:=af;obtain rfl:s=M:=ae W;go_wp2_with fail;let⟨iY,eY⟩:=aG wr;subst eY;have HG0:=V
 go_loopw[10](λyN wr=>∃(o:Int)(k:Nat)(r:Array Int),yN=.I o/\o=(k:Int)-1/\k<=H/\O (r.size=N)/\O (HU wr blk off r)/\O (heapPop ltInt a k r=D)/\O (w.grownBy wr blk)) (λyN _=>(intOf yN+1).toNat)
 exact⟨(H:Int)-1,H,s,rfl,rfl,eG _,oG,rW,ED,HG0⟩;{
 obtain⟨o,k,r,rfl,Z,hiz,Kn,X,AY,V⟩:=hrel;by_cases hz:0<=o;{
 obtain⟨m,em⟩:∃m:Nat,o=(m:Int):=⟨o.toNat,af⟩;obtain rfl:k=m+1:=af;clear Z;subst em;have uI:=gm 0 m;obtain⟨f,ef⟩:∃x:Nat,(a:Int)+(m:Int)=(x:Int):=⟨a+m,af⟩;have wf:=il f;have ef0:a+m=f:=af;have Qt:=ae Kn;let⟨ca,fa⟩:=ae X a af;let⟨cf,ff⟩:=ae X f af;let⟨y,ey⟩:=aY r[a]!;let⟨z,ez⟩:=aY r[f]!;rw[ey]at ca;rw[ez]at cf;let⟨tt,ct⟩:=Hk (q:=(Ad blk (off+a))) (u:=.U z) cf;have i1:=bM a N;have i2:=bM f N;have R:=ae AY;rw[heapPop,ef0]at R;have Ss:=ag R;have Sf:=ag (X.swap (i:=a) (j:=f) af af ez.C ey.C);have kq:O ((swp r a f).size=N):=by show _=_;rw[size_swp];exact Qt
 have GY:O ((siftDown ltInt m a 0 (swp r a f)).size=N):=by show _=_;rw[bO9 ltInt m a _ 0 _ aA];exact ae kq
 have HG:=ag (iy (iy V (iB wr blk (off+a) (.U z))) (iB _ blk (off+f) (.U y)));have sC:a+m<=N:=af;go_wp2_with fail
 go_region
 go_wp2_with fail;refine(bP0 kq (by exact Sf) sC (cO _) fQ).h ?_;rintro e w2⟨rfl,rY,dt⟩;have HG2:=ag (iy (ga HG) dt);have VP:=ag rY;go_wp2;go_roundw;exact⟨(m:Int)-1,m,_,by first|rfl|go_num,rfl,af,GY,VP,Ss,HG2⟩
 case measure=>first|(simp[intOf];done)|(simp[intOf];omega)}
 {obtain rfl:k=0:=af;obtain rfl:r=D:=ae AY;go_wp2;go_end0;exact⟨rfl,X,V⟩}}}}
end Q
namespace Q
open Go.Sort
variable {i j a i2 j2:Nat}{d:Array Int}
def dv1(o:scanUp (λx=>!ltInt d[a]! x) d j i=i2)(m:scanDown (λx=>ltInt d[a]! x) d i2 j=j2)(h:j2<i2):partEqLoop ltInt a i j d=(i2,d):=by
 rw[partEqLoop];simp only[o,m];rw[aM h]
def dv2(q:scanUp (λx=>!ltInt d[a]! x) d j i=i2)(o:scanDown (λx=>ltInt d[a]! x) d i2 j=j2)(h:¬j2<i2)(s:i<=i2)(r:j2<=j)(m:0<i2):partEqLoop ltInt a i j d=partEqLoop ltInt a (i2+1) (j2-1) (swp d i2 j2):=by
 rw[partEqLoop];simp only[q,o];rw[aL h,Xr af]
variable {w:G}
theorem du7{blk off cap N a b piv:Nat}(hN:O (d.size=N))(h:HU w blk off d)(D6:a<=piv)(hpb:piv<b)(hb:b<=N)(fQ:N<=1048576):dQ dG 275 #[.S (Ad blk off) N cap,.I a,.I b,.I piv] w λe w'=>e=dR (.I (partitionEqual ltInt d a b piv).1)/\HU w' blk off (partitionEqual ltInt d a b piv).2/\w.grownBy w' blk:=by
 obtain⟨⟨Q1,Q2⟩,eR⟩:∃R,partitionEqual ltInt d a b piv=R:=⟨_,rfl⟩;rw[eR];have oG:=ae hN;obtain⟨B1,eB1⟩:∃x:Nat,(b:Int)-1=(x:Int):=⟨b-1,af⟩;have Vk:b-1=B1:=af;have wB:=il B1;let⟨ca,fa⟩:=h a af;let⟨cp,fp⟩:=h piv af;let⟨u,eu⟩:=aY d[a]!;let⟨v,ev⟩:=aY d[piv]!;have Sf:=ag (h.swap (i:=a) (j:=piv) af af ev.C eu.C);rw[eu]at ca;rw[ev]at cp;let⟨tt,ct⟩:=Hk (q:=(Ad blk (off+a))) (u:=.U v) cp;let⟨d1,Re⟩:=aY (swp d a piv);rw[Re]at Sf;have Dp:O (d1.size=N):=by show _=_;rw[<-Re,size_swp];exact oG
 have HG:=ag (iy (iB w blk (off+a) (.U v)) (iB _ blk (off+piv) (.U u)));have EQ:O (partEqLoop ltInt a (a+1) B1 d1=(Q1,Q2)):=by show _=_;rw[<-eR,partitionEqual,Re,Vk]
 have kk1:=bM a N;have kk2:=bM piv N;go_in;go_wp2_with fail
 go_region
 go_wp2_with fail
 go_loopw[9,10](λs9 yN wr=>∃(i j:Nat)(r:Array Int),s9=.I i/\yN=.I j/\a+1<=i/\i<=j+2/\j<=B1/\O (r.size=N)/\O (HU wr blk off r)/\O (partEqLoop ltInt a i j r=(Q1,Q2))/\O (w.grownBy wr blk)) (λs9 yN _=>(intOf yN+2-intOf s9).toNat)
 exact⟨a+1,B1,_,by first|rfl|go_num,by first|rfl|go_num,af,af,af,Dp,Sf,EQ,ga HG⟩;{
 obtain⟨i,j,r,rfl,rfl,z1,z2,z3,E,uW,Y9,IJ⟩:=hrel;let⟨y,ey⟩:=aY r[a]!;have Z:=ag ey;obtain⟨I4,eI4⟩:∃iI,scanUp (λx=>!ltInt r[a]! x) r j i=iI:=⟨_,rfl⟩;obtain⟨J5,eJ5⟩:∃iJ,scanDown (λx=>ltInt r[a]! x) r I4 j=iJ:=⟨_,rfl⟩;have EI4:=ag eI4;have EJ5:=ag eJ5;have W:=EI4;have X:=EJ5;go_wp2_with fail;let⟨iY,eY⟩:=aG wr;subst eY
 go_loopw[9](λs wr=>∃o:Nat,s=.I o/\i<=o/\o<=j+2/\O (HU wr blk off r)/\O (scanUp (λx=>!ltInt r[a]! x) r j o=I4)/\O (w.grownBy wr blk)) (λs _=>j+1-(intOf s).toNat)
 exact⟨i,by first|rfl|go_num,af,af,uW,EI4,IJ⟩;{
 obtain⟨o,rfl,qa4,qb4,Ac,MT,Zi⟩:=hrel;obtain⟨Bc,CQ⟩:∃B,(dD (o<=j)&&((λx=>!ltInt r[a]! x) r[o]!))=B:=⟨_,rfl⟩;have M:=ag CQ;go_wp2_with fail
 go_cut[43](λrv wc=>rv=.bool Bc/\wc=wr.drew)
 case first=>(
 have CP:=Vl (l:=λx y=>ltInt y x) (f:=not) M E Ac Z af af;exact Vm)
 obtain⟨rfl,rfl⟩:=hcut;cases Bc with
 |true=>
  let⟨hn,hle⟩:=aI8 M MT;go_wp2;go_roundw;exact⟨o+1,by go_num,af,af,Ac.drew,hn,ga Zi⟩;exact cW
 |false=>
  obtain rfl:=aI7 M MT;go_wp2_with fail
  go_loopw[10](λs wr=>∃D:Nat,s=.I D/\o<=D+2/\D<=j/\O (HU wr blk off r)/\O (scanDown (λx=>ltInt r[a]! x) r o D=J5)/\O (w.grownBy wr blk)) (λs _=>(intOf s).toNat)
  exact⟨j,by first|rfl|go_num,af,af,Ac,EJ5,(ga Zi)⟩;{
 obtain⟨D,rfl,qa5,qb5,V,Zk,QJ⟩:=hrel;obtain⟨Bc,CQ⟩:∃B,(dD (o<=D)&&((λx=>ltInt r[a]! x) r[D]!))=B:=⟨_,rfl⟩;have M:=ag CQ;go_wp2_with fail
 go_cut[59](λrv wc=>rv=.bool Bc/\wc=wr.drew)
 case first=>(
 have CP:=Vl (l:=λx y=>ltInt y x) (f:=λb=>b) M E V Z af af;exact Vm)
 obtain⟨rfl,rfl⟩:=hcut;cases Bc with
 |true=>
  let⟨hle,m,em,hn⟩:=bs3 M Zk af;go_wp2;go_roundw;exact⟨m,by first|rfl|go_num,af,af,V.drew,hn,ga QJ⟩;exact cW
 |false=>
  obtain rfl:=bs2 M Zk af;by_cases l9:D<o;{have bg5:=bM D o;have hq:=ae Y9;rw[dv1 (ae W) (ae X) l9]at hq;simp only[jy]at hq;obtain⟨KJ,KI⟩:=hq;subst KJ KI;go_wp2;go_ret;exact⟨rfl,V,ga QJ⟩};{
 have bg5:=fq D o;have hq:=ae Y9;rw[dv2 (ae W) (ae X) l9 af af af]at hq;have Sr:=ag hq;let⟨c1,f1⟩:=ae V o (aK (ae E));let⟨c2,f2⟩:=ae V D (aK (ae E));let⟨p1,sc⟩:=aY r[o]!;let⟨p2,sa⟩:=aY r[D]!;rw[sc]at c1;rw[sa]at c2;let⟨tt,ct⟩:=Hk (q:=(Ad blk (off+o))) (u:=.U p2) c2;have xx:=ag (V.swap (i:=o) (j:=D) (aK (ae E)) (aK (ae E)) sa.C sc.C);have yB:=ag (iy (iy QJ (iB _ blk (off+o) (.U p2))) (iB _ blk (off+D) (.U p1)));have l1:=bM o N;have l2:=bM D N;have l3:=gm 0 o;have l4:=gm 0 D;obtain⟨m5,em5⟩:∃m:Nat,(D:Int)-1=(m:Int):=⟨D-1,af⟩;have bp2:D-1=m5:=af;rw[bp2]at Sr;have Sw:O ((swp r o D).size=N):=by show _=_;rw[size_swp];exact ae E
 go_wp2_with fail
 go_region
 go_wp2;go_roundw;exact⟨o+1,m5,_,by first|rfl|go_num,by first|rfl|go_num,af,af,af,Sw,xx,Sr,ga (ga yB)⟩
 case measure=>simp[intOf];omega}}}}
end Q
namespace Q
open Go.Sort
variable {i b:Nat}{d:Array Int}
def dg7(h:i<b)(j:ltInt d[i]! d[i-1]! = dF):scanSorted ltInt d b i=scanSorted ltInt d b (i+1):=by
 rw[scanSorted,aM (by simp[h,j])]
def dg6(h:¬i<b\/ltInt d[i]! d[i-1]! = dY):scanSorted ltInt d b i=i:=by
 rw[scanSorted,aL];obtain h|h:=h;{simp;omega};{simp[h]}
theorem bP9:∀(j:Nat)(d:Array Int),(shiftDown ltInt j d).size=d.size
 |0,d=>rfl
 |j+1,d=>by rw[shiftDown];split;{rfl};{rw[bP9 j,size_swp]}
theorem de4(b:Nat):∀(k j:Nat)(d:Array Int),b-j<=k->(shiftUp ltInt b j d).size=d.size:=by
 intro k
 induction k with
 |zero=>intro j d h;rw[shiftUp,aL af]
 |succ k ih=>
  intro j d h;rw[shiftUp];split;{split;{rfl};{rw[ih _ _ af,size_swp]}};{rfl}
variable {j:Nat}
theorem dl5(h:0<j)(i:ltInt d[j]! d[j-1]! = dY):shiftDown ltInt j d=shiftDown ltInt (j-1) (swp d j (j-1)):=by
 cases j with
 |zero=>omega
 |succ j=>
  simp only[Ka]at i⊢;rw[shiftDown,aL (by simp[i])]
theorem bP8(h:j=0\/ltInt d[j]! d[j-1]! = dF):shiftDown ltInt j d=d:=by
 cases j with
 |zero=>rfl
 |succ j=>
  obtain h|h:=h;{omega};{simp only[Ka]at h;rw[shiftDown,aM (by simp[h])]}
def de5(h:j<b)(i:ltInt d[j]! d[j-1]! = dY):shiftUp ltInt b j d=shiftUp ltInt b (j+1) (swp d j (j-1)):=by
 rw[shiftUp,aM h,aL (by simp[i])]
def bM0(h:¬j<b\/ltInt d[j]! d[j-1]! = dF):shiftUp ltInt b j d=d:=by
 rw[shiftUp];obtain h|h:=h;{rw[aL h]};{split;{rw[aM (by simp[h])]};{rfl}}
variable {s a iI:Nat}
def dt9(j:scanSorted ltInt d b i=iI)(h:iI=b):partialIns ltInt a b (s+1) i d=(d,dY):=by
 rw[partialIns];simp only[j];rw[aM h]
def pi_short(j:scanSorted ltInt d b i=iI)(h:¬iI=b)(m:b-a<50):partialIns ltInt a b (s+1) i d=(d,dF):=by
 rw[partialIns];simp only[j];rw[aL h,aM m]
def pi_go(q:scanSorted ltInt d b i=iI)(h:¬iI=b)(r:¬b-a<50){m j o:Array Int}(y:swp d iI (iI-1)=m)(x:(if iI-a>=2 then shiftDown ltInt (iI-1) m else m)=j)(u:(if b-iI>=2 then shiftUp ltInt b (iI+1) j else j)=o):partialIns ltInt a b (s+1) i d=partialIns ltInt a b s iI o:=by
 rw[partialIns];simp only[q];rw[aL h,aL r,y,x,u]
variable {w:G}
theorem du6{blk off cap N a b:Nat}(hN:O (d.size=N))(h:HU w blk off d)(yb:a<b)(hb:b<=N)(fQ:N<=1048576):dQ dG 273 #[.S (Ad blk off) N cap,.I a,.I b] w λe w'=>e=dR (.bool (partialInsertionSort ltInt d a b).2)/\HU w' blk off (partialInsertionSort ltInt d a b).1/\w.grownBy w' blk:=by
 obtain⟨⟨R1,R2⟩,eR⟩:∃R,partialInsertionSort ltInt d a b=R:=⟨_,rfl⟩;rw[eR];have ER:O (partialIns ltInt a b 5 (a+1) d=(R1,R2)):=eR;have H0:=ag h;obtain⟨Lz,eL⟩:∃x:Nat,(b:Int)-(a:Int)=(x:Int):=⟨b-a,af⟩;have ZF:=ag (show b-a=Lz by omega);have wL:=il Lz;go_in;go_wp2_with fail
 go_loopw[7,8](λs7 s8 wr=>∃(i s:Nat)(Z:Int)(D:Array Int),s7=.I i/\s8=.I Z/\Z+s=5/\0<=Z/\a+1<=i/\i<=b/\O (D.size=N)/\O (HU wr blk off D)/\O (partialIns ltInt a b s i D=(R1,R2))/\O (w.grownBy wr blk)) (λ_ s8 _=>(5-intOf s8).toNat)
 exact⟨a+1,5,0,d,by first|rfl|go_num,rfl,rfl,af,af,af,hN,H0,ER,M6⟩;{
 obtain⟨i,s,Z,D,rfl,rfl,z1,z2,z3,z4,HD,hH,hQ,hG⟩:=hrel;cases s with
 |zero=>
  have hj:¬Z<5:=af;have hq:=ae hQ;simp only[partialIns,jy]at hq;obtain⟨KJ,KI⟩:=hq;subst KJ KI;go_wp2;go_ret;exact⟨rfl,hH,hG⟩
 |succ t=>
  have hj:Z<5:=af;let⟨iI,eI⟩:=aY (scanSorted ltInt D b i);have EI:=ag eI;have EI':=ag eI;have oG:=ae HD;go_wp2_with fail;let⟨iY,eY⟩:=aG wr;subst eY
  go_loopw[7](λs7 wr=>∃i1:Nat,s7=.I i1/\a+1<=i1/\i1<=b/\O (HU wr blk off D)/\O (scanSorted ltInt D b i1=iI)/\O (w.grownBy wr blk)) (λs7 _=>b-(intOf s7).toNat)
  exact⟨i,rfl,af,af,hH,EI,hG⟩;{
 obtain⟨i1,rfl,qa,qb,qC,IL,Eb⟩:=hrel;let⟨Bc,CQ⟩:=aY (dD (i1<b)&&!ltInt D[i1]! D[i1-1]!);have pW:=ag CQ;obtain⟨m,em⟩:∃m:Nat,(i1:Int)-1=(m:Int):=⟨i1-1,af⟩;have Nc:=ag (show i1-1=m by omega);have wm:=il m;go_wp2_with fail
 go_cut[32](λrv wc=>rv=.bool Bc/\wc=wr.drew)
 case first=>(
 by_cases jQ:i1<b;{
 have bg1:=bM i1 b;obtain⟨c1,-⟩:=ae qC i1 af;obtain⟨c2,-⟩:=ae qC m af;let⟨x,ex⟩:=aY D[i1]!;let⟨y,V⟩:=aY D[m]!;rw[ex]at c1;rw[V]at c2;have k1:=bM i1 N;have k2:=bM m N;have k3:=gm 0 i1;have k4:=gm 0 m;let⟨L,Vi⟩:=aY (ltInt x y);have EL:=ag Vi;have eB:Bc=(!L):=by rw[<-ae pW];simp only[JV jQ,vI,ae Nc,ex,V,Vi]
 subst eB;have X:=bG c1 c2;refine fk (λw'=>I w' (Ad blk (off+i1))=dU x/\I w' (Ad blk (off+m))=dU y) (by exact X) λhS=>?_;refine iR 0 1 2 3 4 5 6 7 hS ?_;refine iC 8 9 10 11 hS ?_;refine tn 12 hS ?_;refine ew 13 λKK hK=>?_;refine EY aS aS aS aS (λ_=>GH) (FB) ?_;rintro r' w2⟨rfl,rfl⟩;refine⟨_,rfl,?_⟩;rw[ae EL];refine bL hK (by exact X) λhS=>?_;refine fO 14 15 hS ?_;refine fy ?_;go_wp2_with fail;go_meet;exact⟨rfl,rfl⟩};{
 have bg1:=fq i1 b;obtain rfl:Bc=dF:=by rw[<-ae pW,AM jQ];rfl
 refine fk (λw'=>True) iq λhS=>?_;refine iC 0 1 2 3 hS ?_;refine kr 4 5 6 7 hS ?_;refine kr 8 9 10 11 hS ?_;refine sn 12 hS ?_;refine sn 13 hS ?_;refine sn 14 hS ?_;refine tn 15 hS ?_;refine fy ?_;go_wp2_with fail;go_meet;exact⟨rfl,rfl⟩})
 obtain⟨rfl,rfl⟩:=hcut;cases Bc with
 |true=>
  have hh:i1<b/\ltInt D[i1]! D[i1-1]! = dF:=by have:=ae pW;simp only[gL,uF,Bool.not_eq_true']at this;exact this
  have hn:O (scanSorted ltInt D b (i1+1)=iI):=by show _=_;rw[<-dg7 hh.1 hh.2];exact ae IL
  have hle:=hh.1;go_wp2;go_roundw;exact⟨i1+1,by go_num,af,af,qC.drew,hn,ga Eb⟩;exact cW
 |false=>
  have bj:i1=iI:=by rw[<-ae IL,dg6];have:=ae pW;simp only[Cf,JW,Bool.not_eq_false']at this;exact this
  subst bj;by_cases UM:i1=b;{have hq:=ae hQ;rw[dt9 (ae EI') UM,jy]at hq;obtain⟨KJ,KI⟩:=hq;subst KJ KI;subst UM;go_wp2;go_ret;exact⟨rfl,qC,ga Eb⟩};{
 have fs7:¬(i1:Int)=(b:Int):=af;by_cases h5:Lz<50;{have h5':(Lz:Int)<50:=af;have hq:=ae hQ;rw[pi_short (ae EI') UM (ae ZF▸h5),jy]at hq;obtain⟨KJ,KI⟩:=hq;subst KJ KI;go_wp2;go_ret;exact⟨rfl,qC,ga Eb⟩};{
 have h5':¬(Lz:Int)<50:=af;let⟨d2,e2⟩:=aY (swp D i1 (i1-1));obtain⟨M,e3⟩:∃x,(if i1-a>=2 then shiftDown ltInt (i1-1) d2 else d2)=x:=⟨_,rfl⟩;obtain⟨d4,e4⟩:∃x,(if b-i1>=2 then shiftUp ltInt b (i1+1) M else M)=x:=⟨_,rfl⟩;have hq:=ae hQ;rw[pi_go (ae EI') UM (ae ZF▸h5) e2 e3 e4]at hq;have HQ:=ag hq;rw[ae Nc]at e2 e3;have HD2:O (d2.size=N):=by show _=_;rw[<-e2,size_swp];exact oG
 have sr:O (M.size=N):=by show _=_;rw[<-e3];split;{rw[bP9];exact ae HD2};{exact HD2}
 have Jr:O (d4.size=N):=by show _=_;rw[<-e4];split;{rw[de4 b _ _ _ aA];exact ae sr};{exact sr}
 let⟨c1,f1⟩:=ae qC i1 af;let⟨c2,f2⟩:=ae qC m af;let⟨p1,sc⟩:=aY D[i1]!;let⟨p2,sa⟩:=aY D[m]!;rw[sc]at c1;rw[sa]at c2;have xx:=ag (qC.swap (i:=i1) (j:=m) af af sa.C sc.C);rw[e2]at xx;have yB:=ag (iy (iy Eb (iB _ blk (off+i1) (.U p2))) (iB _ blk (off+m) (.U p1)));have l1:=bM i1 N;have l2:=bM m N;have l3:=gm 0 m;have E3:=ag e3;have E4:=ag e4;obtain⟨A1,eA⟩:∃x:Nat,(i1:Int)-(a:Int)=(x:Int):=⟨i1-a,af⟩;have eA0:=ag (show i1-a=A1 by omega);have wA:=il A1;obtain⟨B1,eB1⟩:∃x:Nat,(b:Int)-(i1:Int)=(x:Int):=⟨b-i1,af⟩;have Vk:=ag (show b-i1=B1 by omega);have wB:=il B1;go_wp2_with fail
 go_region
 go_upto_if 61 with fail
 go_cut[9](λs9 wc=>O (HU wc blk off M)/\O (w.grownBy wc blk))
 case first=>(
 by_cases hC:A1>=2;{
 have hC':(A1:Int)>=2:=af;have IM:=gm 2 A1
 try simp only[IM,decide_true]
 have E3':O (shiftDown ltInt m d2=M):=by have:=ae E3;rw[ae eA0,aM hC]at this;exact this
 go_wp2_with fail;let⟨Y2,Rf⟩:=aG wr;subst Rf
 go_loopw[9](λs9 wr=>∃(j:Nat)(u:Array Int),s9=.I j/\j<=m/\O (u.size=N)/\O (HU wr blk off u)/\O (shiftDown ltInt j u=M)/\O (w.grownBy wr blk)) (λs9 _=>(intOf s9).toNat)
 exact⟨m,d2,by first|rfl|go_num,af,HD2,by exact xx,E3',by exact ga (ga yB)⟩;{
 obtain⟨j,u,rfl,q1,Kn,W,AY,hg⟩:=hrel;by_cases Yy:0<j;{
 have Yx:=gm 1 j;obtain⟨q,ejm⟩:∃x:Nat,(j:Int)-1=(x:Int):=⟨j-1,af⟩;have Rc:j-1=q:=af;have wjm:=il q;have Qt:=ae Kn;let⟨cj,fj⟩:=ae W j af;let⟨cm,fm⟩:=ae W q af;let⟨y,V⟩:=aY u[j]!;let⟨z,ez⟩:=aY u[q]!;have zh:=ag (W.swap (i:=j) (j:=q) af af ez.C V.C);rw[V]at cj;rw[ez]at cm;have i1':=bM j N;have i2':=bM q N;have i3':=gm 0 q;have i4':=gm 0 j;let⟨B,eB⟩:=aY (ltInt y z);have EB:=ag eB;have GX:O (B=dF->u=M):=λhB=>by rw[<-ae AY,bP8 (.R (by rw[Rc,V,ez,eB,hB]))]
 have Hb:O (B->shiftDown ltInt q (swp u j q)=M):=λhB=>by rw[<-ae AY,dl5 Yy (by rw[Rc,V,ez,eB,hB]),Rc]
 have kq:O ((swp u j q).size=N):=by show _=_;rw[size_swp];exact Qt
 have HGs:=ag (iy (iy hg (iB _ blk (off+j) (.U z))) (iB _ blk (off+q) (.U y)));have X:=bG cj cm;have FF:=bG fj fm;go_wp2_with fail
 go_cut[78](λrv wc=>rv=.bool (!B)/\wc=wr.drew)
 case first=>(
 refine fk (λw'=>I w' (Ad blk (off+j))=dU y/\I w' (Ad blk (off+q))=dU z) (by exact X) λhS=>?_;refine iR 0 1 2 3 4 5 6 7 hS ?_;refine tn 8 hS ?_;refine ry [9] ?_;refine cn (λKK hK=>?_) ?_;{refine EY aS aS aS aS (λ_=>GH) (FB) ?_;rintro r w2⟨rfl,rfl⟩;refine⟨_,rfl,?_⟩;rw[ae EB];refine bL hK (by exact X) λhS=>?_;refine tn 10 hS ?_;refine fy ?_;go_wp2_with fail;go_meet;exact⟨rfl,rfl⟩};exact fg)
 obtain⟨rfl,rfl⟩:=hcut;cases B with
 |false=>
  obtain rfl:=ae GX rfl;go_wp2_with fail;go_meet;exact⟨W,ga hg⟩
 |true=>
  have e:=ag (ae Hb rfl);let⟨cj,cm⟩:=ae X;let⟨fj,fm⟩:=ae FF;go_wp2_with fail
  go_region
  go_wp2;go_roundw
  case rel=>(
 exact⟨q,swp u j q,by first|rfl|go_num,af,kq,(ae zh),e,ga (ga HGs)⟩)
  case measure=>simp[intOf];omega}
 {
 have Yx:¬(1:Int)<=(j:Int):=af;obtain rfl:u=M:=by rw[<-ae AY,bP8 (.L af)]
 go_wp2_with fail;go_meet;exact⟨W,hg⟩}}};{
 have hC':¬(A1:Int)>=2:=af;have IM:¬(2:Int)<=(A1:Int):=af
 try simp only[IM,an5]
 have e:d2=M:=by have:=ae E3;rw[ae eA0,aL hC]at this;exact this
 subst e;go_wp2_with fail;go_meet;exact⟨by exact xx,by exact ga (ga yB)⟩})
 obtain⟨uW,IJ⟩:=hcut;let⟨Y3,eY3⟩:=aG wc;subst eY3
 go_upto_if 98 with fail
 by_cases hC:B1>=2;{
 have hC':(B1:Int)>=2:=af;have IM:=gm 2 B1
 try simp only[IM,decide_true]
 have E3':O (shiftUp ltInt b (i1+1) M=d4):=by have:=ae E4;rw[ae Vk,aM hC]at this;exact this
 go_wp2_with fail;let⟨Y2,Rf⟩:=aG wr;subst Rf
 go_loopw[10](λyN wr=>∃(j:Nat)(u:Array Int),yN=.I j/\i1+1<=j/\j<=b/\O (u.size=N)/\O (HU wr blk off u)/\O (shiftUp ltInt b j u=d4)/\O (w.grownBy wr blk)) (λyN _=>b-(intOf yN).toNat)
 exact⟨i1+1,M,by first|rfl|go_num,af,af,sr,by exact uW,E3',by exact IJ⟩;{
 obtain⟨j,u,rfl,q1,q2,Kn,W,AY,hg⟩:=hrel;by_cases Yy:j<b;{
 have Yx:=bM j b;obtain⟨q,ejm⟩:∃x:Nat,(j:Int)-1=(x:Int):=⟨j-1,af⟩;have Rc:j-1=q:=af;have wjm:=il q;have Qt:=ae Kn;let⟨cj,fj⟩:=ae W j af;let⟨cm,fm⟩:=ae W q af;let⟨y,V⟩:=aY u[j]!;let⟨z,ez⟩:=aY u[q]!;have zh:=ag (W.swap (i:=j) (j:=q) af af ez.C V.C);rw[V]at cj;rw[ez]at cm;have i1':=bM j N;have i2':=bM q N;have i3':=gm 0 q;have i4':=gm 0 j;let⟨B,eB⟩:=aY (ltInt y z);have EB:=ag eB;have GX:O (B=dF->u=d4):=λhB=>by rw[<-ae AY,bM0 (.R (by rw[Rc,V,ez,eB,hB]))]
 have Hb:O (B->shiftUp ltInt b (j+1) (swp u j q)=d4):=λhB=>by rw[<-ae AY,de5 Yy (by rw[Rc,V,ez,eB,hB]),Rc]
 have kq:O ((swp u j q).size=N):=by show _=_;rw[size_swp];exact Qt
 have HGs:=ag (iy (iy hg (iB _ blk (off+j) (.U z))) (iB _ blk (off+q) (.U y)));have X:=bG cj cm;have FF:=bG fj fm;go_wp2_with fail
 go_cut[116](λrv wc=>rv=.bool (!B)/\wc=wr.drew)
 case first=>(
 refine fk (λw'=>I w' (Ad blk (off+j))=dU y/\I w' (Ad blk (off+q))=dU z) (by exact X) λhS=>?_;refine iR 0 1 2 3 4 5 6 7 hS ?_;refine tn 8 hS ?_;refine ry [9] ?_;refine cn (λKK hK=>?_) ?_;{refine EY aS aS aS aS (λ_=>GH) (FB) ?_;rintro r w2⟨rfl,rfl⟩;refine⟨_,rfl,?_⟩;rw[ae EB];refine bL hK (by exact X) λhS=>?_;refine tn 10 hS ?_;refine fy ?_;go_wp2_with fail;go_meet;exact⟨rfl,rfl⟩};exact fg)
 obtain⟨rfl,rfl⟩:=hcut;cases B with
 |false=>
  obtain rfl:=ae GX rfl;go_wp2;go_roundw
  case rel=>(
 exact⟨i1,t,Z+1,_,rfl,by first|rfl|go_num,af,af,af,af,Jr,W,HQ,ga hg⟩)
  case measure=>simp[intOf];omega
 |true=>
  have e:=ag (ae Hb rfl);let⟨cj,cm⟩:=ae X;let⟨fj,fm⟩:=ae FF;go_wp2_with fail
  go_region
  go_wp2;go_roundw
  case rel=>(
 exact⟨j+1,swp u j q,by first|rfl|go_num,af,af,kq,(ae zh),e,ga (ga HGs)⟩)
  case measure=>simp[intOf];omega}
 {
 have Yx:=fq j b;obtain rfl:u=d4:=by rw[<-ae AY,bM0 (.L Yy)]
 go_wp2;go_roundw
 case rel=>(
 exact⟨i1,t,Z+1,_,rfl,by first|rfl|go_num,af,af,af,af,Jr,W,HQ,hg⟩)
 case measure=>simp[intOf];omega}}}
 {
 have hC':¬(B1:Int)>=2:=af;have IM:¬(2:Int)<=(B1:Int):=af
 try simp only[IM,an5]
 have e:M=d4:=by have:=ae E4;rw[ae Vk,aL hC]at this;exact this
 subst e;go_wp2;go_roundw
 case rel=>(
 exact⟨i1,t,Z+1,_,rfl,by first|rfl|go_num,af,af,af,af,Jr,by exact uW,HQ,by exact IJ⟩)
 case measure=>simp[intOf];omega}}}}}
end Q
namespace Q
open Go.Sort
structure Dq(w:G)(g:Nat)(S:Int):Prop where
 cell:I w (Ad g 0)=dI S
 T:w.frozen? (Ad g 0)=dF
variable {w:G}{g:Nat}{S:Int}
def Dq.drew(h:Dq w g S):Dq w.drew g S:=⟨h.cell,h.T⟩
def Dq.set{S T:Int}(h:Dq w g S):Dq (w.setCell (Ad g 0) (.I T)) g T:=
 ⟨Pw _ _ _ h.cell,by rw[DJ];exact h.T⟩
variable {v:dV}{d:Array Int}
def HU.aside{blk off g o:Nat}(h:HU w blk off d)(i:g≠blk):HU (w.setCell (Ad g o) v) blk off d:=
 h.kept (fT _ _ _ _ (λe=>i (by simpa using e.C)))
theorem aQ7{blk off cap N g x y:Nat}(V:O (d.size=N))(h:HU w blk off d)(hx:x<N)(hy:y<N)(fQ:N<=1048576)(hg:g≠blk)(hc:Dq w g S)(hS:0<=S)(Aa:S<=1000):dQ dG 307 #[.S (Ad blk off) N cap,.I x,.I y,Pz g] w λe w'=>
   ∃(m j:Nat)(S':Int),e=dR (dT #[.I m,.I j])/\((m=x/\j=y)\/(m=y/\j=x))/\S<=S'/\S'<=S+1/\Dq w' g S'/\HU w' blk off d/\w.grownBy w' g:=by
 have oG:=ae V;obtain⟨r,-⟩:=h x af;obtain⟨q,-⟩:=h y af;let⟨u,W⟩:=aY d[x]!;let⟨v,ev⟩:=aY d[y]!;rw[W]at r;rw[ev]at q;have k1:=bM x N;have k2:=bM y N;let⟨B,X⟩:=aY (ltInt v u);have Z:=ag X;have s:=bG r q;have D:=ag h;have M:=ag hc;have kL:=hc.cell;have jG:=hc.T;go_in;go_wp2_with fail
 go_cut[18](λrv wc=>rv=.bool B/\wc=w.drew)
 case first=>(
 refine fk (λw'=>I w' (Ad blk (off+x))=dU u/\I w' (Ad blk (off+y))=dU v) (by exact s) λhS=>?_;refine iR 0 1 2 3 4 5 6 7 hS ?_;refine ry [8] ?_;refine cn (λKK hK=>?_) ?_;{refine EY aS aS aS aS (λ_=>GH) (FB) ?_;rintro r' w2⟨rfl,rfl⟩;refine⟨_,rfl,?_⟩;rw[ae Z];refine bL hK (by exact s) λhS=>?_;refine fy ?_;go_wp2_with fail;go_meet;exact⟨rfl,rfl⟩};exact fg)
 obtain⟨rfl,rfl⟩:=hcut;cases B with
 |true=>
  go_wp2;go_ret2;exact⟨y,x,S+1,rfl,.R ⟨rfl,rfl⟩,af,af,M.drew.set,(D.drew).aside hg,iy (ga (M6)) (iB _ g 0 _)⟩
 |false=>
  go_wp2;go_ret2;exact⟨x,y,S,rfl,.L ⟨rfl,rfl⟩,af,af,M.drew,D.drew,ga (M6)⟩
def aS8{blk off cap N g x y z:Nat}(u:O (d.size=N))(h:HU w blk off d)(hx:x<N)(hy:y<N)(hz:z<N)(B:N<=1048576)(s:g≠blk)(hc:Dq w g S)(hS:0<=S)(Aa:S<=900):dQ dG 295 #[.S (Ad blk off) N cap,.I x,.I y,.I z,Pz g] w λe w'=>
   ∃(m:Nat)(S':Int),e=dR (.I m)/\(m=x\/m=y\/m=z)/\S<=S'/\S'<=S+3/\Dq w' g S'/\HU w' blk off d/\w.grownBy w' g:=by
 have H0:=ag h;have C0:=ag hc;go_in;go_wp2_with fail;refine(aQ7 u H0 hx hy B s C0 hS af).h ?_;rintro e w1⟨W,V,S1,rfl,r,s1,s2,fM,qC,dw⟩;have C1:=ag fM;have H1:=ag qC;have G1:=ag dw;have XY:=ag r;have o:W<N:=af;have j:V<N:=af;go_wp2_with fail;refine(aQ7 u H1 j hz B s C1 af af).h ?_;rintro e w2⟨R,z2,S2,rfl,q,s3,s4,gC,Z,dt⟩;have C2:=ag gC;have H2:=ag Z;have G2:=ag dt;have YZ:=ag q;have i:R<N:=af;go_wp2_with fail;refine(aQ7 u H2 o i B s C2 af af).h ?_;rintro e w3⟨x3,M,S3,rfl,D,s5,s6,nK,X,oF⟩;have C3:=ag nK;have H3:=ag X;have G3:=ag oF;have E:=ag D;go_wp2;go_ret;exact⟨M,S3,rfl,by have:=ae XY;have:=ae YZ;have:=ae E;omega,af,af,C3,H3,iy G1 (iy G2 G3)⟩
def aS9{blk off cap N g x:Nat}(R:O (d.size=N))(h:HU w blk off d)(hx:1<=x)(yY:x+1<N)(V:N<=1048576)(E:g≠blk)(hc:Dq w g S)(M:0<=S)(Aa:S<=900):dQ dG 294 #[.S (Ad blk off) N cap,.I x,Pz g] w λe w'=>
   ∃(m:Nat)(S':Int),e=dR (.I m)/\x<=m+1/\m<=x+1/\S<=S'/\S'<=S+3/\Dq w' g S'/\HU w' blk off d/\w.grownBy w' g:=by
 have H0:=ag h;have C0:=ag hc;obtain⟨m,em⟩:∃m:Nat,(x:Int)-1=(m:Int):=⟨x-1,af⟩;obtain⟨n,en⟩:∃n:Nat,(x:Int)+1=(n:Int):=⟨x+1,af⟩;have wm:=il m;have wn:=il n;have B:m<N:=af;have y:n<N:=af;have j:x<N:=af;go_in;go_wp2_with fail;refine(aS8 R H0 B j y V E C0 M Aa).h ?_;rintro e w1⟨r,Z,rfl,D,s,o,W,u,X⟩;have C1:=ag W;have H1:=ag u;have G1:=ag X;have i:=ag D;go_wp2;go_ret;exact⟨r,Z,rfl,aK (ae i),aK (ae i),s,o,C1,H1,G1⟩
end Q
namespace Q
open Go.Sort
variable {w:G}{row:Option Nat}{o:Obj}
def bm8:w.grownBy (w.alloc o) row:=Xh w o row
variable {g:Nat}
def bm7(h:w.grownBy w1 row)(k:w1.grownBy w2 g)(o:U w.heap<=g):w.grownBy w2 row:=
 ⟨k.os.Z h.os,k.tape.Z h.tape,k.output.Z h.output,gv h.size k.size,λi j m=>(k.block i (ku j h.size) (λe=>by
  have:i=g:=by simpa using e
  omega)).Z (h.block i j m)⟩
variable {d:Array Int}
def HU.alloc{blk off:Nat}(h:HU w blk off d)(i:blk<U w.heap)(o:Obj):HU (w.alloc o) blk off d:=
 h.kept (RowKit.Below.heap_alloc w o blk i)
def dt8{blk off cap N a b:Nat}(j:O (d.size=N))(h:HU w blk off d)(mu:blk<U w.heap)(X:a+8<=b)(hb:b<=N)(o:N<=1048576):dQ dG 271 #[.S (Ad blk off) N cap,.I a,.I b] w λe w'=>
   ∃(p:Nat)(t:Int),e=dR (dT #[.I p,.I t])/\a<=p/\p<b/\HU w' blk off d/\w.grownBy w' blk:=by
 obtain⟨L,eL⟩:∃x:Nat,(b:Int)-(a:Int)=(x:Int):=⟨b-a,af⟩;have wL:=il L;let⟨Q,R⟩:=aY (L / 4);have eQ1:Int.tdiv (L:Int) 4=(Q:Int):=R▸(aV2 L 4).C;have eQ2:(L:Int) / 4=(Q:Int):=af;have wQ:=il Q;have wQ2:IntKind.i64.wrap ((Q:Int)*2)=(Q:Int)*2:=kP _ af;have Z:IntKind.i64.wrap ((Q:Int)*3)=(Q:Int)*3:=kP _ af;obtain⟨y,eI⟩:∃x:Nat,(a:Int)+(Q:Int)=(x:Int):=⟨a+Q,af⟩;obtain⟨u,eJ⟩:∃x:Nat,(a:Int)+(Q:Int)*2=(x:Int):=⟨a+Q*2,af⟩;obtain⟨K,eK⟩:∃x:Nat,(a:Int)+(Q:Int)*3=(x:Int):=⟨a+Q*3,af⟩;have wI:=il y;have wJ:=il u;have wK:=il K;have bI:a+2<=y/\y+6<=b:=af;have bJ:a+2<=u/\u+2<b:=af;have bK:a+2<=K/\K+1<b:=af;have h8:=gm 8 L;have i:U w.heap≠blk:=af;have V:=ag (h.alloc mu (dO #[.I 0] 3));have W:O (Dq (w.alloc (dO #[.I 0] 3)) (U w.heap) 0):=⟨aj,aj⟩;have HL:=bG R X;go_in;by_cases Kz:(50:Int)<=(L:Int);{
 go_wp2_with fail;refine(aS9 j V af af o i W af af).h ?_;rintro e w1⟨i1,S1,rfl,p1,p2,s1,s2,fM,qC,dw⟩;have C1:=ag fM;have H1:=ag qC;have G1:=ag dw;go_wp2_with fail;refine(aS9 j H1 af af o i C1 af af).h ?_;rintro e w2⟨j1,S2,rfl,p3,p4,s3,s4,gC,rY,dt⟩;have C2:=ag gC;have H2:=ag rY;have G2:=ag dt;go_wp2_with fail;refine(aS9 j H2 af af o i C2 af af).h ?_;rintro e w3⟨k1,S3,rfl,p5,p6,s5,s6,nK,uW,oF⟩;have C3:=ag nK;have H3:=ag uW;have G3:=ag oF;go_wp2_with fail;refine(aS8 j H3 af af af o i C3 af af).h ?_;rintro e w4⟨m,S4,rfl,hm,s7,s8,r,M,s⟩;have B:=ag M;have D:=ag (bm7 (bm8 (w:=w) (row:=Y blk)) (iy G1 (iy G2 (iy G3 s))) aA);have E:a<=m/\m<b:=af;have q:=ag E;have kL:=r.cell;go_wp2
 all_goals
  go_ret2;exact⟨m,_,rfl,q.1,q.2,B,D⟩};{
 go_wp2_with fail;refine(aS8 j V af af af o i W af af).h ?_;rintro e w4⟨m,S4,rfl,hm,s7,s8,r,M,s⟩;have B:=ag M;have D:=ag (bm7 (bm8 (w:=w) (row:=Y blk)) s aA);have E:a<=m/\m<b:=af;have q:=ag E;have kL:=r.cell;go_wp2
 all_goals
  go_ret2;exact⟨m,_,rfl,q.1,q.2,B,D⟩}
end Q
namespace Q
open Go.Sort
theorem dt4:∀x:Nat,0<x->x<2 ^ 64->2 ^ (Lib.bitLen x)<=2*x:=by
 intro x
 induction x using Nat.strongRecOn with
 |_ x ih=>
  intro j h;rw[Lib.bitLen_half x af h,aW8,Xu];by_cases i:x=1;{subst i;decide};{have:=ih (x / 2) af af af;omega}
def db9(h:i<Lib.len8tab.size):(Lib.len8tab[i]).toNat=Lib.bitLen i/\Lib.bitLen i<=8:=by
 have o:=h;rw[Lib.len8tab_size]at o;have m:=Lib.len8_of (i:Int) af af;have j:=Lib.bitLen_le8' (i:Int) af af;simp only[Lib.len8,uC,ByteArray.getElem?_lt' _ _ h,rJ]at m j;omega
variable {i:Int}{m:Nat}
def aK3(e:i.toNat=m)(h:i.toNat<Lib.len8tab.size):((Lib.len8tab[i.toNat]).toNat:Int)=(Lib.bitLen m:Int)/\Lib.bitLen m<=8:=by
 subst e;have:=db9 h;omega
variable {w:G}{n:Nat}
def dG4(o:Mg n):dQ dG 278 #[.U n] w λe w'=>e=dR (.I (Lib.bitLen n))/\w'=w:=by
 obtain⟨x,ex⟩:∃x:Int,(n:Int)=x:=⟨_,rfl⟩;have y:0<=x:=af;have u:x<=1048576:=af;rw[ex];have q:=bG ex o;clear ex o;go_in;go_wp2
 all_goals(try(exfalso;simp only[Lib.len8tab_size]at*;omega))
 all_goals(go_ret;refine⟨vJ Ending.returned (vJ (Value.int IntKind.i64) ?_),rfl⟩)
 {let⟨ex,o⟩:=ae q;let⟨j,r⟩:=aK3 (i:=x / 65536) (m:=n / 65536) af af;have s:=Lib.bitLen_shift16 n af af;rw[j,Pk (Lib.bitLen _:Int) af,Pk _ af];omega};{let⟨ex,o⟩:=ae q;let⟨j,r⟩:=aK3 (i:=x / 256) (m:=n / 256) af af;have s:=Lib.bitLen_shift8 n af af;rw[j,Pk (Lib.bitLen _:Int) af,Pk _ af];omega};{let⟨ex,o⟩:=ae q;let⟨j,r⟩:=aK3 (i:=x) (m:=n) af af;rw[j,Pk (Lib.bitLen _:Int) af,Pk _ af]}
def aX8(i:Mg n)(w:G):dQ dG 261 #[.U n] w λe w'=>e=dR (.I (Lib.bitLen n))/\w'=w:=by
 go_in;go_wp2_with fail;refine(dG4 i).h ?_;rintro e w'⟨rfl,rfl⟩;go_wp2;go_ret;exact⟨rfl,rfl⟩
def dz4(r:0<n)(u:Mg n):dQ dG 292 #[.I n] w λe w'=>∃M:Nat,e=dR (.U M)/\0<M/\M<=2*n/\w'=w:=by
 have hK:Lib.bitLen n<=21:=Lib.bitLen_le n 21 af af;have i:=dt4 n r af;have o:=aX8 u;generalize Lib.bitLen n=K at hK i o;let⟨M,j⟩:=aY (2 ^ K);have q:0<M:=j▸Nat.two_pow_pos K;rw[j]at i;have m:((2:Int) ^ K)=(M:Int):=by rw[<-j];push_cast;rfl
 have s:IntKind.u64.wrap ((2:Int) ^ K)=(M:Int):=by rw[m,uG];omega
 have y:=ag i;have x:=ag q;clear i q j m;go_in;go_wp2_with fail;refine(o _).h ?_;rintro e w'⟨rfl,rfl⟩;go_wp2;go_ret;exact⟨M,by first|rfl|simp only[s],x,y,rfl⟩
def dB0{g X:Nat}(o:X<2^64)(hc:I w (Ad g 0)=dU X)(hf:w.frozen? (Ad g 0)=dF):dQ dG 293 #[Pz g] w λe w'=>∃C:Nat,e=dR (.U C)/\C<2^64/\I w' (Ad g 0)=dU C/\w'.frozen? (Ad g 0)=dF/\w.grownBy w' g:=by
 obtain⟨A,m,N⟩:∃A:Nat,A<2^64/\bits .xor .u64 (X:Int) (IntKind.u64.wrap ((X:Int)*8192))=(A:Int):=by refine⟨X ^^^ (X*8192 % 18446744073709551616),Xq (n:=64) af af,?_⟩;rw[uG,show((X:Int)*8192 % 18446744073709551616)=((X*8192 % 18446744073709551616:Nat):Int) by omega,aT6 _ _ o af]
 obtain⟨B,j,M⟩:∃B:Nat,B<2^64/\bits .xor .u64 (A:Int) ((A:Int) / 128)=(B:Int):=by refine⟨A ^^^ (A / 128),Xq (n:=64) af af,?_⟩;rw[show((A:Int) / 128)=((A / 128:Nat):Int) by omega,aT6 _ _ m af]
 obtain⟨C,i,E⟩:∃C:Nat,C<2^64/\bits .xor .u64 (B:Int) (IntKind.u64.wrap ((B:Int)*131072))=(C:Int):=by refine⟨B ^^^ (B*131072 % 18446744073709551616),Xq (n:=64) af af,?_⟩;rw[uG,show((B:Int)*131072 % 18446744073709551616)=((B*131072 % 18446744073709551616:Nat):Int) by omega,aT6 _ _ j af]
 have s:=Pw w (Ad g 0) (.U A) hc;have r:=Pw _ (Ad g 0) (.U B) s;have q:=Pw _ (Ad g 0) (.U C) r;have x:=ag (iy (iy (iB w g 0 (.U A)) (iB _ g 0 (.U B))) (iB _ g 0 (.U C)));have y:O ((((w.setCell (Ad g 0) (.U A)).setCell (Ad g 0) (.U B)).setCell (Ad g 0) (.U C)).frozen? (Ad g 0)=dF):=by show _=_;simp only[DJ];exact hf
 have u:=ag i;have D:=ag q;clear o m j i;go_in;go_wp2_with fail
 go_region
 go_wp2_with fail
 go_region
 go_wp2_with fail
 go_region
 go_wp2;go_ret;exact⟨C,rfl,u,by exact D,by exact y,by exact ga (ga (ga x))⟩
end Q
namespace Q
open Go.Sort
variable {w:G}{d:Array Int}
def eJ4{blk off cap N a b:Nat}(hN:O (d.size=N))(h:HU w blk off d)(mu:blk<U w.heap)(yb:a+8<=b)(hb:b<=N)(fQ:N<=1048576):dQ dG 270 #[.S (Ad blk off) N cap,.I a,.I b] w λe w'=>
   e=dR (dT #[])/\∃d',HU w' blk off d'/\PermIn a b d d'/\w.grownBy w' blk:=by
 obtain⟨L,eL⟩:∃x:Nat,(b:Int)-(a:Int)=(x:Int):=⟨b-a,af⟩;have wL:=il L;let⟨Q,eQ⟩:=aY (L / 4);have eQ1:Int.tdiv (L:Int) 4=(Q:Int):=eQ▸(aV2 L 4).C;have eQ2:(L:Int) / 4=(Q:Int):=af;have wQ:=il Q;have wQ2:IntKind.i64.wrap ((Q:Int)*2)=(Q:Int)*2:=kP _ af;obtain⟨s,eJ⟩:∃x:Nat,(a:Int)+(Q:Int)*2=(x:Int):=⟨a+Q*2,af⟩;have wJ:=il s;have bJ:a+2<=s/\s+2<b:=af;have wJ1:IntKind.i64.wrap ((s:Int)+1)=(s:Int)+1:=kP _ af;obtain⟨J0,eJ0⟩:∃x:Nat,(s:Int)-1=(x:Int):=⟨s-1,af⟩;have wJ0:=il J0;have h8:=gm 8 L;have wU:IntKind.u64.wrap (L:Int)=(L:Int):=by rw[uG];omega
 have hg:U w.heap≠blk:=af;have hLb:a+L=b:=af;have H0:=ag (h.alloc mu (dO #[.U L] 365));have HL:=bG eQ yb;go_in;go_wp2_with fail;refine(dz4 af af).h ?_;rintro e w1⟨M,rfl,hM0,hM,rfl⟩;have wM:IntKind.u64.wrap ((M:Int)-1)=(M:Int)-1:=by rw[uG];omega
 go_wp2_with fail
 go_loopw[9](λs9 wr=>∃(m R:Nat)(o:Array Int),s9=.I m/\J0<=m/\m<=s+2/\R<2^64/\O (I wr (Aw w 0)=dU R/\wr.frozen? (Aw w 0)=dF)/\O (HU wr blk off o)/\O (PermIn a b d o)/\O (o.size=N)/\O (w.grownBy wr blk)) (λs9 _=>s+2-(intOf s9).toNat)
 exact⟨J0,L,d,rfl,af,af,af,⟨aj,aj⟩,by exact ae H0,permIn_refl d a b,hN,by exact bm8⟩;{
 obtain⟨m,R,o,rfl,z1,z2,lR,hC,hH,hP,Qq,hG⟩:=hrel;by_cases Yy:m<=s+1;{
 have Yx:(m:Int)<=(s:Int)+1:=af;go_wp2_with fail;refine(dB0 lR hC.1 hC.2).h ?_;rintro e W⟨C,rfl,lC,gC,AW,dt⟩;have C2:=bG gC AW;have X:=ag (hH.kept (dt.block blk (ku mu hG.size) (λe=>hg (by simpa using e.C))));have G2:=ag (bm7 hG dt aA);obtain⟨r,lO,fB4⟩:∃r:Nat,r<=M-1/\bits .and .u64 (C:Int) ((M:Int)-1)=(r:Int):=by refine⟨C&&& (M-1),Nat.and_le_right,?_⟩;rw[show((M:Int)-1)=((M-1:Nat):Int) by omega,bits_and_u64_nat _ _ lC af]
 have wO:=il r;by_cases hLO:L<=r;{
 have ef3:=mF L r;obtain⟨P,eP⟩:∃x:Nat,(r:Int)-(L:Int)=(x:Int):=⟨r-L,af⟩;have wP:=il P;have bP:P<L:=af;obtain⟨T,eT⟩:∃x:Nat,(a:Int)+(P:Int)=(x:Int):=⟨a+P,af⟩;have wT:=il T;have bT:a<=T/\T<b:=af;have oG:=ae Qq;let⟨c1,f1⟩:=ae X m af;let⟨c2,f2⟩:=ae X T af;let⟨B,Z⟩:=aY o[m]!;let⟨y,sa⟩:=aY o[T]!;rw[Z]at c1;rw[sa]at c2;let⟨tt,ct⟩:=Hk (q:=(Ad blk (off+m))) (u:=.U y) c2;have xx:=ag (X.swap (i:=m) (j:=T) af af sa.C Z.C);have yB:=ag (iy (iy G2 (iB _ blk (off+m) (.U y))) (iB _ blk (off+T) (.U B)));have D:O (PermIn a b d (swp o m T)):=permIn_trans _ _ _ a b hP (swp_permIn o a b m T af af af af af);have E:O ((swp o m T).size=N):=by show _=_;rw[size_swp];exact oG
 have V:O (I (((W.setCell (Ad blk (off+m)) (.U y)).setCell (Ad blk (off+T)) (.U B)).drew) (Aw w 0)=dU C/\(((W.setCell (Ad blk (off+m)) (.U y)).setCell (Ad blk (off+T)) (.U B)).drew).frozen? (Aw w 0)=dF):=
  ⟨(Pm _ _ _ _ (by simp<;>omega)).Z ((Pm _ _ _ _ (by simp<;>omega)).Z C2.1),by show World.frozen? ((W.setCell (Ad blk (off+m)) (.U y)).setCell (Ad blk (off+T)) (.U B)) _=dF;rw[DJ,DJ];exact C2.2⟩
 have l1:=bM m N;have l2:=bM T N;have l3:=gm 0 T;go_wp2_with fail
 go_region
 go_wp2;go_roundw;exact⟨m+1,C,swp o m T,by first|rfl|go_num,af,af,lC,V,by exact xx,D,E,by exact ga yB⟩;exact cW};{
 have ef3:¬(L:Int)<=(r:Int):=af;obtain⟨P,eP⟩:∃x:Nat,r=x:=⟨r,rfl⟩;subst eP;have bP:r<L:=af;obtain⟨T,eT⟩:∃x:Nat,(a:Int)+(r:Int)=(x:Int):=⟨a+r,af⟩;have wT:=il T;have bT:a<=T/\T<b:=af;have oG:=ae Qq;let⟨c1,f1⟩:=ae X m af;let⟨c2,f2⟩:=ae X T af;let⟨B,Z⟩:=aY o[m]!;let⟨y,sa⟩:=aY o[T]!;rw[Z]at c1;rw[sa]at c2;let⟨tt,ct⟩:=Hk (q:=(Ad blk (off+m))) (u:=.U y) c2;have xx:=ag (X.swap (i:=m) (j:=T) af af sa.C Z.C);have yB:=ag (iy (iy G2 (iB _ blk (off+m) (.U y))) (iB _ blk (off+T) (.U B)));have D:O (PermIn a b d (swp o m T)):=permIn_trans _ _ _ a b hP (swp_permIn o a b m T af af af af af);have E:O ((swp o m T).size=N):=by show _=_;rw[size_swp];exact oG
 have V:O (I (((W.setCell (Ad blk (off+m)) (.U y)).setCell (Ad blk (off+T)) (.U B)).drew) (Aw w 0)=dU C/\(((W.setCell (Ad blk (off+m)) (.U y)).setCell (Ad blk (off+T)) (.U B)).drew).frozen? (Aw w 0)=dF):=
  ⟨(Pm _ _ _ _ (by simp<;>omega)).Z ((Pm _ _ _ _ (by simp<;>omega)).Z C2.1),by show World.frozen? ((W.setCell (Ad blk (off+m)) (.U y)).setCell (Ad blk (off+T)) (.U B)) _=dF;rw[DJ,DJ];exact C2.2⟩
 have l1:=bM m N;have l2:=bM T N;have l3:=gm 0 T;go_wp2_with fail
 go_region
 go_wp2;go_roundw;exact⟨m+1,C,swp o m T,by first|rfl|go_num,af,af,lC,V,by exact xx,D,E,by exact ga yB⟩;exact cW}};{have Yx:¬(m:Int)<=(s:Int)+1:=af;go_wp2;go_end0;exact⟨rfl,o,hH,hP,hG⟩}}
end Q
namespace Q
open Go.Sort
def LG:SWO ltInt:=swo_ltInt
abbrev Left(a b a1 b1:Nat)(d dk:Array Int):Prop:=∀R,PermIn a1 b1 dk R->SortedIn ltInt a1 b1 R->PermIn a b d R/\SortedIn ltInt a b R
theorem du2(blk off cap N:Nat)(fQ:N<=1048576):∀(n a b:Nat)(XF:Int)(d:Array Int)(w:G),O (b-a=n)->O (d.size=N)->HU w blk off d->blk<U w.heap->a<=b->b<=N->0<=XF->XF<=64->Go.Sort.Below ltInt a b d→
  dQ dG 260 #[.S (Ad blk off) N cap,.I a,.I b,.I XF] w λe w'=>
   e=dR (dT #[])/\∃d',HU w' blk off d'/\PermIn a b d d'/\SortedIn ltInt a b d'/\w.grownBy w' blk:=by
 intro n
 induction n using Nat.strongRecOn with
 |_ n ih=>
  intro a b XF d w hn hN h mu yb hb rC xY hB;have IH:=ag ih;have H0:=ag h;have B0:=ag hB;go_in;go_wp2_with fail
  go_loopw[1,2,3,8,9](λs1 s2 s3 s8 s9 wr=>∃(a1 j:Nat)(li:Int)(p q:Bool)(u:Array Int),s1=.I a1/\s2=.I j/\s3=.I li/\s8=.bool p/\s9=.bool q/\a<=a1/\a1<=j/\j<=b/\0<=li/\li<=64/\O (u.size=N)/\O (HU wr blk off u)/\O (Go.Sort.Below ltInt a1 j u)/\O (Left a b a1 j d u)/\O (w.grownBy wr blk)) (λs1 s2 _ _ _ _=>(intOf s2-intOf s1).toNat)
  exact⟨a,b,XF,dY,dY,d,rfl,rfl,rfl,rfl,rfl,eG _,yb,eG _,rC,xY,hN,H0,B0,λR h1 h2=>⟨h1,h2⟩,M6⟩;{
 obtain⟨a1,j,li,p,q,u,rfl,rfl,rfl,rfl,rfl,z1,z2,z3,z4,z5,W,hH,hB,hF,hG⟩:=hrel;obtain⟨L,eL⟩:∃x:Nat,(j:Int)-(a1:Int)=(x:Int):=⟨j-a1,af⟩;have wL:=il L;have s:j<=N:=af;by_cases QP:L<=12;{have ei0:(L:Int)<=12:=af;go_wp2_with fail;refine(dL7 (blk:=blk) (off:=off) (cap:=cap) (N:=N) (a:=a1) (b:=j) (d:=u) W hH z2 s fQ).h ?_;rintro e w1⟨rfl,qC,dw⟩;have Z:=ag qC;have HG1:=ag (iy hG dw);go_wp2;refine cg (wS (h:=rfl) _ _ _) rfl ⟨rfl,_,Z,?_,?_,HG1⟩;{have:=insertionSort_holds LG u a1 j z2 (ae W▸s);exact(ae hF _ this.1 this.2).1};{have:=insertionSort_holds LG u a1 j z2 (ae W▸s);exact(ae hF _ this.1 this.2).2}};{
 have ei0:¬(L:Int)<=12:=af;by_cases hli:li=0;{subst hli;go_wp2_with fail;refine(dY2 (blk:=blk) (off:=off) (cap:=cap) (N:=N) (a:=a1) (b:=j) (d:=u) W hH z2 s fQ).h ?_;rintro e w1⟨rfl,qC,dw⟩;have Z:=ag qC;have HG1:=ag (iy hG dw);go_wp2;refine cg (wS (h:=rfl) _ _ _) rfl ⟨rfl,_,Z,?_,?_,HG1⟩;{have:=heapSort_holds LG u a1 j z2 (ae W▸s);exact(ae hF _ this.1 this.2).1};{have:=heapSort_holds LG u a1 j z2 (ae W▸s);exact(ae hF _ this.1 this.2).2}};{
 have h8:a1+8<=j:=af
 go_upto_if 35 with fail
 go_cut[3](λs3 wc=>∃(lj:Int)(V:Array Int),s3=.I lj/\0<=lj/\lj<=64/\O (V.size=N)/\O (HU wc blk off V)/\O (PermIn a1 j u V)/\O (w.grownBy wc blk))
 case first=>(
 cases p with
 |true=>
  go_wp2_with fail;go_meet;exact⟨li,u,rfl,z4,z5,W,hH,permIn_refl u a1 j,hG⟩
 |false=>
  go_wp2_with fail;refine(eJ4 (blk:=blk) (off:=off) (cap:=cap) (N:=N) (a:=a1) (b:=j) (d:=u) W hH (ku mu hG.size) h8 s fQ).h ?_;rintro e w1⟨rfl,V,qC,II,dw⟩;have Z:=ag qC;have Lo:=ag II;have HG1:=ag (iy hG dw);go_wp2_with fail;go_meet;exact⟨li-1,V,by first|rfl|go_num,af,af,Lo.1.Z W,Z,Lo,HG1⟩)
 obtain⟨lj,V,rfl,y1,y2,MU,qC,II,Eb⟩:=hcut;let⟨Y1,eY1⟩:=aG wc;subst eY1;go_wp2_with fail;refine(dt8 (blk:=blk) (off:=off) (cap:=cap) (N:=N) (a:=a1) (b:=j) (d:=V) MU qC (ku mu Eb.size) h8 s fQ).h ?_;rintro e w2⟨pv,t,rfl,v1,v2,rY,dt⟩;have VP:=ag rY;have HG2:=ag (iy Eb dt)
 go_upto_if 50 with fail
 go_cut[11,12](λWG s12 wc=>∃(M:Nat)(tt:Int)(X:Array Int),WG=.I M/\s12=.I tt/\a1<=M/\M<j/\O (X.size=N)/\O (HU wc blk off X)/\O (PermIn a1 j V X)/\O (w.grownBy wc blk))
 case first=>(
 by_cases ht:t=2;{
 subst ht;have q1:IntKind.i64.wrap ((j:Int)-1)=(j:Int)-1:=kP _ af;have q2:IntKind.i64.wrap ((pv:Int)-(a1:Int))=(pv:Int)-(a1:Int):=kP _ af;obtain⟨nv,env⟩:∃x:Nat,(j:Int)-1-((pv:Int)-(a1:Int))=(x:Int):=⟨j-1-(pv-a1),af⟩;have q3:=il nv;have bn:a1<=nv/\nv<j:=af
 go_wp2_with fail;refine(dp7 (blk:=blk) (off:=off) (cap:=cap) (N:=N) (a:=a1) (b:=j) (d:=V) MU VP z2 s fQ).h ?_;rintro e w3⟨rfl,uW,oF⟩;have HH3:=ag uW;have HG3:=ag (iy HG2 oF);have VN:=ag (reverseRange_holds V a1 j z2 (ae MU▸s));go_wp2_with fail;go_meet;exact⟨nv,1,_,rfl,rfl,bn.1,bn.2,VN.1.Z MU,HH3,VN,HG3⟩};{
 have Ut:(t==2)=dF:=by simp[ht]
 go_wp2_with fail;go_meet;exact⟨pv,t,V,rfl,rfl,v1,v2,MU,VP,permIn_refl V a1 j,HG2⟩})
 obtain⟨M,tt,X,rfl,rfl,x1,x2,hD2,rY,sI,QK⟩:=hcut;let⟨Y2,Rf⟩:=aG wc;subst Rf
 go_upto_region 15 with fail
 go_cut[68](λs68 wc=>∃Bq:Bool,s68=.bool Bq/\wc=Y2)
 case first=>(
 cases p<;>cases q
 all_goals
  go_wp2_with fail;go_meet;exact⟨_,rfl,rfl⟩)
 obtain⟨Bq,rfl,rfl⟩:=hcut
 go_upto_if 68 with fail
 go_cut[72](λs72 wc=>∃D:Array Int,O (D.size=N)/\O (HU wc blk off D)/\O (PermIn a1 j X D)/\O (w.grownBy wc blk))
 case first=>(
 cases Bq with
 |false=>
  go_wp2_with fail;go_meet;exact⟨X,hD2,rY,permIn_refl X a1 j,QK⟩
 | true=>
  go_wp2_with fail;refine(du6 (blk:=blk) (off:=off) (cap:=cap) (N:=N) (a:=a1) (b:=j) (d:=X) hD2 rY af s fQ).h ?_;have fN:Go.Sort.Below ltInt a1 j X:=(hB.perm (ae W▸s) II).perm (ae MU▸s) sI;have St:=ag (partialInsertionSort_holds LG X a1 j af (ae hD2▸s) fN);generalize partialInsertionSort ltInt X a1 j=R at St;obtain⟨R1,R2⟩:=R;rintro e w3⟨rfl,uW,oF⟩;have HH3:=ag uW;have HG3:=ag (iy QK oF);cases R2 with
  |true=>
   go_wp2;refine cg (wS (h:=rfl) _ _ _) rfl ⟨rfl,R1,HH3,?_,?_,HG3⟩;{exact(ae hF R1 (permIn_trans _ _ _ a1 j (permIn_trans _ _ _ a1 j II sI) St.1) (St.2 (by first|trivial|rfl))).1};{exact(ae hF R1 (permIn_trans _ _ _ a1 j (permIn_trans _ _ _ a1 j II sI) St.1) (St.2 (by first|trivial|rfl))).2}
  |false=>
   go_wp2_with fail;go_meet;exact⟨R1,St.1.1.Z hD2,HH3,St.1,HG3⟩)
 obtain⟨D,QL,uW,ee2,IJ⟩:=hcut;let⟨Y3,eY3⟩:=aG wc;subst eY3;have hP3:O (PermIn a1 j u D):=permIn_trans _ _ _ a1 j (permIn_trans _ _ _ a1 j II sI) ee2;have MX:O (Go.Sort.Below ltInt a1 j D):=hB.perm (ae W▸s) hP3
 go_upto_region 17 with fail
 go_cut[87](λs87 wc=>∃B:Bool,s87=.bool B/\O (B->0<a1/\ltInt D[a1-1]! D[M]! = dF)/\wc=Y3.drew)
 case first=>(
 by_cases ha:0<a1;{have yh:=qV 0 a1;have oK:(a1:Int)>0:=af;obtain⟨m,em⟩:∃x:Nat,(a1:Int)-1=(x:Int):=⟨a1-1,af⟩;have Nc:a1-1=m:=af;have wm:=il m;have oG:=ae QL;obtain⟨c1,-⟩:=ae uW m af;obtain⟨c2,-⟩:=ae uW M af;let⟨x,ex⟩:=aY D[m]!;let⟨y,ey⟩:=aY D[M]!;rw[ex]at c1;rw[ey]at c2;have k1:=bM m N;have k2:=bM M N;have k3:=gm 0 m;let⟨Lt,eLt⟩:=aY (ltInt x y);have EL:=ag eLt;have HX:O ((!Lt)->0<a1/\ltInt D[a1-1]! D[M]! = dF):=λaP=>⟨ha,by rw[Nc,ex,ey,eLt];simpa using aP⟩;have K0:=bG c1 c2;refine fk (λw'=>I w' (Ad blk (off+m))=dU x/\I w' (Ad blk (off+M))=dU y) (by exact K0) λhS=>?_;refine iR 0 1 2 3 4 5 6 7 hS ?_;refine iC 8 9 10 11 hS ?_;refine ew 12 λKK hK=>?_;refine EY aS (f:=274) aS (v1:=.U x) (v2:=.U y) aS aS (λ_=>GH) (FB (x:=x) (y:=y)) ?_;rintro r' w2'⟨rfl,rfl⟩;refine⟨_,rfl,?_⟩;rw[ae EL];refine bL hK (by exact K0) λhS=>?_;refine fO 13 14 hS ?_;refine fy ?_;go_wp2_with fail;go_meet;exact⟨_,rfl,HX,rfl⟩};{have yh:¬(0:Int)<(a1:Int):=af;refine fk (λw'=>True) iq λhS=>?_;refine fO 0 1 hS ?_;refine tn 2 hS ?_;refine kr 3 4 5 6 hS ?_;refine kr 7 8 9 10 hS ?_;refine sn 11 hS ?_;refine sn 12 hS ?_;refine sn 13 hS ?_;refine tn 14 hS ?_;refine fy ?_;go_wp2_with fail;go_meet;exact⟨dF,rfl,(λh=>by cases h),rfl⟩})
 obtain⟨B,rfl,hBB,rfl⟩:=hcut;cases B with
 |true=>
  obtain⟨⟨r,d4⟩,ZD⟩:∃R,partitionEqual ltInt D a1 j M=R:=⟨_,rfl⟩;have hc:=du7 (blk:=blk) (off:=off) (cap:=cap) (N:=N) (a:=a1) (b:=j) (piv:=M) (d:=D) QL (w:=Y3.drew) uW x1 x2 s fQ;rw[ZD]at hc;let⟨m1,m2,m3,m4,m5⟩:=round_eq LG (partitionEqual_holds ltInt) (ae hBB rfl).1 x1 x2 (ae QL▸s) MX (ae hBB rfl).2 ZD;have Jr:O (d4.size=N):=m3.Z QL;have xB:=ag m4;have HL4:O (Left a b r j d d4):=λR r1 r2=>by have:=m5 R r1 r2;exact hF R (permIn_trans _ _ _ a1 j hP3 this.1) this.2
  go_wp2_with fail;refine hc.h ?_;rintro e w4⟨rfl,Ac,ly⟩;have HH4:=ag Ac;have VQ:=ag (iy (ga IJ) ly);go_wp2;go_roundw;exact⟨r,j,lj,p,q,d4,rfl,rfl,rfl,rfl,rfl,af,af,af,af,af,Jr,HH4,xB,HL4,VQ⟩;exact cW
 |false=>
  obtain⟨⟨r,ap,d4⟩,ZD⟩:∃R,partition ltInt D a1 j M=R:=⟨_,rfl⟩;have hc:=du8 (blk:=blk) (off:=off) (cap:=cap) (N:=N) (a:=a1) (b:=j) (piv:=M) (d:=D) QL (w:=Y3.drew) uW x1 x2 s fQ;rw[ZD]at hc;let⟨m1,m2,m3,m4,m5,m6,m7⟩:=round_part LG (partition_holds ltInt) x1 x2 (ae QL▸s) MX ZD;have Jr:O (d4.size=N):=m3.Z QL;have xB:=ag m4;have ld:=ag m5;have HL6:=ag m6;have HL7:=ag m7;obtain⟨lL,elL⟩:∃x:Nat,(r:Int)-(a1:Int)=(x:Int):=⟨r-a1,af⟩;obtain⟨rL,erL⟩:∃x:Nat,(j:Int)-(r:Int)=(x:Int):=⟨j-r,af⟩;have wlL:=il lL;have wrL:=il rL;obtain⟨th,eth⟩:∃x:Nat,(L:Int) / 8=(x:Int):=⟨L / 8,af⟩;have fA1:Int.tdiv (L:Int) 8=(th:Int):=eth▸Int.tdiv_eq_ediv_of_nonneg af;have wth:=il th;go_wp2_with fail;refine hc.h ?_;rintro e w4⟨rfl,Ac,ly⟩;have HH4:=ag Ac;have VQ:=ag (iy (ga IJ) ly);by_cases hlr:lL<rL;{
 have dT8:=bM lL rL;go_wp2_with fail;refine(ae IH (r-a1) (aK (ae hn)) a1 r lj d4 _ rfl Jr HH4 (ku mu VQ.size) m1 af y1 y2 xB).h ?_;rintro e w5⟨rfl,d5,uV,QG,hS5,l9⟩;have HH5:=ag uV;have HG5:=ag (iy VQ l9);let⟨o1,o2⟩:=ae HL6 d5 QG hS5;have bC8:=ag o1;have Sw:O (d5.size=N):=QG.1.Z Jr;have HL5:O (Left a b (r+1) j d d5):=λR r1 r2=>by have:=o2 R r1 r2;exact hF R (permIn_trans _ _ _ a1 j hP3 this.1) this.2
 go_wp2;go_roundw;exact⟨r+1,j,lj,_,ap,d5,by first|rfl|go_num,rfl,rfl,rfl,rfl,af,af,af,af,af,Sw,HH5,bC8,HL5,HG5⟩;exact cW};{
 have dT8:=fq lL rL;obtain⟨mp,emp⟩:∃x:Nat,(r:Int)+1=(x:Int):=⟨r+1,af⟩;have er9:r+1=mp:=af;have wmp:=il mp;rw[er9]at ld HL7;go_wp2_with fail;refine(ae IH (j-mp) (aK (ae hn)) mp j lj d4 _ rfl Jr HH4 (ku mu VQ.size) af af y1 y2 ld).h ?_;rintro e w5⟨rfl,d5,uV,QG,hS5,l9⟩;have HH5:=ag uV;have HG5:=ag (iy VQ l9);let⟨o1,o2⟩:=ae HL7 d5 QG hS5;have bC8:=ag o1;have Sw:O (d5.size=N):=QG.1.Z Jr;have HL5:O (Left a b a1 r d d5):=λR r1 r2=>by have:=o2 R r1 r2;exact hF R (permIn_trans _ _ _ a1 j hP3 this.1) this.2
 go_wp2;go_roundw;exact⟨a1,r,lj,_,ap,d5,rfl,rfl,rfl,rfl,rfl,af,af,af,af,af,Sw,HH5,bC8,HL5,HG5⟩
 case measure=>simp[intOf];omega}}}}
end Q
namespace Q
open Go.Sort
variable {w:G}{cap:Nat}
def dL6:dQ dG 268 #[.S dN 0 cap,.I 0,.I 0] w λe w'=>e=dR (dT #[])/\w'=w:=by
 go_in;go_wp2_with fail
 go_loopw[6](λi wr=>i=.I 1/\wr=w) (λ_ _=>0)
 exact⟨rfl,rfl⟩;{obtain⟨rfl,rfl⟩:=hrel;go_wp2;go_end0;exact⟨rfl,rfl⟩}
def du1:dQ dG 260 #[.S dN 0 cap,.I 0,.I 0,.I 0] w λe w'=>e=dR (dT #[])/\w'=w:=by
 go_in;go_wp2_with fail
 go_loopw[1,2,3,8,9](λq o m j i wr=>q=.I 0/\o=.I 0/\m=.I 0/\j=.bool dY/\i=.bool dY/\wr=w) (λ_ _ _ _ _ _=>0)
 exact⟨rfl,rfl,rfl,rfl,rfl,rfl⟩;{obtain⟨rfl,rfl,rfl,rfl,rfl,rfl⟩:=hrel;go_wp2_with fail;refine(dL6).h ?_;rintro e r⟨rfl,rfl⟩;go_wp2;exact cg (wS (h:=rfl) _ _ _) rfl ⟨rfl,rfl⟩}
def bN9(cap:Nat)(w:G):dQ dG 240 #[.S dN 0 cap] w λe w'=>e=dR (dT #[])/\w'=w:=by
 have i:=aX8 (n:=0) af;have m:Lib.bitLen 0=0:=bf;rw[m]at i;go_in;go_wp2_with fail;refine(i _).h ?_;rintro e j⟨rfl,rfl⟩;go_wp2_with fail;refine(du1).h ?_;rintro e j⟨rfl,rfl⟩;go_wp2;go_end0;exact⟨rfl,rfl⟩
variable {d:Array Int}
def dj2{blk off cap N:Nat}(x:O (d.size=N))(s:N<=1048576)(h:HU w blk off d)(u:blk<U w.heap):dQ dG 240 #[.S (Ad blk off) N cap] w λe w'=>
   e=dR (dT #[])/\∃i,HU w' blk off i/\PermIn 0 N d i/\SortedIn ltInt 0 N i/\w.grownBy w' blk:=by
 have q:=aX8 s;have hK:Lib.bitLen N<=21:=Lib.bitLen_le N 21 af af;generalize Lib.bitLen N=K at q hK;have R:IntKind.u64.wrap (N:Int)=(N:Int):=by rw[uG];omega
 have M:=ag h;clear h;go_in;go_wp2_with fail;refine(q _).h ?_;rintro e W⟨rfl,rfl⟩;go_wp2_with fail;refine(du2 blk off cap N s N 0 N K d _ (by show _=_;omega) x M u (cO _) aA af af (Or.L rfl)).h ?_;rintro e V⟨rfl,i,r,o,m,j⟩;have D:=ag r;have B:=ag o;have y:=ag m;have E:=ag j;clear r o m j;go_wp2;go_end0;exact⟨rfl,i,D,B,y,E⟩
def bO0(blk off cap:Nat)(l:LI)(D:Mg (J l))(w:G)(h:HU w blk off l.toArray)(m:blk<U w.heap):Cp 240 #[.S (Ad blk off) (J l) cap] w λe w'=>
   e=dR (dT #[])/\HU w' blk off (l.mergeSort (λx y=>dD (x<=y))).toArray/\w.grownBy w' blk:=by
 refine(dj2 (by show _=_;simp) D h m).h ?_;rintro e w'⟨rfl,i,s,r,q,o⟩;refine⟨rfl,?_,o⟩;have e:=sorted_unique_holds LG (λx y B u=>by simp[ltInt]at B u;omega) l.toArray i (by simpa using r) (by simpa using q);have M:(λx y:Int=>!ltInt y x)=(λx y=>dD (x<=y)):=by
  funext x y
  by_cases j:x<=y;{rw[JV j];simp[ltInt];omega};{rw[AM j];simp[ltInt];omega}
 rw[M]at e;have E:i=(l.mergeSort (λx y=>dD (x<=y))).toArray:=by rw[<-show i.toList.toArray=i from by simp,e]
 rw[<-E];exact s
end Q
namespace Q
open Go.Sort
variable {p:Prop}
def scE(h:p:=by
    have h1:1<=n:=af;have haf:Fence.wide.fn 259:=iq;have hbf:Fence.wide.fn 262:=iq
    first|refine wX func239 rfl iq ?_ rfl|refine wX func242 rfl iq ?_ rfl
    simp only[ntmps239,ntmps242,Ep,Nat.reduceAdd,Nat.reduceSub]
    gi_wp2_with((first|gi_at_call 259|gi_at_call 262);refine(cI3 (n-1) af g lb eg S Sp N hN _ Mr).h ?_;rintro e w'⟨v,ss,rfl,hS,gx,UC,hb⟩)
    go_ret;exact⟨v,ss,rfl,hS,gx,UC,hb⟩):p:=h
def cD8(n:Nat)(i:3<=n)(g:Nat)(lb:iA)(eg:∀args w,(callFunc g args).run dG w=.ok (.enter g args) w)(S Sp:LI->Prop)(N:Nat)(hN:N<=1048576)(w:G)(Mr:SeqStopsK Fence.wide (n-1-1) dG g lb (λx:Int=>#[mR x]) KeepsWalks S Sp N w):CallsIn Fence.wide n dG 239 #[.func (.func g) #[] lb] w λe w'=>∃(v:dV)(ss:LI),e=dR v/\S ss/\w'.ownsRow (U w.heap+1) 27 1 v (J ss) (ss.map mR)/\(v=aq↔ss=[])/\Bw w w':=scE
variable {w:G}{g:Nat}{e:TypeId}{cur:iA}
def dP6{α:Type}{enc:α->dV}{ss:List α}[Inhabited α](m:w.heap[g]?=dO cur e (0,0))(q:cur.toList.take (J ss)=ss.map enc):Holds enc w g 0 ss.toArray:=by
  intro j r;have i:j<J ss:=by simpa using r
  refine⟨?_,by simp[World.frozen?,m]⟩;have o:(cur.toList.take (J ss))[j]?=(ss.map enc)[j]?:=by rw[q]
  rw[dD5 i]at o;simp only[World.cell?,m,mO];simp only[cb9,JT,yT];rw[<-aX0,o];simp[i]
def Aq(B:Nat)(w:G)(v:dV)(ss:LI):Prop:=(v=aq/\ss=[])\/∃g i,v=.T g (J ss) i/\B<=g/\g<U w.heap/\HU w g 0 ss.toArray
structure Ly{H:Type}(D0:DataW H)(ss:LI):Prop where
  lt:ss.Pairwise (·<·)
  mem:∀x,x∈ss↔has D0 (.U x)=dY
  size:J ss<=Maps.size D0
variable {ss:LI}
def cH7{H:Type}{o:DataW H}(h:EH o ss):Ly o (ss.mergeSort (λx y=>dD (x<=y))):=by
  have i:=List.mergeSort_perm ss (λx y=>dD (x<=y));refine⟨?_,λx=>(i.mem_iff).Z (h.2.1 x),by rw[i.length_eq];exact h.2.2⟩;have m:=cb7 (le:=λx y:Int=>dD (x<=y)) (λa b c m j=>by simp at*;omega) (λa b=>by simp;omega) ss;have j:(ss.mergeSort (λx y=>dD (x<=y))).Pairwise (·≠·):=i.nodup_iff.2 h.1;exact(m.and j).imp (λ{a b}⟨x,y⟩=>by simp at x;omega)
def scG(h:p:=by
    have h1:1<=n:=af;have haf:Fence.wide.fn 239:=iq;have hbf:Fence.wide.fn 242:=iq;have jG:Fence.wide.fn 240:=iq;have hdf:Fence.wide.fn 243:=iq
    first|refine wX func199 rfl iq ?_ rfl|refine wX func201 rfl iq ?_ rfl
    simp only[ntmps199,ntmps201,Ep,Nat.reduceAdd,Nat.reduceSub]
    gi_wp2_with((first|gi_at_call 239|gi_at_call 242);refine(cD8 (n-1) af g lb eg S Sp N hN _ Mr).h ?_;rintro e w'⟨v,ss,rfl,hSs,gx,UC,hb⟩)
    obtain⟨rfl,_⟩|⟨gb,cap,cur,rfl,MK,hgb,qc,iw,rA,Il⟩:=gx.2;{
 obtain rfl:ss=[]:=UC.1 rfl
 gi_wp2_with((first|gi_at_call 240|gi_at_call 243);refine(H6.2 (bN9 0 _)).h ?_;rintro e w2⟨rfl,rfl⟩)
 go_ret;exact⟨_,[],rfl,hSs,.L ⟨rfl,aj⟩,hb⟩};{
 have aH:gb<U w'.heap:=(JU.1 hgb).1;have hH:=dP6 hgb (by simpa using Il)
 gi_wp2_with((first|gi_at_call 240|gi_at_call 243);refine(H6.2 (bO0 gb 0 cap ss (hS ss hSs) _ hH aH)).h ?_;rintro e w2⟨rfl,rY,dt⟩)
 go_ret;refine⟨_,ss,rfl,hSs,.R ⟨gb,cap,by rw[List.length_mergeSort];rfl,af,ku aH dt.size,rY⟩,?_⟩;exact hb.grown dt hb.size (λk e=>by cases e;omega)}):p:=h
def bN8(n:Nat)(i:4<=n)(g:Nat)(lb:iA)(eg:∀args w,(callFunc g args).run dG w=.ok (.enter g args) w)(S Sp:LI->Prop)(N:Nat)(hN:N<=1048576)(hS:∀ss,S ss->J ss<=1048576)(w:G)(Mr:SeqStopsK Fence.wide (n-1-1-1) dG g lb (λx:Int=>#[mR x]) KeepsWalks S Sp N w):CallsIn Fence.wide n dG 199 #[.func (.func g) #[] lb] w λe w'=>∃(v:dV)(ss:LI),e=dR v/\S ss/\Aq (U w.heap) w' v (ss.mergeSort (λx y=>dD (x<=y)))/\Bw w w':=scG
theorem scH(h:p:=by
    refine(H6 (n:=6)).1 ?_;have haf:Fence.wide.fn 200:=iq;have hbf:Fence.wide.fn 245:=iq;have jG:Fence.wide.fn 202:=iq;have hdf:Fence.wide.fn 199:=iq;have hef:Fence.wide.fn 201:=iq;have xm:=cX.lt;have Kg:∀t,(w.alloc (dO #[.map b] t)).ownsMap dG kT R b nn D0:=by obtain⟨es,clock,hb,Ft,hs,hD⟩:=cX;exactλt=>⟨es,clock,(Xb _ _ b xm).Z hb,Ft,hs,hD⟩
    first|refine wX func138 rfl iq ?_ rfl|refine wX func203 rfl iq ?_ rfl|refine wX func140 rfl iq ?_ rfl
    simp only[ntmps138,ntmps203,ntmps140,Ep,Nat.reduceAdd,Nat.reduceSub]
    gi_wp2_with(first
      | ((first|gi_at_call 200|gi_at_call 245|gi_at_call 202);first|refine(ce4 _ _ _).h ?_|refine(dJ6).h ?_
         rintro e w'⟨rfl,rfl⟩)
      |((first|gi_at_call 199|gi_at_call 201);refine CallsIn.h (bN8 5 af _ _ (λargs w=>aU) (EH D0) (λ_=>True) _ fQ (λss h=>gv h.2.2 fQ) _ (by first|exact bM2 2 af (U w.heap) b nn D0 _ aj aj (Kg _)|exact de7 af aj aj (Kg _))) ?_;rintro e w'⟨v,ss,rfl,hS,xk,hb⟩))
    go_ret;refine⟨v,_,rfl,cH7 hS,?_,((aR _ w).alloc aA _).Z (hb.h aj)⟩;obtain h|⟨g,cap,h1,h2,h3,h4⟩:=xk;{exact .L h};{exact .R ⟨g,cap,h1,by simp at h2;omega,h3,h4⟩}):p:=h
def Wv{H:Type}(b nn:Nat)(D0:DataW H){R:dV->Option (DataW H×List MemPlace)}(w:G)(cX:w.ownsMap dG 27 R b nn D0)(fQ:Maps.size D0<=1048576):Cp 138 #[.map b] w λe w'=>∃(v:dV)(ss:LI),e=dR v/\Ly D0 ss/\Aq (U w.heap) w' v ss/\Bw w w':=scH
def aM5{H:Type}(b nn:Nat)(D0:DataW H){R:dV->Option (DataW H×List MemPlace)}(w:G)(cX:w.ownsMap dG 27 R b nn D0)(fQ:Maps.size D0<=1048576):Cp 203 #[.map b] w λe w'=>∃(v:dV)(ss:LI),e=dR v/\Ly D0 ss/\Aq (U w.heap) w' v ss/\Bw w w':=scH
end Q
namespace T
open Go.Sort Go.Proofs.YtdloolggnjjfoaaGreatDoor.Q
def cD8(n:Nat)(i:3<=n)(g:Nat)(lb:iA)(eg:∀args w,(callFunc g args).run dG w=.ok (.enter g args) w)(S Sp:List (List UInt8)->Prop)(N:Nat)(hN:N<=1048576)(w:G)(Mr:SeqStopsK Fence.wide (n-1-1) dG g lb (λx:List UInt8=>#[mR x]) KeepsWalks S Sp N w):CallsIn Fence.wide n dG 242 #[.func (.func g) #[] lb] w λe w'=>∃(v:dV)(ss:List (List UInt8)),e=dR v/\S ss/\w'.ownsRow (U w.heap+1) 9 1 v (J ss) (ss.map mR)/\(v=aq↔ss=[])/\Bw w w':=Q.scE
def Aq(B:Nat)(w:G)(v:dV)(ss:List (List UInt8)):Prop:=(v=aq/\ss=[])\/∃g i,v=.T g (J ss) i/\B<=g/\g<U w.heap/\HT w g 0 ss.toArray
structure Ly{H:Type}(D0:DataW H)(ss:List (List UInt8)):Prop where
 lt:ss.Pairwise (·<·)
 mem:∀x,x∈ss↔has D0 (.string x)=dY
 size:J ss<=Maps.size D0
variable {ss:List (List UInt8)}
def cH7{H:Type}{o:DataW H}(h:EH o ss):Ly o (ss.mergeSort (λx y=>dD (x<=y))):=by
 have i:=List.mergeSort_perm ss (λx y=>dD (x<=y));refine⟨?_,λx=>(i.mem_iff).Z (h.2.1 x),by rw[i.length_eq];exact h.2.2⟩;have m:=cb7 (le:=λx y:List UInt8=>dD (x<=y)) (λa b c m j=>by simp only[jX]at*;exact List.le_trans m j) (λa b=>by simp only[Ug,jX];exact List.le_total a b) ss;have j:(ss.mergeSort (λx y=>dD (x<=y))).Pairwise (·≠·):=i.nodup_iff.2 h.1;refine(m.and j).imp (λ{a b}⟨x,y⟩=>?_);simp only[jX]at x;exact cb6 λq=>y (List.le_antisymm x q)
def bN8(n:Nat)(i:4<=n)(g:Nat)(lb:iA)(eg:∀args w,(callFunc g args).run dG w=.ok (.enter g args) w)(S Sp:List (List UInt8)->Prop)(N:Nat)(hN:N<=1048576)(hS:∀ss,S ss->Mg (J ss))(w:G)(Mr:SeqStopsK Fence.wide (n-1-1-1) dG g lb (λx:List UInt8=>#[mR x]) KeepsWalks S Sp N w):CallsIn Fence.wide n dG 201 #[.func (.func g) #[] lb] w λe w'=>∃(v:dV)(ss:List (List UInt8)),e=dR v/\S ss/\Aq (U w.heap) w' v (ss.mergeSort (λx y=>dD (x<=y)))/\Bw w w':=Q.scG
def Wv{H:Type}(b nn:Nat)(D0:DataW H){R:dV->Option (DataW H×List MemPlace)}(w:G)(cX:w.ownsMap dG 9 R b nn D0)(fQ:Maps.size D0<=1048576):Cp 140 #[.map b] w λe w'=>∃(v:dV)(ss:List (List UInt8)),e=dR v/\Ly D0 ss/\Aq (U w.heap) w' v ss/\Bw w w':=Q.scH
end T
section
variable {P:Program}(w:World){ops:iQ}{rest:List Oper}{o:Oper}{a:Act}{Q:Exit->Act->World->Prop}
def bI4(E:o.guard=dN)(m x:Operand)(t:TypeId)(r:o.op=Op.lookup t m x dY)(k e:TypeId)(K:Keyed P k)(B:P.underlying t=Y (.map k e))(s:(zeroValue e).run P w=.ok (dP dN) w)(b n:Nat)(D:DataW Unit)(l:List (Lit×Nat))(q:pR D l)(hm:a.eval m=.map b)(N:w.ownsMap P k iF b n D)(key:dV)(p:Lit×Nat)(j:p∈l)(y:a.eval x=key)(M:keyOf P k key=p.1)(hK:wpList P ops Q rest (a.put o.dst (dT #[Pz p.2,.bool dY])) w):wpList P ops Q (o::rest) a w:=
 wpList_lookup_own_ok w E m x t r k e K B iF s .nil [] rfl b n D hm N key p.1 y M (λv R i=>by rw[q.at' p j]at i;obtain rfl:=TF i;rw[(q.hs p.1).2 ⟨p,j,rfl⟩];exact hK)
def cW6(M:o.guard=dN)(m x:Operand)(t:TypeId)(q:o.op=Op.lookup t m x dY)(k e:TypeId)(K:Keyed P k)(B:P.underlying t=Y (.map k e))(s:(zeroValue e).run P w=.ok (dP dN) w)(b n:Nat)(D:DataW Unit)(l:List (Lit×Nat))(N:pR D l)(hm:a.eval m=.map b)(S:w.ownsMap P k iF b n D)(key:dV)(kl:Lit)(r:∀p∈l,p.1≠kl)(y:a.eval x=key)(R:keyOf P k key=kl)(hK:wpList P ops Q rest (a.put o.dst (dT #[dP dN,.bool dF])) w):wpList P ops Q (o::rest) a w:=
 wpList_lookup_own_ok w M m x t q k e K B iF s .nil [] rfl b n D hm S key kl y R (λv V i=>by
  have j:Maps.has D kl=dF:=by rw[DH];intro h;let⟨p,E,e⟩:=(N.hs kl).1 h;exact r p E e
  rw[Maps.atKey_of_not_has j]at i;obtain rfl:=aQ0 i;rw[j];exact hK)
end
def SR(w:G):(zeroValue 183).run dG w=.ok (dP dN) w:=by kernel_rfl
def al4(h:jW ns l=nd):nd.A=l/\∃i:Nat,ns[i]?=nd:=by
 have m:=Xp h;have j:=an0 h;exact⟨by simpa using m,wR j⟩
def bZ2(h:jW ns l=dN):∀nd∈ns,nd.A≠l:=by
 intro nd i e;have:=Xo.1 h nd i;simp[e]at this
theorem eH5{SB NB HB UB:iN}(l:LI)(w:G)(E:O (Jg w0 w b bs bn e g x t ss ns SB NB HB UB))(hB:O (aC l))(nL:O (∀nd∈ns,aC nd.A))(hl:J l<=1048577)(B:Bool)(eB:O (nQ ns l=B)):dQ dG 182 #[Pz b,.string (aZ l)] w (Rb (.bool B) w):=by
 have oI:I w (Ad b 5)=Y (.map bn):=cK E.hd 5;let⟨D,oD,mD⟩:=E.jt.own;have fh:keyOf dG 9 (.string (aZ l))=(di l):=by rw[WideMaps.keyOf_string_mk underlying9 (by rw[Da];unfold maxLen;omega),Vr]
 have S:=ag oD;have W:=ag mD;have M:=ag fh;have o:((aZ l).toList==(aZ [47]).toList)=dD (l=[47]):=Nq hB (by intro y hy;simp at hy;omega);rw[show(aZ [47]).toList=[47]from Bj [47]]at o;clear oD mD fh;let⟨s,es⟩:=aG (aZ l);rw[<-es]at o M⊢;clear es;by_cases q:l=[47];{
 obtain rfl:B:=by rw[<-ae eB,nQ,aM q]
 have hr:(s.toList==[47]):=by rw[o];simp[q]
 clear o q;go_in;go_wp2;go_ret;exact⟨rfl,aR _ _⟩};{
 have hr:(s.toList==[47])=dF:=by rw[o];simp[q]
 have j:(match jW ns l with|some nd=>nd.D==0|none=>dF)=B:=by rw[<-ae eB,nQ,aL q];rfl
 clear o q;cases hF:jW ns l with
 | none=>
  rw[hF]at j;obtain rfl:B=dF:=j.C;have ij:O (∀p∈List.zipWith (λ(nd:ar)g=>(di nd.A,g)) ns NB,p.1≠di l):=by intro p r;obtain⟨i,nd,y,hx,hy,rfl⟩:=yD r;intro ee;have hm:=bu hx;exact bZ2 hF nd hm (Ml (ae nL nd hm) hB ee)
  clear hF j;go_in;go_wp2_with(first
   |(at_lookup;refine cW6 _ rfl _ _ 179 rfl 9 _ ru underlying179 (SR _) bn _ D _ W rfl S _ (di l) ij rfl M ?_)
   |go_in)
  go_ret;exact⟨rfl,aR _ _⟩
 | some nd=>
  rw[hF]at j;replace j:(nd.D==0)=B:=j;let⟨r,i,u⟩:=al4 hF;let⟨m,h1,u1,N,Z,X⟩:=E.jt.at u;let⟨_,_,_,⟨V,a4,_⟩,_,_⟩:=E.jt.blk i nd m h1 u1 u N Z X;have R:I w (Ad m 1)=dU nd.D:=cK a4 1;have lu:O ((di l,m)∈List.zipWith (λ(nd:ar)g=>(di nd.A,g)) ns NB):=by show _∈_;rw[jk];refine⟨i,?_⟩;rw[qL,u,N];show Y (di nd.A,m)=Y (di l,m);rw[r]
  let⟨ow,Ef⟩:=aY nd.D;rw[Ef]at R j;clear hF r u N Z X a4 Ef;cases B with
  | true=>
   obtain rfl:ow=0:=by simpa using j
   clear j;go_in;go_wp2_with(first
    |(at_lookup;refine bI4 _ rfl _ _ 179 rfl 9 _ ru underlying179 (SR _) bn _ D _ W rfl S _ (di l,m) lu rfl M ?_)
    |go_in)
   go_ret;exact⟨rfl,aR _ _⟩
  | false=>
   have ho:(ow==0)=dF:=j;clear j;go_in;go_wp2_with(first
    |(at_lookup;refine bI4 _ rfl _ _ 179 rfl 9 _ ru underlying179 (SR _) bn _ D _ W rfl S _ (di l,m) lu rfl M ?_)
    |go_in)
   go_ret;exact⟨rfl,aR _ _⟩}
def Mm(e g x t:Int)(n m:Nat):Bool:=dD (e<=2^62/\g<=2^62/\x<=2^62/\0<=t/\t<=1000000/\n<=50/\m<=200)
def dF1(j:Mg n)(hm:Mg m)(i:O (Mm e g x t n m=B)):dQ dG 116 #[bS e g x t (.S p n c) (.S q m d)] w (Rb (.bool B) w):=by
 go_in;go_wp2_with fail
 all_goals(
  go_ret;refine⟨?_,aD.alloc aA _⟩;rw[<-ae i];simp only[Mm,aU0,aW3])
 all_goals first|(simp_all;done)|(simp_all;omega)|(show Value.bool (dD ((m:Int)<=200))=Value.bool _;congr 1;rw[Po,uF,uF];omega)|skip
def cZ0{P V iU:dV}(j:Mg n)(i:O (pL e g mo n ep ge=B)):dQ dG 212 #[Cc P V ow mo (.S p n c) ep ge iU,.U e,.U g] w (Rb (.bool B) w):=by
 go_in;go_wp2_with fail
 all_goals(
  go_ret;refine⟨?_,aD.alloc aA _⟩;rw[<-ae i];simp only[pL,aU0,aW3])
 all_goals first|(simp_all;done)|(simp_all;omega)|skip
def Nu(l:LI):Bool:=uk (J l) (λi j=>dD (l.getD i 0<l.getD j 0))
def xJ(e g:Int)(nd:ar):Bool:=vp nd.A&&(dD (J nd.V<=40)&&(pL e g nd.M (J nd.y) nd.P nd.F&&(Nu nd.y&&Nu nd.X)))
theorem cZ1{D vq X M:OA}{E u vc q hc r R s:Nat}(uZ:Le nd.A u)(Nj:Le nd.V q)(Ai:Le nd.y r)(CM:Le nd.X s) (h0:Rd w (.S D u E) nd.A)(h4:iZ w (.S X r hc) nd.y)(h7:iZ w (.S M s R) nd.X)(MV:O (aC nd.A))(Co:u<=1048576)(hvn:q<=1048576)(DZ:r<=1048576)(DS:s<=1048576)(ui:tG (.S D u E))(pO:ML w)(eB:O (xJ e g nd=B)):dQ dG 178 #[Cc (.S D u E) (.S vq q vc) nd.D nd.M (.S X r hc) nd.P nd.F (.S M s R),bS e g x t S N] w (Rb (.bool B) w):=by
 let⟨fM,gC⟩:=ui.of;obtain⟨ow,mo,ep,ge,e1,e2,e3,e4⟩:∃a b c d,nd.D=a/\nd.M=b/\nd.P=c/\nd.F=d:=⟨_,_,_,_,rfl,rfl,rfl,rfl⟩
 rw[e1,e2,e3,e4];have HR:=ag λ(w':G)(Z:Bw w w')=>aF (h0.H Z) (aF (h4.H Z) (aF (h7.H Z) (pO.H Z)));obtain⟨T1,E1⟩:∃T,O (vp nd.A=T):=⟨_,cM⟩;obtain⟨T3,E3⟩:∃T,O (pL e g mo r ep ge=T):=⟨_,cM⟩;obtain⟨T4,E4⟩:∃T,O (uk r (λi j=>dD (nd.y.getD i 0<nd.y.getD j 0))=T):=⟨_,cM⟩;obtain⟨T5,E5⟩:∃T,O (uk s (λi j=>dD (nd.X.getD i 0<nd.X.getD j 0))=T):=⟨_,cM⟩;have hB:B=(T1&&(dD (q<=40)&&(T3&&(T4&&T5)))):=by rw[<-ae eB,xJ,Nu,Nu,e2,e3,e4,ae Nj,ae Ai,ae CM,ae E1,ae E3,ae E4,ae E5]
 have HB:=ag hB;clear h0 h4 h7 pO hB eB e1 e2 e3 e4 ui;let⟨W,m⟩:=aG ((w.alloc (dO #[.S D u E,.S vq q vc,.U ow,.I mo,.S X r hc,.U ep,.U ge,.S M s R] 141)).alloc (dO #[.U e,.U g,.U x,.I t,S,N] 41));have bW:Bw w W:=m▸(aD.alloc aA _).alloc aj _;have k0:I W (Aw w 0)=dS D u E:=by rw[m];simp
 have k1:I W (Aw w 1)=dS vq q vc:=by rw[m];simp
 have k2:I W (Aw w 2)=dU ow:=by rw[m];simp
 have k3:I W (Aw w 3)=dI mo:=by rw[m];simp
 have V:I W (Aw w 4)=dS X r hc:=by rw[m];simp
 have k5:I W (Aw w 5)=dU ep:=by rw[m];simp
 have k6:I W (Aw w 6)=dU ge:=by rw[m];simp
 have y:I W (Aw w 7)=dS M s R:=by rw[m];simp
 have k8:I W (Ax w 0)=dU e:=by rw[m];simp
 have k9:I W (Ax w 1)=dU g:=by rw[m];simp
 go_in;go_wp2_with fail;rw[<-m];refine br (ba2 uZ (ae HR _ bW).1 MV Co fM gC (ae HR _ bW).2.2.2 E1) λw1 o=>?_;have b1:=ai bW o;cases T1 with
 |false=>
  obtain rfl:B=dF:=by rw[ae HB];rfl
  go_wp2;go_ret;exact⟨rfl,b1⟩
 |true=>
  replace k0:=al k0 o;replace k1:=al k1 o;replace k2:=al k2 o;replace k3:=al k3 o;replace V:=al V o;replace k5:=al k5 o;replace k6:=al k6 o;replace y:=al y o;replace k8:=al k8 o;replace k9:=al k9 o;by_cases hv:(q:Int)<=40;{
 have lh:O (B=(T3&&(T4&&T5))):=by show _=_;rw[ae HB,show dD (q<=40)=dY by(rw[uF];omega)];rfl
 go_wp2_with fail;refine br (cZ0 DZ E3) λw2 ay=>?_;have b2:=ai b1 ay;cases T3 with
 |false=>
  obtain rfl:B=dF:=by rw[ae lh];rfl
  go_wp2;go_ret;exact⟨rfl,b2⟩
 | true=>
  replace V:=al V ay;replace y:=al y ay;go_wp2_with fail;refine br (cH9 Ai (ae HR _ b2).2.1 DZ E4) λw3 aI=>?_;have b3:=ai b2 aI;cases T4 with
  |false=>
   obtain rfl:B=dF:=by rw[ae lh];rfl
   go_wp2;go_ret;exact⟨rfl,b3⟩
  |true=>
   obtain rfl:B=T5:=by rw[ae lh];rfl
   replace y:=al y aI;go_wp2_with fail;refine br (cH9 CM (ae HR _ b3).2.2.1 DS E5) λw4 cT=>?_;have b4:=ai b3 cT;go_wp2;go_ret;exact⟨rfl,b4⟩};{
 obtain rfl:B=dF:=by rw[ae HB,show dD (q<=40)=dF by(rw[JW];omega)];rfl
 go_wp2;go_ret;exact⟨rfl,b1⟩}
def BO(x:Int)(ss:List aB):Bool:=(List.range (J ss)).all (λi=>Fb x (ss.getD i (0,0,[])))&&uk (J ss) (λi j=>dD ((ss.getD i (0,0,[])).1<(ss.getD j (0,0,[])).1))
def AF(e g:Int)(ns:List ar):Bool:=(List.range (J ns)).all (λi=>xJ e g (ns.getD i jh))&&uk (J ns) (λi j=>!leB (ns.getD j jh).A (ns.getD i jh).A)
theorem cY7(en:Le ss n)(h:kV w (.S p n c) ss)(hn:Mg n)(gM:O (Bs ss))(pO:ML w)(eB:O (BO x ss=B)):dQ dG 117 #[bS e g x t (.S p n c) N] w (Rb (.bool B) w):=by
 have HR:=ag λ(w':G)(hb:Bw w w')=>aF (h.H hb) (pO.H hb);obtain⟨T2,E2⟩:∃T,O (uk n (λi j=>dD ((ss.getD i (0,0,[])).1<(ss.getD j (0,0,[])).1))=T):=⟨_,cM⟩;have HB:O (B=((List.range n).all (λi=>Fb x (ss.getD i (0,0,[])))&&T2)):=by show _=_;rw[<-ae eB,BO,ae en,ae E2]
 go_in;go_wp2_with fail;let⟨W,r⟩:=aG (w.alloc (dO #[.U e,.U g,.U x,.I t,.S p n c,N] 41));have bW:=gF r;have gC:I W (Aw w 2)=dU x:=by rw[r];simp
 have uR:I W (Aw w 4)=dS p n c:=by rw[r];simp
 rw[<-r];have BW:=ag bW;have xA:=bG gC uR
 go_loopw[8](λR wr=>∃k:Nat,k<=n/\R=.I k/\O ((List.range k).all (λi=>Fb x (ss.getD i (0,0,[]))))/\Bw W wr) (λR _=>n-(intOf R).toNat)
 exact⟨0,cO _,rfl,cM,aR _ _⟩;{
 obtain⟨k,hk,rfl,fv,E⟩:=hrel;have M:=ai BW E;have i2:=al xA.1 E;have i4:=al xA.2 E;by_cases aH:k<n;{
 have cL:=bM k n;have bR:k<J ss:=ae en▸aH;let⟨⟨q,D,Q⟩,X⟩:=nR bR;have xg:ss.getD k (0,0,[])=(q,D,Q):=by rw[im,X];rfl
 obtain⟨b,o,rfl,Kq,MH,u,IC,PR⟩:∃b o,p=(Ad b o)/\I wr (Ad b (o+k*3))=dU q/\I wr (Ad b (o+k*3+1))=dI D/\∃u,I wr (Ad b (o+k*3+2))=Y u/\sj wr u Q:=by let⟨p',c',ev,hd⟩:=(ae HR _ M).1;obtain⟨rfl,-,-⟩:=jJ ev;obtain h0|⟨b,o,h1,h2⟩:=hd;{rw[h0]at bR;simp at bR};{exact⟨b,o,h1,h2 k _ X⟩}
 let⟨Z,hQb⟩:=ae gM _ (bu X);obtain⟨pq,cq,rfl,-⟩:=id PR;let⟨m,em⟩:=aY (J Q);rw[em]at PR IC;have hm:m<=1048576:=em▸Z;have EM:=ag em;have HBQ:O (∀e∈Q,aC e.2/\J e.2<=1048576):=hQb;let⟨V,eV⟩:=aY (Fb x (q,D,Q));have EV:=ag eV;have HF:O (V=dF->B=dF):=λh=>by rw[ae HB,Hp aH (by rw[xg,eV];exact h)];rfl
 have HT:O (V->O ((List.range (k+1)).all (λi=>Fb x (ss.getD i (0,0,[]))))):=λh=>Ff fv (by rw[xg,eV];exact h);have y:Bw wr ((wr.alloc (dO #[.U q,.I D,.S pq m cq] 97))):=aD.alloc aA _;have VM:=ag (PR.H y);have HML:=ag ((ae HR _ M).2.H y);have j2:=al i2 y;go_wp2_with fail;refine br (dl2 EM (by exact VM) hm HBQ (by exact HML) EV) λw2 ay=>?_;have s:=ai E (ai y ay);have B3:=ai BW s;cases V with
 |false=>
  obtain rfl:=ae HF rfl;go_wp2;go_ret;exact⟨rfl,B3⟩
 |true=>
  have kH:=ae HT rfl;go_wp2;go_roundw;exact⟨k+1,af,by go_num,kH,s⟩;exact cW};{
 have cL:=fq k n;have CK:k=n:=af;have eT:B=T2:=by rw[ae HB,show(List.range n).all (λi=>Fb x (ss.getD i (0,0,[])))=dY from CK▸ae fv,vI]
 subst eT;go_wp2_with fail;refine br (eK5 en (ae HR _ M).1.rd hn E2) λw2 ay=>?_;have s:=ai M ay;go_wp2;go_ret;exact⟨rfl,s⟩}}
theorem cY8(Z:Le ns m)(h:gJ w (.S q m d) ns)(hm:Mg m)(cQ:O (Bn ns))(pO:ML w)(eB:O (AF e g ns=B)):dQ dG 118 #[bS e g x t S (.S q m d)] w (Rb (.bool B) w):=by
 have HR:=ag λ(w':G)(hb:Bw w w')=>aF (h.H hb) (pO.H hb);obtain⟨T2,E2⟩:∃T,O (uk m (λi j=>!leB (ns.getD j jh).A (ns.getD i jh).A)=T):=⟨_,cM⟩;have HB:O (B=((List.range m).all (λi=>xJ e g (ns.getD i jh))&&T2)):=by show _=_;rw[<-ae eB,AF,ae Z,ae E2]
 go_in;go_wp2_with fail;let⟨W,X⟩:=aG (w.alloc (dO #[.U e,.U g,.U x,.I t,S,.S q m d] 41));have bW:=gF X;have jH:fK W (U w.heap) e g x t S (.S q m d):=by rw[X];simp[fK]
 rw[<-X];have BW:=ag bW;have BI:=ag jH
 go_loopw[8](λM wr=>∃k:Nat,k<=m/\M=.I k/\O ((List.range k).all (λi=>xJ e g (ns.getD i jh)))/\Bw W wr) (λM _=>m-(intOf M).toNat)
 exact⟨0,cO _,rfl,cM,aR _ _⟩;{
 obtain⟨k,hk,rfl,fv,az⟩:=hrel;have E:=ai BW az;let⟨i0,i1,i2,i3,i4,i5⟩:=BI.H az;by_cases aH:k<m;{
 have cL:=bM k m;have bR:k<J ns:=ae Z▸aH;let⟨s,N⟩:=nR bR;have xg:ns.getD k jh=s:=by rw[im,N];rfl
 obtain⟨b,o,rfl,hA⟩:=(ae HR _ E).1.at af;let⟨P,V,H,iU,u⟩:=hA k s N;let⟨qe,fN,MX,MW,U6⟩:=ae cQ _ (bu N);obtain⟨pp,pc,pn,rfl,uZ⟩:=u.r0.dy;obtain⟨JC,vc,vn,rfl,Nj⟩:=u.r1.dy;obtain⟨hp,hc,hh,rfl,Ai⟩:=u.r4.dy;obtain⟨up,uc,un,rfl,CM⟩:=u.r7.dy;have Co:pn<=1048576:=ae uZ▸fN;have R:vn<=1048576:=ae Nj▸MX;have DZ:hh<=1048576:=ae Ai▸MW;have DS:un<=1048576:=ae CM▸U6;have Ez:O (aC s.A):=qe;let⟨T,eV⟩:=aY (xJ e g s);have EV:=ag eV;have HF:O (T=dF->B=dF):=λh=>by rw[ae HB,Hp aH (by rw[xg,eV];exact h)];rfl
 have HT:O (T->O ((List.range (k+1)).all (λi=>xJ e g (ns.getD i jh)))):=λh=>Ff fv (by rw[xg,eV];exact h);have r:Bw wr (wr.alloc (dO #[.S pp pn pc,.S JC vn vc,.U s.D,.I s.M,.S hp hh hc,.U s.P,.U s.F,.S up un uc] 141)):=aD.alloc aA _;have D:=ag (u.H r);have HML:=ag ((ae HR _ E).2.H r);obtain⟨c0,c1,c2,c3,c4,c5,c6,c7,-,-,-,-,-⟩:=u;have j0:=al i0 r;have j1:=al i1 r;have j2:=al i2 r;have j3:=al i3 r;have j4:=al i4 r;have j5:=al i5 r;go_wp2_with fail;refine br (cZ1 uZ Nj Ai CM (by exact D.r0) (by exact D.r4) (by exact D.r7) Ez Co R DZ DS D.k0 (by exact HML) EV) λw2 ay=>?_;have y:=ai az (ai r ay);have B3:=ai BW y;cases T with
 |false=>
  obtain rfl:=ae HF rfl;go_wp2;go_ret;exact⟨rfl,B3⟩
 |true=>
  have kH:=ae HT rfl;go_wp2;go_roundw;exact⟨k+1,af,by go_num,kH,y⟩;exact cW};{
 have cL:=fq k m;have CK:k=m:=af;have eT:B=T2:=by rw[ae HB,show(List.range m).all (λi=>xJ e g (ns.getD i jh))=dY from CK▸ae fv,vI]
 subst eT;go_wp2_with fail;refine br (eK6 Z (ae HR _ E).1 hm E2) λw2 ay=>?_;have y:=ai E ay;go_wp2;go_ret;exact⟨rfl,y⟩}}
def ap2:∀(key:dV)(kl:Lit),keyOf dG 9 key=kl->∃s:ByteArray,key=.string s:=by
 intro key kl i;cases key<;>simp[keyOf,underlying9,mapKey]at i
 exact⟨_,rfl⟩
def ce8(h:keyOf dG 9 (.string s)=(di l)):s=aZ l:=by
 simp[keyOf,underlying9,mapKey]at h;exact dE7 h.2
def XE{m:LI}(i:aC l)(hm:aC m):(di l).sameKey (di m)=dD (l=m):=by
 rw[Po,am5 (by trivial),uF];exact⟨λh=>Ml i hm h,λh=>by rw[h]⟩
theorem eb8{SB NB HB UB:iN}(E:O (Jg w0 w b bs bn e g x t ss ns SB NB HB UB))(W:O (∀nd∈ns,aC nd.A/\J nd.A<=1048576))(eB:O (ns.all (λnd=>nQ ns (ig nd.A))=B)):dQ dG 119 #[Pz b] w (Rb (.bool B) w):=by
 have oI:I w (Ad b 5)=Y (.map bn):=cK E.hd 5;let⟨D,oD,mD⟩:=E.jt.own;let⟨m,em⟩:=aY (J ns);rw[em]at oD;have Z:O (∀nd∈ns,aC nd.A):=λnd h=>(ae W nd h).1;have MD:=ag mD;go_in;go_wp2_with(first
  |(at_range;refine wpList_range_own _ rfl _ 179 rfl 9 _ ru underlying179 _ bn m _ rfl oD ?_;intro w1 xS qP zt)
  |go_in)
 go_frame
 go_loopw[3](λ_ wr=>∃(left:Lit->Bool)(gO:Nat),wr.ranges dG 9 iF bn (U w.heap) m D left gO/\O (∀nd∈ns,left (di nd.A)=dF->nQ ns (ig nd.A))/\Bw w wr) (λ_ wr=>wr.rangeLeft bn (U w.heap))
 case atStart=>(
 refine⟨_,_,xS,λnd u q=>?_,Zo qP⟩;exfalso;let⟨i,N⟩:=wR u;let⟨X,h1,u1,q1,q2,q3⟩:=E.jt.at N;have:Maps.has D (di nd.A):=(MD.hs _).2 ⟨(di nd.A,X),by rw[jk];refine⟨i,?_⟩;rw[qL,N,q1],rfl⟩
 rw[this]at q;cases q)
 case round=>(
 obtain⟨left,gO,iH,fv,R⟩:=hrel;have iM:=ag (E.H R);go_wp2_with(first
  |(at_next;refine Ta _ rfl _ rfl 9 ru (λs:ByteArray=>.string s) ap2 bn (U w.heap) m _ _ MD _ _ rfl iH ?_ ?_)
  |go_in)
 {
 intro _ rC;have y:B:=by rw[<-ae eB,ky];exactλnd u=>ae fv nd u (rC _)
 subst y;go_wp2;go_ret;exact⟨rfl,R⟩};{
 intro s pl X S yt fh hp Mv xj aH dw fo ti;let⟨i,nd,Va,N,tg,ee⟩:=yD hp;simp only[jy]at ee;obtain⟨rfl,rfl⟩:=ee;have ay:Bw w S:=Bk R dw R.size (λj hj=>by cases hj;exact eG _);obtain rfl:=ce8 fh;have u:=bu N;let⟨V,fN⟩:=ae W nd u;let⟨T,y⟩:=aY (nQ ns (ig nd.A));have ET:=ag y;have HF:O (T=dF->B=dF):=λh=>by rw[<-ae eB,Xv];exact⟨nd,u,by rw[y,h];simp⟩
 have HT:O (T->O (∀o∈ns,(λz=>left z&&!z.sameKey (di nd.A)) (di o.A)=dF->nQ ns (ig o.A))):=λh o M q=>by simp only[XE (ae W o M).1 V]at q;by_cases ep:o.A=nd.A;{rw[ep,y,h]};{simp[ep]at q;exact fv o M q}
 have jr:O (aC nd.A):=V;have oY:=ag (TG V);have jE:J (ig nd.A)<=1048577:=by unfold ig;split;{simp};{rw[rM];omega}
 have aE3:=ag (E.H ay);have YE:(Instr.entry (Pz (U w.heap))).run dG S=.ok (dT #[.string (aZ nd.A),Pz X]) S:=ti;go_wp2_with fail;refine(aQ2 cM jr fN).h ?_;rintro r w3⟨rfl,rfl⟩;go_wp2_with fail;refine br (eH5 (ig nd.A) _ aE3 oY Z jE T ET) λw4 cT=>?_;have b4:=ai ay cT;cases T with
 |false=>
  obtain rfl:=ae HF rfl;go_wp2;go_ret;exact⟨rfl,b4⟩
 |true=>
  have kH:=ae HT rfl;have PQ:=xj.kept (kU cT dN) aj aj;go_wp2;go_roundw;exact⟨_,yt,PQ,kH,b4⟩
  case measure=>rw[PQ.left_eq,iH.left_eq];exact aH})
def Jk(nd:ar)(i:Int):Prop:=(nd.D≠0/\i=nd.D)\/i∈nd.y\/i∈nd.X
def jL.del{s:LI}(h:jL D s)(i:Int):jL (D.del (.U i)) (s.filter λj=>dD (j≠i)):=by
 intro o;by_cases e:o=.U i;{subst e;rw[Maps.has_del_same];simp};{rw[Maps.has_del_other e,h o];constructor;{rintro⟨j,m,rfl⟩;refine⟨j,?_,rfl⟩;rw[JZ];exact⟨m,by simpa using λq=>e (by rw[q])⟩};{rintro⟨j,m,rfl⟩;exact⟨j,(JZ.1 m).1,rfl⟩}}
def cf4:∀(key:dV)(kl:Lit),keyOf dG 27 key=kl->∃i:Int,key=.U i:=by
 intro key kl j;obtain⟨x,rfl,_⟩:=keyOf_int_inv underlying27 j;exact⟨x,rfl⟩
def vW.uniq{NB HB UB:iN}(h:vW w0 w bn ns NB HB UB){nd':ar}(y:ns[i]?=nd)(q:ns[j]?=nd')(Z:nd.A=nd'.A):nd=nd':=by
 let⟨D,_,N⟩:=h.own;let⟨g1,_,_,x,_,_⟩:=h.at y;let⟨g2,_,_,s,_,_⟩:=h.at q;have X:(di nd.A,g1)∈List.zipWith (λ(nd:ar)g=>(di nd.A,g)) ns NB:=by rw[jk];exact⟨i,by rw[qL,y,x]⟩
 have W:(di nd'.A,g2)∈List.zipWith (λ(nd:ar)g=>(di nd.A,g)) ns NB:=by rw[jk];exact⟨j,by rw[qL,q,s]⟩
 have V:=N.at' _ X .nil;have r:=N.at' _ W .nil;simp only[Z]at V;simp only at r;rw[V]at r;simp only[DataW.lit.injEq,L6,JQ,Int.natCast_inj]at r;subst r;have S:=(bg.1 x).1;have R:=(bg.1 s).1;have M:=Fq.1 h.jt;have E:=(bg.1 x).2;have B:=(bg.1 s).2;have:i=j:=by obtain m|m|m:=Mh i j;{exact absurd (E.Z B.C) (M i j S R m)};{exact m};{exact absurd (B.Z E.C) (M j i R S m)}
 subst this;rw[y]at q;cases q;rfl
theorem de6{SB NB HB UB:iN}(bj:O (Jg w0 w b bs bn e g x t ss ns SB NB HB UB))(nL:O (∀nd∈ns,aC nd.A/\J nd.y<=1048576/\J nd.X<=1048576))(uf:O (Bo ns))(em:Le ns m)(hm:Mg m)(en:Le ss n):dQ dG 120 #[Pz b] w λr w'=>∃nb k D s,r=dR (.map (Y nb))/\w'.ownsMap dG 27 unitElem nb k D/\jL D s/\(∀i,i∈s↔(∃nd∈ns,Jk nd i)/\¬∃z∈ss,z.1=i)/\Bw w w':=by
 have oI:I w (Ad b 5)=Y (.map bn):=cK bj.hd 5;have uR:I w (Ad b 4)=Y (.map bs):=cK bj.hd 4;have xm:b<U w.heap:=gy bj.hd;let⟨D,oD,mD⟩:=bj.jt.own;let⟨Ds,oS,mS⟩:=bj.yL.own;rw[ae em]at oD;rw[ae en]at oS;have MD:=ag mD;have MS:=ag mS;have OS:=ag oS;have HC4:=ag uR;have FO:=@am6 dG;have b1:Bw w (w.alloc (.map #[] 0)):=aD.alloc aA _;have fu4:=al oI b1;have oD1:=oD.alloc (.map #[] 0);go_in;go_wp2_with(first
  |(at_range;refine wpList_range_own _ rfl _ 179 rfl 9 _ ru underlying179 _ bn m _ rfl oD1 ?_;intro w1 xS qP zt)
  |go_in)
 go_frame
 have fw:U (w.alloc (.map #[] 0)).heap=U w.heap+1:=aj;have au:Bw w w1:=ai b1 (Zo qP);have o0:w1.ownsMap dG 27 (unitElem (H:=Unit)) (U w.heap) 0 (.map []):=(World.ownsMap_made w _ _ _).kept qP aj;rw[fw]at xS⊢;have HZ1:=ag fw
 go_loopw[5](λ_ wr=>∃(left:Lit->Bool)(gO k:Nat)(E:DataW Unit)(s:LI),wr.ranges dG 9 iF bn (U w.heap+1) m D left gO/\k+gO*2097153<=m*2097153/\wr.ownsMap dG 27 unitElem (U w.heap) k E/\O (jL E s/\∀i,i∈s↔∃nd∈ns,left (di nd.A)=dF/\Jk nd i)/\Bw w wr) (λ_ wr=>wr.rangeLeft bn (U w.heap+1))
 case atStart=>(
 refine⟨_,_,0,_,[],xS,?_,o0,⟨jL.nil,λi=>?_⟩,au⟩;{have:=oD.size_le;omega};{
 constructor;{intro h;cases h};{
 rintro⟨nd,aJ,hl,_⟩;exfalso;let⟨i,hi⟩:=wR aJ;let⟨N,R,u1,q1,q2,q3⟩:=bj.jt.at hi;have:Maps.has D (di nd.A):=(MD.hs _).2 ⟨(di nd.A,N),by rw[jk];refine⟨i,?_⟩;rw[qL,hi,q1],rfl⟩
 rw[this]at hl;cases hl}})
 case round=>(
 obtain⟨left,gO,k,E,s,iH,Yt,cX,zk,az⟩:=hrel;go_wp2_with(first
  |(at_next;refine Ta _ rfl _ rfl 9 ru (λs:ByteArray=>.string s) ap2 bn (U w.heap+1) m _ _ MD _ _ (by first|rfl|(rw[<-ae HZ1];rfl)) iH ?_ ?_)
  |go_in)
 {
 intro _ rC;have fo:O (∀i,i∈s↔∃nd∈ns,Jk nd i):=λi=>by rw[zk.2 i];constructor;{rintro⟨nd,R,_,S⟩;exact⟨nd,R,S⟩};{rintro⟨nd,R,S⟩;exact⟨nd,R,rC _,S⟩}
 have vP:=ag zk.1;have uR:=al HC4 az;have oS1:=OS.kept (kU az dN) aj;let⟨iY,eY⟩:=aG wr;subst eY;go_wp2_with(first
  |(at_range;refine wpList_range_own _ rfl _ 178 rfl 27 _ mr underlying178 _ bs n _ rfl oS1 ?_;intro w3 DU oF hs3)
  |go_in)
 go_frame
 have Uw:=cX.kept oF aj;have X:Bw w w3:=Bk az oF az.size (λj M=>by cases M);have iw:U w.heap<U iY.heap:=cX.lt
 go_loopw[6](λ_ wr=>∃(left:Lit->Bool)(gO:Nat)(E:DataW Unit)(s':LI),wr.ranges dG 27 iF bs (U iY.heap) n Ds left gO/\wr.ownsMap dG 27 unitElem (U w.heap) k E/\O (jL E s'/\∀i,i∈s'↔i∈s/\¬∃z∈ss,z.1=i/\left (.U i)=dF)/\Bw w wr) (λ_ wr=>wr.rangeLeft bs (U iY.heap))
 case atStart=>(
 refine⟨_,_,E,s,DU,Uw,⟨vP,λi=>?_⟩,X⟩;constructor;{
 intro hi;refine⟨hi,?_⟩;rintro⟨z,hz,rfl,hl⟩;let⟨j,M⟩:=wR hz;obtain⟨gz,Cr⟩:∃gz,SB[j]?=Y gz:=⟨_,bD (bj.yL.len▸(bg.1 M).1)⟩;have:Maps.has Ds (.U z.1):=(MS.hs _).2 ⟨(.U z.1,gz),by rw[jk];exact⟨j,by rw[qL,M,Cr]⟩,rfl⟩
 rw[this]at hl;cases hl};{exactλh=>h.1})
 case round=>(
 obtain⟨left,gO,E1,s',iH,Kg,zk,az⟩:=hrel;go_wp2_with(first
  |(at_next;refine Ta _ rfl _ rfl 27 mr (λi:Int=>.int .u64 i) cf4 bs (U iY.heap) n _ _ MS _ _ rfl iH ?_ ?_)
  |go_in)
 {intro _ rC;have HS:=ae zk;go_wp2;go_ret;refine⟨U w.heap,k,E1,s',rfl,Kg,HS.1,λi=>?_,az⟩;rw[HS.2 i,ae fo i];constructor;{rintro⟨R,S⟩;exact⟨R,λ⟨z,hz,e⟩=>S ⟨z,hz,e,rC _⟩⟩};{rintro⟨R,S⟩;exact⟨R,λ⟨z,hz,e,_⟩=>S ⟨z,hz,e⟩⟩}};{
 intro i0 pl N w4 yt fh hp Mv xj aH dw ar1 ti;let⟨j,z,Va,M,Iv,ee⟩:=yD hp;simp only[jy]at ee;obtain⟨rfl,rfl⟩:=ee;let⟨i1,e1,e2,XW⟩:=keyOf_int_inv underlying27 fh;simp only[aV8,JQ]at e1;simp only[L6,JQ]at e2;subst e1;subst e2;have W:Bw w w4:=Bk az dw az.size (λj M=>by cases M;omega);have Mu:=Kg.kept dw bq;have YE:(Instr.entry (Pz (U iY.heap))).run dG w4=.ok (dT #[.U z.1,Pz N]) w4:=ti;have Sh:O (jL (E1.del (.U z.1)) (s'.filter λj=>dD (j≠z.1))/\∀i,i∈(s'.filter λj=>dD (j≠z.1))↔i∈s/\¬∃y∈ss,y.1=i/\(λq=>left q&&!q.sameKey (.U z.1)) (.U i)=dF):=by
  refine⟨zk.1.del z.1,λi=>?_⟩;rw[JZ,zk.2 i];have hk:((Lit.U i).sameKey (.U z.1)=dY)↔i=z.1:=by rw[am5 (by trivial)];simp
  by_cases ei:i=z.1;{subst ei;simp only[ne_eq,aV1,an5,JT,and_false,false_iff];rintro⟨_,S⟩;exact S ⟨z,bu M,rfl,by simp[hk.2 rfl]⟩};{simp[ei,show(Lit.U i).sameKey (.U z.1)=dF by(rw[DH];exactλh=>ei (hk.1 h))]}
 go_wp2_with(first
  |(at_delete;refine wpList_delete_own _ rfl _ _ 158 27 rfl _ mr underlying158 unitElem (U w.heap) k _ rfl Mu _ _ rfl (keyOf_int_mk underlying27 XW) ?_;intro w5 Qa dP7;go_frame)
  |go_in)
 have l9:=dP7.grown;have cY:Bw w w5:=Bk W l9 W.size (λj M=>by cases M;exact eG _);have Z:=xj.kept l9 (by have:=OS.lt;simp;omega) bq;go_roundw;exact⟨_,yt,_,_,Z,Qa,Sh,cY⟩
 case measure=>rw[Z.left_eq,iH.left_eq];exact aH})}
 {
 intro sb pl N w2 yt fh hp Mv xj aH dw fo ti;let⟨i,nd,Va,hi,tg,ee⟩:=yD hp;simp only[jy]at ee;obtain⟨rfl,rfl⟩:=ee;have ay:Bw w w2:=Bk az dw az.size (λj M=>by cases M;omega);obtain rfl:=ce8 fh;have aJ:=bu hi;let⟨qe,xY,uh⟩:=ae nL nd aJ;let⟨g2,R,u1,q1,q2,q3⟩:=bj.jt.at hi;rw[tg]at q1;cases q1;let⟨_,_,_,⟨V,a4,_⟩,⟨Dh,oh,sh⟩,⟨Du,ou,su⟩⟩:=bj.jt.blk i nd N R u1 hi tg q2 q3;have MB:N<U w.heap:=gy a4;have k1:I w (Ad N 1)=Y (.U nd.D):=cK a4 1;have k3:I w (Ad N 3)=Y (.map R):=cK a4 3;have k6:I w (Ad N 6)=Y (.map u1):=cK a4 6;have SH:=ag sh;have SU:=ag su;have Qb:=cX.kept dw (by first|(simp;done)|(simp;omega));have YE:(Instr.entry (Pz (U w.heap+1))).run dG w2=.ok (dT #[.string (aZ nd.A),Pz N]) w2:=ti;have Jw:∀i:Int,((i∈s\/(nd.D≠0/\i=nd.D))\/i∈nd.y)\/i∈nd.X↔∃B∈ns,(λz=>left z&&!z.sameKey (di nd.A)) (di B.A)=dF/\Jk B i:=by intro i0;rw[zk.2 i0];constructor;{rintro(((⟨B,R,S,h3⟩|h)|h)|h);{exact⟨B,R,by simp[S],h3⟩};{exact⟨nd,aJ,by simp[XE qe qe],.L h⟩};{exact⟨nd,aJ,by simp[XE qe qe],.R (.L h)⟩};{exact⟨nd,aJ,by simp[XE qe qe],.R (.R h)⟩}};{rintro⟨B,R,S,h3⟩;by_cases ep:B.A=nd.A;{let⟨j,M⟩:=wR R;have:=bj.jt.uniq M hi ep;subst this;obtain h3|h3|h3:=h3;{exact .L (.L (.R h3))};{exact .L (.R h3)};{exact .R h3}};{refine .L (.L (.L ⟨B,R,?_,h3⟩));simpa[XE (ae nL B R).1 qe,ep]using S}}
 have hO:=ae uf nd aJ;by_cases ho:nd.D=0;{
 have d1:=(qU (ay.block N MB) (o:=1)).Z k1;have d3:=(qU (ay.block N MB) (o:=3)).Z k3;have d6:=(qU (ay.block N MB) (o:=6)).Z k6;rw[ho]at d1;have M3:∀i,i∈s↔i∈s\/(nd.D≠0/\i=nd.D):=λi=>by simp[ho]
 have S3:=ag zk.1;have X:=ay;have Uw:=Qb;have DU:=xj;let⟨w3,e3⟩:=aG w2;let⟨K3,eK⟩:=aG k;let⟨E3,eE⟩:=aG E;let⟨s3,eS⟩:=aG s;have D8:K3<=k+1:=af;subst e3 eK eE eS;go_wp2_with fail;refine(aA4 Uw (oh.kept (kU X dN) aj) S3 SH (aK oh.lt) af xY).h ?_;rintro r w4⟨E4,s4,rfl,Mu,bc4,be0,ly⟩;have W:Bw w w4:=Bk X ly X.size (λj M=>by cases M;exact eG _);have f6:=(qU (W.block N MB) (o:=6)).Z k6;have S4:=ag bc4;go_wp2_with fail;refine(aA4 Mu (ou.kept (kU W dN) aj) S4 SU (aK ou.lt) af uh).h ?_;rintro r w5⟨E5,s5,rfl,Qa,bc3,bd9,l9⟩;have cY:Bw w w5:=Bk W l9 W.size (λj M=>by cases M;exact eG _);have Z:=(DU.kept ly (by have:=oD.lt;simp;omega) (by first|(simp;done)|(simp;omega))).kept l9 (by have:=oD.lt;simp;omega) (by first|(simp;done)|(simp;omega));have Sh:O (jL E5 s5/\∀i,i∈s5↔∃B∈ns,(λz=>left z&&!z.sameKey (di nd.A)) (di B.A)=dF/\Jk B i):=⟨bc3,λi=>by rw[bd9,be0,M3,Jw]⟩
 go_wp2;go_roundw
 case rel=>first|exact⟨_,yt,Z,_,af,E5,Qa,s5,Sh,cY⟩|exact⟨_,yt,_,E5,s5,Z,af,Qa,Sh,cY⟩
 case measure=>rw[Z.left_eq,iH.left_eq];exact aH}
 {
 have xT:(nd.D != 0):=by simp[ho]
 have d1:=(qU (ay.block N MB) (o:=1)).Z k1;have dV1:keyOf dG 27 (.U nd.D)=Y (.U nd.D):=keyOf_int_mk underlying27 (Dx hO);have M3:∀i,i∈s++[nd.D]↔i∈s\/(nd.D≠0/\i=nd.D):=λi=>by simp[ho]
 have S3:=ag (zk.1.put cX.isMap nd.D (.agg []));go_wp2_with(first
  |(at_mapUpdate;refine wpList_mapUpdate_own _ rfl _ _ _ 158 rfl 27 _ mr underlying158 unitElem (U w.heap) k _ rfl Qb jC _ _ _ rfl rfl dV1 (.agg []) [] unitElem_mk ?_;intro w3 Uw cm7;have X:Below (U w.heap) w w3:=Bk ay cm7 ay.size (λj M=>by cases M;exact eG _);have d3:=(qU (X.block N MB) (o:=3)).Z k3;have d6:=(qU (X.block N MB) (o:=6)).Z k6)
  |fail)
 have DU:=xj.kept cm7 (by have:=oD.lt;simp;omega) (by first|(simp;done)|(simp;omega));let⟨K3,eK⟩:=aG (k+1);let⟨E3,eE⟩:=aG (E.put (.U nd.D) (.agg []));let⟨s3,eS⟩:=aG (s++[nd.D]);have D8:K3<=k+1:=af;rw[<-eK,<-eE]at Uw;rw[<-eE,<-eS]at S3;rw[<-eS]at M3;refine(aA4 Uw (oh.kept (kU X dN) aj) S3 SH (aK oh.lt) af xY).h ?_;rintro r w4⟨E4,s4,rfl,Mu,bc4,be0,ly⟩;have W:Bw w w4:=Bk X ly X.size (λj M=>by cases M;exact eG _);have f6:=(qU (W.block N MB) (o:=6)).Z k6;have S4:=ag bc4;go_wp2_with fail;refine(aA4 Mu (ou.kept (kU W dN) aj) S4 SU (aK ou.lt) af uh).h ?_;rintro r w5⟨E5,s5,rfl,Qa,bc3,bd9,l9⟩;have cY:Bw w w5:=Bk W l9 W.size (λj M=>by cases M;exact eG _);have Z:=(DU.kept ly (by have:=oD.lt;simp;omega) (by first|(simp;done)|(simp;omega))).kept l9 (by have:=oD.lt;simp;omega) (by first|(simp;done)|(simp;omega));have Sh:O (jL E5 s5/\∀i,i∈s5↔∃B∈ns,(λz=>left z&&!z.sameKey (di nd.A)) (di B.A)=dF/\Jk B i):=⟨bc3,λi=>by rw[bd9,be0,M3,Jw]⟩
 go_wp2;go_roundw
 case rel=>first|exact⟨_,yt,Z,_,af,E5,Qa,s5,Sh,cY⟩|exact⟨_,yt,_,E5,s5,Z,af,Qa,Sh,cY⟩
 case measure=>rw[Z.left_eq,iH.left_eq];exact aH}})
def dO0(ss:List aB)(ids:LI):qN ss ids=dY↔Nu ids/\∀i∈ids,live ss i:=by
 simp only[qN,Nu,uk,ky,vH,Ii,gL];constructor;{intro h;refine⟨λi j=>(h i j).2,λy m=>?_⟩;obtain⟨i,j,rfl⟩:=Mf m;have:=(h i j).1;rwa [im,bD j]at this};{rintro⟨q,o⟩i j;refine⟨o _ ?_,q i j⟩;rw[im,bD j];exact AJ j}
def I9{α:Type}(l:List α)(d:α)(f:α->Bool):(∀i,i<J l->f (l.getD i d)=dY)↔∀y∈l,f y:=by
 constructor;{intro h y m;obtain⟨i,j,rfl⟩:=Mf m;have:=h i j;rwa [im,bD j]at this};{intro h i j;rw[im,bD j];exact h _ (AJ j)}
def dk9(x:Int)(ss:List aB):(List.range (J ss)).all (wC x ss)=dY↔BO x ss:=by
 simp only[BO,uk,ky,vH,wC,Fb,gL];constructor;{intro h;exact⟨λi j=>⟨(h i j).1,(h i j).2.1,(h i j).2.2.2⟩,λi j=>(h i j).2.2.1⟩};{rintro⟨m,o⟩i j;exact⟨(m i j).1,(m i j).2.1,o i j,(m i j).2.2⟩}
def dA1(e g:Int)(ss:List aB)(ns:List ar):(List.range (J ns)).all (uy e g ss ns)=dY↔AF e g ns/\ns.all (λnd=>nQ ns (ig nd.A))/\∀nd∈ns,∀i,Jk nd i->live ss i:=by
 have key:∀k,uy e g ss ns k=dY↔(xJ e g (ns.getD k jh)/\(k==0||!leB (ns.getD k jh).A (ns.getD (k-1) jh).A))/\nQ ns (ig (ns.getD k jh).A)/\(λnd=>dD (nd.D=0)||live ss nd.D) (ns.getD k jh)/\(λnd:ar=>nd.y.all (live ss)) (ns.getD k jh)/\(λnd:ar=>nd.X.all (live ss)) (ns.getD k jh):=by
  intro k;simp only[uy,xJ,gL,dO0,ky];have:((ns.getD k jh).D==0||live ss (ns.getD k jh).D)=(dD ((ns.getD k jh).D=0)||live ss (ns.getD k jh).D):=by congr 1
  rw[this];constructor;{rintro⟨⟨V,S⟩,R,N,M,⟨E,D⟩,⟨B,y⟩,W⟩;exact⟨⟨⟨V,N,W,E,B⟩,S⟩,R,M,D,y⟩};{rintro⟨⟨⟨V,N,W,E,B⟩,S⟩,R,M,D,y⟩;exact⟨⟨V,S⟩,R,N,M,⟨E,D⟩,⟨B,y⟩,W⟩}
 simp only[AF,uk,ky,vH,gL,key];rw[<-I9 ns jh];constructor;{intro h;refine⟨⟨λi m=>(h i m).1.1,λi m=>(h i m).1.2⟩,λi m=>(h i m).2.1,?_⟩;have x:=(I9 ns jh (λnd=>dD (nd.D=0)||live ss nd.D)).1 (λi m=>(h i m).2.2.1);have r:=(I9 ns jh (λnd:ar=>nd.y.all (live ss))).1 (λi m=>ky.2 (h i m).2.2.2.1);have X:=(I9 ns jh (λnd:ar=>nd.X.all (live ss))).1 (λi m=>ky.2 (h i m).2.2.2.2);rintro nd o i(⟨q,rfl⟩|q|q);{have:=x nd o;simpa[q]using this};{exact ky.1 (r nd o) i q};{exact ky.1 (X nd o) i q}};{rintro⟨⟨q,Z⟩,x,r⟩i m;refine⟨⟨q i m,Z i m⟩,x i m,?_,?_,?_⟩;{refine(I9 ns jh (λnd=>dD (nd.D=0)||live ss nd.D)).2 (λnd o=>?_) i m;by_cases s:nd.D=0;{simp[s]};{simp[s,r nd o nd.D (.L ⟨s,rfl⟩)]}};{exact ky.1 ((I9 ns jh (λnd:ar=>nd.y.all (live ss))).2 (λnd o=>ky.2 λj u=>r nd o j (.R (.L u))) i m)};{exact ky.1 ((I9 ns jh (λnd:ar=>nd.X.all (live ss))).2 (λnd o=>ky.2 λj u=>r nd o j (.R (.R u))) i m)}}
def aM1(e g x t:Int)(ss:List aB)(ns:List ar):lr e g x t ss ns=dY↔Mm e g x t (J ss) (J ns)/\BO x ss/\AF e g ns/\ns.all (λnd=>nQ ns (ig nd.A))/\∀nd∈ns,∀i,Jk nd i->live ss i:=by
 rw[lr,gL,gL,dk9,dA1];exact Iff.rfl
def aX4{i:Int}:live ss i=dY↔∃z∈ss,z.1=i:=by
 rw[live,Ui];simp
theorem aB7:∀a:List UInt8,Op.bytesLess a a=dF
 |[]=>rfl
 |x::a=>by simp[Op.bytesLess,aB7 a,aW0]
theorem aB6:∀{a b c:List UInt8},Op.bytesLess a b->Op.bytesLess b c->Op.bytesLess a c=dY
 |_,[],_,h,_=>by simp[Op.bytesLess]at h
 |_,_::_,[],_,h=>by simp[Op.bytesLess]at h
 |[],_::_,_::_,_,_=>rfl
 |x::a,y::b,z::c,h,k=>by simp only[Op.bytesLess,Ug,jX,gL,Fo]at h k⊢;obtain h|⟨rfl,h⟩:=h;{obtain k|⟨rfl,k⟩:=k;{exact .L (UInt8.lt_trans h k)};{exact .L h}};{obtain k|⟨rfl,k⟩:=k;{exact .L k};{exact .R ⟨rfl,aB6 h k⟩}}
theorem cG9:∀{a b:List UInt8},Op.bytesLess a b=dF->a≠b->Op.bytesLess b a=dY
 |[],[],_,h=>absurd rfl h
 |[],_::_,h,_=>by simp[Op.bytesLess]at h
 |_::_,[],_,_=>rfl
 |x::a,y::b,h,aN=>by simp only[Op.bytesLess,Bool.or_eq_false_iff,JW]at h;simp only[Op.bytesLess,Ug,jX,gL,Fo];by_cases i:x=y;{subst i;right;refine⟨rfl,cG9 ?_ (λe=>aN (by rw[e]))⟩;simpa using h.2};{exact .L (UInt8.lt_of_le_of_ne (aV9.1 h.1) (Fw i))}
theorem Z9{m:Nat->Nat->Bool}(h:uk n m)(r:∀i j k,m i j->m j k->m i k):∀(j i:Nat),j<n->i<j->m i j:=by
 have q:∀j,j+1<n->m j (j+1):=λj o=>by have:=ky.1 h (j+1) (vH.2 o);simpa using this
 intro j
 induction j with
 |zero=>intro i _ s;omega
 |succ j ih=>
  intro i o s;by_cases e:i=j;{subst e;exact q i o};{exact r i j (j+1) (ih i af af) (q j o)}
def bP6(h:BO x ss):∀(i j:Nat)(s m:aB),ss[i]?=s->ss[j]?=m->i<j->s.1≠m.1:=by
 intro i j s m r o q;rw[BO,gL]at h;have:=Z9 h.2 (λi j k y u=>by simp at y u⊢;omega) j i (bg.1 o).1 q;simp only[im,r,o,rJ,jX]at this;omega
def JO{m:LI}:(!leB l m)=dY↔Op.bytesLess (aZ m).toList (aZ l).toList:=by
 simp only[leB,Bool.not_eq_true',Bool.or_eq_false_iff,an4];constructor;{rintro⟨j,i⟩;exact cG9 j i};{intro h;refine⟨?_,λe=>?_⟩;{rw[DH];intro i;have:=aB6 h i;rw[aB7]at this;cases this};{rw[e,aB7]at h;cases h}}
def bX8(h:AF e g ns):∀(i j:Nat)(z m:ar),ns[i]?=z->ns[j]?=m->i<j->z.A≠m.A:=by
 intro i j z m r o q;rw[AF,gL]at h;have:=Z9 h.2 (λi j k u s=>JO.2 (aB6 (JO.1 u) (JO.1 s))) j i (bg.1 o).1 q;simp only[im,r,o,rJ]at this;intro e;rw[e,JO,aB7]at this;cases this
def aN5(h:BO x ss)(o:x<=2^62):∀s∈ss,0<=s.1/\s.1<2^64:=by
 rw[BO,gL,ky]at h;have H:=(I9 ss (0,0,[]) (Fb x)).1 λi m=>h.1 i (vH.2 m);intro s j;have:=H s j;simp only[Fb,gL,jX]at this;omega
theorem ap6(en:Le ss n)(em:Le ns m)(h:kV w (.S p n c) ss)(R:gJ w (.S q m d) ns)(hn:Mg n)(hm:Mg m)(gM:O (Bs ss))(M:O (Bn ns))(og:O (Bu ns))(uf:O (Bo ns))(pO:ML w)(eB:O (lr e g x t ss ns=B)):dQ dG 60 #[bS e g x t (.S p n c) (.S q m d)] w (Rb (.bool B) w):=by
 have N:=ag λ(w':G)(hb:Bw w w')=>aF (h.H hb) (aF (R.H hb) (pO.H hb));have V:O (B=dY↔Mm e g x t n m/\BO x ss/\AF e g ns/\ns.all (λj=>nQ ns (ig j.A))/\∀j∈ns,∀i,Jk j i->live ss i):=by show _↔_;rw[<-ae eB,aM1,ae en,ae em]
 obtain⟨T1,E1⟩:∃T,O (Mm e g x t n m=T):=⟨_,cM⟩;obtain⟨T2,X⟩:∃T,O (BO x ss=T):=⟨_,cM⟩;obtain⟨T3,E3⟩:∃T,O (AF e g ns=T):=⟨_,cM⟩;obtain⟨T4,E4⟩:∃T,O (ns.all (λj=>nQ ns (ig j.A))=T):=⟨_,cM⟩;let⟨W,hW⟩:=aG (w.alloc (dO #[.U e,.U g,.U x,.I t,.S p n c,.S q m d] 41));have bW:=gF hW;have jH:fK W (U w.heap) e g x t (.S p n c) (.S q m d):=by rw[hW];simp[fK]
 have BI:=ag jH;go_in;go_wp2_with fail;rw[<-hW];refine br (dF1 hn hm E1) λw1 au=>?_;have b1:=ai bW au;cases T1 with
 |false=>
  obtain rfl:B=dF:=by rw[DH];intro o;have:=(V.1 o).1;rw[ae E1]at this;cases this
  go_wp2;go_ret;exact⟨rfl,b1⟩
 | true=>
  let⟨i0,i1,i2,i3,i4,Z⟩:=BI.H au;go_wp2_with fail;refine br (cY7 en (ae N _ b1).1 hn gM (ae N _ b1).2.2 X) λw2 y=>?_;have b2:=ai b1 y;cases T2 with
  |false=>
   obtain rfl:B=dF:=by rw[DH];intro o;have:=(V.1 o).2.1;rw[ae X]at this;cases this
   go_wp2;go_ret;exact⟨rfl,b2⟩
  | true=>
   replace i0:=al i0 y;replace i1:=al i1 y;replace i2:=al i2 y;replace i3:=al i3 y;replace i4:=al i4 y;replace Z:=al Z y;go_wp2_with fail;refine br (cY8 em (ae N _ b2).2.1 hm M (ae N _ b2).2.2 E3) λw3 E=>?_;have b3:=ai b2 E;cases T3 with
   |false=>
    obtain rfl:B=dF:=by rw[DH];intro o;have:=(V.1 o).2.2.1;rw[ae E3]at this;cases this
    go_wp2;go_ret;exact⟨rfl,b3⟩
   | true=>
    replace i0:=al i0 E;replace i1:=al i1 E;replace i2:=al i2 E;replace i3:=al i3 E;replace i4:=al i4 E;replace Z:=al Z E;have hx:x<=2^62:=by have:=ae E1;simp only[Mm,jX]at this;exact this.2.2.1
    have H1:=ag (aN5 X hx);have H2:=ag (bP6 X);have H3:=ag (bX8 E3);go_wp2_with fail;refine(Ws en em (ae N _ b3).1 (ae N _ b3).2.1 hn hm H1 H2 M og H3).h ?_;rintro r w4⟨b,bs,bn,SB,NB,HB,UB,rfl,bj,cT⟩;have b4:=ai b3 cT;have iM:=ag bj;go_wp2_with fail;refine br (eb8 iM (λj u=>⟨(ae M j u).1,(ae M j u).2.1⟩) E4) λw5 cY=>?_;have b5:=ai b4 cY;cases T4 with
    |false=>
     obtain rfl:B=dF:=by rw[DH];intro o;have:=(V.1 o).2.2.2.1;rw[ae E4]at this;cases this
     go_wp2;go_ret;exact⟨rfl,b5⟩
    |true=>
     have eX3:=ag (iM.H cY);go_wp2_with fail;refine(de6 eX3 (λj u=>⟨(ae M j u).1,(ae M j u).2.2.2⟩) uf em hm en).h ?_;rintro r w6⟨nb,k,D,s,rfl,oD,sD,hs,gr⟩;have b6:=ai b5 gr;have hlen:∀ty,(Builtin.len_ #[158] ty #[.map nb]).run dG w6=.ok (.I (Maps.size D)) w6:=λty=>oD.len underlying158 ty;have fQ:Maps.size D=0↔s=[]:=sD.dj7 oD.isMap (λes ee p hp=>by let⟨IS,e',_,hk⟩:=oD.entries mr;rw[ee]at e';cases e';exact hk p hp)
     have o:B=dY↔s=[]:=by rw[ae V];constructor;{rintro⟨_,_,_,_,h5⟩;apply List.eq_nil_iff_forall_not_mem.2;intro i hi;let⟨⟨j,u,R⟩,ij⟩:=(hs i).1 hi;exact ij ((aX4).1 (h5 j u i R))};{intro zt;refine⟨E1,X,E3,E4,λj u i R=>?_⟩;rw[aX4];by_cases hh:∃z∈ss,z.1=i;{exact hh};{have:=(hs i).2 ⟨⟨j,u,R⟩,hh⟩;rw[zt]at this;cases this}}
     have hb:((Maps.size D:Int)==0)=B:=by rw[Po,o,<-fQ];simp
     go_wp2;go_ret;exact⟨rfl,b6⟩
def ng(s:aB):aB:=(s.1,0,[])
def pG(nd:ar):ar:={nd with X:=[]}
def aQ6{R:dV->Option (DataW Unit×List MemPlace)}(h:w.ownsMap dG k R b n D)(K:∀es c,w.heap[b]?=Y (.map es c)->w'.heap[b]?=Y (.map es c)):w'.ownsMap dG k R b n D:=by
 obtain⟨es,i,m,j⟩:=h;exact⟨es,i,K _ _ m,j⟩
def bU0{R:dV->Option (DataW Unit×List MemPlace)}{r:Nat}(h:w.ranges P k R b r n D left gO)(B:w'.heap[b]?=w.heap[b]?)(y:w'.heap[r]?=w.heap[r]?):w'.ranges P k R b r n D left gO:=by
 obtain⟨es,j,i,m,E,u,F,q,x,s,o⟩:=h;exact⟨es,j,i,m,E,B.Z u,F,q,x,y.Z s,o⟩
variable {l:iN}
def dz5(h:l.Nodup){a:Nat}(y:l[i]?=a)(x:l[j]?=a):i=j:=by
 have u:=(bg.1 y).1;have s:=(bg.1 x).1;have r:=Fq.1 h;have q:=(bg.1 y).2;have o:=(bg.1 x).2;obtain m|m|m:=Mh i j;{exact absurd (q.Z o.C) (r i j u s m)};{exact m};{exact absurd (o.Z q.C) (r j i s u m)}
def Ay(f:aB->aB)(left:Lit->Bool)(ss:List aB):List aB:=ss.map λs=>if left (.U s.1)then s else f s
def da1(h:∀s∈ss,left (.U s.1)):Ay f left ss=ss:=by
 unfold Ay;rw[Px (g:=id) (λs hs=>by rw[aM (h s hs)];rfl),aW9]
def da2(h:∀k,left k=dF):Ay f left ss=ss.map f:=by
 unfold Ay;exact Px λs _=>by rw[aL (by rw[h];simp)]
variable {s:aB}
def da3(hs:ss[i]?=s)(u:left (.U s.1)):(Ay f left ss)[i]?=s:=by
 unfold Ay;rw[qn,hs,Hx,aM u]
theorem da0(hd:∀(i j:Nat)(s s':aB),ss[i]?=s->ss[j]?=s'->i<j->s.1≠s'.1)(hs:ss[i]?=s):(Ay f left ss).set i (f s)=Ay f (λz=>left z&&!z.sameKey (.U s.1)) ss:=by
 have rE:=(bg.1 hs).1;refine Uk λj=>?_;rw[uE];unfold Ay;by_cases ej:i=j;{subst ej;have u:(Lit.U s.1).sameKey (.U s.1):=am7 (by trivial);rw[aM rfl,aM (by simpa using rE),qn,hs,Hx,aL (by simp[u])]};{
 simp only[ej,yT];rw[qn,qn];cases hj:ss[j]? with
 |none=>rfl
 | some s'=>
  have x:s'.1≠s.1:=by obtain hh|hh|hh:=Mh i j;{exactλe=>hd i j s s' hs hj hh e.C};{exact absurd hh ej};{exact hd j i s' s hj hs hh}
  have:(Lit.U s'.1).sameKey (.U s.1)=dF:=by
   cases hq:(Lit.U s'.1).sameKey (.U s.1)with
   |false=>rfl
   |true=>rw[am5 (by trivial)]at hq;simp at hq;exact absurd hq x
  simp[this]}
def bQ8{m q et:TypeId}{R:dV->Option (DataW Unit×List MemPlace)}(hm:P.underlying m=Y (.map q et))(h:w.ownsMap P k R b n D)(ty:TypeId):∃v w',(Builtin.clear_ #[m] ty #[.map b]).run P w=.ok v w'/\w'.ownsMap P k R b 0 (.map [])/\w.grownBy w' b/\U w'.heap=U w.heap:=by
 obtain⟨es,j,o,F,x,y⟩:=h;have s:∃v,(Builtin.clear_ #[m] ty #[.map b]).run P w=.ok v {w with heap:=w.heap.setIfInBounds b (.map #[] j)}:=by simp[Builtin.clear_,aU2 hm,MapKept.run_getObj_map o,MapKept.run_setObj_map _ o,Result.andThen]
 obtain⟨v,r⟩:=s;refine⟨v,_,r,?_,⟨rfl,rfl,rfl,aj,λi _ u=>(MapKept.heap_set o).2 i (λe=>u (by rw[e]))⟩,aj⟩;exact⟨#[],j,(MapKept.heap_set o).1,⟨aj,MapKept.stamped_empty _,aj⟩,eG _,rfl⟩
end Go.Proofs.YtdloolggnjjfoaaGreatDoor
