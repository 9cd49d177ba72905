import Derived.Test.YthlkmijffhhimaaGreatDoorK6
import Derived.Test.YthlkmijffhhimaaGreatDoorK5
import Derived.Lib.LastIndexByte
import Derived.Laws.IdiomRangeMap
import Derived.Lib.ConvBytes
open Array renaming setIfInBounds->jI,size->U
open Bool renaming false->dF,true->dY
open Decidable renaming decide->dD
open Go renaming undef->jQ,Calls->dQ,Value->dV,World->G
open Go.Ending renaming returned->dR
open Go.IntKind renaming u64->jU,i64->jV,wrap->jY
open Go.Obj renaming cells->dO
open Go.Proofs.Tryz renaming prog->dG
open Go.Region renaming wanted->jW
open Go.RowKit renaming Hid->O
open Go.Value renaming ownBlock->jB,slice->jC,string->jJ,int->jK,bool->jO,agg->jP,I->dI,T->dK,pointer->dP,S->dS,tuple->dT,U->dU
open Go.World renaming alloc->jA,frozen?->jF,grownBy->jG,heap->Q,ownsMap->jM,setCell->jS,cell?->I
open Int renaming toNat->jN
open List renaming drop->jD,getD->jE,flatten->jL,range->jR,take->jT,zipWith->jZ,length->J
open Option renaming none->dN,some->Y
namespace Go.Proofs.YthlkmijffhhimaaGreatDoor
set_option maxHeartbeats 40000000
set_option linter.all false
set_option maxRecDepth 100000
open Go.ChangeShapes Go.WideShapes Go.ChangeAt Go.RowKit Go.Proofs.Tryz
variable {w u X w' w0 w1 w2:G}{o ob:Obj}{M b N iG n m c d B bs j g bn i sb hh gy z gb F:Nat}{t k ty:TypeId}{v v0 v1 v2 v3 v4 r V S v' Pv:dV}{y lo hi e ow mo ep ge iI:Int}{l0 l ids xs:LI}{se pa sq:Bool}{p q:OA}{row:Option Nat}{Dd Ds D D1 D2:DataW Unit}{s:ByteArray}{P:Program}{cs:iA}{ss:List aB}{SB:iN}{ns:List au}{nd:au}{x:Operand}{ops:iQ}{a:Act}{K:Act->G->Prop}{E:Prop}{kl:Lit}{ps:List MemPlace}{A A2:List Lf}{ks:List (List UInt8)}{vs:List dV}{left:Lit->Bool}{f:aB->aB}{es q':List Ev}{L:List Lit}{ls:List (List dV)}{ev:Ev}{rs:List R1}{o5:Option LI}
theorem IS(h:Below (U (Q w)) w u):Below (U (Q w)) w (jA u o):=h.alloc h.size o
theorem dh8{v:Nat}(o:v<2^64)(m:O (J (vi v)=M)):Cp 130 #[jK jU v] w λe w'=>∃i j,e=dR (jC i M j)/\Own (U (Q w)) w' (jC i M j) (vi v)/\Below (U (Q w)) w w':=by
 cases ae m;exact Va o
theorem cN1{x:dV}(h:b=U (Q u)):I (jA u (dO #[x] t)) (Ad b 0)=x:=by subst h;simp
theorem cN0{o:Nat}(h:I u (Ad b o)=v):I (u.alloc ob) (Ad b o)=v:=aq h cY
theorem cM9{o:Nat}(h:I u (Ad b o)=v):I u.drew (Ad b o)=v:=h
theorem rd1(h:I u (Ad b 0)=Y (jK .u8 y)):Rd u (jC (Ad b 0) 1 1) [y]:=by
 refine⟨_,_,rfl,.R ⟨b,0,rfl,λi j=>?_⟩⟩;cases(by simpa using j:i=0);simpa using h
theorem dT2{l1 s r q lm:LI}(e:O (lm=cat [l0,l1,s,r,q]))(S:Le lm N)(D:Rd X v0 l0)(B:Rd X v1 l1)(y:Rd X v2 s)(x:Rd X v3 r)(u:Rd X v4 q)(E:N<=2^22)(R:iG=U (Q X)):Cp 129 #[jC (Ad iG 0) 5 5] (jA X (dO #[v0,v1,v2,v3,v4] 22)) λe w'=>∃j m,e=dR (jC j N m)/\Own (U (Q X)) w' (jC j N m) lm/\Below (U (Q X)) X w':=by
 subst R;have i:Bw X (jA X (dO #[v0,v1,v2,v3,v4] 22)):=cY;refine(Gt [l0,l1,s,r,q] 5 rfl e S (cd1 al al al al al (D.H i) (B.H i) (y.H i) (x.H i) (u.H i)) E af).h ?_;rintro e w'⟨j,m,rfl,o,M⟩;exact⟨j,m,rfl,Own.h o al,aj i M⟩
theorem ex2{i:G}(o:Below (U (Q X)) X i)(m:Own (U (Q X)) i v l)(j:Below (U (Q w)) w X):Own (U (Q w)) i v l/\Below (U (Q w)) w i:=⟨Own.h m j.size,aj j o⟩
def qd(k s:Nat)(P:LI)(f:Nat)(V:LI):LI:=[(k:Int)]++(vi s++(tx P++([(f:Int)]++tx V)))
theorem bh4(k:Nat)(kh:1<=k)(oR:k<=13){vs:Int}(s f:Nat)(hs:s<2^64)(hf:f<=2){g:Int}(P V:LI)(ep:Le P n)(ev:Le V m)(hp:Rd w (jC p n c) P)(hv:Rd w (jC q m d) V)(hn:Mg n)(hm:Mg m)(hT:KE w 0 (k*7) se pa lo hi vs sq dY)(eB:O (Fc se pa lo hi vs sq s f n m e g))(eN:O (J (qd k s P f V)=N)):dQ dG 138 #[mG k s (jC p n c) f (jC q m d) e g] w λr w'=>∃S c',r=dR (jC S N c')/\Own (U (Q w)) w' (jC S N c') (qd k s P f V)/\Below (U (Q w)) w w':=by
 have h3:(k:Int)<14:=af;have h5:=gS 0 k;have wk:IntKind.u8.wrap (k:Int)=(k:Int):=by rw[LK];omega
 have wf:IntKind.u8.wrap (f:Int)=(f:Int):=by rw[LK];omega
 have HP:=ai λ(w':G)(hb:Bw w w')=>hp.H hb;have HV:=ai λ(w':G)(hb:Bw w w')=>hv.H hb;clear hp hv;go_in
 go_wp21
 let⟨W,u⟩:=aF (jA w (dO #[jK jV k,jK jU s,jC p n c,jK jV f,jC q m d,jK jU e,jK jU g] 54));have B:=ir u;have hA:iR W (U (Q w)) (jK jV k) (jK jU s) (jC p n c) (jK jV f) (jC q m d) (jK jU e) (jK jU g):=by rw[u];simp[iR,go_sem]
 have zW:U (Q w)<U (Q W):=by rw[u];simp
 have R:=hT.H B;rw[<-u];clear u hT;refine cL (aN3 kh oR R eB) λw1 i=>?_;have x:=hA.H i;have Mq:=R.H i;have E:=aj B i;have z1:=i.size;clear hA R B i;obtain⟨a0,a1,a2,a3,a4,a5,a6⟩:=x;have t0:=Mq;obtain⟨M,eM⟩:∃M,O (J (vi s)=M):=⟨_,rfl⟩;obtain⟨N1,GO⟩:∃M,O (J (tx P)=M):=⟨_,rfl⟩;obtain⟨N2,MJ⟩:∃M,O (J (tx V)=M):=⟨_,rfl⟩;have x:iR w1 (U (Q w)) (jK jV k) (jK jU s) (jC p n c) (jK jV f) (jC q m d) (jK jU e) (jK jU g):=⟨a0,a1,a2,a3,a4,a5,a6⟩;have EE:O (qd k s P f V=cat [[(k:Int)],vi s,tx P,[(f:Int)],tx V]):=by show _=_;rw[eQ6];rfl
 have hNb:N<=2^22:=by have h1:=qK s;have h2:=Jp P;have h3:=Jp V;have h4:=ae eN;rw[qd]at h4;simp only[fe,mO,BJ]at h4;rw[ae ep]at h2;rw[ae ev]at h3;omega
 go_wp21
 clear a0 a1 a2 a3 a4 a5 a6 t0
 go_region_held3 (λw'=>iR w' (U (Q w)) (jK jV k) (jK jU s) (jC p n c) (jK jV f) (jC q m d) (jK jU e) (jK jU g)) (exact iR.H x (by repeat(first|with_reducible exact bD _ _|with_reducible refine IS ?_|with_reducible refine Rp ?_|with_reducible refine aj ?_ y|with_reducible refine aj ?_ j|with_reducible refine aj ?_ o|with_reducible refine aj ?_ i)))
  (first
   |(go_at_call 130;with_reducible refine(dh8 hs eM).h ?_;rintro r x1⟨pv,cv,rfl,X,i⟩)
   |(go_at_call 196;with_reducible refine(ap2 (p:=p) (c:=c) ep (by exact ae HP _ (by repeat(first|with_reducible exact E|with_reducible refine IS ?_|with_reducible refine Rp ?_|with_reducible refine aj ?_ j|with_reducible refine aj ?_ o|with_reducible refine aj ?_ i))) hn GO).h ?_;rintro r x2⟨pt,ct,rfl,ot,o⟩)
   |(go_at_call 196;with_reducible refine(ap2 (p:=q) (c:=d) ev (by exact ae HV _ (by repeat(first|with_reducible exact E|with_reducible refine IS ?_|with_reducible refine Rp ?_|with_reducible refine aj ?_ j|with_reducible refine aj ?_ o|with_reducible refine aj ?_ i))) hm MJ).h ?_;rintro r x3⟨pu,cu,rfl,Z,j⟩)
   |(go_at_call 129;with_reducible refine(dT2 EE eN (by exact rd1 (by repeat(first|with_reducible exact cN1 al|with_reducible refine cN0 ?_|with_reducible refine cM9 ?_|with_reducible refine aq ?_ j|with_reducible refine aq ?_ o|with_reducible refine aq ?_ i))) (by exact Rd.H X.rd (by repeat(first|with_reducible exact bD _ _|with_reducible refine IS ?_|with_reducible refine Rp ?_|with_reducible refine aj ?_ j|with_reducible refine aj ?_ o))) (by exact Rd.H ot.rd (by repeat(first|with_reducible exact bD _ _|with_reducible refine IS ?_|with_reducible refine Rp ?_|with_reducible refine aj ?_ j|with_reducible refine aj ?_ o))) (by exact rd1 (by repeat(first|with_reducible exact cN1 al|with_reducible refine cN0 ?_|with_reducible refine cM9 ?_|with_reducible refine aq ?_ j|with_reducible refine aq ?_ o|with_reducible refine aq ?_ i))) (by exact Rd.H Z.rd (by repeat(first|with_reducible exact bD _ _|with_reducible refine IS ?_|with_reducible refine Rp ?_|with_reducible refine aj ?_ j|with_reducible refine aj ?_ o))) af al).h ?_;rintro r x4⟨pj,cj,rfl,oj,y⟩))
 all_goals(
  have xi:=ex2 (w:=w) y oj (by repeat(first|with_reducible exact E|with_reducible refine IS ?_|with_reducible refine Rp ?_|with_reducible refine aj ?_ j|with_reducible refine aj ?_ o|with_reducible refine aj ?_ i));clear y oj i o j X ot Z;go_wp2;go_ret;exact⟨pj,cj,rfl,xi⟩)
open Go.Maps
theorem oO:Keyed dG 27:=int_keyed underlying27
theorem uM:Keyed dG 9:=string_keyed underlying9
theorem FR{i:Int}(h:0<=i/\i<2^64):(Lit.U i).wf:=by
 simp only[Lit.wf,IntKind.min,IntKind.max,IntKind.signed,IntKind.bits,gP];simp;omega
theorem mZ(h:Bw w w')(row:Option Nat):jG w w' row:=⟨h.os,h.tape,h.output,h.size,λi j _=>h.block i j⟩
theorem DS(h:Below B w0 w)(i:jG w w' row)(o:B<=U (Q w))(hr:∀j,row=Y j->B<=j):Below B w0 w':=
 ⟨i.os.Z h.os,i.tape.Z h.tape,i.output.Z h.output,gq h.size i.size,λk m=>(i.block k (mH m o) (λe=>aM (hr k e.C))).Z (h.block k m)⟩
theorem bX0(en:Le ids n)(h:kI w (.S p n c) ids)(hn:Mg n)(hU:O (∀i∈ids,0<=i/\i<2^64)):dQ dG 141 #[.S p n c] w λr w'=>∃D,r=dR (.map (U (Q w)))/\jM w' dG 27 unitElem (U (Q w)) n D/\lX D ids/\Bw w w'/\U (Q w)<U (Q w'):=by
 have Ik:=@au6 dG;go_in;go_wp2
 go_loopw[9](λW wr=>∃(k:Nat)(D:DataW Unit),k<=n/\W=.I k/\jM wr dG 27 unitElem (U (Q w)) k D/\O (lX D (jT k ids))/\Bw w wr) (pT n)
 exact⟨0,_,de _,rfl,World.ownsMap_made _ _ _ _,lX.nil,cY⟩;{
 obtain⟨k,D,hk,rfl,m,E,B⟩:=hrel;by_cases aH:k<n;{
 have dm:=cM k n;have fg:k<J ids:=ae en▸aH;obtain⟨b,o,rfl,V⟩:∃b o,p=(Ad b o)/\I wr (Ad b (o+k))=Y (.U (jE ids k 0)):=by let⟨p',c',ev,Z⟩:=ae (ai λ(w':G)(hb:Bw w w')=>h.H hb) _ B;obtain⟨rfl,-,-⟩:=mh ev;obtain h0|⟨b,o,h1,h2⟩:=Z;{exact yy};{exact⟨b,o,h1,h2 k fg⟩}
 have e1:jT (k+1) ids=jT k ids++[jE ids k 0]:=by rw[rD,ko,bN fg];rfl
 have N:=ae hU (jE ids k 0) (by rw[ko,bN fg];exact De fg);have s:=E.put m.isMap (jE ids k 0) (.agg []);rw[<-e1]at s;have M:=ai s;let⟨y,ey⟩:=bu (jE ids k 0);rw[ey]at V N M;go_wp2_with(first
  |(at_mapUpdate;refine wpList_mapUpdate_own _ rfl _ _ _ 166 rfl 27 _ oO underlying166 unitElem (U (Q w)) k _ rfl m kW _ _ _ rfl rfl (keyOf_int_mk underlying27 (FR N)) (.agg []) [] unitElem_mk ?_;intro w1 Mf x)
  |go_in)
 go_roundw;exact⟨k+1,_,af,by go_num,Mf,M,DS B x (av3 (Nat.lt_of_le_of_lt aU m.lt)) (λj X=>by cases X;exact fS _)⟩;exact dy};{
 have dm:=ga k n;have:k=n:=by omega
 subst this;have R:=ae E;rw[nZ (ae en▸fS _)]at R;go_wp2;go_ret;exact⟨rfl,D,m,R,B,m.lt⟩}}
theorem aF4{m nd ns:Nat}{o ss:LI}(B:jM w dG 27 unitElem m nd Dd)(X:jM w dG 27 unitElem bs ns Ds)(ZP:O (lX Dd o))(Ou:O (lX Ds ss))(aP:m≠bs)(hn:nd<=2^62)(hm:ns<=2^20):dQ dG 189 #[.map m,.map bs] w λr w'=>∃D s,r=dR (dT #[])/\jM w' dG 27 unitElem m (nd+ns) D/\lX D s/\(∀i,i∈s↔i∈o\/i∈ss)/\jG w w' m:=by
 go_in;go_wp2_with(first
  |(at_range;refine wpList_range_own _ rfl _ 166 rfl 27 _ oO underlying166 _ bs ns _ rfl X ?_;intro w0 Ap S Cb)
  |go_in)
 go_frame
 go_loopw[4](λ_ wr=>∃(left:Lit->Bool)(E k:Nat)(D:DataW Unit)(s:LI),wr.ranges dG 27 unitElem bs (U (Q w)) ns Ds left E/\k+E<=nd+ns/\jM wr dG 27 unitElem m k D/\O (lX D s)/\O (∀i,i∈s↔i∈o\/(i∈ss/\left (.U i)=dF))/\jG w wr m) (λ_ wr=>wr.rangeLeft bs (U (Q w)))
 case atStart=>(
 refine⟨_,_,nd,Dd,o,Ap,?_,B.kept S al,ZP,?_,S.but _⟩;{have:=X.size_le;omega};{intro i;constructor;{exactλh=>.L h};{rintro(h|⟨h1,h2⟩);{exact h};{rw[(ae Ou (.U i)).2 ⟨i,h1,rfl⟩]at h2;cases h2}}})
 case round=>(
 obtain⟨left,E,k,D,s,W,hkc,N,R,V,u⟩:=hrel;go_wp2_with(first
  |(at_next;refine df4 _ rfl _ rfl 27 oO underlying27 bs (U (Q w)) ns _ ss Ou _ _ rfl W ?_ ?_)
  |go_in)
 {intro _ sX;go_wp2;go_end0;refine⟨D,s,rfl,N.h af,R,λi=>?_,u⟩;rw[ae V i,sX];simp};{
 intro x w1 DP ZL hx hlx Ao aH fo fO xU;have Mf:=N.kept fo (λe=>by cases e;exact absurd B.lt af);have M:O (∀i,i∈s++[x]↔i∈o\/(i∈ss/\(λz=>left z&&!z.sameKey (.U x)) (.U i)=dF)):=by
  intro i;rw[jl,ae V i];simp only[rC];have Z:((Lit.U i).sameKey (.U x)=dY)↔i=x:=by rw[au5 (by trivial)];simp
  by_cases e:i=x;{subst e;rw[Z.2 rfl];simp[hx]};{rw[show(Lit.U i).sameKey (.U x)=dF by(rw[Gj];exactλh=>e (Z.1 h))];simp[e]}
 go_wp2_with(first
  |(at_mapUpdate;refine wpList_mapUpdate_own _ rfl _ _ _ 166 rfl 27 _ oO underlying166 unitElem m k _ rfl (Mf.alloc _) kW _ _ _ rfl rfl (keyOf_int_mk underlying27 ZL) (.agg []) [] unitElem_mk ?_;intro w2 Sr y)
  |go_in)
 have Sk:=(Ao.alloc _).kept y (by simp;exactλe=>aP e.C) (by simp;intro e;exact absurd B.lt af);go_roundw;exact⟨_,DP,Sk,k+1,af,_,Sr,_,R.put N.isMap x (.agg []),M,((u.andThen fo (λj q=>by cases q;exact Or.L aU)).andThen (Zf _ _ dN) (λj q=>by cases q)).andThen y (λj q=>by cases q;exact Or.R rfl)⟩
 case measure=>rw[Sk.left_eq,W.left_eq];omega})
theorem MV:(bg l).data.toList=l.map (λn=>UInt8.ofNat (jN n)):=by rw[bg,cO7];rfl
theorem DQ:(bg l).size=J l:=by
 show(bg l).data.size=_;rw[<-Array.length_toList,MV,iC]
theorem cO6(o:aD l)(m:j<(bg l).size):(((bg l)[j]'m).toNat:Int)=jE l j 0:=by
 have i:j<J l:=by rw[<-DQ];exact m
 have q:(bg l)[j]'m=(bg l).data.toList[j]'(by rw[MV,iC];exact i):=by rw[Array.getElem_toList];rfl
 rw[q];simp only[MV,bb8];rw[ko,bN i,tv];have:=o l[j] (De i);rw[UInt8.toNat_ofNat'];omega
theorem dP4(es:O (s=bg l))(y:s.size=n)(u:O (aD l))(M:n<=2^21):dQ dG 253 #[jJ s,jK .u8 47] w λe w'=>((∃k:Nat,e=dR (.I k)/\k<n/\xM l n=k)\/(e=dR (.I (-1))/\xM l n=0/\∀j,j<n->jE l j 0≠47))/\w'=w:=by
 have i:O (∀(j:Nat)(m:j<s.size),((s[j]'m).toNat:Int)=jE l j 0):=by cases ae es;exactλj m=>cO6 u m
 subst y;go_in;go_wp2
 go_loop [5](λvi=>∃k:Nat,k<=s.size/\vi=.I ((k:Int)-1)/\O (xM l s.size=xM l k)/\O (∀j,k<=j->j<s.size->jE l j 0≠47)) (λvi=>((RowKit.intOf vi)+1).toNat)
 case atStart=>exact⟨s.size,fS _,by first|rfl|go_num|(congr 1;omega),di,λj x r=>af⟩
 case round=>(
 obtain⟨k,N,rfl,o,hq⟩:=hrel;go_wp2;{
 have hc:(((s[k-1]).toNat:Int)==47):=by assumption
 have q:xM l k=k-1:=by have:=Zs l (k-1);rw[show k-1+1=k by omega]at this;rw[this,aK];rw[<-ae i (k-1) af];simpa using hc
 have E:((k-1:Nat):Int)=(k:Int)-1:=af;go_ret;refine⟨.L ⟨k-1,by rw[E];rfl,af,by rw[ae o,q]⟩,rfl⟩};{
 have hc:(((s[k-1]).toNat:Int)==47)=dF:=by assumption
 have q:xM l k=xM l (k-1):=by have:=Zs l (k-1);rw[show k-1+1=k by omega]at this;rw[this,aJ];rw[<-ae i (k-1) af];simpa using hc
 have D:jE l (k-1) 0≠47:=by rw[<-ae i (k-1) af];simpa using hc
 refine⟨⟨k-1,af,by congr 1;omega,o.Z q,λj x r=>?_⟩,?_⟩;{by_cases B:j=k-1;{rw[B];exact D};{exact hq j af r}};simp[RowKit.intOf];omega};{cases(af:k=0);go_ret;exact⟨.R ⟨rfl,o,λj m=>ae hq j (de _) m⟩,rfl⟩})
theorem cl0(es:O (s=bg l))(u:s.size=n)(r:O (aD l))(o:n<=2^21):dQ dG 226 #[jJ s,jK .u8 47] w λe w'=>((∃k:Nat,e=dR (.I k)/\k<n/\xM l n=k)\/(e=dR (.I (-1))/\xM l n=0/\∀j,j<n->jE l j 0≠47))/\w'=w:=by
 go_in
 go_wp21
 refine(dP4 es u r o).h ?_;rintro e w'⟨m,rfl⟩;obtain⟨k,rfl,q,i⟩|⟨rfl,i⟩:=m;{go_wp2;go_ret;exact⟨.L ⟨k,rfl,q,i⟩,rfl⟩};{go_wp2;go_ret;exact⟨.R ⟨rfl,i⟩,rfl⟩}
theorem aW0(m:Le l n)(x:O (aD l))(y:Mg n):dQ dG 188 #[jJ (bg l)] w λe w'=>e=dR (jJ (bg (iV l)))/\w'=w:=by
 let⟨s,es⟩:=aF (bg l);have r:s.size=n:=by rw[es,DQ];exact ae m
 rw[<-es]
 change O _ at es
 go_in
 go_wp21
 refine(cl0 es r x af).h ?_;rintro e w'⟨u,rfl⟩;obtain⟨k,rfl,B,j⟩|⟨rfl,j,-⟩:=u;{
 by_cases q:k=0;{
 subst q;have i:iV l=[47]:=by rw[iV,ae m,j,aK rfl]
 have o:=ai i;clear j i;go_wp2;go_ret;exact⟨by rw[ae o];rfl,rfl⟩};{
 have i:iV l=jT k l:=by rw[iV,ae m,j,aJ q]
 change O _ at i
 have E:¬(k:Int)<1:=af;have D:=qx k n;have ex:O (s.extract 0 k=bg (jT k l)):=by show _=_;rw[ae es];apply aZ1;apply Zh.1;rw[MV,List.map_take,<-MV];simp
 clear j;go_wp2;go_ret;exact⟨by rw[ae i,<-ae ex];rfl,rfl⟩}};{
 have i:iV l=[47]:=by rw[iV,ae m,j,aK rfl]
 have o:=ai i;clear j i;go_wp2;go_ret;exact⟨by rw[ae o];rfl,rfl⟩}
structure AK(w0 w:G)(bs:Nat)(ss:List aB)(SB:iN):Prop where
 len:J SB=J ss
 own:∃D,jM w dG 27 kc bs (J ss) D/\rr D (jZ (λ(s:aB)g=>(Lit.U s.1,g)) ss SB)
 blk:∀(i:Nat)(s:aB)(g:Nat),ss[i]?=s->SB[i]?=Y g->U (Q w0)<=g/\∃u,w.heap[g]?=dO #[.U s.1,.I s.2.1,u] 148/\rP w0 u s.2.2
 kM:SB.Nodup
structure yv(w0 w:G)(bn:Nat)(ns:List au)(NB HB UB:iN):Prop where
 len:J NB=J ns
 Oo:J HB=J ns
 Om:J UB=J ns
 own:∃D,jM w dG 9 kc bn (J ns) D/\rr D (jZ (λ(nd:au)g=>(ft nd.A,g)) ns NB)
 blk:∀(i:Nat)(nd:au)(g h u:Nat),ns[i]?=nd->NB[i]?=Y g->HB[i]?=h->UB[i]?=u->U (Q w0)<=g/\U (Q w0)<=h/\U (Q w0)<=u∧
  (∃V,w.heap[g]?=dO #[V,.U nd.D,.I nd.M,.map h,.U nd.P,.U nd.F,.map u] 193/\Rd w0 V nd.V)∧
  (∃D,jM w dG 27 unitElem h (J nd.y) D/\lX D nd.y)/\(∃D,jM w dG 27 unitElem u (J nd.X) D/\lX D nd.X)
 kM:NB.Nodup
 xt:(bn::(HB++UB)).Nodup
theorem as7{R:dV->Option (DataW Unit×List MemPlace)}(h:jM w P k R b n D)(i:w.heap[g]?=dO cs t):g≠b:=by
 rintro rfl;obtain⟨es,m,j,_⟩:=h;rw[j]at i;cases i
theorem gQ(h:w.heap[g]?=o):g<U (Q w):=(LF.1 h).1
theorem AK.kept(h:AK w0 w bs ss SB)(m:jG w w' row)(B:Y bs≠row)(y:∀g∈SB,Y g≠row):AK w0 w' bs ss SB:=by
 refine⟨h.len,?_,λi s g q j=>?_,h.kM⟩;{let⟨D,x,r⟩:=h.own;exact⟨D,x.kept m B,r⟩};{let⟨M,u,o,E⟩:=h.blk i s g q j;exact⟨M,u,(m.block g (gQ o) (y g (bq j))).Z o,E⟩}
theorem yv.kept{NB HB UB:iN}(h:yv w0 w bn ns NB HB UB)(j:jG w w' row)(R:Y bn≠row)(N:∀g∈NB,Y g≠row)(q:∀g∈HB++UB,Y g≠row):yv w0 w' bn ns NB HB UB:=by
 refine⟨h.len,h.Oo,h.Om,?_,λi x g B u y o m s=>?_,h.kM,h.xt⟩;{let⟨D,M,E⟩:=h.own;exact⟨D,M.kept j R,E⟩};{let⟨a1,a2,a3,⟨V,r,a5⟩,⟨D1,Z,X⟩,⟨D2,W,S⟩⟩:=h.blk i x g B u y o m s;exact⟨a1,a2,a3,⟨V,(j.block g (gQ r) (N g (bq o))).Z r,a5⟩,⟨D1,Z.kept j (q _ (jl.2 (.L (bq m)))),X⟩,⟨D2,W.kept j (q _ (jl.2 (.R (bq s)))),S⟩⟩}
theorem cD3{α:Type}{l:List α}{x y:α}(h:(l++[x])[i]?=y):l[i]?=y\/(i=J l/\x=y):=by
 by_cases j:i<J l;{rw[oI j]at h;exact .L h};{rw[qT af]at h;right;let⟨m,e⟩:=bH.1 h;simp at m;refine⟨af,?_⟩;simpa[show i-(J l)=0 by omega]using h}
theorem bO0{α β γ:Type}(f:α->β->γ){l:List α}{m:List β}(h:J m=J l)(x:α)(y:β):jZ f (l++[x]) (m++[y])=jZ f l m++[f x y]:=by
 rw[bb7 af];rfl
theorem AY{α β γ:Type}{f:α->β->γ}{l:List α}{m:List β}{z:γ}(h:z∈jZ f l m):∃(i:Nat)(x:α)(y:β),l[i]?=x/\m[i]?=y/\z=f x y:=by
 obtain⟨i,j,rfl⟩:=RJ h;rw[List.length_zipWith]at j;refine⟨i,l[i]'(by omega),m[i]'(by omega),bN _,bN _,?_⟩;simp
theorem AK.empty(h:jM w dG 27 kc bs 0 (.map [])):AK w0 w bs [] []:=
 ⟨rfl,⟨_,h,rr.nil⟩,λi s g j=>by simp at j,av2⟩
theorem yv.empty(h:jM w dG 9 kc bn 0 (.map [])):yv w0 w bn [] [] [] []:=
 ⟨rfl,rfl,rfl,⟨_,h,rr.nil⟩,λi s g _ _ j=>by simp at j,av2,al⟩
theorem AK.lt(h:AK w0 w bs ss SB):∀g∈SB,g<U (Q w):=by
 intro g o;let⟨i,j⟩:=Af o;obtain⟨s,m⟩:∃s,ss[i]?=Y s:=⟨_,bN (h.len▸((bH.1 j).1))⟩;let⟨_,u,q,_⟩:=h.blk i s g m j;exact gQ q
theorem yv.at{NB HB UB:iN}(h:yv w0 w bn ns NB HB UB)(m:ns[i]?=nd):∃g hh u,NB[i]?=Y g/\HB[i]?=Y hh/\UB[i]?=Y u:=by
 have j:=(bH.1 m).1;exact⟨_,_,_,bN (h.len▸j),bN (h.Oo▸j),bN (h.Om▸j)⟩
theorem yv.lt{NB HB UB:iN}(h:yv w0 w bn ns NB HB UB):(∀g∈NB,g<U (Q w))/\∀g∈HB++UB,g<U (Q w):=by
 have key:∀i,i<J ns->∃g q u,NB[i]?=Y g/\HB[i]?=Y q/\UB[i]?=Y u/\g<U (Q w)/\q<U (Q w)/\u<U (Q w):=λi m=>by let⟨B,y⟩:=qH m;let⟨g,q,u,j,x,s⟩:=h.at y;let⟨_,_,_,⟨V,M,_⟩,⟨R,E,_⟩,⟨N,D,_⟩⟩:=h.blk i B g q u y j x s;exact⟨g,q,u,j,x,s,gQ M,E.lt,D.lt⟩
 refine⟨λg o=>?_,λg o=>?_⟩;{let⟨i,m⟩:=Af o;let⟨r,_,_,j,_,_,a,_,_⟩:=key i (h.len▸((bH.1 m).1));rw[m]at j;cases j;exact a};{obtain o|o:=jl.1 o;{let⟨i,m⟩:=Af o;let⟨_,r,_,_,j,_,_,a,_⟩:=key i (h.Oo▸((bH.1 m).1));rw[m]at j;cases j;exact a};{let⟨i,m⟩:=Af o;let⟨_,_,r,_,_,j,_,_,a⟩:=key i (h.Om▸((bH.1 m).1));rw[m]at j;cases j;exact a}}
theorem cf0{l:iN}{x:Nat}(h:l.Nodup)(j:∀y∈l,y≠x):(l++[x]).Nodup:=by
 rw[Gm];exact⟨h,al,λa m b i=>by simp at i;subst i;exact j a m⟩
theorem AK.step(h:AK w0 w bs ss SB)(s:aB)(g:Nat)(hg:jG w w1 dN)(Gy:U (Q w)<=g)(hw:U (Q w0)<=U (Q w))(u:dV)(X:rP w0 u s.2.2)(N:w1.heap[g]?=dO #[.U s.1,.I s.2.1,u] 148)(m:∀z∈ss,z.1≠s.1)(hM:rr D (jZ (λ(s:aB)g=>(Lit.U s.1,g)) ss SB))(r:IsMap D)(dw:jM w2 dG 27 kc bs (J ss+1) (D.put (.U s.1) (.lit (.I g))))(R:jG w1 w2 bs):AK w0 w2 bs (ss++[s]) (SB++[g]):=by
 have ig:bs<U (Q w):=by obtain⟨D,r,_⟩:=h.own;exact r.lt
 refine⟨by simp[h.len],⟨_,by rw[fe];exact dw,?_⟩,λi z B hi j=>?_,cf0 h.kM (λy M=>aM (h.lt y M))⟩;{rw[bO0 _ h.len];refine hM.put r (by trivial) (λp Z=>?_) g;obtain⟨i,x,y,W,M,rfl⟩:=AY Z;intro e;simp only[NR,Ef]at e;exact m x (bq W) e};{obtain V|⟨e1,rfl⟩:=cD3 hi;{rw[oI (h.len▸((bH.1 V).1))]at j;let⟨a1,v,E,a3⟩:=h.blk i z B V j;refine⟨a1,v,?_,a3⟩;have S:=(hg.block B (gQ E) al).Z E;refine(R.block B (gQ S) ?_).Z S;let⟨D',o,_⟩:=h.own;have:=as7 o E;simpa using this};{rw[e1,<-h.len,qT aU]at j;simp at j;subst j;refine⟨af,u,?_,X⟩;exact(R.block _ (gQ N) bL).Z N}}
structure Kz(w0 w:G)(b bs bn:Nat)(e g x t:Int)(ss:List aB)(ns:List au)(SB NB HB UB:iN):Prop where
 hd:w.heap[b]?=dO #[.U e,.U g,.U x,.I t,.map bs,.map bn] 188
 xC:AK w0 w bs ss SB
 kM:yv w0 w bn ns NB HB UB
 lo:U (Q w0)<=b/\U (Q w0)<=bs/\U (Q w0)<=bn
 xt:(bs::bn::(HB++UB)).Nodup
theorem Kz.H{g x t:Int}{SB NB HB UB:iN}(h:Kz w0 w b bs bn e g x t ss ns SB NB HB UB)(i:Bw w w'):Kz w0 w' b bs bn e g x t ss ns SB NB HB UB:=
 ⟨(i.block b (gQ h.hd)).Z h.hd,h.xC.kept (mZ i dN) al al,h.kM.kept (mZ i dN) al al al,h.lo,h.xt⟩
theorem cI(h:w.heap[g]?=dO cs t)(i:Nat):I w (Ad g i)=cs[i]?:=by
 unfold World.cell?;rw[h];rfl
theorem yv.step{NB HB UB:iN}(h:yv w0 w bn ns NB HB UB)(nd:au)(g m j:Nat)(R:jG w w1 dN)(Gy:U (Q w)<=g)(Ml:U (Q w)<=m)(Mb:U (Q w)<=j)(aP:m≠j)(hw:U (Q w0)<=U (Q w))(V:dV)(hV:Rd w0 V nd.V)(GC:w1.heap[g]?=dO #[V,.U nd.D,.I nd.M,.map m,.U nd.P,.U nd.F,.map j] 193)(hH:jM w1 dG 27 unitElem m (J nd.y) D1)(X:lX D1 nd.y)(hU:jM w1 dG 27 unitElem j (J nd.X) D2)(W:lX D2 nd.X)(N:∀z∈ns,ft z.A≠ft nd.A)(hM:rr D (jZ (λ(nd:au)g=>(ft nd.A,g)) ns NB))(hD:IsMap D)(dw:jM w2 dG 9 kc bn (J ns+1) (D.put (ft nd.A) (.lit (.I g))))(s:jG w1 w2 bn):yv w0 w2 bn (ns++[nd]) (NB++[g]) (HB++[m]) (UB++[j]):=by
 have oW:bn<U (Q w):=by obtain⟨D,hD,_⟩:=h.own;exact hD.lt
 have aH:=h.lt;refine⟨by simp[h.len],by simp[h.Oo],by simp[h.Om],⟨_,by rw[fe];exact dw,?_⟩,λi z g' h' u' hi B r u=>?_,cf0 h.kM (λy hy=>aM (aH.1 y hy)),?_⟩;{rw[bO0 _ h.len];refine hM.put hD (by trivial) (λp E=>?_) g;obtain⟨i,x,y,hx,hy,rfl⟩:=AY E;exactλe=>N x (bq hx) e};{
 obtain Ir|⟨e1,rfl⟩:=cD3 hi;{
 have M:=(bH.1 Ir).1;rw[oI (h.len▸M)]at B;rw[oI (h.Oo▸M)]at r;rw[oI (h.Om▸M)]at u;let⟨a1,a2,a3,⟨V',a4,a5⟩,⟨E1,a6,a7⟩,⟨E2,a8,a9⟩⟩:=h.blk i z g' h' u' Ir B r u;have o:=h.xt;rw[Gn]at o;have n1:Y h'≠Y bn:=by intro e;cases e;exact o.1 (jl.2 (.L (bq r)))
 have n2:Y u'≠Y bn:=by intro e;cases e;exact o.1 (jl.2 (.R (bq u)))
 have b1:=(R.block g' (gQ a4) al).Z a4;refine⟨a1,a2,a3,⟨V',(s.block g' (gQ b1) ?_).Z b1,a5⟩,⟨E1,(a6.kept R al).kept s n1,a7⟩,⟨E2,(a8.kept R al).kept s n2,a9⟩⟩;let⟨D',Z,_⟩:=h.own;have:=as7 Z a4;simpa using this};{rw[e1,<-h.len,qT aU]at B;rw[e1,<-h.Oo,qT aU]at r;rw[e1,<-h.Om,qT aU]at u;simp at B r u;subst B r u;exact⟨af,af,af,⟨V,(s.block _ (gQ GC) bL).Z GC,hV⟩,⟨D1,hH.kept s bL,X⟩,⟨D2,hU.kept s bL,W⟩⟩}};{
 have E:((HB++[m])++(UB++[j])).Perm ((HB++UB)++[m,j]):=by rw[xL,xL];exact List.Perm.append_left HB (show(m::(UB++[j])).Perm (UB++m::[j])from bb6.C)
 have hq:(bn::((HB++[m])++(UB++[j]))).Perm ((bn::(HB++UB))++[m,j]):=E.cons bn;rw[hq.nodup_iff,Gm];refine⟨h.xt,by simp[aP],λa S c hc=>?_⟩;have Ci:a<U (Q w):=by obtain rfl|S:=gD.1 S;{exact oW};{exact aH.2 a S}
 simp at hc;obtain rfl|rfl:=hc<;>omega}
variable {o:Oper}
theorem bS9{s:iE}(r:o.guard=dN){m v:Operand}(i:o.op=Op.mapUpdate t m x v){e:TypeId}(X:Keyed P k)(M:P.underlying t=Y (.map k e))(R:dV->Option (DataW Unit×List MemPlace))(b n:Nat) (hm:a.eval m=.map b)(W:jM w P k R b n D)(N:n<maxLen){key:dV}(val:dV)(u:a.eval x=key)(B:a.eval v=val)(V:keyOf P k key=kl){d:DataW Unit}(Z:R val=Y (d,ps))(hK:∀w',jM w' P k R b (n+1) (D.put kl d)->jG w w' b->K (a.put o.dst jQ) w'):if jW o (yielded ops a.tmps)then Oper.wp P o a w K s else E:=by
 have y:jW o (yielded ops a.tmps):=by simp[jW,r]
 rw[aK y];let⟨w',S,q,j⟩:=W.update X M N V Z;unfold Oper.wp;simp[execOp,i,hm,u,B,S,Result.andThen];exact hK w' q j
theorem do5{m:iE}(j:o.guard=dN)(i:o.op=Op.box t x)(q:a.eval x=v)(u:(Instr.box t v).run P w=.ok r w')(hK:K (a.put o.dst r) w'):if jW o (yielded ops a.tmps)then Oper.wp P o a w K m else E:=by
 have s:jW o (yielded ops a.tmps):=by simp[jW,j]
 rw[aK s];unfold Oper.wp;simp[execOp,i,q,u,Result.andThen];exact hK
theorem dw0{h u:Nat}:(Instr.box 193 (jP #[V,.U ow,.I mo,.map h,.U ep,.U ge,.map u])).run dG w=.ok (Pz (U (Q w))) (jA w (dO #[V,.U ow,.I mo,.map h,.U ep,.U ge,.map u] 193)):=by
 go_simp
theorem Yl{α:Type}{l:List α}{k:Nat}{y:α}(h:l[k]?=y):jT (k+1) l=jT k l++[y]:=by rw[rD,h];rfl
theorem cg8{α:Type}{l:List α}{k:Nat}{z:α}(h:z∈jT k l):∃i,i<k/\l[i]?=z:=by
 let⟨i,j⟩:=Af h;rw[bd4]at j;split at j;{exact⟨i,by assumption,j⟩};{cases j}
theorem te(h:w'.heap[b]?=w.heap[b]?){o:Nat}:I w' (Ad b o)=I w (Ad b o):=by
 unfold World.cell?;rw[h]
variable {t:Int}
theorem jg.heap{g x:Int}{N:dV}(h:jg w b e g x t S N)(i:w'.heap[b]?=w.heap[b]?):jg w' b e g x t S N:=
 ⟨(te i).Z h.1,(te i).Z h.2.1,(te i).Z h.2.2.1,(te i).Z h.2.2.2.1,(te i).Z h.2.2.2.2.1,(te i).Z h.2.2.2.2.2⟩
theorem gI(h:jG X.drew w2 row):jG X w2 row:=⟨h.os,h.tape,h.output,h.size,h.block⟩
theorem Yr{g x:Int}(en:Le ss n)(em:Le ns m)(h:nM w (.S p n c) ss)(hN:iw w (.S q m d) ns)(hn:Mg n)(hm:Mg m)(hsu:O (∀s∈ss,0<=s.1/\s.1<2^64))(ZP:O (∀(i j:Nat)(s s':aB),ss[i]?=Y s->ss[j]?=s'->i<j->s.1≠s'.1))(dr:O (Bn ns))(tG:O (Bu ns))(aI:O (∀(i j:Nat)(z z':au),ns[i]?=Y z->ns[j]?=z'->i<j->z.A≠z'.A)):dQ dG 74 #[cO e g x t (.S p n c) (.S q m d)] w λr w'=>∃b bs bn SB NB HB UB,r=dR (Pz b)/\Kz w w' b bs bn e g x t ss ns SB NB HB UB/\Bw w w':=by
 have HR:=ai λ(w':G)(hb:Bw w w')=>aE (h.H hb) (hN.H hb);let⟨HS0,HN0⟩:=aQ h hN;clear h hN;have Ik:=@au6 dG;go_in
 go_wp21
 let⟨b,eb⟩:=aF (U (Q w)+1+1+1);let⟨bn,GM⟩:=aF (U (Q w)+1+1);let⟨bs,PQ⟩:=aF (U (Q w)+1);rw[<-eb,<-GM,<-PQ];let⟨W,hW⟩:=aF ((((w.alloc (dO #[.U e,.U g,.U x,.I t,.S p n c,.S q m d] 44)).alloc (.map #[] 0)).alloc (.map #[] 0)).alloc (dO #[.U e,.U g,.U x,.I t,.map (Y bs),.map (Y bn)] 188));have bW:Bw w W:=by rw[hW];exact((cY.alloc al _).alloc bL _).alloc bL _
 have zW:U (Q W)=U (Q w)+4:=by rw[hW];simp
 have OP:W.heap[b]?=Y (dO #[.U e,.U g,.U x,.I t,.map (Y bs),.map (Y bn)] 188):=by rw[hW,eb];have:=(aZ5 (((w.alloc (dO #[.U e,.U g,.U x,.I t,.S p n c,.S q m d] 44)).alloc (.map #[] 0)).alloc (.map #[] 0)) (dO #[.U e,.U g,.U x,.I t,.map (Y bs),.map (Y bn)] 188)).1;simpa using this
 have oS:W.ownsMap dG 27 kc bs 0 (.map []):=by rw[hW,PQ];have:=((World.ownsMap_made (w.alloc (dO #[.U e,.U g,.U x,.I t,.S p n c,.S q m d] 44)) dG 27 kc).alloc (.map #[] 0)).alloc (dO #[.U e,.U g,.U x,.I t,.map (Y (U (Q w)+1)),.map (Y bn)] 188);simpa using this
 have oN:W.ownsMap dG 9 kc bn 0 (.map []):=by rw[hW,GM];have:=(World.ownsMap_made ((w.alloc (dO #[.U e,.U g,.U x,.I t,.S p n c,.S q m d] 44)).alloc (.map #[] 0)) dG 9 kc).alloc (dO #[.U e,.U g,.U x,.I t,.map (Y bs),.map (Y (U (Q w)+1+1))] 188);simpa using this
 have c6:jg W (U (Q w)) e g x t (.S p n c) (.S q m d):=by
  have c0:jg (w.alloc (dO #[.U e,.U g,.U x,.I t,.S p n c,.S q m d] 44)) (U (Q w)) e g x t (.S p n c) (.S q m d):=by simp[jg]
  rw[hW];exact c0.H ((cY.alloc al _).alloc al _)
 rw[<-hW];have HEQ:=gJ eb GM PQ zW;let⟨BW,HC6⟩:=aQ bW c6;have Fy:=eG OP oS oN;clear hW eb GM PQ zW bW OP oS oN c6 Ik
 go_loopw[23](λiv wr=>∃(k:Nat)(SB:iN),k<=n/\iv=.I k/\O (AK w wr bs (jT k ss) SB/\wr.heap[b]?=Y (dO #[.U e,.U g,.U x,.I t,.map (Y bs),.map (Y bn)] 188)/\wr.ownsMap dG 9 kc bn 0 (.map [])/\jg wr (U (Q w)) e g x t (.S p n c) (.S q m d))/\Bw w wr/\U (Q W)<=U (Q wr)) (pT n)
 exact⟨0,[],de _,rfl,⟨AK.empty Fy.2.1,Fy.1,Fy.2.2,HC6⟩,BW,fS _⟩;{
 obtain⟨k,SB,hk,rfl,gi,aC,BQ⟩:=hrel;by_cases aH:k<n;{
 have dm:=cM k n;have fg:k<J ss:=by rw[ae en];exact aH
 let⟨⟨iI,D,iZ⟩,N⟩:=qH fg;obtain⟨b0,o,rfl,hcI,hcD,u,hcQ,Sn⟩:∃b o,p=(Ad b o)/\I w (Ad b (o+k*3))=Y (.U iI)/\I w (Ad b (o+k*3+1))=Y (.I D)/\∃u,I w (Ad b (o+k*3+2))=Y u/\rP w u iZ:=by let⟨p',c',ev,hd⟩:=ae HS0;obtain⟨rfl,-,-⟩:=mh ev;obtain h0|⟨b,o,h1,h2⟩:=hd;{exact yy};{exact⟨b,o,h1,h2 k _ N⟩}
 obtain⟨pq,cq,rfl,-⟩:=id Sn;let⟨mq,emq⟩:=bu (J iZ);rw[emq]at Sn hcQ;clear emq;replace hcI:=aq hcI aC;replace hcD:=aq hcD aC;replace hcQ:=aq hcQ aC;have HY:=ai N;have gO:keyOf dG 27 (.U iI)=Y (.U iI):=keyOf_int_mk underlying27 (FR (ae hsu _ (bq N)));have ff1:=ai gO
 go_wp21
 let⟨X,hX⟩:=aF (wr.alloc (dO #[.U iI,.I D,.S pq mq cq] 148));have bX:=ir hX;have xj:X.heap[U (Q wr)]?=Y (dO #[.U iI,.I D,.S pq mq cq] 148):=by rw[hX];exact(aZ5 wr _).1
 have hcX:I X (Aw wr 0)=Y (.U iI):=by rw[hX];simp
 let⟨i1,i2,i3,i4⟩:=ae gi;have oZ:X.heap[b]?=Y (dO #[.U e,.U g,.U x,.I t,.map (Y bs),.map (Y bn)] 188):=(bX.block b (gQ i2)).Z i2;rw[<-hX];have zX:U (Q X)=U (Q wr)+1:=by rw[hX];simp
 let⟨D0,oD,mD⟩:=i1.own;have hlen:J (jT k ss)=k:=by rw[tz,ae en];omega
 rw[hlen]at oD;have ig:bs<U (Q wr):=oD.lt;have cw3:bs≠b:=λe=>as7 oD i2 e.C;have KX:=bG (cI oZ 4) hcX;refine fw (λw'=>I w' (Ad b 4)=Y (.map (Y bs))/\I w' (Aw wr 0)=Y (.U iI)) KX λhS=>?_;refine iy 0 1 2 3 hS ?_;refine fu 4 5 hS ?_;refine fy 6 λKK hK=>?_;refine bS9 aY (t:=185) aY (k:=27) oO underlying185 kc bs k (D:=D0) aY ((oD.kept (mZ bX dN) al).drew) kW (key:=.U iI) (Pz (U (Q wr))) (kl:=.U iI) aY aY ff1 (d:=.lit (.I (U (Q wr)))) (ps:=[]) rfl ?_;intro M Sr fx;have Mm:X.grownBy M (Y bs):=gI fx;refine bS hK ⟨(te (Mm.block b (gQ oZ) (by simpa using cw3.C))).Z KX.1,(te (Mm.block (U (Q wr)) (gQ xj) bL)).Z KX.2⟩ λhS=>?_;clear hK KK;refine fQ ?_;have cK:AK w M bs (jT (k+1) ss) (SB++[U (Q wr)]):=by rw[Yl (ae HY)];refine i1.step (iI,D,iZ) (U (Q wr)) (mZ bX dN) aU aC.size (.S pq mq cq) (Sn) xj (λz hz=>?_) mD oD.isMap (by rw[hlen];exact Sr) Mm;let⟨i,hi,BS⟩:=cg8 hz;exact ZP i k z (iI,D,iZ) BS HY hi
 have vK:M.ownsMap dG 9 kc bn 0 (.map []):=(i3.kept (mZ bX dN) al).kept Mm (by have:=(ae HEQ);simp;omega)
 have aA:M.heap[b]?=Y (dO #[.U e,.U g,.U x,.I t,.map (Y bs),.map (Y bn)] 188):=(Mm.block b (gQ oZ) (by simpa using cw3.C)).Z oZ;have gu:Bw w M:=DS (aj aC bX) Mm (aM aC.size) (λj hj=>by cases hj;have:=ae HEQ;omega);have gv:U (Q W)<=U (Q M):=aM Mm.size;have jw:=gJ cK aA vK ((i4.H bX).heap (Mm.block (U (Q w)) (aM aC.size) (by have:=ae HEQ;simp;omega)));clear cK aA vK hS Sr fx Mm i1 i2 i3 i4 oZ oD mD xj bX;go_wp2;go_roundw;exact⟨k+1,_,af,by go_num,jw,gu,gv⟩;exact dy};{
 have dm:=ga k n;cases(af:k=n);let⟨i1,i2,i3,i4⟩:=ae gi;rw[nZ (by rw[ae en];exact fS _)]at i1;have j0:=id i4;let⟨I1,I2,I3,I4⟩:=zk i1 i2 i3 i4;clear i1 i2 i3 i4 gi
 go_wp21
 clear j0;let⟨iY,eY⟩:=aF wr;subst eY;let⟨BY,ZY⟩:=aQ aC BQ;clear aC BQ aH dm hk
 go_loopw[37](λiv wr=>∃(k:Nat)(NB HB UB:iN),k<=m/\iv=.I k/\O (yv w wr bn (jT k ns) NB HB UB/\AK w wr bs ss SB/\wr.heap[b]?=Y (dO #[.U e,.U g,.U x,.I t,.map (Y bs),.map (Y bn)] 188)/\∀y∈HB++UB,y≠bs)/\Bw w wr/\U (Q W)<=U (Q wr)) (λiv _=>m-(jN (intOf iv)))
 exact⟨0,[],[],[],de _,rfl,⟨yv.empty I3,I1,I2,al⟩,BY,ZY⟩;{
 obtain⟨j,NB,HB,UB,hk,rfl,gi,aC,BQ⟩:=hrel;by_cases aH:j<m;{
 have dm:=cM j m;have fg:j<J ns:=by rw[ae em];exact aH
 let⟨B,N⟩:=qH fg;obtain⟨b0,o,rfl,hA⟩:=HN0.at af;let⟨P,V,H,iU,Su⟩:=hA j B N;let⟨rJ,gu,Pk,Kk,Mu⟩:=ae dr _ (bq N);let⟨hU1,hU2⟩:=ae tG _ (bq N);obtain⟨pp,pc,pn,rfl,yb⟩:=Su.r0.fq;obtain⟨vq,vc,vn,rfl,PR⟩:=Su.r1.fq;obtain⟨hp,hc,hh,rfl,Cq⟩:=Su.r4.fq;obtain⟨up,uc,un,rfl,GN⟩:=Su.r7.fq;have JT:pn<=2^20:=by rw[<-ae yb];exact gu
 have Ml:hh<=2^20:=by rw[<-ae Cq];exact Kk
 have Mb:un<=2^20:=by rw[<-ae GN];exact Mu
 let⟨am0,HY⟩:=aQ Su N;have HU1:O (∀i∈B.y,0<=i/\i<2^64):=hU1;have HU2:O (∀i∈B.X,0<=i/\i<2^64):=hU2;obtain⟨c0,c1,c2,c3,c4,c5,c6,c7,-,-,-,-,-⟩:=Su.H aC;obtain⟨ow,mo,ep,ge,e1,e2,e3,e4⟩:∃a b c d,B.D=a/\B.M=b/\B.P=c/\B.F=d:=⟨_,_,_,_,rfl,rfl,rfl,rfl⟩
 rw[e1]at c2;rw[e2]at c3;rw[e3]at c5;rw[e4]at c6;have HE:=gJ e1 e2 e3 e4;clear fg N hA Su rJ gu Pk Kk Mu hU1 hU2 e1 e2 e3 e4
 go_wp21
 let⟨X,hX⟩:=aF (wr.alloc (dO #[.S pp pn pc,.S vq vn vc,.U ow,.I mo,.S hp hh hc,.U ep,.U ge,.S up un uc] 149));let⟨C,eC⟩:=aF (U (Q wr));have bX:=ir hX;have zX:U (Q X)=U (Q wr)+1:=by rw[hX];simp
 let⟨i1,i2,i3,i4⟩:=ae gi;have oZ:X.heap[b]?=Y (dO #[.U e,.U g,.U x,.I t,.map (Y bs),.map (Y bn)] 188):=(bX.block b (gQ i3)).Z i3;have KX:O (I X (Ad b 5)=Y (.map (Y bn))/\I X (Ad C 0)=Y (.S pp pn pc)/\I X (Ad C 1)=Y (.S vq vn vc)/\I X (Ad C 2)=Y (.U ow)/\I X (Ad C 3)=Y (.I mo)/\I X (Ad C 4)=Y (.S hp hh hc)/\I X (Ad C 5)=Y (.U ep)/\I X (Ad C 6)=Y (.U ge)/\I X (Ad C 7)=Y (.S up un uc)/\Rd X (.S pp pn pc) B.A):=by refine⟨cI oZ 5,?_,?_,?_,?_,?_,?_,?_,?_,am0.r0.H (aj aC bX)⟩<;>(rw[hX,eC];simp)
 rw[<-hX,<-eC];let⟨UH,UU⟩:=aQ (am0.r4.H (aj aC bX)) (am0.r7.H (aj aC bX));have HX:=eG bX zX oZ;have jw:=gi;clear hX c0 c1 c2 c3 c4 c5 c6 c7 bX zX oZ i1 i2 i3 i4 gi
 change O _ at eC
 have gO:keyOf dG 9 (jJ (bg B.A))=(ft B.A):=by rw[WideMaps.keyOf_string_mk underlying9 (by rw[DQ,ae yb];unfold maxLen;omega),Xi]
 change O _ at gO
 refine fw (λw'=>I w' (Ad b 5)=Y (.map (Y bn))/\I w' (Ad C 0)=Y (.S pp pn pc)/\I w' (Ad C 1)=Y (.S vq vn vc)/\I w' (Ad C 2)=Y (.U ow)/\I w' (Ad C 3)=Y (.I mo)/\I w' (Ad C 4)=Y (.S hp hh hc)/\I w' (Ad C 5)=Y (.U ep)/\I w' (Ad C 6)=Y (.U ge)/\I w' (Ad C 7)=Y (.S up un uc)/\Rd w' (.S pp pn pc) B.A) KX λhS=>?_;refine iy 0 1 2 3 hS ?_;refine fu 4 5 hS ?_;refine JG (i:=6) (oi:=_) (v:=?_) (by simp only[rB,sR,sQ];rfl) aS aS aS (λ_ _ _ h=>h) (Or.L ⟨aY,?_⟩) hS ?_;rotate_left;{(intro w' pf;(try dsimp only at pf);(have hcv:=vz yb pf.2.2.2.2.2.2.2.2.2);go_simp;try with_reducible rfl)}
 simp only[Act.put,xa,xb,xc];refine gr 7 8 9 10 11 12 13 14 hS ?_;refine iy 15 16 17 18 hS ?_;refine fu 20 21 hS ?_;refine fy 19 λKK hK=>?_;refine ju (bX0 (p:=hp) (c:=hc) (n:=hh) (ids:=B.y) Cq (UH.H mC) Ml HU1) ?_;rintro r M⟨D1,rfl,o1,s1,aA,uQ⟩;refine fE ?_;have DA:Bw X M:=aj (bD (U (Q X)) X).drew aA;have KX2:O (I M (Ad b 5)=Y (.map (Y bn))/\I M (Ad C 0)=Y (.S pp pn pc)/\I M (Ad C 1)=Y (.S vq vn vc)/\I M (Ad C 2)=Y (.U ow)/\I M (Ad C 3)=Y (.I mo)/\I M (Ad C 4)=Y (.S hp hh hc)/\I M (Ad C 5)=Y (.U ep)/\I M (Ad C 6)=Y (.U ge)/\I M (Ad C 7)=Y (.S up un uc)/\Rd M (.S pp pn pc) B.A):=by let⟨k0,k1,k2,k3,k4,k5,k6,k7,k8,k9⟩:=ae KX;exact⟨aq k0 DA,aq k1 DA,aq k2 DA,aq k3 DA,aq k4 DA,aq k5 DA,aq k6 DA,aq k7 DA,aq k8 DA,k9.H DA⟩
 refine bS hK KX2 λhS=>?_;clear hK KK;have zd:U (Q X.drew)=U (Q X):=rfl;rw[zd]at o1 uQ⊢;let⟨h1,PO⟩:=aF (U (Q X));rw[<-PO]at o1 uQ⊢;have XH:=gJ o1 s1 uQ PO;have oF:=ai DA;clear o1 s1 aA uQ DA zd PO;refine fy 22 λKK hK=>?_;refine ju (bX0 (p:=up) (c:=uc) (n:=un) (ids:=B.X) GN (UU.H oF) Mb HU2) ?_;rintro r w3⟨D2,rfl,o2,s2,aL,xT⟩;refine fE ?_;have KX3:O (I w3 (Ad b 5)=Y (.map (Y bn))/\I w3 (Ad C 0)=Y (.S pp pn pc)/\I w3 (Ad C 1)=Y (.S vq vn vc)/\I w3 (Ad C 2)=Y (.U ow)/\I w3 (Ad C 3)=Y (.I mo)/\I w3 (Ad C 4)=Y (.S hp hh hc)/\I w3 (Ad C 5)=Y (.U ep)/\I w3 (Ad C 6)=Y (.U ge)/\I w3 (Ad C 7)=Y (.S up un uc)/\Rd w3 (.S pp pn pc) B.A):=by let⟨k0,k1,k2,k3,k4,k5,k6,k7,k8,k9⟩:=ae KX2;exact⟨aq k0 aL,aq k1 aL,aq k2 aL,aq k3 aL,aq k4 aL,aq k5 aL,aq k6 aL,aq k7 aL,aq k8 aL,k9.H aL⟩
 refine bS hK KX3 λhS=>?_;clear hK KK;let⟨u1,PG⟩:=aF (U (Q M));rw[<-PG]at o2 xT⊢;have HO2:=gJ o2 s2 xT PG;have sJ:=ai aL;clear o2 s2 aL xT PG;refine tn 23 hS ?_;refine fy 24 λKK hK=>?_;refine do5 aY (t:=193) aY (v:=jP #[.S vq vn vc,.U ow,.I mo,.map h1,.U ep,.U ge,.map u1]) aY (dw0) ?_;let⟨Z,eZ⟩:=aF (w3.alloc (dO #[.S vq vn vc,.U ow,.I mo,.map h1,.U ep,.U ge,.map u1] 193));have bZ:=ir eZ;have hZ:Z.heap[U (Q w3)]?=Y (dO #[.S vq vn vc,.U ow,.I mo,.map h1,.U ep,.U ge,.map u1] 193):=by rw[eZ];exact(aZ5 w3 _).1
 rw[<-eZ];clear eZ;have KX4:O (I Z (Ad b 5)=Y (.map (Y bn))/\I Z (Ad C 0)=Y (.S pp pn pc)/\I Z (Ad C 1)=Y (.S vq vn vc)/\I Z (Ad C 2)=Y (.U ow)/\I Z (Ad C 3)=Y (.I mo)/\I Z (Ad C 4)=Y (.S hp hh hc)/\I Z (Ad C 5)=Y (.U ep)/\I Z (Ad C 6)=Y (.U ge)/\I Z (Ad C 7)=Y (.S up un uc)/\Rd Z (.S pp pn pc) B.A):=by let⟨k0,k1,k2,k3,k4,k5,k6,k7,k8,k9⟩:=ae KX3;exact⟨aq k0 bZ,aq k1 bZ,aq k2 bZ,aq k3 bZ,aq k4 bZ,aq k5 bZ,aq k6 bZ,aq k7 bZ,aq k8 bZ,k9.H bZ⟩
 refine bS hK KX4 λhS=>?_;clear hK KK;let⟨g1,eg1⟩:=aF (U (Q w3));rw[<-eg1]at hZ⊢;let⟨i1,i2,i3,i4⟩:=ae jw;let⟨bX,zX,oZ⟩:=ae HX;let⟨o1,s1,uQ,PO⟩:=ae XH;let⟨o2,s2,xT,PG⟩:=ae HO2;have IU:Bw wr Z:=aj bX (aj (aj oF sJ) bZ);let⟨D0,oD,mD⟩:=i1.own;have hlen:J (jT j ns)=j:=by rw[tz,ae em];omega
 rw[hlen]at oD;have q1:Z.ownsMap dG 27 unitElem h1 hh D1:=(o1.kept (mZ sJ dN) al).kept (mZ bZ dN) al;have q2:Z.ownsMap dG 27 unitElem u1 un D2:=o2.kept (mZ bZ dN) al;have lt3:=sJ.size;have lt2:=oF.size;have oW:=oD.lt;have HQ:=gJ q1 q2 s1 s2;have fd7:=eG uQ PO (aE xT (aE PG (aE eg1 (aE zX (aE lt2 (aE lt3 oW))))));have HOZ:=ai (oD.kept (mZ IU dN) al);have fd0:=gJ hZ IU oD mD;clear q1 q2 s1 s2 uQ PO xT PG eg1 zX lt2 lt3 oW hZ IU oD mD i1 i2 i3 i4 bX oZ o1 o2 bZ;refine fy 25 λKK hK=>?_;refine bS9 aY (t:=186) aY (k:=9) uM underlying186 kc bn j (D:=D0) aY HOZ kW (key:=jJ (bg B.A)) (Pz g1) (kl:=ft B.A) aY aY gO (d:=.lit (.I g1)) (ps:=[]) rfl ?_;intro w4 Oz nC;let⟨hZ,IU,oD,mD⟩:=ae fd0;let⟨i1,i2,i3,i4⟩:=ae jw;let⟨q1,q2,s1,s2⟩:=ae HQ;let⟨uQ,PO,xT,PG,eg1,zX,lt2,lt3,oW⟩:=ae fd7;have dY1:=nC.size;have zZ:=gQ hZ;have zRZ:=IU.size;have ek5:=aC.size;let⟨eb,GM,PQ,zW⟩:=ae HEQ;have hCe:=ae eC;have aA2:Z.heap[b]?=Y (dO #[.U e,.U g,.U x,.I t,.map (Y bs),.map (Y bn)] 188):=(IU.block b (gQ i3)).Z i3;have nb:b≠bn:=af;have KX5:O (I w4 (Ad b 5)=Y (.map (Y bn))/\I w4 (Ad C 0)=Y (.S pp pn pc)/\I w4 (Ad C 1)=Y (.S vq vn vc)/\I w4 (Ad C 2)=Y (.U ow)/\I w4 (Ad C 3)=Y (.I mo)/\I w4 (Ad C 4)=Y (.S hp hh hc)/\I w4 (Ad C 5)=Y (.U ep)/\I w4 (Ad C 6)=Y (.U ge)/\I w4 (Ad C 7)=Y (.S up un uc)/\Rd w4 (.S pp pn pc) B.A):=by
  let⟨k0,k1,k2,k3,k4,k5,k6,k7,k8,k9⟩:=ae KX4;have hC:=nC.block C af (by simpa using af);exact⟨(te (nC.block b (gQ aA2) (by simpa using nb))).Z k0,(te hC).Z k1,(te hC).Z k2,(te hC).Z k3,(te hC).Z k4,(te hC).Z k5,(te hC).Z k6,(te hC).Z k7,(te hC).Z k8,
   am0.r0.H (DS (aj aC IU) nC af (λj hj=>by cases hj;omega))⟩
 refine bS hK KX5 λhS=>?_;clear hK KK;refine fQ ?_;let⟨e1,e2,e3,e4⟩:=ae HE;have cK:yv w w4 bn (jT (j+1) ns) (NB++[g1]) (HB++[h1]) (UB++[u1]):=by rw[Yl (ae HY)];refine i1.step B g1 h1 u1 (mZ IU dN) af af af af aC.size (.S vq vn vc) am0.r1 (by rw[e1,e2,e3,e4];exact hZ) (by rw[ae Cq];exact q1) s1 (by rw[ae GN];exact q2) s2 (λz hz=>?_) mD oD.isMap (by rw[hlen];exact Oz) nC;let⟨i,hi,BS⟩:=cg8 hz;intro ee;exact aI i j z B BS HY hi (Oj (ae dr z (bq BS)).1 (ae dr B (bq (ae HY))).1 ee)
 have hse:AK w w4 bs ss SB:=(i2.kept (mZ IU dN) al al).kept nC bL (λy N=>by let⟨i,hi⟩:=Af N;obtain⟨s,hs⟩:∃s,ss[i]?=Y s:=⟨_,bN (by rw[<-i2.len];exact(bH.1 hi).1)⟩;let⟨_,u,a2,_⟩:=i2.blk i s y hs hi;have:=as7 oD a2;simpa using this)
 have Kk:Bw w w4:=DS (aj aC IU) nC af (λj hj=>by cases hj;omega);have L8:U (Q W)<=U (Q w4):=af;have hd4:∀y∈(HB++[h1])++(UB++[u1]),y≠bs:=by intro y N;simp only[jl,rC]at N;obtain(N|rfl)|(N|rfl):=N;{exact i4 y (jl.2 (.L N))};{omega};{exact i4 y (jl.2 (.R N))};{omega}
 have ff3:=gJ cK hse ((nC.block b (gQ aA2) (by simpa using nb)).Z aA2) hd4;clear cK hse hd4 hS Oz nC i1 i2 i3 i4 q1 q2 s1 s2 uQ PO xT PG eg1 zX lt2 lt3 oW eb GM PQ zW hCe hZ IU oD mD aA2 e1 e2 e3 e4 dY1 ek5 nb zZ zRZ KX KX2 KX3 KX4 KX5;go_wp2;go_roundw;exact⟨j+1,_,_,_,af,by go_num,ff3,Kk,L8⟩;exact dy};{
 have dm:=ga j m;cases(af:j=m);let⟨i1,i2,i3,i4⟩:=ae gi;rw[nZ (by rw[ae em];exact fS _)]at i1;let⟨eb,GM,PQ,zW⟩:=ae HEQ;have xi:Kz w wr b bs bn e g x t ss ns SB NB HB UB:=⟨i3,i2,i1,af,by rw[Gn];refine⟨λmX=>?_,i1.xt⟩;obtain hh|hh:=gD.1 mX;{omega};{exact i4 _ hh rfl}⟩
 have fg0:=ai xi;clear i1 i2 i3 i4 eb GM PQ zW xi;go_wp2;go_ret;exact⟨b,rfl,⟨bs,bn,SB,NB,HB,UB,fg0⟩,aC⟩}}}}
theorem cn3(D:Le l0 N)(u:Rd X v0 l0)(y:N<=2^22):Cp 129 #[.T (U (Q X)) 1 1] (jA X (dO #[v0] 22)) λe w'=>∃i r,e=dR (.S i N r)/\Own (U (Q X)) w' (.S i N r) l0/\Bw X w':=by
 have s:Bw X (jA X (dO #[v0] 22)):=cY;refine(Gt (vs:=[v0]) [l0] 1 rfl (ai (by simp[cat])) D ⟨rfl,λj v x q m=>?_⟩ y af).h ?_;{
 match j,q,m with
 |0,q,m=>simp at q m;subst q m;exact⟨al,u.H s⟩}
 {rintro e w'⟨i,r,rfl,o,B⟩;exact⟨i,r,rfl,Own.h o al,aj s B⟩}
theorem cK9(iI D:Int)(p:OA)(c n:Nat)(iZ:List Ev)(en:Le iZ n)(w:G)(h:rP w (.S p n c) iZ)(hn:Mg n)(Kd:O (∀e∈iZ,J e.2<=2^20)):dQ dG 143 #[jP #[.U iI,.I D,.S p n c]] w λr w'=>∃p' c' A,r=dR (jP #[.U iI,.I D,.S p' n c'])/\rP w' (.S p' n c') iZ/\lI w' (.S p' n c') iZ A/\gp (U (Q w)) w' A/\Bw w w':=by
 let⟨ie,Ws,jk,fI,gv⟩:=mJ Tryz.infoEv;let⟨W,hW⟩:=aF (jA w (dO #[.U iI,.I D,.S p n c] 148));have zW:U (Q W)=U (Q w)+1:=by rw[hW];simp
 have k0:I W (Aw w 0)=dU iI:=by rw[hW];simp
 have k1:I W (Aw w 1)=dI D:=by rw[hW];simp
 have k2:I W (Aw w 2)=dS p n c:=by rw[hW];simp
 go_in
 go_wp21
 let⟨W2,fW⟩:=aF (jA W (dO #[.U 0,.I 0,ay] 148));have IT:=ir fW;have zW2:U (Q W2)=U (Q w)+2:=by rw[fW];simp;omega
 have tQ:aT W2 (U (Q w)+1) [.U 0,.I 0,ay]:=by rw[fW,show U (Q w)+1=U W.heap by omega];exact aT.alloc W #[.U 0,.I 0,ay] _
 rw[<-hW,<-fW];have HK:=eG (aq k0 IT) (aq k1 IT) (aq k2 IT)
 go_loopw[3,9](λov iv wr=>∃(k:Nat)(Ls:List (List Lf)),k<=n/\iv=.I k/\O (fG Fi 125 2 (U (Q W2)) wr ov (jT k iZ) Ls)/\Bw W2 wr) (λ_ iv _=>n-(jN (intOf iv)))
 exact⟨0,[],de _,rfl,fG.nil _ _ _ _ _,bD _ _⟩;{
 obtain⟨k,Ls,hk,rfl,ho,aC⟩:=hrel;have BB:=aj (aj (ir hW) IT) aC;by_cases aH:k<n;{
 have dm:=cM k n;have fg:k<J iZ:=ae en▸aH;let⟨⟨K,P⟩,hy⟩:=qH fg;obtain⟨b,o,rfl,hcK,u,WA,Et,xX⟩:∃b o,p=(Ad b o)/\I wr (Ad b (o+k*2))=dI K/\∃u,I wr (Ad b (o+k*2+1))=Y u/\Rd wr u P/\vU u:=by let⟨p',c',ev,hd⟩:=ae (ai λ(w':G)(hb:Bw w w')=>h.H hb) _ BB;obtain⟨rfl,-,-⟩:=mh ev;obtain h0|⟨b,o,h1,h2⟩:=hd;{exact yy};{exact⟨b,o,h1,h2 k _ hy⟩}
 obtain⟨pp,pc,m,rfl,em⟩:=Et.fq;have hm:m<=2^20:=ae em▸ae Kd _ (bq hy)
 go_wp21
 let⟨X,hX⟩:=aF (jA wr (dO #[.I K,.S pp m pc] 125));let⟨V,hV⟩:=aF X.drew;have Ch:Bw wr V:=hV▸(ir hX).drew;rw[<-hX];refine fw (λw'=>I w' (Aw wr 0)=dI K/\I w' (Aw wr 1)=dS pp m pc) (by exact⟨(by rw[hX];simp),by rw[hX];simp⟩) λhS=>?_;rw[<-hV]at hS⊢;have KV:=ai hS;have zV:U (Q wr)<U (Q V):=my V _ hS.1;have z2r:=aC.size;clear hX hV hcK WA;have OV:=ai (ho.H Fi.W Ch);have HU3:=ai λb hb=>(ho.lt.1 b hb).2;refine iy 0 1 2 3 hS ?_;refine tn 4 hS ?_;refine fy 5 λKK hK=>?_;go_simp;have S5:=(bD (U (Q V)) V).alloc aU (dO #[.S pp m pc] 22);refine bS hK ⟨aq KV.1 S5,aq KV.2 S5⟩ λhS=>?_;refine fy 6 λKK hK=>?_;refine ju (cn3 em (Et.H Ch) af) ?_;rintro r v1⟨B,N,rfl,o6,je⟩;refine fE ?_;have K6:=bG (aq KV.1 je) (aq KV.2 je);refine bS hK K6 λhS=>?_;let⟨O6,B6⟩:=aQ o6 je;refine tn 7 hS ?_;refine fy 8 λKK hK=>?_;go_simp;have y:=(bD (U (Q v1)) v1).alloc aU (dO #[.I K,.S B m N] 125);refine hK.out _ _ (by exact⟨aq K6.1 y,aq K6.2 y⟩) (λhS=>?_);let⟨Z,hZ⟩:=aF (jA v1 (dO #[.I K,.S B m N] 125));have hcZ:∀j u,[Value.I K,.S B m N][j]?=Y u->I Z (Aw v1 j)=Y u:=λj u hu=>by have:=(aT.alloc v1 #[.I K,.S B m N] 125).1 j u (by simpa using hu);rw[hZ];exact this
 rw[<-hZ]at y hS⊢;have bVZ:Bw V Z:=aj B6 y;have OZ:=OV.H Fi.W bVZ;let⟨lb,q1,q2,q3,q4⟩:=YF (kd:=.u8) (Own.H O6 y);have elz:Fi Z (K,P) [.I K,.S B m N] lb:=⟨B,N,by rw[ae em],by rw[ae em];exact(Own.H O6 y).rd,by rw[ae em];exact⟨_,_,_,rfl,(Own.H O6 y).cap,(Own.H O6 y).GR⟩,by rw[ae em];exact q1⟩;let⟨cs,g1,g2,g3,g4,g5,g6,g7⟩:=id OZ;have M:=OV.lt;have hle:J (jT k iZ)<=2^20:=by rw[tz];omega
 have z9:U (Q W2)<=U (Q Z):=aM bVZ.size
 (try simp only[Act.put,xa,xb,xc])
 refine fy 9 λKK hK=>?_;refine Ve aY aY ie 2 underlying48 Ws jk fI gv rfl bf aY g4 1 1 [.I K,.S B m N] aY rfl hcZ (λu hu=>by simp at hu;obtain rfl|rfl:=hu<;>rfl) kW af z9 ?_;intro v' w9 gF hg il;have sn:=fG.snoc g1 g2 g3 g5 g6 g7 Fi.W elz rfl q2 af (λa ha=>(M.2 a ha).2) (λb hb=>(M.1 b hb).2) gF hg il;rw[<-Yl (hy)]at sn;have km:Bw W2 w9:=(aj (aj aC Ch) bVZ).grown hg z9 (λb hb=>(M.1 b hb).1);have K9:I w9 (Aw wr 0)=dI K/\I w9 (Aw wr 1)=dS pp m pc:=by
  have aP:Y (U (Q wr))≠jB u3:=λe=>by have:=ae HU3 _ e.C;omega
  exact⟨hg.cell hS.1 aP,hg.cell hS.2 aP⟩
 refine bS hK (by exact K9) λhS=>?_;refine tn 10 hS ?_;refine fQ ?_;have SN:=ai sn;go_wp2;go_roundw;exact⟨k+1,_,af,by go_num,SN,km⟩;exact dy};{
 have dm:=ga k n;obtain rfl:k=n:=af;have o2:=ae ho;rw[nZ (ae en▸fS _)]at o2;let⟨Jy,A,Ib,vT⟩:=o2.ev;obtain⟨pv,cv,rfl,-⟩:=id Jy;rw[ae en]at Jy Ib⊢;let⟨q0,q1,q2⟩:=ae HK;have c0:=aq q0 aC;have c1:=aq q1 aC;have tQ:=tQ.H af aC;let⟨r0,r1,r2⟩:=aH4 tQ.1;have rf:=tQ.2;have RD:=eG Jy Ib vT;have BQ:=aC.size;go_wp2;let⟨Jy,Ib,vT⟩:=ae RD;let⟨Z,hZ⟩:=aF (jS (jS (jS wr (Ax w 0) (.U iI)) (Ax w 1) (.I D)) (Ax w 2) (.S pv k cv));have hk:∀a∈A,Z.heap[a.b]?=wr.heap[a.b]?:=λa ha=>by have:=vT.lo a ha;rw[hZ];rw[gh _ _ _ _ bL,gh _ _ _ _ bL,gh _ _ _ _ bL]
 have hbZ:Bw w Z:=by rw[hZ];exact((BB.setCell al _).setCell al _).setCell al _
 refine cX (v:=jP #[.U iI,.I D,.S pv k cv]) (by simp[results,results143,go_sem,r0,r1,r2]) rfl ⟨pv,cv,rfl,?_⟩;rw[<-hZ];exact⟨Jy.kR Ib hk,A,lI.W Ib hk,(vT.W hk).h af,hbZ⟩}}
namespace iZ
open Go.Sort
theorem Ny:SWO ltInt:=swo_ltInt
abbrev Left(a b a1 b1:Nat)(d dk:Array Int):Prop:=∀R,PermIn a1 b1 dk R->SortedIn ltInt a1 b1 R->PermIn a b d R/\SortedIn ltInt a b R
theorem dC8(blk off cap N:Nat)(gj:N<=2^20):∀(n a b:Nat)(Zx:Int)(d:Array Int)(w:G),O (b-a=n)->O (d.size=N)->HU w blk off d->blk<U (Q w)->a<=b->b<=N->0<=Zx->Zx<=64->Go.Sort.Below ltInt a b d→
  dQ dG 260 #[.S (Ad blk off) N cap,.I a,.I b,.I Zx] w λe w'=>
   e=dR (dT #[])/\∃d',HU w' blk off d'/\PermIn a b d d'/\SortedIn ltInt a b d'/\jG w w' blk:=by
 intro n
 induction n using Nat.strongRecOn with
 |_ n ih=>
  intro a b Zx d w hn hN h oY DB hb sX Ar hB;have IH:=ai ih;go_in
  go_wp21
  go_loopw[1,2,3,8,9](λs1 s2 s3 s8 s9 wr=>∃(a1 j:Nat)(li:Int)(p q:Bool)(u:Array Int),s1=.I a1/\s2=.I j/\s3=.I li/\s8=jO p/\s9=jO q/\a<=a1/\a1<=j/\j<=b/\0<=li/\li<=64/\O (u.size=N)/\O (HU wr blk off u)/\O (Go.Sort.Below ltInt a1 j u)/\O (Left a b a1 j d u)/\O (jG w wr blk)) (λs1 s2 _ _ _ _=>jN (intOf s2-intOf s1))
  exact⟨a,b,Zx,dY,dY,d,rfl,rfl,rfl,rfl,rfl,fS _,DB,fS _,sX,Ar,hN,h,hB,λR h1 h2=>⟨h1,h2⟩,Pu⟩;{
 obtain⟨a1,j,li,p,q,u,rfl,rfl,rfl,rfl,rfl,z1,z2,z3,z4,z5,W,hH,hB,hF,hG⟩:=hrel;obtain⟨L,eL⟩:∃x:Nat,(j:Int)-(a1:Int)=(x:Int):=⟨j-a1,af⟩;have wL:=iM L;have s:j<=N:=af;by_cases Tu:L<=12;{
 have et0:(L:Int)<=12:=af
 go_wp21
 refine(dT8 (blk:=blk) (off:=off) (cap:=cap) (N:=N) (a:=a1) (b:=j) (d:=u) W hH z2 s gj).h ?_;rintro e w1⟨rfl,sy,fo⟩;let⟨HH1,HG1⟩:=aQ sy (jr hG fo);go_wp2;refine cX (BM (h:=rfl) _ _ _) rfl ⟨rfl,_,HH1,?_,?_,HG1⟩;{have:=insertionSort_holds Ny u a1 j z2 (ae W▸s);exact(ae hF _ this.1 this.2).1};{have:=insertionSort_holds Ny u a1 j z2 (ae W▸s);exact(ae hF _ this.1 this.2).2}};{
 have et0:¬(L:Int)<=12:=af;by_cases hli:li=0;{
 subst hli
 go_wp21
 refine(eh3 (blk:=blk) (off:=off) (cap:=cap) (N:=N) (a:=a1) (b:=j) (d:=u) W hH z2 s gj).h ?_;rintro e w1⟨rfl,sy,fo⟩;go_wp2;refine cX (BM (h:=rfl) _ _ _) rfl ⟨rfl,_,sy,?_,?_,jr hG fo⟩;{have:=heapSort_holds Ny u a1 j z2 (ae W▸s);exact(ae hF _ this.1 this.2).1};{have:=heapSort_holds Ny u a1 j z2 (ae W▸s);exact(ae hF _ this.1 this.2).2}};{
 have h8:a1+8<=j:=af
 go_upto_if 35 with fail
 go_cut[3](λs3 wc=>∃(lj:Int)(V:Array Int),s3=.I lj/\0<=lj/\lj<=64/\O (V.size=N)/\O (HU wc blk off V)/\O (PermIn a1 j u V)/\O (jG w wc blk))
 case first=>(
 cases p with
 |true=>
  go_wp21
  go_meet;exact⟨li,u,rfl,z4,z5,W,hH,permIn_refl u a1 j,hG⟩
 |false=>
  go_wp21
  refine(eU4 (blk:=blk) (off:=off) (cap:=cap) (N:=N) (a:=a1) (b:=j) (d:=u) W hH (mH oY hG.size) h8 s gj).h ?_;rintro e w1⟨rfl,V,sy,Kg,fo⟩;have Nk:=ai Kg
  go_wp21
  go_meet;exact⟨li-1,V,by first|rfl|go_num,af,af,Nk.1.Z W,sy,Nk,jr hG fo⟩)
 obtain⟨lj,V,rfl,y1,y2,Pj,sy,Kg,ID⟩:=hcut;let⟨Y1,eY1⟩:=aF wc;subst eY1
 go_wp21
 refine(dC4 (blk:=blk) (off:=off) (cap:=cap) (N:=N) (a:=a1) (b:=j) (d:=V) Pj sy (mH oY ID.size) h8 s gj).h ?_;rintro e w2⟨pv,t,rfl,v1,v2,uw,fx⟩;let⟨HH2,HG2⟩:=aQ uw (jr ID fx)
 go_upto_if 50 with fail
 go_cut[11,12](λYE s12 wc=>∃(M:Nat)(tt:Int)(Z:Array Int),YE=.I M/\s12=.I tt/\a1<=M/\M<j/\O (Z.size=N)/\O (HU wc blk off Z)/\O (PermIn a1 j V Z)/\O (jG w wc blk))
 case first=>(
 by_cases ht:t=2;{
 subst ht;have q1:jY jV ((j:Int)-1)=(j:Int)-1:=nW _ af;have q2:jY jV ((pv:Int)-(a1:Int))=(pv:Int)-(a1:Int):=nW _ af;obtain⟨nv,env⟩:∃x:Nat,(j:Int)-1-((pv:Int)-(a1:Int))=(x:Int):=⟨j-1-(pv-a1),af⟩;have q3:=iM nv;have bn:a1<=nv/\nv<j:=af
 go_wp21
 refine(dy6 (blk:=blk) (off:=off) (cap:=cap) (N:=N) (a:=a1) (b:=j) (d:=V) Pj HH2 z2 s gj).h ?_;rintro e w3⟨rfl,xo,sY⟩;let⟨HH3,HG3,XG⟩:=gC xo (jr HG2 sY) (reverseRange_holds V a1 j z2 (ae Pj▸s))
 go_wp21
 go_meet;exact⟨nv,1,_,rfl,rfl,bn.1,bn.2,XG.1.Z Pj,HH3,XG,HG3⟩};{
 have V9:(t==2)=dF:=by simp[ht]
 go_wp21
 go_meet;exact⟨pv,t,V,rfl,rfl,v1,v2,Pj,HH2,permIn_refl V a1 j,HG2⟩})
 obtain⟨M,tt,Z,rfl,rfl,x1,x2,hD2,uw,uT,Tp⟩:=hcut;let⟨Y2,TK⟩:=aF wc;subst TK
 go_upto_region 15 with fail
 go_cut[68](λs68 wc=>∃Bq:Bool,s68=jO Bq/\wc=Y2)
 case first=>(
 cases p<;>cases q
 all_goals
  go_wp21
  go_meet;exact⟨_,rfl,rfl⟩)
 obtain⟨Bq,rfl,rfl⟩:=hcut
 go_upto_if 68 with fail
 go_cut[72](λs72 wc=>∃D:Array Int,O (D.size=N)/\O (HU wc blk off D)/\O (PermIn a1 j Z D)/\O (jG w wc blk))
 case first=>(
 cases Bq with
 |false=>
  go_wp21
  go_meet;exact⟨Z,hD2,uw,permIn_refl Z a1 j,Tp⟩
 | true=>
  go_wp21
  refine(dD2 (blk:=blk) (off:=off) (cap:=cap) (N:=N) (a:=a1) (b:=j) (d:=Z) hD2 uw af s gj).h ?_;have UE:=ai (partialInsertionSort_holds Ny Z a1 j af (ae hD2▸s) ((hB.perm (ae W▸s) Kg).perm (ae Pj▸s) uT));generalize partialInsertionSort ltInt Z a1 j=R at UE;obtain⟨R1,R2⟩:=R;rintro e w3⟨rfl,xo,sY⟩;let⟨HH3,HG3⟩:=aQ xo (jr Tp sY);cases R2 with
  |true=>
   go_wp2;refine cX (BM (h:=rfl) _ _ _) rfl ⟨rfl,R1,HH3,?_,?_,HG3⟩;{exact(ae hF R1 (permIn_trans _ _ _ a1 j (permIn_trans _ _ _ a1 j Kg uT) UE.1) (UE.2 (by first|trivial|rfl))).1};{exact(ae hF R1 (permIn_trans _ _ _ a1 j (permIn_trans _ _ _ a1 j Kg uT) UE.1) (UE.2 (by first|trivial|rfl))).2}
  |false=>
   go_wp21
   go_meet;exact⟨R1,UE.1.1.Z hD2,HH3,UE.1,HG3⟩)
 obtain⟨D,Tq,xo,eo5,Kh⟩:=hcut;let⟨Y3,eY3⟩:=aF wc;subst eY3;have hP3:O (PermIn a1 j u D):=permIn_trans _ _ _ a1 j (permIn_trans _ _ _ a1 j Kg uT) eo5;have Pk:O (Go.Sort.Below ltInt a1 j D):=hB.perm (ae W▸s) hP3
 go_upto_region 17 with fail
 go_cut[87](λs87 wc=>∃B:Bool,s87=jO B/\O (B->0<a1/\ltInt D[a1-1]! D[M]! = dF)/\wc=Y3.drew)
 case first=>(
 by_cases ha:0<a1;{
 have DC:=uX 0 a1;obtain⟨m,em⟩:∃x:Nat,(a1:Int)-1=(x:Int):=⟨a1-1,af⟩;have PM:a1-1=m:=af;have wm:=iM m;have qD:=ae Tq;obtain⟨c1,-⟩:=ae xo m af;obtain⟨c2,-⟩:=ae xo M af;let⟨x,ex⟩:=bu D[m]!;let⟨y,ey⟩:=bu D[M]!;rw[ex]at c1;rw[ey]at c2;have k1:=cM m N;have k2:=cM M N;have k3:=gS 0 m;let⟨Lt,eLt⟩:=bu (ltInt x y);have K0:=bG c1 c2;refine fw (λw'=>I w' (Ad blk (off+m))=dU x/\I w' (Ad blk (off+M))=dU y) K0 λhS=>?_;refine gr 0 1 2 3 4 5 6 7 hS ?_;refine iy 8 9 10 11 hS ?_;refine fy 12 λKK hK=>?_;refine Lh aY (f:=273) aY (v1:=.U x) (v2:=.U y) aY aY (λ_=>MU) (LY (x:=x) (y:=y)) ?_;rintro r' w2'⟨rfl,rfl⟩;refine fE ?_;rw[eLt];refine bS hK K0 λhS=>?_;refine fu 13 14 hS ?_;refine fQ ?_
 go_wp21
 go_meet;exact⟨_,rfl,(λaR=>⟨ha,by rw[PM,ex,ey,eLt];simpa using aR⟩),rfl⟩};{
 have DC:¬(0:Int)<(a1:Int):=af;refine fw (λw'=>True) iH λhS=>?_;refine fu 0 1 hS ?_;refine tn 2 hS ?_;refine iT 3 4 5 6 hS ?_;refine iT 7 8 9 10 hS ?_;refine sn 11 hS ?_;refine sn 12 hS ?_;refine sn 13 hS ?_;refine tn 14 hS ?_;refine fQ ?_
 go_wp21
 go_meet;exact⟨dF,rfl,(λh=>by cases h),rfl⟩})
 obtain⟨B,rfl,hBB,rfl⟩:=hcut;cases B with
 |true=>
  obtain⟨⟨r,d4⟩,X⟩:∃R,partitionEqual ltInt D a1 j M=R:=⟨_,rfl⟩;have hc:=dD3 (blk:=blk) (off:=off) (cap:=cap) (N:=N) (a:=a1) (b:=j) (piv:=M) (d:=D) Tq (w:=Y3.drew) xo x1 x2 s gj;rw[X]at hc;let⟨m1,m2,m3,m4,m5⟩:=round_eq Ny (partitionEqual_holds ltInt) (ae hBB rfl).1 x1 x2 (ae Tq▸s) Pk (ae hBB rfl).2 X;have HL4:O (Left a b r j d d4):=λR r1 r2=>by have:=m5 R r1 r2;exact hF R (permIn_trans _ _ _ a1 j hP3 this.1) this.2
  go_wp21
  refine hc.h ?_;rintro e w4⟨rfl,Cl,nC⟩;go_wp2;go_roundw;exact⟨r,j,lj,p,q,d4,rfl,rfl,rfl,rfl,rfl,af,af,af,af,af,m3.Z Tq,Cl,m4,HL4,jr (gI Kh) nC⟩;exact dy
 |false=>
  obtain⟨⟨r,ap,d4⟩,X⟩:∃R,partition ltInt D a1 j M=R:=⟨_,rfl⟩;have hc:=dD4 (blk:=blk) (off:=off) (cap:=cap) (N:=N) (a:=a1) (b:=j) (piv:=M) (d:=D) Tq (w:=Y3.drew) xo x1 x2 s gj;rw[X]at hc;let⟨m1,m2,m3,m4,m5,m6,m7⟩:=round_part Ny (partition_holds ltInt) x1 x2 (ae Tq▸s) Pk X;have QA:O (d4.size=N):=m3.Z Tq;let⟨Nn,AU,HL6,HL7⟩:=zk m4 m5 m6 m7;obtain⟨lL,elL⟩:∃x:Nat,(r:Int)-(a1:Int)=(x:Int):=⟨r-a1,af⟩;obtain⟨rL,erL⟩:∃x:Nat,(j:Int)-(r:Int)=(x:Int):=⟨j-r,af⟩;have wlL:=iM lL;have wrL:=iM rL;obtain⟨th,eth⟩:∃x:Nat,(L:Int) / 8=(x:Int):=⟨L / 8,af⟩;have fF0:Int.tdiv (L:Int) 8=(th:Int):=eth▸Int.tdiv_eq_ediv_of_nonneg af;have wth:=iM th
  go_wp21
  refine hc.h ?_;rintro e w4⟨rfl,Cl,nC⟩;let⟨HH4,HG4⟩:=aQ Cl (jr (gI Kh) nC);by_cases hlr:lL<rL;{
 have eb7:=cM lL rL
 go_wp21
 refine(ae IH (r-a1) (aM (ae hn)) a1 r lj d4 _ rfl QA HH4 (mH oY HG4.size) m1 af y1 y2 Nn).h ?_;rintro e w5⟨rfl,d5,Az,Ti,hS5,mY⟩;let⟨o1,o2⟩:=ae HL6 d5 Ti hS5;have UI:O (Left a b (r+1) j d d5):=λR r1 r2=>by have:=o2 R r1 r2;exact hF R (permIn_trans _ _ _ a1 j hP3 this.1) this.2
 go_wp2;go_roundw;exact⟨r+1,j,lj,_,ap,d5,by first|rfl|go_num,rfl,rfl,rfl,rfl,af,af,af,af,af,Ti.1.Z QA,Az,o1,UI,jr HG4 mY⟩;exact dy};{
 have eb7:=ga lL rL;obtain⟨mp,emp⟩:∃x:Nat,(r:Int)+1=(x:Int):=⟨r+1,af⟩;have eD5:r+1=mp:=af;have wmp:=iM mp;rw[eD5]at AU HL7
 go_wp21
 refine(ae IH (j-mp) (aM (ae hn)) mp j lj d4 _ rfl QA HH4 (mH oY HG4.size) af af y1 y2 AU).h ?_;rintro e w5⟨rfl,d5,Az,Ti,hS5,mY⟩;let⟨o1,o2⟩:=ae HL7 d5 Ti hS5;have UI:O (Left a b a1 r d d5):=λR r1 r2=>by have:=o2 R r1 r2;exact hF R (permIn_trans _ _ _ a1 j hP3 this.1) this.2
 go_wp2;go_roundw;exact⟨a1,r,lj,_,ap,d5,rfl,rfl,rfl,rfl,rfl,af,af,af,af,af,Ti.1.Z QA,Az,o1,UI,jr HG4 mY⟩
 case measure=>simp[intOf];omega}}}}
end iZ
namespace iZ
open Go.Sort
variable {w:G}{cap:Nat}
theorem dT7:dQ dG 267 #[.S dN 0 cap,.I 0,.I 0] w λe w'=>e=dR (dT #[])/\w'=w:=by
 go_in
 go_wp21
 go_loopw[6](λi wr=>i=.I 1/\wr=w) (λ_ _=>0)
 exact⟨rfl,rfl⟩;{obtain⟨rfl,rfl⟩:=hrel;go_wp2;go_end0;exact⟨rfl,rfl⟩}
theorem dC7:dQ dG 260 #[.S dN 0 cap,.I 0,.I 0,.I 0] w λe w'=>e=dR (dT #[])/\w'=w:=by
 go_in
 go_wp21
 go_loopw[1,2,3,8,9](λq o m j i wr=>q=.I 0/\o=.I 0/\m=.I 0/\j=jO dY/\i=jO dY/\wr=w) (λ_ _ _ _ _ _=>0)
 exact⟨rfl,rfl,rfl,rfl,rfl,rfl⟩;{
 obtain⟨rfl,rfl,rfl,rfl,rfl,rfl⟩:=hrel
 go_wp21
 refine(dT7).h ?_;rintro e r⟨rfl,rfl⟩;go_wp2;exact cX (BM (h:=rfl) _ _ _) rfl ⟨rfl,rfl⟩}
theorem bU9(cap:Nat)(w:G):dQ dG 245 #[.S dN 0 cap] w λe w'=>e=dR (dT #[])/\w'=w:=by
 have i:=be5 (n:=0) af;have m:Lib.bitLen 0=0:=bf;rw[m]at i;go_in
 go_wp21
 refine(i _).h ?_;rintro e j⟨rfl,rfl⟩
 go_wp21
 refine(dC7).h ?_;rintro e j⟨rfl,rfl⟩;go_wp2;go_end0;exact⟨rfl,rfl⟩
variable {d:Array Int}
theorem ds4{blk off cap N:Nat}(x:O (d.size=N))(s:N<=2^20)(h:HU w blk off d)(u:blk<U (Q w)):dQ dG 245 #[.S (Ad blk off) N cap] w λe w'=>
   e=dR (dT #[])/\∃i,HU w' blk off i/\PermIn 0 N d i/\SortedIn ltInt 0 N i/\jG w w' blk:=by
 have q:=be5 s;have hK:Lib.bitLen N<=21:=Lib.bitLen_le N 21 af af;generalize Lib.bitLen N=K at q hK;have y:jY jU (N:Int)=(N:Int):=by rw[wV];omega
 change O _ at h
 go_in
 go_wp21
 refine(q _).h ?_;rintro e D⟨rfl,rfl⟩
 go_wp21
 refine(dC8 blk off cap N s N 0 N K d _ (ai (by omega)) x h u (de _) aU af af (Or.L rfl)).h ?_;rintro e B⟨rfl,i,r,o,m,j⟩
 change O _ at r o m j
 go_wp2;go_end0;exact⟨rfl,i,r,o,m,j⟩
theorem bV0(blk off cap:Nat)(l:LI)(D:Mg (J l))(w:G)(h:HU w blk off l.toArray)(m:blk<U (Q w)):Cp 245 #[.S (Ad blk off) (J l) cap] w λe w'=>
   e=dR (dT #[])/\HU w' blk off (l.mergeSort (λx y=>dD (x<=y))).toArray/\jG w w' blk:=by
 refine(ds4 (ai (by simp)) D h m).h ?_;rintro e w'⟨rfl,i,s,r,q,o⟩;refine⟨rfl,?_,o⟩;have e:=sorted_unique_holds Ny (λx y B u=>by simp[ltInt]at B u;omega) l.toArray i (by simpa using r) (by simpa using q);have M:(λx y:Int=>!ltInt y x)=(λx y=>dD (x<=y)):=by
  funext x y
  by_cases j:x<=y;{rw[LG j];simp[ltInt];omega};{rw[NQ j];simp[ltInt];omega}
 rw[M]at e;have E:i=(l.mergeSort (λx y=>dD (x<=y))).toArray:=by rw[<-show i.toList.toArray=i from by simp,e]
 rw[<-E];exact s
end iZ
namespace iZ
open Go.Sort
variable {p:Prop}
theorem scE(h:p:=by
    have h1:1<=n:=af;have haf:Fence.wide.fn 259:=iH;have hbf:Fence.wide.fn 262:=iH
    first|refine yI func244 rfl iH ?_ rfl|refine yI func247 rfl iH ?_ rfl
    simp only[ntmps244,ntmps247,GX,Nat.reduceAdd,Nat.reduceSub]
    gi_wp2_with((first|gi_at_call 259|gi_at_call 262);refine(cQ4 (n-1) af g lb eg S Sp N hN _ Ov).h ?_;rintro e w'⟨v,ss,rfl,hS,gF,Wk,hb⟩)
    go_ret;exact⟨v,ss,rfl,hS,gF,Wk,hb⟩):p:=h
theorem cL5(n:Nat)(i:3<=n)(g:Nat)(lb:iA)(eg:∀args w,(callFunc g args).run dG w=.ok (.enter g args) w)(S Sp:LI->Prop)(N:Nat)(hN:N<=2^20)(w:G)(Ov:SeqStopsK Fence.wide (n-1-1) dG g lb (λx:Int=>#[pO x]) KeepsWalks S Sp N w):CallsIn Fence.wide n dG 244 #[.func (.func g) #[] lb] w λe w'=>∃(v:dV)(ss:LI),e=dR v/\S ss/\w'.ownsRow (U (Q w)+1) 27 1 v (J ss) (ss.map pO)/\(v=ay↔ss=[])/\Bw w w':=scE
variable {w:G}{e:TypeId}{g:Nat}{cur:iA}
theorem dX7{α:Type}{enc:α->dV}{ss:List α}[Inhabited α](m:w.heap[g]?=dO cur e (0,0))(q:jT (J ss) cur.toList=ss.map enc):Holds enc w g 0 ss.toArray:=by
  intro j r;have i:j<J ss:=by simpa using r
  refine⟨?_,by simp[World.frozen?,m]⟩;have o:(jT (J ss) cur.toList)[j]?=(ss.map enc)[j]?:=by rw[q]
  rw[dL8 i]at o;simp only[World.cell?,m,nY];simp only[ci9,JB,BK];rw[<-bd2,o];simp[i]
def Na(B:Nat)(w:G)(v:dV)(ss:LI):Prop:=(v=ay/\ss=[])\/∃g i,v=.T g (J ss) i/\B<=g/\g<U (Q w)/\HU w g 0 ss.toArray
structure Np{H:Type}(D0:DataW H)(ss:LI):Prop where
  lt:ss.Pairwise (·<·)
  mem:∀x,x∈ss↔has D0 (.U x)=dY
  size:J ss<=Maps.size D0
variable {ss:LI}
theorem cP8{H:Type}{j:DataW H}(h:Hf j ss):Np j (ss.mergeSort (λx y=>dD (x<=y))):=by
  have i:=List.mergeSort_perm ss (λx y=>dD (x<=y));refine⟨?_,λx=>(i.mem_iff).Z (h.2.1 x),by rw[i.length_eq];exact h.2.2⟩;exact((ci7 (le:=λx y:Int=>dD (x<=y)) (λa b c o m=>by simp at*;omega) (λa b=>by simp;omega) ss).and (i.nodup_iff.2 h.1)).imp (λ{a b}⟨x,y⟩=>by simp at x;omega)
theorem scG(h:p:=by
    have h1:1<=n:=af;have haf:Fence.wide.fn 244:=iH;have hbf:Fence.wide.fn 247:=iH;have lG:Fence.wide.fn 245:=iH;have hdf:Fence.wide.fn 248:=iH
    first|refine yI func210 rfl iH ?_ rfl|refine yI func212 rfl iH ?_ rfl
    simp only[ntmps210,ntmps212,GX,Nat.reduceAdd,Nat.reduceSub]
    gi_wp2_with((first|gi_at_call 244|gi_at_call 247);refine(cL5 (n-1) af g lb eg S Sp N hN _ Ov).h ?_;rintro e w'⟨v,ss,rfl,hSs,gF,Wk,hb⟩)
    obtain⟨rfl,_⟩|⟨gb,cap,cur,rfl,Pc,hgb,nj,iK,tF,Gu⟩:=gF.2;{
 obtain rfl:ss=[]:=Wk.1 rfl
 gi_wp2_with((first|gi_at_call 245|gi_at_call 248);refine(JI.2 (bU9 0 _)).h ?_;rintro e w2⟨rfl,rfl⟩)
 go_ret;exact⟨_,[],rfl,hSs,.L ⟨rfl,al⟩,hb⟩};{
 have aH:gb<U w'.heap:=(LF.1 hgb).1;have hH:=dX7 hgb (by simpa using Gu)
 gi_wp2_with((first|gi_at_call 245|gi_at_call 248);refine(JI.2 (bV0 gb 0 cap ss (hS ss hSs) _ hH aH)).h ?_;rintro e w2⟨rfl,uw,fx⟩)
 go_ret;refine⟨_,ss,rfl,hSs,.R ⟨gb,cap,by rw[List.length_mergeSort];rfl,af,mH aH fx.size,uw⟩,?_⟩;exact hb.grown fx hb.size (λk e=>by cases e;omega)}):p:=h
theorem bU8(n:Nat)(i:4<=n)(g:Nat)(lb:iA)(eg:∀args w,(callFunc g args).run dG w=.ok (.enter g args) w)(S Sp:LI->Prop)(N:Nat)(hN:N<=2^20)(hS:∀ss,S ss->J ss<=2^20)(w:G)(Ov:SeqStopsK Fence.wide (n-1-1-1) dG g lb (λx:Int=>#[pO x]) KeepsWalks S Sp N w):CallsIn Fence.wide n dG 210 #[.func (.func g) #[] lb] w λe w'=>∃(v:dV)(ss:LI),e=dR v/\S ss/\Na (U (Q w)) w' v (ss.mergeSort (λx y=>dD (x<=y)))/\Bw w w':=scG
theorem scH(h:p:=by
    refine(JI (n:=6)).1 ?_;have haf:Fence.wide.fn 211:=iH;have hbf:Fence.wide.fn 250:=iH;have lG:Fence.wide.fn 213:=iH;have hdf:Fence.wide.fn 210:=iH;have hef:Fence.wide.fn 212:=iH;have yS:=dw.lt;have Mf:∀t,(w.alloc (dO #[.map b] t)).ownsMap dG kT R b nn D0:=by obtain⟨es,clock,hb,Ft,hs,hD⟩:=dw;exactλt=>⟨es,clock,(Za _ _ b yS).Z hb,Ft,hs,hD⟩
    first|refine yI func142 rfl iH ?_ rfl|refine yI func214 rfl iH ?_ rfl|refine yI func144 rfl iH ?_ rfl
    simp only[ntmps142,ntmps214,ntmps144,GX,Nat.reduceAdd,Nat.reduceSub]
    gi_wp2_with(first
      | ((first|gi_at_call 211|gi_at_call 250|gi_at_call 213);first|refine(cm4 _ _ _).h ?_|refine(dR8).h ?_
         rintro e w'⟨rfl,rfl⟩)
      |((first|gi_at_call 210|gi_at_call 212);refine CallsIn.h (bU8 5 af _ _ (λargs w=>aS) (Hf D0) (λ_=>True) _ gj (λss h=>gq h.2.2 gj) _ (by first|exact bS8 2 af (U w.heap) b nn D0 _ al al (Mf _)|exact dn9 af al al (Mf _))) ?_;rintro e w'⟨v,ss,rfl,hS,yO,hb⟩))
    go_ret;refine⟨v,_,rfl,cP8 hS,?_,((bD _ w).alloc aU _).Z (hb.h al)⟩;obtain h|⟨g,cap,h1,h2,h3,h4⟩:=yO;{exact .L h};{exact .R ⟨g,cap,h1,by simp at h2;omega,h3,h4⟩}):p:=h
theorem Yv{H:Type}(b nn:Nat)(D0:DataW H){R:dV->Option (DataW H×List MemPlace)}(w:G)(dw:jM w dG 27 R b nn D0)(gj:Maps.size D0<=2^20):Cp 142 #[.map b] w λe w'=>∃(v:dV)(ss:LI),e=dR v/\Np D0 ss/\Na (U (Q w)) w' v ss/\Bw w w':=scH
theorem aR9{H:Type}(b nn:Nat)(D0:DataW H){R:dV->Option (DataW H×List MemPlace)}(w:G)(dw:jM w dG 27 R b nn D0)(gj:Maps.size D0<=2^20):Cp 214 #[.map b] w λe w'=>∃(v:dV)(ss:LI),e=dR v/\Np D0 ss/\Na (U (Q w)) w' v ss/\Bw w w':=scH
end iZ
theorem aV0{ss:LI}(h:iZ.Na B w v ss):∃p c A,v=.S p (J ss) c/\kI w (.S p (J ss) c) ss/\Fu (.S p (J ss) c) ss A/\gp B w A:=by
 obtain⟨rfl,rfl⟩|⟨g,q,rfl,hb,y,M⟩:=h;{exact⟨dN,0,[],rfl,⟨dN,0,rfl,.L rfl⟩,⟨dN,0,[],rfl,rfl,rfl,.L rfl⟩,gp.nil _ _⟩};{
 have hc:∀i,i<J ss->I w (Ad g (0+i))=dU (jE ss i 0)/\jF w (Ad g (0+i))=dF:=λi m=>by
  have:=M i (by simpa using m);simp only[List.getElem!_toArray]at this;rw[ko,bN m];have e:ss[i]! = ss[i]:=by simp[m]
  first|(rw[e]at this;exact this)|simpa[m]using this
 refine⟨Y (Ad g 0),q,(jR (J ss)).map λi=>⟨g,0+i,jU⟩,rfl,⟨_,_,rfl,.R ⟨g,0,rfl,λi m=>(hc i m).1⟩⟩,⟨Y (Ad g 0),q,(jR (J ss)).map λi=>[⟨g,0+i,jU⟩],rfl,al,?_,.R ⟨g,0,rfl,λi x N R y=>?_⟩⟩,⟨?_,λa s=>?_,λa s=>?_⟩⟩;{
 induction(jR (J ss))with
 |nil=>rfl
 |cons i r ih=>rw[od,od,vF,<-ih];rfl}
 {let⟨m,e⟩:=bH.1 y;simp at e;rw[<-e,El,nY];rfl};{rw[uI,List.Nodup,Db];exact bb9.imp (λ{i j}E=>by simpa using E)};{obtain⟨i,m,rfl⟩:=fM.1 s;exact hb};{obtain⟨i,m,rfl⟩:=fM.1 s;let⟨h1,h2⟩:=hc i (by simpa using m);exact⟨⟨_,h1⟩,h2⟩}}
theorem aH1:∀{l m:LI},l.Pairwise (·<·)->m.Pairwise (·<·)->(∀x,x∈l↔x∈m)->l=m
 |[],[],_,_,_=>rfl
 |[],b::m,_,_,h=>absurd ((h b).2 al) al
 |a::l,[],_,_,h=>absurd ((h a).1 al) al
 |a::l,b::m,h1,h2,h=>by
  rw[LU]at h1 h2;have o:a=b:=by obtain e|e:=gD.1 ((h a).1 al);{exact e};{obtain j|j:=gD.1 ((h b).2 al);{exact j.C};{have:=h2.1 a e;have:=h1.1 b j;omega}}
  subst o;rw[aH1 h1.2 h2.2 (λx=>?_)];constructor;{intro i;obtain e|e:=gD.1 ((h x).1 (by simp[i]));{have:=h1.1 x i;omega};{exact e}};{intro i;obtain e|e:=gD.1 ((h x).2 (by simp[i]));{have:=h2.1 x i;omega};{exact e}}
theorem bW7{s ss:LI}(h:lX D s)(o:s.Pairwise (·<·))(j:iZ.Np D ss):ss=s:=by
 refine aH1 j.lt o λx=>?_;rw[j.mem x,h];constructor;{rintro⟨i,q,e⟩;simp only[NR,Ef]at e;rw[e];exact q};{intro m;exact⟨x,m,rfl⟩}
structure KN(w:G)(g h u:Nat)(V:dV)(nd:au):Prop where
 blk:w.heap[g]?=dO #[V,.U nd.D,.I nd.M,.map h,.U nd.P,.U nd.F,.map u] 193
 val:Rd w V nd.V
 Ey:∃D,jM w dG 27 unitElem h (J nd.y) D/\lX D nd.y
 CG:∃D,jM w dG 27 unitElem u (J nd.X) D/\lX D nd.X
structure PB(w:G)(M N:Nat)(v:dV)(xs:LI)(A:List Lf):Prop where
 rd:Rd w v xs
 cap:vU v
 lv:oz v xs A
 ap:gp M w A
 hi:∀a∈A,a.b<N
structure PU(w:G)(M N:Nat)(v:dV)(xs:LI)(A:List Lf):Prop where
 rd:kI w v xs
 lv:Fu v xs A
 ap:gp M w A
 hi:∀a∈A,a.b<N
theorem PB.H(h:PB w M N v xs A)(i:Bw w w'):PB w' M N v xs A:=
 ⟨h.rd.H i,h.cap,h.lv,h.ap.W (λa j=>i.block _ (h.ap.ke.lt j)),h.hi⟩
theorem PU.H(h:PU w M N v xs A)(i:Bw w w'):PU w' M N v xs A:=
 ⟨h.rd.H i,h.lv,h.ap.W (λa j=>i.block _ (h.ap.ke.lt j)),h.hi⟩
theorem Own.pb(h:Own B w (.S p n c) l):∃A,PB w B (U (Q w)) (.S p n c) l A:=by
 let⟨A,j,i,q,o⟩:=YF (kd:=.u8) h;exact⟨A,h.rd,⟨_,_,_,rfl,h.cap,h.GR⟩,j,i,λa m=>i.ke.lt m⟩
theorem gp.bC6(h:gp B w A)(j:gp B w A2)(s:∀a∈A,∀m∈A2,a.b≠m.b):gp B w (A++A2):=by
 refine⟨?_,λa i=>?_,fk.app.2 ⟨h.ke,j.ke⟩⟩;{rw[uk,Gm];refine⟨h.nd,j.nd,λx r y q=>?_⟩;obtain⟨a,i,rfl⟩:=fM.1 r;obtain⟨m,o,rfl⟩:=fM.1 q;intro e;simp only[lE]at e;exact s a i m o e.1};{obtain i|i:=jl.1 i;{exact h.lo a i};{exact j.lo a i}}
theorem cO5(o:aD l)(i:j<J l):(((bg l).data.toList.getD j 0).toNat:Int)=jE l j 0:=by
 rw[<-(cO6 o (by rw[DQ];exact i))];have m:j<(bg l).data.toList.length:=by rw[MV];simpa using i
 rw[ko,bN m];rfl
theorem cL0(w:G)(Z:aD l)(N:Mg (J l)):∃E R W A,(convert 9 22 (jJ (bg l))).run dG w=.ok (.S E (J l) R) W/\PB W (U (Q w)) (U (Q W)) (.S E (J l) R) l A/\Bw w W:=by
 have B:=Lib.run_convert_string_bytes (P:=dG) w 9 22 5 (bg l) underlying9 underlying22 underlying5;rw[DQ]at B;let⟨W,m⟩:=aF (Lib.bytesWorld w 5 (bg l));have gj:U (Q W)=U (Q w)+1:=by rw[m];exact Lib.bytesWorld_size _ _ _
 have M:∀j,j<J l->I W (Aw w (0+j))=Y (jK .u8 (jE l j 0)):=λj y=>by rw[m,nY,Lib.bytesWorld_cell _ _ _ _ (by rw[DQ];exact y),cO5 Z y]
 have SR:∀j,j<J l->jF W (Aw w (0+j))=dF:=λj y=>by
  have hs:j<(Lib.bytesCells w 5 (bg l)).size:=by simp only[Lib.bytesCells,aZ2,Array.size_map];have:(bg l).data.size=J l:=DQ (l:=l);omega
  rw[m,nY];simp only[World.frozen?,Lib.bytesWorld_at_new w 5 (bg l)];simp;omega
 have hb:Bw w W:=by refine⟨by rw[m];rfl,by rw[m];rfl,by rw[m];rfl,af,λk X=>by rw[m];exact Lib.bytesWorld_at_old _ _ _ _ X⟩
 rw[<-m]at B;refine⟨_,_,_,(jR (J l)).map λi=>⟨U (Q w),0+i,.u8⟩,B,⟨⟨_,_,rfl,.R ⟨U (Q w),0,rfl,M⟩⟩,⟨_,_,_,rfl,au3 _ _ _ _,au2 _ _ _ _ kW⟩,⟨Y (Aw w 0),_,(jR (J l)).map λi=>[⟨U (Q w),0+i,.u8⟩],rfl,al,?_,.R ⟨U (Q w),0,rfl,λi x l' hx N=>?_⟩⟩,⟨?_,λa s=>?_,λa s=>?_⟩,λa s=>?_⟩,hb⟩;{
 induction(jR (J l))with
 |nil=>rfl
 |cons i r ih=>rw[od,od,vF,<-ih];rfl}
 {let⟨q,e⟩:=bH.1 N;simp at e;rw[<-e,El,nY];rfl};{rw[uI,List.Nodup,Db];exact bb9.imp (λ{i j}V=>by simpa using V)};{obtain⟨i,q,rfl⟩:=fM.1 s;exact fS _};{obtain⟨i,q,rfl⟩:=fM.1 s;exact⟨⟨_,M i (by simpa using q)⟩,SR i (by simpa using q)⟩};{obtain⟨i,q,rfl⟩:=fM.1 s;simp only;omega}
theorem do2{r:iE}(q:o.guard=dN)(m:o.op=Op.convert 9 22 x)(s:a.eval x=jJ (bg l))(M:aD l)(y:Mg (J l))(hK:∀i j w' A,PB w' (U (Q w)) (U (Q w')) (.S i (J l) j) l A->Bw w w'->K (a.put o.dst (.S i (J l) j)) w'):if jW o (yielded ops a.tmps)then Oper.wp dG o a w K r else E:=by
 have u:jW o (yielded ops a.tmps):=by simp[jW,q]
 rw[aK u];let⟨i,j,W,A,N,D,B⟩:=cL0 w M y;unfold Oper.wp;simp only[execOp,m,s,Ri,ba2,au0,N,Result.andThen];exact hK _ _ _ _ D B
theorem mB.mk4{X W V R:OA}{c0 c1 c4 Z x M M1 E N N4 u N7:Nat}{l0 l1 D y:List Lf}(o:PB w x M (.S X (J nd.A) c0) nd.A l0)(s:PB w M1 E (.S W (J nd.V) c1) nd.V l1)(r:PU w N N4 (.S V (J nd.y) c4) nd.y D)(q:PU w u N7 (.S R (J nd.X) Z) nd.X y)(b0:B<=x)(b1:B<=M1)(b4:B<=N)(b7:B<=u)(d01:M<=M1\/E<=x)(d04:M<=N\/N4<=x)(d07:M<=u\/N7<=x)(d14:E<=N)(d17:E<=u)(d47:N4<=u):mB w nd [.S X (J nd.A) c0,.S W (J nd.V) c1,.U nd.D,.I nd.M,.S V (J nd.y) c4,.U nd.P,.U nd.F,.S R (J nd.X) Z] (l0++(l1++(D++y)))/\gp B w (l0++(l1++(D++y))):=by
 refine⟨⟨X,c0,W,c1,V,c4,R,Z,l0,l1,D,y,rfl,rfl,⟨o.rd,o.cap,o.lv⟩,⟨s.rd,s.lv⟩,⟨r.rd,r.lv⟩,⟨q.rd,q.lv⟩⟩,?_⟩;refine(o.ap.h b0).bC6 ((s.ap.h b1).bC6 ((r.ap.h b4).bC6 (q.ap.h b7) λa j m i e=>?_) λa j m i e=>?_) λa j m i e=>?_;{have:=r.hi a j;have:=q.ap.lo m i;omega};{obtain i|i:=jl.1 i;{have:=s.hi a j;have:=r.ap.lo m i;omega};{have:=s.hi a j;have:=q.ap.lo m i;omega}};{obtain i|i:=jl.1 i;{have:=o.hi a j;have:=o.ap.lo a j;have:=s.hi m i;have:=s.ap.lo m i;omega};{obtain i|i:=jl.1 i;{have:=o.hi a j;have:=o.ap.lo a j;have:=r.hi m i;have:=r.ap.lo m i;omega};{have:=o.hi a j;have:=o.ap.lo a j;have:=q.hi m i;have:=q.ap.lo m i;omega}}}
theorem dI4{g h u:Nat}(hk:KN w g h u V nd)(hh:nd.y.Pairwise (·<·))(hu:nd.X.Pairwise (·<·))(l1:J nd.A<=2^20)(l2:J nd.V<=2^20)(l3:J nd.y<=2^20)(l4:J nd.X<=2^20)(dr:aD nd.A):dQ dG 145 #[Pz g,jJ (bg nd.A)] w λr w'=>∃c l,r=dR (jP c)/\mB w' nd c.toList l/\gp (U (Q w)) w' l/\Bw w w':=by
 obtain⟨M,Ep,⟨D1,o1,s1⟩,⟨D2,o2,s2⟩⟩:=hk;obtain⟨pv,cv,nv,rfl,ev⟩:=Ep.fq;have X:iR w g (.S pv nv cv) (.U nd.D) (.I nd.M) (.map h) (.U nd.P) (.U nd.F) (.map u):=⟨cI M 0,cI M 1,cI M 2,cI M 3,cI M 4,cI M 5,cI M 6⟩;let⟨W0,cT⟩:=aF (jA w (dO #[ay,ay,.U 0,.I 0,ay,.U 0,.U 0,ay] 149));have z0:U (Q W0)=U (Q w)+1:=by rw[cT];simp
 let⟨SZ1,SZ2⟩:=aQ (gq o1.size_le l3) (gq o2.size_le l4);obtain⟨ow,mo,ep,ge,e1,e2,e3,e4⟩:∃a b c d,nd.D=a/\nd.M=b/\nd.P=c/\nd.F=d:=⟨_,_,_,_,rfl,rfl,rfl,rfl⟩
 rw[e1,e2,e3,e4]at X;go_in
 go_wp21
 rw[<-cT];let⟨v,fK⟩:=aF W0.drew;have bv:Bw w v:=by rw[fK];exact(ir cT).drew
 have zv:U (Q w)<U (Q v):=by rw[fK];show U (Q w)<U (Q W0);omega
 have R:O (aT v (U (Q w)) [ay,ay,.U 0,.I 0,ay,.U 0,.U 0,ay]):=by rw[fK];exact by rw[cT];exact aT.alloc w #[ay,ay,.U 0,.I 0,ay,.U 0,.U 0,ay] _
 have S:=ai (X.H bv);refine fw (λw'=>iR w' g (.S pv nv cv) (.U ow) (.I mo) (.map h) (.U ep) (.U ge) (.map u)) (by rw[<-fK];exact ae S) λhS=>?_;rw[<-fK]at hS⊢;let⟨BW,OH,OU,RV,T1,T2,HH,HU,HBY⟩:=eX0 bv (o1.kept (mZ bv dN) al) (o2.kept (mZ bv dN) al) (Ep.H bv) s1 s2 hh hu dr;clear fK cT z0 M Ep o1 o2 X s1 s2 hh hu dr bv;refine gr 0 2 3 4 5 8 9 10 hS ?_;refine gr 11 12 13 14 15 16 17 18 hS ?_;refine gr 19 20 21 22 23 24 25 26 hS ?_;refine iy 27 29 30 31 hS ?_;refine tn 32 hS ?_
 iterate 5 (
  all_goals(first|refine xG 1 (λm hK=>?_)|refine CL 1 6 (λm hK=>?_) (λm hK=>?_)|refine xG 6 (λm hK=>?_)|refine CL 1 7 (λm hK=>?_) (λm hK=>?_)|refine xG 7 (λm hK=>?_)|refine CL 1 28 (λm hK=>?_) (λm hK=>?_)|refine xG 28 (λm hK=>?_)|refine CL 1 33 (λm hK=>?_) (λm hK=>?_)|refine xG 33 (λm hK=>?_))
  all_goals(first
   |(
    refine Tag.go 1 (do2 aY aY (l:=nd.A) aY HBY l1 ?_);intro pC cC s lC fC hb;have FC:=ai fC;clear fC)
   | (
    refine Tag.go 6 ?_;go_simp;let⟨s,hv⟩:=aF (jA v (dO #[.S pv nv cv] 22));have hb:=ir hv;have HP:O (xx s (U (Q v)) [.S pv nv cv] [nd.V]):=⟨rfl,λj y x q1 q2=>by
     match j,q1,q2 with
     |0,q1,q2=>simp at q1 q2;subst q1 q2;exact⟨by rw[hv];simp,RV.H hb⟩⟩
    rw[<-hv];let⟨GB,hGB⟩:=aF (U (Q v));rw[<-hGB]at HP⊢;clear hv hGB)
   |(
    refine Tag.go 7 (ju (Gt (g:=GB) (vs:=[.S pv nv cv]) [nd.V] (lm:=nd.V) (n:=J nd.V) 1 rfl (by show _=_;simp[cat]) di (ae HP) af af) ?_);rintro r s⟨pJ,cJ,rfl,oJ,hb⟩;refine⟨_,rfl,?_⟩;let⟨lJ,fJ⟩:=Own.pb oJ;have FJ:=ai fJ;clear fJ oJ HP)
   |(
    refine Tag.go 28 (ju (iZ.aR9 h _ D1 _ OH SZ1) ?_);rintro r s⟨y,ss,rfl,AI,N,hb⟩;refine⟨_,rfl,?_⟩;rw[bW7 (ae T1) (ae HH) AI]at N;obtain⟨pH,cH,lH,rfl,q1,q2,q3⟩:=aV0 N;have FH:O (PU s (U (Q v)) (U (Q s)) (.S pH (J nd.y) cH) nd.y lH):=⟨q1,q2,q3,λa ha=>q3.ke.lt ha⟩;clear AI N q1 q2 q3)
   |(
    refine Tag.go 33 (ju (iZ.aR9 u _ D2 _ OU SZ2) ?_);rintro r s⟨y,ss,rfl,AI,N,hb⟩;refine⟨_,rfl,?_⟩;rw[bW7 (ae T2) (ae HU) AI]at N;obtain⟨pU,cU,lU,rfl,q1,q2,q3⟩:=aV0 N;have FU:O (PU s (U (Q v)) (U (Q s)) (.S pU (J nd.X) cU) nd.X lU):=⟨q1,q2,q3,λa ha=>q3.ke.lt ha⟩;clear AI N q1 q2 q3))
  all_goals(
   let⟨S,BW,OH,OU,RV,R⟩:=aH3 (S.H hb) (aj BW hb) (OH.kept (mZ hb dN) al) (OU.kept (mZ hb dN) al) (RV.H hb) (R.H af hb);have z:U (Q v)<=U (Q s):=hb.size
   try have HP:=ai (HP.H hb)
   try have FC:=ai (FC.H hb)
   try have FJ:=ai (FJ.H hb)
   try have FH:=ai (FH.H hb)
   try have FU:=ai (FU.H hb)
   refine bS hK (by exact S) λhS=>?_
   rename G=>v
   skip))
 all_goals(
  refine tn 34 hS ?_;let⟨rc0,rc1,rc2,rc3,rc4,rc5,rc6,rc7⟩:=Qd R.1;have rf:=R.2;refine ry [35] (cn (λm hK=>?_) fN);go_simp;let⟨Z,hZ⟩:=aF (jS (jS (jS (jS (jS (jS (jS (jS v (Aw w 0) (.S pC (J nd.A) cC)) (Aw w 1) (.S pJ (J nd.V) cJ)) (Aw w 2) (.U ow)) (Aw w 3) (.I mo)) (Aw w 4) (.S pH (J nd.y) cH)) (Aw w 5) (.U ep)) (Aw w 6) (.U ge)) (Aw w 7) (.S pU (J nd.X) cU));have Sz:∀b,b≠U (Q w)->Z.heap[b]?=v.heap[b]?:=λb hb=>by
   rw[hZ]
   iterate 8 rw[gh _ _ _ _ hb]
  have cZ:=(aT.ew (aT.ew (aT.ew (aT.ew (aT.ew (aT.ew (aT.ew (aT.ew R 0 al (.S pC (J nd.A) cC)) 1 al (.S pJ (J nd.V) cJ)) 2 al (.U ow)) 3 al (.I mo)) 4 al (.S pH (J nd.y) cH)) 5 al (.U ep)) 6 al (.U ge)) 7 al (.S pU (J nd.X) cU));rw[<-hZ]at cZ;have hbZ:Bw w Z:=by rw[hZ];exact((((((((BW.setCell aU _).setCell aU _).setCell aU _).setCell aU _).setCell aU _).setCell aU _).setCell aU _).setCell aU _)
  let⟨en,Uj⟩:=mB.mk4 (B:=U (Q w)+1) FC FJ FH FU af af af af af af af af af af;have fg:∀y∈lC++(lJ++(lH++lU)),Z.heap[y.b]?=v.heap[y.b]?:=λy hy=>Sz _ (aM (Uj.lo y hy));have EN:=eG (mB.W _ Z _ _ _ en fg) ((Uj.W fg).h (B':=U (Q w)) af) hbZ;have SZg:iR Z g (.S pv nv cv) (.U ow) (.I mo) (.map h) (.U ep) (.U ge) (.map u):=by
   have aP:g≠U (Q w):=λe=>by have h2:=S.2.1;rw[e]at h2;have h3:=R.1 1 _ rfl;rw[h2]at h3;simp at h3
   let⟨s0,s1,s2,s3,s4,s5,s6⟩:=ae S;have W:=gG (Sz g aP);exact⟨(W _).Z s0,(W _).Z s1,(W _).Z s2,(W _).Z s3,(W _).Z s4,(W _).Z s5,(W _).Z s6⟩
  rw[<-hZ];refine bS hK (by exact SZg) λhS=>?_;let⟨zc0,zc1,zc2,zc3,zc4,zc5,zc6,zc7⟩:=Qd cZ.1;refine fQ ?_;let⟨e1,e2,e3,e4⟩:=ae (gJ e1 e2 e3 e4);go_wp2;refine cX (v:=jP #[.S pC (J nd.A) cC,.S pJ (J nd.V) cJ,.U ow,.I mo,.S pH (J nd.y) cH,.U ep,.U ge,.S pU (J nd.X) cU]) (by simp[results,results145,go_sem,zc0,zc1,zc2,zc3,zc4,zc5,zc6,zc7]) rfl ⟨_,lC++(lJ++(lH++lU)),rfl,?_,EN.2.1,EN.2.2⟩;have xU:=EN.1;rw[e1,e2,e3,e4]at xU;exact xU
  skip)
namespace T
open Go.Sort Go.Proofs.YthlkmijffhhimaaGreatDoor.iZ
theorem cL5(n:Nat)(i:3<=n)(g:Nat)(lb:iA)(eg:∀args w,(callFunc g args).run dG w=.ok (.enter g args) w)(S Sp:List (List UInt8)->Prop)(N:Nat)(hN:N<=2^20)(w:G)(Ov:SeqStopsK Fence.wide (n-1-1) dG g lb (λx:List UInt8=>#[pO x]) KeepsWalks S Sp N w):CallsIn Fence.wide n dG 247 #[.func (.func g) #[] lb] w λe w'=>∃(v:dV)(ss:List (List UInt8)),e=dR v/\S ss/\w'.ownsRow (U (Q w)+1) 9 1 v (J ss) (ss.map pO)/\(v=ay↔ss=[])/\Bw w w':=iZ.scE
def Na(B:Nat)(w:G)(v:dV)(ss:List (List UInt8)):Prop:=(v=ay/\ss=[])\/∃g i,v=.T g (J ss) i/\B<=g/\g<U (Q w)/\HT w g 0 ss.toArray
structure Np{H:Type}(D0:DataW H)(ss:List (List UInt8)):Prop where
 lt:ss.Pairwise (·<·)
 mem:∀x,x∈ss↔has D0 (.string x)=dY
 size:J ss<=Maps.size D0
variable {ss:List (List UInt8)}
theorem cP8{H:Type}{j:DataW H}(h:Hf j ss):Np j (ss.mergeSort (λx y=>dD (x<=y))):=by
 have i:=List.mergeSort_perm ss (λx y=>dD (x<=y));refine⟨?_,λx=>(i.mem_iff).Z (h.2.1 x),by rw[i.length_eq];exact h.2.2⟩;refine((ci7 (le:=λx y:List UInt8=>dD (x<=y)) (λa b c q o=>by simp only[mn]at*;exact List.le_trans q o) (λa b=>by simp only[Ro,mn];exact List.le_total a b) ss).and (i.nodup_iff.2 h.1)).imp (λ{a b}⟨x,y⟩=>?_);simp only[mn]at x;exact ci6 λm=>y (List.le_antisymm x m)
theorem bU8(n:Nat)(i:4<=n)(g:Nat)(lb:iA)(eg:∀args w,(callFunc g args).run dG w=.ok (.enter g args) w)(S Sp:List (List UInt8)->Prop)(N:Nat)(hN:N<=2^20)(hS:∀ss,S ss->Mg (J ss))(w:G)(Ov:SeqStopsK Fence.wide (n-1-1-1) dG g lb (λx:List UInt8=>#[pO x]) KeepsWalks S Sp N w):CallsIn Fence.wide n dG 212 #[.func (.func g) #[] lb] w λe w'=>∃(v:dV)(ss:List (List UInt8)),e=dR v/\S ss/\Na (U (Q w)) w' v (ss.mergeSort (λx y=>dD (x<=y)))/\Bw w w':=iZ.scG
theorem Yv{H:Type}(b nn:Nat)(D0:DataW H){R:dV->Option (DataW H×List MemPlace)}(w:G)(dw:jM w dG 9 R b nn D0)(gj:Maps.size D0<=2^20):Cp 144 #[.map b] w λe w'=>∃(v:dV)(ss:List (List UInt8)),e=dR v/\Np D0 ss/\Na (U (Q w)) w' v ss/\Bw w w':=iZ.scH
end T
section
variable {P:Program}(w:World){ops:iQ}{rest:List Oper}{o:Oper}{a:Act}{iZ:Exit->Act->World->Prop}
theorem bP2(E:o.guard=dN)(m x:Operand)(t:TypeId)(r:o.op=Op.lookup t m x dY)(k e:TypeId)(K:Keyed P k)(B:P.underlying t=Y (.map k e))(s:(zeroValue e).run P w=.ok (dP dN) w)(b n:Nat)(D:DataW Unit)(l:List (Lit×Nat))(q:rr D l)(hm:a.eval m=.map b)(N:jM w P k kc b n D)(key:dV)(p:Lit×Nat)(j:p∈l)(y:a.eval x=key)(M:keyOf P k key=p.1)(hK:wpList P ops iZ rest (a.put o.dst (dT #[Pz p.2,jO dY])) w):wpList P ops iZ (o::rest) a w:=
 wpList_lookup_own_ok w E m x t r k e K B kc s .nil [] rfl b n D hm N key p.1 y M (λv R i=>by rw[q.at' p j]at i;cases Vr i;rw[(q.hs p.1).2 ⟨p,j,rfl⟩];exact hK)
theorem df5(M:o.guard=dN)(m x:Operand)(t:TypeId)(q:o.op=Op.lookup t m x dY)(k e:TypeId)(K:Keyed P k)(B:P.underlying t=Y (.map k e))(s:(zeroValue e).run P w=.ok (dP dN) w)(b n:Nat)(D:DataW Unit)(l:List (Lit×Nat))(N:rr D l)(hm:a.eval m=.map b)(S:jM w P k kc b n D)(key:dV)(kl:Lit)(r:∀p∈l,p.1≠kl)(y:a.eval x=key)(R:keyOf P k key=kl)(hK:wpList P ops iZ rest (a.put o.dst (dT #[dP dN,jO dF])) w):wpList P ops iZ (o::rest) a w:=
 wpList_lookup_own_ok w M m x t q k e K B kc s .nil [] rfl b n D hm S key kl y R (λv V i=>by
  have j:Maps.has D kl=dF:=by rw[Gj];intro h;let⟨p,E,e⟩:=(N.hs kl).1 h;exact r p E e
  rw[Maps.atKey_of_not_has j]at i;cases aV7 i;rw[j];exact hK)
end
theorem UY(w:G):(zeroValue 190).run dG w=.ok (dP dN) w:=by kernel_rfl
theorem Y5(h:kP ns l=nd):nd.A=l/\∃i:Nat,ns[i]?=nd:=by
 exact⟨by simpa using(Zi h),Af (Zg h)⟩
theorem cg3(h:kP ns l=dN):∀nd∈ns,nd.A≠l:=by
 intro nd i e;have:=VP.1 h nd i;simp[e]at this
variable {x:Int}
theorem eS6{g:Int}{SB NB HB UB:iN}(l:LI)(w:G)(S:O (Kz w0 w b bs bn e g x t ss ns SB NB HB UB))(hB:O (aD l))(oW:O (∀nd∈ns,aD nd.A))(hl:J l<=1048577)(B:Bool)(eB:O (qG ns l=B)):dQ dG 187 #[Pz b,jJ (bg l)] w (Rb (jO B) w):=by
 have uq:I w (Ad b 5)=Y (.map bn):=cI S.hd 5;let⟨D,E,M⟩:=S.kM.own;have u:keyOf dG 9 (jJ (bg l))=(ft l):=by rw[WideMaps.keyOf_string_mk underlying9 (by rw[DQ];unfold maxLen;omega),Xi]
 have r:((bg l).toList==(bg [47]).toList)=dD (l=[47]):=Qa hB (by intro y hy;simp at hy;omega);rw[show(bg [47]).toList=[47]from DR [47]]at r
 change O _ at E M u
 let⟨s,es⟩:=aF (bg l);rw[<-es]at r u⊢;clear es;by_cases o:l=[47];{
 cases(by rw[<-ae eB,qG,aK o]:B);have hr:(s.toList==[47]):=by rw[r];simp[o]
 clear r o;go_in;exact aV};{
 have hr:(s.toList==[47])=dF:=by rw[r];simp[o]
 have j:(match kP ns l with|some nd=>nd.D==0|none=>dF)=B:=by rw[<-ae eB,qG,aJ o];rfl
 clear r o;cases hF:kP ns l with
 | none=>
  rw[hF]at j;cases j.C;have iL:O (∀p∈jZ (λ(nd:au)g=>(ft nd.A,g)) ns NB,p.1≠ft l):=by intro p N;obtain⟨i,nd,y,hx,hy,rfl⟩:=AY N;intro ee;have hm:=bq hx;exact cg3 hF nd hm (Oj (ae oW nd hm) hB ee)
  clear hF j;go_in;go_wp2_with(first
   |(at_lookup;refine df5 _ rfl _ _ 186 rfl 9 _ uM underlying186 (UY _) bn _ D _ M rfl E _ (ft l) iL rfl u ?_)
   |go_in)
  go_ret;exact⟨rfl,bD _ _⟩
 | some nd=>
  rw[hF]at j;replace j:(nd.D==0)=B:=j;let⟨N,i,R⟩:=Y5 hF;let⟨m,h1,u1,W,q2,Z⟩:=S.kM.at R;let⟨_,_,_,⟨V,a4,_⟩,_,_⟩:=S.kM.blk i nd m h1 u1 R W q2 Z;have X:I w (Ad m 1)=dU nd.D:=cI a4 1;have mX:O ((ft l,m)∈jZ (λ(nd:au)g=>(ft nd.A,g)) ns NB):=by show _∈_;rw[lh];refine⟨i,?_⟩;rw[tA,R,W];show Y (ft nd.A,m)=Y (ft l,m);rw[N]
  let⟨ow,GI⟩:=bu nd.D;rw[GI]at X j;clear hF N R W q2 Z a4 GI;cases B with
  | true=>
   cases(by simpa using j:ow=0);clear j;go_in;go_wp2_with(first
    |(at_lookup;refine bP2 _ rfl _ _ 186 rfl 9 _ uM underlying186 (UY _) bn _ D _ M rfl E _ (ft l,m) mX rfl u ?_)
    |go_in)
   go_ret;exact⟨rfl,bD _ _⟩
  | false=>
   have ho:(ow==0)=dF:=j;clear j;go_in;go_wp2_with(first
    |(at_lookup;refine bP2 _ rfl _ _ 186 rfl 9 _ uM underlying186 (UY _) bn _ D _ M rfl E _ (ft l,m) mX rfl u ?_)
    |go_in)
   go_ret;exact⟨rfl,bD _ _⟩}
structure Xu(w:G)(bs:Nat)(ss:List aB)(SB:iN):Prop where
 len:J SB=J ss
 own:∃D n,jM w dG 27 kc bs n D/\n<=2^20/\rr D (jZ (λ(s:aB)g=>(Lit.U s.1,g)) ss SB)
 blk:∀(i:Nat)(s:aB)(g:Nat),ss[i]?=s->SB[i]?=Y g->∃u,w.heap[g]?=dO #[.U s.1,.I s.2.1,u] 148/\rP w u s.2.2
structure Xz(w:G)(bn:Nat)(ns:List au)(NB:iN):Prop where
 len:J NB=J ns
 own:∃D n,jM w dG 9 kc bn n D/\n<=2^20/\rr D (jZ (λ(nd:au)g=>(ft nd.A,g)) ns NB)
 blk:∀(i:Nat)(nd:au)(g:Nat),ns[i]?=nd->NB[i]?=Y g->∃V h u,KN w g h u V nd
theorem KN.H{g h u:Nat}(k:KN w g h u V nd)(i:Bw w w'):KN w' g h u V nd:=by
 obtain⟨j,s,⟨y,r,o⟩,⟨x,q,m⟩⟩:=k;exact⟨(i.block g (gQ j)).Z j,s.H i,⟨y,r.kept (mZ i dN) al,o⟩,⟨x,q.kept (mZ i dN) al,m⟩⟩
theorem Xu.H(h:Xu w bs ss SB)(j:Bw w w'):Xu w' bs ss SB:=by
 obtain⟨M,⟨D,n,o,y,m⟩,E⟩:=h;refine⟨M,⟨D,n,o.kept (mZ j dN) al,y,m⟩,λi s g x B=>?_⟩;let⟨u,q,r⟩:=E i s g x B;exact⟨u,(j.block g (gQ q)).Z q,r.H j⟩
theorem Xz.H{NB:iN}(h:Xz w bn ns NB)(j:Bw w w'):Xz w' bn ns NB:=by
 obtain⟨E,⟨D,n,o,x,m⟩,B⟩:=h;refine⟨E,⟨D,n,o.kept (mZ j dN) al,x,m⟩,λi s g r y=>?_⟩;let⟨V,h,u,q⟩:=B i s g r y;exact⟨V,h,u,q.H j⟩
structure Xt(w:G)(b bs bn:Nat)(e g x t:Int)(ss:List aB)(ns:List au)(SB NB:iN):Prop where
 hd:w.heap[b]?=dO #[.U e,.U g,.U x,.I t,.map bs,.map bn] 188
 xC:Xu w bs ss SB
 kM:Xz w bn ns NB
theorem Xt.H{g:Int}{SB NB:iN}(h:Xt w b bs bn e g x t ss ns SB NB)(i:Bw w w'):Xt w' b bs bn e g x t ss ns SB NB:=
 ⟨(i.block b (gQ h.hd)).Z h.hd,h.xC.H i,h.kM.H i⟩
theorem cm6(h:Xu w bs ss SB){s:aB}(j:ss[i]?=s):∃g,SB[i]?=Y g/\(Lit.U s.1,g)∈jZ (λ(s:aB)g=>(Lit.U s.1,g)) ss SB:=by
 obtain⟨g,m⟩:∃g,SB[i]?=Y g:=⟨_,bN (h.len▸((bH.1 j).1))⟩;refine⟨g,m,bq (i:=i) ?_⟩;rw[tA,j,m]
theorem cm7{NB:iN}(h:Xz w bn ns NB)(j:ns[i]?=nd):∃g,NB[i]?=Y g/\(ft nd.A,g)∈jZ (λ(nd:au)g=>(ft nd.A,g)) ns NB:=by
 obtain⟨g,m⟩:∃g,NB[i]?=Y g:=⟨_,bN (h.len▸((bH.1 j).1))⟩;refine⟨g,m,bq (i:=i) ?_⟩;rw[tA,j,m]
theorem cg7{α β γ:Type}{f:α->β->γ}{l:List α}{m:List β}{z:γ}(h:z∈jZ f l m):∃a∈l,∃b,z=f a b:=by
 induction l generalizing m with
 |nil=>simp at h
 | cons a l ih=>
  cases m with
  |nil=>simp at h
  |cons b m=>
   simp only[ci5,gD]at h;obtain rfl|h:=h;{exact⟨a,al,b,rfl⟩};{let⟨q,i,j,e⟩:=ih h;exact⟨q,by simp[i],j,e⟩}
theorem dt8(h:Xu w bs ss SB)(u:ss.Pairwise (λs q=>s.1<q.1))(m:rr D (jZ (λ(s:aB)g=>(Lit.U s.1,g)) ss SB))(o:iZ.Np D ids):ids=ss.map (·.1):=by
 refine aH1 o.lt (Db.2 u) λx=>?_;rw[o.mem x,m.hs];constructor;{rintro⟨p,y,e⟩;obtain⟨s,j,g,rfl⟩:=cg7 y;simp only[NR,Ef]at e;exact fM.2 ⟨s,j,e⟩};{intro r;obtain⟨s,j,rfl⟩:=fM.1 r;let⟨i,B,e⟩:=RJ j;let⟨g,E,hm⟩:=cm6 h (i:=i) (s:=s) (by rw[bN B,e]);exact⟨_,hm,rfl⟩}
def kK(l:LI):List UInt8:=l.map λn=>UInt8.ofNat (jN n)
theorem cb9{α:Type}[LT α](i:∀a:α,¬a<a)(q:∀a b c:α,a<b->b<c->a<c):∀{l m:List α},l.Pairwise (·<·)->m.Pairwise (·<·)->(∀x,x∈l↔x∈m)->l=m
 |[],[],_,_,_=>rfl
 |[],b::m,_,_,h=>absurd ((h b).2 al) al
 |a::l,[],_,_,h=>absurd ((h a).1 al) al
 |a::l,b::m,h1,h2,h=>by
  rw[LU]at h1 h2;have r:a=b:=by obtain e|e:=gD.1 ((h a).1 al);{exact e};{obtain o|o:=gD.1 ((h b).2 al);{exact o.C};{exact absurd (q _ _ _ (h2.1 a e) (h1.1 b o)) (i _)}}
  subst r;rw[cb9 i q h1.2 h2.2 (λx=>?_)];constructor;{intro j;obtain e|e:=gD.1 ((h x).1 (by simp[j]));{subst e;exact absurd (h1.1 _ j) (i _)};{exact e}};{intro j;obtain e|e:=gD.1 ((h x).2 (by simp[j]));{subst e;exact absurd (h2.1 _ j) (i _)};{exact e}}
theorem aX2{NB:iN}(h:Xz w bn ns NB)(r:(ns.map λnd=>kK nd.A).Pairwise (·<·))(m:rr D (jZ (λ(nd:au)g=>(ft nd.A,g)) ns NB))(o:T.Np D ks):ks=ns.map λnd=>kK nd.A:=by
 refine cb9 (λa=>List.lt_irrefl a) (λa b c=>List.lt_trans) o.lt r λx=>?_;rw[o.mem x,m.hs];constructor;{rintro⟨p,u,e⟩;obtain⟨s,j,g,rfl⟩:=cg7 u;simp only[ft,aZ7]at e;exact fM.2 ⟨s,j,e⟩};{intro q;obtain⟨s,j,rfl⟩:=fM.1 q;let⟨i,y,e⟩:=RJ j;let⟨g,B,hm⟩:=cm7 h (i:=i) (nd:=s) (by rw[bN y,e]);exact⟨_,hm,rfl⟩}
theorem bO1:(zeroValue 189).run dG w=.ok (dP dN) w:=by kernel_rfl
theorem cj6{l:List (Lit×Nat)}(o:jM w dG 27 kc bs n D)(m:rr D l)(q:(Lit.U iI,g)∈l)(r:0<=iI/\iI<2^64):(Instr.lookup 185 (.map bs) (.U iI) dF).run dG w=.ok (Pz g) w:=by
 let⟨v,s,j,i⟩:=o.lookup oO underlying185 (bO1 (w:=w)) (zd:=.nil) (zp:=[]) rfl (key:=.U iI) (keyOf_int_mk underlying27 (FR r));rw[m.at' _ q]at i;cases Vr i;exact j
theorem cj7{l:List (Lit×Nat)}(o:jM w dG 9 kc bn n D)(m:rr D l){P:LI}(q:(ft P,g)∈l)(s:Mg (J P)):(Instr.lookup 186 (.map bn) (jJ (bg P)) dF).run dG w=.ok (Pz g) w:=by
 let⟨v,r,j,i⟩:=o.lookup uM underlying186 (UY w) (zd:=.nil) (zp:=[]) rfl (key:=jJ (bg P)) (kl:=ft P) (by rw[WideMaps.keyOf_string_mk underlying9 (by rw[DQ];unfold maxLen;omega),Xi])
 rw[m.at' _ q]at i;cases Vr i;exact j
theorem Pp(h:jG w w1 sb)(k:jG w1 w2 row)(hr:∀b,row=Y b->U (Q w)<=b\/b=sb):jG w w2 sb:=
 ⟨k.os.Z h.os,k.tape.Z h.tape,k.output.Z h.output,gq h.size k.size,λi j o=>(k.block i (mH j h.size) (λe=>by obtain m|m:=hr i e.C;{omega};{exact o (by rw[m])})).Z (h.block i j o)⟩
theorem js(w:G)(a:Addr)(v:dV):jG w (w.setCell a v) a.block:=
 ⟨rfl,rfl,rfl,al,λk _ i=>gh _ _ _ _ (λe=>i (by rw[e]))⟩
theorem aG7(h:Bw w w1)(k:jG w1 w2 sb)(i:U (Q w)<=sb):Bw w w2:=h.grown k h.size (λb e=>by cases e;exact i)
theorem cd4{R:dV->Option (DataW Unit×List MemPlace)}(h:jM w dG k R b n D)(j:w'.heap[b]?=w.heap[b]?):jM w' dG k R b n D:=by
 obtain⟨es,i,o,m⟩:=h;exact⟨es,i,j.Z o,m⟩
theorem aT.grown(h:aT w b vs)(r:b<U (Q w))(q:jG w w' row)(s:Y b≠row):aT w' b vs:=by
 have j:=q.block b r s;refine⟨λi v m=>(gG j _).Z (h.1 i v m),λo=>?_⟩;have:jF w' (Ad b o)=jF w (Ad b o):=Dg j;rw[this];exact h.2 o
theorem eU2(l:LI):(⟨(kK l).toArray⟩:ByteArray)=bg l:=by
 have h:(bg l).data=(kK l).toArray:=by rw[<-Zh];simpa[kK]using MV (l:=l)
 cases hb:bg l with
 |mk d=>rw[hb]at h;simp only at h;rw[h]
theorem aU9(h:T.Na B w v (ns.map λnd=>kK nd.A)):∃p c,v=.S p (J ns) c/\(ns=[]\/∃g,p=(Ad g 0)/\B<=g/\g<U (Q w)/\∀(j:Nat)(nd:au),ns[j]?=Y nd->I w (Ad g (0+j))=Y (jJ (bg nd.A))):=by
 obtain⟨rfl,u⟩|⟨g,i,rfl,r,q,s⟩:=h;{
 have:ns=[]:=by simpa using u
 subst this;exact⟨dN,0,rfl,.L rfl⟩};{
 refine⟨Y (Ad g 0),i,by rw[iC],.R ⟨g,rfl,r,q,λj nd o=>?_⟩⟩;have m:=(bH.1 o).1;have:=(s j (by simpa using m)).1;rw[this,<-eU2];have e:(ns.map λnd=>kK nd.A).toArray[j]! = kK nd.A:=by simp[m,(bH.1 o).2]
 rw[e]}
theorem mB.cells{c:iA}{l:List Lf}(h:mB w nd c.toList l):∃x s r q o m j i,c=#[x,s,r,q,o,m,j,i]/\∀u∈[x,s,r,q,o,m,j,i],u.oneCell':=by
 obtain⟨N,c0,M,c1,E,Z,D,X,W,V,S,R,-,B,-⟩:=h;refine⟨_,_,_,_,_,_,_,_,by rw[<-Zh,B],λu y=>?_⟩;simp only[gD,Rn,JM]at y;obtain rfl|rfl|rfl|rfl|rfl|rfl|rfl|rfl:=y<;>rfl
variable {g:Int}
theorem ap9{SB NB:iN}(h:Xt w b bs bn e g x t ss ns SB NB)(hs:O (ss.Pairwise (λs s'=>s.1<s'.1)))(hn:O ((ns.map λnd=>kK nd.A).Pairwise (·<·)))(ls:Mg (J ss))(ln:Mg (J ns))(Wl:O (∀s∈ss,(0<=s.1/\s.1<2^64)/\J s.2.2<=2^20/\∀e∈s.2.2,J e.2<=2^20))(Wm:O (∀nd∈ns,aD nd.A/\J nd.A<=2^20/\J nd.V<=2^20/\J nd.y<=2^20/\J nd.X<=2^20/\nd.y.Pairwise (·<·)/\nd.X.Pairwise (·<·))):dQ dG 75 #[Pz b] w λr w'=>∃p c q d A1 A2,r=dR (cO e g x t (.S p (J ss) c) (.S q (J ns) d))/\nM w' (.S p (J ss) c) ss/\iw w' (.S q (J ns) d) ns/\mF w' (.S p (J ss) c) ss A1/\nG w' (.S q (J ns) d) ns A2/\gp (U (Q w)) w' (A1++A2)/\Bw w w':=by
 have k1:I w (Ad b 1)=dU g:=cI h.hd 1;have k2:I w (Ad b 2)=dU x:=cI h.hd 2;let⟨is,SK,Yp,Yo,Yn⟩:=mJ Tryz.infoSes;let⟨io,hio,oz0,oz1,oz2⟩:=mJ Tryz.infoNod;let⟨W0,cT⟩:=aF (jA w (dO #[.U 0,.U 0,.U 0,.I 0,ay,ay] 44));have r0:aT W0 (U (Q w)) [.U 0,.U 0,.U 0,.I 0,ay,ay]:=by rw[cT];exact aT.alloc w #[.U 0,.U 0,.U 0,.I 0,ay,ay] _
 go_in
 go_wp21
 rw[<-cT];let⟨v0,fK⟩:=aF W0.drew;have bv:Bw w v0:=fK▸(ir cT).drew;have zv:U (Q v0)=U (Q w)+1:=fK▸(by rw[cT];simp);have R0:O (aT v0 (U (Q w)) [.U 0,.U 0,.U 0,.I 0,ay,ay]):=fK▸r0;have S0:=gJ (aq (cI h.hd 0) bv) (aq k1 bv) (aq k2 bv) (aq (cI h.hd 3) bv);let⟨H0,ZV⟩:=aQ (h.H bv) zv;refine fw (λw'=>I w' (Ad b 0)=dU e/\I w' (Ad b 1)=dU g/\I w' (Ad b 2)=dU x/\I w' (Ad b 3)=dI t) (fK▸ae S0) λhS=>?_;rw[<-fK]at hS⊢;clear fK cT r0 k1 k2 zv;refine gr 0 1 2 3 4 5 6 7 hS ?_;refine gr 8 9 10 11 12 13 14 15 hS ?_;refine tn 16 hS ?_;refine fy 17 λM hK=>?_;go_simp;let⟨v1,Ma⟩:=aF (jA v0 (dO #[.U 0,.U 0,.U 0,.I 0,ay,ay] 44));have N:=ir Ma;have c1:aT v1 (U (Q v0)) [.U 0,.U 0,.U 0,.I 0,ay,ay]:=by rw[Ma];exact aT.alloc v0 #[.U 0,.U 0,.U 0,.I 0,ay,ay] _
 have z1:U (Q v1)=U (Q v0)+1:=by rw[Ma];simp
 rw[<-Ma];let⟨B,Dq⟩:=aF (U (Q v0));rw[<-Dq]at c1⊢;let⟨H1,R1⟩:=aQ (H0.H N) (R0.H (aM (ae ZV)) N);have b1:=aj bv N;have HZ:=eG (ae ZV) Dq z1;refine bS hK (gJ (aq S0.1 N) (aq S0.2.1 N) (aq S0.2.2.1 N) (aq S0.2.2.2 N)) λhS=>?_;let⟨rc0,rc1,rc2,rc3,rc4,rc5⟩:=Cv c1.1;have rf:=c1.2;clear hK M Ma N Dq z1;refine fy 18 λM hK=>?_;go_simp;let⟨Z,hZ⟩:=aF (jS (jS (jS (jS (jS (jS v1 (Ad B 0) (.U e)) (Ad B 1) (.U g)) (Ad B 2) (.U x)) (Ad B 3) (.I t)) (Ad B 4) ay) (Ad B 5) ay);let⟨zz0,zz1,zz2⟩:=ae HZ;have CZ:aT Z B [.U e,.U g,.U x,.I t,ay,ay]:=by rw[hZ];exact((((((c1.ew 0 al _).ew 1 al _).ew 2 al _).ew 3 al _).ew 4 al _).ew 5 al _)
 have hgZ:jG v1 Z B:=by rw[hZ];exact My (My (My (My (My (js _ _ _) (js _ _ _)) (js _ _ _)) (js _ _ _)) (js _ _ _)) (js _ _ _)
 have bZ:Bw w Z:=aG7 b1 hgZ af;have RZ:=R1.grown af hgZ bL;have zZ:B<U (Q Z):=aM hgZ.size;rw[<-hZ];refine bS hK ⟨cI (h.H bZ).hd 0,cI (h.H bZ).hd 1,cI (h.H bZ).hd 2,cI (h.H bZ).hd 3⟩ λhS=>?_;clear hK M hZ hgZ c1 rc0 rc1 rc2 rc3 rc4 rc5 rf H1 R1 S0 H0 R0;refine fQ ?_;have Ih:U (Q w)<B:=af;let⟨CZ',RZ'⟩:=aQ CZ RZ;have HS:=ai λ(w':G)(hb:Bw w w')=>h.H hb;have HLW:O (∀k s V,ss[k]?=Y s->SB[k]?=Y V->b<U (Q w)/\bs<U (Q w)/\V<U (Q w)):=λk s V W xh=>by let⟨_,_,o,_,_⟩:=h.xC.own;let⟨_,y3,_⟩:=h.xC.blk k _ V W xh;exact⟨gQ h.hd,o.lt,gQ y3⟩
 have HLN:O (∀k s V,ns[k]?=Y s->NB[k]?=Y V->b<U (Q w)/\bn<U (Q w)/\V<U (Q w)):=λk s V W xh=>by let⟨_,_,o,_,_⟩:=h.kM.own;let⟨_,_,_,y3⟩:=h.kM.blk k _ V W xh;exact⟨gQ h.hd,o.lt,gQ y3.blk⟩
 have BZ:=ai bZ;clear hS CZ RZ h bv b1 zz0 zz1 zz2 HZ ZV;let⟨hHd,bp8,ae2⟩:=ae HS _ BZ;let⟨D,nD,oD,hnD,mD⟩:=id bp8.own;have k4:I Z (Ad b 4)=Y (.map bs):=cI hHd 4;have MD:=ai mD;clear hHd ae2 mD
 go_wp21
 refine(iZ.Yv bs nD D _ oD (gq oD.size_le hnD)).h ?_;rintro r w1⟨kv,ids,rfl,AI,xF,N⟩;obtain rfl:=dt8 bp8 hs MD AI;obtain⟨pk,ck,Ak,rfl,rk,lk,ak⟩:=aV0 xF;have Dt:J (ss.map (·.1))=J ss:=iC _;let⟨nk,MG⟩:=aF (J (ss.map (·.1)));rw[<-MG]at rk lk⊢;have cG8:nk=J ss:=by rw[MG,Dt]
 have ENK:=ai cG8;have fw2:nk<=2^20:=af;have HKV:=eG rk lk ak;have b1:=aj BZ N;have z1:=N.size;let⟨C1,R1⟩:=aQ (CZ'.H zZ N) (RZ'.H af N);clear rk lk ak xF AI N k4 bp8 oD MG cG8 Dt CZ' RZ'
 go_wp21
 go_loopw[31](λiv wr=>∃(k:Nat)(Sv:dV)(Ls:List (List Lf)),k<=nk/\iv=.I k/\O (aT wr B [.U e,.U g,.U x,.I t,Sv,ay]/\fG oy 148 3 (U (Q w1)) wr Sv (jT k ss) Ls)/\O (jG w1 wr B)) (λiv _=>nk-(jN (intOf iv)))
 exact⟨0,_,[],de _,rfl,⟨C1,fG.nil _ _ _ _ _⟩,WO⟩;{
 obtain⟨k,Sv,Ls,hk,rfl,gi,qX⟩:=hrel;have BB:=aG7 b1 qX af;by_cases aH:k<nk;{
 have dm:=cM k nk;have fg:k<J ss:=ae ENK▸aH;let⟨⟨iI,Dl,Qu⟩,W⟩:=qH fg;obtain⟨hH,hSe,-⟩:=ae HS _ BB;let⟨V,xh,mX⟩:=cm6 hSe W;let⟨u,WB,ZU⟩:=hSe.blk k _ V W xh;dsimp only at WB ZU mX;obtain⟨pq,cq,rfl,-⟩:=id ZU;let⟨nq,vQ⟩:=bu (J Qu);rw[vQ]at ZU WB;let⟨hI,JS,Oy⟩:=ae Wl _ (bq W);dsimp only at hI JS Oy;have hnq:nq<=2^20:=vQ▸JS;have HQ2:O (∀e∈Qu,J e.2<=2^20):=Oy;obtain⟨gk,ok,rfl,Is⟩:∃gk ok,pk=(Ad gk ok)/\I wr (Ad gk (ok+k))=dU iI:=by let⟨rk,lk,ak⟩:=ae HKV;have rk':=rk.kR lk (w':=wr) (λa ha=>qX.block a.b (ak.ke.lt ha) (by have:=ak.lo a ha;simp;omega));obtain⟨p',c',ee,hd⟩:=rk';obtain⟨rfl,-,-⟩:=mh ee;obtain hd|⟨b',o',rfl,hd⟩:=hd;{have:=vj List.length hd;simp at this;rw[this]at fg;simp at fg};{refine⟨b',o',rfl,?_⟩;rw[hd k (by simpa using fg)];simp[ko,W]}
 have HY:=ai W;let⟨hC,hO⟩:=ae gi;have cS4:=hC.1 4 _ rfl;have ZF:I wr (Ad b 4)=Y (.map bs):=cI hH 4;let⟨D',n',YU,tI,Y9⟩:=hSe.own;have UG:=eG Y9 mX hI;have hLT:b<U (Q w1)/\bs<U (Q w1)/\V<U (Q w1):=by obtain⟨y1,y2,-⟩:=ae HS _ b1;let⟨_,_,o,_,_⟩:=y2.own;let⟨_,y3,_⟩:=y2.blk k _ V W xh;exact⟨gQ y1,o.lt,gQ y3⟩
 have hLW:b<U (Q w)/\bs<U (Q w)/\V<U (Q w):=ae HLW k _ V W xh;let⟨t3b,t4b,t5b⟩:b≠B/\bs≠B/\V≠B:=af;let⟨vA,br⟩:=aF wr.drew;have bM:=kH br;have Uo:=nK (aq ZF bM) (YU.kept (mZ bM dN) al) (aq (cI WB 0) bM) (aq (cI WB 1) bM) (aq (cI WB 2) bM);let⟨RQ,OA,CXA⟩:=gC (ZU.H bM) (hO.H oy.W bM) (hC.H (aM qX.size) bM);have gA:O (jG w1 vA B):=Pp qX (mZ bM dN) (λb e=>by cases e);have UO:=ai (bD (U (Q vA)) vA);have zxA:B<U (Q vA):=aM gA.size
 change O _ at hLT vQ
 clear JS Oy fg xh hLW cS4
 go_wp21
 clear Is;refine fw (λw'=>I w' (Ad b 4)=Y (.map bs)/\jM w' dG 27 kc bs n' D'/\I w' (Ad V 0)=dU iI/\I w' (Ad V 1)=dI Dl/\I w' (Ad V 2)=dS pq nq cq) (br▸ae Uo) λhS=>?_;rw[<-br]at hS⊢;clear br bM WB ZU mX hI YU Y9 hC hO ZF hH hSe;refine iy 0 2 3 4 hS ?_;refine fu 5 6 hS ?_;refine JG (i:=7) (oi:=_) (v:=?_) (by simp only[rB,sR,sQ];rfl) aS aS aS (λ_ _ _ h=>h) (Or.L ⟨aY,?_⟩) hS ?_;rotate_left;{(intro w' pf;(try dsimp only at pf);(have hlk:=cj6 pf.2.1 UG.1 UG.2.1 UG.2.2);go_simp;try with_reducible rfl)}
 simp only[Act.put,xa,xb,xc];refine fu 8 9 hS ?_;refine ry [1,10] (cn (λM hK=>?_) (cn (λM hK=>?_) fN));have cl:=CXA.1 4 _ rfl;go_simp;refine bS hK (by exact Uo) λhS=>?_;refine ry [10] (cn (λM hK=>?_) fN)
 all_goals(
  refine ju (cK9 iI Dl pq cq nq Qu vQ _ (RQ.H UO) hnq HQ2) ?_;rintro r v1⟨pe,ce,Ae,rfl,Jy,Ib,vT,N⟩;refine⟨_,rfl,?_⟩;have HE1:=eG Jy Ib (vT.h (B':=U (Q vA)) UO.size);let⟨s1,X,s3,s4,s5⟩:=ae Uo;have Uq:=nK (aq s1 N) (X.kept (mZ N dN) al) (aq s3 N) (aq s4 N) (aq s5 N);let⟨CX1,pK⟩:=aQ (CXA.H af N) (aj UO N);have XY:U (Q vA)<=U (Q v1):=pK.size;refine bS hK (by exact Uq) λhS=>?_
  skip)
 refine ry [11] (cn (λM hK=>?_) fN);rotate_left;refine ry [1,11] (cn (λM hK=>?_) (cn (λM hK=>?_) fN));have cl:=CX1.1 4 _ rfl;go_simp;refine bS hK (by exact Uq) λhS=>?_;refine ry [11] (cn (λM hK=>?_) fN)
 all_goals(
  go_simp;let⟨v2,sa⟩:=aF (jA v1 (dO #[.U iI,.I Dl,.S pe nq ce] 148));have aA:=ir sa;have sr:∀j u,([.U iI,.I Dl,.S pe nq ce]:List dV)[j]?=Y u->I v2 (Ad (U (Q v1)) j)=Y u:=λj u hu=>by rw[sa];exact(aT.alloc v1 #[.U iI,.I Dl,.S pe nq ce] 148).1 j u (by simpa using hu)
  rw[<-sa];let⟨gE,hgE⟩:=aF (U (Q v1));rw[<-hgE]at sr⊢;let⟨Jy,Ib,vT⟩:=ae HE1;have kE:∀a∈Ae,v2.heap[a.b]?=v1.heap[a.b]?:=λa ha=>aA.block _ (vT.ke.lt ha);have EL2:O (oy v2 (iI,Dl,Qu) [.U iI,.I Dl,.S pe nq ce] Ae/\gp (U (Q vA)) v2 Ae):=⟨⟨pe,ce,by rw[ae vQ],by rw[ae vQ];exact Jy.kR Ib kE,by rw[ae vQ];exact lI.W Ib kE⟩,vT.W kE⟩;have pI:=ai sr;let⟨s1,X,s3,s4,s5⟩:=ae Uq;have Up:=nK (aq s1 aA) (X.kept (mZ aA dN) al) (aq s3 aA) (aq s4 aA) (aq s5 aA);let⟨CX2,Hd⟩:=aQ (CX1.H af aA) (aj pK aA);have zx2:U (Q vA)<=U (Q v2):=Hd.size;refine bS hK (by exact Up) λhS=>?_;clear hK M sa aA sr hgE Jy Ib vT kE
  skip)
 rotate_left;refine ry [1] (cn (λM hK=>?_) fN);have cl:=CX2.1 4 _ rfl;go_simp;refine bS hK (by exact Up) λhS=>?_;clear hK M cl
 all_goals(
  have OC:=OA.H oy.W Hd;let⟨elC,apC⟩:=ae EL2;let⟨cs,g1,g2,g3,g4,g5,g6,g7⟩:=id OC;have Im:=OA.lt;have hle:J (jT k ss)<=2^20:=by rw[tz];omega
  have zA1:=gA.size;have zA:U (Q w1)<=U (Q v2):=af;refine ry [12] ?_;refine cn (λM hK=>?_) ?_;{
 refine Ve aY aY is 3 underlying41 SK Yp Yo Yn rfl bf aY g4 1 1 [.U iI,.I Dl,.S pe nq ce] aY rfl pI (λu hu=>by simp at hu;obtain rfl|rfl|rfl:=hu<;>rfl) kW af zA ?_;intro v' w9 gF hg il;have sn:=fG.snoc g1 g2 g3 g5 g6 g7 oy.W elC rfl apC zA1 (λa ha=>(Im.2 a ha).2) (λb hb=>(Im.1 b hb).2) gF hg il;rw[<-Yl (ae HY)]at sn;obtain⟨pN,cN,II,-⟩:=id sn.read;let⟨lN,Mi⟩:=aF (J (jT (k+1) ss));rw[<-Mi]at II;subst II;clear Mi;have JW:∀z,z<U (Q w1)->Y z≠jB Sv:=λz hz e=>by have:=(Im.1 z e.C).1;omega
 have qm:jG w1 w9 B:=Pp (Pp gA (mZ Hd dN) (λb e=>by cases e)) hg (λb e=>.L (Im.1 b e).1);have C9:=CX2.grown af hg (JW B af);let⟨t1,t2,t3⟩:=ae hLT;let⟨s1,X,s3,s4,s5⟩:=ae Up;have S9:=nK (hg.cell s1 (JW (b) t1)) (X.kept hg (JW (bs) t2)) (hg.cell s3 (JW (V) t3)) (hg.cell s4 (JW (V) t3)) (hg.cell s5 (JW (V) t3));refine bS hK (by exact S9) λhS=>?_;have SN:=ai sn;have cc:=C9.1 4 _ rfl;have cf:=C9.2;have Il:=sn.lt;clear hK M sn gF il g1 g2 g3 g4 g5 g6 g7 elC apC OC s1 X s3 s4 s5;refine tn 13 hS ?_;refine fy 14 λM hK=>?_;go_simp;let⟨wT,Ig⟩:=aF (jS w9 (Ad B 4) (.S pN lN cN));have CT:=C9.ew 4 al (.S pN lN cN);have Io:∀z,z≠B->wT.heap[z]?=w9.heap[z]?:=λz hz=>by rw[Ig];exact gh _ _ _ _ hz
 have gT:O (jG w1 wT B):=by show World.grownBy _ _ _;rw[Ig];exact My qm (js _ _ _)
 have zT:U (Q w9)<=U (Q wT):=by rw[Ig];simp
 have OT:O (fG oy 148 3 (U (Q w1)) wT (.S pN lN cN) (jT (k+1) ss) (Ls++[Ae])):=SN.W (oy.W _ _) zT (λz hz=>Io z (aM (Il.1 z hz).1)) (λy W=>Io _ (aM (Il.2 y W).1));rw[<-Ig]at CT⊢;have O0:=λz(hz:z≠B)o=>gG (Io z hz) o;let⟨s1,X,s3,s4,s5⟩:=ae S9;have ST:=aE ((O0 _ t3b _).Z s1) (aE (cd4 X (Io _ t4b)) (aE ((O0 _ t5b _).Z s3) (aE ((O0 _ t5b _).Z s4) ((O0 _ t5b _).Z s5))));refine bS hK (by exact ST) λhS=>?_;have CT2:=ai CT;clear hK M Ig Io O0 C9 cc cf CT hg qm zT ST s1 X s3 s4 s5;refine fQ ?_;clear hS Il Im;go_wp2;go_roundw;exact⟨k+1,_,_,af,by go_num,⟨CT2,OT⟩,gT⟩;exact dy};exact fN
  skip)}
 {
 have dm:=ga k nk;obtain rfl:k=nk:=af;let⟨hC,hO⟩:=ae gi;rw[nZ (ae ENK▸fS _)]at hO;let⟨w2,ew2⟩:=aF wr;subst ew2;have R2:=ai (R1.grown af (ae qX) bL);obtain⟨pS,cS,evS,-⟩:=id hO.read;let⟨lS,Il⟩:=aF (J ss);rw[<-Il]at evS;subst evS;have HLS:=ai Il;let⟨QV,A1,Oh,MY⟩:=hO.se;have HA1:=ai λa ha=>MY.ke.lt (a:=a) ha;have OS:=eG QV Oh MY;clear QV Oh MY;have CS:=ai hC;have z12:=qX.size;obtain⟨hHd,-,ae2⟩:=ae HS _ BB;let⟨DN,nN,oN,hnN,mN⟩:=id ae2.own;have k5:I w2 (Ad b 5)=Y (.map bn):=cI hHd 5;have MN:=ai mN;clear hO hC Il hHd mN gi hk aH dm R1 C1 HKV qX
 go_wp21
 refine(T.Yv bn nN DN _ oN (gq oN.size_le hnN)).h ?_;rintro r w3⟨kv,ks,rfl,AI,xF,aL⟩;obtain rfl:=aX2 ae2 hn MN AI;obtain⟨pk2,ck2,rfl,SE⟩:=aU9 xF;let⟨Q7,bv8⟩:=aF (J ns);rw[<-bv8];have cZ9:=ai bv8;have fw1:Q7<=2^20:=af;have HKN:=ai SE;have b3:=aj BB aL;have z3:=aL.size;let⟨C3,R3⟩:=aQ (CS.H af aL) (R2.H af aL);have kS3:∀a∈A1,w3.heap[a.b]?=w2.heap[a.b]?:=λa ha=>aL.block _ (ae HA1 a ha);have O3:=eG (OS.1.kR OS.2.1 kS3) (mF.W OS.2.1 kS3) (OS.2.2.W kS3);clear SE xF AI aL k5 ae2 oN bv8 CS R2 OS BB kS3
 go_wp21
 go_loopw[56](λiv wr=>∃(k:Nat)(Sv:dV)(Ls:List (List Lf)),k<=Q7/\iv=.I k/\O (aT wr B [.U e,.U g,.U x,.I t,.S pS lS cS,Sv]/\fG mB 149 8 (U (Q w3)) wr Sv (jT k ns) Ls)/\O (jG w3 wr B)) (λiv _=>Q7-(jN (intOf iv)))
 exact⟨0,_,[],de _,rfl,⟨C3,fG.nil _ _ _ _ _⟩,WO⟩;{
 obtain⟨k,Sv,Ls,hk,rfl,gi,qX⟩:=hrel;have BB:=aG7 b3 qX af;by_cases aH:k<Q7;{
 have dm:=cM k Q7;have fg:k<J ns:=ae cZ9▸aH;let⟨nd,W⟩:=qH fg;obtain⟨hH,-,hNo⟩:=ae HS _ BB;let⟨V,xh,mX⟩:=cm7 hNo W;let⟨Vb,hb,ub,JY⟩:=hNo.blk k _ V W xh;let⟨Ar,uQ,xT,wY,hl5,hl6,hl7⟩:=ae Wm _ (bq W);obtain⟨gk,rfl,Is⟩:∃gk,pk2=(Ad gk 0)/\I wr (Ad gk k)=Y (jJ (bg nd.A)):=by obtain h0|⟨gk,rfl,h1,h2,h3⟩:=ae HKN;{exact yy};{exact⟨gk,rfl,(gG (qX.block gk h2 bL) _).Z (by have:=h3 k nd W;rwa [nY]at this)⟩}
 have HY:=ai W;let⟨hC,hO⟩:=ae gi;have ZF:I wr (Ad b 5)=Y (.map bn):=cI hH 5;let⟨D',n',YU,tI,Y9⟩:=hNo.own;have UG:=eG Y9 mX uQ;have hLW:b<U (Q w)/\bn<U (Q w)/\V<U (Q w):=ae HLN k _ V W xh;have hLT:b<U (Q w3)/\bn<U (Q w3)/\V<U (Q w3):=aM b3.size;have UF:=ai hLT;let⟨t3b,t4b⟩:b≠B/\bn≠B:=af;let⟨vA,br⟩:=aF wr.drew;have bM:=kH br;have Uo:=bG (aq ZF bM) (YU.kept (mZ bM dN) al);let⟨RQ,OA,CXA⟩:=gC (JY.H bM) (hO.H mB.W bM) (hC.H (aM qX.size) bM);have gA:O (jG w3 vA B):=Pp qX (mZ bM dN) (λb e=>by cases e);have UO:=ai (bD (U (Q vA)) vA);have zxA:B<U (Q vA):=aM gA.size;clear fg xh hLT hLW
 go_wp21
 clear Is;refine fw (λw'=>I w' (Ad b 5)=Y (.map bn)/\jM w' dG 9 kc bn n' D') (br▸ae Uo) λhS=>?_;rw[<-br]at hS⊢;clear br bM JY mX YU Y9 hC hO ZF hH hNo;refine iy 0 2 3 4 hS ?_;refine fu 5 6 hS ?_;refine JG (i:=7) (oi:=_) (v:=?_) (by simp only[rB,sR,sQ];rfl) aS aS aS (λ_ _ _ h=>h) (Or.L ⟨aY,?_⟩) hS ?_;rotate_left;{(intro w' pf;(try dsimp only at pf);(have hlk:=cj7 pf.2 UG.1 UG.2.1 UG.2.2);go_simp;try with_reducible rfl)}
 simp only[Act.put,xa,xb,xc];refine tn 8 hS ?_;refine ry [1,9] (cn (λM hK=>?_) (cn (λM hK=>?_) fN));have cl:=CXA.1 5 _ rfl;go_simp;refine bS hK (by exact Uo) λhS=>?_;clear hK M cl;refine ry [9] (cn (λM hK=>?_) fN)
 all_goals(
  refine uG (dI4 (RQ.H UO) hl6 hl7 uQ xT wY hl5 Ar) ?_;rintro r v1⟨cn,Ae,rfl,IJ,vT,N⟩;let⟨q0,q1,q2,q3,q4,q5,q6,q7,ecn,one⟩:=IJ.cells;subst ecn;refine⟨_,rfl,?_⟩;have HE1:=eG IJ one (vT.h (B':=U (Q vA)) UO.size);let⟨s1,X⟩:=ae Uo;have Uq:=bG (aq s1 N) (X.kept (mZ N dN) al);let⟨CX1,pK⟩:=aQ (CXA.H af N) (aj UO N);have XY:U (Q vA)<=U (Q v1):=pK.size;clear s1 X;refine bS hK (by exact Uq) λhS=>?_;clear hK M N IJ vT one
  skip)
 refine ry [10] (cn (λM hK=>?_) fN);rotate_left;refine ry [1,10] (cn (λM hK=>?_) (cn (λM hK=>?_) fN));have cl:=CX1.1 5 _ rfl;go_simp;refine bS hK (by exact Uq) λhS=>?_;clear hK M cl;refine ry [10] (cn (λM hK=>?_) fN)
 all_goals(
  go_simp;let⟨v2,sa⟩:=aF (jA v1 (dO #[q0,q1,q2,q3,q4,q5,q6,q7] 149));have aA:=ir sa;have sr:∀j u,([q0,q1,q2,q3,q4,q5,q6,q7]:List dV)[j]?=Y u->I v2 (Ad (U (Q v1)) j)=Y u:=λj u hu=>by rw[sa];exact(aT.alloc v1 #[q0,q1,q2,q3,q4,q5,q6,q7] 149).1 j u (by simpa using hu)
  rw[<-sa];let⟨gE,hgE⟩:=aF (U (Q v1));rw[<-hgE]at sr⊢;let⟨IJ,one,vT⟩:=ae HE1;have kE:∀a∈Ae,v2.heap[a.b]?=v1.heap[a.b]?:=λa ha=>aA.block _ (vT.ke.lt ha);have EL2:O (mB v2 nd [q0,q1,q2,q3,q4,q5,q6,q7] Ae/\gp (U (Q vA)) v2 Ae):=⟨mB.W _ _ _ _ _ IJ kE,vT.W kE⟩;let⟨ONE,pI⟩:=aQ one sr;let⟨s1,X⟩:=ae Uq;have Up:=bG (aq s1 aA) (X.kept (mZ aA dN) al);let⟨CX2,Hd⟩:=aQ (CX1.H af aA) (aj pK aA);have zx2:U (Q vA)<=U (Q v2):=Hd.size;clear s1 X;refine bS hK (by exact Up) λhS=>?_;clear hK M sa aA sr hgE IJ vT kE one
  skip)
 rotate_left;refine ry [1] (cn (λM hK=>?_) fN);have cl:=CX2.1 5 _ rfl;go_simp;refine bS hK (by exact Up) λhS=>?_;clear hK M cl
 all_goals(
  have OC:=OA.H mB.W Hd;let⟨elC,apC⟩:=ae EL2;let⟨cs,g1,g2,g3,g4,g5,g6,g7⟩:=id OC;have Im:=OA.lt;have hle:J (jT k ns)<=2^20:=by rw[tz];omega
  have zA1:=gA.size;have zA:U (Q w3)<=U (Q v2):=af;refine ry [11] ?_;refine cn (λM hK=>?_) ?_;{
 refine Ve aY aY io 8 underlying42 hio oz0 oz1 oz2 rfl bf aY g4 1 1 [q0,q1,q2,q3,q4,q5,q6,q7] aY rfl pI ONE kW af zA ?_;intro v' w9 gF hg il;have sn:=fG.snoc g1 g2 g3 g5 g6 g7 mB.W elC rfl apC zA1 (λa ha=>(Im.2 a ha).2) (λb hb=>(Im.1 b hb).2) gF hg il;rw[<-Yl (ae HY)]at sn;obtain⟨pN,cN,II,-⟩:=id sn.read;let⟨lN,Mi⟩:=aF (J (jT (k+1) ns));rw[<-Mi]at II;subst II;clear Mi;have JW:∀z,z<U (Q w3)->Y z≠jB Sv:=λz hz e=>by have:=(Im.1 z e.C).1;omega
 have qm:jG w3 w9 B:=Pp (Pp gA (mZ Hd dN) (λb e=>by cases e)) hg (λb e=>.L (Im.1 b e).1);have C9:=CX2.grown af hg (JW B af);let⟨t1,t2,t3⟩:=ae UF;let⟨s1,X⟩:=ae Up;have S9:=bG (hg.cell s1 (JW (b) t1)) (X.kept hg (JW (bn) t2));refine bS hK (by exact S9) λhS=>?_;have SN:=ai sn;have cc:=C9.1 5 _ rfl;have cf:=C9.2;have Il:=sn.lt;clear hK M sn gF il g1 g2 g3 g4 g5 g6 g7 elC apC OC s1 X;refine tn 12 hS ?_;refine fy 13 λM hK=>?_;go_simp;let⟨wT,Ig⟩:=aF (jS w9 (Ad B 5) (.S pN lN cN));have CT:=C9.ew 5 al (.S pN lN cN);have Io:∀z,z≠B->wT.heap[z]?=w9.heap[z]?:=λz hz=>by rw[Ig];exact gh _ _ _ _ hz
 have gT:O (jG w3 wT B):=by show World.grownBy _ _ _;rw[Ig];exact My qm (js _ _ _)
 have zT:U (Q w9)<=U (Q wT):=by rw[Ig];simp
 have OT:O (fG mB 149 8 (U (Q w3)) wT (.S pN lN cN) (jT (k+1) ns) (Ls++[Ae])):=SN.W (mB.W _ _) zT (λz hz=>Io z (aM (Il.1 z hz).1)) (λy W=>Io _ (aM (Il.2 y W).1));rw[<-Ig]at CT⊢;have O0:=λz(hz:z≠B)o=>gG (Io z hz) o;let⟨s1,X⟩:=ae S9;have ST:=aE ((O0 _ t3b _).Z s1) (cd4 X (Io _ t4b));refine bS hK (by exact ST) λhS=>?_;have CT2:=ai CT;clear hK M Ig Io O0 C9 cc cf CT hg qm zT ST s1 X;refine fQ ?_;clear hS Il Im;go_wp2;go_roundw;exact⟨k+1,_,_,af,by go_num,⟨CT2,OT⟩,gT⟩;exact dy};exact fN
  skip)}
 {
 have dm:=ga k Q7;obtain rfl:k=Q7:=af;let⟨hC,hO⟩:=ae gi;rw[nZ (ae cZ9▸fS _)]at hO;obtain⟨pN,cN,II,-⟩:=id hO.read;let⟨lN,Mi⟩:=aF (J ns);rw[<-Mi]at II;subst II;let⟨Jw,A2,Zr,apN⟩:=hO.no;let⟨QV,Oh,MY⟩:=ae O3;have R4:=R3.grown af (ae qX) bL;let⟨c0,c1,c2,c3,c4,c5⟩:=Cv hC.1;let⟨r0,r1,r2,r3,r4,r5⟩:=Cv R4.1;have rf:=R4.2;have FE:=eG Jw Zr apN;have FIS:=eG QV Oh MY;have fe3:=ai Mi;clear Jw Zr apN QV Oh MY hO hC R4 gi Mi;go_wp2;let⟨Jw,Zr,apN⟩:=ae FE;let⟨QV,Oh,MY⟩:=ae FIS;let⟨Z,hZ⟩:=aF (jS (jS (jS (jS (jS (jS wr (Ad (U (Q w)) 0) (.U e)) (Ad (U (Q w)) 1) (.U g)) (Ad (U (Q w)) 2) (.U x)) (Ad (U (Q w)) 3) (.I t)) (Ad (U (Q w)) 4) (.S pS lS cS)) (Ad (U (Q w)) 5) (.S pN lN cN));have Wr:∀z,z≠U (Q w)->Z.heap[z]?=wr.heap[z]?:=λz hz=>by
  rw[hZ]
  iterate 6 rw[gh _ _ _ _ hz]
 have k1:∀a∈A1,Z.heap[a.b]?=w3.heap[a.b]?:=λa ha=>by have h1:=ae HA1 a ha;have h2:=MY.lo a ha;rw[Wr _ af];exact qX.block _ af bL
 have k2:∀a∈A2,Z.heap[a.b]?=wr.heap[a.b]?:=λa ha=>by have h2:=apN.lo a ha;exact Wr _ (aM b3.size)
 have hbZ:Bw w Z:=by rw[hZ];exact(((((BB.setCell aU _).setCell aU _).setCell aU _).setCell aU _).setCell aU _).setCell aU _
 have eS:=ae HLS;have eN:=ae fe3;refine cX (v:=cO e g x t (.S pS lS cS) (.S pN lN cN)) (by simp[results,results75,go_sem,r0,r1,r2,r3,r4,r5]) rfl ?_;rw[<-hZ];subst eS eN;refine⟨pS,cS,pN,cN,rfl,QV.kR Oh k1,Jw.kR Zr k2,A1,mF.W Oh k1,A2,nG.W Zr k2,?_,hbZ⟩;exact((MY.W k1).app (apN.W k2) af (λa ha=>aM (ae HA1 a ha))).h af}}}}
def Ol(e g x t:Int)(n m:Nat):Bool:=dD (e<=2^62/\g<=2^62/\x<=2^62/\0<=t/\t<=1000000/\n<=50/\m<=200)
variable {B:Bool}
theorem dN8(j:Mg n)(hm:Mg m)(i:O (Ol e g x t n m=B)):dQ dG 119 #[cO e g x t (.S p n c) (.S q m d)] w (Rb (jO B) w):=by
 go_in
 go_wp21
 all_goals(
  go_ret;refine⟨?_,cY⟩;rw[<-ae i];simp only[Ol,aZ8])
 all_goals first|(simp_all;done)|(simp_all;omega)|(show Value.bool (dD ((m:Int)<=200))=Value.bool _;congr 1;rw[Ry,wR,wR];omega)|skip
theorem di2{P V iU:dV}(j:Mg n)(i:O (qW e g mo n ep ge=B)):dQ dG 223 #[Ee P V ow mo (.S p n c) ep ge iU,.U e,.U g] w (Rb (jO B) w):=by
 go_in
 go_wp21
 all_goals(
  go_ret;refine⟨?_,cY⟩;rw[<-ae i];simp only[qW,aZ8])
 all_goals first|(simp_all;done)|(simp_all;omega)|skip
def Qc(l:LI):Bool:=vS (J l) (λi j=>dD (jE l i 0<jE l j 0))
def CM(e g:Int)(nd:au):Bool:=vp nd.A&&(dD (J nd.V<=40)&&(qW e g nd.M (J nd.y) nd.P nd.F&&(Qc nd.y&&Qc nd.X)))
theorem di3{N:dV}{pp vq V E:OA}{D u vc r hc M s:Nat}(yb:Le nd.A u)(PR:Le nd.V r)(Cq:Le nd.y hh)(GN:Le nd.X s) (h0:Rd w (.S pp u D) nd.A)(h4:kI w (.S V hh hc) nd.y)(h7:kI w (.S E s M) nd.X)(WJ:O (aD nd.A))(JT:u<=2^20)(hvn:r<=2^20)(Ml:hh<=2^20)(Mb:s<=2^20)(xX:vU (.S pp u D))(rI:ML w)(eB:O (CM e g nd=B)):dQ dG 183 #[Ee (.S pp u D) (.S vq r vc) nd.D nd.M (.S V hh hc) nd.P nd.F (.S E s M),cO e g x t S N] w (Rb (jO B) w):=by
 let⟨gm,im⟩:=xX.of;obtain⟨ow,mo,ep,ge,e1,e2,e3,e4⟩:∃a b c d,nd.D=a/\nd.M=b/\nd.P=c/\nd.F=d:=⟨_,_,_,_,rfl,rfl,rfl,rfl⟩
 rw[e1,e2,e3,e4];have Z:=ai λ(w':G)(X:Bw w w')=>aE (h0.H X) (aE (h4.H X) (aE (h7.H X) (rI.H X)));obtain⟨T1,E1⟩:∃T,O (vp nd.A=T):=⟨_,di⟩;obtain⟨T3,E3⟩:∃T,O (qW e g mo hh ep ge=T):=⟨_,di⟩;obtain⟨T4,E4⟩:∃T,O (vS hh (λi j=>dD (jE nd.y i 0<jE nd.y j 0))=T):=⟨_,di⟩;obtain⟨T5,E5⟩:∃T,O (vS s (λi j=>dD (jE nd.X i 0<jE nd.X j 0))=T):=⟨_,di⟩;have hB:B=(T1&&(dD (r<=40)&&(T3&&(T4&&T5)))):=by rw[<-ae eB,CM,Qc,Qc,e2,e3,e4,ae PR,ae Cq,ae GN,ae E1,ae E3,ae E4,ae E5]
 have HB:=ai hB;clear h0 h4 h7 rI hB eB e1 e2 e3 e4 xX;let⟨W,m⟩:=aF (jA (jA w (dO #[.S pp u D,.S vq r vc,.U ow,.I mo,.S V hh hc,.U ep,.U ge,.S E s M] 149)) (dO #[.U e,.U g,.U x,.I t,S,N] 44));have bW:Bw w W:=m▸cY.alloc al _;have k0:I W (Aw w 0)=dS pp u D:=by rw[m];simp
 have k1:I W (Aw w 1)=dS vq r vc:=by rw[m];simp
 have k2:I W (Aw w 2)=dU ow:=by rw[m];simp
 have k3:I W (Aw w 3)=dI mo:=by rw[m];simp
 have R:I W (Aw w 4)=dS V hh hc:=by rw[m];simp
 have k5:I W (Aw w 5)=dU ep:=by rw[m];simp
 have k6:I W (Aw w 6)=dU ge:=by rw[m];simp
 have y:I W (Aw w 7)=dS E s M:=by rw[m];simp
 have k8:I W (Ax w 0)=dU e:=by rw[m];simp
 have k9:I W (Ax w 1)=dU g:=by rw[m];simp
 go_in
 go_wp21
 rw[<-m];refine cL (bh3 yb (ae Z _ bW).1 WJ JT gm im (ae Z _ bW).2.2.2 E1) λw1 o=>?_;have b1:=aj bW o;cases T1 with
 |false=>
  obtain rfl:B=dF:=by rw[ae HB];rfl
  exact aV
 |true=>
  replace k0:=aq k0 o;replace k1:=aq k1 o;replace k2:=aq k2 o;replace k3:=aq k3 o;replace R:=aq R o;replace k5:=aq k5 o;replace k6:=aq k6 o;replace y:=aq y o;replace k8:=aq k8 o;replace k9:=aq k9 o;by_cases hv:(r:Int)<=40;{
 have oF:O (B=(T3&&(T4&&T5))):=by show _=_;rw[ae HB,show dD (r<=40)=dY by(rw[wR];omega)];rfl
 go_wp21
 refine cL (di2 Ml E3) λw2 aA=>?_;have b2:=aj b1 aA;cases T3 with
 |false=>
  cases(by rw[ae oF];rfl:B=dF);exact aV
 | true=>
  replace R:=aq R aA;replace y:=aq y aA
  go_wp21
  refine cL (cQ0 Cq (ae Z _ b2).2.1 Ml E4) λw3 aL=>?_;have b3:=aj b2 aL;cases T4 with
  |false=>
   cases(by rw[ae oF];rfl:B=dF);exact aV
  |true=>
   obtain rfl:B=T5:=by rw[ae oF];rfl
   replace y:=aq y aL
   go_wp21
   refine cL (cQ0 GN (ae Z _ b3).2.2.1 Mb E5) λw4 dz=>?_;have b4:=aj b3 dz;exact aV};{
 obtain rfl:B=dF:=by rw[ae HB,show dD (r<=40)=dF by(rw[LH];omega)];rfl
 exact aV}
def Eb(x:Int)(ss:List aB):Bool:=(jR (J ss)).all (λi=>Hk x (jE ss i (0,0,[])))&&vS (J ss) (λi j=>dD ((jE ss i (0,0,[])).1<(jE ss j (0,0,[])).1))
def CQ(e g:Int)(ns:List au):Bool:=(jR (J ns)).all (λi=>CM e g (jE ns i kx))&&vS (J ns) (λi j=>!leB (jE ns j kx).A (jE ns i kx).A)
theorem dh9{N:dV}(en:Le ss n)(h:nM w (.S p n c) ss)(hn:Mg n)(ig:O (Bs ss))(rI:ML w)(eB:O (Eb x ss=B)):dQ dG 120 #[cO e g x t (.S p n c) N] w (Rb (jO B) w):=by
 have HR:=ai λ(w':G)(hb:Bw w w')=>aE (h.H hb) (rI.H hb);obtain⟨T2,E2⟩:∃T,O (vS n (λi j=>dD ((jE ss i (0,0,[])).1<(jE ss j (0,0,[])).1))=T):=⟨_,di⟩;have HB:O (B=((jR n).all (λi=>Hk x (jE ss i (0,0,[])))&&T2)):=ai (by rw[<-ae eB,Eb,ae en,ae E2]);go_in
 go_wp21
 let⟨W,y⟩:=aF (jA w (dO #[.U e,.U g,.U x,.I t,.S p n c,N] 44));have im:I W (Aw w 2)=dU x:=by rw[y];simp
 have EO:I W (Aw w 4)=dS p n c:=by rw[y];simp
 rw[<-y];have BW:=ai (ir y);have DY:=bG im EO
 go_loopw[8](λiv wr=>∃k:Nat,k<=n/\iv=.I k/\O ((jR k).all (λi=>Hk x (jE ss i (0,0,[]))))/\Bw W wr) (pT n)
 exact⟨0,de _,rfl,di,bD _ _⟩;{
 obtain⟨k,hk,rfl,fU,M⟩:=hrel;have R:=aj BW M;have i4:=aq DY.2 M;by_cases aH:k<n;{
 have dm:=cM k n;have fg:k<J ss:=ae en▸aH;let⟨⟨s,D,r⟩,X⟩:=qH fg;have yL:jE ss k (0,0,[])=(s,D,r):=by rw[ko,X];rfl
 obtain⟨b,o,rfl,hcI,hcD,u,Z,Sn⟩:∃b o,p=(Ad b o)/\I wr (Ad b (o+k*3))=dU s/\I wr (Ad b (o+k*3+1))=dI D/\∃u,I wr (Ad b (o+k*3+2))=Y u/\rP wr u r:=by let⟨p',c',ev,hd⟩:=(ae HR _ R).1;obtain⟨rfl,-,-⟩:=mh ev;obtain h0|⟨b,o,h1,h2⟩:=hd;{exact yy};{exact⟨b,o,h1,h2 k _ X⟩}
 let⟨hQl,hQb⟩:=ae ig _ (bq X);obtain⟨pq,cq,rfl,-⟩:=id Sn;let⟨m,em⟩:=bu (J r);rw[em]at Sn Z;let⟨V,eV⟩:=bu (Hk x (s,D,r));have HF:O (V=dF->B=dF):=λh=>by rw[ae HB,Jz aH (by rw[yL,eV];exact h)];rfl
 have HT:O (V->O ((jR (k+1)).all (λi=>Hk x (jE ss i (0,0,[]))))):=λh=>Hn fU (by rw[yL,eV];exact h);have E:Bw wr ((jA wr (dO #[.U s,.I D,.S pq m cq] 148))):=cY;have j2:=aq (aq DY.1 M) E
 go_wp21
 refine cL (du1 em (Sn.H E) (em▸hQl) hQb (by exact(ae HR _ R).2.H E) eV) λw2 aA=>?_;have b3:=aj M (aj E aA);have B3:=aj BW b3;cases V with
 |false=>
  cases ae HF rfl;exact aV
 |true=>
  have sH:=ae HT rfl;go_wp2;go_roundw;exact⟨k+1,af,by go_num,sH,b3⟩;exact dy};{
 have dm:=ga k n;have Fj:k=n:=af;have eT:B=T2:=by rw[ae HB,show(jR n).all (λi=>Hk x (jE ss i (0,0,[])))=dY from Fj▸ae fU,yG]
 subst eT
 go_wp21
 refine cL (eV0 en (ae HR _ R).1.rd hn E2) λw2 aA=>?_;have b3:=aj R aA;exact aV}}
theorem di0(N:Le ns m)(h:iw w (.S q m d) ns)(hm:Mg m)(dr:O (Bn ns))(rI:ML w)(eB:O (CQ e g ns=B)):dQ dG 121 #[cO e g x t S (.S q m d)] w (Rb (jO B) w):=by
 have HR:=ai λ(w':G)(hb:Bw w w')=>aE (h.H hb) (rI.H hb);obtain⟨T2,E2⟩:∃T,O (vS m (λi j=>!leB (jE ns j kx).A (jE ns i kx).A)=T):=⟨_,di⟩;have HB:O (B=((jR m).all (λi=>CM e g (jE ns i kx))&&T2)):=ai (by rw[<-ae eB,CQ,ae N,ae E2]);go_in
 go_wp21
 let⟨W,M⟩:=aF (jA w (dO #[.U e,.U g,.U x,.I t,S,.S q m d] 44));have rH:jg W (U (Q w)) e g x t S (.S q m d):=by rw[M];simp[jg]
 rw[<-M];have BW:=ai (ir M)
 go_loopw[8](λiv wr=>∃k:Nat,k<=m/\iv=.I k/\O ((jR k).all (λi=>CM e g (jE ns i kx)))/\Bw W wr) (pT m)
 exact⟨0,de _,rfl,di,bD _ _⟩;{
 obtain⟨k,hk,rfl,fU,Z⟩:=hrel;have D:=aj BW Z;let⟨i0,i1,i2,i3,i4,i5⟩:=rH.H Z;by_cases aH:k<m;{
 have dm:=cM k m;have fg:k<J ns:=ae N▸aH;let⟨s,E⟩:=qH fg;have yL:jE ns k kx=s:=by rw[ko,E];rfl
 obtain⟨b,o,rfl,hA⟩:=(ae HR _ D).1.at af;let⟨P,V,H,iU,u⟩:=hA k s E;let⟨rJ,gu,Pk,Kk,Mu⟩:=ae dr _ (bq E);obtain⟨pp,pc,pn,rfl,yb⟩:=u.r0.fq;obtain⟨Lc,vc,vn,rfl,PR⟩:=u.r1.fq;obtain⟨hp,hc,hh,rfl,Cq⟩:=u.r4.fq;obtain⟨up,uc,un,rfl,GN⟩:=u.r7.fq;let⟨T,R⟩:=bu (CM e g s);have HF:O (T=dF->B=dF):=λh=>by rw[ae HB,Jz aH (by rw[yL,R];exact h)];rfl
 have HT:O (T->O ((jR (k+1)).all (λi=>CM e g (jE ns i kx)))):=λh=>Hn fU (by rw[yL,R];exact h);have r:Bw wr (jA wr (dO #[.S pp pn pc,.S Lc vn vc,.U s.D,.I s.M,.S hp hh hc,.U s.P,.U s.F,.S up un uc] 149)):=cY;have y:=ai (u.H r);obtain⟨c0,c1,c2,c3,c4,c5,c6,c7,-,-,-,-,-⟩:=u;have j0:=aq i0 r;have j1:=aq i1 r;have j2:=aq i2 r;have j3:=aq i3 r;have j4:=aq i4 r;have j5:=aq i5 r
 go_wp21
 refine cL (di3 yb PR Cq GN y.r0 y.r4 y.r7 rJ (ae yb▸gu) (ae PR▸Pk) (ae Cq▸Kk) (ae GN▸Mu) y.k0 ((ae HR _ D).2.H r) R) λw2 aA=>?_;have X:=aj Z (aj r aA);have B3:=aj BW X;cases T with
 |false=>
  cases ae HF rfl;exact aV
 |true=>
  have sH:=ae HT rfl;go_wp2;go_roundw;exact⟨k+1,af,by go_num,sH,X⟩;exact dy};{
 have dm:=ga k m;have Fj:k=m:=af;have eT:B=T2:=by rw[ae HB,show(jR m).all (λi=>CM e g (jE ns i kx))=dY from Fj▸ae fU,yG]
 subst eT
 go_wp21
 refine cL (eV1 N (ae HR _ D).1 hm E2) λw2 aA=>?_;have X:=aj D aA;exact aV}}
theorem aw7:∀(key:dV)(kl:Lit),keyOf dG 9 key=kl->∃s:ByteArray,key=jJ s:=by
 intro key kl i;cases key<;>simp[keyOf,underlying9,mapKey]at i
 exact⟨_,rfl⟩
theorem cm8(h:keyOf dG 9 (jJ s)=(ft l)):s=bg l:=by
 simp[keyOf,underlying9,mapKey]at h;exact dN2 h.2
theorem Zw{m:LI}(i:aD l)(hm:aD m):(ft l).sameKey (ft m)=dD (l=m):=by
 rw[Ry,au5 (by trivial),wR];exact⟨λh=>Oj i hm h,λh=>by rw[h]⟩
theorem ek9{SB NB HB UB:iN}(cK:O (Kz w0 w b bs bn e g x t ss ns SB NB HB UB))(N:O (∀nd∈ns,aD nd.A/\J nd.A<=2^20))(eB:O (ns.all (λnd=>qG ns (iV nd.A))=B)):dQ dG 122 #[Pz b] w (Rb (jO B) w):=by
 have uq:I w (Ad b 5)=Y (.map bn):=cI cK.hd 5;let⟨D,S,mD⟩:=cK.kM.own;let⟨m,em⟩:=bu (J ns);rw[em]at S;have R:O (∀nd∈ns,aD nd.A):=λnd h=>(ae N nd h).1;have MD:=ai mD;go_in;go_wp2_with(first
  |(at_range;refine wpList_range_own _ rfl _ 186 rfl 9 _ uM underlying186 _ bn m _ rfl S ?_;intro w1 Ap sZ Cb)
  |go_in)
 go_frame
 go_loopw[3](λ_ wr=>∃(left:Lit->Bool)(W:Nat),wr.ranges dG 9 kc bn (U (Q w)) m D left W/\O (∀nd∈ns,left (ft nd.A)=dF->qG ns (iV nd.A))/\Bw w wr) (λ_ wr=>wr.rangeLeft bn (U (Q w)))
 case atStart=>(
 refine⟨_,_,Ap,λnd aI hl=>?_,af7 sZ⟩;exact bM4)
 case round=>(
 obtain⟨left,W,V,X,aC⟩:=hrel;go_wp2_with(first
  |(at_next;refine U3 _ rfl _ rfl 9 uM (λs:ByteArray=>.string s) aw7 bn (U (Q w)) m _ _ MD _ _ rfl V ?_ ?_)
  |go_in)
 {
 intro _ sX;have u:B:=by rw[<-ae eB,mL];exactλnd aI=>ae X nd aI (sX _)
 subst u;exact aV};{
 intro s pl g1 E DP gO hp OD Ao aH fo fO xU;let⟨i,nd,WQ,hi,vt,ee⟩:=AY hp;simp only[lE]at ee;obtain⟨rfl,rfl⟩:=ee;have aA:Bw w E:=DS aC fo aC.size (λj hj=>by cases hj;exact fS _);cases cm8 gO;have aI:=bq hi;let⟨M,gu⟩:=ae N nd aI;let⟨T,u⟩:=bu (qG ns (iV nd.A));have HF:O (T=dF->B=dF):=λh=>by rw[<-ae eB,Zo];exact⟨nd,aI,by rw[u,h];simp⟩
 have HT:O (T->O (∀o∈ns,(λz=>left z&&!z.sameKey (ft nd.A)) (ft o.A)=dF->qG ns (iV o.A))):=λh o y hl=>by simp only[Zw (ae N o y).1 M]at hl;by_cases Z:o.A=nd.A;{rw[Z,u,h]};{simp[Z]at hl;exact X o y hl}
 have lr:J (iV nd.A)<=1048577:=by unfold iV;split;{simp};{rw[tz];omega}
 have cv3:(Instr.entry (Pz (U (Q w)))).run dG E=.ok (dT #[jJ (bg nd.A),Pz g1]) E:=xU
 go_wp21
 refine(aW0 di M gu).h ?_;rintro r w3⟨rfl,rfl⟩
 go_wp21
 refine cL (eS6 (iV nd.A) _ (cK.H aA) (Vs M) R lr T u) λw4 dz=>?_;have b4:=aj aA dz;cases T with
 |false=>
  obtain rfl:=ae HF rfl;exact aV
 |true=>
  have sH:=ae HT rfl;have Sk:=Ao.kept (mZ dz dN) al al;go_wp2;go_roundw;exact⟨_,DP,Sk,sH,b4⟩
  case measure=>rw[Sk.left_eq,V.left_eq];exact aH})
def Nb(nd:au)(i:Int):Prop:=(nd.D≠0/\i=nd.D)\/i∈nd.y\/i∈nd.X
variable {s:LI}
theorem lX.del(h:lX D s)(i:Int):lX (D.del (.U i)) (s.filter λj=>dD (j≠i)):=by
 intro o;by_cases e:o=.U i;{subst e;rw[Maps.has_del_same];simp};{rw[Maps.has_del_other e,h o];constructor;{rintro⟨j,m,rfl⟩;refine⟨j,?_,rfl⟩;rw[JL];exact⟨m,by simpa using λq=>e (by rw[q])⟩};{rintro⟨j,m,rfl⟩;exact⟨j,(JL.1 m).1,rfl⟩}}
theorem cn7:∀(key:dV)(kl:Lit),keyOf dG 27 key=kl->∃i:Int,key=.U i:=by
 intro key kl j;obtain⟨x,rfl,_⟩:=keyOf_int_inv underlying27 j;exact⟨x,rfl⟩
theorem yv.uniq{NB HB UB:iN}(h:yv w0 w bn ns NB HB UB){nd':au}(y:ns[i]?=nd)(q:ns[j]?=nd')(Z:nd.A=nd'.A):nd=nd':=by
 let⟨D,_,N⟩:=h.own;let⟨g1,_,_,x,_,_⟩:=h.at y;let⟨g2,_,_,s,_,_⟩:=h.at q;have X:(ft nd.A,g1)∈jZ (λ(nd:au)g=>(ft nd.A,g)) ns NB:=by rw[lh];exact⟨i,by rw[tA,y,x]⟩
 have W:(ft nd'.A,g2)∈jZ (λ(nd:au)g=>(ft nd.A,g)) ns NB:=by rw[lh];exact⟨j,by rw[tA,q,s]⟩
 have V:=N.at' _ X .nil;have r:=N.at' _ W .nil;simp only[Z]at V;simp only at r;rw[V]at r;simp only[DataW.lit.injEq,NR,Ef,Int.natCast_inj]at r;subst r;have S:=(bH.1 x).1;have R:=(bH.1 s).1;have M:=H6.1 h.kM;have E:=(bH.1 x).2;have B:=(bH.1 s).2;have:i=j:=by obtain m|m|m:=Og i j;{exact absurd (E.Z B.C) (M i j S R m)};{exact m};{exact absurd (B.Z E.C) (M j i R S m)}
 subst this;rw[y]at q;cases q;rfl
theorem dn8{SB NB HB UB:iN}(cK:O (Kz w0 w b bs bn e g x t ss ns SB NB HB UB))(oW:O (∀nd∈ns,aD nd.A/\J nd.y<=2^20/\J nd.X<=2^20))(yQ:O (Bo ns))(em:Le ns m)(hm:Mg m)(en:Le ss n):dQ dG 123 #[Pz b] w λr w'=>∃nb k D s,r=dR (.map (Y nb))/\jM w' dG 27 unitElem nb k D/\lX D s/\(∀i,i∈s↔(∃nd∈ns,Nb nd i)/\¬∃z∈ss,z.1=i)/\Bw w w':=by
 have EO:I w (Ad b 4)=Y (.map bs):=cI cK.hd 4;let⟨D,W,mD⟩:=cK.kM.own;let⟨Ds,oS,mS⟩:=cK.xC.own;rw[ae em]at W;rw[ae en]at oS;let⟨MD,MS,OS⟩:=gC mD mS oS;have Ik:=@au6 dG;have b1:Bw w (w.alloc (.map #[] 0)):=cY;have fz0:=aq (cI cK.hd 5) b1;go_in;go_wp2_with(first
  |(at_range;refine wpList_range_own _ rfl _ 186 rfl 9 _ uM underlying186 _ bn m _ rfl (W.alloc (.map #[] 0)) ?_;intro w1 Ap sZ Cb)
  |go_in)
 go_frame
 have fI:U (Q (w.alloc (.map #[] 0)))=U (Q w)+1:=al;rw[fI]at Ap⊢
 go_loopw[5](λ_ wr=>∃(left:Lit->Bool)(gy k:Nat)(E:DataW Unit)(s:LI),wr.ranges dG 9 kc bn (U (Q w)+1) m D left gy/\k+gy*2097153<=m*2097153/\jM wr dG 27 unitElem (U (Q w)) k E/\O (lX E s/\∀i,i∈s↔∃nd∈ns,left (ft nd.A)=dF/\Nb nd i)/\Bw w wr) (λ_ wr=>wr.rangeLeft bn (U (Q w)+1))
 case atStart=>(
 refine⟨_,_,0,_,[],Ap,?_,(World.ownsMap_made w _ _ _).kept sZ al,⟨lX.nil,λi=>?_⟩,aj b1 (af7 sZ)⟩;{have:=W.size_le;omega};{constructor;{intro h;cases h};{rintro⟨nd,aI,hl,_⟩;exact bM4}})
 case round=>(
 obtain⟨left,gy,k,E,s,kq,hkc,dw,S,R⟩:=hrel;go_wp2_with(first
  |(at_next;refine U3 _ rfl _ rfl 9 uM (λs:ByteArray=>.string s) aw7 bn (U (Q w)+1) m _ _ MD _ _ (by first|rfl|(rw[<-ae Nd];rfl)) kq ?_ ?_)
  |go_in)
 {
 intro _ sX;have fO:O (∀i,i∈s↔∃nd∈ns,Nb nd i):=λi=>by rw[S.2 i];constructor;{rintro⟨nd,h1,_,h2⟩;exact⟨nd,h1,h2⟩};{rintro⟨nd,h1,h2⟩;exact⟨nd,h1,sX _,h2⟩}
 have EO:=aq EO R;let⟨iY,eY⟩:=aF wr;subst eY;go_wp2_with(first
  |(at_range;refine wpList_range_own _ rfl _ 185 rfl 27 _ oO underlying185 _ bs n _ rfl (OS.kept (mZ R dN) al) ?_;intro w3 Ox sY hs3)
  |go_in)
 go_frame
 have Wf:=dw.kept sY al;have N:Bw w w3:=DS R sY R.size (λj B=>by cases B);have iK:U (Q w)<U (Q iY):=dw.lt
 go_loopw[6](λ_ wr=>∃(left:Lit->Bool)(gy:Nat)(E:DataW Unit)(s':LI),wr.ranges dG 27 kc bs (U (Q iY)) n Ds left gy/\jM wr dG 27 unitElem (U (Q w)) k E/\O (lX E s'/\∀i,i∈s'↔i∈s/\¬∃z∈ss,z.1=i/\left (.U i)=dF)/\Bw w wr) (λ_ wr=>wr.rangeLeft bs (U (Q iY)))
 case atStart=>(
 refine⟨_,_,E,s,Ox,Wf,⟨S.1,λi=>?_⟩,N⟩;constructor;{
 intro hi;refine⟨hi,?_⟩;rintro⟨z,hz,rfl,hl⟩;let⟨j,B⟩:=Af hz;obtain⟨gz,SP⟩:∃gz,SB[j]?=Y gz:=⟨_,bN (cK.xC.len▸(bH.1 B).1)⟩;have:Maps.has Ds (.U z.1):=(MS.hs _).2 ⟨(.U z.1,gz),by rw[lh];exact⟨j,by rw[tA,B,SP]⟩,rfl⟩
 rw[this]at hl;cases hl};{exactλh=>h.1})
 case round=>(
 obtain⟨left,gy,E1,s',kq,Mf,S,R⟩:=hrel;go_wp2_with(first
  |(at_next;refine U3 _ rfl _ rfl 27 oO (λi:Int=>.int jU i) cn7 bs (U (Q iY)) n _ _ MS _ _ rfl kq ?_ ?_)
  |go_in)
 {intro _ sX;have HS:=ae S;go_wp2;go_ret;refine⟨U (Q w),k,E1,s',rfl,Mf,HS.1,λi=>?_,R⟩;rw[HS.2 i,ae fO i];constructor;{rintro⟨h1,h2⟩;exact⟨h1,λ⟨z,hz,e⟩=>h2 ⟨z,hz,e,sX _⟩⟩};{rintro⟨h1,h2⟩;exact⟨h1,λ⟨z,hz,e,_⟩=>h2 ⟨z,hz,e⟩⟩}};{
 intro i0 pl g1 w4 DP gO hp OD Ao aH fo ay0 xU;let⟨j,z,WQ,B,J1,ee⟩:=AY hp;simp only[lE]at ee;obtain⟨rfl,rfl⟩:=ee;let⟨i1,e1,e2,ZL⟩:=keyOf_int_inv underlying27 gO;simp only[bc2,Ef]at e1;simp only[NR,Ef]at e2;subst e1;subst e2;have M:Bw w w4:=DS R fo R.size (λj B=>by cases B;omega);have Oz:=Mf.kept fo bL;have aJ9:O (lX (E1.del (.U z.1)) (s'.filter λj=>dD (j≠z.1))/\∀i,i∈(s'.filter λj=>dD (j≠z.1))↔i∈s/\¬∃y∈ss,y.1=i/\(λq=>left q&&!q.sameKey (.U z.1)) (.U i)=dF):=by
  refine⟨S.1.del z.1,λi=>?_⟩;rw[JL,S.2 i];have hk:((Lit.U i).sameKey (.U z.1)=dY)↔i=z.1:=by rw[au5 (by trivial)];simp
  by_cases ei:i=z.1;{subst ei;simp only[ne_eq,bb4,av4,JB,and_false,false_iff];rintro⟨_,h2⟩;exact h2 ⟨z,bq B,rfl,by simp[hk.2 rfl]⟩};{simp[ei,show(Lit.U i).sameKey (.U z.1)=dF by(rw[Gj];exactλh=>ei (hk.1 h))]}
 go_wp2_with(first
  |(at_delete;refine wpList_delete_own _ rfl _ _ 166 27 rfl _ oO underlying166 unitElem (U (Q w)) k _ rfl Oz _ _ rfl (keyOf_int_mk underlying27 ZL) ?_;intro w5 aa0 dX8;go_frame)
  |go_in)
 have X:=dX8.grown;have eh:Bw w w5:=DS M X M.size (λj B=>by cases B;exact fS _);have An:=Ao.kept X (by have:=OS.lt;simp;omega) bL;go_roundw;exact⟨_,DP,_,_,An,aa0,aJ9,eh⟩
 case measure=>rw[An.left_eq,kq.left_eq];exact aH})}
 {
 intro sb pl g1 w2 DP gO hp OD Ao aH fo fO xU;let⟨i,nd,WQ,hi,vt,ee⟩:=AY hp;simp only[lE]at ee;obtain⟨rfl,rfl⟩:=ee;have aA:Bw w w2:=DS R fo R.size (λj B=>by cases B;omega);cases cm8 gO;have aI:=bq hi;let⟨rJ,Ar,uQ⟩:=ae oW nd aI;let⟨g2,h1,u1,q1,q2,q3⟩:=cK.kM.at hi;rw[vt]at q1;cases q1;let⟨_,_,_,⟨V,a4,_⟩,⟨Dh,oh,sh⟩,⟨Du,ou,su⟩⟩:=cK.kM.blk i nd g1 h1 u1 hi vt q2 q3;have Z:g1<U (Q w):=gQ a4;have k1:I w (Ad g1 1)=Y (.U nd.D):=cI a4 1;have k3:I w (Ad g1 3)=Y (.map h1):=cI a4 3;have k6:I w (Ad g1 6)=Y (.map u1):=cI a4 6;let⟨SH,SU⟩:=aQ sh su;have Sr:=dw.kept fo (by first|(simp;done)|(simp;omega));have cv3:(Instr.entry (Pz (U (Q w)+1))).run dG w2=.ok (dT #[.string (bg nd.A),Pz g1]) w2:=xU;have FE:∀i:Int,((i∈s\/(nd.D≠0/\i=nd.D))\/i∈nd.y)\/i∈nd.X↔∃nd'∈ns,(λz=>left z&&!z.sameKey (ft nd.A)) (ft nd'.A)=dF/\Nb nd' i:=by intro i0;rw[S.2 i0];constructor;{rintro(((⟨nd',h1,h2,h3⟩|h)|h)|h);{exact⟨nd',h1,by simp[h2],h3⟩};{exact⟨nd,aI,by simp[Zw rJ rJ],.L h⟩};{exact⟨nd,aI,by simp[Zw rJ rJ],.R (.L h)⟩};{exact⟨nd,aI,by simp[Zw rJ rJ],.R (.R h)⟩}};{rintro⟨nd',h1,h2,h3⟩;by_cases ep:nd'.A=nd.A;{let⟨j,B⟩:=Af h1;have:=cK.kM.uniq B hi ep;subst this;obtain h3|h3|h3:=h3;{exact .L (.L (.R h3))};{exact .L (.R h3)};{exact .R h3}};{refine .L (.L (.L ⟨nd',h1,?_,h3⟩));simpa[Zw (ae oW nd' h1).1 rJ,ep]using h2}}
 by_cases ho:nd.D=0;{
 have d1:=(te (aA.block g1 Z) (o:=1)).Z k1;have d3:=(te (aA.block g1 Z) (o:=3)).Z k3;have d6:=(te (aA.block g1 Z) (o:=6)).Z k6;rw[ho]at d1;have M3:∀i,i∈s↔i∈s\/(nd.D≠0/\i=nd.D):=λi=>by simp[ho]
 have S3:=ai S.1;have N:=aA;have Wf:=Sr;let⟨w3,e3⟩:=aF w2;let⟨K3,eK⟩:=aF k;let⟨E3,eE⟩:=aF E;let⟨s3,eS⟩:=aF s;have Ay:K3<=k+1:=af;subst e3 eK eE eS
 go_wp21
 refine(aF4 Wf (oh.kept (mZ N dN) al) S3 SH (aM oh.lt) af Ar).h ?_;rintro r w4⟨E4,s4,rfl,Oz,bj3,cs5,nC⟩;have M:Bw w w4:=DS N nC N.size (λj B=>by cases B;exact fS _);have f6:=(te (M.block g1 Z) (o:=6)).Z k6
 go_wp21
 refine(aF4 Oz (ou.kept (mZ M dN) al) bj3 SU (aM ou.lt) af uQ).h ?_;rintro r w5⟨E5,s5,rfl,aa0,cq2,cs4,X⟩;have eh:Bw w w5:=DS M X M.size (λj B=>by cases B;exact fS _);have An:=(Ao.kept nC (by have:=W.lt;simp;omega) (by first|(simp;done)|(simp;omega))).kept X (by have:=W.lt;simp;omega) (by first|(simp;done)|(simp;omega));exact bN5};{
 have xS:(nd.D != 0):=by simp[ho]
 have d1:=(te (aA.block g1 Z) (o:=1)).Z k1;have M3:∀i,i∈s++[nd.D]↔i∈s\/(nd.D≠0/\i=nd.D):=λi=>by simp[ho]
 have S3:=ai (S.1.put dw.isMap nd.D (.agg []));go_wp2_with(first
  |(at_mapUpdate;refine wpList_mapUpdate_own _ rfl _ _ _ 166 rfl 27 _ oO underlying166 unitElem (U (Q w)) k _ rfl Sr kW _ _ _ rfl rfl (keyOf_int_mk underlying27 (FR (ae yQ nd aI))) (.agg []) [] unitElem_mk ?_;intro w3 Wf cu7;have N:Below (U (Q w)) w w3:=DS aA cu7 aA.size (λj B=>by cases B;exact fS _);have d3:=(te (N.block g1 Z) (o:=3)).Z k3;have d6:=(te (N.block g1 Z) (o:=6)).Z k6)
  |fail)
 let⟨K3,eK⟩:=aF (k+1);let⟨E3,eE⟩:=aF (E.put (.U nd.D) (.agg []));let⟨s3,eS⟩:=aF (s++[nd.D]);have Ay:K3<=k+1:=af;rw[<-eK,<-eE]at Wf;rw[<-eE,<-eS]at S3;rw[<-eS]at M3;refine(aF4 Wf (oh.kept (mZ N dN) al) S3 SH (aM oh.lt) af Ar).h ?_;rintro r w4⟨E4,s4,rfl,Oz,bj3,cs5,nC⟩;have M:Bw w w4:=DS N nC N.size (λj B=>by cases B;exact fS _);have f6:=(te (M.block g1 Z) (o:=6)).Z k6
 go_wp21
 refine(aF4 Oz (ou.kept (mZ M dN) al) bj3 SU (aM ou.lt) af uQ).h ?_;rintro r w5⟨E5,s5,rfl,aa0,cq2,cs4,X⟩;have eh:Bw w w5:=DS M X M.size (λj B=>by cases B;exact fS _);have An:=((Ao.kept cu7 (by have:=W.lt;simp;omega) (by first|(simp;done)|(simp;omega))).kept nC (by have:=W.lt;simp;omega) (by first|(simp;done)|(simp;omega))).kept X (by have:=W.lt;simp;omega) (by first|(simp;done)|(simp;omega));exact bN5}})
theorem dW2(ss:List aB)(ids:LI):sS ss ids=dY↔Qc ids/\∀i∈ids,live ss i:=by
 simp only[sS,Qc,vS,mL,xK,L6,gP];constructor;{intro h;refine⟨λi j=>(h i j).2,λy m=>?_⟩;obtain⟨i,j,rfl⟩:=RJ m;have:=(h i j).1;rwa [ko,bN j]at this};{rintro⟨q,o⟩i j;refine⟨o _ ?_,q i j⟩;rw[ko,bN j];exact De j}
theorem Ky{α:Type}(l:List α)(d:α)(f:α->Bool):(∀i,i<J l->f (jE l i d)=dY)↔∀y∈l,f y:=by
 constructor;{intro h y m;obtain⟨i,j,rfl⟩:=RJ m;have:=h i j;rwa [ko,bN j]at this};{intro h i j;rw[ko,bN j];exact h _ (De j)}
theorem dt9(x:Int)(ss:List aB):(jR (J ss)).all (yB x ss)=dY↔Eb x ss:=by
 simp only[Eb,vS,mL,xK,yB,Hk,gP];constructor;{intro h;exact⟨λi j=>⟨(h i j).1,(h i j).2.1,(h i j).2.2.2⟩,λi j=>(h i j).2.2.1⟩};{rintro⟨m,o⟩i j;exact⟨(m i j).1,(m i j).2.1,o i j,(m i j).2.2⟩}
theorem dI6(e g:Int)(ss:List aB)(ns:List au):(jR (J ns)).all (wF e g ss ns)=dY↔CQ e g ns/\ns.all (λnd=>qG ns (iV nd.A))/\∀nd∈ns,∀i,Nb nd i->live ss i:=by
 have key:∀k,wF e g ss ns k=dY↔(CM e g (jE ns k kx)/\(k==0||!leB (jE ns k kx).A (jE ns (k-1) kx).A))/\qG ns (iV (jE ns k kx).A)/\(λnd=>dD (nd.D=0)||live ss nd.D) (jE ns k kx)/\(λnd:au=>nd.y.all (live ss)) (jE ns k kx)/\(λnd:au=>nd.X.all (live ss)) (jE ns k kx):=by
  intro k;simp only[wF,CM,gP,dW2,mL];have:((jE ns k kx).D==0||live ss (jE ns k kx).D)=(dD ((jE ns k kx).D=0)||live ss (jE ns k kx).D):=by congr 1
  rw[this];constructor;{rintro⟨⟨V,S⟩,R,N,M,⟨E,D⟩,⟨B,y⟩,W⟩;exact⟨⟨⟨V,N,W,E,B⟩,S⟩,R,M,D,y⟩};{rintro⟨⟨⟨V,N,W,E,B⟩,S⟩,R,M,D,y⟩;exact⟨⟨V,S⟩,R,N,M,⟨E,D⟩,⟨B,y⟩,W⟩}
 simp only[CQ,vS,mL,xK,gP,key];rw[<-Ky ns kx];constructor;{intro h;refine⟨⟨λi m=>(h i m).1.1,λi m=>(h i m).1.2⟩,λi m=>(h i m).2.1,?_⟩;have x:=(Ky ns kx (λnd=>dD (nd.D=0)||live ss nd.D)).1 (λi m=>(h i m).2.2.1);have r:=(Ky ns kx (λnd:au=>nd.y.all (live ss))).1 (λi m=>mL.2 (h i m).2.2.2.1);have X:=(Ky ns kx (λnd:au=>nd.X.all (live ss))).1 (λi m=>mL.2 (h i m).2.2.2.2);rintro nd o i(⟨q,rfl⟩|q|q);{have:=x nd o;simpa[q]using this};{exact mL.1 (r nd o) i q};{exact mL.1 (X nd o) i q}};{rintro⟨⟨q,Z⟩,x,r⟩i m;refine⟨⟨q i m,Z i m⟩,x i m,?_,?_,?_⟩;{refine(Ky ns kx (λnd=>dD (nd.D=0)||live ss nd.D)).2 (λnd o=>?_) i m;by_cases s:nd.D=0;{simp[s]};{simp[s,r nd o nd.D (.L ⟨s,rfl⟩)]}};{exact mL.1 ((Ky ns kx (λnd:au=>nd.y.all (live ss))).2 (λnd o=>mL.2 λj u=>r nd o j (.R (.L u))) i m)};{exact mL.1 ((Ky ns kx (λnd:au=>nd.X.all (live ss))).2 (λnd o=>mL.2 λj u=>r nd o j (.R (.R u))) i m)}}
theorem aR4(e g x t:Int)(ss:List aB)(ns:List au):nT e g x t ss ns=dY↔Ol e g x t (J ss) (J ns)/\Eb x ss/\CQ e g ns/\ns.all (λnd=>qG ns (iV nd.A))/\∀nd∈ns,∀i,Nb nd i->live ss i:=by
 rw[nT,gP,gP,dt9,dI6];exact Iff.rfl
theorem be1{i:Int}:live ss i=dY↔∃z∈ss,z.1=i:=by
 rw[live,VU];simp
theorem aG6:∀a:List UInt8,Op.bytesLess a a=dF
 |[]=>rfl
 |x::a=>by simp[Op.bytesLess,aG6 a]
theorem aG5:∀{a b c:List UInt8},Op.bytesLess a b->Op.bytesLess b c->Op.bytesLess a c=dY
 |_,[],_,h,_=>by simp[Op.bytesLess]at h
 |_,_::_,[],_,h=>by simp[Op.bytesLess]at h
 |[],_::_,_::_,_,_=>rfl
 |x::a,y::b,z::c,h,k=>by simp only[Op.bytesLess,Ro,mn,gP,Gi]at h k⊢;obtain h|⟨rfl,h⟩:=h;{obtain k|⟨rfl,k⟩:=k;{exact .L (UInt8.lt_trans h k)};{exact .L h}};{obtain k|⟨rfl,k⟩:=k;{exact .L k};{exact .R ⟨rfl,aG5 h k⟩}}
theorem cP0:∀{a b:List UInt8},Op.bytesLess a b=dF->a≠b->Op.bytesLess b a=dY
 |[],[],_,h=>absurd rfl h
 |[],_::_,h,_=>by simp[Op.bytesLess]at h
 |_::_,[],_,_=>rfl
 |x::a,y::b,h,aP=>by simp only[Op.bytesLess,Bool.or_eq_false_iff,LH]at h;simp only[Op.bytesLess,Ro,mn,gP,Gi];by_cases i:x=y;{subst i;right;refine⟨rfl,cP0 ?_ (λe=>aP (by rw[e]))⟩;simpa using h.2};{exact .L (UInt8.lt_of_le_of_ne (bc3.1 h.1) (JF i))}
theorem aj6{m:Nat->Nat->Bool}(h:vS n m)(r:∀i j k,m i j->m j k->m i k):∀(j i:Nat),j<n->i<j->m i j:=by
 have q:∀j,j+1<n->m j (j+1):=λj o=>by have:=mL.1 h (j+1) (xK.2 o);simpa using this
 intro j
 induction j with
 |zero=>intro i _ s;omega
 |succ j ih=>
  intro i o s;by_cases e:i=j;{subst e;exact q i o};{exact r i j (j+1) (ih i af af) (q j o)}
theorem bX2(h:Eb x ss):∀(i j:Nat)(s m:aB),ss[i]?=s->ss[j]?=m->i<j->s.1≠m.1:=by
 intro i j s m r o q;rw[Eb,gP]at h;have:=aj6 h.2 (λi j k y u=>by simp at y u⊢;omega) j i (bH.1 o).1 q;simp only[ko,r,o,tv,mn]at this;omega
theorem Lq{m:LI}:(!leB l m)=dY↔Op.bytesLess (bg m).toList (bg l).toList:=by
 simp only[leB,Bool.not_eq_true',Bool.or_eq_false_iff,bd3];constructor;{rintro⟨j,i⟩;exact cP0 j i};{intro h;refine⟨?_,λe=>?_⟩;{rw[Gj];intro i;have:=aG5 h i;rw[aG6]at this;cases this};{rw[e,aG6]at h;cases h}}
theorem cf5(h:CQ e g ns):∀(i j:Nat)(z m:au),ns[i]?=z->ns[j]?=m->i<j->z.A≠m.A:=by
 intro i j z m r o q;rw[CQ,gP]at h;have:=aj6 h.2 (λi j k u s=>Lq.2 (aG5 (Lq.1 u) (Lq.1 s))) j i (bH.1 o).1 q;simp only[ko,r,o,tv]at this;intro e;rw[e,Lq,aG6]at this;cases this
theorem aS9(h:Eb x ss)(o:x<=2^62):∀s∈ss,0<=s.1/\s.1<2^64:=by
 rw[Eb,gP,mL]at h;intro s j;have:=((Ky ss (0,0,[]) (Hk x)).1 λi m=>h.1 i (xK.2 m)) s j;simp only[Hk,gP,mn]at this;omega
theorem bh2(en:Le ss n)(em:Le ns m)(h:nM w (.S p n c) ss)(R:iw w (.S q m d) ns)(hn:Mg n)(hm:Mg m)(ig:O (Bs ss))(M:O (Bn ns))(tG:O (Bu ns))(yQ:O (Bo ns))(rI:ML w)(eB:O (nT e g x t ss ns=B)):dQ dG 64 #[cO e g x t (.S p n c) (.S q m d)] w (Rb (jO B) w):=by
 have N:=ai λ(w':G)(hb:Bw w w')=>aE (h.H hb) (aE (R.H hb) (rI.H hb));have V:O (B=dY↔Ol e g x t n m/\Eb x ss/\CQ e g ns/\ns.all (λj=>qG ns (iV j.A))/\∀j∈ns,∀i,Nb j i->live ss i):=by show _↔_;rw[<-ae eB,aR4,ae en,ae em]
 obtain⟨T1,E1⟩:∃T,O (Ol e g x t n m=T):=⟨_,di⟩;obtain⟨T2,X⟩:∃T,O (Eb x ss=T):=⟨_,di⟩;obtain⟨T3,E3⟩:∃T,O (CQ e g ns=T):=⟨_,di⟩;obtain⟨T4,E4⟩:∃T,O (ns.all (λj=>qG ns (iV j.A))=T):=⟨_,di⟩;let⟨W,hW⟩:=aF (jA w (dO #[.U e,.U g,.U x,.I t,.S p n c,.S q m d] 44));have rH:jg W (U (Q w)) e g x t (.S p n c) (.S q m d):=by rw[hW];simp[jg]
 go_in
 go_wp21
 rw[<-hW];refine cL (dN8 hn hm E1) λw1 az=>?_;have b1:=aj (ir hW) az;cases T1 with
 |false=>
  obtain rfl:B=dF:=by rw[Gj];intro o;have:=(V.1 o).1;rw[ae E1]at this;cases this
  exact aV
 | true=>
  let⟨i0,i1,i2,i3,i4,Z⟩:=rH.H az
  go_wp21
  refine cL (dh9 en (ae N _ b1).1 hn ig (ae N _ b1).2.2 X) λw2 E=>?_;have b2:=aj b1 E;cases T2 with
  |false=>
   obtain rfl:B=dF:=by rw[Gj];intro o;have:=(V.1 o).2.1;rw[ae X]at this;cases this
   exact aV
  | true=>
   replace i0:=aq i0 E;replace i1:=aq i1 E;replace i2:=aq i2 E;replace i3:=aq i3 E;replace i4:=aq i4 E;replace Z:=aq Z E
   go_wp21
   refine cL (di0 em (ae N _ b2).2.1 hm M (ae N _ b2).2.2 E3) λw3 y=>?_;have b3:=aj b2 y;cases T3 with
   |false=>
    obtain rfl:B=dF:=by rw[Gj];intro o;have:=(V.1 o).2.2.1;rw[ae E3]at this;cases this
    exact aV
   | true=>
    replace i0:=aq i0 y;replace i1:=aq i1 y;replace i2:=aq i2 y;replace i3:=aq i3 y;replace i4:=aq i4 y;replace Z:=aq Z y
    go_wp21
    refine(Yr en em (ae N _ b3).1 (ae N _ b3).2.1 hn hm (aS9 X (by have:=ae E1;simp only[Ol,mn]at this;exact this.2.2.1)) (bX2 X) M tG (cf5 E3)).h ?_;rintro r w4⟨b,bs,bn,SB,NB,HB,UB,rfl,cK,dz⟩;have kJ:=ai cK
    go_wp21
    refine cL (ek9 kJ (λj u=>⟨(ae M j u).1,(ae M j u).2.1⟩) E4) λw5 eh=>?_;have b5:=aj (aj b3 dz) eh;cases T4 with
    |false=>
     obtain rfl:B=dF:=by rw[Gj];intro o;have:=(V.1 o).2.2.2.1;rw[ae E4]at this;cases this
     exact aV
    |true=>
     go_wp21
     refine(dn8 (kJ.H eh) (λj u=>⟨(ae M j u).1,(ae M j u).2.2.2⟩) yQ em hm en).h ?_;rintro r w6⟨nb,k,D,s,rfl,oD,sD,hs,je⟩;have b6:=aj b5 je;have hlen:∀ty,(Builtin.len_ #[166] ty #[.map nb]).run dG w6=.ok (.I (Maps.size D)) w6:=λty=>oD.len underlying166 ty;have gj:Maps.size D=0↔s=[]:=sD.ds9 oD.isMap (λes ee p hp=>by let⟨Mz,e',_,hk⟩:=oD.entries oO;rw[ee]at e';cases e';exact hk p hp)
     have o:B=dY↔s=[]:=by rw[ae V];constructor;{rintro⟨_,_,_,_,h5⟩;apply List.eq_nil_iff_forall_not_mem.2;intro i hi;let⟨⟨j,u,R⟩,iL⟩:=(hs i).1 hi;exact iL ((be1).1 (h5 j u i R))};{intro Cb;refine⟨E1,X,E3,E4,λj u i R=>?_⟩;rw[be1];by_cases hh:∃z∈ss,z.1=i;{exact hh};{have:=(hs i).2 ⟨⟨j,u,R⟩,hh⟩;rw[Cb]at this;cases this}}
     have hb:((Maps.size D:Int)==0)=B:=by rw[Ry,o,<-gj];simp
     exact aV
theorem as1{α:Type}{R:α->α->Prop}{l:List α}(h:∀(i j:Nat)(a b:α),l[i]?=a->l[j]?=b->i<j->R a b):l.Pairwise R:=by
 rw[H6];intro i j q o m;exact h i j _ _ (bN q) (bN o) m
theorem du0(h:Eb x ss):ss.Pairwise (λs m=>s.1<m.1):=by
 refine as1 λi j s m r o q=>?_;rw[Eb,gP]at h;have:=aj6 h.2 (λi j k y u=>by simp at y u⊢;omega) j i (bH.1 o).1 q;simpa only[ko,r,o,tv,mn]using this
theorem dI7(h:CQ e g ns):(ns.map λnd=>kK nd.A).Pairwise (·<·):=by
 rw[Db];refine as1 λi j s x q m o=>?_;rw[CQ,gP]at h;have:=aj6 h.2 (λi j k u r=>Lq.2 (aG5 (Lq.1 u) (Lq.1 r))) j i (bH.1 m).1 o;simp only[ko,q,m,tv]at this;rw[Lq,T.aG2,mn,DR,DR]at this;exact this
theorem bC4(h:Qc l):l.Pairwise (·<·):=by
 refine as1 λi j s x q m o=>?_;rw[Qc]at h;have:=aj6 h (λi j k u r=>by simp at u r⊢;omega) j i (bH.1 m).1 o;simpa only[ko,q,m,tv,mn]using this
theorem cf3(h:CQ e g ns):∀nd∈ns,nd.y.Pairwise (·<·)/\nd.X.Pairwise (·<·):=by
 intro nd m;rw[CQ,gP]at h;have:=((Ky ns kx (CM e g)).1 λi j=>mL.1 h.1 i (xK.2 j)) nd m;simp only[CM,gP]at this;exact⟨bC4 this.2.2.2.1,bC4 this.2.2.2.2⟩
structure AW(ss:List aB)(ns:List au):Prop where
 s1:ss.Pairwise (λs s'=>s.1<s'.1)
 n1:(ns.map λnd=>kK nd.A).Pairwise (·<·)
 s2:∀s∈ss,(0<=s.1/\s.1<2^64)/\J s.2.2<=2^20/\∀e∈s.2.2,J e.2<=2^20
 n2:∀nd∈ns,aD nd.A/\J nd.A<=2^20/\J nd.V<=2^20/\J nd.y<=2^20/\J nd.X<=2^20/\nd.y.Pairwise (·<·)/\nd.X.Pairwise (·<·)
 s3:∀(i j:Nat)(s s':aB),ss[i]?=Y s->ss[j]?=Y s'->i<j->s.1≠s'.1
 n3:∀(i j:Nat)(z z':au),ns[i]?=z->ns[j]?=z'->i<j->z.A≠z'.A
theorem PF(h:nT e g x t ss ns)(r:Bs ss)(y:Bn ns):AW ss ns:=by
 let⟨u,o,i,D,B⟩:=(aR4 e g x t ss ns).1 h;refine⟨du0 o,dI7 i,λs m=>⟨aS9 o (by simp only[Ol,mn]at u;exact u.2.2.1) s m,(r s m).1,λe he=>((r s m).2 e he).2⟩,λj q=>?_,bX2 o,cf5 i⟩;let⟨a,b,c,d,f⟩:=y j q;exact⟨a,b,c,d,f,(cf3 i j q).1,(cf3 i j q).2⟩
theorem do1{SB NB HB UB:iN}(h:Kz w0 w b bs bn e g x t ss ns SB NB HB UB)(S:Bw w0 w)(l1:Mg (J ss))(l2:Mg (J ns)):Xt w b bs bn e g x t ss ns SB NB:=by
 refine⟨h.hd,⟨h.xC.len,?_,λi s E j B=>?_⟩,⟨h.kM.len,?_,λi Z E j B=>?_⟩⟩;{let⟨D,o,m⟩:=h.xC.own;exact⟨D,_,o,l1,m⟩};{obtain⟨-,u,r,q⟩:=h.xC.blk i s E j B;exact⟨u,r,q.H S⟩};{let⟨D,o,m⟩:=h.kM.own;exact⟨D,_,o,l2,m⟩};{have N:=(bH.1 j).1;obtain⟨R,jq⟩:∃y,HB[i]?=Y y:=⟨_,bN (h.kM.Oo▸N)⟩;obtain⟨M,jv⟩:∃y,UB[i]?=Y y:=⟨_,bN (h.kM.Om▸N)⟩;obtain⟨-,-,-,⟨V,r,q⟩,X,W⟩:=h.kM.blk i Z E R M j B jq jv;exact⟨V,R,M,r,q.H S,X,W⟩}
def pZ(s:aB):aB:=(s.1,0,[])
def qP(nd:au):au:={nd with X:=[]}
theorem aW5{R:dV->Option (DataW Unit×List MemPlace)}(h:jM w dG k R b n D)(K:∀es c,w.heap[b]?=Y (.map es c)->w'.heap[b]?=Y (.map es c)):jM w' dG k R b n D:=by
 obtain⟨es,i,m,j⟩:=h;exact⟨es,i,K _ _ m,j⟩
theorem cb7{R:dV->Option (DataW Unit×List MemPlace)}{r:Nat}(h:w.ranges P k R b r n D left gy)(h1:w'.heap[b]?=w.heap[b]?)(h2:w'.heap[r]?=w.heap[r]?):w'.ranges P k R b r n D left gy:=by
 obtain⟨es,j,i,m,x,hb,F,q,u,s,o⟩:=h;exact⟨es,j,i,m,x,h1.Z hb,F,q,u,h2.Z s,o⟩
variable {a:Nat}
theorem dI0{l:iN}(h:l.Nodup)(y:l[i]?=a)(x:l[j]?=a):i=j:=by
 have u:=(bH.1 y).1;have s:=(bH.1 x).1;have r:=H6.1 h;have q:=(bH.1 y).2;have o:=(bH.1 x).2;obtain m|m|m:=Og i j;{exact absurd (q.Z o.C) (r i j u s m)};{exact m};{exact absurd (o.Z q.C) (r j i s u m)}
def zJ(f:aB->aB)(left:Lit->Bool)(ss:List aB):List aB:=ss.map λs=>if left (.U s.1)then s else f s
theorem dj3(h:∀s∈ss,left (.U s.1)):zJ f left ss=ss:=by
 unfold zJ;rw[RM (g:=id) (λs hs=>by rw[aK (h s hs)];rfl),bd1]
theorem dj4(h:∀k,left k=dF):zJ f left ss=ss.map f:=by
 unfold zJ;exact RM λs _=>by rw[aJ (by rw[h];simp)]
theorem dj5{s:aB}(hs:ss[i]?=s)(u:left (.U s.1)):(zJ f left ss)[i]?=s:=by
 unfold zJ;rw[qU,hs,JE,aK u]
theorem dj2(hd:∀(i j:Nat)(s s':aB),ss[i]?=s->ss[j]?=s'->i<j->s.1≠s'.1){s:aB}(hs:ss[i]?=s):(zJ f left ss).set i (f s)=zJ f (λz=>left z&&!z.sameKey (.U s.1)) ss:=by
 have Mj:=(bH.1 hs).1;refine Ru λj=>?_;rw[vG];unfold zJ;by_cases ej:i=j;{subst ej;have u:(Lit.U s.1).sameKey (.U s.1):=au7 (by trivial);rw[aK rfl,aK (by simpa using Mj),qU,hs,JE,aJ (by simp[u])]};{
 simp only[ej,BK];rw[qU,qU];cases hj:ss[j]? with
 |none=>rfl
 | some s'=>
  have x:s'.1≠s.1:=by obtain hh|hh|hh:=Og i j;{exactλe=>hd i j s s' hs hj hh e.C};{exact absurd hh ej};{exact hd j i s' s hj hs hh}
  have:(Lit.U s'.1).sameKey (.U s.1)=dF:=by
   cases hq:(Lit.U s'.1).sameKey (.U s.1)with
   |false=>rfl
   |true=>rw[au5 (by trivial)]at hq;simp at hq;exact absurd hq x
  simp[this]}
theorem bY6{m q et:TypeId}{R:dV->Option (DataW Unit×List MemPlace)}(hm:P.underlying m=Y (.map q et))(h:jM w P k R b n D)(ty:TypeId):∃v w',(Builtin.clear_ #[m] ty #[.map b]).run P w=.ok v w'/\jM w' P k R b 0 (.map [])/\jG w w' b/\U (Q w')=U (Q w):=by
 obtain⟨es,j,o,F,x,y⟩:=h;have s:∃v,(Builtin.clear_ #[m] ty #[.map b]).run P w=.ok v {w with heap:=jI w.heap b (.map #[] j)}:=by simp[Builtin.clear_,ba0 hm,MapKept.run_getObj_map o,MapKept.run_setObj_map _ o,Result.andThen]
 obtain⟨v,r⟩:=s;refine⟨v,_,r,?_,⟨rfl,rfl,rfl,al,λi _ u=>(MapKept.heap_set o).2 i (λe=>u (by rw[e]))⟩,al⟩;exact⟨#[],j,(MapKept.heap_set o).1,⟨al,MapKept.stamped_empty _,al⟩,fS _,rfl⟩
def AB(w0 w:G)(v:dV)(l:LI):Prop:=Rd w0 v l\/TB w v l
theorem AB.rd(h:AB w0 w v l)(i:Bw w0 w):Rd w v l:=by
 obtain h|h:=h;{exact h.H i};{exact h.1}
theorem AB.T{T:List TypeId}(h:AB w0 w v l)(hf:Fr T w w')(ht:5∉T:=by decide):AB w0 w' v l:=by
 obtain h|h:=h;{exact .L h};{exact .R (h.T hf ht)}
def AQ(w0 w:G)(u:dV)(es:List Ev):Prop:=
 ∃(p:OA)(c:Nat),u=.S p (J es) c/\(es=[]\/∃b o,p=(Ad b o)/\(b<U (Q w0)\/∃j m,w.heap[b]?=dO j 125 m)/\∀i e,es[i]?=Y e->I w (Ad b (o+i*2))=dI e.1/\∃u,I w (Ad b (o+i*2+1))=Y u/\AB w0 w u e.2/\vU u)
variable {u:dV}
theorem AQ.QU(h:AQ w0 w u es)(s:Bw w0 w):rP w u es:=by
 obtain⟨p,c,rfl,h⟩:=h;refine⟨p,c,rfl,?_⟩;obtain h|⟨b,o,rfl,-,h⟩:=h;{exact .L h};{refine .R ⟨b,o,rfl,λi e he=>?_⟩;let⟨r,u,q,m,j⟩:=h i e he;exact⟨r,u,q,m.rd s,j⟩}
theorem AQ.of(h:rP w0 u es)(r:Bw w0 w):AQ w0 w u es:=by
 obtain⟨p,c,rfl,h⟩:=h;refine⟨p,c,rfl,?_⟩;obtain h|⟨b,o,rfl,h⟩:=h;{exact .L h};{by_cases q:es=[];{exact .L q};{obtain⟨m,j⟩:∃m,es[0]?=Y m:=⟨_,bN (NS.2 q)⟩;refine .R ⟨b,o,rfl,.L (my w0 _ (h 0 m j).1),λi e he=>?_⟩;let⟨B,u,y,x,s⟩:=h i e he;exact⟨aq B r,u,aq y r,.L x,s⟩}}
theorem AQ.T{T:List TypeId}(h:AQ w0 w u es)(hb:Below (U (Q w0)) w w')(hf:Fr T w w')(ht:5∉T/\125∉T:=by decide):AQ w0 w' u es:=by
 obtain⟨p,c,rfl,h⟩:=h;refine⟨p,c,rfl,?_⟩;obtain h|⟨b,o,rfl,hd,h⟩:=h;{exact .L h};{
 have hk:w'.heap[b]?=w.heap[b]?:=by obtain hd|⟨cur,m,hd⟩:=hd;{exact hb.block b hd};{exact(hf.2 _ _ _ _ ht.2 hd).Z hd.C}
 refine .R ⟨b,o,rfl,hd.imp id (λ⟨cur,m,hd⟩=>⟨cur,m,hk.Z hd⟩),λi e he=>?_⟩;let⟨h1,u,h2,h3,h4⟩:=h i e he;exact⟨(gG hk _).Z h1,u,(gG hk _).Z h2,h3.T hf ht.1,h4⟩}
theorem AQ.nil(w0 w:G):AQ w0 w ay []:=⟨dN,0,rfl,.L rfl⟩
theorem Ll{R:dV->Option (DataW Unit×List MemPlace)}(h:jM w dG k R b n D):jM w dG k R b (Maps.size D) D:=by
 obtain⟨es,i,j,F,m,rfl⟩:=h;refine⟨es,i,j,F,?_,rfl⟩;rw[Maps.size_eq,length_sorted];simp
theorem as6{R:dV->Option (DataW Unit×List MemPlace)}(h:jM w dG k R b n D)(K:Keyed dG k):Tidy D:=by
 obtain⟨es,e,i,-⟩:=h.entries K;exact⟨es,e,i⟩
theorem aS5{R:dV->Option (DataW Unit×List MemPlace)}(h:jM w dG k R b n D)(K:Keyed dG k)(o:L.Nodup)(r:∀x,Maps.has D x=dY↔x∈L):Maps.size D=J L:=by
 obtain⟨es,rfl,m,q⟩:=h.entries K;rw[Maps.size_eq,<-iC (f:=Prod.fst)];refine List.Perm.length_eq ((List.perm_ext_iff_of_nodup (Db.2 m) o).2 λx=>?_);rw[<-r x,Maps.has_eq,VU,fM];constructor;{rintro⟨p,i,rfl⟩;exact⟨p,i,au7 (q p i)⟩};{rintro⟨p,i,j⟩;refine⟨p,i,ci4 λs=>?_⟩;rw[sameKey_ne s]at j;cases j}
def SM(w:G)(h:Nat)(s:LI):Prop:=∃D n,jM w dG 27 unitElem h n D/\n<=2^21/\lX D s/\Maps.size D=J s
structure PN(w0 w:G)(g h u:Nat)(nd:au):Prop where
 lo:U (Q w0)<=g/\U (Q w0)<=h/\U (Q w0)<=u
 blk:∃V,w.heap[g]?=dO #[V,.U nd.D,.I nd.M,.map h,.U nd.P,.U nd.F,.map u] 193/\AB w0 w V nd.V
 Ey:SM w h nd.y
 CG:SM w u nd.X
def PE(w0 w:G)(g:Nat)(s:aB):Prop:=U (Q w0)<=g/\∃u,w.heap[g]?=dO #[.U s.1,.I s.2.1,u] 148/\AQ w0 w u s.2.2
structure PS(w0 w:G)(b bs bn:Nat)(D:SD)(SB NB HB UB:iN):Prop where
 be:Bw w0 w
 hd:w.heap[b]?=dO #[.U D.e,.U D.g,.U D.x,.I D.t,.map bs,.map bn] 188
 vZ:J SB=J D.E
 vY:∃M n,jM w dG 27 kc bs n M/\n<=2^20/\rr M (jZ (λ(s:aB)g=>(Lit.U s.1,g)) D.E SB)/\Maps.size M=J D.E
 vy:∀(i:Nat)(s:aB)(g:Nat),D.E[i]?=s->SB[i]?=Y g->PE w0 w g s
 snd:SB.Nodup
 xJ:J NB=J D.N
 hlen:J HB=J D.N
 zI:J UB=J D.N
 sP:∃M n,jM w dG 9 kc bn n M/\n<=2^20/\rr M (jZ (λ(nd:au)g=>(ft nd.A,g)) D.N NB)/\Maps.size M=J D.N
 rV:∀(i:Nat)(nd:au)(g h u:Nat),D.N[i]?=nd->NB[i]?=Y g->HB[i]?=h->UB[i]?=u->PN w0 w g h u nd
 Hy:NB.Nodup
 lo:U (Q w0)<=b/\U (Q w0)<=bs/\U (Q w0)<=bn
 xt:(bs::bn::(HB++UB)).Nodup
theorem SM.of{h n:Nat}(o:jM w dG 27 unitElem h n D)(q:n<=2^21)(m:lX D s)(u:s.Nodup):SM w h s:=by
 refine⟨D,n,o,q,m,?_⟩;have r:J (s.map λi:Int=>Lit.U i)=J s:=iC _;rw[<-r];refine aS5 o oO (Db.2 (u.imp λy e=>y (by simpa using e))) λx=>?_;rw[m x,fM];constructor;{rintro⟨i,j,rfl⟩;exact⟨i,j,rfl⟩};{rintro⟨i,j,rfl⟩;exact⟨i,j,rfl⟩}
theorem SM.kept{h:Nat}(k:SM w h s)(i:w'.heap[h]?=w.heap[h]?):SM w' h s:=by
 obtain⟨D,n,o,r,q,m⟩:=k;exact⟨D,n,aW5 o (λes c j=>i.Z j),r,q,m⟩
theorem YM(h:s.Pairwise (·<·)):s.Nodup:=h.imp λi e=>by omega
theorem PS.of{SB NB HB UB:iN}(h:Kz w0 w b bs bn e g x t ss ns SB NB HB UB)(be:Bw w0 w)(hF:AW ss ns)(ls:Mg (J ss))(ln:Mg (J ns)):PS w0 w b bs bn ⟨e,g,x,t,ss,ns⟩ SB NB HB UB:=by
 refine⟨be,h.hd,h.xC.len,?_,λi s X q W=>?_,h.xC.kM,h.kM.len,h.kM.Oo,h.kM.Om,?_,λi Z X hh uu q W B h2=>?_,h.kM.kM,h.lo,h.xt⟩;{let⟨D,o,m⟩:=h.xC.own;refine⟨D,_,o,ls,m,?_⟩;have hl:J (ss.map λs=>Lit.U s.1)=J ss:=iC _;rw[<-hl];refine aS5 o oO (Db.2 (hF.s1.imp λaH e=>by simp at e;omega)) λk=>?_;rw[m.hs k,fM];constructor;{rintro⟨p,S,rfl⟩;obtain⟨i,s,y,B,-,rfl⟩:=AY S;exact⟨s,bq B,rfl⟩};{rintro⟨s,q,rfl⟩;let⟨i,r⟩:=lh.1 q;obtain⟨y,R⟩:∃y,SB[i]?=Y y:=⟨_,bN (h.xC.len▸(bH.1 r).1)⟩;exact⟨_,bq (i:=i) (by rw[tA,r,R]),rfl⟩}};{let⟨N,u,M,E⟩:=h.xC.blk i s X q W;exact⟨N,u,M,AQ.of E be⟩};{let⟨D,o,m⟩:=h.kM.own;refine⟨D,_,o,ln,m,?_⟩;rw[<-(iC _)];refine aS5 o uM (Db.2 (as1 λi j a c ha hc lT e=>hF.n3 i j a c ha hc lT (Oj (hF.n2 a (bq ha)).1 (hF.n2 c (bq hc)).1 e))) λk=>?_;rw[m.hs k,fM];constructor;{rintro⟨p,S,rfl⟩;obtain⟨i,s,y,B,-,rfl⟩:=AY S;exact⟨s,bq B,rfl⟩};{rintro⟨s,q,rfl⟩;let⟨i,r⟩:=lh.1 q;obtain⟨y,R⟩:∃y,NB[i]?=Y y:=⟨_,bN (h.kM.len▸(bH.1 r).1)⟩;exact⟨_,bq (i:=i) (by rw[tA,r,R]),rfl⟩}};{let⟨N,M,E,⟨V,q3,q4⟩,⟨D1,o1,m1⟩,⟨D2,o2,m2⟩⟩:=h.kM.blk i Z X hh uu q W B h2;obtain⟨-,-,-,l1,l2,n1,n2⟩:=hF.n2 Z (bq q);exact⟨⟨N,M,E⟩,⟨V,q3,.L q4⟩,SM.of o1 af m1 (YM n1),SM.of o2 af m2 (YM n2)⟩}
theorem PS.Ys{D:SD}{SB NB HB UB:iN}(h:PS w0 w b bs bn D SB NB HB UB):Xt w b bs bn D.e D.g D.x D.t D.E D.N SB NB:=by
 refine⟨h.hd,⟨h.vZ,?_,λi s N j E=>?_⟩,⟨h.xJ,?_,λi nd N j E=>?_⟩⟩;{obtain⟨M,n,o,B,m,-⟩:=h.vY;exact⟨M,n,o,B,m⟩};{obtain⟨-,u,r,q⟩:=h.vy i s N j E;exact⟨u,r,q.QU h.be⟩};{obtain⟨M,n,o,B,m,-⟩:=h.sP;exact⟨M,n,o,B,m⟩};{have S:=(bH.1 j).1;obtain⟨W,jq⟩:∃y,HB[i]?=Y y:=⟨_,bN (h.hlen▸S)⟩;obtain⟨R,jv⟩:∃y,UB[i]?=Y y:=⟨_,bN (h.zI▸S)⟩;obtain⟨-,⟨V,r,q⟩,⟨D1,n1,o1,-,s1,Z⟩,⟨D2,n2,o2,-,s2,X⟩⟩:=h.rV i nd N W R j E jq jv;exact⟨V,W,R,r,q.rd h.be,⟨D1,Z▸Ll o1,s1⟩,⟨D2,X▸Ll o2,s2⟩⟩}
structure One(w0 w w':G)(g:Nat):Prop where
 b:Below (U (Q w0)) w w'
 k:∀z,z<U (Q w)->z≠g->w'.heap[z]?=w.heap[z]?
 t:∀cur ty m,w.heap[g]?=dO cur ty m->ty∈[148,193,188]
variable {g:Nat}
theorem One.T(h:One w0 w w' g):Fr [148,193,188] w w':=by
 refine⟨h.b.size,λb cur ty m hn hb=>?_⟩;by_cases e:b=g;{subst e;exact absurd (h.t _ _ _ hb) hn};{exact(h.k b (gQ hb) e).Z hb}
theorem One.obj{o:Obj}(h:One w0 w w' g)(i:w.heap[z]?=o)(j:z≠g):w'.heap[z]?=o:=(h.k z (gQ i) j).Z i
theorem ownsMap_at{R:dV->Option (DataW Unit×List MemPlace)}(h:jM w dG k R b n D):∃es c,w.heap[b]?=Y (.map es c):=by
 obtain⟨es,c,i,-⟩:=h;exact⟨es,c,i⟩
theorem One.map{R:dV->Option (DataW Unit×List MemPlace)}(h:One w0 w w' g)(i:jM w dG k R z n D)(m:z≠g):jM w' dG k R z n D:=
 aW5 i (λes c j=>h.obj j m)
theorem SM.W{g h:Nat}(k:SM w h s)(iO:One w0 w w' g)(q:h≠g):SM w' h s:=by
 obtain⟨D,n,o,m,j,i⟩:=k;exact⟨D,n,iO.map o q,m,j,i⟩
theorem SM.at{h:Nat}(k:SM w h s):∃es c,w.heap[h]?=Y (.map es c):=by
 obtain⟨D,n,o,-⟩:=k;exact ownsMap_at o
variable {s:aB}
theorem PE.W(h:PE w0 w gb s)(iO:One w0 w w' g)(o:gb≠g):PE w0 w' gb s:=by
 obtain⟨m,u,j,i⟩:=h;exact⟨m,u,iO.obj j o,i.T iO.b iO.T bf⟩
theorem PN.W{i:Nat}(h:PN w0 w gb hh i nd)(iO:One w0 w w' g)(u:gb≠g)(s:hh≠g)(r:i≠g):PN w0 w' gb hh i nd:=by
 obtain⟨x,⟨V,q,o⟩,m,j⟩:=h;exact⟨x,⟨V,iO.obj q u,o.T iO.T⟩,m.W iO s,j.W iO r⟩
section
variable {w0 w w':World}{b bs bn:Nat}{D:SD}{SB NB HB UB:iN}
variable {i:Nat}{nd:au}
theorem PS.nat(h:PS w0 w b bs bn D SB NB HB UB)(r:D.N[i]?=nd):∃g hh j,NB[i]?=Y g/\HB[i]?=Y hh/\UB[i]?=Y j/\PN w0 w g hh j nd:=by
 have m:=(bH.1 r).1;obtain⟨g,s⟩:∃y,NB[i]?=Y y:=⟨_,bN (h.xJ▸m)⟩;obtain⟨hh,q⟩:∃y,HB[i]?=Y y:=⟨_,bN (h.hlen▸m)⟩;obtain⟨j,o⟩:∃y,UB[i]?=Y y:=⟨_,bN (h.zI▸m)⟩;exact⟨g,hh,j,s,q,o,h.rV i nd g hh j r s q o⟩
variable {s:aB}
theorem PS.sat(h:PS w0 w b bs bn D SB NB HB UB)(j:D.E[i]?=s):∃g,SB[i]?=Y g/\PE w0 w g s:=by
 obtain⟨g,m⟩:∃y,SB[i]?=Y y:=⟨_,bN (h.vZ▸((bH.1 j).1))⟩;exact⟨g,m,h.vy i s g j m⟩
variable {g:Nat}
theorem PS.dJ4(h:PS w0 w b bs bn D SB NB HB UB)(j:NB[i]?=g):∃nd,D.N[i]?=Y nd:=⟨_,bN (h.xJ▸(bH.1 j).1)⟩
theorem PS.H(h:PS w0 w b bs bn D SB NB HB UB)(hb:Bw w w'):PS w0 w' b bs bn D SB NB HB UB:=by
 have x:One w0 w w' (U (Q w)):=⟨hb.h h.be.size,λz y _=>hb.block z y,λZ ty m hc=>absurd (gQ hc) (Nat.lt_irrefl _)⟩;have j:∀{z:Nat}{o:Obj},w.heap[z]?=o->z≠U (Q w):=λy e=>aM (gQ y);refine⟨h.be.Z (hb.h h.be.size),x.obj h.hd (j h.hd),h.vZ,?_,λi s g B E=>?_,h.snd,h.xJ,h.hlen,h.zI,?_,λi R g X N B E h1 h2=>?_,h.Hy,h.lo,h.xt⟩;{let⟨M,n,o,r⟩:=h.vY;let⟨es,c,hm⟩:=ownsMap_at o;exact⟨M,n,x.map o (j hm),r⟩};{have q:=h.vy i s g B E;obtain⟨-,u,h1,-⟩:=id q;exact q.W x (j h1)};{let⟨M,n,o,r⟩:=h.sP;let⟨es,c,hm⟩:=ownsMap_at o;exact⟨M,n,x.map o (j hm),r⟩};{have q:=h.rV i R g X N B E h1 h2;obtain⟨-,⟨V,q1,-⟩,q3,q4⟩:=id q;let⟨es,c,W⟩:=q3.at;let⟨Mz,c',S⟩:=q4.at;exact q.W x (j q1) (j W) (j S)}
variable {l:iN}
theorem ax0(o:l.Nodup)(r:l[i]?=a)(q:l[j]?=c)(m:i≠j):a≠c:=λe=>m (dI0 o r (e▸q))
theorem PS.hu(h:PS w0 w b bs bn D SB NB HB UB):bs≠bn/\(∀z∈HB,z≠bs/\z≠bn)/\(∀z∈UB,z≠bs/\z≠bn)/\HB.Nodup/\UB.Nodup/\∀y∈HB,∀z∈UB,y≠z:=by
 have m:=h.xt;simp only[Gn,gD,jl,JC]at m;obtain⟨⟨x,u,s⟩,⟨r,q⟩,j⟩:=m;rw[Gm]at j;exact⟨x,λz i=>⟨λe=>u (e▸i),λe=>r (e▸i)⟩,λz i=>⟨λe=>s (e▸i),λe=>q (e▸i)⟩,j.1,j.2.1,λy o z i=>j.2.2 y o z i⟩
theorem PS.zJ(h:PS w0 w b bs bn D SB NB HB UB){s':aB}(hs:D.E[i]?=s)(hg:SB[i]?=Y g)(iO:One w0 w w' g)(hid:s'.1=s.1)(hE:PE w0 w' g s'):PS w0 w' b bs bn {D with E:=D.E.set i s'} SB NB HB UB:=by
 obtain⟨g0,u0,gc,-⟩:=h.vy i s g hs hg;have Mj:=(bH.1 hs).1;have nc:∀{z:Nat}{cs:iA}{ty:TypeId},w.heap[z]?=dO cs ty->ty≠148->z≠g:=λhz ht e=>by rw[e,gc]at hz;simp at hz;exact ht hz.2.C
 have nm:∀{z:Nat}{es:Array MapEntry}{c:Nat},w.heap[z]?=Y (.map es c)->z≠g:=λhz e=>by rw[e,gc]at hz;cases hz
 refine⟨h.be.Z iO.b,iO.obj h.hd (nc h.hd bf),by rw[qS];exact h.vZ,?_,λj s1 g1 fO fo=>?_,h.snd,h.xJ,h.hlen,h.zI,?_,λj nd gb hh uu fO fo h1 h2=>?_,h.Hy,h.lo,h.xt⟩;{
 let⟨M,n,o,hn,m,hz⟩:=h.vY;let⟨es,c,hm⟩:=ownsMap_at o;refine⟨M,n,iO.map o (nm hm),hn,?_,by simp only[qS];exact hz⟩;have e:jZ (λ(s:aB)g=>(Lit.U s.1,g)) (D.E.set i s') SB=jZ (λ(s:aB)g=>(Lit.U s.1,g)) D.E SB:=by refine Ru λj=>?_;rw[tA,tA,vG];by_cases ej:i=j;{subst ej;rw[aK rfl,aK Mj,hs,hg];simp[hid]};{simp[ej]}
 rw[e];exact m};{simp only[vG]at fO;by_cases ej:i=j;{subst ej;rw[hg]at fo;cases fo;simp[Mj]at fO;subst fO;exact hE};{simp[ej]at fO;exact(h.vy j s1 g1 fO fo).W iO (ax0 h.snd fo hg (λe=>ej e.C))}};{let⟨M,n,o,r⟩:=h.sP;exact X6};{have q:=h.rV j nd gb hh uu fO fo h1 h2;obtain⟨-,⟨V,q1,-⟩,q3,q4⟩:=id q;let⟨es,c,m3⟩:=q3.at;let⟨Mz,c',m4⟩:=q4.at;exact q.W iO (nc q1 bf) (nm m3) (nm m4)}
end
theorem et6(D:n<=2^21):dQ dG 346 #[ay,.I n] w λe w'=>∃m o,e=dR (.S m 0 o)/\w'.ownsRow (U (Q w)) 125 2 (.S m 0 o) 0 []/\Bw w w':=by
 let⟨i,x,s,E,y⟩:=mJ Tryz.infoEv;by_cases h:n=0;{subst h;go_in;go_wp2;go_ret;exact⟨dN,0,rfl,qe _ _ _ _,bD _ _⟩};{
 have B:=uX 0 n;have q:=ai (Lib.run_append_nil_zeros (P:=dG) w 48 3 48 125 i (jP #[.I 0,ay]) jV jV underlying48 underlying3 x s n af af af (by rw[y];omega));have r:=au3 w n 0 125;have j:=au2 w n 0 125 kW;generalize grownCap w n 0 125=cc at q r j;go_in;go_wp2_with(at_builtin;refine Lib.wpList_append_run _ rfl _ _ _ _ rfl _ _ rfl rfl _ _ q ?_);unfold maxLen at j;go_wp2;go_ret;have u:(Builtin.zeroCells #[Value.int jV 0,Value.slice dN 0 0] n++Builtin.zeroCells #[Value.int jV 0,Value.slice dN 0 0] (cc-n)).size=cc*2:=by rw[aZ2,au1,au1];simp;omega
 exact⟨_,cc,rfl,World.ownsRow_made (base:=U (Q w)) (e:=125) (size:=2) w _ cc aU kW u,cY.drew⟩}
def cU3(ls:List (List dV))(N:Nat):Prop:=J (jL ls)=N*2
def ak3(w:G)(g:Nat)(vs:List dV)(ls:List (List dV)):Prop:=J vs=J ls/\∀j v l,vs[j]?=Y v->ls[j]?=Y l->I w (Ad g j)=Y v/\(∀u∈l,u.oneCell')/\∃n p c,J l=n*2/\v=.S p n c/\(l=[]\/∃a,p=Y a/\∀i u,l[i]?=Y u->I w (a.add i)=Y u)
theorem ak3.H(h:ak3 w g vs ls)(m:Bw w w'):ak3 w' g vs ls:=by
 refine⟨h.1,λj v l M E=>?_⟩;let⟨B,y,n,p,c,x,s,r⟩:=h.2 j v l M E;refine⟨aq B m,y,n,p,c,x,s,r.imp id λ⟨a,D,q⟩=>⟨a,D,λi u o=>?_⟩⟩;have hc:=q i u o;exact(m.cell (p:=a.add i) (my w _ hc)).Z hc
variable {k:Nat}
theorem cE4{l:List dV}(h:ls[k]?=l):jL (jT (k+1) ls)=jL (jT k ls)++l:=by
 rw[rD,h,LM];simp
theorem aD2(k:Nat):(jT k ls).flatten.length<=J (jL ls):=by
 have e:jL ls=jL (jT k ls)++jL (jD k ls):=by rw[<-LM,JN]
 rw[e,fe];omega
theorem eM8(h:ak3 w g vs ls)(hl:J (jL ls)<=2^21)(hk:J ls<=1000):dQ dG 345 #[.T g (J ls) (J ls)] w λe w'=>∃N q r,e=dR (.S q N r)/\cU3 ls N/\w'.ownsRow (U (Q w)) 125 2 (.S q N r) N (jL ls)/\Bw w w':=by
 let⟨i,hi,jk,fI,gv⟩:=mJ Tryz.infoEv;have W:=gJ hi jk fI gv;have HH:=ai λ(w':G)(hb:Bw w w')=>h.H hb;let⟨D,o⟩:=cg (J ls);rw[ae o]at hk⊢;go_in;go_wp2
 go_loopw[3,11](λs i wr=>∃k N:Nat,k<=D/\i=.I k/\s=.I N/\O ((jT k ls).flatten.length=N*2)/\wr=w) (λ_ i _=>D-(jN (intOf i)))
 exact⟨0,0,de _,rfl,rfl,(by show _=_;simp),rfl⟩;{
 obtain⟨k,N,kh,rfl,rfl,hN,rfl⟩:=hrel;have rG:=aD2 (ls:=ls) k;rw[ae hN]at rG;by_cases aH:k<D;{have dm:=cM k D;obtain⟨l,R⟩:∃l,ls[k]?=Y l:=⟨_,bN (ae o▸aH)⟩;let⟨Kg,uT⟩:=ae HH _ db;obtain⟨v,e2⟩:∃v,vs[k]?=Y v:=⟨_,bN (by rw[Kg,ae o];exact aH)⟩;obtain⟨c1,-,n,p,c,X,rfl,-⟩:=uT k v l e2 R;have Z:=cE4 R;have y:=ai (by rw[Z,fe,ae hN,X];omega:(jT (k+1) ls).flatten.length=(N+n)*2);have m:=aD2 (ls:=ls) (k+1);rw[ae y]at m;go_wp2;go_roundw;exact⟨k+1,N+n,af,by go_num,by go_num,y,by first|rfl|trivial⟩;exact dy};{
 obtain rfl:k=D:=af;have dm:=ga k k;have e9:=ae hN;rw[nZ (by rw[ae o];omega)]at e9
 go_wp21
 obtain⟨wo,rfl⟩:=aF wr;refine(et6 af).h ?_;rintro e w1⟨p1,c1,rfl,o1,az⟩;have O1:=ai o1;go_wp2
 go_loopw[6,27](λv i w2=>∃(j M:Nat)(B:OA)(V:Nat),j<=k/\i=.I j/\v=.S B M V/\O ((jT j ls).flatten.length=M*2)/\O (w2.ownsRow (U (Q wo)) 125 2 (.S B M V) M (jL (jT j ls)))/\O (Bw wo w2)) (λ_ i _=>k-(jN (intOf i)))
 exact⟨0,0,p1,c1,de _,rfl,rfl,(by show _=_;simp),by simpa using O1,az⟩;{
 obtain⟨j,M,B,V,hj,rfl,rfl,hM,E,x⟩:=hrel;have eg0:=aD2 (ls:=ls) j;rw[ae hM]at eg0;by_cases Gx:j<k;{
 have bl5:=cM j k;obtain⟨l,R⟩:∃l,ls[j]?=Y l:=⟨_,bN (ae o▸Gx)⟩;let⟨Kg,uT⟩:=ae HH _ x;obtain⟨v,e2⟩:∃v,vs[j]?=Y v:=⟨_,bN (by rw[Kg,ae o];exact Gx)⟩;obtain⟨c2,aa2,n,p,c,X,rfl,oU⟩:=uT j v l e2 R;have Z:=cE4 R;have y:=ai (by rw[Z,fe,ae hM,X];omega:(jT (j+1) ls).flatten.length=(M+n)*2);have m:=aD2 (ls:=ls) (j+1);rw[ae y]at m;let⟨HS,H3⟩:=aQ Z X;cases p with
 |none=>
  obtain rfl:l=[]:=oU.resolve_right (λ⟨a,ea,_⟩=>by cases ea);obtain rfl:n=0:=by have:=ae H3;simp at this;omega
  go_wp2_with(at_builtin;refine Lib.wpList_append_run _ rfl _ _ _ _ rfl _ _ rfl rfl _ _ (by exact(ar0 (P:=dG) 48 i underlying48 W.1 c E)) ?_);go_roundw;exact⟨j+1,M,B,V,af,by go_num,rfl,by simpa using y,(by show World.ownsRow _ _ _ _ _ _ _;rw[ae HS];simpa using ae E),x⟩;exact dy
 |some ad=>
  have vM:∀(jj:Nat)(u:dV),l[jj]?=u->I wr (ad.add jj)=u:=by obtain rfl|⟨a,ea,ha⟩:=oU;{intro jj u hu;simp at hu};{cases ea;exact ha}
  go_wp2_with(at_builtin;refine VH _ rfl _ _ 48 rfl (U (Q wo)) 125 i _ 2 32 underlying48 W.1 W.2.1 W.2.2.1 W.2.2.2 rfl bf _ _ _ rfl E ad n c l rfl H3 vM aa2 kW af x.size ?_);intro v' w3 dw hg _;have b3:=ai (x.grown hg x.size (λk hk=>(VI E k hk).1));obtain⟨q,r,rfl⟩:∃q r,v'=.S q (M+n) r:=by obtain⟨rfl,h0⟩|⟨g',cap,cur,rfl,-⟩:=dw.2;{exact⟨dN,0,by rw[h0]⟩};{exact⟨_,_,rfl⟩}
  go_wp2;go_roundw;exact⟨j+1,M+n,q,r,af,by go_num,rfl,y,(by show World.ownsRow _ _ _ _ _ _ _;rw[ae HS];exact dw),b3⟩;exact dy};{obtain rfl:j=k:=af;have bl5:=ga j j;have e8:=ae E;have e7:=ae hM;rw[nZ (by rw[ae o];omega)]at e8 e7;have HE:=bG e8 e7;go_wp2;go_ret;exact⟨M,B,V,rfl,HE.2,HE.1,x⟩}}}}
def TF(w0 w:G)(e:Ev)(c:List dV):Prop:=∃P,c=[.I e.1,P]/\AB w0 w P e.2/\vU P
theorem TF.T{T:List TypeId}(hf:Fr T w w')(ht:5∉T)(e:Ev)(c:List dV)(h:TF w0 w e c):TF w0 w' e c:=by
 obtain⟨P,h1,h2,h3⟩:=h;exact⟨P,h1,h2.T hf ht,h3⟩
theorem cE5{cs:List (List dV)}(h2:∀c∈cs,J c=2):J (jL cs)=J cs*2:=by
 induction cs with
 |nil=>rfl
 |cons c r ih=>rw[vF,fe,h2 c al,ih (λd i=>h2 d (by simp[i])),mO];omega
theorem AQ.cells(h:AQ w0 w (.S p n c) es):n=J es/\∃cs:List (List dV),J cs=J es/\(∀c∈cs,J c=2)/\(∀(i:Nat)(e:Ev)(c:List dV),es[i]?=Y e->cs[i]?=Y c->TF w0 w e c)/\(jL cs=[]\/∃a,p=Y a/\∀i u,cs.flatten[i]?=Y u->I w (a.add i)=Y u):=by
 obtain⟨E,M,e,h⟩:=h;obtain⟨rfl,en,rfl⟩:=mh e;refine⟨en,?_⟩;obtain rfl|⟨b,o,rfl,-,h⟩:=h;{exact⟨[],rfl,λc hc=>by simp at hc,λi e c he=>by simp at he,.L rfl⟩};{
 have key:∀(es:List Ev)(o:Nat),(∀i e,es[i]?=Y e->I w (Ad b (o+i*2))=dI e.1/\∃u,I w (Ad b (o+i*2+1))=Y u/\AB w0 w u e.2/\vU u)->∃cs:List (List dV),J cs=J es/\(∀c∈cs,J c=2)/\(∀(i:Nat)(e:Ev)(c:List dV),es[i]?=Y e->cs[i]?=Y c->TF w0 w e c)/\∀i u,cs.flatten[i]?=Y u->I w (Ad b (o+i))=Y u:=by
  intro es
  induction es with
  |nil=>intro o h;exact⟨[],rfl,λc hc=>by simp at hc,λi e c he=>by simp at he,λi u m=>by simp at m⟩
  |cons e r ih=>
   intro o h;let⟨cs,h1,h2,h3,h4⟩:=ih (o+2) (λi e he=>by have:=h (i+1) e (by simpa using he);rw[show o+(i+1)*2=o+2+i*2 by omega]at this;exact this)
   let⟨y,u,x,s,q⟩:=h 0 e rfl;refine⟨[.I e.1,u]::cs,by simp[h1],λc hc=>?_,λi B c he hc=>?_,λi v j=>?_⟩;{obtain rfl|hc:=gD.1 hc;{rfl};{exact h2 c hc}};{
 cases i with
 |zero=>simp at he hc;subst he hc;exact⟨u,rfl,s,q⟩
 | succ i=>exact h3 i B c (by simpa using he) (by simpa using hc)}
   {
 match i,j with
 |0,j=>simp at j;subst j;simpa using y
 |1,j=>simp at j;subst j;simpa using x
 |i+2,j=>
  have:=h4 i v (by simpa using j);rw[show o+(i+2)=o+2+i by omega];exact this}
 let⟨cs,h1,h2,h3,h4⟩:=key es o h;exact⟨cs,h1,h2,h3,.R ⟨_,rfl,λi u m=>by rw[Ia];exact h4 i u m⟩⟩}
variable {B:Nat}
theorem AQ.dG7(h:RT (TF w0) 125 2 B w v es):AQ w0 w v es:=by
 obtain⟨p,c,rfl,-,-,q⟩:=RT.form h;refine⟨p,c,rfl,?_⟩;by_cases o:es=[];{exact .L o};{obtain⟨g,rfl⟩:=q (NS.2 o);let⟨j,hc⟩:=h.vW g rfl;refine .R ⟨g,0,rfl,.R ⟨j,_,hc⟩,λi e he=>?_⟩;obtain⟨cs,-,⟨P,rfl,s,r⟩,m,-⟩:=RT.at h he;rw[nY];exact⟨m 0 _ rfl,P,m 1 _ rfl,s,r⟩}
theorem dC6(h:PE w0 w g s):∃i q,w.heap[g]?=dO #[.U s.1,.I s.2.1,.S i (J s.2.2) q] 148/\AQ w0 w (.S i (J s.2.2) q) s.2.2/\(∀o,jF w (Ad g o)=dF):=by
 obtain⟨-,u,m,j⟩:=h;obtain⟨p,c,rfl,r⟩:=id j;exact⟨p,c,m,j,λo=>by simp[World.frozen?,m]⟩
theorem cD0{i:G}(E:Bw w0 w)(D:PE w0 w g s)(j:Bw w i)(hq:AQ w0 i v' q'):One w0 w (jS i (Ad g 2) v') g/\PE w0 (jS i (Ad g 2) v') g (s.1,s.2.1,q'):=by
 obtain⟨r,u,o,R⟩:=D;have q:=(j.block g (gQ o)).Z o;have f:Fr [148] i (jS i (Ad g 2) v'):=Fr.set q al;have x:Below (U (Q w0)) i (jS i (Ad g 2) v'):=db.setCell (p:=(Ad g 2)) r _;refine⟨⟨(j.h E.size).Z x,λz y M=>(gh _ _ _ _ M).Z (j.block z y),λcur N m hc=>?_⟩,r,v',by simp[World.setCell,Ac,q],hq.T x f bf⟩;rw[o]at hc;simp at hc;simp[<-hc.2.1]
theorem cL2{pq pe:OA}{nq Z R:Nat}(hQ:AQ w0 w (.S pq nq Z) es)(hv:AB w0 w Pv ev.2)(hc:vU Pv)(hn:nq<=1000)(h0:I w (Ad z 0)=dS pq nq Z)(h1:I w (Ad z 1)=dK R 1 1)(k0:I w (Ad R 0)=dI ev.1)(k1:I w (Ad R 1)=Pv):Cp 345 #[.T z 2 2] w λr w'=>∃W c',r=dR (.S W (nq+1) c')/\AQ w0 w' (.S W (nq+1) c') (es++[ev])/\Bw w w':=by
 let⟨en,cs,V,g2,g3,g4⟩:=hQ.cells;have aa2:Pv.oneCell':=by obtain⟨_,_,_,rfl,-⟩:=hc;rfl
 have hPE:ak3 w z [.S pq nq Z,.T R 1 1] [jL cs,[.I ev.1,Pv]]:=by
  refine⟨rfl,λj v l s q=>?_⟩
  match j,s,q with
  |0,s,q=>
   simp at s q;subst s q;refine⟨h0,λu m=>?_,nq,pq,Z,by rw[cE5 g2,V,en],rfl,g4⟩;let⟨l,hl,M⟩:=Eg.1 m;let⟨i,X⟩:=lh.1 hl;obtain⟨e,he⟩:∃e,es[i]?=Y e:=⟨_,bN (V▸(bH.1 X).1)⟩;obtain⟨P,rfl,-,⟨_,_,_,rfl,-⟩⟩:=g3 i e l he X;simp at M;obtain rfl|rfl:=M<;>rfl
  |1,s,q=>
   simp at s q;subst s q;refine⟨h1,λu m=>?_,1,Y (Ad R 0),1,rfl,rfl,.R ⟨_,rfl,λi u m=>?_⟩⟩;{simp at m;obtain rfl|rfl:=m;{rfl};{exact aa2}};{
 rw[Ia,nY]
 match i,m with
 |0,m=>simp at m;subst m;exact k0
 |1,m=>simp at m;subst m;exact k1}
 have rG:jL ([jL cs,[.I ev.1,Pv]]:List (List dV))=jL (cs++[[.I ev.1,Pv]]):=al;have o:([jL cs,[.I ev.1,Pv]]:List (List dV)).flatten.length=(nq+1)*2:=by
  rw[rG,cE5 (λc hc=>by obtain hc|hc:=jl.1 hc;{exact g2 c hc};{simp at hc;subst hc;rfl}),fe,V,<-en]
  rfl
 refine(eM8 hPE (by rw[o];omega) al).h ?_;rintro r w'⟨N,W,c',rfl,hN,ho,hb⟩;have eN:N=nq+1:=by unfold cU3 at hN;rw[o]at hN;omega
 subst eN;refine⟨W,c',rfl,AQ.dG7 (B:=U (Q w)) ⟨cs++[[.I ev.1,Pv]],by simp[V],λc hc=>?_,?_,λi y c x E=>?_⟩,hb⟩;{obtain hc|hc:=jl.1 hc;{exact g2 c hc};{simp at hc;subst hc;rfl}};{rw[<-rG,fe,<-en];exact ho};{
 have il:Fr [] w w':=Fr.H hb;by_cases X:i<J es;{rw[oI X]at x;rw[oI af]at E;exact TF.T il al _ _ (g3 i y c x E)};{
 have ei:i=J es:=by have:=(bH.1 x).1;simp at this;omega
 subst ei;rw[qT aU,Ab]at x;rw[qT af,V,Ab]at E;simp at x E;subst x E;exact⟨Pv,rfl,hv.T il al,hc⟩}}
theorem One.ofB(s:Bw w0 w)(i:Bw w w')(q:w.heap[g]?=dO cs ty)(o:ty∈[148,193,188]):One w0 w w' g:=by
 refine⟨i.h s.size,λz j _=>i.block z j,λr u m hc=>?_⟩;rw[q]at hc;simp at hc;rw[<-hc.2.1];exact o
theorem PE.H(h:PE w0 w g s)(q:Bw w0 w)(i:Bw w w'):PE w0 w' g s:=by
 obtain⟨o,u,j,m⟩:=h;exact⟨o,u,(i.block g (gQ j)).Z j,m.T (i.h q.size) (cG i) al⟩
theorem et8(w:G)(y:Nat)(s:aB)(K:Int)(P:LI)(pe:OA)(ne ce:Nat)(be:O (Bw w0 w))(hE:O (PE w0 w y s))(hP:O (AB w0 w (.S pe ne ce) P))(hc:O (vU (.S pe ne ce)))(hq:J s.2.2<=1000):dQ dG 344 #[Pz y,jP #[.I K,.S pe ne ce]] w λr w'=>One w0 w w' y/\PE w0 w' y (s.1,s.2.1,vg s.2.2 (K,P))/\∃v,r=dR v:=by
 let⟨pq,cq,gc,hQ,gf⟩:=dC6 hE;let⟨nq,vQ⟩:=cg (J s.2.2);rw[ae vQ]at gc hQ hq;have c2:I w (Ad y 2)=dS pq nq cq:=cI gc 2;have xh:y<U (Q w):=gQ gc;let⟨W0,N,b0,z0,C0,T0⟩:=cR w #[.I K,.S pe ne ce] 125;let⟨HC0,B0,HQ,HP0⟩:=zk C0 b0 (hQ.T (b0.h be.size) (cG b0) al) (hP.T (cG b0) al);have c2a:=λ(ob:Obj)=>aq c2 ((bD (U (Q w)) w).alloc aU ob);let⟨c2w,gfw⟩:=aQ c2 gf;clear C0 b0 T0 hQ gf;go_in
 change O _ at gc
 by_cases h7:nq<7;{
 have h7':(nq:Int)<7:=af;have Sq:vg s.2.2 (K,P)=s.2.2++[(K,P)]:=by rw[vg,ae vQ,aK h7]
 rw[Sq]
 go_wp21
 rw[<-N];clear N c2a Sq;let⟨vA,br⟩:=aF W0.drew;have bM:=kH br;let⟨BA,m⟩:=aQ bM (λ(v:G)(hv:Bw W0 v)=>aE (aE (aq (HC0.1 0 _ rfl) hv) (aq (HC0.1 1 _ rfl) hv)) (aE (aq c2w (aj (ae B0) hv)) (aE (HQ.T ((Below.h hv (by have:=B0.size;have:=be.size;omega))) (cG hv) al) (aE (HP0.T (cG hv) al) (aj (ae B0) hv)))));refine fw (λw'=>I w' (Aw w 0)=dI K/\I w' (Aw w 1)=dS pe ne ce) (br▸(ae m vA bM).1) λhS=>?_;rw[<-br]at hS⊢;clear br bM;refine iy 0 1 2 3 hS ?_;refine tn 5 hS ?_;refine ry [4,6] ?_;refine cn (λj hK=>?_) ?_;rotate_left;refine cn (λj hK=>?_) ?_;rotate_left;exact fN;have cq:=(ae m vA BA).2.1;go_simp;refine bS hK ((ae m vA BA).1) λhS=>?_;clear hK j cq;refine ry [6] ?_;refine cn (λj hK=>?_) ?_;rotate_left;exact fN;rotate_right;go_simp;obtain⟨Z,q,V,zZ,W,-⟩:=cR vA #[.I K,.S pe ne ce] 125;rw[<-q];let⟨B1,FB⟩:=aQ (aj BA V) W;refine bS hK ((ae m Z B1).1) λhS=>?_;clear hK j q V W;rotate_left;go_simp;obtain⟨Z,q,V,zZ,W,-⟩:=cR vA #[.I K,.S pe ne ce] 125;rw[<-q];let⟨B1,FB⟩:=aQ (aj BA V) W;refine bS hK ((ae m Z B1).1) λhS=>?_;clear hK j q V W;refine ry [4] ?_;refine cn (λj hK=>?_) ?_;rotate_left;exact fN;rotate_right;have cq:=(ae m Z B1).2.1;go_simp;refine bS hK ((ae m Z B1).1) λhS=>?_;clear hK j cq
 all_goals(
  refine ry [7] ?_;refine cn (λj hK=>?_) ?_;rotate_left;exact fN;rotate_right;go_simp;obtain⟨iY,M,bY,zY,X,-⟩:=cR Z #[.S pq nq cq,.T (U (Q vA)) 1 1] 48;rw[<-M];rw[zZ]at X;have B2:=ai (aj B1 bY);have x:=bG X (FB.H af bY);refine bS hK ((ae m iY B2).1) λhS=>?_;clear hK j M bY X;refine ry [8] ?_;refine cn (λj hK=>?_) ?_;rotate_left;exact fN;rotate_right;refine ju (cL2 (ev:=(K,P)) (pe:=pe) (ae m iY B2).2.2.1 (ae m iY B2).2.2.2.1 hc hq (x.1.1 0 _ rfl) (x.1.1 1 _ rfl) (x.2.1 0 _ rfl) (x.2.1 1 _ rfl)) ?_;rintro r w5⟨p',c',rfl,Z6,eh⟩;refine fE ?_;let⟨B5,HQ5⟩:=aQ (aj B2 eh) Z6;refine bS hK ((ae m w5 B5).1) λhS=>?_;clear hK j Z6 eh;refine fu 9 10 hS ?_;refine ry [11] ?_;refine cn (λj hK=>?_) ?_;rotate_left;exact fN;rotate_right;obtain⟨-,c25,-,-,Xh⟩:=ae m w5 B5;have f25:=(Xh.frozen (p:=(Ad y 2)) xh).Z (ae gfw 2)
  change O _ at Xh
  go_simp;have iG:=ai (cD0 be hE Xh HQ5);have kS:∀o,I (jS w5 (Ad y 2) (.S p' (nq+1) c')) (Aw w o)=I w5 (Aw w o):=λo=>gG (gh _ _ _ _ (by show U (Q w)≠y;omega)) _;refine bS hK ⟨(kS 0).Z hS.1,(kS 1).Z hS.2⟩ λhS=>?_;clear hK j c25 f25 kS;refine fQ ?_;clear hS;go_wp2;go_end0;exact⟨iG.1,iG.2,_,rfl⟩)}
 {
 have h7':¬(nq:Int)<7:=af;by_cases h8:nq=7;{
 have Sq:vg s.2.2 (K,P)=s.2.2++[(4,[])]:=by rw[vg,ae vQ,aJ h7,aK h8]
 rw[Sq];have Ts:((nq:Int)==7):=by simp;omega
 obtain⟨Z,q,V,zZ,W,-⟩:=cR W0 #[.I 4,ay] 125;obtain⟨iY,M,bY,zY,X,-⟩:=cR Z #[.S pq nq cq,.T (U (Q W0)) 1 1] 48;have BY:=ai (aj V bY);have x:=bG X (W.H af bY);have c2b:=λ(ob oc:Obj)=>aq (c2a ob) (db.alloc aU oc);rw[zZ]at X x;have HW:=eG N q M;rw[z0]at x zZ X;clear X W N q M V bY Sq h7 h8
 go_wp21
 let⟨N,q,M⟩:=ae HW;rw[z0]at M;rw[<-N,<-q,<-M];clear N q M HW c2a c2b;refine(cL2 (w:=iY) (ev:=(4,[])) (pe:=dN) (HQ.T (BY.h (by have:=B0.size;have:=be.size;omega)) (cG BY) al) (.R (TB.nil _)) ⟨dN,0,0,rfl,fS _,de _⟩ hq (x.1.1 0 _ rfl) (x.1.1 1 _ rfl) (x.2.1 0 _ rfl) (x.2.1 1 _ rfl)).h ?_;rintro r w5⟨p',c',rfl,Z6,eh⟩;have AU:=ai (aj (aj B0 BY) eh);have c25:=aq c2w AU;have f25:=(AU.frozen (p:=(Ad y 2)) xh).Z (ae gfw 2);have iG:=ai (cD0 be hE AU Z6);clear Z6 eh;go_wp2;go_end0;exact⟨iG.1,iG.2,_,rfl⟩};{
 have Sq:vg s.2.2 (K,P)=s.2.2:=by rw[vg,ae vQ,aJ h7,aJ h8]
 rw[Sq];have Ts:((nq:Int)==7)=dF:=by simp;omega
 go_wp2;go_end0;rw[<-N];exact⟨One.ofB be B0 gc al,hE.H be B0,_,rfl⟩}}
theorem Own.dt4{R:Nat}(h:Own B w v l)(o:∀b,jB v=Y b->b≠R)(x y:dV):Own B (jS (jS w (Ad R 0) x) (Ad R 1) y) v l:=by
 refine⟨h.1,?_⟩;obtain s|⟨g,m,j,rfl,r,q,i⟩:=h.2;{exact .L s};{exact .R ⟨g,m,j,rfl,r,((Rl _ _ _ _ (o g rfl)).Z (Rl _ _ _ _ (o g rfl))).Z q,i⟩}
theorem Vl{wr:G}{K:Nat}(e:rl l=rs)(m:Le rs K)(o:O (mi rs=a))(i:lY (U (Q w)) wr (.S p K c) rs vs)(j:Bw w wr):aI6 w (rl l) (dR (dT #[.S p K c,.I (a:Int)])) wr:=by
 have r:=ae m;have q:=ae o;subst r q;rw[e];exact⟨p,c,vs,rfl,i,j⟩
def Qh(l:LI)(rs:List R1)(a f:Nat):Prop:=
 rK dN (yl (J l+1) l)=rs++rK (tC rs) (yl f (jD a l))/\mi rs=a/\f+J rs=J l+1/\J rs<=a/\(∀r∈rs,J r.2<=1000/\0<=r.1/\r.1<2^64)
variable {f:Nat}
theorem Qh.stop(h:Qh l rs a f)(i:qc (jD a l)=dN):rl l=rs:=by
 unfold rl;rw[h.1,ao3 i];simp[rK]
theorem Qh.do0(h:Qh l rs a f)(m:a<=J l){r:R1}(j:qc (jD a l)=r)(h1:uH (tC rs) r.1=dF):rl l=rs:=by
 obtain⟨i,rfl⟩:∃i,f=i+1:=⟨f-1,by have:=h.2.2.1;have:=h.2.2.2.1;omega⟩;unfold rl;rw[h.1,U0 j];simp[rK,h1]
variable {s:Int}
theorem Qh.next(h:Qh l rs a f)(q:a<=J l){b:LI}(o:qc (jD a l)=Y (s,b))(h1:uH (tC rs) s)(hb:J b<=1000/\0<=s/\s<2^64):Qh l (rs++[(s,b)]) (a+(14+J b)) (f-1):=by
 obtain⟨h2,h3,h4,u,m⟩:=h;obtain⟨i,rfl⟩:∃i,f=i+1:=⟨f-1,af⟩;refine⟨?_,by rw[aP1];simp[mi];omega,bL,bL,?_⟩;{rw[h2,U0 o,ck8,Sa,show a+(14+J b)=a+(J b+14) by omega,<-Ly];simp[rK,h1,yJ]};{intro r j;obtain h|h:=jl.1 j;{exact m r h};{simp at h;subst h;exact hb}}
set_option maxRecDepth 100000 in
theorem bU0{len cap:Nat}(hR:Rd w (.S p len cap) l)(hB:aD l)(el:Le l len)(hlen:len<=2^20)(xX:len<=cap)(qn:cap<=maxLen):dQ dG 50 #[.S p len cap] w (aI6 w (rl l)):=by
 have HRB:=bG hR hB;clear hR hB;go_in;go_wp2
 go_loopw[4,5](λov i wr=>∃(a f K:Nat)(rs:List R1)(pv:OA)(cv:Nat)(vs:List dV),a<=len/\i=.I a/\ov=.S pv K cv/\Le rs K/\O (Qh l rs a f)/\lY (U (Q w)) wr (.S pv K cv) rs vs/\Bw w wr) (λ_ i _=>len+1-(jN (intOf i)))
 exact⟨0,len+1,0,[],dN,0,[],de _,rfl,rfl,rfl,⟨by rw[<-ae el];rfl,rfl,by rw[<-ae el];rfl,fS _,al⟩,lY.nil _ _,bD _ _⟩;{
 obtain⟨a,f,K,rs,pv,cv,vs,Ci,rfl,rfl,V,q,ho,aC⟩:=hrel;have hKa:K<=2^20:=by have:=q.2.2.2.1;have:=ae V;omega
 obtain⟨UW,e14⟩:∃A:Nat,(a:Int)+14=(A:Int):=⟨a+14,af⟩;obtain⟨A2,e2⟩:∃A:Nat,(a:Int)+2=(A:Int):=⟨a+2,af⟩;obtain⟨Hh,e10⟩:∃A:Nat,(a:Int)+10=(A:Int):=⟨a+10,af⟩;let⟨bt0,xZ,bt1⟩:UW=a+14/\A2=a+2/\Hh=a+10:=af;have HA:=eG bt0 xZ bt1;by_cases h14:UW<=len;{
 have cC7:=qx UW len;have IJ:=ae el;obtain⟨b,o,rfl,-,-⟩:=HRB.1.at af;let⟨m,em⟩:=aF (l.drop a);have Tr:aD m:=by rw[em];exact HRB.2.drop a
 have JX:J m=len-a:=by rw[em,uK];omega
 have hRm:∀d,Rd w (.S (Ad b (o+a)) (len-a) d) m:=λd=>HRB.1.cut a len Ci af _ (.R rfl) d m (by rw[em,nZ af]);let⟨N,eN⟩:=aF (Gq m);let⟨vR,pM⟩:=ck5 Tr;rw[<-eN]at vR pM;obtain⟨Z,eZ⟩:∃Z:Nat,(UW:Int)+(N:Int)=(Z:Int):=⟨UW+N,af⟩;obtain⟨E,eE⟩:∃E:Nat,(Hh:Int)+(N:Int)=(E:Int):=⟨Hh+N,af⟩;have r1:∀(d:Nat)(w':G),Bw w w'->Rd w' (.S (Ad b (o+a)) 2 d) (sub m 0 2):=λd w' aR=>((hRm d).H aR).cut 0 2 af af _ (.R rfl) d _ rfl;have s1:J (sub m 0 2)=2:=Be af;have g1:=qx a A2;have g2:=qx A2 cap;let⟨g3,g4⟩:cap≠a/\A2-a=2:=af;have M:=IV em Tr JX hRm eN vR;have HZ:=bG eZ eE;let⟨xz,pX⟩:=aQ r1 s1;clear em Tr JX hRm eN vR r1 s1 bt0 xZ bt1 IJ;unfold maxLen at qn
 go_wp21
 refine cL (bf8 (sub m 0 2) _ _ 2 pX _ (ae xz _ _ aC) (M.2.1.sub 0 2) af af kW) λw1 az=>?_;rw[M.2.2.2.2.2];have b1:=aj aC az;have Wi:=ho.H az;clear aC az ho xz pX;by_cases Mo:len<Z\/1000<N;{
 have xi:=ai (q.stop (by obtain⟨em,-,JX,-,eN,-⟩:=ae M;have:=ae HA;rw[<-em];unfold qc;rw[<-eN,aK af]))
 have Aj:=ai q.2.1;by_cases hN:1000<N;{have DE:=uX 1000 N;go_wp2;refine cX (v:=dT #[.S pv K cv,.I (a:Int)]) (by simp[results,results50,go_sem]) rfl (Vl xi V Aj Wi b1)};{have DE:¬(1000:Int)<(N:Int):=af;have hZ':=cM len Z;go_wp2;refine cX (v:=dT #[.S pv K cv,.I (a:Int)]) (by simp[results,results50,go_sem]) rfl (Vl xi V Aj Wi b1)}};{
 have DE:¬(1000:Int)<(N:Int):=af;have hZ':=ga len Z;have tS:N<=1000:=af;have k1:=qx A2 Hh;have k2:=qx Hh cap;have k3:cap≠A2:=af;have k4:=qx Hh E;have k5:=qx E cap;have k6:cap≠Hh:=af;have k7:=qx a Z;have k8:=qx Z cap;let⟨k9,ZH,ZG⟩:Hh-A2=8/\E-Hh=N/\Z-a=14+N:=af;have r2:∀(d:Nat)(w':G),Bw w w'->Rd w' (.S (Ad b (o+A2)) 8 d) (sub m 2 10):=λd w' aR=>by have:=(((M.2.2.2.1 d).H aR).cut 2 10 af (by have:=M.2.2.1;omega) (Ad b (o+a+2)) (.R rfl) d _ rfl);rw[show o+A2=o+a+2 by have:=ae HA;omega];exact this
 have r3:∀(d:Nat)(w':G),Bw w w'->Rd w' (.S (Ad b (o+Hh)) N d) (sub m 10 (10+N)):=λd w' aR=>by have:=(((M.2.2.2.1 d).H aR).cut 10 (10+N) af (by have:=M.2.2.1;omega) (Ad b (o+a+10)) (.R rfl) d _ rfl);rw[show 10+N-10=N by omega]at this;rw[show o+Hh=o+a+10 by have:=ae HA;omega];exact this
 have r4:∀(d:Nat)(w':G),Bw w w'->Rd w' (.S (Ad b (o+a)) (14+N) d) (sub m 0 (14+N)):=λd w' aR=>
  ((M.2.2.2.1 d).H aR).cut 0 (14+N) af (by have:=M.2.2.1;omega) (Ad b (o+a)) (.R rfl) d _ rfl
 have pG:O (J (sub m 2 10)=8):=Be (by have:=M.2.2.1;omega);have Ni:O (J (sub m 10 (10+N))=N):=ai (by rw[Be (by have:=M.2.2.1;omega)];omega);have XF:O (J (sub m 0 (14+N))=14+N):=by show _=_;rw[Be (by have:=M.2.2.1;omega)];omega
 let⟨sq0,sq1⟩:=Hx (M.2.1.sub 2 10) (by rw[ae pG];omega)
 change O _ at r2 r3 r4
 have wA2:=iM A2;have dh4:=iM Hh;have dh3:=iM UW;have wE:=iM E;have wZ:=iM Z;have gu:=M.2.1.sub 2 10;have hl8:(8:Nat)<=8:=fS _;have hl9:8<=cap-A2:=af;have ct1:cap-A2<=maxLen:=by unfold maxLen;omega
 have ct0:N<=2^21:=af;have lG:∀(vs:iA)(w:G),(callFunc 91 vs).run dG w=.ok (.enter 91 vs) w:=λvs w=>aS;have hcg:∀(vs:iA)(w:G),(callFunc 92 vs).run dG w=.ok (.enter 92 vs) w:=λvs w=>aS
 go_upto_region 6 with fail
 go_cut[7](λrp wc=>∃R pb cb,rp=Pz R/\U (Q w1)<=R/\CF wc R (.U (num (sub m 2 10))) (.S pb N cb)/\Ow w1 wc (.S pb N cb) (sub m 10 (10+N))/\Bw w1 wc)
 case first=>(
 let⟨v,fK⟩:=aF w1.drew;have BV:O (Bw w1 v):=by rw[fK];exact db.drew
 refine fw (λ_=>True) iH λhS=>?_;rw[<-fK];clear fK;refine gr 0 1 2 3 4 5 7 8 hS ?_;refine iy 9 10 11 12 hS ?_;refine fu 13 14 hS ?_
 iterate 3 (
  all_goals(first|refine xG 6 (λX hK=>?_)|refine xG 15 (λX hK=>?_)|refine xG 17 (λX hK=>?_)|refine CL 6 17 (λX hK=>?_) (λX hK=>?_)|refine CL 15 17 (λX hK=>?_) (λX hK=>?_))
  all_goals(first
   |(
    refine Tag.go 6 (ju (bf8 (sub m 2 10) _ _ 8 pG _ (ae r2 _ _ (aj b1 BV)) gu hl8 hl9 ct1) ?_);rintro z9 v'⟨rfl,hb⟩;refine⟨_,rfl,?_⟩)
   |(
    refine Tag.go 15 (ju (Dj (n:=N) (l:=sub m 10 (10+N)) Ni (ae r3 _ _ (aj b1 BV)) ct0) ?_);rintro z9 v'⟨p3,c3,rfl,o3,hb⟩;refine⟨_,rfl,?_⟩
    try have RN:=ai (λb e=>show b≠R by have:=(Own.lt o3 b e).1;have:=RC.1;omega)
    have RO:=bG (Own.h o3 BV.size) (λb e=>(Own.lt o3 b e).2);have T16:=iH;clear o3)
   |(
    refine Tag.go 17 ?_;go_simp;obtain⟨v',hv,hb,zv,cv',-⟩:=cR v #[.U 0,ay] 92;rw[<-hv]
    try have RN:=ai (λb e=>show b≠U v.heap by have:=RO.2 b e;omega)
    have RB:=ai BV.size;let⟨R,hR⟩:=aF (U (Q v));rw[<-hR]at cv'⊢
    try rw[<-hR]at RN
    rw[<-hR]at RB;have RC:=bG (by omega:R<U (Q v')) cv';clear hv zv cv' hR))
  all_goals(
   have zb:=hb.size
   try have RO:=bG (Own.H RO.1 hb) (λb e=>mH (RO.2 b e) zb)
   try have RC:=bG (mH RC.1 zb) (RC.2.H RC.1 hb)
   have BV:=ai (aj BV hb);refine bS hK iH λhS=>?_;clear hK X hb zb
   try(
    clear T16;refine tk 16 hS (h:=?_);simp only[Act.put,xa,xb,xc])
   rename G=>v
   skip))
 all_goals(
  refine fy 18 (λX hK=>?_);have n0:=RC.2.1 0 _ rfl;have n1:=RC.2.1 1 _ rfl;have nf:=RC.2.2;go_simp;refine bS hK iH λhS=>?_;clear hK X hS;refine fQ ?_
  go_wp21
  go_meet;refine⟨R,p3,c3,rfl,RB,⟨by simp[go_sem,n0,n1],by simp[go_sem,n0,n1]⟩,?_,(ae BV |>.setCell (by exact ae RB) _).setCell (by exact ae RB) _⟩;exact Own.dt4 RO.1 RN _ _))
 case rest=>(
 obtain⟨R,pb,cb,rfl,ta,hA,oB,tM⟩:=hcut;have bc:=aj b1 tM;have kU:=Wi.H tM;have cC0:=M.2.1.sub 10 (10+N);have u4:=vz XF (ae r4 (cap-a) _ bc.drew);have hch:∀(vs:iA)(w:G),(callFunc 58 vs).run dG w=.ok (.enter 58 vs) w:=λvs w=>aS;clear tM lG hcg r2 r3 pG
 go_wp21
 refine fw (λw'=>CF w' R (.U (num (sub m 2 10))) (.S pb N cb)/\(convert 22 9 (.S (Ad b (o+a)) (14+N) (cap-a))).run dG w'=.ok (jJ (bg (sub m 0 (14+N)))) w') ⟨hA,u4⟩ λhS=>?_;refine gr 0 3 4 5 6 7 8 9 hS ?_;refine tn 10 hS ?_;refine ry [1] ?_;refine cn (λX hK=>?_) ?_;{
 refine Jr aY (f:=58) aY (v1:=zQ (num (sub m 2 10)) (.S pb N cb)) aY (λ_=>hch _ _) (bU1 (s:=num (sub m 2 10)) (p:=pb) (c:=cb) (n:=N) (l:=sub m 10 (10+N)) Ni (oB.rd.H (bD (U (Q wc)) wc).drew) cC0 tS sq0 sq1) ?_;rintro e w5⟨p5,c5,rfl,o5,cx0⟩;refine fE ?_;have eh:Bw wc w5:=aj (bD (U (Q wc)) wc).drew cx0;have A5:=hA.H eh;have u5:=vz XF (ae r4 (cap-a) _ (aj bc eh));have e5:=vz (l:=vf (num (sub m 2 10)) (sub m 10 (10+N))) (by rw[ar8,ae Ni]) o5.rd;refine hK.out _ _ ?_ (λhS=>?_);{exact⟨A5,u5⟩};clear hK X
 try simp only[Act.put,ch7,RG,ba9]
 refine fy 2 λX hK=>?_;go_simp;refine hK.out _ _ ?_ (λhS=>?_);{exact⟨A5,u5⟩};clear hK X
 try simp only[Act.put,ch7,RG,ba9]
 refine tn 11 hS ?_;refine fQ ?_;have W:=aj bc eh;have vo:=kU.H eh;have oB5:Ow w w5 (.S pb N cb) (sub m 10 (10+N)):=Own.h (Own.H oB eh) b1.size;have aA4:∀u'∈vs,US u' (.S pb N cb):=λu' Er bb e1 e2=>by have h1:=Wi.lt u' Er bb e1;have h2:=(Own.lt oB bb e2).1;omega
 let⟨HNB,uD⟩:=aQ (show¬(J m<14+N\/1000<N) by have:=M.2.2.1;have:=ae HA;omega) (show a+(14+N)<=len by have:=ae HA;omega);clear eh cx0 o5 hA u4 kU bc oB hS u5 e5 k1 k2 k3 k4 k5 k6 k7 k8 k9 ZH ZG g1 g2 g3 g4 wA2 dh4 dh3 wE wZ r4 XF hch hl8 hl9 ct1 ct0 gu Wi Mo hZ' e2 e10 e14 eZ eE cC7 HZ;have Aj:=ai q.2.1;rw[(Qa (ca3 (s:=num (sub m 2 10)) cC0) (M.2.1.sub 0 (14+N)))];by_cases hq:vf (num (sub m 2 10)) (sub m 10 (10+N))=sub m 0 (14+N);{
 have Es:qc (l.drop a)=Y (num (sub m 2 10),sub m 10 (10+N)):=by obtain⟨em,-,JX,-,eN,-⟩:=ae M;have:=ae HA;rw[<-em];unfold qc;rw[<-eN,aJ (ae HNB),aK hq]
 have UC:=ai Es;rw[LG hq,Bool.not_true];clear hq Es;by_cases Tm:K=0;{
 subst Tm;have fU:uH (tC rs) (num (sub m 2 10)):=by rw[Hz (ae V)];rfl
 change O _ at fU
 go_wp2_with(at_builtin;refine bP4 rfl rfl (B:=U (Q w)) (v:=.S pv 0 cv) (rs:=rs) (vs:=vs) (n:=0) V (U (Q w5)) rfl rfl (vo.H cY) (r:=(num (sub m 2 10),sub m 10 (10+N))) (u:=.S pb N cb) al al (Own.H oB5 cY) aA4 af (by have:=W.size;simp;omega) ?_);intro p9 c9 w9 Tg qm;have b9:Bw w w9:=(W.alloc W.size _).grown qm (by have:=W.size;simp;omega) (λbb e=>(vo.ar3 bb e).1);have eN3:=ae Ni;have St:=ai (q.next (by rw[ae el];exact Ci) UC fU ⟨af,sq0,sq1⟩);have eKn:O (J (rs++[(num (sub m 2 10),sub m 10 (10+N))])=0+1):=ai (by rw[fe,ae V];rfl);clear qm vo oB5 aA4 W A5;go_wp2;go_roundw
 case rel=>(
 refine⟨a+(14+N),f-1,0+1,_,p9,c9,_,uD,by go_num,rfl,eKn,?_,Tg,b9⟩;have:=ae St;rw[eN3]at this;exact this)
 case measure=>simp[intOf];omega}
 {
 have Wp:K-1<J rs:=by rw[ae V];omega
 obtain⟨⟨t,bt⟩,yN⟩:∃r,rs[K-1]?=Y r:=⟨_,bN Wp⟩;have aa7:tC rs=t:=by unfold tC;rw[au8,ae V,yN];rfl
 let⟨t0,t1⟩:=q.2.2.2.2 _ (bq yN) |>.2;obtain⟨u,hu⟩:∃u,vs[K-1]?=Y u:=⟨_,bN (by rw[vo.len];exact Wp)⟩;obtain⟨_,h0⟩|⟨g,MT,cur,ev,uo,J3,_,_,_,_⟩:=id vo.row.2;{have:=ae V;omega};{
 simp only[rE]at ev;obtain⟨rfl,-,rfl⟩:=ev;have Vk:=vo.row;rw[ae V]at Vk;have d0:=(Vk.cellAt (2*(K-1)) af).Z (ar7 rs vs (K-1) _ u yN hu).1;rw[Zm]at d0;dsimp only at d0;let⟨K1,Ks⟩:=bu (K-1);rw[Ks]at d0;have qF:(K:Int)-1=(K1:Int):=af;have pM:=uX 0 K;have Ay:=cM K1 K;let⟨Ms,xm,Av⟩:0<K/\K1<=1048578/\(K1:Int)<=1048578:=af;have DG:=iM K1;clear Wp yN hu Vk J3 Ks;by_cases fU:uH t (num (sub m 2 10))=dY;{
 have sH:O (uH (tC rs) (num (sub m 2 10))):=ai (by rw[aa7];exact fU);have e1:t≠18446744073709551615/\num (sub m 2 10)=t+1:=by simpa[uH]using fU
 have f1:(t==18446744073709551615)=dF:=by simp[e1.1]
 have f2:jY jU (t+1)=t+1:=u64_wrap_id _ af af;have f3:(num (sub m 2 10) != t+1)=dF:=by simp[e1.2]
 clear fU aa7 e1;go_wp2_with(at_builtin;refine bP4 rfl rfl (B:=U (Q w)) (v:=.T g K cv) (rs:=rs) (vs:=vs) (n:=K) V (U (Q w5)) rfl rfl (vo.H (db.alloc aU _)) (r:=(num (sub m 2 10),sub m 10 (10+N))) (u:=.S pb N cb) al al (Own.H oB5 (db.alloc aU _)) aA4 af (by have:=W.size;simp;omega) ?_);intro p9 c9 w9 Tg qm;have b9:Bw w w9:=(W.alloc W.size _).grown qm (by have:=W.size;simp;omega) (λbb e=>(vo.ar3 bb e).1);have eN3:=ae Ni;have St:=ai (q.next (by rw[ae el];exact Ci) UC sH ⟨af,sq0,sq1⟩);have eKn:O (J (rs++[(num (sub m 2 10),sub m 10 (10+N))])=K+1):=ai (by rw[fe,ae V];rfl);clear qm vo oB5 aA4 W A5;go_wp2;go_roundw
 case rel=>(
 refine⟨a+(14+N),f-1,K+1,_,p9,c9,_,uD,by go_num,rfl,eKn,?_,Tg,b9⟩;have:=ae St;rw[eN3]at this;exact this)
 case measure=>simp[intOf];omega}
 {
 have bk0:uH t (num (sub m 2 10))=dF:=by simpa using fU
 have xi:=ai (q.do0 (by rw[ae el];exact Ci) UC (by rw[aa7];exact bk0));by_cases ht:t=18446744073709551615;{
 have f1:(t==18446744073709551615):=by simp[ht]
 clear fU bk0 aa7 ht;go_wp2;refine cX (v:=dT #[.T g K cv,.I (a:Int)]) (by simp[results,results50,go_sem]) rfl (Vl xi V Aj vo W)};{
 have aP:num (sub m 2 10)≠t+1:=by intro e;apply fU;simp[uH,ht,e]
 have f1:(t==18446744073709551615)=dF:=by simp[ht]
 have f2:jY jU (t+1)=t+1:=u64_wrap_id _ af af;have f3:(num (sub m 2 10) != t+1):=by simp[aP]
 clear fU bk0 aa7 ht aP;go_wp2;refine cX (v:=dT #[.T g K cv,.I (a:Int)]) (by simp[results,results50,go_sem]) rfl (Vl xi V Aj vo W)}}}}};{
 have xi:=ai (q.stop (by obtain⟨em,-,JX,-,eN,-⟩:=ae M;have:=ae HA;rw[<-em];unfold qc;rw[<-eN,aJ (ae HNB),aJ hq]))
 rw[NQ hq,bc4];clear hq;go_wp2;refine cX (v:=dT #[.S pv K cv,.I (a:Int)]) (by simp[results,results50,go_sem]) rfl (Vl xi V Aj vo W)}};exact fN)}}
 {have cC7:¬(UW:Int)<=(len:Int):=af;let⟨xi,Aj⟩:=aQ (q.stop (ca4 (by rw[uK,ae el];omega))) q.2.1;clear bt0 xZ bt1;go_wp2;refine cX (v:=dT #[.S pv K cv,.I (a:Int)]) (by simp[results,results50,go_sem]) rfl (Vl xi V Aj ho aC)}}
variable {g:Int}
theorem cE6{f:Int}(o:1<=k)(j:k<=13)(h:qt k s f n m e g):0<=f/\f<=2:=by
 unfold qt Fc at h;simp only[gP,mn]at h;obtain⟨-,-,q,i,-⟩:=h;obtain rfl|rfl|rfl|rfl|rfl|rfl|rfl|rfl|rfl|rfl|rfl|rfl|rfl:=kinds o j<;>simp[rowOf]at q i<;>omega
theorem iR.bB7{v5 v6:dV}(h:iR w b v0 v1 v2 v3 v4 v5 v6)(j:Below B w w')(i:b<B):iR w' b v0 v1 v2 v3 v4 v5 v6:=by
 have e:=λo=>j.cell (p:=(Ad b o)) i;exact⟨(e 0).Z h.1,(e 1).Z h.2.1,(e 2).Z h.2.2.1,(e 3).Z h.2.2.2.1,(e 4).Z h.2.2.2.2.1,(e 5).Z h.2.2.2.2.2.1,(e 6).Z h.2.2.2.2.2.2⟩
theorem dG3(k s:Nat)(P:LI)(f:Nat)(V:LI):J (qd k s P f V)<=J P+J V+32:=by
 have m:=qK s;have j:=Jp P;have i:=Jp V;rw[qd];simp only[fe,mO,BJ];omega
variable {P V:LI}
theorem dR1{K F:Int}(wk:IntKind.u8.wrap K=(k:Int))(wf:IntKind.u8.wrap F=(f:Int)){s:Nat}(hs:s<2^64)(ep:Le P n)(ev:Le V m)(hp:Rd w (.S p n c) P)(hv:Rd w (.S q m d) V)(hn:Mg n)(hm:Mg m)(eN:O (J (qd k s P f V)=N)):dQ dG 59 #[mG K s (.S p n c) F (.S q m d) e g] w λr w'=>∃p' c',r=dR (.S p' N c')/\Own (U (Q w)) w' (.S p' N c') (qd k s P f V)/\Bw w w':=by
 obtain⟨M,eM⟩:∃M,O (J (vi s)=M):=⟨_,rfl⟩;obtain⟨R,GO⟩:∃M,O (J (tx P)=M):=⟨_,rfl⟩;obtain⟨N2,MJ⟩:∃M,O (J (tx V)=M):=⟨_,rfl⟩;have hM:M<=10:=by have:=qK s;rw[ae eM]at this;omega
 have IC:R<=1048586:=by have:=Jp P;rw[ae GO,ae ep]at this;omega
 have rh:N2<=1048586:=by have:=Jp V;rw[ae MJ,ae ev]at this;omega
 obtain⟨A1,ya⟩:∃l,O (l=[(k:Int)]++vi s):=⟨_,rfl⟩;obtain⟨A2,xZ⟩:∃l,O (l=A1++tx P):=⟨_,rfl⟩;obtain⟨A3,Kl⟩:∃l,O (l=A2++[(f:Int)]):=⟨_,rfl⟩;have u:O (J A1=1+M):=ai (by rw[ae ya,fe,ae eM];rfl);have j:O (J A2=1+M+R):=ai (by rw[ae xZ,fe,ae u,ae GO]);have Z:O (J A3=1+M+R+1):=ai (by rw[ae Kl,fe,ae j];rfl);go_in
 go_wp21
 let⟨E,cT⟩:=aF (jA w (dO #[.I K,.U s,.S p n c,.I F,.S q m d,.U e,.U g] 54));have Ug:=ir cT;have hO0:iR E (U (Q w)) (.I K) (.U s) (.S p n c) (.I F) (.S q m d) (.U e) (.U g):=by rw[cT];simp[iR,go_sem]
 have zW0:U (Q E)=U (Q w)+1:=by rw[cT];simp
 rw[<-cT];have oo:Own (U (Q E)) (jA E (dO #[jK .u8 (k:Int)] 5)) (.T (U (Q E)) 1 1) [(k:Int)]:=Own.one E k;rw[zW0]at oo;obtain⟨W,hW⟩:∃W,W=jA E (dO #[jK .u8 (k:Int)] 5):=⟨_,rfl⟩;have zW:U (Q w)+1<U (Q W):=by rw[hW];simp;omega
 rw[<-hW]at oo⊢;refine(bf4 9 s _ af hs af M eM).h ?_;rintro r x1⟨pv,cv,rfl,ov,az⟩;have QX:=Own.H oo az;have z1:=az.size;go_wp2_with(at_builtin;refine D4 rfl rfl (B:=U (Q w)+1) (.T (U (Q w)+1) 1 1) (l:=[(k:Int)]) (m:=vi s) (lm:=A1) ya pv cv M eM rfl rfl QX ov.rd (by rw[ae eM];simp;omega) af ?_);intro p2 c2 x2 o2 fx;have b2:=Ct (aj (hW▸Ug.alloc Ug.size _) az) fx QX af af;have hO2:=((hO0.H (hW▸cY)).H az).bB7 ((bD (U (Q w)+1) x1).grown fx af (λk e=>(QX.lt k e).1)) af;have z2:=fx.size;rw[ae u]at o2⊢
 go_wp21
 refine(aw1 (p:=p) (c:=c) (n:=n) (l:=P) ep (ae (ai λ(w':G)(hb:Bw w w')=>hp.H hb) _ b2) hn (N:=R) GO).h ?_;rintro r x3⟨pt,ct,rfl,ot,aL⟩;have o3:=Own.H o2 aL;have z3:=aL.size;go_wp2_with(at_builtin;refine D4 rfl rfl (B:=U (Q w)+1) (.S p2 (1+M) c2) (l:=A1) (m:=tx P) (lm:=A2) xZ pt ct R GO rfl rfl o3 ot.rd (by rw[ae u,ae GO];omega) af ?_);intro p4 c4 x4 o4 nC;have b4:=Ct (aj b2 aL) nC o3 af af;have hO4:=(hO2.H aL).bB7 ((bD (U (Q w)+1) x3).grown nC af (λk e=>(o3.lt k e).1)) af;have z4:=nC.size;rw[ae j]at o4⊢;go_wp2_with(at_builtin;refine U7 rfl rfl (B:=U (Q w)+1) (.S p4 (1+M+R) c4) (l:=A2) (lm:=A3) (y:=(f:Int)) Kl (U (Q x4)) rfl rfl (Own.H o4 (db.alloc aU _)) al (by rw[ae j];omega) bL ?_);intro p5 c5 x5 o5 mY;have X:=Own.H o4 (w':=jA x4 (dO #[jK .u8 (f:Int)] 5)) cY;have b5:=Ct (b4.alloc b4.size _) mY X af bL;have hO5:=(hO4.H cY).bB7 ((bD (U (Q w)+1) _).grown mY bL (λk e=>(X.lt k e).1)) af;have z5:U (Q x4)+1<=U (Q x5):=by have:=mY.size;simpa using this
 rw[ae Z]at o5⊢
 go_wp21
 refine(aw1 (p:=q) (c:=d) (n:=m) (l:=V) ev (ae (ai λ(w':G)(hb:Bw w w')=>hv.H hb) _ b5) hm (N:=N2) MJ).h ?_;rintro r x6⟨pu,cu,rfl,ou,je⟩;have o6:=Own.H o5 je;have z6:=je.size;go_wp2_with(at_builtin;refine D4 rfl rfl (B:=U (Q w)+1) (.S p5 (1+M+R+1) c5) (l:=A3) (m:=tx V) (lm:=qd k s P f V) (ai (by rw[ae Kl,ae xZ,ae ya,qd];simp)) pu cu N2 MJ rfl rfl o6 ou.rd (by rw[ae Z,ae MJ];omega) af ?_);intro p7 c7 x7 o7 hg7;rw[ae eN]at o7⊢;go_wp2;go_ret;exact⟨p7,c7,rfl,Own.h (B':=U (Q w)) o7 af,Ct (aj b5 je) hg7 o6 af af⟩
theorem cm0(M:k<=13){s:Nat}(u:s<2^64)(hf:f<=2)(B:Le P n)(ev:Le V m)(x:Rd w (.S p n c) P)(o:Rd w (.S q m d) V)(y:Mg n)(hm:Mg m)(E:O (J (qd k s P f V)=N)):Cp 59 #[mG k s (.S p n c) f (.S q m d) e g] w λr w'=>∃i j,r=dR (.S i N j)/\Own (U (Q w)) w' (.S i N j) (qd k s P f V)/\Bw w w':=
 dR1 (K:=k) (F:=f) (by rw[LK];omega) (by rw[LK];omega) u (e:=e) (g:=g) B ev x o y hm E
theorem dz7{s:Nat}(i:s<2^64)(m:J P<2^64)(j:J V<2^64):oB (qd k s P f V)=((k:Int),Y (vi s++(tx P++([(f:Int)]++tx V))))/\oV (Y (vi s++(tx P++([(f:Int)]++tx V))))=((s:Int),Y (tx P++([(f:Int)]++tx V)))/\oT (Y (tx P++([(f:Int)]++tx V)))=(P,Y ([(f:Int)]++tx V))/\oB (Y ([(f:Int)]++tx V))=((f:Int),Y (tx V))/\oT (tx V)=(V,Y []):=by
 refine⟨rfl,?_,?_,rfl,?_⟩;{rw[oV,aq8 _ i]};{rw[oT,aU2 _ m]};{have:=aU2 [] j;rw[Da]at this;rw[oT,this]}
def uZ(l:LI)(k s:Nat)(P:LI)(f:Nat)(V:LI):Prop:=1<=k/\k<=13/\s<2^64/\f<=2/\qt k s f (J P) (J V) 0 0/\Ah k/\l=qd k s P f V
variable {f:Int}
theorem bA2{K S q NV:Nat}(s:Le P q)(r:Le V NV)(h:qt K S f q NV 0 0=dF\/Ah K=dF\/∀F:Nat,f=F->¬qd K S P F V=l):¬(o5=Y []/\∃m j F:Nat,(K:Int)=m/\(S:Int)=j/\f=F/\uZ l m j P F V):=by
 rintro⟨-,m,j,F,a,b,rfl,d⟩;cases Vy.1 a;cases Vy.1 b;obtain⟨-,-,-,-,i,o,u⟩:=d;rw[ae s,ae r]at i;obtain h|h|h:=h;{rw[h]at i;cases i};{rw[h]at o;cases o};{exact h F rfl u.C}
theorem sdE{q:Prop}(h':q:=by
 go_wp2;refine cX (v:=dT #[mG 0 0 ay 0 ay 0 0,.I 13]) (by simp[results,results95,go_sem,r0]) rfl (.L ⟨⟨rfl,?_⟩,NN⟩)
 repeat(refine tp ?_ al _)
 exact IP):q:=h'
theorem bU2(p:OA)(c n:Nat)(l:LI)(en:Le l n)(w:G)(h:Rd w (.S p n c) l)(hb:aD l)(hl:Mg n)(qi:n<=c)(k s f:Int)(P V:LI)(o1 o2 o3 o4 o5:Option LI)(e1:O (oB l=(k,o1)))(e2:O (oV o1=(s,o2)))(e3:O (oT o2=(P,o3)))(e4:O (oB o3=(f,o4)))(e5:O (oT o4=(V,o5)))(x NV:Nat)(eP:Le P x)(eV:Le V NV):dQ dG 95 #[.S p n c] w λr w'=>((r=dR (dT #[mG 0 0 ay 0 ay 0 0,.I 13])/\Bw w w')/\¬(o5=Y []/\∃K S F:Nat,k=K/\s=S/\f=F/\uZ l K S P F V))\/∃K S F:Nat,k=K/\s=S/\f=F/\uZ l K S P F V/\∃p' c' q' d' B,r=dR (dT #[mG K S (.S p' x c') F (.S q' NV d') 0 0,.I 0])/\U (Q w)<=B/\Own (U (Q w)) w' (.S p' x c') P/\XT (U (Q w)) B (.S p' x c')/\Own B w' (.S q' NV d') V/\Bw w w':=by
 have HB:=ai hb;have S0:O (iF n l l):=iF.start en;have S1:O (iF n l o1):=by have:=at0 en S0;rw[ae e1]at this;exact this
 have S2:O (iF n l o2):=by have:=wD en S1;rw[ae e2]at this;exact this
 have S3:O (iF n l o3):=by have:=as9 en S2;rw[ae e3]at this;exact this
 have S4:O (iF n l o4):=by have:=at0 en S3;rw[ae e4]at this;exact this
 have hNP:x<=2^20:=by have:=(Vu hb S2).2;rw[ae e3]at this;rw[<-ae eP];exact gq this hl
 have hNV:NV<=2^20:=by have:=(Vu hb S4).2;rw[ae e5]at this;rw[<-ae eV];exact gq this hl
 have a0:lx n l=0:=by simp[lx,ae en]
 let⟨A1,eA1⟩:=bu (lx n o1);let⟨A2,eA2⟩:=bu (lx n o2);let⟨A3,eA3⟩:=bu (lx n o3);let⟨A4,eA4⟩:=bu (lx n o4);let⟨A5,eA5⟩:=bu (lx n o5);have N:=λw'(Z:Bw w w')=>aU8 en (h.H Z) hb hl S0 e1;rw[a0,eA1]at N;have c2:=λw'(Z:Bw w w')=>ca5 en (h.H Z) hb hl S1 e2;rw[eA1,eA2]at c2;have c3:=λw'(Z:Bw w w')=>aU7 en (h.H Z) hb hl qi S2 e3 eP;rw[eA2,eA3]at c3;have c4:=λw'(Z:Bw w w')=>aU8 en (h.H Z) hb hl S3 e4;rw[eA3,eA4]at c4;have c5:=λw'(Z:Bw w w')=>aU7 en (h.H Z) hb hl qi S4 e5 eV;rw[eA4,eA5]at c5;let⟨C1,C2,C3,C4,C5,HH⟩:=aH3 N c2 c3 c4 c5 h;clear N c2 c3 c4 c5 a0 eA1 eA2 eA3 eA4 h hb;go_in
 go_wp21
 let⟨W,hW⟩:=aF (jA w (dO #[.I 0,.U 0,ay,.I 0,ay,.U 0,.U 0] 54));have bW:=ir hW;have hR:iR W (U (Q w)) (.I 0) (.U 0) ay (.I 0) ay (.U 0) (.U 0):=by rw[hW];simp[iR,go_sem]
 have fR:∀o,jF W (Aw w o)=dF:=λo=>by rw[hW];simp[go_sem]
 have zW:U (Q w)<U (Q W):=by rw[hW];simp
 rw[<-hW];clear hW;refine(ae C1 _ bW).h ?_;rintro r w'⟨rfl,rfl⟩
 go_wp21
 refine(ae C2 _ bW).h ?_;rintro r w'⟨rfl,rfl⟩
 go_wp21
 refine(ae C3 _ bW).h ?_;rintro r w1⟨p1,N,rfl,x1,az⟩;have b1:=aj bW az;have ta:=hR.H az;have fR1:=yT fR zW az;have z1:=az.size;clear hR fR az
 go_wp21
 refine(ae C4 _ b1).h ?_;rintro r w2⟨rfl,rfl⟩
 go_wp21
 refine(ae C5 _ b1).h ?_;rintro r w3⟨p3,c3,rfl,x3,aL⟩;have b3:=aj b1 aL;have x1':=Own.H x1 aL;have j:=ta.H aL;have fR3:=yT fR1 af aL;have z3:=aL.size;clear ta fR1 aL;have ep5:O (aD P/\aD V/\0<=s/\s<2^64):=by have h1:=(Vu HB S2).1;have h2:=(Vu HB S4).1;have h3:=cd8 (om:=o1);rw[ae e3]at h1;rw[ae e5]at h2;rw[ae e2]at h3;exact⟨h1,h2,h3.1,h3.2⟩
 let⟨X,hX⟩:=aF (jA w3 (dO #[.I k,.U s,.S p1 x N,.I f,.S p3 NV c3,.U 0,.U 0] 54));have Fq:=ir hX;have bX:Bw w X:=aj b3 Fq;have u:=j.H Fq;have E:=yT fR3 af Fq;have y:iR X (U (Q w3)) (.I k) (.U s) (.S p1 x N) (.I f) (.S p3 NV c3) (.U 0) (.U 0):=by rw[hX];simp[iR,go_sem]
 have zX:U (Q w3)<U (Q X):=by rw[hX];simp
 have xP:=Own.H x1' Fq;have xV:=Own.H x3 Fq;have R:∀i:Obj,Bw w3 (w3.alloc i):=λi=>cY;have q0:=λi=>aq j.1 (R i);have q1:=λi=>aq j.2.1 (R i);have q2:=λi=>aq j.2.2.1 (R i);have q3:=λi=>aq j.2.2.2.1 (R i);have q4:=λi=>aq j.2.2.2.2.1 (R i);have q5:=λi=>aq j.2.2.2.2.2.1 (R i);have q6:=λi=>aq j.2.2.2.2.2.2 (R i);have qf:=λ(i:Obj)=>yT fR3 af (R i);clear j fR3 x1' x3 Fq R;have r0:=id u;have j0:=id y;have tP:XT (U (Q w)) (U (Q w2)) (.S p1 x N):=λb hb=>by have:=x1.lt b hb;omega
 clear x1;by_cases hA5:A5<0;{
 have NN:=ai (show¬(o5=Y []/\∃K S F:Nat,k=K/\s=S/\f=F/\uZ l K S P F V)fromλe=>by rw[e.1]at eA5;simp[lx]at eA5;omega);clear hX;go_wp2;refine cX (v:=dT #[mG 0 0 ay 0 ay 0 0,.I 13]) (by simp[results,results95,go_sem,q0,q1,q2,q3,q4,q5,q6]) rfl (.L ⟨⟨rfl,?_⟩,NN⟩)
 repeat(refine tp ?_ al _)
 exact IS b3};{
 have fC9:¬A5<0:=hA5
 go_wp21
 rw[<-hX];clear hX q0 q1 q2 q3 q4 q5 q6 qf;let⟨Kf,hVB,s0,s1⟩:=ae ep5;by_cases hk:1<=k/\k<=13;{
 obtain⟨K,rfl⟩:∃K:Nat,k=(K:Int):=⟨jN k,af⟩;obtain⟨S,rfl⟩:∃S:Nat,s=(S:Int):=⟨jN s,af⟩;let⟨h1,h2⟩:1<=K/\K<=13:=af;let⟨B,eB⟩:=bu (qt K S f x NV 0 0);have pX:O (S<2^64):=by show _<_;omega
 have HPV:=bG Kf hVB;clear s0 s1 Kf hVB hk;refine cL (cD6 h1 h2 eB) λy1 m=>?_;have IP:=aj bX m;have ta:=u.H m;have hO1:=y.H m;have f1:=yT E af m;have XY:=m.size;have xP1:=Own.H xP m;have xV1:=Own.H xV m;clear u y E m xP xV r0 j0 bX;have r0:=id ta;have j0:=id hO1;cases B with
 |false=>
  have NN:=ai (bA2 (l:=l) (o5:=o5) (K:=K) (S:=S) (f:=f) eP eV (.L eB));exact sdE
 | true=>
  go_wp21
  refine(cn1 h1 h2).h ?_;rintro r y2⟨rfl,rfl⟩;let⟨iJ,eJ⟩:=bu (Ah K);rw[eJ];cases iJ with
  |false=>
   have NN:=ai (bA2 (l:=l) (o5:=o5) (K:=K) (S:=S) (f:=f) eP eV (.R (.L eJ)));exact sdE
  |true=>
   let⟨f0,f2⟩:=cE6 h1 h2 eB;obtain⟨F,rfl⟩:∃F:Nat,f=(F:Int):=⟨jN f,af⟩;have hF:F<=2:=af;obtain⟨M,eM⟩:∃M,O (J (qd K S P F V)=M):=⟨_,rfl⟩;have HD0:=ai (λe:qd K S P F V=l=>(⟨h1,h2,pX,hF,by rw[ae eP,ae eV];exact eB,eJ,e.C⟩:uZ l K S P F V));clear f0 f2
   go_wp21
   refine(cm0 h2 pX hF eP eV xP1.rd xV1.rd hNP hNV eM).h ?_;rintro r y3⟨p5,c5,rfl,o5',eh⟩;have bx3:=aj IP eh;have j:=ta.H eh;have hO3:=hO1.H eh;have f3:=yT f1 af eh;have zx3:=eh.size;have xP3:=Own.H xP1 eh;have xV3:=Own.H xV1 eh;clear ta hO1 f1 eh r0 j0 IP xP1 xV1;have r0:=id j;have j0:=id hO3
   go_wp21
   refine(Sc eM en o5'.rd (HH.H bx3) (by refine aD.app (λz hz=>by simp at hz;subst hz;omega) (aD.app (CH pX) (aD.app ?_ (aD.app (λz hz=>by simp at hz;subst hz;omega) ?_)));{exact aD.app (CH (by rw[ae eP];omega)) HPV.1};{exact aD.app (CH (by rw[ae eV];omega)) HPV.2}) HB).h ?_
   rintro r y4⟨rfl,je⟩;have IP:=aj bx3 je;have Th:=j.H je;have hO4:=hO3.H je;have f4:=yT f3 af je;have zx4:=je.size;let⟨xP4,xV4⟩:=aQ (Own.H xP3 je) (Own.H xV3 je);clear j hO3 f3 je r0 j0 bx3 xP3 xV3;have r0:=id Th;have j0:=id hO4;by_cases hd:qd K S P F V=l;{
 have HDC:=ai (ae HD0 hd);rw[LG hd];have BX4:=ai IP;clear Th hO4 IP HD0 hd;go_wp2;let⟨zW,z1,z3,zX,XY,zx3,zx4⟩:=ae (cQ8 zW z1 z3 zX XY zx3 zx4);refine cX (v:=dT #[mG K S (.S p1 x N) F (.S p3 NV c3) 0 0,.I 0]) (by simp[results,results95,go_sem,r0]) rfl (.R ⟨K,S,F,rfl,rfl,rfl,HDC,p1,N,p3,c3,U (Q w2),rfl,af,?_,tP,?_,?_⟩);{
 refine Own.h (B:=U (Q w')) ?_ af
 iterate 7 (refine rW ?_ zW _)
 exact xP4};{
 have zz:U (Q w)<U (Q w2):=af
 iterate 7 (refine rW ?_ zz _)
 exact xV4};{
 iterate 7 (refine tp ?_ al _)
 exact BX4}};{have NN:=ai (bA2 (l:=l) (o5:=o5) (K:=K) (S:=S) (f:=F) eP eV (.R (.R (λF' e=>by cases Vy.1 e;exact hd))));rw[NQ hd];clear HD0 hd;exact sdE}};{have NN:=ai (show¬(o5=Y []/\∃K S F:Nat,k=K/\s=S/\f=F/\uZ l K S P F V)fromλ⟨_,K',_,_,e,_,_,h⟩=>hk ⟨aM h.1,aM h.2.1⟩);refine cL (cD5 af) λy1 m=>?_;have IP:=aj bX m;have ta:=u.H m;have f1:=yT E af m;clear u y E m xP xV r0 j0 bX s0 s1;have r0:=id ta;exact sdE}}
theorem dV3(M:1<=k)(E:k<=13){vs:Int}{u:Bool}(x:KE w 0 (k*7) se pa lo hi vs sq u){B:Bool}(N:O (Fc se pa lo hi vs sq s f n m e g=B))(D:(B&&u)=dF):dQ dG 138 #[mG k s (.S p n c) f (.S q m d) e g] w (Rb ay w):=by
 have h3:(k:Int)<14:=af;have h5:=gS 0 k;go_in
 go_wp21
 let⟨W,i⟩:=aF (jA w (dO #[.I k,.U s,.S p n c,.I f,.S q m d,.U e,.U g] 54));have o:=ir i;have y:iR W (U (Q w)) (.I k) (.U s) (.S p n c) (.I f) (.S q m d) (.U e) (.U g):=by rw[i];simp[iR,go_sem]
 have r:=x.H o;rw[<-i];clear i x;refine cL (aN3 M E r N) λX j=>?_;have V:=y.H j;have R:=r.H j;have b1:=aj o j;clear y r o j;have Z:=R;cases B with
 |false=>
  exact aV
 |true=>
  rw[yG]at D;subst D;exact aV
theorem dV2{k:Int}(r:k<1\/13<k):dQ dG 138 #[mG k s (.S p n c) f (.S q m d) e g] w (Rb ay w):=by
 go_in
 go_wp21
 let⟨W,i⟩:=aF (jA w (dO #[.I k,.U s,.S p n c,.I f,.S q m d,.U e,.U g] 54));have j:=ir i;rw[<-i];clear i;refine cL (bP9 r) λu o=>?_;have x:=aj j o;clear j o;exact aV
abbrev bI9(F:Nat)(w:G)(k s f e g:Int)(n m N:Nat)(P V R:LI):Prop:=
 ∀(q1 q2:OA)(d1 d2:Nat)(w':G),Bw w w'->Rd w' (.S q1 n d1) P->Rd w' (.S q2 m d2) V->dQ dG F #[mG k s (.S q1 n d1) f (.S q2 m d2) e g] w' λr w''=>∃p' c',r=dR (.S p' N c')/\Own (U (Q w')) w'' (.S p' N c') R/\Bw w' w''
theorem cH2{k:Int}(h:∀(q1 q2:OA)(o j:Nat)(w':G),Bw w w'->dQ dG F #[mG k s (.S q1 n o) f (.S q2 m j) e g] w' λr i=>r=dR ay/\Bw w' i):bI9 F w k s f e g n m 0 P V []:=
 λq1 q2 o j w' hb _ _=>(h q1 q2 o j w' hb).h (by rintro r i⟨rfl,h2⟩;exact⟨dN,0,rfl,qe _ _ _ _,h2⟩)
theorem PB.py{M N z0:Nat}(h:PB w M N v xs A)(m:z0<M)(i:∀z,z≠z0->w'.heap[z]?=w.heap[z]?):PB w' M N v xs A:=
 have k:∀a∈A,w'.heap[a.b]?=w.heap[a.b]?:=λa j=>i _ (aM (h.ap.lo a j))
 ⟨h.rd.kR h.lv k,h.cap,h.lv,h.ap.W k,h.hi⟩
theorem PU.py{M N z0:Nat}(h:PU w M N v xs A)(m:z0<M)(i:∀z,z≠z0->w'.heap[z]?=w.heap[z]?):PU w' M N v xs A:=
 have k:∀a∈A,w'.heap[a.b]?=w.heap[a.b]?:=λa j=>i _ (aM (h.ap.lo a j))
 ⟨h.rd.kR h.lv k,h.lv,h.ap.W k,h.hi⟩
theorem nR.pu(h:nR B w (.S p n c) l):∃A,PU w B (U (Q w)) (.S p n c) l A:=by
 let⟨A,q,m,y,x⟩:=YF (kd:=jU) h;refine⟨A,?_,q,m,λa s=>m.ke.lt s⟩;obtain⟨e,o⟩|⟨g,j,u,e,M,E,D⟩:=h.2;{rw[e];exact⟨dN,0,by rw[o],.L (uJ.1 o)⟩};{rw[e]at h⊢;refine⟨_,j,rfl,.R ⟨g,0,rfl,λi r=>?_⟩⟩;have:=Rk h i af;rw[nY,this];simp[r]}
end Go.Proofs.YthlkmijffhhimaaGreatDoor
