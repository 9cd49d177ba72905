import Derived.Test.YtpkakgkipopiaaaGreatDoorK1
import Derived.Lib.BytesEntry
import Derived.Laws.Externs
import Derived.Lib.LastIndexByte
import Derived.Laws.IdiomRangeMap
open Array renaming size->U
open Bool renaming false->dF,true->dY
open Decidable renaming decide->dD
open Go renaming undef->jQ,Calls->dQ,Value->dV,World->G
open Go.Ending renaming returned->dR
open Go.IntKind renaming u64->jU,i64->jV
open Go.Obj renaming cells->dO
open Go.Proofs.Tryz renaming prog->dG
open Go.Region renaming wanted->jW
open Go.RowKit renaming Hid->O
open Go.Value renaming ownBlock->jB,string->jJ,int->jK,bool->jO,agg->jP,I->dI,S->dS,tuple->dT,U->dU
open Go.World renaming alloc->jA,frozen?->jF,grownBy->jG,heap->Q,ownsMap->jM,cell?->I
open Int renaming toNat->jN
open List renaming drop->jD,getD->jE,flatten->jL,range->jR,take->jT,eraseIdx->jX,zipWith->jZ,length->J
open Option renaming none->dN,some->Y
namespace Go.Proofs.YtpkakgkipopiaaaGreatDoor
set_option maxHeartbeats 3200000
set_option linter.all false
set_option maxRecDepth 100000
open Go.ChangeShapes Go.WideShapes Go.ChangeAt Go.RowKit Go.Proofs.Tryz
def oG(i:Nat)(e:Ev):Bool:=if i=7 then e.1==4&&J e.2==0 else dD (1<=e.1)&&(dD (e.1<=3)&&vp e.2)
def xI(es:List Ev):Bool:=dD (J es<=8)&&(jR (J es)).all λi=>oG i (jE es i (0,[]))
variable {p q pp:OA}{c n k b d m i sz M j base bs bn:Nat}{es:List Ev}{w w' w0 w1 w2:G}{B:Bool}{e g x t ow mo ep ge y:Int}{N v S r V:dV}{ss:List aC}{l xs ids:LI}{nd:au}{ns:List au}{a:Act}{P:Program}{ops:iQ}{o:Oper}{K:Act->G->Prop}{E:Prop}{R:Ending->G->Prop}{sX:Array TypeId}{f:Nat->Bool}{ty:TypeId}{cs:List (List dV)}{kd k1 k2:IntKind}{news:List dV}{rest:List Oper}{row:Option Nat}{Dd Ds D D1 D2:DataW Unit}{s:ByteArray}{SB:iN}{kl:Lit}{ps:List MemPlace}
theorem cd6(x:Le es n)(h:vo w (.S p n c) es)(hn:Mg n)(cW:O (∀e∈es,aA e.2/\J e.2<=2^20))(X:O (xI es=B)):dQ dG 162 #[.S p n c] w (Rb (jO B) w):=by
 have HR:=af λ(w':G)(hb:Bw w w')=>h.H hb;by_cases h8:n<=8;{
 have Re:¬(8:Int)<(n:Int):=ae;go_in
 go_wp21
 go_loopw[3](λE wr=>∃k:Nat,k<=n/\E=.I k/\O ((jR k).all (λi=>oG i (jE es i (0,[]))))/\Bw w wr) (λE _=>n-(jN (intOf E)))
 exact⟨0,cT _,rfl,cO,aR _ _⟩;{
 obtain⟨k,hk,rfl,fk,q⟩:=hrel;by_cases aL:k<n;{
 have cM:=bR k n;have Z:k<J es:=aa x▸aL;let⟨⟨K,P⟩,M⟩:=sj Z;have xM:jE es k (0,[])=(K,P):=by rw[iR,M];rfl
 obtain⟨b,o,rfl,YO,u,y,Dr⟩:∃b o,p=(Ad b o)/\I wr (Ad b (o+k*2))=dI K/\∃u,I wr (Ad b (o+k*2+1))=Y u/\Rd wr u P:=by let⟨p',c',ev,hd⟩:=aa HR _ q;obtain⟨rfl,-,-⟩:=mg ev;obtain h0|⟨b,o,R,h2⟩:=hd;{rw[h0]at Z;simp at Z};{exact⟨b,o,R,h2 k _ M⟩}
 let⟨Nj,N⟩:=aa cW _ (bq M);obtain⟨pp,pc,rfl,-⟩:=id Dr;let⟨m,W⟩:=aZ (J P);rw[W]at Dr y;have hm:m<=2^20:=W▸N;have EM:=af W;have Fm:=af Nj;have SL:=af Dr;have hF:oG k (K,P)=dF->B=dF:=λh=>by rw[<-aa X,xI,aa x,Ik aL (xM▸h),Bool.and_false]
 have hT:oG k (K,P)->O ((jR (k+1)).all (λi=>oG i (jE es i (0,[])))):=λh=>Fz fk (xM▸h);by_cases s:k=7;{
 subst s;have YO:I wr (Ad b (o+14))=dI K:=YO;have y:I wr (Ad b (o+14+1))=dS pp m pc:=y;have fl5:I wr (Ad b (o+15))=dS pp m pc:=y;by_cases j:K=4;{
 have r:(K==4):=by simp[j]
 by_cases xT:m=0;{
 have ck1:((m:Int)==0):=by simp;omega
 have D:=hT (by rw[oG,aK rfl];simp[j,aa EM,xT]);go_wp2;go_roundw;exact⟨7+1,ae,by go_num,D,q⟩;exact dh};{
 have ck1:((m:Int)==0)=dF:=by simp;omega
 obtain rfl:=hF (by rw[oG,aK rfl];simp[j,aa EM,xT]);go_wp2;go_ret;exact⟨rfl,q⟩}};{
 have r:(K==4)=dF:=by simp[j]
 obtain rfl:=hF (by rw[oG,aK rfl];simp[j]);go_wp2;go_ret;exact⟨rfl,q⟩}};{
 have h7':¬(k:Int)=7:=ae;have h7d:((k:Int)==7)=dF:=by simp;omega
 by_cases j:K=4;{
 have r:(K==4):=by simp[j]
 obtain rfl:=hF (by rw[oG,aJ s];simp[j]);go_wp2;go_ret;exact⟨rfl,q⟩};{
 have r:(K==4)=dF:=by simp[j]
 by_cases R:K<1;{have GI:¬1<=K:=ae;obtain rfl:=hF (by rw[oG,aJ s];simp;omega);go_wp2;go_ret;exact⟨rfl,q⟩};{
 by_cases h3:3<K;{have h3':¬K<=3:=ae;obtain rfl:=hF (by rw[oG,aJ s];simp;omega);go_wp2;go_ret;exact⟨rfl,q⟩};{
 have GI:¬K<1:=R;have g1:1<=K:=ae;have g3:K<=3:=ae;let⟨V,eV⟩:=aZ (vp P);have EV:=af eV;have gi:oG k (K,P)=V:=by rw[oG,aJ s,eV];simp[g1,g3]
 go_wp21
 refine cK (WR EM SL Fm hm EV) λw2 ay=>?_;have b2:=ah q ay;cases V with
 |false=>
  obtain rfl:=hF (by exact gi);go_wp2;go_ret;exact⟨rfl,b2⟩
 |true=>
  have D:=hT (by exact gi);go_wp2;go_roundw;exact⟨k+1,ae,by go_num,D,b2⟩;exact dh}}}}};{
 have cM:=fG k n;have eT:B:=by
  rw[<-aa X,xI,aa x];have:k=n:=by omega
  rw[<-this,aa fk];simp;omega
 subst eT;go_wp2;go_ret;exact⟨rfl,q⟩}}};{
 have Re:=rr 8 n;obtain rfl:B=dF:=by rw[<-aa X,xI,aa x];simp[h8]
 go_in;go_wp2;go_ret;exact⟨rfl,aR _ _⟩}
def xG(j:Int)(ss:List aC)(i:Nat):Bool:=
 dD (1<=(jE ss i (0,0,[])).1)&&(dD ((jE ss i (0,0,[])).1<=j)&&((i==0||decide ((jE ss (i-1) (0,0,[])).1<(jE ss i (0,0,[])).1))&&
  (dD (0<=(jE ss i (0,0,[])).2.1)&&(dD ((jE ss i (0,0,[])).2.1<=1000015)&&xI (jE ss i (0,0,[])).2.2))))
theorem dD7(en:Le ss n)(h:mX w (.S p n c) ss)(hn:Mg n)(hk:k<n)(cW:O (Bs ss))(eB:O (xG x ss k=B)):dQ dG 104 #[bS e g x t (.S p n c) N,.I k] w (Rb (jO B) w):=by
 have HR:=af λ(y:G)(hb:Bw w y)=>h.H hb;have db:k<J ss:=aa en▸hk;let⟨⟨r,D,iZ⟩,hy⟩:=sj db;have xM:jE ss k (0,0,[])=(r,D,iZ):=by rw[iR,hy];rfl
 obtain⟨b,o,rfl,I5⟩:∃b o,p=(Ad b o)/\∀i s,ss[i]?=Y s->I w (Ad b (o+i*3))=dU s.1/\I w (Ad b (o+i*3+1))=dI s.2.1/\∃u,I w (Ad b (o+i*3+2))=Y u/\vo w u s.2.2:=by obtain⟨p',c',ev,hd⟩:=h;obtain⟨rfl,-,-⟩:=mg ev;obtain h0|⟨b,o,h1,h2⟩:=hd;{rw[h0]at db;simp at db};{exact⟨b,o,h1,h2⟩}
 let⟨hI,hD,u,hU,hQ⟩:=I5 k _ hy;let⟨W,Z⟩:=aa cW _ (bq hy);obtain⟨pq,cq,rfl,-⟩:=id hQ;let⟨m,em⟩:=aZ (J iZ);rw[em]at hQ hU;have hm:m<=2^20:=em▸W;have EM:=af em;have HBQ:O (∀e∈iZ,aA e.2/\J e.2<=2^20):=Z;have Wd:=af hQ;let⟨T,eT⟩:=aZ (xI iZ);have ET:O (xI iZ=T):=eT;have E:xG x ss k=(dD (1<=r)&&(dD (r<=x)&&((k==0||decide ((jE ss (k-1) (0,0,[])).1<r))&&(dD (0<=D)&&(dD (D<=1000015)&&T))))):=by rw[xG,xM,eT]
 rw[show(xG x ss k)=B from aa eB]at E;have R:O (B=(dD (1<=r)&&(dD (r<=x)&&((k==0||decide ((jE ss (k-1) (0,0,[])).1<r))&&(dD (0<=D)&&(dD (D<=1000015)&&T)))))):=E;clear E;have IW:=bR k n;have dR1:=gr 0 k;have HL:=af db;clear hy xM W Z hQ em eT h eB db;have HCA:=af I5;clear I5;go_in;have b1:Bw w (jA w (dO #[.U e,.U g,.U x,.I t,.S (Ad b o) n c,N] 34)):=aH.alloc az _;have i1:=aj hI b1;have i2:=aj hD b1;have i3:=aj hU b1
 go_wp21
 let⟨X,V⟩:=aF (jA (jA w (dO #[.U e,.U g,.U x,.I t,.S (Ad b o) n c,N] 34)) (dO #[.U r,.I D,.S pq m cq] 65));have BX:O (Bw w X):=by show Below _ _ _;rw[V];exact b1.alloc ai _
 have kA:I X (Ax w 0)=dU r:=by rw[V];simp
 have kD:I X (Ax w 1)=dI D:=by rw[V];simp
 have kQ:I X (Ax w 2)=dS pq m cq:=by rw[V];simp
 have kB:I X (Aw w 2)=dU x:=by rw[V];simp
 have kC:I X (Aw w 4)=dS (Ad b o) n c:=by rw[V];simp
 rw[<-V];have KA:=af kA;have KB:=af kB;have KC:=af kC;clear V b1 i1 i2 i3 kA kB kC hI hD hU;by_cases h1:r<1;{
 obtain rfl:B=dF:=by rw[aa R];simp;omega
 have h1d:dD (r<1):=by simp;omega
 refine fK (λy=>I y (Ax w 0)=dU r/\I y (Aw w 2)=dU x/\I y (Aw w 4)=dS (Ad b o) n c) (by exact⟨KA,KB,KC⟩) λhS=>?_;refine iL 0 1 2 3 hS ?_;refine lT 4 5 6 7 hS ?_;refine sn 8 hS ?_;refine gh 9 10 hS ?_;refine lT 11 12 13 14 hS ?_;refine lT 15 16 17 18 hS ?_;refine lT 19 20 21 22 hS ?_;refine sn 23 hS ?_;refine sn 24 hS ?_;refine tn 25 hS ?_;refine ga ?_;clear hS;go_wp2;go_ret;exact⟨rfl,BX.drew⟩};{
 have h1d:dD (r<1)=dF:=by simp;omega
 by_cases h2:x<r;{
 obtain rfl:B=dF:=by rw[aa R];simp;omega
 have h2d:dD (x<r):=by simp;omega
 refine fK (λy=>I y (Ax w 0)=dU r/\I y (Aw w 2)=dU x/\I y (Aw w 4)=dS (Ad b o) n c) (by exact⟨KA,KB,KC⟩) λhS=>?_;refine jh 0 1 2 3 4 5 6 7 hS ?_;refine gh 8 9 hS ?_;refine tn 10 hS ?_;refine lT 11 12 13 14 hS ?_;refine lT 15 16 17 18 hS ?_;refine lT 19 20 21 22 hS ?_;refine sn 23 hS ?_;refine sn 24 hS ?_;refine tn 25 hS ?_;refine ga ?_;go_wp2;go_ret;exact⟨rfl,BX.drew⟩};{
 have h2d:dD (x<r)=dF:=by simp;omega
 by_cases nL:k=0;{
 have hp:¬0<k:=ae;have MM:¬(0:Int)<(k:Int):=ae;have HK0:=af nL;refine fK (λy=>I y (Ax w 0)=dU r/\I y (Aw w 2)=dU x/\I y (Aw w 4)=dS (Ad b o) n c) (by exact⟨KA,KB,KC⟩) λhS=>?_;refine jh 0 1 2 3 4 5 6 7 hS ?_;refine iL 8 9 10 11 hS ?_;refine gh 12 13 hS ?_;refine lT 14 15 16 17 hS ?_;refine lT 18 19 20 21 hS ?_;refine sn 22 hS ?_;refine sn 23 hS ?_;refine gh 24 25 hS ?_;refine ga ?_;have E:=aa R;rw[show(k==0)=dY by simp[aa HK0]]at E;by_cases h5:D<0;{
 obtain rfl:B=dF:=by rw[E];simp;omega
 have h5':D<0:=h5;go_wp2;go_ret;exact⟨rfl,BX.drew⟩};{
 by_cases h6:1000015<D;{
 obtain rfl:B=dF:=by rw[E];simp;omega
 go_wp2;go_ret;exact⟨rfl,BX.drew⟩};{
 obtain rfl:B=T:=by rw[E];simp[show 1<=r by omega,show r<=x by omega,show 0<=D by omega,show D<=1000015 by omega]
 clear E
 go_wp21
 refine cK (cd6 EM (by exact Wd.H BX.drew) hm HBQ ET) λw2 ay=>?_;have b2:=ah BX.drew ay;clear ay;go_wp2;go_ret;exact⟨rfl,b2⟩}}};{
 obtain⟨j,ej⟩:∃j:Nat,(k:Int)-1=(j:Int):=⟨k-1,ae⟩;have DH:k-1=j:=ae;have qM:j<J ss:=aM (aa HL);let⟨⟨z,zz⟩,hz⟩:=sj qM;have Yf:(jE ss j (0,0,[])).1=z:=by rw[iR,hz];rfl
 have E:=aa R;rw[DH,Yf]at E;have kZ:=aj (aa HCA j _ hz).1 BX;have KZ:O (I X (Ad b (o+j*3))=dU z):=kZ;have hp:0<k:=ae;have MM:=rr 0 k;have QC:=bR j n;have YD:=gr 0 j;have wj:=iw j;rw[show(k==0)=dF by simp[nL],Uq]at E;have M:O (B=(dD (1<=r)&&(dD (r<=x)&&(dD (z<r)&&(dD (0<=D)&&(dD (D<=1000015)&&T)))))):=E;clear E;clear hz Yf qM kZ DH nL;by_cases hzI:z<r;{
 have hle:¬r<=z:=ae;have be3:dD (r<=z)=dF:=by simp;omega
 refine fK (λy=>I y (Ax w 0)=dU r/\I y (Aw w 2)=dU x/\I y (Aw w 4)=dS (Ad b o) n c/\I y (Ad b (o+j*3))=dU z) (by exact⟨KA,KB,KC,KZ⟩) λhS=>?_;refine jh 0 1 2 3 4 5 6 7 hS ?_;refine jh 8 9 10 11 12 13 14 15 hS ?_;refine jh 16 17 18 19 20 21 22 23 hS ?_;refine gh 24 25 hS ?_;refine ga ?_;clear hS;by_cases h5:D<0;{
 obtain rfl:B=dF:=by rw[aa M];simp;omega
 have h5':D<0:=h5;go_wp2;go_ret;exact⟨rfl,BX.drew⟩};{
 by_cases h6:1000015<D;{
 obtain rfl:B=dF:=by rw[aa M];simp;omega
 go_wp2;go_ret;exact⟨rfl,BX.drew⟩};{
 obtain rfl:B=T:=by rw[aa M];simp only[show dD (1<=r)=dY by(rw[vK];omega),show dD (r<=x)=dY by(rw[vK];omega),show dD (z<r)=dY by(rw[vK];omega),show dD (0<=D)=dY by(rw[vK];omega),show dD (D<=1000015)=dY by(rw[vK];omega),xm]
 go_wp21
 refine cK (cd6 EM (by exact Wd.H BX.drew) hm HBQ ET) λw2 ay=>?_;have b2:=ah BX.drew ay;go_wp2;go_ret;exact⟨rfl,b2⟩}}};{
 have hle:r<=z:=ae;have be3:dD (r<=z):=by simp;omega
 obtain rfl:B=dF:=by rw[aa M];simp;omega
 refine fK (λy=>I y (Ax w 0)=dU r/\I y (Aw w 2)=dU x/\I y (Aw w 4)=dS (Ad b o) n c/\I y (Ad b (o+j*3))=dU z) (by exact⟨KA,KB,KC,KZ⟩) λhS=>?_;refine jh 0 1 2 3 4 5 6 7 hS ?_;refine jh 8 9 10 11 12 13 14 15 hS ?_;refine jh 16 17 18 19 20 21 22 23 hS ?_;refine gh 24 25 hS ?_;refine ga ?_;go_wp2;go_ret;exact⟨rfl,BX.drew⟩}}}}
theorem aA5(w:G)(C:iA)(e:TypeId)(fr:Nat×Nat)(i:Nat):I (jA w (dO C e fr)) (Aw w i)=C[i]?:=by
 have h:(jA w (dO C e fr)).heap[U (Q w)]?=dO C e fr:=by show(w.heap.push (dO C e fr))[U (Q w)]?=_;simp
 unfold World.cell?;rw[h];rfl
def xn(l:LI)(k:Nat):Nat:=(jR k).foldl (λa i=>if jE l i 0=47 then i else a) 0
theorem XN(l:LI)(k:Nat):xn l (k+1)=if jE l k 0=47 then k else xn l k:=by
 rw[xn,aV1,Un];rfl
def im(l:LI):LI:=if xn l (J l)=0 then[47]else jT (xn l (J l)) l
theorem XX(s:Le l n)(h:Rd w (.S p n c) l)(hn:Mg n)(hc:n<=c)(oY:c<=maxLen):dQ dG 164 #[.S p n c] w λr w'=>∃q m d,r=dR (.S q m d)/\J (im l)=m/\m<=n+1/\Rd w' (.S q m d) (im l)/\Bw w w':=by
 have V:=af h;clear h;go_in
 go_wp21
 go_loopw[3,4](λav D wr=>∃k a:Nat,k<=n/\D=.I k/\av=.I a/\a<=k/\O (xn l k=a)/\wr=w) (λ_ D _=>n-(jN (intOf D)))
 exact⟨0,0,cT _,rfl,rfl,fq _,cO,rfl⟩;{
 obtain⟨k,a,hk,rfl,rfl,hak,N,rfl⟩:=hrel;by_cases aL:k<n;{
 have cM:=bR k n;have Z:k<J l:=aa s▸aL;obtain⟨b,o,rfl,-,W⟩:=V.at ae;have sL:=W k Z;have j:=XN l k;let⟨y,X⟩:=aZ (jE l k 0);rw[X]at sL j;clear W Z X;by_cases B:y=47;{subst B;rw[aK rfl]at j;have E:=af j;clear j;go_wp2;go_roundw;exact⟨k+1,k,ae,by go_num,rfl,ae,E,by first|rfl|trivial⟩;exact dh};{
 have fp0:(y==47)=dF:=by simp[B]
 rw[aJ B,aa N]at j;have E:=af j;clear j;go_wp2;go_roundw;exact⟨k+1,a,ae,by go_num,rfl,ae,E,by first|rfl|trivial⟩;exact dh}};{
 have cM:=fG k n;obtain rfl:k=n:=ae;clear hk aL;by_cases M:a=0;{
 subst M;have u:O (im l=[47]):=by show _=_;rw[im,aa s,aa N,aK rfl]
 have hcv:=Lib.run_convert_bytes_const (P:=dG) wr 22 5 #[jK .u8 47] 1 1 underlying22 underlying5;go_wp2;go_ret;refine⟨_,_,_,rfl,by rw[aa u];rfl,ae,?_,aH.alloc az _⟩;rw[aa u];refine⟨_,_,rfl,.R ⟨U (Q wr),0,rfl,λi hi=>?_⟩⟩
 match i,hi with
 |0,_=>(rw[l9,aA5];rfl)}
 {
 have xw:((a:Int)==0)=dF:=by simp[M]
 have u:O (im l=jT a l):=by show _=_;rw[im,aa s,aa N,aJ M]
 obtain⟨b,o,rfl,-,-⟩:=V.at (by rw[aa s];omega);have g1:=nT a k;have g2:=nT a c;have x:=V.cut 0 a (cT _) (by rw[aa s];omega) (Ad b o) (.R rfl) c (jT a l) ai;have R:=af x;clear x;go_wp2;go_ret;exact⟨_,_,_,rfl,by rw[aa u,te,aa s];omega,ae,by rw[aa u];exact aa R,aR _ _⟩}}}
def vr(v:dV):Prop:=∃p n c,v=.S p n c/\n<=c/\c<=maxLen
structure Hl(w:G)(b a:Nat)(nd:au)(P V H iU:dV):Prop where
 c0:I w (Ad b a)=P
 c1:I w (Ad b (a+1))=V
 c2:I w (Ad b (a+2))=dU nd.D
 c3:I w (Ad b (a+3))=dI nd.M
 c4:I w (Ad b (a+4))=H
 c5:I w (Ad b (a+5))=dU nd.P
 c6:I w (Ad b (a+6))=dU nd.F
 c7:I w (Ad b (a+7))=iU
 r0:Rd w P nd.A
 r1:Rd w V nd.V
 r4:RdU w H nd.y
 r7:RdU w iU nd.X
 k0:vr P
theorem Hl.H{a:Nat}{P V H iU:dV}(h:Hl w b a nd P V H iU)(i:Bw w w'):Hl w' b a nd P V H iU:=
 ⟨aj h.c0 i,aj h.c1 i,aj h.c2 i,aj h.c3 i,aj h.c4 i,aj h.c5 i,aj h.c6 i,aj h.c7 i,h.r0.H i,h.r1.H i,h.r4.H i,h.r7.H i,h.k0⟩
def iy(w:G)(v:dV)(ns:List au):Prop:=
 ∃(p:OA)(c:Nat),v=.S p (J ns) c/\(ns=[]\/∃b o,p=(Ad b o)/\∀i j,ns[i]?=Y j->∃P V H iU,Hl w b (o+i*8) j P V H iU)
theorem iy.H(h:iy w v ns)(j:Bw w w'):iy w' v ns:=by
 obtain⟨p,c,rfl,h⟩:=h;refine⟨p,c,rfl,?_⟩;obtain h|⟨b,o,rfl,h⟩:=h;{exact .L h};{refine .R ⟨b,o,rfl,λi e he=>?_⟩;let⟨P,V,H,iU,m⟩:=h i e he;exact⟨P,V,H,iU,m.H j⟩}
abbrev Ka(P V:dV)(ow mo:Int)(H:dV)(ep ge:Int)(iU:dV):dV:=jP #[P,V,.U ow,.I mo,H,.U ep,.U ge,iU]
def qx(e g j:Int)(i:Nat)(o m:Int):Bool:=
 if j=1 then i==1&&(dD (1<=m)&&(dD (m<=g)&&dD (o<=e)))else o==0&&(m==0&&(if j=0 then i==0 else j==2&&dD (1<=i)))
theorem cd8{S N P V iU:dV}(o:Mg n)(i:O (qx e g mo n ep ge=B)):dQ dG 167 #[bS e g x t S N,Ka P V ow mo (.S p n c) ep ge iU] w (Rb (jO B) w):=by
 go_in
 go_wp21
 all_goals(
  go_ret;refine⟨?_,(aH.alloc az _).alloc ai _⟩;rw[<-aa i];simp only[qx,aS6,aU9])
 all_goals first|(simp_all;done)|(simp_all;omega)|skip
 all_goals(
  show Value.bool ((n:Int)==0)=Value.bool _;congr 1;have m:mo=0:=(by simpa using ‹(mo==0)=dY›);have j:ge=0:=(by simpa using ‹(ge != 0)=dF›);subst m j;rw[PQ]
  simp_all)
theorem iy.at(h:iy w (.S p n c) ns)(hl:0<J ns):∃b o,p=(Ad b o)/\∀i nd,ns[i]?=Y nd->∃P V H iU,Hl w b (o+i*8) nd P V H iU:=by
 obtain⟨s,u,ev,j⟩:=h;obtain⟨rfl,-,-⟩:=mg ev;obtain r|⟨b,o,q,m⟩:=j;{rw[r]at hl;simp at hl};{exact⟨b,o,q,m⟩}
theorem Rd.fO(h:Rd w v l):∃p c n,v=.S p n c/\Le l n:=by
 obtain⟨p,c,rfl,-⟩:=h;exact⟨p,c,_,rfl,cO⟩
theorem List.cD9{α:Type}{ns:List α}{y:α}(h:ns[k]?=y):y::jD (k+1) ns=jD k ns:=by
 obtain⟨i,rfl⟩:=bu.1 h;exact(Mm i).C
def kU(ns:List au)(l:LI):Option au:=ns.find? λi=>dD (i.A=l)
theorem aX9(Z:Le ns n)(em:Le l m)(h:iy w (.S p n c) ns)(hl:Rd w (.S q m d) l)(hn:Mg n)(hm:m<=2^21)(cW:O (aA l/\∀nd∈ns,aA nd.A)):dQ dG 113 #[bS e g x t S (.S p n c),.S q m d] w λr w'=>((∃(k:Nat)(nd:au),r=dR (.I k)/\k<n/\ns[k]?=Y nd/\kU ns l=Y nd)\/(r=dR (.I (-1))/\kU ns l=dN))/\Bw w w':=by
 have HR:=af λ(w':G)(X:Bw w w')=>aD (h.H X) (hl.H X);go_in
 go_wp21
 let⟨W,y⟩:=aF (jA w (dO #[.U e,.U g,.U x,.I t,S,.S p n c] 34));have bW:=ij y;have xv:I W (Aw w 5)=dS p n c:=by rw[y];simp
 rw[<-y];have BW:=af bW;have N:=af xv
 go_loopw[5](λj wr=>∃k:Nat,k<=n/\j=.I k/\O (kU (jT k ns) l=dN)/\Bw W wr) (λj _=>n-(jN (intOf j)))
 exact⟨0,cT _,rfl,cO,aR _ _⟩;{
 obtain⟨k,hk,rfl,s,D⟩:=hrel;have R:=ah BW D;have i5:=aj N D;by_cases aL:k<n;{
 have cM:=bR k n;have db:k<J ns:=aa Z▸aL;let⟨hN,hL⟩:=aa HR _ R;obtain⟨b,o,rfl,hA⟩:=hN.at ae;let⟨nd,u⟩:=sj db;let⟨P,V,H,iU,aG⟩:=hA k nd u;have hP:=aG.c0;have Dr:=aG.r0;obtain⟨pp,pc,pn,rfl,we⟩:=Dr.fO;have Nj:=cW.2 nd (bq u);have E:=af u;have SL:=af Dr;have Fm:=af Nj;have M:=af hL
 go_wp21
 refine cK (Uz we em SL M Fm cW.1) λw2 ay=>?_;by_cases i:nd.A=l;{
 rw[show dD (nd.A=l)=dY by simp[i]];have hF:O (kU ns l=Y nd):=by
  show _=_;have e1:ns=jT k ns++nd::jD (k+1) ns:=by rw[List.cD9 (aa E),Mw]
  rw[e1,kU,List.find?_append,show(jT k ns).find? (λnd=>dD (nd.A=l))=dN from aa s];simp[i]
 have B:=ah R ay;go_wp2;go_ret;exact⟨.L ⟨k,nd,rfl,aL,E,hF⟩,B⟩};{
 rw[show dD (nd.A=l)=dF by simp[i]];have Yt:O (kU (jT (k+1) ns) l=dN):=by show _=_;rw[sE,aa E,kU,List.find?_append,show(jT k ns).find? (λnd=>dD (nd.A=l))=dN from aa s];simp[i]
 have B:=ah D ay;go_wp2;go_roundw;exact⟨k+1,ae,by go_num,Yt,B⟩;exact dh}};{
 have cM:=fG k n;have hF:O (kU ns l=dN):=by show _=_;have:=aa s;rwa [od (by rw[aa Z];omega)]at this
 go_wp2;go_ret;exact⟨.R ⟨rfl,hF⟩,R⟩}}
def pI(ns:List au)(l:LI):Bool:=if l=[47]then dY else match kU ns l with|some nd=>nd.D==0|none=>dF
theorem ap1(en:Le ns n)(em:Le l m)(h:iy w (.S p n c) ns)(hl:Rd w (.S q m d) l)(hn:Mg n)(hm:m<=2^21)(cW:O (aA l/\∀nd∈ns,aA nd.A))(eB:O (pI ns l=B)):dQ dG 163 #[bS e g x t S (.S p n c),.S q m d] w (Rb (jO B) w):=by
 have M:=af λ(w':G)(hb:Bw w w')=>aD (h.H hb) (hl.H hb);clear h hl;let⟨W,u⟩:=aF (jA w (dO #[.U e,.U g,.U x,.I t,S,.S p n c] 34));have bW:=ij u;have sW:U (Q W)=U (Q w)+1:=by rw[u];simp
 have xv:gH W (U (Q w)) e g x t S (.S p n c):=by rw[u];simp[gH]
 have hcv:=Lib.run_convert_bytes_const (P:=dG) W 22 5 #[jK .u8 47] 1 1 underlying22 underlying5;simp only[show(#[Value.int .u8 47]:iA).size=1 from rfl]at hcv;let⟨X,s⟩:=aF (jA W (dO #[jK .u8 47] 5 (1,1+1)));have rX:Rd X (.T (U (Q w)+1) 1 1) [47]:=by
  rw[s,<-sW];refine⟨_,_,rfl,.R ⟨U (Q W),0,rfl,λi hi=>?_⟩⟩
  match i,hi with
  |0,_=>(rw[l9,aA5];rfl)
 have bX:Bw w X:=s▸bW.alloc ae _;have iX:gH X (U (Q w)) e g x t S (.S p n c):=xv.H (s▸aH.alloc az _);rw[<-s,sW,u]at hcv;clear sW xv bW s u;have RX:=af rX;have BX:=af bX;have IX:=af iX;clear rX bX iX;go_in
 go_wp21
 refine(Uz em cO (aa M _ BX).2 RX cW.1 (by intro x hx;simp at hx;omega)).h ?_;rintro r w2⟨rfl,R⟩;have E:=ah BX R;let⟨j0,j1,j2,j3,j4,j5⟩:=IX.H R;clear hcv R;by_cases j:l=[47];{
 rw[show dD (l=[47])=dY by simp[j]];obtain rfl:B:=by rw[<-aa eB,pI,aK j]
 clear j;go_wp2;go_ret;exact⟨rfl,E⟩};{
 rw[show dD (l=[47])=dF by simp[j]];have hB:(match kU ns l with|some nd=>nd.D==0|none=>dF)=B:=by rw[<-aa eB,pI,aJ j]
 have y:=af hB;clear hB j
 go_wp21
 refine(aX9 en em (aa M _ E).1 (aa M _ E).2 hn hm cW).h ?_;rintro r w3⟨hr,Z⟩;have D:=ah E Z;have k5:=aj j5 Z;clear j0 j1 j2 j3 j4 j5 Z;obtain⟨k,nd,rfl,hk,hy,hF⟩|⟨rfl,hF⟩:=hr;{
 rw[hF]at y;have db:k<J ns:=aa en▸hk;obtain⟨b,o,rfl,hA⟩:=(aa M _ D).1.at ae;let⟨P,V,H,iU,aG⟩:=hA k nd hy;have hO:=aG.c2;have IW:=bR k n;have nL:=gr 0 k;clear hA aG db hy hF;cases B with
 |true=>
  have N:nd.D=0:=by have:=aa y;simpa using this
  rw[N]at hO;clear N;go_wp2;go_ret;exact⟨rfl,D⟩
 |false=>
  have N:(nd.D==0)=dF:=aa y;go_wp2;go_ret;exact⟨rfl,D⟩};{rw[hF]at y;obtain rfl:B=dF:=y.C;clear hF;go_wp2;go_ret;exact⟨rfl,D⟩}}
def leB(l m:LI):Bool:=Op.bytesLess (bf l).toList (bf m).toList||(bf l).toList==(bf m).toList
def jt:au:=⟨[],[],0,0,[],0,0,[]⟩
def vD(e g:Int)(ss:List aC)(ns:List au)(k:Nat):Bool:=
 let i:=jE ns k jt
 (vp i.A&&(k==0||!leB i.A (jE ns (k-1) jt).A))&&(pI ns (im i.A)&&(dD (J i.V<=40)&&((i.D==0||live ss i.D)&&(rK ss i.y&&(rK ss i.X&&qx e g i.M (J i.y) i.P i.F)))))
theorem Ud(h:aA l):aA (im l):=by
 unfold im;split;{intro x i;simp at i;omega};{exactλx i=>h x (PT i)}
theorem RdU.fO(h:RdU w v l):∃p c n,v=.S p n c/\Le l n:=by
 obtain⟨p,c,rfl,-⟩:=h;exact⟨p,c,_,rfl,cO⟩
theorem dD8(en:Le ss n)(em:Le ns m)(h:mX w (.S p n c) ss)(hN:iy w (.S q m d) ns)(hn:Mg n)(hm:Mg m)(hk:k<m)(cW:O (Bn ns))(eB:O (vD e g ss ns k=B)):dQ dG 105 #[bS e g x t (.S p n c) (.S q m d),.I k] w (Rb (jO B) w):=by
 have HR:=af λ(w':G)(hb:Bw w w')=>aD (h.H hb) (hN.H hb);have db:k<J ns:=aa em▸hk;let⟨u,hy⟩:=sj db;have xM:jE ns k jt=u:=by rw[iR,hy];rfl
 obtain⟨b,o,rfl,hA⟩:=hN.at ae;let⟨P,V,H,iU,aG⟩:=hA k u hy;let⟨qO,fw,Nl,Nk,Lg⟩:=aa cW _ (bq hy);obtain⟨pp,pc,pn,rfl,we⟩:=aG.r0.fO;obtain⟨JS,vc,vn,rfl,Nz⟩:=aG.r1.fO;obtain⟨hp,hc,hh,rfl,Bj⟩:=aG.r4.fO;obtain⟨up,uc,un,rfl,DI⟩:=aG.r7.fO;have Dt:pn<=2^20:=aa we▸fw;have hvn:vn<=2^20:=aa Nz▸Nl;have Ey:hh<=2^20:=aa Bj▸Nk;have Es:un<=2^20:=aa DI▸Lg;have IW:=bR k m;have dR1:=gr 0 k;have b1:Bw w (jA w (dO #[.U e,.U g,.U x,.I t,.S p n c,.S (Ad b o) m d] 34)):=aH.alloc az _;have dO5:=aG.H b1;obtain⟨c0,c1,c2,c3,c4,c5,c6,c7,-,-,-,-,-⟩:=dO5;have HYD:=af xM;have Hs:=af aG;have Fm:=af qO;have HA:=af hA;go_in
 go_wp21
 let⟨X,hX⟩:=aF (jA (jA w (dO #[.U e,.U g,.U x,.I t,.S p n c,.S (Ad b o) m d] 34)) (dO #[.S pp pn pc,.S JS vn vc,.U u.D,.I u.M,.S hp hh hc,.U u.P,.U u.F,.S up un uc] 69));have bX:Bw w X:=hX▸b1.alloc ai _;have iX:gH X (U (Q w)) e g x t (.S p n c) (.S (Ad b o) m d):=by rw[hX];simp[gH]
 have nX:Hl X (U (Q w)+1) 0 u (.S pp pn pc) (.S JS vn vc) (.S hp hh hc) (.S up un uc):=
  ⟨by rw[hX];simp,by rw[hX];simp,by rw[hX];simp,by rw[hX];simp,by rw[hX];simp,by rw[hX];simp,by rw[hX];simp,by rw[hX];simp,Hs.r0.H bX,Hs.r1.H bX,Hs.r4.H bX,Hs.r7.H bX,Hs.k0⟩
 rw[<-hX];have BX:=af bX;have IX:=af iX;have NX:=af nX;let⟨V1,eV⟩:=aZ (vp u.A);have EV:=af eV;obtain⟨C,eC⟩:∃C,(!(V1&&(k==0||!leB u.A (jE ns (k-1) jt).A)))=C:=⟨_,rfl⟩;have hB:B=(!C&&(pI ns (im u.A)&&(dD (J u.V<=40)&&((u.D==0||live ss u.D)&&(rK ss u.y&&(rK ss u.X&&qx e g u.M (J u.y) u.P u.F)))))):=by rw[<-aa eB,vD,aa HYD,<-eC,aU8,show vp u.A=V1 from aa EV]
 go_cut[32](λrv wc=>rv=jO C/\Bw w wc/\gH wc (U (Q w)) e g x t (.S p n c) (.S (Ad b o) m d)/\Hl wc (U (Q w)+1) 0 u (.S pp pn pc) (.S JS vn vc) (.S hp hh hc) (.S up un uc))
 case first=>(
 cases V1 with
 |false=>
  obtain rfl:C:=by rw[<-eC];rfl
  refine fK (λw'=>I w' (Ax w 0)=dS pp pn pc/\I w' (Aw w 5)=dS (Ad b o) m d/\Rd w' (.S pp pn pc) u.A) (by exact⟨NX.c0,IX.2.2.2.2.2,NX.r0⟩) λhS=>?_;refine gh 0 1 hS ?_;refine ry [2] ?_;refine cn (λKK hK=>?_) ?_;{
 refine js (WR we (by exact NX.r0) Fm Dt EV) ?_;rintro r w2⟨rfl,N⟩;refine⟨_,rfl,?_⟩;have y:Bw X w2:=ah (aR (U (Q X)) X).drew N;refine bQ hK (by exact⟨aj NX.c0 y,aj IX.2.2.2.2.2 y,NX.r0.H y⟩) λhS=>?_;refine gh 3 4 hS ?_;refine lT 5 6 7 8 hS ?_;refine lT 9 10 11 12 hS ?_;refine lT 13 14 15 16 hS ?_;refine lT 17 18 19 20 hS ?_;refine tn 21 hS ?_;refine ga ?_
 go_wp21
 go_meet;exact⟨rfl,ah BX y,IX.H y,NX.H y⟩};exact fI
 |true=>
  by_cases nL:k=0;{
 obtain rfl:C=dF:=by rw[<-eC,nL];rfl
 have MM:¬0<k:=ae;have fi0:¬(0:Int)<(k:Int):=ae;clear eC nL;refine fK (λw'=>I w' (Ax w 0)=dS pp pn pc/\I w' (Aw w 5)=dS (Ad b o) m d/\Rd w' (.S pp pn pc) u.A) (by exact⟨NX.c0,IX.2.2.2.2.2,NX.r0⟩) λhS=>?_;refine gh 0 1 hS ?_;refine ft 2 λKK hK=>?_;refine js (WR we (by exact NX.r0) Fm Dt EV) ?_;rintro r w2⟨rfl,N⟩;refine⟨_,rfl,?_⟩;have y:Bw X w2:=ah (aR (U (Q X)) X).drew N;refine bQ hK (by exact⟨aj NX.c0 y,aj IX.2.2.2.2.2 y,NX.r0.H y⟩) λhS=>?_;clear hK KK;refine iL 3 4 5 6 hS ?_;refine tn 7 hS ?_;refine lT 8 9 10 11 hS ?_;refine lT 12 13 14 15 hS ?_;refine lT 16 17 18 19 hS ?_;refine gh 20 21 hS ?_;refine ga ?_;clear hS
 go_wp21
 go_meet;exact⟨rfl,ah BX y,IX.H y,NX.H y⟩};{
 obtain⟨j,ej⟩:∃j:Nat,(k:Int)-1=(j:Int):=⟨k-1,ae⟩;have DH:k-1=j:=ae;have qM:j<J ns:=ae;let⟨zd,hz⟩:=sj qM;have Yf:jE ns j jt=zd:=by rw[iR,hz];rfl
 let⟨Z,Z1,Z2,Z3,hzn⟩:=aa HA j zd hz;obtain⟨zp,zc,zn,rfl,eZn⟩:=hzn.r0.fO;have KZ:=af (aj hzn.c0 BX);have RZ:=af (hzn.r0.H BX);have hpk:0<k:=ae;have fh7:=rr 0 k;have QC:=bR j m;have YD:=gr 0 j;have wj:=iw j;rw[DH,Yf,show(k==0)=dF by simp[nL],xm,Uq,aU8]at eC;have HLE:O ((Op.bytesLess (bf u.A).toList (bf zd.A).toList||(bf u.A).toList==(bf zd.A).toList)=C):=eC;clear hz Yf qM hzn DH nL eC;refine fK (λw'=>I w' (Ax w 0)=dS pp pn pc/\I w' (Aw w 5)=dS (Ad b o) m d/\Rd w' (.S pp pn pc) u.A/\I w' (Ad b (o+j*8))=dS zp zn zc/\Rd w' (.S zp zn zc) zd.A) (by exact⟨NX.c0,IX.2.2.2.2.2,NX.r0,KZ,RZ⟩) λhS=>?_;refine gh 0 1 hS ?_;refine ry [2] ?_;refine cn (λKK hK=>?_) ?_;{
 refine js (WR we (by exact NX.r0) Fm Dt EV) ?_;rintro r w2⟨rfl,N⟩;refine⟨_,rfl,?_⟩;have y:Bw X w2:=ah (aR (U (Q X)) X).drew N;refine bQ hK (by exact⟨aj NX.c0 y,aj IX.2.2.2.2.2 y,NX.r0.H y,aj KZ y,RZ.H y⟩) λhS=>?_;clear hK KK;refine iL 3 4 5 6 hS ?_;refine gh 7 8 hS ?_;refine tn 9 hS ?_;refine Iy (i:=10) (oi:=_) (v:=?_) (by simp only[uB,vF,vE];rfl) aU aU aU (λ_ _ _ h=>h) (Or.L ⟨aP,?_⟩) hS ?_;rotate_left;{(intro w' nR;(try dsimp only at nR);have hcv:=uS we nR.2.2.1;go_simp;try with_reducible rfl)}
 simp only[Act.put,xa,xb,xc];refine iL 11 12 13 14 hS ?_;refine gh 15 16 hS ?_;refine tn 17 hS ?_;refine Iy (i:=18) (oi:=_) (v:=?_) (by simp only[uB,vF,vE];rfl) aU aU aU (λ_ _ _ h=>h) (Or.L ⟨aP,?_⟩) hS ?_;rotate_left;{(intro w' nR;(try dsimp only at nR);have hcv:=uS eZn nR.2.2.2.2;go_simp;try with_reducible rfl)}
 simp only[Act.put,xa,xb,xc];refine Iy (i:=19) (oi:=_) (v:=?_) (by simp only[uB,vF,vE];rfl) aU aU aU (λ_ _ _ h=>h) (Or.L ⟨aP,?_⟩) hS ?_;rotate_left;{(intro w' nR;(try dsimp only at nR);have hle:=aa HLE;go_simp;try with_reducible rfl)}
 simp only[Act.put,xa,xb,xc];refine gh 20 21 hS ?_;refine ga ?_;clear hS
 go_wp21
 go_meet;exact⟨rfl,ah BX y,IX.H y,NX.H y⟩};exact fI})
 obtain⟨rfl,pf,⟨i0,i1,i2,i3,i4,i5⟩,oU⟩:=hcut;have W:=af oU;obtain⟨c0,c1,c2,c3,c4,c5,c6,c7,-,-,-,-,-⟩:=oU;clear EV HA Hs NX IX BX;cases C with
 |true=>
  obtain rfl:B=dF:=by rw[hB];rfl
  clear hB eC;go_wp2;go_ret;exact⟨rfl,pf⟩
 |false=>
  rw[aU7,xm]at hB;have HB:=af hB;clear hB eC
  go_wp21
  let⟨pa,pb,pd,epp,Qm,hpm⟩:=W.k0;obtain⟨rfl,rfl,rfl⟩:=mg epp;have I6:O (gH wc (U (Q w)) e g x t (.S p n c) (.S (Ad b o) m d)):=⟨i0,i1,i2,i3,i4,i5⟩;have hcp:∀(vs:iA)(w:G),(callFunc 164 vs).run dG w=.ok (.enter 164 vs) w:=λvs w=>aU;have HCP:=af hcp;have nE:∀(vs:iA)(w:G),(callFunc 163 vs).run dG w=.ok (.enter 163 vs) w:=λvs w=>aU;have ru:=af nE;have HBN:O (aA (im u.A)/\∀u∈ns,aA u.A):=⟨Ud Fm,λu h=>(aa cW u h).1⟩;clear i0 i1 i2 i3 i4 i5 c0 c1 c2 c3 c4 c5 c6 c7 hcp nE;let⟨C2,eC2⟩:=aZ (pI ns (im u.A));have EC2:=af eC2;obtain⟨C3,Lv⟩:∃C3,(!(C2&&dD (J u.V<=40)))=C3:=⟨_,rfl⟩;have fw:B=(!C3&&((u.D==0||live ss u.D)&&(rK ss u.y&&(rK ss u.X&&qx e g u.M (J u.y) u.P u.F)))):=by rw[aa HB,eC2,<-Lv,aU8,Bool.and_assoc]
  rw[aa Nz]at Lv;clear eC2 HB
  go_cut[44](λrv w'=>rv=jO C3/\Bw w w'/\gH w' (U (Q w)) e g x t (.S p n c) (.S (Ad b o) m d)/\Hl w' (U (Q w)+1) 0 u (.S pp pn pc) (.S JS vn vc) (.S hp hh hc) (.S up un uc))
  case first=>(
 clear fw;cases C2 with
 |false=>
  obtain rfl:C3:=by rw[<-Lv];rfl
  clear Lv;refine fK (λw'=>gH w' (U (Q w)) e g x t (.S p n c) (.S (Ad b o) m d)/\I w' (Ax w 0)=dS pp pn pc/\I w' (Ax w 1)=dS JS vn vc) (by exact⟨I6,W.c0,W.c1⟩) λhS=>?_;refine gh 0 1 hS ?_;refine tn 2 hS ?_;refine ry [3] ?_;refine cn (λKK hK=>?_) ?_;{
 refine Ic aP aP aP (λ_=>aa HCP _ _) (XX we (by exact W.r0) Dt Qm hpm) ?_;rintro r w2⟨q',m',d',rfl,Nu,Gl,Yq,N⟩;refine⟨_,rfl,?_⟩;have y:Bw wc w2:=ah (aR (U (Q wc)) wc).drew N;refine bQ hK (by exact⟨I6.H y,aj W.c0 y,aj W.c1 y⟩) λhS=>?_;clear hK KK;refine ft 4 λKK hK=>?_;refine Tz aP aP aP aP (λ_=>aa ru _ _) (ap1 em Nu (aa HR _ (ah pf y)).2 Yq hm ae HBN EC2) ?_;rintro r w3⟨rfl,aE⟩;refine⟨_,rfl,?_⟩;have cG:Bw wc w3:=ah y aE;refine bQ hK (by exact⟨I6.H cG,aj W.c0 cG,aj W.c1 cG⟩) λhS=>?_;clear hK KK;refine gh 5 6 hS ?_;refine lT 7 8 9 10 hS ?_;refine tn 11 hS ?_;refine ga ?_;clear hS
 go_wp21
 go_meet;exact⟨rfl,ah pf cG,I6.H cG,W.H cG⟩};exact fI
 |true=>
  by_cases h40:vn<=40;{
 obtain rfl:C3=dF:=by rw[<-Lv];simp[h40]
 have eb1:¬(40:Int)<(vn:Int):=ae;clear Lv;refine fK (λw'=>gH w' (U (Q w)) e g x t (.S p n c) (.S (Ad b o) m d)/\I w' (Ax w 0)=dS pp pn pc/\I w' (Ax w 1)=dS JS vn vc) (by exact⟨I6,W.c0,W.c1⟩) λhS=>?_;refine gh 0 1 hS ?_;refine tn 2 hS ?_;refine ft 3 λKK hK=>?_;refine Ic aP aP aP (λ_=>aa HCP _ _) (XX we (by exact W.r0) Dt Qm hpm) ?_;rintro r w2⟨q',m',d',rfl,Nu,Gl,Yq,N⟩;refine⟨_,rfl,?_⟩;have y:Bw wc w2:=ah (aR (U (Q wc)) wc).drew N;refine bQ hK (by exact⟨I6.H y,aj W.c0 y,aj W.c1 y⟩) λhS=>?_;clear hK KK;refine ft 4 λKK hK=>?_;refine Tz aP aP aP aP (λ_=>aa ru _ _) (ap1 em Nu (aa HR _ (ah pf y)).2 Yq hm ae HBN EC2) ?_;rintro r w3⟨rfl,aE⟩;refine⟨_,rfl,?_⟩;have cG:Bw wc w3:=ah y aE;refine bQ hK (by exact⟨I6.H cG,aj W.c0 cG,aj W.c1 cG⟩) λhS=>?_;clear hK KK;refine iL 5 6 7 8 hS ?_;refine gh 9 10 hS ?_;refine tn 11 hS ?_;refine ga ?_;clear hS
 go_wp21
 go_meet;exact⟨rfl,ah pf cG,I6.H cG,W.H cG⟩};{
 obtain rfl:C3:=by rw[<-Lv];simp[h40]
 have eb1:=rr 40 vn;clear Lv;refine fK (λw'=>gH w' (U (Q w)) e g x t (.S p n c) (.S (Ad b o) m d)/\I w' (Ax w 0)=dS pp pn pc/\I w' (Ax w 1)=dS JS vn vc) (by exact⟨I6,W.c0,W.c1⟩) λhS=>?_;refine gh 0 1 hS ?_;refine tn 2 hS ?_;refine ry [3] ?_;refine cn (λKK hK=>?_) ?_;{
 refine Ic aP aP aP (λ_=>aa HCP _ _) (XX we (by exact W.r0) Dt Qm hpm) ?_;rintro r w2⟨q',m',d',rfl,Nu,Gl,Yq,N⟩;refine⟨_,rfl,?_⟩;have y:Bw wc w2:=ah (aR (U (Q wc)) wc).drew N;refine bQ hK (by exact⟨I6.H y,aj W.c0 y,aj W.c1 y⟩) λhS=>?_;clear hK KK;refine ft 4 λKK hK=>?_;refine Tz aP aP aP aP (λ_=>aa ru _ _) (ap1 em Nu (aa HR _ (ah pf y)).2 Yq hm ae HBN EC2) ?_;rintro r w3⟨rfl,aE⟩;refine⟨_,rfl,?_⟩;have cG:Bw wc w3:=ah y aE;refine bQ hK (by exact⟨I6.H cG,aj W.c0 cG,aj W.c1 cG⟩) λhS=>?_;clear hK KK;refine iL 5 6 7 8 hS ?_;refine gh 9 10 hS ?_;refine tn 11 hS ?_;refine ga ?_;clear hS
 go_wp21
 go_meet;exact⟨rfl,ah pf cG,I6.H cG,W.H cG⟩};exact fI})
  obtain⟨rfl,YU,⟨i0,i1,i2,i3,i4,i5⟩,cj6⟩:=hcut;have qi:=af cj6;obtain⟨c0,c1,c2,c3,c4,c5,c6,c7,-,-,-,-,-⟩:=cj6;clear I6 W HCP ru HBN EC2 Lv;cases C3 with
  |true=>
   obtain rfl:B=dF:=by rw[fw];rfl
   clear fw;go_wp2;go_ret;exact⟨rfl,YU⟩
  |false=>
   rw[aU7,xm]at fw;let⟨ow,eo⟩:=aZ u.D;rw[eo]at fw c2;clear eo;by_cases ho:ow=0;{
 subst ho;have qj:O (B=(rK ss u.y&&(rK ss u.X&&qx e g u.M (J u.y) u.P u.F))):=fw;clear fw;let⟨T1,Rv⟩:=aZ (rK ss u.y);let⟨T2,Cu⟩:=aZ (rK ss u.X);let⟨T3,GO⟩:=aZ (qx e g u.M hh u.P u.F);have ET1:=af Rv;have ET2:=af Cu;have ET3:=af GO;have yk:O (B=(T1&&(T2&&T3))):=by show _=_;rw[aa qj,Rv,Cu,aa Bj,GO]
 clear Rv Cu GO qj
 go_wp21
 refine cK (ap0 en Bj (aa HR _ YU).1 qi.r4 hn Ey ET1) λwa D=>?_;have Ba:=ah YU D;have HNa:=af (qi.H D);cases T1 with
 |false=>
  obtain rfl:B=dF:=by rw[aa yk];rfl
  clear yk;go_wp2;go_ret;exact⟨rfl,Ba⟩
 | true=>
  have a0:=aj i0 D;have a1:=aj i1 D;have a2:=aj i2 D;have a3:=aj i3 D;have a4:=aj i4 D;have a5:=aj i5 D;have d0:=aj c0 D;have d1:=aj c1 D;have d2:=aj c2 D;have d3:=aj c3 D;have d4:=aj c4 D;have d5:=aj c5 D;have d6:=aj c6 D;have d7:=aj c7 D;clear i0 i1 i2 i3 i4 i5 c0 c1 c2 c3 c4 c5 c6 c7 D
  go_wp21
  refine cK (ap0 en DI (aa HR _ Ba).1 HNa.r7 hn Es ET2) λwb M=>?_;have Bb:=ah Ba M;cases T2 with
  |false=>
   obtain rfl:B=dF:=by rw[aa yk];rfl
   clear yk;go_wp2;go_ret;exact⟨rfl,Bb⟩
  |true=>
   obtain rfl:B=T3:=by rw[aa yk];rfl
   have f0:=aj a0 M;have f1:=aj a1 M;have f2:=aj a2 M;have f3:=aj a3 M;have f4:=aj a4 M;have f5:=aj a5 M;have g0:=aj d0 M;have g1:=aj d1 M;have g2:=aj d2 M;have g3:=aj d3 M;have g4:=aj d4 M;have g5:=aj d5 M;have g6:=aj d6 M;have g7:=aj d7 M;clear a0 a1 a2 a3 a4 a5 d0 d1 d2 d3 d4 d5 d6 d7 M yk
   go_wp21
   refine cK (cd8 Ey ET3) λwd YT=>?_;have Bd:=ah Bb YT;clear YT f0 f1 f2 f3 f4 f5 g0 g1 g2 g3 g4 g5 g6 g7;go_wp2;go_ret;exact⟨rfl,Bd⟩};{
 have hod:(ow==0)=dF:=by simp[ho]
 have fi1:(ow != 0):=by simp[ho]
 rw[hod,Uq]at fw;let⟨L,eL⟩:=aZ (live ss ow);have EL:O ((ss.any λs=>s.1==ow)=L):=eL;rw[eL]at fw;have qj:=af fw;clear fw eL
 go_wp21
 refine cK (Ya en (aa HR _ YU).1 hn EL) λw2 N=>?_;have b2:=ah YU N;cases L with
 |false=>
  obtain rfl:B=dF:=by rw[aa qj];rfl
  clear qj;go_wp2;go_ret;exact⟨rfl,b2⟩
 | true=>
  have qj:O (B=(rK ss u.y&&(rK ss u.X&&qx e g u.M (J u.y) u.P u.F))):=aa qj;have Ov:=af (qi.H N);replace i0:=aj i0 N;replace i1:=aj i1 N;replace i2:=aj i2 N;replace i3:=aj i3 N;replace i4:=aj i4 N;replace i5:=aj i5 N;replace c0:=aj c0 N;replace c1:=aj c1 N;replace c2:=aj c2 N;replace c3:=aj c3 N;replace c4:=aj c4 N;replace c5:=aj c5 N;replace c6:=aj c6 N;replace c7:=aj c7 N;clear N;let⟨T1,Rv⟩:=aZ (rK ss u.y);let⟨T2,Cu⟩:=aZ (rK ss u.X);let⟨T3,GO⟩:=aZ (qx e g u.M hh u.P u.F);have ET1:=af Rv;have ET2:=af Cu;have ET3:=af GO;have yk:O (B=(T1&&(T2&&T3))):=by show _=_;rw[aa qj,Rv,Cu,aa Bj,GO]
  clear Rv Cu GO qj
  go_wp21
  refine cK (ap0 en Bj (aa HR _ b2).1 Ov.r4 hn Ey ET1) λwa D=>?_;have Ba:=ah b2 D;have HNa:=af (Ov.H D);cases T1 with
  |false=>
   obtain rfl:B=dF:=by rw[aa yk];rfl
   clear yk;go_wp2;go_ret;exact⟨rfl,Ba⟩
  | true=>
   have a0:=aj i0 D;have a1:=aj i1 D;have a2:=aj i2 D;have a3:=aj i3 D;have a4:=aj i4 D;have a5:=aj i5 D;have d0:=aj c0 D;have d1:=aj c1 D;have d2:=aj c2 D;have d3:=aj c3 D;have d4:=aj c4 D;have d5:=aj c5 D;have d6:=aj c6 D;have d7:=aj c7 D;clear i0 i1 i2 i3 i4 i5 c0 c1 c2 c3 c4 c5 c6 c7 D
   go_wp21
   refine cK (ap0 en DI (aa HR _ Ba).1 HNa.r7 hn Es ET2) λwb M=>?_;have Bb:=ah Ba M;cases T2 with
   |false=>
    obtain rfl:B=dF:=by rw[aa yk];rfl
    clear yk;go_wp2;go_ret;exact⟨rfl,Bb⟩
   |true=>
    obtain rfl:B=T3:=by rw[aa yk];rfl
    have f0:=aj a0 M;have f1:=aj a1 M;have f2:=aj a2 M;have f3:=aj a3 M;have f4:=aj a4 M;have f5:=aj a5 M;have g0:=aj d0 M;have g1:=aj d1 M;have g2:=aj d2 M;have g3:=aj d3 M;have g4:=aj d4 M;have g5:=aj d5 M;have g6:=aj d6 M;have g7:=aj d7 M;clear a0 a1 a2 a3 a4 a5 d0 d1 d2 d3 d4 d5 d6 d7 M yk
    go_wp21
    refine cK (cd8 Ey ET3) λwd YT=>?_;have Bd:=ah Bb YT;clear YT f0 f1 f2 f3 f4 f5 g0 g1 g2 g3 g4 g5 g6 g7;go_wp2;go_ret;exact⟨rfl,Bd⟩}
def mY(e g x t:Int)(ss:List aC)(ns:List au):Bool:=
 dD (e<=2^62/\g<=2^62/\x<=2^62/\0<=t/\t<=1000000/\J ss<=50/\J ns<=200)&&((jR (J ss)).all (xG x ss)&&(jR (J ns)).all (vD e g ss ns))
theorem aL2(en:Le ss n)(em:Le ns m)(h:mX w (.S p n c) ss)(hN:iy w (.S q m d) ns)(hn:Mg n)(hm:Mg m)(gy:O (Bs ss))(cW:O (Bn ns))(eB:O (mY e g x t ss ns=B)):dQ dG 51 #[bS e g x t (.S p n c) (.S q m d)] w (Rb (jO B) w):=by
 have HR:=af λ(w':G)(hb:Bw w w')=>aD (h.H hb) (hN.H hb);have r:Bw w (jA w (dO #[.U e,.U g,.U x,.I t,.S p n c,.S q m d] 34)):=aH.alloc az _;have hB:B=(dD (e<=2^62/\g<=2^62/\x<=2^62/\0<=t/\t<=1000000/\n<=50/\m<=200)&&((jR n).all (xG x ss)&&(jR m).all (vD e g ss ns))):=by rw[<-aa eB,mY,aa en,aa em]
 have i:=af hB;clear h hN hB eB;by_cases h0:4611686018427387904<e;{
 have o:B=dF:=by rw[aa i,Di];exact .L (Cb (λM=>ae))
 subst o;clear i;go_in;go_wp2;go_ret;exact⟨rfl,r⟩};{
 have q0:e<=2^62:=ae;by_cases h1:4611686018427387904<g;{
 have o:B=dF:=by rw[aa i,Di];exact .L (Cb (λM=>ae))
 subst o;clear i;go_in;go_wp2;go_ret;exact⟨rfl,r⟩};{
 have q1:g<=2^62:=ae;by_cases h2:4611686018427387904<x;{
 have o:B=dF:=by rw[aa i,Di];exact .L (Cb (λM=>ae))
 subst o;clear i;go_in;go_wp2;go_ret;exact⟨rfl,r⟩};{
 have q2:x<=2^62:=ae;by_cases h3:t<0;{
 have o:B=dF:=by rw[aa i,Di];exact .L (Cb (λM=>ae))
 subst o;clear i;go_in;go_wp2;go_ret;exact⟨rfl,r⟩};{
 have q3:0<=t:=ae;by_cases h4:1000000<t;{
 have o:B=dF:=by rw[aa i,Di];exact .L (Cb (λM=>ae))
 subst o;clear i;go_in;go_wp2;go_ret;exact⟨rfl,r⟩};{
 have q4:t<=1000000:=ae;by_cases h5:(50:Int)<(n:Int);{
 have o:B=dF:=by rw[aa i,Di];exact .L (Cb (λM=>ae))
 subst o;clear i;go_in;go_wp2;go_ret;exact⟨rfl,r⟩};{
 have q5:n<=50:=ae;by_cases h6:(200:Int)<(m:Int);{
 have o:B=dF:=by rw[aa i,Di];exact .L (Cb (λM=>ae))
 subst o;clear i;go_in;go_wp2;go_ret;exact⟨rfl,r⟩};{
 have q6:m<=200:=ae;have mL:O (B=((jR n).all (xG x ss)&&(jR m).all (vD e g ss ns))):=by show _=_;rw[aa i,Df ⟨q0,q1,q2,q3,q4,q5,q6⟩,xm]
 clear i;go_in
 go_wp21
 let⟨W,Z⟩:=aF (jA w (dO #[.U e,.U g,.U x,.I t,.S p n c,.S q m d] 34));have AL:gH W (U (Q w)) e g x t (.S p n c) (.S q m d):=by rw[Z];simp[gH]
 rw[<-Z]at r⊢;clear Z;have BW:=af r;have Fl:=af AL;clear r AL
 go_loopw[3](λy wr=>∃k:Nat,k<=n/\y=.I k/\O ((jR k).all (xG x ss))/\Bw W wr) (λy _=>n-(jN (intOf y)))
 exact⟨0,cT _,rfl,cO,aR _ _⟩;{
 obtain⟨k,hk,rfl,N,s⟩:=hrel;have u:=ah BW s;have i0:=Fl.H s;by_cases V:k<n;{
 have cM:=bR k n;let⟨T,D⟩:=aZ (xG x ss k);have ET:=af D
 go_wp21
 refine cK (dD7 en (aa HR _ u).1 hn V gy ET) λw2 R=>?_;cases T with
 |false=>
  obtain rfl:B=dF:=by rw[aa mL,Ik V D];rfl
  have E:=ah u R;go_wp2;go_ret;exact⟨rfl,E⟩
 |true=>
  have X:=af (Fz N D);have E:=ah s R;go_wp2;go_roundw;exact⟨k+1,ae,by go_num,X,E⟩;exact dh};{
 have cM:=fG k n;have DG:k=n:=ae;have qj:O (B=(jR m).all (vD e g ss ns)):=by show _=_;rw[aa mL,show(jR n).all (xG x ss)=dY from DG▸aa N,xm]
 have xD:=af (Fl.H s)
 go_wp21
 let⟨iY,eY⟩:=aF wr;subst eY;have BY:=af u
 go_loopw[4](λy wr=>∃k:Nat,k<=m/\y=.I k/\O ((jR k).all (vD e g ss ns))/\Bw iY wr) (λy _=>m-(jN (intOf y)))
 exact⟨0,cT _,rfl,cO,aR _ _⟩;{
 obtain⟨j,hk,rfl,N,s⟩:=hrel;have u:=ah BY s;have i0:=xD.H s;by_cases V:j<m;{
 have cM:=bR j m;let⟨T,D⟩:=aZ (vD e g ss ns j);have ET:=af D
 go_wp21
 refine cK (dD8 en em (aa HR _ u).1 (aa HR _ u).2 hn hm V cW ET) λw2 R=>?_;cases T with
 |false=>
  obtain rfl:B=dF:=aa qj▸Ik V D;have E:=ah u R;go_wp2;go_ret;exact⟨rfl,E⟩
 |true=>
  have X:=af (Fz N D);have E:=ah s R;go_wp2;go_roundw;exact⟨j+1,ae,by go_num,X,E⟩;exact dh};{
 have cM:=fG j m;have ekm:j=m:=ae;obtain rfl:B:=by rw[aa qj,<-ekm];exact aa N
 go_wp2;go_ret;exact⟨rfl,u⟩}}}}}}}}}}}
def Jo(x y:Int):Int:=if x<y then -1 else if y<x then 1 else 0
theorem cf2:dQ dG 201 #[.U x] w λe w'=>e=dR (jO dF)/\w'=w:=by
 go_in;go_wp2;go_ret;refine⟨?_,rfl⟩;simp
theorem cE2:dQ dG 148 #[.U x,.U y] w λe w'=>e=dR (.I (Jo x y))/\w'=w:=by
 let⟨C,j⟩:=aZ (Jo x y);rw[j];have m:=af j;clear j;go_in
 go_wp21
 refine(cf2).h ?_;rintro e r⟨rfl,rfl⟩
 go_wp21
 refine(cf2).h ?_;rintro e q⟨rfl,rfl⟩;by_cases i:x<y;{
 obtain rfl:C=-1:=by rw[<-aa m];rw[Jo,aK i]
 go_wp2;go_ret;exact⟨rfl,rfl⟩};{
 by_cases o:y<x;{
 obtain rfl:C=1:=by rw[<-aa m];rw[Jo,aJ i,aK o]
 go_wp2;go_ret;exact⟨rfl,rfl⟩};{
 obtain rfl:C=0:=by rw[<-aa m];rw[Jo,aJ i,aJ o]
 go_wp2;go_ret;exact⟨rfl,rfl⟩}}
theorem bR1(h:Rd w (.S p (J l) c) l):(Extern.Bytes.bytesOf (.S p (J l) c)).run dG w=.ok ⟨(Lib.bytesOf l).toArray⟩ w:=by
 cases p with
 |none=>
  obtain rfl:=h.Xm;simp only[Extern.Bytes.bytesOf,Xx];rfl
 |some a=>
  let⟨q,i,o⟩:=h.news;have:=Lib.run_loadBytesX (P:=dG) w l a .empty (λj x m=>i j _ (by rw[qI,m];rfl));simp only[Extern.Bytes.bytesOf];rw[this];congr 1;apply ca0;simp
theorem dj9{m:LI}(h:Rd w (.S p (J l) c) l)(k:Rd w (.S q (J m) d) m):(Extern.BytealgCompare.compare #[.S p (J l) c,.S q (J m) d]).run dG w=.ok (.I (Lib.compareBytes (Lib.bytesOf l) (Lib.bytesOf m))) w:=by
 change Sem.run dG (do pure (goInt (Extern.BytealgCompare.cmp (<-Extern.Bytes.bytesOf (.S p (J l) c)) (<-Extern.Bytes.bytesOf (.S q (J m) d))))) w=_
 simp only[Mn,bR1 h,bR1 k,Xx,Result.andThen];rw[Lib.cmp_eq];rfl
def ZP(l m:LI):Int:=Lib.compareBytes (Lib.bytesOf l) (Lib.bytesOf m)
theorem cE4:∀(a b:List UInt8),(0<=Lib.compareBytes a b)=(Op.bytesLess b a=dY\/b=a)
 |[],[]=>by simp[Lib.compareBytes]
 |[],_::_=>by simp[Lib.compareBytes,Op.bytesLess]
 |_::_,[]=>by simp[Lib.compareBytes,Op.bytesLess]
 |x::a,y::b=>by
  have m:=cE4 a b;rw[Lib.compareBytes,Op.bytesLess];by_cases i:x<y;{
 have j:¬y<x:=λh=>aU6 _ (UInt8.lt_trans i h);have o:¬y=x:=λh=>by subst h;exact aU6 _ i
 simp[i,j,o]};{by_cases j:y<x;{simp[i,j]};{obtain rfl:y=x:=UInt8.le_antisymm (aU5.1 i) (aU5.1 j);simp only[i,Ap,m];simp}}
theorem ev9(l m:LI):dD (0<=ZP l m)=leB m l:=by
 rw[leB,Cv,Cv,PQ,vK,ZP,cE4];simp only[PG,Ee];exact Iff.rfl
theorem ev6{m:LI}(r:Le l n)(o:Le m k)(j:Rd w (.S p n c) l)(i:Rd w (.S q k d) m):dQ dG 152 #[.S p n c,.S q k d] w λe w'=>e=dR (.I (ZP l m))/\w'=w:=by
 have u:=aa r;have s:=aa o;subst u s;go_in;go_wp2;rw[FR func205 aU aU aU (e:=Extern.BytealgCompare.compare) aU,dj9 j i];simp only[Result.andThen];rw[Oper.upon_value];go_wp2;go_ret;exact⟨rfl,rfl⟩
theorem aK3{iZ:iE}(iq:o.guard=dN){f:FuncId}{x0 x1 x2:Operand} (ho:o.op=.call {callee:=.value x0,args:=#[x1,x2],argTypes:=sX}){v1 v2:dV}(h0:a.eval x0=.func (.func f) #[] #[])(h1:a.eval x1=v1)(h2:a.eval x2=v2)(kn:∀vs,(callFunc f vs).run P w=.ok (.enter f vs) w)(hc:dQ P f #[v1,v2] w R)(hR:∀e w',R e w'->∃v,e=dR v/\K (a.put o.dst v) w'):if jW o (yielded ops a.tmps)then Oper.wp P o a w K iZ else E:=by
 have hw:jW o (yielded ops a.tmps):=by simp[jW,iq]
 rw[aK hw];have fW:(execOp a.eval o).run P w=.ok (.enter f #[v1,v2]) w:=by subst h1 h2;unfold execOp;simp[ho,resolve,invoke,kn,h0,Deferred.ofValue,Mn,Xx,Result.andThen]
 show o.upon P a K iZ _;rw[fW,Mo];refine hc.h ?_;intro e w' h;obtain⟨v,rfl,hk⟩:=hR e w' h;exact hk
def vj(n:Nat)(j:Nat->Nat->Bool):Bool:=(jR n).all λi=>i==0||j (i-1) i
theorem bw6(h:(jR k).all f)(j:n<=k):(jR n).all f:=by
 rw[lW]at h⊢;exactλi m=>h i (xl.2 (mj (xl.1 m) j))
theorem ew5{j r i q:Int}{o m:dV}:dQ dG 147 #[jP #[.U j,.I r,o],jP #[.U i,.I q,m]] w (Rb (.I (Jo j i)) w):=by
 go_in
 go_wp21
 refine(cE2).h ?_;rintro e s⟨rfl,rfl⟩;go_wp2;go_ret;exact⟨rfl,(aH.alloc az _).alloc ai _⟩
theorem ew6{i p2:OA}{j c2 n1 n2:Nat}{l1 l2:LI}(e1:Le l1 n1)(e2:Le l2 n2){D B V R M E:dV}{o1 o2 s r q o y x:Int}(Z:Rd w (.S i n1 j) l1)(X:Rd w (.S p2 n2 c2) l2):dQ dG 151 #[Ka (.S i n1 j) D o1 s V q y M,Ka (.S p2 n2 c2) B o2 r R o x E] w (Rb (.I (ZP l1 l2)) w):=by
 have N:=af λ(W:G)(u:Bw w W)=>aD (Z.H u) (X.H u);go_in
 go_wp21
 have m:Bw w (jA (jA w (dO #[.S i n1 j,D,.U o1,.I s,V,.U q,.U y,M] 69)) (dO #[.S p2 n2 c2,B,.U o2,.I r,R,.U o,.U x,E] 69)):=(aH.alloc az _).alloc ai _;refine(ev6 e1 e2 (aa N _ m).1 (aa N _ m).2).h ?_;rintro e w1⟨rfl,rfl⟩;go_wp2;go_ret;exact⟨rfl,m⟩
theorem cH8(Z:Le l n)(h:RdU w (.S p n c) l)(hn:Mg n)(eB:O (vj n (λi j=>dD (jE l i 0<jE l j 0))=B)):dQ dG 204 #[.S p n c,.func (.func 148) #[] #[]] w (Rb (jO B) w):=by
 have HR:=af λ(w':G)(hb:Bw w w')=>h.H hb;have kn:∀(vs:iA)(w:G),(callFunc 148 vs).run dG w=.ok (.enter 148 vs) w:=λvs w=>aU;have Hx:=af kn;go_in
 go_wp21
 go_loopw[5](λm wr=>∃k:Nat,1<=k/\(k<=n\/k=1)/\m=.I k/\O ((jR k).all (λi=>i==0||(λi j=>dD (jE l i 0<jE l j 0)) (i-1) i))/\Bw w wr) (λm _=>n-(jN (intOf m)))
 exact⟨1,fq _,.R rfl,rfl,cO,aR _ _⟩;{
 obtain⟨k,iV,Kz,rfl,V,s⟩:=hrel;by_cases q:k<n;{
 have cM:=bR k n;have db:k<J l:=aa Z▸q;obtain⟨j,ej⟩:∃j:Nat,(k:Int)-1=(j:Int):=⟨k-1,ae⟩;have DH:k-1=j:=ae;have qM:j<J l:=ae;have QC:=bR j n;have YD:=gr 0 j;have wj:=iw j;obtain⟨b,o,rfl,M⟩:∃b o,p=(Ad b o)/\∀i,i<n->I wr (Ad b (o+i))=dU (jE l i 0):=by let⟨p',c',ev,hd⟩:=aa HR _ s;obtain⟨rfl,-,-⟩:=mg ev;obtain h0|⟨b,o,h1,h2⟩:=hd;{rw[h0]at db;simp at db};{exact⟨b,o,h1,λi hi=>h2 i (aa Z▸hi)⟩}
 have u:=M k q;have U7:=M j ae;let⟨y,X⟩:=aZ (jE l k 0);let⟨z,W⟩:=aZ (jE l j 0);rw[X]at u;rw[W]at U7;have K0:=br U7 u;let⟨C,eC⟩:=aZ (Jo z y);have N:((k==0)||(λi j=>dD (jE l i 0<jE l j 0)) (k-1) k)=!dD (0<=C):=by rw[show(k==0)=dF by simp;omega,Uq,DH];show dD (jE l j 0<jE l k 0)=_;rw[X,W,<-eC,Jo];by_cases h1:z<y;{simp[h1]};{by_cases h2:y<z;{simp[h1,h2]};{simp[h1,h2]}}
 have hF:dD (0<=C)->B=dF:=λh=>by rw[<-aa eB,vj];exact Ik q (by rw[N,h];rfl)
 have hT:dD (0<=C)=dF->O ((jR (k+1)).all (λi=>i==0||(λi j=>dD (jE l i 0<jE l j 0)) (i-1) i)):=λh=>Fz V (by rw[N,h];rfl);have EC:=af eC;obtain⟨D,eD⟩:∃D,dD (0<=C)=D:=⟨_,rfl⟩;have HF:=af (λh:D=dY=>hF (eD.Z h));have HT:=af (λh:D=dF=>hT (eD.Z h))
 go_wp21
 go_cut[23](λrv wc=>rv=jO D/\Bw w wc)
 case first=>(
 refine fK (λw'=>I w' (Ad b (o+j))=dU z/\I w' (Ad b (o+k))=dU y) (by exact K0) λhS=>?_;refine jh 0 1 2 3 4 5 6 7 hS ?_;refine gh 8 9 hS ?_;refine ry [10] ?_;refine cn (λKK hK=>?_) ?_;{
 refine aK3 aP aP aP aP aP (λ_=>aa Hx _ _) (cE2) ?_;rintro r w2⟨rfl,rfl⟩;refine⟨_,rfl,?_⟩;have aQ:Bw wr wr.drew:=aH.drew;rw[aa EC];refine bQ hK hS λhS=>?_;refine tn 11 hS ?_;refine ga ?_
 go_wp21
 go_meet;exact⟨rfl,ah s aQ⟩};exact fI)
 obtain⟨rfl,x⟩:=hcut;cases D with
 |true=>
  obtain rfl:=aa HF rfl;go_wp2;go_ret;exact⟨rfl,x⟩
 |false=>
  have lh:=aa HT rfl;go_wp2;go_roundw;exact⟨k+1,ae,.L ae,by go_num,lh,x⟩;exact dh};{
 have cM:=fG k n;have eT:B:=by rw[<-aa eB,vj];exact bw6 V ae
 subst eT;go_wp2;go_ret;exact⟨rfl,s⟩}}
theorem eC9{l:List aC}(en:Le l n)(h:mX w (.S p n c) l)(hn:Mg n)(eB:O (vj n (λi j=>dD ((jE l i (0,0,[])).1<(jE l j (0,0,[])).1))=B)):dQ dG 146 #[.S p n c,.func (.func 147) #[] #[]] w (Rb (jO B) w):=by
 have HR:=af λ(w':G)(hb:Bw w w')=>h.H hb;have kn:∀(vs:iA)(w:G),(callFunc 147 vs).run dG w=.ok (.enter 147 vs) w:=λvs w=>aU;have Hx:=af kn;go_in
 go_wp21
 go_loopw[5](λq wr=>∃k:Nat,1<=k/\(k<=n\/k=1)/\q=.I k/\O ((jR k).all (λi=>i==0||(λi j=>dD ((jE l i (0,0,[])).1<(jE l j (0,0,[])).1)) (i-1) i))/\Bw w wr) (λq _=>n-(jN (intOf q)))
 exact⟨1,fq _,.R rfl,rfl,cO,aR _ _⟩;{
 obtain⟨k,iV,Kz,rfl,fk,x⟩:=hrel;by_cases aL:k<n;{
 have cM:=bR k n;have s:k<J l:=aa en▸aL;obtain⟨j,ej⟩:∃j:Nat,(k:Int)-1=(j:Int):=⟨k-1,ae⟩;have DH:k-1=j:=ae;have qM:j<J l:=ae;have QC:=bR j n;have YD:=gr 0 j;have wj:=iw j;let⟨⟨y,N,yq⟩,X⟩:=sj s;let⟨⟨z,M,zq⟩,W⟩:=sj qM;obtain⟨b,o,rfl,⟨y1,y2,yu,y3,-⟩,z1,z2,zu,z3,-⟩:∃b o,p=(Ad b o)/\(I wr (Ad b (o+k*3))=dU y/\I wr (Ad b (o+k*3+1))=dI N/\∃u,I wr (Ad b (o+k*3+2))=Y u/\vo wr u yq)/\(I wr (Ad b (o+j*3))=dU z/\I wr (Ad b (o+j*3+1))=dI M/\∃u,I wr (Ad b (o+j*3+2))=Y u/\vo wr u zq):=by let⟨p',c',ev,hd⟩:=aa HR _ x;obtain⟨rfl,-,-⟩:=mg ev;obtain h0|⟨b,o,h1,h2⟩:=hd;{rw[h0]at s;simp at s};{exact⟨b,o,h1,h2 k _ X,h2 j _ W⟩}
 have ey:(jE l k (0,0,[])).1=y:=by rw[iR,X];rfl
 have ez:(jE l j (0,0,[])).1=z:=by rw[iR,W];rfl
 have K0:=Sh z1 z2 z3 y1 y2 y3;let⟨C,eC⟩:=aZ (Jo z y);have Z:((k==0)||(λi j=>dD ((jE l i (0,0,[])).1<(jE l j (0,0,[])).1)) (k-1) k)=!dD (0<=C):=by rw[show(k==0)=dF by simp;omega,Uq,DH];show dD ((jE l j (0,0,[])).1<(jE l k (0,0,[])).1)=_;rw[ey,ez,<-eC,Jo];by_cases h1:z<y;{simp[h1]};{by_cases h2:y<z;{simp[h1,h2]};{simp[h1,h2]}}
 have hF:dD (0<=C)->B=dF:=λh=>by rw[<-aa eB,vj];exact Ik aL (by rw[Z,h];rfl)
 have hT:dD (0<=C)=dF->O ((jR (k+1)).all (λi=>i==0||(λi j=>dD ((jE l i (0,0,[])).1<(jE l j (0,0,[])).1)) (i-1) i)):=λh=>Fz fk (by rw[Z,h];rfl);have EC:=af eC;obtain⟨D,eD⟩:∃D,dD (0<=C)=D:=⟨_,rfl⟩;have HF:=af (λh:D=dY=>hF (eD.Z h));have HT:=af (λh:D=dF=>hT (eD.Z h))
 go_wp21
 go_cut[23](λrv wc=>rv=jO D/\Bw w wc)
 case first=>(
 refine fK (λw'=>I w' (Ad b (o+j*3))=dU z/\I w' (Ad b (o+j*3+1))=dI M/\I w' (Ad b (o+j*3+2))=zu/\I w' (Ad b (o+k*3))=dU y/\I w' (Ad b (o+k*3+1))=dI N/\I w' (Ad b (o+k*3+2))=yu) (by exact K0) λhS=>?_;refine jh 0 1 2 3 4 5 6 7 hS ?_;refine gh 8 9 hS ?_;refine ry [10] ?_;refine cn (λKK hK=>?_) ?_;{
 refine aK3 aP aP aP aP aP (λ_=>aa Hx _ _) (ew5) ?_;rintro r w2⟨rfl,ay⟩;refine⟨_,rfl,?_⟩;have m:Bw wr w2:=ah (aR (U (Q wr)) wr).drew ay;rw[aa EC];refine bQ hK (by obtain⟨k1,k2,k3,k4,k5,k6⟩:=aa K0;exact⟨aj k1 m,aj k2 m,aj k3 m,aj k4 m,aj k5 m,aj k6 m⟩) λhS=>?_;refine tn 11 hS ?_;refine ga ?_
 go_wp21
 go_meet;exact⟨rfl,ah x m⟩};exact fI)
 obtain⟨rfl,V⟩:=hcut;cases D with
 |true=>
  obtain rfl:=aa HF rfl;go_wp2;go_ret;exact⟨rfl,V⟩
 |false=>
  have lh:=aa HT rfl;go_wp2;go_roundw;exact⟨k+1,ae,.L ae,by go_num,lh,V⟩;exact dh};{
 have cM:=fG k n;have eT:B:=by rw[<-aa eB,vj];exact bw6 fk ae
 subst eT;go_wp2;go_ret;exact⟨rfl,x⟩}}
theorem eD0{l:List au}(en:Le l n)(h:iy w (.S p n c) l)(hn:Mg n)(eB:O (vj n (λi j=>!leB (jE l j jt).A (jE l i jt).A)=B)):dQ dG 150 #[.S p n c,.func (.func 151) #[] #[]] w (Rb (jO B) w):=by
 have HR:=af λ(w':G)(hb:Bw w w')=>h.H hb;have kn:∀(vs:iA)(w:G),(callFunc 151 vs).run dG w=.ok (.enter 151 vs) w:=λvs w=>aU;have Hx:=af kn;go_in
 go_wp21
 go_loopw[5](λZ wr=>∃k:Nat,1<=k/\(k<=n\/k=1)/\Z=.I k/\O ((jR k).all (λi=>i==0||(λi j=>!leB (jE l j jt).A (jE l i jt).A) (i-1) i))/\Bw w wr) (λZ _=>n-(jN (intOf Z)))
 exact⟨1,fq _,.R rfl,rfl,cO,aR _ _⟩;{
 obtain⟨k,iV,Kz,rfl,fk,aB⟩:=hrel;by_cases aL:k<n;{
 have cM:=bR k n;have db:k<J l:=aa en▸aL;obtain⟨j,ej⟩:∃j:Nat,(k:Int)-1=(j:Int):=⟨k-1,ae⟩;have DH:k-1=j:=ae;have qM:j<J l:=ae;have QC:=bR j n;have YD:=gr 0 j;have wj:=iw j;let⟨q,hy⟩:=sj db;let⟨s,hz⟩:=sj qM;obtain⟨b,o,rfl,hA⟩:=(aa HR _ aB).at ae;let⟨yP,yV,yH,yU,x⟩:=hA k _ hy;let⟨zP,zV,zH,zU,u⟩:=hA j _ hz;have ey:(jE l k jt).A=q.A:=by rw[iR,hy];rfl
 have ez:(jE l j jt).A=s.A:=by rw[iR,hz];rfl
 obtain⟨yp,yc,yn,rfl,eyn⟩:=x.r0.fO;obtain⟨zp,zc,zn,rfl,ezn⟩:=u.r0.fO;have RY:=af x.r0;have RZ:=af u.r0;obtain⟨y0,y1,y2,y3,y4,y5,y6,y7,-,-,-,-,-⟩:=x;obtain⟨z0,z1,z2,z3,z4,z5,z6,z7,-,-,-,-,-⟩:=u;obtain⟨yo,ym,ye,yg,e1,e2,e3,e4⟩:∃a b c d,q.D=a/\q.M=b/\q.P=c/\q.F=d:=⟨_,_,_,_,rfl,rfl,rfl,rfl⟩;obtain⟨zo,zm,ze,zg,f1,f2,f3,f4⟩:∃a b c d,s.D=a/\s.M=b/\s.P=c/\s.F=d:=⟨_,_,_,_,rfl,rfl,rfl,rfl⟩;rw[e1]at y2;rw[e2]at y3;rw[e3]at y5;rw[e4]at y6;rw[f1]at z2;rw[f2]at z3;rw[f3]at z5;rw[f4]at z6;have K0:=jq z0 z1 z2 (aD z3 (aD z4 (aD z5 (aD z6 (aD z7 (aD y0 (aD y1 (aD y2 (aD y3 (aD y4 (aD y5 (aD y6 y7))))))))))));let⟨C,eC⟩:=aZ (ZP s.A q.A);have gi:((k==0)||(λi j=>!leB (jE l j jt).A (jE l i jt).A) (k-1) k)=!dD (0<=C):=by rw[show(k==0)=dF by simp;omega,Uq,DH];show(!leB (jE l k jt).A (jE l j jt).A)=_;rw[ey,ez,<-eC,ev9]
 have hF:dD (0<=C)->B=dF:=λh=>by rw[<-aa eB,vj];exact Ik aL (by rw[gi,h];rfl)
 have hT:dD (0<=C)=dF->O ((jR (k+1)).all (λi=>i==0||(λi j=>!leB (jE l j jt).A (jE l i jt).A) (i-1) i)):=λh=>Fz fk (by rw[gi,h];rfl);have EC:=af eC;obtain⟨D,eD⟩:∃D,dD (0<=C)=D:=⟨_,rfl⟩;have HF:=af (λh:D=dY=>hF (eD.Z h));have HT:=af (λh:D=dF=>hT (eD.Z h))
 go_wp21
 go_cut[23](λrv wc=>rv=jO D/\Bw w wc)
 case first=>(
 refine fK (λw'=>I w' (Ad b (o+j*8))=dS zp zn zc/\I w' (Ad b (o+j*8+1))=zV/\I w' (Ad b (o+j*8+2))=dU zo/\I w' (Ad b (o+j*8+3))=dI zm/\I w' (Ad b (o+j*8+4))=zH/\I w' (Ad b (o+j*8+5))=dU ze/\I w' (Ad b (o+j*8+6))=dU zg/\I w' (Ad b (o+j*8+7))=zU/\I w' (Ad b (o+k*8))=dS yp yn yc/\I w' (Ad b (o+k*8+1))=yV/\I w' (Ad b (o+k*8+2))=dU yo/\I w' (Ad b (o+k*8+3))=dI ym/\I w' (Ad b (o+k*8+4))=yH/\I w' (Ad b (o+k*8+5))=dU ye/\I w' (Ad b (o+k*8+6))=dU yg/\I w' (Ad b (o+k*8+7))=yU) (by exact K0) λhS=>?_;refine jh 0 1 2 3 4 5 6 7 hS ?_;refine gh 8 9 hS ?_;refine ry [10] ?_;refine cn (λKK hK=>?_) ?_;{
 refine aK3 aP aP aP aP aP (λ_=>aa Hx _ _) (ew6 ezn eyn (RZ.H aH.drew) (RY.H aH.drew)) ?_;rintro r w2⟨rfl,ay⟩;refine⟨_,rfl,?_⟩;have m:Bw wr w2:=ah (aR (U (Q wr)) wr).drew ay;rw[aa EC];refine bQ hK (by obtain⟨k0,k1,k2,k3,k4,k5,k6,k7,k8,k9,X,W,V,N,M,y⟩:=aa K0;exact⟨aj k0 m,aj k1 m,aj k2 m,aj k3 m,aj k4 m,aj k5 m,aj k6 m,aj k7 m,aj k8 m,aj k9 m,aj X m,aj W m,aj V m,aj N m,aj M m,aj y m⟩) λhS=>?_;refine tn 11 hS ?_;refine ga ?_
 go_wp21
 go_meet;exact⟨rfl,ah aB m⟩};exact fI)
 obtain⟨rfl,pf⟩:=hcut;cases D with
 |true=>
  obtain rfl:=aa HF rfl;go_wp2;go_ret;exact⟨rfl,pf⟩
 |false=>
  have lh:=aa HT rfl;go_wp2;go_roundw;exact⟨k+1,ae,.L ae,by go_num,lh,pf⟩;exact dh};{
 have cM:=fG k n;have eT:B:=by rw[<-aa eB,vj];exact bw6 fk ae
 subst eT;go_wp2;go_ret;exact⟨rfl,aB⟩}}
def ur(w:G)(v:dV)(es:List Ev):Prop:=
 ∃(p:OA)(c:Nat),v=.S p (J es) c/\(es=[]\/∃b o,p=(Ad b o)/\∀i e,es[i]?=Y e->I w (Ad b (o+i*2))=dI e.1/\∃u,I w (Ad b (o+i*2+1))=Y u/\Rd w u e.2/\vr u)
theorem ur.rd(h:ur w v es):vo w v es:=by
 obtain⟨p,c,rfl,h⟩:=h;refine⟨p,c,rfl,?_⟩;obtain h|⟨b,o,rfl,h⟩:=h;{exact .L h};{refine .R ⟨b,o,rfl,λi e he=>?_⟩;let⟨q,u,m,j,_⟩:=h i e he;exact⟨q,u,m,j⟩}
theorem ur.H(h:ur w v es)(j:Bw w w'):ur w' v es:=by
 obtain⟨p,c,rfl,h⟩:=h;refine⟨p,c,rfl,?_⟩;obtain h|⟨b,o,rfl,h⟩:=h;{exact .L h};{refine .R ⟨b,o,rfl,λi e he=>?_⟩;let⟨s,u,r,q,m⟩:=h i e he;exact⟨aj s j,u,aj r j,q.H j,m⟩}
def mJ(w:G)(v:dV)(ss:List aC):Prop:=
 ∃(p:OA)(c:Nat),v=.S p (J ss) c/\(ss=[]\/∃b o,p=(Ad b o)/\∀i s,ss[i]?=Y s->I w (Ad b (o+i*3))=dU s.1/\I w (Ad b (o+i*3+1))=dI s.2.1/\∃u,I w (Ad b (o+i*3+2))=Y u/\ur w u s.2.2)
theorem mJ.rd(h:mJ w v ss):mX w v ss:=by
 obtain⟨p,c,rfl,h⟩:=h;refine⟨p,c,rfl,?_⟩;obtain h|⟨b,o,rfl,h⟩:=h;{exact .L h};{refine .R ⟨b,o,rfl,λi e he=>?_⟩;let⟨r,q,u,m,j⟩:=h i e he;exact⟨r,q,u,m,j.rd⟩}
theorem mJ.H(h:mJ w v ss)(j:Bw w w'):mJ w' v ss:=by
 obtain⟨p,c,rfl,h⟩:=h;refine⟨p,c,rfl,?_⟩;obtain h|⟨b,o,rfl,h⟩:=h;{exact .L h};{refine .R ⟨b,o,rfl,λi e he=>?_⟩;let⟨s,r,u,q,m⟩:=h i e he;exact⟨aj s j,aj r j,u,aj q j,m.H j⟩}
def ML(w:G):Prop:=∃m,I w (Ad 2 0)=dI m
theorem ML.H(h:ML w)(i:Bw w w'):ML w':=by
 obtain⟨m,h⟩:=h;exact⟨m,aj h i⟩
theorem vr.of(h:vr (.S p n c)):n<=c/\c<=maxLen:=by
 obtain⟨m,o,q,e,j,i⟩:=h;obtain⟨rfl,rfl,rfl⟩:=mg e;exact⟨j,i⟩
theorem cZ1{K:Int}{q:Nat}{P:LI}(u:Le P m)(R:Rd w (.S pp m q) P)(V:O (aA P))(hm:Mg m)(E:vr (.S pp m q))(M:ML w)(o:O (oG i (K,P)=B)):dQ dG 200 #[jP #[.I K,.S pp m q],.I i] w (Rb (jO B) w):=by
 let⟨Z,N⟩:=E.of;have j:Bw w (jA w (dO #[.I K,.S pp m q] 114)):=aH.alloc az _;have HR:=af (R.H j);have HM:=af (M.H j);by_cases r:i=7;{
 subst r;by_cases s:K=4;{
 subst s;by_cases x:m=0;{
 subst x;obtain rfl:B:=by rw[<-aa o,oG,aK rfl];simp[aa u]
 go_in;go_wp2;go_ret;exact⟨rfl,j⟩};{
 have ck1:((m:Int)==0)=dF:=by simp;omega
 obtain rfl:B=dF:=by rw[<-aa o,oG,aK rfl];simp[aa u,x]
 go_in;go_wp2;go_ret;exact⟨rfl,j⟩}};{
 have X:(K==4)=dF:=by simp[s]
 obtain rfl:B=dF:=by rw[<-aa o,oG,aK rfl];simp[s]
 go_in;go_wp2;go_ret;exact⟨rfl,j⟩}};{
 have W:((i:Int)==7)=dF:=by simp;omega
 by_cases D:1<=K;{
 by_cases y:K<=3;{
 have eV:O (vp P=B):=by show _=_;rw[<-aa o,oG,aJ r];simp[D,y]
 go_in
 go_wp21
 refine cK (aZ7 u HR V hm Z N HM eV) λw2 ay=>?_;have b2:=ah j ay;go_wp2;go_ret;exact⟨rfl,b2⟩};{
 obtain rfl:B=dF:=by rw[<-aa o,oG,aJ r];simp[y]
 go_in;go_wp2;go_ret;exact⟨rfl,j⟩}};{
 obtain rfl:B=dF:=by rw[<-aa o,oG,aJ r];simp[D]
 go_in;go_wp2;go_ret;exact⟨rfl,j⟩}}
def Fx(i:Int)(s:aC):Bool:=dD (1<=s.1)&&(dD (s.1<=i)&&(dD (0<=s.2.1)&&(dD (s.2.1<=1000015)&&xI s.2.2)))
theorem dh5{r D:Int}{q:List Ev}(en:Le q n)(h:ur w (.S p n c) q)(hn:Mg n)(cW:O (∀e∈q,aA e.2/\J e.2<=2^20))(py:ML w)(eB:O (Fx x (r,D,q)=B)):dQ dG 145 #[jP #[.U r,.I D,.S p n c],.U x] w (Rb (jO B) w):=by
 have HR:=af λ(w':G)(hb:Bw w w')=>aD (h.H hb) (py.H hb);have s:Bw w (jA w (dO #[.U r,.I D,.S p n c] 65)):=aH.alloc az _;have hB:B=(dD (1<=r)&&(dD (r<=x)&&(dD (0<=D)&&(dD (D<=1000015)&&(dD (n<=8)&&(jR n).all λi=>oG i (jE q i (0,[]))))))):=by rw[<-aa eB,Fx,xI,aa en]
 have j:=af hB;clear h py hB eB;by_cases h1:r<1;{
 obtain rfl:B=dF:=by rw[aa j];simp;omega
 clear j;go_in;go_wp2;go_ret;exact⟨rfl,s⟩};{
 by_cases h2:x<r;{
 obtain rfl:B=dF:=by rw[aa j];simp;omega
 clear j;go_in;go_wp2;go_ret;exact⟨rfl,s⟩};{
 by_cases h3:D<0;{
 obtain rfl:B=dF:=by rw[aa j];simp;omega
 clear j;go_in;go_wp2;go_ret;exact⟨rfl,s⟩};{
 by_cases h4:1000015<D;{
 obtain rfl:B=dF:=by rw[aa j];simp;omega
 clear j;go_in;go_wp2;go_ret;exact⟨rfl,s⟩};{
 by_cases h8:(8:Int)<(n:Int);{
 obtain rfl:B=dF:=by rw[aa j];simp;omega
 clear j;go_in;go_wp2;go_ret;exact⟨rfl,s⟩};{
 have mL:O (B=(jR n).all λi=>oG i (jE q i (0,[]))):=by show _=_;rw[aa j];simp only[show dD (1<=r)=dY by(rw[vK];omega),show dD (r<=x)=dY by(rw[vK];omega),show dD (0<=D)=dY by(rw[vK];omega),show dD (D<=1000015)=dY by(rw[vK];omega),show dD (n<=8)=dY by(rw[vK];omega),xm]
 clear j;go_in
 go_wp21
 clear h1 h2 h3 h4 h8;let⟨W,hW⟩:=aF (jA w (dO #[.U r,.I D,.S p n c] 65));rw[<-hW]at s⊢;clear hW
 go_loopw[35](λiv wr=>∃k:Nat,k<=n/\iv=.I k/\O ((jR k).all (λi=>oG i (jE q i (0,[]))))/\Bw w wr) (λiv _=>n-(jN (intOf iv)))
 exact⟨0,cT _,rfl,cO,s⟩;{
 obtain⟨k,hk,rfl,fk,X⟩:=hrel;by_cases aL:k<n;{
 have cM:=bR k n;have N:k<J q:=aa en▸aL;let⟨⟨K,P⟩,E⟩:=sj N;have Z:jE q k (0,[])=(K,P):=by rw[iR,E];rfl
 obtain⟨b,o,rfl,YO,u,QL,Dr,vg⟩:∃b o,p=(Ad b o)/\I wr (Ad b (o+k*2))=dI K/\∃u,I wr (Ad b (o+k*2+1))=Y u/\Rd wr u P/\vr u:=by let⟨p',c',ev,hd⟩:=(aa HR _ X).1;obtain⟨rfl,-,-⟩:=mg ev;obtain h0|⟨b,o,h1,h2⟩:=hd;{rw[h0]at N;simp at N};{exact⟨b,o,h1,h2 k _ E⟩}
 let⟨Nj,y⟩:=aa cW _ (bq E);obtain⟨pp,pc,m,rfl,em⟩:=Dr.fO;have hm:m<=2^20:=aa em▸y;have Fm:O (aA P):=Nj;let⟨V,M⟩:=aZ (oG k (K,P));have EV:=af M;have hF:V=dF->B=dF:=λh=>by rw[aa mL];exact Ik aL (by rw[Z,M];exact h)
 have hT:V->O ((jR (k+1)).all (λi=>oG i (jE q i (0,[])))):=λh=>Fz fk (by rw[Z,M];exact h);have HF:=af hF;have HT:=af hT;have R:Bw wr ((jA wr (dO #[.I K,.S pp m pc] 114))):=aH.alloc az _;have SL:=af (Dr.H R);have HML:=af ((aa HR _ X).2.H R);have eS6:=af vg;clear N E Z Nj y Dr M hF hT vg
 go_wp21
 refine cK (cZ1 em (by exact SL) Fm hm eS6 (by exact HML) EV) λw2 ay=>?_;have b3:=ah X (ah R ay);clear ay R;cases V with
 |false=>
  obtain rfl:=aa HF rfl;go_wp2;go_ret;exact⟨rfl,b3⟩
 |true=>
  have lh:=aa HT rfl;go_wp2;go_roundw;exact⟨k+1,ae,by go_num,lh,b3⟩;exact dh};{
 have cM:=fG k n;have eT:B:=by
  rw[aa mL];have:k=n:=by omega
  rw[<-this];exact fk
 subst eT;go_wp2;go_ret;exact⟨rfl,X⟩}}}}}}}
structure Lf where
 b:Nat
 o:Nat
 k:IntKind
def LvIn(w:G)(A:List Lf):Prop:=∀a∈A,(∃n,I w (Ad a.b a.o)=Y (jK a.k n))/\jF w (Ad a.b a.o)=dF
theorem LvIn.lt{A:List Lf}(h:LvIn w A){a:Lf}(j:a∈A):a.b<U (Q w):=by
 let⟨⟨n,i⟩,_⟩:=h a j;exact nI w _ i
theorem LvIn.nil(w:G):LvIn w []:=λa ha=>by simp at ha
theorem LvIn.app{A A':List Lf}:LvIn w (A++A')↔LvIn w A/\LvIn w A':=by
 constructor;{intro h;exact⟨λa i=>h a (Ux _ i),λa i=>h a (Kf _ i)⟩};{rintro⟨h,k⟩a i;obtain i|i:=jg.1 i;{exact h a i};{exact k a i}}
theorem LvIn.sub{A A':List Lf}(h:LvIn w A)(i:∀a∈A',a∈A):LvIn w A':=λa j=>h a (i a j)
def LvL{α:Type}(P:α->Nat->Nat->List Lf->Prop)(m:Nat)(v:dV)(xs:List α)(A:List Lf):Prop:=
 ∃(p:OA)(c:Nat)(j:List (List Lf)),v=.S p (J xs) c/\J j=J xs/\A=jL j/\(xs=[]\/∃b o,p=(Ad b o)/\∀i x l,xs[i]?=Y x->j[i]?=Y l->P x b (o+i*m) l)
theorem LvL.imp{α:Type}{P s:α->Nat->Nat->List Lf->Prop}{xs:List α}{A:List Lf}(h:LvL P sz v xs A)(B:∀x b a l,x∈xs->(∀y∈l,y∈A)->P x b a l->s x b a l):LvL s sz v xs A:=by
 obtain⟨p,c,R,N,M,r,j⟩:=h;refine⟨p,c,R,N,M,r,?_⟩;obtain j|⟨b,o,E,D⟩:=j;{exact .L j};{refine .R ⟨b,o,E,λi x l m q=>B _ _ _ _ (bq m) (λy u=>?_) (D i x l m q)⟩;rw[r];exact FN.2 ⟨l,bq q,u⟩}
def LvI(kd:IntKind)(x:Int)(b a:Nat)(l:List Lf):Prop:=l=[⟨b,a,kd⟩]
abbrev JB(v:dV)(xs:LI)(A:List Lf):Prop:=LvL (LvI .u8) 1 v xs A
abbrev SC(v:dV)(xs:LI)(A:List Lf):Prop:=LvL (LvI jU) 1 v xs A
def LvEv(w:G)(x:Ev)(b a:Nat)(l:List Lf):Prop:=
 ∃p c i,l=⟨b,a,jV⟩::i/\I w (Ad b (a+1))=dS p (J x.2) c/\JB (.S p (J x.2) c) x.2 i
abbrev LvE(w:G)(v:dV)(xs:List Ev)(A:List Lf):Prop:=LvL (LvEv w) 2 v xs A
def LvSe(w:G)(x:aC)(b a:Nat)(l:List Lf):Prop:=
 ∃p c i,l=⟨b,a,jU⟩::⟨b,a+1,jV⟩::i/\I w (Ad b (a+2))=dS p (J x.2.2) c/\LvE w (.S p (J x.2.2) c) x.2.2 i
abbrev LvS(w:G)(v:dV)(xs:List aC)(A:List Lf):Prop:=LvL (LvSe w) 3 v xs A
def LvNo(w:G)(x:au)(b a:Nat)(l:List Lf):Prop:=
 ∃o E m D j B i y u s r q,l=u++(s++(⟨b,a+2,jU⟩::⟨b,a+3,jV⟩::(r++(⟨b,a+5,jU⟩::⟨b,a+6,jU⟩::q))))∧
  (I w (Ad b a)=dS o (J x.A) E/\JB (.S o (J x.A) E) x.A u)∧
  (I w (Ad b (a+1))=dS m (J x.V) D/\JB (.S m (J x.V) D) x.V s)∧
  (I w (Ad b (a+4))=dS j (J x.y) B/\SC (.S j (J x.y) B) x.y r)∧
  (I w (Ad b (a+7))=dS i (J x.X) y/\SC (.S i (J x.X) y) x.X q)
abbrev LvN(w:G)(v:dV)(xs:List au)(A:List Lf):Prop:=LvL (LvNo w) 8 v xs A
theorem LvL.at{α:Type}{P:α->Nat->Nat->List Lf->Prop}{xs:List α}{A:List Lf}(h:LvL P sz (.S p n c) xs A):∃i:List (List Lf),n=J xs/\J i=n/\A=jL i/\∀k,k<n->∃b o x l,p=(Ad b o)/\xs[k]?=Y x/\i[k]?=Y l/\P x b (o+k*sz) l/\jL (jT (k+1) i)=jL (jT k i)++l/\∀y∈l,y∈A:=by
 obtain⟨N,R,i,M,E,s,q⟩:=h;obtain⟨rfl,rfl,rfl⟩:=mg M;refine⟨i,rfl,E,s,λk m=>?_⟩;let⟨x,r⟩:=sj m;obtain⟨l,j⟩:∃l,i[k]?=Y l:=⟨_,bN ae⟩;obtain q|⟨b,o,D,B⟩:=q;{rw[q]at m;simp at m};{refine⟨b,o,x,l,D,r,j,B k x l r j,?_,λy u=>?_⟩;{rw[sE,j];simp};{rw[s];exact FN.2 ⟨l,bq j,u⟩}}
theorem bZ5{i:List (List Lf)}{y:Lf}(h:y∈jL (jT k i)):y∈jL i:=by
 let⟨l,m,j⟩:=FN.1 h;exact FN.2 ⟨l,PT m,j⟩
theorem Tryz.infoU64:(Tryz.prog.info? 24).map (λi=>(i.zero,i.size,i.bytes))=Y (Y (.U 0),1,8):=by kernel_rfl
theorem Tryz.infoEv:(Tryz.prog.info? 114).map (λi=>(i.zero,i.size,i.bytes))=Y (Y (jP #[.I 0,aq]),2,32):=by kernel_rfl
theorem Tryz.infoSes:(Tryz.prog.info? 65).map (λi=>(i.zero,i.size,i.bytes))=Y (Y (jP #[.U 0,.I 0,aq]),3,40):=by kernel_rfl
theorem Tryz.infoNod:(Tryz.prog.info? 69).map (λi=>(i.zero,i.size,i.bytes))=Y (Y (jP #[aq,aq,.U 0,.I 0,aq,.U 0,.U 0,aq]),8,128):=by kernel_rfl
theorem eb7(h:Bw w w'):jG w w' dN:=⟨h.os,h.tape,h.output,h.size,λi j _=>h.block i j⟩
structure je(B:Nat)(w:G)(A:List Lf):Prop where
 nd:(A.map λa=>(a.b,a.o)).Nodup
 lo:∀a∈A,B<=a.b
 oy:LvIn w A
theorem je.nil(B:Nat)(w:G):je B w []:=⟨by simp,λa ha=>by simp at ha,LvIn.nil w⟩
variable {B:Nat}
theorem je.h{B':Nat}{A:List Lf}(h:je B w A)(j:B'<=B):je B' w A:=⟨h.nd,λa i=>fx j (h.lo a i),h.oy⟩
theorem je.app{A m:List Lf}(h:je B w A)(j:je M w m)(u:B<=M)(s:∀a∈A,a.b<M):je B w (A++m):=by
 refine⟨?_,λa i=>?_,LvIn.app.2 ⟨h.oy,j.oy⟩⟩;{rw[rI,Ek];refine⟨h.nd,j.nd,λx r y q=>?_⟩;obtain⟨a,i,rfl⟩:=fg.1 r;obtain⟨D,o,rfl⟩:=fg.1 q;intro e;have:=s a i;have:=j.lo D o;simp only[jk]at e;omega};{obtain i|i:=jg.1 i;{exact h.lo a i};{exact fx u (j.lo a i)}}
theorem LvIn.W{A:List Lf}(h:LvIn w A)(j:∀a∈A,w'.heap[a.b]?=w.heap[a.b]?):LvIn w' A:=λa i=>by
 let⟨⟨n,m⟩,hf⟩:=h a i;exact⟨⟨n,(Iz (w:=w) (a:=(Ad a.b a.o)) (j a i)).Z m⟩,(Dj (w:=w) (a:=(Ad a.b a.o)) (j a i)).Z hf⟩
theorem je.W{A:List Lf}(h:je B w A)(i:∀a∈A,w'.heap[a.b]?=w.heap[a.b]?):je B w' A:=⟨h.nd,h.lo,h.oy.W i⟩
def OwnT{α:Type}(o:G->α->List dV->List Lf->Prop)(ty:TypeId)(m B:Nat)(w:G)(v:dV)(xs:List α)(j:List (List Lf)):Prop:=
 ∃cs:List (List dV),J cs=J xs/\J j=J xs/\(∀c∈cs,J c=m)/\w.ownsRow B ty m v (J xs) (jL cs)∧
  (∀(i:Nat)(x:α)(c:List dV)(l:List Lf),xs[i]?=x->cs[i]?=Y c->j[i]?=l->o w x c l)/\je B w (jL j)/\∀a∈jL j,jB v≠Y a.b
theorem OwnT.nil{α:Type}(el:G->α->List dV->List Lf->Prop)(ty:TypeId)(sz B:Nat)(w:G):OwnT el ty sz B w aq [] []:=
 ⟨[],rfl,rfl,λc hc=>by simp at hc,by simpa using nK w B ty sz,λi x c l hx=>by simp at hx,by simpa using je.nil B w,λa ha=>by simp at ha⟩
theorem OwnT.W{α:Type}{m:G->α->List dV->List Lf->Prop}{xs:List α}{r:List (List Lf)}(h:OwnT m ty sz B w v xs r)(bD:∀x c l,m w x c l->(∀a∈l,w'.heap[a.b]?=w.heap[a.b]?)->m w' x c l)(hz:U (Q w)<=U (Q w'))(hr:∀b,jB v=Y b->w'.heap[b]?=w.heap[b]?)(hl:∀a∈jL r,w'.heap[a.b]?=w.heap[a.b]?):OwnT m ty sz B w' v xs r:=by
 obtain⟨cs,Z,X,W,u,V,S,R⟩:=h;refine⟨cs,Z,X,W,?_,λi x c l y hc s=>bD _ _ _ (V i x c l y hc s) (λa N=>hl a (FN.2 ⟨l,bq s,N⟩)),S.W hl,R⟩;refine⟨u.1,?_⟩;obtain D|⟨g,q,o,rfl,M,E,j⟩:=u.2;{exact .L D};{exact .R ⟨g,q,o,rfl,M,(hr g rfl).Z E,j⟩}
theorem OwnT.H{α:Type}{i:G->α->List dV->List Lf->Prop}{xs:List α}{m:List (List Lf)}(h:OwnT i ty sz B w v xs m)(y:∀w w' x c l,i w x c l->(∀a∈l,w'.heap[a.b]?=w.heap[a.b]?)->i w' x c l)(j:Bw w w'):OwnT i ty sz B w' v xs m:=by
 have u:=h;obtain⟨cs,R,N,M,s,E,r,D⟩:=u;exact h.W (y w w') j.size (λb o=>j.block b (s.lt b o).2) (λa q=>j.block _ (r.oy.lt q))
variable {c:List dV}
theorem OwnT.snoc{α:Type}{D:G->α->List dV->List Lf->Prop}{v':dV}{xs:List α}{o:List (List Lf)}{x:α}{l:List Lf} (h1:J cs=J xs)(h2:J o=J xs)(h3:∀c∈cs,J c=sz)(h5:∀(i:Nat)(x:α)(c:List dV)(l:List Lf),xs[i]?=Y x->cs[i]?=Y c->o[i]?=Y l->D w x c l)(R:je B w (jL o))(Z:∀a∈jL o,jB v≠Y a.b)(bD:∀w w' x c l,D w x c l->(∀a∈l,w'.heap[a.b]?=w.heap[a.b]?)->D w' x c l)(hx:D w x c l)(hc:J c=sz)(u:je M w l)(N:B<=M)(hM:∀a∈jL o,a.b<M)(s:∀b,jB v=Y b->b<M)(gC:w'.ownsRow B ty sz v' (J xs+1) (jL cs++c))(X:jG w w' (jB v))(gR:∀g,jB v'=Y g->jB v=Y g\/U (Q w)<=g):OwnT D ty sz B w' v' (xs++[x]) (o++[l]):=by
 have E:∀a∈jL o++l,w'.heap[a.b]?=w.heap[a.b]?:=λa j=>by obtain j|j:=jg.1 j;{exact X.block _ (R.oy.lt j) (λe=>Z a j e.C)};{exact X.block _ (u.oy.lt j) (λe=>by have:=s a.b e.C;have:=u.lo a j;omega)}
 refine⟨cs++[c],by simp[h1],by simp[h2],λV m=>?_,?_,λi y V W r m q=>?_,?_,λa j=>?_⟩;{obtain m|m:=jg.1 m;{exact h3 V m};{simp at m;subst m;exact hc}};{simpa using gC};{
 by_cases hi:i<J xs;{rw[qw hi]at r;rw[qw ae]at m q;exact bD w w' _ _ _ (h5 i y V W r m q) (λa j=>E a (Ux _ (FN.2 ⟨W,bq q,j⟩)))};{
 have ei:i=J xs:=by have:=(bu.1 r).1;simp at this;omega
 subst ei;simp at r;rw[<-h1]at m;simp at m;rw[<-h2]at q;simp at q;subst r m q;exact bD w w' _ _ _ hx (λa j=>E a (Kf _ j))}};{
 have:jL (o++[l])=jL o++l:=by simp
 rw[this];exact(R.app u N hM).W E};{
 have:jL (o++[l])=jL o++l:=by simp
 rw[this]at j;intro e;obtain S|S:=gR _ e;{obtain j|j:=jg.1 j;{exact Z a j S};{have:=s a.b S;have:=u.lo a j;omega}};{
 have:a.b<U (Q w):=by obtain j|j:=jg.1 j;{exact R.oy.lt j};{exact u.oy.lt j}
 omega}}
theorem OwnT.lt{α:Type}{r:G->α->List dV->List Lf->Prop}{xs:List α}{m:List (List Lf)}(h:OwnT r ty sz B w v xs m):(∀b,jB v=Y b->B<=b/\b<U (Q w))/\∀a∈jL m,B<=a.b/\a.b<U (Q w):=by
 obtain⟨cs,D,y,x,q,u,j,s⟩:=h;exact⟨λb o=>q.lt b o,λa i=>⟨j.lo a i,j.oy.lt i⟩⟩
theorem ax1(h:∀c∈cs,J c=sz)(hc:cs[i]?=Y c)(m:j<sz):cs.flatten[i*sz+j]?=c[j]?:=by
 induction cs generalizing i with
 |nil=>simp at hc
 | cons d cs ih=>
  cases i with
  |zero=>
   simp at hc;subst hc;rw[vH,qw (by rw[h d ai];omega)];simp
  |succ i=>
   rw[vH,rG (by rw[h d ai,Ip];omega),h d ai];have:=ih (λc hc=>h c (by simp[hc])) (by simpa using hc);rw[<-this];congr 1;rw[Ip];omega
theorem OwnT.lv{α:Type}{el:G->α->List dV->List Lf->Prop}{xs:List α}{E:List (List Lf)}(h:OwnT el ty sz B w v xs E)(P:α->Nat->Nat->List Lf->Prop)(oz:∀x c l b a,el w x c l->(∀j u,c[j]?=Y u->I w (Ad b (a+j))=Y u)->(∀o,jF w (Ad b o)=dF)->(∀y∈l,y.b≠b)->LvIn w l->(l.map λa=>(a.b,a.o)).Nodup→
   ∃L,P x b a L/\(L.map λa=>(a.b,a.o)).Nodup/\LvIn w L/\∀y∈L,y∈l\/y.b=b/\a<=y.o/\y.o<a+sz):∃A,LvL P sz v xs A/\je B w A:=by
 obtain⟨cs,h1,h2,h3,h4,h5,h6,h7⟩:=h;obtain⟨rfl,h0⟩|⟨g,cap,cur,rfl,hb,hg,-,-,-,-⟩:=id h4.2;{obtain rfl:xs=[]:=vI.1 h0;exact⟨[],⟨dN,0,[],ai,rfl,rfl,.L rfl⟩,je.nil _ _⟩};{
 have QG:∀o,jF w (Ad g o)=dF:=λo=>by simp[World.frozen?,hg]
 have key:∀k,k<=J xs->∃s:List (List Lf),J s=k/\(∀(i:Nat)(x:α)(l:List Lf),i<k->xs[i]?=Y x->s[i]?=Y l->P x g (0+i*sz) l)/\(s.flatten.map λa=>(a.b,a.o)).Nodup/\LvIn w (jL s)∧
   ∀y∈jL s,y∈jL (jT k E)\/y.b=g/\y.o<k*sz:=by
  intro k
  induction k with
  |zero=>intro _;exact⟨[],rfl,λi x l hi=>ae,ai,LvIn.nil w,λy r=>by simp at r⟩
  | succ k ih=>
   intro hk;let⟨s,X,q2,q3,q4,W⟩:=ih ae;obtain⟨x,N⟩:∃x,xs[k]?=Y x:=⟨_,bN ae⟩;obtain⟨c,hc⟩:∃x,cs[k]?=Y x:=⟨_,bN ae⟩;obtain⟨l,R⟩:∃x,E[k]?=Y x:=⟨_,bN ae⟩;have vf:∀y∈l,y∈jL E:=λy r=>FN.2 ⟨l,bq R,r⟩;have hlen:J c=sz:=h3 c (bq hc);have aG:jL (jT (k+1) E)=jL (jT k E)++l:=by rw[sE,R];simp
   have V:(((jT (k+1) E).flatten.map λa=>(a.b,a.o))).Nodup:=by
    have:=h6.nd;have e:jL E=jL (jT (k+1) E)++jL (jD (k+1) E):=by rw[<-Uu,Mw]
    rw[e,rI,Ek]at this;exact this.1
   rw[aG,rI,Ek]at V;obtain⟨n1,n2,n3⟩:=V;let⟨L,r1,r2,r3,r4⟩:=oz x c l g (0+k*sz) (h5 k x c l N hc R) (λj u hu=>by
    have hj:j<sz:=aM (bu.1 hu).1;have hks:k*sz+sz<=J xs*sz:=by rw[<-Ip];exact XG _ hk
    rw[l9,h4.cellAt (k*sz+j) ae,ax1 h3 hc hj];exact hu) QG (λy r e=>h7 y (vf y r) (by simp[jB,e])) (h6.oy.sub vf) n2
   refine⟨s++[L],by simp[X],λi y m hi r hm=>?_,?_,?_,λy r=>?_⟩;{
 by_cases hik:i<k;{rw[qw ae]at hm;exact q2 i y m hik r hm};{
 have:i=k:=by omega
 subst this;rw[N]at r;cases r;rw[<-X]at hm;simp at hm;subst hm;exact r1}};{have e:jL (s++[L])=jL s++L:=ai;rw[e,rI,Ek];refine⟨q3,r2,λy r z hz=>?_⟩;obtain⟨Z,m1,rfl⟩:=fg.1 r;obtain⟨M,m2,rfl⟩:=fg.1 hz;intro S;simp only[jk]at S;obtain u1|⟨u1,u2⟩:=W Z m1;{obtain D|⟨D,v2,v3⟩:=r4 M m2;{exact n3 (Z.b,Z.o) (aV8 u1) (M.b,M.o) (aV8 D) (by rw[S.1,S.2])};{exact h7 Z (bZ5 u1) (by simp[jB,S.1,D])}};{obtain D|⟨D,v2,v3⟩:=r4 M m2;{exact h7 M (vf M D) (by simp[jB,<-S.1,u1])};{omega}}};{have e:jL (s++[L])=jL s++L:=ai;rw[e];exact LvIn.app.2 ⟨q4,r3⟩};{have e:jL (s++[L])=jL s++L:=ai;rw[e]at r;obtain r|r:=jg.1 r;{obtain u1|⟨u1,u2⟩:=W y r;{exact .L (by rw[aG];exact Ux _ u1)};{exact .R ⟨u1,by rw[Ip];omega⟩}};{obtain D|⟨D,v2,v3⟩:=r4 y r;{exact .L (by rw[aG];exact Kf _ D)};{exact .R ⟨D,by rw[Ip];omega⟩}}}
 let⟨s,X,q2,q3,q4,W⟩:=key (J xs) az;refine⟨jL s,⟨Y (Ad g 0),cap,s,rfl,X,rfl,.R ⟨g,0,rfl,λi x l N R=>q2 i x l (bu.1 N).1 N R⟩⟩,q3,λa ha=>?_,q4⟩;obtain u1|⟨u1,u2⟩:=W a ha;{exact h6.lo a (bZ5 u1)};{rw[u1];exact hb}}
theorem Xa{e:TypeId}{c:Nat}(h:w.ownsRow B e 1 (.S p n c) (J l) (l.map (Value.int kd))):∃A,LvL (LvI kd) 1 (.S p n c) l A/\je B w A/\J A=J l/\∀a∈A,jB (Value.slice p n c)=a.b:=by
 obtain⟨s,N⟩|⟨g,V,R,s,M,E,hr⟩:=id h.2;{obtain⟨rfl,rfl,rfl⟩:=mg s;obtain rfl:=vI.1 N;exact⟨[],⟨dN,0,[],rfl,rfl,rfl,.L rfl⟩,je.nil _ _,rfl,λa m=>by simp at m⟩};{
 obtain⟨rfl,rfl,rfl⟩:=mg s;refine⟨(jR (J l)).map λi=>⟨g,0+i,kd⟩,⟨Y (Ad g 0),c,(jR (J l)).map λi=>[⟨g,0+i,kd⟩],rfl,ai,?_,.R ⟨g,0,rfl,λi x X Z D=>?_⟩⟩,⟨?_,λa m=>?_,λa m=>?_⟩,ai,λa m=>?_⟩;{
 induction(jR (J l))with
 |nil=>rfl
 |cons i r ih=>rw[mR,mR,vH,<-ih];rfl}
 {let⟨q,e⟩:=bu.1 D;simp at e;rw[<-e,ao4,l9];rfl};{rw[sA,List.Nodup,BO];exact aU3.imp (λ{i j}y=>by simpa using y)};{obtain⟨i,q,rfl⟩:=fg.1 m;exact M};{
 obtain⟨i,q,rfl⟩:=fg.1 m;have W:i<J l:=by simpa using q
 refine⟨⟨l[i],?_⟩,by simp[World.frozen?,E]⟩;have:=Py h i ae;simp only[l9];rw[this];simp[W]};{obtain⟨i,q,rfl⟩:=fg.1 m;rfl}}
theorem Rd.ox{A:List Lf}(h:Rd w v xs)(hl:JB v xs A)(r:∀a∈A,w'.heap[a.b]?=w.heap[a.b]?):Rd w' v xs:=by
 obtain⟨p,c,rfl,j⟩:=h;refine⟨p,c,rfl,?_⟩;obtain j|⟨b,o,rfl,j⟩:=j;{exact .L j};{refine .R ⟨b,o,rfl,λi m=>?_⟩;let⟨S,M,E,N,u⟩:=hl.at;obtain⟨R,D,x,l,y,-,B,s,-,q⟩:=u i m;obtain⟨rfl,rfl⟩:=By y;have:w'.heap[b]?=w.heap[b]?:=r ⟨b,o+i*1,.u8⟩ (q _ (by rw[show l=_ from s];simp));exact(gF this _).Z (j i m)}
theorem RdU.ox{A:List Lf}(h:RdU w v xs)(hl:SC v xs A)(r:∀a∈A,w'.heap[a.b]?=w.heap[a.b]?):RdU w' v xs:=by
 obtain⟨p,c,rfl,j⟩:=h;refine⟨p,c,rfl,?_⟩;obtain j|⟨b,o,rfl,j⟩:=j;{exact .L j};{refine .R ⟨b,o,rfl,λi m=>?_⟩;let⟨S,M,E,N,u⟩:=hl.at;obtain⟨R,D,x,l,y,-,B,s,-,q⟩:=u i m;obtain⟨rfl,rfl⟩:=By y;have:w'.heap[b]?=w.heap[b]?:=r ⟨b,o+i*1,jU⟩ (q _ (by rw[show l=_ from s];simp));exact(gF this _).Z (j i m)}
def Lq(w:G)(x:Ev)(c:List dV)(l:List Lf):Prop:=
 ∃p i,c=[.I x.1,.S p (J x.2) i]/\Rd w (.S p (J x.2) i) x.2/\vr (.S p (J x.2) i)/\JB (.S p (J x.2) i) x.2 l
theorem Lq.W(w w':G)(x:Ev)(c:List dV)(l:List Lf)(h:Lq w x c l)(j:∀a∈l,w'.heap[a.b]?=w.heap[a.b]?):Lq w' x c l:=by
 obtain⟨p,r,q,o,m,i⟩:=h;exact⟨p,r,q,o.ox i j,m,i⟩
variable {xs:List Ev}
theorem LvE.W{A:List Lf}(h:LvE w v xs A)(o:∀a∈A,w'.heap[a.b]?=w.heap[a.b]?):LvE w' v xs A:=by
 refine h.imp λx b a l u j q=>?_;obtain⟨p,c,m,i,s,r⟩:=q;refine⟨p,c,m,i,?_,r⟩;have:w'.heap[b]?=w.heap[b]?:=o ⟨b,a,jV⟩ (j _ (by rw[i];simp));exact(gF this _).Z s
theorem ur.ox{A:List Lf}(h:ur w v xs)(hl:LvE w v xs A)(y:∀a∈A,w'.heap[a.b]?=w.heap[a.b]?):ur w' v xs:=by
 obtain⟨p,c,rfl,j⟩:=h;refine⟨p,c,rfl,?_⟩;obtain j|⟨b,o,rfl,j⟩:=j;{exact .L j};{
 refine .R ⟨b,o,rfl,λi e he=>?_⟩;let⟨Ls,en,lL,eA,Z⟩:=hl.at;obtain⟨b',o',x,l,e1,s,rQ,V,-,r⟩:=Z i (bu.1 he).1;obtain⟨rfl,rfl⟩:=By e1;rw[he]at s;cases s;obtain⟨q,cc,lb,D,X,W⟩:=V;have B:w'.heap[b]?=w.heap[b]?:=y ⟨b,o+i*2,jV⟩ (r _ (by rw[D];simp));let⟨N,u,m,M,E⟩:=j i e he;have:u=.S q (J e.2) cc:=by rw[X]at m;exact(BN m).C
 subst this;exact⟨(gF B _).Z N,_,(gF B _).Z m,M.ox W (λa R=>y a (r a (by rw[D];simp[R]))),E⟩}
def qe(w:G)(x:aC)(c:List dV)(l:List Lf):Prop:=
 ∃p i,c=[.U x.1,.I x.2.1,.S p (J x.2.2) i]/\ur w (.S p (J x.2.2) i) x.2.2/\LvE w (.S p (J x.2.2) i) x.2.2 l
theorem qe.W(w w':G)(x:aC)(c:List dV)(l:List Lf)(h:qe w x c l)(i:∀a∈l,w'.heap[a.b]?=w.heap[a.b]?):qe w' x c l:=by
 obtain⟨p,q,o,m,j⟩:=h;exact⟨p,q,o,m.ox j i,LvE.W j i⟩
def mV(w:G)(x:au)(c:List dV)(l:List Lf):Prop:=
 ∃i j q u o s m r E D B y,l=E++(D++(B++y))/\c=[.S i (J x.A) j,.S q (J x.V) u,.U x.D,.I x.M,.S o (J x.y) s,.U x.P,.U x.F,.S m (J x.X) r]∧
  (Rd w (.S i (J x.A) j) x.A/\vr (.S i (J x.A) j)/\JB (.S i (J x.A) j) x.A E)/\(Rd w (.S q (J x.V) u) x.V/\JB (.S q (J x.V) u) x.V D)∧
  (RdU w (.S o (J x.y) s) x.y/\SC (.S o (J x.y) s) x.y B)/\(RdU w (.S m (J x.X) r) x.X/\SC (.S m (J x.X) r) x.X y)
theorem mV.W(w w':G)(x:au)(c:List dV)(l:List Lf)(h:mV w x c l)(j:∀a∈l,w'.heap[a.b]?=w.heap[a.b]?):mV w' x c l:=by
 obtain⟨B,c0,y,c1,u,c4,s,Z,N,M,E,D,rfl,X,⟨W,V,q⟩,⟨S,o⟩,⟨R,m⟩,⟨EP,r⟩⟩:=h;exact⟨B,c0,y,c1,u,c4,s,Z,N,M,E,D,rfl,X,⟨W.ox q (λa i=>j a (by simp[i])),V,q⟩,⟨S.ox o (λa i=>j a (by simp[i])),o⟩,⟨R.ox m (λa i=>j a (by simp[i])),m⟩,⟨EP.ox r (λa i=>j a (by simp[i])),r⟩⟩
theorem OwnT.read{α:Type}{M:G->α->List dV->List Lf->Prop}{xs:List α}{N:List (List Lf)}(h:OwnT M ty sz B w v xs N):∃p m,v=.S p (J xs) m/\(xs=[]\/∃g,p=(Ad g 0)/\∀(i:Nat)(x:α),xs[i]?=Y x->∃c l,M w x c l/\∀(j:Nat)(u:dV),c[j]?=Y u->I w (Ad g (0+i*sz+j))=Y u):=by
 obtain⟨cs,h1,h2,D,y,Z,h6,h7⟩:=h;obtain⟨rfl,E⟩|⟨g,m,cur,rfl,hb,hg,-,-,-,-⟩:=id y.2;{exact⟨dN,0,by rw[E],.L (vI.1 E)⟩};{
 refine⟨_,m,rfl,.R ⟨g,rfl,λi x o=>?_⟩⟩;have X:=(bu.1 o).1;obtain⟨c,hc⟩:∃x,cs[i]?=Y x:=⟨_,bN ae⟩;obtain⟨l,R⟩:∃x,N[i]?=Y x:=⟨_,bN ae⟩;refine⟨c,l,Z i x c l o hc R,λj u r=>?_⟩;have s:J c=sz:=D c (bq hc);have W:j<sz:=aM (bu.1 r).1;have V:i*sz+sz<=J xs*sz:=by rw[<-Ip];exact XG _ X
 rw[l9,y.cellAt (i*sz+j) ae,ax1 D hc W];exact r}
theorem OwnT.ev{V:List (List Lf)}(h:OwnT Lq 114 2 B w v es V):ur w v es/\∃A,LvE w v es A/\je B w A:=by
 refine⟨?_,h.lv (LvEv w) λx c l b a M hc hf R N S=>?_⟩;{obtain⟨p,o,rfl,m⟩:=h.read;refine⟨p,o,rfl,?_⟩;obtain m|⟨g,rfl,m⟩:=m;{exact .L m};{refine .R ⟨g,0,rfl,λi e he=>?_⟩;obtain⟨c,l,⟨q,E,rfl,D,u,s⟩,r⟩:=m i e he;exact⟨r 0 _ rfl,_,r 1 _ rfl,D,u⟩}};{obtain⟨q,E,rfl,D,u,s⟩:=M;refine⟨⟨b,a,jV⟩::l,⟨q,E,l,rfl,hc 1 _ rfl,s⟩,?_,?_,λy j=>?_⟩;{rw[mR,BS];refine⟨λhm=>?_,S⟩;let⟨y,j,e⟩:=fg.1 hm;simp only[jk]at e;exact R y j e.1};{intro y j;obtain rfl|j:=gv.1 j;{exact⟨⟨_,hc 0 _ rfl⟩,hf _⟩};{exact N y j}};{obtain rfl|j:=gv.1 j;{exact .R ⟨rfl,ai,ai⟩};{exact .L j}}}
variable {es:List aC}
theorem OwnT.se{S:List (List Lf)}(h:OwnT qe 65 3 B w v es S):mJ w v es/\∃A,LvS w v es A/\je B w A:=by
 refine⟨?_,h.lv (LvSe w) λx c l b a M hc hf E N R=>?_⟩;{obtain⟨p,q,rfl,m⟩:=h.read;refine⟨p,q,rfl,?_⟩;obtain m|⟨g,rfl,m⟩:=m;{exact .L m};{refine .R ⟨g,0,rfl,λi e he=>?_⟩;obtain⟨c,l,⟨r,D,rfl,u,s⟩,o⟩:=m i e he;exact⟨o 0 _ rfl,o 1 _ rfl,_,o 2 _ rfl,u⟩}};{obtain⟨r,D,rfl,u,s⟩:=M;refine⟨⟨b,a,jU⟩::⟨b,a+1,jV⟩::l,⟨r,D,l,rfl,hc 2 _ rfl,s⟩,?_,?_,λy j=>?_⟩;{rw[mR,BS,mR,BS];refine⟨λhm=>?_,λhm=>?_,R⟩;{obtain e|hm:=gv.1 hm;{simp at e};{let⟨y,j,e⟩:=fg.1 hm;simp only[jk]at e;exact E y j e.1}};{let⟨y,j,e⟩:=fg.1 hm;simp only[jk]at e;exact E y j e.1}};{intro y j;obtain rfl|j:=gv.1 j;{exact⟨⟨_,hc 0 _ rfl⟩,hf _⟩};{obtain rfl|j:=gv.1 j;{exact⟨⟨_,hc 1 _ rfl⟩,hf _⟩};{exact N y j}}};{obtain rfl|j:=gv.1 j;{exact .R ⟨rfl,ai,ai⟩};{obtain rfl|j:=gv.1 j;{exact .R ⟨rfl,ai,ai⟩};{exact .L j}}}}
theorem bX2{A A':List Lf}{a:Nat}(E:i≠j)(h:((A++A').map λa=>(a.b,a.o)).Nodup)(q:∀y∈A++A',y.b≠b\/(y.o≠a+i/\y.o≠a+j)):((A++(⟨b,a+i,k1⟩::⟨b,a+j,k2⟩::A')).map λa=>(a.b,a.o)).Nodup:=by
 rw[rI,Ek]at h⊢;obtain⟨D,B,u⟩:=h;refine⟨D,?_,λx M y m=>?_⟩;{rw[mR,BS,mR,BS];refine⟨λhm=>?_,λhm=>?_,B⟩;{obtain e|hm:=gv.1 hm;{simp at e;exact E e};{let⟨y,m,e⟩:=fg.1 hm;simp only[jk]at e;obtain h|h:=q y (by simp[m]);{exact h e.1};{exact h.1 e.2}}};{let⟨y,m,e⟩:=fg.1 hm;simp only[jk]at e;obtain h|h:=q y (by simp[m]);{exact h e.1};{exact h.2 e.2}}};{obtain⟨z,s,rfl⟩:=fg.1 M;have r:=q z (by simp[s]);rw[mR,mR]at m;obtain rfl|m:=gv.1 m;{intro e;simp only[jk]at e;obtain h|h:=r;{exact h e.1};{exact h.1 e.2}};{obtain rfl|m:=gv.1 m;{intro e;simp only[jk]at e;obtain h|h:=r;{exact h e.1};{exact h.2 e.2}};{exact u _ (aV8 s) _ m}}}
theorem OwnT.no{es:List au}{Ls:List (List Lf)}(h:OwnT mV 69 8 B w v es Ls):iy w v es/\∃A,LvN w v es A/\je B w A:=by
 refine⟨?_,h.lv (LvNo w) λx c l b a oz hc hf M N aG=>?_⟩;{obtain⟨p,R,rfl,E⟩:=h.read;refine⟨p,R,rfl,?_⟩;obtain E|⟨g,rfl,E⟩:=E;{exact .L E};{refine .R ⟨g,0,rfl,λi e he=>?_⟩;obtain⟨c,l,⟨X,c0,W,c1,V,c4,S,c7,D,u,s,r,-,rfl,⟨h3,h4,h5⟩,⟨h6,h7⟩,⟨h8,Z⟩,⟨EP,Lj⟩⟩,q⟩:=E i e he;exact⟨_,_,_,_,⟨q 0 _ rfl,q 1 _ rfl,q 2 _ rfl,q 3 _ rfl,q 4 _ rfl,q 5 _ rfl,q 6 _ rfl,q 7 _ rfl,h3,h6,h8,EP,h4⟩⟩}};{
 obtain⟨X,c0,W,c1,V,c4,S,c7,D,u,s,r,rfl,rfl,⟨h3,h4,h5⟩,⟨h6,h7⟩,⟨h8,Z⟩,⟨EP,Lj⟩⟩:=oz;refine⟨D++(u++(⟨b,a+2,jU⟩::⟨b,a+3,jV⟩::(s++(⟨b,a+5,jU⟩::⟨b,a+6,jU⟩::r)))),
  ⟨X,c0,W,c1,V,c4,S,c7,D,u,s,r,rfl,⟨hc 0 _ rfl,h5⟩,⟨hc 1 _ rfl,h7⟩,⟨hc 4 _ rfl,Z⟩,⟨hc 7 _ rfl,Lj⟩⟩,?_,?_,λy m=>?_⟩
 {
 have s1:(((D++(u++s))++(⟨b,a+5,jU⟩::⟨b,a+6,jU⟩::r)).map λa=>(a.b,a.o)).Nodup:=bX2 aX (by simpa using aG) (λy m=>.L (M y (by simpa using m)));have s2:=bX2 (A:=D++u) (A':=s++(⟨b,a+5,jU⟩::⟨b,a+6,jU⟩::r)) (b:=b) (a:=a) (k1:=jU) (k2:=jV) (i:=2) (j:=3) aX (by simpa using s1) (λy m=>by simp only[jg,gv]at m;obtain(m|m)|m|rfl|rfl|m:=m;{exact .L (M y (by simp[m]))};{exact .L (M y (by simp[m]))};{exact .L (M y (by simp[m]))};{exact .R ai};{exact .R ai};{exact .L (M y (by simp[m]))})
 simpa using s2};{intro y m;simp only[jg,gv]at m;obtain m|m|rfl|rfl|m|rfl|rfl|m:=m;{exact N y (by simp[m])};{exact N y (by simp[m])};{exact⟨⟨_,hc 2 _ rfl⟩,hf _⟩};{exact⟨⟨_,hc 3 _ rfl⟩,hf _⟩};{exact N y (by simp[m])};{exact⟨⟨_,hc 5 _ rfl⟩,hf _⟩};{exact⟨⟨_,hc 6 _ rfl⟩,hf _⟩};{exact N y (by simp[m])}};{simp only[jg,gv]at m;obtain m|m|rfl|rfl|m|rfl|rfl|m:=m;{exact .L (by simp[m])};{exact .L (by simp[m])};{exact .R ⟨rfl,ai,ai⟩};{exact .R ⟨rfl,ai,ai⟩};{exact .L (by simp[m])};{exact .R ⟨rfl,ai,ai⟩};{exact .R ⟨rfl,ai,ai⟩};{exact .L (by simp[m])}}}
variable {xs:List aC}
theorem LvS.W{A:List Lf}(h:LvS w v xs A)(m:∀a∈A,w'.heap[a.b]?=w.heap[a.b]?):LvS w' v xs A:=by
 refine h.imp λx b a l B j r=>?_;obtain⟨p,c,o,i,u,s⟩:=r;refine⟨p,c,o,i,?_,LvE.W s (λy q=>m y (j y (by rw[i];simp[q])))⟩;have:w'.heap[b]?=w.heap[b]?:=m ⟨b,a,jU⟩ (j _ (by rw[i];simp));exact(gF this _).Z u
theorem LvN.W{xs:List au}{A:List Lf}(h:LvN w v xs A)(D:∀a∈A,w'.heap[a.b]?=w.heap[a.b]?):LvN w' v xs A:=by
 refine h.imp λx b a l hx j E=>?_;obtain⟨r,c0,q,c1,o,c4,m,c7,B,y,u,s,i,⟨Z,X⟩,⟨W,V⟩,⟨S,R⟩,⟨N,M⟩⟩:=E;have:w'.heap[b]?=w.heap[b]?:=D ⟨b,a+2,jU⟩ (j _ (by rw[i];simp));have hc:=gF this;exact⟨r,c0,q,c1,o,c4,m,c7,B,y,u,s,i,⟨(hc _).Z Z,X⟩,⟨(hc _).Z W,V⟩,⟨(hc _).Z S,R⟩,⟨(hc _).Z N,M⟩⟩
theorem mJ.ox{A:List Lf}(h:mJ w v xs)(hl:LvS w v xs A)(D:∀a∈A,w'.heap[a.b]?=w.heap[a.b]?):mJ w' v xs:=by
 obtain⟨p,c,rfl,j⟩:=h;refine⟨p,c,rfl,?_⟩;obtain j|⟨b,o,rfl,j⟩:=j;{exact .L j};{
 refine .R ⟨b,o,rfl,λi e he=>?_⟩;let⟨Ls,en,lL,eA,Z⟩:=hl.at;obtain⟨b',o',x,l,e1,B,rQ,V,-,y⟩:=Z i (bu.1 he).1;obtain⟨rfl,rfl⟩:=By e1;rw[he]at B;cases B;obtain⟨q,cc,lb,E,X,W⟩:=V;have s:w'.heap[b]?=w.heap[b]?:=D ⟨b,o+i*3,jU⟩ (y _ (by rw[E];simp));let⟨N,r,u,m,M⟩:=j i e he;have:u=.S q (J e.2.2) cc:=by rw[X]at m;exact(BN m).C
 subst this;exact⟨(gF s _).Z N,(gF s _).Z r,_,(gF s _).Z m,M.ox W (λa R=>D a (y a (by rw[E];simp[R])))⟩}
variable {xs:List au}
theorem iy.ox{A:List Lf}(h:iy w v xs)(hl:LvN w v xs A)(D:∀a∈A,w'.heap[a.b]?=w.heap[a.b]?):iy w' v xs:=by
 obtain⟨p,c,rfl,r⟩:=h;refine⟨p,c,rfl,?_⟩;obtain r|⟨b,o,rfl,r⟩:=r;{exact .L r};{
 refine .R ⟨b,o,rfl,λi e he=>?_⟩;let⟨Ls,en,lL,eA,gi⟩:=hl.at;obtain⟨b',o',x,l,e1,B,rQ,hP,-,u⟩:=gi i (bu.1 he).1;obtain⟨rfl,rfl⟩:=By e1;rw[he]at B;cases B;obtain⟨p0,c0,p1,c1,p4,c4,p7,c7,l0,Z,X,W,E,⟨h2,h3⟩,⟨h4,h5⟩,⟨h6,h7⟩,⟨h8,h9⟩⟩:=hP;have hb:w'.heap[b]?=w.heap[b]?:=D ⟨b,o+i*8+2,jU⟩ (u _ (by rw[E];simp));have hc:=gF hb;let⟨P,V,H,iU,j⟩:=r i e he;have S:P=_:=BN (j.c0.C.Z h2);have R:V=_:=BN (j.c1.C.Z h4);have N:H=_:=BN (j.c4.C.Z h6);have M:iU=_:=BN (j.c7.C.Z h8);subst S R N M;have s:∀y,(y∈l0\/y∈Z\/y∈X\/y∈W)->w'.heap[y.b]?=w.heap[y.b]?:=λy q=>D y (u y (by rw[E];obtain q|q|q|q:=q<;>simp[q]));exact⟨_,_,_,_,⟨(hc _).Z j.c0,(hc _).Z j.c1,(hc _).Z j.c2,(hc _).Z j.c3,(hc _).Z j.c4,(hc _).Z j.c5,(hc _).Z j.c6,(hc _).Z j.c7,
  j.r0.ox h3 (λa m=>s a (.L m)),j.r1.ox h5 (λa m=>s a (.R (.L m))),j.r4.ox h7 (λa m=>s a (.R (.R (.L m)))),j.r7.ox h9 (λa m=>s a (.R (.R (.R m)))),j.k0⟩⟩}
theorem ee3(h:∀c∈cs,J c=sz)(hc:cs[i]?=Y c)(m:j<sz)(u:dV):jL (cs.set i (c.set j u))=cs.flatten.set (i*sz+j) u:=by
 induction cs generalizing i with
 |nil=>simp at hc
 | cons d cs ih=>
  cases i with
  |zero=>
   simp at hc;subst hc;rw[XL,vH,vH,List.set_append_left _ _ (by rw[h d ai];omega)];simp
  |succ i=>
   rw[aT7,vH,vH,aV9 _ _ (by rw[h d ai,Ip];omega),h d ai,ih (λc hc=>h c (by simp[hc])) (by simpa using hc)];congr 2;rw[Ip];omega
theorem OwnT.ptr{α:Type}{r:G->α->List dV->List Lf->Prop}{cap:Nat}{xs:List α}{u:List (List Lf)}(h:OwnT r ty sz B w (.S p n cap) xs u)(y:J xs=n)(X:0<n):∃g,p=(Ad g 0)/\B<=g/\g<U (Q w)/\n<=cap:=by
 have j:=h.lt;obtain⟨cs,W,V,R,o,N,M,E⟩:=h;obtain⟨i,q⟩|⟨g,Z,s,i,m,D,x,_⟩:=o.2;{omega};{simp only[ti]at i;obtain⟨rfl,-,rfl⟩:=i;exact⟨g,rfl,m,(j.1 g rfl).2,ae⟩}
theorem OwnT.qp{E:List (List Lf)}(h:OwnT qe 65 3 B w v es E)(hM:∀a∈jL E,a.b<M)(hv:∀b,jB v=Y b->b<M):∃A,LvS w v es A/\je B w A/\∀a∈A,a.b<M:=by
 have h':OwnT (λw x c l=>qe w x c l/\∀y∈l,y.b<M) 65 3 B w v es E:=by obtain⟨cs,h1,S,D,h4,h5,h6,h7⟩:=h;exact⟨cs,h1,S,D,h4,λi x c l q hc r=>⟨h5 i x c l q hc r,λy j=>hM y (FN.2 ⟨l,bq r,j⟩)⟩,h6,h7⟩
 let⟨A,R,u⟩:=h'.lv (λx b a l=>LvSe w x b a l/\∀y∈l,y.b=b\/y.b<M) λx c l b a X hc hf V Z aG=>by obtain⟨⟨W,cc,rfl,S,D⟩,s⟩:=X;refine⟨⟨b,a,jU⟩::⟨b,a+1,jV⟩::l,⟨⟨W,cc,l,rfl,hc 2 _ rfl,D⟩,λy j=>?_⟩,?_,?_,λy j=>?_⟩;{obtain rfl|j:=gv.1 j;{exact .L rfl};{obtain rfl|j:=gv.1 j;{exact .L rfl};{exact .R (s y j)}}};{rw[mR,BS,mR,BS];refine⟨λhm=>?_,λhm=>?_,aG⟩;{obtain e|hm:=gv.1 hm;{simp at e};{let⟨y,j,e⟩:=fg.1 hm;simp only[jk]at e;exact V y j e.1}};{let⟨y,j,e⟩:=fg.1 hm;simp only[jk]at e;exact V y j e.1}};{intro y j;obtain rfl|j:=gv.1 j;{exact⟨⟨_,hc 0 _ rfl⟩,hf _⟩};{obtain rfl|j:=gv.1 j;{exact⟨⟨_,hc 1 _ rfl⟩,hf _⟩};{exact Z y j}}};{obtain rfl|j:=gv.1 j;{exact .R ⟨rfl,ai,ai⟩};{obtain rfl|j:=gv.1 j;{exact .R ⟨rfl,ai,ai⟩};{exact .L j}}}
 refine⟨A,R.imp λx b a l _ _ h=>h.1,u,λa ha=>?_⟩;obtain⟨p,c,LL,rfl,q1,rfl,m⟩:=R;let⟨l,r,AU⟩:=FN.1 ha;let⟨i,N⟩:=Dg r;have sK:=(bu.1 N).1;obtain⟨x,q⟩:∃x,es[i]?=Y x:=⟨_,bN ae⟩;obtain m|⟨b,o,rfl,m⟩:=m;{subst m;simp at q};{obtain e|e:=(m i x l q N).2 a AU;{rw[e];exact hv b rfl};{exact e}}
abbrev nW(B:Nat)(w:G)(v:dV)(l:LI):Prop:=w.ownsRow B 24 1 v (J l) (l.map (Value.int jU))
theorem nW.form(h:nW B w v l):∃p c,v=.S p (J l) c:=by
 obtain⟨rfl,i⟩|⟨g,m,j,rfl,_⟩:=h.2;{exact⟨dN,0,by rw[i]⟩};{exact⟨_,_,rfl⟩}
theorem nW.H(h:nW B w v l)(i:Bw w w'):nW B w' v l:=
 Px (row:=dN) h (eb7 i) (by by_cases e:jB v=dN<;>simp[e])
def ZT(w:G)(v:dV):Prop:=(∀(a:Addr)(n c:Nat),v=.S a n c->a.off=0/\a.spot=dN/\∀j,n<=j->j<c->I w (Ad a.block j)=dU 0)/\∀(n c:Nat),v=.S dN n c->c=0
theorem ZT.W(h:ZT w v)(i:∀b,jB v=Y b->w'.heap[b]?=w.heap[b]?):ZT w' v:=⟨λa n c e=>by
 let⟨r,q,o⟩:=h.1 a n c e;refine⟨r,q,λj m hc=>(Iz (i _ (by rw[e];rfl))).Z (o j m hc)⟩,h.2⟩
theorem ZT.nil(w:G):ZT w aq:=⟨λa n c e=>by simp at e,λn c e=>by simp only[ti]at e;exact e.2.2.C⟩
def qg(B:Nat)(w:G)(v:dV)(l:LI):Prop:=nW B w v l/\ZT w v
theorem cU0(h:j<k):(Builtin.zeroCells (Value.cells (.U 0)) k)[j]?=dU 0:=by
 have e:Value.cells (.U 0)=#[.U 0]:=rfl;rw[e,Builtin.zeroCells];simp[h,Nat.mod_one]
variable {xs:List dV}
theorem bR2(i:TypeInfo)(V:Tryz.prog.info? 24=i)(hz:i.zero=dU 0)(E:i.size=1)(hb:i.bytes=8)(M:w.ownsRow base 24 1 v n xs)(Z:ZT w v){a:Addr}(c:Nat)(hl:J news=m*1)(N:∀j u,news[j]?=Y u->I w (a.add j)=Y u)(h1:∀u∈news,u.oneCell')(Jg:n+m<=maxLen)(I8:(n+m)*8<=140737488355328)(Na:base<=U (Q w)):∃D w',(Builtin.append_ #[67,67] ty #[v,.S (Y a) m c]).run dG w=.ok D w'/\w'.ownsRow base 24 1 D (n+m) (xs++news)/\jG w w' (jB v)/\ZT w' D:=by
 let⟨D,w',R,h2,h3,h4⟩:=aS4 (P:=dG) w base 67 ty 24 i (.U 0) 1 8 Tryz.underlying67 V hz E hb rfl aX v n xs M a m c news hl N h1 Jg I8 Na;refine⟨D,w',R,h2,h3,?_⟩;have fh6:n+m<=9223372036854775807:=by simp only[maxLen]at Jg;omega
 have X:J news=m*i.size:=E▸hl;have s:∀(xs:List dV)(k K:Nat),J xs=k->∀(W:G),ZT (jA W (dO (xs.toArray++Builtin.zeroCells (Value.cells (.U 0)) (K-k)) 24)) (.T (U (Q W)) k K):=λxs k K hk W=>by refine⟨λa n c e=>?_,λn c e=>by simp at e⟩;simp only[ti,nJ]at e;obtain⟨rfl,rfl,rfl⟩:=e;refine⟨rfl,rfl,λj hj hc=>?_⟩;rw[cell_of_row _ _ _ _ _ _ (heap_alloc_new W _),Array.getElem?_append_right (by simpa[hk]using hj)];simp only[List.size_toArray,hk];exact cU0 ae
 obtain⟨rfl,rfl⟩|⟨g,B,y,rfl,I9,hg,oU,oY,U8,dM0⟩:=M.2;{by_cases hm:m=0;{rw[h4.2 ⟨rfl,hm⟩];exact ZT.nil _};{have r:=run_append_nil (P:=dG) w 67 ty 24 i (.U 0) Tryz.underlying67 V hz a m c news X N ae ae (by rw[hb];omega);rw[R]at r;simp only[Ui]at r;obtain⟨rfl,rfl⟩:=r;exact s news m _ ae w.drew}};{
 by_cases ar3:n+m<=B;{
 have U3:n*i.size+J news<=y.size:=by rw[E,hl,U8];omega
 have r:=run_append_room (P:=dG) w 67 ty 24 i Tryz.underlying67 V g n B y hg a m c news X N h1 ar3 U3;rw[R]at r;simp only[Ui]at r;obtain⟨rfl,rfl⟩:=r;refine⟨λb n' c' e=>?_,λn c e=>by simp at e⟩;simp only[ti,nJ]at e;obtain⟨rfl,rfl,rfl⟩:=e;obtain⟨-,-,q⟩:=Z.1 _ _ _ rfl;refine⟨rfl,rfl,λj hj hc=>?_⟩;have q1:=q j ae hc;rw[cell_of_row _ _ _ _ _ _ hg]at q1;rw[cell_of_row _ _ _ _ _ _ (setRow_heap w g y _ _ _ hg),E,uB,rG cg,Kd];rw[<-q1,<-aV6];congr 1;simp;omega};{have x:∀j u,xs[j]?=Y u->I w (((Ad g 0):Addr).add j)=Y u:=M.cells (g:=g) rfl;have UF:J xs=n*i.size:=E▸M.1;have r:=run_append_grow (P:=dG) w 67 ty 24 i (.U 0) Tryz.underlying67 V hz (Ad g 0) n B xs UF x a m c news X N ae ae (growslice_fits ae (hb▸I8));rw[R]at r;simp only[Ui]at r;obtain⟨rfl,rfl⟩:=r;have hx1:=M.1;have e:xs.toArray++news.toArray=(xs++news).toArray:=ai;rw[e];exact s (xs++news) (n+m) _ (by rw[eG];omega) w.drew}}
variable {x:Operand}
theorem Tq{iZ:iE}(iq:o.guard=dN){s:Operand}(ho:o.op=.call {callee:=.builtin .append,args:=#[s,x],argTypes:=#[67,67]})(v:dV){lm:LI}(lK:O (lm=l++[y]))(g:Nat)(hs:a.eval s=v)(hx:a.eval x=.T g 1 1)(du:qg B w v l)(hc:I w (Ad g 0)=dU y)(hl:J l<2^22)(hB:B<=U (Q w))(h:∀p' c' w',qg B w' (.S p' (J lm) c') lm->jG w w' (jB v)->wpList dG ops iZ rest (a.put o.dst (.S p' (J lm) c')) w'):wpList dG ops iZ (o::rest) a w:=by
 let⟨i,hi,ki,fy,gJ⟩:=og Tryz.infoU64;let⟨v',w',hr,h1,h2,h3⟩:=bR2 (ty:=o.type) i hi ki fy gJ du.1 du.2 (a:=Ad g 0) (m:=1) 1 (news:=[.U y]) rfl (λj u hu=>by
  cases j with
  |zero=>simp at hu;subst hu;rw[Ix];exact hc
  |succ j=>simp at hu) (λu hu=>by simp at hu;subst hu;rfl) kL ae hB
 refine Lib.wpList_append_run w iq s x _ _ ho _ _ hs hx _ _ hr ?_;obtain rfl:=aa lK;have km:nW B w' v' (l++[y]):=by unfold nW;rw[eG,rI];exact h1
 obtain⟨p',c',rfl⟩:=km.form;exact h p' c' w' ⟨km,h3⟩ h2
theorem qg.H(h:qg B w v l)(i:Bw w w'):qg B w' v l:=⟨h.1.H i,h.2.W λb e=>i.block b (h.1.lt b e).2⟩
theorem qg.form(h:qg B w v l):∃p c,v=.S p (J l) c:=h.1.form
theorem qg.lt(h:qg B w v l):∀k,jB v=Y k->B<=k/\k<U (Q w):=Mp h.1
theorem qg.nil(B:Nat)(w:G):qg B w aq []:=⟨by simpa[nW]using nK w B 24 1,ZT.nil w⟩
structure SD where
 e:Int
 g:Int
 x:Int
 t:Int
 E:List aC
 N:List au
def kG(ids:LI)(id:Int):LI:=ids.filter λx=>!(x==id)
def lY:LI->Int->LI
 |[],id=>[id]
 |x::r,id=>if id<=x then id::kG (x::r) id else x::lY r id
def uA(q:List Ev)(ev:Ev):List Ev:=if J q<7 then q++[ev]else if J q=7 then q++[(4,[])]else q
def Co(ss:List aC)(id:Int)(ev:Ev):List aC:=ss.map λs=>if s.1=id then(s.1,s.2.1,uA s.2.2 ev)else s
def wX(ss:List aC)(ids:LI)(ev:Ev):List aC:=ids.foldl (λss id=>Co ss id ev) ss
def kr(D:SD)(k:Nat)(i:Int):SD:=match D.N[k]? with
 |none=>D
 |some nd=>{D with E:=wX D.E nd.X (i,nd.A),N:=D.N.set k {nd with X:=[]}}
def wY(D:SD)(k:Nat):SD:={D with N:=jX D.N k}
def ko(D:SD)(k:Nat)(id:Int):SD:=match D.N[k]? with
 |none=>D
 |some nd=>if nd.y.contains id then(if kG nd.y id=[]then kr {D with N:=D.N.set k {nd with y:=[],M:=0,P:=0,F:=0}} k 3 else{D with N:=D.N.set k {nd with y:=kG nd.y id}})else D
open Go.Maps
theorem mT:Keyed dG 24:=int_keyed underlying24
theorem sG:Keyed dG 9:=string_keyed underlying9
theorem DZ{i:Int}(h:0<=i/\i<2^64):(Lit.U i).wf:=by
 simp only[Lit.wf,IntKind.min,IntKind.max,IntKind.signed,IntKind.bits,gI,lx];simp;omega
theorem mn(h:Bw w w')(row:Option Nat):jG w w' row:=⟨h.os,h.tape,h.output,h.size,λi j _=>h.block i j⟩
theorem Cw(h:Below B w0 w)(i:jG w w' row)(o:B<=U (Q w))(hr:∀j,row=Y j->B<=j):Below B w0 w':=
 ⟨i.os.Z h.os,i.tape.Z h.tape,i.output.Z h.output,fx h.size i.size,λk m=>(i.block k (mj m o) (λe=>aM (hr k e.C))).Z (h.block k m)⟩
theorem bP6{c:Nat}(V:Le ids n)(h:RdU w (.S p n c) ids)(hn:Mg n)(hU:O (∀i∈ids,0<=i/\i<2^64)):dQ dG 82 #[.S p n c] w λr w'=>∃D,r=dR (.map (U (Q w)))/\jM w' dG 24 unitElem (U (Q w)) n D/\kM D ids/\Bw w w'/\U (Q w)<U (Q w'):=by
 have HR:=af λ(w':G)(hb:Bw w w')=>h.H hb;have MP:=@an1 dG;go_in;go_wp2
 go_loopw[9](λx wr=>∃(k:Nat)(D:DataW Unit),k<=n/\x=.I k/\jM wr dG 24 unitElem (U (Q w)) k D/\O (kM D (jT k ids))/\Bw w wr) (λx _=>n-(jN (intOf x)))
 exact⟨0,_,cT _,rfl,World.ownsMap_made _ _ _ _,kM.nil,aH.alloc az _⟩;{
 obtain⟨k,D,hk,rfl,q,M,E⟩:=hrel;by_cases aL:k<n;{
 have cM:=bR k n;have m:k<J ids:=aa V▸aL;obtain⟨b,o,rfl,X⟩:∃b o,p=(Ad b o)/\I wr (Ad b (o+k))=Y (.U (jE ids k 0)):=by let⟨p',c',ev,hd⟩:=aa HR _ E;obtain⟨rfl,-,-⟩:=mg ev;obtain h0|⟨b,o,h1,h2⟩:=hd;{rw[h0]at m;simp at m};{exact⟨b,o,h1,h2 k m⟩}
 have e1:jT (k+1) ids=jT k ids++[jE ids k 0]:=by rw[sE,iR,bN m];rfl
 have R:=aa hU (jE ids k 0) (by rw[iR,bN m];exact Ao m);have s:=M.put q.isMap (jE ids k 0) (.agg []);rw[<-e1]at s;have N:=af s;let⟨y,ey⟩:=aZ (jE ids k 0);rw[ey]at X R N;have fe:keyOf dG 24 (.U y)=Y (.U y):=keyOf_int_mk underlying24 (DZ R);go_wp2_with(first
  |(at_mapUpdate;refine wpList_mapUpdate_own _ rfl _ _ _ 139 rfl 24 _ mT underlying139 unitElem (U (Q w)) k _ rfl q kL _ _ _ rfl rfl fe (.agg []) [] unitElem_mk ?_;intro w1 Ku B)
  |go_in)
 go_roundw;exact⟨k+1,_,ae,by go_num,Ku,N,Cw E B (an9 (aR6 az q.lt)) (λj Z=>by cases Z;exact fq _)⟩;exact dh};{
 have cM:=fG k n;have:k=n:=by omega
 subst this;have W:=aa M;rw[od (aa V▸fq _)]at W;go_wp2;go_ret;exact⟨rfl,D,q,W,E,q.lt⟩}}
theorem aA1{m nd ns:Nat}{o ss:LI}(hd:jM w dG 24 unitElem m nd Dd)(E:jM w dG 24 unitElem bs ns Ds)(Yk:O (kM Dd o))(Yj:O (kM Ds ss))(aN:m≠bs)(hn:nd<=2^62)(hm:ns<=2^20):dQ dG 155 #[.map m,.map bs] w λr w'=>∃D s,r=dR (dT #[])/\jM w' dG 24 unitElem m (nd+ns) D/\kM D s/\(∀i,i∈s↔i∈o\/i∈ss)/\jG w w' m:=by
 have HS:=E;go_in;go_wp2_with(first
  |(at_range;refine wpList_range_own _ rfl _ 139 rfl 24 _ mT underlying139 _ bs ns _ rfl E ?_;intro w0 uF X xR)
  |go_in)
 go_frame
 go_loopw[4](λ_ wr=>∃(left:Lit->Bool)(B k:Nat)(D:DataW Unit)(s:LI),wr.ranges dG 24 unitElem bs (U (Q w)) ns Ds left B/\k+B<=nd+ns/\jM wr dG 24 unitElem m k D/\O (kM D s)/\O (∀i,i∈s↔i∈o\/(i∈ss/\left (.U i)=dF))/\jG w wr m) (λ_ wr=>wr.rangeLeft bs (U (Q w)))
 case atStart=>(
 refine⟨_,_,nd,Dd,o,uF,?_,hd.kept X ai,Yk,?_,X.but _⟩;{have:=E.size_le;omega};{intro i;constructor;{exactλh=>.L h};{rintro(h|⟨h1,h2⟩);{exact h};{rw[(aa Yj (.U i)).2 ⟨i,h1,rfl⟩]at h2;cases h2}}})
 case round=>(
 obtain⟨left,B,k,D,s,M,hkc,N,W,Z,u⟩:=hrel;go_wp2_with(first
  |(at_next;refine cW3 _ rfl _ rfl 24 mT underlying24 bs (U (Q w)) ns _ ss Yj _ _ rfl M ?_ ?_)
  |go_in)
 {intro _ qL;go_wp2;go_end0;refine⟨D,s,rfl,N.h ae,W,λi=>?_,u⟩;rw[aa Z i,qL];simp};{
 intro x w1 xy Yg hx hlx vQ aL dw fh tA;have R:=u.andThen dw (λj q=>by cases q;exact Or.L az);have hr:=M.lt;have Ku:=N.kept dw (λe=>by cases e;exact absurd hd.lt ae);have fe:keyOf dG 24 (.U x)=Y (.U x):=keyOf_int_mk underlying24 Yg;have V:=af (W.put N.isMap x (.agg []));have S:O (∀i,i∈s++[x]↔i∈o\/(i∈ss/\(λz=>left z&&!z.sameKey (.U x)) (.U i)=dF)):=by
  intro i;rw[jg,aa Z i];simp only[td];have hk:((Lit.U i).sameKey (.U x)=dY)↔i=x:=by rw[an0 (by trivial)];simp
  by_cases e:i=x;{subst e;rw[hk.2 rfl];simp[hx]};{rw[show(Lit.U i).sameKey (.U x)=dF by(rw[Eh];exactλh=>e (hk.1 h))];simp[e]}
 go_wp2_with(first
  |(at_mapUpdate;refine wpList_mapUpdate_own _ rfl _ _ _ 139 rfl 24 _ mT underlying139 unitElem m k _ rfl (Ku.alloc _) kL _ _ _ rfl rfl fe (.agg []) [] unitElem_mk ?_;intro w2 Qo y)
  |go_in)
 have Qi:=(vQ.alloc _).kept y (by simp;exactλe=>aN e.C) (by simp;intro e;exact absurd hd.lt ae);go_roundw;exact⟨_,xy,Qi,k+1,ae,_,Qo,_,V,S,(R.andThen (Xw _ _ dN) (λj q=>by cases q)).andThen y (λj q=>by cases q;exact Or.R rfl)⟩
 case measure=>rw[Qi.left_eq,M.left_eq];omega})
theorem RM:(bf l).data.toList=l.map (λn=>UInt8.ofNat (jN n)):=by rw[bf,cG6];rfl
theorem DM:(bf l).size=J l:=by
 show(bf l).data.size=_;rw[<-Array.length_toList,RM,iH]
theorem cG5(o:aA l)(m:j<(bf l).size):(((bf l)[j]'m).toNat:Int)=jE l j 0:=by
 have i:j<J l:=by rw[<-DM];exact m
 have q:(bf l)[j]'m=(bf l).data.toList[j]'(by rw[RM,iH];exact i):=by rw[Array.getElem_toList];rfl
 rw[q];simp only[RM,aU2];rw[iR,bN i,ta];have:=o l[j] (Ao i);rw[UInt8.toNat_ofNat'];omega
theorem dC8(es:O (s=bf l))(B:s.size=n)(x:O (aA l))(N:n<=2^21):dQ dG 224 #[jJ s,jK .u8 47] w λe w'=>((∃k:Nat,e=dR (.I k)/\k<n/\xn l n=k)\/(e=dR (.I (-1))/\xn l n=0/\∀j,j<n->jE l j 0≠47))/\w'=w:=by
 have i:O (∀(j:Nat)(m:j<s.size),((s[j]'m).toNat:Int)=jE l j 0):=by obtain rfl:=aa es;exactλj m=>cG5 x m
 subst B;go_in;go_wp2
 go_loop [5](λvi=>∃k:Nat,k<=s.size/\vi=.I ((k:Int)-1)/\O (xn l s.size=xn l k)/\O (∀j,k<=j->j<s.size->jE l j 0≠47)) (λvi=>((RowKit.intOf vi)+1).toNat)
 case atStart=>exact⟨s.size,fq _,by first|rfl|go_num|(congr 1;omega),cO,λj y r=>ae⟩
 case round=>(
 obtain⟨k,R,rfl,o,hq⟩:=hrel;go_wp2;{
 have hc:(((s[k-1]).toNat:Int)==47):=by assumption
 have u:1<=k:=ae;have q:xn l k=k-1:=by have:=XN l (k-1);rw[show k-1+1=k by omega]at this;rw[this,aK];rw[<-aa i (k-1) ae];simpa using hc
 have M:((k-1:Nat):Int)=(k:Int)-1:=ae;go_ret;refine⟨.L ⟨k-1,by rw[M];rfl,ae,by rw[aa o,q]⟩,rfl⟩};{
 have hc:(((s[k-1]).toNat:Int)==47)=dF:=by assumption
 have u:1<=k:=ae;have q:xn l k=xn l (k-1):=by have:=XN l (k-1);rw[show k-1+1=k by omega]at this;rw[this,aJ];rw[<-aa i (k-1) ae];simpa using hc
 have E:jE l (k-1) 0≠47:=by rw[<-aa i (k-1) ae];simpa using hc
 refine⟨⟨k-1,ae,by congr 1;omega,o.Z q,λj y r=>?_⟩,?_⟩;{by_cases D:j=k-1;{rw[D];exact E};{exact hq j ae r}};simp[RowKit.intOf];omega};{obtain rfl:k=0:=ae;go_ret;exact⟨.R ⟨rfl,o,λj m=>aa hq j (cT _) m⟩,rfl⟩})
theorem dC7(es:O (s=bf l))(x:s.size=n)(u:O (aA l))(q:n<=2^21):dQ dG 206 #[jJ s,jK .u8 47] w λe w'=>((∃k:Nat,e=dR (.I k)/\k<n/\xn l n=k)\/(e=dR (.I (-1))/\xn l n=0/\∀j,j<n->jE l j 0≠47))/\w'=w:=by
 go_in
 go_wp21
 refine(dC8 es x u q).h ?_;rintro e w'⟨o,rfl⟩;obtain⟨k,rfl,r,i⟩|⟨rfl,i⟩:=o;{have m:=af i;go_wp2;go_ret;exact⟨.L ⟨k,rfl,r,m⟩,rfl⟩};{have m:=af i;go_wp2;go_ret;exact⟨.R ⟨rfl,m⟩,rfl⟩}
theorem aP5(o:Le l n)(y:O (aA l))(B:Mg n):dQ dG 154 #[jJ (bf l)] w λe w'=>e=dR (jJ (bf (im l)))/\w'=w:=by
 let⟨s,es⟩:=aF (bf l);have u:s.size=n:=by rw[es,DM];exact aa o
 rw[<-es];have r:=af es;clear es;go_in
 go_wp21
 refine(dC7 r u y ae).h ?_;rintro e w'⟨x,rfl⟩;obtain⟨k,rfl,D,j⟩|⟨rfl,j,-⟩:=x;{
 by_cases q:k=0;{
 subst q;have i:im l=[47]:=by rw[im,aa o,j,aK rfl]
 have m:=af i;clear j i;go_wp2;go_ret;exact⟨by rw[aa m];rfl,rfl⟩};{
 have i:im l=jT k l:=by rw[im,aa o,j,aJ q]
 have m:=af i;clear i;have N:¬(k:Int)<1:=ae;have M:=nT k n;have E:k<=s.size:=ae;have ex:O (s.extract 0 k=bf (jT k l)):=by show _=_;rw[aa r];apply ca0;apply ao0.1;rw[RM,List.map_take,<-RM];simp[dz0]
 clear j;go_wp2;go_ret;exact⟨by rw[aa m,<-aa ex];rfl,rfl⟩}};{
 have i:im l=[47]:=by rw[im,aa o,j,aK rfl]
 have m:=af i;clear j i;go_wp2;go_ret;exact⟨by rw[aa m];rfl,rfl⟩}
structure zt(w0 w:G)(bs:Nat)(ss:List aC)(SB:iN):Prop where
 len:J SB=J ss
 own:∃D,jM w dG 24 iB bs (J ss) D/\qC D (jZ (λ(s:aC)g=>(Lit.U s.1,g)) ss SB)
 blk:∀(i:Nat)(s:aC)(g:Nat),ss[i]?=s->SB[i]?=Y g->U (Q w0)<=g/\∃u,w.heap[g]?=dO #[.U s.1,.I s.2.1,u] 65/\ur w0 u s.2.2
 kc:SB.Nodup
structure xC(w0 w:G)(bn:Nat)(ns:List au)(NB HB UB:iN):Prop where
 len:J NB=J ns
 MG:J HB=J ns
 MF:J UB=J ns
 own:∃D,jM w dG 9 iB bn (J ns) D/\qC D (jZ (λ(nd:au)g=>(dr nd.A,g)) ns NB)
 blk:∀(i:Nat)(nd:au)(g h u:Nat),ns[i]?=nd->NB[i]?=Y g->HB[i]?=h->UB[i]?=u->U (Q w0)<=g/\U (Q w0)<=h/\U (Q w0)<=u∧
  (∃V,w.heap[g]?=dO #[V,.U nd.D,.I nd.M,.map h,.U nd.P,.U nd.F,.map u] 142/\Rd w0 V nd.V)∧
  (∃D,jM w dG 24 unitElem h (J nd.y) D/\kM D nd.y)/\(∃D,jM w dG 24 unitElem u (J nd.X) D/\kM D nd.X)
 kc:NB.Nodup
 wu:(bn::(HB++UB)).Nodup
variable {t:TypeId}{cs:iA}
theorem ak9{k:TypeId}{R:dV->Option (DataW Unit×List MemPlace)}{g:Nat}(h:jM w P k R b n D)(i:w.heap[g]?=dO cs t):g≠b:=by
 rintro rfl;obtain⟨es,m,j,_⟩:=h;rw[j]at i;cases i
theorem gD{g:Nat}{o:Obj}(h:w.heap[g]?=o):g<U (Q w):=(Ke.1 h).1
theorem zt.kept(h:zt w0 w bs ss SB)(m:jG w w' row)(B:Y bs≠row)(y:∀g∈SB,Y g≠row):zt w0 w' bs ss SB:=by
 refine⟨h.len,?_,λi s g q j=>?_,h.kc⟩;{let⟨D,x,r⟩:=h.own;exact⟨D,x.kept m B,r⟩};{let⟨M,u,o,E⟩:=h.blk i s g q j;exact⟨M,u,(m.block g (gD o) (y g (bq j))).Z o,E⟩}
theorem xC.kept{NB HB UB:iN}(h:xC w0 w bn ns NB HB UB)(j:jG w w' row)(R:Y bn≠row)(N:∀g∈NB,Y g≠row)(q:∀g∈HB++UB,Y g≠row):xC w0 w' bn ns NB HB UB:=by
 refine⟨h.len,h.MG,h.MF,?_,λi x g B u y o m s=>?_,h.kc,h.wu⟩;{let⟨D,M,E⟩:=h.own;exact⟨D,M.kept j R,E⟩};{let⟨a1,a2,a3,⟨V,r,a5⟩,⟨D1,Z,X⟩,⟨D2,W,S⟩⟩:=h.blk i x g B u y o m s;exact⟨a1,a2,a3,⟨V,(j.block g (gD r) (N g (bq o))).Z r,a5⟩,⟨D1,Z.kept j (q _ (jg.2 (.L (bq m)))),X⟩,⟨D2,W.kept j (q _ (jg.2 (.R (bq s)))),S⟩⟩}
theorem cu5{α:Type}{l:List α}{x y:α}(h:(l++[x])[i]?=y):l[i]?=y\/(i=J l/\x=y):=by
 by_cases j:i<J l;{rw[qw j]at h;exact .L h};{rw[rG ae]at h;right;let⟨m,e⟩:=bu.1 h;simp at m;refine⟨ae,?_⟩;simpa[show i-(J l)=0 by omega]using h}
theorem bH2{α β γ:Type}(f:α->β->γ){l:List α}{m:List β}(h:J m=J l)(x:α)(y:β):jZ f (l++[x]) (m++[y])=jZ f l m++[f x y]:=by
 rw[aU1 ae];rfl
theorem yv{α β γ:Type}{f:α->β->γ}{l:List α}{m:List β}{z:γ}(h:z∈jZ f l m):∃(i:Nat)(x:α)(y:β),l[i]?=x/\m[i]?=y/\z=f x y:=by
 obtain⟨i,j,rfl⟩:=Mv h;rw[List.length_zipWith]at j;refine⟨i,l[i]'(by omega),m[i]'(by omega),bN _,bN _,?_⟩;simp
theorem zt.empty(h:jM w dG 24 iB bs 0 (.map [])):zt w0 w bs [] []:=
 ⟨rfl,⟨_,h,qC.nil⟩,λi s g j=>by simp at j,an8⟩
theorem xC.empty(h:jM w dG 9 iB bn 0 (.map [])):xC w0 w bn [] [] [] []:=
 ⟨rfl,rfl,rfl,⟨_,h,qC.nil⟩,λi s g _ _ j=>by simp at j,an8,ai⟩
theorem zt.lt(h:zt w0 w bs ss SB):∀g∈SB,g<U (Q w):=by
 intro g q;let⟨i,j⟩:=Dg q;have o:=(bu.1 j).1;obtain⟨s,m⟩:∃s,ss[i]?=Y s:=⟨_,bN (h.len▸o)⟩;let⟨_,u,r,_⟩:=h.blk i s g m j;exact gD r
theorem xC.at{NB HB UB:iN}(h:xC w0 w bn ns NB HB UB)(m:ns[i]?=nd):∃g o u,NB[i]?=Y g/\HB[i]?=Y o/\UB[i]?=Y u:=by
 have j:=(bu.1 m).1;exact⟨_,_,_,bN (h.len▸j),bN (h.MG▸j),bN (h.MF▸j)⟩
theorem xC.lt{NB HB UB:iN}(h:xC w0 w bn ns NB HB UB):(∀g∈NB,g<U (Q w))/\∀g∈HB++UB,g<U (Q w):=by
 have key:∀i,i<J ns->∃g r u,NB[i]?=Y g/\HB[i]?=Y r/\UB[i]?=Y u/\g<U (Q w)/\r<U (Q w)/\u<U (Q w):=λi m=>by let⟨D,B⟩:=sj m;let⟨g,r,u,j,y,x⟩:=h.at B;let⟨_,_,_,⟨V,N,_⟩,⟨S,M,_⟩,⟨R,E,_⟩⟩:=h.blk i D g r u B j y x;exact⟨g,r,u,j,y,x,gD N,M.lt,E.lt⟩
 refine⟨λg o=>?_,λg o=>?_⟩;{let⟨i,m⟩:=Dg o;have q:=(bu.1 m).1;let⟨s,_,_,j,_,_,a,_,_⟩:=key i (h.len▸q);rw[m]at j;cases j;exact a};{obtain o|o:=jg.1 o;{let⟨i,m⟩:=Dg o;have q:=(bu.1 m).1;let⟨_,s,_,_,j,_,_,a,_⟩:=key i (h.MG▸q);rw[m]at j;cases j;exact a};{let⟨i,m⟩:=Dg o;have q:=(bu.1 m).1;let⟨_,_,s,_,_,j,_,_,a⟩:=key i (h.MF▸q);rw[m]at j;cases j;exact a}}
variable {l:iN}
theorem bX1{x:Nat}(h:l.Nodup)(j:∀y∈l,y≠x):(l++[x]).Nodup:=by
 rw[Ek];exact⟨h,ai,λa m b i=>by simp at i;subst i;exact j a m⟩
theorem zt.step(h:zt w0 w bs ss SB)(s:aC)(g:Nat)(hg:jG w w1 dN)(Ez:U (Q w)<=g)(hw:U (Q w0)<=U (Q w))(u:dV)(X:ur w0 u s.2.2)(N:w1.heap[g]?=dO #[.U s.1,.I s.2.1,u] 65)(m:∀z∈ss,z.1≠s.1)(hM:qC D (jZ (λ(s:aC)g=>(Lit.U s.1,g)) ss SB))(r:IsMap D)(du:jM w2 dG 24 iB bs (J ss+1) (D.put (.U s.1) (.lit (.I g))))(R:jG w1 w2 bs):zt w0 w2 bs (ss++[s]) (SB++[g]):=by
 have gy:bs<U (Q w):=by obtain⟨D,r,_⟩:=h.own;exact r.lt
 refine⟨by simp[h.len],⟨_,by rw[eG];exact du,?_⟩,λi z B hi j=>?_,bX1 h.kc (λy M=>aM (h.lt y M))⟩;{rw[bH2 _ h.len];refine hM.put r (by trivial) (λp Z=>?_) g;obtain⟨i,x,y,W,M,rfl⟩:=yv Z;intro e;simp only[Mq,Iq]at e;exact m x (bq W) e};{obtain V|⟨e1,rfl⟩:=cu5 hi;{have hl:=(bu.1 V).1;rw[qw (h.len▸hl)]at j;let⟨a1,v,E,a3⟩:=h.blk i z B V j;refine⟨a1,v,?_,a3⟩;have S:=(hg.block B (gD E) ai).Z E;refine(R.block B (gD S) ?_).Z S;let⟨D',o,_⟩:=h.own;have:=ak9 o E;simpa using this};{rw[e1,<-h.len,rG az]at j;simp at j;subst j;refine⟨ae,u,?_,X⟩;exact(R.block _ (gD N) cg).Z N}}
structure Jv(w0 w:G)(b bs bn:Nat)(e g x t:Int)(ss:List aC)(ns:List au)(SB NB HB UB:iN):Prop where
 hd:w.heap[b]?=dO #[.U e,.U g,.U x,.I t,.map bs,.map bn] 135
 Af:zt w0 w bs ss SB
 kc:xC w0 w bn ns NB HB UB
 lo:U (Q w0)<=b/\U (Q w0)<=bs/\U (Q w0)<=bn
 wu:(bs::bn::(HB++UB)).Nodup
theorem Jv.H{x t:Int}{SB NB HB UB:iN}(h:Jv w0 w b bs bn e g x t ss ns SB NB HB UB)(i:Bw w w'):Jv w0 w' b bs bn e g x t ss ns SB NB HB UB:=
 ⟨(i.block b (gD h.hd)).Z h.hd,h.Af.kept (mn i dN) ai ai,h.kc.kept (mn i dN) ai ai ai,h.lo,h.wu⟩
theorem cX{g:Nat}(h:w.heap[g]?=dO cs t)(i:Nat):I w (Ad g i)=cs[i]?:=by
 unfold World.cell?;rw[h];rfl
theorem xC.step{NB HB UB:iN}(h:xC w0 w bn ns NB HB UB)(nd:au)(g m j:Nat)(R:jG w w1 dN)(Ez:U (Q w)<=g)(Ey:U (Q w)<=m)(Es:U (Q w)<=j)(aN:m≠j)(hw:U (Q w0)<=U (Q w))(V:dV)(hV:Rd w0 V nd.V)(M6:w1.heap[g]?=dO #[V,.U nd.D,.I nd.M,.map m,.U nd.P,.U nd.F,.map j] 142)(hH:jM w1 dG 24 unitElem m (J nd.y) D1)(X:kM D1 nd.y)(hU:jM w1 dG 24 unitElem j (J nd.X) D2)(W:kM D2 nd.X)(N:∀z∈ns,dr z.A≠dr nd.A)(hM:qC D (jZ (λ(nd:au)g=>(dr nd.A,g)) ns NB))(hD:IsMap D)(du:jM w2 dG 9 iB bn (J ns+1) (D.put (dr nd.A) (.lit (.I g))))(s:jG w1 w2 bn):xC w0 w2 bn (ns++[nd]) (NB++[g]) (HB++[m]) (UB++[j]):=by
 have nO:bn<U (Q w):=by obtain⟨D,hD,_⟩:=h.own;exact hD.lt
 have aL:=h.lt;refine⟨by simp[h.len],by simp[h.MG],by simp[h.MF],⟨_,by rw[eG];exact du,?_⟩,λi z g' h' u' hi B r u=>?_,bX1 h.kc (λy hy=>aM (aL.1 y hy)),?_⟩;{rw[bH2 _ h.len];refine hM.put hD (by trivial) (λp E=>?_) g;obtain⟨i,x,y,hx,hy,rfl⟩:=yv E;exactλe=>N x (bq hx) e};{
 obtain Gs|⟨e1,rfl⟩:=cu5 hi;{
 have M:=(bu.1 Gs).1;rw[qw (h.len▸M)]at B;rw[qw (h.MG▸M)]at r;rw[qw (h.MF▸M)]at u;let⟨a1,a2,a3,⟨V',a4,a5⟩,⟨E1,a6,a7⟩,⟨E2,a8,a9⟩⟩:=h.blk i z g' h' u' Gs B r u;have o:=h.wu;rw[BS]at o;have n1:Y h'≠Y bn:=by intro e;cases e;exact o.1 (jg.2 (.L (bq r)))
 have n2:Y u'≠Y bn:=by intro e;cases e;exact o.1 (jg.2 (.R (bq u)))
 have b1:=(R.block g' (gD a4) ai).Z a4;refine⟨a1,a2,a3,⟨V',(s.block g' (gD b1) ?_).Z b1,a5⟩,⟨E1,(a6.kept R ai).kept s n1,a7⟩,⟨E2,(a8.kept R ai).kept s n2,a9⟩⟩;let⟨D',Z,_⟩:=h.own;have:=ak9 Z a4;simpa using this};{rw[e1,<-h.len,rG az]at B;rw[e1,<-h.MG,rG az]at r;rw[e1,<-h.MF,rG az]at u;simp at B r u;subst B r u;exact⟨ae,ae,ae,⟨V,(s.block _ (gD M6) cg).Z M6,hV⟩,⟨D1,hH.kept s cg,X⟩,⟨D2,hU.kept s cg,W⟩⟩}};{
 have E:((HB++[m])++(UB++[j])).Perm ((HB++UB)++[m,j]):=by rw[pO,pO];exact List.Perm.append_left HB (show(m::(UB++[j])).Perm (UB++m::[j])from aU0.C)
 have hq:(bn::((HB++[m])++(UB++[j]))).Perm ((bn::(HB++UB))++[m,j]):=E.cons bn;rw[hq.nodup_iff,Ek];refine⟨h.wu,by simp[aN],λa S c hc=>?_⟩;have AU:a<U (Q w):=by obtain rfl|S:=gv.1 S;{exact nO};{exact aL.2 a S}
 simp at hc;obtain rfl|rfl:=hc<;>omega}
theorem bM4{s:iE}(r:o.guard=dN){m v:Operand}(i:o.op=Op.mapUpdate t m x v){k e:TypeId}(X:Keyed P k)(M:P.underlying t=Y (.map k e))(R:dV->Option (DataW Unit×List MemPlace))(b n:Nat) (hm:a.eval m=.map b)(W:jM w P k R b n D)(N:n<maxLen){key:dV}(val:dV)(u:a.eval x=key)(B:a.eval v=val)(S:keyOf P k key=kl){d:DataW Unit}(Z:R val=Y (d,ps))(hK:∀w',jM w' P k R b (n+1) (D.put kl d)->jG w w' b->K (a.put o.dst jQ) w'):if jW o (yielded ops a.tmps)then Oper.wp P o a w K s else E:=by
 have y:jW o (yielded ops a.tmps):=by simp[jW,r]
 rw[aK y];let⟨w',V,q,j⟩:=W.update X M N S Z;unfold Oper.wp;simp[execOp,i,hm,u,B,V,Result.andThen];exact hK w' q j
theorem dc2{m:iE}(j:o.guard=dN)(i:o.op=Op.box t x)(q:a.eval x=v)(u:(Instr.box t v).run P w=.ok r w')(hK:K (a.put o.dst r) w'):if jW o (yielded ops a.tmps)then Oper.wp P o a w K m else E:=by
 have s:jW o (yielded ops a.tmps):=by simp[jW,j]
 rw[aK s];unfold Oper.wp;simp[execOp,i,q,u,Result.andThen];exact hK
theorem dk1{h u:Nat}:(Instr.box 142 (jP #[V,.U ow,.I mo,.map h,.U ep,.U ge,.map u])).run dG w=.ok (Pz (U (Q w))) (jA w (dO #[V,.U ow,.I mo,.map h,.U ep,.U ge,.map u] 142)):=by
 go_simp
theorem WK{α:Type}{l:List α}{y:α}(h:l[k]?=y):jT (k+1) l=jT k l++[y]:=by rw[sE,h];rfl
theorem bZ3{α:Type}{l:List α}{z:α}(h:z∈jT k l):∃i,i<k/\l[i]?=z:=by
 let⟨i,j⟩:=Dg h;rw[PR]at j;split at j;{exact⟨i,by assumption,j⟩};{cases j}
theorem sa(h:w'.heap[b]?=w.heap[b]?){o:Nat}:I w' (Ad b o)=I w (Ad b o):=by
 unfold World.cell?;rw[h]
theorem gH.heap{x t:Int}(h:gH w b e g x t S N)(i:w'.heap[b]?=w.heap[b]?):gH w' b e g x t S N:=
 ⟨(sa i).Z h.1,(sa i).Z h.2.1,(sa i).Z h.2.2.1,(sa i).Z h.2.2.2.1,(sa i).Z h.2.2.2.2.1,(sa i).Z h.2.2.2.2.2⟩
theorem gp{X:G}(h:jG X.drew w2 row):jG X w2 row:=⟨h.os,h.tape,h.output,h.size,h.block⟩
theorem Ty{x t:Int}{c:Nat}(en:Le ss n)(em:Le ns m)(h:mJ w (.S p n c) ss)(hN:iy w (.S q m d) ns)(hn:Mg n)(hm:Mg m)(hsu:O (∀s∈ss,0<=s.1/\s.1<2^64))(Yk:O (∀(i j:Nat)(s s':aC),ss[i]?=Y s->ss[j]?=s'->i<j->s.1≠s'.1))(cW:O (Bn ns))(mU:O (Bu ns))(aG:O (∀(i j:Nat)(z z':au),ns[i]?=Y z->ns[j]?=z'->i<j->z.A≠z'.A)):dQ dG 43 #[bS e g x t (.S p n c) (.S q m d)] w λr w'=>∃b bs bn SB NB HB UB,r=dR (Pz b)/\Jv w w' b bs bn e g x t ss ns SB NB HB UB/\Bw w w':=by
 have HR:=af λ(w':G)(hb:Bw w w')=>aD (h.H hb) (hN.H hb);have HS0:=af h;have HN0:=af hN;clear h hN;have MP:=@an1 dG;go_in
 go_wp21
 let⟨b,eb⟩:=aF (U (Q w)+1+1+1);let⟨bn,Fa⟩:=aF (U (Q w)+1+1);let⟨bs,Nx⟩:=aF (U (Q w)+1);rw[<-eb,<-Fa,<-Nx];let⟨W,hW⟩:=aF ((((w.alloc (dO #[.U e,.U g,.U x,.I t,.S p n c,.S q m d] 34)).alloc (.map #[] 0)).alloc (.map #[] 0)).alloc (dO #[.U e,.U g,.U x,.I t,.map (Y bs),.map (Y bn)] 135));have bW:Bw w W:=by rw[hW];exact(((aH.alloc az _).alloc ai _).alloc cg _).alloc cg _
 have zW:U (Q W)=U (Q w)+4:=by rw[hW];simp
 have hdW:W.heap[b]?=Y (dO #[.U e,.U g,.U x,.I t,.map (Y bs),.map (Y bn)] 135):=by rw[hW,eb];have:=(aS3 (((w.alloc (dO #[.U e,.U g,.U x,.I t,.S p n c,.S q m d] 34)).alloc (.map #[] 0)).alloc (.map #[] 0)) (dO #[.U e,.U g,.U x,.I t,.map (Y bs),.map (Y bn)] 135)).1;simpa using this
 have oS:W.ownsMap dG 24 iB bs 0 (.map []):=by rw[hW,Nx];have:=((World.ownsMap_made (w.alloc (dO #[.U e,.U g,.U x,.I t,.S p n c,.S q m d] 34)) dG 24 iB).alloc (.map #[] 0)).alloc (dO #[.U e,.U g,.U x,.I t,.map (Y (U (Q w)+1)),.map (Y bn)] 135);simpa using this
 have oN:W.ownsMap dG 9 iB bn 0 (.map []):=by rw[hW,Fa];have:=(World.ownsMap_made ((w.alloc (dO #[.U e,.U g,.U x,.I t,.S p n c,.S q m d] 34)).alloc (.map #[] 0)) dG 9 iB).alloc (dO #[.U e,.U g,.U x,.I t,.map (Y bs),.map (Y (U (Q w)+1+1))] 135);simpa using this
 have c6:gH W (U (Q w)) e g x t (.S p n c) (.S q m d):=by
  have c0:gH (w.alloc (dO #[.U e,.U g,.U x,.I t,.S p n c,.S q m d] 34)) (U (Q w)) e g x t (.S p n c) (.S q m d):=by simp[gH]
  rw[hW];exact c0.H (((aH.alloc az _).alloc ai _).alloc ai _)
 rw[<-hW];have HEQ:=jq eb Fa Nx zW;have BW:=af bW;have Fl:=af c6;have Ht:=dy hdW oS oN;clear hW eb Fa Nx zW bW hdW oS oN c6 MP
 go_loopw[23](λiv wr=>∃(k:Nat)(SB:iN),k<=n/\iv=.I k/\O (zt w wr bs (jT k ss) SB/\wr.heap[b]?=Y (dO #[.U e,.U g,.U x,.I t,.map (Y bs),.map (Y bn)] 135)/\wr.ownsMap dG 9 iB bn 0 (.map [])/\gH wr (U (Q w)) e g x t (.S p n c) (.S q m d))/\Bw w wr/\U (Q W)<=U (Q wr)) (λiv _=>n-(jN (intOf iv)))
 exact⟨0,[],cT _,rfl,⟨zt.empty Ht.2.1,Ht.1,Ht.2.2,Fl⟩,BW,fq _⟩;{
 obtain⟨k,SB,hk,rfl,iW,N,Au⟩:=hrel;by_cases aL:k<n;{
 have cM:=bR k n;have db:k<J ss:=by rw[aa en];exact aL
 let⟨⟨iI,D,iZ⟩,hy⟩:=sj db;obtain⟨b0,o,rfl,hcI,hcD,u,YN,Qj⟩:∃b o,p=(Ad b o)/\I w (Ad b (o+k*3))=Y (.U iI)/\I w (Ad b (o+k*3+1))=Y (.I D)/\∃u,I w (Ad b (o+k*3+2))=Y u/\ur w u iZ:=by let⟨p',c',ev,hd⟩:=aa HS0;obtain⟨rfl,-,-⟩:=mg ev;obtain h0|⟨b,o,h1,h2⟩:=hd;{rw[h0]at db;simp at db};{exact⟨b,o,h1,h2 k _ hy⟩}
 obtain⟨pq,cq,rfl,-⟩:=id Qj;let⟨mq,emq⟩:=aZ (J iZ);rw[emq]at Qj YN;clear emq;replace hcI:=aj hcI N;replace hcD:=aj hcD N;replace YN:=aj YN N;have Wd:=af Qj;have HY:=af hy;have hI:=aa hsu _ (bq hy);have fe:keyOf dG 24 (.U iI)=Y (.U iI):=keyOf_int_mk underlying24 (DZ hI);have JG:=af fe
 go_wp21
 let⟨X,hX⟩:=aF (wr.alloc (dO #[.U iI,.I D,.S pq mq cq] 65));have bX:=ij hX;have tZ:X.heap[U (Q wr)]?=Y (dO #[.U iI,.I D,.S pq mq cq] 65):=by rw[hX];exact(aS3 wr _).1
 have hcX:I X (Aw wr 0)=Y (.U iI):=by rw[hX];simp
 let⟨i1,i2,i3,i4⟩:=aa iW;have jl:X.heap[b]?=Y (dO #[.U e,.U g,.U x,.I t,.map (Y bs),.map (Y bn)] 135):=(bX.block b (gD i2)).Z i2;have AM:I X (Ad b 4)=Y (.map (Y bs)):=cX jl 4;rw[<-hX];have zX:U (Q X)=U (Q wr)+1:=by rw[hX];simp
 let⟨D0,oD,mD⟩:=i1.own;have hlen:J (jT k ss)=k:=by rw[te,aa en];omega
 rw[hlen]at oD;have oX:X.ownsMap dG 24 iB bs k D0:=oD.kept (mn bX dN) ai;have gy:bs<U (Q wr):=oD.lt;have cn4:bs≠b:=λe=>ak9 oD i2 e.C;have KX:=br AM hcX;have OX:=af oX;refine fK (λw'=>I w' (Ad b 4)=Y (.map (Y bs))/\I w' (Aw wr 0)=Y (.U iI)) (by exact KX) λhS=>?_;refine iL 0 1 2 3 hS ?_;refine gh 4 5 hS ?_;refine ft 6 λKK hK=>?_;refine bM4 aP (t:=132) aP (k:=24) mT underlying132 iB bs k (D:=D0) aP (by exact OX.drew) kL (key:=.U iI) (Pz (U (Q wr))) (kl:=.U iI) aP aP JG (d:=.lit (.I (U (Q wr)))) (ps:=[]) rfl ?_;intro M Qo dz;have KE:X.grownBy M (Y bs):=gp dz;refine bQ hK (by exact⟨(sa (KE.block b (gD jl) (by simpa using cn4.C))).Z KX.1,(sa (KE.block (U (Q wr)) (gD tZ) cg)).Z KX.2⟩) λhS=>?_;clear hK KK;refine ga ?_;have bD:zt w M bs (jT (k+1) ss) (SB++[U (Q wr)]):=by rw[WK (aa HY)];refine i1.step (iI,D,iZ) (U (Q wr)) (mn bX dN) az N.size (.S pq mq cq) Wd tZ (λz hz=>?_) mD oD.isMap (by rw[hlen];exact Qo) KE;let⟨i,hi,vM⟩:=bZ3 hz;exact Yk i k z (iI,D,iZ) vM HY hi
 have xr:M.ownsMap dG 9 iB bn 0 (.map []):=(i3.kept (mn bX dN) ai).kept KE (by have:=(aa HEQ);simp;omega)
 have ay:M.heap[b]?=Y (dO #[.U e,.U g,.U x,.I t,.map (Y bs),.map (Y bn)] 135):=(KE.block b (gD jl) (by simpa using cn4.C)).Z jl;have h62:gH M (U (Q w)) e g x t (.S (Ad b0 o) n c) (.S q m d):=(i4.H bX).heap (KE.block (U (Q w)) (aM N.size) (by have:=aa HEQ;simp;omega));have fw:Bw w M:=Cw (ah N bX) KE (aM N.size) (λj hj=>by cases hj;have:=aa HEQ;omega);have gJ:U (Q W)<=U (Q M):=aM KE.size;have HIN:=jq bD ay xr h62;clear bD ay xr h62 hS Qo dz KE i1 i2 i3 i4 jl oD mD tZ bX;go_wp2;go_roundw;exact⟨k+1,_,ae,by go_num,HIN,fw,gJ⟩;exact dh};{
 have cM:=fG k n;obtain rfl:k=n:=ae;let⟨i1,i2,i3,i4⟩:=aa iW;rw[od (by rw[aa en];exact fq _)]at i1;have j0:=id i4;have I1:=af i1;have I2:=af i2;have I3:=af i3;have I4:=af i4;clear i1 i2 i3 i4 iW
 go_wp21
 clear j0;let⟨iY,eY⟩:=aF wr;subst eY;have BY:=af N;have ZY:=af Au;clear N Au aL cM hk
 go_loopw[37](λiv wr=>∃(k:Nat)(NB HB UB:iN),k<=m/\iv=.I k/\O (xC w wr bn (jT k ns) NB HB UB/\zt w wr bs ss SB/\wr.heap[b]?=Y (dO #[.U e,.U g,.U x,.I t,.map (Y bs),.map (Y bn)] 135)/\∀y∈HB++UB,y≠bs)/\Bw w wr/\U (Q W)<=U (Q wr)) (λiv _=>m-(jN (intOf iv)))
 exact⟨0,[],[],[],cT _,rfl,⟨xC.empty I3,I1,I2,ai⟩,BY,ZY⟩;{
 obtain⟨j,NB,HB,UB,hk,rfl,iW,N,Au⟩:=hrel;by_cases aL:j<m;{
 have cM:=bR j m;have db:j<J ns:=by rw[aa em];exact aL
 let⟨B,hy⟩:=sj db;obtain⟨b0,o,rfl,hA⟩:=HN0.at ae;let⟨P,V,H,iU,Qv⟩:=hA j B hy;let⟨qO,fw,Nl,Nk,Lg⟩:=aa cW _ (bq hy);let⟨hU1,hU2⟩:=aa mU _ (bq hy);obtain⟨pp,pc,pn,rfl,we⟩:=Qv.r0.fO;obtain⟨vq,vc,vn,rfl,Nz⟩:=Qv.r1.fO;obtain⟨hp,hc,hh,rfl,Bj⟩:=Qv.r4.fO;obtain⟨up,uc,un,rfl,DI⟩:=Qv.r7.fO;have Dt:pn<=2^20:=by rw[<-aa we];exact fw
 have Ey:hh<=2^20:=by rw[<-aa Bj];exact Nk
 have Es:un<=2^20:=by rw[<-aa DI];exact Lg
 have ad3:=af Qv;have HY:=af hy;have HU1:O (∀i∈B.y,0<=i/\i<2^64):=hU1;have HU2:O (∀i∈B.X,0<=i/\i<2^64):=hU2;have hnr:=Qv.H N;obtain⟨c0,c1,c2,c3,c4,c5,c6,c7,-,-,-,-,-⟩:=hnr;obtain⟨ow,mo,ep,ge,e1,e2,e3,e4⟩:∃a b c d,B.D=a/\B.M=b/\B.P=c/\B.F=d:=⟨_,_,_,_,rfl,rfl,rfl,rfl⟩
 rw[e1]at c2;rw[e2]at c3;rw[e3]at c5;rw[e4]at c6;have HE:=jq e1 e2 e3 e4;clear db hy hA Qv qO fw Nl Nk Lg hU1 hU2 e1 e2 e3 e4
 go_wp21
 let⟨X,hX⟩:=aF (wr.alloc (dO #[.S pp pn pc,.S vq vn vc,.U ow,.I mo,.S hp hh hc,.U ep,.U ge,.S up un uc] 69));let⟨C,eC⟩:=aF (U (Q wr));have bX:=ij hX;have zX:U (Q X)=U (Q wr)+1:=by rw[hX];simp
 let⟨i1,i2,i3,i4⟩:=aa iW;have jl:X.heap[b]?=Y (dO #[.U e,.U g,.U x,.I t,.map (Y bs),.map (Y bn)] 135):=(bX.block b (gD i3)).Z i3;have rX:Rd X (.S pp pn pc) B.A:=ad3.r0.H (ah N bX);have KX:O (I X (Ad b 5)=Y (.map (Y bn))/\I X (Ad C 0)=Y (.S pp pn pc)/\I X (Ad C 1)=Y (.S vq vn vc)/\I X (Ad C 2)=Y (.U ow)/\I X (Ad C 3)=Y (.I mo)/\I X (Ad C 4)=Y (.S hp hh hc)/\I X (Ad C 5)=Y (.U ep)/\I X (Ad C 6)=Y (.U ge)/\I X (Ad C 7)=Y (.S up un uc)/\Rd X (.S pp pn pc) B.A):=by refine⟨cX jl 5,?_,?_,?_,?_,?_,?_,?_,?_,rX⟩<;>(rw[hX,eC];simp)
 have uH:RdU X (.S hp hh hc) B.y:=ad3.r4.H (ah N bX);have uU:RdU X (.S up un uc) B.X:=ad3.r7.H (ah N bX);rw[<-hX,<-eC];have UH:=af uH;have UU:=af uU;have HX:=dy bX zX jl;have HIN:=iW;clear hX c0 c1 c2 c3 c4 c5 c6 c7 uH uU rX bX zX jl i1 i2 i3 i4 iW;have HCE:=af eC;clear eC;have fe:keyOf dG 9 (jJ (bf B.A))=(dr B.A):=by rw[WideMaps.keyOf_string_mk underlying9 (by rw[DM,aa we];unfold maxLen;omega),VH]
 have JG:=af fe;clear fe;refine fK (λw'=>I w' (Ad b 5)=Y (.map (Y bn))/\I w' (Ad C 0)=Y (.S pp pn pc)/\I w' (Ad C 1)=Y (.S vq vn vc)/\I w' (Ad C 2)=Y (.U ow)/\I w' (Ad C 3)=Y (.I mo)/\I w' (Ad C 4)=Y (.S hp hh hc)/\I w' (Ad C 5)=Y (.U ep)/\I w' (Ad C 6)=Y (.U ge)/\I w' (Ad C 7)=Y (.S up un uc)/\Rd w' (.S pp pn pc) B.A) (by exact KX) λhS=>?_;refine iL 0 1 2 3 hS ?_;refine gh 4 5 hS ?_;refine Iy (i:=6) (oi:=_) (v:=?_) (by simp only[uB,vF,vE];rfl) aU aU aU (λ_ _ _ h=>h) (Or.L ⟨aP,?_⟩) hS ?_;rotate_left;{(intro w' nR;(try dsimp only at nR);(have hcv:=uS we nR.2.2.2.2.2.2.2.2.2);go_simp;try with_reducible rfl)}
 simp only[Act.put,xa,xb,xc];refine jh 7 8 9 10 11 12 13 14 hS ?_;refine iL 15 16 17 18 hS ?_;refine gh 20 21 hS ?_;refine ft 19 λKK hK=>?_;refine js (bP6 (p:=hp) (c:=hc) (n:=hh) (ids:=B.y) Bj (UH.H aH.drew) Ey HU1) ?_;rintro r M⟨D1,rfl,o1,s1,ay,rM⟩;refine⟨_,rfl,?_⟩;have Cj:Bw X M:=ah (aR (U (Q X)) X).drew ay;have KX2:O (I M (Ad b 5)=Y (.map (Y bn))/\I M (Ad C 0)=Y (.S pp pn pc)/\I M (Ad C 1)=Y (.S vq vn vc)/\I M (Ad C 2)=Y (.U ow)/\I M (Ad C 3)=Y (.I mo)/\I M (Ad C 4)=Y (.S hp hh hc)/\I M (Ad C 5)=Y (.U ep)/\I M (Ad C 6)=Y (.U ge)/\I M (Ad C 7)=Y (.S up un uc)/\Rd M (.S pp pn pc) B.A):=by let⟨k0,k1,k2,k3,k4,k5,k6,k7,k8,k9⟩:=aa KX;exact⟨aj k0 Cj,aj k1 Cj,aj k2 Cj,aj k3 Cj,aj k4 Cj,aj k5 Cj,aj k6 Cj,aj k7 Cj,aj k8 Cj,k9.H Cj⟩
 refine bQ hK (by exact KX2) λhS=>?_;clear hK KK;have zd:U (Q X.drew)=U (Q X):=rfl;rw[zd]at o1 rM⊢;let⟨h1,Nw⟩:=aF (U (Q X));rw[<-Nw]at o1 rM⊢;have Wf:=jq o1 s1 rM Nw;have mL:=af Cj;clear o1 s1 ay rM Cj zd Nw;refine ft 22 λKK hK=>?_;refine js (bP6 (p:=up) (c:=uc) (n:=un) (ids:=B.X) DI (UU.H mL) Es HU2) ?_;rintro r w3⟨D2,rfl,o2,s2,aE,xt⟩;refine⟨_,rfl,?_⟩;have KX3:O (I w3 (Ad b 5)=Y (.map (Y bn))/\I w3 (Ad C 0)=Y (.S pp pn pc)/\I w3 (Ad C 1)=Y (.S vq vn vc)/\I w3 (Ad C 2)=Y (.U ow)/\I w3 (Ad C 3)=Y (.I mo)/\I w3 (Ad C 4)=Y (.S hp hh hc)/\I w3 (Ad C 5)=Y (.U ep)/\I w3 (Ad C 6)=Y (.U ge)/\I w3 (Ad C 7)=Y (.S up un uc)/\Rd w3 (.S pp pn pc) B.A):=by let⟨k0,k1,k2,k3,k4,k5,k6,k7,k8,k9⟩:=aa KX2;exact⟨aj k0 aE,aj k1 aE,aj k2 aE,aj k3 aE,aj k4 aE,aj k5 aE,aj k6 aE,aj k7 aE,aj k8 aE,k9.H aE⟩
 refine bQ hK (by exact KX3) λhS=>?_;clear hK KK;let⟨u1,Nq⟩:=aF (U (Q M));rw[<-Nq]at o2 xt⊢;have HO2:=jq o2 s2 xt Nq;have qj:=af aE;clear o2 s2 aE xt Nq;refine tn 23 hS ?_;refine ft 24 λKK hK=>?_;refine dc2 aP (t:=142) aP (v:=jP #[.S vq vn vc,.U ow,.I mo,.map h1,.U ep,.U ge,.map u1]) aP (dk1) ?_;let⟨Z,eZ⟩:=aF (w3.alloc (dO #[.S vq vn vc,.U ow,.I mo,.map h1,.U ep,.U ge,.map u1] 142));have bZ:=ij eZ;have hZ:Z.heap[U (Q w3)]?=Y (dO #[.S vq vn vc,.U ow,.I mo,.map h1,.U ep,.U ge,.map u1] 142):=by rw[eZ];exact(aS3 w3 _).1
 rw[<-eZ];clear eZ;have KX4:O (I Z (Ad b 5)=Y (.map (Y bn))/\I Z (Ad C 0)=Y (.S pp pn pc)/\I Z (Ad C 1)=Y (.S vq vn vc)/\I Z (Ad C 2)=Y (.U ow)/\I Z (Ad C 3)=Y (.I mo)/\I Z (Ad C 4)=Y (.S hp hh hc)/\I Z (Ad C 5)=Y (.U ep)/\I Z (Ad C 6)=Y (.U ge)/\I Z (Ad C 7)=Y (.S up un uc)/\Rd Z (.S pp pn pc) B.A):=by let⟨k0,k1,k2,k3,k4,k5,k6,k7,k8,k9⟩:=aa KX3;exact⟨aj k0 bZ,aj k1 bZ,aj k2 bZ,aj k3 bZ,aj k4 bZ,aj k5 bZ,aj k6 bZ,aj k7 bZ,aj k8 bZ,k9.H bZ⟩
 refine bQ hK (by exact KX4) λhS=>?_;clear hK KK;let⟨g1,ZI⟩:=aF (U (Q w3));rw[<-ZI]at hZ⊢;have Wq:Bw X Z:=ah (ah mL qj) bZ;let⟨i1,i2,i3,i4⟩:=aa HIN;let⟨bX,zX,jl⟩:=aa HX;let⟨o1,s1,rM,Nw⟩:=aa Wf;let⟨o2,s2,xt,Nq⟩:=aa HO2;have He:Bw wr Z:=ah bX Wq;let⟨D0,oD,mD⟩:=i1.own;have hlen:J (jT j ns)=j:=by rw[te,aa em];omega
 rw[hlen]at oD;have oZ:Z.ownsMap dG 9 iB bn j D0:=oD.kept (mn He dN) ai;have q1:Z.ownsMap dG 24 unitElem h1 hh D1:=(o1.kept (mn qj dN) ai).kept (mn bZ dN) ai;have q2:Z.ownsMap dG 24 unitElem u1 un D2:=o2.kept (mn bZ dN) ai;have lt3:=qj.size;have lt2:=mL.size;have nO:=oD.lt;have HQ:=jq q1 q2 s1 s2;have eP8:=dy rM Nw (aD xt (aD Nq (aD ZI (aD zX (aD lt2 (aD lt3 nO))))));have HOZ:=af oZ;have eP3:=jq hZ He oD mD;clear q1 q2 s1 s2 rM Nw xt Nq ZI zX lt2 lt3 nO oZ hZ He oD mD i1 i2 i3 i4 bX jl o1 o2 Wq bZ;refine ft 25 λKK hK=>?_;refine bM4 aP (t:=133) aP (k:=9) sG underlying133 iB bn j (D:=D0) aP (by exact HOZ) kL (key:=jJ (bf B.A)) (Pz g1) (kl:=dr B.A) aP aP JG (d:=.lit (.I g1)) (ps:=[]) rfl ?_;intro w4 MO mG;let⟨hZ,He,oD,mD⟩:=aa eP3;let⟨i1,i2,i3,i4⟩:=aa HIN;let⟨q1,q2,s1,s2⟩:=aa HQ;let⟨rM,Nw,xt,Nq,ZI,zX,lt2,lt3,nO⟩:=aa eP8;have dM2:=mG.size;have zZ:=gD hZ;have zRZ:=He.size;have dV9:=N.size;let⟨eb,Fa,Nx,zW⟩:=aa HEQ;have hCe:=aa HCE;have au1:Z.heap[b]?=Y (dO #[.U e,.U g,.U x,.I t,.map (Y bs),.map (Y bn)] 135):=(He.block b (gD i3)).Z i3;have nb:b≠bn:=ae;have nC:C≠bn:=ae;have KX5:O (I w4 (Ad b 5)=Y (.map (Y bn))/\I w4 (Ad C 0)=Y (.S pp pn pc)/\I w4 (Ad C 1)=Y (.S vq vn vc)/\I w4 (Ad C 2)=Y (.U ow)/\I w4 (Ad C 3)=Y (.I mo)/\I w4 (Ad C 4)=Y (.S hp hh hc)/\I w4 (Ad C 5)=Y (.U ep)/\I w4 (Ad C 6)=Y (.U ge)/\I w4 (Ad C 7)=Y (.S up un uc)/\Rd w4 (.S pp pn pc) B.A):=by
  let⟨k0,k1,k2,k3,k4,k5,k6,k7,k8,k9⟩:=aa KX4;have hC:=mG.block C ae (by simpa using nC);exact⟨(sa (mG.block b (gD au1) (by simpa using nb))).Z k0,(sa hC).Z k1,(sa hC).Z k2,(sa hC).Z k3,(sa hC).Z k4,(sa hC).Z k5,(sa hC).Z k6,(sa hC).Z k7,(sa hC).Z k8,
   ad3.r0.H (Cw (ah N He) mG ae (λj hj=>by cases hj;omega))⟩
 refine bQ hK (by exact KX5) λhS=>?_;clear hK KK;refine ga ?_;let⟨e1,e2,e3,e4⟩:=aa HE;have bD:xC w w4 bn (jT (j+1) ns) (NB++[g1]) (HB++[h1]) (UB++[u1]):=by rw[WK (aa HY)];refine i1.step B g1 h1 u1 (mn He dN) ae ae ae ae N.size (.S vq vn vc) ad3.r1 (by rw[e1,e2,e3,e4];exact hZ) (by rw[aa Bj];exact q1) s1 (by rw[aa DI];exact q2) s2 (λz hz=>?_) mD oD.isMap (by rw[hlen];exact MO) mG;let⟨i,hi,vM⟩:=bZ3 hz;intro ee;exact aG i j z B vM HY hi (MC (aa cW z (bq vM)).1 (aa cW B (bq (aa HY))).1 ee)
 have hse:zt w w4 bs ss SB:=(i2.kept (mn He dN) ai ai).kept mG cg (λy hy=>by let⟨i,hi⟩:=Dg hy;obtain⟨s,hs⟩:∃s,ss[i]?=Y s:=⟨_,bN (by rw[<-i2.len];exact(bu.1 hi).1)⟩;let⟨_,u,a2,_⟩:=i2.blk i s y hs hi;have:=ak9 oD a2;simpa using this)
 have cG:w4.heap[b]?=Y (dO #[.U e,.U g,.U x,.I t,.map (Y bs),.map (Y bn)] 135):=(mG.block b (gD au1) (by simpa using nb)).Z au1;have Nk:Bw w w4:=Cw (ah N He) mG ae (λj hj=>by cases hj;omega);have Ge:U (Q W)<=U (Q w4):=ae;have hd4:∀y∈(HB++[h1])++(UB++[u1]),y≠bs:=by intro y hy;simp only[jg,td]at hy;obtain(hy|rfl)|(hy|rfl):=hy;{exact i4 y (jg.2 (.L hy))};{omega};{exact i4 y (jg.2 (.R hy))};{omega}
 have eR6:=jq bD hse cG hd4;clear bD hse cG hd4 hS MO mG i1 i2 i3 i4 q1 q2 s1 s2 rM Nw xt Nq ZI zX lt2 lt3 nO eb Fa Nx zW hCe hZ He oD mD au1 e1 e2 e3 e4 dM2 dV9 nb nC zZ zRZ KX KX2 KX3 KX4 KX5;go_wp2;go_roundw;exact⟨j+1,_,_,_,ae,by go_num,eR6,Nk,Ge⟩;exact dh};{
 have cM:=fG j m;obtain rfl:j=m:=ae;let⟨i1,i2,i3,i4⟩:=aa iW;rw[od (by rw[aa em];exact fq _)]at i1;let⟨eb,Fa,Nx,zW⟩:=aa HEQ;have vT:Jv w wr b bs bn e g x t ss ns SB NB HB UB:=⟨i3,i2,i1,ae,by rw[BS];refine⟨λmF=>?_,i1.wu⟩;obtain hh|hh:=gv.1 mF;{omega};{exact i4 _ hh rfl}⟩
 have eS0:=af vT;clear i1 i2 i3 i4 eb Fa Nx zW vT;go_wp2;go_ret;exact⟨b,rfl,⟨bs,bn,SB,NB,HB,UB,eS0⟩,N⟩}}}}
end Go.Proofs.YtpkakgkipopiaaaGreatDoor
