import Derived.Test.YtdloolggnjjfoaaGreatDoorQTs
import Derived.Maps.RangeWalk
import Derived.Maps.Ext
import Derived.Lib.BytesEntry
import Derived.Laws.Externs
import Derived.Sort.AssemblyPlain
import Derived.Sort.Row
import Derived.RangeFuncGives
import Derived.RangeFuncSeq
import Derived.Sort.MapsRangeIn
import Derived.OwnWalkIn
import Derived.TacticsInMore
import Derived.RegionIn
import Derived.LoopNIn
import Derived.LoopIn
import Derived.Maps.AppendAt
import Derived.RangeFuncKeeps
import Derived.RangeFuncFrom
import Derived.RangeFuncNested
import Derived.RangeFuncBound
import Derived.RangeFuncCalls
import Derived.RangeFuncLeaves
import Derived.Sort.KeysCollected
open Array renaming size->U
open Bool renaming false->dF,true->dY
open Decidable renaming decide->dD
open Go renaming Calls->dQ,Value->dV,World->G
open Go.Ending renaming returned->dR
open Go.Obj renaming cells->dO
open Go.Proofs.Tryz renaming prog->dG
open Go.RowKit renaming Hid->O
open Go.Value renaming I->dI,pointer->dP,S->dS,tuple->dT,U->dU
open Go.World renaming cell?->I
open List renaming length->J
open Option renaming none->dN,some->Y
namespace Go.Proofs.YtdloolggnjjfoaaGreatDoor
set_option maxHeartbeats 6400000
set_option linter.all false
set_option maxRecDepth 100000
set_option linter.defProp false
set_option linter.unusedVariables false
open Go.ChangeShapes Go.WideShapes Go.ChangeAt Go.RowKit Go.Proofs.Tryz
variable {g n c N k b a d m sz base bytes:Nat}{vs news:List dV}{lm l0 l1 l2 l s:LI}{w w':G}{v0 v1 v2 v S z:dV}{p q pp:OA}{es xs:List Ev}{B:Bool}{e x t:Int}{ss:List aB}{nd:ar}{ns:List ar}{ps:List MemPlace}{D:DataW Unit}{P:Program}{ops:iQ}{o:Oper}{K:Act->G->Prop}{E:Prop}{R:Ending->G->Prop}{sU:Array TypeId}{f:Nat->Bool}{kd:IntKind}{rest:List Oper}
def DQ(ls:List LI)(k:Nat)(s:O (k=J ls))(e:O (lm=cat ls))(r:Le lm n)(h:vj w g vs ls)(q:n<=4194304)(M:k<=10):dQ dG 126 #[.T g k k] w λe w'=>∃i j,e=dR (.S i n j)/\Own (U w.heap) w' (.S i n j) lm/\Bw w w':=by
 have y:=ae s;have x:=ae e;have u:=ae r;subst y u x;go_in;go_wp2_with fail;refine(bs6 h q af).h ?_;rintro e E⟨m,B,rfl,o,D⟩;go_wp2;go_ret;exact⟨m,B,rfl,o,D⟩
theorem bV6(s:I w (Ad g 0)=v0)(r:I w (Ad g 1)=v1)(q:Rd w v0 l0)(o:Rd w v1 l1):vj w g [v0,v1] [l0,l1]:=by
 refine⟨rfl,λj v x m i=>?_⟩
 match j,m,i with
 |0,m,i=>simp at m i;subst m i;exact⟨s,q⟩
 |1,m,i=>simp at m i;subst m i;exact⟨r,o⟩
theorem bV5{v3 v4:dV}{q o:LI}(R:I w (Ad g 0)=v0)(N:I w (Ad g 1)=v1)(M:I w (Ad g 2)=v2)(E:I w (Ad g 3)=v3)(D:I w (Ad g 4)=v4)(B:Rd w v0 l0)(y:Rd w v1 l1)(u:Rd w v2 l2)(s:Rd w v3 q)(r:Rd w v4 o):vj w g [v0,v1,v2,v3,v4] [l0,l1,l2,q,o]:=by
 refine⟨rfl,λj v x m i=>?_⟩
 match j,m,i with
 |0,m,i=>simp at m i;subst m i;exact⟨R,B⟩
 |1,m,i=>simp at m i;subst m i;exact⟨N,y⟩
 |2,m,i=>simp at m i;subst m i;exact⟨M,u⟩
 |3,m,i=>simp at m i;subst m i;exact⟨E,s⟩
 |4,m,i=>simp at m i;subst m i;exact⟨D,r⟩
def eG4(a b:LI):cat [a,b]=a++b:=by simp[cat]
def eG0(a b c d e:LI):cat [a,b,c,d,e]=a++(b++(c++(d++e))):=by simp[cat]
def tx(l:LI):LI:=vi (J l)++l
def Hi(l:LI):J l+1<=J (tx l)/\J (tx l)<=J l+10:=by
 have:=pf (J l);rw[tx,dm];omega
def ao6(i:Le l n)(h:Rd w (.S p n c) l)(hl:Mg n)(V:O (J (tx l)=N)):dQ dG 95 #[.S p n c] w λe w'=>∃p' c',e=dR (.S p' N c')/\Own (U w.heap) w' (.S p' N c') (tx l)/\Bw w w':=by
 let⟨M,q⟩:=aY (J (vi n));have hM:=pf n;rw[q]at hM;have u:=ag q;clear q;have hN:M+n=N:=by rw[<-ae V,tx,dm,ae i,ae u]
 have wn:IntKind.u64.wrap (n:Int)=(n:Int):=by rw[uG];omega
 have EE:O (tx l=vi n++l):=by show _=_;rw[tx,ae i]
 go_in;go_wp2_with fail;refine(aY8 9 n _ af af af M u).h ?_;rintro e Z⟨D,X,rfl,R,j⟩;have y:=h.H j;have z1:=j.size;have r:Own (U w.heap) Z (.S D M X) (vi n):=R;clear R h;go_wp2_with(at_builtin;refine BJ rfl rfl (.S D M X) EE p c n i rfl rfl r y (by rw[ae u,ae i];omega) af ?_);intro p2 c2 w2 E W;have b2:=Am j W r aA af;rw[ae V]at E⊢;clear W r y j;go_wp2;go_ret;exact⟨p2,c2,rfl,E,b2⟩
def ag9(x:Le l n)(h:Rd w (.S p n c) l)(hl:Mg n)(y:O (J (tx l)=N)):dQ dG 191 #[.S p n c] w λe w'=>∃s D,e=dR (.S s N D)/\Own (U w.heap) w' (.S s N D) (tx l)/\Bw w w':=by
 let⟨M,m⟩:=aY (J (vi n));have Z:=pf n;rw[m]at Z;have R:=ag m;clear m;have hN:M+n=N:=by rw[<-ae y,tx,dm,ae x,ae R]
 have wn:IntKind.u64.wrap (n:Int)=(n:Int):=by rw[uG];omega
 have EE:O (tx l=cat [vi n,l]):=by show _=_;rw[eG4,tx,ae x]
 go_in;go_wp2_with fail;refine(Th af).h ?_;rintro e V⟨W,c1,rfl,j,i⟩;rw[ae R]at j⊢;have q:=h.H i;have z1:=i.size;have rv:=j.rd;clear j h;go_wp2_with fail;refine(DQ (g:=U V.heap) (vs:=[.S W M c1,.S p n c]) [vi n,l] (lm:=tx l) (n:=N) 2 rfl EE y (bV6 aj aj (rv.H (aD.alloc aA _)) (q.H (aD.alloc aA _))) af af).h ?_;rintro e o⟨r,B,rfl,u,E⟩;have b2:Bw w o:=ai (ai i (aD.alloc aA _)) E;have X:Own (U w.heap) o (.S r N B) (tx l):=Own.h u bq;clear u E q rv i;go_wp2;go_ret;exact⟨r,B,rfl,X,b2⟩
def mQ(i:Nat)(e:Ev):Bool:=if i=7 then e.1==4&&J e.2==0 else dD (1<=e.1)&&(dD (e.1<=3)&&vp e.2)
def wG(es:List Ev):Bool:=dD (J es<=8)&&(List.range (J es)).all λi=>mQ i (es.getD i (0,[]))
theorem cd8(x:Le es n)(h:qF w (.S p n c) es)(hn:Mg n)(cQ:O (∀e∈es,aC e.2/\J e.2<=1048576))(X:O (wG es=B)):dQ dG 148 #[.S p n c] w (Rb (.bool B) w):=by
 have HR:=ag λ(w':G)(hb:Bw w w')=>h.H hb;by_cases h8:n<=8;{
 have QN:¬(8:Int)<(n:Int):=af;go_in;go_wp2_with fail
 go_loopw[3](λE wr=>∃k:Nat,k<=n/\E=.I k/\O ((List.range k).all (λi=>mQ i (es.getD i (0,[]))))/\Bw w wr) (λE _=>n-(intOf E).toNat)
 exact⟨0,cO _,rfl,cM,aR _ _⟩;{
 obtain⟨k,hk,rfl,fv,q⟩:=hrel;by_cases aH:k<n;{
 have cL:=bM k n;have bR:k<J es:=ae x▸aH;let⟨⟨K,P⟩,M⟩:=nR bR;have xg:es.getD k (0,[])=(K,P):=by rw[im,M];rfl
 obtain⟨b,o,rfl,YI,u,y,Cl⟩:∃b o,p=(Ad b o)/\I wr (Ad b (o+k*2))=dI K/\∃u,I wr (Ad b (o+k*2+1))=Y u/\Rd wr u P:=by let⟨p',c',ev,hd⟩:=ae HR _ q;obtain⟨rfl,-,-⟩:=jJ ev;obtain h0|⟨b,o,R,h2⟩:=hd;{rw[h0]at bR;simp at bR};{exact⟨b,o,R,h2 k _ M⟩}
 let⟨MV,N⟩:=ae cQ _ (bu M);obtain⟨pp,pc,rfl,-⟩:=id Cl;let⟨m,W⟩:=aY (J P);rw[W]at Cl y;have hm:m<=1048576:=W▸N;have EM:=ag W;have Ez:=ag MV;have Sk:=ag Cl;have hF:mQ k (K,P)=dF->B=dF:=λh=>by rw[<-ae X,wG,ae x,Hp aH (xg▸h),Bool.and_false]
 have hT:mQ k (K,P)->O ((List.range (k+1)).all (λi=>mQ i (es.getD i (0,[])))):=λh=>Ff fv (xg▸h);by_cases s:k=7;{
 subst s;have YI:I wr (Ad b (o+14))=dI K:=YI;have y:I wr (Ad b (o+14+1))=dS pp m pc:=y;have fu1:I wr (Ad b (o+15))=dS pp m pc:=y;by_cases j:K=4;{
 have r:(K==4):=by simp[j]
 by_cases xl:m=0;{
 have Z:((m:Int)==0):=by simp;omega
 have D:=hT (by rw[mQ,aM rfl];simp[j,ae EM,xl]);go_wp2;go_roundw;exact⟨7+1,af,by go_num,D,q⟩;exact cW};{
 have Z:((m:Int)==0)=dF:=by simp;omega
 obtain rfl:=hF (by rw[mQ,aM rfl];simp[j,ae EM,xl]);go_wp2;go_ret;exact⟨rfl,q⟩}};{
 have r:(K==4)=dF:=by simp[j]
 obtain rfl:=hF (by rw[mQ,aM rfl];simp[j]);go_wp2;go_ret;exact⟨rfl,q⟩}};{
 have h7':¬(k:Int)=7:=af;have h7d:((k:Int)==7)=dF:=by simp;omega
 by_cases j:K=4;{
 have r:(K==4):=by simp[j]
 obtain rfl:=hF (by rw[mQ,aL s];simp[j]);go_wp2;go_ret;exact⟨rfl,q⟩};{
 have r:(K==4)=dF:=by simp[j]
 by_cases R:K<1;{have Gq:¬1<=K:=af;obtain rfl:=hF (by rw[mQ,aL s];simp;omega);go_wp2;go_ret;exact⟨rfl,q⟩};{
 by_cases h3:3<K;{have h3':¬K<=3:=af;obtain rfl:=hF (by rw[mQ,aL s];simp;omega);go_wp2;go_ret;exact⟨rfl,q⟩};{
 have Gq:¬K<1:=R;have g1:1<=K:=af;have g3:K<=3:=af;let⟨V,eV⟩:=aY (vp P);have EV:=ag eV;have fD:mQ k (K,P)=V:=by rw[mQ,aL s,eV];simp[g1,g3]
 go_wp2_with fail;refine br (Wu EM Sk Ez hm EV) λw2 ay=>?_;have b2:=ai q ay;cases V with
 |false=>
  obtain rfl:=hF (by exact fD);go_wp2;go_ret;exact⟨rfl,b2⟩
 |true=>
  have D:=hT (by exact fD);go_wp2;go_roundw;exact⟨k+1,af,by go_num,D,b2⟩;exact cW}}}}};{
 have cL:=fq k n;have eT:B:=by
  rw[<-ae X,wG,ae x];have:k=n:=by omega
  rw[<-this,ae fv];simp;omega
 subst eT;go_wp2;go_ret;exact⟨rfl,q⟩}}};{
 have QN:=qV 8 n;obtain rfl:B=dF:=by rw[<-ae X,wG,ae x];simp[h8]
 go_in;go_wp2;go_ret;exact⟨rfl,aR _ _⟩}
def wC(j:Int)(ss:List aB)(i:Nat):Bool:=
 dD (1<=(ss.getD i (0,0,[])).1)&&(dD ((ss.getD i (0,0,[])).1<=j)&&((i==0||decide ((ss.getD (i-1) (0,0,[])).1<(ss.getD i (0,0,[])).1))&&
  (dD (0<=(ss.getD i (0,0,[])).2.1)&&(dD ((ss.getD i (0,0,[])).2.1<=1000015)&&wG (ss.getD i (0,0,[])).2.2))))
variable {g:Int}
def dH8{N:dV}(en:Le ss n)(h:lI w (.S p n c) ss)(hn:Mg n)(hk:k<n)(cQ:O (Bs ss))(eB:O (wC x ss k=B)):dQ dG 85 #[bS e g x t (.S p n c) N,.I k] w (Rb (.bool B) w):=by
 have HR:=ag λ(y:G)(hb:Bw w y)=>h.H hb;have Z:k<J ss:=ae en▸hk;let⟨⟨r,D,Q⟩,hy⟩:=nR Z;have xg:ss.getD k (0,0,[])=(r,D,Q):=by rw[im,hy];rfl
 obtain⟨b,o,rfl,ID⟩:∃b o,p=(Ad b o)/\∀i s,ss[i]?=Y s->I w (Ad b (o+i*3))=dU s.1/\I w (Ad b (o+i*3+1))=dI s.2.1/\∃u,I w (Ad b (o+i*3+2))=Y u/\qF w u s.2.2:=by obtain⟨p',c',ev,hd⟩:=h;obtain⟨rfl,-,-⟩:=jJ ev;obtain h0|⟨b,o,h1,h2⟩:=hd;{rw[h0]at Z;simp at Z};{exact⟨b,o,h1,h2⟩}
 let⟨hI,hD,u,hU,hQ⟩:=ID k _ hy;let⟨V,W⟩:=ae cQ _ (bu hy);obtain⟨pq,cq,rfl,-⟩:=id hQ;let⟨m,em⟩:=aY (J Q);rw[em]at hQ hU;have hm:m<=1048576:=em▸V;have EM:=ag em;have HBQ:O (∀e∈Q,aC e.2/\J e.2<=1048576):=W;have VM:=ag hQ;let⟨T,eT⟩:=aY (wG Q);have ET:O (wG Q=T):=eT;have E:wC x ss k=(dD (1<=r)&&(dD (r<=x)&&((k==0||decide ((ss.getD (k-1) (0,0,[])).1<r))&&(dD (0<=D)&&(dD (D<=1000015)&&T))))):=by rw[wC,xg,eT]
 rw[show(wC x ss k)=B from ae eB]at E;have Js:O (B=(dD (1<=r)&&(dD (r<=x)&&((k==0||decide ((ss.getD (k-1) (0,0,[])).1<r))&&(dD (0<=D)&&(dD (D<=1000015)&&T)))))):=E;clear E;have Iu:=bM k n;have dV4:=gm 0 k;have HL:=ag Z;clear hy xg V W hQ em eT h eB Z;have HCA:=ag ID;clear ID;go_in;have b1:Bw w (w.alloc (dO #[.U e,.U g,.U x,.I t,.S (Ad b o) n c,N] 41)):=aD.alloc aA _;have i1:=al hI b1;have i2:=al hD b1;have i3:=al hU b1;go_wp2_with fail;let⟨X,R⟩:=aG ((w.alloc (dO #[.U e,.U g,.U x,.I t,.S (Ad b o) n c,N] 41)).alloc (dO #[.U r,.I D,.S pq m cq] 97));have BX:O (Bw w X):=by show Below _ _ _;rw[R];exact b1.alloc aj _
 have kA:I X (Ax w 0)=dU r:=by rw[R];simp
 have kD:I X (Ax w 1)=dI D:=by rw[R];simp
 have kQ:I X (Ax w 2)=dS pq m cq:=by rw[R];simp
 have kB:I X (Aw w 2)=dU x:=by rw[R];simp
 have kC:I X (Aw w 4)=dS (Ad b o) n c:=by rw[R];simp
 rw[<-R];have KA:=ag kA;have KB:=ag kB;have KC:=ag kC;clear R b1 i1 i2 i3 kA kB kC hI hD hU;by_cases h1:r<1;{
 obtain rfl:B=dF:=by rw[ae Js];simp;omega
 have h1d:dD (r<1):=by simp;omega
 refine fk (λy=>I y (Ax w 0)=dU r/\I y (Aw w 2)=dU x/\I y (Aw w 4)=dS (Ad b o) n c) (by exact⟨KA,KB,KC⟩) λhS=>?_;refine iC 0 1 2 3 hS ?_;refine kr 4 5 6 7 hS ?_;refine sn 8 hS ?_;refine fO 9 10 hS ?_;refine kr 11 12 13 14 hS ?_;refine kr 15 16 17 18 hS ?_;refine kr 19 20 21 22 hS ?_;refine sn 23 hS ?_;refine sn 24 hS ?_;refine tn 25 hS ?_;refine fy ?_;clear hS;go_wp2;go_ret;exact⟨rfl,BX.drew⟩};{
 have h1d:dD (r<1)=dF:=by simp;omega
 by_cases h2:x<r;{
 obtain rfl:B=dF:=by rw[ae Js];simp;omega
 have h2d:dD (x<r):=by simp;omega
 refine fk (λy=>I y (Ax w 0)=dU r/\I y (Aw w 2)=dU x/\I y (Aw w 4)=dS (Ad b o) n c) (by exact⟨KA,KB,KC⟩) λhS=>?_;refine iR 0 1 2 3 4 5 6 7 hS ?_;refine fO 8 9 hS ?_;refine tn 10 hS ?_;refine kr 11 12 13 14 hS ?_;refine kr 15 16 17 18 hS ?_;refine kr 19 20 21 22 hS ?_;refine sn 23 hS ?_;refine sn 24 hS ?_;refine tn 25 hS ?_;refine fy ?_;go_wp2;go_ret;exact⟨rfl,BX.drew⟩};{
 have h2d:dD (x<r)=dF:=by simp;omega
 by_cases xZ:k=0;{
 have hp:¬0<k:=af;have hp':¬(0:Int)<(k:Int):=af;have HK0:=ag xZ;refine fk (λy=>I y (Ax w 0)=dU r/\I y (Aw w 2)=dU x/\I y (Aw w 4)=dS (Ad b o) n c) (by exact⟨KA,KB,KC⟩) λhS=>?_;refine iR 0 1 2 3 4 5 6 7 hS ?_;refine iC 8 9 10 11 hS ?_;refine fO 12 13 hS ?_;refine kr 14 15 16 17 hS ?_;refine kr 18 19 20 21 hS ?_;refine sn 22 hS ?_;refine sn 23 hS ?_;refine fO 24 25 hS ?_;refine fy ?_;have E:=ae Js;rw[show(k==0)=dY by simp[ae HK0]]at E;by_cases h5:D<0;{
 obtain rfl:B=dF:=by rw[E];simp;omega
 have h5':D<0:=h5;go_wp2;go_ret;exact⟨rfl,BX.drew⟩};{
 by_cases h6:1000015<D;{
 obtain rfl:B=dF:=by rw[E];simp;omega
 go_wp2;go_ret;exact⟨rfl,BX.drew⟩};{
 obtain rfl:B=T:=by rw[E];simp[show 1<=r by omega,show r<=x by omega,show 0<=D by omega,show D<=1000015 by omega]
 clear E;go_wp2_with fail;refine br (cd8 EM (by exact VM.H BX.drew) hm HBQ ET) λw2 ay=>?_;have b2:=ai BX.drew ay;clear ay;go_wp2;go_ret;exact⟨rfl,b2⟩}}};{
 obtain⟨j,ej⟩:∃j:Nat,(k:Int)-1=(j:Int):=⟨k-1,af⟩;have CL:k-1=j:=af;have oy:j<J ss:=aK (ae HL);let⟨⟨z,zz⟩,hz⟩:=nR oy;have XT:(ss.getD j (0,0,[])).1=z:=by rw[im,hz];rfl
 have E:=ae Js;rw[CL,XT]at E;have kZ:=al (ae HCA j _ hz).1 BX;have KZ:O (I X (Ad b (o+j*3))=dU z):=kZ;have hp:0<k:=af;have hp':=qV 0 k;have Qm:=bM j n;have Yw:=gm 0 j;have wj:=il j;rw[show(k==0)=dF by simp[xZ],Uh]at E;have M:O (B=(dD (1<=r)&&(dD (r<=x)&&(dD (z<r)&&(dD (0<=D)&&(dD (D<=1000015)&&T)))))):=E;clear E;clear hz XT oy kZ CL xZ;by_cases hzI:z<r;{
 have hle:¬r<=z:=af;have be6:dD (r<=z)=dF:=by simp;omega
 refine fk (λy=>I y (Ax w 0)=dU r/\I y (Aw w 2)=dU x/\I y (Aw w 4)=dS (Ad b o) n c/\I y (Ad b (o+j*3))=dU z) (by exact⟨KA,KB,KC,KZ⟩) λhS=>?_;refine iR 0 1 2 3 4 5 6 7 hS ?_;refine iR 8 9 10 11 12 13 14 15 hS ?_;refine iR 16 17 18 19 20 21 22 23 hS ?_;refine fO 24 25 hS ?_;refine fy ?_;clear hS;by_cases h5:D<0;{
 obtain rfl:B=dF:=by rw[ae M];simp;omega
 have h5':D<0:=h5;go_wp2;go_ret;exact⟨rfl,BX.drew⟩};{
 by_cases h6:1000015<D;{
 obtain rfl:B=dF:=by rw[ae M];simp;omega
 go_wp2;go_ret;exact⟨rfl,BX.drew⟩};{
 obtain rfl:B=T:=by rw[ae M];simp only[show dD (1<=r)=dY by(rw[uF];omega),show dD (r<=x)=dY by(rw[uF];omega),show dD (z<r)=dY by(rw[uF];omega),show dD (0<=D)=dY by(rw[uF];omega),show dD (D<=1000015)=dY by(rw[uF];omega),vI]
 go_wp2_with fail;refine br (cd8 EM (by exact VM.H BX.drew) hm HBQ ET) λw2 ay=>?_;have b2:=ai BX.drew ay;go_wp2;go_ret;exact⟨rfl,b2⟩}}};{
 have hle:r<=z:=af;have be6:dD (r<=z):=by simp;omega
 obtain rfl:B=dF:=by rw[ae M];simp;omega
 refine fk (λy=>I y (Ax w 0)=dU r/\I y (Aw w 2)=dU x/\I y (Aw w 4)=dS (Ad b o) n c/\I y (Ad b (o+j*3))=dU z) (by exact⟨KA,KB,KC,KZ⟩) λhS=>?_;refine iR 0 1 2 3 4 5 6 7 hS ?_;refine iR 8 9 10 11 12 13 14 15 hS ?_;refine iR 16 17 18 19 20 21 22 23 hS ?_;refine fO 24 25 hS ?_;refine fy ?_;go_wp2;go_ret;exact⟨rfl,BX.drew⟩}}}}
def cF3(w:G)(C:iA)(e:TypeId)(fr:Nat×Nat)(i:Nat):I (w.alloc (dO C e fr)) (Aw w i)=C[i]?:=by
 have h:(w.alloc (dO C e fr)).heap[U w.heap]?=dO C e fr:=by show(w.heap.push (dO C e fr))[U w.heap]?=_;simp
 unfold World.cell?;rw[h];rfl
def vK(l:LI)(k:Nat):Nat:=(List.range k).foldl (λa i=>if l.getD i 0=47 then i else a) 0
def Xz(l:LI)(k:Nat):vK l (k+1)=if l.getD k 0=47 then k else vK l k:=by
 rw[vK,aW5,Ud];rfl
def ig(l:LI):LI:=if vK l (J l)=0 then[47]else l.take (vK l (J l))
theorem XK(s:Le l n)(h:Rd w (.S p n c) l)(hn:Mg n)(hc:n<=c)(nI:c<=maxLen):dQ dG 150 #[.S p n c] w λr w'=>∃q m d,r=dR (.S q m d)/\J (ig l)=m/\m<=n+1/\Rd w' (.S q m d) (ig l)/\Bw w w':=by
 have V:=ag h;clear h;go_in;go_wp2_with fail
 go_loopw[3,4](λav D wr=>∃k a:Nat,k<=n/\D=.I k/\av=.I a/\a<=k/\O (vK l k=a)/\wr=w) (λ_ D _=>n-(intOf D).toNat)
 exact⟨0,0,cO _,rfl,rfl,eG _,cM,rfl⟩;{
 obtain⟨k,a,hk,rfl,rfl,hak,N,rfl⟩:=hrel;by_cases aH:k<n;{
 have cL:=bM k n;have Z:k<J l:=ae s▸aH;obtain⟨b,o,rfl,-,W⟩:=V.at af;have qz:=W k Z;have j:=Xz l k;let⟨y,X⟩:=aY (l.getD k 0);rw[X]at qz j;clear W Z X;by_cases B:y=47;{subst B;rw[aM rfl]at j;have E:=ag j;clear j;go_wp2;go_roundw;exact⟨k+1,k,af,by go_num,rfl,af,E,by first|rfl|trivial⟩;exact cW};{
 have fx9:(y==47)=dF:=by simp[B]
 rw[aL B,ae N]at j;have E:=ag j;clear j;go_wp2;go_roundw;exact⟨k+1,a,af,by go_num,rfl,af,E,by first|rfl|trivial⟩;exact cW}};{
 have cL:=fq k n;obtain rfl:k=n:=af;clear hk aH;by_cases M:a=0;{
 subst M;have u:O (ig l=[47]):=by show _=_;rw[ig,ae s,ae N,aM rfl]
 have hcv:=Lib.run_convert_bytes_const (P:=dG) wr 22 5 #[.int .u8 47] 1 1 underlying22 underlying5;go_wp2;go_ret;refine⟨_,_,_,rfl,by rw[ae u];rfl,af,?_,aD.alloc aA _⟩;rw[ae u];refine⟨_,_,rfl,.R ⟨U wr.heap,0,rfl,λi hi=>?_⟩⟩
 match i,hi with
 |0,_=>(rw[mO,cF3];rfl)}
 {
 have yh:((a:Int)==0)=dF:=by simp[M]
 have u:O (ig l=l.take a):=by show _=_;rw[ig,ae s,ae N,aL M]
 obtain⟨b,o,rfl,-,-⟩:=V.at (by rw[ae s];omega);have g1:=mF a k;have g2:=mF a c;have x:=V.cut 0 a (cO _) (by rw[ae s];omega) (Ad b o) (.R rfl) c (l.take a) aj;have R:=ag x;clear x;go_wp2;go_ret;exact⟨_,_,_,rfl,by rw[ae u,rM,ae s];omega,af,by rw[ae u];exact ae R,aR _ _⟩}}}
def tG(v:dV):Prop:=∃p n c,v=.S p n c/\n<=c/\c<=maxLen
structure Jj(w:G)(b a:Nat)(nd:ar)(P V H iU:dV):Prop where
 c0:I w (Ad b a)=P
 c1:I w (Ad b (a+1))=V
 c2:I w (Ad b (a+2))=dU nd.D
 c3:I w (Ad b (a+3))=dI nd.M
 c4:I w (Ad b (a+4))=H
 c5:I w (Ad b (a+5))=dU nd.P
 c6:I w (Ad b (a+6))=dU nd.F
 c7:I w (Ad b (a+7))=iU
 r0:Rd w P nd.A
 r1:Rd w V nd.V
 r4:iZ w H nd.y
 r7:iZ w iU nd.X
 k0:tG P
def Jj.H{P V H iU:dV}(h:Jj w b a nd P V H iU)(i:Bw w w'):Jj w' b a nd P V H iU:=
 ⟨al h.c0 i,al h.c1 i,al h.c2 i,al h.c3 i,al h.c4 i,al h.c5 i,al h.c6 i,al h.c7 i,h.r0.H i,h.r1.H i,h.r4.H i,h.r7.H i,h.k0⟩
def gJ(w:G)(v:dV)(ns:List ar):Prop:=
 ∃(p:OA)(c:Nat),v=.S p (J ns) c/\(ns=[]\/∃b o,p=(Ad b o)/\∀i j,ns[i]?=Y j->∃P V H iU,Jj w b (o+i*8) j P V H iU)
def gJ.H(h:gJ w v ns)(j:Bw w w'):gJ w' v ns:=by
 obtain⟨p,c,rfl,h⟩:=h;refine⟨p,c,rfl,?_⟩;obtain h|⟨b,o,rfl,h⟩:=h;{exact .L h};{refine .R ⟨b,o,rfl,λi e he=>?_⟩;let⟨P,V,H,iU,m⟩:=h i e he;exact⟨P,V,H,iU,m.H j⟩}
abbrev Cc(P V:dV)(ow mo:Int)(H:dV)(ep ge:Int)(iU:dV):dV:=.agg #[P,V,.U ow,.I mo,H,.U ep,.U ge,iU]
def pL(e g j:Int)(i:Nat)(o m:Int):Bool:=
 if j=1 then i==1&&(dD (1<=m)&&(dD (m<=g)&&dD (o<=e)))else o==0&&(m==0&&(if j=0 then i==0 else j==2&&dD (1<=i)))
def ce0{o i m j:Int}{S N P V iU:dV}(u:Mg n)(q:O (pL e g i n m j=B)):dQ dG 153 #[bS e g x t S N,Cc P V o i (.S p n c) m j iU] w (Rb (.bool B) w):=by
 go_in;go_wp2_with fail
 all_goals(
  go_ret;refine⟨?_,(aD.alloc aA _).alloc aj _⟩;rw[<-ae q];simp only[pL,aU0,aW3])
 all_goals first|(simp_all;done)|(simp_all;omega)|skip
 all_goals(
  show Value.bool ((n:Int)==0)=Value.bool _;congr 1;have s:i=0:=(by simpa using ‹(i==0)=dY›);have r:j=0:=(by simpa using ‹(j != 0)=dF›);subst s r;rw[Po]
  simp_all)
def gJ.at(h:gJ w (.S p n c) ns)(j:0<J ns):∃b o,p=(Ad b o)/\∀i nd,ns[i]?=Y nd->∃P V H iU,Jj w b (o+i*8) nd P V H iU:=by
 obtain⟨u,x,ev,m⟩:=h;obtain⟨rfl,-,-⟩:=jJ ev;obtain s|⟨b,o,r,q⟩:=m;{rw[s]at j;simp at j};{exact⟨b,o,r,q⟩}
def Rd.dy(h:Rd w v l):∃p c n,v=.S p n c/\Le l n:=by
 obtain⟨p,c,rfl,-⟩:=h;exact⟨p,c,_,rfl,cM⟩
def List.cD4{α:Type}{ns:List α}{y:α}(h:ns[k]?=y):y::ns.drop (k+1)=ns.drop k:=by
 obtain⟨i,rfl⟩:=bg.1 h;exact(Hu i).C
def jW(ns:List ar)(l:LI):Option ar:=ns.find? λi=>dD (i.A=l)
def aY9(Z:Le ns n)(em:Le l m)(h:gJ w (.S p n c) ns)(hl:Rd w (.S q m d) l)(hn:Mg n)(hm:m<=2097152)(cQ:O (aC l/\∀nd∈ns,aC nd.A)):dQ dG 107 #[bS e g x t S (.S p n c),.S q m d] w λr w'=>((∃(k:Nat)(nd:ar),r=dR (.I k)/\k<n/\ns[k]?=Y nd/\jW ns l=Y nd)\/(r=dR (.I (-1))/\jW ns l=dN))/\Bw w w':=by
 have HR:=ag λ(w':G)(X:Bw w w')=>aF (h.H X) (hl.H X);go_in;go_wp2_with fail;let⟨W,y⟩:=aG (w.alloc (dO #[.U e,.U g,.U x,.I t,S,.S p n c] 41));have bW:=gF y;have oI:I W (Aw w 5)=dS p n c:=by rw[y];simp
 rw[<-y];have BW:=ag bW;have N:=ag oI
 go_loopw[5](λj wr=>∃k:Nat,k<=n/\j=.I k/\O (jW (ns.take k) l=dN)/\Bw W wr) (λj _=>n-(intOf j).toNat)
 exact⟨0,cO _,rfl,cM,aR _ _⟩;{
 obtain⟨k,hk,rfl,s,D⟩:=hrel;have R:=ai BW D;have i5:=al N D;by_cases aH:k<n;{
 have cL:=bM k n;have bR:k<J ns:=ae Z▸aH;let⟨hN,hL⟩:=ae HR _ R;obtain⟨b,o,rfl,hA⟩:=hN.at af;let⟨nd,u⟩:=nR bR;let⟨P,V,H,iU,aJ⟩:=hA k nd u;have hP:=aJ.c0;have Cl:=aJ.r0;obtain⟨pp,pc,pn,rfl,uZ⟩:=Cl.dy;have MV:=cQ.2 nd (bu u);have E:=ag u;have Sk:=ag Cl;have Ez:=ag MV;have M:=ag hL;go_wp2_with fail;refine br (Um uZ em Sk M Ez cQ.1) λw2 ay=>?_;by_cases i:nd.A=l;{
 rw[show dD (nd.A=l)=dY by simp[i]];have hF:O (jW ns l=Y nd):=by
  show _=_;have e1:ns=ns.take k++nd::ns.drop (k+1):=by rw[List.cD4 (ae E),Ic]
  rw[e1,jW,List.find?_append,show(ns.take k).find? (λnd=>dD (nd.A=l))=dN from ae s];simp[i]
 have B:=ai R ay;go_wp2;go_ret;exact⟨.L ⟨k,nd,rfl,aH,E,hF⟩,B⟩};{
 rw[show dD (nd.A=l)=dF by simp[i]];have Ym:O (jW (ns.take (k+1)) l=dN):=by show _=_;rw[pZ,ae E,jW,List.find?_append,show(ns.take k).find? (λnd=>dD (nd.A=l))=dN from ae s];simp[i]
 have B:=ai D ay;go_wp2;go_roundw;exact⟨k+1,af,by go_num,Ym,B⟩;exact cW}};{
 have cL:=fq k n;have hF:O (jW ns l=dN):=by show _=_;have:=ae s;rwa [lY (by rw[ae Z];omega)]at this
 go_wp2;go_ret;exact⟨.R ⟨rfl,hF⟩,R⟩}}
def nQ(ns:List ar)(l:LI):Bool:=if l=[47]then dY else match jW ns l with|some nd=>nd.D==0|none=>dF
theorem ao8(en:Le ns n)(em:Le l m)(h:gJ w (.S p n c) ns)(hl:Rd w (.S q m d) l)(hn:Mg n)(hm:m<=2097152)(cQ:O (aC l/\∀nd∈ns,aC nd.A))(eB:O (nQ ns l=B)):dQ dG 149 #[bS e g x t S (.S p n c),.S q m d] w (Rb (.bool B) w):=by
 have M:=ag λ(w':G)(hb:Bw w w')=>aF (h.H hb) (hl.H hb);clear h hl;let⟨W,u⟩:=aG (w.alloc (dO #[.U e,.U g,.U x,.I t,S,.S p n c] 41));have bW:=gF u;have N:U W.heap=U w.heap+1:=by rw[u];simp
 have oI:fK W (U w.heap) e g x t S (.S p n c):=by rw[u];simp[fK]
 have hcv:=Lib.run_convert_bytes_const (P:=dG) W 22 5 #[.int .u8 47] 1 1 underlying22 underlying5;simp only[show(#[Value.int .u8 47]:iA).size=1 from rfl]at hcv;let⟨X,s⟩:=aG (W.alloc (dO #[.int .u8 47] 5 (1,1+1)));have rX:Rd X (.T (U w.heap+1) 1 1) [47]:=by
  rw[s,<-N];refine⟨_,_,rfl,.R ⟨U W.heap,0,rfl,λi hi=>?_⟩⟩
  match i,hi with
  |0,_=>(rw[mO,cF3];rfl)
 have bX:Bw w X:=s▸bW.alloc af _;have iX:fK X (U w.heap) e g x t S (.S p n c):=oI.H (s▸aD.alloc aA _);rw[<-s,N,u]at hcv;clear N oI bW s u;have RX:=ag rX;have BX:=ag bX;have IX:=ag iX;clear rX bX iX;go_in;go_wp2_with fail;refine(Um em cM (ae M _ BX).2 RX cQ.1 (by intro x hx;simp at hx;omega)).h ?_;rintro r w2⟨rfl,Z⟩;have E:=ai BX Z;let⟨j0,j1,j2,j3,j4,j5⟩:=IX.H Z;clear hcv Z;by_cases j:l=[47];{
 rw[show dD (l=[47])=dY by simp[j]];obtain rfl:B:=by rw[<-ae eB,nQ,aM j]
 clear j;go_wp2;go_ret;exact⟨rfl,E⟩};{
 rw[show dD (l=[47])=dF by simp[j]];have hB:(match jW ns l with|some nd=>nd.D==0|none=>dF)=B:=by rw[<-ae eB,nQ,aL j]
 have y:=ag hB;clear hB j;go_wp2_with fail;refine(aY9 en em (ae M _ E).1 (ae M _ E).2 hn hm cQ).h ?_;rintro r w3⟨hr,aI⟩;have D:=ai E aI;have k5:=al j5 aI;clear j0 j1 j2 j3 j4 j5 aI;obtain⟨k,nd,rfl,hk,hy,hF⟩|⟨rfl,hF⟩:=hr;{
 rw[hF]at y;have bR:k<J ns:=ae en▸hk;obtain⟨b,o,rfl,hA⟩:=(ae M _ D).1.at af;let⟨P,V,H,iU,aJ⟩:=hA k nd hy;have hO:=aJ.c2;have Iu:=bM k n;have xZ:=gm 0 k;clear hA aJ bR hy hF;cases B with
 |true=>
  have R:nd.D=0:=by have:=ae y;simpa using this
  rw[R]at hO;clear R;go_wp2;go_ret;exact⟨rfl,D⟩
 |false=>
  have R:(nd.D==0)=dF:=ae y;go_wp2;go_ret;exact⟨rfl,D⟩};{rw[hF]at y;obtain rfl:B=dF:=y.C;clear hF;go_wp2;go_ret;exact⟨rfl,D⟩}}
def leB(l m:LI):Bool:=Op.bytesLess (aZ l).toList (aZ m).toList||(aZ l).toList==(aZ m).toList
def jh:ar:=⟨[],[],0,0,[],0,0,[]⟩
def uy(e g:Int)(ss:List aB)(ns:List ar)(k:Nat):Bool:=
 let i:=ns.getD k jh
 (vp i.A&&(k==0||!leB i.A (ns.getD (k-1) jh).A))&&(nQ ns (ig i.A)&&(dD (J i.V<=40)&&((i.D==0||live ss i.D)&&(qN ss i.y&&(qN ss i.X&&pL e g i.M (J i.y) i.P i.F)))))
def TG(h:aC l):aC (ig l):=by
 unfold ig;split;{intro x i;simp at i;omega};{exactλx i=>h x (Pq i)}
def iZ.dy(h:iZ w v l):∃p c n,v=.S p n c/\Le l n:=by
 obtain⟨p,c,rfl,-⟩:=h;exact⟨p,c,_,rfl,cM⟩
theorem dH9(en:Le ss n)(em:Le ns m)(h:lI w (.S p n c) ss)(hN:gJ w (.S q m d) ns)(hn:Mg n)(hm:Mg m)(hk:k<m)(cQ:O (Bn ns))(eB:O (uy e g ss ns k=B)):dQ dG 86 #[bS e g x t (.S p n c) (.S q m d),.I k] w (Rb (.bool B) w):=by
 have HR:=ag λ(w':G)(hb:Bw w w')=>aF (h.H hb) (hN.H hb);have bR:k<J ns:=ae em▸hk;let⟨u,hy⟩:=nR bR;have xg:ns.getD k jh=u:=by rw[im,hy];rfl
 obtain⟨b,o,rfl,hA⟩:=hN.at af;let⟨P,V,H,iU,aJ⟩:=hA k u hy;let⟨qe,fN,MX,MW,U6⟩:=ae cQ _ (bu hy);obtain⟨pp,pc,pn,rfl,uZ⟩:=aJ.r0.dy;obtain⟨JC,vc,vn,rfl,Nj⟩:=aJ.r1.dy;obtain⟨hp,hc,hh,rfl,Ai⟩:=aJ.r4.dy;obtain⟨up,uc,un,rfl,CM⟩:=aJ.r7.dy;have Co:pn<=1048576:=ae uZ▸fN;have hvn:vn<=1048576:=ae Nj▸MX;have DZ:hh<=1048576:=ae Ai▸MW;have DS:un<=1048576:=ae CM▸U6;have Iu:=bM k m;have dV4:=gm 0 k;have b1:Bw w (w.alloc (dO #[.U e,.U g,.U x,.I t,.S p n c,.S (Ad b o) m d] 41)):=aD.alloc aA _;have dS6:=aJ.H b1;obtain⟨c0,c1,c2,c3,c4,c5,c6,c7,-,-,-,-,-⟩:=dS6;have HYD:=ag xg;have Ha:=ag aJ;have Ez:=ag qe;have HA:=ag hA;go_in;go_wp2_with fail;let⟨X,hX⟩:=aG ((w.alloc (dO #[.U e,.U g,.U x,.I t,.S p n c,.S (Ad b o) m d] 41)).alloc (dO #[.S pp pn pc,.S JC vn vc,.U u.D,.I u.M,.S hp hh hc,.U u.P,.U u.F,.S up un uc] 141));have bX:Bw w X:=hX▸b1.alloc aj _;have iX:fK X (U w.heap) e g x t (.S p n c) (.S (Ad b o) m d):=by rw[hX];simp[fK]
 have nX:Jj X (U w.heap+1) 0 u (.S pp pn pc) (.S JC vn vc) (.S hp hh hc) (.S up un uc):=
  ⟨by rw[hX];simp,by rw[hX];simp,by rw[hX];simp,by rw[hX];simp,by rw[hX];simp,by rw[hX];simp,by rw[hX];simp,by rw[hX];simp,Ha.r0.H bX,Ha.r1.H bX,Ha.r4.H bX,Ha.r7.H bX,Ha.k0⟩
 rw[<-hX];have BX:=ag bX;have IX:=ag iX;have NX:=ag nX;let⟨V1,eV⟩:=aY (vp u.A);have EV:=ag eV;obtain⟨C,eC⟩:∃C,(!(V1&&(k==0||!leB u.A (ns.getD (k-1) jh).A)))=C:=⟨_,rfl⟩;have hB:B=(!C&&(nQ ns (ig u.A)&&(dD (J u.V<=40)&&((u.D==0||live ss u.D)&&(qN ss u.y&&(qN ss u.X&&pL e g u.M (J u.y) u.P u.F)))))):=by rw[<-ae eB,uy,ae HYD,<-eC,aW2,show vp u.A=V1 from ae EV]
 go_cut[32](λrv wc=>rv=.bool C/\Bw w wc/\fK wc (U w.heap) e g x t (.S p n c) (.S (Ad b o) m d)/\Jj wc (U w.heap+1) 0 u (.S pp pn pc) (.S JC vn vc) (.S hp hh hc) (.S up un uc))
 case first=>(
 cases V1 with
 |false=>
  obtain rfl:C:=by rw[<-eC];rfl
  refine fk (λw'=>I w' (Ax w 0)=dS pp pn pc/\I w' (Aw w 5)=dS (Ad b o) m d/\Rd w' (.S pp pn pc) u.A) (by exact⟨NX.c0,IX.2.2.2.2.2,NX.r0⟩) λhS=>?_;refine fO 0 1 hS ?_;refine ry [2] ?_;refine cn (λKK hK=>?_) ?_;{refine jg (Wu uZ (by exact NX.r0) Ez Co EV) ?_;rintro r w2⟨rfl,N⟩;refine⟨_,rfl,?_⟩;have y:Bw X w2:=ai (aR (U X.heap) X).drew N;refine bL hK (by exact⟨al NX.c0 y,al IX.2.2.2.2.2 y,NX.r0.H y⟩) λhS=>?_;refine fO 3 4 hS ?_;refine kr 5 6 7 8 hS ?_;refine kr 9 10 11 12 hS ?_;refine kr 13 14 15 16 hS ?_;refine kr 17 18 19 20 hS ?_;refine tn 21 hS ?_;refine fy ?_;go_wp2_with fail;go_meet;exact⟨rfl,ai BX y,IX.H y,NX.H y⟩};exact fg
 |true=>
  by_cases xZ:k=0;{
 obtain rfl:C=dF:=by rw[<-eC,xZ];rfl
 have hp':¬0<k:=af;have fq6:¬(0:Int)<(k:Int):=af;clear eC xZ;refine fk (λw'=>I w' (Ax w 0)=dS pp pn pc/\I w' (Aw w 5)=dS (Ad b o) m d/\Rd w' (.S pp pn pc) u.A) (by exact⟨NX.c0,IX.2.2.2.2.2,NX.r0⟩) λhS=>?_;refine fO 0 1 hS ?_;refine ew 2 λKK hK=>?_;refine jg (Wu uZ (by exact NX.r0) Ez Co EV) ?_;rintro r w2⟨rfl,N⟩;refine⟨_,rfl,?_⟩;have y:Bw X w2:=ai (aR (U X.heap) X).drew N;refine bL hK (by exact⟨al NX.c0 y,al IX.2.2.2.2.2 y,NX.r0.H y⟩) λhS=>?_;clear hK KK;refine iC 3 4 5 6 hS ?_;refine tn 7 hS ?_;refine kr 8 9 10 11 hS ?_;refine kr 12 13 14 15 hS ?_;refine kr 16 17 18 19 hS ?_;refine fO 20 21 hS ?_;refine fy ?_;clear hS;go_wp2_with fail;go_meet;exact⟨rfl,ai BX y,IX.H y,NX.H y⟩};{
 obtain⟨j,ej⟩:∃j:Nat,(k:Int)-1=(j:Int):=⟨k-1,af⟩;have CL:k-1=j:=af;have oy:j<J ns:=af;let⟨zd,hz⟩:=nR oy;have XT:ns.getD j jh=zd:=by rw[im,hz];rfl
 let⟨Z,Z1,Z2,Z3,hzn⟩:=ae HA j zd hz;obtain⟨zp,zc,zn,rfl,eZn⟩:=hzn.r0.dy;have KZ:=ag (al hzn.c0 BX);have RZ:=ag (hzn.r0.H BX);have hpk:0<k:=af;have fq3:=qV 0 k;have Qm:=bM j m;have Yw:=gm 0 j;have wj:=il j;rw[CL,XT,show(k==0)=dF by simp[xZ],vI,Uh,aW2]at eC;have HLE:O ((Op.bytesLess (aZ u.A).toList (aZ zd.A).toList||(aZ u.A).toList==(aZ zd.A).toList)=C):=eC;clear hz XT oy hzn CL xZ eC;refine fk (λw'=>I w' (Ax w 0)=dS pp pn pc/\I w' (Aw w 5)=dS (Ad b o) m d/\Rd w' (.S pp pn pc) u.A/\I w' (Ad b (o+j*8))=dS zp zn zc/\Rd w' (.S zp zn zc) zd.A) (by exact⟨NX.c0,IX.2.2.2.2.2,NX.r0,KZ,RZ⟩) λhS=>?_;refine fO 0 1 hS ?_;refine ry [2] ?_;refine cn (λKK hK=>?_) ?_;{
 refine jg (Wu uZ (by exact NX.r0) Ez Co EV) ?_;rintro r w2⟨rfl,N⟩;refine⟨_,rfl,?_⟩;have y:Bw X w2:=ai (aR (U X.heap) X).drew N;refine bL hK (by exact⟨al NX.c0 y,al IX.2.2.2.2.2 y,NX.r0.H y,al KZ y,RZ.H y⟩) λhS=>?_;clear hK KK;refine iC 3 4 5 6 hS ?_;refine fO 7 8 hS ?_;refine tn 9 hS ?_;refine Hy (i:=10) (oi:=_) (v:=?_) (by simp only[sV,uA,uz];rfl) aU aU aU (λ_ _ _ h=>h) (Or.L ⟨aS,?_⟩) hS ?_;rotate_left;{(intro w' mw;(try dsimp only at mw);have hcv:=tK uZ mw.2.2.1;go_simp;try with_reducible rfl)}
 simp only[Act.put,xa,xb,xc];refine iC 11 12 13 14 hS ?_;refine fO 15 16 hS ?_;refine tn 17 hS ?_;refine Hy (i:=18) (oi:=_) (v:=?_) (by simp only[sV,uA,uz];rfl) aU aU aU (λ_ _ _ h=>h) (Or.L ⟨aS,?_⟩) hS ?_;rotate_left;{(intro w' mw;(try dsimp only at mw);have hcv:=tK eZn mw.2.2.2.2;go_simp;try with_reducible rfl)}
 simp only[Act.put,xa,xb,xc];refine Hy (i:=19) (oi:=_) (v:=?_) (by simp only[sV,uA,uz];rfl) aU aU aU (λ_ _ _ h=>h) (Or.L ⟨aS,?_⟩) hS ?_;rotate_left;{(intro w' mw;(try dsimp only at mw);have hle:=ae HLE;go_simp;try with_reducible rfl)}
 simp only[Act.put,xa,xb,xc];refine fO 20 21 hS ?_;refine fy ?_;clear hS;go_wp2_with fail;go_meet;exact⟨rfl,ai BX y,IX.H y,NX.H y⟩};exact fg})
 obtain⟨rfl,nM,⟨i0,i1,i2,i3,i4,i5⟩,nE⟩:=hcut;have W:=ag nE;obtain⟨c0,c1,c2,c3,c4,c5,c6,c7,-,-,-,-,-⟩:=nE;clear EV HA Ha NX IX BX;cases C with
 |true=>
  obtain rfl:B=dF:=by rw[hB];rfl
  clear hB eC;go_wp2;go_ret;exact⟨rfl,nM⟩
 |false=>
  rw[aW1,vI]at hB;have HB:=ag hB;clear hB eC;go_wp2_with fail;let⟨pa,pb,pd,epp,P8,hpm⟩:=W.k0;obtain⟨rfl,rfl,rfl⟩:=jJ epp;have I6:O (fK wc (U w.heap) e g x t (.S p n c) (.S (Ad b o) m d)):=⟨i0,i1,i2,i3,i4,i5⟩;have hcp:∀(vs:iA)(w:G),(callFunc 150 vs).run dG w=.ok (.enter 150 vs) w:=λvs w=>aU;have HCP:=ag hcp;have kL:∀(vs:iA)(w:G),(callFunc 149 vs).run dG w=.ok (.enter 149 vs) w:=λvs w=>aU;have kW:=ag kL;have HBN:O (aC (ig u.A)/\∀u∈ns,aC u.A):=⟨TG Ez,λu h=>(ae cQ u h).1⟩;clear i0 i1 i2 i3 i4 i5 c0 c1 c2 c3 c4 c5 c6 c7 hcp kL;let⟨C2,eC2⟩:=aY (nQ ns (ig u.A));have EC2:=ag eC2;obtain⟨C3,KQ⟩:∃C3,(!(C2&&dD (J u.V<=40)))=C3:=⟨_,rfl⟩;have fN:B=(!C3&&((u.D==0||live ss u.D)&&(qN ss u.y&&(qN ss u.X&&pL e g u.M (J u.y) u.P u.F)))):=by rw[ae HB,eC2,<-KQ,aW2,Bool.and_assoc]
  rw[ae Nj]at KQ;clear eC2 HB
  go_cut[44](λrv w'=>rv=.bool C3/\Bw w w'/\fK w' (U w.heap) e g x t (.S p n c) (.S (Ad b o) m d)/\Jj w' (U w.heap+1) 0 u (.S pp pn pc) (.S JC vn vc) (.S hp hh hc) (.S up un uc))
  case first=>(
 clear fN;cases C2 with
 |false=>
  obtain rfl:C3:=by rw[<-KQ];rfl
  clear KQ;refine fk (λw'=>fK w' (U w.heap) e g x t (.S p n c) (.S (Ad b o) m d)/\I w' (Ax w 0)=dS pp pn pc/\I w' (Ax w 1)=dS JC vn vc) (by exact⟨I6,W.c0,W.c1⟩) λhS=>?_;refine fO 0 1 hS ?_;refine tn 2 hS ?_;refine ry [3] ?_;refine cn (λKK hK=>?_) ?_;{refine Hj aS aS aS (λ_=>ae HCP _ _) (XK uZ (by exact W.r0) Co P8 hpm) ?_;rintro r w2⟨q',m',d',rfl,Nd,FQ,Yh,N⟩;refine⟨_,rfl,?_⟩;have y:Bw wc w2:=ai (aR (U wc.heap) wc).drew N;refine bL hK (by exact⟨I6.H y,al W.c0 y,al W.c1 y⟩) λhS=>?_;clear hK KK;refine ew 4 λKK hK=>?_;refine Tm aS aS aS aS (λ_=>ae kW _ _) (ao8 em Nd (ae HR _ (ai nM y)).2 Yh hm af HBN EC2) ?_;rintro r w3⟨rfl,aI⟩;refine⟨_,rfl,?_⟩;have cT:Bw wc w3:=ai y aI;refine bL hK (by exact⟨I6.H cT,al W.c0 cT,al W.c1 cT⟩) λhS=>?_;clear hK KK;refine fO 5 6 hS ?_;refine kr 7 8 9 10 hS ?_;refine tn 11 hS ?_;refine fy ?_;clear hS;go_wp2_with fail;go_meet;exact⟨rfl,ai nM cT,I6.H cT,W.H cT⟩};exact fg
 |true=>
  by_cases h40:vn<=40;{
 obtain rfl:C3=dF:=by rw[<-KQ];simp[h40]
 have eh6:¬(40:Int)<(vn:Int):=af;clear KQ;refine fk (λw'=>fK w' (U w.heap) e g x t (.S p n c) (.S (Ad b o) m d)/\I w' (Ax w 0)=dS pp pn pc/\I w' (Ax w 1)=dS JC vn vc) (by exact⟨I6,W.c0,W.c1⟩) λhS=>?_;refine fO 0 1 hS ?_;refine tn 2 hS ?_;refine ew 3 λKK hK=>?_;refine Hj aS aS aS (λ_=>ae HCP _ _) (XK uZ (by exact W.r0) Co P8 hpm) ?_;rintro r w2⟨q',m',d',rfl,Nd,FQ,Yh,N⟩;refine⟨_,rfl,?_⟩;have y:Bw wc w2:=ai (aR (U wc.heap) wc).drew N;refine bL hK (by exact⟨I6.H y,al W.c0 y,al W.c1 y⟩) λhS=>?_;clear hK KK;refine ew 4 λKK hK=>?_;refine Tm aS aS aS aS (λ_=>ae kW _ _) (ao8 em Nd (ae HR _ (ai nM y)).2 Yh hm af HBN EC2) ?_;rintro r w3⟨rfl,aI⟩;refine⟨_,rfl,?_⟩;have cT:Bw wc w3:=ai y aI;refine bL hK (by exact⟨I6.H cT,al W.c0 cT,al W.c1 cT⟩) λhS=>?_;clear hK KK;refine iC 5 6 7 8 hS ?_;refine fO 9 10 hS ?_;refine tn 11 hS ?_;refine fy ?_;clear hS;go_wp2_with fail;go_meet;exact⟨rfl,ai nM cT,I6.H cT,W.H cT⟩};{
 obtain rfl:C3:=by rw[<-KQ];simp[h40]
 have eh6:=qV 40 vn;clear KQ;refine fk (λw'=>fK w' (U w.heap) e g x t (.S p n c) (.S (Ad b o) m d)/\I w' (Ax w 0)=dS pp pn pc/\I w' (Ax w 1)=dS JC vn vc) (by exact⟨I6,W.c0,W.c1⟩) λhS=>?_;refine fO 0 1 hS ?_;refine tn 2 hS ?_;refine ry [3] ?_;refine cn (λKK hK=>?_) ?_;{refine Hj aS aS aS (λ_=>ae HCP _ _) (XK uZ (by exact W.r0) Co P8 hpm) ?_;rintro r w2⟨q',m',d',rfl,Nd,FQ,Yh,N⟩;refine⟨_,rfl,?_⟩;have y:Bw wc w2:=ai (aR (U wc.heap) wc).drew N;refine bL hK (by exact⟨I6.H y,al W.c0 y,al W.c1 y⟩) λhS=>?_;clear hK KK;refine ew 4 λKK hK=>?_;refine Tm aS aS aS aS (λ_=>ae kW _ _) (ao8 em Nd (ae HR _ (ai nM y)).2 Yh hm af HBN EC2) ?_;rintro r w3⟨rfl,aI⟩;refine⟨_,rfl,?_⟩;have cT:Bw wc w3:=ai y aI;refine bL hK (by exact⟨I6.H cT,al W.c0 cT,al W.c1 cT⟩) λhS=>?_;clear hK KK;refine iC 5 6 7 8 hS ?_;refine fO 9 10 hS ?_;refine tn 11 hS ?_;refine fy ?_;clear hS;go_wp2_with fail;go_meet;exact⟨rfl,ai nM cT,I6.H cT,W.H cT⟩};exact fg})
  obtain⟨rfl,YP,⟨i0,i1,i2,i3,i4,i5⟩,ck1⟩:=hcut;have pT:=ag ck1;obtain⟨c0,c1,c2,c3,c4,c5,c6,c7,-,-,-,-,-⟩:=ck1;clear I6 W HCP kW HBN EC2 KQ;cases C3 with
  |true=>
   obtain rfl:B=dF:=by rw[fN];rfl
   clear fN;go_wp2;go_ret;exact⟨rfl,YP⟩
  |false=>
   rw[aW1,vI]at fN;let⟨ow,eo⟩:=aY u.D;rw[eo]at fN c2;clear eo;by_cases ho:ow=0;{
 subst ho;have oY:O (B=(qN ss u.y&&(qN ss u.X&&pL e g u.M (J u.y) u.P u.F))):=fN;clear fN;let⟨T1,Rg⟩:=aY (qN ss u.y);let⟨T2,Gx⟩:=aY (qN ss u.X);let⟨T3,Gw⟩:=aY (pL e g u.M hh u.P u.F);have ET1:=ag Rg;have ET2:=ag Gx;have ET3:=ag Gw;have xB:O (B=(T1&&(T2&&T3))):=by show _=_;rw[ae oY,Rg,Gx,ae Ai,Gw]
 clear Rg Gx Gw oY;go_wp2_with fail;refine br (ao7 en Ai (ae HR _ YP).1 pT.r4 hn DZ ET1) λwa D=>?_;have Ba:=ai YP D;have HNa:=ag (pT.H D);cases T1 with
 |false=>
  obtain rfl:B=dF:=by rw[ae xB];rfl
  clear xB;go_wp2;go_ret;exact⟨rfl,Ba⟩
 | true=>
  have a0:=al i0 D;have a1:=al i1 D;have a2:=al i2 D;have a3:=al i3 D;have a4:=al i4 D;have a5:=al i5 D;have d0:=al c0 D;have d1:=al c1 D;have d2:=al c2 D;have d3:=al c3 D;have d4:=al c4 D;have d5:=al c5 D;have d6:=al c6 D;have d7:=al c7 D;clear i0 i1 i2 i3 i4 i5 c0 c1 c2 c3 c4 c5 c6 c7 D;go_wp2_with fail;refine br (ao7 en CM (ae HR _ Ba).1 HNa.r7 hn DS ET2) λwb M=>?_;have Bb:=ai Ba M;cases T2 with
  |false=>
   obtain rfl:B=dF:=by rw[ae xB];rfl
   clear xB;go_wp2;go_ret;exact⟨rfl,Bb⟩
  |true=>
   obtain rfl:B=T3:=by rw[ae xB];rfl
   have f0:=al a0 M;have f1:=al a1 M;have f2:=al a2 M;have f3:=al a3 M;have f4:=al a4 M;have f5:=al a5 M;have g0:=al d0 M;have g1:=al d1 M;have g2:=al d2 M;have g3:=al d3 M;have g4:=al d4 M;have g5:=al d5 M;have g6:=al d6 M;have g7:=al d7 M;clear a0 a1 a2 a3 a4 a5 d0 d1 d2 d3 d4 d5 d6 d7 M xB;go_wp2_with fail;refine br (ce0 DZ ET3) λwd YO=>?_;have Bd:=ai Bb YO;clear YO f0 f1 f2 f3 f4 f5 g0 g1 g2 g3 g4 g5 g6 g7;go_wp2;go_ret;exact⟨rfl,Bd⟩};{
 have hod:(ow==0)=dF:=by simp[ho]
 have fq7:(ow != 0):=by simp[ho]
 rw[hod,Uh]at fN;let⟨L,eL⟩:=aY (live ss ow);have EL:O ((ss.any λs=>s.1==ow)=L):=eL;rw[eL]at fN;have oY:=ag fN;clear fN eL;go_wp2_with fail;refine br (XL en (ae HR _ YP).1 hn EL) λw2 N=>?_;have b2:=ai YP N;cases L with
 |false=>
  obtain rfl:B=dF:=by rw[ae oY];rfl
  clear oY;go_wp2;go_ret;exact⟨rfl,b2⟩
 | true=>
  have oY:O (B=(qN ss u.y&&(qN ss u.X&&pL e g u.M (J u.y) u.P u.F))):=ae oY;have Oc:=ag (pT.H N);replace i0:=al i0 N;replace i1:=al i1 N;replace i2:=al i2 N;replace i3:=al i3 N;replace i4:=al i4 N;replace i5:=al i5 N;replace c0:=al c0 N;replace c1:=al c1 N;replace c2:=al c2 N;replace c3:=al c3 N;replace c4:=al c4 N;replace c5:=al c5 N;replace c6:=al c6 N;replace c7:=al c7 N;clear N;let⟨T1,Rg⟩:=aY (qN ss u.y);let⟨T2,Gx⟩:=aY (qN ss u.X);let⟨T3,Gw⟩:=aY (pL e g u.M hh u.P u.F);have ET1:=ag Rg;have ET2:=ag Gx;have ET3:=ag Gw;have xB:O (B=(T1&&(T2&&T3))):=by show _=_;rw[ae oY,Rg,Gx,ae Ai,Gw]
  clear Rg Gx Gw oY;go_wp2_with fail;refine br (ao7 en Ai (ae HR _ b2).1 Oc.r4 hn DZ ET1) λwa D=>?_;have Ba:=ai b2 D;have HNa:=ag (Oc.H D);cases T1 with
  |false=>
   obtain rfl:B=dF:=by rw[ae xB];rfl
   clear xB;go_wp2;go_ret;exact⟨rfl,Ba⟩
  | true=>
   have a0:=al i0 D;have a1:=al i1 D;have a2:=al i2 D;have a3:=al i3 D;have a4:=al i4 D;have a5:=al i5 D;have d0:=al c0 D;have d1:=al c1 D;have d2:=al c2 D;have d3:=al c3 D;have d4:=al c4 D;have d5:=al c5 D;have d6:=al c6 D;have d7:=al c7 D;clear i0 i1 i2 i3 i4 i5 c0 c1 c2 c3 c4 c5 c6 c7 D;go_wp2_with fail;refine br (ao7 en CM (ae HR _ Ba).1 HNa.r7 hn DS ET2) λwb M=>?_;have Bb:=ai Ba M;cases T2 with
   |false=>
    obtain rfl:B=dF:=by rw[ae xB];rfl
    clear xB;go_wp2;go_ret;exact⟨rfl,Bb⟩
   |true=>
    obtain rfl:B=T3:=by rw[ae xB];rfl
    have f0:=al a0 M;have f1:=al a1 M;have f2:=al a2 M;have f3:=al a3 M;have f4:=al a4 M;have f5:=al a5 M;have g0:=al d0 M;have g1:=al d1 M;have g2:=al d2 M;have g3:=al d3 M;have g4:=al d4 M;have g5:=al d5 M;have g6:=al d6 M;have g7:=al d7 M;clear a0 a1 a2 a3 a4 a5 d0 d1 d2 d3 d4 d5 d6 d7 M xB;go_wp2_with fail;refine br (ce0 DZ ET3) λwd YO=>?_;have Bd:=ai Bb YO;clear YO f0 f1 f2 f3 f4 f5 g0 g1 g2 g3 g4 g5 g6 g7;go_wp2;go_ret;exact⟨rfl,Bd⟩}
def lr(e g x t:Int)(ss:List aB)(ns:List ar):Bool:=
 dD (e<=2^62/\g<=2^62/\x<=2^62/\0<=t/\t<=1000000/\J ss<=50/\J ns<=200)&&((List.range (J ss)).all (wC x ss)&&(List.range (J ns)).all (uy e g ss ns))
theorem ah9(en:Le ss n)(em:Le ns m)(h:lI w (.S p n c) ss)(hN:gJ w (.S q m d) ns)(hn:Mg n)(hm:Mg m)(gM:O (Bs ss))(cQ:O (Bn ns))(eB:O (lr e g x t ss ns=B)):dQ dG 45 #[bS e g x t (.S p n c) (.S q m d)] w (Rb (.bool B) w):=by
 have HR:=ag λ(w':G)(hb:Bw w w')=>aF (h.H hb) (hN.H hb);have r:Bw w (w.alloc (dO #[.U e,.U g,.U x,.I t,.S p n c,.S q m d] 41)):=aD.alloc aA _;have hB:B=(dD (e<=2^62/\g<=2^62/\x<=2^62/\0<=t/\t<=1000000/\n<=50/\m<=200)&&((List.range n).all (wC x ss)&&(List.range m).all (uy e g ss ns))):=by rw[<-ae eB,lr,ae en,ae em]
 have i:=ag hB;clear h hN hB eB;by_cases h0:4611686018427387904<e;{
 have o:B=dF:=by rw[ae i,Cf];exact .L (AM (λM=>af))
 subst o;clear i;go_in;go_wp2;go_ret;exact⟨rfl,r⟩};{
 have q0:e<=2^62:=af;by_cases h1:4611686018427387904<g;{
 have o:B=dF:=by rw[ae i,Cf];exact .L (AM (λM=>af))
 subst o;clear i;go_in;go_wp2;go_ret;exact⟨rfl,r⟩};{
 have q1:g<=2^62:=af;by_cases h2:4611686018427387904<x;{
 have o:B=dF:=by rw[ae i,Cf];exact .L (AM (λM=>af))
 subst o;clear i;go_in;go_wp2;go_ret;exact⟨rfl,r⟩};{
 have q2:x<=2^62:=af;by_cases h3:t<0;{
 have o:B=dF:=by rw[ae i,Cf];exact .L (AM (λM=>af))
 subst o;clear i;go_in;go_wp2;go_ret;exact⟨rfl,r⟩};{
 have q3:0<=t:=af;by_cases h4:1000000<t;{
 have o:B=dF:=by rw[ae i,Cf];exact .L (AM (λM=>af))
 subst o;clear i;go_in;go_wp2;go_ret;exact⟨rfl,r⟩};{
 have q4:t<=1000000:=af;by_cases h5:(50:Int)<(n:Int);{
 have o:B=dF:=by rw[ae i,Cf];exact .L (AM (λM=>af))
 subst o;clear i;go_in;go_wp2;go_ret;exact⟨rfl,r⟩};{
 have q5:n<=50:=af;by_cases h6:(200:Int)<(m:Int);{
 have o:B=dF:=by rw[ae i,Cf];exact .L (AM (λM=>af))
 subst o;clear i;go_in;go_wp2;go_ret;exact⟨rfl,r⟩};{
 have q6:m<=200:=af;have lh:O (B=((List.range n).all (wC x ss)&&(List.range m).all (uy e g ss ns))):=by show _=_;rw[ae i,JV ⟨q0,q1,q2,q3,q4,q5,q6⟩,vI]
 clear i;go_in;go_wp2_with fail;let⟨W,Z⟩:=aG (w.alloc (dO #[.U e,.U g,.U x,.I t,.S p n c,.S q m d] 41));have jH:fK W (U w.heap) e g x t (.S p n c) (.S q m d):=by rw[Z];simp[fK]
 rw[<-Z]at r⊢;clear Z;have BW:=ag r;have BI:=ag jH;clear r jH
 go_loopw[3](λy wr=>∃k:Nat,k<=n/\y=.I k/\O ((List.range k).all (wC x ss))/\Bw W wr) (λy _=>n-(intOf y).toNat)
 exact⟨0,cO _,rfl,cM,aR _ _⟩;{
 obtain⟨k,hk,rfl,N,s⟩:=hrel;have u:=ai BW s;have i0:=BI.H s;by_cases V:k<n;{
 have cL:=bM k n;let⟨T,D⟩:=aY (wC x ss k);have ET:=ag D;go_wp2_with fail;refine br (dH8 en (ae HR _ u).1 hn V gM ET) λw2 R=>?_;cases T with
 |false=>
  obtain rfl:B=dF:=by rw[ae lh,Hp V D];rfl
  have E:=ai u R;go_wp2;go_ret;exact⟨rfl,E⟩
 |true=>
  have X:=ag (Ff N D);have E:=ai s R;go_wp2;go_roundw;exact⟨k+1,af,by go_num,X,E⟩;exact cW};{
 have cL:=fq k n;have CK:k=n:=af;have oY:O (B=(List.range m).all (uy e g ss ns)):=by show _=_;rw[ae lh,show(List.range n).all (wC x ss)=dY from CK▸ae N,vI]
 have vX:=ag (BI.H s);go_wp2_with fail;let⟨iY,eY⟩:=aG wr;subst eY;have BY:=ag u
 go_loopw[4](λy wr=>∃k:Nat,k<=m/\y=.I k/\O ((List.range k).all (uy e g ss ns))/\Bw iY wr) (λy _=>m-(intOf y).toNat)
 exact⟨0,cO _,rfl,cM,aR _ _⟩;{
 obtain⟨j,hk,rfl,N,s⟩:=hrel;have u:=ai BY s;have i0:=vX.H s;by_cases V:j<m;{
 have cL:=bM j m;let⟨T,D⟩:=aY (uy e g ss ns j);have ET:=ag D;go_wp2_with fail;refine br (dH9 en em (ae HR _ u).1 (ae HR _ u).2 hn hm V cQ ET) λw2 R=>?_;cases T with
 |false=>
  obtain rfl:B=dF:=ae oY▸Hp V D;have E:=ai u R;go_wp2;go_ret;exact⟨rfl,E⟩
 |true=>
  have X:=ag (Ff N D);have E:=ai s R;go_wp2;go_roundw;exact⟨j+1,af,by go_num,X,E⟩;exact cW};{
 have cL:=fq j m;have ekm:j=m:=af;obtain rfl:B:=by rw[ae oY,<-ekm];exact ae N
 go_wp2;go_ret;exact⟨rfl,u⟩}}}}}}}}}}}
open Go.Maps (Keyed IsMap)
def iF:dV->Option (DataW Unit×List MemPlace)
 |dP (Y ⟨b,0,dN⟩)=>Y (.lit (.int .i64 b),[])
 |dP dN=>Y (.nil,[])
 |_=>dN
def TD(b:Nat):iF (Pz b)=Y (.lit (.I b),[]):=rfl
def TF(h:iF v=Y (.lit (.I b),ps)):v=Pz b:=by
 unfold iF at h;split at h;{simp only[mn,jy,DataW.lit.injEq,L6,JQ,Int.natCast_inj]at h;rw[h.1]};{simp at h};{simp at h}
def aQ0(h:iF v=Y (.nil,ps)):v=dP dN:=by
 unfold iF at h;split at h;{simp at h};{rfl};{simp at h}
structure pR(D:DataW Unit)(l:List (Lit×Nat)):Prop where
 hs:∀k,Maps.has D k=dY↔∃p∈l,p.1=k
 at':∀p∈l,∀z,D.atKey p.1 z=.lit (.I p.2)
def pR.nil:pR (.map []) []:=⟨λk=>by simp[Maps.has],λp hp=>by simp at hp⟩
def pR.put{l:List (Lit×Nat)}(h:pR D l)(o:IsMap D){k:Lit}(m:WideAt.IsKeyLit k)(q:∀p∈l,p.1≠k)(g:Nat):pR (D.put k (.lit (.I g))) (l++[(k,g)]):=by
 refine⟨λj=>?_,λp i z=>?_⟩;{by_cases e:j=k;{subst e;simp[Maps.has_put_same o m]};{rw[Maps.has_put_other e,h.hs j];constructor;{rintro⟨p,i,rfl⟩;exact⟨p,by simp[i],rfl⟩};{rintro⟨p,i,rfl⟩;obtain i|i:=jd.1 i;{exact⟨p,i,rfl⟩};{simp at i;subst i;exact absurd rfl e}}}};{obtain i|i:=jd.1 i;{rw[Maps.atKey_put_other (q p i)];exact h.at' p i z};{simp at i;subst i;exact Maps.atKey_put_same o m _ _}}
def jL(D:DataW Unit)(s:LI):Prop:=∀k,Maps.has D k=dY↔∃i∈s,k=.U i
def jL.nil:jL (.map []) []:=λk=>by simp[Maps.has]
def jL.put(h:jL D s)(q:IsMap D)(i:Int)(d:DataW Unit):jL (D.put (.U i) d) (s++[i]):=by
 intro o;by_cases e:o=.U i;{subst e;rw[Maps.has_put_same q (by trivial)];simp};{rw[Maps.has_put_other e,h o];constructor;{rintro⟨j,m,rfl⟩;exact⟨j,by simp[m],rfl⟩};{rintro⟨j,m,rfl⟩;obtain m|m:=jd.1 m;{exact⟨j,m,rfl⟩};{simp at m;subst m;exact absurd rfl e}}}
theorem jL.dj7(h:jL D s)(m:IsMap D)(j:∀es,D=.map es->∀p∈es,WideAt.IsKeyLit p.1):Maps.size D=0↔s=[]:=by
 obtain⟨es,rfl⟩:=m;constructor;{
 intro q;obtain rfl:es=[]:=sX.1 q;cases s with
 |nil=>rfl
 |cons i s=>
  have:=(h (.U i)).2 ⟨i,aj,rfl⟩;simp[Maps.has]at this};{
 rintro rfl;cases es with
 |nil=>rfl
 |cons p es=>
  have:=(h p.1).1 (by rw[Maps.has_eq];simp[am7 (j _ rfl p aj)]);simp at this}
section
variable {P:Program}(w:World){ops:iQ}{rest:List Oper}{o:Oper}{a:Act}{Q:Exit->Act->World->Prop}
def Ta{α:Type}(hg:o.guard=dN)(it:Operand)(S:o.op=Op.next it dF)(k:TypeId)(K:Keyed P k)(i:α->dV)(M:∀key j,keyOf P k key=Y j->∃x,key=i x)(b r n:Nat)(D:DataW Unit)(l:List (Lit×Nat))(W:pR D l)(left:Lit->Bool)(B:Nat)(m:a.eval it=Pz r)(h:w.ranges P k iF b r n D left B)(N:B=0->(∀j,left j=dF)->wpList P ops Q rest (a.put o.dst (dT #[.bool dF])) w)(R:∀(x:α)(p:Lit×Nat)(w':G)(q:Nat),keyOf P k (i x)=p.1->p∈l->left p.1->w'.ranges P k iF b r n D (λz=>left z&&!z.sameKey p.1) q->q<B→
   w.grownBy w' r->U w'.heap=U w.heap->(Instr.entry (Pz r)).run P w'=.ok (dT #[i x,Pz p.2]) w'->wpList P ops Q rest (a.put o.dst (dT #[.bool dY,i x,Pz p.2])) w'):wpList P ops Q (o::rest) a w:=by
 refine wpList_plain hg λK' hK'=>?_;unfold Oper.wp;obtain⟨h0,hl,E⟩|⟨key,v,j,y,w',q,X,s,hv,Z,E,iH,aH,oz,fQ,ti⟩:=h.next K o.type;{simp[execOp,S,m,E,Result.andThen];exact hK' _ _ (N h0 hl)};{
 obtain⟨x,rfl⟩:=M key j X;obtain⟨p,V,rfl⟩:=(W.hs j).1 (Maps.has_true_of_atKey Z);have e1:y.1=.lit (.I p.2):=by rw[<-Z .nil];exact W.at' p V _
 obtain⟨y1,y2⟩:=y;simp only at e1;subst e1;obtain rfl:=TF hv;simp[execOp,S,m,E,Result.andThen];exact hK' _ _ (R x p w' q X V s iH aH oz fQ ti)}
def cW5(hg:o.guard=dN)(it:Operand)(N:o.op=Op.next it dF)(k:TypeId)(K:Keyed P k)(hk:P.underlying k=Y (.int .u64))(b r n:Nat)(D:DataW Unit)(s:LI)(hM:jL D s)(left:Lit->Bool)(u:Nat)(j:a.eval it=Pz r)(h:w.ranges P k unitElem b r n D left u)(E:u=0->(∀R,left R=dF)->wpList P ops Q rest (a.put o.dst (dT #[.bool dF])) w)(M:∀(x:Int)(w':G)(m:Nat),(Lit.U x).wf->x∈s->left (.U x)->w'.ranges P k unitElem b r n D (λz=>left z&&!z.sameKey (.U x)) m->m<u→
   w.grownBy w' r->U w'.heap=U w.heap->(Instr.entry (Pz r)).run P w'=.ok (dT #[.U x,.agg #[]]) w'->wpList P ops Q rest (a.put o.dst (dT #[.bool dY,.U x,.agg #[]])) w'):wpList P ops Q (o::rest) a w:=by
 refine wpList_plain hg λK' hK'=>?_;unfold Oper.wp;obtain⟨h0,hl,B⟩|⟨key,v,R,y,w',m,fh,q,Z,fD,B,X,aH,W,fQ,V⟩:=h.next K o.type;{simp[execOp,N,j,B,Result.andThen];exact hK' _ _ (E h0 hl)};{obtain⟨x,rfl,rfl,XW⟩:=Maps.keyOf_int_inv hk fh;let⟨i,hi,S⟩:=(hM _).1 (Maps.has_true_of_atKey fD);simp only[L6,JQ]at S;subst S;obtain⟨rfl,_⟩:=unitElem_inv Z;simp[execOp,N,j,B,Result.andThen];exact hK' _ _ (M x w' m XW hi q X aH W fQ V)}
end
def di(l:LI):Lit:=.string (l.map λn=>UInt8.ofNat n.toNat)
def Ml{m:LI}(i:aC l)(hm:aC m)(h:di l=di m):l=m:=by
 simp only[di,aT9]at h;exact map_inj i hm h
def Vr(l:LI):Lit.string (aZ l).data.toList=di l:=by rw[<-ByteArray.toList_eq,Bj];rfl
variable {s:ByteArray}
def dE7(h:Lit.string s.data.toList=di l):s=aZ l:=by
 rw[<-Vr]at h;simp only[aT9]at h;cases s with|mk d=>cases hb:aZ l with|mk d'=>(rw[hb]at h;simp only at h;congr;exact an3.1 h)
def IZ(x y:Int):Int:=if x<y then -1 else if y<x then 1 else 0
def cf1:dQ dG 210 #[.U x] w λe w'=>e=dR (.bool dF)/\w'=w:=by
 go_in;go_wp2;go_ret;refine⟨?_,rfl⟩;simp
def cD7{y:Int}:dQ dG 177 #[.U x,.U y] w λe w'=>e=dR (.I (IZ x y))/\w'=w:=by
 let⟨C,j⟩:=aY (IZ x y);rw[j];have m:=ag j;clear j;go_in;go_wp2_with fail;refine(cf1).h ?_;rintro e r⟨rfl,rfl⟩;go_wp2_with fail;refine(cf1).h ?_;rintro e q⟨rfl,rfl⟩;by_cases i:x<y;{
 obtain rfl:C=-1:=by rw[<-ae m];rw[IZ,aM i]
 go_wp2;go_ret;exact⟨rfl,rfl⟩};{
 by_cases o:y<x;{
 obtain rfl:C=1:=by rw[<-ae m];rw[IZ,aL i,aM o]
 go_wp2;go_ret;exact⟨rfl,rfl⟩};{
 obtain rfl:C=0:=by rw[<-ae m];rw[IZ,aL i,aL o]
 go_wp2;go_ret;exact⟨rfl,rfl⟩}}
theorem bQ9(h:Rd w (.S p (J l) c) l):(Extern.Bytes.bytesOf (.S p (J l) c)).run dG w=.ok ⟨(Lib.bytesOf l).toArray⟩ w:=by
 cases p with
 |none=>
  obtain rfl:=h.WX;simp only[Extern.Bytes.bytesOf,Xi];rfl
 |some a=>
  let⟨q,i,o⟩:=h.news;have:=Lib.run_loadBytesX (P:=dG) w l a .empty (λj x m=>i j _ (by rw[qn,m];rfl));simp only[Extern.Bytes.bytesOf];rw[this];congr 1;apply ca5;simp
def dn0{m:LI}(h:Rd w (.S p (J l) c) l)(k:Rd w (.S q (J m) d) m):(Extern.BytealgCompare.compare #[.S p (J l) c,.S q (J m) d]).run dG w=.ok (.I (Lib.compareBytes (Lib.bytesOf l) (Lib.bytesOf m))) w:=by
 change Sem.run dG (do pure (goInt (Extern.BytealgCompare.cmp (<-Extern.Bytes.bytesOf (.S p (J l) c)) (<-Extern.Bytes.bytesOf (.S q (J m) d))))) w=_
 simp only[LU,bQ9 h,bQ9 k,Xi,Result.andThen];rw[Lib.cmp_eq];rfl
def ZK(l m:LI):Int:=Lib.compareBytes (Lib.bytesOf l) (Lib.bytesOf m)
theorem cE0:∀(a b:List UInt8),(0<=Lib.compareBytes a b)=(Op.bytesLess b a=dY\/b=a)
 |[],[]=>by simp[Lib.compareBytes]
 |[],_::_=>by simp[Lib.compareBytes,Op.bytesLess]
 |_::_,[]=>by simp[Lib.compareBytes,Op.bytesLess]
 |x::a,y::b=>by
  have m:=cE0 a b;rw[Lib.compareBytes,Op.bytesLess];by_cases i:x<y;{
 have j:¬y<x:=λh=>aW0 _ (UInt8.lt_trans i h);have o:¬y=x:=λh=>by subst h;exact aW0 _ i
 simp[i,j,o]};{by_cases j:y<x;{simp[i,j]};{obtain rfl:y=x:=UInt8.le_antisymm (aV9.1 i) (aV9.1 j);simp only[i,yT,m];simp}}
def eD6(l m:LI):dD (0<=ZK l m)=leB m l:=by
 rw[leB,Bj,Bj,Po,uF,ZK,cE0];simp only[Ug,Fo];exact Iff.rfl
def eD0{m:LI}(el:Le l n)(o:Le m k)(j:Rd w (.S p n c) l)(i:Rd w (.S q k d) m):dQ dG 181 #[.S p n c,.S q k d] w λe w'=>e=dR (.I (ZK l m))/\w'=w:=by
 have s:=ae el;have r:=ae o;subst s r;go_in;go_wp2;rw[Fv func214 aU aU aU (e:=Extern.BytealgCompare.compare) aU,dn0 j i];simp only[Result.andThen];rw[Oper.upon_value];go_wp2;go_ret;exact⟨rfl,rfl⟩
def aL6{a:Act}{Q:iE}(gR:o.guard=dN){f:FuncId}{x0 x1 x2:Operand} (ho:o.op=.call {callee:=.value x0,args:=#[x1,x2],argTypes:=sU})(h0:a.eval x0=.func (.func f) #[] #[])(h1:a.eval x1=v1)(h2:a.eval x2=v2)(jG:∀vs,(callFunc f vs).run P w=.ok (.enter f vs) w)(hc:dQ P f #[v1,v2] w R)(hR:∀e w',R e w'->∃v,e=dR v/\K (a.put o.dst v) w'):if Region.wanted o (yielded ops a.tmps)then Oper.wp P o a w K Q else E:=by
 have hw:Region.wanted o (yielded ops a.tmps):=by simp[Region.wanted,gR]
 rw[aM hw];have fS:(execOp a.eval o).run P w=.ok (.enter f #[v1,v2]) w:=by subst h1 h2;unfold execOp;simp[ho,resolve,invoke,jG,h0,Deferred.ofValue,LU,Xi,Result.andThen]
 show o.upon P a K Q _;rw[fS,O0];refine hc.h ?_;intro e w' h;obtain⟨v,rfl,hk⟩:=hR e w' h;exact hk
def uk(n:Nat)(j:Nat->Nat->Bool):Bool:=(List.range n).all λi=>i==0||j (i-1) i
def bu9(h:(List.range k).all f)(j:n<=k):(List.range n).all f:=by
 rw[ky]at h⊢;exactλi m=>h i (vH.2 (ku (vH.1 m) j))
def eE0{j r i q:Int}{o m:dV}:dQ dG 176 #[.agg #[.U j,.I r,o],.agg #[.U i,.I q,m]] w (Rb (.I (IZ j i)) w):=by
 go_in;go_wp2_with fail;refine(cD7).h ?_;rintro e s⟨rfl,rfl⟩;go_wp2;go_ret;exact⟨rfl,(aD.alloc aA _).alloc aj _⟩
def eE1{j i:OA}{o m n1 n2:Nat}(e1:Le l1 n1)(e2:Le l2 n2){M E X W R N:dV}{o1 o2 x u s r D B:Int}(h1:Rd w (.S j n1 o) l1)(h2:Rd w (.S i n2 m) l2):dQ dG 180 #[Cc (.S j n1 o) M o1 x X s D R,Cc (.S i n2 m) E o2 u W r B N] w (Rb (.I (ZK l1 l2)) w):=by
 have V:=ag λ(Z:G)(y:Bw w Z)=>aF (h1.H y) (h2.H y);go_in;go_wp2_with fail;have q:Bw w ((w.alloc (dO #[.S j n1 o,M,.U o1,.I x,X,.U s,.U D,R] 141)).alloc (dO #[.S i n2 m,E,.U o2,.I u,W,.U r,.U B,N] 141)):=(aD.alloc aA _).alloc aj _;refine(eD0 e1 e2 (ae V _ q).1 (ae V _ q).2).h ?_;rintro e w1⟨rfl,rfl⟩;go_wp2;go_ret;exact⟨rfl,q⟩
theorem cH9(Z:Le l n)(h:iZ w (.S p n c) l)(hn:Mg n)(eB:O (uk n (λi j=>dD (l.getD i 0<l.getD j 0))=B)):dQ dG 213 #[.S p n c,.func (.func 177) #[] #[]] w (Rb (.bool B) w):=by
 have HR:=ag λ(w':G)(hb:Bw w w')=>h.H hb;have jG:∀(vs:iA)(w:G),(callFunc 177 vs).run dG w=.ok (.enter 177 vs) w:=λvs w=>aU;have Lq:=ag jG;go_in;go_wp2_with fail
 go_loopw[5](λm wr=>∃k:Nat,1<=k/\(k<=n\/k=1)/\m=.I k/\O ((List.range k).all (λi=>i==0||(λi j=>dD (l.getD i 0<l.getD j 0)) (i-1) i))/\Bw w wr) (λm _=>n-(intOf m).toNat)
 exact⟨1,eG _,.R rfl,rfl,cM,aR _ _⟩;{
 obtain⟨k,iK,Ki,rfl,N,q⟩:=hrel;by_cases s:k<n;{
 have cL:=bM k n;have bR:k<J l:=ae Z▸s;obtain⟨j,ej⟩:∃j:Nat,(k:Int)-1=(j:Int):=⟨k-1,af⟩;have CL:k-1=j:=af;have oy:j<J l:=af;have Qm:=bM j n;have Yw:=gm 0 j;have wj:=il j;obtain⟨b,o,rfl,M⟩:∃b o,p=(Ad b o)/\∀i,i<n->I wr (Ad b (o+i))=dU (l.getD i 0):=by let⟨p',c',ev,hd⟩:=ae HR _ q;obtain⟨rfl,-,-⟩:=jJ ev;obtain h0|⟨b,o,h1,h2⟩:=hd;{rw[h0]at bR;simp at bR};{exact⟨b,o,h1,λi hi=>h2 i (ae Z▸hi)⟩}
 have u:=M k s;have UO:=M j af;let⟨y,X⟩:=aY (l.getD k 0);let⟨z,W⟩:=aY (l.getD j 0);rw[X]at u;rw[W]at UO;have K0:=bG UO u;let⟨C,eC⟩:=aY (IZ z y);have V:((k==0)||(λi j=>dD (l.getD i 0<l.getD j 0)) (k-1) k)=!dD (0<=C):=by rw[show(k==0)=dF by simp;omega,Uh,CL];show dD (l.getD j 0<l.getD k 0)=_;rw[X,W,<-eC,IZ];by_cases h1:z<y;{simp[h1]};{by_cases h2:y<z;{simp[h1,h2]};{simp[h1,h2]}}
 have hF:dD (0<=C)->B=dF:=λh=>by rw[<-ae eB,uk];exact Hp s (by rw[V,h];rfl)
 have hT:dD (0<=C)=dF->O ((List.range (k+1)).all (λi=>i==0||(λi j=>dD (l.getD i 0<l.getD j 0)) (i-1) i)):=λh=>Ff N (by rw[V,h];rfl);have EC:=ag eC;obtain⟨D,eD⟩:∃D,dD (0<=C)=D:=⟨_,rfl⟩;have HF:=ag (λh:D=dY=>hF (eD.Z h));have HT:=ag (λh:D=dF=>hT (eD.Z h));go_wp2_with fail
 go_cut[23](λrv wc=>rv=.bool D/\Bw w wc)
 case first=>(
 refine fk (λw'=>I w' (Ad b (o+j))=dU z/\I w' (Ad b (o+k))=dU y) (by exact K0) λhS=>?_;refine iR 0 1 2 3 4 5 6 7 hS ?_;refine fO 8 9 hS ?_;refine ry [10] ?_;refine cn (λKK hK=>?_) ?_;{refine aL6 aS aS aS aS aS (λ_=>ae Lq _ _) (cD7) ?_;rintro r w2⟨rfl,rfl⟩;refine⟨_,rfl,?_⟩;have aP:Bw wr wr.drew:=aD.drew;rw[ae EC];refine bL hK hS λhS=>?_;refine tn 11 hS ?_;refine fy ?_;go_wp2_with fail;go_meet;exact⟨rfl,ai q aP⟩};exact fg)
 obtain⟨rfl,x⟩:=hcut;cases D with
 |true=>
  obtain rfl:=ae HF rfl;go_wp2;go_ret;exact⟨rfl,x⟩
 |false=>
  have kH:=ae HT rfl;go_wp2;go_roundw;exact⟨k+1,af,.L af,by go_num,kH,x⟩;exact cW};{
 have cL:=fq k n;have eT:B:=by rw[<-ae eB,uk];exact bu9 N af
 subst eT;go_wp2;go_ret;exact⟨rfl,q⟩}}
variable {l:List aB}
theorem eK5(en:Le l n)(h:lI w (.S p n c) l)(hn:Mg n)(eB:O (uk n (λi j=>dD ((l.getD i (0,0,[])).1<(l.getD j (0,0,[])).1))=B)):dQ dG 175 #[.S p n c,.func (.func 176) #[] #[]] w (Rb (.bool B) w):=by
 have HR:=ag λ(w':G)(hb:Bw w w')=>h.H hb;have jG:∀(vs:iA)(w:G),(callFunc 176 vs).run dG w=.ok (.enter 176 vs) w:=λvs w=>aU;have Lq:=ag jG;go_in;go_wp2_with fail
 go_loopw[5](λq wr=>∃k:Nat,1<=k/\(k<=n\/k=1)/\q=.I k/\O ((List.range k).all (λi=>i==0||(λi j=>dD ((l.getD i (0,0,[])).1<(l.getD j (0,0,[])).1)) (i-1) i))/\Bw w wr) (λq _=>n-(intOf q).toNat)
 exact⟨1,eG _,.R rfl,rfl,cM,aR _ _⟩;{
 obtain⟨k,iK,Ki,rfl,Z,x⟩:=hrel;by_cases aH:k<n;{
 have cL:=bM k n;have s:k<J l:=ae en▸aH;obtain⟨j,ej⟩:∃j:Nat,(k:Int)-1=(j:Int):=⟨k-1,af⟩;have CL:k-1=j:=af;have oy:j<J l:=af;have Qm:=bM j n;have Yw:=gm 0 j;have wj:=il j;let⟨⟨y,N,yq⟩,X⟩:=nR s;let⟨⟨z,M,zq⟩,W⟩:=nR oy;obtain⟨b,o,rfl,⟨y1,y2,yu,y3,-⟩,z1,z2,zu,z3,-⟩:∃b o,p=(Ad b o)/\(I wr (Ad b (o+k*3))=dU y/\I wr (Ad b (o+k*3+1))=dI N/\∃u,I wr (Ad b (o+k*3+2))=Y u/\qF wr u yq)/\(I wr (Ad b (o+j*3))=dU z/\I wr (Ad b (o+j*3+1))=dI M/\∃u,I wr (Ad b (o+j*3+2))=Y u/\qF wr u zq):=by let⟨p',c',ev,hd⟩:=ae HR _ x;obtain⟨rfl,-,-⟩:=jJ ev;obtain h0|⟨b,o,h1,h2⟩:=hd;{rw[h0]at s;simp at s};{exact⟨b,o,h1,h2 k _ X,h2 j _ W⟩}
 have ey:(l.getD k (0,0,[])).1=y:=by rw[im,X];rfl
 have ez:(l.getD j (0,0,[])).1=z:=by rw[im,W];rfl
 have K0:=Nw z1 z2 z3 y1 y2 y3;let⟨C,eC⟩:=aY (IZ z y);have fD:((k==0)||(λi j=>dD ((l.getD i (0,0,[])).1<(l.getD j (0,0,[])).1)) (k-1) k)=!dD (0<=C):=by rw[show(k==0)=dF by simp;omega,Uh,CL];show dD ((l.getD j (0,0,[])).1<(l.getD k (0,0,[])).1)=_;rw[ey,ez,<-eC,IZ];by_cases h1:z<y;{simp[h1]};{by_cases h2:y<z;{simp[h1,h2]};{simp[h1,h2]}}
 have hF:dD (0<=C)->B=dF:=λh=>by rw[<-ae eB,uk];exact Hp aH (by rw[fD,h];rfl)
 have hT:dD (0<=C)=dF->O ((List.range (k+1)).all (λi=>i==0||(λi j=>dD ((l.getD i (0,0,[])).1<(l.getD j (0,0,[])).1)) (i-1) i)):=λh=>Ff Z (by rw[fD,h];rfl);have EC:=ag eC;obtain⟨D,eD⟩:∃D,dD (0<=C)=D:=⟨_,rfl⟩;have HF:=ag (λh:D=dY=>hF (eD.Z h));have HT:=ag (λh:D=dF=>hT (eD.Z h));go_wp2_with fail
 go_cut[23](λrv wc=>rv=.bool D/\Bw w wc)
 case first=>(
 refine fk (λw'=>I w' (Ad b (o+j*3))=dU z/\I w' (Ad b (o+j*3+1))=dI M/\I w' (Ad b (o+j*3+2))=zu/\I w' (Ad b (o+k*3))=dU y/\I w' (Ad b (o+k*3+1))=dI N/\I w' (Ad b (o+k*3+2))=yu) (by exact K0) λhS=>?_;refine iR 0 1 2 3 4 5 6 7 hS ?_;refine fO 8 9 hS ?_;refine ry [10] ?_;refine cn (λKK hK=>?_) ?_;{refine aL6 aS aS aS aS aS (λ_=>ae Lq _ _) (eE0) ?_;rintro r w2⟨rfl,ay⟩;refine⟨_,rfl,?_⟩;have m:Bw wr w2:=ai (aR (U wr.heap) wr).drew ay;rw[ae EC];refine bL hK (by obtain⟨k1,k2,k3,k4,k5,k6⟩:=ae K0;exact⟨al k1 m,al k2 m,al k3 m,al k4 m,al k5 m,al k6 m⟩) λhS=>?_;refine tn 11 hS ?_;refine fy ?_;go_wp2_with fail;go_meet;exact⟨rfl,ai x m⟩};exact fg)
 obtain⟨rfl,V⟩:=hcut;cases D with
 |true=>
  obtain rfl:=ae HF rfl;go_wp2;go_ret;exact⟨rfl,V⟩
 |false=>
  have kH:=ae HT rfl;go_wp2;go_roundw;exact⟨k+1,af,.L af,by go_num,kH,V⟩;exact cW};{
 have cL:=fq k n;have eT:B:=by rw[<-ae eB,uk];exact bu9 Z af
 subst eT;go_wp2;go_ret;exact⟨rfl,x⟩}}
variable {l:List ar}
theorem eK6(en:Le l n)(h:gJ w (.S p n c) l)(hn:Mg n)(eB:O (uk n (λi j=>!leB (l.getD j jh).A (l.getD i jh).A)=B)):dQ dG 179 #[.S p n c,.func (.func 180) #[] #[]] w (Rb (.bool B) w):=by
 have HR:=ag λ(w':G)(hb:Bw w w')=>h.H hb;have jG:∀(vs:iA)(w:G),(callFunc 180 vs).run dG w=.ok (.enter 180 vs) w:=λvs w=>aU;have Lq:=ag jG;go_in;go_wp2_with fail
 go_loopw[5](λW wr=>∃k:Nat,1<=k/\(k<=n\/k=1)/\W=.I k/\O ((List.range k).all (λi=>i==0||(λi j=>!leB (l.getD j jh).A (l.getD i jh).A) (i-1) i))/\Bw w wr) (λW _=>n-(intOf W).toNat)
 exact⟨1,eG _,.R rfl,rfl,cM,aR _ _⟩;{
 obtain⟨k,iK,Ki,rfl,fv,az⟩:=hrel;by_cases aH:k<n;{
 have cL:=bM k n;have bR:k<J l:=ae en▸aH;obtain⟨j,ej⟩:∃j:Nat,(k:Int)-1=(j:Int):=⟨k-1,af⟩;have CL:k-1=j:=af;have oy:j<J l:=af;have Qm:=bM j n;have Yw:=gm 0 j;have wj:=il j;let⟨s,hy⟩:=nR bR;let⟨q,hz⟩:=nR oy;obtain⟨b,o,rfl,hA⟩:=(ae HR _ az).at af;let⟨yP,yV,yH,yU,x⟩:=hA k _ hy;let⟨zP,zV,zH,zU,u⟩:=hA j _ hz;have ey:(l.getD k jh).A=s.A:=by rw[im,hy];rfl
 have ez:(l.getD j jh).A=q.A:=by rw[im,hz];rfl
 obtain⟨yp,yc,yn,rfl,Z⟩:=x.r0.dy;obtain⟨zp,zc,zn,rfl,X⟩:=u.r0.dy;have RY:=ag x.r0;have RZ:=ag u.r0;obtain⟨y0,y1,y2,y3,y4,y5,y6,y7,-,-,-,-,-⟩:=x;obtain⟨z0,z1,z2,z3,z4,z5,z6,z7,-,-,-,-,-⟩:=u;obtain⟨yo,ym,ye,yg,e1,e2,e3,e4⟩:∃a b c d,s.D=a/\s.M=b/\s.P=c/\s.F=d:=⟨_,_,_,_,rfl,rfl,rfl,rfl⟩;obtain⟨zo,zm,ze,zg,f1,f2,f3,f4⟩:∃a b c d,q.D=a/\q.M=b/\q.P=c/\q.F=d:=⟨_,_,_,_,rfl,rfl,rfl,rfl⟩;rw[e1]at y2;rw[e2]at y3;rw[e3]at y5;rw[e4]at y6;rw[f1]at z2;rw[f2]at z3;rw[f3]at z5;rw[f4]at z6;have K0:=gI z0 z1 z2 (aF z3 (aF z4 (aF z5 (aF z6 (aF z7 (aF y0 (aF y1 (aF y2 (aF y3 (aF y4 (aF y5 (aF y6 y7))))))))))));let⟨C,eC⟩:=aY (ZK q.A s.A);have fD:((k==0)||(λi j=>!leB (l.getD j jh).A (l.getD i jh).A) (k-1) k)=!dD (0<=C):=by rw[show(k==0)=dF by simp;omega,Uh,CL];show(!leB (l.getD k jh).A (l.getD j jh).A)=_;rw[ey,ez,<-eC,eD6]
 have hF:dD (0<=C)->B=dF:=λh=>by rw[<-ae eB,uk];exact Hp aH (by rw[fD,h];rfl)
 have hT:dD (0<=C)=dF->O ((List.range (k+1)).all (λi=>i==0||(λi j=>!leB (l.getD j jh).A (l.getD i jh).A) (i-1) i)):=λh=>Ff fv (by rw[fD,h];rfl);have EC:=ag eC;obtain⟨D,eD⟩:∃D,dD (0<=C)=D:=⟨_,rfl⟩;have HF:=ag (λh:D=dY=>hF (eD.Z h));have HT:=ag (λh:D=dF=>hT (eD.Z h));go_wp2_with fail
 go_cut[23](λrv wc=>rv=.bool D/\Bw w wc)
 case first=>(
 refine fk (λw'=>I w' (Ad b (o+j*8))=dS zp zn zc/\I w' (Ad b (o+j*8+1))=zV/\I w' (Ad b (o+j*8+2))=dU zo/\I w' (Ad b (o+j*8+3))=dI zm/\I w' (Ad b (o+j*8+4))=zH/\I w' (Ad b (o+j*8+5))=dU ze/\I w' (Ad b (o+j*8+6))=dU zg/\I w' (Ad b (o+j*8+7))=zU/\I w' (Ad b (o+k*8))=dS yp yn yc/\I w' (Ad b (o+k*8+1))=yV/\I w' (Ad b (o+k*8+2))=dU yo/\I w' (Ad b (o+k*8+3))=dI ym/\I w' (Ad b (o+k*8+4))=yH/\I w' (Ad b (o+k*8+5))=dU ye/\I w' (Ad b (o+k*8+6))=dU yg/\I w' (Ad b (o+k*8+7))=yU) (by exact K0) λhS=>?_;refine iR 0 1 2 3 4 5 6 7 hS ?_;refine fO 8 9 hS ?_;refine ry [10] ?_;refine cn (λKK hK=>?_) ?_;{refine aL6 aS aS aS aS aS (λ_=>ae Lq _ _) (eE1 X Z (RZ.H aD.drew) (RY.H aD.drew)) ?_;rintro r w2⟨rfl,ay⟩;refine⟨_,rfl,?_⟩;have m:Bw wr w2:=ai (aR (U wr.heap) wr).drew ay;rw[ae EC];refine bL hK (by obtain⟨k0,k1,k2,k3,k4,k5,k6,k7,k8,k9,XQ,XP,V,N,M,y⟩:=ae K0;exact⟨al k0 m,al k1 m,al k2 m,al k3 m,al k4 m,al k5 m,al k6 m,al k7 m,al k8 m,al k9 m,al XQ m,al XP m,al V m,al N m,al M m,al y m⟩) λhS=>?_;refine tn 11 hS ?_;refine fy ?_;go_wp2_with fail;go_meet;exact⟨rfl,ai az m⟩};exact fg)
 obtain⟨rfl,nM⟩:=hcut;cases D with
 |true=>
  obtain rfl:=ae HF rfl;go_wp2;go_ret;exact⟨rfl,nM⟩
 |false=>
  have kH:=ae HT rfl;go_wp2;go_roundw;exact⟨k+1,af,.L af,by go_num,kH,nM⟩;exact cW};{
 have cL:=fq k n;have eT:B:=by rw[<-ae eB,uk];exact bu9 fv af
 subst eT;go_wp2;go_ret;exact⟨rfl,az⟩}}
def sj(w:G)(v:dV)(es:List Ev):Prop:=
 ∃(p:OA)(c:Nat),v=.S p (J es) c/\(es=[]\/∃b o,p=(Ad b o)/\∀i e,es[i]?=Y e->I w (Ad b (o+i*2))=dI e.1/\∃u,I w (Ad b (o+i*2+1))=Y u/\Rd w u e.2/\tG u)
def sj.rd(h:sj w v es):qF w v es:=by
 obtain⟨p,c,rfl,h⟩:=h;refine⟨p,c,rfl,?_⟩;obtain h|⟨b,o,rfl,h⟩:=h;{exact .L h};{refine .R ⟨b,o,rfl,λi e he=>?_⟩;let⟨q,u,m,j,_⟩:=h i e he;exact⟨q,u,m,j⟩}
def sj.H(h:sj w v es)(j:Bw w w'):sj w' v es:=by
 obtain⟨p,c,rfl,h⟩:=h;refine⟨p,c,rfl,?_⟩;obtain h|⟨b,o,rfl,h⟩:=h;{exact .L h};{refine .R ⟨b,o,rfl,λi e he=>?_⟩;let⟨s,u,r,q,m⟩:=h i e he;exact⟨al s j,u,al r j,q.H j,m⟩}
def kV(w:G)(v:dV)(ss:List aB):Prop:=
 ∃(p:OA)(c:Nat),v=.S p (J ss) c/\(ss=[]\/∃b o,p=(Ad b o)/\∀i s,ss[i]?=Y s->I w (Ad b (o+i*3))=dU s.1/\I w (Ad b (o+i*3+1))=dI s.2.1/\∃u,I w (Ad b (o+i*3+2))=Y u/\sj w u s.2.2)
def kV.rd(h:kV w v ss):lI w v ss:=by
 obtain⟨p,c,rfl,h⟩:=h;refine⟨p,c,rfl,?_⟩;obtain h|⟨b,o,rfl,h⟩:=h;{exact .L h};{refine .R ⟨b,o,rfl,λi e he=>?_⟩;let⟨r,q,u,m,j⟩:=h i e he;exact⟨r,q,u,m,j.rd⟩}
def kV.H(h:kV w v ss)(j:Bw w w'):kV w' v ss:=by
 obtain⟨p,c,rfl,h⟩:=h;refine⟨p,c,rfl,?_⟩;obtain h|⟨b,o,rfl,h⟩:=h;{exact .L h};{refine .R ⟨b,o,rfl,λi e he=>?_⟩;let⟨s,r,u,q,m⟩:=h i e he;exact⟨al s j,al r j,u,al q j,m.H j⟩}
def ML(w:G):Prop:=∃m,I w (Ad 2 0)=dI m
def ML.H(h:ML w)(i:Bw w w'):ML w':=by
 obtain⟨m,h⟩:=h;exact⟨m,al h i⟩
def tG.of(h:tG (.S p n c)):n<=c/\c<=maxLen:=by
 obtain⟨m,o,q,e,j,i⟩:=h;obtain⟨rfl,rfl,rfl⟩:=jJ e;exact⟨j,i⟩
def cZ2{K:Int}{q i:Nat}{P:LI}(u:Le P m)(N:Rd w (.S pp m q) P)(R:O (aC P))(hm:Mg m)(E:tG (.S pp m q))(M:ML w)(o:O (mQ i (K,P)=B)):dQ dG 209 #[.agg #[.I K,.S pp m q],.I i] w (Rb (.bool B) w):=by
 let⟨Z,X⟩:=E.of;have j:Bw w (w.alloc (dO #[.I K,.S pp m q] 119)):=aD.alloc aA _;have HR:=ag (N.H j);have HM:=ag (M.H j);by_cases r:i=7;{
 subst r;by_cases s:K=4;{
 subst s;by_cases x:m=0;{
 subst x;obtain rfl:B:=by rw[<-ae o,mQ,aM rfl];simp[ae u]
 go_in;go_wp2;go_ret;exact⟨rfl,j⟩};{
 have ck7:((m:Int)==0)=dF:=by simp;omega
 obtain rfl:B=dF:=by rw[<-ae o,mQ,aM rfl];simp[ae u,x]
 go_in;go_wp2;go_ret;exact⟨rfl,j⟩}};{
 have W:(K==4)=dF:=by simp[s]
 obtain rfl:B=dF:=by rw[<-ae o,mQ,aM rfl];simp[s]
 go_in;go_wp2;go_ret;exact⟨rfl,j⟩}};{
 have V:((i:Int)==7)=dF:=by simp;omega
 by_cases D:1<=K;{
 by_cases y:K<=3;{
 have eV:O (vp P=B):=by show _=_;rw[<-ae o,mQ,aL r];simp[D,y]
 go_in;go_wp2_with fail;refine br (ba2 u HR R hm Z X HM eV) λw2 ay=>?_;have b2:=ai j ay;go_wp2;go_ret;exact⟨rfl,b2⟩};{
 obtain rfl:B=dF:=by rw[<-ae o,mQ,aL r];simp[y]
 go_in;go_wp2;go_ret;exact⟨rfl,j⟩}};{
 obtain rfl:B=dF:=by rw[<-ae o,mQ,aL r];simp[D]
 go_in;go_wp2;go_ret;exact⟨rfl,j⟩}}
def Fb(i:Int)(s:aB):Bool:=dD (1<=s.1)&&(dD (s.1<=i)&&(dD (0<=s.2.1)&&(dD (s.2.1<=1000015)&&wG s.2.2)))
theorem dl2{q D:Int}{Q:List Ev}(en:Le Q n)(h:sj w (.S p n c) Q)(hn:Mg n)(cQ:O (∀e∈Q,aC e.2/\J e.2<=1048576))(pO:ML w)(eB:O (Fb x (q,D,Q)=B)):dQ dG 174 #[.agg #[.U q,.I D,.S p n c],.U x] w (Rb (.bool B) w):=by
 have HR:=ag λ(w':G)(hb:Bw w w')=>aF (h.H hb) (pO.H hb);have r:Bw w (w.alloc (dO #[.U q,.I D,.S p n c] 97)):=aD.alloc aA _;have hB:B=(dD (1<=q)&&(dD (q<=x)&&(dD (0<=D)&&(dD (D<=1000015)&&(dD (n<=8)&&(List.range n).all λi=>mQ i (Q.getD i (0,[]))))))):=by rw[<-ae eB,Fb,wG,ae en]
 have j:=ag hB;clear h pO hB eB;by_cases h1:q<1;{
 obtain rfl:B=dF:=by rw[ae j];simp;omega
 clear j;go_in;go_wp2;go_ret;exact⟨rfl,r⟩};{
 by_cases h2:x<q;{
 obtain rfl:B=dF:=by rw[ae j];simp;omega
 clear j;go_in;go_wp2;go_ret;exact⟨rfl,r⟩};{
 by_cases h3:D<0;{
 obtain rfl:B=dF:=by rw[ae j];simp;omega
 clear j;go_in;go_wp2;go_ret;exact⟨rfl,r⟩};{
 by_cases h4:1000015<D;{
 obtain rfl:B=dF:=by rw[ae j];simp;omega
 clear j;go_in;go_wp2;go_ret;exact⟨rfl,r⟩};{
 by_cases h8:(8:Int)<(n:Int);{
 obtain rfl:B=dF:=by rw[ae j];simp;omega
 clear j;go_in;go_wp2;go_ret;exact⟨rfl,r⟩};{
 have lh:O (B=(List.range n).all λi=>mQ i (Q.getD i (0,[]))):=by show _=_;rw[ae j];simp only[show dD (1<=q)=dY by(rw[uF];omega),show dD (q<=x)=dY by(rw[uF];omega),show dD (0<=D)=dY by(rw[uF];omega),show dD (D<=1000015)=dY by(rw[uF];omega),show dD (n<=8)=dY by(rw[uF];omega),vI]
 clear j;go_in;go_wp2_with fail;clear h1 h2 h3 h4 h8;let⟨W,hW⟩:=aG (w.alloc (dO #[.U q,.I D,.S p n c] 97));rw[<-hW]at r⊢;clear hW
 go_loopw[35](λZ wr=>∃k:Nat,k<=n/\Z=.I k/\O ((List.range k).all (λi=>mQ i (Q.getD i (0,[]))))/\Bw w wr) (λZ _=>n-(intOf Z).toNat)
 exact⟨0,cO _,rfl,cM,r⟩;{
 obtain⟨k,hk,rfl,fv,R⟩:=hrel;by_cases aH:k<n;{
 have cL:=bM k n;have M:k<J Q:=ae en▸aH;let⟨⟨K,P⟩,y⟩:=nR M;have X:Q.getD k (0,[])=(K,P):=by rw[im,y];rfl
 obtain⟨b,o,rfl,YI,u,Qw,Cl,ui⟩:∃b o,p=(Ad b o)/\I wr (Ad b (o+k*2))=dI K/\∃u,I wr (Ad b (o+k*2+1))=Y u/\Rd wr u P/\tG u:=by let⟨p',c',ev,hd⟩:=(ae HR _ R).1;obtain⟨rfl,-,-⟩:=jJ ev;obtain h0|⟨b,o,h1,h2⟩:=hd;{rw[h0]at M;simp at M};{exact⟨b,o,h1,h2 k _ y⟩}
 let⟨MV,s⟩:=ae cQ _ (bu y);obtain⟨pp,pc,m,rfl,em⟩:=Cl.dy;have hm:m<=1048576:=ae em▸s;have Ez:O (aC P):=MV;let⟨V,E⟩:=aY (mQ k (K,P));have EV:=ag E;have hF:V=dF->B=dF:=λh=>by rw[ae lh];exact Hp aH (by rw[X,E];exact h)
 have hT:V->O ((List.range (k+1)).all (λi=>mQ i (Q.getD i (0,[])))):=λh=>Ff fv (by rw[X,E];exact h);have HF:=ag hF;have HT:=ag hT;have N:Bw wr ((wr.alloc (dO #[.I K,.S pp m pc] 119))):=aD.alloc aA _;have Sk:=ag (Cl.H N);have HML:=ag ((ae HR _ R).2.H N);have fb4:=ag ui;clear M y X MV s Cl E hF hT ui;go_wp2_with fail;refine br (cZ2 em (by exact Sk) Ez hm fb4 (by exact HML) EV) λw2 ay=>?_;have b3:=ai R (ai N ay);clear ay N;cases V with
 |false=>
  obtain rfl:=ae HF rfl;go_wp2;go_ret;exact⟨rfl,b3⟩
 |true=>
  have kH:=ae HT rfl;go_wp2;go_roundw;exact⟨k+1,af,by go_num,kH,b3⟩;exact cW};{
 have cL:=fq k n;have eT:B:=by
  rw[ae lh];have:k=n:=by omega
  rw[<-this];exact fv
 subst eT;go_wp2;go_ret;exact⟨rfl,R⟩}}}}}}}
structure Lf where
 b:Nat
 o:Nat
 k:IntKind
def ft(w:G)(A:List Lf):Prop:=∀a∈A,(∃n,I w (Ad a.b a.o)=Y (.int a.k n))/\w.frozen? (Ad a.b a.o)=dF
def OQ(kd:IntKind)(k:Int):Int:=match kd with| .u8=>k % 256|_=>k
structure Mk(w w':G)(A:List Lf)(k:Int):Prop where
 os:w'.os=w.os
 tape:w'.tape=w.tape
 output:w'.output=w.output
 size:U w.heap<=U w'.heap
 blk:∀b,b<U w.heap->(∀a∈A,a.b≠b)->w'.heap[b]?=w.heap[b]?
 W:∀b o,b<U w.heap->(∀a∈A,¬(a.b=b/\a.o=o))->I w' (Ad b o)=I w (Ad b o)
 fz:∀b o,b<U w.heap->w'.frozen? (Ad b o)=w.frozen? (Ad b o)
 int:∀a∈A,∃n,I w' (Ad a.b a.o)=Y (.int a.k n)
 val:(A.map λa=>(a.b,a.o)).Nodup->∀(i:Nat)(a:Lf),A[i]?=Y a->I w' (Ad a.b a.o)=Y (.int a.k (OQ a.k (k+i)))
def ft.lt{A:List Lf}(h:ft w A){a:Lf}(j:a∈A):a.b<U w.heap:=by
 let⟨⟨n,i⟩,_⟩:=h a j;exact jO w _ i
def ft.nil(w:G):ft w []:=λa ha=>by simp at ha
def ft.app{A A':List Lf}:ft w (A++A')↔ft w A/\ft w A':=by
 constructor;{intro h;exact⟨λa i=>h a (Me _ i),λa i=>h a (Fu _ i)⟩};{rintro⟨h,k⟩a i;obtain i|i:=jd.1 i;{exact h a i};{exact k a i}}
def ft.sub{A A':List Lf}(h:ft w A)(i:∀a∈A',a∈A):ft w A':=λa j=>h a (i a j)
def ft.H{A:List Lf}(h:ft w A)(i:Bw w w'):ft w' A:=λa j=>by
 let⟨⟨n,m⟩,hf⟩:=h a j;exact⟨⟨n,al m i⟩,(i.frozen (p:=(Ad a.b a.o)) (h.lt j)).Z hf⟩
def Mk.tT(h:Bw w w')(k:Int):Mk w w' [] k:=
 ⟨h.os,h.tape,h.output,h.size,λb j _=>h.block b j,λb o j _=>h.cell (p:=(Ad b o)) j,λb o j=>h.frozen (p:=(Ad b o)) j,λa m=>by simp at m,λ_ i a m=>by simp at m⟩
def Mk.refl(w:G)(k:Int):Mk w w [] k:=Mk.tT aD k
variable {k:Int}
theorem Mk.one{o:Nat}{n:Int}(hc:I w (Ad b o)=Y (.int kd n)):Mk w (w.setCell (Ad b o) (.int kd (OQ kd k))) [⟨b,o,kd⟩] k:=by
 have q:I (w.setCell (Ad b o) (.int kd (OQ kd k))) (Ad b o)=Y (.int kd (OQ kd k)):=Xe w _ _ (by rw[hc];rfl);refine⟨rfl,rfl,rfl,aj,λu r m=>fT _ _ _ _ (λe=>m ⟨b,o,kd⟩ aj e.C),λu x r m=>?_,λu x r=>?_,λa j=>?_,λ_ i a j=>?_⟩;{have s:=m ⟨b,o,kd⟩ aj;simp only at s;exact Pm _ _ _ _ (λe=>s (by simpa using e))};{simp};{simp at j;subst j;exact⟨_,q⟩};{
 cases i with
 |zero=>simp at j;subst j;simpa using q
 |succ i=>simp at j}
def Mk.Z{w1 E:G}{A A2:List Lf}(h:Mk w w1 A k)(m:Mk w1 E A2 (k+J A))(B:ft w A)(V:ft w A2):Mk w E (A++A2) k:=by
 refine⟨m.os.Z h.os,m.tape.Z h.tape,m.output.Z h.output,gv h.size m.size,λb r u=>?_,λb o r u=>?_,λb o r=>?_,λa j=>?_,λS i a j=>?_⟩;{exact(m.blk b (ku r h.size) (λa j=>u a (Fu _ j))).Z (h.blk b r (λa j=>u a (Me _ j)))};{exact(m.W b o (ku r h.size) (λa j=>u a (Fu _ j))).Z (h.W b o r (λa j=>u a (Me _ j)))};{exact(m.fz b o (ku r h.size)).Z (h.fz b o r)};{by_cases D:∃q∈A2,q.b=a.b/\q.o=a.o;{obtain⟨q,s,e1,Z⟩:=D;let⟨n,x⟩:=m.int q s;let⟨⟨R,M⟩,_⟩:=V q s;let⟨⟨N,y⟩,_⟩:=ft.app.2 ⟨B,V⟩ a j;rw[e1,Z]at x M;rw[M]at y;simp only[mn,aV8]at y;exact⟨n,by rw[x,y.1]⟩};{obtain j|j:=jd.1 j;{let⟨n,x⟩:=h.int a j;refine⟨n,(m.W a.b a.o (ku (B.lt j) h.size) (λq s e=>D ⟨q,s,e⟩)).Z x⟩};{exact absurd ⟨a,j,rfl,rfl⟩ D}}};{rw[pK,Cd]at S;obtain⟨R,N,W⟩:=S;by_cases X:i<J A;{rw[mj X]at j;have hm:=bu j;refine(m.W a.b a.o (ku (B.lt hm) h.size) (λq s e=>?_)).Z (h.val R i a j);exact W (a.b,a.o) (Xs hm) (q.b,q.o) (Xs s) (by rw[e.1,e.2])};{rw[pI af]at j;have:=m.val N (i-(J A)) a j;rw[this];congr 3;omega}}
def ft.mk{A A':List Lf}(h:ft w A')(hm:Mk w w' A k)(y:ft w A):ft w' A':=λa q=>by
 let⟨⟨n,r⟩,hf⟩:=h a q;refine⟨?_,(hm.fz _ _ (h.lt q)).Z hf⟩;by_cases s:∃i∈A,i.b=a.b/\i.o=a.o;{obtain⟨i,m,D,B⟩:=s;let⟨x,u⟩:=hm.int i m;let⟨⟨E,j⟩,_⟩:=y i m;rw[D,B]at u j;rw[r]at j;simp only[mn,aV8]at j;exact⟨x,by rw[u,j.1]⟩};{exact⟨n,(hm.W _ _ (h.lt q) (λi m e=>s ⟨i,m,e⟩)).Z r⟩}
def Mk.head{A:List Lf}(hm:Mk w w' A k)(m:ft w A){o:Nat}(h:I w (Ad b o)=dS p n c):I w' (Ad b o)=dS p n c:=by
 refine(hm.W b o (jO w _ h) (λa j e=>?_)).Z h;let⟨⟨q,i⟩,_⟩:=m a j;rw[e.1,e.2,h]at i;simp at i
def Mk.H{A:List Lf}{B:Nat}(hm:Mk w w' A k)(j:∀a∈A,B<=a.b)(m:B<=U w.heap):Below B w w':=
 ⟨hm.os,hm.tape,hm.output,hm.size,λb o=>hm.blk b af (λa i e=>aK (j a i))⟩
def sP{α:Type}(P:α->Nat->Nat->List Lf->Prop)(m:Nat)(v:dV)(xs:List α)(A:List Lf):Prop:=
 ∃(p:OA)(c:Nat)(j:List (List Lf)),v=.S p (J xs) c/\J j=J xs/\A=j.flatten/\(xs=[]\/∃b o,p=(Ad b o)/\∀i x l,xs[i]?=Y x->j[i]?=Y l->P x b (o+i*m) l)
def sP.imp{α:Type}{P s:α->Nat->Nat->List Lf->Prop}{xs:List α}{A:List Lf}(h:sP P sz v xs A)(B:∀x b a l,x∈xs->(∀y∈l,y∈A)->P x b a l->s x b a l):sP s sz v xs A:=by
 obtain⟨p,c,R,N,M,r,j⟩:=h;refine⟨p,c,R,N,M,r,?_⟩;obtain j|⟨b,o,E,D⟩:=j;{exact .L j};{refine .R ⟨b,o,E,λi x l m q=>B _ _ _ _ (bu m) (λy u=>?_) (D i x l m q)⟩;rw[r];exact DD.2 ⟨l,bu q,u⟩}
def LvI(kd:IntKind)(x:Int)(b a:Nat)(l:List Lf):Prop:=l=[⟨b,a,kd⟩]
abbrev xw(v:dV)(xs:LI)(A:List Lf):Prop:=sP (LvI .u8) 1 v xs A
abbrev Dg(v:dV)(xs:LI)(A:List Lf):Prop:=sP (LvI .u64) 1 v xs A
def Ew(w:G)(x:Ev)(b a:Nat)(l:List Lf):Prop:=
 ∃p c i,l=⟨b,a,.i64⟩::i/\I w (Ad b (a+1))=dS p (J x.2) c/\xw (.S p (J x.2) c) x.2 i
abbrev qi(w:G)(v:dV)(xs:List Ev)(A:List Lf):Prop:=sP (Ew w) 2 v xs A
def Di(w:G)(x:aB)(b a:Nat)(l:List Lf):Prop:=
 ∃p c i,l=⟨b,a,.u64⟩::⟨b,a+1,.i64⟩::i/\I w (Ad b (a+2))=dS p (J x.2.2) c/\qi w (.S p (J x.2.2) c) x.2.2 i
abbrev kG(w:G)(v:dV)(xs:List aB)(A:List Lf):Prop:=sP (Di w) 3 v xs A
def Eu(w:G)(x:ar)(b a:Nat)(l:List Lf):Prop:=
 ∃o E m D j B i y u s r q,l=u++(s++(⟨b,a+2,.u64⟩::⟨b,a+3,.i64⟩::(r++(⟨b,a+5,.u64⟩::⟨b,a+6,.u64⟩::q))))∧
  (I w (Ad b a)=dS o (J x.A) E/\xw (.S o (J x.A) E) x.A u)∧
  (I w (Ad b (a+1))=dS m (J x.V) D/\xw (.S m (J x.V) D) x.V s)∧
  (I w (Ad b (a+4))=dS j (J x.y) B/\Dg (.S j (J x.y) B) x.y r)∧
  (I w (Ad b (a+7))=dS i (J x.X) y/\Dg (.S i (J x.X) y) x.X q)
abbrev lK(w:G)(v:dV)(xs:List ar)(A:List Lf):Prop:=sP (Eu w) 8 v xs A
def Ew.mk{x:Ev}{l:List Lf}{A:List Lf}(h:Ew w x b a l)(hm:Mk w w' A k)(j:ft w A):Ew w' x b a l:=by
 obtain⟨p,c,i,q,o,m⟩:=h;exact⟨p,c,i,q,hm.head j o,m⟩
def qi.mk{l:List Lf}{A:List Lf}(h:qi w v xs l)(hm:Mk w w' A k)(i:ft w A):qi w' v xs l:=h.imp λ_ _ _ _ _ _ h=>h.mk hm i
def Di.mk{x:aB}{l:List Lf}{A:List Lf}(h:Di w x b a l)(hm:Mk w w' A k)(i:ft w A):Di w' x b a l:=by
 obtain⟨p,c,j,q,o,m⟩:=h;exact⟨p,c,j,q,hm.head i o,qi.mk m hm i⟩
variable {xs:List aB}
def kG.mk{l:List Lf}{A:List Lf}(h:kG w v xs l)(hm:Mk w w' A k)(i:ft w A):kG w' v xs l:=h.imp λ_ _ _ _ _ _ h=>h.mk hm i
def Eu.mk{x:ar}{l:List Lf}{A:List Lf}(h:Eu w x b a l)(hm:Mk w w' A k)(i:ft w A):Eu w' x b a l:=by
 obtain⟨q,c0,o,c1,m,Z,j,X,y,u,s,r,W,⟨V,S⟩,⟨R,N⟩,⟨M,E⟩,⟨D,B⟩⟩:=h;exact⟨q,c0,o,c1,m,Z,j,X,y,u,s,r,W,⟨hm.head i V,S⟩,⟨hm.head i R,N⟩,⟨hm.head i M,E⟩,⟨hm.head i D,B⟩⟩
variable {xs:List ar}
def lK.mk{l:List Lf}{A:List Lf}(h:lK w v xs l)(hm:Mk w w' A k)(i:ft w A):lK w' v xs l:=h.imp λ_ _ _ _ _ _ h=>h.mk hm i
def sP.at{α:Type}{P:α->Nat->Nat->List Lf->Prop}{xs:List α}{A:List Lf}(h:sP P sz (.S p n c) xs A):∃i:List (List Lf),n=J xs/\J i=n/\A=i.flatten/\∀k,k<n->∃b o x l,p=(Ad b o)/\xs[k]?=Y x/\i[k]?=Y l/\P x b (o+k*sz) l/\(i.take (k+1)).flatten=(i.take k).flatten++l/\∀y∈l,y∈A:=by
 obtain⟨N,R,i,M,E,s,q⟩:=h;obtain⟨rfl,rfl,rfl⟩:=jJ M;refine⟨i,rfl,E,s,λk m=>?_⟩;let⟨x,r⟩:=nR m;obtain⟨l,j⟩:∃l,i[k]?=Y l:=⟨_,bD af⟩;obtain q|⟨b,o,D,B⟩:=q;{rw[q]at m;simp at m};{refine⟨b,o,x,l,D,r,j,B k x l r j,?_,λy u=>?_⟩;{rw[pZ,j];simp};{rw[s];exact DD.2 ⟨l,bu j,u⟩}}
def ax7(i:List (List Lf))(k:Nat):(i.take k).flatten.length<=J i.flatten:=by
 have h:i.flatten=(i.take k).flatten++(i.drop k).flatten:=by rw[<-J1,Ic]
 rw[h,dm];omega
def aS7{i:List (List Lf)}{k:Nat}{y:Lf}(h:y∈(i.take k).flatten):y∈i.flatten:=by
 let⟨l,m,j⟩:=DD.1 h;exact DD.2 ⟨l,Pq m,j⟩
def gj(h:w'.heap[b]?=w.heap[b]?)(o:Nat):I w' (Ad b o)=I w (Ad b o):=by
 unfold World.cell?;rw[h]
def aQ(w:G)(b:Nat)(vs:List dV):Prop:=(∀i v,vs[i]?=Y v->I w (Ad b i)=Y v)/\∀o,w.frozen? (Ad b o)=dF
def aQ.alloc(w:G)(cs:iA)(t:TypeId):aQ (w.alloc (dO cs t)) (U w.heap) cs.toList:=by
 refine⟨λi v h=>?_,λo=>?_⟩;{rw[aX0]at h;simp[h]};{simp[go_sem]}
def aQ.H(h:aQ w b vs)(m:b<U w.heap)(j:Bw w w'):aQ w' b vs:=
 ⟨λi v q=>(j.cell (p:=(Ad b i)) m).Z (h.1 i v q),λo=>(j.frozen (p:=(Ad b o)) m).Z (h.2 o)⟩
variable {a:Addr}
def aQ.my(h:aQ w b vs)(q:b≠a.block)(u:dV):aQ (w.setCell a u) b vs:=by
 have j:(w.setCell a u).heap[b]?=w.heap[b]?:=fT _ _ _ _ q;refine⟨λi v m=>(gj j _).Z (h.1 i v m),λo=>?_⟩;have:(w.setCell a u).frozen? (Ad b o)=w.frozen? (Ad b o):=AO j;rw[this];exact h.2 o
def aQ.db(h:aQ w b vs)(j:Nat)(q:j<J vs)(u:dV):aQ (w.setCell (Ad b j) u) b (vs.set j u):=by
 have hc:=h.1 j _ (bD q);refine⟨λi v m=>?_,λo=>by simp[h.2 o]⟩;by_cases e:j=i;{subst e;rw[aV7 q]at m;cases m;exact Pw _ _ _ hc};{rw[eM4 e]at m;have:=h.1 i v m;simp[go_sem,e,this]}
variable {e t:TypeId}{xs:List dV}
def bR1(ty:TypeId)(i:TypeInfo){size bytes:Nat}(M:P.underlying t=Y (.slice e))(N:P.info? e=i)(W:i.zero=z)(Kf:i.size=size)(Z:i.bytes=bytes)(Mq:z.cells.size=size)(fQ:0<size)(B:w.ownsRow base e size v n xs)(c:Nat)(x:J news=m*size)(E:∀j u,news[j]?=Y u->I w (a.add j)=Y u)(X:∀u∈news,u.oneCell')(IN:n+m<=maxLen)(IE:(n+m)*bytes<=140737488355328)(MK:base<=U w.heap):∃s w',(Builtin.append_ #[t,t] ty #[v,.S a m c]).run P w=.ok s w'/\w'.ownsRow base e size s (n+m) (xs++news)/\w.grownBy w' v.ownBlock/\∀g,s.ownBlock=Y g->v.ownBlock=Y g\/U w.heap<=g:=by
 obtain⟨s,w',o,h2,h3,-⟩:=aT8 (P:=P) w base t ty e i z size bytes M N W Kf Z Mq fQ v n xs B a m c news x E X IN IE MK;refine⟨s,w',o,h2,h3,λg' R=>?_⟩;obtain⟨rfl,rfl⟩|⟨g,r,y,rfl,IF,hg,nE,nI,UP,dP9⟩:=id B.2;{obtain rfl:xs=[]:=Fp (by simpa using B.1);obtain⟨v2,w2,V,k2,-,-⟩:=aT8 (P:=P) w (U w.heap) t ty e i z size bytes M N W Kf Z Mq fQ aq 0 [] (lZ w _ e size) a m c news x E X IN IE aA;rw[o]at V;simp only[TW]at V;obtain⟨rfl,rfl⟩:=V;exact .R (k2.lt g' R).1};{
 subst Kf;subst Z;by_cases D:n+m<=r;{
 have bg7:n*i.size+J news<=y.size:=by rw[x,UP,<-Nat.add_mul];exact Pd _ D
 rw[run_append_room (P:=P) w t ty e i M N g n r y hg a m c news x E X D bg7]at o;simp only[TW]at o;obtain⟨rfl,-⟩:=o;exact .L R};{have q:∀j u,xs[j]?=Y u->I w (((Ad g 0):Addr).add j)=Y u:=B.cells (g:=g) rfl;rw[run_append_grow (P:=P) w t ty e i z M N W (Ad g 0) n r xs B.1 q a m c news x E af (by simp only[maxLen]at IN;omega) (growslice_fits af IE)]at o;simp only[TW]at o;obtain⟨rfl,-⟩:=o;simp only[Value.ownBlock,mn]at R;exact .R af}}
variable {x s:Operand}{a:Act}
def Dt{Q:iE}(gR:o.guard=dN)(t:TypeId)(ho:o.op=.call {callee:=.builtin .append,args:=#[s,x],argTypes:=#[t,t]})(i:TypeInfo)(size:Nat)(ht:P.underlying t=Y (.slice e))(hi:P.info? e=i)(hz:i.zero=z)(Kf:i.size=size)(cQ:i.bytes=bytes)(Mq:z.cells.size=size)(fQ:0<size)(v:dV)(hs:a.eval s=v)(cX:w.ownsRow base e size v n xs)(g m c:Nat)(news:List dV)(hx:a.eval x=.T g m c)(hl:J news=m*size)(rP:∀j u,news[j]?=Y u->I w (Ad g j)=Y u)(h1:∀u∈news,u.oneCell')(IN:n+m<=maxLen)(IE:(n+m)*bytes<=140737488355328)(MK:base<=U w.heap)(h:∀v' w',w'.ownsRow base e size v' (n+m) (xs++news)->w.grownBy w' v.ownBlock->(∀g,v'.ownBlock=Y g->v.ownBlock=Y g\/U w.heap<=g)->wpList P ops Q rest (a.put o.dst v') w'):wpList P ops Q (o::rest) a w:=by
 let⟨v',w',hr,h2,h3,h4⟩:=bR1 (P:=P) o.type i ht hi hz Kf cQ Mq fQ cX (a:=Ad g 0) c hl (λj u hu=>by rw[Fx,mO];exact rP j u hu) h1 IN IE MK;exact Lib.wpList_append_run w gR s x t t ho _ _ hs hx _ _ hr (h v' w' h2 h3 h4)
def Tn{Q:iE}(gR:o.guard=dN) (ho:o.op=.call {callee:=.builtin .append,args:=#[s,x],argTypes:=#[t,t]})(i:TypeInfo)(size:Nat)(ht:P.underlying t=Y (.slice e))(hi:P.info? e=i)(hz:i.zero=z)(Kf:i.size=size)(cQ:i.bytes=bytes)(Mq:z.cells.size=size)(fQ:0<size)(hs:a.eval s=v)(cX:w.ownsRow base e size v n xs){g:Nat}(m c:Nat)(news:List dV)(hx:a.eval x=.T g m c)(hl:J news=m*size)(rP:∀j u,news[j]?=Y u->I w (Ad g j)=Y u)(h1:∀u∈news,u.oneCell')(IN:n+m<=maxLen)(IE:(n+m)*bytes<=140737488355328)(MK:base<=U w.heap)(h:∀v' w',w'.ownsRow base e size v' (n+m) (xs++news)->w.grownBy w' v.ownBlock->(∀g,v'.ownBlock=Y g->v.ownBlock=Y g\/U w.heap<=g)->K (a.put o.dst v') w'):if Region.wanted o (yielded ops a.tmps)then Oper.wp P o a w K Q else E:=by
 have hw:Region.wanted o (yielded ops a.tmps):=by simp[Region.wanted,gR]
 rw[aM hw];let⟨v',w',hr,h2,h3,h4⟩:=bR1 (P:=P) o.type i ht hi hz Kf cQ Mq fQ cX (a:=Ad g 0) c hl (λj u hu=>by rw[Fx,mO];exact rP j u hu) h1 IN IE MK;exact Lib.wp_append_run w s x t t ho _ _ hs hx _ _ hr (h v' w' h2 h3 h4)
namespace Q
open Go.Sort
variable {p:Prop}
def ag(h:p):O p:=h
def ae(h:O p):p:=h
abbrev Le{α:Type}(l:List α)(n:Nat):Prop:=O (J l=n)
def cG{α:Sort _}(x:α):∃y,O (x=y):=⟨x,rfl⟩
abbrev HU(w:G)(blk off:Nat)(d:Array Int):Prop:=Holds (λx:Int=>Value.U x) w blk off d
variable {w:G}{row:Option Nat}
def M6:w.grownBy w row:=⟨rfl,rfl,rfl,eG _,λ_ _ _=>rfl⟩
def iy{w1 j:G}(h:w.grownBy w1 row)(k:w1.grownBy j row):w.grownBy j row:=
 ⟨k.os.Z h.os,k.tape.Z h.tape,k.output.Z h.output,gv h.size k.size,λi m o=>(k.block i (ku m h.size) o).Z (h.block i m o)⟩
def iB(w:G)(b o:Nat)(v:dV):w.grownBy (w.setCell (Ad b o) v) b:=
 ⟨rfl,rfl,rfl,aj,λi _ j=>fT _ _ _ _ (λe=>j (by rw[e]))⟩
variable {w':G}
def ga(h:w.grownBy w' row):w.grownBy w'.drew row:=⟨h.os,h.tape,h.output,h.size,h.block⟩
variable {x y:Int}{d:Array Int}
def HU.swap{blk off:Nat}(h:HU w blk off d){i j:Nat}(s:i<d.size)(r:j<d.size)(q:x=d[j]!)(o:y=d[i]!):HU ((w.setCell (Ad blk (off+i)) (.U x)).setCell (Ad blk (off+j)) (.U y)) blk off (swp d i j):=by
 subst q o;have e:=putRow_self (λx:Int=>Value.U x) w blk off d h;have m:=putRow_swp (λx:Int=>Value.U x) w blk off d i j s r;rw[e]at m;show Holds _ _ _ _ _;rw[m];exact holds_putRow _ w blk off d _ h (by rw[size_swp])
def Hk{p q:Addr}{t u:dV}(h:I w p=t):∃s,I (w.setCell q u) p=Y s:=by
 by_cases e:q=p;{subst e;exact⟨u,Pw _ _ _ h⟩};{exact⟨t,(Pm _ _ _ _ e).Z h⟩}
def HU.drew{blk off:Nat}(h:HU w blk off d):HU w.drew blk off d:=h
def HU.kept{blk off:Nat}(h:HU w blk off d)(m:w'.heap[blk]?=w.heap[blk]?):HU w' blk off d:=λj i=>
 ⟨(Hz (a:=(Ad blk (off+j))) m).Z (h j i).1,(AO (a:=(Ad blk (off+j))) m).Z (h j i).2⟩
def dB2:dQ dG 210 #[.U x] w λe w'=>e=dR (.bool dF)/\w'=w:=by
 go_in;go_wp2;go_ret;exact⟨aj,rfl⟩
def FB:dQ dG 274 #[.U x,.U y] w λe w'=>e=dR (.bool (ltInt x y))/\w'=w:=by
 go_in;go_wp2_with fail;refine(dB2).h ?_;rintro e w'⟨rfl,rfl⟩;go_wp2;go_ret;exact⟨rfl,rfl⟩
variable {vs:iA}
def GH:(callFunc 274 vs).run dG w=.ok (.enter 274 vs) w:=by kernel_rfl
variable {a:Act}{P:Program}{ops:iQ}{o:Oper}{K:Act->G->Prop}{E:Prop}{R:Ending->G->Prop}{f:FuncId}{x1 x2:Operand}{sU:Array TypeId}
def EY{Q:iE}(hw:Region.wanted o (yielded ops a.tmps)) (ho:o.op=.call {callee:=.value (.func f),args:=#[x1,x2],argTypes:=sU})(h1:a.eval x1=v1)(h2:a.eval x2=v2)(jG:∀vs,(callFunc f vs).run P w=.ok (.enter f vs) w)(hc:dQ P f #[v1,v2] w R)(hR:∀e w',R e w'->∃v,e=dR v/\K (a.put o.dst v) w'):if Region.wanted o (yielded ops a.tmps)then Oper.wp P o a w K Q else E:=by
 rw[aM hw];have fS:(execOp a.eval o).run P w=.ok (.enter f #[v1,v2]) w:=by subst h1 h2;unfold execOp;simp[go_sem,ho,resolve,invoke,jG]
 show o.upon P a K Q _;rw[fS,O0];refine hc.h ?_;intro e w' h;obtain⟨v,rfl,hk⟩:=hR e w' h;exact hk
def dp7{blk off cap N a b:Nat}(hN:O (d.size=N))(h:HU w blk off d)(yb:a<=b)(hb:b<=N)(fQ:N<=1048576):dQ dG 272 #[.S (Ad blk off) N cap,.I a,.I b] w λe w'=>e=dR (dT #[])/\HU w' blk off (reverseRange d a b)/\w.grownBy w' blk:=by
 let⟨D,R⟩:=aY (reverseRange d a b);rw[R];have ED:O (reverseLoop a (b-1) d=D):=R;clear R;have H0:=ag h;clear h;go_in;go_wp2_with fail
 go_loopw[6,7](λx u wr=>∃(i m:Nat)(o:Int)(q:Array Int),x=.I i/\u=.I o/\o<=1048576/\-1<=o/\i<=1048577/\O ((i:Int)<o->o=m/\m<N)/\O (¬(i:Int)<o->¬i<m)/\O (q.size=N)/\O (HU wr blk off q)/\O (reverseLoop i m q=D)/\O (w.grownBy wr blk)) (λx u _=>(intOf u-intOf x).toNat)
 exact⟨a,b-1,(b:Int)-1,d,rfl,by first|rfl|go_num,af,af,af,λh=>⟨af,af⟩,(λh=>af),hN,H0,ED,M6⟩;{
 obtain⟨i,m,o,q,rfl,rfl,q1,q2,q3,X,W,oG,s,r,B⟩:=hrel;by_cases Z:(i:Int)<o;{
 let⟨ej,hjn⟩:=ae X Z;subst ej;have jQ:i<m:=af;have Km:=ae oG;let⟨ci,fi⟩:=ae s i af;let⟨cj,fj⟩:=ae s m af;let⟨y,M⟩:=aY q[i]!;let⟨z,E⟩:=aY q[m]!;have zh:=ag (s.swap (i:=i) (j:=m) af af E.C M.C);rw[M]at ci;rw[E]at cj;have hq:=ae r;rw[reverseLoop,aM jQ]at hq;have HQ:=ag hq;have kq:O ((swp q i m).size=N):=by show _=_;rw[size_swp];exact Km
 have HG:=ag (iy (iy B (iB wr blk (off+i) (.U z))) (iB _ blk (off+m) (.U y)));have i1:=bM m N;have i2:=bM i N;have i3:=gm 0 m;clear X W s r B M E hq Km;go_wp2_with fail
 go_region
 go_wp2;go_roundw;exact⟨i+1,m-1,(m:Int)-1,swp q i m,by go_num,by first|rfl|go_num,af,af,af,λh=>⟨af,af⟩,(λh=>af),kq,zh.drew,HQ,ga HG⟩;exact cW};{have V:=ae W Z;have hq:=ae r;rw[reverseLoop,aL V]at hq;subst hq;go_wp2;go_end0;exact⟨rfl,s,B⟩}}
end Q
namespace Q
open Go.Sort
theorem cf8(i:Int->Int->Bool)(a:Nat):∀(j:Nat)(d:Array Int),(insInner i a j d).size=d.size
 |0,d=>rfl
 |j+1,d=>by rw[insInner];split;{rw[cf8 i a j,size_swp]};{rfl}
variable {a j:Nat}{d:Array Int}
theorem insInner_stop(h:¬a<j\/ltInt d[j]! d[j-1]! = dF):insInner ltInt a j d=d:=by
 cases j with
 |zero=>rfl
 |succ j=>
  rw[insInner,aL];obtain h|h:=h;{simp;omega};{simp only[Ka]at h;simp[h]}
theorem insInner_go(h:a<j)(i:ltInt d[j]! d[j-1]! = dY):insInner ltInt a j d=insInner ltInt a (j-1) (swp d j (j-1)):=by
 cases j with
 |zero=>omega
 |succ j=>
  simp only[Ka]at i⊢;rw[insInner,aM (by simp[i];omega)]
variable {w:G}
theorem dL7{blk off cap N a b:Nat}(hN:O (d.size=N))(h:HU w blk off d)(yb:a<=b)(hb:b<=N)(fQ:N<=1048576):dQ dG 268 #[.S (Ad blk off) N cap,.I a,.I b] w λe w'=>e=dR (dT #[])/\HU w' blk off (insertionSort ltInt d a b)/\w.grownBy w' blk:=by
 let⟨D,eD⟩:=aY (insertionSort ltInt d a b);rw[eD];have ED:O (insOuter ltInt a b (a+1) d=D):=eD;have H0:=ag h;go_in;go_wp2_with fail
 go_loopw[6](λs6 wr=>∃(i:Nat)(u:Array Int),s6=.I i/\i<=1048577/\a<i/\O (u.size=N)/\O (HU wr blk off u)/\O (insOuter ltInt a b i u=D)/\O (w.grownBy wr blk)) (λs6 _=>b-(intOf s6).toNat)
 exact⟨a+1,d,by first|rfl|go_num,af,af,hN,H0,ED,M6⟩;{
 obtain⟨i,u,rfl,q1,q2,oG,rW,V,s⟩:=hrel;by_cases aH:i<b;{
 have cL:=bM i b;have hq:=ae V;rw[insOuter,aM aH]at hq;let⟨E,eE⟩:=aY (insInner ltInt a i u);rw[eE]at hq;have HQ:=ag hq;have EE:=ag eE;have hEs:O (E.size=N):=by show _=_;rw[<-eE,cf8];exact ae oG
 go_wp2_with fail;let⟨iY,eY⟩:=aG wr;subst eY;have HG0:=s
 go_loopw[7](λZ wr=>∃(j:Nat)(q:Array Int),Z=.I j/\j<=i/\a<=j/\O (q.size=N)/\O (HU wr blk off q)/\O (insInner ltInt a j q=E)/\O (w.grownBy wr blk)) (λZ _=>(intOf Z).toNat)
 exact⟨i,u,rfl,eG _,af,oG,rW,EE,HG0⟩;{
 obtain⟨j,q,rfl,q3,q4,Kn,x,AY,s⟩:=hrel;by_cases M:a<j;{
 have dV6:=bM a j;obtain⟨m,em⟩:∃m:Nat,(j:Int)-1=(m:Int):=⟨j-1,af⟩;have Nc:j-1=m:=af;have Qt:=ae Kn;let⟨cj,fj⟩:=ae x j af;let⟨cm,fm⟩:=ae x m af;let⟨y,X⟩:=aY q[j]!;let⟨z,W⟩:=aY q[m]!;have zh:=ag (x.swap (i:=j) (j:=m) af af W.C X.C);rw[X]at cj;rw[W]at cm;have i1:=bM j N;have i2:=bM m N;have i3:=gm 0 m;have wm:=il m;let⟨B,eB⟩:=aY (ltInt y z);have EB:=ag eB;have GX:O (B=dF->q=E):=λhB=>by rw[<-ae AY,insInner_stop (.R (by rw[Nc,X,W,eB,hB]))]
 have Hb:O (B->insInner ltInt a m (swp q j m)=E):=λhB=>by rw[<-ae AY,insInner_go M (by rw[Nc,X,W,eB,hB]),Nc]
 have kq:O ((swp q j m).size=N):=by show _=_;rw[size_swp];exact Qt
 have HG:=ag (iy (iy s (iB wr blk (off+j) (.U z))) (iB _ blk (off+m) (.U y)));have K0:=bG cj cm;have FF:=bG fj fm;go_wp2_with fail
 go_cut[30](λrv wc=>rv=.bool B/\wc=wr.drew)
 case first=>(
 refine fk (λw'=>I w' (Ad blk (off+j))=dU y/\I w' (Ad blk (off+m))=dU z) (by exact K0) λhS=>?_;refine iR 0 1 2 3 4 5 6 7 hS ?_;refine iC 8 9 10 11 hS ?_;refine tn 12 hS ?_;refine ry [13] ?_;refine cn (λKK hK=>?_) ?_;{refine EY aS aS aS aS (λ_=>GH) (FB) ?_;rintro r w2⟨rfl,rfl⟩;refine⟨_,rfl,?_⟩;rw[ae EB];refine bL hK (by exact K0) λhS=>?_;refine tn 14 hS ?_;refine fy ?_;go_wp2_with fail;go_meet;exact⟨rfl,rfl⟩};exact fg)
 obtain⟨rfl,rfl⟩:=hcut;cases B with
 |false=>
  obtain rfl:=ae GX rfl;go_wp2;go_roundw;exact⟨i+1,q,by go_num,af,af,Kn,x.drew,HQ,ga s⟩;exact cW
 |true=>
  have e:=ag (ae Hb rfl);let⟨cj,cm⟩:=ae K0;let⟨fj,fm⟩:=ae FF;go_wp2_with fail
  go_region
  go_wp2;go_roundw;exact⟨m,swp q j m,by first|rfl|go_num,af,af,kq,(ae zh),e,ga (ga HG)⟩;exact cW};{
 have dV6:=fq a j;obtain rfl:q=E:=by rw[<-ae AY,insInner_stop (.L M)]
 go_wp2_with fail
 go_cut[30](λrv wc=>rv=.bool dF/\wc=wr.drew)
 case first=>(
 refine fk (λw'=>True) iq λhS=>?_;refine iC 0 1 2 3 hS ?_;refine kr 4 5 6 7 hS ?_;refine kr 8 9 10 11 hS ?_;refine sn 12 hS ?_;refine sn 13 hS ?_;refine tn 14 hS ?_;refine fy ?_;go_wp2_with fail;go_meet;exact⟨rfl,rfl⟩)
 obtain⟨rfl,rfl⟩:=hcut;go_wp2;go_roundw;exact⟨i+1,q,by go_num,af,af,Kn,x.drew,HQ,ga s⟩
 case measure=>simp[intOf];omega}}}
 {have cL:=fq i b;have hq:=ae V;rw[insOuter,aL aH]at hq;subst hq;go_wp2;go_end0;exact⟨rfl,rW,s⟩}}
end Q
namespace Q
open Go.Sort
variable {p:Int->Bool}{d:Array Int}{i j:Nat}
def cZ5(h:i<=j)(m:p d[i]! = dY):scanUp p d j i=scanUp p d j (i+1):=by
 rw[scanUp,aM (by simp[h,m])]
def cZ4(h:¬i<=j\/p d[i]! = dF):scanUp p d j i=i:=by
 rw[scanUp,aL];obtain h|h:=h;{simp;omega};{simp[h]}
theorem ey0(o:0<j)(h:i<=j)(m:p d[j]! = dY):scanDown p d i j=scanDown p d i (j-1):=by
 cases j with
 |zero=>omega
 |succ j=>rw[scanDown,aM (by simp[h,m])];rfl
theorem ex9(m:0<i)(h:¬i<=j\/p d[j]! = dF):scanDown p d i j=j:=by
 cases j with
 |zero=>rfl
 |succ j=>
  rw[scanDown,aL];obtain h|h:=h;{simp;omega};{simp[h]}
variable {l:Int->Int->Bool}{D:Array Int}{y:Int}{f:Bool->Bool}{wr:G}{Bc:Bool}
def Vl{j i Z N a blk off:Nat}(u:O ((dD (j<=i)&&f (l D[Z]! D[a]!))=Bc))(s:O (D.size=N))(o:O (HU wr blk off D))(r:O (D[a]! = y))(M:a<N)(q:j<=i->Z<N):(¬(j:Int)<=(i:Int)/\Bc=dF)\/∃z x L,z=Z/\(j:Int)<=(i:Int)/\(z:Int)<(N:Int)/\(a:Int)<(N:Int)/\(0:Int)<=(z:Int)/\O (l x y=L)/\Bc=f L/\O (I wr (Ad blk (off+z))=dU x/\I wr (Ad blk (off+a))=dU y):=by
 have E:=ae s;have m:=ae r;have e:=ae u;by_cases h:j<=i;{have B:=q h;refine .R ⟨Z,D[Z]!,_,rfl,af,af,af,af,rfl,?_,ag ⟨(ae o Z af).1,?_⟩⟩;{rw[<-e,m,JV h,vI]};{rw[<-m];exact(ae o a af).1}};{refine .L ⟨af,?_⟩;rw[<-e,AM h];rfl}
variable {iI:Nat}
def aI8(h:O ((dD (i<=j)&&p d[i]!)))(e:O (scanUp p d j i=iI)):O (scanUp p d j (i+1)=iI)/\i<=j:=by
 have h:=ae h;rw[gL,uF]at h;exact⟨by show _=_;rw[<-cZ5 h.1 h.2];exact ae e,h.1⟩
def aI7(h:O ((dD (i<=j)&&p d[i]!)=dF))(e:O (scanUp p d j i=iI)):i=iI:=by
 have h:=ae h;rw[Cf,JW]at h;rw[<-ae e,cZ4 h]
def bs3(h:O ((dD (i<=j)&&p d[j]!)))(e:O (scanDown p d i j=iI))(o:0<i):i<=j/\∃m:Nat,(j:Int)-1=(m:Int)/\O (scanDown p d i m=iI):=by
 have h:=ae h;rw[gL,uF]at h;exact⟨h.1,j-1,af,by show _=_;rw[<-ey0 af h.1 h.2];exact ae e⟩
def bs2(h:O ((dD (i<=j)&&p d[j]!)=dF))(e:O (scanDown p d i j=iI))(m:0<i):j=iI:=by
 have h:=ae h;rw[Cf,JW]at h;rw[<-ae e,ex9 m h]
variable {q:Prop}
def Vm(h':q:=by
 obtain⟨bg1,rfl⟩|⟨z,x,L,rfl,bg1,k1,k2,k3,EL,rfl,K0⟩:=CP;{
 refine fk (λw'=>True) iq λhS=>?_;refine iC 0 1 2 3 hS ?_;refine kr 4 5 6 7 hS ?_;refine kr 8 9 10 11 hS ?_;refine sn 12 hS ?_
 first|(refine tn 13 hS ?_;refine Xd aU ?_ _)|(refine sn 13 hS ?_;refine tn 14 hS ?_;refine Xd aU ?_ _)
 refine Bp ?_;go_wp2_with fail;go_meet;exact⟨rfl,rfl⟩};{
 refine fk (λw'=>I w' (Ad blk (off+z))=dU x/\I w' (Ad blk (off+a))=dU y) (by exact K0) λhS=>?_;refine iR 0 1 2 3 4 5 6 7 hS ?_;refine iC 8 9 10 11 hS ?_;refine ry [12] ?_;refine cn (λKK hK=>?_) ?_;{
 refine EY aS aS aS aS (λ_=>GH) (FB) ?_;rintro r' w2⟨rfl,rfl⟩;refine⟨_,rfl,?_⟩;rw[ae EL];refine bL hK (by exact K0) λhS=>?_;refine tn 13 hS ?_
 try(refine tn 14 hS ?_)
 refine fy ?_;go_wp2_with fail;go_meet;exact⟨rfl,rfl⟩};exact fg}):q:=h'
variable {a i2 j2:Nat}
def du9(o:scanUp (λx=>ltInt x d[a]!) d j i=i2)(m:scanDown (λx=>!ltInt x d[a]!) d i2 j=j2)(h:j2<i2):partLoop ltInt a i j d=(j2,d):=by
 rw[partLoop];simp only[o,m];rw[aM h]
def dv0(q:scanUp (λx=>ltInt x d[a]!) d j i=i2)(o:scanDown (λx=>!ltInt x d[a]!) d i2 j=j2)(h:¬j2<i2)(s:i<=i2)(r:j2<=j)(m:0<i2):partLoop ltInt a i j d=partLoop ltInt a (i2+1) (j2-1) (swp d i2 j2):=by
 rw[partLoop];simp only[q,o];rw[aL h,Xr af]
variable {w:G}
theorem du8{blk off cap N a b piv:Nat}(hN:O (d.size=N))(h:HU w blk off d)(D6:a<=piv)(hpb:piv<b)(hb:b<=N)(fQ:N<=1048576):dQ dG 276 #[.S (Ad blk off) N cap,.I a,.I b,.I piv] w λe w'=>e=dR (dT #[.I (partition ltInt d a b piv).1,.bool (partition ltInt d a b piv).2.1])/\HU w' blk off (partition ltInt d a b piv).2.2/\w.grownBy w' blk:=by
 obtain⟨⟨R1,R2,R3⟩,eR⟩:∃R,partition ltInt d a b piv=R:=⟨_,rfl⟩;rw[eR];have oG:=ae hN;obtain⟨B1,eB1⟩:∃x:Nat,(b:Int)-1=(x:Int):=⟨b-1,af⟩;have Vk:b-1=B1:=af;have wB:=il B1;let⟨ca,fa⟩:=h a af;let⟨cp,fp⟩:=h piv af;let⟨u,eu⟩:=aY d[a]!;let⟨v,ev⟩:=aY d[piv]!;have Sf:=ag (h.swap (i:=a) (j:=piv) af af ev.C eu.C);rw[eu]at ca;rw[ev]at cp;let⟨tt,ct⟩:=Hk (q:=(Ad blk (off+a))) (u:=.U v) cp;let⟨D,Re⟩:=aY (swp d a piv);rw[Re]at Sf;have Dp:O (D.size=N):=by show _=_;rw[<-Re,size_swp];exact oG
 let⟨y,ey⟩:=aY D[a]!;have HY1:=ag ey;have HG:=ag (iy (iB w blk (off+a) (.U v)) (iB _ blk (off+piv) (.U u)));obtain⟨I1,eI1⟩:∃iI,scanUp (λx=>ltInt x D[a]!) D B1 (a+1)=iI:=⟨_,rfl⟩;obtain⟨J2,eJ2⟩:∃iJ,scanDown (λx=>!ltInt x D[a]!) D I1 B1=iJ:=⟨_,rfl⟩;have HR:O (((R1,R2,R3):Nat×Bool×Array Int)=if I1>J2 then(J2,dY,swp D J2 a)else((partLoop ltInt a (I1+1) (J2-1) (swp D I1 J2)).1,dF,swp (partLoop ltInt a (I1+1) (J2-1) (swp D I1 J2)).2 (partLoop ltInt a (I1+1) (J2-1) (swp D I1 J2)).1 a)):=by show _=_;rw[<-eR,partition,Re,Vk];simp only[eI1,eJ2]
 have EI1:=ag eI1;have EJ2:=ag eJ2;have kk1:=bM a N;have kk2:=bM piv N;go_in;go_wp2_with fail
 go_region
 go_wp2_with fail
 go_loopw[10](λs wr=>∃E:Nat,s=.I E/\a+1<=E/\E<=B1+2/\O (HU wr blk off D)/\O (scanUp (λx=>ltInt x D[a]!) D B1 E=I1)/\O (w.grownBy wr blk)) (λs _=>B1+1-(intOf s).toNat)
 exact⟨a+1,by first|rfl|go_num,af,af,(ae Sf),EI1,(ga HG)⟩;{
 obtain⟨E,rfl,qa1,qb1,qC,IL,Eb⟩:=hrel;obtain⟨Bc,CQ⟩:∃B,(dD (E<=B1)&&((λx=>ltInt x D[a]!) D[E]!))=B:=⟨_,rfl⟩;have W:=ag CQ;go_wp2_with fail
 go_cut[43](λrv wc=>rv=.bool Bc/\wc=wr.drew)
 case first=>(
 have CP:=Vl (l:=ltInt) (f:=λb=>b) W Dp qC HY1 af af;exact Vm)
 obtain⟨rfl,rfl⟩:=hcut;cases Bc with
 |true=>
  let⟨hn,hle⟩:=aI8 W IL;go_wp2;go_roundw;exact⟨E+1,by go_num,af,af,qC.drew,hn,ga Eb⟩;exact cW
 |false=>
  obtain rfl:=aI7 W IL;go_wp2_with fail
  go_loopw[11](λs wr=>∃o:Nat,s=.I o/\E<=o+2/\o<=B1/\O (HU wr blk off D)/\O (scanDown (λx=>!ltInt x D[a]!) D E o=J2)/\O (w.grownBy wr blk)) (λs _=>(intOf s).toNat)
  exact⟨B1,by first|rfl|go_num,af,af,qC,EJ2,(ga Eb)⟩;{
 obtain⟨o,rfl,qa2,qb2,rY,hE2,QK⟩:=hrel;obtain⟨Bc,CQ⟩:∃B,(dD (E<=o)&&((λx=>!ltInt x D[a]!) D[o]!))=B:=⟨_,rfl⟩;have W:=ag CQ;go_wp2_with fail
 go_cut[60](λrv wc=>rv=.bool Bc/\wc=wr.drew)
 case first=>(
 have CP:=Vl (l:=ltInt) (f:=not) W Dp rY HY1 af af;exact Vm)
 obtain⟨rfl,rfl⟩:=hcut;cases Bc with
 |true=>
  let⟨hle,m,em,hn⟩:=bs3 W hE2 af;go_wp2;go_roundw;exact⟨m,by first|rfl|go_num,af,af,rY.drew,hn,ga QK⟩;exact cW
 |false=>
  obtain rfl:=bs2 W hE2 af;by_cases hgt:o<E;{
 have dW8:=bM o E;have hr:=ae HR;rw[aM hgt]at hr;simp only[jy]at hr;obtain⟨Bg,uX,QW⟩:=hr;replace Bg:=Bg.C;replace QW:=QW.C;subst Bg uX QW;let⟨c1,f1⟩:=ae rY o (aK (ae Dp));let⟨c2,f2⟩:=ae rY a (aK (ae Dp));let⟨p1,Z⟩:=aY D[o]!;let⟨p2,sa⟩:=aY D[a]!;rw[Z]at c1;rw[sa]at c2;let⟨tt,ct⟩:=Hk (q:=(Ad blk (off+o))) (u:=.U p2) c2;have xx:=ag (rY.swap (i:=o) (j:=a) (aK (ae Dp)) (aK (ae Dp)) sa.C Z.C);have yB:=ag (iy (iy QK (iB _ blk (off+o) (.U p2))) (iB _ blk (off+a) (.U p1)));have l1:=bM o N;have l2:=bM a N;have l3:=gm 0 o;have l4:=gm 0 a;go_wp2_with fail
 go_region
 go_wp2;go_ret2;exact⟨rfl,xx,ga (ga yB)⟩};{
 have dW8:=fq o E;obtain⟨⟨Q1,Q2⟩,eQ⟩:∃Q,partLoop ltInt a (E+1) (o-1) (swp D E o)=Q:=⟨_,rfl⟩;have hr:=ae HR;rw[aL hgt,eQ]at hr;have HRB:=ag hr;have EQ:=ag eQ;let⟨c1,f1⟩:=ae rY E (aK (ae Dp));let⟨c2,f2⟩:=ae rY o (aK (ae Dp));let⟨p1,Z⟩:=aY D[E]!;let⟨p2,sa⟩:=aY D[o]!;rw[Z]at c1;rw[sa]at c2;let⟨tt,ct⟩:=Hk (q:=(Ad blk (off+E))) (u:=.U p2) c2;have xx:=ag (rY.swap (i:=E) (j:=o) (aK (ae Dp)) (aK (ae Dp)) sa.C Z.C);have yB:=ag (iy (iy QK (iB _ blk (off+E) (.U p2))) (iB _ blk (off+o) (.U p1)));have l1:=bM E N;have l2:=bM o N;have l3:=gm 0 E;have l4:=gm 0 o;obtain⟨m2,em2⟩:∃m:Nat,(o:Int)-1=(m:Int):=⟨o-1,af⟩;have es7:o-1=m2:=af;rw[es7]at EQ;have HD2:O ((swp D E o).size=N):=by show _=_;rw[size_swp];exact ae Dp
 go_wp2_with fail
 go_region
 go_wp2_with fail
 go_loopw[10,11](λyN WG wr=>∃(i j:Nat)(M:Array Int),yN=.I i/\WG=.I j/\a+1<=i/\i<=j+2/\j<=B1/\O (M.size=N)/\O (HU wr blk off M)/\O (partLoop ltInt a i j M=(Q1,Q2))/\O (w.grownBy wr blk)) (λyN WG _=>(intOf WG+2-intOf yN).toNat)
 exact⟨E+1,m2,_,by first|rfl|go_num,by first|rfl|go_num,af,af,af,HD2,xx,EQ,ga (ga yB)⟩;{
 obtain⟨i,j,M,rfl,rfl,z1,z2,z3,X,uW,Y9,IJ⟩:=hrel;let⟨y,ey⟩:=aY M[a]!;have HY3:=ag ey;obtain⟨I4,eI4⟩:∃iI,scanUp (λx=>ltInt x M[a]!) M j i=iI:=⟨_,rfl⟩;obtain⟨J5,eJ5⟩:∃iJ,scanDown (λx=>!ltInt x M[a]!) M I4 j=iJ:=⟨_,rfl⟩;have EI4:=ag eI4;have EJ5:=ag eJ5;have ae7:=EI4;have ae5:=EJ5;go_wp2_with fail;let⟨iY,eY⟩:=aG wr;subst eY
 go_loopw[10](λs wr=>∃V:Nat,s=.I V/\i<=V/\V<=j+2/\O (HU wr blk off M)/\O (scanUp (λx=>ltInt x M[a]!) M j V=I4)/\O (w.grownBy wr blk)) (λs _=>j+1-(intOf s).toNat)
 exact⟨i,by first|rfl|go_num,af,af,uW,EI4,IJ⟩;{
 obtain⟨V,rfl,qa4,qb4,Ac,MT,Zi⟩:=hrel;obtain⟨Bc,CQ⟩:∃B,(dD (V<=j)&&((λx=>ltInt x M[a]!) M[V]!))=B:=⟨_,rfl⟩;have W:=ag CQ;go_wp2_with fail
 go_cut[112](λrv wc=>rv=.bool Bc/\wc=wr.drew)
 case first=>(
 have CP:=Vl (l:=ltInt) (f:=λb=>b) W X Ac HY3 af af;exact Vm)
 obtain⟨rfl,rfl⟩:=hcut;cases Bc with
 |true=>
  let⟨hn,hle⟩:=aI8 W MT;go_wp2;go_roundw;exact⟨V+1,by go_num,af,af,Ac.drew,hn,ga Zi⟩;exact cW
 |false=>
  obtain rfl:=aI7 W MT;go_wp2_with fail
  go_loopw[11](λs wr=>∃r:Nat,s=.I r/\V<=r+2/\r<=j/\O (HU wr blk off M)/\O (scanDown (λx=>!ltInt x M[a]!) M V r=J5)/\O (w.grownBy wr blk)) (λs _=>(intOf s).toNat)
  exact⟨j,by first|rfl|go_num,af,af,Ac,EJ5,(ga Zi)⟩;{
 obtain⟨r,rfl,qa5,qb5,uV,Zk,QJ⟩:=hrel;obtain⟨Bc,CQ⟩:∃B,(dD (V<=r)&&((λx=>!ltInt x M[a]!) M[r]!))=B:=⟨_,rfl⟩;have W:=ag CQ;go_wp2_with fail
 go_cut[129](λrv wc=>rv=.bool Bc/\wc=wr.drew)
 case first=>(
 have CP:=Vl (l:=ltInt) (f:=not) W X uV HY3 af af;exact Vm)
 obtain⟨rfl,rfl⟩:=hcut;cases Bc with
 |true=>
  let⟨hle,m,em,hn⟩:=bs3 W Zk af;go_wp2;go_roundw;exact⟨m,by first|rfl|go_num,af,af,uV.drew,hn,ga QJ⟩;exact cW
 |false=>
  obtain rfl:=bs2 W Zk af;by_cases l9:r<V;{
 have bg5:=bM r V;have hq:=ae Y9;rw[du9 (ae ae7) (ae ae5) l9]at hq;simp only[jy]at hq;obtain⟨KJ,KI⟩:=hq;subst KJ KI;have hr:=ae HRB;simp only[jy]at hr;obtain⟨Bg,uX,QW⟩:=hr;replace Bg:=Bg.C;replace QW:=QW.C;subst Bg uX QW;let⟨c1,f1⟩:=ae uV r (aK (ae X));let⟨c2,f2⟩:=ae uV a (aK (ae X));let⟨p1,Z⟩:=aY M[r]!;let⟨p2,sa⟩:=aY M[a]!;rw[Z]at c1;rw[sa]at c2;let⟨tt,ct⟩:=Hk (q:=(Ad blk (off+r))) (u:=.U p2) c2;have xx:=ag (uV.swap (i:=r) (j:=a) (aK (ae X)) (aK (ae X)) sa.C Z.C);have yB:=ag (iy (iy QJ (iB _ blk (off+r) (.U p2))) (iB _ blk (off+a) (.U p1)));have l1:=bM r N;have l2:=bM a N;have l3:=gm 0 r;have l4:=gm 0 a;go_wp2_with fail
 go_region
 go_wp2;go_ret2;exact⟨rfl,xx,ga (ga yB)⟩};{
 have bg5:=fq r V;have hq:=ae Y9;rw[dv0 (ae ae7) (ae ae5) l9 af af af]at hq;have Sr:=ag hq;let⟨c1,f1⟩:=ae uV V (aK (ae X));let⟨c2,f2⟩:=ae uV r (aK (ae X));let⟨p1,Z⟩:=aY M[V]!;let⟨p2,sa⟩:=aY M[r]!;rw[Z]at c1;rw[sa]at c2;let⟨tt,ct⟩:=Hk (q:=(Ad blk (off+V))) (u:=.U p2) c2;have xx:=ag (uV.swap (i:=V) (j:=r) (aK (ae X)) (aK (ae X)) sa.C Z.C);have yB:=ag (iy (iy QJ (iB _ blk (off+V) (.U p2))) (iB _ blk (off+r) (.U p1)));have l1:=bM V N;have l2:=bM r N;have l3:=gm 0 V;have l4:=gm 0 r;obtain⟨m5,em5⟩:∃m:Nat,(r:Int)-1=(m:Int):=⟨r-1,af⟩;have bp2:r-1=m5:=af;rw[bp2]at Sr;have Sw:O ((swp M V r).size=N):=by show _=_;rw[size_swp];exact ae X
 go_wp2_with fail
 go_region
 go_wp2;go_roundw;exact⟨V+1,m5,_,by first|rfl|go_num,by first|rfl|go_num,af,af,af,Sw,xx,Sr,ga (ga yB)⟩
 case measure=>simp[intOf];omega}}}}}}}
end Q
namespace Q
open Go.Maps
def mr:Keyed dG 27:=int_keyed underlying27
abbrev mR(x:Int):dV:=.U x
def xF{H:Type}(i:DataW H)(left:Lit->Bool)(ss:LI):Prop:=ss.Nodup/\∀x,x∈ss↔(has i (.U x)/\left (.U x)=dF)
def xF.start{H:Type}(i:DataW H):xF i (has i) []:=⟨an1,λx=>by cases has i (.U x)<;>simp⟩
variable {x:Int}{ss:LI}{left:Lit->Bool}
def xF.step{H:Type}{i:DataW H}(h:xF i left ss){y:DataW H}(j:left (.U x))(B:∀r,i.atKey (.U x) r=y):xF i (λz=>left z&&!z.sameKey (.U x)) (ss++[x]):=by
 have D:has i (.U x):=has_true_of_atKey B;have q:x∉ss:=λs=>by have:=((h.2 x).1 s).2;rw[j]at this;cases this
 refine⟨Cd.2 ⟨h.1,aj,λa u b o=>by simp at o;subst o;exactλe=>q (e▸u)⟩,λy=>?_⟩;by_cases m:y=x;{subst m;simp[D,Lit.sameKey]};{simp[h.2 y,m,Lit.sameKey]}
def EH{H:Type}(i:DataW H)(ss:LI):Prop:=ss.Nodup/\(∀x,x∈ss↔has i (.U x))/\J ss<=Maps.size i
def xF.all{H:Type}{i:DataW H}(h:xF i left ss)(o:∀j,left j=dF)(m:J ss<=Maps.size i):EH i ss:=⟨h.1,(λx=>by rw[h.2 x,o];simp),m⟩
abbrev kT:TypeId:=27
def aZ5{key:dV}{kl:Lit}(h:keyOf dG 27 key=kl):=Maps.keyOf_int_inv underlying27 h
variable {p:Prop}
theorem scA(h:p:=by
  first|refine wX func241 rfl iq ?_ rfl|refine wX func264 rfl iq ?_ rfl|refine wX func244 rfl iq ?_ rfl
  simp only[ntmps241,ntmps264,ntmps244,Ep,Nat.reduceAdd,Nat.reduceSub]
  gi_wp2_with(first
   |(gi_at_range;refine wpListIn_range_own _ rfl _ _ rfl _ _ mr (by first|exact underlying178|exact underlying157|exact underlying179) _ b nn _ rfl cX ?_;intro w0 xS qP zt)
   |gi_in)
  go_frame
  gi_loopw [3] (λ_ wr=>∃(left:Lit->Bool)(gO:Nat)(ss:List _),wr.ranges dG kT R b (U W.heap) nn D0 left gO/\J ss+gO<=Maps.size D0/\xF D0 left ss/\iJ ss wr) (λ_ wr=>wr.rangeLeft b (U W.heap))
  {exact⟨_,_,[],xS,aj,xF.start D0,hJ [] W w0 dN h0 qP (λr e=>by cases e)⟩};{
 obtain⟨left,gO,ss,iH,UP,hC,Ze⟩:=hrel
 gi_wp2_with(first
  |(gi_at_next;refine wpListIn_next_ranges _ rfl _ rfl _ mr R mR id (λkey kl hk=>by obtain⟨x,hx,_⟩:=aZ5 hk;exact⟨x,hx⟩) (λv _ _=>⟨v,rfl⟩) b (U W.heap) nn _ _ _ rfl iH ?_ ?_)
  |gi_in)
 {intro ki rC;gi_wp2;go_end0;exact⟨⟨_,rfl⟩,.L ⟨ss,hC.all rC af,Ze⟩⟩};{
 intro x c kl yd yp w2 eD5 fh hlk hv fD PQ aH dt vP ti;obtain⟨x',ex,rfl,_⟩:=aZ5 fh;obtain rfl:x=x':=by simpa[mR]using ex
 have QI:iJ ss w2:=hJ ss wr w2 (U W.heap) Ze dt (λr e=>by cases e;exact⟨eG _,iH.iter_walk⟩);let⟨fn,tmps,assign,body,hy,hR⟩:=hY ss x w2 QI af;clear vP;gi_wp2;refine hR.h ?_;rintro e W3(⟨rfl,D9,kK⟩|⟨rfl,Ku⟩);{gi_wp2;have DU:=PQ.of_walks kK;go_roundw;{exact⟨_,eD5,ss++[x],DU,bq,hC.step hlk fD,D9⟩};{rw[DU.left_eq,iH.left_eq];exact aH}};{gi_wp2;refine cg (wS rfl _ _ _) rfl ?_;exact⟨⟨_,rfl⟩,.R ⟨_,Ku⟩⟩}}}):p:=h
def scB(h:p:=by
  first|refine wX func200 rfl iq ?_ rfl|refine wX func245 rfl iq ?_ rfl|refine wX func202 rfl iq ?_ rfl
  simp only[ntmps200,ntmps245,ntmps202,Ep,Nat.reduceAdd,Nat.reduceSub];gi_wp2;go_ret;exact⟨rfl,rfl⟩):p:=h
theorem scC(h:p:=by
  intro l iJ Jx W hW hJ _ hY h0;have Ux:W.ownsMap dG kT R b nn D0:=by have xm:=cX.lt;obtain⟨es,clock,hb,Ft,hs,hD⟩:=cX;exact⟨es,clock,(hW.block b xm).Z hb,Ft,hs,hD⟩
  have FQ:=(hW.cell (p:=(Ad Bm 0)) QM).Z hm
  first
   |refine(ce5 n hn l Bm b nn D0 iJ Jx hY W hJ FQ Ux h0).h ?_
   |refine(dJ8 hn iJ Jx hY hJ FQ Ux h0).h ?_
  rintro e W'⟨he,⟨ss,hs,hj⟩|⟨pre,hj⟩⟩;{exact⟨he,.L ⟨ss,hs,hj⟩⟩};{exact⟨he,.R ⟨pre,iq,hj⟩⟩}):p:=h
def ce5{H:Type}(n:Nat)(q:1<=n)(l o b nn:Nat)(D0:DataW H){R:dV->Option (DataW H×List MemPlace)}(iJ m:LI->G->Prop)(hY:∀i x W,iJ i W->J i<Maps.size D0->YieldAt Fence.wide (n-1) dG l #[mR x] W λe j=>(e=dR (.bool dY)/\iJ (i++[x]) j/\KeepsWalks W j)\/(e=dR (.bool dF)/\m (i++[x]) j))(W:G)(hJ:AbidesFrom (U W.heap) iJ)(hm:I W (Ad o 0)=Y (.map b))(cX:W.ownsMap dG 27 R b nn D0)(h0:iJ [] W):CallsIn Fence.wide n dG 241 #[.func (.yield l) #[] #[],Pz o] W λe j=>(∃v,e=dR v)/\((∃ss:LI,EH D0 ss/\iJ ss j)\/(∃i,m i j)):=scA
def ce4(n:Nat)(i:Option Nat)(w:G):CallsIn Fence.wide n dG 200 #[.map i] w λe w'=>e=dR (.func (.func 241) #[] #[Pz (U w.heap)])/\w'=w.alloc (dO #[.map i] 178):=scB
def bM2{H:Type}(n:Nat)(hn:1<=n)(Bm b nn:Nat)(D0:DataW H){R:dV->Option (DataW H×List MemPlace)}(w:G)(QM:Bm<U w.heap)(hm:I w (Ad Bm 0)=Y (.map b))(cX:w.ownsMap dG 27 R b nn D0):SeqStopsK Fence.wide n dG 241 #[Pz Bm] (λx:Int=>#[mR x]) KeepsWalks (EH D0) (λ_=>True) (Maps.size D0) w:=scC
variable {n b Bm nn:Nat}
def dJ8{H:Type}(o:1<=n){l:Nat}{D0:DataW H}{R:dV->Option (DataW H×List MemPlace)}(iJ m:LI->G->Prop)(hY:∀i x W,iJ i W->J i<Maps.size D0->YieldAt Fence.wide (n-1) dG l #[mR x] W λe j=>(e=dR (.bool dY)/\iJ (i++[x]) j/\KeepsWalks W j)\/(e=dR (.bool dF)/\m (i++[x]) j)){W:G}(hJ:AbidesFrom (U W.heap) iJ)(hm:I W (Ad Bm 0)=Y (.map b))(cX:W.ownsMap dG 27 R b nn D0)(h0:iJ [] W):CallsIn Fence.wide n dG 264 #[.func (.yield l) #[] #[],Pz Bm] W λe j=>(∃v,e=dR v)/\((∃ss:LI,EH D0 ss/\iJ ss j)\/(∃i,m i j)):=scA
variable {w:G}{mb:Option Nat}
def dJ6:CallsIn Fence.wide n dG 245 #[.map mb] w λe w'=>e=dR (.func (.func 264) #[] #[Pz (U w.heap)])/\w'=w.alloc (dO #[.map mb] 157):=scB
def de7{H:Type}(hn:1<=n){D0:DataW H}{R:dV->Option (DataW H×List MemPlace)}(QM:Bm<U w.heap)(hm:I w (Ad Bm 0)=Y (.map b))(cX:w.ownsMap dG 27 R b nn D0):SeqStopsK Fence.wide n dG 264 #[Pz Bm] (λx:Int=>#[mR x]) KeepsWalks (EH D0) (λ_=>True) (Maps.size D0) w:=scC
end Q
namespace Q
open Go.Maps
variable {p:Prop}
def Hid.ba1(h:p):O p:=h
def Wh(h:O p):p:=h
def cu3(W:G)(l:Nat)(o:Obj):W.grownBy (W.putObj l o) l:=⟨rfl,rfl,rfl,by simp,λk _ i=>World.putObj_heap_other (λe=>i (by rw[e]))⟩
def ei3(W:G)(b:Nat)(v:dV):W.grownBy (W.setCell (Ad b 0) v) b:=⟨rfl,rfl,rfl,by simp,λk _ i=>Pc _ _ _ k (λe=>i (by rw[e]))⟩
variable {e:TypeId}{k base j:Nat}{v:dV}{o:Obj}{xs:List dV}
def bR5{W:G}{size:Nat}(h:W.ownsRow base e size v k xs)(m:W.heap[j]?=o)(q:o.isCells=dF):v.ownBlock=dN\/v.ownBlock≠Y j:=by
  obtain⟨rfl,_⟩|⟨g,u,s,rfl,_,i,_⟩:=h.2;{exact .L rfl};{
 refine .R λr=>?_;have:g=j:=by simpa[Value.ownBlock]using r
 subst this;rw[i]at m;cases m;cases q}
variable {row:Option Nat}
theorem bR4{W m:G}{size:Nat}(h:W.ownsRow base e size v k xs)(s:W.grownBy m row)(hr:∀r,row=Y r->∃o:Obj,W.heap[r]?=o/\o.isCells=dF):m.ownsRow base e size v k xs:=by
  refine h.kept s ?_;cases hv:v.ownBlock with
  |none=>exact .L rfl
  | some j=>
    refine .R λu=>?_;let⟨o,q,hc⟩:=hr j u.C;obtain i|i:=bR5 h q hc;{rw[hv]at i;cases i};{exact i hv}
def dw8{W s:G}{size:Nat}(h:W.ownsRow base e size v k xs)(r:W.grownBy s v.ownBlock):KeepsOthers W s:=
  ⟨r.size,λj o i u=>(r.block j (JU.1 i).1 (λq=>by obtain m|m:=bR5 h i u;{rw[m]at q;cases q};{exact m q.C})).Z i⟩
structure Got{α:Type}(ty:TypeId)(enc:α->dV)(Bs:Nat)(pre:List α)(v:dV)(W:G):Prop where
  cell:I W (Ad Bs 0)=v
  T:W.frozen? (Ad Bs 0)=dF
  row:W.ownsRow (Bs+1) ty 1 v (J pre) (pre.map enc)
  nil:v=aq↔pre=[]
abbrev kS:TypeId:=61
def cg1:=kx (P:=dG) (e:=27) (z:=.U 0) (size:=1) (bytes:=8) (by kernel_rfl)
theorem scD(h:p:=by
    have h1:1<=n:=af;obtain⟨i0,hi,iD,fw,fI⟩:=cg1
    first|refine callsIn_of_wp_marks func259 rfl iq ?_ rfl|refine callsIn_of_wp_marks func262 rfl iq ?_ rfl
    simp only[ntmps259,ntmps262,Ep,Nat.reduceAdd,Nat.reduceSub];gi_wp2;let⟨W0,cI⟩:=aG (w.alloc (dO #[aq] kS));have z0:U W0.heap=U w.heap+1:=by rw[cI];simp
    have k0:I W0 (Aw w 0)=aq:=by rw[cI];simp
    have f0:W0.frozen? (Aw w 0)=dF:=by rw[cI];simp
    have MY:=gF cI;rw[<-cI];clear cI;refine wpIn_rangeFunc_ownF (F:=Fence.wide) rfl h1 (gf:=g) (lb:=lb) rfl iq eg Mr (λh k=>h.Z k) (λW l o o' _ hl _ hw=>KeepsWalks.putObj _ hl hw) MY (λ_=>rfl)
      (λpre W=>(∃v,Got kT mR (U w.heap) pre v W)/\Bw w W)
      (λ_ _ _=>False)
      (OwnFrom.and (Own.from (λs A B row hs hg hr=>by obtain⟨v,hv⟩:=hs;exact⟨v,cell_kept hv.cell hg hr,(frozen_kept hv.cell hg hr).Z hv.T,bR4 hv.row hg hr,hv.nil⟩) _) (ownFrom_below aA af))
      (λ_ _ _ _ _ hs _ _=>hs)
      ⟨⟨_,k0,f0,⟨rfl,.L ⟨rfl,rfl⟩⟩,aj⟩,MY⟩
      (λx=>{tmps:=#[aq,.func (.func g) #[] lb,Pz (U w.heap),undef,aq,mR x,.func (.func g) #[] lb,mR x,undef,undef,undef,undef,undef],defers:=[]}) ?assign ?body ?done ?stop
    case assign=>(
 intro l x W K hK
 gi_wp2_with(rw[aU3 _ _ _ (λc h=>by cases h)];go_simp;try go_bits)
 exact hK)
    case body=>(
 rintro L pre x W⟨⟨v,hv⟩,jl⟩jE;have hc:=hv.cell;have hf:=hv.T;have gx:=hv.row;have aH:U w.heap<U W.heap:=jO W _ hc;have ci6:=gx.alloc (dO #[mR x] kT)
 gi_wp2_with(first
   | (gi_at_builtin;refine wpListIn_append_own _ rfl _ _ _ rfl (U w.heap+1) _ i0 _ 1 _ (by first|exact underlying61|exact underlying189) hi iD fw fI rfl bf _ _ _ rfl ci6 ⟨U W.heap,0,dN⟩ 1 1 [mR x] rfl rfl (cell_one_new _ _ _) (by simp[Value.oneCell',mR]) jC af bq ?_;intro v' w3 Ux oF dR9
      have at2:(W.alloc (dO #[mR x] kT)).grownBy w3 v.ownBlock:=oF;have dS0:Y (U w.heap)≠v.ownBlock:=λe=>aK (gx.lt _ e.C).1;have ID:I (W.alloc (dO #[mR x] kT)) (Aw w 0)=Y v:=(Hz (a:=(Aw w 0)) (Xb _ _ _ aH)).Z hc;have UN:(W.alloc (dO #[mR x] kT)).frozen? (Aw w 0)=dF:=(AO (a:=(Aw w 0)) (Xb _ _ _ aH)).Z hf;have aI:w3.heap[U w.heap]?=(W.alloc (dO #[mR x] kT)).heap[U w.heap]?:=at2.block _ bq dS0;have nK:I w3 (Aw w 0)=Y v:=(Hz (a:=(Aw w 0)) aI).Z ID;have rT:w3.frozen? (Aw w 0)=dF:=(AO (a:=(Aw w 0)) aI).Z UN;obtain⟨g',Lc,rfl⟩:∃g' Lc,v'=.T g' (J pre+1) Lc:=by obtain⟨_,h0⟩|⟨g',Lc,_,h',_⟩:=Ux.2;{exact absurd h0 af};{exact⟨g',Lc,h'⟩}
      have HO3:=Hid.ba1 ((KeepsOthers.alloc W (dO #[mR x] kT)).Z (dw8 ci6 at2));have oY:=Hid.ba1 (((jl.alloc jl.size (dO #[mR x] kT)).grown at2 (by have:=jl.size;simp;omega) (λk e=>aK (gx.lt k e).1)));have tF:=Hid.ba1 Ux;clear Ux dR9 oF at2 ID UN aI
      go_frame)
   |(rw[aU3 _ _ _ (λc h=>by cases h)];go_simp;try go_bits))
 refine⟨(Wh HO3).Z (KeepsOthers.setCell _ _ _),((Wh HO3).Z (KeepsOthers.setCell _ _ _)).walks,⟨_,Pw _ _ _ nK,by rw[DJ];exact rT,?_,aj⟩,(Wh oY).setCell (p:=(Aw w 0)) aA _⟩;have hr:=(Wh tF).kept (ei3 w3 (U w.heap) (.T g' (J pre+1) Lc)) (.R (λe=>aK ((Wh tF).lt _ e).1));simpa using hr)
    case done=>(
 rintro D ys W hD hS⟨⟨v,hv⟩,jl⟩hK;have hc:=hv.cell;gi_wp2;refine⟨aj,.L ⟨_,_,rfl,run_takeDeferred hK,?_⟩⟩;exact⟨_,results_tmp rfl _ _ _,v,ys,rfl,hS,bR4 hv.row (cu3 _ _ _) (λr e=>by cases e;exact⟨_,hK,rfl⟩),hv.nil,jl.grown (cu3 _ _ _) jl.size (λk e=>by cases e;omega)⟩)
    case stop=>(
 rintro D c pre W _ _ h _;exact h.elim)):p:=h
def cI3(n:Nat)(i:2<=n)(g:Nat)(lb:iA)(eg:∀args w,(callFunc g args).run dG w=.ok (.enter g args) w)(S Sp:LI->Prop)(N:Nat)(j:N<=1048576)(w:G)(Mr:SeqStopsK Fence.wide (n-1) dG g lb (λx:Int=>#[mR x]) KeepsWalks S Sp N w):CallsIn Fence.wide n dG 259 #[aq,.func (.func g) #[] lb] w λe w'=>∃(v:dV)(ss:LI),e=dR v/\S ss/\w'.ownsRow (U w.heap+1) 27 1 v (J ss) (ss.map mR)/\(v=aq↔ss=[])/\Bw w w':=scD
end Q
namespace T
open Go.Sort
abbrev HT(w:G)(blk off:Nat)(d:Array (List UInt8)):Prop:=Holds (λx:List UInt8=>Value.string ⟨x.toArray⟩) w blk off d
def bN9(cap:Nat)(w:G):Cp 243 #[.S dN 0 cap] w λe w'=>e=dR (dT #[])/\w'=w:=Tryz.slices_Sort_string_none dN cap w
def bO0(blk off cap:Nat)(l:List (List UInt8))(E:Mg (J l))(w:G)(h:HT w blk off l.toArray)(m:blk<U w.heap):Cp 243 #[.S (Ad blk off) (J l) cap] w λe w'=>
   e=dR (dT #[])/\HT w' blk off (l.mergeSort (λx y=>dD (x<=y))).toArray/\w.grownBy w' blk:=by
 refine(Tryz.slices_Sort_string blk off cap l w h m af).h ?_;rintro e w'⟨rfl,n,B,rfl⟩;have r:U (putRow encStr (Sort.ahead w n) blk off (l.mergeSort λx y=>dD (x<=y)).toArray).heap=U w.heap:=by simp[putRow,mapBlock,Sort.ahead]
 have q:∀i,i<U w.heap->(grow (putRow encStr (Sort.ahead w n) blk off (l.mergeSort λx y=>dD (x<=y)).toArray) B).heap[i]?=(putRow encStr (Sort.ahead w n) blk off (l.mergeSort λx y=>dD (x<=y)).toArray).heap[i]?:=λi o=>Array.getElem?_append_left (r▸o);have u:=holds_putRow encStr (Sort.ahead w n) blk off l.toArray (l.mergeSort λx y=>dD (x<=y)).toArray h aj;refine⟨rfl,λj s=>⟨(Hz (a:=(Ad blk (off+j))) (q blk m)).Z (u j s).1,(AO (a:=(Ad blk (off+j))) (q blk m)).Z (u j s).2⟩,rfl,rfl,rfl,by simp[grow,r],λi o D=>(q i o).Z ?_⟩;have:blk≠i:=λe=>D (by rw[e]);simp[putRow,mapBlock,Sort.ahead,AK,this]
theorem aB1:∀x y:List UInt8,Op.bytesLess x y=dD (x<y)
 |[],[]=>by simp[Op.bytesLess]
 |[],b::y=>by simp[Op.bytesLess]
 |a::x,[]=>by simp[Op.bytesLess]
 |a::x,b::y=>by have m:=aB1 x y;simp only[Op.bytesLess,m,List.cons_lt_cons_iff];by_cases j:a<b;{simp[j]};{by_cases i:a=b;{subst i;simp};{simp[j,i]}}
end T
namespace T
open Go.Maps
def mr:Keyed dG 9:=string_keyed underlying9
abbrev mR(x:List UInt8):dV:=.string ⟨x.toArray⟩
def xF{H:Type}(i:DataW H)(left:Lit->Bool)(ss:List (List UInt8)):Prop:=ss.Nodup/\∀x,x∈ss↔(has i (.string x)/\left (.string x)=dF)
def xF.start{H:Type}(i:DataW H):xF i (has i) []:=⟨an1,λx=>by cases has i (.string x)<;>simp⟩
variable {x:List UInt8}{ss:List (List UInt8)}{left:Lit->Bool}
def xF.step{H:Type}{i:DataW H}(h:xF i left ss){y:DataW H}(j:left (.string x))(B:∀r,i.atKey (.string x) r=y):xF i (λz=>left z&&!z.sameKey (.string x)) (ss++[x]):=by
 have D:has i (.string x):=has_true_of_atKey B;have q:x∉ss:=λs=>by have:=((h.2 x).1 s).2;rw[j]at this;cases this
 refine⟨Cd.2 ⟨h.1,aj,λa u b o=>by simp at o;subst o;exactλe=>q (e▸u)⟩,λy=>?_⟩;by_cases m:y=x;{subst m;simp[D,Lit.sameKey]};{simp[h.2 y,m,Lit.sameKey]}
def EH{H:Type}(i:DataW H)(ss:List (List UInt8)):Prop:=ss.Nodup/\(∀x,x∈ss↔has i (.string x))/\J ss<=Maps.size i
def xF.all{H:Type}{i:DataW H}(h:xF i left ss)(o:∀j,left j=dF)(m:J ss<=Maps.size i):EH i ss:=⟨h.1,(λx=>by rw[h.2 x,o];simp),m⟩
abbrev kT:TypeId:=9
def aZ5{key:dV}{kl:Lit}(h:keyOf dG 9 key=kl):=Maps.keyOf_str underlying9 h
def ce5{H:Type}(n:Nat)(q:1<=n)(l o b nn:Nat)(D0:DataW H){R:dV->Option (DataW H×List MemPlace)}(iJ m:List (List UInt8)->G->Prop)(hY:∀i x W,iJ i W->J i<Maps.size D0->YieldAt Fence.wide (n-1) dG l #[mR x] W λe j=>(e=dR (.bool dY)/\iJ (i++[x]) j/\KeepsWalks W j)\/(e=dR (.bool dF)/\m (i++[x]) j))(W:G)(hJ:AbidesFrom (U W.heap) iJ)(hm:I W (Ad o 0)=Y (.map b))(cX:W.ownsMap dG 9 R b nn D0)(h0:iJ [] W):CallsIn Fence.wide n dG 244 #[.func (.yield l) #[] #[],Pz o] W λe j=>(∃v,e=dR v)/\((∃ss:List (List UInt8),EH D0 ss/\iJ ss j)\/(∃i,m i j)):=Q.scA
def ce4(n:Nat)(i:Option Nat)(w:G):CallsIn Fence.wide n dG 202 #[.map i] w λe w'=>e=dR (.func (.func 244) #[] #[Pz (U w.heap)])/\w'=w.alloc (dO #[.map i] 179):=Q.scB
def bM2{H:Type}(n:Nat)(hn:1<=n)(Bm b nn:Nat)(D0:DataW H){R:dV->Option (DataW H×List MemPlace)}(w:G)(QM:Bm<U w.heap)(hm:I w (Ad Bm 0)=Y (.map b))(cX:w.ownsMap dG 9 R b nn D0):SeqStopsK Fence.wide n dG 244 #[Pz Bm] (λx:List UInt8=>#[mR x]) KeepsWalks (EH D0) (λ_=>True) (Maps.size D0) w:=Q.scC
end T
namespace T
open Go.Maps Go.Proofs.YtdloolggnjjfoaaGreatDoor.Q
abbrev kS:TypeId:=189
def cg1:=kx (P:=dG) (e:=9) (z:=.string ⟨#[]⟩) (size:=1) (bytes:=16) (by kernel_rfl)
def cI3(n:Nat)(i:2<=n)(g:Nat)(lb:iA)(eg:∀args w,(callFunc g args).run dG w=.ok (.enter g args) w)(S Sp:List (List UInt8)->Prop)(N:Nat)(j:N<=1048576)(w:G)(Mr:SeqStopsK Fence.wide (n-1) dG g lb (λx:List UInt8=>#[mR x]) KeepsWalks S Sp N w):CallsIn Fence.wide n dG 262 #[aq,.func (.func g) #[] lb] w λe w'=>∃(v:dV)(ss:List (List UInt8)),e=dR v/\S ss/\w'.ownsRow (U w.heap+1) 9 1 v (J ss) (ss.map mR)/\(v=aq↔ss=[])/\Bw w w':=Q.scD
end T
structure SD where
 e:Int
 g:Int
 x:Int
 t:Int
 E:List aB
 N:List ar
def jF(ids:LI)(id:Int):LI:=ids.filter λx=>!(x==id)
def mh:LI->Int->LI
 |[],id=>[id]
 |x::r,id=>if id<=x then id::jF (x::r) id else x::mh r id
def tS(q:List Ev)(ev:Ev):List Ev:=if J q<7 then q++[ev]else if J q=7 then q++[(4,[])]else q
def Ed(ss:List aB)(id:Int)(ev:Ev):List aB:=ss.map λs=>if s.1=id then(s.1,s.2.1,tS s.2.2 ev)else s
def we(ss:List aB)(ids:LI)(ev:Ev):List aB:=ids.foldl (λss id=>Ed ss id ev) ss
def jV(D:SD)(k:Nat)(i:Int):SD:=match D.N[k]? with
 |none=>D
 |some j=>{D with E:=we D.E j.X (i,j.A),N:=D.N.set k {j with X:=[]}}
def xH(D:SD)(k:Nat):SD:={D with N:=D.N.eraseIdx k}
def jR(D:SD)(k:Nat)(id:Int):SD:=match D.N[k]? with
 |none=>D
 |some i=>if i.y.contains id then(if jF i.y id=[]then jV {D with N:=D.N.set k {i with y:=[],M:=0,P:=0,F:=0}} k 3 else{D with N:=D.N.set k {i with y:=jF i.y id}})else D
end Go.Proofs.YtdloolggnjjfoaaGreatDoor
