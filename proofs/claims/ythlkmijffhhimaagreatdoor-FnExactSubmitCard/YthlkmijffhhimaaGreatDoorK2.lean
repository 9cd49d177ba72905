import Derived.Test.YthlkmijffhhimaaGreatDoorK0
import Derived.Test.YthlkmijffhhimaaGreatDoorVPy
import Derived.Lib.EndianBits
import Derived.Laws.Closers25b
import Derived.Maps.RangeWalk
import Derived.Maps.Ext
import Derived.Lib.BytesEntry
import Derived.Laws.Externs
open Array renaming size->U
open Bool renaming false->dF,true->dY
open Decidable renaming decide->dD
open Go renaming Calls->dQ,Value->dV,World->G
open Go.Ending renaming returned->dR
open Go.IntKind renaming u64->jU,i64->jV,wrap->jY
open Go.Obj renaming cells->dO
open Go.Proofs.Tryz renaming prog->dG
open Go.Region renaming wanted->jW
open Go.RowKit renaming Hid->O
open Go.Value renaming ownBlock->jB,int->jK,bool->jO,agg->jP,I->dI,pointer->dP,S->dS,tuple->dT,U->dU
open Go.World renaming alloc->jA,frozen?->jF,grownBy->jG,heap->Q,setCell->jS,cell?->I
open Int renaming toNat->jN
open List renaming drop->jD,getD->jE,flatten->jL,range->jR,take->jT,length->J
open Option renaming none->dN,some->Y
namespace Go.Proofs.YthlkmijffhhimaaGreatDoor
set_option maxHeartbeats 4000000
set_option linter.all false
set_option maxRecDepth 100000
open Go.ChangeShapes Go.WideShapes Go.ChangeAt Go.RowKit Go.Proofs.Tryz
def sK:Nat->Nat->LI
 |0,n=>[(n:Int)]
 |f+1,n=>if n<128 then[(n:Int)]else((n % 128+128:Nat):Int)::sK f (n / 128)
def vi(n:Nat):LI:=sK 9 n
variable {n g c N a j k m d sz base bytes:Nat}{l lm l0 l1 l2 t ns ids s:LI}{w w1 w':G}{vs xs news:List dV}{v0 v1 v2 v S z:dV}{p q pp:OA}{b B:Bool}{x e:Int}{f:Nat->Bool}{ps:List MemPlace}{D:DataW Unit}{o:Oper}{K:Act->G->Prop}{P:Program}{ops:iQ}{E:Prop}{R:Ending->G->Prop}{ud:Array TypeId}{kd:IntKind}{rest:List Oper}
theorem aN4{f:Nat}(h:n<128):sK f n=[(n:Int)]:=by
 cases f with
 |zero=>rfl
 |succ f=>rw[sK,aK h]
theorem aN5{f:Nat}(h:¬n<128):sK (f+1) n=((n % 128+128:Nat):Int)::sK f (n / 128):=by rw[sK,aJ h]
theorem bQ0(f:Nat):∀n,1<=J (sK f n)/\J (sK f n)<=f+1:=by
 induction f with
 |zero=>intro n;simp[sK]
 |succ f ih=>
  intro n;rw[sK];split;{simp};{have:=ih (n / 128);simp;omega}
theorem dh7(f:Nat):∀n,n<128 ^ (f+1)->aD (sK f n):=by
 induction f with
 |zero=>intro n j z i;simp[sK]at i;subst i;simp at j;omega
 |succ f ih=>
  intro n j;rw[sK];split;{intro z i;simp at i;subst i;omega};{intro z i;obtain rfl|i:=gD.1 i;{omega};{exact ih (n / 128) (by rw[bc6 af];rw[Zn]at j;exact j) z i}}
theorem CH(h:n<2^64):aD (vi n):=dh7 9 n (by omega)
theorem qK(n:Nat):1<=J (vi n)/\J (vi n)<=10:=bQ0 9 n
theorem aD.app{m:LI}(h:aD l)(k:aD m):aD (l++m):=λz i=>by
 obtain i|i:=jl.1 i;{exact h z i};{exact k z i}
theorem dF5:((jR 256).all λy=>bits .or .u8 (y:Int) 128==((y % 128+128:Nat):Int)):=by decide +kernel
theorem dF6{x:Nat}:bits .or .u8 ((x:Int) % 256) 128=((x % 128+128:Nat):Int):=by
 rw[show((x:Int) % 256)=((x % 256:Nat):Int) by omega,Gi.1 (mL.1 dF5 (x % 256) (xK.2 (Nat.mod_lt _ af)))];congr 1;omega
theorem bf4(f:Nat):∀(v:Nat)(w:G),v<128 ^ (f+1)->v<2^64->f<=9->∀(N:Nat),O (J (sK f v)=N)→
  dQ dG 98 #[.U v] w λe w'=>∃p' c',e=dR (.S p' N c')/\Own (U (Q w)) w' (.S p' N c') (sK f v)/\Bw w w':=by
 induction f with
 |zero=>
  intro v w q IF hf N i;cases(by rw[<-ae i];rfl:N=1);have h':(v:Int)<128:=af;have wv:IntKind.u8.wrap (v:Int)=(v:Int):=by rw[LK];omega
  go_in;go_wp2;go_ret;exact⟨_,_,rfl,(by have:=Own.one w (v:Int);exact this),cY⟩
 |succ f ih=>
  intro v w q IF hf N i;by_cases h:v<128;{
 have e:sK (f+1) v=[(v:Int)]:=aN4 h;cases(by rw[<-ae i,e];rfl:N=1);rw[e];have h':(v:Int)<128:=af;have wv:IntKind.u8.wrap (v:Int)=(v:Int):=by rw[LK];omega
 clear e i ih;go_in;go_wp2;go_ret;exact⟨_,_,rfl,(by have:=Own.one w (v:Int);exact this),cY⟩};{
 have h':¬(v:Int)<128:=af;let⟨V,u⟩:=bu (v / 128);have hd:(v:Int) / 128=(V:Int):=af;have xY:V<128 ^ (f+1):=by rw[<-u,bc6 af];rw[Zn]at q;exact q
 let⟨M,j⟩:=bu (J (sK f V));have hM:=bQ0 f V;have e:sK (f+1) v=[((v % 128+128:Nat):Int)]++sK f V:=by rw[aN5 h,u];rfl
 obtain⟨y,ey⟩:∃y:Int,(v:Int) % 128+128=y:=⟨_,rfl⟩;have r:(((v % 128+128:Nat)):Int)=y:=by rw[<-ey];omega
 rw[r]at e;have WE:N=1+M:=by rw[<-ae i,e,fe,j];rfl
 let⟨W,EE,X⟩:=gC (λw=>ih V w xY af af M j) e j;rw[j]at hM;clear e u ih i j;go_in
 go_wp21
 try rw[hd]
 try rw[ey]
 refine(ae W _).h ?_;rintro e w1⟨p1,c1,rfl,o1,E⟩;have R:=Own.H (Own.one w y) E;have D:=aj cY E;have z1:=D.size;have Z:=o1.rd;clear E o1;go_wp2_with(at_builtin;refine D4 rfl rfl (.T (U (Q w)) 1 1) EE p1 c1 M X rfl rfl R Z (by rw[ae X];simp;omega) af ?_);intro p2 c2 w2 o2 fx;have b2:=Ct D fx R aU af;have eL:J (sK (f+1) v)=N:=by rw[ae EE,fe,ae X,WE];rfl
 rw[eL]at o2⊢;clear fx R Z D;go_wp2;go_ret;exact⟨p2,c2,rfl,o2,b2⟩}
theorem Va{v:Nat}(IF:v<2^64):dQ dG 130 #[.U v] w λe w'=>∃p' c',e=dR (.S p' (J (vi v)) c')/\Own (U (Q w)) w' (.S p' (J (vi v)) c') (vi v)/\Bw w w':=by
 go_in;go_wp2
 go_loopw[0,3](λnv ov wr=>∃(x f N:Nat)(j:LI)(r:OA)(R:Nat),nv=.U x/\x<2^64/\O (x<128 ^ (f+1))/\N+f<=9/\ov=.S r N R/\Le j N/\O (vi v=j++sK f x)/\Ow w wr (.S r N R) j/\Bw w wr) (λnv _ _=>jN (intOf nv))
 exact⟨v,9,0,[],dN,0,rfl,IF,(by show _<_;omega),af,rfl,rfl,rfl,qe _ _ _ _,bD _ _⟩;{
 obtain⟨x,f,N,j,r,R,rfl,hx,u,hNf,rfl,eN,eV,ho,W⟩:=hrel;have zr:=W.size;by_cases h:x<128;{
 have h':¬(128:Int)<=(x:Int):=af;have wx:IntKind.u8.wrap (x:Int)=(x:Int):=by rw[LK];omega
 have eE:O (vi v=j++[(x:Int)]):=ai (by rw[ae eV,aN4 h]);go_wp2_with(at_builtin;refine U7 rfl rfl (.S r N R) eE (U (Q wr)) rfl rfl (Own.H ho cY) al (by rw[ae eN];omega) bL ?_);intro p2 c2 w2 Z D;have b2:Bw w w2:=(W.alloc W.size _).grown D bL (λk hk=>(ho.lt k hk).1);clear D;go_wp2;go_ret;exact⟨p2,c2,rfl,Z,b2⟩};{
 have h':=gS 128 x;obtain⟨q,rfl⟩:∃q,f=q+1:=by
  cases f with
  |zero=>have:=ae u;simp at this;omega
  |succ q=>exact⟨q,rfl⟩
 let⟨X,eX⟩:=bu (x / 128);have hX:O (X<128 ^ (q+1)):=by show _<_;have:=ae u;rw[<-eX,bc6 af];rw[Zn]at this;exact this
 obtain⟨y,E⟩:∃y:Int,((x % 128+128:Nat):Int)=y:=⟨_,rfl⟩;have JU:=dF6 (x:=x);rw[E]at JU;have hd:(x:Int) / 128=(X:Int):=af;have M:O (vi v=(j++[y])++sK q X):=ai (by rw[ae eV,aN5 h,eX,E];simp);have hXx:X<x:=af;have hy:E=E:=rfl;let⟨V,m⟩:=aF (j++[y]);have eP:=ai m;have MJ:O (J V=N+1):=ai (by rw[m,fe,ae eN];rfl);rw[<-m]at M;clear m eX E hy;go_wp2_with(at_builtin;refine U7 rfl rfl (.S r N R) eP (U (Q wr)) rfl rfl (Own.H ho cY) al (by rw[ae eN];omega) bL ?_);intro p2 c2 w2 Z D;have b2:Bw w w2:=(W.alloc W.size _).grown D bL (λk hk=>(ho.lt k hk).1);rw[ae MJ]at Z⊢;clear D;go_wp2;go_roundw;exact⟨X,q,N+1,V,p2,c2,by go_num,af,hX,af,rfl,MJ,M,Z,b2⟩
 case measure=>simp[intOf];omega}}
theorem Gt(ls:List LI)(k:Nat)(s:O (k=J ls))(e:O (lm=cat ls))(r:Le lm n)(h:xx w g vs ls)(q:n<=2^22)(M:k<=10):dQ dG 129 #[.T g k k] w λe w'=>∃i j,e=dR (.S i n j)/\Own (U (Q w)) w' (.S i n j) lm/\Bw w w':=by
 have y:=ae s;have x:=ae e;have u:=ae r;subst y u x;go_in
 go_wp21
 refine(bA6 h q af).h ?_;rintro e E⟨m,B,rfl,o,D⟩;go_wp2;go_ret;exact⟨m,B,rfl,o,D⟩
theorem cd2(s:I w (Ad g 0)=v0)(r:I w (Ad g 1)=v1)(q:Rd w v0 l0)(o:Rd w v1 l1):xx w g [v0,v1] [l0,l1]:=by
 refine⟨rfl,λj v x m i=>?_⟩
 match j,m,i with
 |0,m,i=>simp at m i;subst m i;exact⟨s,q⟩
 |1,m,i=>simp at m i;subst m i;exact⟨r,o⟩
theorem cd1{v3 v4:dV}{q o:LI}(R:I w (Ad g 0)=v0)(N:I w (Ad g 1)=v1)(M:I w (Ad g 2)=v2)(E:I w (Ad g 3)=v3)(D:I w (Ad g 4)=v4)(B:Rd w v0 l0)(y:Rd w v1 l1)(u:Rd w v2 l2)(s:Rd w v3 q)(r:Rd w v4 o):xx w g [v0,v1,v2,v3,v4] [l0,l1,l2,q,o]:=by
 refine⟨rfl,λj v x m i=>?_⟩
 match j,m,i with
 |0,m,i=>simp at m i;subst m i;exact⟨R,B⟩
 |1,m,i=>simp at m i;subst m i;exact⟨N,y⟩
 |2,m,i=>simp at m i;subst m i;exact⟨M,u⟩
 |3,m,i=>simp at m i;subst m i;exact⟨E,s⟩
 |4,m,i=>simp at m i;subst m i;exact⟨D,r⟩
theorem eQ9(a b:LI):cat [a,b]=a++b:=by simp[cat]
theorem eQ6(a b c d e:LI):cat [a,b,c,d,e]=a++(b++(c++(d++e))):=by simp[cat]
def tx(l:LI):LI:=vi (J l)++l
theorem Jp(l:LI):J l+1<=J (tx l)/\J (tx l)<=J l+10:=by
 have:=qK (J l);rw[tx,fe];omega
theorem aw1(j:Le l n)(h:Rd w (.S p n c) l)(hl:Mg n)(V:O (J (tx l)=N)):dQ dG 99 #[.S p n c] w λe w'=>∃p' c',e=dR (.S p' N c')/\Own (U (Q w)) w' (.S p' N c') (tx l)/\Bw w w':=by
 let⟨M,i⟩:=bu (J (vi n));have hM:=qK n;rw[i]at hM
 change O _ at i
 have hN:M+n=N:=by rw[<-ae V,tx,fe,ae j,ae i]
 have wn:jY jU (n:Int)=(n:Int):=by rw[wV];omega
 have EE:O (tx l=vi n++l):=ai (by rw[tx,ae j]);go_in
 go_wp21
 refine(bf4 9 n _ af af af M i).h ?_;rintro e X⟨y,W,rfl,E,q⟩;have u:=h.H q;have z1:=q.size;have r:Ow w X (.S y M W) (vi n):=E;clear E h;go_wp2_with(at_builtin;refine D4 rfl rfl (.S y M W) EE p c n j rfl rfl r u (by rw[ae i,ae j];omega) af ?_);intro Z c2 w2 D R;have b2:=Ct q R r aU af;rw[ae V]at D⊢;clear R r u q;go_wp2;go_ret;exact⟨Z,c2,rfl,D,b2⟩
theorem ap2(x:Le l n)(h:Rd w (.S p n c) l)(hl:Mg n)(y:O (J (tx l)=N)):dQ dG 196 #[.S p n c] w λe w'=>∃s D,e=dR (.S s N D)/\Own (U (Q w)) w' (.S s N D) (tx l)/\Bw w w':=by
 let⟨M,i⟩:=bu (J (vi n));have X:=qK n;rw[i]at X
 change O _ at i
 have hN:M+n=N:=by rw[<-ae y,tx,fe,ae x,ae i]
 have wn:jY jU (n:Int)=(n:Int):=by rw[wV];omega
 go_in
 go_wp21
 refine(Va af).h ?_;rintro e R⟨V,Z,rfl,m,j⟩;rw[ae i]at m⊢;have q:=h.H j;have z1:=j.size;have rv:=m.rd;clear m h
 go_wp21
 refine(Gt (g:=U (Q R)) (vs:=[.S V M Z,.S p n c]) [vi n,l] (lm:=tx l) (n:=N) 2 rfl (ai (by rw[eQ9,tx,ae x])) y (cd2 al al (rv.H cY) (q.H cY)) af af).h ?_;rintro e o⟨r,B,rfl,u,E⟩;have b2:Bw w o:=aj (aj j cY) E;have W:Ow w o (.S r N B) (tx l):=Own.h u bL;clear u E q rv j;go_wp2;go_ret;exact⟨r,B,rfl,W,b2⟩
theorem drop_cons(h:a<J l):jD a l=jE l a 0::jD (a+1) l:=by
 rw[Lx h];simp[List.getD,h]
theorem do9(y:st k (jD a l)=b)(u:a<J l)(r:jE l a 0=47)(m:∀x∈jT j (jD (a+1) l),ni x)(B:a+1+j<=J l)(i:a+1+j=J l\/jE l (a+1+j) 0=47):b=(qQ (jT j (jD (a+1) l))&&st (k+1) (jD (a+1+j) l)):=by
 rw[<-y,drop_cons u,r];have e:jD (a+1) l=jT j (jD (a+1) l)++jD (a+1+j) l:=by have e:=(JN j (jD (a+1) l)).C;rw[Ly]at e;exact e
 by_cases s:a+1+j=J l;{
 have q:jD (a+1+j) l=[]:=VW af;rw[q,Da]at e;rw[q]
 conv=>lhs;rw[e]
 exact dp2 m};{
 obtain h|h:=i;{exact absurd h s};{
 have o:=drop_cons (l:=l) (a:=a+1+j) af;rw[h]at o;rw[o]at e⊢
 conv=>lhs;rw[e]
 exact dp1 m}}
theorem do8(u:st k (jD a l)=b)(s:a<J l)(m:jE l a 0=47)(i:∀x∈jT j (jD (a+1) l),ni x)(q:a+1+j<J l)(o:¬jE l (a+1+j) 0=47)(r:ni (jE l (a+1+j) 0)=dF):b=dF:=by
 rw[<-u,drop_cons s,m];have e:jD (a+1) l=jT j (jD (a+1) l)++jD (a+1+j) l:=by have e:=(JN j (jD (a+1) l)).C;rw[Ly]at e;exact e
 rw[drop_cons q]at e;rw[e];exact dp3 i o r
def XD(l:LI)(a B:Nat)(w:G)(vs:List dV):Prop:=(vs=[]/\a=0)\/∃s j v,vs.getLast?=Y v/\a=s+1+j/\jE l s 0=47/\(∀y∈jT j (jD (s+1) l),ni y)/\Own B w v (jT j (jD (s+1) l))
def cU1(l:LI)(B:Nat)(w:G)(vs:List dV):Prop:=∃s v,vs.getLast?=Y v/\s<J l/\jE l s 0=47/\(∀y∈jD (s+1) l,ni y)/\Own B w v (jD (s+1) l)
theorem XD.fin{B:Nat}(h:XD l n B w vs)(y:J l=n)(o:AM B w v k vs)(u:1<=k):cU1 l B w vs:=by
 obtain⟨rfl,-⟩|⟨s,j,v,r,x,q,m,i⟩:=h;{have:=o.1;simp at this;omega};{rw[nZ bL]at m i;exact⟨s,v,r,af,q,m,i⟩}
theorem XD.app{i:LI}{t B C:Nat}{m:G}{r:dV}(E:t=a+1+j)(x:jE l a 0=47)(R:i=jT j (jD (a+1) l))(s:∀y∈i,ni y)(q:Own C w v i)(hb:Bw w w1)(M:jG w1 m (jB r))(hr:∀b,jB r=Y b->b<C)(N:B<=C):XD l t B m (vs++[v]):=by
 subst R;refine .R ⟨a,j,v,al,E,x,s,Own.h ((Own.H q hb).L5 (Kept.aW8 (vs:=[r]) M al) (λu o b hb e=>?_)) N⟩;simp at o;subst o;have:=hr b e;have:=(q.lt b hb).1;omega
def NmE(l:LI)(C:Nat)(B:Bool)(e:Ending)(w':G):Prop:=B->∃p k c i,e=dR (dT #[.S p k c,jO dY])/\AM C w' (.S p k c) k i/\1<=k/\cU1 l C w' i
theorem cl7(r:Le l n)(h:Rd w (.S p n c) l)(hb:aD l)(hl:Mg n)(eB:O (vp l=B)):dQ dG 168 #[.S p n c] w λe w'=>NmE l (U (Q w)) B e w'/\(∃v,e=dR (dT #[v,jO B]))/\Bw w w':=by
 have HR:=ai h;clear h hb;go_in;go_wp2
 go_loopw[4,5](λov i wr=>∃(a k:Nat)(pv:OA)(cv:Nat)(vs:List dV),a<=n/\i=.I a/\ov=.S pv k cv/\k<=a/\O (st k (jD a l)=B)/\AM (U (Q w)) wr (.S pv k cv) k vs/\O (XD l a (U (Q w)) wr vs)/\Bw w wr) (λ_ i _=>n-(jN (intOf i)))
 exact⟨0,0,dN,0,[],de _,rfl,rfl,fS _,(ai (by exact eB)),AM.nil _ _,ai (.L ⟨rfl,rfl⟩),bD _ _⟩;{
 obtain⟨a,k,pv,cv,vs,ha,rfl,rfl,hka,cK,ho,hLN,aC⟩:=hrel;have BQ:=aC.size;by_cases aH:a<n;{
 have dm:=cM a n;obtain⟨b,o,rfl,-,hc⟩:=HR.at (by rw[ae r];omega);have jd:∀(i:Nat)(w':G),i<n->Bw w w'->I w' (Ad b (o+i))=Y (jK .u8 (jE l i 0)):=λi w' hi aR=>(aR.cell (p:=(Ad b (o+i))) (my w _ (hc i (ae r▸hi)))).Z (hc i (ae r▸hi));have HC:=ai jd;have hca:=jd a wr aH aC;clear hc jd;let⟨x,ex⟩:=bu (jE l a 0);rw[ex]at hca;have EX:=ai ex;clear ex;by_cases lu:x=47;{
 subst lu
 go_wp21
 go_loopw[5,6](λi nv w2=>∃(t j:Nat)(pn:OA)(cn:Nat)(m:LI),O (t=a+1+j)/\t<=n/\a<t/\j<t/\i=.I t/\nv=.S pn j cn/\O (m=jT j (jD (a+1) l))/\Le m j/\O (∀y∈m,ni y)/\Ow wr w2 (.S pn j cn) m/\Bw wr w2) (λi _ _=>n-(jN (intOf i)))
 exact⟨a+1,0,dN,0,[],rfl,af,af,af,by go_num,rfl,rfl,rfl,(by intro y hy;simp at hy),qe _ _ _ _,bD _ _⟩;{
 obtain⟨t,j,pn,cn,m,ht,htn,fL,hjt,rfl,rfl,Ko,E,qB,hon,aA⟩:=hrel;have gv:=aA.size;have bb2:=aj aC aA;have kU:=ho.H aA;have az6:(t=n\/jE l t 0=47)->B=(qQ m&&st (k+1) (jD t l)):=λhe=>by have:=do9 (j:=j) cK (ae r▸aH) EX (ae Ko▸ae qB) (by rw[ae r,<-ae ht];exact htn) (by rw[ae r,<-ae ht];exact he);rw[<-ae Ko,<-ae ht]at this;exact this
 have fU:(1<=j/\j<=16->qQ m)/\(¬(1<=j/\j<=16)->qQ m=dF):=by rw[qQ,ae E,mL.2 qB];constructor;{rintro⟨V,h2⟩;simp[V,h2]};{intro h;simp;omega}
 let⟨HE,HK⟩:=aQ az6 fU;clear az6 fU;by_cases gi:t<n;{
 have ab6:=cM t n;have OQ:=ae HC t wr gi bb2;let⟨z,W⟩:=bu (jE l t 0);rw[W]at OQ
 change O _ at W
 by_cases R:z=47;{subst R;have he:=ae HE (.R W);exact zs6};{
 have fu0:(z != 47):=by simp[R]
 go_wp21
 refine(dQ5).h ?_;rintro e w3⟨rfl,rfl⟩;by_cases D:ni z=dY;{
 rw[D];have cG6:O (m++[z]=jT (j+1) (jD (a+1) l)):=by
  show _=_;have e1:(jD (a+1) l)[j]?=z:=by rw[NK,<-ae ht,<-ae W];simp[List.getD,ae r,gi]
  rw[rD,e1,ae Ko];rfl
 have M:O (J (m++[z])=j+1):=ai (by rw[fe,ae E];rfl);have cr9:O (∀y∈m++[z],ni y):=by intro y hy;obtain h|h:=jl.1 hy;{exact qB y h};{simp at h;rw[h];exact D}
 let⟨nm2,N⟩:=aF (m++[z]);rw[<-N]at cG6 M cr9;have sE:=ai N;clear N kU;go_wp2_with(at_builtin;refine U7 rfl rfl (.S pn j cn) sE (U (Q w3)) rfl rfl (Own.H hon cY) al (by rw[ae E];omega) bL ?_);intro p' c' w4 Z nC;have b4:=(aA.alloc aA.size _).grown nC bL (λk hk=>(hon.lt k hk).1);rw[ae M]at Z⊢;clear nC;go_wp2;go_roundw;exact⟨t+1,j+1,p',c',nm2,(ai (by have:=ae ht;omega)),af,af,af,by go_num,rfl,cG6,M,cr9,Z,b4⟩;exact dy};{
 have X:ni z=dF:=by simpa using D
 rw[X];have eF:B=dF:=by have e:=ae ht;exact do8 (j:=j) cK (ae r▸aH) EX (ae Ko▸ae qB) (by rw[ae r,<-e];exact gi) (by rw[<-e,ae W];exact R) (by rw[<-e,ae W];exact X)
 subst eF;go_wp2;go_ret2;exact⟨(λh=>by cases h),⟨_,rfl⟩,bb2⟩}}};{have ab6:=ga t n;have he:=ae HE (.L af);exact zs6}}};{
 have Ie:(x != 47):=by simp[lu]
 have eF:B=dF:=by rw[<-ae cK,drop_cons (ae r▸aH),ae EX];exact bT4 lu
 subst eF;go_wp2;go_ret2;exact⟨(λh=>by cases h),⟨_,rfl⟩,aC⟩}};{have e:a=n:=af;have dm:=ga a n;have AH:=ae cK;rw[VW (by rw[ae r];omega),st]at AH;by_cases V:1<=k;{by_cases h8:k<=8;{have Cm:=gS 1 k;have Ts:(k:Int)<=8:=af;cases(by rw[<-AH];simp[V,h8]:B);subst e;go_wp2;go_ret2;exact⟨λ_=>⟨pv,k,cv,vs,rfl,ho,V,hLN.fin r ho V⟩,⟨_,rfl⟩,aC⟩};{have Cm:=gS 1 k;have Ts:¬(k:Int)<=8:=af;cases(by rw[<-AH];simp[h8]:B=dF);go_wp2;go_ret2;exact⟨(λh=>by cases h),⟨_,rfl⟩,aC⟩}};{have Cm:¬(1:Int)<=(k:Int):=af;cases(by rw[<-AH];simp[V]:B=dF);go_wp2;go_ret2;exact⟨(λh=>by cases h),⟨_,rfl⟩,aC⟩}}}
theorem dQ4(m:Le l n)(h:Rd w (.S p n c) l)(j:aD l)(i:Mg n)(o:O (vp l=B)):Cp 168 #[.S p n c] w λe w'=>(∃v,e=dR (dT #[v,jO B]))/\Bw w w':=(cl7 m h j i o).h λ_ _ h=>h.2
theorem bQ1(u:Le l n)(h:Rd w (.S p n c) l)(hl:n<=2^21)(V:O (qQ l=B)):dQ dG 252 #[.S p n c] w (Rb (jO B) w):=by
 have HR:=ai h;clear h;by_cases h1:1<=n;{
 by_cases E:n<=16;{
 let⟨Cm,es9⟩:¬(n:Int)<1/\¬(16:Int)<(n:Int):=af;obtain⟨b,o,rfl,-,hc⟩:=HR.at (by rw[ae u];omega);go_enter Tryz.func252,Tryz.ntmps252;have jd:∀(i:Nat)(W:G),i<n->Bw w W->I W (Ad b (o+i))=Y (jK .u8 (jE l i 0)):=λi W D aR=>(aR.cell (p:=(Ad b (o+i))) (my w _ (hc i (ae u▸D)))).Z (hc i (ae u▸D));have HC:=ai jd;clear hc jd;go_wp2
 go_loopw[17](λi wr=>∃k:Nat,k<=n/\i=.I k/\O (∀j,j<k->ni (jE l j 0))/\Bw w wr) (pT n)
 exact⟨0,de _,rfl,(λj hj=>af),bD _ _⟩;{
 obtain⟨k,hk,rfl,fU,M⟩:=hrel;by_cases aH:k<n;{
 have dm:=cM k n;have sk:=ae HC k wr aH M;let⟨z,ez⟩:=bu (jE l k 0);rw[ez]at sk;have EZ:=ai ez;clear ez;have r:ni z->O (∀j,j<k+1->ni (jE l j 0)):=λX j hj=>by by_cases e:j=k;{rw[e,ae EZ];exact X};{exact fU j af}
 have s:ni z=dF->B=dF:=λX=>by
  rw[<-ae V,qQ];have:l.all ni=dF:=by rw[Zo];refine⟨z,?_,by simp[X]⟩;rw[<-ae EZ];have OI:k<J l:=ae u▸aH;rw[show jE l k 0=l[k] by simp[List.getD,OI]];exact De OI
  rw[this];simp
 obtain⟨R,g2,m⟩|⟨g2,m⟩|⟨N,g4,m⟩|⟨rfl,m⟩|⟨g4,R,Z,m⟩|⟨rfl,m⟩|⟨N,g5,m⟩:=cf8 z;{have y:=r m;clear r s;let⟨N,g4⟩:(48:Int)<=z/\¬z<=57:=af;go_wp2;go_roundw;exact⟨k+1,af,by go_num,y,M⟩;exact dy};{
 cases s m;clear r s;let⟨R,g2',N,g4⟩:(97:Int)<=z/\¬z<=122/\(48:Int)<=z/\¬z<=57:=af;have g5:(z != 45):=by simp;omega
 have Z:(z != 95):=by simp;omega
 exact aV};{have y:=r m;clear r s;have R:¬(97:Int)<=z:=af;go_wp2;go_roundw;exact⟨k+1,af,by go_num,y,M⟩;exact dy};{have y:=r m;clear r s;go_wp2;go_roundw;exact⟨k+1,af,by go_num,y,M⟩;exact dy};{
 cases s m;clear r s;let⟨WQ,N,g4'⟩:¬(97:Int)<=z/\(48:Int)<=z/\¬z<=57:=af;have g5:(z != 45):=by simp;omega
 have g6':(z != 95):=by simp[Z]
 exact aV};{have y:=r m;clear r s;go_wp2;go_roundw;exact⟨k+1,af,by go_num,y,M⟩;exact dy};{
 cases s m;clear r s;let⟨R,g3'⟩:¬(97:Int)<=z/\¬(48:Int)<=z:=af;have g5':(z != 45):=by simp[g5]
 have Z:(z != 95):=by simp;omega
 exact aV}};{
 have dm:=ga k n;have e:k=n:=af;have eT:B:=by
  rw[<-ae V,qQ,ae u];have:l.all ni:=by rw[mL];intro x hx;obtain⟨i,D,rfl⟩:=RJ hx;have:=ae fU i (by rw[ae u]at D;omega);rwa [show jE l i 0=l[i] by simp[List.getD,D]]at this
  simp[h1,E,this]
 subst eT;exact aV}}};{have Cm:¬(n:Int)<1:=af;have es9:=uX 16 n;cases(by rw[<-ae V,qQ,ae u];simp[E]:B=dF);go_enter Tryz.func252,Tryz.ntmps252;exact aV}};{have Cm:(n:Int)<1:=af;cases(by rw[<-ae V,qQ,ae u];simp[h1]:B=dF);go_enter Tryz.func252,Tryz.ntmps252;exact aV}
variable {b:Nat}
theorem dq2{o:Nat}(Z:J t=n)(hc:∀i,i<n->I w (Ad b (o+i))=Y (jK .u8 (jE t i 0)))(hg:I w (Ad g 0)=Y (jK .u8 47))(B:aD t)(W:n<=c)(M:c<=maxLen)(hl:n<=2^21)(hm:∃m,I w (Ad 2 0)=dI m){K:Nat}(eK:J (gR 47 t)=K):dQ dG 251 #[.S (Ad b o) n c,.T g 1 1] w λe w'=>e=dR (.T (U (Q w)) K K)/\(∀j r,(gR 47 t)[j]?=Y r->∃R c',I w' (Aw w j)=dS R (J r) c'/\Rd w' (.S R (J r) c') r)/\Bw w w':=by
 obtain⟨m,hm⟩:=hm;have x:∀(g o i:Nat),((Ad g o):Addr).add i=(Ad g (o+i)):=λg o i=>by
  unfold Addr.add;split;{next h=>subst h;rfl}
  {rfl}
 let⟨e1,e2⟩:=bT8 B;refine(Any.bytes_Split Tryz.layS7 (Ad b o) (Ad g 0) n c 1 1 t [47] m w Z rfl B (by intro y V;simp at V;subst V;decide) (λi u=>by rw[x];exact hc i u) (λi u=>by cases(af:i=0);exact hg) W af bf (by unfold maxLen at M;omega) bf hm).h ?_
 rintro e w'⟨rfl,q,rfl⟩;have Pa:Bw w ((jA w (dO (Lib.splitV (Lib.bytesOf [47]) 0 (Lib.count (Lib.bytesOf t) (Lib.bytesOf [47])) (Ad b o) c (Lib.bytesOf t)).toArray (Tryz.layS7_ren.t 22))).drewN q):=⟨rfl,rfl,rfl,al,λk hk=>Za _ _ k hk⟩;rw[e2,eK];refine⟨rfl,λj r E=>?_,Pa⟩;have N:j<J (Lib.splitV (Lib.bytesOf [47]) 0 (Lib.count (Lib.bytesOf t) (Lib.bytesOf [47])) (Ad b o) c (Lib.bytesOf t)):=by rw[Lib.splitV_length,e1,iC];exact(bH.1 E).1
 let⟨D,off,len,cp,ev,h1,h2,X,h4⟩:=Lib.splitV_spec (Lib.bytesOf [47]) 0 bf (de _) _ (Ad b o) c (Lib.bytesOf t) (by rw[Lib.bytesOf_length,Z];exact W) j _ (bN N);rw[e1,qU,E]at X;rw[Lib.bytesOf_length]at h2;have Ko:r=jT len (jD off t):=by refine cO0 (eK5 B r (bq E)) (λz hz=>B z (Oa (Rz hz))) ?_;rw[Lib.bytesOf_take,Lib.bytesOf_drop];simpa using X
 have s:J r=len:=by rw[Ko,tz,uK];omega
 refine⟨Y D,cp,?_,?_⟩;{rw[World.cell?_drewN,World.cell?_alloc_new,rB,bN N,ev,s]};{
 refine⟨Y D,cp,rfl,?_⟩;by_cases h0:len=0;{left;exact uJ.1 (s▸h0)};{
 right;have ea:=h4 0 af;rw[x,Ek]at ea;refine⟨b,o+off,?_,λi u=>?_⟩;{have:D.add 0=D:=rfl;rw[<-this,ea]};{
 rw[s]at u;have mR:I ((jA w (dO (Lib.splitV (Lib.bytesOf [47]) 0 (Lib.count (Lib.bytesOf t) (Lib.bytesOf [47])) (Ad b o) c (Lib.bytesOf t)).toArray (Tryz.layS7_ren.t 22))).drewN q) (Ad b (o+(off+i)))=Y (jK .u8 (jE t (off+i) 0)):=
  (Pa.cell (p:=(Ad b (o+(off+i)))) (my w _ (hc (off+i) af))).Z (hc (off+i) af)
 rw[yJ,mR,Ko];have:jE (jT len (jD off t)) i 0=jE t (off+i) 0:=by simp[List.getD,u]
 rw[this]}}}
theorem eK0:∀n∈gR (47:Int) t,J n<=J t:=by
 induction t with
 |nil=>intro n i;simp[gR]at i;subst i;simp
 |cons x l ih=>
  intro n i;rw[gR]at i;split at i;{obtain rfl|i:=gD.1 i;{simp};{have:=ih n i;simp;omega}};{
 cases hc:gR 47 l with
 |nil=>
  rw[hc]at i;simp at i;subst i;simp
 |cons m ms=>
  rw[hc]at i ih;obtain rfl|i:=gD.1 i;{have:=ih m al;simp;omega};{have:=ih n (by simp[i]);simp;omega}}
theorem bh3(en:Le l n)(h:Rd w (.S p n c) l)(hb:O (aD l))(hl:Mg n)(hcn:n<=c)(qn:c<=maxLen)(hm:∃m,I w (Ad 2 0)=dI m)(eB:O (vp l=B)):dQ dG 222 #[.S p n c] w λe w'=>e=dR (jO B)/\Below (U (Q w)) w w':=by
 by_cases Cd:n=0;{
 subst Cd;have eF:B=dF:=by rw[<-ae eB,uJ.1 (ae en)];rfl
 subst eF;go_in;exact aV};have oQ:((n:Int)==0)=dF:=by simp[Cd]
 obtain⟨b,o,rfl,-,hc⟩:=h.at (by rw[ae en];omega);obtain⟨x,t,V⟩:∃x t,l=x::t:=by
  cases l with
  |nil=>have:=ae en;simp at this;omega
  |cons x t=>exact⟨x,t,rfl⟩
 have hx:I w (Ad b o)=Y (jK .u8 x):=by have:=hc 0 (by rw[ae en];omega);rw[V]at this;exact this
 by_cases lu:x=47;{
 subst lu;have ent:J t=n-1:=by have:=ae en;rw[V]at this;simp at this;omega
 have OQ:∀i,i<n-1->I w (Ad b (o+1+i))=Y (jK .u8 (jE t i 0)):=λi hi=>by have:=hc (1+i) (by rw[ae en];omega);rw[V,<-yJ]at this;rw[this];simp[List.getD,bd0 1 i]
 have hbt:aD t:=λz hz=>ae hb z (by rw[V];simp[hz]);let⟨K,eK⟩:=bu (J (gR 47 t));have cK:B=(dD (K<=8)&&(gR 47 t).all qQ):=by rw[<-ae eB,V,vp,st,eK];simp
 have qF:K<=n+1:=by have h1:=(bT8 hbt).2;have h2:=Lib.count_le (Lib.bytesOf t) (Lib.bytesOf [47]);rw[Lib.bytesOf_length,ent]at h2;omega
 let⟨N,eN⟩:=bu (n-1);let⟨C,eC⟩:=bu (c-1);have W:∀(E:Nat)(w':G),(N=0\/E=o+1)->Below (U (Q w)) w w'->I w' (Ad (U (Q w)) 0)=Y (jK .u8 47)->Cp 251 #[.S (Ad b E) N C,.T (U (Q w)) 1 1] w' λe r=>e=dR (.T (U (Q w')) K K)/\(∀j nm,(gR 47 t)[j]?=Y nm->∃X c',I r (Ad (U (Q w')) j)=dS X (J nm) c'/\Rd r (.S X (J nm) c') nm)/\Below (U (Q w')) w' r:=by intro E w' xS aR hg;refine dq2 (by rw[ent,eN]) (λi hi=>?_) hg hbt af af af ?_ eK;{obtain h0|rfl:=xS;{omega};{exact(aR.cell (p:=(Ad b (o+1+i))) (my w _ (OQ i af))).Z (OQ i af)}};{let⟨m,hm⟩:=hm;exact⟨m,(aR.cell (p:=(Ad 2 0)) (my w _ hm)).Z hm⟩}
 let⟨HSP,kJ,EK⟩:=gC W cK eK;have g1:=gS 1 n;have g2:=gS 1 c;have g3:=qx n c;have HN:=bG eN eC;clear W cK OQ hbt ent eK hc eN eC;have bA:Below (U (Q w)) w (jA w (dO #[jK .u8 47] 5)):=cY;have xi:∀E,(N=0\/E=o+1)->Cp 251 #[.S (Ad b E) N C,.T (U (Q w)) 1 1] (jA w (dO #[jK .u8 47] 5)) λe r=>e=dR (.T (U (Q w)+1) K K)/\(∀j nm,(gR 47 t)[j]?=Y nm->∃X c',I r (Ad (U (Q w)+1) j)=dS X (J nm) c'/\Rd r (.S X (J nm) c') nm)/\Below (U (Q w)) w r:=by intro E xS;have e:U (Q (jA w (dO #[jK .u8 47] 5)))=U (Q w)+1:=al;have:=ae HSP E _ xS bA al;rw[e]at this;refine this.h ?_;rintro e1 w1⟨rfl,h1,h2⟩;refine⟨rfl,h1,?_⟩;rw[<-e]at h2;exact aj bA h2
 have HF:=ai xi;clear xi bA;have M:∀nm∈gR (47:Int) t,J nm<=2^21:=λnm qB=>by have h1:=eK0 nm qB;have h2:=ae en;rw[V]at h2;simp at h2;omega
 have HL:=ai M;clear M V;by_cases gm:c=1;{
 subst gm;cases(af:n=1);go_in
 go_wp21
 have hN0:(0:Nat)=N:=aM HN.1;have Mt:(0:Nat)=C:=aM HN.2;have W:=ae HF o (.L hN0.C);rw[<-hN0,<-Mt]at W;clear hN0 Mt;refine W.h ?_;rintro e w2⟨rfl,We,aA⟩;by_cases Ip:K<=8;{
 have bm0:¬(8:Int)<(K:Int):=af;go_wp2
 go_loopw[24](λi wr=>∃k:Nat,k<=K/\i=.I k/\O (∀j nm,j<k->(gR 47 t)[j]?=Y nm->qQ nm)/\Below (U (Q w2)) w2 wr) (pT K)
 exact⟨0,de _,rfl,(λj nm hj=>af),bD _ _⟩;{
 obtain⟨k,hk,rfl,fU,D⟩:=hrel;have BB:=aj aA D;by_cases aH:k<K;{
 have dm:=cM k K;obtain⟨nm,qB⟩:∃nm,(gR 47 t)[k]?=Y nm:=⟨_,bN (ae EK▸aH)⟩;let⟨X,c',vM,yO⟩:=We k nm qB;have bo0:=aq vM D;have ZW:=yO.H D;have Mh:=ae HL nm (bq qB);let⟨nl,iq⟩:=bu (J nm);rw[iq]at bo0 ZW Mh;have y:=ai qB;let⟨R,eR⟩:=bu (qQ nm);have ER:=ai eR
 go_wp21
 refine cL (bQ1 iq ZW Mh ER) λw3 aL=>?_;cases R with
 |true=>
  have sH:O (∀j nm,j<k+1->(gR 47 t)[j]?=Y nm->qQ nm):=λj Z hj s=>by by_cases e:j=k;{subst e;have e2:=y.C.Z s;simp at e2;rw[<-e2];exact ae ER};{exact fU j Z af s}
  go_wp2;go_roundw;exact⟨k+1,af,by go_num,sH,aj D aL⟩;exact dy
 | false=>
  have eF:B=dF:=by
   rw[ae kJ];have:(gR 47 t).all qQ=dF:=by rw[Zo];exact⟨nm,bq (ae y),by simp[ae ER]⟩
   rw[this];simp
  subst eF;go_wp2;go_ret;exact⟨rfl,aj BB aL⟩};{exact bN0}}};{have bm0:=uX 8 K;cases(by rw[ae kJ];simp[Ip]:B=dF);exact aV}};{
 go_in
 go_wp21
 have W:=ae HF (o+1) (.R rfl);rw[<-HN.1,<-HN.2]at W;refine W.h ?_;rintro e w2⟨rfl,We,aA⟩;by_cases Ip:K<=8;{
 have bm0:¬(8:Int)<(K:Int):=af;go_wp2
 go_loopw[24](λi wr=>∃k:Nat,k<=K/\i=.I k/\O (∀j nm,j<k->(gR 47 t)[j]?=Y nm->qQ nm)/\Below (U (Q w2)) w2 wr) (pT K)
 exact⟨0,de _,rfl,(λj nm hj=>af),bD _ _⟩;{
 obtain⟨k,hk,rfl,fU,D⟩:=hrel;have BB:=aj aA D;by_cases aH:k<K;{
 have dm:=cM k K;obtain⟨nm,qB⟩:∃nm,(gR 47 t)[k]?=Y nm:=⟨_,bN (ae EK▸aH)⟩;let⟨X,c',vM,yO⟩:=We k nm qB;have bo0:=aq vM D;have ZW:=yO.H D;have Mh:=ae HL nm (bq qB);let⟨nl,iq⟩:=bu (J nm);rw[iq]at bo0 ZW Mh;have y:=ai qB;let⟨R,eR⟩:=bu (qQ nm);have ER:=ai eR
 go_wp21
 refine cL (bQ1 iq ZW Mh ER) λw3 aL=>?_;cases R with
 |true=>
  have sH:O (∀j nm,j<k+1->(gR 47 t)[j]?=Y nm->qQ nm):=λj Z hj s=>by by_cases e:j=k;{subst e;have e2:=y.C.Z s;simp at e2;rw[<-e2];exact ae ER};{exact fU j Z af s}
  go_wp2;go_roundw;exact⟨k+1,af,by go_num,sH,aj D aL⟩;exact dy
 | false=>
  have eF:B=dF:=by
   rw[ae kJ];have:(gR 47 t).all qQ=dF:=by rw[Zo];exact⟨nm,bq (ae y),by simp[ae ER]⟩
   rw[this];simp
  subst eF;go_wp2;go_ret;exact⟨rfl,aj BB aL⟩};{exact bN0}}};{have bm0:=uX 8 K;cases(by rw[ae kJ];simp[Ip]:B=dF);exact aV}}};{
 have hx2:(x != 47):=by simp[lu]
 have eF:B=dF:=by rw[<-ae eB,V,vp];exact bT4 lu
 subst eF;go_in;exact aV}
theorem Yu(m:Le l n)(h:Rd w (.S p n c) l)(j:O (aD l))(i:Mg n)(o:O (vp l=B)):dQ dG 106 #[.S p n c] w λe w'=>e=dR (jO B)/\Below (U (Q w)) w w':=by
 go_in
 go_wp21
 refine(dQ4 m h j i o).h ?_;rintro e r⟨⟨v,rfl⟩,s⟩;exact aV
abbrev Ev:=Int×LI
abbrev aB:=Int×Int×List Ev
structure au where
 A:LI
 V:LI
 D:Int
 M:Int
 y:LI
 P:Int
 F:Int
 X:LI
def kI(w:G)(v:dV)(ns:LI):Prop:=
 ∃(p:OA)(c:Nat),v=.S p (J ns) c/\(ns=[]\/∃b o,p=(Ad b o)/\∀i,i<J ns->I w (Ad b (o+i))=dU (jE ns i 0))
def qI(w:G)(v:dV)(es:List Ev):Prop:=
 ∃(p:OA)(c:Nat),v=.S p (J es) c/\(es=[]\/∃b o,p=(Ad b o)/\∀i e,es[i]?=Y e->I w (Ad b (o+i*2))=dI e.1/\∃u,I w (Ad b (o+i*2+1))=Y u/\Rd w u e.2)
def nO(w:G)(v:dV)(ss:List aB):Prop:=
 ∃(p:OA)(c:Nat),v=.S p (J ss) c/\(ss=[]\/∃b o,p=(Ad b o)/\∀i s,ss[i]?=Y s->I w (Ad b (o+i*3))=dU s.1/\I w (Ad b (o+i*3+1))=dI s.2.1/\∃u,I w (Ad b (o+i*3+2))=Y u/\qI w u s.2.2)
theorem kI.H(h:kI w v ns)(m:Bw w w'):kI w' v ns:=by
 obtain⟨p,c,rfl,h⟩:=h;refine⟨p,c,rfl,?_⟩;obtain h|⟨b,o,rfl,h⟩:=h;{exact .L h};{exact .R ⟨b,o,rfl,λi j=>aq (h i j) m⟩}
theorem qI.H{es:List Ev}(h:qI w v es)(j:Bw w w'):qI w' v es:=by
 obtain⟨p,c,rfl,h⟩:=h;refine⟨p,c,rfl,?_⟩;obtain h|⟨b,o,rfl,h⟩:=h;{exact .L h};{refine .R ⟨b,o,rfl,λi e he=>?_⟩;let⟨r,u,q,m⟩:=h i e he;exact⟨aq r j,u,aq q j,m.H j⟩}
theorem nO.H{ss:List aB}(h:nO w v ss)(hb:Bw w w'):nO w' v ss:=by
 exact bM9
abbrev cO(e g x n:Int)(S N:dV):dV:=jP #[.U e,.U g,.U x,.I n,S,N]
variable {g t:Int}{N:dV}
theorem ZB{ss:List aB}(X:Le ss n)(h:nO w (.S p n c) ss)(hn:Mg n){id:Int}(Z:O ((ss.any λs=>s.1==id)=B)):dQ dG 155 #[cO e g x t (.S p n c) N,.U id] w (Rb (jO B) w):=by
 have HR:=ai λ(w':G)(hb:Bw w w')=>h.H hb;clear h;go_in
 go_wp21
 let⟨W,m⟩:=aF (jA w (dO #[.U e,.U g,.U x,.I t,.S p n c,N] 44));have D:=ir m;have EO:I W (Aw w 4)=dS p n c:=by rw[m];simp
 rw[<-m];clear m;let⟨HS,BW⟩:=aQ (ae HR _ D) D;clear D HR
 go_loopw[5](λiv wr=>∃k:Nat,k<=n/\iv=.I k/\O (((jT k ss).any λs=>s.1==id)=dF)/\wr=W) (pT n)
 exact⟨0,de _,rfl,(ai (by simp)),rfl⟩;{
 obtain⟨k,hk,rfl,R,rfl⟩:=hrel;by_cases aH:k<n;{
 have dm:=cM k n;have fg:k<J ss:=by rw[ae X];exact aH
 obtain⟨y,r⟩:∃y,ss[k]?=Y y:=⟨_,bN fg⟩;let⟨p',c',ev,V⟩:=ae HS;simp only[rE]at ev;obtain⟨rfl,-,-⟩:=ev;obtain⟨b,o,rfl,M⟩:∃b o,p=(Ad b o)/\∀i s,ss[i]?=Y s->I wr (Ad b (o+i*3))=dU s.1:=by obtain h0|⟨b,o,h1,h2⟩:=V;{exact yy};{exact⟨b,o,h1,λi s hi=>(h2 i s hi).1⟩}
 have sk:=M k y r;have HY:=ai r;clear M V r fg;by_cases j:y.1=id;{
 have eT:B:=by rw[<-ae Z,VU];exact⟨y,bq (ae HY),by simp[j]⟩
 subst eT;exact aV};{
 have u:(y.1==id)=dF:=by simp[j]
 have E:O (((jT (k+1) ss).any λs=>s.1==id)=dF):=by show _=_;rw[rD,ae HY,List.any_append,ae R];simp[u]
 go_wp2;go_roundw;exact⟨k+1,af,by go_num,E,by first|rfl|trivial⟩;exact dy}};{
 have dm:=ga k n;have eF:B=dF:=by rw[<-ae Z];have:=ae R;rwa [nZ (by rw[ae X];omega)]at this
 subst eF;exact aV}}
abbrev Bn(ns:List au):Prop:=∀nd∈ns,aD nd.A/\J nd.A<=2^20/\J nd.V<=2^20/\J nd.y<=2^20/\J nd.X<=2^20
abbrev Bs(ss:List aB):Prop:=∀s∈ss,J s.2.2<=2^20/\∀e∈s.2.2,aD e.2/\J e.2<=2^20
abbrev Bu(ns:List au):Prop:=∀nd∈ns,(∀i∈nd.y,0<=i/\i<2^64)/\∀i∈nd.X,0<=i/\i<2^64
abbrev Bo(ns:List au):Prop:=∀nd∈ns,0<=nd.D/\nd.D<2^64
def live(ss:List aB)(id:Int):Bool:=ss.any λs=>s.1==id
def L6(ss:List aB)(ids:LI)(i:Nat):Bool:=live ss (jE ids i 0)&&(i==0||decide (jE ids (i-1) 0<jE ids i 0))
def sS(ss:List aB)(ids:LI):Bool:=(jR (J ids)).all (L6 ss ids)
theorem Hn(h:(jR k).all f)(i:f k):(jR (k+1)).all f:=by
 rw[bc7,List.all_append,h];simp[i]
theorem Jz(i:k<n)(h:f k=dF):(jR n).all f=dF:=by
 rw[Zo];exact⟨k,xK.2 i,by simp[h]⟩
abbrev jg(w:G)(b:Nat)(e g x t:Int)(S N:dV):Prop:=I w (Ad b 0)=dU e/\I w (Ad b 1)=dU g/\I w (Ad b 2)=dU x/\I w (Ad b 3)=dI t/\I w (Ad b 4)=S/\I w (Ad b 5)=N
theorem jg.H(h:jg w b e g x t S N)(i:Bw w w'):jg w' b e g x t S N:=
 ⟨aq h.1 i,aq h.2.1 i,aq h.2.2.1 i,aq h.2.2.2.1 i,aq h.2.2.2.2.1 i,aq h.2.2.2.2.2 i⟩
theorem bf5{ss:List aB}(en:Le ss n)(em:Le ids m)(h:nO w (.S p n c) ss)(hi:kI w (.S q m d) ids)(hn:Mg n)(hm:Mg m)(eB:O (sS ss ids=B)):dQ dG 156 #[cO e g x t (.S p n c) N,.S q m d] w (Rb (jO B) w):=by
 go_in
 go_wp21
 let⟨W,hW⟩:=aF (jA w (dO #[.U e,.U g,.U x,.I t,.S p n c,N] 44));have rH:jg W (U (Q w)) e g x t (.S p n c) N:=by rw[hW];simp[jg]
 rw[<-hW]
 go_loopw[5](λiv wr=>∃k:Nat,k<=m/\iv=.I k/\O ((jR k).all (L6 ss ids))/\Bw W wr) (pT m)
 exact⟨0,de _,rfl,di,bD _ _⟩;{
 obtain⟨k,hk,rfl,fU,aC⟩:=hrel;have BB:=aj (ir hW) aC;by_cases aH:k<m;{
 have dm:=cM k m;have fg:k<J ids:=ae em▸aH;let⟨hS,hU⟩:=ae (ai λ(w':G)(hb:Bw w w')=>aE (h.H hb) (hi.H hb)) _ BB;obtain⟨b,o,rfl,jd⟩:∃b o,q=(Ad b o)/\∀i,i<m->I wr (Ad b (o+i))=dU (jE ids i 0):=by obtain⟨p',c',ev,hd⟩:=hU;obtain⟨rfl,-,-⟩:=mh ev;obtain h0|⟨b,o,h1,h2⟩:=hd;{exact yy};{exact⟨b,o,h1,λi hi=>h2 i (ae em▸hi)⟩}
 have i6:=rH.H aC;have Z:=jd k aH;let⟨y,ey⟩:=bu (jE ids k 0);rw[ey]at Z;have Qx:=ai hS;let⟨L,eL⟩:=bu (live ss y);have EL:O ((ss.any λs=>s.1==y)=L):=eL;have fL:L6 ss ids k=(L&&(k==0||decide (jE ids (k-1) 0<y))):=by rw[L6,ey,eL]
 have hF:L6 ss ids k=dF->B=dF:=λh=>by rw[<-ae eB,sS,ae em];exact Jz aH h
 cases L with
 |false=>
  obtain rfl:=hF (by rw[fL];rfl);have M:=bG i6 Z
  go_wp21
  refine fw (λw'=>jg w' (U (Q w)) e g x t (.S p n c) N/\I w' (Ad b (o+k))=dU y) (by exact M) λhS=>?_;refine iy 0 1 2 3 hS ?_;refine tn 4 hS ?_;refine ry [5] ?_;refine cn (λKK hK=>?_) ?_;{refine uG (ZB en (Qx.H db.drew) hn EL) ?_;rintro r V⟨rfl,X⟩;refine⟨_,rfl,?_⟩;have u:Bw wr V:=aj (bD (U (Q wr)) wr).drew X;refine bS hK ⟨M.1.H u,aq M.2 u⟩ λhS=>?_;refine fu 6 7 hS ?_;refine iT 8 9 10 11 hS ?_;refine iT 12 13 14 15 hS ?_;refine iT 16 17 18 19 hS ?_;refine sn 20 hS ?_;refine sn 21 hS ?_;refine tn 22 hS ?_;refine fQ ?_;have b2:=aj BB u;exact aV};exact fN
 |true=>
  by_cases si:k=0;{
 have sH:O ((jR (k+1)).all (L6 ss ids)):=Hn fU (by rw[fL,si];rfl);let⟨hp,Z9⟩:¬0<k/\¬(0:Int)<(k:Int):=af;have M:=bG i6 Z;clear fL hF eL jd ey si i6 Z
 go_wp21
 refine fw (λw'=>jg w' (U (Q w)) e g x t (.S p n c) N/\I w' (Ad b (o+k))=dU y) M λhS=>?_;refine iy 0 1 2 3 hS ?_;refine tn 4 hS ?_;refine fy 5 λKK hK=>?_;refine uG (ZB en (Qx.H mC) hn EL) ?_;rintro r V⟨rfl,X⟩;refine fE ?_;have u:Bw wr V:=aj (bD (U (Q wr)) wr).drew X;refine bS hK ⟨M.1.H u,aq M.2 u⟩ λhS=>?_;clear hK KK;refine iy 6 7 8 9 hS ?_;refine tn 10 hS ?_;refine iT 11 12 13 14 hS ?_;refine iT 15 16 17 18 hS ?_;refine sn 19 hS ?_;refine sn 20 hS ?_;refine fu 21 22 hS ?_;refine fQ ?_;have b2:=aj aC u;go_wp2;go_roundw;exact⟨k+1,af,by go_num,sH,b2⟩;exact dy};{
 obtain⟨j,ej⟩:∃j:Nat,(k:Int)-1=(j:Int):=⟨k-1,af⟩;have Fk:k-1=j:=af;have Wy:=jd j af;let⟨z,ez⟩:=bu (jE ids j 0);rw[ez]at Wy;rw[Fk,ez]at fL;have hp:0<k:=af;have SJ:=cM j m;have hj0:=gS 0 j;have wj:=iM j;by_cases hzy:z<y;{
 have hle:¬y<=z:=af;have fx0:dD (y<=z)=dF:=by simp;omega
 have M:=eG i6 Z Wy
 go_wp21
 refine fw (λw'=>jg w' (U (Q w)) e g x t (.S p n c) N/\I w' (Ad b (o+k))=dU y/\I w' (Ad b (o+j))=dU z) M λhS=>?_;refine iy 0 1 2 3 hS ?_;refine tn 4 hS ?_;refine fy 5 λKK hK=>?_;refine uG (ZB en (Qx.H mC) hn EL) ?_;rintro r V⟨rfl,X⟩;refine fE ?_;have u:Bw wr V:=aj (bD (U (Q wr)) wr).drew X;refine bS hK ⟨M.1.H u,aq M.2.1 u,aq M.2.2 u⟩ λhS=>?_;refine gr 6 7 8 9 10 11 12 13 hS ?_;refine gr 14 15 16 17 18 19 20 21 hS ?_;refine tn 22 hS ?_;refine fQ ?_;have b2:=aj aC u;go_wp2;go_roundw;exact⟨k+1,af,by go_num,Hn fU (by rw[fL];simp[hzy]),b2⟩;exact dy};{
 have hle:y<=z:=af;cases hF (by rw[fL];simp[hzy,si]);have M:=eG i6 Z Wy
 go_wp21
 refine fw (λw'=>jg w' (U (Q w)) e g x t (.S p n c) N/\I w' (Ad b (o+k))=dU y/\I w' (Ad b (o+j))=dU z) M λhS=>?_;refine iy 0 1 2 3 hS ?_;refine tn 4 hS ?_;refine fy 5 λKK hK=>?_;refine uG (ZB en (Qx.H mC) hn EL) ?_;rintro r V⟨rfl,X⟩;refine fE ?_;have u:Bw wr V:=aj (bD (U (Q wr)) wr).drew X;refine bS hK ⟨M.1.H u,aq M.2.1 u,aq M.2.2 u⟩ λhS=>?_;refine gr 6 7 8 9 10 11 12 13 hS ?_;refine gr 14 15 16 17 18 19 20 21 hS ?_;refine tn 22 hS ?_;refine fQ ?_;have b2:=aj BB u;exact aV}}};{
 have dm:=ga k m;have eT:B:=by
  rw[<-ae eB,sS,ae em];have:k=m:=by omega
  rw[<-this];exact fU
 subst eT;exact aV}}
def yk(k:Nat)(v x:Int):Int:=bits .or jU v (jY jU (x % 128*2 ^ (7*k)))
theorem aH2{v:Int}:0<=yk k v x/\yk k v x<2^64:=by
 have j:=bits_lo_u64 .or v (jY jU (x % 128*2 ^ (7*k)));have i:=bits_hi_u64 .or v (jY jU (x % 128*2 ^ (7*k)));unfold yk;omega
theorem tm(x:Nat):(x:Int) % 128=((x % 128:Nat):Int):=by omega
theorem bC9{x:Nat}{c:Int}(hc:c % 128=(x:Int))(o:x<128)(j:a<2 ^ (7*k))(q:a+x*2 ^ (7*k)<2^64):yk k a c=((a+x*2 ^ (7*k):Nat):Int):=by
 unfold yk;rw[hc];have m:jY jU ((x:Int)*2 ^ (7*k))=((x*2 ^ (7*k):Nat):Int):=by
  rw[wV];have:((x:Int)*2 ^ (7*k))=((x*2 ^ (7*k):Nat):Int):=by push_cast;rfl
  rw[this];omega
 rw[m];have i:=bits_join_low jU 64 bf wraps_u64 (7*k) (a:Int) ((x*2 ^ (7*k):Nat):Int) af (by exact_mod_cast j) af af (by
  have:((x*2 ^ (7*k):Nat):Int) % 2 ^ (7*k)=((x*2 ^ (7*k) % 2 ^ (7*k):Nat):Int):=by push_cast;rfl
  rw[this,Nat.mul_mod_left];rfl) af
 rw[i]
 push_cast
 rfl
def wu:Nat->Nat->Int->LI->Option (Int×LI)
 |0,_,_,_=>dN
 |_+1,_,_,[]=>dN
 |f+1,k,a,c::t=>if c<128 then Y (yk k a c,t)else wu f (k+1) (yk k a c) t
def rv(m:LI):Option (Int×LI):=wu 10 0 0 m
theorem cc8(k:Nat):2 ^ (7*(k+1))=128*2 ^ (7*k):=by
 rw[Nat.mul_add,Nat.pow_add,Zm]
theorem dv8(f:Nat):∀(k a x:Nat)(rest:LI),x<128 ^ (f+1)->a<2 ^ (7*k)->a+x*2 ^ (7*k)<2^64->wu (f+1) k a (sK f x++rest)=Y (((a+x*2 ^ (7*k):Nat):Int),rest):=by
 induction f with
 |zero=>
  intro k a x rest o m j;rw[sK];simp only[Gk,Eh,wu];rw[aK af,bC9 (by rw[tm];omega) (by simpa using o) m j]
 |succ f ih=>
  intro k a x rest o m j;by_cases h:x<128;{rw[aN4 h];simp only[Gk,Eh,wu];rw[aK af,bC9 (by rw[tm];omega) h m j]};{
 rw[aN5 h];simp only[Gk,wu];have s:=Nat.div_add_mod x 128;have u:=Nat.mod_lt x (show 0<128 by omega);generalize x / 128=q at*;generalize x % 128=r at*;subst s;have i:(128*q+r)*2 ^ (7*k)=q*2 ^ (7*(k+1))+r*2 ^ (7*k):=by rw[cc8,Nat.add_mul,Zm 128 q,Nat.mul_assoc]
 rw[aJ af,bC9 (by rw[tm];omega) u m (by rw[i]at j;omega),ih (k+1) (a+r*2 ^ (7*k)) q rest ?_ ?_ ?_];{rw[i];congr 2;simp;omega};{rw[Zn]at o;omega};{rw[cc8];have:r*2 ^ (7*k)<=127*2 ^ (7*k):=Rm _ af;omega};{rw[i]at j;omega}}
theorem aq8{s:Nat}(rest:LI)(i:s<2^64):rv (vi s++rest)=Y ((s:Int),rest):=by
 have:=dv8 9 0 0 s rest af bf af;simpa[rv,vi]using this
theorem aq9(f:Nat):∀(k:Nat)(a:Int)(m:LI)(v:Int)(t:LI),wu f k a m=Y (v,t)->0<=v/\v<2^64/\J t<J m/\t=jD (J m-(J t)) m:=by
 induction f with
 |zero=>intro k a m v t h;simp[wu]at h
 | succ f ih=>
  intro k a m v t h;cases m with
  |nil=>simp[wu]at h
  |cons c m=>
   rw[wu]at h;split at h;{simp at h;obtain⟨rfl,rfl⟩:=h;have:=aH2 (k:=k) (v:=a) (x:=c);refine⟨this.1,this.2,al,?_⟩;rw[mO,show J m+1-(J m)=1 by omega];rfl};{let⟨q,j,r,i⟩:=ih _ _ _ _ _ h;refine⟨q,j,bL,?_⟩;rw[mO,show J m+1-(J t)=(J m-(J t))+1 by omega,Df];exact i}
def vOf:Option (Int×LI)->Int
 |some x=>x.1
 |none=>0
def aOf(n:Nat):Option (Int×LI)->Int
 |some x=>(n:Int)-(J x.2)
 |none=>-1
theorem dA0:dQ dG 161 #[.S p n c,.I (-1)] w λe w'=>e=dR (dT #[.I 0,.I (-1)])/\w'=w:=by
 go_in;go_wp2;go_ret2;exact⟨rfl,rfl⟩
theorem dA1(i:Mg n):dQ dG 161 #[.S p n c,.I n] w λe w'=>e=dR (dT #[.I 0,.I (-1)])/\w'=w:=by
 have j:¬(n:Int)<0:=af;go_in;go_wp2;go_ret2;exact⟨rfl,rfl⟩
theorem dA2(i:Le l n)(h:Rd w (.S p n c) l)(s:aD l)(y:Mg n)(j:a<n):dQ dG 161 #[.S p n c,.I a] w λe w'=>e=dR (dT #[.I (jE l a 0),.I ((a+1:Nat):Int)])/\w'=w:=by
 obtain⟨b,o,rfl,-,hc⟩:=h.at (by rw[ae i];omega);have q:=hc a (ae i▸j);have r:0<=jE l a 0/\jE l a 0<256:=by have m:a<J l:=ae i▸j;rw[show jE l a 0=l[a] by simp[List.getD,m]];exact s _ (De m)
 let⟨x,ex⟩:=bu (jE l a 0);rw[ex]at q r⊢;let⟨E,D⟩:¬(a:Int)<0/\¬(n:Int)<=(a:Int):=af;have B:=cM a n;have u:jY jV x=x:=nW _ af;clear hc ex;go_in;go_wp2;go_ret2;exact⟨al,rfl⟩
theorem ca6:dQ dG 159 #[.S p n c,.I (-1)] w λe w'=>e=dR (dT #[.U 0,.I (-1)])/\w'=w:=by
 go_in
 go_wp21
 go_loopw[6,7](λj i wr=>j=.U 0/\i=.I 0/\wr=w) (λ_ i _=>10-(jN (intOf i)))
 exact⟨rfl,rfl,rfl⟩;{obtain⟨rfl,rfl,rfl⟩:=hrel;go_wp2;go_ret2;exact⟨rfl,rfl⟩}
theorem eI0(h:a<J l):jD a l=jE l a 0::jD (a+1) l:=by
 rw[Lx h];simp[List.getD,h]
theorem ca7(en:Le l n)(h:Rd w (.S p n c) l)(hb:aD l)(hl:Mg n)(ha:a<=n){r:Option (Int×LI)}(er:O (rv (jD a l)=r)):dQ dG 159 #[.S p n c,.I a] w λe w'=>e=dR (dT #[.U (vOf r),.I (aOf n r)])/\w'=w:=by
 let⟨HR,HB⟩:=aQ h hb;have ha0:¬(a:Int)<0:=af;clear h hb;go_in
 go_wp21
 go_loopw[6,7](λX q wr=>∃(v:Int)(k:Nat),X=.U v/\k<=10/\q=.I k/\O (r=wu (10-k) k v (jD (a+k) l))/\wr=w) (λ_ q _=>10-(jN (intOf q)))
 exact⟨0,0,rfl,af,rfl,(ai (by rw[<-ae er];rfl)),rfl⟩;{
 obtain⟨v,k,rfl,hk,rfl,m,rfl⟩:=hrel;by_cases GG:k<10;{
 have y:(k:Int)<10:=af;obtain⟨A,eA⟩:∃A:Nat,(a:Int)+(k:Int)=(A:Int):=⟨a+k,af⟩;have u:a+k=A:=af;have i:=ae m;rw[u,show 10-k=(9-k)+1 by omega]at i;by_cases s:A<n;{
 have hA:=cM A n;have R:¬(n:Int)<=(A:Int):=af;obtain⟨b,o,rfl,-,hc⟩:=HR.at (by rw[ae en];omega);have W:=hc A (ae en▸s);have Z:0<=jE l A 0/\jE l A 0<256:=by have N:A<J l:=ae en▸s;rw[show jE l A 0=l[A] by simp[List.getD,N]];exact HB _ (De N)
 rw[eI0 (ae en▸s)]at i;let⟨x,ex⟩:=bu (jE l A 0);rw[ex]at W Z i;have w7:jY jV (7*(k:Int))=7*(k:Int):=nW _ af;rw[wu]at i;clear hc ex m;by_cases j:x<128;{
 rw[aK j]at i;have M:vOf r=yk k v x:=by rw[i];rfl
 have B:aOf n r=(A:Int)+1:=by rw[i];show(n:Int)-(J (jD (A+1) l):Nat)=_;rw[uK,ae en];omega
 have E:=bG M B;clear M B i;go_wp2;go_ret2;rw[E.1,E.2];exact⟨rfl,rfl⟩};{
 have fu2:¬x<128:=j;rw[aJ j]at i;have V:O (r=wu (10-(k+1)) (k+1) (yk k v x) (jD (a+(k+1)) l)):=by show _=_;rw[i,show 10-(k+1)=9-k by omega,show a+(k+1)=A+1 by omega]
 clear i;go_wp2;go_roundw;exact⟨yk k v x,k+1,rfl,af,by go_num,V,by first|rfl|trivial⟩;exact dy}};{have R:=qx n A;rw[VW (by rw[ae en];omega),wu]at i;subst i;clear m;go_wp2;go_ret2;exact⟨rfl,rfl⟩}};{have y:¬(k:Int)<10:=af;have i:=ae m;rw[show 10-k=0 by omega,wu]at i;subst i;clear m;go_wp2;go_ret2;exact⟨rfl,rfl⟩}}
def rt(m:LI):Option (LI×LI):=
 match rv m with
 |none=>dN
 |some x=>if(J x.2:Int)<x.1 then dN else Y (jT (jN x.1) x.2,jD (jN x.1) x.2)
def Vd:Option (LI×LI)->LI
 |some x=>x.1
 |none=>[]
def bOf(n:Nat):Option (LI×LI)->Int
 |some x=>(n:Int)-(J x.2)
 |none=>-1
theorem dz8:dQ dG 160 #[.S p n c,.I (-1)] w λe w'=>e=dR (dT #[ay,.I (-1)])/\w'=w:=by
 go_in
 go_wp21
 refine(ca6).h ?_;rintro e w'⟨rfl,rfl⟩;go_wp2;go_ret2;exact⟨rfl,rfl⟩
theorem dz9(en:Le l n)(h:Rd w (.S p n c) l)(hb:aD l)(hl:Mg n)(qi:n<=c)(ha:a<=n){r:Option (LI×LI)}(er:O (rt (jD a l)=r)){N:Nat}(u:O (J (Vd r)=N)):dQ dG 160 #[.S p n c,.I a] w λe w'=>∃p' c',e=dR (dT #[.S p' N c',.I (bOf n r)])/\Own (U (Q w)) w' (.S p' N c') (Vd r)/\Bw w w':=by
 let⟨x,ex⟩:=bu (rv (jD a l));have i:=ae er;rw[rt,ex]at i;go_in
 go_wp21
 refine(ca7 en h hb hl ha ex).h ?_;rintro e w'⟨rfl,rfl⟩;cases x with
 |none=>
  subst i;cases(by rw[<-ae u];rfl:N=0);dsimp only[vOf,aOf];go_wp2;go_ret2;exact⟨dN,0,rfl,qe _ _ _ _,bD _ _⟩
 |some x=>
  obtain⟨v,t⟩:=x;have kq:=aq9 10 0 0 _ v t ex;rw[uK,ae en]at kq;obtain⟨v0,v1,ZO,j⟩:=kq;let⟨T,s⟩:=bu (J t);dsimp only at i;rw[s]at i ZO j;let⟨A,eA⟩:=bu (n-T);have m:t=jD A l:=by rw[j,Ly];congr 1;omega
  have ea:aOf n (Y (v,t))=(A:Int):=by show(n:Int)-(J t:Nat)=_;rw[s];omega
  have ev:vOf (Y (v,t))=v:=rfl;rw[ea,ev];let⟨hA0,hAn⟩:¬(A:Int)<0/\(n:Int)-(A:Int)=(T:Int):=af;have wT:jY jU (T:Int)=(T:Int):=by rw[wV];omega
  by_cases y:(T:Int)<v;{rw[aK y]at i;subst i;cases(by rw[<-ae u];rfl:N=0);clear er ea ev ex j m;go_wp2;go_ret2;exact⟨dN,0,rfl,qe _ _ _ _,bD _ _⟩};{
 rw[aJ y]at i;obtain⟨V,rfl⟩:∃V:Nat,v=(V:Int):=⟨jN v,af⟩;have eV:jN ((V:Int))=V:=af;rw[eV]at i;cases(by rw[<-ae u,<-i];show J (jT V t)=V;rw[tz,s];omega:N=V);have EU:bOf n r=((A+N:Nat):Int):=by rw[<-i];show(n:Int)-(J (jD N t):Nat)=_;rw[uK,s];omega
 have Aj:Vd r=jD A (jT (A+N) l):=by rw[<-i];show jT N t=_;rw[m,List.drop_take,ci8]
 obtain⟨b,o,rfl,-,-⟩:=h.at (by rw[ae en];omega);have hcut:∀(q:OA)(d:Nat),(A+N=A\/q=(Ad b (o+A)))->Rd w' (.S q N d) (Vd r):=λq d hq=>by have:=h.cut A (A+N) af (by rw[ae en];omega) q hq d (Vd r) Aj;rwa [ci8]at this
 let⟨E,eE⟩:=bu (A+N);rw[eE]at hcut;have wN:=iM N;have hAE:(A:Int)+(N:Int)=(E:Int):=af;have Kj:=qx A E;have hE2:=qx E c;have Ph:E-A=N:=af;have hvv:¬(T:Int)<(N:Int):=y;have HC:=ai hcut;have B:=nK EU Aj eE s eA;clear er i ea ev ex j m hcut EU Aj eE s eA y eV h hb;by_cases Ka:c=A;{
 let⟨X,W⟩:A=E/\N=0:=af;subst Ka;subst X;subst W
 go_wp21
 refine(Dj u (ae HC _ _ (.L (by first|rfl|trivial))) af).h ?_;rintro e w2⟨M,c2,rfl,R,b2⟩;go_wp2;go_ret2;exact⟨M,c2,by rw[B.1,B.2.2.1];rfl,R,b2⟩};{
 have Z:¬(c:Int)=(A:Int):=af;have fy9:c≠A:=Ka;have wE:=iM E;have hNb:N<=2^21:=af;have HE4:=ai Ph;clear ZO Ka Ph Z v0 v1
 go_wp21
 rw[ae HE4];refine(Dj u (ae HC _ _ (.R rfl)) af).h ?_;rintro e w2⟨M,c2,rfl,R,b2⟩;go_wp2;go_ret2;exact⟨M,c2,by rw[B.1,B.2.2.1];rfl,R,b2⟩}}
def qw(i:Nat)(e:Ev):Bool:=if i=7 then e.1==4&&J e.2==0 else dD (1<=e.1)&&(dD (e.1<=3)&&vp e.2)
def yD(es:List Ev):Bool:=dD (J es<=8)&&(jR (J es)).all λi=>qw i (jE es i (0,[]))
theorem cl6{es:List Ev}(s:Le es n)(h:qI w (.S p n c) es)(hn:Mg n)(dr:O (∀e∈es,aD e.2/\J e.2<=2^20))(N:O (yD es=B)):dQ dG 152 #[.S p n c] w (Rb (jO B) w):=by
 by_cases h8:n<=8;{
 have Ts:¬(8:Int)<(n:Int):=af;go_in
 go_wp21
 go_loopw[3](λiv wr=>∃k:Nat,k<=n/\iv=.I k/\O ((jR k).all (λi=>qw i (jE es i (0,[]))))/\Bw w wr) (pT n)
 exact⟨0,de _,rfl,di,bD _ _⟩;{
 obtain⟨k,hk,rfl,fU,R⟩:=hrel;by_cases aH:k<n;{
 have dm:=cM k n;have fg:k<J es:=ae s▸aH;let⟨⟨K,P⟩,x⟩:=qH fg;have yL:jE es k (0,[])=(K,P):=by rw[ko,x];rfl
 obtain⟨b,o,rfl,hcK,u,W,X⟩:∃b o,p=(Ad b o)/\I wr (Ad b (o+k*2))=dI K/\∃u,I wr (Ad b (o+k*2+1))=Y u/\Rd wr u P:=by let⟨p',c',ev,hd⟩:=ae (ai λ(w':G)(hb:Bw w w')=>h.H hb) _ R;obtain⟨rfl,-,-⟩:=mh ev;obtain h0|⟨b,o,E,h2⟩:=hd;{exact yy};{exact⟨b,o,E,h2 k _ x⟩}
 let⟨WJ,y⟩:=ae dr _ (bq x);obtain⟨pp,pc,rfl,-⟩:=id X;let⟨m,M⟩:=bu (J P);rw[M]at X W;have Z:=ai M;have hF:qw k (K,P)=dF->B=dF:=λh=>by rw[<-ae N,yD,ae s,Jz aH (yL▸h),Bool.and_false]
 have hT:qw k (K,P)->O ((jR (k+1)).all (λi=>qw i (jE es i (0,[])))):=λh=>Hn fU (yL▸h);by_cases r:k=7;{
 subst r;have W:I wr (Ad b (o+14+1))=dS pp m pc:=W;by_cases j:K=4;{
 by_cases yR:m=0;{go_wp2;go_roundw;exact⟨7+1,af,by go_num,hT (by rw[qw,aK rfl];simp[j,ae Z,yR]),R⟩;exact dy};{
 have eb4:((m:Int)==0)=dF:=by simp;omega
 cases hF (by rw[qw,aK rfl];simp[j,ae Z,yR]);exact aV}};{
 have D:(K==4)=dF:=by simp[j]
 cases hF (by rw[qw,aK rfl];simp[j]);exact aV}};{
 have h7':¬(k:Int)=7:=af;have h7d:((k:Int)==7)=dF:=by simp;omega
 by_cases j:K=4;{cases hF (by rw[qw,aJ r];simp[j]);exact aV};{
 have D:(K==4)=dF:=by simp[j]
 by_cases E:K<1;{have Cm:¬1<=K:=af;cases hF (by rw[qw,aJ r];simp;omega);exact aV};{
 by_cases h3:3<K;{have h3':¬K<=3:=af;cases hF (by rw[qw,aJ r];simp;omega);exact aV};{
 have Cm:¬K<1:=E;let⟨g1,g3⟩:1<=K/\K<=3:=af;let⟨V,eV⟩:=bu (vp P);have fL:qw k (K,P)=V:=by rw[qw,aJ r,eV];simp[g1,g3]
 go_wp21
 refine cL (Yu Z X WJ (M▸y) eV) λw2 aA=>?_;have b2:=aj R aA;cases V with
 |false=>
  obtain rfl:=hF (by exact fL);exact aV
 |true=>
  go_wp2;go_roundw;exact⟨k+1,af,by go_num,hT fL,b2⟩;exact dy}}}}};{
 have dm:=ga k n;have eT:B:=by
  rw[<-ae N,yD,ae s];have:k=n:=by omega
  rw[<-this,ae fU];simp;omega
 subst eT;exact aV}}};{have Ts:=uX 8 n;cases(by rw[<-ae N,yD,ae s];simp[h8]:B=dF);go_in;exact aV}
def yB(j:Int)(ss:List aB)(i:Nat):Bool:=
 dD (1<=(jE ss i (0,0,[])).1)&&(dD ((jE ss i (0,0,[])).1<=j)&&((i==0||decide ((jE ss (i-1) (0,0,[])).1<(jE ss i (0,0,[])).1))&&
  (dD (0<=(jE ss i (0,0,[])).2.1)&&(dD ((jE ss i (0,0,[])).2.1<=1000015)&&yD (jE ss i (0,0,[])).2.2))))
theorem dQ2{ss:List aB}(en:Le ss n)(h:nO w (.S p n c) ss)(hn:Mg n)(hk:k<n)(dr:O (Bs ss))(eB:O (yB x ss k=B)):dQ dG 89 #[cO e g x t (.S p n c) N,.I k] w (Rb (jO B) w):=by
 have HR:=ai λ(y:G)(hb:Bw w y)=>h.H hb;have fg:k<J ss:=ae en▸hk;let⟨⟨r,D,iZ⟩,hy⟩:=qH fg;have yL:jE ss k (0,0,[])=(r,D,iZ):=by rw[ko,hy];rfl
 obtain⟨b,o,rfl,Ka⟩:∃b o,p=(Ad b o)/\∀i s,ss[i]?=Y s->I w (Ad b (o+i*3))=dU s.1/\I w (Ad b (o+i*3+1))=dI s.2.1/\∃u,I w (Ad b (o+i*3+2))=Y u/\qI w u s.2.2:=by obtain⟨p',c',ev,hd⟩:=h;obtain⟨rfl,-,-⟩:=mh ev;obtain h0|⟨b,o,h1,h2⟩:=hd;{exact yy};{exact⟨b,o,h1,h2⟩}
 let⟨hI,hD,u,hU,hQ⟩:=Ka k _ hy;let⟨V,W⟩:=ae dr _ (bq hy);obtain⟨pq,cq,rfl,-⟩:=id hQ;let⟨m,em⟩:=bu (J iZ);rw[em]at hQ hU;have hm:m<=2^20:=em▸V;have EM:=ai em;have HBQ:O (∀e∈iZ,aD e.2/\J e.2<=2^20):=W;have HRQ:=ai hQ;let⟨T,eT⟩:=bu (yD iZ);have ET:O (yD iZ=T):=eT;have E:yB x ss k=(dD (1<=r)&&(dD (r<=x)&&((k==0||decide ((jE ss (k-1) (0,0,[])).1<r))&&(dD (0<=D)&&(dD (D<=1000015)&&T))))):=by rw[yB,yL,eT]
 rw[show(yB x ss k)=B from ae eB]at E;have AV:O (B=(dD (1<=r)&&(dD (r<=x)&&((k==0||decide ((jE ss (k-1) (0,0,[])).1<r))&&(dD (0<=D)&&(dD (D<=1000015)&&T)))))):=E;clear E;have OI:=cM k n;have ed6:=gS 0 k;have HL:=ai fg;clear hy yL V W hQ em eT h eB fg;have HCA:=ai Ka;clear Ka;go_in;have Z:Bw w (jA w (dO #[.U e,.U g,.U x,.I t,.S (Ad b o) n c,N] 44)):=cY;have i1:=aq hI Z;have i2:=aq hD Z;have i3:=aq hU Z
 go_wp21
 let⟨X,R⟩:=aF (jA (jA w (dO #[.U e,.U g,.U x,.I t,.S (Ad b o) n c,N] 44)) (dO #[.U r,.I D,.S pq m cq] 148));have BX:O (Bw w X):=by show Below _ _ _;rw[R];exact Z.alloc al _
 have kA:I X (Ax w 0)=dU r:=by rw[R];simp
 have kD:I X (Ax w 1)=dI D:=by rw[R];simp
 have kQ:I X (Ax w 2)=dS pq m cq:=by rw[R];simp
 have kB:I X (Aw w 2)=dU x:=by rw[R];simp
 have kC:I X (Aw w 4)=dS (Ad b o) n c:=by rw[R];simp
 rw[<-R];let⟨KA,KB,KC⟩:=gC kA kB kC;clear R Z i1 i2 i3 kA kB kC hI hD hU;by_cases h1:r<1;{cases(by rw[ae AV];simp;omega:B=dF);refine fw (λy=>I y (Ax w 0)=dU r/\I y (Aw w 2)=dU x/\I y (Aw w 4)=dS (Ad b o) n c) ⟨KA,KB,KC⟩ λhS=>?_;refine iy 0 1 2 3 hS ?_;refine iT 4 5 6 7 hS ?_;refine sn 8 hS ?_;refine fu 9 10 hS ?_;refine iT 11 12 13 14 hS ?_;refine iT 15 16 17 18 hS ?_;refine iT 19 20 21 22 hS ?_;refine sn 23 hS ?_;refine sn 24 hS ?_;refine tn 25 hS ?_;refine fQ ?_;clear hS;exact aV};{
 by_cases h2:x<r;{cases(by rw[ae AV];simp;omega:B=dF);refine fw (λy=>I y (Ax w 0)=dU r/\I y (Aw w 2)=dU x/\I y (Aw w 4)=dS (Ad b o) n c) ⟨KA,KB,KC⟩ λhS=>?_;refine gr 0 1 2 3 4 5 6 7 hS ?_;refine fu 8 9 hS ?_;refine tn 10 hS ?_;refine iT 11 12 13 14 hS ?_;refine iT 15 16 17 18 hS ?_;refine iT 19 20 21 22 hS ?_;refine sn 23 hS ?_;refine sn 24 hS ?_;refine tn 25 hS ?_;refine fQ ?_;exact aV};{
 by_cases si:k=0;{
 have Z9:¬(0:Int)<(k:Int):=af;refine fw (λy=>I y (Ax w 0)=dU r/\I y (Aw w 2)=dU x/\I y (Aw w 4)=dS (Ad b o) n c) ⟨KA,KB,KC⟩ λhS=>?_;refine gr 0 1 2 3 4 5 6 7 hS ?_;refine iy 8 9 10 11 hS ?_;refine fu 12 13 hS ?_;refine iT 14 15 16 17 hS ?_;refine iT 18 19 20 21 hS ?_;refine sn 22 hS ?_;refine sn 23 hS ?_;refine fu 24 25 hS ?_;refine fQ ?_;have E:=ae AV;rw[show(k==0)=dY by simp[si]]at E;by_cases h5:D<0;{cases(by rw[E];simp;omega:B=dF);exact aV};{
 by_cases h6:1000015<D;{cases(by rw[E];simp;omega:B=dF);exact aV};{
 cases(by rw[E];simp[show 1<=r by omega,show r<=x by omega,show 0<=D by omega,show D<=1000015 by omega]:B=T);clear E
 go_wp21
 refine cL (cl6 EM (by exact HRQ.H BX.drew) hm HBQ ET) λw2 aA=>?_;have b2:=aj BX.drew aA;clear aA;go_wp2;go_ret;exact⟨rfl,b2⟩}}};{
 obtain⟨j,ej⟩:∃j:Nat,(k:Int)-1=(j:Int):=⟨k-1,af⟩;have Fk:k-1=j:=af;have tK:j<J ss:=aM (ae HL);let⟨⟨z,zz⟩,hz⟩:=qH tK;have ZK:(jE ss j (0,0,[])).1=z:=by rw[ko,hz];rfl
 have E:=ae AV;rw[Fk,ZK]at E;have KZ:O (I X (Ad b (o+j*3))=dU z):=aq (ae HCA j _ hz).1 BX;have hp:0<k:=af;have Z9:=uX 0 k;have SJ:=cM j n;have hj0:=gS 0 j;have wj:=iM j;rw[show(k==0)=dF by simp[si],VT]at E;have M:O (B=(dD (1<=r)&&(dD (r<=x)&&(dD (z<r)&&(dD (0<=D)&&(dD (D<=1000015)&&T)))))):=E;clear E;clear hz ZK tK Fk si;by_cases hzI:z<r;{
 have hle:¬r<=z:=af;refine fw (λy=>I y (Ax w 0)=dU r/\I y (Aw w 2)=dU x/\I y (Aw w 4)=dS (Ad b o) n c/\I y (Ad b (o+j*3))=dU z) ⟨KA,KB,KC,KZ⟩ λhS=>?_;refine gr 0 1 2 3 4 5 6 7 hS ?_;refine gr 8 9 10 11 12 13 14 15 hS ?_;refine gr 16 17 18 19 20 21 22 23 hS ?_;refine fu 24 25 hS ?_;refine fQ ?_;clear hS;by_cases h5:D<0;{cases(by rw[ae M];simp;omega:B=dF);exact aV};{
 by_cases h6:1000015<D;{cases(by rw[ae M];simp;omega:B=dF);exact aV};{
 cases(by rw[ae M];simp only[show dD (1<=r)=dY by(rw[wR];omega),show dD (r<=x)=dY by(rw[wR];omega),show dD (z<r)=dY by(rw[wR];omega),show dD (0<=D)=dY by(rw[wR];omega),show dD (D<=1000015)=dY by(rw[wR];omega),yG]:B=T)
 go_wp21
 refine cL (cl6 EM (HRQ.H BX.drew) hm HBQ ET) λw2 aA=>?_;have b2:=aj BX.drew aA;exact aV}}};{have hle:r<=z:=af;cases(by rw[ae M];simp;omega:B=dF);refine fw (λy=>I y (Ax w 0)=dU r/\I y (Aw w 2)=dU x/\I y (Aw w 4)=dS (Ad b o) n c/\I y (Ad b (o+j*3))=dU z) ⟨KA,KB,KC,KZ⟩ λhS=>?_;refine gr 0 1 2 3 4 5 6 7 hS ?_;refine gr 8 9 10 11 12 13 14 15 hS ?_;refine gr 16 17 18 19 20 21 22 23 hS ?_;refine fu 24 25 hS ?_;refine fQ ?_;exact aV}}}}
theorem bB0(w:G)(C:iA)(e:TypeId)(fr:Nat×Nat)(i:Nat):I (jA w (dO C e fr)) (Aw w i)=C[i]?:=by
 have h:(jA w (dO C e fr)).heap[U (Q w)]?=dO C e fr:=by show(w.heap.push (dO C e fr))[U (Q w)]?=_;simp
 unfold World.cell?;rw[h];rfl
def xM(l:LI)(k:Nat):Nat:=(jR k).foldl (λa i=>if jE l i 0=47 then i else a) 0
theorem Zs(l:LI)(k:Nat):xM l (k+1)=if jE l k 0=47 then k else xM l k:=by
 rw[xM,bc7,VQ];rfl
def iV(l:LI):LI:=if xM l (J l)=0 then[47]else jT (xM l (J l)) l
theorem aw2(en:Le l n)(h:Rd w (.S p n c) l)(hn:Mg n)(hc:n<=c)(qn:c<=maxLen):dQ dG 154 #[.S p n c] w λr w'=>∃q m d,r=dR (.S q m d)/\J (iV l)=m/\m<=n+1/\Rd w' (.S q m d) (iV l)/\Bw w w':=by
 have N:=ai h;clear h;go_in
 go_wp21
 go_loopw[3,4](λav B wr=>∃k a:Nat,k<=n/\B=.I k/\av=.I a/\a<=k/\O (xM l k=a)/\wr=w) (λ_ B _=>n-(jN (intOf B)))
 exact⟨0,0,de _,rfl,rfl,fS _,di,rfl⟩;{
 obtain⟨k,a,hk,rfl,rfl,hak,M,rfl⟩:=hrel;by_cases X:k<n;{
 have dm:=cM k n;have V:k<J l:=ae en▸X;obtain⟨b,o,rfl,-,R⟩:=N.at af;have Z:=R k V;have j:=Zs l k;let⟨y,W⟩:=bu (jE l k 0);rw[W]at Z j;clear R V W;by_cases u:y=47;{subst u;rw[aK rfl]at j;have x:=ai j;clear j;go_wp2;go_roundw;exact⟨k+1,k,af,by go_num,rfl,af,x,by first|rfl|trivial⟩;exact dy};{
 have fD0:(y==47)=dF:=by simp[u]
 rw[aJ u,ae M]at j;have x:=ai j;clear j;go_wp2;go_roundw;exact⟨k+1,a,af,by go_num,rfl,af,x,by first|rfl|trivial⟩;exact dy}};{
 have dm:=ga k n;cases(af:k=n);clear hk X;by_cases E:a=0;{
 subst E;have s:O (iV l=[47]):=ai (by rw[iV,ae en,ae M,aK rfl]);have hcv:=Lib.run_convert_bytes_const (P:=dG) wr 22 5 #[jK .u8 47] 1 1 underlying22 underlying5;go_wp2;go_ret;refine⟨_,_,_,rfl,by rw[ae s];rfl,af,?_,cY⟩;rw[ae s];refine⟨_,_,rfl,.R ⟨U (Q wr),0,rfl,λi hi=>?_⟩⟩
 match i,hi with
 |0,_=>(rw[nY,bB0];rfl)}
 {
 have DC:((a:Int)==0)=dF:=by simp[E]
 have s:O (iV l=jT a l):=ai (by rw[iV,ae en,ae M,aJ E]);obtain⟨b,o,rfl,-,-⟩:=N.at (by rw[ae en];omega);have g2:=qx a c;go_wp2;go_ret;exact⟨_,_,_,rfl,by rw[ae s,tz,ae en];omega,af,by rw[ae s];exact N.cut 0 a (de _) (by rw[ae en];omega) (Ad b o) (.R rfl) c (jT a l) al,bD _ _⟩}}}
def vU(v:dV):Prop:=∃p n c,v=.S p n c/\n<=c/\c<=maxLen
structure KL(w:G)(b a:Nat)(nd:au)(P V H iU:dV):Prop where
 c0:I w (Ad b a)=P
 c1:I w (Ad b (a+1))=V
 c2:I w (Ad b (a+2))=dU nd.D
 c3:I w (Ad b (a+3))=dI nd.M
 c4:I w (Ad b (a+4))=H
 c5:I w (Ad b (a+5))=dU nd.P
 c6:I w (Ad b (a+6))=dU nd.F
 c7:I w (Ad b (a+7))=iU
 r0:Rd w P nd.A
 r1:Rd w V nd.V
 r4:kI w H nd.y
 r7:kI w iU nd.X
 k0:vU P
theorem KL.H{nd:au}{P V H iU:dV}(h:KL w b a nd P V H iU)(i:Bw w w'):KL w' b a nd P V H iU:=
 ⟨aq h.c0 i,aq h.c1 i,aq h.c2 i,aq h.c3 i,aq h.c4 i,aq h.c5 i,aq h.c6 i,aq h.c7 i,h.r0.H i,h.r1.H i,h.r4.H i,h.r7.H i,h.k0⟩
def iw(w:G)(v:dV)(ns:List au):Prop:=
 ∃(p:OA)(c:Nat),v=.S p (J ns) c/\(ns=[]\/∃b o,p=(Ad b o)/\∀i j,ns[i]?=Y j->∃P V H iU,KL w b (o+i*8) j P V H iU)
theorem iw.H{ns:List au}(h:iw w v ns)(j:Bw w w'):iw w' v ns:=by
 obtain⟨p,c,rfl,h⟩:=h;refine⟨p,c,rfl,?_⟩;obtain h|⟨b,o,rfl,h⟩:=h;{exact .L h};{refine .R ⟨b,o,rfl,λi e he=>?_⟩;let⟨P,V,H,iU,m⟩:=h i e he;exact⟨P,V,H,iU,m.H j⟩}
abbrev Ee(P V:dV)(ow mo:Int)(H:dV)(ep ge:Int)(iU:dV):dV:=jP #[P,V,.U ow,.I mo,H,.U ep,.U ge,iU]
def qW(e g j:Int)(i:Nat)(o m:Int):Bool:=
 if j=1 then i==1&&(dD (1<=m)&&(dD (m<=g)&&dD (o<=e)))else o==0&&(m==0&&(if j=0 then i==0 else j==2&&dD (1<=i)))
theorem dQ6{o i m j:Int}{S N P V iU:dV}(u:Mg n)(q:O (qW e g i n m j=B)):dQ dG 157 #[cO e g x t S N,Ee P V o i (.S p n c) m j iU] w (Rb (jO B) w):=by
 go_in
 go_wp21
 all_goals(
  go_ret;refine⟨?_,cY.alloc al _⟩;rw[<-ae q];simp only[qW,aZ8])
 all_goals first|(simp_all;done)|(simp_all;omega)|skip
 all_goals(
  show Value.bool ((n:Int)==0)=Value.bool _;congr 1;have s:i=0:=(by simpa using ‹(i==0)=dY›);have r:j=0:=(by simpa using ‹(j != 0)=dF›);subst s r;rw[Ry]
  simp_all)
theorem iw.at{ns:List au}(h:iw w (.S p n c) ns)(m:0<J ns):∃b o,p=(Ad b o)/\∀i j,ns[i]?=Y j->∃P V H iU,KL w b (o+i*8) j P V H iU:=by
 obtain⟨x,y,ev,q⟩:=h;obtain⟨rfl,-,-⟩:=mh ev;obtain u|⟨b,o,s,r⟩:=q;{rw[u]at m;simp at m};{exact⟨b,o,s,r⟩}
theorem Rd.fq(h:Rd w v l):∃p c n,v=.S p n c/\Le l n:=by
 obtain⟨p,c,rfl,-⟩:=h;exact⟨p,c,_,rfl,di⟩
theorem List.cL1{α:Type}{ns:List α}{y:α}(h:ns[k]?=y):y::jD (k+1) ns=jD k ns:=by
 obtain⟨i,rfl⟩:=bH.1 h;exact(Lx i).C
def kP(ns:List au)(l:LI):Option au:=ns.find? λi=>dD (i.A=l)
theorem aw3{ns:List au}(en:Le ns n)(em:Le l m)(h:iw w (.S p n c) ns)(hl:Rd w (.S q m d) l)(hn:Mg n)(hm:m<=2^21)(X:O (aD l/\∀i∈ns,aD i.A)):dQ dG 109 #[cO e g x t S (.S p n c),.S q m d] w λr w'=>((∃(k:Nat)(i:au),r=dR (.I k)/\k<n/\ns[k]?=Y i/\kP ns l=Y i)\/(r=dR (.I (-1))/\kP ns l=dN))/\Bw w w':=by
 have HR:=ai λ(w':G)(hb:Bw w w')=>aE (h.H hb) (hl.H hb);go_in
 go_wp21
 let⟨W,y⟩:=aF (jA w (dO #[.U e,.U g,.U x,.I t,S,.S p n c] 44));have uq:I W (Aw w 5)=dS p n c:=by rw[y];simp
 rw[<-y]
 go_loopw[5](λiv wr=>∃k:Nat,k<=n/\iv=.I k/\O (kP (jT k ns) l=dN)/\Bw W wr) (pT n)
 exact⟨0,de _,rfl,di,bD _ _⟩;{
 obtain⟨k,hk,rfl,s,M⟩:=hrel;have R:=aj (ir y) M;have i5:=aq uq M;by_cases aH:k<n;{
 have dm:=cM k n;have fg:k<J ns:=ae en▸aH;let⟨hN,hL⟩:=ae HR _ R;obtain⟨b,o,rfl,hA⟩:=hN.at af;let⟨i,u⟩:=qH fg;let⟨P,V,H,iU,Z⟩:=hA k i u;have hP:=Z.c0;have Et:=Z.r0;obtain⟨pp,pc,pn,rfl,yb⟩:=Et.fq;have N:=ai u
 go_wp21
 refine cL (Sc yb em Et hL (X.2 i (bq u)) X.1) λw2 aA=>?_;by_cases j:i.A=l;{
 rw[show dD (i.A=l)=dY by simp[j]];have hF:O (kP ns l=Y i):=by
  show _=_;have e1:ns=jT k ns++i::jD (k+1) ns:=by rw[List.cL1 (ae N),JN]
  rw[e1,kP,List.find?_append,show(jT k ns).find? (λi=>dD (i.A=l))=dN from ae s];simp[j]
 have B:=aj R aA;go_wp2;go_ret;exact⟨.L ⟨k,i,rfl,aH,N,hF⟩,B⟩};{
 rw[show dD (i.A=l)=dF by simp[j]];have E:O (kP (jT (k+1) ns) l=dN):=by show _=_;rw[rD,ae N,kP,List.find?_append,show(jT k ns).find? (λi=>dD (i.A=l))=dN from ae s];simp[j]
 have B:=aj M aA;go_wp2;go_roundw;exact⟨k+1,af,by go_num,E,B⟩;exact dy}};{
 have dm:=ga k n;have hF:O (kP ns l=dN):=by show _=_;have:=ae s;rwa [nZ (by rw[ae en];omega)]at this
 go_wp2;go_ret;exact⟨.R ⟨rfl,hF⟩,R⟩}}
def qG(ns:List au)(l:LI):Bool:=if l=[47]then dY else match kP ns l with|some nd=>nd.D==0|none=>dF
theorem bf7{ns:List au}(en:Le ns n)(em:Le l m)(h:iw w (.S p n c) ns)(hl:Rd w (.S q m d) l)(hn:Mg n)(hm:m<=2^21)(dr:O (aD l/\∀j∈ns,aD j.A))(eB:O (qG ns l=B)):dQ dG 153 #[cO e g x t S (.S p n c),.S q m d] w (Rb (jO B) w):=by
 have E:=ai λ(w':G)(hb:Bw w w')=>aE (h.H hb) (hl.H hb);clear h hl;let⟨W,y⟩:=aF (jA w (dO #[.U e,.U g,.U x,.I t,S,.S p n c] 44));have sW:U (Q W)=U (Q w)+1:=by rw[y];simp
 have uq:jg W (U (Q w)) e g x t S (.S p n c):=by rw[y];simp[jg]
 have hcv:=Lib.run_convert_bytes_const (P:=dG) W 22 5 #[jK .u8 47] 1 1 underlying22 underlying5;simp only[show(#[Value.int .u8 47]:iA).size=1 from rfl]at hcv;let⟨X,u⟩:=aF (jA W (dO #[jK .u8 47] 5 (1,1+1)));have rX:Rd X (.T (U (Q w)+1) 1 1) [47]:=by
  rw[u,<-sW];refine⟨_,_,rfl,.R ⟨U (Q W),0,rfl,λi hi=>?_⟩⟩
  match i,hi with
  |0,_=>(rw[nY,bB0];rfl)
 have bX:Bw w X:=u▸(ir y).alloc af _;have iX:jg X (U (Q w)) e g x t S (.S p n c):=uq.H (u▸cY);rw[<-u,sW,y]at hcv;clear sW uq u y;let⟨RX,BX,IX⟩:=gC rX bX iX;clear rX bX iX;go_in
 go_wp21
 refine(Sc em di (ae E _ BX).2 RX dr.1 (by intro x hx;simp at hx;omega)).h ?_;rintro r w2⟨rfl,Z⟩;have N:=aj BX Z;let⟨j0,j1,j2,j3,j4,j5⟩:=IX.H Z;clear hcv Z;by_cases s:l=[47];{rw[show dD (l=[47])=dY by simp[s]];cases(by rw[<-ae eB,qG,aK s]:B);clear s;exact aV};{
 rw[show dD (l=[47])=dF by simp[s]];have hB:(match kP ns l with|some j=>j.D==0|none=>dF)=B:=by rw[<-ae eB,qG,aJ s]
 have HB:=ai hB;clear hB s
 go_wp21
 refine(aw3 en em (ae E _ N).1 (ae E _ N).2 hn hm dr).h ?_;rintro r w3⟨hr,R⟩;have b3:=aj N R;have k5:=aq j5 R;clear j0 j1 j2 j3 j4 j5 R;obtain⟨k,j,rfl,hk,hy,hF⟩|⟨rfl,hF⟩:=hr;{
 rw[hF]at HB;have fg:k<J ns:=ae en▸hk;obtain⟨b,o,rfl,hA⟩:=(ae E _ b3).1.at af;let⟨P,V,H,iU,aI⟩:=hA k j hy;have hO:=aI.c2;have OI:=cM k n;have si:=gS 0 k;clear hA aI fg hy hF;cases B with
 |true=>
  have M:j.D=0:=by have:=ae HB;simpa using this
  rw[M]at hO;clear M;exact aV
 |false=>
  have M:(j.D==0)=dF:=ae HB;exact aV};{rw[hF]at HB;cases HB.C;clear hF;exact aV}}
def leB(l m:LI):Bool:=Op.bytesLess (bg l).toList (bg m).toList||(bg l).toList==(bg m).toList
def kx:au:=⟨[],[],0,0,[],0,0,[]⟩
def wF(e g:Int)(ss:List aB)(ns:List au)(k:Nat):Bool:=
 let i:=jE ns k kx
 (vp i.A&&(k==0||!leB i.A (jE ns (k-1) kx).A))&&(qG ns (iV i.A)&&(dD (J i.V<=40)&&((i.D==0||live ss i.D)&&(sS ss i.y&&(sS ss i.X&&qW e g i.M (J i.y) i.P i.F)))))
theorem Vs(h:aD l):aD (iV l):=by
 unfold iV;split;{intro x i;simp at i;omega};{exactλx i=>h x (Rz i)}
theorem kI.fq(h:kI w v l):∃p c n,v=.S p n c/\Le l n:=by
 obtain⟨p,c,rfl,-⟩:=h;exact⟨p,c,_,rfl,di⟩
theorem dQ3{ss:List aB}{ns:List au}(en:Le ss n)(em:Le ns m)(h:nO w (.S p n c) ss)(hN:iw w (.S q m d) ns)(hn:Mg n)(hm:Mg m)(hk:k<m)(dr:O (Bn ns))(eB:O (wF e g ss ns k=B)):dQ dG 90 #[cO e g x t (.S p n c) (.S q m d),.I k] w (Rb (jO B) w):=by
 have HR:=ai λ(w':G)(hb:Bw w w')=>aE (h.H hb) (hN.H hb);have fg:k<J ns:=ae em▸hk;let⟨u,hy⟩:=qH fg;have yL:jE ns k kx=u:=by rw[ko,hy];rfl
 obtain⟨b,o,rfl,hA⟩:=hN.at af;let⟨P,V,H,iU,aI⟩:=hA k u hy;let⟨rJ,gu,Pk,Kk,Mu⟩:=ae dr _ (bq hy);obtain⟨N,W,M,rfl,yb⟩:=aI.r0.fq;obtain⟨Lc,vc,vn,rfl,PR⟩:=aI.r1.fq;obtain⟨hp,hc,hh,rfl,Cq⟩:=aI.r4.fq;obtain⟨up,uc,un,rfl,GN⟩:=aI.r7.fq;have JT:M<=2^20:=ae yb▸gu;have hvn:vn<=2^20:=ae PR▸Pk;have Ml:hh<=2^20:=ae Cq▸Kk;have Mb:un<=2^20:=ae GN▸Mu;have OI:=cM k m;have ed6:=gS 0 k;have b1:Bw w (jA w (dO #[.U e,.U g,.U x,.I t,.S p n c,.S (Ad b o) m d] 44)):=cY;obtain⟨c0,c1,c2,c3,c4,c5,c6,c7,-,-,-,-,-⟩:=aI.H b1;let⟨Jb,XN⟩:=aQ aI rJ;go_in
 go_wp21
 let⟨X,hX⟩:=aF (jA (jA w (dO #[.U e,.U g,.U x,.I t,.S p n c,.S (Ad b o) m d] 44)) (dO #[.S N M W,.S Lc vn vc,.U u.D,.I u.M,.S hp hh hc,.U u.P,.U u.F,.S up un uc] 149));have bX:Bw w X:=hX▸b1.alloc al _;have iX:jg X (U (Q w)) e g x t (.S p n c) (.S (Ad b o) m d):=by rw[hX];simp[jg]
 have nX:KL X (U (Q w)+1) 0 u (.S N M W) (.S Lc vn vc) (.S hp hh hc) (.S up un uc):=
  ⟨by rw[hX];simp,by rw[hX];simp,by rw[hX];simp,by rw[hX];simp,by rw[hX];simp,by rw[hX];simp,by rw[hX];simp,by rw[hX];simp,Jb.r0.H bX,Jb.r1.H bX,Jb.r4.H bX,Jb.r7.H bX,Jb.k0⟩
 rw[<-hX];let⟨BX,IX,y⟩:=gC bX iX nX;let⟨V1,eV⟩:=bu (vp u.A);have EV:=ai eV;obtain⟨C,eC⟩:∃C,(!(V1&&(k==0||!leB u.A (jE ns (k-1) kx).A)))=C:=⟨_,rfl⟩;have hB:B=(!C&&(qG ns (iV u.A)&&(dD (J u.V<=40)&&((u.D==0||live ss u.D)&&(sS ss u.y&&(sS ss u.X&&qW e g u.M (J u.y) u.P u.F)))))):=by rw[<-ae eB,wF,yL,<-eC,bc5,show vp u.A=V1 from ae EV]
 go_cut[32](λrv wc=>rv=jO C/\Bw w wc/\jg wc (U (Q w)) e g x t (.S p n c) (.S (Ad b o) m d)/\KL wc (U (Q w)+1) 0 u (.S N M W) (.S Lc vn vc) (.S hp hh hc) (.S up un uc))
 case first=>(
 cases V1 with
 |false=>
  cases(by rw[<-eC];rfl:C);refine fw (λw'=>I w' (Ax w 0)=dS N M W/\I w' (Aw w 5)=dS (Ad b o) m d/\Rd w' (.S N M W) u.A) ⟨y.c0,IX.2.2.2.2.2,y.r0⟩ λhS=>?_;refine fu 0 1 hS ?_;refine ry [2] ?_;refine cn (λKK hK=>?_) ?_;{
 refine ju (Yu yb (by exact y.r0) XN JT EV) ?_;rintro r w2⟨rfl,aA⟩;refine fE ?_;have aR:Bw X w2:=aj (bD (U (Q X)) X).drew aA;refine bS hK ⟨aq y.c0 aR,aq IX.2.2.2.2.2 aR,y.r0.H aR⟩ λhS=>?_;refine fu 3 4 hS ?_;refine iT 5 6 7 8 hS ?_;refine iT 9 10 11 12 hS ?_;refine iT 13 14 15 16 hS ?_;refine iT 17 18 19 20 hS ?_;refine tn 21 hS ?_;refine fQ ?_
 go_wp21
 go_meet;exact⟨rfl,aj BX aR,IX.H aR,y.H aR⟩};exact fN
 |true=>
  by_cases si:k=0;{
 cases(by rw[<-eC,si];rfl:C=dF);let⟨Z9,fv7⟩:¬0<k/\¬(0:Int)<(k:Int):=af;clear eC si;refine fw (λw'=>I w' (Ax w 0)=dS N M W/\I w' (Aw w 5)=dS (Ad b o) m d/\Rd w' (.S N M W) u.A) ⟨y.c0,IX.2.2.2.2.2,y.r0⟩ λhS=>?_;refine fu 0 1 hS ?_;refine fy 2 λKK hK=>?_;refine ju (Yu yb (by exact y.r0) XN JT EV) ?_;rintro r w2⟨rfl,aA⟩;refine fE ?_;have aR:Bw X w2:=aj (bD (U (Q X)) X).drew aA;refine bS hK (by exact⟨aq y.c0 aR,aq IX.2.2.2.2.2 aR,y.r0.H aR⟩) λhS=>?_;clear hK KK;refine iy 3 4 5 6 hS ?_;refine tn 7 hS ?_;refine iT 8 9 10 11 hS ?_;refine iT 12 13 14 15 hS ?_;refine iT 16 17 18 19 hS ?_;refine fu 20 21 hS ?_;refine fQ ?_;clear hS
 go_wp21
 go_meet;exact⟨rfl,aj BX aR,IX.H aR,y.H aR⟩};{
 obtain⟨j,ej⟩:∃j:Nat,(k:Int)-1=(j:Int):=⟨k-1,af⟩;let⟨Fk,tK⟩:k-1=j/\j<J ns:=af;let⟨zd,hz⟩:=qH tK;have ZK:jE ns j kx=zd:=by rw[ko,hz];rfl
 let⟨Z,Z1,Z2,Z3,hzn⟩:=hA j zd hz;obtain⟨zp,zc,zn,rfl,eZn⟩:=hzn.r0.fq;let⟨KZ,RZ⟩:=aQ (aq hzn.c0 BX) (hzn.r0.H BX);have hpk:0<k:=af;have fv4:=uX 0 k;have SJ:=cM j m;have hj0:=gS 0 j;have wj:=iM j;rw[Fk,ZK,show(k==0)=dF by simp[si],yG,VT,bc5]at eC;have HLE:O ((Op.bytesLess (bg u.A).toList (bg zd.A).toList||(bg u.A).toList==(bg zd.A).toList)=C):=eC;clear hz ZK tK hzn Fk si eC;refine fw (λw'=>I w' (Ax w 0)=dS N M W/\I w' (Aw w 5)=dS (Ad b o) m d/\Rd w' (.S N M W) u.A/\I w' (Ad b (o+j*8))=dS zp zn zc/\Rd w' (.S zp zn zc) zd.A) ⟨y.c0,IX.2.2.2.2.2,y.r0,KZ,RZ⟩ λhS=>?_;refine fu 0 1 hS ?_;refine ry [2] ?_;refine cn (λKK hK=>?_) ?_;{
 refine ju (Yu yb (by exact y.r0) XN JT EV) ?_;rintro r w2⟨rfl,aA⟩;refine fE ?_;have aR:Bw X w2:=aj (bD (U (Q X)) X).drew aA;refine bS hK ⟨aq y.c0 aR,aq IX.2.2.2.2.2 aR,y.r0.H aR,aq KZ aR,RZ.H aR⟩ λhS=>?_;clear hK KK;refine iy 3 4 5 6 hS ?_;refine fu 7 8 hS ?_;refine tn 9 hS ?_;refine JG (i:=10) (oi:=_) (v:=?_) (by simp only[rB,sR,sQ];rfl) aS aS aS (λ_ _ _ h=>h) (Or.L ⟨aY,?_⟩) hS ?_;rotate_left;{(intro w' pf;(try dsimp only at pf);have hcv:=vz yb pf.2.2.1;go_simp;try with_reducible rfl)}
 simp only[Act.put,xa,xb,xc];refine iy 11 12 13 14 hS ?_;refine fu 15 16 hS ?_;refine tn 17 hS ?_;refine JG (i:=18) (oi:=_) (v:=?_) (by simp only[rB,sR,sQ];rfl) aS aS aS (λ_ _ _ h=>h) (Or.L ⟨aY,?_⟩) hS ?_;rotate_left;{(intro w' pf;(try dsimp only at pf);have hcv:=vz eZn pf.2.2.2.2;go_simp;try with_reducible rfl)}
 simp only[Act.put,xa,xb,xc];refine JG (i:=19) (oi:=_) (v:=?_) (by simp only[rB,sR,sQ];rfl) aS aS aS (λ_ _ _ h=>h) (Or.L ⟨aY,?_⟩) hS ?_;rotate_left;{(intro w' pf;(try dsimp only at pf);have hle:=ae HLE;go_simp;try with_reducible rfl)}
 simp only[Act.put,xa,xb,xc];refine fu 20 21 hS ?_;refine fQ ?_;clear hS
 go_wp21
 go_meet;exact⟨rfl,aj BX aR,IX.H aR,y.H aR⟩};exact fN})
 obtain⟨rfl,tM,⟨i0,i1,i2,i3,i4,i5⟩,qi⟩:=hcut;have uD:=ai qi;obtain⟨c0,c1,c2,c3,c4,c5,c6,c7,-,-,-,-,-⟩:=qi;clear EV Jb y IX BX;cases C with
 |true=>
  cases(by rw[hB];rfl:B=dF);clear hB eC;exact aV
 |false=>
  rw[bc4,yG]at hB;have HB:=ai hB;clear hB eC
  go_wp21
  let⟨pa,pb,pd,epp,We,hpm⟩:=uD.k0;obtain⟨rfl,rfl,rfl⟩:=mh epp;have I6:O (jg wc (U (Q w)) e g x t (.S p n c) (.S (Ad b o) m d)):=⟨i0,i1,i2,i3,i4,i5⟩;have hcp:∀(vs:iA)(w:G),(callFunc 154 vs).run dG w=.ok (.enter 154 vs) w:=λvs w=>aS;have HCP:=ai hcp;have mR:∀(vs:iA)(w:G),(callFunc 153 vs).run dG w=.ok (.enter 153 vs) w:=λvs w=>aS;have pI:=ai mR;have HBN:O (aD (iV u.A)/\∀u∈ns,aD u.A):=⟨Vs XN,λu h=>(ae dr u h).1⟩;clear i0 i1 i2 i3 i4 i5 c0 c1 c2 c3 c4 c5 c6 c7 hcp mR;let⟨C2,eC2⟩:=bu (qG ns (iV u.A));have EC2:=ai eC2;obtain⟨C3,MK⟩:∃C3,(!(C2&&dD (J u.V<=40)))=C3:=⟨_,rfl⟩;have gu:B=(!C3&&((u.D==0||live ss u.D)&&(sS ss u.y&&(sS ss u.X&&qW e g u.M (J u.y) u.P u.F)))):=by rw[ae HB,eC2,<-MK,bc5,Bool.and_assoc]
  rw[ae PR]at MK;clear eC2 HB
  go_cut[44](λrv w'=>rv=jO C3/\Bw w w'/\jg w' (U (Q w)) e g x t (.S p n c) (.S (Ad b o) m d)/\KL w' (U (Q w)+1) 0 u (.S N M W) (.S Lc vn vc) (.S hp hh hc) (.S up un uc))
  case first=>(
 clear gu;cases C2 with
 |false=>
  cases(by rw[<-MK];rfl:C3);clear MK;refine fw (λw'=>jg w' (U (Q w)) e g x t (.S p n c) (.S (Ad b o) m d)/\I w' (Ax w 0)=dS N M W/\I w' (Ax w 1)=dS Lc vn vc) ⟨I6,uD.c0,uD.c1⟩ λhS=>?_;refine fu 0 1 hS ?_;refine tn 2 hS ?_;refine ry [3] ?_;refine cn (λKK hK=>?_) ?_;{
 refine Jr aY aY aY (λ_=>ae HCP _ _) (aw2 yb uD.r0 JT We hpm) ?_;rintro r w2⟨q',m',d',rfl,WV,Sx,hr',aA⟩;refine fE ?_;have aR:Bw wc w2:=aj (bD (U (Q wc)) wc).drew aA;refine bS hK ⟨I6.H aR,aq uD.c0 aR,aq uD.c1 aR⟩ λhS=>?_;clear hK KK;refine fy 4 λKK hK=>?_;refine Yt aY aY aY aY (λ_=>ae pI _ _) (bf7 em WV (ae HR _ (aj tM aR)).2 hr' hm af HBN EC2) ?_;rintro r w3⟨rfl,aL⟩;refine fE ?_;have dz:Bw wc w3:=aj aR aL;refine bS hK ⟨I6.H dz,aq uD.c0 dz,aq uD.c1 dz⟩ λhS=>?_;clear hK KK;refine fu 5 6 hS ?_;refine iT 7 8 9 10 hS ?_;refine tn 11 hS ?_;refine fQ ?_;clear hS
 go_wp21
 go_meet;exact⟨rfl,aj tM dz,I6.H dz,uD.H dz⟩};exact fN
 | true=>
  by_cases h40:vn<=40;{cases(by rw[<-MK];simp[h40]:C3=dF);have es6:¬(40:Int)<(vn:Int):=af;clear MK;refine fw (λw'=>jg w' (U (Q w)) e g x t (.S p n c) (.S (Ad b o) m d)/\I w' (Ax w 0)=dS N M W/\I w' (Ax w 1)=dS Lc vn vc) ⟨I6,uD.c0,uD.c1⟩ λhS=>?_;refine fu 0 1 hS ?_;refine tn 2 hS ?_;refine fy 3 λKK hK=>?_;exact zs7};{cases(by rw[<-MK];simp[h40]:C3);have es6:=uX 40 vn;clear MK;refine fw (λw'=>jg w' (U (Q w)) e g x t (.S p n c) (.S (Ad b o) m d)/\I w' (Ax w 0)=dS N M W/\I w' (Ax w 1)=dS Lc vn vc) ⟨I6,uD.c0,uD.c1⟩ λhS=>?_;refine fu 0 1 hS ?_;refine tn 2 hS ?_;refine ry [3] ?_;refine cn (λKK hK=>?_) ?_;{exact zs7};exact fN})
  obtain⟨rfl,Pb,⟨i0,i1,i2,i3,i4,i5⟩,cs1⟩:=hcut;have sI:=ai cs1;obtain⟨c0,c1,c2,c3,c4,c5,c6,c7,-,-,-,-,-⟩:=cs1;clear I6 uD HCP pI HBN EC2 MK;cases C3 with
  |true=>
   cases(by rw[gu];rfl:B=dF);clear gu;exact aV
  |false=>
   rw[bc4,yG]at gu;let⟨ow,eo⟩:=bu u.D;rw[eo]at gu c2;clear eo;by_cases ho:ow=0;{
 subst ho;have sJ:O (B=(sS ss u.y&&(sS ss u.X&&qW e g u.M (J u.y) u.P u.F))):=gu;clear gu;let⟨T1,TM⟩:=bu (sS ss u.y);let⟨T2,IL⟩:=bu (sS ss u.X);let⟨T3,IK⟩:=bu (qW e g u.M hh u.P u.F);let⟨ET1,ET2,ET3⟩:=gC TM IL IK;have Nn:O (B=(T1&&(T2&&T3))):=ai (by rw[ae sJ,TM,IL,ae Cq,IK]);clear TM IL IK sJ
 go_wp21
 refine cL (bf5 en Cq (ae HR _ Pb).1 sI.r4 hn Ml ET1) λwa sw=>?_;have Ba:=aj Pb sw;have HNa:=ai (sI.H sw);exact zs2};{
 have hod:(ow==0)=dF:=by simp[ho]
 have fv8:(ow != 0):=by simp[ho]
 rw[hod,VT]at gu;let⟨L,eL⟩:=bu (live ss ow);have EL:O ((ss.any λs=>s.1==ow)=L):=eL;rw[eL]at gu;have sJ:=ai gu;clear gu eL
 go_wp21
 refine cL (ZB en (ae HR _ Pb).1 hn EL) λw2 aA=>?_;have b2:=aj Pb aA;cases L with
 |false=>
  cases(by rw[ae sJ];rfl:B=dF);clear sJ;exact aV
 |true=>
  have sJ:O (B=(sS ss u.y&&(sS ss u.X&&qW e g u.M (J u.y) u.P u.F))):=ae sJ;have Qy:=ai (sI.H aA);replace i0:=aq i0 aA;replace i1:=aq i1 aA;replace i2:=aq i2 aA;replace i3:=aq i3 aA;replace i4:=aq i4 aA;replace i5:=aq i5 aA;replace c0:=aq c0 aA;replace c1:=aq c1 aA;replace c2:=aq c2 aA;replace c3:=aq c3 aA;replace c4:=aq c4 aA;replace c5:=aq c5 aA;replace c6:=aq c6 aA;replace c7:=aq c7 aA;clear aA;let⟨T1,TM⟩:=bu (sS ss u.y);let⟨T2,IL⟩:=bu (sS ss u.X);let⟨T3,IK⟩:=bu (qW e g u.M hh u.P u.F);let⟨ET1,ET2,ET3⟩:=gC TM IL IK;have Nn:O (B=(T1&&(T2&&T3))):=by show _=_;rw[ae sJ,TM,IL,ae Cq,IK]
  clear TM IL IK sJ
  go_wp21
  refine cL (bf5 en Cq (ae HR _ b2).1 Qy.r4 hn Ml ET1) λwa sw=>?_;have Ba:=aj b2 sw;have HNa:=ai (Qy.H sw);exact zs2}
def nT(e g x t:Int)(ss:List aB)(ns:List au):Bool:=
 dD (e<=2^62/\g<=2^62/\x<=2^62/\0<=t/\t<=1000000/\J ss<=50/\J ns<=200)&&((jR (J ss)).all (yB x ss)&&(jR (J ns)).all (wF e g ss ns))
theorem aR8{ss:List aB}{ns:List au}(N:Le ss n)(em:Le ns m)(h:nO w (.S p n c) ss)(hN:iw w (.S q m d) ns)(hn:Mg n)(hm:Mg m)(ig:O (Bs ss))(dr:O (Bn ns))(eB:O (nT e g x t ss ns=B)):dQ dG 49 #[cO e g x t (.S p n c) (.S q m d)] w (Rb (jO B) w):=by
 have Z:=ai λ(w':G)(hb:Bw w w')=>aE (h.H hb) (hN.H hb);have X:Bw w (jA w (dO #[.U e,.U g,.U x,.I t,.S p n c,.S q m d] 44)):=cY;have hB:B=(dD (e<=2^62/\g<=2^62/\x<=2^62/\0<=t/\t<=1000000/\n<=50/\m<=200)&&((jR n).all (yB x ss)&&(jR m).all (wF e g ss ns))):=by rw[<-ae eB,nT,ae N,ae em]
 have HB:=ai hB;clear h hN hB eB;by_cases h0:2^62<e;{exact QJ};{
 have q0:e<=2^62:=af;by_cases h1:2^62<g;{exact QJ};{
 have q1:g<=2^62:=af;by_cases h2:2^62<x;{exact QJ};{
 have q2:x<=2^62:=af;by_cases h3:t<0;{exact QJ};{
 have q3:0<=t:=af;by_cases h4:1000000<t;{exact QJ};{
 have q4:t<=1000000:=af;by_cases h5:(50:Int)<(n:Int);{exact QJ};{
 have q5:n<=50:=af;by_cases h6:(200:Int)<(m:Int);{exact QJ};{
 have q6:m<=200:=af;have oF:O (B=((jR n).all (yB x ss)&&(jR m).all (wF e g ss ns))):=by show _=_;rw[ae HB,LG ⟨q0,q1,q2,q3,q4,q5,q6⟩,yG]
 clear HB;go_in
 go_wp21
 let⟨W,M⟩:=aF (jA w (dO #[.U e,.U g,.U x,.I t,.S p n c,.S q m d] 44));have rH:jg W (U (Q w)) e g x t (.S p n c) (.S q m d):=by rw[M];simp[jg]
 rw[<-M]at X⊢;clear M;let⟨BW,D⟩:=aQ X rH;clear X rH
 go_loopw[3](λE wr=>∃k:Nat,k<=n/\E=.I k/\O ((jR k).all (yB x ss))/\Bw W wr) (pT n)
 exact⟨0,de _,rfl,di,bD _ _⟩;{
 obtain⟨k,hk,rfl,s,i⟩:=hrel;have r:=aj BW i;have i0:=D.H i;by_cases u:k<n;{
 have V:=cM k n;let⟨T,o⟩:=bu (yB x ss k)
 go_wp21
 refine cL (dQ2 N (ae Z _ r).1 hn u ig o) λw2 y=>?_;cases T with
 |false=>
  cases(by rw[ae oF,Jz u o];rfl:B=dF);have b2:=aj r y;exact aV
 |true=>
  go_wp2;go_roundw;exact⟨k+1,af,by go_num,Hn s o,aj i y⟩;exact dy};{
 have V:=ga k n;have Fj:k=n:=af;have sJ:O (B=(jR m).all (wF e g ss ns)):=by show _=_;rw[ae oF,show(jR n).all (yB x ss)=dY from Fj▸ae s,yG]
 have yx:=ai (D.H i)
 go_wp21
 let⟨iY,eY⟩:=aF wr;subst eY
 go_loopw[4](λE wr=>∃k:Nat,k<=m/\E=.I k/\O ((jR k).all (wF e g ss ns))/\Bw iY wr) (pT m)
 exact⟨0,de _,rfl,di,bD _ _⟩;{
 obtain⟨j,hk,rfl,s,i⟩:=hrel;have r:=aj r i;have i0:=yx.H i;by_cases u:j<m;{
 have V:=cM j m;let⟨T,o⟩:=bu (wF e g ss ns j)
 go_wp21
 refine cL (dQ3 N em (ae Z _ r).1 (ae Z _ r).2 hn hm u dr o) λw2 y=>?_;cases T with
 |false=>
  cases ae sJ▸Jz u o;have b2:=aj r y;exact aV
 |true=>
  go_wp2;go_roundw;exact⟨j+1,af,by go_num,Hn s o,aj i y⟩;exact dy};{have V:=ga j m;have R:j=m:=af;cases(by rw[ae sJ,<-R];exact ae s:B);exact aV}}}}}}}}}}}
open Go.Maps (Keyed IsMap)
def kc:dV->Option (DataW Unit×List MemPlace)
 |dP (Y ⟨b,0,dN⟩)=>Y (.lit (.int jV b),[])
 |dP dN=>Y (.nil,[])
 |_=>dN
theorem as4(b:Nat):kc (Pz b)=Y (.lit (.I b),[]):=rfl
theorem Vr(h:kc v=Y (.lit (.I b),ps)):v=Pz b:=by
 unfold kc at h;split at h;{simp only[oK,lE,DataW.lit.injEq,NR,Ef,Int.natCast_inj]at h;rw[h.1]};{simp at h};{simp at h}
theorem aV7(h:kc v=Y (.nil,ps)):v=dP dN:=by
 unfold kc at h;split at h;{simp at h};{rfl};{simp at h}
structure rr(D:DataW Unit)(l:List (Lit×Nat)):Prop where
 hs:∀k,Maps.has D k=dY↔∃p∈l,p.1=k
 at':∀p∈l,∀z,D.atKey p.1 z=.lit (.I p.2)
theorem rr.nil:rr (.map []) []:=⟨λk=>by simp[Maps.has],λp hp=>by simp at hp⟩
theorem rr.put{l:List (Lit×Nat)}(h:rr D l)(o:IsMap D){k:Lit}(m:WideAt.IsKeyLit k)(q:∀p∈l,p.1≠k)(g:Nat):rr (D.put k (.lit (.I g))) (l++[(k,g)]):=by
 refine⟨λj=>?_,λp i z=>?_⟩;{by_cases e:j=k;{subst e;simp[Maps.has_put_same o m]};{rw[Maps.has_put_other e,h.hs j];constructor;{rintro⟨p,i,rfl⟩;exact⟨p,by simp[i],rfl⟩};{rintro⟨p,i,rfl⟩;obtain i|i:=jl.1 i;{exact⟨p,i,rfl⟩};{simp at i;subst i;exact absurd rfl e}}}};{obtain i|i:=jl.1 i;{rw[Maps.atKey_put_other (q p i)];exact h.at' p i z};{simp at i;subst i;exact Maps.atKey_put_same o m _ _}}
def lX(D:DataW Unit)(s:LI):Prop:=∀k,Maps.has D k=dY↔∃i∈s,k=.U i
theorem lX.nil:lX (.map []) []:=λk=>by simp[Maps.has]
theorem lX.put(h:lX D s)(q:IsMap D)(i:Int)(d:DataW Unit):lX (D.put (.U i) d) (s++[i]):=by
 intro o;by_cases e:o=.U i;{subst e;rw[Maps.has_put_same q (by trivial)];simp};{rw[Maps.has_put_other e,h o];constructor;{rintro⟨j,m,rfl⟩;exact⟨j,by simp[m],rfl⟩};{rintro⟨j,m,rfl⟩;obtain m|m:=jl.1 m;{exact⟨j,m,rfl⟩};{simp at m;subst m;exact absurd rfl e}}}
theorem lX.ds9(h:lX D s)(m:IsMap D)(j:∀es,D=.map es->∀p∈es,WideAt.IsKeyLit p.1):Maps.size D=0↔s=[]:=by
 obtain⟨es,rfl⟩:=m;constructor;{
 intro q;cases uJ.1 q;cases s with
 |nil=>rfl
 |cons i s=>
  have:=(h (.U i)).2 ⟨i,al,rfl⟩;simp[Maps.has]at this};{
 rintro rfl;cases es with
 |nil=>rfl
 |cons p es=>
  have:=(h p.1).1 (by rw[Maps.has_eq];simp[au7 (j _ rfl p al)]);simp at this}
section
variable {P:Program}(w:World){ops:iQ}{rest:List Oper}{o:Oper}{a:Act}{iZ:Exit->Act->World->Prop}
theorem U3{α:Type}(hg:o.guard=dN)(it:Operand)(S:o.op=Op.next it dF)(k:TypeId)(K:Keyed P k)(i:α->dV)(M:∀key j,keyOf P k key=Y j->∃x,key=i x)(b r n:Nat)(D:DataW Unit)(l:List (Lit×Nat))(W:rr D l)(left:Lit->Bool)(B:Nat)(m:a.eval it=Pz r)(h:w.ranges P k kc b r n D left B)(N:B=0->(∀j,left j=dF)->wpList P ops iZ rest (a.put o.dst (dT #[jO dF])) w)(R:∀(x:α)(p:Lit×Nat)(w':G)(q:Nat),keyOf P k (i x)=p.1->p∈l->left p.1->w'.ranges P k kc b r n D (λz=>left z&&!z.sameKey p.1) q->q<B→
   jG w w' r->U (Q w')=U (Q w)->(Instr.entry (Pz r)).run P w'=.ok (dT #[i x,Pz p.2]) w'->wpList P ops iZ rest (a.put o.dst (dT #[jO dY,i x,Pz p.2])) w'):wpList P ops iZ (o::rest) a w:=by
 refine wpList_plain hg λK' hK'=>?_;unfold Oper.wp;obtain⟨h0,hl,E⟩|⟨key,v,j,y,w',q,X,s,hv,Z,E,kq,aH,qX,gj,xU⟩:=h.next K o.type;{simp[execOp,S,m,E,Result.andThen];exact hK' _ _ (N h0 hl)};{
 obtain⟨x,rfl⟩:=M key j X;obtain⟨p,V,rfl⟩:=(W.hs j).1 (Maps.has_true_of_atKey Z);have e1:y.1=.lit (.I p.2):=by rw[<-Z .nil];exact W.at' p V _
 obtain⟨y1,y2⟩:=y;simp only at e1;subst e1;cases Vr hv;simp[execOp,S,m,E,Result.andThen];exact hK' _ _ (R x p w' q X V s kq aH qX gj xU)}
theorem df4(hg:o.guard=dN)(it:Operand)(N:o.op=Op.next it dF)(k:TypeId)(K:Keyed P k)(hk:P.underlying k=Y (.int jU))(b r n:Nat)(D:DataW Unit)(s:LI)(hM:lX D s)(left:Lit->Bool)(u:Nat)(j:a.eval it=Pz r)(h:w.ranges P k unitElem b r n D left u)(E:u=0->(∀R,left R=dF)->wpList P ops iZ rest (a.put o.dst (dT #[.bool dF])) w)(M:∀(x:Int)(w':G)(m:Nat),(Lit.U x).wf->x∈s->left (.U x)->w'.ranges P k unitElem b r n D (λz=>left z&&!z.sameKey (.U x)) m->m<u→
   jG w w' r->U (Q w')=U (Q w)->(Instr.entry (Pz r)).run P w'=.ok (dT #[.U x,.agg #[]]) w'->wpList P ops iZ rest (a.put o.dst (dT #[.bool dY,.U x,.agg #[]])) w'):wpList P ops iZ (o::rest) a w:=by
 refine wpList_plain hg λK' hK'=>?_;unfold Oper.wp;obtain⟨h0,hl,B⟩|⟨key,v,R,y,w',m,gO,q,Z,fL,B,X,aH,W,gj,V⟩:=h.next K o.type;{simp[execOp,N,j,B,Result.andThen];exact hK' _ _ (E h0 hl)};{obtain⟨x,rfl,rfl,ZL⟩:=Maps.keyOf_int_inv hk gO;let⟨i,hi,S⟩:=(hM _).1 (Maps.has_true_of_atKey fL);simp only[NR,Ef]at S;subst S;obtain⟨rfl,_⟩:=unitElem_inv Z;simp[execOp,N,j,B,Result.andThen];exact hK' _ _ (M x w' m ZL hi q X aH W gj V)}
end
def ft(l:LI):Lit:=.string (l.map λn=>UInt8.ofNat n.toNat)
theorem Oj{m:LI}(i:aD l)(hm:aD m)(h:ft l=ft m):l=m:=by
 simp only[ft,aZ7]at h;exact map_inj i hm h
theorem Xi(l:LI):Lit.string (bg l).data.toList=ft l:=by rw[<-ByteArray.toList_eq,DR];rfl
variable {s:ByteArray}
theorem dN2(h:Lit.string s.data.toList=ft l):s=bg l:=by
 rw[<-Xi]at h;simp only[aZ7]at h;cases s with|mk d=>cases hb:bg l with|mk d'=>(rw[hb]at h;simp only at h;congr;exact Zh.1 h)
def Kt(x y:Int):Int:=if x<y then -1 else if y<x then 1 else 0
theorem cn4:dQ dG 221 #[.U x] w λe w'=>e=dR (jO dF)/\w'=w:=by
 go_in;go_wp2;go_ret;refine⟨?_,rfl⟩;simp
theorem cL4{y:Int}:dQ dG 182 #[.U x,.U y] w λe w'=>e=dR (.I (Kt x y))/\w'=w:=by
 let⟨C,i⟩:=bu (Kt x y);rw[i]
 change O _ at i
 go_in
 go_wp21
 refine(cn4).h ?_;rintro e r⟨rfl,rfl⟩
 go_wp21
 refine(cn4).h ?_;rintro e o⟨rfl,rfl⟩;by_cases j:x<y;{cases(by rw[<-ae i];rw[Kt,aK j]:C=-1);exact aV};{by_cases m:y<x;{cases(by rw[<-ae i];rw[Kt,aJ j,aK m]:C=1);exact aV};{cases(by rw[<-ae i];rw[Kt,aJ j,aJ m]:C=0);exact aV}}
theorem bY7(h:Rd w (.S p (J l) c) l):(Extern.Bytes.bytesOf (.S p (J l) c)).run dG w=.ok ⟨(Lib.bytesOf l).toArray⟩ w:=by
 cases p with
 |none=>
  cases h.YX;simp only[Extern.Bytes.bytesOf,ba2];rfl
 |some a=>
  let⟨q,i,o⟩:=h.news;have:=Lib.run_loadBytesX (P:=dG) w l a .empty (λj x m=>i j _ (by rw[qU,m];rfl));simp only[Extern.Bytes.bytesOf];rw[this];congr 1;apply aZ1;simp
theorem dv9{m:LI}(h:Rd w (.S p (J l) c) l)(k:Rd w (.S q (J m) d) m):(Extern.BytealgCompare.compare #[.S p (J l) c,.S q (J m) d]).run dG w=.ok (.I (Lib.compareBytes (Lib.bytesOf l) (Lib.bytesOf m))) w:=by
 change Sem.run dG (do pure (goInt (Extern.BytealgCompare.cmp (<-Extern.Bytes.bytesOf (.S p (J l) c)) (<-Extern.Bytes.bytesOf (.S q (J m) d))))) w=_
 simp only[Ri,bY7 h,bY7 k,ba2,Result.andThen];rw[Lib.cmp_eq];rfl
def ai2(l m:LI):Int:=Lib.compareBytes (Lib.bytesOf l) (Lib.bytesOf m)
theorem cL7:∀(a b:List UInt8),(0<=Lib.compareBytes a b)=(Op.bytesLess b a=dY\/b=a)
 |[],[]=>by simp[Lib.compareBytes]
 |[],_::_=>by simp[Lib.compareBytes,Op.bytesLess]
 |_::_,[]=>by simp[Lib.compareBytes,Op.bytesLess]
 |x::a,y::b=>by
  have m:=cL7 a b;rw[Lib.compareBytes,Op.bytesLess];by_cases i:x<y;{
 have j:¬y<x:=λh=>cj0 _ (UInt8.lt_trans i h);have o:¬y=x:=λh=>by subst h;exact cj0 _ i
 simp[i,j,o]};{by_cases j:y<x;{simp[i,j]};{cases UInt8.le_antisymm (bc3.1 i) (bc3.1 j);simp only[i,BK,m];simp}}
theorem eN8(l m:LI):dD (0<=ai2 l m)=leB m l:=by
 rw[leB,DR,DR,Ry,wR,ai2,cL7];simp only[Ro,Gi];exact Iff.rfl
theorem eN4{m:LI}(el:Le l n)(o:Le m k)(j:Rd w (.S p n c) l)(i:Rd w (.S q k d) m):dQ dG 186 #[.S p n c,.S q k d] w λe w'=>e=dR (.I (ai2 l m))/\w'=w:=by
 have s:=ae el;have r:=ae o;subst s r;go_in;go_wp2;rw[H8 func225 aS aS aS (e:=Extern.BytealgCompare.compare) aS,dv9 j i];simp only[Result.andThen];rw[Oper.upon_value];exact aV
theorem aQ9{a:Act}{iZ:iE}(ik:o.guard=dN){f:FuncId}{x0 x1 x2:Operand} (ho:o.op=.call {callee:=.value x0,args:=#[x1,x2],argTypes:=ud})(h0:a.eval x0=.func (.func f) #[] #[])(h1:a.eval x1=v1)(h2:a.eval x2=v2)(lG:∀vs,(callFunc f vs).run P w=.ok (.enter f vs) w)(hc:dQ P f #[v1,v2] w R)(hR:∀e w',R e w'->∃v,e=dR v/\K (a.put o.dst v) w'):if jW o (yielded ops a.tmps)then Oper.wp P o a w K iZ else E:=by
 have hw:jW o (yielded ops a.tmps):=by simp[jW,ik]
 rw[aK hw];have gx:(execOp a.eval o).run P w=.ok (.enter f #[v1,v2]) w:=by subst h1 h2;unfold execOp;simp[ho,resolve,invoke,lG,h0,Deferred.ofValue]
 show o.upon P a K iZ _;rw[gx,VF];refine hc.h ?_;intro e w' h;obtain⟨v,rfl,hk⟩:=hR e w' h;exact hk
def vS(n:Nat)(j:Nat->Nat->Bool):Bool:=(jR n).all λi=>i==0||j (i-1) i
theorem bC7(h:(jR k).all f)(j:n<=k):(jR n).all f:=by
 rw[mL]at h⊢;exactλi m=>h i (xK.2 (mH (xK.1 m) j))
theorem eO2{j r i q:Int}{o m:dV}:dQ dG 181 #[jP #[.U j,.I r,o],jP #[.U i,.I q,m]] w (Rb (.I (Kt j i)) w):=by
 go_in
 go_wp21
 refine(cL4).h ?_;rintro e s⟨rfl,rfl⟩;go_wp2;go_ret;exact⟨rfl,cY.alloc al _⟩
theorem eO3{j i:OA}{o m n1 n2:Nat}(e1:Le l1 n1)(e2:Le l2 n2){V R H1 H2 X W:dV}{x u B y s r M E:Int}(h1:Rd w (.S j n1 o) l1)(h2:Rd w (.S i n2 m) l2):dQ dG 185 #[Ee (.S j n1 o) V x B H1 s M X,Ee (.S i n2 m) R u y H2 r E W] w (Rb (.I (ai2 l1 l2)) w):=by
 have Z:=ai λ(w':G)(D:Bw w w')=>aE (h1.H D) (h2.H D);go_in
 go_wp21
 have N:Bw w (jA (jA w (dO #[.S j n1 o,V,.U x,.I B,H1,.U s,.U M,X] 149)) (dO #[.S i n2 m,R,.U u,.I y,H2,.U r,.U E,W] 149)):=cY.alloc al _;refine(eN4 e1 e2 (ae Z _ N).1 (ae Z _ N).2).h ?_;rintro e w1⟨rfl,rfl⟩;exact aV
theorem cQ0(en:Le l n)(h:kI w (.S p n c) l)(hn:Mg n)(Z:O (vS n (λi j=>dD (jE l i 0<jE l j 0))=B)):dQ dG 224 #[.S p n c,.func (.func 182) #[] #[]] w (Rb (jO B) w):=by
 have lG:∀(vs:iA)(w:G),(callFunc 182 vs).run dG w=.ok (.enter 182 vs) w:=λvs w=>aS;have Nl:=ai lG;go_in
 go_wp21
 go_loopw[5](λiv wr=>∃k:Nat,1<=k/\(k<=n\/k=1)/\iv=.I k/\O ((jR k).all (λi=>i==0||(λi j=>dD (jE l i 0<jE l j 0)) (i-1) i))/\Bw w wr) (pT n)
 exact⟨1,fS _,.R rfl,rfl,di,bD _ _⟩;{
 obtain⟨k,kh,JY,rfl,x,aC⟩:=hrel;by_cases m:k<n;{
 have dm:=cM k n;have fg:k<J l:=ae en▸m;obtain⟨j,ej⟩:∃j:Nat,(k:Int)-1=(j:Int):=⟨k-1,af⟩;let⟨Fk,tK⟩:k-1=j/\j<J l:=af;have SJ:=cM j n;have hj0:=gS 0 j;have wj:=iM j;obtain⟨b,o,rfl,u⟩:∃b o,p=(Ad b o)/\∀i,i<n->I wr (Ad b (o+i))=dU (jE l i 0):=by let⟨p',c',ev,hd⟩:=ae (ai λ(w':G)(hb:Bw w w')=>h.H hb) _ aC;obtain⟨rfl,-,-⟩:=mh ev;obtain h0|⟨b,o,h1,h2⟩:=hd;{exact yy};{exact⟨b,o,h1,λi hi=>h2 i (ae en▸hi)⟩}
 have s:=u k m;have Wy:=u j af;let⟨y,V⟩:=bu (jE l k 0);let⟨z,N⟩:=bu (jE l j 0);rw[V]at s;rw[N]at Wy;have K0:=bG Wy s;let⟨C,X⟩:=bu (Kt z y);have M:((k==0)||(λi j=>dD (jE l i 0<jE l j 0)) (k-1) k)=!dD (0<=C):=by rw[show(k==0)=dF by simp;omega,VT,Fk];show dD (jE l j 0<jE l k 0)=_;rw[V,N,<-X,Kt];by_cases h1:z<y;{simp[h1]};{by_cases h2:y<z;{simp[h1,h2]};{simp[h1,h2]}}
 have hF:dD (0<=C)->B=dF:=λh=>by rw[<-ae Z,vS];exact Jz m (by rw[M,h];rfl)
 have hT:dD (0<=C)=dF->O ((jR (k+1)).all (λi=>i==0||(λi j=>dD (jE l i 0<jE l j 0)) (i-1) i)):=λh=>Hn x (by rw[M,h];rfl);have EC:=ai X;obtain⟨D,W⟩:∃D,dD (0<=C)=D:=⟨_,rfl⟩;let⟨HF,HT⟩:=aQ (λh:D=dY=>hF (W.Z h)) (λh:D=dF=>hT (W.Z h))
 go_wp21
 go_cut[23](λrv wc=>rv=jO D/\Bw w wc)
 case first=>(
 refine fw (λw'=>I w' (Ad b (o+j))=dU z/\I w' (Ad b (o+k))=dU y) (by exact K0) λhS=>?_;refine gr 0 1 2 3 4 5 6 7 hS ?_;refine fu 8 9 hS ?_;refine ry [10] ?_;refine cn (λKK hK=>?_) ?_;{
 refine aQ9 aY aY aY aY aY (λ_=>ae Nl _ _) (cL4) ?_;rintro r w2⟨rfl,rfl⟩;refine fE ?_;rw[ae EC];refine bS hK hS λhS=>?_;refine tn 11 hS ?_;refine fQ ?_
 go_wp21
 go_meet;exact⟨rfl,aj aC mC⟩};exact fN)
 obtain⟨rfl,tM⟩:=hcut;cases D with
 |true=>
  cases ae HF rfl;exact aV
 |false=>
  have sH:=ae HT rfl;go_wp2;go_roundw;exact⟨k+1,af,.L af,by go_num,sH,tM⟩;exact dy};{
 have dm:=ga k n;have eT:B:=by rw[<-ae Z,vS];exact bC7 x af
 subst eT;exact aV}}
theorem eV0{l:List aB}(en:Le l n)(h:nO w (.S p n c) l)(hn:Mg n)(eB:O (vS n (λi j=>dD ((jE l i (0,0,[])).1<(jE l j (0,0,[])).1))=B)):dQ dG 180 #[.S p n c,.func (.func 181) #[] #[]] w (Rb (jO B) w):=by
 have lG:∀(vs:iA)(w:G),(callFunc 181 vs).run dG w=.ok (.enter 181 vs) w:=λvs w=>aS;have Nl:=ai lG;go_in
 go_wp21
 go_loopw[5](λs wr=>∃k:Nat,1<=k/\(k<=n\/k=1)/\s=.I k/\O ((jR k).all (λi=>i==0||(λi j=>dD ((jE l i (0,0,[])).1<(jE l j (0,0,[])).1)) (i-1) i))/\Bw w wr) (λs _=>n-(jN (intOf s)))
 exact⟨1,fS _,.R rfl,rfl,di,bD _ _⟩;{
 obtain⟨k,kh,JY,rfl,W,aC⟩:=hrel;by_cases aH:k<n;{
 have dm:=cM k n;have fg:k<J l:=ae en▸aH;obtain⟨j,ej⟩:∃j:Nat,(k:Int)-1=(j:Int):=⟨k-1,af⟩;let⟨Fk,tK⟩:k-1=j/\j<J l:=af;have SJ:=cM j n;have hj0:=gS 0 j;have wj:=iM j;let⟨⟨y,M,yq⟩,V⟩:=qH fg;let⟨⟨z,x,zq⟩,N⟩:=qH tK;obtain⟨b,o,rfl,⟨y1,y2,yu,y3,-⟩,z1,z2,zu,z3,-⟩:∃b o,p=(Ad b o)/\(I wr (Ad b (o+k*3))=dU y/\I wr (Ad b (o+k*3+1))=dI M/\∃u,I wr (Ad b (o+k*3+2))=Y u/\qI wr u yq)/\(I wr (Ad b (o+j*3))=dU z/\I wr (Ad b (o+j*3+1))=dI x/\∃u,I wr (Ad b (o+j*3+2))=Y u/\qI wr u zq):=by let⟨p',c',ev,hd⟩:=ae (ai λ(w':G)(hb:Bw w w')=>h.H hb) _ aC;obtain⟨rfl,-,-⟩:=mh ev;obtain h0|⟨b,o,h1,h2⟩:=hd;{exact yy};{exact⟨b,o,h1,h2 k _ V,h2 j _ N⟩}
 have ey:(jE l k (0,0,[])).1=y:=by rw[ko,V];rfl
 have ez:(jE l j (0,0,[])).1=z:=by rw[ko,N];rfl
 have K0:=IV z1 z2 z3 y1 y2 y3;let⟨C,eC⟩:=bu (Kt z y);have X:((k==0)||(λi j=>dD ((jE l i (0,0,[])).1<(jE l j (0,0,[])).1)) (k-1) k)=!dD (0<=C):=by rw[show(k==0)=dF by simp;omega,VT,Fk];show dD ((jE l j (0,0,[])).1<(jE l k (0,0,[])).1)=_;rw[ey,ez,<-eC,Kt];by_cases h1:z<y;{simp[h1]};{by_cases h2:y<z;{simp[h1,h2]};{simp[h1,h2]}}
 have hF:dD (0<=C)->B=dF:=λh=>by rw[<-ae eB,vS];exact Jz aH (by rw[X,h];rfl)
 have EC:=ai eC;obtain⟨D,Z⟩:∃D,dD (0<=C)=D:=⟨_,rfl⟩;let⟨HF,HT⟩:=aQ (λh:D=dY=>hF (Z.Z h)) (λh:D=dF=>(λh=>Hn W (by rw[X,h];rfl)) (Z.Z h))
 go_wp21
 go_cut[23](λrv wc=>rv=jO D/\Bw w wc)
 case first=>(
 refine fw (λw'=>I w' (Ad b (o+j*3))=dU z/\I w' (Ad b (o+j*3+1))=dI x/\I w' (Ad b (o+j*3+2))=zu/\I w' (Ad b (o+k*3))=dU y/\I w' (Ad b (o+k*3+1))=dI M/\I w' (Ad b (o+k*3+2))=yu) (by exact K0) λhS=>?_;refine gr 0 1 2 3 4 5 6 7 hS ?_;refine fu 8 9 hS ?_;refine ry [10] ?_;refine cn (λKK hK=>?_) ?_;{
 refine aQ9 aY aY aY aY aY (λ_=>ae Nl _ _) (eO2) ?_;rintro r w2⟨rfl,aA⟩;refine fE ?_;have m:Bw wr w2:=aj (bD (U (Q wr)) wr).drew aA;rw[ae EC];refine bS hK (by obtain⟨k1,k2,k3,k4,k5,k6⟩:=ae K0;exact⟨aq k1 m,aq k2 m,aq k3 m,aq k4 m,aq k5 m,aq k6 m⟩) λhS=>?_;refine tn 11 hS ?_;refine fQ ?_
 go_wp21
 go_meet;exact⟨rfl,aj aC m⟩};exact fN)
 obtain⟨rfl,tM⟩:=hcut;cases D with
 |true=>
  cases ae HF rfl;exact aV
 |false=>
  go_wp2;go_roundw;exact⟨k+1,af,.L af,by go_num,ae HT rfl,tM⟩;exact dy};{
 have dm:=ga k n;have eT:B:=by rw[<-ae eB,vS];exact bC7 W af
 subst eT;exact aV}}
theorem eV1{l:List au}(en:Le l n)(h:iw w (.S p n c) l)(hn:Mg n)(eB:O (vS n (λi j=>!leB (jE l j kx).A (jE l i kx).A)=B)):dQ dG 184 #[.S p n c,.func (.func 185) #[] #[]] w (Rb (jO B) w):=by
 have HR:=ai λ(w':G)(hb:Bw w w')=>h.H hb;have lG:∀(vs:iA)(w:G),(callFunc 185 vs).run dG w=.ok (.enter 185 vs) w:=λvs w=>aS;have Nl:=ai lG;go_in
 go_wp21
 go_loopw[5](λX wr=>∃k:Nat,1<=k/\(k<=n\/k=1)/\X=.I k/\O ((jR k).all (λi=>i==0||(λi j=>!leB (jE l j kx).A (jE l i kx).A) (i-1) i))/\Bw w wr) (λX _=>n-(jN (intOf X)))
 exact⟨1,fS _,.R rfl,rfl,di,bD _ _⟩;{
 obtain⟨k,kh,JY,rfl,fU,aC⟩:=hrel;by_cases aH:k<n;{
 have dm:=cM k n;have fg:k<J l:=ae en▸aH;obtain⟨j,ej⟩:∃j:Nat,(k:Int)-1=(j:Int):=⟨k-1,af⟩;let⟨Fk,tK⟩:k-1=j/\j<J l:=af;have SJ:=cM j n;have hj0:=gS 0 j;have wj:=iM j;let⟨s,hy⟩:=qH fg;let⟨u,hz⟩:=qH tK;obtain⟨b,o,rfl,hA⟩:=(ae HR _ aC).at af;let⟨yP,yV,yH,yU,y⟩:=hA k _ hy;let⟨zP,zV,zH,zU,x⟩:=hA j _ hz;have ey:(jE l k kx).A=s.A:=by rw[ko,hy];rfl
 have ez:(jE l j kx).A=u.A:=by rw[ko,hz];rfl
 obtain⟨yp,yc,yn,rfl,eyn⟩:=y.r0.fq;obtain⟨zp,zc,zn,rfl,Z⟩:=x.r0.fq;let⟨RY,RZ⟩:=aQ y.r0 x.r0;obtain⟨y0,y1,y2,y3,y4,y5,y6,y7,-,-,-,-,-⟩:=y;obtain⟨z0,z1,z2,z3,z4,z5,z6,z7,-,-,-,-,-⟩:=x;obtain⟨yo,ym,ye,yg,e1,e2,e3,e4⟩:∃a b c d,s.D=a/\s.M=b/\s.P=c/\s.F=d:=⟨_,_,_,_,rfl,rfl,rfl,rfl⟩;obtain⟨zo,zm,ze,zg,f1,f2,f3,f4⟩:∃a b c d,u.D=a/\u.M=b/\u.P=c/\u.F=d:=⟨_,_,_,_,rfl,rfl,rfl,rfl⟩;rw[e1]at y2;rw[e2]at y3;rw[e3]at y5;rw[e4]at y6;rw[f1]at z2;rw[f2]at z3;rw[f3]at z5;rw[f4]at z6;have K0:=gJ z0 z1 z2 (aE z3 (aE z4 (aE z5 (aE z6 (aE z7 (aE y0 (aE y1 (aE y2 (aE y3 (aE y4 (aE y5 (aE y6 y7))))))))))));let⟨C,eC⟩:=bu (ai2 u.A s.A);have fL:((k==0)||(λi j=>!leB (jE l j kx).A (jE l i kx).A) (k-1) k)=!dD (0<=C):=by rw[show(k==0)=dF by simp;omega,VT,Fk];show(!leB (jE l k kx).A (jE l j kx).A)=_;rw[ey,ez,<-eC,eN8]
 have hF:dD (0<=C)->B=dF:=λh=>by rw[<-ae eB,vS];exact Jz aH (by rw[fL,h];rfl)
 have hT:dD (0<=C)=dF->O ((jR (k+1)).all (λi=>i==0||(λi j=>!leB (jE l j kx).A (jE l i kx).A) (i-1) i)):=λh=>Hn fU (by rw[fL,h];rfl);have EC:=ai eC;obtain⟨D,eD⟩:∃D,dD (0<=C)=D:=⟨_,rfl⟩;let⟨HF,HT⟩:=aQ (λh:D=dY=>hF (eD.Z h)) (λh:D=dF=>hT (eD.Z h))
 go_wp21
 go_cut[23](λrv wc=>rv=jO D/\Bw w wc)
 case first=>(
 refine fw (λw'=>I w' (Ad b (o+j*8))=dS zp zn zc/\I w' (Ad b (o+j*8+1))=zV/\I w' (Ad b (o+j*8+2))=dU zo/\I w' (Ad b (o+j*8+3))=dI zm/\I w' (Ad b (o+j*8+4))=zH/\I w' (Ad b (o+j*8+5))=dU ze/\I w' (Ad b (o+j*8+6))=dU zg/\I w' (Ad b (o+j*8+7))=zU/\I w' (Ad b (o+k*8))=dS yp yn yc/\I w' (Ad b (o+k*8+1))=yV/\I w' (Ad b (o+k*8+2))=dU yo/\I w' (Ad b (o+k*8+3))=dI ym/\I w' (Ad b (o+k*8+4))=yH/\I w' (Ad b (o+k*8+5))=dU ye/\I w' (Ad b (o+k*8+6))=dU yg/\I w' (Ad b (o+k*8+7))=yU) (by exact K0) λhS=>?_;refine gr 0 1 2 3 4 5 6 7 hS ?_;refine fu 8 9 hS ?_;refine ry [10] ?_;refine cn (λKK hK=>?_) ?_;{
 refine aQ9 aY aY aY aY aY (λ_=>ae Nl _ _) (eO3 Z eyn (RZ.H db.drew) (RY.H db.drew)) ?_;rintro r w2⟨rfl,aA⟩;refine⟨_,rfl,?_⟩;have m:Bw wr w2:=aj (bD (U (Q wr)) wr).drew aA;rw[ae EC];refine bS hK (by obtain⟨k0,k1,k2,k3,k4,k5,k6,k7,k8,k9,ZH,ZG,W,V,N,M⟩:=ae K0;exact⟨aq k0 m,aq k1 m,aq k2 m,aq k3 m,aq k4 m,aq k5 m,aq k6 m,aq k7 m,aq k8 m,aq k9 m,aq ZH m,aq ZG m,aq W m,aq V m,aq N m,aq M m⟩) λhS=>?_;refine tn 11 hS ?_;refine fQ ?_
 go_wp21
 go_meet;exact⟨rfl,aj aC m⟩};exact fN)
 obtain⟨rfl,tM⟩:=hcut;cases D with
 |true=>
  obtain rfl:=ae HF rfl;exact aV
 |false=>
  have sH:=ae HT rfl;go_wp2;go_roundw;exact⟨k+1,af,.L af,by go_num,sH,tM⟩;exact dy};{
 have dm:=ga k n;have eT:B:=by rw[<-ae eB,vS];exact bC7 fU af
 subst eT;exact aV}}
def rP(w:G)(v:dV)(es:List Ev):Prop:=
 ∃(p:OA)(c:Nat),v=.S p (J es) c/\(es=[]\/∃b o,p=(Ad b o)/\∀i e,es[i]?=Y e->I w (Ad b (o+i*2))=dI e.1/\∃u,I w (Ad b (o+i*2+1))=Y u/\Rd w u e.2/\vU u)
theorem rP.rd{es:List Ev}(h:rP w v es):qI w v es:=by
 obtain⟨p,c,rfl,h⟩:=h;refine⟨p,c,rfl,?_⟩;obtain h|⟨b,o,rfl,h⟩:=h;{exact .L h};{refine .R ⟨b,o,rfl,λi e he=>?_⟩;let⟨q,u,m,j,_⟩:=h i e he;exact⟨q,u,m,j⟩}
theorem rP.H{es:List Ev}(h:rP w v es)(j:Bw w w'):rP w' v es:=by
 obtain⟨p,c,rfl,h⟩:=h;refine⟨p,c,rfl,?_⟩;obtain h|⟨b,o,rfl,h⟩:=h;{exact .L h};{refine .R ⟨b,o,rfl,λi e he=>?_⟩;let⟨s,u,r,q,m⟩:=h i e he;exact⟨aq s j,u,aq r j,q.H j,m⟩}
def nM(w:G)(v:dV)(ss:List aB):Prop:=
 ∃(p:OA)(c:Nat),v=.S p (J ss) c/\(ss=[]\/∃b o,p=(Ad b o)/\∀i s,ss[i]?=Y s->I w (Ad b (o+i*3))=dU s.1/\I w (Ad b (o+i*3+1))=dI s.2.1/\∃u,I w (Ad b (o+i*3+2))=Y u/\rP w u s.2.2)
theorem nM.rd{ss:List aB}(h:nM w v ss):nO w v ss:=by
 obtain⟨p,c,rfl,h⟩:=h;refine⟨p,c,rfl,?_⟩;obtain h|⟨b,o,rfl,h⟩:=h;{exact .L h};{refine .R ⟨b,o,rfl,λi e he=>?_⟩;let⟨r,q,u,m,j⟩:=h i e he;exact⟨r,q,u,m,j.rd⟩}
theorem nM.H{ss:List aB}(h:nM w v ss)(hb:Bw w w'):nM w' v ss:=by
 exact bM9
def ML(w:G):Prop:=∃m,I w (Ad 2 0)=dI m
theorem ML.H(h:ML w)(i:Bw w w'):ML w':=by
 obtain⟨m,h⟩:=h;exact⟨m,aq h i⟩
theorem vU.of(h:vU (.S p n c)):n<=c/\c<=maxLen:=by
 obtain⟨m,o,q,e,j,i⟩:=h;obtain⟨rfl,rfl,rfl⟩:=mh e;exact⟨j,i⟩
theorem di4{K:Int}{o i:Nat}{P:LI}(u:Le P m)(V:Rd w (.S pp m o) P)(W:O (aD P))(hm:Mg m)(M:vU (.S pp m o))(N:ML w)(j:O (qw i (K,P)=B)):dQ dG 220 #[jP #[.I K,.S pp m o],.I i] w (Rb (jO B) w):=by
 let⟨gm,R⟩:=M.of;have x:Bw w (jA w (dO #[.I K,.S pp m o] 125)):=cY;by_cases r:i=7;{
 subst r;by_cases s:K=4;{
 subst s;by_cases y:m=0;{subst y;cases(by rw[<-ae j,qw,aK rfl];simp[ae u]:B);go_in;exact aV};{
 have eb4:((m:Int)==0)=dF:=by simp;omega
 cases(by rw[<-ae j,qw,aK rfl];simp[ae u,y]:B=dF);go_in;exact aV}};{
 have Z:(K==4)=dF:=by simp[s]
 cases(by rw[<-ae j,qw,aK rfl];simp[s]:B=dF);go_in;exact aV}};{
 have X:((i:Int)==7)=dF:=by simp;omega
 by_cases E:1<=K;{
 by_cases D:K<=3;{
 have eV:O (vp P=B):=ai (by rw[<-ae j,qw,aJ r];simp[E,D]);go_in
 go_wp21
 refine cL (bh3 u (V.H x) W hm gm R (N.H x) eV) λw2 aA=>?_;go_wp2;go_ret;exact⟨rfl,aj x aA⟩};{cases(by rw[<-ae j,qw,aJ r];simp[D]:B=dF);go_in;exact aV}};{cases(by rw[<-ae j,qw,aJ r];simp[E]:B=dF);go_in;exact aV}}
def Hk(i:Int)(s:aB):Bool:=dD (1<=s.1)&&(dD (s.1<=i)&&(dD (0<=s.2.1)&&(dD (s.2.1<=1000015)&&yD s.2.2)))
theorem du1{j D:Int}{r:List Ev}(en:Le r n)(h:rP w (.S p n c) r)(hn:Mg n)(dr:O (∀e∈r,aD e.2/\J e.2<=2^20))(rI:ML w)(eB:O (Hk x (j,D,r)=B)):dQ dG 179 #[jP #[.U j,.I D,.S p n c],.U x] w (Rb (jO B) w):=by
 have HR:=ai λ(w':G)(hb:Bw w w')=>aE (h.H hb) (rI.H hb);have b1:Bw w (jA w (dO #[.U j,.I D,.S p n c] 148)):=cY;have hB:B=(dD (1<=j)&&(dD (j<=x)&&(dD (0<=D)&&(dD (D<=1000015)&&(dD (n<=8)&&(jR n).all λi=>qw i (jE r i (0,[]))))))):=by rw[<-ae eB,Hk,yD,ae en]
 have HB:=ai hB;clear h rI hB eB;by_cases Z:j<1;{exact X7};{
 by_cases X:x<j;{exact X7};{
 by_cases h3:D<0;{exact X7};{
 by_cases h4:1000015<D;{exact X7};{
 by_cases h8:(8:Int)<(n:Int);{exact X7};{
 have oF:O (B=(jR n).all λi=>qw i (jE r i (0,[]))):=by show _=_;rw[ae HB];simp only[show dD (1<=j)=dY by(rw[wR];omega),show dD (j<=x)=dY by(rw[wR];omega),show dD (0<=D)=dY by(rw[wR];omega),show dD (D<=1000015)=dY by(rw[wR];omega),show dD (n<=8)=dY by(rw[wR];omega),yG]
 clear HB;go_in
 go_wp21
 clear Z X h3 h4 h8;let⟨W,hW⟩:=aF (jA w (dO #[.U j,.I D,.S p n c] 148));rw[<-hW]at b1⊢;clear hW
 go_loopw[35](λiv wr=>∃k:Nat,k<=n/\iv=.I k/\O ((jR k).all (λi=>qw i (jE r i (0,[]))))/\Bw w wr) (pT n)
 exact⟨0,de _,rfl,di,b1⟩;{
 obtain⟨k,hk,rfl,fU,aC⟩:=hrel;by_cases aH:k<n;{
 have dm:=cM k n;have E:k<J r:=ae en▸aH;let⟨⟨K,P⟩,y⟩:=qH E;have R:jE r k (0,[])=(K,P):=by rw[ko,y];rfl
 obtain⟨b,o,rfl,hcK,u,WA,Et,xX⟩:∃b o,p=(Ad b o)/\I wr (Ad b (o+k*2))=dI K/\∃u,I wr (Ad b (o+k*2+1))=Y u/\Rd wr u P/\vU u:=by let⟨p',c',ev,hd⟩:=(ae HR _ aC).1;obtain⟨rfl,-,-⟩:=mh ev;obtain h0|⟨b,o,Z,X⟩:=hd;{rw[h0]at E;simp at E};{exact⟨b,o,Z,X k _ y⟩}
 let⟨WJ,s⟩:=ae dr _ (bq y);obtain⟨pp,pc,m,rfl,em⟩:=Et.fq;have hm:m<=2^20:=ae em▸s;have XN:O (aD P):=WJ;let⟨V,M⟩:=bu (qw k (K,P));have hF:V=dF->B=dF:=λh=>by rw[ae oF];exact Jz aH (by rw[R,M];exact h)
 have HT:=ai (λh=>Hn fU (by rw[R,M];exact h));have N:Bw wr ((jA wr (dO #[.I K,.S pp m pc] 125))):=cY;have HRP:=ai (Et.H N)
 change O _ at xX hF M
 clear E y R WJ s Et
 go_wp21
 refine cL (di4 em HRP XN hm xX ((ae HR _ aC).2.H N) M) λw2 aA=>?_;have b3:=aj aC (aj N aA);clear aA N;cases V with
 |false=>
  cases ae hF rfl;exact aV
 |true=>
  have sH:=ae HT rfl;go_wp2;go_roundw;exact⟨k+1,af,by go_num,sH,b3⟩;exact dy};{
 have dm:=ga k n;have eT:B:=by
  rw[ae oF];have:k=n:=by omega
  rw[<-this];exact fU
 subst eT;exact aV}}}}}}}
structure Lf where
 b:Nat
 o:Nat
 k:IntKind
def fk(w:G)(A:List Lf):Prop:=∀a∈A,(∃n,I w (Ad a.b a.o)=Y (jK a.k n))/\jF w (Ad a.b a.o)=dF
def Re(kd:IntKind)(k:Int):Int:=match kd with| .u8=>k % 256|_=>k
structure Mk(w w':G)(A:List Lf)(k:Int):Prop where
 os:w'.os=w.os
 tape:w'.tape=w.tape
 output:w'.output=w.output
 size:U (Q w)<=U (Q w')
 blk:∀b,b<U (Q w)->(∀a∈A,a.b≠b)->w'.heap[b]?=w.heap[b]?
 W:∀b o,b<U (Q w)->(∀a∈A,¬(a.b=b/\a.o=o))->I w' (Ad b o)=I w (Ad b o)
 fz:∀b o,b<U (Q w)->jF w' (Ad b o)=jF w (Ad b o)
 int:∀a∈A,∃n,I w' (Ad a.b a.o)=Y (jK a.k n)
 val:(A.map λa=>(a.b,a.o)).Nodup->∀(i:Nat)(a:Lf),A[i]?=Y a->I w' (Ad a.b a.o)=Y (jK a.k (Re a.k (k+i)))
theorem fk.lt{A:List Lf}(h:fk w A){a:Lf}(j:a∈A):a.b<U (Q w):=by
 let⟨⟨n,i⟩,_⟩:=h a j;exact my w _ i
theorem fk.nil(w:G):fk w []:=λa ha=>by simp at ha
theorem fk.app{A A':List Lf}:fk w (A++A')↔fk w A/\fk w A':=by
 constructor;{intro h;exact⟨λa i=>h a (Of _ i),λa i=>h a (H7 _ i)⟩};{rintro⟨h,k⟩a i;obtain i|i:=jl.1 i;{exact h a i};{exact k a i}}
theorem fk.sub{A A':List Lf}(h:fk w A)(i:∀a∈A',a∈A):fk w A':=λa j=>h a (i a j)
theorem fk.H{A:List Lf}(h:fk w A)(i:Bw w w'):fk w' A:=λa j=>by
 let⟨⟨n,m⟩,hf⟩:=h a j;exact⟨⟨n,aq m i⟩,(i.frozen (p:=(Ad a.b a.o)) (h.lt j)).Z hf⟩
theorem Mk.tj(h:Bw w w')(k:Int):Mk w w' [] k:=
 ⟨h.os,h.tape,h.output,h.size,λb j _=>h.block b j,λb o j _=>h.cell (p:=(Ad b o)) j,λb o j=>h.frozen (p:=(Ad b o)) j,λa m=>by simp at m,λ_ i a m=>by simp at m⟩
theorem Mk.refl(w:G)(k:Int):Mk w w [] k:=Mk.tj db k
variable {k:Int}
theorem Mk.one{o:Nat}{n:Int}(hc:I w (Ad b o)=Y (jK kd n)):Mk w (jS w (Ad b o) (jK kd (Re kd k))) [⟨b,o,kd⟩] k:=by
 have q:I (jS w (Ad b o) (jK kd (Re kd k))) (Ad b o)=Y (jK kd (Re kd k)):=Zd w _ _ (by rw[hc];rfl);refine⟨rfl,rfl,rfl,al,λu r m=>gh _ _ _ _ (λe=>m ⟨b,o,kd⟩ al e.C),λu x r m=>?_,λu x r=>?_,λa j=>?_,λ_ i a j=>?_⟩;{have s:=m ⟨b,o,kd⟩ al;simp only at s;exact Rw _ _ _ _ (λe=>s (by simpa using e))};{simp};{simp at j;subst j;exact⟨_,q⟩};{
 cases i with
 |zero=>simp at j;subst j;simpa using q
 |succ i=>simp at j}
theorem Mk.Z{M:G}{A A2:List Lf}(h:Mk w w1 A k)(m:Mk w1 M A2 (k+J A))(B:fk w A)(E:fk w A2):Mk w M (A++A2) k:=by
 refine⟨m.os.Z h.os,m.tape.Z h.tape,m.output.Z h.output,gq h.size m.size,λb r u=>?_,λb o r u=>?_,λb o r=>?_,λa j=>?_,λV i a j=>?_⟩;{exact(m.blk b (mH r h.size) (λa j=>u a (H7 _ j))).Z (h.blk b r (λa j=>u a (Of _ j)))};{exact(m.W b o (mH r h.size) (λa j=>u a (H7 _ j))).Z (h.W b o r (λa j=>u a (Of _ j)))};{exact(m.fz b o (mH r h.size)).Z (h.fz b o r)};{by_cases D:∃q∈A2,q.b=a.b/\q.o=a.o;{obtain⟨q,s,e1,Z⟩:=D;let⟨n,x⟩:=m.int q s;let⟨⟨S,N⟩,_⟩:=E q s;let⟨⟨R,y⟩,_⟩:=fk.app.2 ⟨B,E⟩ a j;rw[e1,Z]at x N;rw[N]at y;simp only[oK,bc2]at y;exact⟨n,by rw[x,y.1]⟩};{obtain j|j:=jl.1 j;{let⟨n,x⟩:=h.int a j;refine⟨n,(m.W a.b a.o (mH (B.lt j) h.size) (λq s e=>D ⟨q,s,e⟩)).Z x⟩};{exact absurd ⟨a,j,rfl,rfl⟩ D}}};{rw[uk,Gm]at V;obtain⟨S,R,W⟩:=V;by_cases X:i<J A;{rw[oI X]at j;have hm:=bq j;refine(m.W a.b a.o (mH (B.lt hm) h.size) (λq s e=>?_)).Z (h.val S i a j);exact W (a.b,a.o) (Zl hm) (q.b,q.o) (Zl s) (by rw[e.1,e.2])};{rw[qT af]at j;have:=m.val R (i-(J A)) a j;rw[this];congr 3;omega}}
theorem fk.mk{A A':List Lf}(h:fk w A')(hm:Mk w w' A k)(y:fk w A):fk w' A':=λa q=>by
 let⟨⟨n,s⟩,hf⟩:=h a q;refine⟨?_,(hm.fz _ _ (h.lt q)).Z hf⟩;by_cases u:∃i∈A,i.b=a.b/\i.o=a.o;{obtain⟨i,m,D,B⟩:=u;let⟨x,r⟩:=hm.int i m;let⟨⟨E,j⟩,_⟩:=y i m;rw[D,B]at r j;rw[s]at j;simp only[oK,bc2]at j;exact⟨x,by rw[r,j.1]⟩};{exact⟨n,(hm.W _ _ (h.lt q) (λi m e=>u ⟨i,m,e⟩)).Z s⟩}
theorem Mk.head{A:List Lf}(hm:Mk w w' A k)(m:fk w A){o:Nat}(h:I w (Ad b o)=dS p n c):I w' (Ad b o)=dS p n c:=by
 refine(hm.W b o (my w _ h) (λa j e=>?_)).Z h;let⟨⟨q,i⟩,_⟩:=m a j;rw[e.1,e.2,h]at i;simp at i
theorem Mk.H{A:List Lf}{B:Nat}(hm:Mk w w' A k)(j:∀a∈A,B<=a.b)(m:B<=U (Q w)):Below B w w':=
 ⟨hm.os,hm.tape,hm.output,hm.size,λb o=>hm.blk b af (λa i e=>aM (j a i))⟩
def uC{α:Type}(P:α->Nat->Nat->List Lf->Prop)(m:Nat)(v:dV)(xs:List α)(A:List Lf):Prop:=
 ∃(p:OA)(c:Nat)(j:List (List Lf)),v=.S p (J xs) c/\J j=J xs/\A=jL j/\(xs=[]\/∃b o,p=(Ad b o)/\∀i x l,xs[i]?=Y x->j[i]?=Y l->P x b (o+i*m) l)
theorem uC.imp{α:Type}{P s:α->Nat->Nat->List Lf->Prop}{xs:List α}{A:List Lf}(h:uC P sz v xs A)(B:∀x b a l,x∈xs->(∀y∈l,y∈A)->P x b a l->s x b a l):uC s sz v xs A:=by
 obtain⟨p,c,R,N,M,r,j⟩:=h;refine⟨p,c,R,N,M,r,?_⟩;obtain j|⟨b,o,E,D⟩:=j;{exact .L j};{refine .R ⟨b,o,E,λi x l m q=>B _ _ _ _ (bq m) (λy u=>?_) (D i x l m q)⟩;rw[r];exact Eg.2 ⟨l,bq q,u⟩}
def LvI(kd:IntKind)(x:Int)(b a:Nat)(l:List Lf):Prop:=l=[⟨b,a,kd⟩]
abbrev oz(v:dV)(xs:LI)(A:List Lf):Prop:=uC (LvI .u8) 1 v xs A
abbrev Fu(v:dV)(xs:LI)(A:List Lf):Prop:=uC (LvI jU) 1 v xs A
def Ha(w:G)(x:Ev)(b a:Nat)(l:List Lf):Prop:=
 ∃p c i,l=⟨b,a,jV⟩::i/\I w (Ad b (a+1))=dS p (J x.2) c/\oz (.S p (J x.2) c) x.2 i
abbrev lI(w:G)(v:dV)(xs:List Ev)(A:List Lf):Prop:=uC (Ha w) 2 v xs A
def Fv(w:G)(x:aB)(b a:Nat)(l:List Lf):Prop:=
 ∃p c i,l=⟨b,a,jU⟩::⟨b,a+1,jV⟩::i/\I w (Ad b (a+2))=dS p (J x.2.2) c/\lI w (.S p (J x.2.2) c) x.2.2 i
abbrev mF(w:G)(v:dV)(xs:List aB)(A:List Lf):Prop:=uC (Fv w) 3 v xs A
def G9(w:G)(x:au)(b a:Nat)(l:List Lf):Prop:=
 ∃o E m D j B i y u s r q,l=u++(s++(⟨b,a+2,jU⟩::⟨b,a+3,jV⟩::(r++(⟨b,a+5,jU⟩::⟨b,a+6,jU⟩::q))))∧
  (I w (Ad b a)=dS o (J x.A) E/\oz (.S o (J x.A) E) x.A u)∧
  (I w (Ad b (a+1))=dS m (J x.V) D/\oz (.S m (J x.V) D) x.V s)∧
  (I w (Ad b (a+4))=dS j (J x.y) B/\Fu (.S j (J x.y) B) x.y r)∧
  (I w (Ad b (a+7))=dS i (J x.X) y/\Fu (.S i (J x.X) y) x.X q)
abbrev nG(w:G)(v:dV)(xs:List au)(A:List Lf):Prop:=uC (G9 w) 8 v xs A
theorem Ha.mk{x:Ev}{l:List Lf}{A:List Lf}(h:Ha w x b a l)(hm:Mk w w' A k)(j:fk w A):Ha w' x b a l:=by
 obtain⟨p,c,i,q,o,m⟩:=h;exact⟨p,c,i,q,hm.head j o,m⟩
theorem lI.mk{xs:List Ev}{l:List Lf}{A:List Lf}(h:lI w v xs l)(hm:Mk w w' A k)(i:fk w A):lI w' v xs l:=h.imp λ_ _ _ _ _ _ h=>h.mk hm i
theorem Fv.mk{x:aB}{l:List Lf}{A:List Lf}(h:Fv w x b a l)(hm:Mk w w' A k)(i:fk w A):Fv w' x b a l:=by
 obtain⟨p,c,j,q,o,m⟩:=h;exact⟨p,c,j,q,hm.head i o,lI.mk m hm i⟩
theorem mF.mk{xs:List aB}{l:List Lf}{A:List Lf}(h:mF w v xs l)(hm:Mk w w' A k)(i:fk w A):mF w' v xs l:=h.imp λ_ _ _ _ _ _ h=>h.mk hm i
theorem G9.mk{x:au}{l:List Lf}{A:List Lf}(h:G9 w x b a l)(hm:Mk w w' A k)(i:fk w A):G9 w' x b a l:=by
 obtain⟨q,c0,o,c1,m,Z,j,X,y,u,s,r,W,⟨V,S⟩,⟨R,N⟩,⟨M,E⟩,⟨D,B⟩⟩:=h;exact⟨q,c0,o,c1,m,Z,j,X,y,u,s,r,W,⟨hm.head i V,S⟩,⟨hm.head i R,N⟩,⟨hm.head i M,E⟩,⟨hm.head i D,B⟩⟩
theorem nG.mk{xs:List au}{l:List Lf}{A:List Lf}(h:nG w v xs l)(hm:Mk w w' A k)(i:fk w A):nG w' v xs l:=h.imp λ_ _ _ _ _ _ h=>h.mk hm i
theorem uC.at{α:Type}{P:α->Nat->Nat->List Lf->Prop}{xs:List α}{A:List Lf}(h:uC P sz (.S p n c) xs A):∃i:List (List Lf),n=J xs/\J i=n/\A=jL i/\∀k,k<n->∃b o x l,p=(Ad b o)/\xs[k]?=Y x/\i[k]?=Y l/\P x b (o+k*sz) l/\jL (jT (k+1) i)=jL (jT k i)++l/\∀y∈l,y∈A:=by
 obtain⟨N,R,i,M,E,s,q⟩:=h;obtain⟨rfl,rfl,rfl⟩:=mh M;refine⟨i,rfl,E,s,λk m=>?_⟩;let⟨x,r⟩:=qH m;obtain⟨l,j⟩:∃l,i[k]?=Y l:=⟨_,bN af⟩;obtain q|⟨b,o,D,B⟩:=q;{rw[q]at m;simp at m};{refine⟨b,o,x,l,D,r,j,B k x l r j,?_,λy u=>?_⟩;{rw[rD,j];simp};{rw[s];exact Eg.2 ⟨l,bq j,u⟩}}
theorem Py(i:List (List Lf))(k:Nat):(jT k i).flatten.length<=J (jL i):=by
 have h:jL i=jL (jT k i)++jL (jD k i):=by rw[<-LM,JN]
 rw[h,fe];omega
theorem at6{i:List (List Lf)}{k:Nat}{y:Lf}(h:y∈jL (jT k i)):y∈jL i:=by
 let⟨l,m,j⟩:=Eg.1 h;exact Eg.2 ⟨l,Rz m,j⟩
theorem gG(h:w'.heap[b]?=w.heap[b]?)(o:Nat):I w' (Ad b o)=I w (Ad b o):=by
 unfold World.cell?;rw[h]
def aT(w:G)(b:Nat)(vs:List dV):Prop:=(∀i v,vs[i]?=Y v->I w (Ad b i)=Y v)/\∀o,jF w (Ad b o)=dF
theorem aT.alloc(w:G)(cs:iA)(t:TypeId):aT (jA w (dO cs t)) (U (Q w)) cs.toList:=by
 refine⟨λi v h=>?_,λo=>?_⟩;{rw[bd2]at h;simp[h]};{simp[go_sem]}
theorem aT.H(h:aT w b vs)(m:b<U (Q w))(j:Bw w w'):aT w' b vs:=
 ⟨λi v q=>(j.cell (p:=(Ad b i)) m).Z (h.1 i v q),λo=>(j.frozen (p:=(Ad b o)) m).Z (h.2 o)⟩
variable {a:Addr}
theorem aT.py(h:aT w b vs)(q:b≠a.block)(u:dV):aT (w.setCell a u) b vs:=by
 have j:(w.setCell a u).heap[b]?=w.heap[b]?:=gh _ _ _ _ q;refine⟨λi v m=>(gG j _).Z (h.1 i v m),λo=>?_⟩;have:jF (w.setCell a u) (Ad b o)=jF w (Ad b o):=Dg j;rw[this];exact h.2 o
theorem aT.ew(h:aT w b vs)(j:Nat)(q:j<J vs)(u:dV):aT (jS w (Ad b j) u) b (vs.set j u):=by
 refine⟨λi v m=>?_,λo=>by simp[h.2 o]⟩;by_cases e:j=i;{subst e;rw[bc1 q]at m;cases m;exact RH _ _ _ (h.1 j _ (bN q))};{rw[eX1 e]at m;have:=h.1 i v m;simp[go_sem,e,this]}
variable {t e:TypeId}
theorem bY9(ty:TypeId)(i:TypeInfo){size bytes:Nat}(E:P.underlying t=Y (.slice e))(M:P.info? e=i)(V:i.zero=z)(Me:i.size=size)(Z:i.bytes=bytes)(Ot:z.cells.size=size)(gj:0<size)(x:w.ownsRow base e size v n xs)(c:Nat)(s:J news=m*size)(D:∀j u,news[j]?=Y u->I w (a.add j)=Y u)(W:∀u∈news,u.oneCell')(Km:n+m<=maxLen)(Kc:(n+m)*bytes<=140737488355328)(Pc:base<=U (Q w)):∃r w',(Builtin.append_ #[t,t] ty #[v,.S a m c]).run P w=.ok r w'/\w'.ownsRow base e size r (n+m) (xs++news)/\jG w w' (jB v)/\∀g,jB r=Y g->jB v=Y g\/U (Q w)<=g:=by
 obtain⟨r,w',o,h2,h3,-⟩:=aZ6 (P:=P) w base t ty e i z size bytes E M V Me Z Ot gj v n xs x a m c news s D W Km Kc Pc;refine⟨r,w',o,h2,h3,λg' N=>?_⟩;obtain⟨rfl,rfl⟩|⟨g,q,y,rfl,Iu,hg,qi,qn,OY,dY0⟩:=id x.2;{cases(Hz (by simpa using x.1):xs=[]);obtain⟨v2,w2,R,k2,-,-⟩:=aZ6 (P:=P) w (U (Q w)) t ty e i z size bytes E M V Me Z Ot gj ay 0 [] (qe w _ e size) a m c news s D W Km Kc aU;rw[o]at R;simp only[VG]at R;obtain⟨rfl,rfl⟩:=R;exact .R (k2.lt g' N).1};{
 subst Me;subst Z;by_cases B:n+m<=q;{
 have X:n*i.size+J news<=y.size:=by rw[s,OY,<-Nat.add_mul];exact Rm _ B
 rw[run_append_room (P:=P) w t ty e i E M g n q y hg a m c news s D W B X]at o;simp only[VG]at o;obtain⟨rfl,-⟩:=o;exact .L N};{rw[run_append_grow (P:=P) w t ty e i z E M V (Ad g 0) n q xs x.1 (x.cells (g:=g) rfl) a m c news s D af (by simp only[maxLen]at Km;omega) (growslice_fits af Kc)]at o;simp only[VG]at o;obtain⟨rfl,-⟩:=o;simp only[jB,oK]at N;exact .R af}}
variable {x s:Operand}{a:Act}
theorem FO{iZ:iE}(ik:o.guard=dN)(t:TypeId)(ho:o.op=.call {callee:=.builtin .append,args:=#[s,x],argTypes:=#[t,t]})(i:TypeInfo)(size:Nat)(ht:P.underlying t=Y (.slice e))(hi:P.info? e=i)(hz:i.zero=z)(Me:i.size=size)(dr:i.bytes=bytes)(Ot:z.cells.size=size)(gj:0<size)(v:dV)(hs:a.eval s=v)(dw:w.ownsRow base e size v n xs)(g m c:Nat)(news:List dV)(hx:a.eval x=.T g m c)(hl:J news=m*size)(sV:∀j u,news[j]?=Y u->I w (Ad g j)=Y u)(h1:∀u∈news,u.oneCell')(Km:n+m<=maxLen)(Kc:(n+m)*bytes<=140737488355328)(Pc:base<=U (Q w))(h:∀v' w',w'.ownsRow base e size v' (n+m) (xs++news)->jG w w' (jB v)->(∀g,jB v'=Y g->jB v=Y g\/U (Q w)<=g)->wpList P ops iZ rest (a.put o.dst v') w'):wpList P ops iZ (o::rest) a w:=by
 let⟨v',w',hr,h2,h3,h4⟩:=bY9 (P:=P) o.type i ht hi hz Me dr Ot gj dw (a:=Ad g 0) c hl (λj u hu=>by rw[Ia,nY];exact sV j u hu) h1 Km Kc Pc;exact Lib.wpList_append_run w ik s x t t ho _ _ hs hx _ _ hr (h v' w' h2 h3 h4)
theorem Ve{iZ:iE}(ik:o.guard=dN) (ho:o.op=.call {callee:=.builtin .append,args:=#[s,x],argTypes:=#[t,t]})(i:TypeInfo)(size:Nat)(ht:P.underlying t=Y (.slice e))(hi:P.info? e=i)(hz:i.zero=z)(Me:i.size=size)(dr:i.bytes=bytes)(Ot:z.cells.size=size)(gj:0<size)(hs:a.eval s=v)(dw:w.ownsRow base e size v n xs){g:Nat}(m c:Nat)(news:List dV)(hx:a.eval x=.T g m c)(hl:J news=m*size)(sV:∀j u,news[j]?=Y u->I w (Ad g j)=Y u)(h1:∀u∈news,u.oneCell')(Km:n+m<=maxLen)(Kc:(n+m)*bytes<=140737488355328)(Pc:base<=U (Q w))(h:∀v' w',w'.ownsRow base e size v' (n+m) (xs++news)->jG w w' (jB v)->(∀g,jB v'=Y g->jB v=Y g\/U (Q w)<=g)->K (a.put o.dst v') w'):if jW o (yielded ops a.tmps)then Oper.wp P o a w K iZ else E:=by
 have hw:jW o (yielded ops a.tmps):=by simp[jW,ik]
 rw[aK hw];let⟨v',w',hr,h2,h3,h4⟩:=bY9 (P:=P) o.type i ht hi hz Me dr Ot gj dw (a:=Ad g 0) c hl (λj u hu=>by rw[Ia,nY];exact sV j u hu) h1 Km Kc Pc;exact Lib.wp_append_run w s x t t ho _ _ hs hx _ _ hr (h v' w' h2 h3 h4)
end Go.Proofs.YthlkmijffhhimaaGreatDoor
