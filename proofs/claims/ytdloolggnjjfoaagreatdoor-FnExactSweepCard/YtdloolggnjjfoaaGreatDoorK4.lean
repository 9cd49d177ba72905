import Derived.Test.YtdloolggnjjfoaaGreatDoorK3
import Derived.Lib.SlBytesConst
import Derived.Shelf.Abstract
import Derived.Shelf.RegionOpen
import Derived.OrdersHeld
import Derived.Scope
import Derived.WalkMore
open Array renaming size->U
open Bool renaming false->dF,true->dY
open Decidable renaming decide->dD
open Go renaming Calls->dQ,Value->dV,World->G
open Go.Ending renaming returned->dR
open Go.Obj renaming cells->dO
open Go.Proofs.Tryz renaming prog->dG
open Go.RowKit renaming Hid->O
open Go.Value renaming I->dI,T->dK,S->dS,tuple->dT,U->dU
open Go.World renaming cell?->I
open List renaming length->J
open Option renaming none->dN,some->Y
namespace Go.Proofs.YtdloolggnjjfoaaGreatDoor
set_option maxHeartbeats 25600000
set_option linter.all false
set_option maxRecDepth 100000
set_option linter.unusedVariables false
open Go.ChangeShapes Go.WideShapes Go.ChangeAt Go.RowKit Go.Deep Go.Proofs.Tryz
variable {w w' X:G}{n cap c B n0 c0 n1 c1 n2 c2 b m d o j N R len B' W0s:Nat}{cs:List dV}{p p0 p1 p2 q a p9:OA}{s s0 s1 s2 k f e g lo hi vs z x:Int}{l l0 l1 l2 t m' rest:LI}{v0 v1 v2 v3 v u:dV}{se pa sq jo sh sh':Bool}{om rh:Option LI}{K:Act->G->Prop}{P:Program}{md:Region.Mode}{ops:iQ}{E:Prop}{x1 x2:Operand}{sU:Array TypeId}{row:Option Nat}{S:iP}
def Rd.dx8{H:Type}{enc:TypeId×dV->H}{x:DataW H×List MemPlace}(h:DataW.trod enc dG w 0 (λ_=>dY) dY n 22 cs=x):∃(p:OA)(l:LI)(c:Nat),cs=[.S p (J l) c]/\Rd w (.S p (J l) c) l/\J l<=maxLen/\(∀z∈l,(Lit.int .u8 z).wf):=by
 obtain⟨rfl,_⟩|⟨a,len,m,zs,rfl,_,D,hm,y,_,s,q⟩:=open_ints underlying22 underlying5 aU h;{exact⟨dN,[],0,rfl,Rd.nil w,aj,aj⟩};{
 simp only[od]at y;have e:J (zs.take len)=len:=by simp;omega
 refine⟨Y a,zs.take len,m,by rw[e],?_,af,λz h=>q z (Pq h)⟩;refine⟨Y a,m,rfl,?_⟩;by_cases B:len=0;{left;subst B;simp};{
 right;obtain⟨b,o,j⟩:=a;obtain rfl:j=dN:=by simpa[Addr.add]using World.cell?_spot (s 0 af)
 refine⟨b,o,rfl,λi r=>?_⟩;rw[e]at r;have:=s i af;simp only[Fx]at this;rw[this];simp[List.getD,Pp,r]}}
def Rd.ak8{H:Type}{enc:TypeId×dV->H}{x:DataW H×List MemPlace}(h:DataW.trod enc dG w 0 (λ_=>dY) dY n 22 cs=x):∃(p:OA)(l:LI)(c:Nat),cs=[.S p (J l) c]/\Rd w (.S p (J l) c) l/\J l<=maxLen/\J l<=c/\(∀z∈l,0<=z/\z<256):=by
 let⟨p,l,c,e,m,hm,j⟩:=Rd.dx8 h;refine⟨p,l,c,e,m,hm,?_,λz i=>?_⟩;{obtain⟨rfl,_⟩|⟨a,len,o,zs,rfl,_,q,_⟩:=open_ints underlying22 underlying5 aU h;{simp at e;omega};{simp at e;omega}};{have:=j z i;simp[Lit.wf,IntKind.min,IntKind.max,IntKind.signed,IntKind.bits]at this;omega}
abbrev tB(v:dV)(n:Int):dV:=.agg #[v,.I n]
abbrev mV(v0:dV)(n0:Int)(v1:dV)(n1:Int)(v2:dV)(n2:Int):dV:=.agg #[v0,.I n0,v1,.I n1,v2,.I n2]
def fk5{left:Int}(i:n<=maxLen)(m:0<=left)(j:left<=1048576):dQ dG 41 #[tB (.S p n cap) s,.I left] w (Rb (.I (BN n left)) w):=by
 have hc:-1<=BN n left/\BN n left<=1048576:=by unfold BN;split<;>omega
 by_cases h:BN n left<0;{
 have e:BN n left=-1:=by unfold BN at h⊢;split<;>simp_all<;>omega
 go_in;go_wp2_with fail;refine(aL1 i m j).h ?_;rintro e o⟨rfl,rfl⟩;go_wp2;go_ret;exact⟨by rw[e];rfl,aD.alloc aA _⟩};{go_in;go_wp2_with fail;refine(aL1 i m j).h ?_;rintro e o⟨rfl,rfl⟩;go_wp2;go_ret;exact⟨rfl,aD.alloc aA _⟩}
def aJ5{n:Int}(h:Rd w (.S p (J l) c) l)(s:Mg (J l)):dQ dG 56 #[tB (.S p (J l) c) n] w λe w'=>∃i j,e=dR (tB (.S i (J l) j) n)/\Own (U w.heap) w' (.S i (J l) j) l/\Bw w w':=by
 have x:=λ(w':G)(u:Bw w w')=>h.H u;go_in;go_wp2_with fail;refine(bK7 (x _ (by exact((aD.alloc aA _).alloc aj _).alloc bq _)) s).h ?_;rintro e m⟨i,j,rfl,r,o⟩;let⟨y,E⟩:=I5 o;go_wp2;have D:Bw w m:=((((aD.alloc aA _).alloc aj _).alloc bq _)).Z (o.h bq);have q:Own (U w.heap+3) m (.S i (J l) j) l:=by simpa using r
 refine cg (v:=tB (.S i (J l) j) n) (by simp[results,results56,go_sem,y]) rfl ⟨i,j,rfl,Own.h (B:=U w.heap+3) ?_ af,?_⟩;{
 repeat(refine sy ?_ aj _)
 exact q};{
 repeat(refine ri ?_ (by simp<;>omega) _)
 exact D}
structure ko(B:Nat)(w:G)(v0 v1 v2:dV)(l0 l1 l2:LI):Prop where
 o0:Own B w v0 l0
 o1:Own B w v1 l1
 o2:Own B w v2 l2
 OP:∀b,v0.ownBlock=Y b->v1.ownBlock≠Y b
 ON:∀b,v0.ownBlock=Y b->v2.ownBlock≠Y b
 n12:∀b,v1.ownBlock=Y b->v2.ownBlock≠Y b
def ko.mk'{B1 B2:Nat}{w1 m:G}(o:Own B w1 v0 l0)(s:Own B1 m v1 l1)(q:Own B w v0 l0)(o1:Own B1 w v1 l1)(o2:Own B2 w v2 l2)(x:U w1.heap<=B1)(u:U m.heap<=B2)(r:B<=B1)(y:B1<=B2):ko B w v0 v1 v2 l0 l1 l2:=
 ⟨q,o1.h r,o2.h af,λb j i=>by have:=o.lt b j;have:=o1.lt b i;omega,λb j i=>by have:=o.lt b j;have:=o2.lt b i;omega,λb j i=>by have:=s.lt b j;have:=o2.lt b i;omega⟩
def db5(p0 p1 p2:OA)(c0 c1 c2:Nat)(n0 n1 n2:Int)(l0 l1 i:LI)(w:G)(h0:Rd w (.S p0 (J l0) c0) l0)(h1:Rd w (.S p1 (J l1) c1) l1)(h2:Rd w (.S p2 (J i) c2) i)(hl:J l0+J l1+J i<=1048576):dQ dG 21 #[mV (.S p0 (J l0) c0) n0 (.S p1 (J l1) c1) n1 (.S p2 (J i) c2) n2] w λe w'=>
   ∃o q r s u x,e=dR (mV (.S o (J l0) q) n0 (.S r (J l1) s) n1 (.S u (J i) x) n2)∧
    ko (U w.heap) w' (.S o (J l0) q) (.S r (J l1) s) (.S u (J i) x) l0 l1 i/\Bw w w':=by
 have US:=λ(w':G)(D:Bw w w')=>h0.H D;have oQ:=λ(w':G)(D:Bw w w')=>h1.H D;have Kt:=λ(w':G)(D:Bw w w')=>h2.H D;go_in;go_wp2_with fail;refine(aJ5 (US _ (by exact((aD.alloc aA _).alloc aj _).alloc bq _)) af).h ?_;rintro e m⟨o,q,rfl,N,au⟩;let⟨fM,sE⟩:=I5 au;have z1:U w.heap+1+1<U m.heap:=by have:=au.size;simp at this;omega
 have JA:U w.heap<U m.heap:=af;have X:U w.heap+1<U m.heap:=af;have b1:Bw w m:=((((aD.alloc aA _).alloc aj _).alloc bq _)).Z (au.h bq);replace N:Own (U w.heap+3) m (.S o (J l0) q) l0:=by simpa using N
 go_wp2_with fail;refine(aJ5 (oQ _ (by exact(b1.setCell bq _).setCell bq _)) af).h ?_;rintro e j⟨r,s,rfl,M,R⟩;let⟨gC,AW⟩:=I5 R;have z2:U m.heap<=U j.heap:=by have:=R.size;simp at this;omega
 have b2:Bw w j:=((b1.setCell bq _).setCell bq _).Z (R.h bq);have W:Own (U w.heap+3) j (.S o (J l0) q) l0:=Own.H ((N.set aj _).set aj _) R;replace M:Own (U m.heap) j (.S r (J l1) s) l1:=by simpa using M
 go_wp2_with fail;refine(aJ5 (Kt _ (by exact(b2.setCell bq _).setCell bq _)) af).h ?_;rintro e y⟨u,x,rfl,V,E⟩;let⟨nK,rT⟩:=I5 E;have z3:U j.heap<=U y.heap:=by have:=E.size;simp at this;omega
 have LD:U w.heap+1+1<U j.heap:=af;have Z:U w.heap+1<U j.heap:=af;have b3:Bw w y:=((b2.setCell bq _).setCell bq _).Z (E.h bq);have aR4:Own (U w.heap+3) y (.S o (J l0) q) l0:=Own.H ((W.set aj _).set aj _) E;have Fj:Own (U m.heap) y (.S r (J l1) s) l1:=Own.H ((M.set bq _).set bq _) E;replace V:Own (U j.heap) y (.S u (J i) x) i:=by simpa using V
 go_wp2;refine cg (v:=mV (.S o (J l0) q) n0 (.S r (J l1) s) n1 (.S u (J i) x) n2) (by simp[results,results21,go_sem,fM,gC,nK,z1,JA,X,LD,Z]) rfl ⟨o,q,r,s,u,x,rfl,?_,?_⟩;{
 refine ko.mk' (B:=U w.heap) (B1:=U m.heap) (B2:=U j.heap) (N.h af) M (Own.h (B:=U w.heap+3) ?_ af) ?_ ?_ aA aA af af;{
 repeat(refine sy ?_ aj _)
 exact aR4};{
 repeat(refine sy ?_ bq _)
 exact Fj};{
 repeat(refine sy ?_ bq _)
 exact V}};{
 repeat(refine ri ?_ (by simp<;>omega) _)
 exact b3}
def lT(n:Nat)(s:Int):Bool:=dD (n<=200000)&&dD (0<=s)&&dD (s<=n)
def cw0(a:n<=200000)(b:0<=s)(c:s<=n):lT n s:=by simp[lT,a,b,c]
def Vc(a:¬(n<=200000/\0<=s/\s<=n)):lT n s=dF:=by
 unfold lT;rw[Cf,Cf];simp only[JW];omega
def ax6(h:lT n s):n<=200000/\0<=s/\s<=n:=by
 simp[lT]at h;omega
def Un(i:n<=2097152):dQ dG 84 #[tB (.S p n c) s] w (Rb (.bool (lT n s)) w):=by
 by_cases a:n<=200000;{by_cases b:0<=s;{by_cases c:s<=n;{rw[cw0 a b c];go_in;go_wp2;go_ret;exact⟨rfl,aD.alloc aA _⟩};{rw[Vc af];go_in;go_wp2;go_ret;exact⟨rfl,aD.alloc aA _⟩}};{rw[Vc af];go_in;go_wp2;go_ret;exact⟨rfl,aD.alloc aA _⟩}};{rw[Vc af];go_in;go_wp2;go_ret;exact⟨rfl,aD.alloc aA _⟩}
def mU(n0:Nat)(s0:Int)(n1:Nat)(s1:Int)(n2:Nat)(s2:Int):Bool:=lT n0 s0&&lT n1 s1&&lT n2 s2
def bN1(q:n0<=2097152)(x:n1<=2097152)(D:n2<=2097152):dQ dG 44 #[mV (.S p0 n0 c0) s0 (.S p1 n1 c1) s1 (.S p2 n2 c2) s2] w (Rb (.bool (mU n0 s0 n1 s1 n2 s2)) w):=by
 cases e0:lT n0 s0;{rw[show mU n0 s0 n1 s1 n2 s2=dF by simp[mU,e0]];have m:O (lT n0 s0=dF):=e0;go_in;go_wp2_with fail;refine br (Un q) λo j=>?_;rw[m.out];have R:Bw w o:=(aD.alloc aA _).Z (j.h aj);go_wp2;go_ret;exact⟨rfl,R⟩};{have m:O (lT n0 s0):=e0;cases e1:lT n1 s1;{rw[show mU n0 s0 n1 s1 n2 s2=dF by simp[mU,e1]];have s:O (lT n1 s1=dF):=e1;go_in;go_wp2_with fail;refine br (Un q) λo j=>?_;rw[m.out];let⟨E,B⟩:=I5 j;go_wp2_with fail;refine br (Un x) λu i=>?_;rw[s.out];replace i:=ai j i;have N:Bw w u:=(aD.alloc aA _).Z (i.h aj);go_wp2;go_ret;exact⟨rfl,N⟩};{rw[show mU n0 s0 n1 s1 n2 s2=lT n2 s2 by simp[mU,e0,e1]];have s:O (lT n1 s1):=e1;go_in;go_wp2_with fail;refine br (Un q) λo j=>?_;rw[m.out];let⟨E,B⟩:=I5 j;go_wp2_with fail;refine br (Un x) λu i=>?_;rw[s.out];replace i:=ai j i;let⟨V,W⟩:=I5 i;go_wp2_with fail;refine br (Un D) λy r=>?_;replace r:=ai i r;have M:Bw w y:=(aD.alloc aA _).Z (r.h aj);go_wp2;go_ret;exact⟨rfl,M⟩}}
def bn5(m j i:OA)(r:Nat)(q:Nat)(o:Nat)(x:v0=.S m n0 r)(u:v1=.S j n1 q)(s:v2=.S i n2 o):dQ dG 67 #[mV v0 s0 v1 s1 v2 s2] w (Rb (mV v0 s0 v1 s1 v2 s2) w):=by
 subst x u s;go_in;go_wp2;refine cg (v:=mV (.S m n0 r) s0 (.S j n1 q) s1 (.S i n2 o) s2) (by simp[results,results67,go_sem]) rfl ⟨rfl,?_⟩
 repeat(refine ri ?_ aj _)
 exact(aD.alloc aA _).alloc aj _
def Vd(i:n<=2097152):dQ dG 173 #[tB (.S p n c) s] w (Rb (.bool (lT n s)) w):=by
 by_cases a:n<=200000;{by_cases b:0<=s;{by_cases c:s<=n;{rw[cw0 a b c];go_in;go_wp2;go_ret;exact⟨rfl,aD.alloc aA _⟩};{rw[Vc af];go_in;go_wp2;go_ret;exact⟨rfl,aD.alloc aA _⟩}};{rw[Vc af];go_in;go_wp2;go_ret;exact⟨rfl,aD.alloc aA _⟩}};{rw[Vc af];go_in;go_wp2;go_ret;exact⟨rfl,aD.alloc aA _⟩}
def ey6(h:lT n0 s0=dF):mU n0 s0 n1 s1 n2 s2=dF:=by simp[mU,h]
def ey5(h:lT n1 s1=dF):mU n0 s0 n1 s1 n2 s2=dF:=by simp[mU,h]
def ey4(h:lT n2 s2=dF):mU n0 s0 n1 s1 n2 s2=dF:=by simp[mU,h]
def ey3(a:lT n0 s0)(b:lT n1 s1)(c:lT n2 s2):mU n0 s0 n1 s1 n2 s2:=by simp[mU,a,b,c]
def cx4(D:n0<=2097152)(B:n1<=2097152)(y:n2<=2097152):dQ dG 115 #[mV (.S p0 n0 c0) s0 (.S p1 n1 c1) s1 (.S p2 n2 c2) s2] w (Rb (.bool (mU n0 s0 n1 s1 n2 s2)) w):=by
 have W:∀w:G,(Instr.index 108 (mV (.S p0 n0 c0) s0 (.S p1 n1 c1) s1 (.S p2 n2 c2) s2) (.I 0)).run dG w=.ok (tB (.S p0 n0 c0) s0) w:=λ_=>aU;have V:∀w:G,(Instr.index 108 (mV (.S p0 n0 c0) s0 (.S p1 n1 c1) s1 (.S p2 n2 c2) s2) (.I 1)).run dG w=.ok (tB (.S p1 n1 c1) s1) w:=λ_=>aU;have R:∀w:G,(Instr.index 108 (mV (.S p0 n0 c0) s0 (.S p1 n1 c1) s1 (.S p2 n2 c2) s2) (.I 2)).run dG w=.ok (tB (.S p2 n2 c2) s2) w:=λ_=>aU;go_in;go_wp2
 go_loopw[6](λi wr=>Bw w wr/\(i=.I 0\/(i=.I 1/\lT n0 s0)\/(i=.I 2/\lT n0 s0/\lT n1 s1)\/(i=.I 3/\lT n0 s0/\lT n1 s1/\lT n2 s2))) (λi _=>3-(intOf i).toNat)
 exact⟨aD.alloc aA _,.L rfl⟩;{
 obtain⟨j,rfl|⟨rfl,s⟩|⟨rfl,s,u⟩|⟨rfl,s,u,M⟩⟩:=hrel;{
 skip
 cases e0:lT n0 s0;{have E:=ag (ey6 (n0:=n0) (n1:=n1) (n2:=n2) (s0:=s0) (s1:=s1) (s2:=s2) e0);have r:=ag e0;go_wp2_with fail;refine br (Vd D) λm q=>?_;rw[ae r];have o:Bw w m:=(j.alloc j.size _).Z (q.h (by have:=j.size;simp;omega));go_wp2;go_ret;exact⟨by rw[ae E];rfl,o⟩};{
 have r:=ag e0;go_wp2_with fail;refine br (Vd D) λm q=>?_;rw[ae r];have o:Bw w m:=(j.alloc j.size _).Z (q.h (by have:=j.size;simp;omega));go_wp2;go_roundw;exact⟨o,.R (.L ⟨rfl,by trivial⟩)⟩
 case measure=>simp[intOf]}}
 {
 have x:=ag s;clear s;cases e1:lT n1 s1;{have E:=ag (ey5 (n0:=n0) (n1:=n1) (n2:=n2) (s0:=s0) (s1:=s1) (s2:=s2) e1);have r:=ag e1;go_wp2_with fail;refine br (Vd B) λm q=>?_;rw[ae r];have o:Bw w m:=(j.alloc j.size _).Z (q.h (by have:=j.size;simp;omega));go_wp2;go_ret;exact⟨by rw[ae E];rfl,o⟩};{
 have r:=ag e1;go_wp2_with fail;refine br (Vd B) λm q=>?_;rw[ae r];have o:Bw w m:=(j.alloc j.size _).Z (q.h (by have:=j.size;simp;omega));go_wp2;go_roundw;exact⟨o,.R (.R (.L ⟨rfl,x,by trivial⟩))⟩
 case measure=>simp[intOf]}}
 {
 have x:=ag s;have N:=ag u;clear s u;cases e2:lT n2 s2;{have E:=ag (ey4 (n0:=n0) (n1:=n1) (n2:=n2) (s0:=s0) (s1:=s1) (s2:=s2) e2);have r:=ag e2;go_wp2_with fail;refine br (Vd y) λm q=>?_;rw[ae r];have o:Bw w m:=(j.alloc j.size _).Z (q.h (by have:=j.size;simp;omega));go_wp2;go_ret;exact⟨by rw[ae E];rfl,o⟩};{
 have r:=ag e2;go_wp2_with fail;refine br (Vd y) λm q=>?_;rw[ae r];have o:Bw w m:=(j.alloc j.size _).Z (q.h (by have:=j.size;simp;omega));go_wp2;go_roundw;exact⟨o,.R (.R (.R ⟨rfl,x,N,by trivial⟩))⟩
 case measure=>simp[intOf]}}
 {have E:=ag (ey3 s u M);go_wp2;go_ret;exact⟨by rw[ae E];rfl,j⟩}}
def cg2(o:n0<=2097152)(m:n1<=2097152)(j:n2<=2097152):dQ dG 59 #[mV (.S p0 n0 c0) s0 (.S p1 n1 c1) s1 (.S p2 n2 c2) s2] w (Rb (.bool (mU n0 s0 n1 s1 n2 s2)) w):=by
 go_in;go_wp2_with fail;refine br (bn5 p0 p1 p2 (n0:=n0) c0 (n1:=n1) c1 (n2:=n2) c2 rfl rfl rfl) λi u=>?_;have r:Bw w i:=(aD.alloc aA _).Z (u.h aj);go_wp2_with fail;refine br (cx4 o m j) λx s=>?_;have q:=ai r s;go_wp2;go_ret;exact⟨rfl,q⟩
def ko.H(h:ko B w v0 v1 v2 l0 l1 l2)(i:Bw w w'):ko B w' v0 v1 v2 l0 l1 l2:=
 ⟨Own.H h.o0 i,Own.H h.o1 i,Own.H h.o2 i,h.OP,h.ON,h.n12⟩
def aT0(h:Own B w (.S p (J l) c) l)(x:Mg (J l))(j:0<=k)(k1:k<=100000000):dQ dG 75 #[tB (.S p (J l) c) s,.I k] w λe w'=>e=dR (.I (k+J l))/\Own B w' (.S p (J l) c) (marks k (J l))/\Kept [.S p (J l) c] w w':=by
 have u:=λ(w':G)(r:Bw w w')=>Own.H h r;go_in;go_wp2_with fail;refine(dD0 (u _ (by exact aD.alloc aA _)) af j k1).h ?_;rintro e i⟨rfl,m,q⟩;have o:Kept [.S p (J l) c] w i:=(Kept.tT (aD.alloc aA _)).Z (Kept.aR0 q aj);go_wp2;go_ret;exact⟨rfl,m,o⟩
def bg9(h:Rd w (.S p n c) (marks k n))(x:Mg n)(m:0<=k)(k1:k<=100000000):dQ dG 78 #[tB (.S p n c) s,.I k] w (Rb (.I (k+n)) w):=by
 have q:=λ(j:G)(o:Bw w j)=>Rd.H h o;go_in;go_wp2_with fail;refine br (dY1 (q _ (by exact aD.alloc aA _)) af m k1) λi u=>?_;have r:Bw w i:=(aD.alloc aA _).Z (u.h aj);go_wp2;go_ret;exact⟨rfl,r⟩
abbrev nT(w:G)(b:Nat)(v0 v1 v2 v3 v4 v5:dV):Prop:=
 I w (Ad b 0)=v0/\I w (Ad b 1)=v1/\I w (Ad b 2)=v2/\I w (Ad b 3)=v3/\I w (Ad b 4)=v4/\I w (Ad b 5)=v5
def nT.H{v4 v5:dV}(h:nT w b v0 v1 v2 v3 v4 v5)(i:Bw w w'):nT w' b v0 v1 v2 v3 v4 v5:=
 ⟨al h.1 i,al h.2.1 i,al h.2.2.1 i,al h.2.2.2.1 i,al h.2.2.2.2.1 i,al h.2.2.2.2.2 i⟩
def dC9(B:Nat)(y x r:OA)(M E D:Nat)(s0 s1 s2:Int)(l0 l1 j:LI)(k:Int)(w:G)(h:ko B w (.S y (J l0) M) (.S x (J l1) E) (.S r (J j) D) l0 l1 j)(m0:Mg (J l0))(m1:Mg (J l1))(m2:Mg (J j))(k0:0<=k)(k1:k<=90000000):dQ dG 31 #[mV (.S y (J l0) M) s0 (.S x (J l1) E) s1 (.S r (J j) D) s2,.I k] w λe w'=>e=dR (.I (k+J l0+J l1+J j))∧
   ko B w' (.S y (J l0) M) (.S x (J l1) E) (.S r (J j) D) (marks k (J l0)) (marks (k+J l0) (J l1)) (marks (k+J l0+J l1) (J j))∧
   Kept [.S y (J l0) M,.S x (J l1) E,.S r (J j) D] w w':=by
 have b0:∀o:Obj,Bw w (w.alloc o):=λo=>aD.alloc aA _;have hR:=λ(w':G)(hb:Bw w w')=>ko.H h hb;have t0:=h.o0.lt;have t1:=h.o1.lt;have t2:=h.o2.lt;have N:=h;go_in;go_wp2_with fail;have h1:=hR _ (b0 (dO #[.S y (J l0) M,.I s0,.S x (J l1) E,.I s1,.S r (J j) D,.I s2] 37));refine(aT0 (B:=B) (p:=y) (c:=M) (l:=l0) (s:=s0) (k:=k) h1.o0 m0 k0 af).h ?_;rintro e w1⟨rfl,o0,W⟩;have fM:=W.cellAt (b:=U w.heap) aj (by intro v R e;simp only[pY]at R;subst R;have:=t0 _ e;omega);have o1:=Own.Kc h1.o1 W (by intro u i b e;simp only[pY]at i;subst i;intro m;exact N.OP b m e);have o2:=Own.Kc h1.o2 W (by intro u i b e;simp only[pY]at i;subst i;intro m;exact N.ON b m e);have z1:U w.heap<U w1.heap:=by have:=W.size;simp at this;omega
 go_wp2_with fail;refine(aT0 (B:=B) (p:=x) (c:=E) (l:=l1) (s:=s1) o1 m1 af af).h ?_;rintro e w2⟨rfl,Fj,V⟩;have gC:=V.cellAt (b:=U w.heap) z1 (by intro v R e;simp only[pY]at R;subst R;have:=t1 _ e;omega);have Z:=Own.Kc (l:=marks k (J l0)) o0 V (by intro u i b e;simp only[pY]at i;subst i;intro m;exact N.OP b e m);have X:=Own.Kc o2 V (by intro u i b e;simp only[pY]at i;subst i;intro m;exact N.n12 b m e);have z2:U w.heap<U w2.heap:=aK V.size;go_wp2_with fail;refine(aT0 (B:=B) (p:=r) (c:=D) (l:=j) (s:=s2) X m2 af af).h ?_;rintro e w3⟨rfl,dy7,g3⟩;have aR4:=Own.Kc (l:=marks k (J l0)) Z g3 (by intro u i b e;simp only[pY]at i;subst i;intro m;exact N.ON b e m);have dy9:=Own.Kc (l:=marks (k+J l0) (J l1)) Fj g3 (by intro u i b e;simp only[pY]at i;subst i;intro m;exact N.n12 b e m);have hk:Kept [.S y (J l0) M,.S x (J l1) E,.S r (J j) D] w w3:=
  ((Kept.tT (b0 _)).Z (W.more aj)).Z ((V.more aj).Z (g3.more aj))
 go_wp2;go_ret;exact⟨rfl,⟨aR4,dy9,dy7,N.OP,N.ON,N.n12⟩,hk⟩
def dY0(u s r:OA)(B y x n0 n1 n2:Nat)(s0 s1 s2:Int)(k:Int)(w:G)(h0:Rd w (.S u n0 B) (marks k n0))(h1:Rd w (.S s n1 y) (marks (k+n0) n1))(Z:Rd w (.S r n2 x) (marks (k+n0+n1) n2))(W:Mg n0)(V:Mg n1)(R:Mg n2)(X:0<=k)(k1:k<=90000000):dQ dG 36 #[mV (.S u n0 B) s0 (.S s n1 y) s1 (.S r n2 x) s2,.I k] w (Rb (.I (k+n0+n1+n2)) w):=by
 have US:=λ(i:G)(j:Bw w i)=>h0.H j;have N:=λ(i:G)(j:Bw w i)=>h1.H j;have Kt:=λ(i:G)(j:Bw w i)=>Z.H j;go_in;go_wp2_with fail;refine br (bg9 (US _ (by exact aD.alloc aA _)) W X af) λM o=>?_;have b1:Bw w M:=(aD.alloc aA _).Z (o.h aj);let⟨fM,sE⟩:=I5 o;go_wp2_with fail;refine br (bg9 (N _ b1) V af af) λE m=>?_;replace m:=ai o m;have b2:Bw w E:=(aD.alloc aA _).Z (m.h aj);let⟨gC,AW⟩:=I5 m;go_wp2_with fail;refine br (bg9 (Kt _ b2) R af af) λD q=>?_;replace q:=ai m q;have b3:Bw w D:=(aD.alloc aA _).Z (q.h aj);go_wp2;go_ret;exact⟨rfl,b3⟩
def Bf(j m:Bool)(q r vs:Int)(i:Bool)(s f:Int)(o nv:Nat)(e g:Int):Bool:=
 (j||s==0)&&((m||o==0)&&(dD (q<=f)&&(dD (f<=r)&&(dD ((nv:Int)<=vs)&&(i||(e==0&&g==0))))))
def dI4(h:1<=k/\k<=13):dQ dG 102 #[.I k] w λe w'=>e=dR (.bool (dD (k=2\/k=3\/k=4\/k=5\/k=7\/k=8\/k=9\/k=10\/k=11\/k=12)))/\w'=w:=by
 have:k=1\/k=2\/k=3\/k=4\/k=5\/k=6\/k=7\/k=8\/k=9\/k=10\/k=11\/k=12\/k=13:=by omega
 obtain rfl|rfl|rfl|rfl|rfl|rfl|rfl|rfl|rfl|rfl|rfl|rfl|rfl:=this
 all_goals(go_in;go_wp2;go_ret;exact⟨rfl,rfl⟩)
def dI5(h:1<=k/\k<=13):dQ dG 159 #[.I k] w λe w'=>e=dR (.bool (dD (k=4\/k=5\/k=6\/k=7\/k=8\/k=9\/k=10\/k=11\/k=13)))/\w'=w:=by
 have:k=1\/k=2\/k=3\/k=4\/k=5\/k=6\/k=7\/k=8\/k=9\/k=10\/k=11\/k=12\/k=13:=by omega
 obtain rfl|rfl|rfl|rfl|rfl|rfl|rfl|rfl|rfl|rfl|rfl|rfl|rfl:=this
 all_goals(go_in;go_wp2;go_ret;exact⟨rfl,rfl⟩)
def dI3(h:1<=k/\k<=13):dQ dG 53 #[.I k] w λe w'=>e=dR (.bool (dD (k=1\/k=3\/k=4\/k=5\/k=7\/k=8\/k=9)))/\w'=w:=by
 have:k=1\/k=2\/k=3\/k=4\/k=5\/k=6\/k=7\/k=8\/k=9\/k=10\/k=11\/k=12\/k=13:=by omega
 obtain rfl|rfl|rfl|rfl|rfl|rfl|rfl|rfl|rfl|rfl|rfl|rfl|rfl:=this
 all_goals(go_in;go_wp2;go_ret;exact⟨rfl,rfl⟩)
def z0(s:Int):s=0\/(s != 0):=(J6 (s=0)).imp id (λh=>by simp[h])
def zn(n:Nat):n=0\/((n:Int) != 0):=(J6 (n=0)).imp id (λh=>by simp[h])
def zf(a f:Int):f=a\/(f==a)=dF:=(J6 (f=a)).imp id (λh=>by simp[h])
def rowOf:Nat->Bool×Bool×Int×Int×Int×Bool×Bool
 |1=>(dF,dF,0,0,0,dF,dY)
 |2=>(dY,dF,0,0,0,dF,dF)
 |3=>(dY,dF,0,0,0,dF,dY)
 |4=>(dY,dY,0,1,40,dF,dY)
 |5=>(dY,dY,0,0,0,dF,dY)
 |6=>(dF,dY,0,0,0,dF,dF)
 |7=>(dY,dY,0,0,40,dF,dY)
 |8=>(dY,dY,1,2,0,dF,dY)
 |9=>(dY,dY,0,0,0,dF,dY)
 |10=>(dY,dY,0,0,0,dY,dF)
 |11=>(dY,dY,0,0,0,dF,dF)
 |12=>(dY,dF,0,0,0,dF,dF)
 |13=>(dF,dY,0,0,0,dF,dF)
 |_=>(dF,dF,0,0,0,dF,dF)
def qR(k:Nat)(s f:Int)(n m:Nat)(e g:Int):Bool:=Bf (rowOf k).1 (rowOf k).2.1 (rowOf k).2.2.1 (rowOf k).2.2.2.1 (rowOf k).2.2.2.2.1 (rowOf k).2.2.2.2.2.1 s f n m e g
def Up(k:Nat):Bool:=(rowOf k).2.2.2.2.2.2
def kinds{k:Nat}(j:1<=k)(i:k<=13):k=1\/k=2\/k=3\/k=4\/k=5\/k=6\/k=7\/k=8\/k=9\/k=10\/k=11\/k=12\/k=13:=by omega
variable {B:Bool}
def ej9(M:1<=k)(E:k<=13)(u:O (qR k.toNat s f n m e g=B)):dQ dG 99 #[lM k s (.S p n c) f (.S q m d) e g] w (Rb (.bool B) w):=by
 have:k=1\/k=2\/k=3\/k=4\/k=5\/k=6\/k=7\/k=8\/k=9\/k=10\/k=11\/k=12\/k=13:=by omega
 clear M E;obtain rfl|rfl|rfl|rfl|rfl|rfl|rfl|rfl|rfl|rfl|rfl|rfl|rfl:=this;obtain rfl|x:=z0 s;obtain rfl|o:=zn n;obtain rfl|he:=z0 e;obtain rfl|j:=z0 g;obtain rfl|i:=zn m;obtain rfl|hf:=zf 0 f;rotate_left 7;obtain rfl|o:=zn n;obtain rfl|he:=z0 e;obtain rfl|j:=z0 g;obtain rfl|i:=zn m;obtain rfl|hf:=zf 0 f;rotate_left 6;obtain rfl|o:=zn n;obtain rfl|he:=z0 e;obtain rfl|j:=z0 g;obtain rfl|i:=zn m;obtain rfl|hf:=zf 0 f;rotate_left 6;obtain rfl|he:=z0 e;obtain rfl|j:=z0 g;obtain i|i:=(J6 ((40:Int)<(m:Int))).symm;obtain rfl|hf:=zf 0 f;rotate_left;obtain rfl|D:=zf 1 f;rotate_left 5;obtain rfl|he:=z0 e;obtain rfl|j:=z0 g;obtain rfl|i:=zn m;obtain rfl|hf:=zf 0 f;rotate_left 5;obtain rfl|x:=z0 s;obtain rfl|he:=z0 e;obtain rfl|j:=z0 g;obtain rfl|i:=zn m;obtain rfl|hf:=zf 0 f;rotate_left 6;obtain rfl|he:=z0 e;obtain rfl|j:=z0 g;obtain i|i:=(J6 ((40:Int)<(m:Int))).symm;obtain rfl|hf:=zf 0 f;rotate_left 5;obtain rfl|he:=z0 e;obtain rfl|j:=z0 g;obtain rfl|i:=zn m;obtain rfl|hf:=zf 1 f;rotate_left;obtain rfl|D:=zf 2 f;rotate_left 5;obtain rfl|he:=z0 e;obtain rfl|j:=z0 g;obtain rfl|i:=zn m;obtain rfl|hf:=zf 0 f;rotate_left 5;obtain rfl|i:=zn m;obtain rfl|hf:=zf 0 f;rotate_left 3;obtain rfl|he:=z0 e;obtain rfl|j:=z0 g;obtain rfl|i:=zn m;obtain rfl|hf:=zf 0 f;rotate_left 5;obtain rfl|o:=zn n;obtain rfl|he:=z0 e;obtain rfl|j:=z0 g;obtain rfl|i:=zn m;obtain rfl|hf:=zf 0 f;rotate_left 6;obtain rfl|x:=z0 s;obtain rfl|he:=z0 e;obtain rfl|j:=z0 g;obtain rfl|i:=zn m;obtain rfl|hf:=zf 0 f;rotate_left 6
 all_goals(cases B<;>first|(exfalso;have h:=ae u;clear u;simp_all[qR,Bf,rowOf]<;>omega)|clear u)
 all_goals(go_in;go_wp2_with fail;refine(dI4 bf).h ?_;rintro r y⟨rfl,rfl⟩;(try(go_wp2_with fail;refine(dI5 bf).h ?_;rintro r y⟨rfl,rfl⟩));go_wp2;go_ret;exact⟨rfl,aD.alloc aA _⟩)
def cv4(i:k<1\/13<k):dQ dG 99 #[lM k s (.S p n c) f (.S q m d) e g] w (Rb (.bool dF) w):=by
 obtain r|o:=i;{go_in;go_wp2;go_ret;exact⟨rfl,aD.alloc aA _⟩};{have j:¬k<1:=af;go_in;go_wp2;go_ret;exact⟨rfl,aD.alloc aA _⟩}
abbrev ek2(se pa:Bool)(lo hi vs:Int)(sq jo:Bool):dV:=.agg #[.bool se,.bool pa,.I lo,.I hi,.I vs,.bool sq,.bool jo]
def zs(i:Bool)(s:Int):i=dY\/(i=dF/\s=0)\/(i=dF/\(s==0)=dF):=by
 cases i;{exact .R ((zf 0 s).imp (⟨rfl,·⟩) (⟨rfl,·⟩))};{exact .L rfl}
def zp(i:Bool)(n:Nat):i=dY\/(i=dF/\n=0)\/(i=dF/\((n:Int)==0)=dF):=by
 obtain h|⟨h,j⟩|h:=zs i n;{exact .L h};{exact .R (.L ⟨h,af⟩)};{exact .R (.R h)}
def ek5(i:O (Bf se pa lo hi vs sq s f n m e g=B)):dQ dG 258 #[ek2 se pa lo hi vs sq jo,lM k s (.S p n c) f (.S q m d) e g] w (Rb (.bool B) w):=by
 obtain rfl|⟨rfl,rfl⟩|⟨rfl,dd⟩:=zs se s
 all_goals(first|(have x:=dd;clear x)|obtain rfl|⟨rfl,rfl⟩|⟨rfl,dd⟩:=zp pa n)
 all_goals(first|(have x:=dd;clear x)|obtain u|dd:=J6 (lo<=f))
 all_goals(first|(have x:=dd;clear x)|obtain r|dd:=J6 (f<=hi))
 all_goals(first|(have x:=dd;clear x)|obtain o|dd:=J6 ((m:Int)<=vs))
 all_goals(first|(have x:=dd;clear x)|obtain rfl|⟨rfl,rfl⟩|⟨rfl,dd⟩:=zs sq e)
 all_goals(first|(have x:=dd;clear x)|obtain rfl|j:=zf 0 g)
 all_goals(cases B<;>first|(exfalso;have h:=ae i;clear i;simp_all[Bf]<;>omega)|clear i)
 all_goals(go_in;go_wp2;go_ret;exact⟨rfl,(aD.alloc aA _).alloc aj _⟩)
abbrev Jh(w:G)(iG o:Nat)(se pa:Bool)(lo hi vs:Int)(sq jo:Bool):Prop:=I w (Ad iG o)=Y (.bool se)/\I w (Ad iG (o+1))=Y (.bool pa)/\I w (Ad iG (o+2))=dI lo/\I w (Ad iG (o+3))=dI hi/\I w (Ad iG (o+4))=dI vs/\I w (Ad iG (o+5))=Y (.bool sq)/\I w (Ad iG (o+6))=Y (.bool jo)
def Jh.H{iG:Nat}(h:Jh w iG o se pa lo hi vs sq jo)(i:Bw w w'):Jh w' iG o se pa lo hi vs sq jo:=
 ⟨al h.1 i,al h.2.1 i,al h.2.2.1 i,al h.2.2.2.1 i,al h.2.2.2.2.1 i,al h.2.2.2.2.2.1 i,al h.2.2.2.2.2.2 i⟩
variable {k:Nat}
def aI0(Z:1<=k)(X:k<=13)(E:Jh w 0 (k*7) se pa lo hi vs sq jo)(R:O (Bf se pa lo hi vs sq s f n m e g=B)):dQ dG 235 #[lM k s (.S p n c) f (.S q m d) e g] w (Rb (.bool B) w):=by
 have h1:=gm 1 k;have h2:(k:Int)<=13:=af;have h3:(k:Int)<14:=af;have h4:k<14:=af;have h5:=gm 0 k;go_in;go_wp2_with fail;let⟨W,i⟩:=aG (w.alloc (dO #[.I k,.U s,.S p n c,.I f,.S q m d,.U e,.U g] 65));have r:=gF i;have o:lp W (U w.heap) (.I k) (.U s) (.S p n c) (.I f) (.S q m d) (.U e) (.U g):=by rw[i];simp[lp,go_sem]
 have x:=E.H r;rw[<-i];clear i E
 go_region_held3 (λD=>lp D (U w.heap) (.I k) (.U s) (.S p n c) (.I f) (.S q m d) (.U e) (.U g)/\Jh D 0 (k*7) se pa lo hi vs sq jo) (first|exact⟨o,x⟩|exact⟨y,M⟩)
  (first|(go_at_call 258;refine br (ek5 R) λN u=>?_;have j:Bw W N:=(by first|exact u|exact ai (aR (U W.heap) W).drew u);have y:=o.H j;have M:=x.H j))
 have V:=ai r j;clear o x y M u j r;go_wp2;go_ret;exact⟨rfl,V⟩
def cX9{k:Int}(y:k<1\/13<k):dQ dG 235 #[lM k s (.S p n c) f (.S q m d) e g] w (Rb (.bool dF) w):=by
 have i:∀o:Obj,Bw w (w.alloc o):=λo=>aD.alloc aA _;by_cases B:k<1;{
 have x:¬(1:Int)<=k:=af;have j:dD ((1:Int)<=k)=dF:=by simp;omega
 go_in;go_wp2_with fail
 go_region
 all_goals(
  go_wp2;go_ret;exact⟨rfl,by first|exact i _|exact(i _).drew⟩)}
 {
 have x:(1:Int)<=k:=af;have u:¬k<=13:=af;have j:dD ((1:Int)<=k):=by simp;omega
 have r:dD (k<=(13:Int))=dF:=by simp;omega
 go_in;go_wp2_with fail
 go_region
 all_goals(
  go_wp2;go_ret;exact⟨rfl,by first|exact i _|exact(i _).drew⟩)}
def Lb(h b:Int):Int:=((h.toNat ^^^ b.toNat:Nat):Int)*16777619 % 4294967296
def aA6(h:Int)(l:LI):Int:=l.foldl Lb h
def ck(l:LI):Int:=aA6 2166136261 l
def eE4{h b:Int}:0<=Lb h b/\Lb h b<4294967296:=by unfold Lb;omega
def cE2(h:k<J l):ck (l.take (k+1))=Lb (ck (l.take k)) l[k]:=by
 unfold ck aA6;rw[Xx h,Ud];rfl
def aA5(l:LI):0<=ck l/\ck l<4294967296:=by
 obtain rfl|⟨m,x,rfl⟩:=l.eq_nil_or_concat;{unfold ck aA6;simp};{unfold ck aA6;rw[List.concat_eq_append,Ud];exact eE4}
def cV5{h b:Nat}(i:h<4294967296)(j:b<256):h ^^^ b<4294967296:=
 Xq (n:=32) i af
def bH7(k:IntKind)(u:j<=k.bits)(s:∀n:Int,0<=n->n<2 ^ j->k.wrap n=n)(a b:Nat)(q:a<2 ^ j)(o:b<2 ^ j):bits .xor k a b=((a ^^^ b:Nat):Int):=by
 have m:2 ^ j<=2 ^ k.bits:=aU5 bf u;have r:a % 2 ^ k.bits=a:=Nat.mod_eq_of_lt (ku q m);have x:b % 2 ^ k.bits=b:=Nat.mod_eq_of_lt (ku o m);have i:∀n:Nat,n<2 ^ j->((n:Nat):Int)<2 ^ j:=λn h=>by exact_mod_cast h
 simp only[bits,BitVec.ofInt_natCast,BitVec.toNat_xor,BitVec.toNat_ofNat,r,x];exact s _ (Int.natCast_nonneg _) (i _ (Xq q o))
def eE2{a:Int}(i:0<=a)(q:a<4294967296)(z0:0<=z)(j:z<256):(IntKind.u64.wrap (bits .xor .u64 a z*16777619)).tmod 4294967296=Lb a z:=by
 obtain⟨m,rfl⟩:=Ia i;obtain⟨n,rfl⟩:=Ia z0;have o:=cV5 (h:=m) (b:=n) af af;rw[bH7 .u64 bf wraps_u64 m n af af];unfold Lb;simp only[Int.ofNat_eq_natCast,uC];generalize m ^^^ n=y at*;rw[u64_wrap_id _ af af,Int.tmod_eq_emod_of_nonneg af]
def eE3{a:Int}(i:0<=a)(o:a<4294967296)(z0:0<=z)(j:z<256):IntKind.u32.wrap (bits .xor .u32 a z*16777619)=Lb a z:=by
 obtain⟨m,rfl⟩:=Ia i;obtain⟨n,rfl⟩:=Ia z0;rw[bH7 .u32 bf wraps_u32 m n af af,IntKind.wrap_u32];unfold Lb;simp only[Int.ofNat_eq_natCast,uC]
def di6(h:Rd w (.S p (J l) c) l)(q:aC l)(E:J l<=4194304):dQ dG 170 #[.S p (J l) c] w (Rb (.int .u32 (ck l)) w):=by
 obtain⟨D,N,ev,h⟩:=h;obtain⟨rfl,-,rfl⟩:=jJ ev;go_in;go_wp2
 go_loopw[3,4](λs i wr=>∃k:Nat,k<=J l/\i=.I k/\s=.U (ck (l.take k))/\Bw w wr) (λ_ i _=>J l-(intOf i).toNat)
 exact⟨0,cO _,rfl,rfl,aR _ _⟩;{obtain⟨k,M,rfl,rfl,m⟩:=hrel;let⟨x,u⟩:=aA5 (l.take k);by_cases j:k<J l;{obtain rfl|⟨b,o,rfl,hc⟩:=h;{simp at j};{have B:I wr (Ad b (o+k))=Y (.int .u8 l[k]):=(m.cell (p:=(Ad b (o+k))) (jO w _ (hc k j))).Z (by rw[hc k j];simp[List.getD,j]);let⟨z0,r⟩:=q l[k] (AJ j);have y:=ag (cE2 j);have R:=ag j;clear hc q;generalize l[k]=z at*;generalize ck (l.take k)=a at*;go_wp2;go_roundw;exact⟨k+1,af,by go_num,by rw[ae y,eE2 x u z0 r],m⟩;exact cW}};{obtain rfl:k=J l:=af;rw[wV]at*;go_wp2;go_ret;exact⟨rfl,m⟩}}
def dN6(h:Rd w (.S p (J l) c) l)(q:aC l)(E:J l<=4194304):dQ dG 257 #[.S p (J l) c] w (Rb (.int .u32 (ck l)) w):=by
 obtain⟨D,N,ev,h⟩:=h;obtain⟨rfl,-,rfl⟩:=jJ ev;go_in;go_wp2
 go_loopw[3,8](λs i wr=>∃k:Nat,k<=J l/\i=.I k/\s=.int .u32 (ck (l.take k))/\Bw w wr) (λ_ i _=>J l-(intOf i).toNat)
 exact⟨0,cO _,rfl,rfl,aR _ _⟩;{obtain⟨k,M,rfl,rfl,m⟩:=hrel;let⟨x,u⟩:=aA5 (l.take k);by_cases j:k<J l;{obtain rfl|⟨b,o,rfl,hc⟩:=h;{simp at j};{have B:I wr (Ad b (o+k))=Y (.int .u8 l[k]):=(m.cell (p:=(Ad b (o+k))) (jO w _ (hc k j))).Z (by rw[hc k j];simp[List.getD,j]);let⟨z0,r⟩:=q l[k] (AJ j);have y:=ag (cE2 j);have R:=ag j;clear hc q;generalize l[k]=z at*;generalize ck (l.take k)=a at*;go_wp2;go_roundw;exact⟨k+1,af,by go_num,by rw[ae y,<-eE3 x u z0 r,IntKind.wrap_u32],m⟩;exact cW}};{obtain rfl:k=J l:=af;rw[wV]at*;go_wp2;go_ret;exact⟨rfl,m⟩}}
def le(v:Int):Nat->LI
 |0=>[]
 |n+1=>v % 256::le (v / 256) n
def vL(v:Int)(n:Nat):J (le v n)=n:=by induction n generalizing v with|zero=>rfl|succ n ih=>simp[le,ih]
theorem XI(v:Int)(n:Nat):aC (le v n):=by
 induction n generalizing v with
 |zero=>intro z i;simp[le]at i
 |succ n ih=>
  intro z i;simp only[le,fU]at i;obtain rfl|i:=i;{omega};{exact ih _ z i}
theorem dG5(v:Int)(n:Nat):le v (n+1)=le v n++[v / 256 ^ n % 256]:=by
 induction n generalizing v with
 |zero=>simp[le]
 |succ n ih=>
  rw[le,ih,le,DI];rw[ca8 af,am9,Int.mul_comm]
variable {m:LI}
def aC.append(h:aC l)(k:aC m):aC (l++m):=λz i=>by
 obtain a|a:=jd.1 i;{exact h z a};{exact k z a}
theorem XD(n:Nat)(v:Int)(w:G)(W:n<=8)(Z:0<=v)(X:v<2^64):dQ dG 110 #[.U v,.I n] w λe w'=>∃p c,e=dR (.S p n c)/\Own (U w.heap) w' (.S p n c) (le v n)/\Bw w w':=by
 induction n generalizing v w with
 |zero=>
  go_in;go_wp2;go_ret;exact⟨dN,0,rfl,lZ _ _ _ _,aR _ _⟩
 |succ n ih=>
  have aN:(((n+1:Nat):Int)==0)=dF:=an4.2 af;go_in;go_wp2_with fail;refine(ih (v / 256) _ af af af).h ?_;rintro e r⟨M,N,rfl,y,q⟩;have j:Bw w r:=ai (aD.alloc aA _) q;have i:Own (U w.heap) r (.T (U w.heap) 1 1) [v % 256]:=Own.H (Own.one w (v % 256)) q;have u:=y.rd;have D:=j.size;clear y q;go_wp2_with(at_builtin;refine BJ rfl rfl (.T (U w.heap) 1 1) (lm:=le v (n+1)) cM M N n (by show _=_;exact vL _ _) rfl rfl i u (by rw[vL];simp;omega) D ?_);intro p' c' V ho E;have R:=Am j E i aA D;rw[vL]at ho⊢;clear j E i u;go_wp2;go_ret;exact⟨p',c',rfl,ho,R⟩
def XA{v:Int}(hn:n<=8)(h0:0<=v)(h1:v<2^64):dQ dG 233 #[.U v,.I n] w λe w'=>∃p c,e=dR (.S p n c)/\Own (U w.heap) w' (.S p n c) (le v n)/\Bw w w':=by
 go_in;go_wp2
 go_loopw[0,5,7](λnn Z i wr=>∃(k:Nat)(p:OA)(c:Nat)(l:LI)(u:Int),k<=n/\i=.I k/\nn=.U u/\O (u=v / 256 ^ k)/\0<=u/\u<2^64/\O (l=le v k)/\J l=k/\Z=.S p k c/\Own (U w.heap) wr (.S p k c) l/\Bw w wr) (λ_ _ i _=>n-(intOf i).toNat)
 exact⟨0,dN,0,[],v,cO _,rfl,rfl,by show _=_;simp,h0,h1,rfl,rfl,rfl,lZ _ _ _ _,aR _ _⟩;{
 obtain⟨k,p,c,l,u,R,rfl,rfl,r,u0,u1,D,hl,rfl,ho,q⟩:=hrel;by_cases aH:k<n;{
 let⟨lm,j⟩:=aG (l++[u % 256]);have X:J lm=k+1:=by simp[j,hl]
 have m:=ag X;have Zx:O (lm=le v (k+1)):=by show _=_;rw[j,ae D,ae r,dG5]
 have E:O (u / 256=v / 256 ^ (k+1)):=by show _=_;rw[ae r,ca8 (Int.pow_nonneg af),am9]
 have mT:=ag j;clear X D j r;go_wp2_with(at_builtin;refine Tc rfl rfl (.S p k c) mT (U wr.heap) rfl rfl (Own.H ho (aD.alloc aA _)) aj af (by have:=q.size;simp;omega) ?_);intro p' c' M N W;have b2:Bw w M:=(q.alloc q.size (dO #[.int .u8 (u % 256)] 5)).grown W (by have:=q.size;simp;omega) (λk R=>(ho.lt k R).1);simp only[ae m];have Yl:Own (U w.heap) M (.S p' (k+1) c') lm:=by have V:=N;simp only[ae m]at V;exact V
 clear N W ho q hl mT;go_wp2;go_roundw;exact⟨k+1,p',c',lm,u / 256,af,by go_num,by first|rfl|go_num,E,af,af,Zx,m,rfl,Yl,b2⟩;exact cW};{obtain rfl:k=n:=af;rw[ae D]at ho;clear D hl r;go_wp2;go_ret;exact⟨p,c,rfl,ho,q⟩}}
def eG3(a b c:LI):cat [a,b,c]=a++b++c:=by simp[cat]
def eG2(a b c d:LI):cat [a,b,c,d]=a++b++c++d:=by simp[cat]
def sm(l:LI):LI:=l++le (ck l) 4
def ai3:J (sm l)=J l+4:=by simp[sm,vL]
def bO8(h:aC l):aC (sm l):=h.append (XI _ _)
variable {g:Nat}
theorem du5(y:I w (Ad g 0)=v0)(u:I w (Ad g 1)=v1)(s:I w (Ad g 2)=v2)(r:Rd w v0 l0)(q:Rd w v1 l1)(o:Rd w v2 l2):vj w g [v0,v1,v2] [l0,l1,l2]:=by
 refine⟨rfl,λj v x m i=>?_⟩
 match j,m,i with
 |0,m,i=>simp at m i;subst m i;exact⟨y,r⟩
 |1,m,i=>simp at m i;subst m i;exact⟨u,q⟩
 |2,m,i=>simp at m i;subst m i;exact⟨s,o⟩
theorem du4{o:LI}(E:I w (Ad g 0)=v0)(D:I w (Ad g 1)=v1)(B:I w (Ad g 2)=v2)(y:I w (Ad g 3)=v3)(u:Rd w v0 l0)(s:Rd w v1 l1)(r:Rd w v2 l2)(q:Rd w v3 o):vj w g [v0,v1,v2,v3] [l0,l1,l2,o]:=by
 refine⟨rfl,λj v x m i=>?_⟩
 match j,m,i with
 |0,m,i=>simp at m i;subst m i;exact⟨E,u⟩
 |1,m,i=>simp at m i;subst m i;exact⟨D,s⟩
 |2,m,i=>simp at m i;subst m i;exact⟨B,r⟩
 |3,m,i=>simp at m i;subst m i;exact⟨y,q⟩
def bJ0(X:Le l n)(h:Rd w (.S p n c) l)(W:aC l)(hl:n<=2097152):dQ dG 234 #[.S p n c] w λe w'=>∃q x,e=dR (.S q (n+4) x)/\Own (U w.heap) w' (.S q (n+4) x) (sm l)/\Bw w w':=by
 obtain rfl:=ae X;let⟨V,k1⟩:=aA5 l;go_in;go_wp2_with fail;refine br (dN6 (p:=p) (c:=c) (l:=l) h W af) λw1 y=>?_;go_wp2_with fail;refine(XA (n:=4) (v:=ck l) af V af).h ?_;rintro e M⟨N,Z,rfl,s,B⟩;have i:=ai y B;have m:=h.H i;have j:=s.rd;clear h y B s;go_wp2_with fail;refine(DQ (g:=U M.heap) (vs:=[.S p (J l) c,.S N 4 Z]) [l,le (ck l) 4] (lm:=sm l) (n:=J l+4) 2 rfl (by show _=_;rw[bs9];rfl) (by show _=_;exact ai3 (l:=l)) (bV6 aj aj (m.H (aD.alloc aA _)) (j.H (aD.alloc aA _))) af af).h ?_;rintro e E⟨o,u,rfl,r,D⟩;have b3:=ai (i.alloc i.size _) D;have R:Own (U w.heap) E (.S o (J l+4) u) (sm l):=Own.h r (by have:=i.size;simp;omega);clear m j i D r;go_wp2;go_ret;exact⟨o,u,rfl,R,b3⟩
def bL6(en:Le l n)(h:Rd w (.S p n c) l)(hb:aC l)(hl:n<=2097152):dQ dG 111 #[.S p n c] w λe w'=>∃p' c',e=dR (.S p' (n+4) c')/\Own (U w.heap) w' (.S p' (n+4) c') (sm l)/\Bw w w':=by
 obtain rfl:=ae en;let⟨Z,k1⟩:=aA5 l;go_in;go_wp2_with fail;refine(aZ3 h af).h ?_;rintro e w1⟨X,c1,rfl,M,q⟩;go_wp2_with fail;refine br (di6 (h.H q) hb af) λw2 r=>?_;have V:=ai q r;have E:=Own.H M r;clear h q r M;go_wp2_with fail;refine(XD 4 (ck l) _ af Z af).h ?_;rintro e w3⟨W,c3,rfl,D,u⟩;have j:=ai V u;have i:=Own.H E u;have y:=D.rd;have N:=j.size;clear V u E D;go_wp2_with(at_builtin;refine BJ rfl rfl (.S X (J l) c1) (lm:=sm l) cM W c3 4 (by show _=_;exact vL _ _) rfl rfl i y (by rw[vL];omega) N ?_);intro p' c' w5 ho R;have b5:=Am j R i aA N;rw[ai3]at ho⊢;clear j R i y;go_wp2;go_ret;exact⟨p',c',rfl,ho,b5⟩
abbrev xI(s:Int)(v:dV):dV:=.agg #[.U s,v]
def Fc(s:Int)(l:LI):LI:=le (J l) 2++le s 8++l
def BS(s:Int)(l:LI):LI:=sm (Fc s l)
def Ch:LI:=[76,72,83,49]
def XG:J Ch=4:=rfl
def Fa(s:Int)(l:LI):LI:=Ch++le s 8++le (J l) 4++l
def qJ(s:Int)(l:LI):LI:=sm (Fa s l)
def aj6(s:Int)(l:LI):J (Fc s l)=J l+10:=by simp[Fc,vL];omega
def aP1(s:Int)(l:LI):J (BS s l)=J l+14:=by rw[BS,ai3,aj6]
def ai1(s:Int)(l:LI):J (Fa s l)=J l+16:=by simp[Fa,vL,XG];omega
def bO1(s:Int)(l:LI):J (qJ s l)=J l+20:=by rw[qJ,ai3,ai1]
def aP0(h:aC l):aC (Fc s l):=((XI _ _).append (XI _ _)).append h
def bS4(h:aC l):aC (BS s l):=bO8 (aP0 h)
def aM6(h:aC l):aC (Fa s l):=by
 refine aC.append (aC.append (aC.append ?_ (XI _ _)) (XI _ _)) h;intro z i;simp[Ch]at i;omega
def bO2(h:aC l):aC (qJ s l):=bO8 (aM6 h)
def dN0(j:1000<n):dQ dG 196 #[xI s (.S p n c)] w (Rb aq w):=by
 have i:=qV 1000 n;go_in;go_wp2;go_ret;exact⟨rfl,aD.alloc aA _⟩
theorem cg5(o:Le l n)(h:Rd w (.S p n c) l)(hb:aC l)(hl:n<=1000)(s0:0<=s)(s1:s<2^64):dQ dG 196 #[xI s (.S p n c)] w λe w'=>∃E c',e=dR (.S E (n+14) c')/\Own (U w.heap) w' (.S E (n+14) c') (BS s l)/\Bw w w':=by
 have rD:¬(1000:Int)<(n:Int):=af;go_in;go_wp2_with fail;let⟨W,m⟩:=aG (w.alloc (dO #[.U s,.S p n c] 90));have bW:=gF m;have k0:I W (Aw w 0)=dU s:=by rw[m];simp
 have k1:I W (Aw w 1)=dS p n c:=by rw[m];simp
 rw[<-m];refine(XA (n:=2) (v:=n) af af af).h ?_;rintro e j⟨p1,c1,rfl,o1,B⟩;have y:=ai bW B;have N:=al k0 B;have M:=al k1 B;have r0:=h.H y;have r1:=o1.rd;have yj:=ae o;have HB:=ag hb;go_wp2_with fail
 go_region_held3 (λw'=>I w' (Aw w 0)=dU s/\I w' (Aw w 1)=dS p n c) (first|with_reducible exact⟨N,M⟩|with_reducible exact⟨V,R⟩|with_reducible exact⟨Z,X⟩|with_reducible exact⟨f0,f1⟩|go_keep)
  (first
   |(go_at_call 233;refine(XA (n:=8) (v:=s) af s0 s1).h ?_;rintro e u⟨p2,c2,rfl,o2,ay⟩;have i:Below (U j.heap) j u:=(by first|exact ay|exact ai (aR (U j.heap) j).drew ay);have V:=al N i;have R:=al M i)
   |(go_at_call 126;refine(DQ (g:=U u.heap) (vs:=[.slice p1 2 c1,.slice p2 8 c2,.slice p n c]) [le n 2,le s 8,l] (lm:=Fc s l) (n:=n+10) 3 rfl (by show _=_;rw[eG3,Fc,ae o]) (by show _=_;rw[aj6,ae o]) (du5 aj aj aj ((r1.H i).H (aD.alloc aA _)) (o2.rd.H (aD.alloc aA _)) ((r0.H i).H (aD.alloc aA _))) af af).h ?_;rintro e w3⟨p3,c3,rfl,o3,aI⟩;have r:=ai (aD.alloc (eG (U u.heap)) _) aI;have Z:=al V r;have X:=al R r)
   |(go_at_call 234;refine(bJ0 (p:=p3) (c:=c3) (n:=n+10) (l:=Fc s l) (by show _=_;rw[aj6,ae o]) (by exact o3.rd) (aP0 HB) af).h ?_;rintro e w4⟨D,c4,rfl,o4,x⟩;have f0:=al Z x;have f1:=al X x))
 have b4:=ai (ai (ai y i) r) x;have o5:Own (U w.heap) w4 (.S D (n+14) c4) (BS s l):=Own.h o4 (aK (ai (ai y i) r).size);go_wp2;go_ret;exact⟨D,c4,rfl,o5,b4⟩
def bN3(q:Le l n)(h:Rd w (.S p n c) l)(hb:aC l)(hl:n<=1000)(s0:0<=s)(s1:s<2^64):dQ dG 54 #[xI s (.S p n c)] w λe w'=>∃p' c',e=dR (.S p' (n+14) c')/\Own (U w.heap) w' (.S p' (n+14) c') (BS s l)/\Bw w w':=by
 have rD:¬(1000:Int)<(n:Int):=af;go_in;go_wp2_with fail;let⟨W,i⟩:=aG (w.alloc (dO #[.U s,.S p n c] 90));have bW:=gF i;have k0:I W (Aw w 0)=dU s:=by rw[i];simp
 have k1:I W (Aw w 1)=dS p n c:=by rw[i];simp
 have E:U w.heap<U W.heap:=by rw[i];simp
 rw[<-i];clear i;refine(XD 2 n _ af af af).h ?_;rintro e w1⟨p1,c1,rfl,o1,r⟩;have b1:=ai bW r;have j0:=al k0 r;have j1:=al k1 r;have r0:=h.H b1;have yj:=ae q;have HB:=ag hb;have HH:=ag h;have z1:=r.size;go_wp2_with fail;refine(XD 8 s _ af s0 s1).h ?_;rintro e w2⟨p2,c2,rfl,o2,j⟩;have b2:=ai b1 j;have i0:=al j0 j;have i1:=al j1 j;have r2:=r0.H j;have D:=Own.H o1 j;have u:=o2.rd;have z2:=j.size;have el:J (le (↑n) 2++le s 8)=10:=by simp[vL]
 go_wp2_with(at_builtin;refine BJ rfl rfl (B:=U W.heap) (.S p1 2 c1) (l:=le n 2) (m:=le s 8) (lm:=le n 2++le s 8) cM p2 c2 8 (by show _=_;exact vL _ _) rfl rfl D u (by rw[vL,vL];omega) af ?_);intro p3 c3 w3 R N;have Z:=Am b2 N D af af;have y:=(aR (U W.heap) w2).grown N af (λk e=>(D.lt k e).1);have f0:=(y.cell (p:=(Aw w 0)) E).Z i0;have f1:=(y.cell (p:=(Aw w 1)) E).Z i1;have r3:Rd w3 (.S p n c) l:=HH.H Z;have z3:=y.size;have Zx:J (Fc s l)=n+10:=by rw[aj6,ae q]
 go_wp2_with(at_builtin;refine BJ rfl rfl (B:=U W.heap) (.S p3 10 c3) (l:=le n 2++le s 8) (m:=l) (lm:=Fc s l) (by show _=_;rw[Fc,ae q]) p c n q rfl rfl R r3 (by rw[el];omega) af ?_);intro p4 c4 w4 o4 V;have b4:=Am Z V R af af;have z4:=V.size;go_wp2_with fail;refine(bL6 (p:=p4) (c:=c4) (n:=n+10) (l:=Fc s l) (by show _=_;exact Zx) o4.rd (aP0 HB) af).h ?_;rintro e w5⟨M,X,rfl,o5,cY⟩;have b5:=ai b4 cY;have o6:Own (U w.heap) w5 (.S M (n+14) X) (BS s l):=Own.h o5 af;go_wp2;go_ret;exact⟨M,X,rfl,o6,b5⟩
def cv5(o:1<=k)(j:k<=13){g:Int}{m:Nat}(i:O (qR k s f n m e g=B)):dQ dG 99 #[lM k s (.S p n c) f (.S q m d) e g] w (Rb (.bool B) w):=
 ej9 af af (p:=p) (q:=q) (c:=c) (d:=d) (w:=w) i
def cf0(j:1<=k)(i:k<=13):dQ dG 53 #[.I k] w λr w'=>r=dR (.bool (Up k))/\w'=w:=by
 have h:=dI3 (k:=k) af (w:=w);obtain rfl|rfl|rfl|rfl|rfl|rfl|rfl|rfl|rfl|rfl|rfl|rfl|rfl:=kinds j i<;>exact h
def sS(P:Program)(m:Region.Mode)(j:iQ)(Q:iE)(S:iP)(x:Nat):Nat->Array Bool->Act->G->Prop
 |0,l,a,w=>Region.ready m j l=[]/\Q .normal a w
 |n+1,l,a,w=>(Region.ready m j l=[]->Q .normal a w)/\∀i∈Region.ready m j l,wpOp P j Q i (λq o=>(i=x\/S o)/\sS P m j Q S x n (l.setIfInBounds i dY) q o) a w
section
variable {P:Program}{md:Region.Mode}{ops:iQ}{Q:Exit->Act->World->Prop}{S:World->Prop}{x:Nat}
theorem aH8:∀(n:Nat)(l:Array Bool)(a:Act)(w:G),sS P md ops Q S x n l a w->wpAny P md ops Q n l a w
 |0,_,_,_,h=>h
 |n+1,_,_,_,h=>⟨h.1,λi m=>wpOp_mono (λo j k=>aH8 n _ o j k.2) (h.2 i m)⟩
variable {v:dV}{i:Nat}{oi:Oper}
theorem cX3(W:ops[i]?=oi)(hs:∀(j:Nat)(o:Oper)cs b,ops[j]?=Y o->o.op≠.select cs b)(hQ:∀c a w,Q (.panic c) (a.put oi.dst v) w->Q (.panic c) a w)(hx:∀o,ops[x]?=Y o->∃e∈o.after,Region.binds md e/\e.on=i):∀(n:Nat)(l:Array Bool)(a:Act)(w:G),(∀j q,ops[j]?=Y q->j≠i->l.getD j dY=dF->(∀e∈q.after,Region.binds md e->e.on≠i)->oi.apart ops q)->i∈Region.ready md ops l->YieldsIf P ops S oi v a->S w->sS P md ops Q S x n (l.setIfInBounds i dY) (a.put oi.dst v) w->sS P md ops Q S x (n+1) l a w:=by
 intro n
 induction n with
 |zero=>
  intro l a w _ s E B H;refine⟨λe=>(by rw[e]at s;cases s),λj M=>?_⟩;by_cases e:j=i;{rw[e];exact E.wpOp W B ⟨.R B,H⟩};{have k:=ready_mono M e;rw[H.1]at k;cases k}
 |succ n ih=>
  intro l a w hf s E B H;refine⟨λe=>(by rw[e]at s;cases s),λj M=>?_⟩;by_cases e:j=i;{rw[e];exact E.wpOp W B ⟨.R B,H⟩};{
 let⟨D,q,m,Qz⟩:=mem_ready.1 M;have ij:∀z∈q.after,Region.binds md z->z.on≠i:=λz N X r=>by have u:=Qz z N X;have k0:=(mem_ready.1 s).1;rw[r]at u;by_cases hl:i<l.size;{simp[hl]at k0 u;rw[k0]at u;cases u};{simp[dD6 (Nat.le_of_not_lt hl)]at u}
 have V:j≠x:=λex=>by subst ex;let⟨z,N,X,r⟩:=hx q m;exact ij z N X r
 refine wpOp_mono (λa' Z k=>?_) (wpOp_putIf m (hf j q m e D ij) (λcs b=>hs i oi cs b W) (λcs b=>hs j q cs b m) hQ E (H.2 j (ready_mono M e)));have Aa:S Z:=k.2.1.resolve_left V;refine⟨.R Aa,ih (l.setIfInBounds j dY) a' Z (λk' ok hk R DS hn=>hf k' ok hk R ?_ hn) (ready_mono s (Fw e)) k.1 Aa ?_⟩;{by_cases y:j=k';{rw[<-y];exact D};{rw[getD_set_ne dY y]at DS;exact DS}};{rw[Array.setIfInBounds_comm _ _ e];exact k.2.2}}
variable {w:G}{l:Array Bool}{a:Act}
theorem aH7{n:Nat}(h:Q .normal a w)(hr:Region.ready md ops l=[]:=by kernel_rfl):sS P md ops Q S x n l a w:=by
 cases n with
 |zero=>exact⟨hr,h⟩
 |succ n=>exact⟨λ_=>h,by rw[hr];simp⟩
variable {n:Nat}{o:Oper}
def BK(i:Nat) (h:∀K':Act->G->Prop,Shut (∀a w,(i=x\/S w)->((i=x\/S w)->sS P md ops Q S x n (l.setIfInBounds i dY) a w)->K' a w)->if Region.wanted o (yielded ops a.tmps)then Oper.wp P o a w K' Q else K' (a.put o.dst undef) w)(hi:ops[i]?=o:=by(simp only[sV,uA,uz];rfl))(hr:Region.ready md ops l=[i]:=by kernel_rfl):sS P md ops Q S x (n+1) l a w:=by
 refine⟨λe=>?_,λj hj=>?_⟩;{rw[hr]at e;cases e};{rw[hr]at hj;obtain rfl:=pY.1 hj;exact wpOp_step hi (λK' hK=>h K' (λa w hS hW=>hK a w ⟨hS,hW hS⟩))}
def TE(P:Program)(m:Region.Mode)(j:iQ)(Q:iE)(S:iP)(x:Nat)(l:Array Bool)(i:Nat)(a o:Act):Prop:=∀n w,S w->sS P m j Q S x n (l.setIfInBounds i dY) o w->sS P m j Q S x (n+1) l a w
def Wo{v:dV}{l:Array Bool}{a a':Act}(hi:ops[i]?=oi:=by(simp only[sV,uA,uz];rfl))(hs:Region.noSelect ops:=by kernel_rfl)(hf:Region.free md ops l i:=by kernel_rfl)(hr:(Region.ready md ops l).contains i:=by kernel_rfl)(hx:((ops[x]?.map λo=>o.after.toList.any λe=>Region.binds md e&&e.on==i).getD dF)=dY:=by kernel_rfl)(hQ:∀c a w,Q (.panic c) (a.put oi.dst v) w->Q (.panic c) a w:=by exactλ_ _ _ h=>h)(hg:Region.wanted oi (yielded ops a.tmps):=by rfl)(hy:∀w,S w->(execOp a.eval oi).run P w=.ok (.value v) w:=by(intro w' mw;(try dsimp only at mw);go_simp;try with_reducible rfl))(ha:a.put oi.dst v=a':=by(simp only[Act.put,xa,xb,xc];rfl)):TE P md ops Q S x l i a a':=
 λn w hS h=>cX3 hi (Region.noSelect_spec hs) hQ (λo ho=>by rw[ho]at hx;simp only[Hx,rJ,Ui,gL,Fo]at hx;obtain⟨e,he,h1,h2⟩:=hx;exact⟨e,by simpa using he,h1,h2⟩) n l a w (Region.free_spec hi hf) (by simpa using hr) (Or.L ⟨hg,hy⟩) hS (ha▸h)
def tEo(i:Nat){v:dV}{a a':Act}(hS:S w)(h:sS P md ops Q S x n (l.setIfInBounds i dY) a' w)(hi:ops[i]?=oi:=by(simp only[sV,uA,uz];rfl))(hr:Region.ready md ops l=[i]:=by kernel_rfl)(hg:Region.wanted oi (yielded ops a.tmps):=by rfl)(hy:∀w,S w->(execOp a.eval oi).run P w=.ok (.value v) w:=by(intro w' mw;(try dsimp only at mw);go_simp;try with_reducible rfl))(ha:a.put oi.dst v=a':=by(simp only[Act.put,xa,xb,xc];rfl)):sS P md ops Q S x (n+1) l a w:=by
 refine⟨λe=>(by rw[hr]at e;cases e),λj hj=>?_⟩;rw[hr]at hj;obtain rfl:=pY.1 hj;have hY:YieldsIf P ops S oi v a:=Or.L ⟨hg,hy⟩;exact hY.wpOp hi hS ⟨.R hS,ha▸h⟩
variable {a':Act}
def tEn(i:Nat)(hS:S w)(h:sS P md ops Q S x n (l.setIfInBounds i dY) a' w)(t:TE P md ops Q S x l i a a':=by exact Wo):sS P md ops Q S x (n+1) l a w:=t _ _ hS h
def tED(i0 i1 i2 i3:Nat){a0 a1 a2 a3 a4:Act}(hS:S w)(h:sS P md ops Q S x n ((((l.setIfInBounds i0 dY).setIfInBounds i1 dY).setIfInBounds i2 dY).setIfInBounds i3 dY) a4 w)(x0:TE P md ops Q S x l i0 a0 a1:=by exact Wo)(x1:TE P md ops Q S x (l.setIfInBounds i0 dY) i1 a1 a2:=by exact Wo)(x2:TE P md ops Q S x ((l.setIfInBounds i0 dY).setIfInBounds i1 dY) i2 a2 a3:=by exact Wo)(x3:TE P md ops Q S x (((l.setIfInBounds i0 dY).setIfInBounds i1 dY).setIfInBounds i2 dY) i3 a3 a4:=by exact Wo):sS P md ops Q S x (n+4) l a0 w:=x0 _ _ hS (x1 _ _ hS (x2 _ _ hS (x3 _ _ hS h)))
variable {K:Act->G->Prop}
def Hr(hK:Shut (∀a w,(i=x\/S w)->((i=x\/S w)->sS P md ops Q S x n l a w)->K a w))(hS:S w)(h:S w->sS P md ops Q S x n l a' w)(ha:a=a':=by((try simp only[Act.put,xa,xb,xc]);rfl)):K a w:=hK.out _ _ (.R hS) λ_=>ha▸h hS
def oGX(hK:Shut (∀a w,(x=x\/S w)->((x=x\/S w)->sS P md ops Q S x n l a w)->K a w))(h:sS P md ops Q S x n l a w):K a w:=hK.out _ _ (.L rfl) λ_=>h
def bI3(x:Nat){id:Nat}(hS:S w.drew)(h:S w.drew->sS P .any ops Q S x ops.size (Array.replicate ops.size dF) a w.drew)(hm:P.follows .mixedOrders:=by kernel_rfl):(Code.region id ops dY).wp P Q a w:=
 wp_region_any hm (aH8 _ _ _ _ (h hS))
end
def oB:Option LI->Int×Option LI
 |some (c::t)=>(c,Y t)
 |_=>(0,dN)
def oV:Option LI->Int×Option LI
 |some m=>(match rv m with|some x=>(x.1,Y x.2)|none=>(0,dN))
 |none=>(0,dN)
def oT:Option LI->LI×Option LI
 |some m=>(match rt m with|some x=>(x.1,Y x.2)|none=>([],dN))
 |none=>([],dN)
def jB(n:Nat):Option LI->Int
 |some m=>(n:Int)-(J m)
 |none=>-1
def gU(n:Nat)(l:LI)(om:Option LI):Prop:=∀m,om=Y m->J m<=n/\m=l.drop (n-(J m))
def gU.start(h:J l=n):gU n l l:=λm e=>by
 simp at e;subst e;exact⟨af,by rw[h,xL];rfl⟩
def gU.none:gU n l dN:=λm e=>by cases e
def gU.aR1(i:J l=n)(h:gU n l m)(o:J t<=J m)(e:t=m.drop (J m-(J t))):gU n l t:=λx ex=>by
 simp at ex;subst ex;let⟨q,j⟩:=h m rfl;refine⟨af,?_⟩
 conv=>lhs;rw[e,j,Fs,tX,i]
 congr 1;omega
theorem al0(i:J l=n)(h:gU n l om):gU n l (oB om).2:=by
 match om,h with
 |none,_=>exact gU.none
 |some [],_=>exact gU.none
 |some (c::t),h=>exact gU.aR1 i h aj aj
theorem uw(i:J l=n)(h:gU n l om):gU n l (oV om).2:=by
 match om,h with
 |none,_=>exact gU.none
 | some m,h=>
  show gU n l (match rv m with|some x=>(x.1,Y x.2)|none=>(0,dN):Int×Option LI).2;cases e:rv m with
  |none=>exact gU.none
  |some x=>
   obtain⟨v,t⟩:=x;let⟨_,_,o,j⟩:=ai9 10 0 0 m v t e;exact gU.aR1 (t:=t) i h (an2 o) j
theorem bR3{x:LI×LI}(h:rt m=x):J x.2<=J m/\x.2=m.drop (J m-(J x.2))/\∃a b,x.1=(m.drop a).take b:=by
 unfold rt at h;cases e:rv m with
 |none=>rw[e]at h;simp at h
 |some y=>
  obtain⟨v,t⟩:=y;rw[e]at h;simp only at h;let⟨j,_,o,i⟩:=ai9 10 0 0 m v t e;split at h;{cases h};{
 next hv=>
 simp at h;subst h;simp only[tX];refine⟨af,?_,J m-(J t),v.toNat,by rw[<-i]⟩
 conv=>lhs;rw[i,Fs]
 congr 1;omega}
theorem ak9(i:J l=n)(h:gU n l om):gU n l (oT om).2:=by
 match om,h with
 |none,_=>exact gU.none
 | some m,h=>
  show gU n l (match rt m with|some x=>(x.1,Y x.2)|none=>([],dN):LI×Option LI).2;cases e:rt m with
  |none=>exact gU.none
  |some x=>
   let⟨o,j,_⟩:=bR3 e;exact gU.aR1 i h o j
theorem TI(o:aC l)(h:gU n l om):aC (oT om).1/\(oT om).1.length<=n:=by
 match om,h with
 |none,_=>exact⟨λz i=>by simp[oT]at i,by simp[oT]⟩
 | some m,h=>
  let⟨r,q⟩:=h m rfl;have hm:aC m:=by rw[q];exactλz i=>o z (Pr i)
  show aC (match rt m with|some x=>(x.1,Y x.2)|none=>([],dN):LI×Option LI).1/\(match rt m with|some x=>(x.1,Y x.2)|none=>([],dN):LI×Option LI).1.length<=n;cases e:rt m with
  |none=>exact⟨λz i=>by simp at i,aj⟩
  |some x=>
   let⟨_,_,a,b,j⟩:=bR3 e;refine⟨?_,?_⟩;{show aC x.1;rw[j];exactλz i=>hm z (Pr (Pq i))};{show J x.1<=n;rw[j,rM,tX];omega}
theorem dy4(i:aC l)(h:gU n l om):0<=(oB om).1/\(oB om).1<256:=by
 match om,h with
 |none,_=>simp[oB]
 |some [],_=>simp[oB]
 |some (c::t),h=>
  let⟨m,j⟩:=h _ rfl;exact i c (Pr (by rw[<-j];simp))
theorem bW6:0<=(oV om).1/\(oV om).1<2^64:=by
 cases om with
 |none=>simp[oV]
 | some m=>
  show 0<=(match rv m with|some x=>(x.1,Y x.2)|none=>(0,dN):Int×Option LI).1/\(match rv m with|some x=>(x.1,Y x.2)|none=>(0,dN):Int×Option LI).1<_;cases e:rv m with
  |none=>simp
  |some x=>
   obtain⟨v,t⟩:=x;let⟨j,i,_⟩:=ai9 10 0 0 m v t e;exact⟨j,i⟩
def aO5{P:LI}(rest:LI)(h:J P<2^64):rt (tx P++rest)=Y (P,rest):=by
 rw[rt,tx,uD,ai8 _ h];simp only[dm];rw[aL af];simp
theorem aP3(s:Le l n)(h:Rd w (.S p n c) l)(q:aC l)(o:Mg n)(i:gU n l om)(e:O (oB om=(x,rh))):Cp 157 #[.S p n c,.I (jB n om)] w λe w'=>e=dR (dT #[.I x,.I (jB n rh)])/\w'=w:=by
 have e:=ae e
 match om,i with
 |none,_=>
  simp[oB]at e;obtain⟨rfl,rfl⟩:=e;exact dr1
 |some [],i=>
  simp[oB]at e;obtain⟨rfl,rfl⟩:=e;have m:jB n (Y [])=(n:Int):=by simp[jB]
  rw[m];exact dr2 o
 |some (y::t),i=>
  simp[oB]at e;obtain⟨rfl,rfl⟩:=e;let⟨r,j⟩:=i _ rfl;simp only[kJ]at r j;let⟨a,m⟩:=aY (n-(J t+1));rw[m]at j;have D:jB n (Y (y::t))=(a:Int):=by simp[jB];omega
  have B:jB n t=((a+1:Nat):Int):=by simp[jB];omega
  have u:l.getD a 0=y:=by have:=vJ (λz=>z.getD 0 0) j;simp[List.getD]at this;simp[List.getD,<-this]
  have:=dr3 (a:=a) s h q o af;rw[u]at this;rw[D,B];exact this
theorem bS6(s:Le l n)(h:Rd w (.S p n c) l)(q:aC l)(o:Mg n)(i:gU n l om)(e:O (oV om=(x,rh))):Cp 155 #[.S p n c,.I (jB n om)] w λe w'=>e=dR (dT #[.U x,.I (jB n rh)])/\w'=w:=by
 have e:=ae e
 match om,i with
 |none,_=>
  simp[oV]at e;obtain⟨rfl,rfl⟩:=e;exact bS7
 |some m,i=>
  let⟨D,j⟩:=i _ rfl;let⟨a,u⟩:=aY (n-(J m));rw[u]at j;have B:jB n m=(a:Int):=by simp[jB];omega
  have:=bS8 (a:=a) s h q o af (r:=rv m) (by show _=_;rw[<-j]);rw[B];refine this.h ?_;rintro r w'⟨rfl,rfl⟩;refine⟨?_,rfl⟩;unfold oV at e;dsimp only at e;cases er:rv m with
  |none=>rw[er]at e;simp at e;obtain⟨rfl,rfl⟩:=e;rfl
  |some y=>rw[er]at e;simp at e;obtain⟨rfl,rfl⟩:=e;rfl
theorem aP2(M:Le l n)(h:Rd w (.S p n c) l)(E:aC l)(D:Mg n)(B:n<=c)(i:gU n l om){x:LI}(e:O (oT om=(x,rh)))(s:Le x N):Cp 156 #[.S p n c,.I (jB n om)] w λe w'=>∃o u,e=dR (dT #[.S o N u,.I (jB n rh)])/\Own (U w.heap) w' (.S o N u) x/\Bw w w':=by
 have e:=ae e
 match om,i with
 |none,_=>
  simp[oT]at e;obtain⟨rfl,rfl⟩:=e;obtain rfl:N=0:=by rw[<-ae s];rfl
  refine(dq9).h ?_;rintro r w'⟨rfl,rfl⟩;exact⟨dN,0,rfl,lZ _ _ _ _,aR _ _⟩
 | some m,i=>
  let⟨W,q⟩:=i _ rfl;let⟨a,R⟩:=aY (n-(J m));rw[R]at q;have V:jB n m=(a:Int):=by simp[jB];omega
  have j:Tj (rt m)=x/\bOf n (rt m)=jB n rh:=by
   unfold oT at e;dsimp only at e;cases er:rt m with
   |none=>rw[er]at e;simp at e;obtain⟨rfl,rfl⟩:=e;exact⟨rfl,rfl⟩
   |some y=>rw[er]at e;simp at e;obtain⟨rfl,rfl⟩:=e;exact⟨rfl,rfl⟩
  have:=dr0 (a:=a) M h E D B af (r:=rt m) (by show _=_;rw[<-q]) (N:=N) (by show _=_;rw[j.1];exact ae s);rw[V];rw[j.1,j.2]at this;exact this
abbrev blk(g:Nat):dV:=.T g 0 0
def vV(R:Nat)(w:G)(p:OA)(m:LI):Prop:=m=[]\/∃b o,b<R/\p=(Ad b o)/\∀i,i<J m->I w (Ad b (o+i))=Y (.int .u8 (m.getD i 0))
def vV.rd(h:vV R w p m)(e:J m=n):Rd w (.S p n c) m:=by
 refine⟨p,c,by rw[e],?_⟩;obtain h|⟨b,o,_,j,i⟩:=h;{exact .L h};{exact .R ⟨b,o,j,i⟩}
def vV.set(h:vV R w p m)(o:Nat)(v:dV):vV R (w.setCell (Ad R o) v) p m:=by
 obtain h|⟨b,j,u,s,r⟩:=h;{exact .L h};{refine .R ⟨b,j,u,s,λi q=>?_⟩;rw[Pm _ _ _ _ (by simp;try omega)];exact r i q}
def vV.tail(h:vV R w (Ad b o) (x::m)):vV R w (Ad b (o+1)) m:=by
 obtain h|⟨y,s,r,j,q⟩:=h;{cases h};{simp at j;obtain⟨rfl,rfl⟩:=j;refine .R ⟨b,o+1,r,rfl,λi u=>?_⟩;have:=q (i+1) bq;rw[show o+1+i=o+(i+1) by omega,this];simp}
def km(w:G)(R:Nat)(m:LI)(n:Nat)(sh:Bool):Prop:=
 J m=n/\(∀o,w.frozen? (Ad R o)=dF)/\∃p c,Au w R (.S p n c) (.bool sh)/\vV R w p m/\n<=c/\((p=dN/\c=0)\/∃b o,p=(Ad b o))
def PF:Kept [blk R] w (w.setCell (Ad R o) v):=by
 refine⟨rfl,rfl,rfl,aj,λk j i=>?_⟩;have:k≠R:=λe=>i (blk R) aj (by rw[e];rfl);simp[World.setCell,AK];intro e;exact absurd e.C this
def dj4(h:km w R (x::m) (n+1) sh)(hx:0<=x/\x<256)(hl:Mg n):dQ dG 250 #[Pz R] w λe w'=>e=dR (.I x)/\km w' R m n sh/\Kept [blk R] w w':=by
 obtain⟨i,hf,p,c,⟨u,r⟩,j,hc,s⟩:=h;have y:J m=n:=by simpa using i
 obtain⟨b,o,rfl⟩:∃b o,p=(Ad b o):=by obtain h|h:=s;{omega};{exact h}
 have D:b<R:=by obtain h|⟨S,B,r,q,_⟩:=j;{cases h};{simp at q;omega}
 have X:I w (Ad b o)=Y (.int .u8 x):=by obtain h|⟨S,B,r,q,E⟩:=j;{cases h};{simp at q;obtain⟨rfl,rfl⟩:=q;simpa using E 0 aj}
 have g1:((n:Int)+1==0)=dF:=by simp;omega
 have W:IntKind.i64.wrap x=x:=kP _ af;have k1:(1:Int)<=(n:Int)+1:=af;have k2:(n:Int)+1<=(c:Int):=af;have Z:=gm 1 c;have V:=ag j;clear j s i;by_cases M:c=1;{subst M;obtain rfl:n=0:=af;obtain rfl:m=[]:=sX.1 y;go_in;go_wp2;go_ret;refine⟨rfl,⟨rfl,λo=>by simp[hf],Y (Ad b o),0,⟨by simp[go_sem,u],by simp[go_sem,r]⟩,.L rfl,af,.R ⟨b,o,rfl⟩⟩,PF⟩};{have N:¬(c:Int)=1:=af;go_in;go_wp2;go_ret;exact⟨rfl,⟨y,λo=>by simp[hf],Y (Ad b (o+1)),c-1,⟨by simp[go_sem,u],by simp[go_sem,r]⟩,V.tail.set _ _,af,.R ⟨b,o+1,rfl⟩⟩,PF⟩}
def dj5(h:km w R [] 0 sh):dQ dG 250 #[Pz R] w λe w'=>e=dR (.I 0)/\km w' R [] 0 dY/\Kept [blk R] w w':=by
 obtain⟨i,hf,p,c,⟨q,m⟩,r,hc,j⟩:=h;go_in;go_wp2;go_ret;exact⟨rfl,⟨rfl,λo=>by simp[hf],p,c,⟨by simp[go_sem,q],by simp[go_sem,m]⟩,.L rfl,hc,j⟩,PF⟩
def sB:LI->Bool->Int×LI×Bool
 |[],_=>(0,[],dY)
 |c::t,sh=>(c,t,sh)
theorem aM9(h:km w R m n sh)(i:aC m)(j:Mg n)(e:O (sB m sh=(x,m',sh'))):Cp 250 #[Pz R] w λe w'=>e=dR (.I x)/\km w' R m' (J m') sh'/\Kept [blk R] w w':=by
 have e:=ae e;cases m with
 |nil=>
  simp[sB]at e;obtain⟨rfl,rfl,rfl⟩:=e;obtain rfl:n=0:=h.1.C;exact dj5 h
 |cons c t=>
  simp[sB]at e;obtain⟨rfl,rfl,rfl⟩:=e;obtain rfl:n=J t+1:=by have:=h.1;simpa using this.C
  exact dj4 h (i c aj) af
def sN:Nat->Nat->Int->LI->Bool->Int×LI×Bool
 |0,_,a,m,sh=>(a,m,sh)
 |f+1,k,a,m,sh=>if(sB m sh).1<128 then(vU k a (sB m sh).1,(sB m sh).2)else sN f (k+1) (vU k a (sB m sh).1) (sB m sh).2.1 (sB m sh).2.2
theorem Tr(h:aC m):aC (sB m sh).2.1/\0<=(sB m sh).1/\(sB m sh).1<256/\(sB m sh).2.1.length<=J m:=by
 cases m with
 |nil=>exact⟨λz i=>by simp[sB]at i,by simp[sB],by simp[sB],by simp[sB]⟩
 |cons c t=>exact⟨λz i=>h z (by simp[sB]at i;simp[i]),(h c aj).1,(h c aj).2,by simp[sB]⟩
def Fk(h:km w R m n sh)(hb:aC m)(hl:Mg n)(e:O (sN 10 0 0 m sh=(x,m',sh'))):dQ dG 220 #[Pz R] w λe w'=>e=dR (.U x)/\km w' R m' (J m') sh'/\Kept [blk R] w w':=by
 go_in;go_wp2_with fail
 go_loopw[3,6](λnv E wr=>∃(v:Int)(k:Nat)(j:LI)(s:Bool)(q:Nat),nv=.U v/\k<=10/\E=.I k/\O (sN (10-k) k v j s=(x,m',sh'))/\O (aC j)/\q<=n/\O (km wr R j q s)/\Kept [blk R] w wr) (λ_ E _=>10-(intOf E).toNat)
 exact⟨0,0,m,sh,n,rfl,af,rfl,e,hb,eG _,h,Kept.refl _ _⟩;{
 obtain⟨v,k,j,s,q,rfl,hk,rfl,D,X,nF,B,hK⟩:=hrel;by_cases Ec:k<10;{
 have S:(k:Int)<10:=af;have i:=ae D;rw[show 10-k=(9-k)+1 by omega,sN]at i;have cQ:=Tr (sh:=s) X;obtain⟨⟨c,u,o⟩,N⟩:∃y,sB j s=y:=⟨_,rfl⟩;rw[N]at i cQ;obtain⟨M,ki,fM,V⟩:=cQ;dsimp only at i M ki fM V;have sC:J j=q:=B.1;have vS:J u<=n:=af;have w7:IntKind.i64.wrap (7*(k:Int))=7*(k:Int):=kP _ af;have w70:¬7*(k:Int)<0:=af;have lh:=ag M;clear D M sC V;go_wp2_with fail;refine(aM9 B X af N).h ?_;rintro r w2⟨rfl,Kt,W⟩;have Dn:=ag Kt;have Ey:=ag (hK.Z W);clear Kt W N;by_cases hc:c<128;{rw[aM hc]at i;simp only[jy]at i;obtain⟨Z,rfl,rfl⟩:=i;have E1:=ag Z;clear Z;go_wp2;go_ret;exact⟨by rw[<-ae E1];rfl,Dn,Ey⟩};{
 have gi:¬c<128:=hc;rw[aL hc]at i;have tv:O (sN (10-(k+1)) (k+1) (vU k v c) u o=(x,m',sh')):=by show _=_;rw[show 10-(k+1)=9-k by omega];exact i
 clear i;go_wp2;go_roundw;exact⟨vU k v c,k+1,u,o,J u,rfl,af,by go_num,tv,lh,vS,Dn,Ey⟩;exact cW}};{have S:¬(k:Int)<10:=af;have i:=ae D;rw[show 10-k=0 by omega,sN]at i;simp only[jy]at i;obtain⟨rfl,rfl,rfl⟩:=i;obtain rfl:J j=q:=B.1;clear D;go_wp2;go_ret;exact⟨rfl,B,hK⟩}}
def sT(m:LI)(sh:Bool):LI×LI×Bool:=
 if((sN 10 0 0 m sh).2.1.length:Int)<(sN 10 0 0 m sh).1 then([],(sN 10 0 0 m sh).2.1,dY)
 else((sN 10 0 0 m sh).2.1.take (sN 10 0 0 m sh).1.toNat,(sN 10 0 0 m sh).2.1.drop (sN 10 0 0 m sh).1.toNat,(sN 10 0 0 m sh).2.2)
theorem WE(f:Nat):∀(k:Nat)(a:Int)(m:LI)(sh:Bool),aC m->(0<=a/\a<2^64)->aC (sN f k a m sh).2.1/\(sN f k a m sh).2.1.length<=J m/\0<=(sN f k a m sh).1/\(sN f k a m sh).1<2^64:=by
 induction f with
 |zero=>intro k a m sh i j;exact⟨i,eG _,j.1,j.2⟩
 |succ f ih=>
  intro k a m sh i j;rw[sN];let⟨o,y,x,s⟩:=Tr (sh:=sh) i;split;{exact⟨o,s,aC6⟩};{let⟨r,u,q⟩:=ih (k+1) (vU k a (sB m sh).1) _ (sB m sh).2.2 o (aC6);exact⟨r,af,q⟩}
theorem dL3(D:Le l0 N)(u:Rd X v0 l0)(y:N<=4194304):Cp 126 #[.T (U X.heap) 1 1] (X.alloc (dO #[v0] 22)) λe w'=>∃i r,e=dR (.S i N r)/\Own (U X.heap) w' (.S i N r) l0/\Bw X w':=by
 have s:Bw X (X.alloc (dO #[v0] 22)):=aD.alloc aA _;refine(DQ (g:=U X.heap) (vs:=[v0]) [l0] (lm:=l0) (n:=N) 1 rfl (by show _=_;simp[cat]) D ⟨rfl,λj v x q m=>?_⟩ y af).h ?_;{
 match j,q,m with
 |0,q,m=>simp at q m;subst q m;exact⟨aj,u.H s⟩}
 {rintro e w'⟨i,r,rfl,o,B⟩;exact⟨i,r,rfl,Own.h o aj,ai s B⟩}
def vV.H(h:vV R w p m)(q:Bw w w'):vV R w' p m:=by
 obtain h|⟨b,j,u,s,r⟩:=h;{exact .L h};{exact .R ⟨b,j,u,s,λi o=>al (r i o) q⟩}
def vV.take(h:vV R w p m)(V:Nat):vV R w p (m.take V):=by
 obtain h|⟨b,j,s,r,q⟩:=h;{exact .L (by rw[h];simp)};{refine .R ⟨b,j,s,r,λi o=>?_⟩;rw[rM]at o;rw[q i af];simp[List.getD,Pp,show i<V by omega]}
def vV.drop(h:vV R w (Ad b o) m)(V:Nat):vV R w (Ad b (o+V)) (m.drop V):=by
 obtain h|⟨x,u,s,j,r⟩:=h;{exact .L (by rw[h];simp)};{simp at j;obtain⟨rfl,rfl⟩:=j;refine .R ⟨b,o+V,s,rfl,λi q=>?_⟩;rw[tX]at q;rw[wY,r (V+i) af];simp[List.getD]}
def aJ9(h:km w R m n sh)(hb:aC m)(hl:Mg n)(hRw:R<U w.heap){x:LI}(e:O (sT m sh=(x,m',sh')))(eN:Le x N):dQ dG 251 #[Pz R] w λr w'=>∃p' c',r=dR (.S p' N c')/\Own (U w.heap) w' (.S p' N c') x/\km w' R m' (J m') sh'/\Kept [blk R] w w':=by
 have cQ:=WE 10 0 0 m sh hb af;obtain⟨⟨v,m1,To⟩,eS⟩:∃y,sN 10 0 0 m sh=y:=⟨_,rfl⟩;have j:=ae e;rw[sT,eS]at j;rw[eS]at cQ;obtain⟨qe,xY,v0,X⟩:=cQ;dsimp only at j qe xY v0 X;rw[h.1]at xY;let⟨i,E⟩:=aY (J m1);rw[E]at j xY;have wn:IntKind.u64.wrap (i:Int)=(i:Int):=by rw[uG];omega
 go_in;go_wp2_with fail;refine(Fk h hb hl eS).h ?_;rintro r D⟨rfl,oQ,Z⟩;rw[E]at oQ;have sQ:=ag oQ;obtain⟨_,hf,p,c,⟨h0,h1⟩,hr,hc,hp⟩:=oQ;by_cases hv:(i:Int)<v;{
 rw[aM hv]at j;simp only[jy]at j;obtain⟨rfl,rfl,rfl⟩:=j;obtain rfl:N=0:=by rw[<-ae eN];rfl
 have Jm:=ag X;clear X;go_wp2;go_ret;refine⟨dN,0,rfl,lZ _ _ _ _,?_,Z.Z PF⟩;rw[E];exact⟨E,λo=>by simp[hf],p,c,⟨by simp[go_sem,h0],by simp[go_sem,h1]⟩,hr.set _ _,hc,hp⟩};{
 rw[aL hv]at j;obtain⟨V,rfl⟩:∃V:Nat,v=(V:Int):=⟨v.toNat,af⟩;have eV:((V:Int)).toNat=V:=af;rw[eV]at j;simp only[jy]at j;obtain⟨ex,em,es⟩:=j;have hVn:V<=i:=af;obtain rfl:N=V:=by rw[<-ae eN,<-ex,rM,E];omega
 have Ir:J m'=i-N:=by rw[<-em,tX,E]
 have qy:¬(i:Int)<(N:Int):=hv;have k2:=mF N c;have k3:=mF N i;have k4:=mF i c;have ed6:R<U D.heap:=jO D _ h0;have M:=du ex em Ir;have rx:Rd D (.S p N c) x:=by rw[<-ex];exact(hr.take N).rd (ex▸ae eN)
 have W:=ag rx;have Ln:=ag hr;have zK:=Z.size;have hNb:N<=4194304:=af;clear v0 X eV hb qe ex em rx hr h eS e;go_wp2_with fail;refine(dL3 eN W hNb).h ?_;rintro r w2⟨p2,c2,rfl,o2,s⟩;have i0:=al h0 s;have i1:=al h1 s;have q:=Cz hf ed6 s;have z2:=s.size;have Ey:=ag (Z.Z (Kept.tT s));have u:=ag o2;have iw:=ag (Ln.H s);clear h0 h1 hf s o2 Z Ln W;obtain⟨rfl,rfl⟩|⟨b,o,rfl⟩:=hp;{obtain rfl:i=0:=af;obtain rfl:N=0:=af;go_wp2;go_ret;refine⟨p2,c2,rfl,Own.h (B:=U D.heap) ?_ af,?_,Ey.Z PF⟩;{exact sy u bq _};{have xl:m'=[]:=sX.1 M.2.2;rw[xl,<-es];exact⟨rfl,λo=>by simp[q],dN,0,⟨by simp[go_sem,i0],by simp[go_sem,i1]⟩,.L rfl,aj,.L ⟨rfl,rfl⟩⟩}};{by_cases hcN:c=N;{subst hcN;obtain rfl:i=c:=af;go_wp2;go_ret;refine⟨p2,c2,rfl,Own.h (B:=U D.heap) ?_ af,?_,Ey.Z PF⟩;{exact sy u bq _};{have xl:m'=[]:=sX.1 (by rw[M.2.2];omega);rw[xl,<-es];exact⟨rfl,λo=>by simp[q],Y (Ad b o),0,⟨by simp[go_sem,i0],by simp[go_sem,i1]⟩,.L rfl,aj,.R ⟨b,o,rfl⟩⟩}};{have fu2:¬(c:Int)=(N:Int):=af;go_wp2;go_ret;refine⟨p2,c2,rfl,Own.h (B:=U D.heap) ?_ af,?_,Ey.Z PF⟩;{exact sy u bq _};{rw[<-es,M.2.2];refine⟨M.2.2,λo=>by simp[q],Y (Ad b (o+N)),c-N,⟨by simp[go_sem,i0],by simp[go_sem,i1]⟩,?_,af,.R ⟨b,o+N,rfl⟩⟩;have:=iw.drop N;rw[M.2.1]at this;exact this.set _ _}}}}
theorem dm1(f:Nat):∀(k:Nat)(a:Int)(m:LI)(v:Int)(t:LI)(sh:Bool),uv f k a m=Y (v,t)->sN f k a m sh=(v,t,sh):=by
 induction f with
 |zero=>intro k a m v t sh h;simp[uv]at h
 | succ f ih=>
  intro k a m v t sh h;cases m with
  |nil=>simp[uv]at h
  |cons c m=>
   rw[uv]at h;rw[sN];show(if c<128 then(vU k a c,m,sh)else sN f (k+1) (vU k a c) m sh)=_;split at h;{next hc=>rw[aM hc];simp at h;rw[h.1,h.2]}
   {next hc=>rw[aL hc];exact ih _ _ _ _ _ _ h}
def aO3{s:Nat}(i:s<2^64):sN 10 0 0 (vi s++rest) sh=((s:Int),rest,sh):=dm1 10 0 0 _ _ _ sh (ai8 rest i)
def ai5(P:LI)(h:J P<2^64):sT (tx P++rest) sh=(P,rest,sh):=by
 rw[sT,tx,uD,aO3 h];simp only[dm];rw[aL af];simp
theorem ai7(h:sh):(sB m sh).2.2:=by
 cases m with
 |nil=>rfl
 |cons c t=>exact h
theorem aO4(f:Nat):∀(k:Nat)(a:Int)(m:LI)(sh:Bool),sh->(sN f k a m sh).2.2:=by
 induction f with
 |zero=>intro k a m sh h;exact h
 |succ f ih=>
  intro k a m sh h;rw[sN];split;{exact ai7 h};{exact ih _ _ _ _ (ai7 h)}
def ai6(h:sh):(sT m sh).2.2:=by
 rw[sT];split;{rfl};{exact aO4 _ _ _ _ _ h}
def Tq(h:aC m):aC (sT m sh).1/\aC (sT m sh).2.1/\(sT m sh).1.length<=J m/\(sT m sh).2.1.length<=J m:=by
 let⟨j,o,r,q⟩:=WE 10 0 0 m sh h af;rw[sT];split;{exact⟨λz i=>by simp at i,j,aj,o⟩};{refine⟨λz i=>j z (Pq i),λz i=>j z (Pr i),?_,?_⟩;{rw[rM];omega};{rw[tX];omega}}
def Zq(h:∀o,w.frozen? (Ad b o)=dF)(j:Kept [blk R] w w')(m:b<U w.heap)(q:b≠R):∀o,w'.frozen? (Ad b o)=dF:=λo=>
 (AO (j.block b m (λx i e=>by simp only[pY]at i;subst i;simp[Value.ownBlock]at e;exact q e.C))).Z (h o)
variable {B:Nat}
def Own.jD(h:Own B w v l)(j:Kept [blk R] w w')(q:R<B):Own B w' v l:=by
 refine Own.Kc (vs:=[blk R]) h j ?_;intro x i k o m;simp only[pY]at i;subst i;simp[Value.ownBlock]at m;have:=h.lt k o;omega
def Vt{w0:G}(h:Bw w0 w)(j:Kept [blk R] w w')(m:U w0.heap<=R):Bw w0 w':=
 h.Z (j.H h.size (λv i b e=>by simp only[pY]at i;subst i;simp[Value.ownBlock]at e;omega))
def NM(nd:ar):Prop:=(J nd.A<=136/\J nd.V<=41/\J nd.y<=51)/\(0<=nd.M/\nd.M<=3)/\(0<=nd.D/\nd.D<2^64)/\(0<=nd.P/\nd.P<2^64)/\(0<=nd.F/\nd.F<2^64)/\∀i∈nd.y,0<=i/\i<2^64
structure SmW(ss:List aB)(ns:List ar):Prop where
 n1:J ss<=51
 n2:J ns<=201
 s:∀s∈ss,0<=s.1/\s.1<2^64
 d:∀nd∈ns,NM nd
theorem XH:∀(l m:LI),l.Nodup->(∀x∈l,x∈m)->J l<=J m
 |[],m,_,_=>cO _
 |x::l,m,hd,hs=>by rw[AL]at hd;have j:=hs x aj;have h:=XH l (m.erase x) hd.2 λy i=>(List.mem_erase_of_ne (λe=>hd.1 (by rw[<-e];exact i))).2 (hs y (by simp[i]));rw[List.length_erase_of_mem j]at h;have:=ca9 j;rw[kJ];omega
theorem ez8{α:Type}[DecidableEq α](c:α)(s:List α):((gH c s).map λn=>J n+1).sum=J s+1:=by
 induction s with
 |nil=>rfl
 |cons x l ih=>
  rw[gH];split;{rw[kI,Ue,ih,kJ,yS];omega};{
 cases h:gH c l with
 |nil=>have:=ez6 c (s:=l);rw[h]at this;simp at this
 |cons n ns=>
  rw[h]at ih;simp only[kI,Ue,kJ]at ih⊢;omega}
theorem aL2(C:Nat):∀l:iN,(∀x∈l,x<=C)->l.sum<=C*J l
 |[],_=>cO _
 |x::l,h=>by have m:=aL2 C l λy i=>h y (by simp[i]);have j:=h x aj;rw[Ue,kJ,aU6];omega
theorem JB{p:LI}(h:vp p):J p<=136:=by
 cases p with
 |nil=>simp
 |cons c t=>
  rw[vp,st,gL,gL,jX,ky]at h;obtain⟨-,r,q⟩:=h;have m:=aL2 17 ((gH 47 t).map λn=>J n+1) (λx i=>by obtain⟨n,j,rfl⟩:=fe.1 i;have:=q n j;simp only[nZ,gL,jX]at this;omega)
  rw[ez8,ir]at m;rw[kJ];omega
def aA8(w:G)(C:iA)(e:TypeId)(fr:Nat×Nat)(i:Nat):I (w.alloc (dO C e fr)) (Aw w i)=C[i]?:=by
 have h:(w.alloc (dO C e fr)).heap[U w.heap]?=dO C e fr:=by show(w.heap.push (dO C e fr))[U w.heap]?=_;simp
 unfold World.cell?;rw[h];rfl
theorem dM9(m:Le l n)(h:Rd w (.S p n c) l)(hb:aC l)(hl:n<=2000000)(s0:0<=s)(s1:s<2^64):dQ dG 219 #[.U s,.S p n c] w λe w'=>∃u B,e=dR (.S u (n+20) B)/\Own (U w.heap) w' (.S u (n+20) B) (qJ s l)/\Bw w w':=by
 go_in;go_wp2_with fail;refine(XA (n:=4) (v:=n) af af af).h ?_;rintro e j⟨p1,c1,rfl,o1,au⟩;have hcv:=Lib.run_convert_bytes_const (P:=dG) j 22 5 #[.int .u8 76,.int .u8 72,.int .u8 83,.int .u8 49] 4 4 underlying22 underlying5;simp only[show(#[Value.int .u8 76,.int .u8 72,.int .u8 83,.int .u8 49]:iA).size=4 from rfl]at hcv;have r0:Rd (j.alloc (dO #[.int .u8 76,.int .u8 72,.int .u8 83,.int .u8 49] 5 (4,5))) (.T (U j.heap) 4 4) Ch:=by
  refine⟨_,_,rfl,.R ⟨U j.heap,0,rfl,λi x=>?_⟩⟩;rw[XG]at x
  match i,x with
  |0,_=>(rw[mO,aA8];rfl)
  |1,_=>(rw[mO,aA8];rfl)
  |2,_=>(rw[mO,aA8];rfl)
  |3,_=>(rw[mO,aA8];rfl)
 have HR:=ag r0;have D:Bw j (j.alloc (dO #[.int .u8 76,.int .u8 72,.int .u8 83,.int .u8 49] 5 (4,5))):=aD.alloc aA _;have b0:=ai au D;go_wp2_with fail;refine(XA (n:=8) (v:=s) af s0 s1).h ?_;rintro e N⟨p2,c2,rfl,o2,q⟩;have o:=ai b0 q;have R:=HR.H q;have V:=h.H o;have Z:=(o1.rd.H D).H q;have X:=o2.rd;have HB:=ag hb;have yj:=ae m;go_wp2_with fail;refine(DQ (g:=U N.heap) (vs:=[.T (U j.heap) 4 4,.S p2 8 c2,.S p1 4 c1,.S p n c]) [Ch,le s 8,le n 4,l] (lm:=Fa s l) (n:=n+16) 4 rfl (by show _=_;rw[eG2,Fa,ae m]) (by show _=_;rw[ai1,ae m]) (du4 aj aj aj aj (R.H (aD.alloc aA _)) (X.H (aD.alloc aA _)) (Z.H (aD.alloc aA _)) (V.H (aD.alloc aA _))) af af).h ?_;rintro e w3⟨p3,c3,rfl,o3,aI⟩;have E:=ai (o.alloc o.size _) aI;have W:=o3.rd;go_wp2_with fail;refine(bJ0 (p:=p3) (c:=c3) (n:=n+16) (l:=Fa s l) (by show _=_;rw[ai1,ae m]) W (aM6 HB) af).h ?_;rintro e M⟨r,y,rfl,o4,cT⟩;have b4:=ai E cT;have o5:Own (U w.heap) M (.S r (n+20) y) (qJ s l):=Own.h o4 E.size;go_wp2;go_ret;exact⟨r,y,rfl,o5,b4⟩
def di2(r:Le l n)(h:Rd w (.S p n c) l)(hb:aC l)(hl:n<=2000000)(s0:0<=s)(s1:s<2^64):dQ dG 154 #[.U s,.S p n c] w λe w'=>∃p' c',e=dR (.S p' (n+20) c')/\Own (U w.heap) w' (.S p' (n+20) c') (qJ s l)/\Bw w w':=by
 have yj:=ae r;have HH:=ag h;have r0:Own (U w.heap) (w.alloc (dO #[.int .u8 76,.int .u8 72,.int .u8 83,.int .u8 49] 5)) (.T (U w.heap) 4 4) Ch:=
  aU1 w #[.int .u8 76,.int .u8 72,.int .u8 83,.int .u8 49] 4 aA jC rfl
 have HR:=ag r0;go_in;go_wp2_with fail;refine(XD 8 s _ af s0 s1).h ?_;rintro e w1⟨p1,c1,rfl,o1,au⟩;have b1:Bw w w1:=ai (aD.alloc aA _) au;have N:=Own.H HR au;have r1:=o1.rd;have E:=b1.size;have q:J (Ch++le s 8)=12:=by simp[vL,XG]
 go_wp2_with(at_builtin;refine BJ rfl rfl (B:=U w.heap) (.T (U w.heap) 4 4) (l:=Ch) (m:=le s 8) (lm:=Ch++le s 8) cM p1 c1 8 (by show _=_;exact vL _ _) rfl rfl N r1 (by rw[vL,XG];omega) E ?_);intro p2 c2 w2 W dt;have b2:=Am b1 dt N aA E;have z2:=b2.size
 try rw[q]at W⊢
 go_wp2_with fail;refine(XD 4 n _ af af af).h ?_;rintro e w3⟨p3,c3,rfl,o3,aI⟩;have b3:=ai b2 aI;have M:=Own.H W aI;have r3:=o3.rd;have D:=b3.size;have j:J (Ch++le s 8++le n 4)=16:=by simp[vL,XG]
 go_wp2_with(at_builtin;refine BJ rfl rfl (B:=U w.heap) (.S p2 12 c2) (l:=Ch++le s 8) (m:=le n 4) (lm:=Ch++le s 8++le n 4) cM p3 c3 4 (by show _=_;exact vL _ _) rfl rfl M r3 (by rw[vL,q];omega) D ?_);intro p4 c4 w4 u ly;have b4:=Am b3 ly M aA D;have y:=b4.size;have r4:Rd w4 (.S p n c) l:=HH.H b4;have i:J (Fa s l)=n+16:=by rw[ai1,ae r]
 try rw[j]at u⊢
 go_wp2_with(at_builtin;refine BJ rfl rfl (B:=U w.heap) (.S p4 16 c4) (l:=Ch++le s 8++le n 4) (m:=l) (lm:=Fa s l) (by show _=_;rw[Fa,ae r]) p c n r rfl rfl u r4 (by rw[j];omega) y ?_);intro p5 c5 w5 V l9;have Z:=Am b4 l9 u aA y;have HB:=ag hb
 try rw[i]at V⊢
 go_wp2_with fail;refine(bL6 (p:=p5) (c:=c5) (n:=n+16) (l:=Fa s l) (by show _=_;exact i) V.rd (aM6 HB) af).h ?_;rintro e w6⟨R,X,rfl,o6,gr⟩;have b6:=ai Z gr;have o7:Own (U w.heap) w6 (.S R (n+20) X) (qJ s l):=Own.h o6 Z.size;go_wp2;go_ret;exact⟨R,X,rfl,o7,b6⟩
def num:LI->Int
 |[]=>0
 |b::l=>b+256*num l
theorem bX3(h:aC l):0<=num l/\num l<256 ^ J l:=by
 induction l with
 |nil=>simp[num]
 |cons b l ih=>
  let⟨m,j⟩:=ih (λz i=>h z (by simp[i]));let⟨r,q⟩:=h b aj;simp only[num,kJ,am9];omega
def Fl(h:aC l)(j:J l<=8):0<=num l/\num l<2^64:=by
 let⟨a,b⟩:=bX3 h;refine⟨a,Int.lt_of_lt_of_le b ?_⟩;have i:((256 ^ J l:Nat):Int)<=2^64:=by have m:=aU5 (n:=256) af j;have e:256 ^ 8=2^64:=rfl;omega
 rw[Int.natCast_pow]at i;exact i
def bI2{k:Int}(z0:0<=z)(i:z<256)(j:0<=k)(h:z+256*k<2^64):IntKind.u64.wrap (IntKind.u64.wrap z+IntKind.u64.wrap (256*k))=z+256*k:=by
 rw[u64_wrap_id z z0 af,u64_wrap_id (256*k) af af,u64_wrap_id _ af h]
theorem aZ1(l:LI)(p:OA)(c n:Nat)(en:Le l n)(w:G)(h:Rd w (.S p n c) l)(m:aC l)(hn:n<=8)(hc:n<=c)(hm:c<=maxLen):dQ dG 87 #[.S p n c] w (Rb (.U (num l)) w):=by
 induction l generalizing p c n w with
 |nil=>
  obtain rfl:=ae en;clear h;go_in;go_wp2;go_ret;exact⟨rfl,aR _ _⟩
 |cons z l ih=>
  have e:n=J l+1:=en.C;have HE:=ag e;obtain⟨b,o,rfl,-,N⟩:=h.at aj;let⟨z0,W⟩:=m z aj;let⟨X,n1⟩:=Fl (l:=l) (λz r=>m z (by simp[r])) af;let⟨Z,E⟩:=Fl (l:=z::l) m bq;have q:num (z::l)=z+256*num l:=rfl;have x:=N 0 aj;simp at x;have aN:((n:Int)==0)=dF:=an4.2 af;have fM:=mF n c;have gC:=gm 1 n;have nK:=qV 0 n;have uR:0<n:=af;have oI:1<=n:=af;by_cases h1:c=1;{
 have nF:n=1:=af;subst h1 nF;have D:O (∀(i:G),Bw w i->Cp 87 #[.S (Ad b o) 0 0] i λe j=>e=dR (.U (num l))/\Bw i j):=by intro i R;refine ih _ 0 0 (by show _=_;omega) i ?_ (λz r=>m z (by simp[r])) af af af;refine(h.H R).cut 1 1 af aj _ (.L af) _ l ?_;rw[Fp (l:=l) af];rfl
 have V:=ag q;rw[q]at E;clear e ih h m N q Z;unfold maxLen at hm;go_in;go_wp2_with fail
 go_region_held3 (λi=>I i (Ad b o)=Y (.int .u8 z)) (first|with_reducible exact x|with_reducible exact s|go_keep)
  (first|(go_at_call 87;refine br (ae D _ (by first|exact aR _ _|exact aD.drew)) λM B=>?_;have y:Bw w M:=(by first|exact B|exact ai (aR (U w.heap) w).drew B);have s:=al x y))
 clear D s;go_wp2;go_ret;exact⟨by rw[ae V,<-bI2 z0 W X E];rfl,y⟩};{
 have hcn:(c==1)=dF:=by simp[h1]
 have D:O (∀(i:G),Bw w i->Cp 87 #[.S (Ad b (o+1)) (n-1) (c-1)] i λe j=>e=dR (.U (num l))/\Bw i j):=by intro i R;refine ih _ (c-1) (n-1) (by show _=_;omega) i ?_ (λz r=>m z (by simp[r])) af af af;refine(h.H R).cut 1 n af bq _ (.R rfl) _ l ?_;rw[e];simp
 have V:=ag q;rw[q]at E;clear e ih h m N q Z;unfold maxLen at hm;go_in;go_wp2_with fail
 go_region_held3 (λi=>I i (Ad b o)=Y (.int .u8 z)) (first|with_reducible exact x|with_reducible exact s|go_keep)
  (first|(go_at_call 87;refine br (ae D _ (by first|exact aR _ _|exact aD.drew)) λM B=>?_;have y:Bw w M:=(by first|exact B|exact ai (aR (U w.heap) w).drew B);have s:=al x y))
 clear D s;go_wp2;go_ret;exact⟨by rw[ae V,<-bI2 z0 W X E];rfl,y⟩}
open Go.Shelf
attribute [local go_sem] Oper.semAt_some
abbrev IB:={z:Int×Int // 0<=z.2/\z.2<256}
def upto{α:Type}(f:Nat->α)(k:Nat):List α:=(List.range k).map f
def bJ9{α:Type}(f:Nat->α)(k:Nat):upto f (k+1)=upto f k++[f k]:=by simp[upto,aW5]
def cZ3{α:Type}(f:Nat->α)(k:Nat):J (upto f k)=k:=by simp[upto]
def aC.get(h:aC l)(i:Nat):0<=l[i]?.getD 0/\l[i]?.getD 0<256:=by
 by_cases j:i<J l;{simp[j];exact h _ (AJ j)};{simp[j]}
def qW(n Bs:Nat)(A B:G):Prop:=Below n A B/\I B (Ad Bs 0)=I A (Ad Bs 0)
def qW.Z{n Bs:Nat}{A B C:G}(h:qW n Bs A B)(k:qW n Bs B C):qW n Bs A C:=⟨h.1.Z k.1,k.2.Z h.2⟩
def qW.refl(n Bs:Nat)(A:G):qW n Bs A A:=⟨aR _ _,rfl⟩
def qW.put{n Bs:Nat}(j:n<=U w.heap)(s:Bs<U w.heap)(W:G)(l:Nat)(o i:Obj)(m:U w.heap<=l)(h:W.heap[l]?=o)(r:o.isCells=dF)(q:o.isWalk=dF):qW n Bs W (W.putObj l i):=
 ⟨belowK_b j W l o i m h r q,Hz (a:=(Ad Bs 0)) (World.putObj_heap_other (by show Bs≠l;omega))⟩
def Np(l:LI)(h:aC l)(j:Nat):IB:=⟨((J l:Int)-1-j,l[J l-1-j]?.getD 0),h.get _⟩
set_option maxRecDepth 100000 in
def eI7(F:Fence)(h7:F.fn 266)(Ik:F.round=dN)(hn:1<=n){L Bs R b o len cap:Nat}(u:aC l)(el:J l=len)(Z:len<=8)(hb:b<R)(s Jx:List IB->G->Prop)(hY:∀q x W,s q W->J q<len->YieldAt F (n-1) dG L #[.I x.1.1,.int .u8 x.1.2] W λe r=>
   (e=dR (.bool dY)/\s (q++[x]) r/\qW R Bs W r)\/(e=dR (.bool dF)/\Jx (q++[x]) r)){W:G}(Zl:I W (Ad Bs 0)=dS (Ad b o) len cap)(hc:∀j,j<len->I W (Ad b (o+j))=Y (.int .u8 (l[j]?.getD 0)))(h0:s [] W):CallsIn F n dG 266 #[.func (.yield L) #[] #[],Pz Bs] W λe r=>(∃v,e=dR v)∧
   ((∃S,S=upto (Np l u) len/\s S r)\/(∃q,Jx q r)):=by
 refine wX func266 rfl h7 ?_ Ik;simp only[ntmps266,Ep,Nat.reduceAdd,Nat.reduceSub];gi_wp2
 gi_loopw [3] (λi wr=>∃k:Nat,k<=len/\i=.I ((len:Int)-1-k)/\s (upto (Np l u) k) wr/\qW R Bs W wr) (λi _=>(intOf i+1).toNat)
 case atStart=>exact⟨0,cO _,aj,h0,qW.refl _ _ _⟩
 case round=>(
 obtain⟨k,hk,rfl,Ze,N⟩:=hrel;by_cases M:k<len;{
 obtain⟨m,E⟩:∃m:Nat,m=len-1-k:=⟨_,rfl⟩;have y:(len:Int)-1-k=(m:Int):=af;have hm:m<len:=af;let⟨z,D⟩:=aG (l[m]?.getD 0);have qz:I wr (Ad b (o+m))=Y (.int .u8 z):=(N.1.cell (p:=(Ad b (o+m))) hb).Z ((hc m hm).Z (by rw[D]));have hbx:I wr (Ad Bs 0)=dS (Ad b o) len cap:=N.2.Z Zl;let⟨fn,V,B,body,X,hR⟩:=hY _ (Np l u k) wr Ze (by rw[cZ3];exact M);have ex:(Np l u k).1=((m:Int),z):=by simp only[Np,el,y,E,D]
 rw[ex]at X;dsimp only at X;rw[y];have hmi:=bM m len;have EM:=ag E;have E1:=ag y;have HK:=ag M;have HC:=ag hc;clear E y ex M hc D;gi_wp2;refine hR.h ?_;rintro e W3(⟨rfl,D9,kK⟩|⟨rfl,Ku⟩);{
 gi_wp2;go_roundw;exact⟨k+1,HK,by have:=ae E1;congr 1;omega,by rw[bJ9];exact D9,N.Z kK⟩
 case measure=>simp[intOf]<;>omega}
 {gi_wp2;refine cg (wS rfl _ _ _) rfl ?_;exact⟨⟨_,rfl⟩,.R ⟨_,Ku⟩⟩}};{obtain rfl:k=len:=af;gi_wp2;go_end0;exact⟨⟨_,rfl⟩,.L ⟨_,rfl,Ze⟩⟩})
def eI6(F:Fence)(i:F.fn 249)(j:F.round=dN):CallsIn F n dG 249 #[.S a len cap] w λe w'=>e=dR (.func (.func 266) #[] #[Pz (U w.heap)])/\w'=w.alloc (dO #[.S a len cap] 22):=by
 refine wX func249 rfl i ?_ j;simp only[ntmps249,Ep,Nat.reduceAdd,Nat.reduceSub];gi_wp2;go_ret;exact⟨rfl,rfl⟩
def eI5(F:Fence)(S:F.fn 266)(Ik:F.round=dN)(E:1<=n){Bs q b o len cap:Nat}(u:aC l)(el:J l=len)(i:len<=8)(M:b<q)(R:Bs<U w.heap)(X:q<=U w.heap)(Z:I w (Ad Bs 0)=dS (Ad b o) len cap)(hc:∀j,j<len->I w (Ad b (o+j))=Y (.int .u8 (l[j]?.getD 0))):SeqStopsK F n dG 266 #[Pz Bs] (λx:IB=>#[.I x.1.1,.int .u8 x.1.2]) (qW q Bs) (λr=>r=upto (Np l u) len) (λ_=>True) len w:=λL B Jx W s _ _ N V=>by
 refine(eI7 F S Ik E (o:=o) (cap:=cap) u el i M B Jx N ((s.cell (p:=(Ad Bs 0)) (by show Bs<_;omega)).Z Z) (λj m=>(s.cell (p:=(Ad b (o+j))) (by show b<_;omega)).Z (hc j m)) V).h ?_;rintro e W'⟨he,⟨r,D,m⟩|⟨y,m⟩⟩;{exact⟨he,.L ⟨_,D,m⟩⟩};{exact⟨he,.R ⟨_,iq,m⟩⟩}
def acc(pre:List IB):Int:=pre.foldl (λa x=>a*256+x.1.2) 0
def bv0{pre:List IB}(x:IB):acc (pre++[x])=acc pre*256+x.1.2:=by simp[acc]
theorem eM2(k:Nat):∀i:List IB,J i=k->0<=acc i/\acc i<256 ^ k:=by
 induction k with
 |zero=>intro i h;rw[Fp h];simp[acc]
 |succ k ih=>
  intro i h;obtain rfl|⟨m,x,rfl⟩:=i.eq_nil_or_concat;{simp at h};{rw[List.concat_eq_append]at h⊢;rw[bv0];let⟨o,j⟩:=ih m (by simpa using h);have:=x.2;rw[am9];omega}
def eM0{pre:List IB}(h:J pre<8):0<=acc pre/\acc pre*256+256<=2^64:=by
 let⟨m,j⟩:=eM2 (J pre) pre rfl;refine⟨m,?_⟩;have i:((256 ^ J pre:Nat):Int)<=72057594037927936:=by have o:=aU5 (n:=256) af (show J pre<=7 by omega);have e:256 ^ 7=72057594037927936:=rfl;omega
 rw[Int.natCast_pow]at i;have q:acc pre<72057594037927936:=Int.lt_of_lt_of_le j i;omega
theorem eM1(l:LI)(j:aC l)(k:Nat)(m:k<=J l):acc (upto (Np l j) k)=num (l.drop (J l-k)):=by
 induction k with
 |zero=>simp[upto,acc,num]
 |succ k ih=>
  rw[bJ9,bv0,ih af];have i:J l-1-k<J l:=af;have e:l.drop (J l-(k+1))=l[J l-1-k]::l.drop (J l-k):=by rw[show J l-(k+1)=J l-1-k by omega,Hu i];congr 2;omega
  rw[e,num];simp[Np,i];omega
set_option maxRecDepth 100000 in
def dz3(F:Fence)(h3:F.fn 218)(h5:F.fn 249)(h6:F.fn 266)(N:F.round=dN)(hn:3<=n)(hB:aC l)(el:J l=len)(r:len<=8)(V:0<len) (hc:∀j,j<len->I w (Ad b (o+j))=Y (.int .u8 (l[j]?.getD 0))):CallsIn F n dG 218 #[.S (Ad b o) len cap] w λe W'=>e=dR (.U (num l))/\Bw w W':=by
 have h1:1<=n:=af;refine callsIn_of_wp_marks func218 rfl h3 ?_ N;simp only[ntmps218,Ep,Nat.reduceAdd,Nat.reduceSub]
 gi_wp2_with(gi_at_call 249;refine(eI6 F h5 N).h ?_;rintro e w'⟨rfl,rfl⟩)
 let⟨M,m⟩:=aG ((w.alloc (dO #[.U 0] 27)).alloc (dO #[.S (Ad b o) len cap] 22));have z0:U M.heap=U w.heap+2:=by rw[m];simp
 have k0:I M (Aw w 0)=dU 0:=by rw[m];simp
 have f0:M.frozen? (Aw w 0)=dF:=by rw[m];simp
 have k1:I M (Ax w 0)=dS (Ad b o) len cap:=by rw[m];simp
 have MY:Bw w M:=by rw[m];exact(aD.alloc aA _).alloc aj _
 have u:b<U w.heap:=jO w _ (hc 0 V);rw[<-m];clear m;refine wpIn_rangeFunc_ownF N h1 (gf:=266) (lb:=#[Pz (U w.heap+1)]) rfl h6 (enters_of func266 aU rfl)
  (eI5 F (n:=n-1) h6 N af hB el r u af af k1 (λj hj=>(MY.cell (p:=(Ad b (o+j))) u).Z (hc j hj))) (λh k=>h.Z k) (qW.put af af) aD (λ_=>rfl)
  (λi W=>(I W (Aw w 0)=dU (acc i)/\W.frozen? (Aw w 0)=dF)/\Bw w W)
  (λ_ _ _=>False)
  (OwnFrom.and (Own.from (λs A B row q hg Z=>⟨cell_kept q.1 hg Z,(frozen_kept q.1 hg Z).Z q.2⟩) _) (ownFrom_below aA af))
  (λ_ _ _ _ _ q _ _=>q)
  ⟨⟨k0,f0⟩,MY⟩
  (λx=>{tmps:=#[.S (Ad b o) len cap,undef,.U 0,Pz (U w.heap),undef,.int .u8 x.1.2,.S (Ad b o) len cap,.func (.func 266) #[] #[Pz (U w.heap+1)],.I x.1.1,.int .u8 x.1.2,undef,undef,undef,undef,undef,undef],defers:=[]}) ?assign ?body ?done ?stop
 case assign=>(
 intro l x W K hK;gi_wp2;exact hK)
 case body=>(
 rintro L i x W⟨⟨X,hf⟩,R⟩jE;let⟨a0,a1⟩:=eM0 (pre:=i) af;let⟨x0,x1⟩:=x.2;have HS:=ag (bv0 (pre:=i) x);generalize acc i=a at*;generalize x.1.2=y at*;have E:bits .or .u64 (a*256) y=a*256+y:=by exact bits_join .u64 64 bf wraps_u64 8 (a*256) y af af af x0 af af
 have EJ:=ag E;clear E;gi_wp2;refine⟨KeepsOthers.setCell _ _ _,⟨(aR (U w.heap) W).setCell (p:=(Aw w 0)) aA _,Xf _ _ _ _ aj⟩,⟨?_,by rw[DJ];exact hf⟩,R.setCell (p:=(Aw w 0)) aA _⟩;rw[ae HS,<-ae EJ];exact Xe _ _ _ (by rw[X];rfl))
 case done=>(
 rintro D ys W hD rfl⟨⟨X,hf⟩,R⟩hK;gi_wp2;refine⟨aj,.L ⟨_,_,rfl,run_takeDeferred hK,?_⟩⟩;exact⟨_,results_tmp rfl _ _ _,by rw[<-el,eM1 l hB (J l) aA];simp,R.Z (belowK_b (w:=w) aA W D _ _ af hK rfl rfl)⟩)
 case stop=>(
 rintro D c i W _ _ h _;exact h.elim)
def WV(r:Le l n)(h:Rd w (.S p n c) l)(m:aC l)(i:n<=8)(q:0<n):Cp 218 #[.S p n c] w (Rb (.U (num l)) w):=by
 have e:=ae r;obtain⟨b,o,rfl,-,hc⟩:=h.at af;refine H6.1 (dz3 Fence.wide (n:=3) iq iq iq rfl af (b:=b) (o:=o) (len:=n) (cap:=c) (l:=l) m e i q (w:=w) (λj s=>?_));rw[hc j af];rfl
def sub(l:LI)(i j:Nat):LI:=(l.take j).drop i
def yG{i:Nat}(m:j<=J l):J (sub l i j)=j-i:=by simp[sub];omega
def aC.sub(h:aC l)(i j:Nat):aC (sub l i j):=λz m=>h z (Pq (Pr m))
theorem bV8(q:I w (Ad g 0)=v0)(o:Rd w v0 l0):vj w g [v0] [l0]:=by
 refine⟨rfl,λj v x m i=>?_⟩
 match j,m,i with
 |0,m,i=>simp at m i;subst m i;exact⟨q,o⟩
def aG3(w:G)(S:Int)(R:LI)(N:Nat)(code:Int)(e:Ending)(w':G):Prop:=
 ∃p c,e=dR (dT #[.U S,.S p N c,.I code])/\Own (U w.heap) w' (.S p N c) R/\Bw w w'
def Oh(w:G)(l:LI)(n:Nat)(e:Ending)(w':G):Prop:=
 if qJ (num (sub l 4 12)) (sub l 16 (n-4))=l then aG3 w (num (sub l 4 12)) (sub l 16 (n-4)) (n-20) 0 e w' else aG3 w 0 [] 0 13 e w'
def dN3(i:n<20):dQ dG 187 #[.S p n c] w (aG3 w 0 [] 0 13):=by
 have j:(n:Int)<20:=af;go_in;go_wp2;refine cg (v:=dT #[.U 0,aq,.I 13]) (by simp[results,results187,go_sem]) rfl ⟨dN,0,rfl,lZ _ _ _ _,aR _ _⟩
def di3(i:n<20):dQ dG 89 #[.S p n c] w (aG3 w 0 [] 0 13):=by
 have j:(n:Int)<20:=af;go_in;go_wp2;refine cg (v:=dT #[.U 0,aq,.I 13]) (by simp[results,results89,go_sem]) rfl ⟨dN,0,rfl,lZ _ _ _ _,aR _ _⟩
def dN5(W:Le l n)(h:Rd w (.S (Ad b o) n c) l)(y:aC l)(hn:20<=n)(hm:Mg n)(hc:n<=c)(nI:c<=maxLen):dQ dG 187 #[.S (Ad b o) n c] w (Oh w l n):=by
 have DX:¬(n:Int)<20:=af;obtain⟨k,ek⟩:∃k:Nat,(n:Int)-4=(k:Int):=⟨n-4,af⟩;have g1:=mF n c;have g2:=gm 12 c;have g3:=mF k c;have g4:=gm 16 k;have g5:c≠4:=af;have g6:c≠16:=af;have yj:=ae W;have N:n=k+4:=af;have Ox:J (sub l 4 12)=8:=yG af;have Ow:J (sub l 16 k)=k-16:=yG af;have V:∀(d:Nat)(i:G),Bw w i->Rd i (.S (Ad b (o+4)) 8 d) (sub l 4 12):=λd i D=>(h.H D).cut 4 12 af af _ (.R rfl) d _ rfl;have R:∀(d:Nat)(i:G),Bw w i->Rd i (.S (Ad b (o+16)) (k-16) d) (sub l 16 k):=λd i D=>(h.H D).cut 16 k af af _ (.R rfl) d _ rfl;let⟨s0,s1⟩:=Fl (y.sub 4 12) af;have r:=ag y;have H1:=ag Ox;have M:=ag Ow;have HK:=ag N;have sQ:=ag V;have Dn:=ag R;have HH:=ag h;have X:qJ (num (sub l 4 12)) (sub l 16 (n-4))=qJ (num (sub l 4 12)) (sub l 16 k):=by rw[N];rfl
 have HE:=ag X;clear y Ox Ow V R h yj N X;go_in;go_wp2_with fail;refine br (WV (l:=sub l 4 12) (n:=8) H1 (ae sQ _ _ aD) (r.sub 4 12) af af) λw1 b1=>?_;go_wp2_with fail;refine(dM9 (s:=num (sub l 4 12)) (n:=k-16) (l:=sub l 16 k) M (ae Dn _ _ b1) (r.sub 16 k) af s0 s1).h ?_;rintro e w2⟨p2,c2,rfl,o2,ay⟩;have Z:=ai b1 ay;go_wp2_with fail;refine(ZO (k:=n) (l:=qJ (num (sub l 4 12)) (sub l 16 k)) (m:=l) (by show _=_;rw[bO1,ae M]) W o2.rd (HH.H Z) (bO2 (r.sub 16 k)) r).h ?_;rintro e w3⟨rfl,aI⟩;have j:=ai Z aI;by_cases hq:qJ (num (sub l 4 12)) (sub l 16 k)=l;{
 have x:dD (qJ (num (sub l 4 12)) (sub l 16 k)=l):=by simp[hq]
 rw[x];have E:=ag hq;go_wp2_with fail;refine(DQ (g:=U w3.heap) (vs:=[.S (Ad b (o+16)) (k-16) (c-16)]) [sub l 16 k] (lm:=sub l 16 k) (n:=k-16) 1 rfl (by show _=_;rw[aA9]) M (bV8 aj ((ae Dn _ _ j).H (aD.alloc aA _))) af af).h ?_;rintro e w4⟨u,B,rfl,o4,cT⟩;have b4:=ai (j.alloc j.size _) cT;have o5:Own (U w.heap) w4 (.S u (k-16) B) (sub l 16 k):=Own.h o4 (by have:=j.size;simp;omega);go_wp2;refine cg (v:=dT #[.U (num (sub l 4 12)),.S u (k-16) B,.I 0]) (by simp[results,results187,go_sem]) rfl ?_;unfold Oh;rw[ae HE,aM (ae E)];have e1:n-20=k-16:=aK (ae HK);have e2:n-4=k:=aK (ae HK);rw[e1,e2];exact⟨u,B,rfl,o5,b4⟩};{
 have x:dD (qJ (num (sub l 4 12)) (sub l 16 k)=l)=dF:=by simp[hq]
 rw[x];have E:=ag hq;go_wp2;refine cg (v:=dT #[.U 0,aq,.I 13]) (by simp[results,results187,go_sem]) rfl ?_;unfold Oh;rw[ae HE,aL (ae E)];exact⟨dN,0,rfl,lZ _ _ _ _,j⟩}
theorem di4(m:Le l n)(h:Rd w (.S (Ad b o) n c) l)(B:aC l)(hn:20<=n)(hm:Mg n)(hc:n<=c)(nI:c<=maxLen):dQ dG 89 #[.S (Ad b o) n c] w (Oh w l n):=by
 have DX:¬(n:Int)<20:=af;obtain⟨k,ek⟩:∃k:Nat,(n:Int)-4=(k:Int):=⟨n-4,af⟩;have g1:=mF n c;have g2:=gm 12 c;have g3:=mF k c;have g4:=gm 16 k;have g5:c≠4:=af;have g6:c≠16:=af;have yj:=ae m;have X:n=k+4:=af;have Ox:J (sub l 4 12)=8:=yG af;have Ow:J (sub l 16 k)=k-16:=yG af;have r1:∀(d:Nat)(w':G),Bw w w'->Rd w' (.S (Ad b (o+4)) 8 d) (sub l 4 12):=λd w' M=>(h.H M).cut 4 12 af af _ (.R rfl) d _ rfl;have r2:∀(d:Nat)(w':G),Bw w w'->Rd w' (.S (Ad b (o+16)) (k-16) d) (sub l 16 k):=λd w' M=>(h.H M).cut 16 k af af _ (.R rfl) d _ rfl;let⟨s0,s1⟩:=Fl (B.sub 4 12) af;have x:=ag B;have H1:=ag Ox;have W:=ag Ow;have HK:=ag X;have sQ:=ag r1;have Dn:=ag r2;have V:=ag h;have eb:qJ (num (sub l 4 12)) (sub l 16 (n-4))=qJ (num (sub l 4 12)) (sub l 16 k):=by rw[X];rfl
 have HE:=ag eb;clear B Ox Ow r1 r2 h yj X eb;go_in;go_wp2_with fail;refine br (aZ1 (sub l 4 12) _ _ 8 H1 _ (ae sQ _ _ aD) (x.sub 4 12) af af af) λw1 D=>?_;go_wp2_with fail;refine(Ci W (ae Dn _ _ D) af).h ?_;rintro e i⟨j,r,rfl,o2,ay⟩;have u:=ai D ay;have z2:=D.size;go_wp2_with fail;have jG:∀(vs:iA)(w:G),(callFunc 154 vs).run dG w=.ok (.enter 154 vs) w:=λvs w=>aU;have u2:=tK m (V.H u);have u2d:=tK m (V.H u.drew);have y:Rd i.drew (.S j (k-16) r) (sub l 16 k):=o2.rd.H aD.drew;have HC:=ag (Nq (bO2 (s:=num (sub l 4 12)) (x.sub 16 k)) x)
 go_region_law(first
  |(refine Tm aS aS aS aS (λ_=>jG _ _) (di2 W y (x.sub 16 k) af s0 s1) ?_;rintro e Z⟨p3,c3,rfl,o3,IG⟩;refine⟨_,rfl,?_⟩;have N:Below (U i.heap) i Z:=ai (aR (U i.heap) i).drew IG;have u3:=tK m (V.H (ai u N));have e1:=tK (l:=qJ (num (sub l 4 12)) (sub l 16 k)) (by rw[bO1,ae W]) o3.rd))
 all_goals
  have b3:=ai u N;have q3:Own (U w.heap) Z (.S j (k-16) r) (sub l 16 k):=Own.h (Own.H o2 N) z2;go_wp2;{
 rename_i hd;have hq:¬qJ (num (sub l 4 12)) (sub l 16 k)=l:=by intro e;rw[ae HC,JV e]at hd;cases hd
 refine cg (v:=dT #[.U 0,aq,.I 13]) (by simp[results,results89,go_sem]) rfl ?_;unfold Oh;rw[ae HE,aL hq];exact⟨dN,0,rfl,lZ _ _ _ _,b3⟩};{
 rename_i hd;have hq:qJ (num (sub l 4 12)) (sub l 16 k)=l:=by by_cases e:qJ (num (sub l 4 12)) (sub l 16 k)=l;{exact e};{rw[ae HC,AM e]at hd;cases hd}
 refine cg (v:=dT #[.U (num (sub l 4 12)),.S j (k-16) r,.I 0]) (by simp[results,results89,go_sem]) rfl ?_;unfold Oh;rw[ae HE,aM hq];have e1:n-20=k-16:=aK (ae HK);have e2:n-4=k:=aK (ae HK);rw[e1,e2];exact⟨j,r,rfl,q3,b3⟩}
abbrev R1:=Int×LI
def Hm:List R1->List dV->List dV
 |r::rs,v::vs=>.int .u64 r.1::v::Hm rs vs
 |_,_=>[]
theorem aj7:∀(j:List R1)(vs:List dV)(i:Nat)(r:R1)(v:dV),j[i]?=r->vs[i]?=v->(Hm j vs)[2*i]?=dU r.1/\(Hm j vs)[2*i+1]?=v
 |[],vs,i,r,v,h,_=>by simp at h
 |r'::j,[],i,r,v,_,h=>by simp at h
 |r'::j,v'::vs,0,r,v,h1,h2=>by simp at h1 h2;subst h1 h2;simp[Hm]
 |r'::j,v'::vs,i+1,r,v,h1,h2=>by have:=aj7 j vs i r v (by simpa using h1) (by simpa using h2);rw[show 2*(i+1)=2*i+1+1 by omega];simpa[Hm]using this
theorem bS3:∀(i:List R1)(vs:List dV)(r:R1)(v:dV),J vs=J i->Hm (i++[r]) (vs++[v])=Hm i vs++[.U r.1,v]
 |[],[],r,v,_=>rfl
 |[],_::_,r,v,h=>by simp at h
 |_::_,[],r,v,h=>by simp at h
 |r'::i,v'::vs,r,v,h=>by simp[Hm,bS3 i vs r v (by simpa using h)]
abbrev SJ(u v:dV):Prop:=∀b,u.ownBlock=Y b->v.ownBlock≠Y b
structure jT(B:Nat)(w:G)(v:dV)(rs:List R1)(vs:List dV):Prop where
 len:J vs=J rs
 row:w.ownsRow B 90 2 v (J rs) (Hm rs vs)
 own:∀(i:Nat)r u,rs[i]?=Y r->vs[i]?=Y u->Own B w u r.2
 ap:vs.Pairwise SJ
variable {vs:List dV}
def jT.form{rs:List R1}(h:jT B w v rs vs):∃p c,v=.S p (J rs) c:=by
 obtain⟨rfl,i⟩|⟨g,m,j,rfl,_⟩:=h.row.2;{exact⟨dN,0,by rw[i]⟩};{exact⟨_,_,rfl⟩}
def jT.H{rs:List R1}(h:jT B w v rs vs)(j:Bw w w'):jT B w' v rs vs:=
 ⟨h.len,h.row.kept (row:=dN) ⟨j.os,j.tape,j.output,j.size,λk m _=>j.block k m⟩ (by cases s:v.ownBlock<;>simp),λi r u q o=>Own.H (h.own i r u q o) j,h.ap⟩
def jT.h{rs:List R1}(h:jT B w v rs vs)(o:B'<=B):jT B' w v rs vs:=by
 refine⟨h.len,⟨h.row.1,?_⟩,λi r u s q=>Own.h (h.own i r u s q) o,h.ap⟩;obtain e|⟨g,m,j,rfl,x,r⟩:=h.row.2;{exact .L e};{exact .R ⟨g,m,j,rfl,af,r⟩}
def jT.nil(B:Nat)(w:G):jT B w aq [] []:=⟨rfl,lZ _ _ _ _,by simp,List.Pairwise.nil⟩
def jT.apart{rs:List R1}(h:jT B w v rs vs)(o:Own B' w u l):SJ v u:=by
 intro b j i;obtain⟨rfl,_⟩|⟨g,s,r,rfl,_,q,_⟩:=h.row.2;{simp[Value.ownBlock]at j};{obtain⟨rfl,_⟩|⟨x,y,D,rfl,_,m,_⟩:=o.2;{simp[Value.ownBlock]at i};{simp[Value.ownBlock]at j i;subst j i;rw[q]at m;simp at m}}
def DM(l:LI):Nat:=(num (sub l 0 2)).toNat
def nj(l:LI):Option R1:=
 if J l<14+DM l\/1000<DM l then dN
 else if BS (num (sub l 2 10)) (sub l 10 (10+DM l))=sub l 0 (14+DM l)then Y (num (sub l 2 10),sub l 10 (10+DM l))else dN
def cd2(h:aC l):num (sub l 0 2)=(DM l:Int)/\DM l<65536:=by
 have i:=h.sub 0 2;let⟨q,o⟩:=bX3 i;have j:J (sub l 0 2)<=2:=by simp[sub];omega
 have m:(256:Int) ^ J (sub l 0 2)<=65536:=by obtain e|e|e:=(by omega:J (sub l 0 2)=0\/J (sub l 0 2)=1\/J (sub l 0 2)=2)<;>rw[e]<;>decide
 unfold DM;omega
def Tw(o:aC l){b:LI}(h:nj l=Y (s,b)):J b+14<=J l/\J b<=1000/\DM l=J b/\s=num (sub l 2 10)/\b=sub l 10 (10+J b)/\BS s b=sub l 0 (14+J b):=by
 unfold nj at h;split at h;{simp at h};{
 split at h;{
 rename_i h1 h2;simp only[mn,jy]at h;obtain⟨m,j⟩:=h;have i:J b=DM l:=by rw[<-j,yG af];omega
 refine⟨af,af,i.C,m.C,by rw[i,j],by rw[i,<-m,<-j];exact h2⟩};{simp at h}}
def fc1(w:G)(b o c:Nat)(l:LI)(e:Ending)(w':G):Prop:=
 Bw w w'/\match nj l with
  |none=>e=dR (dT #[xI 0 (.slice dN 0 0),.int .i64 0])
  |some r=>e=dR (dT #[xI r.1 (.slice (Y ⟨b,o+10,dN⟩) (J r.2) (c-10)),.int .i64 ((J r.2+14:Nat):Int)])
def ek6(i:n<10):dQ dG 217 #[.S p n c] w (Rb (dT #[xI 0 aq,.I 0]) w):=by
 have j:(n:Int)<10:=af;go_in;go_wp2;refine cg (v:=dT #[xI 0 aq,.I 0]) (by simp[results,results217,go_sem]) rfl ⟨rfl,aD.alloc aA _⟩
theorem ek7(en:Le l n)(h:Rd w (.S (Ad b o) n c) l)(hb:aC l)(hn:10<=n)(hm:n<=2097152)(hc:n<=c)(nI:c<=maxLen):dQ dG 217 #[.S (Ad b o) n c] w (fc1 w b o c l):=by
 have DX:¬(n:Int)<10:=af;have g1:=mF n c;have g2:=gm 10 c;have g3:=gm 2 c;have g5:c≠2:=af;have g6:c≠0:=af;let⟨N,eN⟩:=aG (DM l);let⟨eK,hK⟩:=cd2 hb;rw[<-eN]at eK hK;have HN:=ag eN;clear eN;have yj:=ae en;have Ox:J (sub l 0 2)=2:=yG af;have r1:∀(d:Nat)(w':G),Bw w w'->Rd w' (.S (Ad b o) 2 d) (sub l 0 2):=λd w' m=>(h.H m).cut 0 2 af af _ (.R rfl) d _ rfl;have sQ:=ag r1;have H1:=ag Ox;have y:=ag hb;have EK:=ag eK;obtain⟨M,eM⟩:∃M:Nat,(10:Int)+(N:Int)=(M:Int):=⟨10+N,af⟩;obtain⟨Z,eZ⟩:∃Z:Nat,(M:Int)+4=(Z:Int):=⟨M+4,af⟩;have W:Z=14+N:=af;have X:M=10+N:=af;have HZ:=bG W X;clear W X;by_cases hs:n<Z;{
 have qO:=bM n Z;go_in;go_wp2_with fail;refine br (WV H1 (ae sQ _ _ (by exact aD.alloc aA _)) (y.sub 0 2) af af) λi u=>?_;rw[ae EK];have c0:I i (Aw w 0)=dU 0:=al aj u;have c1:I i (Aw w 1)=aq:=al aj u;have f1:∀o,i.frozen? (Aw w o)=dF:=Ag aj u aj;have x:Bw w i:=ai (aD.alloc aA _) u;go_wp2;refine cg (v:=dT #[xI 0 aq,.I 0]) (by simp[results,results217,go_sem,c0,c1]) rfl ⟨?_,?_⟩;{
 repeat(refine ri ?_ aj _)
 exact x};{
 have e:nj l=dN:=by unfold nj;have:=ae HZ;have:=ae HN;rw[aM af]
 rw[e]}};{
 have qO:=fq n Z;have q1:=mF M c;have q2:=mF Z c;have q3:=gm 10 M;have q4:c≠10:=af;have q5:=gm 0 Z;have Ow:J (sub l 2 10)=8:=yG af;have de3:J (sub l 10 M)=N:=by rw[yG af];have:=ae HZ;omega
 have de2:J (sub l 0 Z)=Z:=by rw[yG af];omega
 have eMN:M-10=N:=aK (ae HZ);have r2:∀(d:Nat)(w':G),Bw w w'->Rd w' (.S (Ad b (o+2)) 8 d) (sub l 2 10):=λd w' m=>(h.H m).cut 2 10 af af _ (.R rfl) d _ rfl;have r3:∀(d:Nat)(w':G),Bw w w'->Rd w' (.S (Ad b (o+10)) (M-10) d) (sub l 10 M):=λd w' m=>(h.H m).cut 10 M af af _ (.R rfl) d _ rfl;have r4:∀(d:Nat)(w':G),Bw w w'->Rd w' (.S (Ad b o) Z d) (sub l 0 Z):=λd w' m=>(h.H m).cut 0 Z af af _ (.R rfl) d _ rfl;let⟨s0,s1⟩:=Fl (y.sub 2 10) af;have Dn:=ag r2;have tF:=ag r3;have Dj:=ag r4;have H2:=ag Ow;have H3:=ag de3;have H4:=ag de2;go_in;go_wp2_with fail;refine br (WV H1 (ae sQ _ _ (by exact aD.alloc aA _)) (y.sub 0 2) af af) λi u=>?_;rw[ae EK];have c0:I i (Aw w 0)=dU 0:=al aj u;have c1:I i (Aw w 1)=aq:=al aj u;have f1:∀o,i.frozen? (Aw w o)=dF:=Ag aj u aj;have x:Bw w i:=ai (aD.alloc aA _) u;have jG:∀(vs:iA)(w:G),(callFunc 218 vs).run dG w=.ok (.enter 218 vs) w:=λvs w=>aU
 go_upto_region 7 with fail
 go_cut[6](λrp wc=>∃R,rp=Pz R/\U i.heap<=R/\Au wc R (.U (num (sub l 2 10))) (.S (Ad b (o+10)) N (c-10))/\Bw i wc)
 case first=>(
 go_region_law(first
  |(refine Hj aS aS aS (λ_=>jG _ _) (WV H2 (ae Dn _ _ (by first|exact(x.alloc x.size _).drew|exact x.drew.alloc x.size _)) (y.sub 2 10) af af) ?_;rintro e r⟨rfl,j⟩;refine⟨_,rfl,?_⟩;have m0:I r ⟨U i.heap,0,dN⟩=Y (.int .u64 0):=al aj j;have m1:I r ⟨U i.heap,1,dN⟩=Y (.slice dN 0 0):=al aj j;have mf:∀o,r.frozen? ⟨U i.heap,o,dN⟩=dF:=Ag aj j aj;have V:Below (U i.heap) i r:=ai (by first|exact(aD.alloc aA _).drew|exact aD.drew.alloc aA _) j)
  |(refine Hj aS aS aS (λ_=>jG _ _) (WV H2 (ae Dn _ _ (by exact x.drew)) (y.sub 2 10) af af) ?_;rintro e r⟨rfl,j⟩;refine⟨_,rfl,?_⟩;have V:Below (U i.heap) i r:=ai (aR (U i.heap) i).drew j))
 {go_wp2_with fail;go_meet;exact⟨U r.heap,rfl,V.size,by simp[Au],V.alloc V.size _⟩};{go_wp2_with fail;go_meet;refine⟨U i.heap,rfl,eG _,⟨?_,?_⟩,(V.setCell aj _).setCell aj _⟩;{simp[go_sem,m0,m1]};{simp[go_sem,m0,m1]}})
 case rest=>(
 obtain⟨R,rfl,hR,A0,nM⟩:=hcut;have cc0:=al c0 nM;have cc1:=al c1 nM;have ff:=Ag f1 nM (jO i _ c0);have bc:=ai x nM;have hRw:U w.heap<R:=ku (jO i _ c0) hR;obtain⟨K,E,eE,bE,hC,D⟩:∃(K:Nat)(E:LI),J E=K/\aC E/\(∀w':G,Bw w w'->Cp 196 #[xI (num (sub l 2 10)) (.S (Ad b (o+10)) N (c-10))] w' λe B=>∃p' c',e=dR (.S p' K c')/\Own (U w'.heap) B (.S p' K c') E/\Bw w' B)/\(nj l=if E=sub l 0 Z then Y (num (sub l 2 10),sub l 10 M)else dN):=by
  let⟨fw,fI⟩:=ae HZ;have hN:=ae HN;by_cases Qx:N<=1000;{refine⟨N+14,BS (num (sub l 2 10)) (sub l 10 M),by rw[aP1,ae H3],bS4 (y.sub 10 M),λw' m=>?_,?_⟩;{have hr:=ae tF (c-10) w' m;rw[eMN]at hr;exact cg5 H3 hr (y.sub 10 M) Qx s0 s1};{unfold nj;rw[<-hN,<-fI,<-fw,aL af]}};{
 refine⟨0,[],rfl,by intro z hz;simp at hz,λw' m=>?_,?_⟩;{refine br (dN0 af) λB eb6=>?_;exact⟨dN,0,rfl,lZ _ _ _ _,eb6⟩};{
 have aN:¬[]=sub l 0 Z:=by intro e;have:=vJ List.length e;rw[ae H4]at this;simp at this;omega
 unfold nj;rw[<-hN,aM af,aL aN]}}
 have HC:=ag hC;have HE:=du eE bE D;go_wp2_with fail
 go_region_held3 (λw'=>Au w' R (.U (num (sub l 2 10))) (.S (Ad b (o+10)) N (c-10))) (first|exact A0|exact A1|exact A2)
  (first
   |(go_at_call 196;refine(ae HC _ (by exact bc.drew)).h ?_;rintro e r⟨p2,c2,rfl,o2,A9⟩;have j:Below (U wc.heap) wc r:=ai (aR (U wc.heap) wc).drew A9;have A1:=A0.H j)
   |(go_at_call 63;refine br (ZO HE.1 H4 (by exact o2.rd) (by exact Dj _ _ (ai bc j)) HE.2.1 (y.sub 0 Z)) λw3 aI=>?_;have A2:=A1.H aI))
 have s:=ai j aI;have b3:=ai bc s;have d0:=al cc0 s;have d1:=al cc1 s;have df:=Ag ff s (jO wc _ cc0);obtain⟨-,-,D⟩:=ae HE;by_cases hq:E=sub l 0 Z;{
 rw[aM hq]at D;have hd:dD (E=sub l 0 Z):=by simp[hq]
 rw[hd];have Sq:=ag D;have HQ:=ag hq;obtain⟨A3,A4⟩:=A2;go_wp2;have aN:U w.heap≠R:=af;refine cg (v:=dT #[xI (num (sub l 2 10)) (.S (Ad b (o+10)) N (c-10)),.I Z]) (by simp[results,results217,go_sem,d0,d1,A3,A4,aN]) rfl ⟨?_,?_⟩;{
 repeat(refine ri ?_ aj _)
 exact b3};{rw[ae Sq];let⟨fw,fI⟩:=ae HZ;simp only[ae H3];rw[show N+14=Z by omega]}};{
 rw[aL hq]at D;have hd:dD (E=sub l 0 Z)=dF:=by simp[hq]
 rw[hd];have Sq:=ag D;go_wp2;refine cg (v:=dT #[xI 0 aq,.I 0]) (by simp[results,results217,go_sem,d0,d1]) rfl ⟨?_,?_⟩;{
 repeat(refine ri ?_ aj _)
 exact b3};{rw[ae Sq]}})}
attribute [local go_sem] Oper.semAt_some
structure It where
 s:Int
 q:OA
 d:Nat
 b:LI
 z:Nat
def Good(w:G)(x:It):Prop:=x.z=0\/(x.z=J x.b+14/\J x.b<=1000/\aC x.b/\0<=x.s/\x.s<2^64/\Rd w (.S x.q (J x.b) x.d) x.b)
abbrev Ex(w:G):={x:It // Good w x}
def key(x:It):Option R1:=if x.z=0 then dN else Y (x.s,x.b)
abbrev ba0{w:G}(x:Ex w):iA:=#[xI x.1.s (.S x.1.q (J x.1.b) x.1.d),.I x.1.z]
def yl:Nat->LI->List (Option R1)
 |0,_=>[dN]
 |f+1,l=>match nj l with
  |none=>[dN]
  |some r=>Y r::yl f (l.drop (J r.2+14))
variable {f:Nat}
def af8(h:nj l=dN):yl f l=[dN]:=by cases f<;>simp[yl,h]
def LF{r:R1}(h:nj l=r):yl (f+1) l=Y r::yl f (l.drop (J r.2+14)):=by simp[yl,h]
theorem aH3(hf:0<f):[nj l] <+: yl f l:=by
 obtain⟨i,rfl⟩:∃i,f=i+1:=⟨f-1,af⟩;cases h:nj l with
 |none=>rw[af8 h];exact List.prefix_refl _
 |some r=>rw[LF h];exact⟨_,rfl⟩
def bS5(h:J l<14):nj l=dN:=by unfold nj;rw[aM (by omega)]
def aC.drop(h:aC l)(n:Nat):aC (l.drop n):=λz i=>h z (Pr i)
theorem bn4{wr:G}{m:Nat}(W:J l=m)(hr:Rd w (.S q m d) l)(R:Bw w wr)(j:aC l)(hm:m<=2097152)(N:m<=d)(u:d<=maxLen):Cp 217 #[.S q m d] wr λe w'=>Bw wr w'/\∃x:Ex w,key x.1=nj l/\e=dR (dT (ba0 x)):=by
 by_cases X:m<10;{refine br (ek6 X) λw' y=>?_;refine⟨y,⟨⟨0,dN,0,[],0⟩,.L rfl⟩,?_,rfl⟩;rw[bS5 af];rfl};{
 obtain⟨b,o,rfl,-,-⟩:=hr.at af;refine(ek7 W (hr.H R) j af hm N u).h ?_;rintro e w'⟨y,h⟩;refine⟨y,?_⟩;cases Ck:nj l with
 |none=>
  rw[Ck]at h;exact⟨⟨⟨0,dN,0,[],0⟩,.L rfl⟩,rfl,h⟩
 |some r=>
  rw[Ck]at h;obtain⟨s,i⟩:=r;let⟨h1,V,h3,D,B,Z⟩:=Tw j Ck;let⟨M,E⟩:=Fl (j.sub 2 10) (by simp[sub];omega);refine⟨⟨⟨s,Y (Ad b (o+10)),d-10,i,J i+14⟩,.R ⟨rfl,V,?_,by rw[D];exact M,by rw[D];exact E,?_⟩⟩,by simp[key],h⟩;{show aC i;rw[B];exact j.sub _ _};{have:=hr.cut 10 (10+J i) af af (Ad b (o+10)) (.R rfl) (d-10) i B;rw[show 10+J i-10=J i by omega]at this;exact this}}
def ax4(i:Bw w w'):w.grownBy w' dN:=⟨i.os,i.tape,i.output,i.size,λk j _=>i.block k j⟩
def dq5:CallsIn Fence.wide n dG 185 #[.S a len cap] w λe w'=>e=dR (.func (.func 216) #[] #[Pz (U w.heap)])/\w'=w.alloc (dO #[.S a len cap] 22):=by
 refine wX func185 rfl iq ?_ rfl;simp only[ntmps185,Ep,Nat.reduceAdd,Nat.reduceSub];gi_wp2;go_ret;exact⟨rfl,rfl⟩
set_option maxRecDepth 100000 in
def dL4(hn:1<=n){L Bs len cap:Nat}(hR:Rd w (.S p len cap) l)(y:aC l)(el:J l=len)(hlen:len<=1048576)(ui:len<=cap)(nI:cap<=maxLen)(hp:(p=dN/\cap=0)\/∃b o,p=(Ad b o))(Z Jx:List (Ex w)->G->Prop){W:G}(hJ:AbidesFrom (U W.heap) Z)(hY:∀j x W,Z j W->J j<len+2->YieldAt Fence.wide (n-1) dG L (ba0 x) W λe W'=>
   (e=dR (.bool dY)/\Z (j++[x]) W'/\qW (U w.heap) Bs W W')\/(e=dR (.bool dF)/\Jx (j++[x]) W'))(Zl:I W (Ad Bs 0)=dS p len cap)(Qy:Bw w W)(h0:Z [] W):CallsIn Fence.wide n dG 216 #[.func (.yield L) #[] #[],Pz Bs] W λe W'=>(∃v,e=dR v)∧
   ((∃ys:List (Ex w),(∃j x,ys=j++[x]/\x.1.z=0)/\Z ys W')\/(∃j:List (Ex w),(j.map λx=>key x.1) <+: yl (len+1) l/\Jx j W')):=by
 refine wX func216 rfl iq ?_ rfl;simp only[ntmps216,Ep,Nat.reduceAdd,Nat.reduceSub];gi_wp2
 gi_loopw [3] (λi wr=>∃(j:List (Ex w))(a f:Nat),a<=len/\i=.I a/\f+J j=len+1/\J j<=a/\(j.map λx=>key x.1)++yl f (l.drop a)=yl (len+1) l/\Z j wr/\qW (U w.heap) Bs W wr) (λi _=>len+1-(intOf i).toNat)
 case atStart=>exact⟨[],0,len+1,cO _,rfl,rfl,eG _,rfl,h0,qW.refl _ _ _⟩
 case round=>(
 obtain⟨j,a,f,zQ,rfl,R,V,m,hJp,Ys⟩:=hrel;have N:Bw w wr:=Qy.Z Ys.1;have gM:I wr (Ad Bs 0)=dS p len cap:=Ys.2.Z Zl;have g1:=mF a len;have g2:=mF len cap;have g3:=gm 0 a;obtain⟨rfl,rfl⟩|⟨b,o,rfl⟩:=hp;{
 obtain rfl:len=0:=af;obtain rfl:a=0:=af;have xk:Rd w (.S (dN) (0) (0)) (l.drop 0):=rI▸hR;have HF:=ag (bn4 (by rw[tX];omega) xk N (y.drop _) af af af);have HX:=du m R V;have HJ:=ag hJp;have HK:=ag Ys;have HBR:=bG y N;unfold maxLen at nI
 gi_wp2_with fail
 refine⟨iq,?_⟩;refine(H6.2 HF).h ?_;rintro e u⟨E,⟨x,B⟩,M,rfl⟩;let⟨m,R,V⟩:=ae HX;let⟨y,N⟩:=ae HBR;have YM:I u (Ad Bs 0)=I wr (Ad Bs 0):=(al gM E).Z gM.C;have Yr:qW (U w.heap) Bs W u:=HK.Z ⟨E.h N.size,YM⟩;have Zf:Z j u:=hJ j _ _ dN HJ (ax4 E) (λr e=>by cases e);have QI:Z j (u.alloc (dO #[.U x.s,.S x.q (J x.b) x.d] 90)):=hJ j _ _ dN Zf (Xh _ _ dN) (λr e=>by cases e);have PJ:=(ai N E).size;have YL:=al (al gM E) ((aR (U u.heap) u).alloc aA (dO #[.U x.s,.S x.q (J x.b) x.d] 90));have Yq:qW (U w.heap) Bs W (u.alloc (dO #[.U x.s,.S x.q (J x.b) x.d] 90)):=Yr.Z ⟨aD.alloc PJ _,YL.Z (al gM E).C⟩;let⟨fn,tmps,X,body,hy,MP⟩:=hY j ⟨x,B⟩ _ QI af
 try dsimp only at hy
 have Uq:x.z<=1014:=by obtain h|⟨h,h',_⟩:=B<;>omega
 have HM:=Nw m R V y M B;have H2:=ag Yq;gi_wp2;refine MP.h ?_;rintro e W3(⟨rfl,D9,kK⟩|⟨rfl,Ku⟩);{
 by_cases D:x.z=0;{
 have uI:((x.z:Int)==0):=by simp[D]
 gi_wp2;refine cg (wS rfl _ _ _) rfl ?_;exact⟨⟨_,rfl⟩,.L ⟨_,⟨j,⟨x,B⟩,rfl,D⟩,D9⟩⟩};{
 have uI:((x.z:Int)==0)=dF:=by simp[D]
 gi_wp2;go_roundw
 case rel=>(
 let⟨m,R,V,y,M,_⟩:=ae HM;have hk:nj (l.drop 0)=Y (x.s,x.b):=by rw[<-M];simp[key,D]
 let⟨r1,r2,_⟩:=Tw (y.drop _) hk;obtain h|⟨h,_⟩:=id B;{exact absurd h D};{rw[tX]at r1;refine⟨j++[⟨x,B⟩],0+x.z,f-1,af,by go_num,bq,bq,?_,D9,H2.Z kK⟩;obtain⟨f',rfl⟩:∃f',f=f'+1:=⟨f-1,af⟩;rw[LF hk]at m;rw[pK,uD,Ka,h,<-Fs];rw[<-m];simp[key,D]})
 case measure=>simp[intOf];omega}}
 {gi_wp2;refine cg (wS rfl _ _ _) rfl ⟨⟨_,rfl⟩,.R ⟨_,?_,Ku⟩⟩;let⟨m,R,V,y,M,_⟩:=ae HM;rw[pK,<-m];refine(aU4 _).2 ?_;simp only[kI,DG,M];exact aH3 af}};{
 by_cases hq:cap=a;{
 obtain rfl:len=a:=af;obtain rfl:cap=len:=hq;have xk:Rd w (.S (Ad b o) (0) (0)) (l.drop cap):=⟨_,0,by rw[Xj af];rfl,.L (Xj af)⟩;have HF:=ag (bn4 (by rw[tX];omega) xk N (y.drop _) af af af);have HX:=du m R V;have HJ:=ag hJp;have HK:=ag Ys;have HBR:=bG y N;unfold maxLen at nI
 gi_wp2_with fail
 refine⟨iq,?_⟩;refine(H6.2 HF).h ?_;rintro e u⟨E,⟨x,B⟩,M,rfl⟩;let⟨m,R,V⟩:=ae HX;let⟨y,N⟩:=ae HBR;have YM:I u (Ad Bs 0)=I wr (Ad Bs 0):=(al gM E).Z gM.C;have Yr:qW (U w.heap) Bs W u:=HK.Z ⟨E.h N.size,YM⟩;have Zf:Z j u:=hJ j _ _ dN HJ (ax4 E) (λr e=>by cases e);have QI:Z j (u.alloc (dO #[.U x.s,.S x.q (J x.b) x.d] 90)):=hJ j _ _ dN Zf (Xh _ _ dN) (λr e=>by cases e);have PJ:=(ai N E).size;have YL:=al (al gM E) ((aR (U u.heap) u).alloc aA (dO #[.U x.s,.S x.q (J x.b) x.d] 90));have Yq:qW (U w.heap) Bs W (u.alloc (dO #[.U x.s,.S x.q (J x.b) x.d] 90)):=Yr.Z ⟨aD.alloc PJ _,YL.Z (al gM E).C⟩;let⟨fn,tmps,X,body,hy,MP⟩:=hY j ⟨x,B⟩ _ QI af
 try dsimp only at hy
 have Uq:x.z<=1014:=by obtain h|⟨h,h',_⟩:=B<;>omega
 have HM:=Nw m R V y M B;have H2:=ag Yq;gi_wp2;refine MP.h ?_;rintro e W3(⟨rfl,D9,kK⟩|⟨rfl,Ku⟩);{
 by_cases D:x.z=0;{
 have uI:((x.z:Int)==0):=by simp[D]
 gi_wp2;refine cg (wS rfl _ _ _) rfl ?_;exact⟨⟨_,rfl⟩,.L ⟨_,⟨j,⟨x,B⟩,rfl,D⟩,D9⟩⟩};{
 have uI:((x.z:Int)==0)=dF:=by simp[D]
 gi_wp2;go_roundw
 case rel=>(
 let⟨m,R,V,y,M,_⟩:=ae HM;have hk:nj (l.drop cap)=Y (x.s,x.b):=by rw[<-M];simp[key,D]
 let⟨r1,r2,_⟩:=Tw (y.drop _) hk;obtain h|⟨h,_⟩:=id B;{exact absurd h D};{rw[tX]at r1;refine⟨j++[⟨x,B⟩],cap+x.z,f-1,af,by go_num,bq,bq,?_,D9,H2.Z kK⟩;obtain⟨f',rfl⟩:∃f',f=f'+1:=⟨f-1,af⟩;rw[LF hk]at m;rw[pK,uD,Ka,h,<-Fs];rw[<-m];simp[key,D]})
 case measure=>simp[intOf];omega}}
 {gi_wp2;refine cg (wS rfl _ _ _) rfl ⟨⟨_,rfl⟩,.R ⟨_,?_,Ku⟩⟩;let⟨m,R,V,y,M,_⟩:=ae HM;rw[pK,<-m];refine(aU4 _).2 ?_;simp only[kI,DG,M];exact aH3 af}};{
 have kh:cap≠a:=hq;have xk:Rd w (.S (Ad b (o+a)) (len-a) (cap-a)) (l.drop a):=hR.cut a len zQ af _ (.R rfl) _ _ (by rw[lY af]);have HF:=ag (bn4 (by rw[tX];omega) xk N (y.drop _) af af af);have HX:=du m R V;have HJ:=ag hJp;have HK:=ag Ys;have HBR:=bG y N;unfold maxLen at nI
 gi_wp2_with fail
 refine⟨iq,?_⟩;refine(H6.2 HF).h ?_;rintro e u⟨E,⟨x,B⟩,M,rfl⟩;let⟨m,R,V⟩:=ae HX;let⟨y,N⟩:=ae HBR;have YM:I u (Ad Bs 0)=I wr (Ad Bs 0):=(al gM E).Z gM.C;have Yr:qW (U w.heap) Bs W u:=HK.Z ⟨E.h N.size,YM⟩;have Zf:Z j u:=hJ j _ _ dN HJ (ax4 E) (λr e=>by cases e);have QI:Z j (u.alloc (dO #[.U x.s,.S x.q (J x.b) x.d] 90)):=hJ j _ _ dN Zf (Xh _ _ dN) (λr e=>by cases e);have PJ:=(ai N E).size;have YL:=al (al gM E) ((aR (U u.heap) u).alloc aA (dO #[.U x.s,.S x.q (J x.b) x.d] 90));have Yq:qW (U w.heap) Bs W (u.alloc (dO #[.U x.s,.S x.q (J x.b) x.d] 90)):=Yr.Z ⟨aD.alloc PJ _,YL.Z (al gM E).C⟩;let⟨fn,tmps,X,body,hy,MP⟩:=hY j ⟨x,B⟩ _ QI af
 try dsimp only at hy
 have Uq:x.z<=1014:=by obtain h|⟨h,h',_⟩:=B<;>omega
 have HM:=Nw m R V y M B;have H2:=ag Yq;gi_wp2;refine MP.h ?_;rintro e W3(⟨rfl,D9,kK⟩|⟨rfl,Ku⟩);{
 by_cases D:x.z=0;{
 have uI:((x.z:Int)==0):=by simp[D]
 gi_wp2;refine cg (wS rfl _ _ _) rfl ?_;exact⟨⟨_,rfl⟩,.L ⟨_,⟨j,⟨x,B⟩,rfl,D⟩,D9⟩⟩};{
 have uI:((x.z:Int)==0)=dF:=by simp[D]
 gi_wp2;go_roundw
 case rel=>(
 let⟨m,R,V,y,M,_⟩:=ae HM;have hk:nj (l.drop a)=Y (x.s,x.b):=by rw[<-M];simp[key,D]
 let⟨r1,r2,_⟩:=Tw (y.drop _) hk;obtain h|⟨h,_⟩:=id B;{exact absurd h D};{rw[tX]at r1;refine⟨j++[⟨x,B⟩],a+x.z,f-1,af,by go_num,bq,bq,?_,D9,H2.Z kK⟩;obtain⟨f',rfl⟩:∃f',f=f'+1:=⟨f-1,af⟩;rw[LF hk]at m;rw[pK,uD,Ka,h,<-Fs];rw[<-m];simp[key,D]})
 case measure=>simp[intOf];omega}}
 {gi_wp2;refine cg (wS rfl _ _ _) rfl ⟨⟨_,rfl⟩,.R ⟨_,?_,Ku⟩⟩;let⟨m,R,V,y,M,_⟩:=ae HM;rw[pK,<-m];refine(aU4 _).2 ?_;simp only[kI,DG,M];exact aH3 af}}})
variable {o:Oper}{a:Act}
theorem dx1{l:Nat}{Q:iE}(m:∀c,o.op≠.defer c)(h:o.wp P a w K Q):o.wpIn (Fence.wide.inRound l) n P a w K Q:=by
 refine⟨λ_ _=>trivial,?_⟩;have e:o.semAt (Fence.wide.inRound l).round a.eval=execOp a.eval o:=aU3 _ _ _ m;rw[e];unfold Oper.wp at h;generalize(execOp a.eval o).run P w=r at*;cases r with
 |ok x w'=>
  cases x<;>simp only[Oper.uponIn,Oper.upon]at h⊢
  case value=>exact h
  case skip=>exact h
  case defer=>exact h
  case enter f args=>exact⟨λi=>(by cases i),CallsIn.inRound l (H6.2 h)⟩
  case row row args=>exact⟨λi=>(by cases i),λc cs _=>let⟨v,j,r,s⟩:=h c cs;⟨v,j,r,stepsIn_wide.2 s⟩⟩
 |halt x w'=>cases x<;>simp only[Oper.uponIn,Oper.upon]at h⊢<;>exact h
theorem Wd{l:Nat}{Q:iE}(q:∀o∈ops.toList,∀c,o.op≠.defer c)(m:¬LetsOut Q):∀(fuel:Nat)(listed:Array Bool)(a:Act)(w:G),
  wpAny P md ops Q fuel listed a w->wpAnyIn (Fence.wide.inRound l) n P md ops Q fuel listed a w
 |0,_,_,_,h=>h
 | fuel+1,listed,a,w,h=>by
  refine⟨h.1,λi r=>?_⟩;have j:=h.2 i r;unfold wpOp at j;unfold wpOpIn;cases ho:ops[i]? with
  |none=>
   simp only[ho]at j⊢;exact Wd q m fuel _ a w j
  |some o=>
   simp only[ho]at j⊢;split;{rename_i hw;rw[aM hw]at j;obtain j|⟨_,j⟩:=j;{exact Oper.wpIn_mono (λa w h=>Wd q m fuel _ a w h) (dx1 (q o (by rw[Array.mem_toList_iff];exact Array.mem_of_getElem? ho)) j)};{exact absurd j m}};{rename_i hw;rw[aL hw]at j;exact⟨λ_ _=>trivial,Wd q m fuel _ _ w j⟩}
def aR9(i:iQ):Bool:=i.toList.all λo=>match o.op with| .defer _=>dF|_=>dY
def bY1(h:aR9 ops):∀o∈ops.toList,∀c,o.op≠.defer c:=by
 intro o i c e;have:=ky.1 h o i;rw[e]at this;cases this
def bI9{l:Nat}(S:iP){id:Nat}{Q:iE}(hm:P.follows .mixedOrders)(j:aR9 ops)(i:¬LetsOut Q)(m:S w.drew)(h:S w.drew->wpAnyH P .any ops Q S ops.size (Array.replicate ops.size dF) a w.drew):(Code.region id ops dY).wpIn (Fence.wide.inRound l) n P Q a w:=
 wpIn_region_any hm (Wd (bY1 j) i _ _ _ _ (wpAny_of_held _ _ _ _ (h m)))
def sw:Option Int->Int->Bool
 |none,_=>dY
 |some t,s=>dD (t≠18446744073709551615)&&dD (s=t+1)
def qg:Option Int->List (Option R1)->List R1
 |_,[]=>[]
 |_,dN::_=>[]
 |t,Y r::rest=>if sw t r.1 then r::qg r.1 rest else[]
def rr(rs:List R1):Option Int:=rs.getLast?.map (·.1)
def jU:List R1->Nat
 |[]=>0
 |r::rs=>J r.2+14+jU rs
def aJ8(a b:List R1):jU (a++b)=jU a+jU b:=by induction a with|nil=>simp[jU]|cons r a ih=>simp[jU,ih];omega
def cd3(rs:List R1)(r:R1):rr (rs++[r])=r.1:=by simp[rr]
def cv7{t:Int}(s0:0<=s)(s1:s<2^64)(r:0<=t)(q:t<2^64):dQ dG 186 #[.U s,.U t] w λe w'=>e=dR (.bool (sw t s))/\w'=w:=by
 by_cases h:t=18446744073709551615;{
 have e:sw t s=dF:=by simp[sw,h]
 rw[e];have m:(t != 18446744073709551615)=dF:=by simp[h]
 clear e;subst h;go_enter Tryz.func186,Tryz.ntmps186;go_wp2;go_ret;exact⟨rfl,rfl⟩};{
 have e:sw t s=dD (s=t+1):=by simp[sw,h]
 rw[e];have m:(t != 18446744073709551615):=by simp[h]
 have u:IntKind.u64.wrap (t+1)=t+1:=u64_wrap_id _ af af;by_cases i:s=t+1;{
 have o:(s==t+1):=by simp[i]
 have j:dD (s=t+1):=by simp[i]
 rw[j];clear e h i j;go_enter Tryz.func186,Tryz.ntmps186;go_wp2;go_ret;exact⟨rfl,rfl⟩};{
 have o:(s==t+1)=dF:=by simp[i]
 have j:dD (s=t+1)=dF:=by simp[i]
 rw[j];clear e h i j;go_enter Tryz.func186,Tryz.ntmps186;go_wp2;go_ret;exact⟨rfl,rfl⟩}}
def Tryz.infoRec:(Tryz.prog.info? 90).map (λi=>(i.zero,i.size,i.bytes))=Y (Y (.agg #[.U 0,aq]),2,32):=by kernel_rfl
def cI2{v':dV}{rs:List R1}{r:R1}(h:jT B w v rs vs)(R:Own B w u r.2)(D6:∀M∈vs,SJ M u)(W:w'.ownsRow B 90 2 v' (J rs+1) (Hm rs vs++[.U r.1,u]))(S:w.grownBy w' v.ownBlock):jT B w' v' (rs++[r]) (vs++[u]):=by
 have q:∀{x:dV}{m:LI},Own B w x m->Own B w' x m:=λ{x m}j=>Own.Kc (vs:=[v]) j (Kept.aR0 S aj) (λy s b Z X=>by simp only[pY]at s;subst s;exact h.apart j b X Z);refine⟨by simp[h.len],?_,?_,?_⟩;{rw[bS3 rs vs r u h.len,dm];exact W};{
 intro i N x o j;by_cases D:i<J rs;{rw[mj D]at o;rw[mj (h.len▸D)]at j;exact q (h.own i N x o j)};{
 have Gh:i=J rs:=by have:=(bg.1 o).1;simp at this;omega
 subst Gh;rw[pI aA,xL]at o;rw[pI (h.len▸eG _),h.len,xL]at j;simp at o j;subst o j;exact q R}};{rw[ca4];exact⟨h.ap,List.pairwise_singleton _ _,λa V b E=>by simp only[pY]at E;subst E;exact D6 a V⟩}
theorem bY9(m:I w (Ad g 0)=dU s)(o:I w (Ad g 1)=u):∀j x,([Value.U s,u]:List dV)[j]?=Y x->I w (((Ad g 0):Addr).add j)=Y x:=by
 intro j x i
 match j,i with
 |0,i=>simp at i;subst i;simpa[Fx]using m
 |1,i=>simp at i;subst i;simpa[Fx]using o
 |j+2,i=>simp at i
variable {s x:Operand}
def df4{Q:iE}(gR:o.guard=dN) (ho:o.op=.call {callee:=.builtin .append,args:=#[s,x],argTypes:=#[86,86]}){rs:List R1}(en:Le rs n)(hs:a.eval s=v)(hx:a.eval x=.T g 1 1)(h:jT B w v rs vs){r:R1}(ki:I w (Ad g 0)=dU r.1)(fM:I w (Ad g 1)=u)(hu:Own B w u r.2)(D6:∀u'∈vs,SJ u' u)(hl:n<=2097152)(hB:B<=U w.heap)(hK:∀p' c' w',jT B w' (.S p' (n+1) c') (rs++[r]) (vs++[u])->w.grownBy w' v.ownBlock->K (a.put o.dst (.S p' (n+1) c')) w'):if Region.wanted o (yielded ops a.tmps)then Oper.wp dG o a w K Q else E:=by
 have hw:Region.wanted o (yielded ops a.tmps):=by simp[Region.wanted,gR]
 rw[aM hw];let⟨i,hi,iD,fw,fI⟩:=kx Tryz.infoRec;obtain rfl:=ae en;let⟨pu,cu,eu⟩:=hu.form;refine wp_append_own w s x 86 ho B 90 i _ 2 32 Tryz.underlying86 hi iD fw fI rfl bf v _ _ hs h.row (Ad g 0) 1 1 [.U r.1,u] hx rfl (bY9 ki fM) ?_ jC af hB ?_;{intro y hy;simp only[fU,Pe,Ib]at hy;obtain rfl|rfl:=hy;{rfl};{rw[eu];rfl}};{intro v' w' h1 h2 _;have hR:=cI2 h hu D6 h1 h2;obtain⟨p',c',rfl⟩:=hR.form;have:=hK p' c' w';rw[dm]at hR;exact(by simpa using this hR h2)}
variable {f:FuncId}{R:Ending->G->Prop}
def df1{Q:iE}(hw:Region.wanted o (yielded ops a.tmps)) (ho:o.op=.call {callee:=.value (.func f),args:=#[x1,x2],argTypes:=sU})(h1:a.eval x1=v1)(h2:a.eval x2=v2)(jG:∀vs,(callFunc f vs).run P w=.ok (.enter f vs) w)(hc:dQ P f #[v1,v2] w R)(hR:∀e w',R e w'->∃v,e=dR v/\K (a.put o.dst v) w'):if Region.wanted o (yielded ops a.tmps)then Oper.wp P o a w K Q else E:=by
 rw[aM hw];have fS:(execOp a.eval o).run P w=.ok (.enter f #[v1,v2]) w:=by subst h1 h2;unfold execOp;simp[go_sem,ho,resolve,invoke,jG]
 show o.upon P a K Q _;rw[fS,O0];refine hc.h ?_;intro e w' h;obtain⟨v,rfl,hk⟩:=hR e w' h;exact hk
def jT.lt{rs:List R1}(h:jT B w v rs vs):∀u∈vs,∀b,u.ownBlock=Y b->b<U w.heap:=by
 intro u m b e;let⟨i,j⟩:=wR m;obtain⟨r,o⟩:∃r,rs[i]?=Y r:=⟨_,bD (h.len▸(bg.1 j).1)⟩;exact(Own.lt (h.own i r u o j) b e).2
def jT.aj2{rs:List R1}(h:jT B w v rs vs):∀b,v.ownBlock=Y b->B<=b/\b<U w.heap:=LY h.row
def jT.dn2{rs:List R1}(h:jT B w v rs vs):∀(j:Nat)(o:Obj),v.ownBlock=j->w.heap[j]?=o->o.isCells:=by
 intro j o e i;obtain⟨rfl,_⟩|⟨g,r,q,rfl,_,m,_⟩:=h.row.2;{simp[Value.ownBlock]at e};{simp[Value.ownBlock]at e;subst e;rw[m]at i;cases i;rfl}
variable {rest:List Oper}
def bI8{Q:iE}(gR:o.guard=dN) (ho:o.op=.call {callee:=.builtin .append,args:=#[s,x],argTypes:=#[86,86]}){rs:List R1}(en:Le rs n)(g:Nat)(hs:a.eval s=v)(hx:a.eval x=.T g 1 1)(h:jT B w v rs vs){r:R1}(ki:I w (Ad g 0)=dU r.1)(fM:I w (Ad g 1)=u)(hu:Own B w u r.2)(D6:∀u'∈vs,SJ u' u)(hl:n<=2097152)(hB:B<=U w.heap)(hK:∀p' c' w',jT B w' (.S p' (n+1) c') (rs++[r]) (vs++[u])->w.grownBy w' v.ownBlock->wpList dG ops Q rest (a.put o.dst (.S p' (n+1) c')) w'):wpList dG ops Q (o::rest) a w:=by
 let⟨i,hi,iD,fw,fI⟩:=kx Tryz.infoRec;obtain rfl:=ae en;let⟨pu,cu,eu⟩:=hu.form;refine T9 w gR s x 86 ho B 90 i _ 2 32 Tryz.underlying86 hi iD fw fI rfl bf v _ _ hs h.row (Ad g 0) 1 1 [.U r.1,u] hx rfl (bY9 ki fM) ?_ jC af hB ?_;{intro y hy;simp only[fU,Pe,Ib]at hy;obtain rfl|rfl:=hy;{rfl};{rw[eu];rfl}};{intro v' w' h1 h2 _;have hR:=cI2 h hu D6 h1 h2;obtain⟨p',c',rfl⟩:=hR.form;have:=hK p' c' w';rw[dm]at hR;exact(by simpa using this hR h2)}
def KeepsOthers.tT{W j:G}(h:Bw W j):KeepsOthers W j:=⟨h.size,λk o i _=>(h.block k (JU.1 i).1).Z i⟩
def Own.Mp{W j:G}(h:Own B W v l)(m:W.grownBy j row)(hr:∀r,row=Y r->∃o:Obj,W.heap[r]?=o/\o.isCells=dF):Own B j v l:=by
 refine Pa h m ?_;obtain⟨rfl,_⟩|⟨g,s,q,rfl,_,u,_⟩:=h.2;{exact .L rfl};{refine .R λe=>?_;let⟨o,i,hc⟩:=hr g e.C;rw[u]at i;cases i;cases hc}
def jT.Mp{W q:G}{rs:List R1}(h:jT B W v rs vs)(m:W.grownBy q row)(hr:∀r,row=Y r->∃o:Obj,W.heap[r]?=o/\o.isCells=dF):jT B q v rs vs:=by
 refine⟨h.len,Pa h.row m ?_,λi r u x s=>Own.Mp (h.own i r u x s) m hr,h.ap⟩;obtain⟨rfl,_⟩|⟨g,D,y,rfl,_,E,_⟩:=h.row.2;{exact .L rfl};{refine .R λe=>?_;let⟨o,j,hc⟩:=hr g e.C;rw[E]at j;cases j;cases hc}
def jT.set{rs:List R1}(h:jT B w v rs vs){a:Addr}(j:a.block<B)(u:dV):jT B (w.setCell a u) v rs vs:=
 ⟨h.len,sy h.row j u,λi r x o m=>Own.set (h.own i r x o m) j u,h.ap⟩
attribute [local go_sem] Oper.semAt_some
def aD3(w:G)(rs:List R1)(e:Ending)(w':G):Prop:=
 ∃p c i,e=dR (dT #[.S p (J rs) c,.I (jU rs:Nat)])/\jT (U w.heap) w' (.S p (J rs) c) rs i/\Bw w w'
def rl(l:LI):List R1:=qg dN (yl (J l+1) l)
abbrev keys{w:G}(pre:List (Ex w)):List (Option R1):=pre.map λx=>key x.1
def NS(w W:G)(rs:List R1)(v:dV)(vs:List dV):Prop:=
 I W (Aw w 0)=v/\W.frozen? (Aw w 0)=dF/\I W (Ax w 0)=dI (jU rs:Nat)/\W.frozen? (Ax w 0)=dF/\jT (U w.heap+3) W v rs vs
def Inv(w:G)(pre:List (Ex w))(W:G):Prop:=
 ∃j v m,NS w W j v m/\(∀i,qg dN (keys pre++i)=j++qg (rr j) i)/\(∀x∈pre,x.1.z≠0)/\J j=J pre/\jU j<=1014*J pre/\(∀r∈j,J r.2<=1000/\0<=r.1/\r.1<2^64)
def aE0(w:G)(c:Code)(m:List (Ex w))(W:G):Prop:=
 c=.exit 0/\∃j v o,NS w W j v o/\(∀i,qg dN (keys m++i)=j)
def NS.Mp{w W j:G}{rs:List R1}(h:NS w W rs v vs)(i:W.grownBy j row)(hr:∀r,row=Y r->∃o:Obj,W.heap[r]?=o/\o.isCells=dF):NS w j rs v vs:=
 ⟨cell_kept h.1 i hr,(frozen_kept h.1 i hr).Z h.2.1,cell_kept h.2.2.1 i hr,(frozen_kept h.2.2.1 i hr).Z h.2.2.2.1,h.2.2.2.2.Mp i hr⟩
def NS.H{w W i:G}{rs:List R1}(h:NS w W rs v vs)(j:Bw W i):NS w i rs v vs:=
 h.Mp (row:=dN) (ax4 j) (λr e=>by cases e)
def Inv.own(w:G)(B:Nat):OwnFrom B (Inv w):=by
 rintro s W x row⟨j,v,i,u,o⟩q m;exact⟨j,v,i,u.Mp q (λr e=>(m r e).2),o⟩
def aE0.own(w:G)(c:Code)(B:Nat):OwnFrom B (aE0 w c):=by
 rintro s W x row⟨hc,j,v,i,u,o⟩q m;exact⟨hc,j,v,i,u.Mp q (λr e=>(m r e).2),o⟩
def Inv.H{w W i:G}{pre:List (Ex w)}(h:Inv w pre W)(r:Bw W i):Inv w pre i:=by
 obtain⟨m,v,j,q,o⟩:=h;exact⟨m,v,j,q.H r,o⟩
def eJ7{w W V w9:G}{x:It}(Z:Good w x){pre:List (Ex w)}{rs:List R1}{c9 K:Nat}(z0:W0s=U w.heap+3)(hz:W0s<=U W.heap)(KV:KeepsOthers W V)(q:Bw W V)(hb:Bw w V)(c0:I V (Aw w 0)=v)(c1:V.frozen? (Aw w 0)=dF)(c2:I V (Ax w 0)=dI (jU rs:Nat))(c3:V.frozen? (Ax w 0)=dF)(ho:jT (U w.heap+3) V v rs vs)(i:Below (U w.heap+3) V w9)(o:KeepsOthers V w9)(QD:jT (U w.heap+3) w9 (.S p9 (K+1) c9) (rs++[(x.s,x.b)]) (vs++[u]))(eK:Le rs K)(HX:O (x.z=J x.b+14/\aC x.b/\key x=Y (x.s,x.b)))(HF:O ((∀rest,qg dN (keys pre++rest)=rs++qg (rr rs) rest)/\(∀y∈pre,y.1.z≠0)/\K=J pre/\jU rs<=1014*J pre/\(∀r∈rs,J r.2<=1000/\0<=r.1/\r.1<2^64)))(kH:O (sw (rr rs) x.s))(XV:J x.b<=1000)(m:0<=x.s)(j:x.s<2^64):KeepsFrom W0s W ((w9.setCell (Aw w 0) (.S p9 (K+1) c9)).setCell (Ax w 0) (.I ((jU rs:Int)+(x.z:Int))))∧
  qW (U w.heap) (U w.heap+2) W ((w9.setCell (Aw w 0) (.S p9 (K+1) c9)).setCell (Ax w 0) (.I ((jU rs:Int)+(x.z:Int))))∧
  Inv w (pre++[⟨x,Z⟩]) ((w9.setCell (Aw w 0) (.S p9 (K+1) c9)).setCell (Ax w 0) (.I ((jU rs:Int)+(x.z:Int))))∧
  Bw w ((w9.setCell (Aw w 0) (.S p9 (K+1) c9)).setCell (Ax w 0) (.I ((jU rs:Int)+(x.z:Int))))/\W0s<=U ((w9.setCell (Aw w 0) (.S p9 (K+1) c9)).setCell (Ax w 0) (.I ((jU rs:Int)+(x.z:Int)))).heap:=by
 let⟨Uq,hxB,UG⟩:=ae HX;let⟨Ix,Uz,hrl,xR,D⟩:=ae HF;have fv:=ae kH;have eK':=ae eK;have hV3:U w.heap+3<=U V.heap:=by have:=q.size;omega
 have X:=(i.cell (p:=(Aw w 0)) (by show U w.heap<_;omega)).Z c0;have R:=(i.frozen (p:=(Aw w 0)) (by show U w.heap<_;omega)).Z c1;have N:=(i.cell (p:=(Ax w 0)) (by show U w.heap+1<_;omega)).Z c2;have M:=(i.frozen (p:=(Ax w 0)) (by show U w.heap+1<_;omega)).Z c3;have E:=i.cell (p:=(Ad (U w.heap+2) 0)) (by show U w.heap+2<_;omega);have B:Below (U w.heap) W w9:=(q.h af).Z (i.h af);have ke:Bw w w9:=hb.Z (i.h af);refine⟨((KV.Z o).Z ((KeepsOthers.setCell _ _ _).Z (KeepsOthers.setCell _ _ _))).from _,⟨(B.setCell aA _).setCell aj _,?_⟩,⟨rs++[(x.s,x.b)],.S p9 (K+1) c9,vs++[u],⟨?_,?_,?_,?_,?_⟩,?_,?_,?_,?_,?_⟩,(ke.setCell aA _).setCell aj _,?_⟩;{rw[Xf _ _ _ _ aj,Xf _ _ _ _ aj,E];exact Hz (a:=(Ad (U w.heap+2) 0)) (q.block _ (by show U w.heap+2<_;omega))};{rw[Xf _ _ _ _ aj];exact Xe _ _ _ (by rw[X];rfl)};{rw[DJ,DJ];exact R};{
 have:((jU (rs++[(x.s,x.b)]):Nat):Int)=(jU rs:Int)+(x.z:Int):=by rw[aJ8];simp[jU];omega
 rw[this];refine Xe _ _ _ ?_;rw[Xf _ _ _ _ aj,N];rfl};{rw[DJ,DJ];exact M};{exact(QD.set (by show U w.heap<_;omega) _).set (by show U w.heap+1<_;omega) _};{intro rest;simp only[pK,kI,DG,uD,DI,DE];rw[UG,Ix (Y (x.s,x.b)::rest),cd3];simp[qg,fv]};{intro y hy;obtain h|h:=jd.1 hy;{exact Uz y h};{simp at h;subst h;show x.z≠0;omega}};{simp;omega};{rw[aJ8];simp[jU];omega};{intro r hr;obtain h|h:=jd.1 hr;{exact D r h};{simp at h;subst h;exact⟨XV,m,j⟩}};{show W0s<=_;have:=B.size;have:=i.size;simp;omega}
def cX2{l n:Nat}{Q:iE}{x:Nat}{id:Nat}(hl:¬LetsOut Q)(hS:S w.drew)(h:S w.drew->sS P .any ops Q S x ops.size (Array.replicate ops.size dF) a w.drew)(hm:P.follows .mixedOrders:=by kernel_rfl)(hd:aR9 ops:=by kernel_rfl):(Code.region id ops dY).wpIn (Fence.wide.inRound l) n P Q a w:=
 wpIn_region_any hm (Wd (bY1 hd) hl _ _ _ _ (aH8 _ _ _ _ (h hS)))
set_option maxRecDepth 100000 in
def dM6(hn:3<=n)(hR:Rd w (.S p len cap) l)(hB:aC l)(el:J l=len)(hlen:len<=1048576)(ui:len<=cap)(nI:cap<=maxLen)(hp:(p=dN/\cap=0)\/∃b o,p=(Ad b o)):CallsIn Fence.wide n dG 121 #[.S p len cap] w (aD3 w (rl l)):=by
 have h1:1<=n:=af;refine callsIn_of_wp_marks func121 rfl iq ?_ rfl;simp only[ntmps121,Ep,Nat.reduceAdd,Nat.reduceSub];refine wpIn_wide.2 ?_;go_wp2_with fail;refine wp_scope_straight ?_;go_wp2_with fail
 go_step3
 go_wp2_with fail;refine(H6.1 (dq5 (n:=0))).h ?_;rintro e w1⟨rfl,rfl⟩;go_wp2_with fail;let⟨W0,cI⟩:=aG (((w.alloc (dO #[aq] 86)).alloc (dO #[.I 0] 3)).alloc (dO #[.S p len cap] 22));have z0:U W0.heap=U w.heap+3:=by rw[cI];simp
 have k0:I W0 (Aw w 0)=aq:=by rw[cI];simp[go_sem]
 have f0:W0.frozen? (Aw w 0)=dF:=by rw[cI];simp[go_sem]
 have k1:I W0 (Ax w 0)=dI 0:=by rw[cI];simp[go_sem]
 have f1:W0.frozen? (Ax w 0)=dF:=by rw[cI];simp[go_sem]
 have k2:I W0 (Ad (U w.heap+2) 0)=dS p len cap:=by rw[cI];simp[go_sem]
 have MY:Bw w W0:=by rw[cI];exact((aD.alloc aA _).alloc aj _).alloc bq _
 rw[<-cI];clear cI;refine(wpIn_wide (n:=n)).1 ?_;refine wpIn_rangeFunc_ownH (F:=Fence.wide) rfl h1 (gf:=216) (lb:=#[Pz (U w.heap+2)]) rfl iq (enters_of func216 aU rfl)
  (α:=Ex w) (encs:=ba0) (Kp:=qW (U w.heap) (U w.heap+2)) (S:=λys=>∃m x,ys=m++[x]/\x.1.z=0) (Sp:=λm=>keys m <+: yl (len+1) l) (N:=len+2) (w0:=W0) ?seq (λh k=>h.Z k) (qW.put af af) aD (λ_=>rfl)
  (λm W=>Inv w m W/\Bw w W/\U W0.heap<=U W.heap) (λc m W=>aE0 w c m W/\Bw w W)
  (OwnFrom.and (Inv.own w _) (OwnFrom.and (ownFrom_below aA af) (λ_ _ _ _ h hg _=>gv h hg.size)))
  (λc=>OwnFrom.and (aE0.own w c _) (ownFrom_below aA af))
  ⟨⟨[],_,[],⟨k0,f0,k1,f1,jT.nil _ _⟩,by simp[rr],aj,rfl,by simp[jU],aj⟩,MY,eG _⟩
  (λx a' W=>∃R,U W0.heap<=R/\Au W R (.U x.1.s) (.S x.1.q (J x.1.b) x.1.d)/\(∃v0,I W (Aw w 0)=Y v0/\v0.ownBlock≠Y R)/\a'={tmps:=#[.S p len cap,undef,aq,.I 0,Pz (U w.heap),Pz (U w.heap+1),Pz R,.I x.1.z,.S p len cap,.func (.func 216) #[] #[Pz (U w.heap+2)],xI x.1.s (.S x.1.q (J x.1.b) x.1.d),.I x.1.z,undef,undef,undef,undef,undef,undef,undef,undef,undef,undef,undef,undef,undef,undef,undef,undef,undef,undef,undef,undef,undef,undef,undef,undef,undef,undef,undef,undef,undef,undef,undef,undef,undef,undef,undef],defers:=[]})
  ?ax ?assign ?body ?done ?stop
 case seq=>(
 intro L iJ Jx W hW hJ hJx hY h0;refine(dL4 (n:=n-1) af (L:=L) (Bs:=U w.heap+2) (len:=len) (cap:=cap) (p:=p) (l:=l) (w:=w) hR hB el hlen ui nI hp iJ Jx (W:=W) hJ hY ((hW.cell (p:=(Ad (U w.heap+2) 0)) (by show U w.heap+2<_;omega)).Z k2) (MY.Z (hW.h af)) h0).h ?_;rintro e W'⟨he,h⟩;exact⟨he,h⟩)
 case ax=>(
 rintro x a' _ W W' row⟨R,oQ,hA,⟨v0,dz,FK⟩,ha⟩hg hr;exact⟨R,oQ,⟨cell_kept hA.1 hg (λr e=>(hr r e).2),cell_kept hA.2 hg (λr e=>(hr r e).2)⟩,⟨v0,cell_kept dz hg (λr e=>(hr r e).2),FK⟩,ha⟩)
 case assign=>(
 rintro L m x W K⟨hi,Z,hz⟩hK;gi_wp2;let⟨rs,v,vs,⟨M,_,_,_,ho⟩,_⟩:=id hi;exact hK _ _ ((KeepsOthers.alloc _ _).from _) ⟨(aR _ W).alloc (by have:=Z.size;omega) _,Hz (a:=(Ad (U w.heap+2) 0)) (Xb W _ _ (by show U w.heap+2<_;omega))⟩ ⟨hi.H (aD.alloc aA _),Z.alloc Z.size _,bq⟩ ⟨U W.heap,hz,by simp[Au],⟨v,al M (aD.alloc aA _),λe=>by have:=(ho.aj2 _ e).2;omega⟩,rfl⟩)
 case body=>(
 rintro L m⟨x,nH⟩a' W hL⟨r,hr⟩⟨⟨rs,v,vs,⟨M,c1,c2,c3,ho⟩,Ix,Uz,hrl,xR,xm⟩,Z,hz⟩⟨R,oQ,hA,eh2,rfl⟩jE;obtain⟨pv,cv,rfl⟩:=ho.form;obtain⟨v0,d0,U7⟩:=eh2;rw[M]at d0;obtain rfl:.S pv (J rs) cv=v0:=by simpa using d0
 clear d0;let⟨K,eK⟩:=aY (J rs);rw[eK]at ho M hrl U7;dsimp only at*;have jG:∀(vs:iA)(w:G),(callFunc 126 vs).run dG w=.ok (.enter 126 vs) w:=λvs w=>aU;have hcg:∀(vs:iA)(w:G),(callFunc 186 vs).run dG w=.ok (.enter 186 vs) w:=λvs w=>aU;by_cases hx:x.z=0;{
 have yY:((x.z:Int)==0):=by simp[hx]
 gi_wp2;refine⟨KeepsFrom.refl _ _,⟨rfl,rs,_,vs,⟨M,c1,c2,c3,ho⟩,λX=>?_⟩,Z⟩;have:=Ix (dN::X);simp only[pK,kI,DG,uD,DI,DE];rw[show key x=dN by simp[key,hx],this];simp[qg]};{
 have yY:((x.z:Int)==0)=dF:=by simp[hx]
 have UG:key x=Y (x.s,x.b):=by simp[key,hx]
 obtain⟨Uq,XV,hxB,xs0,xs1,hRx⟩:x.z=J x.b+14/\J x.b<=1000/\aC x.b/\0<=x.s/\x.s<2^64/\Rd w (.S x.q (J x.b) x.d) x.b:=by obtain h|h:=nH;{exact absurd h hx};{exact h}
 gi_wp2_with fail
 have HX:=du Uq hxB UG;have HF:=mX Ix Uz hrl xR xm;have eKh:=ag eK;have hKn:K<=1048578:=af;have fp7:(jU rs:Int)<=1100000000:=af;have fp1:(x.z:Int)<=1014:=af;clear Ix Uz hrl xR xm Uq hxB UG;let⟨vv,evv⟩:=aY (Value.slice pv K cv);have En:=M;have HO:=ag ho;have HV:O (I W (Aw w 0)=vv/\jT (U w.heap+3) W vv rs vs/\vv.ownBlock≠Y R):=by rw[<-evv];exact⟨M,ho,U7⟩
 clear evv ho U7 M;by_cases QH:K=0;rotate_left;have UI:K-1<J rs:=af;obtain⟨⟨t,bt⟩,vQ⟩:∃r,rs[K-1]?=Y r:=⟨_,bD UI⟩;have HL:O (rr rs=t):=by show _=_;unfold rr;rw[am8,eK,vQ];rfl
 let⟨t0,t1⟩:=HF.2.2.2.2 _ (bu vQ) |>.2;obtain⟨u,hu⟩:∃u,vs[K-1]?=Y u:=⟨_,bD (by rw[HO.len];exact UI)⟩;obtain⟨_,h0⟩|⟨g,Lc,cur,ev,vT,Iw,_,_,_,_⟩:=id HO.row.2;{omega};simp only[rj]at ev;obtain⟨rfl,-,rfl⟩:=ev;have Tt:=HO.row;rw[eK]at Tt;have d0:=(Tt.cellAt (2*(K-1)) af).Z (aj7 rs vs (K-1) _ u vQ hu).1;rw[Xt]at d0;dsimp only at d0;let⟨K1,Ri⟩:=aY (K-1);rw[Ri]at d0;have tz:(K:Int)-1=(K1:Int):=af;have rU:=qV 0 K;have D8:=bM K1 K;have Cy:0<K:=af;have Gn:K1<=1048578:=af;have MR:(K1:Int)<=1048578:=af;have MQ:=il K1;refine bI9 (λw'=>I w' (Aw w 0)=dK g K cv/\Au w' R (.U x.s) (.S x.q (J x.b) x.d)/\I w' (Ad g (K1*2))=dU t) aU aU (by rintro⟨_,_,h⟩;exact h) (aF En (aF hA d0)) (λhS=>?_);refine fO 0 1 hS ?_;refine tk 2 hS (v:=.bool dY) (h:=?_);simp only[Act.put,xa,xb,xc];refine iR 3 4 5 6 7 8 9 10 hS ?_;refine fO 11 12 hS ?_;refine ry [13] ?_;refine cn (λKK hK=>?_) ?_;rotate_left;exact fg;rotate_left;refine df1 aS (f:=186) aS (v1:=.U x.s) (v2:=.U t) aS aS (λ_=>hcg _ _) (cv7 (s:=x.s) (t:=t) xs0 xs1 t0 t1) ?_;rintro e w7⟨rfl,rfl⟩;refine⟨_,rfl,?_⟩;refine bL hK hS λhS=>?_;generalize MI:sw t x.s=bk;refine fO 14 15 hS ?_;refine tn 16 hS ?_;refine cI5 ?_;cases bk;{gi_wp2;obtain⟨M,ho,-⟩:=ae HV;refine⟨(KeepsOthers.drew _).from _,⟨rfl,rs,_,vs,⟨M,c1,c2,c3,ho.H aD.drew⟩,λX=>?_⟩,Z.drew⟩;obtain⟨Ix,-⟩:=ae HF;obtain⟨-,-,UG⟩:=ae HX;have h2:=Ix (Y (x.s,x.b)::X);simp only[pK,kI,DG,uD,DI,DE];rw[UG,h2,ae HL];simp[qg,MI]};have kH:O (sw (rr rs) x.s):=by show _=_;rw[ae HL];exact MI
 rotate_left;have kH:O (sw (rr rs) x.s):=by show _=_;rw[Fp (eK.Z QH)];rfl
 refine bI9 (λw'=>I w' (Aw w 0)=dS pv K cv) aU aU (by rintro⟨_,_,h⟩;exact h) En (λhS=>?_);refine fO 0 1 hS ?_;refine tk 2 hS (v:=.bool dF) (h:=?_);simp only[Act.put,xa,xb,xc];refine tn 3 hS ?_;refine kr 4 5 6 7 hS ?_;refine kr 8 9 10 11 hS ?_;refine sn 12 hS ?_;refine sn 13 hS ?_;refine sn 14 hS ?_;refine fO 15 16 hS ?_;refine cI5 ?_
 all_goals
  clear hS En HO QH;let⟨M,ho,U7⟩:=ae HV;clear HV
  gi_wp2_with fail
  replace M:I W.drew (Aw w 0)=Y _:=M;replace c1:W.drew.frozen? (Aw w 0)=dF:=c1;replace c2:I W.drew (Ax w 0)=Y _:=c2;replace c3:W.drew.frozen? (Ax w 0)=dF:=c3;replace ho:=ho.H (aR (U W.heap) W).drew;replace hA:Au W.drew R (.U x.s) (.S x.q (J x.b) x.d):=hA;replace Z:Bw w W.drew:=Z.drew;have KV:KeepsOthers W W.drew:=KeepsOthers.drew W;have BV:Bw W W.drew:=aD.drew;have hzV:U W0.heap<=U W.drew.heap:=hz;generalize W.drew=V at*;have B5:Bw V (V.drew.alloc (dO #[.S x.q (J x.b) x.d] 22)):=((aR (U V.heap) V).drew).alloc aA _;refine cX2 (x:=10) (S:=λw'=>I w' (Aw w 0)=vv/\Au w' R (.U x.s) (.S x.q (J x.b) x.d)) (by rintro⟨_,_,h⟩;exact h) ⟨M,hA⟩ (λhS=>?_);refine tED 0 1 2 3 hS ?_;refine tEn 4 hS ?_;refine BK 5 (λKK hK=>?_);go_simp;refine Hr hK ⟨al M B5,hA.H B5⟩ λhS=>?_;clear hK KK;refine BK 6 (λKK hK=>?_);refine Hj aS (f:=126) aS (v1:=.T (U V.heap) 1 1) aS (λ_=>jG _ _) (DQ (g:=U V.heap) (vs:=[.S x.q (J x.b) x.d]) [x.b] (lm:=x.b) (n:=J x.b) 1 rfl (by show _=_;rw[aA9]) rfl (bV8 aj (hRx.H (Xc Z (B5.h af)))) af af) ?_;rintro e w6⟨p6,c6,rfl,o6,gr⟩;refine⟨_,rfl,?_⟩;have B6:=ai B5 gr;have z6:=B6.size;have z6':=gr.size;have eb9:∀u'∈vs,SJ u' (.S p6 (J x.b) c6):=λu' PM b e1 e2=>by have h1:=ho.lt u' PM b e1;have h2:=(Own.lt o6 b e2).1;simp at h2;omega
  refine Hr hK ⟨al M B6,hA.H B6⟩ λhS=>?_;clear hK KK;refine tEo 7 hS ?_;refine BK 8 (λKK hK=>?_);go_simp;have B8:Bw V (w6.alloc (dO #[.U x.s,.S p6 (J x.b) c6] 90)):=B6.alloc af _;refine Hr hK ⟨al M B8,hA.H B8⟩ λhS=>?_;clear hK KK;refine BK 9 (λKK hK=>?_);refine df4 aS aS (B:=U w.heap+3) (v:=vv) (rs:=rs) (vs:=vs) (n:=K) eKh (g:=U w6.heap) aS aS (ho.H B8) (r:=(x.s,x.b)) (u:=.S p6 (J x.b) c6) aj aj (Own.h (Own.H o6 (aD.alloc aA _)) bq) eb9 af bq ?_;intro p9 c9 w9 QD pM;have Be:Below (U w.heap+3) V w9:=(B8.h af).grown pM (by have:=B8.size;omega) (λb e=>(ho.aj2 b e).1);have q0:=(Be.cell (p:=(Aw w 0)) (by show U w.heap<_;omega)).Z M;have q1:∀o,w9.frozen? (Aw w o)=V.frozen? (Aw w o):=λo=>Be.frozen (p:=(Aw w o)) (by show U w.heap<_;omega);refine Hr hK ⟨q0,pM.cell hS.2.1 (λe=>U7 e.C),pM.cell hS.2.2 (λe=>U7 e.C)⟩ λhS=>?_;clear hK KK;refine BK 10 (λKK hK=>?_);go_simp;refine oGX hK ?_;clear hK KK hS;refine aH7 ?_;have q2:=(Be.cell (p:=(Ax w 0)) (by show U w.heap+1<_;omega)).Z c2;have q3:=(Be.frozen (p:=(Ax w 0)) (by show U w.heap+1<_;omega)).Z c3;have KO9:=ag ((KeepsOthers.tT B8).Z (KeepsOthers.of_grownBy pM (ho.H B8).dn2));gi_wp2;exact eJ7 (w:=w) (W:=W) (V:=V) (w9:=w9) (W0s:=U W0.heap) (x:=x) nH (pre:=m) (rs:=rs) (vs:=vs) (p9:=p9) (c9:=c9) (K:=K) z0 hz KV BV Z M c1 c2 c3 ho Be KO9 QD eKh HX HF kH XV xs0 xs1})
 case done=>(
 rintro D ys W hD⟨m,x,rfl,hx⟩⟨⟨rs,v,vs,_,_,Uz,_⟩,_⟩hK;exact absurd hx (Uz x aj))
 case stop=>(
 rintro D c ys W hD hSp⟨⟨rfl,rs,v,vs,⟨M,c1,c2,c3,ho⟩,Ix⟩,Z⟩hK;obtain⟨X,ci8⟩:=hSp;have erl:rl l=rs:=by unfold rl;rw[el,<-ci8];exact Ix X
 obtain⟨pv,cv,rfl⟩:=ho.form;refine wpIn_wide.2 ?_;clear Ix ci8;go_wp2_with fail;have k0:=aF M c2
 go_region_held3 (λw'=>I w' (Aw w 0)=dS pv (J rs) cv/\I w' (Ax w 0)=dI (jU rs:Nat)) (exact k0) (fail)
 go_wp2
 try rw[Exit.noGoto_ret]
 refine⟨aj,.L ⟨_,_,rfl,run_takeDeferred (w:=W.drew) hK,?_⟩⟩;have hKd:W.drew.heap[D]?=Y (.deferred (Y [])):=hK;refine⟨dT #[.S pv (J rs) cv,.I (jU rs:Nat)],by simp[results,results121,go_sem],?_⟩;rw[erl];refine⟨pv,cv,vs,rfl,((ho.H aD.drew).Mp (grownBy_putObj' W.drew D (.deferred dN)) (λr e=>by cases e;exact⟨_,hKd,rfl⟩)).h af,?_⟩;exact Z.drew.Z (belowK_b (w:=w) aA W.drew D _ _ af hKd rfl rfl))
def cg4(r:Rd w (.S p len cap) l)(s:aC l)(el:J l=len)(i:len<=1048576)(j:len<=cap)(m:cap<=maxLen)(q:(p=dN/\cap=0)\/∃b o,p=(Ad b o)):Cp 121 #[.S p len cap] w (aD3 w (rl l)):=
 H6.1 (dM6 (n:=3) af r s el i j m q)
end Go.Proofs.YtdloolggnjjfoaaGreatDoor
