import Derived.Test.YthlkmijffhhimaaGreatDoorK4
import Derived.Lib.SlBytesConst
import Derived.Shelf.Abstract
import Derived.Shelf.RegionOpen
import Derived.OrdersHeld
import Derived.Scope
import Derived.WalkMore
import Derived.LaidEql
import Derived.Stop.Asserts
import Derived.RowKitTokens
import Derived.Test.YthlkmijffhhimaaGreatDoorRows
import Derived.ShutString
import Derived.ChangeOld
import Derived.HandedShaped
import Derived.Shelf.Vars
import Derived.LaidMore
import Derived.Lay
import Derived.Stop.Joined
import Derived.OpenVars
open Array renaming setIfInBounds->jI,size->U
open Bool renaming false->dF,true->dY
open Decidable renaming decide->dD
open Go renaming undef->jQ,Calls->dQ,Value->dV,World->G
open Go.Ending renaming returned->dR
open Go.IntKind renaming u64->jU,i64->jV,wrap->jY
open Go.Obj renaming cells->dO
open Go.Proofs.Tryz renaming prog->dG
open Go.Region renaming wanted->jW
open Go.RowKit renaming Hid->O
open Go.Value renaming ownBlock->jB,slice->jC,int->jK,bool->jO,agg->jP,I->dI,T->dK,pointer->dP,S->dS,tuple->dT,U->dU
open Go.World renaming alloc->jA,frozen?->jF,grownBy->jG,heap->Q,setCell->jS,cell?->I
open Int renaming toNat->jN
open List renaming drop->jD,getD->jE,flatten->jL,range->jR,take->jT,length->J
open Option renaming none->dN,some->Y
namespace Go.Proofs.YthlkmijffhhimaaGreatDoor
set_option maxHeartbeats 6400000
set_option linter.all false
set_option maxRecDepth 100000
open Go.ChangeShapes Go.WideShapes Go.ChangeAt Go.RowKit Go.Deep Go.Proofs.Tryz
variable {w w':G}{n cap c B n0 c0 n1 c1 n2 c2 b d B' j g len o W0s N base fuel sz:Nat}{cs vs Qs:List dV}{p p0 p1 p2 q p9:OA}{s s0 s1 s2 k f z:Int}{l l0 l1 l2 m m':LI}{v0 v1 v2 v3 v u:dV}{a:Addr}{A A2:List Lf}{Ls:List (List Lf)}{xs es:List Ev}{K:Act->G->Prop}{P:Program}{md:Region.Mode}{ops:iQ}{x x1 x2:Operand}{E:Prop}{R:Ending->G->Prop}{ud:Array TypeId}{rest:List Oper}{row:Option Nat}{S:iP}{om vh:Option LI}{sh sh':Bool}{ss:List aB}{ns:List au}{C:Checked}{X:G->Array dV->Prop}{os:Os}{fn:Func}{conds:List PathCond}{t:TypeId}{spare:Nat->Bool}{f0 f1 f2 f3 f4 f5 f6:Field}
theorem Rd.dG6{H:Type}{enc:TypeId×dV->H}{x:DataW H×List MemPlace}(h:DataW.trod enc dG w 0 (λ_=>dY) dY n 22 cs=x):∃(p:OA)(l:LI)(c:Nat),cs=[.S p (J l) c]/\Rd w (.S p (J l) c) l/\J l<=maxLen/\(∀z∈l,(Lit.int .u8 z).wf):=by
 obtain⟨rfl,_⟩|⟨a,len,m,zs,rfl,_,D,hm,y,_,r,q⟩:=open_ints underlying22 underlying5 aS h;{exact⟨dN,[],0,rfl,Rd.nil w,al,al⟩};{
 simp only[qR]at y;have e:J (jT len zs)=len:=by simp;omega
 refine⟨Y a,jT len zs,m,by rw[e],?_,af,λz h=>q z (Rz h)⟩;refine⟨Y a,m,rfl,?_⟩;by_cases B:len=0;{left;subst B;simp};{right;obtain⟨b,o,j⟩:=a;cases(by simpa[Addr.add]using World.cell?_spot (r 0 af):j=dN);refine⟨b,o,rfl,λi s=>?_⟩;rw[e]at s;have:=r i af;simp only[Ia]at this;rw[this];simp[List.getD,s]}}
theorem Rd.Vt{H:Type}{enc:TypeId×dV->H}{x:DataW H×List MemPlace}(h:DataW.trod enc dG w 0 (λ_=>dY) dY n 22 cs=x):∃(p:OA)(l:LI)(c:Nat),cs=[.S p (J l) c]/\Rd w (.S p (J l) c) l/\J l<=maxLen/\J l<=c/\(∀z∈l,0<=z/\z<256):=by
 let⟨p,l,c,e,m,hm,j⟩:=Rd.dG6 h;refine⟨p,l,c,e,m,hm,?_,λz i=>?_⟩;{obtain⟨rfl,_⟩|⟨a,len,o,zs,rfl,_,q,_⟩:=open_ints underlying22 underlying5 aS h;{simp at e;omega};{simp at e;omega}};{have:=j z i;simp[Lit.wf,IntKind.min,IntKind.max,IntKind.signed,IntKind.bits]at this;omega}
abbrev vw(v:dV)(n:Int):dV:=jP #[v,.I n]
abbrev pR(v0:dV)(n0:Int)(v1:dV)(n1:Int)(v2:dV)(n2:Int):dV:=jP #[v0,.I n0,v1,.I n1,v2,.I n2]
theorem fp2{left:Int}(i:n<=maxLen)(m:0<=left)(j:left<=2^20):dQ dG 45 #[vw (.S p n cap) s,.I left] w (Rb (.I (D7 n left)) w):=by
 have hc:-1<=D7 n left/\D7 n left<=2^20:=by unfold D7;split<;>omega
 by_cases h:D7 n left<0;{
 have e:D7 n left=-1:=by unfold D7 at h⊢;split<;>simp_all<;>omega
 go_in
 go_wp21
 refine(aQ5 i m j).h ?_;rintro e o⟨rfl,rfl⟩;go_wp2;go_ret;exact⟨by rw[e];rfl,cY⟩};{
 go_in
 go_wp21
 refine(aQ5 i m j).h ?_;rintro e o⟨rfl,rfl⟩;exact aV}
theorem aO7{n:Int}(h:Rd w (.S p (J l) c) l)(q:Mg (J l)):dQ dG 60 #[vw (.S p (J l) c) n] w λe w'=>∃i j,e=dR (vw (.S i (J l) j) n)/\Own (U (Q w)) w' (.S i (J l) j) l/\Bw w w':=by
 go_in
 go_wp21
 refine(aO8 ((λ(w':G)(r:Bw w w')=>h.H r) _ (by exact(cY.alloc al _).alloc bL _)) q).h ?_;rintro e u⟨i,j,rfl,o,m⟩;let⟨s,x⟩:=Ku m;go_wp2;refine cX (v:=vw (.S i (J l) j) n) (by simp[results,results60,go_sem,s]) rfl ⟨i,j,rfl,Own.h (B:=U (Q w)+3) ?_ af,?_⟩;{
 repeat(refine rW ?_ al _)
 exact(by simpa using o)};{
 repeat(refine tp ?_ (by simp<;>omega) _)
 exact(((cY.alloc al _).alloc bL _)).Z (m.h bL)}
structure nS(B:Nat)(w:G)(v0 v1 v2:dV)(l0 l1 l2:LI):Prop where
 o0:Own B w v0 l0
 o1:Own B w v1 l1
 o2:Own B w v2 l2
 Rc:∀b,jB v0=Y b->jB v1≠Y b
 Ra:∀b,jB v0=Y b->jB v2≠Y b
 n12:∀b,jB v1=Y b->jB v2≠Y b
theorem nS.mk'{B1 B2:Nat}{w1 o:G}(r:Own B w1 v0 l0)(x:Own B1 o v1 l1)(s:Own B w v0 l0)(q:Own B1 w v1 l1)(m:Own B2 w v2 l2)(D:U (Q w1)<=B1)(y:U (Q o)<=B2)(u:B<=B1)(E:B1<=B2):nS B w v0 v1 v2 l0 l1 l2:=
 ⟨s,q.h u,m.h af,λb j i=>by have:=r.lt b j;have:=q.lt b i;omega,λb j i=>by have:=r.lt b j;have:=m.lt b i;omega,λb j i=>by have:=x.lt b j;have:=m.lt b i;omega⟩
theorem dl0(p0 p1 Z:OA)(c0 c1 c2:Nat)(n0 n1 n2:Int)(l0 l1 i:LI)(w:G)(h0:Rd w (.S p0 (J l0) c0) l0)(h1:Rd w (.S p1 (J l1) c1) l1)(h2:Rd w (.S Z (J i) c2) i)(hl:J l0+J l1+J i<=2^20):dQ dG 24 #[pR (.S p0 (J l0) c0) n0 (.S p1 (J l1) c1) n1 (.S Z (J i) c2) n2] w λe w'=>
   ∃r x q u o s,e=dR (pR (.S r (J l0) x) n0 (.S q (J l1) u) n1 (.S o (J i) s) n2)∧
    nS (U (Q w)) w' (.S r (J l0) x) (.S q (J l1) u) (.S o (J i) s) l0 l1 i/\Bw w w':=by
 go_in
 go_wp21
 refine(aO7 ((λ(w':G)(y:Bw w w')=>h0.H y) _ (by exact(cY.alloc al _).alloc bL _)) af).h ?_;rintro e j⟨r,x,rfl,E,X⟩;let⟨gm,uR⟩:=Ku X;have z1:U (Q w)+1+1<U (Q j):=by have:=X.size;simp at this;omega
 let⟨Lb,V⟩:U (Q w)<U (Q j)/\U (Q w)+1<U (Q j):=af;have b1:Bw w j:=(((cY.alloc al _).alloc bL _)).Z (X.h bL);replace E:Own (U (Q w)+3) j (.S r (J l0) x) l0:=by simpa using E
 go_wp21
 refine(aO7 ((λ(w':G)(y:Bw w w')=>h1.H y) _ ((b1.setCell bL _).setCell bL _)) af).h ?_;rintro e m⟨q,u,rfl,D,N⟩;let⟨im,Dx⟩:=Ku N;have z2:U (Q j)<=U (Q m):=by have:=N.size;simp at this;omega
 have b2:Bw w m:=((b1.setCell bL _).setCell bL _).Z (N.h bL);replace D:Ow j m (.S q (J l1) u) l1:=by simpa using D
 go_wp21
 refine(aO7 ((λ(w':G)(y:Bw w w')=>h2.H y) _ ((b2.setCell bL _).setCell bL _)) af).h ?_;rintro e w3⟨o,s,rfl,R,M⟩;let⟨vu,sj⟩:=Ku M;let⟨Ya,W⟩:U (Q w)+1+1<U (Q m)/\U (Q w)+1<U (Q m):=af;replace R:Ow m w3 (.S o (J i) s) i:=by simpa using R
 go_wp2;refine cX (v:=pR (.S r (J l0) x) n0 (.S q (J l1) u) n1 (.S o (J i) s) n2) (by simp[results,results24,go_sem,gm,im,vu,V,W]) rfl ⟨r,x,q,u,o,s,rfl,?_,?_⟩;{
 refine nS.mk' (B:=U (Q w)) (B1:=U (Q j)) (B2:=U (Q m)) (E.h af) D (Own.h (B:=U (Q w)+3) ?_ af) ?_ ?_ aU aU af af;{
 repeat(refine rW ?_ al _)
 exact Own.H (((Own.H ((E.set al _).set al _) N).set al _).set al _) M};{
 repeat(refine rW ?_ bL _)
 exact Own.H ((D.set bL _).set bL _) M};{
 repeat(refine rW ?_ bL _)
 exact R}};{
 repeat(refine tp ?_ (by simp<;>omega) _)
 exact((b2.setCell bL _).setCell bL _).Z (M.h bL)}
def og(n:Nat)(s:Int):Bool:=dD (n<=200000)&&dD (0<=s)&&dD (s<=n)
theorem cE1(a:n<=200000)(b:0<=s)(c:s<=n):og n s:=by simp[og,a,b,c]
theorem WR(a:¬(n<=200000/\0<=s/\s<=n)):og n s=dF:=by
 unfold og;rw[Rg,Rg];simp only[LH];omega
theorem aC9(h:og n s):n<=200000/\0<=s/\s<=n:=by
 simp[og]at h;omega
theorem VY(i:n<=2^21):dQ dG 88 #[vw (.S p n c) s] w (Rb (jO (og n s)) w):=by
 by_cases a:n<=200000;{by_cases b:0<=s;{by_cases c:s<=n;{rw[cE1 a b c];go_in;exact aV};{rw[WR af];go_in;exact aV}};{rw[WR af];go_in;exact aV}};{rw[WR af];go_in;exact aV}
def sF(n0:Nat)(s0:Int)(n1:Nat)(s1:Int)(n2:Nat)(s2:Int):Bool:=og n0 s0&&og n1 s1&&og n2 s2
theorem bT9(r:n0<=2^21)(y:n1<=2^21)(E:n2<=2^21):dQ dG 48 #[pR (.S p0 n0 c0) s0 (.S p1 n1 c1) s1 (.S p2 n2 c2) s2] w (Rb (jO (sF n0 s0 n1 s1 n2 s2)) w):=by
 cases e0:og n0 s0;{
 rw[show sF n0 s0 n1 s1 n2 s2=dF by simp[sF,e0]];have m:O (og n0 s0=dF):=e0;go_in
 go_wp21
 refine cL (VY r) λo j=>?_;rw[m.out];have W:Bw w o:=cY.Z (j.h al);exact aV};{
 have m:O (og n0 s0):=e0;cases e1:og n1 s1;{
 rw[show sF n0 s0 n1 s1 n2 s2=dF by simp[sF,e1]];have u:O (og n1 s1=dF):=e1;go_in
 go_wp21
 refine cL (VY r) λo j=>?_;rw[m.out];let⟨M,D⟩:=Ku j
 go_wp21
 refine cL (VY y) λx i=>?_;rw[u.out];replace i:=aj j i;have V:Bw w x:=cY.Z (i.h al);exact aV};{
 rw[show sF n0 s0 n1 s1 n2 s2=og n2 s2 by simp[sF,e0,e1]];have u:O (og n1 s1):=e1;go_in
 go_wp21
 refine cL (VY r) λo j=>?_;rw[m.out];let⟨M,D⟩:=Ku j
 go_wp21
 refine cL (VY y) λx i=>?_;rw[u.out];replace i:=aj j i;let⟨N,X⟩:=Ku i
 go_wp21
 refine cL (VY E) λB s=>?_;replace s:=aj i s;have R:Bw w B:=cY.Z (s.h al);exact aV}}
theorem bu3(m j i:OA)(r:Nat)(q:Nat)(o:Nat)(x:v0=.S m n0 r)(u:v1=.S j n1 q)(s:v2=.S i n2 o):dQ dG 72 #[pR v0 s0 v1 s1 v2 s2] w (Rb (pR v0 s0 v1 s1 v2 s2) w):=by
 subst x u s;go_in;go_wp2;refine cX (v:=pR (.S m n0 r) s0 (.S j n1 q) s1 (.S i n2 o) s2) (by simp[results,results72,go_sem]) rfl ⟨rfl,?_⟩
 repeat(refine tp ?_ al _)
 exact cY.alloc al _
theorem WS(i:n<=2^21):dQ dG 178 #[vw (.S p n c) s] w (Rb (jO (og n s)) w):=by
 by_cases a:n<=200000;{by_cases b:0<=s;{by_cases c:s<=n;{rw[cE1 a b c];go_in;exact aV};{rw[WR af];go_in;exact aV}};{rw[WR af];go_in;exact aV}};{rw[WR af];go_in;exact aV}
theorem eJ1(h:og n0 s0=dF):sF n0 s0 n1 s1 n2 s2=dF:=by simp[sF,h]
theorem eI9(h:og n1 s1=dF):sF n0 s0 n1 s1 n2 s2=dF:=by simp[sF,h]
theorem eI8(h:og n2 s2=dF):sF n0 s0 n1 s1 n2 s2=dF:=by simp[sF,h]
theorem eI7(a:og n0 s0)(b:og n1 s1)(c:og n2 s2):sF n0 s0 n1 s1 n2 s2:=by simp[sF,a,b,c]
theorem cF4(D:n0<=2^21)(B:n1<=2^21)(y:n2<=2^21):dQ dG 118 #[pR (.S p0 n0 c0) s0 (.S p1 n1 c1) s1 (.S p2 n2 c2) s2] w (Rb (jO (sF n0 s0 n1 s1 n2 s2)) w):=by
 have W:∀w:G,(Instr.index 114 (pR (.S p0 n0 c0) s0 (.S p1 n1 c1) s1 (.S p2 n2 c2) s2) (.I 0)).run dG w=.ok (vw (.S p0 n0 c0) s0) w:=λ_=>aS;have V:∀w:G,(Instr.index 114 (pR (.S p0 n0 c0) s0 (.S p1 n1 c1) s1 (.S p2 n2 c2) s2) (.I 1)).run dG w=.ok (vw (.S p1 n1 c1) s1) w:=λ_=>aS;have R:∀w:G,(Instr.index 114 (pR (.S p0 n0 c0) s0 (.S p1 n1 c1) s1 (.S p2 n2 c2) s2) (.I 2)).run dG w=.ok (vw (.S p2 n2 c2) s2) w:=λ_=>aS;go_in;go_wp2
 go_loopw[6](λi wr=>Bw w wr/\(i=.I 0\/(i=.I 1/\og n0 s0)\/(i=.I 2/\og n0 s0/\og n1 s1)\/(i=.I 3/\og n0 s0/\og n1 s1/\og n2 s2))) (pT 3)
 exact⟨cY,.L rfl⟩;{
 obtain⟨j,rfl|⟨rfl,q⟩|⟨rfl,q,u⟩|⟨rfl,q,u,M⟩⟩:=hrel;{
 skip
 cases e0:og n0 s0;{
 let⟨E,s⟩:=aQ (eJ1 (n0:=n0) (n1:=n1) (n2:=n2) (s0:=s0) (s1:=s1) (s2:=s2) e0) e0
 go_wp21
 refine cL (WS D) λo m=>?_;rw[ae s];have r:Bw w o:=(j.alloc j.size _).Z (m.h (by have:=j.size;simp;omega));go_wp2;go_ret;exact⟨by rw[ae E];rfl,r⟩};{
 have s:=ai e0
 go_wp21
 refine cL (WS D) λo m=>?_;rw[ae s];have r:Bw w o:=(j.alloc j.size _).Z (m.h (by have:=j.size;simp;omega));go_wp2;go_roundw;exact⟨r,.R (.L ⟨rfl,by trivial⟩)⟩
 case measure=>simp[intOf]}}
 {
 have x:=ai q;clear q;cases e1:og n1 s1;{
 let⟨E,s⟩:=aQ (eI9 (n0:=n0) (n1:=n1) (n2:=n2) (s0:=s0) (s1:=s1) (s2:=s2) e1) e1
 go_wp21
 refine cL (WS B) λo m=>?_;rw[ae s];have r:Bw w o:=(j.alloc j.size _).Z (m.h (by have:=j.size;simp;omega));go_wp2;go_ret;exact⟨by rw[ae E];rfl,r⟩};{
 go_wp21
 refine cL (WS B) λo m=>?_;rw[e1];go_wp2;go_roundw;exact⟨(j.alloc j.size _).Z (m.h (by have:=j.size;simp;omega)),.R (.R (.L ⟨rfl,x,by trivial⟩))⟩
 case measure=>simp[intOf]}}
 {
 have x:=ai q;have N:=ai u;clear q u;cases e2:og n2 s2;{
 go_wp21
 refine cL (WS y) λo m=>?_;rw[e2];go_wp2;go_ret;exact⟨by rw[(eI8 (n0:=n0) (n1:=n1) (n2:=n2) (s0:=s0) (s1:=s1) (s2:=s2) e2)];rfl,(j.alloc j.size _).Z (m.h (by have:=j.size;simp;omega))⟩};{
 go_wp21
 refine cL (WS y) λo m=>?_;rw[e2];go_wp2;go_roundw;exact⟨(j.alloc j.size _).Z (m.h (by have:=j.size;simp;omega)),.R (.R (.R ⟨rfl,x,N,by trivial⟩))⟩
 case measure=>simp[intOf]}}
 {go_wp2;go_ret;exact⟨by rw[eI7 q u M];rfl,j⟩}}
theorem co3(m:n0<=2^21)(j:n1<=2^21)(i:n2<=2^21):dQ dG 63 #[pR (.S p0 n0 c0) s0 (.S p1 n1 c1) s1 (.S p2 n2 c2) s2] w (Rb (jO (sF n0 s0 n1 s1 n2 s2)) w):=by
 go_in
 go_wp21
 refine cL (bu3 p0 p1 p2 (n0:=n0) c0 (n1:=n1) c1 (n2:=n2) c2 rfl rfl rfl) λu o=>?_
 go_wp21
 refine cL (cF4 m j i) λs r=>?_;have x:=aj (cY.Z (o.h al)) r;exact aV
theorem nS.H(h:nS B w v0 v1 v2 l0 l1 l2)(i:Bw w w'):nS B w' v0 v1 v2 l0 l1 l2:=
 ⟨Own.H h.o0 i,Own.H h.o1 i,Own.H h.o2 i,h.Rc,h.Ra,h.n12⟩
theorem aY3(h:Own B w (.S p (J l) c) l)(r:Mg (J l))(i:0<=k)(k1:k<=10^8):dQ dG 80 #[vw (.S p (J l) c) s,.I k] w λe w'=>e=dR (.I (k+J l))/\Own B w' (.S p (J l) c) (marks k (J l))/\Kept [.S p (J l) c] w w':=by
 go_in
 go_wp21
 refine(dL6 ((λ(w':G)(o:Bw w w')=>Own.H h o) _ (by exact cY)) af i k1).h ?_;rintro e q⟨rfl,j,m⟩;go_wp2;go_ret;exact⟨rfl,j,(Kept.tj cY).Z (Kept.aW8 m al)⟩
theorem bn2(h:Rd w (.S p n c) (marks k n))(u:Mg n)(m:0<=k)(k1:k<=10^8):dQ dG 83 #[vw (.S p n c) s,.I k] w (Rb (.I (k+n)) w):=by
 go_in
 go_wp21
 refine cL (eh2 ((λ(j:G)(o:Bw w j)=>Rd.H h o) _ (by exact cY)) af m k1) λi r=>?_;have x:Bw w i:=cY.Z (r.h al);exact aV
abbrev qz(w:G)(b:Nat)(v0 v1 v2 v3 v4 v5:dV):Prop:=
 I w (Ad b 0)=v0/\I w (Ad b 1)=v1/\I w (Ad b 2)=v2/\I w (Ad b 3)=v3/\I w (Ad b 4)=v4/\I w (Ad b 5)=v5
theorem qz.H{v4 v5:dV}(h:qz w b v0 v1 v2 v3 v4 v5)(i:Bw w w'):qz w' b v0 v1 v2 v3 v4 v5:=
 ⟨aq h.1 i,aq h.2.1 i,aq h.2.2.1 i,aq h.2.2.2.1 i,aq h.2.2.2.2.1 i,aq h.2.2.2.2.2 i⟩
theorem dL5(B:Nat)(x r q:OA)(E D y:Nat)(s0 s1 s2:Int)(l0 l1 j:LI)(k:Int)(w:G)(h:nS B w (.S x (J l0) E) (.S r (J l1) D) (.S q (J j) y) l0 l1 j)(m0:Mg (J l0))(m1:Mg (J l1))(m2:Mg (J j))(k0:0<=k)(k1:k<=90000000):dQ dG 35 #[pR (.S x (J l0) E) s0 (.S r (J l1) D) s1 (.S q (J j) y) s2,.I k] w λe w'=>e=dR (.I (k+J l0+J l1+J j))∧
   nS B w' (.S x (J l0) E) (.S r (J l1) D) (.S q (J j) y) (marks k (J l0)) (marks (k+J l0) (J l1)) (marks (k+J l0+J l1) (J j))∧
   Kept [.S x (J l0) E,.S r (J l1) D,.S q (J j) y] w w':=by
 have b0:∀o:Obj,Bw w (jA w o):=λo=>cY;have N:=h;go_in
 go_wp21
 have X:=(λ(w':G)(hb:Bw w w')=>nS.H h hb) _ (b0 (dO #[.S x (J l0) E,.I s0,.S r (J l1) D,.I s1,.S q (J j) y,.I s2] 40));refine(aY3 (B:=B) (p:=x) (c:=E) (l:=l0) (s:=s0) (k:=k) X.o0 m0 k0 af).h ?_;rintro e w1⟨rfl,o0,R⟩;have gm:=R.cellAt (b:=U (Q w)) al (by intro v M e;simp only[rC]at M;subst M;have:=h.o0.lt _ e;omega);have o2:=Own.L5 X.o2 R (by intro u i b e;simp only[rC]at i;subst i;intro m;exact N.Ra b m e)
 go_wp21
 refine(aY3 (B:=B) (p:=r) (c:=D) (l:=l1) (s:=s1) (Own.L5 X.o1 R (by intro u i b e;simp only[rC]at i;subst i;intro m;exact N.Rc b m e)) m1 af af).h ?_;rintro e w2⟨rfl,Lo,V⟩;have im:=V.cellAt (b:=U (Q w)) (by have:=R.size;simp at this;omega) (by intro v M e;simp only[rC]at M;subst M;have:=h.o1.lt _ e;omega);have W:=Own.L5 (l:=marks k (J l0)) o0 V (by intro u i b e;simp only[rC]at i;subst i;intro m;exact N.Rc b e m)
 go_wp21
 refine(aY3 (B:=B) (p:=q) (c:=y) (l:=j) (s:=s2) (Own.L5 o2 V (by intro u i b e;simp only[rC]at i;subst i;intro m;exact N.n12 b m e)) m2 af af).h ?_;rintro e w3⟨rfl,dH3,Z⟩;have hk:Kept [.S x (J l0) E,.S r (J l1) D,.S q (J j) y] w w3:=
  ((Kept.tj (b0 _)).Z (R.more al)).Z ((V.more al).Z (Z.more al))
 go_wp2;go_ret;exact⟨rfl,⟨Own.L5 (l:=marks k (J l0)) W Z (by intro u i b e;simp only[rC]at i;subst i;intro m;exact N.Ra b e m),Own.L5 (l:=marks (k+J l0) (J l1)) Lo Z (by intro u i b e;simp only[rC]at i;subst i;intro m;exact N.n12 b e m),dH3,N.Rc,N.Ra,N.n12⟩,hk⟩
theorem eh0(x u s:OA)(D B y n0 n1 n2:Nat)(s0 s1 s2:Int)(k:Int)(w:G)(Z:Rd w (.S x n0 D) (marks k n0))(X:Rd w (.S u n1 B) (marks (k+n0) n1))(W:Rd w (.S s n2 y) (marks (k+n0+n1) n2))(R:Mg n0)(N:Mg n1)(M:Mg n2)(V:0<=k)(k1:k<=90000000):dQ dG 40 #[pR (.S x n0 D) s0 (.S u n1 B) s1 (.S s n2 y) s2,.I k] w (Rb (.I (k+n0+n1+n2)) w):=by
 go_in
 go_wp21
 refine cL (bn2 ((λ(i:G)(j:Bw w i)=>Z.H j) _ (by exact cY)) R V af) λw1 o=>?_;let⟨gm,uR⟩:=Ku o
 go_wp21
 refine cL (bn2 ((λ(i:G)(j:Bw w i)=>X.H j) _ (cY.Z (o.h al))) N af af) λw2 m=>?_;replace m:=aj o m;let⟨im,Dx⟩:=Ku m
 go_wp21
 refine cL (bn2 ((λ(i:G)(j:Bw w i)=>W.H j) _ (cY.Z (m.h al))) M af af) λE r=>?_;replace r:=aj m r;have b3:Bw w E:=cY.Z (r.h al);exact aV
theorem bu5(p:OA)(c:Nat)(n:Int)(l:LI)(w:G)(h:Rd w (jC p (J l) c) l)(R:J l<=2^21):dQ dG 140 #[vw (jC p (J l) c) n] w λe w'=>∃m q,e=dR (vw (jC m (J l) q) n)/\Own (U (Q w)) w' (jC m (J l) q) l/\Below (U (Q w)) w w':=by
 go_in
 go_wp21
 let⟨W,i⟩:=aF (jA (jA w (dO #[jC p (J l) c,jK jV n] 38)) (dO #[jC dN 0 0,jK jV 0] 38));have u:Bw w W:=by rw[i];exact cY.alloc al _
 have s:I W (Aw w 0)=Y (jC p (J l) c):=by rw[i];simp
 have r:I W (Aw w 1)=Y (jK jV n):=by rw[i];simp
 have M:I W (Ax w 0)=Y (jC dN 0 0):=by rw[i];simp
 have E:I W (Ax w 1)=Y (jK jV 0):=by rw[i];simp
 have X:∀o,jF W (Ax w o)=dF:=by intro o;rw[i];simp
 have zW:U (Q w)+2=U (Q W):=by rw[i];simp
 rw[<-i];clear i;have x:∀o:Obj,Bw W (jA W o).drew:=λo=>cY.drew
 go_region_held3 (λw'=>I w' (Aw w 0)=Y (jC p (J l) c)/\I w' (Aw w 1)=Y (jK jV n)) (first|with_reducible exact⟨s,r⟩|with_reducible exact⟨V,S⟩|go_keep)
  (first|(go_at_call 195;refine(eN0 (p:=p) (c:=c) al ((h.H u).H (x _)) R).h ?_;rintro e w1⟨m,q,rfl,N,Z⟩;have j:=aj (x _) Z;have V:=aq s j;have S:=aq r j;have D:=aq M j;have y:=aq E j;have f1:=Co X j af))
 go_wp2;refine cX (v:=vw (jC m (J l) q) n) (by simp[results,results140,go_sem,D,y]) rfl ⟨m,q,rfl,Own.h (B:=U (Q W)) ?_ af,?_⟩;{
 repeat(refine rW ?_ bL _)
 exact Own.h N al};{
 repeat(refine tp ?_ al _)
 exact aj u j}
theorem ex4(p q:OA)(c d:Nat)(n:Int)(l m lm:LI)(E:O (lm=l++m))(w:G)(h:Rd w (jC p (J l) c) l)(k:Rd w (jC q (J m) d) m)(X:J l+J m<=2^22):dQ dG 209 #[vw (jC p (J l) c) n,jC q (J m) d] w λe w'=>∃r s,e=dR (vw (jC r (J lm) s) n)/\Own (U (Q w)) w' (jC r (J lm) s) lm/\Below (U (Q w)) w w':=by
 go_in
 go_wp21
 let⟨W,i⟩:=aF (jA (jA w (dO #[jC p (J l) c,jK jV n] 38)) (dO #[jC dN 0 0,jK jV 0] 38));have u:Bw w W:=by rw[i];exact cY.alloc al _
 have D:I W (Aw w 0)=Y (jC p (J l) c):=by rw[i];simp
 have y:I W (Aw w 1)=Y (jK jV n):=by rw[i];simp
 have S:I W (Ax w 0)=Y (jC dN 0 0):=by rw[i];simp
 have R:I W (Ax w 1)=Y (jK jV 0):=by rw[i];simp
 have f0:∀o,jF W (Ax w o)=dF:=by intro o;rw[i];simp
 have zW:U (Q w)+2=U (Q W):=by rw[i];simp
 rw[<-i];clear i;have x:∀o:Obj,Bw W (jA W o).drew:=λo=>cY.drew
 go_region_held3 (λw'=>I w' (Aw w 0)=Y (jC p (J l) c)/\I w' (Aw w 1)=Y (jK jV n)) (first|with_reducible exact⟨D,y⟩|with_reducible exact⟨g0,Z⟩|go_keep)
  (first|(go_at_call 195;refine(eM9 (p:=p) (q:=q) (c:=c) (d:=d) E al al ((h.H u).H (x _)) ((k.H u).H (x _)) X).h ?_;rintro e w1⟨r,s,rfl,V,az⟩;have j:=aj (x _) az;have g0:=aq D j;have Z:=aq y j;have N:=aq S j;have M:=aq R j;have f1:=Co f0 j af))
 go_wp2;refine cX (v:=vw (jC r (J lm) s) n) (by simp[results,results209,go_sem,N,M]) rfl ⟨r,s,rfl,Own.h (B:=U (Q W)) ?_ af,?_⟩;{
 repeat(refine rW ?_ bL _)
 exact Own.h V al};{
 repeat(refine tp ?_ al _)
 exact aj u j}
def ZI(f:Int):Bool:=dD (0<=f)&&dD (f<3)
theorem cn5(a:0<=f)(b:f<3):ZI f:=by simp[ZI,a,b]
theorem cn6(a:¬(0<=f/\f<3)):ZI f=dF:=by
 unfold ZI;rw[Rg];simp only[LH];omega
theorem ex3(m j i:OA)(n0 s n1 r n2 o:Nat)(s0 s1 s2 f:Int)(w:G):dQ dG 207 #[pR (jC m n0 s) s0 (jC j n1 r) s1 (jC i n2 o) s2,jK jV f] w λe w'=>e=dR (jO (ZI f))/\Below (U (Q w)) w w':=by
 by_cases a:0<=f;{by_cases b:f<3;{rw[cn5 a b];go_in;exact aV};{rw[cn6 af];go_in;exact aV}};{rw[cn6 af];go_in;exact aV}
theorem ek8{k m:Nat}{n:Int}(i:k<=200000)(hm:m<=2^21):dQ dG 208 #[vw (jC p k c) n,jC q m d] w λe w'=>e=dR (jO (dD (m+k<=200000)))/\Below (U (Q w)) w w':=by
 by_cases h:(m:Int)<=200000-k;{
 have e:dD (m+k<=200000):=by simp;omega
 rw[e];go_in;go_wp2;go_ret;exact⟨al,cY⟩};{
 have e:dD (m+k<=200000)=dF:=by simp;omega
 rw[e];go_in;go_wp2;go_ret;exact⟨al,cY⟩}
theorem cF5{n0 n1 n2:Int}(h0:Rd w (jC p0 (J l0) c0) l0)(h1:Rd w (jC p1 (J l1) c1) l1)(h2:Rd w (jC p2 (J l2) c2) l2)(m0:J l0<=2^21)(m1:J l1<=2^21)(m2:J l2<=2^21):dQ dG 73 #[pR (jC p0 (J l0) c0) n0 (jC p1 (J l1) c1) n1 (jC p2 (J l2) c2) n2] w λe w'=>
   ∃j m r x q u,e=dR (pR (jC j (J l0) m) n0 (jC r (J l1) x) n1 (jC q (J l2) u) n2)∧
    nS (U (Q w)) w' (jC j (J l0) m) (jC r (J l1) x) (jC q (J l2) u) l0 l1 l2/\Below (U (Q w)) w w':=by
 go_in
 go_wp21
 let⟨W,i⟩:=aF (jA (jA w (dO #[jC p0 (J l0) c0,jK jV n0,jC p1 (J l1) c1,jK jV n1,jC p2 (J l2) c2,jK jV n2] 114)) (dO #[jC dN 0 0,jK jV 0,jC dN 0 0,jK jV 0,jC dN 0 0,jK jV 0] 40));have y:Bw w W:=by rw[i];exact cY.alloc al _
 have s:qz W (U (Q w)) (jC p0 (J l0) c0) (jK jV n0) (jC p1 (J l1) c1) (jK jV n1) (jC p2 (J l2) c2) (jK jV n2):=by rw[i];simp[qz]
 have r0:qz W (U (Q w)+1) (jC dN 0 0) (jK jV 0) (jC dN 0 0) (jK jV 0) (jC dN 0 0) (jK jV 0):=by rw[i];simp[qz]
 have f0:∀o,jF W (Ax w o)=dF:=by intro o;rw[i];simp
 have zW:U (Q w)+2=U (Q W):=by rw[i];simp
 rw[<-i];clear i;have e0:=h0.H y.drew;have e1:=h1.H y;have e2:=h2.H y;have V7:qz W.drew (U (Q w)) (jC p0 (J l0) c0) (jK jV n0) (jC p1 (J l1) c1) (jK jV n1) (jC p2 (J l2) c2) (jK jV n2):=s
 go_region_held3 (λw'=>qz w' (U (Q w)) (jC p0 (J l0) c0) (jK jV n0) (jC p1 (J l1) c1) (jK jV n1) (jC p2 (J l2) c2) (jK jV n2)) (first|with_reducible exact V7|with_reducible exact k1|with_reducible exact k2|with_reducible exact k3|(clear s V7 k1 k2 N M D f3 e0 e1 e2 Z X o2 az S R r0 f0 y;refine⟨?_,?_,?_,?_,?_,?_⟩<;>go_keep))
  (first
   |(go_at_call_of 140 (Value.agg #[jC p0 (J l0) c0,jK jV n0]);refine(bu5 p0 c0 n0 l0 _ e0 m0).h ?_;rintro e E⟨j,m,rfl,Z,az⟩;have N:=aj (bD (U (Q W)) W).drew az;have k1:=qz.H s N)
   |(go_at_call_of 140 (Value.agg #[jC p1 (J l1) c1,jK jV n1]);refine(bu5 p1 c1 n1 l1 _ (e1.H N) m1).h ?_;rintro e w2⟨r,x,rfl,X,S⟩;have M:=aj N S;have k2:=qz.H s M)
   |(go_at_call_of 140 (Value.agg #[jC p2 (J l2) c2,jK jV n2]);refine(bu5 p2 c2 n2 l2 _ (e2.H M) m2).h ?_;rintro e w3⟨q,u,rfl,o2,R⟩;have D:=aj M R;have k3:=qz.H s D;have r3:=qz.H r0 D;have f3:=Co f0 D af))
 have z1:U (Q w)+2<=U (Q E):=by have:=az.size;simp at this;omega
 have z2:U (Q E)<=U (Q w2):=S.size;have V:Ow W E (jC j (J l0) m) l0:=by simpa using Z
 go_wp2;refine cX (v:=pR (jC j (J l0) m) n0 (jC r (J l1) x) n1 (jC q (J l2) u) n2) (by simp[results,results73,go_sem,r3]) rfl ⟨j,m,r,x,q,u,rfl,?_,?_⟩;{
 refine nS.mk' (B:=U (Q w)) (B1:=U (Q E)) (B2:=U (Q w2)) (V.h af) X (Own.h (B:=U (Q W)) ?_ af) ?_ ?_ aU aU af af;{
 repeat(refine rW ?_ bL _)
 exact Own.H (Own.H (by simpa using Z) S) R};{
 repeat(refine rW ?_ bL _)
 exact Own.H X R};{
 repeat(refine rW ?_ bL _)
 exact o2}};{
 repeat(refine tp ?_ al _)
 exact aj y D}
theorem nS.set(h:nS B w v0 v1 v2 l0 l1 l2)(i:a.block<B)(u:dV):nS B (w.setCell a u) v0 v1 v2 l0 l1 l2:=
 ⟨h.o0.set i u,h.o1.set i u,h.o2.set i u,h.Rc,h.Ra,h.n12⟩
theorem nS.h(h:nS B w v0 v1 v2 l0 l1 l2)(i:B'<=B):nS B' w v0 v1 v2 l0 l1 l2:=
 ⟨h.o0.h i,h.o1.h i,h.o2.h i,h.Rc,h.Ra,h.n12⟩
def fi7(w:G)(m j i:LI)(D B y code:Int)(e:Ending)(w':G):Prop:=
 ∃r x q u o s,e=dR (dT #[pR (jC r (J m) x) D (jC q (J j) u) B (jC o (J i) s) y,jK jV code])∧
  nS (U (Q w)) w' (jC r (J m) x) (jC q (J j) u) (jC o (J i) s) m j i/\Below (U (Q w)) w w'
theorem eH8(y N M:OA)(D V R:Nat)(n0 n1 n2:Int)(l0 l1 s:LI)(w:G)(h0:Rd w (.S y (J l0) D) l0)(h1:Rd w (.S N (J l1) V) l1)(h2:Rd w (.S M (J s) R) s)(hd:O (sF (J l0) n0 (J l1) n1 (J s) n2))(hs:J l0<=200000)(fO:J l1<=200000)(Al:J s<=200000)(pb:OA)(lb lm:LI)(sE:O (lm=l0++lb))(cb:Nat)(hB:Rd w (.S pb (J lb) cb) lb)(Ex:O (J lm<=200000)):dQ dG 139 #[pR (.S y (J l0) D) n0 (.S N (J l1) V) n1 (.S M (J s) R) n2,.I 0,.S pb (J lb) cb] w (fi7 w lm l1 s n0 n1 n2 0):=by
 go_in
 go_wp21
 refine cL (bu3 y N M D V R rfl rfl rfl) λi X=>?_;have W:Bw w i:=(cY.alloc al _).Z (X.h bL);have z1:U (Q w)+1<U (Q i):=by have:=X.size;simp at this;omega
 have R1:=bG (show qz i (U (Q w)+1) ay (.I 0) ay (.I 0) ay (.I 0)from qz.H (by simp[qz]) X) (Co (b:=U (Q w)+1) (by intro o;simp) X al);have HE:=eG (h0.H W) (h1.H W) (h2.H W);clear X
 go_wp21
 refine cL (cF4 af af af) λw2 Z=>?_;rw[ae hd];have u:qz w2 (U (Q i)) (.S y (J l0) D) (.I n0) (.S N (J l1) V) (.I n1) (.S M (J s) R) (.I n2):=qz.H (by simp[qz]) Z;have x:=Co (b:=U (Q i)) (by intro o;simp) Z al;have m:Bw i w2:=cY.Z (Z.h al);have r:U (Q i)<U (Q w2):=by have:=Z.size;simp at this;omega
 clear Z
 go_wp21
 refine cL (ex3 y N M _ D _ V _ R n0 n1 n2 _ _) λw3 j=>?_;rw[cn5 af af];replace u:=u.H j;replace x:=Co x j r;replace m:Bw i w3:=aj m j;replace r:U (Q i)<U (Q w3):=aM j.size;clear j
 go_wp21
 have el:=vj List.length sE;rw[fe]at el;have uQ:=ae Ex;have hr:dD (J lb+J l0<=200000):=by simp;omega
 refine cL (ek8 af af) λw4 j=>?_;rw[hr];replace u:=u.H j;replace x:=Co x j r;replace m:Bw i w4:=aj m j;replace r:U (Q i)<U (Q w4):=aM j.size;clear j hr
 go_wp21
 refine(ex4 y pb D cb n0 l0 lb lm sE _ (HE.1.H m) ((hB.H W).H m) af).h ?_;rintro e w5⟨pm,cm,rfl,om,j⟩;replace u:=u.H j;replace x:=Co x j r;replace m:Bw i w5:=aj m j;clear j el
 go_wp21
 have b3:=(m.setCell (p:=(Aw i 0)) aU (.S pm (J lm) cm)).setCell (p:=(Aw i 1)) aU (.I n0);refine(cF5 ((om.set (a:=(Aw i 0)) r (.S pm (J lm) cm)).set (a:=(Aw i 1)) r (.I n0)).rd (HE.2.1.H b3) (HE.2.2.H b3) af af af).h ?_;rintro e w6⟨q0,d0,q1,d1,q2,d2,rfl,o6,E⟩;have o7:=o6.h (B':=U (Q w)+2) (by simp;have:=m.size;omega);have E:=aj b3 E;have bb:=aj W E;have ra:=R1.1.H E;have F6:=Co R1.2 E z1;clear u x m b3 HE o6 E R1 om;go_wp2;refine cX (by simp[results,results139,go_sem,ra]) rfl ⟨q0,d0,q1,d1,q2,d2,rfl,?_,?_⟩;{
 refine nS.h (B:=U (Q w)+2) ?_ af
 repeat(refine nS.set ?_ al _)
 exact o7};{
 repeat(refine tp ?_ al _)
 exact bb}
def MQ(h b:Int):Int:=((jN h ^^^ jN b:Nat):Int)*16777619 % 4294967296
def aF7(h:Int)(l:LI):Int:=l.foldl MQ h
def ck(l:LI):Int:=aF7 2166136261 l
theorem eO6{h b:Int}:0<=MQ h b/\MQ h b<2^32:=by unfold MQ;omega
theorem cL9{k:Nat}(h:k<J l):ck (jT (k+1) l)=MQ (ck (jT k l)) l[k]:=by
 unfold ck aF7;rw[Zq h,VQ];rfl
theorem aF6(l:LI):0<=ck l/\ck l<2^32:=by
 obtain rfl|⟨m,x,rfl⟩:=l.eq_nil_or_concat;{unfold ck aF7;simp};{unfold ck aF7;rw[List.concat_eq_append,VQ];exact eO6}
theorem de8{h b:Nat}(i:h<2^32)(j:b<256):h ^^^ b<2^32:=
 Zj (n:=32) i af
theorem bO5(k:IntKind)(s:j<=k.bits)(r:∀n:Int,0<=n->n<2 ^ j->k.wrap n=n)(a b:Nat)(q:a<2 ^ j)(o:b<2 ^ j):bits .xor k a b=((a ^^^ b:Nat):Int):=by
 have m:2 ^ j<=2 ^ k.bits:=ba3 bf s;have i:∀n:Nat,n<2 ^ j->((n:Nat):Int)<2 ^ j:=λn h=>by exact_mod_cast h
 simp only[bits,BitVec.ofInt_natCast,BitVec.toNat_xor,BitVec.toNat_ofNat,Nat.mod_eq_of_lt (mH q m),Nat.mod_eq_of_lt (mH o m)];exact r _ (Int.natCast_nonneg _) (i _ (Zj q o))
theorem eO4{a:Int}(i:0<=a)(q:a<2^32)(z0:0<=z)(j:z<256):(jY jU (bits .xor jU a z*16777619)).tmod 4294967296=MQ a z:=by
 obtain⟨m,rfl⟩:=JK i;obtain⟨n,rfl⟩:=JK z0;have o:=de8 (h:=m) (b:=n) af af;rw[bO5 jU bf wraps_u64 m n af af];unfold MQ;simp only[rY];generalize m ^^^ n=y at*;rw[u64_wrap_id _ af af,Int.tmod_eq_emod_of_nonneg af]
theorem eO5{a:Int}(i:0<=a)(o:a<2^32)(z0:0<=z)(j:z<256):IntKind.u32.wrap (bits .xor .u32 a z*16777619)=MQ a z:=by
 obtain⟨m,rfl⟩:=JK i;obtain⟨n,rfl⟩:=JK z0;rw[bO5 .u32 bf wraps_u32 m n af af,IntKind.wrap_u32];unfold MQ;simp only[rY]
theorem dr6(h:Rd w (.S p (J l) c) l)(m:aD l)(M:J l<=2^22):dQ dG 175 #[.S p (J l) c] w (Rb (jK .u32 (ck l)) w):=by
 obtain⟨E,R,ev,h⟩:=h;obtain⟨rfl,-,rfl⟩:=mh ev;go_in;go_wp2
 go_loopw[3,4](λu i wr=>∃k:Nat,k<=J l/\i=.I k/\u=.U (ck (jT k l))/\Bw w wr) (λ_ i _=>J l-(jN (intOf i)))
 exact⟨0,de _,rfl,rfl,bD _ _⟩;{obtain⟨k,N,rfl,rfl,r⟩:=hrel;let⟨y,x⟩:=aF6 (jT k l);by_cases j:k<J l;{obtain rfl|⟨b,o,rfl,hc⟩:=h;{simp at j};{have D:I wr (Ad b (o+k))=Y (jK .u8 l[k]):=(r.cell (p:=(Ad b (o+k))) (my w _ (hc k j))).Z (by rw[hc k j];simp[List.getD,j]);let⟨z0,s⟩:=m l[k] (De j);let⟨B,V⟩:=aQ (cL9 j) j;clear hc m;generalize l[k]=z at*;generalize ck (jT k l)=a at*;go_wp2;go_roundw;exact⟨k+1,af,by go_num,by rw[ae B,eO4 y x z0 s],r⟩;exact dy}};{cases(af:k=J l);rw[wS]at*;exact aV}}
theorem dV7(h:Rd w (.S p (J l) c) l)(m:aD l)(M:J l<=2^22):dQ dG 242 #[.S p (J l) c] w (Rb (jK .u32 (ck l)) w):=by
 obtain⟨E,R,ev,h⟩:=h;obtain⟨rfl,-,rfl⟩:=mh ev;go_in;go_wp2
 go_loopw[3,8](λu i wr=>∃k:Nat,k<=J l/\i=.I k/\u=jK .u32 (ck (jT k l))/\Bw w wr) (λ_ i _=>J l-(jN (intOf i)))
 exact⟨0,de _,rfl,rfl,bD _ _⟩;{obtain⟨k,N,rfl,rfl,r⟩:=hrel;let⟨y,x⟩:=aF6 (jT k l);by_cases j:k<J l;{obtain rfl|⟨b,o,rfl,hc⟩:=h;{simp at j};{have D:I wr (Ad b (o+k))=Y (jK .u8 l[k]):=(r.cell (p:=(Ad b (o+k))) (my w _ (hc k j))).Z (by rw[hc k j];simp[List.getD,j]);let⟨z0,s⟩:=m l[k] (De j);let⟨B,V⟩:=aQ (cL9 j) j;clear hc m;generalize l[k]=z at*;generalize ck (jT k l)=a at*;go_wp2;go_roundw;exact⟨k+1,af,by go_num,by rw[ae B,<-eO5 y x z0 s,IntKind.wrap_u32],r⟩;exact dy}};{cases(af:k=J l);rw[wS]at*;exact aV}}
def le(v:Int):Nat->LI
 |0=>[]
 |n+1=>v % 256::le (v / 256) n
theorem xN(v:Int)(n:Nat):J (le v n)=n:=by induction n generalizing v with|zero=>rfl|succ n ih=>simp[le,ih]
theorem ZA(v:Int)(n:Nat):aD (le v n):=by
 induction n generalizing v with
 |zero=>intro z i;simp[le]at i
 |succ n ih=>
  intro z i;simp only[le,gD]at i;obtain rfl|i:=i;{omega};{exact ih _ z i}
theorem dO9(v:Int)(n:Nat):le v (n+1)=le v n++[v / 256 ^ n % 256]:=by
 induction n generalizing v with
 |zero=>simp[le]
 |succ n ih=>
  rw[le,ih,le,Gk];rw[ch8 af,au9,Int.mul_comm]
theorem aD.append(h:aD l)(k:aD m):aD (l++m):=λz i=>by
 obtain a|a:=jl.1 i;{exact h z a};{exact k z a}
theorem Zv(n:Nat)(v:Int)(w:G)(W:n<=8)(Z:0<=v)(X:v<2^64):dQ dG 114 #[.U v,.I n] w λe w'=>∃p c,e=dR (.S p n c)/\Own (U (Q w)) w' (.S p n c) (le v n)/\Bw w w':=by
 induction n generalizing v w with
 |zero=>
  go_in;go_wp2;go_ret;exact⟨dN,0,rfl,qe _ _ _ _,bD _ _⟩
 |succ n ih=>
  go_in
  go_wp21
  refine(ih (v / 256) _ af af af).h ?_;rintro e r⟨M,N,rfl,y,q⟩;have j:Bw w r:=aj cY q;have i:Ow w r (.T (U (Q w)) 1 1) [v % 256]:=Own.H (Own.one w (v % 256)) q;have u:=y.rd;have D:=j.size;clear y q;go_wp2_with(at_builtin;refine D4 rfl rfl (.T (U (Q w)) 1 1) (lm:=le v (n+1)) di M N n (ai (by exact xN _ _)) rfl rfl i u (by rw[xN];simp;omega) D ?_);intro p' c' V ho E;have R:=Ct j E i aU D;rw[xN]at ho⊢;clear j E i u;go_wp2;go_ret;exact⟨p',c',rfl,ho,R⟩
theorem Zt{v:Int}(hn:n<=8)(h0:0<=v)(h1:v<2^64):dQ dG 204 #[.U v,.I n] w λe w'=>∃p c,e=dR (.S p n c)/\Own (U (Q w)) w' (.S p n c) (le v n)/\Bw w w':=by
 go_in;go_wp2
 go_loopw[0,5,7](λnn Z i wr=>∃(k:Nat)(p:OA)(c:Nat)(l:LI)(u:Int),k<=n/\i=.I k/\nn=.U u/\O (u=v / 256 ^ k)/\0<=u/\u<2^64/\O (l=le v k)/\J l=k/\Z=.S p k c/\Ow w wr (.S p k c) l/\Bw w wr) (λ_ _ i _=>n-(jN (intOf i)))
 exact⟨0,dN,0,[],v,de _,rfl,rfl,by show _=_;simp,h0,h1,rfl,rfl,rfl,qe _ _ _ _,bD _ _⟩;{
 obtain⟨k,p,c,l,u,V,rfl,rfl,q,u0,u1,r,hl,rfl,ho,m⟩:=hrel;by_cases aH:k<n;{
 let⟨lm,j⟩:=aF (l++[u % 256]);have D:J lm=k+1:=by simp[j,hl]
 have WW:O (lm=le v (k+1)):=ai (by rw[j,ae r,ae q,dO9]);have M:O (u / 256=v / 256 ^ (k+1)):=ai (by rw[ae q,ch8 (Int.pow_nonneg af),au9])
 change O _ at j D
 clear r q;go_wp2_with(at_builtin;refine U7 rfl rfl (.S p k c) j (U (Q wr)) rfl rfl (Own.H ho cY) al af (by have:=m.size;simp;omega) ?_);intro p' c' N R X;have b2:Bw w N:=(m.alloc m.size (dO #[jK .u8 (u % 256)] 5)).grown X (by have:=m.size;simp;omega) (λk V=>(ho.lt k V).1);simp only[ae D];have E:Ow w N (.S p' (k+1) c') lm:=by have W:=R;simp only[ae D]at W;exact W
 clear R X ho m hl j;go_wp2;go_roundw;exact⟨k+1,p',c',lm,u / 256,af,by go_num,by first|rfl|go_num,M,af,af,WW,D,rfl,E,b2⟩;exact dy};{cases(af:k=n);rw[ae r]at ho;clear r hl q;go_wp2;go_ret;exact⟨p,c,rfl,ho,m⟩}}
theorem eQ8(a b c:LI):cat [a,b,c]=a++b++c:=by simp[cat]
theorem eQ7(a b c d:LI):cat [a,b,c,d]=a++b++c++d:=by simp[cat]
def sm(l:LI):LI:=l++le (ck l) 4
theorem aq3:J (sm l)=J l+4:=by simp[sm,xN]
theorem bW3(h:aD l):aD (sm l):=h.append (ZA _ _)
theorem dD1(y:I w (Ad g 0)=v0)(u:I w (Ad g 1)=v1)(s:I w (Ad g 2)=v2)(r:Rd w v0 l0)(q:Rd w v1 l1)(o:Rd w v2 l2):xx w g [v0,v1,v2] [l0,l1,l2]:=by
 refine⟨rfl,λj v x m i=>?_⟩
 match j,m,i with
 |0,m,i=>simp at m i;subst m i;exact⟨y,r⟩
 |1,m,i=>simp at m i;subst m i;exact⟨u,q⟩
 |2,m,i=>simp at m i;subst m i;exact⟨s,o⟩
theorem dD0{o:LI}(E:I w (Ad g 0)=v0)(D:I w (Ad g 1)=v1)(B:I w (Ad g 2)=v2)(y:I w (Ad g 3)=v3)(u:Rd w v0 l0)(s:Rd w v1 l1)(r:Rd w v2 l2)(q:Rd w v3 o):xx w g [v0,v1,v2,v3] [l0,l1,l2,o]:=by
 refine⟨rfl,λj v x m i=>?_⟩
 match j,m,i with
 |0,m,i=>simp at m i;subst m i;exact⟨E,u⟩
 |1,m,i=>simp at m i;subst m i;exact⟨D,s⟩
 |2,m,i=>simp at m i;subst m i;exact⟨B,r⟩
 |3,m,i=>simp at m i;subst m i;exact⟨y,q⟩
theorem bP6(X:Le l n)(h:Rd w (.S p n c) l)(W:aD l)(hl:n<=2^21):dQ dG 205 #[.S p n c] w λe w'=>∃q x,e=dR (.S q (n+4) x)/\Own (U (Q w)) w' (.S q (n+4) x) (sm l)/\Bw w w':=by
 cases ae X;let⟨V,k1⟩:=aF6 l;go_in
 go_wp21
 refine cL (dV7 (p:=p) (c:=c) (l:=l) h W af) λw1 y=>?_
 go_wp21
 refine(Zt (n:=4) (v:=ck l) af V af).h ?_;rintro e M⟨N,Z,rfl,s,D⟩;have i:=aj y D;have m:=h.H i;have j:=s.rd;clear h y D s
 go_wp21
 refine(Gt (g:=U (Q M)) (vs:=[.S p (J l) c,.S N 4 Z]) [l,le (ck l) 4] (lm:=sm l) (n:=J l+4) 2 rfl (ai (by rw[bB1];rfl)) (ai (by exact aq3 (l:=l))) (cd2 al al (m.H cY) (j.H cY)) af af).h ?_;rintro e E⟨o,u,rfl,r,B⟩;have b3:=aj (i.alloc i.size _) B;have R:Ow w E (.S o (J l+4) u) (sm l):=Own.h r (by have:=i.size;simp;omega);clear m j i B r;go_wp2;go_ret;exact⟨o,u,rfl,R,b3⟩
theorem bS2(en:Le l n)(h:Rd w (.S p n c) l)(hb:aD l)(hl:n<=2^21):dQ dG 115 #[.S p n c] w λe w'=>∃p' c',e=dR (.S p' (n+4) c')/\Own (U (Q w)) w' (.S p' (n+4) c') (sm l)/\Bw w w':=by
 cases ae en;let⟨Z,k1⟩:=aF6 l;go_in
 go_wp21
 refine(bg0 h af).h ?_;rintro e w1⟨X,c1,rfl,M,q⟩
 go_wp21
 refine cL (dr6 (h.H q) hb af) λw2 u=>?_;have V:=aj q u;have E:=Own.H M u;clear h q u M
 go_wp21
 refine(Zv 4 (ck l) _ af Z af).h ?_;rintro e w3⟨W,c3,rfl,D,r⟩;have j:=aj V r;have i:=Own.H E r;have y:=D.rd;have N:=j.size;clear V r E D;go_wp2_with(at_builtin;refine D4 rfl rfl (.S X (J l) c1) (lm:=sm l) di W c3 4 (ai (by exact xN _ _)) rfl rfl i y (by rw[xN];omega) N ?_);intro p' c' w5 ho R;have b5:=Ct j R i aU N;rw[aq3]at ho⊢;clear j R i y;go_wp2;go_ret;exact⟨p',c',rfl,ho,b5⟩
abbrev zQ(s:Int)(v:dV):dV:=jP #[.U s,v]
def Hl(s:Int)(l:LI):LI:=le (J l) 2++le s 8++l
def vf(s:Int)(l:LI):LI:=sm (Hl s l)
def En:LI:=[76,72,83,49]
theorem Zy:J En=4:=rfl
def Hj(s:Int)(l:LI):LI:=En++le s 8++le (J l) 4++l
def uh(s:Int)(l:LI):LI:=sm (Hj s l)
theorem ar6(s:Int)(l:LI):J (Hl s l)=J l+10:=by simp[Hl,xN];omega
theorem ar8(s:Int)(l:LI):J (vf s l)=J l+14:=by rw[vf,aq3,ar6]
theorem aq1(s:Int)(l:LI):J (Hj s l)=J l+16:=by simp[Hj,xN,Zy];omega
theorem bV1(s:Int)(l:LI):J (uh s l)=J l+20:=by rw[uh,aq3,aq1]
theorem aU6(h:aD l):aD (Hl s l):=((ZA _ _).append (ZA _ _)).append h
theorem ca3(h:aD l):aD (vf s l):=bW3 (aU6 h)
theorem aS0(h:aD l):aD (Hj s l):=by
 refine aD.append (aD.append (aD.append ?_ (ZA _ _)) (ZA _ _)) h;intro z i;simp[En]at i;omega
theorem bV3(h:aD l):aD (uh s l):=bW3 (aS0 h)
theorem dV1(j:1000<n):dQ dG 137 #[zQ s (.S p n c)] w (Rb ay w):=by
 have i:=uX 1000 n;go_in;exact aV
theorem co5(o:Le l n)(h:Rd w (.S p n c) l)(hb:aD l)(hl:n<=1000)(s0:0<=s)(s1:s<2^64):dQ dG 137 #[zQ s (.S p n c)] w λe w'=>∃D Z,e=dR (.S D (n+14) Z)/\Own (U (Q w)) w' (.S D (n+14) Z) (vf s l)/\Bw w w':=by
 have tJ:¬(1000:Int)<(n:Int):=af;go_in
 go_wp21
 let⟨W,m⟩:=aF (jA w (dO #[.U s,.S p n c] 92));have k0:I W (Aw w 0)=dU s:=by rw[m];simp
 have k1:I W (Aw w 1)=dS p n c:=by rw[m];simp
 rw[<-m];refine(Zt (n:=2) (v:=n) af af af).h ?_;rintro e j⟨p1,c1,rfl,o1,B⟩;have y:=aj (ir m) B;have M:=aq k0 B;have E:=aq k1 B;have AD:=ae o;have HB:=ai hb
 go_wp21
 go_region_held3 (λw'=>I w' (Aw w 0)=dU s/\I w' (Aw w 1)=dS p n c) (first|with_reducible exact⟨M,E⟩|with_reducible exact⟨R,N⟩|with_reducible exact⟨X,V⟩|with_reducible exact⟨f0,f1⟩|go_keep)
  (first
   |(go_at_call 204;refine(Zt (n:=8) (v:=s) af s0 s1).h ?_;rintro e u⟨p2,c2,rfl,o2,aA⟩;have i:Below (U (Q j)) j u:=(by first|exact aA|exact aj (bD (U (Q j)) j).drew aA);have R:=aq M i;have N:=aq E i)
   |(go_at_call 129;refine(Gt (g:=U (Q u)) (vs:=[jC p1 2 c1,jC p2 8 c2,jC p n c]) [le n 2,le s 8,l] (lm:=Hl s l) (n:=n+10) 3 rfl (ai (by rw[eQ8,Hl,ae o])) (ai (by rw[ar6,ae o])) (dD1 al al al ((o1.rd.H i).H cY) (o2.rd.H cY) (((h.H y).H i).H cY)) af af).h ?_;rintro e w3⟨p3,c3,rfl,o3,aL⟩;have r:=aj (db.alloc (fS (U (Q u))) _) aL;have X:=aq R r;have V:=aq N r)
   |(go_at_call 205;refine(bP6 (p:=p3) (c:=c3) (n:=n+10) (l:=Hl s l) (ai (by rw[ar6,ae o])) o3.rd (aU6 HB) af).h ?_;rintro e w4⟨p4,c4,rfl,o4,x⟩;have f0:=aq X x;have f1:=aq V x))
 go_wp2;go_ret;exact⟨p4,c4,rfl,Own.h o4 (aM (aj (aj y i) r).size),aj (aj (aj y i) r) x⟩
theorem bU1(q:Le l n)(h:Rd w (.S p n c) l)(hb:aD l)(hl:n<=1000)(s0:0<=s)(s1:s<2^64):dQ dG 58 #[zQ s (.S p n c)] w λe w'=>∃p' c',e=dR (.S p' (n+14) c')/\Own (U (Q w)) w' (.S p' (n+14) c') (vf s l)/\Bw w w':=by
 have tJ:¬(1000:Int)<(n:Int):=af;go_in
 go_wp21
 let⟨W,i⟩:=aF (jA w (dO #[.U s,.S p n c] 92));have bW:=ir i;have k0:I W (Aw w 0)=dU s:=by rw[i];simp
 have k1:I W (Aw w 1)=dS p n c:=by rw[i];simp
 have zW:U (Q w)<U (Q W):=by rw[i];simp
 rw[<-i];clear i;refine(Zv 2 n _ af af af).h ?_;rintro e w1⟨p1,c1,rfl,o1,r⟩;have Z:=aj bW r;have j0:=aq k0 r;have j1:=aq k1 r;have r0:=h.H Z;have AD:=ae q;let⟨HB,HH⟩:=aQ hb h;have z1:=r.size
 go_wp21
 refine(Zv 8 s _ af s0 s1).h ?_;rintro e w2⟨p2,c2,rfl,o2,j⟩;have i0:=aq j0 j;have y:=Own.H o1 j;have u:=o2.rd;have z2:=j.size;have el:J (le (↑n) 2++le s 8)=10:=by simp[xN]
 go_wp2_with(at_builtin;refine D4 rfl rfl (B:=U (Q W)) (.S p1 2 c1) (l:=le n 2) (m:=le s 8) (lm:=le n 2++le s 8) di p2 c2 8 (ai (by exact xN _ _)) rfl rfl y u (by rw[xN,xN];omega) af ?_);intro p3 c3 w3 M D;have X:=Ct (aj Z j) D y af af;have R:=(bD (U (Q W)) w2).grown D af (λk e=>(y.lt k e).1);have f1:=(R.cell (p:=(Aw w 1)) zW).Z (aq j1 j);have r3:Rd w3 (.S p n c) l:=HH.H X;have z3:=R.size;have WW:J (Hl s l)=n+10:=by rw[ar6,ae q]
 go_wp2_with(at_builtin;refine D4 rfl rfl (B:=U (Q W)) (.S p3 10 c3) (l:=le n 2++le s 8) (m:=l) (lm:=Hl s l) (ai (by rw[Hl,ae q])) p c n q rfl rfl M r3 (by rw[el];omega) af ?_);intro p4 c4 w4 o4 N;have b4:=Ct X N M af af;have z4:=N.size
 go_wp21
 refine(bS2 (p:=p4) (c:=c4) (n:=n+10) (l:=Hl s l) (by show _=_;exact WW) o4.rd (aU6 HB) af).h ?_;rintro e w5⟨E,V,rfl,o5,eh⟩;have b5:=aj b4 eh;have o6:Ow w w5 (.S E (n+14) V) (vf s l):=Own.h o5 af;go_wp2;go_ret;exact⟨E,V,rfl,o6,b5⟩
def jt(w:G)(A:List Lf)(k:Int):Prop:=∀(i:Nat)(a:Lf),A[i]?=a->I w (Ad a.b a.o)=Y (jK a.k (Re a.k (k+i)))
theorem jt.H(h:jt w A k)(j:Bw w w'):jt w' A k:=λi a m=>aq (h i a m) j
theorem jt.app(h:jt w (A++A2) k):jt w A k/\jt w A2 (k+J A):=by
  refine⟨λi a j=>h i a ?_,λi a j=>?_⟩;{rw[oI (bH.1 j).1];exact j};{
 have:=h (J A+i) a (by rw[qT af];simpa using j);rw[this];congr 3
 push_cast
 omega}
theorem jt.cons{a:Lf}(h:jt w (a::A2) k):I w (Ad a.b a.o)=Y (jK a.k (Re a.k k))/\jt w A2 (k+1):=by
  have i:=(jt.app (A:=[a]) (A2:=A2) (by simpa using h));refine⟨?_,by simpa using i.2⟩;have:=i.1 0 a al;simpa using this
variable {l:List Lf}
theorem jt.flat(h:jt w (jL Ls) k)(i:jL (jT (j+1) Ls)=jL (jT j Ls)++l):jt w l (k+(jT j Ls).flatten.length):=by
  have e:jL Ls=jL (jT j Ls)++(l++jL (jD (j+1) Ls)):=by rw[<-xL,<-i,<-LM,JN]
  rw[e]at h;exact h.app.2.app.1
theorem Mk.held(h:Mk w w' A k)(i:(A.map λa=>(a.b,a.o)).Nodup):jt w' A k:=h.val i
theorem Ha.H{x:Ev}{a:Nat}(h:Ha w x b a l)(i:Bw w w'):Ha w' x b a l:=h.mk (Mk.tj i 0) (fk.nil _)
theorem lI.H(h:lI w v xs l)(i:Bw w w'):lI w' v xs l:=lI.mk h (Mk.tj i 0) (fk.nil _)
theorem Fv.H{x:aB}{a:Nat}(h:Fv w x b a l)(i:Bw w w'):Fv w' x b a l:=h.mk (Mk.tj i 0) (fk.nil _)
theorem mF.H{xs:List aB}(h:mF w v xs l)(i:Bw w w'):mF w' v xs l:=mF.mk h (Mk.tj i 0) (fk.nil _)
theorem G9.H{x:au}{a:Nat}(h:G9 w x b a l)(i:Bw w w'):G9 w' x b a l:=h.mk (Mk.tj i 0) (fk.nil _)
theorem nG.H{xs:List au}(h:nG w v xs l)(i:Bw w w'):nG w' v xs l:=nG.mk h (Mk.tj i 0) (fk.nil _)
theorem OP{q:Prop}(h':q:=by
    have hnA:=h.len (λx b a l hl=>by first|exact hl.pos|(rw[show l=_ from hl];simp));let⟨Ls,en,lL,eA,fL⟩:=h.at;have AV:=ai fL;have HA:=ai (show jt w Ls.flatten k by rw[<-eA];exact hA);have EA:=ai eA;have K1:k+(J Ls.flatten:Int)<=100000000:=eA▸k1;have hn:n<=100000000:=af;have LL:=ai lL;clear h fL hA eA en lL hnA;show dQ _ _ _ _ _;go_in;go_wp2
    go_loopw[1,5](λkk i wr=>∃j:Nat,j<=n/\i=.I j/\kk=.I (k+(((Ls.take j).flatten.length:Nat):Int))/\Bw w wr) (λ_ i _=>n-(intOf i).toNat)
    exact⟨0,de _,rfl,al,bD _ _⟩;{
 obtain⟨j,hj,rfl,rfl,aC⟩:=hrel;have hle:=Py Ls j;by_cases aH:j<n;{
 have dm:=cM j n;obtain⟨b,o,x,l,rfl,hx,hl,hP,rG,qA⟩:=ae AV j aH;have hh:=(HA.flat rG).H aC;have Ix:(Ls.take (j+1)).flatten.length=(Ls.take j).flatten.length+J l:=by rw[rG,fe]
 have vr:k+((Ls.take j).flatten.length:Int)+(J l:Int)<=100000000:=by have:=Py Ls (j+1);omega
 have HT:=ai Ix;generalize hT:(Ls.take j).flatten.length=T at*;clear hT hx hl rG qA Ix;have hT0:0<=k+(T:Int):=af
 first
   | (have e1:l=[⟨b,o+j*1,.u8⟩]:=hP
      rw[El]at e1;subst e1;have mu:I wr (Ad b (o+j))=Y (.int .u8 ((k+(T:Int)) % 256)):=hh.cons.1;have aP:(((k+(T:Int)) % 256) != ((k+(T:Int)) % 256))=dF:=al;have ec5:k+(T:Int)+1<=100000000:=by simpa using vr
      clear hP hh vr;have b1:=aC;clear aC)
   | (have e1:l=[⟨b,o+j*1,.u64⟩]:=hP
      rw[El]at e1;subst e1;have mu:I wr (Ad b (o+j))=dU (k+(T:Int)):=hh.cons.1;have aP:((k+(T:Int)) != (k+(T:Int)))=dF:=al;have ec5:k+(T:Int)+1<=100000000:=by simpa using vr
      clear hP hh vr;have b1:=aC;clear aC)
   | (have Fa:Ha wr x b _ l:=hP.H aC
      obtain⟨q,d,lb,rfl,hd,uP⟩:=Fa;have HD:=ai hd;have uE:=ai uP;clear hd uP;have hlen:k+(T:Int)+(1+(J lb:Int))<=100000000:=by simp only[fe,mO]at vr;omega
      clear vr hP;have mu:I wr (Ad b (o+j*2))=dI (k+(T:Int)):=(jt.cons hh).1;have t0:=(jt.cons hh).2;have s1:jt wr lb (k+(T:Int)+1):=t0;have HS:=ai (s1);have pI:=ai (mu);have W0:=ai (bD (U wr.heap) wr);clear hh t0 s1 mu;have mu:=aq pI W0;have Cc:((k+(T:Int)) != (k+(T:Int)))=dF:=al;have hd1:=aq HD W0
      go_wp21
      clear mu Cc hd1;refine cL (ac2 uE (HS.H W0) af af) λv0 N0=>?_;have UP:=ai (aj W0 N0);have cr3:¬k+(T:Int)+1+(J lb:Int)<0:=af;clear N0;have b1:=aj aC UP;clear aC)
   | (have Fa:Fv wr x b _ l:=hP.H aC
      obtain⟨q,d,lb,rfl,hd,uP⟩:=Fa;have HD:=ai hd;have uE:=ai uP;clear hd uP;have hlen:k+(T:Int)+(2+(J lb:Int))<=100000000:=by simp only[fe,mO]at vr;omega
      clear vr hP;have mu:I wr (Ad b (o+j*3))=dU (k+(T:Int)):=(jt.cons hh).1;have t0:=(jt.cons hh).2;have gm:I wr (Ad b (o+j*3+1))=dI (k+(T:Int)+1):=(jt.cons t0).1;have t1:=(jt.cons t0).2;have s2:jt wr lb (k+(T:Int)+1+1):=t1;have HS:=ai (s2);have pI:=bG mu (gm);have W0:=ai (bD (U wr.heap) wr);clear hh t0 t1 s2 mu gm;have mu:=aq pI.1 W0;have Cc:((k+(T:Int)) != (k+(T:Int)))=dF:=al;have gm:=aq pI.2 W0;have cs0:((k+(T:Int)+1) != (k+(T:Int)+1))=dF:=al;have hd2:=aq HD W0
      go_wp21
      clear mu Cc gm cs0 hd2;have lv0:=uE.H W0;refine cL (cv5 lv0 (HS.H W0) af af) λv0 N0=>?_;have UP:=ai (aj W0 N0);have cr3:¬k+(T:Int)+1+1+(J lb:Int)<0:=af;clear N0;have b1:=aj aC UP;clear aC)
   | (have Fa:G9 wr x b _ l:=hP.H aC
      obtain⟨p0,c0,p1,c1,p4,c4,p7,c7,l0,l1,l4,l7,rfl,⟨h1,h2⟩,⟨h3,h4⟩,⟨h5,h6⟩,⟨h7,h8⟩⟩:=Fa;have HD:=gJ h1 h3 h5 h7;have uE:=gJ h2 h4 h6 h8;clear h1 h2 h3 h4 h5 h6 h7 h8;have hlen:k+(T:Int)+(4+(J l0:Int)+(J l1:Int)+(J l4:Int)+(J l7:Int))<=100000000:=by simp only[fe,mO]at vr;omega
      clear vr hP;have s0:jt wr l0 (k+(T:Int)):=(jt.app hh).1;have t0:=(jt.app hh).2;have s1:jt wr l1 (k+(T:Int)+(J l0:Int)):=(jt.app t0).1;have t1:=(jt.app t0).2;have im:I wr (Ad b (o+j*8+2))=dU (k+(T:Int)+(J l0:Int)+(J l1:Int)):=(jt.cons t1).1;have t2:=(jt.cons t1).2;have vu:I wr (Ad b (o+j*8+3))=dI (k+(T:Int)+(J l0:Int)+(J l1:Int)+1):=(jt.cons t2).1;have t3:=(jt.cons t2).2;have s4:jt wr l4 (k+(T:Int)+(J l0:Int)+(J l1:Int)+1+1):=(jt.app t3).1;have t4:=(jt.app t3).2;have uq:I wr (Ad b (o+j*8+5))=dU (k+(T:Int)+(J l0:Int)+(J l1:Int)+1+1+(J l4:Int)):=(jt.cons t4).1;have t5:=(jt.cons t4).2;have rH:I wr (Ad b (o+j*8+6))=dU (k+(T:Int)+(J l0:Int)+(J l1:Int)+1+1+(J l4:Int)+1):=(jt.cons t5).1;have t6:=(jt.cons t5).2;have s7:jt wr l7 (k+(T:Int)+(J l0:Int)+(J l1:Int)+1+1+(J l4:Int)+1+1):=t6;have HS:=gJ s0 s1 s4 (s7);have pI:=gJ im vu uq (rH);have W0:=ai (bD (U wr.heap) wr);clear hh t2 t3 t5 t6 t0 t1 t4 s0 s1 s4 s7 im vu uq rH;have hd0:=aq HD.1 W0
      go_wp21
      clear hd0;refine cL (ac2 uE.1 (HS.1.H W0) af af) λv0 N0=>?_;have UP:=ai (aj W0 N0);have cr3:¬k+(T:Int)+(J l0:Int)<0:=af;clear N0;have hd1:=aq HD.2.1 UP
      go_wp21
      clear hd1;refine cL (ac2 uE.2.1 (HS.2.1.H UP) af af) λv1 N1=>?_;have He:=ai (aj UP N1);have fv3:¬k+(T:Int)+(J l0:Int)+(J l1:Int)<0:=af;clear N1;have im:=aq pI.1 He;have ea5:((k+(T:Int)+(J l0:Int)+(J l1:Int)) != (k+(T:Int)+(J l0:Int)+(J l1:Int)))=dF:=al;have vu:=aq pI.2.1 He;have ea4:((k+(T:Int)+(J l0:Int)+(J l1:Int)+1) != (k+(T:Int)+(J l0:Int)+(J l1:Int)+1))=dF:=al;have hd4:=aq HD.2.2.1 He
      go_wp21
      clear im ea5 vu ea4 hd4;refine cL (cv4 p4 c4 (J x.y) (x.y) l4 (k+(T:Int)+(J l0:Int)+(J l1:Int)+1+1) _ uE.2.2.1 (HS.2.2.1.H He) af af) λv2 N2=>?_;have zE:=ai (aj He N2);have fv2:¬k+(T:Int)+(J l0:Int)+(J l1:Int)+1+1+(J l4:Int)<0:=af;clear N2;have uq:=aq pI.2.2.1 zE;have ea3:((k+(T:Int)+(J l0:Int)+(J l1:Int)+1+1+(J l4:Int)) != (k+(T:Int)+(J l0:Int)+(J l1:Int)+1+1+(J l4:Int)))=dF:=al;have rH:=aq pI.2.2.2 zE;have ea2:((k+(T:Int)+(J l0:Int)+(J l1:Int)+1+1+(J l4:Int)+1) != (k+(T:Int)+(J l0:Int)+(J l1:Int)+1+1+(J l4:Int)+1))=dF:=al;have hd7:=aq HD.2.2.2 zE
      go_wp21
      clear uq ea3 rH ea2 hd7;refine cL (cv4 p7 c7 (J x.X) (x.X) l7 (k+(T:Int)+(J l0:Int)+(J l1:Int)+1+1+(J l4:Int)+1+1) _ uE.2.2.2 (HS.2.2.2.H zE) af af) λv3 N3=>?_;have Jg:=ai (aj zE N3);have fv1:¬k+(T:Int)+(J l0:Int)+(J l1:Int)+1+1+(J l4:Int)+1+1+(J l7:Int)<0:=af;clear N3;have b1:=aj aC Jg;clear aC)
 go_wp2;go_roundw;exact⟨j+1,af,by go_num,by rw[ae HT];first|go_num|(simp;omega)|(congr 1;simp;omega),by first|exact b1|exact below_drewN b1⟩;exact dy};{
 obtain rfl:j=n:=af;have e2:(Ls.take j).flatten=A:=by rw[<-ae LL,wS];exact EA.C
 rw[e2];clear hle AV HA;go_wp2;go_ret;exact⟨rfl,aC⟩}}):q:=h'
theorem ac2{xs:LI}(h:oz (.S p n c) xs A)(hA:jt w A k)(m:0<=k)(k1:k+J A<=10^8):Cp 42 #[.S p n c,.I k] w (Rb (.I (k+J A)) w):=OP
theorem cv4(p:OA)(c n:Nat)(xs:LI)(A:List Lf)(k:Int)(w:G)(h:Fu (.S p n c) xs A)(hA:jt w A k)(m:0<=k)(k1:k+J A<=10^8):Cp 149 #[.S p n c,.I k] w (Rb (.I (k+J A)) w):=OP
theorem cv5(h:lI w (.S p n c) xs A)(hA:jt w A k)(m:0<=k)(k1:k+J A<=10^8):Cp 44 #[.S p n c,.I k] w (Rb (.I (k+J A)) w):=OP
theorem eg5(p:OA)(c n:Nat)(xs:List aB)(A:List Lf)(k:Int)(w:G)(h:mF w (.S p n c) xs A)(hA:jt w A k)(m:0<=k)(k1:k+J A<=10^8):Cp 84 #[.S p n c,.I k] w (Rb (.I (k+J A)) w):=OP
theorem eg8(p:OA)(c n:Nat)(xs:List au)(A:List Lf)(k:Int)(w:G)(h:nG w (.S p n c) xs A)(hA:jt w A k)(m:0<=k)(k1:k+J A<=10^8):Cp 85 #[.S p n c,.I k] w (Rb (.I (k+J A)) w):=OP
def jy{α:Type}(F:α->Nat)(l:List α):Nat:=(l.map F).sum
variable {k:Nat}
theorem ap8{α:Type}(F:α->Nat){l:List α}{y:α}(h:l[k]?=y):jy F (jT (k+1) l)=jy F (jT k l)+F y:=by
 rw[rD,h];simp[jy]
theorem aQ7{α:Type}(F:α->Nat)(l:List α):jy F (jT 0 l)=0:=by simp[jy]
def Ld(s:aB):Nat:=J s.2.2+jy (λe:Ev=>J e.2) s.2.2
def Lg(nd:au):Nat:=J nd.A+J nd.V+J nd.y+J nd.X
def Hi(ss:List aB)(ns:List au):Nat:=J ss+jy Ld ss+(J ns+jy Lg ns)
variable {l:LI}
theorem kI.news(h:kI w (.S a (J l) c) l):J (l.map (Value.int jU))=J l*1/\(∀j u,(l.map (Value.int jU))[j]?=Y u->I w (a.add j)=Y u)/\(∀u∈l.map (Value.int jU),u.oneCell'):=by
 refine⟨al,λj u i=>?_,λu i=>by obtain⟨n,-,rfl⟩:=fM.1 i;rfl⟩;have m:j<J l:=by have:=(bH.1 i).1;simpa using this
 obtain⟨p,x,e,r⟩:=h;obtain⟨rfl,-,-⟩:=mh e;obtain s|⟨b,o,q,hc⟩:=r;{rw[s]at m;simp at m};{simp only[oK]at q;subst q;rw[Ia,hc j m,<-i];simp[m]}
theorem cl8(en:Le l n)(h:kI w (.S p n c) l)(hl:Mg n):dQ dG 174 #[.S p n c] w λe w'=>∃q m,e=dR (.S q n m)/\qJ (U (Q w)) w' (.S q n m) l/\Bw w w':=by
 cases ae en;let⟨i,D,V,fI,gv⟩:=mJ Tryz.infoU64;go_in;have N:w.ownsRow (U (Q w)) 27 1 ay 0 []:=qe w _ _ 1;cases p with
 |none=>
  have e0:l=[]:=by obtain⟨p,m,e,X⟩:=h;simp only[rE]at e;obtain h0|⟨b,o,e1,hc⟩:=X;{exact h0};{rw[e1]at e;simp at e}
  subst e0;go_wp2_with(at_builtin;refine Lib.wpList_append_run w rfl _ _ 134 134 rfl _ _ rfl rfl _ _ (ar0 (P:=dG) 134 i underlying134 D c N) ?_);go_ret;exact⟨_,_,rfl,qJ.nil _ _,bD _ _⟩
 |some ad=>
  let⟨x,s,r⟩:=h.news;let⟨R,w',y,M,j,E⟩:=bY8 (ty:=134) i D V fI gv N (ZT.nil w) c x s r kW af aU;go_wp2_with(at_builtin;refine Lib.wpList_append_run w rfl _ _ 134 134 rfl _ _ rfl rfl _ _ y ?_);have B:qJ (U (Q w)) w' R l:=⟨by simpa[nR]using M,E⟩;obtain⟨q,m,rfl⟩:=B.form;have Z:Bw w w':=⟨j.os,j.tape,j.output,j.size,λk W=>j.block k W (by simp[jB])⟩;clear M j E y x s r h;go_wp2;go_ret;exact⟨_,_,rfl,B,Z⟩
def ve(P:Program)(m:Region.Mode)(j:iQ)(o:iE)(S:iP)(x:Nat):Nat->Array Bool->Act->G->Prop
 |0,l,a,w=>Region.ready m j l=[]/\o .normal a w
 |n+1,l,a,w=>(Region.ready m j l=[]->o .normal a w)/\∀i∈Region.ready m j l,wpOp P j o i (λr q=>(i=x\/S q)/\ve P m j o S x n (jI l i dY) r q) a w
section
variable {P:Program}{md:Region.Mode}{ops:iQ}{iZ:Exit->Act->World->Prop}{S:World->Prop}{x:Nat}
theorem aN2:∀(n:Nat)(l:Array Bool)(a:Act)(w:G),ve P md ops iZ S x n l a w->wpAny P md ops iZ n l a w
 |0,_,_,_,h=>h
 |n+1,_,_,_,h=>⟨h.1,λi m=>wpOp_mono (λo j k=>aN2 n _ o j k.2) (h.2 i m)⟩
variable {v:dV}{i:Nat}{oi:Oper}
theorem dg4(W:ops[i]?=oi)(hs:∀(j:Nat)(o:Oper)cs b,ops[j]?=Y o->o.op≠.select cs b)(hQ:∀c a w,iZ (.panic c) (a.put oi.dst v) w->iZ (.panic c) a w)(hx:∀o,ops[x]?=Y o->∃e∈o.after,Region.binds md e/\e.on=i):∀(n:Nat)(l:Array Bool)(a:Act)(w:G),(∀j q,ops[j]?=Y q->j≠i->l.getD j dY=dF->(∀e∈q.after,Region.binds md e->e.on≠i)->oi.apart ops q)->i∈Region.ready md ops l->YieldsIf P ops S oi v a->S w->ve P md ops iZ S x n (jI l i dY) (a.put oi.dst v) w->ve P md ops iZ S x (n+1) l a w:=by
 intro n
 induction n with
 |zero=>
  intro l a w _ s E B H;refine⟨λe=>(by rw[e]at s;cases s),λj M=>?_⟩;by_cases e:j=i;{rw[e];exact E.wpOp W B ⟨.R B,H⟩};{have k:=ready_mono M e;rw[H.1]at k;cases k}
 |succ n ih=>
  intro l a w hf s E B H;refine⟨λe=>(by rw[e]at s;cases s),λj M=>?_⟩;by_cases e:j=i;{rw[e];exact E.wpOp W B ⟨.R B,H⟩};{
 let⟨D,q,m,Te⟩:=mem_ready.1 M;have iL:∀z∈q.after,Region.binds md z->z.on≠i:=λz N X r=>by have u:=Te z N X;have k0:=(mem_ready.1 s).1;rw[r]at u;by_cases hl:i<l.size;{simp[hl]at k0 u;rw[k0]at u;cases u};{simp[dM0 (Nat.le_of_not_lt hl)]at u}
 have V:j≠x:=λex=>by subst ex;let⟨z,N,X,r⟩:=hx q m;exact iL z N X r
 refine wpOp_mono (λa' Z k=>?_) (wpOp_putIf m (hf j q m e D iL) (λcs b=>hs i oi cs b W) (λcs b=>hs j q cs b m) hQ E (H.2 j (ready_mono M e)));have Cj:S Z:=k.2.1.resolve_left V;refine⟨.R Cj,ih (jI l j dY) a' Z (λk' ok hk R Mb hn=>hf k' ok hk R ?_ hn) (ready_mono s (JF e)) k.1 Cj ?_⟩;{by_cases y:j=k';{rw[<-y];exact D};{rw[getD_set_ne dY y]at Mb;exact Mb}};{rw[Array.setIfInBounds_comm _ _ e];exact k.2.2}}
variable {w:G}{l:Array Bool}{a:Act}
theorem aN1{n:Nat}(h:iZ .normal a w)(hr:Region.ready md ops l=[]:=by kernel_rfl):ve P md ops iZ S x n l a w:=by
 cases n with
 |zero=>exact⟨hr,h⟩
 |succ n=>exact⟨λ_=>h,by rw[hr];simp⟩
variable {n:Nat}{o:Oper}
theorem D5(i:Nat) (h:∀K':Act->G->Prop,Shut (∀a w,(i=x\/S w)->((i=x\/S w)->ve P md ops iZ S x n (jI l i dY) a w)->K' a w)->if jW o (yielded ops a.tmps)then Oper.wp P o a w K' iZ else K' (a.put o.dst jQ) w)(hi:ops[i]?=o:=by(simp only[rB,sR,sQ];rfl))(hr:Region.ready md ops l=[i]:=by kernel_rfl):ve P md ops iZ S x (n+1) l a w:=by
 refine⟨λe=>?_,λj hj=>?_⟩;{rw[hr]at e;cases e};{rw[hr]at hj;cases rC.1 hj;exact wpOp_step hi (λK' hK=>h K' (λa w hS hW=>hK a w ⟨hS,hW hS⟩))}
def TE(P:Program)(m:Region.Mode)(j:iQ)(o:iE)(S:iP)(x:Nat)(l:Array Bool)(i:Nat)(a a':Act):Prop:=∀n w,S w->ve P m j o S x n (jI l i dY) a' w->ve P m j o S x (n+1) l a w
theorem Ym{v:dV}{l:Array Bool}{a a':Act}(hi:ops[i]?=oi:=by(simp only[rB,sR,sQ];rfl))(hs:Region.noSelect ops:=by kernel_rfl)(hf:Region.free md ops l i:=by kernel_rfl)(hr:(Region.ready md ops l).contains i:=by kernel_rfl)(hx:((ops[x]?.map λo=>o.after.toList.any λe=>Region.binds md e&&e.on==i).getD dF)=dY:=by kernel_rfl)(hQ:∀c a w,iZ (.panic c) (a.put oi.dst v) w->iZ (.panic c) a w:=by exactλ_ _ _ h=>h)(hg:jW oi (yielded ops a.tmps):=by rfl)(hy:∀w,S w->(execOp a.eval oi).run P w=.ok (.value v) w:=by(intro w' pf;(try dsimp only at pf);go_simp;try with_reducible rfl))(ha:a.put oi.dst v=a':=by(simp only[Act.put,xa,xb,xc];rfl)):TE P md ops iZ S x l i a a':=
 λn w hS h=>dg4 hi (Region.noSelect_spec hs) hQ (λo ho=>by rw[ho]at hx;simp only[JE,tv,VU,gP,Gi]at hx;obtain⟨e,he,h1,h2⟩:=hx;exact⟨e,by simpa using he,h1,h2⟩) n l a w (Region.free_spec hi hf) (by simpa using hr) (Or.L ⟨hg,hy⟩) hS (ha▸h)
theorem tEo(i:Nat){v:dV}{a a':Act}(hS:S w)(h:ve P md ops iZ S x n (jI l i dY) a' w)(hi:ops[i]?=oi:=by(simp only[rB,sR,sQ];rfl))(hr:Region.ready md ops l=[i]:=by kernel_rfl)(hg:jW oi (yielded ops a.tmps):=by rfl)(hy:∀w,S w->(execOp a.eval oi).run P w=.ok (.value v) w:=by(intro w' pf;(try dsimp only at pf);go_simp;try with_reducible rfl))(ha:a.put oi.dst v=a':=by(simp only[Act.put,xa,xb,xc];rfl)):ve P md ops iZ S x (n+1) l a w:=by
 refine⟨λe=>(by rw[hr]at e;cases e),λj hj=>?_⟩;rw[hr]at hj;obtain rfl:=rC.1 hj;have hY:YieldsIf P ops S oi v a:=Or.L ⟨hg,hy⟩;exact hY.wpOp hi hS ⟨.R hS,ha▸h⟩
variable {a':Act}
theorem tEn(i:Nat)(hS:S w)(h:ve P md ops iZ S x n (jI l i dY) a' w)(t:TE P md ops iZ S x l i a a':=by exact Ym):ve P md ops iZ S x (n+1) l a w:=t _ _ hS h
theorem tED(i0 i1 i2 i3:Nat){a0 a1 a2 a3 a4:Act}(hS:S w)(h:ve P md ops iZ S x n (jI (jI (jI (jI l i0 dY) i1 dY) i2 dY) i3 dY) a4 w)(x0:TE P md ops iZ S x l i0 a0 a1:=by exact Ym)(x1:TE P md ops iZ S x (jI l i0 dY) i1 a1 a2:=by exact Ym)(x2:TE P md ops iZ S x (jI (jI l i0 dY) i1 dY) i2 a2 a3:=by exact Ym)(x3:TE P md ops iZ S x (jI (jI (jI l i0 dY) i1 dY) i2 dY) i3 a3 a4:=by exact Ym):ve P md ops iZ S x (n+4) l a0 w:=x0 _ _ hS (x1 _ _ hS (x2 _ _ hS (x3 _ _ hS h)))
variable {K:Act->G->Prop}
theorem JA(hK:Shut (∀a w,(i=x\/S w)->((i=x\/S w)->ve P md ops iZ S x n l a w)->K a w))(hS:S w)(h:S w->ve P md ops iZ S x n l a' w)(ha:a=a':=by((try simp only[Act.put,xa,xb,xc]);rfl)):K a w:=hK.out _ _ (.R hS) λ_=>ha▸h hS
theorem oGX(hK:Shut (∀a w,(x=x\/S w)->((x=x\/S w)->ve P md ops iZ S x n l a w)->K a w))(h:ve P md ops iZ S x n l a w):K a w:=hK.out _ _ (.L rfl) λ_=>h
theorem bP1(x:Nat){id:Nat}(hS:S w.drew)(h:S w.drew->ve P .any ops iZ S x ops.size (Array.replicate ops.size dF) a w.drew)(hm:P.follows .mixedOrders:=by kernel_rfl):(Code.region id ops dY).wp P iZ a w:=
 wp_region_any hm (aN2 _ _ _ _ (h hS))
end
def NM(nd:au):Prop:=(J nd.A<=136/\J nd.V<=41/\J nd.y<=51)/\(0<=nd.M/\nd.M<=3)/\(0<=nd.D/\nd.D<2^64)/\(0<=nd.P/\nd.P<2^64)/\(0<=nd.F/\nd.F<2^64)/\∀i∈nd.y,0<=i/\i<2^64
structure SmW(ss:List aB)(ns:List au):Prop where
 n1:J ss<=51
 n2:J ns<=201
 s:∀s∈ss,0<=s.1/\s.1<2^64
 d:∀nd∈ns,NM nd
theorem Zz:∀(l m:LI),l.Nodup->(∀x∈l,x∈m)->J l<=J m
 |[],m,_,_=>de _
 |x::l,m,hd,hs=>by rw[Gn]at hd;have j:=hs x al;have h:=Zz l (m.erase x) hd.2 λy i=>(List.mem_erase_of_ne (λe=>hd.1 (by rw[<-e];exact i))).2 (hs y (by simp[i]));rw[List.length_erase_of_mem j]at h;have:=ch9 j;rw[mO];omega
theorem eK8{α:Type}[DecidableEq α](c:α)(s:List α):((gR c s).map λn=>J n+1).sum=J s+1:=by
 induction s with
 |nil=>rfl
 |cons x l ih=>
  rw[gR];split;{rw[od,VR,ih,mO,BJ];omega};{
 cases h:gR c l with
 |nil=>have:=eK6 c (s:=l);rw[h]at this;simp at this
 |cons n ns=>
  rw[h]at ih;simp only[od,VR,mO]at ih⊢;omega}
theorem aQ6(C:Nat):∀l:iN,(∀x∈l,x<=C)->l.sum<=C*J l
 |[],_=>de _
 |x::l,h=>by have m:=aQ6 C l λy i=>h y (by simp[i]);have j:=h x al;rw[VR,mO,ba4];omega
theorem Jm{p:LI}(h:vp p):J p<=136:=by
 cases p with
 |nil=>simp
 |cons c t=>
  rw[vp,st,gP,gP,mn,mL]at h;obtain⟨-,r,q⟩:=h;have m:=aQ6 17 ((gR 47 t).map λn=>J n+1) (λx i=>by obtain⟨n,j,rfl⟩:=fM.1 i;have:=q n j;simp only[qQ,gP,mn]at this;omega)
  rw[eK8,iC]at m;rw[mO];omega
theorem aF9(w:G)(C:iA)(e:TypeId)(fr:Nat×Nat)(i:Nat):I (jA w (dO C e fr)) (Aw w i)=C[i]?:=by
 have h:(jA w (dO C e fr)).heap[U (Q w)]?=dO C e fr:=by show(w.heap.push (dO C e fr))[U (Q w)]?=_;simp
 unfold World.cell?;rw[h];rfl
theorem dV0(m:Le l n)(h:Rd w (.S p n c) l)(hb:aD l)(hl:n<=2000000)(s0:0<=s)(s1:s<2^64):dQ dG 230 #[.U s,.S p n c] w λe w'=>∃r x,e=dR (.S r (n+20) x)/\Own (U (Q w)) w' (.S r (n+20) x) (uh s l)/\Bw w w':=by
 go_in
 go_wp21
 refine(Zt (n:=4) (v:=n) af af af).h ?_;rintro e j⟨V,c1,rfl,o1,az⟩;have hcv:=Lib.run_convert_bytes_const (P:=dG) j 22 5 #[jK .u8 76,jK .u8 72,jK .u8 83,jK .u8 49] 4 4 underlying22 underlying5;simp only[show(#[Value.int .u8 76,jK .u8 72,jK .u8 83,jK .u8 49]:iA).size=4 from rfl]at hcv;have E:Rd (jA j (dO #[jK .u8 76,jK .u8 72,jK .u8 83,jK .u8 49] 5 (4,5))) (.T (U (Q j)) 4 4) En:=by
  refine⟨_,_,rfl,.R ⟨U (Q j),0,rfl,λi u=>?_⟩⟩;rw[Zy]at u
  match i,u with
  |0,_=>(rw[nY,aF9];rfl)
  |1,_=>(rw[nY,aF9];rfl)
  |2,_=>(rw[nY,aF9];rfl)
  |3,_=>(rw[nY,aF9];rfl)
 have y:Bw j (jA j (dO #[jK .u8 76,jK .u8 72,jK .u8 83,jK .u8 49] 5 (4,5))):=cY
 go_wp21
 refine(Zt (n:=8) (v:=s) af s0 s1).h ?_;rintro e D⟨R,c2,rfl,Z,q⟩;have o:=aj (aj az y) q;have AD:=ae m
 go_wp21
 refine(Gt (g:=U (Q D)) (vs:=[.T (U (Q j)) 4 4,.S R 8 c2,.S V 4 c1,.S p n c]) [En,le s 8,le n 4,l] (lm:=Hj s l) (n:=n+16) 4 rfl (ai (by rw[eQ7,Hj,ae m])) (ai (by rw[aq1,ae m])) (dD0 al al al al ((E.H q).H cY) (Z.rd.H cY) (((o1.rd.H y).H q).H cY) ((h.H o).H cY)) af af).h ?_;rintro e w3⟨N,c3,rfl,X,aL⟩;have B:=aj (o.alloc o.size _) aL
 go_wp21
 refine(bP6 (p:=N) (c:=c3) (n:=n+16) (l:=Hj s l) (ai (by rw[aq1,ae m])) X.rd (aS0 (hb)) af).h ?_;rintro e w4⟨M,c4,rfl,W,dz⟩;go_wp2;go_ret;exact⟨M,c4,rfl,Own.h W B.size,aj B dz⟩
theorem dr2(r:Le l n)(h:Rd w (.S p n c) l)(hb:aD l)(hl:n<=2000000)(s0:0<=s)(s1:s<2^64):dQ dG 158 #[.U s,.S p n c] w λe w'=>∃p' c',e=dR (.S p' (n+20) c')/\Own (U (Q w)) w' (.S p' (n+20) c') (uh s l)/\Bw w w':=by
 have AD:=ae r;have r0:Ow w (jA w (dO #[jK .u8 76,jK .u8 72,jK .u8 83,jK .u8 49] 5)) (.T (U (Q w)) 4 4) En:=
  aZ9 w #[jK .u8 76,jK .u8 72,jK .u8 83,jK .u8 49] 4 aU kW rfl
 go_in
 go_wp21
 refine(Zv 8 s _ af s0 s1).h ?_;rintro e w1⟨p1,c1,rfl,o1,az⟩;have Z:Bw w w1:=aj cY az;have N:=Own.H r0 az;have E:=Z.size;have q:J (En++le s 8)=12:=by simp[xN,Zy]
 go_wp2_with(at_builtin;refine D4 rfl rfl (B:=U (Q w)) (.T (U (Q w)) 4 4) (l:=En) (m:=le s 8) (lm:=En++le s 8) di p1 c1 8 (ai (by exact xN _ _)) rfl rfl N o1.rd (by rw[xN,Zy];omega) E ?_);intro p2 c2 w2 V fx
 try rw[q]at V⊢
 go_wp21
 refine(Zv 4 n _ af af af).h ?_;rintro e w3⟨p3,c3,rfl,o3,aL⟩;have X:=aj (Ct Z fx N aU E) aL;have M:=Own.H V aL;have D:=X.size;have j:J (En++le s 8++le n 4)=16:=by simp[xN,Zy]
 go_wp2_with(at_builtin;refine D4 rfl rfl (B:=U (Q w)) (.S p2 12 c2) (l:=En++le s 8) (m:=le n 4) (lm:=En++le s 8++le n 4) di p3 c3 4 (ai (by exact xN _ _)) rfl rfl M o3.rd (by rw[xN,q];omega) D ?_);intro p4 c4 w4 u nC;have b4:=Ct X nC M aU D;have y:=b4.size;have i:J (Hj s l)=n+16:=by rw[aq1,ae r]
 try rw[j]at u⊢
 go_wp2_with(at_builtin;refine D4 rfl rfl (B:=U (Q w)) (.S p4 16 c4) (l:=En++le s 8++le n 4) (m:=l) (lm:=Hj s l) (ai (by rw[Hj,ae r])) p c n r rfl rfl u (h.H b4) (by rw[j];omega) y ?_);intro p5 c5 w5 R mY;have W:=Ct b4 mY u aU y
 try rw[i]at R⊢
 go_wp21
 refine(bS2 (p:=p5) (c:=c5) (n:=n+16) (l:=Hj s l) (ai (by exact i)) R.rd (aS0 hb) af).h ?_;rintro e w6⟨p6,c6,rfl,o6,je⟩;go_wp2;go_ret;exact⟨p6,c6,rfl,Own.h o6 W.size,aj W je⟩
def num:LI->Int
 |[]=>0
 |b::l=>b+256*num l
theorem ce5(h:aD l):0<=num l/\num l<256 ^ J l:=by
 induction l with
 |nil=>simp[num]
 |cons b l ih=>
  let⟨m,j⟩:=ih (λz i=>h z (by simp[i]));let⟨r,q⟩:=h b al;simp only[num,mO,au9];omega
theorem Hx(h:aD l)(j:J l<=8):0<=num l/\num l<2^64:=by
 let⟨a,b⟩:=ce5 h;refine⟨a,Int.lt_of_lt_of_le b ?_⟩;have i:((256 ^ J l:Nat):Int)<=2^64:=by have m:=ba3 (n:=256) af j;omega
 rw[Int.natCast_pow]at i;exact i
theorem df3{k:Int}(z0:0<=z)(i:z<256)(j:0<=k)(h:z+256*k<2^64):jY jU (jY jU z+jY jU (256*k))=z+256*k:=by
 rw[u64_wrap_id z z0 af,u64_wrap_id (256*k) af af,u64_wrap_id _ af h]
theorem bf8(l:LI)(p:OA)(c n:Nat)(s:Le l n)(w:G)(h:Rd w (.S p n c) l)(hb:aD l)(N:n<=8)(hc:n<=c)(hm:c<=maxLen):dQ dG 91 #[.S p n c] w (Rb (.U (num l)) w):=by
 induction l generalizing p c n w with
 |nil=>
  obtain rfl:=ae s;clear h;go_in;go_wp2;go_ret;exact⟨rfl,bD _ _⟩
 |cons z l ih=>
  have e:n=J l+1:=s.C;have W:=ai e;obtain⟨b,o,rfl,-,jd⟩:=h.at al;let⟨z0,z1⟩:=hb z al;let⟨n0,E⟩:=Hx (l:=l) (λz j=>hb z (by simp[j])) af;let⟨m0,m1⟩:=Hx (l:=z::l) hb bL;have EN:num (z::l)=z+256*num l:=rfl;have c0:=jd 0 al;simp at c0;have V:((n:Int)==0)=dF:=bd3.2 af;have R:=qx n c;have M:=gS 1 n;have B:=uX 0 n;let⟨X,D⟩:0<n/\1<=n:=af;by_cases r:c=1;{
 have x:n=1:=af;subst r x;have IH:O (∀(w':G),Bw w w'->Cp 91 #[.S (Ad b o) 0 0] w' λe i=>e=dR (.U (num l))/\Bw w' i):=by intro w' m;refine ih _ 0 0 (by show _=_;omega) w' ?_ (λz j=>hb z (by simp[j])) af af af;refine(h.H m).cut 1 1 af al _ (.L af) _ l ?_;rw[Hz (l:=l) af];rfl
 exact bN7};{
 have y:(c==1)=dF:=by simp[r]
 have IH:O (∀(w':G),Bw w w'->Cp 91 #[.S (Ad b (o+1)) (n-1) (c-1)] w' λe i=>e=dR (.U (num l))/\Bw w' i):=by intro w' m;refine ih _ (c-1) (n-1) (by show _=_;omega) w' ?_ (λz j=>hb z (by simp[j])) af af af;refine(h.H m).cut 1 n af bL _ (.R rfl) _ l ?_;rw[e];simp
 exact bN7}
open Go.Shelf
attribute [local go_sem] Oper.semAt_some
abbrev IB:={z:Int×Int // 0<=z.2/\z.2<256}
def Jn{α:Type}(f:Nat->α)(k:Nat):List α:=(jR k).map f
theorem bQ5{α:Type}(f:Nat->α)(k:Nat):Jn f (k+1)=Jn f k++[f k]:=by simp[Jn,bc7]
theorem di6{α:Type}(f:Nat->α)(k:Nat):J (Jn f k)=k:=by simp[Jn]
theorem aD.get(h:aD l)(i:Nat):0<=l[i]?.getD 0/\l[i]?.getD 0<256:=by
 by_cases j:i<J l;{simp[j];exact h _ (De j)};{simp[j]}
def tf(n Bs:Nat)(A B:G):Prop:=Below n A B/\I B (Ad Bs 0)=I A (Ad Bs 0)
theorem tf.Z{n Bs:Nat}{A B C:G}(h:tf n Bs A B)(k:tf n Bs B C):tf n Bs A C:=⟨h.1.Z k.1,k.2.Z h.2⟩
theorem tf.refl(n Bs:Nat)(A:G):tf n Bs A A:=⟨bD _ _,rfl⟩
theorem tf.put{n Bs:Nat}(j:n<=U (Q w))(s:Bs<U (Q w))(W:G)(l:Nat)(o i:Obj)(m:U (Q w)<=l)(h:W.heap[l]?=o)(r:o.isCells=dF)(q:o.isWalk=dF):tf n Bs W (W.putObj l i):=
 ⟨belowK_b j W l o i m h r q,JH (a:=(Ad Bs 0)) (World.putObj_heap_other (by show Bs≠l;omega))⟩
def P8(l:LI)(h:aD l)(j:Nat):IB:=⟨((J l:Int)-1-j,l[J l-1-j]?.getD 0),h.get _⟩
set_option maxRecDepth 100000 in
theorem eT9(F:Fence)(h7:F.fn 266)(JR:F.round=dN)(hn:1<=n){L Bs S b o len cap:Nat}(y:aD l)(el:J l=len)(hlen:len<=8)(hb:b<S)(s Jx:List IB->G->Prop)(hY:∀q x W,s q W->J q<len->YieldAt F (n-1) dG L #[.I x.1.1,jK .u8 x.1.2] W λe r=>
   (e=dR (jO dY)/\s (q++[x]) r/\tf S Bs W r)\/(e=dR (jO dF)/\Jx (q++[x]) r)){W:G}(E:I W (Ad Bs 0)=dS (Ad b o) len cap)(hc:∀j,j<len->I W (Ad b (o+j))=Y (jK .u8 (l[j]?.getD 0)))(h0:s [] W):CallsIn F n dG 266 #[.func (.yield L) #[] #[],Pz Bs] W λe r=>(∃v,e=dR v)∧
   ((∃V,V=Jn (P8 l y) len/\s V r)\/(∃q,Jx q r)):=by
 refine yI func266 rfl h7 ?_ JR;simp only[ntmps266,GX,Nat.reduceAdd,Nat.reduceSub];gi_wp2
 gi_loopw [3] (λi wr=>∃k:Nat,k<=len/\i=.I ((len:Int)-1-k)/\s (Jn (P8 l y) k) wr/\tf S Bs W wr) (λi _=>jN (intOf i+1))
 case atStart=>exact⟨0,de _,al,h0,tf.refl _ _ _⟩
 case round=>(
 obtain⟨k,hk,rfl,u,R⟩:=hrel;by_cases N:k<len;{
 obtain⟨m,em⟩:∃m:Nat,m=len-1-k:=⟨_,rfl⟩;have B:(len:Int)-1-k=(m:Int):=af;let⟨z,M⟩:=aF (l[m]?.getD 0);have sk:I wr (Ad b (o+m))=Y (jK .u8 z):=(R.1.cell (p:=(Ad b (o+m))) hb).Z ((hc m af).Z (by rw[M]));have Tb:I wr (Ad Bs 0)=dS (Ad b o) len cap:=R.2.Z E;let⟨fn,X,D,body,Z,hR⟩:=hY _ (P8 l y k) wr u (by rw[di6];exact N);have ex:(P8 l y k).1=((m:Int),z):=by simp only[P8,el,B,em,M]
 rw[ex]at Z;dsimp only at Z;rw[B];have hmi:=cM m len;let⟨E1,HK⟩:=aQ B N;clear em B ex N hc M;gi_wp2;refine hR.h ?_;rintro e W3(⟨rfl,GF,nw⟩|⟨rfl,Tn⟩);{
 gi_wp2;go_roundw;exact⟨k+1,HK,by have:=ae E1;congr 1;omega,by rw[bQ5];exact GF,R.Z nw⟩
 case measure=>simp[intOf]<;>omega}
 {gi_wp2;refine cX (BM rfl _ _ _) rfl ?_;exact⟨⟨_,rfl⟩,.R ⟨_,Tn⟩⟩}};{cases(af:k=len);gi_wp2;go_end0;exact⟨⟨_,rfl⟩,.L ⟨_,rfl,u⟩⟩})
variable {a:OA}
theorem eT8(F:Fence)(i:F.fn 254)(j:F.round=dN):CallsIn F n dG 254 #[.S a len cap] w λe w'=>e=dR (.func (.func 266) #[] #[Pz (U (Q w))])/\w'=jA w (dO #[.S a len cap] 22):=by
 refine yI func254 rfl i ?_ j;simp only[ntmps254,GX,Nat.reduceAdd,Nat.reduceSub];gi_wp2;go_ret;exact⟨rfl,rfl⟩
theorem eT7(F:Fence)(V:F.fn 266)(JR:F.round=dN)(M:1<=n){Bs r b o len cap:Nat}(y:aD l)(el:J l=len)(i:len<=8)(N:b<r)(S:Bs<U (Q w))(Z:r<=U (Q w))(q:I w (Ad Bs 0)=dS (Ad b o) len cap)(hc:∀j,j<len->I w (Ad b (o+j))=Y (jK .u8 (l[j]?.getD 0))):SeqStopsK F n dG 266 #[Pz Bs] (λx:IB=>#[.I x.1.1,jK .u8 x.1.2]) (tf r Bs) (λs=>s=Jn (P8 l y) len) (λ_=>True) len w:=λL D Jx W u _ _ R X=>by
 refine(eT9 F V JR M (o:=o) (cap:=cap) y el i N D Jx R ((u.cell (p:=(Ad Bs 0)) (by show Bs<_;omega)).Z q) (λj m=>(u.cell (p:=(Ad b (o+j))) (by show b<_;omega)).Z (hc j m)) X).h ?_;rintro e W'⟨he,⟨s,E,m⟩|⟨B,m⟩⟩;{exact⟨he,.L ⟨_,E,m⟩⟩};{exact⟨he,.R ⟨_,iH,m⟩⟩}
def acc(pre:List IB):Int:=pre.foldl (λa x=>a*256+x.1.2) 0
theorem bC8{pre:List IB}(x:IB):acc (pre++[x])=acc pre*256+x.1.2:=by simp[acc]
theorem eW9(k:Nat):∀i:List IB,J i=k->0<=acc i/\acc i<256 ^ k:=by
 induction k with
 |zero=>intro i h;rw[Hz h];simp[acc]
 |succ k ih=>
  intro i h;obtain rfl|⟨m,x,rfl⟩:=i.eq_nil_or_concat;{simp at h};{rw[List.concat_eq_append]at h⊢;rw[bC8];let⟨o,j⟩:=ih m (by simpa using h);have:=x.2;rw[au9];omega}
theorem eW7{pre:List IB}(h:J pre<8):0<=acc pre/\acc pre*256+256<=2^64:=by
 let⟨m,j⟩:=eW9 (J pre) pre rfl;refine⟨m,?_⟩;have i:((256 ^ J pre:Nat):Int)<=72057594037927936:=by have o:=ba3 (n:=256) af (show J pre<=7 by omega);omega
 rw[Int.natCast_pow]at i;have q:acc pre<72057594037927936:=Int.lt_of_lt_of_le j i;omega
theorem eW8(l:LI)(j:aD l)(k:Nat)(m:k<=J l):acc (Jn (P8 l j) k)=num (jD (J l-k) l):=by
 induction k with
 |zero=>simp[Jn,acc,num]
 |succ k ih=>
  rw[bQ5,bC8,ih af];have i:J l-1-k<J l:=af;have e:jD (J l-(k+1)) l=l[J l-1-k]::jD (J l-k) l:=by rw[show J l-(k+1)=J l-1-k by omega,Lx i];congr 2;omega
  rw[e,num];simp[P8,i];omega
set_option maxRecDepth 100000 in
theorem dH8(F:Fence)(h3:F.fn 229)(h5:F.fn 254)(h6:F.fn 266)(N:F.round=dN)(hn:3<=n)(hB:aD l)(el:J l=len)(r:len<=8)(V:0<len) (hc:∀j,j<len->I w (Ad b (o+j))=Y (jK .u8 (l[j]?.getD 0))):CallsIn F n dG 229 #[.S (Ad b o) len cap] w λe W'=>e=dR (.U (num l))/\Bw w W':=by
 have h1:1<=n:=af;refine callsIn_of_wp_marks func229 rfl h3 ?_ N;simp only[ntmps229,GX,Nat.reduceAdd,Nat.reduceSub]
 gi_wp2_with(gi_at_call 254;refine(eT8 F h5 N).h ?_;rintro e w'⟨rfl,rfl⟩)
 let⟨M,m⟩:=aF (jA (jA w (dO #[.U 0] 27)) (dO #[.S (Ad b o) len cap] 22));have z0:U (Q M)=U (Q w)+2:=by rw[m];simp
 have k0:I M (Aw w 0)=dU 0:=by rw[m];simp
 have f0:jF M (Aw w 0)=dF:=by rw[m];simp
 have k1:I M (Ax w 0)=dS (Ad b o) len cap:=by rw[m];simp
 have Pm:Bw w M:=by rw[m];exact(db.alloc aU _).alloc al _
 have u:b<U (Q w):=my w _ (hc 0 V);rw[<-m];clear m;refine wpIn_rangeFunc_ownF N h1 (gf:=266) (lb:=#[Pz (U (Q w)+1)]) rfl h6 (enters_of func266 aS rfl)
  (eT7 F (n:=n-1) h6 N af hB el r u af af k1 (λj hj=>(Pm.cell (p:=(Ad b (o+j))) u).Z (hc j hj))) (λh k=>h.Z k) (tf.put af af) db (λ_=>rfl)
  (λi W=>(I W (Aw w 0)=dU (acc i)/\jF W (Aw w 0)=dF)/\Bw w W)
  (λ_ _ _=>False)
  (OwnFrom.and (Own.from (λs A B row q hg Z=>⟨cell_kept q.1 hg Z,(frozen_kept q.1 hg Z).Z q.2⟩) _) (ownFrom_below aU af))
  (λ_ _ _ _ _ q _ _=>q)
  ⟨⟨k0,f0⟩,Pm⟩
  (λx=>{tmps:=#[.S (Ad b o) len cap,jQ,.U 0,Pz (U (Q w)),jQ,jK .u8 x.1.2,.S (Ad b o) len cap,.func (.func 266) #[] #[Pz (U (Q w)+1)],.I x.1.1,jK .u8 x.1.2,jQ,jQ,jQ,jQ,jQ,jQ],defers:=[]}) ?assign ?body ?done ?stop
 case assign=>(
 intro l x W K hK;gi_wp2;exact hK)
 case body=>(
 rintro L i x W⟨⟨X,hf⟩,R⟩lr;let⟨a0,a1⟩:=eW7 (pre:=i) af;let⟨x0,x1⟩:=x.2;have HS:=ai (bC8 (pre:=i) x);generalize acc i=a at*;generalize x.1.2=y at*;have E:bits .or jU (a*256) y=a*256+y:=by exact bits_join jU 64 bf wraps_u64 8 (a*256) y af af af x0 af af
 change O _ at E
 gi_wp2;refine⟨KeepsOthers.setCell _ _ _,⟨(bD (U (Q w)) W).setCell (p:=(Aw w 0)) aU _,Ze _ _ _ _ al⟩,⟨?_,by rw[Gl];exact hf⟩,R.setCell (p:=(Aw w 0)) aU _⟩;rw[ae HS,<-ae E];exact Zd _ _ _ (by rw[X];rfl))
 case done=>(
 rintro D ys W hD rfl⟨⟨X,hf⟩,R⟩hK;gi_wp2;refine⟨al,.L ⟨_,_,rfl,run_takeDeferred hK,?_⟩⟩;exact⟨_,results_tmp rfl _ _ _,by rw[<-el,eW8 l hB (J l) aU];simp,R.Z (belowK_b (w:=w) aU W D _ _ af hK rfl rfl)⟩)
 case stop=>(
 rintro D c i W _ _ h _;exact h.elim)
theorem YV(r:Le l n)(h:Rd w (.S p n c) l)(m:aD l)(i:n<=8)(q:0<n):Cp 229 #[.S p n c] w (Rb (.U (num l)) w):=by
 have e:=ae r;obtain⟨b,o,rfl,-,hc⟩:=h.at af;refine JI.1 (dH8 Fence.wide (n:=3) iH iH iH rfl af (b:=b) (o:=o) (len:=n) (cap:=c) (l:=l) m e i q (w:=w) (λj s=>?_));rw[hc j af];rfl
def sub(l:LI)(i j:Nat):LI:=jD i (jT j l)
theorem Be{i:Nat}(m:j<=J l):J (sub l i j)=j-i:=by simp[sub];omega
theorem aD.sub(h:aD l)(i j:Nat):aD (sub l i j):=λz m=>h z (Rz (Oa m))
theorem cd3(q:I w (Ad g 0)=v0)(o:Rd w v0 l0):xx w g [v0] [l0]:=by
 refine⟨rfl,λj v x m i=>?_⟩
 match j,m,i with
 |0,m,i=>simp at m i;subst m i;exact⟨q,o⟩
def aL8(w:G)(S:Int)(R:LI)(N:Nat)(code:Int)(e:Ending)(w':G):Prop:=
 ∃p c,e=dR (dT #[.U S,.S p N c,.I code])/\Own (U (Q w)) w' (.S p N c) R/\Bw w w'
def QG(w:G)(l:LI)(n:Nat)(e:Ending)(w':G):Prop:=
 if uh (num (sub l 4 12)) (sub l 16 (n-4))=l then aL8 w (num (sub l 4 12)) (sub l 16 (n-4)) (n-20) 0 e w' else aL8 w 0 [] 0 13 e w'
theorem dV4(j:n<20):dQ dG 192 #[.S p n c] w (aL8 w 0 [] 0 13):=by
 have i:(n:Int)<20:=af;go_in;go_wp2;refine cX (v:=dT #[.U 0,ay,.I 13]) (by simp[results,results192,go_sem]) rfl ⟨dN,0,rfl,qe _ _ _ _,bD _ _⟩
theorem dr3(j:n<20):dQ dG 93 #[.S p n c] w (aL8 w 0 [] 0 13):=by
 have i:(n:Int)<20:=af;go_in;go_wp2;refine cX (v:=dT #[.U 0,ay,.I 13]) (by simp[results,results93,go_sem]) rfl ⟨dN,0,rfl,qe _ _ _ _,bD _ _⟩
theorem dV6(W:Le l n)(h:Rd w (.S (Ad b o) n c) l)(y:aD l)(hn:20<=n)(hm:Mg n)(hc:n<=c)(qn:c<=maxLen):dQ dG 192 #[.S (Ad b o) n c] w (QG w l n):=by
 have tI:¬(n:Int)<20:=af;obtain⟨k,ek⟩:∃k:Nat,(n:Int)-4=(k:Int):=⟨n-4,af⟩;have g1:=qx n c;have g2:=gS 12 c;have g3:=qx k c;have g4:=gS 16 k;let⟨g5,g6⟩:c≠4/\c≠16:=af;have AD:=ae W;have N:n=k+4:=af;have QO:J (sub l 4 12)=8:=Be af;have QN:J (sub l 16 k)=k-16:=Be af;have V:∀(d:Nat)(i:G),Bw w i->Rd i (.S (Ad b (o+4)) 8 d) (sub l 4 12):=λd i D=>(h.H D).cut 4 12 af af _ (.R rfl) d _ rfl;have R:∀(d:Nat)(i:G),Bw w i->Rd i (.S (Ad b (o+16)) (k-16) d) (sub l 16 k):=λd i D=>(h.H D).cut 16 k af af _ (.R rfl) d _ rfl;let⟨s0,s1⟩:=Hx (y.sub 4 12) af;let⟨r,H1,M,HK,xz,Fx,HH⟩:=cQ6 y QO QN N V R h;have X:uh (num (sub l 4 12)) (sub l 16 (n-4))=uh (num (sub l 4 12)) (sub l 16 k):=by rw[N];rfl
 have HE:=ai X;clear y QO QN V R h AD N X;go_in
 go_wp21
 refine cL (YV (l:=sub l 4 12) (n:=8) H1 (ae xz _ _ db) (r.sub 4 12) af af) λw1 b1=>?_
 go_wp21
 refine(dV0 (s:=num (sub l 4 12)) (n:=k-16) (l:=sub l 16 k) M (ae Fx _ _ b1) (r.sub 16 k) af s0 s1).h ?_;rintro e w2⟨p2,c2,rfl,o2,aA⟩;have Z:=aj b1 aA
 go_wp21
 refine cL (ai9 (k:=n) (l:=uh (num (sub l 4 12)) (sub l 16 k)) (m:=l) (ai (by rw[bV1,ae M])) W o2.rd (HH.H Z) (bV3 (r.sub 16 k)) r) λw3 aL=>?_;have j:=aj Z aL;by_cases hq:uh (num (sub l 4 12)) (sub l 16 k)=l;{
 have x:dD (uh (num (sub l 4 12)) (sub l 16 k)=l):=by simp[hq]
 rw[x];have E:=ai hq
 go_wp21
 refine(Gt (g:=U (Q w3)) (vs:=[.S (Ad b (o+16)) (k-16) (c-16)]) [sub l 16 k] (lm:=sub l 16 k) (n:=k-16) 1 rfl (by show _=_;rw[aG0]) M (cd3 al ((ae Fx _ _ j).H (db.alloc aU _))) af af).h ?_;rintro e w4⟨u,B,rfl,o4,dz⟩;have b4:=aj (j.alloc j.size _) dz;have o5:Ow w w4 (.S u (k-16) B) (sub l 16 k):=Own.h o4 (by have:=j.size;simp;omega);go_wp2;refine cX (v:=dT #[.U (num (sub l 4 12)),.S u (k-16) B,.I 0]) (by simp[results,results192,go_sem]) rfl ?_;unfold QG;rw[ae HE,aK (ae E)];have e1:n-20=k-16:=aM (ae HK);have e2:n-4=k:=aM (ae HK);rw[e1,e2];exact⟨u,B,rfl,o5,b4⟩};{
 have x:dD (uh (num (sub l 4 12)) (sub l 16 k)=l)=dF:=by simp[hq]
 rw[x];have E:=ai hq;go_wp2;refine cX (v:=dT #[.U 0,ay,.I 13]) (by simp[results,results192,go_sem]) rfl ?_;unfold QG;rw[ae HE,aJ (ae E)];exact⟨dN,0,rfl,qe _ _ _ _,j⟩}
theorem dr4(m:Le l n)(h:Rd w (.S (Ad b o) n c) l)(B:aD l)(hn:20<=n)(hm:Mg n)(hc:n<=c)(qn:c<=maxLen):dQ dG 93 #[.S (Ad b o) n c] w (QG w l n):=by
 have tI:¬(n:Int)<20:=af;obtain⟨k,ek⟩:∃k:Nat,(n:Int)-4=(k:Int):=⟨n-4,af⟩;have g1:=qx n c;have g2:=gS 12 c;have g3:=qx k c;have g4:=gS 16 k;let⟨g5,g6⟩:c≠4/\c≠16:=af;have AD:=ae m;have X:n=k+4:=af;have QO:J (sub l 4 12)=8:=Be af;have QN:J (sub l 16 k)=k-16:=Be af;have r1:∀(d:Nat)(w':G),Bw w w'->Rd w' (.S (Ad b (o+4)) 8 d) (sub l 4 12):=λd w' M=>(h.H M).cut 4 12 af af _ (.R rfl) d _ rfl;have r2:∀(d:Nat)(w':G),Bw w w'->Rd w' (.S (Ad b (o+16)) (k-16) d) (sub l 16 k):=λd w' M=>(h.H M).cut 16 k af af _ (.R rfl) d _ rfl;let⟨s0,s1⟩:=Hx (B.sub 4 12) af;let⟨x,H1,W,HK,xz,Fx,V⟩:=cQ6 B QO QN X r1 r2 h;have eb:uh (num (sub l 4 12)) (sub l 16 (n-4))=uh (num (sub l 4 12)) (sub l 16 k):=by rw[X];rfl
 have HE:=ai eb;clear B QO QN r1 r2 h AD X eb;go_in
 go_wp21
 refine cL (bf8 (sub l 4 12) _ _ 8 H1 _ (ae xz _ _ db) (x.sub 4 12) af af af) λw1 D=>?_
 go_wp21
 refine(Dj W (ae Fx _ _ D) af).h ?_;rintro e i⟨j,r,rfl,o2,aA⟩;have u:=aj D aA;have z2:=D.size
 go_wp21
 have lG:∀(vs:iA)(w:G),(callFunc 158 vs).run dG w=.ok (.enter 158 vs) w:=λvs w=>aS;have u2:=vz m (V.H u);have u2d:=vz m (V.H u.drew);have y:Rd i.drew (.S j (k-16) r) (sub l 16 k):=o2.rd.H db.drew;have HC:=ai (Qa (bV3 (s:=num (sub l 4 12)) (x.sub 16 k)) x)
 go_region_law(first
  |(refine Yt aY aY aY aY (λ_=>lG _ _) (dr2 W y (x.sub 16 k) af s0 s1) ?_;rintro e Z⟨p3,c3,rfl,o3,EY⟩;refine⟨_,rfl,?_⟩;have N:Below (U (Q i)) i Z:=aj (bD (U (Q i)) i).drew EY;have u3:=vz m (V.H (aj u N));have e1:=vz (l:=uh (num (sub l 4 12)) (sub l 16 k)) (by rw[bV1,ae W]) o3.rd))
 all_goals
  have b3:=aj u N;have q3:Ow w Z (.S j (k-16) r) (sub l 16 k):=Own.h (Own.H o2 N) z2;go_wp2;{
 rename_i hd;have hq:¬uh (num (sub l 4 12)) (sub l 16 k)=l:=by intro e;rw[ae HC,LG e]at hd;cases hd
 refine cX (v:=dT #[.U 0,ay,.I 13]) (by simp[results,results93,go_sem]) rfl ?_;unfold QG;rw[ae HE,aJ hq];exact⟨dN,0,rfl,qe _ _ _ _,b3⟩};{
 rename_i hd;have hq:uh (num (sub l 4 12)) (sub l 16 k)=l:=by by_cases e:uh (num (sub l 4 12)) (sub l 16 k)=l;{exact e};{rw[ae HC,NQ e]at hd;cases hd}
 refine cX (v:=dT #[.U (num (sub l 4 12)),.S j (k-16) r,.I 0]) (by simp[results,results93,go_sem]) rfl ?_;unfold QG;rw[ae HE,aK hq];have e1:n-20=k-16:=aM (ae HK);have e2:n-4=k:=aM (ae HK);rw[e1,e2];exact⟨j,r,rfl,q3,b3⟩}
abbrev R1:=Int×LI
def Jv:List R1->List dV->List dV
 |r::rs,v::vs=>.int jU r.1::v::Jv rs vs
 |_,_=>[]
theorem ar7:∀(j:List R1)(vs:List dV)(i:Nat)(r:R1)(v:dV),j[i]?=r->vs[i]?=v->(Jv j vs)[2*i]?=dU r.1/\(Jv j vs)[2*i+1]?=v
 |[],vs,i,r,v,h,_=>by simp at h
 |r'::j,[],i,r,v,_,h=>by simp at h
 |r'::j,v'::vs,0,r,v,h1,h2=>by simp at h1 h2;subst h1 h2;simp[Jv]
 |r'::j,v'::vs,i+1,r,v,h1,h2=>by have:=ar7 j vs i r v (by simpa using h1) (by simpa using h2);rw[show 2*(i+1)=2*i+1+1 by omega];simpa[Jv]using this
theorem ca2:∀(i:List R1)(vs:List dV)(r:R1)(v:dV),J vs=J i->Jv (i++[r]) (vs++[v])=Jv i vs++[.U r.1,v]
 |[],[],r,v,_=>rfl
 |[],_::_,r,v,h=>by simp at h
 |_::_,[],r,v,h=>by simp at h
 |r'::i,v'::vs,r,v,h=>by simp[Jv,ca2 i vs r v (by simpa using h)]
abbrev US(u v:dV):Prop:=∀b,jB u=Y b->jB v≠Y b
structure lY(B:Nat)(w:G)(v:dV)(rs:List R1)(vs:List dV):Prop where
 len:J vs=J rs
 row:w.ownsRow B 92 2 v (J rs) (Jv rs vs)
 own:∀(i:Nat)r u,rs[i]?=Y r->vs[i]?=Y u->Own B w u r.2
 ap:vs.Pairwise US
theorem lY.form{rs:List R1}(h:lY B w v rs vs):∃p c,v=.S p (J rs) c:=by
 obtain⟨rfl,i⟩|⟨g,m,j,rfl,_⟩:=h.row.2;{exact⟨dN,0,by rw[i]⟩};{exact⟨_,_,rfl⟩}
theorem lY.H{rs:List R1}(h:lY B w v rs vs)(hb:Bw w w'):lY B w' v rs vs:=
 ⟨h.len,h.row.kept (row:=dN) ⟨hb.os,hb.tape,hb.output,hb.size,λk j _=>hb.block k j⟩ (by cases m:jB v<;>simp),λi r u h1 h2=>Own.H (h.own i r u h1 h2) hb,h.ap⟩
theorem lY.h{rs:List R1}(h:lY B w v rs vs)(o:B'<=B):lY B' w v rs vs:=by
 refine⟨h.len,⟨h.row.1,?_⟩,λi r u h1 h2=>Own.h (h.own i r u h1 h2) o,h.ap⟩;obtain e|⟨g,m,j,rfl,hb,r⟩:=h.row.2;{exact .L e};{exact .R ⟨g,m,j,rfl,af,r⟩}
theorem lY.nil(B:Nat)(w:G):lY B w ay [] []:=⟨rfl,qe _ _ _ _,by simp,List.Pairwise.nil⟩
theorem lY.apart{rs:List R1}(h:lY B w v rs vs)(o:Own B' w u l):US v u:=by
 intro b j i;obtain⟨rfl,_⟩|⟨g,s,r,rfl,_,q,_⟩:=h.row.2;{simp[jB]at j};{obtain⟨rfl,_⟩|⟨x,y,D,rfl,_,m,_⟩:=o.2;{simp[jB]at i};{simp[jB]at j i;subst j i;rw[q]at m;simp at m}}
def Gq(l:LI):Nat:=jN (num (sub l 0 2))
def qc(l:LI):Option R1:=
 if J l<14+Gq l\/1000<Gq l then dN
 else if vf (num (sub l 2 10)) (sub l 10 (10+Gq l))=sub l 0 (14+Gq l)then Y (num (sub l 2 10),sub l 10 (10+Gq l))else dN
theorem ck5(h:aD l):num (sub l 0 2)=(Gq l:Int)/\Gq l<65536:=by
 let⟨o,m⟩:=ce5 (h.sub 0 2);have i:J (sub l 0 2)<=2:=by simp[sub];omega
 have j:(256:Int) ^ J (sub l 0 2)<=65536:=by obtain e|e|e:=(by omega:J (sub l 0 2)=0\/J (sub l 0 2)=1\/J (sub l 0 2)=2)<;>rw[e]<;>decide
 unfold Gq;omega
theorem Vp(o:aD l){b:LI}(h:qc l=Y (s,b)):J b+14<=J l/\J b<=1000/\Gq l=J b/\s=num (sub l 2 10)/\b=sub l 10 (10+J b)/\vf s b=sub l 0 (14+J b):=by
 unfold qc at h;split at h;{simp at h};{
 split at h;{
 rename_i h1 h2;simp only[oK,lE]at h;obtain⟨m,j⟩:=h;have i:J b=Gq l:=by rw[<-j,Be af];omega
 refine⟨af,af,i.C,m.C,by rw[i,j],by rw[i,<-m,<-j];exact h2⟩};{simp at h}}
def fh1(w:G)(b o c:Nat)(l:LI)(e:Ending)(w':G):Prop:=
 Bw w w'/\match qc l with
  |none=>e=dR (dT #[zQ 0 (jC dN 0 0),jK jV 0])
  |some r=>e=dR (dT #[zQ r.1 (jC (Y ⟨b,o+10,dN⟩) (J r.2) (c-10)),jK jV ((J r.2+14:Nat):Int)])
theorem ew9(j:n<10):dQ dG 228 #[.S p n c] w (Rb (dT #[zQ 0 ay,.I 0]) w):=by
 have i:(n:Int)<10:=af;go_in;go_wp2;refine cX (v:=dT #[zQ 0 ay,.I 0]) (by simp[results,results228,go_sem]) rfl ⟨rfl,cY⟩
theorem ex0(en:Le l n)(h:Rd w (.S (Ad b o) n c) l)(hb:aD l)(hn:10<=n)(hm:n<=2^21)(hc:n<=c)(qn:c<=maxLen):dQ dG 228 #[.S (Ad b o) n c] w (fh1 w b o c l):=by
 have tI:¬(n:Int)<10:=af;have g1:=qx n c;have g2:=gS 10 c;have g3:=gS 2 c;let⟨g5,g6⟩:c≠2/\c≠0:=af;let⟨N,eN⟩:=aF (Gq l);let⟨eK,hK⟩:=ck5 hb;rw[<-eN]at eK hK
 change O _ at eN
 have AD:=ae en;have QO:J (sub l 0 2)=2:=Be af;have r1:∀(d:Nat)(w':G),Bw w w'->Rd w' (.S (Ad b o) 2 d) (sub l 0 2):=λd w' j=>(h.H j).cut 0 2 af af _ (.R rfl) d _ rfl;let⟨xz,H1,y,EK⟩:=zk r1 QO hb eK;obtain⟨M,eM⟩:∃M:Nat,(10:Int)+(N:Int)=(M:Int):=⟨10+N,af⟩;obtain⟨Z,eZ⟩:∃Z:Nat,(M:Int)+4=(Z:Int):=⟨M+4,af⟩;let⟨V,W⟩:Z=14+N/\M=10+N:=af;have HZ:=bG V W;clear V W;by_cases hs:n<Z;{
 have vk:=cM n Z;go_in
 go_wp21
 refine cL (YV H1 (ae xz _ _ (by exact db.alloc aU _)) (y.sub 0 2) af af) λi s=>?_;rw[ae EK];have c0:I i (Aw w 0)=dU 0:=aq al s;have c1:I i (Aw w 1)=ay:=aq al s;have f1:∀o,jF i (Aw w o)=dF:=Co al s al;have x:Bw w i:=aj (db.alloc aU _) s;go_wp2;refine cX (v:=dT #[zQ 0 ay,.I 0]) (by simp[results,results228,go_sem,c0,c1]) rfl ⟨?_,?_⟩;{
 repeat(refine tp ?_ al _)
 exact x};{
 have e:qc l=dN:=by unfold qc;have:=ae HZ;have:=ae eN;rw[aK af]
 rw[e]}};{
 have vk:=ga n Z;have q1:=qx M c;have q2:=qx Z c;have q3:=gS 10 M;have q4:c≠10:=af;have q5:=gS 0 Z;have QN:J (sub l 2 10)=8:=Be af;have dn5:J (sub l 10 M)=N:=by rw[Be af];have:=ae HZ;omega
 have dn4:J (sub l 0 Z)=Z:=by rw[Be af];omega
 have eMN:M-10=N:=aM (ae HZ);have r2:∀(d:Nat)(w':G),Bw w w'->Rd w' (.S (Ad b (o+2)) 8 d) (sub l 2 10):=λd w' j=>(h.H j).cut 2 10 af af _ (.R rfl) d _ rfl;have r3:∀(d:Nat)(w':G),Bw w w'->Rd w' (.S (Ad b (o+10)) (M-10) d) (sub l 10 M):=λd w' j=>(h.H j).cut 10 M af af _ (.R rfl) d _ rfl;have r4:∀(d:Nat)(w':G),Bw w w'->Rd w' (.S (Ad b o) Z d) (sub l 0 Z):=λd w' j=>(h.H j).cut 0 Z af af _ (.R rfl) d _ rfl;let⟨s0,s1⟩:=Hx (y.sub 2 10) af;let⟨Fx,xy,Fw,H2,H3,H4⟩:=aH3 r2 r3 r4 QN dn5 dn4;go_in
 go_wp21
 refine cL (YV H1 (ae xz _ _ (by exact db.alloc aU _)) (y.sub 0 2) af af) λi s=>?_;rw[ae EK];have c0:I i (Aw w 0)=dU 0:=aq al s;have c1:I i (Aw w 1)=ay:=aq al s;have x:Bw w i:=aj (db.alloc aU _) s;have lG:∀(vs:iA)(w:G),(callFunc 229 vs).run dG w=.ok (.enter 229 vs) w:=λvs w=>aS
 go_upto_region 7 with fail
 go_cut[6](λrp wc=>∃R,rp=Pz R/\U (Q i)<=R/\CF wc R (.U (num (sub l 2 10))) (.S (Ad b (o+10)) N (c-10))/\Bw i wc)
 case first=>(
 go_region_law(first
  |(refine Jr aY aY aY (λ_=>lG _ _) (YV H2 (ae Fx _ _ (by first|exact(x.alloc x.size _).drew|exact x.drew.alloc x.size _)) (y.sub 2 10) af af) ?_;rintro e r⟨rfl,m⟩;refine⟨_,rfl,?_⟩;have m0:I r ⟨U (Q i),0,dN⟩=Y (jK jU 0):=aq al m;have m1:I r ⟨U (Q i),1,dN⟩=Y (jC dN 0 0):=aq al m;have mf:∀o,jF r ⟨U (Q i),o,dN⟩=dF:=Co al m al;have Dz:Below (U (Q i)) i r:=aj (by first|exact(db.alloc aU _).drew|exact db.drew.alloc aU _) m)
  |(refine Jr aY aY aY (λ_=>lG _ _) (YV H2 (ae Fx _ _ (by exact x.drew)) (y.sub 2 10) af af) ?_;rintro e r⟨rfl,m⟩;refine⟨_,rfl,?_⟩;have Dz:Below (U (Q i)) i r:=aj (bD (U (Q i)) i).drew m))
 {
 go_wp21
 go_meet;exact⟨U (Q r),rfl,Dz.size,by simp[CF],Dz.alloc Dz.size _⟩};{
 go_wp21
 go_meet;refine⟨U (Q i),rfl,fS _,⟨?_,?_⟩,(Dz.setCell al _).setCell al _⟩;{simp[go_sem,m0]};{simp[go_sem,m1]}})
 case rest=>(
 obtain⟨R,rfl,hR,A0,tM⟩:=hcut;have X:=aq c0 tM;have cc1:=aq c1 tM;have ff:=Co (Co al s al) tM (my i _ c0);have bc:=aj x tM;have hRw:U (Q w)<R:=mH (my i _ c0) hR;obtain⟨K,E,eE,bE,hC,D⟩:∃(K:Nat)(E:LI),J E=K/\aD E/\(∀w':G,Bw w w'->Cp 137 #[zQ (num (sub l 2 10)) (.S (Ad b (o+10)) N (c-10))] w' λe B=>∃p' c',e=dR (.S p' K c')/\Ow w' B (.S p' K c') E/\Bw w' B)/\(qc l=if E=sub l 0 Z then Y (num (sub l 2 10),sub l 10 M)else dN):=by
  let⟨fI,gv⟩:=ae HZ;have hN:=ae eN;by_cases Tc:N<=1000;{refine⟨N+14,vf (num (sub l 2 10)) (sub l 10 M),by rw[ar8,ae H3],ca3 (y.sub 10 M),λw' j=>?_,?_⟩;{have hr:=ae xy (c-10) w' j;rw[eMN]at hr;exact co5 H3 hr (y.sub 10 M) Tc s0 s1};{unfold qc;rw[<-hN,<-gv,<-fI,aJ af]}};{
 refine⟨0,[],rfl,by intro z hz;simp at hz,λw' j=>?_,?_⟩;{refine cL (dV1 af) λB ek7=>?_;exact⟨dN,0,rfl,qe _ _ _ _,ek7⟩};{
 have aP:¬[]=sub l 0 Z:=by intro e;have:=vj List.length e;rw[ae H4]at this;simp at this;omega
 unfold qc;rw[<-hN,aK af,aJ aP]}}
 have HC:=ai hC;have HE:=eG eE bE D
 go_wp21
 go_region_held3 (λw'=>CF w' R (.U (num (sub l 2 10))) (.S (Ad b (o+10)) N (c-10))) (first|exact A0|exact A1|exact A2)
  (first
   |(go_at_call 137;refine(ae HC _ (by exact bc.drew)).h ?_;rintro e r⟨p2,c2,rfl,o2,DA⟩;have m:Below (U (Q wc)) wc r:=aj (bD (U (Q wc)) wc).drew DA;have A1:=A0.H m)
   |(go_at_call 67;refine cL (ai9 HE.1 H4 (by exact o2.rd) (by exact Fw _ _ (aj bc m)) HE.2.1 (y.sub 0 Z)) λw3 aL=>?_;have A2:=A1.H aL))
 have u:=aj m aL;have b3:=aj bc u;have d0:=aq X u;have d1:=aq cc1 u;have df:=Co ff u (my wc _ X);obtain⟨-,-,D⟩:=ae HE;by_cases hq:E=sub l 0 Z;{
 rw[aK hq]at D;have hd:dD (E=sub l 0 Z):=by simp[hq]
 rw[hd];have UC:=ai D;obtain⟨A3,A4⟩:=A2;go_wp2;have aP:U (Q w)≠R:=af;refine cX (v:=dT #[zQ (num (sub l 2 10)) (.S (Ad b (o+10)) N (c-10)),.I Z]) (by simp[results,results228,go_sem,d0,d1]) rfl ⟨?_,?_⟩;{
 repeat(refine tp ?_ al _)
 exact b3};{rw[ae UC];simp only[ae H3];rw[show N+14=Z by omega]}};{
 rw[aJ hq]at D;have hd:dD (E=sub l 0 Z)=dF:=by simp[hq]
 rw[hd];have UC:=ai D;go_wp2;refine cX (v:=dT #[zQ 0 ay,.I 0]) (by simp[results,results228,go_sem,d0,d1]) rfl ⟨?_,?_⟩;{
 repeat(refine tp ?_ al _)
 exact b3};{rw[ae UC]}})}
attribute [local go_sem] Oper.semAt_some
structure It where
 s:Int
 q:OA
 d:Nat
 b:LI
 z:Nat
def Good(w:G)(x:It):Prop:=x.z=0\/(x.z=J x.b+14/\J x.b<=1000/\aD x.b/\0<=x.s/\x.s<2^64/\Rd w (.S x.q (J x.b) x.d) x.b)
abbrev Hb(w:G):={x:It // Good w x}
def key(x:It):Option R1:=if x.z=0 then dN else Y (x.s,x.b)
abbrev bg8{w:G}(x:Hb w):iA:=#[zQ x.1.s (.S x.1.q (J x.1.b) x.1.d),.I x.1.z]
def yl:Nat->LI->List (Option R1)
 |0,_=>[dN]
 |f+1,l=>match qc l with
  |none=>[dN]
  |some r=>Y r::yl f (jD (J r.2+14) l)
variable {f:Nat}
theorem ao3(h:qc l=dN):yl f l=[dN]:=by cases f<;>simp[yl,h]
theorem U0{r:R1}(h:qc l=r):yl (f+1) l=Y r::yl f (jD (J r.2+14) l):=by simp[yl,h]
theorem de6(hf:0<f):[qc l] <+: yl f l:=by
 obtain⟨i,rfl⟩:∃i,f=i+1:=⟨f-1,af⟩;cases h:qc l with
 |none=>rw[ao3 h];exact List.prefix_refl _
 |some r=>rw[U0 h];exact⟨_,rfl⟩
theorem ca4(h:J l<14):qc l=dN:=by unfold qc;rw[aK (by omega)]
theorem aD.drop(h:aD l)(n:Nat):aD (jD n l):=λz i=>h z (Oa i)
theorem bu2{wr:G}{m:Nat}(R:J l=m)(hr:Rd w (.S q m d) l)(hb:Bw w wr)(j:aD l)(hm:m<=2^21)(N:m<=d)(u:d<=maxLen):Cp 228 #[.S q m d] wr λe w'=>Bw wr w'/\∃x:Hb w,key x.1=qc l/\e=dR (dT (bg8 x)):=by
 by_cases V:m<10;{refine cL (ew9 V) λw' y=>?_;refine⟨y,⟨⟨0,dN,0,[],0⟩,.L rfl⟩,?_,rfl⟩;rw[ca4 af];rfl};{
 obtain⟨b,o,rfl,-,-⟩:=hr.at af;refine(ex0 R (hr.H hb) j af hm N u).h ?_;rintro e w'⟨y,h⟩;refine⟨y,?_⟩;cases Es:qc l with
 |none=>
  rw[Es]at h;exact⟨⟨⟨0,dN,0,[],0⟩,.L rfl⟩,rfl,h⟩
 |some r=>
  rw[Es]at h;obtain⟨s,i⟩:=r;let⟨h1,h2,h3,h4,B,W⟩:=Vp j Es;let⟨M,E⟩:=Hx (j.sub 2 10) (by simp[sub];omega);refine⟨⟨⟨s,Y (Ad b (o+10)),d-10,i,J i+14⟩,.R ⟨rfl,h2,?_,by rw[h4];exact M,by rw[h4];exact E,?_⟩⟩,by simp[key],h⟩;{show aD i;rw[B];exact j.sub _ _};{have:=hr.cut 10 (10+J i) af af (Ad b (o+10)) (.R rfl) (d-10) i B;rw[show 10+J i-10=J i by omega]at this;exact this}}
theorem aC6(i:Bw w w'):jG w w' dN:=⟨i.os,i.tape,i.output,i.size,λk j _=>i.block k j⟩
theorem dz4:CallsIn Fence.wide n dG 190 #[.S a len cap] w λe w'=>e=dR (.func (.func 227) #[] #[Pz (U (Q w))])/\w'=jA w (dO #[.S a len cap] 22):=by
 refine yI func190 rfl iH ?_ rfl;simp only[ntmps190,GX,Nat.reduceAdd,Nat.reduceSub];gi_wp2;go_ret;exact⟨rfl,rfl⟩
set_option maxRecDepth 100000 in
theorem dT5(hn:1<=n){L Bs len cap:Nat}(hR:Rd w (.S p len cap) l)(hB:aD l)(el:J l=len)(hlen:len<=2^20)(xX:len<=cap)(qn:cap<=maxLen)(hp:(p=dN/\cap=0)\/∃b o,p=(Ad b o))(N Jx:List (Hb w)->G->Prop){W:G}(hJ:AbidesFrom (U (Q W)) N)(hY:∀j x W,N j W->J j<len+2->YieldAt Fence.wide (n-1) dG L (bg8 x) W λe W'=>
   (e=dR (jO dY)/\N (j++[x]) W'/\tf (U (Q w)) Bs W W')\/(e=dR (jO dF)/\Jx (j++[x]) W'))(hBs:I W (Ad Bs 0)=dS p len cap)(Ke:Bw w W)(h0:N [] W):CallsIn Fence.wide n dG 227 #[.func (.yield L) #[] #[],Pz Bs] W λe W'=>(∃v,e=dR v)∧
   ((∃ys:List (Hb w),(∃j x,ys=j++[x]/\x.1.z=0)/\N ys W')\/(∃j:List (Hb w),(j.map λx=>key x.1) <+: yl (len+1) l/\Jx j W')):=by
 refine yI func227 rfl iH ?_ rfl;simp only[ntmps227,GX,Nat.reduceAdd,Nat.reduceSub];gi_wp2
 gi_loopw [3] (λi wr=>∃(j:List (Hb w))(a f:Nat),a<=len/\i=.I a/\f+J j=len+1/\J j<=a/\(j.map λx=>key x.1)++yl f (l.drop a)=yl (len+1) l/\N j wr/\tf (U (Q w)) Bs W wr) (λi _=>len+1-(jN (intOf i)))
 case atStart=>exact⟨[],0,len+1,de _,rfl,rfl,fS _,rfl,h0,tf.refl _ _ _⟩
 case round=>(
 obtain⟨j,a,f,Ci,rfl,EG,xR,Aq,hJp,R⟩:=hrel;have B:Bw w wr:=Ke.Z R.1;have M:I wr (Ad Bs 0)=dS p len cap:=R.2.Z hBs;have g1:=qx a len;have g2:=qx len cap;have g3:=gS 0 a;obtain⟨rfl,rfl⟩|⟨b,o,rfl⟩:=hp;{
 obtain rfl:len=0:=af;obtain rfl:a=0:=af;have yO:Rd w (.S (dN) (0) (0)) (l.drop 0):=yF▸hR;have HF:=ai (bu2 (by rw[uK];omega) yO B (hB.drop _) af af af);have HX:=eG Aq EG xR;let⟨HJ,HK⟩:=aQ hJp R;have HBR:=bG hB B;unfold maxLen at qn
 gi_wp2_with fail
 refine⟨iH,?_⟩;refine(JI.2 HF).h ?_;rintro e m⟨y,⟨x,u⟩,gO,rfl⟩;let⟨Aq,EG,xR⟩:=ae HX;let⟨hB,B⟩:=ae HBR;have X:I m (Ad Bs 0)=I wr (Ad Bs 0):=(aq M y).Z M.C;have ab1:tf (U (Q w)) Bs W m:=HK.Z ⟨y.h B.size,X⟩;have V:N j m:=hJ j _ _ dN HJ (aC6 y) (λr e=>by cases e);have To:N j (jA m (dO #[.U x.s,.S x.q (J x.b) x.d] 92)):=hJ j _ _ dN V (Zf _ _ dN) (λr e=>by cases e);have Sf:=(aj B y).size;have Z:=aq (aq M y) ((bD (U (Q m)) m).alloc aU (dO #[.U x.s,.S x.q (J x.b) x.d] 92));have ab0:tf (U (Q w)) Bs W (jA m (dO #[.U x.s,.S x.q (J x.b) x.d] 92)):=ab1.Z ⟨db.alloc Sf _,Z.Z (aq M y).C⟩;let⟨fn,tmps,E,body,hy,Iz⟩:=hY j ⟨x,u⟩ _ To af
 try dsimp only at hy
 have V8:x.z<=1014:=by obtain h|⟨h,h',_⟩:=u<;>omega
 have HM:=IV Aq EG xR hB gO u;have H2:=ai ab0;gi_wp2;refine Iz.h ?_;rintro e W3(⟨rfl,GF,nw⟩|⟨rfl,Tn⟩);{
 by_cases hz:x.z=0;{gi_wp2;refine cX (BM rfl _ _ _) rfl ?_;exact⟨⟨_,rfl⟩,.L ⟨_,⟨j,⟨x,u⟩,rfl,hz⟩,GF⟩⟩};{
 have BS:((x.z:Int)==0)=dF:=by simp[hz]
 gi_wp2;go_roundw
 case rel=>(
 let⟨Aq,EG,xR,hB,gO,_⟩:=ae HM;have hk:qc (l.drop 0)=Y (x.s,x.b):=by rw[<-gO];simp[key,hz]
 let⟨r1,r2,_⟩:=Vp (hB.drop _) hk;obtain h|⟨h,_⟩:=id u;{exact absurd h hz};{rw[uK]at r1;refine⟨j++[⟨x,u⟩],0+x.z,f-1,af,by go_num,bL,bL,?_,GF,H2.Z nw⟩;exact aM1})
 case measure=>simp[intOf];omega}}
 {exact aM2}};{
 by_cases hq:cap=a;{
 obtain rfl:len=a:=af;obtain rfl:cap=len:=hq;have yO:Rd w (.S (Ad b o) (0) (0)) (l.drop cap):=⟨_,0,by rw[ba7 af];rfl,.L (ba7 af)⟩;have HF:=ai (bu2 (by rw[uK];omega) yO B (hB.drop _) af af af);have HX:=eG Aq EG xR;let⟨HJ,HK⟩:=aQ hJp R;have HBR:=bG hB B;unfold maxLen at qn
 gi_wp2_with fail
 refine⟨iH,?_⟩;refine(JI.2 HF).h ?_;rintro e m⟨y,⟨x,u⟩,gO,rfl⟩;let⟨Aq,EG,xR⟩:=ae HX;let⟨hB,B⟩:=ae HBR;have X:I m (Ad Bs 0)=I wr (Ad Bs 0):=(aq M y).Z M.C;have ab1:tf (U (Q w)) Bs W m:=HK.Z ⟨y.h B.size,X⟩;have V:N j m:=hJ j _ _ dN HJ (aC6 y) (λr e=>by cases e);have To:N j (jA m (dO #[.U x.s,.S x.q (J x.b) x.d] 92)):=hJ j _ _ dN V (Zf _ _ dN) (λr e=>by cases e);have Sf:=(aj B y).size;have Z:=aq (aq M y) ((bD (U (Q m)) m).alloc aU (dO #[.U x.s,.S x.q (J x.b) x.d] 92));have ab0:tf (U (Q w)) Bs W (jA m (dO #[.U x.s,.S x.q (J x.b) x.d] 92)):=ab1.Z ⟨db.alloc Sf _,Z.Z (aq M y).C⟩;let⟨fn,tmps,E,body,hy,Iz⟩:=hY j ⟨x,u⟩ _ To af
 try dsimp only at hy
 have V8:x.z<=1014:=by obtain h|⟨h,h',_⟩:=u<;>omega
 have HM:=IV Aq EG xR hB gO u;have H2:=ai ab0;gi_wp2;refine Iz.h ?_;rintro e W3(⟨rfl,GF,nw⟩|⟨rfl,Tn⟩);{
 by_cases hz:x.z=0;{gi_wp2;refine cX (BM rfl _ _ _) rfl ?_;exact⟨⟨_,rfl⟩,.L ⟨_,⟨j,⟨x,u⟩,rfl,hz⟩,GF⟩⟩};{
 have BS:((x.z:Int)==0)=dF:=by simp[hz]
 gi_wp2;go_roundw
 case rel=>(
 let⟨Aq,EG,xR,hB,gO,_⟩:=ae HM;have hk:qc (l.drop cap)=Y (x.s,x.b):=by rw[<-gO];simp[key,hz]
 let⟨r1,r2,_⟩:=Vp (hB.drop _) hk;obtain h|⟨h,_⟩:=id u;{exact absurd h hz};{rw[uK]at r1;refine⟨j++[⟨x,u⟩],cap+x.z,f-1,af,by go_num,bL,bL,?_,GF,H2.Z nw⟩;exact aM1})
 case measure=>simp[intOf];omega}}
 {exact aM2}};{
 have yO:Rd w (.S (Ad b (o+a)) (len-a) (cap-a)) (l.drop a):=hR.cut a len Ci af _ (.R rfl) _ _ (by rw[nZ af]);have HF:=ai (bu2 (by rw[uK];omega) yO B (hB.drop _) af af af);have HX:=eG Aq EG xR;let⟨HJ,HK⟩:=aQ hJp R;have HBR:=bG hB B;unfold maxLen at qn
 gi_wp2_with fail
 refine⟨iH,?_⟩;refine(JI.2 HF).h ?_;rintro e m⟨y,⟨x,u⟩,gO,rfl⟩;let⟨Aq,EG,xR⟩:=ae HX;let⟨hB,B⟩:=ae HBR;have X:I m (Ad Bs 0)=I wr (Ad Bs 0):=(aq M y).Z M.C;have ab1:tf (U (Q w)) Bs W m:=HK.Z ⟨y.h B.size,X⟩;have V:N j m:=hJ j _ _ dN HJ (aC6 y) (λr e=>by cases e);have To:N j (jA m (dO #[.U x.s,.S x.q (J x.b) x.d] 92)):=hJ j _ _ dN V (Zf _ _ dN) (λr e=>by cases e);have Sf:=(aj B y).size;have Z:=aq (aq M y) ((bD (U (Q m)) m).alloc aU (dO #[.U x.s,.S x.q (J x.b) x.d] 92));have ab0:tf (U (Q w)) Bs W (jA m (dO #[.U x.s,.S x.q (J x.b) x.d] 92)):=ab1.Z ⟨db.alloc Sf _,Z.Z (aq M y).C⟩;let⟨fn,tmps,E,body,hy,Iz⟩:=hY j ⟨x,u⟩ _ To af
 try dsimp only at hy
 have V8:x.z<=1014:=by obtain h|⟨h,h',_⟩:=u<;>omega
 have HM:=IV Aq EG xR hB gO u;have H2:=ai ab0;gi_wp2;refine Iz.h ?_;rintro e W3(⟨rfl,GF,nw⟩|⟨rfl,Tn⟩);{
 by_cases hz:x.z=0;{
 have BS:((x.z:Int)==0):=by simp[hz]
 gi_wp2;refine cX (BM rfl _ _ _) rfl ?_;exact⟨⟨_,rfl⟩,.L ⟨_,⟨j,⟨x,u⟩,rfl,hz⟩,GF⟩⟩};{
 have BS:((x.z:Int)==0)=dF:=by simp[hz]
 gi_wp2;go_roundw
 case rel=>(
 let⟨Aq,EG,xR,hB,gO,_⟩:=ae HM;have hk:qc (l.drop a)=Y (x.s,x.b):=by rw[<-gO];simp[key,hz]
 let⟨r1,r2,_⟩:=Vp (hB.drop _) hk;obtain h|⟨h,_⟩:=id u;{exact absurd h hz};{rw[uK]at r1;refine⟨j++[⟨x,u⟩],a+x.z,f-1,af,by go_num,bL,bL,?_,GF,H2.Z nw⟩;exact aM1})
 case measure=>simp[intOf];omega}}
 {exact aM2}}})
variable {a:Act}{o:Oper}
theorem dF7{l:Nat}{j:iE}(q:∀c,o.op≠.defer c)(h:o.wp P a w K j):o.wpIn (Fence.wide.inRound l) n P a w K j:=by
 refine⟨λ_ _=>trivial,?_⟩;rw[ba1 _ _ _ q];unfold Oper.wp at h;generalize(execOp a.eval o).run P w=r at*;cases r with
 |ok x w'=>
  cases x<;>simp only[Oper.uponIn,Oper.upon]at h⊢
  case value=>exact h
  case skip=>exact h
  case defer=>exact h
  case enter f args=>exact⟨λi=>(by cases i),CallsIn.inRound l (JI.2 h)⟩
  case row row args=>exact⟨λi=>(by cases i),λc cs _=>let⟨v,m,r,s⟩:=h c cs;⟨v,m,r,stepsIn_wide.2 s⟩⟩
 |halt x w'=>cases x<;>simp only[Oper.uponIn,Oper.upon]at h⊢<;>exact h
theorem Yd{l:Nat}{r:iE}(q:∀o∈ops.toList,∀c,o.op≠.defer c)(m:¬LetsOut r):∀(fuel:Nat)(listed:Array Bool)(a:Act)(w:G),
  wpAny P md ops r fuel listed a w->wpAnyIn (Fence.wide.inRound l) n P md ops r fuel listed a w
 |0,_,_,_,h=>h
 | fuel+1,listed,a,w,h=>by
  refine⟨h.1,λi s=>?_⟩;have j:=h.2 i s;unfold wpOp at j;unfold wpOpIn;cases ho:ops[i]? with
  |none=>
   simp only[ho]at j⊢;exact Yd q m fuel _ a w j
  |some o=>
   simp only[ho]at j⊢;split;{rename_i hw;rw[aK hw]at j;obtain j|⟨_,j⟩:=j;{exact Oper.wpIn_mono (λa w h=>Yd q m fuel _ a w h) (dF7 (q o (by rw[Array.mem_toList_iff];exact Array.mem_of_getElem? ho)) j)};{exact absurd j m}};{rename_i hw;rw[aJ hw]at j;exact⟨λ_ _=>trivial,Yd q m fuel _ _ w j⟩}
def aX5(i:iQ):Bool:=i.toList.all λo=>match o.op with| .defer _=>dF|_=>dY
theorem cf7(h:aX5 ops):∀o∈ops.toList,∀c,o.op≠.defer c:=by
 intro o i c e;have:=mL.1 h o i;rw[e]at this;cases this
theorem bP5{l:Nat}(S:iP){id:Nat}{i:iE}(hm:P.follows .mixedOrders)(m:aX5 ops)(j:¬LetsOut i)(o:S w.drew)(h:S w.drew->wpAnyH P .any ops i S ops.size (Array.replicate ops.size dF) a w.drew):(Code.region id ops dY).wpIn (Fence.wide.inRound l) n P i a w:=
 wpIn_region_any hm (Yd (cf7 m) j _ _ _ _ (wpAny_of_held _ _ _ _ (h o)))
def uH:Option Int->Int->Bool
 |none,_=>dY
 |some t,s=>dD (t≠18446744073709551615)&&dD (s=t+1)
def rK:Option Int->List (Option R1)->List R1
 |_,[]=>[]
 |_,dN::_=>[]
 |t,Y r::rest=>if uH t r.1 then r::rK r.1 rest else[]
def tC(rs:List R1):Option Int:=rs.getLast?.map (·.1)
def mi:List R1->Nat
 |[]=>0
 |r::rs=>J r.2+14+mi rs
theorem aP1(a b:List R1):mi (a++b)=mi a+mi b:=by induction a with|nil=>simp[mi]|cons r a ih=>simp[mi,ih];omega
theorem ck8(rs:List R1)(r:R1):tC (rs++[r])=r.1:=by simp[tC]
theorem cD8{t:Int}(s0:0<=s)(s1:s<2^64)(u:0<=t)(r:t<2^64):dQ dG 191 #[.U s,.U t] w λe w'=>e=dR (jO (uH t s))/\w'=w:=by
 by_cases h:t=18446744073709551615;{
 have e:uH t s=dF:=by simp[uH,h]
 rw[e];have m:(t != 18446744073709551615)=dF:=by simp[h]
 clear e;subst h;go_enter Tryz.func191,Tryz.ntmps191;exact aV};{
 have e:uH t s=dD (s=t+1):=by simp[uH,h]
 rw[e];have m:(t != 18446744073709551615):=by simp[h]
 have x:jY jU (t+1)=t+1:=u64_wrap_id _ af af;by_cases i:s=t+1;{
 have o:(s==t+1):=by simp[i]
 have j:dD (s=t+1):=by simp[i]
 rw[j];clear e h i j;go_enter Tryz.func191,Tryz.ntmps191;exact aV};{
 have o:(s==t+1)=dF:=by simp[i]
 have j:dD (s=t+1)=dF:=by simp[i]
 rw[j];clear e h i j;go_enter Tryz.func191,Tryz.ntmps191;exact aV}}
theorem Tryz.infoRec:(Tryz.prog.info? 92).map (λi=>(i.zero,i.size,i.bytes))=Y (Y (jP #[.U 0,ay]),2,32):=by kernel_rfl
theorem cQ3{v':dV}{rs:List R1}{r:R1}(h:lY B w v rs vs)(R:Own B w u r.2)(Z:∀M∈vs,US M u)(h1:w'.ownsRow B 92 2 v' (J rs+1) (Jv rs vs++[.U r.1,u]))(S:jG w w' (jB v)):lY B w' v' (rs++[r]) (vs++[u]):=by
 have q:∀{x:dV}{m:LI},Own B w x m->Own B w' x m:=λ{x m}j=>Own.L5 (vs:=[v]) j (Kept.aW8 S al) (λy s b X W=>by simp only[rC]at s;subst s;exact h.apart j b W X);refine⟨by simp[h.len],?_,?_,?_⟩;{rw[ca2 rs vs r u h.len,fe];exact h1};{
 intro i N x o j;by_cases E:i<J rs;{rw[oI E]at o;rw[oI (h.len▸E)]at j;exact q (h.own i N x o j)};{
 have Ir:i=J rs:=by have:=(bH.1 o).1;simp at this;omega
 subst Ir;rw[qT aU,Ab]at o;rw[qT (h.len▸fS _),h.len,Ab]at j;simp at o j;subst o j;exact q R}};{rw[aZ0];exact⟨h.ap,List.pairwise_singleton _ _,λa V b hb=>by simp only[rC]at hb;subst hb;exact Z a V⟩}
theorem cg0(m:I w (Ad g 0)=dU s)(o:I w (Ad g 1)=u):∀j x,([Value.U s,u]:List dV)[j]?=Y x->I w (((Ad g 0):Addr).add j)=Y x:=by
 intro j x i
 match j,i with
 |0,i=>simp at i;subst i;simpa[Ia]using m
 |1,i=>simp at i;subst i;simpa[Ia]using o
 |j+2,i=>simp at i
theorem do6{iZ:iE}(ik:o.guard=dN){s:Operand}(ho:o.op=.call {callee:=.builtin .append,args:=#[s,x],argTypes:=#[88,88]}){rs:List R1}(en:Le rs n)(hs:a.eval s=v)(hx:a.eval x=.T g 1 1)(h:lY B w v rs vs){r:R1}(mu:I w (Ad g 0)=dU r.1)(gm:I w (Ad g 1)=u)(hu:Own B w u r.2)(Td:∀u'∈vs,US u' u)(hl:n<=2^21)(hB:B<=U (Q w))(hK:∀p' c' w',lY B w' (.S p' (n+1) c') (rs++[r]) (vs++[u])->jG w w' (jB v)->K (a.put o.dst (.S p' (n+1) c')) w'):if jW o (yielded ops a.tmps)then Oper.wp dG o a w K iZ else E:=by
 have hw:jW o (yielded ops a.tmps):=by simp[jW,ik]
 rw[aK hw];let⟨i,hi,jk,fI,gv⟩:=mJ Tryz.infoRec;cases ae en;let⟨pu,cu,eu⟩:=hu.form;refine wp_append_own w s x 88 ho B 92 i _ 2 32 Tryz.underlying88 hi jk fI gv rfl bf v _ _ hs h.row (Ad g 0) 1 1 [.U r.1,u] hx rfl (cg0 mu gm) ?_ kW af hB ?_;{intro y hy;simp only[gD,Rn,JM]at hy;obtain rfl|rfl:=hy;{rfl};{rw[eu];rfl}};{intro v' w' h1 h2 _;have hR:=cQ3 h hu Td h1 h2;obtain⟨p',c',rfl⟩:=hR.form;have:=hK p' c' w';rw[fe]at hR;exact(by simpa using this hR h2)}
variable {f:FuncId}
theorem do3{iZ:iE}(hw:jW o (yielded ops a.tmps)) (ho:o.op=.call {callee:=.value (.func f),args:=#[x1,x2],argTypes:=ud})(h1:a.eval x1=v1)(h2:a.eval x2=v2)(lG:∀vs,(callFunc f vs).run P w=.ok (.enter f vs) w)(hc:dQ P f #[v1,v2] w R)(hR:∀e w',R e w'->∃v,e=dR v/\K (a.put o.dst v) w'):if jW o (yielded ops a.tmps)then Oper.wp P o a w K iZ else E:=by
 exact zs8
theorem lY.lt{rs:List R1}(h:lY B w v rs vs):∀u∈vs,∀b,jB u=Y b->b<U (Q w):=by
 intro u m b e;let⟨i,j⟩:=Af m;obtain⟨r,o⟩:∃r,rs[i]?=Y r:=⟨_,bN (h.len▸(bH.1 j).1)⟩;exact(Own.lt (h.own i r u o j) b e).2
theorem lY.ar3{rs:List R1}(h:lY B w v rs vs):∀b,jB v=Y b->B<=b/\b<U (Q w):=VI h.row
theorem lY.dw1{rs:List R1}(h:lY B w v rs vs):∀(j:Nat)(o:Obj),jB v=j->w.heap[j]?=o->o.isCells:=by
 intro j o e i;obtain⟨rfl,_⟩|⟨g,r,q,rfl,_,m,_⟩:=h.row.2;{simp[jB]at e};{simp[jB]at e;subst e;rw[m]at i;cases i;rfl}
theorem bP4{iZ:iE}(ik:o.guard=dN){s:Operand}(ho:o.op=.call {callee:=.builtin .append,args:=#[s,x],argTypes:=#[88,88]}){rs:List R1}(en:Le rs n)(g:Nat)(hs:a.eval s=v)(hx:a.eval x=.T g 1 1)(h:lY B w v rs vs){r:R1}(mu:I w (Ad g 0)=dU r.1)(gm:I w (Ad g 1)=u)(hu:Own B w u r.2)(Td:∀u'∈vs,US u' u)(hl:n<=2^21)(hB:B<=U (Q w))(hK:∀p' c' w',lY B w' (.S p' (n+1) c') (rs++[r]) (vs++[u])->jG w w' (jB v)->wpList dG ops iZ rest (a.put o.dst (.S p' (n+1) c')) w'):wpList dG ops iZ (o::rest) a w:=by
 let⟨i,hi,jk,fI,gv⟩:=mJ Tryz.infoRec;cases ae en;let⟨pu,cu,eu⟩:=hu.form;refine VH w ik s x 88 ho B 92 i _ 2 32 Tryz.underlying88 hi jk fI gv rfl bf v _ _ hs h.row (Ad g 0) 1 1 [.U r.1,u] hx rfl (cg0 mu gm) ?_ kW af hB ?_;{intro y hy;simp only[gD,Rn,JM]at hy;obtain rfl|rfl:=hy;{rfl};{rw[eu];rfl}};{intro v' w' h1 h2 _;have hR:=cQ3 h hu Td h1 h2;obtain⟨p',c',rfl⟩:=hR.form;have:=hK p' c' w';rw[fe]at hR;exact(by simpa using this hR h2)}
theorem KeepsOthers.tj{W j:G}(h:Bw W j):KeepsOthers W j:=⟨h.size,λk o i _=>(h.block k (LF.1 i).1).Z i⟩
theorem Own.Oq{W j:G}(h:Own B W v l)(m:jG W j row)(hr:∀r,row=Y r->∃o:Obj,W.heap[r]?=o/\o.isCells=dF):Own B j v l:=by
 refine Rj h m ?_;obtain⟨rfl,_⟩|⟨g,s,q,rfl,_,u,_⟩:=h.2;{exact .L rfl};{refine .R λe=>?_;let⟨o,i,hc⟩:=hr g e.C;rw[u]at i;cases i;cases hc}
theorem lY.Oq{W q:G}{rs:List R1}(h:lY B W v rs vs)(m:jG W q row)(hr:∀r,row=Y r->∃o:Obj,W.heap[r]?=o/\o.isCells=dF):lY B q v rs vs:=by
 refine⟨h.len,Rj h.row m ?_,λi r u h1 h2=>Own.Oq (h.own i r u h1 h2) m hr,h.ap⟩;obtain⟨rfl,_⟩|⟨g,x,s,rfl,_,y,_⟩:=h.row.2;{exact .L rfl};{refine .R λe=>?_;let⟨o,j,hc⟩:=hr g e.C;rw[y]at j;cases j;cases hc}
theorem lY.set{rs:List R1}(h:lY B w v rs vs){a:Addr}(j:a.block<B)(u:dV):lY B (w.setCell a u) v rs vs:=
 ⟨h.len,rW h.row j u,λi r x h1 h2=>Own.set (h.own i r x h1 h2) j u,h.ap⟩
attribute [local go_sem] Oper.semAt_some
def aI6(w:G)(rs:List R1)(e:Ending)(w':G):Prop:=
 ∃p c i,e=dR (dT #[.S p (J rs) c,.I (mi rs:Nat)])/\lY (U (Q w)) w' (.S p (J rs) c) rs i/\Bw w w'
def rl(l:LI):List R1:=rK dN (yl (J l+1) l)
abbrev keys{w:G}(pre:List (Hb w)):List (Option R1):=pre.map λx=>key x.1
def Qp(w W:G)(rs:List R1)(v:dV)(vs:List dV):Prop:=
 I W (Aw w 0)=v/\jF W (Aw w 0)=dF/\I W (Ax w 0)=dI (mi rs:Nat)/\jF W (Ax w 0)=dF/\lY (U (Q w)+3) W v rs vs
def Inv(w:G)(pre:List (Hb w))(W:G):Prop:=
 ∃j v m,Qp w W j v m/\(∀i,rK dN (keys pre++i)=j++rK (tC j) i)/\(∀x∈pre,x.1.z≠0)/\J j=J pre/\mi j<=1014*J pre/\(∀r∈j,J r.2<=1000/\0<=r.1/\r.1<2^64)
def aJ6(w:G)(c:Code)(m:List (Hb w))(W:G):Prop:=
 c=.exit 0/\∃j v o,Qp w W j v o/\(∀i,rK dN (keys m++i)=j)
theorem Qp.Oq{w W j:G}{rs:List R1}(h:Qp w W rs v vs)(i:jG W j row)(hr:∀r,row=Y r->∃o:Obj,W.heap[r]?=o/\o.isCells=dF):Qp w j rs v vs:=
 ⟨cell_kept h.1 i hr,(frozen_kept h.1 i hr).Z h.2.1,cell_kept h.2.2.1 i hr,(frozen_kept h.2.2.1 i hr).Z h.2.2.2.1,h.2.2.2.2.Oq i hr⟩
theorem Qp.H{w W i:G}{rs:List R1}(h:Qp w W rs v vs)(hb:Bw W i):Qp w i rs v vs:=
 h.Oq (row:=dN) (aC6 hb) (λr e=>by cases e)
theorem Inv.own(w:G)(B:Nat):OwnFrom B (Inv w):=by
 rintro s W x row⟨j,v,i,u,o⟩q m;exact⟨j,v,i,u.Oq q (λr e=>(m r e).2),o⟩
theorem aJ6.own(w:G)(c:Code)(B:Nat):OwnFrom B (aJ6 w c):=by
 rintro s W x row⟨hc,j,v,i,u,o⟩q m;exact⟨hc,j,v,i,u.Oq q (λr e=>(m r e).2),o⟩
theorem Inv.H{w W i:G}{pre:List (Hb w)}(h:Inv w pre W)(r:Bw W i):Inv w pre i:=by
 obtain⟨m,v,j,q,o⟩:=h;exact⟨m,v,j,q.H r,o⟩
theorem eU6{w W V w9:G}{x:It}(R:Good w x){pre:List (Hb w)}{rs:List R1}{c9 K:Nat}(z0:W0s=U (Q w)+3)(hz:W0s<=U (Q W))(KV:KeepsOthers W V)(E:Bw W V)(hb:Bw w V)(c0:I V (Aw w 0)=v)(c1:jF V (Aw w 0)=dF)(c2:I V (Ax w 0)=dI (mi rs:Nat))(c3:jF V (Ax w 0)=dF)(ho:lY (U (Q w)+3) V v rs vs)(i:Below (U (Q w)+3) V w9)(q:KeepsOthers V w9)(Tg:lY (U (Q w)+3) w9 (.S p9 (K+1) c9) (rs++[(x.s,x.b)]) (vs++[u]))(eK:Le rs K)(HX:O (x.z=J x.b+14/\aD x.b/\key x=Y (x.s,x.b)))(HF:O ((∀rest,rK dN (keys pre++rest)=rs++rK (tC rs) rest)/\(∀y∈pre,y.1.z≠0)/\K=J pre/\mi rs<=1014*J pre/\(∀r∈rs,J r.2<=1000/\0<=r.1/\r.1<2^64)))(N:O (uH (tC rs) x.s))(o:J x.b<=1000)(m:0<=x.s)(j:x.s<2^64):KeepsFrom W0s W (jS (jS w9 (Aw w 0) (.S p9 (K+1) c9)) (Ax w 0) (.I ((mi rs:Int)+(x.z:Int))))∧
  tf (U (Q w)) (U (Q w)+2) W (jS (jS w9 (Aw w 0) (.S p9 (K+1) c9)) (Ax w 0) (.I ((mi rs:Int)+(x.z:Int))))∧
  Inv w (pre++[⟨x,R⟩]) (jS (jS w9 (Aw w 0) (.S p9 (K+1) c9)) (Ax w 0) (.I ((mi rs:Int)+(x.z:Int))))∧
  Bw w (jS (jS w9 (Aw w 0) (.S p9 (K+1) c9)) (Ax w 0) (.I ((mi rs:Int)+(x.z:Int))))/\W0s<=U (Q (jS (jS w9 (Aw w 0) (.S p9 (K+1) c9)) (Ax w 0) (.I ((mi rs:Int)+(x.z:Int))))):=by
 let⟨V8,Z,Wn⟩:=ae HX;let⟨J4,Wj,hrl,Aj,M⟩:=ae HF;have eK':=ae eK;have B:Below (U (Q w)) W w9:=(E.h af).Z (i.h af);refine⟨((KV.Z q).Z ((KeepsOthers.setCell _ _ _).Z (KeepsOthers.setCell _ _ _))).from _,⟨(B.setCell aU _).setCell al _,?_⟩,⟨rs++[(x.s,x.b)],.S p9 (K+1) c9,vs++[u],⟨?_,?_,?_,?_,?_⟩,?_,?_,?_,?_,?_⟩,((hb.Z (i.h af)).setCell aU _).setCell al _,?_⟩;{rw[Ze _ _ _ _ al,Ze _ _ _ _ al,i.cell (p:=(Ad (U (Q w)+2) 0)) (by show U (Q w)+2<_;omega)];exact JH (a:=(Ad (U (Q w)+2) 0)) (E.block _ (by show U (Q w)+2<_;omega))};{rw[Ze _ _ _ _ al];exact Zd _ _ _ (by rw[(i.cell (p:=(Aw w 0)) (by show U (Q w)<_;omega)).Z c0];rfl)};{rw[Gl,Gl];exact(i.frozen (p:=(Aw w 0)) (by show U (Q w)<_;omega)).Z c1};{
 have:((mi (rs++[(x.s,x.b)]):Nat):Int)=(mi rs:Int)+(x.z:Int):=by rw[aP1];simp[mi];omega
 rw[this];refine Zd _ _ _ ?_;rw[Ze _ _ _ _ al,(i.cell (p:=(Ax w 0)) (by show U (Q w)+1<_;omega)).Z c2];rfl};{rw[Gl,Gl];exact(i.frozen (p:=(Ax w 0)) (by show U (Q w)+1<_;omega)).Z c3};{exact(Tg.set (by show U (Q w)<_;omega) _).set (by show U (Q w)+1<_;omega) _};{intro rest;simp only[uk,od,JD,xL,Gk,Eh];rw[Wn,J4 (Y (x.s,x.b)::rest),ck8];simp[rK,ae N]};{intro y X;obtain h|h:=jl.1 X;{exact Wj y h};{simp at h;subst h;show x.z≠0;omega}};{simp;omega};{rw[aP1];simp[mi];omega};{intro r hr;obtain h|h:=jl.1 hr;{exact M r h};{simp at h;subst h;exact⟨o,m,j⟩}};{show W0s<=_;have:=B.size;have:=i.size;simp;omega}
theorem dg3{l n:Nat}{iZ:iE}{x:Nat}{id:Nat}(hl:¬LetsOut iZ)(hS:S w.drew)(h:S w.drew->ve P .any ops iZ S x ops.size (Array.replicate ops.size dF) a w.drew)(hm:P.follows .mixedOrders:=by kernel_rfl)(hd:aX5 ops:=by kernel_rfl):(Code.region id ops dY).wpIn (Fence.wide.inRound l) n P iZ a w:=
 wpIn_region_any hm (Yd (cf7 hd) hl _ _ _ _ (aN2 _ _ _ _ (h hS)))
set_option maxRecDepth 100000 in
theorem dU8(hn:3<=n)(hR:Rd w (.S p len cap) l)(hB:aD l)(el:J l=len)(hlen:len<=2^20)(xX:len<=cap)(qn:cap<=maxLen)(hp:(p=dN/\cap=0)\/∃b o,p=(Ad b o)):CallsIn Fence.wide n dG 124 #[.S p len cap] w (aI6 w (rl l)):=by
 have h1:1<=n:=af;refine callsIn_of_wp_marks func124 rfl iH ?_ rfl;simp only[ntmps124,GX,Nat.reduceAdd,Nat.reduceSub];refine wpIn_wide.2 ?_
 go_wp21
 refine wp_scope_straight ?_
 go_wp21
 go_step3
 go_wp21
 refine(JI.1 (dz4 (n:=0))).h ?_;rintro e w1⟨rfl,rfl⟩
 go_wp21
 let⟨Z,cT⟩:=aF (jA (jA (jA w (dO #[ay] 88)) (dO #[.I 0] 3)) (dO #[.S p len cap] 22));have z0:U (Q Z)=U (Q w)+3:=by rw[cT];simp
 have k0:I Z (Aw w 0)=ay:=by rw[cT];simp[go_sem]
 have f0:jF Z (Aw w 0)=dF:=by rw[cT];simp[go_sem]
 have k1:I Z (Ax w 0)=dI 0:=by rw[cT];simp[go_sem]
 have f1:jF Z (Ax w 0)=dF:=by rw[cT];simp[go_sem]
 have k2:I Z (Ad (U (Q w)+2) 0)=dS p len cap:=by rw[cT];simp[go_sem]
 have Pm:Bw w Z:=by rw[cT];exact(cY.alloc al _).alloc bL _
 rw[<-cT];clear cT;refine(wpIn_wide (n:=n)).1 ?_;refine wpIn_rangeFunc_ownH (F:=Fence.wide) rfl h1 (gf:=227) (lb:=#[Pz (U (Q w)+2)]) rfl iH (enters_of func227 aS rfl)
  (α:=Hb w) (encs:=bg8) (Kp:=tf (U (Q w)) (U (Q w)+2)) (S:=λys=>∃m x,ys=m++[x]/\x.1.z=0) (Sp:=λm=>keys m <+: yl (len+1) l) (N:=len+2) (w0:=Z) ?seq (λh k=>h.Z k) (tf.put af af) db (λ_=>rfl)
  (λm W=>Inv w m W/\Bw w W/\U (Q Z)<=U (Q W)) (λc m W=>aJ6 w c m W/\Bw w W)
  (OwnFrom.and (Inv.own w _) (OwnFrom.and (ownFrom_below aU af) (λ_ _ _ _ h hg _=>gq h hg.size)))
  (λc=>OwnFrom.and (aJ6.own w c _) (ownFrom_below aU af))
  ⟨⟨[],_,[],⟨k0,f0,k1,f1,lY.nil _ _⟩,by simp[tC],al,rfl,by simp[mi],al⟩,Pm,fS _⟩
  (λx a' W=>∃R,U (Q Z)<=R/\CF W R (.U x.1.s) (.S x.1.q (J x.1.b) x.1.d)/\(∃v0,I W (Aw w 0)=Y v0/\jB v0≠Y R)/\a'={tmps:=#[.S p len cap,jQ,ay,.I 0,Pz (U (Q w)),Pz (U (Q w)+1),Pz R,.I x.1.z,.S p len cap,.func (.func 227) #[] #[Pz (U (Q w)+2)],zQ x.1.s (.S x.1.q (J x.1.b) x.1.d),.I x.1.z,jQ,jQ,jQ,jQ,jQ,jQ,jQ,jQ,jQ,jQ,jQ,jQ,jQ,jQ,jQ,jQ,jQ,jQ,jQ,jQ,jQ,jQ,jQ,jQ,jQ,jQ,jQ,jQ,jQ,jQ,jQ,jQ,jQ,jQ,jQ],defers:=[]})
  ?ax ?assign ?body ?done ?stop
 case seq=>(
 intro L iJ Jx W hW hJ hJx hY h0;refine(dT5 (n:=n-1) af (L:=L) (Bs:=U (Q w)+2) (len:=len) (cap:=cap) (p:=p) (l:=l) (w:=w) hR hB el hlen xX qn hp iJ Jx (W:=W) hJ hY ((hW.cell (p:=(Ad (U (Q w)+2) 0)) (by show U (Q w)+2<_;omega)).Z k2) (Pm.Z (hW.h af)) h0).h ?_;rintro e W'⟨he,h⟩;exact⟨he,h⟩)
 case ax=>(
 rintro x a' _ W W' row⟨R,ta,hA,⟨v0,fK,Ma⟩,ha⟩hg hr;exact⟨R,ta,⟨cell_kept hA.1 hg (λr e=>(hr r e).2),cell_kept hA.2 hg (λr e=>(hr r e).2)⟩,⟨v0,cell_kept fK hg (λr e=>(hr r e).2),Ma⟩,ha⟩)
 case assign=>(
 rintro L m x W K⟨hi,hb,hz⟩hK;gi_wp2;let⟨rs,v,vs,⟨M,_,_,_,ho⟩,_⟩:=id hi;exact hK _ _ ((KeepsOthers.alloc _ _).from _) ⟨(bD _ W).alloc (by have:=hb.size;omega) _,JH (a:=(Ad (U (Q w)+2) 0)) (Za W _ _ (by show U (Q w)+2<_;omega))⟩ ⟨hi.H cY,hb.alloc hb.size _,bL⟩ ⟨U (Q W),hz,by simp[CF],⟨v,aq M cY,λe=>by have:=(ho.ar3 _ e).2;omega⟩,rfl⟩)
 case body=>(
 rintro L m⟨x,qC⟩a' W hL⟨r,hr⟩⟨⟨rs,v,vs,⟨M,c1,c2,c3,ho⟩,J4,Wj,hrl,Aj,yS⟩,hb,hz⟩⟨R,ta,hA,er9,rfl⟩lr;obtain⟨pv,cv,rfl⟩:=ho.form;obtain⟨v0,d0,WK⟩:=er9;rw[M]at d0;cases(by simpa using d0:.S pv (J rs) cv=v0);clear d0;let⟨K,eK⟩:=bu (J rs);rw[eK]at ho M hrl WK;dsimp only at*;have lG:∀(vs:iA)(w:G),(callFunc 129 vs).run dG w=.ok (.enter 129 vs) w:=λvs w=>aS;have hcg:∀(vs:iA)(w:G),(callFunc 191 vs).run dG w=.ok (.enter 191 vs) w:=λvs w=>aS;by_cases hx:x.z=0;{gi_wp2;refine⟨KeepsFrom.refl _ _,⟨rfl,rs,_,vs,⟨M,c1,c2,c3,ho⟩,λX=>?_⟩,hb⟩;have:=J4 (dN::X);simp only[uk,od,JD,xL,Gk,Eh];rw[show key x=dN by simp[key,hx],this];simp[rK]};{
 have Wn:key x=Y (x.s,x.b):=by simp[key,hx]
 obtain⟨V8,hxl,hxB,xs0,xs1,hRx⟩:x.z=J x.b+14/\J x.b<=1000/\aD x.b/\0<=x.s/\x.s<2^64/\Rd w (.S x.q (J x.b) x.d) x.b:=by obtain h|h:=qC;{exact absurd h hx};{exact h}
 gi_wp2_with fail
 have HX:=eG V8 hxB Wn;have HF:=nK J4 Wj hrl Aj yS;have eKh:=ai eK;let⟨hKn,fu7,fu1⟩:K<=1048578/\(mi rs:Int)<=1100000000/\(x.z:Int)<=1014:=af;clear J4 Wj hrl Aj yS V8 hxB Wn;let⟨vv,evv⟩:=bu (Value.slice pv K cv);have GW:=M;have HO:=ai ho;have HV:O (I W (Aw w 0)=vv/\lY (U (Q w)+3) W vv rs vs/\jB vv≠Y R):=by rw[<-evv];exact⟨M,ho,WK⟩
 clear evv ho WK M;by_cases Tm:K=0;rotate_left;have Wp:K-1<J rs:=af;obtain⟨⟨t,bt⟩,yN⟩:∃r,rs[K-1]?=Y r:=⟨_,bN Wp⟩;have HL:O (tC rs=t):=ai (by unfold tC;rw[au8,eK,yN];rfl);let⟨t0,t1⟩:=HF.2.2.2.2 _ (bq yN) |>.2;obtain⟨u,hu⟩:∃u,vs[K-1]?=Y u:=⟨_,bN (by rw[HO.len];exact Wp)⟩;obtain⟨_,h0⟩|⟨g,MT,cur,ev,uo,J3,_,_,_,_⟩:=id HO.row.2;{omega};simp only[rE]at ev;obtain⟨rfl,-,rfl⟩:=ev;have Vk:=HO.row;rw[eK]at Vk;have d0:=(Vk.cellAt (2*(K-1)) af).Z (ar7 rs vs (K-1) _ u yN hu).1;rw[Zm]at d0;dsimp only at d0;let⟨K1,Ks⟩:=bu (K-1);rw[Ks]at d0;have qF:(K:Int)-1=(K1:Int):=af;have Ay:=cM K1 K;have Ms:0<K:=af;have DG:=iM K1;refine bP5 (λw'=>I w' (Aw w 0)=dK g K cv/\CF w' R (.U x.s) (.S x.q (J x.b) x.d)/\I w' (Ad g (K1*2))=dU t) aS aS (by rintro⟨_,_,h⟩;exact h) (aE GW (aE hA d0)) (λhS=>?_);refine fu 0 1 hS ?_;refine tk 2 hS (v:=jO dY) (h:=?_);simp only[Act.put,xa,xb,xc];refine gr 3 4 5 6 7 8 9 10 hS ?_;refine fu 11 12 hS ?_;refine ry [13] ?_;refine cn (λKK hK=>?_) ?_;rotate_left;exact fN;rotate_left;refine do3 aY (f:=191) aY (v1:=.U x.s) (v2:=.U t) aY aY (λ_=>hcg _ _) (cD8 (s:=x.s) (t:=t) xs0 xs1 t0 t1) ?_;rintro e w7⟨rfl,rfl⟩;refine fE (bS hK hS λhS=>?_);generalize GC:uH t x.s=bk;refine fu 14 15 hS ?_;refine tn 16 hS ?_;refine cQ5 ?_;cases bk;{gi_wp2;obtain⟨M,ho,-⟩:=ae HV;refine⟨(KeepsOthers.drew _).from _,⟨rfl,rs,_,vs,⟨M,c1,c2,c3,ho.H mC⟩,λX=>?_⟩,hb.drew⟩;obtain⟨J4,-⟩:=ae HF;obtain⟨-,-,Wn⟩:=ae HX;have h2:=J4 (Y (x.s,x.b)::X);simp only[uk,od,JD,xL,Gk,Eh];rw[Wn,h2,ae HL];simp[rK,GC]};have sH:O (uH (tC rs) x.s):=ai (by rw[ae HL];exact GC);rotate_left;have sH:O (uH (tC rs) x.s):=ai (by rw[Hz (eK.Z Tm)];rfl);refine bP5 (λw'=>I w' (Aw w 0)=dS pv K cv) aS aS (by rintro⟨_,_,h⟩;exact h) GW (λhS=>?_);refine fu 0 1 hS ?_;refine tk 2 hS (v:=jO dF) (h:=?_);simp only[Act.put,xa,xb,xc];refine tn 3 hS ?_;refine iT 4 5 6 7 hS ?_;refine iT 8 9 10 11 hS ?_;refine sn 12 hS ?_;refine sn 13 hS ?_;refine sn 14 hS ?_;refine fu 15 16 hS ?_;refine cQ5 ?_
 all_goals
  clear hS GW HO Tm;let⟨M,ho,WK⟩:=ae HV;clear HV
  gi_wp2_with fail
  replace M:I W.drew (Aw w 0)=Y _:=M;replace c1:jF W.drew (Aw w 0)=dF:=c1;replace c2:I W.drew (Ax w 0)=Y _:=c2;replace c3:jF W.drew (Ax w 0)=dF:=c3;replace ho:=ho.H (bD (U (Q W)) W).drew;replace hA:CF W.drew R (.U x.s) (.S x.q (J x.b) x.d):=hA;replace hb:Bw w W.drew:=hb.drew;have KV:KeepsOthers W W.drew:=KeepsOthers.drew W;have BV:Bw W W.drew:=mC;have hzV:U (Q Z)<=U (Q W.drew):=hz;generalize W.drew=V at*;have B5:Bw V (jA V.drew (dO #[.S x.q (J x.b) x.d] 22)):=((bD (U (Q V)) V).drew).alloc aU _;refine dg3 (x:=10) (S:=λw'=>I w' (Aw w 0)=vv/\CF w' R (.U x.s) (.S x.q (J x.b) x.d)) (by rintro⟨_,_,h⟩;exact h) ⟨M,hA⟩ (λhS=>?_);refine tED 0 1 2 3 hS ?_;refine tEn 4 hS ?_;refine D5 5 (λKK hK=>?_);go_simp;refine JA hK ⟨aq M B5,hA.H B5⟩ λhS=>?_;clear hK KK;refine D5 6 (λKK hK=>?_);refine Jr aY (f:=129) aY (v1:=.T (U (Q V)) 1 1) aY (λ_=>lG _ _) (Gt (g:=U (Q V)) (vs:=[.S x.q (J x.b) x.d]) [x.b] (lm:=x.b) (n:=J x.b) 1 rfl (by show _=_;rw[aG0]) rfl (cd3 al (hRx.H (Zb hb (B5.h af)))) af af) ?_;rintro e w6⟨p6,c6,rfl,o6,je⟩;refine fE ?_;have B6:=aj B5 je;have z6:=B6.size;have el0:∀u'∈vs,US u' (.S p6 (J x.b) c6):=λu' Er b e1 e2=>by have h1:=ho.lt u' Er b e1;have h2:=(Own.lt o6 b e2).1;simp at h2;omega
  refine JA hK ⟨aq M B6,hA.H B6⟩ λhS=>?_;clear hK KK;refine tEo 7 hS ?_;refine D5 8 (λKK hK=>?_);go_simp;have B8:Bw V (jA w6 (dO #[.U x.s,.S p6 (J x.b) c6] 92)):=B6.alloc af _;refine JA hK ⟨aq M B8,hA.H B8⟩ λhS=>?_;clear hK KK;refine D5 9 (λKK hK=>?_);refine do6 aY aY (B:=U (Q w)+3) (v:=vv) (rs:=rs) (vs:=vs) (n:=K) eKh (g:=U (Q w6)) aY aY (ho.H B8) (r:=(x.s,x.b)) (u:=.S p6 (J x.b) c6) al al (Own.h (Own.H o6 cY) bL) el0 af bL ?_;intro p9 c9 w9 Tg qm;have DI:Below (U (Q w)+3) V w9:=(B8.h af).grown qm (by have:=B8.size;omega) (λb e=>(ho.ar3 b e).1);have q1:∀o,jF w9 (Aw w o)=jF V (Aw w o):=λo=>DI.frozen (p:=(Aw w o)) (by show U (Q w)<_;omega);refine JA hK ⟨(DI.cell (p:=(Aw w 0)) (by show U (Q w)<_;omega)).Z M,qm.cell hS.2.1 (λe=>WK e.C),qm.cell hS.2.2 (λe=>WK e.C)⟩ λhS=>?_;clear hK KK;refine D5 10 (λKK hK=>?_);go_simp;refine oGX hK ?_;clear hK KK hS;refine aN1 ?_;have q2:=(DI.cell (p:=(Ax w 0)) (by show U (Q w)+1<_;omega)).Z c2;have q3:=(DI.frozen (p:=(Ax w 0)) (by show U (Q w)+1<_;omega)).Z c3;gi_wp2;exact eU6 (w:=w) (W:=W) (V:=V) (w9:=w9) (W0s:=U (Q Z)) (x:=x) qC (pre:=m) (rs:=rs) (vs:=vs) (p9:=p9) (c9:=c9) (K:=K) z0 hz KV BV hb M c1 c2 c3 ho DI ((KeepsOthers.tj B8).Z (KeepsOthers.of_grownBy qm (ho.H B8).dw1)) Tg eKh HX HF sH hxl xs0 xs1})
 case done=>(
 rintro D ys W hD⟨m,x,rfl,hx⟩⟨⟨rs,v,vs,_,_,Wj,_⟩,_⟩hK;exact absurd hx (Wj x al))
 case stop=>(
 rintro D c ys W hD hSp⟨⟨rfl,rs,v,vs,⟨M,c1,c2,c3,ho⟩,J4⟩,hb⟩hK;obtain⟨X,cq9⟩:=hSp;have erl:rl l=rs:=by unfold rl;rw[el,<-cq9];exact J4 X
 obtain⟨pv,cv,rfl⟩:=ho.form;refine wpIn_wide.2 ?_;clear J4 cq9
 go_wp21
 go_region_held3 (λw'=>I w' (Aw w 0)=dS pv (J rs) cv/\I w' (Ax w 0)=dI (mi rs:Nat)) (exact aE M c2) (fail)
 go_wp2
 try rw[Exit.noGoto_ret]
 refine⟨al,.L ⟨_,_,rfl,run_takeDeferred (w:=W.drew) hK,?_⟩⟩;have hKd:W.drew.heap[D]?=Y (.deferred (Y [])):=hK;refine⟨dT #[.S pv (J rs) cv,.I (mi rs:Nat)],by simp[results,results124,go_sem],?_⟩;rw[erl];refine⟨pv,cv,vs,rfl,((ho.H mC).Oq (grownBy_putObj' W.drew D (.deferred dN)) (λr e=>by cases e;exact⟨_,hKd,rfl⟩)).h af,?_⟩;exact hb.drew.Z (belowK_b (w:=w) aU W.drew D _ _ af hKd rfl rfl))
theorem co4(r:Rd w (.S p len cap) l)(s:aD l)(el:J l=len)(i:len<=2^20)(j:len<=cap)(m:cap<=maxLen)(q:(p=dN/\cap=0)\/∃b o,p=(Ad b o)):Cp 124 #[.S p len cap] w (aI6 w (rl l)):=
 JI.1 (dU8 (n:=3) af r s el i j m q)
def oB:Option LI->Int×Option LI
 |some (c::t)=>(c,Y t)
 |_=>(0,dN)
def oV:Option LI->Int×Option LI
 |some m=>(match rv m with|some x=>(x.1,Y x.2)|none=>(0,dN))
 |none=>(0,dN)
def oT:Option LI->LI×Option LI
 |some m=>(match rt m with|some x=>(x.1,Y x.2)|none=>([],dN))
 |none=>([],dN)
def lx(n:Nat):Option LI->Int
 |some m=>(n:Int)-(J m)
 |none=>-1
def iF(n:Nat)(l:LI)(om:Option LI):Prop:=∀m,om=Y m->J m<=n/\m=jD (n-(J m)) l
theorem iF.start(h:J l=n):iF n l l:=λm e=>by
 simp at e;subst e;exact⟨af,by rw[h,Ab];rfl⟩
theorem iF.none:iF n l dN:=λm e=>by cases e
theorem iF.aW9(i:J l=n)(h:iF n l m){t:LI}(o:J t<=J m)(e:t=jD (J m-(J t)) m):iF n l t:=λx ex=>by
 simp at ex;subst ex;let⟨q,j⟩:=h m rfl;refine⟨af,?_⟩
 conv=>lhs;rw[e,j,Ly,uK,i]
 congr 1;omega
theorem at0(i:J l=n)(h:iF n l om):iF n l (oB om).2:=by
 match om,h with
 |none,_=>exact iF.none
 |some [],_=>exact iF.none
 |some (c::t),h=>exact iF.aW9 i h al al
theorem wD(i:J l=n)(h:iF n l om):iF n l (oV om).2:=by
 match om,h with
 |none,_=>exact iF.none
 | some m,h=>
  show iF n l (match rv m with|some x=>(x.1,Y x.2)|none=>(0,dN):Int×Option LI).2;cases e:rv m with
  |none=>exact iF.none
  |some x=>
   obtain⟨v,t⟩:=x;let⟨_,_,o,j⟩:=aq9 10 0 0 m v t e;exact iF.aW9 (t:=t) i h (av3 o) j
theorem bZ1{x:LI×LI}(h:rt m=x):J x.2<=J m/\x.2=jD (J m-(J x.2)) m/\∃a b,x.1=jT b (jD a m):=by
 unfold rt at h;cases e:rv m with
 |none=>rw[e]at h;simp at h
 |some y=>
  obtain⟨v,t⟩:=y;rw[e]at h;simp only at h;let⟨j,_,o,i⟩:=aq9 10 0 0 m v t e;split at h;{cases h};{
 next hv=>
 simp at h;subst h;simp only[uK];refine⟨af,?_,J m-(J t),jN v,by rw[<-i]⟩
 conv=>lhs;rw[i,Ly]
 congr 1;omega}
theorem as9(i:J l=n)(h:iF n l om):iF n l (oT om).2:=by
 match om,h with
 |none,_=>exact iF.none
 | some m,h=>
  show iF n l (match rt m with|some x=>(x.1,Y x.2)|none=>([],dN):LI×Option LI).2;cases e:rt m with
  |none=>exact iF.none
  |some x=>
   let⟨o,j,_⟩:=bZ1 e;exact iF.aW9 i h o j
theorem Vu(o:aD l)(h:iF n l om):aD (oT om).1/\(oT om).1.length<=n:=by
 match om,h with
 |none,_=>exact⟨λz i=>by simp[oT]at i,by simp[oT]⟩
 | some m,h=>
  let⟨r,q⟩:=h m rfl;have hm:aD m:=by rw[q];exactλz i=>o z (Oa i)
  show aD (match rt m with|some x=>(x.1,Y x.2)|none=>([],dN):LI×Option LI).1/\(match rt m with|some x=>(x.1,Y x.2)|none=>([],dN):LI×Option LI).1.length<=n;cases e:rt m with
  |none=>exact⟨λz i=>by simp at i,al⟩
  |some x=>
   let⟨_,_,a,b,j⟩:=bZ1 e;refine⟨?_,?_⟩;{show aD x.1;rw[j];exactλz i=>hm z (Oa (Rz i))};{show J x.1<=n;rw[j,tz,uK];omega}
theorem dH0(i:aD l)(h:iF n l om):0<=(oB om).1/\(oB om).1<256:=by
 match om,h with
 |none,_=>simp[oB]
 |some [],_=>simp[oB]
 |some (c::t),h=>
  let⟨m,j⟩:=h _ rfl;exact i c (Oa (by rw[<-j];simp))
theorem cd8:0<=(oV om).1/\(oV om).1<2^64:=by
 cases om with
 |none=>simp[oV]
 | some m=>
  show 0<=(match rv m with|some x=>(x.1,Y x.2)|none=>(0,dN):Int×Option LI).1/\(match rv m with|some x=>(x.1,Y x.2)|none=>(0,dN):Int×Option LI).1<_;cases e:rv m with
  |none=>simp
  |some x=>
   obtain⟨v,t⟩:=x;let⟨j,i,_⟩:=aq9 10 0 0 m v t e;exact⟨j,i⟩
theorem aU2{P:LI}(rest:LI)(h:J P<2^64):rt (tx P++rest)=Y (P,rest):=by
 rw[rt,tx,xL,aq8 _ h];simp only[fe];rw[aJ af];simp
variable {x:Int}
theorem aU8(s:Le l n)(h:Rd w (.S p n c) l)(q:aD l)(o:Mg n)(i:iF n l om)(e:O (oB om=(x,vh))):Cp 161 #[.S p n c,.I (lx n om)] w λe w'=>e=dR (dT #[.I x,.I (lx n vh)])/\w'=w:=by
 have e:=ae e
 match om,i with
 |none,_=>
  simp[oB]at e;obtain⟨rfl,rfl⟩:=e;exact dA0
 |some [],i=>
  simp[oB]at e;obtain⟨rfl,rfl⟩:=e;have m:lx n (Y [])=(n:Int):=by simp[lx]
  rw[m];exact dA1 o
 |some (y::t),i=>
  simp[oB]at e;obtain⟨rfl,rfl⟩:=e;let⟨r,j⟩:=i _ rfl;simp only[mO]at r j;let⟨a,m⟩:=bu (n-(J t+1));rw[m]at j;have D:lx n (Y (y::t))=(a:Int):=by simp[lx];omega
  have B:lx n t=((a+1:Nat):Int):=by simp[lx];omega
  have u:jE l a 0=y:=by have:=vj (λz=>jE z 0 0) j;simp[List.getD]at this;simp[List.getD,<-this]
  have:=dA2 (a:=a) s h q o af;rw[u]at this;rw[D,B];exact this
theorem ca5(en:Le l n)(h:Rd w (.S p n c) l)(hb:aD l)(j:Mg n)(i:iF n l om)(e:O (oV om=(x,vh))):Cp 159 #[.S p n c,.I (lx n om)] w λe w'=>e=dR (dT #[.U x,.I (lx n vh)])/\w'=w:=by
 have e:=ae e
 match om,i with
 |none,_=>
  simp[oV]at e;obtain⟨rfl,rfl⟩:=e;exact ca6
 |some m,i=>
  let⟨h1,h2⟩:=i _ rfl;let⟨a,o⟩:=bu (n-(J m));rw[o]at h2;have q:lx n m=(a:Int):=by simp[lx];omega
  have:=ca7 (a:=a) en h hb j af (r:=rv m) (ai (by rw[<-h2]));rw[q];refine this.h ?_;rintro r w'⟨rfl,rfl⟩;refine⟨?_,rfl⟩;unfold oV at e;dsimp only at e;cases er:rv m with
  |none=>rw[er]at e;simp at e;obtain⟨rfl,rfl⟩:=e;rfl
  |some y=>rw[er]at e;simp at e;obtain⟨rfl,rfl⟩:=e;rfl
theorem aU7(en:Le l n)(h:Rd w (.S p n c) l)(hb:aD l)(B:Mg n)(u:n<=c)(i:iF n l om){x:LI}(e:O (oT om=(x,vh)))(q:Le x N):Cp 160 #[.S p n c,.I (lx n om)] w λe w'=>∃o s,e=dR (dT #[.S o N s,.I (lx n vh)])/\Own (U (Q w)) w' (.S o N s) x/\Bw w w':=by
 have e:=ae e
 match om,i with
 |none,_=>
  simp[oT]at e;obtain⟨rfl,rfl⟩:=e;cases(by rw[<-ae q];rfl:N=0);refine(dz8).h ?_;rintro r w'⟨rfl,rfl⟩;exact⟨dN,0,rfl,qe _ _ _ _,bD _ _⟩
 | some m,i=>
  let⟨h1,h2⟩:=i _ rfl;let⟨a,E⟩:=bu (n-(J m));rw[E]at h2;have M:lx n m=(a:Int):=by simp[lx];omega
  have j:Vd (rt m)=x/\bOf n (rt m)=lx n vh:=by
   unfold oT at e;dsimp only at e;cases er:rt m with
   |none=>rw[er]at e;simp at e;obtain⟨rfl,rfl⟩:=e;exact⟨rfl,rfl⟩
   |some y=>rw[er]at e;simp at e;obtain⟨rfl,rfl⟩:=e;exact⟨rfl,rfl⟩
  have:=dz9 (a:=a) en h hb B u af (r:=rt m) (ai (by rw[<-h2])) (N:=N) (ai (by rw[j.1];exact ae q));rw[M];rw[j.1,j.2]at this;exact this
abbrev blk(g:Nat):dV:=.T g 0 0
def yt(R:Nat)(w:G)(p:OA)(m:LI):Prop:=m=[]\/∃b o,b<R/\p=(Ad b o)/\∀i,i<J m->I w (Ad b (o+i))=Y (jK .u8 (jE m i 0))
variable {R:Nat}
theorem yt.rd(h:yt R w p m)(e:J m=n):Rd w (.S p n c) m:=by
 refine⟨p,c,by rw[e],?_⟩;obtain h|⟨b,o,_,j,i⟩:=h;{exact .L h};{exact .R ⟨b,o,j,i⟩}
theorem yt.set(h:yt R w p m)(o:Nat)(v:dV):yt R (jS w (Ad R o) v) p m:=by
 obtain h|⟨b,j,u,s,r⟩:=h;{exact .L h};{refine .R ⟨b,j,u,s,λi q=>?_⟩;rw[Rw _ _ _ _ (by simp;try omega)];exact r i q}
variable {o:Nat}
theorem yt.tail(h:yt R w (Ad b o) (x::m)):yt R w (Ad b (o+1)) m:=by
 obtain h|⟨y,s,r,j,q⟩:=h;{cases h};{simp at j;obtain⟨rfl,rfl⟩:=j;refine .R ⟨b,o+1,r,rfl,λi u=>?_⟩;have:=q (i+1) bL;rw[show o+1+i=o+(i+1) by omega,this];simp}
def mw(w:G)(R:Nat)(m:LI)(n:Nat)(sh:Bool):Prop:=
 J m=n/\(∀o,jF w (Ad R o)=dF)/\∃p c,CF w R (.S p n c) (jO sh)/\yt R w p m/\n<=c/\((p=dN/\c=0)\/∃b o,p=(Ad b o))
theorem Sd:Kept [blk R] w (jS w (Ad R o) v):=by
 refine⟨rfl,rfl,rfl,al,λk j i=>?_⟩;have:k≠R:=λe=>i (blk R) al (by rw[e];rfl);simp[World.setCell,Ac];intro e;exact absurd e.C this
theorem ds6(h:mw w R (x::m) (n+1) sh)(hx:0<=x/\x<256)(hl:Mg n):dQ dG 255 #[Pz R] w λe w'=>e=dR (.I x)/\mw w' R m n sh/\Kept [blk R] w w':=by
 obtain⟨i,hf,p,c,⟨u,r⟩,j,hc,s⟩:=h;have y:J m=n:=by simpa using i
 obtain⟨b,o,rfl⟩:∃b o,p=(Ad b o):=by obtain h|h:=s;{omega};{exact h}
 have D:b<R:=by obtain h|⟨N,B,r,q,_⟩:=j;{cases h};{simp at q;omega}
 have W:I w (Ad b o)=Y (jK .u8 x):=by obtain h|⟨N,B,r,q,E⟩:=j;{cases h};{simp at q;obtain⟨rfl,rfl⟩:=q;simpa using E 0 al}
 have g1:((n:Int)+1==0)=dF:=by simp;omega
 have V:jY jV x=x:=nW _ af;let⟨k1,Z⟩:(1:Int)<=(n:Int)+1/\(n:Int)+1<=(c:Int):=af;have X:=gS 1 c;have S:=ai j;clear j s i;by_cases M:c=1;{subst M;cases(af:n=0);cases uJ.1 y;go_in;go_wp2;go_ret;refine⟨rfl,⟨rfl,λo=>by simp[hf],Y (Ad b o),0,⟨by simp[go_sem,u],by simp[go_sem,r]⟩,.L rfl,af,.R ⟨b,o,rfl⟩⟩,Sd⟩};{go_in;go_wp2;go_ret;exact⟨rfl,⟨y,λo=>by simp[hf],Y (Ad b (o+1)),c-1,⟨by simp[go_sem,u],by simp[go_sem,r]⟩,S.tail.set _ _,af,.R ⟨b,o+1,rfl⟩⟩,Sd⟩}
theorem ds7(h:mw w R [] 0 sh):dQ dG 255 #[Pz R] w λe w'=>e=dR (.I 0)/\mw w' R [] 0 dY/\Kept [blk R] w w':=by
 obtain⟨i,hf,p,c,⟨q,m⟩,r,hc,j⟩:=h;go_in;go_wp2;go_ret;exact⟨rfl,⟨rfl,λo=>by simp[hf],p,c,⟨by simp[go_sem,q],by simp[go_sem,m]⟩,.L rfl,hc,j⟩,Sd⟩
def sB:LI->Bool->Int×LI×Bool
 |[],_=>(0,[],dY)
 |c::t,sh=>(c,t,sh)
theorem aS3(h:mw w R m n sh)(i:aD m)(j:Mg n)(e:O (sB m sh=(x,m',sh'))):Cp 255 #[Pz R] w λe w'=>e=dR (.I x)/\mw w' R m' (J m') sh'/\Kept [blk R] w w':=by
 have e:=ae e;cases m with
 |nil=>
  simp[sB]at e;obtain⟨rfl,rfl,rfl⟩:=e;cases h.1.C;exact ds7 h
 |cons c t=>
  simp[sB]at e;obtain⟨rfl,rfl,rfl⟩:=e;obtain rfl:n=J t+1:=by have:=h.1;simpa using this.C
  exact ds6 h (i c al) af
def sN:Nat->Nat->Int->LI->Bool->Int×LI×Bool
 |0,_,a,m,sh=>(a,m,sh)
 |f+1,k,a,m,sh=>if(sB m sh).1<128 then(yk k a (sB m sh).1,(sB m sh).2)else sN f (k+1) (yk k a (sB m sh).1) (sB m sh).2.1 (sB m sh).2.2
theorem Vi(h:aD m):aD (sB m sh).2.1/\0<=(sB m sh).1/\(sB m sh).1<256/\(sB m sh).2.1.length<=J m:=by
 cases m with
 |nil=>exact⟨λz i=>by simp[sB]at i,by simp[sB],by simp[sB],by simp[sB]⟩
 |cons c t=>exact⟨λz i=>h z (by simp[sB]at i;simp[i]),(h c al).1,(h c al).2,by simp[sB]⟩
theorem Hw(h:mw w R m n sh)(hb:aD m)(hl:Mg n)(e:O (sN 10 0 0 m sh=(x,m',sh'))):dQ dG 231 #[Pz R] w λe w'=>e=dR (.U x)/\mw w' R m' (J m') sh'/\Kept [blk R] w w':=by
 go_in
 go_wp21
 go_loopw[3,6](λnv M wr=>∃(v:Int)(k:Nat)(j:LI)(q:Bool)(s:Nat),nv=.U v/\k<=10/\M=.I k/\O (sN (10-k) k v j q=(x,m',sh'))/\O (aD j)/\s<=n/\O (mw wr R j s q)/\Kept [blk R] w wr) (λ_ M _=>10-(jN (intOf M)))
 exact⟨0,0,m,sh,n,rfl,af,rfl,e,hb,fS _,h,Kept.refl _ _⟩;{
 obtain⟨v,k,j,q,s,rfl,hk,rfl,E,X,oQ,B,hK⟩:=hrel;by_cases GG:k<10;{
 have V:(k:Int)<10:=af;have i:=ae E;rw[show 10-k=(9-k)+1 by omega,sN]at i;have dr:=Vi (sh:=q) X;obtain⟨⟨c,u,o⟩,S⟩:∃y,sB j q=y:=⟨_,rfl⟩;rw[S]at i dr;obtain⟨N,mu,gm,W⟩:=dr;dsimp only at i N mu gm W;have sc:J j=s:=B.1;have xT:J u<=n:=af;have w7:jY jV (7*(k:Int))=7*(k:Int):=nW _ af;have w70:¬7*(k:Int)<0:=af;have oF:=ai N;clear E N sc W
 go_wp21
 refine(aS3 B X af S).h ?_;rintro r w2⟨rfl,Pg,Z⟩;let⟨Fx,Hc⟩:=aQ Pg (hK.Z Z);clear Pg Z S;by_cases hc:c<128;{
 rw[aK hc]at i;simp only[lE]at i;obtain⟨e1,rfl,rfl⟩:=i
 change O _ at e1
 go_wp2;go_ret;exact⟨by rw[<-ae e1];rfl,Fx,Hc⟩};{
 have gH:¬c<128:=hc;rw[aJ hc]at i;have tS:O (sN (10-(k+1)) (k+1) (yk k v c) u o=(x,m',sh')):=by show _=_;rw[show 10-(k+1)=9-k by omega];exact i
 clear i;go_wp2;go_roundw;exact⟨yk k v c,k+1,u,o,J u,rfl,af,by go_num,tS,oF,xT,Fx,Hc⟩;exact dy}};{have V:¬(k:Int)<10:=af;have i:=ae E;rw[show 10-k=0 by omega,sN]at i;simp only[lE]at i;obtain⟨rfl,rfl,rfl⟩:=i;cases B.1;clear E;go_wp2;go_ret;exact⟨rfl,B,hK⟩}}
def sT(m:LI)(sh:Bool):LI×LI×Bool:=
 if((sN 10 0 0 m sh).2.1.length:Int)<(sN 10 0 0 m sh).1 then([],(sN 10 0 0 m sh).2.1,dY)
 else((sN 10 0 0 m sh).2.1.take (sN 10 0 0 m sh).1.toNat,(sN 10 0 0 m sh).2.1.drop (sN 10 0 0 m sh).1.toNat,(sN 10 0 0 m sh).2.2)
theorem YD(f:Nat):∀(k:Nat)(a:Int)(m:LI)(sh:Bool),aD m->(0<=a/\a<2^64)->aD (sN f k a m sh).2.1/\(sN f k a m sh).2.1.length<=J m/\0<=(sN f k a m sh).1/\(sN f k a m sh).1<2^64:=by
 induction f with
 |zero=>intro k a m sh i j;exact⟨i,fS _,j.1,j.2⟩
 |succ f ih=>
  intro k a m sh i j;rw[sN];let⟨o,y,x,s⟩:=Vi (sh:=sh) i;split;{exact⟨o,s,aH2⟩};{let⟨r,u,q⟩:=ih (k+1) (yk k a (sB m sh).1) _ (sB m sh).2.2 o (aH2);exact⟨r,af,q⟩}
theorem dT3{X:G}(D:Le l0 N)(u:Rd X v0 l0)(y:N<=2^22):Cp 129 #[.T (U (Q X)) 1 1] (jA X (dO #[v0] 22)) λe w'=>∃i r,e=dR (.S i N r)/\Own (U (Q X)) w' (.S i N r) l0/\Bw X w':=by
 have s:Bw X (jA X (dO #[v0] 22)):=cY;refine(Gt (g:=U (Q X)) (vs:=[v0]) [l0] (lm:=l0) (n:=N) 1 rfl (ai (by simp[cat])) D ⟨rfl,λj v x q m=>?_⟩ y af).h ?_;{
 match j,q,m with
 |0,q,m=>simp at q m;subst q m;exact⟨al,u.H s⟩}
 {rintro e w'⟨i,r,rfl,o,B⟩;exact⟨i,r,rfl,Own.h o al,aj s B⟩}
theorem yt.H(h:yt R w p m)(q:Bw w w'):yt R w' p m:=by
 obtain h|⟨b,j,u,s,r⟩:=h;{exact .L h};{exact .R ⟨b,j,u,s,λi o=>aq (r i o) q⟩}
theorem yt.take(h:yt R w p m)(V:Nat):yt R w p (jT V m):=by
 obtain h|⟨b,j,s,r,q⟩:=h;{exact .L (by rw[h];simp)};{refine .R ⟨b,j,s,r,λi o=>?_⟩;rw[tz]at o;rw[q i af];simp[List.getD,show i<V by omega]}
theorem yt.drop(h:yt R w (Ad b o) m)(V:Nat):yt R w (Ad b (o+V)) (jD V m):=by
 obtain h|⟨x,u,s,j,r⟩:=h;{exact .L (by rw[h];simp)};{simp at j;obtain⟨rfl,rfl⟩:=j;refine .R ⟨b,o+V,s,rfl,λi q=>?_⟩;rw[uK]at q;rw[yJ,r (V+i) af];simp[List.getD]}
theorem aP2(h:mw w R m n sh)(hb:aD m)(hl:Mg n)(hRw:R<U (Q w)){x:LI}(e:O (sT m sh=(x,m',sh')))(eN:Le x N):dQ dG 256 #[Pz R] w λr w'=>∃p' c',r=dR (.S p' N c')/\Own (U (Q w)) w' (.S p' N c') x/\mw w' R m' (J m') sh'/\Kept [blk R] w w':=by
 have dr:=YD 10 0 0 m sh hb af;obtain⟨⟨v,m1,Vf⟩,eS⟩:∃y,sN 10 0 0 m sh=y:=⟨_,rfl⟩;have j:=ae e;rw[sT,eS]at j;rw[eS]at dr;obtain⟨rJ,Ar,v0,v1⟩:=dr;dsimp only at j rJ Ar v0 v1;rw[h.1]at Ar;let⟨i,u⟩:=bu (J m1);rw[u]at j Ar;have wn:jY jU (i:Int)=(i:Int):=by rw[wV];omega
 go_in
 go_wp21
 refine(Hw h hb hl eS).h ?_;rintro r M⟨rfl,ta,Z⟩;rw[u]at ta;have xz:=ai ta;obtain⟨_,hf,p,c,⟨h0,h1⟩,hr,hc,hp⟩:=ta;by_cases hv:(i:Int)<v;{rw[aK hv]at j;simp only[lE]at j;obtain⟨rfl,rfl,rfl⟩:=j;cases(by rw[<-ae eN];rfl:N=0);clear v1;go_wp2;go_ret;refine⟨dN,0,rfl,qe _ _ _ _,?_,Z.Z Sd⟩;rw[u];exact⟨u,λo=>by simp[hf],p,c,⟨by simp[go_sem,h0],by simp[go_sem,h1]⟩,hr.set _ _,hc,hp⟩};{
 rw[aJ hv]at j;obtain⟨V,rfl⟩:∃V:Nat,v=(V:Int):=⟨jN v,af⟩;have eV:jN ((V:Int))=V:=af;rw[eV]at j;simp only[lE]at j;obtain⟨ex,em,es⟩:=j;have hVn:V<=i:=af;cases(by rw[<-ae eN,<-ex,tz,u];omega:N=V);have JX:J m'=i-N:=by rw[<-em,uK,u]
 have qg:¬(i:Int)<(N:Int):=hv;have k2:=qx N c;have k3:=qx N i;have k4:=qx i c;have W:=eG ex em JX;have rx:Rd M (.S p N c) x:=by rw[<-ex];exact(hr.take N).rd (ex▸ae eN)
 let⟨X,CE⟩:=aQ rx hr;have zK:=Z.size;clear v0 v1 eV hb rJ ex em rx hr h eS e
 go_wp21
 refine(dT3 eN X af).h ?_;rintro r w2⟨p2,c2,rfl,o2,E⟩;have i0:=aq h0 E;have i1:=aq h1 E;have q:=yT hf (my M _ h0) E;let⟨Hc,s,iK⟩:=gC (Z.Z (Kept.tj E)) o2 (CE.H E);clear h0 h1 hf E o2 Z CE X;obtain⟨rfl,rfl⟩|⟨b,o,rfl⟩:=hp;{cases(af:i=0);cases(af:N=0);go_wp2;go_ret;refine⟨p2,c2,rfl,Own.h (B:=U (Q M)) ?_ af,?_,Hc.Z Sd⟩;{exact rW s bL _};{have yR:m'=[]:=uJ.1 W.2.2;rw[yR,<-es];exact⟨rfl,λo=>by simp[q],dN,0,⟨by simp[go_sem,i0],by simp[go_sem,i1]⟩,.L rfl,al,.L ⟨rfl,rfl⟩⟩}};{by_cases hcN:c=N;{subst hcN;cases(af:i=c);go_wp2;go_ret;refine⟨p2,c2,rfl,Own.h (B:=U (Q M)) ?_ af,?_,Hc.Z Sd⟩;{exact rW s bL _};{have yR:m'=[]:=uJ.1 (by rw[W.2.2];omega);rw[yR,<-es];exact⟨rfl,λo=>by simp[q],Y (Ad b o),0,⟨by simp[go_sem,i0],by simp[go_sem,i1]⟩,.L rfl,al,.R ⟨b,o,rfl⟩⟩}};{have fy8:¬(c:Int)=(N:Int):=af;go_wp2;go_ret;refine⟨p2,c2,rfl,Own.h (B:=U (Q M)) ?_ af,?_,Hc.Z Sd⟩;{exact rW s bL _};{rw[<-es,W.2.2];refine⟨W.2.2,λo=>by simp[q],Y (Ad b (o+N)),c-N,⟨by simp[go_sem,i0],by simp[go_sem,i1]⟩,?_,af,.R ⟨b,o+N,rfl⟩⟩;have:=iK.drop N;rw[W.2.1]at this;exact this.set _ _}}}}
theorem dv1(f:Nat):∀(k:Nat)(a:Int)(m:LI)(v:Int)(t:LI)(sh:Bool),wu f k a m=Y (v,t)->sN f k a m sh=(v,t,sh):=by
 induction f with
 |zero=>intro k a m v t sh h;simp[wu]at h
 | succ f ih=>
  intro k a m v t sh h;cases m with
  |nil=>simp[wu]at h
  |cons c m=>
   rw[wu]at h;rw[sN];show(if c<128 then(yk k a c,m,sh)else sN f (k+1) (yk k a c) m sh)=_;split at h;{next hc=>rw[aK hc];simp at h;rw[h.1,h.2]}
   {next hc=>rw[aJ hc];exact ih _ _ _ _ _ _ h}
variable {rest:LI}
theorem aT9{s:Nat}(i:s<2^64):sN 10 0 0 (vi s++rest) sh=((s:Int),rest,sh):=dv1 10 0 0 _ _ _ sh (aq8 rest i)
theorem aq5(P:LI)(h:J P<2^64):sT (tx P++rest) sh=(P,rest,sh):=by
 rw[sT,tx,xL,aT9 h];simp only[fe];rw[aJ af];simp
theorem aq7(h:sh):(sB m sh).2.2:=by
 cases m with
 |nil=>rfl
 |cons c t=>exact h
theorem aU0(f:Nat):∀(k:Nat)(a:Int)(m:LI)(sh:Bool),sh->(sN f k a m sh).2.2:=by
 induction f with
 |zero=>intro k a m sh h;exact h
 |succ f ih=>
  intro k a m sh h;rw[sN];split;{exact aq7 h};{exact ih _ _ _ _ (aq7 h)}
theorem aq6(h:sh):(sT m sh).2.2:=by
 rw[sT];split;{rfl};{exact aU0 _ _ _ _ _ h}
theorem Vh(h:aD m):aD (sT m sh).1/\aD (sT m sh).2.1/\(sT m sh).1.length<=J m/\(sT m sh).2.1.length<=J m:=by
 let⟨j,o,r,q⟩:=YD 10 0 0 m sh h af;rw[sT];split;{exact⟨λz i=>by simp at i,j,al,o⟩};{refine⟨λz i=>j z (Rz i),λz i=>j z (Oa i),?_,?_⟩;{rw[tz];omega};{rw[uK];omega}}
theorem ag1(h:∀o,jF w (Ad b o)=dF)(j:Kept [blk R] w w')(m:b<U (Q w))(q:b≠R):∀o,jF w' (Ad b o)=dF:=λo=>
 (Dg (j.block b m (λx i e=>by simp only[rC]at i;subst i;simp[jB]at e;exact q e.C))).Z (h o)
theorem Own.lp(h:Own B w v l)(j:Kept [blk R] w w')(q:R<B):Own B w' v l:=by
 refine Own.L5 (vs:=[blk R]) h j ?_;intro x i k o m;simp only[rC]at i;subst i;simp[jB]at m;have:=h.lt k o;omega
theorem Xk{w0:G}(h:Bw w0 w)(j:Kept [blk R] w w')(m:U (Q w0)<=R):Bw w0 w':=
 h.Z (j.H h.size (λv i b e=>by simp only[rC]at i;subst i;simp[jB]at e;omega))
theorem nF.rde(h:nF B w v es):qI w v es:=by
 obtain⟨p,c,rfl,-,-,o⟩:=RT.form h;refine⟨p,c,rfl,?_⟩;by_cases j:es=[];{exact .L j};{obtain⟨g,rfl⟩:=o (NS.2 j);refine .R ⟨g,0,rfl,λi e q=>?_⟩;obtain⟨s,-,⟨P,r,m⟩,hc,-⟩:=RT.at h q;subst r;exact⟨by have:=hc 0 _ rfl;simpa using this,P,by have:=hc 1 _ rfl;simpa using this,m.1⟩}
theorem fh.rds(h:fh B w v ss Qs):nO w v ss:=by
 have u:J (ss.zip Qs)=J ss:=by rw[VN,h.len];simp
 obtain⟨p,c,e,-,-,o⟩:=RT.form h.row;rw[u]at e o;subst e;refine⟨p,c,rfl,?_⟩;by_cases r:ss=[];{exact .L r};{obtain⟨g,rfl⟩:=o (NS.2 r);refine .R ⟨g,0,rfl,λi s m=>?_⟩;obtain⟨j,q⟩:∃j,Qs[i]?=Y j:=⟨_,bN (h.len▸((bH.1 m).1))⟩;obtain⟨D,-,y,hc,-⟩:=RT.at h.row (i:=i) (x:=(s,j)) (by rw[N8];exact⟨m,q⟩);rw[show D=_ from y]at hc;exact⟨by have:=hc 0 _ rfl;simpa using this,by have:=hc 1 _ rfl;simpa using this,j,by have:=hc 2 _ rfl;simpa using this,(h.vD i s j m q).rde⟩}
theorem nF.dA6(h:nF B w v es):rP w v es:=by
 obtain⟨p,c,rfl,-,-,o⟩:=RT.form h;refine⟨p,c,rfl,?_⟩;by_cases m:es=[];{exact .L m};{obtain⟨g,rfl⟩:=o (NS.2 m);refine .R ⟨g,0,rfl,λi e q=>?_⟩;obtain⟨s,-,⟨P,r,j⟩,hc,-⟩:=RT.at h q;subst r;exact⟨by have:=hc 0 _ rfl;simpa using this,P,by have:=hc 1 _ rfl;simpa using this,j.1,j.2.2⟩}
theorem fh.dA5(h:fh B w v ss Qs):nM w v ss:=by
 have u:J (ss.zip Qs)=J ss:=by rw[VN,h.len];simp
 obtain⟨p,c,e,-,-,o⟩:=RT.form h.row;rw[u]at e o;subst e;refine⟨p,c,rfl,?_⟩;by_cases r:ss=[];{exact .L r};{obtain⟨g,rfl⟩:=o (NS.2 r);refine .R ⟨g,0,rfl,λi s m=>?_⟩;obtain⟨j,q⟩:∃j,Qs[i]?=Y j:=⟨_,bN (h.len▸((bH.1 m).1))⟩;obtain⟨D,-,y,hc,-⟩:=RT.at h.row (i:=i) (x:=(s,j)) (by rw[N8];exact⟨m,q⟩);rw[show D=_ from y]at hc;exact⟨by have:=hc 0 _ rfl;simpa using this,by have:=hc 1 _ rfl;simpa using this,j,by have:=hc 2 _ rfl;simpa using this,(h.vD i s j m q).dA6⟩}
def Fe{α:Type}(f:α->α)(k:Nat)(xs:List α):List α:=(jT k xs).map f++jD k xs
theorem cE7{α:Type}(f:α->α)(xs:List α):Fe f 0 xs=xs:=by simp[Fe]
theorem cE9{α:Type}(f:α->α){xs:List α}(h:J xs<=k):Fe f k xs=xs.map f:=by
 rw[Fe,nZ h,VW h,Da]
theorem ag5{α:Type}(f:α->α){xs:List α}{x:α}(h:xs[k]?=x):(Fe f k xs)[k]?=x:=by
 have i:=(bH.1 h).1;rw[Fe,qT bL,NK,iC,tz,show k+(k-min k (J xs))=k by omega];exact h
theorem cE8{α:Type}(f:α->α){xs:List α}{x:α}(h:xs[k]?=x):(Fe f k xs).set k (f x)=Fe f (k+1) xs:=by
 have i:=(bH.1 h).1;rw[Fe,Fe,Zp _ _ bL,iC,tz,show k-min k (J xs)=0 by omega,Lx i,RG,rD,h];simp
theorem bf9{n:Int}(h:Rd w (jC p (J l) c) l)(E:J l<=2^21):dQ dG 162 #[vw (jC p (J l) c) n] w λe w'=>∃i j,e=dR (vw (jC i (J l) j) n)/\Own (U (Q w)) w' (jC i (J l) j) l/\Below (U (Q w)) w w':=by
 have q:Bw w (jA (jA w (dO #[jC p (J l) c,jK jV n] 38)) (dO #[jC dN 0 0,jK jV 0] 38)):=cY.alloc al _;have u:=ai (h.H q.drew);clear h;go_in
 go_wp21
 go_region_held3 (λw'=>I w' (Aw w 0)=Y (jC p (J l) c)/\I w' (Aw w 1)=Y (jK jV n)) (first|go_keep|(simp[y,x];done))
  (first|(go_at_call 92;refine(bg0 u E).h ?_;rintro e m⟨i,j,rfl,s,r⟩;obtain⟨o,N⟩:=Ku r;have y:I m (Aw w 0)=Y (jC p (J l) c):=(o _ _ bL).Z al;have x:I m (Aw w 1)=Y (jK jV n):=(o _ _ bL).Z al))
 have M:Bw w m:=q.drew.Z (r.h bL);have D:Own (U (Q w)+2) m (jC i (J l) j) l:=by simpa using s
 clear u q s r y x;go_wp2;refine cX (v:=vw (jC i (J l) j) n) (by simp[results,results162,go_sem,o]) rfl ⟨i,j,rfl,Own.h (B:=U (Q w)+2) ?_ af,?_⟩;{
 repeat(refine rW ?_ al _)
 exact D};{
 repeat(refine tp ?_ (by simp<;>omega) _)
 exact M}
theorem dR2(r q m:OA)(D y x:Nat)(n0 n1 n2:Int)(l0 l1 i:LI)(w:G)(h0:Rd w (jC r (J l0) D) l0)(h1:Rd w (jC q (J l1) y) l1)(h2:Rd w (jC m (J i) x) i)(m0:J l0<=2^21)(m1:J l1<=2^21)(m2:J i<=2^21):dQ dG 100 #[pR (jC r (J l0) D) n0 (jC q (J l1) y) n1 (jC m (J i) x) n2] w λe w'=>
   ∃j u E N V X,e=dR (pR (jC j (J l0) u) n0 (jC E (J l1) N) n1 (jC V (J i) X) n2)∧
    nS (U (Q w)) w' (jC j (J l0) u) (jC E (J l1) N) (jC V (J i) X) l0 l1 i/\Below (U (Q w)) w w':=by
 go_in
 go_wp21
 let⟨W,s⟩:=aF (jA (jA w (dO #[jC r (J l0) D,jK jV n0,jC q (J l1) y,jK jV n1,jC m (J i) x,jK jV n2] 40)) (dO #[jC dN 0 0,jK jV 0,jC dN 0 0,jK jV 0,jC dN 0 0,jK jV 0] 40));have Z:Bw w W:=s▸cY.alloc al _;have M:qz W (U (Q w)) (jC r (J l0) D) (jK jV n0) (jC q (J l1) y) (jK jV n1) (jC m (J i) x) (jK jV n2):=by rw[s];simp[qz]
 have r0:qz W (U (Q w)+1) (jC dN 0 0) (jK jV 0) (jC dN 0 0) (jK jV 0) (jC dN 0 0) (jK jV 0):=by rw[s];simp[qz]
 have f0:∀o,jF W (Ax w o)=dF:=by intro o;rw[s];simp
 have zW:U (Q w)+2=U (Q W):=by rw[s];simp
 rw[<-s];clear s;have e0:=h0.H Z.drew;have e1:=h1.H Z;have e2:=h2.H Z;clear h0 h1 h2;have V7:qz W.drew (U (Q w)) (jC r (J l0) D) (jK jV n0) (jC q (J l1) y) (jK jV n1) (jC m (J i) x) (jK jV n2):=M
 go_region_held3 (λw'=>qz w' (U (Q w)) (jC r (J l0) D) (jK jV n0) (jC q (J l1) y) (jK jV n1) (jC m (J i) x) (jK jV n2)) (first|with_reducible exact V7|with_reducible exact k1|with_reducible exact k2|with_reducible exact k3|(clear M V7 k1 k2 b1 b2 R f3 e0 e1 e2 o0 o1 o2 az aA aL r0 f0 Z;refine⟨?_,?_,?_,?_,?_,?_⟩<;>go_keep))
  (first
   |(go_at_call_of 162 (Value.agg #[jC r (J l0) D,jK jV n0]);refine(bf9 e0 m0).h ?_;rintro e S⟨j,u,rfl,o0,az⟩;have b1:=aj (bD (U (Q W)) W).drew az;have k1:=qz.H M b1)
   |(go_at_call_of 162 (Value.agg #[jC q (J l1) y,jK jV n1]);refine(bf9 (e1.H b1) m1).h ?_;rintro e w2⟨E,N,rfl,o1,aA⟩;have b2:=aj b1 aA;have k2:=qz.H M b2)
   |(go_at_call_of 162 (Value.agg #[jC m (J i) x,jK jV n2]);refine(bf9 (e2.H b2) m2).h ?_;rintro e w3⟨V,X,rfl,o2,aL⟩;have R:=aj b2 aL;have k3:=qz.H M R;have r3:=qz.H r0 R;have f3:=Co f0 R af))
 have z1:U (Q w)+2<=U (Q S):=by have:=az.size;simp at this;omega
 have z2:U (Q S)<=U (Q w2):=aA.size;have bb:Bw w w3:=aj Z R;have u0:Ow W w3 (jC j (J l0) u) l0:=Own.H (Own.H (by simpa using o0) aA) aL;have u1:Ow S w3 (jC E (J l1) N) l1:=Own.H o1 aL;have u0':Ow W S (jC j (J l0) u) l0:=by simpa using o0
 clear M V7 k1 k2 k3 b1 b2 R e0 e1 e2 az aA aL r0 f0 o0;go_wp2;refine cX (v:=pR (jC j (J l0) u) n0 (jC E (J l1) N) n1 (jC V (J i) X) n2) (by simp[results,results100,go_sem,r3]) rfl ⟨j,u,E,N,V,X,rfl,?_,?_⟩;{
 refine nS.mk' (B:=U (Q w)) (B1:=U (Q S)) (B2:=U (Q w2)) (u0'.h af) o1 (Own.h (B:=U (Q W)) ?_ af) ?_ ?_ aU aU af af;{
 repeat(refine rW ?_ bL _)
 exact u0};{
 repeat(refine rW ?_ bL _)
 exact u1};{
 repeat(refine rW ?_ bL _)
 exact o2}};{
 repeat(refine tp ?_ al _)
 exact bb}
theorem aQ8{α:Type}(F:α->Nat){l:List α}{y:α}(h:y∈l):F y<=jy F l:=by
 induction l with
 |nil=>cases h
 |cons z l ih=>
  have e:jy F (z::l)=F z+jy F l:=by simp[jy]
  obtain rfl|h:=gD.1 h;{omega};{have:=ih h;omega}
theorem aQ2(h:Hi ss ns<=2^20):Mg (J ss)/\Mg (J ns)/\(∀s∈ss,J s.2.2<=2^20/\∀e∈s.2.2,J e.2<=2^20)/\∀i∈ns,J i.A<=2^20/\J i.V<=2^20/\J i.y<=2^20/\J i.X<=2^20:=by
 unfold Hi at h;refine⟨af,af,λs j=>?_,λi q=>?_⟩;{have m:=aQ8 Ld j;have o:Ld s=J s.2.2+jy (λe:Ev=>J e.2) s.2.2:=rfl;refine⟨af,λe he=>?_⟩;have r:J e.2<=jy (λe:Ev=>J e.2) s.2.2:=aQ8 (λe:Ev=>J e.2) he;omega};{have m:=aQ8 Lg q;have o:Lg i=J i.A+J i.V+J i.y+J i.X:=rfl;omega}
open Go.Maps Go.Extern.Stop Go.Stop Go.Extern
theorem eV3(t:dV)(w:G):dQ dG 136 #[.nilIface,t] w λe w'=>e=dR (jO dF)/\w'=w:=by
 go_in;exact aV
theorem dw4(t:Addr)(w:G):(ReflectliteValue.unpack (.iface 181 (dP t))).run dG w=.ok (jP #[dP (Ad 5 181),Pz (U (Q w)),.U 150]) (jA w (dO #[dP t] 181)):=by kernel_rfl
theorem dw6(a : Addr)(w : World):(ReflectliteValue.methodAny (ReflectliteValue.valueError "reflectlite.Value.Type" 0) (λt _ _ _=>ReflectliteType.toType t) #[.agg #[.pointer (some ⟨5,181,none⟩), .pointer (some a), .U 150]]).run prog w = .ok (.iface 319 (.agg #[.pointer (some ⟨5,181,none⟩)])) w:=by kernel_rfl
theorem dx3(h : Value)(w : World):(Go.method 525 319 (.agg #[h]) "Kind").run prog w = .ok (326,h) w:=by kernel_rfl
theorem dx5(h : Value)(w : World):(Go.method 525 319 (.agg #[h]) "Elem").run prog w = .ok (366, .agg #[h]) w:=by kernel_rfl
theorem dx4(h : Value)(w : World):(Go.method 525 319 (.agg #[h]) "Implements").run prog w = .ok (367, .agg #[h]) w:=by kernel_rfl
theorem dx6(h : Value)(w : World):(Go.method 525 319 (.agg #[h]) "AssignableTo").run prog w = .ok (364, .agg #[h]) w:=by kernel_rfl
theorem dx8(w:G):((ReflectliteType.abiMethod λt=>Functor.map (λ a:Nat=>Value.int IntKind.u8 (a:Int)) (Rtype.kind t)) #[dP (Ad 5 181)]).run dG w=.ok (jK .u8 22) w:=by kernel_rfl
theorem dx7(w:G):((ReflectliteType.abiMethod λt=>Functor.map (λ a:Nat=>Value.int IntKind.u8 (a:Int)) (Rtype.kind t)) #[dP (Ad 5 107)]).run dG w=.ok (jK .u8 25) w:=by kernel_rfl
theorem bZ5(a:Addr)(w:G):(ReflectliteValue.parts (jP #[dP (Ad 5 181),dP a,.U 150])).run dG w=.ok (Y (181,a,150)) w:=by kernel_rfl
theorem dx1(a p : Addr)(W : World)(i : W.cell? a = some (.pointer (some p))):(ReflectliteValue.method (ReflectliteValue.valueError "reflectlite.Value.IsNil" 0) ReflectliteValue.isNil #[.agg #[.pointer (some ⟨5,181,none⟩), .pointer (some a), .U 150]]).run prog W = .ok (.bool false) W:=by
 show Sem.run _ (ReflectliteValue.parts (.agg #[.pointer (some (Ad 5 181)),.pointer (some a),.U 150]) >>=_) _=_;rw[Ri,bZ5];simp[ReflectliteValue.isNil,loadVar,isAgg,underlying,underlying181,i,Result.andThen]
theorem dy2(w:G):(ReflectliteType.method ReflectliteType.elem #[jP #[dP (Ad 5 181)]]).run dG w=.ok (.iface 319 (jP #[dP (Ad 5 107)])) w:=by kernel_rfl
theorem dx9(w : World):(ReflectliteType.relation "Implements" ReflectliteType.implements_ #[.agg #[.pointer (some ⟨5,107,none⟩)], .iface 319 (.agg #[.pointer (some ⟨5,177,none⟩)])]).run prog w = .ok (.bool true) w:=by kernel_rfl
theorem dw7(v:dV)(w:G):(ReflectliteType.typeOf #[.iface 107 v]).run dG w=.ok (.iface 319 (jP #[dP (Ad 5 107)])) w:=by kernel_rfl
theorem dy4(w : World):(ReflectliteType.relation "AssignableTo" ReflectliteType.assignableTo #[.agg #[.pointer (some ⟨5,107,none⟩)], .iface 319 (.agg #[.pointer (some ⟨5,107,none⟩)])]).run prog w = .ok (.bool true) w:=by kernel_rfl
theorem dw5(C:Int)(w:G):(ReflectliteValue.unpack (.iface 107 (jP #[.I C]))).run dG w=.ok (jP #[dP (Ad 5 107),Pz (U (Q w)),.U 153]) (jA w (dO #[.I C] 107)):=by kernel_rfl
theorem dy1(w:G):(Rtype.elem? 181).run dG w=.ok (Y 107) w:=by kernel_rfl
theorem dx2(p:Addr)(w:G):(ReflectliteValue.mk 107 p ReflectliteValue.flagAddr).run dG w=.ok (jP #[dP (Ad 5 107),dP p,.U 409]) w:=by kernel_rfl
theorem dy0(a p : Addr)(W : World)(i : W.cell? a = some (.pointer (some p))):(ReflectliteValue.method (ReflectliteValue.valueError "reflectlite.Value.Elem" 0) ReflectliteValue.elem #[.agg #[.pointer (some ⟨5,181,none⟩), .pointer (some a), .U 150]]).run prog W = .ok (.agg #[.pointer (some ⟨5,107,none⟩), .pointer (some p), .U 409]) W:=by
 show Sem.run _ (ReflectliteValue.parts (.agg #[.pointer (some (Ad 5 181)),.pointer (some a),.U 150]) >>=_) _=_;rw[Ri,bZ5];simp[ReflectliteValue.elem,loadVar,isAgg,underlying,underlying181,i,Result.andThen,dy1,dx2]
theorem dx0(a:Addr)(w:G):(ReflectliteValue.parts (jP #[dP (Ad 5 107),dP a,.U 409])).run dG w=.ok (Y (107,a,409)) w:=by kernel_rfl
theorem dw9(a:Addr)(w:G):(ReflectliteValue.parts (jP #[dP (Ad 5 107),dP a,.U 153])).run dG w=.ok (Y (107,a,153)) w:=by kernel_rfl
theorem dy3(w:G):(Rtype.directlyAssignable 107 107).run dG w=.ok dY w:=by kernel_rfl
theorem dw8(i g:Nat)(C:Int)(m:dV)(W:G)(s:I W (Ad g 0)=dI C)(q:I W (Ad i 0)=m)(hf:jF W (Ad i 0)=dF):(ReflectliteValue.set #[jP #[dP (Ad 5 107),Pz i,.U 409],jP #[dP (Ad 5 107),Pz g,.U 153]]).run dG W=.ok (dT #[]) (jS W (Ad i 0) (.I C)):=by
 show Sem.run _ (ReflectliteValue.parts (jP #[dP (Ad 5 107),Pz i,.U 409]) >>=_) _=_;rw[Ri,dx0,au0,Ri];show((Sem.run _ (ReflectliteValue.parts (jP #[dP (Ad 5 107),Pz g,.U 153])) _).andThen _)=_;rw[dw9,au0];have r:(loadCells (Ad g 0) 1).run dG W=.ok #[.I C] W:=run_loadCells_list W (Ad g 0) [.I C] (λj v o=>by
  have e:j=0:=by have:=(bH.1 o).1;simpa using this
  subst e;simp at o;subst o;exact s)
 simp[ReflectliteValue.flagAddr,loadVar,isAgg,underlying,underlying107,r,Result.andThen,dy3,storeVar,Value.cells,storeCells,Addr.add];rw[run_store dG W _ _ _ aY];simp[q,hf]
theorem eV4(i:Nat)(C:Int)(j:Value)(w:World)(m:w.cell? (Ad 1 0)=some (.iface 319 (.agg #[.pointer (some (Ad 5 177))])))(r:w.cell? (Ad i 0)=some j)(V:w.frozen? (Ad i 0)=false):Calls prog 136 #[.iface 107 (.agg #[.I C]),.iface 181 (Pz i)] w λev w'=>ev=.returned (.bool true)/\w'=((((w.alloc (.cells #[Pz i] 181)).alloc (.cells #[.pointer (some (Ad 5 181)),Pz w.heap.size,.U 150] 254)).alloc (.cells #[.pointer (some (Ad 5 181)),Pz w.heap.size,.U 150] 254)).alloc (.cells #[.I C] 107)).setCell (Ad i 0) (.I C):=by
 have h6:=@H8 prog 200 _ (λargs=>ReflectliteValue.unpack (args.getD 0 (.tuple #[]))) func200 aS aS aS aS;have h7:=@H8 prog 201 _ (ReflectliteValue.methodAny (ReflectliteValue.valueError "reflectlite.Value.Type" 0) (λt _ _ _=>ReflectliteType.toType t)) func201 aS aS aS aS;have h8:=@H8 prog 202 _ (ReflectliteValue.method (ReflectliteValue.valueError "reflectlite.Value.IsNil" 0) ReflectliteValue.isNil) func202 aS aS aS aS;have M:=@H8 prog 326 _ (ReflectliteType.abiMethod λt=>do pure (.int .u8 (<-Rtype.kind t))) func326 aS aS aS aS;have D:=@H8 prog 366 _ (ReflectliteType.method ReflectliteType.elem) func366 aS aS aS aS;have B:=@H8 prog 367 _ (ReflectliteType.relation "Implements" ReflectliteType.implements_) func367 aS aS aS aS;have GG:=@H8 prog 239 _ ReflectliteType.typeOf func239 aS aS aS aS;have E:=@H8 prog 364 _ (ReflectliteType.relation "AssignableTo" ReflectliteType.assignableTo) func364 aS aS aS aS;have Mw:=@H8 prog 240 _ (ReflectliteValue.method (ReflectliteValue.valueError "reflectlite.Value.Elem" 0) ReflectliteValue.elem) func240 aS aS aS aS;have Tu:=@H8 prog 241 _ ReflectliteValue.set func241 aS aS aS aS;have tO:=dw7;have mA:=dx6;have S:=dy4;have s:=dw5;have f6:=dw4;have f7:=dw6;have X:=dx3;have mE:=dx5;have Z:=dx4;have u:=dx8;have x:=dx7;have N:=dy2;have y:=dx9;have W:=dx1 (Aw w 0) (Ad i 0) ((w.alloc (.cells #[Pz i] 181)).alloc (.cells #[.pointer (some (Ad 5 181)),Pz w.heap.size,.U 150] 254)) al;have R:1<w.heap.size:=my w _ m;have fx:((w.alloc (.cells #[Pz i] 181)).alloc (.cells #[.pointer (some (Ad 5 181)),Pz w.heap.size,.U 150] 254)).cell? (Ad 1 0)=some (.iface 319 (.agg #[.pointer (some (Ad 5 177))])):=by rw[Rh _ _ (Ad 1 0) bL,Rh _ _ (Ad 1 0) R];exact m
 have o:i<w.heap.size:=my w _ r;have el:=dy0 (Aw w 0) (Ad i 0) (((w.alloc (.cells #[Pz i] 181)).alloc (.cells #[.pointer (some (Ad 5 181)),Pz w.heap.size,.U 150] 254)).alloc (.cells #[.pointer (some (Ad 5 181)),Pz w.heap.size,.U 150] 254)) (by rw[Rh _ _ (Aw w 0) bL];simp);have st:=dw8 i (w.heap.size+1+1+1) C j ((((w.alloc (.cells #[Pz i] 181)).alloc (.cells #[.pointer (some (Ad 5 181)),Pz w.heap.size,.U 150] 254)).alloc (.cells #[.pointer (some (Ad 5 181)),Pz w.heap.size,.U 150] 254)).alloc (.cells #[.I C] 107))
  (by rw[World.cell?_alloc_at _ _ _ _ al];rfl)
  (by rw[Rh _ _ (Ad i 0) bL,Rh _ _ (Ad i 0) bL,Rh _ _ (Ad i 0) bL,Rh _ _ (Ad i 0) o];exact r)
  (by rw[at7 _ _ (Ad i 0) bL,at7 _ _ (Ad i 0) bL,at7 _ _ (Ad i 0) bL,at7 _ _ (Ad i 0) (Nat.ne_of_lt o)];exact V)
 go_in;go_wp2;refine wp_loop_rounds 1 ?_;rw[rounds_succ];exact aV
theorem own:ownKnob Tryz.prog.godebug=dN:=by kernel_rfl
theorem laidOut:laidOutB dG:=by kernel_rfl
variable {a:Assume}
theorem el5{H:Type}{enc:TypeId×dV->H}{s:ChangeSpec}{m x q y:Bool} (hX:∀(w w':G)(args:iA),Q w=Q w'->X w args->X w' args)(own:ownKnob C.prog.godebug=dN)(u:os.Started)(R:C.prog.inits.idxOf? f=dN)(B:C.prog.funcs[f]?=fn)(r:∃(w:G)(tape:Tape)(i:Input),w.os=os/\(w.forCall tape i).Shaped C.prog/\i.vars=[]/\Input.okWide C.prog (w.forCall tape i) .any (U (Q w)) f i∧
   ((s.pre enc C.prog fn conds m (w.forCall tape i).memory i.args/\X (w.forCall tape i).memory i.args)/\sizedMet enc C.prog fn (OpenSpec.ofChange s) m (w.forCall tape i).memory i.args)/\a.holds C.prog (lone (Frame.enter C.prog f i.args .normal) [] (w.forCall tape i)))(M:∀(W:G)(base:Nat)(args:iA)(N D:List (DataW H))(o:List MemPlace),
   (∀(j:Nat)t v,fn.params[j]?=Y t->args[j]?=Y v->Value.okWide C.prog W .any base t v)→
   DataW.Whole enc C.prog fn.params.toList s.vars m W args.toList N D o→
   X W args->W.ShapedOpen C.prog→
   dQ C.prog f args W λe S=>∃v,e=dR v/\s.post enc C.prog fn m x q y W args v S):ReturnsInHanded a C os f .any (λw args=>(s.pre enc C.prog fn conds m w args/\X w args)/\sizedMet enc C.prog fn (OpenSpec.ofChange s) m w args) (s.post enc C.prog fn m x q y):=by
 refine returnsInHanded_of_calls own u R r ?_;intro w tape i _ Wc _ fU V fx7;obtain⟨_,_,_,fn',E,_,_,_,_,Ep⟩:=fU;cases CU (E.C.Z B);obtain⟨⟨⟨N,D,o,hw,hc⟩,Z⟩,hz⟩:=V;refine(M (w.forCall tape i) (U (Q w)) i.args N D o Ep (DataW.Whole.of_heap (w':=w.forCall tape i) aY hw) (hX _ _ _ aY Z) Wc).h λe S⟨v,he,hp⟩=>?_;subst he;exact ChangeSpec.post_blind hp
theorem dK3(h:w.ShapedOpen dG):∃m,I w (Ad 2 0)=dI m:=
 cell_of_shapedOpen_int (t:=3) (zero:=#[.I 0]) h (VM aS) aS rfl aS aS Tryz.underlying3
theorem QM(h:(Lit.U s).wf):0<=s/\s<2^64:=by
 simp[Lit.wf,IntKind.min,IntKind.max,IntKind.signed,IntKind.bits]at h;omega
theorem cM6:Tryz.prog.cellsOf 275=2:=by kernel_rfl
theorem cM3:Tryz.prog.cellsOf 132=3:=by kernel_rfl
theorem cM4:Tryz.prog.cellsOf 136=8:=by kernel_rfl
theorem cM2:Tryz.prog.cellsOf 31=6:=by kernel_rfl
theorem cM8:Tryz.prog.cellsOf 22=1:=by kernel_rfl
theorem ai4:Tryz.prog.cellsOf 27=1:=by kernel_rfl
theorem eP2:Tryz.prog.cellsOf 134=1:=by kernel_rfl
theorem aF8:Tryz.prog.cellsOf 3=1:=by kernel_rfl
theorem eP9:Tryz.prog.cellsOf 130=1:=by kernel_rfl
theorem eP5:Tryz.prog.cellsOf 28=1:=by kernel_rfl
theorem eP7:Tryz.prog.cellsOf 29=1:=by kernel_rfl
theorem dj8{H:Type}{enc:TypeId×dV->H}{i:Bool}{x:DataW H×List MemPlace}(B:P.underlying t=Y (.struct #[f0,f1,f2,f3,f4,f5]))(h:DataW.trod enc P w base spare i fuel t cs=x):∃u s r q o m n,J cs=P.cellsOf t∧
   DataW.trod enc P w base spare i n f0.type (jT (P.cellsOf f0.type) (jD f0.offset cs))=Y u/\DataW.trod enc P w base spare i n f1.type (jT (P.cellsOf f1.type) (jD f1.offset cs))=Y s/\DataW.trod enc P w base spare i n f2.type (jT (P.cellsOf f2.type) (jD f2.offset cs))=Y r/\DataW.trod enc P w base spare i n f3.type (jT (P.cellsOf f3.type) (jD f3.offset cs))=Y q/\DataW.trod enc P w base spare i n f4.type (jT (P.cellsOf f4.type) (jD f4.offset cs))=Y o/\DataW.trod enc P w base spare i n f5.type (jT (P.cellsOf f5.type) (jD f5.offset cs))=Y m:=by
 obtain⟨y,n,_,rfl,D,j,hf⟩:=aY4 B h
 match y,j with
 |[u,s,r,q,o,m],_=>exact⟨u,s,r,q,o,m,n,D,by simpa using hf 0 f0 rfl,by simpa using hf 1 f1 rfl,by simpa using hf 2 f2 rfl,by simpa using hf 3 f3 rfl,by simpa using hf 4 f4 rfl,by simpa using hf 5 f5 rfl⟩
theorem dj7{H:Type}{enc:TypeId×dV->H}{i:Bool}{m:Field}{x:DataW H×List MemPlace}(M:P.underlying t=Y (.struct #[f0,f1,f2,f3,f4,f5,f6,m]))(h:DataW.trod enc P w base spare i fuel t cs=x):∃D B y u s r q o n,J cs=P.cellsOf t∧
   DataW.trod enc P w base spare i n f0.type (jT (P.cellsOf f0.type) (jD f0.offset cs))=Y D/\DataW.trod enc P w base spare i n f1.type (jT (P.cellsOf f1.type) (jD f1.offset cs))=Y B/\DataW.trod enc P w base spare i n f2.type (jT (P.cellsOf f2.type) (jD f2.offset cs))=Y y/\DataW.trod enc P w base spare i n f3.type (jT (P.cellsOf f3.type) (jD f3.offset cs))=Y u/\DataW.trod enc P w base spare i n f4.type (jT (P.cellsOf f4.type) (jD f4.offset cs))=Y s/\DataW.trod enc P w base spare i n f5.type (jT (P.cellsOf f5.type) (jD f5.offset cs))=Y r/\DataW.trod enc P w base spare i n f6.type (jT (P.cellsOf f6.type) (jD f6.offset cs))=Y q/\DataW.trod enc P w base spare i n m.type (jT (P.cellsOf m.type) (jD m.offset cs))=Y o:=by
 obtain⟨E,n,_,rfl,N,j,hf⟩:=aY4 M h
 match E,j with
 |[D,B,y,u,s,r,q,o],_=>exact⟨D,B,y,u,s,r,q,o,n,N,by simpa using hf 0 f0 rfl,by simpa using hf 1 f1 rfl,by simpa using hf 2 f2 rfl,by simpa using hf 3 f3 rfl,by simpa using hf 4 f4 rfl,by simpa using hf 5 f5 rfl,by simpa using hf 6 f6 rfl,by simpa using hf 7 m rfl⟩
theorem av8{H:Type}{enc:TypeId×dV->H}{α:Type}[Inhabited α]{e:TypeId}(ht:Tryz.prog.underlying t=Y (.slice e))(R:Tryz.prog.cellsOf e=sz)(W:0<sz)(M:List dV->α->Prop)(Z:∀(n:Nat)(cs:List dV)(x:DataW H×List MemPlace),DataW.trod enc dG w 0 (λ_=>dY) dY n e cs=x->∃y,M cs y){x:DataW H×List MemPlace}(h:DataW.trod enc dG w 0 (λ_=>dY) dY fuel t cs=x):∃(p:OA)(l:List α)(c:Nat),cs=[.S p (J l) c]/\J l<=c/\c<=maxLen/\(l=[]\/∃b o,p=(Ad b o)/\∀(i:Nat)(y:α),l[i]?=Y y->∃r:List dV,(∀(j:Nat)(v:dV),r[j]?=Y v->I w (Ad b (o+(i*sz+j)))=Y v)/\M r y):=by
 obtain⟨rfl,_⟩|⟨a,len,cap,m,n,D,Pl,rfl,_,hl,hm,X,_,hx⟩:=open_slice ht h;{exact⟨dN,[],0,rfl,fS _,kW,.L rfl⟩};{
 simp only[qR]at X;subst X;let⟨f,hf⟩:=choose_lt (α:=α) (n:=len) (p:=λi y=>∃r:List dV,w.cells? 0 (a.add (i*Tryz.prog.cellsOf e)) (Tryz.prog.cellsOf e)=r/\M r y) (λi hi=>by let⟨r,u,N⟩:=hx i af;let⟨y,B⟩:=Z _ _ _ N;exact⟨y,r,u,B⟩)
 have q:J ((jR len).map f)=len:=al;refine⟨Y a,(jR len).map f,m,by rw[q],by rw[q];exact hl,hm,?_⟩;by_cases hz:len=0;{left;subst hz;rfl};{
 right;obtain⟨b,o,s⟩:=a;have hs:s=dN:=by let⟨r,u,_⟩:=hf 0 af;let⟨_,E,hc⟩:=World.cells?_some u;have:=hc 0 (R▸W);rw[bN (by rw[E,R];exact W)]at this;simpa[Addr.add]using World.cell?_spot this
 subst hs;refine⟨b,o,rfl,λi y B=>?_⟩;have ey:y=f i:=by have:=(bH.1 B).2;simpa using this.C
 subst ey;let⟨r,u,N⟩:=hf i (by have:=(bH.1 B).1;rwa [q]at this);refine⟨r,λj v V=>?_,N⟩;let⟨_,E,hc⟩:=World.cells?_some u;have:=hc j (E▸(bH.1 V).1);rw[V,R]at this;simp only[Ia]at this;rw[<-this];congr 1;simp[yJ]}}
theorem bQ6{H:Type}{enc:TypeId×dV->H}{x:DataW H×List MemPlace}(h:DataW.trod enc dG w 0 (λ_=>dY) dY fuel 134 cs=Y x):∃(p:OA)(l:LI)(c:Nat),cs=[.S p (J l) c]/\J l<=maxLen/\kI w (.S p (J l) c) l/\∀i∈l,0<=i/\i<2^64:=by
 obtain⟨p,l,c,rfl,N,M,j⟩:=av8 (α:=Int) Tryz.underlying134 ai4 af (λcs y=>cs=[.U y]/\0<=y/\y<2^64) (λn cs x u=>by let⟨y,E,_,r⟩:=uL Tryz.underlying27 u;exact⟨y,E,QM r⟩) h
 refine⟨p,l,c,rfl,af,⟨p,c,rfl,?_⟩,?_⟩;{obtain j|⟨b,o,rfl,j⟩:=j;{exact .L j};{refine .R ⟨b,o,rfl,λi m=>?_⟩;obtain⟨s,D,rfl,_⟩:=j i _ (bN m);have:=D 0 _ rfl;rw[ko,bN m];simpa using this}};{intro y q;obtain j|⟨b,o,rfl,j⟩:=j;{rw[j]at q;cases q};{let⟨i,m⟩:=Af q;let⟨s,_,_,B⟩:=j i y m;exact B}}
theorem ey7{H:Type}{enc:TypeId×dV->H}{x:DataW H×List MemPlace}(h:DataW.trod enc dG w 0 (λ_=>dY) dY fuel 130 cs=Y x):∃(p:OA)(l:List Ev)(c:Nat),cs=[.S p (J l) c]/\J l<=maxLen/\qI w (.S p (J l) c) l/\∀e∈l,J e.2<=maxLen/\aD e.2:=by
 obtain⟨p,l,c,rfl,h1,h2,j⟩:=av8 (α:=Ev) Tryz.underlying130 cM6 af (λcs y=>∃q d,cs=[.I y.1,.S q (J y.2) d]/\Rd w (.S q (J y.2) d) y.2/\J y.2<=maxLen/\aD y.2) (λn cs x X=>by
  let⟨y0,y1,m,_,E,M,s⟩:=trod_struct2 Tryz.underlying275 X;rw[cM6]at E;obtain⟨D,B,rfl⟩:∃D B,cs=[D,B]:=by
   match cs,E with
   |[a,b],_=>exact⟨a,b,rfl⟩
  simp[aF8,cM8]at M s;let⟨k,R,_,_⟩:=uL Tryz.underlying3 M;let⟨q,P,d,N,u,W,_,b1⟩:=Rd.Vt s;simp at R N;subst R N;exact⟨(k,P),q,d,rfl,u,W,b1⟩) h
 refine⟨p,l,c,rfl,af,⟨p,c,rfl,?_⟩,?_⟩;{obtain j|⟨b,o,rfl,j⟩:=j;{exact .L j};{refine .R ⟨b,o,rfl,λi y r=>?_⟩;obtain⟨V,s,q,d,rfl,u,_⟩:=j i y r;exact⟨by simpa using s 0 _ rfl,_,by simpa[yJ]using s 1 _ rfl,u⟩}};{intro y r;obtain j|⟨b,o,rfl,j⟩:=j;{rw[j]at r;cases r};{let⟨i,Z⟩:=Af r;let⟨V,_,q,d,_,_,g2⟩:=j i y Z;exact g2}}
theorem dt7{H:Type}{enc:TypeId×dV->H}{x:DataW H×List MemPlace}(h:DataW.trod enc dG w 0 (λ_=>dY) dY fuel 28 cs=Y x):∃(p:OA)(l:List aB)(c:Nat),cs=[.S p (J l) c]/\J l<=maxLen/\nO w (.S p (J l) c) l/\∀s∈l,J s.2.2<=maxLen/\∀e∈s.2.2,J e.2<=maxLen/\aD e.2:=by
 obtain⟨p,l,c,rfl,h1,h2,j⟩:=av8 (α:=aB) Tryz.underlying28 cM3 af (λcs y=>∃q d,cs=[.U y.1,.I y.2.1,.S q (J y.2.2) d]/\qI w (.S q (J y.2.2) d) y.2.2/\J y.2.2<=maxLen/\∀e∈y.2.2,J e.2<=maxLen/\aD e.2) (λn cs x hx=>by
  let⟨y0,y1,y2,m,_,R,V,r,B⟩:=trod_struct3 Tryz.underlying132 hx;rw[cM3]at R;obtain⟨N,M,E,rfl⟩:∃N M E,cs=[N,M,E]:=by
   match cs,R with
   |[a,b,c],_=>exact⟨a,b,c,rfl⟩
  simp[aF8,ai4,eP9]at V r B;let⟨i,Z,_,_⟩:=uL Tryz.underlying27 V;let⟨k,X,_,_⟩:=uL Tryz.underlying3 r;let⟨q,iZ,d,W,l1,D,b1⟩:=ey7 B;simp at Z X W;subst Z X W;exact⟨(i,k,iZ),q,d,rfl,D,l1,b1⟩) h
 refine⟨p,l,c,rfl,af,⟨p,c,rfl,?_⟩,?_⟩;{obtain j|⟨b,o,rfl,j⟩:=j;{exact .L j};{refine .R ⟨b,o,rfl,λi y u=>?_⟩;obtain⟨rO,r,q,d,rfl,D,_⟩:=j i y u;exact⟨by simpa using r 0 _ rfl,by simpa[yJ]using r 1 _ rfl,_,by simpa[yJ]using r 2 _ rfl,D⟩}};{intro y u;obtain j|⟨b,o,rfl,j⟩:=j;{rw[j]at u;cases u};{let⟨i,hi⟩:=Af u;let⟨rO,_,q,d,_,_,B⟩:=j i y hi;exact B}}
theorem dI1{H:Type}{enc:TypeId×dV->H}{x:DataW H×List MemPlace}(h:DataW.trod enc dG w 0 (λ_=>dY) dY fuel 29 cs=Y x):∃(p:OA)(l:List au)(c:Nat),cs=[.S p (J l) c]/\J l<=maxLen/\iw w (.S p (J l) c) l/\∀j∈l,((J j.A<=maxLen/\J j.V<=maxLen/\J j.y<=maxLen/\J j.X<=maxLen)/\aD j.A/\(0<=j.D/\j.D<2^64)/\(∀i∈j.y,0<=i/\i<2^64)/\∀i∈j.X,0<=i/\i<2^64)/\(0<=j.P/\j.P<2^64)/\(0<=j.F/\j.F<2^64)/\aD j.V:=by
 have:Inhabited au:=⟨kx⟩;obtain⟨p,l,c,rfl,h1,h2,r⟩:=av8 (α:=au) Tryz.underlying29 cM4 af
  (λcs y=>∃P V H iU,cs=[P,V,.U y.D,.I y.M,H,.U y.P,.U y.F,iU]/\(Rd w P y.A/\Rd w V y.V/\kI w H y.y/\kI w iU y.X/\vU P)/\((J y.A<=maxLen/\J y.V<=maxLen/\J y.y<=maxLen/\J y.X<=maxLen)/\aD y.A/\(0<=y.D/\y.D<2^64)/\(∀i∈y.y,0<=i/\i<2^64)/\∀i∈y.X,0<=i/\i<2^64)/\(0<=y.P/\y.P<2^64)/\(0<=y.F/\y.F<2^64)/\aD y.V) (λn cs x hx=>by
  let⟨y0,y1,y2,y3,y4,y5,y6,y7,m,hl,W,q,B,g3,g4,g5,g6,g7⟩:=dj7 Tryz.underlying136 hx;rw[cM4]at hl;obtain⟨x0,x1,x2,x3,x4,x5,x6,Z,rfl⟩:∃x0 x1 x2 x3 x4 x5 x6 Z,cs=[x0,x1,x2,x3,x4,x5,x6,Z]:=by
   match cs,hl with
   |[a,b,c,d,e,f,g,h],_=>exact⟨a,b,c,d,e,f,g,h,rfl⟩
  simp[aF8,ai4,cM8,eP2]at W q B g3 g4 g5 g6 g7;let⟨q0,P,d0,D,R,l0,X,b0⟩:=Rd.Vt W;let⟨q1,V,d1,e1,N,l1,_,b1⟩:=Rd.Vt q;let⟨ow,e2,_,w2⟩:=uL Tryz.underlying27 B;let⟨mo,e3,_,_⟩:=uL Tryz.underlying3 g3;let⟨q4,Hs,d4,e4,l4,M,b4⟩:=bQ6 g4;let⟨ep,e5,_,w5⟩:=uL Tryz.underlying27 g5;let⟨ge,e6,_,w6⟩:=uL Tryz.underlying27 g6;let⟨q7,Us,d7,e7,l7,E,b7⟩:=bQ6 g7;have cm:d0<=maxLen:=by obtain⟨u,_⟩|⟨a,len,cap,zs,u,_,_,hm,_⟩:=open_ints Tryz.underlying22 Tryz.underlying5 aS W;{rw[D]at u;simp at u;omega};{rw[D]at u;simp at u;omega}
  simp at D e1 e2 e3 e4 e5 e6 e7;subst D e1 e2 e3 e4 e5 e6 e7;exact⟨⟨P,V,ow,mo,Hs,ep,ge,Us⟩,_,_,_,_,rfl,⟨R,N,M,E,_,_,_,rfl,X,cm⟩,⟨⟨l0,l1,l4,l7⟩,b0,QM w2,b4,b7⟩,QM w5,QM w6,b1⟩) h
 refine⟨p,l,c,rfl,af,⟨p,c,rfl,?_⟩,?_⟩;{obtain r|⟨b,o,rfl,r⟩:=r;{exact .L r};{refine .R ⟨b,o,rfl,λi y s=>?_⟩;obtain⟨rO,q,P,V,H,iU,rfl,⟨R,N,M,E,k0⟩,_⟩:=r i y s;exact⟨P,V,H,iU,by simpa using q 0 _ rfl,by simpa[yJ]using q 1 _ rfl,by simpa[yJ]using q 2 _ rfl,by simpa[yJ]using q 3 _ rfl,by simpa[yJ]using q 4 _ rfl,by simpa[yJ]using q 5 _ rfl,by simpa[yJ]using q 6 _ rfl,by simpa[yJ]using q 7 _ rfl,R,N,M,E,k0⟩}};{intro y s;obtain r|⟨b,o,rfl,r⟩:=r;{rw[r]at s;cases s};{let⟨i,hi⟩:=Af s;let⟨rO,_,P,V,H,iU,_,_,B⟩:=r i y hi;exact B}}
theorem dp0{H:Type}{enc:TypeId×dV->H}{x:DataW H×List MemPlace}(h:DataW.trod enc dG w 0 (λ_=>dY) dY n 31 cs=x):∃(e g x t:Int)(p q:OA)(ss:List aB)(ns:List au)(c o:Nat),cs=[.U e,.U g,.U x,.I t,.S p (J ss) c,.S q (J ns) o]/\(J ss<=maxLen/\J ns<=maxLen)/\nO w (.S p (J ss) c) ss/\iw w (.S q (J ns) o) ns∧
   (∀s∈ss,J s.2.2<=maxLen/\∀e∈s.2.2,J e.2<=maxLen/\aD e.2)∧
   (∀j∈ns,((J j.A<=maxLen/\J j.V<=maxLen/\J j.y<=maxLen/\J j.X<=maxLen)/\aD j.A/\(0<=j.D/\j.D<2^64)/\(∀i∈j.y,0<=i/\i<2^64)/\∀i∈j.X,0<=i/\i<2^64)/\(0<=j.P/\j.P<2^64)/\(0<=j.F/\j.F<2^64)/\aD j.V)/\(0<=e/\e<2^64)/\(0<=g/\g<2^64)/\(0<=x/\x<2^64):=by
 let⟨y0,y1,y2,y3,y4,y5,m,M,Z,X,W,V,R,N⟩:=dj8 Tryz.underlying31 h;rw[cM2]at M;obtain⟨E,D,B,y,u,r,rfl⟩:∃E D B y u r,cs=[E,D,B,y,u,r]:=by
  match cs,M with
  |[a,b,c,d,e,f],_=>exact⟨a,b,c,d,e,f,rfl⟩
 simp[ai4,aF8,eP5,eP7]at Z X W V R N;let⟨e,e0,_,w0⟩:=uL Tryz.underlying27 Z;let⟨g,e1,_,w1⟩:=uL Tryz.underlying27 X;let⟨x,e2,_,w2⟩:=uL Tryz.underlying27 W;let⟨t,e3,_,_⟩:=uL Tryz.underlying3 V;let⟨p,ss,c,e4,l4,r4,b4⟩:=dt7 R;let⟨q,ns,o,e5,l5,r5,b5⟩:=dI1 N;simp at e0 e1 e2 e3 e4 e5;subst e0 e1 e2 e3 e4 e5;exact⟨e,g,x,t,p,q,ss,ns,c,o,rfl,⟨l4,l5⟩,r4,r5,b4,b5,QM w0,QM w1,QM w2⟩
theorem dj1(h:(Lit.U s).wf):0<=s/\s<2^64:=by
 simp[Lit.wf,IntKind.min,IntKind.max,IntKind.signed,IntKind.bits]at h;omega
theorem cM5:Tryz.prog.cellsOf 110=7:=by kernel_rfl
theorem cM7:Tryz.prog.cellsOf 22=1:=by kernel_rfl
theorem eP3:Tryz.prog.cellsOf 27=1:=by kernel_rfl
theorem bA9:Tryz.prog.cellsOf 3=1:=by kernel_rfl
theorem eQ2:Tryz.prog.cellsOf 4=1:=by kernel_rfl
theorem eV6{cs:iA}(h:cs.size=7):∃a b c d e f g,cs=#[a,b,c,d,e,f,g]:=by
 obtain⟨l⟩:=cs;simp at h
 match l,h with
 |[a,b,c,d,e,f,g],_=>exact⟨a,b,c,d,e,f,g,rfl⟩
theorem bR2{H:Type}{enc:TypeId×dV->H}{i:Bool}{x:DataW H×List MemPlace}(D:P.underlying t=Y (.struct #[f0,f1,f2,f3,f4,f5,f6]))(h:DataW.trod enc P w base spare i fuel t cs=x):∃y u s r q o m n,x.1=.agg [y.1,u.1,s.1,r.1,q.1,o.1,m.1]/\J cs=P.cellsOf t∧
   DataW.trod enc P w base spare i n f0.type (jT (P.cellsOf f0.type) (jD f0.offset cs))=Y y/\DataW.trod enc P w base spare i n f1.type (jT (P.cellsOf f1.type) (jD f1.offset cs))=Y u∧
   DataW.trod enc P w base spare i n f2.type (jT (P.cellsOf f2.type) (jD f2.offset cs))=Y s/\DataW.trod enc P w base spare i n f3.type (jT (P.cellsOf f3.type) (jD f3.offset cs))=Y r∧
   DataW.trod enc P w base spare i n f4.type (jT (P.cellsOf f4.type) (jD f4.offset cs))=Y q/\DataW.trod enc P w base spare i n f5.type (jT (P.cellsOf f5.type) (jD f5.offset cs))=Y o∧
   DataW.trod enc P w base spare i n f6.type (jT (P.cellsOf f6.type) (jD f6.offset cs))=Y m:=by
 obtain⟨B,n,_,rfl,E,j,hf⟩:=aY4 D h
 match B,j with
 |[y,u,s,r,q,o,m],_=>exact⟨y,u,s,r,q,o,m,n,rfl,E,by simpa using hf 0 f0 rfl,by simpa using hf 1 f1 rfl,by simpa using hf 2 f2 rfl,by simpa using hf 3 f3 rfl,by simpa using hf 4 f4 rfl,by simpa using hf 5 f5 rfl,by simpa using hf 6 f6 rfl⟩
theorem ew4{x:DataW Unit×List MemPlace}{D E B N:Bool}{M S vs:Int}(h:DataW.trod (λ_=>()) dG w 0 (λ_=>dY) dF n 110 cs=x)(i:x.1=.agg [.lit (.bool D),.lit (.bool E),.lit (.I M),.lit (.I S),.lit (.I vs),.lit (.bool B),.lit (.bool N)]):cs=[.bool D,.bool E,.I M,.I S,.I vs,.bool B,.bool N]:=by
 let⟨y0,y1,y2,y3,y4,y5,y6,m,e,R,h0,h1,h2,Z,X,W,V⟩:=bR2 Tryz.underlying110 h;rw[cM5]at R;obtain⟨y,u,s,r,q,o,j,rfl⟩:∃y u s r q o j,cs=[y,u,s,r,q,o,j]:=by
  match cs,R with
  |[a,b,c,d,e,f,g],_=>exact⟨a,b,c,d,e,f,g,rfl⟩
 simp[eQ2,bA9]at h0 h1 h2 Z X W V;let⟨b0,e0,f0⟩:=au4 Tryz.underlying4 h0;let⟨b1,e1,f1⟩:=au4 Tryz.underlying4 h1;let⟨b2,e2,f2,_⟩:=uL Tryz.underlying3 h2;let⟨b3,e3,f3,_⟩:=uL Tryz.underlying3 Z;let⟨b4,e4,f4,_⟩:=uL Tryz.underlying3 X;let⟨b5,e5,f5⟩:=au4 Tryz.underlying4 W;let⟨b6,e6,f6⟩:=au4 Tryz.underlying4 V;rw[e,f0,f1,f2,f3,f4,f5,f6]at i;simp at i e0 e1 e2 e3 e4 e5 e6;obtain⟨rfl,rfl,rfl,rfl,rfl,rfl,rfl⟩:=i;subst e0 e1 e2 e3 e4 e5 e6;rfl
end Go.Proofs.YthlkmijffhhimaaGreatDoor
