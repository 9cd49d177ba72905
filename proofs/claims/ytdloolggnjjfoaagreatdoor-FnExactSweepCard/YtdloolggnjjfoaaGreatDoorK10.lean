import Derived.Test.YtdloolggnjjfoaaGreatDoorK9
import Derived.LaidEql
import Derived.Stop.Asserts
import Derived.RowKitTokens
import Derived.Test.YtdloolggnjjfoaaGreatDoorRows
import Derived.ShutString
import Derived.ChangeOld
import Derived.HandedShaped
import Derived.Shelf.Vars
import Derived.LaidMore
import Derived.Lay
import Derived.Stop.Joined
import Derived.OpenVars
open Array renaming size->U
open Bool renaming false->dF,true->dY
open Decidable renaming decide->dD
open Go renaming Calls->dQ,Value->dV,World->G
open Go.Ending renaming returned->dR
open Go.Obj renaming cells->dO
open Go.Proofs.Tryz renaming prog->dG
open Go.RowKit renaming Hid->O
open Go.Value renaming I->dI,pointer->dP,S->dS,tuple->dT,U->dU
open Go.World renaming cell?->I
open List renaming length->J
open Option renaming none->dN,some->Y
namespace Go.Proofs.YtdloolggnjjfoaaGreatDoor
set_option maxHeartbeats 40000000
set_option linter.all false
set_option maxRecDepth 100000
open Go.ChangeShapes Go.WideShapes Go.ChangeAt Go.RowKit Go.Deep Go.Proofs.Tryz
def bn7(p:OA)(c:Nat)(n:Int)(l:LI)(w:G)(h:Rd w (.slice p (J l) c) l)(X:J l<=2097152):dQ dG 136 #[tB (.slice p (J l) c) n] w λe r=>∃j m,e=dR (tB (.slice j (J l) m) n)/\Own (U w.heap) r (.slice j (J l) m) l/\Below (U w.heap) w r:=by
 go_in;go_wp2_with fail;let⟨W,i⟩:=aG ((w.alloc (dO #[.slice p (J l) c,.int .i64 n] 35)).alloc (dO #[.slice dN 0 0,.int .i64 0] 35));have y:Below (U w.heap) w W:=by rw[i];exact(aD.alloc aA _).alloc aj _
 have x:I W (Aw w 0)=Y (.slice p (J l) c):=by rw[i];simp
 have u:I W (Aw w 1)=Y (.int .i64 n):=by rw[i];simp
 have R:I W (Ax w 0)=Y (.slice dN 0 0):=by rw[i];simp
 have N:I W (Ax w 1)=Y (.int .i64 0):=by rw[i];simp
 have f0:∀o,W.frozen? (Ax w o)=dF:=by intro o;rw[i];simp
 have zW:U w.heap+2=U W.heap:=by rw[i];simp
 rw[<-i];clear i;have D:∀o:Obj,Below (U W.heap) W (W.alloc o).drew:=λo=>(aD.alloc aA _).drew;have e0:=h.H y
 go_region_held3 (λr=>I r (Aw w 0)=Y (.slice p (J l) c)/\I r (Aw w 1)=Y (.int .i64 n)) (first|with_reducible exact⟨x,u⟩|with_reducible exact⟨g0,Z⟩|go_keep)
  (first|(go_at_call 190;refine(eC9 (p:=p) (c:=c) aj (by exact e0.H (D _)) X).h ?_;rintro e s⟨j,m,rfl,V,au⟩;have q:=ai (D _) au;have g0:=al x q;have Z:=al u q;have M:=al R q;have E:=al N q;have f1:=Ag f0 q af))
 have bb:Below (U w.heap) w s:=ai y q;have S:Own (U W.heap) s (.slice j (J l) m) l:=Own.h V aj;go_wp2;refine cg (v:=tB (.slice j (J l) m) n) (by simp[results,results136,go_sem,M,E]) rfl ⟨j,m,rfl,Own.h (B:=U W.heap) ?_ af,?_⟩;{
 repeat(refine sy ?_ bq _)
 exact S};{
 repeat(refine ri ?_ aj _)
 exact bb}
def el5(p q:OA)(c d:Nat)(n:Int)(l m lm:LI)(mT:O (lm=l++m))(w:G)(h:Rd w (.slice p (J l) c) l)(k:Rd w (.slice q (J m) d) m)(hl:J l+J m<=4194304):dQ dG 238 #[tB (.slice p (J l) c) n,.slice q (J m) d] w λe u=>∃j r,e=dR (tB (.slice j (J lm) r) n)/\Own (U w.heap) u (.slice j (J lm) r) lm/\Below (U w.heap) w u:=by
 go_in;go_wp2_with fail;let⟨W,i⟩:=aG ((w.alloc (dO #[.slice p (J l) c,.int .i64 n] 35)).alloc (dO #[.slice dN 0 0,.int .i64 0] 35));have x:Below (U w.heap) w W:=by rw[i];exact(aD.alloc aA _).alloc aj _
 have M:I W (Aw w 0)=Y (.slice p (J l) c):=by rw[i];simp
 have E:I W (Aw w 1)=Y (.int .i64 n):=by rw[i];simp
 have V:I W (Ax w 0)=Y (.slice dN 0 0):=by rw[i];simp
 have S:I W (Ax w 1)=Y (.int .i64 0):=by rw[i];simp
 have f0:∀o,W.frozen? (Ax w o)=dF:=by intro o;rw[i];simp
 have zW:U w.heap+2=U W.heap:=by rw[i];simp
 rw[<-i];clear i;have y:∀o:Obj,Below (U W.heap) W (W.alloc o).drew:=λo=>(aD.alloc aA _).drew;have e0:=h.H x;have e1:=k.H x
 go_region_held3 (λu=>I u (Aw w 0)=Y (.slice p (J l) c)/\I u (Aw w 1)=Y (.int .i64 n)) (first|with_reducible exact⟨M,E⟩|with_reducible exact⟨g0,g1⟩|go_keep)
  (first|(go_at_call 190;refine(eC8 (p:=p) (q:=q) (c:=c) (d:=d) mT aj aj (by exact e0.H (y _)) (by exact e1.H (y _)) hl).h ?_;rintro e D⟨j,r,rfl,Z,au⟩;have s:=ai (y _) au;have g0:=al M s;have g1:=al E s;have R:=al V s;have N:=al S s;have f1:=Ag f0 s af))
 have bb:Below (U w.heap) w D:=ai x s;have X:Own (U W.heap) D (.slice j (J lm) r) lm:=Own.h Z aj;go_wp2;refine cg (v:=tB (.slice j (J lm) r) n) (by simp[results,results238,go_sem,R,N]) rfl ⟨j,r,rfl,Own.h (B:=U W.heap) ?_ af,?_⟩;{
 repeat(refine sy ?_ bq _)
 exact X};{
 repeat(refine ri ?_ aj _)
 exact bb}
def XS(f:Int):Bool:=dD (0<=f)&&dD (f<3)
variable {f y lo hi vs e g x iI D E F:Int}{p q p0 p1 p2 pp pv ph pu qp qv qh qu pq:OA}{k c m d c0 c1 c2 B B' M b N iG n bytes n0 n1 n4 i n2 d1 d2 a1 a2 a3 a4 d3 d4 n3 np cp nv cv sz base fuel:Nat}{w u X w' w2:G}{l0 l1 l2 l V xs:LI}{v0 v1 v2 v v3 v4 z:dV}{a:Addr}{o ob:Obj}{t ty:TypeId}{se pa sq held:Bool}{P:Program}{ops:iQ}{K:Act->G->Prop}{cs Qs row:List dV}{nd:ar}{es:List Ev}{s:aB}{ss:List aB}{ns:List ar}{S:Nat->Nat}{o5:Option LI}{R:RP}{r:Ending}{A1 A2 A:List Lf}{C:Checked}{os:Os}{fn:Func}{conds:List PathCond}{spare:Nat->Bool}{f0 f1 f2 f3 f4 f5 f6:Field}
def cf2(a:0<=f)(b:f<3):XS f:=by simp[XS,a,b]
def cf3(a:¬(0<=f/\f<3)):XS f=dF:=by
 unfold XS;rw[Cf];simp only[JW];omega
def el0(m j i:OA)(n0 r n1 q n2 o:Nat)(s0 s1 s2 f:Int)(w:G):dQ dG 236 #[mV (.slice m n0 r) s0 (.slice j n1 q) s1 (.slice i n2 o) s2,.int .i64 f] w λe w'=>e=dR (.bool (XS f))/\Below (U w.heap) w w':=by
 by_cases a:0<=f;{by_cases b:f<3;{rw[cf2 a b];go_in;go_wp2;go_ret;exact⟨rfl,aD.alloc aA _⟩};{rw[cf3 af];go_in;go_wp2;go_ret;exact⟨rfl,aD.alloc aA _⟩}};{rw[cf3 af];go_in;go_wp2;go_ret;exact⟨rfl,aD.alloc aA _⟩}
def eb7{n:Int}(i:k<=200000)(hm:m<=2097152):dQ dG 237 #[tB (.slice p k c) n,.slice q m d] w λe w'=>e=dR (.bool (dD (m+k<=200000)))/\Below (U w.heap) w w':=by
 by_cases h:(m:Int)<=200000-k;{
 have e:dD (m+k<=200000):=by simp;omega
 rw[e];go_in;go_wp2;go_ret;exact⟨aj,aD.alloc aA _⟩};{
 have e:dD (m+k<=200000)=dF:=by simp;omega
 rw[e];go_in;go_wp2;go_ret;exact⟨aj,aD.alloc aA _⟩}
theorem cx5{n0 n1 n2:Int}(h0:Rd w (.slice p0 (J l0) c0) l0)(h1:Rd w (.slice p1 (J l1) c1) l1)(h2:Rd w (.slice p2 (J l2) c2) l2)(m0:J l0<=2097152)(m1:J l1<=2097152)(m2:J l2<=2097152):dQ dG 68 #[mV (.slice p0 (J l0) c0) n0 (.slice p1 (J l1) c1) n1 (.slice p2 (J l2) c2) n2] w λe w'=>
   ∃i m q d1 s d2,e=dR (mV (.slice i (J l0) m) n0 (.slice q (J l1) d1) n1 (.slice s (J l2) d2) n2)∧
    ko (U w.heap) w' (.slice i (J l0) m) (.slice q (J l1) d1) (.slice s (J l2) d2) l0 l1 l2/\Below (U w.heap) w w':=by
 go_in;go_wp2_with fail;let⟨W,j⟩:=aG ((w.alloc (dO #[.slice p0 (J l0) c0,.int .i64 n0,.slice p1 (J l1) c1,.int .i64 n1,.slice p2 (J l2) c2,.int .i64 n2] 108)).alloc (dO #[.slice dN 0 0,.int .i64 0,.slice dN 0 0,.int .i64 0,.slice dN 0 0,.int .i64 0] 37));have x:Below (U w.heap) w W:=by rw[j];exact(aD.alloc aA _).alloc aj _
 have u:nT W (U w.heap) (.slice p0 (J l0) c0) (.int .i64 n0) (.slice p1 (J l1) c1) (.int .i64 n1) (.slice p2 (J l2) c2) (.int .i64 n2):=by rw[j];simp[nT]
 have r0:nT W (U w.heap+1) (.slice dN 0 0) (.int .i64 0) (.slice dN 0 0) (.int .i64 0) (.slice dN 0 0) (.int .i64 0):=by rw[j];simp[nT]
 have f0:∀o,W.frozen? (Ax w o)=dF:=by intro o;rw[j];simp
 have zW:U w.heap+2=U W.heap:=by rw[j];simp
 rw[<-j];clear j;have e0:=h0.H x.drew;have e1:=h1.H x;have e2:=h2.H x;have Uo:nT W.drew (U w.heap) (.slice p0 (J l0) c0) (.int .i64 n0) (.slice p1 (J l1) c1) (.int .i64 n1) (.slice p2 (J l2) c2) (.int .i64 n2):=u
 go_region_held3 (λw'=>nT w' (U w.heap) (.slice p0 (J l0) c0) (.int .i64 n0) (.slice p1 (J l1) c1) (.int .i64 n1) (.slice p2 (J l2) c2) (.int .i64 n2)) (first|with_reducible exact Uo|with_reducible exact k1|with_reducible exact k2|with_reducible exact k3|(clear u Uo k1 k2 N M y f3 e0 e1 e2 Z X o2 au R D r0 f0 x;refine⟨?_,?_,?_,?_,?_,?_⟩<;>go_keep))
  (first
   |(go_at_call_of 136 (Value.agg #[.slice p0 (J l0) c0,.int .i64 n0]);refine(bn7 p0 c0 n0 l0 _ (by exact e0) m0).h ?_;rintro e r⟨i,m,rfl,Z,au⟩;have N:=ai (aR (U W.heap) W).drew au;have k1:=nT.H u N)
   |(go_at_call_of 136 (Value.agg #[.slice p1 (J l1) c1,.int .i64 n1]);refine(bn7 p1 c1 n1 l1 _ (by exact e1.H N) m1).h ?_;rintro e S⟨q,d1,rfl,X,R⟩;have M:=ai N R;have k2:=nT.H u M)
   |(go_at_call_of 136 (Value.agg #[.slice p2 (J l2) c2,.int .i64 n2]);refine(bn7 p2 c2 n2 l2 _ (by exact e2.H M) m2).h ?_;rintro e E⟨s,d2,rfl,o2,D⟩;have y:=ai M D;have k3:=nT.H u y;have r3:=nT.H r0 y;have f3:=Ag f0 y af))
 have z1:U w.heap+2<=U r.heap:=by have:=au.size;simp at this;omega
 have z2:U r.heap<=U S.heap:=R.size;have z3:U S.heap<=U E.heap:=D.size;have bb:Below (U w.heap) w E:=ai x y;have u0:Own (U W.heap) E (.slice i (J l0) m) l0:=Own.H (Own.H (by simpa using Z) R) D;have u1:Own (U r.heap) E (.slice q (J l1) d1) l1:=Own.H X D;have V:Own (U W.heap) r (.slice i (J l0) m) l0:=by simpa using Z
 have ra:=r3;go_wp2;refine cg (v:=mV (.slice i (J l0) m) n0 (.slice q (J l1) d1) n1 (.slice s (J l2) d2) n2) (by simp[results,results68,go_sem,ra]) rfl ⟨i,m,q,d1,s,d2,rfl,?_,?_⟩;{
 refine ko.mk' (B:=U w.heap) (B1:=U r.heap) (B2:=U S.heap) (V.h af) X (Own.h (B:=U W.heap) ?_ af) ?_ ?_ aA aA af af;{
 repeat(refine sy ?_ bq _)
 exact u0};{
 repeat(refine sy ?_ bq _)
 exact u1};{
 repeat(refine sy ?_ bq _)
 exact o2}};{
 repeat(refine ri ?_ aj _)
 exact bb}
def ko.set(h:ko B w v0 v1 v2 l0 l1 l2)(i:a.block<B)(u:dV):ko B (w.setCell a u) v0 v1 v2 l0 l1 l2:=
 ⟨h.o0.set i u,h.o1.set i u,h.o2.set i u,h.OP,h.ON,h.n12⟩
def ko.h(h:ko B w v0 v1 v2 l0 l1 l2)(i:B'<=B):ko B' w v0 v1 v2 l0 l1 l2:=
 ⟨h.o0.h i,h.o1.h i,h.o2.h i,h.OP,h.ON,h.n12⟩
def fd8(w:G)(m j i:LI)(D B y code:Int)(e:Ending)(w':G):Prop:=
 ∃r x q u o s,e=dR (dT #[mV (.slice r (J m) x) D (.slice q (J j) u) B (.slice o (J i) s) y,.int .i64 code])∧
  ko (U w.heap) w' (.slice r (J m) x) (.slice q (J j) u) (.slice o (J i) s) m j i/\Below (U w.heap) w w'
def ex5(y N M:OA)(D V R:Nat)(n0 n1 n2:Int)(l0 l1 s:LI)(w:G)(h0:Rd w (.S y (J l0) D) l0)(h1:Rd w (.S N (J l1) V) l1)(h2:Rd w (.S M (J s) R) s)(hd:O (mU (J l0) n0 (J l1) n1 (J s) n2))(hs:J l0<=200000)(fo:J l1<=200000)(vP:J s<=200000)(pb:OA)(lb lm:LI)(mT:O (lm=l0++lb))(cb:Nat)(hB:Rd w (.S pb (J lb) cb) lb)(FR:O (J lm<=200000)):dQ dG 198 #[mV (.S y (J l0) D) n0 (.S N (J l1) V) n1 (.S M (J s) R) n2,.I 0,.S pb (J lb) cb] w (fd8 w lm l1 s n0 n1 n2 0):=by
 go_in;go_wp2_with fail;refine br (bn5 y N M D V R rfl rfl rfl) λi Z=>?_;have W:Bw w i:=((aD.alloc aA _).alloc aj _).Z (Z.h bq);have z1:U w.heap+1<U i.heap:=by have:=Z.size;simp at this;omega
 have R1:=bG (show nT i (U w.heap+1) aq (.I 0) aq (.I 0) aq (.I 0)from nT.H (by simp[nT]) Z) (Ag (b:=U w.heap+1) (by intro o;simp) Z aj);have HE:=du (h0.H W) (h1.H W) (h2.H W);have eb:=ag (hB.H W);clear Z;go_wp2_with fail;refine br (cx4 af af af) λw2 X=>?_;rw[ae hd];have u:nT w2 (U i.heap) (.S y (J l0) D) (.I n0) (.S N (J l1) V) (.I n1) (.S M (J s) R) (.I n2):=nT.H (by simp[nT]) X;have x:=Ag (b:=U i.heap) (by intro o;simp) X aj;have m:Bw i w2:=(aD.alloc aA _).Z (X.h aj);have r:U i.heap<U w2.heap:=by have:=X.size;simp at this;omega
 clear X;go_wp2_with fail;refine br (el0 y N M _ D _ V _ R n0 n1 n2 _ _) λw3 j=>?_;rw[cf2 af af];replace u:=u.H j;replace x:=Ag x j r;replace m:Bw i w3:=ai m j;replace r:U i.heap<U w3.heap:=aK j.size;clear j;go_wp2_with fail;have el:=vJ List.length mT;rw[dm]at el;have uh:=ae FR;have hr:dD (J lb+J l0<=200000):=by simp;omega
 refine br (eb7 af af) λw4 j=>?_;rw[hr];replace u:=u.H j;replace x:=Ag x j r;replace m:Bw i w4:=ai m j;replace r:U i.heap<U w4.heap:=aK j.size;clear j hr;go_wp2_with fail;refine(el5 y pb D cb n0 l0 lb lm mT _ (HE.1.H m) (eb.H m) af).h ?_;rintro e w5⟨pm,cm,rfl,om,j⟩;replace u:=u.H j;replace x:=Ag x j r;replace m:Bw i w5:=ai m j;clear j el;go_wp2_with fail;have rh:Own (U w4.heap) _ (.S pm (J lm) cm) lm:=(om.set (a:=(Aw i 0)) r (.S pm (J lm) cm)).set (a:=(Aw i 1)) r (.I n0);have b3:=(m.setCell (p:=(Aw i 0)) aA (.S pm (J lm) cm)).setCell (p:=(Aw i 1)) aA (.I n0);refine(cx5 rh.rd (HE.2.1.H b3) (HE.2.2.H b3) af af af).h ?_;rintro e w6⟨q0,d0,q1,d1,q2,d2,rfl,o6,E⟩;have o7:=o6.h (B':=U w.heap+2) (by simp;have:=m.size;omega);have E:=ai b3 E;have bb:=ai W E;have ra:=R1.1.H E;have F6:=Ag R1.2 E z1;clear u x m b3 HE o6 E R1 om rh eb;go_wp2;refine cg (by simp[results,results198,go_sem,ra]) rfl ⟨q0,d0,q1,d1,q2,d2,rfl,?_,?_⟩;{
 refine ko.h (B:=U w.heap+2) ?_ af
 repeat(refine ko.set ?_ aj _)
 exact o7};{
 repeat(refine ri ?_ aj _)
 exact bb}
def GJ(h:Below (U w.heap) w u):Below (U w.heap) w (u.alloc o):=h.alloc h.size o
def cY6{v:Nat}(o:v<2^64)(m:O (J (vi v)=M)):Cp 127 #[.int .u64 v] w λe w'=>∃i j,e=dR (.slice i M j)/\Own (U w.heap) w' (.slice i M j) (vi v)/\Below (U w.heap) w w':=by
 obtain rfl:=ae m;exact Th o
def cF2{x:dV}(h:b=U u.heap):I (u.alloc (dO #[x] t)) (Ad b 0)=x:=by subst h;simp
def cF1{o:Nat}(h:I u (Ad b o)=v):I (u.alloc ob) (Ad b o)=v:=al h (aD.alloc aA _)
def cF0{o:Nat}(h:I u (Ad b o)=v):I u.drew (Ad b o)=v:=h
def rd1(h:I u (Ad b 0)=Y (.int .u8 y)):Rd u (.slice (Ad b 0) 1 1) [y]:=by
 refine⟨_,_,rfl,.R ⟨b,0,rfl,λi j=>?_⟩⟩;obtain rfl:i=0:=by simpa using j
 simpa using h
def dL2{r q lm:LI}(e:O (lm=cat [l0,l1,l2,r,q]))(R:Le lm N)(B:Rd X v0 l0)(y:Rd X v1 l1)(x:Rd X v2 l2)(u:Rd X v3 r)(s:Rd X v4 q)(D:N<=4194304)(M:iG=U X.heap):Cp 126 #[.slice (Ad iG 0) 5 5] (X.alloc (dO #[v0,v1,v2,v3,v4] 22)) λe w'=>∃j m,e=dR (.slice j N m)/\Own (U X.heap) w' (.slice j N m) lm/\Below (U X.heap) X w':=by
 subst M;have i:Below (U X.heap) X (X.alloc (dO #[v0,v1,v2,v3,v4] 22)):=aD.alloc aA _;refine(DQ [l0,l1,l2,r,q] 5 rfl e R (bV5 aj aj aj aj aj (B.H i) (y.H i) (x.H i) (u.H i) (s.H i)) D af).h ?_;rintro e w'⟨j,m,rfl,o,E⟩;exact⟨j,m,rfl,Own.h o aj,ai i E⟩
def ek9{i:G}(o:Below (U X.heap) X i)(m:Own (U X.heap) i v l)(j:Below (U w.heap) w X):Own (U w.heap) i v l/\Below (U w.heap) w i:=⟨Own.h m j.size,ai j o⟩
def lX(k s:Nat)(P:LI)(f:Nat)(V:LI):LI:=[(k:Int)]++(vi s++(tx P++([(f:Int)]++tx V)))
theorem ba3(k:Nat)(iK:1<=k)(lx:k<=13)(s f:Nat)(hs:s<2^64)(hf:f<=2)(P V:LI)(ep:Le P n)(ev:Le V m)(hp:Rd w (.slice p n c) P)(hv:Rd w (.slice q m d) V)(hn:Mg n)(hm:Mg m)(hT:Jh w 0 (k*7) se pa lo hi vs sq dY)(eB:O (Bf se pa lo hi vs sq s f n m e g))(eN:O (J (lX k s P f V)=N)):dQ dG 197 #[lM k s (.slice p n c) f (.slice q m d) e g] w λr w'=>∃X c',r=dR (.slice X N c')/\Own (U w.heap) w' (.slice X N c') (lX k s P f V)/\Below (U w.heap) w w':=by
 have h1:=gm 1 k;have h2:(k:Int)<=13:=af;have h3:(k:Int)<14:=af;have B:k<14:=af;have h5:=gm 0 k;have wk:IntKind.u8.wrap (k:Int)=(k:Int):=by rw[JY];omega
 have wf:IntKind.u8.wrap (f:Int)=(f:Int):=by rw[JY];omega
 have HP:=ag λ(w':G)(y:Below (U w.heap) w w')=>hp.H y;have HV:=ag λ(w':G)(y:Below (U w.heap) w w')=>hv.H y;clear hp hv;go_in;go_wp2_with fail;let⟨W,u⟩:=aG (w.alloc (dO #[.int .i64 k,.int .u64 s,.slice p n c,.int .i64 f,.slice q m d,.int .u64 e,.int .u64 g] 65));have E:=gF u;have hA:lp W (U w.heap) (.int .i64 k) (.int .u64 s) (.slice p n c) (.int .i64 f) (.slice q m d) (.int .u64 e) (.int .u64 g):=by rw[u];simp[lp,go_sem]
 have zW:U w.heap<U W.heap:=by rw[u];simp
 have S:=hT.H E;rw[<-u];clear u hT;refine br (aI0 iK lx S eB) λw1 i=>?_;have x:=hA.H i;have MO:=S.H i;have R:=ai E i;have z1:=i.size;clear hA S E i;obtain⟨a0,a1,a2,a3,a4,a5,a6⟩:=x;have t0:=MO;obtain⟨M,eM⟩:∃M,O (J (vi s)=M):=⟨_,rfl⟩;obtain⟨N1,Ej⟩:∃M,O (J (tx P)=M):=⟨_,rfl⟩;obtain⟨N2,KP⟩:∃M,O (J (tx V)=M):=⟨_,rfl⟩;have x:lp w1 (U w.heap) (.int .i64 k) (.int .u64 s) (.slice p n c) (.int .i64 f) (.slice q m d) (.int .u64 e) (.int .u64 g):=⟨a0,a1,a2,a3,a4,a5,a6⟩;have EE:O (lX k s P f V=cat [[(k:Int)],vi s,tx P,[(f:Int)],tx V]):=by show _=_;rw[eG0];rfl
 have hNb:N<=4194304:=by have h1:=pf s;have h2:=Hi P;have h3:=Hi V;have B:=ae eN;rw[lX]at B;simp only[dm,kJ,yS]at B;rw[ae ep]at h2;rw[ae ev]at h3;omega
 go_wp2_with fail;clear a0 a1 a2 a3 a4 a5 a6 t0
 go_region_held3 (λw'=>lp w' (U w.heap) (.int .i64 k) (.int .u64 s) (.slice p n c) (.int .i64 f) (.slice q m d) (.int .u64 e) (.int .u64 g)) (exact lp.H x (by repeat(first|with_reducible exact aR _ _|with_reducible refine GJ ?_|with_reducible refine Pf ?_|with_reducible refine ai ?_ D|with_reducible refine ai ?_ o|with_reducible refine ai ?_ j|with_reducible refine ai ?_ i)))
  (first
   |(go_at_call 127;with_reducible refine(cY6 hs eM).h ?_;rintro r x1⟨pv,cv,rfl,Z,i⟩)
   |(go_at_call 191;with_reducible refine(ag9 (p:=p) (c:=c) ep (by exact ae HP _ (by repeat(first|with_reducible exact R|with_reducible refine GJ ?_|with_reducible refine Pf ?_|with_reducible refine ai ?_ o|with_reducible refine ai ?_ j|with_reducible refine ai ?_ i))) hn Ej).h ?_;rintro r x2⟨pt,ct,rfl,ot,j⟩)
   |(go_at_call 191;with_reducible refine(ag9 (p:=q) (c:=d) ev (by exact ae HV _ (by repeat(first|with_reducible exact R|with_reducible refine GJ ?_|with_reducible refine Pf ?_|with_reducible refine ai ?_ o|with_reducible refine ai ?_ j|with_reducible refine ai ?_ i))) hm KP).h ?_;rintro r x3⟨pu,cu,rfl,ou,o⟩)
   |(go_at_call 126;with_reducible refine(dL2 EE eN (by exact rd1 (by repeat(first|with_reducible exact cF2 aj|with_reducible refine cF1 ?_|with_reducible refine cF0 ?_|with_reducible refine al ?_ o|with_reducible refine al ?_ j|with_reducible refine al ?_ i))) (by exact Rd.H Z.rd (by repeat(first|with_reducible exact aR _ _|with_reducible refine GJ ?_|with_reducible refine Pf ?_|with_reducible refine ai ?_ o|with_reducible refine ai ?_ j))) (by exact Rd.H ot.rd (by repeat(first|with_reducible exact aR _ _|with_reducible refine GJ ?_|with_reducible refine Pf ?_|with_reducible refine ai ?_ o|with_reducible refine ai ?_ j))) (by exact rd1 (by repeat(first|with_reducible exact cF2 aj|with_reducible refine cF1 ?_|with_reducible refine cF0 ?_|with_reducible refine al ?_ o|with_reducible refine al ?_ j|with_reducible refine al ?_ i))) (by exact Rd.H ou.rd (by repeat(first|with_reducible exact aR _ _|with_reducible refine GJ ?_|with_reducible refine Pf ?_|with_reducible refine ai ?_ o|with_reducible refine ai ?_ j))) af aj).h ?_;rintro r x4⟨pj,cj,rfl,oj,D⟩))
 all_goals(
  have uQ:=ek9 (w:=w) D oj (by repeat(first|with_reducible exact R|with_reducible refine GJ ?_|with_reducible refine Pf ?_|with_reducible refine ai ?_ o|with_reducible refine ai ?_ j|with_reducible refine ai ?_ i));clear D oj i j o Z ot ou;go_wp2;go_ret;exact⟨pj,cj,rfl,uQ⟩)
def ji{α:Type}(F:α->Nat)(l:List α):Nat:=(l.map F).sum
def ah7{α:Type}(F:α->Nat){l:List α}{y:α}(h:l[k]?=y):ji F (l.take (k+1))=ji F (l.take k)+F y:=by
 rw[pZ,h];simp[ji]
def aL3{α:Type}(F:α->Nat)(l:List α):ji F (l.take 0)=0:=by simp[ji]
def JD(s:aB):Nat:=J s.2.2+ji (λe:Ev=>J e.2) s.2.2
def JE(nd:ar):Nat:=J nd.A+J nd.V+J nd.y+J nd.X
def EU(ss:List aB)(ns:List ar):Nat:=J ss+ji JD ss+(J ns+ji JE ns)
def iZ.news(h:iZ w (.S a (J l) c) l):J (l.map (Value.int .u64))=J l*1/\(∀j u,(l.map (Value.int .u64))[j]?=Y u->I w (a.add j)=Y u)/\(∀u∈l.map (Value.int .u64),u.oneCell'):=by
 refine⟨aj,λj u i=>?_,λu i=>by obtain⟨n,-,rfl⟩:=fe.1 i;rfl⟩;have m:j<J l:=by have:=(bg.1 i).1;simpa using this
 obtain⟨p,x,e,r⟩:=h;obtain⟨rfl,-,-⟩:=jJ e;obtain s|⟨b,o,q,hc⟩:=r;{rw[s]at m;simp at m};{simp only[mn]at q;subst q;rw[Fx,hc j m,<-i];simp[im,m]}
theorem ce1(en:Le l n)(h:iZ w (.S p n c) l)(hl:Mg n):dQ dG 158 #[.S p n c] w λe w'=>∃q m,e=dR (.S q n m)/\oU (U w.heap) w' (.S q n m) l/\Bw w w':=by
 obtain rfl:=ae en;let⟨i,D,V,fw,fI⟩:=kx Tryz.infoU64;go_in;have N:w.ownsRow (U w.heap) 27 1 aq 0 []:=lZ w _ _ 1;cases p with
 |none=>
  have e0:l=[]:=by obtain⟨p,m,e,X⟩:=h;simp only[rj]at e;obtain h0|⟨b,o,e1,hc⟩:=X;{exact h0};{rw[e1]at e;simp at e}
  subst e0;have D6:=WH (P:=dG) 61 i underlying61 D c N;go_wp2_with(at_builtin;refine Lib.wpList_append_run w rfl _ _ 61 61 rfl _ _ rfl rfl _ _ D6 ?_);go_ret;exact⟨_,_,rfl,oU.nil _ _,aR _ _⟩
 |some ad=>
  let⟨x,s,r⟩:=h.news;let⟨R,w',y,M,j,E⟩:=bR0 (ty:=61) i D V fw fI N (ZT.nil w) c x s r jC af aA;go_wp2_with(at_builtin;refine Lib.wpList_append_run w rfl _ _ 61 61 rfl _ _ rfl rfl _ _ y ?_);have B:oU (U w.heap) w' R l:=⟨by simpa[gK]using M,E⟩;obtain⟨q,m,rfl⟩:=B.form;have Z:Bw w w':=⟨j.os,j.tape,j.output,j.size,λk W=>j.block k W (by simp[Value.ownBlock])⟩;clear M j E y x s r h;go_wp2;go_ret;exact⟨_,_,rfl,B,Z⟩
def aL7{α:Type}{el:G->α->List dV->Prop}{o:Oper}{a:Act}{Q:iE}{E:Prop}(gR:o.guard=dN){s x:Operand} (ho:o.op=.call {callee:=.builtin .append,args:=#[s,x],argTypes:=#[t,t]}){e:TypeId}(i:TypeInfo)(size:Nat)(ht:P.underlying t=Y (.slice e))(hi:P.info? e=i)(hz:i.zero=z)(Kf:i.size=size)(cQ:i.bytes=bytes)(Mq:z.cells.size=size)(fQ:0<size){xs:List α}(ek:Le xs k)(hs:a.eval s=v)(cX:RT el e size B w v xs)(g:Nat)(y:α)(hx:a.eval x=.T g 1 1)(iL:el w y cs)(sG:J cs=size)(rP:∀j u,cs[j]?=Y u->I w (Ad g j)=Y u)(h1:∀u∈cs,u.oneCell')(gP:∀w',Fr [e] w w'->∀x c,el w x c->el w' x c)(hk:k<4194304)(YK:bytes<=256)(hB:B<=U w.heap)(h:∀p' c' w',RT el e size B w' (.S p' (k+1) c') (xs++[y])->w.grownBy w' v.ownBlock->Fr [e] w w'->(∀g,(Value.slice p' (k+1) c').ownBlock=Y g->v.ownBlock=Y g\/U w.heap<=g)->K (a.put o.dst (.S p' (k+1) c')) w'):if Region.wanted o (yielded ops a.tmps)then Oper.wp P o a w K Q else E:=by
 have htt:=cX.vr;obtain⟨rs,g1,g2,g3,g4⟩:=cX;rw[ae ek]at g3;refine Tn gR ho i size ht hi hz Kf cQ Mq fQ hs g3 1 1 cs hx (by rw[sG,Nat.one_mul]) rP h1 jC (by have:=Nat.mul_le_mul (show k+1<=4194304 by omega) YK;omega) hB ?_
 intro v' w' gx hg zy;have hf:Fr [e] w w':=Fr.grown hg λb hb=>by let⟨cur,hc⟩:=htt b hb;exact⟨cur,_,hc,aj⟩
 have sn:RT el e size B w' v' (xs++[y]):=RT.snoc g1 g2 g4 (gP w' hf) iL sG (ae ek▸gx);obtain⟨p',c',rfl,-⟩:=RT.form sn;rw[dm,ae ek]at sn zy⊢;exact h p' c' w' sn hg hf zy
def eB8{p4 p7:OA}{c4 c7 q:Nat}(e0:Le nd.A n0)(e1:Le nd.V n1)(e4:Le nd.y n4)(e7:Le nd.X q)(h0:Rd w (.S p0 n0 c0) nd.A)(h1:Rd w (.S p1 n1 c1) nd.V)(h4:iZ w (.S p4 n4 c4) nd.y)(h7:iZ w (.S p7 q c7) nd.X)(l0:Mg n0)(l1:Mg n1)(l4:Mg n4)(l7:Mg q):dQ dG 98 #[Cc (.S p0 n0 c0) (.S p1 n1 c1) nd.D nd.M (.S p4 n4 c4) nd.P nd.F (.S p7 q c7)] w λr w'=>∃x y D d1 M d4 N R,r=dR (Cc (.S x n0 y) (.S D n1 d1) nd.D nd.M (.S M n4 d4) nd.P nd.F (.S N q R))/\TC (U w.heap) w' (.S x n0 y) nd.A/\TC (U w.heap) w' (.S D n1 d1) nd.V/\TU (U w.heap) w' (.S M n4 d4) nd.y/\TU (U w.heap) w' (.S N q R) nd.X/\Bw w w':=by
 have HR:=ag λ(w':G)(hb:Bw w w')=>aF (h0.H hb) (aF (h1.H hb) (aF (h4.H hb) (h7.H hb)));let⟨W0,cI,b0,z0,C0,T0⟩:=bQ w #[.S p0 n0 c0,.S p1 n1 c1,.U nd.D,.I nd.M,.S p4 n4 c4,.U nd.P,.U nd.F,.S p7 q c7] 141;let⟨W1,fx,b1,z1,C1,T1⟩:=bQ W0 #[aq,aq,.U 0,.I 0,aq,.U 0,.U 0,aq] 141;rw[z0]at C1 T1 z1;have B0:=ag (ai b0 b1);have C0:=ag (C0.H af b1);have T0:O (∃cur,W1.heap[U w.heap]?=dO cur 141):=⟨_,(b1.block _ af).Z T0⟩;have R0:=ag C1;have TR:O (∃cur,W1.heap[U w.heap+1]?=dO cur 141):=⟨_,T1⟩;have Z0:=z1;go_in;have k0:=C0.1 0 _ rfl;go_wp2_with fail;rw[<-cI,<-fx];refine(Ci e0 (ae HR W1 B0).1 af).h ?_;rintro r w1⟨x,y,rfl,oj,m⟩;have s:=C0.H af m;have TY:∃cur,w1.heap[U w.heap]?=dO cur 141:=T0.imp λcur hc=>(m.block _ af).Z hc;have RY:=R0.H af m;let⟨X,i⟩:=aG (w1.setCell (Aw w 0) (.S x n0 y));have Rz:∃cur,w1.heap[U w.heap+1]?=dO cur 141:=TR.imp λcur hc=>(m.block _ af).Z hc;have TR:O (∃cur,X.heap[U w.heap+1]?=dO cur 141):=by rw[i];exact ag (Rz.imp λcur hc=>(fT _ _ _ _ (by show U w.heap+1≠U w.heap;omega)).Z hc)
 have o:=nW (j:=0) (u:=.S x n0 y) TY;rw[<-i]at o;have kj:=s.1 0 _ rfl;have kf:=s.2 0;have zj:=m.size;have Z1:U w.heap+1+1<=U X.heap:=by rw[i];simp;omega
 have C1:O (aQ X (U w.heap) [.S x n0 y,.S p1 n1 c1,.U nd.D,.I nd.M,.S p4 n4 c4,.U nd.P,.U nd.F,.S p7 q c7]):=i▸ag (s.db 0 aj _);have T1:=ag o.1;have R1:O (aQ X (U w.heap+1) [aq,aq,.U 0,.I 0,aq,.U 0,.U 0,aq]):=by rw[i];exact ag (RY.my (a:=(Aw w 0)) (by show U w.heap+1≠U w.heap;omega) _)
 have B1:O (Bw w X):=by rw[i];exact ag ((ai (ae B0) m).setCell (p:=(Aw w 0)) aA _)
 have E:=ag ((oj.tc (B:=U w.heap) af).T o.2);let⟨X1,hN⟩:=aG X;rw[<-hN]at C1 T1 R1 B1 Z1 TR i E;have k1:=C1.1 1 _ rfl;rw[i]at k1;go_wp2_with fail;rw[<-i];refine(Ci e1 (ae HR X1 B1).2.1 af).h ?_;rintro r w2⟨D,d1,rfl,oj,m⟩;have s:=C1.H af m;have TY:∃cur,w2.heap[U w.heap]?=dO cur 141:=T1.imp λcur hc=>(m.block _ af).Z hc;have RY:=R1.H af m;let⟨X,i⟩:=aG (w2.setCell (Aw w 1) (.S D n1 d1));have Rz:∃cur,w2.heap[U w.heap+1]?=dO cur 141:=TR.imp λcur hc=>(m.block _ af).Z hc;have TR:O (∃cur,X.heap[U w.heap+1]?=dO cur 141):=by rw[i];exact ag (Rz.imp λcur hc=>(fT _ _ _ _ (by show U w.heap+1≠U w.heap;omega)).Z hc)
 have o:=nW (j:=1) (u:=.S D n1 d1) TY;rw[<-i]at o;have kj:=s.1 1 _ rfl;have kf:=s.2 1;have zj:=m.size;have Z2:U w.heap+1+1<=U X.heap:=by rw[i];simp;omega
 have C2:O (aQ X (U w.heap) [.S x n0 y,.S D n1 d1,.U nd.D,.I nd.M,.S p4 n4 c4,.U nd.P,.U nd.F,.S p7 q c7]):=i▸ag (s.db 1 aj _);have T2:=ag o.1;have R2:O (aQ X (U w.heap+1) [aq,aq,.U 0,.I 0,aq,.U 0,.U 0,aq]):=by rw[i];exact ag (RY.my (a:=(Aw w 1)) (by show U w.heap+1≠U w.heap;omega) _)
 have B2:O (Bw w X):=by rw[i];exact ag ((ai (ae B1) m).setCell (p:=(Aw w 1)) aA _)
 have E:=ag (((E.T (bH m)).T o.2));have Z:=ag ((oj.tc (B:=U w.heap) af).T o.2);let⟨X2,hN⟩:=aG X;rw[<-hN]at C2 T2 R2 B2 Z2 TR i E Z;have k4:=C2.1 4 _ rfl;rw[i]at k4;go_wp2_with fail;rw[<-i];refine(ce1 e4 (ae HR X2 B2).2.2.1 af).h ?_;rintro r w3⟨M,d4,rfl,oj,m⟩;have s:=C2.H af m;have TY:∃cur,w3.heap[U w.heap]?=dO cur 141:=T2.imp λcur hc=>(m.block _ af).Z hc;have RY:=R2.H af m;let⟨X,i⟩:=aG (w3.setCell (Aw w 4) (.S M n4 d4));have Rz:∃cur,w3.heap[U w.heap+1]?=dO cur 141:=TR.imp λcur hc=>(m.block _ af).Z hc;have TR:O (∃cur,X.heap[U w.heap+1]?=dO cur 141):=by rw[i];exact ag (Rz.imp λcur hc=>(fT _ _ _ _ (by show U w.heap+1≠U w.heap;omega)).Z hc)
 have o:=nW (j:=4) (u:=.S M n4 d4) TY;rw[<-i]at o;have kj:=s.1 4 _ rfl;have kf:=s.2 4;have zj:=m.size;have Z3:U w.heap+1+1<=U X.heap:=by rw[i];simp;omega
 have C3:O (aQ X (U w.heap) [.S x n0 y,.S D n1 d1,.U nd.D,.I nd.M,.S M n4 d4,.U nd.P,.U nd.F,.S p7 q c7]):=i▸ag (s.db 4 aj _);have T3:=ag o.1;have R3:O (aQ X (U w.heap+1) [aq,aq,.U 0,.I 0,aq,.U 0,.U 0,aq]):=by rw[i];exact ag (RY.my (a:=(Aw w 4)) (by show U w.heap+1≠U w.heap;omega) _)
 have B3:O (Bw w X):=by rw[i];exact ag ((ai (ae B2) m).setCell (p:=(Aw w 4)) aA _)
 have E:=ag (((E.T (bH m)).T o.2));have Z:=ag (((Z.T (bH m)).T o.2));have t4:=ag ((oj.tu (B':=U w.heap) af).T o.2);let⟨X3,hN⟩:=aG X;rw[<-hN]at C3 T3 R3 B3 Z3 TR i E Z t4;have k7:=C3.1 7 _ rfl;rw[i]at k7;go_wp2_with fail;rw[<-i];refine(ce1 e7 (ae HR X3 B3).2.2.2 af).h ?_;rintro r w4⟨N,R,rfl,oj,m⟩;have s:=C3.H af m;have TY:∃cur,w4.heap[U w.heap]?=dO cur 141:=T3.imp λcur hc=>(m.block _ af).Z hc;have RY:=R3.H af m;let⟨X,i⟩:=aG (w4.setCell (Aw w 7) (.S N q R));have Rz:∃cur,w4.heap[U w.heap+1]?=dO cur 141:=TR.imp λcur hc=>(m.block _ af).Z hc;have TR:O (∃cur,X.heap[U w.heap+1]?=dO cur 141):=by rw[i];exact ag (Rz.imp λcur hc=>(fT _ _ _ _ (by show U w.heap+1≠U w.heap;omega)).Z hc)
 have o:=nW (j:=7) (u:=.S N q R) TY;rw[<-i]at o;have kj:=s.1 7 _ rfl;have kf:=s.2 7;have zj:=m.size;have Z4:U w.heap+1+1<=U X.heap:=by rw[i];simp;omega
 have W:O (aQ X (U w.heap) [.S x n0 y,.S D n1 d1,.U nd.D,.I nd.M,.S M n4 d4,.U nd.P,.U nd.F,.S N q R]):=i▸ag (s.db 7 aj _);have T4:=ag o.1;have V:O (aQ X (U w.heap+1) [aq,aq,.U 0,.I 0,aq,.U 0,.U 0,aq]):=by rw[i];exact ag (RY.my (a:=(Aw w 7)) (by show U w.heap+1≠U w.heap;omega) _)
 have B4:O (Bw w X):=by rw[i];exact ag ((ai (ae B3) m).setCell (p:=(Aw w 7)) aA _)
 have E:=ag (((E.T (bH m)).T o.2));have Z:=ag (((Z.T (bH m)).T o.2));have t4:=ag (((t4.T (bH m)).T o.2));have t7:=ag ((oj.tu (B':=U w.heap) af).T o.2);let⟨X4,hN⟩:=aG X;rw[<-hN]at W T4 V B4 Z4 TR i E Z t4 t7;obtain⟨s0,s1,s2,s3,s4,s5,s6,s7,sf⟩:_/\_/\_/\_/\_/\_/\_/\_/\_:=⟨W.1 0 _ rfl,W.1 1 _ rfl,W.1 2 _ rfl,W.1 3 _ rfl,W.1 4 _ rfl,W.1 5 _ rfl,W.1 6 _ rfl,W.1 7 _ rfl,W.2⟩;obtain⟨r0,r1,r2,r3,r4,r5,r6,r7,rf⟩:_/\_/\_/\_/\_/\_/\_/\_/\_:=⟨V.1 0 _ rfl,V.1 1 _ rfl,V.1 2 _ rfl,V.1 3 _ rfl,V.1 4 _ rfl,V.1 5 _ rfl,V.1 6 _ rfl,V.1 7 _ rfl,V.2⟩;rw[i]at s0 s1 s2 s3 s4 s5 s6 s7 sf r0 r1 r2 r3 r4 r5 r6 r7 rf;go_wp2;rw[<-i]at*;have bF:=tQ (w:=X4) (b:=U w.heap+1) (v0:=.S x n0 y) (v1:=.S D n1 d1) (v2:=.U nd.D) (v3:=.I nd.M) (v4:=.S M n4 d4) (v5:=.U nd.P) (v6:=.U nd.F) (v7:=.S N q R);obtain⟨-,fF⟩:=bU7 (v0:=.S x n0 y) (v1:=.S D n1 d1) (v2:=.U nd.D) (v3:=.I nd.M) (v4:=.S M n4 d4) (v5:=.U nd.P) (v6:=.U nd.F) (v7:=.S N q R) TR;refine cg (v:=Cc (.S x n0 y) (.S D n1 d1) nd.D nd.M (.S M n4 d4) nd.P nd.F (.S N q R)) (by simp[results,results98,go_sem,r0,r1,r2,r3,r4,r5,r6,r7]) rfl ?_;exact⟨x,y,D,d1,M,d4,N,R,rfl,E.T fF,Z.T fF,t4.T fF,t7.T fF,B4.Z (bF.h af)⟩
def qF.get(h:qF w (.S p n c) es){e:Ev}(j:es[i]?=e):∃b o u,p=(Ad b o)/\I w (Ad b (o+i*2))=dI e.1/\I w (Ad b (o+i*2+1))=Y u/\Rd w u e.2:=by
 obtain⟨D,E,m,q⟩:=h;simp only[rj]at m;obtain⟨rfl,-,rfl⟩:=m;obtain B|⟨b,o,rfl,r⟩:=q;{rw[B]at j;simp at j};{let⟨y,u,x,s⟩:=r i e j;exact⟨b,o,u,rfl,y,x,s⟩}
def eo1{Q:List Ev}(en:Le Q n)(h:qF w (.S p n c) Q)(hn:Mg n)(hbq:O (∀e∈Q,J e.2<=1048576)):dQ dG 97 #[.S p n c] w λr w'=>∃p' c',r=dR (.S p' n c')/\mZ (U w.heap) w' (.S p' n c') Q/\Bw w w':=by
 let⟨ie,UK,iD,fw,fI⟩:=kx Tryz.infoEv;have X:=gI UK iD fw fI;have HR:=ag λ(w':G)(hb:Bw w w')=>h.H hb;go_in;go_wp2
 go_loopw[3,4](λov iv wr=>∃(k:Nat)(M:List Ev)(po:OA)(co:Nat),k<=n/\iv=.I k/\ov=.S po k co/\Le M k/\O (Q.take k=M)/\O (mZ (U w.heap) wr (.S po k co) M)/\O (Bw w wr)) (λ_ iv _=>n-(intOf iv).toNat)
 exact⟨0,[],dN,0,cO _,rfl,rfl,rfl,(by show _=_;simp),RT.nil _ _ _ _ _,aR _ _⟩;{obtain⟨k,M,po,co,hk,rfl,rfl,eM,hM,hQ,q⟩:=hrel;have zr:=q.size;by_cases aH:k<n;{have cL:=bM k n;obtain⟨y,hy⟩:∃y,Q[k]?=Y y:=⟨_,bD (ae en▸aH)⟩;have E1:=ag (by rw[pZ,hy,ae hM];rfl:Q.take (k+1)=M++[y]);have hyl:=ae hbq y (bu hy);obtain⟨b,o,u,rfl,c0,c1,m⟩:=(ae HR w aD).get hy;obtain⟨D,W,rfl,PM⟩:=m;have RU:=ag (show Rd w (.S D (J y.2) W) y.2 from⟨D,W,rfl,PM⟩);let⟨N,Zu⟩:=cG (J y.2);rw[ae Zu]at c1 RU hyl;have HC:=ag (λ(v:G)(V:Bw w v)=>aF (al c0 V) (al c1 V));go_wp2_with fail;let⟨vA,dr⟩:=aG wr.drew;have cR:=lG dr;have BA:=ag cR;have BW:=λ(v:G)(V:Bw wr v)=>ai q V;refine fk (λw'=>I w' (Ad b (o+k*2))=dI y.1/\I w' (Ad b (o+k*2+1))=dS D N W) (dr▸ae HC vA (BW vA cR)) λhS=>?_;rw[<-dr]at hS⊢;refine iR 0 1 2 3 4 5 6 7 hS ?_;refine fO 8 9 hS ?_;refine tn 10 hS ?_;refine ew 11 λKK hK=>?_;refine jg (Ci Zu (RU.H (BW vA BA)) af) ?_;rintro r v1⟨pa,ca,rfl,oa,ke⟩;refine⟨_,rfl,?_⟩;have B1:=ag (ai BA ke);have OA:=ag (oa.tc (B:=U w.heap) (by have:=BA.size;have:=q.size;omega));refine bL hK (by exact HC v1 (BW v1 B1)) λhS=>?_;refine tn 12 hS ?_;refine ew 13 λKK hK=>?_;go_simp;obtain⟨Z,hZ,bZ,zZ,CZ,-⟩:=bQ v1 #[.I y.1,.S pa N ca] 119;rw[<-hZ];have B2:=ag (ai B1 bZ);have xz:=ag CZ;have TZ:=ag (OA.T (bH bZ));have QZ:=ag (mZ.T hQ (bH B2));have z2:=B2.size;refine bL hK (by exact HC Z (BW Z B2)) λhS=>?_;refine ew 14 λKK hK=>?_;refine aL7 aS aS ie 2 underlying45 X.1 X.2.1 X.2.2.1 X.2.2.2 rfl bf eM aS (ae QZ) (U v1.heap) y (cs:=[.I y.1,.S pa N ca]) aS ⟨_,rfl,TZ⟩ rfl (λj u m=>xz.1 j u m) (λu m=>by simp at m;obtain rfl|rfl:=m<;>rfl) (λw' hf=>KO.T hf bf) af af af ?_;intro p' c' w9 Cm pM f9 _;have B9:=ag ((q.Z (B2.h af)).grown pM af (λb' e=>(QZ.lt b' e).1));have Q9:=ag Cm;have hS9:I w9 (Ad b (o+k*2))=dI y.1/\I w9 (Ad b (o+k*2+1))=dS D N W:=ae HC w9 B9;refine bL hK (by exact hS9) λhS=>?_;refine tn 15 hS ?_;refine fy ?_;go_wp2;go_roundw;exact⟨k+1,M++[y],p',c',af,by go_num,rfl,ag (by rw[dm,ae eM];rfl),E1,Q9,B9⟩;exact cW};{have cL:=fq k n;obtain rfl:k=n:=af;have e1:=ae hM;rw[lY (by rw[ae en];omega)]at e1;subst e1;go_wp2;go_ret;exact⟨_,_,rfl,hQ,q⟩}}
def eh.snoc{v':dV}{Q:dV}(h:eh B w v ss Qs)(hf:Fr [97] w w')(S:mZ B w Q s.2.2)(D:∀(j:Nat)(q:dV)(b:Nat),Qs[j]?=Y q->q.ownBlock=Y b->Q.ownBlock≠Y b)(hr:RT CH 97 3 B w' v' (ss.zip Qs++[(s,Q)])):eh B w' v' (ss++[s]) (Qs++[Q]):=by
 have r:=h.len;refine⟨by simp[r],by rw[List.zip_append r.C];exact hr,λi N q o hq=>?_,λi j M E b R hq m y=>?_⟩;{
 by_cases x:i<J ss;{rw[mj x]at o;rw[mj af]at hq;exact(h.tM i N q o hq).T hf};{
 have V:i=J ss:=by have:=(bg.1 o).1;simp at this;omega
 subst V;rw[pI aA,xL]at o;rw[pI af,r,xL]at hq;simp at o hq;subst o hq;exact S.T hf}};{
 by_cases x:i<J Qs;{
 rw[mj x]at hq;by_cases u:j<J Qs;{rw[mj u]at m;exact h.my i j M E b R hq m y};{
 rw[pI af]at m;have e:j-(J Qs)=0:=by have:=(bg.1 m).1;simp at this;omega
 rw[e]at m;simp at m;subst m;exact D i M b hq y}};{
 rw[pI af]at hq;have e:i-(J Qs)=0:=by have:=(bg.1 hq).1;simp at this;omega
 rw[e]at hq;simp at hq;subst hq;have u:j<J Qs:=by have:=(bg.1 m).1;simp at this;omega
 rw[mj u]at m;exactλW=>D j E b m W y}}
def eh.h(h:eh B w v ss Qs)(j:B'<=B):eh B' w v ss Qs:=⟨h.len,RT.h h.row j,λi s Q m hq=>(h.tM i s Q m hq).h j,h.my⟩
def lI.get(h:lI w (.slice p n c) ss)(j:ss[i]?=s):∃b o u,p=Y ⟨b,o,dN⟩/\I w ⟨b,o+i*3,dN⟩=Y (.int .u64 s.1)/\I w ⟨b,o+i*3+1,dN⟩=Y (.int .i64 s.2.1)/\I w ⟨b,o+i*3+2,dN⟩=Y u/\qF w u s.2.2:=by
 obtain⟨M,N,m,q⟩:=h;simp only[rj]at m;obtain⟨rfl,-,rfl⟩:=m;obtain E|⟨b,o,rfl,r⟩:=q;{rw[E]at j;simp at j};{let⟨D,B,u,y,x⟩:=r i s j;exact⟨b,o,u,rfl,D,B,y,x⟩}
def YB(w:G)(b:Nat)(st i:List dV):Prop:=BX w b st/\BX w (b+1) [.int .u64 0,.int .u64 0,.int .u64 0,.int .i64 0,.slice dN 0 0,.slice dN 0 0]/\BX w (b+1+1) i
def YB.T{T:List TypeId}{st out:List dV}(h:YB w b st out)(hf:Fr T w w')(ht:41∉T:=by decide):YB w' b st out:=⟨h.1.T hf ht,h.2.1.T hf ht,h.2.2.T hf ht⟩
def YB.set{st i:List dV}(h:YB w b st i)(j:Nat)(m:j<J i)(u:dV):YB (w.setCell ⟨b+1+1,j,dN⟩ u) b st (i.set j u)/\Fr [41] w (w.setCell ⟨b+1+1,j,dN⟩ u):=
 ⟨⟨h.1.WA af,h.2.1.WA af,h.2.2.1.db j m u,(nW h.2.2.2).1⟩,(nW h.2.2.2).2⟩
variable {t:Int}
def aA3(en:Le ss n)(em:Le ns m)(h:lI w (.slice p n c) ss)(hN:gJ w (.slice q m d) ns)(hn:Mg n)(hm:Mg m)(gM:O (∀s∈ss,J s.2.2<=1048576/\∀ev∈s.2.2,J ev.2<=1048576))(nL:O (∀nd∈ns,J nd.A<=1048576/\J nd.V<=1048576/\J nd.y<=1048576/\J nd.X<=1048576)):dQ dG 51 #[bS e g x t (.slice p n c) (.slice q m d)] w λr w'=>∃p' c' q' d',r=dR (bS e g x t (.slice p' n c') (.slice q' m d'))/\(∃Qs,eh (U w.heap) w' (.slice p' n c') ss Qs)/\jK (U w.heap) w' (.slice q' m d') ns/\Below (U w.heap) w w':=by
 let⟨is,Qn,zt,fo,vP⟩:=kx Tryz.infoSes;let⟨iN,hiN,zF,nF,vR⟩:=kx Tryz.infoNod;have HI:=mX (aF Qn (aF zt (aF fo vP))) hiN zF nF vR;have HR:=bG h hN;have HCG:=ag (λ(vs:iA)(w:G)=>show(callFunc 98 vs).run dG w=.ok (.enter 98 vs) w by kernel_rfl);let⟨W0,cI,b0,z0,C0⟩:=xu w (.int .u64 e) (.int .u64 g) (.int .u64 x) (.int .i64 t) (.slice p n c) (.slice q m d);let⟨W1,fx,b1,z1,C1⟩:=Al W0;let⟨W2,fE,b2,z2,C2⟩:=xu W1 (.int .u64 e) (.int .u64 g) (.int .u64 x) (.int .i64 t) (.slice dN 0 0) (.slice dN 0 0);rw[z0]at C1 z1;rw[z1]at C2 z2;have Y2:=ag (show YB W2 (U w.heap) [.int .u64 e,.int .u64 g,.int .u64 x,.int .i64 t,.slice p n c,.slice q m d] [.int .u64 e,.int .u64 g,.int .u64 x,.int .i64 t,.slice dN 0 0,.slice dN 0 0]from⟨(C0.H b1).H b2,C1.H b2,C2⟩);have B2:=ag (ai (ai b0 b1) b2);go_in;go_wp2_with fail;rw[<-cI,<-fx,<-fE]
 go_loopw[4](λiv wr=>∃(k:Nat)(M:List aB)(Qk:List dV)(po:OA)(co:Nat),k<=n/\iv=.int .i64 k/\Le M k/\O (ss.take k=M)/\O (YB wr (U w.heap) [.int .u64 e,.int .u64 g,.int .u64 x,.int .i64 t,.slice p n c,.slice q m d] [.int .u64 e,.int .u64 g,.int .u64 x,.int .i64 t,.slice po k co,.slice dN 0 0])/\O (eh (U w.heap+1+1+1) wr (.slice po k co) M Qk)/\O (Below (U w.heap) w wr)/\O (U w.heap+1+1+1<=U wr.heap)) (λiv _=>n-(intOf iv).toNat)
 exact⟨0,[],[],dN,0,cO _,rfl,rfl,(by show _=_;simp),Y2,eh.nil _ _,B2,(by show _<=_;omega)⟩;{
 obtain⟨k,M,Qk,po,co,hk,rfl,eM,hM,hY,Aa,az,vN⟩:=hrel;have zr:=ae vN;have k0:=hY.1.cells;by_cases aH:k<n;{
 have cL:=bM k n;obtain⟨s,hs⟩:∃s,ss[k]?=Y s:=⟨_,bD (ae en▸aH)⟩;have E1:=ag (by rw[pZ,hs,ae hM];rfl:ss.take (k+1)=M++[s]);let⟨Im,Mt⟩:=ae gM s (bu hs);have Ss:=ag Mt;obtain⟨b,o,u,rfl,c0,c1,c2,hu⟩:=lI.get HR.1 hs;obtain⟨pu,cu,rfl,PM⟩:=hu;have RU:=ag (show qF w (.slice pu (J s.2.2) cu) s.2.2 from⟨pu,cu,rfl,PM⟩);let⟨nu,Zu⟩:=cG (J s.2.2);rw[ae Zu]at c2 RU Im;have d0:=λ(ob:Obj)=>al (al c0 az) ((aR (U wr.heap) wr).alloc aA ob);have d1:=λ(ob:Obj)=>al (al c1 az) ((aR (U wr.heap) wr).alloc aA ob);have d2:=λ(ob:Obj)=>al (al c2 az) ((aR (U wr.heap) wr).alloc aA ob);obtain⟨V1,xo,bv1,zv1,CV,-⟩:=bQ wr #[.int .u64 s.1,.int .i64 s.2.1,.slice pu nu cu] 97;have VC:=ag CV;have BV:=ag bv1;have i0:=al c0 az;have i1:=al c1 az;have i2:=al c2 az;go_wp2_with fail;rw[<-xo];let⟨V,dr⟩:=aG V1.drew;have cR:=lG dr;have BA:=ag (aR (U V.heap) V);have W:=ag (λ(v:G)(D:Below (U V.heap) V v)=>aF (aF (al (VC.1 0 _ rfl) (ai cR D)) (aF (al (VC.1 1 _ rfl) (ai cR D)) (al (VC.1 2 _ rfl) (ai cR D)))) (aF (YB.T hY (bH (ai (ai (ae BV) cR) D)) aj) (aF (eh.T Aa (bH (ai (ai (ae BV) cR) D))) (aF (ai (ae az) (ai (ai (ae BV) cR) D)) (ai (ai (ae BV) cR) D)))));have zA:=cR.size;refine Xg ?_;refine bI3 13 (S:=λw'=>(I w' ⟨U wr.heap,0,dN⟩=Y (.int .u64 s.1)/\I w' ⟨U wr.heap,1,dN⟩=Y (.int .i64 s.2.1)/\I w' ⟨U wr.heap,2,dN⟩=Y (.slice pu nu cu))/\I w' ⟨U w.heap+1+1,4,dN⟩=Y (.slice po k co)) (by rw[<-dr];exact⟨(ae W V aD).1,(ae W V aD).2.1.2.2.1.1 4 _ rfl⟩) (λhS=>?_);rw[<-dr]at hS⊢;refine tED 0 1 2 3 hS ?_;refine tED 4 5 6 7 hS ?_;refine BK 8 (λKK hK=>?_);refine jg (eo1 Zu (RU.H (ae W V BA).2.2.2.1) Im Ss) ?_;rintro r v1⟨pa,ca,rfl,oa,ke⟩;refine⟨_,rfl,?_⟩;have B1:=ag ke;have OA:=ag oa;have z1a:=ke.size;refine Hr hK ⟨(ae W v1 B1).1,(ae W v1 B1).2.1.2.2.1.1 4 _ rfl⟩ λhS=>?_;refine tEo 9 hS ?_;refine BK 10 (λKK hK=>?_);go_simp;obtain⟨Z,hZ,bZ,zZ,CZ,-⟩:=bQ v1 #[.int .u64 s.1,.int .i64 s.2.1,.slice pa nu ca] 97;rw[<-hZ];have B2:=ag (ai B1 bZ);have xz:=ag CZ;have TZ:=ag (mZ.T OA (bH bZ));refine Hr hK ⟨(ae W Z B2).1,(ae W Z B2).2.1.2.2.1.1 4 _ rfl⟩ λhS=>?_;obtain⟨-,YZ,SZ,ZQ,brZ⟩:=ae W Z B2;have zZ2:=B2.size;have hlz:J (M.zip Qk)=k:=by rw[Ub,SZ.len,ae eM];simp
 have H4:=gI YZ SZ ZQ brZ;refine BK 11 (λKK hK=>?_);refine aL7 aS aS is 3 underlying38 HI.1.1 HI.1.2.1 HI.1.2.2.1 HI.1.2.2.2 rfl bf (ag hlz) aS SZ.row (U v1.heap) (s,.slice pa nu ca) (cs:=[.int .u64 s.1,.int .i64 s.2.1,.slice pa nu ca]) aS rfl rfl (λj u hu=>xz.1 j u hu) (λu hu=>by simp at hu;obtain rfl|rfl|rfl:=hu<;>rfl) (λw' hf x c hx=>hx) af af af ?_;intro p' c' w9 Cm pM f9 _;have Jd:=ag (YB.T H4.1 f9 bf);have S9:=ag (eh.snoc H4.2.1 f9 (mZ.h TZ af:mZ (U w.heap+1+1+1) Z _ _) (λj Q' b' hq hb e2=>by have h1:=(TZ.lt b' e2).1;obtain⟨s',qO⟩:∃s',M[j]?=Y s':=⟨_,bD (Aa.len▸(bg.1 hq).1)⟩;have h2:=((Aa.tM j s' Q' qO hq).lt b' hb).2;omega) Cm)
 have B9:=ag (H4.2.2.1.grown pM af (λb' e=>aK (H4.2.1.row.lt b' e).1));have oz:∀b',(Value.slice po k co).ownBlock=Y b'->b'≠U wr.heap:=λb' e=>by have:=(Aa.row.lt b' e).2;omega
 have kX:=pM.block (U wr.heap) af (λe=>oz _ e.C rfl);have z9:=pM.size;refine Hr hK ⟨⟨(gj kX _).Z hS.1.1,(gj kX _).Z hS.1.2.1,(gj kX _).Z hS.1.2.2⟩,Jd.2.2.1.1 4 _ rfl⟩ λhS=>?_;refine tEo 12 hS ?_;refine BK 13 (λKK hK=>?_);have y4:=Jd.2.2.1.1 4 _ rfl;have yf:=Jd.2.2.1.2;go_simp;let⟨Y10,Og⟩:=YB.set Jd 4 aj (.slice p' (k+1) c');refine oGX hK (aH7 (Bp ?_));have Ju:=gI Y10 (S9.T Og) (B9.setCell (p:=⟨U w.heap+1+1,4,dN⟩) (by show U w.heap<=U w.heap+1+1;omega) (.slice p' (k+1) c')) Og.1;go_wp2;go_roundw;exact⟨k+1,_,_,p',c',af,by go_num,ag (by rw[dm,ae eM];rfl),E1,Ju.1,Ju.2.1,Ju.2.2.1,ag (aK Ju.2.2.2)⟩;exact cW};{
 have cL:=fq k n;obtain rfl:k=n:=af;have e1:=ae hM;rw[lY (by rw[ae en];omega)]at e1;subst e1;go_wp2_with fail
 go_loopw[6](λiv V9=>∃(j:Nat)(N:List ar)(qo:OA)(dx:Nat),j<=m/\iv=.int .i64 j/\Le N j/\O (ns.take j=N)/\O (YB V9 (U w.heap) [.int .u64 e,.int .u64 g,.int .u64 x,.int .i64 t,.slice p k c,.slice q m d] [.int .u64 e,.int .u64 g,.int .u64 x,.int .i64 t,.slice po k co,.slice qo j dx])/\O (eh (U w.heap+1+1+1) V9 (.slice po k co) ss Qk)/\O (dh (U w.heap) (U w.heap+1+1+1) V9 (.slice qo j dx) N)/\O (Below (U w.heap) w V9)/\O (U w.heap+1+1+1<=U V9.heap)) (λiv _=>m-(intOf iv).toNat)
 exact⟨0,[],dN,0,cO _,rfl,rfl,(by show _=_;simp),hY,Aa,RT.nil _ _ _ _ _,az,vN⟩;{
 obtain⟨j,N,qo,dx,hj,rfl,eN,hNt,hY,Aa,uT,az,vN⟩:=hrel;have zr:=ae vN;have k0:=hY.1.cells;by_cases DY:j<m;{have be4:=bM j m;obtain⟨nd,hx⟩:∃nd,ns[j]?=Y nd:=⟨_,bD (ae em▸DY)⟩;have E1:=ag (by rw[pZ,hx,ae hNt];rfl:ns.take (j+1)=N++[nd]);let⟨l0,l1,l4,l7⟩:=ae nL nd (bu hx);obtain⟨b,o,rfl,X⟩:=HR.2.at (by rw[ae em];omega);let⟨P0,P1,P4,P7,X⟩:=X j nd hx;obtain⟨p0,En,en0,-⟩:=id X.r0;obtain⟨p1,Rm,sK,-⟩:=id X.r1;obtain⟨p4,c4',en4,-⟩:=id X.r4;obtain⟨p7,c7',en7,-⟩:=id X.r7;subst en0 sK en4 en7;let⟨n0,f0⟩:=cG (J nd.A);let⟨n1,f1⟩:=cG (J nd.V);let⟨n4,f4⟩:=cG (J nd.y);let⟨n7,f7⟩:=cG (J nd.X);rw[ae f0,ae f1,ae f4,ae f7]at X;rw[ae f0]at l0;rw[ae f1]at l1;rw[ae f4]at l4;rw[ae f7]at l7;have SS:=ag (λ(v:G)(out:List dV)(hy:YB v (U w.heap) [.int .u64 e,.int .u64 g,.int .u64 x,.int .i64 t,.slice p k c,.slice (Y ⟨b,o,dN⟩) m d] out)(D:Below (U w.heap) w v)=>aF (hy.1.1.1 5 _ rfl) (aF (al X.c0 D) (aF (al X.c1 D) (aF (al X.c2 D) (aF (al X.c3 D) (aF (al X.c4 D) (aF (al X.c5 D) (aF (al X.c6 D) (al X.c7 D)))))))));have HRd:=ag (λ(v:G)(D:Below (U w.heap) w v)=>aF (X.r0.H D) (aF (X.r1.H D) (aF (X.r4.H D) (X.r7.H D))));go_wp2_with fail;let⟨V,dr⟩:=aG wr.drew;have cR:=lG dr;have BA:=ag (aR (U V.heap) V);have W:=ag (λ(v:G)(D:Below (U V.heap) V v)=>aF (ae SS v _ (YB.T hY (bH (ai cR D)) aj) (ai (ae az) (ai cR D))) (aF (YB.T hY (bH (ai cR D)) aj) (aF (eh.T Aa (bH (ai cR D))) (aF (dh.T uT (bH (ai cR D))) (ai (ae az) (ai cR D))))));have zA:=cR.size;refine Xg ?_;refine bI3 11 (S:=λw'=>(I w' ⟨U w.heap,5,dN⟩=Y (.slice (Y ⟨b,o,dN⟩) m d)/\I w' ⟨b,o+j*8,dN⟩=Y (.slice p0 n0 En)/\I w' ⟨b,o+j*8+1,dN⟩=Y (.slice p1 n1 Rm)/\I w' ⟨b,o+j*8+2,dN⟩=Y (.int .u64 nd.D)/\I w' ⟨b,o+j*8+3,dN⟩=Y (.int .i64 nd.M)/\I w' ⟨b,o+j*8+4,dN⟩=Y (.slice p4 n4 c4')/\I w' ⟨b,o+j*8+5,dN⟩=Y (.int .u64 nd.P)/\I w' ⟨b,o+j*8+6,dN⟩=Y (.int .u64 nd.F)/\I w' ⟨b,o+j*8+7,dN⟩=Y (.slice p7 n7 c7'))/\I w' ⟨U w.heap+1+1,5,dN⟩=Y (.slice qo j dx)) (by rw[<-dr];exact⟨(ae W V aD).1,(ae W V aD).2.1.2.2.1.1 5 _ rfl⟩) (λhS=>?_);rw[<-dr]at hS⊢;refine tED 0 1 2 3 hS ?_;refine tEn 4 hS ?_;refine tEn 5 hS ?_;refine tEn 6 hS ?_;refine BK 7 (λKK hK=>?_);refine Hj aS aS aS (λ_=>ae HCG _ _) (eB8 f0 f1 f4 f7 (ae HRd V (ae W V BA).2.2.2.2).1 (ae HRd V (ae W V BA).2.2.2.2).2.1 (ae HRd V (ae W V BA).2.2.2.2).2.2.1 (ae HRd V (ae W V BA).2.2.2.2).2.2.2 l0 l1 l4 l7) ?_;rintro r v1⟨q0,d0,q1,d1,q4,d4,q7,d7,rfl,t0,t1,t4,t7,ke⟩;refine⟨_,rfl,?_⟩;have B1:=ag ke;have OA:=gI (t0.h (B':=U w.heap) (by have:=az.size;have:=BA.size;omega)) (t1.h (B':=U w.heap) (by have:=az.size;have:=BA.size;omega)) (t4.h (B':=U w.heap) (by have:=az.size;have:=BA.size;omega)) (t7.h (B':=U w.heap) (by have:=az.size;have:=BA.size;omega));have z1a:=ke.size;refine Hr hK ⟨(ae W v1 B1).1,(ae W v1 B1).2.1.2.2.1.1 5 _ rfl⟩ λhS=>?_;refine BK 8 (λKK hK=>?_);go_simp;obtain⟨Z,hZ,bZ,zZ,CZ,-⟩:=bQ v1 #[.slice q0 n0 d0,.slice q1 n1 d1,.int .u64 nd.D,.int .i64 nd.M,.slice q4 n4 d4,.int .u64 nd.P,.int .u64 nd.F,.slice q7 n7 d7] 141;rw[<-hZ];have B2:=ag (ai B1 bZ);have xz:=ag CZ;have TZ:=gI (OA.1.T (bH bZ)) (OA.2.1.T (bH bZ)) (OA.2.2.1.T (bH bZ)) (OA.2.2.2.T (bH bZ));refine Hr hK ⟨(ae W Z B2).1,(ae W Z B2).2.1.2.2.1.1 5 _ rfl⟩ λhS=>?_;obtain⟨-,YZ,SZ,NZ,ZQ⟩:=ae W Z B2;have zZ2:=B2.size;have H4:=gI YZ SZ NZ ZQ;refine BK 9 (λKK hK=>?_);refine aL7 aS aS iN 8 underlying39 HI.2.1 HI.2.2.1 HI.2.2.2.1 HI.2.2.2.2 rfl bf eN aS NZ (U v1.heap) nd (cs:=[.slice q0 n0 d0,.slice q1 n1 d1,.int .u64 nd.D,.int .i64 nd.M,.slice q4 n4 d4,.int .u64 nd.P,.int .u64 nd.F,.slice q7 n7 d7]) aS ⟨_,_,_,_,rfl,TZ.1,TZ.2.1,TZ.2.2.1,TZ.2.2.2⟩ rfl (λj u hu=>xz.1 j u hu) (λu hu=>by simp at hu;obtain rfl|rfl|rfl|rfl|rfl|rfl|rfl|rfl:=hu<;>rfl) (λw' hf=>yk.T hf bf bf) af af af ?_;intro p' c' w9 Cm pM f9 _;have Jd:=ag (YB.T H4.1 f9 bf);have S9:=bG (H4.2.1.T f9) Cm;have B9:=ag (H4.2.2.2.grown pM af (λb' e=>aK (H4.2.2.1.lt b' e).1));have z9:=pM.size;refine Hr hK ⟨SS w9 _ Jd B9,Jd.2.2.1.1 5 _ rfl⟩ λhS=>?_;refine tEo 10 hS ?_;refine BK 11 (λKK hK=>?_);have y4:=Jd.2.2.1.1 5 _ rfl;have yf:=Jd.2.2.1.2;go_simp;let⟨Y10,Og⟩:=YB.set Jd 5 aj (.slice p' (j+1) c');have Ju:=mX Y10 (S9.1.T Og) (dh.T S9.2 Og) (B9.setCell (p:=⟨U w.heap+1+1,5,dN⟩) (by show U w.heap<=U w.heap+1+1;omega) (.slice p' (j+1) c')) Og.1;refine oGX hK (aH7 (Bp ?_));go_wp2;go_roundw;exact⟨j+1,_,p',c',af,by go_num,ag (by rw[dm,ae eN];rfl),E1,Ju.1,Ju.2.1,Ju.2.2.1,Ju.2.2.2.1,ag (aK Ju.2.2.2.2)⟩;exact cW};{
 have be4:=fq j m;obtain rfl:j=m:=af;have e2:=ae hNt;rw[lY (by rw[ae em];omega)]at e2;subst e2;let⟨y0,y1,y2,y3,y4,y5,yf⟩:=hY.2.2.cells;let⟨r0,r1,r2,r3,r4,r5,rf⟩:=hY.2.1.cells;have hb:=tR (w:=wr) (U w.heap+1) (.int .u64 e) (.int .u64 g) (.int .u64 x) (.int .i64 t) (.slice po k co) (.slice qo j dx);have hf:Fr [41] wr (gu wr (U w.heap+1) (.int .u64 e) (.int .u64 g) (.int .u64 x) (.int .i64 t) (.slice po k co) (.slice qo j dx)):=by obtain⟨-,cur,ht⟩:=hY.2.1;exact vx ht
 have HF:=bG hb hf;go_wp2;refine cg (v:=bS e g x t (.slice po k co) (.slice qo j dx)) (by simp[results,results51,go_sem,r0,r1,r2,r3,r4,r5]) rfl ?_;exact⟨po,co,qo,dx,rfl,⟨Qk,(Aa.T HF.2).h af⟩,RT.h (dh.T uT HF.2) af,az.Z (HF.1.h af)⟩}}}}
def CU{v:G}(h:Bw w v:=by repeat(first|exact aR _ _|assumption|refine ai ?_ (aD.alloc aA _)|refine ai ?_ (by assumption))):Bw w v:=h
def SzP(n:Nat)(L:Int)(w:G)(e:Ending)(w':G):Prop:=(∃R:Int,e=dR (.I R)/\(R=-1\/(0<=R/\R+n=L)))/\Bw w w'
def mG(f:Nat)(V:dV)(n:Nat)(w:G):Prop:=∀(v:G)(L:Int),Bw w v->0<=L->L<=1048576->dQ dG f #[V,.I L] v (SzP n L v)
def SzP.one{L R:Int}(h:R=-1\/(0<=R/\R+n=L))(b:Bw w w'):SzP n L w (dR (.I R)) w':=⟨⟨R,rfl,h⟩,b⟩
def Tl(i:n<=maxLen):mG 81 (.S p n c) n w:=λv L _ m j=>
 (aL1 (p:=p) (cap:=c) (w:=v) i m j).h λe o h=>by rw[h.1,h.2];exact .one (by unfold BN;split<;>omega) aD
def bL4(i:n<=maxLen):mG 147 (.S p n c) n w:=λv L _ m j=>by
 unfold maxLen at i;by_cases h:L-n<0
 all_goals(
  go_enter func147,ntmps147;go_wp2;go_ret;exact .one af aD)
def tt0{v:G}(i:Below (U (v.alloc o).heap) (v.alloc o) w):w.heap[U v.heap]?=o:=(i.block _ (by simp)).Z (by show(v.heap.push _)[U v.heap]?=_;simp)
def tt1(h:w.heap[b]?=o)(i:Bw w w'):w'.heap[b]?=o:=(i.block _ (sF h)).Z h
theorem Ov{p:Prop}(h:p:=by
  intro v L hw h0 h1;go_in
  repeat(
   go_wp2_with fail
   first
    |(refine JX (x1 _ _ CU af af) ?_;clear x1)
    |(refine JX (x2 _ _ CU af af) ?_;clear x2)
    |(refine JX (x3 _ _ CU af af) ?_;clear x3)
    |(refine JX (x4 _ _ CU af af) ?_;clear x4)
   rintro _ _⟨⟨R,rfl,hR⟩,hb⟩;obtain rfl|⟨hR,hs⟩:=hR;{go_wp2;go_ret;exact .one (.L rfl) CU};have hn:¬R<0:=af
   first
    |have TT:=ag (tt1 TT hb)
    |have TT:=ag (tt0 hb)
   have n0:=cK TT 0;have n1:=cK TT 1;have n2:=cK TT 2;have n3:=cK TT 3;have n4:=cK TT 4;have n5:=cK TT 5;have n6:=cK TT 6;have n7:=cK TT 7;have n8:=cK TT 8;have n9:=cK TT 9;have na:=cK TT 10;have nb:=cK TT 11;have nc:=cK TT 12;simp at n0 n1 n2 n3 n4 n5 n6 n7 n8 n9 na nb nc)
  go_wp2;go_ret;exact .one (.R af) CU):p:=h
theorem szL{p:Prop}(h:p:=by
  intro v L hw h0 h1;unfold maxLen at hn;by_cases UF:L-n<0;{go_in;go_wp2;go_ret;exact .one (.L rfl) CU};{
 obtain⟨L0,ZF⟩:∃L0:Int,L-n=L0:=⟨_,rfl⟩;have hL0:¬L0<0:=af;have wL:IntKind.i64.wrap L0=L0:=kP _ af;have vR:n<=1048576:=af;have hL1:L0<=1048576:=af;have EL:=ag ZF;go_in;go_wp2_with fail;clear ZF
 go_loopw[1,5](λlv iv wr=>∃(k:Nat)(M:Int),k<=n/\iv=.I k/\lv=.I M/\0<=M/\M<=1048576/\O (M+n+S k=L)/\Bw v wr) (λ_ iv _=>n-(intOf iv).toNat)
 {exact⟨0,L0,cO _,rfl,rfl,af,af,(by show _=_;rw[z0];have:=ae EL;omega),aR _ _⟩};{
 obtain⟨k,M,hk,rfl,rfl,hM,hM2,hs,hb⟩:=hrel;by_cases aH:k<n;{
 have cL:=bM k n;obtain⟨b,o,a,rfl,ha,H⟩:=ae xE _ (ai hw hb) k aH;have HA:=ag ha;clear ha
 first
  |obtain⟨v0,v1,v2,v3,v4,v5,v6,v7,c0,c1,c2,c3,c4,c5,c6,c7,hx⟩:=H
  |obtain⟨v0,v1,v2,c0,c1,c2,hx⟩:=H
  |obtain⟨v0,v1,c0,c1,hx⟩:=H
 go_wp2_with fail;refine JX (hx _ _ CU hM hM2) ?_;rintro _ w2⟨⟨R,rfl,hR⟩,ay⟩;have b2:=ai hb ay;clear ay;obtain rfl|⟨hR,vP⟩:=hR;{go_wp2;go_ret;exact .one (.L rfl) b2};{
 have sH:¬R<0:=af;have QE:R<=1048576:=af;have e2:O (R+n+S (k+1)=L):=by show _=_;have:=ae hs;have:=ae HA;omega
 clear vP;go_wp2;go_roundw;{exact⟨k+1,R,af,by go_num,rfl,hR,QE,e2,b2⟩};{simp[intOf];omega}}};{have cL:=fq k n;obtain rfl:k=n:=af;go_wp2;go_ret;exact .one (.R ⟨hM,aK (ae hs)⟩) hb}}}):p:=h
variable {K:Int}
def dd1(x1:mG 81 (.S p n c) n w):mG 205 (.agg #[.I K,.S p n c]) n w:=Ov
def dd2(hn:n<=maxLen)(z0:S 0=0)(xE:O (∀u,Bw w u->∀k,k<n->∃b o a,p=(Ad b o)/\S (k+1)=S k+a/\∃v0 v1,I u (Ad b (o+k*2))=Y v0/\I u (Ad b (o+k*2+1))=Y v1/\mG 205 (.agg #[v0,v1]) a w)):mG 146 (.S p n c) (n+S n) w:=szL
def dc5(hn:n<=maxLen)(z0:S 0=0)(xE:O (∀u,Bw w u->∀k,k<n->∃b o a,p=(Ad b o)/\S (k+1)=S k+a/\∃v0 v1 v2,I u (Ad b (o+k*3))=Y v0/\I u (Ad b (o+k*3+1))=Y v1/\I u (Ad b (o+k*3+2))=Y v2/\mG 82 (.agg #[v0,v1,v2]) a w)):mG 42 (.S p n c) (n+S n) w:=szL
def dc9(hn:n<=maxLen)(z0:S 0=0)(xE:O (∀u,Bw w u->∀k,k<n->∃b o a,p=(Ad b o)/\S (k+1)=S k+a/\∃v0 v1 v2 v3 v4 v5 v6 v7,I u (Ad b (o+k*8))=Y v0/\I u (Ad b (o+k*8+1))=Y v1/\I u (Ad b (o+k*8+2))=Y v2/\I u (Ad b (o+k*8+3))=Y v3/\I u (Ad b (o+k*8+4))=Y v4/\I u (Ad b (o+k*8+5))=Y v5/\I u (Ad b (o+k*8+6))=Y v6/\I u (Ad b (o+k*8+7))=Y v7/\mG 83 (.agg #[v0,v1,v2,v3,v4,v5,v6,v7]) a w)):mG 43 (.S p n c) (n+S n) w:=szL
def dc4(x1:mG 146 (.S p n c) N w):mG 82 (.agg #[.U iI,.I D,.S p n c]) N w:=Ov
def dc8{r s:OA}{e l f:Nat}{i M iG:Int}(x1:mG 81 (.S p n c) n w)(x2:mG 81 (.S q m d) m w)(x3:mG 147 (.S r k e) k w)(x4:mG 147 (.S s l f) l w):mG 83 (.agg #[.S p n c,.S q m d,.U i,.I M,.S r k e,.U E,.U iG,.S s l f]) (n+m+k+l) w:=Ov
def dc3(x1:mG 42 (.S p n c) N w)(x2:mG 43 (.S q m d) M w):mG 15 (bS e g x t (.S p n c) (.S q m d)) (N+M) w:=Ov
variable {s:Int}
def aL0(x1:mG 81 (.S p n c) n w):mG 41 (.agg #[.S p n c,.I s]) n w:=Ov
def dd4{r:OA}{e:Nat}{u:Int}(x1:mG 41 (.agg #[.S p n c,.I s]) n w)(x2:mG 41 (.agg #[.S q m d,.I t]) m w)(x3:mG 41 (.agg #[.S r k e,.I u]) k w):mG 14 (mV (.S p n c) s (.S q m d) t (.S r k e) u) (n+m+k) w:=Ov
def dd3{l:List Ev}(h:qF w v l)(q:J l<=maxLen)(he:∀y∈l,J y.2<=maxLen):∃p c,v=.S p (J l) c/\mG 146 (.S p (J l) c) (J l+ji (λe:Ev=>J e.2) l) w:=by
 obtain⟨p,c,rfl,-⟩:=id h;have:=dd2 (p:=p) (c:=c) (S:=λk=>ji (λe:Ev=>J e.2) (l.take k)) q (aL3 _ _) (ag λu s k r=>by have i:=bD r;let⟨b,o,iU,e,D,B,j⟩:=(h.H s).get i;obtain⟨E,M,m,rfl,x⟩:=j.dy;obtain rfl:=ae x;exact⟨b,o,_,e,ah7 _ i,_,_,D,B,dd1 (Tl (he _ (bu i)))⟩)
 rw[wV]at this;exact⟨p,c,rfl,this⟩
def dc7{l:List aB}(h:lI w v l)(q:J l<=maxLen)(he:∀y∈l,J y.2.2<=maxLen/\∀e∈y.2.2,J e.2<=maxLen):∃p c,v=.S p (J l) c/\mG 42 (.S p (J l) c) (J l+ji JD l) w:=by
 obtain⟨p,c,rfl,-⟩:=id h;have:=dc5 (p:=p) (c:=c) (S:=λk=>ji JD (l.take k)) q (aL3 _ _) (ag λu j k r=>by have i:=bD r;have hm:=he _ (bu i);let⟨b,o,iU,e,D,B,s,m⟩:=h.get i;obtain⟨E,M,rfl,x⟩:=dd3 m hm.1 hm.2;exact⟨b,o,_,e,ah7 _ i,_,_,_,al D j,al B j,al s j,dc4 x⟩)
 rw[wV]at this;exact⟨p,c,rfl,this⟩
def dd0{l:List ar}(h:gJ w v l)(m:J l<=maxLen)(he:∀y∈l,J y.A<=maxLen/\J y.V<=maxLen/\J y.y<=maxLen/\J y.X<=maxLen):∃p c,v=.S p (J l) c/\mG 43 (.S p (J l) c) (J l+ji JE l) w:=by
 obtain⟨p,c,rfl,-⟩:=id h;have:=dc9 (p:=p) (c:=c) (S:=λk=>ji JE (l.take k)) m (aL3 _ _) (ag λu r k q=>by have j:=bD q;have hm:=he _ (bu j);let⟨b,o,e,i⟩:=(h.H r).at af;let⟨P,V,H,iU,i⟩:=i k _ j;obtain⟨pp,pc,pn,rfl,D⟩:=i.r0.dy;obtain⟨vp,X,W,rfl,B⟩:=i.r1.dy;obtain⟨hp,hc,hn,rfl,x⟩:=i.r4.dy;obtain⟨Z,uc,un,rfl,s⟩:=i.r7.dy;have R:=ae D;have N:=ae B;have M:=ae x;have E:=ae s;subst R N M E;exact⟨b,o,_,e,ah7 _ j,_,_,_,_,_,_,_,_,i.c0,i.c1,i.c2,i.c3,i.c4,i.c5,i.c6,i.c7,dc8 (Tl hm.1) (Tl hm.2.1) (bL4 hm.2.2.1) (bL4 hm.2.2.2)⟩)
 rw[wV]at this;exact⟨p,c,rfl,this⟩
def tt2{v:G}{a b:Obj}(i:Below (U ((v.alloc a).alloc b).heap) ((v.alloc a).alloc b) w):w.heap[U v.heap]?=a:=tt0 (ai (aD.alloc aA _) i)
def sR(f:Nat)(V iU:dV)(w:G):Prop:=∀v:G,Bw w v->dQ dG f #[V,iU] v λr i=>r=dR (.bool dY)/\Bw v i
theorem Q5{p:Prop}(h:p:=by
  intro v hw;go_in
  repeat(
   go_wp2_with fail
   first
    |(refine JX (x1 _ CU) ?_;clear x1)
    |(refine JX (x2 _ CU) ?_;clear x2)
    |(refine JX (x3 _ CU) ?_;clear x3)
    |(refine JX (x4 _ CU) ?_;clear x4)
   rintro _ _⟨rfl,hb⟩
   first
    |(have TA:=ag (tt1 TA hb);have TB:=ag (tt1 TB hb))
    |(have TA:=ag (tt2 hb);have TB:=ag (tt0 hb))
   have n0:=cK TA 0;have n1:=cK TA 1;have n2:=cK TA 2;have n3:=cK TA 3;have n4:=cK TA 4;have n5:=cK TA 5;have n6:=cK TA 6;have n7:=cK TA 7;have n8:=cK TA 8;have n9:=cK TA 9;have na:=cK TA 10;have nb:=cK TA 11;have nc:=cK TA 12;have m0:=cK TB 0;have m1:=cK TB 1;have m2:=cK TB 2;have m3:=cK TB 3;have m4:=cK TB 4;have m5:=cK TB 5;have m6:=cK TB 6;have m7:=cK TB 7;have m8:=cK TB 8;have m9:=cK TB 9;have ma:=cK TB 10;have mb:=cK TB 11;have mc:=cK TB 12;simp at n0 n1 n2 n3 n4 n5 n6 n7 n8 n9 na nb nc m0 m1 m2 m3 m4 m5 m6 m7 m8 m9 ma mb mc)
  go_wp2;go_ret;exact⟨rfl,CU⟩):p:=h
def bo5(x1:sR 28 (.S p n c) (.S q n d) w):sR 71 (.agg #[.S p n c,.I s]) (.agg #[.S q n d,.I s]) w:=Q5
def eq6{m j i:OA}{o:Nat}{s0 s1 s2:Int}(x1:sR 71 (.agg #[.S p0 n0 c0,.I s0]) (.agg #[.S m n0 o,.I s0]) w)(x2:sR 71 (.agg #[.S p1 n1 c1,.I s1]) (.agg #[.S j n1 d1,.I s1]) w)(x3:sR 71 (.agg #[.S p2 n2 c2,.I s2]) (.agg #[.S i n2 d2,.I s2]) w):sR 26 (mV (.S p0 n0 c0) s0 (.S p1 n1 c1) s1 (.S p2 n2 c2) s2) (mV (.S m n0 o) s0 (.S j n1 d1) s1 (.S i n2 d2) s2) w:=Q5
def eq5(x1:sR 28 (.S p n c) (.S q n d) w):sR 74 (.agg #[.I K,.S p n c]) (.agg #[.I K,.S q n d]) w:=Q5
def ep6(x1:sR 30 (.S p n c) (.S q n d) w):sR 142 (.agg #[.U iI,.I D,.S p n c]) (.agg #[.U iI,.I D,.S q n d]) w:=Q5
def eq3{i j o m:Int}(x1:sR 28 (.S pp n1 a1) (.S qp n1 d1) w)(x2:sR 28 (.S pv n2 a2) (.S qv n2 d2) w)(x3:sR 204 (.S ph n3 a3) (.S qh n3 d3) w)(x4:sR 204 (.S pu n4 a4) (.S qu n4 d4) w):sR 143 (Cc (.S pp n1 a1) (.S pv n2 a2) i j (.S ph n3 a3) o m (.S pu n4 a4)) (Cc (.S qp n1 d1) (.S qv n2 d2) i j (.S qh n3 d3) o m (.S qu n4 d4)) w:=Q5
def ep3{i q':OA}{o j:Nat}(x1:sR 72 (.S p n c) (.S i n o) w)(x2:sR 73 (.S q m d) (.S q' m j) w):sR 27 (bS e g x t (.S p n c) (.S q m d)) (bS e g x t (.S i n o) (.S q' m j)) w:=Q5
def cy3(V:Le l n)(u:iZ w (.S p n c) l)(s:iZ w (.S q n d) l)(hn:Mg n):dQ dG 204 #[.S p n c,.S q n d] w (Rb (.bool dY) w):=by
 have x:=ag λ(B:G)(r:Bw w B)=>aF (u.H r) (s.H r);have aN:((n:Int) != (n:Int))=dF:=aj;go_in;go_wp2
 go_loopw[5](λi wr=>∃k:Nat,k<=n/\i=.I k/\Bw w wr) (λi _=>n-(intOf i).toNat)
 exact⟨0,cO _,rfl,aR _ _⟩;{
 obtain⟨k,hk,rfl,m⟩:=hrel;by_cases W:k<n;{
 have i1:=bM k n;have j:k<J l:=ae V▸W;have key:∀(p:OA)(c:Nat),iZ wr (.S p n c) l->∃b o,p=(Ad b o)/\I wr (Ad b (o+k))=dU (l.getD k 0):=λp c h=>by obtain⟨X,c',ev,D⟩:=h;obtain⟨rfl,-,-⟩:=jJ ev;obtain E|⟨b,o,u,s⟩:=D;{rw[E]at j;simp at j};{exact⟨b,o,u,s k j⟩}
 obtain⟨b1,o1,rfl,N⟩:=key p c (ae x _ m).1;obtain⟨b2,Z,rfl,M⟩:=key q d (ae x _ m).2;let⟨y,R⟩:=aY (l.getD k 0);rw[R]at N M;have r:(y != y)=dF:=aj;go_wp2
 go_quiet (fail)
 go_wp2;go_roundw;exact⟨k+1,af,by go_num,below_drewN m⟩;exact cW};{have j:=fq k n;go_wp2;go_ret;exact⟨rfl,m⟩}}
variable {P:LI}
def eq4(o:Le P n)(m:Rd w (.S p n c) P)(j:Rd w (.S q n d) P)(r:Mg n):Cp 74 #[.agg #[.I K,.S p n c],.agg #[.I K,.S q n d]] w (Rb (.bool dY) w):=
 eq5 (λv i=>Zt o (m.H i) (j.H i) af) w aD
def cy5{l:List Ev}(en:Le l n)(h1:qF w (.S p n c) l)(h2:qF w (.S q n d) l)(hn:Mg n)(iL:O (∀y∈l,J y.2<=1048576)):dQ dG 30 #[.S p n c,.S q n d] w (Rb (.bool dY) w):=by
 have HR:=ag λ(w':G)(hb:Bw w w')=>aF (h1.H hb) (h2.H hb);have aN:((n:Int) != (n:Int))=dF:=aj;go_in;go_wp2_with fail
 go_loopw[5](λi wr=>∃k:Nat,k<=n/\i=.I k/\Bw w wr) (λi _=>n-(intOf i).toNat)
 exact⟨0,cO _,rfl,aR _ _⟩;{
 obtain⟨k,hk,rfl,B⟩:=hrel;by_cases aH:k<n;{
 have i1:=bM k n;have s:k<J l:=ae en▸aH;let⟨y,Z⟩:=nR s;have cQ:=ae iL y (bu Z);obtain⟨K,P⟩:=y;have key:∀(p:OA)(c:Nat),qF wr (.S p n c) l->∃b o,p=(Ad b o)/\I wr (Ad b (o+k*2))=dI K/\∃u,I wr (Ad b (o+k*2+1))=Y u/\Rd wr u P:=λp c h=>by obtain⟨p',c',ev,hd⟩:=h;obtain⟨rfl,-,-⟩:=jJ ev;obtain h0|⟨b,o,h1,h2⟩:=hd;{rw[h0]at s;simp at s};{exact⟨b,o,h1,h2 k _ Z⟩}
 obtain⟨b1,X,rfl,z1,u1,V,M⟩:=key p c (ae HR _ B).1;obtain⟨x,W,rfl,x1,u2,x2,D⟩:=key q d (ae HR _ B).2;obtain⟨p1,c1,rfl,-⟩:=id M;obtain⟨p2,c2,rfl,-⟩:=id D;let⟨m,N⟩:=aY (J P);rw[N]at M D V x2;have hm:m<=1048576:=N▸cQ;have EM:=ag N;have Ln:=bG M D;have K0:=gI z1 V x1 x2;go_wp2_with fail;refine fk (λw'=>I w' (Ad b1 (X+k*2))=dI K/\I w' (Ad b1 (X+k*2+1))=dS p1 m c1/\I w' (Ad x (W+k*2))=dI K/\I w' (Ad x (W+k*2+1))=dS p2 m c2) (by exact K0) λhS=>?_;refine iR 0 1 2 3 4 5 6 7 hS ?_;refine ew 8 λKK hK=>?_;refine wD (eq4 EM (Ln.1.H aD.drew) (Ln.2.H aD.drew) hm) ?_;rintro r w2⟨rfl,ay⟩;refine⟨_,rfl,?_⟩;have j:Bw wr w2:=ai (aR (U wr.heap) wr).drew ay;refine bL hK (by obtain⟨k0,k1,k2,k3⟩:=ae K0;exact⟨al k0 j,al k1 j,al k2 j,al k3 j⟩) λhS=>?_;refine tn 9 hS ?_;refine fy ?_;have x:=ai B j;go_wp2;go_roundw;exact⟨k+1,af,by go_num,x⟩;exact cW};{have s:=fq k n;go_wp2;go_ret;exact⟨rfl,B⟩}}
def ep4{Q:List Ev}(s:Le Q n)(r:qF w (.S p n c) Q)(o:qF w (.S q n d) Q)(m:Mg n)(j:O (∀y∈Q,J y.2<=1048576)):Cp 142 #[.agg #[.U iI,.I D,.S p n c],.agg #[.U iI,.I D,.S q n d]] w (Rb (.bool dY) w):=
 ep6 (λv i=>cy5 s (r.H i) (o.H i) m j) w aD
def ep5{l:List aB}(en:Le l n)(h1:lI w (.S p n c) l)(h2:lI w (.S q n d) l)(hn:Mg n)(iL:O (∀y∈l,J y.2.2<=1048576/\∀e∈y.2.2,J e.2<=1048576)):dQ dG 72 #[.S p n c,.S q n d] w (Rb (.bool dY) w):=by
 have HR:=ag λ(w':G)(hb:Bw w w')=>aF (h1.H hb) (h2.H hb);have aN:((n:Int) != (n:Int))=dF:=aj;go_in;go_wp2_with fail
 go_loopw[5](λi wr=>∃k:Nat,k<=n/\i=.I k/\Bw w wr) (λi _=>n-(intOf i).toNat)
 exact⟨0,cO _,rfl,aR _ _⟩;{
 obtain⟨k,hk,rfl,B⟩:=hrel;by_cases aH:k<n;{
 have i1:=bM k n;have x:k<J l:=ae en▸aH;let⟨y,hy⟩:=nR x;have cQ:=ae iL y (bu hy);obtain⟨X,D,Q⟩:=y;have key:∀(p:OA)(c:Nat),lI wr (.S p n c) l->∃b o,p=(Ad b o)/\I wr (Ad b (o+k*3))=dU X/\I wr (Ad b (o+k*3+1))=dI D/\∃u,I wr (Ad b (o+k*3+2))=Y u/\qF wr u Q:=λp c h=>by obtain⟨p',c',ev,hd⟩:=h;obtain⟨rfl,-,-⟩:=jJ ev;obtain h0|⟨b,o,h1,h2⟩:=hd;{rw[h0]at x;simp at x};{exact⟨b,o,h1,h2 k _ hy⟩}
 obtain⟨b1,W,rfl,z1,z2,u1,z3,N⟩:=key p c (ae HR _ B).1;obtain⟨s,V,rfl,x1,x2,u2,x3,M⟩:=key q d (ae HR _ B).2;obtain⟨p1,c1,rfl,-⟩:=id N;obtain⟨p2,c2,rfl,-⟩:=id M;let⟨m,Z⟩:=aY (J Q);rw[Z]at N M z3 x3;have hm:m<=1048576:=Z▸cQ.1;have EM:=ag Z;have HEL:O (∀y∈Q,J y.2<=1048576):=cQ.2;have Ln:=bG N M;have K0:=Nw z1 z2 z3 x1 x2 x3;go_wp2_with fail;refine fk (λw'=>I w' (Ad b1 (W+k*3))=dU X/\I w' (Ad b1 (W+k*3+1))=dI D/\I w' (Ad b1 (W+k*3+2))=dS p1 m c1/\I w' (Ad s (V+k*3))=dU X/\I w' (Ad s (V+k*3+1))=dI D/\I w' (Ad s (V+k*3+2))=dS p2 m c2) (by exact K0) λhS=>?_;refine iR 0 1 2 3 4 5 6 7 hS ?_;refine ew 8 λKK hK=>?_;refine wD (ep4 EM (Ln.1.H aD.drew) (Ln.2.H aD.drew) hm HEL) ?_;rintro r w2⟨rfl,ay⟩;refine⟨_,rfl,?_⟩;have j:Bw wr w2:=ai (aR (U wr.heap) wr).drew ay;refine bL hK (by obtain⟨k0,k1,k2,k3,k4,k5⟩:=ae K0;exact⟨al k0 j,al k1 j,al k2 j,al k3 j,al k4 j,al k5 j⟩) λhS=>?_;refine tn 9 hS ?_;refine fy ?_;have s:=ai B j;go_wp2;go_roundw;exact⟨k+1,af,by go_num,s⟩;exact cW};{have x:=fq k n;go_wp2;go_ret;exact⟨rfl,B⟩}}
def ep9{o q s r:Int}{P V H iU:LI}(E:Le P n1)(D:Le V n2)(B:Le H n3)(y:Le iU n4) (m:Rd w (.S pp n1 a1) P/\Rd w (.S pv n2 a2) V/\iZ w (.S ph n3 a3) H/\iZ w (.S pu n4 a4) iU)(j:Rd w (.S qp n1 d1) P/\Rd w (.S qv n2 d2) V/\iZ w (.S qh n3 d3) H/\iZ w (.S qu n4 d4) iU)(N:Mg n1)(M:Mg n2)(x:Mg n3)(u:Mg n4):Cp 143 #[Cc (.S pp n1 a1) (.S pv n2 a2) o q (.S ph n3 a3) s r (.S pu n4 a4),Cc (.S qp n1 d1) (.S qv n2 d2) o q (.S qh n3 d3) s r (.S qu n4 d4)] w (Rb (.bool dY) w):=
 eq3 (λv i=>Zt E (m.1.H i) (j.1.H i) af) (λv i=>Zt D (m.2.1.H i) (j.2.1.H i) af) (λv i=>cy3 B (m.2.2.1.H i) (j.2.2.1.H i) x) (λv i=>cy3 y (m.2.2.2.H i) (j.2.2.2.H i) u) w aD
def eq0{l:List ar}(en:Le l n)(h1:gJ w (.S p n c) l)(h2:gJ w (.S q n d) l)(hn:Mg n)(iL:O (∀y∈l,J y.A<=1048576/\J y.V<=1048576/\J y.y<=1048576/\J y.X<=1048576)):dQ dG 73 #[.S p n c,.S q n d] w (Rb (.bool dY) w):=by
 have HR:=ag λ(w':G)(hb:Bw w w')=>aF (h1.H hb) (h2.H hb);have aN:((n:Int) != (n:Int))=dF:=aj;go_in;go_wp2_with fail
 go_loopw[5](λi wr=>∃k:Nat,k<=n/\i=.I k/\Bw w wr) (λi _=>n-(intOf i).toNat)
 exact⟨0,cO _,rfl,aR _ _⟩;{obtain⟨k,hk,rfl,Z⟩:=hrel;by_cases aH:k<n;{have i1:=bM k n;have bR:k<J l:=ae en▸aH;let⟨y,hy⟩:=nR bR;have X:=ae iL y (bu hy);obtain⟨D,B,rfl,hA⟩:=(ae HR _ Z).1.at af;obtain⟨m,x,rfl,hB⟩:=(ae HR _ Z).2.at af;let⟨P1,V1,H1,U1,u⟩:=hA k y hy;let⟨P2,V2,H2,U2,s⟩:=hB k y hy;obtain⟨pp,a1,W,rfl,e1⟩:=u.r0.dy;obtain⟨pv,a2,V,rfl,e2⟩:=u.r1.dy;obtain⟨ph,a3,N,rfl,e3⟩:=u.r4.dy;obtain⟨pu,a4,M,rfl,e4⟩:=u.r7.dy;obtain⟨qp,d1,n1',rfl,e1'⟩:=s.r0.dy;obtain⟨qv,d2,n2',rfl,e2'⟩:=s.r1.dy;obtain⟨qh,d3,n3',rfl,e3'⟩:=s.r4.dy;obtain⟨qu,d4,n4',rfl,e4'⟩:=s.r7.dy;obtain rfl:W=n1':=e1.C.Z e1';obtain rfl:V=n2':=e2.C.Z e2';obtain rfl:N=n3':=e3.C.Z e3';obtain rfl:M=n4':=e4.C.Z e4';have m1:W<=1048576:=ae e1▸X.1;have m2:V<=1048576:=ae e2▸X.2.1;have m3:N<=1048576:=ae e3▸X.2.2.1;have m4:M<=1048576:=ae e4▸X.2.2.2;have HA:=gI u.r0 u.r1 u.r4 u.r7;have HB:=gI s.r0 s.r1 s.r4 s.r7;obtain⟨z0,z1,z2,z3,z4,z5,z6,z7,-,-,-,-,-⟩:=u;obtain⟨x0,x1,x2,x3,x4,x5,x6,x7,-,-,-,-,-⟩:=s;obtain⟨ow,mo,ep,ge,g1,g2,g3,g4⟩:∃a b c d,y.D=a/\y.M=b/\y.P=c/\y.F=d:=⟨_,_,_,_,rfl,rfl,rfl,rfl⟩;rw[g1]at z2 x2;rw[g2]at z3 x3;rw[g3]at z5 x5;rw[g4]at z6 x6;have K0:=gI z0 z1 z2 (aF z3 (aF z4 (aF z5 (aF z6 (aF z7 (aF x0 (aF x1 (aF x2 (aF x3 (aF x4 (aF x5 (aF x6 x7))))))))))));go_wp2_with fail;refine fk (λw'=>I w' (Ad D (B+k*8))=dS pp W a1/\I w' (Ad D (B+k*8+1))=dS pv V a2/\I w' (Ad D (B+k*8+2))=dU ow/\I w' (Ad D (B+k*8+3))=dI mo/\I w' (Ad D (B+k*8+4))=dS ph N a3/\I w' (Ad D (B+k*8+5))=dU ep/\I w' (Ad D (B+k*8+6))=dU ge/\I w' (Ad D (B+k*8+7))=dS pu M a4/\I w' (Ad m (x+k*8))=dS qp W d1/\I w' (Ad m (x+k*8+1))=dS qv V d2/\I w' (Ad m (x+k*8+2))=dU ow/\I w' (Ad m (x+k*8+3))=dI mo/\I w' (Ad m (x+k*8+4))=dS qh N d3/\I w' (Ad m (x+k*8+5))=dU ep/\I w' (Ad m (x+k*8+6))=dU ge/\I w' (Ad m (x+k*8+7))=dS qu M d4) (by exact K0) λhS=>?_;refine iR 0 1 2 3 4 5 6 7 hS ?_;refine ew 8 λKK hK=>?_;refine wD (ep9 e1 e2 e3 e4 ⟨HA.1.H aD.drew,HA.2.1.H aD.drew,HA.2.2.1.H aD.drew,HA.2.2.2.H aD.drew⟩ ⟨HB.1.H aD.drew,HB.2.1.H aD.drew,HB.2.2.1.H aD.drew,HB.2.2.2.H aD.drew⟩ m1 m2 m3 m4) ?_;rintro r w2⟨rfl,ay⟩;refine⟨_,rfl,?_⟩;have j:Bw wr w2:=ai (aR (U wr.heap) wr).drew ay;refine bL hK (by obtain⟨k0,k1,k2,k3,k4,k5,k6,k7,k8,k9,XQ,XP,k12,k13,k14,k15⟩:=ae K0;exact⟨al k0 j,al k1 j,al k2 j,al k3 j,al k4 j,al k5 j,al k6 j,al k7 j,al k8 j,al k9 j,al XQ j,al XP j,al k12 j,al k13 j,al k14 j,al k15 j⟩) λhS=>?_;refine tn 9 hS ?_;refine fy ?_;have m:=ai Z j;go_wp2;go_roundw;exact⟨k+1,af,by go_num,m⟩;exact cW};{have bR:=fq k n;go_wp2;go_ret;exact⟨rfl,Z⟩}}
def eo9(e g x t:Int)(p q r q':OA)(c n d m u s:Nat)(ss:List aB)(ns:List ar)(N:Le ss n)(R:Le ns m)(w:G)(h:lI w (.S p n c) ss)(E:gJ w (.S q m d) ns)(M:lI w (.S r n u) ss)(B:gJ w (.S q' m s) ns)(D:Mg n)(hm:Mg m)(o:O (∀y∈ss,J y.2.2<=1048576/\∀e∈y.2.2,J e.2<=1048576))(j:O (∀y∈ns,J y.A<=1048576/\J y.V<=1048576/\J y.y<=1048576/\J y.X<=1048576)):Cp 27 #[bS e g x t (.S p n c) (.S q m d),bS e g x t (.S r n u) (.S q' m s)] w (Rb (.bool dY) w):=
 ep3 (λv i=>ep5 N (h.H i) (M.H i) D o) (λv i=>eq0 R (E.H i) (B.H i) hm j) w aD
def cw6(q:1<=k)(o:k<=13)(h:qR k s f n m e g):0<=f/\f<=2:=by
 unfold qR Bf at h;simp only[gL,jX]at h;obtain⟨-,-,j,i,-⟩:=h;obtain rfl|rfl|rfl|rfl|rfl|rfl|rfl|rfl|rfl|rfl|rfl|rfl|rfl:=kinds q o<;>simp[rowOf]at j i<;>omega
def lp.bt5{v5 v6:dV}(h:lp w b v0 v1 v2 v3 v4 v5 v6)(j:Below B w w')(i:b<B):lp w' b v0 v1 v2 v3 v4 v5 v6:=by
 have e:=λo=>j.cell (p:=(Ad b o)) i;exact⟨(e 0).Z h.1,(e 1).Z h.2.1,(e 2).Z h.2.2.1,(e 3).Z h.2.2.2.1,(e 4).Z h.2.2.2.2.1,(e 5).Z h.2.2.2.2.2.1,(e 6).Z h.2.2.2.2.2.2⟩
def bW4(k s:Nat)(P:LI)(f:Nat)(V:LI):J (lX k s P f V)<=J P+J V+32:=by
 have m:=pf s;have j:=Hi P;have i:=Hi V;rw[lX];simp only[dm,kJ,yS];omega
variable {s:Nat}
def dI6{f:Nat}(wk:IntKind.u8.wrap K=(k:Int))(wf:IntKind.u8.wrap F=(f:Int))(hs:s<2^64)(ep:Le P n)(ev:Le V m)(hp:Rd w (.S p n c) P)(hv:Rd w (.S q m d) V)(hn:Mg n)(hm:Mg m)(eN:O (J (lX k s P f V)=N)):dQ dG 55 #[lM K s (.S p n c) F (.S q m d) e g] w λr w'=>∃p' c',r=dR (.S p' N c')/\Own (U w.heap) w' (.S p' N c') (lX k s P f V)/\Bw w w':=by
 have HP:=ag λ(w':G)(hb:Bw w w')=>hp.H hb;have HV:=ag λ(w':G)(hb:Bw w w')=>hv.H hb;obtain⟨M,eM⟩:∃M,O (J (vi s)=M):=⟨_,rfl⟩;obtain⟨E,Ej⟩:∃M,O (J (tx P)=M):=⟨_,rfl⟩;obtain⟨N2,KP⟩:∃M,O (J (tx V)=M):=⟨_,rfl⟩;have hM:M<=10:=by have:=pf s;rw[ae eM]at this;omega
 have D7:E<=1048586:=by have:=Hi P;rw[ae Ej,ae ep]at this;omega
 have qB:N2<=1048586:=by have:=Hi V;rw[ae KP,ae ev]at this;omega
 obtain⟨A1,xq⟩:∃l,O (l=[(k:Int)]++vi s):=⟨_,rfl⟩;obtain⟨A2,Af⟩:∃l,O (l=A1++tx P):=⟨_,rfl⟩;obtain⟨A3,Ky⟩:∃l,O (l=A2++[(f:Int)]):=⟨_,rfl⟩;have hA4:O (lX k s P f V=A3++tx V):=by show _=_;rw[ae Ky,ae Af,ae xq,lX];simp
 have u:O (J A1=1+M):=by show _=_;rw[ae xq,dm,ae eM];rfl
 have j:O (J A2=1+M+E):=by show _=_;rw[ae Af,dm,ae u,ae Ej]
 have X:O (J A3=1+M+E+1):=by show _=_;rw[ae Ky,dm,ae j];rfl
 go_in;go_wp2_with fail;let⟨D,cI⟩:=aG (w.alloc (dO #[.I K,.U s,.S p n c,.I F,.S q m d,.U e,.U g] 65));have I8:=gF cI;have hO0:lp D (U w.heap) (.I K) (.U s) (.S p n c) (.I F) (.S q m d) (.U e) (.U g):=by rw[cI];simp[lp,go_sem]
 have zW0:U D.heap=U w.heap+1:=by rw[cI];simp
 rw[<-cI];have oo:Own (U D.heap) (D.alloc (dO #[.int .u8 (k:Int)] 5)) (.T (U D.heap) 1 1) [(k:Int)]:=Own.one D k;rw[zW0]at oo;obtain⟨W,hW⟩:∃W,W=D.alloc (dO #[.int .u8 (k:Int)] 5):=⟨_,rfl⟩;have bW:Bw w W:=hW▸I8.alloc I8.size _;have hO:lp W (U w.heap) (.I K) (.U s) (.S p n c) (.I F) (.S q m d) (.U e) (.U g):=hO0.H (hW▸aD.alloc aA _);have zW:U w.heap+1<U W.heap:=by rw[hW];simp;omega
 rw[<-hW]at oo⊢;refine(aY8 9 s _ af hs af M eM).h ?_;rintro r x1⟨pv,cv,rfl,ov,au⟩;have OI:=Own.H oo au;have UW:=hO.H au;have b1:=ai bW au;have r1:Rd x1 (.S pv M cv) (vi s):=ov.rd;have z1:=au.size;have a0:=id UW;go_wp2_with(at_builtin;refine BJ rfl rfl (B:=U w.heap+1) (.T (U w.heap+1) 1 1) (l:=[(k:Int)]) (m:=vi s) (lm:=A1) xq pv cv M eM rfl rfl OI r1 (by rw[ae eM];simp;omega) af ?_);intro p2 c2 x2 o2 dt;have b2:=Am b1 dt OI af af;have Z:=UW.bt5 ((aR (U w.heap+1) x1).grown dt af (λk e=>(OI.lt k e).1)) af;have z2:=dt.size;rw[ae u]at o2⊢;have a0:=id Z;go_wp2_with fail;refine(ao6 (p:=p) (c:=c) (n:=n) (l:=P) ep (ae HP _ b2) hn (N:=E) Ej).h ?_;rintro r x3⟨pt,ct,rfl,ot,aI⟩;have o3:=Own.H o2 aI;have UT:=Z.H aI;have b3:=ai b2 aI;have r3:=ot.rd;have z3:=aI.size;have a0:=id UT;go_wp2_with(at_builtin;refine BJ rfl rfl (B:=U w.heap+1) (.S p2 (1+M) c2) (l:=A1) (m:=tx P) (lm:=A2) Af pt ct E Ej rfl rfl o3 r3 (by rw[ae u,ae Ej];omega) af ?_);intro p4 c4 x4 o4 ly;have b4:=Am b3 ly o3 af af;have Za:=UT.bt5 ((aR (U w.heap+1) x3).grown ly af (λk e=>(o3.lt k e).1)) af;have z4:=ly.size;rw[ae j]at o4⊢;have a0:=id Za;go_wp2_with(at_builtin;refine Tc rfl rfl (B:=U w.heap+1) (.S p4 (1+M+E) c4) (l:=A2) (lm:=A3) (y:=(f:Int)) Ky (U x4.heap) rfl rfl (Own.H o4 (aD.alloc aA _)) aj (by rw[ae j];omega) bq ?_);intro p5 c5 x5 o5 l9;have R:=Own.H o4 (w':=x4.alloc (dO #[.int .u8 (f:Int)] 5)) (aD.alloc aA _);have b5:=Am (b4.alloc b4.size _) l9 R af bq;have hO5:=(Za.H (aD.alloc aA _)).bt5 ((aR (U w.heap+1) _).grown l9 bq (λk e=>(R.lt k e).1)) af;have z5:U x4.heap+1<=U x5.heap:=by have:=l9.size;simpa using this
 rw[ae X]at o5⊢;have a0:=id hO5;go_wp2_with fail;refine(ao6 (p:=q) (c:=d) (n:=m) (l:=V) ev (ae HV _ b5) hm (N:=N2) KP).h ?_;rintro r x6⟨pu,cu,rfl,ou,gr⟩;have o6:=Own.H o5 gr;have b6:=ai b5 gr;have r6:=ou.rd;have z6:=gr.size;go_wp2_with(at_builtin;refine BJ rfl rfl (B:=U w.heap+1) (.S p5 (1+M+E+1) c5) (l:=A3) (m:=tx V) (lm:=lX k s P f V) hA4 pu cu N2 KP rfl rfl o6 r6 (by rw[ae X,ae KP];omega) af ?_);intro p7 c7 x7 o7 hg7;have b7:=Am b6 hg7 o6 af af;rw[ae eN]at o7⊢;have o8:=Own.h (B':=U w.heap) o7 af;go_wp2;go_ret;exact⟨p7,c7,rfl,o8,b7⟩
def ce3(E:k<=13){f:Nat}(u:s<2^64)(hf:f<=2)(B:Le P n)(ev:Le V m)(x:Rd w (.S p n c) P)(o:Rd w (.S q m d) V)(y:Mg n)(hm:Mg m)(D:O (J (lX k s P f V)=N)):Cp 55 #[lM k s (.S p n c) f (.S q m d) e g] w λr w'=>∃i j,r=dR (.S i N j)/\Own (U w.heap) w' (.S i N j) (lX k s P f V)/\Bw w w':=
 dI6 (K:=k) (F:=f) (by rw[JY];omega) (by rw[JY];omega) u (e:=e) (g:=g) B ev x o y hm D
def dq8{f:Nat}(i:s<2^64)(m:J P<2^64)(j:J V<2^64):oB (lX k s P f V)=((k:Int),Y (vi s++(tx P++([(f:Int)]++tx V))))/\oV (Y (vi s++(tx P++([(f:Int)]++tx V))))=((s:Int),Y (tx P++([(f:Int)]++tx V)))/\oT (Y (tx P++([(f:Int)]++tx V)))=(P,Y ([(f:Int)]++tx V))/\oB (Y ([(f:Int)]++tx V))=((f:Int),Y (tx V))/\oT (tx V)=(V,Y []):=by
 refine⟨rfl,?_,?_,rfl,?_⟩;{rw[oV,ai8 _ i]};{rw[oT,aO5 _ m]};{have:=aO5 [] j;rw[yQ]at this;rw[oT,this]}
def qX(l:LI)(k s:Nat)(P:LI)(f:Nat)(V:LI):Prop:=1<=k/\k<=13/\s<2^64/\f<=2/\qR k s f (J P) (J V) 0 0/\Up k/\l=lX k s P f V
def bs4{K S q NV:Nat}(s:Le P q)(r:Le V NV)(h:qR K S f q NV 0 0=dF\/Up K=dF\/∀F:Nat,f=F->¬lX K S P F V=l):¬(o5=Y []/\∃m j F:Nat,(K:Int)=m/\(S:Int)=j/\f=F/\qX l m j P F V):=by
 rintro⟨-,m,j,F,a,b,rfl,d⟩;cases TL.1 a;cases TL.1 b;obtain⟨-,-,-,-,i,o,u⟩:=d;rw[ae s,ae r]at i;obtain h|h|h:=h;{rw[h]at i;cases i};{rw[h]at o;cases o};{exact h F rfl u.C}
def sdE{q:Prop}(h':q:=by
 go_wp2;refine cg (v:=dT #[lM 0 0 aq 0 aq 0 0,.I 13]) (by simp[results,results91,go_sem,r0]) rfl (.L ⟨⟨rfl,?_⟩,NN⟩)
 repeat(refine ri ?_ aj _)
 exact GI):q:=h'
theorem bN4(p:OA)(c n:Nat)(l:LI)(u:Le l n)(w:G)(h:Rd w (.S p n c) l)(x:aC l)(hl:Mg n)(nE:n<=c)(k s f:Int)(P V:LI)(o1 o2 o3 o4 o5:Option LI)(e1:O (oB l=(k,o1)))(e2:O (oV o1=(s,o2)))(e3:O (oT o2=(P,o3)))(e4:O (oB o3=(f,o4)))(e5:O (oT o4=(V,o5)))(y NV:Nat)(eP:Le P y)(eV:Le V NV):dQ dG 91 #[.S p n c] w λr w'=>((r=dR (dT #[lM 0 0 aq 0 aq 0 0,.I 13])/\Bw w w')/\¬(o5=Y []/\∃K S F:Nat,k=K/\s=S/\f=F/\qX l K S P F V))\/∃K S F:Nat,k=K/\s=S/\f=F/\qX l K S P F V/\∃p' c' q' d' B,r=dR (dT #[lM K S (.S p' y c') F (.S q' NV d') 0 0,.I 0])/\U w.heap<=B/\Own (U w.heap) w' (.S p' y c') P/\Btw (U w.heap) B (.S p' y c')/\Own B w' (.S q' NV d') V/\Bw w w':=by
 have HB:=ag x;have S0:O (gU n l l):=gU.start u;have S1:O (gU n l o1):=by have:=al0 u S0;rw[ae e1]at this;exact this
 have S2:O (gU n l o2):=by have:=uw u S1;rw[ae e2]at this;exact this
 have S3:O (gU n l o3):=by have:=ak9 u S2;rw[ae e3]at this;exact this
 have S4:O (gU n l o4):=by have:=al0 u S3;rw[ae e4]at this;exact this
 have hNP:y<=1048576:=by have:=(TI x S2).2;rw[ae e3]at this;rw[<-ae eP];exact gv this hl
 have hNV:NV<=1048576:=by have:=(TI x S4).2;rw[ae e5]at this;rw[<-ae eV];exact gv this hl
 have a0:jB n l=0:=by simp[jB,ae u]
 let⟨A1,eA1⟩:=aY (jB n o1);let⟨A2,ZH⟩:=aY (jB n o2);let⟨A3,eA3⟩:=aY (jB n o3);let⟨A4,eA4⟩:=aY (jB n o4);let⟨A5,eA5⟩:=aY (jB n o5);have N:=λw'(Z:Bw w w')=>aP3 u (h.H Z) x hl S0 e1;rw[a0,eA1]at N;have c2:=λw'(Z:Bw w w')=>bS6 u (h.H Z) x hl S1 e2;rw[eA1,ZH]at c2;have c3:=λw'(Z:Bw w w')=>aP2 u (h.H Z) x hl nE S2 e3 eP;rw[ZH,eA3]at c3;have c4:=λw'(Z:Bw w w')=>aP3 u (h.H Z) x hl S3 e4;rw[eA3,eA4]at c4;have c5:=λw'(Z:Bw w w')=>aP2 u (h.H Z) x hl nE S4 e5 eV;rw[eA4,eA5]at c5;have C1:=ag N;have C2:=ag c2;have C3:=ag c3;have C4:=ag c4;have C5:=ag c5;have HH:=ag h;clear N c2 c3 c4 c5 a0 eA1 ZH eA3 eA4 h x;go_in;go_wp2_with fail;let⟨W,hW⟩:=aG (w.alloc (dO #[.I 0,.U 0,aq,.I 0,aq,.U 0,.U 0] 65));have bW:=gF hW;have hR:lp W (U w.heap) (.I 0) (.U 0) aq (.I 0) aq (.U 0) (.U 0):=by rw[hW];simp[lp,go_sem]
 have fR:∀o,W.frozen? (Aw w o)=dF:=λo=>by rw[hW];simp[go_sem]
 have zW:U w.heap<U W.heap:=by rw[hW];simp
 rw[<-hW];clear hW;refine(ae C1 _ bW).h ?_;rintro r w'⟨rfl,rfl⟩;go_wp2_with fail;refine(ae C2 _ bW).h ?_;rintro r w'⟨rfl,rfl⟩;go_wp2_with fail;refine(ae C3 _ bW).h ?_;rintro r w1⟨p1,N,rfl,x1,au⟩;have b1:=ai bW au;have oQ:=hR.H au;have fR1:=Cz fR zW au;have z1:=au.size;clear hR fR au;go_wp2_with fail;refine(ae C4 _ b1).h ?_;rintro r w2⟨rfl,rfl⟩;go_wp2_with fail;refine(ae C5 _ b1).h ?_;rintro r w3⟨p3,c3,rfl,x3,aI⟩;have b3:=ai b1 aI;have x1':=Own.H x1 aI;have j:=oQ.H aI;have fR3:=Cz fR1 af aI;have z3:=aI.size;clear oQ fR1 aI;have ee8:O (aC P/\aC V/\0<=s/\s<2^64):=by have h1:=(TI HB S2).1;have h2:=(TI HB S4).1;have h3:=bW6 (om:=o1);rw[ae e3]at h1;rw[ae e5]at h2;rw[ae e2]at h3;exact⟨h1,h2,h3.1,h3.2⟩
 let⟨X,hX⟩:=aG (w3.alloc (dO #[.I k,.U s,.S p1 y N,.I f,.S p3 NV c3,.U 0,.U 0] 65));have Db:=gF hX;have bX:Bw w X:=ai b3 Db;have Y8:=j.H Db;have E:=Cz fR3 af Db;have D:lp X (U w3.heap) (.I k) (.U s) (.S p1 y N) (.I f) (.S p3 NV c3) (.U 0) (.U 0):=by rw[hX];simp[lp,go_sem]
 have zX:U w3.heap<U X.heap:=by rw[hX];simp
 have xP:=Own.H x1' Db;have xV:=Own.H x3 Db;have R:∀i:Obj,Bw w3 (w3.alloc i):=λi=>aD.alloc aA _;have q0:=λi=>al j.1 (R i);have q1:=λi=>al j.2.1 (R i);have q2:=λi=>al j.2.2.1 (R i);have q3:=λi=>al j.2.2.2.1 (R i);have q4:=λi=>al j.2.2.2.2.1 (R i);have q5:=λi=>al j.2.2.2.2.2.1 (R i);have q6:=λi=>al j.2.2.2.2.2.2 (R i);have qf:=λ(i:Obj)=>Cz fR3 af (R i);clear j fR3 x1' x3 Db R;have r0:=id Y8;have j0:=id D;have tP:Btw (U w.heap) (U w2.heap) (.S p1 y N):=λb x=>by have:=x1.lt b x;omega
 clear x1;by_cases hA5:A5<0;{
 have NN:=ag (show¬(o5=Y []/\∃K S F:Nat,k=K/\s=S/\f=F/\qX l K S P F V)fromλe=>by rw[e.1]at eA5;simp[jB]at eA5;omega);clear hX;go_wp2;refine cg (v:=dT #[lM 0 0 aq 0 aq 0 0,.I 13]) (by simp[results,results91,go_sem,q0,q1,q2,q3,q4,q5,q6]) rfl (.L ⟨⟨rfl,?_⟩,NN⟩)
 repeat(refine ri ?_ aj _)
 exact GJ b3};{
 have fx8:¬A5<0:=hA5;go_wp2_with fail;rw[<-hX];clear hX q0 q1 q2 q3 q4 q5 q6 qf;let⟨QF,hVB,s0,s1⟩:=ae ee8;by_cases hk:1<=k/\k<=13;{
 obtain⟨K,rfl⟩:∃K:Nat,k=(K:Int):=⟨k.toNat,af⟩;obtain⟨S,rfl⟩:∃S:Nat,s=(S:Int):=⟨s.toNat,af⟩;have h1:1<=K:=af;have h2:K<=13:=af;let⟨B,eB⟩:=aY (qR K S f y NV 0 0);have nS:O (S<2^64):=by show _<_;omega
 have HPV:=bG QF hVB;clear s0 s1 QF hVB hk;refine br (cv5 h1 h2 eB) λy1 m=>?_;have GI:=ai bX m;have oQ:=Y8.H m;have UW:=D.H m;have f1:=Cz E af m;have V8:=m.size;have xP1:=Own.H xP m;have xV1:=Own.H xV m;clear Y8 D E m xP xV r0 j0 bX;have r0:=id oQ;have j0:=id UW;cases B with
 |false=>
  have NN:=ag (bs4 (l:=l) (o5:=o5) (K:=K) (S:=S) (f:=f) eP eV (.L eB));exact sdE
 | true=>
  go_wp2_with fail;refine(cf0 h1 h2).h ?_;rintro r y2⟨rfl,rfl⟩;let⟨iJ,eJ⟩:=aY (Up K);rw[eJ];cases iJ with
  |false=>
   have NN:=ag (bs4 (l:=l) (o5:=o5) (K:=K) (S:=S) (f:=f) eP eV (.R (.L eJ)));exact sdE
  |true=>
   let⟨f0,f2⟩:=cw6 h1 h2 eB;obtain⟨F,rfl⟩:∃F:Nat,f=(F:Int):=⟨f.toNat,af⟩;have hF:F<=2:=af;obtain⟨M,eM⟩:∃M,O (J (lX K S P F V)=M):=⟨_,rfl⟩;have HD0:=ag (λe:lX K S P F V=l=>(⟨h1,h2,nS,hF,by rw[ae eP,ae eV];exact eB,eJ,e.C⟩:qX l K S P F V));clear f0 f2;go_wp2_with fail;refine(ce3 h2 nS hF eP eV xP1.rd xV1.rd hNP hNV eM).h ?_;rintro r y3⟨p5,c5,rfl,o5',cY⟩;have bx3:=ai GI cY;have j:=oQ.H cY;have UT:=UW.H cY;have f3:=Cz f1 af cY;have zx3:=cY.size;have xP3:=Own.H xP1 cY;have xV3:=Own.H xV1 cY;clear oQ UW f1 cY r0 j0 GI xP1 xV1;have r0:=id j;have j0:=id UT;go_wp2_with fail;refine(Um eM u o5'.rd (HH.H bx3) (by refine aC.app (λz hz=>by simp at hz;subst hz;omega) (aC.app (Av nS) (aC.app ?_ (aC.app (λz hz=>by simp at hz;subst hz;omega) ?_)));{exact aC.app (Av (by rw[ae eP];omega)) HPV.1};{exact aC.app (Av (by rw[ae eV];omega)) HPV.2}) HB).h ?_
   rintro r y4⟨rfl,gr⟩;have GI:=ai bx3 gr;have QE:=j.H gr;have Za:=UT.H gr;have f4:=Cz f3 af gr;have zx4:=gr.size;have xP4:=ag (Own.H xP3 gr);have xV4:=ag (Own.H xV3 gr);clear j UT f3 gr r0 j0 bx3 xP3 xV3;have r0:=id QE;have j0:=id Za;by_cases hd:lX K S P F V=l;{
 have HDC:=ag (ae HD0 hd);rw[JV hd];have BX4:=ag GI;have HZ:=cI6 zW z1 z3 zX V8 zx3 zx4;have aN:¬U w.heap=U w3.heap:=af;have dS5:¬U w3.heap=U w.heap:=af;clear QE Za GI HD0 hd;go_wp2;let⟨zW,z1,z3,zX,V8,zx3,zx4⟩:=ae HZ;refine cg (v:=dT #[lM K S (.S p1 y N) F (.S p3 NV c3) 0 0,.I 0]) (by simp[results,results91,go_sem,r0]) rfl (.R ⟨K,S,F,rfl,rfl,rfl,HDC,p1,N,p3,c3,U w2.heap,rfl,af,?_,tP,?_,?_⟩);{
 refine Own.h (B:=U w'.heap) ?_ af
 iterate 7 (refine sy ?_ zW _)
 exact xP4};{
 have zz:U w.heap<U w2.heap:=af
 iterate 7 (refine sy ?_ zz _)
 exact xV4};{
 iterate 7 (refine ri ?_ aj _)
 exact BX4}};{have NN:=ag (bs4 (l:=l) (o5:=o5) (K:=K) (S:=S) (f:=F) eP eV (.R (.R (λF' e=>by cases TL.1 e;exact hd))));rw[AM hd];clear HD0 hd;exact sdE}};{have NN:=ag (show¬(o5=Y []/\∃K S F:Nat,k=K/\s=S/\f=F/\qX l K S P F V)fromλ⟨_,K',_,_,e,_,_,h⟩=>hk ⟨aK h.1,aK h.2.1⟩);refine br (cv4 af) λy1 m=>?_;have GI:=ai bX m;have oQ:=Y8.H m;have f1:=Cz E af m;clear Y8 D E m xP xV r0 j0 bX s0 s1;have r0:=id oQ;exact sdE}}
def cI1(en:Le ss n)(em:Le ns m){S iG:Int}(eP:Le P np)(eV:Le V nv)(hS:O (eh B w (.S p n c) ss Qs))(hN:O (jK B w (.S q m d) ns))(hP:O (Rd w (.S pp np cp) P))(hV:O (Rd w (.S pq nv cv) V))(hB:B<=U w.heap)(hn:Mg n)(hm:Mg m)(hp:np<=1048576)(hv:nv<=1048576)(fM:np<=cp)(gC:cp<=maxLen)(hW:O (WF ⟨e,g,x,t,ss,ns⟩))(bP:O (aC P)){R:SD×RP}(hj:O (K=1\/K=3\/K=4\/K=5\/K=7\/K=8\/K=9))(eR:O (mW ⟨e,g,x,t,ss,ns⟩ K S F E iG P V=R)):dQ dG 52 #[bS e g x t (.S p n c) (.S q m d),qZ K S (.S pp np cp) F (.S pq nv cv) E iG] w λr w'=>QR B w w' r R.1 R.2:=by
 let⟨W0,cI,b0,z0,C0⟩:=xu w (.U e) (.U g) (.U x) (.I t) (.S p n c) (.S q m d);obtain⟨W1,fx,b1,z1,C1,-⟩:=bQ W0 #[.I K,.U S,.S pp np cp,.I F,.S pq nv cv,.U E,.U iG] 65;let⟨W2,fE,b2,z2,C2⟩:=Al W1;let⟨W3,jI,b3,z3,C3⟩:=xt W2 (.I 0) (.U 0) (.U 0) (.U 0) (.I 0) aO aO aO;rw[z0]at C1 z1;rw[z1]at C2 z2;rw[z2]at C3 z3;have LQ:QB W3 (U w.heap) _ _ _ _:=⟨((C0.H b1).H b2).H b3,(C1.H af b2).H af b3,C2.H b3,C3⟩;have bW:=ai (ai (ai b0 b1) b2) b3;have y:=ag (λ(v:G)(hv:Bw W3 v)=>aF (QB.W LQ (λj h1 h2=>hv.block j af)) (aF (hS.T (bH (ai bW hv))) (aF (dh.T hN (bH (ai bW hv))) (aF (hP.H (ai bW hv)) (aF (hV.H (ai bW hv)) (ai bW hv))))));have cQ:=bG (ae bP) (λnd aJ=>(hW.pb nd aJ).2.1);have hR:=ae eR;unfold mW at hR;rw[ae eP,ae eV]at hR;have HR:=ag hR;let⟨fb,efb⟩:=cG (CD K S F np nv E iG);go_in;go_wp2_with fail;rw[<-cI,<-fx,<-fE,<-jI];refine br (ek0 efb) λw1 au=>?_;have B1:=ag au;have JA:=au.size;have o:=ae HR;rw[ae efb]at o;cases fb;{rw[aM rfl]at o;have E9:=ag o;go_wp2_with fail;obtain⟨s,SW,NW,-,-,BW⟩:=ae y w1 B1;exact rq 2 4 5 13 14 2 results52 s.1 s.2.2.1 s.2.2.2 en em SW NW (Fr.H BW) (BW.h hB) hB E9};rw[aL aj]at o;obtain⟨LC,-,-,-,-,-⟩:=ae y w1 B1;let⟨o0,o1,o2,o3,o4,o5,o6⟩:=Lg LC.2.1.1;have k0:=LC.1.cells;by_cases tz:K=1;{
 rw[aM tz]at o;have eg3:(K==1):=by simp[tz]
 have E9:=ag o;go_wp2_with fail;obtain⟨-,S1,N1,-,-,bw1⟩:=ae y w1 B1;refine(dx2 en em S1 N1 (aK bw1.size) hn hW.x hW.t).h ?_;rw[ae E9];rintro r w9⟨X,c',W,Z,Dv,Nv,Ev,sk,rfl,tp,qB,tD,tN,tE,hF,jl⟩;obtain⟨s,-,-,-,-,ZR⟩:=ae y w1 B1;have M:=ag (TX.T (show TX w1 (U w.heap) _ _ _ from⟨s.1,s.2.2.1,s.2.2.2⟩) hF bf);have HQ:=ag (show QR B w1 w9 _ R.1 R.2 from⟨X,c',W,Z,Dv,Nv,Ev,sk,rfl,tp,qB,tD,tN,tE,hF,jl⟩);obtain⟨dp,dc,rfl⟩:=tD.dy;obtain⟨xp,xc,rfl,-⟩:=RT.form tN;obtain⟨yp,yc,rfl,-⟩:=RT.form tE;have Ol:=ag ZR;have k0:=M.1.cells;let⟨q0,q1,q2,q3,q4,q5,qf⟩:=M.2.1.cells;let⟨r0,r1,r2,r3,r4,r5,r6,r7,rf⟩:=M.2.2.cells;go_wp2;let⟨fF,bF⟩:=TX.fin M (.U R.1.e) (.U R.1.g) (.U R.1.x) (.I R.1.t) (.S X (J R.1.E) c') (.S W (J R.1.N) Z) (.I R.2.k) (.U R.2.i) (.U R.2.e) (.U R.2.g) (.I R.2.n) (.S dp (J R.2.sL) dc) (.S xp (J R.2.nms) xc) (.S yp (J R.2.rZ) yc);refine cg (v:=dT #[bS R.1.e R.1.g R.1.x R.1.t (.S X (J R.1.E) c') (.S W (J R.1.N) Z),gG R.2.k R.2.i R.2.e R.2.g R.2.n (.S dp (J R.2.sL) dc) (.S xp (J R.2.nms) xc) (.S yp (J R.2.rZ) yc)]) (by simp[results,results52,go_sem,q0,q1,q2,q3,q4,q5,r0,r1,r2,r3,r4,r5,r6,r7]) rfl ?_;exact QR.low HQ (Fr.H Ol) (Ol.h hB) fF bF hB};rw[aL tz]at o;have JK1:=ag tz;have eg3:(K==1)=dF:=by simp[tz]
 have E8:=ag o;go_wp2_with fail;refine br (dk5 en (ag (ae y w1 B1).2.1) hn) λw2 ay=>?_;have B2:=ag (ai B1 ay);let⟨ix,eix⟩:=cG (lW ss S);let⟨T,eT⟩:=cG (DT K&&dD (ix<0));have o:=ae E8;rw[ae eix,ae eT]at o;rw[ae eix];have E7:=ag o;have LD:=B2.size;obtain⟨LC,-,-,-,-,-⟩:=ae y w2 B2;let⟨o0,o1,o2,o3,o4,o5,o6⟩:=Lg LC.2.1.1;have k0:=LC.1.cells
 go_upto_region 6 with fail
 go_cut[32](λrv wc=>rv=.bool T/\w2=wc)
 case first=>(
 go_wp2_with fail;refine(dQ3).h ?_;rintro r w3⟨rfl,rfl⟩;let⟨hs,ehs⟩:=aY (DT K);have N:=ae eT;rw[ehs]at N⊢;cases hs;{obtain rfl:T=dF:=N.C;go_wp2_with fail;go_meet;exact⟨rfl,rfl⟩};{
 by_cases hx:ix<0;{
 obtain rfl:T:=by rw[<-N];simp[hx]
 go_wp2_with fail;go_meet
 first|exact⟨rfl,rfl⟩|exact⟨by simp[hx],rfl⟩}
 {
 obtain rfl:T=dF:=by rw[<-N];simp[hx]
 go_wp2_with fail;go_meet
 first|exact⟨rfl,rfl⟩|exact⟨by simp[hx],rfl⟩}})
 case rest=>(
 obtain⟨rfl,rfl⟩:=hcut;have o:=ae E7;cases T;rotate_left;{rw[aM rfl]at o;have E9:=ag o;go_wp2_with fail;obtain⟨s,SW,NW,-,-,BW⟩:=ae y w2 B2;exact rq 2 4 5 33 34 3 results52 s.1 s.2.2.1 s.2.2.2 en em SW NW (Fr.H BW) (BW.h hB) hB E9};rw[aL aj]at o;have tw:IntKind.i64.wrap (t+10)=t+10:=kP _ (by have:=hW.t;simp only at this;omega);by_cases rU:K=2;{have N:=ae hj;omega};rw[aL rU]at o;have fw8:(K==2)=dF:=by simp[rU]
 by_cases D8:K=3;{
 have eg0:(K==3):=by simp[D8]
 rw[aM D8]at o;let⟨D,eD⟩:=cG (jS ⟨e,g,x,t,ss,ns⟩ S);have cj7:=eD8 (D:=⟨e,g,x,t,ss,ns⟩) (id:=S);rw[ae eD]at o cj7;have HD:=bG o cj7;go_wp2_with fail;obtain⟨L2,S2,N2,-,-,ZU⟩:=ae y w2 B2;have TX2:=ag (show TX w2 (U w.heap) _ _ _ from⟨L2.1,L2.2.2.1,L2.2.2.2⟩);have Om:=ag ZU;refine(eD7 en em S2 N2 hW.nb (aK ZU.size) hn hm eD).h ?_;rintro r w3⟨X,c',W,Z,rfl,⟨Q3,Gm⟩,tv,rT,IG⟩;have M:=ag (TX.T TX2 rT bf);have k0:=M.1.cells;let⟨q0,q1,q2,q3,q4,q5,qf⟩:=M.2.1.cells;let⟨r0,r1,r2,r3,r4,r5,r6,r7,rf⟩:=M.2.2.cells;have HY:=gI Gm tv ((Fr.H Om).Z rT) ((Om.h hB).Z IG);go_wp2;let⟨fF,bF⟩:=TX.fin M (.U e) (.U g) (.U x) (.I t) (.S X (J D.E) c') (.S W (J D.N) Z) (.I 0) (.U 0) (.U 0) (.U 0) (.I 0) aO aO aO;refine cg (v:=dT #[bS e g x t (.S X (J D.E) c') (.S W (J D.N) Z),gG 0 0 0 0 0 aO aO aO]) (by simp[results,results52,go_sem,q0,q1,q2,q3,q4,q5,r0,r1,r2,r3,r4,r5,r6,r7]) rfl ?_;rw[<-HD.1];have hQ:=QR.num (e:=e) (g:=g) (x:=x) (t:=t) (ss:=D.E) (ns:=D.N) rfl rfl HY.1 HY.2.1 HY.2.2.1 HY.2.2.2 fF bF hB 0 0 0 0 0;have eq:(⟨e,g,x,t,D.E,D.N⟩:SD)=D:=by obtain⟨h1,h2,h3,h4⟩:D.e=e/\D.g=g/\D.x=x/\D.t=t:=HD.2;rw[<-h1,<-h2,<-h3,<-h4]
 rw[eq]at hQ;exact hQ};rw[aL D8]at o;have JK3:=ag D8;have eg0:(K==3)=dF:=by simp[D8]
 by_cases cr3:K=12;{have N:=ae hj;omega};rw[aL cr3]at o;have fw9:(K==12)=dF:=by simp[cr3]
 let⟨rt,ert⟩:=cG (BQ K P);unfold JH at o;rw[ae ert]at o;have E8:=ag o
 go_upto_region 18 with fail
 go_cut[8](λrv wc=>rv=.bool rt/\O (Bw W3 wc))
 case first=>(
 by_cases UZ:K=13;{have N:=ae hj;omega};{
 have eg2:(K==13)=dF:=by simp[UZ]
 obtain rfl:rt=dF:=by rw[<-ae ert,BQ];simp[UZ]
 go_wp2_with fail;go_meet;exact⟨rfl,B2⟩})
 case rest=>(
 obtain⟨w3,rfl⟩:=aG wc;obtain⟨rfl,B3⟩:=hcut;obtain⟨LC,-,-,-,-,-⟩:=ae y w3 B3;let⟨o0,o1,o2,o3,o4,o5,o6⟩:=Lg LC.2.1.1;have k0:=LC.1.cells;let⟨T2,Gx⟩:=cG (!rt&&!vp P);have z3':=B3.size
 go_upto_region 19 with fail
 go_cut[106](λrv wc=>rv=.bool T2/\O (Bw W3 wc))
 case first=>(
 cases rt;{go_wp2_with fail;let⟨vb,evb⟩:=cG (vp P);refine br (Wu eP (ae y w3 B3).2.2.2.1 bP hp evb) λw4 cT=>?_;have N:=ae Gx;rw[ae evb]at N;have B4:=ag (ai B3 cT);cases vb;{obtain rfl:T2:=N.C;go_wp2_with fail;go_meet;exact⟨rfl,B4⟩};{obtain rfl:T2=dF:=N.C;go_wp2_with fail;go_meet;exact⟨rfl,B4⟩}};{obtain rfl:T2=dF:=Gx.C;go_wp2_with fail;go_meet;exact⟨rfl,B3⟩})
 case rest=>(
 obtain⟨w4,rfl⟩:=aG wc;obtain⟨rfl,B4⟩:=hcut;have z4':=B4.size;have o:=ae E8;rw[ae Gx]at o;cases T2;rotate_left;{rw[aM rfl]at o;have E9:=ag o;go_wp2_with fail;obtain⟨s,SW,NW,-,-,BW⟩:=ae y w4 B4;exact rq 2 4 5 107 108 4 results52 s.1 s.2.2.1 s.2.2.2 en em SW NW (Fr.H BW) (BW.h hB) hB E9};rw[aL aj]at o;obtain⟨LC,-,-,-,-,-⟩:=ae y w4 B4;let⟨o0,o1,o2,o3,o4,o5,o6⟩:=Lg LC.2.1.1;have k0:=LC.1.cells;by_cases Cy:K=4;{
 have ef9:(K==4):=by simp[Cy]
 rw[aM Cy]at o;have E9:=ag o;go_wp2_with fail;obtain⟨-,S4,N4,P4,V4,bw4⟩:=ae y w4 B4;refine(eA6 en em eP eV S4 N4 P4 V4 (aK bw4.size) hm hp hv fM gC cQ E9).h ?_;rintro r w9⟨X,c',W,Z,Dv,Nv,Ev,sk,rfl,tp,qB,tD,tN,tE,hF,jl⟩;obtain⟨s,-,-,-,-,ZR⟩:=ae y w4 B4;have M:=ag (TX.T (show TX w4 (U w.heap) _ _ _ from⟨s.1,s.2.2.1,s.2.2.2⟩) hF bf);have HQ:=ag (show QR B w4 w9 _ R.1 R.2 from⟨X,c',W,Z,Dv,Nv,Ev,sk,rfl,tp,qB,tD,tN,tE,hF,jl⟩);obtain⟨dp,dc,rfl⟩:=tD.dy;obtain⟨xp,xc,rfl,-⟩:=RT.form tN;obtain⟨yp,yc,rfl,-⟩:=RT.form tE;have Ol:=ag ZR;have k0:=M.1.cells;let⟨q0,q1,q2,q3,q4,q5,qf⟩:=M.2.1.cells;let⟨r0,r1,r2,r3,r4,r5,r6,r7,rf⟩:=M.2.2.cells;go_wp2;let⟨fF,bF⟩:=TX.fin M (.U R.1.e) (.U R.1.g) (.U R.1.x) (.I R.1.t) (.S X (J R.1.E) c') (.S W (J R.1.N) Z) (.I R.2.k) (.U R.2.i) (.U R.2.e) (.U R.2.g) (.I R.2.n) (.S dp (J R.2.sL) dc) (.S xp (J R.2.nms) xc) (.S yp (J R.2.rZ) yc);refine cg (v:=dT #[bS R.1.e R.1.g R.1.x R.1.t (.S X (J R.1.E) c') (.S W (J R.1.N) Z),gG R.2.k R.2.i R.2.e R.2.g R.2.n (.S dp (J R.2.sL) dc) (.S xp (J R.2.nms) xc) (.S yp (J R.2.rZ) yc)]) (by simp[results,results52,go_sem,q0,q1,q2,q3,q4,q5,r0,r1,r2,r3,r4,r5,r6,r7]) rfl ?_;exact QR.low HQ (Fr.H Ol) (Ol.h hB) fF bF hB};rw[aL Cy]at o;have JK4:=ag Cy;have ef9:(K==4)=dF:=by simp[Cy]
 by_cases cr4:K=10;{have N:=ae hj;omega};rw[aL cr4]at o;have fx0:(K==10)=dF:=by simp[cr4]
 let⟨jx,ejx⟩:=cG (xK ns P);simp only[ae ejx]at o;have E7:=ag o;go_wp2_with fail;refine br (dA0 em eP (dh.Tx (ae y w4 B4).2.2.1) (ae y w4 B4).2.2.2.1 hm af cQ hW.pd) λw5 cY=>?_;rw[ae ejx];have B5:=ag (ai B4 cY);have z5':=B5.size;let⟨T3,Gw⟩:=cG (!rt&&dD (jx<0))
 go_upto_region 26 with fail
 go_cut[133](λrv wc=>rv=.bool T3/\w5=wc)
 case first=>(
 have N:=ae Gw;cases rt;{
 by_cases hx:jx<0;{
 obtain rfl:T3:=by rw[<-N];simp[hx]
 go_wp2_with fail;go_meet
 first|exact⟨rfl,rfl⟩|exact⟨by simp[hx],rfl⟩}
 {
 obtain rfl:T3=dF:=by rw[<-N];simp[hx]
 go_wp2_with fail;go_meet
 first|exact⟨rfl,rfl⟩|exact⟨by simp[hx],rfl⟩}}
 {obtain rfl:T3=dF:=N.C;go_wp2_with fail;go_meet;exact⟨rfl,rfl⟩})
 case rest=>(
 obtain⟨rfl,rfl⟩:=hcut;have o:=ae E7;rw[ae Gw]at o;cases T3;rotate_left;{rw[aM rfl]at o;have E9:=ag o;go_wp2_with fail;obtain⟨s,SW,NW,-,-,BW⟩:=ae y w5 B5;exact rq 2 4 5 134 135 5 results52 s.1 s.2.2.1 s.2.2.2 en em SW NW (Fr.H BW) (BW.h hB) hB E9};rw[aL aj]at o;obtain⟨LC,-,-,-,-,-⟩:=ae y w5 B5;let⟨o0,o1,o2,o3,o4,o5,o6⟩:=Lg LC.2.1.1;have k0:=LC.1.cells;by_cases UZ:K=13;{have N:=ae hj;omega};{
 have eg2:(K==13)=dF:=by simp[UZ]
 rw[aL UZ]at o;have vQ:rt=dF:=by rw[<-ae ert,BQ];simp[UZ]
 have hx:¬jx<0:=λhx=>by have h:=ae Gw;rw[vQ]at h;simp[hx]at h
 let⟨k,nd,ek,hk⟩:=dB4 (ns:=ns) (P:=P) (ae ejx▸hx);rw[ae ejx]at ek;subst ek;rw[uC]at o;have E9:=ag o;have lu:=bu hk;have HK:=ag hk;go_wp2_with fail;obtain⟨-,S5,N5,-,V5,ZS⟩:=ae y w5 B5;refine(dz7 en em HK eV S5 N5 V5 (aK ZS.size) hn hm (hW.nb nd lu) (hW.vl nd lu) hv hW.pb hW.g (hW.ex nd lu) (ag (by have:=ae hj;have:=ae JK1;have:=ae JK3;have:=ae JK4;omega)) E9).h ?_;rintro r w9⟨X,c',W,Z,Dv,Nv,Ev,sk,rfl,tp,qB,tD,tN,tE,hF,jl⟩;obtain⟨s,-,-,-,-,ZR⟩:=ae y w5 B5;have M:=ag (TX.T (show TX w5 (U w.heap) _ _ _ from⟨s.1,s.2.2.1,s.2.2.2⟩) hF bf);have HQ:=ag (show QR B w5 w9 _ R.1 R.2 from⟨X,c',W,Z,Dv,Nv,Ev,sk,rfl,tp,qB,tD,tN,tE,hF,jl⟩);obtain⟨dp,dc,rfl⟩:=tD.dy;obtain⟨xp,xc,rfl,-⟩:=RT.form tN;obtain⟨yp,yc,rfl,-⟩:=RT.form tE;have Ol:=ag ZR;have k0:=M.1.cells;let⟨q0,q1,q2,q3,q4,q5,qf⟩:=M.2.1.cells;let⟨r0,r1,r2,r3,r4,r5,r6,r7,rf⟩:=M.2.2.cells;go_wp2;let⟨fF,bF⟩:=TX.fin M (.U R.1.e) (.U R.1.g) (.U R.1.x) (.I R.1.t) (.S X (J R.1.E) c') (.S W (J R.1.N) Z) (.I R.2.k) (.U R.2.i) (.U R.2.e) (.U R.2.g) (.I R.2.n) (.S dp (J R.2.sL) dc) (.S xp (J R.2.nms) xc) (.S yp (J R.2.rZ) yc);refine cg (v:=dT #[bS R.1.e R.1.g R.1.x R.1.t (.S X (J R.1.E) c') (.S W (J R.1.N) Z),gG R.2.k R.2.i R.2.e R.2.g R.2.n (.S dp (J R.2.sL) dc) (.S xp (J R.2.nms) xc) (.S yp (J R.2.rZ) yc)]) (by simp[results,results52,go_sem,q0,q1,q2,q3,q4,q5,r0,r1,r2,r3,r4,r5,r6,r7]) rfl ?_;exact QR.low HQ (Fr.H Ol) (Ol.h hB) fF bF hB}))))
def jK.h(h:jK B w v ns)(j:B'<=B):jK B' w v ns:=by
 let⟨cs,E,D,y,u⟩:=RT.h h j;refine⟨cs,E,D,y,λi x c s hc=>?_⟩;let⟨P,V,H,iU,e,r,q,o,m⟩:=u i x c s hc;exact⟨P,V,H,iU,e,r.h j,q.h j,o.h j,m.h j⟩
def QR.h{D:SD}(h:QR B w w' r D R)(i:B'<=B):QR B' w w' r D R:=by
 obtain⟨p,c,q,d,N,M,Ev,E,e,u,x,s,m,o,j,y⟩:=h;exact⟨p,c,q,d,N,M,Ev,E,e,u.h i,jK.h x i,s,RT.h m i,mZ.h o i,j,y.h i⟩
def SD0:SD:=⟨0,0,0,0,[],[]⟩
def AP(e g x t:Int)(ss:List aB)(ns:List ar)(K S F E iG:Int)(P V:LI):SD×RP:=if lr e g x t ss ns then mW ⟨e,g,x,t,ss,ns⟩ K S F E iG P V else(SD0,ni 1)
def dh7(en:Le ss n)(em:Le ns m){S iG:Int}(eP:Le P np)(eV:Le V nv)(h:O (lI w (.S p n c) ss))(hN:O (gJ w (.S q m d) ns))(hP:O (Rd w (.S pp np cp) P))(hV:O (Rd w (.S pq nv cv) V))(hn:Mg n)(hm:Mg m)(hp:np<=1048576)(y:nv<=1048576)(fM:np<=cp)(gC:cp<=maxLen)(gM:O (Bs ss))(cQ:O (Bn ns))(hW:O (lr e g x t ss ns->WF ⟨e,g,x,t,ss,ns⟩))(bP:O (aC P)){R:SD×RP}(hj:O (K=1\/K=3\/K=4\/K=5\/K=7\/K=8\/K=9))(eR:O (AP e g x t ss ns K S F E iG P V=R)):dQ dG 92 #[bS e g x t (.S p n c) (.S q m d),qZ K S (.S pp np cp) F (.S pq nv cv) E iG] w λr w'=>QR (U w.heap) w w' r R.1 R.2:=by
 let⟨W0,cI,b0,z0,C0⟩:=xu w (.U e) (.U g) (.U x) (.I t) (.S p n c) (.S q m d);obtain⟨W1,fx,b1,z1,C1,-⟩:=bQ W0 #[.I K,.U S,.S pp np cp,.I F,.S pq nv cv,.U E,.U iG] 65;let⟨W2,fE,b2,z2,C2⟩:=Al W1;let⟨M,jI,b3,z3,C3⟩:=xt W2 (.I 0) (.U 0) (.U 0) (.U 0) (.I 0) aO aO aO;rw[z0]at C1 z1;rw[z1]at C2 z2;rw[z2]at C3 z3;have LQ:QB M (U w.heap) _ _ _ _:=⟨((C0.H b1).H b2).H b3,(C1.H af b2).H af b3,C2.H b3,C3⟩;have bW:=ai (ai (ai b0 b1) b2) b3;have B:=ag (λ(v:G)(y:Bw M v)=>aF (QB.W LQ (λj h1 h2=>y.block j af)) (aF (h.H (ai bW y)) (aF (hN.H (ai bW y)) (aF (hP.H (ai bW y)) (aF (hV.H (ai bW y)) (ai bW y))))));have BR:=ag (aR (U M.heap) M);have hR:=ae eR;unfold AP at hR;let⟨ok,me⟩:=cG (lr e g x t ss ns);rw[ae me]at hR;have HR:=ag hR;go_in;go_wp2_with fail;rw[<-cI,<-fx,<-fE,<-jI];refine br (ah9 en em (ae B M BR).2.1 (ae B M BR).2.2.1 hn hm gM cQ me) λw1 au=>?_;have B1:=ag au;have JA:=au.size;have e9:=ae HR;cases ok;{rw[aL aj]at e9;have E9:=ag e9;go_wp2_with fail;refine br (XJ) λw2 ay=>?_;obtain⟨LW,-,-,-,-,bw⟩:=ae B w2 (ai B1 ay);have jq:=ag (show TX w2 (U w.heap) _ _ _ from⟨LW.1,LW.2.2.1,LW.2.2.2⟩);have BW:=ag bw;let⟨q0,q1,q2,q3,q4,q5,qf⟩:=jq.2.1.cells;let⟨r0,r1,r2,r3,r4,r5,r6,r7,rf⟩:=jq.2.2.cells;go_wp2;let⟨fF,bF⟩:=TX.fin jq (.U 0) (.U 0) (.U 0) (.I 0) aO aO (.I 1) (.U 0) (.U 0) (.U 0) (.I 0) aO aO aO;refine cg (v:=dT #[bS 0 0 0 0 aO aO,gG 1 0 0 0 0 aO aO aO]) (by simp[results,results92,go_sem,q0,q1,q2,q3,q4,q5,r0,r1,r2,r3,r4,r5,r6,r7]) rfl ?_;rw[<-ae E9];exact⟨dN,0,dN,0,aO,aO,aO,[],rfl,eh.nil _ _,RT.nil _ _ _ _ _,TB.nil _,RT.nil _ _ _ _ _,RT.nil _ _ _ _ _,Fr.H (BW.Z bF),BW.Z bF⟩};{rw[aM rfl]at e9;have E9:=ag e9;go_wp2_with fail;have HCG:=ag (λ(vs:iA)(w:G)=>show(callFunc 52 vs).run dG w=.ok (.enter 52 vs) w by kernel_rfl);let⟨D,dr⟩:=aG w1.drew;have cR:Bw M D:=ai (ae B1) (dr▸aD.drew);have BA:=ag cR;have zA:=cR.size;have SA:=ag (λ(v:G)(hQ:QB v (U w.heap) [.U e,.U g,.U x,.I t,.S p n c,.S q m d] [.I K,.U S,.S pp np cp,.I F,.S pq nv cv,.U E,.U iG] [.U 0,.U 0,.U 0,.I 0,aq,aq] [.I 0,.U 0,.U 0,.U 0,.I 0,aO,aO,aO])=>aF hQ.1.Ww (aF (hQ.2.1.1 0 _ rfl) (aF (hQ.2.1.1 1 _ rfl) (aF (hQ.2.1.1 2 _ rfl) (aF (hQ.2.1.1 3 _ rfl) (aF (hQ.2.1.1 4 _ rfl) (aF (hQ.2.1.1 5 _ rfl) (hQ.2.1.1 6 _ rfl))))))));refine fk (λw'=>(I w' (Aw w 0)=dU e/\I w' (Aw w 1)=dU g/\I w' (Aw w 2)=dU x/\I w' (Aw w 3)=dI t/\I w' (Aw w 4)=dS p n c/\I w' (Aw w 5)=dS q m d)/\I w' (Ax w 0)=dI K/\I w' (Ax w 1)=dU S/\I w' (Ax w 2)=dS pp np cp/\I w' (Ax w 3)=dI F/\I w' (Ax w 4)=dS pq nv cv/\I w' (Ax w 5)=dU E/\I w' (Ax w 6)=dU iG) (dr▸ae SA D (ae B D cR).1) λhS=>?_;rw[<-dr]at hS⊢;refine fO 0 2 hS ?_;refine ew 1 λKK hK=>?_;refine jg (aA3 en em (ae B D BA).2.1 (ae B D BA).2.2.1 hn hm (ag λs hs=>⟨(ae gM s hs).1,λev he=>((ae gM s hs).2 ev he).2⟩) (ag λnd aJ=>(ae cQ nd aJ).2)) ?_;rintro r v1⟨p1,c1,q1,d1,rfl,⟨Qs,QC⟩,D7,ay⟩;refine⟨_,rfl,?_⟩;have B2:=ag (ai BA ay);have LD:=ay.size;have H1:=bG QC D7;refine bL hK (by exact SA v1 (ae B v1 B2).1) λhS=>?_;refine ew 3 λKK hK=>?_;refine Tm aS aS aS aS (λ_=>ae HCG _ _) (cI1 en em eP eV H1.1 H1.2 (ag (ae B v1 B2).2.2.2.1) (ag (ae B v1 B2).2.2.2.2.1) LD hn hm hp y fM gC (ae hW me) bP hj E9) ?_;rintro r v2⟨p',c',q',d',Dv,Nv,Ev,sk,rfl,tp,qB,tD,tN,tE,hF,jl⟩;refine⟨_,rfl,?_⟩;have z3':=hF.1;have L2:=ag (QB.W (w'':=v2) (ae B v1 B2).1 (λj h1 h2=>jl.block j af));have HQ:=ag (show QR (U D.heap) v1 v2 _ R.1 R.2 from⟨p',c',q',d',Dv,Nv,Ev,sk,rfl,tp,qB,tD,tN,tE,hF,jl⟩);obtain⟨dp,dc,rfl⟩:=tD.dy;obtain⟨N,W,rfl,-⟩:=RT.form tN;obtain⟨yp,yc,rfl,-⟩:=RT.form tE;refine bL hK (by exact SA v2 L2) λhS=>?_;refine fO 4 5 hS ?_;refine bR8 6 7 4 5 15 16 aU aU aU rfl rfl (U w.heap+1+1) (U w.heap+1+1+1) R.1.e R.1.g R.1.x R.1.t p' (J R.1.E) c' q' (J R.1.N) d' R.2.k R.2.i R.2.e R.2.g R.2.n dp (J R.2.sL) dc N (J R.2.nms) W yp (J R.2.rZ) yc rfl rfl rfl rfl L2.2.2.1 L2.2.2.2 af (λv y _=>?_) ?_;{have h1:=L2.1.de (y.block _ af);have h2:=L2.2.1.de (y.block _ af);exact⟨h1.Ww,h2.1 0 _ rfl,h2.1 1 _ rfl,h2.1 2 _ rfl,h2.1 3 _ rfl,h2.1 4 _ rfl,h2.1 5 _ rfl,h2.1 6 _ rfl⟩};intro w' au qc f1 I0;refine Bp ?_;have Z:=(ae B v1 B2).2.2.2.2.2;have HF:=ag (QR.low (QR.h HQ (by omega:U w.heap<=U D.heap)) (Fr.H Z) Z f1 (I0.h af) aA);let⟨q0,q1',q2,q3,q4,q5,qf⟩:=au.cells;let⟨r0,r1,r2,r3,r4,r5,r6,r7,rf⟩:=qc.cells;go_wp2;refine cg (v:=dT #[bS R.1.e R.1.g R.1.x R.1.t (.S p' (J R.1.E) c') (.S q' (J R.1.N) d'),gG R.2.k R.2.i R.2.e R.2.g R.2.n (.S dp (J R.2.sL) dc) (.S N (J R.2.nms) W) (.S yp (J R.2.rZ) yc)]) (by simp[results,results92,go_sem,q0,q1',q2,q3,q4,q5,r0,r1,r2,r3,r4,r5,r6,r7]) rfl ?_;exact HF}
def CE{α:Type}(f:α->α)(k:Nat)(xs:List α):List α:=(xs.take k).map f++xs.drop k
def cw7{α:Type}(f:α->α)(xs:List α):CE f 0 xs=xs:=by simp[CE]
def cw9{α:Type}(f:α->α){xs:List α}(h:J xs<=k):CE f k xs=xs.map f:=by
 rw[CE,lY h,Uj h,yQ]
def Zr{α:Type}(f:α->α){xs:List α}{x:α}(h:xs[k]?=x):(CE f k xs)[k]?=x:=by
 have i:=(bg.1 h).1;rw[CE,pI bq,JS,ir,rM,show k+(k-min k (J xs))=k by omega];exact h
def cw8{α:Type}(f:α->α){xs:List α}{x:α}(h:xs[k]?=x):(CE f k xs).set k (f x)=CE f (k+1) xs:=by
 have i:=(bg.1 h).1;have j:=(bg.1 h).2;rw[CE,CE,Xw _ _ bq,ir,rM,show k-min k (J xs)=0 by omega,Hu i,Pu,pZ,h];simp
def eh.ge{g:Nat}(h:eh B w (.T g n c) ss Qs):B<=g:=(h.row.lt g rfl).1
def DuR(w:G)(e g x t:Int)(n m:Nat)(ss:List aB)(ns:List ar)(r:Ending)(w':G):Prop:=∃j q i o B s,r=dR (bS e g x t (.S j n q) (.S i m o))/\U w.heap<=B/\eh B w' (.S j n q) ss s/\jK B w' (.S i m o) ns/\Bw w w'
def ex3(en:Le ss n)(em:Le ns m)(h:lI w (.S p n c) ss)(hN:gJ w (.S q m d) ns)(hn:Mg n)(hm:Mg m)(gM:O (∀s∈ss,J s.2.2<=1048576/\∀ev∈s.2.2,J ev.2<=1048576))(nL:O (∀nd∈ns,J nd.A<=1048576/\J nd.V<=1048576/\J nd.y<=1048576/\J nd.X<=1048576)):dQ dG 93 #[bS e g x t (.S p n c) (.S q m d)] w (DuR w e g x 0 n m (ss.map ng) (ns.map pG)):=by
 let⟨W0,cI,b0,z0,C0⟩:=xu w (.U e) (.U g) (.U x) (.I t) (.S p n c) (.S q m d);let⟨W1,fx,b1,z1,C1⟩:=xu W0 (.U 0) (.U 0) (.U 0) (.I 0) aq aq;rw[z0]at C1 z1;have bW:=ai b0 b1;have HC:=ag (aA3 (e:=e) (g:=g) (x:=x) (t:=t) en em (h.H bW) (hN.H bW) hn hm gM nL);have HB:=du C1 bW z1;go_in;go_wp2_with fail;rw[<-cI,<-fx];refine HC.h ?_;rintro r w1⟨R,Z,N,X,rfl,⟨Qs,hS⟩,D7,au⟩;let⟨W2,fE,b2,z2,C2⟩:=xu w1 (.U e) (.U g) (.U x) (.I 0) (.S R n Z) (.S N m X);let⟨ob,hob⟩:=aG (U w1.heap);rw[<-hob]at C2;have F2:=Fr.H (T:=[41]) b2;have y:=mX (hS.T F2) (dh.T D7 F2) C2 ((HB.1.H au).H b2) ((HB.2.1.Z (au.h (aK HB.2.2))).Z (b2.h (by have:=HB.2.2;have:=au.size;omega)));let⟨B,hB⟩:=aG (U W1.heap);rw[<-hB]at y;have fN:U w.heap<=B:=aK HB.2.2;go_wp2;rw[<-hob,<-fE];clear fE hob
 go_loopw[4](λiv wr=>∃(k:Nat)(Qs:List dV),k<=n/\iv=.I k/\O (eh B wr (.S R n Z) (CE ng k ss) Qs/\jK B wr (.S N m X) ns/\BX wr ob [.U e,.U g,.U x,.I 0,.S R n Z,.S N m X]/\BX wr (U w.heap+1) [.U 0,.U 0,.U 0,.I 0,aq,aq]/\Bw w wr)) (λiv _=>n-(intOf iv).toNat)
 exact⟨0,Qs,cO _,rfl,by rw[cw7];exact y⟩;{
 obtain⟨k,Qs,hk,rfl,y⟩:=hrel;have i0:=y.2.2.1.cells;by_cases aH:k<n;{
 have cL:=bM k n;obtain⟨s,W⟩:∃s,ss[k]?=Y s:=⟨_,bD (ae en▸aH)⟩;obtain⟨gs,Q,rfl,-,-,hQ,j0,j1,j2,hq,jf⟩:=y.1.at (Zr ng W);have E:=y.1.ge;have wk:IntKind.i64.wrap ((k:Int)+1)=((k+1:Nat):Int):=by rw[kP _ af];omega
 let⟨S1,D⟩:=y.1.dl (Zr ng W) 0;have bR:k<J (CE ng k ss):=(bg.1 (Zr ng W)).1;obtain⟨-,-,-,-,y4,-,-⟩:=(y.2.2.1.T D).cells;obtain⟨gs',Q',eg,-,-,-,-,-,yq,-,yf⟩:=S1.at (i:=k) (s:=(s.1,0,s.2.2)) (by rw[aV7 bR]);obtain⟨rfl,-⟩:=Ao eg;let⟨iY,hY⟩:=aG (wr.setCell (Ad gs (k*3+1)) (.I 0));rw[<-hY]at S1 D;let⟨S2,F2⟩:=S1.aJ2 (i:=k) (s:=(s.1,0,s.2.2)) (by rw[aV7 bR]) hQ (w1:=iY) (v':=aq) (q':=[]) (RT.nil _ _ _ _ _) (Zn) (λb e=>by simp[Value.ownBlock]at e);rw[Uf,show((s.1,0,[]):aB)=ng s from rfl,cw8 ng W]at S2;let⟨V,hV⟩:=aG (iY.setCell (Ad gs (k*3+2)) aq);rw[<-hV]at S2 F2;have F3:=D.sub (T':=[119,97]) aj;have FF:=F3.Z F2;have BV:Bw w V:=by rw[hV,hY];exact(y.2.2.2.2.setCell (p:=(Ad gs _)) (gv fN E) _).setCell (p:=(Ad gs _)) (gv fN E) _
 have HN:=mX S2 (dh.T y.2.1 FF) (y.2.2.1.T FF) (y.2.2.2.1.T FF) BV;rw[hY]at hV;go_wp2;rw[<-hV];go_roundw;exact⟨k+1,_,af,by go_num,HN⟩;exact cW};{
 have cL:=fq k n;have ek:k=n:=af;have M:=ae y;rw[cw9 ng (by rw[ae en];omega)]at M;have y:=ag M;go_wp2
 go_loopw[5](λiv wr=>∃(k:Nat),k<=m/\iv=.I k/\O (eh B wr (.S R n Z) (ss.map ng) Qs/\jK B wr (.S N m X) (CE pG k ns)/\BX wr ob [.U e,.U g,.U x,.I 0,.S R n Z,.S N m X]/\BX wr (U w.heap+1) [.U 0,.U 0,.U 0,.I 0,aq,aq]/\Bw w wr)) (λiv _=>m-(intOf iv).toNat)
 exact⟨0,cO _,rfl,by rw[cw7];exact y⟩;{
 obtain⟨k,hk,rfl,y⟩:=hrel;have i0:=y.2.2.1.cells;by_cases aH:k<m;{
 have cL:=bM k m;obtain⟨nd,W⟩:∃s,ns[k]?=Y s:=⟨_,bD (ae em▸aH)⟩;obtain⟨gn,P,V,H,iU,rfl,-,-,-,-,-,-,-,-,-,j7,-,-,-,-,jf⟩:=y.2.1.at (Zr pG W);have E:=(RT.lt y.2.1 gn rfl).1;have wk:IntKind.i64.wrap ((k:Int)+1)=((k+1:Nat):Int):=by rw[kP _ af];omega
 let⟨S1,D⟩:=dh.put y.2.1 (Zr pG W) (j:=7) bf aq (pG nd) (λw' P V H iU h1 h2 h3 h4 _=>⟨P,V,H,aq,rfl,h1,h2,h3,TU.nil _⟩);rw[cw8 pG W]at S1;let⟨iY,hY⟩:=aG (wr.setCell (Ad gn (k*8+7)) aq);rw[<-hY]at S1 D;have BV:Bw w iY:=by rw[hY];exact y.2.2.2.2.setCell (p:=(Ad gn _)) (gv fN E) _
 have HN:=mX (y.1.T D) S1 (y.2.2.1.T D) (y.2.2.2.1.T D) BV;go_wp2;rw[<-hY];go_roundw;exact⟨k+1,af,by go_num,HN⟩;exact cW};{have cL:=fq k m;have M:=ae y;rw[cw9 pG (by rw[ae em];omega)]at M;let⟨r0,r1,r2,r3,r4,r5,rf⟩:=M.2.2.2.1.cells;let⟨cur,Iz⟩:=M.2.2.2.1.2;have D:Fr [41] wr (gu wr (U w.heap+1) (.U e) (.U g) (.U x) (.I 0) (.S R n Z) (.S N m X)):=vx Iz;have HN:=du (M.1.T D) (dh.T M.2.1 D) (M.2.2.2.2.Z ((tR (w:=wr) (U w.heap+1) (.U e) (.U g) (.U x) (.I 0) (.S R n Z) (.S N m X)).h af));go_wp2;exact cg (v:=bS e g x 0 (.S R n Z) (.S N m X)) (by simp[results,results93,go_sem,r0,r1,r2,r3,r4,r5]) rfl ⟨_,_,_,_,B,_,rfl,fN,HN.1,HN.2.1,HN.2.2⟩}}}}
def aZ2{n:Int}(h:Rd w (.slice p (J l) c) l)(E:J l<=2097152):dQ dG 96 #[tB (.slice p (J l) c) n] w λe w'=>∃i j,e=dR (tB (.slice i (J l) j) n)/\Own (U w.heap) w' (.slice i (J l) j) l/\Below (U w.heap) w w':=by
 have q:Below (U w.heap) w ((w.alloc (dO #[.slice p (J l) c,.int .i64 n] 35)).alloc (dO #[.slice dN 0 0,.int .i64 0] 35)):=(aD.alloc aA _).alloc aj _;have u:=ag (h.H q.drew);clear h;go_in;go_wp2_with fail
 go_region_held3 (λw'=>I w' (Aw w 0)=Y (.slice p (J l) c)/\I w' (Aw w 1)=Y (.int .i64 n)) (first|go_keep|(simp[y,x];done))
  (first|(go_at_call 88;refine(aZ3 (by exact ae u) E).h ?_;rintro e m⟨i,j,rfl,s,r⟩;obtain⟨o,N⟩:=I5 r;have y:I m (Aw w 0)=Y (.slice p (J l) c):=(o _ _ bq).Z aj;have x:I m (Aw w 1)=Y (.int .i64 n):=(o _ _ bq).Z aj))
 have M:Below (U w.heap) w m:=q.drew.Z (r.h bq);have D:Own (U w.heap+2) m (.slice i (J l) j) l:=by simpa using s
 clear u q s r y x;go_wp2;refine cg (v:=tB (.slice i (J l) j) n) (by simp[results,results96,go_sem,o]) rfl ⟨i,j,rfl,Own.h (B:=U w.heap+2) ?_ af,?_⟩;{
 repeat(refine sy ?_ aj _)
 exact D};{
 repeat(refine ri ?_ (by simp<;>omega) _)
 exact M}
theorem dI7(r q m:OA)(D y x:Nat)(n0 n1 n2:Int)(l0 l1 i:LI)(w:G)(h0:Rd w (.slice r (J l0) D) l0)(h1:Rd w (.slice q (J l1) y) l1)(h2:Rd w (.slice m (J i) x) i)(m0:J l0<=2097152)(m1:J l1<=2097152)(m2:J i<=2097152):dQ dG 50 #[mV (.slice r (J l0) D) n0 (.slice q (J l1) y) n1 (.slice m (J i) x) n2] w λe w'=>
   ∃j u E d1 V d2,e=dR (mV (.slice j (J l0) u) n0 (.slice E (J l1) d1) n1 (.slice V (J i) d2) n2)∧
    ko (U w.heap) w' (.slice j (J l0) u) (.slice E (J l1) d1) (.slice V (J i) d2) l0 l1 i/\Below (U w.heap) w w':=by
 go_in;go_wp2_with fail;let⟨W,s⟩:=aG ((w.alloc (dO #[.slice r (J l0) D,.int .i64 n0,.slice q (J l1) y,.int .i64 n1,.slice m (J i) x,.int .i64 n2] 37)).alloc (dO #[.slice dN 0 0,.int .i64 0,.slice dN 0 0,.int .i64 0,.slice dN 0 0,.int .i64 0] 37));have X:Below (U w.heap) w W:=s▸(aD.alloc aA _).alloc aj _;have M:nT W (U w.heap) (.slice r (J l0) D) (.int .i64 n0) (.slice q (J l1) y) (.int .i64 n1) (.slice m (J i) x) (.int .i64 n2):=by rw[s];simp[nT]
 have r0:nT W (U w.heap+1) (.slice dN 0 0) (.int .i64 0) (.slice dN 0 0) (.int .i64 0) (.slice dN 0 0) (.int .i64 0):=by rw[s];simp[nT]
 have f0:∀o,W.frozen? (Ax w o)=dF:=by intro o;rw[s];simp
 have zW:U w.heap+2=U W.heap:=by rw[s];simp
 rw[<-s];clear s;have e0:=h0.H X.drew;have e1:=h1.H X;have e2:=h2.H X;clear h0 h1 h2;have Uo:nT W.drew (U w.heap) (.slice r (J l0) D) (.int .i64 n0) (.slice q (J l1) y) (.int .i64 n1) (.slice m (J i) x) (.int .i64 n2):=M
 go_region_held3 (λw'=>nT w' (U w.heap) (.slice r (J l0) D) (.int .i64 n0) (.slice q (J l1) y) (.int .i64 n1) (.slice m (J i) x) (.int .i64 n2)) (first|with_reducible exact Uo|with_reducible exact k1|with_reducible exact k2|with_reducible exact k3|(clear M Uo k1 k2 b1 Z N f3 e0 e1 e2 o0 o1 o2 au ay R r0 f0 X;refine⟨?_,?_,?_,?_,?_,?_⟩<;>go_keep))
  (first
   |(go_at_call_of 96 (Value.agg #[.slice r (J l0) D,.int .i64 n0]);refine(aZ2 (by exact e0) m0).h ?_;rintro e S⟨j,u,rfl,o0,au⟩;have b1:=ai (aR (U W.heap) W).drew au;have k1:=nT.H M b1)
   |(go_at_call_of 96 (Value.agg #[.slice q (J l1) y,.int .i64 n1]);refine(aZ2 (by exact e1.H b1) m1).h ?_;rintro e w2⟨E,d1,rfl,o1,ay⟩;have Z:=ai b1 ay;have k2:=nT.H M Z)
   |(go_at_call_of 96 (Value.agg #[.slice m (J i) x,.int .i64 n2]);refine(aZ2 (by exact e2.H Z) m2).h ?_;rintro e w3⟨V,d2,rfl,o2,R⟩;have N:=ai Z R;have k3:=nT.H M N;have r3:=nT.H r0 N;have f3:=Ag f0 N af))
 have z1:U w.heap+2<=U S.heap:=by have:=au.size;simp at this;omega
 have z2:U S.heap<=U w2.heap:=ay.size;have z3:U w2.heap<=U w3.heap:=R.size;have bb:Below (U w.heap) w w3:=ai X N;have u0:Own (U W.heap) w3 (.slice j (J l0) u) l0:=Own.H (Own.H (by simpa using o0) ay) R;have u1:Own (U S.heap) w3 (.slice E (J l1) d1) l1:=Own.H o1 R;have u0':Own (U W.heap) S (.slice j (J l0) u) l0:=by simpa using o0
 have ra:=r3;clear M Uo k1 k2 k3 b1 Z N e0 e1 e2 au ay R r0 f0 o0;go_wp2;refine cg (v:=mV (.slice j (J l0) u) n0 (.slice E (J l1) d1) n1 (.slice V (J i) d2) n2) (by simp[results,results50,go_sem,ra]) rfl ⟨j,u,E,d1,V,d2,rfl,?_,?_⟩;{
 refine ko.mk' (B:=U w.heap) (B1:=U S.heap) (B2:=U w2.heap) (u0'.h af) o1 (Own.h (B:=U W.heap) ?_ af) ?_ ?_ aA aA af af;{
 repeat(refine sy ?_ bq _)
 exact u0};{
 repeat(refine sy ?_ bq _)
 exact u1};{
 repeat(refine sy ?_ bq _)
 exact o2}};{
 repeat(refine ri ?_ aj _)
 exact bb}
def dC4(e g x t:Int)(p q:OA)(c n d m:Nat)(ss:List aB)(ns:List ar)(i A2:List Lf)(k:Int)(w:G)(h1:kG w (.S p n c) ss i)(h2:lK w (.S q m d) ns A2)(R:ft w i)(N:ft w A2)(X:0<=k)(k1:k+J i+J A2<=100000000):dQ dG 32 #[bS e g x t (.S p n c) (.S q m d),.I k] w λr w'=>r=dR (.I (k+J i+J A2))/\Mk w w' (i++A2) k:=by
 let⟨W,D⟩:=aG (w.alloc (dO #[.U e,.U g,.U x,.I t,.S p n c,.S q m d] 41));have s:=gF D;have Z:fK W (U w.heap) e g x t (.S p n c) (.S q m d):=by rw[D];simp[fK]
 have M0:=Mk.tT s k;have H1:=ag (kG.H h1 s);have H2:=ag (lK.H h2 s);have y:=ag (R.H s);have I2:=ag (N.H s);have B:=bG R N;have E:=ag M0;have HC:=ag Z;go_in;go_wp2_with fail;rw[<-D];refine br (dC5 p c n ss i k _ H1 y X af) λM j=>?_;let⟨j0,j1,j2,j3,j4,j5⟩:=ae HC;have c4:I M (Aw w 4)=dS p n c:=j.head y j4;have c5:I M (Aw w 5)=dS q m d:=j.head y j5;have H3:=ag (lK.mk H2 j y);have I3:=ag (I2.mk j y);have M1:=ag (E.trans' j aj (ft.nil _) B.1);go_wp2_with fail;refine br (dC8 q d m ns A2 (k+J i) _ H3 I3 af af) λw2 V=>?_;have M2:=M1.trans' V aj (by simpa using B.1) B.2;go_wp2;go_ret;exact⟨rfl,by simpa using M2⟩
def dX4(e g x t:Int)(p q:OA)(c n d m:Nat)(ss:List aB)(ns:List ar)(i A2:List Lf)(k:Int)(w:G)(M:kG w (.S p n c) ss i)(E:lK w (.S q m d) ns A2)(s:je w (i++A2) k)(y:0<=k)(k1:k+J i+J A2<=100000000):dQ dG 37 #[bS e g x t (.S p n c) (.S q m d),.I k] w (Rb (.I (k+J i+J A2)) w):=by
 let⟨W,r⟩:=aG (w.alloc (dO #[.U e,.U g,.U x,.I t,.S p n c,.S q m d] 41));have j:=gF r;have B:fK W (U w.heap) e g x t (.S p n c) (.S q m d):=by rw[r];simp[fK]
 have H1:=ag (kG.H M j);have H2:=ag (lK.H E j);have Z:=ag (s.app.1.H j);have X:=ag (s.app.2.H j);have HC:=ag B;go_in;go_wp2_with fail;rw[<-r];refine br (dX5 p c n ss i k _ H1 Z y af) λw1 o=>?_;have j0:=HC.H o;have Yj:¬k+(J i:Int)<0:=af;have H3:=ag (lK.H H2 o);have V:=ag (X.H o);have R:=ai j o;go_wp2_with fail;refine br (dX9 q d m ns A2 (k+J i) _ H3 V af af) λw2 u=>?_;have N:=ai R u;have D:¬k+(J i:Int)+(J A2:Int)<0:=af;go_wp2;go_ret;exact⟨rfl,N⟩
def ZJ(e:Ev):Nat:=1+J e.2
def Vn(s:aB):Nat:=2+ji ZJ s.2.2
def Vo(nd:ar):Nat:=J nd.A+(J nd.V+(2+(J nd.y+(2+J nd.X))))
theorem bL8{α:Type}{F iG:α->Nat}(l:List α)(h:∀x∈l,F x<=iG x):ji F l<=ji iG l:=by
 induction l with
 |nil=>exact eG _
 |cons x l ih=>
  have:=ih λy i=>h y (by simp[i]);have:=h x aj;simp only[ji,kI,Ue]at*;omega
theorem bL9{α:Type}(F:α->Nat)(k:Nat)(l:List α):ji (λx=>k+F x) l=k*J l+ji F l:=by
 induction l with
 |nil=>rfl
 |cons x l ih=>
  simp only[ji,kI,Ue,kJ]at*;rw[ih,aU6];omega
def cD9(ss:List aB)(ns:List ar):ji Vn ss+ji Vo ns<=4*EU ss ns:=by
 have j:ji Vn ss<=ji (λs=>2+JD s) ss:=bL8 ss λs _=>by have:=bL9 (λe:Ev=>J e.2) 1 s.2.2;have e:ji ZJ s.2.2=ji (λe:Ev=>1+J e.2) s.2.2:=rfl;simp only[Vn,JD];omega
 have i:ji Vo ns<=ji (λs=>4+JE s) ns:=bL8 ns λs _=>by simp only[Vo,JE];omega
 rw[bL9]at j i;simp only[EU];omega
theorem aL4{α:Type}(F:α->Nat){l:List α}{y:α}(h:y∈l):F y<=ji F l:=by
 induction l with
 |nil=>cases h
 |cons z l ih=>
  have e:ji F (z::l)=F z+ji F l:=by simp[ji]
  obtain rfl|h:=fU.1 h;{omega};{have:=ih h;omega}
def aK8(h:EU ss ns<=1048576):Mg (J ss)/\Mg (J ns)/\(∀s∈ss,J s.2.2<=1048576/\∀e∈s.2.2,J e.2<=1048576)/\∀nd∈ns,J nd.A<=1048576/\J nd.V<=1048576/\J nd.y<=1048576/\J nd.X<=1048576:=by
 unfold EU at h;refine⟨af,af,λs i=>?_,λnd o=>?_⟩;{have j:=aL4 JD i;have m:JD s=J s.2.2+ji (λe:Ev=>J e.2) s.2.2:=rfl;refine⟨af,λe he=>?_⟩;have q:J e.2<=ji (λe:Ev=>J e.2) s.2.2:=aL4 (λe:Ev=>J e.2) he;omega};{have j:=aL4 JE o;have m:JE nd=J nd.A+J nd.V+J nd.y+J nd.X:=rfl;omega}
def vh(B:Nat)(w:G)(i A2:List Lf)(p:OA)(n c:Nat)(q:OA)(m d:Nat)(ss:List aB)(ns:List ar):Prop:=
 kV w (.S p n c) ss/\gJ w (.S q m d) ns/\kG w (.S p n c) ss i/\lK w (.S q m d) ns A2/\gh B w (i++A2)
def vh.W(h:vh B w A1 A2 p n c q m d ss ns)(i:∀a∈A1++A2,w'.heap[a.b]?=w.heap[a.b]?):vh B w' A1 A2 p n c q m d ss ns:=by
 obtain⟨D,y,u,s,x⟩:=h;have r:∀a∈A1,w'.heap[a.b]?=w.heap[a.b]?:=λa j=>i a (Me _ j);have o:∀a∈A2,w'.heap[a.b]?=w.heap[a.b]?:=λa j=>i a (Fu _ j);exact⟨D.kR u r,y.kR s o,kG.W u r,lK.W s o,x.W i⟩
def vh.H(h:vh B w A1 A2 p n c q m d ss ns)(i:Bw w w'):vh B w' A1 A2 p n c q m d ss ns:=h.W λa j=>i.block _ (h.2.2.2.2.jY.lt j)
def vh.rd(h:vh B w A1 A2 p n c q m d ss ns):lI w (.S p n c) ss/\gJ w (.S q m d) ns:=⟨h.1.rd,h.2.1⟩
theorem sP.gO{α:Type}{P:α->Nat->Nat->List Lf->Prop}{xs:List α}(F:α->Nat)(h:sP P sz v xs A)(r:∀x b a l,P x b a l->J l=F x):J A=ji F xs:=by
 obtain⟨p,c,i,D,q,rfl,u⟩:=h;obtain y|⟨b,o,-,s⟩:=u;{subst y;have:i=[]:=sX.1 q;subst this;rfl};{
 have key:∀k,k<=J xs->(i.take k).flatten.length=ji F (xs.take k):=by
  intro k
  induction k with
  |zero=>intro _;rfl
  |succ k ih=>
   intro B;obtain⟨x,j⟩:∃x,xs[k]?=Y x:=⟨_,bD af⟩;obtain⟨l,m⟩:∃l,i[k]?=Y l:=⟨_,bD af⟩;rw[pZ,m,ah7 F j,<-ih af,<-r _ _ _ _ (s k x l j m)];simp
 have:=key (J xs) aA;rw[wV,<-q,wV]at this;exact this}
theorem bL7{α:Type}(l:List α):ji (λ_=>1) l=J l:=by
 induction l with
 |nil=>rfl
 |cons x l ih=>simp only[ji,kI,Ue,kJ]at*;omega
def xw.gO(h:xw v xs A):J A=J xs:=by
 rw[sP.gO (λ_=>1) h (λx b a l i=>by rw[show l=_ from i];rfl)];exact bL7 xs
def Dg.gO(h:Dg v xs A):J A=J xs:=by
 rw[sP.gO (λ_=>1) h (λx b a l i=>by rw[show l=_ from i];rfl)];exact bL7 xs
variable {xs:List Ev}
def qi.gO(h:qi w v xs A):J A=ji ZJ xs:=sP.gO ZJ h λx b a l i=>by
 obtain⟨p,c,m,rfl,-,j⟩:=i;simp[ZJ,xw.gO j];omega
variable {xs:List aB}
def kG.gO(h:kG w v xs A):J A=ji Vn xs:=sP.gO Vn h λx b a l i=>by
 obtain⟨p,c,m,rfl,-,j⟩:=i;simp[Vn,qi.gO j];omega
variable {xs:List ar}
def lK.gO(h:lK w v xs A):J A=ji Vo xs:=sP.gO Vo h λx b a l i=>by
 obtain⟨y,V,u,S,s,R,r,N,M,E,D,B,rfl,⟨-,q⟩,⟨-,o⟩,⟨-,m⟩,⟨-,j⟩⟩:=i;simp[Vo,xw.gO q,xw.gO o,Dg.gO m,Dg.gO j];omega
def Oy(g:Nat):G->Nat->List dV->G
 |w,_,[]=>w
 |w,o,u::us=>Oy g (w.setCell ⟨g,o,dN⟩ u) (o+1) us
def Wz:List dV->Nat->List dV->List dV
 |r,_,[]=>r
 |r,o,u::us=>Wz (r.set o u) (o+1) us
theorem aN4{g:Nat}(h:b≠g):∀(c:List dV)(w:G)(o:Nat),(Oy g w o c).heap[b]?=w.heap[b]?
 |[],w,o=>rfl
 |u::us,w,o=>(aN4 h us _ _).Z (Pc _ _ _ _ h)
theorem bP3{g cap:Nat}:∀(c:List dV)(w:G)(o:Nat)(row:List dV),w.ownsRow B ty sz (.T g n cap) n row->(Oy g w o c).ownsRow B ty sz (.T g n cap) n (Wz row o c)
 |[],w,o,row,h=>h
 |u::us,w,o,row,h=>bP3 us _ _ _ (h.stored o u).1
theorem bP5:∀(c A i:List dV),J c<=J i->Wz (A++i) (J A) c=A++(c++i.drop (J c))
 |[],A,i,_=>by simp[Wz]
 |u::us,A,r::rs,h=>by have:=bP5 us (A++[u]) rs (by simpa using h);rw[Wz,show(A++r::rs).set (J A) u=(A++[u])++rs by simp,show J A+1=J (A++[u]) by simp,this];simp
theorem cw3{cs:List (List dV)}(h:∀c∈cs,J c=sz):J cs.flatten=J cs*sz:=by
 induction cs with
 |nil=>simp
 |cons c cs ih=>
  rw[tW,dm,h c aj,ih λd i=>h d (by simp[i]),kJ,DC];omega
def By{α:Type}(el:G->α->List dV->List Lf->Prop)(ty:TypeId)(o iG n:Nat)(w:G)(k:Nat)(xs:List α):Prop:=
 ∃(cs:List (List dV))(m:List (List Lf))(j:List dV),J cs=k/\J m=k/\(∀c∈cs,J c=o)/\w.ownsRow iG ty o (.T iG n n) n (cs.flatten++j)/\(∀(i:Nat)(x:α)(c:List dV)(l:List Lf),xs[i]?=x->cs[i]?=Y c->m[i]?=l->el w x c l)/\gh (iG+1) w m.flatten
def By.zero{α:Type}{el:G->α->List dV->List Lf->Prop}(xs:List α)(h:w.ownsRow iG ty sz (.T iG n n) n row):By el ty sz iG n w 0 xs:=
 ⟨[],[],row,rfl,rfl,λc hc=>(by cases hc),h,λi x c l _ hc=>(by simp at hc),gh.nil _ _⟩
def By.cell{α:Type}{el:G->α->List dV->List Lf->Prop}{xs:List α}(h:By el ty sz iG n w k xs)(s:Bw w w2)(r:k<n):(∀j,j<sz->∃u,I w2 (Ad iG (k*sz+j))=Y u)/\∀o,w2.frozen? (Ad iG o)=dF:=by
 obtain⟨cs,R,m,N,M,E,i,D,B⟩:=h;have q:=s.block iG (i.lt iG rfl).2;have x:=Pd sz (show k+1<=n from r);rw[DC]at x;refine⟨λj y=>?_,λo=>(AO q).Z (i.frozenAt o)⟩;rw[gj q,i.cellAt _ af];exact⟨_,bD (by rw[i.1];omega)⟩
variable {c:List dV}
def By.step{α:Type}{el:G->α->List dV->List Lf->Prop}{xs:List α}{x:α}{l:List Lf}(h:By el ty sz iG n w k xs)(bj:∀w w' x c l,el w x c l->(∀a∈l,w'.heap[a.b]?=w.heap[a.b]?)->el w' x c l)(hk:k<n)(hx:xs[k]?=Y x)(W:Bw w w2)(iL:el w2 x c l)(hc:J c=sz)(Z:gh (U w.heap) w2 l):By el ty sz iG n (Oy iG w2 (k*sz) c) (k+1) xs:=by
 obtain⟨cs,Ls,o,N,h2,h3,B,h5,u⟩:=h;have X:=(B.lt iG rfl).2;have S:∀a∈l,(Oy iG w2 (k*sz) c).heap[a.b]?=w2.heap[a.b]?:=λa s=>aN4 (aK (Z.lo a s)) _ _ _;have V:∀a∈Ls.flatten,(Oy iG w2 (k*sz) c).heap[a.b]?=w.heap[a.b]?:=λa s=>(aN4 (aK (u.lo a s)) _ _ _).Z (W.block _ (u.jY.lt s));have E:J cs.flatten=k*sz:=by rw[cw3 h3,N]
 have h7:=Pd sz (show k+1<=n from hk);rw[DC]at h7;have h8:=B.1;rw[dm,E]at h8;have h9:w2.ownsRow iG ty sz (.T iG n n) n (cs.flatten++o):=by refine⟨B.1,?_⟩;obtain hn|⟨g,cap,R,e,aP,hg,r⟩:=B.2;{exact .L hn};{cases e;exact .R ⟨iG,n,R,rfl,aP,(W.block iG X).Z hg,r⟩}
 refine⟨cs++[c],Ls++[l],o.drop sz,by simp[N],by simp[h2],λd j=>?_,?_,λi y d m D j hm=>?_,?_⟩;{obtain j|j:=jd.1 j;{exact h3 d j};{rw[pY.1 j];exact hc}};{have:=bP3 c w2 (k*sz) _ h9;rw[<-E,bP5 _ _ _ af,hc]at this;rw[<-E];simpa using this};{
 by_cases e:i<k;{rw[mj af]at j hm;exact bj _ _ _ _ _ (h5 i y d m D j hm) λa s=>V a (DD.2 ⟨m,bu hm,s⟩)};{
 obtain rfl:i=k:=by have:=(bg.1 j).1;simp at this;omega
 rw[pI af]at j hm;simp[N,h2]at j hm;subst j hm;rw[hx]at D;cases D;exact bj _ _ _ _ _ iL S}};{rw[J1];refine gh.app (M:=U w.heap) (u.W V) ?_ X λa s=>u.jY.lt s;simpa using Z.W S}
def By.full{α:Type}{el:G->α->List dV->List Lf->Prop}{xs:List α}(h:By el ty sz iG n w n xs)(s:J xs=n):∃m,OwnT el ty sz iG w (.T iG n n) xs m:=by
 obtain⟨cs,m,i,r,B,q,j,y,o⟩:=h;have x:=j.1;rw[dm,cw3 q,r]at x;have:i=[]:=Fp af;subst this s;rw[yQ]at j;exact⟨m,cs,r,B,q,j,y,o.h (Ua _),λa u e=>by have:=o.lo a u;simp[Value.ownBlock]at e;omega⟩
open Go.Maps Go.Extern.Stop Go.Stop Go.Extern
def eK7(t:dV)(w:G):dQ dG 195 #[.nilIface,t] w λe w'=>e=dR (.bool dF)/\w'=w:=by
 go_in;go_wp2;go_ret;exact⟨rfl,rfl⟩
def dn5(t:Addr)(w:G):(ReflectliteValue.unpack (.iface 242 (dP t))).run dG w=.ok (.agg #[dP (Ad 5 242),Pz (U w.heap),.U 150]) (w.alloc (dO #[dP t] 242)):=by kernel_rfl
def dn7(a : Addr)(w : World):(ReflectliteValue.methodAny (ReflectliteValue.valueError "reflectlite.Value.Type" 0) (λt _ _ _=>ReflectliteType.toType t) #[.agg #[.pointer (some ⟨5,242,none⟩), .pointer (some a), .U 150]]).run prog w = .ok (.iface 328 (.agg #[.pointer (some ⟨5,242,none⟩)])) w:=by kernel_rfl
def do4(h : Value)(w : World):(Go.method 525 328 (.agg #[h]) "Kind").run prog w = .ok (327,h) w:=by kernel_rfl
def do6(h : Value)(w : World):(Go.method 525 328 (.agg #[h]) "Elem").run prog w = .ok (367, .agg #[h]) w:=by kernel_rfl
def do5(h : Value)(w : World):(Go.method 525 328 (.agg #[h]) "Implements").run prog w = .ok (368, .agg #[h]) w:=by kernel_rfl
def do7(h : Value)(w : World):(Go.method 525 328 (.agg #[h]) "AssignableTo").run prog w = .ok (365, .agg #[h]) w:=by kernel_rfl
def do9(w:G):((ReflectliteType.abiMethod λt=>Functor.map (λ a:Nat=>Value.int IntKind.u8 (a:Int)) (Rtype.kind t)) #[dP (Ad 5 242)]).run dG w=.ok (.int .u8 22) w:=by kernel_rfl
def do8(w:G):((ReflectliteType.abiMethod λt=>Functor.map (λ a:Nat=>Value.int IntKind.u8 (a:Int)) (Rtype.kind t)) #[dP (Ad 5 171)]).run dG w=.ok (.int .u8 25) w:=by kernel_rfl
def bR6(a:Addr)(w:G):(ReflectliteValue.parts (.agg #[dP (Ad 5 242),dP a,.U 150])).run dG w=.ok (Y (242,a,150)) w:=by kernel_rfl
def do2(a p : Addr)(W : World)(i : W.cell? a = some (.pointer (some p))):(ReflectliteValue.method (ReflectliteValue.valueError "reflectlite.Value.IsNil" 0) ReflectliteValue.isNil #[.agg #[.pointer (some ⟨5,242,none⟩), .pointer (some a), .U 150]]).run prog W = .ok (.bool false) W:=by
 show Sem.run _ (ReflectliteValue.parts (.agg #[.pointer (some (Ad 5 242)),.pointer (some a),.U 150]) >>=_) _=_;rw[LU,bR6];simp[ReflectliteValue.isNil,loadVar,isAgg,underlying,underlying242,i,Result.andThen]
def dp3(w:G):(ReflectliteType.method ReflectliteType.elem #[.agg #[dP (Ad 5 242)]]).run dG w=.ok (.iface 328 (.agg #[dP (Ad 5 171)])) w:=by kernel_rfl
def dp0(w : World):(ReflectliteType.relation "Implements" ReflectliteType.implements_ #[.agg #[.pointer (some ⟨5,171,none⟩)], .iface 328 (.agg #[.pointer (some ⟨5,238,none⟩)])]).run prog w = .ok (.bool true) w:=by kernel_rfl
def dn8(v:dV)(w:G):(ReflectliteType.typeOf #[.iface 171 v]).run dG w=.ok (.iface 328 (.agg #[dP (Ad 5 171)])) w:=by kernel_rfl
def dp5(w : World):(ReflectliteType.relation "AssignableTo" ReflectliteType.assignableTo #[.agg #[.pointer (some ⟨5,171,none⟩)], .iface 328 (.agg #[.pointer (some ⟨5,171,none⟩)])]).run prog w = .ok (.bool true) w:=by kernel_rfl
def dn6(C:Int)(w:G):(ReflectliteValue.unpack (.iface 171 (.agg #[.I C]))).run dG w=.ok (.agg #[dP (Ad 5 171),Pz (U w.heap),.U 153]) (w.alloc (dO #[.I C] 171)):=by kernel_rfl
def dp2(w:G):(Rtype.elem? 242).run dG w=.ok (Y 171) w:=by kernel_rfl
def do3(p:Addr)(w:G):(ReflectliteValue.mk 171 p ReflectliteValue.flagAddr).run dG w=.ok (.agg #[dP (Ad 5 171),dP p,.U 409]) w:=by kernel_rfl
def dp1(a p : Addr)(W : World)(i : W.cell? a = some (.pointer (some p))):(ReflectliteValue.method (ReflectliteValue.valueError "reflectlite.Value.Elem" 0) ReflectliteValue.elem #[.agg #[.pointer (some ⟨5,242,none⟩), .pointer (some a), .U 150]]).run prog W = .ok (.agg #[.pointer (some ⟨5,171,none⟩), .pointer (some p), .U 409]) W:=by
 show Sem.run _ (ReflectliteValue.parts (.agg #[.pointer (some (Ad 5 242)),.pointer (some a),.U 150]) >>=_) _=_;rw[LU,bR6];simp[ReflectliteValue.elem,loadVar,isAgg,underlying,underlying242,i,Result.andThen,dp2,do3]
def do1(a:Addr)(w:G):(ReflectliteValue.parts (.agg #[dP (Ad 5 171),dP a,.U 409])).run dG w=.ok (Y (171,a,409)) w:=by kernel_rfl
def do0(a:Addr)(w:G):(ReflectliteValue.parts (.agg #[dP (Ad 5 171),dP a,.U 153])).run dG w=.ok (Y (171,a,153)) w:=by kernel_rfl
def dp4(w:G):(Rtype.directlyAssignable 171 171).run dG w=.ok dY w:=by kernel_rfl
def dn9(i g:Nat)(C:Int)(m:dV)(W:G)(s:I W (Ad g 0)=dI C)(q:I W (Ad i 0)=m)(hf:W.frozen? (Ad i 0)=dF):(ReflectliteValue.set #[.agg #[dP (Ad 5 171),Pz i,.U 409],.agg #[dP (Ad 5 171),Pz g,.U 153]]).run dG W=.ok (dT #[]) (W.setCell (Ad i 0) (.I C)):=by
 show Sem.run _ (ReflectliteValue.parts (.agg #[dP (Ad 5 171),Pz i,.U 409]) >>=_) _=_;rw[LU,do1,al9,LU];show((Sem.run _ (ReflectliteValue.parts (.agg #[dP (Ad 5 171),Pz g,.U 153])) _).andThen _)=_;rw[do0,al9];have r:(loadCells (Ad g 0) 1).run dG W=.ok #[.I C] W:=run_loadCells_list W (Ad g 0) [.I C] (λj v o=>by
  have e:j=0:=by have:=(bg.1 o).1;simpa using this
  subst e;simp at o;subst o;exact s)
 simp[ReflectliteValue.flagAddr,loadVar,isAgg,underlying,underlying171,r,Result.andThen,dp4,storeVar,Value.cells,storeCells,Addr.add];rw[run_store dG W _ _ _ aS];simp[q,hf]
def eK8(i:Nat)(C:Int)(j:Value)(w:World)(m:w.cell? (Ad 1 0)=some (.iface 328 (.agg #[.pointer (some (Ad 5 238))])))(q:w.cell? (Ad i 0)=some j)(S:w.frozen? (Ad i 0)=false):Calls prog 195 #[.iface 171 (.agg #[.I C]),.iface 242 (Pz i)] w λev w'=>ev=.returned (.bool true)/\w'=((((w.alloc (.cells #[Pz i] 242)).alloc (.cells #[.pointer (some (Ad 5 242)),Pz w.heap.size,.U 150] 283)).alloc (.cells #[.pointer (some (Ad 5 242)),Pz w.heap.size,.U 150] 283)).alloc (.cells #[.I C] 171)).setCell (Ad i 0) (.I C):=by
 have h6:=@Fv prog 229 _ (λargs=>ReflectliteValue.unpack (args.getD 0 (.tuple #[]))) func229 aU aU aU aU;have h7:=@Fv prog 230 _ (ReflectliteValue.methodAny (ReflectliteValue.valueError "reflectlite.Value.Type" 0) (λt _ _ _=>ReflectliteType.toType t)) func230 aU aU aU aU;have h8:=@Fv prog 231 _ (ReflectliteValue.method (ReflectliteValue.valueError "reflectlite.Value.IsNil" 0) ReflectliteValue.isNil) func231 aU aU aU aU;have E:=@Fv prog 327 _ (ReflectliteType.abiMethod λt=>do pure (.int .u8 (<-Rtype.kind t))) func327 aU aU aU aU;have B:=@Fv prog 367 _ (ReflectliteType.method ReflectliteType.elem) func367 aU aU aU aU;have y:=@Fv prog 368 _ (ReflectliteType.relation "Implements" ReflectliteType.implements_) func368 aU aU aU aU;have Ec:=@Fv prog 254 _ ReflectliteType.typeOf func254 aU aU aU aU;have D:=@Fv prog 365 _ (ReflectliteType.relation "AssignableTo" ReflectliteType.assignableTo) func365 aU aU aU aU;have KE:=@Fv prog 255 _ (ReflectliteValue.method (ReflectliteValue.valueError "reflectlite.Value.Elem" 0) ReflectliteValue.elem) func255 aU aU aU aU;have QP:=@Fv prog 256 _ ReflectliteValue.set func256 aU aU aU aU;have V:=dn8;have mA:=do7;have R:=dp5;have r:=dn6;have f6:=dn5;have f7:=dn7;have X:=do4;have mE:=do6;have Z:=do5;have s:=do9;have u:=do8;have M:=dp3;have x:=dp0;have W:=do2 (Aw w 0) (Ad i 0) ((w.alloc (.cells #[Pz i] 242)).alloc (.cells #[.pointer (some (Ad 5 242)),Pz w.heap.size,.U 150] 283)) aj;have N:1<w.heap.size:=jO w _ m;have dt:((w.alloc (.cells #[Pz i] 242)).alloc (.cells #[.pointer (some (Ad 5 242)),Pz w.heap.size,.U 150] 283)).cell? (Ad 1 0)=some (.iface 328 (.agg #[.pointer (some (Ad 5 238))])):=by rw[OY _ _ (Ad 1 0) bq,OY _ _ (Ad 1 0) N];exact m
 have o:i<w.heap.size:=jO w _ q;have el:=dp1 (Aw w 0) (Ad i 0) (((w.alloc (.cells #[Pz i] 242)).alloc (.cells #[.pointer (some (Ad 5 242)),Pz w.heap.size,.U 150] 283)).alloc (.cells #[.pointer (some (Ad 5 242)),Pz w.heap.size,.U 150] 283)) (by rw[OY _ _ (Aw w 0) bq];simp);have st:=dn9 i (w.heap.size+1+1+1) C j ((((w.alloc (.cells #[Pz i] 242)).alloc (.cells #[.pointer (some (Ad 5 242)),Pz w.heap.size,.U 150] 283)).alloc (.cells #[.pointer (some (Ad 5 242)),Pz w.heap.size,.U 150] 283)).alloc (.cells #[.I C] 171))
  (by rw[World.cell?_alloc_at _ _ _ _ aj];rfl)
  (by rw[OY _ _ (Ad i 0) bq,OY _ _ (Ad i 0) bq,OY _ _ (Ad i 0) bq,OY _ _ (Ad i 0) o];exact q)
  (by rw[al7 _ _ (Ad i 0) bq,al7 _ _ (Ad i 0) bq,al7 _ _ (Ad i 0) bq,al7 _ _ (Ad i 0) (Nat.ne_of_lt o)];exact S)
 go_in;go_wp2;refine wp_loop_rounds 1 ?_;rw[rounds_succ];go_wp2;go_ret;exact⟨rfl,rfl⟩
def gK.rd(h:gK B w v l):iZ w v l:=by
 obtain⟨rfl,m⟩|⟨g,j,q,rfl,u,s,r⟩:=h.2;{exact⟨dN,0,by rw[m],.L (sX.1 m)⟩};{refine⟨_,j,rfl,.R ⟨g,0,rfl,λi o=>?_⟩⟩;have:=L5 h i af;rw[mO,this];simp[im,o]}
def gK.W(h:gK B w v l)(q:∀b,v.ownBlock=Y b->w'.heap[b]?=w.heap[b]?):gK B w' v l:=by
 refine⟨h.1,?_⟩;obtain o|⟨g,m,j,rfl,s,r,i⟩:=h.2;{exact .L o};{exact .R ⟨g,m,j,rfl,s,(q g rfl).Z r,i⟩}
def ep8(p q:OA)(c d:Nat)(w:G):dQ dG 29 #[.S p 0 c,.S q 0 d] w (Rb (.bool dY) w):=by
 go_in;go_wp2
 go_loopw[5](λi wr=>i=.I 0/\wr=w) (λ_ _=>0)
 exact⟨rfl,rfl⟩;{obtain⟨rfl,rfl⟩:=hrel;go_wp2;go_ret;exact⟨rfl,aR _ _⟩}
def dC6(p:OA)(c:Nat)(k:Int)(w:G):dQ dG 34 #[.S p 0 c,.I k] w (Rb (.I k) w):=by
 go_in;go_wp2
 go_loopw[1,5](λi j wr=>i=.I k/\j=.I 0/\wr=w) (λ_ _ _=>0)
 exact⟨rfl,rfl,rfl⟩;{obtain⟨rfl,rfl,rfl⟩:=hrel;go_wp2;go_ret;exact⟨rfl,aR _ _⟩}
def dX7(p:OA)(c:Nat)(k:Int)(w:G):dQ dG 39 #[.S p 0 c,.I k] w (Rb (.I k) w):=by
 go_in;go_wp2
 go_loopw[1,5](λi j wr=>i=.I k/\j=.I 0/\wr=w) (λ_ _ _=>0)
 exact⟨rfl,rfl,rfl⟩;{obtain⟨rfl,rfl,rfl⟩:=hrel;go_wp2;go_ret;exact⟨rfl,aR _ _⟩}
def bo4(k i e g s:Int)(p1 q1 p2 q2 p3 q3:OA)(c1 d1 c2 d2 c3 d3:Nat)(w:G):dQ dG 9 #[gG k i e g s (.S p1 0 c1) (.S p2 0 c2) (.S p3 0 c3),gG k i e g s (.S q1 0 d1) (.S q2 0 d2) (.S q3 0 d3)] w (Rb (.bool dY) w):=by
 have k1:(k != k)=dF:=aj;have k2:(i != i)=dF:=aj;have k3:(e != e)=dF:=aj;have k4:(g != g)=dF:=aj;have k5:(s != s)=dF:=aj;let⟨X,hX,bX,zX,CX⟩:=xt w (.I k) (.U i) (.U e) (.U g) (.I s) (.S p1 0 c1) (.S p2 0 c2) (.S p3 0 c3);let⟨iY,hY,bY,zY,CY⟩:=xt X (.I k) (.U i) (.U e) (.U g) (.I s) (.S q1 0 d1) (.S q2 0 d2) (.S q3 0 d3);rw[zX]at CY;have bW:=ai bX bY;have HC:=ag λ(v:G)(hv:Bw iY v)=>aF ((CX.H bY).H hv) (CY.H hv);clear CX CY bX bY;go_in;obtain⟨⟨x0,Z,W,V,R,N,M,E,-⟩,⟨D,B,x,u,q,o,m,j,-⟩⟩:=aF (ae HC iY aD).1.cells (ae HC iY aD).2.cells;rw[hY,hX]at x0 Z W V R N M E D B x u q o m j;go_wp2_with fail;rw[<-hX,<-hY];clear x0 Z W V R N M E D B x u q o m j;clear hX hY;refine(Zt (ag rfl) ⟨p1,c1,rfl,.L rfl⟩ ⟨q1,d1,rfl,.L rfl⟩ (cO _)).h ?_;rintro r w1⟨rfl,au⟩;obtain⟨⟨x0,Z,W,V,R,N,M,E,-⟩,⟨D,B,x,u,q,o,m,j,-⟩⟩:=aF (ae HC w1 au).1.cells (ae HC w1 au).2.cells;have B1:=ag au;clear au;go_wp2_with fail;clear x0 Z W V R N M E D B x u q o m j;refine(ep8 p2 q2 c2 d2 w1).h ?_;rintro r w2⟨rfl,ay⟩;have B2:=ag (ai B1 ay);obtain⟨⟨x0,Z,W,V,R,N,M,E,-⟩,⟨D,B,x,u,q,o,m,j,-⟩⟩:=aF (ae HC w2 B2).1.cells (ae HC w2 B2).2.cells;clear ay;go_wp2_with fail;clear x0 Z W V R N M E D B x u q o m j;refine(cy5 (ag rfl) ⟨p3,c3,rfl,.L rfl⟩ ⟨q3,d3,rfl,.L rfl⟩ (cO _) (ag λy hy=>by cases hy)).h ?_;rintro r w3⟨rfl,aI⟩;have B3:=ag (ai bW (ai B2 aI));clear aI;go_wp2;go_ret;exact⟨rfl,B3⟩
def an8{α:Type}{P:α->Nat->Nat->List Lf->Prop}(p:OA)(c:Nat):sP P sz (.S p 0 c) [] []:=⟨p,c,[],rfl,rfl,rfl,.L rfl⟩
def dC7(k i e g s:Int)(r q m:OA)(M E D:Nat)(K:Int)(K0:0<=K)(K1:K<=100000000)(w:G):dQ dG 11 #[gG k i e g s (.S r 0 M) (.S q 0 E) (.S m 0 D),.I K] w (Rb (.I K) w):=by
 have B:K+(J ([]:List Lf):Int)=K:=aj;let⟨X,y,Z,zX,N⟩:=xt w (.I k) (.U i) (.U e) (.U g) (.I s) (.S r 0 M) (.S q 0 E) (.S m 0 D);have HC:=ag λ(v:G)(hv:Bw X v)=>N.H hv;have HB:=ag Z;obtain⟨-,-,-,-,-,R,-,-,-⟩:=N.cells;rw[y]at R;clear N Z zX;go_in;go_wp2_with fail;rw[<-y];clear y R;refine br (al6 (an8 r M) (ft.nil _) K0 af) λj W=>?_;have B1:=ag (show Bw X j from W.H (λa x=>by cases x) aA);rw[B];obtain⟨-,-,-,-,-,-,x6,-,-⟩:=(ae HC j B1).cells;clear W;go_wp2_with fail;clear x6;refine br (dC6 q E K j) λw2 ay=>?_;have B2:=ag (ai B1 ay);obtain⟨-,-,-,-,-,-,-,x7,-⟩:=(ae HC w2 B2).cells;clear ay;go_wp2_with fail;clear x7;refine br (ca1 (an8 m D) (ft.nil _) K0 af) λw3 V=>?_;have B3:=ag (ai HB (ai B2 (V.H (λa x=>by cases x) aA)));rw[B];clear V B;go_wp2;go_ret;exact⟨rfl,B3⟩
def dX8(k i e g s:Int)(o m j:OA)(B y x:Nat)(K:Int)(Z:0<=K)(K1:K<=100000000)(w:G):dQ dG 13 #[gG k i e g s (.S o 0 B) (.S m 0 y) (.S j 0 x),.I K] w (Rb (.I K) w):=by
 have u:K+(J ([]:List Lf):Int)=K:=aj;have hK:¬K<0:=af;let⟨X,q,N,zX,D⟩:=xt w (.I k) (.U i) (.U e) (.U g) (.I s) (.S o 0 B) (.S m 0 y) (.S j 0 x);have HC:=ag λ(v:G)(hv:Bw X v)=>D.H hv;have HB:=ag N;obtain⟨-,-,-,-,-,E,-,-,-⟩:=D.cells;rw[q]at E;clear D N zX;go_in;go_wp2_with fail;rw[<-q];clear q E;refine(at5 (an8 o B) (by intro i a h;simp at h) Z af).h ?_;rintro r M⟨rfl,V⟩;have B1:=ag V;rw[u];obtain⟨-,-,-,-,-,-,x6,-,-⟩:=(ae HC M B1).cells;clear V;go_wp2_with fail;clear x6;refine br (dX7 m y K M) λw2 R=>?_;have B2:=ag (ai B1 R);obtain⟨-,-,-,-,-,-,-,x7,-⟩:=(ae HC w2 B2).cells;clear R;go_wp2_with fail;clear x7;refine(cn4 (an8 j x) (by intro i a h;simp at h) Z af).h ?_;rintro r w3⟨rfl,W⟩;have B3:=ag (ai HB (ai B2 W));rw[u];clear W u;go_wp2;go_ret;exact⟨rfl,B3⟩
def own:ownKnob Tryz.prog.godebug=dN:=by kernel_rfl
def laidOut:laidOutB dG:=by kernel_rfl
variable {f:FuncId}{X:G->Array dV->Prop}{s:ChangeSpec}
def ec1{H:Type}{enc:TypeId×dV->H}{a:Assume}{m x q y:Bool} (hX:∀(w w':G)(args:iA),w.heap=w'.heap->X w args->X w' args)(own:ownKnob C.prog.godebug=dN)(u:os.Started)(S:C.prog.inits.idxOf? f=dN)(B:C.prog.funcs[f]?=fn)(r:∃(w:G)(tape:Tape)(i:Input),w.os=os/\(w.forCall tape i).Shaped C.prog/\i.vars=[]/\Input.okWide C.prog (w.forCall tape i) .any (U w.heap) f i∧
   ((s.pre enc C.prog fn conds m (w.forCall tape i).memory i.args/\X (w.forCall tape i).memory i.args)/\sizedMet enc C.prog fn (OpenSpec.ofChange s) m (w.forCall tape i).memory i.args)/\a.holds C.prog (lone (Frame.enter C.prog f i.args .normal) [] (w.forCall tape i)))(M:∀(W:G)(base:Nat)(args:iA)(N D:List (DataW H))(o:List MemPlace),
   (∀(j:Nat)t v,fn.params[j]?=Y t->args[j]?=Y v->Value.okWide C.prog W .any base t v)→
   DataW.Whole enc C.prog fn.params.toList s.vars m W args.toList N D o→
   X W args->W.ShapedOpen C.prog→
   dQ C.prog f args W λe V=>∃v,e=dR v/\s.post enc C.prog fn m x q y W args v V):ReturnsInHanded a C os f .any (λw args=>(s.pre enc C.prog fn conds m w args/\X w args)/\sizedMet enc C.prog fn (OpenSpec.ofChange s) m w args) (s.post enc C.prog fn m x q y):=by
 refine returnsInHanded_of_calls own u S r ?_;intro w tape i _ Uu _ fv Z fs9;obtain⟨_,_,_,E,R,_,_,_,_,DR⟩:=fv;obtain rfl:E=fn:=AG (R.C.Z B);obtain⟨⟨⟨N,D,o,hw,hc⟩,hx⟩,hz⟩:=Z;refine(M (w.forCall tape i) (U w.heap) i.args N D o DR (DataW.Whole.of_heap (w':=w.forCall tape i) aS hw) (hX _ _ _ aS hx) Uu).h λe V⟨v,he,hp⟩=>?_;subst he;exact ChangeSpec.post_blind hp
def dB8(h:w.ShapedOpen dG):∃m,I w (Ad 2 0)=dI m:=
 cell_of_shapedOpen_int (t:=3) (zero:=#[.I 0]) h (Xm aU) aU rfl aU aU Tryz.underlying3
def Ou{s:Int}(h:(Lit.U s).wf):0<=s/\s<2^64:=by
 simp[Lit.wf,IntKind.min,IntKind.max,IntKind.signed,IntKind.bits]at h;omega
def cE8:Tryz.prog.cellsOf 256=2:=by kernel_rfl
def cE4:Tryz.prog.cellsOf 126=3:=by kernel_rfl
def cE5:Tryz.prog.cellsOf 129=8:=by kernel_rfl
def cE3:Tryz.prog.cellsOf 31=6:=by kernel_rfl
def cE9:Tryz.prog.cellsOf 22=1:=by kernel_rfl
def ZL:Tryz.prog.cellsOf 27=1:=by kernel_rfl
def eE9:Tryz.prog.cellsOf 61=1:=by kernel_rfl
def aA7:Tryz.prog.cellsOf 3=1:=by kernel_rfl
def eF4:Tryz.prog.cellsOf 124=1:=by kernel_rfl
def eF1:Tryz.prog.cellsOf 28=1:=by kernel_rfl
def eF2:Tryz.prog.cellsOf 29=1:=by kernel_rfl
variable {t:TypeId}{P:Program}
theorem da7{H:Type}{enc:TypeId×dV->H}{x:DataW H×List MemPlace}(y:P.underlying t=Y (.struct #[f0,f1,f2,f3,f4,f5]))(h:DataW.trod enc P w base spare held fuel t cs=x):∃s r q o m j n,J cs=P.cellsOf t∧
   DataW.trod enc P w base spare held n f0.type ((cs.drop f0.offset).take (P.cellsOf f0.type))=Y s/\DataW.trod enc P w base spare held n f1.type ((cs.drop f1.offset).take (P.cellsOf f1.type))=Y r/\DataW.trod enc P w base spare held n f2.type ((cs.drop f2.offset).take (P.cellsOf f2.type))=Y q/\DataW.trod enc P w base spare held n f3.type ((cs.drop f3.offset).take (P.cellsOf f3.type))=Y o/\DataW.trod enc P w base spare held n f4.type ((cs.drop f4.offset).take (P.cellsOf f4.type))=Y m/\DataW.trod enc P w base spare held n f5.type ((cs.drop f5.offset).take (P.cellsOf f5.type))=Y j:=by
 obtain⟨u,n,_,rfl,B,i,hf⟩:=aT1 y h
 match u,i with
 |[s,r,q,o,m,j],_=>exact⟨s,r,q,o,m,j,n,B,by simpa using hf 0 f0 rfl,by simpa using hf 1 f1 rfl,by simpa using hf 2 f2 rfl,by simpa using hf 3 f3 rfl,by simpa using hf 4 f4 rfl,by simpa using hf 5 f5 rfl⟩
theorem da5{H:Type}{enc:TypeId×dV->H}{j:Field}{x:DataW H×List MemPlace}(E:P.underlying t=Y (.struct #[f0,f1,f2,f3,f4,f5,f6,j]))(h:DataW.trod enc P w base spare held fuel t cs=x):∃B y u s r q o m n,J cs=P.cellsOf t∧
   DataW.trod enc P w base spare held n f0.type ((cs.drop f0.offset).take (P.cellsOf f0.type))=Y B/\DataW.trod enc P w base spare held n f1.type ((cs.drop f1.offset).take (P.cellsOf f1.type))=Y y/\DataW.trod enc P w base spare held n f2.type ((cs.drop f2.offset).take (P.cellsOf f2.type))=Y u/\DataW.trod enc P w base spare held n f3.type ((cs.drop f3.offset).take (P.cellsOf f3.type))=Y s/\DataW.trod enc P w base spare held n f4.type ((cs.drop f4.offset).take (P.cellsOf f4.type))=Y r/\DataW.trod enc P w base spare held n f5.type ((cs.drop f5.offset).take (P.cellsOf f5.type))=Y q/\DataW.trod enc P w base spare held n f6.type ((cs.drop f6.offset).take (P.cellsOf f6.type))=Y o/\DataW.trod enc P w base spare held n j.type ((cs.drop j.offset).take (P.cellsOf j.type))=Y m:=by
 obtain⟨D,n,_,rfl,M,i,hf⟩:=aT1 E h
 match D,i with
 |[B,y,u,s,r,q,o,m],_=>exact⟨B,y,u,s,r,q,o,m,n,M,by simpa using hf 0 f0 rfl,by simpa using hf 1 f1 rfl,by simpa using hf 2 f2 rfl,by simpa using hf 3 f3 rfl,by simpa using hf 4 f4 rfl,by simpa using hf 5 f5 rfl,by simpa using hf 6 f6 rfl,by simpa using hf 7 j rfl⟩
def ao2{H:Type}{enc:TypeId×dV->H}{α:Type}[Inhabited α]{e:TypeId}(ht:Tryz.prog.underlying t=Y (.slice e))(N:Tryz.prog.cellsOf e=sz)(W:0<sz)(Q:List dV->α->Prop)(iL:∀(n:Nat)(cs:List dV)(x:DataW H×List MemPlace),DataW.trod enc dG w 0 (λ_=>dY) dY n e cs=x->∃y,Q cs y){x:DataW H×List MemPlace}(h:DataW.trod enc dG w 0 (λ_=>dY) dY fuel t cs=x):∃(p:OA)(l:List α)(c:Nat),cs=[.S p (J l) c]/\J l<=c/\c<=maxLen/\(l=[]\/∃b o,p=(Ad b o)/\∀(i:Nat)(y:α),l[i]?=Y y->∃r:List dV,(∀(j:Nat)(v:dV),r[j]?=Y v->I w (Ad b (o+(i*sz+j)))=Y v)/\Q r y):=by
 obtain⟨rfl,_⟩|⟨a,len,cap,m,n,D,Pl,rfl,_,hl,hm,X,_,hx⟩:=open_slice ht h;{exact⟨dN,[],0,rfl,eG _,jC,.L rfl⟩};{
 simp only[od]at X;subst X;let⟨f,hf⟩:=choose_lt (α:=α) (n:=len) (p:=λi y=>∃r:List dV,w.cells? 0 (a.add (i*Tryz.prog.cellsOf e)) (Tryz.prog.cellsOf e)=r/\Q r y) (λi V=>by let⟨r,u,M⟩:=hx i af;let⟨y,B⟩:=iL _ _ _ M;exact⟨y,r,u,B⟩)
 have q:J ((List.range len).map f)=len:=aj;refine⟨Y a,(List.range len).map f,m,by rw[q],by rw[q];exact hl,hm,?_⟩;by_cases hz:len=0;{left;subst hz;rfl};{
 right;obtain⟨b,o,s⟩:=a;have hs:s=dN:=by let⟨r,u,_⟩:=hf 0 af;let⟨_,E,hc⟩:=World.cells?_some u;have:=hc 0 (N▸W);rw[bD (by rw[E,N];exact W)]at this;simpa[Addr.add]using World.cell?_spot this
 subst hs;refine⟨b,o,rfl,λi y B=>?_⟩;have V:i<len:=by have:=(bg.1 B).1;rwa [q]at this
 have ey:y=f i:=by have:=(bg.1 B).2;simpa using this.C
 subst ey;let⟨r,u,M⟩:=hf i V;refine⟨r,λj v R=>?_,M⟩;let⟨_,E,hc⟩:=World.cells?_some u;have Z:j<Tryz.prog.cellsOf e:=E▸(bg.1 R).1;have:=hc j Z;rw[R,N]at this;simp only[Fx]at this;rw[<-this];congr 1;simp[wY]}}
def bK0{H:Type}{enc:TypeId×dV->H}{x:DataW H×List MemPlace}(h:DataW.trod enc dG w 0 (λ_=>dY) dY fuel 61 cs=Y x):∃(p:OA)(l:LI)(c:Nat),cs=[.S p (J l) c]/\J l<=maxLen/\iZ w (.S p (J l) c) l/\∀i∈l,0<=i/\i<2^64:=by
 obtain⟨p,l,c,rfl,N,M,j⟩:=ao2 (α:=Int) Tryz.underlying61 ZL af (λcs y=>cs=[.U y]/\0<=y/\y<2^64) (λn cs x u=>by let⟨y,E,_,r⟩:=wW Tryz.underlying27 u;exact⟨y,E,Ou r⟩) h
 refine⟨p,l,c,rfl,af,⟨p,c,rfl,?_⟩,?_⟩;{obtain j|⟨b,o,rfl,j⟩:=j;{exact .L j};{refine .R ⟨b,o,rfl,λi m=>?_⟩;obtain⟨s,D,rfl,_⟩:=j i _ (bD m);have:=D 0 _ rfl;rw[im,bD m];simpa using this}};{intro y q;obtain j|⟨b,o,rfl,j⟩:=j;{rw[j]at q;cases q};{let⟨i,m⟩:=wR q;let⟨s,_,_,B⟩:=j i y m;exact B}}
theorem eo0{H:Type}{enc:TypeId×dV->H}{x:DataW H×List MemPlace}(h:DataW.trod enc dG w 0 (λ_=>dY) dY fuel 124 cs=Y x):∃(p:OA)(l:List Ev)(c:Nat),cs=[.S p (J l) c]/\J l<=maxLen/\qF w (.S p (J l) c) l/\∀e∈l,J e.2<=maxLen/\aC e.2:=by
 obtain⟨p,l,c,rfl,h1,h2,j⟩:=ao2 (α:=Ev) Tryz.underlying124 cE8 af (λcs y=>∃q d,cs=[.I y.1,.S q (J y.2) d]/\Rd w (.S q (J y.2) d) y.2/\J y.2<=maxLen/\aC y.2) (λn cs x X=>by
  let⟨y0,y1,m,_,E,M,s⟩:=trod_struct2 Tryz.underlying256 X;rw[cE8]at E;obtain⟨D,B,rfl⟩:∃D B,cs=[D,B]:=by
   match cs,E with
   |[a,b],_=>exact⟨a,b,rfl⟩
  simp[aA7,cE9]at M s;let⟨k,R,_,_⟩:=wW Tryz.underlying3 M;let⟨q,P,d,N,u,W,_,b1⟩:=Rd.ak8 s;simp at R N;subst R N;exact⟨(k,P),q,d,rfl,u,W,b1⟩) h
 refine⟨p,l,c,rfl,af,⟨p,c,rfl,?_⟩,?_⟩;{obtain j|⟨b,o,rfl,j⟩:=j;{exact .L j};{refine .R ⟨b,o,rfl,λi y r=>?_⟩;obtain⟨V,s,q,d,rfl,u,_⟩:=j i y r;exact⟨by simpa using s 0 _ rfl,_,by simpa[wY]using s 1 _ rfl,u⟩}};{intro y r;obtain j|⟨b,o,rfl,j⟩:=j;{rw[j]at r;cases r};{let⟨i,Z⟩:=wR r;let⟨V,_,q,d,_,_,g2⟩:=j i y Z;exact g2}}
theorem dk7{H:Type}{enc:TypeId×dV->H}{x:DataW H×List MemPlace}(h:DataW.trod enc dG w 0 (λ_=>dY) dY fuel 28 cs=Y x):∃(p:OA)(l:List aB)(c:Nat),cs=[.S p (J l) c]/\J l<=maxLen/\lI w (.S p (J l) c) l/\∀s∈l,J s.2.2<=maxLen/\∀e∈s.2.2,J e.2<=maxLen/\aC e.2:=by
 obtain⟨p,l,c,rfl,h1,h2,j⟩:=ao2 (α:=aB) Tryz.underlying28 cE4 af (λcs y=>∃q d,cs=[.U y.1,.I y.2.1,.S q (J y.2.2) d]/\qF w (.S q (J y.2.2) d) y.2.2/\J y.2.2<=maxLen/\∀e∈y.2.2,J e.2<=maxLen/\aC e.2) (λn cs x hx=>by
  let⟨y0,y1,y2,m,_,R,V,r,B⟩:=trod_struct3 Tryz.underlying126 hx;rw[cE4]at R;obtain⟨N,M,E,rfl⟩:∃N M E,cs=[N,M,E]:=by
   match cs,R with
   |[a,b,c],_=>exact⟨a,b,c,rfl⟩
  simp[aA7,ZL,eF4]at V r B;let⟨i,Z,_,_⟩:=wW Tryz.underlying27 V;let⟨k,X,_,_⟩:=wW Tryz.underlying3 r;let⟨q,Q,d,W,l1,D,b1⟩:=eo0 B;simp at Z X W;subst Z X W;exact⟨(i,k,Q),q,d,rfl,D,l1,b1⟩) h
 refine⟨p,l,c,rfl,af,⟨p,c,rfl,?_⟩,?_⟩;{obtain j|⟨b,o,rfl,j⟩:=j;{exact .L j};{refine .R ⟨b,o,rfl,λi y u=>?_⟩;obtain⟨qT,r,q,d,rfl,D,_⟩:=j i y u;exact⟨by simpa using r 0 _ rfl,by simpa[wY]using r 1 _ rfl,_,by simpa[wY]using r 2 _ rfl,D⟩}};{intro y u;obtain j|⟨b,o,rfl,j⟩:=j;{rw[j]at u;cases u};{let⟨i,hi⟩:=wR u;let⟨qT,_,q,d,_,_,B⟩:=j i y hi;exact B}}
theorem dz6{H:Type}{enc:TypeId×dV->H}{x:DataW H×List MemPlace}(h:DataW.trod enc dG w 0 (λ_=>dY) dY fuel 29 cs=Y x):∃(p:OA)(l:List ar)(c:Nat),cs=[.S p (J l) c]/\J l<=maxLen/\gJ w (.S p (J l) c) l/\∀nd∈l,((J nd.A<=maxLen/\J nd.V<=maxLen/\J nd.y<=maxLen/\J nd.X<=maxLen)/\aC nd.A/\(0<=nd.D/\nd.D<2^64)/\(∀i∈nd.y,0<=i/\i<2^64)/\∀i∈nd.X,0<=i/\i<2^64)/\(0<=nd.P/\nd.P<2^64)/\(0<=nd.F/\nd.F<2^64)/\aC nd.V:=by
 have:Inhabited ar:=⟨jh⟩;obtain⟨p,l,c,rfl,h1,h2,q⟩:=ao2 (α:=ar) Tryz.underlying29 cE5 af
  (λcs y=>∃P V H iU,cs=[P,V,.U y.D,.I y.M,H,.U y.P,.U y.F,iU]/\(Rd w P y.A/\Rd w V y.V/\iZ w H y.y/\iZ w iU y.X/\tG P)/\((J y.A<=maxLen/\J y.V<=maxLen/\J y.y<=maxLen/\J y.X<=maxLen)/\aC y.A/\(0<=y.D/\y.D<2^64)/\(∀i∈y.y,0<=i/\i<2^64)/\∀i∈y.X,0<=i/\i<2^64)/\(0<=y.P/\y.P<2^64)/\(0<=y.F/\y.F<2^64)/\aC y.V) (λn cs x hx=>by
  let⟨y0,y1,y2,y3,y4,y5,y6,y7,m,hl,R,j,u,g3,g4,g5,g6,g7⟩:=da5 Tryz.underlying129 hx;rw[cE5]at hl;obtain⟨x0,x1,x2,x3,x4,x5,Z,X,rfl⟩:∃x0 x1 x2 x3 x4 x5 Z X,cs=[x0,x1,x2,x3,x4,x5,Z,X]:=by
   match cs,hl with
   |[a,b,c,d,e,f,g,h],_=>exact⟨a,b,c,d,e,f,g,h,rfl⟩
  simp[aA7,ZL,cE9,eE9]at R j u g3 g4 g5 g6 g7;let⟨q0,P,d0,B,N,l0,W,b0⟩:=Rd.ak8 R;let⟨q1,V,d1,e1,M,l1,_,b1⟩:=Rd.ak8 j;let⟨ow,e2,_,w2⟩:=wW Tryz.underlying27 u;let⟨mo,e3,_,_⟩:=wW Tryz.underlying3 g3;let⟨q4,Hs,d4,e4,l4,E,b4⟩:=bK0 g4;let⟨ep,e5,_,w5⟩:=wW Tryz.underlying27 g5;let⟨ge,e6,_,w6⟩:=wW Tryz.underlying27 g6;let⟨q7,Us,d7,e7,l7,D,b7⟩:=bK0 g7;have cm:d0<=maxLen:=by obtain⟨s,_⟩|⟨a,len,cap,zs,s,_,_,hm,_⟩:=open_ints Tryz.underlying22 Tryz.underlying5 aU R;{rw[B]at s;simp at s;omega};{rw[B]at s;simp at s;omega}
  simp at B e1 e2 e3 e4 e5 e6 e7;subst B e1 e2 e3 e4 e5 e6 e7;exact⟨⟨P,V,ow,mo,Hs,ep,ge,Us⟩,_,_,_,_,rfl,⟨N,M,E,D,_,_,_,rfl,W,cm⟩,⟨⟨l0,l1,l4,l7⟩,b0,Ou w2,b4,b7⟩,Ou w5,Ou w6,b1⟩) h
 refine⟨p,l,c,rfl,af,⟨p,c,rfl,?_⟩,?_⟩;{obtain q|⟨b,o,rfl,q⟩:=q;{exact .L q};{refine .R ⟨b,o,rfl,λi y r=>?_⟩;obtain⟨qT,j,P,V,H,iU,rfl,⟨N,M,E,D,k0⟩,_⟩:=q i y r;exact⟨P,V,H,iU,by simpa using j 0 _ rfl,by simpa[wY]using j 1 _ rfl,by simpa[wY]using j 2 _ rfl,by simpa[wY]using j 3 _ rfl,by simpa[wY]using j 4 _ rfl,by simpa[wY]using j 5 _ rfl,by simpa[wY]using j 6 _ rfl,by simpa[wY]using j 7 _ rfl,N,M,E,D,k0⟩}};{intro y r;obtain q|⟨b,o,rfl,q⟩:=q;{rw[q]at r;cases r};{let⟨i,hi⟩:=wR r;let⟨qT,_,P,V,H,iU,_,_,u⟩:=q i y hi;exact u}}
theorem df8{H:Type}{enc:TypeId×dV->H}{x:DataW H×List MemPlace}(h:DataW.trod enc dG w 0 (λ_=>dY) dY n 31 cs=x):∃(e g x t:Int)(p q:OA)(ss:List aB)(ns:List ar)(c j:Nat),cs=[.U e,.U g,.U x,.I t,.S p (J ss) c,.S q (J ns) j]/\(J ss<=maxLen/\J ns<=maxLen)/\lI w (.S p (J ss) c) ss/\gJ w (.S q (J ns) j) ns∧
   (∀s∈ss,J s.2.2<=maxLen/\∀e∈s.2.2,J e.2<=maxLen/\aC e.2)∧
   (∀nd∈ns,((J nd.A<=maxLen/\J nd.V<=maxLen/\J nd.y<=maxLen/\J nd.X<=maxLen)/\aC nd.A/\(0<=nd.D/\nd.D<2^64)/\(∀i∈nd.y,0<=i/\i<2^64)/\∀i∈nd.X,0<=i/\i<2^64)/\(0<=nd.P/\nd.P<2^64)/\(0<=nd.F/\nd.F<2^64)/\aC nd.V)/\(0<=e/\e<2^64)/\(0<=g/\g<2^64)/\(0<=x/\x<2^64):=by
 let⟨y0,y1,y2,y3,y4,y5,m,E,X,W,V,R,N,M⟩:=da7 Tryz.underlying31 h;rw[cE3]at E;obtain⟨D,B,y,u,r,o,rfl⟩:∃D B y u r o,cs=[D,B,y,u,r,o]:=by
  match cs,E with
  |[a,b,c,d,e,f],_=>exact⟨a,b,c,d,e,f,rfl⟩
 simp[ZL,aA7,eF1,eF2]at X W V R N M;let⟨e,e0,_,w0⟩:=wW Tryz.underlying27 X;let⟨g,e1,_,w1⟩:=wW Tryz.underlying27 W;let⟨x,e2,_,w2⟩:=wW Tryz.underlying27 V;let⟨t,e3,_,_⟩:=wW Tryz.underlying3 R;let⟨p,ss,c,e4,l4,r4,b4⟩:=dk7 N;let⟨q,ns,j,Z,l5,r5,b5⟩:=dz6 M;simp at e0 e1 e2 e3 e4 Z;subst e0 e1 e2 e3 e4 Z;exact⟨e,g,x,t,p,q,ss,ns,c,j,rfl,⟨l4,l5⟩,r4,r5,b4,b5,Ou w0,Ou w1,Ou w2⟩
def cE7:Tryz.prog.cellsOf 174=7:=by kernel_rfl
def eF6:Tryz.prog.cellsOf 22=1:=by kernel_rfl
def cE6:Tryz.prog.cellsOf 3=1:=by kernel_rfl
def eF7:Tryz.prog.cellsOf 4=1:=by kernel_rfl
theorem da6{H:Type}{enc:TypeId×dV->H}{x:DataW H×List MemPlace}(B:P.underlying t=Y (.struct #[f0,f1,f2,f3,f4,f5,f6]))(h:DataW.trod enc P w base spare held fuel t cs=x):∃u s r q o m j n,x.1=.agg [u.1,s.1,r.1,q.1,o.1,m.1,j.1]/\J cs=P.cellsOf t∧
   DataW.trod enc P w base spare held n f0.type ((cs.drop f0.offset).take (P.cellsOf f0.type))=Y u/\DataW.trod enc P w base spare held n f1.type ((cs.drop f1.offset).take (P.cellsOf f1.type))=Y s∧
   DataW.trod enc P w base spare held n f2.type ((cs.drop f2.offset).take (P.cellsOf f2.type))=Y r/\DataW.trod enc P w base spare held n f3.type ((cs.drop f3.offset).take (P.cellsOf f3.type))=Y q∧
   DataW.trod enc P w base spare held n f4.type ((cs.drop f4.offset).take (P.cellsOf f4.type))=Y o/\DataW.trod enc P w base spare held n f5.type ((cs.drop f5.offset).take (P.cellsOf f5.type))=Y m∧
   DataW.trod enc P w base spare held n f6.type ((cs.drop f6.offset).take (P.cellsOf f6.type))=Y j:=by
 obtain⟨y,n,_,rfl,D,i,hf⟩:=aT1 B h
 match y,i with
 |[u,s,r,q,o,m,j],_=>exact⟨u,s,r,q,o,m,j,n,rfl,D,by simpa using hf 0 f0 rfl,by simpa using hf 1 f1 rfl,by simpa using hf 2 f2 rfl,by simpa using hf 3 f3 rfl,by simpa using hf 4 f4 rfl,by simpa using hf 5 f5 rfl,by simpa using hf 6 f6 rfl⟩
theorem ek1{x:DataW Unit×List MemPlace}{B:Bool}(h:DataW.trod (λ_=>()) dG w 0 (λ_=>dY) dF n 174 cs=x)(i:x.1=.agg [.lit (.bool se),.lit (.bool pa),.lit (.I lo),.lit (.I hi),.lit (.I vs),.lit (.bool sq),.lit (.bool B)]):cs=[.bool se,.bool pa,.I lo,.I hi,.I vs,.bool sq,.bool B]:=by
 let⟨y0,y1,y2,y3,y4,y5,y6,m,e,D,W,V,S,R,N,M,E⟩:=da6 Tryz.underlying174 h;rw[cE7]at D;obtain⟨y,u,s,r,q,o,j,rfl⟩:∃y u s r q o j,cs=[y,u,s,r,q,o,j]:=by
  match cs,D with
  |[a,b,c,d,e,f,g],_=>exact⟨a,b,c,d,e,f,g,rfl⟩
 simp[eF7,cE6]at W V S R N M E;let⟨b0,e0,f0⟩:=am3 Tryz.underlying4 W;let⟨b1,e1,f1⟩:=am3 Tryz.underlying4 V;let⟨b2,e2,f2,_⟩:=wW Tryz.underlying3 S;let⟨b3,e3,f3,_⟩:=wW Tryz.underlying3 R;let⟨b4,e4,f4,_⟩:=wW Tryz.underlying3 N;let⟨b5,Z,f5⟩:=am3 Tryz.underlying4 M;let⟨b6,X,f6⟩:=am3 Tryz.underlying4 E;rw[e,f0,f1,f2,f3,f4,f5,f6]at i;simp at i e0 e1 e2 e3 e4 Z X;obtain⟨rfl,rfl,rfl,rfl,rfl,rfl,rfl⟩:=i;subst e0 e1 e2 e3 e4 Z X;rfl
end Go.Proofs.YtdloolggnjjfoaaGreatDoor
