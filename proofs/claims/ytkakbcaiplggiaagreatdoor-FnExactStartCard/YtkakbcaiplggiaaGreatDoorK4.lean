import Derived.Test.YtkakbcaiplggiaaGreatDoorK3
import Derived.Test.YtkakbcaiplggiaaGreatDoorQTs
import Derived.Sort.KeysCollected
import Derived.Test.YtkakbcaiplggiaaGreatDoorRows
import Derived.ShutString
import Derived.ChangeOld
import Derived.HandedShaped
import Derived.Shelf.Vars
import Derived.LaidMore
import Derived.Lay
import Derived.Stop.Joined
import Derived.OpenVars
namespace Go.Proofs.YtkakbcaiplggiaaGreatDoor
set_option maxHeartbeats 25600000
set_option linter.all false
set_option maxRecDepth 100000
set_option linter.unusedVariables false
open Go.ChangeShapes Go.WideShapes Go.ChangeAt Go.RowKit Go.Deep Go.Proofs.Tryz
variable {B b base c c0 c1 c2 i i2 j j2 k n0 n1 n2:Nat}{K:Act->World->Prop}{W W':World}{a a':Act}{cs xs:List Value}{d:Array Int}{e:TypeId}{f g s s0 s1 s2 z:Int}{l l0 l1 l2:LI}{left:Lit->Bool}{oi:Oper}{p p0 p1 p2:OA}{ss:List (List UInt8)}{v v0 v1 v2:Value}
def Rd.aB7{H:Type}{enc:TypeId×Value->H}{w:World}{n:Nat}{x:DataW H×List MemPlace}(h:DataW.trod enc prog w 0 (λ_=>true) true n 22 cs=some x):∃(p:OA)(l:LI)(c:Nat),cs=[.S p l.length c]/\Rd w (.S p l.length c) l/\l.length<=maxLen/\(∀z∈l,(Lit.int .u8 z).wf=true):=by
 rcases open_ints underlying22 underlying5 bg h with⟨rfl,_⟩|⟨a,len,cap,zs,rfl,_,hl,hm,hz,_,cW,hwz⟩;{exact⟨none,[],0,rfl,Rd.nil w,ai,ai⟩};{
 simp only[qt]at hz;have e:(zs.take len).length=len:=by simp;omega
 refine⟨some a,zs.take len,cap,by rw[e],?_,ae,λz h=>hwz z (GI h)⟩;refine⟨some a,cap,rfl,?_⟩;by_cases h0:len=0;{left;subst h0;simp}
 {
 right
 obtain⟨b,o,spot⟩:=a;have hs:spot=none:=by simpa[Addr.add]using World.cell?_spot (cW 0 ae)
 subst hs;refine⟨b,o,rfl,λi hi=>?_⟩;rw[e]at hi;have:=cW i ae;simp only[CO]at this;rw[this];simp[List.getD,GH,hi]}}
def Rd.Pw{H:Type}{enc:TypeId×Value->H}{w:World}{n:Nat}{x:DataW H×List MemPlace}(h:DataW.trod enc prog w 0 (λ_=>true) true n 22 cs=some x):∃(p:OA)(l:LI)(c:Nat),cs=[.S p l.length c]/\Rd w (.S p l.length c) l/\l.length<=maxLen/\l.length<=c/\(∀z∈l,0<=z/\z<256):=by
 obtain⟨p,l,c,e,hr,hm,hw⟩:=Rd.aB7 h;refine⟨p,l,c,e,hr,hm,?_,λz hz=>?_⟩;{rcases open_ints underlying22 underlying5 bg h with⟨rfl,_⟩|⟨a,len,cap,zs,rfl,_,hl,_⟩;{simp at e;omega};{simp at e;omega}};{have:=hw z hz;simp[Lit.wf,IntKind.min,IntKind.max,IntKind.signed,IntKind.bits]at this;omega}
abbrev iy(v:Value)(n:Int):Value:=.agg #[v,.I n]
abbrev dt(v0:Value)(n0:Int)(v1:Value)(n1:Int)(v2:Value)(n2:Int):Value:=.agg #[v0,.I n0,v1,.I n1,v2,.I n2]
def iA{n cap:Nat}{left:Int}{w:World}(hn:n<=maxLen)(h0:0<=left)(h1:left<=1048576):Calls prog 13 #[iy (.S p n cap) s,.I left] w (Rb (.I (jK n left)) w):=by
 have hc:-1<=jK n left/\jK n left<=1048576:=by unfold jK;split<;>omega
 by_cases h:jK n left<0;{
 have e:jK n left=-1:=by unfold jK at h⊢;split<;>simp_all<;>omega
 go_in
 go_wp2_with fail;refine(CD hn h0 h1).mono ?_;rintro e w'⟨rfl,rfl⟩;go_wp2;go_ret;exact⟨by rw[e];rfl,au.alloc ao _⟩};{
 go_in
 go_wp2_with fail;refine(CD hn h0 h1).mono ?_;rintro e w'⟨rfl,rfl⟩;go_wp2;go_ret;exact⟨rfl,au.alloc ao _⟩}
def Te(p0 p1 p2:OA)(n0 c0 n1 c1 n2 c2:Nat)(s0 s1 s2:Int)(w:World)(hs:n0+n1+n2<=1048576):Calls prog 4 #[dt (.S p0 n0 c0) s0 (.S p1 n1 c1) s1 (.S p2 n2 c2) s2,.I 1048576] w (Rb (.I (1048576-n0-n1-n2)) w):=by
 have m0:n0<=maxLen:=by unfold maxLen;omega
 have m1:n1<=maxLen:=by unfold maxLen;omega
 have m2:n2<=maxLen:=by unfold maxLen;omega
 go_in
 go_wp2_with fail;refine(iA m0 ae ae).mono ?_;rintro e w1⟨rfl,aA⟩;rw[lT ae];obtain⟨iW,Of⟩:=lM aA;go_wp2_with fail;refine(iA m1 ae ae).mono ?_;rintro e w2⟨rfl,aD⟩;replace aD:=aj aA aD;rw[lT ae];obtain⟨ku,Q4⟩:=lM aD;go_wp2_with fail;refine(iA m2 ae ae).mono ?_;rintro e w3⟨rfl,aL⟩;replace aL:=aj aD aL;rw[lT ae];go_wp2;go_ret;exact⟨rfl,(au.alloc ao _).trans (aL.mono ai)⟩
def WX(p0 p1 p2:OA)(n0 c0 n1 c1 n2 c2:Nat)(s0 s1 s2:Int)(w:World)(m0:n0<=maxLen)(m1:n1<=maxLen)(m2:n2<=maxLen)(hs:1048576<n0+n1+n2):Calls prog 4 #[dt (.S p0 n0 c0) s0 (.S p1 n1 c1) s1 (.S p2 n2 c2) s2,.I 1048576] w (Rb (.I (-1)) w):=by
 by_cases h0:n0<=1048576;{
 by_cases h1:n0+n1<=1048576;{
 go_in
 go_wp2_with fail;refine(iA m0 ae ae).mono ?_;rintro e w1⟨rfl,aA⟩;rw[lT ae];obtain⟨iW,Of⟩:=lM aA;go_wp2_with fail;refine(iA m1 ae ae).mono ?_;rintro e w2⟨rfl,aD⟩;replace aD:=aj aA aD;rw[lT ae];obtain⟨ku,Q4⟩:=lM aD;go_wp2_with fail;refine(iA m2 ae ae).mono ?_;rintro e w3⟨rfl,aL⟩;replace aL:=aj aD aL;rw[Bp ae];go_wp2;go_ret;exact⟨rfl,(au.alloc ao _).trans (aL.mono ai)⟩};{
 go_in
 go_wp2_with fail;refine(iA m0 ae ae).mono ?_;rintro e w1⟨rfl,aA⟩;rw[lT ae];obtain⟨iW,Of⟩:=lM aA;go_wp2_with fail;refine(iA m1 ae ae).mono ?_;rintro e w2⟨rfl,aD⟩;replace aD:=aj aA aD;rw[Bp ae];go_wp2;go_ret;exact⟨rfl,(au.alloc ao _).trans (aD.mono ai)⟩}};{
 go_in
 go_wp2_with fail;refine(iA m0 ae ae).mono ?_;rintro e w1⟨rfl,aA⟩;rw[Bp ae];go_wp2;go_ret;exact⟨rfl,(au.alloc ao _).trans (aA.mono ai)⟩}
def xB{n:Int}{w:World}(h:Rd w (.S p l.length c) l)(hl:Mg l.length):Calls prog 18 #[iy (.S p l.length c) n] w λe w'=>∃p' c',e=.returned (iy (.S p' l.length c') n)/\Own w.heap.size w' (.S p' l.length c') l/\Bw w w':=by
 have hR:=λ(w':World)(hb:Bw w w')=>h.below hb
 go_in
 go_wp2_with fail;refine(OI (hR _ (by exact((au.alloc ao _).alloc ai _).alloc aU _)) hl).mono ?_;rintro e w1⟨p',c',rfl,ho,aA⟩;obtain⟨iW,Of⟩:=lM aA;go_wp2;have aD:Bw w w1:=((((au.alloc ao _).alloc ai _).alloc aU _)).trans (aA.mono aU);have mV:Own (w.heap.size+3) w1 (.S p' l.length c') l:=by simpa using ho
 refine dD (v:=iy (.S p' l.length c') n) (by simp[results,results18,go_sem,iW]) rfl ⟨p',c',rfl,Own.mono (B:=w.heap.size+3) ?_ ae,?_⟩;{
 repeat(refine qn ?_ ai _)
 exact mV};{
 repeat(refine gF ?_ (by simp<;>omega) _)
 exact aD}
structure jE(B:Nat)(w:World)(v0 v1 v2:Value)(l0 l1 l2:LI):Prop where
 o0:Own B w v0 l0
 o1:Own B w v1 l1
 o2:Own B w v2 l2
 n01:∀b,v0.ownBlock=some b->v1.ownBlock≠some b
 n02:∀b,v0.ownBlock=some b->v2.ownBlock≠some b
 n12:∀b,v1.ownBlock=some b->v2.ownBlock≠some b
def jE.mk'{B1 B2:Nat}{w w1 w2:World}(a0:Own B w1 v0 l0)(a1:Own B1 w2 v1 l1)(o0:Own B w v0 l0)(o1:Own B1 w v1 l1)(o2:Own B2 w v2 l2)(h1:w1.heap.size<=B1)(h2:w2.heap.size<=B2)(hB:B<=B1)(iY:B1<=B2):jE B w v0 v1 v2 l0 l1 l2:=
 ⟨o0,o1.mono hB,o2.mono ae,λb e0 e1=>by have:=a0.lt b e0;have:=o1.lt b e1;omega,λb e0 e1=>by have:=a0.lt b e0;have:=o2.lt b e1;omega,λb e0 e1=>by have:=a1.lt b e0;have:=o2.lt b e1;omega⟩
def sI(p0 p1 p2:OA)(c0 c1 c2:Nat)(n0 n1 n2:Int)(l0 l1 l2:LI)(w:World)(h0:Rd w (.S p0 l0.length c0) l0)(h1:Rd w (.S p1 l1.length c1) l1)(h2:Rd w (.S p2 l2.length c2) l2)(hl:l0.length+l1.length+l2.length<=1048576):Calls prog 6 #[dt (.S p0 l0.length c0) n0 (.S p1 l1.length c1) n1 (.S p2 l2.length c2) n2] w λe w'=>
   ∃q0 d0 q1 d1 q2 d2,e=.returned (dt (.S q0 l0.length d0) n0 (.S q1 l1.length d1) n1 (.S q2 l2.length d2) n2)∧
    jE w.heap.size w' (.S q0 l0.length d0) (.S q1 l1.length d1) (.S q2 l2.length d2) l0 l1 l2/\Bw w w':=by
 have hR0:=λ(w':World)(hb:Bw w w')=>h0.below hb;have rr:=λ(w':World)(hb:Bw w w')=>h1.below hb;have Ww:=λ(w':World)(hb:Bw w w')=>h2.below hb
 go_in
 go_wp2_with fail;refine(xB (hR0 _ (by exact((au.alloc ao _).alloc ai _).alloc aU _)) ae).mono ?_;rintro e w1⟨q0,d0,rfl,o0,aA⟩;obtain⟨iW,Of⟩:=lM aA;have z1:w.heap.size+1+1<w1.heap.size:=by have:=aA.size;simp at this;omega
 have z1':w.heap.size<w1.heap.size:=ae;have ce9:w.heap.size+1<w1.heap.size:=ae;have b1:Bw w w1:=((((au.alloc ao _).alloc ai _).alloc aU _)).trans (aA.mono aU);replace o0:Own (w.heap.size+3) w1 (.S q0 l0.length d0) l0:=by simpa using o0
 go_wp2_with fail;refine(xB (rr _ (by exact(b1.setCell aU _).setCell aU _)) ae).mono ?_;rintro e w2⟨q1,d1,rfl,o1,aD⟩;obtain⟨ku,Q4⟩:=lM aD;have z2:w1.heap.size<=w2.heap.size:=by have:=aD.size;simp at this;omega
 have b2:Bw w w2:=((b1.setCell aU _).setCell aU _).trans (aD.mono aU);have o0':Own (w.heap.size+3) w2 (.S q0 l0.length d0) l0:=Own.below ((o0.set ai _).set ai _) aD;replace o1:Own w1.heap.size w2 (.S q1 l1.length d1) l1:=by simpa using o1
 go_wp2_with fail;refine(xB (Ww _ (by exact(b2.setCell aU _).setCell aU _)) ae).mono ?_;rintro e w3⟨q2,d2,rfl,o2,aL⟩;obtain⟨Ho,Ee⟩:=lM aL;have z3:w2.heap.size<=w3.heap.size:=by have:=aL.size;simp at this;omega
 have z2':w.heap.size+1+1<w2.heap.size:=ae;have ce8:w.heap.size+1<w2.heap.size:=ae;have b3:Bw w w3:=((b2.setCell aU _).setCell aU _).trans (aL.mono aU);have aX7:Own (w.heap.size+3) w3 (.S q0 l0.length d0) l0:=Own.below ((o0'.set ai _).set ai _) aL;have YK:Own w1.heap.size w3 (.S q1 l1.length d1) l1:=Own.below ((o1.set aU _).set aU _) aL;replace o2:Own w2.heap.size w3 (.S q2 l2.length d2) l2:=by simpa using o2
 go_wp2;refine dD (v:=dt (.S q0 l0.length d0) n0 (.S q1 l1.length d1) n1 (.S q2 l2.length d2) n2) (by simp[results,results6,go_sem,iW,ku,Ho,z1,z1',ce9,z2',ce8]) rfl ⟨q0,d0,q1,d1,q2,d2,rfl,?_,?_⟩;{
 refine jE.mk' (B:=w.heap.size) (B1:=w1.heap.size) (B2:=w2.heap.size) (o0.mono ae) o1 (Own.mono (B:=w.heap.size+3) ?_ ae) ?_ ?_ ao ao ae ae;{
 repeat(refine qn ?_ ai _)
 exact aX7};{
 repeat(refine qn ?_ aU _)
 exact YK};{
 repeat(refine qn ?_ aU _)
 exact o2}};{
 repeat(refine gF ?_ (by simp<;>omega) _)
 exact b3}
def Nj{w:World}(h1:Rd w v1 l)(h2:Rd w v2 l)(hl:l.length<=2097152):Cp 57 #[v1,v2] w (Rb (.bool true) w):=by
 refine(DI h1 h2 hl hl).mono ?_;rintro e w'⟨rfl,hb⟩;exact⟨ai,hb⟩
def vo{p q:OA}{d:Nat}{n:Int}{w:World}(h:Rd w (.S p l.length c) l)(k:Rd w (.S q l.length d) l)(hl:l.length<=2097152):Calls prog 26 #[iy (.S p l.length c) n,iy (.S q l.length d) n] w (Rb (.bool true) w):=by
 have hR:=λ(w':World)(hb:Bw w w')=>h.below hb;have kR:=λ(w':World)(hb:Bw w w')=>k.below hb;have hn:(n != n)=false:=ai
 go_in
 go_wp2_with fail;refine(Nj (hR _ (by exact(au.alloc ao _).alloc ai _)) (kR _ (by exact(au.alloc ao _).alloc ai _)) hl).mono ?_;rintro e w1⟨rfl,aA⟩;obtain⟨iW,Of⟩:=lM aA;have b1:Bw w w1:=(((au.alloc ao _).alloc ai _)).trans (aA.mono aU);go_wp2;go_ret;exact⟨rfl,b1⟩
def DH(p0 p1 p2 q0 q1 q2:OA)(c0 c1 c2 d0 d1 d2:Nat)(n0 n1 n2:Int)(l0 l1 l2:LI)(w:World)(h0:Rd w (.S p0 l0.length c0) l0)(h1:Rd w (.S p1 l1.length c1) l1)(h2:Rd w (.S p2 l2.length c2) l2)(k0:Rd w (.S q0 l0.length d0) l0)(k1:Rd w (.S q1 l1.length d1) l1)(k2:Rd w (.S q2 l2.length d2) l2)(m0:l0.length<=2097152)(m1:l1.length<=2097152)(m2:l2.length<=2097152):Calls prog 9 #[dt (.S p0 l0.length c0) n0 (.S p1 l1.length c1) n1 (.S p2 l2.length c2) n2,dt (.S q0 l0.length d0) n0 (.S q1 l1.length d1) n1 (.S q2 l2.length d2) n2] w (Rb (.bool true) w):=by
 have hR0:=λ(w':World)(hb:Bw w w')=>h0.below hb;have rr:=λ(w':World)(hb:Bw w w')=>h1.below hb;have Ww:=λ(w':World)(hb:Bw w w')=>h2.below hb;have kR0:=λ(w':World)(hb:Bw w w')=>k0.below hb;have kR1:=λ(w':World)(hb:Bw w w')=>k1.below hb;have kR2:=λ(w':World)(hb:Bw w w')=>k2.below hb
 go_in
 go_wp2_with fail;refine(vo (hR0 _ (by exact(au.alloc ao _).alloc ai _)) (kR0 _ (by exact(au.alloc ao _).alloc ai _)) m0).mono ?_;rintro e w1⟨rfl,aA⟩;obtain⟨iW,Of⟩:=lM aA;have b1:Bw w w1:=(((au.alloc ao _).alloc ai _)).trans (aA.mono aU);go_wp2_with fail;refine(vo (rr _ b1) (kR1 _ b1) m1).mono ?_;rintro e w2⟨rfl,aD⟩;replace aD:=aj aA aD;obtain⟨ku,Q4⟩:=lM aD;have b2:Bw w w2:=(((au.alloc ao _).alloc ai _)).trans (aD.mono aU);go_wp2_with fail;refine(vo (Ww _ b2) (kR2 _ b2) m2).mono ?_;rintro e w3⟨rfl,aL⟩;replace aL:=aj aD aL;have b3:Bw w w3:=(((au.alloc ao _).alloc ai _)).trans (aL.mono aU);go_wp2;go_ret;exact⟨rfl,b3⟩
def uq(n:Nat)(s:Int):Bool:=decide (n<=200000)&&decide (0<=s)&&decide (s<=n)
def Az{n:Nat}(a:n<=200000)(b:0<=s)(c:s<=n):uq n s=true:=by simp[uq,a,b,c]
def Ct{n:Nat}(a:¬(n<=200000/\0<=s/\s<=n)):uq n s=false:=by
 unfold uq;rw[uM,uM];simp only[xL];omega
def Nb{n:Nat}(h:uq n s=true):n<=200000/\0<=s/\s<=n:=by
 simp[uq]at h;omega
def jA{n c:Nat}{w:World}(hn:n<=2097152):Calls prog 32 #[iy (.S p n c) s] w (Rb (.bool (uq n s)) w):=by
 by_cases a:n<=200000;{
 by_cases b:0<=s;{
 by_cases c:s<=n;{
 rw[Az a b c]
 go_in
 go_wp2;go_ret;exact⟨rfl,au.alloc ao _⟩};{
 rw[Ct ae]
 go_in
 go_wp2;go_ret;exact⟨rfl,au.alloc ao _⟩}};{
 rw[Ct ae]
 go_in
 go_wp2;go_ret;exact⟨rfl,au.alloc ao _⟩}};{
 rw[Ct ae]
 go_in
 go_wp2;go_ret;exact⟨rfl,au.alloc ao _⟩}
def A8(n0:Nat)(s0:Int)(n1:Nat)(s1:Int)(n2:Nat)(s2:Int):Bool:=uq n0 s0&&uq n1 s1&&uq n2 s2
def wW{w:World}(h0:n0<=2097152)(h1:n1<=2097152)(h2:n2<=2097152):Calls prog 14 #[dt (.S p0 n0 c0) s0 (.S p1 n1 c1) s1 (.S p2 n2 c2) s2] w (Rb (.bool (A8 n0 s0 n1 s1 n2 s2)) w):=by
 cases e0:uq n0 s0;{
 rw[show A8 n0 s0 n1 s1 n2 s2=false by simp[A8,e0]];have E0:Hid (uq n0 s0=false):=e0
 go_in
 go_wp2_with fail;refine(jA h0).mono ?_;rintro e w1⟨rfl,aA⟩;rw[E0.out];have b1:Bw w w1:=(au.alloc ao _).trans (aA.mono ai);go_wp2;go_ret;exact⟨rfl,b1⟩};{
 have E0:Hid (uq n0 s0=true):=e0;cases e1:uq n1 s1;{
 rw[show A8 n0 s0 n1 s1 n2 s2=false by simp[A8,e1]];have E1:Hid (uq n1 s1=false):=e1
 go_in
 go_wp2_with fail;refine(jA h0).mono ?_;rintro e w1⟨rfl,aA⟩;rw[E0.out];obtain⟨iW,Of⟩:=lM aA;go_wp2_with fail;refine(jA h1).mono ?_;rintro e w2⟨rfl,aD⟩;rw[E1.out];replace aD:=aj aA aD;have b2:Bw w w2:=(au.alloc ao _).trans (aD.mono ai);go_wp2;go_ret;exact⟨rfl,b2⟩};{
 rw[show A8 n0 s0 n1 s1 n2 s2=uq n2 s2 by simp[A8,e0,e1]];have E1:Hid (uq n1 s1=true):=e1
 go_in
 go_wp2_with fail;refine(jA h0).mono ?_;rintro e w1⟨rfl,aA⟩;rw[E0.out];obtain⟨iW,Of⟩:=lM aA;go_wp2_with fail;refine(jA h1).mono ?_;rintro e w2⟨rfl,aD⟩;rw[E1.out];replace aD:=aj aA aD;obtain⟨ku,Q4⟩:=lM aD;go_wp2_with fail;refine(jA h2).mono ?_;rintro e w3⟨rfl,aL⟩;replace aL:=aj aD aL;have b3:Bw w w3:=(au.alloc ao _).trans (aL.mono ai);go_wp2;go_ret;exact⟨rfl,b3⟩}}
def vm(p0 p1 p2:OA)(c0:Nat)(c1:Nat)(c2:Nat)(e0:v0=.S p0 n0 c0)(e1:v1=.S p1 n1 c1)(e2:v2=.S p2 n2 c2){w:World}:Calls prog 43 #[dt v0 s0 v1 s1 v2 s2] w (Rb (dt v0 s0 v1 s1 v2 s2) w):=by
 subst e0 e1 e2
 go_in
 go_wp2;refine dD (v:=dt (.S p0 n0 c0) s0 (.S p1 n1 c1) s1 (.S p2 n2 c2) s2) (by simp[results,results43,go_sem]) rfl ⟨rfl,?_⟩
 repeat(refine gF ?_ ai _)
 exact(au.alloc ao _).alloc ai _
def iJ{n c:Nat}{w:World}(hn:n<=2097152):Calls prog 83 #[iy (.S p n c) s] w (Rb (.bool (uq n s)) w):=by
 by_cases a:n<=200000;{
 by_cases b:0<=s;{
 by_cases c:s<=n;{
 rw[Az a b c]
 go_in
 go_wp2;go_ret;exact⟨rfl,au.alloc ao _⟩};{
 rw[Ct ae]
 go_in
 go_wp2;go_ret;exact⟨rfl,au.alloc ao _⟩}};{
 rw[Ct ae]
 go_in
 go_wp2;go_ret;exact⟨rfl,au.alloc ao _⟩}};{
 rw[Ct ae]
 go_in
 go_wp2;go_ret;exact⟨rfl,au.alloc ao _⟩}
def aI8(h:uq n0 s0=false):A8 n0 s0 n1 s1 n2 s2=false:=by simp[A8,h]
def aI7(h:uq n1 s1=false):A8 n0 s0 n1 s1 n2 s2=false:=by simp[A8,h]
def aI6(h:uq n2 s2=false):A8 n0 s0 n1 s1 n2 s2=false:=by simp[A8,h]
def vS(a:uq n0 s0=true)(b:uq n1 s1=true)(c:uq n2 s2=true):A8 n0 s0 n1 s1 n2 s2=true:=by simp[A8,a,b,c]
def vk{w:World}(h0:n0<=2097152)(h1:n1<=2097152)(h2:n2<=2097152):Calls prog 44 #[dt (.S p0 n0 c0) s0 (.S p1 n1 c1) s1 (.S p2 n2 c2) s2] w (Rb (.bool (A8 n0 s0 n1 s1 n2 s2)) w):=by
 have i0:∀w:World,(Instr.index 90 (dt (.S p0 n0 c0) s0 (.S p1 n1 c1) s1 (.S p2 n2 c2) s2) (.I 0)).run prog w=.ok (iy (.S p0 n0 c0) s0) w:=λ_=>bg;have i1:∀w:World,(Instr.index 90 (dt (.S p0 n0 c0) s0 (.S p1 n1 c1) s1 (.S p2 n2 c2) s2) (.I 1)).run prog w=.ok (iy (.S p1 n1 c1) s1) w:=λ_=>bg;have i2:∀w:World,(Instr.index 90 (dt (.S p0 n0 c0) s0 (.S p1 n1 c1) s1 (.S p2 n2 c2) s2) (.I 2)).run prog w=.ok (iy (.S p2 n2 c2) s2) w:=λ_=>bg
 go_in
 go_wp2
 go_loopw[6](λi wr=>Bw w wr/\(i=.I 0\/(i=.I 1/\uq n0 s0=true)\/(i=.I 2/\uq n0 s0=true/\uq n1 s1=true)\/(i=.I 3/\uq n0 s0=true/\uq n1 s1=true/\uq n2 s2=true))) (λi _=>3-(intOf i).toNat)
 exact⟨au.alloc ao _,.inl rfl⟩;{
 obtain⟨aK,rfl|⟨rfl,f0⟩|⟨rfl,f0,f1⟩|⟨rfl,f0,f1,f2⟩⟩:=hrel;{
 skip
 cases e0:uq n0 s0;{have E:=af (aI8 (n0:=n0) (n1:=n1) (n2:=n2) (s0:=s0) (s1:=s1) (s2:=s2) e0);have E':=af e0;go_wp2_with fail;refine(iJ h0).mono ?_;rintro e w1⟨rfl,aA⟩;rw[aa E'];have b1:Bw w w1:=(aK.alloc aK.size _).trans (aA.mono (by have:=aK.size;simp;omega));go_wp2;go_ret;exact⟨by rw[aa E];rfl,b1⟩};{
 have E':=af e0;go_wp2_with fail;refine(iJ h0).mono ?_;rintro e w1⟨rfl,aA⟩;rw[aa E'];have b1:Bw w w1:=(aK.alloc aK.size _).trans (aA.mono (by have:=aK.size;simp;omega));go_wp2;go_roundw;exact⟨b1,.inr (.inl ⟨rfl,by trivial⟩)⟩
 case measure=>simp[intOf]}}
 {
 have F0:=af f0;clear f0;cases e1:uq n1 s1;{have E:=af (aI7 (n0:=n0) (n1:=n1) (n2:=n2) (s0:=s0) (s1:=s1) (s2:=s2) e1);have E':=af e1;go_wp2_with fail;refine(iJ h1).mono ?_;rintro e w1⟨rfl,aA⟩;rw[aa E'];have b1:Bw w w1:=(aK.alloc aK.size _).trans (aA.mono (by have:=aK.size;simp;omega));go_wp2;go_ret;exact⟨by rw[aa E];rfl,b1⟩};{
 have E':=af e1;go_wp2_with fail;refine(iJ h1).mono ?_;rintro e w1⟨rfl,aA⟩;rw[aa E'];have b1:Bw w w1:=(aK.alloc aK.size _).trans (aA.mono (by have:=aK.size;simp;omega));go_wp2;go_roundw;exact⟨b1,.inr (.inr (.inl ⟨rfl,F0,by trivial⟩))⟩
 case measure=>simp[intOf]}}
 {
 have F0:=af f0;have F1:=af f1;clear f0 f1;cases e2:uq n2 s2;{have E:=af (aI6 (n0:=n0) (n1:=n1) (n2:=n2) (s0:=s0) (s1:=s1) (s2:=s2) e2);have E':=af e2;go_wp2_with fail;refine(iJ h2).mono ?_;rintro e w1⟨rfl,aA⟩;rw[aa E'];have b1:Bw w w1:=(aK.alloc aK.size _).trans (aA.mono (by have:=aK.size;simp;omega));go_wp2;go_ret;exact⟨by rw[aa E];rfl,b1⟩};{
 have E':=af e2;go_wp2_with fail;refine(iJ h2).mono ?_;rintro e w1⟨rfl,aA⟩;rw[aa E'];have b1:Bw w w1:=(aK.alloc aK.size _).trans (aA.mono (by have:=aK.size;simp;omega));go_wp2;go_roundw;exact⟨b1,.inr (.inr (.inr ⟨rfl,F0,F1,by trivial⟩))⟩
 case measure=>simp[intOf]}}
 {have E:=af (vS f0 f1 f2);go_wp2;go_ret;exact⟨by rw[aa E];rfl,aK⟩}}
def xm{w:World}(h0:n0<=2097152)(h1:n1<=2097152)(h2:n2<=2097152):Calls prog 19 #[dt (.S p0 n0 c0) s0 (.S p1 n1 c1) s1 (.S p2 n2 c2) s2] w (Rb (.bool (A8 n0 s0 n1 s1 n2 s2)) w):=by
 go_in
 go_wp2_with fail;refine(vm p0 p1 p2 (n0:=n0) c0 (n1:=n1) c1 (n2:=n2) c2 rfl rfl rfl).mono ?_;rintro e w1⟨rfl,aA⟩;have b1:Bw w w1:=(au.alloc ao _).trans (aA.mono ai);go_wp2_with fail;refine(vk h0 h1 h2).mono ?_;rintro e w2⟨rfl,aD⟩;have b2:=aj b1 aD;go_wp2;go_ret;exact⟨rfl,b2⟩
def jE.below{w w':World}(h:jE B w v0 v1 v2 l0 l1 l2)(hb:Bw w w'):jE B w' v0 v1 v2 l0 l1 l2:=
 ⟨Own.below h.o0 hb,Own.below h.o1 hb,Own.below h.o2 hb,h.n01,h.n02,h.n12⟩
def sR{k:Int}{w:World}(h:Own B w (.S p l.length c) l)(hl:Mg l.length)(k0:0<=k)(k1:k<=100000000):Calls prog 27 #[iy (.S p l.length c) s,.I k] w λe w'=>e=.returned (.I (k+l.length))/\Own B w' (.S p l.length c) (marks k l.length)/\Kept [.S p l.length c] w w':=by
 have hR:=λ(w':World)(hb:Bw w w')=>Own.below h hb
 go_in
 go_wp2_with fail;refine(I8 (hR _ (by exact au.alloc ao _)) ae k0 k1).mono ?_;rintro e w1⟨rfl,ho,hg⟩;have hk:Kept [.S p l.length c] w w1:=(Kept.dY (au.alloc ao _)).trans (Kept.Gd hg ai);go_wp2;go_ret;exact⟨rfl,ho,hk⟩
def ti{c n:Nat}{k:Int}{w:World}(h:Rd w (.S p n c) (marks k n))(hl:Mg n)(k0:0<=k)(k1:k<=100000000):Calls prog 61 #[iy (.S p n c) s,.I k] w (Rb (.I (k+n)) w):=by
 have hR:=λ(w':World)(hb:Bw w w')=>Rd.below h hb
 go_in
 go_wp2_with fail;refine(Ju (hR _ (by exact au.alloc ao _)) ae k0 k1).mono ?_;rintro e w1⟨rfl,aA⟩;have b1:Bw w w1:=(au.alloc ao _).trans (aA.mono ai);go_wp2;go_ret;exact⟨rfl,b1⟩
abbrev vE(w:World)(b:Nat)(v0 v1 v2 v3 v4 v5:Value):Prop:=
 w.cell? (Ad b 0)=some v0/\w.cell? (Ad b 1)=some v1/\w.cell? (Ad b 2)=some v2/\w.cell? (Ad b 3)=some v3/\w.cell? (Ad b 4)=some v4/\w.cell? (Ad b 5)=some v5
def vE.below{w w':World}{v3 v4 v5:Value}(h:vE w b v0 v1 v2 v3 v4 v5)(hb:Bw w w'):vE w' b v0 v1 v2 v3 v4 v5:=
 ⟨ag h.1 hb,ag h.2.1 hb,ag h.2.2.1 hb,ag h.2.2.2.1 hb,ag h.2.2.2.2.1 hb,ag h.2.2.2.2.2 hb⟩
def zO(B:Nat)(p0 p1 p2:OA)(c0 c1 c2:Nat)(s0 s1 s2:Int)(l0 l1 l2:LI)(k:Int)(w:World)(h:jE B w (.S p0 l0.length c0) (.S p1 l1.length c1) (.S p2 l2.length c2) l0 l1 l2)(m0:Mg l0.length)(m1:Mg l1.length)(m2:Mg l2.length)(k0:0<=k)(k1:k<=90000000):Calls prog 10 #[dt (.S p0 l0.length c0) s0 (.S p1 l1.length c1) s1 (.S p2 l2.length c2) s2,.I k] w λe w'=>e=.returned (.I (k+l0.length+l1.length+l2.length))∧
   jE B w' (.S p0 l0.length c0) (.S p1 l1.length c1) (.S p2 l2.length c2) (marks k l0.length) (marks (k+l0.length) l1.length) (marks (k+l0.length+l1.length) l2.length)∧
   Kept [.S p0 l0.length c0,.S p1 l1.length c1,.S p2 l2.length c2] w w':=by
 have b0:∀o:Obj,Bw w (w.alloc o):=λo=>au.alloc ao _;have hR:=λ(w':World)(hb:Bw w w')=>jE.below h hb;have t0:=h.o0.lt;have t1:=h.o1.lt;have t2:=h.o2.lt;have N:=h
 go_in
 go_wp2_with fail;have h1:=hR _ (b0 (.cells #[.S p0 l0.length c0,.I s0,.S p1 l1.length c1,.I s1,.S p2 l2.length c2,.I s2] 30));refine(sR (B:=B) (p:=p0) (c:=c0) (l:=l0) (s:=s0) (k:=k) h1.o0 m0 k0 ae).mono ?_;rintro e w1⟨rfl,o0,g1⟩;have iW:=g1.cellAt (b:=w.heap.size) ai (by intro v hv e;simp only[nW]at hv;subst hv;have:=t0 _ e;omega);have o1:=Own.td h1.o1 g1 (by intro u hu b e;simp only[nW]at hu;subst hu;intro e';exact N.n01 b e' e);have o2:=Own.td h1.o2 g1 (by intro u hu b e;simp only[nW]at hu;subst hu;intro e';exact N.n02 b e' e);have z1:w.heap.size<w1.heap.size:=by have:=g1.size;simp at this;omega
 go_wp2_with fail;refine(sR (B:=B) (p:=p1) (c:=c1) (l:=l1) (s:=s1) o1 m1 ae ae).mono ?_;rintro e w2⟨rfl,YK,g2⟩;have ku:=g2.cellAt (b:=w.heap.size) z1 (by intro v hv e;simp only[nW]at hv;subst hv;have:=t1 _ e;omega);have o0':=Own.td (l:=marks k l0.length) o0 g2 (by intro u hu b e;simp only[nW]at hu;subst hu;intro e';exact N.n01 b e e');have o2':=Own.td o2 g2 (by intro u hu b e;simp only[nW]at hu;subst hu;intro e';exact N.n12 b e' e);have z2:w.heap.size<w2.heap.size:=aG g2.size;go_wp2_with fail;refine(sR (B:=B) (p:=p2) (c:=c2) (l:=l2) (s:=s2) o2' m2 ae ae).mono ?_;rintro e w3⟨rfl,ci9,g3⟩;have aX7:=Own.td (l:=marks k l0.length) o0' g3 (by intro u hu b e;simp only[nW]at hu;subst hu;intro e';exact N.n02 b e e');have cj0:=Own.td (l:=marks (k+l0.length) l1.length) YK g3 (by intro u hu b e;simp only[nW]at hu;subst hu;intro e';exact N.n12 b e e');have hk:Kept [.S p0 l0.length c0,.S p1 l1.length c1,.S p2 l2.length c2] w w3:=
  ((Kept.dY (b0 _)).trans (g1.more ai)).trans ((g2.more ai).trans (g3.more ai))
 go_wp2;go_ret;exact⟨rfl,⟨aX7,cj0,ci9,N.n01,N.n02,N.n12⟩,hk⟩
def MP(p0 p1 p2:OA)(c0 c1 c2 n0 n1 n2:Nat)(s0 s1 s2:Int)(k:Int)(w:World)(h0:Rd w (.S p0 n0 c0) (marks k n0))(h1:Rd w (.S p1 n1 c1) (marks (k+n0) n1))(h2:Rd w (.S p2 n2 c2) (marks (k+n0+n1) n2))(m0:Mg n0)(m1:Mg n1)(m2:Mg n2)(k0:0<=k)(k1:k<=90000000):Calls prog 29 #[dt (.S p0 n0 c0) s0 (.S p1 n1 c1) s1 (.S p2 n2 c2) s2,.I k] w (Rb (.I (k+n0+n1+n2)) w):=by
 have hR0:=λ(w':World)(hb:Bw w w')=>h0.below hb;have rr:=λ(w':World)(hb:Bw w w')=>h1.below hb;have Ww:=λ(w':World)(hb:Bw w w')=>h2.below hb
 go_in
 go_wp2_with fail;refine(ti (hR0 _ (by exact au.alloc ao _)) m0 k0 ae).mono ?_;rintro e w1⟨rfl,aA⟩;have b1:Bw w w1:=(au.alloc ao _).trans (aA.mono ai);obtain⟨iW,Of⟩:=lM aA;go_wp2_with fail;refine(ti (rr _ b1) m1 ae ae).mono ?_;rintro e w2⟨rfl,aD⟩;replace aD:=aj aA aD;have b2:Bw w w2:=(au.alloc ao _).trans (aD.mono ai);obtain⟨ku,Q4⟩:=lM aD;go_wp2_with fail;refine(ti (Ww _ b2) m2 ae ae).mono ?_;rintro e w3⟨rfl,aL⟩;replace aL:=aj aD aL;have b3:Bw w w3:=(au.alloc ao _).trans (aL.mono ai);go_wp2;go_ret;exact⟨rfl,b3⟩
def yt(p:OA)(c:Nat)(n:Int)(l:LI)(w:World)(h:Rd w (.slice p l.length c) l)(hl:l.length<=2097152):Calls prog 111 #[iy (.slice p l.length c) n] w λe w'=>∃p' c',e=.returned (iy (.slice p' l.length c') n)/\Own w.heap.size w' (.slice p' l.length c') l/\Below w.heap.size w w':=by
 go_in
 go_wp2_with fail;obtain⟨W,hW⟩:=az ((w.alloc (.cells #[.slice p l.length c,.int .i64 n] 28)).alloc (.cells #[.slice none 0 0,.int .i64 0] 28));have bW:Below w.heap.size w W:=by rw[hW];exact(au.alloc ao _).alloc ai _
 have k0:W.cell? (Ad w.heap.size 0)=some (.slice p l.length c):=by rw[hW];simp
 have k1:W.cell? (Ad w.heap.size 1)=some (.int .i64 n):=by rw[hW];simp
 have r0:W.cell? (Ad (w.heap.size+1) 0)=some (.slice none 0 0):=by rw[hW];simp
 have r1:W.cell? (Ad (w.heap.size+1) 1)=some (.int .i64 0):=by rw[hW];simp
 have f0:∀o,W.frozen? (Ad (w.heap.size+1) o)=false:=by intro o;rw[hW];simp
 have zW:w.heap.size+2=W.heap.size:=by rw[hW];simp
 rw[<-hW];clear hW;have b3:∀o:Obj,Below W.heap.size W (W.alloc o).drew:=λo=>(au.alloc ao _).drew;have e0:=h.below bW;clear h
 go_region_held3 (λw'=>w'.cell? (Ad w.heap.size 0)=some (.slice p l.length c)/\w'.cell? (Ad w.heap.size 1)=some (.int .i64 n)) (first|with_reducible exact⟨k0,k1⟩|with_reducible exact⟨g0,g1⟩|go_keep)
  (first|(go_at_call 144;refine(Ro (p:=p) (c:=c) ai (by exact e0.below (b3 _)) hl).mono ?_;rintro e w1⟨p',c',rfl,o1,aA⟩;have b1:=aj (b3 _) aA;have g0:=ag k0 b1;have g1:=ag k1 b1;have s0:=ag r0 b1;have s1:=ag r1 b1;have f1:=cG f0 b1 ae))
 have bb:Below w.heap.size w w1:=aj bW b1;have oo:Own W.heap.size w1 (.slice p' l.length c') l:=Own.mono o1 ai;clear k0 k1 r0 r1 f0 e0 aA g0 g1 o1 b3 b1 bW;go_wp2;refine dD (v:=iy (.slice p' l.length c') n) (by simp[results,results111,go_sem,s0,s1]) rfl ⟨p',c',rfl,Own.mono (B:=W.heap.size) ?_ ae,?_⟩;{
 repeat(refine qn ?_ aU _)
 exact oo};{
 repeat(refine gF ?_ ai _)
 exact bb}
def UE(p q:OA)(c d:Nat)(n:Int)(l m lm:LI)(vr:Hid (lm=l++m))(w:World)(h:Rd w (.slice p l.length c) l)(k:Rd w (.slice q m.length d) m)(hl:l.length+m.length<=4194304):Calls prog 173 #[iy (.slice p l.length c) n,.slice q m.length d] w λe w'=>∃p' c',e=.returned (iy (.slice p' lm.length c') n)/\Own w.heap.size w' (.slice p' lm.length c') lm/\Below w.heap.size w w':=by
 go_in
 go_wp2_with fail;obtain⟨W,hW⟩:=az ((w.alloc (.cells #[.slice p l.length c,.int .i64 n] 28)).alloc (.cells #[.slice none 0 0,.int .i64 0] 28));have bW:Below w.heap.size w W:=by rw[hW];exact(au.alloc ao _).alloc ai _
 have k0:W.cell? (Ad w.heap.size 0)=some (.slice p l.length c):=by rw[hW];simp
 have k1:W.cell? (Ad w.heap.size 1)=some (.int .i64 n):=by rw[hW];simp
 have r0:W.cell? (Ad (w.heap.size+1) 0)=some (.slice none 0 0):=by rw[hW];simp
 have r1:W.cell? (Ad (w.heap.size+1) 1)=some (.int .i64 0):=by rw[hW];simp
 have f0:∀o,W.frozen? (Ad (w.heap.size+1) o)=false:=by intro o;rw[hW];simp
 have zW:w.heap.size+2=W.heap.size:=by rw[hW];simp
 rw[<-hW];clear hW;have b3:∀o:Obj,Below W.heap.size W (W.alloc o).drew:=λo=>(au.alloc ao _).drew;have e0:=h.below bW;have e1:=k.below bW;clear h k
 go_region_held3 (λw'=>w'.cell? (Ad w.heap.size 0)=some (.slice p l.length c)/\w'.cell? (Ad w.heap.size 1)=some (.int .i64 n)) (first|with_reducible exact⟨k0,k1⟩|with_reducible exact⟨g0,g1⟩|go_keep)
  (first|(go_at_call 144;refine(Rn (p:=p) (q:=q) (c:=c) (d:=d) vr ai ai (by exact e0.below (b3 _)) (by exact e1.below (b3 _)) hl).mono ?_;rintro e w1⟨p',c',rfl,o1,aA⟩;have b1:=aj (b3 _) aA;have g0:=ag k0 b1;have g1:=ag k1 b1;have s0:=ag r0 b1;have s1:=ag r1 b1;have f1:=cG f0 b1 ae))
 have bb:Below w.heap.size w w1:=aj bW b1;have oo:Own W.heap.size w1 (.slice p' lm.length c') lm:=Own.mono o1 ai;clear k0 k1 r0 r1 f0 e0 e1 aA g0 g1 o1 b3 b1 bW;go_wp2;refine dD (v:=iy (.slice p' lm.length c') n) (by simp[results,results173,go_sem,s0,s1]) rfl ⟨p',c',rfl,Own.mono (B:=W.heap.size) ?_ ae,?_⟩;{
 repeat(refine qn ?_ aU _)
 exact oo};{
 repeat(refine gF ?_ ai _)
 exact bb}
def RI{n:Int}{w:World}:Calls prog 174 #[iy (.slice p k c) n] w λe w'=>e=.returned (iy (.slice p k c) k)/\Below w.heap.size w w':=by
 go_in
 go_wp2;refine dD (v:=iy (.slice p k c) k) (by simp[results,results174,go_sem]) rfl ⟨rfl,?_⟩
 repeat(refine gF ?_ ai _)
 exact(au.alloc ao _).alloc ai _
def isF(f:Int):Bool:=decide (0<=f)&&decide (f<3)
def Wn(a:0<=f)(b:f<3):isF f=true:=by simp[isF,a,b]
def ah8(a:¬(0<=f/\f<3)):isF f=false:=by
 unfold isF;rw[uM];simp only[xL];omega
def Nd(p0 p1 p2:OA)(n0 c0 n1 c1 n2 c2:Nat)(s0 s1 s2 f:Int)(w:World):Calls prog 171 #[dt (.slice p0 n0 c0) s0 (.slice p1 n1 c1) s1 (.slice p2 n2 c2) s2,.int .i64 f] w λe w'=>e=.returned (.bool (isF f))/\Below w.heap.size w w':=by
 by_cases a:0<=f;{
 by_cases b:f<3;{
 rw[Wn a b]
 go_in
 go_wp2;go_ret;exact⟨rfl,au.alloc ao _⟩};{
 rw[ah8 ae]
 go_in
 go_wp2;go_ret;exact⟨rfl,au.alloc ao _⟩}};{
 rw[ah8 ae]
 go_in
 go_wp2;go_ret;exact⟨rfl,au.alloc ao _⟩}
def Hq{p q:OA}{m d:Nat}{n:Int}{w:World}(hk:k<=200000)(hm:m<=2097152):Calls prog 172 #[iy (.slice p k c) n,.slice q m d] w λe w'=>e=.returned (.bool (decide (m+k<=200000)))/\Below w.heap.size w w':=by
 by_cases h:(m:Int)<=200000-k;{
 have e:decide (m+k<=200000)=true:=by simp;omega
 rw[e]
 go_in
 go_wp2;go_ret;exact⟨ai,au.alloc ao _⟩};{
 have e:decide (m+k<=200000)=false:=by simp;omega
 rw[e]
 go_in
 go_wp2;go_ret;exact⟨ai,au.alloc ao _⟩}
theorem xv{n0 n1 n2:Int}{w:World}(h0:Rd w (.slice p0 l0.length c0) l0)(h1:Rd w (.slice p1 l1.length c1) l1)(h2:Rd w (.slice p2 l2.length c2) l2)(m0:l0.length<=2097152)(m1:l1.length<=2097152)(m2:l2.length<=2097152):Calls prog 54 #[dt (.slice p0 l0.length c0) n0 (.slice p1 l1.length c1) n1 (.slice p2 l2.length c2) n2] w λe w'=>
   ∃q0 d0 q1 d1 q2 d2,e=.returned (dt (.slice q0 l0.length d0) n0 (.slice q1 l1.length d1) n1 (.slice q2 l2.length d2) n2)∧
    jE w.heap.size w' (.slice q0 l0.length d0) (.slice q1 l1.length d1) (.slice q2 l2.length d2) l0 l1 l2/\Below w.heap.size w w':=by
 go_in
 go_wp2_with fail;obtain⟨W,hW⟩:=az ((w.alloc (.cells #[.slice p0 l0.length c0,.int .i64 n0,.slice p1 l1.length c1,.int .i64 n1,.slice p2 l2.length c2,.int .i64 n2] 90)).alloc (.cells #[.slice none 0 0,.int .i64 0,.slice none 0 0,.int .i64 0,.slice none 0 0,.int .i64 0] 30));have bW:Below w.heap.size w W:=by rw[hW];exact(au.alloc ao _).alloc ai _
 have k0:vE W w.heap.size (.slice p0 l0.length c0) (.int .i64 n0) (.slice p1 l1.length c1) (.int .i64 n1) (.slice p2 l2.length c2) (.int .i64 n2):=by rw[hW];simp[vE]
 have r0:vE W (w.heap.size+1) (.slice none 0 0) (.int .i64 0) (.slice none 0 0) (.int .i64 0) (.slice none 0 0) (.int .i64 0):=by rw[hW];simp[vE]
 have f0:∀o,W.frozen? (Ad (w.heap.size+1) o)=false:=by intro o;rw[hW];simp
 have zW:w.heap.size+2=W.heap.size:=by rw[hW];simp
 rw[<-hW];clear hW;have e0:=h0.below bW.drew;have e1:=h1.below bW;have e2:=h2.below bW;clear h0 h1 h2;have k0d:vE W.drew w.heap.size (.slice p0 l0.length c0) (.int .i64 n0) (.slice p1 l1.length c1) (.int .i64 n1) (.slice p2 l2.length c2) (.int .i64 n2):=k0
 go_region_held3 (λw'=>vE w' w.heap.size (.slice p0 l0.length c0) (.int .i64 n0) (.slice p1 l1.length c1) (.int .i64 n1) (.slice p2 l2.length c2) (.int .i64 n2)) (first|with_reducible exact k0d|with_reducible exact k1|with_reducible exact k2|with_reducible exact k3|(clear k0 k0d k1 k2 b1 b2 b3 f3 e0 e1 e2 o0 o1 o2 aA aD aL r0 f0 bW;refine⟨?_,?_,?_,?_,?_,?_⟩<;>go_keep))
  (first
   |(go_at_call_of 111 (Value.agg #[.slice p0 l0.length c0,.int .i64 n0]);refine(yt p0 c0 n0 l0 _ (by exact e0) m0).mono ?_;rintro e w1⟨q0,d0,rfl,o0,aA⟩;have b1:=aj (cR W.heap.size W).drew aA;have k1:=vE.below k0 b1)
   |(go_at_call_of 111 (Value.agg #[.slice p1 l1.length c1,.int .i64 n1]);refine(yt p1 c1 n1 l1 _ (by exact e1.below b1) m1).mono ?_;rintro e w2⟨q1,d1,rfl,o1,aD⟩;have b2:=aj b1 aD;have k2:=vE.below k0 b2)
   |(go_at_call_of 111 (Value.agg #[.slice p2 l2.length c2,.int .i64 n2]);refine(yt p2 c2 n2 l2 _ (by exact e2.below b2) m2).mono ?_;rintro e w3⟨q2,d2,rfl,o2,aL⟩;have b3:=aj b2 aL;have k3:=vE.below k0 b3;have r3:=vE.below r0 b3;have f3:=cG f0 b3 ae))
 have z1:w.heap.size+2<=w1.heap.size:=by have:=aA.size;simp at this;omega
 have z2:w1.heap.size<=w2.heap.size:=aD.size;have z3:w2.heap.size<=w3.heap.size:=aL.size;have bb:Below w.heap.size w w3:=aj bW b3;have u0:Own W.heap.size w3 (.slice q0 l0.length d0) l0:=Own.below (Own.below (by simpa using o0) aD) aL;have u1:Own w1.heap.size w3 (.slice q1 l1.length d1) l1:=Own.below o1 aL;have u0':Own W.heap.size w1 (.slice q0 l0.length d0) l0:=by simpa using o0
 obtain⟨ra,rb,rc,rd,re,rf⟩:=r3;clear k0 k0d k1 k2 k3 b1 b2 b3 e0 e1 e2 aA aD aL r0 f0 o0;go_wp2;refine dD (v:=dt (.slice q0 l0.length d0) n0 (.slice q1 l1.length d1) n1 (.slice q2 l2.length d2) n2) (by simp[results,results54,go_sem,ra,rb,rc,rd,re,rf]) rfl ⟨q0,d0,q1,d1,q2,d2,rfl,?_,?_⟩;{
 refine jE.mk' (B:=w.heap.size) (B1:=w1.heap.size) (B2:=w2.heap.size) (u0'.mono ae) o1 (Own.mono (B:=W.heap.size) ?_ ae) ?_ ?_ ao ao ae ae;{
 repeat(refine qn ?_ aU _)
 exact u0};{
 repeat(refine qn ?_ aU _)
 exact u1};{
 repeat(refine qn ?_ aU _)
 exact o2}};{
 repeat(refine gF ?_ ai _)
 exact bb}
def jE.set{w:World}(h:jE B w v0 v1 v2 l0 l1 l2){a:Addr}(ha:a.block<B)(u:Value):jE B (w.setCell a u) v0 v1 v2 l0 l1 l2:=
 ⟨h.o0.set ha u,h.o1.set ha u,h.o2.set ha u,h.n01,h.n02,h.n12⟩
def jE.mono{B':Nat}{w:World}(h:jE B w v0 v1 v2 l0 l1 l2)(hB:B'<=B):jE B' w v0 v1 v2 l0 l1 l2:=
 ⟨h.o0.mono hB,h.o1.mono hB,h.o2.mono hB,h.n01,h.n02,h.n12⟩
def oF(w:World)(L0 L1 L2:LI)(N0 N1 N2 code:Int)(e:Ending)(w':World):Prop:=
 ∃q0 d0 q1 d1 q2 d2,e=.returned (.tuple #[dt (.slice q0 L0.length d0) N0 (.slice q1 L1.length d1) N1 (.slice q2 L2.length d2) N2,.int .i64 code])∧
  jE w.heap.size w' (.slice q0 L0.length d0) (.slice q1 L1.length d1) (.slice q2 L2.length d2) L0 L1 L2/\Below w.heap.size w w'
def DE{w v:World}{n0 n1 n2:Int}(hb:Below w.heap.size w v)(h0:Rd w (.slice p0 l0.length c0) l0)(h1:Rd w (.slice p1 l1.length c1) l1)(h2:Rd v (.slice p2 l2.length c2) l2)(m0:l0.length<=200000)(m1:l1.length<=200000)(m2:l2.length<=200000):Cp 54 #[.agg #[.slice p0 l0.length c0,.int .i64 n0,.slice p1 l1.length c1,.int .i64 n1,.slice p2 l2.length c2,.int .i64 n2]] v λe w'=>
   ∃q0 d0 q1 d1 q2 d2,e=.returned (dt (.slice q0 l0.length d0) n0 (.slice q1 l1.length d1) n1 (.slice q2 l2.length d2) n2)/\jE v.heap.size w' (.slice q0 l0.length d0) (.slice q1 l1.length d1) (.slice q2 l2.length d2) l0 l1 l2/\Below w.heap.size w w':=
 (xv (n0:=n0) (n1:=n1) (n2:=n2) (h0.below hb) (h1.below hb) h2 ae ae ae).mono λe w'⟨q0,d0,q1,d1,q2,d2,h,o,b⟩=>⟨q0,d0,q1,d1,q2,d2,h,o,aj hb b⟩
def qM{w v:World}{n0 n1 n2:Int}(hb:Below w.heap.size w v)(h0:Rd w (.slice p0 l0.length c0) l0)(h1:Rd w (.slice p1 l1.length c1) l1)(h2:Rd w (.slice p2 l2.length c2) l2)(m0:l0.length<=200000)(m1:l1.length<=200000)(m2:l2.length<=200000):Cp 54 #[.agg #[.slice p0 l0.length c0,.int .i64 n0,.slice p1 l1.length c1,.int .i64 n1,.slice p2 l2.length c2,.int .i64 n2]] v λe w'=>
   ∃q0 d0 q1 d1 q2 d2,e=.returned (dt (.slice q0 l0.length d0) n0 (.slice q1 l1.length d1) n1 (.slice q2 l2.length d2) n2)/\jE v.heap.size w' (.slice q0 l0.length d0) (.slice q1 l1.length d1) (.slice q2 l2.length d2) l0 l1 l2/\Below w.heap.size w w':=DE hb h0 h1 (h2.below hb) m0 m1 m2
def KR(p0 p1 p2:OA)(c0 c1 c2:Nat)(n0 n1 n2:Int)(l0 l1 l2:LI)(w:World)(h0:Rd w (.slice p0 l0.length c0) l0)(h1:Rd w (.slice p1 l1.length c1) l1)(h2:Rd w (.slice p2 l2.length c2) l2)(hd:Hid (A8 l0.length n0 l1.length n1 l2.length n2=true))(hs:l0.length<=200000)(ij:l1.length<=200000)(Hf:l2.length<=200000):Calls prog 104 #[dt (.slice p0 l0.length c0) n0 (.slice p1 l1.length c1) n1 (.slice p2 l2.length c2) n2,.int .i64 0] w (oF w [] l1 l2 0 n1 n2 0)/\Calls prog 104 #[dt (.slice p0 l0.length c0) n0 (.slice p1 l1.length c1) n1 (.slice p2 l2.length c2) n2,.int .i64 2] w (oF w l0 l1 [] n0 n1 0 0)/\Calls prog 108 #[dt (.slice p0 l0.length c0) n0 (.slice p1 l1.length c1) n1 (.slice p2 l2.length c2) n2,.int .i64 2] w (oF w l0 l1 l2 n0 n1 l2.length 0)/\(∀(pb:OA)(lb lm:LI)(vr:Hid (lm=l2++lb))(cb:Nat)(hB:Rd w (.slice pb lb.length cb) lb)(Uk:Hid (lm.length<=200000)),Calls prog 106 #[dt (.slice p0 l0.length c0) n0 (.slice p1 l1.length c1) n1 (.slice p2 l2.length c2) n2,.int .i64 2,.slice pb lb.length cb] w (oF w l0 l1 lm n0 n1 n2 0))/\Calls prog 109 #[dt (.slice p0 l0.length c0) n0 (.slice p1 l1.length c1) n1 (.slice p2 l2.length c2) n2] w (oF w l0 l2 [] n0 n2 0 0):=by
 refine⟨?_,?_,?_,λpb lb lm vr cb hB Uk=>?_,?_⟩
 all_goals(
  go_in
  go_wp2_with fail;refine(vm p0 p1 p2 c0 c1 c2 rfl rfl rfl).mono ?_;rintro e w1⟨rfl,aA⟩;have b1:Below w.heap.size w w1:=((au.alloc ao _).alloc ai _).trans (aA.mono aU);have z1:w.heap.size+1<w1.heap.size:=by have:=aA.size;simp at this;omega
  have R1:=af (ah (show vE w1 (w.heap.size+1) (.slice none 0 0) (.int .i64 0) (.slice none 0 0) (.int .i64 0) (.slice none 0 0) (.int .i64 0)from vE.below (by simp[vE]) aA) (cG (b:=w.heap.size+1) (by intro o;simp) aA ai));have HE:=af (ah (h0.below b1) (ah (h1.below b1) (h2.below b1)))
  try have eb:=af (hB.below b1)
  clear aA;go_wp2_with fail;refine(vk ae ae ae).mono ?_;rintro e w2⟨rfl,aD⟩;rw[aa hd];have K2:vE w2 w1.heap.size (.slice p0 l0.length c0) (.int .i64 n0) (.slice p1 l1.length c1) (.int .i64 n1) (.slice p2 l2.length c2) (.int .i64 n2):=vE.below (by simp[vE]) aD;have G2:=cG (b:=w1.heap.size) (by intro o;simp) aD ai;have b2:Below w1.heap.size w1 w2:=(au.alloc ao _).trans (aD.mono ai);have z2:w1.heap.size<w2.heap.size:=by have:=aD.size;simp at this;omega
  clear aD;go_wp2_with fail)
 iterate 4 (
  focus (
   refine(Nd p0 p1 p2 _ c0 _ c1 _ c2 n0 n1 n2 _ _).mono ?_;rintro e w3⟨rfl,aL⟩;rw[Wn ae ae];replace K2:=K2.below aL;replace G2:=cG G2 aL z2;replace b2:Below w1.heap.size w1 w3:=aj b2 aL;replace z2:w1.heap.size<w3.heap.size:=aG aL.size;clear aL;go_wp2_with fail)
  rotate_left)
 rotate_left 3
 focus (
  refine(RI).mono ?_;rintro e w3⟨rfl,aL⟩;replace K2:=K2.below aL;replace G2:=cG G2 aL z2;replace b2:Below w1.heap.size w1 w3:=aj b2 aL;replace z2:w1.heap.size<w3.heap.size:=aG aL.size;clear aL;go_wp2_with fail;refine PR (qM (by repeat(first|refine gF ?_ ai _|exact b2)) HE.1 HE.2.1 HE.2.2 ae ae ae) ?_)
 rotate_left
 focus (
  have el:=uO List.length vr;rw[ir]at el;have KI:=aa Uk;have hr:decide (lb.length+l2.length<=200000)=true:=by simp;omega
  refine(Hq ae ae).mono ?_;rintro e w3⟨rfl,aL⟩;rw[hr];replace K2:=K2.below aL;replace G2:=cG G2 aL z2;replace b2:Below w1.heap.size w1 w3:=aj b2 aL;replace z2:w1.heap.size<w3.heap.size:=aG aL.size;clear aL hr;go_wp2_with fail;refine(UE p2 pb c2 cb n2 l2 lb lm vr _ (HE.2.2.below b2) (eb.below b2) ae).mono ?_;rintro e w4⟨pm,cm,rfl,om,aL⟩;replace K2:=K2.below aL;replace G2:=cG G2 aL z2;replace b2:Below w1.heap.size w1 w4:=aj b2 aL;clear aL el;go_wp2_with fail;have EF:Own w3.heap.size _ (.slice pm lm.length cm) lm:=(om.set (a:=(Ad w1.heap.size 4)) z2 (.slice pm lm.length cm)).set (a:=(Ad w1.heap.size 5)) z2 (.int .i64 n2);refine PR (DE (by repeat(first|refine gF ?_ ai _|exact b2)) HE.1 HE.2.1 EF.rd ae ae ae) ?_)
 rotate_left;refine PR (qM (p2:=none) (c2:=0) (l2:=[]) (by repeat(first|refine gF ?_ ai _|exact b2)) HE.1 HE.2.2 (Rd.nil _) ae ae ai) ?_;rotate_left;refine PR (qM (p0:=none) (c0:=0) (l0:=[]) (by repeat(first|refine gF ?_ ai _|exact b2)) (Rd.nil _) HE.2.1 HE.2.2 ai ae ae) ?_;rotate_left;refine PR (qM (p2:=none) (c2:=0) (l2:=[]) (by repeat(first|refine gF ?_ ai _|exact b2)) HE.1 HE.2.1 (Rd.nil _) ae ae ai) ?_;rotate_left
 all_goals(
  rintro e w6⟨q0,d0,q1,d1,q2,d2,rfl,o6,b6⟩;have o7:=o6.mono (B':=w.heap.size+2) (by simp;have:=b2.size;omega);have bb:=aj b1 b6;obtain⟨ra,rb,rc,rd,re,rf⟩:=R1.1.below b6;have F6:=cG R1.2 b6 z1;clear K2 G2 b2 HE o6 b6 R1
  try clear om EF eb
  go_wp2;refine dD (by simp[results,results104,results108,results106,results109,go_sem,ra,rb,rc,rd,re,rf]) rfl ⟨q0,d0,q1,d1,q2,d2,rfl,?_,?_⟩;{
 refine jE.mono (B:=w.heap.size+2) ?_ ae
 repeat(refine jE.set ?_ ai _)
 exact o7};{
 repeat(refine gF ?_ ai _)
 exact bb})
def WZ(p0 p1 p2:OA)(c0 c1 c2:Nat)(n0 n1 n2:Int)(l0 l1 l2:LI)(w:World)(h0:Rd w (.S p0 l0.length c0) l0)(h1:Rd w (.S p1 l1.length c1) l1)(h2:Rd w (.S p2 l2.length c2) l2)(hd:Hid (A8 l0.length n0 l1.length n1 l2.length n2=true))(m0:l0.length<=200000)(m1:l1.length<=200000)(m2:l2.length<=200000):Calls prog 103 #[dt (.S p0 l0.length c0) n0 (.S p1 l1.length c1) n1 (.S p2 l2.length c2) n2] w (oF w l0 l1 [] n0 n1 0 0)/\Calls prog 107 #[dt (.S p0 l0.length c0) n0 (.S p1 l1.length c1) n1 (.S p2 l2.length c2) n2] w (oF w l0 l1 l2 n0 n1 l2.length 0)/\Calls prog 110 #[dt (.S p0 l0.length c0) n0 (.S p1 l1.length c1) n1 (.S p2 l2.length c2) n2] w (oF w [] l1 l2 0 n1 n2 0)∧
  ∀(G:Nat)(pb:OA)(cb:Nat)(lb lm:LI)(vr:Hid (lm=l2++lb))(hG:w.cell? (Ad G 0)=some (.S pb lb.length cb))(hB:Rd w (.S pb lb.length cb) lb)(hlb:lb.length<=200000)(Uk:lm.length<=200000),Calls prog 105 #[dt (.S p0 l0.length c0) n0 (.S p1 l1.length c1) n1 (.S p2 l2.length c2) n2,.pointer (some (Ad G 0))] w (oF w l0 l1 lm n0 n1 n2 0):=by
 have bW:∀o o':Obj,Bw w ((w.alloc o).alloc o'):=λo o'=>(au.alloc ao _).alloc ai _;have HD:=af (λo o'=>KR p0 p1 p2 c0 c1 c2 n0 n1 n2 l0 l1 l2 ((w.alloc o).alloc o') (h0.below (bW o o')) (h1.below (bW o o')) (h2.below (bW o o')) hd m0 m1 m2);refine⟨?_,?_,?_,λG pb cb lb lm vr hG hB hlb Uk=>?_⟩
 all_goals(
  try have hG2:=λo o'=>ag hG (bW o o')
  go_in
  go_wp2_with fail)
 refine(aa HD _ _).2.1.mono ?_;rotate_left;refine(aa HD _ _).2.2.1.mono ?_;rotate_left;refine(aa HD _ _).1.mono ?_;rotate_left;refine((aa HD _ _).2.2.2.1 pb lb lm vr cb (hB.below (bW _ _)) (af Uk)).mono ?_;rotate_left
 all_goals(
  rintro e w2⟨q0,d0,q1,d1,q2,d2,rfl,o,hb⟩;have F:=cG (b:=w.heap.size+1) (by intro o;simp) hb ai;obtain⟨ra,rb,rc,rd,re,rf⟩:vE w2 (w.heap.size+1) (.S none 0 0) (.I 0) (.S none 0 0) (.I 0) (.S none 0 0) (.I 0):=vE.below (by simp[vE]) hb;have bb:=aj (bW _ _) hb;clear h0 h1 h2 bW hb HD
  try clear hB hG hG2
  go_wp2;refine dD (by simp[results,results103,results105,results107,results110,go_sem,ra,rb,rc,rd,re,rf]) rfl ⟨q0,d0,q1,d1,q2,d2,rfl,?_,?_⟩;{
 refine jE.mono (B:=w.heap.size+2) ?_ ae
 repeat(refine jE.set ?_ ai _)
 simpa using o};{
 repeat(refine gF ?_ ai _)
 exact bb})
namespace Q
open Go.Sort
def Zn{p:Int->Bool}(h:i<=j)(hp:p d[i]! = true):scanUp p d j i=scanUp p d j (i+1):=by
 rw[scanUp,bN (by simp[h,hp])]
def Li{p:Int->Bool}(h:¬i<=j\/p d[i]! = false):scanUp p d j i=i:=by
 rw[scanUp,bG];rcases h with h|h;{simp;omega};{simp[h]}
theorem Nn{p:Int->Bool}(hj:0<j)(h:i<=j)(hp:p d[j]! = true):scanDown p d i j=scanDown p d i (j-1):=by
 cases j with
 |zero=>omega
 |succ j=>rw[scanDown,bN (by simp[h,hp])];rfl
theorem Cu{p:Int->Bool}(hi:0<i)(h:¬i<=j\/p d[j]! = false):scanDown p d i j=j:=by
 cases j with
 |zero=>rfl
 |succ j=>
  rw[scanDown,bG];rcases h with h|h;{simp;omega};{simp[h]}
def IY{a:Nat}(h1:scanUp (λx=>ltInt x d[a]!) d j i=i2)(h2:scanDown (λx=>!ltInt x d[a]!) d i2 j=j2)(h:j2<i2):partLoop ltInt a i j d=(j2,d):=by
 rw[partLoop];simp only[h1,h2];rw[bN h]
def Pu{a:Nat}(h1:scanUp (λx=>ltInt x d[a]!) d j i=i2)(h2:scanDown (λx=>!ltInt x d[a]!) d i2 j=j2)(h:¬j2<i2)(hi:i<=i2)(hj:j2<=j)(hi0:0<i2):partLoop ltInt a i j d=partLoop ltInt a (i2+1) (j2-1) (swp d i2 j2):=by
 rw[partLoop];simp only[h1,h2];rw[bG h,Qm ae]
theorem aa6{blk off cap N a b piv:Nat}(hN:Hid (d.size=N)){w:World}(h:HU w blk off d)(Y6:a<=piv)(hpb:piv<b)(hb:b<=N)(jI:N<=1048576):Calls prog 245 #[.S (some (Ad blk off)) N cap,.I a,.I b,.I piv] w λe w'=>e=.returned (.tuple #[.I (partition ltInt d a b piv).1,.bool (partition ltInt d a b piv).2.1])/\HU w' blk off (partition ltInt d a b piv).2.2/\w.grownBy w' (some blk):=by
 obtain⟨⟨R1,R2,R3⟩,eR⟩:∃R,partition ltInt d a b piv=R:=⟨_,rfl⟩;rw[eR];have wD:=aa hN;obtain⟨B1,eB1⟩:∃x:Nat,(b:Int)-1=(x:Int):=⟨b-1,ae⟩;have eB0:b-1=B1:=ae;have wB:=fk B1;obtain⟨ca,fa⟩:=h a ae;obtain⟨cp,fp⟩:=h piv ae;obtain⟨u,eu⟩:=aI d[a]!;obtain⟨v,ev⟩:=aI d[piv]!;have HSW:=af (h.swap (i:=a) (j:=piv) ae ae ev.symm eu.symm);rw[eu]at ca;rw[ev]at cp;obtain⟨tt,ct⟩:=jP (q:=(Ad blk (off+a))) (u:=.U v) cp;obtain⟨d1,ed1⟩:=aI (swp d a piv);rw[ed1]at HSW;have YE:Hid (d1.size=N):=by show _=_;rw[<-ed1,size_swp];exact wD
 obtain⟨y,ey⟩:=aI d1[a]!;have HY1:=af ey;have HG:=af (aX (aE w blk (off+a) (.U v)) (aE _ blk (off+piv) (.U u)));obtain⟨I1,eI1⟩:∃I,scanUp (λx=>ltInt x d1[a]!) d1 B1 (a+1)=I:=⟨_,rfl⟩;obtain⟨J2,eJ2⟩:∃J,scanDown (λx=>!ltInt x d1[a]!) d1 I1 B1=J:=⟨_,rfl⟩;have HR:Hid (((R1,R2,R3):Nat×Bool×Array Int)=if I1>J2 then(J2,true,swp d1 J2 a)else((partLoop ltInt a (I1+1) (J2-1) (swp d1 I1 J2)).1,false,swp (partLoop ltInt a (I1+1) (J2-1) (swp d1 I1 J2)).2 (partLoop ltInt a (I1+1) (J2-1) (swp d1 I1 J2)).1 a)):=by show _=_;rw[<-eR,partition,ed1,eB0];simp only[eI1,eJ2]
 have EI1:=af eI1;have EJ2:=af eJ2;have kk1:=aS a N;have kk2:=aS piv N
 go_in
 go_wp2_with fail
 go_region
 go_wp2_with fail
 go_loopw[10](λs wr=>∃i1:Nat,s=.I i1/\a+1<=i1/\i1<=B1+2/\Hid (HU wr blk off d1)/\Hid (scanUp (λx=>ltInt x d1[a]!) d1 B1 i1=I1)/\Hid (w.grownBy wr (some blk))) (λs _=>B1+1-(intOf s).toNat)
 exact⟨a+1,by first|rfl|go_num,ae,ae,(aa HSW),EI1,(ay HG)⟩;{
 obtain⟨i1,rfl,qa1,qb1,Co,hE1,hG1⟩:=hrel;obtain⟨Bc,Yh⟩:∃B,(decide (i1<=B1)&&((λx=>ltInt x d1[a]!) d1[i1]!))=B:=⟨_,rfl⟩;have vX:=af Yh;go_wp2_with fail
 go_cut[43](λrv wc=>rv=.bool Bc/\wc=wr.drew)
 case first=>(
 by_cases kr:i1<=B1;{
 have Cl:=iH i1 B1;have hdd:=aa YE;obtain⟨ci,-⟩:=aa Co i1 ae;obtain⟨ca,-⟩:=aa Co a ae;obtain⟨x,ex⟩:=aI d1[i1]!;rw[ex]at ci;rw[aa HY1]at ca;have k1:=aS i1 N;have k2:=aS a N;have k3:=dA 0 i1;obtain⟨L,eL⟩:=aI (ltInt x y);have EL:=af eL;have eB:Bc=L:=by rw[<-aa vX];simp only[BN kr,pM,ex,aa HY1,eL]
 subst eB;have K0:=af (ah ci ca);refine dC (λw'=>w'.cell? (Ad blk (off+i1))=some (.U x)/\w'.cell? (Ad blk (off+a))=some (.U y)) (by exact K0) λhS=>?_;refine nK 0 1 2 3 4 5 6 7 hS ?_;refine mU 8 9 10 11 hS ?_;refine dM 12 λKK hK=>?_;refine de aH aH aH aH (λ_=>fU) (fS) ?_;rintro r' w2⟨rfl,rfl⟩;refine⟨_,rfl,?_⟩;rw[aa EL];refine gr hK (by exact K0) λhS=>?_;refine tn 13 hS ?_;refine dw ?_;go_wp2_with fail;go_meet;exact⟨rfl,rfl⟩};{
 have Cl:¬(i1:Int)<=(B1:Int):=ae;have eB:Bc=false:=by rw[<-aa vX,tX kr];rfl
 subst eB;refine dC (λw'=>True) jR λhS=>?_;refine mU 0 1 2 3 hS ?_;refine oI 4 5 6 7 hS ?_;refine oI 8 9 10 11 hS ?_;refine sn 12 hS ?_;refine tn 13 hS ?_;refine dw ?_;go_wp2_with fail;go_meet;exact⟨rfl,rfl⟩})
 obtain⟨rfl,rfl⟩:=hcut;cases Bc with
 |true=>
  have hh:i1<=B1/\((λx=>ltInt x d1[a]!) d1[i1]!)=true:=by have:=aa vX;rw[fx,pL]at this;exact this
  have hn:Hid (scanUp (λx=>ltInt x d1[a]!) d1 B1 (i1+1)=I1):=by show _=_;rw[<-Zn hh.1 hh.2];exact aa hE1
  have hle:=hh.1;go_wp2;go_roundw;exact⟨i1+1,by go_num,ae,ae,Co.drew,hn,ay hG1⟩;exact bM
 |false=>
  have cX:i1=I1:=by rw[<-aa hE1,Li];have:=aa vX;rw[uM,xL]at this;exact this
  subst cX;go_wp2_with fail
  go_loopw[11](λs wr=>∃j2:Nat,s=.I j2/\i1<=j2+2/\j2<=B1/\Hid (HU wr blk off d1)/\Hid (scanDown (λx=>!ltInt x d1[a]!) d1 i1 j2=J2)/\Hid (w.grownBy wr (some blk))) (λs _=>(intOf s).toNat)
  exact⟨B1,by first|rfl|go_num,ae,ae,Co,EJ2,(ay hG1)⟩;{
 obtain⟨j2,rfl,qa2,qb2,AZ,hE2,hG2⟩:=hrel;obtain⟨Bc,Yh⟩:∃B,(decide (i1<=j2)&&((λx=>!ltInt x d1[a]!) d1[j2]!))=B:=⟨_,rfl⟩;have vX:=af Yh;go_wp2_with fail
 go_cut[60](λrv wc=>rv=.bool Bc/\wc=wr.drew)
 case first=>(
 by_cases kr:i1<=j2;{
 have Cl:=iH i1 j2;have hdd:=aa YE;obtain⟨ci,-⟩:=aa AZ j2 ae;obtain⟨ca,-⟩:=aa AZ a ae;obtain⟨x,ex⟩:=aI d1[j2]!;rw[ex]at ci;rw[aa HY1]at ca;have k1:=aS j2 N;have k2:=aS a N;have k3:=dA 0 j2;obtain⟨L,eL⟩:=aI (ltInt x y);have EL:=af eL;have eB:Bc=(!L):=by rw[<-aa vX];simp only[BN kr,pM,ex,aa HY1,eL]
 subst eB;have K0:=af (ah ci ca);refine dC (λw'=>w'.cell? (Ad blk (off+j2))=some (.U x)/\w'.cell? (Ad blk (off+a))=some (.U y)) (by exact K0) λhS=>?_;refine nK 0 1 2 3 4 5 6 7 hS ?_;refine mU 8 9 10 11 hS ?_;refine dM 12 λKK hK=>?_;refine de aH aH aH aH (λ_=>fU) (fS) ?_;rintro r' w2⟨rfl,rfl⟩;refine⟨_,rfl,?_⟩;rw[aa EL];refine gr hK (by exact K0) λhS=>?_;refine kG 13 14 hS ?_;refine dw ?_;go_wp2_with fail;go_meet;exact⟨rfl,rfl⟩};{
 have Cl:¬(i1:Int)<=(j2:Int):=ae;have eB:Bc=false:=by rw[<-aa vX,tX kr];rfl
 subst eB;refine dC (λw'=>True) jR λhS=>?_;refine mU 0 1 2 3 hS ?_;refine oI 4 5 6 7 hS ?_;refine oI 8 9 10 11 hS ?_;refine sn 12 hS ?_;refine sn 13 hS ?_;refine tn 14 hS ?_;refine dw ?_;go_wp2_with fail;go_meet;exact⟨rfl,rfl⟩})
 obtain⟨rfl,rfl⟩:=hcut;cases Bc with
 |true=>
  have hh:i1<=j2/\((λx=>!ltInt x d1[a]!) d1[j2]!)=true:=by have:=aa vX;rw[fx,pL]at this;exact this
  have hle:=hh.1;obtain⟨m,em⟩:∃m:Nat,(j2:Int)-1=(m:Int):=⟨j2-1,ae⟩;have hn:Hid (scanDown (λx=>!ltInt x d1[a]!) d1 i1 m=J2):=by show _=_;rw[<-aa hE2,Nn ae hh.1 hh.2,show j2-1=m by omega]
  go_wp2;go_roundw;exact⟨m,by first|rfl|go_num,ae,ae,AZ.drew,hn,ay hG2⟩;exact bM
 |false=>
  have cX:j2=J2:=by rw[<-aa hE2,Cu ae];have:=aa vX;rw[uM,xL]at this;exact this
  subst cX;by_cases hgt:j2<i1;{
 have cr2:=aS j2 i1;have hr:=aa HR;rw[bN hgt]at hr;simp only[fQ]at hr;obtain⟨Rf,Nh,er3⟩:=hr;replace Rf:=Rf.symm;replace er3:=er3.symm;subst Rf Nh er3;obtain⟨c1,f1⟩:=aa AZ j2 (aG (aa YE));obtain⟨c2,f2⟩:=aa AZ a (aG (aa YE));obtain⟨p1,Ib⟩:=aI d1[j2]!;obtain⟨p2,Ia⟩:=aI d1[a]!;rw[Ib]at c1;rw[Ia]at c2;obtain⟨tt,ct⟩:=jP (q:=(Ad blk (off+j2))) (u:=.U p2) c2;have vx:=af (AZ.swap (i:=j2) (j:=a) (aG (aa YE)) (aG (aa YE)) Ia.symm Ib.symm);have SP:=af (aX (aX hG2 (aE _ blk (off+j2) (.U p2))) (aE _ blk (off+a) (.U p1)));have l1:=aS j2 N;have l2:=aS a N;have l3:=dA 0 j2;have l4:=dA 0 a;go_wp2_with fail
 go_region
 go_wp2
 go_ret2
 exact⟨rfl,vx,ay (ay SP)⟩};{
 have cr2:=dm j2 i1;obtain⟨⟨Q1,Q2⟩,eQ⟩:∃Q,partLoop ltInt a (i1+1) (j2-1) (swp d1 i1 j2)=Q:=⟨_,rfl⟩;have hr:=aa HR;rw[bG hgt,eQ]at hr;have HRB:=af hr;have EQ:=af eQ;obtain⟨c1,f1⟩:=aa AZ i1 (aG (aa YE));obtain⟨c2,f2⟩:=aa AZ j2 (aG (aa YE));obtain⟨p1,Ib⟩:=aI d1[i1]!;obtain⟨p2,Ia⟩:=aI d1[j2]!;rw[Ib]at c1;rw[Ia]at c2;obtain⟨tt,ct⟩:=jP (q:=(Ad blk (off+i1))) (u:=.U p2) c2;have vx:=af (AZ.swap (i:=i1) (j:=j2) (aG (aa YE)) (aG (aa YE)) Ia.symm Ib.symm);have SP:=af (aX (aX hG2 (aE _ blk (off+i1) (.U p2))) (aE _ blk (off+j2) (.U p1)));have l1:=aS i1 N;have l2:=aS j2 N;have l3:=dA 0 i1;have l4:=dA 0 j2;obtain⟨m2,em2⟩:∃m:Nat,(j2:Int)-1=(m:Int):=⟨j2-1,ae⟩;have cA6:j2-1=m2:=ae;rw[cA6]at EQ;have HD2:Hid ((swp d1 i1 j2).size=N):=by show _=_;rw[size_swp];exact aa YE
 go_wp2_with fail
 go_region
 go_wp2_with fail
 go_loopw[10,11](λTy s11 wr=>∃(i j:Nat)(dk:Array Int),Ty=.I i/\s11=.I j/\a+1<=i/\i<=j+2/\j<=B1/\Hid (dk.size=N)/\Hid (HU wr blk off dk)/\Hid (partLoop ltInt a i j dk=(Q1,Q2))/\Hid (w.grownBy wr (some blk))) (λTy s11 _=>(intOf s11+2-intOf Ty).toNat)
 exact⟨i1+1,m2,_,by first|rfl|go_num,by first|rfl|go_num,ae,ae,ae,HD2,vx,EQ,ay (ay SP)⟩;{
 obtain⟨i,j,dk,rfl,rfl,z1,z2,z3,Iy,MY,hQ3,hG3⟩:=hrel;obtain⟨y,ey⟩:=aI dk[a]!;have HY3:=af ey;obtain⟨I4,eI4⟩:∃I,scanUp (λx=>ltInt x dk[a]!) dk j i=I:=⟨_,rfl⟩;obtain⟨J5,eJ5⟩:∃J,scanDown (λx=>!ltInt x dk[a]!) dk I4 j=J:=⟨_,rfl⟩;have EI4:=af eI4;have EJ5:=af eJ5;have au5:=EI4;have au4:=EJ5;go_wp2_with fail;obtain⟨Y,eY⟩:=az wr;subst eY
 go_loopw[10](λs wr=>∃i4:Nat,s=.I i4/\i<=i4/\i4<=j+2/\Hid (HU wr blk off dk)/\Hid (scanUp (λx=>ltInt x dk[a]!) dk j i4=I4)/\Hid (w.grownBy wr (some blk))) (λs _=>j+1-(intOf s).toNat)
 exact⟨i,by first|rfl|go_num,ae,ae,MY,EI4,hG3⟩;{
 obtain⟨i4,rfl,qa4,qb4,Ra,hE4,hG4⟩:=hrel;obtain⟨Bc,Yh⟩:∃B,(decide (i4<=j)&&((λx=>ltInt x dk[a]!) dk[i4]!))=B:=⟨_,rfl⟩;have vX:=af Yh;go_wp2_with fail
 go_cut[112](λrv wc=>rv=.bool Bc/\wc=wr.drew)
 case first=>(
 by_cases kr:i4<=j;{
 have Cl:=iH i4 j;have hdd:=aa Iy;obtain⟨ci,-⟩:=aa Ra i4 ae;obtain⟨ca,-⟩:=aa Ra a ae;obtain⟨x,ex⟩:=aI dk[i4]!;rw[ex]at ci;rw[aa HY3]at ca;have k1:=aS i4 N;have k2:=aS a N;have k3:=dA 0 i4;obtain⟨L,eL⟩:=aI (ltInt x y);have EL:=af eL;have eB:Bc=L:=by rw[<-aa vX];simp only[BN kr,pM,ex,aa HY3,eL]
 subst eB;have K0:=af (ah ci ca);refine dC (λw'=>w'.cell? (Ad blk (off+i4))=some (.U x)/\w'.cell? (Ad blk (off+a))=some (.U y)) (by exact K0) λhS=>?_;refine nK 0 1 2 3 4 5 6 7 hS ?_;refine mU 8 9 10 11 hS ?_;refine dM 12 λKK hK=>?_;refine de aH aH aH aH (λ_=>fU) (fS) ?_;rintro r' w2⟨rfl,rfl⟩;refine⟨_,rfl,?_⟩;rw[aa EL];refine gr hK (by exact K0) λhS=>?_;refine tn 13 hS ?_;refine dw ?_;go_wp2_with fail;go_meet;exact⟨rfl,rfl⟩};{
 have Cl:¬(i4:Int)<=(j:Int):=ae;have eB:Bc=false:=by rw[<-aa vX,tX kr];rfl
 subst eB;refine dC (λw'=>True) jR λhS=>?_;refine mU 0 1 2 3 hS ?_;refine oI 4 5 6 7 hS ?_;refine oI 8 9 10 11 hS ?_;refine sn 12 hS ?_;refine tn 13 hS ?_;refine dw ?_;go_wp2_with fail;go_meet;exact⟨rfl,rfl⟩})
 obtain⟨rfl,rfl⟩:=hcut;cases Bc with
 |true=>
  have hh:i4<=j/\((λx=>ltInt x dk[a]!) dk[i4]!)=true:=by have:=aa vX;rw[fx,pL]at this;exact this
  have hn:Hid (scanUp (λx=>ltInt x dk[a]!) dk j (i4+1)=I4):=by show _=_;rw[<-Zn hh.1 hh.2];exact aa hE4
  have hle:=hh.1;go_wp2;go_roundw;exact⟨i4+1,by go_num,ae,ae,Ra.drew,hn,ay hG4⟩;exact bM
 |false=>
  have cX:i4=I4:=by rw[<-aa hE4,Li];have:=aa vX;rw[uM,xL]at this;exact this
  subst cX;go_wp2_with fail
  go_loopw[11](λs wr=>∃j5:Nat,s=.I j5/\i4<=j5+2/\j5<=j/\Hid (HU wr blk off dk)/\Hid (scanDown (λx=>!ltInt x dk[a]!) dk i4 j5=J5)/\Hid (w.grownBy wr (some blk))) (λs _=>(intOf s).toNat)
  exact⟨j,by first|rfl|go_num,ae,ae,Ra,EJ5,(ay hG4)⟩;{
 obtain⟨j5,rfl,qa5,qb5,Jw,hE5,hG5⟩:=hrel;obtain⟨Bc,Yh⟩:∃B,(decide (i4<=j5)&&((λx=>!ltInt x dk[a]!) dk[j5]!))=B:=⟨_,rfl⟩;have vX:=af Yh;go_wp2_with fail
 go_cut[129](λrv wc=>rv=.bool Bc/\wc=wr.drew)
 case first=>(
 by_cases kr:i4<=j5;{
 have Cl:=iH i4 j5;have hdd:=aa Iy;obtain⟨ci,-⟩:=aa Jw j5 ae;obtain⟨ca,-⟩:=aa Jw a ae;obtain⟨x,ex⟩:=aI dk[j5]!;rw[ex]at ci;rw[aa HY3]at ca;have k1:=aS j5 N;have k2:=aS a N;have k3:=dA 0 j5;obtain⟨L,eL⟩:=aI (ltInt x y);have EL:=af eL;have eB:Bc=(!L):=by rw[<-aa vX];simp only[BN kr,pM,ex,aa HY3,eL]
 subst eB;have K0:=af (ah ci ca);refine dC (λw'=>w'.cell? (Ad blk (off+j5))=some (.U x)/\w'.cell? (Ad blk (off+a))=some (.U y)) (by exact K0) λhS=>?_;refine nK 0 1 2 3 4 5 6 7 hS ?_;refine mU 8 9 10 11 hS ?_;refine dM 12 λKK hK=>?_;refine de aH aH aH aH (λ_=>fU) (fS) ?_;rintro r' w2⟨rfl,rfl⟩;refine⟨_,rfl,?_⟩;rw[aa EL];refine gr hK (by exact K0) λhS=>?_;refine kG 13 14 hS ?_;refine dw ?_;go_wp2_with fail;go_meet;exact⟨rfl,rfl⟩};{
 have Cl:¬(i4:Int)<=(j5:Int):=ae;have eB:Bc=false:=by rw[<-aa vX,tX kr];rfl
 subst eB;refine dC (λw'=>True) jR λhS=>?_;refine mU 0 1 2 3 hS ?_;refine oI 4 5 6 7 hS ?_;refine oI 8 9 10 11 hS ?_;refine sn 12 hS ?_;refine sn 13 hS ?_;refine tn 14 hS ?_;refine dw ?_;go_wp2_with fail;go_meet;exact⟨rfl,rfl⟩})
 obtain⟨rfl,rfl⟩:=hcut;cases Bc with
 |true=>
  have hh:i4<=j5/\((λx=>!ltInt x dk[a]!) dk[j5]!)=true:=by have:=aa vX;rw[fx,pL]at this;exact this
  have hle:=hh.1;obtain⟨m,em⟩:∃m:Nat,(j5:Int)-1=(m:Int):=⟨j5-1,ae⟩;have hn:Hid (scanDown (λx=>!ltInt x dk[a]!) dk i4 m=J5):=by show _=_;rw[<-aa hE5,Nn ae hh.1 hh.2,show j5-1=m by omega]
  go_wp2;go_roundw;exact⟨m,by first|rfl|go_num,ae,ae,Jw.drew,hn,ay hG5⟩;exact bM
 |false=>
  have cX:j5=J5:=by rw[<-aa hE5,Cu ae];have:=aa vX;rw[uM,xL]at this;exact this
  subst cX;by_cases uo:j5<i4;{
 have bc4:=aS j5 i4;have hq:=aa hQ3;rw[IY (aa au5) (aa au4) uo]at hq;simp only[fQ]at hq;obtain⟨eq1,eq2⟩:=hq;subst eq1 eq2;have hr:=aa HRB;simp only[fQ]at hr;obtain⟨Rf,Nh,er3⟩:=hr;replace Rf:=Rf.symm;replace er3:=er3.symm;subst Rf Nh er3;obtain⟨c1,f1⟩:=aa Jw j5 (aG (aa Iy));obtain⟨c2,f2⟩:=aa Jw a (aG (aa Iy));obtain⟨p1,Ib⟩:=aI dk[j5]!;obtain⟨p2,Ia⟩:=aI dk[a]!;rw[Ib]at c1;rw[Ia]at c2;obtain⟨tt,ct⟩:=jP (q:=(Ad blk (off+j5))) (u:=.U p2) c2;have vx:=af (Jw.swap (i:=j5) (j:=a) (aG (aa Iy)) (aG (aa Iy)) Ia.symm Ib.symm);have SP:=af (aX (aX hG5 (aE _ blk (off+j5) (.U p2))) (aE _ blk (off+a) (.U p1)));have l1:=aS j5 N;have l2:=aS a N;have l3:=dA 0 j5;have l4:=dA 0 a;go_wp2_with fail
 go_region
 go_wp2
 go_ret2
 exact⟨rfl,vx,ay (ay SP)⟩};{
 have bc4:=dm j5 i4;have hq:=aa hQ3;rw[Pu (aa au5) (aa au4) uo ae ae ae]at hq;have HQ5:=af hq;obtain⟨c1,f1⟩:=aa Jw i4 (aG (aa Iy));obtain⟨c2,f2⟩:=aa Jw j5 (aG (aa Iy));obtain⟨p1,Ib⟩:=aI dk[i4]!;obtain⟨p2,Ia⟩:=aI dk[j5]!;rw[Ib]at c1;rw[Ia]at c2;obtain⟨tt,ct⟩:=jP (q:=(Ad blk (off+i4))) (u:=.U p2) c2;have vx:=af (Jw.swap (i:=i4) (j:=j5) (aG (aa Iy)) (aG (aa Iy)) Ia.symm Ib.symm);have SP:=af (aX (aX hG5 (aE _ blk (off+i4) (.U p2))) (aE _ blk (off+j5) (.U p1)));have l1:=aS i4 N;have l2:=aS j5 N;have l3:=dA 0 i4;have l4:=dA 0 j5;obtain⟨m5,em5⟩:∃m:Nat,(j5:Int)-1=(m:Int):=⟨j5-1,ae⟩;have bf7:j5-1=m5:=ae;rw[bf7]at HQ5;have HD5:Hid ((swp dk i4 j5).size=N):=by show _=_;rw[size_swp];exact aa Iy
 go_wp2_with fail
 go_region
 go_wp2;go_roundw;exact⟨i4+1,m5,_,by first|rfl|go_num,by first|rfl|go_num,ae,ae,ae,HD5,vx,HQ5,ay (ay SP)⟩
 case measure=>simp[intOf];omega}}}}}}}
end Q
namespace Q
open Go.Sort
def DU{a:Nat}(h1:scanUp (λx=>!ltInt d[a]! x) d j i=i2)(h2:scanDown (λx=>ltInt d[a]! x) d i2 j=j2)(h:j2<i2):partEqLoop ltInt a i j d=(i2,d):=by
 rw[partEqLoop];simp only[h1,h2];rw[bN h]
def IZ{a:Nat}(h1:scanUp (λx=>!ltInt d[a]! x) d j i=i2)(h2:scanDown (λx=>ltInt d[a]! x) d i2 j=j2)(h:¬j2<i2)(hi:i<=i2)(hj:j2<=j)(hi0:0<i2):partEqLoop ltInt a i j d=partEqLoop ltInt a (i2+1) (j2-1) (swp d i2 j2):=by
 rw[partEqLoop];simp only[h1,h2];rw[bG h,Qm ae]
theorem TG{blk off cap N a b piv:Nat}(hN:Hid (d.size=N)){w:World}(h:HU w blk off d)(Y6:a<=piv)(hpb:piv<b)(hb:b<=N)(jI:N<=1048576):Calls prog 244 #[.S (some (Ad blk off)) N cap,.I a,.I b,.I piv] w λe w'=>e=.returned (.I (partitionEqual ltInt d a b piv).1)/\HU w' blk off (partitionEqual ltInt d a b piv).2/\w.grownBy w' (some blk):=by
 obtain⟨⟨Q1,Q2⟩,eR⟩:∃R,partitionEqual ltInt d a b piv=R:=⟨_,rfl⟩;rw[eR];have wD:=aa hN;obtain⟨B1,eB1⟩:∃x:Nat,(b:Int)-1=(x:Int):=⟨b-1,ae⟩;have eB0:b-1=B1:=ae;have wB:=fk B1;obtain⟨ca,fa⟩:=h a ae;obtain⟨cp,fp⟩:=h piv ae;obtain⟨u,eu⟩:=aI d[a]!;obtain⟨v,ev⟩:=aI d[piv]!;have HSW:=af (h.swap (i:=a) (j:=piv) ae ae ev.symm eu.symm);rw[eu]at ca;rw[ev]at cp;obtain⟨tt,ct⟩:=jP (q:=(Ad blk (off+a))) (u:=.U v) cp;obtain⟨d1,ed1⟩:=aI (swp d a piv);rw[ed1]at HSW;have YE:Hid (d1.size=N):=by show _=_;rw[<-ed1,size_swp];exact wD
 have HG:=af (aX (aE w blk (off+a) (.U v)) (aE _ blk (off+piv) (.U u)));have EQ:Hid (partEqLoop ltInt a (a+1) B1 d1=(Q1,Q2)):=by show _=_;rw[<-eR,partitionEqual,ed1,eB0]
 have kk1:=aS a N;have kk2:=aS piv N
 go_in
 go_wp2_with fail
 go_region
 go_wp2_with fail
 go_loopw[9,10](λs9 Ty wr=>∃(i j:Nat)(dk:Array Int),s9=.I i/\Ty=.I j/\a+1<=i/\i<=j+2/\j<=B1/\Hid (dk.size=N)/\Hid (HU wr blk off dk)/\Hid (partEqLoop ltInt a i j dk=(Q1,Q2))/\Hid (w.grownBy wr (some blk))) (λs9 Ty _=>(intOf Ty+2-intOf s9).toNat)
 exact⟨a+1,B1,_,by first|rfl|go_num,by first|rfl|go_num,ae,ae,ae,YE,HSW,EQ,ay HG⟩;{
 obtain⟨i,j,dk,rfl,rfl,z1,z2,z3,Iy,MY,hQ3,hG3⟩:=hrel;obtain⟨y,ey⟩:=aI dk[a]!;have HY3:=af ey;obtain⟨I4,eI4⟩:∃I,scanUp (λx=>!ltInt dk[a]! x) dk j i=I:=⟨_,rfl⟩;obtain⟨J5,eJ5⟩:∃J,scanDown (λx=>ltInt dk[a]! x) dk I4 j=J:=⟨_,rfl⟩;have EI4:=af eI4;have EJ5:=af eJ5;have au5:=EI4;have au4:=EJ5;go_wp2_with fail;obtain⟨Y,eY⟩:=az wr;subst eY
 go_loopw[9](λs wr=>∃i4:Nat,s=.I i4/\i<=i4/\i4<=j+2/\Hid (HU wr blk off dk)/\Hid (scanUp (λx=>!ltInt dk[a]! x) dk j i4=I4)/\Hid (w.grownBy wr (some blk))) (λs _=>j+1-(intOf s).toNat)
 exact⟨i,by first|rfl|go_num,ae,ae,MY,EI4,hG3⟩;{
 obtain⟨i4,rfl,qa4,qb4,Ra,hE4,hG4⟩:=hrel;obtain⟨Bc,Yh⟩:∃B,(decide (i4<=j)&&((λx=>!ltInt dk[a]! x) dk[i4]!))=B:=⟨_,rfl⟩;have vX:=af Yh;go_wp2_with fail
 go_cut[43](λrv wc=>rv=.bool Bc/\wc=wr.drew)
 case first=>(
 by_cases kr:i4<=j;{
 have Cl:=iH i4 j;have hdd:=aa Iy;obtain⟨ci,-⟩:=aa Ra i4 ae;obtain⟨ca,-⟩:=aa Ra a ae;obtain⟨x,ex⟩:=aI dk[i4]!;rw[ex]at ci;rw[aa HY3]at ca;have k1:=aS i4 N;have k2:=aS a N;have k3:=dA 0 i4;obtain⟨L,eL⟩:=aI (ltInt y x);have EL:=af eL;have eB:Bc=(!L):=by rw[<-aa vX];simp only[BN kr,pM,ex,aa HY3,eL]
 subst eB;have K0:=af (ah ci ca);refine dC (λw'=>w'.cell? (Ad blk (off+i4))=some (.U x)/\w'.cell? (Ad blk (off+a))=some (.U y)) (by exact K0) λhS=>?_;refine nK 0 1 2 3 4 5 6 7 hS ?_;refine mU 8 9 10 11 hS ?_;refine dM 12 λKK hK=>?_;refine de aH aH aH aH (λ_=>fU) (fS) ?_;rintro r' w2⟨rfl,rfl⟩;refine⟨_,rfl,?_⟩;rw[aa EL];refine gr hK (by exact K0) λhS=>?_;refine kG 13 14 hS ?_;refine dw ?_;go_wp2_with fail;go_meet;exact⟨rfl,rfl⟩};{
 have Cl:¬(i4:Int)<=(j:Int):=ae;have eB:Bc=false:=by rw[<-aa vX,tX kr];rfl
 subst eB;refine dC (λw'=>True) jR λhS=>?_;refine mU 0 1 2 3 hS ?_;refine oI 4 5 6 7 hS ?_;refine oI 8 9 10 11 hS ?_;refine sn 12 hS ?_;refine sn 13 hS ?_;refine tn 14 hS ?_;refine dw ?_;go_wp2_with fail;go_meet;exact⟨rfl,rfl⟩})
 obtain⟨rfl,rfl⟩:=hcut;cases Bc with
 |true=>
  have hh:i4<=j/\((λx=>!ltInt dk[a]! x) dk[i4]!)=true:=by have:=aa vX;rw[fx,pL]at this;exact this
  have hn:Hid (scanUp (λx=>!ltInt dk[a]! x) dk j (i4+1)=I4):=by show _=_;rw[<-Zn hh.1 hh.2];exact aa hE4
  have hle:=hh.1;go_wp2;go_roundw;exact⟨i4+1,by go_num,ae,ae,Ra.drew,hn,ay hG4⟩;exact bM
 |false=>
  have cX:i4=I4:=by rw[<-aa hE4,Li];have:=aa vX;rw[uM,xL]at this;exact this
  subst cX;go_wp2_with fail
  go_loopw[10](λs wr=>∃j5:Nat,s=.I j5/\i4<=j5+2/\j5<=j/\Hid (HU wr blk off dk)/\Hid (scanDown (λx=>ltInt dk[a]! x) dk i4 j5=J5)/\Hid (w.grownBy wr (some blk))) (λs _=>(intOf s).toNat)
  exact⟨j,by first|rfl|go_num,ae,ae,Ra,EJ5,(ay hG4)⟩;{
 obtain⟨j5,rfl,qa5,qb5,Jw,hE5,hG5⟩:=hrel;obtain⟨Bc,Yh⟩:∃B,(decide (i4<=j5)&&((λx=>ltInt dk[a]! x) dk[j5]!))=B:=⟨_,rfl⟩;have vX:=af Yh;go_wp2_with fail
 go_cut[59](λrv wc=>rv=.bool Bc/\wc=wr.drew)
 case first=>(
 by_cases kr:i4<=j5;{
 have Cl:=iH i4 j5;have hdd:=aa Iy;obtain⟨ci,-⟩:=aa Jw j5 ae;obtain⟨ca,-⟩:=aa Jw a ae;obtain⟨x,ex⟩:=aI dk[j5]!;rw[ex]at ci;rw[aa HY3]at ca;have k1:=aS j5 N;have k2:=aS a N;have k3:=dA 0 j5;obtain⟨L,eL⟩:=aI (ltInt y x);have EL:=af eL;have eB:Bc=L:=by rw[<-aa vX];simp only[BN kr,pM,ex,aa HY3,eL]
 subst eB;have K0:=af (ah ci ca);refine dC (λw'=>w'.cell? (Ad blk (off+j5))=some (.U x)/\w'.cell? (Ad blk (off+a))=some (.U y)) (by exact K0) λhS=>?_;refine nK 0 1 2 3 4 5 6 7 hS ?_;refine mU 8 9 10 11 hS ?_;refine dM 12 λKK hK=>?_;refine de aH aH aH aH (λ_=>fU) (fS) ?_;rintro r' w2⟨rfl,rfl⟩;refine⟨_,rfl,?_⟩;rw[aa EL];refine gr hK (by exact K0) λhS=>?_;refine tn 13 hS ?_;refine dw ?_;go_wp2_with fail;go_meet;exact⟨rfl,rfl⟩};{
 have Cl:¬(i4:Int)<=(j5:Int):=ae;have eB:Bc=false:=by rw[<-aa vX,tX kr];rfl
 subst eB;refine dC (λw'=>True) jR λhS=>?_;refine mU 0 1 2 3 hS ?_;refine oI 4 5 6 7 hS ?_;refine oI 8 9 10 11 hS ?_;refine sn 12 hS ?_;refine tn 13 hS ?_;refine dw ?_;go_wp2_with fail;go_meet;exact⟨rfl,rfl⟩})
 obtain⟨rfl,rfl⟩:=hcut;cases Bc with
 |true=>
  have hh:i4<=j5/\((λx=>ltInt dk[a]! x) dk[j5]!)=true:=by have:=aa vX;rw[fx,pL]at this;exact this
  have hle:=hh.1;obtain⟨m,em⟩:∃m:Nat,(j5:Int)-1=(m:Int):=⟨j5-1,ae⟩;have hn:Hid (scanDown (λx=>ltInt dk[a]! x) dk i4 m=J5):=by show _=_;rw[<-aa hE5,Nn ae hh.1 hh.2,show j5-1=m by omega]
  go_wp2;go_roundw;exact⟨m,by first|rfl|go_num,ae,ae,Jw.drew,hn,ay hG5⟩;exact bM
 |false=>
  have cX:j5=J5:=by rw[<-aa hE5,Cu ae];have:=aa vX;rw[uM,xL]at this;exact this
  subst cX;by_cases uo:j5<i4;{have bc4:=aS j5 i4;have hq:=aa hQ3;rw[DU (aa au5) (aa au4) uo]at hq;simp only[fQ]at hq;obtain⟨eq1,eq2⟩:=hq;subst eq1 eq2;go_wp2;go_ret;exact⟨rfl,Jw,ay hG5⟩};{
 have bc4:=dm j5 i4;have hq:=aa hQ3;rw[IZ (aa au5) (aa au4) uo ae ae ae]at hq;have HQ5:=af hq;obtain⟨c1,f1⟩:=aa Jw i4 (aG (aa Iy));obtain⟨c2,f2⟩:=aa Jw j5 (aG (aa Iy));obtain⟨p1,Ib⟩:=aI dk[i4]!;obtain⟨p2,Ia⟩:=aI dk[j5]!;rw[Ib]at c1;rw[Ia]at c2;obtain⟨tt,ct⟩:=jP (q:=(Ad blk (off+i4))) (u:=.U p2) c2;have vx:=af (Jw.swap (i:=i4) (j:=j5) (aG (aa Iy)) (aG (aa Iy)) Ia.symm Ib.symm);have SP:=af (aX (aX hG5 (aE _ blk (off+i4) (.U p2))) (aE _ blk (off+j5) (.U p1)));have l1:=aS i4 N;have l2:=aS j5 N;have l3:=dA 0 i4;have l4:=dA 0 j5;obtain⟨m5,em5⟩:∃m:Nat,(j5:Int)-1=(m:Int):=⟨j5-1,ae⟩;have bf7:j5-1=m5:=ae;rw[bf7]at HQ5;have HD5:Hid ((swp dk i4 j5).size=N):=by show _=_;rw[size_swp];exact aa Iy
 go_wp2_with fail
 go_region
 go_wp2;go_roundw;exact⟨i4+1,m5,_,by first|rfl|go_num,by first|rfl|go_num,ae,ae,ae,HD5,vx,HQ5,ay (ay SP)⟩
 case measure=>simp[intOf];omega}}}}
end Q
namespace T
open Go.Sort
abbrev HT(w:World)(blk off:Nat)(d:Array (List UInt8)):Prop:=Holds (λx:List UInt8=>Value.string ⟨x.toArray⟩) w blk off d
def FE(cap:Nat)(w:World):Cp 207 #[.S none 0 cap] w λe w'=>e=.returned (.tuple #[])/\w'=w:=Tryz.slices_Sort_string_none none cap w
def Bx(blk off cap:Nat)(l:List (List UInt8))(jI:Mg l.length)(w:World)(h:HT w blk off l.toArray)(jB:blk<w.heap.size):Cp 207 #[.S (some (Ad blk off)) l.length cap] w λe w'=>
   e=.returned (.tuple #[])/\HT w' blk off (l.mergeSort (λx y=>decide (x<=y))).toArray/\w.grownBy w' (some blk):=by
 refine(Tryz.slices_Sort_string blk off cap l w h jB ae).mono ?_;rintro e w'⟨rfl,n,os,rfl⟩;have hz:(putRow encStr (Sort.ahead w n) blk off (l.mergeSort λx y=>decide (x<=y)).toArray).heap.size=w.heap.size:=by simp[putRow,mapBlock,Sort.ahead]
 have hb:∀i,i<w.heap.size->(grow (putRow encStr (Sort.ahead w n) blk off (l.mergeSort λx y=>decide (x<=y)).toArray) os).heap[i]?=(putRow encStr (Sort.ahead w n) blk off (l.mergeSort λx y=>decide (x<=y)).toArray).heap[i]?:=λi hi=>Array.getElem?_append_left (hz▸hi);have hH:=holds_putRow encStr (Sort.ahead w n) blk off l.toArray (l.mergeSort λx y=>decide (x<=y)).toArray h ai;refine⟨rfl,λj hj=>⟨(tJ (a:=(Ad blk (off+j))) (hb blk jB)).trans (hH j hj).1,(sj (a:=(Ad blk (off+j))) (hb blk jB)).trans (hH j hj).2⟩,rfl,rfl,rfl,by simp[grow,hz],λi hi cg=>(hb i hi).trans ?_⟩;have:blk≠i:=λe=>cg (by rw[e]);simp[putRow,mapBlock,Sort.ahead,xM,this]
theorem oy:∀x y:List UInt8,Op.bytesLess x y=decide (x<y)
 |[],[]=>by simp[Op.bytesLess]
 |[],b::y=>by simp[Op.bytesLess]
 |a::x,[]=>by simp[Op.bytesLess]
 |a::x,b::y=>by have ih:=oy x y;simp only[Op.bytesLess,ih,List.cons_lt_cons_iff];by_cases h1:a<b;{simp[h1]};{by_cases h2:a=b;{subst h2;simp};{simp[h1,h2]}}
end T
namespace T
open Go.Maps
def iO:Keyed prog 9:=string_keyed underlying9
abbrev fy(x:List UInt8):Value:=.string ⟨x.toArray⟩
def rI{H:Type}(D0:DataW H)(left:Lit->Bool)(ss:List (List UInt8)):Prop:=ss.Nodup/\∀x,x∈ss↔(has D0 (.string x)=true/\left (.string x)=false)
def rI.start{H:Type}(D0:DataW H):rI D0 (has D0) []:=⟨VY,λx=>by cases has D0 (.string x)<;>simp⟩
def rI.step{H:Type}{D0:DataW H}(h:rI D0 left ss){x:List UInt8}{y:DataW H}(hlk:left (.string x)=true)(fT:∀zd,D0.atKey (.string x) zd=y):rI D0 (λz=>left z&&!z.sameKey (.string x)) (ss++[x]):=by
 have Un:has D0 (.string x)=true:=has_true_of_atKey fT;have ya:x∉ss:=λhx=>by have:=((h.2 x).1 hx).2;rw[hlk]at this;cases this
 refine⟨BS.2 ⟨h.1,ai,λa ha b hb=>by simp at hb;subst hb;exactλe=>ya (e▸ha)⟩,λy=>?_⟩;by_cases hy:y=x;{subst hy;simp[Un,Lit.sameKey]};{simp[h.2 y,hy,Lit.sameKey]}
def lu{H:Type}(D0:DataW H)(ss:List (List UInt8)):Prop:=ss.Nodup/\(∀x,x∈ss↔has D0 (.string x)=true)/\ss.length<=Maps.size D0
def rI.all{H:Type}{D0:DataW H}(h:rI D0 left ss)(hl:∀kl,left kl=false)(hs:ss.length<=Maps.size D0):lu D0 ss:=⟨h.1,(λx=>by rw[h.2 x,hl];simp),hs⟩
theorem Mz{H:Type}(n:Nat)(hn:1<=n)(l Bm b nn:Nat)(D0:DataW H){R:Value->Option (DataW H×List MemPlace)}(J Jx:List (List UInt8)->World->Prop)(hY:∀pre x W,J pre W->pre.length<Maps.size D0->YieldAt Fence.wide (n-1) prog l #[fy x] W λe W'=>(e=.returned (.bool true)/\J (pre++[x]) W'/\KeepsWalks W W')\/(e=.returned (.bool false)/\Jx (pre++[x]) W'))(W:World)(hJ:AbidesFrom W.heap.size J)(hm:W.cell? (Ad Bm 0)=some (.map (some b)))(bO:W.ownsMap prog 9 R b nn D0)(h0:J [] W):CallsIn Fence.wide n prog 208 #[.func (.yield l) #[] #[],.pointer (some (Ad Bm 0))] W λe W'=>(∃v,e=.returned v)/\((∃ss:List (List UInt8),lu D0 ss/\J ss W')\/(∃pre,Jx pre W')):=by
 refine mG func208 rfl jR ?_ rfl;simp only[ntmps208,rB,Nat.reduceAdd,Nat.reduceSub]
 gi_wp2_with(first
  |(gi_at_range;refine wpListIn_range_own _ rfl _ 133 rfl 9 _ iO underlying133 _ b nn _ rfl bO ?_;intro w0 mP Ed Kz)
  |gi_in)
 go_frame
 gi_loopw [3] (λ_ wr=>∃(left:Lit->Bool)(jD:Nat)(ss:List (List UInt8)),wr.ranges prog 9 R b W.heap.size nn D0 left jD/\ss.length+jD<=Maps.size D0/\rI D0 left ss/\J ss wr)
  (λ_ wr=>wr.rangeLeft b W.heap.size)
 case atStart=>exact⟨_,_,[],mP,ai,rI.start D0,hJ [] W w0 none h0 Ed (λr e=>by cases e)⟩
 case round=>(
 obtain⟨left,jD,ss,jN,hcs,hC,hJs⟩:=hrel
 gi_wp2_with(first
  |(gi_at_next;refine wpListIn_next_ranges _ rfl _ rfl 9 iO R fy id (λkey kl hk=>by obtain⟨x,hx,_⟩:=Maps.keyOf_str underlying9 hk;exact⟨x,hx⟩) (λv _ _=>⟨v,rfl⟩) b W.heap.size nn _ _ _ rfl jN ?_ ?_)
  |gi_in)
 {
 intro wF yb
 gi_wp2
 go_end0
 exact⟨⟨_,rfl⟩,.inl ⟨ss,hC.all yb ae,hJs⟩⟩};{
 intro x c kl yd yp w2 ar6 cQ hlk hv fT Hh aT gi Hf Ef;obtain⟨x',ex,rfl,_⟩:=Maps.keyOf_str underlying9 cQ;obtain rfl:x=x':=by simpa[fy]using ex
 have hJ2:J ss w2:=hJ ss wr w2 (some W.heap.size) hJs gi (λr e=>by cases e;exact⟨iP _,jN.iter_walk⟩);obtain⟨fn,tmps,assign,body,hy,hR⟩:=hY ss x w2 hJ2 ae;clear Hf
 gi_wp2
 refine hR.mono ?_;rintro e W3(⟨rfl,SC,rM⟩|⟨rfl,Cm⟩);{
 gi_wp2
 have ua:=Hh.of_walks rM;go_roundw;exact⟨_,ar6,ss++[x],ua,aU,hC.step hlk fT,SC⟩
 case measure=>rw[ua.left_eq,jN.left_eq];exact aT}
 {
 gi_wp2
 refine dD (sS rfl _ _ _) rfl ?_;exact⟨⟨_,rfl⟩,.inr ⟨_,Cm⟩⟩}})
def Ua(n:Nat)(mb:Option Nat)(w:World):CallsIn Fence.wide n prog 150 #[.map mb] w λe w'=>e=.returned (.func (.func 208) #[] #[.pointer (some (Ad w.heap.size 0))])/\w'=w.alloc (.cells #[.map mb] 133):=by
 refine mG func150 rfl jR ?_ rfl;simp only[ntmps150,rB,Nat.reduceAdd,Nat.reduceSub]
 gi_wp2
 go_ret;exact⟨rfl,rfl⟩
def Lo{H:Type}(n:Nat)(hn:1<=n)(Bm b nn:Nat)(D0:DataW H){R:Value->Option (DataW H×List MemPlace)}(w:World)(hBm:Bm<w.heap.size)(hm:w.cell? (Ad Bm 0)=some (.map (some b)))(bO:w.ownsMap prog 9 R b nn D0):SeqStopsK Fence.wide n prog 208 #[.pointer (some (Ad Bm 0))] (λx:List UInt8=>#[fy x]) KeepsWalks (lu D0) (λ_=>True) (Maps.size D0) w:=λl J Jx W hW hJ _ hY h0=>by
 have sy:W.ownsMap prog 9 R b nn D0:=by have Ej:=bO.lt;obtain⟨es,clock,hb,Ft,hs,hD⟩:=bO;exact⟨es,clock,(hW.block b Ej).trans hb,Ft,hs,hD⟩
 refine(Mz n hn l Bm b nn D0 J Jx hY W hJ ((hW.cell (p:=(Ad Bm 0)) hBm).trans hm) sy h0).mono ?_;rintro e W'⟨he,⟨ss,hs,hj⟩|⟨pre,hj⟩⟩;{exact⟨he,.inl ⟨ss,hs,hj⟩⟩};{exact⟨he,.inr ⟨pre,jR,hj⟩⟩}
end T
namespace T
open Go.Maps
def Hid.xW{p:Prop}(h:p):Hid p:=h
def uw{p:Prop}(h:Hid p):p:=h
def lg(W:World)(l:Nat)(o:Obj):W.grownBy (W.putObj l o) (some l):=⟨rfl,rfl,rfl,by simp,λk _ hk=>World.putObj_heap_other (λe=>hk (by rw[e]))⟩
def vf(W:World)(b:Nat)(v:Value):W.grownBy (W.setCell (Ad b 0) v) (some b):=⟨rfl,rfl,rfl,by simp,λk _ hk=>Kd _ _ _ k (λe=>hk (by rw[e]))⟩
def rW{size:Nat}(h:W.ownsRow base e size v k xs){o:Obj}(hj:W.heap[j]?=some o)(ho:o.isCells=false):v.ownBlock=none\/v.ownBlock≠some j:=by
  rcases h.2 with⟨rfl,_⟩|⟨g,cap,cur,rfl,_,hgb,_⟩;{exact .inl rfl};{
 refine .inr λe'=>?_;have:g=j:=by simpa[Value.ownBlock]using e'
 subst this;rw[hgb]at hj;cases hj;cases ho}
theorem zl{row:Option Nat}{size:Nat}(h:W.ownsRow base e size v k xs)(hg:W.grownBy W' row)(hr:∀r,row=some r->∃o:Obj,W.heap[r]?=some o/\o.isCells=false):W'.ownsRow base e size v k xs:=by
  refine h.kept hg ?_;cases hv:v.ownBlock with
  |none=>exact .inl rfl
  | some j=>
    refine .inr λe'=>?_;obtain⟨o,ho,hc⟩:=hr j e'.symm;rcases rW h ho hc with e1|e1;{rw[hv]at e1;cases e1};{exact e1 hv}
def xH{size:Nat}(h:W.ownsRow base e size v k xs)(hg:W.grownBy W' v.ownBlock):KeepsOthers W W':=
  ⟨hg.size,λj o hj ho=>(hg.block j (Gq.1 hj).1 (λe1=>by rcases rW h hj ho with e2|e2;{rw[e2]at e1;cases e1};{exact e2 e1.symm})).trans hj⟩
structure Got(w0:World)(Bs:Nat)(pre:List (List UInt8))(v:Value)(W:World):Prop where
  cell:W.cell? (Ad Bs 0)=some v
  fr:W.frozen? (Ad Bs 0)=false
  row:W.ownsRow (Bs+1) 9 1 v pre.length (pre.map fy)
  nil:v=.S none 0 0↔pre=[]
theorem tB(n:Nat)(hn:2<=n)(g:Nat)(lb:Array Value)(eg:∀args w,(callFunc g args).run prog w=.ok (.enter g args) w)(S Sp:List (List UInt8)->Prop)(N:Nat)(hN:N<=1048576)(w:World)(uW:SeqStopsK Fence.wide (n-1) prog g lb (λx:List UInt8=>#[fy x]) KeepsWalks S Sp N w):CallsIn Fence.wide n prog 229 #[.S none 0 0,.func (.func g) #[] lb] w λe w'=>∃(v:Value)(ss:List (List UInt8)),e=.returned v/\S ss/\w'.ownsRow (w.heap.size+1) 9 1 v ss.length (ss.map fy)/\(v=.S none 0 0↔ss=[])/\Bw w w':=by
  have h1:1<=n:=ae;obtain⟨i0,hi,qc,iU,jU⟩:=gh (P:=prog) (e:=9) (z:=.string ⟨#[]⟩) (size:=1) (bytes:=16) bg;refine callsIn_of_wp_marks func229 rfl jR ?_ rfl;simp only[ntmps229,rB,Nat.reduceAdd,Nat.reduceSub]
  gi_wp2
  obtain⟨W0,dP⟩:=az (w.alloc (.cells #[.S none 0 0] 146));have z0:W0.heap.size=w.heap.size+1:=by rw[dP];simp
  have k0:W0.cell? (Ad w.heap.size 0)=some (.S none 0 0):=by rw[dP];simp
  have f0:W0.frozen? (Ad w.heap.size 0)=false:=by rw[dP];simp
  have XS:=ew dP;rw[<-dP];clear dP;refine wpIn_rangeFunc_ownF (F:=Fence.wide) rfl h1 (gf:=g) (lb:=lb) rfl jR eg uW (λh k=>h.trans k) (λW l o o' _ hl _ hw=>KeepsWalks.putObj _ hl hw) XS (λ_=>rfl)
    (λpre W=>(∃v,Got w w.heap.size pre v W)/\Bw w W)
    (λ_ _ _=>False)
    (OwnFrom.and (Own.from (λs A B row hs hg hr=>by obtain⟨v,hv⟩:=hs;exact⟨v,cell_kept hv.cell hg hr,(frozen_kept hv.cell hg hr).trans hv.fr,zl hv.row hg hr,hv.nil⟩) _) (ownFrom_below ao ae))
    (λ_ _ _ _ _ hs _ _=>hs)
    ⟨⟨_,k0,f0,⟨rfl,.inl ⟨rfl,rfl⟩⟩,ai⟩,XS⟩
    (λx=>{tmps:=#[.S none 0 0,.func (.func g) #[] lb,.pointer (some (Ad w.heap.size 0)),undef,.S none 0 0,fy x,.func (.func g) #[] lb,fy x,undef,undef,undef,undef,undef],defers:=[]}) ?assign ?body ?done ?stop
  case assign=>(
 intro l x W K hK
 gi_wp2_with(rw[Qa _ _ _ (λc h=>by cases h)];go_simp;try go_bits)
 exact hK)
  case body=>(
 rintro L pre x W⟨⟨v,hv⟩,ox⟩rK;have hc:=hv.cell;have hf:=hv.fr;have du:=hv.row;have aT:w.heap.size<W.heap.size:=nY W _ hc;have QS:=du.alloc (.cells #[fy x] 9)
 gi_wp2_with(first
   | (gi_at_builtin;refine wpListIn_append_own _ rfl _ _ 146 rfl (w.heap.size+1) 9 i0 (.string ⟨#[]⟩) 1 16 underlying146 hi qc iU jU rfl aZ _ _ _ rfl QS ⟨W.heap.size,0,none⟩ 1 1 [fy x] rfl rfl (cell_one_new _ _ _) (by simp[Value.oneCell',fy]) iF ae aU ?_;intro v' w3 sy wC aj9
      have MJ:(W.alloc (.cells #[fy x] 9)).grownBy w3 v.ownBlock:=wC;have aZ9:some w.heap.size≠v.ownBlock:=λe=>aG (du.lt _ e.symm).1;have XM:(W.alloc (.cells #[fy x] 9)).cell? (Ad w.heap.size 0)=some v:=(tJ (a:=(Ad w.heap.size 0)) (Mp _ _ _ aT)).trans hc;have hfA:(W.alloc (.cells #[fy x] 9)).frozen? (Ad w.heap.size 0)=false:=(sj (a:=(Ad w.heap.size 0)) (Mp _ _ _ aT)).trans hf;have aL:w3.heap[w.heap.size]?=(W.alloc (.cells #[fy x] 9)).heap[w.heap.size]?:=MJ.block _ aU aZ9;have Ho:w3.cell? (Ad w.heap.size 0)=some v:=(tJ (a:=(Ad w.heap.size 0)) aL).trans XM;have Ee:w3.frozen? (Ad w.heap.size 0)=false:=(sj (a:=(Ad w.heap.size 0)) aL).trans hfA;obtain⟨g',yC,rfl⟩:∃g' yC,v'=.T g' (pre.length+1) yC:=by rcases sy.2 with⟨_,h0⟩|⟨g',yC,_,h',_⟩;{exact absurd h0 ae};{exact⟨g',yC,h'⟩}
      have HO3:=Hid.xW ((KeepsOthers.alloc W (.cells #[fy x] 9)).trans (xH QS MJ));have vD:=Hid.xW (((ox.alloc ox.size (.cells #[fy x] 9)).grown MJ (by have:=ox.size;simp;omega) (λk e=>aG (du.lt k e).1)));have A9:=Hid.xW sy;clear sy aj9 wC MJ XM hfA aL
      go_frame)
   |(rw[Qa _ _ _ (λc h=>by cases h)];go_simp;try go_bits))
 refine⟨(uw HO3).trans (KeepsOthers.setCell _ _ _),((uw HO3).trans (KeepsOthers.setCell _ _ _)).walks,⟨_,Db _ _ _ Ho,by rw[BM];exact Ee,?_,ai⟩,(uw vD).setCell (p:=(Ad w.heap.size 0)) ao _⟩;have hr:=(uw A9).kept (vf w3 w.heap.size (.T g' (pre.length+1) yC)) (.inr (λe=>aG ((uw A9).lt _ e).1));simpa using hr)
  case done=>(
 rintro D ys W hD hS⟨⟨v,hv⟩,ox⟩hK;have hc:=hv.cell
 gi_wp2
 refine⟨ai,.inl ⟨_,_,rfl,run_takeDeferred hK,?_⟩⟩;exact⟨_,results_tmp rfl _ _ _,v,ys,rfl,hS,zl hv.row (lg _ _ _) (λr e=>by cases e;exact⟨_,hK,rfl⟩),hv.nil,ox.grown (lg _ _ _) ox.size (λk e=>by cases e;omega)⟩)
  case stop=>(
 rintro D c pre W _ _ h _;exact h.elim)
end T
namespace T
open Go.Maps Go.Sort
def yA(n:Nat)(hn:3<=n)(g:Nat)(lb:Array Value)(eg:∀args w,(callFunc g args).run prog w=.ok (.enter g args) w)(S Sp:List (List UInt8)->Prop)(N:Nat)(hN:N<=1048576)(w:World)(uW:SeqStopsK Fence.wide (n-1-1) prog g lb (λx:List UInt8=>#[fy x]) KeepsWalks S Sp N w):CallsIn Fence.wide n prog 206 #[.func (.func g) #[] lb] w λe w'=>∃(v:Value)(ss:List (List UInt8)),e=.returned v/\S ss/\w'.ownsRow (w.heap.size+1) 9 1 v ss.length (ss.map fy)/\(v=.S none 0 0↔ss=[])/\Bw w w':=by
 have h1:1<=n:=ae;have hfS:Fence.wide.fn 229:=jR;refine mG func206 rfl jR ?_ rfl;simp only[ntmps206,rB,Nat.reduceAdd,Nat.reduceSub]
 gi_wp2_with(gi_at_call 229;refine(tB (n-1) ae g lb eg S Sp N hN _ uW).mono ?_;rintro e w'⟨v,ss,rfl,hS,du,Jo,hb⟩)
 go_ret;exact⟨v,ss,rfl,hS,du,Jo,hb⟩
def Ug{w:World}{g:Nat}{cur:Array Value}(hb:w.heap[g]?=some (.cells cur e (0,0)))(ht:cur.toList.take ss.length=ss.map fy):HT w g 0 ss.toArray:=by
 intro j hj;have hj':j<ss.length:=by simpa using hj
 refine⟨?_,by simp[World.frozen?,hb]⟩;have h1:(cur.toList.take ss.length)[j]?=(ss.map fy)[j]?:=by rw[ht]
 rw[aP2 hj']at h1;simp only[World.cell?,hb,kS];simp only[ae3,I9,Ag];rw[<-V9,h1];simp[hj',fy]
def RdK(B:Nat)(w:World)(v:Value)(ss:List (List UInt8)):Prop:=(v=.S none 0 0/\ss=[])\/∃g cap,v=.T g ss.length cap/\B<=g/\g<w.heap.size/\HT w g 0 ss.toArray
structure Asc{H:Type}(D0:DataW H)(ss:List (List UInt8)):Prop where
 lt:ss.Pairwise (·<·)
 mem:∀x,x∈ss↔has D0 (.string x)=true
 size:ss.length<=Maps.size D0
def NG{H:Type}{D0:DataW H}(h:lu D0 ss):Asc D0 (ss.mergeSort (λx y=>decide (x<=y))):=by
 have hp:=List.mergeSort_perm ss (λx y=>decide (x<=y));refine⟨?_,λx=>(hp.mem_iff).trans (h.2.1 x),by rw[hp.length_eq];exact h.2.2⟩;have h1:=aP1 (le:=λx y:List UInt8=>decide (x<=y)) (λa b c h1 h2=>by simp only[jw]at*;exact List.le_trans h1 h2) (λa b=>by simp only[Kj,jw];exact List.le_total a b) ss;have h2:(ss.mergeSort (λx y=>decide (x<=y))).Pairwise (·≠·):=hp.nodup_iff.2 h.1;refine(h1.and h2).imp (λ{a b}⟨x,y⟩=>?_);simp only[jw]at x;exact aP0 λhh=>y (List.le_antisymm x hh)
def vJ(n:Nat)(hn:4<=n)(g:Nat)(lb:Array Value)(eg:∀args w,(callFunc g args).run prog w=.ok (.enter g args) w)(S Sp:List (List UInt8)->Prop)(N:Nat)(hN:N<=1048576)(hS:∀ss,S ss->Mg ss.length)(w:World)(uW:SeqStopsK Fence.wide (n-1-1-1) prog g lb (λx:List UInt8=>#[fy x]) KeepsWalks S Sp N w):CallsIn Fence.wide n prog 149 #[.func (.func g) #[] lb] w λe w'=>∃(v:Value)(ss:List (List UInt8)),e=.returned v/\S ss/\RdK w.heap.size w' v (ss.mergeSort (λx y=>decide (x<=y)))/\Bw w w':=by
 have h1:1<=n:=ae;have hfC:Fence.wide.fn 206:=jR;have hfS:Fence.wide.fn 207:=jR;refine mG func149 rfl jR ?_ rfl;simp only[ntmps149,rB,Nat.reduceAdd,Nat.reduceSub]
 gi_wp2_with(gi_at_call 206;refine(yA (n-1) ae g lb eg S Sp N hN _ uW).mono ?_;rintro e w'⟨v,ss,rfl,hSs,du,Jo,hb⟩)
 rcases du.2 with⟨rfl,_⟩|⟨gb,cap,cur,rfl,Aw,hgb,Hi,lK,IJ,XE⟩;{
 have e0:ss=[]:=Jo.1 rfl;subst e0
 gi_wp2_with(gi_at_call 207;refine(qG.2 (FE 0 _)).mono ?_;rintro e w2⟨rfl,rfl⟩)
 go_ret;exact⟨_,[],rfl,hSs,.inl ⟨rfl,ai⟩,hb⟩};{
 have aT:gb<w'.heap.size:=(Gq.1 hgb).1;have hH:=Ug hgb (by simpa using XE)
 gi_wp2_with(gi_at_call 207;refine(qG.2 (Bx gb 0 cap ss (hS ss hSs) _ hH aT)).mono ?_;rintro e w2⟨rfl,AZ,gi⟩)
 go_ret;refine⟨_,ss,rfl,hSs,.inr ⟨gb,cap,by rw[List.length_mergeSort];rfl,ae,gQ aT gi.size,AZ⟩,?_⟩;exact hb.grown gi hb.size (λk e=>by cases e;omega)}
theorem kH{H:Type}(b nn:Nat)(D0:DataW H){R:Value->Option (DataW H×List MemPlace)}(w:World)(bO:w.ownsMap prog 9 R b nn D0)(jI:Maps.size D0<=1048576):Cp 93 #[.map (some b)] w λe w'=>∃(v:Value)(ss:List (List UInt8)),e=.returned v/\Asc D0 ss/\RdK w.heap.size w' v ss/\Bw w w':=by
 refine(qG (n:=6)).1 ?_;have hfK:Fence.wide.fn 150:=jR;have hfS:Fence.wide.fn 149:=jR;have Ej:=bO.lt;have tK:(w.alloc (.cells #[.map (some b)] 133)).ownsMap prog 9 R b nn D0:=by obtain⟨es,clock,hb,Ft,hs,hD⟩:=bO;exact⟨es,clock,(Mp _ _ b Ej).trans hb,Ft,hs,hD⟩
 have uW:=Lo 2 ae w.heap.size b nn D0 (w.alloc (.cells #[.map (some b)] 133)) ai ai tK;refine mG func93 rfl jR ?_ rfl;simp only[ntmps93,rB,Nat.reduceAdd,Nat.reduceSub]
 gi_wp2_with(first
  |(gi_at_call 150;refine(Ua _ _ _).mono ?_;rintro e w'⟨rfl,rfl⟩)
  |(gi_at_call 149;refine(vJ 5 ae _ _ (λargs w=>(by kernel_rfl:(callFunc 208 args).run prog w=.ok (.enter 208 args) w)) _ _ _ jI (λss h=>dQ h.2.2 jI) _ uW).mono ?_;rintro e w'⟨v,ss,rfl,hS,II,hb⟩))
 go_ret;refine⟨v,_,rfl,NG hS,?_,((cR _ w).alloc ao _).trans (hb.mono ai)⟩;rcases II with h|⟨g,cap,h1,h2,h3,h4⟩;{exact .inl h};{exact .inr ⟨g,cap,h1,by simp at h2;omega,h3,h4⟩}
end T
def fmF(se pa:Bool)(lo hi vs:Int)(sq:Bool)(s f:Int)(np nv:Nat)(e g:Int):Bool:=
 (se||s==0)&&((pa||np==0)&&(decide (lo<=f)&&(decide (f<=hi)&&(decide ((nv:Int)<=vs)&&(sq||(e==0&&g==0))))))
def Hb{k:Int}(h:1<=k/\k<=13){w:World}:Calls prog 121 #[.I k] w λe w'=>e=.returned (.bool (decide (k=2\/k=3\/k=4\/k=5\/k=7\/k=8\/k=9\/k=10\/k=11\/k=12)))/\w'=w:=by
 have:k=1\/k=2\/k=3\/k=4\/k=5\/k=6\/k=7\/k=8\/k=9\/k=10\/k=11\/k=12\/k=13:=by omega
 rcases this with rfl|rfl|rfl|rfl|rfl|rfl|rfl|rfl|rfl|rfl|rfl|rfl|rfl
 all_goals(go_in;go_wp2;go_ret;exact⟨rfl,rfl⟩)
def QH{k:Int}(h:1<=k/\k<=13){w:World}:Calls prog 122 #[.I k] w λe w'=>e=.returned (.bool (decide (k=4\/k=5\/k=6\/k=7\/k=8\/k=9\/k=10\/k=11\/k=13)))/\w'=w:=by
 have:k=1\/k=2\/k=3\/k=4\/k=5\/k=6\/k=7\/k=8\/k=9\/k=10\/k=11\/k=12\/k=13:=by omega
 rcases this with rfl|rfl|rfl|rfl|rfl|rfl|rfl|rfl|rfl|rfl|rfl|rfl|rfl
 all_goals(go_in;go_wp2;go_ret;exact⟨rfl,rfl⟩)
def Jh{k:Int}(h:1<=k/\k<=13){w:World}:Calls prog 73 #[.I k] w λe w'=>e=.returned (.bool (decide (k=1\/k=3\/k=4\/k=5\/k=7\/k=8\/k=9)))/\w'=w:=by
 have:k=1\/k=2\/k=3\/k=4\/k=5\/k=6\/k=7\/k=8\/k=9\/k=10\/k=11\/k=12\/k=13:=by omega
 rcases this with rfl|rfl|rfl|rfl|rfl|rfl|rfl|rfl|rfl|rfl|rfl|rfl|rfl
 all_goals(go_in;go_wp2;go_ret;exact⟨rfl,rfl⟩)
def z0(s:Int):s=0\/(s != 0)=true:=(Aj (s=0)).imp id (λh=>by simp[h])
def zn(n:Nat):n=0\/((n:Int) != 0)=true:=(Aj (n=0)).imp id (λh=>by simp[h])
def zf(a f:Int):f=a\/(f==a)=false:=(Aj (f=a)).imp id (λh=>by simp[h])
def rowOf:Nat->Bool×Bool×Int×Int×Int×Bool×Bool
 |1=>(false,false,0,0,0,false,true)
 |2=>(true,false,0,0,0,false,false)
 |3=>(true,false,0,0,0,false,true)
 |4=>(true,true,0,1,40,false,true)
 |5=>(true,true,0,0,0,false,true)
 |6=>(false,true,0,0,0,false,false)
 |7=>(true,true,0,0,40,false,true)
 |8=>(true,true,1,2,0,false,true)
 |9=>(true,true,0,0,0,false,true)
 |10=>(true,true,0,0,0,true,false)
 |11=>(true,true,0,0,0,false,false)
 |12=>(true,false,0,0,0,false,false)
 |13=>(false,true,0,0,0,false,false)
 |_=>(false,false,0,0,0,false,false)
def Fa(k:Nat)(s f:Int)(n m:Nat)(e g:Int):Bool:=fmF (rowOf k).1 (rowOf k).2.1 (rowOf k).2.2.1 (rowOf k).2.2.2.1 (rowOf k).2.2.2.2.1 (rowOf k).2.2.2.2.2.1 s f n m e g
def joR(k:Nat):Bool:=(rowOf k).2.2.2.2.2.2
def kinds(h1:1<=k)(h2:k<=13):k=1\/k=2\/k=3\/k=4\/k=5\/k=6\/k=7\/k=8\/k=9\/k=10\/k=11\/k=12\/k=13:=by omega
def ao3{k:Int}(h1:1<=k)(h2:k<=13){e:Int}{p q:OA}{n m c d:Nat}{w:World}{B:Bool}(eB:Hid (Fa k.toNat s f n m e g=B)):Calls prog 72 #[zI k s (.S p n c) f (.S q m d) e g] w (Rb (.bool B) w):=by
 have:k=1\/k=2\/k=3\/k=4\/k=5\/k=6\/k=7\/k=8\/k=9\/k=10\/k=11\/k=12\/k=13:=by omega
 clear h1 h2;rcases this with rfl|rfl|rfl|rfl|rfl|rfl|rfl|rfl|rfl|rfl|rfl|rfl|rfl;rcases z0 s with rfl|hs;rcases zn n with rfl|hp;rcases z0 e with rfl|he;rcases z0 g with rfl|hg;rcases zn m with rfl|hv;rcases zf 0 f with rfl|hf;rotate_left 7;rcases zn n with rfl|hp;rcases z0 e with rfl|he;rcases z0 g with rfl|hg;rcases zn m with rfl|hv;rcases zf 0 f with rfl|hf;rotate_left 6;rcases zn n with rfl|hp;rcases z0 e with rfl|he;rcases z0 g with rfl|hg;rcases zn m with rfl|hv;rcases zf 0 f with rfl|hf;rotate_left 6;rcases z0 e with rfl|he;rcases z0 g with rfl|hg;rcases(Aj ((40:Int)<(m:Int))).symm with hv|hv;rcases zf 0 f with rfl|hf;rotate_left;rcases zf 1 f with rfl|hh;rotate_left 5;rcases z0 e with rfl|he;rcases z0 g with rfl|hg;rcases zn m with rfl|hv;rcases zf 0 f with rfl|hf;rotate_left 5;rcases z0 s with rfl|hs;rcases z0 e with rfl|he;rcases z0 g with rfl|hg;rcases zn m with rfl|hv;rcases zf 0 f with rfl|hf;rotate_left 6;rcases z0 e with rfl|he;rcases z0 g with rfl|hg;rcases(Aj ((40:Int)<(m:Int))).symm with hv|hv;rcases zf 0 f with rfl|hf;rotate_left 5;rcases z0 e with rfl|he;rcases z0 g with rfl|hg;rcases zn m with rfl|hv;rcases zf 1 f with rfl|hf;rotate_left;rcases zf 2 f with rfl|hh;rotate_left 5;rcases z0 e with rfl|he;rcases z0 g with rfl|hg;rcases zn m with rfl|hv;rcases zf 0 f with rfl|hf;rotate_left 5;rcases zn m with rfl|hv;rcases zf 0 f with rfl|hf;rotate_left 3;rcases z0 e with rfl|he;rcases z0 g with rfl|hg;rcases zn m with rfl|hv;rcases zf 0 f with rfl|hf;rotate_left 5;rcases zn n with rfl|hp;rcases z0 e with rfl|he;rcases z0 g with rfl|hg;rcases zn m with rfl|hv;rcases zf 0 f with rfl|hf;rotate_left 6;rcases z0 s with rfl|hs;rcases z0 e with rfl|he;rcases z0 g with rfl|hg;rcases zn m with rfl|hv;rcases zf 0 f with rfl|hf;rotate_left 6
 all_goals(cases B<;>first|(exfalso;have h:=aa eB;clear eB;simp_all[Fa,fmF,rowOf]<;>omega)|clear eB)
 all_goals(go_in;go_wp2_with fail;refine(Hb aZ).mono ?_;rintro r w'⟨rfl,rfl⟩;(try(go_wp2_with fail;refine(QH aZ).mono ?_;rintro r w'⟨rfl,rfl⟩));go_wp2;go_ret;exact⟨rfl,au.alloc ao _⟩)
def Hu{k e:Int}{p q:OA}{n m c d:Nat}{w:World}(hk:k<1\/13<k):Calls prog 72 #[zI k s (.S p n c) f (.S q m d) e g] w (Rb (.bool false) w):=by
 rcases hk with h1|h2;{
 go_in
 go_wp2;go_ret;exact⟨rfl,au.alloc ao _⟩};{
 have h3:¬k<1:=ae
 go_in
 go_wp2;go_ret;exact⟨rfl,au.alloc ao _⟩}
def Hw(h1:1<=k)(h2:k<=13){e:Int}{p q:OA}{n m c d:Nat}{w:World}{B:Bool}(eB:Hid (Fa k s f n m e g=B)):Calls Tryz.prog 72 #[zI k s (.S p n c) f (.S q m d) e g] w (Rb (.bool B) w):=
 ao3 ae ae (p:=p) (q:=q) (c:=c) (d:=d) (w:=w) eB
def Dm(h1:1<=k)(h2:k<=13){w:World}:Calls Tryz.prog 73 #[.I k] w λr w'=>r=.returned (.bool (joR k))/\w'=w:=by
 have h:=Jh (k:=k) ae (w:=w);rcases kinds h1 h2 with rfl|rfl|rfl|rfl|rfl|rfl|rfl|rfl|rfl|rfl|rfl|rfl|rfl<;>exact h
theorem EG:∀(l m:LI),l.Nodup->(∀x∈l,x∈m)->l.length<=m.length
 |[],m,_,_=>fN _
 |x::l,m,hd,hs=>by rw[Ah]at hd;have hx:=hs x ai;have h:=EG l (m.erase x) hd.2 λy hy=>(List.mem_erase_of_ne (λe=>hd.1 (by rw[<-e];exact hy))).2 (hs y (by simp[hy]));rw[List.length_erase_of_mem hx]at h;have:=aO3 hx;rw[iT];omega
theorem aq8{α:Type}[DecidableEq α](c:α)(s:List α):((dT c s).map λn=>n.length+1).sum=s.length+1:=by
 induction s with
 |nil=>rfl
 |cons x l ih=>
  rw[dT];split;{rw[iM,Ke,ih,iT,Af];omega};{
 cases h:dT c l with
 |nil=>have:=aq6 c (s:=l);rw[h]at this;simp at this
 |cons n ns=>
  rw[h]at ih;simp only[iM,Ke,iT]at ih⊢;omega}
theorem Tf(C:Nat):∀l:List Nat,(∀x∈l,x<=C)->l.sum<=C*l.length
 |[],_=>fN _
 |x::l,h=>by have h1:=Tf C l λy hy=>h y (by simp[hy]);have h2:=h x ai;rw[Ke,iT,ad5];omega
theorem Fl{p:LI}(h:vp p=true):p.length<=136:=by
 cases p with
 |nil=>simp
 |cons c t=>
  rw[vp,st,fx,fx,jw,jy]at h;obtain⟨-,h1,h2⟩:=h;have h3:=Tf 17 ((dT 47 t).map λn=>n.length+1) (λx hx=>by obtain⟨n,hn,rfl⟩:=ji.1 hx;have:=h2 n hn;simp only[kP,fx,jw]at this;omega)
  rw[aq8,dZ]at h3;rw[iT];omega
def tv(h b:Int):Int:=((h.toNat ^^^ b.toNat:Nat):Int)*16777619 % 4294967296
def Nu(h:Int)(l:LI):Int:=l.foldl tv h
def ck(l:LI):Int:=Nu 2166136261 l
def Yr{h b:Int}:0<=tv h b/\tv h b<4294967296:=by unfold tv;omega
def DL(h:k<l.length):ck (l.take (k+1))=tv (ck (l.take k)) l[k]:=by
 unfold ck Nu;rw[Qx h,Qo];rfl
def WE(l:LI):0<=ck l/\ck l<4294967296:=by
 rcases l.eq_nil_or_concat with rfl|⟨m,x,rfl⟩;{unfold ck Nu;simp};{unfold ck Nu;rw[List.concat_eq_append,Qo];exact Yr}
def bs0{h:Nat}(h1:h<4294967296)(b1:b<256):h ^^^ b<4294967296:=
 Ql (n:=32) h1 ae
def br9(k:IntKind)(hj:j<=k.bits)(hk:∀n:Int,0<=n->n<2 ^ j->k.wrap n=n)(a b:Nat)(ha:a<2 ^ j)(hb:b<2 ^ j):bits .xor k a b=((a ^^^ b:Nat):Int):=by
 have hp:2 ^ j<=2 ^ k.bits:=ad4 aZ hj;have Oh:a % 2 ^ k.bits=a:=Nat.mod_eq_of_lt (gQ ha hp);have bR:b % 2 ^ k.bits=b:=Nat.mod_eq_of_lt (gQ hb hp);have cast:∀n:Nat,n<2 ^ j->((n:Nat):Int)<2 ^ j:=λn h=>by exact_mod_cast h
 simp only[bits,BitVec.ofInt_natCast,BitVec.toNat_xor,BitVec.toNat_ofNat,Oh,bR];exact hk _ (Int.natCast_nonneg _) (cast _ (Ql ha hb))
def bK9{a:Int}(c0:0<=a)(c1:a<4294967296)(z0:0<=z)(z1:z<256):(IntKind.u64.wrap (bits .xor .u64 a z*16777619)).tmod 4294967296=tv a z:=by
 obtain⟨m,rfl⟩:=VR c0;obtain⟨n,rfl⟩:=VR z0;have hx:=bs0 (h:=m) (b:=n) ae ae;rw[br9 .u64 aZ wraps_u64 m n ae ae];unfold tv;simp only[Int.ofNat_eq_natCast,qY];generalize m ^^^ n=y at*;rw[u64_wrap_id _ ae ae,Int.tmod_eq_emod_of_nonneg ae]
def bL0{a:Int}(c0:0<=a)(c1:a<4294967296)(z0:0<=z)(z1:z<256):IntKind.u32.wrap (bits .xor .u32 a z*16777619)=tv a z:=by
 obtain⟨m,rfl⟩:=VR c0;obtain⟨n,rfl⟩:=VR z0;rw[br9 .u32 aZ wraps_u32 m n ae ae,IntKind.wrap_u32];unfold tv;simp only[Int.ofNat_eq_natCast,qY]
def Tm{w:World}(h:Rd w (.S p l.length c) l)(hb:aN l)(hl:l.length<=4194304):Calls prog 134 #[.S p l.length c] w (Rb (.int .u32 (ck l)) w):=by
 obtain⟨p',c',ev,h⟩:=h;obtain⟨rfl,-,rfl⟩:=js ev
 go_in
 go_wp2
 go_loopw[3,4](λhh i wr=>∃k:Nat,k<=l.length/\i=.I k/\hh=.U (ck (l.take k))/\Bw w wr) (λ_ i _=>l.length-(intOf i).toNat)
 exact⟨0,fN _,rfl,rfl,cR _ _⟩;{obtain⟨k,hk,rfl,rfl,aK⟩:=hrel;obtain⟨c0,c1⟩:=WE (l.take k);by_cases aT:k<l.length;{rcases h with rfl|⟨b,o,rfl,hc⟩;{simp at aT};{have Dx:wr.cell? (Ad b (o+k))=some (.int .u8 l[k]):=(aK.cell (p:=(Ad b (o+k))) (nY w _ (hc k aT))).trans (by rw[hc k aT];simp[List.getD,aT]);obtain⟨z0,z1⟩:=hb l[k] (Ac aT);have HS:=af (DL aT);have HM:=af aT;clear hc hb;generalize l[k]=z at*;generalize ck (l.take k)=a at*;go_wp2;go_roundw;exact⟨k+1,ae,by go_num,by rw[aa HS,bK9 c0 c1 z0 z1],aK⟩;exact bM}};{have e:k=l.length:=ae;subst e;rw[ng]at*;go_wp2;go_ret;exact⟨rfl,aK⟩}}
def Ud{w:World}(h:Rd w (.S p l.length c) l)(hb:aN l)(hl:l.length<=4194304):Calls prog 217 #[.S p l.length c] w (Rb (.int .u32 (ck l)) w):=by
 obtain⟨p',c',ev,h⟩:=h;obtain⟨rfl,-,rfl⟩:=js ev
 go_in
 go_wp2
 go_loopw[3,8](λhh i wr=>∃k:Nat,k<=l.length/\i=.I k/\hh=.int .u32 (ck (l.take k))/\Bw w wr) (λ_ i _=>l.length-(intOf i).toNat)
 exact⟨0,fN _,rfl,rfl,cR _ _⟩;{obtain⟨k,hk,rfl,rfl,aK⟩:=hrel;obtain⟨c0,c1⟩:=WE (l.take k);by_cases aT:k<l.length;{rcases h with rfl|⟨b,o,rfl,hc⟩;{simp at aT};{have Dx:wr.cell? (Ad b (o+k))=some (.int .u8 l[k]):=(aK.cell (p:=(Ad b (o+k))) (nY w _ (hc k aT))).trans (by rw[hc k aT];simp[List.getD,aT]);obtain⟨z0,z1⟩:=hb l[k] (Ac aT);have HS:=af (DL aT);have HM:=af aT;clear hc hb;generalize l[k]=z at*;generalize ck (l.take k)=a at*;go_wp2;go_roundw;exact⟨k+1,ae,by go_num,by rw[aa HS,<-bL0 c0 c1 z0 z1,IntKind.wrap_u32],aK⟩;exact bM}};{have e:k=l.length:=ae;subst e;rw[ng]at*;go_wp2;go_ret;exact⟨rfl,aK⟩}}
def IP(P:Program)(md:Region.Mode)(ops:Array Oper)(Q:Exit->Act->World->Prop)(S:World->Prop)(x:Nat):Nat->Array Bool->Act->World->Prop
 |0,l,a,w=>Region.ready md ops l=[]/\Q .normal a w
 |n+1,l,a,w=>(Region.ready md ops l=[]->Q .normal a w)/\∀i∈Region.ready md ops l,wpOp P ops Q i (λa' w'=>(i=x\/S w')/\IP P md ops Q S x n (l.setIfInBounds i true) a' w') a w
section
variable {P:Program}{md:Region.Mode}{ops:Array Oper}{Q:Exit->Act->World->Prop}{S:World->Prop}{x:Nat}
theorem Lg:∀(n:Nat)(l:Array Bool)(a:Act)(w:World),IP P md ops Q S x n l a w->wpAny P md ops Q n l a w
 |0,_,_,_,h=>h
 |n+1,_,_,_,h=>⟨h.1,λi hi=>wpOp_mono (λa' w' k=>Lg n _ a' w' k.2) (h.2 i hi)⟩
theorem WS(hi:ops[i]?=some oi)(hs:∀(j:Nat)(o:Oper)cs b,ops[j]?=some o->o.op≠.select cs b)(hQ:∀c a w,Q (.panic c) (a.put oi.dst v) w->Q (.panic c) a w)(hx:∀o,ops[x]?=some o->∃e∈o.after,Region.binds md e=true/\e.on=i):∀(n:Nat)(l:Array Bool)(a:Act)(w:World),(∀j oj,ops[j]?=some oj->j≠i->l.getD j true=false->(∀e∈oj.after,Region.binds md e=true->e.on≠i)->oi.apart ops oj=true)->i∈Region.ready md ops l->YieldsIf P ops S oi v a->S w->IP P md ops Q S x n (l.setIfInBounds i true) (a.put oi.dst v) w->IP P md ops Q S x (n+1) l a w:=by
 intro n
 induction n with
 |zero=>
  intro l a w _ hr hy hS H;refine⟨λe=>(by rw[e]at hr;cases hr),λj hj=>?_⟩;by_cases e:j=i;{rw[e];exact hy.wpOp hi hS ⟨.inr hS,H⟩};{have k:=ready_mono hj e;rw[H.1]at k;cases k}
 |succ n ih=>
  intro l a w hf hr hy hS H;refine⟨λe=>(by rw[e]at hr;cases hr),λj hj=>?_⟩;by_cases e:j=i;{rw[e];exact hy.wpOp hi hS ⟨.inr hS,H⟩};{
 obtain⟨bB2,oj,hoj,MU⟩:=mem_ready.1 hj;have l9:∀z∈oj.after,Region.binds md z=true->z.on≠i:=λz hz hb hzi=>by have k1:=MU z hz hb;have k0:=(mem_ready.1 hr).1;rw[hzi]at k1;by_cases hl:i<l.size;{simp[hl]at k0 k1;rw[k0]at k1;cases k1};{simp[bv2 (Nat.le_of_not_lt hl)]at k1}
 have hjx:j≠x:=λex=>by subst ex;obtain⟨z,hz,hb,hzi⟩:=hx oj hoj;exact l9 z hz hb hzi
 refine wpOp_mono (λa' w' k=>?_) (wpOp_putIf hoj (hf j oj hoj e bB2 l9) (λcs b=>hs i oi cs b hi) (λcs b=>hs j oj cs b hoj) hQ hy (H.2 j (ready_mono hj e)));have Sz:S w':=k.2.1.resolve_left hjx;refine⟨.inr Sz,ih (l.setIfInBounds j true) a' w' (λk' ok hk hki YQ hn=>hf k' ok hk hki ?_ hn) (ready_mono hr (aO0 e)) k.1 Sz ?_⟩;{by_cases hjk:j=k';{rw[<-hjk];exact bB2};{rw[getD_set_ne true hjk]at YQ;exact YQ}};{rw[Array.setIfInBounds_comm _ _ e];exact k.2.2}}
theorem Fh{n:Nat}{l:Array Bool}{w:World}(h:Q .normal a w)(hr:Region.ready md ops l=[]:=by kernel_rfl):IP P md ops Q S x n l a w:=by
 cases n with
 |zero=>exact⟨hr,h⟩
 |succ n=>exact⟨λ_=>h,by rw[hr];simp⟩
def jt(i:Nat){n:Nat}{l:Array Bool}{w:World}{o:Oper}(h:∀K':Act->World->Prop,Shut (∀a w,(i=x\/S w)->((i=x\/S w)->IP P md ops Q S x n (l.setIfInBounds i true) a w)->K' a w)->if Region.wanted o (yielded ops a.tmps)=true then Oper.wp P o a w K' Q else K' (a.put o.dst undef) w)(hi:ops[i]?=some o:=by(simp only[xQ,BQ,BO];rfl))(hr:Region.ready md ops l=[i]:=by kernel_rfl):IP P md ops Q S x (n+1) l a w:=by
 refine⟨λe=>?_,λj hj=>?_⟩;{rw[hr]at e;cases e};{rw[hr]at hj;obtain rfl:=nW.1 hj;exact wpOp_step hi (λK' hK=>h K' (λa w hS hW=>hK a w ⟨hS,hW hS⟩))}
def TE(P:Program)(md:Region.Mode)(ops:Array Oper)(Q:Exit->Act->World->Prop)(S:World->Prop)(x:Nat)(l:Array Bool)(i:Nat)(a a':Act):Prop:=∀n w,S w->IP P md ops Q S x n (l.setIfInBounds i true) a' w->IP P md ops Q S x (n+1) l a w
def tEQ{v:Value}{l:Array Bool}{a a':Act}(hi:ops[i]?=some oi:=by(simp only[xQ,BQ,BO];rfl))(hs:Region.noSelect ops=true:=by kernel_rfl)(hf:Region.free md ops l i=true:=by kernel_rfl)(hr:(Region.ready md ops l).contains i=true:=by kernel_rfl)(hx:((ops[x]?.map λo=>o.after.toList.any λe=>Region.binds md e&&e.on==i).getD false)=true:=by kernel_rfl)(hQ:∀c a w,Q (.panic c) (a.put oi.dst v) w->Q (.panic c) a w:=by exactλ_ _ _ h=>h)(hg:Region.wanted oi (yielded ops a.tmps)=true:=by rfl)(hy:∀w,S w->(execOp a.eval oi).run P w=.ok (.value v) w:=by(intro w' xt;(try dsimp only at xt);go_simp;try with_reducible rfl))(ha:a.put oi.dst v=a':=by(simp only[Act.put,xa,xb,xc];rfl)):TE P md ops Q S x l i a a':=
 λn w hS h=>WS hi (Region.noSelect_spec hs) hQ (λo ho=>by rw[ho]at hx;simp only[Jg,si,Kl,fx,Mo]at hx;obtain⟨e,he,h1,h2⟩:=hx;exact⟨e,by simpa using he,h1,h2⟩) n l a w (Region.free_spec hi hf) (by simpa using hr) (Or.inl ⟨hg,hy⟩) hS (ha▸h)
def tEo(i:Nat){v:Value}{n:Nat}{l:Array Bool}{a a':Act}{w:World}(hS:S w)(h:IP P md ops Q S x n (l.setIfInBounds i true) a' w)(hi:ops[i]?=some oi:=by(simp only[xQ,BQ,BO];rfl))(hr:Region.ready md ops l=[i]:=by kernel_rfl)(hg:Region.wanted oi (yielded ops a.tmps)=true:=by rfl)(hy:∀w,S w->(execOp a.eval oi).run P w=.ok (.value v) w:=by(intro w' xt;(try dsimp only at xt);go_simp;try with_reducible rfl))(ha:a.put oi.dst v=a':=by(simp only[Act.put,xa,xb,xc];rfl)):IP P md ops Q S x (n+1) l a w:=by
 refine⟨λe=>(by rw[hr]at e;cases e),λj hj=>?_⟩;rw[hr]at hj;obtain rfl:=nW.1 hj;have hY:YieldsIf P ops S oi v a:=Or.inl ⟨hg,hy⟩;exact hY.wpOp hi hS ⟨.inr hS,ha▸h⟩
def tEn(i:Nat){n:Nat}{l:Array Bool}{w:World}(hS:S w)(h:IP P md ops Q S x n (l.setIfInBounds i true) a' w)(t:TE P md ops Q S x l i a a':=by exact tEQ):IP P md ops Q S x (n+1) l a w:=t _ _ hS h
def tED(i0 i1 i2 i3:Nat){n:Nat}{l:Array Bool}{a0 a1 a2 a3 a4:Act}{w:World}(hS:S w)(h:IP P md ops Q S x n ((((l.setIfInBounds i0 true).setIfInBounds i1 true).setIfInBounds i2 true).setIfInBounds i3 true) a4 w)(x0:TE P md ops Q S x l i0 a0 a1:=by exact tEQ)(x1:TE P md ops Q S x (l.setIfInBounds i0 true) i1 a1 a2:=by exact tEQ)(x2:TE P md ops Q S x ((l.setIfInBounds i0 true).setIfInBounds i1 true) i2 a2 a3:=by exact tEQ)(x3:TE P md ops Q S x (((l.setIfInBounds i0 true).setIfInBounds i1 true).setIfInBounds i2 true) i3 a3 a4:=by exact tEQ):IP P md ops Q S x (n+4) l a0 w:=x0 _ _ hS (x1 _ _ hS (x2 _ _ hS (x3 _ _ hS h)))
def oGS{i n:Nat}{l:Array Bool}{w:World}(hK:Shut (∀a w,(i=x\/S w)->((i=x\/S w)->IP P md ops Q S x n l a w)->K a w))(hS:S w)(h:S w->IP P md ops Q S x n l a' w)(ha:a=a':=by((try simp only[Act.put,xa,xb,xc]);rfl)):K a w:=hK.out _ _ (.inr hS) λ_=>ha▸h hS
def oGX{n:Nat}{l:Array Bool}{w:World}(hK:Shut (∀a w,(x=x\/S w)->((x=x\/S w)->IP P md ops Q S x n l a w)->K a w))(h:IP P md ops Q S x n l a w):K a w:=hK.out _ _ (.inl rfl) λ_=>h
def Cx(x:Nat){id:Nat}{w:World}(hS:S w.drew)(h:S w.drew->IP P .any ops Q S x ops.size (Array.replicate ops.size false) a w.drew)(hm:P.follows .mixedOrders=true:=by kernel_rfl):(Code.region id ops true).wp P Q a w:=
 wp_region_any hm (Lg _ _ _ _ (h hS))
end
def lh{α:Type}(f:α->α)(k:Nat)(xs:List α):List α:=(xs.take k).map f++xs.drop k
def vh{α:Type}(f:α->α)(xs:List α):lh f 0 xs=xs:=by simp[lh]
def yr{α:Type}(f:α->α){xs:List α}(h:xs.length<=k):lh f k xs=xs.map f:=by
 rw[lh,ke h,Kn h,D5]
def mc{α:Type}(f:α->α){xs:List α}{x:α}(h:xs[k]?=some x):(lh f k xs)[k]?=some x:=by
 have hl:=(bf.1 h).1;rw[lh,nZ aU,Mq,dZ,od,show k+(k-min k xs.length)=k by omega];exact h
def vj{α:Type}(f:α->α){xs:List α}{x:α}(h:xs[k]?=some x):(lh f k xs).set k (f x)=lh f (k+1) xs:=by
 have hl:=(bf.1 h).1;have hx:=(bf.1 h).2;rw[lh,lh,Qw _ _ aU,dZ,od,show k-min k xs.length=0 by omega,Mr hl,GM,ni,h];simp
def xS{n:Int}{w:World}(h:Rd w (.slice p l.length c) l)(hl:l.length<=2097152):Calls prog 78 #[iy (.slice p l.length c) n] w λe w'=>∃p' c',e=.returned (iy (.slice p' l.length c') n)/\Own w.heap.size w' (.slice p' l.length c') l/\Below w.heap.size w w':=by
 have b2:Below w.heap.size w ((w.alloc (.cells #[.slice p l.length c,.int .i64 n] 28)).alloc (.cells #[.slice none 0 0,.int .i64 0] 28)):=(au.alloc ao _).alloc ai _;have hR:=af (h.below b2.drew);clear h
 go_in
 go_wp2_with fail
 go_region_held3 (λw'=>w'.cell? (Ad w.heap.size 0)=some (.slice p l.length c)/\w'.cell? (Ad w.heap.size 1)=some (.int .i64 n)) (first|go_keep|(simp[g0,g1];done))
  (first|(go_at_call 65;refine(xT (by exact aa hR) hl).mono ?_;rintro e w1⟨p',c',rfl,o1,aA⟩;obtain⟨iW,Of⟩:=lM aA;have g0:w1.cell? (Ad w.heap.size 0)=some (.slice p l.length c):=(iW _ _ aU).trans ai;have g1:w1.cell? (Ad w.heap.size 1)=some (.int .i64 n):=(iW _ _ aU).trans ai))
 have aD:Below w.heap.size w w1:=b2.drew.trans (aA.mono aU);have mV:Own (w.heap.size+2) w1 (.slice p' l.length c') l:=by simpa using o1
 clear hR b2 o1 aA g0 g1;go_wp2;refine dD (v:=iy (.slice p' l.length c') n) (by simp[results,results78,go_sem,iW]) rfl ⟨p',c',rfl,Own.mono (B:=w.heap.size+2) ?_ ae,?_⟩;{
 repeat(refine qn ?_ ai _)
 exact mV};{
 repeat(refine gF ?_ (by simp<;>omega) _)
 exact aD}
theorem T9(p0 p1 p2:OA)(c0 c1 c2:Nat)(n0 n1 n2:Int)(l0 l1 l2:LI)(w:World)(h0:Rd w (.slice p0 l0.length c0) l0)(h1:Rd w (.slice p1 l1.length c1) l1)(h2:Rd w (.slice p2 l2.length c2) l2)(m0:l0.length<=2097152)(m1:l1.length<=2097152)(m2:l2.length<=2097152):Calls prog 39 #[dt (.slice p0 l0.length c0) n0 (.slice p1 l1.length c1) n1 (.slice p2 l2.length c2) n2] w λe w'=>
   ∃q0 d0 q1 d1 q2 d2,e=.returned (dt (.slice q0 l0.length d0) n0 (.slice q1 l1.length d1) n1 (.slice q2 l2.length d2) n2)∧
    jE w.heap.size w' (.slice q0 l0.length d0) (.slice q1 l1.length d1) (.slice q2 l2.length d2) l0 l1 l2/\Below w.heap.size w w':=by
 go_in
 go_wp2_with fail;obtain⟨W,hW⟩:=az ((w.alloc (.cells #[.slice p0 l0.length c0,.int .i64 n0,.slice p1 l1.length c1,.int .i64 n1,.slice p2 l2.length c2,.int .i64 n2] 30)).alloc (.cells #[.slice none 0 0,.int .i64 0,.slice none 0 0,.int .i64 0,.slice none 0 0,.int .i64 0] 30));have bW:Below w.heap.size w W:=hW▸(au.alloc ao _).alloc ai _;have k0:vE W w.heap.size (.slice p0 l0.length c0) (.int .i64 n0) (.slice p1 l1.length c1) (.int .i64 n1) (.slice p2 l2.length c2) (.int .i64 n2):=by rw[hW];simp[vE]
 have r0:vE W (w.heap.size+1) (.slice none 0 0) (.int .i64 0) (.slice none 0 0) (.int .i64 0) (.slice none 0 0) (.int .i64 0):=by rw[hW];simp[vE]
 have f0:∀o,W.frozen? (Ad (w.heap.size+1) o)=false:=by intro o;rw[hW];simp
 have zW:w.heap.size+2=W.heap.size:=by rw[hW];simp
 rw[<-hW];clear hW;have e0:=h0.below bW.drew;have e1:=h1.below bW;have e2:=h2.below bW;clear h0 h1 h2;have k0d:vE W.drew w.heap.size (.slice p0 l0.length c0) (.int .i64 n0) (.slice p1 l1.length c1) (.int .i64 n1) (.slice p2 l2.length c2) (.int .i64 n2):=k0
 go_region_held3 (λw'=>vE w' w.heap.size (.slice p0 l0.length c0) (.int .i64 n0) (.slice p1 l1.length c1) (.int .i64 n1) (.slice p2 l2.length c2) (.int .i64 n2)) (first|with_reducible exact k0d|with_reducible exact k1|with_reducible exact k2|with_reducible exact k3|(clear k0 k0d k1 k2 b1 b2 b3 f3 e0 e1 e2 o0 o1 o2 aA aD aL r0 f0 bW;refine⟨?_,?_,?_,?_,?_,?_⟩<;>go_keep))
  (first
   |(go_at_call_of 78 (Value.agg #[.slice p0 l0.length c0,.int .i64 n0]);refine(xS (by exact e0) m0).mono ?_;rintro e w1⟨q0,d0,rfl,o0,aA⟩;have b1:=aj (cR W.heap.size W).drew aA;have k1:=vE.below k0 b1)
   |(go_at_call_of 78 (Value.agg #[.slice p1 l1.length c1,.int .i64 n1]);refine(xS (by exact e1.below b1) m1).mono ?_;rintro e w2⟨q1,d1,rfl,o1,aD⟩;have b2:=aj b1 aD;have k2:=vE.below k0 b2)
   |(go_at_call_of 78 (Value.agg #[.slice p2 l2.length c2,.int .i64 n2]);refine(xS (by exact e2.below b2) m2).mono ?_;rintro e w3⟨q2,d2,rfl,o2,aL⟩;have b3:=aj b2 aL;have k3:=vE.below k0 b3;have r3:=vE.below r0 b3;have f3:=cG f0 b3 ae))
 have z1:w.heap.size+2<=w1.heap.size:=by have:=aA.size;simp at this;omega
 have z2:w1.heap.size<=w2.heap.size:=aD.size;have z3:w2.heap.size<=w3.heap.size:=aL.size;have bb:Below w.heap.size w w3:=aj bW b3;have u0:Own W.heap.size w3 (.slice q0 l0.length d0) l0:=Own.below (Own.below (by simpa using o0) aD) aL;have u1:Own w1.heap.size w3 (.slice q1 l1.length d1) l1:=Own.below o1 aL;have u0':Own W.heap.size w1 (.slice q0 l0.length d0) l0:=by simpa using o0
 obtain⟨ra,rb,rc,rd,re,rf⟩:=r3;clear k0 k0d k1 k2 k3 b1 b2 b3 e0 e1 e2 aA aD aL r0 f0 o0;go_wp2;refine dD (v:=dt (.slice q0 l0.length d0) n0 (.slice q1 l1.length d1) n1 (.slice q2 l2.length d2) n2) (by simp[results,results39,go_sem,ra,rb,rc,rd,re,rf]) rfl ⟨q0,d0,q1,d1,q2,d2,rfl,?_,?_⟩;{
 refine jE.mk' (B:=w.heap.size) (B1:=w1.heap.size) (B2:=w2.heap.size) (u0'.mono ae) o1 (Own.mono (B:=W.heap.size) ?_ ae) ?_ ?_ ao ao ae ae;{
 repeat(refine qn ?_ aU _)
 exact u0};{
 repeat(refine qn ?_ aU _)
 exact u1};{
 repeat(refine qn ?_ aU _)
 exact o2}};{
 repeat(refine gF ?_ ai _)
 exact bb}
def own:ownKnob Tryz.prog.godebug=none:=by kernel_rfl
def laidOut:laidOutB Tryz.prog=true:=by kernel_rfl
def Q8{H:Type}{enc:TypeId×Value->H}{a:Assume}{C:Checked}{os:Os}{f:FuncId}{fn:Func}{s:ChangeSpec}{conds:List PathCond}{apart fresh handsOn again:Bool}{X:World->Array Value->Prop}(hX:∀(w w':World)(args:Array Value),w.heap=w'.heap->X w args->X w' args)(own:ownKnob C.prog.godebug=none)(started:os.Started)(aX9:C.prog.inits.idxOf? f=none)(hfn:C.prog.funcs[f]?=some fn)(witness:∃(w:World)(tape:Tape)(i:Input),w.os=os/\(w.forCall tape i).Shaped C.prog/\i.vars=[]/\Input.okWide C.prog (w.forCall tape i) .any w.heap.size f i∧
   ((s.pre enc C.prog fn conds apart (w.forCall tape i).memory i.args/\X (w.forCall tape i).memory i.args)/\sizedMet enc C.prog fn (OpenSpec.ofChange s) apart (w.forCall tape i).memory i.args)/\a.holds C.prog (lone (Frame.enter C.prog f i.args .normal) [] (w.forCall tape i)))(ar3:∀(W:World)(base:Nat)(args:Array Value)(ds gs:List (DataW H))(before:List MemPlace),
   (∀(j:Nat)t v,fn.params[j]?=some t->args[j]?=some v->Value.okWide C.prog W .any base t v)→
   DataW.Whole enc C.prog fn.params.toList s.vars apart W args.toList ds gs before→
   X W args->W.ShapedOpen C.prog→
   Calls C.prog f args W λe W'=>∃v,e=.returned v/\s.post enc C.prog fn apart fresh handsOn again W args v W'):ReturnsInHanded a C os f .any (λw args=>(s.pre enc C.prog fn conds apart w args/\X w args)/\sizedMet enc C.prog fn (OpenSpec.ofChange s) apart w args) (s.post enc C.prog fn apart fresh handsOn again):=by
 refine returnsInHanded_of_calls own started aX9 witness ?_;intro w tape i _ hsh _ iV qy cq8;obtain⟨_,_,_,fn',cr3,_,_,_,_,Ec⟩:=iV;have e:fn'=fn:=DZ (cr3.symm.trans hfn);subst e;obtain⟨⟨⟨ds,gs,before,hw,hc⟩,hx⟩,hz⟩:=qy;refine(ar3 (w.forCall tape i) w.heap.size i.args ds gs before Ec (DataW.Whole.of_heap (w':=w.forCall tape i) aH hw) (hX _ _ _ aH hx) hsh).mono λe W'⟨v,he,hp⟩=>?_;subst he;exact ChangeSpec.post_blind hp
def PK{w:World}(h:w.ShapedOpen Tryz.prog):∃m,w.cell? (Ad 1 0)=some (.I m):=
 cell_of_shapedOpen_int (t:=3) (zero:=#[.I 0]) h (Qe bg) bg rfl bg bg Tryz.underlying3
def Io:Tryz.prog.cellsOf 251=7:=by kernel_rfl
def Ru:Tryz.prog.cellsOf 22=1:=by kernel_rfl
def KT:Tryz.prog.cellsOf 3=1:=by kernel_rfl
def UW:Tryz.prog.cellsOf 4=1:=by kernel_rfl
theorem Lj{H:Type}{enc:TypeId×Value->H}{P:Program}{w:World}{spare:Nat->Bool}{held:Bool}{t:TypeId}{f0 f1 f2 f3 f4 f5 f6:Field}{fuel:Nat}{x:DataW H×List MemPlace}(ht:P.underlying t=some (.struct #[f0,f1,f2,f3,f4,f5,f6]))(h:DataW.trod enc P w base spare held fuel t cs=some x):∃y0 y1 y2 y3 y4 y5 y6 n,x.1=.agg [y0.1,y1.1,y2.1,y3.1,y4.1,y5.1,y6.1]/\cs.length=P.cellsOf t∧
   DataW.trod enc P w base spare held n f0.type ((cs.drop f0.offset).take (P.cellsOf f0.type))=some y0/\DataW.trod enc P w base spare held n f1.type ((cs.drop f1.offset).take (P.cellsOf f1.type))=some y1∧
   DataW.trod enc P w base spare held n f2.type ((cs.drop f2.offset).take (P.cellsOf f2.type))=some y2/\DataW.trod enc P w base spare held n f3.type ((cs.drop f3.offset).take (P.cellsOf f3.type))=some y3∧
   DataW.trod enc P w base spare held n f4.type ((cs.drop f4.offset).take (P.cellsOf f4.type))=some y4/\DataW.trod enc P w base spare held n f5.type ((cs.drop f5.offset).take (P.cellsOf f5.type))=some y5∧
   DataW.trod enc P w base spare held n f6.type ((cs.drop f6.offset).take (P.cellsOf f6.type))=some y6:=by
 obtain⟨xs,n,_,rfl,hl,hlen,hf⟩:=DataW.trod_struct ht h
 match xs,hlen with
 |[y0,y1,y2,y3,y4,y5,y6],_=>exact⟨y0,y1,y2,y3,y4,y5,y6,n,rfl,hl,by simpa using hf 0 f0 rfl,by simpa using hf 1 f1 rfl,by simpa using hf 2 f2 rfl,by simpa using hf 3 f3 rfl,by simpa using hf 4 f4 rfl,by simpa using hf 5 f5 rfl,by simpa using hf 6 f6 rfl⟩
theorem M8{w:World}{n:Nat}{x:DataW Unit×List MemPlace}{se pa sq jo:Bool}{lo hi vs:Int}(h:DataW.trod (λ_=>()) Tryz.prog w 0 (λ_=>true) false n 251 cs=some x)(hx:x.1=.agg [.lit (.bool se),.lit (.bool pa),.lit (.I lo),.lit (.I hi),.lit (.I vs),.lit (.bool sq),.lit (.bool jo)]):cs=[.bool se,.bool pa,.I lo,.I hi,.I vs,.bool sq,.bool jo]:=by
 obtain⟨y0,y1,y2,y3,y4,y5,y6,m,e,hl,h0,h1,h2,h3,h4,h5,h6⟩:=Lj Tryz.underlying251 h;rw[Io]at hl;obtain⟨x0,x1,x2,x3,x4,x5,x6,rfl⟩:∃x0 x1 x2 x3 x4 x5 x6,cs=[x0,x1,x2,x3,x4,x5,x6]:=by
  match cs,hl with
  |[a,b,c,d,e,f,g],_=>exact⟨a,b,c,d,e,f,g,rfl⟩
 simp[UW,KT]at h0 h1 h2 h3 h4 h5 h6;obtain⟨b0,e0,f0⟩:=VK Tryz.underlying4 h0;obtain⟨b1,e1,f1⟩:=VK Tryz.underlying4 h1;obtain⟨b2,e2,f2,_⟩:=VJ Tryz.underlying3 h2;obtain⟨b3,e3,f3,_⟩:=VJ Tryz.underlying3 h3;obtain⟨b4,e4,f4,_⟩:=VJ Tryz.underlying3 h4;obtain⟨b5,e5,f5⟩:=VK Tryz.underlying4 h5;obtain⟨b6,e6,f6⟩:=VK Tryz.underlying4 h6;rw[e,f0,f1,f2,f3,f4,f5,f6]at hx;simp at hx e0 e1 e2 e3 e4 e5 e6;obtain⟨rfl,rfl,rfl,rfl,rfl,rfl,rfl⟩:=hx;subst e0 e1 e2 e3 e4 e5 e6
 rfl
end Go.Proofs.YtkakbcaiplggiaaGreatDoor
