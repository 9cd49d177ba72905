import Derived.Test.YtnhnbpkfpaondaaGreatDoorK3
import Derived.Lib.SlBytesConst
import Derived.RangeFuncNested
import Derived.RangeFuncBound
import Derived.RangeFuncCalls
import Derived.RangeFuncLeaves
import Derived.Shelf.Abstract
import Derived.Shelf.RegionOpen
import Derived.OwnWalkIn
import Derived.TacticsInMore
import Derived.LoopNIn
import Derived.LoopIn
import Derived.OrdersHeld
import Derived.Maps.AppendAt
import Derived.Scope
import Derived.WalkMore
namespace Go.Proofs.YtnhnbpkfpaondaaGreatDoor
set_option maxHeartbeats 25600000
set_option linter.all false
set_option maxRecDepth 100000
set_option linter.unusedVariables false
open Go.ChangeShapes Go.WideShapes Go.ChangeAt Go.RowKit Go.Deep Go.Proofs.Tryz
variable {w w' W W':World}{n c B n0 c0 n1 c1 n2 c2 b m d j i Bs L UG len cap B' f W0s:Nat}{cs vs:List Value}{p p0 p1 p2 q p9:OA}{l l0 l1 l2:LI}{v0 v1 v2 v3 v u:Value}{s s0 s1 s2 k e g z:Int}{oi o:Oper}{a a':Act}{K:Act->World->Prop}{P:Program}{md:Region.Mode}{ops:Array Oper}{E:Prop}{x x1 x2:Operand}{R:Ending->World->Prop}{Lw:Array TypeId}{rest:List Oper}{row:Option Nat}{S:World->Prop}
def Rd.aI5{H:Type}{enc:TypeId×Value->H}{x:DataW H×List MemPlace}(h:DataW.trod enc prog w 0 (λ_=>true) true n 22 cs=some x):∃(p:OA)(l:LI)(c:Nat),cs=[.S p l.length c]/\Rd w (.S p l.length c) l/\l.length<=maxLen/\(∀z∈l,(Lit.int .u8 z).wf=true):=by
 rcases open_ints underlying22 underlying5 bg h with⟨rfl,_⟩|⟨a,len,cap,zs,rfl,_,hl,hm,hz,_,cT,hwz⟩;{exact⟨none,[],0,rfl,Rd.nil w,al,al⟩};{
 simp only[pM]at hz;have e:(zs.take len).length=len:=by simp;omega
 refine⟨some a,zs.take len,cap,by rw[e],?_,af,λz h=>hwz z (GR h)⟩;refine⟨some a,cap,rfl,?_⟩;by_cases h0:len=0;{left;subst h0;simp}
 {
 right
 obtain⟨b,o,spot⟩:=a;have hs:spot=none:=by simpa[Addr.add]using World.cell?_spot (cT 0 af)
 subst hs;refine⟨b,o,rfl,λi hi=>?_⟩;rw[e]at hi;have:=cT i af;simp only[zI]at this;rw[this];simp[List.getD,GP,hi]}}
def Rd.qN{H:Type}{enc:TypeId×Value->H}{x:DataW H×List MemPlace}(h:DataW.trod enc prog w 0 (λ_=>true) true n 22 cs=some x):∃(p:OA)(l:LI)(c:Nat),cs=[.S p l.length c]/\Rd w (.S p l.length c) l/\l.length<=maxLen/\l.length<=c/\(∀z∈l,0<=z/\z<256):=by
 let⟨p,l,c,e,hr,hm,hw⟩:=Rd.aI5 h
 refine⟨p,l,c,e,hr,hm,?_,λz hz=>?_⟩;{rcases open_ints underlying22 underlying5 bg h with⟨rfl,_⟩|⟨a,len,cap,zs,rfl,_,hl,_⟩;{simp at e;omega};{simp at e;omega}};{have:=hw z hz;simp[Lit.wf,IntKind.min,IntKind.max,IntKind.signed,IntKind.bits]at this;omega}
abbrev iZ(v:Value)(n:Int):Value:=.agg #[v,.I n]
abbrev dE(v0:Value)(n0:Int)(v1:Value)(n1:Int)(v2:Value)(n2:Int):Value:=.agg #[v0,.I n0,v1,.I n1,v2,.I n2]
def xJ{n:Int}(h:Rd w (.S p l.length c) l)(hl:Mg l.length):Calls prog 40 #[iZ (.S p l.length c) n] w λe w'=>∃p' c',e=.returned (iZ (.S p' l.length c') n)/\Own w.heap.size w' (.S p' l.length c') l/\Bw w w':=by
 have hR:=λ(w':World)(hb:Bw w w')=>h.below hb
 go_in
 go_wp2_with fail;refine(CG (hR _ (by exact((aA.alloc ay _).alloc al _).alloc bq _)) hl).mono ?_;rintro e w1⟨p',c',rfl,ho,aG⟩
 let⟨jt,YO⟩:=xB aG
 go_wp2;have aK:Bw w w1:=((((aA.alloc ay _).alloc al _).alloc bq _)).trans (aG.mono bq);have qy:Own (w.heap.size+3) w1 (.S p' l.length c') l:=by simpa using ho
 refine dJ (v:=iZ (.S p' l.length c') n) (by simp[results,results40,go_sem,jt]) rfl ⟨p',c',rfl,Own.mono (B:=w.heap.size+3) ?_ af,?_⟩;{
 repeat(refine qD ?_ al _)
 exact qy};{
 repeat(refine ig ?_ (by simp<;>omega) _)
 exact aK}
structure jC(B:Nat)(w:World)(v0 v1 v2:Value)(l0 l1 l2:LI):Prop where
 o0:Own B w v0 l0
 o1:Own B w v1 l1
 o2:Own B w v2 l2
 n01:∀b,v0.ownBlock=some b->v1.ownBlock≠some b
 n02:∀b,v0.ownBlock=some b->v2.ownBlock≠some b
 n12:∀b,v1.ownBlock=some b->v2.ownBlock≠some b
def jC.mk'{B1 B2:Nat}{w1 w2:World}(a0:Own B w1 v0 l0)(a1:Own B1 w2 v1 l1)(o0:Own B w v0 l0)(o1:Own B1 w v1 l1)(o2:Own B2 w v2 l2)(h1:w1.heap.size<=B1)(h2:w2.heap.size<=B2)(hB:B<=B1)(jg:B1<=B2):jC B w v0 v1 v2 l0 l1 l2:=
 ⟨o0,o1.mono hB,o2.mono af,λb e0 e1=>by have:=a0.lt b e0;have:=o1.lt b e1;omega,λb e0 e1=>by have:=a0.lt b e0;have:=o2.lt b e1;omega,λb e0 e1=>by have:=a1.lt b e0;have:=o2.lt b e1;omega⟩
def TJ(p0 p1 p2:OA)(c0 c1 c2:Nat)(n0 n1 n2:Int)(l0 l1 l2:LI)(w:World)(h0:Rd w (.S p0 l0.length c0) l0)(h1:Rd w (.S p1 l1.length c1) l1)(h2:Rd w (.S p2 l2.length c2) l2)(hl:l0.length+l1.length+l2.length<=1048576):Calls prog 16 #[dE (.S p0 l0.length c0) n0 (.S p1 l1.length c1) n1 (.S p2 l2.length c2) n2] w λe w'=>
   ∃q0 d0 q1 d1 q2 d2,e=.returned (dE (.S q0 l0.length d0) n0 (.S q1 l1.length d1) n1 (.S q2 l2.length d2) n2)∧
    jC w.heap.size w' (.S q0 l0.length d0) (.S q1 l1.length d1) (.S q2 l2.length d2) l0 l1 l2/\Bw w w':=by
 have hR0:=λ(w':World)(hb:Bw w w')=>h0.below hb;have vd:=λ(w':World)(hb:Bw w w')=>h1.below hb;have Z8:=λ(w':World)(hb:Bw w w')=>h2.below hb
 go_in
 go_wp2_with fail;refine(xJ (hR0 _ (by exact((aA.alloc ay _).alloc al _).alloc bq _)) af).mono ?_;rintro e w1⟨q0,d0,rfl,o0,aG⟩
 let⟨jt,YO⟩:=xB aG
 have z1:w.heap.size+1+1<w1.heap.size:=by have:=aG.size;simp at this;omega
 have z1':w.heap.size<w1.heap.size:=af;have co6:w.heap.size+1<w1.heap.size:=af;have b1:Bw w w1:=((((aA.alloc ay _).alloc al _).alloc bq _)).trans (aG.mono bq);replace o0:Own (w.heap.size+3) w1 (.S q0 l0.length d0) l0:=by simpa using o0
 go_wp2_with fail;refine(xJ (vd _ (by exact(b1.setCell bq _).setCell bq _)) af).mono ?_;rintro e w2⟨q1,d1,rfl,o1,aK⟩
 let⟨ku,Xq⟩:=xB aK
 have z2:w1.heap.size<=w2.heap.size:=by have:=aK.size;simp at this;omega
 have b2:Bw w w2:=((b1.setCell bq _).setCell bq _).trans (aK.mono bq);have o0':Own (w.heap.size+3) w2 (.S q0 l0.length d0) l0:=Own.below ((o0.set al _).set al _) aK;replace o1:Own w1.heap.size w2 (.S q1 l1.length d1) l1:=by simpa using o1
 go_wp2_with fail;refine(xJ (Z8 _ (by exact(b2.setCell bq _).setCell bq _)) af).mono ?_;rintro e w3⟨q2,d2,rfl,o2,br⟩
 let⟨Jw,Ht⟩:=xB br
 have z3:w2.heap.size<=w3.heap.size:=by have:=br.size;simp at this;omega
 have z2':w.heap.size+1+1<w2.heap.size:=af;have co5:w.heap.size+1<w2.heap.size:=af;have b3:Bw w w3:=((b2.setCell bq _).setCell bq _).trans (br.mono bq);have be8:Own (w.heap.size+3) w3 (.S q0 l0.length d0) l0:=Own.below ((o0'.set al _).set al _) br;have o1':Own w1.heap.size w3 (.S q1 l1.length d1) l1:=Own.below ((o1.set bq _).set bq _) br;replace o2:Own w2.heap.size w3 (.S q2 l2.length d2) l2:=by simpa using o2
 go_wp2;refine dJ (v:=dE (.S q0 l0.length d0) n0 (.S q1 l1.length d1) n1 (.S q2 l2.length d2) n2) (by simp[results,results16,go_sem,jt,ku,Jw,z1,z1',co6,z2',co5]) rfl ⟨q0,d0,q1,d1,q2,d2,rfl,?_,?_⟩;{
 refine jC.mk' (B:=w.heap.size) (B1:=w1.heap.size) (B2:=w2.heap.size) (o0.mono af) o1 (Own.mono (B:=w.heap.size+3) ?_ af) ?_ ?_ ay ay af af;{
 repeat(refine qD ?_ al _)
 exact be8};{
 repeat(refine qD ?_ bq _)
 exact o1'};{
 repeat(refine qD ?_ bq _)
 exact o2}};{
 repeat(refine ig ?_ (by simp<;>omega) _)
 exact b3}
def uo(n:Nat)(s:Int):Bool:=decide (n<=200000)&&decide (0<=s)&&decide (s<=n)
def As(a:n<=200000)(b:0<=s)(c:s<=n):uo n s=true:=by simp[uo,a,b,c]
def Cq(a:¬(n<=200000/\0<=s/\s<=n)):uo n s=false:=by
 unfold uo;rw[uM,uM];simp only[xS];omega
def Ff(h:uo n s=true):n<=200000/\0<=s/\s<=n:=by
 simp[uo]at h;omega
def jk(hn:n<=2097152):Calls prog 66 #[iZ (.S p n c) s] w (Rb (.bool (uo n s)) w):=by
 by_cases a:n<=200000;{
 by_cases b:0<=s;{
 by_cases c:s<=n;{
 rw[As a b c]
 go_in
 go_wp2;go_ret;exact⟨rfl,aA.alloc ay _⟩};{
 rw[Cq af]
 go_in
 go_wp2;go_ret;exact⟨rfl,aA.alloc ay _⟩}};{
 rw[Cq af]
 go_in
 go_wp2;go_ret;exact⟨rfl,aA.alloc ay _⟩}};{
 rw[Cq af]
 go_in
 go_wp2;go_ret;exact⟨rfl,aA.alloc ay _⟩}
def Cw(n0:Nat)(s0:Int)(n1:Nat)(s1:Int)(n2:Nat)(s2:Int):Bool:=uo n0 s0&&uo n1 s1&&uo n2 s2
def wV(h0:n0<=2097152)(h1:n1<=2097152)(h2:n2<=2097152):Calls prog 31 #[dE (.S p0 n0 c0) s0 (.S p1 n1 c1) s1 (.S p2 n2 c2) s2] w (Rb (.bool (Cw n0 s0 n1 s1 n2 s2)) w):=by
 cases e0:uo n0 s0;{
 rw[show Cw n0 s0 n1 s1 n2 s2=false by simp[Cw,e0]];have E0:Hid (uo n0 s0=false):=e0
 go_in
 go_wp2_with fail;refine(jk h0).mono ?_;rintro e w1⟨rfl,aG⟩;rw[E0.out];have b1:Bw w w1:=(aA.alloc ay _).trans (aG.mono al);go_wp2;go_ret;exact⟨rfl,b1⟩};{
 have E0:Hid (uo n0 s0=true):=e0;cases e1:uo n1 s1;{
 rw[show Cw n0 s0 n1 s1 n2 s2=false by simp[Cw,e1]];have E1:Hid (uo n1 s1=false):=e1
 go_in
 go_wp2_with fail;refine(jk h0).mono ?_;rintro e w1⟨rfl,aG⟩;rw[E0.out]
 let⟨jt,YO⟩:=xB aG
 go_wp2_with fail;refine(jk h1).mono ?_;rintro e w2⟨rfl,aK⟩;rw[E1.out];replace aK:=aj aG aK;have b2:Bw w w2:=(aA.alloc ay _).trans (aK.mono al);go_wp2;go_ret;exact⟨rfl,b2⟩};{
 rw[show Cw n0 s0 n1 s1 n2 s2=uo n2 s2 by simp[Cw,e0,e1]];have E1:Hid (uo n1 s1=true):=e1
 go_in
 go_wp2_with fail;refine(jk h0).mono ?_;rintro e w1⟨rfl,aG⟩;rw[E0.out]
 let⟨jt,YO⟩:=xB aG
 go_wp2_with fail;refine(jk h1).mono ?_;rintro e w2⟨rfl,aK⟩;rw[E1.out];replace aK:=aj aG aK
 let⟨ku,Xq⟩:=xB aK
 go_wp2_with fail;refine(jk h2).mono ?_;rintro e w3⟨rfl,br⟩;replace br:=aj aK br;have b3:Bw w w3:=(aA.alloc ay _).trans (br.mono al);go_wp2;go_ret;exact⟨rfl,b3⟩}}
def vg(p0 p1 p2:OA)(c0:Nat)(c1:Nat)(c2:Nat)(e0:v0=.S p0 n0 c0)(e1:v1=.S p1 n1 c1)(e2:v2=.S p2 n2 c2):Calls prog 50 #[dE v0 s0 v1 s1 v2 s2] w (Rb (dE v0 s0 v1 s1 v2 s2) w):=by
 subst e0 e1 e2
 go_in
 go_wp2;refine dJ (v:=dE (.S p0 n0 c0) s0 (.S p1 n1 c1) s1 (.S p2 n2 c2) s2) (by simp[results,results50,go_sem]) rfl ⟨rfl,?_⟩
 repeat(refine ig ?_ al _)
 exact(aA.alloc ay _).alloc al _
def iE(hn:n<=2097152):Calls prog 149 #[iZ (.S p n c) s] w (Rb (.bool (uo n s)) w):=by
 by_cases a:n<=200000;{
 by_cases b:0<=s;{
 by_cases c:s<=n;{
 rw[As a b c]
 go_in
 go_wp2;go_ret;exact⟨rfl,aA.alloc ay _⟩};{
 rw[Cq af]
 go_in
 go_wp2;go_ret;exact⟨rfl,aA.alloc ay _⟩}};{
 rw[Cq af]
 go_in
 go_wp2;go_ret;exact⟨rfl,aA.alloc ay _⟩}};{
 rw[Cq af]
 go_in
 go_wp2;go_ret;exact⟨rfl,aA.alloc ay _⟩}
def aP6(h:uo n0 s0=false):Cw n0 s0 n1 s1 n2 s2=false:=by simp[Cw,h]
def aP5(h:uo n1 s1=false):Cw n0 s0 n1 s1 n2 s2=false:=by simp[Cw,h]
def aP4(h:uo n2 s2=false):Cw n0 s0 n1 s1 n2 s2=false:=by simp[Cw,h]
def vM(a:uo n0 s0=true)(b:uo n1 s1=true)(c:uo n2 s2=true):Cw n0 s0 n1 s1 n2 s2=true:=by simp[Cw,a,b,c]
def vf(h0:n0<=2097152)(h1:n1<=2097152)(h2:n2<=2097152):Calls prog 87 #[dE (.S p0 n0 c0) s0 (.S p1 n1 c1) s1 (.S p2 n2 c2) s2] w (Rb (.bool (Cw n0 s0 n1 s1 n2 s2)) w):=by
 have i0:∀w:World,(Instr.index 90 (dE (.S p0 n0 c0) s0 (.S p1 n1 c1) s1 (.S p2 n2 c2) s2) (.I 0)).run prog w=.ok (iZ (.S p0 n0 c0) s0) w:=λ_=>bg;have i1:∀w:World,(Instr.index 90 (dE (.S p0 n0 c0) s0 (.S p1 n1 c1) s1 (.S p2 n2 c2) s2) (.I 1)).run prog w=.ok (iZ (.S p1 n1 c1) s1) w:=λ_=>bg;have i2:∀w:World,(Instr.index 90 (dE (.S p0 n0 c0) s0 (.S p1 n1 c1) s1 (.S p2 n2 c2) s2) (.I 2)).run prog w=.ok (iZ (.S p2 n2 c2) s2) w:=λ_=>bg
 go_in
 go_wp2
 go_loopw[6](λi wr=>Bw w wr/\(i=.I 0\/(i=.I 1/\uo n0 s0=true)\/(i=.I 2/\uo n0 s0=true/\uo n1 s1=true)\/(i=.I 3/\uo n0 s0=true/\uo n1 s1=true/\uo n2 s2=true))) (λi _=>3-(intOf i).toNat)
 exact⟨aA.alloc ay _,.inl rfl⟩;{
 obtain⟨aM,rfl|⟨rfl,f0⟩|⟨rfl,f0,f1⟩|⟨rfl,f0,f1,f2⟩⟩:=hrel;{
 skip
 cases e0:uo n0 s0;{have E:=ag (aP6 (n0:=n0) (n1:=n1) (n2:=n2) (s0:=s0) (s1:=s1) (s2:=s2) e0);have E':=ag e0;go_wp2_with fail;refine(iE h0).mono ?_;rintro e w1⟨rfl,aG⟩;rw[ae E'];have b1:Bw w w1:=(aM.alloc aM.size _).trans (aG.mono (by have:=aM.size;simp;omega));go_wp2;go_ret;exact⟨by rw[ae E];rfl,b1⟩};{
 have E':=ag e0;go_wp2_with fail;refine(iE h0).mono ?_;rintro e w1⟨rfl,aG⟩;rw[ae E'];have b1:Bw w w1:=(aM.alloc aM.size _).trans (aG.mono (by have:=aM.size;simp;omega));go_wp2;go_roundw;exact⟨b1,.inr (.inl ⟨rfl,by trivial⟩)⟩
 case measure=>simp[intOf]}}
 {
 have F0:=ag f0;clear f0;cases e1:uo n1 s1;{have E:=ag (aP5 (n0:=n0) (n1:=n1) (n2:=n2) (s0:=s0) (s1:=s1) (s2:=s2) e1);have E':=ag e1;go_wp2_with fail;refine(iE h1).mono ?_;rintro e w1⟨rfl,aG⟩;rw[ae E'];have b1:Bw w w1:=(aM.alloc aM.size _).trans (aG.mono (by have:=aM.size;simp;omega));go_wp2;go_ret;exact⟨by rw[ae E];rfl,b1⟩};{
 have E':=ag e1;go_wp2_with fail;refine(iE h1).mono ?_;rintro e w1⟨rfl,aG⟩;rw[ae E'];have b1:Bw w w1:=(aM.alloc aM.size _).trans (aG.mono (by have:=aM.size;simp;omega));go_wp2;go_roundw;exact⟨b1,.inr (.inr (.inl ⟨rfl,F0,by trivial⟩))⟩
 case measure=>simp[intOf]}}
 {
 have F0:=ag f0;have F1:=ag f1;clear f0 f1;cases e2:uo n2 s2;{have E:=ag (aP4 (n0:=n0) (n1:=n1) (n2:=n2) (s0:=s0) (s1:=s1) (s2:=s2) e2);have E':=ag e2;go_wp2_with fail;refine(iE h2).mono ?_;rintro e w1⟨rfl,aG⟩;rw[ae E'];have b1:Bw w w1:=(aM.alloc aM.size _).trans (aG.mono (by have:=aM.size;simp;omega));go_wp2;go_ret;exact⟨by rw[ae E];rfl,b1⟩};{
 have E':=ag e2;go_wp2_with fail;refine(iE h2).mono ?_;rintro e w1⟨rfl,aG⟩;rw[ae E'];have b1:Bw w w1:=(aM.alloc aM.size _).trans (aG.mono (by have:=aM.size;simp;omega));go_wp2;go_roundw;exact⟨b1,.inr (.inr (.inr ⟨rfl,F0,F1,by trivial⟩))⟩
 case measure=>simp[intOf]}}
 {have E:=ag (vM f0 f1 f2);go_wp2;go_ret;exact⟨by rw[ae E];rfl,aM⟩}}
def xr(h0:n0<=2097152)(h1:n1<=2097152)(h2:n2<=2097152):Calls prog 43 #[dE (.S p0 n0 c0) s0 (.S p1 n1 c1) s1 (.S p2 n2 c2) s2] w (Rb (.bool (Cw n0 s0 n1 s1 n2 s2)) w):=by
 go_in
 go_wp2_with fail;refine(vg p0 p1 p2 (n0:=n0) c0 (n1:=n1) c1 (n2:=n2) c2 rfl rfl rfl).mono ?_;rintro e w1⟨rfl,aG⟩;have b1:Bw w w1:=(aA.alloc ay _).trans (aG.mono al);go_wp2_with fail;refine(vf h0 h1 h2).mono ?_;rintro e w2⟨rfl,aK⟩;have b2:=aj b1 aK;go_wp2;go_ret;exact⟨rfl,b2⟩
def jC.below(h:jC B w v0 v1 v2 l0 l1 l2)(hb:Bw w w'):jC B w' v0 v1 v2 l0 l1 l2:=
 ⟨Own.below h.o0 hb,Own.below h.o1 hb,Own.below h.o2 hb,h.n01,h.n02,h.n12⟩
def sP(h:Own B w (.S p l.length c) l)(hl:Mg l.length)(k0:0<=k)(k1:k<=100000000):Calls prog 57 #[iZ (.S p l.length c) s,.I k] w λe w'=>e=.returned (.I (k+l.length))/\Own B w' (.S p l.length c) (marks k l.length)/\Kept [.S p l.length c] w w':=by
 have hR:=λ(w':World)(hb:Bw w w')=>Own.below h hb
 go_in
 go_wp2_with fail;refine(Jd (hR _ (by exact aA.alloc ay _)) af k0 k1).mono ?_;rintro e w1⟨rfl,ho,hg⟩;have hk:Kept [.S p l.length c] w w1:=(Kept.dR (aA.alloc ay _)).trans (Kept.Gk hg al);go_wp2;go_ret;exact⟨rfl,ho,hk⟩
def tp(h:Rd w (.S p n c) (marks k n))(hl:Mg n)(k0:0<=k)(k1:k<=100000000):Calls prog 60 #[iZ (.S p n c) s,.I k] w (Rb (.I (k+n)) w):=by
 have hR:=λ(w':World)(hb:Bw w w')=>Rd.below h hb
 go_in
 go_wp2_with fail;refine(Jv (hR _ (by exact aA.alloc ay _)) af k0 k1).mono ?_;rintro e w1⟨rfl,aG⟩;have b1:Bw w w1:=(aA.alloc ay _).trans (aG.mono al);go_wp2;go_ret;exact⟨rfl,b1⟩
abbrev vt(w:World)(b:Nat)(v0 v1 v2 v3 v4 v5:Value):Prop:=
 w.cell? (Ad b 0)=some v0/\w.cell? (Ad b 1)=some v1/\w.cell? (Ad b 2)=some v2/\w.cell? (Ad b 3)=some v3/\w.cell? (Ad b 4)=some v4/\w.cell? (Ad b 5)=some v5
def vt.below{v4 v5:Value}(h:vt w b v0 v1 v2 v3 v4 v5)(hb:Bw w w'):vt w' b v0 v1 v2 v3 v4 v5:=
 ⟨ah h.1 hb,ah h.2.1 hb,ah h.2.2.1 hb,ah h.2.2.2.1 hb,ah h.2.2.2.2.1 hb,ah h.2.2.2.2.2 hb⟩
def MB(B:Nat)(p0 p1 p2:OA)(c0 c1 c2:Nat)(s0 s1 s2:Int)(l0 l1 l2:LI)(k:Int)(w:World)(h:jC B w (.S p0 l0.length c0) (.S p1 l1.length c1) (.S p2 l2.length c2) l0 l1 l2)(m0:Mg l0.length)(m1:Mg l1.length)(m2:Mg l2.length)(k0:0<=k)(k1:k<=90000000):Calls prog 24 #[dE (.S p0 l0.length c0) s0 (.S p1 l1.length c1) s1 (.S p2 l2.length c2) s2,.I k] w λe w'=>e=.returned (.I (k+l0.length+l1.length+l2.length))∧
   jC B w' (.S p0 l0.length c0) (.S p1 l1.length c1) (.S p2 l2.length c2) (marks k l0.length) (marks (k+l0.length) l1.length) (marks (k+l0.length+l1.length) l2.length)∧
   Kept [.S p0 l0.length c0,.S p1 l1.length c1,.S p2 l2.length c2] w w':=by
 have b0:∀o:Obj,Bw w (w.alloc o):=λo=>aA.alloc ay _;have hR:=λ(w':World)(hb:Bw w w')=>jC.below h hb;have t0:=h.o0.lt;have t1:=h.o1.lt;have t2:=h.o2.lt;have N:=h
 go_in
 go_wp2_with fail;have h1:=hR _ (b0 (.cells #[.S p0 l0.length c0,.I s0,.S p1 l1.length c1,.I s1,.S p2 l2.length c2,.I s2] 37));refine(sP (B:=B) (p:=p0) (c:=c0) (l:=l0) (s:=s0) (k:=k) h1.o0 m0 k0 af).mono ?_;rintro e w1⟨rfl,o0,g1⟩;have jt:=g1.cellAt (b:=w.heap.size) al (by intro v hv e;simp only[nE]at hv;subst hv;have:=t0 _ e;omega);have o1:=Own.td h1.o1 g1 (by intro u hu b e;simp only[nE]at hu;subst hu;intro e';exact N.n01 b e' e);have o2:=Own.td h1.o2 g1 (by intro u hu b e;simp only[nE]at hu;subst hu;intro e';exact N.n02 b e' e);have z1:w.heap.size<w1.heap.size:=by have:=g1.size;simp at this;omega
 go_wp2_with fail;refine(sP (B:=B) (p:=p1) (c:=c1) (l:=l1) (s:=s1) o1 m1 af af).mono ?_;rintro e w2⟨rfl,o1',g2⟩;have ku:=g2.cellAt (b:=w.heap.size) z1 (by intro v hv e;simp only[nE]at hv;subst hv;have:=t1 _ e;omega);have o0':=Own.td (l:=marks k l0.length) o0 g2 (by intro u hu b e;simp only[nE]at hu;subst hu;intro e';exact N.n01 b e e');have o2':=Own.td o2 g2 (by intro u hu b e;simp only[nE]at hu;subst hu;intro e';exact N.n12 b e' e);have z2:w.heap.size<w2.heap.size:=aI g2.size;go_wp2_with fail;refine(sP (B:=B) (p:=p2) (c:=c2) (l:=l2) (s:=s2) o2' m2 af af).mono ?_;rintro e w3⟨rfl,ct0,g3⟩;have be8:=Own.td (l:=marks k l0.length) o0' g3 (by intro u hu b e;simp only[nE]at hu;subst hu;intro e';exact N.n02 b e e');have ct1:=Own.td (l:=marks (k+l0.length) l1.length) o1' g3 (by intro u hu b e;simp only[nE]at hu;subst hu;intro e';exact N.n12 b e e');have hk:Kept [.S p0 l0.length c0,.S p1 l1.length c1,.S p2 l2.length c2] w w3:=
  ((Kept.dR (b0 _)).trans (g1.more al)).trans ((g2.more al).trans (g3.more al))
 go_wp2;go_ret;exact⟨rfl,⟨be8,ct1,ct0,N.n01,N.n02,N.n12⟩,hk⟩
def Nc(p0 p1 p2:OA)(c0 c1 c2 n0 n1 n2:Nat)(s0 s1 s2:Int)(k:Int)(w:World)(h0:Rd w (.S p0 n0 c0) (marks k n0))(h1:Rd w (.S p1 n1 c1) (marks (k+n0) n1))(h2:Rd w (.S p2 n2 c2) (marks (k+n0+n1) n2))(m0:Mg n0)(m1:Mg n1)(m2:Mg n2)(k0:0<=k)(k1:k<=90000000):Calls prog 26 #[dE (.S p0 n0 c0) s0 (.S p1 n1 c1) s1 (.S p2 n2 c2) s2,.I k] w (Rb (.I (k+n0+n1+n2)) w):=by
 have hR0:=λ(w':World)(hb:Bw w w')=>h0.below hb;have vd:=λ(w':World)(hb:Bw w w')=>h1.below hb;have Z8:=λ(w':World)(hb:Bw w w')=>h2.below hb
 go_in
 go_wp2_with fail;refine(tp (hR0 _ (by exact aA.alloc ay _)) m0 k0 af).mono ?_;rintro e w1⟨rfl,aG⟩;have b1:Bw w w1:=(aA.alloc ay _).trans (aG.mono al)
 let⟨jt,YO⟩:=xB aG
 go_wp2_with fail;refine(tp (vd _ b1) m1 af af).mono ?_;rintro e w2⟨rfl,aK⟩;replace aK:=aj aG aK;have b2:Bw w w2:=(aA.alloc ay _).trans (aK.mono al)
 let⟨ku,Xq⟩:=xB aK
 go_wp2_with fail;refine(tp (Z8 _ b2) m2 af af).mono ?_;rintro e w3⟨rfl,br⟩;replace br:=aj aK br;have b3:Bw w w3:=(aA.alloc ay _).trans (br.mono al);go_wp2;go_ret;exact⟨rfl,b3⟩
def fmF(se pa:Bool)(lo hi vs:Int)(sq:Bool)(s f:Int)(np nv:Nat)(e g:Int):Bool:=
 (se||s==0)&&((pa||np==0)&&(decide (lo<=f)&&(decide (f<=hi)&&(decide ((nv:Int)<=vs)&&(sq||(e==0&&g==0))))))
def Hi(h:1<=k/\k<=13):Calls prog 185 #[.I k] w λe w'=>e=.returned (.bool (decide (k=2\/k=3\/k=4\/k=5\/k=7\/k=8\/k=9\/k=10\/k=11\/k=12)))/\w'=w:=by
 have:k=1\/k=2\/k=3\/k=4\/k=5\/k=6\/k=7\/k=8\/k=9\/k=10\/k=11\/k=12\/k=13:=by omega
 rcases this with rfl|rfl|rfl|rfl|rfl|rfl|rfl|rfl|rfl|rfl|rfl|rfl|rfl
 all_goals(go_in;go_wp2;go_ret;exact⟨rfl,rfl⟩)
def Q8(h:1<=k/\k<=13):Calls prog 186 #[.I k] w λe w'=>e=.returned (.bool (decide (k=4\/k=5\/k=6\/k=7\/k=8\/k=9\/k=10\/k=11\/k=13)))/\w'=w:=by
 have:k=1\/k=2\/k=3\/k=4\/k=5\/k=6\/k=7\/k=8\/k=9\/k=10\/k=11\/k=12\/k=13:=by omega
 rcases this with rfl|rfl|rfl|rfl|rfl|rfl|rfl|rfl|rfl|rfl|rfl|rfl|rfl
 all_goals(go_in;go_wp2;go_ret;exact⟨rfl,rfl⟩)
def Jj(h:1<=k/\k<=13):Calls prog 141 #[.I k] w λe w'=>e=.returned (.bool (decide (k=1\/k=3\/k=4\/k=5\/k=7\/k=8\/k=9)))/\w'=w:=by
 have:k=1\/k=2\/k=3\/k=4\/k=5\/k=6\/k=7\/k=8\/k=9\/k=10\/k=11\/k=12\/k=13:=by omega
 rcases this with rfl|rfl|rfl|rfl|rfl|rfl|rfl|rfl|rfl|rfl|rfl|rfl|rfl
 all_goals(go_in;go_wp2;go_ret;exact⟨rfl,rfl⟩)
def z0(s:Int):s=0\/(s != 0)=true:=(zO (s=0)).imp id (λh=>by simp[h])
def zn(n:Nat):n=0\/((n:Int) != 0)=true:=(zO (n=0)).imp id (λh=>by simp[h])
def zf(a f:Int):f=a\/(f==a)=false:=(zO (f=a)).imp id (λh=>by simp[h])
def rowOf:Nat->Bool×Bool×Int×Int×Int×Bool×Bool
 |1=>(false,false,0,0,0,false,true)
 |2=>(true,false,0,0,0,false,false)
 |3=>(true,false,0,0,0,false,true)
 |4=>(true,true,0,1,40,false,true)
 |5=>(true,true,0,0,0,false,true)
 |6=>(false,true,0,0,0,false,false)
 |7=>(true,true,0,0,40,false,true)
 |8=>(true,true,1,2,0,false,true)
 |9=>(true,true,0,0,0,false,true)
 |10=>(true,true,0,0,0,true,false)
 |11=>(true,true,0,0,0,false,false)
 |12=>(true,false,0,0,0,false,false)
 |13=>(false,true,0,0,0,false,false)
 |_=>(false,false,0,0,0,false,false)
def Fg(k:Nat)(s f:Int)(n m:Nat)(e g:Int):Bool:=fmF (rowOf k).1 (rowOf k).2.1 (rowOf k).2.2.1 (rowOf k).2.2.2.1 (rowOf k).2.2.2.2.1 (rowOf k).2.2.2.2.2.1 s f n m e g
def joR(k:Nat):Bool:=(rowOf k).2.2.2.2.2.2
def kinds{k:Nat}(h1:1<=k)(h2:k<=13):k=1\/k=2\/k=3\/k=4\/k=5\/k=6\/k=7\/k=8\/k=9\/k=10\/k=11\/k=12\/k=13:=by omega
def au3(h1:1<=k)(h2:k<=13){f:Int}{B:Bool}(eB:Hid (Fg k.toNat s f n m e g=B)):Calls prog 140 #[zl k s (.S p n c) f (.S q m d) e g] w (Rb (.bool B) w):=by
 have:k=1\/k=2\/k=3\/k=4\/k=5\/k=6\/k=7\/k=8\/k=9\/k=10\/k=11\/k=12\/k=13:=by omega
 clear h1 h2;rcases this with rfl|rfl|rfl|rfl|rfl|rfl|rfl|rfl|rfl|rfl|rfl|rfl|rfl;rcases z0 s with rfl|hs;rcases zn n with rfl|hp;rcases z0 e with rfl|he;rcases z0 g with rfl|hg;rcases zn m with rfl|hv;rcases zf 0 f with rfl|hf;rotate_left 7;rcases zn n with rfl|hp;rcases z0 e with rfl|he;rcases z0 g with rfl|hg;rcases zn m with rfl|hv;rcases zf 0 f with rfl|hf;rotate_left 6;rcases zn n with rfl|hp;rcases z0 e with rfl|he;rcases z0 g with rfl|hg;rcases zn m with rfl|hv;rcases zf 0 f with rfl|hf;rotate_left 6;rcases z0 e with rfl|he;rcases z0 g with rfl|hg;rcases(zO ((40:Int)<(m:Int))).symm with hv|hv;rcases zf 0 f with rfl|hf;rotate_left;rcases zf 1 f with rfl|hh;rotate_left 5;rcases z0 e with rfl|he;rcases z0 g with rfl|hg;rcases zn m with rfl|hv;rcases zf 0 f with rfl|hf;rotate_left 5;rcases z0 s with rfl|hs;rcases z0 e with rfl|he;rcases z0 g with rfl|hg;rcases zn m with rfl|hv;rcases zf 0 f with rfl|hf;rotate_left 6;rcases z0 e with rfl|he;rcases z0 g with rfl|hg;rcases(zO ((40:Int)<(m:Int))).symm with hv|hv;rcases zf 0 f with rfl|hf;rotate_left 5;rcases z0 e with rfl|he;rcases z0 g with rfl|hg;rcases zn m with rfl|hv;rcases zf 1 f with rfl|hf;rotate_left;rcases zf 2 f with rfl|hh;rotate_left 5;rcases z0 e with rfl|he;rcases z0 g with rfl|hg;rcases zn m with rfl|hv;rcases zf 0 f with rfl|hf;rotate_left 5;rcases zn m with rfl|hv;rcases zf 0 f with rfl|hf;rotate_left 3;rcases z0 e with rfl|he;rcases z0 g with rfl|hg;rcases zn m with rfl|hv;rcases zf 0 f with rfl|hf;rotate_left 5;rcases zn n with rfl|hp;rcases z0 e with rfl|he;rcases z0 g with rfl|hg;rcases zn m with rfl|hv;rcases zf 0 f with rfl|hf;rotate_left 6;rcases z0 s with rfl|hs;rcases z0 e with rfl|he;rcases z0 g with rfl|hg;rcases zn m with rfl|hv;rcases zf 0 f with rfl|hf;rotate_left 6
 all_goals(cases B<;>first|(exfalso;have h:=ae eB;clear eB;simp_all[Fg,fmF,rowOf]<;>omega)|clear eB)
 all_goals(go_in;go_wp2_with fail;refine(Hi bj).mono ?_;rintro r w'⟨rfl,rfl⟩;(try(go_wp2_with fail;refine(Q8 bj).mono ?_;rintro r w'⟨rfl,rfl⟩));go_wp2;go_ret;exact⟨rfl,aA.alloc ay _⟩)
def Hy{f:Int}(hk:k<1\/13<k):Calls prog 140 #[zl k s (.S p n c) f (.S q m d) e g] w (Rb (.bool false) w):=by
 rcases hk with h1|h2;{
 go_in
 go_wp2;go_ret;exact⟨rfl,aA.alloc ay _⟩};{
 have h3:¬k<1:=af
 go_in
 go_wp2;go_ret;exact⟨rfl,aA.alloc ay _⟩}
variable {k:Nat}
def Hz(h1:1<=k)(h2:k<=13){f:Int}{B:Bool}(eB:Hid (Fg k s f n m e g=B)):Calls Tryz.prog 140 #[zl k s (.S p n c) f (.S q m d) e g] w (Rb (.bool B) w):=
 au3 af af (p:=p) (q:=q) (c:=c) (d:=d) (w:=w) eB
def Dq(h1:1<=k)(h2:k<=13):Calls Tryz.prog 141 #[.I k] w λr w'=>r=.returned (.bool (joR k))/\w'=w:=by
 have h:=Jj (k:=k) af (w:=w);rcases kinds h1 h2 with rfl|rfl|rfl|rfl|rfl|rfl|rfl|rfl|rfl|rfl|rfl|rfl|rfl<;>exact h
theorem EP:∀(l m:LI),l.Nodup->(∀x∈l,x∈m)->l.length<=m.length
 |[],m,_,_=>gr _
 |x::l,m,hd,hs=>by rw[zG]at hd;have hx:=hs x al;have h:=EP l (m.erase x) hd.2 λy hy=>(List.mem_erase_of_ne (λe=>hd.1 (by rw[<-e];exact hy))).2 (hs y (by simp[hy]));rw[List.length_erase_of_mem hx]at h;have:=aU9 hx;rw[iS];omega
theorem ax0{α:Type}[DecidableEq α](c:α)(s:List α):((dU c s).map λn=>n.length+1).sum=s.length+1:=by
 induction s with
 |nil=>rfl
 |cons x l ih=>
  rw[dU];split;{rw[iH,Kl,ih,iS,BO];omega};{
 cases h:dU c l with
 |nil=>have:=aw8 c (s:=l);rw[h]at this;simp at this
 |cons n ns=>
  rw[h]at ih;simp only[iH,Kl,iS]at ih⊢;omega}
theorem ac9(C:Nat):∀l:List Nat,(∀x∈l,x<=C)->l.sum<=C*l.length
 |[],_=>gr _
 |x::l,h=>by have h1:=ac9 C l λy hy=>h y (by simp[hy]);have h2:=h x al;rw[Kl,iS,aj5];omega
theorem Lp{p:LI}(h:vp p=true):p.length<=136:=by
 cases p with
 |nil=>simp
 |cons c t=>
  rw[vp,st,fk,fk,jj,jw]at h;obtain⟨-,h1,h2⟩:=h;have h3:=ac9 17 ((dU 47 t).map λn=>n.length+1) (λx hx=>by obtain⟨n,hn,rfl⟩:=iR.1 hx;have:=h2 n hn;simp only[kP,fk,jj]at this;omega)
  rw[ax0,fN]at h3;rw[iS];omega
def tC(h b:Int):Int:=((h.toNat ^^^ b.toNat:Nat):Int)*16777619 % 4294967296
def NG(h:Int)(l:LI):Int:=l.foldl tC h
def ck(l:LI):Int:=NG 2166136261 l
def Zm{h b:Int}:0<=tC h b/\tC h b<4294967296:=by unfold tC;omega
def DQ(h:k<l.length):ck (l.take (k+1))=tC (ck (l.take k)) l[k]:=by
 unfold ck NG;rw[QP h,QK];rfl
def XD(l:LI):0<=ck l/\ck l<4294967296:=by
 rcases l.eq_nil_or_concat with rfl|⟨m,x,rfl⟩;{unfold ck NG;simp};{unfold ck NG;rw[List.concat_eq_append,QK];exact Zm}
def bB2{h:Nat}(h1:h<4294967296)(b1:b<256):h ^^^ b<4294967296:=
 QH (n:=32) h1 af
def bB1(k:IntKind)(hj:j<=k.bits)(hk:∀n:Int,0<=n->n<2 ^ j->k.wrap n=n)(a b:Nat)(ha:a<2 ^ j)(hb:b<2 ^ j):bits .xor k a b=((a ^^^ b:Nat):Int):=by
 have hp:2 ^ j<=2 ^ k.bits:=aj4 bj hj;have Tr:a % 2 ^ k.bits=a:=Nat.mod_eq_of_lt (iq ha hp);have bN:b % 2 ^ k.bits=b:=Nat.mod_eq_of_lt (iq hb hp);have cast:∀n:Nat,n<2 ^ j->((n:Nat):Int)<2 ^ j:=λn h=>by exact_mod_cast h
 simp only[bits,BitVec.ofInt_natCast,BitVec.toNat_xor,BitVec.toNat_ofNat,Tr,bN];exact hk _ (Int.natCast_nonneg _) (cast _ (QH ha hb))
def bU9{a:Int}(c0:0<=a)(c1:a<4294967296)(z0:0<=z)(z1:z<256):(IntKind.u64.wrap (bits .xor .u64 a z*16777619)).tmod 4294967296=tC a z:=by
 obtain⟨m,rfl⟩:=xk c0;obtain⟨n,rfl⟩:=xk z0;have hx:=bB2 (h:=m) (b:=n) af af;rw[bB1 .u64 bj wraps_u64 m n af af];unfold tC;simp only[Int.ofNat_eq_natCast,sS];generalize m ^^^ n=y at*;rw[u64_wrap_id _ af af,Int.tmod_eq_emod_of_nonneg af]
def bV0{a:Int}(c0:0<=a)(c1:a<4294967296)(z0:0<=z)(z1:z<256):IntKind.u32.wrap (bits .xor .u32 a z*16777619)=tC a z:=by
 obtain⟨m,rfl⟩:=xk c0;obtain⟨n,rfl⟩:=xk z0;rw[bB1 .u32 bj wraps_u32 m n af af,IntKind.wrap_u32];unfold tC;simp only[Int.ofNat_eq_natCast,sS]
def Uj(h:Rd w (.S p l.length c) l)(hb:aN l)(hl:l.length<=4194304):Calls prog 146 #[.S p l.length c] w (Rb (.int .u32 (ck l)) w):=by
 obtain⟨p',c',ev,h⟩:=h;obtain⟨rfl,-,rfl⟩:=ir ev
 go_in
 go_wp2
 go_loopw[3,4](λhh i wr=>∃k:Nat,k<=l.length/\i=.I k/\hh=.U (ck (l.take k))/\Bw w wr) (λ_ i _=>l.length-(intOf i).toNat)
 exact⟨0,gr _,rfl,rfl,cQ _ _⟩;{
 obtain⟨k,hk,rfl,rfl,aM⟩:=hrel
 let⟨c0,c1⟩:=XD (l.take k)
 by_cases bf:k<l.length;{
 rcases h with rfl|⟨b,o,rfl,hc⟩;{simp at bf};{
 have Dz:wr.cell? (Ad b (o+k))=some (.int .u8 l[k]):=(aM.cell (p:=(Ad b (o+k))) (nZ w _ (hc k bf))).trans (by rw[hc k bf];simp[List.getD,bf])
 let⟨z0,z1⟩:=hb l[k] (zF bf)
 have HS:=ag (DQ bf);have HM:=ag bf;clear hc hb;generalize l[k]=z at*;generalize ck (l.take k)=a at*;go_wp2;go_roundw;exact⟨k+1,af,by go_num,by rw[ae HS,bU9 c0 c1 z0 z1],aM⟩;exact cg}};{have e:k=l.length:=af;subst e;rw[rr]at*;go_wp2;go_ret;exact⟨rfl,aM⟩}}
def UW(h:Rd w (.S p l.length c) l)(hb:aN l)(hl:l.length<=4194304):Calls prog 213 #[.S p l.length c] w (Rb (.int .u32 (ck l)) w):=by
 obtain⟨p',c',ev,h⟩:=h;obtain⟨rfl,-,rfl⟩:=ir ev
 go_in
 go_wp2
 go_loopw[3,8](λhh i wr=>∃k:Nat,k<=l.length/\i=.I k/\hh=.int .u32 (ck (l.take k))/\Bw w wr) (λ_ i _=>l.length-(intOf i).toNat)
 exact⟨0,gr _,rfl,rfl,cQ _ _⟩;{
 obtain⟨k,hk,rfl,rfl,aM⟩:=hrel
 let⟨c0,c1⟩:=XD (l.take k)
 by_cases bf:k<l.length;{
 rcases h with rfl|⟨b,o,rfl,hc⟩;{simp at bf};{
 have Dz:wr.cell? (Ad b (o+k))=some (.int .u8 l[k]):=(aM.cell (p:=(Ad b (o+k))) (nZ w _ (hc k bf))).trans (by rw[hc k bf];simp[List.getD,bf])
 let⟨z0,z1⟩:=hb l[k] (zF bf)
 have HS:=ag (DQ bf);have HM:=ag bf;clear hc hb;generalize l[k]=z at*;generalize ck (l.take k)=a at*;go_wp2;go_roundw;exact⟨k+1,af,by go_num,by rw[ae HS,<-bV0 c0 c1 z0 z1,IntKind.wrap_u32],aM⟩;exact cg}};{have e:k=l.length:=af;subst e;rw[rr]at*;go_wp2;go_ret;exact⟨rfl,aM⟩}}
def le(v:Int):Nat->LI
 |0=>[]
 |n+1=>v % 256::le (v / 256) n
def dF(v:Int)(n:Nat):(le v n).length=n:=by induction n generalizing v with|zero=>rfl|succ n ih=>simp[le,ih]
theorem He(v:Int)(n:Nat):aN (le v n):=by
 induction n generalizing v with
 |zero=>intro z hz;simp[le]at hz
 |succ n ih=>
  intro z hz;simp only[le,jv]at hz;rcases hz with rfl|hz;{omega};{exact ih _ z hz}
theorem aK0(v:Int)(n:Nat):le v (n+1)=le v n++[v / 256 ^ n % 256]:=by
 induction n generalizing v with
 |zero=>simp[le]
 |succ n ih=>
  rw[le,ih,le,Ed];rw[aU8 af,WN,Int.mul_comm]
def aN.append{m:LI}(h:aN l)(k:aN m):aN (l++m):=λz hz=>by
 rcases gu.1 hz with a|a;{exact h z a};{exact k z a}
theorem pX(n:Nat)(v:Int)(w:World)(hn:n<=8)(h0:0<=v)(h1:v<2^64):Calls prog 82 #[.U v,.I n] w λe w'=>∃p c,e=.returned (.S p n c)/\Own w.heap.size w' (.S p n c) (le v n)/\Bw w w':=by
 induction n generalizing v w with
 |zero=>
  go_in
  go_wp2;go_ret;exact⟨none,0,rfl,gm _ _ _ _,cQ _ _⟩
 |succ n ih=>
  have bS:(((n+1:Nat):Int)==0)=false:=WW.2 af
  go_in
  go_wp2_with fail;refine(ih (v / 256) _ af af af).mono ?_;rintro e w1⟨p1,c1,rfl,o1,aG⟩;have b1:Bw w w1:=aj (aA.alloc ay _) aG;have o2:Own w.heap.size w1 (.T w.heap.size 1 1) [v % 256]:=Own.below (Own.one w (v % 256)) aG;have r1:=o1.rd;have hz:=b1.size;clear o1 aG;go_wp2_with(at_builtin;refine bQ rfl rfl (.T w.heap.size 1 1) (lm:=le v (n+1)) bD p1 c1 n (by show _=_;exact dF _ _) rfl rfl o2 r1 (by rw[dF];simp;omega) hz ?_);intro p' c' w2 ho hg;have b2:=dA b1 hg o2 ay hz;rw[dF]at ho⊢;clear b1 hg o2 r1;go_wp2;go_ret;exact⟨p',c',rfl,ho,b2⟩
def kW{v:Int}(hn:n<=8)(h0:0<=v)(h1:v<2^64):Calls prog 169 #[.U v,.I n] w λe w'=>∃p c,e=.returned (.S p n c)/\Own w.heap.size w' (.S p n c) (le v n)/\Bw w w':=by
 go_in
 go_wp2
 go_loopw[0,5,7](λnn ov i wr=>∃(k:Nat)(p:OA)(c:Nat)(l:LI)(u:Int),k<=n/\i=.I k/\nn=.U u/\Hid (u=v / 256 ^ k)/\0<=u/\u<2^64/\Hid (l=le v k)/\l.length=k/\ov=.S p k c/\Own w.heap.size wr (.S p k c) l/\Bw w wr) (λ_ _ i _=>n-(intOf i).toNat)
 exact⟨0,none,0,[],v,gr _,rfl,rfl,by show _=_;simp,h0,h1,rfl,rfl,rfl,gm _ _ _ _,cQ _ _⟩;{
 obtain⟨k,p,c,l,u,hk,rfl,rfl,eu,u0,u1,el,hl,rfl,ho,aM⟩:=hrel;by_cases bf:k<n;{
 let⟨lm,aP1⟩:=aB (l++[u % 256])
 have Va:lm.length=k+1:=by simp[aP1,hl]
 have HLM:=ag Va;have el2:Hid (lm=le v (k+1)):=by show _=_;rw[aP1,ae el,ae eu,aK0]
 have eu2:Hid (u / 256=v / 256 ^ (k+1)):=by show _=_;rw[ae eu,aU8 (Int.pow_nonneg af),WN]
 have wo:=ag aP1;clear Va el aP1 eu;go_wp2_with(at_builtin;refine fe rfl rfl (.S p k c) wo wr.heap.size rfl rfl (Own.below ho (aA.alloc ay _)) al af (by have:=aM.size;simp;omega) ?_);intro p' c' w2 qy gI;have b2:Bw w w2:=(aM.alloc aM.size (.cells #[.int .u8 (u % 256)] 5)).grown gI (by have:=aM.size;simp;omega) (λk hk=>(ho.lt k hk).1);simp only[ae HLM];have ho3:Own w.heap.size w2 (.S p' (k+1) c') lm:=by have h2:=qy;simp only[ae HLM]at h2;exact h2
 clear qy gI ho aM hl wo;go_wp2;go_roundw;exact⟨k+1,p',c',lm,u / 256,af,by go_num,by first|rfl|go_num,eu2,af,af,el2,HLM,rfl,ho3,b2⟩;exact cg};{have e:k=n:=af;subst e;rw[ae el]at ho;clear el hl eu;go_wp2;go_ret;exact⟨p,c,rfl,ho,aM⟩}}
def cO8(a b c:LI):cat [a,b,c]=a++b++c:=by simp[cat]
def cO7(a b c d:LI):cat [a,b,c,d]=a++b++c++d:=by simp[cat]
def sm(l:LI):LI:=l++le (ck l) 4
def vD:(sm l).length=l.length+4:=by simp[sm,dF]
def ae1(h:aN l):aN (sm l):=h.append (He _ _)
variable {g:Nat}
theorem be5(c0:w.cell? (Ad g 0)=some v0)(c1:w.cell? (Ad g 1)=some v1)(c2:w.cell? (Ad g 2)=some v2)(r0:Rd w v0 l0)(r1:Rd w v1 l1)(r2:Rd w v2 l2):lh w g [v0,v1,v2] [l0,l1,l2]:=by
 refine⟨rfl,λj v x e1 e2=>?_⟩
 match j,e1,e2 with
 |0,e1,e2=>simp at e1 e2;subst e1 e2;exact⟨c0,r0⟩
 |1,e1,e2=>simp at e1 e2;subst e1 e2;exact⟨c1,r1⟩
 |2,e1,e2=>simp at e1 e2;subst e1 e2;exact⟨c2,r2⟩
theorem be4{l3:LI}(c0:w.cell? (Ad g 0)=some v0)(c1:w.cell? (Ad g 1)=some v1)(c2:w.cell? (Ad g 2)=some v2)(c3:w.cell? (Ad g 3)=some v3)(r0:Rd w v0 l0)(r1:Rd w v1 l1)(r2:Rd w v2 l2)(r3:Rd w v3 l3):lh w g [v0,v1,v2,v3] [l0,l1,l2,l3]:=by
 refine⟨rfl,λj v x e1 e2=>?_⟩
 match j,e1,e2 with
 |0,e1,e2=>simp at e1 e2;subst e1 e2;exact⟨c0,r0⟩
 |1,e1,e2=>simp at e1 e2;subst e1 e2;exact⟨c1,r1⟩
 |2,e1,e2=>simp at e1 e2;subst e1 e2;exact⟨c2,r2⟩
 |3,e1,e2=>simp at e1 e2;subst e1 e2;exact⟨c3,r3⟩
def Fq(en:Le l n)(h:Rd w (.S p n c) l)(hb:aN l)(hl:n<=2097152):Calls prog 170 #[.S p n c] w λe w'=>∃p' c',e=.returned (.S p' (n+4) c')/\Own w.heap.size w' (.S p' (n+4) c') (sm l)/\Bw w w':=by
 have e1:=ae en;subst e1
 let⟨k0,k1⟩:=XD l
 go_in
 go_wp2_with fail;refine(UW (p:=p) (c:=c) (l:=l) h hb af).mono ?_;rintro e w1⟨rfl,b1⟩;go_wp2_with fail;refine(kW (n:=4) (v:=ck l) af k0 af).mono ?_;rintro e w2⟨p2,c2,rfl,o2,aK⟩;have b2:=aj b1 aK;have r0:=h.below b2;have r2:=o2.rd;clear h b1 aK o2;go_wp2_with fail;refine(fK (g:=w2.heap.size) (vs:=[.S p l.length c,.S p2 4 c2]) [l,le (ck l) 4] (lm:=sm l) (n:=l.length+4) 2 rfl (by show _=_;rw[NN];rfl) (by show _=_;exact vD (l:=l)) (ag4 al al (r0.below (aA.alloc ay _)) (r2.below (aA.alloc ay _))) af af).mono ?_;rintro e w3⟨p3,c3,rfl,o3,br⟩;have b3:=aj (b2.alloc b2.size _) br;have o4:Own w.heap.size w3 (.S p3 (l.length+4) c3) (sm l):=Own.mono o3 (by have:=b2.size;simp;omega);clear r0 r2 b2 br o3;go_wp2;go_ret;exact⟨p3,c3,rfl,o4,b3⟩
def FE(en:Le l n)(h:Rd w (.S p n c) l)(hb:aN l)(hl:n<=2097152):Calls prog 83 #[.S p n c] w λe w'=>∃p' c',e=.returned (.S p' (n+4) c')/\Own w.heap.size w' (.S p' (n+4) c') (sm l)/\Bw w w':=by
 have e1:=ae en;subst e1
 let⟨k0,k1⟩:=XD l
 go_in
 go_wp2_with fail;refine(xZ h af).mono ?_;rintro e w1⟨p1,c1,rfl,o1,b1⟩;go_wp2_with fail;refine(Uj (h.below b1) hb af).mono ?_;rintro e w2⟨rfl,aK⟩;have b2:=aj b1 aK;have o2:=Own.below o1 aK;clear h b1 aK o1;go_wp2_with fail;refine(pX 4 (ck l) _ af k0 af).mono ?_;rintro e w3⟨p3,c3,rfl,o3,br⟩;have b3:=aj b2 br;have o4:=Own.below o2 br;have r3:=o3.rd;have hz:=b3.size;clear b2 br o2 o3;go_wp2_with(at_builtin;refine bQ rfl rfl (.S p1 l.length c1) (lm:=sm l) bD p3 c3 4 (by show _=_;exact dF _ _) rfl rfl o4 r3 (by rw[dF];omega) hz ?_);intro p' c' w5 ho hg;have b5:=dA b3 hg o4 ay hz;rw[vD]at ho⊢;clear b3 hg o4 r3;go_wp2;go_ret;exact⟨p',c',rfl,ho,b5⟩
abbrev yY(s:Int)(v:Value):Value:=.agg #[.U s,v]
def kJ(s:Int)(l:LI):LI:=le l.length 2++le s 8++l
def DY(s:Int)(l:LI):LI:=sm (kJ s l)
def Cd:LI:=[76,72,83,49]
def mP:Cd.length=4:=rfl
def iP(s:Int)(l:LI):LI:=Cd++le s 8++le l.length 4++l
def dD(s:Int)(l:LI):LI:=sm (iP s l)
def kI(s:Int)(l:LI):(kJ s l).length=l.length+10:=by simp[kJ,dF];omega
def CQ(s:Int)(l:LI):(DY s l).length=l.length+14:=by rw[DY,vD,kI]
def jL(s:Int)(l:LI):(iP s l).length=l.length+16:=by simp[iP,dF,mP];omega
def ji(s:Int)(l:LI):(dD s l).length=l.length+20:=by rw[dD,vD,jL]
def uD(h:aN l):aN (kJ s l):=((He _ _).append (He _ _)).append h
def PO(h:aN l):aN (DY s l):=ae1 (uD h)
def sI(h:aN l):aN (iP s l):=by
 refine aN.append (aN.append (aN.append ?_ (He _ _)) (He _ _)) h;intro z hz;simp[Cd]at hz;omega
def JW(h:aN l):aN (dD s l):=ae1 (sI h)
def Az(w:World)(C:Array Value)(e:TypeId)(fr:Nat×Nat)(i:Nat):(w.alloc (.cells C e fr)).cell? (Ad w.heap.size i)=C[i]?:=by
 have h:(w.alloc (.cells C e fr)).heap[w.heap.size]?=some (.cells C e fr):=by show(w.heap.push (.cells C e fr))[w.heap.size]?=_;simp
 unfold World.cell?;rw[h]
 rfl
theorem Dt(en:Le l n)(h:Rd w (.S p n c) l)(hb:aN l)(hl:n<=2000000)(s0:0<=s)(s1:s<2^64):Calls prog 104 #[.U s,.S p n c] w λe w'=>∃p' c',e=.returned (.S p' (n+20) c')/\Own w.heap.size w' (.S p' (n+20) c') (dD s l)/\Bw w w':=by
 go_in
 go_wp2_with fail;refine(kW (n:=4) (v:=n) af af af).mono ?_;rintro e w1⟨p1,c1,rfl,o1,aG⟩;have hcv:=Lib.run_convert_bytes_const (P:=prog) w1 22 5 #[.int .u8 76,.int .u8 72,.int .u8 83,.int .u8 49] 4 4 underlying22 underlying5;simp only[show(#[Value.int .u8 76,.int .u8 72,.int .u8 83,.int .u8 49]:Array Value).size=4 from rfl]at hcv;have r0:Rd (w1.alloc (.cells #[.int .u8 76,.int .u8 72,.int .u8 83,.int .u8 49] 5 (4,5))) (.T w1.heap.size 4 4) Cd:=by
  refine⟨_,_,rfl,.inr ⟨w1.heap.size,0,rfl,λi hi=>?_⟩⟩;rw[mP]at hi
  match i,hi with
  |0,_=>(rw[ly,Az];rfl)
  |1,_=>(rw[ly,Az];rfl)
  |2,_=>(rw[ly,Az];rfl)
  |3,_=>(rw[ly,Az];rfl)
 have HR:=ag r0;have bA:Bw w1 (w1.alloc (.cells #[.int .u8 76,.int .u8 72,.int .u8 83,.int .u8 49] 5 (4,5))):=aA.alloc ay _;have b0:=aj aG bA;go_wp2_with fail;refine(kW (n:=8) (v:=s) af s0 s1).mono ?_;rintro e w2⟨p2,c2,rfl,o2,aK⟩;have b2:=aj b0 aK;have rm:=HR.below aK;have rb:=h.below b2;have r1:=(o1.rd.below bA).below aK;have r2:=o2.rd;have HB:=ag hb;have enn:=ae en;go_wp2_with fail;refine(fK (g:=w2.heap.size) (vs:=[.T w1.heap.size 4 4,.S p2 8 c2,.S p1 4 c1,.S p n c]) [Cd,le s 8,le n 4,l] (lm:=iP s l) (n:=n+16) 4 rfl (by show _=_;rw[cO7,iP,ae en]) (by show _=_;rw[jL,ae en]) (be4 al al al al (rm.below (aA.alloc ay _)) (r2.below (aA.alloc ay _)) (r1.below (aA.alloc ay _)) (rb.below (aA.alloc ay _))) af af).mono ?_;rintro e w3⟨p3,c3,rfl,o3,br⟩;have b3:=aj (b2.alloc b2.size _) br;have r3:=o3.rd;go_wp2_with fail;refine(Fq (p:=p3) (c:=c3) (n:=n+16) (l:=iP s l) (by show _=_;rw[jL,ae en]) r3 (sI (ae HB)) af).mono ?_;rintro e w4⟨p4,c4,rfl,o4,fy⟩;have b4:=aj b3 fy;have o5:Own w.heap.size w4 (.S p4 (n+20) c4) (dD s l):=Own.mono o4 b3.size;go_wp2;go_ret;exact⟨p4,c4,rfl,o5,b4⟩
def CK(en:Le l n)(h:Rd w (.S p n c) l)(hb:aN l)(hl:n<=2000000)(s0:0<=s)(s1:s<2^64):Calls prog 39 #[.U s,.S p n c] w λe w'=>∃p' c',e=.returned (.S p' (n+20) c')/\Own w.heap.size w' (.S p' (n+20) c') (dD s l)/\Bw w w':=by
 have enn:=ae en;have HH:=ag h;have r0:Own w.heap.size (w.alloc (.cells #[.int .u8 76,.int .u8 72,.int .u8 83,.int .u8 49] 5)) (.T w.heap.size 4 4) Cd:=
  aj0 w #[.int .u8 76,.int .u8 72,.int .u8 83,.int .u8 49] 4 ay iB rfl
 have HR:=ag r0
 go_in
 go_wp2_with fail;refine(pX 8 s _ af s0 s1).mono ?_;rintro e w1⟨p1,c1,rfl,o1,aG⟩;have b1:Bw w w1:=aj (aA.alloc ay _) aG;have q1:=Own.below HR aG;have r1:=o1.rd;have z1:=b1.size;have el1:(Cd++le s 8).length=12:=by simp[dF,mP]
 go_wp2_with(at_builtin;refine bQ rfl rfl (B:=w.heap.size) (.T w.heap.size 4 4) (l:=Cd) (m:=le s 8) (lm:=Cd++le s 8) bD p1 c1 8 (by show _=_;exact dF _ _) rfl rfl q1 r1 (by rw[dF,mP];omega) z1 ?_);intro p2 c2 w2 o2 gI;have b2:=dA b1 gI q1 ay z1;have z2:=b2.size
 try rw[el1]at o2⊢
 go_wp2_with fail;refine(pX 4 n _ af af af).mono ?_;rintro e w3⟨p3,c3,rfl,o3,br⟩;have b3:=aj b2 br;have q3:=Own.below o2 br;have r3:=o3.rd;have z3:=b3.size;have el3:(Cd++le s 8++le n 4).length=16:=by simp[dF,mP]
 go_wp2_with(at_builtin;refine bQ rfl rfl (B:=w.heap.size) (.S p2 12 c2) (l:=Cd++le s 8) (m:=le n 4) (lm:=Cd++le s 8++le n 4) bD p3 c3 4 (by show _=_;exact dF _ _) rfl rfl q3 r3 (by rw[dF,el1];omega) z3 ?_);intro p4 c4 w4 o4 uX;have b4:=dA b3 uX q3 ay z3;have z4:=b4.size;have r4:Rd w4 (.S p n c) l:=HH.below b4;have el4:(iP s l).length=n+16:=by rw[jL,ae en]
 try rw[el3]at o4⊢
 go_wp2_with(at_builtin;refine bQ rfl rfl (B:=w.heap.size) (.S p4 16 c4) (l:=Cd++le s 8++le n 4) (m:=l) (lm:=iP s l) (by show _=_;rw[iP,ae en]) p c n en rfl rfl o4 r4 (by rw[el3];omega) z4 ?_);intro p5 c5 w5 o5 vZ;have b5:=dA b4 vZ o4 ay z4;have HB:=ag hb
 try rw[el4]at o5⊢
 go_wp2_with fail;refine(FE (p:=p5) (c:=c5) (n:=n+16) (l:=iP s l) (by show _=_;exact el4) o5.rd (sI HB) af).mono ?_;rintro e w6⟨p6,c6,rfl,o6,ko⟩;have b6:=aj b5 ko;have o7:Own w.heap.size w6 (.S p6 (n+20) c6) (dD s l):=Own.mono o6 b5.size;go_wp2;go_ret;exact⟨p6,c6,rfl,o7,b6⟩
def IS(P:Program)(md:Region.Mode)(ops:Array Oper)(Q:Exit->Act->World->Prop)(S:World->Prop)(x:Nat):Nat->Array Bool->Act->World->Prop
 |0,l,a,w=>Region.ready md ops l=[]/\Q .normal a w
 |n+1,l,a,w=>(Region.ready md ops l=[]->Q .normal a w)/\∀i∈Region.ready md ops l,wpOp P ops Q i (λa' w'=>(i=x\/S w')/\IS P md ops Q S x n (l.setIfInBounds i true) a' w') a w
section
variable {P:Program}{md:Region.Mode}{ops:Array Oper}{Q:Exit->Act->World->Prop}{S:World->Prop}{x:Nat}
theorem Lo:∀(n:Nat)(l:Array Bool)(a:Act)(w:World),IS P md ops Q S x n l a w->wpAny P md ops Q n l a w
 |0,_,_,_,h=>h
 |n+1,_,_,_,h=>⟨h.1,λi hi=>wpOp_mono (λa' w' k=>Lo n _ a' w' k.2) (h.2 i hi)⟩
theorem XU(hi:ops[i]?=some oi)(hs:∀(j:Nat)(o:Oper)cs b,ops[j]?=some o->o.op≠.select cs b)(hQ:∀c a w,Q (.panic c) (a.put oi.dst v) w->Q (.panic c) a w)(hx:∀o,ops[x]?=some o->∃e∈o.after,Region.binds md e=true/\e.on=i):∀(n:Nat)(l:Array Bool)(a:Act)(w:World),(∀j oj,ops[j]?=some oj->j≠i->l.getD j true=false->(∀e∈oj.after,Region.binds md e=true->e.on≠i)->oi.apart ops oj=true)->i∈Region.ready md ops l->YieldsIf P ops S oi v a->S w->IS P md ops Q S x n (l.setIfInBounds i true) (a.put oi.dst v) w->IS P md ops Q S x (n+1) l a w:=by
 intro n
 induction n with
 |zero=>
  intro l a w _ hr hy hS H;refine⟨λe=>(by rw[e]at hr;cases hr),λj hj=>?_⟩;by_cases e:j=i;{rw[e];exact hy.wpOp hi hS ⟨.inr hS,H⟩};{have k:=ready_mono hj e;rw[H.1]at k;cases k}
 |succ n ih=>
  intro l a w hf hr hy hS H;refine⟨λe=>(by rw[e]at hr;cases hr),λj hj=>?_⟩;by_cases e:j=i;{rw[e];exact hy.wpOp hi hS ⟨.inr hS,H⟩};{
 let⟨bK2,oj,hoj,as5⟩:=mem_ready.1 hj
 have me:∀z∈oj.after,Region.binds md z=true->z.on≠i:=λz hz hb hzi=>by have k1:=as5 z hz hb;have k0:=(mem_ready.1 hr).1;rw[hzi]at k1;by_cases hl:i<l.size;{simp[hl]at k0 k1;rw[k0]at k1;cases k1};{simp[bF3 (Nat.le_of_not_lt hl)]at k1}
 have hjx:j≠x:=λex=>by
  subst ex
  let⟨z,hz,hb,hzi⟩:=hx oj hoj
  exact me z hz hb hzi
 refine wpOp_mono (λa' w' k=>?_) (wpOp_putIf hoj (hf j oj hoj e bK2 me) (λcs b=>hs i oi cs b hi) (λcs b=>hs j oj cs b hoj) hQ hy (H.2 j (ready_mono hj e)));have Vn:S w':=k.2.1.resolve_left hjx;refine⟨.inr Vn,ih (l.setIfInBounds j true) a' w' (λk' ok hk hki ZN hn=>hf k' ok hk hki ?_ hn) (ready_mono hr (aU6 e)) k.1 Vn ?_⟩;{by_cases hjk:j=k';{rw[<-hjk];exact bK2};{rw[getD_set_ne true hjk]at ZN;exact ZN}};{rw[Array.setIfInBounds_comm _ _ e];exact k.2.2}}
theorem Fo{n:Nat}{l:Array Bool}(h:Q .normal a w)(hr:Region.ready md ops l=[]:=by kernel_rfl):IS P md ops Q S x n l a w:=by
 cases n with
 |zero=>exact⟨hr,h⟩
 |succ n=>exact⟨λ_=>h,by rw[hr];simp⟩
def jh(i:Nat){l:Array Bool} (h:∀K':Act->World->Prop,Shut (∀a w,(i=x\/S w)->((i=x\/S w)->IS P md ops Q S x n (l.setIfInBounds i true) a w)->K' a w)->if Region.wanted o (yielded ops a.tmps)=true then Oper.wp P o a w K' Q else K' (a.put o.dst undef) w)(hi:ops[i]?=some o:=by(simp only[xU,BM,BK];rfl))(hr:Region.ready md ops l=[i]:=by kernel_rfl):IS P md ops Q S x (n+1) l a w:=by
 refine⟨λe=>?_,λj hj=>?_⟩;{rw[hr]at e;cases e};{rw[hr]at hj;obtain rfl:=nE.1 hj;exact wpOp_step hi (λK' hK=>h K' (λa w hS hW=>hK a w ⟨hS,hW hS⟩))}
def TE(P:Program)(md:Region.Mode)(ops:Array Oper)(Q:Exit->Act->World->Prop)(S:World->Prop)(x:Nat)(l:Array Bool)(i:Nat)(a a':Act):Prop:=∀n w,S w->IS P md ops Q S x n (l.setIfInBounds i true) a' w->IS P md ops Q S x (n+1) l a w
def tEQ{v:Value}{l:Array Bool}{a a':Act}(hi:ops[i]?=some oi:=by(simp only[xU,BM,BK];rfl))(hs:Region.noSelect ops=true:=by kernel_rfl)(hf:Region.free md ops l i=true:=by kernel_rfl)(hr:(Region.ready md ops l).contains i=true:=by kernel_rfl)(hx:((ops[x]?.map λo=>o.after.toList.any λe=>Region.binds md e&&e.on==i).getD false)=true:=by kernel_rfl)(hQ:∀c a w,Q (.panic c) (a.put oi.dst v) w->Q (.panic c) a w:=by exactλ_ _ _ h=>h)(hg:Region.wanted oi (yielded ops a.tmps)=true:=by rfl)(hy:∀w,S w->(execOp a.eval oi).run P w=.ok (.value v) w:=by(intro w' xx;(try dsimp only at xx);go_simp;try with_reducible rfl))(ha:a.put oi.dst v=a':=by(simp only[Act.put,xa,xb,xc];rfl)):TE P md ops Q S x l i a a':=
 λn w hS h=>XU hi (Region.noSelect_spec hs) hQ (λo ho=>by rw[ho]at hx;simp only[Jh,sa,Kt,fk,MF]at hx;obtain⟨e,he,h1,h2⟩:=hx;exact⟨e,by simpa using he,h1,h2⟩) n l a w (Region.free_spec hi hf) (by simpa using hr) (Or.inl ⟨hg,hy⟩) hS (ha▸h)
def tEo(i:Nat){v:Value}{l:Array Bool}{a a':Act}(hS:S w)(h:IS P md ops Q S x n (l.setIfInBounds i true) a' w)(hi:ops[i]?=some oi:=by(simp only[xU,BM,BK];rfl))(hr:Region.ready md ops l=[i]:=by kernel_rfl)(hg:Region.wanted oi (yielded ops a.tmps)=true:=by rfl)(hy:∀w,S w->(execOp a.eval oi).run P w=.ok (.value v) w:=by(intro w' xx;(try dsimp only at xx);go_simp;try with_reducible rfl))(ha:a.put oi.dst v=a':=by(simp only[Act.put,xa,xb,xc];rfl)):IS P md ops Q S x (n+1) l a w:=by
 refine⟨λe=>(by rw[hr]at e;cases e),λj hj=>?_⟩;rw[hr]at hj;obtain rfl:=nE.1 hj;have hY:YieldsIf P ops S oi v a:=Or.inl ⟨hg,hy⟩;exact hY.wpOp hi hS ⟨.inr hS,ha▸h⟩
def tEn(i:Nat){l:Array Bool}(hS:S w)(h:IS P md ops Q S x n (l.setIfInBounds i true) a' w)(t:TE P md ops Q S x l i a a':=by exact tEQ):IS P md ops Q S x (n+1) l a w:=t _ _ hS h
def tED(i0 i1 i2 i3:Nat){l:Array Bool}{a0 a1 a2 a3 a4:Act}(hS:S w)(h:IS P md ops Q S x n ((((l.setIfInBounds i0 true).setIfInBounds i1 true).setIfInBounds i2 true).setIfInBounds i3 true) a4 w)(x0:TE P md ops Q S x l i0 a0 a1:=by exact tEQ)(x1:TE P md ops Q S x (l.setIfInBounds i0 true) i1 a1 a2:=by exact tEQ)(x2:TE P md ops Q S x ((l.setIfInBounds i0 true).setIfInBounds i1 true) i2 a2 a3:=by exact tEQ)(x3:TE P md ops Q S x (((l.setIfInBounds i0 true).setIfInBounds i1 true).setIfInBounds i2 true) i3 a3 a4:=by exact tEQ):IS P md ops Q S x (n+4) l a0 w:=x0 _ _ hS (x1 _ _ hS (x2 _ _ hS (x3 _ _ hS h)))
def oGS{l:Array Bool}(hK:Shut (∀a w,(i=x\/S w)->((i=x\/S w)->IS P md ops Q S x n l a w)->K a w))(hS:S w)(h:S w->IS P md ops Q S x n l a' w)(ha:a=a':=by((try simp only[Act.put,xa,xb,xc]);rfl)):K a w:=hK.out _ _ (.inr hS) λ_=>ha▸h hS
def oGX{l:Array Bool}(hK:Shut (∀a w,(x=x\/S w)->((x=x\/S w)->IS P md ops Q S x n l a w)->K a w))(h:IS P md ops Q S x n l a w):K a w:=hK.out _ _ (.inl rfl) λ_=>h
def CE(x:Nat){id:Nat}(hS:S w.drew)(h:S w.drew->IS P .any ops Q S x ops.size (Array.replicate ops.size false) a w.drew)(hm:P.follows .mixedOrders=true:=by kernel_rfl):(Code.region id ops true).wp P Q a w:=
 wp_region_any hm (Lo _ _ _ _ (h hS))
end
def num:LI->Int
 |[]=>0
 |b::l=>b+256*num l
theorem Gq(h:aN l):0<=num l/\num l<256 ^ l.length:=by
 induction l with
 |nil=>simp[num]
 |cons b l ih=>
  let⟨h0,h1⟩:=ih (λz hz=>h z (by simp[hz]))
  let⟨b0,b1⟩:=h b al
  simp only[num,iS,WN];omega
def kM(h:aN l)(hl:l.length<=8):0<=num l/\num l<2^64:=by
 let⟨a,b⟩:=Gq h
 refine⟨a,Int.lt_of_lt_of_le b ?_⟩;have h9:((256 ^ l.length:Nat):Int)<=2^64:=by have h8:=aj4 (n:=256) af hl;have e:256 ^ 8=2^64:=rfl;omega
 rw[Int.natCast_pow]at h9;exact h9
def Wj{k:Int}(z0:0<=z)(z1:z<256)(k0:0<=k)(h:z+256*k<2^64):IntKind.u64.wrap (IntKind.u64.wrap z+IntKind.u64.wrap (256*k))=z+256*k:=by
 rw[u64_wrap_id z z0 af,u64_wrap_id (256*k) af af,u64_wrap_id _ af h]
theorem tc(l:LI)(p:OA)(c n:Nat)(en:Le l n)(w:World)(h:Rd w (.S p n c) l)(hb:aN l)(hn:n<=8)(hc:n<=c)(hm:c<=maxLen):Calls prog 69 #[.S p n c] w (Rb (.U (num l)) w):=by
 induction l generalizing p c n w with
 |nil=>
  have e:=ae en;subst e;clear h
  go_in
  go_wp2;go_ret;exact⟨rfl,cQ _ _⟩
 |cons z l ih=>
  have e:n=l.length+1:=en.symm;have HE:=ag e;obtain⟨b,o,rfl,-,cT⟩:=h.at al
  let⟨z0,z1⟩:=hb z al
  let⟨n0,n1⟩:=kM (l:=l) (λz hz=>hb z (by simp[hz])) af
  let⟨m0,m1⟩:=kM (l:=z::l) hb bq
  have EN:num (z::l)=z+256*num l:=rfl;have c0:=cT 0 al;simp at c0;have bS:((n:Int)==0)=false:=WW.2 af;have jt:=iC n c;have ku:=dC 1 n;have Jw:=mW 0 n;have Ou:0<n:=af;have DC:1<=n:=af;by_cases h1:c=1;{
 have xw:n=1:=af;subst h1 xw;have IH:Hid (∀(w':World),Bw w w'->Cp 69 #[.S (some (Ad b o)) 0 0] w' λe w''=>e=.returned (.U (num l))/\Bw w' w''):=by intro w' bN;refine ih _ 0 0 (by show _=_;omega) w' ?_ (λz hz=>hb z (by simp[hz])) af af af;refine(h.below bN).cut 1 1 af al _ (.inl af) _ l ?_;rw[D8 (l:=l) af];rfl
 have HN:=ag EN;rw[EN]at m1;clear e ih h hb cT EN m0;unfold maxLen at hm
 go_in
 go_wp2_with fail
 go_region_held3 (λw'=>w'.cell? (Ad b o)=some (.int .u8 z)) (first|with_reducible exact c0|with_reducible exact c1|go_keep)
  (first|(go_at_call 69;refine(ae IH _ (by first|exact cQ _ _|exact aA.drew)).mono ?_;rintro e w1⟨rfl,aG⟩;have b1:Bw w w1:=(by first|exact aG|exact aj (cQ w.heap.size w).drew aG);have c1:=ah c0 b1))
 clear IH c1;go_wp2;go_ret;exact⟨by rw[ae HN,<-Wj z0 z1 n0 m1];rfl,b1⟩};{
 have hcn:(c==1)=false:=by simp[h1]
 have IH:Hid (∀(w':World),Bw w w'->Cp 69 #[.S (some (Ad b (o+1))) (n-1) (c-1)] w' λe w''=>e=.returned (.U (num l))/\Bw w' w''):=by intro w' bN;refine ih _ (c-1) (n-1) (by show _=_;omega) w' ?_ (λz hz=>hb z (by simp[hz])) af af af;refine(h.below bN).cut 1 n af bq _ (.inr rfl) _ l ?_;rw[e];simp
 have HN:=ag EN;rw[EN]at m1;clear e ih h hb cT EN m0;unfold maxLen at hm
 go_in
 go_wp2_with fail
 go_region_held3 (λw'=>w'.cell? (Ad b o)=some (.int .u8 z)) (first|with_reducible exact c0|with_reducible exact c1|go_keep)
  (first|(go_at_call 69;refine(ae IH _ (by first|exact cQ _ _|exact aA.drew)).mono ?_;rintro e w1⟨rfl,aG⟩;have b1:Bw w w1:=(by first|exact aG|exact aj (cQ w.heap.size w).drew aG);have c1:=ah c0 b1))
 clear IH c1;go_wp2;go_ret;exact⟨by rw[ae HN,<-Wj z0 z1 n0 m1];rfl,b1⟩}
open Go.Shelf
attribute [local go_sem] Oper.semAt_some
abbrev IB:={z:Int×Int // 0<=z.2/\z.2<256}
def upto{α:Type}(f:Nat->α)(k:Nat):List α:=(List.range k).map f
def JO{α:Type}(f:Nat->α)(k:Nat):upto f (k+1)=upto f k++[f k]:=by simp[upto,al5]
def OP{α:Type}(f:Nat->α)(k:Nat):(upto f k).length=k:=by simp[upto]
def aN.get(h:aN l)(i:Nat):0<=l[i]?.getD 0/\l[i]?.getD 0<256:=by
 by_cases hi:i<l.length;{simp[hi];exact h _ (zF hi)};{simp[hi]}
def Eu(n Bs:Nat)(A B:World):Prop:=Below n A B/\B.cell? (Ad Bs 0)=A.cell? (Ad Bs 0)
def Eu.trans{A B C:World}(h:Eu n Bs A B)(k:Eu n Bs B C):Eu n Bs A C:=⟨h.1.trans k.1,k.2.trans h.2⟩
def Eu.refl(n Bs:Nat)(A:World):Eu n Bs A A:=⟨cQ _ _,rfl⟩
def Eu.put(hn:n<=w.heap.size)(hB:Bs<w.heap.size)(W:World)(l:Nat)(o o':Obj)(hl:w.heap.size<=l)(h:W.heap[l]?=some o)(h1:o.isCells=false)(h2:o.isWalk=false):Eu n Bs W (W.putObj l o'):=
 ⟨belowK_b hn W l o o' hl h h1 h2,xi (a:=(Ad Bs 0)) (World.putObj_heap_other (by show Bs≠l;omega))⟩
def Sw(l:LI)(h:aN l)(j:Nat):IB:=⟨((l.length:Int)-1-j,l[l.length-1-j]?.getD 0),h.get _⟩
set_option maxRecDepth 100000 in
def bo4(F:Fence)(h7:F.fn 251)(hro:F.round=none)(hn:1<=n){o:Nat}(hB:aN l)(el:l.length=len)(hlen:len<=8)(hb:b<UG)(J Jx:List IB->World->Prop)(hY:∀pre x W,J pre W->pre.length<len->YieldAt F (n-1) prog L #[.I x.1.1,.int .u8 x.1.2] W λe W'=>
   (e=.returned (.bool true)/\J (pre++[x]) W'/\Eu UG Bs W W')\/(e=.returned (.bool false)/\Jx (pre++[x]) W'))(hBs:W.cell? (Ad Bs 0)=some (.S (some (Ad b o)) len cap))(hc:∀j,j<len->W.cell? (Ad b (o+j))=some (.int .u8 (l[j]?.getD 0)))(h0:J [] W):CallsIn F n prog 251 #[.func (.yield L) #[] #[],.pointer (some (Ad Bs 0))] W λe W'=>(∃v,e=.returned v)∧
   ((∃ys,ys=upto (Sw l hB) len/\J ys W')\/(∃pre,Jx pre W')):=by
 refine mJ func251 rfl h7 ?_ hro;simp only[ntmps251,Er,Nat.reduceAdd,Nat.reduceSub]
 gi_wp2
 gi_loopw [3] (λi wr=>∃k:Nat,k<=len/\i=.I ((len:Int)-1-k)/\J (upto (Sw l hB) k) wr/\Eu UG Bs W wr) (λi _=>(intOf i+1).toNat)
 case atStart=>exact⟨0,gr _,al,h0,Eu.refl _ _ _⟩
 case round=>(
 obtain⟨k,hk,rfl,hJs,hnx⟩:=hrel;by_cases bf:k<len;{
 obtain⟨m,em⟩:∃m:Nat,m=len-1-k:=⟨_,rfl⟩;have e1:(len:Int)-1-k=(m:Int):=af;have hm:m<len:=af
 let⟨z,ez⟩:=aB (l[m]?.getD 0)
 have Dz:wr.cell? (Ad b (o+m))=some (.int .u8 z):=(hnx.1.cell (p:=(Ad b (o+m))) hb).trans ((hc m hm).trans (by rw[ez]));have hbx:wr.cell? (Ad Bs 0)=some (.S (some (Ad b o)) len cap):=hnx.2.trans hBs
 let⟨fn,tmps,assign,body,hy,hR⟩:=hY _ (Sw l hB k) wr hJs (by rw[OP];exact bf)
 have ex:(Sw l hB k).1=((m:Int),z):=by simp only[Sw,el,e1,em,ez]
 rw[ex]at hy;dsimp only at hy;rw[e1];have hmi:=aU m len;have EM:=ag em;have E1:=ag e1;have HK:=ag bf;have HC:=ag hc;clear em e1 ex bf hc ez
 gi_wp2
 refine hR.mono ?_;rintro e W3(⟨rfl,hJ3,tZ⟩|⟨rfl,Ni⟩);{
 gi_wp2
 go_roundw;exact⟨k+1,ae HK,by have:=ae E1;congr 1;omega,by rw[JO];exact hJ3,hnx.trans tZ⟩
 case measure=>simp[intOf]<;>omega}
 {
 gi_wp2
 refine dJ (uO rfl _ _ _) rfl ?_;exact⟨⟨_,rfl⟩,.inr ⟨_,Ni⟩⟩}};{
 obtain rfl:k=len:=af
 gi_wp2
 go_end0
 exact⟨⟨_,rfl⟩,.inl ⟨_,rfl,hJs⟩⟩})
def bV8(F:Fence)(h5:F.fn 236)(hro:F.round=none){a:OA}:CallsIn F n prog 236 #[.S a len cap] w λe w'=>e=.returned (.func (.func 251) #[] #[.pointer (some (Ad w.heap.size 0))])/\w'=w.alloc (.cells #[.S a len cap] 22):=by
 refine mJ func236 rfl h5 ?_ hro;simp only[ntmps236,Er,Nat.reduceAdd,Nat.reduceSub]
 gi_wp2
 go_ret;exact⟨rfl,rfl⟩
def ay5(F:Fence)(h7:F.fn 251)(hro:F.round=none)(hn:1<=n){o:Nat}(hB:aN l)(el:l.length=len)(hlen:len<=8)(hb:b<UG)(hBn:Bs<w.heap.size)(di2:UG<=w.heap.size)(hBs:w.cell? (Ad Bs 0)=some (.S (some (Ad b o)) len cap))(hc:∀j,j<len->w.cell? (Ad b (o+j))=some (.int .u8 (l[j]?.getD 0))):SeqStopsK F n prog 251 #[.pointer (some (Ad Bs 0))] (λx:IB=>#[.I x.1.1,.int .u8 x.1.2]) (Eu UG Bs) (λys=>ys=upto (Sw l hB) len) (λ_=>True) len w:=λL J Jx W hW _ _ hY h0=>by
 refine(bo4 F h7 hro hn (o:=o) (cap:=cap) hB el hlen hb J Jx hY ((hW.cell (p:=(Ad Bs 0)) (by show Bs<_;omega)).trans hBs) (λj hj=>(hW.cell (p:=(Ad b (o+j))) (by show b<_;omega)).trans (hc j hj)) h0).mono ?_;rintro e W'⟨he,⟨ys,hy,hj⟩|⟨pre,hj⟩⟩;{exact⟨he,.inl ⟨_,hy,hj⟩⟩};{exact⟨he,.inr ⟨_,km,hj⟩⟩}
def acc(pre:List IB):Int:=pre.foldl (λa x=>a*256+x.1.2) 0
def Iv{pre:List IB}(x:IB):acc (pre++[x])=acc pre*256+x.1.2:=by simp[acc]
theorem SI(k:Nat):∀pre:List IB,pre.length=k->0<=acc pre/\acc pre<256 ^ k:=by
 induction k with
 |zero=>intro pre h;rw[D8 h];simp[acc]
 |succ k ih=>
  intro pre h;rcases pre.eq_nil_or_concat with rfl|⟨m,x,rfl⟩;{simp at h};{
 rw[List.concat_eq_append]at h⊢;rw[Iv]
 let⟨h0,h1⟩:=ih m (by simpa using h)
 have:=x.2;rw[WN];omega}
def bp4{pre:List IB}(h:pre.length<8):0<=acc pre/\acc pre*256+256<=2^64:=by
 let⟨h0,h1⟩:=SI pre.length pre rfl
 refine⟨h0,?_⟩;have h9:((256 ^ pre.length:Nat):Int)<=72057594037927936:=by have h8:=aj4 (n:=256) af (show pre.length<=7 by omega);have e:256 ^ 7=72057594037927936:=rfl;omega
 rw[Int.natCast_pow]at h9;have h10:acc pre<72057594037927936:=Int.lt_of_lt_of_le h1 h9;omega
theorem bp5(l:LI)(hB:aN l)(k:Nat)(hk:k<=l.length):acc (upto (Sw l hB) k)=num (l.drop (l.length-k)):=by
 induction k with
 |zero=>simp[upto,acc,num]
 | succ k ih=>
  rw[JO,Iv,ih af];have bf:l.length-1-k<l.length:=af;have e:l.drop (l.length-(k+1))=l[l.length-1-k]::l.drop (l.length-k):=by
   rw[show l.length-(k+1)=l.length-1-k by omega,MH bf]
   congr 2;omega
  rw[e,num];simp[Sw,bf];omega
set_option maxRecDepth 100000 in
def Qc(F:Fence)(h3:F.fn 204)(h5:F.fn 236)(h6:F.fn 251)(hro:F.round=none)(hn:3<=n){o:Nat}(hB:aN l)(el:l.length=len)(hlen:len<=8)(hb0:0<len) (hc:∀j,j<len->w.cell? (Ad b (o+j))=some (.int .u8 (l[j]?.getD 0))):CallsIn F n prog 204 #[.S (some (Ad b o)) len cap] w λe W'=>e=.returned (.U (num l))/\Bw w W':=by
 have h1:1<=n:=af;refine callsIn_of_wp_marks func204 rfl h3 ?_ hro;simp only[ntmps204,Er,Nat.reduceAdd,Nat.reduceSub]
 gi_wp2_with(gi_at_call 236;refine(bV8 F h5 hro).mono ?_;rintro e w'⟨rfl,rfl⟩)
 let⟨W0,fL⟩:=aB ((w.alloc (.cells #[.U 0] 27)).alloc (.cells #[.S (some (Ad b o)) len cap] 22))
 have z0:W0.heap.size=w.heap.size+2:=by rw[fL];simp
 have k0:W0.cell? (Ad w.heap.size 0)=some (.U 0):=by rw[fL];simp
 have f0:W0.frozen? (Ad w.heap.size 0)=false:=by rw[fL];simp
 have k1:W0.cell? (Ad (w.heap.size+1) 0)=some (.S (some (Ad b o)) len cap):=by rw[fL];simp
 have hB0:Bw w W0:=by rw[fL];exact(aA.alloc ay _).alloc al _
 have hbw:b<w.heap.size:=nZ w _ (hc 0 hb0);rw[<-fL];clear fL;refine wpIn_rangeFunc_ownF hro h1 (gf:=251) (lb:=#[.pointer (some (Ad (w.heap.size+1) 0))]) rfl h6 (enters_of func251 bg rfl)
  (ay5 F (n:=n-1) h6 hro af hB el hlen hbw af af k1 (λj hj=>(hB0.cell (p:=(Ad b (o+j))) hbw).trans (hc j hj))) (λh k=>h.trans k) (Eu.put af af) aA (λ_=>rfl)
  (λpre W=>(W.cell? (Ad w.heap.size 0)=some (.U (acc pre))/\W.frozen? (Ad w.heap.size 0)=false)/\Bw w W)
  (λ_ _ _=>False)
  (OwnFrom.and (Own.from (λs A B row hs hg hr=>⟨cell_kept hs.1 hg hr,(frozen_kept hs.1 hg hr).trans hs.2⟩) _) (ownFrom_below ay af))
  (λ_ _ _ _ _ hs _ _=>hs)
  ⟨⟨k0,f0⟩,hB0⟩
  (λx=>{tmps:=#[.S (some (Ad b o)) len cap,undef,.U 0,.pointer (some (Ad w.heap.size 0)),undef,.int .u8 x.1.2,.S (some (Ad b o)) len cap,.func (.func 251) #[] #[.pointer (some (Ad (w.heap.size+1) 0))],.I x.1.1,.int .u8 x.1.2,undef,undef,undef,undef,undef,undef],defers:=[]}) ?assign ?body ?done ?stop
 case assign=>(
 intro l x W K hK
 gi_wp2
 exact hK)
 case body=>(
 rintro L pre x W⟨⟨Ot,hf⟩,rI⟩rz
 let⟨a0,a1⟩:=bp4 (pre:=pre) af
 let⟨x0,x1⟩:=x.2
 have HS:=ag (Iv (pre:=pre) x);generalize acc pre=a at*;generalize x.1.2=y at*;have aZ2:bits .or .u64 (a*256) y=a*256+y:=by exact bits_join .u64 64 bj wraps_u64 8 (a*256) y af af af x0 af af
 have EJ:=ag aZ2;clear aZ2
 gi_wp2
 refine⟨KeepsOthers.setCell _ _ _,⟨(cQ w.heap.size W).setCell (p:=(Ad w.heap.size 0)) ay _,Qv _ _ _ _ al⟩,⟨?_,by rw[Ee];exact hf⟩,rI.setCell (p:=(Ad w.heap.size 0)) ay _⟩;rw[ae HS,<-ae EJ];exact Qt _ _ _ (by rw[Ot];rfl))
 case done=>(
 rintro D ys W hD rfl⟨⟨Ot,hf⟩,rI⟩hK
 gi_wp2
 refine⟨al,.inl ⟨_,_,rfl,run_takeDeferred hK,?_⟩⟩;exact⟨_,results_tmp rfl _ _ _,by rw[<-el,bp5 l hB l.length ay];simp,rI.trans (belowK_b (w:=w) ay W D _ _ af hK rfl rfl)⟩)
 case stop=>(
 rintro D c pre W _ _ h _;exact h.elim)
def kL(en:Le l n)(h:Rd w (.S p n c) l)(hb:aN l)(hn:n<=8)(h0:0<n):Cp 204 #[.S p n c] w (Rb (.U (num l)) w):=by
 have e:=ae en;obtain⟨b,o,rfl,-,hc⟩:=h.at af;refine xj.1 (Qc Fence.wide (n:=3) km km km rfl af (b:=b) (o:=o) (len:=n) (cap:=c) (l:=l) hb e hn h0 (w:=w) (λj hj=>?_));rw[hc j af]
 rfl
def sub(l:LI)(i j:Nat):LI:=(l.take j).drop i
def dM(hj:j<=l.length):(sub l i j).length=j-i:=by simp[sub];omega
def aN.sub(h:aN l)(i j:Nat):aN (sub l i j):=λz hz=>h z (GR (GS hz))
theorem ag5(c0:w.cell? (Ad g 0)=some v0)(r0:Rd w v0 l0):lh w g [v0] [l0]:=by
 refine⟨rfl,λj v x e1 e2=>?_⟩
 match j,e1,e2 with
 |0,e1,e2=>simp at e1 e2;subst e1 e2;exact⟨c0,r0⟩
def XT(w:World)(S:Int)(R:LI)(N:Nat)(code:Int)(e:Ending)(w':World):Prop:=
 ∃p c,e=.returned (.tuple #[.U S,.S p N c,.I code])/\Own w.heap.size w' (.S p N c) R/\Bw w w'
def qX(w:World)(l:LI)(n:Nat)(e:Ending)(w':World):Prop:=
 if dD (num (sub l 4 12)) (sub l 16 (n-4))=l then XT w (num (sub l 4 12)) (sub l 16 (n-4)) (n-20) 0 e w' else XT w 0 [] 0 13 e w'
def Jn(hn:n<20):Calls prog 163 #[.S p n c] w (XT w 0 [] 0 13):=by
 have ZQ:(n:Int)<20:=af
 go_in
 go_wp2;refine dJ (v:=.tuple #[.U 0,aq,.I 13]) (by simp[results,results163,go_sem]) rfl ⟨none,0,rfl,gm _ _ _ _,cQ _ _⟩
def IY(hn:n<20):Calls prog 72 #[.S p n c] w (XT w 0 [] 0 13):=by
 have ZQ:(n:Int)<20:=af
 go_in
 go_wp2;refine dJ (v:=.tuple #[.U 0,aq,.I 13]) (by simp[results,results72,go_sem]) rfl ⟨none,0,rfl,gm _ _ _ _,cQ _ _⟩
def aL5{o:Nat}(en:Le l n)(h:Rd w (.S (some (Ad b o)) n c) l)(hb:aN l)(hn:20<=n)(hm:Mg n)(hc:n<=c)(DA:c<=maxLen):Calls prog 163 #[.S (some (Ad b o)) n c] w (qX w l n):=by
 have ZQ:¬(n:Int)<20:=af;obtain⟨k,ek⟩:∃k:Nat,(n:Int)-4=(k:Int):=⟨n-4,af⟩;have g1:=iC n c;have g2:=dC 12 c;have g3:=iC k c;have g4:=dC 16 k;have g5:c≠4:=af;have g6:c≠16:=af;have enn:=ae en;have Cu:n=k+4:=af;have Uc:(sub l 4 12).length=8:=dM af;have Ub:(sub l 16 k).length=k-16:=dM af;have r1:∀(d:Nat)(w':World),Bw w w'->Rd w' (.S (some (Ad b (o+4))) 8 d) (sub l 4 12):=λd w' bN=>(h.below bN).cut 4 12 af af _ (.inr rfl) d _ rfl;have r2:∀(d:Nat)(w':World),Bw w w'->Rd w' (.S (some (Ad b (o+16))) (k-16) d) (sub l 16 k):=λd w' bN=>(h.below bN).cut 16 k af af _ (.inr rfl) d _ rfl
 let⟨s0,s1⟩:=kM (hb.sub 4 12) af
 have HB:=ag hb;have H1:=ag Uc;have H2:=ag Ub;have HK:=ag Cu;have Ob:=ag r1;have ZB:=ag r2;have HH:=ag h;have eb:dD (num (sub l 4 12)) (sub l 16 (n-4))=dD (num (sub l 4 12)) (sub l 16 k):=by rw[Cu];rfl
 have HE:=ag eb;clear hb Uc Ub r1 r2 h enn Cu eb
 go_in
 go_wp2_with fail;refine(kL (l:=sub l 4 12) (n:=8) H1 (ae Ob _ _ aA) (HB.sub 4 12) af af).mono ?_;rintro e w1⟨rfl,b1⟩;go_wp2_with fail;refine(Dt (s:=num (sub l 4 12)) (n:=k-16) (l:=sub l 16 k) H2 (ae ZB _ _ b1) (HB.sub 16 k) af s0 s1).mono ?_;rintro e w2⟨p2,c2,rfl,o2,aK⟩;have b2:=aj b1 aK;go_wp2_with fail;refine(gP (k:=n) (l:=dD (num (sub l 4 12)) (sub l 16 k)) (m:=l) (by show _=_;rw[ji,ae H2]) en o2.rd (HH.below b2) (JW (HB.sub 16 k)) (ae HB)).mono ?_;rintro e w3⟨rfl,br⟩;have b3:=aj b2 br;by_cases hq:dD (num (sub l 4 12)) (sub l 16 k)=l;{
 have hd:decide (dD (num (sub l 4 12)) (sub l 16 k)=l)=true:=by simp[hq]
 rw[hd];have HQ:=ag hq;go_wp2_with fail;refine(fK (g:=w3.heap.size) (vs:=[.S (some (Ad b (o+16))) (k-16) (c-16)]) [sub l 16 k] (lm:=sub l 16 k) (n:=k-16) 1 rfl (by show _=_;rw[Fi]) H2 (ag5 al ((ae ZB _ _ b3).below (aA.alloc ay _))) af af).mono ?_;rintro e w4⟨p4,c4,rfl,o4,fy⟩;have b4:=aj (b3.alloc b3.size _) fy;have o5:Own w.heap.size w4 (.S p4 (k-16) c4) (sub l 16 k):=Own.mono o4 (by have:=b3.size;simp;omega);go_wp2;refine dJ (v:=.tuple #[.U (num (sub l 4 12)),.S p4 (k-16) c4,.I 0]) (by simp[results,results163,go_sem]) rfl ?_;unfold qX;rw[ae HE,bO (ae HQ)];have e1:n-20=k-16:=aI (ae HK);have e2:n-4=k:=aI (ae HK);rw[e1,e2];exact⟨p4,c4,rfl,o5,b4⟩};{
 have hd:decide (dD (num (sub l 4 12)) (sub l 16 k)=l)=false:=by simp[hq]
 rw[hd];have HQ:=ag hq;go_wp2;refine dJ (v:=.tuple #[.U 0,aq,.I 13]) (by simp[results,results163,go_sem]) rfl ?_;unfold qX;rw[ae HE,bH (ae HQ)];exact⟨none,0,rfl,gm _ _ _ _,b3⟩}
theorem Ye{o:Nat}(en:Le l n)(h:Rd w (.S (some (Ad b o)) n c) l)(hb:aN l)(hn:20<=n)(hm:Mg n)(hc:n<=c)(DA:c<=maxLen):Calls prog 72 #[.S (some (Ad b o)) n c] w (qX w l n):=by
 have ZQ:¬(n:Int)<20:=af;obtain⟨k,ek⟩:∃k:Nat,(n:Int)-4=(k:Int):=⟨n-4,af⟩;have g1:=iC n c;have g2:=dC 12 c;have g3:=iC k c;have g4:=dC 16 k;have g5:c≠4:=af;have g6:c≠16:=af;have enn:=ae en;have Cu:n=k+4:=af;have Uc:(sub l 4 12).length=8:=dM af;have Ub:(sub l 16 k).length=k-16:=dM af;have r1:∀(d:Nat)(w':World),Bw w w'->Rd w' (.S (some (Ad b (o+4))) 8 d) (sub l 4 12):=λd w' bN=>(h.below bN).cut 4 12 af af _ (.inr rfl) d _ rfl;have r2:∀(d:Nat)(w':World),Bw w w'->Rd w' (.S (some (Ad b (o+16))) (k-16) d) (sub l 16 k):=λd w' bN=>(h.below bN).cut 16 k af af _ (.inr rfl) d _ rfl
 let⟨s0,s1⟩:=kM (hb.sub 4 12) af
 have HB:=ag hb;have H1:=ag Uc;have H2:=ag Ub;have HK:=ag Cu;have Ob:=ag r1;have ZB:=ag r2;have HH:=ag h;have eb:dD (num (sub l 4 12)) (sub l 16 (n-4))=dD (num (sub l 4 12)) (sub l 16 k):=by rw[Cu];rfl
 have HE:=ag eb;clear hb Uc Ub r1 r2 h enn Cu eb
 go_in
 go_wp2_with fail;refine(tc (sub l 4 12) _ _ 8 H1 _ (ae Ob _ _ aA) (HB.sub 4 12) af af af).mono ?_;rintro e w1⟨rfl,b1⟩;go_wp2_with fail;refine(iT H2 (ae ZB _ _ b1) af).mono ?_;rintro e w2⟨p2,c2,rfl,o2,aK⟩;have b2:=aj b1 aK;have z2:=b1.size;go_wp2_with fail;have ua:∀(vs:Array Value)(w:World),(callFunc 39 vs).run prog w=.ok (.enter 39 vs) w:=λvs w=>bg;have u2:=dQ en (HH.below b2);have u2d:=dQ en (HH.below b2.drew);have r2d:Rd w2.drew (.S p2 (k-16) c2) (sub l 16 k):=o2.rd.below aA.drew;have HC:=ag (qU (JW (s:=num (sub l 4 12)) (HB.sub 16 k)) HB)
 go_region_law(first
  |(refine lT aJ aJ aJ aJ (λ_=>ua _ _) (CK H2 r2d (HB.sub 16 k) af s0 s1) ?_;rintro e w3⟨p3,c3,rfl,o3,Jz⟩;refine⟨_,rfl,?_⟩;have br:Below w2.heap.size w2 w3:=aj (cQ w2.heap.size w2).drew Jz;have u3:=dQ (ae en) (HH.below (aj b2 br));have e1:=dQ (l:=dD (num (sub l 4 12)) (sub l 16 k)) (by rw[ji,ae H2]) o3.rd))
 all_goals
  have b3:=aj b2 br;have q3:Own w.heap.size w3 (.S p2 (k-16) c2) (sub l 16 k):=Own.mono (Own.below o2 br) z2;go_wp2;{
 rename_i hd
 have hq:¬dD (num (sub l 4 12)) (sub l 16 k)=l:=by intro e;rw[ae HC,BJ e]at hd;cases hd
 refine dJ (v:=.tuple #[.U 0,aq,.I 13]) (by simp[results,results72,go_sem]) rfl ?_;unfold qX;rw[ae HE,bH hq];exact⟨none,0,rfl,gm _ _ _ _,b3⟩};{
 rename_i hd
 have hq:dD (num (sub l 4 12)) (sub l 16 k)=l:=by by_cases e:dD (num (sub l 4 12)) (sub l 16 k)=l;{exact e};{rw[ae HC,tW e]at hd;cases hd}
 refine dJ (v:=.tuple #[.U (num (sub l 4 12)),.S p2 (k-16) c2,.I 0]) (by simp[results,results72,go_sem]) rfl ?_;unfold qX;rw[ae HE,bO hq];have e1:n-20=k-16:=aI (ae HK);have e2:n-4=k:=aI (ae HK);rw[e1,e2];exact⟨p2,c2,rfl,q3,b3⟩}
def Ej(hl:1000<n):Calls prog 235 #[yY s (.S p n c)] w (Rb aq w):=by
 have Fb:=mW 1000 n
 go_in
 go_wp2;go_ret;exact⟨rfl,aA.alloc ay _⟩
theorem US(en:Le l n)(h:Rd w (.S p n c) l)(hb:aN l)(hl:n<=1000)(s0:0<=s)(s1:s<2^64):Calls prog 235 #[yY s (.S p n c)] w λe w'=>∃p' c',e=.returned (.S p' (n+14) c')/\Own w.heap.size w' (.S p' (n+14) c') (DY s l)/\Bw w w':=by
 have Fb:¬(1000:Int)<(n:Int):=af
 go_in
 go_wp2_with fail
 let⟨W,hW⟩:=aB (w.alloc (.cells #[.U s,.S p n c] 74))
 have bW:=dX hW;have k0:W.cell? (Ad w.heap.size 0)=some (.U s):=by rw[hW];simp
 have k1:W.cell? (Ad w.heap.size 1)=some (.S p n c):=by rw[hW];simp
 rw[<-hW];refine(kW (n:=2) (v:=n) af af af).mono ?_;rintro e w1⟨p1,c1,rfl,o1,aG⟩;have b1:=aj bW aG;have j0:=ah k0 aG;have j1:=ah k1 aG;have r0:=h.below b1;have r1:=o1.rd;have enn:=ae en;have HB:=ag hb;go_wp2_with fail
 go_region_held3 (λw'=>w'.cell? (Ad w.heap.size 0)=some (.U s)/\w'.cell? (Ad w.heap.size 1)=some (.S p n c)) (first|with_reducible exact⟨j0,j1⟩|with_reducible exact⟨i0,i1⟩|with_reducible exact⟨g0,g1⟩|with_reducible exact⟨f0,f1⟩|go_keep)
  (first
   |(go_at_call 169;refine(kW (n:=8) (v:=s) af s0 s1).mono ?_;rintro e w2⟨p2,c2,rfl,o2,aK⟩;have b2:Below w1.heap.size w1 w2:=(by first|exact aK|exact aj (cQ w1.heap.size w1).drew aK);have i0:=ah j0 b2;have i1:=ah j1 b2)
   |(go_at_call 98;refine(fK (g:=w2.heap.size) (vs:=[.slice p1 2 c1,.slice p2 8 c2,.slice p n c]) [le n 2,le s 8,l] (lm:=kJ s l) (n:=n+10) 3 rfl (by show _=_;rw[cO8,kJ,ae en]) (by show _=_;rw[kI,ae en]) (be5 al al al ((r1.below b2).below (aA.alloc ay _)) (o2.rd.below (aA.alloc ay _)) ((r0.below b2).below (aA.alloc ay _))) af af).mono ?_;rintro e w3⟨p3,c3,rfl,o3,br⟩;have b3:=aj (aA.alloc (iD w2.heap.size) _) br;have g0:=ah i0 b3;have g1:=ah i1 b3)
   |(go_at_call 170;refine(Fq (p:=p3) (c:=c3) (n:=n+10) (l:=kJ s l) (by show _=_;rw[kI,ae en]) (by exact o3.rd) (uD (ae HB)) af).mono ?_;rintro e w4⟨p4,c4,rfl,o4,fy⟩;have f0:=ah g0 fy;have f1:=ah g1 fy))
 have b4:=aj (aj (aj b1 b2) b3) fy;have o5:Own w.heap.size w4 (.S p4 (n+14) c4) (DY s l):=Own.mono o4 (aI (aj (aj b1 b2) b3).size);go_wp2;go_ret;exact⟨p4,c4,rfl,o5,b4⟩
def Uh(en:Le l n)(h:Rd w (.S p n c) l)(hb:aN l)(hl:n<=1000)(s0:0<=s)(s1:s<2^64):Calls prog 71 #[yY s (.S p n c)] w λe w'=>∃p' c',e=.returned (.S p' (n+14) c')/\Own w.heap.size w' (.S p' (n+14) c') (DY s l)/\Bw w w':=by
 have Fb:¬(1000:Int)<(n:Int):=af
 go_in
 go_wp2_with fail
 let⟨W,hW⟩:=aB (w.alloc (.cells #[.U s,.S p n c] 74))
 have bW:=dX hW;have k0:W.cell? (Ad w.heap.size 0)=some (.U s):=by rw[hW];simp
 have k1:W.cell? (Ad w.heap.size 1)=some (.S p n c):=by rw[hW];simp
 have zW:w.heap.size<W.heap.size:=by rw[hW];simp
 rw[<-hW];clear hW;refine(pX 2 n _ af af af).mono ?_;rintro e w1⟨p1,c1,rfl,o1,aG⟩;have b1:=aj bW aG;have j0:=ah k0 aG;have j1:=ah k1 aG;have r0:=h.below b1;have enn:=ae en;have HB:=ag hb;have HH:=ag h;have z1:=aG.size;go_wp2_with fail;refine(pX 8 s _ af s0 s1).mono ?_;rintro e w2⟨p2,c2,rfl,o2,aK⟩;have b2:=aj b1 aK;have i0:=ah j0 aK;have i1:=ah j1 aK;have r2:=r0.below aK;have o1':=Own.below o1 aK;have ro2:=o2.rd;have z2:=aK.size;have el:(le (↑n) 2++le s 8).length=10:=by simp[dF]
 go_wp2_with(at_builtin;refine bQ rfl rfl (B:=W.heap.size) (.S p1 2 c1) (l:=le n 2) (m:=le s 8) (lm:=le n 2++le s 8) bD p2 c2 8 (by show _=_;exact dF _ _) rfl rfl o1' ro2 (by rw[dF,dF];omega) af ?_);intro p3 c3 w3 o3 An;have b3:=dA b2 An o1' af af;have g0:=(cQ W.heap.size w2).grown An af (λk e=>(o1'.lt k e).1);have f0:=(g0.cell (p:=(Ad w.heap.size 0)) zW).trans i0;have f1:=(g0.cell (p:=(Ad w.heap.size 1)) zW).trans i1;have r3:Rd w3 (.S p n c) l:=HH.below b3;have z3:=g0.size;have el2:(kJ s l).length=n+10:=by rw[kI,ae en]
 go_wp2_with(at_builtin;refine bQ rfl rfl (B:=W.heap.size) (.S p3 10 c3) (l:=le n 2++le s 8) (m:=l) (lm:=kJ s l) (by show _=_;rw[kJ,ae en]) p c n en rfl rfl o3 r3 (by rw[el];omega) af ?_);intro p4 c4 w4 o4 uX;have b4:=dA b3 uX o3 af af;have z4:=uX.size;go_wp2_with fail;refine(FE (p:=p4) (c:=c4) (n:=n+10) (l:=kJ s l) (by show _=_;exact el2) o4.rd (uD HB) af).mono ?_;rintro e w5⟨p5,c5,rfl,o5,fT⟩;have b5:=aj b4 fT;have o6:Own w.heap.size w5 (.S p5 (n+14) c5) (DY s l):=Own.mono o5 af;go_wp2;go_ret;exact⟨p5,c5,rfl,o6,b5⟩
abbrev R1:=Int×LI
def jG:List R1->List Value->List Value
 |r::rs,v::vs=>.int .u64 r.1::v::jG rs vs
 |_,_=>[]
theorem nT:∀(rs:List R1)(vs:List Value)(i:Nat)(r:R1)(v:Value),rs[i]?=some r->vs[i]?=some v->(jG rs vs)[2*i]?=some (.U r.1)/\(jG rs vs)[2*i+1]?=some v
 |[],vs,i,r,v,h,_=>by simp at h
 |r'::rs,[],i,r,v,_,h=>by simp at h
 |r'::rs,v'::vs,0,r,v,h1,h2=>by simp at h1 h2;subst h1 h2;simp[jG]
 |r'::rs,v'::vs,i+1,r,v,h1,h2=>by have:=nT rs vs i r v (by simpa using h1) (by simpa using h2);rw[show 2*(i+1)=2*i+1+1 by omega];simpa[jG]using this
theorem wY:∀(rs:List R1)(vs:List Value)(r:R1)(v:Value),vs.length=rs.length->jG (rs++[r]) (vs++[v])=jG rs vs++[.U r.1,v]
 |[],[],r,v,_=>rfl
 |[],_::_,r,v,h=>by simp at h
 |_::_,[],r,v,h=>by simp at h
 |r'::rs,v'::vs,r,v,h=>by simp[jG,wY rs vs r v (by simpa using h)]
abbrev IC(u v:Value):Prop:=∀b,u.ownBlock=some b->v.ownBlock≠some b
structure gR(B:Nat)(w:World)(v:Value)(rs:List R1)(vs:List Value):Prop where
 len:vs.length=rs.length
 row:w.ownsRow B 74 2 v rs.length (jG rs vs)
 own:∀(i:Nat)r u,rs[i]?=some r->vs[i]?=some u->Own B w u r.2
 ap:vs.Pairwise IC
def gR.form{rs:List R1}(h:gR B w v rs vs):∃p c,v=.S p rs.length c:=by
 rcases h.row.2 with⟨rfl,h0⟩|⟨g,cap,cur,rfl,_⟩;{exact⟨none,0,by rw[h0]⟩};{exact⟨_,_,rfl⟩}
def gR.below{rs:List R1}(h:gR B w v rs vs)(hb:Bw w w'):gR B w' v rs vs:=
 ⟨h.len,h.row.kept (row:=none) ⟨hb.os,hb.tape,hb.output,hb.size,λk hk _=>hb.block k hk⟩ (by cases hv:v.ownBlock<;>simp),λi r u h1 h2=>Own.below (h.own i r u h1 h2) hb,h.ap⟩
def gR.mono{rs:List R1}(h:gR B w v rs vs)(hB:B'<=B):gR B' w v rs vs:=by
 refine⟨h.len,⟨h.row.1,?_⟩,λi r u h1 h2=>Own.mono (h.own i r u h1 h2) hB,h.ap⟩;rcases h.row.2 with e|⟨g,cap,cur,rfl,hb,r⟩;{exact .inl e};{exact .inr ⟨g,cap,cur,rfl,af,r⟩}
def gR.nil(B:Nat)(w:World):gR B w aq [] []:=⟨rfl,gm _ _ _ _,by simp,List.Pairwise.nil⟩
def gR.apart{rs:List R1}(h:gR B w v rs vs)(ho:Own B' w u l):IC v u:=by
 intro b e1 e2;rcases h.row.2 with⟨rfl,_⟩|⟨g,cap,cur,rfl,_,hg,_⟩;{simp[Value.ownBlock]at e1};{rcases ho.2 with⟨rfl,_⟩|⟨g',NQ,aQ0,rfl,_,Cj,_⟩;{simp[Value.ownBlock]at e2};{simp[Value.ownBlock]at e1 e2;subst e1 e2;rw[hg]at Cj;simp at Cj}}
def Eg(l:LI):Nat:=(num (sub l 0 2)).toNat
def ki(l:LI):Option R1:=
 if l.length<14+Eg l\/1000<Eg l then none
 else if DY (num (sub l 2 10)) (sub l 10 (10+Eg l))=sub l 0 (14+Eg l)then some (num (sub l 2 10),sub l 10 (10+Eg l))else none
def W8(h:aN l):num (sub l 0 2)=(Eg l:Int)/\Eg l<65536:=by
 have hb:=h.sub 0 2
 let⟨h0,h1⟩:=Gq hb
 have hl:(sub l 0 2).length<=2:=by simp[sub];omega
 have h2:(256:Int) ^ (sub l 0 2).length<=65536:=by rcases(by omega:(sub l 0 2).length=0\/(sub l 0 2).length=1\/(sub l 0 2).length=2)with e|e|e<;>rw[e]<;>decide
 unfold Eg;omega
def oU(hB:aN l){b:LI}(h:ki l=some (s,b)):b.length+14<=l.length/\b.length<=1000/\Eg l=b.length/\s=num (sub l 2 10)/\b=sub l 10 (10+b.length)/\DY s b=sub l 0 (14+b.length):=by
 unfold ki at h;split at h;{simp at h};{
 split at h;{
 rename_i h1 h2
 simp only[kV,gy]at h;obtain⟨e1,e2⟩:=h;have hl:b.length=Eg l:=by rw[<-e2,dM af];omega
 refine⟨af,af,hl.symm,e1.symm,by rw[hl,e2],by rw[hl,<-e1,<-e2];exact h2⟩};{simp at h}}
def bs2(w:World)(b o c:Nat)(l:LI)(e:Ending)(w':World):Prop:=
 Bw w w'/\match ki l with
  |none=>e=.returned (.tuple #[yY 0 (.slice none 0 0),.int .i64 0])
  |some r=>e=.returned (.tuple #[yY r.1 (.slice (some ⟨b,o+10,none⟩) r.2.length (c-10)),.int .i64 ((r.2.length+14:Nat):Int)])
def RI(hn:n<10):Calls prog 203 #[.S p n c] w (Rb (.tuple #[yY 0 aq,.I 0]) w):=by
 have ZQ:(n:Int)<10:=af
 go_in
 go_wp2;refine dJ (v:=.tuple #[yY 0 aq,.I 0]) (by simp[results,results203,go_sem]) rfl ⟨rfl,aA.alloc ay _⟩
theorem YU{o:Nat}(en:Le l n)(h:Rd w (.S (some (Ad b o)) n c) l)(hb:aN l)(hn:10<=n)(hm:n<=2097152)(hc:n<=c)(DA:c<=maxLen):Calls prog 203 #[.S (some (Ad b o)) n c] w (bs2 w b o c l):=by
 have ZQ:¬(n:Int)<10:=af;have g1:=iC n c;have g2:=dC 10 c;have g3:=dC 2 c;have g5:c≠2:=af;have g6:c≠0:=af
 let⟨N,eN⟩:=aB (Eg l)
 let⟨eK,hK⟩:=W8 hb
 rw[<-eN]at eK hK;have HN:=ag eN;clear eN;have enn:=ae en;have Uc:(sub l 0 2).length=2:=dM af;have r1:∀(d:Nat)(w':World),Bw w w'->Rd w' (.S (some (Ad b o)) 2 d) (sub l 0 2):=λd w' bN=>(h.below bN).cut 0 2 af af _ (.inr rfl) d _ rfl;have Ob:=ag r1;have H1:=ag Uc;have HB:=ag hb;have EK:=ag eK;obtain⟨M,eM⟩:∃M:Nat,(10:Int)+(N:Int)=(M:Int):=⟨10+N,af⟩;obtain⟨Z,eZ⟩:∃Z:Nat,(M:Int)+4=(Z:Int):=⟨M+4,af⟩;have hZN:Z=14+N:=af;have hMN:M=10+N:=af;have HZ:=ag (ai hZN hMN);clear hZN hMN;by_cases hs:n<Z;{
 have Ho:=aU n Z
 go_in
 go_wp2_with fail;refine(kL H1 (ae Ob _ _ (by exact aA.alloc ay _)) (HB.sub 0 2) af af).mono ?_;rintro e w1⟨rfl,aG⟩;rw[ae EK];have c0:w1.cell? (Ad w.heap.size 0)=some (.U 0):=ah al aG;have c1:w1.cell? (Ad w.heap.size 1)=some aq:=ah al aG;have f1:∀o,w1.frozen? (Ad w.heap.size o)=false:=cG al aG al;have b1:Bw w w1:=aj (aA.alloc ay _) aG;go_wp2;refine dJ (v:=.tuple #[yY 0 aq,.I 0]) (by simp[results,results203,go_sem,c0,c1]) rfl ?_;refine⟨?_,?_⟩;{
 repeat(refine ig ?_ al _)
 exact b1};{
 have e:ki l=none:=by unfold ki;have:=ae HZ;have:=ae HN;rw[bO af]
 rw[e]}};{
 have Ho:=dB n Z;have q1:=iC M c;have q2:=iC Z c;have q3:=dC 10 M;have q4:c≠10:=af;have q5:=dC 0 Z;have Ub:(sub l 2 10).length=8:=dM af;have cq1:(sub l 10 M).length=N:=by rw[dM af];have:=ae HZ;omega
 have cq0:(sub l 0 Z).length=Z:=by rw[dM af];omega
 have eMN:M-10=N:=aI (ae HZ);have r2:∀(d:Nat)(w':World),Bw w w'->Rd w' (.S (some (Ad b (o+2))) 8 d) (sub l 2 10):=λd w' bN=>(h.below bN).cut 2 10 af af _ (.inr rfl) d _ rfl;have r3:∀(d:Nat)(w':World),Bw w w'->Rd w' (.S (some (Ad b (o+10))) (M-10) d) (sub l 10 M):=λd w' bN=>(h.below bN).cut 10 M af af _ (.inr rfl) d _ rfl;have r4:∀(d:Nat)(w':World),Bw w w'->Rd w' (.S (some (Ad b o)) Z d) (sub l 0 Z):=λd w' bN=>(h.below bN).cut 0 Z af af _ (.inr rfl) d _ rfl
 let⟨s0,s1⟩:=kM (HB.sub 2 10) af
 have ZB:=ag r2;have JK:=ag r3;have HR4:=ag r4;have H2:=ag Ub;have H3:=ag cq1;have H4:=ag cq0
 go_in
 go_wp2_with fail;refine(kL H1 (ae Ob _ _ (by exact aA.alloc ay _)) (HB.sub 0 2) af af).mono ?_;rintro e w1⟨rfl,aG⟩;rw[ae EK];have c0:w1.cell? (Ad w.heap.size 0)=some (.U 0):=ah al aG;have c1:w1.cell? (Ad w.heap.size 1)=some aq:=ah al aG;have f1:∀o,w1.frozen? (Ad w.heap.size o)=false:=cG al aG al;have b1:Bw w w1:=aj (aA.alloc ay _) aG;have ua:∀(vs:Array Value)(w:World),(callFunc 204 vs).run prog w=.ok (.enter 204 vs) w:=λvs w=>bg
 go_upto_region 7 with fail
 go_cut[6](λrp wc=>∃R,rp=.pointer (some (Ad R 0))/\w1.heap.size<=R/\Ty wc R (.U (num (sub l 2 10))) (.S (some (Ad b (o+10))) N (c-10))/\Bw w1 wc)
 case first=>(
 go_region_law(first
  |(refine im aJ aJ aJ (λ_=>ua _ _) (kL H2 (ae ZB _ _ (by first|exact(b1.alloc b1.size _).drew|exact b1.drew.alloc b1.size _)) (HB.sub 2 10) af af) ?_;rintro e w2⟨rfl,aK⟩;refine⟨_,rfl,?_⟩;have m0:w2.cell? ⟨w1.heap.size,0,none⟩=some (.int .u64 0):=ah al aK;have m1:w2.cell? ⟨w1.heap.size,1,none⟩=some (.slice none 0 0):=ah al aK;have mf:∀o,w2.frozen? ⟨w1.heap.size,o,none⟩=false:=cG al aK al;have Tp:Below w1.heap.size w1 w2:=aj (by first|exact(aA.alloc ay _).drew|exact aA.drew.alloc ay _) aK)
  |(refine im aJ aJ aJ (λ_=>ua _ _) (kL H2 (ae ZB _ _ (by exact b1.drew)) (HB.sub 2 10) af af) ?_;rintro e w2⟨rfl,aK⟩;refine⟨_,rfl,?_⟩;have Tp:Below w1.heap.size w1 w2:=aj (cQ w1.heap.size w1).drew aK))
 {go_wp2_with fail;go_meet;exact⟨w2.heap.size,rfl,Tp.size,by simp[Ty],Tp.alloc Tp.size _⟩};{go_wp2_with fail;go_meet;refine⟨w1.heap.size,rfl,iD _,⟨?_,?_⟩,(Tp.setCell al _).setCell al _⟩;{simp[go_sem,m0,m1]};{simp[go_sem,m0,m1]}})
 case rest=>(
 obtain⟨R,rfl,hR,A0,En⟩:=hcut;have cc0:=ah c0 En;have cc1:=ah c1 En;have ff:=cG f1 En (nZ w1 _ c0);have bc:=aj b1 En;have hRw:w.heap.size<R:=iq (nZ w1 _ c0) hR;obtain⟨K,E,eE,bE,hC,Ch⟩:∃(K:Nat)(E:LI),E.length=K/\aN E/\(∀w':World,Bw w w'->Cp 235 #[yY (num (sub l 2 10)) (.S (some (Ad b (o+10))) N (c-10))] w' λe w''=>∃p' c',e=.returned (.S p' K c')/\Own w'.heap.size w'' (.S p' K c') E/\Bw w' w'')/\(ki l=if E=sub l 0 Z then some (num (sub l 2 10),sub l 10 M)else none):=by
  let⟨jd,jJ⟩:=ae HZ
  have hN:=ae HN;by_cases Vj:N<=1000;{refine⟨N+14,DY (num (sub l 2 10)) (sub l 10 M),by rw[CQ,ae H3],PO (HB.sub 10 M),λw' bN=>?_,?_⟩;{have hr:=ae JK (c-10) w' bN;rw[eMN]at hr;exact US H3 hr (HB.sub 10 M) Vj s0 s1};{unfold ki;rw[<-hN,<-jJ,<-jd,bH af]}};{
 refine⟨0,[],rfl,by intro z hz;simp at hz,λw' bN=>?_,?_⟩;{refine(Ej af).mono ?_;rintro e w''⟨rfl,cF5⟩;exact⟨none,0,rfl,gm _ _ _ _,cF5⟩};{
 have bS:¬[]=sub l 0 Z:=by intro e;have:=tX List.length e;rw[ae H4]at this;simp at this;omega
 unfold ki;rw[<-hN,bO af,bH bS]}}
 have HC:=ag hC;have HE:=ag (ai eE (ai bE Ch));go_wp2_with fail
 go_region_held3 (λw'=>Ty w' R (.U (num (sub l 2 10))) (.S (some (Ad b (o+10))) N (c-10))) (first|exact A0|exact A1|exact A2)
  (first
   |(go_at_call 235;refine(ae HC _ (by exact bc.drew)).mono ?_;rintro e w2⟨p2,c2,rfl,o2,Ap⟩;have aK:Below wc.heap.size wc w2:=aj (cQ wc.heap.size wc).drew Ap;have A1:=A0.below aK)
   |(go_at_call 47;refine(gP HE.1 H4 (by exact o2.rd) (by exact HR4 _ _ (aj bc aK)) HE.2.1 (HB.sub 0 Z)).mono ?_;rintro e w3⟨rfl,br⟩;have A2:=A1.below br))
 have aN3:=aj aK br;have b3:=aj bc aN3;have d0:=ah cc0 aN3;have d1:=ah cc1 aN3;have df:=cG ff aN3 (nZ wc _ cc0);obtain⟨-,-,Ch⟩:=ae HE;by_cases hq:E=sub l 0 Z;{
 rw[bO hq]at Ch;have hd:decide (E=sub l 0 Z)=true:=by simp[hq]
 rw[hd];have Wf:=ag Ch;have HQ:=ag hq;obtain⟨A3,A4⟩:=A2;go_wp2;have bS:w.heap.size≠R:=af;refine dJ (v:=.tuple #[yY (num (sub l 2 10)) (.S (some (Ad b (o+10))) N (c-10)),.I Z]) (by simp[results,results203,go_sem,d0,d1,A3,A4,bS]) rfl ?_;refine⟨?_,?_⟩;{
 repeat(refine ig ?_ al _)
 exact b3};{
 rw[ae Wf]
 let⟨jd,jJ⟩:=ae HZ
 simp only[ae H3];rw[show N+14=Z by omega]}};{
 rw[bH hq]at Ch;have hd:decide (E=sub l 0 Z)=false:=by simp[hq]
 rw[hd];have Wf:=ag Ch;go_wp2;refine dJ (v:=.tuple #[yY 0 aq,.I 0]) (by simp[results,results203,go_sem,d0,d1]) rfl ?_;refine⟨?_,?_⟩;{
 repeat(refine ig ?_ al _)
 exact b3};{rw[ae Wf]}})}
attribute [local go_sem] Oper.semAt_some
structure It where
 s:Int
 q:OA
 d:Nat
 b:LI
 z:Nat
def Good(w:World)(x:It):Prop:=x.z=0\/(x.z=x.b.length+14/\x.b.length<=1000/\aN x.b/\0<=x.s/\x.s<2^64/\Rd w (.S x.q x.b.length x.d) x.b)
abbrev Itw(w:World):={x:It // Good w x}
def key(x:It):Option R1:=if x.z=0 then none else some (x.s,x.b)
abbrev an7{w:World}(x:Itw w):Array Value:=#[yY x.1.s (.S x.1.q x.1.b.length x.1.d),.I x.1.z]
def yl:Nat->LI->List (Option R1)
 |0,_=>[none]
 |f+1,l=>match ki l with
  |none=>[none]
  |some r=>some r::yl f (l.drop (r.2.length+14))
def Ew(h:ki l=none):yl f l=[none]:=by cases f<;>simp[yl,h]
def qH{r:R1}(h:ki l=some r):yl (f+1) l=some r::yl f (l.drop (r.2.length+14)):=by simp[yl,h]
theorem Ln(hf:0<f):[ki l] <+: yl f l:=by
 obtain⟨f',rfl⟩:∃f',f=f'+1:=⟨f-1,af⟩;cases h:ki l with
 |none=>rw[Ew h];exact List.prefix_refl _
 |some r=>rw[qH h];exact⟨_,rfl⟩
def Gf(h:l.length<14):ki l=none:=by unfold ki;rw[bO (by omega)]
def aN.drop(h:aN l)(n:Nat):aN (l.drop n):=λz hz=>h z (GS hz)
theorem Ia{wr:World}(em:l.length=m)(hr:Rd w (.S q m d) l)(hb:Bw w wr)(hB:aN l)(hm:m<=2097152)(hd:m<=d)(hdm:d<=maxLen):Cp 203 #[.S q m d] wr λe w'=>Bw wr w'/\∃x:Itw w,key x.1=ki l/\e=.returned (.tuple (an7 x)):=by
 by_cases h10:m<10;{refine(RI h10).mono ?_;rintro e w'⟨rfl,bN⟩;refine⟨bN,⟨⟨0,none,0,[],0⟩,.inl rfl⟩,?_,rfl⟩;rw[Gf af];rfl};{
 obtain⟨b,o,rfl,-,-⟩:=hr.at af;refine(YU em (hr.below hb) hB af hm hd hdm).mono ?_;rintro e w'⟨bN,h⟩;refine⟨bN,?_⟩;cases Ch:ki l with
 |none=>
  rw[Ch]at h;exact⟨⟨⟨0,none,0,[],0⟩,.inl rfl⟩,rfl,h⟩
 |some r=>
  rw[Ch]at h;obtain⟨s,bd⟩:=r
  let⟨h1,h2,h3,h4,h5,h6⟩:=oU hB Ch
  let⟨s0,s1⟩:=kM (hB.sub 2 10) (by simp[sub];omega)
  refine⟨⟨⟨s,some (Ad b (o+10)),d-10,bd,bd.length+14⟩,.inr ⟨rfl,h2,?_,by rw[h4];exact s0,by rw[h4];exact s1,?_⟩⟩,by simp[key],h⟩;{show aN bd;rw[h5];exact hB.sub _ _};{have:=hr.cut 10 (10+bd.length) af af (some (Ad b (o+10))) (.inr rfl) (d-10) bd h5;rw[show 10+bd.length-10=bd.length by omega]at this;exact this}}
def mw(hb:Bw w w'):w.grownBy w' none:=⟨hb.os,hb.tape,hb.output,hb.size,λk hk _=>hb.block k hk⟩
def Mj{a:OA}:CallsIn Fence.wide n prog 161 #[.S a len cap] w λe w'=>e=.returned (.func (.func 202) #[] #[.pointer (some (Ad w.heap.size 0))])/\w'=w.alloc (.cells #[.S a len cap] 22):=by
 refine mJ func161 rfl km ?_ rfl;simp only[ntmps161,Er,Nat.reduceAdd,Nat.reduceSub]
 gi_wp2
 go_ret;exact⟨rfl,rfl⟩
set_option maxRecDepth 100000 in
def bG5(hn:1<=n)(hR:Rd w (.S p len cap) l)(hB:aN l)(el:l.length=len)(hlen:len<=1048576)(ud:len<=cap)(DA:cap<=maxLen)(hp:(p=none/\cap=0)\/∃b o,p=some (Ad b o))(J Jx:List (Itw w)->World->Prop)(hJ:AbidesFrom W.heap.size J)(hY:∀pre x W,J pre W->pre.length<len+2->YieldAt Fence.wide (n-1) prog L (an7 x) W λe W'=>
   (e=.returned (.bool true)/\J (pre++[x]) W'/\Eu w.heap.size Bs W W')\/(e=.returned (.bool false)/\Jx (pre++[x]) W'))(hBs:W.cell? (Ad Bs 0)=some (.S p len cap))(hbW:Bw w W)(h0:J [] W):CallsIn Fence.wide n prog 202 #[.func (.yield L) #[] #[],.pointer (some (Ad Bs 0))] W λe W'=>(∃v,e=.returned v)∧
   ((∃ys:List (Itw w),(∃pre x,ys=pre++[x]/\x.1.z=0)/\J ys W')\/(∃pre:List (Itw w),(pre.map λx=>key x.1) <+: yl (len+1) l/\Jx pre W')):=by
 refine mJ func202 rfl km ?_ rfl;simp only[ntmps202,Er,Nat.reduceAdd,Nat.reduceSub]
 gi_wp2
 gi_loopw [3] (λi wr=>∃(pre:List (Itw w))(a f:Nat),a<=len/\i=.I a/\f+pre.length=len+1/\pre.length<=a/\(pre.map λx=>key x.1)++yl f (l.drop a)=yl (len+1) l/\J pre wr/\Eu w.heap.size Bs W wr) (λi _=>len+1-(intOf i).toNat)
 case atStart=>exact⟨[],0,len+1,gr _,rfl,rfl,iD _,rfl,h0,Eu.refl _ _ _⟩
 case round=>(
 obtain⟨pre,a,f,Vm,rfl,Vf,KO,iL,hJp,hkp⟩:=hrel;have yr:Bw w wr:=hbW.trans hkp.1;have qg:wr.cell? (Ad Bs 0)=some (.S p len cap):=hkp.2.trans hBs;have g1:=iC a len;have g2:=iC len cap;have g3:=dC 0 a;rcases hp with⟨rfl,rfl⟩|⟨b,o,rfl⟩;{
 obtain rfl:len=0:=af;obtain rfl:a=0:=af;have Rm:Rd w (.S (none) (0) (0)) (l.drop 0):=sU▸hR;have HF:=ag (Ia (by rw[r9];omega) Rm yr (hB.drop _) af af af);have HX:=ag (ai iL (ai Vf KO));have HJ:=ag hJp;have HK:=ag hkp;have HBR:=ag (ai hB yr);unfold maxLen at DA
 gi_wp2_with fail
 refine⟨km,?_⟩;refine(xj.2 HF).mono ?_;rintro e w1⟨aG,⟨x,yE⟩,cW,rfl⟩
 let⟨iL,Vf,KO⟩:=ae HX
 let⟨hB,yr⟩:=ae HBR
 have as2:w1.cell? (Ad Bs 0)=wr.cell? (Ad Bs 0):=(ah qg aG).trans qg.symm;have aq8:Eu w.heap.size Bs W w1:=HK.trans ⟨aG.mono yr.size,as2⟩;have hJ1:J pre w1:=hJ pre _ _ none HJ (mw aG) (λr e=>by cases e);have hJ2:J pre (w1.alloc (.cells #[.U x.s,.S x.q x.b.length x.d] 74)):=hJ pre _ _ none hJ1 (Qx _ _ none) (λr e=>by cases e);have hzw:=(aj yr aG).size;have as1:=ah (ah qg aG) ((cQ w1.heap.size w1).alloc ay (.cells #[.U x.s,.S x.q x.b.length x.d] 74));have aq7:Eu w.heap.size Bs W (w1.alloc (.cells #[.U x.s,.S x.q x.b.length x.d] 74)):=aq8.trans ⟨aA.alloc hzw _,as1.trans (ah qg aG).symm⟩
 let⟨fn,tmps,assign,body,hy,hRd⟩:=hY pre ⟨x,yE⟩ _ hJ2 af
 try dsimp only at hy
 have hxz:x.z<=1014:=by rcases yE with h|⟨h,h',_⟩<;>omega
 have HM:=ag (ai iL (ai Vf (ai KO (ai hB (ai cW yE)))));have H2:=ag aq7
 gi_wp2
 refine hRd.mono ?_;rintro e W3(⟨rfl,hJ3,tZ⟩|⟨rfl,Ni⟩);{
 by_cases hz:x.z=0;{
 have Ol:((x.z:Int)==0)=true:=by simp[hz]
 gi_wp2
 refine dJ (uO rfl _ _ _) rfl ?_;exact⟨⟨_,rfl⟩,.inl ⟨_,⟨pre,⟨x,yE⟩,rfl,hz⟩,hJ3⟩⟩};{
 have Ol:((x.z:Int)==0)=false:=by simp[hz]
 gi_wp2
 go_roundw
 case rel=>(
 let⟨iL,Vf,KO,hB,cW,_⟩:=ae HM
 have hk:ki (l.drop 0)=some (x.s,x.b):=by rw[<-cW];simp[key,hz]
 let⟨r1,r2,_⟩:=oU (hB.drop _) hk
 rcases id yE with h|⟨h,_⟩;{exact absurd h hz};{rw[r9]at r1;refine⟨pre++[⟨x,yE⟩],0+x.z,f-1,af,by go_num,bq,bq,?_,hJ3,H2.trans tZ⟩;obtain⟨f',rfl⟩:∃f',f=f'+1:=⟨f-1,af⟩;rw[qH hk]at iL;rw[l8,sX,Aa,h,<-Gv];rw[<-iL];simp[key,hz]})
 case measure=>simp[intOf];omega}}
 {
 gi_wp2
 refine dJ (uO rfl _ _ _) rfl ?_;refine⟨⟨_,rfl⟩,.inr ⟨_,?_,Ni⟩⟩
 let⟨iL,Vf,KO,hB,cW,_⟩:=ae HM
 rw[l8,<-iL];refine(aj3 _).2 ?_;simp only[iH,Eb,cW];exact Ln af}};{
 by_cases hq:cap=a;{
 obtain rfl:len=a:=af;obtain rfl:cap=len:=hq;have Rm:Rd w (.S (some (Ad b o)) (0) (0)) (l.drop cap):=⟨_,0,by rw[aj8 af];rfl,.inl (aj8 af)⟩;have HF:=ag (Ia (by rw[r9];omega) Rm yr (hB.drop _) af af af);have HX:=ag (ai iL (ai Vf KO));have HJ:=ag hJp;have HK:=ag hkp;have HBR:=ag (ai hB yr);unfold maxLen at DA
 gi_wp2_with fail
 refine⟨km,?_⟩;refine(xj.2 HF).mono ?_;rintro e w1⟨aG,⟨x,yE⟩,cW,rfl⟩
 let⟨iL,Vf,KO⟩:=ae HX
 let⟨hB,yr⟩:=ae HBR
 have as2:w1.cell? (Ad Bs 0)=wr.cell? (Ad Bs 0):=(ah qg aG).trans qg.symm;have aq8:Eu w.heap.size Bs W w1:=HK.trans ⟨aG.mono yr.size,as2⟩;have hJ1:J pre w1:=hJ pre _ _ none HJ (mw aG) (λr e=>by cases e);have hJ2:J pre (w1.alloc (.cells #[.U x.s,.S x.q x.b.length x.d] 74)):=hJ pre _ _ none hJ1 (Qx _ _ none) (λr e=>by cases e);have hzw:=(aj yr aG).size;have as1:=ah (ah qg aG) ((cQ w1.heap.size w1).alloc ay (.cells #[.U x.s,.S x.q x.b.length x.d] 74));have aq7:Eu w.heap.size Bs W (w1.alloc (.cells #[.U x.s,.S x.q x.b.length x.d] 74)):=aq8.trans ⟨aA.alloc hzw _,as1.trans (ah qg aG).symm⟩
 let⟨fn,tmps,assign,body,hy,hRd⟩:=hY pre ⟨x,yE⟩ _ hJ2 af
 try dsimp only at hy
 have hxz:x.z<=1014:=by rcases yE with h|⟨h,h',_⟩<;>omega
 have HM:=ag (ai iL (ai Vf (ai KO (ai hB (ai cW yE)))));have H2:=ag aq7
 gi_wp2
 refine hRd.mono ?_;rintro e W3(⟨rfl,hJ3,tZ⟩|⟨rfl,Ni⟩);{
 by_cases hz:x.z=0;{
 have Ol:((x.z:Int)==0)=true:=by simp[hz]
 gi_wp2
 refine dJ (uO rfl _ _ _) rfl ?_;exact⟨⟨_,rfl⟩,.inl ⟨_,⟨pre,⟨x,yE⟩,rfl,hz⟩,hJ3⟩⟩};{
 have Ol:((x.z:Int)==0)=false:=by simp[hz]
 gi_wp2
 go_roundw
 case rel=>(
 let⟨iL,Vf,KO,hB,cW,_⟩:=ae HM
 have hk:ki (l.drop cap)=some (x.s,x.b):=by rw[<-cW];simp[key,hz]
 let⟨r1,r2,_⟩:=oU (hB.drop _) hk
 rcases id yE with h|⟨h,_⟩;{exact absurd h hz};{rw[r9]at r1;refine⟨pre++[⟨x,yE⟩],cap+x.z,f-1,af,by go_num,bq,bq,?_,hJ3,H2.trans tZ⟩;obtain⟨f',rfl⟩:∃f',f=f'+1:=⟨f-1,af⟩;rw[qH hk]at iL;rw[l8,sX,Aa,h,<-Gv];rw[<-iL];simp[key,hz]})
 case measure=>simp[intOf];omega}}
 {
 gi_wp2
 refine dJ (uO rfl _ _ _) rfl ?_;refine⟨⟨_,rfl⟩,.inr ⟨_,?_,Ni⟩⟩
 let⟨iL,Vf,KO,hB,cW,_⟩:=ae HM
 rw[l8,<-iL];refine(aj3 _).2 ?_;simp only[iH,Eb,cW];exact Ln af}};{
 have um:cap≠a:=hq;have Rm:Rd w (.S (some (Ad b (o+a))) (len-a) (cap-a)) (l.drop a):=hR.cut a len Vm af _ (.inr rfl) _ _ (by rw[lD af]);have HF:=ag (Ia (by rw[r9];omega) Rm yr (hB.drop _) af af af);have HX:=ag (ai iL (ai Vf KO));have HJ:=ag hJp;have HK:=ag hkp;have HBR:=ag (ai hB yr);unfold maxLen at DA
 gi_wp2_with fail
 refine⟨km,?_⟩;refine(xj.2 HF).mono ?_;rintro e w1⟨aG,⟨x,yE⟩,cW,rfl⟩
 let⟨iL,Vf,KO⟩:=ae HX
 let⟨hB,yr⟩:=ae HBR
 have as2:w1.cell? (Ad Bs 0)=wr.cell? (Ad Bs 0):=(ah qg aG).trans qg.symm;have aq8:Eu w.heap.size Bs W w1:=HK.trans ⟨aG.mono yr.size,as2⟩;have hJ1:J pre w1:=hJ pre _ _ none HJ (mw aG) (λr e=>by cases e);have hJ2:J pre (w1.alloc (.cells #[.U x.s,.S x.q x.b.length x.d] 74)):=hJ pre _ _ none hJ1 (Qx _ _ none) (λr e=>by cases e);have hzw:=(aj yr aG).size;have as1:=ah (ah qg aG) ((cQ w1.heap.size w1).alloc ay (.cells #[.U x.s,.S x.q x.b.length x.d] 74));have aq7:Eu w.heap.size Bs W (w1.alloc (.cells #[.U x.s,.S x.q x.b.length x.d] 74)):=aq8.trans ⟨aA.alloc hzw _,as1.trans (ah qg aG).symm⟩
 let⟨fn,tmps,assign,body,hy,hRd⟩:=hY pre ⟨x,yE⟩ _ hJ2 af
 try dsimp only at hy
 have hxz:x.z<=1014:=by rcases yE with h|⟨h,h',_⟩<;>omega
 have HM:=ag (ai iL (ai Vf (ai KO (ai hB (ai cW yE)))));have H2:=ag aq7
 gi_wp2
 refine hRd.mono ?_;rintro e W3(⟨rfl,hJ3,tZ⟩|⟨rfl,Ni⟩);{
 by_cases hz:x.z=0;{
 have Ol:((x.z:Int)==0)=true:=by simp[hz]
 gi_wp2
 refine dJ (uO rfl _ _ _) rfl ?_;exact⟨⟨_,rfl⟩,.inl ⟨_,⟨pre,⟨x,yE⟩,rfl,hz⟩,hJ3⟩⟩};{
 have Ol:((x.z:Int)==0)=false:=by simp[hz]
 gi_wp2
 go_roundw
 case rel=>(
 let⟨iL,Vf,KO,hB,cW,_⟩:=ae HM
 have hk:ki (l.drop a)=some (x.s,x.b):=by rw[<-cW];simp[key,hz]
 let⟨r1,r2,_⟩:=oU (hB.drop _) hk
 rcases id yE with h|⟨h,_⟩;{exact absurd h hz};{rw[r9]at r1;refine⟨pre++[⟨x,yE⟩],a+x.z,f-1,af,by go_num,bq,bq,?_,hJ3,H2.trans tZ⟩;obtain⟨f',rfl⟩:∃f',f=f'+1:=⟨f-1,af⟩;rw[qH hk]at iL;rw[l8,sX,Aa,h,<-Gv];rw[<-iL];simp[key,hz]})
 case measure=>simp[intOf];omega}}
 {
 gi_wp2
 refine dJ (uO rfl _ _ _) rfl ?_;refine⟨⟨_,rfl⟩,.inr ⟨_,?_,Ni⟩⟩
 let⟨iL,Vf,KO,hB,cW,_⟩:=ae HM
 rw[l8,<-iL];refine(aj3 _).2 ?_;simp only[iH,Eb,cW];exact Ln af}}})
theorem Ms{l:Nat}{Q:Exit->Act->World->Prop}(hd:∀c,o.op≠.defer c)(h:o.wp P a w K Q):o.wpIn (Fence.wide.inRound l) n P a w K Q:=by
 refine⟨λ_ _=>trivial,?_⟩;have e:o.semAt (Fence.wide.inRound l).round a.eval=execOp a.eval o:=aj2 _ _ _ hd;rw[e];unfold Oper.wp at h;generalize(execOp a.eval o).run P w=r at*;cases r with
 |ok x w'=>
  cases x<;>simp only[Oper.uponIn,Oper.upon]at h⊢
  case value=>exact h
  case skip=>exact h
  case defer=>exact h
  case enter f args=>exact⟨λh0=>(by cases h0),CallsIn.inRound l (xj.2 h)⟩
  case row row args=>exact⟨λh0=>(by cases h0),λc cs _=>let⟨v,w2,r,s⟩:=h c cs;⟨v,w2,r,stepsIn_wide.2 s⟩⟩
 |halt x w'=>cases x<;>simp only[Oper.uponIn,Oper.upon]at h⊢<;>exact h
theorem iO{l:Nat}{Q:Exit->Act->World->Prop}(hd:∀o∈ops.toList,∀c,o.op≠.defer c)(hl:¬LetsOut Q):∀(fuel:Nat)(listed:Array Bool)(a:Act)(w:World),
  wpAny P md ops Q fuel listed a w->wpAnyIn (Fence.wide.inRound l) n P md ops Q fuel listed a w
 |0,_,_,_,h=>h
 | fuel+1,listed,a,w,h=>by
  refine⟨h.1,λi hi=>?_⟩;have h1:=h.2 i hi;unfold wpOp at h1;unfold wpOpIn;cases ho:ops[i]? with
  |none=>
   simp only[ho]at h1⊢;exact iO hd hl fuel _ a w h1
  |some o=>
   simp only[ho]at h1⊢;split;{
 rename_i hw
 rw[bO hw]at h1;rcases h1 with h1|⟨_,h1⟩;{exact Oper.wpIn_mono (λa w h=>iO hd hl fuel _ a w h) (Ms (hd o (by rw[Array.mem_toList_iff];exact Array.mem_of_getElem? ho)) h1)};{exact absurd h1 hl}};{
 rename_i hw
 rw[bH hw]at h1;exact⟨λ_ _=>trivial,iO hd hl fuel _ _ w h1⟩}
def Mx(ops:Array Oper):Bool:=ops.toList.all λo=>match o.op with| .defer _=>false|_=>true
def zt(h:Mx ops=true):∀o∈ops.toList,∀c,o.op≠.defer c:=by
 intro o ho c e;have:=jw.1 h o ho;rw[e]at this;cases this
def qJ{l:Nat}(S:World->Prop){id:Nat}{Q:Exit->Act->World->Prop}(hm:P.follows .mixedOrders=true)(hd:Mx ops=true)(hl:¬LetsOut Q)(hS:S w.drew)(h:S w.drew->wpAnyH P .any ops Q S ops.size (Array.replicate ops.size false) a w.drew):(Code.region id ops true).wpIn (Fence.wide.inRound l) n P Q a w:=
 wpIn_region_any hm (iO (zt hd) hl _ _ _ _ (wpAny_of_held _ _ _ _ (h hS)))
def IF:Option Int->Int->Bool
 |none,_=>true
 |some t,s=>decide (t≠18446744073709551615)&&decide (s=t+1)
def Co:Option Int->List (Option R1)->List R1
 |_,[]=>[]
 |_,none::_=>[]
 |t,some r::rest=>if IF t r.1 then r::Co (some r.1) rest else[]
def iJ(rs:List R1):Option Int:=rs.getLast?.map (·.1)
def sC:List R1->Nat
 |[]=>0
 |r::rs=>r.2.length+14+sC rs
def xK(a b:List R1):sC (a++b)=sC a+sC b:=by induction a with|nil=>simp[sC]|cons r a ih=>simp[sC,ih];omega
def Hf(rs:List R1)(r:R1):iJ (rs++[r])=some r.1:=by simp[iJ]
def DI{t:Int}(s0:0<=s)(s1:s<2^64)(t0:0<=t)(t1:t<2^64):Calls Tryz.prog 162 #[.U s,.U t] w λe w'=>e=.returned (.bool (IF (some t) s))/\w'=w:=by
 by_cases h:t=18446744073709551615;{
 have e:IF (some t) s=false:=by simp[IF,h]
 rw[e];have hb:(t != 18446744073709551615)=false:=by simp[h]
 clear e;subst h;go_enter Tryz.func162,Tryz.ntmps162;go_wp2;go_ret;exact⟨rfl,rfl⟩};{
 have e:IF (some t) s=decide (s=t+1):=by simp[IF,h]
 rw[e];have hb:(t != 18446744073709551615)=true:=by simp[h]
 have hw:IntKind.u64.wrap (t+1)=t+1:=u64_wrap_id _ af af;by_cases hs:s=t+1;{
 have h2:(s==t+1)=true:=by simp[hs]
 have h3:decide (s=t+1)=true:=by simp[hs]
 rw[h3];clear e h hs h3;go_enter Tryz.func162,Tryz.ntmps162;go_wp2;go_ret;exact⟨rfl,rfl⟩};{
 have h2:(s==t+1)=false:=by simp[hs]
 have h3:decide (s=t+1)=false:=by simp[hs]
 rw[h3];clear e h hs h3;go_enter Tryz.func162,Tryz.ntmps162;go_wp2;go_ret;exact⟨rfl,rfl⟩}}
def Tryz.infoRec:(Tryz.prog.info? 74).map (λi=>(i.zero,i.size,i.bytes))=some (some (.agg #[.U 0,aq]),2,32):=by kernel_rfl
def Lj{v':Value}{rs:List R1}{r:R1}(h:gR B w v rs vs)(hu:Own B w u r.2)(Z7:∀u'∈vs,IC u' u)(h1:w'.ownsRow B 74 2 v' (rs.length+1) (jG rs vs++[.U r.1,u]))(hg:w.grownBy w' v.ownBlock):gR B w' v' (rs++[r]) (vs++[u]):=by
 have kp:∀{x:Value}{m:LI},Own B w x m->Own B w' x m:=λ{x m}hx=>Own.td (vs:=[v]) hx (Kept.Gk hg al) (λy hy b e1 e2=>by simp only[nE]at hy;subst hy;exact h.apart hx b e2 e1);refine⟨by simp[h.len],?_,?_,?_⟩;{rw[wY rs vs r u h.len,gU];exact h1};{
 intro i r' x hr hx;by_cases hi:i<rs.length;{rw[kR hi]at hr;rw[kR (h.len▸hi)]at hx;exact kp (h.own i r' x hr hx)};{
 have hi':i=rs.length:=by have:=(aV.1 hr).1;simp at this;omega
 subst hi';rw[nF ay,BQ]at hr;rw[nF (h.len▸iD _),h.len,BQ]at hx;simp at hr hx;subst hr hx;exact kp hu}};{rw[aT9];exact⟨h.ap,List.pairwise_singleton _ _,λa ha b hb=>by simp only[nE]at hb;subst hb;exact Z7 a ha⟩}
theorem Qg(tv:w.cell? (Ad g 0)=some (.U s))(jt:w.cell? (Ad g 1)=some u):∀j x,([Value.U s,u]:List Value)[j]?=some x->w.cell? (((Ad g 0):Addr).add j)=some x:=by
 intro j x hj
 match j,hj with
 |0,hj=>simp at hj;subst hj;simpa[zI]using tv
 |1,hj=>simp at hj;subst hj;simpa[zI]using jt
 |j+2,hj=>simp at hj
def LY{Q:Exit->Act->World->Prop}(ng:o.guard=none){s:Operand}(ho:o.op=.call {callee:=.builtin .append,args:=#[s,x],argTypes:=#[70,70]}){rs:List R1}(en:Le rs n)(hs:a.eval s=v)(hx:a.eval x=.T g 1 1)(h:gR B w v rs vs){r:R1}(tv:w.cell? (Ad g 0)=some (.U r.1))(jt:w.cell? (Ad g 1)=some u)(hu:Own B w u r.2)(Z7:∀u'∈vs,IC u' u)(hl:n<=2097152)(hB:B<=w.heap.size)(hK:∀p' c' w',gR B w' (.S p' (n+1) c') (rs++[r]) (vs++[u])->w.grownBy w' v.ownBlock->K (a.put o.dst (.S p' (n+1) c')) w'):if Region.wanted o (yielded ops a.tmps)=true then Oper.wp Tryz.prog o a w K Q else E:=by
 have hw:Region.wanted o (yielded ops a.tmps)=true:=by simp[Region.wanted,ng]
 rw[bO hw]
 let⟨i,hi,qx,jd,jJ⟩:=fD Tryz.infoRec
 have e:=ae en;subst e
 let⟨pu,cu,eu⟩:=hu.form
 refine wp_append_own w s x 70 ho B 74 i _ 2 32 Tryz.underlying70 hi qx jd jJ rfl bj v _ _ hs h.row (Ad g 0) 1 1 [.U r.1,u] hx rfl (Qg tv jt) ?_ iB af hB ?_;{
 intro y hy;simp only[jv,GF,xl]at hy;rcases hy with rfl|rfl;{rfl}
 {rw[eu];rfl}};{intro v' w' h1 h2 _;have hR:=Lj h hu Z7 h1 h2;obtain⟨p',c',rfl⟩:=hR.form;have:=hK p' c' w';rw[gU]at hR;exact(by simpa using this hR h2)}
def LU{Q:Exit->Act->World->Prop}(hw:Region.wanted o (yielded ops a.tmps)=true){f:FuncId} (ho:o.op=.call {callee:=.value (.func f),args:=#[x1,x2],argTypes:=Lw})(h1:a.eval x1=v1)(h2:a.eval x2=v2)(ua:∀vs,(callFunc f vs).run P w=.ok (.enter f vs) w)(hc:Calls P f #[v1,v2] w R)(hR:∀e w',R e w'->∃v,e=.returned v/\K (a.put o.dst v) w'):if Region.wanted o (yielded ops a.tmps)=true then Oper.wp P o a w K Q else E:=by
 rw[bO hw];have dK:(execOp a.eval o).run P w=.ok (.enter f #[v1,v2]) w:=by subst h1 h2;unfold execOp;simp[go_sem,ho,resolve,invoke,ua]
 show o.upon P a K Q _;rw[dK,Ki];refine hc.mono ?_;intro e w' h;obtain⟨v,rfl,hk⟩:=hR e w' h;exact hk
def gR.lt{rs:List R1}(h:gR B w v rs vs):∀u∈vs,∀b,u.ownBlock=some b->b<w.heap.size:=by
 intro u hu b e
 let⟨i,hi⟩:=uL hu
 obtain⟨r,hr⟩:∃r,rs[i]?=some r:=⟨_,aY (h.len▸(aV.1 hi).1)⟩;exact(Own.lt (h.own i r u hr hi) b e).2
def gR.Wz{rs:List R1}(h:gR B w v rs vs):∀b,v.ownBlock=some b->B<=b/\b<w.heap.size:=Gy h.row
def gR.af4{rs:List R1}(h:gR B w v rs vs):∀(j:Nat)(o:Obj),v.ownBlock=some j->w.heap[j]?=some o->o.isCells=true:=by
 intro j o e ho;rcases h.row.2 with⟨rfl,_⟩|⟨g,cap,cur,rfl,_,hg,_⟩;{simp[Value.ownBlock]at e};{
 simp[Value.ownBlock]at e;subst e;rw[hg]at ho;cases ho
 rfl}
def uv{Q:Exit->Act->World->Prop}(ng:o.guard=none){s:Operand}(ho:o.op=.call {callee:=.builtin .append,args:=#[s,x],argTypes:=#[70,70]}){rs:List R1}(en:Le rs n)(g:Nat)(hs:a.eval s=v)(hx:a.eval x=.T g 1 1)(h:gR B w v rs vs){r:R1}(tv:w.cell? (Ad g 0)=some (.U r.1))(jt:w.cell? (Ad g 1)=some u)(hu:Own B w u r.2)(Z7:∀u'∈vs,IC u' u)(hl:n<=2097152)(hB:B<=w.heap.size)(hK:∀p' c' w',gR B w' (.S p' (n+1) c') (rs++[r]) (vs++[u])->w.grownBy w' v.ownBlock->wpList Tryz.prog ops Q rest (a.put o.dst (.S p' (n+1) c')) w'):wpList Tryz.prog ops Q (o::rest) a w:=by
 let⟨i,hi,qx,jd,jJ⟩:=fD Tryz.infoRec
 have e:=ae en;subst e
 let⟨pu,cu,eu⟩:=hu.form
 refine Kk w ng s x 70 ho B 74 i _ 2 32 Tryz.underlying70 hi qx jd jJ rfl bj v _ _ hs h.row (Ad g 0) 1 1 [.U r.1,u] hx rfl (Qg tv jt) ?_ iB af hB ?_;{
 intro y hy;simp only[jv,GF,xl]at hy;rcases hy with rfl|rfl;{rfl}
 {rw[eu];rfl}};{intro v' w' h1 h2 _;have hR:=Lj h hu Z7 h1 h2;obtain⟨p',c',rfl⟩:=hR.form;have:=hK p' c' w';rw[gU]at hR;exact(by simpa using this hR h2)}
def KeepsOthers.dR(h:Bw W W'):KeepsOthers W W':=⟨h.size,λk o hk _=>(h.block k (Jg.1 hk).1).trans hk⟩
def Own.uS(h:Own B W v l)(hg:W.grownBy W' row)(hr:∀r,row=some r->∃o:Obj,W.heap[r]?=some o/\o.isCells=false):Own B W' v l:=by
 refine Gx h hg ?_;rcases h.2 with⟨rfl,_⟩|⟨g,cap,cur,rfl,_,hgg,_⟩;{exact .inl rfl};{
 refine .inr λe=>?_
 let⟨o,ho,hc⟩:=hr g e.symm
 rw[hgg]at ho;cases ho;cases hc}
def gR.uS{rs:List R1}(h:gR B W v rs vs)(hg:W.grownBy W' row)(hr:∀r,row=some r->∃o:Obj,W.heap[r]?=some o/\o.isCells=false):gR B W' v rs vs:=by
 refine⟨h.len,Gx h.row hg ?_,λi r u h1 h2=>Own.uS (h.own i r u h1 h2) hg hr,h.ap⟩;rcases h.row.2 with⟨rfl,_⟩|⟨g,cap,cur,rfl,_,hgg,_⟩;{exact .inl rfl};{
 refine .inr λe=>?_
 let⟨o,ho,hc⟩:=hr g e.symm
 rw[hgg]at ho;cases ho;cases hc}
def gR.set{rs:List R1}(h:gR B w v rs vs){a:Addr}(ha:a.block<B)(u:Value):gR B (w.setCell a u) v rs vs:=
 ⟨h.len,qD h.row ha u,λi r x h1 h2=>Own.set (h.own i r x h1 h2) ha u,h.ap⟩
attribute [local go_sem] Oper.semAt_some
def XN(w:World)(rs:List R1)(e:Ending)(w':World):Prop:=
 ∃p c vs,e=.returned (.tuple #[.S p rs.length c,.I (sC rs:Nat)])/\gR w.heap.size w' (.S p rs.length c) rs vs/\Bw w w'
def rl(l:LI):List R1:=Co none (yl (l.length+1) l)
abbrev keys{w:World}(pre:List (Itw w)):List (Option R1):=pre.map λx=>key x.1
def S8(w W:World)(rs:List R1)(v:Value)(vs:List Value):Prop:=
 W.cell? (Ad w.heap.size 0)=some v/\W.frozen? (Ad w.heap.size 0)=false/\W.cell? (Ad (w.heap.size+1) 0)=some (.I (sC rs:Nat))/\W.frozen? (Ad (w.heap.size+1) 0)=false/\gR (w.heap.size+3) W v rs vs
def Inv(w:World)(pre:List (Itw w))(W:World):Prop:=
 ∃rs v vs,S8 w W rs v vs/\(∀rest,Co none (keys pre++rest)=rs++Co (iJ rs) rest)/\(∀x∈pre,x.1.z≠0)/\rs.length=pre.length/\sC rs<=1014*pre.length/\(∀r∈rs,r.2.length<=1000/\0<=r.1/\r.1<2^64)
def aS1(w:World)(c:Code)(ys:List (Itw w))(W:World):Prop:=
 c=.exit 0/\∃rs v vs,S8 w W rs v vs/\(∀rest,Co none (keys ys++rest)=rs)
def S8.uS{rs:List R1}(h:S8 w W rs v vs)(hg:W.grownBy W' row)(hr:∀r,row=some r->∃o:Obj,W.heap[r]?=some o/\o.isCells=false):S8 w W' rs v vs:=
 ⟨cell_kept h.1 hg hr,(frozen_kept h.1 hg hr).trans h.2.1,cell_kept h.2.2.1 hg hr,(frozen_kept h.2.2.1 hg hr).trans h.2.2.2.1,h.2.2.2.2.uS hg hr⟩
def S8.below{rs:List R1}(h:S8 w W rs v vs)(hb:Bw W W'):S8 w W' rs v vs:=
 h.uS (row:=none) (mw hb) (λr e=>by cases e)
def Inv.own(w:World)(B:Nat):OwnFrom B (Inv w):=by
 rintro s W W' row⟨rs,v,vs,hd,hp⟩hg hr;exact⟨rs,v,vs,hd.uS hg (λr e=>(hr r e).2),hp⟩
def aS1.own(w:World)(c:Code)(B:Nat):OwnFrom B (aS1 w c):=by
 rintro s W W' row⟨hc,rs,v,vs,hd,hp⟩hg hr;exact⟨hc,rs,v,vs,hd.uS hg (λr e=>(hr r e).2),hp⟩
def Inv.below{pre:List (Itw w)}(h:Inv w pre W)(hb:Bw W W'):Inv w pre W':=by
 obtain⟨rs,v,vs,hd,hp⟩:=h;exact⟨rs,v,vs,hd.below hb,hp⟩
def aR1{V w9:World}{x:It}(yE:Good w x){pre:List (Itw w)}{rs:List R1}{c9 K:Nat}(z0:W0s=w.heap.size+3)(hz:W0s<=W.heap.size)(KV:KeepsOthers W V)(BV:Bw W V)(hb:Bw w V)(c0:V.cell? (Ad w.heap.size 0)=some v)(c1:V.frozen? (Ad w.heap.size 0)=false)(c2:V.cell? (Ad (w.heap.size+1) 0)=some (.I (sC rs:Nat)))(c3:V.frozen? (Ad (w.heap.size+1) 0)=false)(ho:gR (w.heap.size+3) V v rs vs)(Xu:Below (w.heap.size+3) V w9)(KO9:KeepsOthers V w9)(hR9:gR (w.heap.size+3) w9 (.S p9 (K+1) c9) (rs++[(x.s,x.b)]) (vs++[u]))(eK:Le rs K)(HX:Hid (x.z=x.b.length+14/\aN x.b/\key x=some (x.s,x.b)))(HF:Hid ((∀rest,Co none (keys pre++rest)=rs++Co (iJ rs) rest)/\(∀y∈pre,y.1.z≠0)/\K=pre.length/\sC rs<=1014*pre.length/\(∀r∈rs,r.2.length<=1000/\0<=r.1/\r.1<2^64)))(tQ:Hid (IF (iJ rs) x.s=true))(hxl:x.b.length<=1000)(xs0:0<=x.s)(xs1:x.s<2^64):KeepsFrom W0s W ((w9.setCell (Ad w.heap.size 0) (.S p9 (K+1) c9)).setCell (Ad (w.heap.size+1) 0) (.I ((sC rs:Int)+(x.z:Int))))∧
  Eu w.heap.size (w.heap.size+2) W ((w9.setCell (Ad w.heap.size 0) (.S p9 (K+1) c9)).setCell (Ad (w.heap.size+1) 0) (.I ((sC rs:Int)+(x.z:Int))))∧
  Inv w (pre++[⟨x,yE⟩]) ((w9.setCell (Ad w.heap.size 0) (.S p9 (K+1) c9)).setCell (Ad (w.heap.size+1) 0) (.I ((sC rs:Int)+(x.z:Int))))∧
  Bw w ((w9.setCell (Ad w.heap.size 0) (.S p9 (K+1) c9)).setCell (Ad (w.heap.size+1) 0) (.I ((sC rs:Int)+(x.z:Int))))/\W0s<=((w9.setCell (Ad w.heap.size 0) (.S p9 (K+1) c9)).setCell (Ad (w.heap.size+1) 0) (.I ((sC rs:Int)+(x.z:Int)))).heap.size:=by
 let⟨hxz,hxB,hkx⟩:=ae HX
 let⟨Js,hnz,hrl,Tj,Ru⟩:=ae HF
 have iI:=ae tQ;have eK':=ae eK;have hV3:w.heap.size+3<=V.heap.size:=by have:=BV.size;omega
 have q0:=(Xu.cell (p:=(Ad w.heap.size 0)) (by show w.heap.size<_;omega)).trans c0;have q1:=(Xu.frozen (p:=(Ad w.heap.size 0)) (by show w.heap.size<_;omega)).trans c1;have q2:=(Xu.cell (p:=(Ad (w.heap.size+1) 0)) (by show w.heap.size+1<_;omega)).trans c2;have q3:=(Xu.frozen (p:=(Ad (w.heap.size+1) 0)) (by show w.heap.size+1<_;omega)).trans c3;have q4:=Xu.cell (p:=(Ad (w.heap.size+2) 0)) (by show w.heap.size+2<_;omega);have hbW:Below w.heap.size W w9:=(BV.mono af).trans (Xu.mono af);have DE:Bw w w9:=hb.trans (Xu.mono af);refine⟨((KV.trans KO9).trans ((KeepsOthers.setCell _ _ _).trans (KeepsOthers.setCell _ _ _))).from _,⟨(hbW.setCell ay _).setCell al _,?_⟩,⟨rs++[(x.s,x.b)],.S p9 (K+1) c9,vs++[u],⟨?_,?_,?_,?_,?_⟩,?_,?_,?_,?_,?_⟩,(DE.setCell ay _).setCell al _,?_⟩;{rw[Qv _ _ _ _ al,Qv _ _ _ _ al,q4];exact xi (a:=(Ad (w.heap.size+2) 0)) (BV.block _ (by show w.heap.size+2<_;omega))};{rw[Qv _ _ _ _ al];exact Qt _ _ _ (by rw[q0];rfl)};{rw[Ee,Ee];exact q1};{
 have:((sC (rs++[(x.s,x.b)]):Nat):Int)=(sC rs:Int)+(x.z:Int):=by rw[xK];simp[sC];omega
 rw[this];refine Qt _ _ _ ?_;rw[Qv _ _ _ _ al,q2];rfl};{rw[Ee,Ee];exact q3};{exact(hR9.set (by show w.heap.size<_;omega) _).set (by show w.heap.size+1<_;omega) _};{intro rest;simp only[l8,iH,Eb,sX,Ed,D9];rw[hkx,Js (some (x.s,x.b)::rest),Hf];simp[Co,iI]};{intro y hy;rcases gu.1 hy with h|h;{exact hnz y h};{simp at h;subst h;show x.z≠0;omega}};{simp;omega};{rw[xK];simp[sC];omega};{intro r hr;rcases gu.1 hr with h|h;{exact Ru r h};{simp at h;subst h;exact⟨hxl,xs0,xs1⟩}};{show W0s<=_;have:=hbW.size;have:=Xu.size;simp;omega}
def IQ{l n:Nat}{Q:Exit->Act->World->Prop}{x:Nat}{id:Nat}(hl:¬LetsOut Q)(hS:S w.drew)(h:S w.drew->IS P .any ops Q S x ops.size (Array.replicate ops.size false) a w.drew)(hm:P.follows .mixedOrders=true:=by kernel_rfl)(hd:Mx ops=true:=by kernel_rfl):(Code.region id ops true).wpIn (Fence.wide.inRound l) n P Q a w:=
 wpIn_region_any hm (iO (zt hd) hl _ _ _ _ (Lo _ _ _ _ (h hS)))
set_option maxRecDepth 100000 in
def Hm(hn:3<=n)(hR:Rd w (.S p len cap) l)(hB:aN l)(el:l.length=len)(hlen:len<=1048576)(ud:len<=cap)(DA:cap<=maxLen)(hp:(p=none/\cap=0)\/∃b o,p=some (Ad b o)):CallsIn Fence.wide n prog 93 #[.S p len cap] w (XN w (rl l)):=by
 have h1:1<=n:=af;refine callsIn_of_wp_marks func93 rfl km ?_ rfl;simp only[ntmps93,Er,Nat.reduceAdd,Nat.reduceSub];refine wpIn_wide.2 ?_;go_wp2_with fail;refine wp_scope_straight ?_;go_wp2_with fail
 go_step3
 go_wp2_with fail;refine(xj.1 (Mj (n:=0))).mono ?_;rintro e w1⟨rfl,rfl⟩;go_wp2_with fail
 let⟨W0,fL⟩:=aB (((w.alloc (.cells #[aq] 70)).alloc (.cells #[.I 0] 3)).alloc (.cells #[.S p len cap] 22))
 have z0:W0.heap.size=w.heap.size+3:=by rw[fL];simp
 have k0:W0.cell? (Ad w.heap.size 0)=some aq:=by rw[fL];simp[go_sem]
 have f0:W0.frozen? (Ad w.heap.size 0)=false:=by rw[fL];simp[go_sem]
 have k1:W0.cell? (Ad (w.heap.size+1) 0)=some (.I 0):=by rw[fL];simp[go_sem]
 have f1:W0.frozen? (Ad (w.heap.size+1) 0)=false:=by rw[fL];simp[go_sem]
 have k2:W0.cell? (Ad (w.heap.size+2) 0)=some (.S p len cap):=by rw[fL];simp[go_sem]
 have hB0:Bw w W0:=by rw[fL];exact((aA.alloc ay _).alloc al _).alloc bq _
 rw[<-fL];clear fL;refine(wpIn_wide (n:=n)).1 ?_;refine wpIn_rangeFunc_ownH (F:=Fence.wide) rfl h1 (gf:=202) (lb:=#[.pointer (some (Ad (w.heap.size+2) 0))]) rfl km (enters_of func202 bg rfl)
  (α:=Itw w) (encs:=an7) (Kp:=Eu w.heap.size (w.heap.size+2)) (S:=λys=>∃pre x,ys=pre++[x]/\x.1.z=0) (Sp:=λpre=>keys pre <+: yl (len+1) l) (N:=len+2) (w0:=W0) ?seq (λh k=>h.trans k) (Eu.put af af) aA (λ_=>rfl)
  (λpre W=>Inv w pre W/\Bw w W/\W0.heap.size<=W.heap.size) (λc pre W=>aS1 w c pre W/\Bw w W)
  (OwnFrom.and (Inv.own w _) (OwnFrom.and (ownFrom_below ay af) (λ_ _ _ _ h hg _=>fu h hg.size)))
  (λc=>OwnFrom.and (aS1.own w c _) (ownFrom_below ay af))
  ⟨⟨[],_,[],⟨k0,f0,k1,f1,gR.nil _ _⟩,by simp[iJ],al,rfl,by simp[sC],al⟩,hB0,iD _⟩
  (λx a' W=>∃R,W0.heap.size<=R/\Ty W R (.U x.1.s) (.S x.1.q x.1.b.length x.1.d)/\(∃v0,W.cell? (Ad w.heap.size 0)=some v0/\v0.ownBlock≠some R)/\a'={tmps:=#[.S p len cap,undef,aq,.I 0,.pointer (some (Ad w.heap.size 0)),.pointer (some (Ad (w.heap.size+1) 0)),.pointer (some (Ad R 0)),.I x.1.z,.S p len cap,.func (.func 202) #[] #[.pointer (some (Ad (w.heap.size+2) 0))],yY x.1.s (.S x.1.q x.1.b.length x.1.d),.I x.1.z,undef,undef,undef,undef,undef,undef,undef,undef,undef,undef,undef,undef,undef,undef,undef,undef,undef,undef,undef,undef,undef,undef,undef,undef,undef,undef,undef,undef,undef,undef,undef,undef,undef,undef,undef],defers:=[]})
  ?ax ?assign ?body ?done ?stop
 case seq=>(
 intro L J Jx W hW hJ hJx hY h0;refine(bG5 (n:=n-1) af (L:=L) (Bs:=w.heap.size+2) (len:=len) (cap:=cap) (p:=p) (l:=l) (w:=w) hR hB el hlen ud DA hp J Jx (W:=W) hJ hY ((hW.cell (p:=(Ad (w.heap.size+2) 0)) (by show w.heap.size+2<_;omega)).trans k2) (hB0.trans (hW.mono af)) h0).mono ?_;rintro e W'⟨he,h⟩;exact⟨he,h⟩)
 case ax=>(
 rintro x a' _ W W' row⟨R,vd,hA,⟨v0,mY,hv1⟩,ha⟩hg hr;exact⟨R,vd,⟨cell_kept hA.1 hg (λr e=>(hr r e).2),cell_kept hA.2 hg (λr e=>(hr r e).2)⟩,⟨v0,cell_kept mY hg (λr e=>(hr r e).2),hv1⟩,ha⟩)
 case assign=>(
 rintro L pre x W K⟨hi,hb,hz⟩hK
 gi_wp2
 let⟨rs,v,vs,⟨c0,_,_,_,ho⟩,_⟩:=id hi
 exact hK _ _ ((KeepsOthers.alloc _ _).from _) ⟨(cQ _ W).alloc (by have:=hb.size;omega) _,xi (a:=(Ad (w.heap.size+2) 0)) (Yv W _ _ (by show w.heap.size+2<_;omega))⟩ ⟨hi.below (aA.alloc ay _),hb.alloc hb.size _,bq⟩ ⟨W.heap.size,hz,by simp[Ty],⟨v,ah c0 (aA.alloc ay _),λe=>by have:=(ho.Wz _ e).2;omega⟩,rfl⟩)
 case body=>(
 rintro L pre⟨x,yE⟩a' W hL⟨r,hr⟩⟨⟨rs,v,vs,⟨c0,c1,c2,c3,ho⟩,Js,hnz,hrl,Tj,Ru⟩,hb,hz⟩⟨R,vd,hA,cI9,rfl⟩rz;obtain⟨pv,cv,rfl⟩:=ho.form;obtain⟨v0,d0,hAv⟩:=cI9;rw[c0]at d0;obtain rfl:.S pv rs.length cv=v0:=by simpa using d0
 clear d0
 let⟨K,eK⟩:=aL rs.length
 rw[eK]at ho c0 hrl hAv;dsimp only at*;have ua:∀(vs:Array Value)(w:World),(callFunc 98 vs).run prog w=.ok (.enter 98 vs) w:=λvs w=>bg;have hcg:∀(vs:Array Value)(w:World),(callFunc 162 vs).run prog w=.ok (.enter 162 vs) w:=λvs w=>bg;by_cases hx:x.z=0;{
 have YI:((x.z:Int)==0)=true:=by simp[hx]
 gi_wp2
 refine⟨KeepsFrom.refl _ _,⟨rfl,rs,_,vs,⟨c0,c1,c2,c3,ho⟩,λrest=>?_⟩,hb⟩;have:=Js (none::rest);simp only[l8,iH,Eb,sX,Ed,D9];rw[show key x=none by simp[key,hx],this];simp[Co]};{
 have YI:((x.z:Int)==0)=false:=by simp[hx]
 have hkx:key x=some (x.s,x.b):=by simp[key,hx]
 obtain⟨hxz,hxl,hxB,xs0,xs1,hRx⟩:x.z=x.b.length+14/\x.b.length<=1000/\aN x.b/\0<=x.s/\x.s<2^64/\Rd w (.S x.q x.b.length x.d) x.b:=by rcases yE with h|h;{exact absurd h hx};{exact h}
 gi_wp2_with fail
 have HX:=ag (ai hxz (ai hxB hkx));have HF:=ag (ai Js (ai hnz (ai hrl (ai Tj Ru))));have eKh:=ag eK;have hKn:K<=1048578:=af;have dO3:(sC rs:Int)<=1100000000:=af;have dN7:(x.z:Int)<=1014:=af;clear Js hnz hrl Tj Ru hxz hxB hkx
 let⟨vv,evv⟩:=aL (Value.slice pv K cv)
 have c0':=c0;have HO:=ag ho;have HV:Hid (W.cell? (Ad w.heap.size 0)=some vv/\gR (w.heap.size+3) W vv rs vs/\vv.ownBlock≠some R):=by rw[<-evv];exact⟨c0,ho,hAv⟩
 clear evv ho hAv c0;by_cases hK0:K=0;rotate_left;have hkr:K-1<rs.length:=af;obtain⟨⟨t,bt⟩,KI⟩:∃r,rs[K-1]?=some r:=⟨_,aY hkr⟩;have HL:Hid (iJ rs=some t):=by show _=_;unfold iJ;rw[WM,eK,KI];rfl
 let⟨t0,t1⟩:=HF.2.2.2.2 _ (aT KI) |>.2
 obtain⟨u,hu⟩:∃u,vs[K-1]?=some u:=⟨_,aY (by rw[HO.len];exact hkr)⟩;rcases id HO.row.2 with⟨_,h0⟩|⟨g,NQ,cur,ev,Oq,hgg,_,_,_,_⟩;{omega};simp only[pW]at ev;obtain⟨rfl,-,rfl⟩:=ev;have Yh:=HO.row;rw[eK]at Yh;have d0:=(Yh.cellAt (2*(K-1)) af).trans (nT rs vs (K-1) _ u KI hu).1;rw[QL]at d0;dsimp only at d0
 let⟨K1,eK1⟩:=aL (K-1)
 rw[eK1]at d0;have Xt:(K:Int)-1=(K1:Int):=af;have hK2:=mW 0 K;have Z9:=aU K1 K;have hK4:0<K:=af;have hK5:K1<=1048578:=af;have hK6:(K1:Int)<=1048578:=af;have hK7:=e8 K1;refine qJ (λw'=>w'.cell? (Ad w.heap.size 0)=some (.T g K cv)/\Ty w' R (.U x.s) (.S x.q x.b.length x.d)/\w'.cell? (Ad g (K1*2))=some (.U t)) bg bg (by rintro⟨_,_,h⟩;exact h) (ai c0' (ai hA d0)) (λhS=>?_);refine jR 0 1 hS ?_;refine tk 2 hS (v:=.bool true) (h:=?_);simp only[Act.put,xa,xb,xc];refine mj 3 4 5 6 7 8 9 10 hS ?_;refine jR 11 12 hS ?_;refine ry [13] ?_;refine cn (λKK hK=>?_) ?_;rotate_left;exact eh;rotate_left;refine LU aJ (f:=162) aJ (v1:=.U x.s) (v2:=.U t) aJ aJ (λ_=>hcg _ _) (DI (s:=x.s) (t:=t) xs0 xs1 t0 t1) ?_;rintro e w7⟨rfl,rfl⟩;refine⟨_,rfl,?_⟩;refine fh hK hS λhS=>?_;generalize hbk:IF (some t) x.s=bk;refine jR 14 15 hS ?_;refine tn 16 hS ?_;refine bW8 ?_;cases bk;{
 gi_wp2
 obtain⟨c0,ho,-⟩:=ae HV;refine⟨(KeepsOthers.drew _).from _,⟨rfl,rs,_,vs,⟨c0,c1,c2,c3,ho.below aA.drew⟩,λrest=>?_⟩,hb.drew⟩;obtain⟨Js,-⟩:=ae HF;obtain⟨-,-,hkx⟩:=ae HX;have h2:=Js (some (x.s,x.b)::rest);simp only[l8,iH,Eb,sX,Ed,D9];rw[hkx,h2,ae HL];simp[Co,hbk]};have tQ:Hid (IF (iJ rs) x.s=true):=by show _=_;rw[ae HL];exact hbk
 rotate_left;have tQ:Hid (IF (iJ rs) x.s=true):=by show _=_;rw[D8 (eK.trans hK0)];rfl
 refine qJ (λw'=>w'.cell? (Ad w.heap.size 0)=some (.S pv K cv)) bg bg (by rintro⟨_,_,h⟩;exact h) c0' (λhS=>?_);refine jR 0 1 hS ?_;refine tk 2 hS (v:=.bool false) (h:=?_);simp only[Act.put,xa,xb,xc];refine tn 3 hS ?_;refine oQ 4 5 6 7 hS ?_;refine oQ 8 9 10 11 hS ?_;refine sn 12 hS ?_;refine sn 13 hS ?_;refine sn 14 hS ?_;refine jR 15 16 hS ?_;refine bW8 ?_
 all_goals
  clear hS c0' HO hK0
  let⟨c0,ho,hAv⟩:=ae HV
  clear HV
  gi_wp2_with fail
  replace c0:W.drew.cell? (Ad w.heap.size 0)=some _:=c0;replace c1:W.drew.frozen? (Ad w.heap.size 0)=false:=c1;replace c2:W.drew.cell? (Ad (w.heap.size+1) 0)=some _:=c2;replace c3:W.drew.frozen? (Ad (w.heap.size+1) 0)=false:=c3;replace ho:=ho.below (cQ W.heap.size W).drew;replace hA:Ty W.drew R (.U x.s) (.S x.q x.b.length x.d):=hA;replace hb:Bw w W.drew:=hb.drew;have KV:KeepsOthers W W.drew:=KeepsOthers.drew W;have BV:Bw W W.drew:=aA.drew;have hzV:W0.heap.size<=W.drew.heap.size:=hz;generalize W.drew=V at*;have B5:Bw V (V.drew.alloc (.cells #[.S x.q x.b.length x.d] 22)):=((cQ V.heap.size V).drew).alloc ay _;refine IQ (x:=10) (S:=λw'=>w'.cell? (Ad w.heap.size 0)=some vv/\Ty w' R (.U x.s) (.S x.q x.b.length x.d)) (by rintro⟨_,_,h⟩;exact h) ⟨c0,hA⟩ (λhS=>?_);refine tED 0 1 2 3 hS ?_;refine tEn 4 hS ?_;refine jh 5 (λKK hK=>?_);go_simp;refine oGS hK ⟨ah c0 B5,hA.below B5⟩ λhS=>?_;clear hK KK;refine jh 6 (λKK hK=>?_);refine im aJ (f:=98) aJ (v1:=.T V.heap.size 1 1) aJ (λ_=>ua _ _) (fK (g:=V.heap.size) (vs:=[.S x.q x.b.length x.d]) [x.b] (lm:=x.b) (n:=x.b.length) 1 rfl (by show _=_;rw[Fi]) rfl (ag5 al (hRx.below (Below.trans hb (B5.mono af)))) af af) ?_;rintro e w6⟨p6,c6,rfl,o6,ko⟩;refine⟨_,rfl,?_⟩;have B6:=aj B5 ko;have z6:=B6.size;have z6':=ko.size;have cF6:∀u'∈vs,IC u' (.S p6 x.b.length c6):=λu' hu' b e1 e2=>by have h1:=ho.lt u' hu' b e1;have h2:=(Own.lt o6 b e2).1;simp at h2;omega
  refine oGS hK ⟨ah c0 B6,hA.below B6⟩ λhS=>?_;clear hK KK;refine tEo 7 hS ?_;refine jh 8 (λKK hK=>?_);go_simp;have B8:Bw V (w6.alloc (.cells #[.U x.s,.S p6 x.b.length c6] 74)):=B6.alloc af _;refine oGS hK ⟨ah c0 B8,hA.below B8⟩ λhS=>?_;clear hK KK;refine jh 9 (λKK hK=>?_);refine LY aJ aJ (B:=w.heap.size+3) (v:=vv) (rs:=rs) (vs:=vs) (n:=K) eKh (g:=w6.heap.size) aJ aJ (ho.below B8) (r:=(x.s,x.b)) (u:=.S p6 x.b.length c6) al al (Own.mono (Own.below o6 (aA.alloc ay _)) bq) cF6 af bq ?_;intro p9 c9 w9 hR9 AY;have Xu:Below (w.heap.size+3) V w9:=(B8.mono af).grown AY (by have:=B8.size;omega) (λb e=>(ho.Wz b e).1);have q0:=(Xu.cell (p:=(Ad w.heap.size 0)) (by show w.heap.size<_;omega)).trans c0;have q1:∀o,w9.frozen? (Ad w.heap.size o)=V.frozen? (Ad w.heap.size o):=λo=>Xu.frozen (p:=(Ad w.heap.size o)) (by show w.heap.size<_;omega);refine oGS hK ⟨q0,AY.cell hS.2.1 (λe=>hAv e.symm),AY.cell hS.2.2 (λe=>hAv e.symm)⟩ λhS=>?_;clear hK KK;refine jh 10 (λKK hK=>?_);go_simp;refine oGX hK ?_;clear hK KK hS;refine Fo ?_;have q2:=(Xu.cell (p:=(Ad (w.heap.size+1) 0)) (by show w.heap.size+1<_;omega)).trans c2;have q3:=(Xu.frozen (p:=(Ad (w.heap.size+1) 0)) (by show w.heap.size+1<_;omega)).trans c3;have KO9:=ag ((KeepsOthers.dR B8).trans (KeepsOthers.of_grownBy AY (ho.below B8).af4))
  gi_wp2
  exact aR1 (w:=w) (W:=W) (V:=V) (w9:=w9) (W0s:=W0.heap.size) (x:=x) yE (pre:=pre) (rs:=rs) (vs:=vs) (p9:=p9) (c9:=c9) (K:=K) z0 hz KV BV hb c0 c1 c2 c3 ho Xu KO9 hR9 eKh HX HF tQ hxl xs0 xs1})
 case done=>(
 rintro D ys W hD⟨pre,x,rfl,hx⟩⟨⟨rs,v,vs,_,_,hnz,_⟩,_⟩hK;exact absurd hx (hnz x al))
 case stop=>(
 rintro D c ys W hD hSp⟨⟨rfl,rs,v,vs,⟨c0,c1,c2,c3,ho⟩,Js⟩,hb⟩hK;obtain⟨rest,aW7⟩:=hSp;have erl:rl l=rs:=by unfold rl;rw[el,<-aW7];exact Js rest
 obtain⟨pv,cv,rfl⟩:=ho.form;refine wpIn_wide.2 ?_;clear Js aW7;go_wp2_with fail;have k0:=ai c0 c2
 go_region_held3 (λw'=>w'.cell? (Ad w.heap.size 0)=some (.S pv rs.length cv)/\w'.cell? (Ad (w.heap.size+1) 0)=some (.I (sC rs:Nat))) (exact k0) (fail)
 go_wp2
 try rw[Exit.noGoto_ret]
 refine⟨al,.inl ⟨_,_,rfl,run_takeDeferred (w:=W.drew) hK,?_⟩⟩;have hKd:W.drew.heap[D]?=some (.deferred (some [])):=hK;refine⟨.tuple #[.S pv rs.length cv,.I (sC rs:Nat)],by simp[results,results93,go_sem],?_⟩;rw[erl];refine⟨pv,cv,vs,rfl,((ho.below aA.drew).uS (grownBy_putObj' W.drew D (.deferred none)) (λr e=>by cases e;exact⟨_,hKd,rfl⟩)).mono af,?_⟩;exact hb.drew.trans (belowK_b (w:=w) ay W.drew D _ _ af hKd rfl rfl))
def Dr(hR:Rd w (.S p len cap) l)(hB:aN l)(el:l.length=len)(hlen:len<=1048576)(ud:len<=cap)(DA:cap<=maxLen)(hp:(p=none/\cap=0)\/∃b o,p=some (Ad b o)):Cp 93 #[.S p len cap] w (XN w (rl l)):=
 xj.1 (Hm (n:=3) af hR hB el hlen ud DA hp)
end Go.Proofs.YtnhnbpkfpaondaaGreatDoor
