import Derived.Test.YtnhnbpkfpaondaaGreatDoorK4
import Derived.Test.YtnhnbpkfpaondaaGreatDoorRows
import Derived.ShutString
import Derived.ChangeOld
import Derived.HandedShaped
import Derived.Shelf.Vars
import Derived.LaidMore
import Derived.Lay
import Derived.Stop.Joined
import Derived.OpenVars
namespace Go.Proofs.YtnhnbpkfpaondaaGreatDoor
set_option maxHeartbeats 8000000
set_option linter.all false
set_option maxRecDepth 100000
open Go.ChangeShapes Go.WideShapes Go.ChangeAt Go.RowKit Go.Deep Go.Proofs.Tryz
def yt(p:OA)(c:Nat)(n:Int)(l:LI)(w:World)(h:Rd w (.slice p l.length c) l)(hl:l.length<=2097152):Calls prog 113 #[iZ (.slice p l.length c) n] w λe w'=>∃p' c',e=.returned (iZ (.slice p' l.length c') n)/\Own w.heap.size w' (.slice p' l.length c') l/\Below w.heap.size w w':=by
 go_in
 go_wp2_with fail
 let⟨W,hW⟩:=aB ((w.alloc (.cells #[.slice p l.length c,.int .i64 n] 35)).alloc (.cells #[.slice none 0 0,.int .i64 0] 35))
 have bW:Below w.heap.size w W:=by rw[hW];exact(aA.alloc ay _).alloc al _
 have k0:W.cell? (Ad w.heap.size 0)=some (.slice p l.length c):=by rw[hW];simp
 have k1:W.cell? (Ad w.heap.size 1)=some (.int .i64 n):=by rw[hW];simp
 have r0:W.cell? (Ad (w.heap.size+1) 0)=some (.slice none 0 0):=by rw[hW];simp
 have r1:W.cell? (Ad (w.heap.size+1) 1)=some (.int .i64 0):=by rw[hW];simp
 have f0:∀o,W.frozen? (Ad (w.heap.size+1) o)=false:=by intro o;rw[hW];simp
 have zW:w.heap.size+2=W.heap.size:=by rw[hW];simp
 rw[<-hW];clear hW;have b3:∀o:Obj,Below W.heap.size W (W.alloc o).drew:=λo=>(aA.alloc ay _).drew;have e0:=h.below bW
 go_region_held3 (λw'=>w'.cell? (Ad w.heap.size 0)=some (.slice p l.length c)/\w'.cell? (Ad w.heap.size 1)=some (.int .i64 n)) (first|with_reducible exact⟨k0,k1⟩|with_reducible exact⟨g0,g1⟩|go_keep)
  (first|(go_at_call 166;refine(Sh (p:=p) (c:=c) al (by exact e0.below (b3 _)) hl).mono ?_;rintro e w1⟨p',c',rfl,o1,aG⟩;have b1:=aj (b3 _) aG;have g0:=ah k0 b1;have g1:=ah k1 b1;have s0:=ah r0 b1;have s1:=ah r1 b1;have f1:=cG f0 b1 af))
 have bb:Below w.heap.size w w1:=aj bW b1;have oo:Own W.heap.size w1 (.slice p' l.length c') l:=Own.mono o1 al;go_wp2;refine dJ (v:=iZ (.slice p' l.length c') n) (by simp[results,results113,go_sem,s0,s1]) rfl ⟨p',c',rfl,Own.mono (B:=W.heap.size) ?_ af,?_⟩;{
 repeat(refine qD ?_ bq _)
 exact oo};{
 repeat(refine ig ?_ al _)
 exact bb}
def Vs(p q:OA)(c d:Nat)(n:Int)(l m lm:LI)(wo:Hid (lm=l++m))(w:World)(h:Rd w (.slice p l.length c) l)(k:Rd w (.slice q m.length d) m)(hl:l.length+m.length<=4194304):Calls prog 173 #[iZ (.slice p l.length c) n,.slice q m.length d] w λe w'=>∃p' c',e=.returned (iZ (.slice p' lm.length c') n)/\Own w.heap.size w' (.slice p' lm.length c') lm/\Below w.heap.size w w':=by
 go_in
 go_wp2_with fail
 let⟨W,hW⟩:=aB ((w.alloc (.cells #[.slice p l.length c,.int .i64 n] 35)).alloc (.cells #[.slice none 0 0,.int .i64 0] 35))
 have bW:Below w.heap.size w W:=by rw[hW];exact(aA.alloc ay _).alloc al _
 have k0:W.cell? (Ad w.heap.size 0)=some (.slice p l.length c):=by rw[hW];simp
 have k1:W.cell? (Ad w.heap.size 1)=some (.int .i64 n):=by rw[hW];simp
 have r0:W.cell? (Ad (w.heap.size+1) 0)=some (.slice none 0 0):=by rw[hW];simp
 have r1:W.cell? (Ad (w.heap.size+1) 1)=some (.int .i64 0):=by rw[hW];simp
 have f0:∀o,W.frozen? (Ad (w.heap.size+1) o)=false:=by intro o;rw[hW];simp
 have zW:w.heap.size+2=W.heap.size:=by rw[hW];simp
 rw[<-hW];clear hW;have b3:∀o:Obj,Below W.heap.size W (W.alloc o).drew:=λo=>(aA.alloc ay _).drew;have e0:=h.below bW;have e1:=k.below bW
 go_region_held3 (λw'=>w'.cell? (Ad w.heap.size 0)=some (.slice p l.length c)/\w'.cell? (Ad w.heap.size 1)=some (.int .i64 n)) (first|with_reducible exact⟨k0,k1⟩|with_reducible exact⟨g0,g1⟩|go_keep)
  (first|(go_at_call 166;refine(Sg (p:=p) (q:=q) (c:=c) (d:=d) wo al al (by exact e0.below (b3 _)) (by exact e1.below (b3 _)) hl).mono ?_;rintro e w1⟨p',c',rfl,o1,aG⟩;have b1:=aj (b3 _) aG;have g0:=ah k0 b1;have g1:=ah k1 b1;have s0:=ah r0 b1;have s1:=ah r1 b1;have f1:=cG f0 b1 af))
 have bb:Below w.heap.size w w1:=aj bW b1;have oo:Own W.heap.size w1 (.slice p' lm.length c') lm:=Own.mono o1 al;go_wp2;refine dJ (v:=iZ (.slice p' lm.length c') n) (by simp[results,results173,go_sem,s0,s1]) rfl ⟨p',c',rfl,Own.mono (B:=W.heap.size) ?_ af,?_⟩;{
 repeat(refine qD ?_ bq _)
 exact oo};{
 repeat(refine ig ?_ al _)
 exact bb}
variable {p q p0 p1 p2:OA}{k c m d c0 c1 c2 B o j b N R base fuel:Nat}{n f n0 n1 n2 lo hi vs e g x:Int}{w v w':World}{l0 l1 l2 m' rest:LI}{v0 v1 v2:Value}{a:Addr}{se pa sq jo sh sh':Bool}{A A2 l:List Lf}{Ls:List (List Lf)}{xs:List Ev}{om EO:Option LI}{s:ChangeSpec}{X:World->Array Value->Prop}{C:Checked}{os:Os}{fn:Func}{conds:List PathCond}{t:TypeId}{P:Program}{spare:Nat->Bool}{cs:List Value}
def SE:Calls prog 174 #[iZ (.slice p k c) n] w λe w'=>e=.returned (iZ (.slice p k c) k)/\Below w.heap.size w w':=by
 go_in
 go_wp2;refine dJ (v:=iZ (.slice p k c) k) (by simp[results,results174,go_sem]) rfl ⟨rfl,?_⟩
 repeat(refine ig ?_ al _)
 exact(aA.alloc ay _).alloc al _
def isF(f:Int):Bool:=decide (0<=f)&&decide (f<3)
def Xd(a:0<=f)(b:f<3):isF f=true:=by simp[isF,a,b]
def an8(a:¬(0<=f/\f<3)):isF f=false:=by
 unfold isF;rw[uM];simp only[xS];omega
def No(p0 p1 p2:OA)(n0 c0 n1 c1 n2 c2:Nat)(s0 s1 s2 f:Int)(w:World):Calls prog 171 #[dE (.slice p0 n0 c0) s0 (.slice p1 n1 c1) s1 (.slice p2 n2 c2) s2,.int .i64 f] w λe w'=>e=.returned (.bool (isF f))/\Below w.heap.size w w':=by
 by_cases a:0<=f;{
 by_cases b:f<3;{
 rw[Xd a b]
 go_in
 go_wp2;go_ret;exact⟨rfl,aA.alloc ay _⟩};{
 rw[an8 af]
 go_in
 go_wp2;go_ret;exact⟨rfl,aA.alloc ay _⟩}};{
 rw[an8 af]
 go_in
 go_wp2;go_ret;exact⟨rfl,aA.alloc ay _⟩}
def Hw(hk:k<=200000)(hm:m<=2097152):Calls prog 172 #[iZ (.slice p k c) n,.slice q m d] w λe w'=>e=.returned (.bool (decide (m+k<=200000)))/\Below w.heap.size w w':=by
 by_cases h:(m:Int)<=200000-k;{
 have e:decide (m+k<=200000)=true:=by simp;omega
 rw[e]
 go_in
 go_wp2;go_ret;exact⟨al,aA.alloc ay _⟩};{
 have e:decide (m+k<=200000)=false:=by simp;omega
 rw[e]
 go_in
 go_wp2;go_ret;exact⟨al,aA.alloc ay _⟩}
theorem xz(h0:Rd w (.slice p0 l0.length c0) l0)(h1:Rd w (.slice p1 l1.length c1) l1)(h2:Rd w (.slice p2 l2.length c2) l2)(m0:l0.length<=2097152)(m1:l1.length<=2097152)(m2:l2.length<=2097152):Calls prog 51 #[dE (.slice p0 l0.length c0) n0 (.slice p1 l1.length c1) n1 (.slice p2 l2.length c2) n2] w λe w'=>
   ∃q0 d0 q1 d1 q2 d2,e=.returned (dE (.slice q0 l0.length d0) n0 (.slice q1 l1.length d1) n1 (.slice q2 l2.length d2) n2)∧
    jC w.heap.size w' (.slice q0 l0.length d0) (.slice q1 l1.length d1) (.slice q2 l2.length d2) l0 l1 l2/\Below w.heap.size w w':=by
 go_in
 go_wp2_with fail
 let⟨W,hW⟩:=aB ((w.alloc (.cells #[.slice p0 l0.length c0,.int .i64 n0,.slice p1 l1.length c1,.int .i64 n1,.slice p2 l2.length c2,.int .i64 n2] 90)).alloc (.cells #[.slice none 0 0,.int .i64 0,.slice none 0 0,.int .i64 0,.slice none 0 0,.int .i64 0] 37))
 have bW:Below w.heap.size w W:=by rw[hW];exact(aA.alloc ay _).alloc al _
 have k0:vt W w.heap.size (.slice p0 l0.length c0) (.int .i64 n0) (.slice p1 l1.length c1) (.int .i64 n1) (.slice p2 l2.length c2) (.int .i64 n2):=by rw[hW];simp[vt]
 have r0:vt W (w.heap.size+1) (.slice none 0 0) (.int .i64 0) (.slice none 0 0) (.int .i64 0) (.slice none 0 0) (.int .i64 0):=by rw[hW];simp[vt]
 have f0:∀o,W.frozen? (Ad (w.heap.size+1) o)=false:=by intro o;rw[hW];simp
 have zW:w.heap.size+2=W.heap.size:=by rw[hW];simp
 rw[<-hW];clear hW;have e0:=h0.below bW.drew;have e1:=h1.below bW;have e2:=h2.below bW;have k0d:vt W.drew w.heap.size (.slice p0 l0.length c0) (.int .i64 n0) (.slice p1 l1.length c1) (.int .i64 n1) (.slice p2 l2.length c2) (.int .i64 n2):=k0
 go_region_held3 (λw'=>vt w' w.heap.size (.slice p0 l0.length c0) (.int .i64 n0) (.slice p1 l1.length c1) (.int .i64 n1) (.slice p2 l2.length c2) (.int .i64 n2)) (first|with_reducible exact k0d|with_reducible exact k1|with_reducible exact k2|with_reducible exact k3|(clear k0 k0d k1 k2 b1 b2 b3 f3 e0 e1 e2 o0 o1 o2 aG aK br r0 f0 bW;refine⟨?_,?_,?_,?_,?_,?_⟩<;>go_keep))
  (first
   |(go_at_call_of 113 (Value.agg #[.slice p0 l0.length c0,.int .i64 n0]);refine(yt p0 c0 n0 l0 _ (by exact e0) m0).mono ?_;rintro e w1⟨q0,d0,rfl,o0,aG⟩;have b1:=aj (cQ W.heap.size W).drew aG;have k1:=vt.below k0 b1)
   |(go_at_call_of 113 (Value.agg #[.slice p1 l1.length c1,.int .i64 n1]);refine(yt p1 c1 n1 l1 _ (by exact e1.below b1) m1).mono ?_;rintro e w2⟨q1,d1,rfl,o1,aK⟩;have b2:=aj b1 aK;have k2:=vt.below k0 b2)
   |(go_at_call_of 113 (Value.agg #[.slice p2 l2.length c2,.int .i64 n2]);refine(yt p2 c2 n2 l2 _ (by exact e2.below b2) m2).mono ?_;rintro e w3⟨q2,d2,rfl,o2,br⟩;have b3:=aj b2 br;have k3:=vt.below k0 b3;have r3:=vt.below r0 b3;have f3:=cG f0 b3 af))
 have z1:w.heap.size+2<=w1.heap.size:=by have:=aG.size;simp at this;omega
 have z2:w1.heap.size<=w2.heap.size:=aK.size;have z3:w2.heap.size<=w3.heap.size:=br.size;have bb:Below w.heap.size w w3:=aj bW b3;have u0:Own W.heap.size w3 (.slice q0 l0.length d0) l0:=Own.below (Own.below (by simpa using o0) aK) br;have u1:Own w1.heap.size w3 (.slice q1 l1.length d1) l1:=Own.below o1 br;have u0':Own W.heap.size w1 (.slice q0 l0.length d0) l0:=by simpa using o0
 obtain⟨ra,rb,rc,rd,re,rf⟩:=r3;go_wp2;refine dJ (v:=dE (.slice q0 l0.length d0) n0 (.slice q1 l1.length d1) n1 (.slice q2 l2.length d2) n2) (by simp[results,results51,go_sem,ra,rb,rc,rd,re,rf]) rfl ⟨q0,d0,q1,d1,q2,d2,rfl,?_,?_⟩;{
 refine jC.mk' (B:=w.heap.size) (B1:=w1.heap.size) (B2:=w2.heap.size) (u0'.mono af) o1 (Own.mono (B:=W.heap.size) ?_ af) ?_ ?_ ay ay af af;{
 repeat(refine qD ?_ bq _)
 exact u0};{
 repeat(refine qD ?_ bq _)
 exact u1};{
 repeat(refine qD ?_ bq _)
 exact o2}};{
 repeat(refine ig ?_ al _)
 exact bb}
def jC.set(h:jC B w v0 v1 v2 l0 l1 l2)(ha:a.block<B)(u:Value):jC B (w.setCell a u) v0 v1 v2 l0 l1 l2:=
 ⟨h.o0.set ha u,h.o1.set ha u,h.o2.set ha u,h.n01,h.n02,h.n12⟩
def jC.mono{B':Nat}(h:jC B w v0 v1 v2 l0 l1 l2)(hB:B'<=B):jC B' w v0 v1 v2 l0 l1 l2:=
 ⟨h.o0.mono hB,h.o1.mono hB,h.o2.mono hB,h.n01,h.n02,h.n12⟩
def oL(w:World)(L0 L1 L2:LI)(N0 N1 N2 code:Int)(e:Ending)(w':World):Prop:=
 ∃q0 d0 q1 d1 q2 d2,e=.returned (.tuple #[dE (.slice q0 L0.length d0) N0 (.slice q1 L1.length d1) N1 (.slice q2 L2.length d2) N2,.int .i64 code])∧
  jC w.heap.size w' (.slice q0 L0.length d0) (.slice q1 L1.length d1) (.slice q2 L2.length d2) L0 L1 L2/\Below w.heap.size w w'
def DL(hb:Below w.heap.size w v)(h0:Rd w (.slice p0 l0.length c0) l0)(h1:Rd w (.slice p1 l1.length c1) l1)(h2:Rd v (.slice p2 l2.length c2) l2)(m0:l0.length<=200000)(m1:l1.length<=200000)(m2:l2.length<=200000):Cp 51 #[.agg #[.slice p0 l0.length c0,.int .i64 n0,.slice p1 l1.length c1,.int .i64 n1,.slice p2 l2.length c2,.int .i64 n2]] v λe w'=>
   ∃q0 d0 q1 d1 q2 d2,e=.returned (dE (.slice q0 l0.length d0) n0 (.slice q1 l1.length d1) n1 (.slice q2 l2.length d2) n2)/\jC v.heap.size w' (.slice q0 l0.length d0) (.slice q1 l1.length d1) (.slice q2 l2.length d2) l0 l1 l2/\Below w.heap.size w w':=
 (xz (n0:=n0) (n1:=n1) (n2:=n2) (h0.below hb) (h1.below hb) h2 af af af).mono λe w'⟨q0,d0,q1,d1,q2,d2,h,o,b⟩=>⟨q0,d0,q1,d1,q2,d2,h,o,aj hb b⟩
def qT(hb:Below w.heap.size w v)(h0:Rd w (.slice p0 l0.length c0) l0)(h1:Rd w (.slice p1 l1.length c1) l1)(h2:Rd w (.slice p2 l2.length c2) l2)(m0:l0.length<=200000)(m1:l1.length<=200000)(m2:l2.length<=200000):Cp 51 #[.agg #[.slice p0 l0.length c0,.int .i64 n0,.slice p1 l1.length c1,.int .i64 n1,.slice p2 l2.length c2,.int .i64 n2]] v λe w'=>
   ∃q0 d0 q1 d1 q2 d2,e=.returned (dE (.slice q0 l0.length d0) n0 (.slice q1 l1.length d1) n1 (.slice q2 l2.length d2) n2)/\jC v.heap.size w' (.slice q0 l0.length d0) (.slice q1 l1.length d1) (.slice q2 l2.length d2) l0 l1 l2/\Below w.heap.size w w':=DL hb h0 h1 (h2.below hb) m0 m1 m2
def Lb(p0 p1 p2:OA)(c0 c1 c2:Nat)(n0 n1 n2:Int)(l0 l1 l2:LI)(w:World)(h0:Rd w (.slice p0 l0.length c0) l0)(h1:Rd w (.slice p1 l1.length c1) l1)(h2:Rd w (.slice p2 l2.length c2) l2)(hd:Hid (Cw l0.length n0 l1.length n1 l2.length n2=true))(hs:l0.length<=200000)(ik:l1.length<=200000)(Om:l2.length<=200000):Calls prog 106 #[dE (.slice p0 l0.length c0) n0 (.slice p1 l1.length c1) n1 (.slice p2 l2.length c2) n2,.int .i64 0] w (oL w [] l1 l2 0 n1 n2 0)/\Calls prog 106 #[dE (.slice p0 l0.length c0) n0 (.slice p1 l1.length c1) n1 (.slice p2 l2.length c2) n2,.int .i64 2] w (oL w l0 l1 [] n0 n1 0 0)/\Calls prog 110 #[dE (.slice p0 l0.length c0) n0 (.slice p1 l1.length c1) n1 (.slice p2 l2.length c2) n2,.int .i64 2] w (oL w l0 l1 l2 n0 n1 l2.length 0)/\(∀(pb:OA)(lb lm:LI)(wo:Hid (lm=l2++lb))(cb:Nat)(hB:Rd w (.slice pb lb.length cb) lb)(Va:Hid (lm.length<=200000)),Calls prog 108 #[dE (.slice p0 l0.length c0) n0 (.slice p1 l1.length c1) n1 (.slice p2 l2.length c2) n2,.int .i64 2,.slice pb lb.length cb] w (oL w l0 l1 lm n0 n1 n2 0))/\Calls prog 111 #[dE (.slice p0 l0.length c0) n0 (.slice p1 l1.length c1) n1 (.slice p2 l2.length c2) n2] w (oL w l0 l2 [] n0 n2 0 0):=by
 refine⟨?_,?_,?_,λpb lb lm wo cb hB Va=>?_,?_⟩
 all_goals(
  go_in
  go_wp2_with fail;refine(vg p0 p1 p2 c0 c1 c2 rfl rfl rfl).mono ?_;rintro e w1⟨rfl,aG⟩;have b1:Below w.heap.size w w1:=((aA.alloc ay _).alloc al _).trans (aG.mono bq);have z1:w.heap.size+1<w1.heap.size:=by have:=aG.size;simp at this;omega
  have R1:=ag (ai (show vt w1 (w.heap.size+1) (.slice none 0 0) (.int .i64 0) (.slice none 0 0) (.int .i64 0) (.slice none 0 0) (.int .i64 0)from vt.below (by simp[vt]) aG) (cG (b:=w.heap.size+1) (by intro o;simp) aG al));have HE:=ag (ai (h0.below b1) (ai (h1.below b1) (h2.below b1)))
  try have eb:=ag (hB.below b1)
  go_wp2_with fail;refine(vf af af af).mono ?_;rintro e w2⟨rfl,aK⟩;rw[ae hd];have K2:vt w2 w1.heap.size (.slice p0 l0.length c0) (.int .i64 n0) (.slice p1 l1.length c1) (.int .i64 n1) (.slice p2 l2.length c2) (.int .i64 n2):=vt.below (by simp[vt]) aK;have G2:=cG (b:=w1.heap.size) (by intro o;simp) aK al;have b2:Below w1.heap.size w1 w2:=(aA.alloc ay _).trans (aK.mono al);have z2:w1.heap.size<w2.heap.size:=by have:=aK.size;simp at this;omega
  go_wp2_with fail)
 iterate 4 (
  focus (
   refine(No p0 p1 p2 _ c0 _ c1 _ c2 n0 n1 n2 _ _).mono ?_;rintro e w3⟨rfl,br⟩;rw[Xd af af];replace K2:=K2.below br;replace G2:=cG G2 br z2;replace b2:Below w1.heap.size w1 w3:=aj b2 br;replace z2:w1.heap.size<w3.heap.size:=aI br.size;go_wp2_with fail)
  rotate_left)
 rotate_left 3
 focus (
  refine(SE).mono ?_;rintro e w3⟨rfl,br⟩;replace K2:=K2.below br;replace G2:=cG G2 br z2;replace b2:Below w1.heap.size w1 w3:=aj b2 br;replace z2:w1.heap.size<w3.heap.size:=aI br.size;go_wp2_with fail;refine qO (qT (by repeat(first|refine ig ?_ al _|exact b2)) HE.1 HE.2.1 HE.2.2 af af af) ?_)
 rotate_left
 focus (
  have el:=tX List.length wo;rw[gU]at el;have KT:=ae Va;have hr:decide (lb.length+l2.length<=200000)=true:=by simp;omega
  refine(Hw af af).mono ?_;rintro e w3⟨rfl,br⟩;rw[hr];replace K2:=K2.below br;replace G2:=cG G2 br z2;replace b2:Below w1.heap.size w1 w3:=aj b2 br;replace z2:w1.heap.size<w3.heap.size:=aI br.size;go_wp2_with fail;refine(Vs p2 pb c2 cb n2 l2 lb lm wo _ (HE.2.2.below b2) (eb.below b2) af).mono ?_;rintro e w4⟨pm,cm,rfl,om,br⟩;replace K2:=K2.below br;replace G2:=cG G2 br z2;replace b2:Below w1.heap.size w1 w4:=aj b2 br;clear br el;go_wp2_with fail;have EO:Own w3.heap.size _ (.slice pm lm.length cm) lm:=(om.set (a:=(Ad w1.heap.size 4)) z2 (.slice pm lm.length cm)).set (a:=(Ad w1.heap.size 5)) z2 (.int .i64 n2);refine qO (DL (by repeat(first|refine ig ?_ al _|exact b2)) HE.1 HE.2.1 EO.rd af af af) ?_)
 rotate_left;refine qO (qT (p2:=none) (c2:=0) (l2:=[]) (by repeat(first|refine ig ?_ al _|exact b2)) HE.1 HE.2.2 (Rd.nil _) af af al) ?_;rotate_left;refine qO (qT (p0:=none) (c0:=0) (l0:=[]) (by repeat(first|refine ig ?_ al _|exact b2)) (Rd.nil _) HE.2.1 HE.2.2 al af af) ?_;rotate_left;refine qO (qT (p2:=none) (c2:=0) (l2:=[]) (by repeat(first|refine ig ?_ al _|exact b2)) HE.1 HE.2.1 (Rd.nil _) af af al) ?_;rotate_left
 all_goals(
  rintro e w6⟨q0,d0,q1,d1,q2,d2,rfl,o6,b6⟩;have o7:=o6.mono (B':=w.heap.size+2) (by simp;have:=b2.size;omega);have bb:=aj b1 b6
  let⟨ra,rb,rc,rd,re,rf⟩:=R1.1.below b6
  have F6:=cG R1.2 b6 z1
  try clear om EO eb
  go_wp2;refine dJ (by simp[results,results106,results110,results108,results111,go_sem,ra,rb,rc,rd,re,rf]) rfl ⟨q0,d0,q1,d1,q2,d2,rfl,?_,?_⟩;{
 refine jC.mono (B:=w.heap.size+2) ?_ af
 repeat(refine jC.set ?_ al _)
 exact o7};{
 repeat(refine ig ?_ al _)
 exact bb})
def Ya(p0 p1 p2:OA)(c0 c1 c2:Nat)(n0 n1 n2:Int)(l0 l1 l2:LI)(w:World)(h0:Rd w (.S p0 l0.length c0) l0)(h1:Rd w (.S p1 l1.length c1) l1)(h2:Rd w (.S p2 l2.length c2) l2)(hd:Hid (Cw l0.length n0 l1.length n1 l2.length n2=true))(m0:l0.length<=200000)(m1:l1.length<=200000)(m2:l2.length<=200000):Calls prog 105 #[dE (.S p0 l0.length c0) n0 (.S p1 l1.length c1) n1 (.S p2 l2.length c2) n2] w (oL w l0 l1 [] n0 n1 0 0)/\Calls prog 109 #[dE (.S p0 l0.length c0) n0 (.S p1 l1.length c1) n1 (.S p2 l2.length c2) n2] w (oL w l0 l1 l2 n0 n1 l2.length 0)/\Calls prog 112 #[dE (.S p0 l0.length c0) n0 (.S p1 l1.length c1) n1 (.S p2 l2.length c2) n2] w (oL w [] l1 l2 0 n1 n2 0)∧
  ∀(G:Nat)(pb:OA)(cb:Nat)(lb lm:LI)(wo:Hid (lm=l2++lb))(hG:w.cell? (Ad G 0)=some (.S pb lb.length cb))(hB:Rd w (.S pb lb.length cb) lb)(hlb:lb.length<=200000)(Va:lm.length<=200000),Calls prog 107 #[dE (.S p0 l0.length c0) n0 (.S p1 l1.length c1) n1 (.S p2 l2.length c2) n2,.pointer (some (Ad G 0))] w (oL w l0 l1 lm n0 n1 n2 0):=by
 have bW:∀o o':Obj,Bw w ((w.alloc o).alloc o'):=λo o'=>(aA.alloc ay _).alloc al _;have HD:=ag (λo o'=>Lb p0 p1 p2 c0 c1 c2 n0 n1 n2 l0 l1 l2 ((w.alloc o).alloc o') (h0.below (bW o o')) (h1.below (bW o o')) (h2.below (bW o o')) hd m0 m1 m2);refine⟨?_,?_,?_,λG pb cb lb lm wo hG hB hlb Va=>?_⟩
 all_goals(
  try have hG2:=λo o'=>ah hG (bW o o')
  go_in
  go_wp2_with fail)
 refine(ae HD _ _).2.1.mono ?_;rotate_left;refine(ae HD _ _).2.2.1.mono ?_;rotate_left;refine(ae HD _ _).1.mono ?_;rotate_left;refine((ae HD _ _).2.2.2.1 pb lb lm wo cb (hB.below (bW _ _)) (ag Va)).mono ?_;rotate_left
 all_goals(
  rintro e w2⟨q0,d0,q1,d1,q2,d2,rfl,o,hb⟩;have F:=cG (b:=w.heap.size+1) (by intro o;simp) hb al;obtain⟨ra,rb,rc,rd,re,rf⟩:vt w2 (w.heap.size+1) aq (.I 0) aq (.I 0) aq (.I 0):=vt.below (by simp[vt]) hb;have bb:=aj (bW _ _) hb;clear h0 h1 h2 bW hb HD
  try clear hB hG hG2
  go_wp2;refine dJ (by simp[results,results105,results107,results109,results112,go_sem,ra,rb,rc,rd,re,rf]) rfl ⟨q0,d0,q1,d1,q2,d2,rfl,?_,?_⟩;{
 refine jC.mono (B:=w.heap.size+2) ?_ af
 repeat(refine jC.set ?_ al _)
 simpa using o};{
 repeat(refine ig ?_ al _)
 exact bb})
abbrev bQ6(se pa:Bool)(lo hi vs:Int)(sq jo:Bool):Value:=.agg #[.bool se,.bool pa,.I lo,.I hi,.I vs,.bool sq,.bool jo]
def zs(se:Bool)(s:Int):se=true\/(se=false/\s=0)\/(se=false/\(s==0)=false):=by
 cases se;{exact .inr ((zf 0 s).imp (⟨rfl,·⟩) (⟨rfl,·⟩))};{exact .inl rfl}
def zp(pa:Bool)(n:Nat):pa=true\/(pa=false/\n=0)\/(pa=false/\((n:Int)==0)=false):=by
 rcases zs pa n with h|⟨h,h2⟩|h;{exact .inl h};{exact .inr (.inl ⟨h,af⟩)};{exact .inr (.inr h)}
variable {n:Nat}{B:Bool}
def au7{k s:Int}(eB:Hid (fmF se pa lo hi vs sq s f n m e g=B)):Calls prog 277 #[bQ6 se pa lo hi vs sq jo,zl k s (.S p n c) f (.S q m d) e g] w (Rb (.bool B) w):=by
 rcases zs se s with rfl|⟨rfl,rfl⟩|⟨rfl,dd⟩
 all_goals(first|(have x:=dd;clear x)|rcases zp pa n with rfl|⟨rfl,rfl⟩|⟨rfl,dd⟩)
 all_goals(first|(have x:=dd;clear x)|rcases zO (lo<=f)with h1|dd)
 all_goals(first|(have x:=dd;clear x)|rcases zO (f<=hi)with h2|dd)
 all_goals(first|(have x:=dd;clear x)|rcases zO ((m:Int)<=vs)with h3|dd)
 all_goals(first|(have x:=dd;clear x)|rcases zs sq e with rfl|⟨rfl,rfl⟩|⟨rfl,dd⟩)
 all_goals(first|(have x:=dd;clear x)|rcases zf 0 g with rfl|hg)
 all_goals(cases B<;>first|(exfalso;have h:=ae eB;clear eB;simp_all[fmF]<;>omega)|clear eB)
 all_goals(go_in;go_wp2;go_ret;exact⟨rfl,(aA.alloc ay _).alloc al _⟩)
abbrev xD(w:World)(G o:Nat)(se pa:Bool)(lo hi vs:Int)(sq jo:Bool):Prop:=w.cell? (Ad G o)=some (.bool se)/\w.cell? (Ad G (o+1))=some (.bool pa)/\w.cell? (Ad G (o+2))=some (.I lo)/\w.cell? (Ad G (o+3))=some (.I hi)/\w.cell? (Ad G (o+4))=some (.I vs)/\w.cell? (Ad G (o+5))=some (.bool sq)/\w.cell? (Ad G (o+6))=some (.bool jo)
def xD.below{G:Nat}(h:xD w G o se pa lo hi vs sq jo)(hb:Bw w w'):xD w' G o se pa lo hi vs sq jo:=
 ⟨ah h.1 hb,ah h.2.1 hb,ah h.2.2.1 hb,ah h.2.2.2.1 hb,ah h.2.2.2.2.1 hb,ah h.2.2.2.2.2.1 hb,ah h.2.2.2.2.2.2 hb⟩
def oY(mT:1<=k)(uW:k<=13){s:Int}(hT:xD w 1 (k*7) se pa lo hi vs sq jo)(eB:Hid (fmF se pa lo hi vs sq s f n m e g=B)):Calls prog 252 #[zl k s (.S p n c) f (.S q m d) e g] w (Rb (.bool B) w):=by
 have h1:=dC 1 k;have h2:(k:Int)<=13:=af;have h3:(k:Int)<14:=af;have h4:k<14:=af;have h5:=dC 0 k
 go_in
 go_wp2_with fail
 let⟨W,hW⟩:=aB (w.alloc (.cells #[.I k,.U s,.S p n c,.I f,.S q m d,.U e,.U g] 121))
 have bW:=dX hW;have hA:sy W w.heap.size (.I k) (.U s) (.S p n c) (.I f) (.S q m d) (.U e) (.U g):=by rw[hW];simp[sy,go_sem]
 have hTW:=hT.below bW;rw[<-hW];clear hW hT
 go_region_held3 (λw'=>sy w' w.heap.size (.I k) (.U s) (.S p n c) (.I f) (.S q m d) (.U e) (.U g)/\xD w' 1 (k*7) se pa lo hi vs sq jo) (first|exact⟨hA,hTW⟩|exact⟨Rz,hT1⟩)
  (first|(go_at_call 277;refine(au7 eB).mono ?_;rintro r w1⟨rfl,aG⟩;have bN:Bw W w1:=(by first|exact aG|exact aj (cQ W.heap.size W).drew aG);have Rz:=hA.below bN;have hT1:=hTW.below bN))
 have b1:=aj bW bN;clear hA hTW Rz hT1 aG bN bW;go_wp2;go_ret;exact⟨rfl,b1⟩
variable {k:Int}
def Fs{s:Int}(hk:k<1\/13<k):Calls prog 252 #[zl k s (.S p n c) f (.S q m d) e g] w (Rb (.bool false) w):=by
 have b0:∀o:Obj,Bw w (w.alloc o):=λo=>aA.alloc ay _;by_cases h1:k<1;{
 have h1':¬(1:Int)<=k:=af;have h1d:decide ((1:Int)<=k)=false:=by simp;omega
 go_in
 go_wp2_with fail
 go_region
 all_goals(
  go_wp2;go_ret;exact⟨rfl,by first|exact b0 _|exact(b0 _).drew⟩)}
 {
 have h1':(1:Int)<=k:=af;have h2':¬k<=13:=af;have h1d:decide ((1:Int)<=k)=true:=by simp;omega
 have h2d:decide (k<=(13:Int))=false:=by simp;omega
 go_in
 go_wp2_with fail
 go_region
 all_goals(
  go_wp2;go_ret;exact⟨rfl,by first|exact b0 _|exact(b0 _).drew⟩)}
def NM(nd:aD):Prop:=(nd.path.length<=136/\nd.value.length<=41/\nd.holders.length<=51)/\(0<=nd.mode/\nd.mode<=3)/\(0<=nd.owner/\nd.owner<2^64)/\(0<=nd.aE/\nd.aE<2^64)/\(0<=nd.gen/\nd.gen<2^64)/\∀i∈nd.holders,0<=i/\i<2^64
structure SmW(ss:List aQ)(ns:List aD):Prop where
 n1:ss.length<=51
 n2:ns.length<=201
 s:∀s∈ss,0<=s.1/\s.1<2^64
 d:∀nd∈ns,NM nd
def cK(w:World)(A:List Lf)(k:Int):Prop:=∀(i:Nat)(a:Lf),A[i]?=some a->w.cell? (Ad a.b a.o)=some (.int a.k (mkV a.k (k+i)))
def cK.below(h:cK w A k)(hb:Bw w w'):cK w' A k:=λi a ha=>ah (h i a ha) hb
def cK.app(h:cK w (A++A2) k):cK w A k/\cK w A2 (k+A.length):=by
  refine⟨λi a ha=>h i a ?_,λi a ha=>?_⟩;{rw[kR (aV.1 ha).1];exact ha};{
 have:=h (A.length+i) a (by rw[nF af];simpa using ha);rw[this]
 congr 3
 push_cast
 omega}
def cK.cons{a:Lf}(h:cK w (a::A2) k):w.cell? (Ad a.b a.o)=some (.int a.k (mkV a.k k))/\cK w A2 (k+1):=by
  have h1:=(cK.app (A:=[a]) (A2:=A2) (by simpa using h));refine⟨?_,by simpa using h1.2⟩;have:=h1.1 0 a al;simpa using this
def cK.flat(h:cK w Ls.flatten k)(M8:(Ls.take (j+1)).flatten=(Ls.take j).flatten++l):cK w l (k+(Ls.take j).flatten.length):=by
  have e:Ls.flatten=(Ls.take j).flatten++(l++(Ls.drop (j+1)).flatten):=by rw[<-sX,<-M8,<-GG,Dn]
  rw[e]at h;exact h.app.2.app.1
def Mk.held(h:Mk w w' A k)(bu:(A.map λa=>(a.b,a.o)).Nodup):cK w' A k:=h.val bu
def Et.below{x:Ev}{a:Nat}(h:Et w x b a l)(hb:Bw w w'):Et w' x b a l:=h.mk (Mk.dR hb 0) (dt.nil _)
variable {v:Value}
def CD.below(h:CD w v xs l)(hb:Bw w w'):CD w' v xs l:=CD.mk h (Mk.dR hb 0) (dt.nil _)
def Cz.below{x:aQ}{a:Nat}(h:Cz w x b a l)(hb:Bw w w'):Cz w' x b a l:=h.mk (Mk.dR hb 0) (dt.nil _)
def uj.below{xs:List aQ}(h:uj w v xs l)(hb:Bw w w'):uj w' v xs l:=uj.mk h (Mk.dR hb 0) (dt.nil _)
def Es.below{x:aD}{a:Nat}(h:Es w x b a l)(hb:Bw w w'):Es w' x b a l:=h.mk (Mk.dR hb 0) (dt.nil _)
def vQ.below{xs:List aD}(h:vQ w v xs l)(hb:Bw w w'):vQ w' v xs l:=vQ.mk h (Mk.dR hb 0) (dt.nil _)
theorem hdW{q:Prop}(h':q:=by
    have hnA:=h.len (λx b a l hl=>by first|exact hl.pos|(rw[show l=_ from hl];simp))
    let⟨Ls,en,lL,eA,iM⟩:=h.at
    have HAT:=ag iM;have HA:=ag (show cK w Ls.flatten k by rw[<-eA];exact hA);have EA:=ag eA;have K1:k+(Ls.flatten.length:Int)<=100000000:=eA▸k1;have hn:n<=100000000:=af;have LL:=ag lL;clear h iM hA eA en lL hnA;show Calls _ _ _ _ _
    go_in
    go_wp2
    go_loopw[1,5](λkk i wr=>∃j:Nat,j<=n/\i=.I j/\kk=.I (k+(((Ls.take j).flatten.length:Nat):Int))/\Bw w wr) (λ_ i _=>n-(intOf i).toNat)
    exact⟨0,gr _,rfl,al,cQ _ _⟩;{
 obtain⟨j,hj,rfl,rfl,aM⟩:=hrel;have hle:=jP Ls j;by_cases bf:j<n;{
 have bL:=aU j n;obtain⟨b,o,x,l,rfl,hx,hl,hP,M8,oy⟩:=ae HAT j bf;have hh:=(HA.flat M8).below aM;have hTl:(Ls.take (j+1)).flatten.length=(Ls.take j).flatten.length+l.length:=by rw[M8,gU]
 have ti:k+((Ls.take j).flatten.length:Int)+(l.length:Int)<=100000000:=by have:=jP Ls (j+1);omega
 have HT:=ag hTl;generalize hT:(Ls.take j).flatten.length=T at*;clear hT hx hl M8 oy hTl;have hT0:0<=k+(T:Int):=af
 first
   | (have e1:l=[⟨b,o+j*1,.u8⟩]:=hP
      rw[zL]at e1;subst e1;have tv:wr.cell? (Ad b (o+j))=some (.int .u8 ((k+(T:Int)) % 256)):=hh.cons.1;have bS:(((k+(T:Int)) % 256) != ((k+(T:Int)) % 256))=false:=al;have cA3:k+(T:Int)+1<=100000000:=by simpa using ti
      clear hP hh ti;have b1:=aM;clear aM)
   | (have e1:l=[⟨b,o+j*1,.u64⟩]:=hP
      rw[zL]at e1;subst e1;have tv:wr.cell? (Ad b (o+j))=some (.U (k+(T:Int))):=hh.cons.1;have bS:((k+(T:Int)) != (k+(T:Int)))=false:=al;have cA3:k+(T:Int)+1<=100000000:=by simpa using ti
      clear hP hh ti;have b1:=aM;clear aM)
   | (have YQ:Et wr x b _ l:=hP.below aM
      obtain⟨q,d,lb,rfl,hd,U9⟩:=YQ;have HD:=ag hd;have Ta:=ag U9;clear hd U9;have hlen:k+(T:Int)+(1+(lb.length:Int))<=100000000:=by simp only[gU,iS]at ti;omega
      clear ti hP;have tv:wr.cell? (Ad b (o+j*2))=some (.I (k+(T:Int))):=(cK.cons hh).1;have t0:=(cK.cons hh).2;have s1:cK wr lb (k+(T:Int)+1):=t0;have HS:=ag (s1);have uq:=ag (tv);have W0:=ag (cQ wr.heap.size wr);clear hh t0 s1 tv;have tv:=ah uq W0;have bh7:((k+(T:Int)) != (k+(T:Int)))=false:=al;have hd1:=ah HD W0;go_wp2_with fail;clear tv bh7 hd1;refine(tq Ta (HS.below W0) af af).mono ?_;rintro e v0⟨rfl,N0⟩;have BV0:=ag (aj W0 N0);have aW8:¬k+(T:Int)+1+(lb.length:Int)<0:=af;clear N0;have b1:=aj aM BV0;clear aM)
   | (have YQ:Cz wr x b _ l:=hP.below aM
      obtain⟨q,d,lb,rfl,hd,U9⟩:=YQ;have HD:=ag hd;have Ta:=ag U9;clear hd U9;have hlen:k+(T:Int)+(2+(lb.length:Int))<=100000000:=by simp only[gU,iS]at ti;omega
      clear ti hP;have tv:wr.cell? (Ad b (o+j*3))=some (.U (k+(T:Int))):=(cK.cons hh).1;have t0:=(cK.cons hh).2;have jt:wr.cell? (Ad b (o+j*3+1))=some (.I (k+(T:Int)+1)):=(cK.cons t0).1;have t1:=(cK.cons t0).2;have s2:cK wr lb (k+(T:Int)+1+1):=t1;have HS:=ag (s2);have uq:=ag (ai tv (jt));have W0:=ag (cQ wr.heap.size wr);clear hh t0 t1 s2 tv jt;have tv:=ah uq.1 W0;have bh7:((k+(T:Int)) != (k+(T:Int)))=false:=al;have jt:=ah uq.2 W0;have bI6:((k+(T:Int)+1) != (k+(T:Int)+1))=false:=al;have hd2:=ah HD W0;go_wp2_with fail;clear tv bh7 jt bI6 hd2;have lv0:=Ta.below W0;refine(Ju lv0 (HS.below W0) af af).mono ?_;rintro e v0⟨rfl,N0⟩;have BV0:=ag (aj W0 N0);have aW8:¬k+(T:Int)+1+1+(lb.length:Int)<0:=af;clear N0;have b1:=aj aM BV0;clear aM)
   | (have YQ:Es wr x b _ l:=hP.below aM
      obtain⟨p0,c0,p1,c1,p4,c4,p7,c7,l0,l1,l4,l7,rfl,⟨h1,h2⟩,⟨h3,h4⟩,⟨h5,h6⟩,⟨h7,h8⟩⟩:=YQ;have HD:=ag (ai h1 (ai h3 (ai h5 h7)));have Ta:=ag (ai h2 (ai h4 (ai h6 h8)));clear h1 h2 h3 h4 h5 h6 h7 h8;have hlen:k+(T:Int)+(4+(l0.length:Int)+(l1.length:Int)+(l4.length:Int)+(l7.length:Int))<=100000000:=by simp only[gU,iS]at ti;omega
      clear ti hP;have s0:cK wr l0 (k+(T:Int)):=(cK.app hh).1;have t0:=(cK.app hh).2;have s1:cK wr l1 (k+(T:Int)+(l0.length:Int)):=(cK.app t0).1;have t1:=(cK.app t0).2;have ku:wr.cell? (Ad b (o+j*8+2))=some (.U (k+(T:Int)+(l0.length:Int)+(l1.length:Int))):=(cK.cons t1).1;have t2:=(cK.cons t1).2;have Jw:wr.cell? (Ad b (o+j*8+3))=some (.I (k+(T:Int)+(l0.length:Int)+(l1.length:Int)+1)):=(cK.cons t2).1;have t3:=(cK.cons t2).2;have s4:cK wr l4 (k+(T:Int)+(l0.length:Int)+(l1.length:Int)+1+1):=(cK.app t3).1;have t4:=(cK.app t3).2;have DC:wr.cell? (Ad b (o+j*8+5))=some (.U (k+(T:Int)+(l0.length:Int)+(l1.length:Int)+1+1+(l4.length:Int))):=(cK.cons t4).1;have t5:=(cK.cons t4).2;have yF:wr.cell? (Ad b (o+j*8+6))=some (.U (k+(T:Int)+(l0.length:Int)+(l1.length:Int)+1+1+(l4.length:Int)+1)):=(cK.cons t5).1;have t6:=(cK.cons t5).2;have s7:cK wr l7 (k+(T:Int)+(l0.length:Int)+(l1.length:Int)+1+1+(l4.length:Int)+1+1):=t6;have HS:=ag (ai s0 (ai s1 (ai s4 (s7))));have uq:=ag (ai ku (ai Jw (ai DC (yF))));have W0:=ag (cQ wr.heap.size wr);clear hh t2 t3 t5 t6 t0 t1 t4 s0 s1 s4 s7 ku Jw DC yF;have hd0:=ah HD.1 W0;go_wp2_with fail;clear hd0;refine(tq Ta.1 (HS.1.below W0) af af).mono ?_;rintro e v0⟨rfl,N0⟩;have BV0:=ag (aj W0 N0);have aW8:¬k+(T:Int)+(l0.length:Int)<0:=af;clear N0;have hd1:=ah HD.2.1 BV0;go_wp2_with fail;clear hd1;refine(tq Ta.2.1 (HS.2.1.below BV0) af af).mono ?_;rintro e v1⟨rfl,N1⟩;have BV1:=ag (aj BV0 N1);have dh9:¬k+(T:Int)+(l0.length:Int)+(l1.length:Int)<0:=af;clear N1;have ku:=ah uq.1 BV1;have cy9:((k+(T:Int)+(l0.length:Int)+(l1.length:Int)) != (k+(T:Int)+(l0.length:Int)+(l1.length:Int)))=false:=al;have Jw:=ah uq.2.1 BV1;have cy7:((k+(T:Int)+(l0.length:Int)+(l1.length:Int)+1) != (k+(T:Int)+(l0.length:Int)+(l1.length:Int)+1))=false:=al;have hd4:=ah HD.2.2.1 BV1;go_wp2_with fail;clear ku cy9 Jw cy7 hd4;refine(uY p4 c4 x.holders.length (x.holders) l4 (k+(T:Int)+(l0.length:Int)+(l1.length:Int)+1+1) _ Ta.2.2.1 (HS.2.2.1.below BV1) af af).mono ?_;rintro e v2⟨rfl,N2⟩;have Te:=ag (aj BV1 N2);have dh8:¬k+(T:Int)+(l0.length:Int)+(l1.length:Int)+1+1+(l4.length:Int)<0:=af;clear N2;have DC:=ah uq.2.2.1 Te;have cy5:((k+(T:Int)+(l0.length:Int)+(l1.length:Int)+1+1+(l4.length:Int)) != (k+(T:Int)+(l0.length:Int)+(l1.length:Int)+1+1+(l4.length:Int)))=false:=al;have yF:=ah uq.2.2.2 Te;have cy3:((k+(T:Int)+(l0.length:Int)+(l1.length:Int)+1+1+(l4.length:Int)+1) != (k+(T:Int)+(l0.length:Int)+(l1.length:Int)+1+1+(l4.length:Int)+1))=false:=al;have hd7:=ah HD.2.2.2 Te;go_wp2_with fail;clear DC cy5 yF cy3 hd7;refine(uY p7 c7 x.watchers.length (x.watchers) l7 (k+(T:Int)+(l0.length:Int)+(l1.length:Int)+1+1+(l4.length:Int)+1+1) _ Ta.2.2.2 (HS.2.2.2.below Te) af af).mono ?_;rintro e v3⟨rfl,N3⟩;have Td:=ag (aj Te N3);have dh7:¬k+(T:Int)+(l0.length:Int)+(l1.length:Int)+1+1+(l4.length:Int)+1+1+(l7.length:Int)<0:=af;clear N3;have b1:=aj aM Td;clear aM)
 go_wp2;go_roundw;exact⟨j+1,af,by go_num,by rw[ae HT];first|go_num|(simp;omega)|(congr 1;simp;omega),by first|exact b1|exact below_drewN b1⟩;exact cg};{
 have e:j=n:=af;subst e;have e2:(Ls.take j).flatten=A:=by rw[<-ae LL,rr];exact EA.symm
 rw[e2];clear hle HAT HA;go_wp2;go_ret;exact⟨rfl,aM⟩}}):q:=h'
def tq{xs:LI}(h:SQ (.S p n c) xs A)(hA:cK w A k)(k0:0<=k)(k1:k+A.length<=100000000):Cp 125 #[.S p n c,.I k] w (Rb (.I (k+A.length)) w):=hdW
def uY(p:OA)(c n:Nat)(xs:LI)(A:List Lf)(k:Int)(w:World)(h:ZA (.S p n c) xs A)(hA:cK w A k)(k0:0<=k)(k1:k+A.length<=100000000):Cp 127 #[.S p n c,.I k] w (Rb (.I (k+A.length)) w):=hdW
def Ju(h:CD w (.S p n c) xs A)(hA:cK w A k)(k0:0<=k)(k1:k+A.length<=100000000):Cp 126 #[.S p n c,.I k] w (Rb (.I (k+A.length)) w):=hdW
def El(p:OA)(c n:Nat)(xs:List aQ)(A:List Lf)(k:Int)(w:World)(h:uj w (.S p n c) xs A)(hA:cK w A k)(k0:0<=k)(k1:k+A.length<=100000000):Cp 61 #[.S p n c,.I k] w (Rb (.I (k+A.length)) w):=hdW
def Nb(p:OA)(c n:Nat)(xs:List aD)(A:List Lf)(k:Int)(w:World)(h:vQ w (.S p n c) xs A)(hA:cK w A k)(k0:0<=k)(k1:k+A.length<=100000000):Cp 62 #[.S p n c,.I k] w (Rb (.I (k+A.length)) w):=hdW
def gD{α:Type}(F:α->Nat)(l:List α):Nat:=(l.map F).sum
variable {k:Nat}
def vy{α:Type}(F:α->Nat){l:List α}{y:α}(h:l[k]?=some y):gD F (l.take (k+1))=gD F (l.take k)+F y:=by
 rw[od,h];simp[gD]
def Bo{α:Type}(F:α->Nat)(l:List α):gD F (l.take 0)=0:=by simp[gD]
def FB(s:aQ):Nat:=s.2.2.length+gD (λe:Ev=>e.2.length) s.2.2
def FD(nd:aD):Nat:=nd.path.length+nd.value.length+nd.holders.length+nd.watchers.length
def LM(ss:List aQ)(ns:List aD):Nat:=ss.length+gD FB ss+(ns.length+gD FD ns)
variable {l:LI}
def oK.news(h:oK w (.S (some a) l.length c) l):(l.map (Value.int .u64)).length=l.length*1/\(∀j u,(l.map (Value.int .u64))[j]?=some u->w.cell? (a.add j)=some u)/\(∀u∈l.map (Value.int .u64),u.oneCell'=true):=by
 refine⟨al,λj u hu=>?_,λu hu=>by obtain⟨n,-,rfl⟩:=iR.1 hu;rfl⟩;have hj:j<l.length:=by have:=(aV.1 hu).1;simpa using this
 obtain⟨p,c',e,hd⟩:=h;obtain⟨rfl,-,-⟩:=ir e;rcases hd with h0|⟨b,o,e1,hc⟩;{rw[h0]at hj;simp at hj};{simp only[kV]at e1;subst e1;rw[zI,hc j hj,<-hu];simp[gj,hj]}
theorem Xa(en:Le l n)(h:oK w (.S p n c) l)(hl:Mg n):Calls prog 145 #[.S p n c] w λe w'=>∃p' c',e=.returned (.S p' n c')/\lp w.heap.size w' (.S p' n c') l/\Bw w w':=by
 have e:=ae en;subst e
 let⟨i,hi,qx,jd,jJ⟩:=fD Tryz.infoU64
 go_in
 have YL:w.ownsRow w.heap.size 27 1 aq 0 []:=gm w _ _ 1;cases p with
 |none=>
  have e0:l=[]:=by obtain⟨p,c',e,hd⟩:=h;simp only[pW]at e;rcases hd with h0|⟨b,o,e1,hc⟩;{exact h0};{rw[e1]at e;simp at e}
  subst e0;have Z7:=fM (P:=prog) 108 i underlying108 hi c YL;go_wp2_with(at_builtin;refine Lib.wpList_append_run w rfl _ _ 108 108 rfl _ _ rfl rfl _ _ Z7 ?_);go_ret;exact⟨_,_,rfl,lp.nil _ _,cQ _ _⟩
 |some ad=>
  let⟨n1,n2,n3⟩:=h.news
  let⟨v',w',hr,h1,h2,h3⟩:=yT (ty:=108) i hi qx jd jJ YL (ZT.nil w) c n1 n2 n3 iB af ay
  go_wp2_with(at_builtin;refine Lib.wpList_append_run w rfl _ _ 108 108 rfl _ _ rfl rfl _ _ hr ?_);have ho:lp w.heap.size w' v' l:=⟨by simpa[js]using h1,h3⟩;obtain⟨p',c',rfl⟩:=ho.form;have hb:Bw w w':=⟨h2.os,h2.tape,h2.output,h2.size,λk hk=>h2.block k hk (by simp[Value.ownBlock])⟩;clear h1 h2 h3 hr n1 n2 n3 h;go_wp2;go_ret;exact⟨_,_,rfl,ho,hb⟩
def oB:Option LI->Int×Option LI
 |some (c::t)=>(c,some t)
 |_=>(0,none)
def oV:Option LI->Int×Option LI
 |some m=>(match rv m with|some x=>(x.1,some x.2)|none=>(0,none))
 |none=>(0,none)
def oT:Option LI->LI×Option LI
 |some m=>(match rt m with|some x=>(x.1,some x.2)|none=>([],none))
 |none=>([],none)
def nJ(n:Nat):Option LI->Int
 |some m=>(n:Int)-m.length
 |none=>-1
def jV(n:Nat)(l:LI)(om:Option LI):Prop:=∀m,om=some m->m.length<=n/\m=l.drop (n-m.length)
def jV.start(h:l.length=n):jV n l (some l):=λm e=>by
 simp at e;subst e;exact⟨af,by rw[h,BQ];rfl⟩
def jV.none:jV n l none:=λm e=>by cases e
variable {m:LI}
def jV.Mt(hl:l.length=n)(h:jV n l (some m)){t:LI}(ht:t.length<=m.length)(e:t=m.drop (m.length-t.length)):jV n l (some t):=λx ex=>by
 simp at ex;subst ex
 let⟨h1,h2⟩:=h m rfl
 refine⟨af,?_⟩
 conv=>lhs;rw[e,h2,Gv,r9,hl]
 congr 1
 omega
theorem BH(hl:l.length=n)(h:jV n l om):jV n l (oB om).2:=by
 match om,h with
 |none,_=>exact jV.none
 |some [],_=>exact jV.none
 |some (c::t),h=>exact jV.Mt hl h al al
theorem gO(hl:l.length=n)(h:jV n l om):jV n l (oV om).2:=by
 match om,h with
 |none,_=>exact jV.none
 | some m,h=>
  show jV n l (match rv m with|some x=>(x.1,some x.2)|none=>(0,none):Int×Option LI).2;cases e:rv m with
  |none=>exact jV.none
  |some x=>
   obtain⟨v,t⟩:=x
   let⟨_,_,h3,h4⟩:=vE 10 0 0 m v t e
   exact jV.Mt (t:=t) hl h (WU h3) h4
theorem af3{x:LI×LI}(h:rt m=some x):x.2.length<=m.length/\x.2=m.drop (m.length-x.2.length)/\∃a b,x.1=(m.drop a).take b:=by
 unfold rt at h;cases e:rv m with
 |none=>rw[e]at h;simp at h
 |some y=>
  obtain⟨v,t⟩:=y;rw[e]at h;simp only at h
  let⟨v0,_,h3,h4⟩:=vE 10 0 0 m v t e
  split at h;{cases h};{
 next hv=>
 simp at h;subst h;simp only[r9];refine⟨af,?_,m.length-t.length,v.toNat,by rw[<-h4]⟩
 conv=>lhs;rw[h4,Gv]
 congr 1
 omega}
theorem Gp(hl:l.length=n)(h:jV n l om):jV n l (oT om).2:=by
 match om,h with
 |none,_=>exact jV.none
 | some m,h=>
  show jV n l (match rt m with|some x=>(x.1,some x.2)|none=>([],none):LI×Option LI).2;cases e:rt m with
  |none=>exact jV.none
  |some x=>
   let⟨h1,h2,_⟩:=af3 e
   exact jV.Mt hl h h1 h2
theorem rh(hb:aN l)(h:jV n l om):aN (oT om).1/\(oT om).1.length<=n:=by
 match om,h with
 |none,_=>exact⟨λz hz=>by simp[oT]at hz,by simp[oT]⟩
 | some m,h=>
  let⟨h1,h2⟩:=h m rfl
  have hm:aN m:=by rw[h2];exactλz hz=>hb z (GS hz)
  show aN (match rt m with|some x=>(x.1,some x.2)|none=>([],none):LI×Option LI).1/\(match rt m with|some x=>(x.1,some x.2)|none=>([],none):LI×Option LI).1.length<=n;cases e:rt m with
  |none=>exact⟨λz hz=>by simp at hz,al⟩
  |some x=>
   let⟨_,_,a,b,h3⟩:=af3 e
   refine⟨?_,?_⟩;{show aN x.1;rw[h3];exactλz hz=>hm z (GS (GR hz))};{show x.1.length<=n;rw[h3,pT,r9];omega}
theorem ah1(hb:aN l)(h:jV n l om):0<=(oB om).1/\(oB om).1<256:=by
 match om,h with
 |none,_=>simp[oB]
 |some [],_=>simp[oB]
 |some (c::t),h=>
  let⟨h1,h2⟩:=h _ rfl
  exact hb c (GS (by rw[<-h2];simp))
theorem Gn:0<=(oV om).1/\(oV om).1<2^64:=by
 cases om with
 |none=>simp[oV]
 | some m=>
  show 0<=(match rv m with|some x=>(x.1,some x.2)|none=>(0,none):Int×Option LI).1/\(match rv m with|some x=>(x.1,some x.2)|none=>(0,none):Int×Option LI).1<_;cases e:rv m with
  |none=>simp
  |some x=>
   obtain⟨v,t⟩:=x
   let⟨h1,h2,_⟩:=vE 10 0 0 m v t e
   exact⟨h1,h2⟩
def af2{P:LI}(rest:LI)(h:P.length<2^64):rt (tx P++rest)=some (P,rest):=by
 rw[rt,tx,sX,Wx _ h];simp only[gU];rw[bH af];simp
theorem pK(en:Le l n)(h:Rd w (.S p n c) l)(hb:aN l)(hl:Mg n)(hs:jV n l om)(e:Hid (oB om=(x,EO))):Cp 139 #[.S p n c,.I (nJ n om)] w λe w'=>e=.returned (.tuple #[.I x,.I (nJ n EO)])/\w'=w:=by
 have e:=ae e
 match om,hs with
 |none,_=>
  simp[oB]at e;obtain⟨rfl,rfl⟩:=e;exact Mm
 |some [],hs=>
  simp[oB]at e;obtain⟨rfl,rfl⟩:=e;have ea:nJ n (some [])=(n:Int):=by simp[nJ]
  rw[ea];exact Mn hl
 |some (y::t),hs=>
  simp[oB]at e;obtain⟨rfl,rfl⟩:=e
  let⟨h1,h2⟩:=hs _ rfl
  simp only[iS]at h1 h2
  let⟨a,ea⟩:=aL (n-(t.length+1))
  rw[ea]at h2;have e1:nJ n (some (y::t))=(a:Int):=by simp[nJ];omega
  have e2:nJ n (some t)=((a+1:Nat):Int):=by simp[nJ];omega
  have e3:l.getD a 0=y:=by have:=tX (λz=>z.getD 0 0) h2;simp[List.getD]at this;simp[List.getD,<-this]
  have:=PR (a:=a) en h hb hl af;rw[e3]at this;rw[e1,e2];exact this
theorem BG(en:Le l n)(h:Rd w (.S p n c) l)(hb:aN l)(hl:Mg n)(hs:jV n l om)(e:Hid (oV om=(x,EO))):Cp 137 #[.S p n c,.I (nJ n om)] w λe w'=>e=.returned (.tuple #[.U x,.I (nJ n EO)])/\w'=w:=by
 have e:=ae e
 match om,hs with
 |none,_=>
  simp[oV]at e;obtain⟨rfl,rfl⟩:=e;exact CU
 |some m,hs=>
  let⟨h1,h2⟩:=hs _ rfl
  let⟨a,ea⟩:=aL (n-m.length)
  rw[ea]at h2;have e1:nJ n (some m)=(a:Int):=by simp[nJ];omega
  have:=Gg (a:=a) en h hb hl af (r:=rv m) (by show _=_;rw[<-h2]);rw[e1];refine this.mono ?_;rintro r w'⟨rfl,rfl⟩;refine⟨?_,rfl⟩;unfold oV at e;dsimp only at e;cases er:rv m with
  |none=>rw[er]at e;simp at e;obtain⟨rfl,rfl⟩:=e;rfl
  |some y=>rw[er]at e;simp at e;obtain⟨rfl,rfl⟩:=e;rfl
theorem pI(en:Le l n)(h:Rd w (.S p n c) l)(hb:aN l)(hl:Mg n)(xv:n<=c)(hs:jV n l om){x:LI}(e:Hid (oT om=(x,EO)))(eN:Le x N):Cp 138 #[.S p n c,.I (nJ n om)] w λe w'=>∃p' c',e=.returned (.tuple #[.S p' N c',.I (nJ n EO)])/\Own w.heap.size w' (.S p' N c') x/\Bw w w':=by
 have e:=ae e
 match om,hs with
 |none,_=>
  simp[oT]at e;obtain⟨rfl,rfl⟩:=e;have hN:N=0:=by rw[<-ae eN];rfl
  subst hN;refine(Ml).mono ?_;rintro r w'⟨rfl,rfl⟩;exact⟨none,0,rfl,gm _ _ _ _,cQ _ _⟩
 | some m,hs=>
  let⟨h1,h2⟩:=hs _ rfl
  let⟨a,ea⟩:=aL (n-m.length)
  rw[ea]at h2;have e1:nJ n (some m)=(a:Int):=by simp[nJ];omega
  have e2:tOf (rt m)=x/\bOf n (rt m)=nJ n EO:=by
   unfold oT at e;dsimp only at e;cases er:rt m with
   |none=>rw[er]at e;simp at e;obtain⟨rfl,rfl⟩:=e;exact⟨rfl,rfl⟩
   |some y=>rw[er]at e;simp at e;obtain⟨rfl,rfl⟩:=e;exact⟨rfl,rfl⟩
  have:=PQ (a:=a) en h hb hl xv af (r:=rt m) (by show _=_;rw[<-h2]) (N:=N) (by show _=_;rw[e2.1];exact ae eN);rw[e1];rw[e2.1,e2.2]at this;exact this
abbrev blk(g:Nat):Value:=.T g 0 0
def Oz(R:Nat)(w:World)(p:OA)(m:LI):Prop:=m=[]\/∃b o,b<R/\p=some (Ad b o)/\∀i,i<m.length->w.cell? (Ad b (o+i))=some (.int .u8 (m.getD i 0))
def Oz.rd(h:Oz R w p m)(e:m.length=n):Rd w (.S p n c) m:=by
 refine⟨p,c,by rw[e],?_⟩;rcases h with h|⟨b,o,_,h2,h3⟩;{exact .inl h};{exact .inr ⟨b,o,h2,h3⟩}
def Oz.set(h:Oz R w p m)(o:Nat)(v:Value):Oz R (w.setCell (Ad R o) v) p m:=by
 rcases h with h|⟨b,o',h1,h2,h3⟩;{exact .inl h};{refine .inr ⟨b,o',h1,h2,λi hi=>?_⟩;rw[De _ _ _ _ (by simp;try omega)];exact h3 i hi}
def Oz.tail(h:Oz R w (some (Ad b o)) (x::m)):Oz R w (some (Ad b (o+1))) m:=by
 rcases h with h|⟨b',o',h1,h2,h3⟩;{cases h};{simp at h2;obtain⟨rfl,rfl⟩:=h2;refine .inr ⟨b,o+1,h1,rfl,λi hi=>?_⟩;have:=h3 (i+1) bq;rw[show o+1+i=o+(i+1) by omega,this];simp}
def sF(w:World)(R:Nat)(m:LI)(n:Nat)(sh:Bool):Prop:=
 m.length=n/\(∀o,w.frozen? (Ad R o)=false)/\∃p c,Ty w R (.S p n c) (.bool sh)/\Oz R w p m/\n<=c/\((p=none/\c=0)\/∃b o,p=some (Ad b o))
def qd:Kept [blk R] w (w.setCell (Ad R o) v):=by
 refine⟨rfl,rfl,rfl,al,λk hk bS=>?_⟩;have:k≠R:=λe=>bS (blk R) al (by rw[e];rfl);simp[World.setCell,BS];intro e;exact absurd e.symm this
def Un(h:sF w R (x::m) (n+1) sh)(hx:0<=x/\x<256)(hl:Mg n):Calls prog 237 #[.pointer (some (Ad R 0))] w λe w'=>e=.returned (.I x)/\sF w' R m n sh/\Kept [blk R] w w':=by
 obtain⟨hlen,hf,p,c,⟨h0,h1⟩,hr,hc,hp⟩:=h;have Va:m.length=n:=by simpa using hlen
 obtain⟨b,o,rfl⟩:∃b o,p=some (Ad b o):=by rcases hp with h|h;{omega};{exact h}
 have hbR:b<R:=by rcases hr with h|⟨b',o',h1,h2,_⟩;{cases h};{simp at h2;omega}
 have tv:w.cell? (Ad b o)=some (.int .u8 x):=by rcases hr with h|⟨b',o',h1,h2,h3⟩;{cases h};{simp at h2;obtain⟨rfl,rfl⟩:=h2;simpa using h3 0 al}
 have g1:((n:Int)+1==0)=false:=by simp;omega
 have wx:IntKind.i64.wrap x=x:=kU _ af;have k1:(1:Int)<=(n:Int)+1:=af;have k2:(n:Int)+1<=(c:Int):=af;have k3:=dC 1 c;have HR:=ag hr;clear hr hp hlen;by_cases jt:c=1;{
 subst jt;have MX:n=0:=af;subst MX;have MY:m=[]:=r8.1 Va;subst MY
 go_in
 go_wp2;go_ret;refine⟨rfl,⟨rfl,λo=>by simp[hf],some (Ad b o),0,⟨by simp[go_sem,h0],by simp[go_sem,h1]⟩,.inl rfl,af,.inr ⟨b,o,rfl⟩⟩,qd⟩};{
 have cE6:¬(c:Int)=1:=af
 go_in
 go_wp2;go_ret;exact⟨rfl,⟨Va,λo=>by simp[hf],some (Ad b (o+1)),c-1,⟨by simp[go_sem,h0],by simp[go_sem,h1]⟩,HR.tail.set _ _,af,.inr ⟨b,o+1,rfl⟩⟩,qd⟩}
def Uo(h:sF w R [] 0 sh):Calls prog 237 #[.pointer (some (Ad R 0))] w λe w'=>e=.returned (.I 0)/\sF w' R [] 0 true/\Kept [blk R] w w':=by
 obtain⟨hlen,hf,p,c,⟨h0,h1⟩,hr,hc,hp⟩:=h
 go_in
 go_wp2;go_ret;exact⟨rfl,⟨rfl,λo=>by simp[hf],p,c,⟨by simp[go_sem,h0],by simp[go_sem,h1]⟩,.inl rfl,hc,hp⟩,qd⟩
def sB:LI->Bool->Int×LI×Bool
 |[],_=>(0,[],true)
 |c::t,sh=>(c,t,sh)
theorem Bu(h:sF w R m n sh)(hb:aN m)(hl:Mg n)(e:Hid (sB m sh=(x,m',sh'))):Cp 237 #[.pointer (some (Ad R 0))] w λe w'=>e=.returned (.I x)/\sF w' R m' m'.length sh'/\Kept [blk R] w w':=by
 have e:=ae e;cases m with
 |nil=>
  simp[sB]at e;obtain⟨rfl,rfl,rfl⟩:=e;have hn:n=0:=h.1.symm;subst hn;exact Uo h
 |cons c t=>
  simp[sB]at e;obtain⟨rfl,rfl,rfl⟩:=e;have hn:n=t.length+1:=by have:=h.1;simpa using this.symm
  subst hn;exact Un h (hb c al) af
def sN:Nat->Nat->Int->LI->Bool->Int×LI×Bool
 |0,_,a,m,sh=>(a,m,sh)
 |f+1,k,a,m,sh=>if(sB m sh).1<128 then(uh k a (sB m sh).1,(sB m sh).2)else sN f (k+1) (uh k a (sB m sh).1) (sB m sh).2.1 (sB m sh).2.2
theorem Bz(h:aN m):aN (sB m sh).2.1/\0<=(sB m sh).1/\(sB m sh).1<256/\(sB m sh).2.1.length<=m.length:=by
 cases m with
 |nil=>exact⟨λz hz=>by simp[sB]at hz,by simp[sB],by simp[sB],by simp[sB]⟩
 |cons c t=>exact⟨λz hz=>h z (by simp[sB]at hz;simp[hz]),(h c al).1,(h c al).2,by simp[sB]⟩
def gi(h:sF w R m n sh)(hb:aN m)(hl:Mg n)(e:Hid (sN 10 0 0 m sh=(x,m',sh'))):Calls prog 205 #[.pointer (some (Ad R 0))] w λe w'=>e=.returned (.U x)/\sF w' R m' m'.length sh'/\Kept [blk R] w w':=by
 go_in
 go_wp2_with fail
 go_loopw[3,6](λnv iv wr=>∃(v:Int)(k:Nat)(m1:LI)(sh1:Bool)(n1:Nat),nv=.U v/\k<=10/\iv=.I k/\Hid (sN (10-k) k v m1 sh1=(x,m',sh'))/\Hid (aN m1)/\n1<=n/\Hid (sF wr R m1 n1 sh1)/\Kept [blk R] w wr) (λ_ iv _=>10-(intOf iv).toNat)
 exact⟨0,0,m,sh,n,rfl,af,rfl,e,hb,iD _,h,Kept.refl _ _⟩;{
 obtain⟨v,k,m1,sh1,n1,rfl,hk,rfl,hN,Cl,xw,hR,hK⟩:=hrel;by_cases h10:k<10;{
 have bm1:(k:Int)<10:=af;have DG:=ae hN;rw[show 10-k=(9-k)+1 by omega,sN]at DG;have gh:=Bz (sh:=sh1) Cl;obtain⟨⟨c,m2,sh2⟩,eS⟩:∃y,sB m1 sh1=y:=⟨_,rfl⟩;rw[eS]at DG gh;obtain⟨jg,tv,jt,KT⟩:=gh;dsimp only at DG jg tv jt KT;have EW:m1.length=n1:=hR.1;have Oo:m2.length<=n:=af;have w7:IntKind.i64.wrap (7*(k:Int))=7*(k:Int):=kU _ af;have w70:¬7*(k:Int)<0:=af;have AO:=ag jg;clear hN jg EW KT;go_wp2_with fail;refine(Bu hR Cl af eS).mono ?_;rintro r w2⟨rfl,Z8,hK2⟩;have ZB:=ag Z8;have HK2:=ag (hK.trans hK2);clear Z8 hK2 eS;by_cases hc:c<128;{rw[bO hc]at DG;simp only[gy]at DG;obtain⟨e1,rfl,rfl⟩:=DG;have E1:=ag e1;clear e1;go_wp2;go_ret;exact⟨by rw[<-ae E1];rfl,ae ZB,ae HK2⟩};{
 have rA:¬c<128:=hc;rw[bH hc]at DG;have JA:Hid (sN (10-(k+1)) (k+1) (uh k v c) m2 sh2=(x,m',sh')):=by show _=_;rw[show 10-(k+1)=9-k by omega];exact DG
 clear DG;go_wp2;go_roundw;exact⟨uh k v c,k+1,m2,sh2,m2.length,rfl,af,by go_num,JA,AO,Oo,ZB,HK2⟩;exact cg}};{have bm1:¬(k:Int)<10:=af;have DG:=ae hN;rw[show 10-k=0 by omega,sN]at DG;simp only[gy]at DG;obtain⟨rfl,rfl,rfl⟩:=DG;have EW:m1.length=n1:=hR.1;subst EW;clear hN;go_wp2;go_ret;exact⟨rfl,hR,hK⟩}}
def sT(m:LI)(sh:Bool):LI×LI×Bool:=
 if((sN 10 0 0 m sh).2.1.length:Int)<(sN 10 0 0 m sh).1 then([],(sN 10 0 0 m sh).2.1,true)
 else((sN 10 0 0 m sh).2.1.take (sN 10 0 0 m sh).1.toNat,(sN 10 0 0 m sh).2.1.drop (sN 10 0 0 m sh).1.toNat,(sN 10 0 0 m sh).2.2)
theorem Gb(f:Nat):∀(k:Nat)(a:Int)(m:LI)(sh:Bool),aN m->(0<=a/\a<2^64)->aN (sN f k a m sh).2.1/\(sN f k a m sh).2.1.length<=m.length/\0<=(sN f k a m sh).1/\(sN f k a m sh).1<2^64:=by
 induction f with
 |zero=>intro k a m sh hb ha;exact⟨hb,iD _,ha.1,ha.2⟩
 |succ f ih=>
  intro k a m sh hb ha;rw[sN]
  let⟨h1,h2,h3,h4⟩:=Bz (sh:=sh) hb
  split;{exact⟨h1,h4,tI⟩};{
 let⟨i1,i2,i3⟩:=ih (k+1) (uh k a (sB m sh).1) _ (sB m sh).2.2 h1 (tI)
 exact⟨i1,af,i3⟩}
theorem aK9{X:World}(en:Le l0 N)(r0:Rd X v0 l0)(hl:N<=4194304):Cp 98 #[.T X.heap.size 1 1] (X.alloc (.cells #[v0] 22)) λe w'=>∃p' c',e=.returned (.S p' N c')/\Own X.heap.size w' (.S p' N c') l0/\Bw X w':=by
 have ba:Bw X (X.alloc (.cells #[v0] 22)):=aA.alloc ay _;refine(fK (g:=X.heap.size) (vs:=[v0]) [l0] (lm:=l0) (n:=N) 1 rfl (by show _=_;simp[cat]) en ⟨rfl,λj v x e1 e2=>?_⟩ hl af).mono ?_;{
 match j,e1,e2 with
 |0,e1,e2=>simp at e1 e2;subst e1 e2;exact⟨al,r0.below ba⟩}
 {rintro e w'⟨p',c',rfl,o,hb⟩;exact⟨p',c',rfl,Own.mono o al,aj ba hb⟩}
def Oz.below(h:Oz R w p m)(hb:Bw w w'):Oz R w' p m:=by
 rcases h with h|⟨b,o',h1,h2,h3⟩;{exact .inl h};{exact .inr ⟨b,o',h1,h2,λi hi=>ah (h3 i hi) hb⟩}
def Oz.take(h:Oz R w p m)(V:Nat):Oz R w p (m.take V):=by
 rcases h with h|⟨b,o',h1,h2,h3⟩;{exact .inl (by rw[h];simp)};{refine .inr ⟨b,o',h1,h2,λi hi=>?_⟩;rw[pT]at hi;rw[h3 i af];simp[List.getD,GP,show i<V by omega]}
def Oz.drop(h:Oz R w (some (Ad b o)) m)(V:Nat):Oz R w (some (Ad b (o+V))) (m.drop V):=by
 rcases h with h|⟨b',o',h1,h2,h3⟩;{exact .inl (by rw[h];simp)};{simp at h2;obtain⟨rfl,rfl⟩:=h2;refine .inr ⟨b,o+V,h1,rfl,λi hi=>?_⟩;rw[r9]at hi;rw[mL,h3 (V+i) af];simp[List.getD]}
def Fy(h:sF w R m n sh)(hb:aN m)(hl:Mg n)(hRw:R<w.heap.size){x:LI}(e:Hid (sT m sh=(x,m',sh')))(eN:Le x N):Calls prog 238 #[.pointer (some (Ad R 0))] w λr w'=>∃p' c',r=.returned (.S p' N c')/\Own w.heap.size w' (.S p' N c') x/\sF w' R m' m'.length sh'/\Kept [blk R] w w':=by
 have gh:=Gb 10 0 0 m sh hb af;obtain⟨⟨v,m1,sh1⟩,eS⟩:∃y,sN 10 0 0 m sh=y:=⟨_,rfl⟩;have e2:=ae e;rw[sT,eS]at e2;rw[eS]at gh;obtain⟨Cl,Tm,v0,v1⟩:=gh;dsimp only at e2 Cl Tm v0 v1;rw[h.1]at Tm
 let⟨n1,Ox⟩:=aL m1.length
 rw[Ox]at e2 Tm;have wn:IntKind.u64.wrap (n1:Int)=(n1:Int):=by rw[mK];omega
 go_in
 go_wp2_with fail;refine(gi h hb hl eS).mono ?_;rintro r w1⟨rfl,vd,Xt⟩;rw[Ox]at vd;have Ob:=ag vd;obtain⟨_,hf,p,c,⟨h0,h1⟩,hr,hc,hp⟩:=vd;by_cases hv:(n1:Int)<v;{
 rw[bO hv]at e2;simp only[gy]at e2;obtain⟨rfl,rfl,rfl⟩:=e2;have Vo:N=0:=by rw[<-ae eN];rfl
 subst Vo;have HV1:=ag v1;clear v1;go_wp2;go_ret;refine⟨none,0,rfl,gm _ _ _ _,?_,Xt.trans qd⟩;rw[Ox];exact⟨Ox,λo=>by simp[hf],p,c,⟨by simp[go_sem,h0],by simp[go_sem,h1]⟩,hr.set _ _,hc,hp⟩};{
 rw[bH hv]at e2;obtain⟨V,rfl⟩:∃V:Nat,v=(V:Int):=⟨v.toNat,af⟩;have eV:((V:Int)).toNat=V:=af;rw[eV]at e2;simp only[gy]at e2;obtain⟨ex,em,es⟩:=e2;have hVn:V<=n1:=af;have hNV:N=V:=by rw[<-ae eN,<-ex,pT,Ox];omega
 subst hNV;have hml:m'.length=n1-N:=by rw[<-em,r9,Ox]
 have hv':¬(n1:Int)<(N:Int):=hv;have k2:=iC N c;have k3:=iC N n1;have k4:=iC n1 c;have cG8:R<w1.heap.size:=nZ w1 _ h0;have HX:=ag (ai ex (ai em hml));have rx:Rd w1 (.S p N c) x:=by rw[<-ex];exact(hr.take N).rd (ex▸ae eN)
 have HRX:=ag rx;have HRR:=ag hr;have zK:=Xt.size;have hNb:N<=4194304:=af;clear v0 v1 eV hb Cl ex em rx hr h eS e;go_wp2_with fail;refine(aK9 eN HRX hNb).mono ?_;rintro r w2⟨p2,c2,rfl,o2,b2⟩;have i0:=ah h0 b2;have i1:=ah h1 b2;have if':=cI hf cG8 b2;have z2:=b2.size;have HK2:=ag (Xt.trans (Kept.dR b2));have HO2:=ag o2;have nO:=ag (HRR.below b2);clear h0 h1 hf b2 o2 Xt HRR HRX;rcases hp with⟨rfl,rfl⟩|⟨b,o,rfl⟩;{have MX:n1=0:=af;subst MX;have Vo:N=0:=af;subst Vo;go_wp2;go_ret;refine⟨p2,c2,rfl,Own.mono (B:=w1.heap.size) ?_ af,?_,HK2.trans qd⟩;{exact qD (ae HO2) bq _};{have MY:m'=[]:=r8.1 HX.2.2;rw[MY,<-es];exact⟨rfl,λo=>by simp[if'],none,0,⟨by simp[go_sem,i0],by simp[go_sem,i1]⟩,.inl rfl,al,.inl ⟨rfl,rfl⟩⟩}};{by_cases hcN:c=N;{subst hcN;have xw:n1=c:=af;subst xw;go_wp2;go_ret;refine⟨p2,c2,rfl,Own.mono (B:=w1.heap.size) ?_ af,?_,HK2.trans qd⟩;{exact qD (ae HO2) bq _};{have MY:m'=[]:=r8.1 (by rw[HX.2.2];omega);rw[MY,<-es];exact⟨rfl,λo=>by simp[if'],some (Ad b o),0,⟨by simp[go_sem,i0],by simp[go_sem,i1]⟩,.inl rfl,al,.inr ⟨b,o,rfl⟩⟩}};{have dV1:¬(c:Int)=(N:Int):=af;go_wp2;go_ret;refine⟨p2,c2,rfl,Own.mono (B:=w1.heap.size) ?_ af,?_,HK2.trans qd⟩;{exact qD (ae HO2) bq _};{rw[<-es,HX.2.2];refine⟨HX.2.2,λo=>by simp[if'],some (Ad b (o+N)),c-N,⟨by simp[go_sem,i0],by simp[go_sem,i1]⟩,?_,af,.inr ⟨b,o+N,rfl⟩⟩;have:=nO.drop N;rw[HX.2.1]at this;exact this.set _ _}}}}
theorem Yg(f:Nat):∀(k:Nat)(a:Int)(m:LI)(v:Int)(t:LI)(sh:Bool),Me f k a m=some (v,t)->sN f k a m sh=(v,t,sh):=by
 induction f with
 |zero=>intro k a m v t sh h;simp[Me]at h
 | succ f ih=>
  intro k a m v t sh h;cases m with
  |nil=>simp[Me]at h
  |cons c m=>
   rw[Me]at h;rw[sN];show(if c<128 then(uh k a c,m,sh)else sN f (k+1) (uh k a c) m sh)=_;split at h;{next hc=>rw[bO hc];simp at h;rw[h.1,h.2]}
   {next hc=>rw[bH hc];exact ih _ _ _ _ _ _ h}
def ae8{s:Nat}(hs:s<2^64):sN 10 0 0 (vi s++rest) sh=((s:Int),rest,sh):=Yg 10 0 0 _ _ _ sh (Wx rest hs)
def Ww(P:LI)(h:P.length<2^64):sT (tx P++rest) sh=(P,rest,sh):=by
 rw[sT,tx,sX,ae8 h];simp only[gU];rw[bH af];simp
theorem EF(h:sh=true):(sB m sh).2.2=true:=by
 cases m with
 |nil=>rfl
 |cons c t=>exact h
theorem Md(f:Nat):∀(k:Nat)(a:Int)(m:LI)(sh:Bool),sh=true->(sN f k a m sh).2.2=true:=by
 induction f with
 |zero=>intro k a m sh h;exact h
 |succ f ih=>
  intro k a m sh h;rw[sN];split;{exact EF h};{exact ih _ _ _ _ (EF h)}
def Ez(h:sh=true):(sT m sh).2.2=true:=by
 rw[sT];split;{rfl}
 {exact Md _ _ _ _ _ h}
def By(h:aN m):aN (sT m sh).1/\aN (sT m sh).2.1/\(sT m sh).1.length<=m.length/\(sT m sh).2.1.length<=m.length:=by
 let⟨h1,h2,h3,h4⟩:=Gb 10 0 0 m sh h af
 rw[sT];split;{exact⟨λz hz=>by simp at hz,h1,al,h2⟩};{refine⟨λz hz=>h1 z (GR hz),λz hz=>h1 z (GS hz),?_,?_⟩;{rw[pT];omega};{rw[r9];omega}}
def fv(h:∀o,w.frozen? (Ad b o)=false)(hk:Kept [blk R] w w')(hb:b<w.heap.size)(bS:b≠R):∀o,w'.frozen? (Ad b o)=false:=λo=>
 (tM (hk.block b hb (λx hx e=>by simp only[nE]at hx;subst hx;simp[Value.ownBlock]at e;exact bS e.symm))).trans (h o)
def Own.di{B:Nat}(h:Own B w v l)(hk:Kept [blk R] w w')(hR:R<B):Own B w' v l:=by
 refine Own.td (vs:=[blk R]) h hk ?_;intro x hx k e1 e2;simp only[nE]at hx;subst hx;simp[Value.ownBlock]at e2;have:=h.lt k e1;omega
def fw{w0:World}(h:Bw w0 w)(hk:Kept [blk R] w w')(hR:w0.heap.size<=R):Bw w0 w':=
 h.trans (hk.below h.size (λv hv b e=>by simp only[nE]at hv;subst hv;simp[Value.ownBlock]at e;omega))
def mh{α:Type}(f:α->α)(k:Nat)(xs:List α):List α:=(xs.take k).map f++xs.drop k
def DJ{α:Type}(f:α->α)(xs:List α):mh f 0 xs=xs:=by simp[mh]
def Ib{α:Type}(f:α->α){xs:List α}(h:xs.length<=k):mh f k xs=xs.map f:=by
 rw[mh,lD h,Ku h,BI]
def sk{α:Type}(f:α->α){xs:List α}{x:α}(h:xs[k]?=some x):(mh f k xs)[k]?=some x:=by
 have hl:=(aV.1 h).1;rw[mh,nF bq,MG,fN,pT,show k+(k-min k xs.length)=k by omega];exact h
def DK{α:Type}(f:α->α){xs:List α}{x:α}(h:xs[k]?=some x):(mh f k xs).set k (f x)=mh f (k+1) xs:=by
 have hl:=(aV.1 h).1;have hx:=(aV.1 h).2;rw[mh,mh,QO _ _ bq,fN,pT,show k-min k xs.length=0 by omega,MH hl,GW,od,h];simp
def xY{n:Int}(h:Rd w (.slice p l.length c) l)(hl:l.length<=2097152):Calls prog 79 #[iZ (.slice p l.length c) n] w λe w'=>∃p' c',e=.returned (iZ (.slice p' l.length c') n)/\Own w.heap.size w' (.slice p' l.length c') l/\Below w.heap.size w w':=by
 have b2:Below w.heap.size w ((w.alloc (.cells #[.slice p l.length c,.int .i64 n] 35)).alloc (.cells #[.slice none 0 0,.int .i64 0] 35)):=(aA.alloc ay _).alloc al _;have hR:=ag (h.below b2.drew);clear h
 go_in
 go_wp2_with fail
 go_region_held3 (λw'=>w'.cell? (Ad w.heap.size 0)=some (.slice p l.length c)/\w'.cell? (Ad w.heap.size 1)=some (.int .i64 n)) (first|go_keep|(simp[g0,g1];done))
  (first|(go_at_call 70;refine(xZ (by exact ae hR) hl).mono ?_;rintro e w1⟨p',c',rfl,o1,aG⟩;obtain⟨jt,YO⟩:=xB aG;have g0:w1.cell? (Ad w.heap.size 0)=some (.slice p l.length c):=(jt _ _ bq).trans al;have g1:w1.cell? (Ad w.heap.size 1)=some (.int .i64 n):=(jt _ _ bq).trans al))
 have aK:Below w.heap.size w w1:=b2.drew.trans (aG.mono bq);have qy:Own (w.heap.size+2) w1 (.slice p' l.length c') l:=by simpa using o1
 clear hR b2 o1 aG g0 g1;go_wp2;refine dJ (v:=iZ (.slice p' l.length c') n) (by simp[results,results79,go_sem,jt]) rfl ⟨p',c',rfl,Own.mono (B:=w.heap.size+2) ?_ af,?_⟩;{
 repeat(refine qD ?_ al _)
 exact qy};{
 repeat(refine ig ?_ (by simp<;>omega) _)
 exact aK}
theorem Hj(p0 p1 p2:OA)(c0 c1 c2:Nat)(n0 n1 n2:Int)(l0 l1 l2:LI)(w:World)(h0:Rd w (.slice p0 l0.length c0) l0)(h1:Rd w (.slice p1 l1.length c1) l1)(h2:Rd w (.slice p2 l2.length c2) l2)(m0:l0.length<=2097152)(m1:l1.length<=2097152)(m2:l2.length<=2097152):Calls prog 37 #[dE (.slice p0 l0.length c0) n0 (.slice p1 l1.length c1) n1 (.slice p2 l2.length c2) n2] w λe w'=>
   ∃q0 d0 q1 d1 q2 d2,e=.returned (dE (.slice q0 l0.length d0) n0 (.slice q1 l1.length d1) n1 (.slice q2 l2.length d2) n2)∧
    jC w.heap.size w' (.slice q0 l0.length d0) (.slice q1 l1.length d1) (.slice q2 l2.length d2) l0 l1 l2/\Below w.heap.size w w':=by
 go_in
 go_wp2_with fail
 let⟨W,hW⟩:=aB ((w.alloc (.cells #[.slice p0 l0.length c0,.int .i64 n0,.slice p1 l1.length c1,.int .i64 n1,.slice p2 l2.length c2,.int .i64 n2] 37)).alloc (.cells #[.slice none 0 0,.int .i64 0,.slice none 0 0,.int .i64 0,.slice none 0 0,.int .i64 0] 37))
 have bW:Below w.heap.size w W:=hW▸(aA.alloc ay _).alloc al _;have k0:vt W w.heap.size (.slice p0 l0.length c0) (.int .i64 n0) (.slice p1 l1.length c1) (.int .i64 n1) (.slice p2 l2.length c2) (.int .i64 n2):=by rw[hW];simp[vt]
 have r0:vt W (w.heap.size+1) (.slice none 0 0) (.int .i64 0) (.slice none 0 0) (.int .i64 0) (.slice none 0 0) (.int .i64 0):=by rw[hW];simp[vt]
 have f0:∀o,W.frozen? (Ad (w.heap.size+1) o)=false:=by intro o;rw[hW];simp
 have zW:w.heap.size+2=W.heap.size:=by rw[hW];simp
 rw[<-hW];clear hW;have e0:=h0.below bW.drew;have e1:=h1.below bW;have e2:=h2.below bW;clear h0 h1 h2;have k0d:vt W.drew w.heap.size (.slice p0 l0.length c0) (.int .i64 n0) (.slice p1 l1.length c1) (.int .i64 n1) (.slice p2 l2.length c2) (.int .i64 n2):=k0
 go_region_held3 (λw'=>vt w' w.heap.size (.slice p0 l0.length c0) (.int .i64 n0) (.slice p1 l1.length c1) (.int .i64 n1) (.slice p2 l2.length c2) (.int .i64 n2)) (first|with_reducible exact k0d|with_reducible exact k1|with_reducible exact k2|with_reducible exact k3|(clear k0 k0d k1 k2 b1 b2 b3 f3 e0 e1 e2 o0 o1 o2 aG aK br r0 f0 bW;refine⟨?_,?_,?_,?_,?_,?_⟩<;>go_keep))
  (first
   |(go_at_call_of 79 (Value.agg #[.slice p0 l0.length c0,.int .i64 n0]);refine(xY (by exact e0) m0).mono ?_;rintro e w1⟨q0,d0,rfl,o0,aG⟩;have b1:=aj (cQ W.heap.size W).drew aG;have k1:=vt.below k0 b1)
   |(go_at_call_of 79 (Value.agg #[.slice p1 l1.length c1,.int .i64 n1]);refine(xY (by exact e1.below b1) m1).mono ?_;rintro e w2⟨q1,d1,rfl,o1,aK⟩;have b2:=aj b1 aK;have k2:=vt.below k0 b2)
   |(go_at_call_of 79 (Value.agg #[.slice p2 l2.length c2,.int .i64 n2]);refine(xY (by exact e2.below b2) m2).mono ?_;rintro e w3⟨q2,d2,rfl,o2,br⟩;have b3:=aj b2 br;have k3:=vt.below k0 b3;have r3:=vt.below r0 b3;have f3:=cG f0 b3 af))
 have z1:w.heap.size+2<=w1.heap.size:=by have:=aG.size;simp at this;omega
 have z2:w1.heap.size<=w2.heap.size:=aK.size;have z3:w2.heap.size<=w3.heap.size:=br.size;have bb:Below w.heap.size w w3:=aj bW b3;have u0:Own W.heap.size w3 (.slice q0 l0.length d0) l0:=Own.below (Own.below (by simpa using o0) aK) br;have u1:Own w1.heap.size w3 (.slice q1 l1.length d1) l1:=Own.below o1 br;have u0':Own W.heap.size w1 (.slice q0 l0.length d0) l0:=by simpa using o0
 obtain⟨ra,rb,rc,rd,re,rf⟩:=r3;clear k0 k0d k1 k2 k3 b1 b2 b3 e0 e1 e2 aG aK br r0 f0 o0;go_wp2;refine dJ (v:=dE (.slice q0 l0.length d0) n0 (.slice q1 l1.length d1) n1 (.slice q2 l2.length d2) n2) (by simp[results,results37,go_sem,ra,rb,rc,rd,re,rf]) rfl ⟨q0,d0,q1,d1,q2,d2,rfl,?_,?_⟩;{
 refine jC.mk' (B:=w.heap.size) (B1:=w1.heap.size) (B2:=w2.heap.size) (u0'.mono af) o1 (Own.mono (B:=W.heap.size) ?_ af) ?_ ?_ ay ay af af;{
 repeat(refine qD ?_ bq _)
 exact u0};{
 repeat(refine qD ?_ bq _)
 exact u1};{
 repeat(refine qD ?_ bq _)
 exact o2}};{
 repeat(refine ig ?_ al _)
 exact bb}
def own:ownKnob Tryz.prog.godebug=none:=by kernel_rfl
def laidOut:laidOutB Tryz.prog=true:=by kernel_rfl
variable {f:FuncId}
def Rw{H:Type}{enc:TypeId×Value->H}{a:Assume}{apart fresh handsOn again:Bool} (hX:∀(w w':World)(args:Array Value),w.heap=w'.heap->X w args->X w' args)(own:ownKnob C.prog.godebug=none)(started:os.Started)(bf0:C.prog.inits.idxOf? f=none)(hfn:C.prog.funcs[f]?=some fn)(witness:∃(w:World)(tape:Tape)(i:Input),w.os=os/\(w.forCall tape i).Shaped C.prog/\i.vars=[]/\Input.okWide C.prog (w.forCall tape i) .any w.heap.size f i∧
   ((s.pre enc C.prog fn conds apart (w.forCall tape i).memory i.args/\X (w.forCall tape i).memory i.args)/\sizedMet enc C.prog fn (OpenSpec.ofChange s) apart (w.forCall tape i).memory i.args)/\a.holds C.prog (lone (Frame.enter C.prog f i.args .normal) [] (w.forCall tape i)))(ax5:∀(W:World)(base:Nat)(args:Array Value)(ds gs:List (DataW H))(before:List MemPlace),
   (∀(j:Nat)t v,fn.params[j]?=some t->args[j]?=some v->Value.okWide C.prog W .any base t v)→
   DataW.Whole enc C.prog fn.params.toList s.vars apart W args.toList ds gs before→
   X W args->W.ShapedOpen C.prog→
   Calls C.prog f args W λe W'=>∃v,e=.returned v/\s.post enc C.prog fn apart fresh handsOn again W args v W'):ReturnsInHanded a C os f .any (λw args=>(s.pre enc C.prog fn conds apart w args/\X w args)/\sizedMet enc C.prog fn (OpenSpec.ofChange s) apart w args) (s.post enc C.prog fn apart fresh handsOn again):=by
 refine returnsInHanded_of_calls own started bf0 witness ?_;intro w tape i _ hsh _ iI yi cC1;obtain⟨_,_,_,fn',cC6,_,_,_,_,Hn⟩:=iI;have e:fn'=fn:=Ji (cC6.symm.trans hfn);subst e;obtain⟨⟨⟨ds,gs,before,hw,hc⟩,hx⟩,hz⟩:=yi;refine(ax5 (w.forCall tape i) w.heap.size i.args ds gs before Hn (DataW.Whole.of_heap (w':=w.forCall tape i) aJ hw) (hX _ _ _ aJ hx) hsh).mono λe W'⟨v,he,hp⟩=>?_;subst he;exact ChangeSpec.post_blind hp
def Qn(h:w.ShapedOpen Tryz.prog):∃m,w.cell? (Ad 0 0)=some (.I m):=
 cell_of_shapedOpen_int (t:=3) (zero:=#[.I 0]) h (QA bg) bg rfl bg bg Tryz.underlying3
def Is:Tryz.prog.cellsOf 285=7:=by kernel_rfl
def St:Tryz.prog.cellsOf 22=1:=by kernel_rfl
def Lg:Tryz.prog.cellsOf 3=1:=by kernel_rfl
def VO:Tryz.prog.cellsOf 4=1:=by kernel_rfl
theorem Ly{H:Type}{enc:TypeId×Value->H}{held:Bool}{f0 f1 f2 f3 f4 f5 f6:Field}{x:DataW H×List MemPlace}(ht:P.underlying t=some (.struct #[f0,f1,f2,f3,f4,f5,f6]))(h:DataW.trod enc P w base spare held fuel t cs=some x):∃y0 y1 y2 y3 y4 y5 y6 n,x.1=.agg [y0.1,y1.1,y2.1,y3.1,y4.1,y5.1,y6.1]/\cs.length=P.cellsOf t∧
   DataW.trod enc P w base spare held n f0.type ((cs.drop f0.offset).take (P.cellsOf f0.type))=some y0/\DataW.trod enc P w base spare held n f1.type ((cs.drop f1.offset).take (P.cellsOf f1.type))=some y1∧
   DataW.trod enc P w base spare held n f2.type ((cs.drop f2.offset).take (P.cellsOf f2.type))=some y2/\DataW.trod enc P w base spare held n f3.type ((cs.drop f3.offset).take (P.cellsOf f3.type))=some y3∧
   DataW.trod enc P w base spare held n f4.type ((cs.drop f4.offset).take (P.cellsOf f4.type))=some y4/\DataW.trod enc P w base spare held n f5.type ((cs.drop f5.offset).take (P.cellsOf f5.type))=some y5∧
   DataW.trod enc P w base spare held n f6.type ((cs.drop f6.offset).take (P.cellsOf f6.type))=some y6:=by
 obtain⟨xs,n,_,rfl,hl,hlen,hf⟩:=ai1 ht h
 match xs,hlen with
 |[y0,y1,y2,y3,y4,y5,y6],_=>exact⟨y0,y1,y2,y3,y4,y5,y6,n,rfl,hl,by simpa using hf 0 f0 rfl,by simpa using hf 1 f1 rfl,by simpa using hf 2 f2 rfl,by simpa using hf 3 f3 rfl,by simpa using hf 4 f4 rfl,by simpa using hf 5 f5 rfl,by simpa using hf 6 f6 rfl⟩
theorem Nl{x:DataW Unit×List MemPlace}(h:DataW.trod (λ_=>()) Tryz.prog w 0 (λ_=>true) false n 285 cs=some x)(hx:x.1=.agg [.lit (.bool se),.lit (.bool pa),.lit (.I lo),.lit (.I hi),.lit (.I vs),.lit (.bool sq),.lit (.bool jo)]):cs=[.bool se,.bool pa,.I lo,.I hi,.I vs,.bool sq,.bool jo]:=by
 let⟨y0,y1,y2,y3,y4,y5,y6,m,e,hl,h0,h1,h2,h3,h4,h5,h6⟩:=Ly Tryz.underlying285 h
 rw[Is]at hl;obtain⟨x0,x1,x2,x3,x4,x5,x6,rfl⟩:∃x0 x1 x2 x3 x4 x5 x6,cs=[x0,x1,x2,x3,x4,x5,x6]:=by
  match cs,hl with
  |[a,b,c,d,e,f,g],_=>exact⟨a,b,c,d,e,f,g,rfl⟩
 simp[VO,Lg]at h0 h1 h2 h3 h4 h5 h6
 let⟨b0,e0,f0⟩:=WH Tryz.underlying4 h0
 let⟨b1,e1,f1⟩:=WH Tryz.underlying4 h1
 let⟨b2,e2,f2,_⟩:=mI Tryz.underlying3 h2
 let⟨b3,e3,f3,_⟩:=mI Tryz.underlying3 h3
 let⟨b4,e4,f4,_⟩:=mI Tryz.underlying3 h4
 let⟨b5,e5,f5⟩:=WH Tryz.underlying4 h5
 let⟨b6,e6,f6⟩:=WH Tryz.underlying4 h6
 rw[e,f0,f1,f2,f3,f4,f5,f6]at hx;simp at hx e0 e1 e2 e3 e4 e5 e6;obtain⟨rfl,rfl,rfl,rfl,rfl,rfl,rfl⟩:=hx;subst e0 e1 e2 e3 e4 e5 e6
 rfl
end Go.Proofs.YtnhnbpkfpaondaaGreatDoor
