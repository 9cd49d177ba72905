import Derived.Test.YtcfcafeciggjeaaGreatDoorK35
import Derived.Test.YtcfcafeciggjeaaGreatDoorK36
namespace Go.Proofs.YtcfcafeciggjeaaGreatDoor
set_option linter.unusedVariables false
set_option linter.unusedSimpArgs false
set_option maxRecDepth 100000
open Go.ChangeShapes Go.WideShapes Go.ChangeAt Go.RowKit Go.Maps
variable {A:List Lf} {B b bn bs:Nat} {D:SD} {R:RP} {v:Value} {w w' w0:World} {xs:List (List Int)}
theorem Dw.Ti (h:Dw w v xs A) (hr:∀ b,v.ownBlock=some b->w'.heap[b]?=w.heap[b]?):Dw w' v xs A:=by
 obtain ⟨p,c,Ls,rfl,h2,h3,h4⟩:=h;refine ⟨p,c,Ls,rfl,h2,h3,?_⟩;rcases h4 with h4 | ⟨b,o,rfl,h6⟩;{exact .inl h4};{refine .inr ⟨b,o,rfl,fun i x l hx hl=>?_⟩;obtain ⟨p',c',q1,q2⟩:=h6 i x l hx hl;exact ⟨p',c',(ah (hr b rfl) _).trans q1,q2⟩}
theorem LU.cR (h:LU w v xs) (hl:Dw w v xs A) (hr:∀ b,v.ownBlock=some b->w'.heap[b]?=w.heap[b]?) (hk:∀ a∈A,w'.heap[a.b]?=w.heap[a.b]?):LU w' v xs:=by
 obtain ⟨p,c,rfl,h⟩:=h;obtain ⟨p2,c2,Ls,e2,h2,h3,h4⟩:=hl;simp only [Value.slice.injEq,true_and] at e2;obtain ⟨rfl,rfl⟩:=e2;refine ⟨p,c,rfl,?_⟩;rcases h with h | ⟨b,o,rfl,h⟩;{exact .inl h};{refine .inr ⟨b,o,rfl,fun i x hx=>?_⟩;obtain ⟨u,q1,q2⟩:=h i x hx;rcases h4 with h0 | ⟨b',o',e5,h6⟩;{rw [h0] at hx;simp at hx};{simp only [Option.some.injEq,Addr.mk.injEq,and_true] at e5;obtain ⟨rfl,rfl⟩:=e5;obtain ⟨l,hl⟩:∃ l,Ls[i]?=some l:=⟨_,aE (by have:=(aJ.1 hx).1;omega)⟩;obtain ⟨p',c',r1,r2⟩:=h6 i x l hx hl;rw [Nat.mul_one,q1] at r1;cases r1;exact ⟨_,(ah (hr b rfl) _).trans q1,q2.cR r2 (fun a ha=>hk a (by rw [h3];exact List.mem_flatten.2 ⟨l,aF hl,ha⟩))⟩}}
def zt (B:Nat) (w:World) (v:Value) (R:RP):Prop:=∃ (p1:Option Addr) (c1:Nat) (p2:Option Addr) (c2:Nat) (p3:Option Addr) (c3:Nat) (A1 A2 A3:List Lf),v=fW R.k R.i R.e R.g R.n (.slice p1 R.vt.length c1) (.slice p2 R.qh.length c2) (.slice p3 R.tT.length c3) ∧
 (Rd w (.slice p1 R.vt.length c1) R.vt/\EF (.slice p1 R.vt.length c1) R.vt A1)/\(LU w (.slice p2 R.qh.length c2) R.qh/\Dw w (.slice p2 R.qh.length c2) R.qh A2/\∀ b,(Value.slice p2 R.qh.length c2).ownBlock=some b->B<=b/\b<w.heap.size) ∧
 (iC w (.slice p3 R.tT.length c3) R.tT/\tC w (.slice p3 R.tT.length c3) R.tT A3)/\ja B w (A1++(A2++A3))
theorem zt.aM (h:zt B w v R) (hk:∀ b,B<=b->b<w.heap.size->w'.heap[b]?=w.heap[b]?) (hz:w.heap.size<=w'.heap.size):zt B w' v R:=by
 obtain ⟨p1,c1,p2,c2,p3,c3,A1,A2,A3,e,⟨h1,h2⟩,⟨h3,h4,h5⟩,⟨h6,h7⟩,h8⟩:=h;have k8:∀ a∈A1++(A2++A3),w'.heap[a.b]?=w.heap[a.b]?:=fun a ha=>hk a.b (h8.lo a ha) (h8.qY.lt ha);have k1:∀ a∈A1,w'.heap[a.b]?=w.heap[a.b]?:=fun a ha=>k8 a (by simp [ha]);have k2:∀ a∈A2,w'.heap[a.b]?=w.heap[a.b]?:=fun a ha=>k8 a (by simp [ha]);have k3:∀ a∈A3,w'.heap[a.b]?=w.heap[a.b]?:=fun a ha=>k8 a (by simp [ha]);have kr:∀ b,(Value.slice p2 R.qh.length c2).ownBlock=some b->w'.heap[b]?=w.heap[b]?:=fun b hb=>hk b (h5 b hb).1 (h5 b hb).2;exact ⟨p1,c1,p2,c2,p3,c3,A1,A2,A3,e,⟨h1.cR h2 k1,h2⟩,⟨h3.cR h4 kr k2,h4.Ti kr,fun b hb=>⟨(h5 b hb).1,Nat.lt_of_lt_of_le (h5 b hb).2 hz⟩⟩,⟨h6.cR h7 k3,tC.aM h7 k3⟩,h8.aM k8⟩
theorem zt.mono {B':Nat} (h:zt B w v R) (hB:B'<=B):zt B' w v R:=by
 obtain ⟨p1,c1,p2,c2,p3,c3,A1,A2,A3,e,h1,⟨h3,h4,h5⟩,h6,h8⟩:=h;exact ⟨p1,c1,p2,c2,p3,c3,A1,A2,A3,e,h1,⟨h3,h4,fun b hb=>⟨Nat.le_trans hB (h5 b hb).1,(h5 b hb).2⟩⟩,h6,h8.mono hB⟩
theorem Om (w:World):Rd w (.slice none 0 0) []:=⟨none,0,rfl,.inl rfl⟩
theorem Tc:EF (.slice none 0 0) [] []:=⟨none,0,[],rfl,rfl,rfl,.inl rfl⟩
theorem YS (w:World):LU w (.slice none 0 0) []:=⟨none,0,rfl,.inl rfl⟩
theorem Ze (w:World):Dw w (.slice none 0 0) [] []:=⟨none,0,[],rfl,rfl,rfl,.inl rfl⟩
theorem SL (w:World):iC w (.slice none 0 0) []:=⟨none,0,rfl,.inl rfl⟩
theorem Tb (w:World):tC w (.slice none 0 0) [] []:=⟨none,0,[],rfl,rfl,rfl,.inl rfl⟩
theorem zt.num (B:Nat) (w:World) (k i e g n:Int):zt B w (YR ⟨k,i,e,g,n,[],[],[]⟩) ⟨k,i,e,g,n,[],[],[]⟩:=
 ⟨none,0,none,0,none,0,[],[],[],rfl,⟨Om w,Tc⟩,⟨YS w,Ze w,fun b hb=>by cases hb⟩,⟨SL w,Tb w⟩,ja.nil _ _⟩
def Mp (w0 w:World) (b bs bn:Nat) (D:SD) (R:RP) (r:Ending) (w':World):Prop:=∃ SB NB HB UB v,PS w0 w' b bs bn D SB NB HB UB/\Fr T3 w w'/\r=.returned v/\zt w.heap.size w' v R
theorem Cd.r {SB NB HB UB:List Nat} {k i e g n:Int} {r:Ending} (h:Cd w0 w b bs bn D SB NB HB UB ⟨k,i,e,g,n,[],[],[]⟩ r w'):Mp w0 w b bs bn D ⟨k,i,e,g,n,[],[],[]⟩ r w':=⟨SB,NB,HB,UB,_,h.1,h.2.1,h.2.2,zt.num _ _ _ _ _ _ _⟩
theorem Wa.r {SB NB HB UB:List Nat} {n:Nat} {L:List (List Int)} (en:L.length=n) {r:Ending} (h:Wa w0 w b bs bn D SB NB HB UB n L r w'):Mp w0 w b bs bn D { mR with qh:=L.map mw } r w':=by
 obtain ⟨p,c,Ls,h1,h2,h3,h4⟩:=h;obtain ⟨q1,q2,q3,q4⟩:=h4.qh;have el:(L.map mw).length=n:=by rw [List.length_map];exact en
 refine ⟨SB,NB,HB,UB,_,h1,h2,h3,none,0,p,c,none,0,[],_,[],by simp only [el];rfl,⟨Om _,Tc⟩,⟨by rw [el];exact q1,by rw [el];exact q2,by rw [el];exact fun b hb=>⟨by have:=(q4 b hb).1;omega,(q4 b hb).2⟩⟩,⟨SL _,Tb _⟩,by rw [List.append_nil,List.nil_append];exact q3.mono (by omega)⟩
end Go.Proofs.YtcfcafeciggjeaaGreatDoor
