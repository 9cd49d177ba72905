import Derived.Test.YtlkhghcffhckmaaDoorGA
namespace Go.Proofs.YtlkhghcffhckmaaDoor
open Go.ChangeShapes Go.WideShapes Go.ChangeAt Go.RowKit
set_option linter.unusedVariables false
set_option linter.unusedSimpArgs false

/-- a slice's block lies from lo on and below hi -/
def Btw (lo hi : Nat) (v : Value) : Prop := ∀ b, v.ownBlock = some b → lo ≤ b ∧ b < hi
theorem Own.btw {B : Nat} {w : World} {v : Value} {l : List Int} (h : Own B w v l) : Btw B w.heap.size v := h.lt
theorem Own.apart {B a b c d : Nat} {w w' : World} {u v : Value} {l : List Int} (h : Own B w v l) (hg : w.grownBy w' u.ownBlock) (hu : Btw a b u) (hv : Btw c d v) (hd : b ≤ c ∨ d ≤ a) : Own B w' v l := by
 refine Own.keptBy (vs := [u]) h (Kept.of_grown hg (by simp)) ?_
 intro x hx k e1 e2
 simp only [List.mem_singleton] at hx
 subst hx
 have := hu k e2
 have := hv k e1
 omega
theorem Rd.apart {a b c d : Nat} {w w' : World} {u v : Value} {l : List Int} (h : Rd w v l) (hg : w.grownBy w' u.ownBlock) (hu : Btw a b u) (hv : Btw c d v) (hd : b ≤ c ∨ d ≤ a) : Rd w' v l := by
 refine Rd.frame h hg ?_
 intro k e1 e2
 have := hu k e2
 have := hv k e1
 omega
theorem below_mark {B a b : Nat} {w0 w w' : World} {u : Value} (h : Below B w0 w) (hg : w.grownBy w' u.ownBlock) (hu : Btw a b u) (hB : B ≤ a) (hz : B ≤ w.heap.size) : Below B w0 w' :=
 h.grown hg hz (fun k e => by have := hu k e; omega)

theorem Own.apartK {B a b c d : Nat} {w w' : World} {u v : Value} {l : List Int} (h : Own B w v l) (hg : Kept [u] w w') (hu : Btw a b u) (hv : Btw c d v) (hd : b ≤ c ∨ d ≤ a) : Own B w' v l := by
 refine Own.keptBy (vs := [u]) h hg ?_
 intro x hx k e1 e2
 simp only [List.mem_singleton] at hx
 subst hx
 have := hu k e2
 have := hv k e1
 omega
theorem Rd.apartK {a b c d : Nat} {w w' : World} {u v : Value} {l : List Int} (h : Rd w v l) (hg : Kept [u] w w') (hu : Btw a b u) (hv : Btw c d v) (hd : b ≤ c ∨ d ≤ a) : Rd w' v l := by
 refine Rd.kept h hg ?_
 intro x hx k e1 e2
 simp only [List.mem_singleton] at hx
 subst hx
 have := hu k e2
 have := hv k e1
 omega
theorem below_markK {B a b : Nat} {w0 w w' : World} {u : Value} (h : Below B w0 w) (hg : Kept [u] w w') (hu : Btw a b u) (hB : B ≤ a) (hz : B ≤ w.heap.size) : Below B w0 w' :=
 h.trans (hg.below hz (fun v hv k e => by simp only [List.mem_singleton] at hv; subst hv; have := hu k e; omega))
/-- two cells of a block -/
abbrev At2 (w : World) (b : Nat) (v0 v1 : Value) : Prop := w.cell? ⟨b, 0, none⟩ = some v0 ∧ w.cell? ⟨b, 1, none⟩ = some v1
theorem At2.below {w w' : World} {b : Nat} {v0 v1 : Value} (h : At2 w b v0 v1) (hb : Below w.heap.size w w') : At2 w' b v0 v1 := ⟨cell_below h.1 hb, cell_below h.2 hb⟩
theorem At2.kept {u : Value} {w w' : World} {b lo hi : Nat} {v0 v1 : Value} (h : At2 w b v0 v1) (hk : Kept [u] w w') (hb : b < w.heap.size) (hu : Btw lo hi u) (hd : b < lo ∨ hi ≤ b) : At2 w' b v0 v1 := by
 have e := hk.cellAt hb (fun v hv e => by simp only [List.mem_singleton] at hv; subst hv; have := hu _ e; omega)
 exact ⟨(e 0).trans h.1, (e 1).trans h.2⟩

theorem Own.cap {B : Nat} {w : World} {p : Option Addr} {c n : Nat} {l : List Int} (h : Own B w (.slice p n c) l) : n ≤ c := by
 rcases h.2 with ⟨e, h0⟩ | ⟨g, cap, cur, e, _, _, hc, _⟩
 ·simp only [Value.slice.injEq] at e; omega
 ·simp only [Value.slice.injEq] at e; omega
theorem Own.capMax {B : Nat} {w : World} {p : Option Addr} {c n : Nat} {l : List Int} (h : Own B w (.slice p n c) l) : c ≤ maxLen := by
 rcases h.2 with ⟨e, h0⟩ | ⟨g, cap, cur, e, _, _, hc, hm, _⟩
 ·simp only [Value.slice.injEq] at e; omega
 ·simp only [Value.slice.injEq] at e; omega
theorem markByteS_n (B : Nat) (p : Option Addr) (c n : Nat) (l : List Int) (en : Hid (l.length = n)) (k : Int) (w : World) (h : Own B w (.slice p n c) l) (hl : n ≤ 2097152) (k0 : 0 ≤ k) (k1 : k ≤ 100000000) :
  Calls Tryd.prog 9 #[.slice p n c, .int .i64 k] w fun e w' => e = .returned (.int .i64 (k + n)) ∧ Own B w' (.slice p n c) (marks k n) ∧ w.grownBy w' (Value.ownBlock (.slice p n c)) := by
 have e := unhide en
 subst e
 exact markByteS_any B p c l k w h hl k0 k1
theorem toByteS_n (p : Option Addr) (c n : Nat) (l : List Int) (en : Hid (l.length = n)) (w : World) (h : Rd w (.slice p n c) l) (hl : n ≤ 1048576) :
  Calls Tryd.prog 5 #[.slice p n c] w fun e w' => ∃ p' c', e = .returned (.slice p' n c') ∧ Own w.heap.size w' (.slice p' n c') l ∧ Below w.heap.size w w' := by
 have e := unhide en
 subst e
 exact toByteS_any _ l w h hl
theorem eqByteS_n (p q : Option Addr) (c d n : Nat) (l : List Int) (en : Hid (l.length = n)) (w : World) (h1 : Rd w (.slice p n c) l) (h2 : Rd w (.slice q n d) l) (hl : n ≤ 2097152) :
  Calls Tryd.prog 8 #[.slice p n c, .slice q n d] w fun e w' => e = .returned (.bool true) ∧ Below w.heap.size w w' := by
 have e := unhide en
 subst e
 refine (eqByteS_any _ _ l l w h1 h2 hl hl).mono ?_
 rintro e w' ⟨rfl, hb⟩
 exact ⟨by simp, hb⟩

/-- calls of a Go function at a step of a region that draws its order -/
theorem step_call1 {P : Program} {w : World} {ops : Array Oper} {o : Oper} {a : Act} {K : Act → World → Prop} {Q : Exit → Act → World → Prop} {E : Prop} {R : Ending → World → Prop} (hgd : o.guard = none) (f : FuncId) (x1 : Operand) (tys : Array TypeId)
  (ho : o.op = .call { callee := .value (.func f), args := #[x1], argTypes := tys }) (v1 : Value) (h1 : a.eval x1 = v1) (hcf : ∀ vs, (callFunc f vs).run P w = .ok (.enter f vs) w) (hc : Calls P f #[v1] w R) (hR : ∀ e w', R e w' → ∃ v, e = .returned v ∧ K (a.put o.dst v) w') :
  if Region.wanted o (yielded ops a.tmps) = true then Oper.wp P o a w K Q else E := by
 have hw : Region.wanted o (yielded ops a.tmps) = true := by simp [Region.wanted, hgd]
 rw [if_pos hw]
 have hrun : (execOp a.eval o).run P w = .ok (.enter f #[v1]) w := by
  subst h1
  unfold execOp
  simp [go_sem, ho, resolve, invoke, hcf]
 show o.upon P a K Q _
 rw [hrun, Oper.upon_enter]
 refine hc.mono ?_
 intro e w' h
 obtain ⟨v, rfl, hk⟩ := hR e w' h
 exact hk
theorem step_call2 {P : Program} {w : World} {ops : Array Oper} {o : Oper} {a : Act} {K : Act → World → Prop} {Q : Exit → Act → World → Prop} {E : Prop} {R : Ending → World → Prop} (hgd : o.guard = none) (f : FuncId) (x1 x2 : Operand) (tys : Array TypeId)
  (ho : o.op = .call { callee := .value (.func f), args := #[x1, x2], argTypes := tys }) (v1 v2 : Value) (h1 : a.eval x1 = v1) (h2 : a.eval x2 = v2) (hcf : ∀ vs, (callFunc f vs).run P w = .ok (.enter f vs) w) (hc : Calls P f #[v1, v2] w R) (hR : ∀ e w', R e w' → ∃ v, e = .returned v ∧ K (a.put o.dst v) w') :
  if Region.wanted o (yielded ops a.tmps) = true then Oper.wp P o a w K Q else E := by
 have hw : Region.wanted o (yielded ops a.tmps) = true := by simp [Region.wanted, hgd]
 rw [if_pos hw]
 have hrun : (execOp a.eval o).run P w = .ok (.enter f #[v1, v2]) w := by
  subst h1 h2
  unfold execOp
  simp [go_sem, ho, resolve, invoke, hcf]
 show o.upon P a K Q _
 rw [hrun, Oper.upon_enter]
 refine hc.mono ?_
 intro e w' h
 obtain ⟨v, rfl, hk⟩ := hR e w' h
 exact hk
end Go.Proofs.YtlkhghcffhckmaaDoor
