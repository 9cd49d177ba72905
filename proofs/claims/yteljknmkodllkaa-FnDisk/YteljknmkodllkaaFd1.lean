import Derived.Test.YteljknmkodllkaaFd0
import Derived.Test.YteljknmkodllkaaIAp
import Derived.Test.YteljknmkodllkaaISy
import Derived.Test.YteljknmkodllkaaIRn
import Derived.Test.YteljknmkodllkaaICr
import Derived.Test.YteljknmkodllkaaDa
import Derived.Test.YteljknmkodllkaaAux
import Derived.Deep.RegionLaw
namespace Go.Proofs.Yteljknmkodllkaa
open Go.ChangeShapes Go.WideShapes Go.ChangeAt Go.RowKit
set_option linter.unusedVariables false
set_option linter.unusedSimpArgs false

/-- 'append(x, y...)' of bytes at a step of a region that draws its order -/
theorem step_append_rd {w : World} {ops : Array Oper} {o : Oper} {a : Act} {K : Act → World → Prop} {Q : Exit → Act → World → Prop} {E : Prop} (hgd : o.guard = none) (s x : Operand)
    (ho : o.op = .call { callee := .builtin .append, args := #[s, x], argTypes := #[22, 22] })
    (B : Nat) (v : Value) (l m lm : List Int) (elm : Hid (lm = l ++ m)) (p : Option Addr) (c : Nat) (hs : a.eval s = v) (hx : a.eval x = .slice p m.length c) (hown : Own B w v l) (hr : Rd w (.slice p m.length c) m)
    (hl : l.length + m.length ≤ 4194304) (hB : B ≤ w.heap.size)
    (hK : ∀ p' c' w', Own B w' (.slice p' lm.length c') lm → w.grownBy w' v.ownBlock → K (a.put o.dst (.slice p' lm.length c')) w') :
    if Region.wanted o (yielded ops a.tmps) = true then Oper.wp Try.prog o a w K Q else E := by
  have hw : Region.wanted o (yielded ops a.tmps) = true := by simp [Region.wanted, hgd]
  rw [if_pos hw]
  obtain ⟨i, hi, hz0, hz1, hz2⟩ := info_parts Try.infoByte
  have e := unhide elm
  subst e
  cases p with
  | none =>
    have e := hr.none_nil
    subst e
    obtain ⟨pv, cv, rfl⟩ := hown.form
    have hap := run_append_none_any (P := Try.prog) w B 22 o.type 5 i 1 Try.underlying22 hi _ _ _ c hown
    refine Lib.wp_append_run w s x 22 22 ho _ _ hs hx _ _ hap ?_
    have := hK pv cv w (by simpa using hown) ⟨rfl, rfl, rfl, Nat.le_refl _, fun _ _ _ => rfl⟩
    simpa using this
  | some ad =>
    obtain ⟨n1, n2, n3⟩ := hr.news
    refine wp_append_own w s x 22 ho B 5 i (.int .u8 0) 1 1 Try.underlying22 hi hz0 hz1 hz2 rfl (by decide) v _ _ hs hown ad _ c (U m) hx n1 n2 n3 (by unfold maxLen; omega) (by omega) hB ?_
    intro v' w' h1 h2 _
    have ho2 : Own B w' v' (l ++ m) := by unfold Own; rw [List.length_append, U, List.map_append]; exact h1
    obtain ⟨p', c', rfl⟩ := ho2.form
    exact hK p' c' w' ho2 h2

theorem wpList_append_rdn {w : World} {ops : Array Oper} {rest : List Oper} {o : Oper} {a : Act} {Q : Exit → Act → World → Prop} (hgd : o.guard = none) (s x : Operand)
    (ho : o.op = .call { callee := .builtin .append, args := #[s, x], argTypes := #[22, 22] })
    (B : Nat) (v : Value) (l m lm : List Int) (elm : Hid (lm = l ++ m)) (p : Option Addr) (c k : Nat) (hk : Hid (m.length = k)) (hs : a.eval s = v) (hx : a.eval x = .slice p k c) (hown : Own B w v l) (hr : Rd w (.slice p k c) m)
    (hl : l.length + m.length ≤ 4194304) (hB : B ≤ w.heap.size)
    (hK : ∀ p' c' w', Own B w' (.slice p' lm.length c') lm → w.grownBy w' v.ownBlock → wpList Try.prog ops Q rest (a.put o.dst (.slice p' lm.length c')) w') : wpList Try.prog ops Q (o :: rest) a w := by
  have e := unhide hk
  subst e
  exact wpList_append_rd hgd s x ho B v l m lm elm p c hs hx hown hr hl hB hK

/-- a call of a Go function at a step of a region that draws its order -/
theorem step_call {P : Program} {w : World} {ops : Array Oper} {o : Oper} {a : Act} {K : Act → World → Prop} {Q : Exit → Act → World → Prop} {E : Prop} {R : Ending → World → Prop} (hgd : o.guard = none) (f : FuncId) (x1 x2 x3 : Operand) (tys : Array TypeId)
    (ho : o.op = .call { callee := .value (.func f), args := #[x1, x2, x3], argTypes := tys }) (v1 v2 v3 : Value) (h1 : a.eval x1 = v1) (h2 : a.eval x2 = v2) (h3 : a.eval x3 = v3) (hcf : ∀ vs, (callFunc f vs).run P w = .ok (.enter f vs) w) (hc : Calls P f #[v1, v2, v3] w R) (hR : ∀ e w', R e w' → ∃ v, e = .returned v ∧ K (a.put o.dst v) w') :
    if Region.wanted o (yielded ops a.tmps) = true then Oper.wp P o a w K Q else E := by
  have hw : Region.wanted o (yielded ops a.tmps) = true := by simp [Region.wanted, hgd]
  rw [if_pos hw]
  have hrun : (execOp a.eval o).run P w = .ok (.enter f #[v1, v2, v3]) w := by
    subst h1 h2 h3
    unfold execOp
    simp [go_sem, ho, resolve, invoke, hcf]
  show o.upon P a K Q _
  rw [hrun, Oper.upon_enter]
  refine hc.mono ?_
  intro e w' h
  obtain ⟨v, rfl, hk⟩ := hR e w' h
  exact hk

theorem calls_append (vs : Array Value) (w : World) : (callFunc 16 vs).run Try.prog w = .ok (.enter 16 vs) w := by kernel_rfl

/-- a slice over one new byte -/
theorem Own.one (w : World) (y : Int) : Own w.heap.size (w.alloc (.cells #[.int .u8 y] 5)) (.slice (some ⟨w.heap.size, 0, none⟩) 1 1) [y] :=
  World.ownsRow_lit w #[.int .u8 y] 1 (Nat.le_refl _) (by unfold maxLen; omega) rfl

theorem below_grown {B : Nat} {a w w' : World} {v : Value} {l : List Int} {C : Nat} (h : Below B a w) (hg : w.grownBy w' v.ownBlock) (ho : Own C w v l) (hC : B ≤ C) (hB : B ≤ w.heap.size) : Below B a w' :=
  h.grown hg hB (fun k e => by have := (ho.lt k e).1; omega)

theorem kept_tail (a t : Nat) (k : Nat) : kept (a + t) a k = a + min k t := by unfold kept; omega
theorem take_tail (A T : List Int) (m : Nat) : (A ++ T).take (A.length + m) = A ++ T.take m := by rw [List.take_append]; simp [List.take_of_length_le]
theorem crash_f (A T C : List Int) (k : Nat) (eC : C = A ++ T) : C.take (kept C.length A.length k) = A ++ T.take (min k T.length) := by
  rw [eC, List.length_append, kept_tail, take_tail]
theorem crash_0 (A T C : List Int) (eC : C = A ++ T) : C.take (kept C.length A.length 0) = A := by
  rw [crash_f A T C 0 eC]; simp
theorem dok_mk {n0 n1 n2 : Nat} {s0 s1 s2 : Int} (a0 : n0 ≤ 200000) (a1 : 0 ≤ s0) (a2 : s0 ≤ n0) (b0 : n1 ≤ 200000) (b1 : 0 ≤ s1) (b2 : s1 ≤ n1) (c0 : n2 ≤ 200000) (c1 : 0 ≤ s2) (c2 : s2 ≤ n2) : dok n0 s0 n1 s1 n2 s2 = true :=
  dok_yes (fok_yes a0 a1 a2) (fok_yes b0 b1 b2) (fok_yes c0 c1 c2)
end Go.Proofs.Yteljknmkodllkaa
