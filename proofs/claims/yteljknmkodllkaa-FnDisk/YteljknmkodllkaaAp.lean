import Derived.Test.YteljknmkodllkaaCp
import Derived.Lib.AppendZeros
namespace Go.Proofs.Yteljknmkodllkaa
open Go.ChangeShapes Go.WideShapes Go.ChangeAt Go.RowKit
set_option linter.unusedVariables false
set_option linter.unusedSimpArgs false

/-- 'append(x, y...)' of bytes: x a slice of the call's own, y whatever slice reads m (nil or not) -/
theorem wpList_append_rd {w : World} {ops : Array Oper} {rest : List Oper} {o : Oper} {a : Act} {Q : Exit → Act → World → Prop} (hgd : o.guard = none) (s x : Operand)
    (ho : o.op = .call { callee := .builtin .append, args := #[s, x], argTypes := #[22, 22] })
    (B : Nat) (v : Value) (l m lm : List Int) (elm : Hid (lm = l ++ m)) (p : Option Addr) (c : Nat) (hs : a.eval s = v) (hx : a.eval x = .slice p m.length c) (hown : Own B w v l) (hr : Rd w (.slice p m.length c) m)
    (hl : l.length + m.length ≤ 4194304) (hB : B ≤ w.heap.size)
    (hK : ∀ p' c' w', Own B w' (.slice p' lm.length c') lm → w.grownBy w' v.ownBlock → wpList Try.prog ops Q rest (a.put o.dst (.slice p' lm.length c')) w') : wpList Try.prog ops Q (o :: rest) a w := by
  obtain ⟨i, hi, hz0, hz1, hz2⟩ := info_parts Try.infoByte
  have e := unhide elm
  subst e
  cases p with
  | none =>
    have e := hr.none_nil
    subst e
    obtain ⟨pv, cv, rfl⟩ := hown.form
    have hap := run_append_none_any (P := Try.prog) w B 22 o.type 5 i 1 Try.underlying22 hi _ _ _ c hown
    refine Lib.wpList_append_run w hgd s x 22 22 ho _ _ hs hx _ _ hap ?_
    have := hK pv cv w (by simpa using hown) ⟨rfl, rfl, rfl, Nat.le_refl _, fun _ _ _ => rfl⟩
    simpa using this
  | some ad =>
    obtain ⟨n1, n2, n3⟩ := hr.news
    refine wpList_append_own w hgd s x 22 ho B 5 i (.int .u8 0) 1 1 Try.underlying22 hi hz0 hz1 hz2 rfl (by decide) v _ _ hs hown ad _ c (U m) hx n1 n2 n3 (by unfold maxLen; omega) (by omega) hB ?_
    intro v' w' h1 h2 _
    have ho2 : Own B w' v' (l ++ m) := by unfold Own; rw [List.length_append, U, List.map_append]; exact h1
    obtain ⟨p', c', rfl⟩ := ho2.form
    exact hK p' c' w' ho2 h2
end Go.Proofs.Yteljknmkodllkaa
