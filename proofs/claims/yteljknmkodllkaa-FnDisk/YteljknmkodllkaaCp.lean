import Derived.Test.YteljknmkodllkaaMaD
import Derived.Deep.RegionHeld3
namespace Go.Proofs.Yteljknmkodllkaa
open Go.ChangeShapes Go.WideShapes Go.ChangeAt Go.RowKit
set_option linter.unusedVariables false
set_option linter.unusedSimpArgs false

theorem Own.form {B : Nat} {w : World} {v : Value} {l : List Int} (h : Own B w v l) : ∃ p c, v = .slice p l.length c := by
  rcases h.2 with ⟨rfl, h0⟩ | ⟨g, cap, cur, rfl, _⟩
  · exact ⟨none, 0, by rw [h0]⟩
  · exact ⟨_, _, rfl⟩

/-- what a slice that reads l hands to an append -/
theorem Rd.news {w : World} {a : Addr} {c : Nat} {l : List Int} (h : Rd w (.slice (some a) l.length c) l) : (U l).length = l.length * 1 ∧ (∀ j u, (U l)[j]? = some u → w.cell? (a.add j) = some u) ∧ (∀ u ∈ U l, u.oneCell' = true) := by
  refine ⟨by simp, ?_, ?_⟩
  · intro j u hj
    obtain ⟨p, cap, e, h⟩ := h
    simp only [Value.slice.injEq] at e
    obtain ⟨rfl, -, rfl⟩ := e
    rcases h with rfl | ⟨b, o, e, hc⟩
    · simp at hj
    · simp only [Option.some.injEq] at e
      subst e
      have hjl : j < l.length := by
        have := (List.getElem?_eq_some_iff.1 hj).1
        simpa using this
      have := hc j hjl
      rw [Addr.add_lit, this]
      simp [List.getD, List.getElem?_eq_getElem hjl] at hj ⊢
      exact hj
  · intro u hu
    obtain ⟨x, _, rfl⟩ := List.mem_map.1 hu
    rfl

theorem Rd.none_nil {w : World} {c : Nat} {l : List Int} (h : Rd w (.slice none l.length c) l) : l = [] := by
  obtain ⟨p, cap, e, h⟩ := h
  simp only [Value.slice.injEq] at e
  obtain ⟨rfl, -, rfl⟩ := e
  rcases h with rfl | ⟨b, o, e, hc⟩
  · rfl
  · cases e

/-- an append of a nil slice, whatever its capacity is told to be -/
theorem run_append_none_any {P : Program} (w : World) (base : Nat) (t ty e : TypeId) (i : TypeInfo) (size : Nat) (ht : P.underlying t = some (.slice e)) (hi : P.info? e = some i)
    (v : Value) (n : Nat) (xs : List Value) (c : Nat) (hown : w.ownsRow base e size v n xs) :
    (Builtin.append_ #[t, t] ty #[v, .slice none 0 c]).run P w = .ok v w := by
  rcases hown.2 with ⟨rfl, rfl⟩ | ⟨g, cap, cur, rfl, _, _, hnc, _⟩
  · simp [Builtin.append_, run_underlying ht, sizeOf, typeInfo, hi, Builtin.lenOf, Builtin.firstCells]
  · simp [Builtin.append_, run_underlying ht, sizeOf, typeInfo, hi, Builtin.lenOf, Builtin.firstCells, hnc, storeCells]

set_option maxHeartbeats 400000 in
theorem l1copy_any (p : Option Addr) (c : Nat) (l : List Int) (w : World) (h : Rd w (.slice p l.length c) l) (hl : l.length ≤ 2097152) :
    Calls Try.prog 66 #[.slice p l.length c] w fun e w' => ∃ p' c', e = .returned (.slice p' l.length c') ∧ Own w.heap.size w' (.slice p' l.length c') l ∧ Below w.heap.size w w' := by
  obtain ⟨i, hi, hz0, hz1, hz2⟩ := info_parts Try.infoByte
  cases p with
  | none =>
    have e := h.none_nil
    subst e
    have hap := fun w : World => run_append_none_any (P := Try.prog) w 0 22 22 5 i 1 Try.underlying22 hi _ 0 [] c (World.ownsRow_nil w 0 5 1)
    go_enter Try.func66, Try.ntmps66
    go_wp2
    go_ret
    exact ⟨none, 0, rfl, World.ownsRow_nil _ _ _ _, Below.refl _ _⟩
  | some a =>
    obtain ⟨n1, n2, n3⟩ := h.news
    clear h
    go_enter Try.func66, Try.ntmps66
    go_wp2_with (at_builtin; refine wpList_append_own _ rfl _ _ 22 rfl w.heap.size 5 i (.int .u8 0) 1 1 Try.underlying22 hi hz0 hz1 hz2 rfl (by decide) _ _ _ rfl (World.ownsRow_nil _ _ _ _) a _ c (U l) rfl n1 n2 n3 (by unfold maxLen; omega) (by omega) (Nat.le_refl _) ?_)
    intro v' w1 hown hg _
    have ho : Own w.heap.size w1 v' l := by simpa using hown
    obtain ⟨p', c', rfl⟩ := ho.form
    have hb := grown_below hg
    clear hown hg
    go_wp2
    go_ret
    exact ⟨p', c', rfl, ho, hb⟩
end Go.Proofs.Yteljknmkodllkaa
