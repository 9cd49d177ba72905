import Derived.Test.YtekooebndehokaaDoorDOj
namespace Go.Proofs.YtekooebndehokaaDoor
open Go.ChangeShapes Go.WideShapes Go.ChangeAt Go.RowKit
set_option linter.unusedVariables false
set_option linter.unusedSimpArgs false
set_option maxRecDepth 100000

/-- a text, as the program's reader takes it -/
def sT (m : List Int) (sh : Bool) : List Int × List Int × Bool :=
  if ((sN 10 0 0 m sh).2.1.length : Int) < (sN 10 0 0 m sh).1 then ([], (sN 10 0 0 m sh).2.1, true)
  else ((sN 10 0 0 m sh).2.1.take (sN 10 0 0 m sh).1.toNat, (sN 10 0 0 m sh).2.1.drop (sN 10 0 0 m sh).1.toNat, (sN 10 0 0 m sh).2.2)
theorem sN_byt (f : Nat) : ∀ (k : Nat) (a : Int) (m : List Int) (sh : Bool), Byt m → (0 ≤ a ∧ a < 18446744073709551616) → Byt (sN f k a m sh).2.1 ∧ (sN f k a m sh).2.1.length ≤ m.length ∧ 0 ≤ (sN f k a m sh).1 ∧ (sN f k a m sh).1 < 18446744073709551616 := by
  induction f with
  | zero => intro k a m sh hb ha; exact ⟨hb, Nat.le_refl _, ha.1, ha.2⟩
  | succ f ih =>
    intro k a m sh hb ha
    rw [sN]
    obtain ⟨h1, h2, h3, h4⟩ := sB_byt (sh := sh) hb
    split
    · exact ⟨h1, h4, accN_range _ _ _⟩
    · obtain ⟨i1, i2, i3⟩ := ih (k + 1) (accN k a (sB m sh).1) _ (sB m sh).2.2 h1 (accN_range _ _ _)
      exact ⟨i1, by omega, i3⟩

theorem joined1 (X : World) (v0 : Value) (l0 : List Int) (N : Nat) (en : Hid (l0.length = N)) (r0 : Rd X v0 l0) (hl : N ≤ 4194304) :
    Calls Tryd.prog 35 #[.slice (some ⟨X.heap.size, 0, none⟩) 1 1] (X.alloc (.cells #[v0] 22)) fun e w' => ∃ p' c', e = .returned (.slice p' N c') ∧ Own X.heap.size w' (.slice p' N c') l0 ∧ Below X.heap.size X w' := by
  have ba : Below X.heap.size X (X.alloc (.cells #[v0] 22)) := (Below.refl _ _).alloc (Nat.le_refl _) _
  refine (joined_any X.heap.size [v0] [l0] l0 N 1 rfl (by show _ = _; simp [cat]) en _ ⟨rfl, fun j v x e1 e2 => ?_⟩ hl (by omega)).mono ?_
  · match j, e1, e2 with
    | 0, e1, e2 => simp at e1 e2; subst e1 e2; exact ⟨by simp, r0.below ba⟩
  · rintro e w' ⟨p', c', rfl, o, hb⟩
    exact ⟨p', c', rfl, Own.mono o (by simp), Below.step ba hb⟩
theorem RdB.below {R : Nat} {w w' : World} {p : Option Addr} {m : List Int} (h : RdB R w p m) (hb : Below w.heap.size w w') : RdB R w' p m := by
  rcases h with h | ⟨b, o', h1, h2, h3⟩
  · exact .inl h
  · exact .inr ⟨b, o', h1, h2, fun i hi => cell_below (h3 i hi) hb⟩
theorem RdB.take {R : Nat} {w : World} {p : Option Addr} {m : List Int} (h : RdB R w p m) (V : Nat) : RdB R w p (m.take V) := by
  rcases h with h | ⟨b, o', h1, h2, h3⟩
  · exact .inl (by rw [h]; simp)
  · refine .inr ⟨b, o', h1, h2, fun i hi => ?_⟩
    rw [List.length_take] at hi
    rw [h3 i (by omega)]
    simp [List.getD, List.getElem?_take, show i < V by omega]
theorem RdB.drop {R : Nat} {w : World} {b o : Nat} {m : List Int} (h : RdB R w (some ⟨b, o, none⟩) m) (V : Nat) : RdB R w (some ⟨b, o + V, none⟩) (m.drop V) := by
  rcases h with h | ⟨b', o', h1, h2, h3⟩
  · exact .inl (by rw [h]; simp)
  · simp at h2
    obtain ⟨rfl, rfl⟩ := h2
    refine .inr ⟨b, o + V, h1, rfl, fun i hi => ?_⟩
    rw [List.length_drop] at hi
    rw [Nat.add_assoc, h3 (V + i) (by omega)]
    simp [List.getD]

set_option maxHeartbeats 1600000 in
theorem text_any (R : Nat) (m : List Int) (n : Nat) (sh : Bool) (w : World) (h : Rdr w R m n sh) (hb : Byt m) (hl : n ≤ 1048576) (hRw : R < w.heap.size) (x m' : List Int) (sh' : Bool) (e : Hid (sT m sh = (x, m', sh'))) (N : Nat) (eN : Hid (x.length = N)) :
    Calls Tryd.prog 44 #[.pointer (some ⟨R, 0, none⟩)] w fun r w' => ∃ p' c', r = .returned (.slice p' N c') ∧ Own w.heap.size w' (.slice p' N c') x ∧ Rdr w' R m' m'.length sh' ∧ Kept [blk R] w w' := by
  have hby := sN_byt 10 0 0 m sh hb (by omega)
  obtain ⟨⟨v, m1, sh1⟩, eS⟩ : ∃ y, sN 10 0 0 m sh = y := ⟨_, rfl⟩
  have e2 := unhide e
  rw [sT, eS] at e2
  rw [eS] at hby
  obtain ⟨hB1, hl1, v0, v1⟩ := hby
  dsimp only at e2 hB1 hl1 v0 v1
  rw [h.1] at hl1
  obtain ⟨n1, en1⟩ : ∃ n1, m1.length = n1 := ⟨_, rfl⟩
  rw [en1] at e2 hl1
  have wn : IntKind.u64.wrap (n1 : Int) = (n1 : Int) := by rw [IntKind.wrap_u64]; omega
  go_enter Tryd.func44, Tryd.ntmps44
  go_wp2_with fail
  refine (number_any R m n sh _ h hb hl v m1 sh1 eS).mono ?_
  rintro r w1 ⟨rfl, hR1, hK1⟩
  rw [en1] at hR1
  have HR1 := hide hR1
  obtain ⟨_, hf, p, c, ⟨h0, h1⟩, hr, hc, hp⟩ := hR1
  by_cases hv : (n1 : Int) < v
  · rw [if_pos hv] at e2
    simp only [Prod.mk.injEq] at e2
    obtain ⟨rfl, rfl, rfl⟩ := e2
    have hN0 : N = 0 := by rw [← unhide eN]; rfl
    subst hN0
    have HV1 := hide v1
    clear v1
    go_wp2
    go_ret
    refine ⟨none, 0, rfl, World.ownsRow_nil _ _ _ _, ?_, hK1.trans kept_set⟩
    rw [en1]
    exact ⟨en1, fun o => by simp [hf], p, c, ⟨by simp [go_sem, h0], by simp [go_sem, h1]⟩, hr.set _ _, hc, hp⟩
  · rw [if_neg hv] at e2
    obtain ⟨V, rfl⟩ : ∃ V : Nat, v = (V : Int) := ⟨v.toNat, by omega⟩
    have eV : ((V : Int)).toNat = V := by omega
    rw [eV] at e2
    simp only [Prod.mk.injEq] at e2
    obtain ⟨ex, em, es⟩ := e2
    have hVn : V ≤ n1 := by omega
    have hNV : N = V := by rw [← unhide eN, ← ex, List.length_take, en1]; omega
    subst hNV
    have hml : m'.length = n1 - N := by rw [← em, List.length_drop, en1]
    have hv' : ¬ (n1 : Int) < (N : Int) := hv
    have k2 : (N : Int) ≤ (c : Int) := by omega
    have k3 : (N : Int) ≤ (n1 : Int) := by omega
    have k4 : (n1 : Int) ≤ (c : Int) := by omega
    have hRw1 : R < w1.heap.size := World.block_lt_of_cell? w1 _ h0
    have HX := hide (And.intro ex (And.intro em hml))
    have rx : Rd w1 (.slice p N c) x := by rw [← ex]; exact (hr.take N).rd (by rw [ex]; exact unhide eN)
    have HRX := hide rx
    have HRR := hide hr
    have zK := hK1.size
    have hNb : N ≤ 4194304 := by omega
    clear v0 v1 eV hb hB1 ex em rx hr h eS e
    go_wp2_with fail
    refine (joined1 w1 (.slice p N c) x N eN (unhide HRX) hNb).mono ?_
    rintro r w2 ⟨p2, c2, rfl, o2, b2⟩
    have i0 := cell_below h0 b2
    have i1 := cell_below h1 b2
    have if' := frozen_bel hf hRw1 b2
    have z2 := b2.size
    have HK2 := hide (hK1.trans (Kept.of_below b2))
    have HO2 := hide o2
    have hr2 := hide ((unhide HRR).below b2)
    clear h0 h1 hf b2 o2 hK1 HRR HRX
    rcases hp with ⟨rfl, rfl⟩ | ⟨b, o, rfl⟩
    · have hn0 : n1 = 0 := by omega
      subst hn0
      have hN0 : N = 0 := by omega
      subst hN0
      go_wp2
      go_ret
      refine ⟨p2, c2, rfl, Own.mono (B := w1.heap.size) ?_ (by omega), ?_, (unhide HK2).trans kept_set⟩
      · exact ownsRow_setCell_below (unhide HO2) (by simp; omega) _
      · have hm0 : m' = [] := List.length_eq_zero_iff.1 (unhide HX).2.2
        rw [hm0, ← es]
        exact ⟨rfl, fun o => by simp [if'], none, 0, ⟨by simp [go_sem, i0], by simp [go_sem, i1]⟩, .inl rfl, by simp, .inl ⟨rfl, rfl⟩⟩
    · by_cases hcN : c = N
      · subst hcN
        have hn1 : n1 = c := by omega
        subst hn1
        go_wp2
        go_ret
        refine ⟨p2, c2, rfl, Own.mono (B := w1.heap.size) ?_ (by omega), ?_, (unhide HK2).trans kept_set⟩
        · exact ownsRow_setCell_below (unhide HO2) (by simp; omega) _
        · have hm0 : m' = [] := List.length_eq_zero_iff.1 (by rw [(unhide HX).2.2]; omega)
          rw [hm0, ← es]
          exact ⟨rfl, fun o => by simp [if'], some ⟨b, o, none⟩, 0, ⟨by simp [go_sem, i0], by simp [go_sem, i1]⟩, .inl rfl, by simp, .inr ⟨b, o, rfl⟩⟩
      · have hcN' : ¬ (c : Int) = (N : Int) := by omega
        go_wp2
        go_ret
        refine ⟨p2, c2, rfl, Own.mono (B := w1.heap.size) ?_ (by omega), ?_, (unhide HK2).trans kept_set⟩
        · exact ownsRow_setCell_below (unhide HO2) (by simp; omega) _
        · rw [← es, (unhide HX).2.2]
          refine ⟨(unhide HX).2.2, fun o => by simp [if'], some ⟨b, o + N, none⟩, c - N, ⟨by simp [go_sem, i0], by simp [go_sem, i1]⟩, ?_, by omega, .inr ⟨b, o + N, rfl⟩⟩
          have := (unhide hr2).drop N
          rw [(unhide HX).2.1] at this
          exact this.set _ _
end Go.Proofs.YtekooebndehokaaDoor
