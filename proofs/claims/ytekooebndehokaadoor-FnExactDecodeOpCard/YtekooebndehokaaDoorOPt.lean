import Derived.Test.YtekooebndehokaaDoorOPm
namespace Go.Proofs.YtekooebndehokaaDoor
open Go.ChangeShapes Go.WideShapes Go.ChangeAt Go.RowKit
set_option linter.unusedVariables false
set_option linter.unusedSimpArgs false
set_option maxRecDepth 100000

set_option maxHeartbeats 400000 in
theorem joined_any (g : Nat) (vs : List Value) (ls : List (List Int)) (lm : List Int) (n k : Nat) (ek : Hid (k = ls.length)) (e : Hid (lm = cat ls)) (en : Hid (lm.length = n)) (w : World) (h : Parts w g vs ls) (hl : n ≤ 4194304) (hk : k ≤ 10) :
    Calls Tryd.prog 35 #[.slice (some ⟨g, 0, none⟩) k k] w fun e w' => ∃ p' c', e = .returned (.slice p' n c') ∧ Own w.heap.size w' (.slice p' n c') lm ∧ Below w.heap.size w w' := by
  have e1 := unhide ek
  have e2 := unhide e
  have e3 := unhide en
  subst e1 e3 e2
  go_enter Tryd.func35, Tryd.ntmps35
  go_wp2_with fail
  refine (concat_any g vs ls _ h hl (by omega)).mono ?_
  rintro e w1 ⟨p1, c1, rfl, o1, hb1⟩
  go_wp2
  go_ret
  exact ⟨p1, c1, rfl, o1, hb1⟩

theorem parts2 {w : World} {g : Nat} {v0 v1 : Value} {l0 l1 : List Int} (c0 : w.cell? ⟨g, 0, none⟩ = some v0) (c1 : w.cell? ⟨g, 1, none⟩ = some v1) (r0 : Rd w v0 l0) (r1 : Rd w v1 l1) : Parts w g [v0, v1] [l0, l1] := by
  refine ⟨rfl, fun j v x e1 e2 => ?_⟩
  match j, e1, e2 with
  | 0, e1, e2 => simp at e1 e2; subst e1 e2; exact ⟨c0, r0⟩
  | 1, e1, e2 => simp at e1 e2; subst e1 e2; exact ⟨c1, r1⟩
theorem parts5 {w : World} {g : Nat} {v0 v1 v2 v3 v4 : Value} {l0 l1 l2 l3 l4 : List Int} (c0 : w.cell? ⟨g, 0, none⟩ = some v0) (c1 : w.cell? ⟨g, 1, none⟩ = some v1) (c2 : w.cell? ⟨g, 2, none⟩ = some v2) (c3 : w.cell? ⟨g, 3, none⟩ = some v3) (c4 : w.cell? ⟨g, 4, none⟩ = some v4) (r0 : Rd w v0 l0) (r1 : Rd w v1 l1) (r2 : Rd w v2 l2) (r3 : Rd w v3 l3) (r4 : Rd w v4 l4) : Parts w g [v0, v1, v2, v3, v4] [l0, l1, l2, l3, l4] := by
  refine ⟨rfl, fun j v x e1 e2 => ?_⟩
  match j, e1, e2 with
  | 0, e1, e2 => simp at e1 e2; subst e1 e2; exact ⟨c0, r0⟩
  | 1, e1, e2 => simp at e1 e2; subst e1 e2; exact ⟨c1, r1⟩
  | 2, e1, e2 => simp at e1 e2; subst e1 e2; exact ⟨c2, r2⟩
  | 3, e1, e2 => simp at e1 e2; subst e1 e2; exact ⟨c3, r3⟩
  | 4, e1, e2 => simp at e1 e2; subst e1 e2; exact ⟨c4, r4⟩
theorem cat2 (a b : List Int) : cat [a, b] = a ++ b := by simp [cat]
theorem cat5 (a b c d e : List Int) : cat [a, b, c, d, e] = a ++ (b ++ (c ++ (d ++ e))) := by simp [cat]

/-- a text: its length, then its bytes -/
def tx (l : List Int) : List Int := vi l.length ++ l
theorem tx_len (l : List Int) : l.length + 1 ≤ (tx l).length ∧ (tx l).length ≤ l.length + 10 := by
  have := vi_len l.length
  rw [tx, List.length_append]
  omega

set_option maxHeartbeats 800000 in
theorem l3text_any (p : Option Addr) (c n : Nat) (l : List Int) (en : Hid (l.length = n)) (w : World) (h : Rd w (.slice p n c) l) (hl : n ≤ 1048576) (N : Nat) (eN : Hid ((tx l).length = N)) :
    Calls Tryd.prog 65 #[.slice p n c] w fun e w' => ∃ p' c', e = .returned (.slice p' N c') ∧ Own w.heap.size w' (.slice p' N c') (tx l) ∧ Below w.heap.size w w' := by
  obtain ⟨M, eM⟩ : ∃ M, (vi n).length = M := ⟨_, rfl⟩
  have hM := vi_len n
  rw [eM] at hM
  have EM := hide eM
  clear eM
  have hN : M + n = N := by rw [← unhide eN, tx, List.length_append, unhide en, unhide EM]
  have wn : IntKind.u64.wrap (n : Int) = (n : Int) := by rw [IntKind.wrap_u64]; omega
  have EE : Hid (tx l = vi n ++ l) := by show _ = _; rw [tx, unhide en]
  go_enter Tryd.func65, Tryd.ntmps65
  go_wp2_with fail
  refine (l3var_any 9 n _ (by omega) (by omega) (by omega) M EM).mono ?_
  rintro e w1 ⟨p1, c1, rfl, o1, b1⟩
  have r1 := h.below b1
  have z1 := b1.size
  have o1' : Own w.heap.size w1 (.slice p1 M c1) (vi n) := o1
  clear o1 h
  go_wp2_with (at_builtin; refine wpList_append_rdn rfl _ _ rfl w.heap.size (.slice p1 M c1) (vi n) l (tx l) EE p c n en rfl rfl o1' r1 (by rw [unhide EM, unhide en]; omega) (by omega) ?_)
  intro p2 c2 w2 o2 hg2
  have b2 := below_grown b1 hg2 o1' (Nat.le_refl _) (by omega)
  rw [unhide eN] at o2 ⊢
  clear hg2 o1' r1 b1
  go_wp2
  go_ret
  exact ⟨p2, c2, rfl, o2, b2⟩

set_option maxHeartbeats 800000 in
theorem textBytes_any (p : Option Addr) (c n : Nat) (l : List Int) (en : Hid (l.length = n)) (w : World) (h : Rd w (.slice p n c) l) (hl : n ≤ 1048576) (N : Nat) (eN : Hid ((tx l).length = N)) :
    Calls Tryd.prog 37 #[.slice p n c] w fun e w' => ∃ p' c', e = .returned (.slice p' N c') ∧ Own w.heap.size w' (.slice p' N c') (tx l) ∧ Below w.heap.size w w' := by
  obtain ⟨M, eM⟩ : ∃ M, (vi n).length = M := ⟨_, rfl⟩
  have hM := vi_len n
  rw [eM] at hM
  have EM := hide eM
  clear eM
  have hN : M + n = N := by rw [← unhide eN, tx, List.length_append, unhide en, unhide EM]
  have wn : IntKind.u64.wrap (n : Int) = (n : Int) := by rw [IntKind.wrap_u64]; omega
  have EE : Hid (tx l = cat [vi n, l]) := by show _ = _; rw [cat2, tx, unhide en]
  go_enter Tryd.func37, Tryd.ntmps37
  go_wp2_with fail
  refine (varint_any n _ (by omega)).mono ?_
  rintro e w1 ⟨p1, c1, rfl, o1, b1⟩
  rw [unhide EM] at o1 ⊢
  have r1 := h.below b1
  have z1 := b1.size
  have rv := o1.rd
  clear o1 h
  go_wp2_with fail
  refine (joined_any w1.heap.size [.slice p1 M c1, .slice p n c] [vi n, l] (tx l) N 2 rfl EE eN _ (parts2 (by simp) (by simp) (rv.below ((Below.refl _ _).alloc (Nat.le_refl _) _)) (r1.below ((Below.refl _ _).alloc (Nat.le_refl _) _))) (by omega) (by omega)).mono ?_
  rintro e w2 ⟨p2, c2, rfl, o2, hb2⟩
  have b2 : Below w.heap.size w w2 := Below.step (Below.step b1 ((Below.refl _ _).alloc (Nat.le_refl _) _)) hb2
  have o3 : Own w.heap.size w2 (.slice p2 N c2) (tx l) := Own.mono o2 (by simp; omega)
  clear o2 hb2 r1 rv b1
  go_wp2
  go_ret
  exact ⟨p2, c2, rfl, o3, b2⟩
end Go.Proofs.YtekooebndehokaaDoor
