import Derived.Test.YteljknmkodllkaaGr
import Derived.Deep.RegionHeld3
namespace Go.Proofs.Yteljknmkodllkaa
open Go.ChangeShapes Go.WideShapes Go.ChangeAt Go.RowKit
set_option linter.unusedVariables false
set_option linter.unusedSimpArgs false

theorem concat1_any (g : Nat) (p : Option Addr) (c : Nat) (l : List Int) (w : World) (hc : w.cell? ⟨g, 0, none⟩ = some (.slice p l.length c)) (h : Rd w (.slice p l.length c) l) (hl : l.length ≤ 2097152) :
    Calls Try.prog 64 #[.slice (some ⟨g, 0, none⟩) 1 1] w fun e w' => ∃ p' c', e = .returned (.slice p' l.length c') ∧ Own w.heap.size w' (.slice p' l.length c') l ∧ Below w.heap.size w w' := by
  have hp : Parts w g [.slice p l.length c] [l] := by
    refine ⟨rfl, fun j v m e1 e2 => ?_⟩
    match j, e1, e2 with
    | 0, e1, e2 => simp at e1 e2; subst e1 e2; exact ⟨hc, h⟩
  have := concat_any g _ [l] w hp (by rw [cat_one]; omega) (by simp)
  rw [cat_one] at this
  exact this

theorem concat2_any (g : Nat) (p q : Option Addr) (c d : Nat) (l m lm : List Int) (elm : Hid (lm = l ++ m)) (w : World) (hc : w.cell? ⟨g, 0, none⟩ = some (.slice p l.length c)) (hd : w.cell? ⟨g, 1, none⟩ = some (.slice q m.length d)) (h : Rd w (.slice p l.length c) l) (k : Rd w (.slice q m.length d) m) (hl : l.length + m.length ≤ 4194304) :
    Calls Try.prog 64 #[.slice (some ⟨g, 0, none⟩) 2 2] w fun e w' => ∃ p' c', e = .returned (.slice p' lm.length c') ∧ Own w.heap.size w' (.slice p' lm.length c') lm ∧ Below w.heap.size w w' := by
  have hp : Parts w g [.slice p l.length c, .slice q m.length d] [l, m] := by
    refine ⟨rfl, fun j v x e1 e2 => ?_⟩
    match j, e1, e2 with
    | 0, e1, e2 => simp at e1 e2; subst e1 e2; exact ⟨hc, h⟩
    | 1, e1, e2 => simp at e1 e2; subst e1 e2; exact ⟨hd, k⟩
  have := concat_any g _ [l, m] w hp (by rw [cat_two, List.length_append]; omega) (by simp)
  rw [cat_two, ← unhide elm] at this
  exact this

set_option maxHeartbeats 800000 in
theorem copied_any (p : Option Addr) (c : Nat) (n : Int) (l : List Int) (w : World) (h : Rd w (.slice p l.length c) l) (hl : l.length ≤ 2097152) :
    Calls Try.prog 63 #[fileV (.slice p l.length c) n] w fun e w' => ∃ p' c', e = .returned (fileV (.slice p' l.length c') n) ∧ Own w.heap.size w' (.slice p' l.length c') l ∧ Below w.heap.size w w' := by
  go_enter Try.func63, Try.ntmps63
  go_wp2_with fail
  obtain ⟨W, hW⟩ : ∃ W, W = ((w.alloc (.cells #[.slice p l.length c, .int .i64 n] 29)).alloc (.cells #[.slice none 0 0, .int .i64 0] 29)) := ⟨_, rfl⟩
  have bW : Below w.heap.size w W := by rw [hW]; exact ((Below.refl _ _).alloc (Nat.le_refl _) _).alloc (by simp) _
  have k0 : W.cell? ⟨w.heap.size, 0, none⟩ = some (.slice p l.length c) := by rw [hW]; simp
  have k1 : W.cell? ⟨w.heap.size, 1, none⟩ = some (.int .i64 n) := by rw [hW]; simp
  have r0 : W.cell? ⟨w.heap.size + 1, 0, none⟩ = some (.slice none 0 0) := by rw [hW]; simp
  have r1 : W.cell? ⟨w.heap.size + 1, 1, none⟩ = some (.int .i64 0) := by rw [hW]; simp
  have f0 : ∀ o, W.frozen? ⟨w.heap.size + 1, o, none⟩ = false := by intro o; rw [hW]; simp
  have zW : w.heap.size + 2 = W.heap.size := by rw [hW]; simp
  rw [← hW]
  clear hW
  have b3 : ∀ o : Obj, Below W.heap.size W (W.alloc o).drew := fun o => ((Below.refl _ _).alloc (Nat.le_refl _) _).drew
  have e0 := h.below bW
  clear h
  go_region_held3 (fun w' => w'.cell? ⟨w.heap.size, 0, none⟩ = some (.slice p l.length c) ∧ w'.cell? ⟨w.heap.size, 1, none⟩ = some (.int .i64 n)) (first | with_reducible exact ⟨k0, k1⟩ | with_reducible exact ⟨g0, g1⟩ | go_keep)
    (first | (go_at_call 64; refine (concat1_any W.heap.size p c l _ (by simp) (by exact e0.below (b3 _)) hl).mono ?_; rintro e w1 ⟨p', c', rfl, o1, hb1⟩; have b1 := Below.step (b3 _) hb1; have g0 := cell_below k0 b1; have g1 := cell_below k1 b1; have s0 := cell_below r0 b1; have s1 := cell_below r1 b1; have f1 := frozen_below f0 b1 (by omega)))
  have bb : Below w.heap.size w w1 := Below.step bW b1
  have oo : Own W.heap.size w1 (.slice p' l.length c') l := Own.mono o1 (by simp)
  clear k0 k1 r0 r1 f0 e0 hb1 g0 g1 o1 b3 b1 bW
  go_wp2
  refine bodyPost_ret (v := fileV (.slice p' l.length c') n) (by simp [results, Try.results63, go_sem, s0, s1]) rfl ⟨p', c', rfl, Own.mono (B := W.heap.size) ?_ (by omega), ?_⟩
  · repeat (refine ownsRow_setCell_below ?_ (by simp; omega) _)
    exact oo
  · repeat (refine Below.setCell ?_ (by simp) _)
    exact bb

set_option maxHeartbeats 800000 in
theorem appended_any (p q : Option Addr) (c d : Nat) (n : Int) (l m lm : List Int) (elm : Hid (lm = l ++ m)) (w : World) (h : Rd w (.slice p l.length c) l) (k : Rd w (.slice q m.length d) m) (hl : l.length + m.length ≤ 4194304) :
    Calls Try.prog 49 #[fileV (.slice p l.length c) n, .slice q m.length d] w fun e w' => ∃ p' c', e = .returned (fileV (.slice p' lm.length c') n) ∧ Own w.heap.size w' (.slice p' lm.length c') lm ∧ Below w.heap.size w w' := by
  go_enter Try.func49, Try.ntmps49
  go_wp2_with fail
  obtain ⟨W, hW⟩ : ∃ W, W = ((w.alloc (.cells #[.slice p l.length c, .int .i64 n] 29)).alloc (.cells #[.slice none 0 0, .int .i64 0] 29)) := ⟨_, rfl⟩
  have bW : Below w.heap.size w W := by rw [hW]; exact ((Below.refl _ _).alloc (Nat.le_refl _) _).alloc (by simp) _
  have k0 : W.cell? ⟨w.heap.size, 0, none⟩ = some (.slice p l.length c) := by rw [hW]; simp
  have k1 : W.cell? ⟨w.heap.size, 1, none⟩ = some (.int .i64 n) := by rw [hW]; simp
  have r0 : W.cell? ⟨w.heap.size + 1, 0, none⟩ = some (.slice none 0 0) := by rw [hW]; simp
  have r1 : W.cell? ⟨w.heap.size + 1, 1, none⟩ = some (.int .i64 0) := by rw [hW]; simp
  have f0 : ∀ o, W.frozen? ⟨w.heap.size + 1, o, none⟩ = false := by intro o; rw [hW]; simp
  have zW : w.heap.size + 2 = W.heap.size := by rw [hW]; simp
  rw [← hW]
  clear hW
  have b3 : ∀ o : Obj, Below W.heap.size W (W.alloc o).drew := fun o => ((Below.refl _ _).alloc (Nat.le_refl _) _).drew
  have e0 := h.below bW
  have e1 := k.below bW
  clear h k
  go_region_held3 (fun w' => w'.cell? ⟨w.heap.size, 0, none⟩ = some (.slice p l.length c) ∧ w'.cell? ⟨w.heap.size, 1, none⟩ = some (.int .i64 n)) (first | with_reducible exact ⟨k0, k1⟩ | with_reducible exact ⟨g0, g1⟩ | go_keep)
    (first | (go_at_call 64; refine (concat2_any W.heap.size p q c d l m lm elm _ (by simp) (by simp) (by exact e0.below (b3 _)) (by exact e1.below (b3 _)) hl).mono ?_; rintro e w1 ⟨p', c', rfl, o1, hb1⟩; have b1 := Below.step (b3 _) hb1; have g0 := cell_below k0 b1; have g1 := cell_below k1 b1; have s0 := cell_below r0 b1; have s1 := cell_below r1 b1; have f1 := frozen_below f0 b1 (by omega)))
  have bb : Below w.heap.size w w1 := Below.step bW b1
  have oo : Own W.heap.size w1 (.slice p' lm.length c') lm := Own.mono o1 (by simp)
  clear k0 k1 r0 r1 f0 e0 e1 hb1 g0 g1 o1 b3 b1 bW
  go_wp2
  refine bodyPost_ret (v := fileV (.slice p' lm.length c') n) (by simp [results, Try.results49, go_sem, s0, s1]) rfl ⟨p', c', rfl, Own.mono (B := W.heap.size) ?_ (by omega), ?_⟩
  · repeat (refine ownsRow_setCell_below ?_ (by simp; omega) _)
    exact oo
  · repeat (refine Below.setCell ?_ (by simp) _)
    exact bb

set_option maxHeartbeats 400000 in
theorem allSafe_any (p : Option Addr) (k c : Nat) (n : Int) (w : World) :
    Calls Try.prog 50 #[fileV (.slice p k c) n] w fun e w' => e = .returned (fileV (.slice p k c) k) ∧ Below w.heap.size w w' := by
  go_enter Try.func50, Try.ntmps50
  go_wp2
  refine bodyPost_ret (v := fileV (.slice p k c) k) (by simp [results, Try.results50, go_sem]) rfl ⟨rfl, ?_⟩
  repeat (refine Below.setCell ?_ (by simp) _)
  exact ((Below.refl _ _).alloc (Nat.le_refl _) _).alloc (by simp) _

/-- is it one of the three files? -/
def isF (f : Int) : Bool := decide (0 ≤ f) && decide (f < 3)
theorem isF_yes {f : Int} (a : 0 ≤ f) (b : f < 3) : isF f = true := by simp [isF, a, b]
theorem isF_no {f : Int} (a : ¬ (0 ≤ f ∧ f < 3)) : isF f = false := by
  unfold isF; rw [Bool.and_eq_false_iff]; simp only [decide_eq_false_iff_not]; omega

set_option maxHeartbeats 400000 in
theorem has_any (p0 p1 p2 : Option Addr) (n0 c0 n1 c1 n2 c2 : Nat) (s0 s1 s2 f : Int) (w : World) :
    Calls Try.prog 46 #[diskV (.slice p0 n0 c0) s0 (.slice p1 n1 c1) s1 (.slice p2 n2 c2) s2, .int .i64 f] w fun e w' => e = .returned (.bool (isF f)) ∧ Below w.heap.size w w' := by
  by_cases a : 0 ≤ f
  · by_cases b : f < 3
    · rw [isF_yes a b]
      go_enter Try.func46, Try.ntmps46
      go_wp2
      go_ret
      exact ⟨rfl, (Below.refl _ _).alloc (Nat.le_refl _) _⟩
    · rw [isF_no (by omega)]
      go_enter Try.func46, Try.ntmps46
      go_wp2
      go_ret
      exact ⟨rfl, (Below.refl _ _).alloc (Nat.le_refl _) _⟩
  · rw [isF_no (by omega)]
    go_enter Try.func46, Try.ntmps46
    go_wp2
    go_ret
    exact ⟨rfl, (Below.refl _ _).alloc (Nat.le_refl _) _⟩

set_option maxHeartbeats 400000 in
theorem hasRoomFor_any (p q : Option Addr) (k c m d : Nat) (n : Int) (w : World) (hk : k ≤ 200000) (hm : m ≤ 2097152) :
    Calls Try.prog 47 #[fileV (.slice p k c) n, .slice q m d] w fun e w' => e = .returned (.bool (decide (m + k ≤ 200000))) ∧ Below w.heap.size w w' := by
  by_cases h : (m : Int) ≤ 200000 - k
  · have e : decide (m + k ≤ 200000) = true := by simp; omega
    rw [e]
    go_enter Try.func47, Try.ntmps47
    go_wp2
    go_ret
    exact ⟨by simp, (Below.refl _ _).alloc (Nat.le_refl _) _⟩
  · have e : decide (m + k ≤ 200000) = false := by simp; omega
    rw [e]
    go_enter Try.func47, Try.ntmps47
    go_wp2
    go_ret
    exact ⟨by simp, (Below.refl _ _).alloc (Nat.le_refl _) _⟩
end Go.Proofs.Yteljknmkodllkaa
