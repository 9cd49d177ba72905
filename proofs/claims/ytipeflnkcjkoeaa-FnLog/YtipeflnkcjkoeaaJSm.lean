import Derived.Test.YtipeflnkcjkoeaaJLe
namespace Go.Proofs.Ytipeflnkcjkoeaa
open Go.ChangeShapes Go.WideShapes Go.ChangeAt Go.RowKit
set_option linter.unusedVariables false
set_option linter.unusedSimpArgs false

/-- bytes with their checksum behind them -/
def sm (l : List Int) : List Int := l ++ le (ck l) 4
theorem sm_length (l : List Int) : (sm l).length = l.length + 4 := by simp [sm, le_length]
theorem sm_byt {l : List Int} (h : Byt l) : Byt (sm l) := h.append (le_byt _ _)

theorem parts2 {w : World} {g : Nat} {v0 v1 : Value} {l0 l1 : List Int} (c0 : w.cell? ⟨g, 0, none⟩ = some v0) (c1 : w.cell? ⟨g, 1, none⟩ = some v1) (r0 : Rd w v0 l0) (r1 : Rd w v1 l1) : Parts w g [v0, v1] [l0, l1] := by
  refine ⟨rfl, fun j v x e1 e2 => ?_⟩
  match j, e1, e2 with
  | 0, e1, e2 => simp at e1 e2; subst e1 e2; exact ⟨c0, r0⟩
  | 1, e1, e2 => simp at e1 e2; subst e1 e2; exact ⟨c1, r1⟩
theorem parts3 {w : World} {g : Nat} {v0 v1 v2 : Value} {l0 l1 l2 : List Int} (c0 : w.cell? ⟨g, 0, none⟩ = some v0) (c1 : w.cell? ⟨g, 1, none⟩ = some v1) (c2 : w.cell? ⟨g, 2, none⟩ = some v2) (r0 : Rd w v0 l0) (r1 : Rd w v1 l1) (r2 : Rd w v2 l2) : Parts w g [v0, v1, v2] [l0, l1, l2] := by
  refine ⟨rfl, fun j v x e1 e2 => ?_⟩
  match j, e1, e2 with
  | 0, e1, e2 => simp at e1 e2; subst e1 e2; exact ⟨c0, r0⟩
  | 1, e1, e2 => simp at e1 e2; subst e1 e2; exact ⟨c1, r1⟩
  | 2, e1, e2 => simp at e1 e2; subst e1 e2; exact ⟨c2, r2⟩
theorem parts4 {w : World} {g : Nat} {v0 v1 v2 v3 : Value} {l0 l1 l2 l3 : List Int} (c0 : w.cell? ⟨g, 0, none⟩ = some v0) (c1 : w.cell? ⟨g, 1, none⟩ = some v1) (c2 : w.cell? ⟨g, 2, none⟩ = some v2) (c3 : w.cell? ⟨g, 3, none⟩ = some v3) (r0 : Rd w v0 l0) (r1 : Rd w v1 l1) (r2 : Rd w v2 l2) (r3 : Rd w v3 l3) : Parts w g [v0, v1, v2, v3] [l0, l1, l2, l3] := by
  refine ⟨rfl, fun j v x e1 e2 => ?_⟩
  match j, e1, e2 with
  | 0, e1, e2 => simp at e1 e2; subst e1 e2; exact ⟨c0, r0⟩
  | 1, e1, e2 => simp at e1 e2; subst e1 e2; exact ⟨c1, r1⟩
  | 2, e1, e2 => simp at e1 e2; subst e1 e2; exact ⟨c2, r2⟩
  | 3, e1, e2 => simp at e1 e2; subst e1 e2; exact ⟨c3, r3⟩

set_option maxHeartbeats 800000 in
theorem withCk_any (p : Option Addr) (c n : Nat) (l : List Int) (en : Hid (l.length = n)) (w : World) (h : Rd w (.slice p n c) l) (hb : Byt l) (hl : n ≤ 2097152) :
    Calls Try.prog 37 #[.slice p n c] w fun e w' => ∃ p' c', e = .returned (.slice p' (n + 4) c') ∧ Own w.heap.size w' (.slice p' (n + 4) c') (sm l) ∧ Below w.heap.size w w' := by
  have e1 := unhide en
  subst e1
  obtain ⟨k0, k1⟩ := ck_lt l
  go_enter Try.func37, Try.ntmps37
  go_wp2_with fail
  refine (implCk_any p c l _ h hb (by omega)).mono ?_
  rintro e w1 ⟨rfl, b1⟩
  go_wp2_with fail
  refine (lowFirst_any 4 (ck l) _ (by omega) k0 (by omega)).mono ?_
  rintro e w2 ⟨p2, c2, rfl, o2, hb2⟩
  have b2 := Below.step b1 hb2
  have r0 := h.below b2
  have r2 := o2.rd
  clear h b1 hb2 o2
  go_wp2_with fail
  refine (joined_any w2.heap.size [.slice p l.length c, .slice p2 4 c2] [l, le (ck l) 4] (sm l) (l.length + 4) 2 rfl (by show _ = _; rw [cat_two]; rfl) (by show _ = _; exact sm_length l) _ (parts2 (by simp) (by simp) (r0.below ((Below.refl _ _).alloc (Nat.le_refl _) _)) (r2.below ((Below.refl _ _).alloc (Nat.le_refl _) _))) (by omega) (by omega)).mono ?_
  rintro e w3 ⟨p3, c3, rfl, o3, hb3⟩
  have b3 := Below.step (b2.alloc b2.size _) hb3
  have o4 : Own w.heap.size w3 (.slice p3 (l.length + 4) c3) (sm l) := Own.mono o3 (by have := b2.size; simp; omega)
  clear r0 r2 b2 hb3 o3
  go_wp2
  go_ret
  exact ⟨p3, c3, rfl, o4, b3⟩

set_option maxHeartbeats 800000 in
theorem summed_any (p : Option Addr) (c n : Nat) (l : List Int) (en : Hid (l.length = n)) (w : World) (h : Rd w (.slice p n c) l) (hb : Byt l) (hl : n ≤ 2097152) :
    Calls Try.prog 35 #[.slice p n c] w fun e w' => ∃ p' c', e = .returned (.slice p' (n + 4) c') ∧ Own w.heap.size w' (.slice p' (n + 4) c') (sm l) ∧ Below w.heap.size w w' := by
  have e1 := unhide en
  subst e1
  obtain ⟨k0, k1⟩ := ck_lt l
  go_enter Try.func35, Try.ntmps35
  go_wp2_with fail
  refine (l1copy_any p c l _ h (by omega)).mono ?_
  rintro e w1 ⟨p1, c1, rfl, o1, b1⟩
  go_wp2_with fail
  refine (specCk_any p c l _ (h.below b1) hb (by omega)).mono ?_
  rintro e w2 ⟨rfl, hb2⟩
  have b2 := Below.step b1 hb2
  have o2 := Own.below o1 hb2
  clear h b1 hb2 o1
  go_wp2_with fail
  refine (little_any 4 (ck l) _ (by omega) k0 (by omega)).mono ?_
  rintro e w3 ⟨p3, c3, rfl, o3, hb3⟩
  have b3 := Below.step b2 hb3
  have o4 := Own.below o2 hb3
  have r3 := o3.rd
  have hz := b3.size
  clear b2 hb3 o2 o3
  go_wp2_with (at_builtin; refine wpList_append_rdn rfl _ _ rfl w.heap.size (.slice p1 l.length c1) l (le (ck l) 4) (sm l) (by show _ = _; rfl) p3 c3 4 (by show _ = _; exact le_length _ _) rfl rfl o4 r3 (by rw [le_length]; omega) hz ?_)
  intro p' c' w5 ho hg
  have b5 := below_grown b3 hg o4 (Nat.le_refl _) hz
  rw [sm_length] at ho ⊢
  clear b3 hg o4 r3
  go_wp2
  go_ret
  exact ⟨p', c', rfl, ho, b5⟩

/-- a record as a value; its bytes; a snapshot's bytes -/
abbrev recV (s : Int) (v : Value) : Value := .agg #[.int .u64 s, v]
def recHead (s : Int) (l : List Int) : List Int := le l.length 2 ++ le s 8 ++ l
def recB (s : Int) (l : List Int) : List Int := sm (recHead s l)
/-- the mark of a snapshot -/
def lhs1 : List Int := [76, 72, 83, 49]
theorem lhs1_length : lhs1.length = 4 := rfl
def snapHead (s : Int) (l : List Int) : List Int := lhs1 ++ le s 8 ++ le l.length 4 ++ l
def snapB (s : Int) (l : List Int) : List Int := sm (snapHead s l)
theorem recHead_length (s : Int) (l : List Int) : (recHead s l).length = l.length + 10 := by simp [recHead, le_length]; omega
theorem recB_length (s : Int) (l : List Int) : (recB s l).length = l.length + 14 := by rw [recB, sm_length, recHead_length]
theorem snapHead_length (s : Int) (l : List Int) : (snapHead s l).length = l.length + 16 := by simp [snapHead, le_length, lhs1_length]; omega
theorem snapB_length (s : Int) (l : List Int) : (snapB s l).length = l.length + 20 := by rw [snapB, sm_length, snapHead_length]
theorem recHead_byt {s : Int} {l : List Int} (h : Byt l) : Byt (recHead s l) := ((le_byt _ _).append (le_byt _ _)).append h
theorem recB_byt {s : Int} {l : List Int} (h : Byt l) : Byt (recB s l) := sm_byt (recHead_byt h)
theorem snapHead_byt {s : Int} {l : List Int} (h : Byt l) : Byt (snapHead s l) := by
  refine Byt.append (Byt.append (Byt.append ?_ (le_byt _ _)) (le_byt _ _)) h
  intro z hz; simp [lhs1] at hz; omega
theorem snapB_byt {s : Int} {l : List Int} (h : Byt l) : Byt (snapB s l) := sm_byt (snapHead_byt h)
end Go.Proofs.Ytipeflnkcjkoeaa
