import Derived.Test.YtekooebndehokaaDoorOPg
namespace Go.Proofs.YtekooebndehokaaDoor
open Go.ChangeShapes Go.WideShapes Go.ChangeAt Go.RowKit
set_option linter.unusedVariables false
set_option linter.unusedSimpArgs false
set_option maxRecDepth 100000

/-- a row of the table in memory -/
abbrev RowAt (w : World) (G o : Nat) (se pa : Bool) (lo hi vs : Int) (sq jo : Bool) : Prop := w.cell? ⟨G, o, none⟩ = some (.bool se) ∧ w.cell? ⟨G, o + 1, none⟩ = some (.bool pa) ∧ w.cell? ⟨G, o + 2, none⟩ = some (.int .i64 lo) ∧ w.cell? ⟨G, o + 3, none⟩ = some (.int .i64 hi) ∧ w.cell? ⟨G, o + 4, none⟩ = some (.int .i64 vs) ∧ w.cell? ⟨G, o + 5, none⟩ = some (.bool sq) ∧ w.cell? ⟨G, o + 6, none⟩ = some (.bool jo)
theorem RowAt.below {w w' : World} {G o : Nat} {se pa : Bool} {lo hi vs : Int} {sq jo : Bool} (h : RowAt w G o se pa lo hi vs sq jo) (hb : Below w.heap.size w w') : RowAt w' G o se pa lo hi vs sq jo :=
  ⟨cell_below h.1 hb, cell_below h.2.1 hb, cell_below h.2.2.1 hb, cell_below h.2.2.2.1 hb, cell_below h.2.2.2.2.1 hb, cell_below h.2.2.2.2.2.1 hb, cell_below h.2.2.2.2.2.2 hb⟩

set_option maxHeartbeats 1600000 in
theorem wellFormed_any (k : Nat) (hk1 : 1 ≤ k) (hk2 : k ≤ 13) (se pa : Bool) (lo hi vs : Int) (sq jo : Bool) (s f e g : Int) (p q : Option Addr) (n m c d : Nat) (w : World) (hT : RowAt w 0 (k * 7) se pa lo hi vs sq jo) (B : Bool) (eB : Hid (fmF se pa lo hi vs sq s f n m e g = B)) :
    Calls Tryd.prog 34 #[opV k s (.slice p n c) f (.slice q m d) e g] w fun r w' => r = .returned (.bool B) ∧ Below w.heap.size w w' := by
  have h1 : (1 : Int) ≤ (k : Int) := by omega
  have h2 : (k : Int) ≤ 13 := by omega
  have h3 : (k : Int) < 14 := by omega
  have h4 : k < 14 := by omega
  have h5 : (0 : Int) ≤ (k : Int) := by omega
  go_enter Tryd.func34, Tryd.ntmps34
  go_wp2_with fail
  obtain ⟨W, hW⟩ : ∃ W, W = (w.alloc (.cells #[.int .i64 k, .int .u64 s, .slice p n c, .int .i64 f, .slice q m d, .int .u64 e, .int .u64 g] 31)) := ⟨_, rfl⟩
  have bW : Below w.heap.size w W := by rw [hW]; exact (Below.refl _ _).alloc (Nat.le_refl _) _
  have hA : At7 W w.heap.size (.int .i64 k) (.int .u64 s) (.slice p n c) (.int .i64 f) (.slice q m d) (.int .u64 e) (.int .u64 g) := by rw [hW]; simp [At7, go_sem]
  have hTW := hT.below bW
  rw [← hW]
  clear hW hT
  go_region_held3 (fun w' => At7 w' w.heap.size (.int .i64 k) (.int .u64 s) (.slice p n c) (.int .i64 f) (.slice q m d) (.int .u64 e) (.int .u64 g) ∧ RowAt w' 0 (k * 7) se pa lo hi vs sq jo) (first | exact ⟨hA, hTW⟩ | exact ⟨hA1, hT1⟩)
    (first | (go_at_call 66; refine (fits_any se pa lo hi vs sq jo k s f e g p q n m c d _ B eB).mono ?_; rintro r w1 ⟨rfl, hb1⟩; have hb' : Below W.heap.size W w1 := (by first | exact hb1 | exact Below.step (Below.refl W.heap.size W).drew hb1); have hA1 := hA.below hb'; have hT1 := hTW.below hb'))
  have b1 := Below.step bW hb'
  clear hA hTW hA1 hT1 hb1 hb' bW
  go_wp2
  go_ret
  exact ⟨rfl, b1⟩

set_option maxHeartbeats 400000 in
theorem wellFormed_out (k s f e g : Int) (p q : Option Addr) (n m c d : Nat) (w : World) (hk : k < 1 ∨ 13 < k) :
    Calls Tryd.prog 34 #[opV k s (.slice p n c) f (.slice q m d) e g] w fun r w' => r = .returned (.bool false) ∧ Below w.heap.size w w' := by
  have b0 : ∀ o : Obj, Below w.heap.size w (w.alloc o) := fun o => (Below.refl _ _).alloc (Nat.le_refl _) _
  by_cases h1 : k < 1
  · have h1' : ¬ (1 : Int) ≤ k := by omega
    have h1d : decide ((1 : Int) ≤ k) = false := by simp; omega
    go_enter Tryd.func34, Tryd.ntmps34
    go_wp2_with fail
    go_region
    all_goals (
      go_wp2
      go_ret
      exact ⟨rfl, by first | exact b0 _ | exact (b0 _).drew⟩)
  · have h1' : (1 : Int) ≤ k := by omega
    have h2' : ¬ k ≤ 13 := by omega
    have h1d : decide ((1 : Int) ≤ k) = true := by simp; omega
    have h2d : decide (k ≤ (13 : Int)) = false := by simp; omega
    go_enter Tryd.func34, Tryd.ntmps34
    go_wp2_with fail
    go_region
    all_goals (
      go_wp2
      go_ret
      exact ⟨rfl, by first | exact b0 _ | exact (b0 _).drew⟩)
end Go.Proofs.YtekooebndehokaaDoor
