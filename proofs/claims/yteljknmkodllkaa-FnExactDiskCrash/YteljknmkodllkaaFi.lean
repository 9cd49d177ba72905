import Derived.Test.YteljknmkodllkaaCp
namespace Go.Proofs.Yteljknmkodllkaa
open Go.ChangeShapes Go.WideShapes Go.ChangeAt Go.RowKit
set_option linter.unusedVariables false
set_option linter.unusedSimpArgs false

set_option maxHeartbeats 800000 in
theorem l1file_any (p : Option Addr) (c : Nat) (n : Int) (l : List Int) (w : World) (h : Rd w (.slice p l.length c) l) (hl : l.length ≤ 2097152) :
    Calls Try.prog 56 #[fileV (.slice p l.length c) n] w fun e w' => ∃ p' c', e = .returned (fileV (.slice p' l.length c') n) ∧ Own w.heap.size w' (.slice p' l.length c') l ∧ Below w.heap.size w w' := by
  have b2 : Below w.heap.size w ((w.alloc (.cells #[.slice p l.length c, .int .i64 n] 29)).alloc (.cells #[.slice none 0 0, .int .i64 0] 29)) := ((Below.refl _ _).alloc (Nat.le_refl _) _).alloc (by simp) _
  have hR := hide (h.below b2.drew)
  clear h
  go_enter Try.func56, Try.ntmps56
  go_wp2_with fail
  go_region_held3 (fun w' => w'.cell? ⟨w.heap.size, 0, none⟩ = some (.slice p l.length c) ∧ w'.cell? ⟨w.heap.size, 1, none⟩ = some (.int .i64 n)) (first | go_keep | (simp [g0, g1]; done))
    (first | (go_at_call 66; refine (l1copy_any p c l _ (by exact unhide hR) hl).mono ?_; rintro e w1 ⟨p', c', rfl, o1, hb1⟩; obtain ⟨hc1, hf1⟩ := bcell hb1; have g0 : w1.cell? ⟨w.heap.size, 0, none⟩ = some (.slice p l.length c) := (hc1 _ _ (by simp; omega)).trans (by simp); have g1 : w1.cell? ⟨w.heap.size, 1, none⟩ = some (.int .i64 n) := (hc1 _ _ (by simp; omega)).trans (by simp)))
  have hb2 : Below w.heap.size w w1 := b2.drew.trans (hb1.mono (by simp; omega))
  have ho2 : Own (w.heap.size + 2) w1 (.slice p' l.length c') l := by simpa using o1
  clear hR b2 o1 hb1 g0 g1
  go_wp2
  refine bodyPost_ret (v := fileV (.slice p' l.length c') n) (by simp [results, Try.results56, go_sem, hc1]) rfl ⟨p', c', rfl, Own.mono (B := w.heap.size + 2) ?_ (by omega), ?_⟩
  · repeat (refine ownsRow_setCell_below ?_ (by simp) _)
    exact ho2
  · repeat (refine Below.setCell ?_ (by simp <;> omega) _)
    exact hb2
end Go.Proofs.Yteljknmkodllkaa
