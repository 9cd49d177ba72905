import Derived.Test.YteljknmkodllkaaIm
namespace Go.Proofs.Yteljknmkodllkaa
open Go.ChangeShapes Go.WideShapes Go.ChangeAt Go.RowKit
set_option linter.unusedVariables false
set_option linter.unusedSimpArgs false

set_option maxHeartbeats 400000 in
theorem filesDisk_any (p0 p1 p2 : Option Addr) (c0 c1 c2 : Nat) (n0 n1 n2 : Int) (l0 l1 l2 : List Int) (w : World) (h0 : Rd w (.slice p0 l0.length c0) l0) (h1 : Rd w (.slice p1 l1.length c1) l1) (h2 : Rd w (.slice p2 l2.length c2) l2) (m0 : l0.length ≤ 2097152) (m1 : l1.length ≤ 2097152) (m2 : l2.length ≤ 2097152) :
    Calls Try.prog 48 #[diskV (.slice p0 l0.length c0) n0 (.slice p1 l1.length c1) n1 (.slice p2 l2.length c2) n2] w fun e w' =>
      ∃ q0 d0 q1 d1 q2 d2, e = .returned (diskV (.slice q0 l0.length d0) n0 (.slice q1 l1.length d1) n1 (.slice q2 l2.length d2) n2) ∧
        Own3 w.heap.size w' (.slice q0 l0.length d0) (.slice q1 l1.length d1) (.slice q2 l2.length d2) l0 l1 l2 ∧ Below w.heap.size w w' := by
  go_enter Try.func48, Try.ntmps48
  go_wp2_with fail
  obtain ⟨W, hW⟩ : ∃ W, W = ((w.alloc (.cells #[.slice p0 l0.length c0, .int .i64 n0, .slice p1 l1.length c1, .int .i64 n1, .slice p2 l2.length c2, .int .i64 n2] 52)).alloc (.cells #[.slice none 0 0, .int .i64 0, .slice none 0 0, .int .i64 0, .slice none 0 0, .int .i64 0] 31)) := ⟨_, rfl⟩
  have bW : Below w.heap.size w W := by rw [hW]; exact ((Below.refl _ _).alloc (Nat.le_refl _) _).alloc (by simp) _
  have k0 : At6 W w.heap.size (.slice p0 l0.length c0) (.int .i64 n0) (.slice p1 l1.length c1) (.int .i64 n1) (.slice p2 l2.length c2) (.int .i64 n2) := by rw [hW]; simp [At6]
  have r0 : At6 W (w.heap.size + 1) (.slice none 0 0) (.int .i64 0) (.slice none 0 0) (.int .i64 0) (.slice none 0 0) (.int .i64 0) := by rw [hW]; simp [At6]
  have f0 : ∀ o, W.frozen? ⟨w.heap.size + 1, o, none⟩ = false := by intro o; rw [hW]; simp
  have zW : w.heap.size + 2 = W.heap.size := by rw [hW]; simp
  rw [← hW]
  clear hW
  have e0 := h0.below bW.drew
  have e1 := h1.below bW
  have e2 := h2.below bW
  clear h0 h1 h2
  have k0d : At6 W.drew w.heap.size (.slice p0 l0.length c0) (.int .i64 n0) (.slice p1 l1.length c1) (.int .i64 n1) (.slice p2 l2.length c2) (.int .i64 n2) := k0
  go_region_held3 (fun w' => At6 w' w.heap.size (.slice p0 l0.length c0) (.int .i64 n0) (.slice p1 l1.length c1) (.int .i64 n1) (.slice p2 l2.length c2) (.int .i64 n2)) (first | with_reducible exact k0d | with_reducible exact k1 | with_reducible exact k2 | with_reducible exact k3 | (clear k0 k0d k1 k2 b1 b2 b3 f3 e0 e1 e2 o0 o1 o2 hb1 hb2 hb3 r0 f0 bW; refine ⟨?_, ?_, ?_, ?_, ?_, ?_⟩ <;> go_keep))
    (first
      | (go_at_call_of 63 (Value.agg #[Value.slice p0 l0.length c0, Value.int IntKind.i64 n0]); refine (copied_any p0 c0 n0 l0 _ (by exact e0) m0).mono ?_; rintro e w1 ⟨q0, d0, rfl, o0, hb1⟩; have b1 := Below.step (Below.refl W.heap.size W).drew hb1; have k1 := At6.below k0 b1)
      | (go_at_call_of 63 (Value.agg #[Value.slice p1 l1.length c1, Value.int IntKind.i64 n1]); refine (copied_any p1 c1 n1 l1 _ (by exact e1.below b1) m1).mono ?_; rintro e w2 ⟨q1, d1, rfl, o1, hb2⟩; have b2 := Below.step b1 hb2; have k2 := At6.below k0 b2)
      | (go_at_call_of 63 (Value.agg #[Value.slice p2 l2.length c2, Value.int IntKind.i64 n2]); refine (copied_any p2 c2 n2 l2 _ (by exact e2.below b2) m2).mono ?_; rintro e w3 ⟨q2, d2, rfl, o2, hb3⟩; have b3 := Below.step b2 hb3; have k3 := At6.below k0 b3; have r3 := At6.below r0 b3; have f3 := frozen_below f0 b3 (by omega)))
  have z1 : w.heap.size + 2 ≤ w1.heap.size := by have := hb1.size; simp at this; omega
  have z2 : w1.heap.size ≤ w2.heap.size := hb2.size
  have z3 : w2.heap.size ≤ w3.heap.size := hb3.size
  have bb : Below w.heap.size w w3 := Below.step bW b3
  have u0 : Own W.heap.size w3 (.slice q0 l0.length d0) l0 := Own.below (Own.below (by simpa using o0) hb2) hb3
  have u1 : Own w1.heap.size w3 (.slice q1 l1.length d1) l1 := Own.below o1 hb3
  have u0' : Own W.heap.size w1 (.slice q0 l0.length d0) l0 := by simpa using o0
  obtain ⟨ra, rb, rc, rd, re, rf⟩ := r3
  clear k0 k0d k1 k2 k3 b1 b2 b3 e0 e1 e2 hb1 hb2 hb3 r0 f0 o0
  go_wp2
  refine bodyPost_ret (v := diskV (.slice q0 l0.length d0) n0 (.slice q1 l1.length d1) n1 (.slice q2 l2.length d2) n2) (by simp [results, Try.results48, go_sem, ra, rb, rc, rd, re, rf]) rfl ⟨q0, d0, q1, d1, q2, d2, rfl, ?_, ?_⟩
  · refine Own3.mk' (B := w.heap.size) (B1 := w1.heap.size) (B2 := w2.heap.size) (u0'.mono (by omega)) o1 (Own.mono (B := W.heap.size) ?_ (by omega)) ?_ ?_ (Nat.le_refl _) (Nat.le_refl _) (by omega) (by omega)
    · repeat (refine ownsRow_setCell_below ?_ (by simp; omega) _)
      exact u0
    · repeat (refine ownsRow_setCell_below ?_ (by simp; omega) _)
      exact u1
    · repeat (refine ownsRow_setCell_below ?_ (by simp; omega) _)
      exact o2
  · repeat (refine Below.setCell ?_ (by simp) _)
    exact bb
end Go.Proofs.Yteljknmkodllkaa
