import Derived.Test.YteljknmkodllkaaVa2
import Derived.Test.YteljknmkodllkaaMaD
import Derived.Deep.RegionHeld3
namespace Go.Proofs.Yteljknmkodllkaa
open Go.ChangeShapes Go.WideShapes Go.ChangeAt Go.RowKit
set_option linter.unusedVariables false
set_option linter.unusedSimpArgs false

set_option maxHeartbeats 800000 in
theorem lawValidDisk_small (p0 p1 p2 : Option Addr) (c0 c1 c2 : Nat) (n0 n1 n2 : Int) (l0 l1 l2 : List Int) (w : World) (h0 : Rd w (.slice p0 l0.length c0) l0) (h1 : Rd w (.slice p1 l1.length c1) l1) (h2 : Rd w (.slice p2 l2.length c2) l2)
    (hl : l0.length + l1.length + l2.length ≤ 1048576) :
    Calls Try.prog 3 #[diskV (.slice p0 l0.length c0) n0 (.slice p1 l1.length c1) n1 (.slice p2 l2.length c2) n2] w fun e w' => e = .returned (.bool true) ∧ Below w.heap.size w w' := by
  have b0 : ∀ o : Obj, Below w.heap.size w (w.alloc o) := fun o => (Below.refl _ _).alloc (Nat.le_refl _) _
  have hne : (dok l0.length n0 l1.length n1 l2.length n2 != dok l0.length n0 l1.length n1 l2.length n2) = false := by simp
  go_enter Try.func3, Try.ntmps3
  go_wp2_with fail
  refine (szDisk_yes p0 p1 p2 _ c0 _ c1 _ c2 n0 n1 n2 _ hl).mono ?_
  rintro e w1 ⟨rfl, hb1⟩
  have b1 : Below w.heap.size w w1 := (b0 _).trans (hb1.mono (by simp))
  obtain ⟨hc1, hf1⟩ := bcell hb1
  go_wp2_with fail
  refine (toDisk_any p0 p1 p2 c0 c1 c2 n0 n1 n2 l0 l1 l2 _ (h0.below b1) (h1.below b1) (h2.below b1) hl).mono ?_
  rintro e w2 ⟨q0, d0, q1, d1, q2, d2, rfl, o, hb2⟩
  replace hb2 := Below.step hb1 hb2
  clear hc1 hf1 hb1 b1
  have b2 : Below w.heap.size w w2 := (b0 _).trans (hb2.mono (by simp))
  obtain ⟨hc2, hf2⟩ := bcell hb2
  go_wp2_with fail
  refine (specValid_any q0 q1 q2 _ d0 _ d1 _ d2 n0 n1 n2 _ (by omega) (by omega) (by omega)).mono ?_
  rintro e w3 ⟨rfl, hb3⟩
  replace hb3 := Below.step hb2 hb3
  clear hc2 hf2 hb2 b2 o
  have b3 : Below w.heap.size w w3 := (b0 _).trans (hb3.mono (by simp))
  obtain ⟨hc3, hf3⟩ := bcell hb3
  go_wp2_with fail
  refine (toDisk_any p0 p1 p2 c0 c1 c2 n0 n1 n2 l0 l1 l2 _ (h0.below b3) (h1.below b3) (h2.below b3) hl).mono ?_
  rintro e w4 ⟨x0, y0, x1, y1, x2, y2, rfl, o, hb4⟩
  replace hb4 := Below.step hb3 hb4
  clear hc3 hf3 hb3 b3
  have b4 : Below w.heap.size w w4 := (b0 _).trans (hb4.mono (by simp))
  obtain ⟨hc4, hf4⟩ := bcell hb4
  have z4 : w.heap.size < w4.heap.size := by have := hb4.size; simp at this; omega
  go_wp2_with fail
  refine (implValid_any x0 x1 x2 _ y0 _ y1 _ y2 n0 n1 n2 _ (by omega) (by omega) (by omega)).mono ?_
  rintro e w5 ⟨rfl, hb5⟩
  have k0 : At6 w5 w.heap.size (.slice p0 l0.length c0) (.int .i64 n0) (.slice p1 l1.length c1) (.int .i64 n1) (.slice p2 l2.length c2) (.int .i64 n2) := by
    refine At6.below ?_ hb5
    refine At6.below (w := w4) ?_ ?_
    · simp [At6, hc4]
    · exact (Below.refl _ _).alloc (Nat.le_refl _) _
  have k1 : At6 w5 w4.heap.size (.slice x0 l0.length y0) (.int .i64 n0) (.slice x1 l1.length y1) (.int .i64 n1) (.slice x2 l2.length y2) (.int .i64 n2) := by
    refine At6.below ?_ hb5
    simp [At6]
  have b45 : Below w4.heap.size w4 w5 := ((Below.refl _ _).alloc (Nat.le_refl _) _).trans (hb5.mono (by simp))
  have b5 : Below w.heap.size w w5 := Below.step b4 b45
  have o5 := o.below b45
  clear hb4 hc4 hf4 hb5 o b45 b4
  go_wp2_with fail
  go_region_held3 (fun w' => Below w5.heap.size w5 w' ∧ At6 w' w.heap.size (.slice p0 l0.length c0) (.int .i64 n0) (.slice p1 l1.length c1) (.int .i64 n1) (.slice p2 l2.length c2) (.int .i64 n2) ∧ At6 w' w4.heap.size (.slice x0 l0.length y0) (.int .i64 n0) (.slice x1 l1.length y1) (.int .i64 n1) (.slice x2 l2.length y2) (.int .i64 n2)) (first | exact ⟨Below.refl _ _, k0, k1⟩ | exact ⟨(Below.refl _ _).drew, k0, k1⟩ | (have hb := Below.step (Below.refl w5.heap.size w5).drew hb6; exact ⟨hb, k0.below hb, k1.below hb⟩) | (have hb := Below.step (Below.step (Below.refl w5.heap.size w5).drew hb6) hb7; exact ⟨hb, k0.below hb, k1.below hb⟩))
    (first | (go_at_call 12; refine (toDisk_any p0 p1 p2 c0 c1 c2 n0 n1 n2 l0 l1 l2 _ (by exact h0.below b5.drew) (by exact h1.below b5.drew) (by exact h2.below b5.drew) hl).mono ?_; rintro e w6 ⟨r0, t0, r1, t1, r2, t2, rfl, o6, hb6⟩) | (go_at_call 14; refine (eqDisk_same x0 x1 x2 r0 r1 r2 y0 y1 y2 t0 t1 t2 n0 n1 n2 l0 l1 l2 _ (by exact (o5.o0.rd.below (Below.step (Below.refl w5.heap.size w5).drew hb6))) (by exact (o5.o1.rd.below (Below.step (Below.refl w5.heap.size w5).drew hb6))) (by exact (o5.o2.rd.below (Below.step (Below.refl w5.heap.size w5).drew hb6))) (by exact o6.o0.rd) (by exact o6.o1.rd) (by exact o6.o2.rd) (by omega) (by omega) (by omega)).mono ?_; rintro e w7 ⟨rfl, hb7⟩))
  have b7 := Below.step (Below.step b5.drew hb6) hb7
  clear hb6 hb7 o6 o5 k0 k1
  go_wp2
  go_ret
  exact ⟨rfl, b7⟩
end Go.Proofs.Yteljknmkodllkaa
