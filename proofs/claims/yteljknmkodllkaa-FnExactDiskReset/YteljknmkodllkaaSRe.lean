import Derived.Test.YteljknmkodllkaaSGp
import Derived.Test.YteljknmkodllkaaIBase
namespace Go.Proofs.Yteljknmkodllkaa
open Go.ChangeShapes Go.WideShapes Go.ChangeAt Go.RowKit
set_option linter.unusedVariables false
set_option linter.unusedSimpArgs false

set_option maxHeartbeats 1000000 in
theorem specResetBad (p0 p1 p2 : Option Addr) (c0 c1 c2 : Nat) (n0 n1 n2 : Int) (l0 l1 l2 : List Int) (f : Int) (w : World) (h0 : Rd w (.slice p0 l0.length c0) l0) (h1 : Rd w (.slice p1 l1.length c1) l1) (h2 : Rd w (.slice p2 l2.length c2) l2) (hd : Hid ((dok l0.length n0 l1.length n1 l2.length n2 && isF f) = false)) (hs : l0.length ≤ 2097152) (hs1 : l1.length ≤ 2097152) (hs2 : l2.length ≤ 2097152) :
    Calls Try.prog 27 #[diskV (.slice p0 l0.length c0) n0 (.slice p1 l1.length c1) n1 (.slice p2 l2.length c2) n2, .int .i64 f] w (DiskRes w ([]) ([]) ([]) (0) (0) (0) 1) := by
  go_enter Try.func27, Try.ntmps27
  go_wp2_with fail
  refine (l1bad_any p0 p1 p2 _ c0 _ c1 _ c2 n0 n1 n2 f _ (by omega) (by omega) (by omega)).mono ?_
  rintro e w1 ⟨rfl, hb1⟩
  rw [unhide hd]
  have K1 : At6 w1 w.heap.size (.slice p0 l0.length c0) (.int .i64 n0) (.slice p1 l1.length c1) (.int .i64 n1) (.slice p2 l2.length c2) (.int .i64 n2) := At6.below (by simp [At6]) hb1
  have R1 : At6 w1 (w.heap.size + 1) (.slice none 0 0) (.int .i64 0) (.slice none 0 0) (.int .i64 0) (.slice none 0 0) (.int .i64 0) := At6.below (by simp [At6]) hb1
  have F1 := frozen_below (b := w.heap.size + 1) (by intro o; simp) hb1 (by simp)
  have b1 : Below w.heap.size w w1 := (((Below.refl _ _).alloc (Nat.le_refl _) _).alloc (by simp) _).trans (hb1.mono (by simp; omega))
  have z1 : w.heap.size + 1 < w1.heap.size := by have := hb1.size; simp at this; omega
  clear hb1
  have e0 := h0.below b1
  have e1 := h1.below b1
  have e2 := h2.below b1
  clear h0 h1 h2
  obtain ⟨ra, rb, rc, rd, re, rf⟩ := R1
  clear K1 e0 e1 e2
  go_wp2
  refine bodyPost_ret (v := .tuple #[zDisk, .int .i64 1]) (by simp [results, Try.results27, go_sem, ra, rb, rc, rd, re, rf]) rfl ⟨none, 0, none, 0, none, 0, rfl, Own3.nil _ _, ?_⟩
  · repeat (refine Below.setCell ?_ (by simp) _)
    exact b1

set_option maxHeartbeats 1000000 in
theorem specReset0 (p0 p1 p2 : Option Addr) (c0 c1 c2 : Nat) (n0 n1 n2 : Int) (l0 l1 l2 : List Int) (w : World) (h0 : Rd w (.slice p0 l0.length c0) l0) (h1 : Rd w (.slice p1 l1.length c1) l1) (h2 : Rd w (.slice p2 l2.length c2) l2) (hd : Hid ((dok l0.length n0 l1.length n1 l2.length n2 && isF 0) = true)) (hs : l0.length ≤ 200000) (hs1 : l1.length ≤ 200000) (hs2 : l2.length ≤ 200000) :
    Calls Try.prog 27 #[diskV (.slice p0 l0.length c0) n0 (.slice p1 l1.length c1) n1 (.slice p2 l2.length c2) n2, .int .i64 0] w (DiskRes w (([] : List Int)) (l1) (l2) (0) (n1) (n2) 0) := by
  go_enter Try.func27, Try.ntmps27
  go_wp2_with fail
  refine (l1bad_any p0 p1 p2 _ c0 _ c1 _ c2 n0 n1 n2 0 _ (by omega) (by omega) (by omega)).mono ?_
  rintro e w1 ⟨rfl, hb1⟩
  rw [unhide hd]
  have K1 : At6 w1 w.heap.size (.slice p0 l0.length c0) (.int .i64 n0) (.slice p1 l1.length c1) (.int .i64 n1) (.slice p2 l2.length c2) (.int .i64 n2) := At6.below (by simp [At6]) hb1
  have R1 : At6 w1 (w.heap.size + 1) (.slice none 0 0) (.int .i64 0) (.slice none 0 0) (.int .i64 0) (.slice none 0 0) (.int .i64 0) := At6.below (by simp [At6]) hb1
  have F1 := frozen_below (b := w.heap.size + 1) (by intro o; simp) hb1 (by simp)
  have b1 : Below w.heap.size w w1 := (((Below.refl _ _).alloc (Nat.le_refl _) _).alloc (by simp) _).trans (hb1.mono (by simp; omega))
  have z1 : w.heap.size + 1 < w1.heap.size := by have := hb1.size; simp at this; omega
  clear hb1
  have e0 := h0.below b1
  have e1 := h1.below b1
  have e2 := h2.below b1
  clear h0 h1 h2
  go_wp2_with fail
  refine (l1put0 p0 p1 p2 c0 c1 c2 n0 n1 n2 l0 l1 l2 none 0 0 ([] : List Int) _ e0 e1 e2 (by omega) (by omega) (by omega)).mono ?_
  rintro e w2 ⟨q0, d0, q1, d1, q2, d2, rfl, o2, hb2⟩
  have K2 := K1.below hb2
  have R2 := R1.below hb2
  have F2 := frozen_below F1 hb2 z1
  have b2 := Below.step b1 hb2
  have z2 : w.heap.size + 1 < w2.heap.size := by have := (hb2).size; omega
  have y2 : w.heap.size < w2.heap.size := by omega
  obtain ⟨ra, rb, rc, rd, re, rf⟩ := R2
  have oo : Own3 w1.heap.size w2 (.slice none 0 0) (.slice q1 l1.length d1) (.slice q2 l2.length d2) (([] : List Int)) (l1) (l2) := Own3.put0 o2 (World.ownsRow_nil _ _ _ _) (fun b hb => by simp [Value.ownBlock] at hb) (Nat.le_refl _)
  clear K2 hb2 e0 e1 e2 o2 K1 R1 F1
  go_wp2
  refine bodyPost_ret (v := .tuple #[diskV (.slice none 0 0) (0) (.slice q1 l1.length d1) (n1) (.slice q2 l2.length d2) (n2), .int .i64 0]) (by simp [results, Try.results27, go_sem, ra, rb, rc, rd, re, rf]) rfl ⟨none, 0, q1, d1, q2, d2, rfl, ?_, ?_⟩
  · refine Own3.mono (B := w1.heap.size) ?_ (by omega)
    repeat (refine Own3.set ?_ (by simp; omega) _)
    exact oo
  · repeat (refine Below.setCell ?_ (by simp) _)
    exact b2

set_option maxHeartbeats 1000000 in
theorem specReset1 (p0 p1 p2 : Option Addr) (c0 c1 c2 : Nat) (n0 n1 n2 : Int) (l0 l1 l2 : List Int) (w : World) (h0 : Rd w (.slice p0 l0.length c0) l0) (h1 : Rd w (.slice p1 l1.length c1) l1) (h2 : Rd w (.slice p2 l2.length c2) l2) (hd : Hid ((dok l0.length n0 l1.length n1 l2.length n2 && isF 1) = true)) (hs : l0.length ≤ 200000) (hs1 : l1.length ≤ 200000) (hs2 : l2.length ≤ 200000) :
    Calls Try.prog 27 #[diskV (.slice p0 l0.length c0) n0 (.slice p1 l1.length c1) n1 (.slice p2 l2.length c2) n2, .int .i64 1] w (DiskRes w (l0) (([] : List Int)) (l2) (n0) (0) (n2) 0) := by
  go_enter Try.func27, Try.ntmps27
  go_wp2_with fail
  refine (l1bad_any p0 p1 p2 _ c0 _ c1 _ c2 n0 n1 n2 1 _ (by omega) (by omega) (by omega)).mono ?_
  rintro e w1 ⟨rfl, hb1⟩
  rw [unhide hd]
  have K1 : At6 w1 w.heap.size (.slice p0 l0.length c0) (.int .i64 n0) (.slice p1 l1.length c1) (.int .i64 n1) (.slice p2 l2.length c2) (.int .i64 n2) := At6.below (by simp [At6]) hb1
  have R1 : At6 w1 (w.heap.size + 1) (.slice none 0 0) (.int .i64 0) (.slice none 0 0) (.int .i64 0) (.slice none 0 0) (.int .i64 0) := At6.below (by simp [At6]) hb1
  have F1 := frozen_below (b := w.heap.size + 1) (by intro o; simp) hb1 (by simp)
  have b1 : Below w.heap.size w w1 := (((Below.refl _ _).alloc (Nat.le_refl _) _).alloc (by simp) _).trans (hb1.mono (by simp; omega))
  have z1 : w.heap.size + 1 < w1.heap.size := by have := hb1.size; simp at this; omega
  clear hb1
  have e0 := h0.below b1
  have e1 := h1.below b1
  have e2 := h2.below b1
  clear h0 h1 h2
  go_wp2_with fail
  refine (l1put1 p0 p1 p2 c0 c1 c2 n0 n1 n2 l0 l1 l2 none 0 0 ([] : List Int) _ e0 e1 e2 (by omega) (by omega) (by omega)).mono ?_
  rintro e w2 ⟨q0, d0, q1, d1, q2, d2, rfl, o2, hb2⟩
  have K2 := K1.below hb2
  have R2 := R1.below hb2
  have F2 := frozen_below F1 hb2 z1
  have b2 := Below.step b1 hb2
  have z2 : w.heap.size + 1 < w2.heap.size := by have := (hb2).size; omega
  have y2 : w.heap.size < w2.heap.size := by omega
  obtain ⟨ra, rb, rc, rd, re, rf⟩ := R2
  have oo : Own3 w1.heap.size w2 (.slice q0 l0.length d0) (.slice none 0 0) (.slice q2 l2.length d2) (l0) (([] : List Int)) (l2) := Own3.put1 o2 (World.ownsRow_nil _ _ _ _) (fun b hb => by simp [Value.ownBlock] at hb) (Nat.le_refl _)
  clear K2 hb2 e0 e1 e2 o2 K1 R1 F1
  go_wp2
  refine bodyPost_ret (v := .tuple #[diskV (.slice q0 l0.length d0) (n0) (.slice none 0 0) (0) (.slice q2 l2.length d2) (n2), .int .i64 0]) (by simp [results, Try.results27, go_sem, ra, rb, rc, rd, re, rf]) rfl ⟨q0, d0, none, 0, q2, d2, rfl, ?_, ?_⟩
  · refine Own3.mono (B := w1.heap.size) ?_ (by omega)
    repeat (refine Own3.set ?_ (by simp; omega) _)
    exact oo
  · repeat (refine Below.setCell ?_ (by simp) _)
    exact b2

set_option maxHeartbeats 1000000 in
theorem specReset2 (p0 p1 p2 : Option Addr) (c0 c1 c2 : Nat) (n0 n1 n2 : Int) (l0 l1 l2 : List Int) (w : World) (h0 : Rd w (.slice p0 l0.length c0) l0) (h1 : Rd w (.slice p1 l1.length c1) l1) (h2 : Rd w (.slice p2 l2.length c2) l2) (hd : Hid ((dok l0.length n0 l1.length n1 l2.length n2 && isF 2) = true)) (hs : l0.length ≤ 200000) (hs1 : l1.length ≤ 200000) (hs2 : l2.length ≤ 200000) :
    Calls Try.prog 27 #[diskV (.slice p0 l0.length c0) n0 (.slice p1 l1.length c1) n1 (.slice p2 l2.length c2) n2, .int .i64 2] w (DiskRes w (l0) (l1) (([] : List Int)) (n0) (n1) (0) 0) := by
  go_enter Try.func27, Try.ntmps27
  go_wp2_with fail
  refine (l1bad_any p0 p1 p2 _ c0 _ c1 _ c2 n0 n1 n2 2 _ (by omega) (by omega) (by omega)).mono ?_
  rintro e w1 ⟨rfl, hb1⟩
  rw [unhide hd]
  have K1 : At6 w1 w.heap.size (.slice p0 l0.length c0) (.int .i64 n0) (.slice p1 l1.length c1) (.int .i64 n1) (.slice p2 l2.length c2) (.int .i64 n2) := At6.below (by simp [At6]) hb1
  have R1 : At6 w1 (w.heap.size + 1) (.slice none 0 0) (.int .i64 0) (.slice none 0 0) (.int .i64 0) (.slice none 0 0) (.int .i64 0) := At6.below (by simp [At6]) hb1
  have F1 := frozen_below (b := w.heap.size + 1) (by intro o; simp) hb1 (by simp)
  have b1 : Below w.heap.size w w1 := (((Below.refl _ _).alloc (Nat.le_refl _) _).alloc (by simp) _).trans (hb1.mono (by simp; omega))
  have z1 : w.heap.size + 1 < w1.heap.size := by have := hb1.size; simp at this; omega
  clear hb1
  have e0 := h0.below b1
  have e1 := h1.below b1
  have e2 := h2.below b1
  clear h0 h1 h2
  go_wp2_with fail
  refine (l1put2 p0 p1 p2 c0 c1 c2 n0 n1 n2 l0 l1 l2 none 0 0 ([] : List Int) _ e0 e1 e2 (by omega) (by omega) (by omega)).mono ?_
  rintro e w2 ⟨q0, d0, q1, d1, q2, d2, rfl, o2, hb2⟩
  have K2 := K1.below hb2
  have R2 := R1.below hb2
  have F2 := frozen_below F1 hb2 z1
  have b2 := Below.step b1 hb2
  have z2 : w.heap.size + 1 < w2.heap.size := by have := (hb2).size; omega
  have y2 : w.heap.size < w2.heap.size := by omega
  obtain ⟨ra, rb, rc, rd, re, rf⟩ := R2
  have oo : Own3 w1.heap.size w2 (.slice q0 l0.length d0) (.slice q1 l1.length d1) (.slice none 0 0) (l0) (l1) (([] : List Int)) := Own3.put2 o2 (World.ownsRow_nil _ _ _ _) (fun b hb => by simp [Value.ownBlock] at hb) (Nat.le_refl _)
  clear K2 hb2 e0 e1 e2 o2 K1 R1 F1
  go_wp2
  refine bodyPost_ret (v := .tuple #[diskV (.slice q0 l0.length d0) (n0) (.slice q1 l1.length d1) (n1) (.slice none 0 0) (0), .int .i64 0]) (by simp [results, Try.results27, go_sem, ra, rb, rc, rd, re, rf]) rfl ⟨q0, d0, q1, d1, none, 0, rfl, ?_, ?_⟩
  · refine Own3.mono (B := w1.heap.size) ?_ (by omega)
    repeat (refine Own3.set ?_ (by simp; omega) _)
    exact oo
  · repeat (refine Below.setCell ?_ (by simp) _)
    exact b2
end Go.Proofs.Yteljknmkodllkaa
