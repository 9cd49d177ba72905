import Derived.Test.YteljknmkodllkaaSGp
import Derived.Test.YteljknmkodllkaaKp
import Derived.Deep.RegionHeld3
namespace Go.Proofs.Yteljknmkodllkaa
open Go.ChangeShapes Go.WideShapes Go.ChangeAt Go.RowKit
set_option linter.unusedVariables false
set_option linter.unusedSimpArgs false

set_option maxHeartbeats 1000000 in
theorem specCrashBadA (p0 p1 p2 : Option Addr) (c0 c1 c2 : Nat) (n0 n1 n2 : Int) (l0 l1 l2 : List Int) (f : Int) (w : World) (h0 : Rd w (.slice p0 l0.length c0) l0) (h1 : Rd w (.slice p1 l1.length c1) l1) (h2 : Rd w (.slice p2 l2.length c2) l2) (hd : Hid (dok l0.length n0 l1.length n1 l2.length n2 = false)) (hs : l0.length ≤ 2097152) (hs1 : l1.length ≤ 2097152) (hs2 : l2.length ≤ 2097152) :
    Calls Try.prog 23 #[diskV (.slice p0 l0.length c0) n0 (.slice p1 l1.length c1) n1 (.slice p2 l2.length c2) n2, .int .i64 f] w (DiskRes w ([]) ([]) ([]) (0) (0) (0) 1) := by
  go_enter Try.func23, Try.ntmps23
  go_wp2_with fail
  refine (specValid_any p0 p1 p2 _ c0 _ c1 _ c2 n0 n1 n2 _ (by omega) (by omega) (by omega)).mono ?_
  rintro e w1 ⟨rfl, hb1⟩
  rw [unhide hd]
  have K1 : At6 w1 w.heap.size (.slice p0 l0.length c0) (.int .i64 n0) (.slice p1 l1.length c1) (.int .i64 n1) (.slice p2 l2.length c2) (.int .i64 n2) := At6.below (by simp [At6]) hb1
  have R1 : At6 w1 (w.heap.size + 1) (.slice none 0 0) (.int .i64 0) (.slice none 0 0) (.int .i64 0) (.slice none 0 0) (.int .i64 0) := At6.below (by simp [At6]) hb1
  have F1 := frozen_below (b := w.heap.size + 1) (by intro o; simp) hb1 (by simp)
  have b1 : Below w.heap.size w w1 := (((Below.refl _ _).alloc (Nat.le_refl _) _).alloc (by simp) _).trans (hb1.mono (by simp; omega))
  have z1 : w.heap.size + 1 < w1.heap.size := by have := hb1.size; simp at this; omega
  clear hb1
  have e0 := h0.below b1
  have e1 := h1.below b1
  have e2 := h2.below b1
  clear h0 h1 h2
  obtain ⟨ra, rb, rc, rd, re, rf⟩ := R1
  clear K1 e0 e1 e2
  go_wp2
  refine bodyPost_ret (v := .tuple #[zDisk, .int .i64 1]) (by simp [results, Try.results23, go_sem, ra, rb, rc, rd, re, rf]) rfl ⟨none, 0, none, 0, none, 0, rfl, Own3.nil _ _, ?_⟩
  · repeat (refine Below.setCell ?_ (by simp) _)
    exact b1

set_option maxHeartbeats 1000000 in
theorem specCrashBadB (p0 p1 p2 : Option Addr) (c0 c1 c2 : Nat) (n0 n1 n2 : Int) (l0 l1 l2 : List Int) (f : Int) (w : World) (h0 : Rd w (.slice p0 l0.length c0) l0) (h1 : Rd w (.slice p1 l1.length c1) l1) (h2 : Rd w (.slice p2 l2.length c2) l2) (hd : Hid (dok l0.length n0 l1.length n1 l2.length n2 = true)) (hf : f < 0) (hs : l0.length ≤ 2097152) (hs1 : l1.length ≤ 2097152) (hs2 : l2.length ≤ 2097152) :
    Calls Try.prog 23 #[diskV (.slice p0 l0.length c0) n0 (.slice p1 l1.length c1) n1 (.slice p2 l2.length c2) n2, .int .i64 f] w (DiskRes w ([]) ([]) ([]) (0) (0) (0) 1) := by
  go_enter Try.func23, Try.ntmps23
  go_wp2_with fail
  refine (specValid_any p0 p1 p2 _ c0 _ c1 _ c2 n0 n1 n2 _ (by omega) (by omega) (by omega)).mono ?_
  rintro e w1 ⟨rfl, hb1⟩
  rw [unhide hd]
  have K1 : At6 w1 w.heap.size (.slice p0 l0.length c0) (.int .i64 n0) (.slice p1 l1.length c1) (.int .i64 n1) (.slice p2 l2.length c2) (.int .i64 n2) := At6.below (by simp [At6]) hb1
  have R1 : At6 w1 (w.heap.size + 1) (.slice none 0 0) (.int .i64 0) (.slice none 0 0) (.int .i64 0) (.slice none 0 0) (.int .i64 0) := At6.below (by simp [At6]) hb1
  have F1 := frozen_below (b := w.heap.size + 1) (by intro o; simp) hb1 (by simp)
  have b1 : Below w.heap.size w w1 := (((Below.refl _ _).alloc (Nat.le_refl _) _).alloc (by simp) _).trans (hb1.mono (by simp; omega))
  have z1 : w.heap.size + 1 < w1.heap.size := by have := hb1.size; simp at this; omega
  clear hb1
  have e0 := h0.below b1
  have e1 := h1.below b1
  have e2 := h2.below b1
  clear h0 h1 h2
  obtain ⟨ra, rb, rc, rd, re, rf⟩ := R1
  clear K1 e0 e1 e2
  go_wp2
  refine bodyPost_ret (v := .tuple #[zDisk, .int .i64 1]) (by simp [results, Try.results23, go_sem, ra, rb, rc, rd, re, rf]) rfl ⟨none, 0, none, 0, none, 0, rfl, Own3.nil _ _, ?_⟩
  · repeat (refine Below.setCell ?_ (by simp) _)
    exact b1

set_option maxHeartbeats 2000000 in
theorem specCrash0 (p0 p1 p2 : Option Addr) (c0 c1 c2 s0 s1 s2 : Nat) (l0 l1 l2 : List Int) (f : Int) (w : World) (h0 : Rd w (.slice p0 l0.length c0) l0) (h1 : Rd w (.slice p1 l1.length c1) l1) (h2 : Rd w (.slice p2 l2.length c2) l2) (hd : Hid (dok l0.length s0 l1.length s1 l2.length s2 = true)) (hf : 0 ≤ f) (hf1 : f ≤ 9223372036854775807) (t0 : s0 ≤ l0.length) (t1 : s1 ≤ l1.length) (t2 : s2 ≤ l2.length) (hs : l0.length ≤ 200000) (hs1 : l1.length ≤ 200000) (hs2 : l2.length ≤ 200000)
    (L0 L1 L2 : List Int) (E0 : Hid (L0 = l0.take (kept l0.length s0 f.toNat))) (E1 : Hid (L1 = l1.take (kept l1.length s1 f.toNat))) (E2 : Hid (L2 = l2.take (kept l2.length s2 f.toNat))) :
    Calls Try.prog 23 #[diskV (.slice p0 l0.length c0) s0 (.slice p1 l1.length c1) s1 (.slice p2 l2.length c2) s2, .int .i64 f] w (DiskRes w L0 L1 L2 L0.length L1.length L2.length 0) := by
  have hnf : ¬ f < 0 := by omega
  go_enter Try.func23, Try.ntmps23
  go_wp2_with fail
  refine (specValid_any p0 p1 p2 _ c0 _ c1 _ c2 (s0 : Int) (s1 : Int) (s2 : Int) _ (by omega) (by omega) (by omega)).mono ?_
  rintro e w1 ⟨rfl, hb1⟩
  rw [unhide hd]
  have K1 : At6 w1 w.heap.size (.slice p0 l0.length c0) (.int .i64 s0) (.slice p1 l1.length c1) (.int .i64 s1) (.slice p2 l2.length c2) (.int .i64 s2) := At6.below (by simp [At6]) hb1
  have R1 : At6 w1 (w.heap.size + 1) (.slice none 0 0) (.int .i64 0) (.slice none 0 0) (.int .i64 0) (.slice none 0 0) (.int .i64 0) := At6.below (by simp [At6]) hb1
  have F1 := frozen_below (b := w.heap.size + 1) (by intro o; simp) hb1 (by simp)
  have b1 : Below w.heap.size w w1 := (((Below.refl _ _).alloc (Nat.le_refl _) _).alloc (by simp) _).trans (hb1.mono (by simp; omega))
  have z1 : w.heap.size + 1 < w1.heap.size := by have := hb1.size; simp at this; omega
  clear hb1
  have e0 := h0.below b1
  have e1 := h1.below b1
  have e2 := h2.below b1
  clear h0 h1 h2
  have K1d : At6 w1.drew w.heap.size (.slice p0 l0.length c0) (.int .i64 s0) (.slice p1 l1.length c1) (.int .i64 s1) (.slice p2 l2.length c2) (.int .i64 s2) := K1
  go_wp2_with fail
  go_region_held3 (fun w' => At6 w' w.heap.size (.slice p0 l0.length c0) (.int .i64 s0) (.slice p1 l1.length c1) (.int .i64 s1) (.slice p2 l2.length c2) (.int .i64 s2)) (first | with_reducible exact K1d | with_reducible exact k1 | with_reducible exact k2 | with_reducible exact k3 | (with_reducible ((repeat refine At6.setOther ?_ (by simp) _); exact k3)))
    (first
      | (go_at_call_of 52 (Value.agg #[Value.slice p0 l0.length c0, Value.int IntKind.i64 s0]); refine (l1kept_any p0 c0 s0 f l0 _ (by exact e0.below (Below.refl w1.heap.size w1).drew) t0 (by omega) hf hf1 L0 E0).mono ?_; rintro e x1 ⟨q0, d0, rfl, o0, hx1⟩; have y1 := Below.step (Below.refl w1.heap.size w1).drew hx1; have k1 := At6.below K1 y1)
      | (go_at_call_of 52 (Value.agg #[Value.slice p1 l1.length c1, Value.int IntKind.i64 s1]); refine (l1kept_any p1 c1 s1 f l1 _ (by exact e1.below y1) t1 (by omega) hf hf1 L1 E1).mono ?_; rintro e x2 ⟨q1, d1, rfl, o1, hx2⟩; have y2 := Below.step y1 hx2; have k2 := At6.below K1 y2)
      | (go_at_call_of 52 (Value.agg #[Value.slice p2 l2.length c2, Value.int IntKind.i64 s2]); refine (l1kept_any p2 c2 s2 f l2 _ (by exact e2.below y2) t2 (by omega) hf hf1 L2 E2).mono ?_; rintro e x3 ⟨q2, d2, rfl, o2, hx3⟩; have y3 := Below.step y2 hx3; have k3 := At6.below K1 y3; have R3 := At6.below R1 y3; have F3 := frozen_below F1 y3 z1))
  have v1 := hx1.size
  have v2 := hx2.size
  have v3 := hx3.size
  have s1' : w1.heap.size ≤ x1.heap.size := y1.size
  have bb : Below w.heap.size w x3 := Below.step b1 y3
  have u0' : Own w1.heap.size x1 (.slice q0 L0.length d0) L0 := by simpa using o0
  have u0 : Own w1.heap.size x3 (.slice q0 L0.length d0) L0 := Own.below (Own.below u0' hx2) hx3
  have u1 : Own x1.heap.size x3 (.slice q1 L1.length d1) L1 := Own.below o1 hx3
  have oo : Own3 w1.heap.size x3 (.slice q0 L0.length d0) (.slice q1 L1.length d1) (.slice q2 L2.length d2) L0 L1 L2 := Own3.mk' (B1 := x1.heap.size) (B2 := x2.heap.size) u0' o1 u0 u1 o2 (Nat.le_refl _) (Nat.le_refl _) s1' v2
  obtain ⟨ra, rb, rc, rd, re, rf⟩ := R3
  clear K1 K1d k1 k2 k3 y1 y2 y3 e0 e1 e2 hx1 hx2 hx3 R1 F1 o0 o1 o2 u0 u1 u0'
  go_wp2
  refine bodyPost_ret (v := .tuple #[diskV (.slice q0 L0.length d0) L0.length (.slice q1 L1.length d1) L1.length (.slice q2 L2.length d2) L2.length, .int .i64 0]) (by simp [results, Try.results23, go_sem, ra, rb, rc, rd, re, rf]) rfl ⟨q0, d0, q1, d1, q2, d2, rfl, ?_, ?_⟩
  · refine Own3.mono (B := w1.heap.size) ?_ (by omega)
    repeat (refine Own3.set ?_ (by simp; omega) _)
    exact oo
  · repeat (refine Below.setCell ?_ (by simp) _)
    exact bb
end Go.Proofs.Yteljknmkodllkaa
