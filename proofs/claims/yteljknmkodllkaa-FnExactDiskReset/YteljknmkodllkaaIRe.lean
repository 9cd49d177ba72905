import Derived.Test.YteljknmkodllkaaIBase
namespace Go.Proofs.Yteljknmkodllkaa
open Go.ChangeShapes Go.WideShapes Go.ChangeAt Go.RowKit
set_option linter.unusedVariables false
set_option linter.unusedSimpArgs false

set_option maxHeartbeats 1000000 in
theorem implResetBadA (p0 p1 p2 : Option Addr) (c0 c1 c2 : Nat) (n0 n1 n2 : Int) (l0 l1 l2 : List Int) (f : Int) (w : World) (h0 : Rd w (.slice p0 l0.length c0) l0) (h1 : Rd w (.slice p1 l1.length c1) l1) (h2 : Rd w (.slice p2 l2.length c2) l2) (hd : Hid (dok l0.length n0 l1.length n1 l2.length n2 = false)) (hs : l0.length ≤ 2097152) (hs1 : l1.length ≤ 2097152) (hs2 : l2.length ≤ 2097152) :
    Calls Try.prog 28 #[diskV (.slice p0 l0.length c0) n0 (.slice p1 l1.length c1) n1 (.slice p2 l2.length c2) n2, .int .i64 f] w (DiskRes w ([]) ([]) ([]) (0) (0) (0) 1) := by
  go_enter Try.func28, Try.ntmps28
  go_wp2_with fail
  refine (filesOf_any _ _ _ n0 n1 n2 p0 p1 p2 _ c0 _ c1 _ c2 rfl rfl rfl _).mono ?_
  rintro e w1 ⟨rfl, hb1⟩
  have b1 : Below w.heap.size w w1 := (((Below.refl _ _).alloc (Nat.le_refl _) _).alloc (by simp) _).trans (hb1.mono (by simp; omega))
  have z1 : w.heap.size + 1 < w1.heap.size := by have := hb1.size; simp at this; omega
  have R1 : At6 w1 (w.heap.size + 1) (.slice none 0 0) (.int .i64 0) (.slice none 0 0) (.int .i64 0) (.slice none 0 0) (.int .i64 0) := At6.below (by simp [At6]) hb1
  have F1 := frozen_below (b := w.heap.size + 1) (by intro o; simp) hb1 (by simp)
  clear hb1
  have e0 := h0.below b1
  have e1 := h1.below b1
  have e2 := h2.below b1
  clear h0 h1 h2
  go_wp2_with fail
  refine (filesValid_any p0 p1 p2 _ c0 _ c1 _ c2 n0 n1 n2 _ (by omega) (by omega) (by omega)).mono ?_
  rintro e w2 ⟨rfl, hb2⟩
  rw [unhide hd]
  have K2 : At6 w2 w1.heap.size (.slice p0 l0.length c0) (.int .i64 n0) (.slice p1 l1.length c1) (.int .i64 n1) (.slice p2 l2.length c2) (.int .i64 n2) := At6.below (by simp [At6]) hb2
  have G2 := frozen_below (b := w1.heap.size) (by intro o; simp) hb2 (by simp)
  have b2 : Below w1.heap.size w1 w2 := ((Below.refl _ _).alloc (Nat.le_refl _) _).trans (hb2.mono (by simp))
  have z2 : w1.heap.size < w2.heap.size := by have := hb2.size; simp at this; omega
  clear hb2
  have R2b := R1.below b2
  obtain ⟨ra, rb, rc, rd, re, rf⟩ := R2b
  have F6 := frozen_below F1 b2 z1
  have bb : Below w.heap.size w w2 := Below.step b1 b2
  clear R1 F1 K2 G2 b2 e0 e1 e2
  go_wp2
  refine bodyPost_ret (v := .tuple #[zDisk, .int .i64 1]) (by simp [results, Try.results28, go_sem, ra, rb, rc, rd, re, rf]) rfl ⟨none, 0, none, 0, none, 0, rfl, Own3.nil _ _, ?_⟩
  · repeat (refine Below.setCell ?_ (by simp) _)
    exact bb

set_option maxHeartbeats 1000000 in
theorem implResetBadB (p0 p1 p2 : Option Addr) (c0 c1 c2 : Nat) (n0 n1 n2 : Int) (l0 l1 l2 : List Int) (f : Int) (w : World) (h0 : Rd w (.slice p0 l0.length c0) l0) (h1 : Rd w (.slice p1 l1.length c1) l1) (h2 : Rd w (.slice p2 l2.length c2) l2) (hd : Hid (dok l0.length n0 l1.length n1 l2.length n2 = true)) (hf : isF f = false) (hs : l0.length ≤ 2097152) (hs1 : l1.length ≤ 2097152) (hs2 : l2.length ≤ 2097152) :
    Calls Try.prog 28 #[diskV (.slice p0 l0.length c0) n0 (.slice p1 l1.length c1) n1 (.slice p2 l2.length c2) n2, .int .i64 f] w (DiskRes w ([]) ([]) ([]) (0) (0) (0) 1) := by
  go_enter Try.func28, Try.ntmps28
  go_wp2_with fail
  refine (filesOf_any _ _ _ n0 n1 n2 p0 p1 p2 _ c0 _ c1 _ c2 rfl rfl rfl _).mono ?_
  rintro e w1 ⟨rfl, hb1⟩
  have b1 : Below w.heap.size w w1 := (((Below.refl _ _).alloc (Nat.le_refl _) _).alloc (by simp) _).trans (hb1.mono (by simp; omega))
  have z1 : w.heap.size + 1 < w1.heap.size := by have := hb1.size; simp at this; omega
  have R1 : At6 w1 (w.heap.size + 1) (.slice none 0 0) (.int .i64 0) (.slice none 0 0) (.int .i64 0) (.slice none 0 0) (.int .i64 0) := At6.below (by simp [At6]) hb1
  have F1 := frozen_below (b := w.heap.size + 1) (by intro o; simp) hb1 (by simp)
  clear hb1
  have e0 := h0.below b1
  have e1 := h1.below b1
  have e2 := h2.below b1
  clear h0 h1 h2
  go_wp2_with fail
  refine (filesValid_any p0 p1 p2 _ c0 _ c1 _ c2 n0 n1 n2 _ (by omega) (by omega) (by omega)).mono ?_
  rintro e w2 ⟨rfl, hb2⟩
  rw [unhide hd]
  have K2 : At6 w2 w1.heap.size (.slice p0 l0.length c0) (.int .i64 n0) (.slice p1 l1.length c1) (.int .i64 n1) (.slice p2 l2.length c2) (.int .i64 n2) := At6.below (by simp [At6]) hb2
  have G2 := frozen_below (b := w1.heap.size) (by intro o; simp) hb2 (by simp)
  have b2 : Below w1.heap.size w1 w2 := ((Below.refl _ _).alloc (Nat.le_refl _) _).trans (hb2.mono (by simp))
  have z2 : w1.heap.size < w2.heap.size := by have := hb2.size; simp at this; omega
  clear hb2
  go_wp2_with fail
  refine (has_any p0 p1 p2 _ c0 _ c1 _ c2 n0 n1 n2 f _).mono ?_
  rintro e w3 ⟨rfl, hb3⟩
  rw [hf]
  have K3 := K2.below hb3
  have G3 := frozen_below G2 hb3 z2
  have b3 : Below w1.heap.size w1 w3 := Below.step b2 hb3
  have z3 : w1.heap.size < w3.heap.size := by have := hb3.size; omega
  clear hb3 K2 G2 b2 hf
  have R3b := R1.below b3
  obtain ⟨ra, rb, rc, rd, re, rf⟩ := R3b
  have F6 := frozen_below F1 b3 z1
  have bb : Below w.heap.size w w3 := Below.step b1 b3
  clear R1 F1 K3 G3 b3 e0 e1 e2
  go_wp2
  refine bodyPost_ret (v := .tuple #[zDisk, .int .i64 1]) (by simp [results, Try.results28, go_sem, ra, rb, rc, rd, re, rf]) rfl ⟨none, 0, none, 0, none, 0, rfl, Own3.nil _ _, ?_⟩
  · repeat (refine Below.setCell ?_ (by simp) _)
    exact bb

set_option maxHeartbeats 1000000 in
theorem implReset0 (p0 p1 p2 : Option Addr) (c0 c1 c2 : Nat) (n0 n1 n2 : Int) (l0 l1 l2 : List Int) (w : World) (h0 : Rd w (.slice p0 l0.length c0) l0) (h1 : Rd w (.slice p1 l1.length c1) l1) (h2 : Rd w (.slice p2 l2.length c2) l2) (hd : Hid (dok l0.length n0 l1.length n1 l2.length n2 = true)) (hs : l0.length ≤ 200000) (hs1 : l1.length ≤ 200000) (hs2 : l2.length ≤ 200000) :
    Calls Try.prog 28 #[diskV (.slice p0 l0.length c0) n0 (.slice p1 l1.length c1) n1 (.slice p2 l2.length c2) n2, .int .i64 0] w (DiskRes w (([] : List Int)) (l1) (l2) (0) (n1) (n2) 0) := by
  go_enter Try.func28, Try.ntmps28
  go_wp2_with fail
  refine (filesOf_any _ _ _ n0 n1 n2 p0 p1 p2 _ c0 _ c1 _ c2 rfl rfl rfl _).mono ?_
  rintro e w1 ⟨rfl, hb1⟩
  have b1 : Below w.heap.size w w1 := (((Below.refl _ _).alloc (Nat.le_refl _) _).alloc (by simp) _).trans (hb1.mono (by simp; omega))
  have z1 : w.heap.size + 1 < w1.heap.size := by have := hb1.size; simp at this; omega
  have R1 : At6 w1 (w.heap.size + 1) (.slice none 0 0) (.int .i64 0) (.slice none 0 0) (.int .i64 0) (.slice none 0 0) (.int .i64 0) := At6.below (by simp [At6]) hb1
  have F1 := frozen_below (b := w.heap.size + 1) (by intro o; simp) hb1 (by simp)
  clear hb1
  have e0 := h0.below b1
  have e1 := h1.below b1
  have e2 := h2.below b1
  clear h0 h1 h2
  go_wp2_with fail
  refine (filesValid_any p0 p1 p2 _ c0 _ c1 _ c2 n0 n1 n2 _ (by omega) (by omega) (by omega)).mono ?_
  rintro e w2 ⟨rfl, hb2⟩
  rw [unhide hd]
  have K2 : At6 w2 w1.heap.size (.slice p0 l0.length c0) (.int .i64 n0) (.slice p1 l1.length c1) (.int .i64 n1) (.slice p2 l2.length c2) (.int .i64 n2) := At6.below (by simp [At6]) hb2
  have G2 := frozen_below (b := w1.heap.size) (by intro o; simp) hb2 (by simp)
  have b2 : Below w1.heap.size w1 w2 := ((Below.refl _ _).alloc (Nat.le_refl _) _).trans (hb2.mono (by simp))
  have z2 : w1.heap.size < w2.heap.size := by have := hb2.size; simp at this; omega
  clear hb2
  go_wp2_with fail
  refine (has_any p0 p1 p2 _ c0 _ c1 _ c2 n0 n1 n2 0 _).mono ?_
  rintro e w3 ⟨rfl, hb3⟩
  rw [isF_yes (by omega) (by omega)]
  have K3 := K2.below hb3
  have G3 := frozen_below G2 hb3 z2
  have b3 : Below w1.heap.size w1 w3 := Below.step b2 hb3
  have z3 : w1.heap.size < w3.heap.size := by have := hb3.size; omega
  clear hb3 K2 G2 b2
  go_wp2_with fail
  have b5 := ((b3.setCell (p := ⟨w1.heap.size, 0, none⟩) (Nat.le_refl _) (.slice none 0 0)).setCell (p := ⟨w1.heap.size, 1, none⟩) (Nat.le_refl _) (.int .i64 0))
  have R5 := R1.below b5
  have F5 := frozen_below F1 b5 z1
  refine (filesDisk_any none p1 p2 0 c1 c2 0 n1 n2 ([] : List Int) l1 l2 _ (Rd.nil _) (e1.below b5) (e2.below b5) (by first | omega | simp) (by first | omega | simp) (by first | omega | simp)).mono ?_
  rintro e w6 ⟨q0, d0, q1, d1, q2, d2, rfl, o6, hb6⟩
  have b6 := Below.step b5 hb6
  have bb : Below w.heap.size w w6 := Below.step b1 b6
  obtain ⟨ra, rb, rc, rd, re, rf⟩ := R5.below hb6
  have F6 := frozen_below F5 hb6 (by first | omega | (simp; omega))
  have oo : Own3 w3.heap.size w6 (.slice q0 (([] : List Int)).length d0) (.slice q1 (l1).length d1) (.slice q2 (l2).length d2) (([] : List Int)) (l1) (l2) := by simpa using o6
  clear R1 R5 F1 F5 K3 G3 b3 b5 b6 e0 e1 e2 hb6 o6 
  go_wp2
  refine bodyPost_ret (v := .tuple #[diskV (.slice q0 (([] : List Int)).length d0) (0) (.slice q1 (l1).length d1) (n1) (.slice q2 (l2).length d2) (n2), .int .i64 0]) (by simp [results, Try.results28, go_sem, ra, rb, rc, rd, re, rf]) rfl ⟨q0, d0, q1, d1, q2, d2, rfl, ?_, ?_⟩
  · refine Own3.mono (B := w3.heap.size) ?_ (by have := b1.size; omega)
    repeat (refine Own3.set ?_ (by simp; omega) _)
    exact oo
  · repeat (refine Below.setCell ?_ (by simp) _)
    exact bb

set_option maxHeartbeats 1000000 in
theorem implReset1 (p0 p1 p2 : Option Addr) (c0 c1 c2 : Nat) (n0 n1 n2 : Int) (l0 l1 l2 : List Int) (w : World) (h0 : Rd w (.slice p0 l0.length c0) l0) (h1 : Rd w (.slice p1 l1.length c1) l1) (h2 : Rd w (.slice p2 l2.length c2) l2) (hd : Hid (dok l0.length n0 l1.length n1 l2.length n2 = true)) (hs : l0.length ≤ 200000) (hs1 : l1.length ≤ 200000) (hs2 : l2.length ≤ 200000) :
    Calls Try.prog 28 #[diskV (.slice p0 l0.length c0) n0 (.slice p1 l1.length c1) n1 (.slice p2 l2.length c2) n2, .int .i64 1] w (DiskRes w (l0) (([] : List Int)) (l2) (n0) (0) (n2) 0) := by
  go_enter Try.func28, Try.ntmps28
  go_wp2_with fail
  refine (filesOf_any _ _ _ n0 n1 n2 p0 p1 p2 _ c0 _ c1 _ c2 rfl rfl rfl _).mono ?_
  rintro e w1 ⟨rfl, hb1⟩
  have b1 : Below w.heap.size w w1 := (((Below.refl _ _).alloc (Nat.le_refl _) _).alloc (by simp) _).trans (hb1.mono (by simp; omega))
  have z1 : w.heap.size + 1 < w1.heap.size := by have := hb1.size; simp at this; omega
  have R1 : At6 w1 (w.heap.size + 1) (.slice none 0 0) (.int .i64 0) (.slice none 0 0) (.int .i64 0) (.slice none 0 0) (.int .i64 0) := At6.below (by simp [At6]) hb1
  have F1 := frozen_below (b := w.heap.size + 1) (by intro o; simp) hb1 (by simp)
  clear hb1
  have e0 := h0.below b1
  have e1 := h1.below b1
  have e2 := h2.below b1
  clear h0 h1 h2
  go_wp2_with fail
  refine (filesValid_any p0 p1 p2 _ c0 _ c1 _ c2 n0 n1 n2 _ (by omega) (by omega) (by omega)).mono ?_
  rintro e w2 ⟨rfl, hb2⟩
  rw [unhide hd]
  have K2 : At6 w2 w1.heap.size (.slice p0 l0.length c0) (.int .i64 n0) (.slice p1 l1.length c1) (.int .i64 n1) (.slice p2 l2.length c2) (.int .i64 n2) := At6.below (by simp [At6]) hb2
  have G2 := frozen_below (b := w1.heap.size) (by intro o; simp) hb2 (by simp)
  have b2 : Below w1.heap.size w1 w2 := ((Below.refl _ _).alloc (Nat.le_refl _) _).trans (hb2.mono (by simp))
  have z2 : w1.heap.size < w2.heap.size := by have := hb2.size; simp at this; omega
  clear hb2
  go_wp2_with fail
  refine (has_any p0 p1 p2 _ c0 _ c1 _ c2 n0 n1 n2 1 _).mono ?_
  rintro e w3 ⟨rfl, hb3⟩
  rw [isF_yes (by omega) (by omega)]
  have K3 := K2.below hb3
  have G3 := frozen_below G2 hb3 z2
  have b3 : Below w1.heap.size w1 w3 := Below.step b2 hb3
  have z3 : w1.heap.size < w3.heap.size := by have := hb3.size; omega
  clear hb3 K2 G2 b2
  go_wp2_with fail
  have b5 := ((b3.setCell (p := ⟨w1.heap.size, 2, none⟩) (Nat.le_refl _) (.slice none 0 0)).setCell (p := ⟨w1.heap.size, 3, none⟩) (Nat.le_refl _) (.int .i64 0))
  have R5 := R1.below b5
  have F5 := frozen_below F1 b5 z1
  refine (filesDisk_any p0 none p2 c0 0 c2 n0 0 n2 l0 ([] : List Int) l2 _ (e0.below b5) (Rd.nil _) (e2.below b5) (by first | omega | simp) (by first | omega | simp) (by first | omega | simp)).mono ?_
  rintro e w6 ⟨q0, d0, q1, d1, q2, d2, rfl, o6, hb6⟩
  have b6 := Below.step b5 hb6
  have bb : Below w.heap.size w w6 := Below.step b1 b6
  obtain ⟨ra, rb, rc, rd, re, rf⟩ := R5.below hb6
  have F6 := frozen_below F5 hb6 (by first | omega | (simp; omega))
  have oo : Own3 w3.heap.size w6 (.slice q0 (l0).length d0) (.slice q1 (([] : List Int)).length d1) (.slice q2 (l2).length d2) (l0) (([] : List Int)) (l2) := by simpa using o6
  clear R1 R5 F1 F5 K3 G3 b3 b5 b6 e0 e1 e2 hb6 o6 
  go_wp2
  refine bodyPost_ret (v := .tuple #[diskV (.slice q0 (l0).length d0) (n0) (.slice q1 (([] : List Int)).length d1) (0) (.slice q2 (l2).length d2) (n2), .int .i64 0]) (by simp [results, Try.results28, go_sem, ra, rb, rc, rd, re, rf]) rfl ⟨q0, d0, q1, d1, q2, d2, rfl, ?_, ?_⟩
  · refine Own3.mono (B := w3.heap.size) ?_ (by have := b1.size; omega)
    repeat (refine Own3.set ?_ (by simp; omega) _)
    exact oo
  · repeat (refine Below.setCell ?_ (by simp) _)
    exact bb

set_option maxHeartbeats 1000000 in
theorem implReset2 (p0 p1 p2 : Option Addr) (c0 c1 c2 : Nat) (n0 n1 n2 : Int) (l0 l1 l2 : List Int) (w : World) (h0 : Rd w (.slice p0 l0.length c0) l0) (h1 : Rd w (.slice p1 l1.length c1) l1) (h2 : Rd w (.slice p2 l2.length c2) l2) (hd : Hid (dok l0.length n0 l1.length n1 l2.length n2 = true)) (hs : l0.length ≤ 200000) (hs1 : l1.length ≤ 200000) (hs2 : l2.length ≤ 200000) :
    Calls Try.prog 28 #[diskV (.slice p0 l0.length c0) n0 (.slice p1 l1.length c1) n1 (.slice p2 l2.length c2) n2, .int .i64 2] w (DiskRes w (l0) (l1) (([] : List Int)) (n0) (n1) (0) 0) := by
  go_enter Try.func28, Try.ntmps28
  go_wp2_with fail
  refine (filesOf_any _ _ _ n0 n1 n2 p0 p1 p2 _ c0 _ c1 _ c2 rfl rfl rfl _).mono ?_
  rintro e w1 ⟨rfl, hb1⟩
  have b1 : Below w.heap.size w w1 := (((Below.refl _ _).alloc (Nat.le_refl _) _).alloc (by simp) _).trans (hb1.mono (by simp; omega))
  have z1 : w.heap.size + 1 < w1.heap.size := by have := hb1.size; simp at this; omega
  have R1 : At6 w1 (w.heap.size + 1) (.slice none 0 0) (.int .i64 0) (.slice none 0 0) (.int .i64 0) (.slice none 0 0) (.int .i64 0) := At6.below (by simp [At6]) hb1
  have F1 := frozen_below (b := w.heap.size + 1) (by intro o; simp) hb1 (by simp)
  clear hb1
  have e0 := h0.below b1
  have e1 := h1.below b1
  have e2 := h2.below b1
  clear h0 h1 h2
  go_wp2_with fail
  refine (filesValid_any p0 p1 p2 _ c0 _ c1 _ c2 n0 n1 n2 _ (by omega) (by omega) (by omega)).mono ?_
  rintro e w2 ⟨rfl, hb2⟩
  rw [unhide hd]
  have K2 : At6 w2 w1.heap.size (.slice p0 l0.length c0) (.int .i64 n0) (.slice p1 l1.length c1) (.int .i64 n1) (.slice p2 l2.length c2) (.int .i64 n2) := At6.below (by simp [At6]) hb2
  have G2 := frozen_below (b := w1.heap.size) (by intro o; simp) hb2 (by simp)
  have b2 : Below w1.heap.size w1 w2 := ((Below.refl _ _).alloc (Nat.le_refl _) _).trans (hb2.mono (by simp))
  have z2 : w1.heap.size < w2.heap.size := by have := hb2.size; simp at this; omega
  clear hb2
  go_wp2_with fail
  refine (has_any p0 p1 p2 _ c0 _ c1 _ c2 n0 n1 n2 2 _).mono ?_
  rintro e w3 ⟨rfl, hb3⟩
  rw [isF_yes (by omega) (by omega)]
  have K3 := K2.below hb3
  have G3 := frozen_below G2 hb3 z2
  have b3 : Below w1.heap.size w1 w3 := Below.step b2 hb3
  have z3 : w1.heap.size < w3.heap.size := by have := hb3.size; omega
  clear hb3 K2 G2 b2
  go_wp2_with fail
  have b5 := ((b3.setCell (p := ⟨w1.heap.size, 4, none⟩) (Nat.le_refl _) (.slice none 0 0)).setCell (p := ⟨w1.heap.size, 5, none⟩) (Nat.le_refl _) (.int .i64 0))
  have R5 := R1.below b5
  have F5 := frozen_below F1 b5 z1
  refine (filesDisk_any p0 p1 none c0 c1 0 n0 n1 0 l0 l1 ([] : List Int) _ (e0.below b5) (e1.below b5) (Rd.nil _) (by first | omega | simp) (by first | omega | simp) (by first | omega | simp)).mono ?_
  rintro e w6 ⟨q0, d0, q1, d1, q2, d2, rfl, o6, hb6⟩
  have b6 := Below.step b5 hb6
  have bb : Below w.heap.size w w6 := Below.step b1 b6
  obtain ⟨ra, rb, rc, rd, re, rf⟩ := R5.below hb6
  have F6 := frozen_below F5 hb6 (by first | omega | (simp; omega))
  have oo : Own3 w3.heap.size w6 (.slice q0 (l0).length d0) (.slice q1 (l1).length d1) (.slice q2 (([] : List Int)).length d2) (l0) (l1) (([] : List Int)) := by simpa using o6
  clear R1 R5 F1 F5 K3 G3 b3 b5 b6 e0 e1 e2 hb6 o6 
  go_wp2
  refine bodyPost_ret (v := .tuple #[diskV (.slice q0 (l0).length d0) (n0) (.slice q1 (l1).length d1) (n1) (.slice q2 (([] : List Int)).length d2) (0), .int .i64 0]) (by simp [results, Try.results28, go_sem, ra, rb, rc, rd, re, rf]) rfl ⟨q0, d0, q1, d1, q2, d2, rfl, ?_, ?_⟩
  · refine Own3.mono (B := w3.heap.size) ?_ (by have := b1.size; omega)
    repeat (refine Own3.set ?_ (by simp; omega) _)
    exact oo
  · repeat (refine Below.setCell ?_ (by simp) _)
    exact bb
end Go.Proofs.Yteljknmkodllkaa
