import Derived.Test.YteljknmkodllkaaLBase
import Derived.Test.YteljknmkodllkaaEqD
import Derived.Deep.RegionHeld3
namespace Go.Proofs.Yteljknmkodllkaa
open Go.ChangeShapes Go.WideShapes Go.ChangeAt Go.RowKit
set_option linter.unusedVariables false
set_option linter.unusedSimpArgs false

set_option maxHeartbeats 4000000 in
theorem lawDiskCrash_small (p0 p1 p2 : Option Addr) (c0 c1 c2 : Nat) (n0 n1 n2 : Int) (l0 l1 l2 : List Int) (f : Int) (L0 L1 L2 : List Int) (N0 N1 N2 code : Int) (w : World) (h0 : Rd w (.slice p0 l0.length c0) l0) (h1 : Rd w (.slice p1 l1.length c1) l1) (h2 : Rd w (.slice p2 l2.length c2) l2)
    (hl : l0.length + l1.length + l2.length ≤ 1048576) (m0 : L0.length ≤ 1048576) (m1 : L1.length ≤ 1048576) (m2 : L2.length ≤ 1048576)
    (hS : Hid (∀ (q0 q1 q2 : Option Addr) (d0 d1 d2 : Nat) (w : World), l0.length ≤ d0 → l1.length ≤ d1 → l2.length ≤ d2 → Rd w (.slice q0 l0.length d0) l0 → Rd w (.slice q1 l1.length d1) l1 → Rd w (.slice q2 l2.length d2) l2 → Calls Try.prog 23 #[diskV (.slice q0 l0.length d0) n0 (.slice q1 l1.length d1) n1 (.slice q2 l2.length d2) n2, .int .i64 f] w (DiskRes w L0 L1 L2 N0 N1 N2 code)))
    (hI : Hid (∀ (q0 q1 q2 : Option Addr) (d0 d1 d2 : Nat) (w : World), l0.length ≤ d0 → l1.length ≤ d1 → l2.length ≤ d2 → Rd w (.slice q0 l0.length d0) l0 → Rd w (.slice q1 l1.length d1) l1 → Rd w (.slice q2 l2.length d2) l2 → Calls Try.prog 19 #[diskV (.slice q0 l0.length d0) n0 (.slice q1 l1.length d1) n1 (.slice q2 l2.length d2) n2, .int .i64 f] w (DiskRes w L0 L1 L2 N0 N1 N2 code))) :
    Calls Try.prog 5 #[diskV (.slice p0 l0.length c0) n0 (.slice p1 l1.length c1) n1 (.slice p2 l2.length c2) n2, .int .i64 f] w fun e w' => e = .returned (.bool true) ∧ Below w.heap.size w w' := by
  have b0 : ∀ o : Obj, Below w.heap.size w (w.alloc o) := fun o => (Below.refl _ _).alloc (Nat.le_refl _) _
  have ba : ∀ (x : World) (o : Obj), Below x.heap.size x (x.alloc o) := fun x o => (Below.refl _ _).alloc (Nat.le_refl _) _
  have hne : (code != code) = false := by simp
  go_enter Try.func5, Try.ntmps5
  go_wp2_with fail
  refine (szDisk_yes p0 p1 p2 _ c0 _ c1 _ c2 n0 n1 n2 _ hl).mono ?_
  rintro e w1 ⟨rfl, hb1⟩
  have A1 : At6 w1 w.heap.size (.slice p0 l0.length c0) (.int .i64 n0) (.slice p1 l1.length c1) (.int .i64 n1) (.slice p2 l2.length c2) (.int .i64 n2) := At6.below (by simp [At6]) hb1
  have b1 : Below w.heap.size w w1 := (b0 _).trans (hb1.mono (by simp))
  have z1 : w.heap.size < w1.heap.size := by have := hb1.size; simp at this; omega
  clear hb1
  go_wp2_with fail
  refine (toDisk_any p0 p1 p2 c0 c1 c2 n0 n1 n2 l0 l1 l2 _ (h0.below b1) (h1.below b1) (h2.below b1) hl).mono ?_
  rintro e w2 ⟨q0, d0, q1, d1, q2, d2, rfl, o, hb2⟩
  have A2 := A1.below hb2
  have b2 := Below.step b1 hb2
  have z2 : w.heap.size < w2.heap.size := by have := hb2.size; omega
  clear hb2 A1 b1
  go_wp2_with fail
  refine (unhide hS q0 q1 q2 d0 d1 d2 _ o.o0.cap o.o1.cap o.o2.cap o.o0.rd o.o1.rd o.o2.rd).mono ?_
  rintro e w3 ⟨s0, u0, s1, u1, s2, u2, rfl, OS, hb3⟩
  have A3 := A2.below hb3
  have b3 := Below.step b2 hb3
  have z3 : w.heap.size < w3.heap.size := by have := hb3.size; omega
  have WS := OS.within
  clear hb3 A2 b2 o
  go_wp2_with fail
  refine (toDisk_any p0 p1 p2 c0 c1 c2 n0 n1 n2 l0 l1 l2 _ (h0.below (Below.step b3 (ba _ _))) (h1.below (Below.step b3 (ba _ _))) (h2.below (Below.step b3 (ba _ _))) hl).mono ?_
  rintro e w4 ⟨x0, y0, x1, y1, x2, y2, rfl, OX, hb4⟩
  have C4 : At6 w4 w3.heap.size (.slice s0 L0.length u0) (.int .i64 N0) (.slice s1 L1.length u1) (.int .i64 N1) (.slice s2 L2.length u2) (.int .i64 N2) := At6.below (by simp [At6]) hb4
  have hc4 : Below w3.heap.size w3 w4 := Below.step (ba _ _) hb4
  have A4 := A3.below hc4
  have b4 := Below.step b3 hc4
  have OS4 := OS.below hc4
  have z4 : w3.heap.size < w4.heap.size := by have := hb4.size; simp at this; omega
  have z4' : w.heap.size < w4.heap.size := by omega
  replace OX : Own3 (w3.heap.size + 1) w4 (.slice x0 l0.length y0) (.slice x1 l1.length y1) (.slice x2 l2.length y2) l0 l1 l2 := OX.mono (by simp)
  have WX := OX.within
  clear hb4 hc4 A3 b3 OS
  go_wp2_with fail
  refine (unhide hI x0 x1 x2 y0 y1 y2 _ OX.o0.cap OX.o1.cap OX.o2.cap (OX.o0.rd.below (ba _ _)) (OX.o1.rd.below (ba _ _)) (OX.o2.rd.below (ba _ _))).mono ?_
  rintro e w5 ⟨g0, v0, g1, v1, g2, v2, rfl, OG, hb5⟩
  have D5 : At6 w5 w4.heap.size (.slice x0 l0.length y0) (.int .i64 n0) (.slice x1 l1.length y1) (.int .i64 n1) (.slice x2 l2.length y2) (.int .i64 n2) := At6.below (by simp [At6]) hb5
  have hc5 : Below w4.heap.size w4 w5 := Below.step (ba _ _) hb5
  have A5 := A4.below hc5
  have C5 := C4.below hc5
  have b5 := Below.step b4 hc5
  have OS5 := OS4.below hc5
  have OX5 := OX.below hc5
  have z5 : w4.heap.size < w5.heap.size := by have := hb5.size; simp at this; omega
  have z5' : w.heap.size < w5.heap.size := by omega
  have z5'' : w3.heap.size < w5.heap.size := by omega
  replace OG : Own3 w4.heap.size w5 (.slice g0 L0.length v0) (.slice g1 L1.length v1) (.slice g2 L2.length v2) L0 L1 L2 := OG.mono (by simp)
  have WG := OG.within
  clear hb5 hc5 A4 C4 b4 OS4 OX
  go_wp2_with fail
  refine (eqDisk_same g0 g1 g2 s0 s1 s2 v0 v1 v2 u0 u1 u2 N0 N1 N2 L0 L1 L2 _ (OG.o0.rd.below (ba _ _)) (OG.o1.rd.below (ba _ _)) (OG.o2.rd.below (ba _ _)) (OS5.o0.rd.below (ba _ _)) (OS5.o1.rd.below (ba _ _)) (OS5.o2.rd.below (ba _ _)) (by omega) (by omega) (by omega)).mono ?_
  rintro e w6 ⟨rfl, hb6⟩
  have E6 : At6 w6 w5.heap.size (.slice g0 L0.length v0) (.int .i64 N0) (.slice g1 L1.length v1) (.int .i64 N1) (.slice g2 L2.length v2) (.int .i64 N2) := At6.below (by simp [At6]) hb6
  have hc6 : Below w5.heap.size w5 w6 := Below.step (ba _ _) hb6
  have A6 := A5.below hc6
  have C6 := C5.below hc6
  have D6 := D5.below hc6
  have b6 := Below.step b5 hc6
  have OS6 := OS5.below hc6
  have OX6 := OX5.below hc6
  have OG6 := OG.below hc6
  have z6 : w5.heap.size < w6.heap.size := by have := hb6.size; simp at this; omega
  clear hb6 hc6 A5 C5 D5 b5 OS5 OX5 OG
  go_wp2_with fail
  go_region_held3 (fun w' => At6 w' w.heap.size (.slice p0 l0.length c0) (.int .i64 n0) (.slice p1 l1.length c1) (.int .i64 n1) (.slice p2 l2.length c2) (.int .i64 n2) ∧ At6 w' w4.heap.size (.slice x0 l0.length y0) (.int .i64 n0) (.slice x1 l1.length y1) (.int .i64 n1) (.slice x2 l2.length y2) (.int .i64 n2)) (first | exact ⟨A6, D6⟩ | exact ⟨A7, D7⟩ | exact ⟨A8, D8⟩)
    (first | (go_at_call 12; refine (toDisk_any p0 p1 p2 c0 c1 c2 n0 n1 n2 l0 l1 l2 _ (by exact h0.below b6.drew) (by exact h1.below b6.drew) (by exact h2.below b6.drew) hl).mono ?_; rintro e w7 ⟨r0, t0, r1, t1, r2, t2, rfl, o7, hb7⟩; have hc7 := Below.step (Below.refl w6.heap.size w6).drew hb7; have A7 := A6.below hc7; have D7 := D6.below hc7) | (go_at_call 14; refine (eqDisk_same x0 x1 x2 r0 r1 r2 y0 y1 y2 t0 t1 t2 n0 n1 n2 l0 l1 l2 _ (by exact (OX6.o0.rd.below hc7)) (by exact (OX6.o1.rd.below hc7)) (by exact (OX6.o2.rd.below hc7)) (by exact o7.o0.rd) (by exact o7.o1.rd) (by exact o7.o2.rd) (by omega) (by omega) (by omega)).mono ?_; rintro e w8 ⟨rfl, hb8⟩; have hc8 := Below.step hc7 hb8; have A8 := A6.below hc8; have D8 := D6.below hc8))
  have C8 := C6.below hc8
  have E8 := E6.below hc8
  have b8 := Below.step b6 hc8
  have OS8 := OS6.below hc8
  have OX8 := OX6.below hc8
  have OG8 := OG6.below hc8
  have z8 : w6.heap.size ≤ w8.heap.size := hc8.size
  clear hb7 hb8 hc7 hc8 A6 A7 C6 D6 D7 E6 b6 OS6 OX6 OG6 o7
  go_wp2_with fail
  refine (markDisk_any _ x0 x1 x2 y0 y1 y2 n0 n1 n2 l0 l1 l2 1 _ OX8 (by omega) (by omega) (by omega) (by omega) (by omega)).mono ?_
  rintro e w9 ⟨rfl, OX9, hk9⟩
  have A9 := A8.kept hk9 (by omega) (WX.notAt (by omega))
  have C9 := C8.kept hk9 (by omega) (WX.notAt (by omega))
  have E9 := E8.kept hk9 (by omega) (WX.notAt (by omega))
  have OS9 := OS8.apart hk9 WX WS (by omega)
  have OG9 := OG8.apart hk9 WX WG (by omega)
  have b9 : Below w.heap.size w w9 := b8.trans (hk9.below b8.size (fun v hv b e => by have := WX v hv b e; omega))
  have z9 : w8.heap.size ≤ w9.heap.size := hk9.size
  clear hk9 A8 C8 D8 E8 b8 OS8 OX8 OG8 OX9
  go_wp2_with fail
  refine (eqDisk_same g0 g1 g2 s0 s1 s2 v0 v1 v2 u0 u1 u2 N0 N1 N2 L0 L1 L2 _ OG9.o0.rd OG9.o1.rd OG9.o2.rd OS9.o0.rd OS9.o1.rd OS9.o2.rd (by omega) (by omega) (by omega)).mono ?_
  rintro e w10 ⟨rfl, hb10⟩
  have A10 := A9.below hb10
  have C10 := C9.below hb10
  have E10 := E9.below hb10
  have OS10 := OS9.below hb10
  have OG10 := OG9.below hb10
  have b10 := Below.step b9 hb10
  have z10 : w9.heap.size ≤ w10.heap.size := hb10.size
  clear hb10 A9 C9 E9 OS9 OG9 b9
  go_wp2_with fail
  refine (markDisk_any _ g0 g1 g2 v0 v1 v2 N0 N1 N2 L0 L1 L2 1 _ OG10 (by omega) (by omega) (by omega) (by omega) (by omega)).mono ?_
  rintro e w11 ⟨rfl, OG11, hk11⟩
  have A11 := A10.kept hk11 (by omega) (WG.notAt (by omega))
  have C11 := C10.kept hk11 (by omega) (WG.notAt (by omega))
  have E11 := E10.kept hk11 (by omega) (WG.notAt (by omega))
  have OS11 := OS10.apart hk11 WG WS (by omega)
  have b11 : Below w.heap.size w w11 := b10.trans (hk11.below b10.size (fun v hv b e => by have := WG v hv b e; omega))
  have z11 : w10.heap.size ≤ w11.heap.size := hk11.size
  clear hk11 A10 C10 E10 OS10 OG10 b10
  go_wp2_with fail
  refine (heldDisk_any g0 g1 g2 v0 v1 v2 _ _ _ N0 N1 N2 1 _ OG11.o0.rd OG11.o1.rd OG11.o2.rd (by omega) (by omega) (by omega) (by omega) (by omega)).mono ?_
  rintro e w12 ⟨rfl, hb12⟩
  have A12 := A11.below hb12
  have C12 := C11.below hb12
  have OS12 := OS11.below hb12
  have b12 := Below.step b11 hb12
  have z12 : w11.heap.size ≤ w12.heap.size := hb12.size
  have hne2 : ((1 : Int) + L0.length + L1.length + L2.length != 1 + L0.length + L1.length + L2.length) = false := by simp
  clear hb12 A11 C11 E11 OS11 OG11 b11
  go_wp2_with fail
  refine (toDisk_any p0 p1 p2 c0 c1 c2 n0 n1 n2 l0 l1 l2 _ (h0.below b12) (h1.below b12) (h2.below b12) hl).mono ?_
  rintro e w13 ⟨i0, j0, i1, j1, i2, j2, rfl, o13, hb13⟩
  have C13 := C12.below hb13
  have OS13 := OS12.below hb13
  have b13 := Below.step b12 hb13
  have z13 : w12.heap.size ≤ w13.heap.size := hb13.size
  clear hb13 A12 C12 OS12 b12
  go_wp2_with fail
  refine (unhide hI i0 i1 i2 j0 j1 j2 _ o13.o0.cap o13.o1.cap o13.o2.cap o13.o0.rd o13.o1.rd o13.o2.rd).mono ?_
  rintro e w14 ⟨k0, a0, k1, a1, k2, a2, rfl, OH, hb14⟩
  have C14 := C13.below hb14
  have OS14 := OS13.below hb14
  have b14 := Below.step b13 hb14
  have z14 : w13.heap.size ≤ w14.heap.size := hb14.size
  have z14' : w3.heap.size < w14.heap.size := by omega
  clear hb14 C13 OS13 b13 o13
  go_wp2_with fail
  refine (eqDisk_same k0 k1 k2 s0 s1 s2 a0 a1 a2 u0 u1 u2 N0 N1 N2 L0 L1 L2 _ (OH.o0.rd.below (ba _ _)) (OH.o1.rd.below (ba _ _)) (OH.o2.rd.below (ba _ _)) (OS14.o0.rd.below (ba _ _)) (OS14.o1.rd.below (ba _ _)) (OS14.o2.rd.below (ba _ _)) (by omega) (by omega) (by omega)).mono ?_
  rintro e w15 ⟨rfl, hb15⟩
  have b15 := Below.step b14 (Below.step (ba _ _) hb15)
  clear hb15 C14 OS14 OH b14
  go_wp2
  go_ret
  exact ⟨rfl, b15⟩
end Go.Proofs.Yteljknmkodllkaa
