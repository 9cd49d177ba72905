import Derived.Test.YtnakmagpgffhlaaJRec
import Derived.Test.YtnakmagpgffhlaaJER
namespace Go.Proofs.Ytnakmagpgffhlaa
open Go.ChangeShapes Go.WideShapes Go.ChangeAt Go.RowKit
set_option linter.unusedVariables false
set_option linter.unusedSimpArgs false

set_option maxHeartbeats 2000000 in
theorem lawEncRec_small (s : Int) (p : Option Addr) (c n N : Nat) (l R : List Int) (w : World) (h : Rd w (.slice p n c) l) (en : Hid (l.length = n)) (eN : Hid (R.length = N)) (hl : n ≤ 1048576) (hN : N ≤ 1048600)
    (spec : Hid (∀ (q : Option Addr) (d : Nat) (w : World), Rd w (.slice q n d) l → Calls Try.prog 20 #[recV s (.slice q n d)] w fun e w' => ∃ p' c', e = .returned (.slice p' N c') ∧ Own w.heap.size w' (.slice p' N c') R ∧ Below w.heap.size w w'))
    (impl : Hid (∀ (q : Option Addr) (d : Nat) (w : World), Rd w (.slice q n d) l → Calls Try.prog 22 #[recV s (.slice q n d)] w fun e w' => ∃ p' c', e = .returned (.slice p' N c') ∧ Own w.heap.size w' (.slice p' N c') R ∧ Below w.heap.size w w')) :
    Calls Try.prog 6 #[recV s (.slice p n c)] w fun e w' => e = .returned (.bool true) ∧ Below w.heap.size w w' := by
  have b0 : ∀ o : Obj, Below w.heap.size w (w.alloc o) := fun o => (Below.refl _ _).alloc (Nat.le_refl _) _
  have ba : ∀ (x : World) (o : Obj), Below x.heap.size x (x.alloc o) := fun x o => (Below.refl _ _).alloc (Nat.le_refl _) _
  go_enter Try.func6, Try.ntmps6
  go_wp2_with fail
  refine (szRecord_any s p n c 1048576 _ (by unfold maxLen; omega) (by omega) (by omega)).mono ?_
  rintro e w0 ⟨rfl, hb0⟩
  have A0 : At2 w0 w.heap.size (.int .u64 s) (.slice p n c) := At2.below (by simp [At2]) hb0
  have b00 : Below w.heap.size w w0 := Below.step (b0 _) hb0
  have z0 : w.heap.size < w0.heap.size := by have := hb0.size; simp at this; omega
  rw [szLeft_yes (by omega)]
  clear hb0
  go_wp2_with fail
  refine (toRecord_n s p c n l en _ (h.below b00) hl).mono ?_
  rintro e w1 ⟨p1, c1, rfl, o1, hb1⟩
  have b1 := Below.step b00 hb1
  have A1 := A0.below hb1
  have z1 := hb1.size
  clear hb1 A0 b00
  go_wp2_with fail
  refine (unhide spec p1 c1 _ o1.rd).mono ?_
  rintro e w2 ⟨p2, c2, rfl, o2, hb2⟩
  have b2 := Below.step b1 hb2
  have t2 := o2.btw
  have z2 := hb2.size
  have r2 := o2.rd
  have A2 := A1.below hb2
  clear o1 b1 hb2 o2 A1
  go_wp2_with fail
  refine (toRecord_n s p c n l en _ (h.below b2) hl).mono ?_
  rintro e w3 ⟨p3, c3, rfl, x3, hb3⟩
  have b3 := Below.step b2 hb3
  have t3 := x3.btw
  have r3 := r2.below hb3
  have A3 := A2.below hb3
  have z3 := hb3.size
  clear b2 hb3 r2 A2
  go_wp2_with fail
  refine (unhide impl p3 c3 _ (x3.rd.below (ba _ _))).mono ?_
  rintro e w4 ⟨p4, c4, rfl, g4', hb4⟩
  have D4 : At2 w4 w3.heap.size (.int .u64 s) (.slice p3 n c3) := At2.below (by simp [At2]) hb4
  have hc4 : Below w3.heap.size w3 w4 := Below.step (ba _ _) hb4
  have g4 : Own (w3.heap.size + 1) w4 (.slice p4 N c4) R := Own.mono g4' (by simp)
  have b4 := Below.step b3 hc4
  have t4 := g4.btw
  have r4 := r3.below hc4
  have A4 := A3.below hc4
  have x4 := Own.below x3 hc4
  have z4 : w3.heap.size < w4.heap.size := by have := hb4.size; simp at this; omega
  clear b3 hb4 r3 x3 A3 hc4 g4'
  go_wp2_with fail
  refine (eqByteS_n p4 p2 c4 c2 N R eN _ g4.rd r4 (by omega)).mono ?_
  rintro e w5 ⟨rfl, hb5⟩
  have b5 := Below.step b4 hb5
  have r5 := r4.below hb5
  have x5 := Own.below x4 hb5
  have g5 := Own.below g4 hb5
  have z5 := hb5.size
  have A5 := A4.below hb5
  have D5 := D4.below hb5
  clear b4 hb5 r4 x4 g4 A4 D4
  go_wp2_with fail
  go_region_held3 (fun w' => Below w5.heap.size w5 w' ∧ At2 w' w.heap.size (.int .u64 s) (.slice p n c) ∧ At2 w' w3.heap.size (.int .u64 s) (.slice p3 n c3)) (first | exact ⟨Below.refl _ _, A5, D5⟩ | exact ⟨(Below.refl _ _).drew, A5, D5⟩ | (have hb := Below.step (Below.refl w5.heap.size w5).drew hb6; exact ⟨hb, A5.below hb, D5.below hb⟩) | (have hb := Below.step (Below.step (Below.refl w5.heap.size w5).drew hb6) hb7; exact ⟨hb, A5.below hb, D5.below hb⟩))
    (first | (go_at_call 21; refine (toRecord_n s p c n l en _ (by exact h.below b5.drew) hl).mono ?_; rintro e w6 ⟨p6, c6, rfl, y6, hb6⟩) | (go_at_call 23; refine (eqRecord_n s p3 p6 c3 c6 n l en _ (by exact (x5.rd.below (Below.step (Below.refl w5.heap.size w5).drew hb6))) (by exact y6.rd) (by omega)).mono ?_; rintro e w7 ⟨rfl, hb7⟩))
  have hb57 : Below w5.heap.size w5 w7 := Below.step (Below.step (Below.refl w5.heap.size w5).drew hb6) hb7
  have b7 := Below.step b5 hb57
  have r7 := r5.below hb57
  have x7 := Own.below x5 hb57
  have g7 := Own.below g5 hb57
  have A7 := A5.below hb57
  have D7 := D5.below hb57
  have z7 := hb57.size
  clear b5 hb6 hb7 hb57 r5 x5 g5 y6 A5 D5
  go_wp2_with fail
  refine (markRecord_n w2.heap.size s p3 c3 n l en 1 _ x7 (by omega) (by omega) (by omega)).mono ?_
  rintro e w8 ⟨rfl, x8, hg8⟩
  have b8 := below_markK b7 hg8 t3 (by omega) (by omega)
  have r8 := r7.apartK hg8 t3 t2 (by omega)
  have g8 := Own.apartK g7 hg8 t3 t4 (by omega)
  have A8 := A7.kept hg8 (by omega) t3 (by omega)
  have z8 := hg8.size
  clear b7 hg8 r7 g7 x7 x8 A7 D7
  go_wp2_with fail
  refine (eqByteS_n p4 p2 c4 c2 N R eN _ g8.rd r8 (by omega)).mono ?_
  rintro e w9 ⟨rfl, hb9⟩
  have b9 := Below.step b8 hb9
  have r9 := r8.below hb9
  have g9 := Own.below g8 hb9
  have A9 := A8.below hb9
  have z9 := hb9.size
  clear b8 hb9 r8 g8 A8
  go_wp2_with fail
  refine (markByteS_n (w3.heap.size + 1) p4 c4 N R eN 1 _ g9 (by omega) (by omega) (by omega)).mono ?_
  rintro e w10 ⟨rfl, g10, hg10⟩
  have hk10 : Kept [.slice p4 N c4] w9 w10 := Kept.of_grown hg10 (by simp)
  have b10 := below_markK b9 hk10 t4 (by omega) (by omega)
  have r10 := r9.apartK hk10 t4 t2 (by omega)
  have A10 := A9.kept hk10 (by omega) t4 (by omega)
  have z10 := hg10.size
  clear b9 hg10 r9 g9 hk10 A9
  go_wp2_with fail
  refine (heldByteS_any p4 c4 N 1 _ g10.rd (by omega) (by omega) (by omega)).mono ?_
  rintro e w11 ⟨rfl, hb11⟩
  have b11 := Below.step b10 hb11
  have r11 := r10.below hb11
  have A11 := A10.below hb11
  have z11 := hb11.size
  clear b10 hb11 r10 g10 A10
  go_wp2_with fail
  refine (toRecord_n s p c n l en _ (h.below b11) hl).mono ?_
  rintro e w12 ⟨p12, c12, rfl, y12, hb12⟩
  have b12 := Below.step b11 hb12
  have r12 := r11.below hb12
  clear b11 hb12 r11 A11
  go_wp2_with fail
  refine (unhide impl p12 c12 _ y12.rd).mono ?_
  rintro e w13 ⟨p13, c13, rfl, g13, hb13⟩
  have b13 := Below.step b12 hb13
  have r13 := r12.below hb13
  clear b12 hb13 r12 y12
  go_wp2_with fail
  refine (eqByteS_n p13 p2 c13 c2 N R eN _ g13.rd r13 (by omega)).mono ?_
  rintro e w14 ⟨rfl, hb14⟩
  have b14 := Below.step b13 hb14
  clear b13 hb14 r13 g13
  go_wp2
  go_ret
  exact ⟨rfl, b14⟩
end Go.Proofs.Ytnakmagpgffhlaa
