import Derived.Test.YtnakmagpgffhlaaJDS
import Derived.Test.YtnakmagpgffhlaaJB
namespace Go.Proofs.Ytnakmagpgffhlaa
open Go.ChangeShapes Go.WideShapes Go.ChangeAt Go.RowKit
set_option linter.unusedVariables false
set_option linter.unusedSimpArgs false

set_option maxHeartbeats 2000000 in
theorem lawDecSnap_small (S code : Int) (p : Option Addr) (c n N : Nat) (l R : List Int) (w : World) (h : Rd w (.slice p n c) l) (en : Hid (l.length = n)) (eN : Hid (R.length = N)) (hl : n ≤ 1048576) (hN : N ≤ 1048600)
    (spec : Hid (∀ (q : Option Addr) (d : Nat) (w : World), Rd w (.slice q n d) l → n ≤ d → d ≤ maxLen → Calls Try.prog 17 #[.slice q n d] w (DecRes w S R N code)))
    (impl : Hid (∀ (q : Option Addr) (d : Nat) (w : World), Rd w (.slice q n d) l → n ≤ d → d ≤ maxLen → Calls Try.prog 18 #[.slice q n d] w (DecRes w S R N code))) :
    Calls Try.prog 5 #[.slice p n c] w fun e w' => e = .returned (.bool true) ∧ Below w.heap.size w w' := by
  have hl' : ¬ (1048576 : Int) < (n : Int) := by omega
  have hS : (S != S) = false := by simp
  have hcode : (code != code) = false := by simp
  go_enter Try.func5, Try.ntmps5
  go_wp2_with fail
  refine (toByteS_n p c n l en _ h hl).mono ?_
  rintro e w1 ⟨p1, c1, rfl, o1, b1⟩
  have z1 := b1.size
  go_wp2_with fail
  refine (unhide spec p1 c1 _ o1.rd o1.cap o1.capMax).mono ?_
  rintro e w2 ⟨p2, c2, rfl, o2, hb2⟩
  have b2 := Below.step b1 hb2
  have t2 := o2.btw
  have z2 := hb2.size
  have r2 := o2.rd
  clear o1 b1 hb2 o2
  go_wp2_with fail
  refine (toByteS_n p c n l en _ (h.below b2) hl).mono ?_
  rintro e w3 ⟨p3, c3, rfl, x3, hb3⟩
  have b3 := Below.step b2 hb3
  have t3 := x3.btw
  have r3 := r2.below hb3
  have z3 := hb3.size
  clear b2 hb3 r2
  go_wp2_with fail
  refine (unhide impl p3 c3 _ x3.rd x3.cap x3.capMax).mono ?_
  rintro e w4 ⟨p4, c4, rfl, g4, hb4⟩
  have b4 := Below.step b3 hb4
  have t4 := g4.btw
  have r4 := r3.below hb4
  have x4 := Own.below x3 hb4
  have z4 := hb4.size
  clear b3 hb4 r3 x3
  go_wp2_with fail
  refine (eqByteS_n p4 p2 c4 c2 N R eN _ g4.rd r4 (by omega)).mono ?_
  rintro e w5 ⟨rfl, hb5⟩
  have b5 := Below.step b4 hb5
  have r5 := r4.below hb5
  have x5 := Own.below x4 hb5
  have g5 := Own.below g4 hb5
  have z5 := hb5.size
  clear b4 hb5 r4 x4 g4
  go_wp2_with fail
  refine (toByteS_n p c n l en _ (h.below b5) hl).mono ?_
  rintro e w6 ⟨p6, c6, rfl, y6, hb6⟩
  have b6 := Below.step b5 hb6
  have r6 := r5.below hb6
  have x6 := Own.below x5 hb6
  have g6 := Own.below g5 hb6
  have z6 := hb6.size
  clear b5 hb6 r5 x5 g5
  go_wp2_with fail
  refine (eqByteS_n p3 p6 c3 c6 n l en _ x6.rd y6.rd (by omega)).mono ?_
  rintro e w7 ⟨rfl, hb7⟩
  have b7 := Below.step b6 hb7
  have r7 := r6.below hb7
  have x7 := Own.below x6 hb7
  have g7 := Own.below g6 hb7
  have z7 := hb7.size
  clear b6 hb7 r6 x6 g6 y6
  go_wp2_with fail
  refine (markByteS_n w2.heap.size p3 c3 n l en 1 _ x7 (by omega) (by omega) (by omega)).mono ?_
  rintro e w8 ⟨rfl, x8, hg8⟩
  have b8 := below_mark b7 hg8 t3 (by omega) (by omega)
  have r8 := r7.apart hg8 t3 t2 (by omega)
  have g8 := Own.apart g7 hg8 t3 t4 (by omega)
  have z8 := hg8.size
  clear b7 hg8 r7 g7 x7 x8
  go_wp2_with fail
  refine (eqByteS_n p4 p2 c4 c2 N R eN _ g8.rd r8 (by omega)).mono ?_
  rintro e w9 ⟨rfl, hb9⟩
  have b9 := Below.step b8 hb9
  have r9 := r8.below hb9
  have g9 := Own.below g8 hb9
  have z9 := hb9.size
  clear b8 hb9 r8 g8
  go_wp2_with fail
  refine (markByteS_n w3.heap.size p4 c4 N R eN 1 _ g9 (by omega) (by omega) (by omega)).mono ?_
  rintro e w10 ⟨rfl, g10, hg10⟩
  have b10 := below_mark b9 hg10 t4 (by omega) (by omega)
  have r10 := r9.apart hg10 t4 t2 (by omega)
  have z10 := hg10.size
  clear b9 hg10 r9 g9
  go_wp2_with fail
  refine (heldByteS_any p4 c4 N 1 _ g10.rd (by omega) (by omega) (by omega)).mono ?_
  rintro e w11 ⟨rfl, hb11⟩
  have b11 := Below.step b10 hb11
  have r11 := r10.below hb11
  have z11 := hb11.size
  clear b10 hb11 r10 g10
  go_wp2_with fail
  refine (toByteS_n p c n l en _ (h.below b11) hl).mono ?_
  rintro e w12 ⟨p12, c12, rfl, y12, hb12⟩
  have b12 := Below.step b11 hb12
  have r12 := r11.below hb12
  have z12 := hb12.size
  clear b11 hb12 r11
  go_wp2_with fail
  refine (unhide impl p12 c12 _ y12.rd y12.cap y12.capMax).mono ?_
  rintro e w13 ⟨p13, c13, rfl, g13, hb13⟩
  have b13 := Below.step b12 hb13
  have r13 := r12.below hb13
  clear b12 hb13 r12 y12
  go_wp2_with fail
  refine (eqByteS_n p13 p2 c13 c2 N R eN _ g13.rd r13 (by omega)).mono ?_
  rintro e w14 ⟨rfl, hb14⟩
  have b14 := Below.step b13 hb14
  clear b13 hb14 r13 g13
  go_wp2
  go_ret
  exact ⟨rfl, b14⟩
end Go.Proofs.Ytnakmagpgffhlaa
