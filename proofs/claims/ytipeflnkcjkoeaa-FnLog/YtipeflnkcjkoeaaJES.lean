import Derived.Test.YtipeflnkcjkoeaaJSm
import Derived.Lib.SlBytesConst
namespace Go.Proofs.Ytipeflnkcjkoeaa
open Go.ChangeShapes Go.WideShapes Go.ChangeAt Go.RowKit
set_option linter.unusedVariables false
set_option linter.unusedSimpArgs false

theorem cellNew (w : World) (C : Array Value) (e : TypeId) (fr : Nat × Nat) (i : Nat) : (w.alloc (.cells C e fr)).cell? ⟨w.heap.size, i, none⟩ = C[i]? := by
  have h : (w.alloc (.cells C e fr)).heap[w.heap.size]? = some (.cells C e fr) := by
    show (w.heap.push (.cells C e fr))[w.heap.size]? = _
    simp
  unfold World.cell?
  rw [h]
  rfl

set_option maxHeartbeats 800000 in
theorem implEncSnap (s : Int) (p : Option Addr) (c n : Nat) (l : List Int) (en : Hid (l.length = n)) (w : World) (h : Rd w (.slice p n c) l) (hb : Byt l) (hl : n ≤ 2000000) (s0 : 0 ≤ s) (s1 : s < 18446744073709551616) :
    Calls Try.prog 14 #[.int .u64 s, .slice p n c] w fun e w' => ∃ p' c', e = .returned (.slice p' (n + 20) c') ∧ Own w.heap.size w' (.slice p' (n + 20) c') (snapB s l) ∧ Below w.heap.size w w' := by
  go_enter Try.func14, Try.ntmps14
  go_wp2_with fail
  refine (lowFirst_any 4 n _ (by omega) (by omega) (by omega)).mono ?_
  rintro e w1 ⟨p1, c1, rfl, o1, hb1⟩
  have hcv := Lib.run_convert_bytes_const (P := Try.prog) w1 22 5 #[.int .u8 76, .int .u8 72, .int .u8 83, .int .u8 49] 4 4 Try.underlying22 Try.underlying5
  simp only [show (#[Value.int .u8 76, .int .u8 72, .int .u8 83, .int .u8 49] : Array Value).size = 4 from rfl] at hcv
  have r0 : Rd (w1.alloc (.cells #[.int .u8 76, .int .u8 72, .int .u8 83, .int .u8 49] 5 (4, 5))) (.slice (some ⟨w1.heap.size, 0, none⟩) 4 4) lhs1 := by
    refine ⟨_, _, rfl, .inr ⟨w1.heap.size, 0, rfl, fun i hi => ?_⟩⟩
    rw [lhs1_length] at hi
    match i, hi with
    | 0, _ => (rw [Nat.zero_add, cellNew]; rfl)
    | 1, _ => (rw [Nat.zero_add, cellNew]; rfl)
    | 2, _ => (rw [Nat.zero_add, cellNew]; rfl)
    | 3, _ => (rw [Nat.zero_add, cellNew]; rfl)
  have HR := hide r0
  have bA : Below w1.heap.size w1 (w1.alloc (.cells #[.int .u8 76, .int .u8 72, .int .u8 83, .int .u8 49] 5 (4, 5))) := (Below.refl _ _).alloc (Nat.le_refl _) _
  have b0 := Below.step hb1 bA
  clear r0
  go_wp2_with fail
  refine (lowFirst_any 8 s _ (by omega) s0 s1).mono ?_
  rintro e w2 ⟨p2, c2, rfl, o2, hb2⟩
  have b2 := Below.step b0 hb2
  have rm := (unhide HR).below hb2
  have rb := h.below b2
  have r1 := (o1.rd.below bA).below hb2
  have r2 := o2.rd
  have HB := hide hb
  have enn := unhide en
  clear hb1 o1 bA b0 hb2 o2 h hb HR
  go_wp2_with fail
  refine (joined_any w2.heap.size [.slice (some ⟨w1.heap.size, 0, none⟩) 4 4, .slice p2 8 c2, .slice p1 4 c1, .slice p n c] [lhs1, le s 8, le n 4, l] (snapHead s l) (n + 16) 4 rfl (by show _ = _; rw [cat4, snapHead, unhide en]) (by show _ = _; rw [snapHead_length, unhide en]) _ (parts4 (by simp) (by simp) (by simp) (by simp) (rm.below ((Below.refl _ _).alloc (Nat.le_refl _) _)) (r2.below ((Below.refl _ _).alloc (Nat.le_refl _) _)) (r1.below ((Below.refl _ _).alloc (Nat.le_refl _) _)) (rb.below ((Below.refl _ _).alloc (Nat.le_refl _) _))) (by omega) (by omega)).mono ?_
  rintro e w3 ⟨p3, c3, rfl, o3, hb3⟩
  have b3 := Below.step (b2.alloc b2.size _) hb3
  have r3 := o3.rd
  clear b2 hb3 o3 rm r2 r1 rb
  go_wp2_with fail
  refine (withCk_any p3 c3 (n + 16) (snapHead s l) (by show _ = _; rw [snapHead_length, unhide en]) _ r3 (snapHead_byt (unhide HB)) (by omega)).mono ?_
  rintro e w4 ⟨p4, c4, rfl, o4, hb4⟩
  have b4 := Below.step b3 hb4
  have o5 : Own w.heap.size w4 (.slice p4 (n + 20) c4) (snapB s l) := Own.mono o4 b3.size
  clear b3 hb4 o4 r3
  go_wp2
  go_ret
  exact ⟨p4, c4, rfl, o5, b4⟩

set_option maxHeartbeats 800000 in
theorem specEncSnap (s : Int) (p : Option Addr) (c n : Nat) (l : List Int) (en : Hid (l.length = n)) (w : World) (h : Rd w (.slice p n c) l) (hb : Byt l) (hl : n ≤ 2000000) (s0 : 0 ≤ s) (s1 : s < 18446744073709551616) :
    Calls Try.prog 13 #[.int .u64 s, .slice p n c] w fun e w' => ∃ p' c', e = .returned (.slice p' (n + 20) c') ∧ Own w.heap.size w' (.slice p' (n + 20) c') (snapB s l) ∧ Below w.heap.size w w' := by
  have enn := unhide en
  have HH := hide h
  clear h
  have r0 : Own w.heap.size (w.alloc (.cells #[.int .u8 76, .int .u8 72, .int .u8 83, .int .u8 49] 5)) (.slice (some ⟨w.heap.size, 0, none⟩) 4 4) lhs1 :=
    World.ownsRow_lit w #[.int .u8 76, .int .u8 72, .int .u8 83, .int .u8 49] 4 (Nat.le_refl _) (by unfold maxLen; omega) rfl
  have HR := hide r0
  clear r0
  go_enter Try.func13, Try.ntmps13
  go_wp2_with fail
  refine (little_any 8 s _ (by omega) s0 s1).mono ?_
  rintro e w1 ⟨p1, c1, rfl, o1, hb1⟩
  have b1 : Below w.heap.size w w1 := Below.step ((Below.refl _ _).alloc (Nat.le_refl _) _) hb1
  have q1 := Own.below (unhide HR) hb1
  have r1 := o1.rd
  have z1 := b1.size
  have el1 : (lhs1 ++ le s 8).length = 12 := by simp [le_length, lhs1_length]
  clear HR o1 hb1
  go_wp2_with (at_builtin; refine wpList_append_rdn rfl _ _ rfl w.heap.size (.slice (some ⟨w.heap.size, 0, none⟩) 4 4) lhs1 (le s 8) (lhs1 ++ le s 8) (by show _ = _; rfl) p1 c1 8 (by show _ = _; exact le_length _ _) rfl rfl q1 r1 (by rw [le_length, lhs1_length]; omega) z1 ?_)
  intro p2 c2 w2 o2 hg2
  have b2 := below_grown b1 hg2 q1 (Nat.le_refl _) z1
  have z2 := b2.size
  clear b1 hg2 q1 r1
  try rw [el1] at o2 ⊢
  go_wp2_with fail
  refine (little_any 4 n _ (by omega) (by omega) (by omega)).mono ?_
  rintro e w3 ⟨p3, c3, rfl, o3, hb3⟩
  have b3 := Below.step b2 hb3
  have q3 := Own.below o2 hb3
  have r3 := o3.rd
  have z3 := b3.size
  have el3 : (lhs1 ++ le s 8 ++ le n 4).length = 16 := by simp [le_length, lhs1_length]
  clear b2 hb3 o2 o3
  go_wp2_with (at_builtin; refine wpList_append_rdn rfl _ _ rfl w.heap.size (.slice p2 12 c2) (lhs1 ++ le s 8) (le n 4) (lhs1 ++ le s 8 ++ le n 4) (by show _ = _; rfl) p3 c3 4 (by show _ = _; exact le_length _ _) rfl rfl q3 r3 (by rw [le_length, el1]; omega) z3 ?_)
  intro p4 c4 w4 o4 hg4
  have b4 := below_grown b3 hg4 q3 (Nat.le_refl _) z3
  have z4 := b4.size
  have r4 : Rd w4 (.slice p n c) l := (unhide HH).below b4
  have el4 : (snapHead s l).length = n + 16 := by rw [snapHead_length, unhide en]
  clear b3 hg4 q3 r3
  try rw [el3] at o4 ⊢
  go_wp2_with (at_builtin; refine wpList_append_rdn rfl _ _ rfl w.heap.size (.slice p4 16 c4) (lhs1 ++ le s 8 ++ le n 4) l (snapHead s l) (by show _ = _; rw [snapHead, unhide en]) p c n en rfl rfl o4 r4 (by rw [el3]; omega) z4 ?_)
  intro p5 c5 w5 o5 hg5
  have b5 := below_grown b4 hg5 o4 (Nat.le_refl _) z4
  have HB := hide hb
  clear b4 hg5 o4 r4 hb
  try rw [el4] at o5 ⊢
  go_wp2_with fail
  refine (summed_any p5 c5 (n + 16) (snapHead s l) (by show _ = _; exact el4) _ o5.rd (snapHead_byt (unhide HB)) (by omega)).mono ?_
  rintro e w6 ⟨p6, c6, rfl, o6, hb6⟩
  have b6 := Below.step b5 hb6
  have o7 : Own w.heap.size w6 (.slice p6 (n + 20) c6) (snapB s l) := Own.mono o6 b5.size
  clear b5 hb6 o6 o5
  go_wp2
  go_ret
  exact ⟨p6, c6, rfl, o7, b6⟩
end Go.Proofs.Ytipeflnkcjkoeaa
