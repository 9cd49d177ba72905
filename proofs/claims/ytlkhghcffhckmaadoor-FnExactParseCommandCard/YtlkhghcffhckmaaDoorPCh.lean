import Derived.Test.YtlkhghcffhckmaaDoorPCg
import Derived.Lib.SmallJoins
namespace Go.Proofs.YtlkhghcffhckmaaDoor
open Go.ChangeShapes Go.WideShapes Go.ChangeAt Go.RowKit
set_option linter.unusedVariables false
set_option linter.unusedSimpArgs false
set_option maxRecDepth 100000

set_option maxHeartbeats 3200000 in
theorem fill_m (k op se fl ep ge nn mm : Int) (a1 : Option Addr) (a2 a3 : Nat) (b1 : Option Addr) (b2 b3 : Nat) (p : Option Addr) (c n : Nat) (l : List Int) (en : Hid (l.length = n)) (w : World) (h : Rd w (.slice p n c) l) (hb : Hid (Byt l)) (hl : n ≤ 1048576) :
  Calls Tryd.prog 14 #[cmV k op se (.slice a1 a2 a3) fl (.slice b1 b2 b3) ep ge nn mm, .int .u8 109, .slice p n c] w fun e w' => e = .returned (.tuple #[cmV k op se (.slice a1 a2 a3) (if l = [120] then 1 else 2) (.slice b1 b2 b3) ep ge nn mm, .bool (decide (l = [120]) || decide (l = [115]))]) ∧ Below w.heap.size w w' := by
 obtain ⟨R, eR⟩ : ∃ R, Hid (numO l 4611686018427387904 = R) := ⟨_, (by show _ = _; rfl)⟩
 have HR := hide fun (w' : World) (hb : Below w.heap.size w w') => h.below hb
 clear h
 obtain ⟨W1, hW1⟩ : ∃ W, W = (w.alloc (.cells #[.int .i64 k, .int .i64 op, .int .u64 se, .slice a1 a2 a3, .int .i64 fl, .slice b1 b2 b3, .int .u64 ep, .int .u64 ge, .int .i64 nn, .int .i64 mm] 27)) := ⟨_, rfl⟩
 obtain ⟨W, hW⟩ : ∃ W, W = W1.alloc (.cells #[.int .i64 0, .int .i64 0, .int .u64 0, .slice none 0 0, .int .i64 0, .slice none 0 0, .int .u64 0, .int .u64 0, .int .i64 0, .int .i64 0] 27) := ⟨_, rfl⟩
 have b1' : Below w.heap.size w W1 := by rw [hW1]; exact (Below.refl _ _).alloc (Nat.le_refl _) _
 have b2' : Below W1.heap.size W1 W := by rw [hW]; exact (Below.refl _ _).alloc (Nat.le_refl _) _
 have z1 : W1.heap.size = w.heap.size + 1 := by rw [hW1]; simp
 have zW : W.heap.size = w.heap.size + 2 := by rw [hW]; simp; omega
 have bW := Below.step b1' b2'
 have C1' : CellsAre W w.heap.size [.int .i64 k, .int .i64 op, .int .u64 se, .slice a1 a2 a3, .int .i64 fl, .slice b1 b2 b3, .int .u64 ep, .int .u64 ge, .int .i64 nn, .int .i64 mm] := by
  have : CellsAre W1 w.heap.size [.int .i64 k, .int .i64 op, .int .u64 se, .slice a1 a2 a3, .int .i64 fl, .slice b1 b2 b3, .int .u64 ep, .int .u64 ge, .int .i64 nn, .int .i64 mm] := by rw [hW1]; exact CellsAre.alloc w #[.int .i64 k, .int .i64 op, .int .u64 se, .slice a1 a2 a3, .int .i64 fl, .slice b1 b2 b3, .int .u64 ep, .int .u64 ge, .int .i64 nn, .int .i64 mm] _
  exact this.below (by omega) b2'
 have C0' : CellsAre W (w.heap.size + 1) [.int .i64 0, .int .i64 0, .int .u64 0, .slice none 0 0, .int .i64 0, .slice none 0 0, .int .u64 0, .int .u64 0, .int .i64 0, .int .i64 0] := by rw [hW, show w.heap.size + 1 = W1.heap.size by omega]; exact CellsAre.alloc W1 #[.int .i64 0, .int .i64 0, .int .u64 0, .slice none 0 0, .int .i64 0, .slice none 0 0, .int .u64 0, .int .u64 0, .int .i64 0, .int .i64 0] _
 have HC := hide (And.intro C1' C0')
 go_enter Tryd.func14, Tryd.ntmps14
 go_wp2_with fail
 rw [← hW1, ← hW]
 clear hW hW1 C1' C0' b1' b2' z1
 refine (l6number_any p c n l en _ (unhide HR _ bW) hb hl 4611686018427387904 R eR).mono ?_
 rintro r w1 ⟨⟨v, rfl, -⟩, rfl⟩
 have cv1 := Go.Joins.run_convert_bytes_const_at (P := Tryd.prog) w1 22 5 #[.int .u8 120] 1 1 (w.heap.size + 2) zW.symm Tryd.underlying22 Tryd.underlying5
 go_wp2_with fail
 clear cv1
 have hbA : Below w1.heap.size w1 (w1.alloc (.cells #[.int .u8 120] 5 (1, 2))) := (Below.refl _ _).alloc (Nat.le_refl _) _
 refine (l3same_any p _ c 1 n 1 l [120] en rfl _ (unhide HR _ (Below.step bW hbA)) (rdC w1 120 _ zW.symm) (unhide hb) (fun z hz => by simp at hz; omega)).mono ?_
 rintro r w3 ⟨rfl, hb3⟩
 have hb3' := Below.step hbA hb3
 have bb3 := Below.step bW hb3'
 have HC3 := hide (And.intro ((unhide HC).1.below (by omega) hb3') ((unhide HC).2.below (by omega) hb3'))
 have z3 := hb3'.size
 clear hb3 hbA
 by_cases hE : l = [120]
 ·have hd : decide (l = [120]) = true := by simpa using hE
  rw [hd]
  obtain ⟨D1, D0⟩ := unhide HC3
  have k0 := D1.1 0 _ rfl
  have k1 := D1.1 1 _ rfl
  have k2 := D1.1 2 _ rfl
  have k3 := D1.1 3 _ rfl
  have k4 := D1.1 4 _ rfl
  have k5 := D1.1 5 _ rfl
  have k6 := D1.1 6 _ rfl
  have k7 := D1.1 7 _ rfl
  have k8 := D1.1 8 _ rfl
  have k9 := D1.1 9 _ rfl
  have kf := D1.2
  have r0 := D0.1 0 _ rfl
  have r1 := D0.1 1 _ rfl
  have r2 := D0.1 2 _ rfl
  have r3 := D0.1 3 _ rfl
  have r4 := D0.1 4 _ rfl
  have r5 := D0.1 5 _ rfl
  have r6 := D0.1 6 _ rfl
  have r7 := D0.1 7 _ rfl
  have r8 := D0.1 8 _ rfl
  have r9 := D0.1 9 _ rfl
  have rf := D0.2
  have BB := bb3
  clear D1 D0
  go_wp2
  refine bodyPost_ret (v := .tuple #[cmV k op se (.slice a1 a2 a3) 1 (.slice b1 b2 b3) ep ge nn mm, .bool true]) (by simp [results, Tryd.results14, go_sem, k0, k1, k2, k3, k4, k5, k6, k7, k8, k9, r0, r1, r2, r3, r4, r5, r6, r7, r8, r9]) rfl ⟨?_, ?_⟩
  ·first | rfl | (rw [if_pos hE]; rfl)
  ·repeat (first | with_reducible exact BB | with_reducible refine Below.setCell ?_ (by simp) _)
 ·have hd : decide (l = [120]) = false := by simpa using hE
  rw [hd]
  have hcf : ∀ (vs : Array Value) (w : World), (callFunc 23 vs).run Tryd.prog w = .ok (.enter 23 vs) w := fun vs w => by kernel_rfl
  have HCF := hide hcf
  clear hcf
  obtain ⟨w4, hw4⟩ : ∃ V, V = w3.setCell ⟨w.heap.size, 4, none⟩ (.int .i64 2) := ⟨_, rfl⟩
  have HC4 := hide (And.intro (by rw [hw4]; exact (unhide HC3).1.near 4 (by simp) _ : CellsAre w4 w.heap.size [.int .i64 k, .int .i64 op, .int .u64 se, .slice a1 a2 a3, .int .i64 2, .slice b1 b2 b3, .int .u64 ep, .int .u64 ge, .int .i64 nn, .int .i64 mm]) (by rw [hw4]; exact (unhide HC3).2.far (by simp) _ : CellsAre w4 (w.heap.size + 1) [.int .i64 0, .int .i64 0, .int .u64 0, .slice none 0 0, .int .i64 0, .slice none 0 0, .int .u64 0, .int .u64 0, .int .i64 0, .int .i64 0]))
  have bb4 : Below w.heap.size w w4 := by rw [hw4]; exact Below.setCell bb3 (by simp) _
  have z4 : w4.heap.size = w3.heap.size := by rw [hw4]; simp
  obtain ⟨v0, hv0⟩ : ∃ V, V = w4.drew := ⟨_, rfl⟩
  have hb0 : Below w4.heap.size w4 v0 := by rw [hv0]; exact (Below.refl _ _).drew
  have F0 := hide (And.intro ((unhide HC4).1.below (by omega) hb0) ((unhide HC4).2.below (by omega) hb0))
  have B0 := hide (Below.step bb4 hb0)
  have z0 := hb0.size
  have cv2 := Go.Joins.run_convert_bytes_const_at (P := Tryd.prog) v0 22 5 #[.int .u8 115] 1 1 v0.heap.size rfl Tryd.underlying22 Tryd.underlying5
  obtain ⟨v1, hv1⟩ : ∃ V, V = v0.alloc (.cells #[.int .u8 115] 5) := ⟨_, rfl⟩
  obtain ⟨v2, hv2⟩ : ∃ V, V = v0.alloc (.cells #[.int .u8 115] 5 (1, 2)) := ⟨_, rfl⟩
  have hb1 : Below v0.heap.size v0 v1 := by rw [hv1]; exact (Below.refl _ _).alloc (Nat.le_refl _) _
  have hb2 : Below v0.heap.size v0 v2 := by rw [hv2]; exact (Below.refl _ _).alloc (Nat.le_refl _) _
  have cv3 : (convert 22 22 (.slice (some ⟨v0.heap.size, 0, none⟩) 1 1)).run Tryd.prog v1 = .ok (.slice (some ⟨v0.heap.size, 0, none⟩) 1 1) v2 := by rw [hv1, hv2]; exact cv2
  have rd2 := hide (by rw [hv2]; exact rdC v0 115 _ rfl : Rd v2 (.slice (some ⟨v0.heap.size, 0, none⟩) 1 1) [115])
  have F1 := hide ((unhide F0).1.below (by omega) hb1)
  have F2 := hide (And.intro ((unhide F0).1.below (by omega) hb2) ((unhide F0).2.below (by omega) hb2))
  have B2 := hide (Below.step (unhide B0) hb2)
  have z2 := hb2.size
  have k4 := (unhide HC3).1.1 4 _ rfl
  have kf := (unhide HC3).1.2
  go_wp2_with fail
  rw [← hw4]
  clear hw4 k4 kf
  refine wp_region_noPanic ?_
  refine wp_region_held_drew (S := fun w' => At10 w' w.heap.size (.int .i64 k) (.int .i64 op) (.int .u64 se) (.slice a1 a2 a3) (.int .i64 2) (.slice b1 b2 b3) (.int .u64 ep) (.int .u64 ge) (.int .i64 nn) (.int .i64 mm)) (by kernel_rfl) (by rw [← hv0]; exact (unhide F0).1.at10) (fun hS => ?_)
  rw [← hv0] at hS ⊢
  have CV3 := hide cv3
  clear hv0 hb0 hb1 hb2 cv2 cv3 hv2
  refine tk 0 hS (h := ?_)
  simp only [Act.put, xa, xb, xc]
  refine tk 1 hS (h := ?_)
  simp only [Act.put, xa, xb, xc]
  refine ry [2] ?_
  refine cn (fun KK hK => ?_) ?_
  ·go_simp
   rw [← hv1]
   refine hK.out _ _ (by exact (unhide F1).at10) (fun hS => ?_)
   clear hK KK hv1
   (try simp only [Act.put, xa, xb, xc])
   refine ry [3] ?_
   refine cn (fun KK hK => ?_) ?_
   ·have cv3 := unhide CV3
    go_simp
    refine hK.out _ _ (by exact (unhide F2).1.at10) (fun hS => ?_)
    clear hK KK cv3
    (try simp only [Act.put, xa, xb, xc])
    refine ry [4] ?_
    refine cn (fun KK hK => ?_) ?_
    ·refine step_call2 (by rfl) 23 _ _ _ (by rfl) (.slice p n c) (.slice (some ⟨v0.heap.size, 0, none⟩) 1 1) (by rfl) (by rfl) (fun _ => unhide HCF _ _) (l3same_any p _ c 1 n 1 l [115] en rfl _ (unhide HR _ (unhide B2)) (unhide rd2) (unhide hb) (fun z hz => by simp at hz; omega)) ?_
     rintro r v4 ⟨rfl, hb4⟩
     refine ⟨_, rfl, ?_⟩
     have D1 := (unhide F2).1.below (by omega) hb4
     have D0 := (unhide F2).2.below (by omega) hb4
     have BB := Below.step (unhide B2) hb4
     refine hK.out _ _ (by exact D1.at10) (fun hS => ?_)
     clear hK KK hb4
     (try simp only [Act.put, xa, xb, xc])
     have r0 := D0.1 0 _ rfl
     have r1 := D0.1 1 _ rfl
     have r2 := D0.1 2 _ rfl
     have r3 := D0.1 3 _ rfl
     have r4 := D0.1 4 _ rfl
     have r5 := D0.1 5 _ rfl
     have r6 := D0.1 6 _ rfl
     have r7 := D0.1 7 _ rfl
     have r8 := D0.1 8 _ rfl
     have r9 := D0.1 9 _ rfl
     have rf := D0.2
     have T1 := hide D1
     have q1 : ¬ w.heap.size = w.heap.size + 1 := by omega
     clear D1
     refine ry [5] ?_
     refine cn (fun KK hK => ?_) ?_
     ·go_simp
      refine hK.out _ _ (by obtain ⟨t0, t1, t2, t3, t4, t5, t6, t7, t8, t9⟩ := (unhide T1).at10; refine ⟨?_, ?_, ?_, ?_, ?_, ?_, ?_, ?_, ?_, ?_⟩ <;> simp [go_sem, q1, t0, t1, t2, t3, t4, t5, t6, t7, t8, t9]) (fun hS => ?_)
      clear hK KK
      (try simp only [Act.put, xa, xb, xc])
      refine tk 6 hS (h := ?_)
      simp only [Act.put, xa, xb, xc]
      refine wpAnyH_done (by kernel_rfl) ?_ _
      refine NoPanic.normal ?_
      clear hS
      go_wp2
      refine bodyPost_ret (v := .tuple #[cmV k op se (.slice a1 a2 a3) 2 (.slice b1 b2 b3) ep ge nn mm, .bool (decide (l = [115]))]) (by simp [results, Tryd.results14, go_sem, r0, r1, r2, r3, r4, r5, r6, r7, r8, r9]) rfl ⟨?_, ?_⟩
      ·first | rfl | (rw [if_neg hE]; simp [hd])
      ·repeat (first | with_reducible exact BB | with_reducible refine Below.setCell ?_ (by simp) _)
     exact AllReadyH.nil
    exact AllReadyH.nil
   exact AllReadyH.nil
  exact AllReadyH.nil
end Go.Proofs.YtlkhghcffhckmaaDoor
