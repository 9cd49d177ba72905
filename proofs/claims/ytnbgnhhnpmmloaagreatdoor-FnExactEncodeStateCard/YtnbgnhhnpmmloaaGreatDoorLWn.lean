import Derived.Test.YtnbgnhhnpmmloaaGreatDoorK45
namespace Go.Proofs.YtnbgnhhnpmmloaaGreatDoor
open Go.ChangeShapes Go.WideShapes Go.ChangeAt Go.RowKit
set_option linter.unusedVariables false
set_option linter.unusedSimpArgs false
set_option maxRecDepth 100000
set_option maxHeartbeats 3200000 in
theorem toNode_aw (ow mo ep ge : Int) (pp pv ph pu : Option Addr) (a1 a2 a3 a4 n1 n2 n3 n4 : Nat) (P V H U : List Int) (e1 : Hid (P.length = n1)) (e2 : Hid (V.length = n2)) (e3 : Hid (H.length = n3)) (e4 : Hid (U.length = n4)) (w : World) (BZ : Nat) (hB : BZ ≤ w.heap.size) (h1 : Rd w (.slice pp n1 a1) P) (h2 : Rd w (.slice pv n2 a2) V) (h3 : RdU w (.slice ph n3 a3) H) (h4 : RdU w (.slice pu n4 a4) U) (m1 : n1 ≤ 1048576) (m2 : n2 ≤ 1048576) (m3 : n3 ≤ 1048576) (m4 : n4 ≤ 1048576) :
  Calls Tryz.prog 91 #[.agg #[.slice pp n1 a1, .slice pv n2 a2, .int .u64 ow, .int .i64 mo, .slice ph n3 a3, .int .u64 ep, .int .u64 ge, .slice pu n4 a4]] w fun r w' => ∃ p0 d0 p1 d1 p4 d4 p7 d7, r = .returned (.agg #[.slice p0 n1 d0, .slice p1 n2 d1, .int .u64 ow, .int .i64 mo, .slice p4 n3 d4, .int .u64 ep, .int .u64 ge, .slice p7 n4 d7]) ∧ Ab w.heap.size w' (fun u => (Rd u (.slice p0 n1 d0) P ∧ CapOK (.slice p0 n1 d0) ∧ Nf BZ u (.slice p0 n1 d0)) ∧ (Rd u (.slice p1 n2 d1) V ∧ CapOK (.slice p1 n2 d1) ∧ Nf BZ u (.slice p1 n2 d1)) ∧ (RdU u (.slice p4 n3 d4) H ∧ Nf BZ u (.slice p4 n3 d4)) ∧ (RdU u (.slice p7 n4 d7) U ∧ Nf BZ u (.slice p7 n4 d7))) ∧ Below w.heap.size w w' := by
 have R0 := hide fun (w' : World) (hb : Below w.heap.size w w') => h1.below hb
 have R1 := hide fun (w' : World) (hb : Below w.heap.size w w') => h2.below hb
 have R4 := hide fun (w' : World) (hb : Below w.heap.size w w') => h3.below hb
 have R7 := hide fun (w' : World) (hb : Below w.heap.size w w') => h4.below hb
 clear h1 h2 h3 h4
 go_enter Tryz.func91, Tryz.ntmps91
 go_wp2_with fail
 obtain ⟨W1, hW1⟩ : ∃ W, W = w.alloc (.cells #[.slice pp n1 a1, .slice pv n2 a2, .int .u64 ow, .int .i64 mo, .slice ph n3 a3, .int .u64 ep, .int .u64 ge, .slice pu n4 a4] 116) := ⟨_, rfl⟩
 obtain ⟨W2, hW2⟩ : ∃ W, W = W1.alloc (.cells #[.slice none 0 0, .slice none 0 0, .int .u64 0, .int .i64 0, .slice none 0 0, .int .u64 0, .int .u64 0, .slice none 0 0] 66) := ⟨_, rfl⟩
 obtain ⟨W, hW⟩ : ∃ W, W = W2.alloc (.cells #[.slice none 0 0, .slice none 0 0, .int .u64 0, .int .i64 0, .slice none 0 0, .int .u64 0, .int .u64 0, .slice none 0 0] 66) := ⟨_, rfl⟩
 have z1 : W1.heap.size = w.heap.size + 1 := by rw [hW1]; simp
 have z2 : W2.heap.size = w.heap.size + 2 := by rw [hW2]; simp; omega
 have zW : W.heap.size = w.heap.size + 3 := by rw [hW]; simp; omega
 have b1 : Below w.heap.size w W1 := by rw [hW1]; exact (Below.refl _ _).alloc (Nat.le_refl _) _
 have b2 : Below W1.heap.size W1 W2 := by rw [hW2]; exact (Below.refl _ _).alloc (Nat.le_refl _) _
 have b3 : Below W2.heap.size W2 W := by rw [hW]; exact (Below.refl _ _).alloc (Nat.le_refl _) _
 have bW : Below w.heap.size w W := Below.step (Below.step b1 b2) b3
 obtain ⟨A, eA⟩ : ∃ A, A = w.heap.size := ⟨_, rfl⟩
 obtain ⟨R, eR⟩ : ∃ R, R = A + 1 := ⟨_, rfl⟩
 obtain ⟨C, eC⟩ : ∃ C, C = R + 1 := ⟨_, rfl⟩
 have hA : CellsAre W A [.slice pp n1 a1, .slice pv n2 a2, .int .u64 ow, .int .i64 mo, .slice ph n3 a3, .int .u64 ep, .int .u64 ge, .slice pu n4 a4] := by
  have h0 : CellsAre W1 A [.slice pp n1 a1, .slice pv n2 a2, .int .u64 ow, .int .i64 mo, .slice ph n3 a3, .int .u64 ep, .int .u64 ge, .slice pu n4 a4] := by rw [hW1, eA]; exact CellsAre.alloc w #[.slice pp n1 a1, .slice pv n2 a2, .int .u64 ow, .int .i64 mo, .slice ph n3 a3, .int .u64 ep, .int .u64 ge, .slice pu n4 a4] _
  exact (h0.below (by omega) b2).below (by omega) b3
 have hR : CellsAre W R [.slice none 0 0, .slice none 0 0, .int .u64 0, .int .i64 0, .slice none 0 0, .int .u64 0, .int .u64 0, .slice none 0 0] := by
  have h0 : CellsAre W2 R [.slice none 0 0, .slice none 0 0, .int .u64 0, .int .i64 0, .slice none 0 0, .int .u64 0, .int .u64 0, .slice none 0 0] := by
   rw [hW2, show R = W1.heap.size by omega]; exact CellsAre.alloc W1 #[.slice none 0 0, .slice none 0 0, .int .u64 0, .int .i64 0, .slice none 0 0, .int .u64 0, .int .u64 0, .slice none 0 0] _
  exact h0.below (by omega) b3
 have hC : CellsAre W C [.slice none 0 0, .slice none 0 0, .int .u64 0, .int .i64 0, .slice none 0 0, .int .u64 0, .int .u64 0, .slice none 0 0] := by rw [hW, show C = W2.heap.size by omega]; exact CellsAre.alloc W2 #[.slice none 0 0, .slice none 0 0, .int .u64 0, .int .i64 0, .slice none 0 0, .int .u64 0, .int .u64 0, .slice none 0 0] _
 rw [← hW1, ← hW2, ← hW, ← eA, ← eR, ← eC]
 have HE := hide (And.intro eA (And.intro eR (And.intro eC zW)))
 have BW := hide bW
 have HA := hide hA
 have HRR := hide hR
 have HC := hide hC
 clear hW hW1 hW2 eA eR eC zW bW z1 z2 b1 b2 b3 hA hR hC
 refine (toByteS_aw pp a1 n1 P e1 _ BZ (Nat.le_trans hB (unhide BW).size) (unhide R0 _ (unhide BW)) m1).mono ?_
 rintro r w0 ⟨p0, d0, rfl, ab0, hb0⟩
 have ZS0 : Hid (W.heap.size ≤ W.heap.size ∧ W.heap.size ≤ w0.heap.size) := ⟨Nat.le_refl _, hb0.size⟩
 have HA_0 := hide ((unhide HA).below (by obtain ⟨eA, eR, eC, zW⟩ := unhide HE; have := unhide ZS0; omega) hb0)
 have HRR_0 := hide ((unhide HRR).below (by obtain ⟨eA, eR, eC, zW⟩ := unhide HE; have := unhide ZS0; omega) hb0)
 have HC_0 := hide ((unhide HC).below (by obtain ⟨eA, eR, eC, zW⟩ := unhide HE; have := unhide ZS0; omega) hb0)
 have B0 := hide (Below.step (unhide BW) hb0)
 have AB0_0 := hide (Ab.mono (B := W.heap.size) ab0 (unhide ZS0).1)
 clear ab0 hb0
 have ca0 := (unhide HA_0).1 0 _ rfl
 have ca1 := (unhide HA_0).1 1 _ rfl
 have ca2 := (unhide HA_0).1 2 _ rfl
 have ca3 := (unhide HA_0).1 3 _ rfl
 have ca4 := (unhide HA_0).1 4 _ rfl
 have ca5 := (unhide HA_0).1 5 _ rfl
 have ca6 := (unhide HA_0).1 6 _ rfl
 have ca7 := (unhide HA_0).1 7 _ rfl
 have cc0 := (unhide HC_0).1 0 _ rfl
 have cc1 := (unhide HC_0).1 1 _ rfl
 have cc2 := (unhide HC_0).1 2 _ rfl
 have cc3 := (unhide HC_0).1 3 _ rfl
 have cc4 := (unhide HC_0).1 4 _ rfl
 have cc5 := (unhide HC_0).1 5 _ rfl
 have cc6 := (unhide HC_0).1 6 _ rfl
 have cc7 := (unhide HC_0).1 7 _ rfl
 have fC := (unhide HC_0).2
 have hAC : ¬ C = A := by obtain ⟨eA, eR, eC, zW⟩ := unhide HE; omega
 go_wp2_with fail
 clear ca0 ca1 ca2 ca3 ca4 ca5 ca6 ca7 cc0 cc1 cc2 cc3 cc4 cc5 cc6 cc7 fC hAC
 obtain ⟨X0, hX0⟩ : ∃ X, X = (w0.setCell ⟨C, 0, none⟩ (.slice p0 n1 d0)) := ⟨_, rfl⟩
 have HAx0 : Hid (CellsAre X0 A [.slice pp n1 a1, .slice pv n2 a2, .int .u64 ow, .int .i64 mo, .slice ph n3 a3, .int .u64 ep, .int .u64 ge, .slice pu n4 a4]) := by show CellsAre _ _ _; rw [hX0]; exact CellsAre.far (unhide HA_0) (a := ⟨C, 0, none⟩) (by obtain ⟨eA, eR, eC, zW⟩ := unhide HE; simp; omega) _
 have HRRx0 : Hid (CellsAre X0 R [.slice none 0 0, .slice none 0 0, .int .u64 0, .int .i64 0, .slice none 0 0, .int .u64 0, .int .u64 0, .slice none 0 0]) := by show CellsAre _ _ _; rw [hX0]; exact CellsAre.far (unhide HRR_0) (a := ⟨C, 0, none⟩) (by obtain ⟨eA, eR, eC, zW⟩ := unhide HE; simp; omega) _
 have HCx0 : Hid (CellsAre X0 C [.slice p0 n1 d0, .slice none 0 0, .int .u64 0, .int .i64 0, .slice none 0 0, .int .u64 0, .int .u64 0, .slice none 0 0]) := by show CellsAre _ _ _; rw [hX0]; exact CellsAre.near (unhide HC_0) 0 (by simp) (.slice p0 n1 d0)
 have BX0 : Hid (Below w.heap.size w X0) := by show Below _ _ _; rw [hX0]; exact Below.setCell (unhide B0) (p := ⟨C, 0, none⟩) (by obtain ⟨eA, eR, eC, zW⟩ := unhide HE; simp; omega) _
 have ABx0_0 : Hid (Ab W.heap.size X0 (fun u => (Rd u (.slice p0 n1 d0) P ∧ CapOK (.slice p0 n1 d0) ∧ Nf BZ u (.slice p0 n1 d0)))) := by show Ab _ _ _; rw [hX0]; exact Ab.set (unhide AB0_0) (a := ⟨C, 0, none⟩) (by obtain ⟨eA, eR, eC, zW⟩ := unhide HE; simp; omega) _
 have ZZX0 : Hid (W.heap.size ≤ X0.heap.size) := by show _ ≤ _; rw [hX0]; simp; have := unhide ZS0; omega
 rw [← hX0]
 clear hX0
 refine (toByteS_aw pv a2 n2 V e2 _ BZ (Nat.le_trans hB (unhide BX0).size) (unhide R1 _ (unhide BX0)) m2).mono ?_
 rintro r w1 ⟨p1, d1, rfl, ab1, hb1⟩
 have ZS1 : Hid (W.heap.size ≤ X0.heap.size ∧ X0.heap.size ≤ w1.heap.size) := ⟨(unhide ZZX0), hb1.size⟩
 have HA_1 := hide ((unhide HAx0).below (by obtain ⟨eA, eR, eC, zW⟩ := unhide HE; have := unhide ZS1; omega) hb1)
 have HRR_1 := hide ((unhide HRRx0).below (by obtain ⟨eA, eR, eC, zW⟩ := unhide HE; have := unhide ZS1; omega) hb1)
 have HC_1 := hide ((unhide HCx0).below (by obtain ⟨eA, eR, eC, zW⟩ := unhide HE; have := unhide ZS1; omega) hb1)
 have B1 := hide (Below.step (unhide BX0) hb1)
 have AB1_1 := hide (Ab.mono (B := W.heap.size) ab1 (unhide ZS1).1)
 have AB0_1 := hide ((unhide ABx0_0).below hb1)
 clear ab1 hb1
 have ca0 := (unhide HA_1).1 0 _ rfl
 have ca1 := (unhide HA_1).1 1 _ rfl
 have ca2 := (unhide HA_1).1 2 _ rfl
 have ca3 := (unhide HA_1).1 3 _ rfl
 have ca4 := (unhide HA_1).1 4 _ rfl
 have ca5 := (unhide HA_1).1 5 _ rfl
 have ca6 := (unhide HA_1).1 6 _ rfl
 have ca7 := (unhide HA_1).1 7 _ rfl
 have cc0 := (unhide HC_1).1 0 _ rfl
 have cc1 := (unhide HC_1).1 1 _ rfl
 have cc2 := (unhide HC_1).1 2 _ rfl
 have cc3 := (unhide HC_1).1 3 _ rfl
 have cc4 := (unhide HC_1).1 4 _ rfl
 have cc5 := (unhide HC_1).1 5 _ rfl
 have cc6 := (unhide HC_1).1 6 _ rfl
 have cc7 := (unhide HC_1).1 7 _ rfl
 have fC := (unhide HC_1).2
 have hAC : ¬ C = A := by obtain ⟨eA, eR, eC, zW⟩ := unhide HE; omega
 go_wp2_with fail
 clear ca0 ca1 ca2 ca3 ca4 ca5 ca6 ca7 cc0 cc1 cc2 cc3 cc4 cc5 cc6 cc7 fC hAC
 obtain ⟨X1, hX1⟩ : ∃ X, X = (((w1.setCell ⟨C, 1, none⟩ (.slice p1 n2 d1)).setCell ⟨C, 2, none⟩ (.int .u64 ow)).setCell ⟨C, 3, none⟩ (.int .i64 mo)) := ⟨_, rfl⟩
 have HAx1 : Hid (CellsAre X1 A [.slice pp n1 a1, .slice pv n2 a2, .int .u64 ow, .int .i64 mo, .slice ph n3 a3, .int .u64 ep, .int .u64 ge, .slice pu n4 a4]) := by show CellsAre _ _ _; rw [hX1]; exact CellsAre.far (CellsAre.far (CellsAre.far (unhide HA_1) (a := ⟨C, 1, none⟩) (by obtain ⟨eA, eR, eC, zW⟩ := unhide HE; simp; omega) _) (a := ⟨C, 2, none⟩) (by obtain ⟨eA, eR, eC, zW⟩ := unhide HE; simp; omega) _) (a := ⟨C, 3, none⟩) (by obtain ⟨eA, eR, eC, zW⟩ := unhide HE; simp; omega) _
 have HRRx1 : Hid (CellsAre X1 R [.slice none 0 0, .slice none 0 0, .int .u64 0, .int .i64 0, .slice none 0 0, .int .u64 0, .int .u64 0, .slice none 0 0]) := by show CellsAre _ _ _; rw [hX1]; exact CellsAre.far (CellsAre.far (CellsAre.far (unhide HRR_1) (a := ⟨C, 1, none⟩) (by obtain ⟨eA, eR, eC, zW⟩ := unhide HE; simp; omega) _) (a := ⟨C, 2, none⟩) (by obtain ⟨eA, eR, eC, zW⟩ := unhide HE; simp; omega) _) (a := ⟨C, 3, none⟩) (by obtain ⟨eA, eR, eC, zW⟩ := unhide HE; simp; omega) _
 have HCx1 : Hid (CellsAre X1 C [.slice p0 n1 d0, .slice p1 n2 d1, .int .u64 ow, .int .i64 mo, .slice none 0 0, .int .u64 0, .int .u64 0, .slice none 0 0]) := by show CellsAre _ _ _; rw [hX1]; exact CellsAre.near (CellsAre.near (CellsAre.near (unhide HC_1) 1 (by simp) (.slice p1 n2 d1)) 2 (by simp) (.int .u64 ow)) 3 (by simp) (.int .i64 mo)
 have BX1 : Hid (Below w.heap.size w X1) := by show Below _ _ _; rw [hX1]; exact Below.setCell (Below.setCell (Below.setCell (unhide B1) (p := ⟨C, 1, none⟩) (by obtain ⟨eA, eR, eC, zW⟩ := unhide HE; simp; omega) _) (p := ⟨C, 2, none⟩) (by obtain ⟨eA, eR, eC, zW⟩ := unhide HE; simp; omega) _) (p := ⟨C, 3, none⟩) (by obtain ⟨eA, eR, eC, zW⟩ := unhide HE; simp; omega) _
 have ABx0_1 : Hid (Ab W.heap.size X1 (fun u => (Rd u (.slice p0 n1 d0) P ∧ CapOK (.slice p0 n1 d0) ∧ Nf BZ u (.slice p0 n1 d0)))) := by show Ab _ _ _; rw [hX1]; exact Ab.set (Ab.set (Ab.set (unhide AB0_1) (a := ⟨C, 1, none⟩) (by obtain ⟨eA, eR, eC, zW⟩ := unhide HE; simp; omega) _) (a := ⟨C, 2, none⟩) (by obtain ⟨eA, eR, eC, zW⟩ := unhide HE; simp; omega) _) (a := ⟨C, 3, none⟩) (by obtain ⟨eA, eR, eC, zW⟩ := unhide HE; simp; omega) _
 have ABx1_1 : Hid (Ab W.heap.size X1 (fun u => (Rd u (.slice p1 n2 d1) V ∧ CapOK (.slice p1 n2 d1) ∧ Nf BZ u (.slice p1 n2 d1)))) := by show Ab _ _ _; rw [hX1]; exact Ab.set (Ab.set (Ab.set (unhide AB1_1) (a := ⟨C, 1, none⟩) (by obtain ⟨eA, eR, eC, zW⟩ := unhide HE; simp; omega) _) (a := ⟨C, 2, none⟩) (by obtain ⟨eA, eR, eC, zW⟩ := unhide HE; simp; omega) _) (a := ⟨C, 3, none⟩) (by obtain ⟨eA, eR, eC, zW⟩ := unhide HE; simp; omega) _
 have ZZX1 : Hid (W.heap.size ≤ X1.heap.size) := by show _ ≤ _; rw [hX1]; simp; have := unhide ZS1; omega
 rw [← hX1]
 clear hX1
 refine (toUint64S_aw ph a3 n3 H e3 _ BZ (Nat.le_trans hB (unhide BX1).size) (unhide R4 _ (unhide BX1)) m3).mono ?_
 rintro r w4 ⟨p4, d4, rfl, ab4, hb4⟩
 have ZS4 : Hid (W.heap.size ≤ X1.heap.size ∧ X1.heap.size ≤ w4.heap.size) := ⟨(unhide ZZX1), hb4.size⟩
 have HA_4 := hide ((unhide HAx1).below (by obtain ⟨eA, eR, eC, zW⟩ := unhide HE; have := unhide ZS4; omega) hb4)
 have HRR_4 := hide ((unhide HRRx1).below (by obtain ⟨eA, eR, eC, zW⟩ := unhide HE; have := unhide ZS4; omega) hb4)
 have HC_4 := hide ((unhide HCx1).below (by obtain ⟨eA, eR, eC, zW⟩ := unhide HE; have := unhide ZS4; omega) hb4)
 have B4 := hide (Below.step (unhide BX1) hb4)
 have AB4_4 := hide (Ab.mono (B := W.heap.size) ab4 (unhide ZS4).1)
 have AB0_4 := hide ((unhide ABx0_1).below hb4)
 have AB1_4 := hide ((unhide ABx1_1).below hb4)
 clear ab4 hb4
 have ca0 := (unhide HA_4).1 0 _ rfl
 have ca1 := (unhide HA_4).1 1 _ rfl
 have ca2 := (unhide HA_4).1 2 _ rfl
 have ca3 := (unhide HA_4).1 3 _ rfl
 have ca4 := (unhide HA_4).1 4 _ rfl
 have ca5 := (unhide HA_4).1 5 _ rfl
 have ca6 := (unhide HA_4).1 6 _ rfl
 have ca7 := (unhide HA_4).1 7 _ rfl
 have cc0 := (unhide HC_4).1 0 _ rfl
 have cc1 := (unhide HC_4).1 1 _ rfl
 have cc2 := (unhide HC_4).1 2 _ rfl
 have cc3 := (unhide HC_4).1 3 _ rfl
 have cc4 := (unhide HC_4).1 4 _ rfl
 have cc5 := (unhide HC_4).1 5 _ rfl
 have cc6 := (unhide HC_4).1 6 _ rfl
 have cc7 := (unhide HC_4).1 7 _ rfl
 have fC := (unhide HC_4).2
 have hAC : ¬ C = A := by obtain ⟨eA, eR, eC, zW⟩ := unhide HE; omega
 go_wp2_with fail
 clear ca0 ca1 ca2 ca3 ca4 ca5 ca6 ca7 cc0 cc1 cc2 cc3 cc4 cc5 cc6 cc7 fC hAC
 obtain ⟨X4, hX4⟩ : ∃ X, X = (((w4.setCell ⟨C, 4, none⟩ (.slice p4 n3 d4)).setCell ⟨C, 5, none⟩ (.int .u64 ep)).setCell ⟨C, 6, none⟩ (.int .u64 ge)) := ⟨_, rfl⟩
 have HAx4 : Hid (CellsAre X4 A [.slice pp n1 a1, .slice pv n2 a2, .int .u64 ow, .int .i64 mo, .slice ph n3 a3, .int .u64 ep, .int .u64 ge, .slice pu n4 a4]) := by show CellsAre _ _ _; rw [hX4]; exact CellsAre.far (CellsAre.far (CellsAre.far (unhide HA_4) (a := ⟨C, 4, none⟩) (by obtain ⟨eA, eR, eC, zW⟩ := unhide HE; simp; omega) _) (a := ⟨C, 5, none⟩) (by obtain ⟨eA, eR, eC, zW⟩ := unhide HE; simp; omega) _) (a := ⟨C, 6, none⟩) (by obtain ⟨eA, eR, eC, zW⟩ := unhide HE; simp; omega) _
 have HRRx4 : Hid (CellsAre X4 R [.slice none 0 0, .slice none 0 0, .int .u64 0, .int .i64 0, .slice none 0 0, .int .u64 0, .int .u64 0, .slice none 0 0]) := by show CellsAre _ _ _; rw [hX4]; exact CellsAre.far (CellsAre.far (CellsAre.far (unhide HRR_4) (a := ⟨C, 4, none⟩) (by obtain ⟨eA, eR, eC, zW⟩ := unhide HE; simp; omega) _) (a := ⟨C, 5, none⟩) (by obtain ⟨eA, eR, eC, zW⟩ := unhide HE; simp; omega) _) (a := ⟨C, 6, none⟩) (by obtain ⟨eA, eR, eC, zW⟩ := unhide HE; simp; omega) _
 have HCx4 : Hid (CellsAre X4 C [.slice p0 n1 d0, .slice p1 n2 d1, .int .u64 ow, .int .i64 mo, .slice p4 n3 d4, .int .u64 ep, .int .u64 ge, .slice none 0 0]) := by show CellsAre _ _ _; rw [hX4]; exact CellsAre.near (CellsAre.near (CellsAre.near (unhide HC_4) 4 (by simp) (.slice p4 n3 d4)) 5 (by simp) (.int .u64 ep)) 6 (by simp) (.int .u64 ge)
 have BX4 : Hid (Below w.heap.size w X4) := by show Below _ _ _; rw [hX4]; exact Below.setCell (Below.setCell (Below.setCell (unhide B4) (p := ⟨C, 4, none⟩) (by obtain ⟨eA, eR, eC, zW⟩ := unhide HE; simp; omega) _) (p := ⟨C, 5, none⟩) (by obtain ⟨eA, eR, eC, zW⟩ := unhide HE; simp; omega) _) (p := ⟨C, 6, none⟩) (by obtain ⟨eA, eR, eC, zW⟩ := unhide HE; simp; omega) _
 have ABx0_4 : Hid (Ab W.heap.size X4 (fun u => (Rd u (.slice p0 n1 d0) P ∧ CapOK (.slice p0 n1 d0) ∧ Nf BZ u (.slice p0 n1 d0)))) := by show Ab _ _ _; rw [hX4]; exact Ab.set (Ab.set (Ab.set (unhide AB0_4) (a := ⟨C, 4, none⟩) (by obtain ⟨eA, eR, eC, zW⟩ := unhide HE; simp; omega) _) (a := ⟨C, 5, none⟩) (by obtain ⟨eA, eR, eC, zW⟩ := unhide HE; simp; omega) _) (a := ⟨C, 6, none⟩) (by obtain ⟨eA, eR, eC, zW⟩ := unhide HE; simp; omega) _
 have ABx1_4 : Hid (Ab W.heap.size X4 (fun u => (Rd u (.slice p1 n2 d1) V ∧ CapOK (.slice p1 n2 d1) ∧ Nf BZ u (.slice p1 n2 d1)))) := by show Ab _ _ _; rw [hX4]; exact Ab.set (Ab.set (Ab.set (unhide AB1_4) (a := ⟨C, 4, none⟩) (by obtain ⟨eA, eR, eC, zW⟩ := unhide HE; simp; omega) _) (a := ⟨C, 5, none⟩) (by obtain ⟨eA, eR, eC, zW⟩ := unhide HE; simp; omega) _) (a := ⟨C, 6, none⟩) (by obtain ⟨eA, eR, eC, zW⟩ := unhide HE; simp; omega) _
 have ABx4_4 : Hid (Ab W.heap.size X4 (fun u => (RdU u (.slice p4 n3 d4) H ∧ Nf BZ u (.slice p4 n3 d4)))) := by show Ab _ _ _; rw [hX4]; exact Ab.set (Ab.set (Ab.set (unhide AB4_4) (a := ⟨C, 4, none⟩) (by obtain ⟨eA, eR, eC, zW⟩ := unhide HE; simp; omega) _) (a := ⟨C, 5, none⟩) (by obtain ⟨eA, eR, eC, zW⟩ := unhide HE; simp; omega) _) (a := ⟨C, 6, none⟩) (by obtain ⟨eA, eR, eC, zW⟩ := unhide HE; simp; omega) _
 have ZZX4 : Hid (W.heap.size ≤ X4.heap.size) := by show _ ≤ _; rw [hX4]; simp; have := unhide ZS4; omega
 rw [← hX4]
 clear hX4
 refine (toUint64S_aw pu a4 n4 U e4 _ BZ (Nat.le_trans hB (unhide BX4).size) (unhide R7 _ (unhide BX4)) m4).mono ?_
 rintro r w7 ⟨p7, d7, rfl, ab7, hb7⟩
 have ZS7 : Hid (W.heap.size ≤ X4.heap.size ∧ X4.heap.size ≤ w7.heap.size) := ⟨(unhide ZZX4), hb7.size⟩
 have HA_7 := hide ((unhide HAx4).below (by obtain ⟨eA, eR, eC, zW⟩ := unhide HE; have := unhide ZS7; omega) hb7)
 have HRR_7 := hide ((unhide HRRx4).below (by obtain ⟨eA, eR, eC, zW⟩ := unhide HE; have := unhide ZS7; omega) hb7)
 have HC_7 := hide ((unhide HCx4).below (by obtain ⟨eA, eR, eC, zW⟩ := unhide HE; have := unhide ZS7; omega) hb7)
 have B7 := hide (Below.step (unhide BX4) hb7)
 have AB7_7 := hide (Ab.mono (B := W.heap.size) ab7 (unhide ZS7).1)
 have AB0_7 := hide ((unhide ABx0_4).below hb7)
 have AB1_7 := hide ((unhide ABx1_4).below hb7)
 have AB4_7 := hide ((unhide ABx4_4).below hb7)
 clear ab7 hb7
 have ca0 := (unhide HA_7).1 0 _ rfl
 have ca1 := (unhide HA_7).1 1 _ rfl
 have ca2 := (unhide HA_7).1 2 _ rfl
 have ca3 := (unhide HA_7).1 3 _ rfl
 have ca4 := (unhide HA_7).1 4 _ rfl
 have ca5 := (unhide HA_7).1 5 _ rfl
 have ca6 := (unhide HA_7).1 6 _ rfl
 have ca7 := (unhide HA_7).1 7 _ rfl
 have cc0 := (unhide HC_7).1 0 _ rfl
 have cc1 := (unhide HC_7).1 1 _ rfl
 have cc2 := (unhide HC_7).1 2 _ rfl
 have cc3 := (unhide HC_7).1 3 _ rfl
 have cc4 := (unhide HC_7).1 4 _ rfl
 have cc5 := (unhide HC_7).1 5 _ rfl
 have cc6 := (unhide HC_7).1 6 _ rfl
 have cc7 := (unhide HC_7).1 7 _ rfl
 have fC := (unhide HC_7).2
 have hAC : ¬ C = A := by obtain ⟨eA, eR, eC, zW⟩ := unhide HE; omega
 have cr0 := (unhide HRR_7).1 0 _ rfl
 have cr1 := (unhide HRR_7).1 1 _ rfl
 have cr2 := (unhide HRR_7).1 2 _ rfl
 have cr3 := (unhide HRR_7).1 3 _ rfl
 have cr4 := (unhide HRR_7).1 4 _ rfl
 have cr5 := (unhide HRR_7).1 5 _ rfl
 have cr6 := (unhide HRR_7).1 6 _ rfl
 have cr7 := (unhide HRR_7).1 7 _ rfl
 have fR := (unhide HRR_7).2
 have hAR : ¬ R = A := by obtain ⟨eA, eR, eC, zW⟩ := unhide HE; omega
 have hRC : ¬ R = C := by obtain ⟨eA, eR, eC, zW⟩ := unhide HE; omega
 have hCR : ¬ C = R := by obtain ⟨eA, eR, eC, zW⟩ := unhide HE; omega
 go_wp2
 obtain ⟨eA, eR, eC, zW⟩ := unhide HE
 have zz := unhide ZS7
 refine bodyPost_ret (v := .agg #[.slice p0 n1 d0, .slice p1 n2 d1, .int .u64 ow, .int .i64 mo, .slice p4 n3 d4, .int .u64 ep, .int .u64 ge, .slice p7 n4 d7]) (by simp [results, Tryz.results91, go_sem, cc0, cc1, cc2, cc3, cc4, cc5, cc6, cc7, cr0, cr1, cr2, cr3, cr4, cr5, cr6, cr7, hAC, hAR, hRC, hCR]) rfl ⟨p0, d0, p1, d1, p4, d4, p7, d7, rfl, Ab.mono (B := w.heap.size) (B' := W.heap.size) ?_ (by omega), ?_⟩
 ·iterate 9 (refine Ab.set ?_ (by simp; omega) _)
  exact (unhide AB0_7).and ((unhide AB1_7).and ((unhide AB4_7).and (unhide AB7_7)))
 ·iterate 9 (refine Below.setCell ?_ (by simp; omega) _)
  exact unhide B7
end Go.Proofs.YtnbgnhhnpmmloaaGreatDoor
