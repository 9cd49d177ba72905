import Derived.Test.YtieofdbdkpdlcaaDoorLTm
namespace Go.Proofs.YtieofdbdkpdlcaaDoor
open Go.ChangeShapes Go.WideShapes Go.ChangeAt Go.RowKit
set_option linter.unusedVariables false
set_option linter.unusedSimpArgs false
set_option maxRecDepth 100000

set_option maxHeartbeats 3200000 in
theorem toState_ab (e g x t : Int) (p q : Option Addr) (c n d m : Nat) (ss : List Ses) (ns : List Nod) (en : Hid (ss.length = n)) (em : Hid (ns.length = m)) (w : World) (h : RdS w (.slice p n c) ss) (hN : RdN w (.slice q m d) ns) (hn : n ≤ 1048576) (hm : m ≤ 1048576) (he1 : Hid (∀ y ∈ ss, y.2.2.length ≤ 1048576 ∧ ∀ e ∈ y.2.2, e.2.length ≤ 1048576)) (he2 : Hid (∀ y ∈ ns, y.path.length ≤ 1048576 ∧ y.value.length ≤ 1048576 ∧ y.holders.length ≤ 1048576 ∧ y.watchers.length ≤ 1048576)) :
    Calls Tryd.prog 24 #[.agg #[.int .u64 e, .int .u64 g, .int .u64 x, .int .i64 t, .slice p n c, .slice q m d]] w fun r w' => ∃ p4 d4 p5 d5, r = .returned (.agg #[.int .u64 e, .int .u64 g, .int .u64 x, .int .i64 t, .slice p4 n d4, .slice p5 m d5]) ∧ Ab w.heap.size w' (fun u => RdSc u (.slice p4 n d4) ss ∧ RdN u (.slice p5 m d5) ns) ∧ Below w.heap.size w w' := by
  have R4 := hide fun (w' : World) (hb : Below w.heap.size w w') => h.below hb
  have R5 := hide fun (w' : World) (hb : Below w.heap.size w w') => hN.below hb
  clear h hN
  go_enter Tryd.func24, Tryd.ntmps24
  go_wp2_with fail
  obtain ⟨W1, hW1⟩ : ∃ W, W = w.alloc (.cells #[.int .u64 e, .int .u64 g, .int .u64 x, .int .i64 t, .slice p n c, .slice q m d] 42) := ⟨_, rfl⟩
  obtain ⟨W2, hW2⟩ : ∃ W, W = W1.alloc (.cells #[.int .u64 0, .int .u64 0, .int .u64 0, .int .i64 0, .slice none 0 0, .slice none 0 0] 48) := ⟨_, rfl⟩
  obtain ⟨W, hW⟩ : ∃ W, W = W2.alloc (.cells #[.int .u64 e, .int .u64 g, .int .u64 x, .int .i64 t, .slice none 0 0, .slice none 0 0] 48) := ⟨_, rfl⟩
  have z1 : W1.heap.size = w.heap.size + 1 := by rw [hW1]; simp
  have z2 : W2.heap.size = w.heap.size + 2 := by rw [hW2]; simp; omega
  have zW : W.heap.size = w.heap.size + 3 := by rw [hW]; simp; omega
  have b1 : Below w.heap.size w W1 := by rw [hW1]; exact (Below.refl _ _).alloc (Nat.le_refl _) _
  have b2 : Below W1.heap.size W1 W2 := by rw [hW2]; exact (Below.refl _ _).alloc (Nat.le_refl _) _
  have b3 : Below W2.heap.size W2 W := by rw [hW]; exact (Below.refl _ _).alloc (Nat.le_refl _) _
  have bW : Below w.heap.size w W := Below.step (Below.step b1 b2) b3
  obtain ⟨A, eA⟩ : ∃ A, A = w.heap.size := ⟨_, rfl⟩
  obtain ⟨R, eR⟩ : ∃ R, R = A + 1 := ⟨_, rfl⟩
  obtain ⟨C, eC⟩ : ∃ C, C = R + 1 := ⟨_, rfl⟩
  have hA : CellsAre W A [.int .u64 e, .int .u64 g, .int .u64 x, .int .i64 t, .slice p n c, .slice q m d] := by
    have h0 : CellsAre W1 A [.int .u64 e, .int .u64 g, .int .u64 x, .int .i64 t, .slice p n c, .slice q m d] := by rw [hW1, eA]; exact CellsAre.alloc w #[.int .u64 e, .int .u64 g, .int .u64 x, .int .i64 t, .slice p n c, .slice q m d] _
    exact (h0.below (by omega) b2).below (by omega) b3
  have hR : CellsAre W R [.int .u64 0, .int .u64 0, .int .u64 0, .int .i64 0, .slice none 0 0, .slice none 0 0] := by
    have h0 : CellsAre W2 R [.int .u64 0, .int .u64 0, .int .u64 0, .int .i64 0, .slice none 0 0, .slice none 0 0] := by
      rw [hW2, show R = W1.heap.size by omega]; exact CellsAre.alloc W1 #[.int .u64 0, .int .u64 0, .int .u64 0, .int .i64 0, .slice none 0 0, .slice none 0 0] _
    exact h0.below (by omega) b3
  have hC : CellsAre W C [.int .u64 e, .int .u64 g, .int .u64 x, .int .i64 t, .slice none 0 0, .slice none 0 0] := by rw [hW, show C = W2.heap.size by omega]; exact CellsAre.alloc W2 #[.int .u64 e, .int .u64 g, .int .u64 x, .int .i64 t, .slice none 0 0, .slice none 0 0] _
  rw [← hW1, ← hW2, ← hW, ← eA, ← eR, ← eC]
  have HE := hide (And.intro eA (And.intro eR (And.intro eC zW)))
  have BW := hide bW
  have HA := hide hA
  have HRR := hide hR
  have HC := hide hC
  clear hW hW1 hW2 eA eR eC zW bW z1 z2 b1 b2 b3 hA hR hC
  refine (toSessionS_ab p c n ss en _ (unhide R4 _ (unhide BW)) hn he1).mono ?_
  rintro r w4 ⟨p4, d4, rfl, ab4, hb4⟩
  have ZS4 : Hid (W.heap.size ≤ W.heap.size ∧ W.heap.size ≤ w4.heap.size) := ⟨Nat.le_refl _, hb4.size⟩
  have HA_4 := hide ((unhide HA).below (by obtain ⟨eA, eR, eC, zW⟩ := unhide HE; have := unhide ZS4; omega) hb4)
  have HRR_4 := hide ((unhide HRR).below (by obtain ⟨eA, eR, eC, zW⟩ := unhide HE; have := unhide ZS4; omega) hb4)
  have HC_4 := hide ((unhide HC).below (by obtain ⟨eA, eR, eC, zW⟩ := unhide HE; have := unhide ZS4; omega) hb4)
  have B4 := hide (Below.step (unhide BW) hb4)
  have AB4_4 := hide (Ab.mono (B := W.heap.size) ab4 (unhide ZS4).1)
  clear ab4 hb4
  have ca0 := (unhide HA_4).1 0 _ rfl
  have ca1 := (unhide HA_4).1 1 _ rfl
  have ca2 := (unhide HA_4).1 2 _ rfl
  have ca3 := (unhide HA_4).1 3 _ rfl
  have ca4 := (unhide HA_4).1 4 _ rfl
  have ca5 := (unhide HA_4).1 5 _ rfl
  have cc0 := (unhide HC_4).1 0 _ rfl
  have cc1 := (unhide HC_4).1 1 _ rfl
  have cc2 := (unhide HC_4).1 2 _ rfl
  have cc3 := (unhide HC_4).1 3 _ rfl
  have cc4 := (unhide HC_4).1 4 _ rfl
  have cc5 := (unhide HC_4).1 5 _ rfl
  have fC := (unhide HC_4).2
  have hAC : ¬ C = A := by obtain ⟨eA, eR, eC, zW⟩ := unhide HE; omega
  go_wp2_with fail
  clear ca0 ca1 ca2 ca3 ca4 ca5 cc0 cc1 cc2 cc3 cc4 cc5 fC hAC
  obtain ⟨X4, hX4⟩ : ∃ X, X = (w4.setCell ⟨C, 4, none⟩ (.slice p4 n d4)) := ⟨_, rfl⟩
  have HAx4 : Hid (CellsAre X4 A [.int .u64 e, .int .u64 g, .int .u64 x, .int .i64 t, .slice p n c, .slice q m d]) := by show CellsAre _ _ _; rw [hX4]; exact CellsAre.far (unhide HA_4) (a := ⟨C, 4, none⟩) (by obtain ⟨eA, eR, eC, zW⟩ := unhide HE; simp; omega) _
  have HRRx4 : Hid (CellsAre X4 R [.int .u64 0, .int .u64 0, .int .u64 0, .int .i64 0, .slice none 0 0, .slice none 0 0]) := by show CellsAre _ _ _; rw [hX4]; exact CellsAre.far (unhide HRR_4) (a := ⟨C, 4, none⟩) (by obtain ⟨eA, eR, eC, zW⟩ := unhide HE; simp; omega) _
  have HCx4 : Hid (CellsAre X4 C [.int .u64 e, .int .u64 g, .int .u64 x, .int .i64 t, .slice p4 n d4, .slice none 0 0]) := by show CellsAre _ _ _; rw [hX4]; exact CellsAre.near (unhide HC_4) 4 (by simp) (.slice p4 n d4)
  have BX4 : Hid (Below w.heap.size w X4) := by show Below _ _ _; rw [hX4]; exact Below.setCell (unhide B4) (p := ⟨C, 4, none⟩) (by obtain ⟨eA, eR, eC, zW⟩ := unhide HE; simp; omega) _
  have ABx4_4 : Hid (Ab W.heap.size X4 (fun u => RdSc u (.slice p4 n d4) ss)) := by show Ab _ _ _; rw [hX4]; exact Ab.set (unhide AB4_4) (a := ⟨C, 4, none⟩) (by obtain ⟨eA, eR, eC, zW⟩ := unhide HE; simp; omega) _
  have ZZX4 : Hid (W.heap.size ≤ X4.heap.size) := by show _ ≤ _; rw [hX4]; simp; have := unhide ZS4; omega
  rw [← hX4]
  clear hX4
  refine (toNodeS_ab q d m ns em _ (unhide R5 _ (unhide BX4)) hm he2).mono ?_
  rintro r w5 ⟨p5, d5, rfl, ab5, hb5⟩
  have ZS5 : Hid (W.heap.size ≤ X4.heap.size ∧ X4.heap.size ≤ w5.heap.size) := ⟨(unhide ZZX4), hb5.size⟩
  have HA_5 := hide ((unhide HAx4).below (by obtain ⟨eA, eR, eC, zW⟩ := unhide HE; have := unhide ZS5; omega) hb5)
  have HRR_5 := hide ((unhide HRRx4).below (by obtain ⟨eA, eR, eC, zW⟩ := unhide HE; have := unhide ZS5; omega) hb5)
  have HC_5 := hide ((unhide HCx4).below (by obtain ⟨eA, eR, eC, zW⟩ := unhide HE; have := unhide ZS5; omega) hb5)
  have B5 := hide (Below.step (unhide BX4) hb5)
  have AB5_5 := hide (Ab.mono (B := W.heap.size) ab5 (unhide ZS5).1)
  have AB4_5 := hide ((unhide ABx4_4).below hb5)
  clear ab5 hb5
  have ca0 := (unhide HA_5).1 0 _ rfl
  have ca1 := (unhide HA_5).1 1 _ rfl
  have ca2 := (unhide HA_5).1 2 _ rfl
  have ca3 := (unhide HA_5).1 3 _ rfl
  have ca4 := (unhide HA_5).1 4 _ rfl
  have ca5 := (unhide HA_5).1 5 _ rfl
  have cc0 := (unhide HC_5).1 0 _ rfl
  have cc1 := (unhide HC_5).1 1 _ rfl
  have cc2 := (unhide HC_5).1 2 _ rfl
  have cc3 := (unhide HC_5).1 3 _ rfl
  have cc4 := (unhide HC_5).1 4 _ rfl
  have cc5 := (unhide HC_5).1 5 _ rfl
  have fC := (unhide HC_5).2
  have hAC : ¬ C = A := by obtain ⟨eA, eR, eC, zW⟩ := unhide HE; omega
  have cr0 := (unhide HRR_5).1 0 _ rfl
  have cr1 := (unhide HRR_5).1 1 _ rfl
  have cr2 := (unhide HRR_5).1 2 _ rfl
  have cr3 := (unhide HRR_5).1 3 _ rfl
  have cr4 := (unhide HRR_5).1 4 _ rfl
  have cr5 := (unhide HRR_5).1 5 _ rfl
  have fR := (unhide HRR_5).2
  have hAR : ¬ R = A := by obtain ⟨eA, eR, eC, zW⟩ := unhide HE; omega
  have hRC : ¬ R = C := by obtain ⟨eA, eR, eC, zW⟩ := unhide HE; omega
  have hCR : ¬ C = R := by obtain ⟨eA, eR, eC, zW⟩ := unhide HE; omega
  go_wp2
  obtain ⟨eA, eR, eC, zW⟩ := unhide HE
  have zz := unhide ZS5
  refine bodyPost_ret (v := .agg #[.int .u64 e, .int .u64 g, .int .u64 x, .int .i64 t, .slice p4 n d4, .slice p5 m d5]) (by simp [results, Tryd.results24, go_sem, cc0, cc1, cc2, cc3, cc4, cc5, cr0, cr1, cr2, cr3, cr4, cr5, hAC, hAR, hRC, hCR]) rfl ⟨p4, d4, p5, d5, rfl, Ab.mono (B := w.heap.size) (B' := W.heap.size) ?_ (by omega), ?_⟩
  · iterate 7 (refine Ab.set ?_ (by simp; omega) _)
    exact (unhide AB4_5).and (unhide AB5_5)
  · iterate 7 (refine Below.setCell ?_ (by simp; omega) _)
    exact unhide B5
end Go.Proofs.YtieofdbdkpdlcaaDoor
