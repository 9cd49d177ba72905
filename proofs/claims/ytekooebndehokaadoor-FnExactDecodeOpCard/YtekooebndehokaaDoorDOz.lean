import Derived.Test.YtekooebndehokaaDoorDOw
namespace Go.Proofs.YtekooebndehokaaDoor
open Go.ChangeShapes Go.WideShapes Go.ChangeAt Go.RowKit
set_option linter.unusedVariables false
set_option linter.unusedSimpArgs false
set_option maxRecDepth 100000

set_option maxHeartbeats 4000000 in
theorem implDec_yes (p : Option Addr) (c n : Nat) (l : List Int) (en : Hid (l.length = n)) (w : World) (h : Rd w (.slice p n c) l) (hl : n ≤ 1048576) (hnc : n ≤ c) (hp : Hid ((p = none ∧ c = 0) ∨ ∃ b o, p = some ⟨b, o, none⟩)) (hblk : Hid (∀ b o, p = some ⟨b, o, none⟩ → b < w.heap.size)) (hT : Tab w)
    (k s f : Int) (P V m1 m2 m3 m4 m5 : List Int) (n1 n2 n3 n4 n5 NP NV : Nat) (t1 t2 t3 t4 t5 : Bool) (C1 : Hid (SmallC l n false k m1 n1 t1)) (C2 : Hid (NumberC m1 n1 t1 s m2 n2 t2)) (C3 : Hid (TextC m2 n2 t2 P NP m3 n3 t3)) (C4 : Hid (SmallC m3 n3 t3 f m4 n4 t4)) (C5 : Hid (TextC m4 n4 t4 V NV m5 n5 t5)) (LE : List Int) (NE : Nat) (eLE : Hid (LE.length = NE)) (BL : Hid (Byt LE)) (HB : Hid (Byt l)) (E : Hid (EncRes 14 w k s f 0 0 NP NV NE P V LE)) (eD : Hid (decide (LE = l) = true)) (ht5 : t5 = false) :
    Calls Tryd.prog 20 #[.slice p n c] w fun r w' => ∃ p' c' q' d' B, r = .returned (.tuple #[opV k s (.slice p' NP c') f (.slice q' NV d') 0 0, .int .i64 0]) ∧ w.heap.size ≤ B ∧ Own w.heap.size w' (.slice p' NP c') P ∧ Btw w.heap.size B (.slice p' NP c') ∧ Own B w' (.slice q' NV d') V ∧ Below w.heap.size w w' := by
  have HH := hide h
  have HT := hide hT
  clear h hT
  go_enter Tryd.func20, Tryd.ntmps20
  go_wp2_with fail
  obtain ⟨W, hW⟩ : ∃ W, W = (w.alloc (.cells #[.int .i64 0, .int .u64 0, .slice none 0 0, .int .i64 0, .slice none 0 0, .int .u64 0, .int .u64 0] 31)).alloc (.cells #[.slice p n c, .bool false] 70) := ⟨_, rfl⟩
  have bW : Below w.heap.size w W := by rw [hW]; exact bel_alloc (bel_alloc (Below.refl _ _) _) _
  obtain ⟨R0, eR0⟩ : ∃ R0, R0 = w.heap.size := ⟨_, rfl⟩
  obtain ⟨R, eR⟩ : ∃ R, R = R0 + 1 := ⟨_, rfl⟩
  have hR0 : At7 W R0 (.int .i64 0) (.int .u64 0) (.slice none 0 0) (.int .i64 0) (.slice none 0 0) (.int .u64 0) (.int .u64 0) := by rw [hW, eR0]; simp [At7, go_sem]
  have fR0 : ∀ o, W.frozen? ⟨R0, o, none⟩ = false := fun o => by rw [hW, eR0]; simp [go_sem]
  have zW : W.heap.size = R + 1 := by rw [hW, eR, eR0]; simp
  have hRd : Rdr W R l n false := by
    refine ⟨unhide en, fun o => by rw [hW, eR, eR0]; simp [go_sem], p, c, ?_, ?_, hnc, unhide hp⟩
    · rw [hW, eR, eR0]; simp [At2, go_sem]
    · obtain ⟨p', c', ev, hc⟩ := (unhide HH).below bW
      simp only [Value.slice.injEq] at ev
      obtain ⟨rfl, -, -⟩ := ev
      rcases hc with hc | ⟨b, o, rfl, hc⟩
      · exact .inl hc
      · exact .inr ⟨b, o, by have := unhide hblk b o rfl; omega, rfl, hc⟩
  rw [← hW, ← eR0, ← eR]
  clear hW
  have HE := hide (And.intro eR0 eR)
  have g1 : R0 < R := by omega
  have gR0 : w.heap.size ≤ R0 := by omega
  have gw : w.heap.size ≤ R := by omega
  have zR : R < W.heap.size := by omega
  clear eR0 eR zW
  refine (unhide C1 R _ hRd).mono ?_
  rintro r w1 ⟨rfl, hR1, K1⟩
  have A1 := hR0.keptR K1 (by omega) (by omega)
  have F1 := frozen_keptR fR0 K1 (by omega) (by omega)
  have b1 := below_keptR bW K1 (by omega)
  have z1 := K1.size
  clear hR0 fR0 bW K1 hRd
  go_wp2_with fail
  refine (unhide C2 R _ hR1).mono ?_
  rintro r w2 ⟨rfl, hR2, K2⟩
  have A2 := A1.keptR K2 (by omega) (by omega)
  have F2 := frozen_keptR F1 K2 (by omega) (by omega)
  have b2 := below_keptR b1 K2 (by omega)
  have z2 := K2.size
  clear A1 F1 b1 K2 hR1
  go_wp2_with fail
  refine (unhide C3 R _ hR2 (by omega)).mono ?_
  rintro r w3 ⟨p3, c3, rfl, o3, hR3, K3⟩
  have A3 := A2.keptR K3 (by omega) (by omega)
  have F3 := frozen_keptR F2 K3 (by omega) (by omega)
  have b3 := below_keptR b2 K3 (by omega)
  have z3 := K3.size
  clear A2 F2 b2 K3 hR2
  go_wp2_with fail
  refine (unhide C4 R _ hR3).mono ?_
  rintro r w4 ⟨rfl, hR4, K4⟩
  have A4 := A3.keptR K4 (by omega) (by omega)
  have F4 := frozen_keptR F3 K4 (by omega) (by omega)
  have b4 := below_keptR b3 K4 (by omega)
  have o4 := Own.keptR o3 K4 (by omega)
  have tP := o4.btw
  have z4 := K4.size
  clear A3 F3 b3 K4 hR3 o3
  go_wp2_with fail
  refine (unhide C5 R _ hR4 (by omega)).mono ?_
  rintro r w5 ⟨p5, c5, rfl, o5, hR5, K5⟩
  have A5 := A4.keptR K5 (by omega) (by omega)
  have F5 := frozen_keptR F4 K5 (by omega) (by omega)
  have b5 := below_keptR b4 K5 (by omega)
  have o45 := Own.keptR o4 K5 (by omega)
  have z5 := K5.size
  clear A4 F4 b4 K5 hR4 o4
  obtain ⟨_, fr5, pr, cr, ⟨i0, i1⟩, _⟩ := hR5
  have bo : ∀ ob : Obj, Below w5.heap.size w5 (w5.alloc ob) := fun ob => (Below.refl _ _).alloc (Nat.le_refl _) _
  have qs := fun ob => cell_below i1 (bo ob)
  have q0 := fun ob => cell_below A5.1 (bo ob)
  have q1 := fun ob => cell_below A5.2.1 (bo ob)
  have q2 := fun ob => cell_below A5.2.2.1 (bo ob)
  have q3 := fun ob => cell_below A5.2.2.2.1 (bo ob)
  have q4 := fun ob => cell_below A5.2.2.2.2.1 (bo ob)
  have q5 := fun ob => cell_below A5.2.2.2.2.2.1 (bo ob)
  have q6 := fun ob => cell_below A5.2.2.2.2.2.2 (bo ob)
  have qf := fun (ob : Obj) => frozen_bel F5 (by omega) (bo ob)
  obtain ⟨X, hX⟩ : ∃ X, X = (w5.alloc (.cells #[.int .i64 k, .int .u64 s, .slice p3 NP c3, .int .i64 f, .slice p5 NV c5, .int .u64 0, .int .u64 0] 31)) := ⟨_, rfl⟩
  have baX : Below w5.heap.size w5 X := by rw [hX]; exact bo _
  have bX : Below w.heap.size w X := Below.step b5 baX
  have AX := A5.below baX
  have FX := frozen_bel F5 (by omega) baX
  have OX : At7 X w5.heap.size (.int .i64 k) (.int .u64 s) (.slice p3 NP c3) (.int .i64 f) (.slice p5 NV c5) (.int .u64 0) (.int .u64 0) := by rw [hX]; simp [At7, go_sem]
  have zX : w5.heap.size < X.heap.size := by rw [hX]; simp
  have xP := Own.below o45 baX
  have xV := Own.below o5 baX
  clear A5 F5 i0 i1 fr5 o45 o5 baX bo
  subst ht5
  go_wp2_with fail
  rw [← hX]
  clear hX q0 q1 q2 q3 q4 q5 q6 qf qs
  refine (unhide E p3 p5 c3 c5 _ bX xP.rd xV.rd).mono ?_
  rintro r x1 ⟨p6, c6, rfl, o6, hb6⟩
  have bx1 := Below.step bX hb6
  have A6 := AX.below hb6
  have O6 := OX.below hb6
  have F6 := frozen_bel FX (by omega) hb6
  have zx1 := hb6.size
  have xP6 := Own.below xP hb6
  have xV6 := Own.below xV hb6
  clear AX FX OX xP xV bX hb6
  go_wp2_with fail
  refine (bytesEqual_any p6 p c6 c NE n LE l eLE en _ o6.rd ((unhide HH).below bx1) (unhide BL) (unhide HB)).mono ?_
  rintro r x2 ⟨rfl, hb7⟩
  rw [unhide eD]
  have bx2 := hide (Below.step bx1 hb7)
  have A7 := A6.below hb7
  have O7 := O6.below hb7
  have F7 := frozen_bel F6 (by omega) hb7
  have xP7 := hide (Own.below xP6 hb7)
  have xV7 := hide (Own.below xV6 hb7)
  have hne : ¬ R0 = w5.heap.size := by omega
  have hne' : ¬ w5.heap.size = R0 := by omega
  have hz1 : R0 < w2.heap.size := by omega
  have hz2 : R0 < w4.heap.size := by omega
  have hz3 : w.heap.size ≤ w2.heap.size := by omega
  have hz4 : w.heap.size ≤ w4.heap.size := by omega
  have HZ := hide (And.intro hz1 (And.intro hz2 (And.intro hz3 hz4)))
  clear A6 O6 F6 hb7 bx1 o6 xP6 xV6 hz1 hz2 hz3 hz4
  obtain ⟨r0, r1, r2, r3, r4, r5, r6⟩ := id A7
  obtain ⟨j0, j1, j2, j3, j4, j5, j6⟩ := id O7
  clear A7 O7
  go_wp2
  obtain ⟨hz1, hz2, hz3, hz4⟩ := unhide HZ
  refine bodyPost_ret (v := .tuple #[opV k s (.slice p3 NP c3) f (.slice p5 NV c5) 0 0, .int .i64 0]) (by simp [results, Tryd.results20, go_sem, r0, r1, r2, r3, r4, r5, r6]) rfl ⟨p3, c3, p5, c5, w4.heap.size, rfl, hz4, ?_, fun b hb => by have := tP b hb; omega, ?_, ?_⟩
  · refine Own.mono (B := w2.heap.size) ?_ hz3
    iterate 7 (refine ownsRow_setCell_below ?_ hz1 _)
    exact unhide xP7
  · iterate 7 (refine ownsRow_setCell_below ?_ hz2 _)
    exact unhide xV7
  · iterate 7 (refine Below.setCell ?_ gR0 _)
    exact unhide bx2
end Go.Proofs.YtekooebndehokaaDoor
