import Derived.Test.YtieofdbdkpdlcaaDoorJB
import Derived.Test.YtieofdbdkpdlcaaDoorGC
namespace Go.Proofs.YtieofdbdkpdlcaaDoor
open Go.ChangeShapes Go.WideShapes Go.ChangeAt Go.RowKit
set_option linter.unusedVariables false
set_option linter.unusedSimpArgs false
set_option maxRecDepth 100000

/-- a request as a value -/
abbrev opV (k s : Int) (P : Value) (f : Int) (V : Value) (e g : Int) : Value := .agg #[.int .i64 k, .int .u64 s, P, .int .i64 f, V, .int .u64 e, .int .u64 g]

set_option maxHeartbeats 400000 in
theorem szOp_small (k s f e g : Int) (p q : Option Addr) (n m c d : Nat) (w : World) (h : n + m ≤ 1048576) :
    Calls Tryd.prog 11 #[opV k s (.slice p n c) f (.slice q m d) e g, .int .i64 1048576] w fun e w' => e = .returned (.int .i64 (1048576 - n - m)) ∧ Below w.heap.size w w' := by
  have h1 : szLeft n 1048576 = 1048576 - n := by unfold szLeft; rw [if_neg (by omega)]
  have h2 : szLeft m (1048576 - n) = 1048576 - n - m := by unfold szLeft; rw [if_neg (by omega)]
  obtain ⟨L1, e1⟩ : ∃ L1 : Nat, (1048576 : Int) - (n : Int) = (L1 : Int) := ⟨1048576 - n, by omega⟩
  obtain ⟨L2, e2⟩ : ∃ L2 : Nat, (L1 : Int) - (m : Int) = (L2 : Int) := ⟨L1 - m, by omega⟩
  rw [e1] at h1 h2 ⊢
  rw [e2] at h2 ⊢
  have g1 : ¬ (L1 : Int) < 0 := by omega
  have g2 : ¬ (L2 : Int) < 0 := by omega
  have hl1 : (L1 : Int) ≤ 1048576 := by omega
  clear e1 e2
  go_enter Tryd.func11, Tryd.ntmps11
  go_wp2_with fail
  refine (szByteS_any p n c 1048576 _ (by unfold maxLen; omega) (by omega) (by omega)).mono ?_
  rintro e w' ⟨rfl, rfl⟩
  rw [h1]
  go_wp2_with fail
  refine (szByteS_any q m d L1 _ (by unfold maxLen; omega) (by omega) (by omega)).mono ?_
  rintro e w' ⟨rfl, rfl⟩
  rw [h2]
  go_wp2
  go_ret
  exact ⟨rfl, (Below.refl _ _).alloc (Nat.le_refl _) _⟩

set_option maxHeartbeats 400000 in
theorem szOp_big (k s f e g : Int) (p q : Option Addr) (n m c d : Nat) (w : World) (hn : n ≤ maxLen) (hm : m ≤ maxLen) (h : 1048576 < n + m) :
    Calls Tryd.prog 11 #[opV k s (.slice p n c) f (.slice q m d) e g, .int .i64 1048576] w fun e w' => e = .returned (.int .i64 (-1)) ∧ Below w.heap.size w w' := by
  by_cases hb : n ≤ 1048576
  · have h1 : szLeft n 1048576 = 1048576 - n := by unfold szLeft; rw [if_neg (by omega)]
    have h2 : szLeft m (1048576 - n) = -1 := by unfold szLeft; rw [if_pos (by omega)]
    obtain ⟨L1, e1⟩ : ∃ L1 : Nat, (1048576 : Int) - (n : Int) = (L1 : Int) := ⟨1048576 - n, by omega⟩
    rw [e1] at h1 h2
    have g1 : ¬ (L1 : Int) < 0 := by omega
    have hl1 : (L1 : Int) ≤ 1048576 := by omega
    clear e1
    go_enter Tryd.func11, Tryd.ntmps11
    go_wp2_with fail
    refine (szByteS_any p n c 1048576 _ hn (by omega) (by omega)).mono ?_
    rintro e w' ⟨rfl, rfl⟩
    rw [h1]
    go_wp2_with fail
    refine (szByteS_any q m d L1 _ hm (by omega) (by omega)).mono ?_
    rintro e w' ⟨rfl, rfl⟩
    rw [h2]
    go_wp2
    go_ret
    exact ⟨rfl, (Below.refl _ _).alloc (Nat.le_refl _) _⟩
  · have h1 : szLeft n 1048576 = -1 := by unfold szLeft; rw [if_pos (by omega)]
    go_enter Tryd.func11, Tryd.ntmps11
    go_wp2_with fail
    refine (szByteS_any p n c 1048576 _ hn (by omega) (by omega)).mono ?_
    rintro e w' ⟨rfl, rfl⟩
    rw [h1]
    go_wp2
    go_ret
    exact ⟨rfl, (Below.refl _ _).alloc (Nat.le_refl _) _⟩

/-- seven cells of a block -/
abbrev At7 (w : World) (b : Nat) (v0 v1 v2 v3 v4 v5 v6 : Value) : Prop := w.cell? ⟨b, 0, none⟩ = some v0 ∧ w.cell? ⟨b, 1, none⟩ = some v1 ∧ w.cell? ⟨b, 2, none⟩ = some v2 ∧ w.cell? ⟨b, 3, none⟩ = some v3 ∧ w.cell? ⟨b, 4, none⟩ = some v4 ∧ w.cell? ⟨b, 5, none⟩ = some v5 ∧ w.cell? ⟨b, 6, none⟩ = some v6
theorem At7.below {w w' : World} {b : Nat} {v0 v1 v2 v3 v4 v5 v6 : Value} (h : At7 w b v0 v1 v2 v3 v4 v5 v6) (hb : Below w.heap.size w w') : At7 w' b v0 v1 v2 v3 v4 v5 v6 :=
  ⟨cell_below h.1 hb, cell_below h.2.1 hb, cell_below h.2.2.1 hb, cell_below h.2.2.2.1 hb, cell_below h.2.2.2.2.1 hb, cell_below h.2.2.2.2.2.1 hb, cell_below h.2.2.2.2.2.2 hb⟩
theorem frozen_bel {w w' : World} {b : Nat} (h : ∀ o, w.frozen? ⟨b, o, none⟩ = false) (hl : b < w.heap.size) (hb : Below w.heap.size w w') : ∀ o, w'.frozen? ⟨b, o, none⟩ = false := fun o => (hb.frozen (p := ⟨b, o, none⟩) hl).trans (h o)

set_option maxHeartbeats 1600000 in
theorem toOp_n (k s f e g : Int) (p q : Option Addr) (n m c d : Nat) (P V : List Int) (ep : Hid (P.length = n)) (ev : Hid (V.length = m)) (w : World) (hp : Rd w (.slice p n c) P) (hv : Rd w (.slice q m d) V) (hn : n ≤ 1048576) (hm : m ≤ 1048576) :
    Calls Tryd.prog 13 #[opV k s (.slice p n c) f (.slice q m d) e g] w fun r w' => ∃ p' c' q' d' B, r = .returned (opV k s (.slice p' n c') f (.slice q' m d') e g) ∧ w.heap.size ≤ B ∧ Own w.heap.size w' (.slice p' n c') P ∧ Btw w.heap.size B (.slice p' n c') ∧ Own B w' (.slice q' m d') V ∧ Below w.heap.size w w' := by
  have hR := hide fun (w' : World) (hb : Below w.heap.size w w') => hp.below hb
  have hV := hide fun (w' : World) (hb : Below w.heap.size w w') => hv.below hb
  clear hp hv
  go_enter Tryd.func13, Tryd.ntmps13
  go_wp2_with fail
  obtain ⟨W, hW⟩ : ∃ W, W = (((w.alloc (.cells #[.int .i64 k, .int .u64 s, .slice p n c, .int .i64 f, .slice q m d, .int .u64 e, .int .u64 g] 28)).alloc (.cells #[.int .i64 0, .int .u64 0, .slice none 0 0, .int .i64 0, .slice none 0 0, .int .u64 0, .int .u64 0] 31)).alloc (.cells #[.int .i64 k, .int .u64 s, .slice none 0 0, .int .i64 0, .slice none 0 0, .int .u64 0, .int .u64 0] 31)) := ⟨_, rfl⟩
  have bW : Below w.heap.size w W := by rw [hW]; exact (((Below.refl _ _).alloc (Nat.le_refl _) _).alloc (by simp) _).alloc (by simp; omega) _
  have zW : W.heap.size = w.heap.size + 3 := by rw [hW]; simp
  obtain ⟨A, eA⟩ : ∃ A, A = w.heap.size := ⟨_, rfl⟩
  obtain ⟨R, eR⟩ : ∃ R, R = A + 1 := ⟨_, rfl⟩
  obtain ⟨C, eC⟩ : ∃ C, C = R + 1 := ⟨_, rfl⟩
  have hA : At7 W A (.int .i64 k) (.int .u64 s) (.slice p n c) (.int .i64 f) (.slice q m d) (.int .u64 e) (.int .u64 g) := by rw [hW, eA]; simp [At7, go_sem]
  have hC : At7 W C (.int .i64 k) (.int .u64 s) (.slice none 0 0) (.int .i64 0) (.slice none 0 0) (.int .u64 0) (.int .u64 0) := by rw [hW, eC, eR, eA]; simp [At7, go_sem]
  have fC : ∀ o, W.frozen? ⟨C, o, none⟩ = false := fun o => by rw [hW, eC, eR, eA]; simp [go_sem]
  have hRR : At7 W R (.int .i64 0) (.int .u64 0) (.slice none 0 0) (.int .i64 0) (.slice none 0 0) (.int .u64 0) (.int .u64 0) := by rw [hW, eR, eA]; simp [At7, go_sem]
  have fR : ∀ o, W.frozen? ⟨R, o, none⟩ = false := fun o => by rw [hW, eR, eA]; simp [go_sem]
  rw [← hW, ← eA, ← eR, ← eC]
  clear hW
  have HE := hide (And.intro eA (And.intro eR eC))
  have HZ := hide zW
  refine (toByteS_n p c n P ep _ (unhide hR _ bW) hn).mono ?_
  rintro r w1 ⟨p', c', rfl, ho, hb1⟩
  have hA1 := hA.below hb1
  have hC1 := hC.below hb1
  have fC1 := frozen_bel fC (by omega) hb1
  have hR1 := hRR.below hb1
  have fR1 := frozen_bel fR (by omega) hb1
  have b1 := Below.step bW hb1
  have z1 := hb1.size
  have HO := hide ho
  have HB := hide b1
  have HZ1 := hide z1
  have HRR := hide (And.intro hR1 fR1)
  clear hA hC fC bW ho hb1 b1 z1 zW eA eC eR hRR fR hR1 fR1
  obtain ⟨a0, a1, a2, a3, a4, a5, a6⟩ := hA1
  obtain ⟨c0, c1, c2, c3, c4, c5, c6⟩ := hC1
  go_wp2_with fail
  obtain ⟨X, hX⟩ : ∃ X, X = ((w1.setCell ⟨C, 2, none⟩ (.slice p' n c')).setCell ⟨C, 3, none⟩ (.int .i64 f)) := ⟨_, rfl⟩
  obtain ⟨eA, eR, eC⟩ := unhide HE
  have hAC : ¬ C = A := by omega
  have hRC : ¬ C = R := by omega
  have zX : X.heap.size = w1.heap.size := by rw [hX]; simp
  have hA2 : At7 X A (.int .i64 k) (.int .u64 s) (.slice p n c) (.int .i64 f) (.slice q m d) (.int .u64 e) (.int .u64 g) := by rw [hX]; simp [At7, go_sem, hAC, a0, a1, a2, a3, a4, a5, a6]
  have hC2 : At7 X C (.int .i64 k) (.int .u64 s) (.slice p' n c') (.int .i64 f) (.slice none 0 0) (.int .u64 0) (.int .u64 0) := by rw [hX]; simp [At7, go_sem, c0, c1, c2, c3, c4, c5, c6]
  have fC2 : ∀ o, X.frozen? ⟨C, o, none⟩ = false := fun o => by rw [hX]; simp [fC1]
  have hR2 : At7 X R (.int .i64 0) (.int .u64 0) (.slice none 0 0) (.int .i64 0) (.slice none 0 0) (.int .u64 0) (.int .u64 0) := by
    obtain ⟨⟨r0, r1, r2, r3, r4, r5, r6⟩, _⟩ := unhide HRR
    rw [hX]; simp [At7, go_sem, hRC, r0, r1, r2, r3, r4, r5, r6]
  have fR2 : ∀ o, X.frozen? ⟨R, o, none⟩ = false := fun o => by rw [hX]; simp [(unhide HRR).2]
  have z1 := unhide HZ1
  have zW := unhide HZ
  have bX : Below w.heap.size w X := by rw [hX]; exact ((unhide HB).setCell (by simp; omega) _).setCell (by simp; omega) _
  have oX : Own W.heap.size X (.slice p' n c') P := by rw [hX]; exact ownsRow_setCell_below (ownsRow_setCell_below (unhide HO) (by simp; omega) _) (by simp; omega) _
  rw [← hX]
  clear hX a0 a1 a2 a3 a4 a5 a6 c0 c1 c2 c3 c4 c5 c6 fC1 hAC hRC HRR
  have BX := hide bX
  have OX := hide oX
  refine (toByteS_n q d m V ev _ (unhide hV _ bX) hm).mono ?_
  rintro r w2 ⟨q', d', rfl, ho2, hb2⟩
  have hA3 := hA2.below hb2
  have hC3 := hC2.below hb2
  have fC3 := frozen_bel fC2 (by omega) hb2
  have hR3 := hR2.below hb2
  have fR3 := frozen_bel fR2 (by omega) hb2
  have z2 := hb2.size
  have B2 := hide (Below.step bX hb2)
  have O1 := hide (Own.below oX hb2)
  have O2 := hide ho2
  have HZ2 := hide (And.intro eA (And.intro (And.intro eR eC) (And.intro zX (And.intro z1 (And.intro zW z2)))))
  clear hA2 hC2 fC2 bX oX ho2 hb2 eA eC zX z1 zW z2 eR hR2 fR2
  obtain ⟨a0, a1, a2, a3, a4, a5, a6⟩ := hA3
  obtain ⟨c0, c1, c2, c3, c4, c5, c6⟩ := hC3
  obtain ⟨r0, r1, r2, r3, r4, r5, r6⟩ := hR3
  have hAC : ¬ C = A := by obtain ⟨h1, ⟨h2, h3⟩, _⟩ := unhide HZ2; omega
  have hAR : ¬ R = A := by obtain ⟨h1, ⟨h2, h3⟩, _⟩ := unhide HZ2; omega
  have hRC : ¬ R = C := by obtain ⟨h1, ⟨h2, h3⟩, _⟩ := unhide HZ2; omega
  have hCR : ¬ C = R := by obtain ⟨h1, ⟨h2, h3⟩, _⟩ := unhide HZ2; omega
  go_wp2
  obtain ⟨eA, ⟨eR, eC⟩, zX, z1, zW, z2⟩ := unhide HZ2
  refine bodyPost_ret (v := opV k s (.slice p' n c') f (.slice q' m d') e g) (by simp [results, Tryd.results13, go_sem, c0, c1, c2, c3, c4, c5, c6, r0, r1, r2, r3, r4, r5, r6, hAC, hAR, hRC, hCR]) rfl ⟨p', c', q', d', X.heap.size, rfl, by omega, Own.mono (B := W.heap.size) ?_ (by omega), ?_, ?_, ?_⟩
  · repeat (refine ownsRow_setCell_below ?_ (by simp; omega) _)
    exact unhide O1
  · intro b hb
    have := (unhide OX).lt b hb
    omega
  · repeat (refine ownsRow_setCell_below ?_ (by simp; omega) _)
    exact unhide O2
  · repeat (refine Below.setCell ?_ (by simp; omega) _)
    exact unhide B2

set_option maxHeartbeats 800000 in
theorem eqOp_n (k s f e g : Int) (p q p' q' : Option Addr) (n m c d c' d' : Nat) (P V : List Int) (ep : Hid (P.length = n)) (ev : Hid (V.length = m)) (w : World) (hp : Rd w (.slice p n c) P) (hv : Rd w (.slice q m d) V) (hp' : Rd w (.slice p' n c') P) (hv' : Rd w (.slice q' m d') V) (hn : n ≤ 1048576) (hm : m ≤ 1048576) :
    Calls Tryd.prog 15 #[opV k s (.slice p n c) f (.slice q m d) e g, opV k s (.slice p' n c') f (.slice q' m d') e g] w fun r w' => r = .returned (.bool true) ∧ Below w.heap.size w w' := by
  have hR := hide fun (w' : World) (hb : Below w.heap.size w w') => And.intro (hp.below hb) (hp'.below hb)
  have hV := hide fun (w' : World) (hb : Below w.heap.size w w') => And.intro (hv.below hb) (hv'.below hb)
  clear hp hv hp' hv'
  have e1 : (k != k) = false := by simp
  have e2 : (s != s) = false := by simp
  have e3 : (f != f) = false := by simp
  have e4 : (e != e) = false := by simp
  have e5 : (g != g) = false := by simp
  go_enter Tryd.func15, Tryd.ntmps15
  go_wp2_with fail
  obtain ⟨W, hW⟩ : ∃ W, W = ((w.alloc (.cells #[.int .i64 k, .int .u64 s, .slice p n c, .int .i64 f, .slice q m d, .int .u64 e, .int .u64 g] 31)).alloc (.cells #[.int .i64 k, .int .u64 s, .slice p' n c', .int .i64 f, .slice q' m d', .int .u64 e, .int .u64 g] 31)) := ⟨_, rfl⟩
  have bW : Below w.heap.size w W := by rw [hW]; exact ((Below.refl _ _).alloc (Nat.le_refl _) _).alloc (by simp) _
  have hA : At7 W w.heap.size (.int .i64 k) (.int .u64 s) (.slice p n c) (.int .i64 f) (.slice q m d) (.int .u64 e) (.int .u64 g) := by rw [hW]; simp [At7, go_sem]
  have hC : At7 W (w.heap.size + 1) (.int .i64 k) (.int .u64 s) (.slice p' n c') (.int .i64 f) (.slice q' m d') (.int .u64 e) (.int .u64 g) := by rw [hW]; simp [At7, go_sem]
  rw [← hW]
  clear hW
  refine (eqByteS_n p p' c c' n P ep _ (unhide hR _ bW).1 (unhide hR _ bW).2 (by omega)).mono ?_
  rintro r w1 ⟨rfl, hb1⟩
  have hA1 := hA.below hb1
  have hC1 := hC.below hb1
  have B1 := hide (Below.step bW hb1)
  clear hb1 bW hA hC
  obtain ⟨a0, a1, a2, a3, a4, a5, a6⟩ := hA1
  obtain ⟨c0, c1, c2, c3, c4, c5, c6⟩ := hC1
  go_wp2_with fail
  refine (eqByteS_n q q' d d' m V ev _ (unhide hV _ (unhide B1)).1 (unhide hV _ (unhide B1)).2 (by omega)).mono ?_
  rintro r w2 ⟨rfl, hb2⟩
  have i5 := cell_below a5 hb2
  have i6 := cell_below a6 hb2
  have j5 := cell_below c5 hb2
  have j6 := cell_below c6 hb2
  have B2 := hide (Below.step (unhide B1) hb2)
  clear hb2 a0 a1 a2 a3 a4 a5 a6 c0 c1 c2 c3 c4 c5 c6
  go_wp2
  go_ret
  exact ⟨rfl, unhide B2⟩

set_option maxHeartbeats 800000 in
theorem markOp_n (B B2 : Nat) (k s f e g : Int) (p q : Option Addr) (n m c d : Nat) (P V : List Int) (ep : Hid (P.length = n)) (ev : Hid (V.length = m)) (w : World) (hp : Own B w (.slice p n c) P) (tp : Btw B B2 (.slice p n c)) (hv : Own B2 w (.slice q m d) V) (hn : n ≤ 1048576) (hm : m ≤ 1048576) :
    Calls Tryd.prog 16 #[opV k s (.slice p n c) f (.slice q m d) e g, .int .i64 1] w fun r w' => r = .returned (.int .i64 (1 + n + m)) ∧ Kept [.slice p n c, .slice q m d] w w' := by
  go_enter Tryd.func16, Tryd.ntmps16
  go_wp2_with fail
  obtain ⟨W, hW⟩ : ∃ W, W = (w.alloc (.cells #[.int .i64 k, .int .u64 s, .slice p n c, .int .i64 f, .slice q m d, .int .u64 e, .int .u64 g] 31)) := ⟨_, rfl⟩
  have bW : Below w.heap.size w W := by rw [hW]; exact (Below.refl _ _).alloc (Nat.le_refl _) _
  have hA : At7 W w.heap.size (.int .i64 k) (.int .u64 s) (.slice p n c) (.int .i64 f) (.slice q m d) (.int .u64 e) (.int .u64 g) := by rw [hW]; simp [At7, go_sem]
  have zW : w.heap.size < W.heap.size := by rw [hW]; simp
  rw [← hW]
  clear hW
  have hpW := Own.below hp bW
  have hvW := Own.below hv bW
  have htp := hp.lt
  clear hp hv
  refine (markByteS_n B p c n P ep 1 _ hpW (by omega) (by omega) (by omega)).mono ?_
  rintro r w1 ⟨rfl, ho1, hg1⟩
  have hv1 : Own B2 w1 (.slice q m d) V := Own.apart hvW hg1 tp (Own.btw hvW) (.inl (Nat.le_refl _))
  have a4 : w1.cell? ⟨w.heap.size, 4, none⟩ = some (.slice q m d) := (World.cell?_of_block (hg1.block w.heap.size zW (by intro hb; have := htp _ hb.symm; omega))).trans hA.2.2.2.2.1
  have HK1 := hide ((Kept.of_below bW).trans (Kept.of_grown (vs := [.slice p n c, .slice q m d]) hg1 (by simp)))
  have HV1 := hide hv1
  clear ho1 hg1 hv1 hpW hvW hA bW
  obtain ⟨K1, eK1⟩ : ∃ K1 : Nat, (1 : Int) + (n : Int) = (K1 : Int) := ⟨1 + n, by omega⟩
  have hK1 : (K1 : Int) ≤ 100000000 := by omega
  rw [eK1]
  have EK := hide eK1
  clear eK1
  go_wp2_with fail
  refine (markByteS_n B2 q d m V ev K1 _ (unhide HV1) (by omega) (by omega) (by omega)).mono ?_
  rintro r w2 ⟨rfl, ho2, hg2⟩
  have hk2 := hide ((unhide HK1).trans (Kept.of_grown (vs := [.slice p n c, .slice q m d]) hg2 (by simp)))
  clear ho2 hg2
  go_wp2
  go_ret
  refine ⟨?_, unhide hk2⟩
  rw [unhide EK]
  rfl
end Go.Proofs.YtieofdbdkpdlcaaDoor
