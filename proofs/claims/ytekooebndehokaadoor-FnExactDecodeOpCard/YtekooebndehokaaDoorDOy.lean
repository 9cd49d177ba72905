import Derived.Test.YtekooebndehokaaDoorDOp
namespace Go.Proofs.YtekooebndehokaaDoor
open Go.ChangeShapes Go.WideShapes Go.ChangeAt Go.RowKit
set_option linter.unusedVariables false
set_option linter.unusedSimpArgs false
set_option maxRecDepth 100000

set_option maxHeartbeats 4000000 in
theorem specDec_yes (p : Option Addr) (c n : Nat) (l : List Int) (en : Hid (l.length = n)) (w : World) (h : Rd w (.slice p n c) l) (hb : Byt l) (hl : n ≤ 1048576) (hnc : n ≤ c)
    (k s f : Int) (P V : List Int) (o1 o2 o3 o4 o5 : Option (List Int)) (e1 : Hid (oB (some l) = (k, o1))) (e2 : Hid (oV o1 = (s, o2))) (e3 : Hid (oT o2 = (P, o3))) (e4 : Hid (oB o3 = (f, o4))) (e5 : Hid (oT o4 = (V, o5))) (NP NV : Nat) (eP : Hid (P.length = NP)) (eV : Hid (V.length = NV))
    (K S F : Nat) (hk : k = K) (hs : s = S) (hf : f = F) (ho : o5 = some []) (hdec : Dec l K S P F V) :
    Calls Tryd.prog 19 #[.slice p n c] w fun r w' => ∃ p' c' q' d' B, r = .returned (.tuple #[opV K S (.slice p' NP c') F (.slice q' NV d') 0 0, .int .i64 0]) ∧ w.heap.size ≤ B ∧ Own w.heap.size w' (.slice p' NP c') P ∧ Btw w.heap.size B (.slice p' NP c') ∧ Own B w' (.slice q' NV d') V ∧ Below w.heap.size w w' := by
  obtain ⟨h1, h2, hS, hF, hfm, hj, hdl⟩ := hdec
  have HB := hide hb
  have S0 : Hid (Sfx n l (some l)) := Sfx.start (unhide en)
  have S1 : Hid (Sfx n l o1) := by have := oB_sfx (unhide en) (unhide S0); rw [unhide e1] at this; exact this
  have S2 : Hid (Sfx n l o2) := by have := oV_sfx (unhide en) (unhide S1); rw [unhide e2] at this; exact this
  have S3 : Hid (Sfx n l o3) := by have := oT_sfx (unhide en) (unhide S2); rw [unhide e3] at this; exact this
  have S4 : Hid (Sfx n l o4) := by have := oB_sfx (unhide en) (unhide S3); rw [unhide e4] at this; exact this
  have hNP : NP ≤ 1048576 := by have := (oT_byt hb (unhide S2)).2; rw [unhide e3] at this; rw [← unhide eP]; exact Nat.le_trans this hl
  have hNV : NV ≤ 1048576 := by have := (oT_byt hb (unhide S4)).2; rw [unhide e5] at this; rw [← unhide eV]; exact Nat.le_trans this hl
  have a0 : atI n (some l) = 0 := by simp [atI, unhide en]
  obtain ⟨A1, eA1⟩ : ∃ A, atI n o1 = A := ⟨_, rfl⟩
  obtain ⟨A2, eA2⟩ : ∃ A, atI n o2 = A := ⟨_, rfl⟩
  obtain ⟨A3, eA3⟩ : ∃ A, atI n o3 = A := ⟨_, rfl⟩
  obtain ⟨A4, eA4⟩ : ∃ A, atI n o4 = A := ⟨_, rfl⟩
  obtain ⟨A5, eA5⟩ : ∃ A, atI n o5 = A := ⟨_, rfl⟩
  have c1 := fun w' (hb' : Below w.heap.size w w') => readByte_o p c n l en w' (h.below hb') hb hl _ (unhide S0) k o1 e1
  rw [a0, eA1] at c1
  have c2 := fun w' (hb' : Below w.heap.size w w') => readVar_o p c n l en w' (h.below hb') hb hl _ (unhide S1) s o2 e2
  rw [eA1, eA2] at c2
  have c3 := fun w' (hb' : Below w.heap.size w w') => readText_o p c n l en w' (h.below hb') hb hl hnc _ (unhide S2) P o3 e3 NP eP
  rw [eA2, eA3] at c3
  have c4 := fun w' (hb' : Below w.heap.size w w') => readByte_o p c n l en w' (h.below hb') hb hl _ (unhide S3) f o4 e4
  rw [eA3, eA4] at c4
  have c5 := fun w' (hb' : Below w.heap.size w w') => readText_o p c n l en w' (h.below hb') hb hl hnc _ (unhide S4) V o5 e5 NV eV
  rw [eA4, eA5] at c5
  have C1 := hide c1
  have C2 := hide c2
  have C3 := hide c3
  have C4 := hide c4
  have C5 := hide c5
  have HH := hide h
  clear c1 c2 c3 c4 c5 a0 eA1 eA2 eA3 eA4 h hb
  go_enter Tryd.func19, Tryd.ntmps19
  go_wp2_with fail
  obtain ⟨W, hW⟩ : ∃ W, W = (w.alloc (.cells #[.int .i64 0, .int .u64 0, .slice none 0 0, .int .i64 0, .slice none 0 0, .int .u64 0, .int .u64 0] 31)) := ⟨_, rfl⟩
  have bW : Below w.heap.size w W := by rw [hW]; exact (Below.refl _ _).alloc (Nat.le_refl _) _
  have hR : At7 W w.heap.size (.int .i64 0) (.int .u64 0) (.slice none 0 0) (.int .i64 0) (.slice none 0 0) (.int .u64 0) (.int .u64 0) := by rw [hW]; simp [At7, go_sem]
  have fR : ∀ o, W.frozen? ⟨w.heap.size, o, none⟩ = false := fun o => by rw [hW]; simp [go_sem]
  have zW : w.heap.size < W.heap.size := by rw [hW]; simp
  rw [← hW]
  clear hW
  refine (unhide C1 _ bW).mono ?_
  rintro r w' ⟨rfl, rfl⟩
  go_wp2_with fail
  refine (unhide C2 _ bW).mono ?_
  rintro r w' ⟨rfl, rfl⟩
  go_wp2_with fail
  refine (unhide C3 _ bW).mono ?_
  rintro r w1 ⟨p1, c1, rfl, x1, hb1⟩
  have b1 := Below.step bW hb1
  have hR1 := hR.below hb1
  have fR1 := frozen_bel fR zW hb1
  have z1 := hb1.size
  clear hR fR hb1
  go_wp2_with fail
  refine (unhide C4 _ b1).mono ?_
  rintro r w2 ⟨rfl, rfl⟩
  go_wp2_with fail
  refine (unhide C5 _ b1).mono ?_
  rintro r w3 ⟨p3, c3, rfl, x3, hb3⟩
  have b3 := Below.step b1 hb3
  have x1' := Own.below x1 hb3
  have hR3 := hR1.below hb3
  have fR3 := frozen_bel fR1 (by omega) hb3
  have z3 := hb3.size
  clear hR1 fR1 hb3
  have hNPV : Hid (Byt P ∧ Byt V ∧ 0 ≤ s ∧ s < 18446744073709551616) := by
    have h1 := (oT_byt (unhide HB) (unhide S2)).1
    have h2 := (oT_byt (unhide HB) (unhide S4)).1
    have h3 := oV_range (om := o1)
    rw [unhide e3] at h1
    rw [unhide e5] at h2
    rw [unhide e2] at h3
    exact ⟨h1, h2, h3.1, h3.2⟩
  obtain ⟨X, hX⟩ : ∃ X, X = (w3.alloc (.cells #[.int .i64 k, .int .u64 s, .slice p1 NP c1, .int .i64 f, .slice p3 NV c3, .int .u64 0, .int .u64 0] 31)) := ⟨_, rfl⟩
  have baX : Below w3.heap.size w3 X := by rw [hX]; exact (Below.refl _ _).alloc (Nat.le_refl _) _
  have bX : Below w.heap.size w X := Below.step b3 baX
  have hRX := hR3.below baX
  have fRX := frozen_bel fR3 (by omega) baX
  have hOX : At7 X w3.heap.size (.int .i64 k) (.int .u64 s) (.slice p1 NP c1) (.int .i64 f) (.slice p3 NV c3) (.int .u64 0) (.int .u64 0) := by rw [hX]; simp [At7, go_sem]
  have zX : w3.heap.size < X.heap.size := by rw [hX]; simp
  have xP := Own.below x1' baX
  have xV := Own.below x3 baX
  have bo : ∀ ob : Obj, Below w3.heap.size w3 (w3.alloc ob) := fun ob => (Below.refl _ _).alloc (Nat.le_refl _) _
  have q0 := fun ob => cell_below hR3.1 (bo ob)
  have q1 := fun ob => cell_below hR3.2.1 (bo ob)
  have q2 := fun ob => cell_below hR3.2.2.1 (bo ob)
  have q3 := fun ob => cell_below hR3.2.2.2.1 (bo ob)
  have q4 := fun ob => cell_below hR3.2.2.2.2.1 (bo ob)
  have q5 := fun ob => cell_below hR3.2.2.2.2.2.1 (bo ob)
  have q6 := fun ob => cell_below hR3.2.2.2.2.2.2 (bo ob)
  have qf := fun (ob : Obj) => frozen_bel fR3 (by omega) (bo ob)
  clear hR3 fR3 x1' x3 baX bo
  have tP : Btw w.heap.size w2.heap.size (.slice p1 NP c1) := fun b hb => by
    have := x1.lt b hb
    omega
  obtain ⟨r0, r1, r2, r3, r4, r5, r6⟩ := id hRX
  obtain ⟨j0, j1, j2, j3, j4, j5, j6⟩ := id hOX
  have hA5' : ¬ A5 < 0 := by rw [← eA5, ho]; simp [atI]
  subst hk
  subst hs
  subst hf
  have HS1 := hide hS
  have HDL := hide hdl
  have HFM : Hid (fmR K S F NP NV 0 0 = true) := by show _ = _; rw [← unhide eP, ← unhide eV]; exact hfm
  clear hS hdl hfm
  go_wp2_with fail
  rw [← hX]
  clear hX q0 q1 q2 q3 q4 q5 q6 qf
  refine (formed_R K h1 h2 S F 0 0 p1 p3 NP NV c1 c3 _ true HFM).mono ?_
  rintro r y1 ⟨rfl, hbx1⟩
  have bx1 := Below.step bX hbx1
  have hR1 := hRX.below hbx1
  have hO1 := hOX.below hbx1
  have f1 := frozen_bel fRX (by omega) hbx1
  have zx1 := hbx1.size
  have xP1 := Own.below xP hbx1
  have xV1 := Own.below xV hbx1
  clear hRX hOX fRX hbx1 xP xV r0 r1 r2 r3 r4 r5 r6 j0 j1 j2 j3 j4 j5 j6 bX
  obtain ⟨r0, r1, r2, r3, r4, r5, r6⟩ := id hR1
  obtain ⟨j0, j1, j2, j3, j4, j5, j6⟩ := id hO1
  go_wp2_with fail
  refine (journaled_R K h1 h2 _).mono ?_
  rintro r y2 ⟨rfl, rfl⟩
  rw [hj]
  obtain ⟨M, eM⟩ : ∃ M, Hid ((opB K S P F V).length = M) := ⟨_, rfl⟩
  go_wp2_with fail
  refine (l3encOp K h2 S F (unhide HS1) hF 0 0 p1 p3 NP NV c1 c3 P V eP eV _ xP1.rd xV1.rd hNP hNV M eM).mono ?_
  rintro r y3 ⟨p5, c5, rfl, o5', hb5⟩
  have bx3 := Below.step bx1 hb5
  have hR3 := hR1.below hb5
  have hO3 := hO1.below hb5
  have f3 := frozen_bel f1 (by omega) hb5
  have zx3 := hb5.size
  have xP3 := Own.below xP1 hb5
  have xV3 := Own.below xV1 hb5
  clear hR1 hO1 f1 hb5 r0 r1 r2 r3 r4 r5 r6 j0 j1 j2 j3 j4 j5 j6 bx1 xP1 xV1
  obtain ⟨r0, r1, r2, r3, r4, r5, r6⟩ := id hR3
  obtain ⟨j0, j1, j2, j3, j4, j5, j6⟩ := id hO3
  have hd : decide (opB K S P F V = l) = true := by rw [← unhide HDL]; simp
  have HD := hide hd
  clear hd
  go_wp2_with fail
  refine (l3same_any p5 p c5 c M n (opB K S P F V) l eM en _ o5'.rd ((unhide HH).below bx3) (by rw [← unhide HDL]; exact unhide HB) (unhide HB)).mono ?_
  rintro r y4 ⟨rfl, hb6⟩
  rw [unhide HD]
  have bx4 := Below.step bx3 hb6
  have hR4 := hR3.below hb6
  have hO4 := hO3.below hb6
  have f4 := frozen_bel f3 (by omega) hb6
  have zx4 := hb6.size
  have xP4 := hide (Own.below xP3 hb6)
  have xV4 := hide (Own.below xV3 hb6)
  clear hR3 hO3 f3 hb6 r0 r1 r2 r3 r4 r5 r6 j0 j1 j2 j3 j4 j5 j6 bx3 xP3 xV3
  obtain ⟨r0, r1, r2, r3, r4, r5, r6⟩ := id hR4
  obtain ⟨j0, j1, j2, j3, j4, j5, j6⟩ := id hO4
  have BX4 := hide bx4
  have HZ := hide (And.intro zW (And.intro z1 (And.intro z3 (And.intro zX (And.intro zx1 (And.intro zx3 zx4))))))
  have hne : ¬ w.heap.size = w3.heap.size := by omega
  have hne' : ¬ w3.heap.size = w.heap.size := by omega
  clear hR4 hO4 bx4
  go_wp2
  obtain ⟨zW, z1, z3, zX, zx1, zx3, zx4⟩ := unhide HZ
  refine bodyPost_ret (v := .tuple #[opV K S (.slice p1 NP c1) F (.slice p3 NV c3) 0 0, .int .i64 0]) (by simp [results, Tryd.results19, go_sem, r0, r1, r2, r3, r4, r5, r6]) rfl ⟨p1, c1, p3, c3, w2.heap.size, rfl, by omega, ?_, tP, ?_, ?_⟩
  · refine Own.mono (B := w'.heap.size) ?_ (by omega)
    iterate 7 (refine ownsRow_setCell_below ?_ zW _)
    exact unhide xP4
  · have zz : w.heap.size < w2.heap.size := by omega
    iterate 7 (refine ownsRow_setCell_below ?_ zz _)
    exact unhide xV4
  · iterate 7 (refine Below.setCell ?_ (by simp) _)
    exact unhide BX4
end Go.Proofs.YtekooebndehokaaDoor
