import Derived.Test.YtekooebndehokaaDoorOPi
namespace Go.Proofs.YtekooebndehokaaDoor
open Go.ChangeShapes Go.WideShapes Go.ChangeAt Go.RowKit
set_option linter.unusedVariables false
set_option linter.unusedSimpArgs false
set_option maxRecDepth 100000

/-- the table's rows, by kind -/
def rowOf : Nat → Bool × Bool × Int × Int × Int × Bool × Bool
  | 1 => (false, false, 0, 0, 0, false, true)
  | 2 => (true, false, 0, 0, 0, false, false)
  | 3 => (true, false, 0, 0, 0, false, true)
  | 4 => (true, true, 0, 1, 40, false, true)
  | 5 => (true, true, 0, 0, 0, false, true)
  | 6 => (false, true, 0, 0, 0, false, false)
  | 7 => (true, true, 0, 0, 40, false, true)
  | 8 => (true, true, 1, 2, 0, false, true)
  | 9 => (true, true, 0, 0, 0, false, true)
  | 10 => (true, true, 0, 0, 0, true, false)
  | 11 => (true, true, 0, 0, 0, false, false)
  | 12 => (true, false, 0, 0, 0, false, false)
  | 13 => (false, true, 0, 0, 0, false, false)
  | _ => (false, false, 0, 0, 0, false, false)
/-- well formed, by kind -/
def fmR (k : Nat) (s f : Int) (n m : Nat) (e g : Int) : Bool := fmF (rowOf k).1 (rowOf k).2.1 (rowOf k).2.2.1 (rowOf k).2.2.2.1 (rowOf k).2.2.2.2.1 (rowOf k).2.2.2.2.2.1 s f n m e g
def joR (k : Nat) : Bool := (rowOf k).2.2.2.2.2.2
theorem kinds {k : Nat} (h1 : 1 ≤ k) (h2 : k ≤ 13) : k = 1 ∨ k = 2 ∨ k = 3 ∨ k = 4 ∨ k = 5 ∨ k = 6 ∨ k = 7 ∨ k = 8 ∨ k = 9 ∨ k = 10 ∨ k = 11 ∨ k = 12 ∨ k = 13 := by omega
theorem formed_R (k : Nat) (h1 : 1 ≤ k) (h2 : k ≤ 13) (s f e g : Int) (p q : Option Addr) (n m c d : Nat) (w : World) (B : Bool) (eB : Hid (fmR k s f n m e g = B)) :
    Calls Tryd.prog 31 #[opV k s (.slice p n c) f (.slice q m d) e g] w fun r w' => r = .returned (.bool B) ∧ Below w.heap.size w w' := by
  rcases kinds h1 h2 with rfl | rfl | rfl | rfl | rfl | rfl | rfl | rfl | rfl | rfl | rfl | rfl | rfl
  · exact formed_1 s f e g p q n m c d w B eB
  · exact formed_2 s f e g p q n m c d w B eB
  · exact formed_3 s f e g p q n m c d w B eB
  · exact formed_4 s f e g p q n m c d w B eB
  · exact formed_5 s f e g p q n m c d w B eB
  · exact formed_6 s f e g p q n m c d w B eB
  · exact formed_7 s f e g p q n m c d w B eB
  · exact formed_8 s f e g p q n m c d w B eB
  · exact formed_9 s f e g p q n m c d w B eB
  · exact formed_10 s f e g p q n m c d w B eB
  · exact formed_11 s f e g p q n m c d w B eB
  · exact formed_12 s f e g p q n m c d w B eB
  · exact formed_13 s f e g p q n m c d w B eB
theorem journaled_R (k : Nat) (h1 : 1 ≤ k) (h2 : k ≤ 13) (w : World) :
    Calls Tryd.prog 32 #[.int .i64 k] w fun r w' => r = .returned (.bool (joR k)) ∧ w' = w := by
  rcases kinds h1 h2 with rfl | rfl | rfl | rfl | rfl | rfl | rfl | rfl | rfl | rfl | rfl | rfl | rfl
  · exact l3journaled_1 w
  · exact l3journaled_2 w
  · exact l3journaled_3 w
  · exact l3journaled_4 w
  · exact l3journaled_5 w
  · exact l3journaled_6 w
  · exact l3journaled_7 w
  · exact l3journaled_8 w
  · exact l3journaled_9 w
  · exact l3journaled_10 w
  · exact l3journaled_11 w
  · exact l3journaled_12 w
  · exact l3journaled_13 w
theorem flag_bound {k : Nat} {s f : Int} {n m : Nat} {e g : Int} (h1 : 1 ≤ k) (h2 : k ≤ 13) (h : fmR k s f n m e g = true) : 0 ≤ f ∧ f ≤ 2 := by
  unfold fmR fmF at h
  simp only [Bool.and_eq_true, decide_eq_true_eq] at h
  obtain ⟨-, -, hlo, hhi, -⟩ := h
  rcases kinds h1 h2 with rfl | rfl | rfl | rfl | rfl | rfl | rfl | rfl | rfl | rfl | rfl | rfl | rfl <;> simp [rowOf] at hlo hhi <;> omega

theorem At7.belowB {B : Nat} {w w' : World} {b : Nat} {v0 v1 v2 v3 v4 v5 v6 : Value} (h : At7 w b v0 v1 v2 v3 v4 v5 v6) (hb : Below B w w') (hl : b < B) : At7 w' b v0 v1 v2 v3 v4 v5 v6 := by
  have e := fun o => hb.cell (p := ⟨b, o, none⟩) hl
  exact ⟨(e 0).trans h.1, (e 1).trans h.2.1, (e 2).trans h.2.2.1, (e 3).trans h.2.2.2.1, (e 4).trans h.2.2.2.2.1, (e 5).trans h.2.2.2.2.2.1, (e 6).trans h.2.2.2.2.2.2⟩
theorem opB_len (k s : Nat) (P : List Int) (f : Nat) (V : List Int) : (opB k s P f V).length ≤ P.length + V.length + 32 := by
  have h1 := vi_len s
  have h2 := tx_len P
  have h3 := tx_len V
  rw [opB]
  simp only [List.length_append, List.length_cons, List.length_nil]
  omega

set_option maxHeartbeats 1600000 in
theorem l3encOp (k : Nat) (hk2 : k ≤ 13) (s f : Nat) (hs : s < 18446744073709551616) (hf : f ≤ 2) (e g : Int) (p q : Option Addr) (n m c d : Nat) (P V : List Int) (ep : Hid (P.length = n)) (ev : Hid (V.length = m)) (w : World) (hp : Rd w (.slice p n c) P) (hv : Rd w (.slice q m d) V) (hn : n ≤ 1048576) (hm : m ≤ 1048576) (N : Nat) (eN : Hid ((opB k s P f V).length = N)) :
    Calls Tryd.prog 33 #[opV k s (.slice p n c) f (.slice q m d) e g] w fun r w' => ∃ p' c', r = .returned (.slice p' N c') ∧ Own w.heap.size w' (.slice p' N c') (opB k s P f V) ∧ Below w.heap.size w w' := by
  have wk : IntKind.u8.wrap (k : Int) = (k : Int) := by rw [IntKind.wrap_u8]; omega
  have wf : IntKind.u8.wrap (f : Int) = (f : Int) := by rw [IntKind.wrap_u8]; omega
  have HP := hide fun (w' : World) (hb : Below w.heap.size w w') => hp.below hb
  have HV := hide fun (w' : World) (hb : Below w.heap.size w w') => hv.below hb
  clear hp hv
  obtain ⟨M, eM⟩ : ∃ M, Hid ((vi s).length = M) := ⟨_, rfl⟩
  obtain ⟨N1, eN1⟩ : ∃ M, Hid ((tx P).length = M) := ⟨_, rfl⟩
  obtain ⟨N2, eN2⟩ : ∃ M, Hid ((tx V).length = M) := ⟨_, rfl⟩
  have hM : M ≤ 10 := by have := vi_len s; rw [unhide eM] at this; omega
  have hN1 : N1 ≤ 1048586 := by have := tx_len P; rw [unhide eN1, unhide ep] at this; omega
  have hN2 : N2 ≤ 1048586 := by have := tx_len V; rw [unhide eN2, unhide ev] at this; omega
  obtain ⟨A1, hA1⟩ : ∃ l, Hid (l = [(k : Int)] ++ vi s) := ⟨_, rfl⟩
  obtain ⟨A2, hA2⟩ : ∃ l, Hid (l = A1 ++ tx P) := ⟨_, rfl⟩
  obtain ⟨A3, hA3⟩ : ∃ l, Hid (l = A2 ++ [(f : Int)]) := ⟨_, rfl⟩
  have hA4 : Hid (opB k s P f V = A3 ++ tx V) := by show _ = _; rw [unhide hA3, unhide hA2, unhide hA1, opB]; simp
  have lA1 : Hid (A1.length = 1 + M) := by show _ = _; rw [unhide hA1, List.length_append, unhide eM]; rfl
  have lA2 : Hid (A2.length = 1 + M + N1) := by show _ = _; rw [unhide hA2, List.length_append, unhide lA1, unhide eN1]
  have lA3 : Hid (A3.length = 1 + M + N1 + 1) := by show _ = _; rw [unhide hA3, List.length_append, unhide lA2]; rfl
  go_enter Tryd.func33, Tryd.ntmps33
  go_wp2_with fail
  obtain ⟨W0, hW0⟩ : ∃ W, W = (w.alloc (.cells #[.int .i64 k, .int .u64 s, .slice p n c, .int .i64 f, .slice q m d, .int .u64 e, .int .u64 g] 31)) := ⟨_, rfl⟩
  have bW0 : Below w.heap.size w W0 := by rw [hW0]; exact (Below.refl _ _).alloc (Nat.le_refl _) _
  have hO0 : At7 W0 w.heap.size (.int .i64 k) (.int .u64 s) (.slice p n c) (.int .i64 f) (.slice q m d) (.int .u64 e) (.int .u64 g) := by rw [hW0]; simp [At7, go_sem]
  have zW0 : W0.heap.size = w.heap.size + 1 := by rw [hW0]; simp
  rw [← hW0]
  clear hW0
  have oo : Own W0.heap.size (W0.alloc (.cells #[.int .u8 (k : Int)] 5)) (.slice (some ⟨W0.heap.size, 0, none⟩) 1 1) [(k : Int)] := Own.one W0 k
  rw [zW0] at oo
  obtain ⟨W, hW⟩ : ∃ W, W = W0.alloc (.cells #[.int .u8 (k : Int)] 5) := ⟨_, rfl⟩
  have bW : Below w.heap.size w W := by rw [hW]; exact bW0.alloc bW0.size _
  have hO : At7 W w.heap.size (.int .i64 k) (.int .u64 s) (.slice p n c) (.int .i64 f) (.slice q m d) (.int .u64 e) (.int .u64 g) := hO0.below (by rw [hW]; exact (Below.refl _ _).alloc (Nat.le_refl _) _)
  have zW : w.heap.size + 1 < W.heap.size := by rw [hW]; simp; omega
  rw [← hW] at oo ⊢
  clear hW bW0 hO0 zW0
  refine (l3var_any 9 s _ (by omega) hs (by omega) M eM).mono ?_
  rintro r x1 ⟨pv, cv, rfl, ov, hb1⟩
  have oo1 := Own.below oo hb1
  have hO1 := hO.below hb1
  have b1 := Below.step bW hb1
  have r1 : Rd x1 (.slice pv M cv) (vi s) := ov.rd
  have z1 := hb1.size
  clear oo hO bW ov hb1
  obtain ⟨a0, a1, a2, a3, a4, a5, a6⟩ := id hO1
  go_wp2_with (at_builtin; refine wpList_append_rdn rfl _ _ rfl (w.heap.size + 1) (.slice (some ⟨w.heap.size + 1, 0, none⟩) 1 1) [(k : Int)] (vi s) A1 hA1 pv cv M eM rfl rfl oo1 r1 (by rw [unhide eM]; simp; omega) (by omega) ?_)
  intro p2 c2 x2 o2 hg2
  have b2 := below_grown b1 hg2 oo1 (by omega) (by omega)
  have hO2 := hO1.belowB ((Below.refl (w.heap.size + 1) x1).grown hg2 (by omega) (fun k e => (oo1.lt k e).1)) (by omega)
  have z2 := hg2.size
  rw [unhide lA1] at o2 ⊢
  clear oo1 hO1 b1 r1 hg2 a0 a1 a2 a3 a4 a5 a6
  obtain ⟨a0, a1, a2, a3, a4, a5, a6⟩ := id hO2
  go_wp2_with fail
  refine (l3text_any p c n P ep _ (unhide HP _ b2) hn N1 eN1).mono ?_
  rintro r x3 ⟨pt, ct, rfl, ot, hb3⟩
  have o3 := Own.below o2 hb3
  have hO3 := hO2.below hb3
  have b3 := Below.step b2 hb3
  have r3 := ot.rd
  have z3 := hb3.size
  clear o2 hO2 b2 ot hb3 a0 a1 a2 a3 a4 a5 a6
  obtain ⟨a0, a1, a2, a3, a4, a5, a6⟩ := id hO3
  go_wp2_with (at_builtin; refine wpList_append_rdn rfl _ _ rfl (w.heap.size + 1) (.slice p2 (1 + M) c2) A1 (tx P) A2 hA2 pt ct N1 eN1 rfl rfl o3 r3 (by rw [unhide lA1, unhide eN1]; omega) (by omega) ?_)
  intro p4 c4 x4 o4 hg4
  have b4 := below_grown b3 hg4 o3 (by omega) (by omega)
  have hO4 := hO3.belowB ((Below.refl (w.heap.size + 1) x3).grown hg4 (by omega) (fun k e => (o3.lt k e).1)) (by omega)
  have z4 := hg4.size
  rw [unhide lA2] at o4 ⊢
  clear o3 hO3 b3 r3 hg4 a0 a1 a2 a3 a4 a5 a6
  obtain ⟨a0, a1, a2, a3, a4, a5, a6⟩ := id hO4
  go_wp2_with (at_builtin; refine wpList_append_byte rfl _ _ rfl (w.heap.size + 1) (.slice p4 (1 + M + N1) c4) A2 A3 (f : Int) hA3 x4.heap.size rfl rfl (Own.below o4 ((Below.refl _ _).alloc (Nat.le_refl _) _)) (by simp) (by rw [unhide lA2]; omega) (by simp; omega) ?_)
  intro p5 c5 x5 o5 hg5
  have o4A := Own.below o4 (w' := x4.alloc (.cells #[.int .u8 (f : Int)] 5)) ((Below.refl _ _).alloc (Nat.le_refl _) _)
  have b5 := below_grown (b4.alloc b4.size _) hg5 o4A (by omega) (by simp; omega)
  have hO5 := (hO4.below ((Below.refl _ _).alloc (Nat.le_refl _) _)).belowB ((Below.refl (w.heap.size + 1) _).grown hg5 (by simp; omega) (fun k e => (o4A.lt k e).1)) (by omega)
  have z5 : x4.heap.size + 1 ≤ x5.heap.size := by have := hg5.size; simpa using this
  rw [unhide lA3] at o5 ⊢
  clear o4 o4A hO4 b4 hg5 a0 a1 a2 a3 a4 a5 a6
  obtain ⟨a0, a1, a2, a3, a4, a5, a6⟩ := id hO5
  go_wp2_with fail
  refine (l3text_any q d m V ev _ (unhide HV _ b5) hm N2 eN2).mono ?_
  rintro r x6 ⟨pu, cu, rfl, ou, hb6⟩
  have o6 := Own.below o5 hb6
  have b6 := Below.step b5 hb6
  have r6 := ou.rd
  have z6 := hb6.size
  clear o5 hO5 b5 ou hb6 a0 a1 a2 a3 a4 a5 a6
  go_wp2_with (at_builtin; refine wpList_append_rdn rfl _ _ rfl (w.heap.size + 1) (.slice p5 (1 + M + N1 + 1) c5) A3 (tx V) (opB k s P f V) hA4 pu cu N2 eN2 rfl rfl o6 r6 (by rw [unhide lA3, unhide eN2]; omega) (by omega) ?_)
  intro p7 c7 x7 o7 hg7
  have b7 := below_grown b6 hg7 o6 (by omega) (by omega)
  rw [unhide eN] at o7 ⊢
  have o8 := Own.mono (B' := w.heap.size) o7 (by omega)
  clear o6 b6 r6 hg7 o7
  go_wp2
  go_ret
  exact ⟨p7, c7, rfl, o8, b7⟩

set_option maxHeartbeats 1600000 in
theorem specEncOp_yes (k : Nat) (hk1 : 1 ≤ k) (hk2 : k ≤ 13) (s f : Nat) (hs : s < 18446744073709551616) (hf : f ≤ 2) (e g : Int) (p q : Option Addr) (n m c d : Nat) (P V : List Int) (ep : Hid (P.length = n)) (ev : Hid (V.length = m)) (w : World) (hp : Rd w (.slice p n c) P) (hv : Rd w (.slice q m d) V) (hn : n ≤ 1048576) (hm : m ≤ 1048576) (eB : Hid (fmR k s f n m e g = true)) (eJ : joR k = true) (N : Nat) (eN : Hid ((opB k s P f V).length = N)) :
    Calls Tryd.prog 12 #[opV k s (.slice p n c) f (.slice q m d) e g] w fun r w' => ∃ p' c', r = .returned (.slice p' N c') ∧ Own w.heap.size w' (.slice p' N c') (opB k s P f V) ∧ Below w.heap.size w w' := by
  have HP := hide fun (w' : World) (hb : Below w.heap.size w w') => hp.below hb
  have HV := hide fun (w' : World) (hb : Below w.heap.size w w') => hv.below hb
  clear hp hv
  go_enter Tryd.func12, Tryd.ntmps12
  go_wp2_with fail
  obtain ⟨W, hW⟩ : ∃ W, W = (w.alloc (.cells #[.int .i64 k, .int .u64 s, .slice p n c, .int .i64 f, .slice q m d, .int .u64 e, .int .u64 g] 31)) := ⟨_, rfl⟩
  have bW : Below w.heap.size w W := by rw [hW]; exact (Below.refl _ _).alloc (Nat.le_refl _) _
  have hO : At7 W w.heap.size (.int .i64 k) (.int .u64 s) (.slice p n c) (.int .i64 f) (.slice q m d) (.int .u64 e) (.int .u64 g) := by rw [hW]; simp [At7, go_sem]
  rw [← hW]
  clear hW
  refine (formed_R k hk1 hk2 s f e g p q n m c d _ true eB).mono ?_
  rintro r x1 ⟨rfl, hb1⟩
  have b1 := Below.step bW hb1
  have hO1 := hO.below hb1
  clear hO bW hb1
  obtain ⟨a0, a1, a2, a3, a4, a5, a6⟩ := hO1
  go_wp2_with fail
  refine (journaled_R k hk1 hk2 _).mono ?_
  rintro r x2 ⟨rfl, rfl⟩
  rw [eJ]
  go_wp2_with fail
  refine (l3encOp k hk2 s f hs hf e g p q n m c d P V ep ev _ (unhide HP _ b1) (unhide HV _ b1) hn hm N eN).mono ?_
  rintro r x3 ⟨p3, c3, rfl, o3, hb3⟩
  have o4 := Own.mono (B' := w.heap.size) o3 b1.size
  have b4 := Below.step b1 hb3
  clear o3 hb3 b1 a0 a1 a2 a3 a4 a5 a6
  go_wp2
  go_ret
  exact ⟨p3, c3, rfl, o4, b4⟩

set_option maxHeartbeats 1600000 in
theorem specEncOp_no (k : Nat) (hk1 : 1 ≤ k) (hk2 : k ≤ 13) (s f e g : Int) (p q : Option Addr) (n m c d : Nat) (w : World) (B : Bool) (eB : Hid (fmR k s f n m e g = B)) (eJ : (B && joR k) = false) :
    Calls Tryd.prog 12 #[opV k s (.slice p n c) f (.slice q m d) e g] w fun r w' => r = .returned (.slice none 0 0) ∧ Below w.heap.size w w' := by
  go_enter Tryd.func12, Tryd.ntmps12
  go_wp2_with fail
  obtain ⟨W, hW⟩ : ∃ W, W = (w.alloc (.cells #[.int .i64 k, .int .u64 s, .slice p n c, .int .i64 f, .slice q m d, .int .u64 e, .int .u64 g] 31)) := ⟨_, rfl⟩
  have bW : Below w.heap.size w W := by rw [hW]; exact (Below.refl _ _).alloc (Nat.le_refl _) _
  have hO : At7 W w.heap.size (.int .i64 k) (.int .u64 s) (.slice p n c) (.int .i64 f) (.slice q m d) (.int .u64 e) (.int .u64 g) := by rw [hW]; simp [At7, go_sem]
  rw [← hW]
  clear hW
  refine (formed_R k hk1 hk2 s f e g p q n m c d _ B eB).mono ?_
  rintro r x1 ⟨rfl, hb1⟩
  have b1 := Below.step bW hb1
  have hO1 := hO.below hb1
  clear hO bW hb1
  obtain ⟨a0, a1, a2, a3, a4, a5, a6⟩ := hO1
  cases B with
  | false =>
    go_wp2
    go_ret
    exact ⟨rfl, b1⟩
  | true =>
    rw [Bool.true_and] at eJ
    go_wp2_with fail
    refine (journaled_R k hk1 hk2 _).mono ?_
    rintro r x2 ⟨rfl, rfl⟩
    rw [eJ]
    go_wp2
    go_ret
    exact ⟨rfl, b1⟩

set_option maxHeartbeats 1600000 in
theorem specEncOp_out (k s f e g : Int) (p q : Option Addr) (n m c d : Nat) (w : World) (hk : k < 1 ∨ 13 < k) :
    Calls Tryd.prog 12 #[opV k s (.slice p n c) f (.slice q m d) e g] w fun r w' => r = .returned (.slice none 0 0) ∧ Below w.heap.size w w' := by
  go_enter Tryd.func12, Tryd.ntmps12
  go_wp2_with fail
  obtain ⟨W, hW⟩ : ∃ W, W = (w.alloc (.cells #[.int .i64 k, .int .u64 s, .slice p n c, .int .i64 f, .slice q m d, .int .u64 e, .int .u64 g] 31)) := ⟨_, rfl⟩
  have bW : Below w.heap.size w W := by rw [hW]; exact (Below.refl _ _).alloc (Nat.le_refl _) _
  rw [← hW]
  clear hW
  refine (formed_out k s f e g p q n m c d _ hk).mono ?_
  rintro r x1 ⟨rfl, hb1⟩
  have b1 := Below.step bW hb1
  clear bW hb1
  go_wp2
  go_ret
  exact ⟨rfl, b1⟩
end Go.Proofs.YtekooebndehokaaDoor
