import Derived.Test.YtekooebndehokaaDoorOPh
namespace Go.Proofs.YtekooebndehokaaDoor
open Go.ChangeShapes Go.WideShapes Go.ChangeAt Go.RowKit
set_option linter.unusedVariables false
set_option linter.unusedSimpArgs false
set_option maxRecDepth 100000

theorem bel_alloc {w u : World} (h : Below w.heap.size w u) (o : Obj) : Below w.heap.size w (u.alloc o) := h.alloc h.size o
theorem varint_n (v : Nat) (w : World) (h64 : v < 18446744073709551616) (M : Nat) (eM : Hid ((vi v).length = M)) :
    Calls Tryd.prog 36 #[.int .u64 v] w fun e w' => ∃ p' c', e = .returned (.slice p' M c') ∧ Own w.heap.size w' (.slice p' M c') (vi v) ∧ Below w.heap.size w w' := by
  have e := unhide eM
  subst e
  exact varint_any v w h64
theorem cellNew {u : World} {b : Nat} {x : Value} {t : TypeId} (h : b = u.heap.size) : (u.alloc (.cells #[x] t)).cell? ⟨b, 0, none⟩ = some x := by subst h; simp
theorem cell_al {u : World} {b o : Nat} {v : Value} (h : u.cell? ⟨b, o, none⟩ = some v) (ob : Obj) : (u.alloc ob).cell? ⟨b, o, none⟩ = some v := cell_below h ((Below.refl _ _).alloc (Nat.le_refl _) _)
theorem cell_dr {u : World} {b o : Nat} {v : Value} (h : u.cell? ⟨b, o, none⟩ = some v) : u.drew.cell? ⟨b, o, none⟩ = some v := h
theorem rd1 {u : World} {b : Nat} {y : Int} (h : u.cell? ⟨b, 0, none⟩ = some (.int .u8 y)) : Rd u (.slice (some ⟨b, 0, none⟩) 1 1) [y] := by
  refine ⟨_, _, rfl, .inr ⟨b, 0, rfl, fun i hi => ?_⟩⟩
  have e : i = 0 := by simpa using hi
  subst e
  simpa using h
theorem joined5 (X : World) (v0 v1 v2 v3 v4 : Value) (l0 l1 l2 l3 l4 lm : List Int) (N : Nat) (e : Hid (lm = cat [l0, l1, l2, l3, l4])) (en : Hid (lm.length = N)) (r0 : Rd X v0 l0) (r1 : Rd X v1 l1) (r2 : Rd X v2 l2) (r3 : Rd X v3 l3) (r4 : Rd X v4 l4) (hl : N ≤ 4194304) (G : Nat) (hG : G = X.heap.size) :
    Calls Tryd.prog 35 #[.slice (some ⟨G, 0, none⟩) 5 5] (X.alloc (.cells #[v0, v1, v2, v3, v4] 22)) fun e w' => ∃ p' c', e = .returned (.slice p' N c') ∧ Own X.heap.size w' (.slice p' N c') lm ∧ Below X.heap.size X w' := by
  subst hG
  have ba : Below X.heap.size X (X.alloc (.cells #[v0, v1, v2, v3, v4] 22)) := (Below.refl _ _).alloc (Nat.le_refl _) _
  refine (joined_any X.heap.size [v0, v1, v2, v3, v4] [l0, l1, l2, l3, l4] lm N 5 rfl e en _ (parts5 (by simp) (by simp) (by simp) (by simp) (by simp) (r0.below ba) (r1.below ba) (r2.below ba) (r3.below ba) (r4.below ba)) hl (by omega)).mono ?_
  rintro e w' ⟨p', c', rfl, o, hb⟩
  exact ⟨p', c', rfl, Own.mono o (by simp), Below.step ba hb⟩
theorem joined5d (X : World) (v0 v1 v2 v3 v4 : Value) (l0 l1 l2 l3 l4 lm : List Int) (N : Nat) (e : Hid (lm = cat [l0, l1, l2, l3, l4])) (en : Hid (lm.length = N)) (r0 : Rd X v0 l0) (r1 : Rd X v1 l1) (r2 : Rd X v2 l2) (r3 : Rd X v3 l3) (r4 : Rd X v4 l4) (hl : N ≤ 4194304) (G : Nat) (hG : G = X.heap.size) :
    Calls Tryd.prog 35 #[.slice (some ⟨G, 0, none⟩) 5 5] (X.alloc (.cells #[v0, v1, v2, v3, v4] 22)).drew fun e w' => ∃ p' c', e = .returned (.slice p' N c') ∧ Own X.heap.size w' (.slice p' N c') lm ∧ Below X.heap.size X w' := by
  subst hG
  have ba : Below X.heap.size X (X.alloc (.cells #[v0, v1, v2, v3, v4] 22)).drew := ((Below.refl _ _).alloc (Nat.le_refl _) _).drew
  refine (joined_any X.heap.size [v0, v1, v2, v3, v4] [l0, l1, l2, l3, l4] lm N 5 rfl e en _ (parts5 (cell_dr (by simp)) (cell_dr (by simp)) (cell_dr (by simp)) (cell_dr (by simp)) (cell_dr (by simp)) (r0.below ba) (r1.below ba) (r2.below ba) (r3.below ba) (r4.below ba)) hl (by omega)).mono ?_
  rintro e w' ⟨p', c', rfl, o, hb⟩
  exact ⟨p', c', rfl, Own.mono o ba.size, Below.step ba hb⟩
theorem fin5 {w X x4 : World} {v : Value} {l : List Int} (hb4 : Below X.heap.size X x4) (oj : Own X.heap.size x4 v l) (hX : Below w.heap.size w X) : Own w.heap.size x4 v l ∧ Below w.heap.size w x4 := ⟨Own.mono oj hX.size, Below.step hX hb4⟩
/-- a request in bytes -/
def opB (k s : Nat) (P : List Int) (f : Nat) (V : List Int) : List Int := [(k : Int)] ++ (vi s ++ (tx P ++ ([(f : Int)] ++ tx V)))

set_option maxHeartbeats 40000000 in
theorem implEncOp_yes (k : Nat) (hk1 : 1 ≤ k) (hk2 : k ≤ 13) (se pa : Bool) (lo hi vs : Int) (sq : Bool) (s f : Nat) (hs : s < 18446744073709551616) (hf : f ≤ 2) (e g : Int) (p q : Option Addr) (n m c d : Nat) (P V : List Int) (ep : Hid (P.length = n)) (ev : Hid (V.length = m)) (w : World) (hp : Rd w (.slice p n c) P) (hv : Rd w (.slice q m d) V) (hn : n ≤ 1048576) (hm : m ≤ 1048576) (hT : RowAt w 0 (k * 7) se pa lo hi vs sq true) (eB : Hid (fmF se pa lo hi vs sq s f n m e g = true)) (N : Nat) (eN : Hid ((opB k s P f V).length = N)) :
    Calls Tryd.prog 14 #[opV k s (.slice p n c) f (.slice q m d) e g] w fun r w' => ∃ p' c', r = .returned (.slice p' N c') ∧ Own w.heap.size w' (.slice p' N c') (opB k s P f V) ∧ Below w.heap.size w w' := by
  have h1 : (1 : Int) ≤ (k : Int) := by omega
  have h2 : (k : Int) ≤ 13 := by omega
  have h3 : (k : Int) < 14 := by omega
  have h4 : k < 14 := by omega
  have h5 : (0 : Int) ≤ (k : Int) := by omega
  have wk : IntKind.u8.wrap (k : Int) = (k : Int) := by rw [IntKind.wrap_u8]; omega
  have wf : IntKind.u8.wrap (f : Int) = (f : Int) := by rw [IntKind.wrap_u8]; omega
  have HP := hide fun (w' : World) (hb : Below w.heap.size w w') => hp.below hb
  have HV := hide fun (w' : World) (hb : Below w.heap.size w w') => hv.below hb
  clear hp hv
  go_enter Tryd.func14, Tryd.ntmps14
  go_wp2_with fail
  obtain ⟨W, hW⟩ : ∃ W, W = (w.alloc (.cells #[.int .i64 k, .int .u64 s, .slice p n c, .int .i64 f, .slice q m d, .int .u64 e, .int .u64 g] 31)) := ⟨_, rfl⟩
  have bW : Below w.heap.size w W := by rw [hW]; exact (Below.refl _ _).alloc (Nat.le_refl _) _
  have hA : At7 W w.heap.size (.int .i64 k) (.int .u64 s) (.slice p n c) (.int .i64 f) (.slice q m d) (.int .u64 e) (.int .u64 g) := by rw [hW]; simp [At7, go_sem]
  have zW : w.heap.size < W.heap.size := by rw [hW]; simp
  have hTW := hT.below bW
  rw [← hW]
  clear hW hT
  refine (wellFormed_any k hk1 hk2 se pa lo hi vs sq true s f e g p q n m c d _ hTW true eB).mono ?_
  rintro r w1 ⟨rfl, hb1⟩
  have hA1 := hA.below hb1
  have hT1 := hTW.below hb1
  have b1 := Below.step bW hb1
  have z1 := hb1.size
  clear hA hTW bW hb1
  obtain ⟨a0, a1, a2, a3, a4, a5, a6⟩ := hA1
  obtain ⟨t0, t1, t2, t3, t4, t5, t6⟩ := hT1
  obtain ⟨M, eM⟩ : ∃ M, Hid ((vi s).length = M) := ⟨_, rfl⟩
  obtain ⟨N1, eN1⟩ : ∃ M, Hid ((tx P).length = M) := ⟨_, rfl⟩
  obtain ⟨N2, eN2⟩ : ∃ M, Hid ((tx V).length = M) := ⟨_, rfl⟩
  have hA1 : At7 w1 w.heap.size (.int .i64 k) (.int .u64 s) (.slice p n c) (.int .i64 f) (.slice q m d) (.int .u64 e) (.int .u64 g) := ⟨a0, a1, a2, a3, a4, a5, a6⟩
  have EE : Hid (opB k s P f V = cat [[(k : Int)], vi s, tx P, [(f : Int)], tx V]) := by show _ = _; rw [cat5]; rfl
  have hNb : N ≤ 4194304 := by
    have h1 := vi_len s
    have h2 := tx_len P
    have h3 := tx_len V
    have h4 := unhide eN
    rw [opB] at h4
    simp only [List.length_append, List.length_cons, List.length_nil] at h4
    rw [unhide ep] at h2
    rw [unhide ev] at h3
    omega
  go_wp2_with fail
  clear a0 a1 a2 a3 a4 a5 a6 t0 t1 t2 t3 t4 t5 t6
  go_region_held3 (fun w' => At7 w' w.heap.size (.int .i64 k) (.int .u64 s) (.slice p n c) (.int .i64 f) (.slice q m d) (.int .u64 e) (.int .u64 g)) (exact At7.below hA1 (by repeat (first | with_reducible exact Below.refl _ _ | with_reducible refine bel_alloc ?_ _ | with_reducible refine Below.drew ?_ | with_reducible refine Below.step ?_ hb4 | with_reducible refine Below.step ?_ hb3 | with_reducible refine Below.step ?_ hb2 | with_reducible refine Below.step ?_ hb1)))
    (first
      | (go_at_call 36; with_reducible refine (varint_n s _ hs M eM).mono ?_; rintro r x1 ⟨pv, cv, rfl, ov, hb1⟩)
      | (go_at_call 37; with_reducible refine (textBytes_any p c n P ep _ (by exact unhide HP _ (by repeat (first | with_reducible exact b1 | with_reducible refine bel_alloc ?_ _ | with_reducible refine Below.drew ?_ | with_reducible refine Below.step ?_ hb3 | with_reducible refine Below.step ?_ hb2 | with_reducible refine Below.step ?_ hb1))) hn N1 eN1).mono ?_; rintro r x2 ⟨pt, ct, rfl, ot, hb2⟩)
      | (go_at_call 37; with_reducible refine (textBytes_any q d m V ev _ (by exact unhide HV _ (by repeat (first | with_reducible exact b1 | with_reducible refine bel_alloc ?_ _ | with_reducible refine Below.drew ?_ | with_reducible refine Below.step ?_ hb3 | with_reducible refine Below.step ?_ hb2 | with_reducible refine Below.step ?_ hb1))) hm N2 eN2).mono ?_; rintro r x3 ⟨pu, cu, rfl, ou, hb3⟩)
      | (go_at_call 35; with_reducible refine (joined5 _ _ _ _ _ _ [(k : Int)] (vi s) (tx P) [(f : Int)] (tx V) (opB k s P f V) N EE eN (by exact rd1 (by repeat (first | with_reducible exact cellNew (by simp) | with_reducible refine cell_al ?_ _ | with_reducible refine cell_dr ?_ | with_reducible refine cell_below ?_ hb3 | with_reducible refine cell_below ?_ hb2 | with_reducible refine cell_below ?_ hb1))) (by exact Rd.below ov.rd (by repeat (first | with_reducible exact Below.refl _ _ | with_reducible refine bel_alloc ?_ _ | with_reducible refine Below.drew ?_ | with_reducible refine Below.step ?_ hb3 | with_reducible refine Below.step ?_ hb2))) (by exact Rd.below ot.rd (by repeat (first | with_reducible exact Below.refl _ _ | with_reducible refine bel_alloc ?_ _ | with_reducible refine Below.drew ?_ | with_reducible refine Below.step ?_ hb3 | with_reducible refine Below.step ?_ hb2))) (by exact rd1 (by repeat (first | with_reducible exact cellNew (by simp) | with_reducible refine cell_al ?_ _ | with_reducible refine cell_dr ?_ | with_reducible refine cell_below ?_ hb3 | with_reducible refine cell_below ?_ hb2 | with_reducible refine cell_below ?_ hb1))) (by exact Rd.below ou.rd (by repeat (first | with_reducible exact Below.refl _ _ | with_reducible refine bel_alloc ?_ _ | with_reducible refine Below.drew ?_ | with_reducible refine Below.step ?_ hb3 | with_reducible refine Below.step ?_ hb2))) (by omega) _ (by simp)).mono ?_; rintro r x4 ⟨pj, cj, rfl, oj, hb4⟩)
      | (go_at_call 35; with_reducible refine (joined5d _ _ _ _ _ _ [(k : Int)] (vi s) (tx P) [(f : Int)] (tx V) (opB k s P f V) N EE eN (by exact rd1 (by repeat (first | with_reducible exact cellNew (by simp) | with_reducible refine cell_al ?_ _ | with_reducible refine cell_dr ?_ | with_reducible refine cell_below ?_ hb3 | with_reducible refine cell_below ?_ hb2 | with_reducible refine cell_below ?_ hb1))) (by exact Rd.below ov.rd (by repeat (first | with_reducible exact Below.refl _ _ | with_reducible refine bel_alloc ?_ _ | with_reducible refine Below.drew ?_ | with_reducible refine Below.step ?_ hb3 | with_reducible refine Below.step ?_ hb2))) (by exact Rd.below ot.rd (by repeat (first | with_reducible exact Below.refl _ _ | with_reducible refine bel_alloc ?_ _ | with_reducible refine Below.drew ?_ | with_reducible refine Below.step ?_ hb3 | with_reducible refine Below.step ?_ hb2))) (by exact rd1 (by repeat (first | with_reducible exact cellNew (by simp) | with_reducible refine cell_al ?_ _ | with_reducible refine cell_dr ?_ | with_reducible refine cell_below ?_ hb3 | with_reducible refine cell_below ?_ hb2 | with_reducible refine cell_below ?_ hb1))) (by exact Rd.below ou.rd (by repeat (first | with_reducible exact Below.refl _ _ | with_reducible refine bel_alloc ?_ _ | with_reducible refine Below.drew ?_ | with_reducible refine Below.step ?_ hb3 | with_reducible refine Below.step ?_ hb2))) (by omega) _ (by simp)).mono ?_; rintro r x4 ⟨pj, cj, rfl, oj, hb4⟩))
  all_goals (
    have hfin := fin5 (w := w) hb4 oj (by repeat (first | with_reducible exact b1 | with_reducible refine bel_alloc ?_ _ | with_reducible refine Below.drew ?_ | with_reducible refine Below.step ?_ hb3 | with_reducible refine Below.step ?_ hb2 | with_reducible refine Below.step ?_ hb1))
    clear hb4 oj hb1 hb2 hb3 ov ot ou
    go_wp2
    go_ret
    exact ⟨pj, cj, rfl, hfin⟩)
end Go.Proofs.YtekooebndehokaaDoor
