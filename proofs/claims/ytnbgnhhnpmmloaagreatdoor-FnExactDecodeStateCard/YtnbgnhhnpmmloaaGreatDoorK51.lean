import Derived.Test.YtnbgnhhnpmmloaaGreatDoorLSz
import Derived.Test.YtnbgnhhnpmmloaaGreatDoorK46
import Derived.Test.YtnbgnhhnpmmloaaGreatDoorK47
import Derived.Test.YtnbgnhhnpmmloaaGreatDoorK48
import Derived.Test.YtnbgnhhnpmmloaaGreatDoorLEq
import Derived.Test.YtnbgnhhnpmmloaaGreatDoorK35
namespace Go.Proofs.YtnbgnhhnpmmloaaGreatDoor
open Go.ChangeShapes Go.WideShapes Go.ChangeAt Go.RowKit
set_option linter.unusedVariables false
set_option linter.unusedSimpArgs false
set_option maxRecDepth 100000
theorem sumF_mem {α : Type} (F : α → Nat) {l : List α} {y : α} (h : y ∈ l) : F y ≤ sumF F l := by
 induction l with
 | nil => cases h
 | cons z l ih =>
  have e : sumF F (z :: l) = F z + sumF F l := by simp [sumF]
  rcases List.mem_cons.1 h with rfl | h
  ·omega
  ·have := ih h; omega
theorem sz_ses {ss : List Ses} {ns : List Nod} (h : szSt ss ns ≤ 1048576) : ss.length ≤ 1048576 ∧ ns.length ≤ 1048576 ∧ (∀ s ∈ ss, s.2.2.length ≤ 1048576 ∧ ∀ e ∈ s.2.2, e.2.length ≤ 1048576) ∧ ∀ nd ∈ ns, nd.path.length ≤ 1048576 ∧ nd.value.length ≤ 1048576 ∧ nd.holders.length ≤ 1048576 ∧ nd.watchers.length ≤ 1048576 := by
 unfold szSt at h
 refine ⟨by omega, by omega, fun s hs => ?_, fun nd hnd => ?_⟩
 ·have h1 := sumF_mem szSes hs
  have h0 : szSes s = s.2.2.length + sumF (fun e : Ev => e.2.length) s.2.2 := rfl
  refine ⟨by omega, fun e he => ?_⟩
  have h2 : e.2.length ≤ sumF (fun e : Ev => e.2.length) s.2.2 := sumF_mem (fun e : Ev => e.2.length) he
  omega
 ·have h1 := sumF_mem szNod hnd
  have h0 : szNod nd = nd.path.length + nd.value.length + nd.holders.length + nd.watchers.length := rfl
  omega
set_option maxHeartbeats 1600000 in
theorem markState_lv (e g x t : Int) (p q : Option Addr) (c n d m : Nat) (ss : List Ses) (ns : List Nod) (A1 A2 : List Lf) (k : Int) (w : World) (h1 : LvS w (.slice p n c) ss A1) (h2 : LvN w (.slice q m d) ns A2) (i1 : LvIn w A1) (i2 : LvIn w A2) (k0 : 0 ≤ k) (k1 : k + A1.length + A2.length ≤ 100000000) :
  Calls Tryz.prog 12 #[stV e g x t (.slice p n c) (.slice q m d), .int .i64 k] w fun r w' => r = .returned (.int .i64 (k + A1.length + A2.length)) ∧ Mk w w' (A1 ++ A2) k := by
 obtain ⟨W, hW⟩ : ∃ W, W = (w.alloc (.cells #[.int .u64 e, .int .u64 g, .int .u64 x, .int .i64 t, .slice p n c, .slice q m d] 27)) := ⟨_, rfl⟩
 have bW : Below w.heap.size w W := by rw [hW]; exact (Below.refl _ _).alloc (Nat.le_refl _) _
 have hc6 : St6 W w.heap.size e g x t (.slice p n c) (.slice q m d) := by rw [hW]; simp [St6]
 have M0 := Mk.of_below bW k
 have H1 := hide (LvS.below h1 bW)
 have H2 := hide (LvN.below h2 bW)
 have I1 := hide (i1.below bW)
 have I2 := hide (i2.below bW)
 have J := hide (And.intro i1 i2)
 have HM0 := hide M0
 have HC := hide hc6
 clear h1 h2 i1 i2 M0
 go_enter Tryz.func12, Tryz.ntmps12
 go_wp2_with fail
 rw [← hW]
 clear hW hc6
 refine (markSessionS_lv p c n ss A1 k _ (uh H1) (uh I1) k0 (by omega)).mono ?_
 rintro r w1 ⟨rfl, m1⟩
 obtain ⟨j0, j1, j2, j3, j4, j5⟩ := uh HC
 have c4 : w1.cell? ⟨w.heap.size, 4, none⟩ = some (.slice p n c) := m1.head (uh I1) j4
 have c5 : w1.cell? ⟨w.heap.size, 5, none⟩ = some (.slice q m d) := m1.head (uh I1) j5
 have H3 := hide (LvN.mk (uh H2) m1 (uh I1))
 have I3 := hide ((uh I2).mk m1 (uh I1))
 have M1 := hide ((uh HM0).trans' m1 (by simp) (LvIn.nil _) (uh J).1)
 clear m1 j0 j1 j2 j3 j4 j5
 go_wp2_with fail
 refine (markNodeS_lv q d m ns A2 (k + A1.length) _ (uh H3) (uh I3) (by omega) (by omega)).mono ?_
 rintro r w2 ⟨rfl, m2⟩
 have M2 := (uh M1).trans' m2 (by simp) (by simpa using (uh J).1) (uh J).2
 clear m2 c4 c5
 go_wp2
 go_ret
 exact ⟨rfl, by simpa using M2⟩
set_option maxHeartbeats 1600000 in
theorem heldState_lv (e g x t : Int) (p q : Option Addr) (c n d m : Nat) (ss : List Ses) (ns : List Nod) (A1 A2 : List Lf) (k : Int) (w : World) (h1 : LvS w (.slice p n c) ss A1) (h2 : LvN w (.slice q m d) ns A2) (hh : HeldAt w (A1 ++ A2) k) (k0 : 0 ≤ k) (k1 : k + A1.length + A2.length ≤ 100000000) :
  Calls Tryz.prog 13 #[stV e g x t (.slice p n c) (.slice q m d), .int .i64 k] w fun r w' => r = .returned (.int .i64 (k + A1.length + A2.length)) ∧ Below w.heap.size w w' := by
 obtain ⟨W, hW⟩ : ∃ W, W = (w.alloc (.cells #[.int .u64 e, .int .u64 g, .int .u64 x, .int .i64 t, .slice p n c, .slice q m d] 27)) := ⟨_, rfl⟩
 have bW : Below w.heap.size w W := by rw [hW]; exact (Below.refl _ _).alloc (Nat.le_refl _) _
 have hc6 : St6 W w.heap.size e g x t (.slice p n c) (.slice q m d) := by rw [hW]; simp [St6]
 have H1 := hide (LvS.below h1 bW)
 have H2 := hide (LvN.below h2 bW)
 have I1 := hide (hh.app.1.below bW)
 have I2 := hide (hh.app.2.below bW)
 have HC := hide hc6
 clear h1 h2 hh
 go_enter Tryz.func13, Tryz.ntmps13
 go_wp2_with fail
 rw [← hW]
 clear hW hc6
 refine (heldSessionS_lv p c n ss A1 k _ (uh H1) (uh I1) k0 (by omega)).mono ?_
 rintro r w1 ⟨rfl, m1⟩
 obtain ⟨j0, j1, j2, j3, j4, j5⟩ := (uh HC).below m1
 have hp1 : ¬ k + (A1.length : Int) < 0 := by omega
 have H3 := hide (LvN.below (uh H2) m1)
 have I3 := hide ((uh I2).below m1)
 have b1 := Below.step bW m1
 clear m1 bW
 go_wp2_with fail
 refine (heldNodeS_lv q d m ns A2 (k + A1.length) _ (uh H3) (uh I3) (by omega) (by omega)).mono ?_
 rintro r w2 ⟨rfl, m2⟩
 have b2 := Below.step b1 m2
 have hp2 : ¬ k + (A1.length : Int) + (A2.length : Int) < 0 := by omega
 clear m2 j0 j1 j2 j3 j4 j5 b1
 go_wp2
 go_ret
 exact ⟨rfl, b2⟩
theorem lv_row {α : Type} {kd : IntKind} {w : World} {p : Option Addr} {c n : Nat} (xs : List Int) (en : xs.length = n) (hd : xs = [] ∨ ∃ b o, p = some ⟨b, o, none⟩ ∧ ∀ i, i < xs.length → w.cell? ⟨b, o + i, none⟩ = some (.int kd (xs.getD i 0))) (BZ : Nat) (hN : Nf BZ w (.slice p n c)) :
  ∃ A, LvL (LvI kd) 1 (.slice p n c) xs A ∧ LvIn w A ∧ (∀ a ∈ A, BZ ≤ a.b) ∧ A.length = xs.length ∧ ∀ a ∈ A, (Value.slice p n c).ownBlock = some a.b := by
 subst en
 rcases hd with h0 | ⟨b, o, rfl, hc⟩
 ·subst h0
  exact ⟨[], ⟨p, c, [], rfl, rfl, rfl, .inl rfl⟩, LvIn.nil w, fun a ha => by simp at ha, rfl, fun a ha => by simp at ha⟩
 ·have hb := hN b rfl
  refine ⟨(List.range xs.length).map fun i => ⟨b, o + i, kd⟩, ⟨some ⟨b, o, none⟩, c, (List.range xs.length).map fun i => [⟨b, o + i, kd⟩], rfl, by simp, ?_, .inr ⟨b, o, rfl, fun i x l hx hl => ?_⟩⟩, fun a ha => ?_, fun a ha => ?_, by simp, fun a ha => ?_⟩
  ·induction (List.range xs.length) with
   | nil => rfl
   | cons i r ih => simp [ih]
  ·obtain ⟨hi, e⟩ := List.getElem?_eq_some_iff.1 hl
   simp at e
   rw [← e, Nat.mul_one]
   rfl
  ·obtain ⟨i, hi, rfl⟩ := List.mem_map.1 ha
   exact ⟨⟨_, hc i (by simpa using hi)⟩, hb.2 _⟩
  ·obtain ⟨i, hi, rfl⟩ := List.mem_map.1 ha
   exact hb.1
  ·obtain ⟨i, hi, rfl⟩ := List.mem_map.1 ha
   rfl
theorem lv_list {α : Type} {P : α → Nat → Nat → List Lf → Prop} {sz n c BZ : Nat} {w : World} {p : Option Addr} (F : α → Nat) (xs : List α) (en : xs.length = n) (hd : xs = [] ∨ ∃ b o, p = some ⟨b, o, none⟩ ∧ ∀ i x, xs[i]? = some x → ∃ l, P x b (o + i * sz) l ∧ LvIn w l ∧ (∀ a ∈ l, BZ ≤ a.b) ∧ l.length = F x) :
  ∃ A, LvL P sz (.slice p n c) xs A ∧ LvIn w A ∧ (∀ a ∈ A, BZ ≤ a.b) ∧ A.length = sumF F xs := by
 subst en
 rcases hd with h0 | ⟨b, o, rfl, hc⟩
 ·subst h0
  exact ⟨[], ⟨p, c, [], rfl, rfl, rfl, .inl rfl⟩, LvIn.nil w, fun a ha => by simp at ha, rfl⟩
 ·have key : ∀ k, k ≤ xs.length → ∃ LL : List (List Lf), LL.length = k ∧ (∀ (i : Nat) (x : α) (l : List Lf), xs[i]? = some x → LL[i]? = some l → P x b (o + i * sz) l) ∧ LvIn w LL.flatten ∧ (∀ a ∈ LL.flatten, BZ ≤ a.b) ∧ LL.flatten.length = sumF F (xs.take k) := by
   intro k
   induction k with
   | zero => intro _; exact ⟨[], rfl, fun i x l _ hl => by simp at hl, LvIn.nil w, fun a ha => by simp at ha, rfl⟩
   | succ k ih =>
    intro hk
    obtain ⟨LL, q1, q2, q3, q4, q5⟩ := ih (by omega)
    obtain ⟨x, hx⟩ : ∃ x, xs[k]? = some x := ⟨_, List.getElem?_eq_getElem (by omega)⟩
    obtain ⟨l, r1, r2, r3, r4⟩ := hc k x hx
    have e : (LL ++ [l]).flatten = LL.flatten ++ l := by simp
    refine ⟨LL ++ [l], by simp [q1], fun i y m hy hm => ?_, by rw [e]; exact LvIn.app.2 ⟨q3, r2⟩, fun a ha => ?_, ?_⟩
    ·by_cases hi : i < LL.length
     ·rw [List.getElem?_append_left hi] at hm
      exact q2 i y m hy hm
     ·have ei : i = k := by
       have := (List.getElem?_eq_some_iff.1 hm).1
       simp at this
       omega
      subst ei
      rw [hx] at hy
      cases hy
      rw [← q1] at hm
      simp at hm
      subst hm
      exact r1
    ·rw [e] at ha
     rcases List.mem_append.1 ha with ha | ha
     ·exact q4 a ha
     ·exact r3 a ha
    ·rw [e, List.length_append, q5, r4, List.take_add_one, hx]
     simp [sumF]
  obtain ⟨LL, q1, q2, q3, q4, q5⟩ := key xs.length (Nat.le_refl _)
  rw [List.take_length] at q5
  exact ⟨LL.flatten, ⟨some ⟨b, o, none⟩, c, LL, rfl, q1, rfl, .inr ⟨b, o, rfl, fun i x l hx hl => q2 i x l hx hl⟩⟩, q3, q4, q5⟩
def cntE (e : Ev) : Nat := 1 + e.2.length
def cntS (s : Ses) : Nat := 2 + sumF cntE s.2.2
def cntN (nd : Nod) : Nat := nd.path.length + (nd.value.length + (2 + (nd.holders.length + (2 + nd.watchers.length))))
theorem nf_own {BZ : Nat} {w : World} {b o n c : Nat} (h : Nf BZ w (.slice (some ⟨b, o, none⟩) n c)) : BZ ≤ b ∧ ∀ o, w.frozen? ⟨b, o, none⟩ = false := h b rfl
theorem Rd.lv {BZ : Nat} {w : World} {v : Value} {l : List Int} (h : Rd w v l) (hN : Nf BZ w v) : ∃ p c A, v = .slice p l.length c ∧ LvB (.slice p l.length c) l A ∧ LvIn w A ∧ (∀ a ∈ A, BZ ≤ a.b) ∧ A.length = l.length := by
 obtain ⟨p, c, rfl, hd⟩ := h
 obtain ⟨A, h1, h2, h3, h4, -⟩ := lv_row (α := Unit) (kd := .u8) (w := w) (p := p) (c := c) l rfl hd BZ hN
 exact ⟨p, c, A, rfl, h1, h2, h3, h4⟩
theorem RdU.lv {BZ : Nat} {w : World} {v : Value} {l : List Int} (h : RdU w v l) (hN : Nf BZ w v) : ∃ p c A, v = .slice p l.length c ∧ LvU (.slice p l.length c) l A ∧ LvIn w A ∧ (∀ a ∈ A, BZ ≤ a.b) ∧ A.length = l.length := by
 obtain ⟨p, c, rfl, hd⟩ := h
 obtain ⟨A, h1, h2, h3, h4, -⟩ := lv_row (α := Unit) (kd := .u64) (w := w) (p := p) (c := c) l rfl hd BZ hN
 exact ⟨p, c, A, rfl, h1, h2, h3, h4⟩
theorem LvIn.cons {w : World} {a : Lf} {A : List Lf} (h1 : ∃ n, w.cell? ⟨a.b, a.o, none⟩ = some (.int a.k n)) (h2 : w.frozen? ⟨a.b, a.o, none⟩ = false) (h : LvIn w A) : LvIn w (a :: A) := by
 intro y hy
 rcases List.mem_cons.1 hy with rfl | hy
 ·exact ⟨h1, h2⟩
 ·exact h y hy
theorem RdEw.lv {BZ : Nat} {w : World} {v : Value} {es : List Ev} (h : RdEw BZ w v es) : ∃ p c A, v = .slice p es.length c ∧ LvE w (.slice p es.length c) es A ∧ LvIn w A ∧ (∀ a ∈ A, BZ ≤ a.b) ∧ A.length = sumF cntE es := by
 obtain ⟨p, c, rfl, hN, hd⟩ := h
 obtain ⟨A, h1, h2, h3, h4⟩ := lv_list (P := LvEv w) (sz := 2) (c := c) (BZ := BZ) (w := w) (p := p) cntE es rfl (by
  rcases hd with h0 | ⟨b, o, rfl, hd⟩
  ·exact .inl h0
  ·refine .inr ⟨b, o, rfl, fun i e he => ?_⟩
   obtain ⟨c1, u, c2, r, -, nf⟩ := hd i e he
   obtain ⟨p', c', A, rfl, a1, a2, a3, a4⟩ := r.lv nf
   have hb := nf_own hN
   refine ⟨⟨b, o + i * 2, .i64⟩ :: A, ⟨p', c', A, rfl, c2, a1⟩, LvIn.cons ⟨_, c1⟩ (hb.2 _) a2, fun a ha => ?_, by simp [cntE, a4]; omega⟩
   rcases List.mem_cons.1 ha with rfl | ha
   ·exact hb.1
   ·exact a3 a ha)
 exact ⟨p, c, A, rfl, h1, h2, h3, h4⟩
theorem RdSw.lv {BZ : Nat} {w : World} {v : Value} {es : List Ses} (h : RdSw BZ w v es) : ∃ p c A, v = .slice p es.length c ∧ LvS w (.slice p es.length c) es A ∧ LvIn w A ∧ (∀ a ∈ A, BZ ≤ a.b) ∧ A.length = sumF cntS es := by
 obtain ⟨p, c, rfl, hN, hd⟩ := h
 obtain ⟨A, h1, h2, h3, h4⟩ := lv_list (P := LvSe w) (sz := 3) (c := c) (BZ := BZ) (w := w) (p := p) cntS es rfl (by
  rcases hd with h0 | ⟨b, o, rfl, hd⟩
  ·exact .inl h0
  ·refine .inr ⟨b, o, rfl, fun i e he => ?_⟩
   obtain ⟨c1, c2, u, c3, r⟩ := hd i e he
   obtain ⟨p', c', A, rfl, a1, a2, a3, a4⟩ := r.lv
   have hb := nf_own hN
   refine ⟨⟨b, o + i * 3, .u64⟩ :: ⟨b, o + i * 3 + 1, .i64⟩ :: A, ⟨p', c', A, rfl, c3, a1⟩, LvIn.cons ⟨_, c1⟩ (hb.2 _) (LvIn.cons ⟨_, c2⟩ (hb.2 _) a2), fun a ha => ?_, by simp [cntS, a4]; omega⟩
   rcases List.mem_cons.1 ha with rfl | ha
   ·exact hb.1
   ·rcases List.mem_cons.1 ha with rfl | ha
    ·exact hb.1
    ·exact a3 a ha)
 exact ⟨p, c, A, rfl, h1, h2, h3, h4⟩
theorem RdNw.lv {BZ : Nat} {w : World} {v : Value} {es : List Nod} (h : RdNw BZ w v es) : ∃ p c A, v = .slice p es.length c ∧ LvN w (.slice p es.length c) es A ∧ LvIn w A ∧ (∀ a ∈ A, BZ ≤ a.b) ∧ A.length = sumF cntN es := by
 obtain ⟨p, c, rfl, hN, hd⟩ := h
 obtain ⟨A, h1, h2, h3, h4⟩ := lv_list (P := LvNo w) (sz := 8) (c := c) (BZ := BZ) (w := w) (p := p) cntN es rfl (by
  rcases hd with h0 | ⟨b, o, rfl, hd⟩
  ·exact .inl h0
  ·refine .inr ⟨b, o, rfl, fun i e he => ?_⟩
   obtain ⟨P, V, H, U, na, n0, n1, n4, n7⟩ := hd i e he
   obtain ⟨p0, c0, A0, rfl, a01, a02, a03, a04⟩ := na.r0.lv n0
   obtain ⟨p1, c1, A1, rfl, a11, a12, a13, a14⟩ := na.r1.lv n1
   obtain ⟨p4, c4, A4, rfl, a41, a42, a43, a44⟩ := na.r4.lv n4
   obtain ⟨p7, c7, A7, rfl, a71, a72, a73, a74⟩ := na.r7.lv n7
   have hb := nf_own hN
   refine ⟨A0 ++ (A1 ++ (⟨b, o + i * 8 + 2, .u64⟩ :: ⟨b, o + i * 8 + 3, .i64⟩ :: (A4 ++ (⟨b, o + i * 8 + 5, .u64⟩ :: ⟨b, o + i * 8 + 6, .u64⟩ :: A7)))),
    ⟨p0, c0, p1, c1, p4, c4, p7, c7, A0, A1, A4, A7, rfl, ⟨na.c0, a01⟩, ⟨na.c1, a11⟩, ⟨na.c4, a41⟩, ⟨na.c7, a71⟩⟩,
    LvIn.app.2 ⟨a02, LvIn.app.2 ⟨a12, LvIn.cons ⟨_, na.c2⟩ (hb.2 _) (LvIn.cons ⟨_, na.c3⟩ (hb.2 _) (LvIn.app.2 ⟨a42, LvIn.cons ⟨_, na.c5⟩ (hb.2 _) (LvIn.cons ⟨_, na.c6⟩ (hb.2 _) a72)⟩))⟩⟩, fun a ha => ?_, by simp [cntN, a04, a14, a44, a74]; omega⟩
   simp only [List.mem_append, List.mem_cons] at ha
   rcases ha with ha | ha | rfl | rfl | ha | rfl | rfl | ha
   ·exact a03 a ha
   ·exact a13 a ha
   ·exact hb.1
   ·exact hb.1
   ·exact a43 a ha
   ·exact hb.1
   ·exact hb.1
   ·exact a73 a ha)
 exact ⟨p, c, A, rfl, h1, h2, h3, h4⟩
theorem sumF_mono {α : Type} {F G : α → Nat} (l : List α) (h : ∀ x ∈ l, F x ≤ G x) : sumF F l ≤ sumF G l := by
 induction l with
 | nil => exact Nat.le_refl _
 | cons x l ih =>
  have := ih fun y hy => h y (by simp [hy])
  have := h x (by simp)
  simp only [sumF, List.map_cons, List.sum_cons] at *
  omega
theorem sumF_add {α : Type} (F : α → Nat) (k : Nat) (l : List α) : sumF (fun x => k + F x) l = k * l.length + sumF F l := by
 induction l with
 | nil => rfl
 | cons x l ih =>
  simp only [sumF, List.map_cons, List.sum_cons, List.length_cons] at *
  rw [ih, Nat.mul_succ]
  omega
theorem cnt_le (ss : List Ses) (ns : List Nod) : sumF cntS ss + sumF cntN ns ≤ 4 * szSt ss ns := by
 have h1 : sumF cntS ss ≤ sumF (fun s => 2 + szSes s) ss := sumF_mono ss fun s _ => by
  have := sumF_add (fun e : Ev => e.2.length) 1 s.2.2
  have e : sumF cntE s.2.2 = sumF (fun e : Ev => 1 + e.2.length) s.2.2 := rfl
  simp only [cntS, szSes]
  omega
 have h2 : sumF cntN ns ≤ sumF (fun s => 4 + szNod s) ns := sumF_mono ns fun s _ => by
  simp only [cntN, szNod]
  omega
 rw [sumF_add] at h1 h2
 simp only [szSt]
 omega
theorem StOwn.rd {B : Nat} {w : World} {p q : Option Addr} {n c m d : Nat} {ss : List Ses} {ns : List Nod} (h : StOwn B w p n c q m d ss ns) : RdS w (.slice p n c) ss ∧ RdN w (.slice q m d) ns := by
 obtain ⟨A1, A2, h1, h2, -⟩ := h
 exact ⟨h1.rd, h2⟩
def StLv (B : Nat) (w : World) (A1 A2 : List Lf) (p : Option Addr) (n c : Nat) (q : Option Addr) (m d : Nat) (ss : List Ses) (ns : List Nod) : Prop :=
 RdSc w (.slice p n c) ss ∧ RdN w (.slice q m d) ns ∧ LvS w (.slice p n c) ss A1 ∧ LvN w (.slice q m d) ns A2 ∧ Apt B w (A1 ++ A2)
theorem StLv.keep {B : Nat} {w w' : World} {A1 A2 : List Lf} {p q : Option Addr} {n c m d : Nat} {ss : List Ses} {ns : List Nod} (h : StLv B w A1 A2 p n c q m d ss ns) (hk : ∀ a ∈ A1 ++ A2, w'.heap[a.b]? = w.heap[a.b]?) : StLv B w' A1 A2 p n c q m d ss ns := by
 obtain ⟨h1, h2, h3, h4, h5⟩ := h
 have k1 : ∀ a ∈ A1, w'.heap[a.b]? = w.heap[a.b]? := fun a ha => hk a (List.mem_append_left _ ha)
 have k2 : ∀ a ∈ A2, w'.heap[a.b]? = w.heap[a.b]? := fun a ha => hk a (List.mem_append_right _ ha)
 exact ⟨h1.keepLv h3 k1, h2.keepLv h4 k2, LvS.keep h3 k1, LvN.keep h4 k2, h5.keep hk⟩
theorem StLv.below {B : Nat} {w w' : World} {A1 A2 : List Lf} {p q : Option Addr} {n c m d : Nat} {ss : List Ses} {ns : List Nod} (h : StLv B w A1 A2 p n c q m d ss ns) (hb : Below w.heap.size w w') : StLv B w' A1 A2 p n c q m d ss ns := h.keep fun a ha => hb.block _ (h.2.2.2.2.inn.lt ha)
theorem StLv.rd {B : Nat} {w : World} {A1 A2 : List Lf} {p q : Option Addr} {n c m d : Nat} {ss : List Ses} {ns : List Nod} (h : StLv B w A1 A2 p n c q m d ss ns) : RdS w (.slice p n c) ss ∧ RdN w (.slice q m d) ns := ⟨h.1.rd, h.2.1⟩
theorem LvL.cnt {α : Type} {P : α → Nat → Nat → List Lf → Prop} {sz : Nat} {v : Value} {xs : List α} {A : List Lf} (F : α → Nat) (h : LvL P sz v xs A) (hP : ∀ x b a l, P x b a l → l.length = F x) : A.length = sumF F xs := by
 obtain ⟨p, c, Ls, h1, h2, rfl, h4⟩ := h
 rcases h4 with h0 | ⟨b, o, -, h6⟩
 ·subst h0
  have : Ls = [] := List.length_eq_zero_iff.1 h2
  subst this
  rfl
 ·have key : ∀ k, k ≤ xs.length → (Ls.take k).flatten.length = sumF F (xs.take k) := by
   intro k
   induction k with
   | zero => intro _; rfl
   | succ k ih =>
    intro hk
    obtain ⟨x, hx⟩ : ∃ x, xs[k]? = some x := ⟨_, List.getElem?_eq_getElem (by omega)⟩
    obtain ⟨l, hl⟩ : ∃ l, Ls[k]? = some l := ⟨_, List.getElem?_eq_getElem (by omega)⟩
    rw [List.take_add_one, hl, sumF_step F hx, ← ih (by omega), ← hP _ _ _ _ (h6 k x l hx hl)]
    simp
  have := key xs.length (Nat.le_refl _)
  rw [List.take_length, ← h2, List.take_length] at this
  exact this
theorem sumF_one {α : Type} (l : List α) : sumF (fun _ => 1) l = l.length := by
 induction l with
 | nil => rfl
 | cons x l ih => simp only [sumF, List.map_cons, List.sum_cons, List.length_cons] at *; omega
theorem LvB.cnt {v : Value} {xs : List Int} {A : List Lf} (h : LvB v xs A) : A.length = xs.length := by
 rw [LvL.cnt (fun _ => 1) h (fun x b a l hl => by rw [show l = _ from hl]; rfl)]
 exact sumF_one xs
theorem LvU.cnt {v : Value} {xs : List Int} {A : List Lf} (h : LvU v xs A) : A.length = xs.length := by
 rw [LvL.cnt (fun _ => 1) h (fun x b a l hl => by rw [show l = _ from hl]; rfl)]
 exact sumF_one xs
theorem LvE.cnt {w : World} {v : Value} {xs : List Ev} {A : List Lf} (h : LvE w v xs A) : A.length = sumF cntE xs := LvL.cnt cntE h fun x b a l hl => by
 obtain ⟨p, c, lb, rfl, -, h3⟩ := hl
 simp [cntE, LvB.cnt h3]; omega
theorem LvS.cnt {w : World} {v : Value} {xs : List Ses} {A : List Lf} (h : LvS w v xs A) : A.length = sumF cntS xs := LvL.cnt cntS h fun x b a l hl => by
 obtain ⟨p, c, lb, rfl, -, h3⟩ := hl
 simp [cntS, LvE.cnt h3]; omega
theorem LvN.cnt {w : World} {v : Value} {xs : List Nod} {A : List Lf} (h : LvN w v xs A) : A.length = sumF cntN xs := LvL.cnt cntN h fun x b a l hl => by
 obtain ⟨p0, c0, p1, c1, p4, c4, p7, c7, l0, l1, l4, l7, rfl, ⟨-, h0⟩, ⟨-, h1⟩, ⟨-, h4⟩, ⟨-, h7⟩⟩ := hl
 simp [cntN, LvB.cnt h0, LvB.cnt h1, LvU.cnt h4, LvU.cnt h7]; omega
end Go.Proofs.YtnbgnhhnpmmloaaGreatDoor
