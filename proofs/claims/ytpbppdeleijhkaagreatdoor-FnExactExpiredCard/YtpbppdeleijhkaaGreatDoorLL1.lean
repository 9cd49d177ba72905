import Derived.Test.YtpbppdeleijhkaaGreatDoorLL0
namespace Go.Proofs.YtpbppdeleijhkaaGreatDoor
open Go.ChangeShapes Go.WideShapes Go.ChangeAt Go.RowKit
set_option linter.unusedVariables false
set_option linter.unusedSimpArgs false
set_option maxRecDepth 100000

def cntE (e : Ev) : Nat := 1 + e.2.length
def cntS (s : Ses) : Nat := 2 + sumF cntE s.2.2
def cntN (nd : Nod) : Nat := nd.path.length + (nd.value.length + (2 + (nd.holders.length + (2 + nd.watchers.length))))
theorem nf_own {BZ : Nat} {w : World} {b o n c : Nat} (h : Nf BZ w (.slice (some ⟨b, o, none⟩) n c)) : BZ ≤ b ∧ ∀ o, w.frozen? ⟨b, o, none⟩ = false := h b rfl
theorem Rd.lv {BZ : Nat} {w : World} {v : Value} {l : List Int} (h : Rd w v l) (hN : Nf BZ w v) : ∃ p c A, v = .slice p l.length c ∧ LvB (.slice p l.length c) l A ∧ LvIn w A ∧ (∀ a ∈ A, BZ ≤ a.b) ∧ A.length = l.length := by
  obtain ⟨p, c, rfl, hd⟩ := h
  obtain ⟨A, h1, h2, h3, h4, -⟩ := lv_row (α := Unit) (kd := .u8) (w := w) (p := p) (c := c) l rfl hd BZ hN
  exact ⟨p, c, A, rfl, h1, h2, h3, h4⟩
theorem RdU.lv {BZ : Nat} {w : World} {v : Value} {l : List Int} (h : RdU w v l) (hN : Nf BZ w v) : ∃ p c A, v = .slice p l.length c ∧ LvU (.slice p l.length c) l A ∧ LvIn w A ∧ (∀ a ∈ A, BZ ≤ a.b) ∧ A.length = l.length := by
  obtain ⟨p, c, rfl, hd⟩ := h
  obtain ⟨A, h1, h2, h3, h4, -⟩ := lv_row (α := Unit) (kd := .u64) (w := w) (p := p) (c := c) l rfl hd BZ hN
  exact ⟨p, c, A, rfl, h1, h2, h3, h4⟩
theorem LvIn.cons {w : World} {a : Lf} {A : List Lf} (h1 : ∃ n, w.cell? ⟨a.b, a.o, none⟩ = some (.int a.k n)) (h2 : w.frozen? ⟨a.b, a.o, none⟩ = false) (h : LvIn w A) : LvIn w (a :: A) := by
  intro y hy
  rcases List.mem_cons.1 hy with rfl | hy
  · exact ⟨h1, h2⟩
  · exact h y hy
theorem RdEw.lv {BZ : Nat} {w : World} {v : Value} {es : List Ev} (h : RdEw BZ w v es) : ∃ p c A, v = .slice p es.length c ∧ LvE w (.slice p es.length c) es A ∧ LvIn w A ∧ (∀ a ∈ A, BZ ≤ a.b) ∧ A.length = sumF cntE es := by
  obtain ⟨p, c, rfl, hN, hd⟩ := h
  obtain ⟨A, h1, h2, h3, h4⟩ := lv_list (P := LvEv w) (sz := 2) (c := c) (BZ := BZ) (w := w) (p := p) cntE es rfl (by
    rcases hd with h0 | ⟨b, o, rfl, hd⟩
    · exact .inl h0
    · refine .inr ⟨b, o, rfl, fun i e he => ?_⟩
      obtain ⟨c1, u, c2, r, -, nf⟩ := hd i e he
      obtain ⟨p', c', A, rfl, a1, a2, a3, a4⟩ := r.lv nf
      have hb := nf_own hN
      refine ⟨⟨b, o + i * 2, .i64⟩ :: A, ⟨p', c', A, rfl, c2, a1⟩, LvIn.cons ⟨_, c1⟩ (hb.2 _) a2, fun a ha => ?_, by simp [cntE, a4]; omega⟩
      rcases List.mem_cons.1 ha with rfl | ha
      · exact hb.1
      · exact a3 a ha)
  exact ⟨p, c, A, rfl, h1, h2, h3, h4⟩
theorem RdSw.lv {BZ : Nat} {w : World} {v : Value} {es : List Ses} (h : RdSw BZ w v es) : ∃ p c A, v = .slice p es.length c ∧ LvS w (.slice p es.length c) es A ∧ LvIn w A ∧ (∀ a ∈ A, BZ ≤ a.b) ∧ A.length = sumF cntS es := by
  obtain ⟨p, c, rfl, hN, hd⟩ := h
  obtain ⟨A, h1, h2, h3, h4⟩ := lv_list (P := LvSe w) (sz := 3) (c := c) (BZ := BZ) (w := w) (p := p) cntS es rfl (by
    rcases hd with h0 | ⟨b, o, rfl, hd⟩
    · exact .inl h0
    · refine .inr ⟨b, o, rfl, fun i e he => ?_⟩
      obtain ⟨c1, c2, u, c3, r⟩ := hd i e he
      obtain ⟨p', c', A, rfl, a1, a2, a3, a4⟩ := r.lv
      have hb := nf_own hN
      refine ⟨⟨b, o + i * 3, .u64⟩ :: ⟨b, o + i * 3 + 1, .i64⟩ :: A, ⟨p', c', A, rfl, c3, a1⟩, LvIn.cons ⟨_, c1⟩ (hb.2 _) (LvIn.cons ⟨_, c2⟩ (hb.2 _) a2), fun a ha => ?_, by simp [cntS, a4]; omega⟩
      rcases List.mem_cons.1 ha with rfl | ha
      · exact hb.1
      · rcases List.mem_cons.1 ha with rfl | ha
        · exact hb.1
        · exact a3 a ha)
  exact ⟨p, c, A, rfl, h1, h2, h3, h4⟩
theorem RdNw.lv {BZ : Nat} {w : World} {v : Value} {es : List Nod} (h : RdNw BZ w v es) : ∃ p c A, v = .slice p es.length c ∧ LvN w (.slice p es.length c) es A ∧ LvIn w A ∧ (∀ a ∈ A, BZ ≤ a.b) ∧ A.length = sumF cntN es := by
  obtain ⟨p, c, rfl, hN, hd⟩ := h
  obtain ⟨A, h1, h2, h3, h4⟩ := lv_list (P := LvNo w) (sz := 8) (c := c) (BZ := BZ) (w := w) (p := p) cntN es rfl (by
    rcases hd with h0 | ⟨b, o, rfl, hd⟩
    · exact .inl h0
    · refine .inr ⟨b, o, rfl, fun i e he => ?_⟩
      obtain ⟨P, V, H, U, na, n0, n1, n4, n7⟩ := hd i e he
      obtain ⟨p0, c0, A0, rfl, a01, a02, a03, a04⟩ := na.r0.lv n0
      obtain ⟨p1, c1, A1, rfl, a11, a12, a13, a14⟩ := na.r1.lv n1
      obtain ⟨p4, c4, A4, rfl, a41, a42, a43, a44⟩ := na.r4.lv n4
      obtain ⟨p7, c7, A7, rfl, a71, a72, a73, a74⟩ := na.r7.lv n7
      have hb := nf_own hN
      refine ⟨A0 ++ (A1 ++ (⟨b, o + i * 8 + 2, .u64⟩ :: ⟨b, o + i * 8 + 3, .i64⟩ :: (A4 ++ (⟨b, o + i * 8 + 5, .u64⟩ :: ⟨b, o + i * 8 + 6, .u64⟩ :: A7)))),
        ⟨p0, c0, p1, c1, p4, c4, p7, c7, A0, A1, A4, A7, rfl, ⟨na.c0, a01⟩, ⟨na.c1, a11⟩, ⟨na.c4, a41⟩, ⟨na.c7, a71⟩⟩,
        LvIn.app.2 ⟨a02, LvIn.app.2 ⟨a12, LvIn.cons ⟨_, na.c2⟩ (hb.2 _) (LvIn.cons ⟨_, na.c3⟩ (hb.2 _) (LvIn.app.2 ⟨a42, LvIn.cons ⟨_, na.c5⟩ (hb.2 _) (LvIn.cons ⟨_, na.c6⟩ (hb.2 _) a72)⟩))⟩⟩, fun a ha => ?_, by simp [cntN, a04, a14, a44, a74]; omega⟩
      simp only [List.mem_append, List.mem_cons] at ha
      rcases ha with ha | ha | rfl | rfl | ha | rfl | rfl | ha
      · exact a03 a ha
      · exact a13 a ha
      · exact hb.1
      · exact hb.1
      · exact a43 a ha
      · exact hb.1
      · exact hb.1
      · exact a73 a ha)
  exact ⟨p, c, A, rfl, h1, h2, h3, h4⟩
theorem sumF_mono {α : Type} {F G : α → Nat} (l : List α) (h : ∀ x ∈ l, F x ≤ G x) : sumF F l ≤ sumF G l := by
  induction l with
  | nil => exact Nat.le_refl _
  | cons x l ih =>
    have := ih fun y hy => h y (by simp [hy])
    have := h x (by simp)
    simp only [sumF, List.map_cons, List.sum_cons] at *
    omega
theorem sumF_add {α : Type} (F : α → Nat) (k : Nat) (l : List α) : sumF (fun x => k + F x) l = k * l.length + sumF F l := by
  induction l with
  | nil => rfl
  | cons x l ih =>
    simp only [sumF, List.map_cons, List.sum_cons, List.length_cons] at *
    rw [ih, Nat.mul_succ]
    omega
theorem cnt_le (ss : List Ses) (ns : List Nod) : sumF cntS ss + sumF cntN ns ≤ 4 * szSt ss ns := by
  have h1 : sumF cntS ss ≤ sumF (fun s => 2 + szSes s) ss := sumF_mono ss fun s _ => by
    have := sumF_add (fun e : Ev => e.2.length) 1 s.2.2
    have e : sumF cntE s.2.2 = sumF (fun e : Ev => 1 + e.2.length) s.2.2 := rfl
    simp only [cntS, szSes]
    omega
  have h2 : sumF cntN ns ≤ sumF (fun s => 4 + szNod s) ns := sumF_mono ns fun s _ => by
    simp only [cntN, szNod]
    omega
  rw [sumF_add] at h1 h2
  simp only [szSt]
  omega
/-- the leaves of a state that is one's own to write -/
theorem state_lv {BZ : Nat} {w : World} {p q : Option Addr} {n c m d : Nat} {ss : List Ses} {ns : List Nod} (h : RdSw BZ w (.slice p n c) ss) (hN : RdNw BZ w (.slice q m d) ns) :
    ∃ A1 A2, LvS w (.slice p n c) ss A1 ∧ LvN w (.slice q m d) ns A2 ∧ LvIn w A1 ∧ LvIn w A2 ∧ (∀ a ∈ A1 ++ A2, BZ ≤ a.b ∧ a.b < w.heap.size) ∧ A1.length + A2.length ≤ 4 * szSt ss ns := by
  obtain ⟨p1, c1, A1, e1, a1, a2, a3, a4⟩ := h.lv
  obtain ⟨p2, c2, A2, e2, b1, b2, b3, b4⟩ := hN.lv
  simp only [Value.slice.injEq] at e1 e2
  obtain ⟨rfl, rfl, rfl⟩ := e1
  obtain ⟨rfl, rfl, rfl⟩ := e2
  refine ⟨A1, A2, a1, b1, a2, b2, fun a ha => ?_, by rw [a4, b4]; exact cnt_le ss ns⟩
  rcases List.mem_append.1 ha with ha | ha
  · exact ⟨a3 a ha, a2.lt ha⟩
  · exact ⟨b3 a ha, b2.lt ha⟩
end Go.Proofs.YtpbppdeleijhkaaGreatDoor
