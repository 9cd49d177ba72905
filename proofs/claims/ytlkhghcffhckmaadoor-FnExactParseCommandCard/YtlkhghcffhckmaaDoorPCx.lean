import Derived.Test.YtlkhghcffhckmaaDoorPCk
namespace Go.Proofs.YtlkhghcffhckmaaDoor
open Go.ChangeShapes Go.WideShapes Go.ChangeAt Go.RowKit
set_option linter.unusedVariables false
set_option linter.unusedSimpArgs false
set_option maxRecDepth 100000

/-- no byte in the block -/
def NoB (w : World) (b : Nat) : Prop := ∀ o x, w.cell? ⟨b, o, none⟩ ≠ some (.int .u8 x)
theorem NoB.alloc (w : World) (cs : Array Value) (t : TypeId) (h : ∀ u ∈ cs.toList, ∀ x, u ≠ .int .u8 x) : NoB (w.alloc (.cells cs t)) w.heap.size := by
 intro o x e
 have e2 : cs[o]? = some (.int .u8 x) := by simpa using e
 exact h _ (Array.mem_toList_iff.2 (Array.mem_of_getElem? e2)) x rfl
theorem NoB.below {w w' : World} {b : Nat} (h : NoB w b) (hb : b < w.heap.size) (hbl : Below w.heap.size w w') : NoB w' b := fun o x e => h o x ((hbl.cell (p := ⟨b, o, none⟩) hb).symm.trans e)
theorem NoB.set {w : World} {b : Nat} (h : NoB w b) {j : Nat} {u v0 : Value} (hc : w.cell? ⟨b, j, none⟩ = some v0) (hu : ∀ x, u ≠ .int .u8 x) : NoB (w.setCell ⟨b, j, none⟩ u) b := by
 intro o x e
 by_cases ej : j = o
 ·subst ej
  rw [World.cell?_setCell_same _ _ _ hc] at e
  cases e
  exact hu x rfl
 ·refine h o x ?_
  simpa [go_sem, ej] using e
theorem NoB.far {w : World} {b : Nat} (h : NoB w b) {a : Addr} (ha : b ≠ a.block) (u : Value) : NoB (w.setCell a u) b := fun o x e => h o x (by
 have hh : (w.setCell a u).heap[b]? = w.heap[b]? := RowKit.Below.heap_setCell _ _ _ _ ha
 rw [← e]; exact (cell_at_heap hh _).symm)
theorem Rd.put {w : World} {v : Value} {l : List Int} (h : Rd w v l) {b : Nat} (hn : NoB w b) (j : Nat) (u : Value) : Rd (w.setCell ⟨b, j, none⟩ u) v l := by
 obtain ⟨p, cap, e, hd⟩ := h
 refine ⟨p, cap, e, ?_⟩
 rcases hd with h0 | ⟨b', o, h1, h2⟩
 ·exact .inl h0
 ·by_cases hl : l = []
  ·exact .inl hl
  ·refine .inr ⟨b', o, h1, fun i hi => ?_⟩
   have hne : b' ≠ b := fun eb => by subst eb; exact hn _ _ (h2 i hi)
   have hh : (w.setCell ⟨b, j, none⟩ u).heap[b']? = w.heap[b']? := RowKit.Below.heap_setCell _ _ _ _ hne
   rw [cell_at_heap hh]
   exact h2 i hi
def put10 (w : World) (b : Nat) (v0 v1 v2 v3 v4 v5 v6 v7 v8 v9 : Value) : World := (((((((((w.setCell ⟨b, 0, none⟩ v0).setCell ⟨b, 1, none⟩ v1).setCell ⟨b, 2, none⟩ v2).setCell ⟨b, 3, none⟩ v3).setCell ⟨b, 4, none⟩ v4).setCell ⟨b, 5, none⟩ v5).setCell ⟨b, 6, none⟩ v6).setCell ⟨b, 7, none⟩ v7).setCell ⟨b, 8, none⟩ v8).setCell ⟨b, 9, none⟩ v9
theorem put10_is {w : World} {b : Nat} {o0 o1 o2 o3 o4 o5 o6 o7 o8 o9 : Value} (h : CellsAre w b [o0, o1, o2, o3, o4, o5, o6, o7, o8, o9]) (hn : NoB w b) {v0 v1 v2 v3 v4 v5 v6 v7 v8 v9 : Value} (hv : ∀ u ∈ [v0, v1, v2, v3, v4, v5, v6, v7, v8, v9], ∀ x, u ≠ .int .u8 x) :
  CellsAre (put10 w b v0 v1 v2 v3 v4 v5 v6 v7 v8 v9) b [v0, v1, v2, v3, v4, v5, v6, v7, v8, v9] ∧ NoB (put10 w b v0 v1 v2 v3 v4 v5 v6 v7 v8 v9) b ∧ (∀ v l, Rd w v l → Rd (put10 w b v0 v1 v2 v3 v4 v5 v6 v7 v8 v9) v l) ∧ (∀ B w0, B ≤ b → Below B w0 w → Below B w0 (put10 w b v0 v1 v2 v3 v4 v5 v6 v7 v8 v9)) := by
 have c0 := h.near 0 (by simp) v0
 have c1 := c0.near 1 (by simp) v1
 have c2 := c1.near 2 (by simp) v2
 have c3 := c2.near 3 (by simp) v3
 have c4 := c3.near 4 (by simp) v4
 have c5 := c4.near 5 (by simp) v5
 have c6 := c5.near 6 (by simp) v6
 have c7 := c6.near 7 (by simp) v7
 have c8 := c7.near 8 (by simp) v8
 have c9 := c8.near 9 (by simp) v9
 have n0 := hn.set (h.1 0 _ rfl) (hv v0 (by simp))
 have n1 := n0.set (c0.1 1 _ rfl) (hv v1 (by simp))
 have n2 := n1.set (c1.1 2 _ rfl) (hv v2 (by simp))
 have n3 := n2.set (c2.1 3 _ rfl) (hv v3 (by simp))
 have n4 := n3.set (c3.1 4 _ rfl) (hv v4 (by simp))
 have n5 := n4.set (c4.1 5 _ rfl) (hv v5 (by simp))
 have n6 := n5.set (c5.1 6 _ rfl) (hv v6 (by simp))
 have n7 := n6.set (c6.1 7 _ rfl) (hv v7 (by simp))
 have n8 := n7.set (c7.1 8 _ rfl) (hv v8 (by simp))
 have n9 := n8.set (c8.1 9 _ rfl) (hv v9 (by simp))
 refine ⟨c9, n9, fun v l hr => ?_, fun B w0 hB hb => ?_⟩
 ·exact (((((((((hr.put hn 0 _).put n0 1 _).put n1 2 _).put n2 3 _).put n3 4 _).put n4 5 _).put n5 6 _).put n6 7 _).put n7 8 _).put n8 9 _
 ·exact ((((((((((hb.setCell (p := ⟨b, 0, none⟩) hB _).setCell (p := ⟨b, 1, none⟩) hB _).setCell (p := ⟨b, 2, none⟩) hB _).setCell (p := ⟨b, 3, none⟩) hB _).setCell (p := ⟨b, 4, none⟩) hB _).setCell (p := ⟨b, 5, none⟩) hB _).setCell (p := ⟨b, 6, none⟩) hB _).setCell (p := ⟨b, 7, none⟩) hB _).setCell (p := ⟨b, 8, none⟩) hB _).setCell (p := ⟨b, 9, none⟩) hB _)
theorem shapes_cls (T : List Int × List Part × Int × Int) (h : T ∈ shapes) : T.2.1.length ≤ 4 ∧ ((T.2.2.1 = 5 ∧ T.2.1.getLast? = some (.inr .lt)) ∨ (¬ T.2.2.1 = 5 ∧ T.2.1 = []) ∨ (¬ T.2.2.1 = 5 ∧ T.2.1.getLast? = some (.inl .i32)) ∨ (¬ T.2.2.1 = 5 ∧ ∃ q, T.2.1.getLast? = some q ∧ ¬ q.byte = 86 ∧ ¬ q.byte = 99)) := by
 simp only [shapes, List.mem_cons, List.not_mem_nil, or_false] at h
 rcases h with rfl | rfl | rfl | rfl | rfl | rfl | rfl | rfl | rfl | rfl | rfl | rfl | rfl | rfl | rfl | rfl | rfl | rfl | rfl
 all_goals refine ⟨by decide, ?_⟩
 all_goals first
  | exact .inl ⟨rfl, rfl⟩
  | exact .inr (.inl ⟨by decide, rfl⟩)
  | exact .inr (.inr (.inl ⟨by decide, rfl⟩))
  | exact .inr (.inr (.inr ⟨by decide, _, rfl, by decide, by decide⟩))
theorem fills_step (C : Cmd) (ps : List Part) (ws : List (List Int)) (j : Nat) (q : Part) (y : List Int) (hq : ps[j]? = some q) (hy : ws[j]? = some y) : fillsS C (ps.drop j) (ws.drop j) = (fillS C q y).bind fun c' => fillsS c' (ps.drop (j + 1)) (ws.drop (j + 1)) := by
 obtain ⟨h1, e1⟩ := List.getElem?_eq_some_iff.1 hq
 obtain ⟨h2, e2⟩ := List.getElem?_eq_some_iff.1 hy
 rw [List.drop_eq_getElem_cons h1, List.drop_eq_getElem_cons h2, e1, e2]
 rfl
theorem fills_end (C : Cmd) (ps : List Part) (ws : List (List Int)) (j : Nat) (h : ws.length ≤ j) : fillsS C (ps.drop j) (ws.drop j) = some C := by
 rw [List.drop_of_length_le h]
 cases ps.drop j <;> rfl
theorem cm_form {w : World} {V : Value} {O : Option Cmd} (h : IsCm V) (hs : ∀ C, O = some C → RdCm w V C) : ∃ (C1 : Cmd) (x1 : Option Addr) (x2 x3 : Nat) (y1 : Option Addr) (y2 y3 : Nat), V = cmV C1.k C1.op C1.se (.slice x1 x2 x3) C1.fl (.slice y1 y2 y3) C1.ep C1.ge C1.n C1.m ∧ ∀ C, O = some C → C1 = C ∧ Rd w (.slice x1 x2 x3) C.pa ∧ Rd w (.slice y1 y2 y3) C.va := by
 cases O with
 | none =>
  obtain ⟨k, op, se, a1, a2, a3, fl, b1, b2, b3, ep, ge, n, m, e⟩ := h
  exact ⟨⟨k, op, se, [], fl, [], ep, ge, n, m⟩, a1, a2, a3, b1, b2, b3, e, fun C hC => by cases hC⟩
 | some C =>
  obtain ⟨a1, a2, a3, b1, b2, b3, e, h1, h2⟩ := hs C rfl
  exact ⟨C, a1, a2, a3, b1, b2, b3, e, fun C' hC => by cases hC; exact ⟨rfl, h1, h2⟩⟩
theorem shape_size (ps : List Part) : ((⟨(ps.map Part.u8).toArray⟩ : ByteArray)).size = ps.length := by simp [ByteArray.size]
theorem shape_at (ps : List Part) (i : Nat) (q : Part) (h : ps[i]? = some q) (hi) : (((⟨(ps.map Part.u8).toArray⟩ : ByteArray))[i]'hi).toNat = q.byte.toNat := by
 obtain ⟨h1, h2⟩ := List.getElem?_eq_some_iff.1 h
 have : ((⟨(ps.map Part.u8).toArray⟩ : ByteArray))[i]'hi = q.u8 := by
  show (((ps.map Part.u8).toArray)[i]'_) = _
  simp [h2]
 rw [this]
 rcases q with (_ | _ | _ | _ | _ | _ | _ | _) | (_ | _ | _) <;> rfl
theorem shape_ask (ps : List Part) : ¬ ((⟨(ps.map Part.u8).toArray⟩ : ByteArray)).toList = [63] := by
 rw [ByteArray.toList_eq]
 show ¬ ps.map Part.u8 = [63]
 intro e
 cases ps with
 | nil => cases e
 | cons q r =>
  simp only [List.map_cons, List.cons.injEq] at e
  have := e.1
  rcases q with (_ | _ | _ | _ | _ | _ | _ | _) | (_ | _ | _) <;> exact absurd this (by decide)
end Go.Proofs.YtlkhghcffhckmaaDoor
