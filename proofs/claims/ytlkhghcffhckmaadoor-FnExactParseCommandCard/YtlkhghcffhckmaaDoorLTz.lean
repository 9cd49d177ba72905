import Derived.Test.YtlkhghcffhckmaaDoorGA
namespace Go.Proofs.YtlkhghcffhckmaaDoor
open Go.ChangeShapes Go.WideShapes Go.ChangeAt Go.RowKit
set_option linter.unusedVariables false
set_option linter.unusedSimpArgs false
set_option maxRecDepth 100000

theorem cell_at_heap {w w' : World} {b : Nat} (h : w'.heap[b]? = w.heap[b]?) (o : Nat) : w'.cell? ⟨b, o, none⟩ = w.cell? ⟨b, o, none⟩ := by
 unfold World.cell?
 rw [h]
/-- a block's cells, none of them frozen -/
def CellsAre (w : World) (b : Nat) (vs : List Value) : Prop := (∀ i v, vs[i]? = some v → w.cell? ⟨b, i, none⟩ = some v) ∧ ∀ o, w.frozen? ⟨b, o, none⟩ = false
theorem CellsAre.alloc (w : World) (cs : Array Value) (t : TypeId) : CellsAre (w.alloc (.cells cs t)) w.heap.size cs.toList := by
 refine ⟨fun i v h => ?_, fun o => ?_⟩
 ·rw [Array.getElem?_toList] at h
  simp [h]
 ·simp [go_sem]
theorem CellsAre.below {w w' : World} {b : Nat} {vs : List Value} (h : CellsAre w b vs) (hb : b < w.heap.size) (hbl : Below w.heap.size w w') : CellsAre w' b vs :=
 ⟨fun i v hi => (hbl.cell (p := ⟨b, i, none⟩) hb).trans (h.1 i v hi), fun o => (hbl.frozen (p := ⟨b, o, none⟩) hb).trans (h.2 o)⟩
theorem CellsAre.far {w : World} {b : Nat} {vs : List Value} (h : CellsAre w b vs) {a : Addr} (ha : b ≠ a.block) (u : Value) : CellsAre (w.setCell a u) b vs := by
 have hh : (w.setCell a u).heap[b]? = w.heap[b]? := RowKit.Below.heap_setCell _ _ _ _ ha
 refine ⟨fun i v hi => (cell_at_heap hh _).trans (h.1 i v hi), fun o => ?_⟩
 have : (w.setCell a u).frozen? ⟨b, o, none⟩ = w.frozen? ⟨b, o, none⟩ := World.frozen?_of_block hh
 rw [this]
 exact h.2 o
theorem CellsAre.near {w : World} {b : Nat} {vs : List Value} (h : CellsAre w b vs) (j : Nat) (hj : j < vs.length) (u : Value) : CellsAre (w.setCell ⟨b, j, none⟩ u) b (vs.set j u) := by
 have hc := h.1 j _ (List.getElem?_eq_getElem hj)
 refine ⟨fun i v hi => ?_, fun o => by simp [h.2 o]⟩
 by_cases e : j = i
 ·subst e
  rw [List.getElem?_set_self hj] at hi
  cases hi
  exact World.cell?_setCell_same _ _ _ hc
 ·rw [List.getElem?_set_ne e] at hi
  have := h.1 i v hi
  simp [go_sem, e, this]
end Go.Proofs.YtlkhghcffhckmaaDoor
