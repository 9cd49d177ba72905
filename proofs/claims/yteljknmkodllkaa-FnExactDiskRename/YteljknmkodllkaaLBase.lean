import Derived.Test.YteljknmkodllkaaIBase
import Derived.Test.YteljknmkodllkaaEqD
import Derived.Deep.RegionHeld3
namespace Go.Proofs.Yteljknmkodllkaa
open Go.ChangeShapes Go.WideShapes Go.ChangeAt Go.RowKit
set_option linter.unusedVariables false
set_option linter.unusedSimpArgs false

theorem At6.kept {vs : List Value} {w w' : World} {b : Nat} {v0 v1 v2 v3 v4 v5 : Value} (h : At6 w b v0 v1 v2 v3 v4 v5) (hk : Kept vs w w') (hb : b < w.heap.size) (hv : ∀ v ∈ vs, v.ownBlock ≠ some b) : At6 w' b v0 v1 v2 v3 v4 v5 := by
  have e := hk.cellAt hb hv
  simpa only [At6, e] using h

theorem Own.cap {B : Nat} {w : World} {p : Option Addr} {c : Nat} {l : List Int} (h : Own B w (.slice p l.length c) l) : l.length ≤ c := by
  rcases h.2 with ⟨e, h0⟩ | ⟨g, cap, cur, e, _, _, hc, _⟩
  · omega
  · simp only [Value.slice.injEq] at e
    omega

/-- three slices' blocks lie from lo on and below hi -/
def Within (lo hi : Nat) (v0 v1 v2 : Value) : Prop := ∀ v ∈ [v0, v1, v2], ∀ b, v.ownBlock = some b → lo ≤ b ∧ b < hi
theorem Own3.within {B : Nat} {w : World} {v0 v1 v2 : Value} {l0 l1 l2 : List Int} (h : Own3 B w v0 v1 v2 l0 l1 l2) : Within B w.heap.size v0 v1 v2 := by
  intro v hv b hb
  simp only [List.mem_cons, List.not_mem_nil, or_false] at hv
  rcases hv with rfl | rfl | rfl
  · exact h.o0.lt b hb
  · exact h.o1.lt b hb
  · exact h.o2.lt b hb
theorem Within.notAt {lo hi b : Nat} {v0 v1 v2 : Value} (h : Within lo hi v0 v1 v2) (hb : b < lo ∨ hi ≤ b) : ∀ v ∈ [v0, v1, v2], v.ownBlock ≠ some b := by
  intro v hv e
  have := h v hv b e
  omega
theorem Own3.apart {B lo hi : Nat} {w w' : World} {u0 u1 u2 v0 v1 v2 : Value} {l0 l1 l2 : List Int} (h : Own3 B w v0 v1 v2 l0 l1 l2) (hk : Kept [u0, u1, u2] w w') (hu : Within lo hi u0 u1 u2) {lo' hi' : Nat} (hv : Within lo' hi' v0 v1 v2) (hd : hi ≤ lo' ∨ hi' ≤ lo) : Own3 B w' v0 v1 v2 l0 l1 l2 := by
  refine h.keptBy hk ?_
  intro u hu' b hb e
  have h1 := hu u hu' b e
  have h2 : lo' ≤ b ∧ b < hi' := by
    rcases hb with hb | hb | hb
    · exact hv v0 (by simp) b hb
    · exact hv v1 (by simp) b hb
    · exact hv v2 (by simp) b hb
  omega
end Go.Proofs.Yteljknmkodllkaa
