import Derived.Test.YtekooebndehokaaDoorDOk
import Derived.Test.YtekooebndehokaaDoorDOp
import Derived.Test.YtekooebndehokaaDoorOPr
namespace Go.Proofs.YtekooebndehokaaDoor
open Go.ChangeShapes Go.WideShapes Go.ChangeAt Go.RowKit
set_option linter.unusedVariables false
set_option linter.unusedSimpArgs false
set_option maxRecDepth 100000

theorem sN_of_rvF (f : Nat) : ∀ (k : Nat) (a : Int) (m : List Int) (v : Int) (t : List Int) (sh : Bool), rvF f k a m = some (v, t) → sN f k a m sh = (v, t, sh) := by
  induction f with
  | zero => intro k a m v t sh h; simp [rvF] at h
  | succ f ih =>
    intro k a m v t sh h
    cases m with
    | nil => simp [rvF] at h
    | cons c m =>
      rw [rvF] at h
      rw [sN]
      show (if c < 128 then (accN k a c, m, sh) else sN f (k + 1) (accN k a c) m sh) = _
      split at h
      · next hc => rw [if_pos hc]; simp at h; rw [h.1, h.2]
      · next hc => rw [if_neg hc]; exact ih _ _ _ _ _ _ h
theorem sN_vi (s : Nat) (rest : List Int) (sh : Bool) (hs : s < 18446744073709551616) : sN 10 0 0 (vi s ++ rest) sh = ((s : Int), rest, sh) := sN_of_rvF 10 0 0 _ _ _ sh (rv_vi s rest hs)
theorem sT_tx (P rest : List Int) (sh : Bool) (h : P.length < 18446744073709551616) : sT (tx P ++ rest) sh = (P, rest, sh) := by
  rw [sT, tx, List.append_assoc, sN_vi _ _ _ h]
  simp only [List.length_append]
  rw [if_neg (by omega)]
  simp
theorem sB_mono {m : List Int} {sh : Bool} (h : sh = true) : (sB m sh).2.2 = true := by
  cases m with
  | nil => rfl
  | cons c t => exact h
theorem sN_mono (f : Nat) : ∀ (k : Nat) (a : Int) (m : List Int) (sh : Bool), sh = true → (sN f k a m sh).2.2 = true := by
  induction f with
  | zero => intro k a m sh h; exact h
  | succ f ih =>
    intro k a m sh h
    rw [sN]
    split
    · exact sB_mono h
    · exact ih _ _ _ _ (sB_mono h)
theorem sT_mono {m : List Int} {sh : Bool} (h : sh = true) : (sT m sh).2.2 = true := by
  rw [sT]
  split
  · rfl
  · exact sN_mono _ _ _ _ _ h
theorem sT_byt {m : List Int} {sh : Bool} (h : Byt m) : Byt (sT m sh).1 ∧ Byt (sT m sh).2.1 ∧ (sT m sh).1.length ≤ m.length ∧ (sT m sh).2.1.length ≤ m.length := by
  obtain ⟨h1, h2, h3, h4⟩ := sN_byt 10 0 0 m sh h (by omega)
  rw [sT]
  split
  · exact ⟨fun z hz => by simp at hz, h1, by simp, h2⟩
  · refine ⟨fun z hz => h1 z (List.mem_of_mem_take hz), fun z hz => h1 z (List.mem_of_mem_drop hz), ?_, ?_⟩
    · rw [List.length_take]; omega
    · rw [List.length_drop]; omega
theorem At7.keptR {R : Nat} {w w' : World} {b : Nat} {v0 v1 v2 v3 v4 v5 v6 : Value} (h : At7 w b v0 v1 v2 v3 v4 v5 v6) (hk : Kept [blk R] w w') (hb : b < w.heap.size) (hne : b ≠ R) : At7 w' b v0 v1 v2 v3 v4 v5 v6 := by
  have e := hk.cellAt hb (fun x hx e => by simp only [List.mem_singleton] at hx; subst hx; simp [Value.ownBlock] at e; exact hne e.symm)
  exact ⟨(e 0).trans h.1, (e 1).trans h.2.1, (e 2).trans h.2.2.1, (e 3).trans h.2.2.2.1, (e 4).trans h.2.2.2.2.1, (e 5).trans h.2.2.2.2.2.1, (e 6).trans h.2.2.2.2.2.2⟩
theorem frozen_keptR {R : Nat} {w w' : World} {b : Nat} (h : ∀ o, w.frozen? ⟨b, o, none⟩ = false) (hk : Kept [blk R] w w') (hb : b < w.heap.size) (hne : b ≠ R) : ∀ o, w'.frozen? ⟨b, o, none⟩ = false := fun o =>
  (World.frozen?_of_block (hk.block b hb (fun x hx e => by simp only [List.mem_singleton] at hx; subst hx; simp [Value.ownBlock] at e; exact hne e.symm))).trans (h o)
theorem Own.keptR {B R : Nat} {w w' : World} {v : Value} {l : List Int} (h : Own B w v l) (hk : Kept [blk R] w w') (hR : R < B) : Own B w' v l := by
  refine Own.keptBy (vs := [blk R]) h hk ?_
  intro x hx k e1 e2
  simp only [List.mem_singleton] at hx
  subst hx
  simp [Value.ownBlock] at e2
  have := h.lt k e1
  omega
theorem below_keptR {R : Nat} {w0 w w' : World} (h : Below w0.heap.size w0 w) (hk : Kept [blk R] w w') (hR : w0.heap.size ≤ R) : Below w0.heap.size w0 w' :=
  h.trans (hk.below h.size (fun v hv b e => by simp only [List.mem_singleton] at hv; subst hv; simp [Value.ownBlock] at e; omega))

end Go.Proofs.YtekooebndehokaaDoor
