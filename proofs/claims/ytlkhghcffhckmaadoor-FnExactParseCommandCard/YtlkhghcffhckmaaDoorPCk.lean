import Derived.Test.YtlkhghcffhckmaaDoorPCj
namespace Go.Proofs.YtlkhghcffhckmaaDoor
open Go.ChangeShapes Go.WideShapes Go.ChangeAt Go.RowKit
set_option linter.unusedVariables false
set_option linter.unusedSimpArgs false
set_option maxRecDepth 100000

/-- a row of words that is read -/
def RdW (w : World) (p : Option Addr) (ws : List (List Int)) : Prop := ∀ i x, ws[i]? = some x → ∃ b o q d, p = some ⟨b, o, none⟩ ∧ w.cell? ⟨b, o + i, none⟩ = some (.slice q x.length d) ∧ Rd w (.slice q x.length d) x
theorem RdW.below {w w' : World} {p : Option Addr} {ws : List (List Int)} (h : RdW w p ws) (hb : Below w.heap.size w w') : RdW w' p ws := fun i x hx => by
 obtain ⟨b, o, q, d, e, h1, h2⟩ := h i x hx
 exact ⟨b, o, q, d, e, cell_below h1 hb, h2.below hb⟩
theorem OwnW.rdw {B M : Nat} {w : World} {p : Option Addr} {n c : Nat} {ws : List (List Int)} (h : OwnW B M w (.slice p n c) ws) : RdW w p ws := fun i x hx => by
 obtain ⟨vs, h1, h2, h3⟩ := h
 have hi : i < ws.length := (List.getElem?_eq_some_iff.1 hx).1
 have hvi : i < vs.length := by omega
 obtain ⟨g, cap, e⟩ := Go.Joins.ownsRow_form h2 (by omega)
 simp only [Value.slice.injEq] at e
 obtain ⟨rfl, rfl, rfl⟩ := e
 have hc := h2.cellAt i (by omega)
 have hu := List.getElem?_eq_getElem hvi
 rw [hu] at hc
 have ho := (h3 i x _ hx hu).1
 have hr := ho.rd
 obtain ⟨q, d, e, -⟩ := id hr
 rw [e] at hc hr
 exact ⟨g, 0, q, d, rfl, by rw [Nat.zero_add]; exact hc, hr⟩
theorem wfold_byt (l : List Int) (hl : Byt l) : (∀ x ∈ (wfold l).1, Byt x ∧ x.length ≤ l.length) ∧ Byt (wfold l).2 ∧ (wfold l).2.length ≤ l.length := by
 have key : ∀ (l : List Int) (s : List (List Int) × List Int) (K : Nat), Byt l → (∀ x ∈ s.1, Byt x ∧ x.length ≤ K) → Byt s.2 → s.2.length ≤ K → (∀ x ∈ (l.foldl wstep s).1, Byt x ∧ x.length ≤ K + l.length) ∧ Byt (l.foldl wstep s).2 ∧ (l.foldl wstep s).2.length ≤ K + l.length := by
  intro l
  induction l with
  | nil => intro s K _ h1 h2 h3; exact ⟨h1, h2, h3⟩
  | cons c r ih =>
   intro s K hb h1 h2 h3
   have hbr : Byt r := fun z hz => hb z (List.mem_cons_of_mem _ hz)
   have hc := hb c List.mem_cons_self
   have := ih (wstep s c) (K + 1) hbr (by
    intro x hx
    unfold wstep at hx
    split at hx
    ·split at hx
     ·exact ⟨(h1 x hx).1, by have := (h1 x hx).2; omega⟩
     ·rcases List.mem_append.1 hx with hx | hx
      ·exact ⟨(h1 x hx).1, by have := (h1 x hx).2; omega⟩
      ·simp at hx; subst hx; exact ⟨h2, by omega⟩
    ·exact ⟨(h1 x hx).1, by have := (h1 x hx).2; omega⟩) (by
    unfold wstep
    split
    ·intro z hz; simp at hz
    ·intro z hz
     rcases List.mem_append.1 hz with hz | hz
     ·exact h2 z hz
     ·simp at hz; subst hz; exact hc) (by
    unfold wstep
    split
    ·simp
    ·simp; omega)
   rw [List.foldl_cons, List.length_cons, show K + (r.length + 1) = K + 1 + r.length by omega]
   exact this
 have := key l ([], []) 0 hl (by simp) (by intro z hz; simp at hz) (by simp)
 simpa [wfold] using this
theorem wds_byt (l : List Int) (hl : Byt l) : ∀ x ∈ wds l, Byt x ∧ x.length ≤ l.length := by
 obtain ⟨h1, h2, h3⟩ := wfold_byt l hl
 intro x hx
 unfold wds at hx
 split at hx
 ·exact h1 x hx
 ·rcases List.mem_append.1 hx with hx | hx
  ·exact h1 x hx
  ·simp at hx; subst hx; exact ⟨h2, h3⟩
end Go.Proofs.YtlkhghcffhckmaaDoor
