import Derived.Test.YtekooebndehokaaDoorDOd
namespace Go.Proofs.YtekooebndehokaaDoor
open Go.ChangeShapes Go.WideShapes Go.ChangeAt Go.RowKit
set_option linter.unusedVariables false
set_option linter.unusedSimpArgs false
set_option maxRecDepth 100000

/-- a block, as such a slice -/
abbrev blk (g : Nat) : Value := .slice (some ⟨g, 0, none⟩) 0 0
/-- a slice of bytes that lies below the block R -/
def RdB (R : Nat) (w : World) (p : Option Addr) (m : List Int) : Prop := m = [] ∨ ∃ b o, b < R ∧ p = some ⟨b, o, none⟩ ∧ ∀ i, i < m.length → w.cell? ⟨b, o + i, none⟩ = some (.int .u8 (m.getD i 0))
theorem RdB.rd {R : Nat} {w : World} {p : Option Addr} {m : List Int} {n c : Nat} (h : RdB R w p m) (e : m.length = n) : Rd w (.slice p n c) m := by
  refine ⟨p, c, by rw [e], ?_⟩
  rcases h with h | ⟨b, o, _, h2, h3⟩
  · exact .inl h
  · exact .inr ⟨b, o, h2, h3⟩
theorem RdB.set {R : Nat} {w : World} {p : Option Addr} {m : List Int} (h : RdB R w p m) (o : Nat) (v : Value) : RdB R (w.setCell ⟨R, o, none⟩ v) p m := by
  rcases h with h | ⟨b, o', h1, h2, h3⟩
  · exact .inl h
  · refine .inr ⟨b, o', h1, h2, fun i hi => ?_⟩
    rw [World.cell?_setCell_other _ _ _ _ (by simp; try omega)]
    exact h3 i hi
theorem RdB.tail {R : Nat} {w : World} {b o : Nat} {x : Int} {m : List Int} (h : RdB R w (some ⟨b, o, none⟩) (x :: m)) : RdB R w (some ⟨b, o + 1, none⟩) m := by
  rcases h with h | ⟨b', o', h1, h2, h3⟩
  · cases h
  · simp at h2
    obtain ⟨rfl, rfl⟩ := h2
    refine .inr ⟨b, o + 1, h1, rfl, fun i hi => ?_⟩
    have := h3 (i + 1) (by simp; omega)
    rw [show o + 1 + i = o + (i + 1) by omega, this]
    simp
/-- a reader in memory, at block R: what is left to be read, and whether it has run out -/
def Rdr (w : World) (R : Nat) (m : List Int) (n : Nat) (sh : Bool) : Prop :=
  m.length = n ∧ (∀ o, w.frozen? ⟨R, o, none⟩ = false) ∧ ∃ p c, At2 w R (.slice p n c) (.bool sh) ∧ RdB R w p m ∧ n ≤ c ∧ ((p = none ∧ c = 0) ∨ ∃ b o, p = some ⟨b, o, none⟩)
theorem kept_set {w : World} {R o : Nat} {v : Value} : Kept [blk R] w (w.setCell ⟨R, o, none⟩ v) := by
  refine ⟨rfl, rfl, rfl, by simp, fun k hk hne => ?_⟩
  have : k ≠ R := fun e => hne (blk R) (by simp) (by rw [e]; rfl)
  simp [World.setCell, Array.getElem?_modify]
  intro e
  exact absurd e.symm this

set_option maxHeartbeats 800000 in
theorem small_some (R : Nat) (x : Int) (m : List Int) (n : Nat) (sh : Bool) (w : World) (h : Rdr w R (x :: m) (n + 1) sh) (hx : 0 ≤ x ∧ x < 256) (hl : n ≤ 1048576) :
    Calls Tryd.prog 42 #[.pointer (some ⟨R, 0, none⟩)] w fun e w' => e = .returned (.int .i64 x) ∧ Rdr w' R m n sh ∧ Kept [blk R] w w' := by
  obtain ⟨hlen, hf, p, c, ⟨h0, h1⟩, hr, hc, hp⟩ := h
  have hlm : m.length = n := by simpa using hlen
  obtain ⟨b, o, rfl⟩ : ∃ b o, p = some ⟨b, o, none⟩ := by
    rcases hp with h | h
    · omega
    · exact h
  have hbR : b < R := by
    rcases hr with h | ⟨b', o', h1, h2, _⟩
    · cases h
    · simp at h2; omega
  have hc0 : w.cell? ⟨b, o, none⟩ = some (.int .u8 x) := by
    rcases hr with h | ⟨b', o', h1, h2, h3⟩
    · cases h
    · simp at h2
      obtain ⟨rfl, rfl⟩ := h2
      simpa using h3 0 (by simp)
  have g1 : ((n : Int) + 1 == 0) = false := by simp; omega
  have wx : IntKind.i64.wrap x = x := IntWalk.i64_in _ (by omega)
  have k1 : (1 : Int) ≤ (n : Int) + 1 := by omega
  have k2 : (n : Int) + 1 ≤ (c : Int) := by omega
  have k3 : (1 : Int) ≤ (c : Int) := by omega
  have HR := hide hr
  clear hr hp hlen
  by_cases hc1 : c = 1
  · subst hc1
    have hn0 : n = 0 := by omega
    subst hn0
    have hm0 : m = [] := List.length_eq_zero_iff.1 hlm
    subst hm0
    go_enter Tryd.func42, Tryd.ntmps42
    go_wp2
    go_ret
    refine ⟨rfl, ⟨rfl, fun o => by simp [hf], some ⟨b, o, none⟩, 0, ⟨by simp [go_sem, h0], by simp [go_sem, h1]⟩, .inl rfl, by omega, .inr ⟨b, o, rfl⟩⟩, kept_set⟩
  · have hc1' : ¬ (c : Int) = 1 := by omega
    go_enter Tryd.func42, Tryd.ntmps42
    go_wp2
    go_ret
    exact ⟨rfl, ⟨hlm, fun o => by simp [hf], some ⟨b, o + 1, none⟩, c - 1, ⟨by simp [go_sem, h0], by simp [go_sem, h1]⟩, (unhide HR).tail.set _ _, by omega, .inr ⟨b, o + 1, rfl⟩⟩, kept_set⟩

set_option maxHeartbeats 800000 in
theorem small_none (R : Nat) (sh : Bool) (w : World) (h : Rdr w R [] 0 sh) :
    Calls Tryd.prog 42 #[.pointer (some ⟨R, 0, none⟩)] w fun e w' => e = .returned (.int .i64 0) ∧ Rdr w' R [] 0 true ∧ Kept [blk R] w w' := by
  obtain ⟨hlen, hf, p, c, ⟨h0, h1⟩, hr, hc, hp⟩ := h
  go_enter Tryd.func42, Tryd.ntmps42
  go_wp2
  go_ret
  exact ⟨rfl, ⟨rfl, fun o => by simp [hf], p, c, ⟨by simp [go_sem, h0], by simp [go_sem, h1]⟩, .inl rfl, hc, hp⟩, kept_set⟩
end Go.Proofs.YtekooebndehokaaDoor
