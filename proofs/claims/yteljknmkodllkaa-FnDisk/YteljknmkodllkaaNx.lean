import Derived.Test.YteljknmkodllkaaMaD
import Derived.Test.YteljknmkodllkaaCp
import Derived.Test.YteljknmkodllkaaLBase
namespace Go.Proofs.Yteljknmkodllkaa
open Go.ChangeShapes Go.WideShapes Go.ChangeAt Go.RowKit
set_option linter.unusedVariables false
set_option linter.unusedSimpArgs false

/-- a block's number as a slice's: for 'Kept' -/
abbrev blk (g : Nat) : Value := .slice (some ⟨g, 0, none⟩) 0 0
theorem blk_own (g : Nat) : (blk g).ownBlock = some g := rfl

/-- a reader in block g over the bytes cd, t calls of next behind it -/
structure Rdr (w : World) (g : Nat) (p : Option Addr) (cd : List Int) (c t : Nat) : Prop where
  c0 : w.cell? ⟨g, 0, none⟩ = some (.slice p cd.length c)
  c1 : w.cell? ⟨g, 1, none⟩ = some (.int .i64 (min t cd.length : Nat))
  fz : ∀ o, w.frozen? ⟨g, o, none⟩ = false
  rd : Rd w (.slice p cd.length c) cd
  ne : cd ≠ [] → (Value.slice p cd.length c).ownBlock ≠ some g

theorem Rdr.lt {w : World} {g : Nat} {p : Option Addr} {cd : List Int} {c t : Nat} (h : Rdr w g p cd c t) : g < w.heap.size := World.block_lt_of_cell? w _ h.c0

theorem Rdr.below {w w' : World} {g : Nat} {p : Option Addr} {cd : List Int} {c t : Nat} (h : Rdr w g p cd c t) (hb : Below w.heap.size w w') : Rdr w' g p cd c t :=
  ⟨cell_below h.c0 hb, cell_below h.c1 hb, frozen_below h.fz hb h.lt, h.rd.below hb, h.ne⟩

theorem Rdr.kept {vs : List Value} {w w' : World} {g : Nat} {p : Option Addr} {cd : List Int} {c t : Nat} (h : Rdr w g p cd c t) (hk : Kept vs w w') (h1 : ∀ v ∈ vs, v.ownBlock ≠ some g) (h2 : ∀ v ∈ vs, ∀ b, (Value.slice p cd.length c).ownBlock = some b → v.ownBlock ≠ some b) : Rdr w' g p cd c t :=
  ⟨(hk.cellAt h.lt h1 0).trans h.c0, (hk.cellAt h.lt h1 1).trans h.c1, fun o => (World.frozen?_of_block (hk.block g h.lt h1)).trans (h.fz o), h.rd.kept hk h2, h.ne⟩

theorem Kept.setBlk {w : World} {g o : Nat} (u : Value) : Kept [blk g] w (w.setCell ⟨g, o, none⟩ u) :=
  ⟨rfl, rfl, rfl, by simp [World.setCell], fun k hk hne => Below.heap_setCell w _ u k (fun e => hne (blk g) (by simp) (by rw [blk_own, e]))⟩

theorem Kept.drewN {vs : List Value} {w w' : World} (h : Kept vs w w') (n : Nat) : Kept vs w (w'.drewN n) := ⟨h.os, h.tape, h.output, h.size, h.block⟩

theorem getD_range (cd : List Int) (hb : ∀ z ∈ cd, 0 ≤ z ∧ z < 256) (t : Nat) : 0 ≤ cd.getD t 0 ∧ cd.getD t 0 < 256 := by
  by_cases h : t < cd.length
  · rw [List.getD, List.getElem?_eq_getElem h]; exact hb _ (List.getElem_mem h)
  · rw [List.getD, List.getElem?_eq_none (by omega)]; simp

theorem Rdr.drewN {w : World} {g : Nat} {p : Option Addr} {cd : List Int} {c t : Nat} (h : Rdr w g p cd c t) (n : Nat) : Rdr (w.drewN n) g p cd c t :=
  h.below (below_drewN (Below.refl _ _) n)

theorem Rdr.step {w : World} {g : Nat} {p : Option Addr} {cd : List Int} {c t : Nat} (h : Rdr w g p cd c t) (hlt : t < cd.length) : Rdr (w.setCell ⟨g, 1, none⟩ (.int .i64 ((t : Int) + 1))) g p cd c (t + 1) := by
  refine ⟨?_, ?_, ?_, ?_, h.ne⟩
  · rw [World.cell?_setCell_other w ⟨g, 1, none⟩ ⟨g, 0, none⟩ _ (by simp)]; exact h.c0
  · rw [World.cell?_setCell_same w ⟨g, 1, none⟩ _ h.c1]
    have e : ((min (t + 1) cd.length : Nat) : Int) = (t : Int) + 1 := by omega
    rw [e]
  · intro o; simp [h.fz]
  · refine h.rd.kept (Kept.setBlk (g := g) (o := 1) _) ?_
    intro u hu b hb e
    simp only [List.mem_singleton] at hu
    subst hu
    rw [blk_own] at e
    exact h.ne (by intro e0; subst e0; simp at hlt) (by rw [hb, e])

theorem Rdr.stay {w : World} {g : Nat} {p : Option Addr} {cd : List Int} {c t : Nat} (h : Rdr w g p cd c t) (hlt : ¬ t < cd.length) : Rdr w g p cd c (t + 1) := by
  refine ⟨h.c0, ?_, h.fz, h.rd, h.ne⟩
  rw [h.c1]
  have e : min t cd.length = min (t + 1) cd.length := by omega
  rw [e]

set_option maxHeartbeats 800000 in
theorem next_any (g : Nat) (p : Option Addr) (cd : List Int) (c t : Nat) (w : World) (h : Rdr w g p cd c t) (hb : ∀ z ∈ cd, 0 ≤ z ∧ z < 256) (hl : cd.length ≤ 500) :
    Calls Try.prog 42 #[.pointer (some ⟨g, 0, none⟩)] w fun e w' => e = .returned (.int .i64 (cd.getD t 0)) ∧ Rdr w' g p cd c (t + 1) ∧ Kept [blk g] w w' := by
  obtain ⟨c0, c1, fz, rd, ne⟩ := id h
  by_cases hlt : t < cd.length
  · have em : min t cd.length = t := by omega
    rw [em] at c1
    obtain ⟨q, d, e1, hh⟩ := id rd
    simp only [Value.slice.injEq] at e1
    obtain ⟨rfl, -, rfl⟩ := e1
    rcases hh with rfl | ⟨b, o, rfl, hc⟩
    · simp at hlt
    · have mx : w.cell? ⟨b, o + t, none⟩ = some (.int .u8 cd[t]) := by rw [hc t hlt]; simp [hlt]
      have hx := hb _ (List.getElem_mem hlt)
      have f1 := fz 1
      have i1 : (t : Int) < (cd.length : Int) := by omega
      have i0 : (0 : Int) ≤ (t : Int) := by omega
      have hng : ¬ ((cd.length : Int) ≤ t) := by omega
      have hgeq : decide ((cd.length : Int) ≤ t) = false := by simp; omega
      have HG : Hid (cd.getD t 0 = cd[t]) := by show _ = _; simp [hlt]
      have H := hide h
      have HN : b ≠ g := fun e => ne (by intro e0; subst e0; simp at hlt) (by rw [e]; rfl)
      clear hc rd ne fz h
      go_enter Try.func42, Try.ntmps42
      go_wp2
      go_quiet (fail)
      go_wp2
      go_quiet (fail)
      go_wp2
      go_ret
      exact ⟨by rw [HG.out]; rfl, ((unhide H).drewN _).step hlt, (Kept.refl _ _).drewN _ |>.trans (Kept.setBlk _)⟩
  · have em : min t cd.length = cd.length := by omega
    rw [em] at c1
    have hgeq : decide ((cd.length : Int) ≤ (cd.length : Int)) = true := by simp
    have HG : Hid (cd.getD t 0 = 0) := by show _ = _; rw [List.getD, List.getElem?_eq_none (by omega)]; rfl
    have H := hide h
    clear rd ne fz h
    go_enter Try.func42, Try.ntmps42
    go_wp2
    go_quiet (fail)
    go_wp2
    go_ret
    exact ⟨by rw [HG.out]; rfl, ((unhide H).drewN _).stay hlt, (Kept.refl _ _).drewN _⟩
end Go.Proofs.Yteljknmkodllkaa
