import Derived.Test.YtlkhghcffhckmaaDoorGA
namespace Go.Proofs.YtlkhghcffhckmaaDoor
open Go.ChangeShapes Go.WideShapes Go.ChangeAt Go.RowKit Go.Deep
set_option linter.unusedVariables false
set_option linter.unusedSimpArgs false

/-- a slice of bytes that came in, opened -/
theorem Rd.of_trod {H : Type} {enc : TypeId × Value → H} {w : World} {n : Nat} {cs : List Value} {x : DataW H × List MemPlace} (h : DataW.trod enc Tryd.prog w 0 (fun _ => true) true n 22 cs = some x) :
  ∃ (p : Option Addr) (l : List Int) (c : Nat), cs = [.slice p l.length c] ∧ Rd w (.slice p l.length c) l ∧ l.length ≤ maxLen ∧ (∀ z ∈ l, (Lit.int .u8 z).wf = true) := by
 rcases open_ints Tryd.underlying22 Tryd.underlying5 (by kernel_rfl) h with ⟨rfl, _⟩ | ⟨a, len, cap, zs, rfl, _, hl, hm, hz, _, hcell, hwz⟩
 ·exact ⟨none, [], 0, rfl, Rd.nil w, by simp, by simp⟩
 ·simp only [if_true] at hz
  have e : (zs.take len).length = len := by simp; omega
  refine ⟨some a, zs.take len, cap, by rw [e], ?_, by omega, fun z h => hwz z (List.mem_of_mem_take h)⟩
  refine ⟨some a, cap, rfl, ?_⟩
  by_cases h0 : len = 0
  ·left; subst h0; simp
  ·right
   obtain ⟨b, o, spot⟩ := a
   have hs : spot = none := by simpa [Addr.add] using World.cell?_spot (hcell 0 (by omega))
   subst hs
   refine ⟨b, o, rfl, fun i hi => ?_⟩
   rw [e] at hi
   have := hcell i (by omega)
   simp only [Addr.add_lit] at this
   rw [this]
   simp [List.getD, List.getElem?_take, hi]

theorem Rd.of_trod_cap {H : Type} {enc : TypeId × Value → H} {w : World} {n : Nat} {cs : List Value} {x : DataW H × List MemPlace} (h : DataW.trod enc Tryd.prog w 0 (fun _ => true) true n 22 cs = some x) :
  ∃ (p : Option Addr) (l : List Int) (c : Nat), cs = [.slice p l.length c] ∧ Rd w (.slice p l.length c) l ∧ l.length ≤ maxLen ∧ l.length ≤ c ∧ (∀ z ∈ l, 0 ≤ z ∧ z < 256) := by
 obtain ⟨p, l, c, e, hr, hm, hw⟩ := Rd.of_trod h
 refine ⟨p, l, c, e, hr, hm, ?_, fun z hz => ?_⟩
 ·rcases open_ints Tryd.underlying22 Tryd.underlying5 (by kernel_rfl) h with ⟨rfl, _⟩ | ⟨a, len, cap, zs, rfl, _, hl, _⟩
  ·simp at e; omega
  ·simp at e; omega
 ·have := hw z hz
  simp [Lit.wf, IntKind.min, IntKind.max, IntKind.signed, IntKind.bits] at this
  omega

end Go.Proofs.YtlkhghcffhckmaaDoor
