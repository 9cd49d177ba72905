import Derived.Test.YteljknmkodllkaaMa
namespace Go.Proofs.Yteljknmkodllkaa
open Go.ChangeShapes Go.WideShapes Go.ChangeAt Go.RowKit
set_option linter.unusedVariables false
set_option linter.unusedSimpArgs false

/-- six cells of a block -/
abbrev At6 (w : World) (b : Nat) (v0 v1 v2 v3 v4 v5 : Value) : Prop :=
  w.cell? ⟨b, 0, none⟩ = some v0 ∧ w.cell? ⟨b, 1, none⟩ = some v1 ∧ w.cell? ⟨b, 2, none⟩ = some v2 ∧ w.cell? ⟨b, 3, none⟩ = some v3 ∧ w.cell? ⟨b, 4, none⟩ = some v4 ∧ w.cell? ⟨b, 5, none⟩ = some v5
theorem cell_below {w w' : World} {b o : Nat} {v : Value} (h : w.cell? ⟨b, o, none⟩ = some v) (hb : Below w.heap.size w w') : w'.cell? ⟨b, o, none⟩ = some v :=
  (hb.cell (p := ⟨b, o, none⟩) (World.block_lt_of_cell? w _ h)).trans h
theorem At6.below {w w' : World} {b : Nat} {v0 v1 v2 v3 v4 v5 : Value} (h : At6 w b v0 v1 v2 v3 v4 v5) (hb : Below w.heap.size w w') : At6 w' b v0 v1 v2 v3 v4 v5 :=
  ⟨cell_below h.1 hb, cell_below h.2.1 hb, cell_below h.2.2.1 hb, cell_below h.2.2.2.1 hb, cell_below h.2.2.2.2.1 hb, cell_below h.2.2.2.2.2 hb⟩

theorem frozen_below {w w' : World} {b : Nat} (h : ∀ o, w.frozen? ⟨b, o, none⟩ = false) (hb : Below w.heap.size w w') (hlt : b < w.heap.size) : ∀ o, w'.frozen? ⟨b, o, none⟩ = false :=
  fun o => (hb.frozen (p := ⟨b, o, none⟩) hlt).trans (h o)

theorem Kept.cellAt {vs : List Value} {w w' : World} (h : Kept vs w w') {b : Nat} (hb : b < w.heap.size) (hv : ∀ v ∈ vs, v.ownBlock ≠ some b) : ∀ o, w'.cell? ⟨b, o, none⟩ = w.cell? ⟨b, o, none⟩ :=
  fun o => World.cell?_of_block (h.block b hb hv)

theorem Kept.more {vs us : List Value} {w w' : World} (h : Kept vs w w') (hs : ∀ v ∈ vs, v ∈ us) : Kept us w w' :=
  ⟨h.os, h.tape, h.output, h.size, fun k hk hne => h.block k hk (fun v hv => hne v (hs v hv))⟩

set_option maxHeartbeats 1000000 in
theorem markDisk_any (B : Nat) (p0 p1 p2 : Option Addr) (c0 c1 c2 : Nat) (s0 s1 s2 : Int) (l0 l1 l2 : List Int) (k : Int) (w : World) (h : Own3 B w (.slice p0 l0.length c0) (.slice p1 l1.length c1) (.slice p2 l2.length c2) l0 l1 l2)
    (m0 : l0.length ≤ 1048576) (m1 : l1.length ≤ 1048576) (m2 : l2.length ≤ 1048576) (k0 : 0 ≤ k) (k1 : k ≤ 90000000) :
    Calls Try.prog 24 #[diskV (.slice p0 l0.length c0) s0 (.slice p1 l1.length c1) s1 (.slice p2 l2.length c2) s2, .int .i64 k] w fun e w' => e = .returned (.int .i64 (k + l0.length + l1.length + l2.length)) ∧
      Own3 B w' (.slice p0 l0.length c0) (.slice p1 l1.length c1) (.slice p2 l2.length c2) (marks k l0.length) (marks (k + l0.length) l1.length) (marks (k + l0.length + l1.length) l2.length) ∧
      Kept [.slice p0 l0.length c0, .slice p1 l1.length c1, .slice p2 l2.length c2] w w' := by
  have b0 : ∀ o : Obj, Below w.heap.size w (w.alloc o) := fun o => (Below.refl _ _).alloc (Nat.le_refl _) _
  have hR := fun (w' : World) (hb : Below w.heap.size w w') => Own3.below h hb
  have t0 := h.o0.lt
  have t1 := h.o1.lt
  have t2 := h.o2.lt
  have N := h
  clear h
  go_enter Try.func24, Try.ntmps24
  go_wp2_with fail
  have h1 := hR _ (b0 (.cells #[.slice p0 l0.length c0, .int .i64 s0, .slice p1 l1.length c1, .int .i64 s1, .slice p2 l2.length c2, .int .i64 s2] 31))
  refine (markFile_any B p0 c0 l0 s0 k _ h1.o0 m0 k0 (by omega)).mono ?_
  rintro e w1 ⟨rfl, o0, g1⟩
  have hc1 := g1.cellAt (b := w.heap.size) (by simp) (by intro v hv e; simp only [List.mem_singleton] at hv; subst hv; have := t0 _ e; omega)
  have o1 := Own.keptBy h1.o1 g1 (by intro u hu b e; simp only [List.mem_singleton] at hu; subst hu; intro e'; exact N.n01 b e' e)
  have o2 := Own.keptBy h1.o2 g1 (by intro u hu b e; simp only [List.mem_singleton] at hu; subst hu; intro e'; exact N.n02 b e' e)
  have z1 : w.heap.size < w1.heap.size := by have := g1.size; simp at this; omega
  go_wp2_with fail
  refine (markFile_any B p1 c1 l1 s1 _ _ o1 m1 (by omega) (by omega)).mono ?_
  rintro e w2 ⟨rfl, o1', g2⟩
  have hc2 := g2.cellAt (b := w.heap.size) z1 (by intro v hv e; simp only [List.mem_singleton] at hv; subst hv; have := t1 _ e; omega)
  have o0' := Own.keptBy (l := marks k l0.length) o0 g2 (by intro u hu b e; simp only [List.mem_singleton] at hu; subst hu; intro e'; exact N.n01 b e e')
  have o2' := Own.keptBy o2 g2 (by intro u hu b e; simp only [List.mem_singleton] at hu; subst hu; intro e'; exact N.n12 b e' e)
  have z2 : w.heap.size < w2.heap.size := by have := g2.size; omega
  go_wp2_with fail
  refine (markFile_any B p2 c2 l2 s2 _ _ o2' m2 (by omega) (by omega)).mono ?_
  rintro e w3 ⟨rfl, o2'', g3⟩
  have o0'' := Own.keptBy (l := marks k l0.length) o0' g3 (by intro u hu b e; simp only [List.mem_singleton] at hu; subst hu; intro e'; exact N.n02 b e e')
  have o1'' := Own.keptBy (l := marks (k + l0.length) l1.length) o1' g3 (by intro u hu b e; simp only [List.mem_singleton] at hu; subst hu; intro e'; exact N.n12 b e e')
  have hk : Kept [.slice p0 l0.length c0, .slice p1 l1.length c1, .slice p2 l2.length c2] w w3 :=
    ((Kept.of_below (b0 _)).trans (g1.more (by simp))).trans ((g2.more (by simp)).trans (g3.more (by simp)))
  clear hR h1 o0 o1 o2 o0' o1' o2' g1 g2 g3 hc1 hc2
  go_wp2
  go_ret
  exact ⟨rfl, ⟨o0'', o1'', o2'', N.n01, N.n02, N.n12⟩, hk⟩

set_option maxHeartbeats 1000000 in
theorem heldDisk_any (p0 p1 p2 : Option Addr) (c0 c1 c2 n0 n1 n2 : Nat) (s0 s1 s2 : Int) (k : Int) (w : World) (h0 : Rd w (.slice p0 n0 c0) (marks k n0)) (h1 : Rd w (.slice p1 n1 c1) (marks (k + n0) n1)) (h2 : Rd w (.slice p2 n2 c2) (marks (k + n0 + n1) n2))
    (m0 : n0 ≤ 1048576) (m1 : n1 ≤ 1048576) (m2 : n2 ≤ 1048576) (k0 : 0 ≤ k) (k1 : k ≤ 90000000) :
    Calls Try.prog 25 #[diskV (.slice p0 n0 c0) s0 (.slice p1 n1 c1) s1 (.slice p2 n2 c2) s2, .int .i64 k] w fun e w' => e = .returned (.int .i64 (k + n0 + n1 + n2)) ∧ Below w.heap.size w w' := by
  have hR0 := fun (w' : World) (hb : Below w.heap.size w w') => h0.below hb
  have hR1 := fun (w' : World) (hb : Below w.heap.size w w') => h1.below hb
  have hR2 := fun (w' : World) (hb : Below w.heap.size w w') => h2.below hb
  clear h0 h1 h2
  go_enter Try.func25, Try.ntmps25
  go_wp2_with fail
  refine (heldFile_any p0 c0 n0 s0 k _ (hR0 _ (by exact (Below.refl _ _).alloc (Nat.le_refl _) _)) m0 k0 (by omega)).mono ?_
  rintro e w1 ⟨rfl, hb1⟩
  have b1 : Below w.heap.size w w1 := ((Below.refl _ _).alloc (Nat.le_refl _) _).trans (hb1.mono (by simp))
  obtain ⟨hc1, hf1⟩ := bcell hb1
  go_wp2_with fail
  refine (heldFile_any p1 c1 n1 s1 _ _ (hR1 _ b1) m1 (by omega) (by omega)).mono ?_
  rintro e w2 ⟨rfl, hb2⟩
  replace hb2 := Below.step hb1 hb2
  have b2 : Below w.heap.size w w2 := ((Below.refl _ _).alloc (Nat.le_refl _) _).trans (hb2.mono (by simp))
  clear hc1 hf1 hb1
  obtain ⟨hc2, hf2⟩ := bcell hb2
  go_wp2_with fail
  refine (heldFile_any p2 c2 n2 s2 _ _ (hR2 _ b2) m2 (by omega) (by omega)).mono ?_
  rintro e w3 ⟨rfl, hb3⟩
  replace hb3 := Below.step hb2 hb3
  have b3 : Below w.heap.size w w3 := ((Below.refl _ _).alloc (Nat.le_refl _) _).trans (hb3.mono (by simp))
  clear hc2 hf2 hb2 hR0 hR1 hR2
  go_wp2
  go_ret
  exact ⟨rfl, b3⟩
end Go.Proofs.Yteljknmkodllkaa
