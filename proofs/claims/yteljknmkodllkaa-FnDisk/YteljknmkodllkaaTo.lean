import Derived.Test.YteljknmkodllkaaEq
namespace Go.Proofs.Yteljknmkodllkaa
open Go.ChangeShapes Go.WideShapes Go.ChangeAt Go.RowKit
set_option linter.unusedVariables false
set_option linter.unusedSimpArgs false

set_option maxHeartbeats 400000 in
theorem toFile_any (p : Option Addr) (c : Nat) (n : Int) (l : List Int) (w : World) (h : Rd w (.slice p l.length c) l) (hl : l.length ≤ 1048576) :
    Calls Try.prog 36 #[fileV (.slice p l.length c) n] w fun e w' => ∃ p' c', e = .returned (fileV (.slice p' l.length c') n) ∧ Own w.heap.size w' (.slice p' l.length c') l ∧ Below w.heap.size w w' := by
  have hR := fun (w' : World) (hb : Below w.heap.size w w') => h.below hb
  go_enter Try.func36, Try.ntmps36
  go_wp2_with fail
  refine (toByteS_any _ l _ (hR _ (by exact (((Below.refl _ _).alloc (Nat.le_refl _) _).alloc (by simp) _).alloc (by simp; omega) _)) hl).mono ?_
  rintro e w1 ⟨p', c', rfl, ho, hb1⟩
  obtain ⟨hc1, hf1⟩ := bcell hb1
  clear hR
  go_wp2
  have hb2 : Below w.heap.size w w1 := (((((Below.refl _ _).alloc (Nat.le_refl _) _).alloc (by simp) _).alloc (by simp; omega) _)).trans (hb1.mono (by simp; omega))
  have ho2 : Own (w.heap.size + 3) w1 (.slice p' l.length c') l := by simpa using ho
  refine bodyPost_ret (v := fileV (.slice p' l.length c') n) (by simp [results, Try.results36, go_sem, hc1]) rfl ⟨p', c', rfl, Own.mono (B := w.heap.size + 3) ?_ (by omega), ?_⟩
  · repeat (refine ownsRow_setCell_below ?_ (by simp) _)
    exact ho2
  · repeat (refine Below.setCell ?_ (by simp <;> omega) _)
    exact hb2

/-- three slices of the call's own, in three blocks -/
structure Own3 (B : Nat) (w : World) (v0 v1 v2 : Value) (l0 l1 l2 : List Int) : Prop where
  o0 : Own B w v0 l0
  o1 : Own B w v1 l1
  o2 : Own B w v2 l2
  n01 : ∀ b, v0.ownBlock = some b → v1.ownBlock ≠ some b
  n02 : ∀ b, v0.ownBlock = some b → v2.ownBlock ≠ some b
  n12 : ∀ b, v1.ownBlock = some b → v2.ownBlock ≠ some b

theorem Own.lt {B : Nat} {w : World} {v : Value} {l : List Int} (h : Own B w v l) : ∀ b, v.ownBlock = some b → B ≤ b ∧ b < w.heap.size := World.ownsRow.lt h

/-- made one behind the other: three blocks -/
theorem Own3.mk' {B B1 B2 : Nat} {w w1 w2 : World} {v0 v1 v2 : Value} {l0 l1 l2 : List Int} (a0 : Own B w1 v0 l0) (a1 : Own B1 w2 v1 l1) (o0 : Own B w v0 l0) (o1 : Own B1 w v1 l1) (o2 : Own B2 w v2 l2)
    (h1 : w1.heap.size ≤ B1) (h2 : w2.heap.size ≤ B2) (hB : B ≤ B1) (hB2 : B1 ≤ B2) : Own3 B w v0 v1 v2 l0 l1 l2 :=
  ⟨o0, o1.mono hB, o2.mono (by omega), fun b e0 e1 => by have := a0.lt b e0; have := o1.lt b e1; omega, fun b e0 e1 => by have := a0.lt b e0; have := o2.lt b e1; omega, fun b e0 e1 => by have := a1.lt b e0; have := o2.lt b e1; omega⟩

theorem Own.set {B : Nat} {w : World} {v : Value} {l : List Int} (h : Own B w v l) {a : Addr} (ha : a.block < B) (u : Value) : Own B (w.setCell a u) v l := ownsRow_setCell_below h ha u

set_option maxHeartbeats 1000000 in
theorem toDisk_any (p0 p1 p2 : Option Addr) (c0 c1 c2 : Nat) (n0 n1 n2 : Int) (l0 l1 l2 : List Int) (w : World) (h0 : Rd w (.slice p0 l0.length c0) l0) (h1 : Rd w (.slice p1 l1.length c1) l1) (h2 : Rd w (.slice p2 l2.length c2) l2) (hl : l0.length + l1.length + l2.length ≤ 1048576) :
    Calls Try.prog 12 #[diskV (.slice p0 l0.length c0) n0 (.slice p1 l1.length c1) n1 (.slice p2 l2.length c2) n2] w fun e w' =>
      ∃ q0 d0 q1 d1 q2 d2, e = .returned (diskV (.slice q0 l0.length d0) n0 (.slice q1 l1.length d1) n1 (.slice q2 l2.length d2) n2) ∧
        Own3 w.heap.size w' (.slice q0 l0.length d0) (.slice q1 l1.length d1) (.slice q2 l2.length d2) l0 l1 l2 ∧ Below w.heap.size w w' := by
  have hR0 := fun (w' : World) (hb : Below w.heap.size w w') => h0.below hb
  have hR1 := fun (w' : World) (hb : Below w.heap.size w w') => h1.below hb
  have hR2 := fun (w' : World) (hb : Below w.heap.size w w') => h2.below hb
  clear h0 h1 h2
  go_enter Try.func12, Try.ntmps12
  go_wp2_with fail
  refine (toFile_any p0 c0 n0 l0 _ (hR0 _ (by exact (((Below.refl _ _).alloc (Nat.le_refl _) _).alloc (by simp) _).alloc (by simp; omega) _)) (by omega)).mono ?_
  rintro e w1 ⟨q0, d0, rfl, o0, hb1⟩
  obtain ⟨hc1, hf1⟩ := bcell hb1
  have z1 : w.heap.size + 1 + 1 < w1.heap.size := by have := hb1.size; simp at this; omega
  have z1' : w.heap.size < w1.heap.size := by omega
  have z1'' : w.heap.size + 1 < w1.heap.size := by omega
  have b1 : Below w.heap.size w w1 := (((((Below.refl _ _).alloc (Nat.le_refl _) _).alloc (by simp) _).alloc (by simp; omega) _)).trans (hb1.mono (by simp; omega))
  replace o0 : Own (w.heap.size + 3) w1 (.slice q0 l0.length d0) l0 := by simpa using o0
  clear hb1
  go_wp2_with fail
  refine (toFile_any p1 c1 n1 l1 _ (hR1 _ (by exact (b1.setCell (by simp; omega) _).setCell (by simp; omega) _)) (by omega)).mono ?_
  rintro e w2 ⟨q1, d1, rfl, o1, hb2⟩
  obtain ⟨hc2, hf2⟩ := bcell hb2
  have z2 : w1.heap.size ≤ w2.heap.size := by have := hb2.size; simp at this; omega
  have b2 : Below w.heap.size w w2 := ((b1.setCell (by simp; omega) _).setCell (by simp; omega) _).trans (hb2.mono (by simp; omega))
  have o0' : Own (w.heap.size + 3) w2 (.slice q0 l0.length d0) l0 := Own.below ((o0.set (by simp) _).set (by simp) _) hb2
  replace o1 : Own w1.heap.size w2 (.slice q1 l1.length d1) l1 := by simpa using o1
  clear hb2
  go_wp2_with fail
  refine (toFile_any p2 c2 n2 l2 _ (hR2 _ (by exact (b2.setCell (by simp; omega) _).setCell (by simp; omega) _)) (by omega)).mono ?_
  rintro e w3 ⟨q2, d2, rfl, o2, hb3⟩
  obtain ⟨hc3, hf3⟩ := bcell hb3
  have z3 : w2.heap.size ≤ w3.heap.size := by have := hb3.size; simp at this; omega
  have z2' : w.heap.size + 1 + 1 < w2.heap.size := by omega
  have z2'' : w.heap.size + 1 < w2.heap.size := by omega
  have b3 : Below w.heap.size w w3 := ((b2.setCell (by simp; omega) _).setCell (by simp; omega) _).trans (hb3.mono (by simp; omega))
  have o0'' : Own (w.heap.size + 3) w3 (.slice q0 l0.length d0) l0 := Own.below ((o0'.set (by simp) _).set (by simp) _) hb3
  have o1' : Own w1.heap.size w3 (.slice q1 l1.length d1) l1 := Own.below ((o1.set (by simp; omega) _).set (by simp; omega) _) hb3
  replace o2 : Own w2.heap.size w3 (.slice q2 l2.length d2) l2 := by simpa using o2
  clear hb3 hR0 hR1 hR2
  go_wp2
  refine bodyPost_ret (v := diskV (.slice q0 l0.length d0) n0 (.slice q1 l1.length d1) n1 (.slice q2 l2.length d2) n2) (by simp [results, Try.results12, go_sem, hc1, hc2, hc3, z1, z1', z1'', z2', z2'']) rfl ⟨q0, d0, q1, d1, q2, d2, rfl, ?_, ?_⟩
  · refine Own3.mk' (B := w.heap.size) (B1 := w1.heap.size) (B2 := w2.heap.size) (o0.mono (by omega)) o1 (Own.mono (B := w.heap.size + 3) ?_ (by omega)) ?_ ?_ (Nat.le_refl _) (Nat.le_refl _) (by omega) (by omega)
    · repeat (refine ownsRow_setCell_below ?_ (by simp) _)
      exact o0''
    · repeat (refine ownsRow_setCell_below ?_ (by simp; omega) _)
      exact o1'
    · repeat (refine ownsRow_setCell_below ?_ (by simp; omega) _)
      exact o2
  · repeat (refine Below.setCell ?_ (by simp <;> omega) _)
    exact b3
end Go.Proofs.Yteljknmkodllkaa
