import Derived.Test.YteljknmkodllkaaTo
namespace Go.Proofs.Yteljknmkodllkaa
open Go.ChangeShapes Go.WideShapes Go.ChangeAt Go.RowKit
set_option linter.unusedVariables false
set_option linter.unusedSimpArgs false

theorem eqByteS_same (v1 v2 : Value) (l : List Int) (w : World) (h1 : Rd w v1 l) (h2 : Rd w v2 l) (hl : l.length ≤ 2097152) :
    Calls Try.prog 31 #[v1, v2] w fun e w' => e = .returned (.bool true) ∧ Below w.heap.size w w' := by
  refine (eqByteS_any v1 v2 l l w h1 h2 hl hl).mono ?_
  rintro e w' ⟨rfl, hb⟩
  exact ⟨by simp, hb⟩

set_option maxHeartbeats 400000 in
theorem eqFile_same (p q : Option Addr) (c d : Nat) (n : Int) (l : List Int) (w : World) (h : Rd w (.slice p l.length c) l) (k : Rd w (.slice q l.length d) l) (hl : l.length ≤ 2097152) :
    Calls Try.prog 39 #[fileV (.slice p l.length c) n, fileV (.slice q l.length d) n] w fun e w' => e = .returned (.bool true) ∧ Below w.heap.size w w' := by
  have hR := fun (w' : World) (hb : Below w.heap.size w w') => h.below hb
  have kR := fun (w' : World) (hb : Below w.heap.size w w') => k.below hb
  have hn : (n != n) = false := by simp
  go_enter Try.func39, Try.ntmps39
  go_wp2_with fail
  refine (eqByteS_same _ _ l _ (hR _ (by exact ((Below.refl _ _).alloc (Nat.le_refl _) _).alloc (by simp) _)) (kR _ (by exact ((Below.refl _ _).alloc (Nat.le_refl _) _).alloc (by simp) _)) hl).mono ?_
  rintro e w1 ⟨rfl, hb1⟩
  obtain ⟨hc1, hf1⟩ := bcell hb1
  have b1 : Below w.heap.size w w1 := ((((Below.refl _ _).alloc (Nat.le_refl _) _).alloc (by simp) _)).trans (hb1.mono (by simp; omega))
  clear hb1 hR kR
  go_wp2
  go_ret
  exact ⟨rfl, b1⟩

set_option maxHeartbeats 1000000 in
theorem eqDisk_same (p0 p1 p2 q0 q1 q2 : Option Addr) (c0 c1 c2 d0 d1 d2 : Nat) (n0 n1 n2 : Int) (l0 l1 l2 : List Int) (w : World) (h0 : Rd w (.slice p0 l0.length c0) l0) (h1 : Rd w (.slice p1 l1.length c1) l1) (h2 : Rd w (.slice p2 l2.length c2) l2)
    (k0 : Rd w (.slice q0 l0.length d0) l0) (k1 : Rd w (.slice q1 l1.length d1) l1) (k2 : Rd w (.slice q2 l2.length d2) l2) (m0 : l0.length ≤ 2097152) (m1 : l1.length ≤ 2097152) (m2 : l2.length ≤ 2097152) :
    Calls Try.prog 14 #[diskV (.slice p0 l0.length c0) n0 (.slice p1 l1.length c1) n1 (.slice p2 l2.length c2) n2, diskV (.slice q0 l0.length d0) n0 (.slice q1 l1.length d1) n1 (.slice q2 l2.length d2) n2] w fun e w' => e = .returned (.bool true) ∧ Below w.heap.size w w' := by
  have hR0 := fun (w' : World) (hb : Below w.heap.size w w') => h0.below hb
  have hR1 := fun (w' : World) (hb : Below w.heap.size w w') => h1.below hb
  have hR2 := fun (w' : World) (hb : Below w.heap.size w w') => h2.below hb
  have kR0 := fun (w' : World) (hb : Below w.heap.size w w') => k0.below hb
  have kR1 := fun (w' : World) (hb : Below w.heap.size w w') => k1.below hb
  have kR2 := fun (w' : World) (hb : Below w.heap.size w w') => k2.below hb
  clear h0 h1 h2 k0 k1 k2
  go_enter Try.func14, Try.ntmps14
  go_wp2_with fail
  refine (eqFile_same p0 q0 c0 d0 n0 l0 _ (hR0 _ (by exact ((Below.refl _ _).alloc (Nat.le_refl _) _).alloc (by simp) _)) (kR0 _ (by exact ((Below.refl _ _).alloc (Nat.le_refl _) _).alloc (by simp) _)) m0).mono ?_
  rintro e w1 ⟨rfl, hb1⟩
  obtain ⟨hc1, hf1⟩ := bcell hb1
  have b1 : Below w.heap.size w w1 := ((((Below.refl _ _).alloc (Nat.le_refl _) _).alloc (by simp) _)).trans (hb1.mono (by simp; omega))
  go_wp2_with fail
  refine (eqFile_same p1 q1 c1 d1 n1 l1 _ (hR1 _ b1) (kR1 _ b1) m1).mono ?_
  rintro e w2 ⟨rfl, hb2⟩
  replace hb2 := Below.step hb1 hb2
  clear hc1 hf1 hb1
  obtain ⟨hc2, hf2⟩ := bcell hb2
  have b2 : Below w.heap.size w w2 := ((((Below.refl _ _).alloc (Nat.le_refl _) _).alloc (by simp) _)).trans (hb2.mono (by simp; omega))
  go_wp2_with fail
  refine (eqFile_same p2 q2 c2 d2 n2 l2 _ (hR2 _ b2) (kR2 _ b2) m2).mono ?_
  rintro e w3 ⟨rfl, hb3⟩
  replace hb3 := Below.step hb2 hb3
  have b3 : Below w.heap.size w w3 := ((((Below.refl _ _).alloc (Nat.le_refl _) _).alloc (by simp) _)).trans (hb3.mono (by simp; omega))
  clear hc2 hf2 hb2 hR0 hR1 hR2 kR0 kR1 kR2
  go_wp2
  go_ret
  exact ⟨rfl, b3⟩
end Go.Proofs.Yteljknmkodllkaa
