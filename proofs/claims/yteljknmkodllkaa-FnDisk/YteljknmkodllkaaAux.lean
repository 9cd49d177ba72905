import Derived.Test.YteljknmkodllkaaIBase
namespace Go.Proofs.Yteljknmkodllkaa
theorem dok_out {n0 n1 n2 : Nat} {s0 s1 s2 : Int} (h : dok n0 s0 n1 s1 n2 s2 = true) : (n0 ≤ 200000 ∧ 0 ≤ s0 ∧ s0 ≤ n0) ∧ (n1 ≤ 200000 ∧ 0 ≤ s1 ∧ s1 ≤ n1) ∧ (n2 ≤ 200000 ∧ 0 ≤ s2 ∧ s2 ≤ n2) := by
  simp only [dok, Bool.and_eq_true] at h
  exact ⟨fok_out h.1.1, fok_out h.1.2, fok_out h.2⟩
theorem isF_out {f : Int} (h : isF f = true) : 0 ≤ f ∧ f < 3 := by
  simp only [isF, Bool.and_eq_true, decide_eq_true_eq] at h
  exact h
end Go.Proofs.Yteljknmkodllkaa
