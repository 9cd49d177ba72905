import Derived.Test.YteljknmkodllkaaEqD
namespace Go.Proofs.Yteljknmkodllkaa
open Go.ChangeShapes Go.WideShapes Go.ChangeAt Go.RowKit
set_option linter.unusedVariables false
set_option linter.unusedSimpArgs false

/-- a file of n bytes, s of them safe, is in order -/
def fok (n : Nat) (s : Int) : Bool := decide (n ≤ 200000) && decide (0 ≤ s) && decide (s ≤ n)
theorem fok_yes {n : Nat} {s : Int} (a : n ≤ 200000) (b : 0 ≤ s) (c : s ≤ n) : fok n s = true := by simp [fok, a, b, c]
theorem fok_no {n : Nat} {s : Int} (a : ¬ (n ≤ 200000 ∧ 0 ≤ s ∧ s ≤ n)) : fok n s = false := by
  unfold fok
  rw [Bool.and_eq_false_iff, Bool.and_eq_false_iff]
  simp only [decide_eq_false_iff_not]
  omega
theorem fok_out {n : Nat} {s : Int} (h : fok n s = true) : n ≤ 200000 ∧ 0 ≤ s ∧ s ≤ n := by
  simp [fok] at h; omega

set_option maxHeartbeats 400000 in
theorem l1fileOK_any (p : Option Addr) (n c : Nat) (s : Int) (w : World) (hn : n ≤ 2097152) :
    Calls Try.prog 35 #[fileV (.slice p n c) s] w fun e w' => e = .returned (.bool (fok n s)) ∧ Below w.heap.size w w' := by
  by_cases a : n ≤ 200000
  · by_cases b : 0 ≤ s
    · by_cases c : s ≤ n
      · rw [fok_yes a b c]
        go_enter Try.func35, Try.ntmps35
        go_wp2
        go_ret
        exact ⟨rfl, (Below.refl _ _).alloc (Nat.le_refl _) _⟩
      · rw [fok_no (by omega)]
        go_enter Try.func35, Try.ntmps35
        go_wp2
        go_ret
        exact ⟨rfl, (Below.refl _ _).alloc (Nat.le_refl _) _⟩
    · rw [fok_no (by omega)]
      go_enter Try.func35, Try.ntmps35
      go_wp2
      go_ret
      exact ⟨rfl, (Below.refl _ _).alloc (Nat.le_refl _) _⟩
  · rw [fok_no (by omega)]
    go_enter Try.func35, Try.ntmps35
    go_wp2
    go_ret
    exact ⟨rfl, (Below.refl _ _).alloc (Nat.le_refl _) _⟩
end Go.Proofs.Yteljknmkodllkaa
