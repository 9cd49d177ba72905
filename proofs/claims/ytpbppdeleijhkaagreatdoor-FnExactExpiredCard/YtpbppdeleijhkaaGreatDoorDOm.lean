import Derived.Test.YtpbppdeleijhkaaGreatDoorOPm
import Derived.Lib.EndianBits
import Derived.Laws.Closers25b
namespace Go.Proofs.YtpbppdeleijhkaaGreatDoor
open Go.ChangeShapes Go.WideShapes Go.ChangeAt Go.RowKit
set_option linter.unusedVariables false
set_option linter.unusedSimpArgs false
set_option maxRecDepth 100000

/-- one byte more of a number -/
def accN (k : Nat) (v x : Int) : Int := bits .or .u64 v (IntKind.u64.wrap (x % 128 * 2 ^ (7 * k)))
theorem accN_range (k : Nat) (v x : Int) : 0 ≤ accN k v x ∧ accN k v x < 18446744073709551616 := by
  have h1 := bits_lo_u64 .or v (IntKind.u64.wrap (x % 128 * 2 ^ (7 * k)))
  have h2 := bits_hi_u64 .or v (IntKind.u64.wrap (x % 128 * 2 ^ (7 * k)))
  unfold accN
  omega
theorem tm (x : Nat) : (x : Int) % 128 = ((x % 128 : Nat) : Int) := by omega
/-- where the parts do not meet they are added -/
theorem accN_add (k : Nat) (a x : Nat) (c : Int) (hc : c % 128 = (x : Int)) (hx : x < 128) (ha : a < 2 ^ (7 * k)) (hs : a + x * 2 ^ (7 * k) < 18446744073709551616) : accN k a c = ((a + x * 2 ^ (7 * k) : Nat) : Int) := by
  unfold accN
  rw [hc]
  have e2 : IntKind.u64.wrap ((x : Int) * 2 ^ (7 * k)) = ((x * 2 ^ (7 * k) : Nat) : Int) := by
    rw [IntKind.wrap_u64]
    have : ((x : Int) * 2 ^ (7 * k)) = ((x * 2 ^ (7 * k) : Nat) : Int) := by push_cast; rfl
    rw [this]
    omega
  rw [e2]
  have hj := bits_join_low .u64 64 (by decide) wraps_u64 (7 * k) (a : Int) ((x * 2 ^ (7 * k) : Nat) : Int) (by omega) (by exact_mod_cast ha) (by omega) (by omega) (by
    have : ((x * 2 ^ (7 * k) : Nat) : Int) % 2 ^ (7 * k) = ((x * 2 ^ (7 * k) % 2 ^ (7 * k) : Nat) : Int) := by push_cast; rfl
    rw [this, Nat.mul_mod_left]
    rfl) (by omega)
  rw [hj]
  push_cast
  rfl
/-- a number read: it and what is left, where it ends in time -/
def rvF : Nat → Nat → Int → List Int → Option (Int × List Int)
  | 0, _, _, _ => none
  | _ + 1, _, _, [] => none
  | f + 1, k, a, c :: t => if c < 128 then some (accN k a c, t) else rvF f (k + 1) (accN k a c) t
def rv (m : List Int) : Option (Int × List Int) := rvF 10 0 0 m
theorem pow_step (k : Nat) : 2 ^ (7 * (k + 1)) = 128 * 2 ^ (7 * k) := by
  rw [Nat.mul_add, Nat.pow_add, Nat.mul_comm]
theorem rvF_vi (f : Nat) : ∀ (k a x : Nat) (rest : List Int), x < 128 ^ (f + 1) → a < 2 ^ (7 * k) → a + x * 2 ^ (7 * k) < 18446744073709551616 → rvF (f + 1) k a (viF f x ++ rest) = some (((a + x * 2 ^ (7 * k) : Nat) : Int), rest) := by
  induction f with
  | zero =>
    intro k a x rest hx ha hs
    have hx' : x < 128 := by simpa using hx
    rw [viF]
    simp only [List.cons_append, List.nil_append, rvF]
    rw [if_pos (by omega), accN_add k a x _ (by rw [tm]; omega) hx' ha hs]
  | succ f ih =>
    intro k a x rest hx ha hs
    by_cases h : x < 128
    · rw [viF_small _ _ h]
      simp only [List.cons_append, List.nil_append, rvF]
      rw [if_pos (by omega), accN_add k a x _ (by rw [tm]; omega) h ha hs]
    · rw [viF_big _ _ h]
      simp only [List.cons_append, rvF]
      have hdm := Nat.div_add_mod x 128
      have hml := Nat.mod_lt x (show 0 < 128 by omega)
      generalize x / 128 = q at *
      generalize x % 128 = r at *
      subst hdm
      have hpow : (128 * q + r) * 2 ^ (7 * k) = q * 2 ^ (7 * (k + 1)) + r * 2 ^ (7 * k) := by rw [pow_step, Nat.add_mul, Nat.mul_comm 128 q, Nat.mul_assoc]
      rw [if_neg (by omega), accN_add k a r _ (by rw [tm]; omega) hml ha (by rw [hpow] at hs; omega), ih (k + 1) (a + r * 2 ^ (7 * k)) q rest ?_ ?_ ?_]
      · rw [hpow]
        congr 2
        simp
        omega
      · rw [Nat.pow_succ] at hx
        omega
      · rw [pow_step]
        have : r * 2 ^ (7 * k) ≤ 127 * 2 ^ (7 * k) := Nat.mul_le_mul_right _ (by omega)
        omega
      · rw [hpow] at hs
        omega
theorem rv_vi (s : Nat) (rest : List Int) (hs : s < 18446744073709551616) : rv (vi s ++ rest) = some ((s : Int), rest) := by
  have := rvF_vi 9 0 0 s rest (by omega) (by decide) (by omega)
  simpa [rv, vi] using this
theorem rvF_range (f : Nat) : ∀ (k : Nat) (a : Int) (m : List Int) (v : Int) (t : List Int), rvF f k a m = some (v, t) → 0 ≤ v ∧ v < 18446744073709551616 ∧ t.length < m.length ∧ t = m.drop (m.length - t.length) := by
  induction f with
  | zero => intro k a m v t h; simp [rvF] at h
  | succ f ih =>
    intro k a m v t h
    cases m with
    | nil => simp [rvF] at h
    | cons c m =>
      rw [rvF] at h
      split at h
      · simp at h
        obtain ⟨rfl, rfl⟩ := h
        have := accN_range k a c
        refine ⟨this.1, this.2, by simp, ?_⟩
        rw [List.length_cons, show m.length + 1 - m.length = 1 by omega]
        rfl
      · obtain ⟨h1, h2, h3, h4⟩ := ih _ _ _ _ _ h
        refine ⟨h1, h2, by simp; omega, ?_⟩
        rw [List.length_cons, show m.length + 1 - t.length = (m.length - t.length) + 1 by omega, List.drop_succ_cons]
        exact h4
end Go.Proofs.YtpbppdeleijhkaaGreatDoor
