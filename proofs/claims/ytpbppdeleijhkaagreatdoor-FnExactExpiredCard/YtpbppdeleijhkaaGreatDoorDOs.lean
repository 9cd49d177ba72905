import Derived.Test.YtpbppdeleijhkaaGreatDoorDOm
import Derived.Test.YtpbppdeleijhkaaGreatDoorVPs
namespace Go.Proofs.YtpbppdeleijhkaaGreatDoor
open Go.ChangeShapes Go.WideShapes Go.ChangeAt Go.RowKit
set_option linter.unusedVariables false
set_option linter.unusedSimpArgs false
set_option maxRecDepth 100000

def vOf : Option (Int × List Int) → Int
  | some x => x.1
  | none => 0
def aOf (n : Nat) : Option (Int × List Int) → Int
  | some x => (n : Int) - x.2.length
  | none => -1

set_option maxHeartbeats 800000 in
theorem readByte_neg (p : Option Addr) (c n : Nat) (w : World) :
    Calls Tryz.prog 45 #[.slice p n c, .int .i64 (-1)] w fun e w' => e = .returned (.tuple #[.int .i64 0, .int .i64 (-1)]) ∧ w' = w := by
  go_enter Tryz.func45, Tryz.ntmps45
  go_wp2
  go_ret2
  exact ⟨rfl, rfl⟩
set_option maxHeartbeats 800000 in
theorem readByte_end (p : Option Addr) (c n : Nat) (w : World) (hl : n ≤ 1048576) :
    Calls Tryz.prog 45 #[.slice p n c, .int .i64 n] w fun e w' => e = .returned (.tuple #[.int .i64 0, .int .i64 (-1)]) ∧ w' = w := by
  have h0 : ¬ (n : Int) < 0 := by omega
  have h1 : (n : Int) ≤ (n : Int) := by omega
  go_enter Tryz.func45, Tryz.ntmps45
  go_wp2
  go_ret2
  exact ⟨rfl, rfl⟩
set_option maxHeartbeats 800000 in
theorem readByte_at (p : Option Addr) (c n a : Nat) (l : List Int) (en : Hid (l.length = n)) (w : World) (h : Rd w (.slice p n c) l) (hb : Byt l) (hl : n ≤ 1048576) (ha : a < n) :
    Calls Tryz.prog 45 #[.slice p n c, .int .i64 a] w fun e w' => e = .returned (.tuple #[.int .i64 (l.getD a 0), .int .i64 ((a + 1 : Nat) : Int)]) ∧ w' = w := by
  obtain ⟨b, o, rfl, -, hc⟩ := h.at (by rw [unhide en]; omega)
  have hcx := hc a (by rw [unhide en]; exact ha)
  have hx : 0 ≤ l.getD a 0 ∧ l.getD a 0 < 256 := by
    have hal : a < l.length := by rw [unhide en]; exact ha
    rw [show l.getD a 0 = l[a] by simp [List.getD, hal]]
    exact hb _ (List.getElem_mem hal)
  obtain ⟨x, ex⟩ : ∃ x, l.getD a 0 = x := ⟨_, rfl⟩
  rw [ex] at hcx hx ⊢
  have h0 : ¬ (a : Int) < 0 := by omega
  have h1 : ¬ (n : Int) ≤ (a : Int) := by omega
  have h2 : (a : Int) < (n : Int) := by omega
  have wx : IntKind.i64.wrap x = x := IntWalk.i64_in _ (by omega)
  clear hc ex
  go_enter Tryz.func45, Tryz.ntmps45
  go_wp2
  go_ret2
  exact ⟨by simp, rfl⟩

set_option maxHeartbeats 800000 in
theorem readVar_neg (p : Option Addr) (c n : Nat) (w : World) :
    Calls Tryz.prog 43 #[.slice p n c, .int .i64 (-1)] w fun e w' => e = .returned (.tuple #[.int .u64 0, .int .i64 (-1)]) ∧ w' = w := by
  go_enter Tryz.func43, Tryz.ntmps43
  go_wp2_with fail
  go_loopw [6, 7] (fun nv iv wr => nv = .int .u64 0 ∧ iv = .int .i64 0 ∧ wr = w) (fun _ iv _ => 10 - (intOf iv).toNat)
  case atStart => exact ⟨rfl, rfl, rfl⟩
  case round =>
    obtain ⟨rfl, rfl, rfl⟩ := hrel
    go_wp2
    go_ret2
    exact ⟨rfl, rfl⟩

theorem drop_consD {l : List Int} {a : Nat} (h : a < l.length) : l.drop a = l.getD a 0 :: l.drop (a + 1) := by
  rw [List.drop_eq_getElem_cons h]
  simp [List.getD, h]

set_option maxHeartbeats 1600000 in
theorem readVar_at (p : Option Addr) (c n a : Nat) (l : List Int) (en : Hid (l.length = n)) (w : World) (h : Rd w (.slice p n c) l) (hb : Byt l) (hl : n ≤ 1048576) (ha : a ≤ n) (r : Option (Int × List Int)) (er : Hid (rv (l.drop a) = r)) :
    Calls Tryz.prog 43 #[.slice p n c, .int .i64 a] w fun e w' => e = .returned (.tuple #[.int .u64 (vOf r), .int .i64 (aOf n r)]) ∧ w' = w := by
  have HR := hide h
  have HB := hide hb
  have ha0 : ¬ (a : Int) < 0 := by omega
  clear h hb
  go_enter Tryz.func43, Tryz.ntmps43
  go_wp2_with fail
  go_loopw [6, 7] (fun nv iv wr => ∃ (v : Int) (k : Nat), nv = .int .u64 v ∧ k ≤ 10 ∧ iv = .int .i64 k ∧ Hid (r = rvF (10 - k) k v (l.drop (a + k))) ∧ wr = w) (fun _ iv _ => 10 - (intOf iv).toNat)
  case atStart => exact ⟨0, 0, rfl, by omega, rfl, (by show _ = _; rw [← unhide er]; rfl), rfl⟩
  case round =>
    obtain ⟨v, k, rfl, hk, rfl, hr, rfl⟩ := hrel
    by_cases h10 : k < 10
    · have h10' : (k : Int) < 10 := by omega
      obtain ⟨A, eA⟩ : ∃ A : Nat, (a : Int) + (k : Int) = (A : Int) := ⟨a + k, by omega⟩
      have eA2 : a + k = A := by omega
      have hr2 := unhide hr
      rw [eA2, show 10 - k = (9 - k) + 1 by omega] at hr2
      by_cases hin : A < n
      · have hA : (A : Int) < (n : Int) := by omega
        have hA1 : ¬ (n : Int) ≤ (A : Int) := by omega
        obtain ⟨b, o, rfl, -, hc⟩ := (unhide HR).at (by rw [unhide en]; omega)
        have hcx := hc A (by rw [unhide en]; exact hin)
        have hx : 0 ≤ l.getD A 0 ∧ l.getD A 0 < 256 := by
          have hal : A < l.length := by rw [unhide en]; exact hin
          rw [show l.getD A 0 = l[A] by simp [List.getD, hal]]
          exact unhide HB _ (List.getElem_mem hal)
        rw [drop_consD (by rw [unhide en]; exact hin)] at hr2
        obtain ⟨x, ex⟩ : ∃ x, l.getD A 0 = x := ⟨_, rfl⟩
        rw [ex] at hcx hx hr2
        have w7 : IntKind.i64.wrap (7 * (k : Int)) = 7 * (k : Int) := IntWalk.i64_in _ (by omega)
        rw [rvF] at hr2
        clear hc ex hr
        by_cases hx128 : x < 128
        · rw [if_pos hx128] at hr2
          have e1 : vOf r = accN k v x := by rw [hr2]; rfl
          have e2 : aOf n r = (A : Int) + 1 := by
            rw [hr2]
            show (n : Int) - ((l.drop (A + 1)).length : Nat) = _
            rw [List.length_drop, unhide en]
            omega
          have E := hide (And.intro e1 e2)
          clear e1 e2 hr2
          go_wp2
          go_ret2
          rw [(unhide E).1, (unhide E).2]
          exact ⟨rfl, rfl⟩
        · have hx128' : ¬ x < 128 := hx128
          rw [if_neg hx128] at hr2
          have hr3 : Hid (r = rvF (10 - (k + 1)) (k + 1) (accN k v x) (l.drop (a + (k + 1)))) := by
            show _ = _
            rw [hr2, show 10 - (k + 1) = 9 - k by omega, show a + (k + 1) = A + 1 by omega]
          clear hr2
          go_wp2
          go_roundw
          case rel => exact ⟨accN k v x, k + 1, rfl, by omega, by go_num, hr3, by first | rfl | trivial⟩
          case measure => simp [intOf]; omega
      · have hA1 : (n : Int) ≤ (A : Int) := by omega
        rw [List.drop_eq_nil_of_le (by rw [unhide en]; omega), rvF] at hr2
        subst hr2
        clear hr
        go_wp2
        go_ret2
        exact ⟨rfl, rfl⟩
    · have h10' : ¬ (k : Int) < 10 := by omega
      have hr2 := unhide hr
      rw [show 10 - k = 0 by omega, rvF] at hr2
      subst hr2
      clear hr
      go_wp2
      go_ret2
      exact ⟨rfl, rfl⟩
end Go.Proofs.YtpbppdeleijhkaaGreatDoor
