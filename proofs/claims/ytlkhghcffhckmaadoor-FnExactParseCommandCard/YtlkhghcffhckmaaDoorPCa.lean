import Derived.Test.YtlkhghcffhckmaaDoorPCm
import Derived.Test.YtlkhghcffhckmaaDoorVPm
import Derived.Test.YtlkhghcffhckmaaDoorJB
namespace Go.Proofs.YtlkhghcffhckmaaDoor
open Go.ChangeShapes Go.WideShapes Go.ChangeAt Go.RowKit
set_option linter.unusedVariables false
set_option linter.unusedSimpArgs false
set_option maxRecDepth 100000

theorem numV_step (l : List Int) (k : Nat) (c : Int) (h : l[k]? = some c) : numV (l.take (k + 1)) = numV (l.take k) * 10 + (c - 48) := by
 rw [List.take_add_one, h, numV, List.foldl_append]
 rfl
theorem numV_bound (l : List Int) (hd : digs l = true) (k : Nat) (hk : k ≤ l.length) : 0 ≤ numV (l.take k) ∧ numV (l.take k) < 10 ^ k := by
 induction k with
 | zero => simp [numV]
 | succ k ih =>
  obtain ⟨c, hc⟩ : ∃ c, l[k]? = some c := ⟨_, List.getElem?_eq_getElem (by omega)⟩
  rw [numV_step l k c hc]
  obtain ⟨h1, h2⟩ := ih (by omega)
  have := List.all_eq_true.1 hd c (List.mem_of_getElem? hc)
  simp only [Bool.and_eq_true, decide_eq_true_eq] at this
  have e : (10 : Int) ^ (k + 1) = 10 ^ k * 10 := Int.pow_succ 10 k
  rw [e]
  omega
theorem digs_take {l : List Int} {k : Nat} (h : ∀ i, i < k → ∃ c, l[i]? = some c ∧ 48 ≤ c ∧ c ≤ 57) : digs (l.take k) = true := by
 rw [digs, List.all_eq_true]
 intro x hx
 obtain ⟨i, hi⟩ := List.getElem?_of_mem hx
 rw [List.getElem?_take] at hi
 split at hi
 ·next hlt =>
  obtain ⟨c, hc, h1, h2⟩ := h i hlt
  rw [hc] at hi
  cases hi
  simp [h1, h2]
 ·cases hi
set_option maxHeartbeats 1600000 in
theorem l6number_any (p : Option Addr) (c n : Nat) (l : List Int) (en : Hid (l.length = n)) (w : World) (h : Rd w (.slice p n c) l) (hb : Hid (Byt l)) (hl : n ≤ 1048576) (most : Int) (R : Option Int) (eR : Hid (numO l most = R)) :
  Calls Tryd.prog 21 #[.slice p n c, .int .u64 most] w fun e w' => (∃ v, e = .returned (.tuple #[.int .u64 v, .bool R.isSome]) ∧ ∀ x, R = some x → v = x) ∧ w' = w := by
 by_cases h0 : n < 1
 ·have hR : R = none := by rw [← unhide eR, numO, if_neg (fun hh => by have := hh.1.1; rw [unhide en] at this; omega)]
  subst hR
  have h0' : (n : Int) < 1 := by omega
  go_enter Tryd.func21, Tryd.ntmps21
  go_wp2
  refine bodyPost_ret (v := .tuple #[.int .u64 0, .bool false]) (by simp [results, Tryd.results21, go_sem]) rfl ?_
  first | exact ⟨⟨0, rfl, fun x hx => by cases hx⟩, rfl⟩ | exact ⟨⟨0, rfl⟩, rfl⟩
 ·by_cases h1 : 19 < n
  ·have hR : R = none := by rw [← unhide eR, numO, if_neg (fun hh => by have := hh.1.2; rw [unhide en] at this; omega)]
   subst hR
   have h0' : ¬ (n : Int) < 1 := by omega
   have h1' : (19 : Int) < (n : Int) := by omega
   go_enter Tryd.func21, Tryd.ntmps21
   go_wp2
   refine bodyPost_ret (v := .tuple #[.int .u64 0, .bool false]) (by simp [results, Tryd.results21, go_sem]) rfl ?_
   first | exact ⟨⟨0, rfl, fun x hx => by cases hx⟩, rfl⟩ | exact ⟨⟨0, rfl⟩, rfl⟩
  ·have h0' : ¬ (n : Int) < 1 := by omega
   have h1' : ¬ (19 : Int) < (n : Int) := by omega
   have hl1 : 1 ≤ n := by omega
   have hl2 : n ≤ 19 := by omega
   obtain ⟨p', c', ev, hd⟩ := h
   simp only [Value.slice.injEq] at ev
   obtain ⟨rfl, -, -⟩ := ev
   rcases hd with h2 | ⟨b, o, rfl, hc⟩
   ·exfalso
    have := unhide en
    rw [h2] at this
    simp at this
    omega
   ·have HC := hide hc
    clear hc h0 h1
    go_enter Tryd.func21, Tryd.ntmps21
    go_wp2
    go_loopw [6, 7] (fun vv iv wr => ∃ k : Nat, k ≤ n ∧ iv = .int .i64 k ∧ vv = .int .u64 (numV (l.take k)) ∧ Hid (∀ i, i < k → ∃ c, l[i]? = some c ∧ 48 ≤ c ∧ c ≤ 57) ∧ wr = w) (fun _ iv _ => n - (intOf iv).toNat)
    case atStart => exact ⟨0, Nat.zero_le _, rfl, rfl, fun i hi => by omega, rfl⟩
    case round =>
     obtain ⟨k, hk, rfl, rfl, hD, rfl⟩ := hrel
     by_cases hlt : k < n
     ·have hlt' : (k : Int) < (n : Int) := by omega
      have hkl : k < l.length := by rw [unhide en]; exact hlt
      obtain ⟨x, hx⟩ : ∃ x, l[k]? = some x := ⟨_, List.getElem?_eq_getElem hkl⟩
      have hcx : wr.cell? ⟨b, o + k, none⟩ = some (.int .u8 x) := by
       have := unhide HC k hkl
       rw [List.getD_eq_getElem?_getD, hx, Option.getD_some] at this
       exact this
      have hxb := unhide hb x (List.mem_of_getElem? hx)
      by_cases hdg : 48 ≤ x ∧ x ≤ 57
      ·have e1 : ¬ x < 48 := by omega
       have e2 : ¬ 57 < x := by omega
       have w1 : IntKind.u8.wrap (x - 48) = x - 48 := by rw [IntKind.wrap_u8]; omega
       have w2 : IntKind.u64.wrap (x - 48) = x - 48 := by rw [IntKind.wrap_u64]; omega
       have hbd : 0 ≤ numV (l.take k) ∧ numV (l.take k) < 1000000000000000000 := by
        have hdt := digs_take (unhide hD)
        have := numV_bound (l.take k) hdt k (by rw [List.length_take]; omega)
        rw [List.take_take, Nat.min_self] at this
        refine ⟨this.1, Int.lt_of_lt_of_le this.2 ?_⟩
        have : (10 : Nat) ^ k ≤ 10 ^ 18 := Nat.pow_le_pow_right (by omega) (by omega)
        have e18 : (10 : Int) ^ k = ((10 ^ k : Nat) : Int) := by rw [Int.natCast_pow]; rfl
        rw [e18]
        exact Int.ofNat_le.2 this
       have hst := numV_step l k x hx
       obtain ⟨a, ea⟩ : ∃ a, numV (l.take k) = a := ⟨_, rfl⟩
       rw [ea] at hbd hst ⊢
       have w3 : IntKind.u64.wrap (a * 10) = a * 10 := by rw [IntKind.wrap_u64]; omega
       have w4 : IntKind.u64.wrap (a * 10 + (x - 48)) = a * 10 + (x - 48) := by rw [IntKind.wrap_u64]; omega
       have wk : IntKind.i64.wrap ((k : Int) + 1) = ((k + 1 : Nat) : Int) := by rw [IntWalk.i64_in _ (by omega)]; omega
       have HST := hide hst
       have HX := hide hx
       clear hst hx ea hkl
       go_wp2
       go_roundw
       case rel => exact ⟨k + 1, by omega, by go_num, by rw [unhide HST], fun i hi => by
        by_cases hik : i < k
        ·exact unhide hD i hik
        ·rw [show i = k by omega]; exact ⟨x, unhide HX, hdg⟩, by first | rfl | trivial⟩
       case measure => simp [intOf]; omega
      ·have hR : R = none := by
        rw [← unhide eR, numO, if_neg]
        intro hh
        have := List.all_eq_true.1 hh.2.1 x (List.mem_of_getElem? hx)
        simp only [Bool.and_eq_true, decide_eq_true_eq] at this
        exact hdg this
       subst hR
       by_cases e1 : x < 48
       ·clear hx hkl
        go_wp2
        refine bodyPost_ret (v := .tuple #[.int .u64 0, .bool false]) (by simp [results, Tryd.results21, go_sem]) rfl ?_
        first | exact ⟨⟨0, rfl, fun x hx => by cases hx⟩, rfl⟩ | exact ⟨⟨0, rfl⟩, rfl⟩
       ·have e2 : 57 < x := by omega
        clear hx hkl
        go_wp2
        refine bodyPost_ret (v := .tuple #[.int .u64 0, .bool false]) (by simp [results, Tryd.results21, go_sem]) rfl ?_
        first | exact ⟨⟨0, rfl, fun x hx => by cases hx⟩, rfl⟩ | exact ⟨⟨0, rfl⟩, rfl⟩
     ·have hlt' : ¬ (k : Int) < (n : Int) := by omega
      have ekn : n = k := by omega
      subst ekn
      have hT : l.take n = l := List.take_of_length_le (by rw [unhide en]; exact Nat.le_refl _)
      have hdl : digs l = true := by have := digs_take (unhide hD); rw [hT] at this; exact this
      have hR : R = if numV l ≤ most then some (numV l) else none := by
       rw [← unhide eR, numO, unhide en]
       by_cases hm : numV l ≤ most
       ·rw [if_pos ⟨⟨hl1, hl2⟩, hdl, hm⟩, if_pos hm]
       ·rw [if_neg (fun hh => hm hh.2.2), if_neg hm]
      rw [hT]
      have HRR := hide hR
      by_cases hm : numV l ≤ most
      ·rw [if_pos hm] at hR
       subst hR
       go_wp2
       refine bodyPost_ret (v := .tuple #[.int .u64 (numV l), .bool true]) (by simp [results, Tryd.results21, go_sem]) rfl ?_
       first | exact ⟨⟨numV l, rfl, fun x hx => by cases hx; rfl⟩, rfl⟩ | exact ⟨⟨numV l, rfl, rfl⟩, rfl⟩ | simp
      ·rw [if_neg hm] at hR
       subst hR
       go_wp2
       refine bodyPost_ret (v := .tuple #[.int .u64 (numV l), .bool false]) (by simp [results, Tryd.results21, go_sem]) rfl ?_
       first | exact ⟨⟨numV l, rfl, fun x hx => by cases hx⟩, rfl⟩ | exact ⟨⟨numV l, rfl⟩, rfl⟩
end Go.Proofs.YtlkhghcffhckmaaDoor
