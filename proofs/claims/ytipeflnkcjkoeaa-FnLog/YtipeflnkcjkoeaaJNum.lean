import Derived.Test.YtipeflnkcjkoeaaJLe
import Derived.Laws.BytesString
namespace Go.Proofs.Ytipeflnkcjkoeaa
open Go.ChangeShapes Go.WideShapes Go.ChangeAt Go.RowKit
set_option linter.unusedVariables false
set_option linter.unusedSimpArgs false

/-- the number that bytes are, the lowest first -/
def num : List Int → Int
  | [] => 0
  | b :: l => b + 256 * num l
theorem num_bounds {l : List Int} (h : Byt l) : 0 ≤ num l ∧ num l < 256 ^ l.length := by
  induction l with
  | nil => simp [num]
  | cons b l ih =>
    obtain ⟨h0, h1⟩ := ih (fun z hz => h z (by simp [hz]))
    obtain ⟨b0, b1⟩ := h b (by simp)
    simp only [num, List.length_cons, Int.pow_succ]
    omega
theorem num_lt8 {l : List Int} (h : Byt l) (hl : l.length ≤ 8) : 0 ≤ num l ∧ num l < 18446744073709551616 := by
  obtain ⟨a, b⟩ := num_bounds h
  refine ⟨a, Int.lt_of_lt_of_le b ?_⟩
  have h9 : ((256 ^ l.length : Nat) : Int) ≤ 18446744073709551616 := by
    have h8 := Nat.pow_le_pow_right (n := 256) (by omega) hl
    have e : 256 ^ 8 = 18446744073709551616 := rfl
    omega
  rw [Int.natCast_pow] at h9
  exact h9
theorem num_le (v : Int) (n : Nat) (h0 : 0 ≤ v) : num (le v n) = v % 256 ^ n := by
  induction n generalizing v with
  | zero => simp [le, num, Int.emod_one]
  | succ n ih =>
    rw [le, num, ih _ (by omega), Int.pow_succ]
    have hP : (0 : Int) < 256 ^ n := Int.pow_pos (by omega)
    generalize (256 : Int) ^ n = P at *
    have e1 := Int.emod_add_mul_ediv v 256
    have e2 := Int.emod_add_mul_ediv (v / 256) P
    have h3 := Int.emod_nonneg (v / 256) (by omega : P ≠ 0)
    have h4 := Int.emod_lt_of_pos (v / 256) hP
    have ev : v = (v % 256 + 256 * ((v / 256) % P)) + (P * 256) * (v / 256 / P) := by
      have : (P * 256) * (v / 256 / P) = 256 * (P * (v / 256 / P)) := by rw [Int.mul_comm P 256, Int.mul_assoc]
      rw [this]
      omega
    conv => rhs; rw [ev]
    rw [Int.add_mul_emod_self_left, Int.emod_eq_of_lt (a := v % 256 + 256 * (v / 256 % P)) (by omega) (by omega)]
theorem le_num {l : List Int} (h : Byt l) : le (num l) l.length = l := by
  induction l with
  | nil => rfl
  | cons b l ih =>
    obtain ⟨b0, b1⟩ := h b (by simp)
    have e1 : (b + 256 * num l) % 256 = b := by omega
    have e2 : (b + 256 * num l) / 256 = num l := by omega
    rw [List.length_cons, num, le, e1, e2, ih (fun z hz => h z (by simp [hz]))]

/-- what a slice that reads l gives as a string -/
def bstr (l : List Int) : ByteArray := l.foldl (fun r n => r.push (UInt8.ofNat n.toNat)) ByteArray.empty
theorem bstr_data (l : List Int) (s : ByteArray) : (l.foldl (fun r n => r.push (UInt8.ofNat n.toNat)) s).data.toList = s.data.toList ++ l.map (fun n => UInt8.ofNat n.toNat) := by
  induction l generalizing s with
  | nil => simp
  | cons b l ih => rw [List.foldl_cons, ih]; simp [ByteArray.push]
theorem map_inj {l m : List Int} (hl : Byt l) (hm : Byt m) (h : l.map (fun n => UInt8.ofNat n.toNat) = m.map (fun n => UInt8.ofNat n.toNat)) : l = m := by
  induction l generalizing m with
  | nil => cases m with
    | nil => rfl
    | cons b m => simp at h
  | cons a l ih => cases m with
    | nil => simp at h
    | cons b m =>
      simp only [List.map_cons, List.cons.injEq] at h
      obtain ⟨a0, a1⟩ := hl a (by simp)
      obtain ⟨b0, b1⟩ := hm b (by simp)
      have e := congrArg UInt8.toNat h.1
      simp at e
      have e2 : a = b := by omega
      rw [e2, ih (fun z hz => hl z (by simp [hz])) (fun z hz => hm z (by simp [hz])) h.2]
theorem bstr_list (l : List Int) : (bstr l).toList = l.map (fun n => UInt8.ofNat n.toNat) := by
  rw [ByteArray.toList_eq, bstr, bstr_data]; rfl
theorem bstr_eq {l m : List Int} (hl : Byt l) (hm : Byt m) : ((bstr l).toList == (bstr m).toList) = decide (l = m) := by
  rw [bstr_list, bstr_list]
  by_cases h : l = m
  · simp [h]
  · simp only [h, decide_false, beq_eq_false_iff_ne]
    exact fun e => h (map_inj hl hm e)

theorem run_conv {w : World} {p : Option Addr} {c n : Nat} {l : List Int} (en : l.length = n) (h : Rd w (.slice p n c) l) :
    (convert 22 9 (.slice p n c)).run Try.prog w = .ok (.string (bstr l)) w := by
  subst en
  rw [run_convert_bytes_string w 22 9 5 p l.length c Try.underlying22 Try.underlying5 Try.underlying9]
  cases p with
  | none =>
    have e := h.none_nil
    subst e
    simp [Conv.bytesToString, bstr, Sem.run_pure]
  | some a =>
    obtain ⟨n1, n2, n3⟩ := h.news
    have hl := run_loadCells_list (P := Try.prog) w a (U l) (fun j v hj => n2 j v hj)
    simp only [List.length_map] at hl
    exact run_bytesToString w a l.length c l hl

set_option maxHeartbeats 400000 in
theorem bytesEqual_any (p q : Option Addr) (c d n k : Nat) (l m : List Int) (el : Hid (l.length = n)) (em : Hid (m.length = k)) (w : World) (h1 : Rd w (.slice p n c) l) (h2 : Rd w (.slice q k d) m) (b1 : Byt l) (b2 : Byt m) :
    Calls Try.prog 42 #[.slice p n c, .slice q k d] w fun e w' => e = .returned (.bool (decide (l = m))) ∧ Below w.heap.size w w' := by
  have e1 := run_conv (unhide el) h1
  have e2 := run_conv (unhide em) h2
  have HE := hide (bstr_eq b1 b2)
  clear h1 h2 b1 b2
  go_enter Try.func42, Try.ntmps42
  go_wp2
  go_ret
  exact ⟨by rw [unhide HE]; rfl, Below.refl _ _⟩

/-- the slice of a slice, as the machine has it: at the capacity's end the address stays -/
theorem Rd.cut {w : World} {b o n c : Nat} {l : List Int} (h : Rd w (.slice (some ⟨b, o, none⟩) n c) l) (i j : Nat) (hi : i ≤ j) (hj : j ≤ l.length) (q : Option Addr) (hq : j = i ∨ q = some ⟨b, o + i, none⟩) (d : Nat) (m : List Int) (em : m = (l.take j).drop i) : Rd w (.slice q (j - i) d) m := by
  have hm : m.length = j - i := by rw [em]; simp; omega
  refine ⟨q, d, by rw [hm], ?_⟩
  rcases hq with rfl | rfl
  · left; exact List.eq_nil_of_length_eq_zero (by omega)
  · obtain ⟨p', c', e, h⟩ := h
    simp only [Value.slice.injEq] at e
    obtain ⟨e1, -, -⟩ := e
    rcases h with rfl | ⟨b', o', e2, hc⟩
    · left; exact List.eq_nil_of_length_eq_zero (by simp at hj; omega)
    · right
      rw [e2] at e1
      simp only [Option.some.injEq, Addr.mk.injEq] at e1
      obtain ⟨rfl, rfl, -⟩ := e1
      refine ⟨b, o + i, rfl, fun k hk => ?_⟩
      have := hc (i + k) (by omega)
      rw [Nat.add_assoc, this, em]
      simp [List.getD, List.getElem?_take, show i + k < j by omega]
theorem Rd.at {w : World} {p : Option Addr} {n c : Nat} {l : List Int} (h : Rd w (.slice p n c) l) (hl : 0 < l.length) : ∃ b o, p = some ⟨b, o, none⟩ ∧ n = l.length ∧ ∀ i, i < l.length → w.cell? ⟨b, o + i, none⟩ = some (.int .u8 (l.getD i 0)) := by
  obtain ⟨p', c', e, h⟩ := h
  simp only [Value.slice.injEq] at e
  obtain ⟨rfl, rfl, -⟩ := e
  rcases h with rfl | ⟨b, o, e2, hc⟩
  · simp at hl
  · exact ⟨b, o, e2, rfl, hc⟩

theorem wrapSum {z k : Int} (z0 : 0 ≤ z) (z1 : z < 256) (k0 : 0 ≤ k) (h : z + 256 * k < 18446744073709551616) : IntKind.u64.wrap (IntKind.u64.wrap z + IntKind.u64.wrap (256 * k)) = z + 256 * k := by
  rw [u64_wrap_id z z0 (by omega), u64_wrap_id (256 * k) (by omega) (by omega), u64_wrap_id _ (by omega) h]

set_option maxHeartbeats 800000 in
theorem l2number_any (l : List Int) (p : Option Addr) (c n : Nat) (en : Hid (l.length = n)) (w : World) (h : Rd w (.slice p n c) l) (hb : Byt l) (hn : n ≤ 8) (hc : n ≤ c) (hm : c ≤ maxLen) :
    Calls Try.prog 39 #[.slice p n c] w fun e w' => e = .returned (.int .u64 (num l)) ∧ Below w.heap.size w w' := by
  induction l generalizing p c n w with
  | nil =>
    have e := unhide en
    subst e
    clear h
    go_enter Try.func39, Try.ntmps39
    go_wp2
    go_ret
    exact ⟨rfl, Below.refl _ _⟩
  | cons z l ih =>
    have e : n = l.length + 1 := (unhide en).symm
    have HE := hide e
    obtain ⟨b, o, rfl, -, hcell⟩ := h.at (by simp)
    obtain ⟨z0, z1⟩ := hb z (by simp)
    obtain ⟨n0, n1⟩ := num_lt8 (l := l) (fun z hz => hb z (by simp [hz])) (by omega)
    obtain ⟨m0, m1⟩ := num_lt8 (l := z :: l) hb (by simp; omega)
    have EN : num (z :: l) = z + 256 * num l := rfl
    have c0 := hcell 0 (by simp)
    simp at c0
    have hne : ((n : Int) == 0) = false := beq_eq_false_iff_ne.2 (by omega)
    have hc1 : (n : Int) ≤ (c : Int) := by omega
    have hc2 : (1 : Int) ≤ (n : Int) := by omega
    have hc3 : (0 : Int) < (n : Int) := by omega
    have hc4 : 0 < n := by omega
    have hc5 : 1 ≤ n := by omega
    by_cases h1 : c = 1
    · have hn1 : n = 1 := by omega
      subst h1 hn1
      have IH : Hid (∀ (w' : World), Below w.heap.size w w' → Calls Try.prog 39 #[.slice (some ⟨b, o, none⟩) 0 0] w' fun e w'' => e = .returned (.int .u64 (num l)) ∧ Below w'.heap.size w' w'') := by
        intro w' hb'
        refine ih _ 0 0 (by show _ = _; omega) w' ?_ (fun z hz => hb z (by simp [hz])) (by omega) (by omega) (by omega)
        refine (h.below hb').cut 1 1 (by omega) (by simp) _ (.inl (by omega)) _ l ?_
        rw [List.eq_nil_of_length_eq_zero (l := l) (by omega)]; rfl
      have HN := hide EN
      rw [EN] at m1
      clear e ih h hb hcell EN m0
      unfold maxLen at hm
      go_enter Try.func39, Try.ntmps39
      go_wp2_with fail
      go_region_held3 (fun w' => w'.cell? ⟨b, o, none⟩ = some (.int .u8 z)) (first | with_reducible exact c0 | with_reducible exact c1 | go_keep)
        (first | (go_at_call 39; refine (unhide IH _ (by first | exact Below.refl _ _ | exact (Below.refl _ _).drew)).mono ?_; rintro e w1 ⟨rfl, hb1⟩; have b1 : Below w.heap.size w w1 := (by first | exact hb1 | exact Below.step (Below.refl w.heap.size w).drew hb1); have c1 := cell_below c0 b1))
      clear IH c1
      go_wp2
      go_ret
      exact ⟨by rw [unhide HN, ← wrapSum z0 z1 n0 m1]; rfl, b1⟩
    · have hcn : (c == 1) = false := by simp [h1]
      have IH : Hid (∀ (w' : World), Below w.heap.size w w' → Calls Try.prog 39 #[.slice (some ⟨b, o + 1, none⟩) (n - 1) (c - 1)] w' fun e w'' => e = .returned (.int .u64 (num l)) ∧ Below w'.heap.size w' w'') := by
        intro w' hb'
        refine ih _ (c - 1) (n - 1) (by show _ = _; omega) w' ?_ (fun z hz => hb z (by simp [hz])) (by omega) (by omega) (by omega)
        refine (h.below hb').cut 1 n (by omega) (by simp; omega) _ (.inr rfl) _ l ?_
        rw [e]; simp
      have HN := hide EN
      rw [EN] at m1
      clear e ih h hb hcell EN m0
      unfold maxLen at hm
      go_enter Try.func39, Try.ntmps39
      go_wp2_with fail
      go_region_held3 (fun w' => w'.cell? ⟨b, o, none⟩ = some (.int .u8 z)) (first | with_reducible exact c0 | with_reducible exact c1 | go_keep)
        (first | (go_at_call 39; refine (unhide IH _ (by first | exact Below.refl _ _ | exact (Below.refl _ _).drew)).mono ?_; rintro e w1 ⟨rfl, hb1⟩; have b1 : Below w.heap.size w w1 := (by first | exact hb1 | exact Below.step (Below.refl w.heap.size w).drew hb1); have c1 := cell_below c0 b1))
      clear IH c1
      go_wp2
      go_ret
      exact ⟨by rw [unhide HN, ← wrapSum z0 z1 n0 m1]; rfl, b1⟩
end Go.Proofs.Ytipeflnkcjkoeaa
