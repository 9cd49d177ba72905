import Derived.Test.YtipeflnkcjkoeaaJDL
namespace Go.Proofs.Ytipeflnkcjkoeaa
open Go.ChangeShapes Go.WideShapes Go.ChangeAt Go.RowKit
set_option linter.unusedVariables false
set_option linter.unusedSimpArgs false

/-- the records' bytes -/
def enc : List R1 → List Int
  | [] => []
  | r :: rs => recB r.1 r.2 ++ enc rs
theorem enc_length (rs : List R1) : (enc rs).length = tkR rs := by
  induction rs with
  | nil => rfl
  | cons r rs ih => simp only [enc, tkR, List.length_append, recB_length, ih]
theorem enc_append (a b : List R1) : enc (a ++ b) = enc a ++ enc b := by
  induction a with
  | nil => rfl
  | cons r a ih => simp only [enc, List.cons_append, ih, List.append_assoc]
theorem enc_step {rs : List R1} {k : Nat} {r : R1} (h : rs[k]? = some r) : enc (rs.take (k + 1)) = enc (rs.take k) ++ recB r.1 r.2 := by
  rw [List.take_add_one, h, enc_append]
  simp [enc]
theorem sub_mid (a m c : List Int) {i j : Nat} (hi : a.length = i) (hj : a.length + m.length = j) : sub (a ++ (m ++ c)) i j = m := by
  subst hi
  subst hj
  rw [sub, ← List.append_assoc, List.take_left' (by simp), List.drop_left' rfl]
theorem recB_form (s : Int) (b : List Int) : recB s b = le b.length 2 ++ (le s 8 ++ (b ++ le (ck (recHead s b)) 4)) := by
  rw [recB, sm]
  generalize le (ck (recHead s b)) 4 = z
  simp only [recHead, List.append_assoc]
theorem len_field {b rest : List Int} (hl : b.length ≤ 1000) : len1 (le b.length 2 ++ rest) = b.length := by
  have e : sub (le b.length 2 ++ rest) 0 2 = le b.length 2 := by
    have := sub_mid [] (le b.length 2) rest (i := 0) (j := 2) rfl (by simp [le_length])
    simpa using this
  rw [len1, e, num_le _ _ (by omega)]
  omega
theorem rec1_recB {s : Int} {b rest : List Int} (hl : b.length ≤ 1000) (s0 : 0 ≤ s) (s1 : s < 18446744073709551616) : rec1 (recB s b ++ rest) = some (s, b) := by
  have h1 : len1 (recB s b ++ rest) = b.length := by rw [recB_form, List.append_assoc]; exact len_field hl
  have h2 : num (sub (recB s b ++ rest) 2 10) = s := by
    have := sub_mid (le b.length 2) (le s 8) ((b ++ le (ck (recHead s b)) 4) ++ rest) (i := 2) (j := 10) (le_length _ _) (by simp [le_length])
    rw [recB_form]
    simp only [List.append_assoc] at this ⊢
    rw [this, num_le _ _ s0]
    exact Int.emod_eq_of_lt s0 (by simpa using s1)
  have h3 : sub (recB s b ++ rest) 10 (10 + b.length) = b := by
    have := sub_mid (le b.length 2 ++ le s 8) b (le (ck (recHead s b)) 4 ++ rest) (i := 10) (j := 10 + b.length) (by simp [le_length]) (by simp [le_length])
    rw [recB_form]
    simp only [List.append_assoc] at this ⊢
    exact this
  have h4 : sub (recB s b ++ rest) 0 (14 + b.length) = recB s b := by
    have := sub_mid [] (recB s b) rest (i := 0) (j := 14 + b.length) rfl (by simp [recB_length]; omega)
    simpa using this
  unfold rec1
  rw [h1, h2, h3, h4, if_neg (by rw [List.length_append, recB_length]; omega), if_pos rfl]
theorem rec1_pre {s : Int} {b : List Int} (hl : b.length ≤ 1000) {j : Nat} (hj : j < b.length + 14) : rec1 ((recB s b).take j) = none := by
  by_cases h : j < 14
  · exact rec1_short (by rw [List.length_take]; omega)
  · have e : (recB s b).take j = le b.length 2 ++ (le s 8 ++ (b ++ le (ck (recHead s b)) 4)).take (j - 2) := by
      rw [recB_form, List.take_append, le_length, List.take_of_length_le (by rw [le_length]; omega)]
    have h1 : len1 ((recB s b).take j) = b.length := by rw [e]; exact len_field hl
    unfold rec1
    rw [h1, if_pos (by rw [List.length_take, recB_length]; omega)]

/-- the law's own records: numbers from s on, bodies that open with their place -/
def rr (s : Int) (b : List Int) : Nat → Nat → List R1
  | _, 0 => []
  | i, n + 1 => (s + i, (i : Int) :: b) :: rr s b (i + 1) n
theorem rr_length (s : Int) (b : List Int) (n : Nat) : ∀ i, (rr s b i n).length = n := by
  induction n with
  | zero => intro i; rfl
  | succ n ih => intro i; simp [rr, ih]
theorem rr_get (s : Int) (b : List Int) (n : Nat) : ∀ i j, j < n → (rr s b i n)[j]? = some (s + ((i + j : Nat) : Int), ((i + j : Nat) : Int) :: b) := by
  induction n with
  | zero => intro i j h; omega
  | succ n ih =>
    intro i j h
    cases j with
    | zero => simp [rr]
    | succ j => rw [rr, List.getElem?_cons_succ, ih (i + 1) j (by omega), show i + 1 + j = i + (j + 1) by omega]
theorem rr_snoc (s : Int) (b : List Int) (n : Nat) : ∀ i, rr s b i (n + 1) = rr s b i n ++ [(s + ((i + n : Nat) : Int), ((i + n : Nat) : Int) :: b)] := by
  induction n with
  | zero => intro i; simp [rr]
  | succ n ih => intro i; rw [rr, ih (i + 1), rr, List.cons_append, show i + 1 + n = i + (n + 1) by omega]
theorem rr_tk (s : Int) (b : List Int) (n : Nat) : ∀ i, tkR (rr s b i n) = n * (15 + b.length) := by
  induction n with
  | zero => intro i; simp [rr, tkR]
  | succ n ih => intro i; simp only [rr, tkR, ih, List.length_cons]; rw [Nat.succ_mul]; omega
theorem fol_rr (s : Int) (b tail : List Int) (hb : b.length + 1 ≤ 1000) (s0 : 0 ≤ s) (ht : rec1 tail = none) (n : Nat) : ∀ (i : Nat) (t : Option Int) (f : Nat), n < f → (t = none ∨ t = some (s + i - 1)) → s + i + n ≤ 2000000000000 → fol t (yl f (enc (rr s b i n) ++ tail)) = rr s b i n := by
  induction n with
  | zero =>
    intro i t f hf _ _
    simp only [rr, enc, List.nil_append]
    rw [yl_none ht]
    cases t <;> rfl
  | succ n ih =>
    intro i t f hf h hs
    obtain ⟨f, rfl⟩ : ∃ f', f = f' + 1 := ⟨f - 1, by omega⟩
    have h1 : rec1 (enc (rr s b i (n + 1)) ++ tail) = some (s + i, (i : Int) :: b) := by
      rw [rr, enc, List.append_assoc]
      exact rec1_recB (by simp; omega) (by omega) (by omega)
    rw [yl_some h1]
    have ho : okN t (s + i) = true := by
      rcases h with rfl | rfl
      · rfl
      · simp [okN]; omega
    have h2 : (enc (rr s b i (n + 1)) ++ tail).drop (((i : Int) :: b).length + 14) = enc (rr s b (i + 1) n) ++ tail := by
      rw [rr, enc, List.append_assoc, List.drop_left' (by rw [recB_length])]
    simp only [fol, ho, if_true]
    rw [h2, ih (i + 1) _ f (by omega) (.inr (by congr 1; push_cast; omega)) (by push_cast; omega), rr]
theorem rl_rr (s : Int) (b tail : List Int) (hb : b.length + 1 ≤ 1000) (s0 : 0 ≤ s) (n : Nat) (hs : s + n ≤ 2000000000000) (ht : rec1 tail = none) : rl (enc (rr s b 0 n) ++ tail) = rr s b 0 n := by
  refine fol_rr s b tail hb s0 ht n 0 none _ ?_ (.inl rfl) (by simp; omega)
  have := len_le (rr s b 0 n)
  rw [rr_length] at this
  rw [List.length_append, enc_length]
  omega
theorem fol_enc (f : Nat) : ∀ (l : List Int) (t : Option Int), Byt l → enc (fol t (yl f l)) = l.take (tkR (fol t (yl f l))) := by
  induction f with
  | zero => intro l t _; simp [yl, fol, tkR, enc]
  | succ f ih =>
    intro l t hB
    cases h : rec1 l with
    | none => rw [yl_none h]; simp [fol, tkR, enc]
    | some r =>
      obtain ⟨s, b⟩ := r
      obtain ⟨h1, h2, h3, h4, h5, h6⟩ := rec1_some hB h
      rw [yl_some h]
      by_cases ho : okN t s = true
      · have i1 := ih (l.drop (b.length + 14)) (some s) (hB.drop _)
        simp only [fol, ho, if_true, enc, tkR]
        rw [i1, h6, sub, List.drop_zero, Nat.add_comm 14 b.length, ← List.take_add]
      · simp [fol, ho, tkR, enc]
theorem enc_rl {l : List Int} (hB : Byt l) : enc (rl l) = l.take (tkR (rl l)) := fol_enc _ l none hB

theorem xx_range {a : Int} (h0 : 0 ≤ a) (h1 : a < 256) (b : Int) : 0 ≤ XX a b ∧ XX a b < 256 := by
  obtain ⟨x, rfl⟩ : ∃ x : Nat, a = (x : Int) := ⟨a.toNat, by omega⟩
  obtain ⟨y, ey⟩ : ∃ y : Nat, (2 ^ b.toNat % 256 : Int) = (y : Int) := ⟨(2 ^ b.toNat % 256 : Int).toNat, by have := Int.emod_nonneg (2 ^ b.toNat) (show (256 : Int) ≠ 0 by decide); omega⟩
  have hy : y < 256 := by have := Int.emod_lt_of_pos (2 ^ b.toNat) (show (0 : Int) < 256 by decide); omega
  rw [XX, ey, xorK .u8 8 (by decide) (fun n hn hn2 => by rw [IntKind.wrap_u8]; omega) x y (by omega) (by omega)]
  have := Nat.xor_lt_two_pow (x := x) (y := y) (n := 8) (by omega) (by omega)
  omega
theorem dEnd_ok {O : List Int} {kf v : Int} (h2 : Byt O) (h3 : O.length ≤ 6252) (hk : 0 ≤ kf ∧ kf < 256) : Byt (dEnd O kf v) ∧ (dEnd O kf v).length ≤ 10000 := by
  unfold dEnd
  split
  · exact ⟨fun z hz => h2 z (List.mem_of_mem_take hz), by rw [List.length_take]; omega⟩
  · split
    · refine ⟨fun z hz => ?_, by rw [List.length_set]; omega⟩
      rcases List.mem_or_eq_of_mem_set hz with h | rfl
      · exact h2 z h
      · have := getD_range O h2 (v.toNat % O.length)
        exact xx_range this.1 this.2 _
    · split
      · refine ⟨h2.append (fun z hz => by have := List.eq_of_mem_replicate hz; omega), by rw [List.length_append, List.length_replicate]; omega⟩
      · exact ⟨h2, by omega⟩
theorem dLog_ok {cd : List Int} (hb : Byt cd) : Byt (dLog cd) ∧ (dLog cd).length ≤ 10000 := by
  obtain ⟨-, h2, h3⟩ := dlAt_inv hb (cd.getD 0 0 % 7).toNat
  have hn : (cd.getD 0 0 % 7).toNat ≤ 6 := by omega
  exact dEnd_ok h2 (by omega) (getD_range cd hb _)

set_option maxHeartbeats 800000 in
theorem take_any (p : Option Addr) (c n k : Nat) (hk : k ≤ 1) (l : List Int) (en : Hid (l.length = n)) (w : World) (h : Rd w (.slice p n c) l) (hb : Byt l) (hl : n ≤ 1048576) :
    Calls Try.prog 31 #[.slice p n c, .int .i64 k] w fun e w' => ∃ y : Int, (0 ≤ y ∧ y < 256) ∧ e = .returned (.int .i64 y) ∧ Below w.heap.size w w' := by
  by_cases h0 : n = 0
  · subst h0
    go_enter Try.func31, Try.ntmps31
    go_wp2
    go_ret
    exact ⟨0, ⟨by omega, by omega⟩, rfl, Below.refl _ _⟩
  · obtain ⟨b, o, rfl, e, hc⟩ := h.at (by rw [unhide en]; omega)
    obtain ⟨J, eJ⟩ : ∃ J : Nat, (k : Int) % (n : Int) = (J : Int) := ⟨k % n, by simp⟩
    have hJ : J < n := by have := Int.emod_lt_of_pos (k : Int) (show (0 : Int) < n by omega); omega
    have mx := hc J (by omega)
    have hy := getD_range l hb J
    obtain ⟨y, ey⟩ : ∃ y, l.getD J 0 = y := ⟨_, rfl⟩
    rw [ey] at mx hy
    have hne : ((n : Int) == 0) = false := beq_eq_false_iff_ne.2 (by omega)
    have hpi : (J : Int) < (n : Int) := by omega
    clear hc ey h e
    go_enter Try.func31, Try.ntmps31
    go_wp2
    go_ret
    exact ⟨y, hy, rfl, by first | exact Below.refl _ _ | exact below_drewN (Below.refl _ _) _⟩
end Go.Proofs.Ytipeflnkcjkoeaa
