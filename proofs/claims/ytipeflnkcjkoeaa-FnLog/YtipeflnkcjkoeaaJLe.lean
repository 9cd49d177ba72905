import Derived.Test.YtipeflnkcjkoeaaJCk
import Derived.Test.YtipeflnkcjkoeaaGC
namespace Go.Proofs.Ytipeflnkcjkoeaa
open Go.ChangeShapes Go.WideShapes Go.ChangeAt Go.RowKit
set_option linter.unusedVariables false
set_option linter.unusedSimpArgs false

/-- a number in n bytes, the lowest first -/
def le (v : Int) : Nat → List Int
  | 0 => []
  | n + 1 => v % 256 :: le (v / 256) n
theorem le_length (v : Int) (n : Nat) : (le v n).length = n := by induction n generalizing v with | zero => rfl | succ n ih => simp [le, ih]
theorem le_byt (v : Int) (n : Nat) : Byt (le v n) := by
  induction n generalizing v with
  | zero => intro z hz; simp [le] at hz
  | succ n ih =>
    intro z hz
    simp only [le, List.mem_cons] at hz
    rcases hz with rfl | hz
    · omega
    · exact ih _ z hz
theorem le_snoc (v : Int) (n : Nat) : le v (n + 1) = le v n ++ [v / 256 ^ n % 256] := by
  induction n generalizing v with
  | zero => simp [le]
  | succ n ih =>
    rw [le, ih, le, List.cons_append]
    rw [Int.ediv_ediv_of_nonneg (by omega), Int.pow_succ, Int.mul_comm]
theorem Byt.append {l m : List Int} (h : Byt l) (k : Byt m) : Byt (l ++ m) := fun z hz => by
  rcases List.mem_append.1 hz with a | a
  · exact h z a
  · exact k z a

set_option maxHeartbeats 400000 in
theorem little_any (n : Nat) (v : Int) (w : World) (hn : n ≤ 8) (h0 : 0 ≤ v) (h1 : v < 18446744073709551616) :
    Calls Try.prog 34 #[.int .u64 v, .int .i64 n] w fun e w' => ∃ p c, e = .returned (.slice p n c) ∧ Own w.heap.size w' (.slice p n c) (le v n) ∧ Below w.heap.size w w' := by
  induction n generalizing v w with
  | zero =>
    go_enter Try.func34, Try.ntmps34
    go_wp2
    go_ret
    exact ⟨none, 0, rfl, World.ownsRow_nil _ _ _ _, Below.refl _ _⟩
  | succ n ih =>
    have hne : (((n + 1 : Nat) : Int) == 0) = false := beq_eq_false_iff_ne.2 (by omega)
    go_enter Try.func34, Try.ntmps34
    go_wp2_with fail
    refine (ih (v / 256) _ (by omega) (by omega) (by omega)).mono ?_
    rintro e w1 ⟨p1, c1, rfl, o1, hb1⟩
    have b1 : Below w.heap.size w w1 := Below.step ((Below.refl _ _).alloc (Nat.le_refl _) _) hb1
    have o2 : Own w.heap.size w1 (.slice (some ⟨w.heap.size, 0, none⟩) 1 1) [v % 256] := Own.below (Own.one w (v % 256)) hb1
    have r1 := o1.rd
    have hz := b1.size
    clear o1 hb1
    go_wp2_with (at_builtin; refine wpList_append_rdn rfl _ _ rfl w.heap.size (.slice (some ⟨w.heap.size, 0, none⟩) 1 1) [v % 256] (le (v / 256) n) (le v (n + 1)) (by show _ = _; rfl) p1 c1 n (by show _ = _; exact le_length _ _) rfl rfl o2 r1 (by rw [le_length]; simp; omega) hz ?_)
    intro p' c' w2 ho hg
    have b2 := below_grown b1 hg o2 (Nat.le_refl _) hz
    rw [le_length] at ho ⊢
    clear b1 hg o2 r1
    go_wp2
    go_ret
    exact ⟨p', c', rfl, ho, b2⟩

set_option maxHeartbeats 400000 in
theorem lowFirst_any (n : Nat) (v : Int) (w : World) (hn : n ≤ 8) (h0 : 0 ≤ v) (h1 : v < 18446744073709551616) :
    Calls Try.prog 36 #[.int .u64 v, .int .i64 n] w fun e w' => ∃ p c, e = .returned (.slice p n c) ∧ Own w.heap.size w' (.slice p n c) (le v n) ∧ Below w.heap.size w w' := by
  go_enter Try.func36, Try.ntmps36
  go_wp2
  go_loopw [0, 5, 7] (fun nn ov i wr => ∃ (k : Nat) (p : Option Addr) (c : Nat) (l : List Int) (u : Int), k ≤ n ∧ i = .int .i64 k ∧ nn = .int .u64 u ∧ Hid (u = v / 256 ^ k) ∧ 0 ≤ u ∧ u < 18446744073709551616 ∧ Hid (l = le v k) ∧ l.length = k ∧ ov = .slice p k c ∧ Own w.heap.size wr (.slice p k c) l ∧ Below w.heap.size w wr) (fun _ _ i _ => n - (intOf i).toNat)
  case atStart => exact ⟨0, none, 0, [], v, Nat.zero_le _, rfl, rfl, by show _ = _; simp, h0, h1, rfl, rfl, rfl, World.ownsRow_nil _ _ _ _, Below.refl _ _⟩
  case round =>
    obtain ⟨k, p, c, l, u, hk, rfl, rfl, eu, u0, u1, el, hl, rfl, ho, hbr⟩ := hrel
    by_cases hlt : k < n
    · obtain ⟨lm, elm0⟩ : ∃ lm, lm = l ++ [u % 256] := ⟨_, rfl⟩
      have hlm : lm.length = k + 1 := by simp [elm0, hl]
      have HLM := hide hlm
      have el2 : Hid (lm = le v (k + 1)) := by show _ = _; rw [elm0, unhide el, unhide eu, le_snoc]
      have eu2 : Hid (u / 256 = v / 256 ^ (k + 1)) := by show _ = _; rw [unhide eu, Int.ediv_ediv_of_nonneg (Int.pow_nonneg (by omega)), Int.pow_succ]
      have elm := hide elm0
      clear hlm el elm0 eu
      go_wp2_with (at_builtin; refine wpList_append_byte rfl _ _ rfl w.heap.size (.slice p k c) l lm (u % 256) elm wr.heap.size rfl rfl (Own.below ho ((Below.refl _ _).alloc (Nat.le_refl _) _)) (by simp) (by omega) (by have := hbr.size; simp; omega) ?_)
      intro p' c' w2 ho2 hg2
      have b2 : Below w.heap.size w w2 := (hbr.alloc hbr.size (.cells #[.int .u8 (u % 256)] 5)).grown hg2 (by have := hbr.size; simp; omega) (fun k hk => (ho.lt k hk).1)
      simp only [unhide HLM]
      have ho3 : Own w.heap.size w2 (.slice p' (k + 1) c') lm := by have h2 := ho2; simp only [unhide HLM] at h2; exact h2
      clear ho2 hg2 ho hbr hl elm
      go_wp2
      go_roundw
      case rel => exact ⟨k + 1, p', c', lm, u / 256, by omega, by go_num, by first | rfl | go_num, eu2, by omega, by omega, el2, unhide HLM, rfl, ho3, b2⟩
      case measure => simp [intOf]; omega
    · have e : k = n := by omega
      subst e
      rw [unhide el] at ho
      clear el hl eu
      go_wp2
      go_ret
      exact ⟨p, c, rfl, ho, hbr⟩

theorem cat3 (a b c : List Int) : cat [a, b, c] = a ++ b ++ c := by simp [cat]
theorem cat4 (a b c d : List Int) : cat [a, b, c, d] = a ++ b ++ c ++ d := by simp [cat]

set_option maxHeartbeats 400000 in
theorem joined_any (g : Nat) (vs : List Value) (ls : List (List Int)) (lm : List Int) (n k : Nat) (ek : Hid (k = ls.length)) (e : Hid (lm = cat ls)) (en : Hid (lm.length = n)) (w : World) (h : Parts w g vs ls) (hl : n ≤ 4194304) (hk : k ≤ 10) :
    Calls Try.prog 38 #[.slice (some ⟨g, 0, none⟩) k k] w fun e w' => ∃ p' c', e = .returned (.slice p' n c') ∧ Own w.heap.size w' (.slice p' n c') lm ∧ Below w.heap.size w w' := by
  have e1 := unhide ek
  have e2 := unhide e
  have e3 := unhide en
  subst e1 e3 e2
  go_enter Try.func38, Try.ntmps38
  go_wp2_with fail
  refine (concat_any g vs ls _ h hl (by omega)).mono ?_
  rintro e w1 ⟨p1, c1, rfl, o1, hb1⟩
  go_wp2
  go_ret
  exact ⟨p1, c1, rfl, o1, hb1⟩
end Go.Proofs.Ytipeflnkcjkoeaa
