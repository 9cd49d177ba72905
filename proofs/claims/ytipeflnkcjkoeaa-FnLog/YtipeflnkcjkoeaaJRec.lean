import Derived.Test.YtipeflnkcjkoeaaJSm
import Derived.Test.YtipeflnkcjkoeaaJB
namespace Go.Proofs.Ytipeflnkcjkoeaa
open Go.ChangeShapes Go.WideShapes Go.ChangeAt Go.RowKit
set_option linter.unusedVariables false
set_option linter.unusedSimpArgs false

set_option maxHeartbeats 400000 in
theorem szRecord_any (s : Int) (p : Option Addr) (n cap : Nat) (left : Int) (w : World) (hn : n ≤ maxLen) (h0 : 0 ≤ left) (h1 : left ≤ 1048576) :
    Calls Try.prog 19 #[recV s (.slice p n cap), .int .i64 left] w fun e w' => e = .returned (.int .i64 (szLeft n left)) ∧ Below w.heap.size w w' := by
  have hc : -1 ≤ szLeft n left ∧ szLeft n left ≤ 1048576 := by unfold szLeft; split <;> omega
  by_cases h : szLeft n left < 0
  · have e : szLeft n left = -1 := by unfold szLeft at h ⊢; split <;> simp_all <;> omega
    go_enter Try.func19, Try.ntmps19
    go_wp2_with fail
    refine (szByteS_any p n cap left _ hn h0 h1).mono ?_
    rintro e w' ⟨rfl, rfl⟩
    go_wp2
    go_ret
    exact ⟨by rw [e]; rfl, (Below.refl _ _).alloc (Nat.le_refl _) _⟩
  · go_enter Try.func19, Try.ntmps19
    go_wp2_with fail
    refine (szByteS_any p n cap left _ hn h0 h1).mono ?_
    rintro e w' ⟨rfl, rfl⟩
    go_wp2
    go_ret
    exact ⟨rfl, (Below.refl _ _).alloc (Nat.le_refl _) _⟩

set_option maxHeartbeats 400000 in
theorem toRecord_any (s : Int) (p : Option Addr) (c : Nat) (l : List Int) (w : World) (h : Rd w (.slice p l.length c) l) (hl : l.length ≤ 1048576) :
    Calls Try.prog 21 #[recV s (.slice p l.length c)] w fun e w' => ∃ p' c', e = .returned (recV s (.slice p' l.length c')) ∧ Own w.heap.size w' (.slice p' l.length c') l ∧ Below w.heap.size w w' := by
  have hR := fun (w' : World) (hb : Below w.heap.size w w') => h.below hb
  go_enter Try.func21, Try.ntmps21
  go_wp2_with fail
  refine (toByteS_any _ l _ (hR _ (by repeat (first | exact Below.refl _ _ | refine Below.setCell ?_ (by simp <;> omega) _ | refine Below.alloc ?_ (by simp <;> omega) _))) hl).mono ?_
  rintro e w1 ⟨p', c', rfl, ho, hb1⟩
  obtain ⟨hc1, hf1⟩ := bcell hb1
  clear hR
  go_wp2
  have hb2 : Below w.heap.size w w1 := by
    refine Below.trans ?_ (hb1.mono (by simp; omega))
    repeat (first | exact Below.refl _ _ | refine Below.setCell ?_ (by simp <;> omega) _ | refine Below.alloc ?_ (by simp <;> omega) _)
  have ho2 : Own (w.heap.size + 3) w1 (.slice p' l.length c') l := by simpa using ho
  refine bodyPost_ret (v := recV s (.slice p' l.length c')) (by simp [results, Try.results21, go_sem, hc1]) rfl ⟨p', c', rfl, Own.mono (B := w.heap.size + 3) ?_ (by omega), ?_⟩
  · repeat (refine ownsRow_setCell_below ?_ (by simp) _)
    exact ho2
  · repeat (refine Below.setCell ?_ (by simp <;> omega) _)
    exact hb2

set_option maxHeartbeats 400000 in
theorem eqRecord_any (s t : Int) (p q : Option Addr) (c d : Nat) (l m : List Int) (n k : Nat) (w : World) (h1 : Rd w (.slice p n c) l) (h2 : Rd w (.slice q k d) m) (hn : l.length ≤ 2097152) (hm : m.length ≤ 2097152) :
    Calls Try.prog 23 #[recV s (.slice p n c), recV t (.slice q k d)] w fun e w' => e = .returned (.bool (decide (s = t) && decide (l = m))) ∧ Below w.heap.size w w' := by
  have hR1 := hide fun (w' : World) (hb : Below w.heap.size w w') => h1.below hb
  have hR2 := hide fun (w' : World) (hb : Below w.heap.size w w') => h2.below hb
  clear h1 h2
  by_cases hs : s = t
  · have hne : (s != t) = false := by simp [hs]
    have hd : decide (s = t) = true := by simp [hs]
    rw [hd, Bool.true_and]
    clear hs hd
    by_cases hlm : l = m
    · have hd : decide (l = m) = true := by simp [hlm]
      rw [hd]
      go_enter Try.func23, Try.ntmps23
      go_wp2_with fail
      refine (eqByteS_any _ _ l m _ (unhide hR1 _ (by exact ((Below.refl _ _).alloc (Nat.le_refl _) _).alloc (by simp) _)) (unhide hR2 _ (by exact ((Below.refl _ _).alloc (Nat.le_refl _) _).alloc (by simp) _)) hn hm).mono ?_
      rintro e w1 ⟨rfl, hb1⟩
      have b1 : Below w.heap.size w w1 := (((Below.refl _ _).alloc (Nat.le_refl _) _).alloc (by simp) _).trans (hb1.mono (by simp; omega))
      rw [hd]
      clear hb1
      go_wp2
      go_ret
      exact ⟨rfl, b1⟩
    · have hd : decide (l = m) = false := by simp [hlm]
      rw [hd]
      go_enter Try.func23, Try.ntmps23
      go_wp2_with fail
      refine (eqByteS_any _ _ l m _ (unhide hR1 _ (by exact ((Below.refl _ _).alloc (Nat.le_refl _) _).alloc (by simp) _)) (unhide hR2 _ (by exact ((Below.refl _ _).alloc (Nat.le_refl _) _).alloc (by simp) _)) hn hm).mono ?_
      rintro e w1 ⟨rfl, hb1⟩
      have b1 : Below w.heap.size w w1 := (((Below.refl _ _).alloc (Nat.le_refl _) _).alloc (by simp) _).trans (hb1.mono (by simp; omega))
      rw [hd]
      clear hb1
      go_wp2
      go_ret
      exact ⟨rfl, b1⟩
  · have hne : (s != t) = true := by simp [hs]
    have hd : decide (s = t) = false := by simp [hs]
    rw [hd, Bool.false_and]
    clear hs hd
    go_enter Try.func23, Try.ntmps23
    go_wp2
    go_ret
    exact ⟨rfl, ((Below.refl _ _).alloc (Nat.le_refl _) _).alloc (by simp) _⟩

set_option maxHeartbeats 400000 in
theorem markRecord_any (B : Nat) (s : Int) (p : Option Addr) (c : Nat) (l : List Int) (k : Int) (w : World) (h : Own B w (.slice p l.length c) l) (hl : l.length ≤ 1048576) (k0 : 0 ≤ k) (k1 : k ≤ 100000000) :
    Calls Try.prog 24 #[recV s (.slice p l.length c), .int .i64 k] w fun e w' => e = .returned (.int .i64 (k + l.length)) ∧ Own B w' (.slice p l.length c) (marks k l.length) ∧ Kept [.slice p l.length c] w w' := by
  have hR := fun (w' : World) (hb : Below w.heap.size w w') => Own.below h hb
  clear h
  go_enter Try.func24, Try.ntmps24
  go_wp2_with fail
  refine (markByteS_any B p c l k _ (hR _ (by exact (Below.refl _ _).alloc (Nat.le_refl _) _)) (by omega) k0 k1).mono ?_
  rintro e w1 ⟨rfl, ho, hg⟩
  have hk : Kept [.slice p l.length c] w w1 := (Kept.of_below ((Below.refl _ _).alloc (Nat.le_refl _) _)).trans (Kept.of_grown hg (by simp))
  clear hR hg
  go_wp2
  go_ret
  exact ⟨rfl, ho, hk⟩

theorem toRecord_n (s : Int) (p : Option Addr) (c n : Nat) (l : List Int) (en : Hid (l.length = n)) (w : World) (h : Rd w (.slice p n c) l) (hl : n ≤ 1048576) :
    Calls Try.prog 21 #[recV s (.slice p n c)] w fun e w' => ∃ p' c', e = .returned (recV s (.slice p' n c')) ∧ Own w.heap.size w' (.slice p' n c') l ∧ Below w.heap.size w w' := by
  have e := unhide en
  subst e
  exact toRecord_any s p c l w h hl
theorem eqRecord_n (s : Int) (p q : Option Addr) (c d n : Nat) (l : List Int) (en : Hid (l.length = n)) (w : World) (h1 : Rd w (.slice p n c) l) (h2 : Rd w (.slice q n d) l) (hl : n ≤ 2097152) :
    Calls Try.prog 23 #[recV s (.slice p n c), recV s (.slice q n d)] w fun e w' => e = .returned (.bool true) ∧ Below w.heap.size w w' := by
  have e := unhide en
  subst e
  refine (eqRecord_any s s p q c d l l _ _ w h1 h2 hl hl).mono ?_
  rintro e w' ⟨rfl, hb⟩
  exact ⟨by simp, hb⟩
theorem markRecord_n (B : Nat) (s : Int) (p : Option Addr) (c n : Nat) (l : List Int) (en : Hid (l.length = n)) (k : Int) (w : World) (h : Own B w (.slice p n c) l) (hl : n ≤ 1048576) (k0 : 0 ≤ k) (k1 : k ≤ 100000000) :
    Calls Try.prog 24 #[recV s (.slice p n c), .int .i64 k] w fun e w' => e = .returned (.int .i64 (k + n)) ∧ Own B w' (.slice p n c) (marks k n) ∧ Kept [.slice p n c] w w' := by
  have e := unhide en
  subst e
  exact markRecord_any B s p c l k w h hl k0 k1
end Go.Proofs.Ytipeflnkcjkoeaa
