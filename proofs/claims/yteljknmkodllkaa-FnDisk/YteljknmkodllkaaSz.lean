import Derived.Test.YteljknmkodllkaaRows
import Derived.WalkKit
import Derived.ProofKit
import Derived.OpenShut
import Derived.WalkSpells
import Derived.WalkLawsBesides
import Derived.BigQuiet
import Derived.Deep.QuietTactic
namespace Go.Proofs.Yteljknmkodllkaa
open Go.ChangeShapes Go.WideShapes Go.ChangeAt Go.RowKit
set_option linter.unusedVariables false
set_option linter.unusedSimpArgs false

theorem hide {p : Prop} (h : p) : Hid p := h
theorem unhide {p : Prop} (h : Hid p) : p := h

/-- what is left of a budget behind n values; below zero: -1 -/
def szLeft (n : Nat) (left : Int) : Int := if left - n < 0 then -1 else left - n

set_option maxHeartbeats 400000 in
theorem szByteS_any (p : Option Addr) (n cap : Nat) (left : Int) (w : World) (hn : n ≤ maxLen) (h0 : 0 ≤ left) (h1 : left ≤ 1048576) :
    Calls Try.prog 60 #[.slice p n cap, .int .i64 left] w fun e w' => e = .returned (.int .i64 (szLeft n left)) ∧ w' = w := by
  unfold maxLen at hn
  by_cases h : left - n < 0
  · have e : szLeft n left = -1 := by unfold szLeft; rw [if_pos h]
    rw [e]
    go_enter Try.func60, Try.ntmps60
    go_wp2
    go_ret
    exact ⟨rfl, rfl⟩
  · have e : szLeft n left = left - n := by unfold szLeft; rw [if_neg h]
    rw [e]
    go_enter Try.func60, Try.ntmps60
    go_wp2
    go_ret
    exact ⟨rfl, rfl⟩
/-- a file, a disk, as values -/
abbrev fileV (v : Value) (n : Int) : Value := .agg #[v, .int .i64 n]
abbrev diskV (v0 : Value) (n0 : Int) (v1 : Value) (n1 : Int) (v2 : Value) (n2 : Int) : Value := .agg #[v0, .int .i64 n0, v1, .int .i64 n1, v2, .int .i64 n2]

theorem bcell {W w1 : World} (hb : Below W.heap.size W w1) : (∀ b o, b < W.heap.size → w1.cell? ⟨b, o, none⟩ = W.cell? ⟨b, o, none⟩) ∧ (∀ b o, b < W.heap.size → w1.frozen? ⟨b, o, none⟩ = W.frozen? ⟨b, o, none⟩) :=
  ⟨fun b o h => hb.cell (p := ⟨b, o, none⟩) h, fun b o h => hb.frozen (p := ⟨b, o, none⟩) h⟩

set_option maxHeartbeats 400000 in
theorem szFile_any (p : Option Addr) (n cap : Nat) (s left : Int) (w : World) (hn : n ≤ maxLen) (h0 : 0 ≤ left) (h1 : left ≤ 1048576) :
    Calls Try.prog 34 #[fileV (.slice p n cap) s, .int .i64 left] w fun e w' => e = .returned (.int .i64 (szLeft n left)) ∧ Below w.heap.size w w' := by
  have hc : -1 ≤ szLeft n left ∧ szLeft n left ≤ 1048576 := by unfold szLeft; split <;> omega
  by_cases h : szLeft n left < 0
  · have e : szLeft n left = -1 := by unfold szLeft at h ⊢; split <;> simp_all <;> omega
    go_enter Try.func34, Try.ntmps34
    go_wp2_with fail
    refine (szByteS_any p n cap left _ hn h0 h1).mono ?_
    rintro e w' ⟨rfl, rfl⟩
    go_wp2
    go_ret
    exact ⟨by rw [e]; rfl, (Below.refl _ _).alloc (Nat.le_refl _) _⟩
  · go_enter Try.func34, Try.ntmps34
    go_wp2_with fail
    refine (szByteS_any p n cap left _ hn h0 h1).mono ?_
    rintro e w' ⟨rfl, rfl⟩
    go_wp2
    go_ret
    exact ⟨rfl, (Below.refl _ _).alloc (Nat.le_refl _) _⟩

theorem szLeft_yes {n : Nat} {left : Int} (h : (n : Int) ≤ left) : szLeft n left = left - n := by unfold szLeft; rw [if_neg (by omega)]
theorem szLeft_no {n : Nat} {left : Int} (h : left < n) : szLeft n left = -1 := by unfold szLeft; rw [if_pos (by omega)]

/-- two calls behind one another: what lay below the first still reads as it did -/
theorem Below.step {W w1 w2 : World} (h : Below W.heap.size W w1) (k : Below w1.heap.size w1 w2) : Below W.heap.size W w2 := h.trans (k.mono h.size)

set_option maxHeartbeats 800000 in
theorem szDisk_yes (p0 p1 p2 : Option Addr) (n0 c0 n1 c1 n2 c2 : Nat) (s0 s1 s2 : Int) (w : World) (hs : n0 + n1 + n2 ≤ 1048576) :
    Calls Try.prog 10 #[diskV (.slice p0 n0 c0) s0 (.slice p1 n1 c1) s1 (.slice p2 n2 c2) s2, .int .i64 1048576] w fun e w' => e = .returned (.int .i64 (1048576 - n0 - n1 - n2)) ∧ Below w.heap.size w w' := by
  have m0 : n0 ≤ maxLen := by unfold maxLen; omega
  have m1 : n1 ≤ maxLen := by unfold maxLen; omega
  have m2 : n2 ≤ maxLen := by unfold maxLen; omega
  go_enter Try.func10, Try.ntmps10
  go_wp2_with fail
  refine (szFile_any p0 n0 c0 s0 _ _ m0 (by omega) (by omega)).mono ?_
  rintro e w1 ⟨rfl, hb1⟩
  rw [szLeft_yes (by omega)]
  obtain ⟨hc1, hf1⟩ := bcell hb1
  go_wp2_with fail
  refine (szFile_any p1 n1 c1 s1 _ _ m1 (by omega) (by omega)).mono ?_
  rintro e w2 ⟨rfl, hb2⟩
  replace hb2 := Below.step hb1 hb2
  clear hc1 hf1
  rw [szLeft_yes (by omega)]
  obtain ⟨hc2, hf2⟩ := bcell hb2
  go_wp2_with fail
  refine (szFile_any p2 n2 c2 s2 _ _ m2 (by omega) (by omega)).mono ?_
  rintro e w3 ⟨rfl, hb3⟩
  replace hb3 := Below.step hb2 hb3
  rw [szLeft_yes (by omega)]
  go_wp2
  go_ret
  exact ⟨rfl, ((Below.refl _ _).alloc (Nat.le_refl _) _).trans (hb3.mono (by simp))⟩

set_option maxHeartbeats 800000 in
theorem szDisk_no (p0 p1 p2 : Option Addr) (n0 c0 n1 c1 n2 c2 : Nat) (s0 s1 s2 : Int) (w : World) (m0 : n0 ≤ maxLen) (m1 : n1 ≤ maxLen) (m2 : n2 ≤ maxLen) (hs : 1048576 < n0 + n1 + n2) :
    Calls Try.prog 10 #[diskV (.slice p0 n0 c0) s0 (.slice p1 n1 c1) s1 (.slice p2 n2 c2) s2, .int .i64 1048576] w fun e w' => e = .returned (.int .i64 (-1)) ∧ Below w.heap.size w w' := by
  by_cases h0 : n0 ≤ 1048576
  · by_cases h1 : n0 + n1 ≤ 1048576
    · go_enter Try.func10, Try.ntmps10
      go_wp2_with fail
      refine (szFile_any p0 n0 c0 s0 _ _ m0 (by omega) (by omega)).mono ?_
      rintro e w1 ⟨rfl, hb1⟩
      rw [szLeft_yes (by omega)]
      obtain ⟨hc1, hf1⟩ := bcell hb1
      go_wp2_with fail
      refine (szFile_any p1 n1 c1 s1 _ _ m1 (by omega) (by omega)).mono ?_
      rintro e w2 ⟨rfl, hb2⟩
      replace hb2 := Below.step hb1 hb2
      clear hc1 hf1
      rw [szLeft_yes (by omega)]
      obtain ⟨hc2, hf2⟩ := bcell hb2
      go_wp2_with fail
      refine (szFile_any p2 n2 c2 s2 _ _ m2 (by omega) (by omega)).mono ?_
      rintro e w3 ⟨rfl, hb3⟩
      replace hb3 := Below.step hb2 hb3
      rw [szLeft_no (by omega)]
      go_wp2
      go_ret
      exact ⟨rfl, ((Below.refl _ _).alloc (Nat.le_refl _) _).trans (hb3.mono (by simp))⟩
    · go_enter Try.func10, Try.ntmps10
      go_wp2_with fail
      refine (szFile_any p0 n0 c0 s0 _ _ m0 (by omega) (by omega)).mono ?_
      rintro e w1 ⟨rfl, hb1⟩
      rw [szLeft_yes (by omega)]
      obtain ⟨hc1, hf1⟩ := bcell hb1
      go_wp2_with fail
      refine (szFile_any p1 n1 c1 s1 _ _ m1 (by omega) (by omega)).mono ?_
      rintro e w2 ⟨rfl, hb2⟩
      replace hb2 := Below.step hb1 hb2
      clear hc1 hf1
      rw [szLeft_no (by omega)]
      go_wp2
      go_ret
      exact ⟨rfl, ((Below.refl _ _).alloc (Nat.le_refl _) _).trans (hb2.mono (by simp))⟩
  · go_enter Try.func10, Try.ntmps10
    go_wp2_with fail
    refine (szFile_any p0 n0 c0 s0 _ _ m0 (by omega) (by omega)).mono ?_
    rintro e w1 ⟨rfl, hb1⟩
    rw [szLeft_no (by omega)]
    go_wp2
    go_ret
    exact ⟨rfl, ((Below.refl _ _).alloc (Nat.le_refl _) _).trans (hb1.mono (by simp))⟩
end Go.Proofs.Yteljknmkodllkaa
