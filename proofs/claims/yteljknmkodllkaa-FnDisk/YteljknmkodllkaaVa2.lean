import Derived.Test.YteljknmkodllkaaVa
namespace Go.Proofs.Yteljknmkodllkaa
open Go.ChangeShapes Go.WideShapes Go.ChangeAt Go.RowKit
set_option linter.unusedVariables false
set_option linter.unusedSimpArgs false

/-- three files in order -/
def dok (n0 : Nat) (s0 : Int) (n1 : Nat) (s1 : Int) (n2 : Nat) (s2 : Int) : Bool := fok n0 s0 && fok n1 s1 && fok n2 s2

set_option maxHeartbeats 800000 in
theorem specValid_any (p0 p1 p2 : Option Addr) (n0 c0 n1 c1 n2 c2 : Nat) (s0 s1 s2 : Int) (w : World) (h0 : n0 ≤ 2097152) (h1 : n1 ≤ 2097152) (h2 : n2 ≤ 2097152) :
    Calls Try.prog 11 #[diskV (.slice p0 n0 c0) s0 (.slice p1 n1 c1) s1 (.slice p2 n2 c2) s2] w fun e w' => e = .returned (.bool (dok n0 s0 n1 s1 n2 s2)) ∧ Below w.heap.size w w' := by
  cases e0 : fok n0 s0
  · rw [show dok n0 s0 n1 s1 n2 s2 = false by simp [dok, e0]]
    have E0 : Hid (fok n0 s0 = false) := e0
    clear e0
    go_enter Try.func11, Try.ntmps11
    go_wp2_with fail
    refine (l1fileOK_any p0 n0 c0 s0 _ h0).mono ?_
    rintro e w1 ⟨rfl, hb1⟩
    rw [E0.out]
    have b1 : Below w.heap.size w w1 := ((Below.refl _ _).alloc (Nat.le_refl _) _).trans (hb1.mono (by simp))
    go_wp2
    go_ret
    exact ⟨rfl, b1⟩
  · have E0 : Hid (fok n0 s0 = true) := e0
    cases e1 : fok n1 s1
    · rw [show dok n0 s0 n1 s1 n2 s2 = false by simp [dok, e1]]
      have E1 : Hid (fok n1 s1 = false) := e1
      clear e0 e1
      go_enter Try.func11, Try.ntmps11
      go_wp2_with fail
      refine (l1fileOK_any p0 n0 c0 s0 _ h0).mono ?_
      rintro e w1 ⟨rfl, hb1⟩
      rw [E0.out]
      obtain ⟨hc1, hf1⟩ := bcell hb1
      go_wp2_with fail
      refine (l1fileOK_any p1 n1 c1 s1 _ h1).mono ?_
      rintro e w2 ⟨rfl, hb2⟩
      rw [E1.out]
      replace hb2 := Below.step hb1 hb2
      have b2 : Below w.heap.size w w2 := ((Below.refl _ _).alloc (Nat.le_refl _) _).trans (hb2.mono (by simp))
      clear hc1 hf1
      go_wp2
      go_ret
      exact ⟨rfl, b2⟩
    · rw [show dok n0 s0 n1 s1 n2 s2 = fok n2 s2 by simp [dok, e0, e1]]
      have E1 : Hid (fok n1 s1 = true) := e1
      clear e0 e1
      go_enter Try.func11, Try.ntmps11
      go_wp2_with fail
      refine (l1fileOK_any p0 n0 c0 s0 _ h0).mono ?_
      rintro e w1 ⟨rfl, hb1⟩
      rw [E0.out]
      obtain ⟨hc1, hf1⟩ := bcell hb1
      go_wp2_with fail
      refine (l1fileOK_any p1 n1 c1 s1 _ h1).mono ?_
      rintro e w2 ⟨rfl, hb2⟩
      rw [E1.out]
      replace hb2 := Below.step hb1 hb2
      clear hc1 hf1
      obtain ⟨hc2, hf2⟩ := bcell hb2
      go_wp2_with fail
      refine (l1fileOK_any p2 n2 c2 s2 _ h2).mono ?_
      rintro e w3 ⟨rfl, hb3⟩
      replace hb3 := Below.step hb2 hb3
      have b3 : Below w.heap.size w w3 := ((Below.refl _ _).alloc (Nat.le_refl _) _).trans (hb3.mono (by simp))
      clear hc2 hf2
      go_wp2
      go_ret
      exact ⟨rfl, b3⟩

set_option maxHeartbeats 400000 in
theorem filesOf_any (v0 v1 v2 : Value) (s0 s1 s2 : Int) (p0 p1 p2 : Option Addr) (n0 c0 n1 c1 n2 c2 : Nat) (e0 : v0 = .slice p0 n0 c0) (e1 : v1 = .slice p1 n1 c1) (e2 : v2 = .slice p2 n2 c2) (w : World) :
    Calls Try.prog 37 #[diskV v0 s0 v1 s1 v2 s2] w fun e w' => e = .returned (diskV v0 s0 v1 s1 v2 s2) ∧ Below w.heap.size w w' := by
  subst e0 e1 e2
  go_enter Try.func37, Try.ntmps37
  go_wp2
  refine bodyPost_ret (v := diskV (.slice p0 n0 c0) s0 (.slice p1 n1 c1) s1 (.slice p2 n2 c2) s2) (by simp [results, Try.results37, go_sem]) rfl ⟨rfl, ?_⟩
  repeat (refine Below.setCell ?_ (by simp) _)
  exact ((Below.refl _ _).alloc (Nat.le_refl _) _).alloc (by simp) _

set_option maxHeartbeats 400000 in
theorem fileValid_any (p : Option Addr) (n c : Nat) (s : Int) (w : World) (hn : n ≤ 2097152) :
    Calls Try.prog 61 #[fileV (.slice p n c) s] w fun e w' => e = .returned (.bool (fok n s)) ∧ Below w.heap.size w w' := by
  by_cases a : n ≤ 200000
  · by_cases b : 0 ≤ s
    · by_cases c : s ≤ n
      · rw [fok_yes a b c]
        go_enter Try.func61, Try.ntmps61
        go_wp2
        go_ret
        exact ⟨rfl, (Below.refl _ _).alloc (Nat.le_refl _) _⟩
      · rw [fok_no (by omega)]
        go_enter Try.func61, Try.ntmps61
        go_wp2
        go_ret
        exact ⟨rfl, (Below.refl _ _).alloc (Nat.le_refl _) _⟩
    · rw [fok_no (by omega)]
      go_enter Try.func61, Try.ntmps61
      go_wp2
      go_ret
      exact ⟨rfl, (Below.refl _ _).alloc (Nat.le_refl _) _⟩
  · rw [fok_no (by omega)]
    go_enter Try.func61, Try.ntmps61
    go_wp2
    go_ret
    exact ⟨rfl, (Below.refl _ _).alloc (Nat.le_refl _) _⟩

theorem dok_no0 {n0 n1 n2 : Nat} {s0 s1 s2 : Int} (h : fok n0 s0 = false) : dok n0 s0 n1 s1 n2 s2 = false := by simp [dok, h]
theorem dok_no1 {n0 n1 n2 : Nat} {s0 s1 s2 : Int} (h : fok n1 s1 = false) : dok n0 s0 n1 s1 n2 s2 = false := by simp [dok, h]
theorem dok_no2 {n0 n1 n2 : Nat} {s0 s1 s2 : Int} (h : fok n2 s2 = false) : dok n0 s0 n1 s1 n2 s2 = false := by simp [dok, h]
theorem dok_yes {n0 n1 n2 : Nat} {s0 s1 s2 : Int} (a : fok n0 s0 = true) (b : fok n1 s1 = true) (c : fok n2 s2 = true) : dok n0 s0 n1 s1 n2 s2 = true := by simp [dok, a, b, c]

set_option maxHeartbeats 1000000 in
theorem filesValid_any (p0 p1 p2 : Option Addr) (n0 c0 n1 c1 n2 c2 : Nat) (s0 s1 s2 : Int) (w : World) (h0 : n0 ≤ 2097152) (h1 : n1 ≤ 2097152) (h2 : n2 ≤ 2097152) :
    Calls Try.prog 38 #[diskV (.slice p0 n0 c0) s0 (.slice p1 n1 c1) s1 (.slice p2 n2 c2) s2] w fun e w' => e = .returned (.bool (dok n0 s0 n1 s1 n2 s2)) ∧ Below w.heap.size w w' := by
  have i0 : ∀ w : World, (Instr.index 52 (diskV (.slice p0 n0 c0) s0 (.slice p1 n1 c1) s1 (.slice p2 n2 c2) s2) (.int .i64 0)).run Try.prog w = .ok (fileV (.slice p0 n0 c0) s0) w := fun _ => by kernel_rfl
  have i1 : ∀ w : World, (Instr.index 52 (diskV (.slice p0 n0 c0) s0 (.slice p1 n1 c1) s1 (.slice p2 n2 c2) s2) (.int .i64 1)).run Try.prog w = .ok (fileV (.slice p1 n1 c1) s1) w := fun _ => by kernel_rfl
  have i2 : ∀ w : World, (Instr.index 52 (diskV (.slice p0 n0 c0) s0 (.slice p1 n1 c1) s1 (.slice p2 n2 c2) s2) (.int .i64 2)).run Try.prog w = .ok (fileV (.slice p2 n2 c2) s2) w := fun _ => by kernel_rfl
  go_enter Try.func38, Try.ntmps38
  go_wp2
  go_loopw [6] (fun i wr => Below w.heap.size w wr ∧ (i = .int .i64 0 ∨ (i = .int .i64 1 ∧ fok n0 s0 = true) ∨ (i = .int .i64 2 ∧ fok n0 s0 = true ∧ fok n1 s1 = true) ∨ (i = .int .i64 3 ∧ fok n0 s0 = true ∧ fok n1 s1 = true ∧ fok n2 s2 = true))) (fun i _ => 3 - (intOf i).toNat)
  case atStart => exact ⟨(Below.refl _ _).alloc (Nat.le_refl _) _, .inl rfl⟩
  case round =>
    obtain ⟨hbr, rfl | ⟨rfl, f0⟩ | ⟨rfl, f0, f1⟩ | ⟨rfl, f0, f1, f2⟩⟩ := hrel
    · skip
      cases e0 : fok n0 s0
      · have E := hide (dok_no0 (n0 := n0) (n1 := n1) (n2 := n2) (s0 := s0) (s1 := s1) (s2 := s2) e0)
        have E' := hide e0
        clear e0
        go_wp2_with fail
        refine (fileValid_any p0 n0 c0 s0 _ h0).mono ?_
        rintro e w1 ⟨rfl, hb1⟩
        rw [unhide E']
        have b1 : Below w.heap.size w w1 := (hbr.alloc hbr.size _).trans (hb1.mono (by have := hbr.size; simp; omega))
        clear hb1
        go_wp2
        go_ret
        exact ⟨by rw [unhide E]; rfl, b1⟩
      · have E' := hide e0
        clear e0
        go_wp2_with fail
        refine (fileValid_any p0 n0 c0 s0 _ h0).mono ?_
        rintro e w1 ⟨rfl, hb1⟩
        rw [unhide E']
        have b1 : Below w.heap.size w w1 := (hbr.alloc hbr.size _).trans (hb1.mono (by have := hbr.size; simp; omega))
        clear hb1
        go_wp2
        go_roundw
        case rel => exact ⟨b1, .inr (.inl ⟨rfl, by trivial⟩)⟩
        case measure => simp [intOf]
    · have F0 := hide f0; clear f0
      cases e1 : fok n1 s1
      · have E := hide (dok_no1 (n0 := n0) (n1 := n1) (n2 := n2) (s0 := s0) (s1 := s1) (s2 := s2) e1)
        have E' := hide e1
        clear e1
        go_wp2_with fail
        refine (fileValid_any p1 n1 c1 s1 _ h1).mono ?_
        rintro e w1 ⟨rfl, hb1⟩
        rw [unhide E']
        have b1 : Below w.heap.size w w1 := (hbr.alloc hbr.size _).trans (hb1.mono (by have := hbr.size; simp; omega))
        clear hb1
        go_wp2
        go_ret
        exact ⟨by rw [unhide E]; rfl, b1⟩
      · have E' := hide e1
        clear e1
        go_wp2_with fail
        refine (fileValid_any p1 n1 c1 s1 _ h1).mono ?_
        rintro e w1 ⟨rfl, hb1⟩
        rw [unhide E']
        have b1 : Below w.heap.size w w1 := (hbr.alloc hbr.size _).trans (hb1.mono (by have := hbr.size; simp; omega))
        clear hb1
        go_wp2
        go_roundw
        case rel => exact ⟨b1, .inr (.inr (.inl ⟨rfl, unhide F0, by trivial⟩))⟩
        case measure => simp [intOf]
    · have F0 := hide f0; have F1 := hide f1; clear f0 f1
      cases e2 : fok n2 s2
      · have E := hide (dok_no2 (n0 := n0) (n1 := n1) (n2 := n2) (s0 := s0) (s1 := s1) (s2 := s2) e2)
        have E' := hide e2
        clear e2
        go_wp2_with fail
        refine (fileValid_any p2 n2 c2 s2 _ h2).mono ?_
        rintro e w1 ⟨rfl, hb1⟩
        rw [unhide E']
        have b1 : Below w.heap.size w w1 := (hbr.alloc hbr.size _).trans (hb1.mono (by have := hbr.size; simp; omega))
        clear hb1
        go_wp2
        go_ret
        exact ⟨by rw [unhide E]; rfl, b1⟩
      · have E' := hide e2
        clear e2
        go_wp2_with fail
        refine (fileValid_any p2 n2 c2 s2 _ h2).mono ?_
        rintro e w1 ⟨rfl, hb1⟩
        rw [unhide E']
        have b1 : Below w.heap.size w w1 := (hbr.alloc hbr.size _).trans (hb1.mono (by have := hbr.size; simp; omega))
        clear hb1
        go_wp2
        go_roundw
        case rel => exact ⟨b1, .inr (.inr (.inr ⟨rfl, unhide F0, unhide F1, by trivial⟩))⟩
        case measure => simp [intOf]
    · have E := hide (dok_yes f0 f1 f2)
      clear f0 f1 f2
      go_wp2
      go_ret
      exact ⟨by rw [unhide E]; rfl, hbr⟩

set_option maxHeartbeats 400000 in
theorem implValid_any (p0 p1 p2 : Option Addr) (n0 c0 n1 c1 n2 c2 : Nat) (s0 s1 s2 : Int) (w : World) (h0 : n0 ≤ 2097152) (h1 : n1 ≤ 2097152) (h2 : n2 ≤ 2097152) :
    Calls Try.prog 13 #[diskV (.slice p0 n0 c0) s0 (.slice p1 n1 c1) s1 (.slice p2 n2 c2) s2] w fun e w' => e = .returned (.bool (dok n0 s0 n1 s1 n2 s2)) ∧ Below w.heap.size w w' := by
  go_enter Try.func13, Try.ntmps13
  go_wp2_with fail
  refine (filesOf_any _ _ _ s0 s1 s2 p0 p1 p2 n0 c0 n1 c1 n2 c2 rfl rfl rfl _).mono ?_
  rintro e w1 ⟨rfl, hb1⟩
  have b1 : Below w.heap.size w w1 := ((Below.refl _ _).alloc (Nat.le_refl _) _).trans (hb1.mono (by simp))
  clear hb1
  go_wp2_with fail
  refine (filesValid_any p0 p1 p2 n0 c0 n1 c1 n2 c2 s0 s1 s2 _ h0 h1 h2).mono ?_
  rintro e w2 ⟨rfl, hb2⟩
  have b2 := Below.step b1 hb2
  go_wp2
  go_ret
  exact ⟨rfl, b2⟩
end Go.Proofs.Yteljknmkodllkaa
