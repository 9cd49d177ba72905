import Derived.Test.YtekooebndehokaaDoorOPt
namespace Go.Proofs.YtekooebndehokaaDoor
open Go.ChangeShapes Go.WideShapes Go.ChangeAt Go.RowKit
set_option linter.unusedVariables false
set_option linter.unusedSimpArgs false
set_option maxRecDepth 100000

/-- does a request fit the row of its kind? -/
def fmF (se pa : Bool) (lo hi vs : Int) (sq : Bool) (s f : Int) (np nv : Nat) (e g : Int) : Bool :=
  (se || s == 0) && ((pa || np == 0) && (decide (lo ≤ f) && (decide (f ≤ hi) && (decide ((nv : Int) ≤ vs) && (sq || (e == 0 && g == 0))))))

theorem l3hasSession_1 (w : World) : Calls Tryd.prog 62 #[.int .i64 1] w fun e w' => e = .returned (.bool false) ∧ w' = w := by
  go_enter Tryd.func62, Tryd.ntmps62
  go_wp2
  go_ret
  exact ⟨rfl, rfl⟩

theorem l3hasPath_1 (w : World) : Calls Tryd.prog 63 #[.int .i64 1] w fun e w' => e = .returned (.bool false) ∧ w' = w := by
  go_enter Tryd.func63, Tryd.ntmps63
  go_wp2
  go_ret
  exact ⟨rfl, rfl⟩

theorem l3journaled_1 (w : World) : Calls Tryd.prog 32 #[.int .i64 1] w fun e w' => e = .returned (.bool true) ∧ w' = w := by
  go_enter Tryd.func32, Tryd.ntmps32
  go_wp2
  go_ret
  exact ⟨rfl, rfl⟩

theorem l3hasSession_2 (w : World) : Calls Tryd.prog 62 #[.int .i64 2] w fun e w' => e = .returned (.bool true) ∧ w' = w := by
  go_enter Tryd.func62, Tryd.ntmps62
  go_wp2
  go_ret
  exact ⟨rfl, rfl⟩

theorem l3hasPath_2 (w : World) : Calls Tryd.prog 63 #[.int .i64 2] w fun e w' => e = .returned (.bool false) ∧ w' = w := by
  go_enter Tryd.func63, Tryd.ntmps63
  go_wp2
  go_ret
  exact ⟨rfl, rfl⟩

theorem l3journaled_2 (w : World) : Calls Tryd.prog 32 #[.int .i64 2] w fun e w' => e = .returned (.bool false) ∧ w' = w := by
  go_enter Tryd.func32, Tryd.ntmps32
  go_wp2
  go_ret
  exact ⟨rfl, rfl⟩

theorem l3hasSession_3 (w : World) : Calls Tryd.prog 62 #[.int .i64 3] w fun e w' => e = .returned (.bool true) ∧ w' = w := by
  go_enter Tryd.func62, Tryd.ntmps62
  go_wp2
  go_ret
  exact ⟨rfl, rfl⟩

theorem l3hasPath_3 (w : World) : Calls Tryd.prog 63 #[.int .i64 3] w fun e w' => e = .returned (.bool false) ∧ w' = w := by
  go_enter Tryd.func63, Tryd.ntmps63
  go_wp2
  go_ret
  exact ⟨rfl, rfl⟩

theorem l3journaled_3 (w : World) : Calls Tryd.prog 32 #[.int .i64 3] w fun e w' => e = .returned (.bool true) ∧ w' = w := by
  go_enter Tryd.func32, Tryd.ntmps32
  go_wp2
  go_ret
  exact ⟨rfl, rfl⟩

theorem l3hasSession_4 (w : World) : Calls Tryd.prog 62 #[.int .i64 4] w fun e w' => e = .returned (.bool true) ∧ w' = w := by
  go_enter Tryd.func62, Tryd.ntmps62
  go_wp2
  go_ret
  exact ⟨rfl, rfl⟩

theorem l3hasPath_4 (w : World) : Calls Tryd.prog 63 #[.int .i64 4] w fun e w' => e = .returned (.bool true) ∧ w' = w := by
  go_enter Tryd.func63, Tryd.ntmps63
  go_wp2
  go_ret
  exact ⟨rfl, rfl⟩

theorem l3journaled_4 (w : World) : Calls Tryd.prog 32 #[.int .i64 4] w fun e w' => e = .returned (.bool true) ∧ w' = w := by
  go_enter Tryd.func32, Tryd.ntmps32
  go_wp2
  go_ret
  exact ⟨rfl, rfl⟩

theorem l3hasSession_5 (w : World) : Calls Tryd.prog 62 #[.int .i64 5] w fun e w' => e = .returned (.bool true) ∧ w' = w := by
  go_enter Tryd.func62, Tryd.ntmps62
  go_wp2
  go_ret
  exact ⟨rfl, rfl⟩

theorem l3hasPath_5 (w : World) : Calls Tryd.prog 63 #[.int .i64 5] w fun e w' => e = .returned (.bool true) ∧ w' = w := by
  go_enter Tryd.func63, Tryd.ntmps63
  go_wp2
  go_ret
  exact ⟨rfl, rfl⟩

theorem l3journaled_5 (w : World) : Calls Tryd.prog 32 #[.int .i64 5] w fun e w' => e = .returned (.bool true) ∧ w' = w := by
  go_enter Tryd.func32, Tryd.ntmps32
  go_wp2
  go_ret
  exact ⟨rfl, rfl⟩

theorem l3hasSession_6 (w : World) : Calls Tryd.prog 62 #[.int .i64 6] w fun e w' => e = .returned (.bool false) ∧ w' = w := by
  go_enter Tryd.func62, Tryd.ntmps62
  go_wp2
  go_ret
  exact ⟨rfl, rfl⟩

theorem l3hasPath_6 (w : World) : Calls Tryd.prog 63 #[.int .i64 6] w fun e w' => e = .returned (.bool true) ∧ w' = w := by
  go_enter Tryd.func63, Tryd.ntmps63
  go_wp2
  go_ret
  exact ⟨rfl, rfl⟩

theorem l3journaled_6 (w : World) : Calls Tryd.prog 32 #[.int .i64 6] w fun e w' => e = .returned (.bool false) ∧ w' = w := by
  go_enter Tryd.func32, Tryd.ntmps32
  go_wp2
  go_ret
  exact ⟨rfl, rfl⟩

theorem l3hasSession_7 (w : World) : Calls Tryd.prog 62 #[.int .i64 7] w fun e w' => e = .returned (.bool true) ∧ w' = w := by
  go_enter Tryd.func62, Tryd.ntmps62
  go_wp2
  go_ret
  exact ⟨rfl, rfl⟩

theorem l3hasPath_7 (w : World) : Calls Tryd.prog 63 #[.int .i64 7] w fun e w' => e = .returned (.bool true) ∧ w' = w := by
  go_enter Tryd.func63, Tryd.ntmps63
  go_wp2
  go_ret
  exact ⟨rfl, rfl⟩

theorem l3journaled_7 (w : World) : Calls Tryd.prog 32 #[.int .i64 7] w fun e w' => e = .returned (.bool true) ∧ w' = w := by
  go_enter Tryd.func32, Tryd.ntmps32
  go_wp2
  go_ret
  exact ⟨rfl, rfl⟩

theorem l3hasSession_8 (w : World) : Calls Tryd.prog 62 #[.int .i64 8] w fun e w' => e = .returned (.bool true) ∧ w' = w := by
  go_enter Tryd.func62, Tryd.ntmps62
  go_wp2
  go_ret
  exact ⟨rfl, rfl⟩

theorem l3hasPath_8 (w : World) : Calls Tryd.prog 63 #[.int .i64 8] w fun e w' => e = .returned (.bool true) ∧ w' = w := by
  go_enter Tryd.func63, Tryd.ntmps63
  go_wp2
  go_ret
  exact ⟨rfl, rfl⟩

theorem l3journaled_8 (w : World) : Calls Tryd.prog 32 #[.int .i64 8] w fun e w' => e = .returned (.bool true) ∧ w' = w := by
  go_enter Tryd.func32, Tryd.ntmps32
  go_wp2
  go_ret
  exact ⟨rfl, rfl⟩

theorem l3hasSession_9 (w : World) : Calls Tryd.prog 62 #[.int .i64 9] w fun e w' => e = .returned (.bool true) ∧ w' = w := by
  go_enter Tryd.func62, Tryd.ntmps62
  go_wp2
  go_ret
  exact ⟨rfl, rfl⟩

theorem l3hasPath_9 (w : World) : Calls Tryd.prog 63 #[.int .i64 9] w fun e w' => e = .returned (.bool true) ∧ w' = w := by
  go_enter Tryd.func63, Tryd.ntmps63
  go_wp2
  go_ret
  exact ⟨rfl, rfl⟩

theorem l3journaled_9 (w : World) : Calls Tryd.prog 32 #[.int .i64 9] w fun e w' => e = .returned (.bool true) ∧ w' = w := by
  go_enter Tryd.func32, Tryd.ntmps32
  go_wp2
  go_ret
  exact ⟨rfl, rfl⟩

theorem l3hasSession_10 (w : World) : Calls Tryd.prog 62 #[.int .i64 10] w fun e w' => e = .returned (.bool true) ∧ w' = w := by
  go_enter Tryd.func62, Tryd.ntmps62
  go_wp2
  go_ret
  exact ⟨rfl, rfl⟩

theorem l3hasPath_10 (w : World) : Calls Tryd.prog 63 #[.int .i64 10] w fun e w' => e = .returned (.bool true) ∧ w' = w := by
  go_enter Tryd.func63, Tryd.ntmps63
  go_wp2
  go_ret
  exact ⟨rfl, rfl⟩

theorem l3journaled_10 (w : World) : Calls Tryd.prog 32 #[.int .i64 10] w fun e w' => e = .returned (.bool false) ∧ w' = w := by
  go_enter Tryd.func32, Tryd.ntmps32
  go_wp2
  go_ret
  exact ⟨rfl, rfl⟩

theorem l3hasSession_11 (w : World) : Calls Tryd.prog 62 #[.int .i64 11] w fun e w' => e = .returned (.bool true) ∧ w' = w := by
  go_enter Tryd.func62, Tryd.ntmps62
  go_wp2
  go_ret
  exact ⟨rfl, rfl⟩

theorem l3hasPath_11 (w : World) : Calls Tryd.prog 63 #[.int .i64 11] w fun e w' => e = .returned (.bool true) ∧ w' = w := by
  go_enter Tryd.func63, Tryd.ntmps63
  go_wp2
  go_ret
  exact ⟨rfl, rfl⟩

theorem l3journaled_11 (w : World) : Calls Tryd.prog 32 #[.int .i64 11] w fun e w' => e = .returned (.bool false) ∧ w' = w := by
  go_enter Tryd.func32, Tryd.ntmps32
  go_wp2
  go_ret
  exact ⟨rfl, rfl⟩

theorem l3hasSession_12 (w : World) : Calls Tryd.prog 62 #[.int .i64 12] w fun e w' => e = .returned (.bool true) ∧ w' = w := by
  go_enter Tryd.func62, Tryd.ntmps62
  go_wp2
  go_ret
  exact ⟨rfl, rfl⟩

theorem l3hasPath_12 (w : World) : Calls Tryd.prog 63 #[.int .i64 12] w fun e w' => e = .returned (.bool false) ∧ w' = w := by
  go_enter Tryd.func63, Tryd.ntmps63
  go_wp2
  go_ret
  exact ⟨rfl, rfl⟩

theorem l3journaled_12 (w : World) : Calls Tryd.prog 32 #[.int .i64 12] w fun e w' => e = .returned (.bool false) ∧ w' = w := by
  go_enter Tryd.func32, Tryd.ntmps32
  go_wp2
  go_ret
  exact ⟨rfl, rfl⟩

theorem l3hasSession_13 (w : World) : Calls Tryd.prog 62 #[.int .i64 13] w fun e w' => e = .returned (.bool false) ∧ w' = w := by
  go_enter Tryd.func62, Tryd.ntmps62
  go_wp2
  go_ret
  exact ⟨rfl, rfl⟩

theorem l3hasPath_13 (w : World) : Calls Tryd.prog 63 #[.int .i64 13] w fun e w' => e = .returned (.bool true) ∧ w' = w := by
  go_enter Tryd.func63, Tryd.ntmps63
  go_wp2
  go_ret
  exact ⟨rfl, rfl⟩

theorem l3journaled_13 (w : World) : Calls Tryd.prog 32 #[.int .i64 13] w fun e w' => e = .returned (.bool false) ∧ w' = w := by
  go_enter Tryd.func32, Tryd.ntmps32
  go_wp2
  go_ret
  exact ⟨rfl, rfl⟩

set_option maxHeartbeats 4000000 in
theorem formed_1 (s f e g : Int) (p q : Option Addr) (n m c d : Nat) (w : World) (B : Bool) (eB : Hid (fmF false false 0 0 0 false s f n m e g = B)) :
    Calls Tryd.prog 31 #[opV 1 s (.slice p n c) f (.slice q m d) e g] w fun r w' => r = .returned (.bool B) ∧ Below w.heap.size w w' := by
  by_cases hs : s = 0
  · subst hs
    by_cases hp : n = 0
    · subst hp
      by_cases he : e = 0
      · subst he
        by_cases hg : g = 0
        · subst hg
          by_cases hv : m = 0
          · subst hv
            by_cases hf0 : f = 0
            · subst hf0
              have eB' : B = true := by rw [← unhide eB]; simp [fmF]
              subst eB'
              clear eB
              go_enter Tryd.func31, Tryd.ntmps31
              go_wp2_with fail
              refine (l3hasSession_1 _).mono ?_
              rintro r w' ⟨rfl, rfl⟩
              go_wp2_with fail
              refine (l3hasPath_1 _).mono ?_
              rintro r w' ⟨rfl, rfl⟩
              go_wp2
              go_ret
              exact ⟨rfl, (Below.refl _ _).alloc (Nat.le_refl _) _⟩
            · skip
              have hfF : (decide ((0 : Int) ≤ f) && decide (f ≤ 0)) = false := by simp; omega
              have hf0' : (f == 0) = false := by simp [hf0]
              have eB' : B = false := by rw [← unhide eB]; by_cases h1 : (0 : Int) ≤ f <;> by_cases h2 : f ≤ 0 <;> first | omega | simp [fmF, h1, h2]
              subst eB'
              clear eB
              go_enter Tryd.func31, Tryd.ntmps31
              go_wp2_with fail
              refine (l3hasSession_1 _).mono ?_
              rintro r w' ⟨rfl, rfl⟩
              go_wp2_with fail
              refine (l3hasPath_1 _).mono ?_
              rintro r w' ⟨rfl, rfl⟩
              go_wp2
              go_ret
              exact ⟨rfl, (Below.refl _ _).alloc (Nat.le_refl _) _⟩
          · have hv' : ((m : Int) != 0) = true := by simp [hv]
            have hv2 : ¬ (m : Int) ≤ 0 := by omega
            have eB' : B = false := by rw [← unhide eB]; simp [fmF, hv, hv2]
            subst eB'
            clear eB
            go_enter Tryd.func31, Tryd.ntmps31
            go_wp2_with fail
            refine (l3hasSession_1 _).mono ?_
            rintro r w' ⟨rfl, rfl⟩
            go_wp2_with fail
            refine (l3hasPath_1 _).mono ?_
            rintro r w' ⟨rfl, rfl⟩
            go_wp2
            go_ret
            exact ⟨rfl, (Below.refl _ _).alloc (Nat.le_refl _) _⟩
        · have hg' : (g != 0) = true := by simp [hg]
          have eB' : B = false := by rw [← unhide eB]; simp [fmF, hg]
          subst eB'
          clear eB
          go_enter Tryd.func31, Tryd.ntmps31
          go_wp2_with fail
          refine (l3hasSession_1 _).mono ?_
          rintro r w' ⟨rfl, rfl⟩
          go_wp2_with fail
          refine (l3hasPath_1 _).mono ?_
          rintro r w' ⟨rfl, rfl⟩
          go_wp2
          go_ret
          exact ⟨rfl, (Below.refl _ _).alloc (Nat.le_refl _) _⟩
      · have he' : (e != 0) = true := by simp [he]
        have eB' : B = false := by rw [← unhide eB]; simp [fmF, he]
        subst eB'
        clear eB
        go_enter Tryd.func31, Tryd.ntmps31
        go_wp2_with fail
        refine (l3hasSession_1 _).mono ?_
        rintro r w' ⟨rfl, rfl⟩
        go_wp2_with fail
        refine (l3hasPath_1 _).mono ?_
        rintro r w' ⟨rfl, rfl⟩
        go_wp2
        go_ret
        exact ⟨rfl, (Below.refl _ _).alloc (Nat.le_refl _) _⟩
    · have hp' : ((n : Int) != 0) = true := by simp [hp]
      have eB' : B = false := by rw [← unhide eB]; simp [fmF, hp]
      subst eB'
      clear eB
      go_enter Tryd.func31, Tryd.ntmps31
      go_wp2_with fail
      refine (l3hasSession_1 _).mono ?_
      rintro r w' ⟨rfl, rfl⟩
      go_wp2_with fail
      refine (l3hasPath_1 _).mono ?_
      rintro r w' ⟨rfl, rfl⟩
      go_wp2
      go_ret
      exact ⟨rfl, (Below.refl _ _).alloc (Nat.le_refl _) _⟩
  · have hs' : (s != 0) = true := by simp [hs]
    have eB' : B = false := by rw [← unhide eB]; simp [fmF, hs]
    subst eB'
    clear eB
    go_enter Tryd.func31, Tryd.ntmps31
    go_wp2_with fail
    refine (l3hasSession_1 _).mono ?_
    rintro r w' ⟨rfl, rfl⟩
    go_wp2
    go_ret
    exact ⟨rfl, (Below.refl _ _).alloc (Nat.le_refl _) _⟩

set_option maxHeartbeats 4000000 in
theorem formed_2 (s f e g : Int) (p q : Option Addr) (n m c d : Nat) (w : World) (B : Bool) (eB : Hid (fmF true false 0 0 0 false s f n m e g = B)) :
    Calls Tryd.prog 31 #[opV 2 s (.slice p n c) f (.slice q m d) e g] w fun r w' => r = .returned (.bool B) ∧ Below w.heap.size w w' := by
  by_cases hp : n = 0
  · subst hp
    by_cases he : e = 0
    · subst he
      by_cases hg : g = 0
      · subst hg
        by_cases hv : m = 0
        · subst hv
          by_cases hf0 : f = 0
          · subst hf0
            have eB' : B = true := by rw [← unhide eB]; simp [fmF]
            subst eB'
            clear eB
            go_enter Tryd.func31, Tryd.ntmps31
            go_wp2_with fail
            refine (l3hasSession_2 _).mono ?_
            rintro r w' ⟨rfl, rfl⟩
            go_wp2_with fail
            refine (l3hasPath_2 _).mono ?_
            rintro r w' ⟨rfl, rfl⟩
            go_wp2
            go_ret
            exact ⟨rfl, (Below.refl _ _).alloc (Nat.le_refl _) _⟩
          · skip
            have hfF : (decide ((0 : Int) ≤ f) && decide (f ≤ 0)) = false := by simp; omega
            have hf0' : (f == 0) = false := by simp [hf0]
            have eB' : B = false := by rw [← unhide eB]; by_cases h1 : (0 : Int) ≤ f <;> by_cases h2 : f ≤ 0 <;> first | omega | simp [fmF, h1, h2]
            subst eB'
            clear eB
            go_enter Tryd.func31, Tryd.ntmps31
            go_wp2_with fail
            refine (l3hasSession_2 _).mono ?_
            rintro r w' ⟨rfl, rfl⟩
            go_wp2_with fail
            refine (l3hasPath_2 _).mono ?_
            rintro r w' ⟨rfl, rfl⟩
            go_wp2
            go_ret
            exact ⟨rfl, (Below.refl _ _).alloc (Nat.le_refl _) _⟩
        · have hv' : ((m : Int) != 0) = true := by simp [hv]
          have hv2 : ¬ (m : Int) ≤ 0 := by omega
          have eB' : B = false := by rw [← unhide eB]; simp [fmF, hv, hv2]
          subst eB'
          clear eB
          go_enter Tryd.func31, Tryd.ntmps31
          go_wp2_with fail
          refine (l3hasSession_2 _).mono ?_
          rintro r w' ⟨rfl, rfl⟩
          go_wp2_with fail
          refine (l3hasPath_2 _).mono ?_
          rintro r w' ⟨rfl, rfl⟩
          go_wp2
          go_ret
          exact ⟨rfl, (Below.refl _ _).alloc (Nat.le_refl _) _⟩
      · have hg' : (g != 0) = true := by simp [hg]
        have eB' : B = false := by rw [← unhide eB]; simp [fmF, hg]
        subst eB'
        clear eB
        go_enter Tryd.func31, Tryd.ntmps31
        go_wp2_with fail
        refine (l3hasSession_2 _).mono ?_
        rintro r w' ⟨rfl, rfl⟩
        go_wp2_with fail
        refine (l3hasPath_2 _).mono ?_
        rintro r w' ⟨rfl, rfl⟩
        go_wp2
        go_ret
        exact ⟨rfl, (Below.refl _ _).alloc (Nat.le_refl _) _⟩
    · have he' : (e != 0) = true := by simp [he]
      have eB' : B = false := by rw [← unhide eB]; simp [fmF, he]
      subst eB'
      clear eB
      go_enter Tryd.func31, Tryd.ntmps31
      go_wp2_with fail
      refine (l3hasSession_2 _).mono ?_
      rintro r w' ⟨rfl, rfl⟩
      go_wp2_with fail
      refine (l3hasPath_2 _).mono ?_
      rintro r w' ⟨rfl, rfl⟩
      go_wp2
      go_ret
      exact ⟨rfl, (Below.refl _ _).alloc (Nat.le_refl _) _⟩
  · have hp' : ((n : Int) != 0) = true := by simp [hp]
    have eB' : B = false := by rw [← unhide eB]; simp [fmF, hp]
    subst eB'
    clear eB
    go_enter Tryd.func31, Tryd.ntmps31
    go_wp2_with fail
    refine (l3hasSession_2 _).mono ?_
    rintro r w' ⟨rfl, rfl⟩
    go_wp2_with fail
    refine (l3hasPath_2 _).mono ?_
    rintro r w' ⟨rfl, rfl⟩
    go_wp2
    go_ret
    exact ⟨rfl, (Below.refl _ _).alloc (Nat.le_refl _) _⟩

set_option maxHeartbeats 4000000 in
theorem formed_3 (s f e g : Int) (p q : Option Addr) (n m c d : Nat) (w : World) (B : Bool) (eB : Hid (fmF true false 0 0 0 false s f n m e g = B)) :
    Calls Tryd.prog 31 #[opV 3 s (.slice p n c) f (.slice q m d) e g] w fun r w' => r = .returned (.bool B) ∧ Below w.heap.size w w' := by
  by_cases hp : n = 0
  · subst hp
    by_cases he : e = 0
    · subst he
      by_cases hg : g = 0
      · subst hg
        by_cases hv : m = 0
        · subst hv
          by_cases hf0 : f = 0
          · subst hf0
            have eB' : B = true := by rw [← unhide eB]; simp [fmF]
            subst eB'
            clear eB
            go_enter Tryd.func31, Tryd.ntmps31
            go_wp2_with fail
            refine (l3hasSession_3 _).mono ?_
            rintro r w' ⟨rfl, rfl⟩
            go_wp2_with fail
            refine (l3hasPath_3 _).mono ?_
            rintro r w' ⟨rfl, rfl⟩
            go_wp2
            go_ret
            exact ⟨rfl, (Below.refl _ _).alloc (Nat.le_refl _) _⟩
          · skip
            have hfF : (decide ((0 : Int) ≤ f) && decide (f ≤ 0)) = false := by simp; omega
            have hf0' : (f == 0) = false := by simp [hf0]
            have eB' : B = false := by rw [← unhide eB]; by_cases h1 : (0 : Int) ≤ f <;> by_cases h2 : f ≤ 0 <;> first | omega | simp [fmF, h1, h2]
            subst eB'
            clear eB
            go_enter Tryd.func31, Tryd.ntmps31
            go_wp2_with fail
            refine (l3hasSession_3 _).mono ?_
            rintro r w' ⟨rfl, rfl⟩
            go_wp2_with fail
            refine (l3hasPath_3 _).mono ?_
            rintro r w' ⟨rfl, rfl⟩
            go_wp2
            go_ret
            exact ⟨rfl, (Below.refl _ _).alloc (Nat.le_refl _) _⟩
        · have hv' : ((m : Int) != 0) = true := by simp [hv]
          have hv2 : ¬ (m : Int) ≤ 0 := by omega
          have eB' : B = false := by rw [← unhide eB]; simp [fmF, hv, hv2]
          subst eB'
          clear eB
          go_enter Tryd.func31, Tryd.ntmps31
          go_wp2_with fail
          refine (l3hasSession_3 _).mono ?_
          rintro r w' ⟨rfl, rfl⟩
          go_wp2_with fail
          refine (l3hasPath_3 _).mono ?_
          rintro r w' ⟨rfl, rfl⟩
          go_wp2
          go_ret
          exact ⟨rfl, (Below.refl _ _).alloc (Nat.le_refl _) _⟩
      · have hg' : (g != 0) = true := by simp [hg]
        have eB' : B = false := by rw [← unhide eB]; simp [fmF, hg]
        subst eB'
        clear eB
        go_enter Tryd.func31, Tryd.ntmps31
        go_wp2_with fail
        refine (l3hasSession_3 _).mono ?_
        rintro r w' ⟨rfl, rfl⟩
        go_wp2_with fail
        refine (l3hasPath_3 _).mono ?_
        rintro r w' ⟨rfl, rfl⟩
        go_wp2
        go_ret
        exact ⟨rfl, (Below.refl _ _).alloc (Nat.le_refl _) _⟩
    · have he' : (e != 0) = true := by simp [he]
      have eB' : B = false := by rw [← unhide eB]; simp [fmF, he]
      subst eB'
      clear eB
      go_enter Tryd.func31, Tryd.ntmps31
      go_wp2_with fail
      refine (l3hasSession_3 _).mono ?_
      rintro r w' ⟨rfl, rfl⟩
      go_wp2_with fail
      refine (l3hasPath_3 _).mono ?_
      rintro r w' ⟨rfl, rfl⟩
      go_wp2
      go_ret
      exact ⟨rfl, (Below.refl _ _).alloc (Nat.le_refl _) _⟩
  · have hp' : ((n : Int) != 0) = true := by simp [hp]
    have eB' : B = false := by rw [← unhide eB]; simp [fmF, hp]
    subst eB'
    clear eB
    go_enter Tryd.func31, Tryd.ntmps31
    go_wp2_with fail
    refine (l3hasSession_3 _).mono ?_
    rintro r w' ⟨rfl, rfl⟩
    go_wp2_with fail
    refine (l3hasPath_3 _).mono ?_
    rintro r w' ⟨rfl, rfl⟩
    go_wp2
    go_ret
    exact ⟨rfl, (Below.refl _ _).alloc (Nat.le_refl _) _⟩

set_option maxHeartbeats 4000000 in
theorem formed_4 (s f e g : Int) (p q : Option Addr) (n m c d : Nat) (w : World) (B : Bool) (eB : Hid (fmF true true 0 1 40 false s f n m e g = B)) :
    Calls Tryd.prog 31 #[opV 4 s (.slice p n c) f (.slice q m d) e g] w fun r w' => r = .returned (.bool B) ∧ Below w.heap.size w w' := by
  by_cases he : e = 0
  · subst he
    by_cases hg : g = 0
    · subst hg
      by_cases hv : (m : Int) ≤ 40
      · have hv' : ¬ (40 : Int) < (m : Int) := by omega
        by_cases hf0 : f = 0
        · subst hf0
          have eB' : B = true := by rw [← unhide eB]; simp [fmF, hv]
          subst eB'
          clear eB
          go_enter Tryd.func31, Tryd.ntmps31
          go_wp2_with fail
          refine (l3hasSession_4 _).mono ?_
          rintro r w' ⟨rfl, rfl⟩
          go_wp2_with fail
          refine (l3hasPath_4 _).mono ?_
          rintro r w' ⟨rfl, rfl⟩
          go_wp2
          go_ret
          exact ⟨rfl, (Below.refl _ _).alloc (Nat.le_refl _) _⟩
        · skip
          by_cases hf1 : f = 1
          · subst hf1
            have eB' : B = true := by rw [← unhide eB]; simp [fmF, hv]
            subst eB'
            clear eB
            go_enter Tryd.func31, Tryd.ntmps31
            go_wp2_with fail
            refine (l3hasSession_4 _).mono ?_
            rintro r w' ⟨rfl, rfl⟩
            go_wp2_with fail
            refine (l3hasPath_4 _).mono ?_
            rintro r w' ⟨rfl, rfl⟩
            go_wp2
            go_ret
            exact ⟨rfl, (Below.refl _ _).alloc (Nat.le_refl _) _⟩
          · skip
            have hfF : (decide ((0 : Int) ≤ f) && decide (f ≤ 1)) = false := by simp; omega
            have hf0' : (f == 0) = false := by simp [hf0]
            have hf1' : (f == 1) = false := by simp [hf1]
            have eB' : B = false := by rw [← unhide eB]; by_cases h1 : (0 : Int) ≤ f <;> by_cases h2 : f ≤ 1 <;> first | omega | simp [fmF, h1, h2]
            subst eB'
            clear eB
            go_enter Tryd.func31, Tryd.ntmps31
            go_wp2_with fail
            refine (l3hasSession_4 _).mono ?_
            rintro r w' ⟨rfl, rfl⟩
            go_wp2_with fail
            refine (l3hasPath_4 _).mono ?_
            rintro r w' ⟨rfl, rfl⟩
            go_wp2
            go_ret
            exact ⟨rfl, (Below.refl _ _).alloc (Nat.le_refl _) _⟩
      · have hv' : (40 : Int) < (m : Int) := by omega
        have eB' : B = false := by rw [← unhide eB]; simp [fmF, hv]
        subst eB'
        clear eB
        go_enter Tryd.func31, Tryd.ntmps31
        go_wp2_with fail
        refine (l3hasSession_4 _).mono ?_
        rintro r w' ⟨rfl, rfl⟩
        go_wp2_with fail
        refine (l3hasPath_4 _).mono ?_
        rintro r w' ⟨rfl, rfl⟩
        go_wp2
        go_ret
        exact ⟨rfl, (Below.refl _ _).alloc (Nat.le_refl _) _⟩
    · have hg' : (g != 0) = true := by simp [hg]
      have eB' : B = false := by rw [← unhide eB]; simp [fmF, hg]
      subst eB'
      clear eB
      go_enter Tryd.func31, Tryd.ntmps31
      go_wp2_with fail
      refine (l3hasSession_4 _).mono ?_
      rintro r w' ⟨rfl, rfl⟩
      go_wp2_with fail
      refine (l3hasPath_4 _).mono ?_
      rintro r w' ⟨rfl, rfl⟩
      go_wp2
      go_ret
      exact ⟨rfl, (Below.refl _ _).alloc (Nat.le_refl _) _⟩
  · have he' : (e != 0) = true := by simp [he]
    have eB' : B = false := by rw [← unhide eB]; simp [fmF, he]
    subst eB'
    clear eB
    go_enter Tryd.func31, Tryd.ntmps31
    go_wp2_with fail
    refine (l3hasSession_4 _).mono ?_
    rintro r w' ⟨rfl, rfl⟩
    go_wp2_with fail
    refine (l3hasPath_4 _).mono ?_
    rintro r w' ⟨rfl, rfl⟩
    go_wp2
    go_ret
    exact ⟨rfl, (Below.refl _ _).alloc (Nat.le_refl _) _⟩

set_option maxHeartbeats 4000000 in
theorem formed_5 (s f e g : Int) (p q : Option Addr) (n m c d : Nat) (w : World) (B : Bool) (eB : Hid (fmF true true 0 0 0 false s f n m e g = B)) :
    Calls Tryd.prog 31 #[opV 5 s (.slice p n c) f (.slice q m d) e g] w fun r w' => r = .returned (.bool B) ∧ Below w.heap.size w w' := by
  by_cases he : e = 0
  · subst he
    by_cases hg : g = 0
    · subst hg
      by_cases hv : m = 0
      · subst hv
        by_cases hf0 : f = 0
        · subst hf0
          have eB' : B = true := by rw [← unhide eB]; simp [fmF]
          subst eB'
          clear eB
          go_enter Tryd.func31, Tryd.ntmps31
          go_wp2_with fail
          refine (l3hasSession_5 _).mono ?_
          rintro r w' ⟨rfl, rfl⟩
          go_wp2_with fail
          refine (l3hasPath_5 _).mono ?_
          rintro r w' ⟨rfl, rfl⟩
          go_wp2
          go_ret
          exact ⟨rfl, (Below.refl _ _).alloc (Nat.le_refl _) _⟩
        · skip
          have hfF : (decide ((0 : Int) ≤ f) && decide (f ≤ 0)) = false := by simp; omega
          have hf0' : (f == 0) = false := by simp [hf0]
          have eB' : B = false := by rw [← unhide eB]; by_cases h1 : (0 : Int) ≤ f <;> by_cases h2 : f ≤ 0 <;> first | omega | simp [fmF, h1, h2]
          subst eB'
          clear eB
          go_enter Tryd.func31, Tryd.ntmps31
          go_wp2_with fail
          refine (l3hasSession_5 _).mono ?_
          rintro r w' ⟨rfl, rfl⟩
          go_wp2_with fail
          refine (l3hasPath_5 _).mono ?_
          rintro r w' ⟨rfl, rfl⟩
          go_wp2
          go_ret
          exact ⟨rfl, (Below.refl _ _).alloc (Nat.le_refl _) _⟩
      · have hv' : ((m : Int) != 0) = true := by simp [hv]
        have hv2 : ¬ (m : Int) ≤ 0 := by omega
        have eB' : B = false := by rw [← unhide eB]; simp [fmF, hv, hv2]
        subst eB'
        clear eB
        go_enter Tryd.func31, Tryd.ntmps31
        go_wp2_with fail
        refine (l3hasSession_5 _).mono ?_
        rintro r w' ⟨rfl, rfl⟩
        go_wp2_with fail
        refine (l3hasPath_5 _).mono ?_
        rintro r w' ⟨rfl, rfl⟩
        go_wp2
        go_ret
        exact ⟨rfl, (Below.refl _ _).alloc (Nat.le_refl _) _⟩
    · have hg' : (g != 0) = true := by simp [hg]
      have eB' : B = false := by rw [← unhide eB]; simp [fmF, hg]
      subst eB'
      clear eB
      go_enter Tryd.func31, Tryd.ntmps31
      go_wp2_with fail
      refine (l3hasSession_5 _).mono ?_
      rintro r w' ⟨rfl, rfl⟩
      go_wp2_with fail
      refine (l3hasPath_5 _).mono ?_
      rintro r w' ⟨rfl, rfl⟩
      go_wp2
      go_ret
      exact ⟨rfl, (Below.refl _ _).alloc (Nat.le_refl _) _⟩
  · have he' : (e != 0) = true := by simp [he]
    have eB' : B = false := by rw [← unhide eB]; simp [fmF, he]
    subst eB'
    clear eB
    go_enter Tryd.func31, Tryd.ntmps31
    go_wp2_with fail
    refine (l3hasSession_5 _).mono ?_
    rintro r w' ⟨rfl, rfl⟩
    go_wp2_with fail
    refine (l3hasPath_5 _).mono ?_
    rintro r w' ⟨rfl, rfl⟩
    go_wp2
    go_ret
    exact ⟨rfl, (Below.refl _ _).alloc (Nat.le_refl _) _⟩

set_option maxHeartbeats 4000000 in
theorem formed_6 (s f e g : Int) (p q : Option Addr) (n m c d : Nat) (w : World) (B : Bool) (eB : Hid (fmF false true 0 0 0 false s f n m e g = B)) :
    Calls Tryd.prog 31 #[opV 6 s (.slice p n c) f (.slice q m d) e g] w fun r w' => r = .returned (.bool B) ∧ Below w.heap.size w w' := by
  by_cases hs : s = 0
  · subst hs
    by_cases he : e = 0
    · subst he
      by_cases hg : g = 0
      · subst hg
        by_cases hv : m = 0
        · subst hv
          by_cases hf0 : f = 0
          · subst hf0
            have eB' : B = true := by rw [← unhide eB]; simp [fmF]
            subst eB'
            clear eB
            go_enter Tryd.func31, Tryd.ntmps31
            go_wp2_with fail
            refine (l3hasSession_6 _).mono ?_
            rintro r w' ⟨rfl, rfl⟩
            go_wp2_with fail
            refine (l3hasPath_6 _).mono ?_
            rintro r w' ⟨rfl, rfl⟩
            go_wp2
            go_ret
            exact ⟨rfl, (Below.refl _ _).alloc (Nat.le_refl _) _⟩
          · skip
            have hfF : (decide ((0 : Int) ≤ f) && decide (f ≤ 0)) = false := by simp; omega
            have hf0' : (f == 0) = false := by simp [hf0]
            have eB' : B = false := by rw [← unhide eB]; by_cases h1 : (0 : Int) ≤ f <;> by_cases h2 : f ≤ 0 <;> first | omega | simp [fmF, h1, h2]
            subst eB'
            clear eB
            go_enter Tryd.func31, Tryd.ntmps31
            go_wp2_with fail
            refine (l3hasSession_6 _).mono ?_
            rintro r w' ⟨rfl, rfl⟩
            go_wp2_with fail
            refine (l3hasPath_6 _).mono ?_
            rintro r w' ⟨rfl, rfl⟩
            go_wp2
            go_ret
            exact ⟨rfl, (Below.refl _ _).alloc (Nat.le_refl _) _⟩
        · have hv' : ((m : Int) != 0) = true := by simp [hv]
          have hv2 : ¬ (m : Int) ≤ 0 := by omega
          have eB' : B = false := by rw [← unhide eB]; simp [fmF, hv, hv2]
          subst eB'
          clear eB
          go_enter Tryd.func31, Tryd.ntmps31
          go_wp2_with fail
          refine (l3hasSession_6 _).mono ?_
          rintro r w' ⟨rfl, rfl⟩
          go_wp2_with fail
          refine (l3hasPath_6 _).mono ?_
          rintro r w' ⟨rfl, rfl⟩
          go_wp2
          go_ret
          exact ⟨rfl, (Below.refl _ _).alloc (Nat.le_refl _) _⟩
      · have hg' : (g != 0) = true := by simp [hg]
        have eB' : B = false := by rw [← unhide eB]; simp [fmF, hg]
        subst eB'
        clear eB
        go_enter Tryd.func31, Tryd.ntmps31
        go_wp2_with fail
        refine (l3hasSession_6 _).mono ?_
        rintro r w' ⟨rfl, rfl⟩
        go_wp2_with fail
        refine (l3hasPath_6 _).mono ?_
        rintro r w' ⟨rfl, rfl⟩
        go_wp2
        go_ret
        exact ⟨rfl, (Below.refl _ _).alloc (Nat.le_refl _) _⟩
    · have he' : (e != 0) = true := by simp [he]
      have eB' : B = false := by rw [← unhide eB]; simp [fmF, he]
      subst eB'
      clear eB
      go_enter Tryd.func31, Tryd.ntmps31
      go_wp2_with fail
      refine (l3hasSession_6 _).mono ?_
      rintro r w' ⟨rfl, rfl⟩
      go_wp2_with fail
      refine (l3hasPath_6 _).mono ?_
      rintro r w' ⟨rfl, rfl⟩
      go_wp2
      go_ret
      exact ⟨rfl, (Below.refl _ _).alloc (Nat.le_refl _) _⟩
  · have hs' : (s != 0) = true := by simp [hs]
    have eB' : B = false := by rw [← unhide eB]; simp [fmF, hs]
    subst eB'
    clear eB
    go_enter Tryd.func31, Tryd.ntmps31
    go_wp2_with fail
    refine (l3hasSession_6 _).mono ?_
    rintro r w' ⟨rfl, rfl⟩
    go_wp2
    go_ret
    exact ⟨rfl, (Below.refl _ _).alloc (Nat.le_refl _) _⟩

set_option maxHeartbeats 4000000 in
theorem formed_7 (s f e g : Int) (p q : Option Addr) (n m c d : Nat) (w : World) (B : Bool) (eB : Hid (fmF true true 0 0 40 false s f n m e g = B)) :
    Calls Tryd.prog 31 #[opV 7 s (.slice p n c) f (.slice q m d) e g] w fun r w' => r = .returned (.bool B) ∧ Below w.heap.size w w' := by
  by_cases he : e = 0
  · subst he
    by_cases hg : g = 0
    · subst hg
      by_cases hv : (m : Int) ≤ 40
      · have hv' : ¬ (40 : Int) < (m : Int) := by omega
        by_cases hf0 : f = 0
        · subst hf0
          have eB' : B = true := by rw [← unhide eB]; simp [fmF, hv]
          subst eB'
          clear eB
          go_enter Tryd.func31, Tryd.ntmps31
          go_wp2_with fail
          refine (l3hasSession_7 _).mono ?_
          rintro r w' ⟨rfl, rfl⟩
          go_wp2_with fail
          refine (l3hasPath_7 _).mono ?_
          rintro r w' ⟨rfl, rfl⟩
          go_wp2
          go_ret
          exact ⟨rfl, (Below.refl _ _).alloc (Nat.le_refl _) _⟩
        · skip
          have hfF : (decide ((0 : Int) ≤ f) && decide (f ≤ 0)) = false := by simp; omega
          have hf0' : (f == 0) = false := by simp [hf0]
          have eB' : B = false := by rw [← unhide eB]; by_cases h1 : (0 : Int) ≤ f <;> by_cases h2 : f ≤ 0 <;> first | omega | simp [fmF, h1, h2]
          subst eB'
          clear eB
          go_enter Tryd.func31, Tryd.ntmps31
          go_wp2_with fail
          refine (l3hasSession_7 _).mono ?_
          rintro r w' ⟨rfl, rfl⟩
          go_wp2_with fail
          refine (l3hasPath_7 _).mono ?_
          rintro r w' ⟨rfl, rfl⟩
          go_wp2
          go_ret
          exact ⟨rfl, (Below.refl _ _).alloc (Nat.le_refl _) _⟩
      · have hv' : (40 : Int) < (m : Int) := by omega
        have eB' : B = false := by rw [← unhide eB]; simp [fmF, hv]
        subst eB'
        clear eB
        go_enter Tryd.func31, Tryd.ntmps31
        go_wp2_with fail
        refine (l3hasSession_7 _).mono ?_
        rintro r w' ⟨rfl, rfl⟩
        go_wp2_with fail
        refine (l3hasPath_7 _).mono ?_
        rintro r w' ⟨rfl, rfl⟩
        go_wp2
        go_ret
        exact ⟨rfl, (Below.refl _ _).alloc (Nat.le_refl _) _⟩
    · have hg' : (g != 0) = true := by simp [hg]
      have eB' : B = false := by rw [← unhide eB]; simp [fmF, hg]
      subst eB'
      clear eB
      go_enter Tryd.func31, Tryd.ntmps31
      go_wp2_with fail
      refine (l3hasSession_7 _).mono ?_
      rintro r w' ⟨rfl, rfl⟩
      go_wp2_with fail
      refine (l3hasPath_7 _).mono ?_
      rintro r w' ⟨rfl, rfl⟩
      go_wp2
      go_ret
      exact ⟨rfl, (Below.refl _ _).alloc (Nat.le_refl _) _⟩
  · have he' : (e != 0) = true := by simp [he]
    have eB' : B = false := by rw [← unhide eB]; simp [fmF, he]
    subst eB'
    clear eB
    go_enter Tryd.func31, Tryd.ntmps31
    go_wp2_with fail
    refine (l3hasSession_7 _).mono ?_
    rintro r w' ⟨rfl, rfl⟩
    go_wp2_with fail
    refine (l3hasPath_7 _).mono ?_
    rintro r w' ⟨rfl, rfl⟩
    go_wp2
    go_ret
    exact ⟨rfl, (Below.refl _ _).alloc (Nat.le_refl _) _⟩

set_option maxHeartbeats 4000000 in
theorem formed_8 (s f e g : Int) (p q : Option Addr) (n m c d : Nat) (w : World) (B : Bool) (eB : Hid (fmF true true 1 2 0 false s f n m e g = B)) :
    Calls Tryd.prog 31 #[opV 8 s (.slice p n c) f (.slice q m d) e g] w fun r w' => r = .returned (.bool B) ∧ Below w.heap.size w w' := by
  by_cases he : e = 0
  · subst he
    by_cases hg : g = 0
    · subst hg
      by_cases hv : m = 0
      · subst hv
        by_cases hf1 : f = 1
        · subst hf1
          have eB' : B = true := by rw [← unhide eB]; simp [fmF]
          subst eB'
          clear eB
          go_enter Tryd.func31, Tryd.ntmps31
          go_wp2_with fail
          refine (l3hasSession_8 _).mono ?_
          rintro r w' ⟨rfl, rfl⟩
          go_wp2_with fail
          refine (l3hasPath_8 _).mono ?_
          rintro r w' ⟨rfl, rfl⟩
          go_wp2
          go_ret
          exact ⟨rfl, (Below.refl _ _).alloc (Nat.le_refl _) _⟩
        · skip
          by_cases hf2 : f = 2
          · subst hf2
            have eB' : B = true := by rw [← unhide eB]; simp [fmF]
            subst eB'
            clear eB
            go_enter Tryd.func31, Tryd.ntmps31
            go_wp2_with fail
            refine (l3hasSession_8 _).mono ?_
            rintro r w' ⟨rfl, rfl⟩
            go_wp2_with fail
            refine (l3hasPath_8 _).mono ?_
            rintro r w' ⟨rfl, rfl⟩
            go_wp2
            go_ret
            exact ⟨rfl, (Below.refl _ _).alloc (Nat.le_refl _) _⟩
          · skip
            have hfF : (decide ((1 : Int) ≤ f) && decide (f ≤ 2)) = false := by simp; omega
            have hf1' : (f == 1) = false := by simp [hf1]
            have hf2' : (f == 2) = false := by simp [hf2]
            have eB' : B = false := by rw [← unhide eB]; by_cases h1 : (1 : Int) ≤ f <;> by_cases h2 : f ≤ 2 <;> first | omega | simp [fmF, h1, h2]
            subst eB'
            clear eB
            go_enter Tryd.func31, Tryd.ntmps31
            go_wp2_with fail
            refine (l3hasSession_8 _).mono ?_
            rintro r w' ⟨rfl, rfl⟩
            go_wp2_with fail
            refine (l3hasPath_8 _).mono ?_
            rintro r w' ⟨rfl, rfl⟩
            go_wp2
            go_ret
            exact ⟨rfl, (Below.refl _ _).alloc (Nat.le_refl _) _⟩
      · have hv' : ((m : Int) != 0) = true := by simp [hv]
        have hv2 : ¬ (m : Int) ≤ 0 := by omega
        have eB' : B = false := by rw [← unhide eB]; simp [fmF, hv, hv2]
        subst eB'
        clear eB
        go_enter Tryd.func31, Tryd.ntmps31
        go_wp2_with fail
        refine (l3hasSession_8 _).mono ?_
        rintro r w' ⟨rfl, rfl⟩
        go_wp2_with fail
        refine (l3hasPath_8 _).mono ?_
        rintro r w' ⟨rfl, rfl⟩
        go_wp2
        go_ret
        exact ⟨rfl, (Below.refl _ _).alloc (Nat.le_refl _) _⟩
    · have hg' : (g != 0) = true := by simp [hg]
      have eB' : B = false := by rw [← unhide eB]; simp [fmF, hg]
      subst eB'
      clear eB
      go_enter Tryd.func31, Tryd.ntmps31
      go_wp2_with fail
      refine (l3hasSession_8 _).mono ?_
      rintro r w' ⟨rfl, rfl⟩
      go_wp2_with fail
      refine (l3hasPath_8 _).mono ?_
      rintro r w' ⟨rfl, rfl⟩
      go_wp2
      go_ret
      exact ⟨rfl, (Below.refl _ _).alloc (Nat.le_refl _) _⟩
  · have he' : (e != 0) = true := by simp [he]
    have eB' : B = false := by rw [← unhide eB]; simp [fmF, he]
    subst eB'
    clear eB
    go_enter Tryd.func31, Tryd.ntmps31
    go_wp2_with fail
    refine (l3hasSession_8 _).mono ?_
    rintro r w' ⟨rfl, rfl⟩
    go_wp2_with fail
    refine (l3hasPath_8 _).mono ?_
    rintro r w' ⟨rfl, rfl⟩
    go_wp2
    go_ret
    exact ⟨rfl, (Below.refl _ _).alloc (Nat.le_refl _) _⟩

set_option maxHeartbeats 4000000 in
theorem formed_9 (s f e g : Int) (p q : Option Addr) (n m c d : Nat) (w : World) (B : Bool) (eB : Hid (fmF true true 0 0 0 false s f n m e g = B)) :
    Calls Tryd.prog 31 #[opV 9 s (.slice p n c) f (.slice q m d) e g] w fun r w' => r = .returned (.bool B) ∧ Below w.heap.size w w' := by
  by_cases he : e = 0
  · subst he
    by_cases hg : g = 0
    · subst hg
      by_cases hv : m = 0
      · subst hv
        by_cases hf0 : f = 0
        · subst hf0
          have eB' : B = true := by rw [← unhide eB]; simp [fmF]
          subst eB'
          clear eB
          go_enter Tryd.func31, Tryd.ntmps31
          go_wp2_with fail
          refine (l3hasSession_9 _).mono ?_
          rintro r w' ⟨rfl, rfl⟩
          go_wp2_with fail
          refine (l3hasPath_9 _).mono ?_
          rintro r w' ⟨rfl, rfl⟩
          go_wp2
          go_ret
          exact ⟨rfl, (Below.refl _ _).alloc (Nat.le_refl _) _⟩
        · skip
          have hfF : (decide ((0 : Int) ≤ f) && decide (f ≤ 0)) = false := by simp; omega
          have hf0' : (f == 0) = false := by simp [hf0]
          have eB' : B = false := by rw [← unhide eB]; by_cases h1 : (0 : Int) ≤ f <;> by_cases h2 : f ≤ 0 <;> first | omega | simp [fmF, h1, h2]
          subst eB'
          clear eB
          go_enter Tryd.func31, Tryd.ntmps31
          go_wp2_with fail
          refine (l3hasSession_9 _).mono ?_
          rintro r w' ⟨rfl, rfl⟩
          go_wp2_with fail
          refine (l3hasPath_9 _).mono ?_
          rintro r w' ⟨rfl, rfl⟩
          go_wp2
          go_ret
          exact ⟨rfl, (Below.refl _ _).alloc (Nat.le_refl _) _⟩
      · have hv' : ((m : Int) != 0) = true := by simp [hv]
        have hv2 : ¬ (m : Int) ≤ 0 := by omega
        have eB' : B = false := by rw [← unhide eB]; simp [fmF, hv, hv2]
        subst eB'
        clear eB
        go_enter Tryd.func31, Tryd.ntmps31
        go_wp2_with fail
        refine (l3hasSession_9 _).mono ?_
        rintro r w' ⟨rfl, rfl⟩
        go_wp2_with fail
        refine (l3hasPath_9 _).mono ?_
        rintro r w' ⟨rfl, rfl⟩
        go_wp2
        go_ret
        exact ⟨rfl, (Below.refl _ _).alloc (Nat.le_refl _) _⟩
    · have hg' : (g != 0) = true := by simp [hg]
      have eB' : B = false := by rw [← unhide eB]; simp [fmF, hg]
      subst eB'
      clear eB
      go_enter Tryd.func31, Tryd.ntmps31
      go_wp2_with fail
      refine (l3hasSession_9 _).mono ?_
      rintro r w' ⟨rfl, rfl⟩
      go_wp2_with fail
      refine (l3hasPath_9 _).mono ?_
      rintro r w' ⟨rfl, rfl⟩
      go_wp2
      go_ret
      exact ⟨rfl, (Below.refl _ _).alloc (Nat.le_refl _) _⟩
  · have he' : (e != 0) = true := by simp [he]
    have eB' : B = false := by rw [← unhide eB]; simp [fmF, he]
    subst eB'
    clear eB
    go_enter Tryd.func31, Tryd.ntmps31
    go_wp2_with fail
    refine (l3hasSession_9 _).mono ?_
    rintro r w' ⟨rfl, rfl⟩
    go_wp2_with fail
    refine (l3hasPath_9 _).mono ?_
    rintro r w' ⟨rfl, rfl⟩
    go_wp2
    go_ret
    exact ⟨rfl, (Below.refl _ _).alloc (Nat.le_refl _) _⟩

set_option maxHeartbeats 4000000 in
theorem formed_10 (s f e g : Int) (p q : Option Addr) (n m c d : Nat) (w : World) (B : Bool) (eB : Hid (fmF true true 0 0 0 true s f n m e g = B)) :
    Calls Tryd.prog 31 #[opV 10 s (.slice p n c) f (.slice q m d) e g] w fun r w' => r = .returned (.bool B) ∧ Below w.heap.size w w' := by
  by_cases hv : m = 0
  · subst hv
    by_cases hf0 : f = 0
    · subst hf0
      have eB' : B = true := by rw [← unhide eB]; simp [fmF]
      subst eB'
      clear eB
      go_enter Tryd.func31, Tryd.ntmps31
      go_wp2_with fail
      refine (l3hasSession_10 _).mono ?_
      rintro r w' ⟨rfl, rfl⟩
      go_wp2_with fail
      refine (l3hasPath_10 _).mono ?_
      rintro r w' ⟨rfl, rfl⟩
      go_wp2
      go_ret
      exact ⟨rfl, (Below.refl _ _).alloc (Nat.le_refl _) _⟩
    · skip
      have hfF : (decide ((0 : Int) ≤ f) && decide (f ≤ 0)) = false := by simp; omega
      have hf0' : (f == 0) = false := by simp [hf0]
      have eB' : B = false := by rw [← unhide eB]; by_cases h1 : (0 : Int) ≤ f <;> by_cases h2 : f ≤ 0 <;> first | omega | simp [fmF, h1, h2]
      subst eB'
      clear eB
      go_enter Tryd.func31, Tryd.ntmps31
      go_wp2_with fail
      refine (l3hasSession_10 _).mono ?_
      rintro r w' ⟨rfl, rfl⟩
      go_wp2_with fail
      refine (l3hasPath_10 _).mono ?_
      rintro r w' ⟨rfl, rfl⟩
      go_wp2
      go_ret
      exact ⟨rfl, (Below.refl _ _).alloc (Nat.le_refl _) _⟩
  · have hv' : ((m : Int) != 0) = true := by simp [hv]
    have hv2 : ¬ (m : Int) ≤ 0 := by omega
    have eB' : B = false := by rw [← unhide eB]; simp [fmF, hv, hv2]
    subst eB'
    clear eB
    go_enter Tryd.func31, Tryd.ntmps31
    go_wp2_with fail
    refine (l3hasSession_10 _).mono ?_
    rintro r w' ⟨rfl, rfl⟩
    go_wp2_with fail
    refine (l3hasPath_10 _).mono ?_
    rintro r w' ⟨rfl, rfl⟩
    go_wp2
    go_ret
    exact ⟨rfl, (Below.refl _ _).alloc (Nat.le_refl _) _⟩

set_option maxHeartbeats 4000000 in
theorem formed_11 (s f e g : Int) (p q : Option Addr) (n m c d : Nat) (w : World) (B : Bool) (eB : Hid (fmF true true 0 0 0 false s f n m e g = B)) :
    Calls Tryd.prog 31 #[opV 11 s (.slice p n c) f (.slice q m d) e g] w fun r w' => r = .returned (.bool B) ∧ Below w.heap.size w w' := by
  by_cases he : e = 0
  · subst he
    by_cases hg : g = 0
    · subst hg
      by_cases hv : m = 0
      · subst hv
        by_cases hf0 : f = 0
        · subst hf0
          have eB' : B = true := by rw [← unhide eB]; simp [fmF]
          subst eB'
          clear eB
          go_enter Tryd.func31, Tryd.ntmps31
          go_wp2_with fail
          refine (l3hasSession_11 _).mono ?_
          rintro r w' ⟨rfl, rfl⟩
          go_wp2_with fail
          refine (l3hasPath_11 _).mono ?_
          rintro r w' ⟨rfl, rfl⟩
          go_wp2
          go_ret
          exact ⟨rfl, (Below.refl _ _).alloc (Nat.le_refl _) _⟩
        · skip
          have hfF : (decide ((0 : Int) ≤ f) && decide (f ≤ 0)) = false := by simp; omega
          have hf0' : (f == 0) = false := by simp [hf0]
          have eB' : B = false := by rw [← unhide eB]; by_cases h1 : (0 : Int) ≤ f <;> by_cases h2 : f ≤ 0 <;> first | omega | simp [fmF, h1, h2]
          subst eB'
          clear eB
          go_enter Tryd.func31, Tryd.ntmps31
          go_wp2_with fail
          refine (l3hasSession_11 _).mono ?_
          rintro r w' ⟨rfl, rfl⟩
          go_wp2_with fail
          refine (l3hasPath_11 _).mono ?_
          rintro r w' ⟨rfl, rfl⟩
          go_wp2
          go_ret
          exact ⟨rfl, (Below.refl _ _).alloc (Nat.le_refl _) _⟩
      · have hv' : ((m : Int) != 0) = true := by simp [hv]
        have hv2 : ¬ (m : Int) ≤ 0 := by omega
        have eB' : B = false := by rw [← unhide eB]; simp [fmF, hv, hv2]
        subst eB'
        clear eB
        go_enter Tryd.func31, Tryd.ntmps31
        go_wp2_with fail
        refine (l3hasSession_11 _).mono ?_
        rintro r w' ⟨rfl, rfl⟩
        go_wp2_with fail
        refine (l3hasPath_11 _).mono ?_
        rintro r w' ⟨rfl, rfl⟩
        go_wp2
        go_ret
        exact ⟨rfl, (Below.refl _ _).alloc (Nat.le_refl _) _⟩
    · have hg' : (g != 0) = true := by simp [hg]
      have eB' : B = false := by rw [← unhide eB]; simp [fmF, hg]
      subst eB'
      clear eB
      go_enter Tryd.func31, Tryd.ntmps31
      go_wp2_with fail
      refine (l3hasSession_11 _).mono ?_
      rintro r w' ⟨rfl, rfl⟩
      go_wp2_with fail
      refine (l3hasPath_11 _).mono ?_
      rintro r w' ⟨rfl, rfl⟩
      go_wp2
      go_ret
      exact ⟨rfl, (Below.refl _ _).alloc (Nat.le_refl _) _⟩
  · have he' : (e != 0) = true := by simp [he]
    have eB' : B = false := by rw [← unhide eB]; simp [fmF, he]
    subst eB'
    clear eB
    go_enter Tryd.func31, Tryd.ntmps31
    go_wp2_with fail
    refine (l3hasSession_11 _).mono ?_
    rintro r w' ⟨rfl, rfl⟩
    go_wp2_with fail
    refine (l3hasPath_11 _).mono ?_
    rintro r w' ⟨rfl, rfl⟩
    go_wp2
    go_ret
    exact ⟨rfl, (Below.refl _ _).alloc (Nat.le_refl _) _⟩

set_option maxHeartbeats 4000000 in
theorem formed_12 (s f e g : Int) (p q : Option Addr) (n m c d : Nat) (w : World) (B : Bool) (eB : Hid (fmF true false 0 0 0 false s f n m e g = B)) :
    Calls Tryd.prog 31 #[opV 12 s (.slice p n c) f (.slice q m d) e g] w fun r w' => r = .returned (.bool B) ∧ Below w.heap.size w w' := by
  by_cases hp : n = 0
  · subst hp
    by_cases he : e = 0
    · subst he
      by_cases hg : g = 0
      · subst hg
        by_cases hv : m = 0
        · subst hv
          by_cases hf0 : f = 0
          · subst hf0
            have eB' : B = true := by rw [← unhide eB]; simp [fmF]
            subst eB'
            clear eB
            go_enter Tryd.func31, Tryd.ntmps31
            go_wp2_with fail
            refine (l3hasSession_12 _).mono ?_
            rintro r w' ⟨rfl, rfl⟩
            go_wp2_with fail
            refine (l3hasPath_12 _).mono ?_
            rintro r w' ⟨rfl, rfl⟩
            go_wp2
            go_ret
            exact ⟨rfl, (Below.refl _ _).alloc (Nat.le_refl _) _⟩
          · skip
            have hfF : (decide ((0 : Int) ≤ f) && decide (f ≤ 0)) = false := by simp; omega
            have hf0' : (f == 0) = false := by simp [hf0]
            have eB' : B = false := by rw [← unhide eB]; by_cases h1 : (0 : Int) ≤ f <;> by_cases h2 : f ≤ 0 <;> first | omega | simp [fmF, h1, h2]
            subst eB'
            clear eB
            go_enter Tryd.func31, Tryd.ntmps31
            go_wp2_with fail
            refine (l3hasSession_12 _).mono ?_
            rintro r w' ⟨rfl, rfl⟩
            go_wp2_with fail
            refine (l3hasPath_12 _).mono ?_
            rintro r w' ⟨rfl, rfl⟩
            go_wp2
            go_ret
            exact ⟨rfl, (Below.refl _ _).alloc (Nat.le_refl _) _⟩
        · have hv' : ((m : Int) != 0) = true := by simp [hv]
          have hv2 : ¬ (m : Int) ≤ 0 := by omega
          have eB' : B = false := by rw [← unhide eB]; simp [fmF, hv, hv2]
          subst eB'
          clear eB
          go_enter Tryd.func31, Tryd.ntmps31
          go_wp2_with fail
          refine (l3hasSession_12 _).mono ?_
          rintro r w' ⟨rfl, rfl⟩
          go_wp2_with fail
          refine (l3hasPath_12 _).mono ?_
          rintro r w' ⟨rfl, rfl⟩
          go_wp2
          go_ret
          exact ⟨rfl, (Below.refl _ _).alloc (Nat.le_refl _) _⟩
      · have hg' : (g != 0) = true := by simp [hg]
        have eB' : B = false := by rw [← unhide eB]; simp [fmF, hg]
        subst eB'
        clear eB
        go_enter Tryd.func31, Tryd.ntmps31
        go_wp2_with fail
        refine (l3hasSession_12 _).mono ?_
        rintro r w' ⟨rfl, rfl⟩
        go_wp2_with fail
        refine (l3hasPath_12 _).mono ?_
        rintro r w' ⟨rfl, rfl⟩
        go_wp2
        go_ret
        exact ⟨rfl, (Below.refl _ _).alloc (Nat.le_refl _) _⟩
    · have he' : (e != 0) = true := by simp [he]
      have eB' : B = false := by rw [← unhide eB]; simp [fmF, he]
      subst eB'
      clear eB
      go_enter Tryd.func31, Tryd.ntmps31
      go_wp2_with fail
      refine (l3hasSession_12 _).mono ?_
      rintro r w' ⟨rfl, rfl⟩
      go_wp2_with fail
      refine (l3hasPath_12 _).mono ?_
      rintro r w' ⟨rfl, rfl⟩
      go_wp2
      go_ret
      exact ⟨rfl, (Below.refl _ _).alloc (Nat.le_refl _) _⟩
  · have hp' : ((n : Int) != 0) = true := by simp [hp]
    have eB' : B = false := by rw [← unhide eB]; simp [fmF, hp]
    subst eB'
    clear eB
    go_enter Tryd.func31, Tryd.ntmps31
    go_wp2_with fail
    refine (l3hasSession_12 _).mono ?_
    rintro r w' ⟨rfl, rfl⟩
    go_wp2_with fail
    refine (l3hasPath_12 _).mono ?_
    rintro r w' ⟨rfl, rfl⟩
    go_wp2
    go_ret
    exact ⟨rfl, (Below.refl _ _).alloc (Nat.le_refl _) _⟩

set_option maxHeartbeats 4000000 in
theorem formed_13 (s f e g : Int) (p q : Option Addr) (n m c d : Nat) (w : World) (B : Bool) (eB : Hid (fmF false true 0 0 0 false s f n m e g = B)) :
    Calls Tryd.prog 31 #[opV 13 s (.slice p n c) f (.slice q m d) e g] w fun r w' => r = .returned (.bool B) ∧ Below w.heap.size w w' := by
  by_cases hs : s = 0
  · subst hs
    by_cases he : e = 0
    · subst he
      by_cases hg : g = 0
      · subst hg
        by_cases hv : m = 0
        · subst hv
          by_cases hf0 : f = 0
          · subst hf0
            have eB' : B = true := by rw [← unhide eB]; simp [fmF]
            subst eB'
            clear eB
            go_enter Tryd.func31, Tryd.ntmps31
            go_wp2_with fail
            refine (l3hasSession_13 _).mono ?_
            rintro r w' ⟨rfl, rfl⟩
            go_wp2_with fail
            refine (l3hasPath_13 _).mono ?_
            rintro r w' ⟨rfl, rfl⟩
            go_wp2
            go_ret
            exact ⟨rfl, (Below.refl _ _).alloc (Nat.le_refl _) _⟩
          · skip
            have hfF : (decide ((0 : Int) ≤ f) && decide (f ≤ 0)) = false := by simp; omega
            have hf0' : (f == 0) = false := by simp [hf0]
            have eB' : B = false := by rw [← unhide eB]; by_cases h1 : (0 : Int) ≤ f <;> by_cases h2 : f ≤ 0 <;> first | omega | simp [fmF, h1, h2]
            subst eB'
            clear eB
            go_enter Tryd.func31, Tryd.ntmps31
            go_wp2_with fail
            refine (l3hasSession_13 _).mono ?_
            rintro r w' ⟨rfl, rfl⟩
            go_wp2_with fail
            refine (l3hasPath_13 _).mono ?_
            rintro r w' ⟨rfl, rfl⟩
            go_wp2
            go_ret
            exact ⟨rfl, (Below.refl _ _).alloc (Nat.le_refl _) _⟩
        · have hv' : ((m : Int) != 0) = true := by simp [hv]
          have hv2 : ¬ (m : Int) ≤ 0 := by omega
          have eB' : B = false := by rw [← unhide eB]; simp [fmF, hv, hv2]
          subst eB'
          clear eB
          go_enter Tryd.func31, Tryd.ntmps31
          go_wp2_with fail
          refine (l3hasSession_13 _).mono ?_
          rintro r w' ⟨rfl, rfl⟩
          go_wp2_with fail
          refine (l3hasPath_13 _).mono ?_
          rintro r w' ⟨rfl, rfl⟩
          go_wp2
          go_ret
          exact ⟨rfl, (Below.refl _ _).alloc (Nat.le_refl _) _⟩
      · have hg' : (g != 0) = true := by simp [hg]
        have eB' : B = false := by rw [← unhide eB]; simp [fmF, hg]
        subst eB'
        clear eB
        go_enter Tryd.func31, Tryd.ntmps31
        go_wp2_with fail
        refine (l3hasSession_13 _).mono ?_
        rintro r w' ⟨rfl, rfl⟩
        go_wp2_with fail
        refine (l3hasPath_13 _).mono ?_
        rintro r w' ⟨rfl, rfl⟩
        go_wp2
        go_ret
        exact ⟨rfl, (Below.refl _ _).alloc (Nat.le_refl _) _⟩
    · have he' : (e != 0) = true := by simp [he]
      have eB' : B = false := by rw [← unhide eB]; simp [fmF, he]
      subst eB'
      clear eB
      go_enter Tryd.func31, Tryd.ntmps31
      go_wp2_with fail
      refine (l3hasSession_13 _).mono ?_
      rintro r w' ⟨rfl, rfl⟩
      go_wp2_with fail
      refine (l3hasPath_13 _).mono ?_
      rintro r w' ⟨rfl, rfl⟩
      go_wp2
      go_ret
      exact ⟨rfl, (Below.refl _ _).alloc (Nat.le_refl _) _⟩
  · have hs' : (s != 0) = true := by simp [hs]
    have eB' : B = false := by rw [← unhide eB]; simp [fmF, hs]
    subst eB'
    clear eB
    go_enter Tryd.func31, Tryd.ntmps31
    go_wp2_with fail
    refine (l3hasSession_13 _).mono ?_
    rintro r w' ⟨rfl, rfl⟩
    go_wp2
    go_ret
    exact ⟨rfl, (Below.refl _ _).alloc (Nat.le_refl _) _⟩

set_option maxHeartbeats 400000 in
theorem formed_out (k s f e g : Int) (p q : Option Addr) (n m c d : Nat) (w : World) (hk : k < 1 ∨ 13 < k) :
    Calls Tryd.prog 31 #[opV k s (.slice p n c) f (.slice q m d) e g] w fun r w' => r = .returned (.bool false) ∧ Below w.heap.size w w' := by
  by_cases h1 : k < 1
  · go_enter Tryd.func31, Tryd.ntmps31
    go_wp2
    go_ret
    exact ⟨rfl, (Below.refl _ _).alloc (Nat.le_refl _) _⟩
  · have h2 : 13 < k := by omega
    go_enter Tryd.func31, Tryd.ntmps31
    go_wp2
    go_ret
    exact ⟨rfl, (Below.refl _ _).alloc (Nat.le_refl _) _⟩
end Go.Proofs.YtekooebndehokaaDoor
