import Derived.Test.YtekooebndehokaaDoorOPf
namespace Go.Proofs.YtekooebndehokaaDoor
open Go.ChangeShapes Go.WideShapes Go.ChangeAt Go.RowKit
set_option linter.unusedVariables false
set_option linter.unusedSimpArgs false
set_option maxRecDepth 100000

/-- a row of the table as a value -/
abbrev formV (se pa : Bool) (lo hi vs : Int) (sq jo : Bool) : Value := .agg #[.bool se, .bool pa, .int .i64 lo, .int .i64 hi, .int .i64 vs, .bool sq, .bool jo]

set_option maxHeartbeats 8000000 in
theorem fits_any (se pa : Bool) (lo hi vs : Int) (sq jo : Bool) (k s f e g : Int) (p q : Option Addr) (n m c d : Nat) (w : World) (B : Bool) (eB : Hid (fmF se pa lo hi vs sq s f n m e g = B)) :
    Calls Tryd.prog 66 #[formV se pa lo hi vs sq jo, opV k s (.slice p n c) f (.slice q m d) e g] w fun r w' => r = .returned (.bool B) ∧ Below w.heap.size w w' := by
  cases se with
  | true =>
    cases pa with
    | true =>
      by_cases hlo : lo ≤ f
      · by_cases hhi : f ≤ hi
        · by_cases hvs : (m : Int) ≤ vs
          · cases sq with
            | true =>
              have eB' : B = true := by rw [← unhide eB]; simp [fmF, hlo, hhi, hvs]
              subst eB'
              clear eB
              go_enter Tryd.func66, Tryd.ntmps66
              go_wp2
              go_ret
              exact ⟨rfl, ((Below.refl _ _).alloc (Nat.le_refl _) _).alloc (by simp) _⟩
            | false =>
              by_cases he : e = 0
              · subst he
                by_cases hg : g = 0
                · subst hg
                  have eB' : B = true := by rw [← unhide eB]; simp [fmF, hlo, hhi, hvs]
                  subst eB'
                  clear eB
                  go_enter Tryd.func66, Tryd.ntmps66
                  go_wp2
                  go_ret
                  exact ⟨rfl, ((Below.refl _ _).alloc (Nat.le_refl _) _).alloc (by simp) _⟩
                · have hg' : (g == 0) = false := by simp [hg]
                  have eB' : B = false := by rw [← unhide eB]; simp [fmF, hlo, hhi, hvs, hg]
                  subst eB'
                  clear eB
                  go_enter Tryd.func66, Tryd.ntmps66
                  go_wp2
                  go_ret
                  exact ⟨rfl, ((Below.refl _ _).alloc (Nat.le_refl _) _).alloc (by simp) _⟩
              · have he' : (e == 0) = false := by simp [he]
                have eB' : B = false := by rw [← unhide eB]; simp [fmF, hlo, hhi, hvs, he]
                subst eB'
                clear eB
                go_enter Tryd.func66, Tryd.ntmps66
                go_wp2
                go_ret
                exact ⟨rfl, ((Below.refl _ _).alloc (Nat.le_refl _) _).alloc (by simp) _⟩
          · have eB' : B = false := by rw [← unhide eB]; simp [fmF, hlo, hhi, hvs]
            subst eB'
            clear eB
            go_enter Tryd.func66, Tryd.ntmps66
            go_wp2
            go_ret
            exact ⟨rfl, ((Below.refl _ _).alloc (Nat.le_refl _) _).alloc (by simp) _⟩
        · have eB' : B = false := by rw [← unhide eB]; simp [fmF, hlo, hhi]
          subst eB'
          clear eB
          go_enter Tryd.func66, Tryd.ntmps66
          go_wp2
          go_ret
          exact ⟨rfl, ((Below.refl _ _).alloc (Nat.le_refl _) _).alloc (by simp) _⟩
      · have eB' : B = false := by rw [← unhide eB]; simp [fmF, hlo]
        subst eB'
        clear eB
        go_enter Tryd.func66, Tryd.ntmps66
        go_wp2
        go_ret
        exact ⟨rfl, ((Below.refl _ _).alloc (Nat.le_refl _) _).alloc (by simp) _⟩
    | false =>
      by_cases hp : n = 0
      · subst hp
        by_cases hlo : lo ≤ f
        · by_cases hhi : f ≤ hi
          · by_cases hvs : (m : Int) ≤ vs
            · cases sq with
              | true =>
                have eB' : B = true := by rw [← unhide eB]; simp [fmF, hlo, hhi, hvs]
                subst eB'
                clear eB
                go_enter Tryd.func66, Tryd.ntmps66
                go_wp2
                go_ret
                exact ⟨rfl, ((Below.refl _ _).alloc (Nat.le_refl _) _).alloc (by simp) _⟩
              | false =>
                by_cases he : e = 0
                · subst he
                  by_cases hg : g = 0
                  · subst hg
                    have eB' : B = true := by rw [← unhide eB]; simp [fmF, hlo, hhi, hvs]
                    subst eB'
                    clear eB
                    go_enter Tryd.func66, Tryd.ntmps66
                    go_wp2
                    go_ret
                    exact ⟨rfl, ((Below.refl _ _).alloc (Nat.le_refl _) _).alloc (by simp) _⟩
                  · have hg' : (g == 0) = false := by simp [hg]
                    have eB' : B = false := by rw [← unhide eB]; simp [fmF, hlo, hhi, hvs, hg]
                    subst eB'
                    clear eB
                    go_enter Tryd.func66, Tryd.ntmps66
                    go_wp2
                    go_ret
                    exact ⟨rfl, ((Below.refl _ _).alloc (Nat.le_refl _) _).alloc (by simp) _⟩
                · have he' : (e == 0) = false := by simp [he]
                  have eB' : B = false := by rw [← unhide eB]; simp [fmF, hlo, hhi, hvs, he]
                  subst eB'
                  clear eB
                  go_enter Tryd.func66, Tryd.ntmps66
                  go_wp2
                  go_ret
                  exact ⟨rfl, ((Below.refl _ _).alloc (Nat.le_refl _) _).alloc (by simp) _⟩
            · have eB' : B = false := by rw [← unhide eB]; simp [fmF, hlo, hhi, hvs]
              subst eB'
              clear eB
              go_enter Tryd.func66, Tryd.ntmps66
              go_wp2
              go_ret
              exact ⟨rfl, ((Below.refl _ _).alloc (Nat.le_refl _) _).alloc (by simp) _⟩
          · have eB' : B = false := by rw [← unhide eB]; simp [fmF, hlo, hhi]
            subst eB'
            clear eB
            go_enter Tryd.func66, Tryd.ntmps66
            go_wp2
            go_ret
            exact ⟨rfl, ((Below.refl _ _).alloc (Nat.le_refl _) _).alloc (by simp) _⟩
        · have eB' : B = false := by rw [← unhide eB]; simp [fmF, hlo]
          subst eB'
          clear eB
          go_enter Tryd.func66, Tryd.ntmps66
          go_wp2
          go_ret
          exact ⟨rfl, ((Below.refl _ _).alloc (Nat.le_refl _) _).alloc (by simp) _⟩
      · have hp' : ((n : Int) == 0) = false := by simp [hp]
        have eB' : B = false := by rw [← unhide eB]; simp [fmF, hp]
        subst eB'
        clear eB
        go_enter Tryd.func66, Tryd.ntmps66
        go_wp2
        go_ret
        exact ⟨rfl, ((Below.refl _ _).alloc (Nat.le_refl _) _).alloc (by simp) _⟩
  | false =>
    by_cases hs : s = 0
    · subst hs
      cases pa with
      | true =>
        by_cases hlo : lo ≤ f
        · by_cases hhi : f ≤ hi
          · by_cases hvs : (m : Int) ≤ vs
            · cases sq with
              | true =>
                have eB' : B = true := by rw [← unhide eB]; simp [fmF, hlo, hhi, hvs]
                subst eB'
                clear eB
                go_enter Tryd.func66, Tryd.ntmps66
                go_wp2
                go_ret
                exact ⟨rfl, ((Below.refl _ _).alloc (Nat.le_refl _) _).alloc (by simp) _⟩
              | false =>
                by_cases he : e = 0
                · subst he
                  by_cases hg : g = 0
                  · subst hg
                    have eB' : B = true := by rw [← unhide eB]; simp [fmF, hlo, hhi, hvs]
                    subst eB'
                    clear eB
                    go_enter Tryd.func66, Tryd.ntmps66
                    go_wp2
                    go_ret
                    exact ⟨rfl, ((Below.refl _ _).alloc (Nat.le_refl _) _).alloc (by simp) _⟩
                  · have hg' : (g == 0) = false := by simp [hg]
                    have eB' : B = false := by rw [← unhide eB]; simp [fmF, hlo, hhi, hvs, hg]
                    subst eB'
                    clear eB
                    go_enter Tryd.func66, Tryd.ntmps66
                    go_wp2
                    go_ret
                    exact ⟨rfl, ((Below.refl _ _).alloc (Nat.le_refl _) _).alloc (by simp) _⟩
                · have he' : (e == 0) = false := by simp [he]
                  have eB' : B = false := by rw [← unhide eB]; simp [fmF, hlo, hhi, hvs, he]
                  subst eB'
                  clear eB
                  go_enter Tryd.func66, Tryd.ntmps66
                  go_wp2
                  go_ret
                  exact ⟨rfl, ((Below.refl _ _).alloc (Nat.le_refl _) _).alloc (by simp) _⟩
            · have eB' : B = false := by rw [← unhide eB]; simp [fmF, hlo, hhi, hvs]
              subst eB'
              clear eB
              go_enter Tryd.func66, Tryd.ntmps66
              go_wp2
              go_ret
              exact ⟨rfl, ((Below.refl _ _).alloc (Nat.le_refl _) _).alloc (by simp) _⟩
          · have eB' : B = false := by rw [← unhide eB]; simp [fmF, hlo, hhi]
            subst eB'
            clear eB
            go_enter Tryd.func66, Tryd.ntmps66
            go_wp2
            go_ret
            exact ⟨rfl, ((Below.refl _ _).alloc (Nat.le_refl _) _).alloc (by simp) _⟩
        · have eB' : B = false := by rw [← unhide eB]; simp [fmF, hlo]
          subst eB'
          clear eB
          go_enter Tryd.func66, Tryd.ntmps66
          go_wp2
          go_ret
          exact ⟨rfl, ((Below.refl _ _).alloc (Nat.le_refl _) _).alloc (by simp) _⟩
      | false =>
        by_cases hp : n = 0
        · subst hp
          by_cases hlo : lo ≤ f
          · by_cases hhi : f ≤ hi
            · by_cases hvs : (m : Int) ≤ vs
              · cases sq with
                | true =>
                  have eB' : B = true := by rw [← unhide eB]; simp [fmF, hlo, hhi, hvs]
                  subst eB'
                  clear eB
                  go_enter Tryd.func66, Tryd.ntmps66
                  go_wp2
                  go_ret
                  exact ⟨rfl, ((Below.refl _ _).alloc (Nat.le_refl _) _).alloc (by simp) _⟩
                | false =>
                  by_cases he : e = 0
                  · subst he
                    by_cases hg : g = 0
                    · subst hg
                      have eB' : B = true := by rw [← unhide eB]; simp [fmF, hlo, hhi, hvs]
                      subst eB'
                      clear eB
                      go_enter Tryd.func66, Tryd.ntmps66
                      go_wp2
                      go_ret
                      exact ⟨rfl, ((Below.refl _ _).alloc (Nat.le_refl _) _).alloc (by simp) _⟩
                    · have hg' : (g == 0) = false := by simp [hg]
                      have eB' : B = false := by rw [← unhide eB]; simp [fmF, hlo, hhi, hvs, hg]
                      subst eB'
                      clear eB
                      go_enter Tryd.func66, Tryd.ntmps66
                      go_wp2
                      go_ret
                      exact ⟨rfl, ((Below.refl _ _).alloc (Nat.le_refl _) _).alloc (by simp) _⟩
                  · have he' : (e == 0) = false := by simp [he]
                    have eB' : B = false := by rw [← unhide eB]; simp [fmF, hlo, hhi, hvs, he]
                    subst eB'
                    clear eB
                    go_enter Tryd.func66, Tryd.ntmps66
                    go_wp2
                    go_ret
                    exact ⟨rfl, ((Below.refl _ _).alloc (Nat.le_refl _) _).alloc (by simp) _⟩
              · have eB' : B = false := by rw [← unhide eB]; simp [fmF, hlo, hhi, hvs]
                subst eB'
                clear eB
                go_enter Tryd.func66, Tryd.ntmps66
                go_wp2
                go_ret
                exact ⟨rfl, ((Below.refl _ _).alloc (Nat.le_refl _) _).alloc (by simp) _⟩
            · have eB' : B = false := by rw [← unhide eB]; simp [fmF, hlo, hhi]
              subst eB'
              clear eB
              go_enter Tryd.func66, Tryd.ntmps66
              go_wp2
              go_ret
              exact ⟨rfl, ((Below.refl _ _).alloc (Nat.le_refl _) _).alloc (by simp) _⟩
          · have eB' : B = false := by rw [← unhide eB]; simp [fmF, hlo]
            subst eB'
            clear eB
            go_enter Tryd.func66, Tryd.ntmps66
            go_wp2
            go_ret
            exact ⟨rfl, ((Below.refl _ _).alloc (Nat.le_refl _) _).alloc (by simp) _⟩
        · have hp' : ((n : Int) == 0) = false := by simp [hp]
          have eB' : B = false := by rw [← unhide eB]; simp [fmF, hp]
          subst eB'
          clear eB
          go_enter Tryd.func66, Tryd.ntmps66
          go_wp2
          go_ret
          exact ⟨rfl, ((Below.refl _ _).alloc (Nat.le_refl _) _).alloc (by simp) _⟩
    · have hs' : (s == 0) = false := by simp [hs]
      have eB' : B = false := by rw [← unhide eB]; simp [fmF, hs]
      subst eB'
      clear eB
      go_enter Tryd.func66, Tryd.ntmps66
      go_wp2
      go_ret
      exact ⟨rfl, ((Below.refl _ _).alloc (Nat.le_refl _) _).alloc (by simp) _⟩
end Go.Proofs.YtekooebndehokaaDoor
