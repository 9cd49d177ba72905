import Derived.Test.YtekooebndehokaaDoorDOi
namespace Go.Proofs.YtekooebndehokaaDoor
open Go.ChangeShapes Go.WideShapes Go.ChangeAt Go.RowKit
set_option linter.unusedVariables false
set_option linter.unusedSimpArgs false
set_option maxRecDepth 100000

/-- one byte, as the program's reader takes it -/
def sB : List Int → Bool → Int × List Int × Bool
  | [], _ => (0, [], true)
  | c :: t, sh => (c, t, sh)
theorem small_any (R : Nat) (m : List Int) (n : Nat) (sh : Bool) (w : World) (h : Rdr w R m n sh) (hb : Byt m) (hl : n ≤ 1048576) (x : Int) (m' : List Int) (sh' : Bool) (e : Hid (sB m sh = (x, m', sh'))) :
    Calls Tryd.prog 42 #[.pointer (some ⟨R, 0, none⟩)] w fun e w' => e = .returned (.int .i64 x) ∧ Rdr w' R m' m'.length sh' ∧ Kept [blk R] w w' := by
  have e := unhide e
  cases m with
  | nil =>
    simp [sB] at e
    obtain ⟨rfl, rfl, rfl⟩ := e
    have hn : n = 0 := h.1.symm
    subst hn
    exact small_none R sh w h
  | cons c t =>
    simp [sB] at e
    obtain ⟨rfl, rfl, rfl⟩ := e
    have hn : n = t.length + 1 := by have := h.1; simpa using this.symm
    subst hn
    exact small_some R c t t.length sh w h (hb c (by simp)) (by omega)
/-- a number, as the program's reader takes it -/
def sN : Nat → Nat → Int → List Int → Bool → Int × List Int × Bool
  | 0, _, a, m, sh => (a, m, sh)
  | f + 1, k, a, m, sh => if (sB m sh).1 < 128 then (accN k a (sB m sh).1, (sB m sh).2) else sN f (k + 1) (accN k a (sB m sh).1) (sB m sh).2.1 (sB m sh).2.2
theorem sB_byt {m : List Int} {sh : Bool} (h : Byt m) : Byt (sB m sh).2.1 ∧ 0 ≤ (sB m sh).1 ∧ (sB m sh).1 < 256 ∧ (sB m sh).2.1.length ≤ m.length := by
  cases m with
  | nil => exact ⟨fun z hz => by simp [sB] at hz, by simp [sB], by simp [sB], by simp [sB]⟩
  | cons c t => exact ⟨fun z hz => h z (by simp [sB] at hz; simp [hz]), (h c (by simp)).1, (h c (by simp)).2, by simp [sB]⟩

set_option maxHeartbeats 1600000 in
theorem number_any (R : Nat) (m : List Int) (n : Nat) (sh : Bool) (w : World) (h : Rdr w R m n sh) (hb : Byt m) (hl : n ≤ 1048576) (x : Int) (m' : List Int) (sh' : Bool) (e : Hid (sN 10 0 0 m sh = (x, m', sh'))) :
    Calls Tryd.prog 43 #[.pointer (some ⟨R, 0, none⟩)] w fun e w' => e = .returned (.int .u64 x) ∧ Rdr w' R m' m'.length sh' ∧ Kept [blk R] w w' := by
  go_enter Tryd.func43, Tryd.ntmps43
  go_wp2_with fail
  go_loopw [3, 6] (fun nv iv wr => ∃ (v : Int) (k : Nat) (m1 : List Int) (sh1 : Bool) (n1 : Nat), nv = .int .u64 v ∧ k ≤ 10 ∧ iv = .int .i64 k ∧ Hid (sN (10 - k) k v m1 sh1 = (x, m', sh')) ∧ Hid (Byt m1) ∧ n1 ≤ n ∧ Hid (Rdr wr R m1 n1 sh1) ∧ Kept [blk R] w wr) (fun _ iv _ => 10 - (intOf iv).toNat)
  case atStart => exact ⟨0, 0, m, sh, n, rfl, by omega, rfl, e, hb, Nat.le_refl _, h, Kept.refl _ _⟩
  case round =>
    obtain ⟨v, k, m1, sh1, n1, rfl, hk, rfl, hN, hB1, hn1, hR, hK⟩ := hrel
    by_cases h10 : k < 10
    · have h10' : (k : Int) < 10 := by omega
      have hN2 := unhide hN
      rw [show 10 - k = (9 - k) + 1 by omega, sN] at hN2
      have hby := sB_byt (sh := sh1) (unhide hB1)
      obtain ⟨⟨c, m2, sh2⟩, eS⟩ : ∃ y, sB m1 sh1 = y := ⟨_, rfl⟩
      rw [eS] at hN2 hby
      obtain ⟨hB2, hc0, hc1, hl2⟩ := hby
      dsimp only at hN2 hB2 hc0 hc1 hl2
      have hm1 : m1.length = n1 := (unhide hR).1
      have hl3 : m2.length ≤ n := by omega
      have w7 : IntKind.i64.wrap (7 * (k : Int)) = 7 * (k : Int) := IntWalk.i64_in _ (by omega)
      have w70 : ¬ 7 * (k : Int) < 0 := by omega
      have HB2 := hide hB2
      clear hN hB2 hm1 hl2
      go_wp2_with fail
      refine (small_any R m1 n1 sh1 _ (unhide hR) (unhide hB1) (by omega) c m2 sh2 eS).mono ?_
      rintro r w2 ⟨rfl, hR2, hK2⟩
      have HR2 := hide hR2
      have HK2 := hide (hK.trans hK2)
      clear hR2 hK2 eS
      by_cases hc : c < 128
      · rw [if_pos hc] at hN2
        simp only [Prod.mk.injEq] at hN2
        obtain ⟨e1, rfl, rfl⟩ := hN2
        have E1 := hide e1
        clear e1
        go_wp2
        go_ret
        exact ⟨by rw [← unhide E1]; rfl, unhide HR2, unhide HK2⟩
      · have hc' : ¬ c < 128 := hc
        rw [if_neg hc] at hN2
        have hN3 : Hid (sN (10 - (k + 1)) (k + 1) (accN k v c) m2 sh2 = (x, m', sh')) := by
          show _ = _
          rw [show 10 - (k + 1) = 9 - k by omega]
          exact hN2
        clear hN2
        go_wp2
        go_roundw
        case rel => exact ⟨accN k v c, k + 1, m2, sh2, m2.length, rfl, by omega, by go_num, hN3, HB2, hl3, HR2, unhide HK2⟩
        case measure => simp [intOf]; omega
    · have h10' : ¬ (k : Int) < 10 := by omega
      have hN2 := unhide hN
      rw [show 10 - k = 0 by omega, sN] at hN2
      simp only [Prod.mk.injEq] at hN2
      obtain ⟨rfl, rfl, rfl⟩ := hN2
      have hm1 : m1.length = n1 := (unhide hR).1
      subst hm1
      clear hN
      go_wp2
      go_ret
      exact ⟨rfl, unhide hR, hK⟩
end Go.Proofs.YtekooebndehokaaDoor
