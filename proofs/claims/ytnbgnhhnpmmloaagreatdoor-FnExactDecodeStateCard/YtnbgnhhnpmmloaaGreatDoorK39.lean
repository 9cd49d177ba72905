import Derived.Test.YtnbgnhhnpmmloaaGreatDoorK38
namespace Go.Proofs.YtnbgnhhnpmmloaaGreatDoor
open Go.ChangeShapes Go.WideShapes Go.ChangeAt Go.RowKit
set_option linter.unusedVariables false
set_option linter.unusedSimpArgs false
set_option maxRecDepth 100000
abbrev blk (g : Nat) : Value := .slice (some ⟨g, 0, none⟩) 0 0
def RdB (R : Nat) (w : World) (p : Option Addr) (m : List Int) : Prop := m = [] ∨ ∃ b o, b < R ∧ p = some ⟨b, o, none⟩ ∧ ∀ i, i < m.length → w.cell? ⟨b, o + i, none⟩ = some (.int .u8 (m.getD i 0))
theorem RdB.rd {R : Nat} {w : World} {p : Option Addr} {m : List Int} {n c : Nat} (h : RdB R w p m) (e : m.length = n) : Rd w (.slice p n c) m := by
 refine ⟨p, c, by rw [e], ?_⟩
 rcases h with h | ⟨b, o, _, h2, h3⟩
 ·exact .inl h
 ·exact .inr ⟨b, o, h2, h3⟩
theorem RdB.set {R : Nat} {w : World} {p : Option Addr} {m : List Int} (h : RdB R w p m) (o : Nat) (v : Value) : RdB R (w.setCell ⟨R, o, none⟩ v) p m := by
 rcases h with h | ⟨b, o', h1, h2, h3⟩
 ·exact .inl h
 ·refine .inr ⟨b, o', h1, h2, fun i hi => ?_⟩
  rw [World.cell?_setCell_other _ _ _ _ (by simp; try omega)]
  exact h3 i hi
theorem RdB.tail {R : Nat} {w : World} {b o : Nat} {x : Int} {m : List Int} (h : RdB R w (some ⟨b, o, none⟩) (x :: m)) : RdB R w (some ⟨b, o + 1, none⟩) m := by
 rcases h with h | ⟨b', o', h1, h2, h3⟩
 ·cases h
 ·simp at h2
  obtain ⟨rfl, rfl⟩ := h2
  refine .inr ⟨b, o + 1, h1, rfl, fun i hi => ?_⟩
  have := h3 (i + 1) (by simp; omega)
  rw [show o + 1 + i = o + (i + 1) by omega, this]
  simp
def Rdr (w : World) (R : Nat) (m : List Int) (n : Nat) (sh : Bool) : Prop :=
 m.length = n ∧ (∀ o, w.frozen? ⟨R, o, none⟩ = false) ∧ ∃ p c, At2 w R (.slice p n c) (.bool sh) ∧ RdB R w p m ∧ n ≤ c ∧ ((p = none ∧ c = 0) ∨ ∃ b o, p = some ⟨b, o, none⟩)
theorem kept_set {w : World} {R o : Nat} {v : Value} : Kept [blk R] w (w.setCell ⟨R, o, none⟩ v) := by
 refine ⟨rfl, rfl, rfl, by simp, fun k hk hne => ?_⟩
 have : k ≠ R := fun e => hne (blk R) (by simp) (by rw [e]; rfl)
 simp [World.setCell, Array.getElem?_modify]
 intro e
 exact absurd e.symm this
set_option maxHeartbeats 800000 in
theorem small_some (R : Nat) (x : Int) (m : List Int) (n : Nat) (sh : Bool) (w : World) (h : Rdr w R (x :: m) (n + 1) sh) (hx : 0 ≤ x ∧ x < 256) (hl : n ≤ 1048576) :
  Calls Tryz.prog 66 #[.pointer (some ⟨R, 0, none⟩)] w fun e w' => e = .returned (.int .i64 x) ∧ Rdr w' R m n sh ∧ Kept [blk R] w w' := by
 obtain ⟨hlen, hf, p, c, ⟨h0, h1⟩, hr, hc, hp⟩ := h
 have hlm : m.length = n := by simpa using hlen
 obtain ⟨b, o, rfl⟩ : ∃ b o, p = some ⟨b, o, none⟩ := by
  rcases hp with h | h
  ·omega
  ·exact h
 have hbR : b < R := by
  rcases hr with h | ⟨b', o', h1, h2, _⟩
  ·cases h
  ·simp at h2; omega
 have hc0 : w.cell? ⟨b, o, none⟩ = some (.int .u8 x) := by
  rcases hr with h | ⟨b', o', h1, h2, h3⟩
  ·cases h
  ·simp at h2
   obtain ⟨rfl, rfl⟩ := h2
   simpa using h3 0 (by simp)
 have g1 : ((n : Int) + 1 == 0) = false := by simp; omega
 have wx : IntKind.i64.wrap x = x := IntWalk.i64_in _ (by omega)
 have k1 : (1 : Int) ≤ (n : Int) + 1 := by omega
 have k2 : (n : Int) + 1 ≤ (c : Int) := by omega
 have k3 : (1 : Int) ≤ (c : Int) := by omega
 have HR := hide hr
 clear hr hp hlen
 by_cases hc1 : c = 1
 ·subst hc1
  have hn0 : n = 0 := by omega
  subst hn0
  have hm0 : m = [] := List.length_eq_zero_iff.1 hlm
  subst hm0
  go_enter Tryz.func66, Tryz.ntmps66
  go_wp2
  go_ret
  refine ⟨rfl, ⟨rfl, fun o => by simp [hf], some ⟨b, o, none⟩, 0, ⟨by simp [go_sem, h0], by simp [go_sem, h1]⟩, .inl rfl, by omega, .inr ⟨b, o, rfl⟩⟩, kept_set⟩
 ·have hc1' : ¬ (c : Int) = 1 := by omega
  go_enter Tryz.func66, Tryz.ntmps66
  go_wp2
  go_ret
  exact ⟨rfl, ⟨hlm, fun o => by simp [hf], some ⟨b, o + 1, none⟩, c - 1, ⟨by simp [go_sem, h0], by simp [go_sem, h1]⟩, (uh HR).tail.set _ _, by omega, .inr ⟨b, o + 1, rfl⟩⟩, kept_set⟩
set_option maxHeartbeats 800000 in
theorem small_none (R : Nat) (sh : Bool) (w : World) (h : Rdr w R [] 0 sh) :
  Calls Tryz.prog 66 #[.pointer (some ⟨R, 0, none⟩)] w fun e w' => e = .returned (.int .i64 0) ∧ Rdr w' R [] 0 true ∧ Kept [blk R] w w' := by
 obtain ⟨hlen, hf, p, c, ⟨h0, h1⟩, hr, hc, hp⟩ := h
 go_enter Tryz.func66, Tryz.ntmps66
 go_wp2
 go_ret
 exact ⟨rfl, ⟨rfl, fun o => by simp [hf], p, c, ⟨by simp [go_sem, h0], by simp [go_sem, h1]⟩, .inl rfl, hc, hp⟩, kept_set⟩
def sB : List Int → Bool → Int × List Int × Bool
 | [], _ => (0, [], true)
 | c :: t, sh => (c, t, sh)
theorem small_any (R : Nat) (m : List Int) (n : Nat) (sh : Bool) (w : World) (h : Rdr w R m n sh) (hb : Byt m) (hl : n ≤ 1048576) (x : Int) (m' : List Int) (sh' : Bool) (e : Hid (sB m sh = (x, m', sh'))) :
  Calls Tryz.prog 66 #[.pointer (some ⟨R, 0, none⟩)] w fun e w' => e = .returned (.int .i64 x) ∧ Rdr w' R m' m'.length sh' ∧ Kept [blk R] w w' := by
 have e := uh e
 cases m with
 | nil =>
  simp [sB] at e
  obtain ⟨rfl, rfl, rfl⟩ := e
  have hn : n = 0 := h.1.symm
  subst hn
  exact small_none R sh w h
 | cons c t =>
  simp [sB] at e
  obtain ⟨rfl, rfl, rfl⟩ := e
  have hn : n = t.length + 1 := by have := h.1; simpa using this.symm
  subst hn
  exact small_some R c t t.length sh w h (hb c (by simp)) (by omega)
def sN : Nat → Nat → Int → List Int → Bool → Int × List Int × Bool
 | 0, _, a, m, sh => (a, m, sh)
 | f + 1, k, a, m, sh => if (sB m sh).1 < 128 then (accN k a (sB m sh).1, (sB m sh).2) else sN f (k + 1) (accN k a (sB m sh).1) (sB m sh).2.1 (sB m sh).2.2
theorem sB_byt {m : List Int} {sh : Bool} (h : Byt m) : Byt (sB m sh).2.1 ∧ 0 ≤ (sB m sh).1 ∧ (sB m sh).1 < 256 ∧ (sB m sh).2.1.length ≤ m.length := by
 cases m with
 | nil => exact ⟨fun z hz => by simp [sB] at hz, by simp [sB], by simp [sB], by simp [sB]⟩
 | cons c t => exact ⟨fun z hz => h z (by simp [sB] at hz; simp [hz]), (h c (by simp)).1, (h c (by simp)).2, by simp [sB]⟩
set_option maxHeartbeats 1600000 in
theorem number_any (R : Nat) (m : List Int) (n : Nat) (sh : Bool) (w : World) (h : Rdr w R m n sh) (hb : Byt m) (hl : n ≤ 1048576) (x : Int) (m' : List Int) (sh' : Bool) (e : Hid (sN 10 0 0 m sh = (x, m', sh'))) :
  Calls Tryz.prog 36 #[.pointer (some ⟨R, 0, none⟩)] w fun e w' => e = .returned (.int .u64 x) ∧ Rdr w' R m' m'.length sh' ∧ Kept [blk R] w w' := by
 go_enter Tryz.func36, Tryz.ntmps36
 go_wp2_with fail
 go_loopw [3, 6] (fun nv iv wr => ∃ (v : Int) (k : Nat) (m1 : List Int) (sh1 : Bool) (n1 : Nat), nv = .int .u64 v ∧ k ≤ 10 ∧ iv = .int .i64 k ∧ Hid (sN (10 - k) k v m1 sh1 = (x, m', sh')) ∧ Hid (Byt m1) ∧ n1 ≤ n ∧ Hid (Rdr wr R m1 n1 sh1) ∧ Kept [blk R] w wr) (fun _ iv _ => 10 - (intOf iv).toNat)
 case atStart => exact ⟨0, 0, m, sh, n, rfl, by omega, rfl, e, hb, Nat.le_refl _, h, Kept.refl _ _⟩
 case round =>
  obtain ⟨v, k, m1, sh1, n1, rfl, hk, rfl, hN, hB1, hn1, hR, hK⟩ := hrel
  by_cases h10 : k < 10
  ·have h10' : (k : Int) < 10 := by omega
   have hN2 := uh hN
   rw [show 10 - k = (9 - k) + 1 by omega, sN] at hN2
   have hby := sB_byt (sh := sh1) (uh hB1)
   obtain ⟨⟨c, m2, sh2⟩, eS⟩ : ∃ y, sB m1 sh1 = y := ⟨_, rfl⟩
   rw [eS] at hN2 hby
   obtain ⟨hB2, hc0, hc1, hl2⟩ := hby
   dsimp only at hN2 hB2 hc0 hc1 hl2
   have hm1 : m1.length = n1 := (uh hR).1
   have hl3 : m2.length ≤ n := by omega
   have w7 : IntKind.i64.wrap (7 * (k : Int)) = 7 * (k : Int) := IntWalk.i64_in _ (by omega)
   have w70 : ¬ 7 * (k : Int) < 0 := by omega
   have HB2 := hide hB2
   clear hN hB2 hm1 hl2
   go_wp2_with fail
   refine (small_any R m1 n1 sh1 _ (uh hR) (uh hB1) (by omega) c m2 sh2 eS).mono ?_
   rintro r w2 ⟨rfl, hR2, hK2⟩
   have HR2 := hide hR2
   have HK2 := hide (hK.trans hK2)
   clear hR2 hK2 eS
   by_cases hc : c < 128
   ·rw [if_pos hc] at hN2
    simp only [Prod.mk.injEq] at hN2
    obtain ⟨e1, rfl, rfl⟩ := hN2
    have E1 := hide e1
    clear e1
    go_wp2
    go_ret
    exact ⟨by rw [← uh E1]; rfl, uh HR2, uh HK2⟩
   ·have hc' : ¬ c < 128 := hc
    rw [if_neg hc] at hN2
    have hN3 : Hid (sN (10 - (k + 1)) (k + 1) (accN k v c) m2 sh2 = (x, m', sh')) := by
     show _ = _
     rw [show 10 - (k + 1) = 9 - k by omega]
     exact hN2
    clear hN2
    go_wp2
    go_roundw
    case rel => exact ⟨accN k v c, k + 1, m2, sh2, m2.length, rfl, by omega, by go_num, hN3, HB2, hl3, HR2, uh HK2⟩
    case measure => simp [intOf]; omega
  ·have h10' : ¬ (k : Int) < 10 := by omega
   have hN2 := uh hN
   rw [show 10 - k = 0 by omega, sN] at hN2
   simp only [Prod.mk.injEq] at hN2
   obtain ⟨rfl, rfl, rfl⟩ := hN2
   have hm1 : m1.length = n1 := (uh hR).1
   subst hm1
   clear hN
   go_wp2
   go_ret
   exact ⟨rfl, uh hR, hK⟩
def sT (m : List Int) (sh : Bool) : List Int × List Int × Bool :=
 if ((sN 10 0 0 m sh).2.1.length : Int) < (sN 10 0 0 m sh).1 then ([], (sN 10 0 0 m sh).2.1, true)
 else ((sN 10 0 0 m sh).2.1.take (sN 10 0 0 m sh).1.toNat, (sN 10 0 0 m sh).2.1.drop (sN 10 0 0 m sh).1.toNat, (sN 10 0 0 m sh).2.2)
theorem sN_byt (f : Nat) : ∀ (k : Nat) (a : Int) (m : List Int) (sh : Bool), Byt m → (0 ≤ a ∧ a < 18446744073709551616) → Byt (sN f k a m sh).2.1 ∧ (sN f k a m sh).2.1.length ≤ m.length ∧ 0 ≤ (sN f k a m sh).1 ∧ (sN f k a m sh).1 < 18446744073709551616 := by
 induction f with
 | zero => intro k a m sh hb ha; exact ⟨hb, Nat.le_refl _, ha.1, ha.2⟩
 | succ f ih =>
  intro k a m sh hb ha
  rw [sN]
  obtain ⟨h1, h2, h3, h4⟩ := sB_byt (sh := sh) hb
  split
  ·exact ⟨h1, h4, accN_range _ _ _⟩
  ·obtain ⟨i1, i2, i3⟩ := ih (k + 1) (accN k a (sB m sh).1) _ (sB m sh).2.2 h1 (accN_range _ _ _)
   exact ⟨i1, by omega, i3⟩
theorem joined1 (X : World) (v0 : Value) (l0 : List Int) (N : Nat) (en : Hid (l0.length = N)) (r0 : Rd X v0 l0) (hl : N ≤ 4194304) :
  Calls Tryz.prog 54 #[.slice (some ⟨X.heap.size, 0, none⟩) 1 1] (X.alloc (.cells #[v0] 22)) fun e w' => ∃ p' c', e = .returned (.slice p' N c') ∧ Own X.heap.size w' (.slice p' N c') l0 ∧ Below X.heap.size X w' := by
 have ba : Below X.heap.size X (X.alloc (.cells #[v0] 22)) := (Below.refl _ _).alloc (Nat.le_refl _) _
 refine (joined_any X.heap.size [v0] [l0] l0 N 1 rfl (by show _ = _; simp [cat]) en _ ⟨rfl, fun j v x e1 e2 => ?_⟩ hl (by omega)).mono ?_
 ·match j, e1, e2 with
  | 0, e1, e2 => simp at e1 e2; subst e1 e2; exact ⟨by simp, r0.below ba⟩
 ·rintro e w' ⟨p', c', rfl, o, hb⟩
  exact ⟨p', c', rfl, Own.mono o (by simp), Below.step ba hb⟩
theorem RdB.below {R : Nat} {w w' : World} {p : Option Addr} {m : List Int} (h : RdB R w p m) (hb : Below w.heap.size w w') : RdB R w' p m := by
 rcases h with h | ⟨b, o', h1, h2, h3⟩
 ·exact .inl h
 ·exact .inr ⟨b, o', h1, h2, fun i hi => cell_below (h3 i hi) hb⟩
theorem RdB.take {R : Nat} {w : World} {p : Option Addr} {m : List Int} (h : RdB R w p m) (V : Nat) : RdB R w p (m.take V) := by
 rcases h with h | ⟨b, o', h1, h2, h3⟩
 ·exact .inl (by rw [h]; simp)
 ·refine .inr ⟨b, o', h1, h2, fun i hi => ?_⟩
  rw [List.length_take] at hi
  rw [h3 i (by omega)]
  simp [List.getD, List.getElem?_take, show i < V by omega]
theorem RdB.drop {R : Nat} {w : World} {b o : Nat} {m : List Int} (h : RdB R w (some ⟨b, o, none⟩) m) (V : Nat) : RdB R w (some ⟨b, o + V, none⟩) (m.drop V) := by
 rcases h with h | ⟨b', o', h1, h2, h3⟩
 ·exact .inl (by rw [h]; simp)
 ·simp at h2
  obtain ⟨rfl, rfl⟩ := h2
  refine .inr ⟨b, o + V, h1, rfl, fun i hi => ?_⟩
  rw [List.length_drop] at hi
  rw [Nat.add_assoc, h3 (V + i) (by omega)]
  simp [List.getD]
set_option maxHeartbeats 1600000 in
theorem text_any (R : Nat) (m : List Int) (n : Nat) (sh : Bool) (w : World) (h : Rdr w R m n sh) (hb : Byt m) (hl : n ≤ 1048576) (hRw : R < w.heap.size) (x m' : List Int) (sh' : Bool) (e : Hid (sT m sh = (x, m', sh'))) (N : Nat) (eN : Hid (x.length = N)) :
  Calls Tryz.prog 67 #[.pointer (some ⟨R, 0, none⟩)] w fun r w' => ∃ p' c', r = .returned (.slice p' N c') ∧ Own w.heap.size w' (.slice p' N c') x ∧ Rdr w' R m' m'.length sh' ∧ Kept [blk R] w w' := by
 have hby := sN_byt 10 0 0 m sh hb (by omega)
 obtain ⟨⟨v, m1, sh1⟩, eS⟩ : ∃ y, sN 10 0 0 m sh = y := ⟨_, rfl⟩
 have e2 := uh e
 rw [sT, eS] at e2
 rw [eS] at hby
 obtain ⟨hB1, hl1, v0, v1⟩ := hby
 dsimp only at e2 hB1 hl1 v0 v1
 rw [h.1] at hl1
 obtain ⟨n1, en1⟩ : ∃ n1, m1.length = n1 := ⟨_, rfl⟩
 rw [en1] at e2 hl1
 have wn : IntKind.u64.wrap (n1 : Int) = (n1 : Int) := by rw [IntKind.wrap_u64]; omega
 go_enter Tryz.func67, Tryz.ntmps67
 go_wp2_with fail
 refine (number_any R m n sh _ h hb hl v m1 sh1 eS).mono ?_
 rintro r w1 ⟨rfl, hR1, hK1⟩
 rw [en1] at hR1
 have HR1 := hide hR1
 obtain ⟨_, hf, p, c, ⟨h0, h1⟩, hr, hc, hp⟩ := hR1
 by_cases hv : (n1 : Int) < v
 ·rw [if_pos hv] at e2
  simp only [Prod.mk.injEq] at e2
  obtain ⟨rfl, rfl, rfl⟩ := e2
  have hN0 : N = 0 := by rw [← uh eN]; rfl
  subst hN0
  have HV1 := hide v1
  clear v1
  go_wp2
  go_ret
  refine ⟨none, 0, rfl, World.ownsRow_nil _ _ _ _, ?_, hK1.trans kept_set⟩
  rw [en1]
  exact ⟨en1, fun o => by simp [hf], p, c, ⟨by simp [go_sem, h0], by simp [go_sem, h1]⟩, hr.set _ _, hc, hp⟩
 ·rw [if_neg hv] at e2
  obtain ⟨V, rfl⟩ : ∃ V : Nat, v = (V : Int) := ⟨v.toNat, by omega⟩
  have eV : ((V : Int)).toNat = V := by omega
  rw [eV] at e2
  simp only [Prod.mk.injEq] at e2
  obtain ⟨ex, em, es⟩ := e2
  have hVn : V ≤ n1 := by omega
  have hNV : N = V := by rw [← uh eN, ← ex, List.length_take, en1]; omega
  subst hNV
  have hml : m'.length = n1 - N := by rw [← em, List.length_drop, en1]
  have hv' : ¬ (n1 : Int) < (N : Int) := hv
  have k2 : (N : Int) ≤ (c : Int) := by omega
  have k3 : (N : Int) ≤ (n1 : Int) := by omega
  have k4 : (n1 : Int) ≤ (c : Int) := by omega
  have hRw1 : R < w1.heap.size := World.block_lt_of_cell? w1 _ h0
  have HX := hide (And.intro ex (And.intro em hml))
  have rx : Rd w1 (.slice p N c) x := by rw [← ex]; exact (hr.take N).rd (by rw [ex]; exact uh eN)
  have HRX := hide rx
  have HRR := hide hr
  have zK := hK1.size
  have hNb : N ≤ 4194304 := by omega
  clear v0 v1 eV hb hB1 ex em rx hr h eS e
  go_wp2_with fail
  refine (joined1 w1 (.slice p N c) x N eN (uh HRX) hNb).mono ?_
  rintro r w2 ⟨p2, c2, rfl, o2, b2⟩
  have i0 := cell_below h0 b2
  have i1 := cell_below h1 b2
  have if' := frozen_bel hf hRw1 b2
  have z2 := b2.size
  have HK2 := hide (hK1.trans (Kept.of_below b2))
  have HO2 := hide o2
  have hr2 := hide ((uh HRR).below b2)
  clear h0 h1 hf b2 o2 hK1 HRR HRX
  rcases hp with ⟨rfl, rfl⟩ | ⟨b, o, rfl⟩
  ·have hn0 : n1 = 0 := by omega
   subst hn0
   have hN0 : N = 0 := by omega
   subst hN0
   go_wp2
   go_ret
   refine ⟨p2, c2, rfl, Own.mono (B := w1.heap.size) ?_ (by omega), ?_, (uh HK2).trans kept_set⟩
   ·exact ownsRow_setCell_below (uh HO2) (by simp; omega) _
   ·have hm0 : m' = [] := List.length_eq_zero_iff.1 (uh HX).2.2
    rw [hm0, ← es]
    exact ⟨rfl, fun o => by simp [if'], none, 0, ⟨by simp [go_sem, i0], by simp [go_sem, i1]⟩, .inl rfl, by simp, .inl ⟨rfl, rfl⟩⟩
  ·by_cases hcN : c = N
   ·subst hcN
    have hn1 : n1 = c := by omega
    subst hn1
    go_wp2
    go_ret
    refine ⟨p2, c2, rfl, Own.mono (B := w1.heap.size) ?_ (by omega), ?_, (uh HK2).trans kept_set⟩
    ·exact ownsRow_setCell_below (uh HO2) (by simp; omega) _
    ·have hm0 : m' = [] := List.length_eq_zero_iff.1 (by rw [(uh HX).2.2]; omega)
     rw [hm0, ← es]
     exact ⟨rfl, fun o => by simp [if'], some ⟨b, o, none⟩, 0, ⟨by simp [go_sem, i0], by simp [go_sem, i1]⟩, .inl rfl, by simp, .inr ⟨b, o, rfl⟩⟩
   ·have hcN' : ¬ (c : Int) = (N : Int) := by omega
    go_wp2
    go_ret
    refine ⟨p2, c2, rfl, Own.mono (B := w1.heap.size) ?_ (by omega), ?_, (uh HK2).trans kept_set⟩
    ·exact ownsRow_setCell_below (uh HO2) (by simp; omega) _
    ·rw [← es, (uh HX).2.2]
     refine ⟨(uh HX).2.2, fun o => by simp [if'], some ⟨b, o + N, none⟩, c - N, ⟨by simp [go_sem, i0], by simp [go_sem, i1]⟩, ?_, by omega, .inr ⟨b, o + N, rfl⟩⟩
     have := (uh hr2).drop N
     rw [(uh HX).2.1] at this
     exact this.set _ _
theorem sN_of_rvF (f : Nat) : ∀ (k : Nat) (a : Int) (m : List Int) (v : Int) (t : List Int) (sh : Bool), rvF f k a m = some (v, t) → sN f k a m sh = (v, t, sh) := by
 induction f with
 | zero => intro k a m v t sh h; simp [rvF] at h
 | succ f ih =>
  intro k a m v t sh h
  cases m with
  | nil => simp [rvF] at h
  | cons c m =>
   rw [rvF] at h
   rw [sN]
   show (if c < 128 then (accN k a c, m, sh) else sN f (k + 1) (accN k a c) m sh) = _
   split at h
   ·next hc => rw [if_pos hc]; simp at h; rw [h.1, h.2]
   ·next hc => rw [if_neg hc]; exact ih _ _ _ _ _ _ h
theorem sN_vi (s : Nat) (rest : List Int) (sh : Bool) (hs : s < 18446744073709551616) : sN 10 0 0 (vi s ++ rest) sh = ((s : Int), rest, sh) := sN_of_rvF 10 0 0 _ _ _ sh (rv_vi s rest hs)
theorem sT_tx (P rest : List Int) (sh : Bool) (h : P.length < 18446744073709551616) : sT (tx P ++ rest) sh = (P, rest, sh) := by
 rw [sT, tx, List.append_assoc, sN_vi _ _ _ h]
 simp only [List.length_append]
 rw [if_neg (by omega)]
 simp
theorem sB_mono {m : List Int} {sh : Bool} (h : sh = true) : (sB m sh).2.2 = true := by
 cases m with
 | nil => rfl
 | cons c t => exact h
theorem sN_mono (f : Nat) : ∀ (k : Nat) (a : Int) (m : List Int) (sh : Bool), sh = true → (sN f k a m sh).2.2 = true := by
 induction f with
 | zero => intro k a m sh h; exact h
 | succ f ih =>
  intro k a m sh h
  rw [sN]
  split
  ·exact sB_mono h
  ·exact ih _ _ _ _ (sB_mono h)
theorem sT_mono {m : List Int} {sh : Bool} (h : sh = true) : (sT m sh).2.2 = true := by
 rw [sT]
 split
 ·rfl
 ·exact sN_mono _ _ _ _ _ h
theorem sT_byt {m : List Int} {sh : Bool} (h : Byt m) : Byt (sT m sh).1 ∧ Byt (sT m sh).2.1 ∧ (sT m sh).1.length ≤ m.length ∧ (sT m sh).2.1.length ≤ m.length := by
 obtain ⟨h1, h2, h3, h4⟩ := sN_byt 10 0 0 m sh h (by omega)
 rw [sT]
 split
 ·exact ⟨fun z hz => by simp at hz, h1, by simp, h2⟩
 ·refine ⟨fun z hz => h1 z (List.mem_of_mem_take hz), fun z hz => h1 z (List.mem_of_mem_drop hz), ?_, ?_⟩
  ·rw [List.length_take]; omega
  ·rw [List.length_drop]; omega
theorem Own.keptR {B R : Nat} {w w' : World} {v : Value} {l : List Int} (h : Own B w v l) (hk : Kept [blk R] w w') (hR : R < B) : Own B w' v l := by
 refine Own.keptBy (vs := [blk R]) h hk ?_
 intro x hx k e1 e2
 simp only [List.mem_singleton] at hx
 subst hx
 simp [Value.ownBlock] at e2
 have := h.lt k e1
 omega
theorem below_keptR {R : Nat} {w0 w w' : World} (h : Below w0.heap.size w0 w) (hk : Kept [blk R] w w') (hR : w0.heap.size ≤ R) : Below w0.heap.size w0 w' :=
 h.trans (hk.below h.size (fun v hv b e => by simp only [List.mem_singleton] at hv; subst hv; simp [Value.ownBlock] at e; omega))
def rL {α σ : Type} (f : σ → α × σ) : Nat → σ → List α × σ
 | 0, o => ([], o)
 | k + 1, o => ((rL f k o).1 ++ [(f (rL f k o).2).1], (f (rL f k o).2).2)
theorem rL_cons {α σ : Type} (f : σ → α × σ) (k : Nat) (o : σ) : rL f (k + 1) o = ((f o).1 :: (rL f k (f o).2).1, (rL f k (f o).2).2) := by
 induction k with
 | zero => rfl
 | succ k ih => rw [rL, ih]; rfl
theorem rL_len {α σ : Type} (f : σ → α × σ) (k : Nat) (o : σ) : (rL f k o).1.length = k := by
 induction k with
 | zero => rfl
 | succ k ih => rw [rL, List.length_append, ih]; rfl
theorem rL_read {α : Type} (f : Option (List Int) → α × Option (List Int)) (g : α → List Int) : ∀ (xs : List α) (rest : List Int), (∀ x ∈ xs, ∀ r, f (some (g x ++ r)) = (x, some r)) → rL f xs.length (some (cat (xs.map g) ++ rest)) = (xs, some rest)
 | [], rest, _ => rfl
 | x :: xs, rest, h => by
  rw [List.length_cons, rL_cons, List.map_cons, cat, List.flatten_cons, List.append_assoc, h x (by simp)]
  have := rL_read f g xs rest fun y hy => h y (by simp [hy])
  rw [cat] at this
  simp only [this]
def spNod (o : Option (List Int)) : Option (Nod × Option (List Int)) :=
 let a := oT o
 let b := oT a.2
 let c := oV b.2
 let d := oB c.2
 let h := oV d.2
 if h.2 = none ∨ 50 < h.1 then none
 else
  let l := rL oV h.1.toNat h.2
  let e := oV l.2
  let g := oV e.2
  some (⟨a.1, b.1, c.1, d.1, l.1, e.1, g.1, []⟩, g.2)
def spNods : Nat → Option (List Int) → Option (List Nod × Option (List Int))
 | 0, o => some ([], o)
 | k + 1, o => (spNods k o).bind fun r => (spNod r.2).map fun q => (r.1 ++ [q.1], q.2)
theorem spNods_cons (k : Nat) (o : Option (List Int)) : spNods (k + 1) o = (spNod o).bind fun q => (spNods k q.2).map fun r => (q.1 :: r.1, r.2) := by
 induction k with
 | zero =>
  simp only [spNods, Option.bind_some, List.nil_append]
  cases spNod o <;> rfl
 | succ k ih =>
  rw [spNods, ih]
  cases spNod o with
  | none => rfl
  | some q =>
   simp only [Option.bind_some]
   rw [spNods]
   cases spNods k q.2 with
   | none => rfl
   | some r =>
    simp only [Option.map_some, Option.bind_some]
    cases spNod r.2 <;> rfl
def idS (i : Int) : Ses := (i, 0, [])
def spSt (l : List Int) : Option ((Int × Int × Int) × List Ses × List Nod × Option (List Int)) :=
 let a := oV (some l)
 let b := oV a.2
 let c := oV b.2
 let d := oV c.2
 if d.2 = none ∨ 50 < d.1 then none
 else
  let s := rL oV d.1.toNat d.2
  let m := oV s.2
  if m.2 = none ∨ 200 < m.1 then none
  else (spNods m.1.toNat m.2).map fun r => ((a.1, b.1, c.1), s.1.map idS, r.1, r.2)
def specP (l : List Int) : Option ((Int × Int × Int) × List Ses × List Nod) :=
 (spSt l).bind fun r => if r.2.2.2 ≠ none ∧ stOK r.1.1 r.1.2.1 r.1.2.2 0 r.2.1 r.2.2.1 = true ∧ stB r.1.1.toNat r.1.2.1.toNat r.1.2.2.toNat r.2.1 r.2.2.1 = l then some (r.1, r.2.1, r.2.2.1) else none
theorem oV_vi (s : Nat) (r : List Int) (h : s < 18446744073709551616) : oV (some (vi s ++ r)) = ((s : Int), some r) := by
 rw [oV, rv_vi s r h]
theorem oT_tx (P r : List Int) (h : P.length < 18446744073709551616) : oT (some (tx P ++ r)) = (P, some r) := by
 rw [oT, rt_tx P r h]
theorem oV_viI {i : Int} (h : 0 ≤ i ∧ i < 18446744073709551616) (r : List Int) : oV (some (viI i ++ r)) = (i, some r) := by
 rw [viI, oV_vi _ _ (by omega), Int.toNat_of_nonneg h.1]
theorem spNod_read {ss : List Ses} {ns : List Nod} (h : Sml ss ns) {nd : Nod} (hnd : nd ∈ ns) (hw : nd.watchers = []) (r : List Int) : spNod (some (noB nd ++ r)) = some (nd, some r) := by
 obtain ⟨⟨h1, h2, h3⟩, h4, h5, h6, h7, h8⟩ := h.d nd hnd
 have e : noB nd ++ r = tx nd.path ++ (tx nd.value ++ (viI nd.owner ++ ([nd.mode] ++ (vi nd.holders.length ++ (cat (nd.holders.map viI) ++ (viI nd.epoch ++ (viI nd.gen ++ r))))))) := by
  rw [noB, noL, liB_is]
  simp [cat, viI]
 rw [e, spNod]
 simp only [oT_tx nd.path _ (by omega), oT_tx nd.value _ (by omega), oV_viI h5, List.cons_append, List.nil_append, oB]
 rw [oV_vi nd.holders.length _ (by omega)]
 simp only [Int.toNat_natCast]
 rw [if_neg (by simp; omega), rL_read oV viI nd.holders _ fun i hi r => oV_viI (h8 i hi) r]
 simp only [oV_viI h6, oV_viI h7, Option.some.injEq, Prod.mk.injEq, and_true]
 rw [← hw]
theorem spNods_read {ss : List Ses} {ns : List Nod} (h : Sml ss ns) : ∀ (xs : List Nod) (r : List Int), (∀ x ∈ xs, x ∈ ns ∧ x.watchers = []) → spNods xs.length (some (cat (xs.map noB) ++ r)) = some (xs, some r)
 | [], r, _ => rfl
 | x :: xs, r, hx => by
  rw [List.length_cons, spNods_cons, List.map_cons, cat, List.flatten_cons, List.append_assoc, spNod_read h (hx x (by simp)).1 (hx x (by simp)).2]
  have := spNods_read h xs r fun y hy => hx y (by simp [hy])
  rw [cat] at this
  simp only [Option.bind_some, this, Option.map_some]
theorem stB_app (e g x : Nat) (ss : List Ses) (ns : List Nod) : stB e g x ss ns = vi e ++ (vi g ++ (vi x ++ (vi ss.length ++ (cat (ss.map seB) ++ (vi ns.length ++ (cat (ns.map noB) ++ [])))))) := by
 rw [stB, liB_is, liB_is]
 simp [cat]
theorem seB_ids {ss : List Ses} : ss.map seB = (ss.map (·.1)).map viI := by
 rw [List.map_map]
 rfl
theorem ids_back {ss : List Ses} (h : ∀ s ∈ ss, s.2 = (0, [])) : (ss.map (·.1)).map idS = ss := by
 rw [List.map_map]
 conv => rhs; rw [← List.map_id ss]
 refine List.map_congr_left fun s hs => ?_
 obtain ⟨a, b⟩ := s
 have := h _ hs
 simp only at this
 simp [idS, this]
theorem spSt_read {e g x : Nat} (he : e < 18446744073709551616) (hg : g < 18446744073709551616) (hx : x < 18446744073709551616) {ss : List Ses} {ns : List Nod} (h : Sml ss ns) (h1 : ∀ s ∈ ss, s.2 = (0, [])) (h2 : ∀ nd ∈ ns, nd.watchers = []) : spSt (stB e g x ss ns) = some (((e : Int), (g : Int), (x : Int)), ss, ns, some []) := by
 have n1 := h.n1
 have n2 := h.n2
 rw [stB_app, spSt]
 simp only [oV_vi e _ he, oV_vi g _ hg, oV_vi x _ hx, oV_vi ss.length _ (show ss.length < 18446744073709551616 by omega), Int.toNat_natCast]
 have hr : rL oV ss.length (some (cat (ss.map seB) ++ (vi ns.length ++ (cat (ns.map noB) ++ [])))) = (ss.map (·.1), some (vi ns.length ++ (cat (ns.map noB) ++ []))) := by
  have := rL_read oV viI (ss.map (·.1)) (vi ns.length ++ (cat (ns.map noB) ++ [])) fun i hi r => by
   obtain ⟨s, hs, rfl⟩ := List.mem_map.1 hi
   exact oV_viI (h.s s hs) r
  rw [List.length_map] at this
  rw [seB_ids, this]
 rw [if_neg (by simp; omega), hr]
 simp only [oV_vi ns.length _ (show ns.length < 18446744073709551616 by omega), Int.toNat_natCast]
 rw [if_neg (by simp; omega), spNods_read h ns [] fun y hy => ⟨hy, h2 y hy⟩, ids_back h1]
 rfl
abbrev Rs : Type := List Int × Bool
def sNs (s : Rs) : Int × Rs := sN 10 0 0 s.1 s.2
def lfK {α : Type} (f : Rs → α × Rs) : Nat → List α → Rs → List α × Rs
 | 0, acc, s => (acc, s)
 | k + 1, acc, s => if (f s).2.2 = true then ([], (f s).2) else lfK f k (acc ++ [(f s).1]) (f s).2
def lF {α : Type} (f : Rs → α × Rs) (s : Rs) : List α × Rs := lfK f (sNs s).1.toNat [] (sNs s).2
def sSe (s : Rs) : Ses × Rs := (idS (sNs s).1, (sNs s).2)
def sNo (s : Rs) : Nod × Rs :=
 let a := sT s.1 s.2
 let b := sT a.2.1 a.2.2
 let c := sNs b.2
 let d := sB c.2.1 c.2.2
 let h := lF sNs d.2
 let e := sNs h.2
 let g := sNs e.2
 (⟨a.1, b.1, c.1, d.1, h.1, e.1, g.1, []⟩, g.2)
def imSt (l : List Int) : (Int × Int × Int) × List Ses × List Nod × Rs :=
 let a := sNs (l, false)
 let b := sNs a.2
 let c := sNs b.2
 let s := lF sSe c.2
 let n := lF sNo s.2
 ((a.1, b.1, c.1), s.1, n.1, n.2)
def implP (l : List Int) : Option ((Int × Int × Int) × List Ses × List Nod) :=
 let r := imSt l
 if r.2.2.2.2 = false ∧ encR r.1.1 r.1.2.1 r.1.2.2 0 r.2.1 r.2.2.1 = l then some (r.1, r.2.1, r.2.2.1) else none
theorem sNs_vi (s : Nat) (r : List Int) (h : s < 18446744073709551616) : sNs (vi s ++ r, false) = ((s : Int), r, false) := sN_vi s r false h
theorem sNs_viI {i : Int} (h : 0 ≤ i ∧ i < 18446744073709551616) (r : List Int) : sNs (viI i ++ r, false) = (i, r, false) := by
 rw [viI, sNs_vi _ _ (by omega), Int.toNat_of_nonneg h.1]
theorem lfK_read {α : Type} (f : Rs → α × Rs) (g : α → List Int) : ∀ (xs acc : List α) (rest : List Int), (∀ x ∈ xs, ∀ r, f (g x ++ r, false) = (x, r, false)) → lfK f xs.length acc (cat (xs.map g) ++ rest, false) = (acc ++ xs, rest, false)
 | [], acc, rest, _ => by simp [lfK, cat]
 | x :: xs, acc, rest, h => by
  rw [List.length_cons, lfK, List.map_cons, cat, List.flatten_cons, List.append_assoc, h x (by simp)]
  have := lfK_read f g xs (acc ++ [x]) rest fun y hy => h y (by simp [hy])
  rw [cat] at this
  rw [if_neg (by simp)]
  simp only [this, List.append_assoc, List.cons_append, List.nil_append]
theorem lF_read {α : Type} (f : Rs → α × Rs) (g : α → List Int) (xs : List α) (rest : List Int) (hl : xs.length < 18446744073709551616) (h : ∀ x ∈ xs, ∀ r, f (g x ++ r, false) = (x, r, false)) : lF f (vi xs.length ++ (cat (xs.map g) ++ rest), false) = (xs, rest, false) := by
 rw [lF, sNs_vi _ _ hl]
 simp only [Int.toNat_natCast]
 rw [lfK_read f g xs [] rest h]
 rfl
theorem sNo_read {ss : List Ses} {ns : List Nod} (h : Sml ss ns) {nd : Nod} (hnd : nd ∈ ns) (hw : nd.watchers = []) (r : List Int) : sNo (noB nd ++ r, false) = (nd, r, false) := by
 obtain ⟨⟨h1, h2, h3⟩, h4, h5, h6, h7, h8⟩ := h.d nd hnd
 have e : noB nd ++ r = tx nd.path ++ (tx nd.value ++ (viI nd.owner ++ (nd.mode :: (vi nd.holders.length ++ (cat (nd.holders.map viI) ++ (viI nd.epoch ++ (viI nd.gen ++ r))))))) := by
  rw [noB, noL, liB_is]
  simp [cat, viI]
 rw [e, sNo]
 simp only [sT_tx nd.path _ false (by omega), sT_tx nd.value _ false (by omega), sNs_viI h5, sB]
 rw [lF_read sNs viI nd.holders _ (by omega) fun i hi r => sNs_viI (h8 i hi) r]
 simp only [sNs_viI h6, sNs_viI h7, Prod.mk.injEq, and_true]
 rw [← hw]
theorem imSt_read {e g x : Nat} (he : e < 18446744073709551616) (hg : g < 18446744073709551616) (hx : x < 18446744073709551616) {ss : List Ses} {ns : List Nod} (h : Sml ss ns) (h1 : ∀ s ∈ ss, s.2 = (0, [])) (h2 : ∀ nd ∈ ns, nd.watchers = []) : imSt (stB e g x ss ns) = (((e : Int), (g : Int), (x : Int)), ss, ns, [], false) := by
 have n1 := h.n1
 have n2 := h.n2
 rw [stB_app, imSt]
 simp only [sNs_vi e _ he, sNs_vi g _ hg, sNs_vi x _ hx]
 rw [lF_read sSe seB ss _ (by omega) fun s hs r => by
  have := sNs_viI (h.s s hs) r
  obtain ⟨a, b⟩ := s
  have hb := h1 _ hs
  simp only at hb
  rw [sSe, seB, ← viI, this]
  simp [idS, hb]]
 simp only
 rw [lF_read sNo noB ns _ (by omega) fun y hy r => sNo_read h hy (h2 y hy) r]
theorem sNs_mono {s : Rs} (h : s.2 = true) : (sNs s).2.2 = true := sN_mono 10 0 0 s.1 s.2 h
theorem lfK_mono {α : Type} (f : Rs → α × Rs) (hf : ∀ s : Rs, s.2 = true → (f s).2.2 = true) : ∀ (k : Nat) (acc : List α) (s : Rs), s.2 = true → (lfK f k acc s).2.2 = true
 | 0, _, _, h => h
 | k + 1, acc, s, h => by rw [lfK, if_pos (hf s h)]; exact hf s h
theorem lF_mono {α : Type} (f : Rs → α × Rs) (hf : ∀ s : Rs, s.2 = true → (f s).2.2 = true) (s : Rs) (h : s.2 = true) : (lF f s).2.2 = true := lfK_mono f hf _ _ _ (sNs_mono h)
theorem sNo_mono (s : Rs) (h : s.2 = true) : (sNo s).2.2 = true :=
 sNs_mono (sNs_mono (lF_mono sNs (fun _ => sNs_mono) _ (sB_mono (sNs_mono (sT_mono (sT_mono h))))))
theorem imSt_nil : (imSt []).2.2.2.2 = true := by
 have h0 : (sNs (([], false) : Rs)).2.2 = true := by
  unfold sNs
  show (sN 10 0 0 [] false).2.2 = true
  rw [sN]
  simp [sB]
 exact lF_mono sNo sNo_mono _ (lF_mono sSe (fun _ => sNs_mono) _ (sNs_mono (sNs_mono h0)))
end Go.Proofs.YtnbgnhhnpmmloaaGreatDoor
