import Derived.Test.YtnbgnhhnpmmloaaGreatDoorK8
namespace Go.Proofs.YtnbgnhhnpmmloaaGreatDoor
open Go.ChangeShapes Go.WideShapes Go.ChangeAt Go.RowKit
set_option linter.unusedVariables false
set_option linter.unusedSimpArgs false
set_option maxRecDepth 100000
theorem szLeft_cases (n : Nat) (left : Int) : (szLeft n left = -1 ∧ left < n) ∨ (∃ R : Int, szLeft n left = R ∧ 0 ≤ R ∧ R = left - n) := by
 by_cases h : left < n
 ·exact .inl ⟨szLeft_no h, h⟩
 ·exact .inr ⟨_, szLeft_yes (by omega), by omega, rfl⟩
def sumF {α : Type} (F : α → Nat) (l : List α) : Nat := (l.map F).sum
theorem sumF_step {α : Type} (F : α → Nat) {l : List α} {k : Nat} {y : α} (h : l[k]? = some y) : sumF F (l.take (k + 1)) = sumF F (l.take k) + F y := by
 rw [List.take_add_one, h]
 simp [sumF]
theorem sumF_le {α : Type} (F : α → Nat) (l : List α) (k : Nat) : sumF F (l.take k) ≤ sumF F l := by
 have : sumF F l = sumF F (l.take k) + sumF F (l.drop k) := by
  rw [sumF, sumF, sumF, List.map_take, List.map_drop, ← List.sum_append, List.take_append_drop]
 omega
theorem sumF_zero {α : Type} (F : α → Nat) (l : List α) : sumF F (l.take 0) = 0 := by simp [sumF]
set_option maxHeartbeats 400000 in
theorem szUint64S_any (p : Option Addr) (n cap : Nat) (left : Int) (w : World) (hn : n ≤ maxLen) (h0 : 0 ≤ left) (h1 : left ≤ 1048576) :
  Calls Tryz.prog 124 #[.slice p n cap, .int .i64 left] w fun e w' => e = .returned (.int .i64 (szLeft n left)) ∧ w' = w := by
 unfold maxLen at hn
 by_cases h : left - n < 0
 ·have e : szLeft n left = -1 := by unfold szLeft; rw [if_pos h]
  rw [e]
  go_enter Tryz.func124, Tryz.ntmps124
  go_wp2
  go_ret
  exact ⟨rfl, rfl⟩
 ·have e : szLeft n left = left - n := by unfold szLeft; rw [if_neg h]
  rw [e]
  go_enter Tryz.func124, Tryz.ntmps124
  go_wp2
  go_ret
  exact ⟨rfl, rfl⟩
set_option maxHeartbeats 400000 in
theorem szEvent_any (K : Int) (p : Option Addr) (n c : Nat) (left : Int) (w : World) (hn : n ≤ maxLen) (h0 : 0 ≤ left) (h1 : left ≤ 1048576) :
  Calls Tryz.prog 154 #[.agg #[.int .i64 K, .slice p n c], .int .i64 left] w fun e w' => e = .returned (.int .i64 (szLeft n left)) ∧ Below w.heap.size w w' := by
 have hc := szByteS_any p n c left
 go_enter Tryz.func154, Tryz.ntmps154
 go_wp2_with fail
 refine (hc _ hn h0 h1).mono ?_
 rintro e w' ⟨rfl, rfl⟩
 clear hc
 rcases szLeft_cases n left with ⟨e, he⟩ | ⟨R, e, hR, -⟩
 ·rw [e]
  have E := hide e
  clear e
  go_wp2
  go_ret
  exact ⟨by rw [unhide E]; rfl, (Below.refl _ _).alloc (Nat.le_refl _) _⟩
 ·rw [e]
  have E := hide e
  clear e
  have hR' : ¬ R < 0 := by omega
  go_wp2
  go_ret
  exact ⟨by rw [unhide E]; rfl, (Below.refl _ _).alloc (Nat.le_refl _) _⟩
set_option maxHeartbeats 1600000 in
theorem szEventS_any (p : Option Addr) (c n : Nat) (l : List Ev) (en : Hid (l.length = n)) (left : Int) (w : World) (h : RdE w (.slice p n c) l) (hn : n ≤ maxLen) (hel : Hid (∀ y ∈ l, y.2.length ≤ maxLen)) (h0 : 0 ≤ left) (h1 : left ≤ 1048576) :
  Calls Tryz.prog 122 #[.slice p n c, .int .i64 left] w fun r w' => r = .returned (.int .i64 (szLeft (n + sumF (fun e : Ev => e.2.length) l) left)) ∧ Below w.heap.size w w' := by
 obtain ⟨R, eR⟩ : ∃ R, szLeft (n + sumF (fun e : Ev => e.2.length) l) left = R := ⟨_, rfl⟩
 rw [eR]
 have ER := hide eR
 clear eR
 unfold maxLen at hn
 have HR := hide fun (w' : World) (hb : Below w.heap.size w w') => h.below hb
 clear h
 by_cases hln : left - n < 0
 ·have e : R = -1 := by rw [← unhide ER]; exact szLeft_no (by omega)
  subst e
  go_enter Tryz.func122, Tryz.ntmps122
  go_wp2
  go_ret
  exact ⟨rfl, Below.refl _ _⟩
 ·obtain ⟨L0, eL0⟩ : ∃ L0 : Int, left - n = L0 := ⟨_, rfl⟩
  have hL0 : ¬ L0 < 0 := by omega
  have hL1 : L0 ≤ 1048576 := by omega
  have hn2 : n ≤ 1048576 := by omega
  have wL : IntKind.i64.wrap L0 = L0 := IntWalk.i64_in _ (by omega)
  have EL := hide eL0
  clear hln hn
  go_enter Tryz.func122, Tryz.ntmps122
  go_wp2_with fail
  clear eL0
  go_loopw [1, 5] (fun lv iv wr => ∃ (k : Nat) (L : Int), k ≤ n ∧ iv = .int .i64 k ∧ lv = .int .i64 L ∧ 0 ≤ L ∧ L ≤ 1048576 ∧ Hid (L = left - n - sumF (fun e : Ev => e.2.length) (l.take k)) ∧ Below w.heap.size w wr) (fun _ iv _ => n - (intOf iv).toNat)
  case atStart => exact ⟨0, L0, Nat.zero_le _, rfl, rfl, by omega, hL1, (by show _ = _; rw [sumF_zero]; have := unhide EL; omega), Below.refl _ _⟩
  case round =>
   obtain ⟨k, L, hk, rfl, rfl, hL, hLm, hsum, hbr⟩ := hrel
   by_cases hlt : k < n
   ·have hlt' : (k : Int) < (n : Int) := by omega
    have hkl : k < l.length := by rw [unhide en]; exact hlt
    obtain ⟨y, hy⟩ : ∃ y, l[k]? = some y := ⟨_, List.getElem?_eq_getElem hkl⟩
    have hst := sumF_step (fun e : Ev => e.2.length) hy
    have hle := sumF_le (fun e : Ev => e.2.length) l (k + 1)
    have HST := hide (And.intro hst hle)
    have hby := unhide hel y (List.mem_of_getElem? hy)
    obtain ⟨K, P⟩ := y
    obtain ⟨b, o, rfl, hcK, u, hcP, hrP⟩ : ∃ b o, p = some ⟨b, o, none⟩ ∧ wr.cell? ⟨b, o + k * 2, none⟩ = some (.int .i64 K) ∧ ∃ u, wr.cell? ⟨b, o + k * 2 + 1, none⟩ = some u ∧ Rd wr u P := by
     obtain ⟨p', c', ev, hd⟩ := unhide HR _ hbr
     simp only [Value.slice.injEq] at ev
     obtain ⟨rfl, -, -⟩ := ev
     rcases hd with h0 | ⟨b, o, h1, h2⟩
     ·rw [h0] at hkl; simp at hkl
     ·exact ⟨b, o, h1, h2 k _ hy⟩
    obtain ⟨pp, pc, m, rfl, em⟩ := hrP.slc
    have hm : m ≤ maxLen := by rw [← unhide em]; exact hby
    have HY := hide hy
    clear hrP hby hy
    clear hst hle hkl
    go_wp2_with fail
    refine (szEvent_any K pp m pc L _ hm hL hLm).mono ?_
    rintro r w2 ⟨rfl, hb2⟩
    have b2 := Below.step hbr hb2
    clear hb2 hcK hcP
    rcases szLeft_cases (m) L with ⟨e, he⟩ | ⟨R', e, hR, hR2⟩
    ·have eR : R = -1 := by
      rw [← unhide ER]
      have h1 := unhide hsum
      have h2 := unhide HST
      have h3 : (K, P).2.length = m := unhide em
      simp only at h2 h3
      exact szLeft_no (by omega)
     subst eR
     rw [e]
     clear e he
     go_wp2
     go_ret
     exact ⟨rfl, b2⟩
    ·have hs2 : Hid (R' = left - n - sumF (fun e : Ev => e.2.length) (l.take (k + 1))) := by
      show _ = _
      have h1 := unhide hsum
      have h2 := unhide HST
      have h3 : (K, P).2.length = m := unhide em
      simp only at h2 h3
      omega
     have hR3 : ¬ R' < 0 := by omega
     have hR4 : R' ≤ 1048576 := by omega
     rw [e]
     clear e hR2
     go_wp2
     go_roundw
     case rel => exact ⟨k + 1, R', by omega, by go_num, rfl, hR, hR4, hs2, b2⟩
     case measure => simp [intOf]; omega
   ·have hlt' : ¬ (k : Int) < (n : Int) := by omega
    have eR : R = L := by
     rw [← unhide ER]
     have h1 := unhide hsum
     rw [List.take_of_length_le (by rw [unhide en]; omega)] at h1
     rw [szLeft_yes (by omega)]
     omega
    subst eR
    go_wp2
    go_ret
    exact ⟨rfl, hbr⟩
set_option maxHeartbeats 400000 in
theorem szSession_any (I D : Int) (p : Option Addr) (c n : Nat) (Q : List Ev) (en : Hid (Q.length = n)) (left : Int) (w : World) (h : RdE w (.slice p n c) Q) (hn : n ≤ maxLen) (hel : Hid (∀ y ∈ Q, y.2.length ≤ maxLen)) (h0 : 0 ≤ left) (h1 : left ≤ 1048576) :
  Calls Tryz.prog 88 #[.agg #[.int .u64 I, .int .i64 D, .slice p n c], .int .i64 left] w fun e w' => e = .returned (.int .i64 (szLeft (n + sumF (fun e : Ev => e.2.length) Q) left)) ∧ Below w.heap.size w w' := by
 have b1 : Below w.heap.size w (w.alloc (.cells #[.int .u64 I, .int .i64 D, .slice p n c] 114)) := (Below.refl _ _).alloc (Nat.le_refl _) _
 have HR := hide (h.below b1)
 clear h
 obtain ⟨N, eN⟩ : ∃ N, n + sumF (fun e : Ev => e.2.length) Q = N := ⟨_, rfl⟩
 have hc := fun w hw => szEventS_any p c n Q en left w hw hn hel h0 h1
 rw [eN] at hc ⊢
 have HC := hide hc
 clear hc eN
 go_enter Tryz.func88, Tryz.ntmps88
 go_wp2_with fail
 refine (unhide HC _ (by exact unhide HR)).mono ?_
 rintro e w' ⟨rfl, hb⟩
 have b2 := Below.step b1 hb
 clear hb
 rcases szLeft_cases N left with ⟨e, he⟩ | ⟨R, e, hR, -⟩
 ·rw [e]
  have E := hide e
  clear e
  go_wp2
  go_ret
  exact ⟨by rw [unhide E]; rfl, b2⟩
 ·rw [e]
  have E := hide e
  clear e
  have hR' : ¬ R < 0 := by omega
  go_wp2
  go_ret
  exact ⟨by rw [unhide E]; rfl, b2⟩
def szSes (s : Ses) : Nat := s.2.2.length + sumF (fun e : Ev => e.2.length) s.2.2
def szNod (nd : Nod) : Nat := nd.path.length + nd.value.length + nd.holders.length + nd.watchers.length
set_option maxHeartbeats 1600000 in
theorem szSessionS_any (p : Option Addr) (c n : Nat) (l : List Ses) (en : Hid (l.length = n)) (left : Int) (w : World) (h : RdS w (.slice p n c) l) (hn : n ≤ maxLen) (hel : Hid (∀ y ∈ l, y.2.2.length ≤ maxLen ∧ ∀ e ∈ y.2.2, e.2.length ≤ maxLen)) (h0 : 0 ≤ left) (h1 : left ≤ 1048576) :
  Calls Tryz.prog 48 #[.slice p n c, .int .i64 left] w fun r w' => r = .returned (.int .i64 (szLeft (n + sumF szSes l) left)) ∧ Below w.heap.size w w' := by
 obtain ⟨R, eR⟩ : ∃ R, szLeft (n + sumF szSes l) left = R := ⟨_, rfl⟩
 rw [eR]
 have ER := hide eR
 clear eR
 unfold maxLen at hn
 have HR := hide fun (w' : World) (hb : Below w.heap.size w w') => h.below hb
 clear h
 by_cases hln : left - n < 0
 ·have e : R = -1 := by rw [← unhide ER]; exact szLeft_no (by omega)
  subst e
  go_enter Tryz.func48, Tryz.ntmps48
  go_wp2
  go_ret
  exact ⟨rfl, Below.refl _ _⟩
 ·obtain ⟨L0, eL0⟩ : ∃ L0 : Int, left - n = L0 := ⟨_, rfl⟩
  have hL0 : ¬ L0 < 0 := by omega
  have hL1 : L0 ≤ 1048576 := by omega
  have hn2 : n ≤ 1048576 := by omega
  have wL : IntKind.i64.wrap L0 = L0 := IntWalk.i64_in _ (by omega)
  have EL := hide eL0
  clear hln hn
  go_enter Tryz.func48, Tryz.ntmps48
  go_wp2_with fail
  clear eL0
  go_loopw [1, 5] (fun lv iv wr => ∃ (k : Nat) (L : Int), k ≤ n ∧ iv = .int .i64 k ∧ lv = .int .i64 L ∧ 0 ≤ L ∧ L ≤ 1048576 ∧ Hid (L = left - n - sumF szSes (l.take k)) ∧ Below w.heap.size w wr) (fun _ iv _ => n - (intOf iv).toNat)
  case atStart => exact ⟨0, L0, Nat.zero_le _, rfl, rfl, by omega, hL1, (by show _ = _; rw [sumF_zero]; have := unhide EL; omega), Below.refl _ _⟩
  case round =>
   obtain ⟨k, L, hk, rfl, rfl, hL, hLm, hsum, hbr⟩ := hrel
   by_cases hlt : k < n
   ·have hlt' : (k : Int) < (n : Int) := by omega
    have hkl : k < l.length := by rw [unhide en]; exact hlt
    obtain ⟨y, hy⟩ : ∃ y, l[k]? = some y := ⟨_, List.getElem?_eq_getElem hkl⟩
    have hst := sumF_step szSes hy
    have hle := sumF_le szSes l (k + 1)
    have HST := hide (And.intro hst hle)
    have hby := unhide hel y (List.mem_of_getElem? hy)
    obtain ⟨I, D, Q⟩ := y
    obtain ⟨b, o, rfl, hcI, hcD, u, hcQ, hrQ⟩ : ∃ b o, p = some ⟨b, o, none⟩ ∧ wr.cell? ⟨b, o + k * 3, none⟩ = some (.int .u64 I) ∧ wr.cell? ⟨b, o + k * 3 + 1, none⟩ = some (.int .i64 D) ∧ ∃ u, wr.cell? ⟨b, o + k * 3 + 2, none⟩ = some u ∧ RdE wr u Q := by
     obtain ⟨p', c', ev, hd⟩ := unhide HR _ hbr
     simp only [Value.slice.injEq] at ev
     obtain ⟨rfl, -, -⟩ := ev
     rcases hd with h0 | ⟨b, o, h1, h2⟩
     ·rw [h0] at hkl; simp at hkl
     ·exact ⟨b, o, h1, h2 k _ hy⟩
    obtain ⟨pq, cq, rfl, -⟩ := id hrQ
    obtain ⟨m, em⟩ : ∃ m, Q.length = m := ⟨_, rfl⟩
    rw [em] at hrQ hcQ
    have hm : m ≤ maxLen := by rw [← em]; exact hby.1
    have EM := hide em
    have HEL : Hid (∀ y ∈ Q, y.2.length ≤ maxLen) := hby.2
    have HRQ := hide hrQ
    obtain ⟨N, eN⟩ : ∃ N, szSes (I, D, Q) = N := ⟨_, rfl⟩
    have eN2 : m + sumF (fun e : Ev => e.2.length) Q = N := by rw [← eN, szSes, em]
    have hc := fun w hw => szSession_any I D pq cq m Q EM L w hw hm HEL hL hLm
    rw [eN2] at hc
    have HC := hide hc
    have EN := hide eN
    clear hrQ hby hy em eN eN2 hc
    clear hst hle hkl
    go_wp2_with fail
    refine (unhide HC _ (unhide HRQ)).mono ?_
    rintro r w2 ⟨rfl, hb2⟩
    have b2 := Below.step hbr hb2
    clear hb2 hcI hcD hcQ
    rcases szLeft_cases (N) L with ⟨e, he⟩ | ⟨R', e, hR, hR2⟩
    ·have eR : R = -1 := by
      rw [← unhide ER]
      have h1 := unhide hsum
      have h2 := unhide HST
      have h3 := unhide EN
      rw [h3] at h2
      exact szLeft_no (by omega)
     subst eR
     rw [e]
     clear e he
     go_wp2
     go_ret
     exact ⟨rfl, b2⟩
    ·have hs2 : Hid (R' = left - n - sumF szSes (l.take (k + 1))) := by
      show _ = _
      have h1 := unhide hsum
      have h2 := unhide HST
      have h3 := unhide EN
      rw [h3] at h2
      omega
     have hR3 : ¬ R' < 0 := by omega
     have hR4 : R' ≤ 1048576 := by omega
     rw [e]
     clear e hR2
     go_wp2
     go_roundw
     case rel => exact ⟨k + 1, R', by omega, by go_num, rfl, hR, hR4, hs2, b2⟩
     case measure => simp [intOf]; omega
   ·have hlt' : ¬ (k : Int) < (n : Int) := by omega
    have eR : R = L := by
     rw [← unhide ER]
     have h1 := unhide hsum
     rw [List.take_of_length_le (by rw [unhide en]; omega)] at h1
     rw [szLeft_yes (by omega)]
     omega
    subst eR
    go_wp2
    go_ret
    exact ⟨rfl, hbr⟩
set_option maxHeartbeats 800000 in
theorem szNode_any (nd : Nod) (pp vq hp up : Option Addr) (pc pn vc vn hc hh uc un : Nat) (ePn : Hid (nd.path.length = pn)) (eVn : Hid (nd.value.length = vn)) (eHn : Hid (nd.holders.length = hh)) (eUn : Hid (nd.watchers.length = un)) (ow mo ep ge : Int) (left : Int) (w : World)
  (m1 : pn ≤ maxLen) (m2 : vn ≤ maxLen) (m3 : hh ≤ maxLen) (m4 : un ≤ maxLen) (h0 : 0 ≤ left) (h1 : left ≤ 1048576) (N : Nat) (eN : Hid (szNod nd = N)) :
  Calls Tryz.prog 89 #[ndV (.slice pp pn pc) (.slice vq vn vc) ow mo (.slice hp hh hc) ep ge (.slice up un uc), .int .i64 left] w fun e w' => e = .returned (.int .i64 (szLeft N left)) ∧ Below w.heap.size w w' := by
 have b1 : Below w.heap.size w (w.alloc (.cells #[.slice pp pn pc, .slice vq vn vc, .int .u64 ow, .int .i64 mo, .slice hp hh hc, .int .u64 ep, .int .u64 ge, .slice up un uc] 116)) := (Below.refl _ _).alloc (Nat.le_refl _) _
 have eN2 : pn + vn + hh + un = N := by rw [← unhide eN, szNod, unhide ePn, unhide eVn, unhide eHn, unhide eUn]
 obtain ⟨R, eR⟩ : ∃ R, szLeft N left = R := ⟨_, rfl⟩
 rw [eR]
 have ER := hide eR
 clear eR
 have EN2 := hide eN2
 clear eN2
 go_enter Tryz.func89, Tryz.ntmps89
 go_wp2_with fail
 refine (szByteS_any pp pn pc left _ m1 h0 h1).mono ?_
 rintro e w1 ⟨rfl, rfl⟩
 rcases szLeft_cases pn left with ⟨e, he⟩ | ⟨R1, e, g1, g2⟩
 ·have eR : R = -1 := by rw [← unhide ER]; have := unhide EN2; exact szLeft_no (by omega)
  subst eR
  rw [e]
  clear e
  go_wp2
  go_ret
  exact ⟨rfl, b1⟩
 ·rw [e]
  have G2 := hide g2
  have n1 : ¬ R1 < 0 := by omega
  have k1 : R1 ≤ 1048576 := by omega
  clear e g2
  go_wp2_with fail
  refine (szByteS_any vq vn vc R1 _ m2 g1 k1).mono ?_
  rintro e w1 ⟨rfl, rfl⟩
  rcases szLeft_cases vn R1 with ⟨e, he⟩ | ⟨R2, e, g3, g4⟩
  ·have eR : R = -1 := by rw [← unhide ER]; have := unhide EN2; have := unhide G2; exact szLeft_no (by omega)
   subst eR
   rw [e]
   clear e
   go_wp2
   go_ret
   exact ⟨rfl, b1⟩
  ·rw [e]
   have G4 := hide g4
   have n2 : ¬ R2 < 0 := by omega
   have k2 : R2 ≤ 1048576 := by omega
   clear e g4
   go_wp2_with fail
   refine (szUint64S_any hp hh hc R2 _ m3 g3 k2).mono ?_
   rintro e w1 ⟨rfl, rfl⟩
   rcases szLeft_cases hh R2 with ⟨e, he⟩ | ⟨R3, e, g5, g6⟩
   ·have eR : R = -1 := by rw [← unhide ER]; have := unhide EN2; have := unhide G2; have := unhide G4; exact szLeft_no (by omega)
    subst eR
    rw [e]
    clear e
    go_wp2
    go_ret
    exact ⟨rfl, b1⟩
   ·rw [e]
    have G6 := hide g6
    have n3 : ¬ R3 < 0 := by omega
    have k3 : R3 ≤ 1048576 := by omega
    clear e g6
    go_wp2_with fail
    refine (szUint64S_any up un uc R3 _ m4 g5 k3).mono ?_
    rintro e w1 ⟨rfl, rfl⟩
    rcases szLeft_cases un R3 with ⟨e, he⟩ | ⟨R4, e, g7, g8⟩
    ·have eR : R = -1 := by rw [← unhide ER]; have := unhide EN2; have := unhide G2; have := unhide G4; have := unhide G6; exact szLeft_no (by omega)
     subst eR
     rw [e]
     clear e
     go_wp2
     go_ret
     exact ⟨rfl, b1⟩
    ·have eR : R = R4 := by
      rw [← unhide ER]
      have := unhide EN2
      have := unhide G2
      have := unhide G4
      have := unhide G6
      rw [szLeft_yes (by omega)]
      omega
     subst eR
     rw [e]
     have n4 : ¬ R < 0 := by omega
     clear e g8
     go_wp2
     go_ret
     exact ⟨rfl, b1⟩
set_option maxHeartbeats 1600000 in
theorem szNodeS_any (p : Option Addr) (c n : Nat) (l : List Nod) (en : Hid (l.length = n)) (left : Int) (w : World) (h : RdN w (.slice p n c) l) (hn : n ≤ maxLen) (hel : Hid (∀ y ∈ l, y.path.length ≤ maxLen ∧ y.value.length ≤ maxLen ∧ y.holders.length ≤ maxLen ∧ y.watchers.length ≤ maxLen)) (h0 : 0 ≤ left) (h1 : left ≤ 1048576) :
  Calls Tryz.prog 49 #[.slice p n c, .int .i64 left] w fun r w' => r = .returned (.int .i64 (szLeft (n + sumF szNod l) left)) ∧ Below w.heap.size w w' := by
 obtain ⟨R, eR⟩ : ∃ R, szLeft (n + sumF szNod l) left = R := ⟨_, rfl⟩
 rw [eR]
 have ER := hide eR
 clear eR
 unfold maxLen at hn
 have HR := hide fun (w' : World) (hb : Below w.heap.size w w') => h.below hb
 clear h
 by_cases hln : left - n < 0
 ·have e : R = -1 := by rw [← unhide ER]; exact szLeft_no (by omega)
  subst e
  go_enter Tryz.func49, Tryz.ntmps49
  go_wp2
  go_ret
  exact ⟨rfl, Below.refl _ _⟩
 ·obtain ⟨L0, eL0⟩ : ∃ L0 : Int, left - n = L0 := ⟨_, rfl⟩
  have hL0 : ¬ L0 < 0 := by omega
  have hL1 : L0 ≤ 1048576 := by omega
  have hn2 : n ≤ 1048576 := by omega
  have wL : IntKind.i64.wrap L0 = L0 := IntWalk.i64_in _ (by omega)
  have EL := hide eL0
  clear hln hn
  go_enter Tryz.func49, Tryz.ntmps49
  go_wp2_with fail
  clear eL0
  go_loopw [1, 5] (fun lv iv wr => ∃ (k : Nat) (L : Int), k ≤ n ∧ iv = .int .i64 k ∧ lv = .int .i64 L ∧ 0 ≤ L ∧ L ≤ 1048576 ∧ Hid (L = left - n - sumF szNod (l.take k)) ∧ Below w.heap.size w wr) (fun _ iv _ => n - (intOf iv).toNat)
  case atStart => exact ⟨0, L0, Nat.zero_le _, rfl, rfl, by omega, hL1, (by show _ = _; rw [sumF_zero]; have := unhide EL; omega), Below.refl _ _⟩
  case round =>
   obtain ⟨k, L, hk, rfl, rfl, hL, hLm, hsum, hbr⟩ := hrel
   by_cases hlt : k < n
   ·have hlt' : (k : Int) < (n : Int) := by omega
    have hkl : k < l.length := by rw [unhide en]; exact hlt
    obtain ⟨y, hy⟩ : ∃ y, l[k]? = some y := ⟨_, List.getElem?_eq_getElem hkl⟩
    have hst := sumF_step szNod hy
    have hle := sumF_le szNod l (k + 1)
    have HST := hide (And.intro hst hle)
    have hby := unhide hel y (List.mem_of_getElem? hy)
    obtain ⟨b, o, rfl, hA⟩ := (unhide HR _ hbr).at (by omega)
    obtain ⟨P, V, H, U, hnd⟩ := hA k y hy
    obtain ⟨pp, pc, pn, rfl, ePn⟩ := hnd.r0.slc
    obtain ⟨vq, vc, vn, rfl, eVn⟩ := hnd.r1.slc
    obtain ⟨hp, hc, hh, rfl, eHn⟩ := hnd.r4.slc
    obtain ⟨up, uc, un, rfl, eUn⟩ := hnd.r7.slc
    obtain ⟨c0, c1, c2, c3, c4, c5, c6, c7, -, -, -, -, -⟩ := hnd
    obtain ⟨q1, q2, q3, q4⟩ := hby
    have m1 : pn ≤ maxLen := by rw [← unhide ePn]; exact q1
    have m2 : vn ≤ maxLen := by rw [← unhide eVn]; exact q2
    have m3 : hh ≤ maxLen := by rw [← unhide eHn]; exact q3
    have m4 : un ≤ maxLen := by rw [← unhide eUn]; exact q4
    obtain ⟨N, eN⟩ : ∃ N, szNod y = N := ⟨_, rfl⟩
    have EN := hide eN
    clear hA hy q1 q2 q3 q4 eN
    clear hst hle hkl
    go_wp2_with fail
    refine (szNode_any y pp vq hp up pc pn vc vn hc hh uc un ePn eVn eHn eUn _ _ _ _ L _ m1 m2 m3 m4 hL hLm N EN).mono ?_
    rintro r w2 ⟨rfl, hb2⟩
    have b2 := Below.step hbr hb2
    clear hb2 c0 c1 c2 c3 c4 c5 c6 c7
    rcases szLeft_cases (N) L with ⟨e, he⟩ | ⟨R', e, hR, hR2⟩
    ·have eR : R = -1 := by
      rw [← unhide ER]
      have h1 := unhide hsum
      have h2 := unhide HST
      have h3 := unhide EN
      rw [h3] at h2
      exact szLeft_no (by omega)
     subst eR
     rw [e]
     clear e he
     go_wp2
     go_ret
     exact ⟨rfl, b2⟩
    ·have hs2 : Hid (R' = left - n - sumF szNod (l.take (k + 1))) := by
      show _ = _
      have h1 := unhide hsum
      have h2 := unhide HST
      have h3 := unhide EN
      rw [h3] at h2
      omega
     have hR3 : ¬ R' < 0 := by omega
     have hR4 : R' ≤ 1048576 := by omega
     rw [e]
     clear e hR2
     go_wp2
     go_roundw
     case rel => exact ⟨k + 1, R', by omega, by go_num, rfl, hR, hR4, hs2, b2⟩
     case measure => simp [intOf]; omega
   ·have hlt' : ¬ (k : Int) < (n : Int) := by omega
    have eR : R = L := by
     rw [← unhide ER]
     have h1 := unhide hsum
     rw [List.take_of_length_le (by rw [unhide en]; omega)] at h1
     rw [szLeft_yes (by omega)]
     omega
    subst eR
    go_wp2
    go_ret
    exact ⟨rfl, hbr⟩
def szSt (ss : List Ses) (ns : List Nod) : Nat := ss.length + sumF szSes ss + (ns.length + sumF szNod ns)
set_option maxHeartbeats 800000 in
theorem szState_any (e g x t : Int) (p q : Option Addr) (c n d m : Nat) (ss : List Ses) (ns : List Nod) (en : Hid (ss.length = n)) (em : Hid (ns.length = m)) (w : World) (h : RdS w (.slice p n c) ss) (hN : RdN w (.slice q m d) ns) (hn : n ≤ maxLen) (hm : m ≤ maxLen)
  (he1 : Hid (∀ y ∈ ss, y.2.2.length ≤ maxLen ∧ ∀ e ∈ y.2.2, e.2.length ≤ maxLen)) (he2 : Hid (∀ y ∈ ns, y.path.length ≤ maxLen ∧ y.value.length ≤ maxLen ∧ y.holders.length ≤ maxLen ∧ y.watchers.length ≤ maxLen)) (N : Nat) (eN : Hid (szSt ss ns = N)) :
  Calls Tryz.prog 14 #[stV e g x t (.slice p n c) (.slice q m d), .int .i64 1048576] w fun r w' => r = .returned (.int .i64 (szLeft N 1048576)) ∧ Below w.heap.size w w' := by
 have HR := hide fun (w' : World) (hb : Below w.heap.size w w') => And.intro (h.below hb) (hN.below hb)
 clear h hN
 have b1 : Below w.heap.size w (w.alloc (.cells #[.int .u64 e, .int .u64 g, .int .u64 x, .int .i64 t, .slice p n c, .slice q m d] 39)) := (Below.refl _ _).alloc (Nat.le_refl _) _
 obtain ⟨A1, eA1⟩ : ∃ A, n + sumF szSes ss = A := ⟨_, rfl⟩
 obtain ⟨A2, eA2⟩ : ∃ A, m + sumF szNod ns = A := ⟨_, rfl⟩
 have eN2 : A1 + A2 = N := by rw [← unhide eN, szSt, unhide en, unhide em, eA1, eA2]
 have EN2 := hide eN2
 obtain ⟨R, eR⟩ : ∃ R, szLeft N 1048576 = R := ⟨_, rfl⟩
 rw [eR]
 have ER := hide eR
 have hc1 := fun w hw => szSessionS_any p c n ss en 1048576 w hw hn he1 (by omega) (by omega)
 rw [eA1] at hc1
 have hc2 := fun R1 hR1 hR2 w hw => szNodeS_any q d m ns em R1 w hw hm he2 hR1 hR2
 rw [eA2] at hc2
 have HC1 := hide hc1
 have HC2 := hide hc2
 clear eR eN2 eA1 eA2 hc1 hc2
 go_enter Tryz.func14, Tryz.ntmps14
 go_wp2_with fail
 obtain ⟨W, hW⟩ : ∃ W, W = (w.alloc (.cells #[.int .u64 e, .int .u64 g, .int .u64 x, .int .i64 t, .slice p n c, .slice q m d] 39)) := ⟨_, rfl⟩
 have hc5 : W.cell? ⟨w.heap.size, 5, none⟩ = some (.slice q m d) := by rw [hW]; simp
 rw [← hW] at b1 ⊢
 clear hW
 refine (unhide HC1 _ (unhide HR _ b1).1).mono ?_
 rintro r w1 ⟨rfl, hb1⟩
 have b2 := Below.step b1 hb1
 have j5 := cell_below hc5 hb1
 clear hc5 hb1
 rcases szLeft_cases A1 1048576 with ⟨e, he⟩ | ⟨R1, e, g1, g2⟩
 ·have eR : R = -1 := by rw [← unhide ER]; have := unhide EN2; exact szLeft_no (by omega)
  subst eR
  rw [e]
  clear e j5
  go_wp2
  go_ret
  exact ⟨rfl, b2⟩
 ·rw [e]
  have G2 := hide g2
  have n1 : ¬ R1 < 0 := by omega
  have k1 : R1 ≤ 1048576 := by omega
  clear e g2
  go_wp2_with fail
  refine (unhide HC2 R1 g1 k1 _ (unhide HR _ b2).2).mono ?_
  rintro r w2 ⟨rfl, hb2⟩
  have b3 := Below.step b2 hb2
  clear hb2 j5
  rcases szLeft_cases A2 R1 with ⟨e, he⟩ | ⟨R2, e, g3, g4⟩
  ·have eR : R = -1 := by rw [← unhide ER]; have := unhide EN2; have := unhide G2; exact szLeft_no (by omega)
   subst eR
   rw [e]
   clear e
   go_wp2
   go_ret
   exact ⟨rfl, b3⟩
  ·have eR : R = R2 := by
    rw [← unhide ER]
    have := unhide EN2
    have := unhide G2
    rw [szLeft_yes (by omega)]
    omega
   subst eR
   rw [e]
   have n2 : ¬ R < 0 := by omega
   clear e g4
   go_wp2
   go_ret
   exact ⟨rfl, b3⟩
end Go.Proofs.YtnbgnhhnpmmloaaGreatDoor
