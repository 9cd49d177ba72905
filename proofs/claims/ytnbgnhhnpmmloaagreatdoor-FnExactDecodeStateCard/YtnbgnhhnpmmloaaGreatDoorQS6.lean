import Derived.Test.YtnbgnhhnpmmloaaGreatDoorK18
namespace Go.Proofs.YtnbgnhhnpmmloaaGreatDoor.Q
open Go.Sort Go.RowKit
set_option linter.unusedVariables false
set_option linter.unusedSimpArgs false
set_option maxRecDepth 100000
theorem ss_go {d : Array Int} {b i : Nat} (h : i < b) (hp : ltInt d[i]! d[i - 1]! = false) : scanSorted ltInt d b i = scanSorted ltInt d b (i + 1) := by
 rw [scanSorted, if_pos (by simp [h, hp])]
theorem ss_stop {d : Array Int} {b i : Nat} (h : ¬ i < b ∨ ltInt d[i]! d[i - 1]! = true) : scanSorted ltInt d b i = i := by
 rw [scanSorted, if_neg]
 rcases h with h | h
 ·simp; omega
 ·simp [h]
theorem sd_size : ∀ (j : Nat) (d : Array Int), (shiftDown ltInt j d).size = d.size
 | 0, d => rfl
 | j + 1, d => by
  rw [shiftDown]
  split
  ·rfl
  ·rw [sd_size j, size_swp]
theorem su_size (b : Nat) : ∀ (k j : Nat) (d : Array Int), b - j ≤ k → (shiftUp ltInt b j d).size = d.size := by
 intro k
 induction k with
 | zero => intro j d h; rw [shiftUp, if_neg (by omega)]
 | succ k ih =>
  intro j d h
  rw [shiftUp]
  split
  ·split
   ·rfl
   ·rw [ih _ _ (by omega), size_swp]
  ·rfl
theorem sd_go {j : Nat} {d : Array Int} (h : 0 < j) (hp : ltInt d[j]! d[j - 1]! = true) : shiftDown ltInt j d = shiftDown ltInt (j - 1) (swp d j (j - 1)) := by
 cases j with
 | zero => omega
 | succ j =>
  simp only [Nat.add_sub_cancel] at hp ⊢
  rw [shiftDown, if_neg (by simp [hp])]
theorem sd_stop {j : Nat} {d : Array Int} (h : j = 0 ∨ ltInt d[j]! d[j - 1]! = false) : shiftDown ltInt j d = d := by
 cases j with
 | zero => rfl
 | succ j =>
  rcases h with h | h
  ·omega
  ·simp only [Nat.add_sub_cancel] at h
   rw [shiftDown, if_pos (by simp [h])]
theorem su_go {b j : Nat} {d : Array Int} (h : j < b) (hp : ltInt d[j]! d[j - 1]! = true) : shiftUp ltInt b j d = shiftUp ltInt b (j + 1) (swp d j (j - 1)) := by
 rw [shiftUp, if_pos h, if_neg (by simp [hp])]
theorem su_stop {b j : Nat} {d : Array Int} (h : ¬ j < b ∨ ltInt d[j]! d[j - 1]! = false) : shiftUp ltInt b j d = d := by
 rw [shiftUp]
 rcases h with h | h
 ·rw [if_neg h]
 ·split
  ·rw [if_pos (by simp [h])]
  ·rfl
theorem pi_done {a b s i I : Nat} {d : Array Int} (hI : scanSorted ltInt d b i = I) (h : I = b) : partialIns ltInt a b (s + 1) i d = (d, true) := by
 rw [partialIns]
 simp only [hI]
 rw [if_pos h]
theorem pi_short {a b s i I : Nat} {d : Array Int} (hI : scanSorted ltInt d b i = I) (h : ¬ I = b) (h5 : b - a < 50) : partialIns ltInt a b (s + 1) i d = (d, false) := by
 rw [partialIns]
 simp only [hI]
 rw [if_neg h, if_pos h5]
theorem pi_go {a b s i I : Nat} {d : Array Int} (hI : scanSorted ltInt d b i = I) (h : ¬ I = b) (h5 : ¬ b - a < 50) {d2 d3 d4 : Array Int} (h2 : swp d I (I - 1) = d2) (h3 : (if I - a ≥ 2 then shiftDown ltInt (I - 1) d2 else d2) = d3)
  (h4 : (if b - I ≥ 2 then shiftUp ltInt b (I + 1) d3 else d3) = d4) : partialIns ltInt a b (s + 1) i d = partialIns ltInt a b s I d4 := by
 rw [partialIns]
 simp only [hI]
 rw [if_neg h, if_neg h5, h2, h3, h4]
set_option maxHeartbeats 6400000 in
theorem parti_any (blk off cap N a b : Nat) (d : Array Int) (hN : Hid (d.size = N)) (w : World) (h : HU w blk off d) (hab : a < b) (hb : b ≤ N) (hsz : N ≤ 1048576) :
  Calls Tryz.prog 211 #[.slice (some ⟨blk, off, none⟩) N cap, .int .i64 a, .int .i64 b] w fun e w' => e = .returned (.bool (partialInsertionSort ltInt d a b).2) ∧ HU w' blk off (partialInsertionSort ltInt d a b).1 ∧ w.grownBy w' (some blk) := by
 obtain ⟨⟨R1, R2⟩, eR⟩ : ∃ R, partialInsertionSort ltInt d a b = R := ⟨_, rfl⟩
 rw [eR]
 have ER : Hid (partialIns ltInt a b 5 (a + 1) d = (R1, R2)) := eR
 clear eR
 have H0 := hide h
 clear h
 obtain ⟨Lz, eL⟩ : ∃ x : Nat, (b : Int) - (a : Int) = (x : Int) := ⟨b - a, by omega⟩
 have eL0 := hide (show b - a = Lz by omega)
 have wL : IntKind.i64.wrap (Lz : Int) = (Lz : Int) := IntWalk.i64_in _ (by omega)
 go_enter Tryz.func211, Tryz.ntmps211
 go_wp2_with fail
 go_loopw [7, 8] (fun s7 s8 wr => ∃ (i s : Nat) (jz : Int) (dk : Array Int), s7 = .int .i64 i ∧ s8 = .int .i64 jz ∧ jz + s = 5 ∧ 0 ≤ jz ∧ a + 1 ≤ i ∧ i ≤ b ∧ Hid (dk.size = N) ∧ Hid (HU wr blk off dk) ∧ Hid (partialIns ltInt a b s i dk = (R1, R2)) ∧ Hid (w.grownBy wr (some blk))) (fun _ s8 _ => (5 - intOf s8).toNat)
 case atStart => exact ⟨a + 1, 5, 0, d, by first | rfl | go_num, rfl, rfl, by omega, by omega, by omega, hN, H0, ER, grown_r _ _⟩
 case round =>
  obtain ⟨i, s, jz, dk, rfl, rfl, z1, z2, z3, z4, HD, hH, hQ, hG⟩ := hrel
  cases s with
  | zero =>
   have hj : ¬ jz < 5 := by omega
   have hq := uh hQ
   simp only [partialIns, Prod.mk.injEq] at hq
   obtain ⟨eq1, eq2⟩ := hq
   subst eq1 eq2
   go_wp2
   go_ret
   exact ⟨rfl, uh hH, uh hG⟩
  | succ t =>
   have hj : jz < 5 := by omega
   obtain ⟨I, eI⟩ : ∃ I, scanSorted ltInt dk b i = I := ⟨_, rfl⟩
   have EI := hide eI
   have EI' := hide eI
   clear eI
   have hds := uh HD
   go_wp2_with fail
   obtain ⟨Y, eY⟩ : ∃ Y, Y = wr := ⟨_, rfl⟩
   subst eY
   go_loopw [7] (fun s7 wr => ∃ i1 : Nat, s7 = .int .i64 i1 ∧ a + 1 ≤ i1 ∧ i1 ≤ b ∧ Hid (HU wr blk off dk) ∧ Hid (scanSorted ltInt dk b i1 = I) ∧ Hid (w.grownBy wr (some blk))) (fun s7 _ => b - (intOf s7).toNat)
   case atStart => exact ⟨i, rfl, by omega, by omega, hH, EI, hG⟩
   case round =>
    obtain ⟨i1, rfl, qa, qb, hH1, hE1, hG1⟩ := hrel
    obtain ⟨Bc, eBc⟩ : ∃ B, (decide (i1 < b) && !ltInt dk[i1]! dk[i1 - 1]!) = B := ⟨_, rfl⟩
    have EBC := hide eBc
    clear eBc
    obtain ⟨m, em⟩ : ∃ m : Nat, (i1 : Int) - 1 = (m : Int) := ⟨i1 - 1, by omega⟩
    have em0 := hide (show i1 - 1 = m by omega)
    have wm : IntKind.i64.wrap (m : Int) = (m : Int) := IntWalk.i64_in _ (by omega)
    go_wp2_with fail
    go_cut [32] (fun rv wc => rv = .bool Bc ∧ wc = wr.drew)
    case first =>
     by_cases hij : i1 < b
     ·have hij' : (i1 : Int) < (b : Int) := by omega
      obtain ⟨c1, -⟩ := uh hH1 i1 (by omega)
      obtain ⟨c2, -⟩ := uh hH1 m (by omega)
      obtain ⟨x, ex⟩ : ∃ x, dk[i1]! = x := ⟨_, rfl⟩
      obtain ⟨y, ey⟩ : ∃ y, dk[m]! = y := ⟨_, rfl⟩
      rw [ex] at c1
      rw [ey] at c2
      have k1 : (i1 : Int) < (N : Int) := by omega
      have k2 : (m : Int) < (N : Int) := by omega
      have k3 : (0 : Int) ≤ (i1 : Int) := by omega
      have k4 : (0 : Int) ≤ (m : Int) := by omega
      obtain ⟨L, eL'⟩ : ∃ L, ltInt x y = L := ⟨_, rfl⟩
      have EL := hide eL'
      have eB : Bc = (!L) := by
       rw [← uh EBC]
       simp only [decide_eq_true hij, Bool.true_and, uh em0, ex, ey, eL']
      subst eB
      have K0 := hide (And.intro c1 c2)
      clear eL' ex ey c1 c2 EBC
      refine wp_region_noPanic ?_
      refine wp_region_held_drew (S := fun w' => w'.cell? ⟨blk, off + i1, none⟩ = some (.int .u64 x) ∧ w'.cell? ⟨blk, off + m, none⟩ = some (.int .u64 y)) (by kernel_rfl) (by exact uh K0) (fun hS => ?_)
      refine tk 0 hS (h := ?_); simp only [Act.put, xa, xb, xc]
      refine tk 1 hS (h := ?_); simp only [Act.put, xa, xb, xc]
      refine tk 2 hS (h := ?_); simp only [Act.put, xa, xb, xc]
      refine tk 3 hS (h := ?_); simp only [Act.put, xa, xb, xc]
      refine tk 4 hS (h := ?_); simp only [Act.put, xa, xb, xc]
      refine tk 5 hS (h := ?_); simp only [Act.put, xa, xb, xc]
      refine tk 6 hS (h := ?_); simp only [Act.put, xa, xb, xc]
      refine tk 7 hS (h := ?_); simp only [Act.put, xa, xb, xc]
      refine tk 8 hS (h := ?_); simp only [Act.put, xa, xb, xc]
      refine tk 9 hS (h := ?_); simp only [Act.put, xa, xb, xc]
      refine tk 10 hS (h := ?_); simp only [Act.put, xa, xb, xc]
      refine tk 11 hS (h := ?_); simp only [Act.put, xa, xb, xc]
      refine tk 12 hS (h := ?_); simp only [Act.put, xa, xb, xc]
      refine ry [13] ?_
      refine cn (fun KK hK => ?_) ?_
      ·refine step_call2g (by rfl) 212 _ _ _ (by rfl) (.int .u64 x) (.int .u64 y) (by rfl) (by rfl) (fun _ => callLess _ _) (less_any x y _) ?_
       rintro r' w2 ⟨rfl, rfl⟩
       refine ⟨_, rfl, ?_⟩
       rw [uh EL]
       refine hK.out _ _ (by exact uh K0) (fun hS => ?_)
       clear hK KK
       (try simp only [Act.put, xa, xb, xc])
       refine tk 14 hS (h := ?_); simp only [Act.put, xa, xb, xc]
       refine tk 15 hS (h := ?_); simp only [Act.put, xa, xb, xc]
       refine wpAnyH_done (by kernel_rfl) ?_ _
       refine NoPanic.normal ?_
       clear hS
       go_wp2_with fail
       go_meet
       exact ⟨rfl, rfl⟩
      exact AllReadyH.nil
     ·have hij' : ¬ (i1 : Int) < (b : Int) := by omega
      have eB : Bc = false := by rw [← uh EBC, decide_eq_false hij]; rfl
      subst eB
      refine wp_region_noPanic ?_
      refine wp_region_held_drew (S := fun w' => True) (by kernel_rfl) trivial (fun hS => ?_)
      refine tk 0 hS (h := ?_); simp only [Act.put, xa, xb, xc]
      refine tk 1 hS (h := ?_); simp only [Act.put, xa, xb, xc]
      refine tk 2 hS (h := ?_); simp only [Act.put, xa, xb, xc]
      refine tk 3 hS (h := ?_); simp only [Act.put, xa, xb, xc]
      refine sk 4 hS (h := ?_); simp only [Act.put, xa, xb, xc]
      refine sk 5 hS (h := ?_); simp only [Act.put, xa, xb, xc]
      refine sk 6 hS (h := ?_); simp only [Act.put, xa, xb, xc]
      refine sk 7 hS (h := ?_); simp only [Act.put, xa, xb, xc]
      refine sk 8 hS (h := ?_); simp only [Act.put, xa, xb, xc]
      refine sk 9 hS (h := ?_); simp only [Act.put, xa, xb, xc]
      refine sk 10 hS (h := ?_); simp only [Act.put, xa, xb, xc]
      refine sk 11 hS (h := ?_); simp only [Act.put, xa, xb, xc]
      refine sk 12 hS (h := ?_); simp only [Act.put, xa, xb, xc]
      refine sk 13 hS (h := ?_); simp only [Act.put, xa, xb, xc]
      refine sk 14 hS (h := ?_); simp only [Act.put, xa, xb, xc]
      refine tk 15 hS (h := ?_); simp only [Act.put, xa, xb, xc]
      refine wpAnyH_done (by kernel_rfl) ?_ _
      refine NoPanic.normal ?_
      clear hS
      go_wp2_with fail
      go_meet
      exact ⟨rfl, rfl⟩
    obtain ⟨rfl, rfl⟩ := hcut
    cases Bc with
    | true =>
     have hh : i1 < b ∧ ltInt dk[i1]! dk[i1 - 1]! = false := by have := uh EBC; simp only [Bool.and_eq_true, decide_eq_true_iff, Bool.not_eq_true'] at this; exact this
     have hn : Hid (scanSorted ltInt dk b (i1 + 1) = I) := by show _ = _; rw [← ss_go hh.1 hh.2]; exact uh hE1
     have hle := hh.1
     clear hh EBC
     go_wp2
     go_roundw
     case rel => exact ⟨i1 + 1, by go_num, by omega, by omega, (uh hH1).drew, hn, grown_drew (uh hG1)⟩
     case measure => simp [intOf]; omega
    | false =>
     have hst : i1 = I := by
      rw [← uh hE1, ss_stop]
      have := uh EBC
      simp only [Bool.and_eq_false_iff, decide_eq_false_iff_not, Bool.not_eq_false'] at this
      exact this
     clear hE1 EBC
     subst hst
     by_cases hib : i1 = b
     ·have hq := uh hQ
      rw [pi_done (uh EI') hib, Prod.mk.injEq] at hq
      obtain ⟨eq1, eq2⟩ := hq
      subst eq1 eq2
      subst hib
      go_wp2
      go_ret
      exact ⟨rfl, uh hH1, grown_drew (uh hG1)⟩
     ·have hib' : ¬ (i1 : Int) = (b : Int) := by omega
      by_cases h5 : Lz < 50
      ·have h5' : (Lz : Int) < 50 := by omega
       have hq := uh hQ
       rw [pi_short (uh EI') hib (by rw [uh eL0]; exact h5), Prod.mk.injEq] at hq
       obtain ⟨eq1, eq2⟩ := hq
       subst eq1 eq2
       go_wp2
       go_ret
       exact ⟨rfl, uh hH1, grown_drew (uh hG1)⟩
      ·have h5' : ¬ (Lz : Int) < 50 := by omega
       obtain ⟨d2, e2⟩ : ∃ x, swp dk i1 (i1 - 1) = x := ⟨_, rfl⟩
       obtain ⟨d3, e3⟩ : ∃ x, (if i1 - a ≥ 2 then shiftDown ltInt (i1 - 1) d2 else d2) = x := ⟨_, rfl⟩
       obtain ⟨d4, e4⟩ : ∃ x, (if b - i1 ≥ 2 then shiftUp ltInt b (i1 + 1) d3 else d3) = x := ⟨_, rfl⟩
       have hq := uh hQ
       rw [pi_go (uh EI') hib (by rw [uh eL0]; exact h5) e2 e3 e4] at hq
       have HQ := hide hq
       rw [uh em0] at e2 e3
       have HD2 : Hid (d2.size = N) := by show _ = _; rw [← e2, size_swp]; exact hds
       have HD3 : Hid (d3.size = N) := by
        show _ = _
        rw [← e3]
        split
        ·rw [sd_size]; exact uh HD2
        ·exact uh HD2
       have HD4 : Hid (d4.size = N) := by
        show _ = _
        rw [← e4]
        split
        ·rw [su_size b _ _ _ (Nat.le_refl _)]; exact uh HD3
        ·exact uh HD3
       obtain ⟨c1, f1⟩ := uh hH1 i1 (by omega)
       obtain ⟨c2, f2⟩ := uh hH1 m (by omega)
       obtain ⟨p1, ep1⟩ : ∃ u, dk[i1]! = u := ⟨_, rfl⟩
       obtain ⟨p2, ep2⟩ : ∃ u, dk[m]! = u := ⟨_, rfl⟩
       rw [ep1] at c1
       rw [ep2] at c2
       have HSWn := hide ((uh hH1).swap (i := i1) (j := m) (by omega) (by omega) ep2.symm ep1.symm)
       rw [e2] at HSWn
       have HGn := hide (grown_t (grown_t (uh hG1) (grown_set _ blk (off + i1) (.int .u64 p2))) (grown_set _ blk (off + m) (.int .u64 p1)))
       have l1 : (i1 : Int) < (N : Int) := by omega
       have l2 : (m : Int) < (N : Int) := by omega
       have l3 : (0 : Int) ≤ (m : Int) := by omega
       have E3 := hide e3
       have E4 := hide e4
       obtain ⟨A1, eA⟩ : ∃ x : Nat, (i1 : Int) - (a : Int) = (x : Int) := ⟨i1 - a, by omega⟩
       have eA0 := hide (show i1 - a = A1 by omega)
       have wA : IntKind.i64.wrap (A1 : Int) = (A1 : Int) := IntWalk.i64_in _ (by omega)
       obtain ⟨B1, eB1⟩ : ∃ x : Nat, (b : Int) - (i1 : Int) = (x : Int) := ⟨b - i1, by omega⟩
       have eB0 := hide (show b - i1 = B1 by omega)
       have wB : IntKind.i64.wrap (B1 : Int) = (B1 : Int) := IntWalk.i64_in _ (by omega)
       clear ep1 ep2 hq e2 e3 e4 hQ
       go_wp2_with fail
       go_region
       go_upto_if 61 with fail
       clear c1 c2 f1 f2
       go_cut [9] (fun s9 wc => Hid (HU wc blk off d3) ∧ Hid (w.grownBy wc (some blk)))
       case first =>
        by_cases hC : A1 ≥ 2
        ·have hC' : (A1 : Int) ≥ 2 := by omega
         have hC2 : (2 : Int) ≤ (A1 : Int) := by omega
         try simp only [hC2, decide_true]
         have E3' : Hid (shiftDown ltInt m d2 = d3) := by
          have := uh E3
          rw [uh eA0, if_pos hC] at this
          exact this
         go_wp2_with fail
         obtain ⟨Y2, eY2⟩ : ∃ Y, Y = wr := ⟨_, rfl⟩
         subst eY2
         go_loopw [9] (fun s9 wr => ∃ (j : Nat) (dj : Array Int), s9 = .int .i64 j ∧ j ≤ m ∧ Hid (dj.size = N) ∧ Hid (HU wr blk off dj) ∧ Hid (shiftDown ltInt j dj = d3) ∧ Hid (w.grownBy wr (some blk))) (fun s9 _ => (intOf s9).toNat)
         case atStart => exact ⟨m, d2, by first | rfl | go_num, by omega, HD2, by exact uh HSWn, E3', by exact grown_drew (grown_drew (uh HGn))⟩
         case round =>
          obtain ⟨j, dj, rfl, q1, hdj, hHj, hej, hg⟩ := hrel
          by_cases hgo : 0 < j
          ·have hgo' : (1 : Int) ≤ (j : Int) := by omega
           obtain ⟨jm, ejm⟩ : ∃ x : Nat, (j : Int) - 1 = (x : Int) := ⟨j - 1, by omega⟩
           have ejm0 : j - 1 = jm := by omega
           have wjm : IntKind.i64.wrap (jm : Int) = (jm : Int) := IntWalk.i64_in _ (by omega)
           have hdj' := uh hdj
           obtain ⟨cj, fj⟩ := uh hHj j (by omega)
           obtain ⟨cm, fm⟩ := uh hHj jm (by omega)
           obtain ⟨y, ey⟩ : ∃ y, dj[j]! = y := ⟨_, rfl⟩
           obtain ⟨z, ez⟩ : ∃ z, dj[jm]! = z := ⟨_, rfl⟩
           have hsw := hide ((uh hHj).swap (i := j) (j := jm) (by omega) (by omega) ez.symm ey.symm)
           rw [ey] at cj
           rw [ez] at cm
           have i1' : (j : Int) < (N : Int) := by omega
           have i2' : (jm : Int) < (N : Int) := by omega
           have i3' : (0 : Int) ≤ (jm : Int) := by omega
           have i4' : (0 : Int) ≤ (j : Int) := by omega
           obtain ⟨B, eB⟩ : ∃ B, ltInt y z = B := ⟨_, rfl⟩
           have EB := hide eB
           have HSTOP : Hid (B = false → dj = d3) := fun hB => by
            rw [← uh hej, sd_stop (.inr (by rw [ejm0, ey, ez, eB, hB]))]
           have HGO : Hid (B = true → shiftDown ltInt jm (swp dj j jm) = d3) := fun hB => by
            rw [← uh hej, sd_go hgo (by rw [ejm0, ey, ez, eB, hB]), ejm0]
           have HS2 : Hid ((swp dj j jm).size = N) := by show _ = _; rw [size_swp]; exact hdj'
           have HGs := hide (grown_t (grown_t (uh hg) (grown_set _ blk (off + j) (.int .u64 z))) (grown_set _ blk (off + jm) (.int .u64 y)))
           have K0 := hide (And.intro cj cm)
           have FF := hide (And.intro fj fm)
           clear ey ez eB hdj' cj cm fj fm ejm0
           go_wp2_with fail
           go_cut [78] (fun rv wc => rv = .bool (!B) ∧ wc = wr.drew)
           case first =>
            refine wp_region_noPanic ?_
            refine wp_region_held_drew (S := fun w' => w'.cell? ⟨blk, off + j, none⟩ = some (.int .u64 y) ∧ w'.cell? ⟨blk, off + jm, none⟩ = some (.int .u64 z)) (by kernel_rfl) (by exact uh K0) (fun hS => ?_)
            refine tk 0 hS (h := ?_); simp only [Act.put, xa, xb, xc]
            refine tk 1 hS (h := ?_); simp only [Act.put, xa, xb, xc]
            refine tk 2 hS (h := ?_); simp only [Act.put, xa, xb, xc]
            refine tk 3 hS (h := ?_); simp only [Act.put, xa, xb, xc]
            refine tk 4 hS (h := ?_); simp only [Act.put, xa, xb, xc]
            refine tk 5 hS (h := ?_); simp only [Act.put, xa, xb, xc]
            refine tk 6 hS (h := ?_); simp only [Act.put, xa, xb, xc]
            refine tk 7 hS (h := ?_); simp only [Act.put, xa, xb, xc]
            refine tk 8 hS (h := ?_); simp only [Act.put, xa, xb, xc]
            refine ry [9] ?_
            refine cn (fun KK hK => ?_) ?_
            ·refine step_call2g (by rfl) 212 _ _ _ (by rfl) (.int .u64 y) (.int .u64 z) (by rfl) (by rfl) (fun _ => callLess _ _) (less_any y z _) ?_
             rintro r w2 ⟨rfl, rfl⟩
             refine ⟨_, rfl, ?_⟩
             rw [uh EB]
             refine hK.out _ _ (by exact uh K0) (fun hS => ?_)
             clear hK KK
             (try simp only [Act.put, xa, xb, xc])
             refine tk 10 hS (h := ?_); simp only [Act.put, xa, xb, xc]
             refine wpAnyH_done (by kernel_rfl) ?_ _
             refine NoPanic.normal ?_
             clear hS
             go_wp2_with fail
             go_meet
             exact ⟨rfl, rfl⟩
            exact AllReadyH.nil
           obtain ⟨rfl, rfl⟩ := hcut
           cases B with
           | false =>
            have e := uh HSTOP rfl
            subst e
            clear hsw HGs HGO HSTOP FF K0
            go_wp2_with fail
            go_meet
            exact ⟨uh hHj, grown_drew (uh hg)⟩
           | true =>
            have e := hide (uh HGO rfl)
            obtain ⟨cj, cm⟩ := uh K0
            obtain ⟨fj, fm⟩ := uh FF
            clear HGO HSTOP FF K0
            go_wp2_with fail
            go_region
            go_wp2
            go_roundw
            case rel =>
             exact ⟨jm, swp dj j jm, by first | rfl | go_num, by omega, HS2, (uh hsw), e, grown_drew (grown_drew (uh HGs))⟩
            case measure => simp [intOf]; omega
          ·have hgo' : ¬ (1 : Int) ≤ (j : Int) := by omega
           have e : dj = d3 := by rw [← uh hej, sd_stop (.inl (by omega))]
           subst e
           go_wp2_with fail
           go_meet
           exact ⟨uh hHj, uh hg⟩
        ·have hC' : ¬ (A1 : Int) ≥ 2 := by omega
         have hC2 : ¬ (2 : Int) ≤ (A1 : Int) := by omega
         try simp only [hC2, decide_false]
         have e : d2 = d3 := by
          have := uh E3
          rw [uh eA0, if_neg hC] at this
          exact this
         subst e
         go_wp2_with fail
         go_meet
         exact ⟨by exact uh HSWn, by exact grown_drew (grown_drew (uh HGn))⟩
       obtain ⟨hH3, hG3⟩ := hcut
       obtain ⟨Y3, eY3⟩ : ∃ Y, Y = wc := ⟨_, rfl⟩
       subst eY3
       go_upto_if 98 with fail
       by_cases hC : B1 ≥ 2
       ·have hC' : (B1 : Int) ≥ 2 := by omega
        have hC2 : (2 : Int) ≤ (B1 : Int) := by omega
        try simp only [hC2, decide_true]
        have E3' : Hid (shiftUp ltInt b (i1 + 1) d3 = d4) := by
         have := uh E4
         rw [uh eB0, if_pos hC] at this
         exact this
        go_wp2_with fail
        obtain ⟨Y2, eY2⟩ : ∃ Y, Y = wr := ⟨_, rfl⟩
        subst eY2
        go_loopw [10] (fun s10 wr => ∃ (j : Nat) (dj : Array Int), s10 = .int .i64 j ∧ i1 + 1 ≤ j ∧ j ≤ b ∧ Hid (dj.size = N) ∧ Hid (HU wr blk off dj) ∧ Hid (shiftUp ltInt b j dj = d4) ∧ Hid (w.grownBy wr (some blk))) (fun s10 _ => b - (intOf s10).toNat)
        case atStart => exact ⟨i1 + 1, d3, by first | rfl | go_num, by omega, by omega, HD3, by exact uh hH3, E3', by exact uh hG3⟩
        case round =>
         obtain ⟨j, dj, rfl, q1, q2, hdj, hHj, hej, hg⟩ := hrel
         by_cases hgo : j < b
         ·have hgo' : (j : Int) < (b : Int) := by omega
          obtain ⟨jm, ejm⟩ : ∃ x : Nat, (j : Int) - 1 = (x : Int) := ⟨j - 1, by omega⟩
          have ejm0 : j - 1 = jm := by omega
          have wjm : IntKind.i64.wrap (jm : Int) = (jm : Int) := IntWalk.i64_in _ (by omega)
          have hdj' := uh hdj
          obtain ⟨cj, fj⟩ := uh hHj j (by omega)
          obtain ⟨cm, fm⟩ := uh hHj jm (by omega)
          obtain ⟨y, ey⟩ : ∃ y, dj[j]! = y := ⟨_, rfl⟩
          obtain ⟨z, ez⟩ : ∃ z, dj[jm]! = z := ⟨_, rfl⟩
          have hsw := hide ((uh hHj).swap (i := j) (j := jm) (by omega) (by omega) ez.symm ey.symm)
          rw [ey] at cj
          rw [ez] at cm
          have i1' : (j : Int) < (N : Int) := by omega
          have i2' : (jm : Int) < (N : Int) := by omega
          have i3' : (0 : Int) ≤ (jm : Int) := by omega
          have i4' : (0 : Int) ≤ (j : Int) := by omega
          obtain ⟨B, eB⟩ : ∃ B, ltInt y z = B := ⟨_, rfl⟩
          have EB := hide eB
          have HSTOP : Hid (B = false → dj = d4) := fun hB => by
           rw [← uh hej, su_stop (.inr (by rw [ejm0, ey, ez, eB, hB]))]
          have HGO : Hid (B = true → shiftUp ltInt b (j + 1) (swp dj j jm) = d4) := fun hB => by
           rw [← uh hej, su_go hgo (by rw [ejm0, ey, ez, eB, hB]), ejm0]
          have HS2 : Hid ((swp dj j jm).size = N) := by show _ = _; rw [size_swp]; exact hdj'
          have HGs := hide (grown_t (grown_t (uh hg) (grown_set _ blk (off + j) (.int .u64 z))) (grown_set _ blk (off + jm) (.int .u64 y)))
          have K0 := hide (And.intro cj cm)
          have FF := hide (And.intro fj fm)
          clear ey ez eB hdj' cj cm fj fm ejm0
          go_wp2_with fail
          go_cut [116] (fun rv wc => rv = .bool (!B) ∧ wc = wr.drew)
          case first =>
           refine wp_region_noPanic ?_
           refine wp_region_held_drew (S := fun w' => w'.cell? ⟨blk, off + j, none⟩ = some (.int .u64 y) ∧ w'.cell? ⟨blk, off + jm, none⟩ = some (.int .u64 z)) (by kernel_rfl) (by exact uh K0) (fun hS => ?_)
           refine tk 0 hS (h := ?_); simp only [Act.put, xa, xb, xc]
           refine tk 1 hS (h := ?_); simp only [Act.put, xa, xb, xc]
           refine tk 2 hS (h := ?_); simp only [Act.put, xa, xb, xc]
           refine tk 3 hS (h := ?_); simp only [Act.put, xa, xb, xc]
           refine tk 4 hS (h := ?_); simp only [Act.put, xa, xb, xc]
           refine tk 5 hS (h := ?_); simp only [Act.put, xa, xb, xc]
           refine tk 6 hS (h := ?_); simp only [Act.put, xa, xb, xc]
           refine tk 7 hS (h := ?_); simp only [Act.put, xa, xb, xc]
           refine tk 8 hS (h := ?_); simp only [Act.put, xa, xb, xc]
           refine ry [9] ?_
           refine cn (fun KK hK => ?_) ?_
           ·refine step_call2g (by rfl) 212 _ _ _ (by rfl) (.int .u64 y) (.int .u64 z) (by rfl) (by rfl) (fun _ => callLess _ _) (less_any y z _) ?_
            rintro r w2 ⟨rfl, rfl⟩
            refine ⟨_, rfl, ?_⟩
            rw [uh EB]
            refine hK.out _ _ (by exact uh K0) (fun hS => ?_)
            clear hK KK
            (try simp only [Act.put, xa, xb, xc])
            refine tk 10 hS (h := ?_); simp only [Act.put, xa, xb, xc]
            refine wpAnyH_done (by kernel_rfl) ?_ _
            refine NoPanic.normal ?_
            clear hS
            go_wp2_with fail
            go_meet
            exact ⟨rfl, rfl⟩
           exact AllReadyH.nil
          obtain ⟨rfl, rfl⟩ := hcut
          cases B with
          | false =>
           have e := uh HSTOP rfl
           subst e
           clear hsw HGs HGO HSTOP FF K0
           go_wp2
           go_roundw
           case rel =>
            exact ⟨i1, t, jz + 1, _, rfl, by first | rfl | go_num, by omega, by omega, by omega, by omega, HD4, uh hHj, HQ, grown_drew (uh hg)⟩
           case measure => simp [intOf]; omega
          | true =>
           have e := hide (uh HGO rfl)
           obtain ⟨cj, cm⟩ := uh K0
           obtain ⟨fj, fm⟩ := uh FF
           clear HGO HSTOP FF K0
           go_wp2_with fail
           go_region
           go_wp2
           go_roundw
           case rel =>
            exact ⟨j + 1, swp dj j jm, by first | rfl | go_num, by omega, by omega, HS2, (uh hsw), e, grown_drew (grown_drew (uh HGs))⟩
           case measure => simp [intOf]; omega
         ·have hgo' : ¬ (j : Int) < (b : Int) := by omega
          have e : dj = d4 := by rw [← uh hej, su_stop (.inl hgo)]
          subst e
          go_wp2
          go_roundw
          case rel =>
           exact ⟨i1, t, jz + 1, _, rfl, by first | rfl | go_num, by omega, by omega, by omega, by omega, HD4, uh hHj, HQ, uh hg⟩
          case measure => simp [intOf]; omega
       ·have hC' : ¬ (B1 : Int) ≥ 2 := by omega
        have hC2 : ¬ (2 : Int) ≤ (B1 : Int) := by omega
        try simp only [hC2, decide_false]
        have e : d3 = d4 := by
         have := uh E4
         rw [uh eB0, if_neg hC] at this
         exact this
        subst e
        go_wp2
        go_roundw
        case rel =>
         exact ⟨i1, t, jz + 1, _, rfl, by first | rfl | go_num, by omega, by omega, by omega, by omega, HD4, by exact uh hH3, HQ, by exact uh hG3⟩
        case measure => simp [intOf]; omega
end Go.Proofs.YtnbgnhhnpmmloaaGreatDoor.Q

