import Derived.Test.YtnbgnhhnpmmloaaGreatDoorQS4
namespace Go.Proofs.YtnbgnhhnpmmloaaGreatDoor.Q
open Go.Sort Go.RowKit
set_option linter.unusedVariables false
set_option linter.unusedSimpArgs false
set_option maxRecDepth 100000
theorem partEqLoop_stop {a i j : Nat} {d : Array Int} {i2 j2 : Nat} (h1 : scanUp (fun x => !ltInt d[a]! x) d j i = i2) (h2 : scanDown (fun x => ltInt d[a]! x) d i2 j = j2) (h : j2 < i2) : partEqLoop ltInt a i j d = (i2, d) := by
 rw [partEqLoop]
 simp only [h1, h2]
 rw [if_pos h]
theorem partEqLoop_go {a i j : Nat} {d : Array Int} {i2 j2 : Nat} (h1 : scanUp (fun x => !ltInt d[a]! x) d j i = i2) (h2 : scanDown (fun x => ltInt d[a]! x) d i2 j = j2) (h : ¬ j2 < i2) (hi : i ≤ i2) (hj : j2 ≤ j) (hi0 : 0 < i2) : partEqLoop ltInt a i j d = partEqLoop ltInt a (i2 + 1) (j2 - 1) (swp d i2 j2) := by
 rw [partEqLoop]
 simp only [h1, h2]
 rw [if_neg h, dif_pos (by omega)]
set_option maxHeartbeats 6400000 in
theorem parteq_any (blk off cap N a b piv : Nat) (d : Array Int) (hN : Hid (d.size = N)) (w : World) (h : HU w blk off d) (hap : a ≤ piv) (hpb : piv < b) (hb : b ≤ N) (hsz : N ≤ 1048576) :
  Calls Tryz.prog 213 #[.slice (some ⟨blk, off, none⟩) N cap, .int .i64 a, .int .i64 b, .int .i64 piv] w fun e w' => e = .returned (.int .i64 (partitionEqual ltInt d a b piv).1) ∧ HU w' blk off (partitionEqual ltInt d a b piv).2 ∧ w.grownBy w' (some blk) := by
 obtain ⟨⟨Q1, Q2⟩, eR⟩ : ∃ R, partitionEqual ltInt d a b piv = R := ⟨_, rfl⟩
 rw [eR]
 have hds := uh hN
 obtain ⟨B1, eB1⟩ : ∃ x : Nat, (b : Int) - 1 = (x : Int) := ⟨b - 1, by omega⟩
 have eB0 : b - 1 = B1 := by omega
 have wB : IntKind.i64.wrap (B1 : Int) = (B1 : Int) := IntWalk.i64_in _ (by omega)
 obtain ⟨ca, fa⟩ := h a (by omega)
 obtain ⟨cp, fp⟩ := h piv (by omega)
 obtain ⟨u, eu⟩ : ∃ u, d[a]! = u := ⟨_, rfl⟩
 obtain ⟨v, ev⟩ : ∃ v, d[piv]! = v := ⟨_, rfl⟩
 have HSW := hide (h.swap (i := a) (j := piv) (by omega) (by omega) ev.symm eu.symm)
 rw [eu] at ca
 rw [ev] at cp
 obtain ⟨tt, ct⟩ := set_some (q := ⟨blk, off + a, none⟩) (u := .int .u64 v) cp
 obtain ⟨d1, ed1⟩ : ∃ d1, swp d a piv = d1 := ⟨_, rfl⟩
 rw [ed1] at HSW
 have HD1 : Hid (d1.size = N) := by show _ = _; rw [← ed1, size_swp]; exact hds
 have HG := hide (grown_t (grown_set w blk (off + a) (.int .u64 v)) (grown_set _ blk (off + piv) (.int .u64 u)))
 have EQ : Hid (partEqLoop ltInt a (a + 1) B1 d1 = (Q1, Q2)) := by
  show _ = _
  rw [← eR, partitionEqual, ed1, eB0]
 have kk1 : (a : Int) < (N : Int) := by omega
 have kk2 : (piv : Int) < (N : Int) := by omega
 clear eR ed1 eu ev hds h eB0
 go_enter Tryz.func213, Tryz.ntmps213
 go_wp2_with fail
 go_region
 go_wp2_with fail
 clear ca cp fa fp ct
 go_loopw [9, 10] (fun s9 s10 wr => ∃ (i j : Nat) (dk : Array Int), s9 = .int .i64 i ∧ s10 = .int .i64 j ∧ a + 1 ≤ i ∧ i ≤ j + 2 ∧ j ≤ B1 ∧ Hid (dk.size = N) ∧ Hid (HU wr blk off dk) ∧ Hid (partEqLoop ltInt a i j dk = (Q1, Q2)) ∧ Hid (w.grownBy wr (some blk))) (fun s9 s10 _ => (intOf s10 + 2 - intOf s9).toNat)
 case atStart => exact ⟨a + 1, B1, _, by first | rfl | go_num, by first | rfl | go_num, by omega, by omega, by omega, HD1, uh HSW, EQ, grown_drew (uh HG)⟩
 case round =>
  obtain ⟨i, j, dk, rfl, rfl, z1, z2, z3, HD3, hH3, hQ3, hG3⟩ := hrel
  obtain ⟨y, ey⟩ : ∃ y, dk[a]! = y := ⟨_, rfl⟩
  have HY3 := hide ey
  obtain ⟨I4, eI4⟩ : ∃ I, scanUp (fun x => !ltInt dk[a]! x) dk j i = I := ⟨_, rfl⟩
  obtain ⟨J5, eJ5⟩ : ∃ J, scanDown (fun x => ltInt dk[a]! x) dk I4 j = J := ⟨_, rfl⟩
  have EI4 := hide eI4
  have EJ5 := hide eJ5
  have EI4' := EI4
  have EJ5' := EJ5
  clear ey eI4 eJ5
  go_wp2_with fail
  obtain ⟨Y, eY⟩ : ∃ Y, Y = wr := ⟨_, rfl⟩
  subst eY
  go_loopw [9] (fun s wr => ∃ i4 : Nat, s = .int .i64 i4 ∧ i ≤ i4 ∧ i4 ≤ j + 2 ∧ Hid (HU wr blk off dk) ∧ Hid (scanUp (fun x => !ltInt dk[a]! x) dk j i4 = I4) ∧ Hid (w.grownBy wr (some blk))) (fun s _ => j + 1 - (intOf s).toNat)
  case atStart => exact ⟨i, by first | rfl | go_num, by omega, by omega, hH3, EI4, hG3⟩
  case round =>
   obtain ⟨i4, rfl, qa4, qb4, hH4, hE4, hG4⟩ := hrel
   obtain ⟨Bc, eBc⟩ : ∃ B, (decide (i4 ≤ j) && ((fun x => !ltInt dk[a]! x) dk[i4]!)) = B := ⟨_, rfl⟩
   have EBC := hide eBc
   clear eBc
   go_wp2_with fail
   go_cut [43] (fun rv wc => rv = .bool Bc ∧ wc = wr.drew)
   case first =>
    by_cases hij : i4 ≤ j
    ·have hij' : (i4 : Int) ≤ (j : Int) := by omega
     have hdd := uh HD3
     obtain ⟨ci, -⟩ := uh hH4 i4 (by omega)
     obtain ⟨ca, -⟩ := uh hH4 a (by omega)
     obtain ⟨x, ex⟩ : ∃ x, dk[i4]! = x := ⟨_, rfl⟩
     rw [ex] at ci
     rw [uh HY3] at ca
     have k1 : (i4 : Int) < (N : Int) := by omega
     have k2 : (a : Int) < (N : Int) := by omega
     have k3 : (0 : Int) ≤ (i4 : Int) := by omega
     obtain ⟨L, eL⟩ : ∃ L, ltInt y x = L := ⟨_, rfl⟩
     have EL := hide eL
     have eB : Bc = (!L) := by
      rw [← uh EBC]
      simp only [decide_eq_true hij, Bool.true_and, ex, uh HY3, eL]
     subst eB
     have K0 := hide (And.intro ci ca)
     clear eL ex ci ca hdd EBC
     refine wp_region_noPanic ?_
     refine wp_region_held_drew (S := fun w' => w'.cell? ⟨blk, off + i4, none⟩ = some (.int .u64 x) ∧ w'.cell? ⟨blk, off + a, none⟩ = some (.int .u64 y)) (by kernel_rfl) (by exact uh K0) (fun hS => ?_)
     refine tk 0 hS (h := ?_); simp only [Act.put, xa, xb, xc]
     refine tk 1 hS (h := ?_); simp only [Act.put, xa, xb, xc]
     refine tk 2 hS (h := ?_); simp only [Act.put, xa, xb, xc]
     refine tk 3 hS (h := ?_); simp only [Act.put, xa, xb, xc]
     refine tk 4 hS (h := ?_); simp only [Act.put, xa, xb, xc]
     refine tk 5 hS (h := ?_); simp only [Act.put, xa, xb, xc]
     refine tk 6 hS (h := ?_); simp only [Act.put, xa, xb, xc]
     refine tk 7 hS (h := ?_); simp only [Act.put, xa, xb, xc]
     refine tk 8 hS (h := ?_); simp only [Act.put, xa, xb, xc]
     refine tk 9 hS (h := ?_); simp only [Act.put, xa, xb, xc]
     refine tk 10 hS (h := ?_); simp only [Act.put, xa, xb, xc]
     refine tk 11 hS (h := ?_); simp only [Act.put, xa, xb, xc]
     refine ry [12] ?_
     refine cn (fun KK hK => ?_) ?_
     ·refine step_call2g (by rfl) 212 _ _ _ (by rfl) (.int .u64 y) (.int .u64 x) (by rfl) (by rfl) (fun _ => callLess _ _) (less_any y x _) ?_
      rintro r' w2 ⟨rfl, rfl⟩
      refine ⟨_, rfl, ?_⟩
      rw [uh EL]
      refine hK.out _ _ (by exact uh K0) (fun hS => ?_)
      clear hK KK
      (try simp only [Act.put, xa, xb, xc])
      refine tk 13 hS (h := ?_); simp only [Act.put, xa, xb, xc]
      refine tk 14 hS (h := ?_); simp only [Act.put, xa, xb, xc]
      refine wpAnyH_done (by kernel_rfl) ?_ _
      refine NoPanic.normal ?_
      clear hS
      go_wp2_with fail
      go_meet
      exact ⟨rfl, rfl⟩
     exact AllReadyH.nil
    ·have hij' : ¬ (i4 : Int) ≤ (j : Int) := by omega
     have eB : Bc = false := by rw [← uh EBC, decide_eq_false hij]; rfl
     subst eB
     refine wp_region_noPanic ?_
     refine wp_region_held_drew (S := fun w' => True) (by kernel_rfl) trivial (fun hS => ?_)
     refine tk 0 hS (h := ?_); simp only [Act.put, xa, xb, xc]
     refine tk 1 hS (h := ?_); simp only [Act.put, xa, xb, xc]
     refine tk 2 hS (h := ?_); simp only [Act.put, xa, xb, xc]
     refine tk 3 hS (h := ?_); simp only [Act.put, xa, xb, xc]
     refine sk 4 hS (h := ?_); simp only [Act.put, xa, xb, xc]
     refine sk 5 hS (h := ?_); simp only [Act.put, xa, xb, xc]
     refine sk 6 hS (h := ?_); simp only [Act.put, xa, xb, xc]
     refine sk 7 hS (h := ?_); simp only [Act.put, xa, xb, xc]
     refine sk 8 hS (h := ?_); simp only [Act.put, xa, xb, xc]
     refine sk 9 hS (h := ?_); simp only [Act.put, xa, xb, xc]
     refine sk 10 hS (h := ?_); simp only [Act.put, xa, xb, xc]
     refine sk 11 hS (h := ?_); simp only [Act.put, xa, xb, xc]
     refine sk 12 hS (h := ?_); simp only [Act.put, xa, xb, xc]
     refine sk 13 hS (h := ?_); simp only [Act.put, xa, xb, xc]
     refine tk 14 hS (h := ?_); simp only [Act.put, xa, xb, xc]
     refine wpAnyH_done (by kernel_rfl) ?_ _
     refine NoPanic.normal ?_
     clear hS
     go_wp2_with fail
     go_meet
     exact ⟨rfl, rfl⟩
   obtain ⟨rfl, rfl⟩ := hcut
   cases Bc with
   | true =>
    have hh : i4 ≤ j ∧ ((fun x => !ltInt dk[a]! x) dk[i4]!) = true := by have := uh EBC; rw [Bool.and_eq_true, decide_eq_true_iff] at this; exact this
    have hn : Hid (scanUp (fun x => !ltInt dk[a]! x) dk j (i4 + 1) = I4) := by show _ = _; rw [← up_go hh.1 hh.2]; exact uh hE4
    have hle := hh.1
    clear hh EBC
    go_wp2
    go_roundw
    case rel => exact ⟨i4 + 1, by go_num, by omega, by omega, (uh hH4).drew, hn, grown_drew (uh hG4)⟩
    case measure => simp [intOf]; omega
   | false =>
    have hst : i4 = I4 := by
     rw [← uh hE4, up_stop]
     have := uh EBC
     rw [Bool.and_eq_false_iff, decide_eq_false_iff_not] at this
     exact this
    clear hE4 EBC
    subst hst
    go_wp2_with fail
    go_loopw [10] (fun s wr => ∃ j5 : Nat, s = .int .i64 j5 ∧ i4 ≤ j5 + 2 ∧ j5 ≤ j ∧ Hid (HU wr blk off dk) ∧ Hid (scanDown (fun x => ltInt dk[a]! x) dk i4 j5 = J5) ∧ Hid (w.grownBy wr (some blk))) (fun s _ => (intOf s).toNat)
    case atStart => exact ⟨j, by first | rfl | go_num, by omega, by omega, hH4, EJ5, (grown_drew (uh hG4))⟩
    case round =>
     obtain ⟨j5, rfl, qa5, qb5, hH5, hE5, hG5⟩ := hrel
     obtain ⟨Bc, eBc⟩ : ∃ B, (decide (i4 ≤ j5) && ((fun x => ltInt dk[a]! x) dk[j5]!)) = B := ⟨_, rfl⟩
     have EBC := hide eBc
     clear eBc
     go_wp2_with fail
     go_cut [59] (fun rv wc => rv = .bool Bc ∧ wc = wr.drew)
     case first =>
      by_cases hij : i4 ≤ j5
      ·have hij' : (i4 : Int) ≤ (j5 : Int) := by omega
       have hdd := uh HD3
       obtain ⟨ci, -⟩ := uh hH5 j5 (by omega)
       obtain ⟨ca, -⟩ := uh hH5 a (by omega)
       obtain ⟨x, ex⟩ : ∃ x, dk[j5]! = x := ⟨_, rfl⟩
       rw [ex] at ci
       rw [uh HY3] at ca
       have k1 : (j5 : Int) < (N : Int) := by omega
       have k2 : (a : Int) < (N : Int) := by omega
       have k3 : (0 : Int) ≤ (j5 : Int) := by omega
       obtain ⟨L, eL⟩ : ∃ L, ltInt y x = L := ⟨_, rfl⟩
       have EL := hide eL
       have eB : Bc = L := by
        rw [← uh EBC]
        simp only [decide_eq_true hij, Bool.true_and, ex, uh HY3, eL]
       subst eB
       have K0 := hide (And.intro ci ca)
       clear eL ex ci ca hdd EBC
       refine wp_region_noPanic ?_
       refine wp_region_held_drew (S := fun w' => w'.cell? ⟨blk, off + j5, none⟩ = some (.int .u64 x) ∧ w'.cell? ⟨blk, off + a, none⟩ = some (.int .u64 y)) (by kernel_rfl) (by exact uh K0) (fun hS => ?_)
       refine tk 0 hS (h := ?_); simp only [Act.put, xa, xb, xc]
       refine tk 1 hS (h := ?_); simp only [Act.put, xa, xb, xc]
       refine tk 2 hS (h := ?_); simp only [Act.put, xa, xb, xc]
       refine tk 3 hS (h := ?_); simp only [Act.put, xa, xb, xc]
       refine tk 4 hS (h := ?_); simp only [Act.put, xa, xb, xc]
       refine tk 5 hS (h := ?_); simp only [Act.put, xa, xb, xc]
       refine tk 6 hS (h := ?_); simp only [Act.put, xa, xb, xc]
       refine tk 7 hS (h := ?_); simp only [Act.put, xa, xb, xc]
       refine tk 8 hS (h := ?_); simp only [Act.put, xa, xb, xc]
       refine tk 9 hS (h := ?_); simp only [Act.put, xa, xb, xc]
       refine tk 10 hS (h := ?_); simp only [Act.put, xa, xb, xc]
       refine tk 11 hS (h := ?_); simp only [Act.put, xa, xb, xc]
       refine ry [12] ?_
       refine cn (fun KK hK => ?_) ?_
       ·refine step_call2g (by rfl) 212 _ _ _ (by rfl) (.int .u64 y) (.int .u64 x) (by rfl) (by rfl) (fun _ => callLess _ _) (less_any y x _) ?_
        rintro r' w2 ⟨rfl, rfl⟩
        refine ⟨_, rfl, ?_⟩
        rw [uh EL]
        refine hK.out _ _ (by exact uh K0) (fun hS => ?_)
        clear hK KK
        (try simp only [Act.put, xa, xb, xc])
        refine tk 13 hS (h := ?_); simp only [Act.put, xa, xb, xc]
        refine wpAnyH_done (by kernel_rfl) ?_ _
        refine NoPanic.normal ?_
        clear hS
        go_wp2_with fail
        go_meet
        exact ⟨rfl, rfl⟩
       exact AllReadyH.nil
      ·have hij' : ¬ (i4 : Int) ≤ (j5 : Int) := by omega
       have eB : Bc = false := by rw [← uh EBC, decide_eq_false hij]; rfl
       subst eB
       refine wp_region_noPanic ?_
       refine wp_region_held_drew (S := fun w' => True) (by kernel_rfl) trivial (fun hS => ?_)
       refine tk 0 hS (h := ?_); simp only [Act.put, xa, xb, xc]
       refine tk 1 hS (h := ?_); simp only [Act.put, xa, xb, xc]
       refine tk 2 hS (h := ?_); simp only [Act.put, xa, xb, xc]
       refine tk 3 hS (h := ?_); simp only [Act.put, xa, xb, xc]
       refine sk 4 hS (h := ?_); simp only [Act.put, xa, xb, xc]
       refine sk 5 hS (h := ?_); simp only [Act.put, xa, xb, xc]
       refine sk 6 hS (h := ?_); simp only [Act.put, xa, xb, xc]
       refine sk 7 hS (h := ?_); simp only [Act.put, xa, xb, xc]
       refine sk 8 hS (h := ?_); simp only [Act.put, xa, xb, xc]
       refine sk 9 hS (h := ?_); simp only [Act.put, xa, xb, xc]
       refine sk 10 hS (h := ?_); simp only [Act.put, xa, xb, xc]
       refine sk 11 hS (h := ?_); simp only [Act.put, xa, xb, xc]
       refine sk 12 hS (h := ?_); simp only [Act.put, xa, xb, xc]
       refine tk 13 hS (h := ?_); simp only [Act.put, xa, xb, xc]
       refine wpAnyH_done (by kernel_rfl) ?_ _
       refine NoPanic.normal ?_
       clear hS
       go_wp2_with fail
       go_meet
       exact ⟨rfl, rfl⟩
     obtain ⟨rfl, rfl⟩ := hcut
     cases Bc with
     | true =>
      have hh : i4 ≤ j5 ∧ ((fun x => ltInt dk[a]! x) dk[j5]!) = true := by have := uh EBC; rw [Bool.and_eq_true, decide_eq_true_iff] at this; exact this
      have hle := hh.1
      obtain ⟨m, em⟩ : ∃ m : Nat, (j5 : Int) - 1 = (m : Int) := ⟨j5 - 1, by omega⟩
      have hn : Hid (scanDown (fun x => ltInt dk[a]! x) dk i4 m = J5) := by
       show _ = _
       rw [← uh hE5, down_go (by omega) hh.1 hh.2, show j5 - 1 = m by omega]
      clear hh EBC
      go_wp2
      go_roundw
      case rel => exact ⟨m, by first | rfl | go_num, by omega, by omega, (uh hH5).drew, hn, grown_drew (uh hG5)⟩
      case measure => simp [intOf]; omega
     | false =>
      have hst : j5 = J5 := by
       rw [← uh hE5, down_stop (by omega)]
       have := uh EBC
       rw [Bool.and_eq_false_iff, decide_eq_false_iff_not] at this
       exact this
      clear hE5 EBC
      subst hst
      by_cases hg5 : j5 < i4
      ·have hg5' : (j5 : Int) < (i4 : Int) := by omega
       have hq := uh hQ3
       rw [partEqLoop_stop (uh EI4') (uh EJ5') hg5] at hq
       simp only [Prod.mk.injEq] at hq
       obtain ⟨eq1, eq2⟩ := hq
       subst eq1 eq2
       go_wp2
       go_ret
       exact ⟨rfl, uh hH5, grown_drew (uh hG5)⟩
      ·have hg5' : ¬ (j5 : Int) < (i4 : Int) := by omega
       have hq := uh hQ3
       rw [partEqLoop_go (uh EI4') (uh EJ5') hg5 (by omega) (by omega) (by omega)] at hq
       have HQ5 := hide hq
       obtain ⟨c1, f1⟩ := uh hH5 i4 (by have := uh HD3; omega)
       obtain ⟨c2, f2⟩ := uh hH5 j5 (by have := uh HD3; omega)
       obtain ⟨p1, ep1⟩ : ∃ u, dk[i4]! = u := ⟨_, rfl⟩
       obtain ⟨p2, ep2⟩ : ∃ u, dk[j5]! = u := ⟨_, rfl⟩
       rw [ep1] at c1
       rw [ep2] at c2
       obtain ⟨tt, ct⟩ := set_some (q := ⟨blk, off + i4, none⟩) (u := .int .u64 p2) c2
       have HSWn := hide ((uh hH5).swap (i := i4) (j := j5) (by have := uh HD3; omega) (by have := uh HD3; omega) ep2.symm ep1.symm)
       have HGn := hide (grown_t (grown_t (uh hG5) (grown_set _ blk (off + i4) (.int .u64 p2))) (grown_set _ blk (off + j5) (.int .u64 p1)))
       have l1 : (i4 : Int) < (N : Int) := by omega
       have l2 : (j5 : Int) < (N : Int) := by omega
       have l3 : (0 : Int) ≤ (i4 : Int) := by omega
       have l4 : (0 : Int) ≤ (j5 : Int) := by omega
       clear ep1 ep2
       obtain ⟨m5, em5⟩ : ∃ m : Nat, (j5 : Int) - 1 = (m : Int) := ⟨j5 - 1, by omega⟩
       have em50 : j5 - 1 = m5 := by omega
       rw [em50] at HQ5
       have HD5 : Hid ((swp dk i4 j5).size = N) := by show _ = _; rw [size_swp]; exact uh HD3
       clear em50 hq
       go_wp2_with fail
       go_region
       go_wp2
       go_roundw
       case rel => exact ⟨i4 + 1, m5, _, by first | rfl | go_num, by first | rfl | go_num, by omega, by omega, by omega, HD5, uh HSWn, HQ5, grown_drew (grown_drew (uh HGn))⟩
       case measure => simp [intOf]; omega
end Go.Proofs.YtnbgnhhnpmmloaaGreatDoor.Q

