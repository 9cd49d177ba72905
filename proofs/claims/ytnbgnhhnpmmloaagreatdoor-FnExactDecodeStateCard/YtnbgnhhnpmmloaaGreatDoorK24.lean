import Derived.Test.YtnbgnhhnpmmloaaGreatDoorK23
import Derived.Test.YtnbgnhhnpmmloaaGreatDoorK18
import Derived.Test.YtnbgnhhnpmmloaaGreatDoorK19
import Derived.Test.YtnbgnhhnpmmloaaGreatDoorQS5
import Derived.Test.YtnbgnhhnpmmloaaGreatDoorQS6
namespace Go.Proofs.YtnbgnhhnpmmloaaGreatDoor.Q
open Go.Sort Go.RowKit
set_option linter.unusedVariables false
set_option linter.unusedSimpArgs false
set_option maxRecDepth 100000
set_option maxHeartbeats 6400000 in
theorem break_any (blk off cap N a b : Nat) (d : Array Int) (hN : Hid (d.size = N)) (w : World) (h : HU w blk off d) (hblk : blk < w.heap.size) (hab : a + 8 ≤ b) (hb : b ≤ N) (hsz : N ≤ 1048576) :
  Calls Tryz.prog 208 #[.slice (some ⟨blk, off, none⟩) N cap, .int .i64 a, .int .i64 b] w fun e w' =>
   e = .returned (.tuple #[]) ∧ ∃ d', HU w' blk off d' ∧ PermIn a b d d' ∧ w.grownBy w' (some blk) := by
 obtain ⟨L, eL⟩ : ∃ x : Nat, (b : Int) - (a : Int) = (x : Int) := ⟨b - a, by omega⟩
 have wL : IntKind.i64.wrap (L : Int) = (L : Int) := IntWalk.i64_in _ (by omega)
 obtain ⟨Q, eQ⟩ : ∃ Q, L / 4 = Q := ⟨_, rfl⟩
 have eQ1 : Int.tdiv (L : Int) 4 = (Q : Int) := by rw [← eQ]; exact (Int.ofNat_tdiv L 4).symm
 have eQ2 : (L : Int) / 4 = (Q : Int) := by omega
 have wQ : IntKind.i64.wrap (Q : Int) = (Q : Int) := IntWalk.i64_in _ (by omega)
 have wQ2 : IntKind.i64.wrap ((Q : Int) * 2) = (Q : Int) * 2 := IntWalk.i64_in _ (by omega)
 obtain ⟨J, eJ⟩ : ∃ x : Nat, (a : Int) + (Q : Int) * 2 = (x : Int) := ⟨a + Q * 2, by omega⟩
 have wJ : IntKind.i64.wrap (J : Int) = (J : Int) := IntWalk.i64_in _ (by omega)
 have bJ : a + 2 ≤ J ∧ J + 2 < b := by omega
 have wJ1 : IntKind.i64.wrap ((J : Int) + 1) = (J : Int) + 1 := IntWalk.i64_in _ (by omega)
 obtain ⟨J0, eJ0⟩ : ∃ x : Nat, (J : Int) - 1 = (x : Int) := ⟨J - 1, by omega⟩
 have wJ0 : IntKind.i64.wrap (J0 : Int) = (J0 : Int) := IntWalk.i64_in _ (by omega)
 have h8 : (8 : Int) ≤ (L : Int) := by omega
 have wU : IntKind.u64.wrap (L : Int) = (L : Int) := by rw [IntKind.wrap_u64]; omega
 have hg : w.heap.size ≠ blk := by omega
 have hLb : a + L = b := by omega
 have H0 := hide (h.alloc hblk (.cells #[.int .u64 L] 250))
 have HL := hide (And.intro eQ hab)
 clear eQ h
 go_enter Tryz.func208, Tryz.ntmps208
 go_wp2_with fail
 refine (npow_any L (by omega) (by omega) _).mono ?_
 rintro e w1 ⟨M, rfl, hM0, hM, rfl⟩
 have wM : IntKind.u64.wrap ((M : Int) - 1) = (M : Int) - 1 := by rw [IntKind.wrap_u64]; omega
 go_wp2_with fail
 go_loopw [9] (fun s9 wr => ∃ (idx R : Nat) (dk : Array Int), s9 = .int .i64 idx ∧ J0 ≤ idx ∧ idx ≤ J + 2 ∧ R < 18446744073709551616 ∧ Hid (wr.cell? ⟨w.heap.size, 0, none⟩ = some (.int .u64 R) ∧ wr.frozen? ⟨w.heap.size, 0, none⟩ = false) ∧ Hid (HU wr blk off dk) ∧ Hid (PermIn a b d dk) ∧ Hid (dk.size = N) ∧ Hid (w.grownBy wr (some blk))) (fun s9 _ => J + 2 - (intOf s9).toNat)
 case atStart => exact ⟨J0, L, d, rfl, by omega, by omega, by omega, ⟨by simp, by simp⟩, by exact uh H0, permIn_refl d a b, hN, by exact grown_alloc w _ _⟩
 case round =>
  obtain ⟨idx, R, dk, rfl, z1, z2, lR, hC, hH, hP, hdk, hG⟩ := hrel
  by_cases hgo : idx ≤ J + 1
  ·have hgo' : (idx : Int) ≤ (J : Int) + 1 := by omega
   go_wp2_with fail
   refine (next_any w.heap.size R lR _ (uh hC).1 (uh hC).2).mono ?_
   rintro e w2 ⟨C, rfl, lC, hc2, hf2, hg2⟩
   have C2 := hide (And.intro hc2 hf2)
   have H2 := hide ((uh hH).kept (hg2.block blk (Nat.lt_of_lt_of_le hblk (uh hG).size) (fun e => hg (by simpa using e.symm))))
   have G2 := hide (grown_new (uh hG) hg2 (Nat.le_refl _))
   obtain ⟨O, lO, eAnd⟩ : ∃ O : Nat, O ≤ M - 1 ∧ bits .and .u64 (C : Int) ((M : Int) - 1) = (O : Int) := by
    refine ⟨C &&& (M - 1), Nat.and_le_right, ?_⟩
    rw [show ((M : Int) - 1) = ((M - 1 : Nat) : Int) by omega, bits_and_u64_nat _ _ lC (by omega)]
   have wO : IntKind.i64.wrap (O : Int) = (O : Int) := IntWalk.i64_in _ (by omega)
   clear hc2 hf2 hg2 hC hH hG
   by_cases hLO : L ≤ O
   ·have hLO' : (L : Int) ≤ (O : Int) := by omega
    obtain ⟨P, eP⟩ : ∃ x : Nat, (O : Int) - (L : Int) = (x : Int) := ⟨O - L, by omega⟩
    have wP : IntKind.i64.wrap (P : Int) = (P : Int) := IntWalk.i64_in _ (by omega)
    have bP : P < L := by omega
    obtain ⟨T, eT⟩ : ∃ x : Nat, (a : Int) + (P : Int) = (x : Int) := ⟨a + P, by omega⟩
    have wT : IntKind.i64.wrap (T : Int) = (T : Int) := IntWalk.i64_in _ (by omega)
    have bT : a ≤ T ∧ T < b := by omega
    have hds := uh hdk
    obtain ⟨c1, f1⟩ := uh H2 idx (by omega)
    obtain ⟨c2, f2⟩ := uh H2 T (by omega)
    obtain ⟨p1, ep1⟩ : ∃ u, dk[idx]! = u := ⟨_, rfl⟩
    obtain ⟨p2, ep2⟩ : ∃ u, dk[T]! = u := ⟨_, rfl⟩
    rw [ep1] at c1
    rw [ep2] at c2
    obtain ⟨tt, ct⟩ := set_some (q := ⟨blk, off + idx, none⟩) (u := .int .u64 p2) c2
    have HSWn := hide ((uh H2).swap (i := idx) (j := T) (by omega) (by omega) ep2.symm ep1.symm)
    have HGn := hide (grown_t (grown_t (uh G2) (grown_set _ blk (off + idx) (.int .u64 p2))) (grown_set _ blk (off + T) (.int .u64 p1)))
    have HPn : Hid (PermIn a b d (swp dk idx T)) := permIn_trans _ _ _ a b (uh hP) (swp_permIn dk a b idx T (by omega) (by omega) (by omega) (by omega) (by omega))
    have HDn : Hid ((swp dk idx T).size = N) := by show _ = _; rw [size_swp]; exact hds
    have HCn : Hid ((((w2.setCell ⟨blk, off + idx, none⟩ (.int .u64 p2)).setCell ⟨blk, off + T, none⟩ (.int .u64 p1)).drew).cell? ⟨w.heap.size, 0, none⟩ = some (.int .u64 C) ∧ (((w2.setCell ⟨blk, off + idx, none⟩ (.int .u64 p2)).setCell ⟨blk, off + T, none⟩ (.int .u64 p1)).drew).frozen? ⟨w.heap.size, 0, none⟩ = false) :=
     ⟨(World.cell?_setCell_other _ _ _ _ (by simp <;> omega)).trans ((World.cell?_setCell_other _ _ _ _ (by simp <;> omega)).trans (uh C2).1), by show World.frozen? ((w2.setCell ⟨blk, off + idx, none⟩ (.int .u64 p2)).setCell ⟨blk, off + T, none⟩ (.int .u64 p1)) _ = false; rw [World.frozen?_setCell, World.frozen?_setCell]; exact (uh C2).2⟩
    have l1 : (idx : Int) < (N : Int) := by omega
    have l2 : (T : Int) < (N : Int) := by omega
    have l3 : (0 : Int) ≤ (T : Int) := by omega
    clear ep1 ep2 hds
    go_wp2_with fail
    go_region
    go_wp2
    go_roundw
    case rel => exact ⟨idx + 1, C, swp dk idx T, by first | rfl | go_num, by omega, by omega, lC, HCn, by exact uh HSWn, HPn, HDn, by exact grown_drew (uh HGn)⟩
    case measure => simp [intOf]; omega
   ·have hLO' : ¬ (L : Int) ≤ (O : Int) := by omega
    obtain ⟨P, eP⟩ : ∃ x : Nat, O = x := ⟨O, rfl⟩
    subst eP
    have bP : O < L := by omega
    obtain ⟨T, eT⟩ : ∃ x : Nat, (a : Int) + (O : Int) = (x : Int) := ⟨a + O, by omega⟩
    have wT : IntKind.i64.wrap (T : Int) = (T : Int) := IntWalk.i64_in _ (by omega)
    have bT : a ≤ T ∧ T < b := by omega
    have hds := uh hdk
    obtain ⟨c1, f1⟩ := uh H2 idx (by omega)
    obtain ⟨c2, f2⟩ := uh H2 T (by omega)
    obtain ⟨p1, ep1⟩ : ∃ u, dk[idx]! = u := ⟨_, rfl⟩
    obtain ⟨p2, ep2⟩ : ∃ u, dk[T]! = u := ⟨_, rfl⟩
    rw [ep1] at c1
    rw [ep2] at c2
    obtain ⟨tt, ct⟩ := set_some (q := ⟨blk, off + idx, none⟩) (u := .int .u64 p2) c2
    have HSWn := hide ((uh H2).swap (i := idx) (j := T) (by omega) (by omega) ep2.symm ep1.symm)
    have HGn := hide (grown_t (grown_t (uh G2) (grown_set _ blk (off + idx) (.int .u64 p2))) (grown_set _ blk (off + T) (.int .u64 p1)))
    have HPn : Hid (PermIn a b d (swp dk idx T)) := permIn_trans _ _ _ a b (uh hP) (swp_permIn dk a b idx T (by omega) (by omega) (by omega) (by omega) (by omega))
    have HDn : Hid ((swp dk idx T).size = N) := by show _ = _; rw [size_swp]; exact hds
    have HCn : Hid ((((w2.setCell ⟨blk, off + idx, none⟩ (.int .u64 p2)).setCell ⟨blk, off + T, none⟩ (.int .u64 p1)).drew).cell? ⟨w.heap.size, 0, none⟩ = some (.int .u64 C) ∧ (((w2.setCell ⟨blk, off + idx, none⟩ (.int .u64 p2)).setCell ⟨blk, off + T, none⟩ (.int .u64 p1)).drew).frozen? ⟨w.heap.size, 0, none⟩ = false) :=
     ⟨(World.cell?_setCell_other _ _ _ _ (by simp <;> omega)).trans ((World.cell?_setCell_other _ _ _ _ (by simp <;> omega)).trans (uh C2).1), by show World.frozen? ((w2.setCell ⟨blk, off + idx, none⟩ (.int .u64 p2)).setCell ⟨blk, off + T, none⟩ (.int .u64 p1)) _ = false; rw [World.frozen?_setCell, World.frozen?_setCell]; exact (uh C2).2⟩
    have l1 : (idx : Int) < (N : Int) := by omega
    have l2 : (T : Int) < (N : Int) := by omega
    have l3 : (0 : Int) ≤ (T : Int) := by omega
    clear ep1 ep2 hds
    go_wp2_with fail
    go_region
    go_wp2
    go_roundw
    case rel => exact ⟨idx + 1, C, swp dk idx T, by first | rfl | go_num, by omega, by omega, lC, HCn, by exact uh HSWn, HPn, HDn, by exact grown_drew (uh HGn)⟩
    case measure => simp [intOf]; omega
  ·have hgo' : ¬ (idx : Int) ≤ (J : Int) + 1 := by omega
   go_wp2
   go_end0
   exact ⟨rfl, dk, uh hH, uh hP, uh hG⟩
theorem swo64 : SWO ltInt := swo_ltInt
abbrev Left (a b a1 b1 : Nat) (d dk : Array Int) : Prop := ∀ R, PermIn a1 b1 dk R → SortedIn ltInt a1 b1 R → PermIn a b d R ∧ SortedIn ltInt a b R
set_option maxHeartbeats 12800000 in
theorem pdq_any (blk off cap N : Nat) (hsz : N ≤ 1048576) : ∀ (n a b : Nat) (limit : Int) (d : Array Int) (w : World), Hid (b - a = n) → Hid (d.size = N) → HU w blk off d → blk < w.heap.size → a ≤ b → b ≤ N → 0 ≤ limit → limit ≤ 64 → Go.Sort.Below ltInt a b d →
  Calls Tryz.prog 197 #[.slice (some ⟨blk, off, none⟩) N cap, .int .i64 a, .int .i64 b, .int .i64 limit] w fun e w' =>
   e = .returned (.tuple #[]) ∧ ∃ d', HU w' blk off d' ∧ PermIn a b d d' ∧ SortedIn ltInt a b d' ∧ w.grownBy w' (some blk) := by
 intro n
 induction n using Nat.strongRecOn with
 | _ n ih =>
  intro a b limit d w hn hN h hblk hab hb hl0 hl1 hB
  have IH := hide ih
  have H0 := hide h
  have B0 := hide hB
  clear ih h hB
  go_enter Tryz.func197, Tryz.ntmps197
  go_wp2_with fail
  go_loopw [1, 2, 3, 8, 9] (fun s1 s2 s3 s8 s9 wr => ∃ (a1 b1 : Nat) (li : Int) (p q : Bool) (dk : Array Int), s1 = .int .i64 a1 ∧ s2 = .int .i64 b1 ∧ s3 = .int .i64 li ∧ s8 = .bool p ∧ s9 = .bool q ∧ a ≤ a1 ∧ a1 ≤ b1 ∧ b1 ≤ b ∧ 0 ≤ li ∧ li ≤ 64 ∧ Hid (dk.size = N) ∧ Hid (HU wr blk off dk) ∧ Hid (Go.Sort.Below ltInt a1 b1 dk) ∧ Hid (Left a b a1 b1 d dk) ∧ Hid (w.grownBy wr (some blk))) (fun s1 s2 _ _ _ _ => (intOf s2 - intOf s1).toNat)
  case atStart => exact ⟨a, b, limit, true, true, d, rfl, rfl, rfl, rfl, rfl, Nat.le_refl _, hab, Nat.le_refl _, hl0, hl1, hN, H0, B0, fun R h1 h2 => ⟨h1, h2⟩, grown_r _ _⟩
  case round =>
   obtain ⟨a1, b1, li, p, q, dk, rfl, rfl, rfl, rfl, rfl, z1, z2, z3, z4, z5, hD, hH, hB, hF, hG⟩ := hrel
   obtain ⟨L, eL⟩ : ∃ x : Nat, (b1 : Int) - (a1 : Int) = (x : Int) := ⟨b1 - a1, by omega⟩
   have wL : IntKind.i64.wrap (L : Int) = (L : Int) := IntWalk.i64_in _ (by omega)
   have b1N : b1 ≤ N := by omega
   by_cases h12 : L ≤ 12
   ·have h12' : (L : Int) ≤ 12 := by omega
    go_wp2_with fail
    refine (ins_any blk off cap N a1 b1 dk hD _ (uh hH) z2 b1N hsz).mono ?_
    rintro e w1 ⟨rfl, hH1, hg1⟩
    have HH1 := hide hH1
    have HG1 := hide (grown_t (uh hG) hg1)
    clear hH1 hg1
    go_wp2
    refine bodyPost_ret (results_none (h := rfl) _ _ _) rfl ⟨rfl, _, uh HH1, ?_, ?_, uh HG1⟩
    ·have := insertionSort_holds swo64 dk a1 b1 z2 (by rw [uh hD]; exact b1N)
     exact (uh hF _ this.1 this.2).1
    ·have := insertionSort_holds swo64 dk a1 b1 z2 (by rw [uh hD]; exact b1N)
     exact (uh hF _ this.1 this.2).2
   ·have h12' : ¬ (L : Int) ≤ 12 := by omega
    by_cases hli : li = 0
    ·subst hli
     go_wp2_with fail
     refine (heap_any blk off cap N a1 b1 dk hD _ (uh hH) z2 b1N hsz).mono ?_
     rintro e w1 ⟨rfl, hH1, hg1⟩
     have HH1 := hide hH1
     have HG1 := hide (grown_t (uh hG) hg1)
     clear hH1 hg1
     go_wp2
     refine bodyPost_ret (results_none (h := rfl) _ _ _) rfl ⟨rfl, _, uh HH1, ?_, ?_, uh HG1⟩
     ·have := heapSort_holds swo64 dk a1 b1 z2 (by rw [uh hD]; exact b1N)
      exact (uh hF _ this.1 this.2).1
     ·have := heapSort_holds swo64 dk a1 b1 z2 (by rw [uh hD]; exact b1N)
      exact (uh hF _ this.1 this.2).2
    ·have h8 : a1 + 8 ≤ b1 := by omega
     go_upto_if 35 with fail
     go_cut [3] (fun s3 wc => ∃ (lj : Int) (d1 : Array Int), s3 = .int .i64 lj ∧ 0 ≤ lj ∧ lj ≤ 64 ∧ Hid (d1.size = N) ∧ Hid (HU wc blk off d1) ∧ Hid (PermIn a1 b1 dk d1) ∧ Hid (w.grownBy wc (some blk)))
     case first =>
      cases p with
      | true =>
       go_wp2_with fail
       go_meet
       exact ⟨li, dk, rfl, z4, z5, hD, hH, permIn_refl dk a1 b1, hG⟩
      | false =>
       go_wp2_with fail
       refine (break_any blk off cap N a1 b1 dk hD _ (uh hH) (Nat.lt_of_lt_of_le hblk (uh hG).size) h8 b1N hsz).mono ?_
       rintro e w1 ⟨rfl, d1, hH1, hP1, hg1⟩
       have HH1 := hide hH1
       have HP1 := hide hP1
       have HG1 := hide (grown_t (uh hG) hg1)
       clear hH1 hP1 hg1
       go_wp2_with fail
       go_meet
       exact ⟨li - 1, d1, by first | rfl | go_num, by omega, by omega, (uh HP1).1.trans (uh hD), HH1, HP1, HG1⟩
     obtain ⟨lj, d1, rfl, y1, y2, hD1, hH1, hP1, hG1⟩ := hcut
     obtain ⟨Y1, eY1⟩ : ∃ Y, Y = wc := ⟨_, rfl⟩
     subst eY1
     go_wp2_with fail
     refine (pivot_any blk off cap N a1 b1 d1 hD1 _ (uh hH1) (Nat.lt_of_lt_of_le hblk (uh hG1).size) h8 b1N hsz).mono ?_
     rintro e w2 ⟨pv, t, rfl, v1, v2, hH2, hg2⟩
     have HH2 := hide hH2
     have HG2 := hide (grown_t (uh hG1) hg2)
     clear hH2 hg2
     go_upto_if 50 with fail
     go_cut [11, 12] (fun s11 s12 wc => ∃ (pw : Nat) (tt : Int) (d2 : Array Int), s11 = .int .i64 pw ∧ s12 = .int .i64 tt ∧ a1 ≤ pw ∧ pw < b1 ∧ Hid (d2.size = N) ∧ Hid (HU wc blk off d2) ∧ Hid (PermIn a1 b1 d1 d2) ∧ Hid (w.grownBy wc (some blk)))
     case first =>
      by_cases ht : t = 2
      ·subst ht
       have q1 : IntKind.i64.wrap ((b1 : Int) - 1) = (b1 : Int) - 1 := IntWalk.i64_in _ (by omega)
       have q2 : IntKind.i64.wrap ((pv : Int) - (a1 : Int)) = (pv : Int) - (a1 : Int) := IntWalk.i64_in _ (by omega)
       obtain ⟨nv, env⟩ : ∃ x : Nat, (b1 : Int) - 1 - ((pv : Int) - (a1 : Int)) = (x : Int) := ⟨b1 - 1 - (pv - a1), by omega⟩
       have q3 : IntKind.i64.wrap (nv : Int) = (nv : Int) := IntWalk.i64_in _ (by omega)
       have bn : a1 ≤ nv ∧ nv < b1 := by omega
       go_wp2_with fail
       refine (rev_any blk off cap N a1 b1 d1 hD1 _ (uh HH2) z2 b1N hsz).mono ?_
       rintro e w3 ⟨rfl, hH3, hg3⟩
       have HH3 := hide hH3
       have HG3 := hide (grown_t (uh HG2) hg3)
       have HP3 := hide (reverseRange_holds d1 a1 b1 z2 (by rw [uh hD1]; exact b1N))
       clear hH3 hg3
       go_wp2_with fail
       go_meet
       exact ⟨nv, 1, _, rfl, rfl, bn.1, bn.2, (uh HP3).1.trans (uh hD1), HH3, HP3, HG3⟩
      ·have ht' : (t == 2) = false := by simp [ht]
       go_wp2_with fail
       go_meet
       exact ⟨pv, t, d1, rfl, rfl, v1, v2, hD1, HH2, permIn_refl d1 a1 b1, HG2⟩
     obtain ⟨pw, tt, d2, rfl, rfl, x1, x2, hD2, hH2, hP2, hG2⟩ := hcut
     obtain ⟨Y2, eY2⟩ : ∃ Y, Y = wc := ⟨_, rfl⟩
     subst eY2
     clear v1 v2 HH2 HG2
     go_upto_region 15 with fail
     go_cut [68] (fun s68 wc => ∃ Bq : Bool, s68 = .bool Bq ∧ wc = Y2)
     case first =>
      cases p <;> cases q
      all_goals
       go_wp2_with fail
       go_meet
       exact ⟨_, rfl, rfl⟩
     obtain ⟨Bq, rfl, rfl⟩ := hcut
     go_upto_if 68 with fail
     go_cut [72] (fun s72 wc => ∃ d3 : Array Int, Hid (d3.size = N) ∧ Hid (HU wc blk off d3) ∧ Hid (PermIn a1 b1 d2 d3) ∧ Hid (w.grownBy wc (some blk)))
     case first =>
      cases Bq with
      | false =>
       go_wp2_with fail
       go_meet
       exact ⟨d2, hD2, hH2, permIn_refl d2 a1 b1, hG2⟩
      | true =>
       go_wp2_with fail
       refine (parti_any blk off cap N a1 b1 d2 hD2 _ (uh hH2) (by omega) b1N hsz).mono ?_
       have hB2 : Go.Sort.Below ltInt a1 b1 d2 := ((uh hB).perm (by rw [uh hD]; exact b1N) (uh hP1)).perm (by rw [uh hD1]; exact b1N) (uh hP2)
       have HPI := hide (partialInsertionSort_holds swo64 d2 a1 b1 (by omega) (by rw [uh hD2]; exact b1N) hB2)
       clear hB2
       generalize partialInsertionSort ltInt d2 a1 b1 = R at HPI
       obtain ⟨R1, R2⟩ := R
       rintro e w3 ⟨rfl, hH3, hg3⟩
       have HH3 := hide hH3
       have HG3 := hide (grown_t (uh hG2) hg3)
       clear hH3 hg3
       cases R2 with
       | true =>
        go_wp2
        refine bodyPost_ret (results_none (h := rfl) _ _ _) rfl ⟨rfl, R1, uh HH3, ?_, ?_, uh HG3⟩
        ·exact (uh hF R1 (permIn_trans _ _ _ a1 b1 (permIn_trans _ _ _ a1 b1 (uh hP1) (uh hP2)) (uh HPI).1) ((uh HPI).2 (by first | trivial | rfl))).1
        ·exact (uh hF R1 (permIn_trans _ _ _ a1 b1 (permIn_trans _ _ _ a1 b1 (uh hP1) (uh hP2)) (uh HPI).1) ((uh HPI).2 (by first | trivial | rfl))).2
       | false =>
        go_wp2_with fail
        go_meet
        exact ⟨R1, (uh HPI).1.1.trans (uh hD2), HH3, (uh HPI).1, HG3⟩
     obtain ⟨d3, hD3, hH3, hP3', hG3⟩ := hcut
     obtain ⟨Y3, eY3⟩ : ∃ Y, Y = wc := ⟨_, rfl⟩
     subst eY3
     have hP3 : Hid (PermIn a1 b1 dk d3) := permIn_trans _ _ _ a1 b1 (permIn_trans _ _ _ a1 b1 (uh hP1) (uh hP2)) (uh hP3')
     have hB3 : Hid (Go.Sort.Below ltInt a1 b1 d3) := (uh hB).perm (by rw [uh hD]; exact b1N) (uh hP3)
     clear hP1 hP2 hP3' hH1 hG1 hD1 hH2 hG2 hD2 hB hH hG
     go_upto_region 17 with fail
     go_cut [87] (fun s87 wc => ∃ B : Bool, s87 = .bool B ∧ Hid (B = true → 0 < a1 ∧ ltInt d3[a1 - 1]! d3[pw]! = false) ∧ wc = Y3.drew)
     case first =>
      by_cases ha : 0 < a1
      ·have ha' : (0 : Int) < (a1 : Int) := by omega
       have ha2 : (a1 : Int) > 0 := by omega
       obtain ⟨m, em⟩ : ∃ x : Nat, (a1 : Int) - 1 = (x : Int) := ⟨a1 - 1, by omega⟩
       have em0 : a1 - 1 = m := by omega
       have wm : IntKind.i64.wrap (m : Int) = (m : Int) := IntWalk.i64_in _ (by omega)
       have hds := uh hD3
       obtain ⟨c1, -⟩ := uh hH3 m (by omega)
       obtain ⟨c2, -⟩ := uh hH3 pw (by omega)
       obtain ⟨x, ex⟩ : ∃ x, d3[m]! = x := ⟨_, rfl⟩
       obtain ⟨y, ey⟩ : ∃ y, d3[pw]! = y := ⟨_, rfl⟩
       rw [ex] at c1
       rw [ey] at c2
       have k1 : (m : Int) < (N : Int) := by omega
       have k2 : (pw : Int) < (N : Int) := by omega
       have k3 : (0 : Int) ≤ (m : Int) := by omega
       obtain ⟨Lt, eLt⟩ : ∃ B, ltInt x y = B := ⟨_, rfl⟩
       have EL := hide eLt
       have HX : Hid ((!Lt) = true → 0 < a1 ∧ ltInt d3[a1 - 1]! d3[pw]! = false) := fun hb' => ⟨ha, by rw [em0, ex, ey, eLt]; simpa using hb'⟩
       have K0 := hide (And.intro c1 c2)
       clear eLt ex ey c1 c2 hds em0
       refine wp_region_noPanic ?_
       refine wp_region_held_drew (S := fun w' => w'.cell? ⟨blk, off + m, none⟩ = some (.int .u64 x) ∧ w'.cell? ⟨blk, off + pw, none⟩ = some (.int .u64 y)) (by kernel_rfl) (by exact uh K0) (fun hS => ?_)
       refine tk 0 hS (h := ?_); simp only [Act.put, xa, xb, xc]
       refine tk 1 hS (h := ?_); simp only [Act.put, xa, xb, xc]
       refine tk 2 hS (h := ?_); simp only [Act.put, xa, xb, xc]
       refine tk 3 hS (h := ?_); simp only [Act.put, xa, xb, xc]
       refine tk 4 hS (h := ?_); simp only [Act.put, xa, xb, xc]
       refine tk 5 hS (h := ?_); simp only [Act.put, xa, xb, xc]
       refine tk 6 hS (h := ?_); simp only [Act.put, xa, xb, xc]
       refine tk 7 hS (h := ?_); simp only [Act.put, xa, xb, xc]
       refine tk 8 hS (h := ?_); simp only [Act.put, xa, xb, xc]
       refine tk 9 hS (h := ?_); simp only [Act.put, xa, xb, xc]
       refine tk 10 hS (h := ?_); simp only [Act.put, xa, xb, xc]
       refine tk 11 hS (h := ?_); simp only [Act.put, xa, xb, xc]
       refine ry [12] ?_
       refine cn (fun KK hK => ?_) ?_
       ·refine step_call2g (by rfl) 212 _ _ _ (by rfl) (.int .u64 x) (.int .u64 y) (by rfl) (by rfl) (fun _ => callLess _ _) (less_any x y _) ?_
        rintro r' w2' ⟨rfl, rfl⟩
        refine ⟨_, rfl, ?_⟩
        rw [uh EL]
        refine hK.out _ _ (by exact uh K0) (fun hS => ?_)
        clear hK KK
        (try simp only [Act.put, xa, xb, xc])
        refine tk 13 hS (h := ?_); simp only [Act.put, xa, xb, xc]
        refine tk 14 hS (h := ?_); simp only [Act.put, xa, xb, xc]
        refine wpAnyH_done (by kernel_rfl) ?_ _
        refine NoPanic.normal ?_
        clear hS
        go_wp2_with fail
        go_meet
        exact ⟨_, rfl, HX, rfl⟩
       exact AllReadyH.nil
      ·have ha' : ¬ (0 : Int) < (a1 : Int) := by omega
       refine wp_region_noPanic ?_
       refine wp_region_held_drew (S := fun w' => True) (by kernel_rfl) trivial (fun hS => ?_)
       refine tk 0 hS (h := ?_); simp only [Act.put, xa, xb, xc]
       refine tk 1 hS (h := ?_); simp only [Act.put, xa, xb, xc]
       refine tk 2 hS (h := ?_); simp only [Act.put, xa, xb, xc]
       refine sk 3 hS (h := ?_); simp only [Act.put, xa, xb, xc]
       refine sk 4 hS (h := ?_); simp only [Act.put, xa, xb, xc]
       refine sk 5 hS (h := ?_); simp only [Act.put, xa, xb, xc]
       refine sk 6 hS (h := ?_); simp only [Act.put, xa, xb, xc]
       refine sk 7 hS (h := ?_); simp only [Act.put, xa, xb, xc]
       refine sk 8 hS (h := ?_); simp only [Act.put, xa, xb, xc]
       refine sk 9 hS (h := ?_); simp only [Act.put, xa, xb, xc]
       refine sk 10 hS (h := ?_); simp only [Act.put, xa, xb, xc]
       refine sk 11 hS (h := ?_); simp only [Act.put, xa, xb, xc]
       refine sk 12 hS (h := ?_); simp only [Act.put, xa, xb, xc]
       refine sk 13 hS (h := ?_); simp only [Act.put, xa, xb, xc]
       refine tk 14 hS (h := ?_); simp only [Act.put, xa, xb, xc]
       refine wpAnyH_done (by kernel_rfl) ?_ _
       refine NoPanic.normal ?_
       clear hS
       go_wp2_with fail
       go_meet
       exact ⟨false, rfl, (fun h => by cases h), rfl⟩
     obtain ⟨B, rfl, hBB, rfl⟩ := hcut
     cases B with
     | true =>
      obtain ⟨⟨mid, d4⟩, ePE⟩ : ∃ R, partitionEqual ltInt d3 a1 b1 pw = R := ⟨_, rfl⟩
      have hc := parteq_any blk off cap N a1 b1 pw d3 hD3 Y3.drew (uh hH3) x1 x2 b1N hsz
      rw [ePE] at hc
      obtain ⟨m1, m2, m3, m4, m5⟩ := round_eq swo64 (partitionEqual_holds ltInt) (uh hBB rfl).1 x1 x2 (by rw [uh hD3]; exact b1N) (uh hB3) (uh hBB rfl).2 ePE
      have HD4 : Hid (d4.size = N) := m3.trans (uh hD3)
      have HB4 := hide m4
      have HL4 : Hid (Left a b mid b1 d d4) := fun R r1 r2 => by
       have := m5 R r1 r2
       exact uh hF R (permIn_trans _ _ _ a1 b1 (uh hP3) this.1) this.2
      clear m3 m4 m5 ePE hBB
      go_wp2_with fail
      refine hc.mono ?_
      rintro e w4 ⟨rfl, hH4, hg4⟩
      have HH4 := hide hH4
      have HG4 := hide (grown_t (grown_drew (uh hG3)) hg4)
      clear hH4 hg4 hc
      go_wp2
      go_roundw
      case rel => exact ⟨mid, b1, lj, p, q, d4, rfl, rfl, rfl, rfl, rfl, by omega, by omega, by omega, by omega, by omega, HD4, HH4, HB4, HL4, HG4⟩
      case measure => simp [intOf]; omega
     | false =>
      obtain ⟨⟨mid, ap, d4⟩, ePE⟩ : ∃ R, partition ltInt d3 a1 b1 pw = R := ⟨_, rfl⟩
      have hc := part_any blk off cap N a1 b1 pw d3 hD3 Y3.drew (uh hH3) x1 x2 b1N hsz
      rw [ePE] at hc
      obtain ⟨m1, m2, m3, m4, m5, m6, m7⟩ := round_part swo64 (partition_holds ltInt) x1 x2 (by rw [uh hD3]; exact b1N) (uh hB3) ePE
      have HD4 : Hid (d4.size = N) := m3.trans (uh hD3)
      have HB4 := hide m4
      have HB5 := hide m5
      have HL6 := hide m6
      have HL7 := hide m7
      obtain ⟨lL, elL⟩ : ∃ x : Nat, (mid : Int) - (a1 : Int) = (x : Int) := ⟨mid - a1, by omega⟩
      obtain ⟨rL, erL⟩ : ∃ x : Nat, (b1 : Int) - (mid : Int) = (x : Int) := ⟨b1 - mid, by omega⟩
      have wlL : IntKind.i64.wrap (lL : Int) = (lL : Int) := IntWalk.i64_in _ (by omega)
      have wrL : IntKind.i64.wrap (rL : Int) = (rL : Int) := IntWalk.i64_in _ (by omega)
      obtain ⟨th, eth⟩ : ∃ x : Nat, (L : Int) / 8 = (x : Int) := ⟨L / 8, by omega⟩
      have eth1 : Int.tdiv (L : Int) 8 = (th : Int) := by rw [← eth]; exact Int.tdiv_eq_ediv_of_nonneg (by omega)
      have wth : IntKind.i64.wrap (th : Int) = (th : Int) := IntWalk.i64_in _ (by omega)
      clear m3 m4 m5 m6 m7 ePE hBB
      go_wp2_with fail
      refine hc.mono ?_
      rintro e w4 ⟨rfl, hH4, hg4⟩
      have HH4 := hide hH4
      have HG4 := hide (grown_t (grown_drew (uh hG3)) hg4)
      clear hH4 hg4 hc
      by_cases hlr : lL < rL
      ·have hlr' : (lL : Int) < (rL : Int) := by omega
       go_wp2_with fail
       refine (uh IH (mid - a1) (by have := uh hn; omega) a1 mid lj d4 _ rfl HD4 (uh HH4) (Nat.lt_of_lt_of_le hblk (uh HG4).size) m1 (by omega) y1 y2 (uh HB4)).mono ?_
       rintro e w5 ⟨rfl, d5, hH5, hP5, hS5, hg5⟩
       have HH5 := hide hH5
       have HG5 := hide (grown_t (uh HG4) hg5)
       obtain ⟨o1, o2⟩ := uh HL6 d5 hP5 hS5
       have HB5' := hide o1
       have HD5 : Hid (d5.size = N) := hP5.1.trans (uh HD4)
       have HL5 : Hid (Left a b (mid + 1) b1 d d5) := fun R r1 r2 => by
        have := o2 R r1 r2
        exact uh hF R (permIn_trans _ _ _ a1 b1 (uh hP3) this.1) this.2
       clear hH5 hP5 hS5 hg5 o1 o2
       go_wp2
       go_roundw
       case rel => exact ⟨mid + 1, b1, lj, _, ap, d5, by first | rfl | go_num, rfl, rfl, rfl, rfl, by omega, by omega, by omega, by omega, by omega, HD5, HH5, HB5', HL5, HG5⟩
       case measure => simp [intOf]; omega
      ·have hlr' : ¬ (lL : Int) < (rL : Int) := by omega
       obtain ⟨mp, emp⟩ : ∃ x : Nat, (mid : Int) + 1 = (x : Int) := ⟨mid + 1, by omega⟩
       have emp0 : mid + 1 = mp := by omega
       have wmp : IntKind.i64.wrap (mp : Int) = (mp : Int) := IntWalk.i64_in _ (by omega)
       rw [emp0] at HB5 HL7
       clear emp0
       go_wp2_with fail
       refine (uh IH (b1 - mp) (by have := uh hn; omega) mp b1 lj d4 _ rfl HD4 (uh HH4) (Nat.lt_of_lt_of_le hblk (uh HG4).size) (by omega) (by omega) y1 y2 (uh HB5)).mono ?_
       rintro e w5 ⟨rfl, d5, hH5, hP5, hS5, hg5⟩
       have HH5 := hide hH5
       have HG5 := hide (grown_t (uh HG4) hg5)
       obtain ⟨o1, o2⟩ := uh HL7 d5 hP5 hS5
       have HB5' := hide o1
       have HD5 : Hid (d5.size = N) := hP5.1.trans (uh HD4)
       have HL5 : Hid (Left a b a1 mid d d5) := fun R r1 r2 => by
        have := o2 R r1 r2
        exact uh hF R (permIn_trans _ _ _ a1 b1 (uh hP3) this.1) this.2
       clear hH5 hP5 hS5 hg5 o1 o2
       go_wp2
       go_roundw
       case rel => exact ⟨a1, mid, lj, _, ap, d5, rfl, rfl, rfl, rfl, rfl, by omega, by omega, by omega, by omega, by omega, HD5, HH5, HB5', HL5, HG5⟩
       case measure => simp [intOf]; omega
end Go.Proofs.YtnbgnhhnpmmloaaGreatDoor.Q
