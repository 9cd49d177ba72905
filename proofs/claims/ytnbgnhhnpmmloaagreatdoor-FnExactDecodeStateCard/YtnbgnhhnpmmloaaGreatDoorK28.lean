import Derived.Test.YtnbgnhhnpmmloaaGreatDoorK27
namespace Go.Proofs.YtnbgnhhnpmmloaaGreatDoor.T
open Go.Sort Go.RowKit
set_option linter.unusedVariables false
set_option linter.unusedSimpArgs false
set_option maxRecDepth 100000
theorem sift_end {hi first r : Nat} {d : Array (List UInt8)} (h : ¬ 2 * r + 1 < hi) : siftDown ltStr hi first r d = d := by
 rw [siftDown, dif_pos (by omega)]
def kid (hi first r : Nat) (d : Array (List UInt8)) : Nat := if 2 * r + 1 + 1 < hi && ltStr d[first + (2 * r + 1)]! d[first + (2 * r + 1) + 1]! then 2 * r + 2 else 2 * r + 1
theorem sift_stop {hi first r : Nat} {d : Array (List UInt8)} (h : 2 * r + 1 < hi) (hl : ltStr d[first + r]! d[first + kid hi first r d]! = false) : siftDown ltStr hi first r d = d := by
 rw [siftDown, dif_neg (by omega)]
 unfold kid at hl
 split
 ·next hc => rw [if_pos hc] at hl; rw [if_pos (by simp [hl])]
 ·next hc => rw [if_neg hc] at hl; rw [if_pos (by simp [hl])]
theorem sift_go {hi first r : Nat} {d : Array (List UInt8)} (h : 2 * r + 1 < hi) (hl : ltStr d[first + r]! d[first + kid hi first r d]! = true) : siftDown ltStr hi first r d = siftDown ltStr hi first (kid hi first r d) (swp d (first + r) (first + kid hi first r d)) := by
 rw [siftDown, dif_neg (by omega)]
 unfold kid at hl ⊢
 split
 ·next hc =>
  rw [if_pos hc] at hl
  rw [if_neg (by simp [hl])]
  have : 2 * r + 2 < hi := by simp at hc; omega
  rw [dif_pos this]
 ·next hc =>
  rw [if_neg hc] at hl
  rw [if_neg (by simp [hl])]
set_option maxHeartbeats 3200000 in
theorem sift_any (blk off cap N lo hi first : Nat) (d : Array (List UInt8)) (hN : Hid (d.size = N)) (w : World) (h : HT w blk off d) (hh : first + hi ≤ N) (hlo : lo ≤ N) (hsz : N ≤ 1048576) :
  Calls Tryz.prog 238 #[.slice (some ⟨blk, off, none⟩) N cap, .int .i64 lo, .int .i64 hi, .int .i64 first] w fun e w' => e = .returned (.tuple #[]) ∧ HT w' blk off (siftDown ltStr hi first lo d) ∧ w.grownBy w' (some blk) := by
 obtain ⟨D, eD⟩ : ∃ D, siftDown ltStr hi first lo d = D := ⟨_, rfl⟩
 rw [eD]
 have ED := hide eD
 clear eD
 have H0 := hide h
 clear h
 go_enter Tryz.func238, Tryz.ntmps238
 go_wp2_with fail
 go_loopw [8] (fun s8 wr => ∃ (r : Nat) (dk : Array (List UInt8)), s8 = .int .i64 r ∧ r ≤ 1048576 ∧ Hid (dk.size = N) ∧ Hid (HT wr blk off dk) ∧ Hid (siftDown ltStr hi first r dk = D) ∧ Hid (w.grownBy wr (some blk))) (fun s8 _ => hi - (intOf s8).toNat)
 case atStart => exact ⟨lo, d, rfl, by omega, hN, H0, ED, grown_r _ _⟩
 case round =>
  obtain ⟨r, dk, rfl, q1, hds, hHk, heq, hg⟩ := hrel
  have w1 : IntKind.i64.wrap (2 * (r : Int)) = 2 * (r : Int) := IntWalk.i64_in _ (by omega)
  obtain ⟨c, ec⟩ : ∃ c : Nat, 2 * (r : Int) + 1 = (c : Int) := ⟨2 * r + 1, by omega⟩
  have ec0 : 2 * r + 1 = c := by omega
  have wc : IntKind.i64.wrap (c : Int) = (c : Int) := IntWalk.i64_in _ (by omega)
  by_cases hlt : c < hi
  ·have hlt' : ¬ (hi : Int) ≤ (c : Int) := by omega
   have hds' := uh hds
   obtain ⟨c2, ec2⟩ : ∃ c2 : Nat, (c : Int) + 1 = (c2 : Int) := ⟨c + 1, by omega⟩
   have wc2 : IntKind.i64.wrap (c2 : Int) = (c2 : Int) := IntWalk.i64_in _ (by omega)
   obtain ⟨fr, efr⟩ : ∃ x : Nat, (first : Int) + (r : Int) = (x : Int) := ⟨first + r, by omega⟩
   have wfr : IntKind.i64.wrap (fr : Int) = (fr : Int) := IntWalk.i64_in _ (by omega)
   obtain ⟨fc, efc⟩ : ∃ x : Nat, (first : Int) + (c : Int) = (x : Int) := ⟨first + c, by omega⟩
   have wfc : IntKind.i64.wrap (fc : Int) = (fc : Int) := IntWalk.i64_in _ (by omega)
   obtain ⟨fd, efd⟩ : ∃ x : Nat, (fc : Int) + 1 = (x : Int) := ⟨fc + 1, by omega⟩
   have wfd : IntKind.i64.wrap (fd : Int) = (fd : Int) := IntWalk.i64_in _ (by omega)
   have efd2 : (first : Int) + (c2 : Int) = (fd : Int) := by omega
   have n1 : first + r = fr := by omega
   have n2 : first + c = fc := by omega
   have n3 : fc + 1 = fd := by omega
   have n4 : 2 * r + 2 = c2 := by omega
   obtain ⟨cr, frr⟩ := uh hHk fr (by omega)
   obtain ⟨cc, fcc⟩ := uh hHk fc (by omega)
   obtain ⟨y, ey⟩ : ∃ y, dk[fr]! = y := ⟨_, rfl⟩
   obtain ⟨z, ez⟩ : ∃ z, dk[fc]! = z := ⟨_, rfl⟩
   rw [ey] at cr
   rw [ez] at cc
   have j1 : (fr : Int) < (N : Int) := by omega
   have j2 : (fc : Int) < (N : Int) := by omega
   have K1 := hide (And.intro cr cc)
   have F1 := hide (And.intro frr fcc)
   clear cr cc frr fcc
   by_cases hc2 : c2 < hi
   ·have hc2' : (c2 : Int) < (hi : Int) := by omega
    obtain ⟨cd, fdd⟩ := uh hHk fd (by omega)
    obtain ⟨x, ex⟩ : ∃ x, dk[fd]! = x := ⟨_, rfl⟩
    rw [ex] at cd
    have j3 : (fd : Int) < (N : Int) := by omega
    obtain ⟨B, eB⟩ : ∃ B, ltStr z x = B := ⟨_, rfl⟩
    have EB := hide eB
    have hkid : kid hi first r dk = if B then c2 else c := by
     unfold kid
     rw [ec0, n4, n2, n3, ez, ex, eB]
     simp only [show decide (c + 1 < hi) = true by (rw [decide_eq_true_iff]; omega), Bool.true_and]
    have K2 := hide (And.intro (uh K1).2 cd)
    have HKID := hide hkid
    have HX := hide (And.intro ex (And.intro cd fdd))
    have HN2 := hide (And.intro ec0 (And.intro n1 (And.intro n2 (And.intro n3 n4))))
    have HE := hide (And.intro ey ez)
    clear hkid eB ex cd fdd ec0 n1 n2 n3 n4 ey ez hds'
    go_wp2_with fail
    go_cut [36] (fun rv wc => rv = .bool B ∧ wc = wr.drew)
    case first =>
     refine wp_region_noPanic ?_
     refine wp_region_held_drew (S := fun w' => w'.cell? ⟨blk, off + fc, none⟩ = some (.string ⟨z.toArray⟩) ∧ w'.cell? ⟨blk, off + fd, none⟩ = some (.string ⟨x.toArray⟩)) (by kernel_rfl) (by exact uh K2) (fun hS => ?_)
     refine tk 0 hS (h := ?_); simp only [Act.put, xa, xb, xc]
     refine tk 1 hS (h := ?_); simp only [Act.put, xa, xb, xc]
     refine tk 2 hS (h := ?_); simp only [Act.put, xa, xb, xc]
     refine tk 3 hS (h := ?_); simp only [Act.put, xa, xb, xc]
     refine tk 4 hS (h := ?_); simp only [Act.put, xa, xb, xc]
     refine tk 5 hS (h := ?_); simp only [Act.put, xa, xb, xc]
     refine tk 6 hS (h := ?_); simp only [Act.put, xa, xb, xc]
     refine tk 7 hS (h := ?_); simp only [Act.put, xa, xb, xc]
     refine tk 8 hS (h := ?_); simp only [Act.put, xa, xb, xc]
     refine tk 9 hS (h := ?_); simp only [Act.put, xa, xb, xc]
     refine tk 10 hS (h := ?_); simp only [Act.put, xa, xb, xc]
     refine tk 11 hS (h := ?_); simp only [Act.put, xa, xb, xc]
     refine tk 12 hS (h := ?_); simp only [Act.put, xa, xb, xc]
     refine tk 13 hS (h := ?_); simp only [Act.put, xa, xb, xc]
     refine tk 14 hS (h := ?_); simp only [Act.put, xa, xb, xc]
     refine tk 15 hS (h := ?_); simp only [Act.put, xa, xb, xc]
     refine tk 16 hS (h := ?_); simp only [Act.put, xa, xb, xc]
     refine tk 17 hS (h := ?_); simp only [Act.put, xa, xb, xc]
     refine ry [18] ?_
     refine cn (fun KK hK => ?_) ?_
     ·refine step_call2g (by rfl) 223 _ _ _ (by rfl) (.string ⟨z.toArray⟩) (.string ⟨x.toArray⟩) (by rfl) (by rfl) (fun _ => callLess _ _) (less_any z x _) ?_
      rintro r' w2 ⟨rfl, rfl⟩
      refine ⟨_, rfl, ?_⟩
      rw [uh EB]
      refine hK.out _ _ (by exact uh K2) (fun hS => ?_)
      clear hK KK
      (try simp only [Act.put, xa, xb, xc])
      refine tk 19 hS (h := ?_); simp only [Act.put, xa, xb, xc]
      refine wpAnyH_done (by kernel_rfl) ?_ _
      refine NoPanic.normal ?_
      clear hS
      go_wp2_with fail
      go_meet
      exact ⟨rfl, rfl⟩
     exact AllReadyH.nil
    obtain ⟨rfl, rfl⟩ := hcut
    cases B with
    | true =>
     have HK3 : Hid (kid hi first r dk = c2) := by show _ = _; rw [uh HKID]; rfl
     obtain ⟨ex, cd, fdd⟩ := uh HX
     obtain ⟨cr, -⟩ := uh K1
     obtain ⟨frr, -⟩ := uh F1
     obtain ⟨B2, eB2⟩ : ∃ B, ltStr y x = B := ⟨_, rfl⟩
     have EB2 := hide eB2
     have hnk : first + c2 = fd := by have := uh HN2; omega
     have hfr : first + r = fr := (uh HN2).2.1
     have HSTOP : Hid (B2 = false → dk = D) := fun hB => by
      rw [← uh heq, sift_stop (by have := (uh HN2).1; omega) (by rw [uh HK3, hnk, hfr, (uh HE).1, ex, eB2, hB])]
     have HGO : Hid (B2 = true → siftDown ltStr hi first c2 (swp dk fr fd) = D) := fun hB => by
      have := uh heq
      rw [sift_go (by have := (uh HN2).1; omega) (by rw [uh HK3, hnk, hfr, (uh HE).1, ex, eB2, hB]), uh HK3, hnk, hfr] at this
      exact this
     have hds' := uh hds
     have hsw := hide ((uh hHk).swap (i := fr) (j := fd) (by omega) (by omega) ex.symm (uh HE).1.symm)
     have HS2 : Hid ((swp dk fr fd).size = N) := by show _ = _; rw [size_swp]; exact hds'
     have HG := hide (grown_t (grown_t (uh hg) (grown_set wr blk (off + fr) (.string ⟨x.toArray⟩))) (grown_set _ blk (off + fd) (.string ⟨y.toArray⟩)))
     have K3 := hide (And.intro cr cd)
     have F3 := hide (And.intro frr fdd)
     have hrc : r < c2 := by have := uh HN2; omega
     clear eB2 hnk hfr ex cr cd frr fdd hds'
     go_wp2_with fail
     go_cut [52] (fun rv wc => rv = .bool (!B2) ∧ wc = wr.drew.drew)
     case first =>
      refine wp_region_noPanic ?_
      refine wp_region_held_drew (S := fun w' => w'.cell? ⟨blk, off + fr, none⟩ = some (.string ⟨y.toArray⟩) ∧ w'.cell? ⟨blk, off + fd, none⟩ = some (.string ⟨x.toArray⟩)) (by kernel_rfl) (by exact uh K3) (fun hS => ?_)
      refine tk 0 hS (h := ?_); simp only [Act.put, xa, xb, xc]
      refine tk 1 hS (h := ?_); simp only [Act.put, xa, xb, xc]
      refine tk 2 hS (h := ?_); simp only [Act.put, xa, xb, xc]
      refine tk 3 hS (h := ?_); simp only [Act.put, xa, xb, xc]
      refine tk 4 hS (h := ?_); simp only [Act.put, xa, xb, xc]
      refine tk 5 hS (h := ?_); simp only [Act.put, xa, xb, xc]
      refine tk 6 hS (h := ?_); simp only [Act.put, xa, xb, xc]
      refine tk 7 hS (h := ?_); simp only [Act.put, xa, xb, xc]
      refine tk 8 hS (h := ?_); simp only [Act.put, xa, xb, xc]
      refine tk 9 hS (h := ?_); simp only [Act.put, xa, xb, xc]
      refine tk 10 hS (h := ?_); simp only [Act.put, xa, xb, xc]
      refine tk 11 hS (h := ?_); simp only [Act.put, xa, xb, xc]
      refine ry [12] ?_
      refine cn (fun KK hK => ?_) ?_
      ·refine step_call2g (by rfl) 223 _ _ _ (by rfl) (.string ⟨y.toArray⟩) (.string ⟨x.toArray⟩) (by rfl) (by rfl) (fun _ => callLess _ _) (less_any y x _) ?_
       rintro r' w2 ⟨rfl, rfl⟩
       refine ⟨_, rfl, ?_⟩
       rw [uh EB2]
       refine hK.out _ _ (by exact uh K3) (fun hS => ?_)
       clear hK KK
       (try simp only [Act.put, xa, xb, xc])
       refine tk 13 hS (h := ?_); simp only [Act.put, xa, xb, xc]
       refine wpAnyH_done (by kernel_rfl) ?_ _
       refine NoPanic.normal ?_
       clear hS
       go_wp2_with fail
       go_meet
       exact ⟨rfl, rfl⟩
      exact AllReadyH.nil
     obtain ⟨rfl, rfl⟩ := hcut
     cases B2 with
     | false =>
      have e := uh HSTOP rfl
      subst e
      clear hsw HG HGO HSTOP K3 F3 HS2
      go_wp2
      exact bodyPost_ret (results_none (h := rfl) _ _ _) rfl ⟨rfl, uh hHk, grown_drew (grown_drew (uh hg))⟩
     | true =>
      have e := hide (uh HGO rfl)
      obtain ⟨cr, cd⟩ := uh K3
      obtain ⟨frr, fdd⟩ := uh F3
      clear HGO HSTOP K3 F3
      go_wp2_with fail
      go_region
      go_wp2
      go_roundw
      case rel => exact ⟨c2, swp dk fr fd, rfl, by omega, HS2, (uh hsw), e, grown_drew (grown_drew (grown_drew (uh HG)))⟩
      case measure => simp [intOf]; omega
    | false =>
     have HK3 : Hid (kid hi first r dk = c) := by show _ = _; rw [uh HKID]; rfl
     have ex := (uh HE).2
     have cd := (uh K1).2
     have fdd := (uh F1).2
     obtain ⟨cr, -⟩ := uh K1
     obtain ⟨frr, -⟩ := uh F1
     obtain ⟨B2, eB2⟩ : ∃ B, ltStr y z = B := ⟨_, rfl⟩
     have EB2 := hide eB2
     have hnk : first + c = fc := by have := uh HN2; omega
     have hfr : first + r = fr := (uh HN2).2.1
     have HSTOP : Hid (B2 = false → dk = D) := fun hB => by
      rw [← uh heq, sift_stop (by have := (uh HN2).1; omega) (by rw [uh HK3, hnk, hfr, (uh HE).1, ex, eB2, hB])]
     have HGO : Hid (B2 = true → siftDown ltStr hi first c (swp dk fr fc) = D) := fun hB => by
      have := uh heq
      rw [sift_go (by have := (uh HN2).1; omega) (by rw [uh HK3, hnk, hfr, (uh HE).1, ex, eB2, hB]), uh HK3, hnk, hfr] at this
      exact this
     have hds' := uh hds
     have hsw := hide ((uh hHk).swap (i := fr) (j := fc) (by omega) (by omega) ex.symm (uh HE).1.symm)
     have HS2 : Hid ((swp dk fr fc).size = N) := by show _ = _; rw [size_swp]; exact hds'
     have HG := hide (grown_t (grown_t (uh hg) (grown_set wr blk (off + fr) (.string ⟨z.toArray⟩))) (grown_set _ blk (off + fc) (.string ⟨y.toArray⟩)))
     have K3 := hide (And.intro cr cd)
     have F3 := hide (And.intro frr fdd)
     have hrc : r < c := by have := uh HN2; omega
     clear eB2 hnk hfr ex cr cd frr fdd hds'
     go_wp2_with fail
     go_cut [52] (fun rv wc => rv = .bool (!B2) ∧ wc = wr.drew.drew)
     case first =>
      refine wp_region_noPanic ?_
      refine wp_region_held_drew (S := fun w' => w'.cell? ⟨blk, off + fr, none⟩ = some (.string ⟨y.toArray⟩) ∧ w'.cell? ⟨blk, off + fc, none⟩ = some (.string ⟨z.toArray⟩)) (by kernel_rfl) (by exact uh K3) (fun hS => ?_)
      refine tk 0 hS (h := ?_); simp only [Act.put, xa, xb, xc]
      refine tk 1 hS (h := ?_); simp only [Act.put, xa, xb, xc]
      refine tk 2 hS (h := ?_); simp only [Act.put, xa, xb, xc]
      refine tk 3 hS (h := ?_); simp only [Act.put, xa, xb, xc]
      refine tk 4 hS (h := ?_); simp only [Act.put, xa, xb, xc]
      refine tk 5 hS (h := ?_); simp only [Act.put, xa, xb, xc]
      refine tk 6 hS (h := ?_); simp only [Act.put, xa, xb, xc]
      refine tk 7 hS (h := ?_); simp only [Act.put, xa, xb, xc]
      refine tk 8 hS (h := ?_); simp only [Act.put, xa, xb, xc]
      refine tk 9 hS (h := ?_); simp only [Act.put, xa, xb, xc]
      refine tk 10 hS (h := ?_); simp only [Act.put, xa, xb, xc]
      refine tk 11 hS (h := ?_); simp only [Act.put, xa, xb, xc]
      refine ry [12] ?_
      refine cn (fun KK hK => ?_) ?_
      ·refine step_call2g (by rfl) 223 _ _ _ (by rfl) (.string ⟨y.toArray⟩) (.string ⟨z.toArray⟩) (by rfl) (by rfl) (fun _ => callLess _ _) (less_any y z _) ?_
       rintro r' w2 ⟨rfl, rfl⟩
       refine ⟨_, rfl, ?_⟩
       rw [uh EB2]
       refine hK.out _ _ (by exact uh K3) (fun hS => ?_)
       clear hK KK
       (try simp only [Act.put, xa, xb, xc])
       refine tk 13 hS (h := ?_); simp only [Act.put, xa, xb, xc]
       refine wpAnyH_done (by kernel_rfl) ?_ _
       refine NoPanic.normal ?_
       clear hS
       go_wp2_with fail
       go_meet
       exact ⟨rfl, rfl⟩
      exact AllReadyH.nil
     obtain ⟨rfl, rfl⟩ := hcut
     cases B2 with
     | false =>
      have e := uh HSTOP rfl
      subst e
      clear hsw HG HGO HSTOP K3 F3 HS2
      go_wp2
      exact bodyPost_ret (results_none (h := rfl) _ _ _) rfl ⟨rfl, uh hHk, grown_drew (grown_drew (uh hg))⟩
     | true =>
      have e := hide (uh HGO rfl)
      obtain ⟨cr, cd⟩ := uh K3
      obtain ⟨frr, fdd⟩ := uh F3
      clear HGO HSTOP K3 F3
      go_wp2_with fail
      go_region
      go_wp2
      go_roundw
      case rel => exact ⟨c, swp dk fr fc, rfl, by omega, HS2, (uh hsw), e, grown_drew (grown_drew (grown_drew (uh HG)))⟩
      case measure => simp [intOf]; omega
   ·have hc2' : ¬ (c2 : Int) < (hi : Int) := by omega
    have HK3 : Hid (kid hi first r dk = c) := by
     show _ = _
     unfold kid
     rw [if_neg (by simp; omega), ec0]
    have HN2 := hide (And.intro ec0 (And.intro n1 (And.intro n2 (And.intro n3 n4))))
    have HE := hide (And.intro ey ez)
    have ex := (uh HE).2
    have cd := (uh K1).2
    have fdd := (uh F1).2
    clear ec0 n1 n2 n3 n4 ey ez hds'
    go_wp2_with fail
    go_cut [36] (fun rv wc => rv = .bool false ∧ wc = wr.drew)
    case first =>
     refine wp_region_noPanic ?_
     refine wp_region_held_drew (S := fun w' => True) (by kernel_rfl) trivial (fun hS => ?_)
     refine tk 0 hS (h := ?_); simp only [Act.put, xa, xb, xc]
     refine tk 1 hS (h := ?_); simp only [Act.put, xa, xb, xc]
     refine tk 2 hS (h := ?_); simp only [Act.put, xa, xb, xc]
     refine tk 3 hS (h := ?_); simp only [Act.put, xa, xb, xc]
     refine tk 4 hS (h := ?_); simp only [Act.put, xa, xb, xc]
     refine sk 5 hS (h := ?_); simp only [Act.put, xa, xb, xc]
     refine sk 6 hS (h := ?_); simp only [Act.put, xa, xb, xc]
     refine sk 7 hS (h := ?_); simp only [Act.put, xa, xb, xc]
     refine sk 8 hS (h := ?_); simp only [Act.put, xa, xb, xc]
     refine sk 9 hS (h := ?_); simp only [Act.put, xa, xb, xc]
     refine sk 10 hS (h := ?_); simp only [Act.put, xa, xb, xc]
     refine sk 11 hS (h := ?_); simp only [Act.put, xa, xb, xc]
     refine sk 12 hS (h := ?_); simp only [Act.put, xa, xb, xc]
     refine sk 13 hS (h := ?_); simp only [Act.put, xa, xb, xc]
     refine sk 14 hS (h := ?_); simp only [Act.put, xa, xb, xc]
     refine sk 15 hS (h := ?_); simp only [Act.put, xa, xb, xc]
     refine sk 16 hS (h := ?_); simp only [Act.put, xa, xb, xc]
     refine sk 17 hS (h := ?_); simp only [Act.put, xa, xb, xc]
     refine sk 18 hS (h := ?_); simp only [Act.put, xa, xb, xc]
     refine tk 19 hS (h := ?_); simp only [Act.put, xa, xb, xc]
     refine wpAnyH_done (by kernel_rfl) ?_ _
     refine NoPanic.normal ?_
     clear hS
     go_wp2_with fail
     go_meet
     exact ⟨rfl, rfl⟩
    obtain ⟨rfl, rfl⟩ := hcut
    obtain ⟨cr, -⟩ := uh K1
    obtain ⟨frr, -⟩ := uh F1
    obtain ⟨B2, eB2⟩ : ∃ B, ltStr y z = B := ⟨_, rfl⟩
    have EB2 := hide eB2
    have hnk : first + c = fc := by have := uh HN2; omega
    have hfr : first + r = fr := (uh HN2).2.1
    have HSTOP : Hid (B2 = false → dk = D) := fun hB => by
     rw [← uh heq, sift_stop (by have := (uh HN2).1; omega) (by rw [uh HK3, hnk, hfr, (uh HE).1, ex, eB2, hB])]
    have HGO : Hid (B2 = true → siftDown ltStr hi first c (swp dk fr fc) = D) := fun hB => by
     have := uh heq
     rw [sift_go (by have := (uh HN2).1; omega) (by rw [uh HK3, hnk, hfr, (uh HE).1, ex, eB2, hB]), uh HK3, hnk, hfr] at this
     exact this
    have hds' := uh hds
    have hsw := hide ((uh hHk).swap (i := fr) (j := fc) (by omega) (by omega) ex.symm (uh HE).1.symm)
    have HS2 : Hid ((swp dk fr fc).size = N) := by show _ = _; rw [size_swp]; exact hds'
    have HG := hide (grown_t (grown_t (uh hg) (grown_set wr blk (off + fr) (.string ⟨z.toArray⟩))) (grown_set _ blk (off + fc) (.string ⟨y.toArray⟩)))
    have K3 := hide (And.intro cr cd)
    have F3 := hide (And.intro frr fdd)
    have hrc : r < c := by have := uh HN2; omega
    clear eB2 hnk hfr ex cr cd frr fdd hds'
    go_wp2_with fail
    go_cut [52] (fun rv wc => rv = .bool (!B2) ∧ wc = wr.drew.drew)
    case first =>
     refine wp_region_noPanic ?_
     refine wp_region_held_drew (S := fun w' => w'.cell? ⟨blk, off + fr, none⟩ = some (.string ⟨y.toArray⟩) ∧ w'.cell? ⟨blk, off + fc, none⟩ = some (.string ⟨z.toArray⟩)) (by kernel_rfl) (by exact uh K3) (fun hS => ?_)
     refine tk 0 hS (h := ?_); simp only [Act.put, xa, xb, xc]
     refine tk 1 hS (h := ?_); simp only [Act.put, xa, xb, xc]
     refine tk 2 hS (h := ?_); simp only [Act.put, xa, xb, xc]
     refine tk 3 hS (h := ?_); simp only [Act.put, xa, xb, xc]
     refine tk 4 hS (h := ?_); simp only [Act.put, xa, xb, xc]
     refine tk 5 hS (h := ?_); simp only [Act.put, xa, xb, xc]
     refine tk 6 hS (h := ?_); simp only [Act.put, xa, xb, xc]
     refine tk 7 hS (h := ?_); simp only [Act.put, xa, xb, xc]
     refine tk 8 hS (h := ?_); simp only [Act.put, xa, xb, xc]
     refine tk 9 hS (h := ?_); simp only [Act.put, xa, xb, xc]
     refine tk 10 hS (h := ?_); simp only [Act.put, xa, xb, xc]
     refine tk 11 hS (h := ?_); simp only [Act.put, xa, xb, xc]
     refine ry [12] ?_
     refine cn (fun KK hK => ?_) ?_
     ·refine step_call2g (by rfl) 223 _ _ _ (by rfl) (.string ⟨y.toArray⟩) (.string ⟨z.toArray⟩) (by rfl) (by rfl) (fun _ => callLess _ _) (less_any y z _) ?_
      rintro r' w2 ⟨rfl, rfl⟩
      refine ⟨_, rfl, ?_⟩
      rw [uh EB2]
      refine hK.out _ _ (by exact uh K3) (fun hS => ?_)
      clear hK KK
      (try simp only [Act.put, xa, xb, xc])
      refine tk 13 hS (h := ?_); simp only [Act.put, xa, xb, xc]
      refine wpAnyH_done (by kernel_rfl) ?_ _
      refine NoPanic.normal ?_
      clear hS
      go_wp2_with fail
      go_meet
      exact ⟨rfl, rfl⟩
     exact AllReadyH.nil
    obtain ⟨rfl, rfl⟩ := hcut
    cases B2 with
    | false =>
     have e := uh HSTOP rfl
     subst e
     clear hsw HG HGO HSTOP K3 F3 HS2
     go_wp2
     exact bodyPost_ret (results_none (h := rfl) _ _ _) rfl ⟨rfl, uh hHk, grown_drew (grown_drew (uh hg))⟩
    | true =>
     have e := hide (uh HGO rfl)
     obtain ⟨cr, cd⟩ := uh K3
     obtain ⟨frr, fdd⟩ := uh F3
     clear HGO HSTOP K3 F3
     go_wp2_with fail
     go_region
     go_wp2
     go_roundw
     case rel => exact ⟨c, swp dk fr fc, rfl, by omega, HS2, (uh hsw), e, grown_drew (grown_drew (grown_drew (uh HG)))⟩
     case measure => simp [intOf]; omega
  ·have hlt' : (hi : Int) ≤ (c : Int) := by omega
   have hq := uh heq
   rw [sift_end (by omega)] at hq
   subst hq
   clear ec0
   go_wp2
   first
    | exact bodyPost_ret (results_none (h := rfl) _ _ _) rfl ⟨rfl, uh hHk, uh hg⟩
    | (go_end0; exact ⟨rfl, uh hHk, uh hg⟩)
theorem sift_size (lt : List UInt8 → List UInt8 → Bool) (hi first : Nat) : ∀ (k r : Nat) (d : Array (List UInt8)), hi - r ≤ k → (siftDown lt hi first r d).size = d.size := by
 intro k
 induction k with
 | zero => intro r d hk; rw [siftDown, dif_pos (by omega)]
 | succ k ih =>
  intro r d hk
  rw [siftDown]
  split
  ·rfl
  ·split
   ·split
    ·rfl
    ·split
     ·rw [ih _ _ (by omega), size_swp]
     ·rfl
   ·split
    ·rfl
    ·rw [ih _ _ (by omega), size_swp]
set_option maxHeartbeats 3200000 in
theorem heap_any (blk off cap N a b : Nat) (d : Array (List UInt8)) (hN : Hid (d.size = N)) (w : World) (h : HT w blk off d) (hab : a ≤ b) (hb : b ≤ N) (hsz : N ≤ 1048576) :
  Calls Tryz.prog 218 #[.slice (some ⟨blk, off, none⟩) N cap, .int .i64 a, .int .i64 b] w fun e w' => e = .returned (.tuple #[]) ∧ HT w' blk off (heapSort ltStr d a b) ∧ w.grownBy w' (some blk) := by
 obtain ⟨D, eD⟩ : ∃ D, heapSort ltStr d a b = D := ⟨_, rfl⟩
 rw [eD]
 obtain ⟨H, eH⟩ : ∃ H : Nat, (b : Int) - (a : Int) = (H : Int) := ⟨b - a, by omega⟩
 have eH0 : b - a = H := by omega
 have wH : IntKind.i64.wrap (H : Int) = (H : Int) := IntWalk.i64_in _ (by omega)
 unfold heapSort at eD
 rw [eH0] at eD
 obtain ⟨M, eM⟩ : ∃ M, heapBuild ltStr H a ((H - 1) / 2 + 1) d = M := ⟨_, rfl⟩
 rw [eM] at eD
 have ED := hide eD
 have EM := hide eM
 have H0 := hide h
 have hHN : a + H ≤ N := by omega
 have HE0 := hide eH0
 have w1 : IntKind.i64.wrap ((H : Int) - 1) = (H : Int) - 1 := IntWalk.i64_in _ (by omega)
 obtain ⟨q, eq⟩ : ∃ q : Int, Int.tdiv ((H : Int) - 1) 2 = q := ⟨_, rfl⟩
 have hq : q = ((H - 1) / 2 : Nat) := by
  rw [← eq]
  by_cases hz : H = 0
  ·subst hz; decide
  ·rw [show (H : Int) - 1 = ((H - 1 : Nat) : Int) by omega]
   exact (Int.ofNat_tdiv _ _).symm
 have hq1 : 0 ≤ q := by omega
 have hq2 : q ≤ 1048576 := by omega
 have wq : IntKind.i64.wrap q = q := IntWalk.i64_in _ (by omega)
 have HQ := hide hq
 clear eD eM h eH0 hq
 go_enter Tryz.func218, Tryz.ntmps218
 go_wp2_with fail
 go_loopw [9] (fun s9 wr => ∃ (iz : Int) (k : Nat) (dk : Array (List UInt8)), s9 = .int .i64 iz ∧ iz = (k : Int) - 1 ∧ k ≤ H + 1 ∧ Hid (dk.size = N) ∧ Hid (HT wr blk off dk) ∧ Hid (heapBuild ltStr H a k dk = M) ∧ Hid (w.grownBy wr (some blk))) (fun s9 _ => (intOf s9 + 1).toNat)
 case atStart => exact ⟨q, (H - 1) / 2 + 1, d, rfl, by have := uh HQ; omega, by omega, hN, H0, EM, grown_r _ _⟩
 case round =>
  obtain ⟨iz, k, dk, rfl, hk, hiz, hds, hHk, heq, hg⟩ := hrel
  have HK := hide hk
  by_cases hz : 0 ≤ iz
  ·obtain ⟨m, em⟩ : ∃ m : Nat, iz = (m : Int) := ⟨iz.toNat, by omega⟩
   have ek : k = m + 1 := by omega
   subst ek
   clear hk HK
   subst em
   have hz' : (0 : Int) ≤ (m : Int) := by omega
   have hq' := uh heq
   rw [heapBuild] at hq'
   have HQ2 := hide hq'
   have hds2 : Hid ((siftDown ltStr H a m dk).size = N) := by show _ = _; rw [sift_size ltStr H a _ m dk (Nat.le_refl _)]; exact uh hds
   have hm : m ≤ N := by omega
   clear hq' heq
   go_wp2_with fail
   refine (sift_any blk off cap N m H a dk hds _ (uh hHk) hHN hm hsz).mono ?_
   rintro e w2 ⟨rfl, hH2, hg2⟩
   have HG := hide (grown_t (uh hg) hg2)
   have HH2 := hide hH2
   clear hg2 hH2
   go_wp2
   go_roundw
   case rel => exact ⟨(m : Int) - 1, m, _, by first | rfl | go_num, by omega, by omega, hds2, HH2, HQ2, HG⟩
   case measure => first | (simp [intOf]; done) | (simp [intOf]; omega)
  ·have ek : k = 0 := by omega
   subst ek
   have eM : dk = M := uh heq
   subst eM
   clear hk HK
   go_wp2_with fail
   obtain ⟨Y, eY⟩ : ∃ Y, Y = wr := ⟨_, rfl⟩
   subst eY
   have HG0 := hg
   clear hg hz
   go_loopw [10] (fun s10 wr => ∃ (iz : Int) (k : Nat) (dj : Array (List UInt8)), s10 = .int .i64 iz ∧ iz = (k : Int) - 1 ∧ k ≤ H ∧ Hid (dj.size = N) ∧ Hid (HT wr blk off dj) ∧ Hid (heapPop ltStr a k dj = D) ∧ Hid (w.grownBy wr (some blk))) (fun s10 _ => (intOf s10 + 1).toNat)
   case atStart => exact ⟨(H : Int) - 1, H, dk, rfl, rfl, Nat.le_refl _, hds, hHk, ED, HG0⟩
   case round =>
    obtain ⟨iz, k, dj, rfl, hk, hiz, hdj, hHj, hej, hg⟩ := hrel
    by_cases hz : 0 ≤ iz
    ·obtain ⟨m, em⟩ : ∃ m : Nat, iz = (m : Int) := ⟨iz.toNat, by omega⟩
     have ek : k = m + 1 := by omega
     subst ek
     clear hk
     subst em
     have hz' : (0 : Int) ≤ (m : Int) := by omega
     obtain ⟨f, ef⟩ : ∃ x : Nat, (a : Int) + (m : Int) = (x : Int) := ⟨a + m, by omega⟩
     have wf : IntKind.i64.wrap (f : Int) = (f : Int) := IntWalk.i64_in _ (by omega)
     have ef0 : a + m = f := by omega
     have hdj' := uh hdj
     obtain ⟨ca, fa⟩ := uh hHj a (by omega)
     obtain ⟨cf, ff⟩ := uh hHj f (by omega)
     obtain ⟨y, ey⟩ : ∃ y, dj[a]! = y := ⟨_, rfl⟩
     obtain ⟨z, ez⟩ : ∃ z, dj[f]! = z := ⟨_, rfl⟩
     rw [ey] at ca
     rw [ez] at cf
     obtain ⟨tt, ct⟩ := set_some (q := ⟨blk, off + a, none⟩) (u := .string ⟨z.toArray⟩) cf
     have i1 : (a : Int) < (N : Int) := by omega
     have i2 : (f : Int) < (N : Int) := by omega
     have hq' := uh hej
     rw [heapPop, ef0] at hq'
     have HQ2 := hide hq'
     have HSW := hide ((uh hHj).swap (i := a) (j := f) (by omega) (by omega) ez.symm ey.symm)
     have HS2 : Hid ((swp dj a f).size = N) := by show _ = _; rw [size_swp]; exact hdj'
     have HS3 : Hid ((siftDown ltStr m a 0 (swp dj a f)).size = N) := by show _ = _; rw [sift_size ltStr m a _ 0 _ (Nat.le_refl _)]; exact uh HS2
     have HG := hide (grown_t (grown_t (uh hg) (grown_set wr blk (off + a) (.string ⟨z.toArray⟩))) (grown_set _ blk (off + f) (.string ⟨y.toArray⟩)))
     have hm1 : a + m ≤ N := by omega
     clear ey ez hdj' hq' hej ef0
     go_wp2_with fail
     go_region
     go_wp2_with fail
     refine (sift_any blk off cap N 0 m a (swp dj a f) HS2 _ (by exact uh HSW) hm1 (Nat.zero_le _) hsz).mono ?_
     rintro e w2 ⟨rfl, hH2, hg2⟩
     have HG2 := hide (grown_t (grown_drew (uh HG)) hg2)
     have HH2 := hide hH2
     clear hg2 hH2 ca cf fa ff ct
     go_wp2
     go_roundw
     case rel => exact ⟨(m : Int) - 1, m, _, by first | rfl | go_num, rfl, by omega, HS3, HH2, HQ2, HG2⟩
     case measure => first | (simp [intOf]; done) | (simp [intOf]; omega)
    ·have ek : k = 0 := by omega
     subst ek
     have eD : dj = D := uh hej
     subst eD
     clear hk
     go_wp2
     go_end0
     exact ⟨rfl, uh hHj, uh hg⟩
end Go.Proofs.YtnbgnhhnpmmloaaGreatDoor.T
