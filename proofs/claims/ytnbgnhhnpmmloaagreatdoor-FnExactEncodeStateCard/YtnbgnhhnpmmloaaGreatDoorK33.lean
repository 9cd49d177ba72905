import Derived.Test.YtnbgnhhnpmmloaaGreatDoorK28
import Derived.Test.YtnbgnhhnpmmloaaGreatDoorK24
namespace Go.Proofs.YtnbgnhhnpmmloaaGreatDoor.T
open Go.Sort Go.RowKit
set_option linter.unusedVariables false
set_option linter.unusedSimpArgs false
set_option maxRecDepth 100000
structure Cnt (w : World) (g : Nat) (S : Int) : Prop where
 cell : w.cell? ⟨g, 0, none⟩ = some (.int .i64 S)
 fr : w.frozen? ⟨g, 0, none⟩ = false
theorem Cnt.drew {w : World} {g : Nat} {S : Int} (h : Cnt w g S) : Cnt w.drew g S := ⟨h.cell, h.fr⟩
theorem Cnt.set {w : World} {g : Nat} {S T : Int} (h : Cnt w g S) : Cnt (w.setCell ⟨g, 0, none⟩ (.int .i64 T)) g T :=
 ⟨World.cell?_setCell_same _ _ _ h.cell, by rw [World.frozen?_setCell]; exact h.fr⟩
theorem HT.aside {w : World} {blk off g o : Nat} {v : Value} {d : Array (List UInt8)} (h : HT w blk off d) (hne : g ≠ blk) : HT (w.setCell ⟨g, o, none⟩ v) blk off d :=
 h.kept (RowKit.Below.heap_setCell _ _ _ _ (fun e => hne (by simpa using e.symm)))
set_option maxHeartbeats 3200000 in
theorem order2_any (blk off cap N g x y : Nat) (S : Int) (d : Array (List UInt8)) (hN : Hid (d.size = N)) (w : World) (h : HT w blk off d) (hx : x < N) (hy : y < N) (hsz : N ≤ 1048576) (hg : g ≠ blk) (hc : Cnt w g S) (hS : 0 ≤ S) (hS' : S ≤ 1000) :
  Calls Tryz.prog 247 #[.slice (some ⟨blk, off, none⟩) N cap, .int .i64 x, .int .i64 y, .pointer (some ⟨g, 0, none⟩)] w fun e w' =>
   ∃ (x' y' : Nat) (S' : Int), e = .returned (.tuple #[.int .i64 x', .int .i64 y']) ∧ ((x' = x ∧ y' = y) ∨ (x' = y ∧ y' = x)) ∧ S ≤ S' ∧ S' ≤ S + 1 ∧ Cnt w' g S' ∧ HT w' blk off d ∧ w.grownBy w' (some g) := by
 have hds := unhide hN
 obtain ⟨cx, -⟩ := h x (by omega)
 obtain ⟨cy, -⟩ := h y (by omega)
 obtain ⟨u, eu⟩ : ∃ u, d[x]! = u := ⟨_, rfl⟩
 obtain ⟨v, ev⟩ : ∃ v, d[y]! = v := ⟨_, rfl⟩
 rw [eu] at cx
 rw [ev] at cy
 have k1 : (x : Int) < (N : Int) := by omega
 have k2 : (y : Int) < (N : Int) := by omega
 obtain ⟨B, eB⟩ : ∃ B, ltStr v u = B := ⟨_, rfl⟩
 have EB := hide eB
 have K0 := hide (And.intro cx cy)
 have H0 := hide h
 have C0 := hide hc
 have hcc := hc.cell
 have hcf := hc.fr
 clear eu ev eB cx cy h hds hc
 go_enter Tryz.func247, Tryz.ntmps247
 go_wp2_with fail
 go_cut [18] (fun rv wc => rv = .bool B ∧ wc = w.drew)
 case first =>
  refine wp_region_noPanic ?_
  refine wp_region_held_drew (S := fun w' => w'.cell? ⟨blk, off + x, none⟩ = some (.string ⟨u.toArray⟩) ∧ w'.cell? ⟨blk, off + y, none⟩ = some (.string ⟨v.toArray⟩)) (by kernel_rfl) (by exact unhide K0) (fun hS => ?_)
  refine tk 0 hS (h := ?_); simp only [Act.put, xa, xb, xc]
  refine tk 1 hS (h := ?_); simp only [Act.put, xa, xb, xc]
  refine tk 2 hS (h := ?_); simp only [Act.put, xa, xb, xc]
  refine tk 3 hS (h := ?_); simp only [Act.put, xa, xb, xc]
  refine tk 4 hS (h := ?_); simp only [Act.put, xa, xb, xc]
  refine tk 5 hS (h := ?_); simp only [Act.put, xa, xb, xc]
  refine tk 6 hS (h := ?_); simp only [Act.put, xa, xb, xc]
  refine tk 7 hS (h := ?_); simp only [Act.put, xa, xb, xc]
  refine ry [8] ?_
  refine cn (fun KK hK => ?_) ?_
  ·refine step_call2g (by rfl) 223 _ _ _ (by rfl) (.string ⟨v.toArray⟩) (.string ⟨u.toArray⟩) (by rfl) (by rfl) (fun _ => callLess _ _) (less_any v u _) ?_
   rintro r' w2 ⟨rfl, rfl⟩
   refine ⟨_, rfl, ?_⟩
   rw [unhide EB]
   refine hK.out _ _ (by exact unhide K0) (fun hS => ?_)
   clear hK KK
   (try simp only [Act.put, xa, xb, xc])
   refine wpAnyH_done (by kernel_rfl) ?_ _
   refine NoPanic.normal ?_
   clear hS
   go_wp2_with fail
   go_meet
   exact ⟨rfl, rfl⟩
  exact AllReadyH.nil
 obtain ⟨rfl, rfl⟩ := hcut
 cases B with
 | true =>
  go_wp2
  go_ret2
  exact ⟨y, x, S + 1, rfl, .inr ⟨rfl, rfl⟩, by omega, by omega, (unhide C0).drew.set, ((unhide H0).drew).aside hg, grown_t (grown_drew (grown_r w _)) (grown_set _ g 0 _)⟩
 | false =>
  go_wp2
  go_ret2
  exact ⟨x, y, S, rfl, .inl ⟨rfl, rfl⟩, by omega, by omega, (unhide C0).drew, (unhide H0).drew, grown_drew (grown_r w _)⟩
set_option maxHeartbeats 3200000 in
theorem median_any (blk off cap N g x y z : Nat) (S : Int) (d : Array (List UInt8)) (hN : Hid (d.size = N)) (w : World) (h : HT w blk off d) (hx : x < N) (hy : y < N) (hz : z < N) (hsz : N ≤ 1048576) (hg : g ≠ blk) (hc : Cnt w g S) (hS : 0 ≤ S) (hS' : S ≤ 900) :
  Calls Tryz.prog 240 #[.slice (some ⟨blk, off, none⟩) N cap, .int .i64 x, .int .i64 y, .int .i64 z, .pointer (some ⟨g, 0, none⟩)] w fun e w' =>
   ∃ (m : Nat) (S' : Int), e = .returned (.int .i64 m) ∧ (m = x ∨ m = y ∨ m = z) ∧ S ≤ S' ∧ S' ≤ S + 3 ∧ Cnt w' g S' ∧ HT w' blk off d ∧ w.grownBy w' (some g) := by
 have H0 := hide h
 have C0 := hide hc
 clear h hc
 go_enter Tryz.func240, Tryz.ntmps240
 go_wp2_with fail
 refine (order2_any blk off cap N g x y S d hN w (unhide H0) hx hy hsz hg (unhide C0) hS (by omega)).mono ?_
 rintro e w1 ⟨x1, y1, S1, rfl, hxy, s1, s2, hc1, hH1, hg1⟩
 have C1 := hide hc1
 have H1 := hide hH1
 have G1 := hide hg1
 have XY := hide hxy
 have x1N : x1 < N := by omega
 have y1N : y1 < N := by omega
 clear hc1 hH1 hg1 hxy
 go_wp2_with fail
 refine (order2_any blk off cap N g y1 z S1 d hN w1 (unhide H1) y1N hz hsz hg (unhide C1) (by omega) (by omega)).mono ?_
 rintro e w2 ⟨y2, z2, S2, rfl, hyz, s3, s4, hc2, hH2, hg2⟩
 have C2 := hide hc2
 have H2 := hide hH2
 have G2 := hide hg2
 have YZ := hide hyz
 have y2N : y2 < N := by omega
 clear hc2 hH2 hg2 hyz
 go_wp2_with fail
 refine (order2_any blk off cap N g x1 y2 S2 d hN w2 (unhide H2) x1N y2N hsz hg (unhide C2) (by omega) (by omega)).mono ?_
 rintro e w3 ⟨x3, y3, S3, rfl, hxy3, s5, s6, hc3, hH3, hg3⟩
 have C3 := hide hc3
 have H3 := hide hH3
 have G3 := hide hg3
 have XY3 := hide hxy3
 clear hc3 hH3 hg3 hxy3
 go_wp2
 go_ret
 exact ⟨y3, S3, rfl, by have := unhide XY; have := unhide YZ; have := unhide XY3; omega, by omega, by omega, unhide C3, unhide H3, grown_t (unhide G1) (grown_t (unhide G2) (unhide G3))⟩
set_option maxHeartbeats 3200000 in
theorem medianAdj_any (blk off cap N g x : Nat) (S : Int) (d : Array (List UInt8)) (hN : Hid (d.size = N)) (w : World) (h : HT w blk off d) (hx : 1 ≤ x) (hx' : x + 1 < N) (hsz : N ≤ 1048576) (hg : g ≠ blk) (hc : Cnt w g S) (hS : 0 ≤ S) (hS' : S ≤ 900) :
  Calls Tryz.prog 239 #[.slice (some ⟨blk, off, none⟩) N cap, .int .i64 x, .pointer (some ⟨g, 0, none⟩)] w fun e w' =>
   ∃ (m : Nat) (S' : Int), e = .returned (.int .i64 m) ∧ x ≤ m + 1 ∧ m ≤ x + 1 ∧ S ≤ S' ∧ S' ≤ S + 3 ∧ Cnt w' g S' ∧ HT w' blk off d ∧ w.grownBy w' (some g) := by
 have H0 := hide h
 have C0 := hide hc
 obtain ⟨m, em⟩ : ∃ m : Nat, (x : Int) - 1 = (m : Int) := ⟨x - 1, by omega⟩
 obtain ⟨n, en⟩ : ∃ n : Nat, (x : Int) + 1 = (n : Int) := ⟨x + 1, by omega⟩
 have wm : IntKind.i64.wrap (m : Int) = (m : Int) := IntWalk.i64_in _ (by omega)
 have wn : IntKind.i64.wrap (n : Int) = (n : Int) := IntWalk.i64_in _ (by omega)
 have mN : m < N := by omega
 have nN : n < N := by omega
 have xN : x < N := by omega
 clear h hc
 go_enter Tryz.func239, Tryz.ntmps239
 go_wp2_with fail
 refine (median_any blk off cap N g m x n S d hN w (unhide H0) mN xN nN hsz hg (unhide C0) hS hS').mono ?_
 rintro e w1 ⟨r, S1, rfl, hr, s1, s2, hc1, hH1, hg1⟩
 have C1 := hide hc1
 have H1 := hide hH1
 have G1 := hide hg1
 have HR := hide hr
 clear hc1 hH1 hg1 hr
 go_wp2
 go_ret
 exact ⟨r, S1, rfl, by have := unhide HR; omega, by have := unhide HR; omega, s1, s2, unhide C1, unhide H1, unhide G1⟩
theorem grown_alloc (w : World) (o : Obj) (row : Option Nat) : w.grownBy (w.alloc o) row := World.grownBy_alloc w o row
theorem grown_new {w w1 w2 : World} {row : Option Nat} {g : Nat} (h : w.grownBy w1 row) (k : w1.grownBy w2 (some g)) (hg : w.heap.size ≤ g) : w.grownBy w2 row :=
 ⟨k.os.trans h.os, k.tape.trans h.tape, k.output.trans h.output, Nat.le_trans h.size k.size, fun i hi hne => (k.block i (Nat.lt_of_lt_of_le hi h.size) (fun e => by
  have : i = g := by simpa using e
  omega)).trans (h.block i hi hne)⟩
theorem HT.alloc {w : World} {blk off : Nat} {d : Array (List UInt8)} (h : HT w blk off d) (hb : blk < w.heap.size) (o : Obj) : HT (w.alloc o) blk off d :=
 h.kept (RowKit.Below.heap_alloc w o blk hb)
set_option maxHeartbeats 3200000 in
theorem pivot_any (blk off cap N a b : Nat) (d : Array (List UInt8)) (hN : Hid (d.size = N)) (w : World) (h : HT w blk off d) (hblk : blk < w.heap.size) (hab : a + 8 ≤ b) (hb : b ≤ N) (hsz : N ≤ 1048576) :
  Calls Tryz.prog 220 #[.slice (some ⟨blk, off, none⟩) N cap, .int .i64 a, .int .i64 b] w fun e w' =>
   ∃ (p : Nat) (t : Int), e = .returned (.tuple #[.int .i64 p, .int .i64 t]) ∧ a ≤ p ∧ p < b ∧ HT w' blk off d ∧ w.grownBy w' (some blk) := by
 obtain ⟨L, eL⟩ : ∃ x : Nat, (b : Int) - (a : Int) = (x : Int) := ⟨b - a, by omega⟩
 have wL : IntKind.i64.wrap (L : Int) = (L : Int) := IntWalk.i64_in _ (by omega)
 obtain ⟨Q, eQ⟩ : ∃ Q, L / 4 = Q := ⟨_, rfl⟩
 have eQ1 : Int.tdiv (L : Int) 4 = (Q : Int) := by rw [← eQ]; exact (Int.ofNat_tdiv L 4).symm
 have eQ2 : (L : Int) / 4 = (Q : Int) := by omega
 have wQ : IntKind.i64.wrap (Q : Int) = (Q : Int) := IntWalk.i64_in _ (by omega)
 have wQ2 : IntKind.i64.wrap ((Q : Int) * 2) = (Q : Int) * 2 := IntWalk.i64_in _ (by omega)
 have wQ3 : IntKind.i64.wrap ((Q : Int) * 3) = (Q : Int) * 3 := IntWalk.i64_in _ (by omega)
 obtain ⟨I, eI⟩ : ∃ x : Nat, (a : Int) + (Q : Int) = (x : Int) := ⟨a + Q, by omega⟩
 obtain ⟨J, eJ⟩ : ∃ x : Nat, (a : Int) + (Q : Int) * 2 = (x : Int) := ⟨a + Q * 2, by omega⟩
 obtain ⟨K, eK⟩ : ∃ x : Nat, (a : Int) + (Q : Int) * 3 = (x : Int) := ⟨a + Q * 3, by omega⟩
 have wI : IntKind.i64.wrap (I : Int) = (I : Int) := IntWalk.i64_in _ (by omega)
 have wJ : IntKind.i64.wrap (J : Int) = (J : Int) := IntWalk.i64_in _ (by omega)
 have wK : IntKind.i64.wrap (K : Int) = (K : Int) := IntWalk.i64_in _ (by omega)
 have bI : a + 2 ≤ I ∧ I + 6 ≤ b := by omega
 have bJ : a + 2 ≤ J ∧ J + 2 < b := by omega
 have bK : a + 2 ≤ K ∧ K + 1 < b := by omega
 have h8 : (8 : Int) ≤ (L : Int) := by omega
 have hg : w.heap.size ≠ blk := by omega
 have H0 := hide (h.alloc hblk (.cells #[.int .i64 0] 3))
 have C0 : Hid (Cnt (w.alloc (.cells #[.int .i64 0] 3)) w.heap.size 0) := ⟨by simp, by simp⟩
 have HL := hide (And.intro eQ hab)
 clear eQ h
 go_enter Tryz.func220, Tryz.ntmps220
 by_cases h50 : (50 : Int) ≤ (L : Int)
 ·go_wp2_with fail
  refine (medianAdj_any blk off cap N w.heap.size I 0 d hN _ (unhide H0) (by omega) (by omega) hsz hg (unhide C0) (by omega) (by omega)).mono ?_
  rintro e w1 ⟨i1, S1, rfl, p1, p2, s1, s2, hc1, hH1, hg1⟩
  have C1 := hide hc1
  have H1 := hide hH1
  have G1 := hide hg1
  clear hc1 hH1 hg1
  go_wp2_with fail
  refine (medianAdj_any blk off cap N w.heap.size J S1 d hN _ (unhide H1) (by omega) (by omega) hsz hg (unhide C1) (by omega) (by omega)).mono ?_
  rintro e w2 ⟨j1, S2, rfl, p3, p4, s3, s4, hc2, hH2, hg2⟩
  have C2 := hide hc2
  have H2 := hide hH2
  have G2 := hide hg2
  clear hc2 hH2 hg2
  go_wp2_with fail
  refine (medianAdj_any blk off cap N w.heap.size K S2 d hN _ (unhide H2) (by omega) (by omega) hsz hg (unhide C2) (by omega) (by omega)).mono ?_
  rintro e w3 ⟨k1, S3, rfl, p5, p6, s5, s6, hc3, hH3, hg3⟩
  have C3 := hide hc3
  have H3 := hide hH3
  have G3 := hide hg3
  clear hc3 hH3 hg3
  go_wp2_with fail
  refine (median_any blk off cap N w.heap.size i1 j1 k1 S3 d hN _ (unhide H3) (by omega) (by omega) (by omega) hsz hg (unhide C3) (by omega) (by omega)).mono ?_
  rintro e w4 ⟨m, S4, rfl, hm, s7, s8, hc4, hH4, hg4⟩
  have H4 := hide hH4
  have G4 := hide (grown_new (grown_alloc w _ (some blk)) (grown_t (unhide G1) (grown_t (unhide G2) (grown_t (unhide G3) hg4))) (Nat.le_refl _))
  have B4 : a ≤ m ∧ m < b := by omega
  have HB := hide B4
  have hcc := hc4.cell
  clear hc4 hH4 hg4 B4 hm
  go_wp2
  all_goals
   go_ret2
   exact ⟨m, _, rfl, (unhide HB).1, (unhide HB).2, unhide H4, unhide G4⟩
 ·go_wp2_with fail
  refine (median_any blk off cap N w.heap.size I J K 0 d hN _ (unhide H0) (by omega) (by omega) (by omega) hsz hg (unhide C0) (by omega) (by omega)).mono ?_
  rintro e w4 ⟨m, S4, rfl, hm, s7, s8, hc4, hH4, hg4⟩
  have H4 := hide hH4
  have G4 := hide (grown_new (grown_alloc w _ (some blk)) hg4 (Nat.le_refl _))
  have B4 : a ≤ m ∧ m < b := by omega
  have HB := hide B4
  have hcc := hc4.cell
  clear hc4 hH4 hg4 B4 hm
  go_wp2
  all_goals
   go_ret2
   exact ⟨m, _, rfl, (unhide HB).1, (unhide HB).2, unhide H4, unhide G4⟩
set_option maxHeartbeats 6400000 in
theorem break_any (blk off cap N a b : Nat) (d : Array (List UInt8)) (hN : Hid (d.size = N)) (w : World) (h : HT w blk off d) (hblk : blk < w.heap.size) (hab : a + 8 ≤ b) (hb : b ≤ N) (hsz : N ≤ 1048576) :
  Calls Tryz.prog 219 #[.slice (some ⟨blk, off, none⟩) N cap, .int .i64 a, .int .i64 b] w fun e w' =>
   e = .returned (.tuple #[]) ∧ ∃ d', HT w' blk off d' ∧ PermIn a b d d' ∧ w.grownBy w' (some blk) := by
 obtain ⟨L, eL⟩ : ∃ x : Nat, (b : Int) - (a : Int) = (x : Int) := ⟨b - a, by omega⟩
 have wL : IntKind.i64.wrap (L : Int) = (L : Int) := IntWalk.i64_in _ (by omega)
 obtain ⟨Q, eQ⟩ : ∃ Q, L / 4 = Q := ⟨_, rfl⟩
 have eQ1 : Int.tdiv (L : Int) 4 = (Q : Int) := by rw [← eQ]; exact (Int.ofNat_tdiv L 4).symm
 have eQ2 : (L : Int) / 4 = (Q : Int) := by omega
 have wQ : IntKind.i64.wrap (Q : Int) = (Q : Int) := IntWalk.i64_in _ (by omega)
 have wQ2 : IntKind.i64.wrap ((Q : Int) * 2) = (Q : Int) * 2 := IntWalk.i64_in _ (by omega)
 obtain ⟨J, eJ⟩ : ∃ x : Nat, (a : Int) + (Q : Int) * 2 = (x : Int) := ⟨a + Q * 2, by omega⟩
 have wJ : IntKind.i64.wrap (J : Int) = (J : Int) := IntWalk.i64_in _ (by omega)
 have bJ : a + 2 ≤ J ∧ J + 2 < b := by omega
 have wJ1 : IntKind.i64.wrap ((J : Int) + 1) = (J : Int) + 1 := IntWalk.i64_in _ (by omega)
 obtain ⟨J0, eJ0⟩ : ∃ x : Nat, (J : Int) - 1 = (x : Int) := ⟨J - 1, by omega⟩
 have wJ0 : IntKind.i64.wrap (J0 : Int) = (J0 : Int) := IntWalk.i64_in _ (by omega)
 have h8 : (8 : Int) ≤ (L : Int) := by omega
 have wU : IntKind.u64.wrap (L : Int) = (L : Int) := by rw [IntKind.wrap_u64]; omega
 have hg : w.heap.size ≠ blk := by omega
 have hLb : a + L = b := by omega
 have H0 := hide (h.alloc hblk (.cells #[.int .u64 L] 250))
 have HL := hide (And.intro eQ hab)
 clear eQ h
 go_enter Tryz.func219, Tryz.ntmps219
 go_wp2_with fail
 refine (Go.Proofs.YtnbgnhhnpmmloaaGreatDoor.Q.npow_any L (by omega) (by omega) _).mono ?_
 rintro e w1 ⟨M, rfl, hM0, hM, rfl⟩
 have wM : IntKind.u64.wrap ((M : Int) - 1) = (M : Int) - 1 := by rw [IntKind.wrap_u64]; omega
 go_wp2_with fail
 go_loopw [9] (fun s9 wr => ∃ (idx R : Nat) (dk : Array (List UInt8)), s9 = .int .i64 idx ∧ J0 ≤ idx ∧ idx ≤ J + 2 ∧ R < 18446744073709551616 ∧ Hid (wr.cell? ⟨w.heap.size, 0, none⟩ = some (.int .u64 R) ∧ wr.frozen? ⟨w.heap.size, 0, none⟩ = false) ∧ Hid (HT wr blk off dk) ∧ Hid (PermIn a b d dk) ∧ Hid (dk.size = N) ∧ Hid (w.grownBy wr (some blk))) (fun s9 _ => J + 2 - (intOf s9).toNat)
 case atStart => exact ⟨J0, L, d, rfl, by omega, by omega, by omega, ⟨by simp, by simp⟩, by exact unhide H0, permIn_refl d a b, hN, by exact grown_alloc w _ _⟩
 case round =>
  obtain ⟨idx, R, dk, rfl, z1, z2, lR, hC, hH, hP, hdk, hG⟩ := hrel
  by_cases hgo : idx ≤ J + 1
  ·have hgo' : (idx : Int) ≤ (J : Int) + 1 := by omega
   go_wp2_with fail
   refine (Go.Proofs.YtnbgnhhnpmmloaaGreatDoor.Q.next_any w.heap.size R lR _ (unhide hC).1 (unhide hC).2).mono ?_
   rintro e w2 ⟨C, rfl, lC, hc2, hf2, hg2⟩
   have C2 := hide (And.intro hc2 hf2)
   have H2 := hide ((unhide hH).kept (hg2.block blk (Nat.lt_of_lt_of_le hblk (unhide hG).size) (fun e => hg (by simpa using e.symm))))
   have G2 := hide (grown_new (unhide hG) hg2 (Nat.le_refl _))
   obtain ⟨O, lO, eAnd⟩ : ∃ O : Nat, O ≤ M - 1 ∧ bits .and .u64 (C : Int) ((M : Int) - 1) = (O : Int) := by
    refine ⟨C &&& (M - 1), Nat.and_le_right, ?_⟩
    rw [show ((M : Int) - 1) = ((M - 1 : Nat) : Int) by omega, bits_and_u64_nat _ _ lC (by omega)]
   have wO : IntKind.i64.wrap (O : Int) = (O : Int) := IntWalk.i64_in _ (by omega)
   clear hc2 hf2 hg2 hC hH hG
   by_cases hLO : L ≤ O
   ·have hLO' : (L : Int) ≤ (O : Int) := by omega
    obtain ⟨P, eP⟩ : ∃ x : Nat, (O : Int) - (L : Int) = (x : Int) := ⟨O - L, by omega⟩
    have wP : IntKind.i64.wrap (P : Int) = (P : Int) := IntWalk.i64_in _ (by omega)
    have bP : P < L := by omega
    obtain ⟨T, eT⟩ : ∃ x : Nat, (a : Int) + (P : Int) = (x : Int) := ⟨a + P, by omega⟩
    have wT : IntKind.i64.wrap (T : Int) = (T : Int) := IntWalk.i64_in _ (by omega)
    have bT : a ≤ T ∧ T < b := by omega
    have hds := unhide hdk
    obtain ⟨c1, f1⟩ := unhide H2 idx (by omega)
    obtain ⟨c2, f2⟩ := unhide H2 T (by omega)
    obtain ⟨p1, ep1⟩ : ∃ u, dk[idx]! = u := ⟨_, rfl⟩
    obtain ⟨p2, ep2⟩ : ∃ u, dk[T]! = u := ⟨_, rfl⟩
    rw [ep1] at c1
    rw [ep2] at c2
    obtain ⟨tt, ct⟩ := set_some (q := ⟨blk, off + idx, none⟩) (u := .string ⟨p2.toArray⟩) c2
    have HSWn := hide ((unhide H2).swap (i := idx) (j := T) (by omega) (by omega) ep2.symm ep1.symm)
    have HGn := hide (grown_t (grown_t (unhide G2) (grown_set _ blk (off + idx) (.string ⟨p2.toArray⟩))) (grown_set _ blk (off + T) (.string ⟨p1.toArray⟩)))
    have HPn : Hid (PermIn a b d (swp dk idx T)) := permIn_trans _ _ _ a b (unhide hP) (swp_permIn dk a b idx T (by omega) (by omega) (by omega) (by omega) (by omega))
    have HDn : Hid ((swp dk idx T).size = N) := by show _ = _; rw [size_swp]; exact hds
    have HCn : Hid ((((w2.setCell ⟨blk, off + idx, none⟩ (.string ⟨p2.toArray⟩)).setCell ⟨blk, off + T, none⟩ (.string ⟨p1.toArray⟩)).drew).cell? ⟨w.heap.size, 0, none⟩ = some (.int .u64 C) ∧ (((w2.setCell ⟨blk, off + idx, none⟩ (.string ⟨p2.toArray⟩)).setCell ⟨blk, off + T, none⟩ (.string ⟨p1.toArray⟩)).drew).frozen? ⟨w.heap.size, 0, none⟩ = false) :=
     ⟨(World.cell?_setCell_other _ _ _ _ (by simp <;> omega)).trans ((World.cell?_setCell_other _ _ _ _ (by simp <;> omega)).trans (unhide C2).1), by show World.frozen? ((w2.setCell ⟨blk, off + idx, none⟩ (.string ⟨p2.toArray⟩)).setCell ⟨blk, off + T, none⟩ (.string ⟨p1.toArray⟩)) _ = false; rw [World.frozen?_setCell, World.frozen?_setCell]; exact (unhide C2).2⟩
    have l1 : (idx : Int) < (N : Int) := by omega
    have l2 : (T : Int) < (N : Int) := by omega
    have l3 : (0 : Int) ≤ (T : Int) := by omega
    clear ep1 ep2 hds
    go_wp2_with fail
    go_region
    go_wp2
    go_roundw
    case rel => exact ⟨idx + 1, C, swp dk idx T, by first | rfl | go_num, by omega, by omega, lC, HCn, by exact unhide HSWn, HPn, HDn, by exact grown_drew (unhide HGn)⟩
    case measure => simp [intOf]; omega
   ·have hLO' : ¬ (L : Int) ≤ (O : Int) := by omega
    obtain ⟨P, eP⟩ : ∃ x : Nat, O = x := ⟨O, rfl⟩
    subst eP
    have bP : O < L := by omega
    obtain ⟨T, eT⟩ : ∃ x : Nat, (a : Int) + (O : Int) = (x : Int) := ⟨a + O, by omega⟩
    have wT : IntKind.i64.wrap (T : Int) = (T : Int) := IntWalk.i64_in _ (by omega)
    have bT : a ≤ T ∧ T < b := by omega
    have hds := unhide hdk
    obtain ⟨c1, f1⟩ := unhide H2 idx (by omega)
    obtain ⟨c2, f2⟩ := unhide H2 T (by omega)
    obtain ⟨p1, ep1⟩ : ∃ u, dk[idx]! = u := ⟨_, rfl⟩
    obtain ⟨p2, ep2⟩ : ∃ u, dk[T]! = u := ⟨_, rfl⟩
    rw [ep1] at c1
    rw [ep2] at c2
    obtain ⟨tt, ct⟩ := set_some (q := ⟨blk, off + idx, none⟩) (u := .string ⟨p2.toArray⟩) c2
    have HSWn := hide ((unhide H2).swap (i := idx) (j := T) (by omega) (by omega) ep2.symm ep1.symm)
    have HGn := hide (grown_t (grown_t (unhide G2) (grown_set _ blk (off + idx) (.string ⟨p2.toArray⟩))) (grown_set _ blk (off + T) (.string ⟨p1.toArray⟩)))
    have HPn : Hid (PermIn a b d (swp dk idx T)) := permIn_trans _ _ _ a b (unhide hP) (swp_permIn dk a b idx T (by omega) (by omega) (by omega) (by omega) (by omega))
    have HDn : Hid ((swp dk idx T).size = N) := by show _ = _; rw [size_swp]; exact hds
    have HCn : Hid ((((w2.setCell ⟨blk, off + idx, none⟩ (.string ⟨p2.toArray⟩)).setCell ⟨blk, off + T, none⟩ (.string ⟨p1.toArray⟩)).drew).cell? ⟨w.heap.size, 0, none⟩ = some (.int .u64 C) ∧ (((w2.setCell ⟨blk, off + idx, none⟩ (.string ⟨p2.toArray⟩)).setCell ⟨blk, off + T, none⟩ (.string ⟨p1.toArray⟩)).drew).frozen? ⟨w.heap.size, 0, none⟩ = false) :=
     ⟨(World.cell?_setCell_other _ _ _ _ (by simp <;> omega)).trans ((World.cell?_setCell_other _ _ _ _ (by simp <;> omega)).trans (unhide C2).1), by show World.frozen? ((w2.setCell ⟨blk, off + idx, none⟩ (.string ⟨p2.toArray⟩)).setCell ⟨blk, off + T, none⟩ (.string ⟨p1.toArray⟩)) _ = false; rw [World.frozen?_setCell, World.frozen?_setCell]; exact (unhide C2).2⟩
    have l1 : (idx : Int) < (N : Int) := by omega
    have l2 : (T : Int) < (N : Int) := by omega
    have l3 : (0 : Int) ≤ (T : Int) := by omega
    clear ep1 ep2 hds
    go_wp2_with fail
    go_region
    go_wp2
    go_roundw
    case rel => exact ⟨idx + 1, C, swp dk idx T, by first | rfl | go_num, by omega, by omega, lC, HCn, by exact unhide HSWn, HPn, HDn, by exact grown_drew (unhide HGn)⟩
    case measure => simp [intOf]; omega
  ·have hgo' : ¬ (idx : Int) ≤ (J : Int) + 1 := by omega
   go_wp2
   go_end0
   exact ⟨rfl, dk, unhide hH, unhide hP, unhide hG⟩
end Go.Proofs.YtnbgnhhnpmmloaaGreatDoor.T
