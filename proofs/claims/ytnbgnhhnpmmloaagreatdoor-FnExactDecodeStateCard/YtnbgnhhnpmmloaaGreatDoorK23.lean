import Derived.Test.YtnbgnhhnpmmloaaGreatDoorK18
import Derived.Lib.BitFns
import Derived.Lib.Walk
import Derived.Lib.Small
import Derived.Lib.Strings
import Derived.Lib.Slices
import Derived.Laws.Bits64
import Derived.Laws.Bits64b
namespace Go.Proofs.YtnbgnhhnpmmloaaGreatDoor.Q
open Go.Sort Go.RowKit
set_option linter.unusedVariables false
set_option linter.unusedSimpArgs false
set_option maxRecDepth 100000
structure Cnt (w : World) (g : Nat) (S : Int) : Prop where
 cell : w.cell? ⟨g, 0, none⟩ = some (.int .i64 S)
 fr : w.frozen? ⟨g, 0, none⟩ = false
theorem Cnt.drew {w : World} {g : Nat} {S : Int} (h : Cnt w g S) : Cnt w.drew g S := ⟨h.cell, h.fr⟩
theorem Cnt.set {w : World} {g : Nat} {S T : Int} (h : Cnt w g S) : Cnt (w.setCell ⟨g, 0, none⟩ (.int .i64 T)) g T :=
 ⟨World.cell?_setCell_same _ _ _ h.cell, by rw [World.frozen?_setCell]; exact h.fr⟩
theorem HU.aside {w : World} {blk off g o : Nat} {v : Value} {d : Array Int} (h : HU w blk off d) (hne : g ≠ blk) : HU (w.setCell ⟨g, o, none⟩ v) blk off d :=
 h.kept (RowKit.Below.heap_setCell _ _ _ _ (fun e => hne (by simpa using e.symm)))
set_option maxHeartbeats 3200000 in
theorem order2_any (blk off cap N g x y : Nat) (S : Int) (d : Array Int) (hN : Hid (d.size = N)) (w : World) (h : HU w blk off d) (hx : x < N) (hy : y < N) (hsz : N ≤ 1048576) (hg : g ≠ blk) (hc : Cnt w g S) (hS : 0 ≤ S) (hS' : S ≤ 1000) :
  Calls Tryz.prog 246 #[.slice (some ⟨blk, off, none⟩) N cap, .int .i64 x, .int .i64 y, .pointer (some ⟨g, 0, none⟩)] w fun e w' =>
   ∃ (x' y' : Nat) (S' : Int), e = .returned (.tuple #[.int .i64 x', .int .i64 y']) ∧ ((x' = x ∧ y' = y) ∨ (x' = y ∧ y' = x)) ∧ S ≤ S' ∧ S' ≤ S + 1 ∧ Cnt w' g S' ∧ HU w' blk off d ∧ w.grownBy w' (some g) := by
 have hds := uh hN
 obtain ⟨cx, -⟩ := h x (by omega)
 obtain ⟨cy, -⟩ := h y (by omega)
 obtain ⟨u, eu⟩ : ∃ u, d[x]! = u := ⟨_, rfl⟩
 obtain ⟨v, ev⟩ : ∃ v, d[y]! = v := ⟨_, rfl⟩
 rw [eu] at cx
 rw [ev] at cy
 have k1 : (x : Int) < (N : Int) := by omega
 have k2 : (y : Int) < (N : Int) := by omega
 obtain ⟨B, eB⟩ : ∃ B, ltInt v u = B := ⟨_, rfl⟩
 have EB := hide eB
 have K0 := hide (And.intro cx cy)
 have H0 := hide h
 have C0 := hide hc
 have hcc := hc.cell
 have hcf := hc.fr
 clear eu ev eB cx cy h hds hc
 go_enter Tryz.func246, Tryz.ntmps246
 go_wp2_with fail
 go_cut [18] (fun rv wc => rv = .bool B ∧ wc = w.drew)
 case first =>
  refine wp_region_noPanic ?_
  refine wp_region_held_drew (S := fun w' => w'.cell? ⟨blk, off + x, none⟩ = some (.int .u64 u) ∧ w'.cell? ⟨blk, off + y, none⟩ = some (.int .u64 v)) (by kernel_rfl) (by exact uh K0) (fun hS => ?_)
  refine tk 0 hS (h := ?_); simp only [Act.put, xa, xb, xc]
  refine tk 1 hS (h := ?_); simp only [Act.put, xa, xb, xc]
  refine tk 2 hS (h := ?_); simp only [Act.put, xa, xb, xc]
  refine tk 3 hS (h := ?_); simp only [Act.put, xa, xb, xc]
  refine tk 4 hS (h := ?_); simp only [Act.put, xa, xb, xc]
  refine tk 5 hS (h := ?_); simp only [Act.put, xa, xb, xc]
  refine tk 6 hS (h := ?_); simp only [Act.put, xa, xb, xc]
  refine tk 7 hS (h := ?_); simp only [Act.put, xa, xb, xc]
  refine ry [8] ?_
  refine cn (fun KK hK => ?_) ?_
  ·refine step_call2g (by rfl) 212 _ _ _ (by rfl) (.int .u64 v) (.int .u64 u) (by rfl) (by rfl) (fun _ => callLess _ _) (less_any v u _) ?_
   rintro r' w2 ⟨rfl, rfl⟩
   refine ⟨_, rfl, ?_⟩
   rw [uh EB]
   refine hK.out _ _ (by exact uh K0) (fun hS => ?_)
   clear hK KK
   (try simp only [Act.put, xa, xb, xc])
   refine wpAnyH_done (by kernel_rfl) ?_ _
   refine NoPanic.normal ?_
   clear hS
   go_wp2_with fail
   go_meet
   exact ⟨rfl, rfl⟩
  exact AllReadyH.nil
 obtain ⟨rfl, rfl⟩ := hcut
 cases B with
 | true =>
  go_wp2
  go_ret2
  exact ⟨y, x, S + 1, rfl, .inr ⟨rfl, rfl⟩, by omega, by omega, (uh C0).drew.set, ((uh H0).drew).aside hg, grown_t (grown_drew (grown_r w _)) (grown_set _ g 0 _)⟩
 | false =>
  go_wp2
  go_ret2
  exact ⟨x, y, S, rfl, .inl ⟨rfl, rfl⟩, by omega, by omega, (uh C0).drew, (uh H0).drew, grown_drew (grown_r w _)⟩
set_option maxHeartbeats 3200000 in
theorem median_any (blk off cap N g x y z : Nat) (S : Int) (d : Array Int) (hN : Hid (d.size = N)) (w : World) (h : HU w blk off d) (hx : x < N) (hy : y < N) (hz : z < N) (hsz : N ≤ 1048576) (hg : g ≠ blk) (hc : Cnt w g S) (hS : 0 ≤ S) (hS' : S ≤ 900) :
  Calls Tryz.prog 237 #[.slice (some ⟨blk, off, none⟩) N cap, .int .i64 x, .int .i64 y, .int .i64 z, .pointer (some ⟨g, 0, none⟩)] w fun e w' =>
   ∃ (m : Nat) (S' : Int), e = .returned (.int .i64 m) ∧ (m = x ∨ m = y ∨ m = z) ∧ S ≤ S' ∧ S' ≤ S + 3 ∧ Cnt w' g S' ∧ HU w' blk off d ∧ w.grownBy w' (some g) := by
 have H0 := hide h
 have C0 := hide hc
 clear h hc
 go_enter Tryz.func237, Tryz.ntmps237
 go_wp2_with fail
 refine (order2_any blk off cap N g x y S d hN w (uh H0) hx hy hsz hg (uh C0) hS (by omega)).mono ?_
 rintro e w1 ⟨x1, y1, S1, rfl, hxy, s1, s2, hc1, hH1, hg1⟩
 have C1 := hide hc1
 have H1 := hide hH1
 have G1 := hide hg1
 have XY := hide hxy
 have x1N : x1 < N := by omega
 have y1N : y1 < N := by omega
 clear hc1 hH1 hg1 hxy
 go_wp2_with fail
 refine (order2_any blk off cap N g y1 z S1 d hN w1 (uh H1) y1N hz hsz hg (uh C1) (by omega) (by omega)).mono ?_
 rintro e w2 ⟨y2, z2, S2, rfl, hyz, s3, s4, hc2, hH2, hg2⟩
 have C2 := hide hc2
 have H2 := hide hH2
 have G2 := hide hg2
 have YZ := hide hyz
 have y2N : y2 < N := by omega
 clear hc2 hH2 hg2 hyz
 go_wp2_with fail
 refine (order2_any blk off cap N g x1 y2 S2 d hN w2 (uh H2) x1N y2N hsz hg (uh C2) (by omega) (by omega)).mono ?_
 rintro e w3 ⟨x3, y3, S3, rfl, hxy3, s5, s6, hc3, hH3, hg3⟩
 have C3 := hide hc3
 have H3 := hide hH3
 have G3 := hide hg3
 have XY3 := hide hxy3
 clear hc3 hH3 hg3 hxy3
 go_wp2
 go_ret
 exact ⟨y3, S3, rfl, by have := uh XY; have := uh YZ; have := uh XY3; omega, by omega, by omega, uh C3, uh H3, grown_t (uh G1) (grown_t (uh G2) (uh G3))⟩
set_option maxHeartbeats 3200000 in
theorem medianAdj_any (blk off cap N g x : Nat) (S : Int) (d : Array Int) (hN : Hid (d.size = N)) (w : World) (h : HU w blk off d) (hx : 1 ≤ x) (hx' : x + 1 < N) (hsz : N ≤ 1048576) (hg : g ≠ blk) (hc : Cnt w g S) (hS : 0 ≤ S) (hS' : S ≤ 900) :
  Calls Tryz.prog 236 #[.slice (some ⟨blk, off, none⟩) N cap, .int .i64 x, .pointer (some ⟨g, 0, none⟩)] w fun e w' =>
   ∃ (m : Nat) (S' : Int), e = .returned (.int .i64 m) ∧ x ≤ m + 1 ∧ m ≤ x + 1 ∧ S ≤ S' ∧ S' ≤ S + 3 ∧ Cnt w' g S' ∧ HU w' blk off d ∧ w.grownBy w' (some g) := by
 have H0 := hide h
 have C0 := hide hc
 obtain ⟨m, em⟩ : ∃ m : Nat, (x : Int) - 1 = (m : Int) := ⟨x - 1, by omega⟩
 obtain ⟨n, en⟩ : ∃ n : Nat, (x : Int) + 1 = (n : Int) := ⟨x + 1, by omega⟩
 have wm : IntKind.i64.wrap (m : Int) = (m : Int) := IntWalk.i64_in _ (by omega)
 have wn : IntKind.i64.wrap (n : Int) = (n : Int) := IntWalk.i64_in _ (by omega)
 have mN : m < N := by omega
 have nN : n < N := by omega
 have xN : x < N := by omega
 clear h hc
 go_enter Tryz.func236, Tryz.ntmps236
 go_wp2_with fail
 refine (median_any blk off cap N g m x n S d hN w (uh H0) mN xN nN hsz hg (uh C0) hS hS').mono ?_
 rintro e w1 ⟨r, S1, rfl, hr, s1, s2, hc1, hH1, hg1⟩
 have C1 := hide hc1
 have H1 := hide hH1
 have G1 := hide hg1
 have HR := hide hr
 clear hc1 hH1 hg1 hr
 go_wp2
 go_ret
 exact ⟨r, S1, rfl, by have := uh HR; omega, by have := uh HR; omega, s1, s2, uh C1, uh H1, uh G1⟩
theorem grown_alloc (w : World) (o : Obj) (row : Option Nat) : w.grownBy (w.alloc o) row := World.grownBy_alloc w o row
theorem grown_new {w w1 w2 : World} {row : Option Nat} {g : Nat} (h : w.grownBy w1 row) (k : w1.grownBy w2 (some g)) (hg : w.heap.size ≤ g) : w.grownBy w2 row :=
 ⟨k.os.trans h.os, k.tape.trans h.tape, k.output.trans h.output, Nat.le_trans h.size k.size, fun i hi hne => (k.block i (Nat.lt_of_lt_of_le hi h.size) (fun e => by
  have : i = g := by simpa using e
  omega)).trans (h.block i hi hne)⟩
theorem HU.alloc {w : World} {blk off : Nat} {d : Array Int} (h : HU w blk off d) (hb : blk < w.heap.size) (o : Obj) : HU (w.alloc o) blk off d :=
 h.kept (RowKit.Below.heap_alloc w o blk hb)
set_option maxHeartbeats 3200000 in
theorem pivot_any (blk off cap N a b : Nat) (d : Array Int) (hN : Hid (d.size = N)) (w : World) (h : HU w blk off d) (hblk : blk < w.heap.size) (hab : a + 8 ≤ b) (hb : b ≤ N) (hsz : N ≤ 1048576) :
  Calls Tryz.prog 209 #[.slice (some ⟨blk, off, none⟩) N cap, .int .i64 a, .int .i64 b] w fun e w' =>
   ∃ (p : Nat) (t : Int), e = .returned (.tuple #[.int .i64 p, .int .i64 t]) ∧ a ≤ p ∧ p < b ∧ HU w' blk off d ∧ w.grownBy w' (some blk) := by
 obtain ⟨L, eL⟩ : ∃ x : Nat, (b : Int) - (a : Int) = (x : Int) := ⟨b - a, by omega⟩
 have wL : IntKind.i64.wrap (L : Int) = (L : Int) := IntWalk.i64_in _ (by omega)
 obtain ⟨Q, eQ⟩ : ∃ Q, L / 4 = Q := ⟨_, rfl⟩
 have eQ1 : Int.tdiv (L : Int) 4 = (Q : Int) := by rw [← eQ]; exact (Int.ofNat_tdiv L 4).symm
 have eQ2 : (L : Int) / 4 = (Q : Int) := by omega
 have wQ : IntKind.i64.wrap (Q : Int) = (Q : Int) := IntWalk.i64_in _ (by omega)
 have wQ2 : IntKind.i64.wrap ((Q : Int) * 2) = (Q : Int) * 2 := IntWalk.i64_in _ (by omega)
 have wQ3 : IntKind.i64.wrap ((Q : Int) * 3) = (Q : Int) * 3 := IntWalk.i64_in _ (by omega)
 obtain ⟨I, eI⟩ : ∃ x : Nat, (a : Int) + (Q : Int) = (x : Int) := ⟨a + Q, by omega⟩
 obtain ⟨J, eJ⟩ : ∃ x : Nat, (a : Int) + (Q : Int) * 2 = (x : Int) := ⟨a + Q * 2, by omega⟩
 obtain ⟨K, eK⟩ : ∃ x : Nat, (a : Int) + (Q : Int) * 3 = (x : Int) := ⟨a + Q * 3, by omega⟩
 have wI : IntKind.i64.wrap (I : Int) = (I : Int) := IntWalk.i64_in _ (by omega)
 have wJ : IntKind.i64.wrap (J : Int) = (J : Int) := IntWalk.i64_in _ (by omega)
 have wK : IntKind.i64.wrap (K : Int) = (K : Int) := IntWalk.i64_in _ (by omega)
 have bI : a + 2 ≤ I ∧ I + 6 ≤ b := by omega
 have bJ : a + 2 ≤ J ∧ J + 2 < b := by omega
 have bK : a + 2 ≤ K ∧ K + 1 < b := by omega
 have h8 : (8 : Int) ≤ (L : Int) := by omega
 have hg : w.heap.size ≠ blk := by omega
 have H0 := hide (h.alloc hblk (.cells #[.int .i64 0] 3))
 have C0 : Hid (Cnt (w.alloc (.cells #[.int .i64 0] 3)) w.heap.size 0) := ⟨by simp, by simp⟩
 have HL := hide (And.intro eQ hab)
 clear eQ h
 go_enter Tryz.func209, Tryz.ntmps209
 by_cases h50 : (50 : Int) ≤ (L : Int)
 ·go_wp2_with fail
  refine (medianAdj_any blk off cap N w.heap.size I 0 d hN _ (uh H0) (by omega) (by omega) hsz hg (uh C0) (by omega) (by omega)).mono ?_
  rintro e w1 ⟨i1, S1, rfl, p1, p2, s1, s2, hc1, hH1, hg1⟩
  have C1 := hide hc1
  have H1 := hide hH1
  have G1 := hide hg1
  clear hc1 hH1 hg1
  go_wp2_with fail
  refine (medianAdj_any blk off cap N w.heap.size J S1 d hN _ (uh H1) (by omega) (by omega) hsz hg (uh C1) (by omega) (by omega)).mono ?_
  rintro e w2 ⟨j1, S2, rfl, p3, p4, s3, s4, hc2, hH2, hg2⟩
  have C2 := hide hc2
  have H2 := hide hH2
  have G2 := hide hg2
  clear hc2 hH2 hg2
  go_wp2_with fail
  refine (medianAdj_any blk off cap N w.heap.size K S2 d hN _ (uh H2) (by omega) (by omega) hsz hg (uh C2) (by omega) (by omega)).mono ?_
  rintro e w3 ⟨k1, S3, rfl, p5, p6, s5, s6, hc3, hH3, hg3⟩
  have C3 := hide hc3
  have H3 := hide hH3
  have G3 := hide hg3
  clear hc3 hH3 hg3
  go_wp2_with fail
  refine (median_any blk off cap N w.heap.size i1 j1 k1 S3 d hN _ (uh H3) (by omega) (by omega) (by omega) hsz hg (uh C3) (by omega) (by omega)).mono ?_
  rintro e w4 ⟨m, S4, rfl, hm, s7, s8, hc4, hH4, hg4⟩
  have H4 := hide hH4
  have G4 := hide (grown_new (grown_alloc w _ (some blk)) (grown_t (uh G1) (grown_t (uh G2) (grown_t (uh G3) hg4))) (Nat.le_refl _))
  have B4 : a ≤ m ∧ m < b := by omega
  have HB := hide B4
  have hcc := hc4.cell
  clear hc4 hH4 hg4 B4 hm
  go_wp2
  all_goals
   go_ret2
   exact ⟨m, _, rfl, (uh HB).1, (uh HB).2, uh H4, uh G4⟩
 ·go_wp2_with fail
  refine (median_any blk off cap N w.heap.size I J K 0 d hN _ (uh H0) (by omega) (by omega) (by omega) hsz hg (uh C0) (by omega) (by omega)).mono ?_
  rintro e w4 ⟨m, S4, rfl, hm, s7, s8, hc4, hH4, hg4⟩
  have H4 := hide hH4
  have G4 := hide (grown_new (grown_alloc w _ (some blk)) hg4 (Nat.le_refl _))
  have B4 : a ≤ m ∧ m < b := by omega
  have HB := hide B4
  have hcc := hc4.cell
  clear hc4 hH4 hg4 B4 hm
  go_wp2
  all_goals
   go_ret2
   exact ⟨m, _, rfl, (uh HB).1, (uh HB).2, uh H4, uh G4⟩
theorem pow_bitLen : ∀ x : Nat, 0 < x → x < 2 ^ 64 → 2 ^ (Lib.bitLen x) ≤ 2 * x := by
 intro x
 induction x using Nat.strongRecOn with
 | _ x ih =>
  intro h0 h
  rw [Lib.bitLen_half x (by omega) h, Nat.add_comm, Nat.pow_succ]
  by_cases h1 : x = 1
  ·subst h1; decide
  ·have := ih (x / 2) (by omega) (by omega) (by omega)
   omega
theorem tab_at (i : Nat) (h : i < Lib.len8tab.size) : (Lib.len8tab[i]).toNat = Lib.bitLen i ∧ Lib.bitLen i ≤ 8 := by
 have h' := h
 rw [Lib.len8tab_size] at h'
 have h2 := Lib.len8_of (i : Int) (by omega) (by omega)
 have h3 := Lib.bitLen_le8' (i : Int) (by omega) (by omega)
 simp only [Lib.len8, Int.toNat_natCast, ByteArray.getElem?_lt' _ _ h, Option.getD_some] at h2 h3
 omega
theorem tab_int {i : Int} {m : Nat} (e : i.toNat = m) (h : i.toNat < Lib.len8tab.size) : ((Lib.len8tab[i.toNat]).toNat : Int) = (Lib.bitLen m : Int) ∧ Lib.bitLen m ≤ 8 := by
 subst e
 have := tab_at i.toNat h
 omega
set_option maxHeartbeats 3200000 in
theorem len64_any (n : Nat) (hn : n ≤ 1048576) (w : World) : Calls Tryz.prog 216 #[.int .u64 n] w fun e w' => e = .returned (.int .i64 (Lib.bitLen n)) ∧ w' = w := by
 obtain ⟨x, ex⟩ : ∃ x : Int, (n : Int) = x := ⟨_, rfl⟩
 have hx0 : 0 ≤ x := by omega
 have hx1 : x ≤ 1048576 := by omega
 rw [ex]
 have EX := hide (And.intro ex hn)
 clear ex hn
 go_enter Tryz.func216, Tryz.ntmps216
 go_wp2
 all_goals (try (exfalso; simp only [Lib.len8tab_size] at *; omega))
 all_goals (go_ret; refine ⟨congrArg Ending.returned (congrArg (Value.int IntKind.i64) ?_), rfl⟩)
 ·obtain ⟨ex, hn⟩ := uh EX
  obtain ⟨t1, t2⟩ := tab_int (i := x / 65536) (m := n / 65536) (by omega) (by omega)
  have s := Lib.bitLen_shift16 n (by omega) (by omega)
  rw [t1, IntWalk.wrap64_in (Lib.bitLen _ : Int) (by omega), IntWalk.wrap64_in _ (by omega)]
  omega
 ·obtain ⟨ex, hn⟩ := uh EX
  obtain ⟨t1, t2⟩ := tab_int (i := x / 256) (m := n / 256) (by omega) (by omega)
  have s := Lib.bitLen_shift8 n (by omega) (by omega)
  rw [t1, IntWalk.wrap64_in (Lib.bitLen _ : Int) (by omega), IntWalk.wrap64_in _ (by omega)]
  omega
 ·obtain ⟨ex, hn⟩ := uh EX
  obtain ⟨t1, t2⟩ := tab_int (i := x) (m := n) (by omega) (by omega)
  rw [t1, IntWalk.wrap64_in (Lib.bitLen _ : Int) (by omega), IntWalk.wrap64_in _ (by omega)]
theorem len_any (n : Nat) (hn : n ≤ 1048576) (w : World) : Calls Tryz.prog 198 #[.int .u64 n] w fun e w' => e = .returned (.int .i64 (Lib.bitLen n)) ∧ w' = w := by
 go_enter Tryz.func198, Tryz.ntmps198
 go_wp2_with fail
 refine (len64_any n hn _).mono ?_
 rintro e w' ⟨rfl, rfl⟩
 go_wp2
 go_ret
 exact ⟨rfl, rfl⟩
theorem npow_any (n : Nat) (hn0 : 0 < n) (hn : n ≤ 1048576) (w : World) : Calls Tryz.prog 234 #[.int .i64 n] w fun e w' => ∃ M : Nat, e = .returned (.int .u64 M) ∧ 0 < M ∧ M ≤ 2 * n ∧ w' = w := by
 have hK : Lib.bitLen n ≤ 21 := Lib.bitLen_le n 21 (by omega) (by omega)
 have hP := pow_bitLen n hn0 (by omega)
 have hL := len_any n hn
 generalize Lib.bitLen n = K at hK hP hL
 obtain ⟨M, eM⟩ : ∃ M, 2 ^ K = M := ⟨_, rfl⟩
 have h0 : 0 < M := by rw [← eM]; exact Nat.two_pow_pos K
 rw [eM] at hP
 have hp : ((2 : Int) ^ K) = (M : Int) := by rw [← eM]; push_cast; rfl
 have hw : IntKind.u64.wrap ((2 : Int) ^ K) = (M : Int) := by rw [hp, IntKind.wrap_u64]; omega
 have hP' := hide hP
 have h0' := hide h0
 clear hP h0 eM hp
 go_enter Tryz.func234, Tryz.ntmps234
 go_wp2_with fail
 refine (hL _).mono ?_
 rintro e w' ⟨rfl, rfl⟩
 go_wp2
 go_ret
 exact ⟨M, by first | rfl | simp only [hw], uh h0', uh hP', rfl⟩
set_option maxHeartbeats 3200000 in
theorem next_any (g X : Nat) (hX : X < 18446744073709551616) (w : World) (hc : w.cell? ⟨g, 0, none⟩ = some (.int .u64 X)) (hf : w.frozen? ⟨g, 0, none⟩ = false) :
  Calls Tryz.prog 235 #[.pointer (some ⟨g, 0, none⟩)] w fun e w' => ∃ C : Nat, e = .returned (.int .u64 C) ∧ C < 18446744073709551616 ∧ w'.cell? ⟨g, 0, none⟩ = some (.int .u64 C) ∧ w'.frozen? ⟨g, 0, none⟩ = false ∧ w.grownBy w' (some g) := by
 obtain ⟨A, lA, e1⟩ : ∃ A : Nat, A < 18446744073709551616 ∧ bits .xor .u64 (X : Int) (IntKind.u64.wrap ((X : Int) * 8192)) = (A : Int) := by
  refine ⟨X ^^^ (X * 8192 % 18446744073709551616), Nat.xor_lt_two_pow (n := 64) (by omega) (by omega), ?_⟩
  rw [IntKind.wrap_u64, show ((X : Int) * 8192 % 18446744073709551616) = ((X * 8192 % 18446744073709551616 : Nat) : Int) by omega, bits_xor_u64_nat _ _ hX (by omega)]
 obtain ⟨B, lB, e2⟩ : ∃ B : Nat, B < 18446744073709551616 ∧ bits .xor .u64 (A : Int) ((A : Int) / 128) = (B : Int) := by
  refine ⟨A ^^^ (A / 128), Nat.xor_lt_two_pow (n := 64) (by omega) (by omega), ?_⟩
  rw [show ((A : Int) / 128) = ((A / 128 : Nat) : Int) by omega, bits_xor_u64_nat _ _ lA (by omega)]
 obtain ⟨C, lC, e3⟩ : ∃ C : Nat, C < 18446744073709551616 ∧ bits .xor .u64 (B : Int) (IntKind.u64.wrap ((B : Int) * 131072)) = (C : Int) := by
  refine ⟨B ^^^ (B * 131072 % 18446744073709551616), Nat.xor_lt_two_pow (n := 64) (by omega) (by omega), ?_⟩
  rw [IntKind.wrap_u64, show ((B : Int) * 131072 % 18446744073709551616) = ((B * 131072 % 18446744073709551616 : Nat) : Int) by omega, bits_xor_u64_nat _ _ lB (by omega)]
 have c1 := World.cell?_setCell_same w ⟨g, 0, none⟩ (.int .u64 A) hc
 have c2 := World.cell?_setCell_same _ ⟨g, 0, none⟩ (.int .u64 B) c1
 have c3 := World.cell?_setCell_same _ ⟨g, 0, none⟩ (.int .u64 C) c2
 have HG := hide (grown_t (grown_t (grown_set w g 0 (.int .u64 A)) (grown_set _ g 0 (.int .u64 B))) (grown_set _ g 0 (.int .u64 C)))
 have HF : Hid ((((w.setCell ⟨g, 0, none⟩ (.int .u64 A)).setCell ⟨g, 0, none⟩ (.int .u64 B)).setCell ⟨g, 0, none⟩ (.int .u64 C)).frozen? ⟨g, 0, none⟩ = false) := by
  show _ = _
  simp only [World.frozen?_setCell]
  exact hf
 have LC := hide lC
 have HC := hide c3
 clear hX lA lB lC
 go_enter Tryz.func235, Tryz.ntmps235
 go_wp2_with fail
 go_region
 go_wp2_with fail
 go_region
 go_wp2_with fail
 go_region
 go_wp2
 go_ret
 exact ⟨C, rfl, uh LC, by exact uh HC, by exact uh HF, by exact grown_drew (grown_drew (grown_drew (uh HG)))⟩
end Go.Proofs.YtnbgnhhnpmmloaaGreatDoor.Q
