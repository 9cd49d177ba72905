import Derived.Test.YtnbgnhhnpmmloaaGreatDoorK8
namespace Go.Proofs.YtnbgnhhnpmmloaaGreatDoor
open Go.ChangeShapes Go.WideShapes Go.ChangeAt Go.RowKit
set_option linter.unusedVariables false
set_option linter.unusedSimpArgs false
set_option maxRecDepth 100000
set_option maxHeartbeats 400000 in
theorem eqUint64S_n (p q : Option Addr) (c d n : Nat) (l : List Int) (en : Hid (l.length = n)) (w : World) (h1 : RdU w (.slice p n c) l) (h2 : RdU w (.slice q n d) l) (hn : n ≤ 1048576) :
  Calls Tryz.prog 121 #[.slice p n c, .slice q n d] w fun r w' => r = .returned (.bool true) ∧ Below w.heap.size w w' := by
 have HR := hide fun (w' : World) (hb : Below w.heap.size w w') => And.intro (h1.below hb) (h2.below hb)
 clear h1 h2
 have hne : ((n : Int) != (n : Int)) = false := by simp
 go_enter Tryz.func121, Tryz.ntmps121
 go_wp2
 go_loopw [5] (fun i wr => ∃ k : Nat, k ≤ n ∧ i = .int .i64 k ∧ Below w.heap.size w wr) (fun i _ => n - (intOf i).toNat)
 case atStart => exact ⟨0, Nat.zero_le _, rfl, Below.refl _ _⟩
 case round =>
  obtain ⟨k, hk, rfl, hbr⟩ := hrel
  by_cases hlt : k < n
  ·have i1 : (k : Int) < (n : Int) := by omega
   have hkl : k < l.length := by rw [uh en]; exact hlt
   have key : ∀ (p : Option Addr) (c : Nat), RdU wr (.slice p n c) l → ∃ b o, p = some ⟨b, o, none⟩ ∧ wr.cell? ⟨b, o + k, none⟩ = some (.int .u64 (l.getD k 0)) := fun p c h => by
    obtain ⟨p', c', ev, hd⟩ := h
    simp only [Value.slice.injEq] at ev
    obtain ⟨rfl, -, -⟩ := ev
    rcases hd with h0 | ⟨b, o, h1, h2⟩
    ·rw [h0] at hkl; simp at hkl
    ·exact ⟨b, o, h1, h2 k hkl⟩
   obtain ⟨b1, o1, rfl, g1⟩ := key p c (uh HR _ hbr).1
   obtain ⟨b2, o2, rfl, g2⟩ := key q d (uh HR _ hbr).2
   obtain ⟨y, ey⟩ : ∃ y, l.getD k 0 = y := ⟨_, rfl⟩
   rw [ey] at g1 g2
   have hb : (y != y) = false := by simp
   clear key hkl ey
   go_wp2
   go_quiet (fail)
   go_wp2
   go_roundw
   case rel => exact ⟨k + 1, by omega, by go_num, below_drewN hbr _⟩
   case measure => simp [intOf]; omega
  ·have hkl : ¬ (k : Int) < (n : Int) := by omega
   go_wp2
   go_ret
   exact ⟨rfl, hbr⟩
set_option maxHeartbeats 400000 in
theorem eqEvent_n (K : Int) (p q : Option Addr) (c d n : Nat) (P : List Int) (en : Hid (P.length = n)) (w : World) (h1 : Rd w (.slice p n c) P) (h2 : Rd w (.slice q n d) P) (hn : n ≤ 1048576) :
  Calls Tryz.prog 153 #[.agg #[.int .i64 K, .slice p n c], .agg #[.int .i64 K, .slice q n d]] w fun r w' => r = .returned (.bool true) ∧ Below w.heap.size w w' := by
 have b1 : Below w.heap.size w ((w.alloc (.cells #[.int .i64 K, .slice p n c] 147)).alloc (.cells #[.int .i64 K, .slice q n d] 147)) := ((Below.refl _ _).alloc (Nat.le_refl _) _).alloc (by simp) _
 have HR := hide (And.intro (h1.below b1) (h2.below b1))
 clear h1 h2
 have e1 : (K != K) = false := by simp
 go_enter Tryz.func153, Tryz.ntmps153
 go_wp2_with fail
 refine (eqByteS_n p q c d n P en _ (by exact (uh HR).1) (by exact (uh HR).2) (by omega)).mono ?_
 rintro r w1 ⟨rfl, hb1⟩
 have b2 := Below.step b1 hb1
 clear hb1
 go_wp2
 go_ret
 exact ⟨rfl, b2⟩
set_option maxHeartbeats 1600000 in
theorem eqEventS_n (p q : Option Addr) (c d n : Nat) (l : List Ev) (en : Hid (l.length = n)) (w : World) (h1 : RdE w (.slice p n c) l) (h2 : RdE w (.slice q n d) l) (hn : n ≤ 1048576) (hel : Hid (∀ y ∈ l, y.2.length ≤ 1048576)) :
  Calls Tryz.prog 120 #[.slice p n c, .slice q n d] w fun r w' => r = .returned (.bool true) ∧ Below w.heap.size w w' := by
 have HR := hide fun (w' : World) (hb : Below w.heap.size w w') => And.intro (h1.below hb) (h2.below hb)
 have hcf : ∀ (vs : Array Value) (w : World), (callFunc 153 vs).run Tryz.prog w = .ok (.enter 153 vs) w := fun vs w => by kernel_rfl
 have HCF := hide hcf
 clear h1 h2 hcf
 have hne : ((n : Int) != (n : Int)) = false := by simp
 go_enter Tryz.func120, Tryz.ntmps120
 go_wp2_with fail
 go_loopw [5] (fun i wr => ∃ k : Nat, k ≤ n ∧ i = .int .i64 k ∧ Below w.heap.size w wr) (fun i _ => n - (intOf i).toNat)
 case atStart => exact ⟨0, Nat.zero_le _, rfl, Below.refl _ _⟩
 case round =>
  obtain ⟨k, hk, rfl, hbr⟩ := hrel
  by_cases hlt : k < n
  ·have i1 : (k : Int) < (n : Int) := by omega
   have hkl : k < l.length := by rw [uh en]; exact hlt
   obtain ⟨y, hy⟩ : ∃ y, l[k]? = some y := ⟨_, List.getElem?_eq_getElem hkl⟩
   have hby := uh hel y (List.mem_of_getElem? hy)
   obtain ⟨K, P⟩ := y
   have key : ∀ (p : Option Addr) (c : Nat), RdE wr (.slice p n c) l → ∃ b o, p = some ⟨b, o, none⟩ ∧ wr.cell? ⟨b, o + k * 2, none⟩ = some (.int .i64 K) ∧ ∃ u, wr.cell? ⟨b, o + k * 2 + 1, none⟩ = some u ∧ Rd wr u P := fun p c h => by
    obtain ⟨p', c', ev, hd⟩ := h
    simp only [Value.slice.injEq] at ev
    obtain ⟨rfl, -, -⟩ := ev
    rcases hd with h0 | ⟨b, o, h1, h2⟩
    ·rw [h0] at hkl; simp at hkl
    ·exact ⟨b, o, h1, h2 k _ hy⟩
   obtain ⟨b1, o1, rfl, z1, u1, z2, r1⟩ := key p c (uh HR _ hbr).1
   obtain ⟨b2, o2, rfl, x1, u2, x2, r2⟩ := key q d (uh HR _ hbr).2
   obtain ⟨p1, c1, rfl, -⟩ := id r1
   obtain ⟨p2, c2, rfl, -⟩ := id r2
   obtain ⟨m, em⟩ : ∃ m, P.length = m := ⟨_, rfl⟩
   rw [em] at r1 r2 z2 x2
   have hm : m ≤ 1048576 := by rw [← em]; exact hby
   have EM := hide em
   have HRR := hide (And.intro r1 r2)
   have K0 := hide (And.intro z1 (And.intro z2 (And.intro x1 x2)))
   clear key z1 z2 x1 x2 r1 r2 em
   clear hkl hy hby
   go_wp2_with fail
   refine wp_region_noPanic ?_
   refine wp_region_held_drew (S := fun w' => w'.cell? ⟨b1, o1 + k * 2, none⟩ = some (.int .i64 K) ∧ w'.cell? ⟨b1, o1 + k * 2 + 1, none⟩ = some (.slice p1 m c1) ∧ w'.cell? ⟨b2, o2 + k * 2, none⟩ = some (.int .i64 K) ∧ w'.cell? ⟨b2, o2 + k * 2 + 1, none⟩ = some (.slice p2 m c2)) (by kernel_rfl) (by exact uh K0) (fun hS => ?_)
   refine tk 0 hS (h := ?_); simp only [Act.put, xa, xb, xc]
   refine tk 1 hS (h := ?_); simp only [Act.put, xa, xb, xc]
   refine tk 2 hS (h := ?_); simp only [Act.put, xa, xb, xc]
   refine tk 3 hS (h := ?_); simp only [Act.put, xa, xb, xc]
   refine tk 4 hS (h := ?_); simp only [Act.put, xa, xb, xc]
   refine tk 5 hS (h := ?_); simp only [Act.put, xa, xb, xc]
   refine tk 6 hS (h := ?_); simp only [Act.put, xa, xb, xc]
   refine tk 7 hS (h := ?_); simp only [Act.put, xa, xb, xc]
   refine ry [8] ?_
   refine cn (fun KK hK => ?_) ?_
   ·refine step_call2 (by rfl) 153 _ _ _ (by rfl) (.agg #[.int .i64 K, .slice p1 m c1]) (.agg #[.int .i64 K, .slice p2 m c2]) (by rfl) (by rfl) (fun _ => uh HCF _ _) (eqEvent_n K p1 p2 c1 c2 m P EM _ ((uh HRR).1.below (Below.refl _ _).drew) ((uh HRR).2.below (Below.refl _ _).drew) hm) ?_
    rintro r w2 ⟨rfl, hb2⟩
    refine ⟨_, rfl, ?_⟩
    have hb' : Below wr.heap.size wr w2 := Below.step (Below.refl wr.heap.size wr).drew hb2
    refine hK.out _ _ (by obtain ⟨k0, k1, k2, k3⟩ := uh K0; exact ⟨cell_below k0 hb', cell_below k1 hb', cell_below k2 hb', cell_below k3 hb'⟩) (fun hS => ?_)
    clear hK KK
    (try simp only [Act.put, xa, xb, xc])
    refine tk 9 hS (h := ?_); simp only [Act.put, xa, xb, xc]
    refine wpAnyH_done (by kernel_rfl) ?_ _
    refine NoPanic.normal ?_
    have b2 := Below.step hbr hb'
    clear hb2 hb' hS
    go_wp2
    go_roundw
    case rel => exact ⟨k + 1, by omega, by go_num, b2⟩
    case measure => simp [intOf]; omega
   exact AllReadyH.nil
  ·have hkl : ¬ (k : Int) < (n : Int) := by omega
   go_wp2
   go_ret
   exact ⟨rfl, hbr⟩
set_option maxHeartbeats 400000 in
theorem eqSession_n (I D : Int) (p q : Option Addr) (c d n : Nat) (Q : List Ev) (en : Hid (Q.length = n)) (w : World) (h1 : RdE w (.slice p n c) Q) (h2 : RdE w (.slice q n d) Q) (hn : n ≤ 1048576) (hel : Hid (∀ y ∈ Q, y.2.length ≤ 1048576)) :
  Calls Tryz.prog 82 #[.agg #[.int .u64 I, .int .i64 D, .slice p n c], .agg #[.int .u64 I, .int .i64 D, .slice q n d]] w fun r w' => r = .returned (.bool true) ∧ Below w.heap.size w w' := by
 have b1 : Below w.heap.size w ((w.alloc (.cells #[.int .u64 I, .int .i64 D, .slice p n c] 59)).alloc (.cells #[.int .u64 I, .int .i64 D, .slice q n d] 59)) := ((Below.refl _ _).alloc (Nat.le_refl _) _).alloc (by simp) _
 have HR := hide (And.intro (h1.below b1) (h2.below b1))
 clear h1 h2
 have e1 : (I != I) = false := by simp
 have e2 : (D != D) = false := by simp
 go_enter Tryz.func82, Tryz.ntmps82
 go_wp2_with fail
 refine (eqEventS_n p q c d n Q en _ (by exact (uh HR).1) (by exact (uh HR).2) hn hel).mono ?_
 rintro r w1 ⟨rfl, hb1⟩
 have b2 := Below.step b1 hb1
 clear hb1
 go_wp2
 go_ret
 exact ⟨rfl, b2⟩
set_option maxHeartbeats 1600000 in
theorem eqSessionS_n (p q : Option Addr) (c d n : Nat) (l : List Ses) (en : Hid (l.length = n)) (w : World) (h1 : RdS w (.slice p n c) l) (h2 : RdS w (.slice q n d) l) (hn : n ≤ 1048576) (hel : Hid (∀ y ∈ l, y.2.2.length ≤ 1048576 ∧ ∀ e ∈ y.2.2, e.2.length ≤ 1048576)) :
  Calls Tryz.prog 42 #[.slice p n c, .slice q n d] w fun r w' => r = .returned (.bool true) ∧ Below w.heap.size w w' := by
 have HR := hide fun (w' : World) (hb : Below w.heap.size w w') => And.intro (h1.below hb) (h2.below hb)
 have hcf : ∀ (vs : Array Value) (w : World), (callFunc 82 vs).run Tryz.prog w = .ok (.enter 82 vs) w := fun vs w => by kernel_rfl
 have HCF := hide hcf
 clear h1 h2 hcf
 have hne : ((n : Int) != (n : Int)) = false := by simp
 go_enter Tryz.func42, Tryz.ntmps42
 go_wp2_with fail
 go_loopw [5] (fun i wr => ∃ k : Nat, k ≤ n ∧ i = .int .i64 k ∧ Below w.heap.size w wr) (fun i _ => n - (intOf i).toNat)
 case atStart => exact ⟨0, Nat.zero_le _, rfl, Below.refl _ _⟩
 case round =>
  obtain ⟨k, hk, rfl, hbr⟩ := hrel
  by_cases hlt : k < n
  ·have i1 : (k : Int) < (n : Int) := by omega
   have hkl : k < l.length := by rw [uh en]; exact hlt
   obtain ⟨y, hy⟩ : ∃ y, l[k]? = some y := ⟨_, List.getElem?_eq_getElem hkl⟩
   have hby := uh hel y (List.mem_of_getElem? hy)
   obtain ⟨I, D, Q⟩ := y
   have key : ∀ (p : Option Addr) (c : Nat), RdS wr (.slice p n c) l → ∃ b o, p = some ⟨b, o, none⟩ ∧ wr.cell? ⟨b, o + k * 3, none⟩ = some (.int .u64 I) ∧ wr.cell? ⟨b, o + k * 3 + 1, none⟩ = some (.int .i64 D) ∧ ∃ u, wr.cell? ⟨b, o + k * 3 + 2, none⟩ = some u ∧ RdE wr u Q := fun p c h => by
    obtain ⟨p', c', ev, hd⟩ := h
    simp only [Value.slice.injEq] at ev
    obtain ⟨rfl, -, -⟩ := ev
    rcases hd with h0 | ⟨b, o, h1, h2⟩
    ·rw [h0] at hkl; simp at hkl
    ·exact ⟨b, o, h1, h2 k _ hy⟩
   obtain ⟨b1, o1, rfl, z1, z2, u1, z3, r1⟩ := key p c (uh HR _ hbr).1
   obtain ⟨b2, o2, rfl, x1, x2, u2, x3, r2⟩ := key q d (uh HR _ hbr).2
   obtain ⟨p1, c1, rfl, -⟩ := id r1
   obtain ⟨p2, c2, rfl, -⟩ := id r2
   obtain ⟨m, em⟩ : ∃ m, Q.length = m := ⟨_, rfl⟩
   rw [em] at r1 r2 z3 x3
   have hm : m ≤ 1048576 := by rw [← em]; exact hby.1
   have EM := hide em
   have HEL : Hid (∀ y ∈ Q, y.2.length ≤ 1048576) := hby.2
   have HRR := hide (And.intro r1 r2)
   have K0 := hide (And.intro z1 (And.intro z2 (And.intro z3 (And.intro x1 (And.intro x2 x3)))))
   clear key z1 z2 z3 x1 x2 x3 r1 r2 em
   clear hkl hy hby
   go_wp2_with fail
   refine wp_region_noPanic ?_
   refine wp_region_held_drew (S := fun w' => w'.cell? ⟨b1, o1 + k * 3, none⟩ = some (.int .u64 I) ∧ w'.cell? ⟨b1, o1 + k * 3 + 1, none⟩ = some (.int .i64 D) ∧ w'.cell? ⟨b1, o1 + k * 3 + 2, none⟩ = some (.slice p1 m c1) ∧ w'.cell? ⟨b2, o2 + k * 3, none⟩ = some (.int .u64 I) ∧ w'.cell? ⟨b2, o2 + k * 3 + 1, none⟩ = some (.int .i64 D) ∧ w'.cell? ⟨b2, o2 + k * 3 + 2, none⟩ = some (.slice p2 m c2)) (by kernel_rfl) (by exact uh K0) (fun hS => ?_)
   refine tk 0 hS (h := ?_); simp only [Act.put, xa, xb, xc]
   refine tk 1 hS (h := ?_); simp only [Act.put, xa, xb, xc]
   refine tk 2 hS (h := ?_); simp only [Act.put, xa, xb, xc]
   refine tk 3 hS (h := ?_); simp only [Act.put, xa, xb, xc]
   refine tk 4 hS (h := ?_); simp only [Act.put, xa, xb, xc]
   refine tk 5 hS (h := ?_); simp only [Act.put, xa, xb, xc]
   refine tk 6 hS (h := ?_); simp only [Act.put, xa, xb, xc]
   refine tk 7 hS (h := ?_); simp only [Act.put, xa, xb, xc]
   refine ry [8] ?_
   refine cn (fun KK hK => ?_) ?_
   ·refine step_call2 (by rfl) 82 _ _ _ (by rfl) (.agg #[.int .u64 I, .int .i64 D, .slice p1 m c1]) (.agg #[.int .u64 I, .int .i64 D, .slice p2 m c2]) (by rfl) (by rfl) (fun _ => uh HCF _ _) (eqSession_n I D p1 p2 c1 c2 m Q EM _ ((uh HRR).1.below (Below.refl _ _).drew) ((uh HRR).2.below (Below.refl _ _).drew) hm HEL) ?_
    rintro r w2 ⟨rfl, hb2⟩
    refine ⟨_, rfl, ?_⟩
    have hb' : Below wr.heap.size wr w2 := Below.step (Below.refl wr.heap.size wr).drew hb2
    refine hK.out _ _ (by obtain ⟨k0, k1, k2, k3, k4, k5⟩ := uh K0; exact ⟨cell_below k0 hb', cell_below k1 hb', cell_below k2 hb', cell_below k3 hb', cell_below k4 hb', cell_below k5 hb'⟩) (fun hS => ?_)
    clear hK KK
    (try simp only [Act.put, xa, xb, xc])
    refine tk 9 hS (h := ?_); simp only [Act.put, xa, xb, xc]
    refine wpAnyH_done (by kernel_rfl) ?_ _
    refine NoPanic.normal ?_
    have b2 := Below.step hbr hb'
    clear hb2 hb' hS
    go_wp2
    go_roundw
    case rel => exact ⟨k + 1, by omega, by go_num, b2⟩
    case measure => simp [intOf]; omega
   exact AllReadyH.nil
  ·have hkl : ¬ (k : Int) < (n : Int) := by omega
   go_wp2
   go_ret
   exact ⟨rfl, hbr⟩
set_option maxHeartbeats 800000 in
theorem eqNode_n (ow mo ep ge : Int) (pp pv ph pu qp qv qh qu : Option Addr) (a1 a2 a3 a4 d1 d2 d3 d4 n1 n2 n3 n4 : Nat) (P V H U : List Int) (e1 : Hid (P.length = n1)) (e2 : Hid (V.length = n2)) (e3 : Hid (H.length = n3)) (e4 : Hid (U.length = n4)) (w : World)
  (h1 : Rd w (.slice pp n1 a1) P ∧ Rd w (.slice pv n2 a2) V ∧ RdU w (.slice ph n3 a3) H ∧ RdU w (.slice pu n4 a4) U) (h2 : Rd w (.slice qp n1 d1) P ∧ Rd w (.slice qv n2 d2) V ∧ RdU w (.slice qh n3 d3) H ∧ RdU w (.slice qu n4 d4) U) (m1 : n1 ≤ 1048576) (m2 : n2 ≤ 1048576) (m3 : n3 ≤ 1048576) (m4 : n4 ≤ 1048576) :
  Calls Tryz.prog 83 #[ndV (.slice pp n1 a1) (.slice pv n2 a2) ow mo (.slice ph n3 a3) ep ge (.slice pu n4 a4), ndV (.slice qp n1 d1) (.slice qv n2 d2) ow mo (.slice qh n3 d3) ep ge (.slice qu n4 d4)] w fun r w' => r = .returned (.bool true) ∧ Below w.heap.size w w' := by
 obtain ⟨W, hW⟩ : ∃ W, W = ((w.alloc (.cells #[.slice pp n1 a1, .slice pv n2 a2, .int .u64 ow, .int .i64 mo, .slice ph n3 a3, .int .u64 ep, .int .u64 ge, .slice pu n4 a4] 66)).alloc (.cells #[.slice qp n1 d1, .slice qv n2 d2, .int .u64 ow, .int .i64 mo, .slice qh n3 d3, .int .u64 ep, .int .u64 ge, .slice qu n4 d4] 66)) := ⟨_, rfl⟩
 have bW : Below w.heap.size w W := by rw [hW]; exact ((Below.refl _ _).alloc (Nat.le_refl _) _).alloc (by simp) _
 have HR := hide fun (w' : World) (hb : Below w.heap.size w w') => And.intro (And.intro (h1.1.below hb) (And.intro (h1.2.1.below hb) (And.intro (h1.2.2.1.below hb) (h1.2.2.2.below hb)))) (And.intro (h2.1.below hb) (And.intro (h2.2.1.below hb) (And.intro (h2.2.2.1.below hb) (h2.2.2.2.below hb))))
 clear h1 h2
 have k0 : W.cell? ⟨w.heap.size, 0, none⟩ = some (.slice pp n1 a1) := by rw [hW]; simp
 have k1 : W.cell? ⟨w.heap.size, 1, none⟩ = some (.slice pv n2 a2) := by rw [hW]; simp
 have k2 : W.cell? ⟨w.heap.size, 2, none⟩ = some (.int .u64 ow) := by rw [hW]; simp
 have k3 : W.cell? ⟨w.heap.size, 3, none⟩ = some (.int .i64 mo) := by rw [hW]; simp
 have k4 : W.cell? ⟨w.heap.size, 4, none⟩ = some (.slice ph n3 a3) := by rw [hW]; simp
 have k5 : W.cell? ⟨w.heap.size, 5, none⟩ = some (.int .u64 ep) := by rw [hW]; simp
 have k6 : W.cell? ⟨w.heap.size, 6, none⟩ = some (.int .u64 ge) := by rw [hW]; simp
 have k7 : W.cell? ⟨w.heap.size, 7, none⟩ = some (.slice pu n4 a4) := by rw [hW]; simp
 have j0 : W.cell? ⟨w.heap.size + 1, 0, none⟩ = some (.slice qp n1 d1) := by rw [hW]; simp
 have j1 : W.cell? ⟨w.heap.size + 1, 1, none⟩ = some (.slice qv n2 d2) := by rw [hW]; simp
 have j2 : W.cell? ⟨w.heap.size + 1, 2, none⟩ = some (.int .u64 ow) := by rw [hW]; simp
 have j3 : W.cell? ⟨w.heap.size + 1, 3, none⟩ = some (.int .i64 mo) := by rw [hW]; simp
 have j4 : W.cell? ⟨w.heap.size + 1, 4, none⟩ = some (.slice qh n3 d3) := by rw [hW]; simp
 have j5 : W.cell? ⟨w.heap.size + 1, 5, none⟩ = some (.int .u64 ep) := by rw [hW]; simp
 have j6 : W.cell? ⟨w.heap.size + 1, 6, none⟩ = some (.int .u64 ge) := by rw [hW]; simp
 have j7 : W.cell? ⟨w.heap.size + 1, 7, none⟩ = some (.slice qu n4 d4) := by rw [hW]; simp
 have q1 : (ow != ow) = false := by simp
 have q2 : (mo != mo) = false := by simp
 have q3 : (ep != ep) = false := by simp
 have q4 : (ge != ge) = false := by simp
 go_enter Tryz.func83, Tryz.ntmps83
 go_wp2_with fail
 rw [← hW]
 clear hW
 refine (eqByteS_n pp qp a1 d1 n1 P e1 _ (uh HR _ bW).1.1 (uh HR _ bW).2.1 (by omega)).mono ?_
 rintro r w1 ⟨rfl, hb1⟩
 have b1 := Below.step bW hb1
 replace k0 := cell_below k0 hb1
 replace k1 := cell_below k1 hb1
 replace k2 := cell_below k2 hb1
 replace k3 := cell_below k3 hb1
 replace k4 := cell_below k4 hb1
 replace k5 := cell_below k5 hb1
 replace k6 := cell_below k6 hb1
 replace k7 := cell_below k7 hb1
 replace j0 := cell_below j0 hb1
 replace j1 := cell_below j1 hb1
 replace j2 := cell_below j2 hb1
 replace j3 := cell_below j3 hb1
 replace j4 := cell_below j4 hb1
 replace j5 := cell_below j5 hb1
 replace j6 := cell_below j6 hb1
 replace j7 := cell_below j7 hb1
 go_wp2_with fail
 refine (eqByteS_n pv qv a2 d2 n2 V e2 _ (uh HR _ b1).1.2.1 (uh HR _ b1).2.2.1 (by omega)).mono ?_
 rintro r w2 ⟨rfl, hb2⟩
 have b2 := Below.step b1 hb2
 replace k0 := cell_below k0 hb2
 replace k1 := cell_below k1 hb2
 replace k2 := cell_below k2 hb2
 replace k3 := cell_below k3 hb2
 replace k4 := cell_below k4 hb2
 replace k5 := cell_below k5 hb2
 replace k6 := cell_below k6 hb2
 replace k7 := cell_below k7 hb2
 replace j0 := cell_below j0 hb2
 replace j1 := cell_below j1 hb2
 replace j2 := cell_below j2 hb2
 replace j3 := cell_below j3 hb2
 replace j4 := cell_below j4 hb2
 replace j5 := cell_below j5 hb2
 replace j6 := cell_below j6 hb2
 replace j7 := cell_below j7 hb2
 go_wp2_with fail
 refine (eqUint64S_n ph qh a3 d3 n3 H e3 _ (uh HR _ b2).1.2.2.1 (uh HR _ b2).2.2.2.1 m3).mono ?_
 rintro r w3 ⟨rfl, hb3⟩
 have b3 := Below.step b2 hb3
 replace k0 := cell_below k0 hb3
 replace k1 := cell_below k1 hb3
 replace k2 := cell_below k2 hb3
 replace k3 := cell_below k3 hb3
 replace k4 := cell_below k4 hb3
 replace k5 := cell_below k5 hb3
 replace k6 := cell_below k6 hb3
 replace k7 := cell_below k7 hb3
 replace j0 := cell_below j0 hb3
 replace j1 := cell_below j1 hb3
 replace j2 := cell_below j2 hb3
 replace j3 := cell_below j3 hb3
 replace j4 := cell_below j4 hb3
 replace j5 := cell_below j5 hb3
 replace j6 := cell_below j6 hb3
 replace j7 := cell_below j7 hb3
 go_wp2_with fail
 refine (eqUint64S_n pu qu a4 d4 n4 U e4 _ (uh HR _ b3).1.2.2.2 (uh HR _ b3).2.2.2.2 m4).mono ?_
 rintro r w4 ⟨rfl, hb4⟩
 have b4 := Below.step b3 hb4
 clear k0 k1 k2 k3 k4 k5 k6 k7 j0 j1 j2 j3 j4 j5 j6 j7
 go_wp2
 go_ret
 exact ⟨rfl, b4⟩
set_option maxHeartbeats 1600000 in
theorem eqNodeS_n (p q : Option Addr) (c d n : Nat) (l : List Nod) (en : Hid (l.length = n)) (w : World) (h1 : RdN w (.slice p n c) l) (h2 : RdN w (.slice q n d) l) (hn : n ≤ 1048576) (hel : Hid (∀ y ∈ l, y.path.length ≤ 1048576 ∧ y.value.length ≤ 1048576 ∧ y.holders.length ≤ 1048576 ∧ y.watchers.length ≤ 1048576)) :
  Calls Tryz.prog 43 #[.slice p n c, .slice q n d] w fun r w' => r = .returned (.bool true) ∧ Below w.heap.size w w' := by
 have HR := hide fun (w' : World) (hb : Below w.heap.size w w') => And.intro (h1.below hb) (h2.below hb)
 have hcf : ∀ (vs : Array Value) (w : World), (callFunc 83 vs).run Tryz.prog w = .ok (.enter 83 vs) w := fun vs w => by kernel_rfl
 have HCF := hide hcf
 clear h1 h2 hcf
 have hne : ((n : Int) != (n : Int)) = false := by simp
 go_enter Tryz.func43, Tryz.ntmps43
 go_wp2_with fail
 go_loopw [5] (fun i wr => ∃ k : Nat, k ≤ n ∧ i = .int .i64 k ∧ Below w.heap.size w wr) (fun i _ => n - (intOf i).toNat)
 case atStart => exact ⟨0, Nat.zero_le _, rfl, Below.refl _ _⟩
 case round =>
  obtain ⟨k, hk, rfl, hbr⟩ := hrel
  by_cases hlt : k < n
  ·have i1 : (k : Int) < (n : Int) := by omega
   have hkl : k < l.length := by rw [uh en]; exact hlt
   obtain ⟨y, hy⟩ : ∃ y, l[k]? = some y := ⟨_, List.getElem?_eq_getElem hkl⟩
   have hby := uh hel y (List.mem_of_getElem? hy)
   obtain ⟨b1, o1, rfl, hA⟩ := (uh HR _ hbr).1.at (by omega)
   obtain ⟨b2, o2, rfl, hB⟩ := (uh HR _ hbr).2.at (by omega)
   obtain ⟨P1, V1, H1, U1, na⟩ := hA k y hy
   obtain ⟨P2, V2, H2, U2, nb⟩ := hB k y hy
   obtain ⟨pp, a1, n1, rfl, e1⟩ := na.r0.slc
   obtain ⟨pv, a2, n2, rfl, e2⟩ := na.r1.slc
   obtain ⟨ph, a3, n3, rfl, e3⟩ := na.r4.slc
   obtain ⟨pu, a4, n4, rfl, e4⟩ := na.r7.slc
   obtain ⟨qp, d1, n1', rfl, e1'⟩ := nb.r0.slc
   obtain ⟨qv, d2, n2', rfl, e2'⟩ := nb.r1.slc
   obtain ⟨qh, d3, n3', rfl, e3'⟩ := nb.r4.slc
   obtain ⟨qu, d4, n4', rfl, e4'⟩ := nb.r7.slc
   obtain rfl : n1 = n1' := (uh e1).symm.trans (uh e1')
   obtain rfl : n2 = n2' := (uh e2).symm.trans (uh e2')
   obtain rfl : n3 = n3' := (uh e3).symm.trans (uh e3')
   obtain rfl : n4 = n4' := (uh e4).symm.trans (uh e4')
   have m1 : n1 ≤ 1048576 := by rw [← uh e1]; exact hby.1
   have m2 : n2 ≤ 1048576 := by rw [← uh e2]; exact hby.2.1
   have m3 : n3 ≤ 1048576 := by rw [← uh e3]; exact hby.2.2.1
   have m4 : n4 ≤ 1048576 := by rw [← uh e4]; exact hby.2.2.2
   have HA := hide (And.intro na.r0 (And.intro na.r1 (And.intro na.r4 na.r7)))
   have HB := hide (And.intro nb.r0 (And.intro nb.r1 (And.intro nb.r4 nb.r7)))
   obtain ⟨z0, z1, z2, z3, z4, z5, z6, z7, -, -, -, -, -⟩ := na
   obtain ⟨x0, x1, x2, x3, x4, x5, x6, x7, -, -, -, -, -⟩ := nb
   obtain ⟨ow, mo, ep, ge, g1, g2, g3, g4⟩ : ∃ a b c d, y.owner = a ∧ y.mode = b ∧ y.epoch = c ∧ y.gen = d := ⟨_, _, _, _, rfl, rfl, rfl, rfl⟩
   rw [g1] at z2 x2
   rw [g2] at z3 x3
   rw [g3] at z5 x5
   rw [g4] at z6 x6
   have K0 := hide (And.intro z0 (And.intro z1 (And.intro z2 (And.intro z3 (And.intro z4 (And.intro z5 (And.intro z6 (And.intro z7 (And.intro x0 (And.intro x1 (And.intro x2 (And.intro x3 (And.intro x4 (And.intro x5 (And.intro x6 x7)))))))))))))))
   clear hA hB z0 z1 z2 z3 z4 z5 z6 z7 x0 x1 x2 x3 x4 x5 x6 x7 e1' e2' e3' e4' g1 g2 g3 g4
   clear hkl hy hby
   go_wp2_with fail
   refine wp_region_noPanic ?_
   refine wp_region_held_drew (S := fun w' => w'.cell? ⟨b1, o1 + k * 8, none⟩ = some (.slice pp n1 a1) ∧ w'.cell? ⟨b1, o1 + k * 8 + 1, none⟩ = some (.slice pv n2 a2) ∧ w'.cell? ⟨b1, o1 + k * 8 + 2, none⟩ = some (.int .u64 ow) ∧ w'.cell? ⟨b1, o1 + k * 8 + 3, none⟩ = some (.int .i64 mo) ∧ w'.cell? ⟨b1, o1 + k * 8 + 4, none⟩ = some (.slice ph n3 a3) ∧ w'.cell? ⟨b1, o1 + k * 8 + 5, none⟩ = some (.int .u64 ep) ∧ w'.cell? ⟨b1, o1 + k * 8 + 6, none⟩ = some (.int .u64 ge) ∧ w'.cell? ⟨b1, o1 + k * 8 + 7, none⟩ = some (.slice pu n4 a4) ∧ w'.cell? ⟨b2, o2 + k * 8, none⟩ = some (.slice qp n1 d1) ∧ w'.cell? ⟨b2, o2 + k * 8 + 1, none⟩ = some (.slice qv n2 d2) ∧ w'.cell? ⟨b2, o2 + k * 8 + 2, none⟩ = some (.int .u64 ow) ∧ w'.cell? ⟨b2, o2 + k * 8 + 3, none⟩ = some (.int .i64 mo) ∧ w'.cell? ⟨b2, o2 + k * 8 + 4, none⟩ = some (.slice qh n3 d3) ∧ w'.cell? ⟨b2, o2 + k * 8 + 5, none⟩ = some (.int .u64 ep) ∧ w'.cell? ⟨b2, o2 + k * 8 + 6, none⟩ = some (.int .u64 ge) ∧ w'.cell? ⟨b2, o2 + k * 8 + 7, none⟩ = some (.slice qu n4 d4)) (by kernel_rfl) (by exact uh K0) (fun hS => ?_)
   refine tk 0 hS (h := ?_); simp only [Act.put, xa, xb, xc]
   refine tk 1 hS (h := ?_); simp only [Act.put, xa, xb, xc]
   refine tk 2 hS (h := ?_); simp only [Act.put, xa, xb, xc]
   refine tk 3 hS (h := ?_); simp only [Act.put, xa, xb, xc]
   refine tk 4 hS (h := ?_); simp only [Act.put, xa, xb, xc]
   refine tk 5 hS (h := ?_); simp only [Act.put, xa, xb, xc]
   refine tk 6 hS (h := ?_); simp only [Act.put, xa, xb, xc]
   refine tk 7 hS (h := ?_); simp only [Act.put, xa, xb, xc]
   refine ry [8] ?_
   refine cn (fun KK hK => ?_) ?_
   ·refine step_call2 (by rfl) 83 _ _ _ (by rfl) (ndV (.slice pp n1 a1) (.slice pv n2 a2) ow mo (.slice ph n3 a3) ep ge (.slice pu n4 a4)) (ndV (.slice qp n1 d1) (.slice qv n2 d2) ow mo (.slice qh n3 d3) ep ge (.slice qu n4 d4)) (by rfl) (by rfl) (fun _ => uh HCF _ _) (eqNode_n ow mo ep ge pp pv ph pu qp qv qh qu a1 a2 a3 a4 d1 d2 d3 d4 n1 n2 n3 n4 y.path y.value y.holders y.watchers e1 e2 e3 e4 _ ⟨(uh HA).1.below (Below.refl _ _).drew, (uh HA).2.1.below (Below.refl _ _).drew, (uh HA).2.2.1.below (Below.refl _ _).drew, (uh HA).2.2.2.below (Below.refl _ _).drew⟩ ⟨(uh HB).1.below (Below.refl _ _).drew, (uh HB).2.1.below (Below.refl _ _).drew, (uh HB).2.2.1.below (Below.refl _ _).drew, (uh HB).2.2.2.below (Below.refl _ _).drew⟩ m1 m2 m3 m4) ?_
    rintro r w2 ⟨rfl, hb2⟩
    refine ⟨_, rfl, ?_⟩
    have hb' : Below wr.heap.size wr w2 := Below.step (Below.refl wr.heap.size wr).drew hb2
    refine hK.out _ _ (by obtain ⟨k0, k1, k2, k3, k4, k5, k6, k7, k8, k9, k10, k11, k12, k13, k14, k15⟩ := uh K0; exact ⟨cell_below k0 hb', cell_below k1 hb', cell_below k2 hb', cell_below k3 hb', cell_below k4 hb', cell_below k5 hb', cell_below k6 hb', cell_below k7 hb', cell_below k8 hb', cell_below k9 hb', cell_below k10 hb', cell_below k11 hb', cell_below k12 hb', cell_below k13 hb', cell_below k14 hb', cell_below k15 hb'⟩) (fun hS => ?_)
    clear hK KK
    (try simp only [Act.put, xa, xb, xc])
    refine tk 9 hS (h := ?_); simp only [Act.put, xa, xb, xc]
    refine wpAnyH_done (by kernel_rfl) ?_ _
    refine NoPanic.normal ?_
    have b2 := Below.step hbr hb'
    clear hb2 hb' hS
    go_wp2
    go_roundw
    case rel => exact ⟨k + 1, by omega, by go_num, b2⟩
    case measure => simp [intOf]; omega
   exact AllReadyH.nil
  ·have hkl : ¬ (k : Int) < (n : Int) := by omega
   go_wp2
   go_ret
   exact ⟨rfl, hbr⟩
set_option maxHeartbeats 800000 in
theorem eqState_n (e g x t : Int) (p q p' q' : Option Addr) (c n d m c' d' : Nat) (ss : List Ses) (ns : List Nod) (en : Hid (ss.length = n)) (em : Hid (ns.length = m)) (w : World) (h : RdS w (.slice p n c) ss) (hN : RdN w (.slice q m d) ns) (h' : RdS w (.slice p' n c') ss) (hN' : RdN w (.slice q' m d') ns) (hn : n ≤ 1048576) (hm : m ≤ 1048576)
  (he1 : Hid (∀ y ∈ ss, y.2.2.length ≤ 1048576 ∧ ∀ e ∈ y.2.2, e.2.length ≤ 1048576)) (he2 : Hid (∀ y ∈ ns, y.path.length ≤ 1048576 ∧ y.value.length ≤ 1048576 ∧ y.holders.length ≤ 1048576 ∧ y.watchers.length ≤ 1048576)) :
  Calls Tryz.prog 9 #[stV e g x t (.slice p n c) (.slice q m d), stV e g x t (.slice p' n c') (.slice q' m d')] w fun r w' => r = .returned (.bool true) ∧ Below w.heap.size w w' := by
 obtain ⟨W, hW⟩ : ∃ W, W = ((w.alloc (.cells #[.int .u64 e, .int .u64 g, .int .u64 x, .int .i64 t, .slice p n c, .slice q m d] 27)).alloc (.cells #[.int .u64 e, .int .u64 g, .int .u64 x, .int .i64 t, .slice p' n c', .slice q' m d'] 27)) := ⟨_, rfl⟩
 have bW : Below w.heap.size w W := by rw [hW]; exact ((Below.refl _ _).alloc (Nat.le_refl _) _).alloc (by simp) _
 have HR := hide fun (w' : World) (hb : Below w.heap.size w w') => And.intro (And.intro (h.below hb) (hN.below hb)) (And.intro (h'.below hb) (hN'.below hb))
 clear h hN h' hN'
 have k5 : W.cell? ⟨w.heap.size, 5, none⟩ = some (.slice q m d) := by rw [hW]; simp
 have j5 : W.cell? ⟨w.heap.size + 1, 5, none⟩ = some (.slice q' m d') := by rw [hW]; simp
 have q1 : (e != e) = false := by simp
 have q2 : (g != g) = false := by simp
 have q3 : (x != x) = false := by simp
 have q4 : (t != t) = false := by simp
 go_enter Tryz.func9, Tryz.ntmps9
 go_wp2_with fail
 rw [← hW]
 clear hW
 refine (eqSessionS_n p p' c c' n ss en _ (uh HR _ bW).1.1 (uh HR _ bW).2.1 hn he1).mono ?_
 rintro r w1 ⟨rfl, hb1⟩
 have b1 := Below.step bW hb1
 replace k5 := cell_below k5 hb1
 replace j5 := cell_below j5 hb1
 go_wp2_with fail
 refine (eqNodeS_n q q' d d' m ns em _ (uh HR _ b1).1.2 (uh HR _ b1).2.2 hm he2).mono ?_
 rintro r w2 ⟨rfl, hb2⟩
 have b2 := Below.step b1 hb2
 clear k5 j5
 go_wp2
 go_ret
 exact ⟨rfl, b2⟩
end Go.Proofs.YtnbgnhhnpmmloaaGreatDoor

