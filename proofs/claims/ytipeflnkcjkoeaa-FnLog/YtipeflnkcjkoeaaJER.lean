import Derived.Test.YtipeflnkcjkoeaaJSm
namespace Go.Proofs.Ytipeflnkcjkoeaa
open Go.ChangeShapes Go.WideShapes Go.ChangeAt Go.RowKit
set_option linter.unusedVariables false
set_option linter.unusedSimpArgs false

set_option maxHeartbeats 800000 in
theorem implEncRec_long (s : Int) (p : Option Addr) (c n : Nat) (w : World) (hl : 1000 < n) :
    Calls Try.prog 22 #[recV s (.slice p n c)] w fun e w' => e = .returned (.slice none 0 0) ∧ Below w.heap.size w w' := by
  have hl' : (1000 : Int) < (n : Int) := by omega
  go_enter Try.func22, Try.ntmps22
  go_wp2
  go_ret
  exact ⟨rfl, (Below.refl _ _).alloc (Nat.le_refl _) _⟩

set_option maxHeartbeats 800000 in
theorem specEncRec_long (s : Int) (p : Option Addr) (c n : Nat) (w : World) (hl : 1000 < n) :
    Calls Try.prog 20 #[recV s (.slice p n c)] w fun e w' => e = .returned (.slice none 0 0) ∧ Below w.heap.size w w' := by
  have hl' : (1000 : Int) < (n : Int) := by omega
  go_enter Try.func20, Try.ntmps20
  go_wp2
  go_ret
  exact ⟨rfl, (Below.refl _ _).alloc (Nat.le_refl _) _⟩

set_option maxHeartbeats 800000 in
theorem implEncRec (s : Int) (p : Option Addr) (c n : Nat) (l : List Int) (en : Hid (l.length = n)) (w : World) (h : Rd w (.slice p n c) l) (hb : Byt l) (hl : n ≤ 1000) (s0 : 0 ≤ s) (s1 : s < 18446744073709551616) :
    Calls Try.prog 22 #[recV s (.slice p n c)] w fun e w' => ∃ p' c', e = .returned (.slice p' (n + 14) c') ∧ Own w.heap.size w' (.slice p' (n + 14) c') (recB s l) ∧ Below w.heap.size w w' := by
  have hl' : ¬ (1000 : Int) < (n : Int) := by omega
  go_enter Try.func22, Try.ntmps22
  go_wp2_with fail
  obtain ⟨W, hW⟩ : ∃ W, W = w.alloc (.cells #[.int .u64 s, .slice p n c] 38) := ⟨_, rfl⟩
  have bW : Below w.heap.size w W := by rw [hW]; exact (Below.refl _ _).alloc (Nat.le_refl _) _
  have k0 : W.cell? ⟨w.heap.size, 0, none⟩ = some (.int .u64 s) := by rw [hW]; simp
  have k1 : W.cell? ⟨w.heap.size, 1, none⟩ = some (.slice p n c) := by rw [hW]; simp
  rw [← hW]
  clear hW
  refine (lowFirst_any 2 n _ (by omega) (by omega) (by omega)).mono ?_
  rintro e w1 ⟨p1, c1, rfl, o1, hb1⟩
  have b1 := Below.step bW hb1
  have j0 := cell_below k0 hb1
  have j1 := cell_below k1 hb1
  have r0 := h.below b1
  have r1 := o1.rd
  have enn := unhide en
  have HB := hide hb
  clear h hb1 bW k0 k1 o1 hb
  go_wp2_with fail
  go_region_held3 (fun w' => w'.cell? ⟨w.heap.size, 0, none⟩ = some (.int .u64 s) ∧ w'.cell? ⟨w.heap.size, 1, none⟩ = some (.slice p n c)) (first | with_reducible exact ⟨j0, j1⟩ | with_reducible exact ⟨i0, i1⟩ | with_reducible exact ⟨g0, g1⟩ | with_reducible exact ⟨f0, f1⟩ | go_keep)
    (first
      | (go_at_call 36; refine (lowFirst_any 8 s _ (by omega) s0 s1).mono ?_; rintro e w2 ⟨p2, c2, rfl, o2, hb2⟩; have b2 : Below w1.heap.size w1 w2 := (by first | exact hb2 | exact Below.step (Below.refl w1.heap.size w1).drew hb2); have i0 := cell_below j0 b2; have i1 := cell_below j1 b2)
      | (go_at_call 38; refine (joined_any w2.heap.size [.slice p1 2 c1, .slice p2 8 c2, .slice p n c] [le n 2, le s 8, l] (recHead s l) (n + 10) 3 rfl (by show _ = _; rw [cat3, recHead, unhide en]) (by show _ = _; rw [recHead_length, unhide en]) _ (parts3 (by simp) (by simp) (by simp) ((r1.below b2).below ((Below.refl _ _).alloc (Nat.le_refl _) _)) (o2.rd.below ((Below.refl _ _).alloc (Nat.le_refl _) _)) ((r0.below b2).below ((Below.refl _ _).alloc (Nat.le_refl _) _))) (by omega) (by omega)).mono ?_; rintro e w3 ⟨p3, c3, rfl, o3, hb3⟩; have b3 := Below.step ((Below.refl _ _).alloc (Nat.le_refl w2.heap.size) _) hb3; have g0 := cell_below i0 b3; have g1 := cell_below i1 b3)
      | (go_at_call 37; refine (withCk_any p3 c3 (n + 10) (recHead s l) (by show _ = _; rw [recHead_length, unhide en]) _ (by exact o3.rd) (recHead_byt (unhide HB)) (by omega)).mono ?_; rintro e w4 ⟨p4, c4, rfl, o4, hb4⟩; have f0 := cell_below g0 hb4; have f1 := cell_below g1 hb4))
  have b4 := Below.step (Below.step (Below.step b1 b2) b3) hb4
  have o5 : Own w.heap.size w4 (.slice p4 (n + 14) c4) (recB s l) := Own.mono o4 (by have := (Below.step (Below.step b1 b2) b3).size; omega)
  clear b1 b2 b3 hb4 hb3 hb2 o4 o3 o2 r0 r1 j0 j1 i0 i1 g0 g1
  go_wp2
  go_ret
  exact ⟨p4, c4, rfl, o5, b4⟩

set_option maxHeartbeats 800000 in
theorem specEncRec (s : Int) (p : Option Addr) (c n : Nat) (l : List Int) (en : Hid (l.length = n)) (w : World) (h : Rd w (.slice p n c) l) (hb : Byt l) (hl : n ≤ 1000) (s0 : 0 ≤ s) (s1 : s < 18446744073709551616) :
    Calls Try.prog 20 #[recV s (.slice p n c)] w fun e w' => ∃ p' c', e = .returned (.slice p' (n + 14) c') ∧ Own w.heap.size w' (.slice p' (n + 14) c') (recB s l) ∧ Below w.heap.size w w' := by
  have hl' : ¬ (1000 : Int) < (n : Int) := by omega
  go_enter Try.func20, Try.ntmps20
  go_wp2_with fail
  obtain ⟨W, hW⟩ : ∃ W, W = w.alloc (.cells #[.int .u64 s, .slice p n c] 38) := ⟨_, rfl⟩
  have bW : Below w.heap.size w W := by rw [hW]; exact (Below.refl _ _).alloc (Nat.le_refl _) _
  have k0 : W.cell? ⟨w.heap.size, 0, none⟩ = some (.int .u64 s) := by rw [hW]; simp
  have k1 : W.cell? ⟨w.heap.size, 1, none⟩ = some (.slice p n c) := by rw [hW]; simp
  have zW : w.heap.size < W.heap.size := by rw [hW]; simp
  rw [← hW]
  clear hW
  refine (little_any 2 n _ (by omega) (by omega) (by omega)).mono ?_
  rintro e w1 ⟨p1, c1, rfl, o1, hb1⟩
  have b1 := Below.step bW hb1
  have j0 := cell_below k0 hb1
  have j1 := cell_below k1 hb1
  have r0 := h.below b1
  have enn := unhide en
  have HB := hide hb
  have HH := hide h
  have z1 := hb1.size
  clear h hb1 bW k0 k1 hb
  go_wp2_with fail
  refine (little_any 8 s _ (by omega) s0 s1).mono ?_
  rintro e w2 ⟨p2, c2, rfl, o2, hb2⟩
  have b2 := Below.step b1 hb2
  have i0 := cell_below j0 hb2
  have i1 := cell_below j1 hb2
  have r2 := r0.below hb2
  have o1' := Own.below o1 hb2
  have ro2 := o2.rd
  have z2 := hb2.size
  have el : (le (↑n) 2 ++ le s 8).length = 10 := by simp [le_length]
  clear hb2 b1 j0 j1 r0 o1 o2
  go_wp2_with (at_builtin; refine wpList_append_rdn rfl _ _ rfl W.heap.size (.slice p1 2 c1) (le n 2) (le s 8) (le n 2 ++ le s 8) (by show _ = _; rfl) p2 c2 8 (by show _ = _; exact le_length _ _) rfl rfl o1' ro2 (by rw [le_length, le_length]; omega) (by omega) ?_)
  intro p3 c3 w3 o3 hg3
  have b3 := below_grown b2 hg3 o1' (by omega) (by omega)
  have g0 := (Below.refl W.heap.size w2).grown hg3 (by omega) (fun k e => (o1'.lt k e).1)
  have f0 := (g0.cell (p := ⟨w.heap.size, 0, none⟩) zW).trans i0
  have f1 := (g0.cell (p := ⟨w.heap.size, 1, none⟩) zW).trans i1
  have r3 : Rd w3 (.slice p n c) l := (unhide HH).below b3
  have z3 := g0.size
  clear b2 hg3 o1' ro2 i0 i1 r2 g0
  have el2 : (recHead s l).length = n + 10 := by rw [recHead_length, unhide en]
  go_wp2_with (at_builtin; refine wpList_append_rdn rfl _ _ rfl W.heap.size (.slice p3 10 c3) (le n 2 ++ le s 8) l (recHead s l) (by show _ = _; rw [recHead, unhide en]) p c n en rfl rfl o3 r3 (by rw [el]; omega) (by omega) ?_)
  intro p4 c4 w4 o4 hg4
  have b4 := below_grown b3 hg4 o3 (by omega) (by omega)
  have z4 := hg4.size
  clear b3 hg4 r3 f0 f1 o3
  go_wp2_with fail
  refine (summed_any p4 c4 (n + 10) (recHead s l) (by show _ = _; exact el2) _ o4.rd (recHead_byt (unhide HB)) (by omega)).mono ?_
  rintro e w5 ⟨p5, c5, rfl, o5, hb5⟩
  have b5 := Below.step b4 hb5
  have o6 : Own w.heap.size w5 (.slice p5 (n + 14) c5) (recB s l) := Own.mono o5 (by omega)
  clear b4 hb5 o5 o4
  go_wp2
  go_ret
  exact ⟨p5, c5, rfl, o6, b5⟩
end Go.Proofs.Ytipeflnkcjkoeaa
