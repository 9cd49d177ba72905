import Derived.Test.YtnbgnhhnpmmloaaGreatDoorK16
import Derived.Test.YtnbgnhhnpmmloaaGreatDoorK46
namespace Go.Proofs.YtnbgnhhnpmmloaaGreatDoor
open Go.ChangeShapes Go.WideShapes Go.ChangeAt Go.RowKit
set_option linter.unusedVariables false
set_option linter.unusedSimpArgs false
set_option maxRecDepth 100000
set_option maxHeartbeats 3200000 in
theorem heldNodeS_lv (p : Option Addr) (c n : Nat) (xs : List Nod) (A : List Lf) (k : Int) (w : World) (h : LvN w (.slice p n c) xs A) (hA : HeldAt w A k) (k0 : 0 ≤ k) (k1 : k + A.length ≤ 100000000) :
  Calls Tryz.prog 47 #[.slice p n c, .int .i64 k] w fun e w' => e = .returned (.int .i64 (k + A.length)) ∧ Below w.heap.size w w' := by
 have hnA := h.len (fun x b a l hl => hl.pos)
 obtain ⟨Ls, en, lL, eA, hat⟩ := h.at
 have HAT := hide hat
 have HA := hide (show HeldAt w Ls.flatten k by rw [← eA]; exact hA)
 have EA := hide eA
 have K1 : k + (Ls.flatten.length : Int) ≤ 100000000 := by rw [← eA]; exact k1
 have hn : n ≤ 100000000 := by omega
 have LL := hide lL
 clear h hat hA eA en lL hnA
 go_enter Tryz.func47, Tryz.ntmps47
 go_wp2
 go_loopw [1, 5] (fun kk i wr => ∃ j : Nat, j ≤ n ∧ i = .int .i64 j ∧ kk = .int .i64 (k + (((Ls.take j).flatten.length : Nat) : Int)) ∧ Below w.heap.size w wr) (fun _ i _ => n - (intOf i).toNat)
 case atStart => exact ⟨0, Nat.zero_le _, rfl, by simp, Below.refl _ _⟩
 case round =>
  obtain ⟨j, hj, rfl, rfl, hbr⟩ := hrel
  have hle := flatten_take_le Ls j
  by_cases hlt : j < n
  ·have hlt' : (j : Int) < (n : Int) := by omega
   obtain ⟨b, o, x, l, rfl, hx, hl, hP, hfl, hsub⟩ := uh HAT j hlt
   have hh := ((uh HA).flat hfl).below hbr
   have hTl : (Ls.take (j + 1)).flatten.length = (Ls.take j).flatten.length + l.length := by rw [hfl, List.length_append]
   have hle1 : k + ((Ls.take j).flatten.length : Int) + (l.length : Int) ≤ 100000000 := by
    have := flatten_take_le Ls (j + 1)
    omega
   have HT := hide hTl
   generalize hT : (Ls.take j).flatten.length = T at *
   clear hT hx hl hfl hsub hTl
   have hT0 : 0 ≤ k + (T : Int) := by omega
   have hP' := hP.below hbr
   obtain ⟨p0, c0, p1, c1, p4, c4, p7, c7, l0, l1, l4, l7, rfl, ⟨h1, h2⟩, ⟨h3, h4⟩, ⟨h5, h6⟩, ⟨h7, h8⟩⟩ := hP'
   have HD := hide (And.intro h1 (And.intro h3 (And.intro h5 h7)))
   have HLV := hide (And.intro h2 (And.intro h4 (And.intro h6 h8)))
   clear h1 h2 h3 h4 h5 h6 h7 h8
   have hlen : k + (T : Int) + (4 + (l0.length : Int) + (l1.length : Int) + (l4.length : Int) + (l7.length : Int)) ≤ 100000000 := by simp only [List.length_append, List.length_cons] at hle1; omega
   clear hle1 hP
   have s0 : HeldAt wr l0 (k + (T : Int)) := (HeldAt.app hh).1
   have t0 := (HeldAt.app hh).2
   have s1 : HeldAt wr l1 (k + (T : Int) + (l0.length : Int)) := (HeldAt.app t0).1
   have t1 := (HeldAt.app t0).2
   have hc2 : wr.cell? ⟨b, o + j * 8 + 2, none⟩ = some (.int .u64 (k + (T : Int) + (l0.length : Int) + (l1.length : Int))) := (HeldAt.cons t1).1
   have t2 := (HeldAt.cons t1).2
   have hc3 : wr.cell? ⟨b, o + j * 8 + 3, none⟩ = some (.int .i64 (k + (T : Int) + (l0.length : Int) + (l1.length : Int) + 1)) := (HeldAt.cons t2).1
   have t3 := (HeldAt.cons t2).2
   have s4 : HeldAt wr l4 (k + (T : Int) + (l0.length : Int) + (l1.length : Int) + 1 + 1) := (HeldAt.app t3).1
   have t4 := (HeldAt.app t3).2
   have hc5 : wr.cell? ⟨b, o + j * 8 + 5, none⟩ = some (.int .u64 (k + (T : Int) + (l0.length : Int) + (l1.length : Int) + 1 + 1 + (l4.length : Int))) := (HeldAt.cons t4).1
   have t5 := (HeldAt.cons t4).2
   have hc6 : wr.cell? ⟨b, o + j * 8 + 6, none⟩ = some (.int .u64 (k + (T : Int) + (l0.length : Int) + (l1.length : Int) + 1 + 1 + (l4.length : Int) + 1)) := (HeldAt.cons t5).1
   have t6 := (HeldAt.cons t5).2
   have s7 : HeldAt wr l7 (k + (T : Int) + (l0.length : Int) + (l1.length : Int) + 1 + 1 + (l4.length : Int) + 1 + 1) := t6
   have HS := hide (And.intro s0 (And.intro s1 (And.intro s4 (s7))))
   have HCC := hide (And.intro hc2 (And.intro hc3 (And.intro hc5 (hc6))))
   have W0 := hide (Below.refl wr.heap.size wr)
   clear hh t2 t3 t5 t6 t0 t1 t4 s0 s1 s4 s7 hc2 hc3 hc5 hc6
   have hd0 := cell_below (uh HD).1 (uh W0)
   go_wp2_with fail
   clear hd0
   refine (heldByteS_lv p0 c0 x.path.length (x.path) l0 (k + (T : Int)) _ (uh HLV).1 ((uh HS).1.below (uh W0)) (by omega) (by omega)).mono ?_
   rintro e v0 ⟨rfl, N0⟩
   have BV0 := hide (Below.step (uh W0) N0)
   have hpos0 : ¬ k + (T : Int) + (l0.length : Int) < 0 := by omega
   clear N0
   have hd1 := cell_below (uh HD).2.1 (uh BV0)
   go_wp2_with fail
   clear hd1
   refine (heldByteS_lv p1 c1 x.value.length (x.value) l1 (k + (T : Int) + (l0.length : Int)) _ (uh HLV).2.1 ((uh HS).2.1.below (uh BV0)) (by omega) (by omega)).mono ?_
   rintro e v1 ⟨rfl, N1⟩
   have BV1 := hide (Below.step (uh BV0) N1)
   have hpos1 : ¬ k + (T : Int) + (l0.length : Int) + (l1.length : Int) < 0 := by omega
   clear N1
   have hc2 := cell_below (uh HCC).1 (uh BV1)
   have hne2 : ((k + (T : Int) + (l0.length : Int) + (l1.length : Int)) != (k + (T : Int) + (l0.length : Int) + (l1.length : Int))) = false := by simp
   have hc3 := cell_below (uh HCC).2.1 (uh BV1)
   have hne3 : ((k + (T : Int) + (l0.length : Int) + (l1.length : Int) + 1) != (k + (T : Int) + (l0.length : Int) + (l1.length : Int) + 1)) = false := by simp
   have hd4 := cell_below (uh HD).2.2.1 (uh BV1)
   go_wp2_with fail
   clear hc2 hne2 hc3 hne3 hd4
   refine (heldUint64S_lv p4 c4 x.holders.length (x.holders) l4 (k + (T : Int) + (l0.length : Int) + (l1.length : Int) + 1 + 1) _ (uh HLV).2.2.1 ((uh HS).2.2.1.below (uh BV1)) (by omega) (by omega)).mono ?_
   rintro e v2 ⟨rfl, N2⟩
   have BV2 := hide (Below.step (uh BV1) N2)
   have hpos2 : ¬ k + (T : Int) + (l0.length : Int) + (l1.length : Int) + 1 + 1 + (l4.length : Int) < 0 := by omega
   clear N2
   have hc5 := cell_below (uh HCC).2.2.1 (uh BV2)
   have hne5 : ((k + (T : Int) + (l0.length : Int) + (l1.length : Int) + 1 + 1 + (l4.length : Int)) != (k + (T : Int) + (l0.length : Int) + (l1.length : Int) + 1 + 1 + (l4.length : Int))) = false := by simp
   have hc6 := cell_below (uh HCC).2.2.2 (uh BV2)
   have hne6 : ((k + (T : Int) + (l0.length : Int) + (l1.length : Int) + 1 + 1 + (l4.length : Int) + 1) != (k + (T : Int) + (l0.length : Int) + (l1.length : Int) + 1 + 1 + (l4.length : Int) + 1)) = false := by simp
   have hd7 := cell_below (uh HD).2.2.2 (uh BV2)
   go_wp2_with fail
   clear hc5 hne5 hc6 hne6 hd7
   refine (heldUint64S_lv p7 c7 x.watchers.length (x.watchers) l7 (k + (T : Int) + (l0.length : Int) + (l1.length : Int) + 1 + 1 + (l4.length : Int) + 1 + 1) _ (uh HLV).2.2.2 ((uh HS).2.2.2.below (uh BV2)) (by omega) (by omega)).mono ?_
   rintro e v3 ⟨rfl, N3⟩
   have BV3 := hide (Below.step (uh BV2) N3)
   have hpos3 : ¬ k + (T : Int) + (l0.length : Int) + (l1.length : Int) + 1 + 1 + (l4.length : Int) + 1 + 1 + (l7.length : Int) < 0 := by omega
   clear N3
   have b1 := Below.step hbr (uh BV3)
   clear hbr
   go_wp2
   go_roundw
   case rel => exact ⟨j + 1, by omega, by go_num, by rw [uh HT]; first | go_num | (simp; omega) | (congr 1; simp; omega), by first | exact b1 | exact below_drewN b1 _⟩
   case measure => simp [intOf]; omega
  ·have e : j = n := by omega
   subst e
   have e2 : (Ls.take j).flatten = A := by rw [← uh LL, List.take_length]; exact (uh EA).symm
   rw [e2]
   clear hle HAT HA
   go_wp2
   go_ret
   exact ⟨rfl, hbr⟩
end Go.Proofs.YtnbgnhhnpmmloaaGreatDoor
