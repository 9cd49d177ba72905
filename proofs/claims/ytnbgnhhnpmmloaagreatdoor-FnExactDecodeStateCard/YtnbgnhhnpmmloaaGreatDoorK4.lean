import Derived.Test.YtnbgnhhnpmmloaaGreatDoorK3
import Derived.Test.YtnbgnhhnpmmloaaGreatDoorK2
import Derived.Deep.DeepCutAuto
import Derived.Test.YtnbgnhhnpmmloaaGreatDoorK1
import Derived.Lib.EndianBits
import Derived.Laws.Closers25b
namespace Go.Proofs.YtnbgnhhnpmmloaaGreatDoor
open Go.ChangeShapes Go.WideShapes Go.ChangeAt Go.RowKit
set_option linter.unusedVariables false
set_option linter.unusedSimpArgs false
set_option maxRecDepth 100000
abbrev St6 (w : World) (b : Nat) (e g x t : Int) (S N : Value) : Prop := w.cell? ⟨b, 0, none⟩ = some (.int .u64 e) ∧ w.cell? ⟨b, 1, none⟩ = some (.int .u64 g) ∧ w.cell? ⟨b, 2, none⟩ = some (.int .u64 x) ∧ w.cell? ⟨b, 3, none⟩ = some (.int .i64 t) ∧ w.cell? ⟨b, 4, none⟩ = some S ∧ w.cell? ⟨b, 5, none⟩ = some N
theorem St6.below {w w' : World} {b : Nat} {e g x t : Int} {S N : Value} (h : St6 w b e g x t S N) (hb : Below w.heap.size w w') : St6 w' b e g x t S N :=
 ⟨cell_below h.1 hb, cell_below h.2.1 hb, cell_below h.2.2.1 hb, cell_below h.2.2.2.1 hb, cell_below h.2.2.2.2.1 hb, cell_below h.2.2.2.2.2 hb⟩
set_option maxHeartbeats 1600000 in
theorem l3idsOK_any (e g x t : Int) (p q : Option Addr) (c n d m : Nat) (N : Value) (ss : List Ses) (ids : List Int) (en : Hid (ss.length = n)) (em : Hid (ids.length = m)) (w : World) (h : RdS w (.slice p n c) ss) (hi : RdU w (.slice q m d) ids) (hn : n ≤ 1048576) (hm : m ≤ 1048576) (B : Bool) (eB : Hid (idsOK ss ids = B)) :
  Calls Tryz.prog 116 #[stV e g x t (.slice p n c) N, .slice q m d] w fun r w' => r = .returned (.bool B) ∧ Below w.heap.size w w' := by
 have HR := hide fun (w' : World) (hb : Below w.heap.size w w') => And.intro (h.below hb) (hi.below hb)
 have hcf : ∀ (vs : Array Value) (w : World), (callFunc 115 vs).run Tryz.prog w = .ok (.enter 115 vs) w := fun vs w => by kernel_rfl
 have HCF := hide hcf
 clear h hi hcf
 go_enter Tryz.func116, Tryz.ntmps116
 go_wp2_with fail
 obtain ⟨W, hW⟩ : ∃ W, W = (w.alloc (.cells #[.int .u64 e, .int .u64 g, .int .u64 x, .int .i64 t, .slice p n c, N] 27)) := ⟨_, rfl⟩
 have bW : Below w.heap.size w W := by rw [hW]; exact (Below.refl _ _).alloc (Nat.le_refl _) _
 have hc6 : St6 W w.heap.size e g x t (.slice p n c) N := by rw [hW]; simp [St6]
 rw [← hW]
 clear hW
 have BW := hide bW
 have HC6 := hide hc6
 clear bW hc6
 go_loopw [5] (fun iv wr => ∃ k : Nat, k ≤ m ∧ iv = .int .i64 k ∧ Hid ((List.range k).all (idAt ss ids) = true) ∧ Below W.heap.size W wr) (fun iv _ => m - (intOf iv).toNat)
 case atStart => exact ⟨0, Nat.zero_le _, rfl, (by show _ = _; rfl), Below.refl _ _⟩
 case round =>
  obtain ⟨k, hk, rfl, hok, hbr⟩ := hrel
  have BB := Below.step (uh BW) hbr
  by_cases hlt : k < m
  ·have hlt' : (k : Int) < (m : Int) := by omega
   have hkl : k < ids.length := by rw [uh em]; exact hlt
   obtain ⟨hS, hU⟩ := uh HR _ BB
   obtain ⟨b, o, rfl, hcell⟩ : ∃ b o, q = some ⟨b, o, none⟩ ∧ ∀ i, i < m → wr.cell? ⟨b, o + i, none⟩ = some (.int .u64 (ids.getD i 0)) := by
    obtain ⟨p', c', ev, hd⟩ := hU
    simp only [Value.slice.injEq] at ev
    obtain ⟨rfl, -, -⟩ := ev
    rcases hd with h0 | ⟨b, o, h1, h2⟩
    ·rw [h0] at hkl; simp at hkl
    ·exact ⟨b, o, h1, fun i hi => h2 i (by rw [uh em]; exact hi)⟩
   have i6 := (uh HC6).below hbr
   have hcx := hcell k hlt
   obtain ⟨y, ey⟩ : ∃ y, ids.getD k 0 = y := ⟨_, rfl⟩
   rw [ey] at hcx
   have HSS := hide hS
   obtain ⟨L, eL⟩ : ∃ L, live ss y = L := ⟨_, rfl⟩
   have EL : Hid ((ss.any fun s => s.1 == y) = L) := eL
   have hat : idAt ss ids k = (L && (k == 0 || decide (ids.getD (k - 1) 0 < y))) := by rw [idAt, ey, eL]
   have hF : idAt ss ids k = false → B = false := fun h => by rw [← uh eB, idsOK, uh em]; exact range_all_no hlt h
   clear hS hU hkl
   cases L with
   | false =>
    have eF := hF (by rw [hat]; rfl)
    subst eF
    have K0 := hide (And.intro i6 hcx)
    clear hat hF eL hcell ey i6 hcx
    go_wp2_with fail
    refine wp_region_noPanic ?_
    refine wp_region_held_drew (S := fun w' => St6 w' w.heap.size e g x t (.slice p n c) N ∧ w'.cell? ⟨b, o + k, none⟩ = some (.int .u64 y)) (by kernel_rfl) (by exact uh K0) (fun hS => ?_)
    refine tk 0 hS (h := ?_); simp only [Act.put, xa, xb, xc]
    refine tk 1 hS (h := ?_); simp only [Act.put, xa, xb, xc]
    refine tk 2 hS (h := ?_); simp only [Act.put, xa, xb, xc]
    refine tk 3 hS (h := ?_); simp only [Act.put, xa, xb, xc]
    refine tk 4 hS (h := ?_); simp only [Act.put, xa, xb, xc]
    refine ry [5] ?_
    refine cn (fun KK hK => ?_) ?_
    ·refine step_call2 (by rfl) 115 _ _ _ (by rfl) (stV e g x t (.slice p n c) N) (.int .u64 y) (by rfl) (by rfl) (fun _ => uh HCF _ _) (l3live_any e g x t p c n N ss en _ ((uh HSS).below (Below.refl _ _).drew) hn y false EL) ?_
     rintro r w2 ⟨rfl, hb2⟩
     refine ⟨_, rfl, ?_⟩
     have hb' : Below wr.heap.size wr w2 := Below.step (Below.refl wr.heap.size wr).drew hb2
     refine hK.out _ _ ⟨(uh K0).1.below hb', cell_below (uh K0).2 hb'⟩ (fun hS => ?_)
     clear hK KK
     (try simp only [Act.put, xa, xb, xc])
     refine tk 6 hS (h := ?_); simp only [Act.put, xa, xb, xc]
     refine tk 7 hS (h := ?_); simp only [Act.put, xa, xb, xc]
     refine sk 8 hS (h := ?_); simp only [Act.put, xa, xb, xc]
     refine sk 9 hS (h := ?_); simp only [Act.put, xa, xb, xc]
     refine sk 10 hS (h := ?_); simp only [Act.put, xa, xb, xc]
     refine sk 11 hS (h := ?_); simp only [Act.put, xa, xb, xc]
     refine sk 12 hS (h := ?_); simp only [Act.put, xa, xb, xc]
     refine sk 13 hS (h := ?_); simp only [Act.put, xa, xb, xc]
     refine sk 14 hS (h := ?_); simp only [Act.put, xa, xb, xc]
     refine sk 15 hS (h := ?_); simp only [Act.put, xa, xb, xc]
     refine sk 16 hS (h := ?_); simp only [Act.put, xa, xb, xc]
     refine sk 17 hS (h := ?_); simp only [Act.put, xa, xb, xc]
     refine sk 18 hS (h := ?_); simp only [Act.put, xa, xb, xc]
     refine sk 19 hS (h := ?_); simp only [Act.put, xa, xb, xc]
     refine sk 20 hS (h := ?_); simp only [Act.put, xa, xb, xc]
     refine sk 21 hS (h := ?_); simp only [Act.put, xa, xb, xc]
     refine tk 22 hS (h := ?_); simp only [Act.put, xa, xb, xc]
     refine wpAnyH_done (by kernel_rfl) ?_ _
     refine NoPanic.normal ?_
     have b2 := Below.step BB hb'
     clear hb2 hb' hS
     go_wp2
     go_ret
     exact ⟨rfl, b2⟩
    exact AllReadyH.nil
   | true =>
    by_cases hk0 : k = 0
    ·have HOK : Hid ((List.range (k + 1)).all (idAt ss ids) = true) := range_all_step (uh hok) (by rw [hat, hk0]; rfl)
     have HK0 := hide hk0
     have hp : ¬ 0 < k := by omega
     have hp' : ¬ (0 : Int) < (k : Int) := by omega
     have K0 := hide (And.intro i6 hcx)
     clear hat hF eL hcell ey hk0 i6 hcx
     go_wp2_with fail
     refine wp_region_noPanic ?_
     refine wp_region_held_drew (S := fun w' => St6 w' w.heap.size e g x t (.slice p n c) N ∧ w'.cell? ⟨b, o + k, none⟩ = some (.int .u64 y)) (by kernel_rfl) (by exact uh K0) (fun hS => ?_)
     refine tk 0 hS (h := ?_); simp only [Act.put, xa, xb, xc]
     refine tk 1 hS (h := ?_); simp only [Act.put, xa, xb, xc]
     refine tk 2 hS (h := ?_); simp only [Act.put, xa, xb, xc]
     refine tk 3 hS (h := ?_); simp only [Act.put, xa, xb, xc]
     refine tk 4 hS (h := ?_); simp only [Act.put, xa, xb, xc]
     refine ry [5] ?_
     refine cn (fun KK hK => ?_) ?_
     ·refine step_call2 (by rfl) 115 _ _ _ (by rfl) (stV e g x t (.slice p n c) N) (.int .u64 y) (by rfl) (by rfl) (fun _ => uh HCF _ _) (l3live_any e g x t p c n N ss en _ ((uh HSS).below (Below.refl _ _).drew) hn y true EL) ?_
      rintro r w2 ⟨rfl, hb2⟩
      refine ⟨_, rfl, ?_⟩
      have hb' : Below wr.heap.size wr w2 := Below.step (Below.refl wr.heap.size wr).drew hb2
      refine hK.out _ _ ⟨(uh K0).1.below hb', cell_below (uh K0).2 hb'⟩ (fun hS => ?_)
      clear hK KK
      (try simp only [Act.put, xa, xb, xc])
      refine tk 6 hS (h := ?_); simp only [Act.put, xa, xb, xc]
      refine tk 7 hS (h := ?_); simp only [Act.put, xa, xb, xc]
      refine tk 8 hS (h := ?_); simp only [Act.put, xa, xb, xc]
      refine tk 9 hS (h := ?_); simp only [Act.put, xa, xb, xc]
      refine tk 10 hS (h := ?_); simp only [Act.put, xa, xb, xc]
      refine sk 11 hS (h := ?_); simp only [Act.put, xa, xb, xc]
      refine sk 12 hS (h := ?_); simp only [Act.put, xa, xb, xc]
      refine sk 13 hS (h := ?_); simp only [Act.put, xa, xb, xc]
      refine sk 14 hS (h := ?_); simp only [Act.put, xa, xb, xc]
      refine sk 15 hS (h := ?_); simp only [Act.put, xa, xb, xc]
      refine sk 16 hS (h := ?_); simp only [Act.put, xa, xb, xc]
      refine sk 17 hS (h := ?_); simp only [Act.put, xa, xb, xc]
      refine sk 18 hS (h := ?_); simp only [Act.put, xa, xb, xc]
      refine sk 19 hS (h := ?_); simp only [Act.put, xa, xb, xc]
      refine sk 20 hS (h := ?_); simp only [Act.put, xa, xb, xc]
      refine tk 21 hS (h := ?_); simp only [Act.put, xa, xb, xc]
      refine tk 22 hS (h := ?_); simp only [Act.put, xa, xb, xc]
      refine wpAnyH_done (by kernel_rfl) ?_ _
      refine NoPanic.normal ?_
      have b2 := Below.step hbr hb'
      clear hb2 hb' hS
      go_wp2
      go_roundw
      case rel => exact ⟨k + 1, by omega, by go_num, HOK, b2⟩
      case measure => simp [intOf]; omega
     exact AllReadyH.nil
    ·obtain ⟨j, ej⟩ : ∃ j : Nat, (k : Int) - 1 = (j : Int) := ⟨k - 1, by omega⟩
     have ej0 : k - 1 = j := by omega
     have hcz := hcell j (by omega)
     obtain ⟨z, ez⟩ : ∃ z, ids.getD j 0 = z := ⟨_, rfl⟩
     rw [ez] at hcz
     rw [ej0, ez] at hat
     have hp : 0 < k := by omega
     have hp' : (0 : Int) < (k : Int) := by omega
     have hjm : (j : Int) < (m : Int) := by omega
     have hj0 : (0 : Int) ≤ (j : Int) := by omega
     have wj : IntKind.i64.wrap (j : Int) = (j : Int) := IntWalk.i64_in _ (by omega)
     by_cases hzy : z < y
     ·have hle : ¬ y ≤ z := by omega
      have hled : decide (y ≤ z) = false := by simp; omega
      have HOK : Hid ((List.range (k + 1)).all (idAt ss ids) = true) := range_all_step (uh hok) (by rw [hat]; simp [hzy])
      clear hzy
      have K0 := hide (And.intro i6 (And.intro hcx hcz))
      clear hat hF eL hcell ey ez hk0 i6 hcx hcz ej0
      go_wp2_with fail
      refine wp_region_noPanic ?_
      refine wp_region_held_drew (S := fun w' => St6 w' w.heap.size e g x t (.slice p n c) N ∧ w'.cell? ⟨b, o + k, none⟩ = some (.int .u64 y) ∧ w'.cell? ⟨b, o + j, none⟩ = some (.int .u64 z)) (by kernel_rfl) (by exact uh K0) (fun hS => ?_)
      refine tk 0 hS (h := ?_); simp only [Act.put, xa, xb, xc]
      refine tk 1 hS (h := ?_); simp only [Act.put, xa, xb, xc]
      refine tk 2 hS (h := ?_); simp only [Act.put, xa, xb, xc]
      refine tk 3 hS (h := ?_); simp only [Act.put, xa, xb, xc]
      refine tk 4 hS (h := ?_); simp only [Act.put, xa, xb, xc]
      refine ry [5] ?_
      refine cn (fun KK hK => ?_) ?_
      ·refine step_call2 (by rfl) 115 _ _ _ (by rfl) (stV e g x t (.slice p n c) N) (.int .u64 y) (by rfl) (by rfl) (fun _ => uh HCF _ _) (l3live_any e g x t p c n N ss en _ ((uh HSS).below (Below.refl _ _).drew) hn y true EL) ?_
       rintro r w2 ⟨rfl, hb2⟩
       refine ⟨_, rfl, ?_⟩
       have hb' : Below wr.heap.size wr w2 := Below.step (Below.refl wr.heap.size wr).drew hb2
       refine hK.out _ _ ⟨(uh K0).1.below hb', cell_below (uh K0).2.1 hb', cell_below (uh K0).2.2 hb'⟩ (fun hS => ?_)
       clear hK KK
       (try simp only [Act.put, xa, xb, xc])
       refine tk 6 hS (h := ?_); simp only [Act.put, xa, xb, xc]
       refine tk 7 hS (h := ?_); simp only [Act.put, xa, xb, xc]
       refine tk 8 hS (h := ?_); simp only [Act.put, xa, xb, xc]
       refine tk 9 hS (h := ?_); simp only [Act.put, xa, xb, xc]
       refine tk 10 hS (h := ?_); simp only [Act.put, xa, xb, xc]
       refine tk 11 hS (h := ?_); simp only [Act.put, xa, xb, xc]
       refine tk 12 hS (h := ?_); simp only [Act.put, xa, xb, xc]
       refine tk 13 hS (h := ?_); simp only [Act.put, xa, xb, xc]
       refine tk 14 hS (h := ?_); simp only [Act.put, xa, xb, xc]
       refine tk 15 hS (h := ?_); simp only [Act.put, xa, xb, xc]
       refine tk 16 hS (h := ?_); simp only [Act.put, xa, xb, xc]
       refine tk 17 hS (h := ?_); simp only [Act.put, xa, xb, xc]
       refine tk 18 hS (h := ?_); simp only [Act.put, xa, xb, xc]
       refine tk 19 hS (h := ?_); simp only [Act.put, xa, xb, xc]
       refine tk 20 hS (h := ?_); simp only [Act.put, xa, xb, xc]
       refine tk 21 hS (h := ?_); simp only [Act.put, xa, xb, xc]
       refine tk 22 hS (h := ?_); simp only [Act.put, xa, xb, xc]
       refine wpAnyH_done (by kernel_rfl) ?_ _
       refine NoPanic.normal ?_
       have b2 := Below.step hbr hb'
       clear hb2 hb' hS
       go_wp2
       go_roundw
       case rel => exact ⟨k + 1, by omega, by go_num, HOK, b2⟩
       case measure => simp [intOf]; omega
      exact AllReadyH.nil
     ·have hle : y ≤ z := by omega
      have hled : decide (y ≤ z) = true := by simp; omega
      have eF := hF (by rw [hat]; simp [hzy, hk0])
      subst eF
      clear hzy
      have K0 := hide (And.intro i6 (And.intro hcx hcz))
      clear hat hF eL hcell ey ez hk0 i6 hcx hcz ej0
      go_wp2_with fail
      refine wp_region_noPanic ?_
      refine wp_region_held_drew (S := fun w' => St6 w' w.heap.size e g x t (.slice p n c) N ∧ w'.cell? ⟨b, o + k, none⟩ = some (.int .u64 y) ∧ w'.cell? ⟨b, o + j, none⟩ = some (.int .u64 z)) (by kernel_rfl) (by exact uh K0) (fun hS => ?_)
      refine tk 0 hS (h := ?_); simp only [Act.put, xa, xb, xc]
      refine tk 1 hS (h := ?_); simp only [Act.put, xa, xb, xc]
      refine tk 2 hS (h := ?_); simp only [Act.put, xa, xb, xc]
      refine tk 3 hS (h := ?_); simp only [Act.put, xa, xb, xc]
      refine tk 4 hS (h := ?_); simp only [Act.put, xa, xb, xc]
      refine ry [5] ?_
      refine cn (fun KK hK => ?_) ?_
      ·refine step_call2 (by rfl) 115 _ _ _ (by rfl) (stV e g x t (.slice p n c) N) (.int .u64 y) (by rfl) (by rfl) (fun _ => uh HCF _ _) (l3live_any e g x t p c n N ss en _ ((uh HSS).below (Below.refl _ _).drew) hn y true EL) ?_
       rintro r w2 ⟨rfl, hb2⟩
       refine ⟨_, rfl, ?_⟩
       have hb' : Below wr.heap.size wr w2 := Below.step (Below.refl wr.heap.size wr).drew hb2
       refine hK.out _ _ ⟨(uh K0).1.below hb', cell_below (uh K0).2.1 hb', cell_below (uh K0).2.2 hb'⟩ (fun hS => ?_)
       clear hK KK
       (try simp only [Act.put, xa, xb, xc])
       refine tk 6 hS (h := ?_); simp only [Act.put, xa, xb, xc]
       refine tk 7 hS (h := ?_); simp only [Act.put, xa, xb, xc]
       refine tk 8 hS (h := ?_); simp only [Act.put, xa, xb, xc]
       refine tk 9 hS (h := ?_); simp only [Act.put, xa, xb, xc]
       refine tk 10 hS (h := ?_); simp only [Act.put, xa, xb, xc]
       refine tk 11 hS (h := ?_); simp only [Act.put, xa, xb, xc]
       refine tk 12 hS (h := ?_); simp only [Act.put, xa, xb, xc]
       refine tk 13 hS (h := ?_); simp only [Act.put, xa, xb, xc]
       refine tk 14 hS (h := ?_); simp only [Act.put, xa, xb, xc]
       refine tk 15 hS (h := ?_); simp only [Act.put, xa, xb, xc]
       refine tk 16 hS (h := ?_); simp only [Act.put, xa, xb, xc]
       refine tk 17 hS (h := ?_); simp only [Act.put, xa, xb, xc]
       refine tk 18 hS (h := ?_); simp only [Act.put, xa, xb, xc]
       refine tk 19 hS (h := ?_); simp only [Act.put, xa, xb, xc]
       refine tk 20 hS (h := ?_); simp only [Act.put, xa, xb, xc]
       refine tk 21 hS (h := ?_); simp only [Act.put, xa, xb, xc]
       refine tk 22 hS (h := ?_); simp only [Act.put, xa, xb, xc]
       refine wpAnyH_done (by kernel_rfl) ?_ _
       refine NoPanic.normal ?_
       have b2 := Below.step BB hb'
       clear hb2 hb' hS
       go_wp2
       go_ret
       exact ⟨rfl, b2⟩
      exact AllReadyH.nil
  ·have hlt' : ¬ (k : Int) < (m : Int) := by omega
   have eT : B = true := by
    rw [← uh eB, idsOK, uh em]
    have : k = m := by omega
    rw [← this]
    exact uh hok
   subst eT
   go_wp2
   go_ret
   exact ⟨rfl, BB⟩
def viF : Nat → Nat → List Int
 | 0, n => [(n : Int)]
 | f + 1, n => if n < 128 then [(n : Int)] else ((n % 128 + 128 : Nat) : Int) :: viF f (n / 128)
def vi (n : Nat) : List Int := viF 9 n
theorem viF_small (f n : Nat) (h : n < 128) : viF f n = [(n : Int)] := by
 cases f with
 | zero => rfl
 | succ f => rw [viF, if_pos h]
theorem viF_big (f n : Nat) (h : ¬ n < 128) : viF (f + 1) n = ((n % 128 + 128 : Nat) : Int) :: viF f (n / 128) := by rw [viF, if_neg h]
theorem viF_len (f : Nat) : ∀ n, 1 ≤ (viF f n).length ∧ (viF f n).length ≤ f + 1 := by
 induction f with
 | zero => intro n; simp [viF]
 | succ f ih =>
  intro n
  rw [viF]
  split
  ·simp
  ·have := ih (n / 128)
   simp
   omega
theorem viF_byt (f : Nat) : ∀ n, n < 128 ^ (f + 1) → Byt (viF f n) := by
 induction f with
 | zero => intro n hn z hz; simp [viF] at hz; subst hz; simp at hn; omega
 | succ f ih =>
  intro n hn
  rw [viF]
  split
  ·intro z hz; simp at hz; subst hz; omega
  ·intro z hz
   rcases List.mem_cons.1 hz with rfl | hz
   ·omega
   ·exact ih (n / 128) (by rw [Nat.div_lt_iff_lt_mul (by omega)]; rw [Nat.pow_succ] at hn; exact hn) z hz
theorem vi_byt {n : Nat} (h : n < 18446744073709551616) : Byt (vi n) := viF_byt 9 n (by omega)
theorem vi_len (n : Nat) : 1 ≤ (vi n).length ∧ (vi n).length ≤ 10 := viF_len 9 n
theorem Byt.app {l m : List Int} (h : Byt l) (k : Byt m) : Byt (l ++ m) := fun z hz => by
 rcases List.mem_append.1 hz with hz | hz
 ·exact h z hz
 ·exact k z hz
theorem or_all : ((List.range 256).all fun y => bits .or .u8 (y : Int) 128 == ((y % 128 + 128 : Nat) : Int)) = true := by decide +kernel
theorem or128 (x : Nat) : bits .or .u8 ((x : Int) % 256) 128 = ((x % 128 + 128 : Nat) : Int) := by
 have h := List.all_eq_true.1 or_all (x % 256) (List.mem_range.2 (Nat.mod_lt _ (by omega)))
 have h2 := beq_iff_eq.1 h
 rw [show ((x : Int) % 256) = ((x % 256 : Nat) : Int) by omega, h2]
 congr 1
 omega
set_option maxHeartbeats 1600000 in
theorem l3var_any (f : Nat) : ∀ (v : Nat) (w : World), v < 128 ^ (f + 1) → v < 18446744073709551616 → f ≤ 9 → ∀ (N : Nat), Hid ((viF f v).length = N) →
  Calls Tryz.prog 79 #[.int .u64 v] w fun e w' => ∃ p' c', e = .returned (.slice p' N c') ∧ Own w.heap.size w' (.slice p' N c') (viF f v) ∧ Below w.heap.size w w' := by
 induction f with
 | zero =>
  intro v w hv h64 hf N hN
  have h : v < 128 := by simpa using hv
  have hN1 : N = 1 := by rw [← uh hN]; rfl
  subst hN1
  have h' : (v : Int) < 128 := by omega
  have wv : IntKind.u8.wrap (v : Int) = (v : Int) := by rw [IntKind.wrap_u8]; omega
  go_enter Tryz.func79, Tryz.ntmps79
  go_wp2
  go_ret
  exact ⟨_, _, rfl, (by have := Own.one w (v : Int); exact this), (Below.refl _ _).alloc (Nat.le_refl _) _⟩
 | succ f ih =>
  intro v w hv h64 hf N hN
  by_cases h : v < 128
  ·have e : viF (f + 1) v = [(v : Int)] := viF_small _ _ h
   have hN1 : N = 1 := by rw [← uh hN, e]; rfl
   subst hN1
   rw [e]
   have h' : (v : Int) < 128 := by omega
   have wv : IntKind.u8.wrap (v : Int) = (v : Int) := by rw [IntKind.wrap_u8]; omega
   clear e hN ih
   go_enter Tryz.func79, Tryz.ntmps79
   go_wp2
   go_ret
   exact ⟨_, _, rfl, (by have := Own.one w (v : Int); exact this), (Below.refl _ _).alloc (Nat.le_refl _) _⟩
  ·have h' : ¬ (v : Int) < 128 := by omega
   obtain ⟨V, eV⟩ : ∃ V, v / 128 = V := ⟨_, rfl⟩
   have hd : (v : Int) / 128 = (V : Int) := by omega
   have hV1 : V < 128 ^ (f + 1) := by
    rw [← eV, Nat.div_lt_iff_lt_mul (by omega)]
    rw [Nat.pow_succ] at hv
    exact hv
   obtain ⟨M, eM⟩ : ∃ M, (viF f V).length = M := ⟨_, rfl⟩
   have hM := viF_len f V
   have hih : ∀ w : World, _ := fun w => ih V w hV1 (by omega) (by omega) M eM
   have e : viF (f + 1) v = [((v % 128 + 128 : Nat) : Int)] ++ viF f V := by rw [viF_big _ _ h, eV]; rfl
   obtain ⟨y, ey⟩ : ∃ y : Int, (v : Int) % 128 + 128 = y := ⟨_, rfl⟩
   have ey2 : (((v % 128 + 128 : Nat)) : Int) = y := by rw [← ey]; omega
   rw [ey2] at e
   have hNM : N = 1 + M := by rw [← uh hN, e, List.length_append, eM]; rfl
   have HIH := hide hih
   have EE := hide e
   have EM := hide eM
   rw [eM] at hM
   clear hih e eV ih hN eM
   go_enter Tryz.func79, Tryz.ntmps79
   go_wp2_with fail
   try rw [hd]
   try rw [ey]
   refine (uh HIH _).mono ?_
   rintro e w1 ⟨p1, c1, rfl, o1, hb1⟩
   have oo : Own w.heap.size (w.alloc (.cells #[.int .u8 y] 5)) (.slice (some ⟨w.heap.size, 0, none⟩) 1 1) [y] := Own.one w y
   have oo1 := Own.below oo hb1
   have bA : Below w.heap.size w (w.alloc (.cells #[.int .u8 y] 5)) := (Below.refl _ _).alloc (Nat.le_refl _) _
   have b1 := Below.step bA hb1
   have z1 := b1.size
   have r1 := o1.rd
   clear oo hb1 bA o1
   go_wp2_with (at_builtin; refine wpList_append_rdn rfl _ _ rfl w.heap.size (.slice (some ⟨w.heap.size, 0, none⟩) 1 1) [y] (viF f V) (viF (f + 1) v) EE p1 c1 M EM rfl rfl oo1 r1 (by rw [uh EM]; simp; omega) (by omega) ?_)
   intro p2 c2 w2 o2 hg2
   have b2 := below_grown b1 hg2 oo1 (Nat.le_refl _) (by omega)
   have eL : (viF (f + 1) v).length = N := by rw [uh EE, List.length_append, uh EM, hNM]; rfl
   rw [eL] at o2 ⊢
   clear hg2 oo1 r1 b1
   go_wp2
   go_ret
   exact ⟨p2, c2, rfl, o2, b2⟩
set_option maxHeartbeats 1600000 in
theorem varint_any (v : Nat) (w : World) (h64 : v < 18446744073709551616) :
  Calls Tryz.prog 55 #[.int .u64 v] w fun e w' => ∃ p' c', e = .returned (.slice p' (vi v).length c') ∧ Own w.heap.size w' (.slice p' (vi v).length c') (vi v) ∧ Below w.heap.size w w' := by
 go_enter Tryz.func55, Tryz.ntmps55
 go_wp2
 go_loopw [0, 3] (fun nv ov wr => ∃ (x f N : Nat) (pre : List Int) (pv : Option Addr) (cv : Nat), nv = .int .u64 x ∧ x < 18446744073709551616 ∧ Hid (x < 128 ^ (f + 1)) ∧ N + f ≤ 9 ∧ ov = .slice pv N cv ∧ Hid (pre.length = N) ∧ Hid (vi v = pre ++ viF f x) ∧ Own w.heap.size wr (.slice pv N cv) pre ∧ Below w.heap.size w wr) (fun nv _ _ => (intOf nv).toNat)
 case atStart => exact ⟨v, 9, 0, [], none, 0, rfl, h64, (by show _ < _; omega), by omega, rfl, rfl, rfl, World.ownsRow_nil _ _ _ _, Below.refl _ _⟩
 case round =>
  obtain ⟨x, f, N, pre, pv, cv, rfl, hx, hxf, hNf, rfl, eN, eV, ho, hbr⟩ := hrel
  have zr := hbr.size
  by_cases h : x < 128
  ·have h' : ¬ (128 : Int) ≤ (x : Int) := by omega
   have wx : IntKind.u8.wrap (x : Int) = (x : Int) := by rw [IntKind.wrap_u8]; omega
   have eE : Hid (vi v = pre ++ [(x : Int)]) := by show _ = _; rw [uh eV, viF_small _ _ h]
   go_wp2_with (at_builtin; refine wpList_append_byte rfl _ _ rfl w.heap.size (.slice pv N cv) pre (vi v) (x : Int) eE wr.heap.size rfl rfl (Own.below ho ((Below.refl _ _).alloc (Nat.le_refl _) _)) (by simp) (by rw [uh eN]; omega) (by simp; omega) ?_)
   intro p2 c2 w2 o2 hg2
   have b2 : Below w.heap.size w w2 := (hbr.alloc hbr.size _).grown hg2 (by simp; omega) (fun k hk => (ho.lt k hk).1)
   clear hg2
   go_wp2
   go_ret
   exact ⟨p2, c2, rfl, o2, b2⟩
  ·have h' : (128 : Int) ≤ (x : Int) := by omega
   obtain ⟨f', rfl⟩ : ∃ f', f = f' + 1 := by
    cases f with
    | zero => have := uh hxf; simp at this; omega
    | succ f' => exact ⟨f', rfl⟩
   obtain ⟨X, eX⟩ : ∃ X, x / 128 = X := ⟨_, rfl⟩
   have hX : Hid (X < 128 ^ (f' + 1)) := by
    show _ < _
    have := uh hxf
    rw [← eX, Nat.div_lt_iff_lt_mul (by omega)]
    rw [Nat.pow_succ] at this
    exact this
   obtain ⟨y, ey⟩ : ∃ y : Int, ((x % 128 + 128 : Nat) : Int) = y := ⟨_, rfl⟩
   have hor := or128 x
   rw [ey] at hor
   have hd : (x : Int) / 128 = (X : Int) := by omega
   have eV2 : Hid (vi v = (pre ++ [y]) ++ viF f' X) := by show _ = _; rw [uh eV, viF_big _ _ h, eX, ey]; simp
   have hXx : X < x := by omega
   have hy : ey = ey := rfl
   obtain ⟨pre2, ep0⟩ : ∃ pre2, pre2 = pre ++ [y] := ⟨_, rfl⟩
   have eP := hide ep0
   have eN2 : Hid (pre2.length = N + 1) := by show _ = _; rw [ep0, List.length_append, uh eN]; rfl
   rw [← ep0] at eV2
   clear ep0 eX ey hy
   go_wp2_with (at_builtin; refine wpList_append_byte rfl _ _ rfl w.heap.size (.slice pv N cv) pre pre2 y eP wr.heap.size rfl rfl (Own.below ho ((Below.refl _ _).alloc (Nat.le_refl _) _)) (by simp) (by rw [uh eN]; omega) (by simp; omega) ?_)
   intro p2 c2 w2 o2 hg2
   have b2 : Below w.heap.size w w2 := (hbr.alloc hbr.size _).grown hg2 (by simp; omega) (fun k hk => (ho.lt k hk).1)
   rw [uh eN2] at o2 ⊢
   clear hg2
   go_wp2
   go_roundw
   case rel => exact ⟨X, f', N + 1, pre2, p2, c2, by go_num, by omega, hX, by omega, rfl, eN2, eV2, o2, b2⟩
   case measure => simp [intOf]; omega
def accN (k : Nat) (v x : Int) : Int := bits .or .u64 v (IntKind.u64.wrap (x % 128 * 2 ^ (7 * k)))
theorem accN_range (k : Nat) (v x : Int) : 0 ≤ accN k v x ∧ accN k v x < 18446744073709551616 := by
 have h1 := bits_lo_u64 .or v (IntKind.u64.wrap (x % 128 * 2 ^ (7 * k)))
 have h2 := bits_hi_u64 .or v (IntKind.u64.wrap (x % 128 * 2 ^ (7 * k)))
 unfold accN
 omega
theorem tm (x : Nat) : (x : Int) % 128 = ((x % 128 : Nat) : Int) := by omega
theorem accN_add (k : Nat) (a x : Nat) (c : Int) (hc : c % 128 = (x : Int)) (hx : x < 128) (ha : a < 2 ^ (7 * k)) (hs : a + x * 2 ^ (7 * k) < 18446744073709551616) : accN k a c = ((a + x * 2 ^ (7 * k) : Nat) : Int) := by
 unfold accN
 rw [hc]
 have e2 : IntKind.u64.wrap ((x : Int) * 2 ^ (7 * k)) = ((x * 2 ^ (7 * k) : Nat) : Int) := by
  rw [IntKind.wrap_u64]
  have : ((x : Int) * 2 ^ (7 * k)) = ((x * 2 ^ (7 * k) : Nat) : Int) := by push_cast; rfl
  rw [this]
  omega
 rw [e2]
 have hj := bits_join_low .u64 64 (by decide) wraps_u64 (7 * k) (a : Int) ((x * 2 ^ (7 * k) : Nat) : Int) (by omega) (by exact_mod_cast ha) (by omega) (by omega) (by
  have : ((x * 2 ^ (7 * k) : Nat) : Int) % 2 ^ (7 * k) = ((x * 2 ^ (7 * k) % 2 ^ (7 * k) : Nat) : Int) := by push_cast; rfl
  rw [this, Nat.mul_mod_left]
  rfl) (by omega)
 rw [hj]
 push_cast
 rfl
def rvF : Nat → Nat → Int → List Int → Option (Int × List Int)
 | 0, _, _, _ => none
 | _ + 1, _, _, [] => none
 | f + 1, k, a, c :: t => if c < 128 then some (accN k a c, t) else rvF f (k + 1) (accN k a c) t
def rv (m : List Int) : Option (Int × List Int) := rvF 10 0 0 m
theorem pow_step (k : Nat) : 2 ^ (7 * (k + 1)) = 128 * 2 ^ (7 * k) := by
 rw [Nat.mul_add, Nat.pow_add, Nat.mul_comm]
theorem rvF_vi (f : Nat) : ∀ (k a x : Nat) (rest : List Int), x < 128 ^ (f + 1) → a < 2 ^ (7 * k) → a + x * 2 ^ (7 * k) < 18446744073709551616 → rvF (f + 1) k a (viF f x ++ rest) = some (((a + x * 2 ^ (7 * k) : Nat) : Int), rest) := by
 induction f with
 | zero =>
  intro k a x rest hx ha hs
  have hx' : x < 128 := by simpa using hx
  rw [viF]
  simp only [List.cons_append, List.nil_append, rvF]
  rw [if_pos (by omega), accN_add k a x _ (by rw [tm]; omega) hx' ha hs]
 | succ f ih =>
  intro k a x rest hx ha hs
  by_cases h : x < 128
  ·rw [viF_small _ _ h]
   simp only [List.cons_append, List.nil_append, rvF]
   rw [if_pos (by omega), accN_add k a x _ (by rw [tm]; omega) h ha hs]
  ·rw [viF_big _ _ h]
   simp only [List.cons_append, rvF]
   have hdm := Nat.div_add_mod x 128
   have hml := Nat.mod_lt x (show 0 < 128 by omega)
   generalize x / 128 = q at *
   generalize x % 128 = r at *
   subst hdm
   have hpow : (128 * q + r) * 2 ^ (7 * k) = q * 2 ^ (7 * (k + 1)) + r * 2 ^ (7 * k) := by rw [pow_step, Nat.add_mul, Nat.mul_comm 128 q, Nat.mul_assoc]
   rw [if_neg (by omega), accN_add k a r _ (by rw [tm]; omega) hml ha (by rw [hpow] at hs; omega), ih (k + 1) (a + r * 2 ^ (7 * k)) q rest ?_ ?_ ?_]
   ·rw [hpow]
    congr 2
    simp
    omega
   ·rw [Nat.pow_succ] at hx
    omega
   ·rw [pow_step]
    have : r * 2 ^ (7 * k) ≤ 127 * 2 ^ (7 * k) := Nat.mul_le_mul_right _ (by omega)
    omega
   ·rw [hpow] at hs
    omega
theorem rv_vi (s : Nat) (rest : List Int) (hs : s < 18446744073709551616) : rv (vi s ++ rest) = some ((s : Int), rest) := by
 have := rvF_vi 9 0 0 s rest (by omega) (by decide) (by omega)
 simpa [rv, vi] using this
theorem rvF_range (f : Nat) : ∀ (k : Nat) (a : Int) (m : List Int) (v : Int) (t : List Int), rvF f k a m = some (v, t) → 0 ≤ v ∧ v < 18446744073709551616 ∧ t.length < m.length ∧ t = m.drop (m.length - t.length) := by
 induction f with
 | zero => intro k a m v t h; simp [rvF] at h
 | succ f ih =>
  intro k a m v t h
  cases m with
  | nil => simp [rvF] at h
  | cons c m =>
   rw [rvF] at h
   split at h
   ·simp at h
    obtain ⟨rfl, rfl⟩ := h
    have := accN_range k a c
    refine ⟨this.1, this.2, by simp, ?_⟩
    rw [List.length_cons, show m.length + 1 - m.length = 1 by omega]
    rfl
   ·obtain ⟨h1, h2, h3, h4⟩ := ih _ _ _ _ _ h
    refine ⟨h1, h2, by simp; omega, ?_⟩
    rw [List.length_cons, show m.length + 1 - t.length = (m.length - t.length) + 1 by omega, List.drop_succ_cons]
    exact h4
def vOf : Option (Int × List Int) → Int
 | some x => x.1
 | none => 0
def aOf (n : Nat) : Option (Int × List Int) → Int
 | some x => (n : Int) - x.2.length
 | none => -1
set_option maxHeartbeats 800000 in
theorem readByte_neg (p : Option Addr) (c n : Nat) (w : World) :
  Calls Tryz.prog 33 #[.slice p n c, .int .i64 (-1)] w fun e w' => e = .returned (.tuple #[.int .i64 0, .int .i64 (-1)]) ∧ w' = w := by
 go_enter Tryz.func33, Tryz.ntmps33
 go_wp2
 go_ret2
 exact ⟨rfl, rfl⟩
set_option maxHeartbeats 800000 in
theorem readByte_end (p : Option Addr) (c n : Nat) (w : World) (hl : n ≤ 1048576) :
  Calls Tryz.prog 33 #[.slice p n c, .int .i64 n] w fun e w' => e = .returned (.tuple #[.int .i64 0, .int .i64 (-1)]) ∧ w' = w := by
 have h0 : ¬ (n : Int) < 0 := by omega
 have h1 : (n : Int) ≤ (n : Int) := by omega
 go_enter Tryz.func33, Tryz.ntmps33
 go_wp2
 go_ret2
 exact ⟨rfl, rfl⟩
set_option maxHeartbeats 800000 in
theorem readByte_at (p : Option Addr) (c n a : Nat) (l : List Int) (en : Hid (l.length = n)) (w : World) (h : Rd w (.slice p n c) l) (hb : Byt l) (hl : n ≤ 1048576) (ha : a < n) :
  Calls Tryz.prog 33 #[.slice p n c, .int .i64 a] w fun e w' => e = .returned (.tuple #[.int .i64 (l.getD a 0), .int .i64 ((a + 1 : Nat) : Int)]) ∧ w' = w := by
 obtain ⟨b, o, rfl, -, hc⟩ := h.at (by rw [uh en]; omega)
 have hcx := hc a (by rw [uh en]; exact ha)
 have hx : 0 ≤ l.getD a 0 ∧ l.getD a 0 < 256 := by
  have hal : a < l.length := by rw [uh en]; exact ha
  rw [show l.getD a 0 = l[a] by simp [List.getD, hal]]
  exact hb _ (List.getElem_mem hal)
 obtain ⟨x, ex⟩ : ∃ x, l.getD a 0 = x := ⟨_, rfl⟩
 rw [ex] at hcx hx ⊢
 have h0 : ¬ (a : Int) < 0 := by omega
 have h1 : ¬ (n : Int) ≤ (a : Int) := by omega
 have h2 : (a : Int) < (n : Int) := by omega
 have wx : IntKind.i64.wrap x = x := IntWalk.i64_in _ (by omega)
 clear hc ex
 go_enter Tryz.func33, Tryz.ntmps33
 go_wp2
 go_ret2
 exact ⟨by simp, rfl⟩
set_option maxHeartbeats 800000 in
theorem readVar_neg (p : Option Addr) (c n : Nat) (w : World) :
  Calls Tryz.prog 31 #[.slice p n c, .int .i64 (-1)] w fun e w' => e = .returned (.tuple #[.int .u64 0, .int .i64 (-1)]) ∧ w' = w := by
 go_enter Tryz.func31, Tryz.ntmps31
 go_wp2_with fail
 go_loopw [6, 7] (fun nv iv wr => nv = .int .u64 0 ∧ iv = .int .i64 0 ∧ wr = w) (fun _ iv _ => 10 - (intOf iv).toNat)
 case atStart => exact ⟨rfl, rfl, rfl⟩
 case round =>
  obtain ⟨rfl, rfl, rfl⟩ := hrel
  go_wp2
  go_ret2
  exact ⟨rfl, rfl⟩
theorem drop_consD {l : List Int} {a : Nat} (h : a < l.length) : l.drop a = l.getD a 0 :: l.drop (a + 1) := by
 rw [List.drop_eq_getElem_cons h]
 simp [List.getD, h]
set_option maxHeartbeats 1600000 in
theorem readVar_at (p : Option Addr) (c n a : Nat) (l : List Int) (en : Hid (l.length = n)) (w : World) (h : Rd w (.slice p n c) l) (hb : Byt l) (hl : n ≤ 1048576) (ha : a ≤ n) (r : Option (Int × List Int)) (er : Hid (rv (l.drop a) = r)) :
  Calls Tryz.prog 31 #[.slice p n c, .int .i64 a] w fun e w' => e = .returned (.tuple #[.int .u64 (vOf r), .int .i64 (aOf n r)]) ∧ w' = w := by
 have HR := hide h
 have HB := hide hb
 have ha0 : ¬ (a : Int) < 0 := by omega
 clear h hb
 go_enter Tryz.func31, Tryz.ntmps31
 go_wp2_with fail
 go_loopw [6, 7] (fun nv iv wr => ∃ (v : Int) (k : Nat), nv = .int .u64 v ∧ k ≤ 10 ∧ iv = .int .i64 k ∧ Hid (r = rvF (10 - k) k v (l.drop (a + k))) ∧ wr = w) (fun _ iv _ => 10 - (intOf iv).toNat)
 case atStart => exact ⟨0, 0, rfl, by omega, rfl, (by show _ = _; rw [← uh er]; rfl), rfl⟩
 case round =>
  obtain ⟨v, k, rfl, hk, rfl, hr, rfl⟩ := hrel
  by_cases h10 : k < 10
  ·have h10' : (k : Int) < 10 := by omega
   obtain ⟨A, eA⟩ : ∃ A : Nat, (a : Int) + (k : Int) = (A : Int) := ⟨a + k, by omega⟩
   have eA2 : a + k = A := by omega
   have hr2 := uh hr
   rw [eA2, show 10 - k = (9 - k) + 1 by omega] at hr2
   by_cases hin : A < n
   ·have hA : (A : Int) < (n : Int) := by omega
    have hA1 : ¬ (n : Int) ≤ (A : Int) := by omega
    obtain ⟨b, o, rfl, -, hc⟩ := (uh HR).at (by rw [uh en]; omega)
    have hcx := hc A (by rw [uh en]; exact hin)
    have hx : 0 ≤ l.getD A 0 ∧ l.getD A 0 < 256 := by
     have hal : A < l.length := by rw [uh en]; exact hin
     rw [show l.getD A 0 = l[A] by simp [List.getD, hal]]
     exact uh HB _ (List.getElem_mem hal)
    rw [drop_consD (by rw [uh en]; exact hin)] at hr2
    obtain ⟨x, ex⟩ : ∃ x, l.getD A 0 = x := ⟨_, rfl⟩
    rw [ex] at hcx hx hr2
    have w7 : IntKind.i64.wrap (7 * (k : Int)) = 7 * (k : Int) := IntWalk.i64_in _ (by omega)
    rw [rvF] at hr2
    clear hc ex hr
    by_cases hx128 : x < 128
    ·rw [if_pos hx128] at hr2
     have e1 : vOf r = accN k v x := by rw [hr2]; rfl
     have e2 : aOf n r = (A : Int) + 1 := by
      rw [hr2]
      show (n : Int) - ((l.drop (A + 1)).length : Nat) = _
      rw [List.length_drop, uh en]
      omega
     have E := hide (And.intro e1 e2)
     clear e1 e2 hr2
     go_wp2
     go_ret2
     rw [(uh E).1, (uh E).2]
     exact ⟨rfl, rfl⟩
    ·have hx128' : ¬ x < 128 := hx128
     rw [if_neg hx128] at hr2
     have hr3 : Hid (r = rvF (10 - (k + 1)) (k + 1) (accN k v x) (l.drop (a + (k + 1)))) := by
      show _ = _
      rw [hr2, show 10 - (k + 1) = 9 - k by omega, show a + (k + 1) = A + 1 by omega]
     clear hr2
     go_wp2
     go_roundw
     case rel => exact ⟨accN k v x, k + 1, rfl, by omega, by go_num, hr3, by first | rfl | trivial⟩
     case measure => simp [intOf]; omega
   ·have hA1 : (n : Int) ≤ (A : Int) := by omega
    rw [List.drop_eq_nil_of_le (by rw [uh en]; omega), rvF] at hr2
    subst hr2
    clear hr
    go_wp2
    go_ret2
    exact ⟨rfl, rfl⟩
  ·have h10' : ¬ (k : Int) < 10 := by omega
   have hr2 := uh hr
   rw [show 10 - k = 0 by omega, rvF] at hr2
   subst hr2
   clear hr
   go_wp2
   go_ret2
   exact ⟨rfl, rfl⟩
end Go.Proofs.YtnbgnhhnpmmloaaGreatDoor
