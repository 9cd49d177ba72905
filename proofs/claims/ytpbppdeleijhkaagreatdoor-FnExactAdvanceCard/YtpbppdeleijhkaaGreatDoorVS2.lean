import Derived.Test.YtpbppdeleijhkaaGreatDoorK3
import Derived.Test.YtpbppdeleijhkaaGreatDoorK2
import Derived.Deep.DeepCutAuto
namespace Go.Proofs.YtpbppdeleijhkaaGreatDoor
open Go.ChangeShapes Go.WideShapes Go.ChangeAt Go.RowKit
set_option linter.unusedVariables false
set_option linter.unusedSimpArgs false
set_option maxRecDepth 100000

/-- a state's six cells -/
abbrev St6 (w : World) (b : Nat) (e g x t : Int) (S N : Value) : Prop := w.cell? ⟨b, 0, none⟩ = some (.int .u64 e) ∧ w.cell? ⟨b, 1, none⟩ = some (.int .u64 g) ∧ w.cell? ⟨b, 2, none⟩ = some (.int .u64 x) ∧ w.cell? ⟨b, 3, none⟩ = some (.int .i64 t) ∧ w.cell? ⟨b, 4, none⟩ = some S ∧ w.cell? ⟨b, 5, none⟩ = some N
theorem St6.below {w w' : World} {b : Nat} {e g x t : Int} {S N : Value} (h : St6 w b e g x t S N) (hb : Below w.heap.size w w') : St6 w' b e g x t S N :=
 ⟨cell_below h.1 hb, cell_below h.2.1 hb, cell_below h.2.2.1 hb, cell_below h.2.2.2.1 hb, cell_below h.2.2.2.2.1 hb, cell_below h.2.2.2.2.2 hb⟩

set_option maxHeartbeats 1600000 in
theorem l3idsOK_any (e g x t : Int) (p q : Option Addr) (c n d m : Nat) (N : Value) (ss : List Ses) (ids : List Int) (en : Hid (ss.length = n)) (em : Hid (ids.length = m)) (w : World) (h : RdS w (.slice p n c) ss) (hi : RdU w (.slice q m d) ids) (hn : n ≤ 1048576) (hm : m ≤ 1048576) (B : Bool) (eB : Hid (idsOK ss ids = B)) :
  Calls Tryz.prog 140 #[stV e g x t (.slice p n c) N, .slice q m d] w fun r w' => r = .returned (.bool B) ∧ Below w.heap.size w w' := by
 have HR := hide fun (w' : World) (hb : Below w.heap.size w w') => And.intro (h.below hb) (hi.below hb)
 have hcf : ∀ (vs : Array Value) (w : World), (callFunc 139 vs).run Tryz.prog w = .ok (.enter 139 vs) w := fun vs w => by kernel_rfl
 have HCF := hide hcf
 clear h hi hcf
 go_enter Tryz.func140, Tryz.ntmps140
 go_wp2_with fail
 obtain ⟨W, hW⟩ : ∃ W, W = (w.alloc (.cells #[.int .u64 e, .int .u64 g, .int .u64 x, .int .i64 t, .slice p n c, N] 27)) := ⟨_, rfl⟩
 have bW : Below w.heap.size w W := by rw [hW]; exact (Below.refl _ _).alloc (Nat.le_refl _) _
 have hc6 : St6 W w.heap.size e g x t (.slice p n c) N := by rw [hW]; simp [St6]
 rw [← hW]
 clear hW
 have BW := hide bW
 have HC6 := hide hc6
 clear bW hc6
 go_loopw [5] (fun iv wr => ∃ k : Nat, k ≤ m ∧ iv = .int .i64 k ∧ Hid ((List.range k).all (idAt ss ids) = true) ∧ Below W.heap.size W wr) (fun iv _ => m - (intOf iv).toNat)
 case atStart => exact ⟨0, Nat.zero_le _, rfl, (by show _ = _; rfl), Below.refl _ _⟩
 case round =>
  obtain ⟨k, hk, rfl, hok, hbr⟩ := hrel
  have BB := Below.step (unhide BW) hbr
  by_cases hlt : k < m
  ·have hlt' : (k : Int) < (m : Int) := by omega
   have hkl : k < ids.length := by rw [unhide em]; exact hlt
   obtain ⟨hS, hU⟩ := unhide HR _ BB
   obtain ⟨b, o, rfl, hcell⟩ : ∃ b o, q = some ⟨b, o, none⟩ ∧ ∀ i, i < m → wr.cell? ⟨b, o + i, none⟩ = some (.int .u64 (ids.getD i 0)) := by
    obtain ⟨p', c', ev, hd⟩ := hU
    simp only [Value.slice.injEq] at ev
    obtain ⟨rfl, -, -⟩ := ev
    rcases hd with h0 | ⟨b, o, h1, h2⟩
    ·rw [h0] at hkl; simp at hkl
    ·exact ⟨b, o, h1, fun i hi => h2 i (by rw [unhide em]; exact hi)⟩
   have i6 := (unhide HC6).below hbr
   have hcx := hcell k hlt
   obtain ⟨y, ey⟩ : ∃ y, ids.getD k 0 = y := ⟨_, rfl⟩
   rw [ey] at hcx
   have HSS := hide hS
   obtain ⟨L, eL⟩ : ∃ L, live ss y = L := ⟨_, rfl⟩
   have EL : Hid ((ss.any fun s => s.1 == y) = L) := eL
   have hat : idAt ss ids k = (L && (k == 0 || decide (ids.getD (k - 1) 0 < y))) := by rw [idAt, ey, eL]
   have hF : idAt ss ids k = false → B = false := fun h => by rw [← unhide eB, idsOK, unhide em]; exact range_all_no hlt h
   clear hS hU hkl
   cases L with
   | false =>
    have eF := hF (by rw [hat]; rfl)
    subst eF
    have K0 := hide (And.intro i6 hcx)
    clear hat hF eL hcell ey i6 hcx
    go_wp2_with fail
    refine wp_region_noPanic ?_
    refine wp_region_held_drew (S := fun w' => St6 w' w.heap.size e g x t (.slice p n c) N ∧ w'.cell? ⟨b, o + k, none⟩ = some (.int .u64 y)) (by kernel_rfl) (by exact unhide K0) (fun hS => ?_)
    refine tk 0 hS (h := ?_)
    simp only [Act.put, xa, xb, xc]
    refine tk 1 hS (h := ?_)
    simp only [Act.put, xa, xb, xc]
    refine tk 2 hS (h := ?_)
    simp only [Act.put, xa, xb, xc]
    refine tk 3 hS (h := ?_)
    simp only [Act.put, xa, xb, xc]
    refine tk 4 hS (h := ?_)
    simp only [Act.put, xa, xb, xc]
    refine ry [5] ?_
    refine cn (fun KK hK => ?_) ?_
    ·refine step_call2 (by rfl) 139 _ _ _ (by rfl) (stV e g x t (.slice p n c) N) (.int .u64 y) (by rfl) (by rfl) (fun _ => unhide HCF _ _) (l3live_any e g x t p c n N ss en _ ((unhide HSS).below (Below.refl _ _).drew) hn y false EL) ?_
     rintro r w2 ⟨rfl, hb2⟩
     refine ⟨_, rfl, ?_⟩
     have hb' : Below wr.heap.size wr w2 := Below.step (Below.refl wr.heap.size wr).drew hb2
     refine hK.out _ _ ⟨(unhide K0).1.below hb', cell_below (unhide K0).2 hb'⟩ (fun hS => ?_)
     clear hK KK
     (try simp only [Act.put, xa, xb, xc])
     refine tk 6 hS (h := ?_)
     simp only [Act.put, xa, xb, xc]
     refine tk 7 hS (h := ?_)
     simp only [Act.put, xa, xb, xc]
     refine sk 8 hS (h := ?_)
     simp only [Act.put, xa, xb, xc]
     refine sk 9 hS (h := ?_)
     simp only [Act.put, xa, xb, xc]
     refine sk 10 hS (h := ?_)
     simp only [Act.put, xa, xb, xc]
     refine sk 11 hS (h := ?_)
     simp only [Act.put, xa, xb, xc]
     refine sk 12 hS (h := ?_)
     simp only [Act.put, xa, xb, xc]
     refine sk 13 hS (h := ?_)
     simp only [Act.put, xa, xb, xc]
     refine sk 14 hS (h := ?_)
     simp only [Act.put, xa, xb, xc]
     refine sk 15 hS (h := ?_)
     simp only [Act.put, xa, xb, xc]
     refine sk 16 hS (h := ?_)
     simp only [Act.put, xa, xb, xc]
     refine sk 17 hS (h := ?_)
     simp only [Act.put, xa, xb, xc]
     refine sk 18 hS (h := ?_)
     simp only [Act.put, xa, xb, xc]
     refine sk 19 hS (h := ?_)
     simp only [Act.put, xa, xb, xc]
     refine sk 20 hS (h := ?_)
     simp only [Act.put, xa, xb, xc]
     refine sk 21 hS (h := ?_)
     simp only [Act.put, xa, xb, xc]
     refine tk 22 hS (h := ?_)
     simp only [Act.put, xa, xb, xc]
     refine wpAnyH_done (by kernel_rfl) ?_ _
     refine NoPanic.normal ?_
     have b2 := Below.step BB hb'
     clear hb2 hb' hS
     go_wp2
     go_ret
     exact ⟨rfl, b2⟩
    exact AllReadyH.nil
   | true =>
    by_cases hk0 : k = 0
    ·have HOK : Hid ((List.range (k + 1)).all (idAt ss ids) = true) := range_all_step (unhide hok) (by rw [hat, hk0]; rfl)
     have HK0 := hide hk0
     have hp : ¬ 0 < k := by omega
     have hp' : ¬ (0 : Int) < (k : Int) := by omega
     have K0 := hide (And.intro i6 hcx)
     clear hat hF eL hcell ey hk0 i6 hcx
     go_wp2_with fail
     refine wp_region_noPanic ?_
     refine wp_region_held_drew (S := fun w' => St6 w' w.heap.size e g x t (.slice p n c) N ∧ w'.cell? ⟨b, o + k, none⟩ = some (.int .u64 y)) (by kernel_rfl) (by exact unhide K0) (fun hS => ?_)
     refine tk 0 hS (h := ?_)
     simp only [Act.put, xa, xb, xc]
     refine tk 1 hS (h := ?_)
     simp only [Act.put, xa, xb, xc]
     refine tk 2 hS (h := ?_)
     simp only [Act.put, xa, xb, xc]
     refine tk 3 hS (h := ?_)
     simp only [Act.put, xa, xb, xc]
     refine tk 4 hS (h := ?_)
     simp only [Act.put, xa, xb, xc]
     refine ry [5] ?_
     refine cn (fun KK hK => ?_) ?_
     ·refine step_call2 (by rfl) 139 _ _ _ (by rfl) (stV e g x t (.slice p n c) N) (.int .u64 y) (by rfl) (by rfl) (fun _ => unhide HCF _ _) (l3live_any e g x t p c n N ss en _ ((unhide HSS).below (Below.refl _ _).drew) hn y true EL) ?_
      rintro r w2 ⟨rfl, hb2⟩
      refine ⟨_, rfl, ?_⟩
      have hb' : Below wr.heap.size wr w2 := Below.step (Below.refl wr.heap.size wr).drew hb2
      refine hK.out _ _ ⟨(unhide K0).1.below hb', cell_below (unhide K0).2 hb'⟩ (fun hS => ?_)
      clear hK KK
      (try simp only [Act.put, xa, xb, xc])
      refine tk 6 hS (h := ?_)
      simp only [Act.put, xa, xb, xc]
      refine tk 7 hS (h := ?_)
      simp only [Act.put, xa, xb, xc]
      refine tk 8 hS (h := ?_)
      simp only [Act.put, xa, xb, xc]
      refine tk 9 hS (h := ?_)
      simp only [Act.put, xa, xb, xc]
      refine tk 10 hS (h := ?_)
      simp only [Act.put, xa, xb, xc]
      refine sk 11 hS (h := ?_)
      simp only [Act.put, xa, xb, xc]
      refine sk 12 hS (h := ?_)
      simp only [Act.put, xa, xb, xc]
      refine sk 13 hS (h := ?_)
      simp only [Act.put, xa, xb, xc]
      refine sk 14 hS (h := ?_)
      simp only [Act.put, xa, xb, xc]
      refine sk 15 hS (h := ?_)
      simp only [Act.put, xa, xb, xc]
      refine sk 16 hS (h := ?_)
      simp only [Act.put, xa, xb, xc]
      refine sk 17 hS (h := ?_)
      simp only [Act.put, xa, xb, xc]
      refine sk 18 hS (h := ?_)
      simp only [Act.put, xa, xb, xc]
      refine sk 19 hS (h := ?_)
      simp only [Act.put, xa, xb, xc]
      refine sk 20 hS (h := ?_)
      simp only [Act.put, xa, xb, xc]
      refine tk 21 hS (h := ?_)
      simp only [Act.put, xa, xb, xc]
      refine tk 22 hS (h := ?_)
      simp only [Act.put, xa, xb, xc]
      refine wpAnyH_done (by kernel_rfl) ?_ _
      refine NoPanic.normal ?_
      have b2 := Below.step hbr hb'
      clear hb2 hb' hS
      go_wp2
      go_roundw
      case rel => exact ⟨k + 1, by omega, by go_num, HOK, b2⟩
      case measure => simp [intOf]; omega
     exact AllReadyH.nil
    ·obtain ⟨j, ej⟩ : ∃ j : Nat, (k : Int) - 1 = (j : Int) := ⟨k - 1, by omega⟩
     have ej0 : k - 1 = j := by omega
     have hcz := hcell j (by omega)
     obtain ⟨z, ez⟩ : ∃ z, ids.getD j 0 = z := ⟨_, rfl⟩
     rw [ez] at hcz
     rw [ej0, ez] at hat
     have hp : 0 < k := by omega
     have hp' : (0 : Int) < (k : Int) := by omega
     have hjm : (j : Int) < (m : Int) := by omega
     have hj0 : (0 : Int) ≤ (j : Int) := by omega
     have wj : IntKind.i64.wrap (j : Int) = (j : Int) := IntWalk.i64_in _ (by omega)
     by_cases hzy : z < y
     ·have hle : ¬ y ≤ z := by omega
      have hled : decide (y ≤ z) = false := by simp; omega
      have HOK : Hid ((List.range (k + 1)).all (idAt ss ids) = true) := range_all_step (unhide hok) (by rw [hat]; simp [hzy])
      clear hzy
      have K0 := hide (And.intro i6 (And.intro hcx hcz))
      clear hat hF eL hcell ey ez hk0 i6 hcx hcz ej0
      go_wp2_with fail
      refine wp_region_noPanic ?_
      refine wp_region_held_drew (S := fun w' => St6 w' w.heap.size e g x t (.slice p n c) N ∧ w'.cell? ⟨b, o + k, none⟩ = some (.int .u64 y) ∧ w'.cell? ⟨b, o + j, none⟩ = some (.int .u64 z)) (by kernel_rfl) (by exact unhide K0) (fun hS => ?_)
      refine tk 0 hS (h := ?_)
      simp only [Act.put, xa, xb, xc]
      refine tk 1 hS (h := ?_)
      simp only [Act.put, xa, xb, xc]
      refine tk 2 hS (h := ?_)
      simp only [Act.put, xa, xb, xc]
      refine tk 3 hS (h := ?_)
      simp only [Act.put, xa, xb, xc]
      refine tk 4 hS (h := ?_)
      simp only [Act.put, xa, xb, xc]
      refine ry [5] ?_
      refine cn (fun KK hK => ?_) ?_
      ·refine step_call2 (by rfl) 139 _ _ _ (by rfl) (stV e g x t (.slice p n c) N) (.int .u64 y) (by rfl) (by rfl) (fun _ => unhide HCF _ _) (l3live_any e g x t p c n N ss en _ ((unhide HSS).below (Below.refl _ _).drew) hn y true EL) ?_
       rintro r w2 ⟨rfl, hb2⟩
       refine ⟨_, rfl, ?_⟩
       have hb' : Below wr.heap.size wr w2 := Below.step (Below.refl wr.heap.size wr).drew hb2
       refine hK.out _ _ ⟨(unhide K0).1.below hb', cell_below (unhide K0).2.1 hb', cell_below (unhide K0).2.2 hb'⟩ (fun hS => ?_)
       clear hK KK
       (try simp only [Act.put, xa, xb, xc])
       refine tk 6 hS (h := ?_)
       simp only [Act.put, xa, xb, xc]
       refine tk 7 hS (h := ?_)
       simp only [Act.put, xa, xb, xc]
       refine tk 8 hS (h := ?_)
       simp only [Act.put, xa, xb, xc]
       refine tk 9 hS (h := ?_)
       simp only [Act.put, xa, xb, xc]
       refine tk 10 hS (h := ?_)
       simp only [Act.put, xa, xb, xc]
       refine tk 11 hS (h := ?_)
       simp only [Act.put, xa, xb, xc]
       refine tk 12 hS (h := ?_)
       simp only [Act.put, xa, xb, xc]
       refine tk 13 hS (h := ?_)
       simp only [Act.put, xa, xb, xc]
       refine tk 14 hS (h := ?_)
       simp only [Act.put, xa, xb, xc]
       refine tk 15 hS (h := ?_)
       simp only [Act.put, xa, xb, xc]
       refine tk 16 hS (h := ?_)
       simp only [Act.put, xa, xb, xc]
       refine tk 17 hS (h := ?_)
       simp only [Act.put, xa, xb, xc]
       refine tk 18 hS (h := ?_)
       simp only [Act.put, xa, xb, xc]
       refine tk 19 hS (h := ?_)
       simp only [Act.put, xa, xb, xc]
       refine tk 20 hS (h := ?_)
       simp only [Act.put, xa, xb, xc]
       refine tk 21 hS (h := ?_)
       simp only [Act.put, xa, xb, xc]
       refine tk 22 hS (h := ?_)
       simp only [Act.put, xa, xb, xc]
       refine wpAnyH_done (by kernel_rfl) ?_ _
       refine NoPanic.normal ?_
       have b2 := Below.step hbr hb'
       clear hb2 hb' hS
       go_wp2
       go_roundw
       case rel => exact ⟨k + 1, by omega, by go_num, HOK, b2⟩
       case measure => simp [intOf]; omega
      exact AllReadyH.nil
     ·have hle : y ≤ z := by omega
      have hled : decide (y ≤ z) = true := by simp; omega
      have eF := hF (by rw [hat]; simp [hzy, hk0])
      subst eF
      clear hzy
      have K0 := hide (And.intro i6 (And.intro hcx hcz))
      clear hat hF eL hcell ey ez hk0 i6 hcx hcz ej0
      go_wp2_with fail
      refine wp_region_noPanic ?_
      refine wp_region_held_drew (S := fun w' => St6 w' w.heap.size e g x t (.slice p n c) N ∧ w'.cell? ⟨b, o + k, none⟩ = some (.int .u64 y) ∧ w'.cell? ⟨b, o + j, none⟩ = some (.int .u64 z)) (by kernel_rfl) (by exact unhide K0) (fun hS => ?_)
      refine tk 0 hS (h := ?_)
      simp only [Act.put, xa, xb, xc]
      refine tk 1 hS (h := ?_)
      simp only [Act.put, xa, xb, xc]
      refine tk 2 hS (h := ?_)
      simp only [Act.put, xa, xb, xc]
      refine tk 3 hS (h := ?_)
      simp only [Act.put, xa, xb, xc]
      refine tk 4 hS (h := ?_)
      simp only [Act.put, xa, xb, xc]
      refine ry [5] ?_
      refine cn (fun KK hK => ?_) ?_
      ·refine step_call2 (by rfl) 139 _ _ _ (by rfl) (stV e g x t (.slice p n c) N) (.int .u64 y) (by rfl) (by rfl) (fun _ => unhide HCF _ _) (l3live_any e g x t p c n N ss en _ ((unhide HSS).below (Below.refl _ _).drew) hn y true EL) ?_
       rintro r w2 ⟨rfl, hb2⟩
       refine ⟨_, rfl, ?_⟩
       have hb' : Below wr.heap.size wr w2 := Below.step (Below.refl wr.heap.size wr).drew hb2
       refine hK.out _ _ ⟨(unhide K0).1.below hb', cell_below (unhide K0).2.1 hb', cell_below (unhide K0).2.2 hb'⟩ (fun hS => ?_)
       clear hK KK
       (try simp only [Act.put, xa, xb, xc])
       refine tk 6 hS (h := ?_)
       simp only [Act.put, xa, xb, xc]
       refine tk 7 hS (h := ?_)
       simp only [Act.put, xa, xb, xc]
       refine tk 8 hS (h := ?_)
       simp only [Act.put, xa, xb, xc]
       refine tk 9 hS (h := ?_)
       simp only [Act.put, xa, xb, xc]
       refine tk 10 hS (h := ?_)
       simp only [Act.put, xa, xb, xc]
       refine tk 11 hS (h := ?_)
       simp only [Act.put, xa, xb, xc]
       refine tk 12 hS (h := ?_)
       simp only [Act.put, xa, xb, xc]
       refine tk 13 hS (h := ?_)
       simp only [Act.put, xa, xb, xc]
       refine tk 14 hS (h := ?_)
       simp only [Act.put, xa, xb, xc]
       refine tk 15 hS (h := ?_)
       simp only [Act.put, xa, xb, xc]
       refine tk 16 hS (h := ?_)
       simp only [Act.put, xa, xb, xc]
       refine tk 17 hS (h := ?_)
       simp only [Act.put, xa, xb, xc]
       refine tk 18 hS (h := ?_)
       simp only [Act.put, xa, xb, xc]
       refine tk 19 hS (h := ?_)
       simp only [Act.put, xa, xb, xc]
       refine tk 20 hS (h := ?_)
       simp only [Act.put, xa, xb, xc]
       refine tk 21 hS (h := ?_)
       simp only [Act.put, xa, xb, xc]
       refine tk 22 hS (h := ?_)
       simp only [Act.put, xa, xb, xc]
       refine wpAnyH_done (by kernel_rfl) ?_ _
       refine NoPanic.normal ?_
       have b2 := Below.step BB hb'
       clear hb2 hb' hS
       go_wp2
       go_ret
       exact ⟨rfl, b2⟩
      exact AllReadyH.nil
  ·have hlt' : ¬ (k : Int) < (m : Int) := by omega
   have eT : B = true := by
    rw [← unhide eB, idsOK, unhide em]
    have : k = m := by omega
    rw [← this]
    exact unhide hok
   subst eT
   go_wp2
   go_ret
   exact ⟨rfl, BB⟩
end Go.Proofs.YtpbppdeleijhkaaGreatDoor
