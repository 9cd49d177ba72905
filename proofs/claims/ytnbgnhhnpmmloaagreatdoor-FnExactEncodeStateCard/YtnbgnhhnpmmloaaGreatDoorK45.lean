import Derived.Test.YtnbgnhhnpmmloaaGreatDoorK17
import Derived.Test.YtnbgnhhnpmmloaaGreatDoorK44
namespace Go.Proofs.YtnbgnhhnpmmloaaGreatDoor
open Go.ChangeShapes Go.WideShapes Go.ChangeAt Go.RowKit
set_option linter.unusedVariables false
set_option linter.unusedSimpArgs false
set_option maxRecDepth 100000
set_option maxHeartbeats 3200000 in
theorem toSession_aw (I D : Int) (p : Option Addr) (c n : Nat) (Q : List Ev) (en : Hid (Q.length = n)) (w : World) (BZ : Nat) (hB : BZ ≤ w.heap.size) (h : RdE w (.slice p n c) Q) (hn : n ≤ 1048576) (hel : Hid (∀ y ∈ Q, y.2.length ≤ 1048576)) :
  Calls Tryz.prog 90 #[.agg #[.int .u64 I, .int .i64 D, .slice p n c]] w fun r w' => ∃ p2 d2, r = .returned (.agg #[.int .u64 I, .int .i64 D, .slice p2 n d2]) ∧ Ab w.heap.size w' (fun u => RdEw BZ u (.slice p2 n d2) Q) ∧ Below w.heap.size w w' := by
 have R2 := hide fun (w' : World) (hb : Below w.heap.size w w') => h.below hb
 clear h
 go_enter Tryz.func90, Tryz.ntmps90
 go_wp2_with fail
 obtain ⟨W1, hW1⟩ : ∃ W, W = w.alloc (.cells #[.int .u64 I, .int .i64 D, .slice p n c] 114) := ⟨_, rfl⟩
 obtain ⟨W2, hW2⟩ : ∃ W, W = W1.alloc (.cells #[.int .u64 0, .int .i64 0, .slice none 0 0] 59) := ⟨_, rfl⟩
 obtain ⟨W, hW⟩ : ∃ W, W = W2.alloc (.cells #[.int .u64 I, .int .i64 D, .slice none 0 0] 59) := ⟨_, rfl⟩
 have z1 : W1.heap.size = w.heap.size + 1 := by rw [hW1]; simp
 have z2 : W2.heap.size = w.heap.size + 2 := by rw [hW2]; simp; omega
 have zW : W.heap.size = w.heap.size + 3 := by rw [hW]; simp; omega
 have b1 : Below w.heap.size w W1 := by rw [hW1]; exact (Below.refl _ _).alloc (Nat.le_refl _) _
 have b2 : Below W1.heap.size W1 W2 := by rw [hW2]; exact (Below.refl _ _).alloc (Nat.le_refl _) _
 have b3 : Below W2.heap.size W2 W := by rw [hW]; exact (Below.refl _ _).alloc (Nat.le_refl _) _
 have bW : Below w.heap.size w W := Below.step (Below.step b1 b2) b3
 obtain ⟨A, eA⟩ : ∃ A, A = w.heap.size := ⟨_, rfl⟩
 obtain ⟨R, eR⟩ : ∃ R, R = A + 1 := ⟨_, rfl⟩
 obtain ⟨C, eC⟩ : ∃ C, C = R + 1 := ⟨_, rfl⟩
 have hA : CellsAre W A [.int .u64 I, .int .i64 D, .slice p n c] := by
  have h0 : CellsAre W1 A [.int .u64 I, .int .i64 D, .slice p n c] := by rw [hW1, eA]; exact CellsAre.alloc w #[.int .u64 I, .int .i64 D, .slice p n c] _
  exact (h0.below (by omega) b2).below (by omega) b3
 have hR : CellsAre W R [.int .u64 0, .int .i64 0, .slice none 0 0] := by
  have h0 : CellsAre W2 R [.int .u64 0, .int .i64 0, .slice none 0 0] := by
   rw [hW2, show R = W1.heap.size by omega]; exact CellsAre.alloc W1 #[.int .u64 0, .int .i64 0, .slice none 0 0] _
  exact h0.below (by omega) b3
 have hC : CellsAre W C [.int .u64 I, .int .i64 D, .slice none 0 0] := by rw [hW, show C = W2.heap.size by omega]; exact CellsAre.alloc W2 #[.int .u64 I, .int .i64 D, .slice none 0 0] _
 rw [← hW1, ← hW2, ← hW, ← eA, ← eR, ← eC]
 have HE := hide (And.intro eA (And.intro eR (And.intro eC zW)))
 have BW := hide bW
 have HA := hide hA
 have HRR := hide hR
 have HC := hide hC
 clear hW hW1 hW2 eA eR eC zW bW z1 z2 b1 b2 b3 hA hR hC
 refine (toEventS_aw p c n Q en _ BZ (Nat.le_trans hB (unhide BW).size) (unhide R2 _ (unhide BW)) hn hel).mono ?_
 rintro r w2 ⟨p2, d2, rfl, ab2, hb2⟩
 have ZS2 : Hid (W.heap.size ≤ W.heap.size ∧ W.heap.size ≤ w2.heap.size) := ⟨Nat.le_refl _, hb2.size⟩
 have HA_2 := hide ((unhide HA).below (by obtain ⟨eA, eR, eC, zW⟩ := unhide HE; have := unhide ZS2; omega) hb2)
 have HRR_2 := hide ((unhide HRR).below (by obtain ⟨eA, eR, eC, zW⟩ := unhide HE; have := unhide ZS2; omega) hb2)
 have HC_2 := hide ((unhide HC).below (by obtain ⟨eA, eR, eC, zW⟩ := unhide HE; have := unhide ZS2; omega) hb2)
 have B2 := hide (Below.step (unhide BW) hb2)
 have AB2_2 := hide (Ab.mono (B := W.heap.size) ab2 (unhide ZS2).1)
 clear ab2 hb2
 have ca0 := (unhide HA_2).1 0 _ rfl
 have ca1 := (unhide HA_2).1 1 _ rfl
 have ca2 := (unhide HA_2).1 2 _ rfl
 have cc0 := (unhide HC_2).1 0 _ rfl
 have cc1 := (unhide HC_2).1 1 _ rfl
 have cc2 := (unhide HC_2).1 2 _ rfl
 have fC := (unhide HC_2).2
 have hAC : ¬ C = A := by obtain ⟨eA, eR, eC, zW⟩ := unhide HE; omega
 have cr0 := (unhide HRR_2).1 0 _ rfl
 have cr1 := (unhide HRR_2).1 1 _ rfl
 have cr2 := (unhide HRR_2).1 2 _ rfl
 have fR := (unhide HRR_2).2
 have hAR : ¬ R = A := by obtain ⟨eA, eR, eC, zW⟩ := unhide HE; omega
 have hRC : ¬ R = C := by obtain ⟨eA, eR, eC, zW⟩ := unhide HE; omega
 have hCR : ¬ C = R := by obtain ⟨eA, eR, eC, zW⟩ := unhide HE; omega
 go_wp2
 obtain ⟨eA, eR, eC, zW⟩ := unhide HE
 have zz := unhide ZS2
 refine bodyPost_ret (v := .agg #[.int .u64 I, .int .i64 D, .slice p2 n d2]) (by simp [results, Tryz.results90, go_sem, cc0, cc1, cc2, cr0, cr1, cr2, hAC, hAR, hRC, hCR]) rfl ⟨p2, d2, rfl, Ab.mono (B := w.heap.size) (B' := W.heap.size) ?_ (by omega), ?_⟩
 ·iterate 4 (refine Ab.set ?_ (by simp; omega) _)
  exact unhide AB2_2
 ·iterate 4 (refine Below.setCell ?_ (by simp; omega) _)
  exact unhide B2
set_option maxHeartbeats 3200000 in
theorem toSessionS_aw (p : Option Addr) (c n : Nat) (l : List Ses) (en : Hid (l.length = n)) (w : World) (BZ : Nat) (hB : BZ ≤ w.heap.size) (h : RdS w (.slice p n c) l) (hn : n ≤ 1048576) (hel : Hid (∀ y ∈ l, y.2.2.length ≤ 1048576 ∧ ∀ e ∈ y.2.2, e.2.length ≤ 1048576)) :
  Calls Tryz.prog 50 #[.slice p n c] w fun e w' => ∃ p' c', e = .returned (.slice p' n c') ∧ Ab w.heap.size w' (fun u => RdSw BZ u (.slice p' n c') l) ∧ Below w.heap.size w w' := by
 obtain ⟨i, hi, hz0, hz1, hz2⟩ := info_parts Tryz.infoSes
 have HR := hide fun (w' : World) (hb : Below w.heap.size w w') => h.below hb
 clear h
 go_enter Tryz.func50, Tryz.ntmps50
 go_wp2_with (first | (at_make; refine wpList_make_full _ rfl _ _ 24 rfl w.heap.size 59 i _ 3 Tryz.underlying24 hi hz0 hz1 _ _ _ _ n rfl rfl rfl rfl ?b2 ?b3 ?b4 ?_))
 case b2 => rw [hz2]; omega
 case b3 => unfold maxLen; omega
 case b4 => exact Nat.le_refl _
 intro w1 hown hg
 have hb := grown_below hg
 obtain ⟨G, eG⟩ : ∃ G, G = w.heap.size := ⟨_, rfl⟩
 rw [← eG] at hown ⊢
 have zG : G < w1.heap.size := (World.ownsRow.lt hown G rfl).2
 have hG1 : w.heap.size ≤ G := by omega
 have hG2 : G ≤ w.heap.size := by omega
 clear hg eG
 go_wp2_with fail
 go_loopw [4] (fun iv wr => ∃ (k : Nat) (L : List Value), k ≤ n ∧ iv = .int .i64 k ∧ Hid (wr.ownsRow G 59 3 (.slice (some ⟨G, 0, none⟩) n n) n L ∧ ∀ (j : Nat) (y : Ses), j < k → l[j]? = some y → L[j * 3]? = some (.int .u64 y.1) ∧ L[j * 3 + 1]? = some (.int .i64 y.2.1) ∧ ∃ v, L[j * 3 + 2]? = some v ∧ Ab (G + 1) wr (fun u => RdEw BZ u v y.2.2)) ∧ Below w.heap.size w wr ∧ G < wr.heap.size) (fun iv _ => n - (intOf iv).toNat)
 case atStart => exact ⟨0, _, Nat.zero_le _, rfl, ⟨hown, fun j y hj => by omega⟩, hb, zG⟩
 case round =>
  obtain ⟨k, L, hk, rfl, hin, hbr, hzr⟩ := hrel
  by_cases hlt : k < n
  ·have hlt' : (k : Int) < (n : Int) := by omega
   have hkl : k < l.length := by rw [unhide en]; exact hlt
   obtain ⟨y, hy⟩ : ∃ y, l[k]? = some y := ⟨_, List.getElem?_eq_getElem hkl⟩
   have hby := unhide hel y (List.mem_of_getElem? hy)
   obtain ⟨I, D, Q⟩ := y
   obtain ⟨b, o, rfl, hcI, hcD, u, hcQ, hrQ⟩ : ∃ b o, p = some ⟨b, o, none⟩ ∧ wr.cell? ⟨b, o + k * 3, none⟩ = some (.int .u64 I) ∧ wr.cell? ⟨b, o + k * 3 + 1, none⟩ = some (.int .i64 D) ∧ ∃ u, wr.cell? ⟨b, o + k * 3 + 2, none⟩ = some u ∧ RdE wr u Q := by
    obtain ⟨p', c', ev, hd⟩ := unhide HR _ hbr
    simp only [Value.slice.injEq] at ev
    obtain ⟨rfl, -, -⟩ := ev
    rcases hd with h0 | ⟨b, o, h1, h2⟩
    ·rw [h0] at hkl; simp at hkl
    ·exact ⟨b, o, h1, h2 k _ hy⟩
   obtain ⟨pq, cq, rfl, -⟩ := id hrQ
   obtain ⟨m, em⟩ : ∃ m, Q.length = m := ⟨_, rfl⟩
   rw [em] at hrQ hcQ
   have hm : m ≤ 1048576 := by rw [← em]; exact hby.1
   have EM := hide em
   have HEL : Hid (∀ y ∈ Q, y.2.length ≤ 1048576) := hby.2
   have HRQ := hide hrQ
   clear hrQ em
   clear hkl hby
   go_wp2_with fail
   refine (toSession_aw I D pq cq m Q EM _ BZ (Nat.le_trans hB hbr.size) (unhide HRQ) hm HEL).mono ?_
   rintro r w2 ⟨p2, d2, rfl, hab, hb2⟩
   have b2 := Below.step hbr hb2
   obtain ⟨ho, hL⟩ := unhide hin
   have ho2 := ho.kept (grown_of_b hb2) (by right; simp [Value.ownBlock])
   have hlen : L.length = n * 3 := ho.1
   obtain ⟨u0, hc0⟩ : ∃ u, w2.cell? ⟨G, k * 3, none⟩ = some u := by
    rw [ho2.cellAt (k * 3) (by omega)]
    exact ⟨_, List.getElem?_eq_getElem (by omega)⟩
   have hf0 := ho2.frozenAt (k * 3)
   obtain ⟨u1, hc1⟩ : ∃ u, w2.cell? ⟨G, k * 3 + 1, none⟩ = some u := by
    rw [ho2.cellAt (k * 3 + 1) (by omega)]
    exact ⟨_, List.getElem?_eq_getElem (by omega)⟩
   have hf1 := ho2.frozenAt (k * 3 + 1)
   obtain ⟨u2, hc2⟩ : ∃ u, w2.cell? ⟨G, k * 3 + 2, none⟩ = some u := by
    rw [ho2.cellAt (k * 3 + 2) (by omega)]
    exact ⟨_, List.getElem?_eq_getElem (by omega)⟩
   have hf2 := ho2.frozenAt (k * 3 + 2)
   have hzz : G < w2.heap.size := Nat.lt_of_lt_of_le hzr hb2.size
   obtain ⟨w3, hw3⟩ : ∃ w3, w3 = (((w2.setCell ⟨G, k * 3, none⟩ (.int .u64 I)).setCell ⟨G, k * 3 + 1, none⟩ (.int .i64 D)).setCell ⟨G, k * 3 + 2, none⟩ (.slice p2 m d2)) := ⟨_, rfl⟩
   have HIN : Hid (w3.ownsRow G 59 3 (.slice (some ⟨G, 0, none⟩) n n) n ((((L).set (k * 3) (.int .u64 I)).set (k * 3 + 1) (.int .i64 D)).set (k * 3 + 2) (.slice p2 m d2)) ∧ ∀ (j : Nat) (y : Ses), j < k + 1 → l[j]? = some y → ((((L).set (k * 3) (.int .u64 I)).set (k * 3 + 1) (.int .i64 D)).set (k * 3 + 2) (.slice p2 m d2))[j * 3]? = some (.int .u64 y.1) ∧ ((((L).set (k * 3) (.int .u64 I)).set (k * 3 + 1) (.int .i64 D)).set (k * 3 + 2) (.slice p2 m d2))[j * 3 + 1]? = some (.int .i64 y.2.1) ∧ ∃ v, ((((L).set (k * 3) (.int .u64 I)).set (k * 3 + 1) (.int .i64 D)).set (k * 3 + 2) (.slice p2 m d2))[j * 3 + 2]? = some v ∧ Ab (G + 1) w3 (fun u => RdEw BZ u v y.2.2)) := by
    refine ⟨by rw [hw3]; exact (World.ownsRow.stored ((World.ownsRow.stored ((World.ownsRow.stored (ho2) (k * 3) _).1) (k * 3 + 1) _).1) (k * 3 + 2) _).1, fun j z hj hz => ?_⟩
    by_cases ej : j = k
    ·rw [ej] at hz ⊢
     rw [hy] at hz
     cases hz
     refine ⟨by rw [List.getElem?_set_ne (by omega)]; rw [List.getElem?_set_ne (by omega)]; exact List.getElem?_set_self (by first | omega | (simp only [List.length_set]; omega)), by rw [List.getElem?_set_ne (by omega)]; exact List.getElem?_set_self (by first | omega | (simp only [List.length_set]; omega)), _, by  exact List.getElem?_set_self (by first | omega | (simp only [List.length_set]; omega)), ?_⟩
     exact (by rw [hw3]; exact Ab.set (Ab.set (Ab.set (Ab.mono hab (by omega)) (a := ⟨G, k * 3, none⟩) (by show G < _; omega) _) (a := ⟨G, k * 3 + 1, none⟩) (by show G < _; omega) _) (a := ⟨G, k * 3 + 2, none⟩) (by show G < _; omega) _)
    ·obtain ⟨q1, q2, v, q3, q4⟩ := hL j z (by omega) hz
     refine ⟨(by rw [List.getElem?_set_ne (by omega)]; rw [List.getElem?_set_ne (by omega)]; rw [List.getElem?_set_ne (by omega)]; exact q1), (by rw [List.getElem?_set_ne (by omega)]; rw [List.getElem?_set_ne (by omega)]; rw [List.getElem?_set_ne (by omega)]; exact q2), v, (by rw [List.getElem?_set_ne (by omega)]; rw [List.getElem?_set_ne (by omega)]; rw [List.getElem?_set_ne (by omega)]; exact q3), ?_⟩
     exact (by rw [hw3]; exact Ab.set (Ab.set (Ab.set (q4.below hb2) (a := ⟨G, k * 3, none⟩) (by show G < _; omega) _) (a := ⟨G, k * 3 + 1, none⟩) (by show G < _; omega) _) (a := ⟨G, k * 3 + 2, none⟩) (by show G < _; omega) _)
   have bb : Below w.heap.size w w3 := by rw [hw3]; exact Below.setCell (Below.setCell (Below.setCell (b2) (p := ⟨G, k * 3, none⟩) hG1 _) (p := ⟨G, k * 3 + 1, none⟩) hG1 _) (p := ⟨G, k * 3 + 2, none⟩) hG1 _
   have zz3 : G < w3.heap.size := by rw [hw3]; simpa using hzz
   clear ho hL hin ho2 hab hlen hown hb b2 hb2 hbr
   go_wp2_with fail
   rw [← hw3]
   clear hw3 hc0 hc1 hc2 hf0 hf1 hf2 hcI hcD hcQ
   go_wp2
   go_roundw
   case rel => exact ⟨k + 1, _, by omega, by go_num, HIN, bb, zz3⟩
   case measure => simp [intOf]; omega
  ·have hlt' : ¬ (k : Int) < (n : Int) := by omega
   have ekn : k = n := by omega
   subst ekn
   obtain ⟨ho, hL⟩ := unhide hin
   have hfin : Ab w.heap.size wr (fun u => RdSw BZ u (.slice (some ⟨G, 0, none⟩) k k) l) := by
    intro u hu
    refine ⟨some ⟨G, 0, none⟩, k, by rw [unhide en], Nf.row ho (by omega) (hu G (by omega) hzr), ?_⟩
    refine .inr ⟨G, 0, rfl, fun i y hy => ?_⟩
    have hil : i < k := by rw [← unhide en]; exact (List.getElem?_eq_some_iff.1 hy).1
    have hcc : ∀ j, j < k * 3 → u.cell? ⟨G, 0 + j, none⟩ = L[j]? := fun j hj => by
     rw [Nat.zero_add, cell_at_heap (hu G (by omega) hzr), ho.cellAt j hj]
    have hu' : ∀ q, G + 1 ≤ q → q < wr.heap.size → u.heap[q]? = wr.heap[q]? := fun q h1 h2 => hu q (by omega) h2
    obtain ⟨q1, q2, v, q3, q4⟩ := hL i y hil hy
    refine ⟨by rw [hcc _ (by omega)]; exact q1, by rw [Nat.add_assoc, hcc _ (by omega)]; exact q2, v, by rw [Nat.add_assoc, hcc _ (by omega)]; exact q3, q4 u hu'⟩
   clear ho hL hin hown hb
   go_wp2
   go_ret
   exact ⟨_, _, rfl, hfin, hbr⟩
set_option maxHeartbeats 3200000 in
theorem heldNodeS_lv (p : Option Addr) (c n : Nat) (xs : List Nod) (A : List Lf) (k : Int) (w : World) (h : LvN w (.slice p n c) xs A) (hA : HeldAt w A k) (k0 : 0 ≤ k) (k1 : k + A.length ≤ 100000000) :
  Calls Tryz.prog 47 #[.slice p n c, .int .i64 k] w fun e w' => e = .returned (.int .i64 (k + A.length)) ∧ Below w.heap.size w w' := by
 have hnA := h.len (fun x b a l hl => hl.pos)
 obtain ⟨Ls, en, lL, eA, hat⟩ := h.at
 have HAT := hide hat
 have HA := hide (show HeldAt w Ls.flatten k by rw [← eA]; exact hA)
 have EA := hide eA
 have K1 : k + (Ls.flatten.length : Int) ≤ 100000000 := by rw [← eA]; exact k1
 have hn : n ≤ 100000000 := by omega
 have LL := hide lL
 clear h hat hA eA en lL hnA
 go_enter Tryz.func47, Tryz.ntmps47
 go_wp2
 go_loopw [1, 5] (fun kk i wr => ∃ j : Nat, j ≤ n ∧ i = .int .i64 j ∧ kk = .int .i64 (k + (((Ls.take j).flatten.length : Nat) : Int)) ∧ Below w.heap.size w wr) (fun _ i _ => n - (intOf i).toNat)
 case atStart => exact ⟨0, Nat.zero_le _, rfl, by simp, Below.refl _ _⟩
 case round =>
  obtain ⟨j, hj, rfl, rfl, hbr⟩ := hrel
  have hle := flatten_take_le Ls j
  by_cases hlt : j < n
  ·have hlt' : (j : Int) < (n : Int) := by omega
   obtain ⟨b, o, x, l, rfl, hx, hl, hP, hfl, hsub⟩ := unhide HAT j hlt
   have hh := ((unhide HA).flat hfl).below hbr
   have hTl : (Ls.take (j + 1)).flatten.length = (Ls.take j).flatten.length + l.length := by rw [hfl, List.length_append]
   have hle1 : k + ((Ls.take j).flatten.length : Int) + (l.length : Int) ≤ 100000000 := by
    have := flatten_take_le Ls (j + 1)
    omega
   have HT := hide hTl
   generalize hT : (Ls.take j).flatten.length = T at *
   clear hT hx hl hfl hsub hTl
   have hT0 : 0 ≤ k + (T : Int) := by omega
   have hP' := hP.below hbr
   obtain ⟨p0, c0, p1, c1, p4, c4, p7, c7, l0, l1, l4, l7, rfl, ⟨h1, h2⟩, ⟨h3, h4⟩, ⟨h5, h6⟩, ⟨h7, h8⟩⟩ := hP'
   have HD := hide (And.intro h1 (And.intro h3 (And.intro h5 h7)))
   have HLV := hide (And.intro h2 (And.intro h4 (And.intro h6 h8)))
   clear h1 h2 h3 h4 h5 h6 h7 h8
   have hlen : k + (T : Int) + (4 + (l0.length : Int) + (l1.length : Int) + (l4.length : Int) + (l7.length : Int)) ≤ 100000000 := by simp only [List.length_append, List.length_cons] at hle1; omega
   clear hle1 hP
   have s0 : HeldAt wr l0 (k + (T : Int)) := (HeldAt.app hh).1
   have t0 := (HeldAt.app hh).2
   have s1 : HeldAt wr l1 (k + (T : Int) + (l0.length : Int)) := (HeldAt.app t0).1
   have t1 := (HeldAt.app t0).2
   have hc2 : wr.cell? ⟨b, o + j * 8 + 2, none⟩ = some (.int .u64 (k + (T : Int) + (l0.length : Int) + (l1.length : Int))) := (HeldAt.cons t1).1
   have t2 := (HeldAt.cons t1).2
   have hc3 : wr.cell? ⟨b, o + j * 8 + 3, none⟩ = some (.int .i64 (k + (T : Int) + (l0.length : Int) + (l1.length : Int) + 1)) := (HeldAt.cons t2).1
   have t3 := (HeldAt.cons t2).2
   have s4 : HeldAt wr l4 (k + (T : Int) + (l0.length : Int) + (l1.length : Int) + 1 + 1) := (HeldAt.app t3).1
   have t4 := (HeldAt.app t3).2
   have hc5 : wr.cell? ⟨b, o + j * 8 + 5, none⟩ = some (.int .u64 (k + (T : Int) + (l0.length : Int) + (l1.length : Int) + 1 + 1 + (l4.length : Int))) := (HeldAt.cons t4).1
   have t5 := (HeldAt.cons t4).2
   have hc6 : wr.cell? ⟨b, o + j * 8 + 6, none⟩ = some (.int .u64 (k + (T : Int) + (l0.length : Int) + (l1.length : Int) + 1 + 1 + (l4.length : Int) + 1)) := (HeldAt.cons t5).1
   have t6 := (HeldAt.cons t5).2
   have s7 : HeldAt wr l7 (k + (T : Int) + (l0.length : Int) + (l1.length : Int) + 1 + 1 + (l4.length : Int) + 1 + 1) := t6
   have HS := hide (And.intro s0 (And.intro s1 (And.intro s4 (s7))))
   have HCC := hide (And.intro hc2 (And.intro hc3 (And.intro hc5 (hc6))))
   have W0 := hide (Below.refl wr.heap.size wr)
   clear hh t2 t3 t5 t6 t0 t1 t4 s0 s1 s4 s7 hc2 hc3 hc5 hc6
   have hd0 := cell_below (unhide HD).1 (unhide W0)
   go_wp2_with fail
   clear hd0
   refine (heldByteS_lv p0 c0 x.path.length (x.path) l0 (k + (T : Int)) _ (unhide HLV).1 ((unhide HS).1.below (unhide W0)) (by omega) (by omega)).mono ?_
   rintro e v0 ⟨rfl, N0⟩
   have BV0 := hide (Below.step (unhide W0) N0)
   have hpos0 : ¬ k + (T : Int) + (l0.length : Int) < 0 := by omega
   clear N0
   have hd1 := cell_below (unhide HD).2.1 (unhide BV0)
   go_wp2_with fail
   clear hd1
   refine (heldByteS_lv p1 c1 x.value.length (x.value) l1 (k + (T : Int) + (l0.length : Int)) _ (unhide HLV).2.1 ((unhide HS).2.1.below (unhide BV0)) (by omega) (by omega)).mono ?_
   rintro e v1 ⟨rfl, N1⟩
   have BV1 := hide (Below.step (unhide BV0) N1)
   have hpos1 : ¬ k + (T : Int) + (l0.length : Int) + (l1.length : Int) < 0 := by omega
   clear N1
   have hc2 := cell_below (unhide HCC).1 (unhide BV1)
   have hne2 : ((k + (T : Int) + (l0.length : Int) + (l1.length : Int)) != (k + (T : Int) + (l0.length : Int) + (l1.length : Int))) = false := by simp
   have hc3 := cell_below (unhide HCC).2.1 (unhide BV1)
   have hne3 : ((k + (T : Int) + (l0.length : Int) + (l1.length : Int) + 1) != (k + (T : Int) + (l0.length : Int) + (l1.length : Int) + 1)) = false := by simp
   have hd4 := cell_below (unhide HD).2.2.1 (unhide BV1)
   go_wp2_with fail
   clear hc2 hne2 hc3 hne3 hd4
   refine (heldUint64S_lv p4 c4 x.holders.length (x.holders) l4 (k + (T : Int) + (l0.length : Int) + (l1.length : Int) + 1 + 1) _ (unhide HLV).2.2.1 ((unhide HS).2.2.1.below (unhide BV1)) (by omega) (by omega)).mono ?_
   rintro e v2 ⟨rfl, N2⟩
   have BV2 := hide (Below.step (unhide BV1) N2)
   have hpos2 : ¬ k + (T : Int) + (l0.length : Int) + (l1.length : Int) + 1 + 1 + (l4.length : Int) < 0 := by omega
   clear N2
   have hc5 := cell_below (unhide HCC).2.2.1 (unhide BV2)
   have hne5 : ((k + (T : Int) + (l0.length : Int) + (l1.length : Int) + 1 + 1 + (l4.length : Int)) != (k + (T : Int) + (l0.length : Int) + (l1.length : Int) + 1 + 1 + (l4.length : Int))) = false := by simp
   have hc6 := cell_below (unhide HCC).2.2.2 (unhide BV2)
   have hne6 : ((k + (T : Int) + (l0.length : Int) + (l1.length : Int) + 1 + 1 + (l4.length : Int) + 1) != (k + (T : Int) + (l0.length : Int) + (l1.length : Int) + 1 + 1 + (l4.length : Int) + 1)) = false := by simp
   have hd7 := cell_below (unhide HD).2.2.2 (unhide BV2)
   go_wp2_with fail
   clear hc5 hne5 hc6 hne6 hd7
   refine (heldUint64S_lv p7 c7 x.watchers.length (x.watchers) l7 (k + (T : Int) + (l0.length : Int) + (l1.length : Int) + 1 + 1 + (l4.length : Int) + 1 + 1) _ (unhide HLV).2.2.2 ((unhide HS).2.2.2.below (unhide BV2)) (by omega) (by omega)).mono ?_
   rintro e v3 ⟨rfl, N3⟩
   have BV3 := hide (Below.step (unhide BV2) N3)
   have hpos3 : ¬ k + (T : Int) + (l0.length : Int) + (l1.length : Int) + 1 + 1 + (l4.length : Int) + 1 + 1 + (l7.length : Int) < 0 := by omega
   clear N3
   have b1 := Below.step hbr (unhide BV3)
   clear hbr
   go_wp2
   go_roundw
   case rel => exact ⟨j + 1, by omega, by go_num, by rw [unhide HT]; first | go_num | (simp; omega) | (congr 1; simp; omega), by first | exact b1 | exact below_drewN b1 _⟩
   case measure => simp [intOf]; omega
  ·have e : j = n := by omega
   subst e
   have e2 : (Ls.take j).flatten = A := by rw [← unhide LL, List.take_length]; exact (unhide EA).symm
   rw [e2]
   clear hle HAT HA
   go_wp2
   go_ret
   exact ⟨rfl, hbr⟩
end Go.Proofs.YtnbgnhhnpmmloaaGreatDoor
