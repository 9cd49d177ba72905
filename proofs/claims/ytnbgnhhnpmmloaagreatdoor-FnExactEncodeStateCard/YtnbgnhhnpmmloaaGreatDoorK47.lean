import Derived.Test.YtnbgnhhnpmmloaaGreatDoorLWn
namespace Go.Proofs.YtnbgnhhnpmmloaaGreatDoor
open Go.ChangeShapes Go.WideShapes Go.ChangeAt Go.RowKit
set_option linter.unusedVariables false
set_option linter.unusedSimpArgs false
set_option maxRecDepth 100000
set_option maxHeartbeats 3200000 in
theorem toNodeS_aw (p : Option Addr) (c n : Nat) (l : List Nod) (en : Hid (l.length = n)) (w : World) (BZ : Nat) (hB : BZ ≤ w.heap.size) (h : RdN w (.slice p n c) l) (hn : n ≤ 1048576) (hel : Hid (∀ y ∈ l, y.path.length ≤ 1048576 ∧ y.value.length ≤ 1048576 ∧ y.holders.length ≤ 1048576 ∧ y.watchers.length ≤ 1048576)) :
  Calls Tryz.prog 51 #[.slice p n c] w fun e w' => ∃ p' c', e = .returned (.slice p' n c') ∧ Ab w.heap.size w' (fun u => RdNw BZ u (.slice p' n c') l) ∧ Below w.heap.size w w' := by
 obtain ⟨i, hi, hz0, hz1, hz2⟩ := info_parts Tryz.infoNod
 have HR := hide fun (w' : World) (hb : Below w.heap.size w w') => h.below hb
 clear h
 go_enter Tryz.func51, Tryz.ntmps51
 go_wp2_with (first | (at_make; refine wpList_make_full _ rfl _ _ 25 rfl w.heap.size 66 i _ 8 Tryz.underlying25 hi hz0 hz1 _ _ _ _ n rfl rfl rfl rfl ?b2 ?b3 ?b4 ?_))
 case b2 => rw [hz2]; omega
 case b3 => unfold maxLen; omega
 case b4 => exact Nat.le_refl _
 intro w1 hown hg
 have hb := grown_below hg
 obtain ⟨G, eG⟩ : ∃ G, G = w.heap.size := ⟨_, rfl⟩
 rw [← eG] at hown ⊢
 have zG : G < w1.heap.size := (World.ownsRow.lt hown G rfl).2
 have hG1 : w.heap.size ≤ G := by omega
 have hG2 : G ≤ w.heap.size := by omega
 clear hg eG
 go_wp2_with fail
 go_loopw [4] (fun iv wr => ∃ (k : Nat) (L : List Value), k ≤ n ∧ iv = .int .i64 k ∧ Hid (wr.ownsRow G 66 8 (.slice (some ⟨G, 0, none⟩) n n) n L ∧ ∀ (j : Nat) (y : Nod), j < k → l[j]? = some y → ∃ P V H U, L[j * 8]? = some (P) ∧ L[j * 8 + 1]? = some (V) ∧ L[j * 8 + 2]? = some (.int .u64 y.owner) ∧ L[j * 8 + 3]? = some (.int .i64 y.mode) ∧ L[j * 8 + 4]? = some (H) ∧ L[j * 8 + 5]? = some (.int .u64 y.epoch) ∧ L[j * 8 + 6]? = some (.int .u64 y.gen) ∧ L[j * 8 + 7]? = some (U) ∧ Ab (G + 1) wr (fun u => (Rd u P y.path ∧ CapOK P ∧ Nf BZ u P) ∧ (Rd u V y.value ∧ CapOK V ∧ Nf BZ u V) ∧ (RdU u H y.holders ∧ Nf BZ u H) ∧ (RdU u U y.watchers ∧ Nf BZ u U))) ∧ Below w.heap.size w wr ∧ G < wr.heap.size) (fun iv _ => n - (intOf iv).toNat)
 case atStart => exact ⟨0, _, Nat.zero_le _, rfl, ⟨hown, fun j y hj => by omega⟩, hb, zG⟩
 case round =>
  obtain ⟨k, L, hk, rfl, hin, hbr, hzr⟩ := hrel
  by_cases hlt : k < n
  ·have hlt' : (k : Int) < (n : Int) := by omega
   have hkl : k < l.length := by rw [unhide en]; exact hlt
   obtain ⟨y, hy⟩ : ∃ y, l[k]? = some y := ⟨_, List.getElem?_eq_getElem hkl⟩
   have hby := unhide hel y (List.mem_of_getElem? hy)
   obtain ⟨b, o, rfl, hA⟩ := (unhide HR _ hbr).at (by omega)
   obtain ⟨P1, V1, H1, U1, na⟩ := hA k y hy
   obtain ⟨pp, a1, n1, rfl, e1⟩ := na.r0.slc
   obtain ⟨pv, a2, n2, rfl, e2⟩ := na.r1.slc
   obtain ⟨ph, a3, n3, rfl, e3⟩ := na.r4.slc
   obtain ⟨pu, a4, n4, rfl, e4⟩ := na.r7.slc
   have m1 : n1 ≤ 1048576 := by rw [← unhide e1]; exact hby.1
   have m2 : n2 ≤ 1048576 := by rw [← unhide e2]; exact hby.2.1
   have m3 : n3 ≤ 1048576 := by rw [← unhide e3]; exact hby.2.2.1
   have m4 : n4 ≤ 1048576 := by rw [← unhide e4]; exact hby.2.2.2
   have HA := hide (And.intro na.r0 (And.intro na.r1 (And.intro na.r4 na.r7)))
   obtain ⟨z0, z1, z2, z3, z4, z5, z6, z7, -, -, -, -, -⟩ := na
   obtain ⟨ow, mo, ep, ge, g1, g2, g3, g4⟩ : ∃ a b c d, y.owner = a ∧ y.mode = b ∧ y.epoch = c ∧ y.gen = d := ⟨_, _, _, _, rfl, rfl, rfl, rfl⟩
   rw [g1] at z2
   rw [g2] at z3
   rw [g3] at z5
   rw [g4] at z6
   clear hA
   clear hkl hby
   go_wp2_with fail
   refine (toNode_aw ow mo ep ge pp pv ph pu a1 a2 a3 a4 n1 n2 n3 n4 y.path y.value y.holders y.watchers e1 e2 e3 e4 _ BZ (Nat.le_trans hB hbr.size) (unhide HA).1 (unhide HA).2.1 (unhide HA).2.2.1 (unhide HA).2.2.2 m1 m2 m3 m4).mono ?_
   rintro r w2 ⟨p0, d0, p1, d1, p4, d4, p7, d7, rfl, hab, hb2⟩
   have b2 := Below.step hbr hb2
   obtain ⟨ho, hL⟩ := unhide hin
   have ho2 := ho.kept (grown_of_b hb2) (by right; simp [Value.ownBlock])
   have hlen : L.length = n * 8 := ho.1
   obtain ⟨u0, hc0⟩ : ∃ u, w2.cell? ⟨G, k * 8, none⟩ = some u := by
    rw [ho2.cellAt (k * 8) (by omega)]
    exact ⟨_, List.getElem?_eq_getElem (by omega)⟩
   have hf0 := ho2.frozenAt (k * 8)
   obtain ⟨u1, hc1⟩ : ∃ u, w2.cell? ⟨G, k * 8 + 1, none⟩ = some u := by
    rw [ho2.cellAt (k * 8 + 1) (by omega)]
    exact ⟨_, List.getElem?_eq_getElem (by omega)⟩
   have hf1 := ho2.frozenAt (k * 8 + 1)
   obtain ⟨u2, hc2⟩ : ∃ u, w2.cell? ⟨G, k * 8 + 2, none⟩ = some u := by
    rw [ho2.cellAt (k * 8 + 2) (by omega)]
    exact ⟨_, List.getElem?_eq_getElem (by omega)⟩
   have hf2 := ho2.frozenAt (k * 8 + 2)
   obtain ⟨u3, hc3⟩ : ∃ u, w2.cell? ⟨G, k * 8 + 3, none⟩ = some u := by
    rw [ho2.cellAt (k * 8 + 3) (by omega)]
    exact ⟨_, List.getElem?_eq_getElem (by omega)⟩
   have hf3 := ho2.frozenAt (k * 8 + 3)
   obtain ⟨u4, hc4⟩ : ∃ u, w2.cell? ⟨G, k * 8 + 4, none⟩ = some u := by
    rw [ho2.cellAt (k * 8 + 4) (by omega)]
    exact ⟨_, List.getElem?_eq_getElem (by omega)⟩
   have hf4 := ho2.frozenAt (k * 8 + 4)
   obtain ⟨u5, hc5⟩ : ∃ u, w2.cell? ⟨G, k * 8 + 5, none⟩ = some u := by
    rw [ho2.cellAt (k * 8 + 5) (by omega)]
    exact ⟨_, List.getElem?_eq_getElem (by omega)⟩
   have hf5 := ho2.frozenAt (k * 8 + 5)
   obtain ⟨u6, hc6⟩ : ∃ u, w2.cell? ⟨G, k * 8 + 6, none⟩ = some u := by
    rw [ho2.cellAt (k * 8 + 6) (by omega)]
    exact ⟨_, List.getElem?_eq_getElem (by omega)⟩
   have hf6 := ho2.frozenAt (k * 8 + 6)
   obtain ⟨u7, hc7⟩ : ∃ u, w2.cell? ⟨G, k * 8 + 7, none⟩ = some u := by
    rw [ho2.cellAt (k * 8 + 7) (by omega)]
    exact ⟨_, List.getElem?_eq_getElem (by omega)⟩
   have hf7 := ho2.frozenAt (k * 8 + 7)
   have hzz : G < w2.heap.size := Nat.lt_of_lt_of_le hzr hb2.size
   obtain ⟨w3, hw3⟩ : ∃ w3, w3 = ((((((((w2.setCell ⟨G, k * 8, none⟩ (.slice p0 n1 d0)).setCell ⟨G, k * 8 + 1, none⟩ (.slice p1 n2 d1)).setCell ⟨G, k * 8 + 2, none⟩ (.int .u64 ow)).setCell ⟨G, k * 8 + 3, none⟩ (.int .i64 mo)).setCell ⟨G, k * 8 + 4, none⟩ (.slice p4 n3 d4)).setCell ⟨G, k * 8 + 5, none⟩ (.int .u64 ep)).setCell ⟨G, k * 8 + 6, none⟩ (.int .u64 ge)).setCell ⟨G, k * 8 + 7, none⟩ (.slice p7 n4 d7)) := ⟨_, rfl⟩
   have HIN : Hid (w3.ownsRow G 66 8 (.slice (some ⟨G, 0, none⟩) n n) n (((((((((L).set (k * 8) (.slice p0 n1 d0)).set (k * 8 + 1) (.slice p1 n2 d1)).set (k * 8 + 2) (.int .u64 ow)).set (k * 8 + 3) (.int .i64 mo)).set (k * 8 + 4) (.slice p4 n3 d4)).set (k * 8 + 5) (.int .u64 ep)).set (k * 8 + 6) (.int .u64 ge)).set (k * 8 + 7) (.slice p7 n4 d7)) ∧ ∀ (j : Nat) (y : Nod), j < k + 1 → l[j]? = some y → ∃ P V H U, (((((((((L).set (k * 8) (.slice p0 n1 d0)).set (k * 8 + 1) (.slice p1 n2 d1)).set (k * 8 + 2) (.int .u64 ow)).set (k * 8 + 3) (.int .i64 mo)).set (k * 8 + 4) (.slice p4 n3 d4)).set (k * 8 + 5) (.int .u64 ep)).set (k * 8 + 6) (.int .u64 ge)).set (k * 8 + 7) (.slice p7 n4 d7))[j * 8]? = some (P) ∧ (((((((((L).set (k * 8) (.slice p0 n1 d0)).set (k * 8 + 1) (.slice p1 n2 d1)).set (k * 8 + 2) (.int .u64 ow)).set (k * 8 + 3) (.int .i64 mo)).set (k * 8 + 4) (.slice p4 n3 d4)).set (k * 8 + 5) (.int .u64 ep)).set (k * 8 + 6) (.int .u64 ge)).set (k * 8 + 7) (.slice p7 n4 d7))[j * 8 + 1]? = some (V) ∧ (((((((((L).set (k * 8) (.slice p0 n1 d0)).set (k * 8 + 1) (.slice p1 n2 d1)).set (k * 8 + 2) (.int .u64 ow)).set (k * 8 + 3) (.int .i64 mo)).set (k * 8 + 4) (.slice p4 n3 d4)).set (k * 8 + 5) (.int .u64 ep)).set (k * 8 + 6) (.int .u64 ge)).set (k * 8 + 7) (.slice p7 n4 d7))[j * 8 + 2]? = some (.int .u64 y.owner) ∧ (((((((((L).set (k * 8) (.slice p0 n1 d0)).set (k * 8 + 1) (.slice p1 n2 d1)).set (k * 8 + 2) (.int .u64 ow)).set (k * 8 + 3) (.int .i64 mo)).set (k * 8 + 4) (.slice p4 n3 d4)).set (k * 8 + 5) (.int .u64 ep)).set (k * 8 + 6) (.int .u64 ge)).set (k * 8 + 7) (.slice p7 n4 d7))[j * 8 + 3]? = some (.int .i64 y.mode) ∧ (((((((((L).set (k * 8) (.slice p0 n1 d0)).set (k * 8 + 1) (.slice p1 n2 d1)).set (k * 8 + 2) (.int .u64 ow)).set (k * 8 + 3) (.int .i64 mo)).set (k * 8 + 4) (.slice p4 n3 d4)).set (k * 8 + 5) (.int .u64 ep)).set (k * 8 + 6) (.int .u64 ge)).set (k * 8 + 7) (.slice p7 n4 d7))[j * 8 + 4]? = some (H) ∧ (((((((((L).set (k * 8) (.slice p0 n1 d0)).set (k * 8 + 1) (.slice p1 n2 d1)).set (k * 8 + 2) (.int .u64 ow)).set (k * 8 + 3) (.int .i64 mo)).set (k * 8 + 4) (.slice p4 n3 d4)).set (k * 8 + 5) (.int .u64 ep)).set (k * 8 + 6) (.int .u64 ge)).set (k * 8 + 7) (.slice p7 n4 d7))[j * 8 + 5]? = some (.int .u64 y.epoch) ∧ (((((((((L).set (k * 8) (.slice p0 n1 d0)).set (k * 8 + 1) (.slice p1 n2 d1)).set (k * 8 + 2) (.int .u64 ow)).set (k * 8 + 3) (.int .i64 mo)).set (k * 8 + 4) (.slice p4 n3 d4)).set (k * 8 + 5) (.int .u64 ep)).set (k * 8 + 6) (.int .u64 ge)).set (k * 8 + 7) (.slice p7 n4 d7))[j * 8 + 6]? = some (.int .u64 y.gen) ∧ (((((((((L).set (k * 8) (.slice p0 n1 d0)).set (k * 8 + 1) (.slice p1 n2 d1)).set (k * 8 + 2) (.int .u64 ow)).set (k * 8 + 3) (.int .i64 mo)).set (k * 8 + 4) (.slice p4 n3 d4)).set (k * 8 + 5) (.int .u64 ep)).set (k * 8 + 6) (.int .u64 ge)).set (k * 8 + 7) (.slice p7 n4 d7))[j * 8 + 7]? = some (U) ∧ Ab (G + 1) w3 (fun u => (Rd u P y.path ∧ CapOK P ∧ Nf BZ u P) ∧ (Rd u V y.value ∧ CapOK V ∧ Nf BZ u V) ∧ (RdU u H y.holders ∧ Nf BZ u H) ∧ (RdU u U y.watchers ∧ Nf BZ u U))) := by
    refine ⟨by rw [hw3]; exact (World.ownsRow.stored ((World.ownsRow.stored ((World.ownsRow.stored ((World.ownsRow.stored ((World.ownsRow.stored ((World.ownsRow.stored ((World.ownsRow.stored ((World.ownsRow.stored (ho2) (k * 8) _).1) (k * 8 + 1) _).1) (k * 8 + 2) _).1) (k * 8 + 3) _).1) (k * 8 + 4) _).1) (k * 8 + 5) _).1) (k * 8 + 6) _).1) (k * 8 + 7) _).1, fun j z hj hz => ?_⟩
    by_cases ej : j = k
    ·rw [ej] at hz ⊢
     rw [hy] at hz
     cases hz
     refine ⟨_, _, _, _, by rw [List.getElem?_set_ne (by omega)]; rw [List.getElem?_set_ne (by omega)]; rw [List.getElem?_set_ne (by omega)]; rw [List.getElem?_set_ne (by omega)]; rw [List.getElem?_set_ne (by omega)]; rw [List.getElem?_set_ne (by omega)]; rw [List.getElem?_set_ne (by omega)]; exact List.getElem?_set_self (by first | omega | (simp only [List.length_set]; omega)), by rw [List.getElem?_set_ne (by omega)]; rw [List.getElem?_set_ne (by omega)]; rw [List.getElem?_set_ne (by omega)]; rw [List.getElem?_set_ne (by omega)]; rw [List.getElem?_set_ne (by omega)]; rw [List.getElem?_set_ne (by omega)]; exact List.getElem?_set_self (by first | omega | (simp only [List.length_set]; omega)), by rw [List.getElem?_set_ne (by omega)]; rw [List.getElem?_set_ne (by omega)]; rw [List.getElem?_set_ne (by omega)]; rw [List.getElem?_set_ne (by omega)]; rw [List.getElem?_set_ne (by omega)]; rw [g1]; exact List.getElem?_set_self (by first | omega | (simp only [List.length_set]; omega)), by rw [List.getElem?_set_ne (by omega)]; rw [List.getElem?_set_ne (by omega)]; rw [List.getElem?_set_ne (by omega)]; rw [List.getElem?_set_ne (by omega)]; rw [g2]; exact List.getElem?_set_self (by first | omega | (simp only [List.length_set]; omega)), by rw [List.getElem?_set_ne (by omega)]; rw [List.getElem?_set_ne (by omega)]; rw [List.getElem?_set_ne (by omega)]; exact List.getElem?_set_self (by first | omega | (simp only [List.length_set]; omega)), by rw [List.getElem?_set_ne (by omega)]; rw [List.getElem?_set_ne (by omega)]; rw [g3]; exact List.getElem?_set_self (by first | omega | (simp only [List.length_set]; omega)), by rw [List.getElem?_set_ne (by omega)]; rw [g4]; exact List.getElem?_set_self (by first | omega | (simp only [List.length_set]; omega)), by  exact List.getElem?_set_self (by first | omega | (simp only [List.length_set]; omega)), ?_⟩
     exact (by rw [hw3]; exact Ab.set (Ab.set (Ab.set (Ab.set (Ab.set (Ab.set (Ab.set (Ab.set (Ab.mono hab (by omega)) (a := ⟨G, k * 8, none⟩) (by show G < _; omega) _) (a := ⟨G, k * 8 + 1, none⟩) (by show G < _; omega) _) (a := ⟨G, k * 8 + 2, none⟩) (by show G < _; omega) _) (a := ⟨G, k * 8 + 3, none⟩) (by show G < _; omega) _) (a := ⟨G, k * 8 + 4, none⟩) (by show G < _; omega) _) (a := ⟨G, k * 8 + 5, none⟩) (by show G < _; omega) _) (a := ⟨G, k * 8 + 6, none⟩) (by show G < _; omega) _) (a := ⟨G, k * 8 + 7, none⟩) (by show G < _; omega) _)
    ·obtain ⟨P, V, H, U, q0, q1, q2, q3, q4, q5, q6, q7, q8⟩ := hL j z (by omega) hz
     refine ⟨P, V, H, U, (by rw [List.getElem?_set_ne (by omega)]; rw [List.getElem?_set_ne (by omega)]; rw [List.getElem?_set_ne (by omega)]; rw [List.getElem?_set_ne (by omega)]; rw [List.getElem?_set_ne (by omega)]; rw [List.getElem?_set_ne (by omega)]; rw [List.getElem?_set_ne (by omega)]; rw [List.getElem?_set_ne (by omega)]; exact q0), (by rw [List.getElem?_set_ne (by omega)]; rw [List.getElem?_set_ne (by omega)]; rw [List.getElem?_set_ne (by omega)]; rw [List.getElem?_set_ne (by omega)]; rw [List.getElem?_set_ne (by omega)]; rw [List.getElem?_set_ne (by omega)]; rw [List.getElem?_set_ne (by omega)]; rw [List.getElem?_set_ne (by omega)]; exact q1), (by rw [List.getElem?_set_ne (by omega)]; rw [List.getElem?_set_ne (by omega)]; rw [List.getElem?_set_ne (by omega)]; rw [List.getElem?_set_ne (by omega)]; rw [List.getElem?_set_ne (by omega)]; rw [List.getElem?_set_ne (by omega)]; rw [List.getElem?_set_ne (by omega)]; rw [List.getElem?_set_ne (by omega)]; exact q2), (by rw [List.getElem?_set_ne (by omega)]; rw [List.getElem?_set_ne (by omega)]; rw [List.getElem?_set_ne (by omega)]; rw [List.getElem?_set_ne (by omega)]; rw [List.getElem?_set_ne (by omega)]; rw [List.getElem?_set_ne (by omega)]; rw [List.getElem?_set_ne (by omega)]; rw [List.getElem?_set_ne (by omega)]; exact q3), (by rw [List.getElem?_set_ne (by omega)]; rw [List.getElem?_set_ne (by omega)]; rw [List.getElem?_set_ne (by omega)]; rw [List.getElem?_set_ne (by omega)]; rw [List.getElem?_set_ne (by omega)]; rw [List.getElem?_set_ne (by omega)]; rw [List.getElem?_set_ne (by omega)]; rw [List.getElem?_set_ne (by omega)]; exact q4), (by rw [List.getElem?_set_ne (by omega)]; rw [List.getElem?_set_ne (by omega)]; rw [List.getElem?_set_ne (by omega)]; rw [List.getElem?_set_ne (by omega)]; rw [List.getElem?_set_ne (by omega)]; rw [List.getElem?_set_ne (by omega)]; rw [List.getElem?_set_ne (by omega)]; rw [List.getElem?_set_ne (by omega)]; exact q5), (by rw [List.getElem?_set_ne (by omega)]; rw [List.getElem?_set_ne (by omega)]; rw [List.getElem?_set_ne (by omega)]; rw [List.getElem?_set_ne (by omega)]; rw [List.getElem?_set_ne (by omega)]; rw [List.getElem?_set_ne (by omega)]; rw [List.getElem?_set_ne (by omega)]; rw [List.getElem?_set_ne (by omega)]; exact q6), (by rw [List.getElem?_set_ne (by omega)]; rw [List.getElem?_set_ne (by omega)]; rw [List.getElem?_set_ne (by omega)]; rw [List.getElem?_set_ne (by omega)]; rw [List.getElem?_set_ne (by omega)]; rw [List.getElem?_set_ne (by omega)]; rw [List.getElem?_set_ne (by omega)]; rw [List.getElem?_set_ne (by omega)]; exact q7), ?_⟩
     exact (by rw [hw3]; exact Ab.set (Ab.set (Ab.set (Ab.set (Ab.set (Ab.set (Ab.set (Ab.set (q8.below hb2) (a := ⟨G, k * 8, none⟩) (by show G < _; omega) _) (a := ⟨G, k * 8 + 1, none⟩) (by show G < _; omega) _) (a := ⟨G, k * 8 + 2, none⟩) (by show G < _; omega) _) (a := ⟨G, k * 8 + 3, none⟩) (by show G < _; omega) _) (a := ⟨G, k * 8 + 4, none⟩) (by show G < _; omega) _) (a := ⟨G, k * 8 + 5, none⟩) (by show G < _; omega) _) (a := ⟨G, k * 8 + 6, none⟩) (by show G < _; omega) _) (a := ⟨G, k * 8 + 7, none⟩) (by show G < _; omega) _)
   have bb : Below w.heap.size w w3 := by rw [hw3]; exact Below.setCell (Below.setCell (Below.setCell (Below.setCell (Below.setCell (Below.setCell (Below.setCell (Below.setCell (b2) (p := ⟨G, k * 8, none⟩) hG1 _) (p := ⟨G, k * 8 + 1, none⟩) hG1 _) (p := ⟨G, k * 8 + 2, none⟩) hG1 _) (p := ⟨G, k * 8 + 3, none⟩) hG1 _) (p := ⟨G, k * 8 + 4, none⟩) hG1 _) (p := ⟨G, k * 8 + 5, none⟩) hG1 _) (p := ⟨G, k * 8 + 6, none⟩) hG1 _) (p := ⟨G, k * 8 + 7, none⟩) hG1 _
   have zz3 : G < w3.heap.size := by rw [hw3]; simpa using hzz
   clear ho hL hin ho2 hab hlen hown hb b2 hb2 hbr
   go_wp2_with fail
   rw [← hw3]
   clear hw3 hc0 hf0 hc1 hf1 hc2 hf2 hc3 hf3 hc4 hf4 hc5 hf5 hc6 hf6 hc7 hf7 z0 z1 z2 z3 z4 z5 z6 z7 g1 g2 g3 g4
   go_wp2
   go_roundw
   case rel => exact ⟨k + 1, _, by omega, by go_num, HIN, bb, zz3⟩
   case measure => simp [intOf]; omega
  ·have hlt' : ¬ (k : Int) < (n : Int) := by omega
   have ekn : k = n := by omega
   subst ekn
   obtain ⟨ho, hL⟩ := unhide hin
   have hfin : Ab w.heap.size wr (fun u => RdNw BZ u (.slice (some ⟨G, 0, none⟩) k k) l) := by
    intro u hu
    refine ⟨some ⟨G, 0, none⟩, k, by rw [unhide en], Nf.row ho (by omega) (hu G (by omega) hzr), ?_⟩
    refine .inr ⟨G, 0, rfl, fun i y hy => ?_⟩
    have hil : i < k := by rw [← unhide en]; exact (List.getElem?_eq_some_iff.1 hy).1
    have hcc : ∀ j, j < k * 8 → u.cell? ⟨G, 0 + j, none⟩ = L[j]? := fun j hj => by
     rw [Nat.zero_add, cell_at_heap (hu G (by omega) hzr), ho.cellAt j hj]
    have hu' : ∀ q, G + 1 ≤ q → q < wr.heap.size → u.heap[q]? = wr.heap[q]? := fun q h1 h2 => hu q (by omega) h2
    obtain ⟨P, V, H, U, q0, q1, q2, q3, q4, q5, q6, q7, q8⟩ := hL i y hil hy
    obtain ⟨s1, s2, s3, s4⟩ := q8 u hu'
    exact ⟨P, V, H, U, ⟨by rw [hcc _ (by omega)]; exact q0, by rw [Nat.add_assoc, hcc _ (by omega)]; exact q1, by rw [Nat.add_assoc, hcc _ (by omega)]; exact q2, by rw [Nat.add_assoc, hcc _ (by omega)]; exact q3, by rw [Nat.add_assoc, hcc _ (by omega)]; exact q4, by rw [Nat.add_assoc, hcc _ (by omega)]; exact q5, by rw [Nat.add_assoc, hcc _ (by omega)]; exact q6, by rw [Nat.add_assoc, hcc _ (by omega)]; exact q7, s1.1, s2.1, s3.1, s4.1, s1.2.1⟩, s1.2.2, s2.2.2, s3.2, s4.2⟩
   clear ho hL hin hown hb
   go_wp2
   go_ret
   exact ⟨_, _, rfl, hfin, hbr⟩
set_option maxHeartbeats 3200000 in
theorem toState_aw (e g x t : Int) (p q : Option Addr) (c n d m : Nat) (ss : List Ses) (ns : List Nod) (en : Hid (ss.length = n)) (em : Hid (ns.length = m)) (w : World) (BZ : Nat) (hB : BZ ≤ w.heap.size) (h : RdS w (.slice p n c) ss) (hN : RdN w (.slice q m d) ns) (hn : n ≤ 1048576) (hm : m ≤ 1048576) (he1 : Hid (∀ y ∈ ss, y.2.2.length ≤ 1048576 ∧ ∀ e ∈ y.2.2, e.2.length ≤ 1048576)) (he2 : Hid (∀ y ∈ ns, y.path.length ≤ 1048576 ∧ y.value.length ≤ 1048576 ∧ y.holders.length ≤ 1048576 ∧ y.watchers.length ≤ 1048576)) :
  Calls Tryz.prog 16 #[.agg #[.int .u64 e, .int .u64 g, .int .u64 x, .int .i64 t, .slice p n c, .slice q m d]] w fun r w' => ∃ p4 d4 p5 d5, r = .returned (.agg #[.int .u64 e, .int .u64 g, .int .u64 x, .int .i64 t, .slice p4 n d4, .slice p5 m d5]) ∧ Ab w.heap.size w' (fun u => RdSw BZ u (.slice p4 n d4) ss ∧ RdNw BZ u (.slice p5 m d5) ns) ∧ Below w.heap.size w w' := by
 have R4 := hide fun (w' : World) (hb : Below w.heap.size w w') => h.below hb
 have R5 := hide fun (w' : World) (hb : Below w.heap.size w w') => hN.below hb
 clear h hN
 go_enter Tryz.func16, Tryz.ntmps16
 go_wp2_with fail
 obtain ⟨W1, hW1⟩ : ∃ W, W = w.alloc (.cells #[.int .u64 e, .int .u64 g, .int .u64 x, .int .i64 t, .slice p n c, .slice q m d] 39) := ⟨_, rfl⟩
 obtain ⟨W2, hW2⟩ : ∃ W, W = W1.alloc (.cells #[.int .u64 0, .int .u64 0, .int .u64 0, .int .i64 0, .slice none 0 0, .slice none 0 0] 27) := ⟨_, rfl⟩
 obtain ⟨W, hW⟩ : ∃ W, W = W2.alloc (.cells #[.int .u64 e, .int .u64 g, .int .u64 x, .int .i64 t, .slice none 0 0, .slice none 0 0] 27) := ⟨_, rfl⟩
 have z1 : W1.heap.size = w.heap.size + 1 := by rw [hW1]; simp
 have z2 : W2.heap.size = w.heap.size + 2 := by rw [hW2]; simp; omega
 have zW : W.heap.size = w.heap.size + 3 := by rw [hW]; simp; omega
 have b1 : Below w.heap.size w W1 := by rw [hW1]; exact (Below.refl _ _).alloc (Nat.le_refl _) _
 have b2 : Below W1.heap.size W1 W2 := by rw [hW2]; exact (Below.refl _ _).alloc (Nat.le_refl _) _
 have b3 : Below W2.heap.size W2 W := by rw [hW]; exact (Below.refl _ _).alloc (Nat.le_refl _) _
 have bW : Below w.heap.size w W := Below.step (Below.step b1 b2) b3
 obtain ⟨A, eA⟩ : ∃ A, A = w.heap.size := ⟨_, rfl⟩
 obtain ⟨R, eR⟩ : ∃ R, R = A + 1 := ⟨_, rfl⟩
 obtain ⟨C, eC⟩ : ∃ C, C = R + 1 := ⟨_, rfl⟩
 have hA : CellsAre W A [.int .u64 e, .int .u64 g, .int .u64 x, .int .i64 t, .slice p n c, .slice q m d] := by
  have h0 : CellsAre W1 A [.int .u64 e, .int .u64 g, .int .u64 x, .int .i64 t, .slice p n c, .slice q m d] := by rw [hW1, eA]; exact CellsAre.alloc w #[.int .u64 e, .int .u64 g, .int .u64 x, .int .i64 t, .slice p n c, .slice q m d] _
  exact (h0.below (by omega) b2).below (by omega) b3
 have hR : CellsAre W R [.int .u64 0, .int .u64 0, .int .u64 0, .int .i64 0, .slice none 0 0, .slice none 0 0] := by
  have h0 : CellsAre W2 R [.int .u64 0, .int .u64 0, .int .u64 0, .int .i64 0, .slice none 0 0, .slice none 0 0] := by
   rw [hW2, show R = W1.heap.size by omega]; exact CellsAre.alloc W1 #[.int .u64 0, .int .u64 0, .int .u64 0, .int .i64 0, .slice none 0 0, .slice none 0 0] _
  exact h0.below (by omega) b3
 have hC : CellsAre W C [.int .u64 e, .int .u64 g, .int .u64 x, .int .i64 t, .slice none 0 0, .slice none 0 0] := by rw [hW, show C = W2.heap.size by omega]; exact CellsAre.alloc W2 #[.int .u64 e, .int .u64 g, .int .u64 x, .int .i64 t, .slice none 0 0, .slice none 0 0] _
 rw [← hW1, ← hW2, ← hW, ← eA, ← eR, ← eC]
 have HE := hide (And.intro eA (And.intro eR (And.intro eC zW)))
 have BW := hide bW
 have HA := hide hA
 have HRR := hide hR
 have HC := hide hC
 clear hW hW1 hW2 eA eR eC zW bW z1 z2 b1 b2 b3 hA hR hC
 refine (toSessionS_aw p c n ss en _ BZ (Nat.le_trans hB (unhide BW).size) (unhide R4 _ (unhide BW)) hn he1).mono ?_
 rintro r w4 ⟨p4, d4, rfl, ab4, hb4⟩
 have ZS4 : Hid (W.heap.size ≤ W.heap.size ∧ W.heap.size ≤ w4.heap.size) := ⟨Nat.le_refl _, hb4.size⟩
 have HA_4 := hide ((unhide HA).below (by obtain ⟨eA, eR, eC, zW⟩ := unhide HE; have := unhide ZS4; omega) hb4)
 have HRR_4 := hide ((unhide HRR).below (by obtain ⟨eA, eR, eC, zW⟩ := unhide HE; have := unhide ZS4; omega) hb4)
 have HC_4 := hide ((unhide HC).below (by obtain ⟨eA, eR, eC, zW⟩ := unhide HE; have := unhide ZS4; omega) hb4)
 have B4 := hide (Below.step (unhide BW) hb4)
 have AB4_4 := hide (Ab.mono (B := W.heap.size) ab4 (unhide ZS4).1)
 clear ab4 hb4
 have ca0 := (unhide HA_4).1 0 _ rfl
 have ca1 := (unhide HA_4).1 1 _ rfl
 have ca2 := (unhide HA_4).1 2 _ rfl
 have ca3 := (unhide HA_4).1 3 _ rfl
 have ca4 := (unhide HA_4).1 4 _ rfl
 have ca5 := (unhide HA_4).1 5 _ rfl
 have cc0 := (unhide HC_4).1 0 _ rfl
 have cc1 := (unhide HC_4).1 1 _ rfl
 have cc2 := (unhide HC_4).1 2 _ rfl
 have cc3 := (unhide HC_4).1 3 _ rfl
 have cc4 := (unhide HC_4).1 4 _ rfl
 have cc5 := (unhide HC_4).1 5 _ rfl
 have fC := (unhide HC_4).2
 have hAC : ¬ C = A := by obtain ⟨eA, eR, eC, zW⟩ := unhide HE; omega
 go_wp2_with fail
 clear ca0 ca1 ca2 ca3 ca4 ca5 cc0 cc1 cc2 cc3 cc4 cc5 fC hAC
 obtain ⟨X4, hX4⟩ : ∃ X, X = (w4.setCell ⟨C, 4, none⟩ (.slice p4 n d4)) := ⟨_, rfl⟩
 have HAx4 : Hid (CellsAre X4 A [.int .u64 e, .int .u64 g, .int .u64 x, .int .i64 t, .slice p n c, .slice q m d]) := by show CellsAre _ _ _; rw [hX4]; exact CellsAre.far (unhide HA_4) (a := ⟨C, 4, none⟩) (by obtain ⟨eA, eR, eC, zW⟩ := unhide HE; simp; omega) _
 have HRRx4 : Hid (CellsAre X4 R [.int .u64 0, .int .u64 0, .int .u64 0, .int .i64 0, .slice none 0 0, .slice none 0 0]) := by show CellsAre _ _ _; rw [hX4]; exact CellsAre.far (unhide HRR_4) (a := ⟨C, 4, none⟩) (by obtain ⟨eA, eR, eC, zW⟩ := unhide HE; simp; omega) _
 have HCx4 : Hid (CellsAre X4 C [.int .u64 e, .int .u64 g, .int .u64 x, .int .i64 t, .slice p4 n d4, .slice none 0 0]) := by show CellsAre _ _ _; rw [hX4]; exact CellsAre.near (unhide HC_4) 4 (by simp) (.slice p4 n d4)
 have BX4 : Hid (Below w.heap.size w X4) := by show Below _ _ _; rw [hX4]; exact Below.setCell (unhide B4) (p := ⟨C, 4, none⟩) (by obtain ⟨eA, eR, eC, zW⟩ := unhide HE; simp; omega) _
 have ABx4_4 : Hid (Ab W.heap.size X4 (fun u => RdSw BZ u (.slice p4 n d4) ss)) := by show Ab _ _ _; rw [hX4]; exact Ab.set (unhide AB4_4) (a := ⟨C, 4, none⟩) (by obtain ⟨eA, eR, eC, zW⟩ := unhide HE; simp; omega) _
 have ZZX4 : Hid (W.heap.size ≤ X4.heap.size) := by show _ ≤ _; rw [hX4]; simp; have := unhide ZS4; omega
 rw [← hX4]
 clear hX4
 refine (toNodeS_aw q d m ns em _ BZ (Nat.le_trans hB (unhide BX4).size) (unhide R5 _ (unhide BX4)) hm he2).mono ?_
 rintro r w5 ⟨p5, d5, rfl, ab5, hb5⟩
 have ZS5 : Hid (W.heap.size ≤ X4.heap.size ∧ X4.heap.size ≤ w5.heap.size) := ⟨(unhide ZZX4), hb5.size⟩
 have HA_5 := hide ((unhide HAx4).below (by obtain ⟨eA, eR, eC, zW⟩ := unhide HE; have := unhide ZS5; omega) hb5)
 have HRR_5 := hide ((unhide HRRx4).below (by obtain ⟨eA, eR, eC, zW⟩ := unhide HE; have := unhide ZS5; omega) hb5)
 have HC_5 := hide ((unhide HCx4).below (by obtain ⟨eA, eR, eC, zW⟩ := unhide HE; have := unhide ZS5; omega) hb5)
 have B5 := hide (Below.step (unhide BX4) hb5)
 have AB5_5 := hide (Ab.mono (B := W.heap.size) ab5 (unhide ZS5).1)
 have AB4_5 := hide ((unhide ABx4_4).below hb5)
 clear ab5 hb5
 have ca0 := (unhide HA_5).1 0 _ rfl
 have ca1 := (unhide HA_5).1 1 _ rfl
 have ca2 := (unhide HA_5).1 2 _ rfl
 have ca3 := (unhide HA_5).1 3 _ rfl
 have ca4 := (unhide HA_5).1 4 _ rfl
 have ca5 := (unhide HA_5).1 5 _ rfl
 have cc0 := (unhide HC_5).1 0 _ rfl
 have cc1 := (unhide HC_5).1 1 _ rfl
 have cc2 := (unhide HC_5).1 2 _ rfl
 have cc3 := (unhide HC_5).1 3 _ rfl
 have cc4 := (unhide HC_5).1 4 _ rfl
 have cc5 := (unhide HC_5).1 5 _ rfl
 have fC := (unhide HC_5).2
 have hAC : ¬ C = A := by obtain ⟨eA, eR, eC, zW⟩ := unhide HE; omega
 have cr0 := (unhide HRR_5).1 0 _ rfl
 have cr1 := (unhide HRR_5).1 1 _ rfl
 have cr2 := (unhide HRR_5).1 2 _ rfl
 have cr3 := (unhide HRR_5).1 3 _ rfl
 have cr4 := (unhide HRR_5).1 4 _ rfl
 have cr5 := (unhide HRR_5).1 5 _ rfl
 have fR := (unhide HRR_5).2
 have hAR : ¬ R = A := by obtain ⟨eA, eR, eC, zW⟩ := unhide HE; omega
 have hRC : ¬ R = C := by obtain ⟨eA, eR, eC, zW⟩ := unhide HE; omega
 have hCR : ¬ C = R := by obtain ⟨eA, eR, eC, zW⟩ := unhide HE; omega
 go_wp2
 obtain ⟨eA, eR, eC, zW⟩ := unhide HE
 have zz := unhide ZS5
 refine bodyPost_ret (v := .agg #[.int .u64 e, .int .u64 g, .int .u64 x, .int .i64 t, .slice p4 n d4, .slice p5 m d5]) (by simp [results, Tryz.results16, go_sem, cc0, cc1, cc2, cc3, cc4, cc5, cr0, cr1, cr2, cr3, cr4, cr5, hAC, hAR, hRC, hCR]) rfl ⟨p4, d4, p5, d5, rfl, Ab.mono (B := w.heap.size) (B' := W.heap.size) ?_ (by omega), ?_⟩
 ·iterate 7 (refine Ab.set ?_ (by simp; omega) _)
  exact (unhide AB4_5).and (unhide AB5_5)
 ·iterate 7 (refine Below.setCell ?_ (by simp; omega) _)
  exact unhide B5
theorem toState_ac (e g x t : Int) (p q : Option Addr) (c n d m : Nat) (ss : List Ses) (ns : List Nod) (en : Hid (ss.length = n)) (em : Hid (ns.length = m)) (w : World) (h : RdS w (.slice p n c) ss) (hN : RdN w (.slice q m d) ns) (hn : n ≤ 1048576) (hm : m ≤ 1048576) (he1 : Hid (∀ y ∈ ss, y.2.2.length ≤ 1048576 ∧ ∀ e ∈ y.2.2, e.2.length ≤ 1048576)) (he2 : Hid (∀ y ∈ ns, y.path.length ≤ 1048576 ∧ y.value.length ≤ 1048576 ∧ y.holders.length ≤ 1048576 ∧ y.watchers.length ≤ 1048576)) :
  Calls Tryz.prog 16 #[.agg #[.int .u64 e, .int .u64 g, .int .u64 x, .int .i64 t, .slice p n c, .slice q m d]] w fun r w' => ∃ p4 d4 p5 d5, r = .returned (.agg #[.int .u64 e, .int .u64 g, .int .u64 x, .int .i64 t, .slice p4 n d4, .slice p5 m d5]) ∧ Ab w.heap.size w' (fun u => RdSc u (.slice p4 n d4) ss ∧ RdN u (.slice p5 m d5) ns) ∧ Below w.heap.size w w' := by
 refine (toState_aw e g x t p q c n d m ss ns en em w 0 (Nat.zero_le _) h hN hn hm he1 he2).mono ?_
 rintro r w' ⟨p4, d4, p5, d5, rfl, ab, hb⟩
 exact ⟨p4, d4, p5, d5, rfl, ab.imp (fun u hu => ⟨hu.1.rd, hu.2.rd⟩), hb⟩
end Go.Proofs.YtnbgnhhnpmmloaaGreatDoor
