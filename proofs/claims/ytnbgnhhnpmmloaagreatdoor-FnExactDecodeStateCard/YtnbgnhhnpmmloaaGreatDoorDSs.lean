import Derived.Test.YtnbgnhhnpmmloaaGreatDoorK42
namespace Go.Proofs.YtnbgnhhnpmmloaaGreatDoor
open Go.ChangeShapes Go.WideShapes Go.ChangeAt Go.RowKit
set_option linter.unusedVariables false
set_option linter.unusedSimpArgs false
set_option maxRecDepth 100000
set_option maxHeartbeats 25600000 in
theorem specDec (p : Option Addr) (c n : Nat) (l : List Int) (en : Hid (l.length = n)) (w : World) (h : Rd w (.slice p n c) l) (hb : Hid (Byt l)) (hl : n ≤ 1048576) (hnc : n ≤ c) :
  Calls Tryz.prog 6 #[.slice p n c] w fun r w' => StRes w.heap.size r w' (decD (specP l)) (decC (specP l)) ∧ Below w.heap.size w w' := by
 have HR := hide fun (w' : World) (hb : Below w.heap.size w w') => h.below hb
 clear h
 have S0 := hide (Sfx.start (uh en))
 have A0 : Hid (atI n (some l) = 0) := by show _ = _; rw [atI, uh en]; omega
 obtain ⟨is, his, sz0, sz1, sz2⟩ := info_parts Tryz.infoSes
 obtain ⟨io, hio, oz0, oz1, oz2⟩ := info_parts Tryz.infoNod
 obtain ⟨iu, hiu, uz0, uz1, uz2⟩ := info_parts Tryz.infoU64
 obtain ⟨⟨e, o1⟩, E1⟩ : ∃ y, Hid (oV (some l) = y) := ⟨_, (by show _ = _; rfl)⟩
 obtain ⟨a1, A1⟩ : ∃ a, Hid (atI n o1 = a) := ⟨_, (by show _ = _; rfl)⟩
 have S1 : Hid (Sfx n l o1) := by have := oV_sfx (uh en) (uh S0); rw [uh E1] at this; exact this
 obtain ⟨⟨g, o2⟩, E2⟩ : ∃ y, Hid (oV o1 = y) := ⟨_, (by show _ = _; rfl)⟩
 obtain ⟨a2, A2⟩ : ∃ a, Hid (atI n o2 = a) := ⟨_, (by show _ = _; rfl)⟩
 have S2 : Hid (Sfx n l o2) := by have := oV_sfx (uh en) (uh S1); rw [uh E2] at this; exact this
 obtain ⟨⟨x, o3⟩, E3⟩ : ∃ y, Hid (oV o2 = y) := ⟨_, (by show _ = _; rfl)⟩
 obtain ⟨a3, A3⟩ : ∃ a, Hid (atI n o3 = a) := ⟨_, (by show _ = _; rfl)⟩
 have S3 : Hid (Sfx n l o3) := by have := oV_sfx (uh en) (uh S2); rw [uh E3] at this; exact this
 obtain ⟨⟨k, o4⟩, E4⟩ : ∃ y, Hid (oV o3 = y) := ⟨_, (by show _ = _; rfl)⟩
 obtain ⟨a4, A4⟩ : ∃ a, Hid (atI n o4 = a) := ⟨_, (by show _ = _; rfl)⟩
 have S4 : Hid (Sfx n l o4) := by have := oV_sfx (uh en) (uh S3); rw [uh E4] at this; exact this
 obtain ⟨W, hW⟩ : ∃ W, W = (w.alloc (.cells #[.int .u64 0, .int .u64 0, .int .u64 0, .int .i64 0, .slice none 0 0, .slice none 0 0] 27)) := ⟨_, rfl⟩
 have bW : Below w.heap.size w W := by rw [hW]; exact (Below.refl _ _).alloc (Nat.le_refl _) _
 have zW : W.heap.size = w.heap.size + 1 := by rw [hW]; simp
 have RW : Hid (CellsAre W w.heap.size [.int .u64 0, .int .u64 0, .int .u64 0, .int .i64 0, .slice none 0 0, .slice none 0 0]) := by
  show CellsAre _ _ _
  rw [hW]; exact CellsAre.alloc w #[.int .u64 0, .int .u64 0, .int .u64 0, .int .i64 0, .slice none 0 0, .slice none 0 0] _
 go_enter Tryz.func6, Tryz.ntmps6
 go_wp2_with fail
 rw [← hW]
 clear hW
 refine (oV_at p c n l en _ (uh HR _ bW) hb hl _ S0 _ A0 e o1 E1 a1 A1).mono ?_
 rintro z9 w1 ⟨rfl, rfl⟩
 go_wp2_with fail
 refine (oV_at p c n l en _ (uh HR _ bW) hb hl _ S1 _ A1 g o2 E2 a2 A2).mono ?_
 rintro z9 w1 ⟨rfl, rfl⟩
 go_wp2_with fail
 refine (oV_at p c n l en _ (uh HR _ bW) hb hl _ S2 _ A2 x o3 E3 a3 A3).mono ?_
 rintro z9 w1 ⟨rfl, rfl⟩
 go_wp2_with fail
 refine (oV_at p c n l en _ (uh HR _ bW) hb hl _ S3 _ A3 k o4 E4 a4 A4).mono ?_
 rintro z9 w1 ⟨rfl, rfl⟩
 have hk : 0 ≤ k ∧ k < 18446744073709551616 := by have := oV_u64 (om := o3); rw [uh E4] at this; exact this
 have n4 := atI_neg (uh S4)
 rw [uh A4] at n4
 have N4 := hide n4.1
 have m4 : -1 ≤ a4 ∧ a4 ≤ n := ⟨n4.2.2, n4.2.1⟩
 clear n4
 by_cases h4 : a4 < 0
 ·have hn := (uh N4).1 h4
  have hP : specP l = none := by
   rw [specP, spSt]
   simp only [uh E1, uh E2, uh E3, uh E4]
   rw [if_pos (.inl hn)]
   rfl
  have HD : Hid (decD (specP l) = stD0 ∧ decC (specP l) = 13) := by rw [hP]; exact ⟨rfl, rfl⟩
  clear hP
  have r0 := (uh RW).1 0 _ rfl
  have r1 := (uh RW).1 1 _ rfl
  have r2 := (uh RW).1 2 _ rfl
  have r3 := (uh RW).1 3 _ rfl
  have r4 := (uh RW).1 4 _ rfl
  have r5 := (uh RW).1 5 _ rfl
  have rf := (uh RW).2
  have BB := bW
  go_wp2
  refine bodyPost_ret (v := .tuple #[stV 0 0 0 0 (.slice none 0 0) (.slice none 0 0), .int .i64 13]) (by simp [results, Tryz.results6, go_sem, r0, r1, r2, r3, r4, r5, zW]) rfl ⟨?_, ?_⟩
  ·rw [(uh HD).1, (uh HD).2]
   exact ⟨none, 0, none, 0, rfl, StOwn.zero _ _⟩
  ·exact bel_al ((((((BB.setCell (by simp) _).setCell (by simp) _).setCell (by simp) _).setCell (by simp) _).setCell (by simp) _).setCell (by simp) _) _
 ·by_cases h5 : 50 < k
  ·skip
   have hP : specP l = none := by
    rw [specP, spSt]
    simp only [uh E1, uh E2, uh E3, uh E4]
    rw [if_pos (.inr h5)]
    rfl
   have HD : Hid (decD (specP l) = stD0 ∧ decC (specP l) = 13) := by rw [hP]; exact ⟨rfl, rfl⟩
   clear hP
   have r0 := (uh RW).1 0 _ rfl
   have r1 := (uh RW).1 1 _ rfl
   have r2 := (uh RW).1 2 _ rfl
   have r3 := (uh RW).1 3 _ rfl
   have r4 := (uh RW).1 4 _ rfl
   have r5 := (uh RW).1 5 _ rfl
   have rf := (uh RW).2
   have BB := bW
   go_wp2
   refine bodyPost_ret (v := .tuple #[stV 0 0 0 0 (.slice none 0 0) (.slice none 0 0), .int .i64 13]) (by simp [results, Tryz.results6, go_sem, r0, r1, r2, r3, r4, r5, zW]) rfl ⟨?_, ?_⟩
   ·rw [(uh HD).1, (uh HD).2]
    exact ⟨none, 0, none, 0, rfl, StOwn.zero _ _⟩
   ·exact bel_al ((((((BB.setCell (by simp) _).setCell (by simp) _).setCell (by simp) _).setCell (by simp) _).setCell (by simp) _).setCell (by simp) _) _
  ·skip
   obtain ⟨K, rfl⟩ : ∃ K : Nat, k = (K : Int) := ⟨k.toNat, by omega⟩
   have hn4 : ¬ o4 = none := fun hh => h4 ((uh N4).2 hh)
   have HN4 := hide hn4
   have wK : IntKind.i64.wrap (K : Int) = (K : Int) := IntWalk.i64_in _ (by omega)
   have hK50 : K ≤ 50 := by omega
   obtain ⟨V, hV⟩ : ∃ V, V = w1.alloc (.cells #[.int .u64 e, .int .u64 g, .int .u64 x, .int .i64 0, .slice none 0 0, .slice none 0 0] 27) := ⟨_, rfl⟩
   have hbV : Below w1.heap.size w1 V := by rw [hV]; exact (Below.refl _ _).alloc (Nat.le_refl _) _
   obtain ⟨sb, hsb⟩ : ∃ s, s = w.heap.size + 1 := ⟨_, rfl⟩
   have CV : Hid (CellsAre V sb [.int .u64 e, .int .u64 g, .int .u64 x, .int .i64 0, .slice none 0 0, .slice none 0 0]) := by
    show CellsAre _ _ _
    rw [hV, show sb = w1.heap.size by omega]
    exact CellsAre.alloc w1 #[.int .u64 e, .int .u64 g, .int .u64 x, .int .i64 0, .slice none 0 0, .slice none 0 0] _
   have zV : V.heap.size = sb + 1 := by rw [hV]; simp; omega
   have zw1 : w1.heap.size = sb := by omega
   clear N4 hn4
   go_wp2
   rw [← hV, ← hsb]
   have hws : w.heap.size < sb := by omega
   have HSB := hide hsb
   clear hV hsb zW
   go_loopw [5, 13] (fun av iv wr => ∃ (j : Nat) (a : Int) (Sv : Value) (Ls : List (List Lf)), j ≤ K ∧ av = .int .i64 a ∧ iv = .int .i64 j ∧ Hid (atI n (rL oV j o4).2 = a) ∧ Hid (Sfx n l (rL oV j o4).2) ∧ Hid (CellsAre wr sb [.int .u64 e, .int .u64 g, .int .u64 x, .int .i64 0, Sv, .slice none 0 0] ∧ OwnT elSe 59 3 (sb + 1) wr Sv ((rL oV j o4).1.map idS) Ls) ∧ Hid (Below w1.heap.size w1 wr) ∧ sb < wr.heap.size) (fun _ iv _ => K - (intOf iv).toNat)
   case atStart => exact ⟨0, _, _, [], Nat.zero_le _, rfl, rfl, A4, S4, ⟨uh CV, OwnT.nil _ _ _ _ _⟩, hbV, by omega⟩
   case round =>
    clear CV hbV zV
    obtain ⟨j, a, Sv, Ls, hj, rfl, rfl, Ea, Sj, hin, Br, zr⟩ := hrel
    by_cases hlt : j < K
    ·have hlt' : (j : Int) < (K : Int) := by omega
     have wj : IntKind.i64.wrap ((j : Int) + 1) = ((j + 1 : Nat) : Int) := by rw [IntWalk.i64_in _ (by omega)]; omega
     obtain ⟨⟨d, o5⟩, E5⟩ : ∃ y, Hid (oV (rL oV j o4).2 = y) := ⟨_, (by show _ = _; rfl)⟩
     obtain ⟨a5, A5⟩ : ∃ a, Hid (atI n o5 = a) := ⟨_, (by show _ = _; rfl)⟩
     have S5 : Hid (Sfx n l o5) := by have := oV_sfx (uh en) (uh Sj); rw [uh E5] at this; exact this
     have b0 := Below.step bW (uh Br)
     go_wp2_with fail
     refine (oV_at p c n l en _ (uh HR _ b0) hb hl _ Sj _ Ea d o5 E5 a5 A5).mono ?_
     rintro z9 w2 ⟨rfl, rfl⟩
     obtain ⟨hC, hO⟩ := uh hin
     have hlen : ((rL oV j o4).1.map idS).length = j := by rw [List.length_map, rL_len]
     have HC := hide hC
     have HO := hide hO
     have HLEN := hide hlen
     clear hC hO hin hlen
     obtain ⟨v3, hv3⟩ : ∃ V, V = w2.alloc (.cells #[.int .u64 d, .int .i64 0, .slice none 0 0] 59) := ⟨_, rfl⟩
     have hb3 : Below w2.heap.size w2 v3 := by rw [hv3]; exact (Below.refl _ _).alloc (Nat.le_refl _) _
     have hcC : ∀ i u, ([.int .u64 d, .int .i64 0, .slice none 0 0] : List Value)[i]? = some u → v3.cell? ⟨w2.heap.size, i, none⟩ = some u := by rw [hv3]; exact cells_new
     have HCC := hide hcC
     have z3 : v3.heap.size = w2.heap.size + 1 := by rw [hv3]; simp
     have hlO := hide (uh HO).lt
     have C3 := hide ((uh HC).below zr hb3)
     have B3 := hide (Below.step (uh Br) hb3)
     obtain ⟨row, hrow0, happ⟩ := (uh HO).app elSe.keep hb3 (elSe.id v3 d) rfl (Apt.nil _ _) (by omega)
     rw [uh HLEN] at hrow0 happ
     have HAPP := hide happ
     have HROW := hide hrow0
     have cl := (uh HC).1 4 _ rfl
     clear happ hcC hrow0
     go_wp2_with (at_builtin; rw [← hv3]; refine wpList_append_fr rfl _ _ 24 rfl (sb + 1) 59 is _ 3 40 Tryz.underlying24 his sz0 sz1 sz2 rfl (by decide) Sv j _ rfl (uh HROW) w2.heap.size 1 1 [.int .u64 d, .int .i64 0, .slice none 0 0] rfl rfl (uh HCC) (fun u hu => by simp at hu; rcases hu with rfl | rfl | rfl <;> rfl) (by unfold maxLen; omega) (by omega) (by omega) ?_)
     intro v' w9 hrow hg hfr0
     have hfr : ∀ g, v'.ownBlock = some g → Sv.ownBlock = some g ∨ v3.heap.size ≤ g := fun g e => by have := hfr0 g e; rw [hv3]; simpa using this
     rw [← hv3] at hg
     obtain ⟨sn, pN, cN, rfl⟩ := uh HAPP v' w9 hrow hg hfr
     have C9 := (uh C3).grown (by omega) hg (fun e => by have := ((uh hlO).1 sb e.symm).1; omega)
     have B9 : Hid (Below w1.heap.size w1 w9) := (uh B3).grown hg (uh B3).size (fun b e => by have := ((uh hlO).1 b e).1; omega)
     have z9 := hg.size
     have CT := hide (C9.near 4 (by simp) (.slice pN (j + 1) cN))
     have OT := hide (sn.putBox elSe.keep (sb := sb) (by omega) 4 (.slice pN (j + 1) cN))
     have BT : Hid (Below w1.heap.size w1 (w9.setCell ⟨sb, 4, none⟩ (.slice pN (j + 1) cN))) := (uh B9).setCell (by simp; omega) _
     have zT : sb < (w9.setCell ⟨sb, 4, none⟩ (.slice pN (j + 1) cN)).heap.size := by simp; omega
     have cc := C9.1 4 _ rfl
     have cf := C9.2
     have EL : Hid ((rL oV j o4).1.map idS ++ [idS d] = (rL oV (j + 1) o4).1.map idS ∧ (rL oV (j + 1) o4).2 = o5) := by
      show _ ∧ _
      rw [rL, uh E5, List.map_append]
      exact ⟨rfl, rfl⟩
     clear hrow hg hfr hfr0 sn C9 hv3 hb3 cl
     go_wp2
     go_roundw
     case rel => exact ⟨j + 1, a5, _, _, by omega, rfl, by go_num, (by rw [(uh EL).2]; exact A5), (by rw [(uh EL).2]; exact S5), (by rw [← (uh EL).1]; exact ⟨uh CT, uh OT⟩), BT, zT⟩
     case measure => simp [intOf]; omega
    ·have hlt' : ¬ (j : Int) < (K : Int) := by omega
     skip
     have ekK : K = j := by omega
     subst ekK
     obtain ⟨hC, hO⟩ := uh hin
     obtain ⟨w3, ew3⟩ : ∃ W, W = wr := ⟨_, rfl⟩
     subst ew3
     obtain ⟨pS, cS, evS, -⟩ := id hO.read
     rw [List.length_map, rL_len] at evS
     subst evS
     have C3 := hide hC
     have O3 := hide hO
     have b3 := Below.step bW (uh Br)
     have R3 := hide ((uh RW).below (by omega) (uh Br))
     have HSL : Hid (((rL oV K o4).1.map idS).length = K) := by show _ = _; rw [List.length_map, rL_len]
     clear hC hO hin hj hlt hlt' 
     obtain ⟨⟨q, o7⟩, E7⟩ : ∃ y, Hid (oV (rL oV K o4).2 = y) := ⟨_, (by show _ = _; rfl)⟩
     obtain ⟨a7, A7⟩ : ∃ a, Hid (atI n o7 = a) := ⟨_, (by show _ = _; rfl)⟩
     have S7 : Hid (Sfx n l o7) := by have := oV_sfx (uh en) (uh Sj); rw [uh E7] at this; exact this
     go_wp2_with fail
     refine (oV_at p c n l en _ (uh HR _ b3) hb hl _ Sj _ Ea q o7 E7 a7 A7).mono ?_
     rintro z9 w4 ⟨rfl, rfl⟩
     have hq : 0 ≤ q ∧ q < 18446744073709551616 := by have := oV_u64 (om := (rL oV K o4).2); rw [uh E7] at this; exact this
     have n7 := atI_neg (uh S7)
     rw [uh A7] at n7
     have N7 := hide n7.1
     have m7 : -1 ≤ a7 ∧ a7 ≤ n := ⟨n7.2.2, n7.2.1⟩
     clear n7
     by_cases h7 : a7 < 0
     ·have hn := (uh N7).1 h7
      have hP : specP l = none := by
       rw [specP, spSt]
       simp only [uh E1, uh E2, uh E3, uh E4]
       rw [if_neg (by rw [not_or]; exact ⟨uh HN4, by omega⟩)]
       simp only [Int.toNat_natCast, uh E7]
       rw [if_pos (.inl hn)]
       rfl
      have HD : Hid (decD (specP l) = stD0 ∧ decC (specP l) = 13) := by rw [hP]; exact ⟨rfl, rfl⟩
      clear hP
      have r0 := (uh R3).1 0 _ rfl
      have r1 := (uh R3).1 1 _ rfl
      have r2 := (uh R3).1 2 _ rfl
      have r3 := (uh R3).1 3 _ rfl
      have r4 := (uh R3).1 4 _ rfl
      have r5 := (uh R3).1 5 _ rfl
      have rf := (uh R3).2
      have BB := b3
      go_wp2
      refine bodyPost_ret (v := .tuple #[stV 0 0 0 0 (.slice none 0 0) (.slice none 0 0), .int .i64 13]) (by simp [results, Tryz.results6, go_sem, r0, r1, r2, r3, r4, r5]) rfl ⟨?_, ?_⟩
      ·rw [(uh HD).1, (uh HD).2]
       exact ⟨none, 0, none, 0, rfl, StOwn.zero _ _⟩
      ·exact (((((BB.setCell (by simp) _).setCell (by simp) _).setCell (by simp) _).setCell (by simp) _).setCell (by simp) _).setCell (by simp) _
     ·by_cases h8 : 200 < q
      ·skip
       have hP : specP l = none := by
        rw [specP, spSt]
        simp only [uh E1, uh E2, uh E3, uh E4]
        rw [if_neg (by rw [not_or]; exact ⟨uh HN4, by omega⟩)]
        simp only [Int.toNat_natCast, uh E7]
        rw [if_pos (.inr h8)]
        rfl
       have HD : Hid (decD (specP l) = stD0 ∧ decC (specP l) = 13) := by rw [hP]; exact ⟨rfl, rfl⟩
       clear hP
       have r0 := (uh R3).1 0 _ rfl
       have r1 := (uh R3).1 1 _ rfl
       have r2 := (uh R3).1 2 _ rfl
       have r3 := (uh R3).1 3 _ rfl
       have r4 := (uh R3).1 4 _ rfl
       have r5 := (uh R3).1 5 _ rfl
       have rf := (uh R3).2
       have BB := b3
       go_wp2
       refine bodyPost_ret (v := .tuple #[stV 0 0 0 0 (.slice none 0 0) (.slice none 0 0), .int .i64 13]) (by simp [results, Tryz.results6, go_sem, r0, r1, r2, r3, r4, r5]) rfl ⟨?_, ?_⟩
       ·rw [(uh HD).1, (uh HD).2]
        exact ⟨none, 0, none, 0, rfl, StOwn.zero _ _⟩
       ·exact (((((BB.setCell (by simp) _).setCell (by simp) _).setCell (by simp) _).setCell (by simp) _).setCell (by simp) _).setCell (by simp) _
      ·skip
       obtain ⟨Q, rfl⟩ : ∃ K : Nat, q = (K : Int) := ⟨q.toNat, by omega⟩
       have hn7 : ¬ o7 = none := fun hh => h7 ((uh N7).2 hh)
       have HN7 := hide hn7
       have wQ : IntKind.i64.wrap (Q : Int) = (Q : Int) := IntWalk.i64_in _ (by omega)
       have hQ : Q ≤ 200 := by omega
       have SPO : Hid (spSt l = (spNods Q o7).map fun r => ((e, g, x), (rL oV K o4).1.map idS, r.1, r.2)) := by
        show _ = _
        rw [spSt]
        simp only [uh E1, uh E2, uh E3, uh E4]
        rw [if_neg (by rw [not_or]; exact ⟨uh HN4, by omega⟩)]
        simp only [Int.toNat_natCast, uh E7]
        rw [if_neg (by rw [not_or]; exact ⟨hn7, by omega⟩)]
       clear N7 hn7
       go_wp2
       go_loopw [5, 15] (fun av iv wr => ∃ (j : Nat) (a : Int) (Nv : Value) (Ls : List (List Lf)) (ns : List Nod) (om : Option (List Int)), j ≤ Q ∧ av = .int .i64 a ∧ iv = .int .i64 j ∧ Hid (spNods j o7 = some (ns, om)) ∧ Hid (atI n om = a) ∧ Hid (Sfx n l om) ∧ Hid (CellsAre wr sb [.int .u64 e, .int .u64 g, .int .u64 x, .int .i64 0, .slice pS K cS, Nv] ∧ OwnT elNo 66 8 w4.heap.size wr Nv ns Ls) ∧ Hid (w4.grownBy wr (some sb))) (fun _ iv _ => Q - (intOf iv).toNat)
       case atStart => exact ⟨0, _, _, [], [], o7, Nat.zero_le _, rfl, rfl, (by show _ = _; rfl), A7, S7, ⟨uh C3, OwnT.nil _ _ _ _ _⟩, grown_refl _ _⟩
       case round =>
        obtain ⟨j, a, Nv, Ls, ns, om, hj, rfl, rfl, Em, Ea, Sm, hin, hgr⟩ := hrel
        have b5 := below_grow b3 (uh hgr) (by omega)
        have zg := (uh hgr).size
        by_cases hlt : j < Q
        ·have hlt' : (j : Int) < (Q : Int) := by omega
         have wj : IntKind.i64.wrap ((j : Int) + 1) = ((j + 1 : Nat) : Int) := by rw [IntWalk.i64_in _ (by omega)]; omega
         obtain ⟨hC, hO⟩ := uh hin
         have HC := hide hC
         have HO := hide hO
         have hlen := (spNods_rg (uh en) (uh hb) hl j (uh S7) (uh Em)).2.2
         have HLEN := hide hlen
         clear hC hO hin hlen
         obtain ⟨⟨PP, q1⟩, F1⟩ : ∃ y, Hid (oT om = y) := ⟨_, (by show _ = _; rfl)⟩
         obtain ⟨c1, G1⟩ : ∃ a, Hid (atI n q1 = a) := ⟨_, (by show _ = _; rfl)⟩
         have T1 : Hid (Sfx n l q1) := by have := oT_sfx (uh en) (uh Sm); rw [uh F1] at this; exact this
         obtain ⟨⟨VV, q2⟩, F2⟩ : ∃ y, Hid (oT q1 = y) := ⟨_, (by show _ = _; rfl)⟩
         obtain ⟨c2, G2⟩ : ∃ a, Hid (atI n q2 = a) := ⟨_, (by show _ = _; rfl)⟩
         have T2 : Hid (Sfx n l q2) := by have := oT_sfx (uh en) (uh T1); rw [uh F2] at this; exact this
         obtain ⟨⟨ow, q3⟩, F3⟩ : ∃ y, Hid (oV q2 = y) := ⟨_, (by show _ = _; rfl)⟩
         obtain ⟨c3, G3⟩ : ∃ a, Hid (atI n q3 = a) := ⟨_, (by show _ = _; rfl)⟩
         have T3 : Hid (Sfx n l q3) := by have := oV_sfx (uh en) (uh T2); rw [uh F3] at this; exact this
         obtain ⟨⟨mo, q4⟩, F4⟩ : ∃ y, Hid (oB q3 = y) := ⟨_, (by show _ = _; rfl)⟩
         obtain ⟨c4, G4⟩ : ∃ a, Hid (atI n q4 = a) := ⟨_, (by show _ = _; rfl)⟩
         have T4 : Hid (Sfx n l q4) := by have := oB_sfx (uh en) (uh T3); rw [uh F4] at this; exact this
         obtain ⟨⟨hh, q5⟩, F5⟩ : ∃ y, Hid (oV q4 = y) := ⟨_, (by show _ = _; rfl)⟩
         obtain ⟨c5, G5⟩ : ∃ a, Hid (atI n q5 = a) := ⟨_, (by show _ = _; rfl)⟩
         have T5 : Hid (Sfx n l q5) := by have := oV_sfx (uh en) (uh T4); rw [uh F5] at this; exact this
         obtain ⟨NP, eNP⟩ : ∃ k, Hid (PP.length = k) := ⟨_, (by show _ = _; rfl)⟩
         obtain ⟨NV, eNV⟩ : ∃ k, Hid (VV.length = k) := ⟨_, (by show _ = _; rfl)⟩
         go_wp2_with fail
         refine (oT_at p c n l en _ (uh HR _ b5) hb hl hnc _ Sm _ Ea PP q1 F1 c1 G1 NP eNP).mono ?_
         rintro z9 y1 ⟨pP, cP, rfl, oP, hb1⟩
         have b6 := Below.step b5 hb1
         have z1 := hb1.size
         go_wp2_with fail
         refine (oT_at p c n l en _ (uh HR _ b6) hb hl hnc _ T1 _ G1 VV q2 F2 c2 G2 NV eNV).mono ?_
         rintro z9 y2 ⟨pV, cV, rfl, oV', hb2⟩
         have b7 := Below.step b6 hb2
         have z2 := hb2.size
         obtain ⟨lP, fP⟩ := Own.pb oP
         obtain ⟨lV, fV⟩ := Own.pb oV'
         have FP := hide (fP.below hb2)
         have FV := hide fV
         have BX := hide (Below.step hb1 hb2)
         have C7 := hide ((uh HC).below (by omega) (uh BX))
         have R7 := hide (((uh R3).grown (by omega) (uh hgr) (by simp; omega)).below (by omega) (uh BX))
         clear oP oV' fP fV hb1 hb2
         go_wp2_with fail
         refine (oV_at p c n l en _ (uh HR _ b7) hb hl _ T2 _ G2 ow q3 F3 c3 G3).mono ?_
         rintro z9 y3 ⟨rfl, rfl⟩
         go_wp2_with fail
         refine (oB_at p c n l en _ (uh HR _ b7) hb hl _ T3 _ G3 mo q4 F4 c4 G4).mono ?_
         rintro z9 y4 ⟨rfl, rfl⟩
         go_wp2_with fail
         refine (oV_at p c n l en _ (uh HR _ b7) hb hl _ T4 _ G4 hh q5 F5 c5 G5).mono ?_
         rintro z9 X ⟨rfl, rfl⟩
         have hhr : 0 ≤ hh ∧ hh < 18446744073709551616 := by have := oV_u64 (om := q4); rw [uh F5] at this; exact this
         have n5 := atI_neg (uh T5)
         rw [uh G5] at n5
         have N5 := hide n5.1
         have m5 : -1 ≤ c5 ∧ c5 ≤ n := ⟨n5.2.2, n5.2.1⟩
         clear n5
         by_cases h9 : c5 < 0
         ·have hn := (uh N5).1 h9
          have R8 := hide ((uh R7).below (by omega) ((Below.refl _ _).alloc (Nat.le_refl _) (.cells #[.slice pP NP cP, .slice pV NV cV, .int .u64 ow, .int .i64 mo, .slice none 0 0, .int .u64 0, .int .u64 0, .slice none 0 0] 66)))
          have hP : specP l = none := by
           rw [specP, uh SPO, spNods_no (spNods_stop (uh Em) (by
            rw [spNod]
            simp only [uh F1, uh F2, uh F3, uh F4, uh F5]
            rw [if_pos (.inl hn)])) Q (by omega)]
           rfl
          have HD : Hid (decD (specP l) = stD0 ∧ decC (specP l) = 13) := by rw [hP]; exact ⟨rfl, rfl⟩
          clear hP
          have r0 := (uh R8).1 0 _ rfl
          have r1 := (uh R8).1 1 _ rfl
          have r2 := (uh R8).1 2 _ rfl
          have r3 := (uh R8).1 3 _ rfl
          have r4 := (uh R8).1 4 _ rfl
          have r5 := (uh R8).1 5 _ rfl
          have rf := (uh R8).2
          have BB := (bel_al b7 (.cells #[.slice pP NP cP, .slice pV NV cV, .int .u64 ow, .int .i64 mo, .slice none 0 0, .int .u64 0, .int .u64 0, .slice none 0 0] 66))
          go_wp2
          refine bodyPost_ret (v := .tuple #[stV 0 0 0 0 (.slice none 0 0) (.slice none 0 0), .int .i64 13]) (by simp [results, Tryz.results6, go_sem, r0, r1, r2, r3, r4, r5]) rfl ⟨?_, ?_⟩
          ·rw [(uh HD).1, (uh HD).2]
           exact ⟨none, 0, none, 0, rfl, StOwn.zero _ _⟩
          ·exact (((((BB.setCell (by simp) _).setCell (by simp) _).setCell (by simp) _).setCell (by simp) _).setCell (by simp) _).setCell (by simp) _
         ·by_cases h10 : 50 < hh
          ·have R8 := hide ((uh R7).below (by omega) ((Below.refl _ _).alloc (Nat.le_refl _) (.cells #[.slice pP NP cP, .slice pV NV cV, .int .u64 ow, .int .i64 mo, .slice none 0 0, .int .u64 0, .int .u64 0, .slice none 0 0] 66)))
           have hP : specP l = none := by
            rw [specP, uh SPO, spNods_no (spNods_stop (uh Em) (by
             rw [spNod]
             simp only [uh F1, uh F2, uh F3, uh F4, uh F5]
             rw [if_pos (.inr h10)])) Q (by omega)]
            rfl
           have HD : Hid (decD (specP l) = stD0 ∧ decC (specP l) = 13) := by rw [hP]; exact ⟨rfl, rfl⟩
           clear hP
           have r0 := (uh R8).1 0 _ rfl
           have r1 := (uh R8).1 1 _ rfl
           have r2 := (uh R8).1 2 _ rfl
           have r3 := (uh R8).1 3 _ rfl
           have r4 := (uh R8).1 4 _ rfl
           have r5 := (uh R8).1 5 _ rfl
           have rf := (uh R8).2
           have BB := (bel_al b7 (.cells #[.slice pP NP cP, .slice pV NV cV, .int .u64 ow, .int .i64 mo, .slice none 0 0, .int .u64 0, .int .u64 0, .slice none 0 0] 66))
           go_wp2
           refine bodyPost_ret (v := .tuple #[stV 0 0 0 0 (.slice none 0 0) (.slice none 0 0), .int .i64 13]) (by simp [results, Tryz.results6, go_sem, r0, r1, r2, r3, r4, r5]) rfl ⟨?_, ?_⟩
           ·rw [(uh HD).1, (uh HD).2]
            exact ⟨none, 0, none, 0, rfl, StOwn.zero _ _⟩
           ·exact (((((BB.setCell (by simp) _).setCell (by simp) _).setCell (by simp) _).setCell (by simp) _).setCell (by simp) _).setCell (by simp) _
          ·skip
           obtain ⟨H, rfl⟩ : ∃ K : Nat, hh = (K : Int) := ⟨hh.toNat, by omega⟩
           have hn5 : ¬ q5 = none := fun hh => h9 ((uh N5).2 hh)
           have HN5 := hide hn5
           have wH : IntKind.i64.wrap (H : Int) = (H : Int) := IntWalk.i64_in _ (by omega)
           have hH : H ≤ 50 := by omega
           obtain ⟨nb, hnb⟩ : ∃ s, s = X.heap.size := ⟨_, rfl⟩
           obtain ⟨V5, hV5⟩ : ∃ V, V = X.alloc (.cells #[.slice pP NP cP, .slice pV NV cV, .int .u64 ow, .int .i64 mo, .slice none 0 0, .int .u64 0, .int .u64 0, .slice none 0 0] 66) := ⟨_, rfl⟩
           have hbV : Below X.heap.size X V5 := by rw [hV5]; exact (Below.refl _ _).alloc (Nat.le_refl _) _
           have CV : Hid (CellsAre V5 nb [.slice pP NP cP, .slice pV NV cV, .int .u64 ow, .int .i64 mo, .slice none 0 0, .int .u64 0, .int .u64 0, .slice none 0 0]) := by
            show CellsAre _ _ _
            rw [hV5, hnb]
            exact CellsAre.alloc X #[.slice pP NP cP, .slice pV NV cV, .int .u64 ow, .int .i64 mo, .slice none 0 0, .int .u64 0, .int .u64 0, .slice none 0 0] _
           have zV : V5.heap.size = nb + 1 := by rw [hV5]; simp; omega
           have ZX : Hid (X.heap.size = nb) := hnb.symm
           have hsn : sb < nb := by omega
           have HNB := hide hnb
           clear N5 hn5 hnb
           go_wp2
           rw [← hV5, ← uh HNB]
           clear hV5
           go_loopw [5, 27] (fun av kv wr => ∃ (i : Nat) (a : Int) (Hv : Value), i ≤ H ∧ av = .int .i64 a ∧ kv = .int .i64 i ∧ Hid (atI n (rL oV i q5).2 = a) ∧ Hid (Sfx n l (rL oV i q5).2) ∧ Hid (CellsAre wr nb [.slice pP NP cP, .slice pV NV cV, .int .u64 ow, .int .i64 mo, Hv, .int .u64 0, .int .u64 0, .slice none 0 0] ∧ OwnU (nb + 1) wr Hv (rL oV i q5).1) ∧ Hid (Below X.heap.size X wr) ∧ nb < wr.heap.size) (fun _ kv _ => H - (intOf kv).toNat)
           case atStart => exact ⟨0, _, _, Nat.zero_le _, rfl, rfl, G5, T5, ⟨uh CV, World.ownsRow_nil _ _ _ _⟩, hbV, by omega⟩
           case round =>
            clear CV hbV zV
            obtain ⟨i, a', Hv, hi, rfl, rfl, Ei, Si, hin, Bi, zi⟩ := hrel
            have b8 := Below.step b7 (uh Bi)
            by_cases hlh : i < H
            ·have hlh' : (i : Int) < (H : Int) := by omega
             have wi : IntKind.i64.wrap ((i : Int) + 1) = ((i + 1 : Nat) : Int) := by rw [IntWalk.i64_in _ (by omega)]; omega
             obtain ⟨⟨d, q6⟩, F6⟩ : ∃ y, Hid (oV (rL oV i q5).2 = y) := ⟨_, (by show _ = _; rfl)⟩
             obtain ⟨c6, G6⟩ : ∃ a, Hid (atI n q6 = a) := ⟨_, (by show _ = _; rfl)⟩
             have T6 : Hid (Sfx n l q6) := by have := oV_sfx (uh en) (uh Si); rw [uh F6] at this; exact this
             go_wp2_with fail
             refine (oV_at p c n l en _ (uh HR _ b8) hb hl _ Si _ Ei d q6 F6 c6 G6).mono ?_
             rintro z9 w2 ⟨rfl, rfl⟩
             obtain ⟨hC, hO⟩ := uh hin
             obtain ⟨v3, hv3⟩ : ∃ V, V = w2.alloc (.cells #[.int .u64 d] 23) := ⟨_, rfl⟩
             have hb3 : Below w2.heap.size w2 v3 := by rw [hv3]; exact (Below.refl _ _).alloc (Nat.le_refl _) _
             have hcC : ∀ i u, ([.int .u64 d] : List Value)[i]? = some u → v3.cell? ⟨w2.heap.size, i, none⟩ = some u := by rw [hv3]; exact cells_new
             have HCC := hide hcC
             have z3 : v3.heap.size = w2.heap.size + 1 := by rw [hv3]; simp
             have hlO : Hid (∀ b, Hv.ownBlock = some b → nb + 1 ≤ b ∧ b < w2.heap.size) := fun b e => hO.lt b e
             have C3 := hide (hC.below zi hb3)
             have B3 := hide (Below.step (uh Bi) hb3)
             have HROW : Hid (v3.ownsRow (nb + 1) 23 1 Hv i ((rL oV i q5).1.map (Value.int .u64))) := by
              have := hO.below hb3
              unfold OwnU at this
              rw [rL_len] at this
              exact this
             have cl := hC.1 4 _ rfl
             clear hcC hC hO hin
             go_wp2_with (at_builtin; rw [← hv3]; refine wpList_append_fr rfl _ _ 64 rfl (nb + 1) 23 iu _ 1 8 Tryz.underlying64 hiu uz0 uz1 uz2 rfl (by decide) Hv i _ rfl (uh HROW) w2.heap.size 1 1 [.int .u64 d] rfl rfl (uh HCC) (fun u hu => by simp at hu; subst hu; rfl) (by unfold maxLen; omega) (by omega) (by omega) ?_)
             intro v' w9 hrow hg hfr
             rw [← hv3] at hg
             have sn := OwnU.snoc (rL_len oV i q5) hrow
             obtain ⟨pN, cN, e9⟩ := sn.form
             rw [List.length_append, rL_len] at e9
             subst e9
             have C9 := (uh C3).grown (by omega) hg (fun e => by have := (uh hlO nb e.symm).1; omega)
             have B9 : Hid (Below X.heap.size X w9) := (uh B3).grown hg (uh B3).size (fun b e => by have := (uh hlO b e).1; have := uh ZX; omega)
             have z9 := hg.size
             have CT := hide (C9.near 4 (by simp) (.slice pN (i + 1) cN))
             have OT : Hid (OwnU (nb + 1) (w9.setCell ⟨nb, 4, none⟩ (.slice pN (i + 1) cN)) (.slice pN (i + 1) cN) ((rL oV i q5).1 ++ [d])) := World.ownsRow.kept sn (grown_set w9 ⟨nb, 4, none⟩ _) (.inr fun e => by have := (sn.lt nb e).1; omega)
             have BT : Hid (Below X.heap.size X (w9.setCell ⟨nb, 4, none⟩ (.slice pN (i + 1) cN))) := (uh B9).setCell (by have := uh ZX; simp; omega) _
             have zT : nb < (w9.setCell ⟨nb, 4, none⟩ (.slice pN (i + 1) cN)).heap.size := by simp; omega
             have cc := C9.1 4 _ rfl
             have cf := C9.2
             have EL : Hid ((rL oV i q5).1 ++ [d] = (rL oV (i + 1) q5).1 ∧ (rL oV (i + 1) q5).2 = q6) := by
              show _ ∧ _
              rw [rL, uh F6]
              exact ⟨rfl, rfl⟩
             clear hrow hg hfr sn C9 hv3 hb3 cl
             go_wp2
             go_roundw
             case rel => exact ⟨i + 1, c6, _, by omega, rfl, by go_num, (by rw [(uh EL).2]; exact G6), (by rw [(uh EL).2]; exact T6), (by rw [← (uh EL).1]; exact ⟨uh CT, uh OT⟩), BT, zT⟩
             case measure => simp [intOf]; omega
            ·have hlh' : ¬ (i : Int) < (H : Int) := by omega
             skip
             have eiH : H = i := by omega
             subst eiH
             obtain ⟨hC, hO⟩ := uh hin
             obtain ⟨pH, cH, e9⟩ := hO.form
             rw [rL_len] at e9
             subst e9
             obtain ⟨HL, eHL⟩ : ∃ L, Hid ((rL oV H q5).1 = L) := ⟨_, (by show _ = _; rfl)⟩
             rw [uh eHL] at hO
             have lHL : Hid (HL.length = H) := by show _ = _; rw [← uh eHL]; exact rL_len _ _ _
             have HC9 := hide hC
             have HO9 := hide hO
             clear hC hO hin hi hlh hlh' 
             obtain ⟨⟨ep, q7⟩, F7⟩ : ∃ y, Hid (oV (rL oV H q5).2 = y) := ⟨_, (by show _ = _; rfl)⟩
             obtain ⟨c7, G7⟩ : ∃ a, Hid (atI n q7 = a) := ⟨_, (by show _ = _; rfl)⟩
             have T7 : Hid (Sfx n l q7) := by have := oV_sfx (uh en) (uh Si); rw [uh F7] at this; exact this
             obtain ⟨⟨ge, q8⟩, F8⟩ : ∃ y, Hid (oV q7 = y) := ⟨_, (by show _ = _; rfl)⟩
             obtain ⟨c8, G8⟩ : ∃ a, Hid (atI n q8 = a) := ⟨_, (by show _ = _; rfl)⟩
             have T8 : Hid (Sfx n l q8) := by have := oV_sfx (uh en) (uh T7); rw [uh F8] at this; exact this
             go_wp2_with fail
             refine (oV_at p c n l en _ (uh HR _ b8) hb hl _ Si _ Ei ep q7 F7 c7 G7).mono ?_
             rintro z9 y5 ⟨rfl, rfl⟩
             go_wp2_with fail
             refine (oV_at p c n l en _ (uh HR _ b8) hb hl _ T7 _ G7 ge q8 F8 c8 G8).mono ?_
             rintro z9 y6 ⟨rfl, rfl⟩
             obtain ⟨nd, end'⟩ : ∃ nd : Nod, Hid (nd = ⟨PP, VV, ow, mo, HL, ep, ge, []⟩) := ⟨_, (by show _ = _; rfl)⟩
             have ESP : Hid (spNods (j + 1) o7 = some (ns ++ [nd], q8)) := spNods_step (uh Em) (by
              rw [spNod]
              simp only [uh F1, uh F2, uh F3, uh F4, uh F5]
              rw [if_neg (by rw [not_or]; exact ⟨uh HN5, by omega⟩)]
              simp only [Int.toNat_natCast, uh eHL, uh F7, uh F8]
              rw [uh end'])
             have CA := (uh HC9).near 5 (by simp) (.int .u64 ep)
             have CB := CA.near 6 (by simp) (.int .u64 ge)
             obtain ⟨Z, hZ⟩ : ∃ Z, Z = ((y6.setCell ⟨nb, 5, none⟩ (.int .u64 ep)).setCell ⟨nb, 6, none⟩ (.int .u64 ge)) := ⟨_, rfl⟩
             rw [← hZ] at CB
             have BZ : Below X.heap.size X Z := by rw [hZ]; exact ((uh Bi).setCell (by have := uh ZX; simp; omega) _).setCell (by have := uh ZX; simp; omega) _
             have OZ : OwnU (nb + 1) Z (.slice pH H cH) HL := by
              rw [hZ]
              have o1 := World.ownsRow.kept (uh HO9) (grown_set y6 ⟨nb, 5, none⟩ (.int .u64 ep)) (.inr fun e => by have := ((uh HO9).lt nb e).1; omega)
              exact World.ownsRow.kept o1 (grown_set _ ⟨nb, 6, none⟩ (.int .u64 ge)) (.inr fun e => by have := (o1.lt nb e).1; omega)
             have zZ : nb < Z.heap.size := by rw [hZ]; simpa using zi
             have CZs := (uh C7).below (by have := uh ZX; omega) BZ
             obtain ⟨v3, hv3⟩ : ∃ V, V = Z.alloc (.cells #[.slice pP NP cP, .slice pV NV cV, .int .u64 ow, .int .i64 mo, .slice pH H cH, .int .u64 ep, .int .u64 ge, .slice none 0 0] 66) := ⟨_, rfl⟩
             have hbz : Below Z.heap.size Z v3 := by rw [hv3]; exact (Below.refl _ _).alloc (Nat.le_refl _) _
             have hcC : ∀ i u, ([.slice pP NP cP, .slice pV NV cV, .int .u64 ow, .int .i64 mo, .slice pH H cH, .int .u64 ep, .int .u64 ge, .slice none 0 0] : List Value)[i]? = some u → v3.cell? ⟨Z.heap.size, i, none⟩ = some u := by rw [hv3]; exact cells_new
             have ezz : Z.heap.size = y6.heap.size := by rw [hZ]; simp
             rw [ezz] at hcC
             have HCC := hide hcC
             have z3 : v3.heap.size = Z.heap.size + 1 := by rw [hv3]; simp
             have BX3 := Below.step BZ hbz
             have Bw3 := Below.step (uh BX) BX3
             obtain ⟨lH, fH⟩ := OwnU.pu (OZ.below hbz)
             have zXn := uh ZX
             have ELN : Hid (elNo v3 nd [.slice pP NP cP, .slice pV NV cV, .int .u64 ow, .int .i64 mo, .slice pH H cH, .int .u64 ep, .int .u64 ge, .slice none 0 0] (lP ++ (lV ++ (lH ++ []))) ∧ Apt wr.heap.size v3 (lP ++ (lV ++ (lH ++ [])))) := by
              have k0 := (uh FP).below BX3
              have k1 := (uh FV).below BX3
              have k4 := fH
              rw [← uh eNP] at k0
              rw [← uh eNV] at k1
              rw [← uh lHL] at k4
              have := elNo.mk4 (nd := ⟨PP, VV, ow, mo, HL, ep, ge, []⟩) (B := wr.heap.size) k0 k1 k4 (PU.nil v3 v3.heap.size v3.heap.size) (by omega) (by omega) (by omega) (by omega) (by omega) (by omega) (by omega) (by omega) (by omega) (by omega)
              dsimp only at this
              rw [uh eNP, uh eNV, uh lHL] at this
              rw [uh end']
              exact this
             obtain ⟨row, hrow0, happ⟩ := (uh HO).app elNo.keep Bw3 (uh ELN).1 rfl (uh ELN).2 (by omega)
             have hlO := hide (uh HO).lt
             rw [uh HLEN] at hrow0 happ
             have HAPP := hide happ
             have HROW := hide hrow0
             have C3' := hide (CZs.below (by omega) hbz)
             have nsb : ¬ sb = nb := by omega
             have nbs : ¬ nb = sb := by omega
             have d5 := (uh HC9).1 5 _ rfl
             have d6 := (uh HC9).1 6 _ rfl
             have d0 := CB.1 0 _ rfl
             have d1 := CB.1 1 _ rfl
             have d2 := CB.1 2 _ rfl
             have d3 := CB.1 3 _ rfl
             have d4 := CB.1 4 _ rfl
             have d5' := CB.1 5 _ rfl
             have d6' := CB.1 6 _ rfl
             have d7 := CB.1 7 _ rfl
             have df := (uh HC9).2
             have s5 := CZs.1 5 _ rfl
             rw [hZ] at d0 d1 d2 d3 d4 d5' d6' d7 s5
             have HZ := hide hZ
             have EZZ := hide ezz
             have BW3 := hide Bw3
             have HBZ := hide hbz
             clear ezz happ hcC hrow0 CA CB BZ OZ CZs fH hZ BX3 Bw3 hbz
             go_wp2_with (at_builtin; rw [← uh HZ, ← hv3]; refine wpList_append_fr rfl _ _ 25 rfl w4.heap.size 66 io _ 8 128 Tryz.underlying25 hio oz0 oz1 oz2 rfl (by decide) Nv j _ rfl (uh HROW) y6.heap.size 1 1 [.slice pP NP cP, .slice pV NV cV, .int .u64 ow, .int .i64 mo, .slice pH H cH, .int .u64 ep, .int .u64 ge, .slice none 0 0] rfl rfl (uh HCC) (fun u hu => by simp at hu; rcases hu with rfl | rfl | rfl | rfl | rfl | rfl | rfl | rfl <;> rfl) (by unfold maxLen; omega) (by omega) (by omega) ?_)
             intro v' w9 hrow hg hfr0
             have ezz := uh EZZ
             have hfr : ∀ g, v'.ownBlock = some g → Nv.ownBlock = some g ∨ v3.heap.size ≤ g := fun g e => by have := hfr0 g e; rw [hv3]; simpa using this
             rw [← hv3] at hg
             obtain ⟨sn, pN, cN, rfl⟩ := uh HAPP v' w9 hrow hg hfr
             have C9 := (uh C3').grown (by omega) hg (fun e => by have := ((uh hlO).1 sb e.symm).1; omega)
             have G9 : w4.grownBy w9 (some sb) := grown_step (grown_step (uh hgr) (grown_of_below (uh BW3) none) (fun b e => by cases e)) hg (fun b e => .inl ((uh hlO).1 b e).1)
             have CT := hide (C9.near 5 (by simp) (.slice pN (j + 1) cN))
             have OT := hide (sn.putBox elNo.keep (sb := sb) (by omega) 5 (.slice pN (j + 1) cN))
             have GT : Hid (w4.grownBy (w9.setCell ⟨sb, 5, none⟩ (.slice pN (j + 1) cN)) (some sb)) := grown_trans G9 (grown_set w9 ⟨sb, 5, none⟩ _)
             have cc := C9.1 5 _ rfl
             have cf := C9.2
             clear hrow hg hfr hfr0 sn C9 G9 hv3 d0 d1 d2 d3 d4 d5 d6 d5' d6' d7 s5 df
             go_wp2
             go_roundw
             case rel => exact ⟨j + 1, c8, _, _, _, q8, by omega, rfl, by go_num, ESP, G8, T8, ⟨uh CT, uh OT⟩, GT⟩
             case measure => simp [intOf]; omega
        ·have hlt' : ¬ (j : Int) < (Q : Int) := by omega
         skip
         have ejQ : Q = j := by omega
         subst ejQ
         obtain ⟨hC, hO⟩ := uh hin
         obtain ⟨v1', v2', hlen⟩ := spNods_rg (uh en) (uh hb) hl Q (uh S7) (uh Em)
         obtain ⟨pN, cN, evN, -⟩ := id hO.read
         rw [hlen] at evN
         subst evN
         obtain ⟨sl, esl⟩ : ∃ L, Hid ((rL oV K o4).1.map idS = L) := ⟨_, (by show _ = _; rfl)⟩
         have hSL : Hid (∀ s ∈ sl, s.2 = (0, [])) := fun s hs => by
          rw [← uh esl] at hs
          obtain ⟨i, -, rfl⟩ := List.mem_map.1 hs
          rfl
         have HNS := hide v1'
         have ES : Hid (spSt l = some ((e, g, x), sl, ns, om)) := by
          show _ = _
          rw [uh SPO, uh Em, uh esl]
          rfl
         have en1 : Hid (sl.length = K) := by show _ = _; rw [← uh esl]; exact uh HSL
         have en2 : Hid (ns.length = Q) := hlen
         obtain ⟨L3, OS, hm1, hm2⟩ : ∃ L3, OwnT elSe 59 3 (sb + 1) wr (.slice pS K cS) sl L3 ∧ (∀ a ∈ L3.flatten, a.b < w4.heap.size) ∧ ∀ b, (Value.slice pS K cS).ownBlock = some b → b < w4.heap.size := by
          refine ⟨_, ?_, fun a' ha => ((uh O3).lt.2 a' ha).2, fun b hb' => ((uh O3).lt.1 b hb').2⟩
          rw [← uh esl]
          exact (uh O3).keep (elSe.keep _ _) zg (fun b hb' => (uh hgr).block b ((uh O3).lt.1 b hb').2 (by have := ((uh O3).lt.1 b hb').1; simp; omega)) (fun a' ha => (uh hgr).block _ ((uh O3).lt.2 a' ha).2 (by have := ((uh O3).lt.2 a' ha).1; simp; omega))
         obtain ⟨rs, A1', lvs, aps, hi1⟩ : RdSc wr (.slice pS K cS) sl ∧ ∃ A, LvS wr (.slice pS K cS) sl A ∧ Apt (sb + 1) wr A ∧ ∀ a ∈ A, a.b < w4.heap.size := by
          obtain ⟨A, q1, q2, q3⟩ := OS.seB (M := w4.heap.size) hm1 hm2
          exact ⟨OS.se.1, A, q1, q2, q3⟩
         obtain ⟨rn, A2', lvn, apn⟩ := hO.no
         have FF : Hid (StOwn (sb + 1) wr pS K cS pN Q cN sl ns) := ⟨A1', A2', rs, rn, lvs, lvn, aps.app (apn.mono (by omega)) (by omega) hi1⟩
         have RR := hide (And.intro rs rn)
         have C9 := hide hC
         have R9 := hide ((uh R3).grown (by omega) (uh hgr) (by simp; omega))
         have na := atI_neg (uh Sm)
         rw [uh Ea] at na
         have NA := hide na.1
         have ma : -1 ≤ a ∧ a ≤ n := ⟨na.2.2, na.2.1⟩
         clear na hC hO hin OS hm1 hm2 lvs aps hi1 lvn apn rs rn v1' v2' hlen hj hlt hlt' 
         by_cases h11 : a < 0
         ·have hn := (uh NA).1 h11
          have hP : specP l = none := by
           rw [specP, uh ES, Option.bind_some, if_neg (fun hh => hh.1 hn)]
          have HD : Hid (decD (specP l) = stD0 ∧ decC (specP l) = 13) := by rw [hP]; exact ⟨rfl, rfl⟩
          clear hP
          have r0 := (uh R9).1 0 _ rfl
          have r1 := (uh R9).1 1 _ rfl
          have r2 := (uh R9).1 2 _ rfl
          have r3 := (uh R9).1 3 _ rfl
          have r4 := (uh R9).1 4 _ rfl
          have r5 := (uh R9).1 5 _ rfl
          have rf := (uh R9).2
          have BB := b5
          go_wp2
          refine bodyPost_ret (v := .tuple #[stV 0 0 0 0 (.slice none 0 0) (.slice none 0 0), .int .i64 13]) (by simp [results, Tryz.results6, go_sem, r0, r1, r2, r3, r4, r5]) rfl ⟨?_, ?_⟩
          ·rw [(uh HD).1, (uh HD).2]
           exact ⟨none, 0, none, 0, rfl, StOwn.zero _ _⟩
          ·exact (((((BB.setCell (by simp) _).setCell (by simp) _).setCell (by simp) _).setCell (by simp) _).setCell (by simp) _).setCell (by simp) _
         ·skip
          have hno : ¬ om = none := fun hh => h11 ((uh NA).2 hh)
          have HNO := hide hno
          clear hno
          obtain ⟨B, eB⟩ : ∃ B, Hid (stOK e g x 0 sl ns = B) := ⟨_, (by show _ = _; rfl)⟩
          have hbs : Hid (∀ s ∈ sl, s.2.2.length ≤ 1048576 ∧ ∀ e ∈ s.2.2, Byt e.2 ∧ e.2.length ≤ 1048576) := fun s hs => by
           have := uh hSL s hs
           rw [this]
           exact ⟨Nat.zero_le _, fun e he => by simp at he⟩
          have hby : Hid (∀ nd ∈ ns, Byt nd.path ∧ nd.path.length ≤ 1048576 ∧ nd.value.length ≤ 1048576 ∧ nd.holders.length ≤ 1048576 ∧ nd.watchers.length ≤ 1048576) := fun nd hnd => by
           have := uh HNS nd hnd
           exact ⟨this.by0, this.l0, this.l1, this.l4, by rw [this.l7]; exact Nat.zero_le _⟩
          have k0 := (uh C9).1 0 _ rfl
          have k1 := (uh C9).1 1 _ rfl
          have k2 := (uh C9).1 2 _ rfl
          have k3 := (uh C9).1 3 _ rfl
          have k4 := (uh C9).1 4 _ rfl
          have k5 := (uh C9).1 5 _ rfl
          go_wp2_with fail
          refine (specVS e g x 0 pS pN cS K cN Q sl ns en1 en2 _ (uh RR).1.rd (uh RR).2 (by omega) (by omega) hbs hby B eB).mono ?_
          rintro z9 u1 ⟨rfl, hu1⟩
          have b10 := Below.step b5 hu1
          have R10 := hide ((uh R9).below (by omega) hu1)
          have C10 := hide ((uh C9).below (by omega) hu1)
          have F10 := hide ((uh FF).below hu1)
          have RR10 := hide (And.intro ((uh RR).1.below hu1) ((uh RR).2.below hu1))
          have zu1 := hu1.size
          clear hu1 k0 k1 k2 k3 k4 k5
          cases B with
          | false =>
           have hP : specP l = none := by
            rw [specP, uh ES, Option.bind_some, if_neg (fun hh => by have := hh.2.1; simp only at this; rw [uh eB] at this; cases this)]
           have HD : Hid (decD (specP l) = stD0 ∧ decC (specP l) = 13) := by rw [hP]; exact ⟨rfl, rfl⟩
           clear hP
           have r0 := (uh R10).1 0 _ rfl
           have r1 := (uh R10).1 1 _ rfl
           have r2 := (uh R10).1 2 _ rfl
           have r3 := (uh R10).1 3 _ rfl
           have r4 := (uh R10).1 4 _ rfl
           have r5 := (uh R10).1 5 _ rfl
           have rf := (uh R10).2
           have BB := b10
           go_wp2
           refine bodyPost_ret (v := .tuple #[stV 0 0 0 0 (.slice none 0 0) (.slice none 0 0), .int .i64 13]) (by simp [results, Tryz.results6, go_sem, r0, r1, r2, r3, r4, r5]) rfl ⟨?_, ?_⟩
           ·rw [(uh HD).1, (uh HD).2]
            exact ⟨none, 0, none, 0, rfl, StOwn.zero _ _⟩
           ·exact (((((BB.setCell (by simp) _).setCell (by simp) _).setCell (by simp) _).setCell (by simp) _).setCell (by simp) _).setCell (by simp) _
          | true =>
           have re : 0 ≤ e ∧ e < 18446744073709551616 := by have := oV_u64 (om := some l); rw [uh E1] at this; exact this
           have rg : 0 ≤ g ∧ g < 18446744073709551616 := by have := oV_u64 (om := o1); rw [uh E2] at this; exact this
           have rx : 0 ≤ x ∧ x < 18446744073709551616 := by have := oV_u64 (om := o2); rw [uh E3] at this; exact this
           obtain ⟨e', rfl⟩ : ∃ v : Nat, e = (v : Int) := ⟨e.toNat, by omega⟩
           obtain ⟨g', rfl⟩ : ∃ v : Nat, g = (v : Int) := ⟨g.toNat, by omega⟩
           obtain ⟨x', rfl⟩ : ∃ v : Nat, x = (v : Int) := ⟨x.toNat, by omega⟩
           have HSM := hide (rg_sml (uh eB) (uh HNS))
           obtain ⟨M, eM⟩ : ∃ M, Hid ((stB e' g' x' sl ns).length = M) := ⟨_, (by show _ = _; rfl)⟩
           have k0 := (uh C10).1 0 _ rfl
           have k1 := (uh C10).1 1 _ rfl
           have k2 := (uh C10).1 2 _ rfl
           have k3 := (uh C10).1 3 _ rfl
           have k4 := (uh C10).1 4 _ rfl
           have k5 := (uh C10).1 5 _ rfl
           go_wp2_with fail
           refine (l3enc_any e' g' x' 0 (by omega) (by omega) (by omega) pS pN cS K cN Q sl ns en1 en2 _ (uh RR10).1.rd (uh RR10).2 HSM M eM).mono ?_
           rintro z9 u2 ⟨pE, cE, rfl, oE, hu2⟩
           have b11 := Below.step b10 hu2
           have R11 := hide ((uh R10).below (by omega) hu2)
           have C11 := hide ((uh C10).below (by omega) hu2)
           have F11 := hide ((uh F10).below hu2)
           have zu2 := hu2.size
           have RE := hide oE.rd
           clear hu2 oE k0 k1 k2 k3 k4 k5
           go_wp2_with fail
           refine (l3same_any pE p cE c M n (stB e' g' x' sl ns) l eM en _ (uh RE) (uh HR _ b11) (stB_byt (by omega) (by omega) (by omega) (uh HSM) (uh HNS)) (uh hb)).mono ?_
           rintro z9 u3 ⟨rfl, hu3⟩
           have b12 := Below.step b11 hu3
           have R12 := hide ((uh R11).below (by omega) hu3)
           have C12 := hide ((uh C11).below (by omega) hu3)
           have F12 := hide ((uh F11).below hu3)
           have zu3 := hu3.size
           clear hu3
           by_cases hEq : stB e' g' x' sl ns = l
           ·have hd : decide (stB e' g' x' sl ns = l) = true := by simpa using hEq
            have hP : specP l = some (((e' : Int), (g' : Int), (x' : Int)), sl, ns) := by
             rw [specP, uh ES, Option.bind_some, if_pos ⟨uh HNO, uh eB, by simpa using hEq⟩]
            have HD : Hid (decD (specP l) = ⟨e', g', x', 0, sl, ns⟩ ∧ decC (specP l) = 0) := by rw [hP]; exact ⟨rfl, rfl⟩
            rw [hd]
            have r0 := (uh R12).1 0 _ rfl
            have r1 := (uh R12).1 1 _ rfl
            have r2 := (uh R12).1 2 _ rfl
            have r3 := (uh R12).1 3 _ rfl
            have r4 := (uh R12).1 4 _ rfl
            have r5 := (uh R12).1 5 _ rfl
            have rf := (uh R12).2
            have k0 := (uh C12).1 0 _ rfl
            have k1 := (uh C12).1 1 _ rfl
            have k2 := (uh C12).1 2 _ rfl
            have k3 := (uh C12).1 3 _ rfl
            have k4 := (uh C12).1 4 _ rfl
            have k5 := (uh C12).1 5 _ rfl
            have q1 : ¬ w.heap.size = sb := by omega
            have q2 : ¬ sb = w.heap.size := by omega
            clear hP hd hEq
            go_wp2
            obtain ⟨Z, hZ⟩ : ∃ Z, Z = ((((((u3.setCell ⟨w.heap.size, 0, none⟩ (.int .u64 e')).setCell ⟨w.heap.size, 1, none⟩ (.int .u64 g')).setCell ⟨w.heap.size, 2, none⟩ (.int .u64 x')).setCell ⟨w.heap.size, 3, none⟩ (.int .i64 0)).setCell ⟨w.heap.size, 4, none⟩ (.slice pS K cS)).setCell ⟨w.heap.size, 5, none⟩ (.slice pN Q cN)) := ⟨_, rfl⟩
            have hkZ : ∀ z, z ≠ w.heap.size → Z.heap[z]? = u3.heap[z]? := fun z hz => by
             rw [hZ]
             iterate 6 rw [RowKit.Below.heap_setCell _ _ _ _ hz]
            refine bodyPost_ret (v := .tuple #[stV e' g' x' 0 (.slice pS K cS) (.slice pN Q cN), .int .i64 0]) (by simp [results, Tryz.results6, go_sem, r0, r1, r2, r3, r4, r5]) rfl ⟨?_, ?_⟩
            ·rw [← hZ, (uh HD).1, (uh HD).2]
             have f := ((uh F12).keep (w' := Z) (fun z hz _ => hkZ z (by omega))).mono (B' := w.heap.size) (by omega)
             rw [← uh en1, ← uh en2] at f ⊢
             exact ⟨pS, cS, pN, cN, rfl, f⟩
            ·exact (((((b12.setCell (by simp) _).setCell (by simp) _).setCell (by simp) _).setCell (by simp) _).setCell (by simp) _).setCell (by simp) _
           ·have hd : decide (stB e' g' x' sl ns = l) = false := by simpa using hEq
            rw [hd]
            have hP : specP l = none := by
             rw [specP, uh ES, Option.bind_some, if_neg (fun hh => hEq (by simpa using hh.2.2))]
            have HD : Hid (decD (specP l) = stD0 ∧ decC (specP l) = 13) := by rw [hP]; exact ⟨rfl, rfl⟩
            clear hP
            have r0 := (uh R12).1 0 _ rfl
            have r1 := (uh R12).1 1 _ rfl
            have r2 := (uh R12).1 2 _ rfl
            have r3 := (uh R12).1 3 _ rfl
            have r4 := (uh R12).1 4 _ rfl
            have r5 := (uh R12).1 5 _ rfl
            have rf := (uh R12).2
            have BB := b12
            go_wp2
            refine bodyPost_ret (v := .tuple #[stV 0 0 0 0 (.slice none 0 0) (.slice none 0 0), .int .i64 13]) (by simp [results, Tryz.results6, go_sem, r0, r1, r2, r3, r4, r5]) rfl ⟨?_, ?_⟩
            ·rw [(uh HD).1, (uh HD).2]
             exact ⟨none, 0, none, 0, rfl, StOwn.zero _ _⟩
            ·exact (((((BB.setCell (by simp) _).setCell (by simp) _).setCell (by simp) _).setCell (by simp) _).setCell (by simp) _).setCell (by simp) _
end Go.Proofs.YtnbgnhhnpmmloaaGreatDoor

