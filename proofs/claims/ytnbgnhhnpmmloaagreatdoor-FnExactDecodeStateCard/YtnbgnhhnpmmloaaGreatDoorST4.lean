import Derived.Test.YtnbgnhhnpmmloaaGreatDoorK33
namespace Go.Proofs.YtnbgnhhnpmmloaaGreatDoor
open Go.ChangeShapes Go.WideShapes Go.ChangeAt Go.RowKit Go.Maps
set_option linter.unusedVariables false
set_option linter.unusedSimpArgs false
set_option maxRecDepth 100000
set_option maxHeartbeats 6400000 in
theorem state_any (b bs bn : Nat) (e g x t : Int) (ss : List Ses) (ns : List Nod) (SB NB : List Nat) (w : World) (h : Sto w b bs bn e g x t ss ns SB NB) (hs : Hid (ss.Pairwise (fun s s' => s.1 < s'.1))) (hn : Hid ((ns.map fun nd => byS nd.path).Pairwise (· < ·)))
  (ls : ss.length ≤ 1048576) (ln : ns.length ≤ 1048576) (hls : Hid (∀ s ∈ ss, (0 ≤ s.1 ∧ s.1 < 18446744073709551616) ∧ s.2.2.length ≤ 1048576 ∧ ∀ e ∈ s.2.2, e.2.length ≤ 1048576))
  (hln : Hid (∀ nd ∈ ns, Byt nd.path ∧ nd.path.length ≤ 1048576 ∧ nd.value.length ≤ 1048576 ∧ nd.holders.length ≤ 1048576 ∧ nd.watchers.length ≤ 1048576 ∧ nd.holders.Pairwise (· < ·) ∧ nd.watchers.Pairwise (· < ·))) :
  Calls Tryz.prog 99 #[.pointer (some ⟨b, 0, none⟩)] w fun r w' => ∃ p c q d A1 A2, r = .returned (stV e g x t (.slice p ss.length c) (.slice q ns.length d)) ∧ RdSc w' (.slice p ss.length c) ss ∧ RdN w' (.slice q ns.length d) ns ∧ LvS w' (.slice p ss.length c) ss A1 ∧ LvN w' (.slice q ns.length d) ns A2 ∧ Apt w.heap.size w' (A1 ++ A2) ∧ Below w.heap.size w w' := by
 have k0 : w.cell? ⟨b, 0, none⟩ = some (.int .u64 e) := cells_at h.hd 0
 have k1 : w.cell? ⟨b, 1, none⟩ = some (.int .u64 g) := cells_at h.hd 1
 have k2 : w.cell? ⟨b, 2, none⟩ = some (.int .u64 x) := cells_at h.hd 2
 have k3 : w.cell? ⟨b, 3, none⟩ = some (.int .i64 t) := cells_at h.hd 3
 obtain ⟨is, his, sz0, sz1, sz2⟩ := info_parts Tryz.infoSes
 obtain ⟨io, hio, oz0, oz1, oz2⟩ := info_parts Tryz.infoNod
 obtain ⟨W0, hW0⟩ : ∃ W, W = (w.alloc (.cells #[.int .u64 0, .int .u64 0, .int .u64 0, .int .i64 0, .slice none 0 0, .slice none 0 0] 27)) := ⟨_, rfl⟩
 have b0 : Below w.heap.size w W0 := by rw [hW0]; exact (Below.refl _ _).alloc (Nat.le_refl _) _
 have z0 : W0.heap.size = w.heap.size + 1 := by rw [hW0]; simp
 have r0 : CellsAre W0 w.heap.size [.int .u64 0, .int .u64 0, .int .u64 0, .int .i64 0, .slice none 0 0, .slice none 0 0] := by rw [hW0]; exact CellsAre.alloc w #[.int .u64 0, .int .u64 0, .int .u64 0, .int .i64 0, .slice none 0 0, .slice none 0 0] _
 go_enter Tryz.func99, Tryz.ntmps99
 go_wp2_with fail
 rw [← hW0]
 obtain ⟨v0, hv0⟩ : ∃ V, V = W0.drew := ⟨_, rfl⟩
 have bv : Below w.heap.size w v0 := by rw [hv0]; exact b0.drew
 have zv : v0.heap.size = w.heap.size + 1 := by rw [hv0]; exact z0
 have R0 : Hid (CellsAre v0 w.heap.size [.int .u64 0, .int .u64 0, .int .u64 0, .int .i64 0, .slice none 0 0, .slice none 0 0]) := by rw [hv0]; exact r0
 have S0 := hide (And.intro (cell_below k0 bv) (And.intro (cell_below k1 bv) (And.intro (cell_below k2 bv) (cell_below k3 bv))))
 have H0 := hide (h.below bv)
 have ZV := hide zv
 refine wp_region_noPanic ?_
 refine wp_region_held_drew (S := fun w' => w'.cell? ⟨b, 0, none⟩ = some (.int .u64 e) ∧ w'.cell? ⟨b, 1, none⟩ = some (.int .u64 g) ∧ w'.cell? ⟨b, 2, none⟩ = some (.int .u64 x) ∧ w'.cell? ⟨b, 3, none⟩ = some (.int .i64 t)) (by kernel_rfl) (by rw [← hv0]; exact uh S0) (fun hS => ?_)
 rw [← hv0] at hS ⊢
 clear hv0 hW0 b0 z0 r0 k0 k1 k2 k3 zv
 refine tk 0 hS (h := ?_); simp only [Act.put, xa, xb, xc]
 refine tk 1 hS (h := ?_); simp only [Act.put, xa, xb, xc]
 refine tk 2 hS (h := ?_); simp only [Act.put, xa, xb, xc]
 refine tk 3 hS (h := ?_); simp only [Act.put, xa, xb, xc]
 refine tk 4 hS (h := ?_); simp only [Act.put, xa, xb, xc]
 refine tk 5 hS (h := ?_); simp only [Act.put, xa, xb, xc]
 refine tk 6 hS (h := ?_); simp only [Act.put, xa, xb, xc]
 refine tk 7 hS (h := ?_); simp only [Act.put, xa, xb, xc]
 refine tk 8 hS (h := ?_); simp only [Act.put, xa, xb, xc]
 refine tk 9 hS (h := ?_); simp only [Act.put, xa, xb, xc]
 refine tk 10 hS (h := ?_); simp only [Act.put, xa, xb, xc]
 refine tk 11 hS (h := ?_); simp only [Act.put, xa, xb, xc]
 refine tk 12 hS (h := ?_); simp only [Act.put, xa, xb, xc]
 refine tk 13 hS (h := ?_); simp only [Act.put, xa, xb, xc]
 refine tk 14 hS (h := ?_); simp only [Act.put, xa, xb, xc]
 refine tk 15 hS (h := ?_); simp only [Act.put, xa, xb, xc]
 refine tk 16 hS (h := ?_); simp only [Act.put, xa, xb, xc]
 refine ry [17] ?_
 refine cn (fun KK hK => ?_) ?_
 ·go_simp
  obtain ⟨v1, hv1⟩ : ∃ V, V = v0.alloc (.cells #[.int .u64 0, .int .u64 0, .int .u64 0, .int .i64 0, .slice none 0 0, .slice none 0 0] 27) := ⟨_, rfl⟩
  have hb1 : Below v0.heap.size v0 v1 := by rw [hv1]; exact (Below.refl _ _).alloc (Nat.le_refl _) _
  have c1 : CellsAre v1 v0.heap.size [.int .u64 0, .int .u64 0, .int .u64 0, .int .i64 0, .slice none 0 0, .slice none 0 0] := by rw [hv1]; exact CellsAre.alloc v0 #[.int .u64 0, .int .u64 0, .int .u64 0, .int .i64 0, .slice none 0 0, .slice none 0 0] _
  have z1 : v1.heap.size = v0.heap.size + 1 := by rw [hv1]; simp
  rw [← hv1]
  obtain ⟨sb, hsb⟩ : ∃ s, s = v0.heap.size := ⟨_, rfl⟩
  rw [← hsb] at c1 ⊢
  have S1 := hide (And.intro (cell_below (uh S0).1 hb1) (And.intro (cell_below (uh S0).2.1 hb1) (And.intro (cell_below (uh S0).2.2.1 hb1) (cell_below (uh S0).2.2.2 hb1))))
  have H1 := hide ((uh H0).below hb1)
  have R1 := hide ((uh R0).below (by have := uh ZV; omega) hb1)
  have b1 := Below.step bv hb1
  have HZ := hide (And.intro (uh ZV) (And.intro hsb z1))
  refine hK.out _ _ (by exact uh S1) (fun hS => ?_)
  have rc0 := c1.1 0 _ rfl
  have rc1 := c1.1 1 _ rfl
  have rc2 := c1.1 2 _ rfl
  have rc3 := c1.1 3 _ rfl
  have rc4 := c1.1 4 _ rfl
  have rc5 := c1.1 5 _ rfl
  have rf := c1.2
  clear hK KK hv1 hb1 hsb z1
  (try simp only [Act.put, xa, xb, xc])
  refine ry [18] ?_
  refine cn (fun KK hK => ?_) ?_
  ·go_simp
   obtain ⟨Z, hZ⟩ : ∃ Z, Z = ((((((v1.setCell ⟨sb, 0, none⟩ (.int .u64 e)).setCell ⟨sb, 1, none⟩ (.int .u64 g)).setCell ⟨sb, 2, none⟩ (.int .u64 x)).setCell ⟨sb, 3, none⟩ (.int .i64 t)).setCell ⟨sb, 4, none⟩ (.slice none 0 0)).setCell ⟨sb, 5, none⟩ (.slice none 0 0)) := ⟨_, rfl⟩
   obtain ⟨zz0, zz1, zz2⟩ := uh HZ
   have CZ : CellsAre Z sb [.int .u64 e, .int .u64 g, .int .u64 x, .int .i64 t, .slice none 0 0, .slice none 0 0] := by
    rw [hZ]
    exact ((((((c1.near 0 (by simp) _).near 1 (by simp) _).near 2 (by simp) _).near 3 (by simp) _).near 4 (by simp) _).near 5 (by simp) _)
   have hgZ : v1.grownBy Z (some sb) := by
    rw [hZ]
    exact grown_trans (grown_trans (grown_trans (grown_trans (grown_trans (grown_set _ _ _) (grown_set _ _ _)) (grown_set _ _ _)) (grown_set _ _ _)) (grown_set _ _ _)) (grown_set _ _ _)
   have bZ : Below w.heap.size w Z := below_grow b1 hgZ (by omega)
   have RZ := (uh R1).grown (by omega) hgZ (by simp; omega)
   have SZ : Z.cell? ⟨b, 0, none⟩ = some (.int .u64 e) ∧ Z.cell? ⟨b, 1, none⟩ = some (.int .u64 g) ∧ Z.cell? ⟨b, 2, none⟩ = some (.int .u64 x) ∧ Z.cell? ⟨b, 3, none⟩ = some (.int .i64 t) := ⟨cells_at (h.below bZ).hd 0, cells_at (h.below bZ).hd 1, cells_at (h.below bZ).hd 2, cells_at (h.below bZ).hd 3⟩
   have zZ : sb < Z.heap.size := by have := hgZ.size; omega
   rw [← hZ]
   refine hK.out _ _ (by exact SZ) (fun hS => ?_)
   clear hK KK hZ hgZ SZ c1 rc0 rc1 rc2 rc3 rc4 rc5 rf S1 H1 R1 S0 H0 R0
   (try simp only [Act.put, xa, xb, xc])
   refine wpAnyH_done (by kernel_rfl) ?_ _
   refine NoPanic.normal ?_
   have hsw : w.heap.size < sb := by omega
   have CZ' := hide CZ
   have RZ' := hide RZ
   have HS := hide fun (w' : World) (hb : Below w.heap.size w w') => h.below hb
   have HLW : Hid (∀ k s gs, ss[k]? = some s → SB[k]? = some gs → b < w.heap.size ∧ bs < w.heap.size ∧ gs < w.heap.size) := fun k s gs hy hgs => by
    obtain ⟨_, _, o, _, _⟩ := h.ses.own
    obtain ⟨_, y3, _⟩ := h.ses.blk k _ gs hy hgs
    exact ⟨heap_lt h.hd, o.lt, heap_lt y3⟩
   have HLN : Hid (∀ k s gs, ns[k]? = some s → NB[k]? = some gs → b < w.heap.size ∧ bn < w.heap.size ∧ gs < w.heap.size) := fun k s gs hy hgs => by
    obtain ⟨_, _, o, _, _⟩ := h.nod.own
    obtain ⟨_, _, _, y3⟩ := h.nod.blk k _ gs hy hgs
    exact ⟨heap_lt h.hd, o.lt, heap_lt y3.blk⟩
   have BZ := hide bZ
   clear hS CZ RZ h bv b1 zz0 zz1 zz2 HZ ZV
   obtain ⟨hHd, hSes, hNod⟩ := uh HS _ (uh BZ)
   obtain ⟨D, nD, oD, hnD, mD⟩ := id hSes.own
   have k4 : Z.cell? ⟨b, 4, none⟩ = some (.map (some bs)) := cells_at hHd 4
   have MD := hide mD
   have OD := hide oD
   clear hHd hNod mD
   go_wp2_with fail
   refine (Q.sortedKeys_s bs nD D _ oD (Nat.le_trans oD.size_le hnD)).mono ?_
   rintro r w1 ⟨kv, ids, rfl, asc, rdk, hb1⟩
   obtain rfl := ses_sorted hSes (uh hs) (uh MD) asc
   obtain ⟨pk, ck, Ak, rfl, rk, lk, ak⟩ := rdK_own rdk
   have hnk : (ss.map (·.1)).length = ss.length := List.length_map _
   obtain ⟨nk, enk⟩ : ∃ n, n = (ss.map (·.1)).length := ⟨_, rfl⟩
   rw [← enk] at rk lk ⊢
   have enk' : nk = ss.length := by rw [enk, hnk]
   have ENK := hide enk'
   have hnkl : nk ≤ 1048576 := by omega
   have HKV := hide (And.intro rk (And.intro lk ak))
   have b1 := Below.step (uh BZ) hb1
   have z1 := hb1.size
   have C1 := hide ((uh CZ').below zZ hb1)
   have R1 := hide ((uh RZ').below (by omega) hb1)
   clear rk lk ak rdk asc hb1 k4 hSes oD enk enk' hnk CZ' RZ'
   go_wp2_with fail
   go_loopw [31] (fun iv wr => ∃ (k : Nat) (Sv : Value) (Ls : List (List Lf)), k ≤ nk ∧ iv = .int .i64 k ∧ Hid (CellsAre wr sb [.int .u64 e, .int .u64 g, .int .u64 x, .int .i64 t, Sv, .slice none 0 0] ∧ OwnT elSe 59 3 w1.heap.size wr Sv (ss.take k) Ls) ∧ Hid (w1.grownBy wr (some sb))) (fun iv _ => nk - (intOf iv).toNat)
   case atStart => exact ⟨0, _, [], Nat.zero_le _, rfl, ⟨uh C1, OwnT.nil _ _ _ _ _⟩, grown_refl _ _⟩
   case round =>
    obtain ⟨k, Sv, Ls, hk, rfl, hin, hgr⟩ := hrel
    have BB := below_grow b1 (uh hgr) (by omega)
    by_cases hlt : k < nk
    ·have hlt' : (k : Int) < (nk : Int) := by omega
     have hkl : k < ss.length := by rw [← uh ENK]; exact hlt
     obtain ⟨⟨I, Dl, Qu⟩, hy⟩ : ∃ y, ss[k]? = some y := ⟨_, List.getElem?_eq_getElem hkl⟩
     obtain ⟨hH, hSe, -⟩ := uh HS _ BB
     obtain ⟨gs, hgs, hmem⟩ := key_at_ses hSe hy
     obtain ⟨u, hbu, hru⟩ := hSe.blk k _ gs hy hgs
     dsimp only at hbu hru hmem
     obtain ⟨pq, cq, rfl, -⟩ := id hru
     obtain ⟨nq, enq⟩ : ∃ n, Qu.length = n := ⟨_, rfl⟩
     rw [enq] at hru hbu
     have ENQ := hide enq
     obtain ⟨hI, hq1, hq2⟩ := uh hls _ (List.mem_of_getElem? hy)
     dsimp only at hI hq1 hq2
     have hnq : nq ≤ 1048576 := by rw [← enq]; exact hq1
     have HQ2 : Hid (∀ e ∈ Qu, e.2.length ≤ 1048576) := hq2
     obtain ⟨gk, ok, rfl, hck⟩ : ∃ gk ok, pk = some ⟨gk, ok, none⟩ ∧ wr.cell? ⟨gk, ok + k, none⟩ = some (.int .u64 I) := by
      obtain ⟨rk, lk, ak⟩ := uh HKV
      have rk' := rk.keepLv lk (w' := wr) (fun a ha => (uh hgr).block a.b (ak.inn.lt ha) (by have := ak.lo a ha; simp; omega))
      obtain ⟨p', c', ee, hd⟩ := rk'
      simp only [Value.slice.injEq] at ee
      obtain ⟨rfl, -, -⟩ := ee
      rcases hd with hd | ⟨b', o', rfl, hd⟩
      ·have := congrArg List.length hd
       simp at this
       rw [this] at hkl
       simp at hkl
      ·refine ⟨b', o', rfl, ?_⟩
       rw [hd k (by simpa using hkl)]
       simp [List.getD_eq_getElem?_getD, hy]
     have HY := hide hy
     obtain ⟨hC, hO⟩ := uh hin
     have cS4 := hC.1 4 _ rfl
     have kb4 : wr.cell? ⟨b, 4, none⟩ = some (.map (some bs)) := cells_at hH 4
     obtain ⟨D', n', oD', hn', mD'⟩ := hSe.own
     have HLK := hide (And.intro mD' (And.intro hmem hI))
     have hLT : b < w1.heap.size ∧ bs < w1.heap.size ∧ gs < w1.heap.size := by
      obtain ⟨y1, y2, -⟩ := uh HS _ b1
      obtain ⟨_, _, o, _, _⟩ := y2.own
      obtain ⟨_, y3, _⟩ := y2.blk k _ gs hy hgs
      exact ⟨heap_lt y1, o.lt, heap_lt y3⟩
     have HLT := hide hLT
     have hLW : b < w.heap.size ∧ bs < w.heap.size ∧ gs < w.heap.size := uh HLW k _ gs hy hgs
     have t3b : b ≠ sb := by omega
     have t4b : bs ≠ sb := by omega
     have t5b : gs ≠ sb := by omega
     obtain ⟨vA, hvA⟩ : ∃ V, V = wr.drew := ⟨_, rfl⟩
     have hbA : Below wr.heap.size wr vA := by rw [hvA]; exact (Below.refl _ _).drew
     have SXA := hide (And.intro (cell_below kb4 hbA) (And.intro (oD'.kept (grown_of_below hbA none) (by simp)) (And.intro (cell_below (cells_at hbu 0) hbA) (And.intro (cell_below (cells_at hbu 1) hbA) (cell_below (cells_at hbu 2) hbA)))))
     have RQ := hide (hru.below hbA)
     have OA := hide (hO.below elSe.keep hbA)
     have CXA := hide (hC.below (by have := (uh hgr).size; omega) hbA)
     have gA : Hid (w1.grownBy vA (some sb)) := grown_step (uh hgr) (grown_of_below hbA none) (fun b e => by cases e)
     have BXA := hide (Below.refl vA.heap.size vA)
     have zxA : sb < vA.heap.size := by have := (uh gA).size; omega
     have hcf : ∀ (vs : Array Value) (w : World), (callFunc 140 vs).run Tryz.prog w = .ok (.enter 140 vs) w := fun vs w => by kernel_rfl
     have HCF := hide hcf
     clear enq hq1 hq2 hkl hgs hcf hLT hLW cS4
     go_wp2_with fail
     clear hck
     refine wp_region_noPanic ?_
     refine wp_region_held_drew (S := fun w' => w'.cell? ⟨b, 4, none⟩ = some (.map (some bs)) ∧ w'.ownsMap Tryz.prog 23 ptrElem bs n' D' ∧ w'.cell? ⟨gs, 0, none⟩ = some (.int .u64 I) ∧ w'.cell? ⟨gs, 1, none⟩ = some (.int .i64 Dl) ∧ w'.cell? ⟨gs, 2, none⟩ = some (.slice pq nq cq)) (by kernel_rfl) (by rw [← hvA]; exact uh SXA) (fun hS => ?_)
     rw [← hvA] at hS ⊢
     clear hvA hbA hbu hru hmem hI oD' mD' hC hO kb4 hH hSe
     refine tk 0 hS (h := ?_); simp only [Act.put, xa, xb, xc]
     refine tk 2 hS (h := ?_); simp only [Act.put, xa, xb, xc]
     refine tk 3 hS (h := ?_); simp only [Act.put, xa, xb, xc]
     refine tk 4 hS (h := ?_); simp only [Act.put, xa, xb, xc]
     refine tk 5 hS (h := ?_); simp only [Act.put, xa, xb, xc]
     refine tk 6 hS (h := ?_); simp only [Act.put, xa, xb, xc]
     refine wpAnyH_take (i := 7) (oi := _) (v := ?_) (by simp only [List.getElem?_toArray, List.getElem?_cons_succ, List.getElem?_cons_zero]; rfl) (by kernel_rfl) (by kernel_rfl) (by kernel_rfl) (fun _ _ _ h => h) (Or.inl ⟨by rfl, ?_⟩) hS ?_
     rotate_left
     ·(intro w' hSw; (try dsimp only at hSw); (have hlk := look_ses hSw.2.1 (uh HLK).1 (uh HLK).2.1 (uh HLK).2.2); go_simp; try with_reducible rfl)
     simp only [Act.put, xa, xb, xc]
     refine tk 8 hS (h := ?_); simp only [Act.put, xa, xb, xc]
     refine tk 9 hS (h := ?_); simp only [Act.put, xa, xb, xc]
     refine ry [1, 10] ?_
     refine cn (fun KK hK => ?_) ?_
     ·have cl := (uh CXA).1 4 _ rfl
      go_simp
      refine hK.out _ _ (by exact uh SXA) (fun hS => ?_)
      clear hK KK cl
      (try simp only [Act.put, xa, xb, xc])
      refine ry [10] ?_
      refine cn (fun KK hK => ?_) ?_
      ·refine step_call1 (by rfl) 140 _ _ (by rfl) (.agg #[.int .u64 I, .int .i64 Dl, .slice pq nq cq]) (by rfl) (fun _ => uh HCF _ _) (copied_any I Dl pq cq nq Qu ENQ _ ((uh RQ).below (uh BXA)) hnq HQ2) ?_
       rintro r v2 ⟨pe, ce, Ae, rfl, rdE, lvE, apE, hb2⟩
       refine ⟨_, rfl, ?_⟩
       have HE2 := hide (And.intro rdE (And.intro lvE (apE.mono (B' := vA.heap.size) (uh BXA).size)))
       obtain ⟨s1, s2, s3, s4, s5⟩ := uh SXA
       have SX2 := hide (And.intro (cell_below s1 hb2) (And.intro (s2.kept (grown_of_below hb2 none) (by simp)) (And.intro (cell_below s3 hb2) (And.intro (cell_below s4 hb2) (cell_below s5 hb2)))))
       have CX2 := hide ((uh CXA).below (by omega) hb2)
       have BX2 := hide (Below.step (uh BXA) hb2)
       have zx2 : vA.heap.size ≤ v2.heap.size := (uh BX2).size
       clear s1 s2 s3 s4 s5
       refine hK.out _ _ (by exact uh SX2) (fun hS => ?_)
       clear hK KK hb2 rdE lvE apE
       (try simp only [Act.put, xa, xb, xc])
       refine ry [11] ?_
       refine cn (fun KK hK => ?_) ?_
       ·go_simp
        obtain ⟨v3, hv3⟩ : ∃ V, V = v2.alloc (.cells #[.int .u64 I, .int .i64 Dl, .slice pe nq ce] 59) := ⟨_, rfl⟩
        have hb3 : Below v2.heap.size v2 v3 := by rw [hv3]; exact (Below.refl _ _).alloc (Nat.le_refl _) _
        have hcC : ∀ j u, ([.int .u64 I, .int .i64 Dl, .slice pe nq ce] : List Value)[j]? = some u → v3.cell? ⟨v2.heap.size, j, none⟩ = some u := fun j u hu => by
         rw [hv3]
         exact (CellsAre.alloc v2 #[.int .u64 I, .int .i64 Dl, .slice pe nq ce] 59).1 j u (by simpa using hu)
        rw [← hv3]
        obtain ⟨gE, hgE⟩ : ∃ G, G = v2.heap.size := ⟨_, rfl⟩
        rw [← hgE] at hcC ⊢
        obtain ⟨rdE, lvE, apE⟩ := uh HE2
        have kE : ∀ a ∈ Ae, v3.heap[a.b]? = v2.heap[a.b]? := fun a ha => hb3.block _ (apE.inn.lt ha)
        have EL3 : Hid (elSe v3 (I, Dl, Qu) [.int .u64 I, .int .i64 Dl, .slice pe nq ce] Ae ∧ Apt vA.heap.size v3 Ae) := ⟨⟨pe, ce, by rw [uh ENQ], by rw [uh ENQ]; exact rdE.keepLv lvE kE, by rw [uh ENQ]; exact LvE.keep lvE kE⟩, apE.keep kE⟩
        have HCC := hide hcC
        obtain ⟨s1, s2, s3, s4, s5⟩ := uh SX2
        have SX3 := hide (And.intro (cell_below s1 hb3) (And.intro (s2.kept (grown_of_below hb3 none) (by simp)) (And.intro (cell_below s3 hb3) (And.intro (cell_below s4 hb3) (cell_below s5 hb3)))))
        have CX3 := hide ((uh CX2).below (by omega) hb3)
        have BX3 := hide (Below.step (uh BX2) hb3)
        have zx3 : vA.heap.size ≤ v3.heap.size := (uh BX3).size
        clear s1 s2 s3 s4 s5
        refine hK.out _ _ (by exact uh SX3) (fun hS => ?_)
        clear hK KK hv3 hb3 hcC hgE rdE lvE apE kE
        (try simp only [Act.put, xa, xb, xc])
        have OC := (uh OA).below elSe.keep (uh BX3)
        obtain ⟨elC, apC⟩ := uh EL3
        obtain ⟨cs, g1, g2, g3, g4, g5, g6, g7⟩ := id OC
        have hlA := (uh OA).lt
        have hle : (ss.take k).length ≤ 1048576 := by rw [List.length_take]; omega
        have zA1 := (uh gA).size
        have zA : w1.heap.size ≤ v3.heap.size := by omega
        refine ry [12] ?_
        refine cn (fun KK hK => ?_) ?_
        ·refine step_append_fr (by rfl) _ _ 24 (by rfl) w1.heap.size 59 is _ 3 40 Tryz.underlying24 his sz0 sz1 sz2 rfl (by decide) Sv _ _ (by rfl) g4 gE 1 1 [.int .u64 I, .int .i64 Dl, .slice pe nq ce] (by rfl) rfl (uh HCC) (fun u hu => by simp at hu; rcases hu with rfl | rfl | rfl <;> rfl) (by unfold maxLen; omega) (by omega) zA ?_
         intro v' w9 hrow hg hfr
         have sn := OwnT.snoc g1 g2 g3 g5 g6 g7 elSe.keep elC rfl apC zA1 (fun a ha => (hlA.2 a ha).2) (fun b hb => (hlA.1 b hb).2) hrow hg hfr
         rw [← take_snoc (uh HY)] at sn
         obtain ⟨pN, cN, evN, -⟩ := id sn.read
         obtain ⟨lN, hlN⟩ : ∃ n, n = (ss.take (k + 1)).length := ⟨_, rfl⟩
         rw [← hlN] at evN
         subst evN
         clear hlN
         have hneS : ∀ z, z < w1.heap.size → some z ≠ Sv.ownBlock := fun z hz e => by
          have := (hlA.1 z e.symm).1
          omega
         have hg9 : w1.grownBy w9 (some sb) := grown_step (grown_step (uh gA) (grown_of_below (uh BX3) none) (fun b e => by cases e)) hg (fun b e => .inl (hlA.1 b e).1)
         have C9 := (uh CX3).grown (by omega) hg (hneS sb (by omega))
         obtain ⟨t1, t2, t3⟩ := uh HLT
         obtain ⟨s1, s2, s3, s4, s5⟩ := uh SX3
         have S9 := hide (And.intro (hg.cell s1 (hneS b t1)) (And.intro (s2.kept hg (hneS bs t2)) (And.intro (hg.cell s3 (hneS gs t3)) (And.intro (hg.cell s4 (hneS gs t3)) (hg.cell s5 (hneS gs t3))))))
         refine hK.out _ _ (by exact uh S9) (fun hS => ?_)
         have SN := hide sn
         have cc := C9.1 4 _ rfl
         have cf := C9.2
         have hlS := sn.lt
         clear hK KK sn hrow hfr g1 g2 g3 g4 g5 g6 g7 elC apC OC s1 s2 s3 s4 s5
         (try simp only [Act.put, xa, xb, xc])
         refine tk 13 hS (h := ?_); simp only [Act.put, xa, xb, xc]
         refine ry [14] ?_
         refine cn (fun KK hK => ?_) ?_
         ·go_simp
          obtain ⟨wT, hwT⟩ : ∃ Z, Z = w9.setCell ⟨sb, 4, none⟩ (.slice pN lN cN) := ⟨_, rfl⟩
          have CT := C9.near 4 (by simp) (.slice pN lN cN)
          have hkT : ∀ z, z ≠ sb → wT.heap[z]? = w9.heap[z]? := fun z hz => by rw [hwT]; exact RowKit.Below.heap_setCell _ _ _ _ hz
          have gT : Hid (w1.grownBy wT (some sb)) := by show World.grownBy _ _ _; rw [hwT]; exact grown_trans hg9 (grown_set _ _ _)
          have zT : w9.heap.size ≤ wT.heap.size := by rw [hwT]; simp
          have OT : Hid (OwnT elSe 59 3 w1.heap.size wT (.slice pN lN cN) (ss.take (k + 1)) (Ls ++ [Ae])) := (uh SN).keep (elSe.keep _ _) zT (fun z hz => hkT z (by have := (hlS.1 z hz).1; omega)) (fun y hy => hkT _ (by have := (hlS.2 y hy).1; omega))
          rw [← hwT] at CT ⊢
          have hcT := fun z (hz : z ≠ sb) o => cell_at_heap (hkT z hz) o
          obtain ⟨s1, s2, s3, s4, s5⟩ := uh S9
          have ST := And.intro ((hcT b t3b _).trans s1) (And.intro (ownsMap_same s2 (hkT bs t4b)) (And.intro ((hcT gs t5b _).trans s3) (And.intro ((hcT gs t5b _).trans s4) ((hcT gs t5b _).trans s5))))
          refine hK.out _ _ (by exact ST) (fun hS => ?_)
          have CT2 := hide CT
          clear hK KK hwT hkT hcT C9 cc cf CT hg hg9 zT ST s1 s2 s3 s4 s5
          (try simp only [Act.put, xa, xb, xc])
          refine wpAnyH_done (by kernel_rfl) ?_ _
          refine NoPanic.normal ?_
          clear hS hlS hlA
          go_wp2
          go_roundw
          case rel => exact ⟨k + 1, _, _, by omega, by go_num, ⟨uh CT2, uh OT⟩, gT⟩
          case measure => simp [intOf]; omega
         exact AllReadyH.nil
        exact AllReadyH.nil
       exact AllReadyH.nil
      exact AllReadyH.nil
     refine cn (fun KK hK => ?_) ?_
     ·refine step_call1 (by rfl) 140 _ _ (by rfl) (.agg #[.int .u64 I, .int .i64 Dl, .slice pq nq cq]) (by rfl) (fun _ => uh HCF _ _) (copied_any I Dl pq cq nq Qu ENQ _ ((uh RQ).below (uh BXA)) hnq HQ2) ?_
      rintro r v4 ⟨pe, ce, Ae, rfl, rdE, lvE, apE, hb4⟩
      refine ⟨_, rfl, ?_⟩
      have HE4 := hide (And.intro rdE (And.intro lvE (apE.mono (B' := vA.heap.size) (uh BXA).size)))
      obtain ⟨s1, s2, s3, s4, s5⟩ := uh SXA
      have SX4 := hide (And.intro (cell_below s1 hb4) (And.intro (s2.kept (grown_of_below hb4 none) (by simp)) (And.intro (cell_below s3 hb4) (And.intro (cell_below s4 hb4) (cell_below s5 hb4)))))
      have CX4 := hide ((uh CXA).below (by omega) hb4)
      have BX4 := hide (Below.step (uh BXA) hb4)
      have zx4 : vA.heap.size ≤ v4.heap.size := (uh BX4).size
      clear s1 s2 s3 s4 s5
      refine hK.out _ _ (by exact uh SX4) (fun hS => ?_)
      clear hK KK hb4 rdE lvE apE
      (try simp only [Act.put, xa, xb, xc])
      refine ry [1, 11] ?_
      refine cn (fun KK hK => ?_) ?_
      ·have cl := (uh CX4).1 4 _ rfl
       go_simp
       refine hK.out _ _ (by exact uh SX4) (fun hS => ?_)
       clear hK KK cl
       (try simp only [Act.put, xa, xb, xc])
       refine ry [11] ?_
       refine cn (fun KK hK => ?_) ?_
       ·go_simp
        obtain ⟨v6, hv6⟩ : ∃ V, V = v4.alloc (.cells #[.int .u64 I, .int .i64 Dl, .slice pe nq ce] 59) := ⟨_, rfl⟩
        have hb6 : Below v4.heap.size v4 v6 := by rw [hv6]; exact (Below.refl _ _).alloc (Nat.le_refl _) _
        have hcC : ∀ j u, ([.int .u64 I, .int .i64 Dl, .slice pe nq ce] : List Value)[j]? = some u → v6.cell? ⟨v4.heap.size, j, none⟩ = some u := fun j u hu => by
         rw [hv6]
         exact (CellsAre.alloc v4 #[.int .u64 I, .int .i64 Dl, .slice pe nq ce] 59).1 j u (by simpa using hu)
        rw [← hv6]
        obtain ⟨gE, hgE⟩ : ∃ G, G = v4.heap.size := ⟨_, rfl⟩
        rw [← hgE] at hcC ⊢
        obtain ⟨rdE, lvE, apE⟩ := uh HE4
        have kE : ∀ a ∈ Ae, v6.heap[a.b]? = v4.heap[a.b]? := fun a ha => hb6.block _ (apE.inn.lt ha)
        have EL6 : Hid (elSe v6 (I, Dl, Qu) [.int .u64 I, .int .i64 Dl, .slice pe nq ce] Ae ∧ Apt vA.heap.size v6 Ae) := ⟨⟨pe, ce, by rw [uh ENQ], by rw [uh ENQ]; exact rdE.keepLv lvE kE, by rw [uh ENQ]; exact LvE.keep lvE kE⟩, apE.keep kE⟩
        have HCC := hide hcC
        obtain ⟨s1, s2, s3, s4, s5⟩ := uh SX4
        have SX6 := hide (And.intro (cell_below s1 hb6) (And.intro (s2.kept (grown_of_below hb6 none) (by simp)) (And.intro (cell_below s3 hb6) (And.intro (cell_below s4 hb6) (cell_below s5 hb6)))))
        have CX6 := hide ((uh CX4).below (by omega) hb6)
        have BX6 := hide (Below.step (uh BX4) hb6)
        have zx6 : vA.heap.size ≤ v6.heap.size := (uh BX6).size
        clear s1 s2 s3 s4 s5
        refine hK.out _ _ (by exact uh SX6) (fun hS => ?_)
        clear hK KK hv6 hb6 hcC hgE rdE lvE apE kE
        (try simp only [Act.put, xa, xb, xc])
        have OC := (uh OA).below elSe.keep (uh BX6)
        obtain ⟨elC, apC⟩ := uh EL6
        obtain ⟨cs, g1, g2, g3, g4, g5, g6, g7⟩ := id OC
        have hlA := (uh OA).lt
        have hle : (ss.take k).length ≤ 1048576 := by rw [List.length_take]; omega
        have zA1 := (uh gA).size
        have zA : w1.heap.size ≤ v6.heap.size := by omega
        refine ry [12] ?_
        refine cn (fun KK hK => ?_) ?_
        ·refine step_append_fr (by rfl) _ _ 24 (by rfl) w1.heap.size 59 is _ 3 40 Tryz.underlying24 his sz0 sz1 sz2 rfl (by decide) Sv _ _ (by rfl) g4 gE 1 1 [.int .u64 I, .int .i64 Dl, .slice pe nq ce] (by rfl) rfl (uh HCC) (fun u hu => by simp at hu; rcases hu with rfl | rfl | rfl <;> rfl) (by unfold maxLen; omega) (by omega) zA ?_
         intro v' w9 hrow hg hfr
         have sn := OwnT.snoc g1 g2 g3 g5 g6 g7 elSe.keep elC rfl apC zA1 (fun a ha => (hlA.2 a ha).2) (fun b hb => (hlA.1 b hb).2) hrow hg hfr
         rw [← take_snoc (uh HY)] at sn
         obtain ⟨pN, cN, evN, -⟩ := id sn.read
         obtain ⟨lN, hlN⟩ : ∃ n, n = (ss.take (k + 1)).length := ⟨_, rfl⟩
         rw [← hlN] at evN
         subst evN
         clear hlN
         have hneS : ∀ z, z < w1.heap.size → some z ≠ Sv.ownBlock := fun z hz e => by
          have := (hlA.1 z e.symm).1
          omega
         have hg9 : w1.grownBy w9 (some sb) := grown_step (grown_step (uh gA) (grown_of_below (uh BX6) none) (fun b e => by cases e)) hg (fun b e => .inl (hlA.1 b e).1)
         have C9 := (uh CX6).grown (by omega) hg (hneS sb (by omega))
         obtain ⟨t1, t2, t3⟩ := uh HLT
         obtain ⟨s1, s2, s3, s4, s5⟩ := uh SX6
         have S9 := hide (And.intro (hg.cell s1 (hneS b t1)) (And.intro (s2.kept hg (hneS bs t2)) (And.intro (hg.cell s3 (hneS gs t3)) (And.intro (hg.cell s4 (hneS gs t3)) (hg.cell s5 (hneS gs t3))))))
         refine hK.out _ _ (by exact uh S9) (fun hS => ?_)
         have SN := hide sn
         have cc := C9.1 4 _ rfl
         have cf := C9.2
         have hlS := sn.lt
         clear hK KK sn hrow hfr g1 g2 g3 g4 g5 g6 g7 elC apC OC s1 s2 s3 s4 s5
         (try simp only [Act.put, xa, xb, xc])
         refine tk 13 hS (h := ?_); simp only [Act.put, xa, xb, xc]
         refine ry [14] ?_
         refine cn (fun KK hK => ?_) ?_
         ·go_simp
          obtain ⟨wT, hwT⟩ : ∃ Z, Z = w9.setCell ⟨sb, 4, none⟩ (.slice pN lN cN) := ⟨_, rfl⟩
          have CT := C9.near 4 (by simp) (.slice pN lN cN)
          have hkT : ∀ z, z ≠ sb → wT.heap[z]? = w9.heap[z]? := fun z hz => by rw [hwT]; exact RowKit.Below.heap_setCell _ _ _ _ hz
          have gT : Hid (w1.grownBy wT (some sb)) := by show World.grownBy _ _ _; rw [hwT]; exact grown_trans hg9 (grown_set _ _ _)
          have zT : w9.heap.size ≤ wT.heap.size := by rw [hwT]; simp
          have OT : Hid (OwnT elSe 59 3 w1.heap.size wT (.slice pN lN cN) (ss.take (k + 1)) (Ls ++ [Ae])) := (uh SN).keep (elSe.keep _ _) zT (fun z hz => hkT z (by have := (hlS.1 z hz).1; omega)) (fun y hy => hkT _ (by have := (hlS.2 y hy).1; omega))
          rw [← hwT] at CT ⊢
          have hcT := fun z (hz : z ≠ sb) o => cell_at_heap (hkT z hz) o
          obtain ⟨s1, s2, s3, s4, s5⟩ := uh S9
          have ST := And.intro ((hcT b t3b _).trans s1) (And.intro (ownsMap_same s2 (hkT bs t4b)) (And.intro ((hcT gs t5b _).trans s3) (And.intro ((hcT gs t5b _).trans s4) ((hcT gs t5b _).trans s5))))
          refine hK.out _ _ (by exact ST) (fun hS => ?_)
          have CT2 := hide CT
          clear hK KK hwT hkT hcT C9 cc cf CT hg hg9 zT ST s1 s2 s3 s4 s5
          (try simp only [Act.put, xa, xb, xc])
          refine wpAnyH_done (by kernel_rfl) ?_ _
          refine NoPanic.normal ?_
          clear hS hlS hlA
          go_wp2
          go_roundw
          case rel => exact ⟨k + 1, _, _, by omega, by go_num, ⟨uh CT2, uh OT⟩, gT⟩
          case measure => simp [intOf]; omega
         exact AllReadyH.nil
        exact AllReadyH.nil
       exact AllReadyH.nil
      refine cn (fun KK hK => ?_) ?_
      ·go_simp
       obtain ⟨v7, hv7⟩ : ∃ V, V = v4.alloc (.cells #[.int .u64 I, .int .i64 Dl, .slice pe nq ce] 59) := ⟨_, rfl⟩
       have hb7 : Below v4.heap.size v4 v7 := by rw [hv7]; exact (Below.refl _ _).alloc (Nat.le_refl _) _
       have hcC : ∀ j u, ([.int .u64 I, .int .i64 Dl, .slice pe nq ce] : List Value)[j]? = some u → v7.cell? ⟨v4.heap.size, j, none⟩ = some u := fun j u hu => by
        rw [hv7]
        exact (CellsAre.alloc v4 #[.int .u64 I, .int .i64 Dl, .slice pe nq ce] 59).1 j u (by simpa using hu)
       rw [← hv7]
       obtain ⟨gE, hgE⟩ : ∃ G, G = v4.heap.size := ⟨_, rfl⟩
       rw [← hgE] at hcC ⊢
       obtain ⟨rdE, lvE, apE⟩ := uh HE4
       have kE : ∀ a ∈ Ae, v7.heap[a.b]? = v4.heap[a.b]? := fun a ha => hb7.block _ (apE.inn.lt ha)
       have EL7 : Hid (elSe v7 (I, Dl, Qu) [.int .u64 I, .int .i64 Dl, .slice pe nq ce] Ae ∧ Apt vA.heap.size v7 Ae) := ⟨⟨pe, ce, by rw [uh ENQ], by rw [uh ENQ]; exact rdE.keepLv lvE kE, by rw [uh ENQ]; exact LvE.keep lvE kE⟩, apE.keep kE⟩
       have HCC := hide hcC
       obtain ⟨s1, s2, s3, s4, s5⟩ := uh SX4
       have SX7 := hide (And.intro (cell_below s1 hb7) (And.intro (s2.kept (grown_of_below hb7 none) (by simp)) (And.intro (cell_below s3 hb7) (And.intro (cell_below s4 hb7) (cell_below s5 hb7)))))
       have CX7 := hide ((uh CX4).below (by omega) hb7)
       have BX7 := hide (Below.step (uh BX4) hb7)
       have zx7 : vA.heap.size ≤ v7.heap.size := (uh BX7).size
       clear s1 s2 s3 s4 s5
       refine hK.out _ _ (by exact uh SX7) (fun hS => ?_)
       clear hK KK hv7 hb7 hcC hgE rdE lvE apE kE
       (try simp only [Act.put, xa, xb, xc])
       refine ry [1] ?_
       refine cn (fun KK hK => ?_) ?_
       ·have cl := (uh CX7).1 4 _ rfl
        go_simp
        refine hK.out _ _ (by exact uh SX7) (fun hS => ?_)
        clear hK KK cl
        (try simp only [Act.put, xa, xb, xc])
        have OC := (uh OA).below elSe.keep (uh BX7)
        obtain ⟨elC, apC⟩ := uh EL7
        obtain ⟨cs, g1, g2, g3, g4, g5, g6, g7⟩ := id OC
        have hlA := (uh OA).lt
        have hle : (ss.take k).length ≤ 1048576 := by rw [List.length_take]; omega
        have zA1 := (uh gA).size
        have zA : w1.heap.size ≤ v7.heap.size := by omega
        refine ry [12] ?_
        refine cn (fun KK hK => ?_) ?_
        ·refine step_append_fr (by rfl) _ _ 24 (by rfl) w1.heap.size 59 is _ 3 40 Tryz.underlying24 his sz0 sz1 sz2 rfl (by decide) Sv _ _ (by rfl) g4 gE 1 1 [.int .u64 I, .int .i64 Dl, .slice pe nq ce] (by rfl) rfl (uh HCC) (fun u hu => by simp at hu; rcases hu with rfl | rfl | rfl <;> rfl) (by unfold maxLen; omega) (by omega) zA ?_
         intro v' w9 hrow hg hfr
         have sn := OwnT.snoc g1 g2 g3 g5 g6 g7 elSe.keep elC rfl apC zA1 (fun a ha => (hlA.2 a ha).2) (fun b hb => (hlA.1 b hb).2) hrow hg hfr
         rw [← take_snoc (uh HY)] at sn
         obtain ⟨pN, cN, evN, -⟩ := id sn.read
         obtain ⟨lN, hlN⟩ : ∃ n, n = (ss.take (k + 1)).length := ⟨_, rfl⟩
         rw [← hlN] at evN
         subst evN
         clear hlN
         have hneS : ∀ z, z < w1.heap.size → some z ≠ Sv.ownBlock := fun z hz e => by
          have := (hlA.1 z e.symm).1
          omega
         have hg9 : w1.grownBy w9 (some sb) := grown_step (grown_step (uh gA) (grown_of_below (uh BX7) none) (fun b e => by cases e)) hg (fun b e => .inl (hlA.1 b e).1)
         have C9 := (uh CX7).grown (by omega) hg (hneS sb (by omega))
         obtain ⟨t1, t2, t3⟩ := uh HLT
         obtain ⟨s1, s2, s3, s4, s5⟩ := uh SX7
         have S9 := hide (And.intro (hg.cell s1 (hneS b t1)) (And.intro (s2.kept hg (hneS bs t2)) (And.intro (hg.cell s3 (hneS gs t3)) (And.intro (hg.cell s4 (hneS gs t3)) (hg.cell s5 (hneS gs t3))))))
         refine hK.out _ _ (by exact uh S9) (fun hS => ?_)
         have SN := hide sn
         have cc := C9.1 4 _ rfl
         have cf := C9.2
         have hlS := sn.lt
         clear hK KK sn hrow hfr g1 g2 g3 g4 g5 g6 g7 elC apC OC s1 s2 s3 s4 s5
         (try simp only [Act.put, xa, xb, xc])
         refine tk 13 hS (h := ?_); simp only [Act.put, xa, xb, xc]
         refine ry [14] ?_
         refine cn (fun KK hK => ?_) ?_
         ·go_simp
          obtain ⟨wT, hwT⟩ : ∃ Z, Z = w9.setCell ⟨sb, 4, none⟩ (.slice pN lN cN) := ⟨_, rfl⟩
          have CT := C9.near 4 (by simp) (.slice pN lN cN)
          have hkT : ∀ z, z ≠ sb → wT.heap[z]? = w9.heap[z]? := fun z hz => by rw [hwT]; exact RowKit.Below.heap_setCell _ _ _ _ hz
          have gT : Hid (w1.grownBy wT (some sb)) := by show World.grownBy _ _ _; rw [hwT]; exact grown_trans hg9 (grown_set _ _ _)
          have zT : w9.heap.size ≤ wT.heap.size := by rw [hwT]; simp
          have OT : Hid (OwnT elSe 59 3 w1.heap.size wT (.slice pN lN cN) (ss.take (k + 1)) (Ls ++ [Ae])) := (uh SN).keep (elSe.keep _ _) zT (fun z hz => hkT z (by have := (hlS.1 z hz).1; omega)) (fun y hy => hkT _ (by have := (hlS.2 y hy).1; omega))
          rw [← hwT] at CT ⊢
          have hcT := fun z (hz : z ≠ sb) o => cell_at_heap (hkT z hz) o
          obtain ⟨s1, s2, s3, s4, s5⟩ := uh S9
          have ST := And.intro ((hcT b t3b _).trans s1) (And.intro (ownsMap_same s2 (hkT bs t4b)) (And.intro ((hcT gs t5b _).trans s3) (And.intro ((hcT gs t5b _).trans s4) ((hcT gs t5b _).trans s5))))
          refine hK.out _ _ (by exact ST) (fun hS => ?_)
          have CT2 := hide CT
          clear hK KK hwT hkT hcT C9 cc cf CT hg hg9 zT ST s1 s2 s3 s4 s5
          (try simp only [Act.put, xa, xb, xc])
          refine wpAnyH_done (by kernel_rfl) ?_ _
          refine NoPanic.normal ?_
          clear hS hlS hlA
          go_wp2
          go_roundw
          case rel => exact ⟨k + 1, _, _, by omega, by go_num, ⟨uh CT2, uh OT⟩, gT⟩
          case measure => simp [intOf]; omega
         exact AllReadyH.nil
        exact AllReadyH.nil
       exact AllReadyH.nil
      exact AllReadyH.nil
     exact AllReadyH.nil
    ·have hlt' : ¬ (k : Int) < (nk : Int) := by omega
     have ekn : k = nk := by omega
     subst ekn
     obtain ⟨hC, hO⟩ := uh hin
     rw [List.take_of_length_le (by rw [uh ENK]; exact Nat.le_refl _)] at hO
     obtain ⟨w2, ew2⟩ : ∃ W, W = wr := ⟨_, rfl⟩
     subst ew2
     have R2 := hide ((uh R1).grown (by omega) (uh hgr) (by simp; omega))
     obtain ⟨pS, cS, evS, -⟩ := id hO.read
     obtain ⟨lS, hlS⟩ : ∃ n, n = ss.length := ⟨_, rfl⟩
     rw [← hlS] at evS
     subst evS
     have HLS := hide hlS
     obtain ⟨rdS, A1, lvS, apS⟩ := hO.se
     have HA1 := hide fun a ha => apS.inn.lt (a := a) ha
     have OS := hide (And.intro rdS (And.intro lvS apS))
     clear rdS lvS apS
     have CS := hide hC
     have z12 := (uh hgr).size
     obtain ⟨hHd, -, hNod⟩ := uh HS _ BB
     obtain ⟨DN, nN, oN, hnN, mN⟩ := id hNod.own
     have k5 : w2.cell? ⟨b, 5, none⟩ = some (.map (some bn)) := cells_at hHd 5
     have MN := hide mN
     clear hO hC hlS hHd mN hin hk hlt hlt' R1 C1 HKV hgr
     go_wp2_with fail
     refine (T.sortedKeys_s bn nN DN _ oN (Nat.le_trans oN.size_le hnN)).mono ?_
     rintro r w3 ⟨kv, ks, rfl, asc, rdk, hb3⟩
     obtain rfl := nod_sorted hNod (uh hn) (uh MN) asc
     obtain ⟨pk2, ck2, rfl, hkeys⟩ := rdK_str rdk
     obtain ⟨nk2, enk2⟩ : ∃ n, n = ns.length := ⟨_, rfl⟩
     rw [← enk2]
     have ENK2 := hide enk2
     have hnkl2 : nk2 ≤ 1048576 := by omega
     have HKN := hide hkeys
     have b3 := Below.step BB hb3
     have z3 := hb3.size
     have C3 := hide ((uh CS).below (by omega) hb3)
     have R3 := hide ((uh R2).below (by omega) hb3)
     have kS3 : ∀ a ∈ A1, w3.heap[a.b]? = w2.heap[a.b]? := fun a ha => hb3.block _ (uh HA1 a ha)
     have O3 := hide (And.intro ((uh OS).1.keepLv (uh OS).2.1 kS3) (And.intro (LvS.keep (uh OS).2.1 kS3) ((uh OS).2.2.keep kS3)))
     clear hkeys rdk asc hb3 k5 hNod oN enk2 CS R2 OS BB kS3
     go_wp2_with fail
     go_loopw [56] (fun iv wr => ∃ (k : Nat) (Sv : Value) (Ls : List (List Lf)), k ≤ nk2 ∧ iv = .int .i64 k ∧ Hid (CellsAre wr sb [.int .u64 e, .int .u64 g, .int .u64 x, .int .i64 t, .slice pS lS cS, Sv] ∧ OwnT elNo 66 8 w3.heap.size wr Sv (ns.take k) Ls) ∧ Hid (w3.grownBy wr (some sb))) (fun iv _ => nk2 - (intOf iv).toNat)
     case atStart => exact ⟨0, _, [], Nat.zero_le _, rfl, ⟨uh C3, OwnT.nil _ _ _ _ _⟩, grown_refl _ _⟩
     case round =>
      obtain ⟨k, Sv, Ls, hk, rfl, hin, hgr⟩ := hrel
      have BB := below_grow b3 (uh hgr) (by omega)
      by_cases hlt : k < nk2
      ·have hlt' : (k : Int) < (nk2 : Int) := by omega
       have hkl : k < ns.length := by rw [← uh ENK2]; exact hlt
       obtain ⟨nd, hy⟩ : ∃ y, ns[k]? = some y := ⟨_, List.getElem?_eq_getElem hkl⟩
       obtain ⟨hH, -, hNo⟩ := uh HS _ BB
       obtain ⟨gs, hgs, hmem⟩ := key_at_nod hNo hy
       obtain ⟨Vb, hb, ub, hkn⟩ := hNo.blk k _ gs hy hgs
       obtain ⟨hl1, hl2, hl3, hl4, hl5, hl6, hl7⟩ := uh hln _ (List.mem_of_getElem? hy)
       obtain ⟨gk, rfl, hck⟩ : ∃ gk, pk2 = some ⟨gk, 0, none⟩ ∧ wr.cell? ⟨gk, k, none⟩ = some (.string (bstr nd.path)) := by
        rcases uh HKN with h0 | ⟨gk, rfl, h1, h2, h3⟩
        ·rw [h0] at hkl; simp at hkl
        ·exact ⟨gk, rfl, (cell_at_heap ((uh hgr).block gk h2 (by simp; omega)) _).trans (by have := h3 k nd hy; rwa [Nat.zero_add] at this)⟩
       have HY := hide hy
       obtain ⟨hC, hO⟩ := uh hin
       have kb4 : wr.cell? ⟨b, 5, none⟩ = some (.map (some bn)) := cells_at hH 5
       obtain ⟨D', n', oD', hn', mD'⟩ := hNo.own
       have HLK := hide (And.intro mD' (And.intro hmem hl2))
       have hLW : b < w.heap.size ∧ bn < w.heap.size ∧ gs < w.heap.size := uh HLN k _ gs hy hgs
       have hLT : b < w3.heap.size ∧ bn < w3.heap.size ∧ gs < w3.heap.size := by have := b3.size; omega
       have HLT := hide hLT
       have t3b : b ≠ sb := by omega
       have t4b : bn ≠ sb := by omega
       have t5b : gs ≠ sb := by omega
       obtain ⟨vA, hvA⟩ : ∃ V, V = wr.drew := ⟨_, rfl⟩
       have hbA : Below wr.heap.size wr vA := by rw [hvA]; exact (Below.refl _ _).drew
       have SXA := hide (And.intro (cell_below kb4 hbA) (oD'.kept (grown_of_below hbA none) (by simp)))
       have RQ := hide (hkn.below hbA)
       have OA := hide (hO.below elNo.keep hbA)
       have CXA := hide (hC.below (by have := (uh hgr).size; omega) hbA)
       have gA : Hid (w3.grownBy vA (some sb)) := grown_step (uh hgr) (grown_of_below hbA none) (fun b e => by cases e)
       have BXA := hide (Below.refl vA.heap.size vA)
       have zxA : sb < vA.heap.size := by have := (uh gA).size; omega
       have hcf : ∀ (vs : Array Value) (w : World), (callFunc 142 vs).run Tryz.prog w = .ok (.enter 142 vs) w := fun vs w => by kernel_rfl
       have HCF := hide hcf
       clear hkl hgs hcf hLT hLW
       go_wp2_with fail
       clear hck
       refine wp_region_noPanic ?_
       refine wp_region_held_drew (S := fun w' => w'.cell? ⟨b, 5, none⟩ = some (.map (some bn)) ∧ w'.ownsMap Tryz.prog 9 ptrElem bn n' D') (by kernel_rfl) (by rw [← hvA]; exact uh SXA) (fun hS => ?_)
       rw [← hvA] at hS ⊢
       clear hvA hbA hkn hmem oD' mD' hC hO kb4 hH hNo
       refine tk 0 hS (h := ?_); simp only [Act.put, xa, xb, xc]
       refine tk 2 hS (h := ?_); simp only [Act.put, xa, xb, xc]
       refine tk 3 hS (h := ?_); simp only [Act.put, xa, xb, xc]
       refine tk 4 hS (h := ?_); simp only [Act.put, xa, xb, xc]
       refine tk 5 hS (h := ?_); simp only [Act.put, xa, xb, xc]
       refine tk 6 hS (h := ?_); simp only [Act.put, xa, xb, xc]
       refine wpAnyH_take (i := 7) (oi := _) (v := ?_) (by simp only [List.getElem?_toArray, List.getElem?_cons_succ, List.getElem?_cons_zero]; rfl) (by kernel_rfl) (by kernel_rfl) (by kernel_rfl) (fun _ _ _ h => h) (Or.inl ⟨by rfl, ?_⟩) hS ?_
       rotate_left
       ·(intro w' hSw; (try dsimp only at hSw); (have hlk := look_nod hSw.2 (uh HLK).1 (uh HLK).2.1 (uh HLK).2.2); go_simp; try with_reducible rfl)
       simp only [Act.put, xa, xb, xc]
       refine tk 8 hS (h := ?_); simp only [Act.put, xa, xb, xc]
       refine ry [1, 9] ?_
       refine cn (fun KK hK => ?_) ?_
       ·have cl := (uh CXA).1 5 _ rfl
        go_simp
        refine hK.out _ _ (by exact uh SXA) (fun hS => ?_)
        clear hK KK cl
        (try simp only [Act.put, xa, xb, xc])
        refine ry [9] ?_
        refine cn (fun KK hK => ?_) ?_
        ·refine step_call2 (by rfl) 142 _ _ _ (by rfl) (.pointer (some ⟨gs, 0, none⟩)) (.string (bstr nd.path)) (by rfl) (by rfl) (fun _ => uh HCF _ _) (node_any gs hb ub Vb nd _ ((uh RQ).below (uh BXA)) hl6 hl7 hl2 hl3 hl4 hl5 hl1) ?_
         rintro r vn2 ⟨cn, Ae, rfl, eln, apE, hbn2⟩
         obtain ⟨q0, q1, q2, q3, q4, q5, q6, q7, ecn, one⟩ := eln.cells
         subst ecn
         refine ⟨_, rfl, ?_⟩
         have HEn2 := hide (And.intro eln (And.intro one (apE.mono (B' := vA.heap.size) (uh BXA).size)))
         obtain ⟨s1, s2⟩ := uh SXA
         have SXn2 := hide (And.intro (cell_below s1 hbn2) (s2.kept (grown_of_below hbn2 none) (by simp)))
         have CXn2 := hide ((uh CXA).below (by omega) hbn2)
         have BXn2 := hide (Below.step (uh BXA) hbn2)
         have zxn2 : vA.heap.size ≤ vn2.heap.size := (uh BXn2).size
         clear s1 s2
         refine hK.out _ _ (by exact uh SXn2) (fun hS => ?_)
         clear hK KK hbn2 eln apE one
         (try simp only [Act.put, xa, xb, xc])
         refine ry [10] ?_
         refine cn (fun KK hK => ?_) ?_
         ·go_simp
          obtain ⟨vn3, hvn3⟩ : ∃ V, V = vn2.alloc (.cells #[q0, q1, q2, q3, q4, q5, q6, q7] 66) := ⟨_, rfl⟩
          have hbn3 : Below vn2.heap.size vn2 vn3 := by rw [hvn3]; exact (Below.refl _ _).alloc (Nat.le_refl _) _
          have hcC : ∀ j u, ([q0, q1, q2, q3, q4, q5, q6, q7] : List Value)[j]? = some u → vn3.cell? ⟨vn2.heap.size, j, none⟩ = some u := fun j u hu => by
           rw [hvn3]
           exact (CellsAre.alloc vn2 #[q0, q1, q2, q3, q4, q5, q6, q7] 66).1 j u (by simpa using hu)
          rw [← hvn3]
          obtain ⟨gE, hgE⟩ : ∃ G, G = vn2.heap.size := ⟨_, rfl⟩
          rw [← hgE] at hcC ⊢
          obtain ⟨eln, one, apE⟩ := uh HEn2
          have kE : ∀ a ∈ Ae, vn3.heap[a.b]? = vn2.heap[a.b]? := fun a ha => hbn3.block _ (apE.inn.lt ha)
          have ELn3 : Hid (elNo vn3 nd [q0, q1, q2, q3, q4, q5, q6, q7] Ae ∧ Apt vA.heap.size vn3 Ae) := ⟨elNo.keep _ _ _ _ _ eln kE, apE.keep kE⟩
          have ONE := hide one
          have HCC := hide hcC
          obtain ⟨s1, s2⟩ := uh SXn2
          have SXn3 := hide (And.intro (cell_below s1 hbn3) (s2.kept (grown_of_below hbn3 none) (by simp)))
          have CXn3 := hide ((uh CXn2).below (by omega) hbn3)
          have BXn3 := hide (Below.step (uh BXn2) hbn3)
          have zxn3 : vA.heap.size ≤ vn3.heap.size := (uh BXn3).size
          clear s1 s2
          refine hK.out _ _ (by exact uh SXn3) (fun hS => ?_)
          clear hK KK hvn3 hbn3 hcC hgE eln apE kE one
          (try simp only [Act.put, xa, xb, xc])
          have OC := (uh OA).below elNo.keep (uh BXn3)
          obtain ⟨elC, apC⟩ := uh ELn3
          obtain ⟨cs, g1, g2, g3, g4, g5, g6, g7⟩ := id OC
          have hlA := (uh OA).lt
          have hle : (ns.take k).length ≤ 1048576 := by rw [List.length_take]; omega
          have zA1 := (uh gA).size
          have zA : w3.heap.size ≤ vn3.heap.size := by omega
          refine ry [11] ?_
          refine cn (fun KK hK => ?_) ?_
          ·refine step_append_fr (by rfl) _ _ 25 (by rfl) w3.heap.size 66 io _ 8 128 Tryz.underlying25 hio oz0 oz1 oz2 rfl (by decide) Sv _ _ (by rfl) g4 gE 1 1 [q0, q1, q2, q3, q4, q5, q6, q7] (by rfl) rfl (uh HCC) (uh ONE) (by unfold maxLen; omega) (by omega) zA ?_
           intro v' w9 hrow hg hfr
           have sn := OwnT.snoc g1 g2 g3 g5 g6 g7 elNo.keep elC rfl apC zA1 (fun a ha => (hlA.2 a ha).2) (fun b hb => (hlA.1 b hb).2) hrow hg hfr
           rw [← take_snoc (uh HY)] at sn
           obtain ⟨pN, cN, evN, -⟩ := id sn.read
           obtain ⟨lN, hlN⟩ : ∃ n, n = (ns.take (k + 1)).length := ⟨_, rfl⟩
           rw [← hlN] at evN
           subst evN
           clear hlN
           have hneS : ∀ z, z < w3.heap.size → some z ≠ Sv.ownBlock := fun z hz e => by
            have := (hlA.1 z e.symm).1
            omega
           have hg9 : w3.grownBy w9 (some sb) := grown_step (grown_step (uh gA) (grown_of_below (uh BXn3) none) (fun b e => by cases e)) hg (fun b e => .inl (hlA.1 b e).1)
           have C9 := (uh CXn3).grown (by omega) hg (hneS sb (by omega))
           obtain ⟨t1, t2, t3⟩ := uh HLT
           obtain ⟨s1, s2⟩ := uh SXn3
           have S9 := hide (And.intro (hg.cell s1 (hneS b t1)) (s2.kept hg (hneS bn t2)))
           refine hK.out _ _ (by exact uh S9) (fun hS => ?_)
           have SN := hide sn
           have cc := C9.1 5 _ rfl
           have cf := C9.2
           have hlS := sn.lt
           clear hK KK sn hrow hfr g1 g2 g3 g4 g5 g6 g7 elC apC OC s1 s2
           (try simp only [Act.put, xa, xb, xc])
           refine tk 12 hS (h := ?_); simp only [Act.put, xa, xb, xc]
           refine ry [13] ?_
           refine cn (fun KK hK => ?_) ?_
           ·go_simp
            obtain ⟨wT, hwT⟩ : ∃ Z, Z = w9.setCell ⟨sb, 5, none⟩ (.slice pN lN cN) := ⟨_, rfl⟩
            have CT := C9.near 5 (by simp) (.slice pN lN cN)
            have hkT : ∀ z, z ≠ sb → wT.heap[z]? = w9.heap[z]? := fun z hz => by rw [hwT]; exact RowKit.Below.heap_setCell _ _ _ _ hz
            have gT : Hid (w3.grownBy wT (some sb)) := by show World.grownBy _ _ _; rw [hwT]; exact grown_trans hg9 (grown_set _ _ _)
            have zT : w9.heap.size ≤ wT.heap.size := by rw [hwT]; simp
            have OT : Hid (OwnT elNo 66 8 w3.heap.size wT (.slice pN lN cN) (ns.take (k + 1)) (Ls ++ [Ae])) := (uh SN).keep (elNo.keep _ _) zT (fun z hz => hkT z (by have := (hlS.1 z hz).1; omega)) (fun y hy => hkT _ (by have := (hlS.2 y hy).1; omega))
            rw [← hwT] at CT ⊢
            have hcT := fun z (hz : z ≠ sb) o => cell_at_heap (hkT z hz) o
            obtain ⟨s1, s2⟩ := uh S9
            have ST := And.intro ((hcT b t3b _).trans s1) (ownsMap_same s2 (hkT bn t4b))
            refine hK.out _ _ (by exact ST) (fun hS => ?_)
            have CT2 := hide CT
            clear hK KK hwT hkT hcT C9 cc cf CT hg hg9 zT ST s1 s2
            (try simp only [Act.put, xa, xb, xc])
            refine wpAnyH_done (by kernel_rfl) ?_ _
            refine NoPanic.normal ?_
            clear hS hlS hlA
            go_wp2
            go_roundw
            case rel => exact ⟨k + 1, _, _, by omega, by go_num, ⟨uh CT2, uh OT⟩, gT⟩
            case measure => simp [intOf]; omega
           exact AllReadyH.nil
          exact AllReadyH.nil
         exact AllReadyH.nil
        exact AllReadyH.nil
       refine cn (fun KK hK => ?_) ?_
       ·refine step_call2 (by rfl) 142 _ _ _ (by rfl) (.pointer (some ⟨gs, 0, none⟩)) (.string (bstr nd.path)) (by rfl) (by rfl) (fun _ => uh HCF _ _) (node_any gs hb ub Vb nd _ ((uh RQ).below (uh BXA)) hl6 hl7 hl2 hl3 hl4 hl5 hl1) ?_
        rintro r vn4 ⟨cn, Ae, rfl, eln, apE, hbn4⟩
        obtain ⟨q0, q1, q2, q3, q4, q5, q6, q7, ecn, one⟩ := eln.cells
        subst ecn
        refine ⟨_, rfl, ?_⟩
        have HEn4 := hide (And.intro eln (And.intro one (apE.mono (B' := vA.heap.size) (uh BXA).size)))
        obtain ⟨s1, s2⟩ := uh SXA
        have SXn4 := hide (And.intro (cell_below s1 hbn4) (s2.kept (grown_of_below hbn4 none) (by simp)))
        have CXn4 := hide ((uh CXA).below (by omega) hbn4)
        have BXn4 := hide (Below.step (uh BXA) hbn4)
        have zxn4 : vA.heap.size ≤ vn4.heap.size := (uh BXn4).size
        clear s1 s2
        refine hK.out _ _ (by exact uh SXn4) (fun hS => ?_)
        clear hK KK hbn4 eln apE one
        (try simp only [Act.put, xa, xb, xc])
        refine ry [1, 10] ?_
        refine cn (fun KK hK => ?_) ?_
        ·have cl := (uh CXn4).1 5 _ rfl
         go_simp
         refine hK.out _ _ (by exact uh SXn4) (fun hS => ?_)
         clear hK KK cl
         (try simp only [Act.put, xa, xb, xc])
         refine ry [10] ?_
         refine cn (fun KK hK => ?_) ?_
         ·go_simp
          obtain ⟨vn6, hvn6⟩ : ∃ V, V = vn4.alloc (.cells #[q0, q1, q2, q3, q4, q5, q6, q7] 66) := ⟨_, rfl⟩
          have hbn6 : Below vn4.heap.size vn4 vn6 := by rw [hvn6]; exact (Below.refl _ _).alloc (Nat.le_refl _) _
          have hcC : ∀ j u, ([q0, q1, q2, q3, q4, q5, q6, q7] : List Value)[j]? = some u → vn6.cell? ⟨vn4.heap.size, j, none⟩ = some u := fun j u hu => by
           rw [hvn6]
           exact (CellsAre.alloc vn4 #[q0, q1, q2, q3, q4, q5, q6, q7] 66).1 j u (by simpa using hu)
          rw [← hvn6]
          obtain ⟨gE, hgE⟩ : ∃ G, G = vn4.heap.size := ⟨_, rfl⟩
          rw [← hgE] at hcC ⊢
          obtain ⟨eln, one, apE⟩ := uh HEn4
          have kE : ∀ a ∈ Ae, vn6.heap[a.b]? = vn4.heap[a.b]? := fun a ha => hbn6.block _ (apE.inn.lt ha)
          have ELn6 : Hid (elNo vn6 nd [q0, q1, q2, q3, q4, q5, q6, q7] Ae ∧ Apt vA.heap.size vn6 Ae) := ⟨elNo.keep _ _ _ _ _ eln kE, apE.keep kE⟩
          have ONE := hide one
          have HCC := hide hcC
          obtain ⟨s1, s2⟩ := uh SXn4
          have SXn6 := hide (And.intro (cell_below s1 hbn6) (s2.kept (grown_of_below hbn6 none) (by simp)))
          have CXn6 := hide ((uh CXn4).below (by omega) hbn6)
          have BXn6 := hide (Below.step (uh BXn4) hbn6)
          have zxn6 : vA.heap.size ≤ vn6.heap.size := (uh BXn6).size
          clear s1 s2
          refine hK.out _ _ (by exact uh SXn6) (fun hS => ?_)
          clear hK KK hvn6 hbn6 hcC hgE eln apE kE one
          (try simp only [Act.put, xa, xb, xc])
          have OC := (uh OA).below elNo.keep (uh BXn6)
          obtain ⟨elC, apC⟩ := uh ELn6
          obtain ⟨cs, g1, g2, g3, g4, g5, g6, g7⟩ := id OC
          have hlA := (uh OA).lt
          have hle : (ns.take k).length ≤ 1048576 := by rw [List.length_take]; omega
          have zA1 := (uh gA).size
          have zA : w3.heap.size ≤ vn6.heap.size := by omega
          refine ry [11] ?_
          refine cn (fun KK hK => ?_) ?_
          ·refine step_append_fr (by rfl) _ _ 25 (by rfl) w3.heap.size 66 io _ 8 128 Tryz.underlying25 hio oz0 oz1 oz2 rfl (by decide) Sv _ _ (by rfl) g4 gE 1 1 [q0, q1, q2, q3, q4, q5, q6, q7] (by rfl) rfl (uh HCC) (uh ONE) (by unfold maxLen; omega) (by omega) zA ?_
           intro v' w9 hrow hg hfr
           have sn := OwnT.snoc g1 g2 g3 g5 g6 g7 elNo.keep elC rfl apC zA1 (fun a ha => (hlA.2 a ha).2) (fun b hb => (hlA.1 b hb).2) hrow hg hfr
           rw [← take_snoc (uh HY)] at sn
           obtain ⟨pN, cN, evN, -⟩ := id sn.read
           obtain ⟨lN, hlN⟩ : ∃ n, n = (ns.take (k + 1)).length := ⟨_, rfl⟩
           rw [← hlN] at evN
           subst evN
           clear hlN
           have hneS : ∀ z, z < w3.heap.size → some z ≠ Sv.ownBlock := fun z hz e => by
            have := (hlA.1 z e.symm).1
            omega
           have hg9 : w3.grownBy w9 (some sb) := grown_step (grown_step (uh gA) (grown_of_below (uh BXn6) none) (fun b e => by cases e)) hg (fun b e => .inl (hlA.1 b e).1)
           have C9 := (uh CXn6).grown (by omega) hg (hneS sb (by omega))
           obtain ⟨t1, t2, t3⟩ := uh HLT
           obtain ⟨s1, s2⟩ := uh SXn6
           have S9 := hide (And.intro (hg.cell s1 (hneS b t1)) (s2.kept hg (hneS bn t2)))
           refine hK.out _ _ (by exact uh S9) (fun hS => ?_)
           have SN := hide sn
           have cc := C9.1 5 _ rfl
           have cf := C9.2
           have hlS := sn.lt
           clear hK KK sn hrow hfr g1 g2 g3 g4 g5 g6 g7 elC apC OC s1 s2
           (try simp only [Act.put, xa, xb, xc])
           refine tk 12 hS (h := ?_); simp only [Act.put, xa, xb, xc]
           refine ry [13] ?_
           refine cn (fun KK hK => ?_) ?_
           ·go_simp
            obtain ⟨wT, hwT⟩ : ∃ Z, Z = w9.setCell ⟨sb, 5, none⟩ (.slice pN lN cN) := ⟨_, rfl⟩
            have CT := C9.near 5 (by simp) (.slice pN lN cN)
            have hkT : ∀ z, z ≠ sb → wT.heap[z]? = w9.heap[z]? := fun z hz => by rw [hwT]; exact RowKit.Below.heap_setCell _ _ _ _ hz
            have gT : Hid (w3.grownBy wT (some sb)) := by show World.grownBy _ _ _; rw [hwT]; exact grown_trans hg9 (grown_set _ _ _)
            have zT : w9.heap.size ≤ wT.heap.size := by rw [hwT]; simp
            have OT : Hid (OwnT elNo 66 8 w3.heap.size wT (.slice pN lN cN) (ns.take (k + 1)) (Ls ++ [Ae])) := (uh SN).keep (elNo.keep _ _) zT (fun z hz => hkT z (by have := (hlS.1 z hz).1; omega)) (fun y hy => hkT _ (by have := (hlS.2 y hy).1; omega))
            rw [← hwT] at CT ⊢
            have hcT := fun z (hz : z ≠ sb) o => cell_at_heap (hkT z hz) o
            obtain ⟨s1, s2⟩ := uh S9
            have ST := And.intro ((hcT b t3b _).trans s1) (ownsMap_same s2 (hkT bn t4b))
            refine hK.out _ _ (by exact ST) (fun hS => ?_)
            have CT2 := hide CT
            clear hK KK hwT hkT hcT C9 cc cf CT hg hg9 zT ST s1 s2
            (try simp only [Act.put, xa, xb, xc])
            refine wpAnyH_done (by kernel_rfl) ?_ _
            refine NoPanic.normal ?_
            clear hS hlS hlA
            go_wp2
            go_roundw
            case rel => exact ⟨k + 1, _, _, by omega, by go_num, ⟨uh CT2, uh OT⟩, gT⟩
            case measure => simp [intOf]; omega
           exact AllReadyH.nil
          exact AllReadyH.nil
         exact AllReadyH.nil
        refine cn (fun KK hK => ?_) ?_
        ·go_simp
         obtain ⟨vn7, hvn7⟩ : ∃ V, V = vn4.alloc (.cells #[q0, q1, q2, q3, q4, q5, q6, q7] 66) := ⟨_, rfl⟩
         have hbn7 : Below vn4.heap.size vn4 vn7 := by rw [hvn7]; exact (Below.refl _ _).alloc (Nat.le_refl _) _
         have hcC : ∀ j u, ([q0, q1, q2, q3, q4, q5, q6, q7] : List Value)[j]? = some u → vn7.cell? ⟨vn4.heap.size, j, none⟩ = some u := fun j u hu => by
          rw [hvn7]
          exact (CellsAre.alloc vn4 #[q0, q1, q2, q3, q4, q5, q6, q7] 66).1 j u (by simpa using hu)
         rw [← hvn7]
         obtain ⟨gE, hgE⟩ : ∃ G, G = vn4.heap.size := ⟨_, rfl⟩
         rw [← hgE] at hcC ⊢
         obtain ⟨eln, one, apE⟩ := uh HEn4
         have kE : ∀ a ∈ Ae, vn7.heap[a.b]? = vn4.heap[a.b]? := fun a ha => hbn7.block _ (apE.inn.lt ha)
         have ELn7 : Hid (elNo vn7 nd [q0, q1, q2, q3, q4, q5, q6, q7] Ae ∧ Apt vA.heap.size vn7 Ae) := ⟨elNo.keep _ _ _ _ _ eln kE, apE.keep kE⟩
         have ONE := hide one
         have HCC := hide hcC
         obtain ⟨s1, s2⟩ := uh SXn4
         have SXn7 := hide (And.intro (cell_below s1 hbn7) (s2.kept (grown_of_below hbn7 none) (by simp)))
         have CXn7 := hide ((uh CXn4).below (by omega) hbn7)
         have BXn7 := hide (Below.step (uh BXn4) hbn7)
         have zxn7 : vA.heap.size ≤ vn7.heap.size := (uh BXn7).size
         clear s1 s2
         refine hK.out _ _ (by exact uh SXn7) (fun hS => ?_)
         clear hK KK hvn7 hbn7 hcC hgE eln apE kE one
         (try simp only [Act.put, xa, xb, xc])
         refine ry [1] ?_
         refine cn (fun KK hK => ?_) ?_
         ·have cl := (uh CXn7).1 5 _ rfl
          go_simp
          refine hK.out _ _ (by exact uh SXn7) (fun hS => ?_)
          clear hK KK cl
          (try simp only [Act.put, xa, xb, xc])
          have OC := (uh OA).below elNo.keep (uh BXn7)
          obtain ⟨elC, apC⟩ := uh ELn7
          obtain ⟨cs, g1, g2, g3, g4, g5, g6, g7⟩ := id OC
          have hlA := (uh OA).lt
          have hle : (ns.take k).length ≤ 1048576 := by rw [List.length_take]; omega
          have zA1 := (uh gA).size
          have zA : w3.heap.size ≤ vn7.heap.size := by omega
          refine ry [11] ?_
          refine cn (fun KK hK => ?_) ?_
          ·refine step_append_fr (by rfl) _ _ 25 (by rfl) w3.heap.size 66 io _ 8 128 Tryz.underlying25 hio oz0 oz1 oz2 rfl (by decide) Sv _ _ (by rfl) g4 gE 1 1 [q0, q1, q2, q3, q4, q5, q6, q7] (by rfl) rfl (uh HCC) (uh ONE) (by unfold maxLen; omega) (by omega) zA ?_
           intro v' w9 hrow hg hfr
           have sn := OwnT.snoc g1 g2 g3 g5 g6 g7 elNo.keep elC rfl apC zA1 (fun a ha => (hlA.2 a ha).2) (fun b hb => (hlA.1 b hb).2) hrow hg hfr
           rw [← take_snoc (uh HY)] at sn
           obtain ⟨pN, cN, evN, -⟩ := id sn.read
           obtain ⟨lN, hlN⟩ : ∃ n, n = (ns.take (k + 1)).length := ⟨_, rfl⟩
           rw [← hlN] at evN
           subst evN
           clear hlN
           have hneS : ∀ z, z < w3.heap.size → some z ≠ Sv.ownBlock := fun z hz e => by
            have := (hlA.1 z e.symm).1
            omega
           have hg9 : w3.grownBy w9 (some sb) := grown_step (grown_step (uh gA) (grown_of_below (uh BXn7) none) (fun b e => by cases e)) hg (fun b e => .inl (hlA.1 b e).1)
           have C9 := (uh CXn7).grown (by omega) hg (hneS sb (by omega))
           obtain ⟨t1, t2, t3⟩ := uh HLT
           obtain ⟨s1, s2⟩ := uh SXn7
           have S9 := hide (And.intro (hg.cell s1 (hneS b t1)) (s2.kept hg (hneS bn t2)))
           refine hK.out _ _ (by exact uh S9) (fun hS => ?_)
           have SN := hide sn
           have cc := C9.1 5 _ rfl
           have cf := C9.2
           have hlS := sn.lt
           clear hK KK sn hrow hfr g1 g2 g3 g4 g5 g6 g7 elC apC OC s1 s2
           (try simp only [Act.put, xa, xb, xc])
           refine tk 12 hS (h := ?_); simp only [Act.put, xa, xb, xc]
           refine ry [13] ?_
           refine cn (fun KK hK => ?_) ?_
           ·go_simp
            obtain ⟨wT, hwT⟩ : ∃ Z, Z = w9.setCell ⟨sb, 5, none⟩ (.slice pN lN cN) := ⟨_, rfl⟩
            have CT := C9.near 5 (by simp) (.slice pN lN cN)
            have hkT : ∀ z, z ≠ sb → wT.heap[z]? = w9.heap[z]? := fun z hz => by rw [hwT]; exact RowKit.Below.heap_setCell _ _ _ _ hz
            have gT : Hid (w3.grownBy wT (some sb)) := by show World.grownBy _ _ _; rw [hwT]; exact grown_trans hg9 (grown_set _ _ _)
            have zT : w9.heap.size ≤ wT.heap.size := by rw [hwT]; simp
            have OT : Hid (OwnT elNo 66 8 w3.heap.size wT (.slice pN lN cN) (ns.take (k + 1)) (Ls ++ [Ae])) := (uh SN).keep (elNo.keep _ _) zT (fun z hz => hkT z (by have := (hlS.1 z hz).1; omega)) (fun y hy => hkT _ (by have := (hlS.2 y hy).1; omega))
            rw [← hwT] at CT ⊢
            have hcT := fun z (hz : z ≠ sb) o => cell_at_heap (hkT z hz) o
            obtain ⟨s1, s2⟩ := uh S9
            have ST := And.intro ((hcT b t3b _).trans s1) (ownsMap_same s2 (hkT bn t4b))
            refine hK.out _ _ (by exact ST) (fun hS => ?_)
            have CT2 := hide CT
            clear hK KK hwT hkT hcT C9 cc cf CT hg hg9 zT ST s1 s2
            (try simp only [Act.put, xa, xb, xc])
            refine wpAnyH_done (by kernel_rfl) ?_ _
            refine NoPanic.normal ?_
            clear hS hlS hlA
            go_wp2
            go_roundw
            case rel => exact ⟨k + 1, _, _, by omega, by go_num, ⟨uh CT2, uh OT⟩, gT⟩
            case measure => simp [intOf]; omega
           exact AllReadyH.nil
          exact AllReadyH.nil
         exact AllReadyH.nil
        exact AllReadyH.nil
       exact AllReadyH.nil
      ·have hlt' : ¬ (k : Int) < (nk2 : Int) := by omega
       have ekn : k = nk2 := by omega
       subst ekn
       obtain ⟨hC, hO⟩ := uh hin
       rw [List.take_of_length_le (by rw [uh ENK2]; exact Nat.le_refl _)] at hO
       obtain ⟨pN, cN, evN, -⟩ := id hO.read
       obtain ⟨lN, hlN⟩ : ∃ n, n = ns.length := ⟨_, rfl⟩
       rw [← hlN] at evN
       subst evN
       obtain ⟨rdN, A2, lvN, apN⟩ := hO.no
       obtain ⟨rdS, lvS, apS⟩ := uh O3
       have R4 := (uh R3).grown (by omega) (uh hgr) (by simp; omega)
       have c0 := hC.1 0 _ rfl
       have c1 := hC.1 1 _ rfl
       have c2 := hC.1 2 _ rfl
       have c3 := hC.1 3 _ rfl
       have c4 := hC.1 4 _ rfl
       have c5 := hC.1 5 _ rfl
       have r0 := R4.1 0 _ rfl
       have r1 := R4.1 1 _ rfl
       have r2 := R4.1 2 _ rfl
       have r3 := R4.1 3 _ rfl
       have r4 := R4.1 4 _ rfl
       have r5 := R4.1 5 _ rfl
       have rf := R4.2
       have hns : ¬ w.heap.size = sb := by omega
       have hsn : ¬ sb = w.heap.size := by omega
       have FIN := hide (And.intro rdN (And.intro lvN apN))
       have FIS := hide (And.intro rdS (And.intro lvS apS))
       have HLN2 := hide hlN
       have z3r := (uh hgr).size
       clear rdN lvN apN rdS lvS apS hO hC R4 hin hlN
       go_wp2
       obtain ⟨rdN, lvN, apN⟩ := uh FIN
       obtain ⟨rdS, lvS, apS⟩ := uh FIS
       obtain ⟨Z, hZ⟩ : ∃ Z, Z = ((((((wr.setCell ⟨w.heap.size, 0, none⟩ (.int .u64 e)).setCell ⟨w.heap.size, 1, none⟩ (.int .u64 g)).setCell ⟨w.heap.size, 2, none⟩ (.int .u64 x)).setCell ⟨w.heap.size, 3, none⟩ (.int .i64 t)).setCell ⟨w.heap.size, 4, none⟩ (.slice pS lS cS)).setCell ⟨w.heap.size, 5, none⟩ (.slice pN lN cN)) := ⟨_, rfl⟩
       have hkZ : ∀ z, z ≠ w.heap.size → Z.heap[z]? = wr.heap[z]? := fun z hz => by
        rw [hZ]
        iterate 6 rw [RowKit.Below.heap_setCell _ _ _ _ hz]
       have k1 : ∀ a ∈ A1, Z.heap[a.b]? = w3.heap[a.b]? := fun a ha => by
        have h1 := uh HA1 a ha
        have h2 := apS.lo a ha
        rw [hkZ _ (by omega)]
        exact (uh hgr).block _ (by omega) (by simp; omega)
       have k2 : ∀ a ∈ A2, Z.heap[a.b]? = wr.heap[a.b]? := fun a ha => by
        have h2 := apN.lo a ha
        exact hkZ _ (by have := b3.size; omega)
       have hbZ : Below w.heap.size w Z := by
        rw [hZ]
        exact (((((BB.setCell (Nat.le_refl _) _).setCell (Nat.le_refl _) _).setCell (Nat.le_refl _) _).setCell (Nat.le_refl _) _).setCell (Nat.le_refl _) _).setCell (Nat.le_refl _) _
       have eS := uh HLS
       have eN := uh HLN2
       refine bodyPost_ret (v := stV e g x t (.slice pS lS cS) (.slice pN lN cN)) (by simp [results, Tryz.results99, go_sem, r0, r1, r2, r3, r4, r5, c0, c1, c2, c3, c4, c5]) rfl ?_
       rw [← hZ]
       subst eS eN
       refine ⟨pS, cS, pN, cN, rfl, rdS.keepLv lvS k1, rdN.keepLv lvN k2, A1, LvS.keep lvS k1, A2, LvN.keep lvN k2, ?_, hbZ⟩
       exact ((apS.keep k1).app (apN.keep k2) (by omega) (fun a ha => by have := uh HA1 a ha; omega)).mono (by omega)
  exact AllReadyH.nil
 exact AllReadyH.nil
end Go.Proofs.YtnbgnhhnpmmloaaGreatDoor

