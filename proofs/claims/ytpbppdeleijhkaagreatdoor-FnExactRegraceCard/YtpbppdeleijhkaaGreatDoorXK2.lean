import Derived.Test.YtpbppdeleijhkaaGreatDoorG46
import Derived.Test.YtpbppdeleijhkaaGreatDoorG39
namespace Go.Proofs.YtpbppdeleijhkaaGreatDoor
open Go.ChangeShapes Go.WideShapes Go.ChangeAt Go.RowKit Go.Maps
set_option linter.unusedVariables false
set_option linter.unusedSimpArgs false
set_option maxRecDepth 100000
theorem l3copyNode_n (nd : Nod) (p0 p1 p4 p7 : Option Addr) (c0 c1 c4 c7 : Nat) (ow mo ep ge : Int) (he : Hid (nd.owner = ow ∧ nd.mode = mo ∧ nd.epoch = ep ∧ nd.gen = ge)) (w : World) (h0 : Rd w (.slice p0 nd.path.length c0) nd.path) (h1 : Rd w (.slice p1 nd.value.length c1) nd.value) (h4 : RdU w (.slice p4 nd.holders.length c4) nd.holders) (h7 : RdU w (.slice p7 nd.watchers.length c7) nd.watchers) (l0 : nd.path.length ≤ 1048576) (l1 : nd.value.length ≤ 1048576) (l4 : nd.holders.length ≤ 1048576) (l7 : nd.watchers.length ≤ 1048576) :
  Calls Tryz.prog 118 #[ndV (.slice p0 nd.path.length c0) (.slice p1 nd.value.length c1) ow mo (.slice p4 nd.holders.length c4) ep ge (.slice p7 nd.watchers.length c7)] w fun r w' => ∃ c l, r = .returned (.agg c) ∧ elNo w' nd c.toList l ∧ Apt w.heap.size w' l ∧ Below w.heap.size w w' := by
 obtain ⟨rfl, rfl, rfl, rfl⟩ := unhide he
 exact l3copyNode_any nd p0 p1 p4 p7 c0 c1 c4 c7 w h0 h1 h4 h7 l0 l1 l4 l7
theorem StW.own {B : Nat} {w : World} {p q : Option Addr} {n c m d : Nat} {ss : List Ses} {ns : List Nod} (h : StW B w p n c q m d ss ns) : StOwn B w p n c q m d ss ns := by
 obtain ⟨h1, h2, BS, BN, LS, LN, o1, o2, b1, b2, b3, b4⟩ := h
 obtain ⟨A1, l1, a1, m1⟩ := o1.seB b4 b3
 obtain ⟨rn, A2, l2, a2⟩ := o2.no
 exact ⟨A1, A2, o1.se.1, rn, l1, l2, (a1.app a2 b2 m1).mono b1⟩
set_option maxHeartbeats 6400000 in
theorem l3copy_w (e g x t : Int) (p q : Option Addr) (c n d m : Nat) (ss : List Ses) (ns : List Nod) (en : Hid (ss.length = n)) (em : Hid (ns.length = m)) (w : World) (h : RdS w (.slice p n c) ss) (hN : RdN w (.slice q m d) ns) (hn : n ≤ 1048576) (hm : m ≤ 1048576)
  (hbs : Hid (∀ s ∈ ss, s.2.2.length ≤ 1048576 ∧ ∀ e ∈ s.2.2, Byt e.2 ∧ e.2.length ≤ 1048576)) (hby : Hid (∀ nd ∈ ns, Byt nd.path ∧ nd.path.length ≤ 1048576 ∧ nd.value.length ≤ 1048576 ∧ nd.holders.length ≤ 1048576 ∧ nd.watchers.length ≤ 1048576)) :
  Calls Tryz.prog 73 #[stV e g x t (.slice p n c) (.slice q m d)] w fun r w' => ∃ p' c' q' d', r = .returned (stV e g x t (.slice p' n c') (.slice q' m d')) ∧ StW w.heap.size w' p' n c' q' m d' ss ns ∧ Below w.heap.size w w' := by
 have HR := hide fun (w' : World) (hb : Below w.heap.size w w') => And.intro (h.below hb) (hN.below hb)
 have HLB : Hid (∀ b o, p = some ⟨b, o, none⟩ → ss ≠ [] → b < w.heap.size) := fun b o e1 hne => by
  obtain ⟨p', c', ev, hd⟩ := h
  simp only [Value.slice.injEq] at ev
  rcases hd with h0 | ⟨b', o', h1, h2⟩
  ·exact absurd h0 hne
  ·rw [ev.1, h1] at e1
   simp only [Option.some.injEq, Addr.mk.injEq, and_true] at e1
   obtain ⟨y, hy⟩ : ∃ y, ss[0]? = some y := by cases ss with | nil => exact absurd rfl hne | cons a l => exact ⟨a, rfl⟩
   rw [← e1.1]
   exact World.block_lt_of_cell? w _ (h2 0 y hy).1
 have HLN : Hid (∀ b o, q = some ⟨b, o, none⟩ → ns ≠ [] → b < w.heap.size) := fun b o e1 hne => by
  obtain ⟨p', c', ev, hd⟩ := hN
  simp only [Value.slice.injEq] at ev
  rcases hd with h0 | ⟨b', o', h1, h2⟩
  ·exact absurd h0 hne
  ·rw [ev.1, h1] at e1
   simp only [Option.some.injEq, Addr.mk.injEq, and_true] at e1
   obtain ⟨y, hy⟩ : ∃ y, ns[0]? = some y := by cases ns with | nil => exact absurd rfl hne | cons a l => exact ⟨a, rfl⟩
   obtain ⟨P, V, H, U, na⟩ := h2 0 y hy
   rw [← e1.1]
   exact World.block_lt_of_cell? w _ na.c0
 clear h hN
 obtain ⟨is, his, sz0, sz1, sz2⟩ := info_parts Tryz.infoSes
 obtain ⟨io, hio, oz0, oz1, oz2⟩ := info_parts Tryz.infoNod
 obtain ⟨W, hW⟩ : ∃ W, W = (w.alloc (.cells #[.int .u64 e, .int .u64 g, .int .u64 x, .int .i64 t, .slice p n c, .slice q m d] 27)) := ⟨_, rfl⟩
 obtain ⟨W0, hW0⟩ : ∃ W', W' = (W.alloc (.cells #[.int .u64 0, .int .u64 0, .int .u64 0, .int .i64 0, .slice none 0 0, .slice none 0 0] 27)) := ⟨_, rfl⟩
 have zW : W.heap.size = w.heap.size + 1 := by rw [hW]; simp
 have z0 : W0.heap.size = w.heap.size + 2 := by rw [hW0]; simp; omega
 have bW : Below w.heap.size w W := by rw [hW]; exact (Below.refl _ _).alloc (Nat.le_refl _) _
 have bW0 : Below W.heap.size W W0 := by rw [hW0]; exact (Below.refl _ _).alloc (Nat.le_refl _) _
 have b0 := Below.step bW bW0
 have hA : CellsAre W0 w.heap.size [.int .u64 e, .int .u64 g, .int .u64 x, .int .i64 t, .slice p n c, .slice q m d] := by
  have : CellsAre W w.heap.size [.int .u64 e, .int .u64 g, .int .u64 x, .int .i64 t, .slice p n c, .slice q m d] := by rw [hW]; exact CellsAre.alloc w #[.int .u64 e, .int .u64 g, .int .u64 x, .int .i64 t, .slice p n c, .slice q m d] _
  exact this.below (by omega) bW0
 have hR : CellsAre W0 (w.heap.size + 1) [.int .u64 0, .int .u64 0, .int .u64 0, .int .i64 0, .slice none 0 0, .slice none 0 0] := by
  rw [hW0, show w.heap.size + 1 = W.heap.size by omega]; exact CellsAre.alloc W #[.int .u64 0, .int .u64 0, .int .u64 0, .int .i64 0, .slice none 0 0, .slice none 0 0] _
 go_enter Tryz.func73, Tryz.ntmps73
 go_wp2_with fail
 rw [← hW, ← hW0]
 obtain ⟨w1, hw1⟩ : ∃ V, V = W0.alloc (.cells #[.int .u64 e, .int .u64 g, .int .u64 x, .int .i64 t, .slice none 0 0, .slice none 0 0] 27) := ⟨_, rfl⟩
 have hb1 : Below W0.heap.size W0 w1 := by rw [hw1]; exact (Below.refl _ _).alloc (Nat.le_refl _) _
 obtain ⟨sb, hsb⟩ : ∃ s, s = w.heap.size + 2 := ⟨_, rfl⟩
 have C1 : Hid (CellsAre w1 sb [.int .u64 e, .int .u64 g, .int .u64 x, .int .i64 t, .slice none 0 0, .slice none 0 0]) := by
  show CellsAre _ _ _
  rw [hw1, show sb = W0.heap.size by omega]
  exact CellsAre.alloc W0 #[.int .u64 e, .int .u64 g, .int .u64 x, .int .i64 t, .slice none 0 0, .slice none 0 0] _
 have b1 : Below w.heap.size w w1 := Below.step b0 hb1
 have hsw : w.heap.size + 1 < sb := by omega
 have zw1 : sb < w1.heap.size := by rw [hw1]; simp; omega
 have A1' := hide (hA.below (by omega) hb1)
 have R1 := hide (hR.below (by omega) hb1)
 rw [show w.heap.size + 2 = sb from hsb.symm, ← hw1]
 clear hW hW0 hw1 hb1 hA hR bW bW0 b0 zW z0 hsb
 have hcf : ∀ (vs : Array Value) (w : World), (callFunc 117 vs).run Tryz.prog w = .ok (.enter 117 vs) w := fun vs w => by kernel_rfl
 have HCF := hide hcf
 clear hcf
 go_loopw [4] (fun iv wr => ∃ (k : Nat) (Sv : Value) (Ls : List (List Lf)), k ≤ n ∧ iv = .int .i64 k ∧ Hid (CellsAre wr sb [.int .u64 e, .int .u64 g, .int .u64 x, .int .i64 t, Sv, .slice none 0 0] ∧ OwnT elSe 65 3 w1.heap.size wr Sv (ss.take k) Ls) ∧ Hid (w1.grownBy wr (some sb))) (fun iv _ => n - (intOf iv).toNat)
 case atStart => exact ⟨0, _, [], Nat.zero_le _, rfl, ⟨unhide C1, OwnT.nil _ _ _ _ _⟩, grown_refl _ _⟩
 case round =>
  obtain ⟨k, Sv, Ls, hk, rfl, hin, hgr⟩ := hrel
  have BB := below_grow b1 (unhide hgr) (by omega)
  have i4 := ((unhide A1').grown (by omega) (unhide hgr) (by simp; omega)).1 4 _ rfl
  by_cases hlt : k < n
  ·have hlt' : (k : Int) < (n : Int) := by omega
   have hkl : k < ss.length := by rw [unhide en]; exact hlt
   obtain ⟨⟨I, Dl, Qu⟩, hy⟩ : ∃ y, ss[k]? = some y := ⟨_, List.getElem?_eq_getElem hkl⟩
   obtain ⟨b, o, rfl, hcI, hcD, u, hcQ, hrQ⟩ : ∃ b o, p = some ⟨b, o, none⟩ ∧ wr.cell? ⟨b, o + k * 3, none⟩ = some (.int .u64 I) ∧ wr.cell? ⟨b, o + k * 3 + 1, none⟩ = some (.int .i64 Dl) ∧ ∃ u, wr.cell? ⟨b, o + k * 3 + 2, none⟩ = some u ∧ RdE wr u Qu := by
    obtain ⟨p', c', ev, hd⟩ := (unhide HR _ BB).1
    simp only [Value.slice.injEq] at ev
    obtain ⟨rfl, -, -⟩ := ev
    rcases hd with h0 | ⟨b, o, h1, h2⟩
    ·rw [h0] at hkl; simp at hkl
    ·exact ⟨b, o, h1, h2 k _ hy⟩
   obtain ⟨pq, cq, rfl, -⟩ := id hrQ
   obtain ⟨nq, enq⟩ : ∃ n, Qu.length = n := ⟨_, rfl⟩
   rw [enq] at hrQ hcQ
   have ENQ := hide enq
   obtain ⟨hq1, hq2⟩ := unhide hbs _ (List.mem_of_getElem? hy)
   dsimp only at hq1 hq2
   have hnq : nq ≤ 1048576 := by rw [← enq]; exact hq1
   have HQ2 : Hid (∀ e ∈ Qu, e.2.length ≤ 1048576) := fun e he => (hq2 e he).2
   have HY := hide hy
   obtain ⟨hC, hO⟩ := unhide hin
   have HXB := hide fun b hb => (hO.lt.1 b hb).2
   have zr := (unhide hgr).size
   clear enq hq1 hq2 hkl hy
   go_wp2_with fail
   obtain ⟨X, hX⟩ : ∃ X, X = (wr.alloc (.cells #[.int .u64 I, .int .i64 Dl, .slice pq nq cq] 65)) := ⟨_, rfl⟩
   have hbX : Below wr.heap.size wr X := by rw [hX]; exact (Below.refl _ _).alloc (Nat.le_refl _) _
   have x0 : X.cell? ⟨wr.heap.size, 0, none⟩ = some (.int .u64 I) := by rw [hX]; simp
   have x1 : X.cell? ⟨wr.heap.size, 1, none⟩ = some (.int .i64 Dl) := by rw [hX]; simp
   have x2 : X.cell? ⟨wr.heap.size, 2, none⟩ = some (.slice pq nq cq) := by rw [hX]; simp
   have zX : X.heap.size = wr.heap.size + 1 := by rw [hX]; simp
   rw [← hX]
   obtain ⟨xbb, exb⟩ : ∃ z, z = wr.heap.size := ⟨_, rfl⟩
   rw [← exb] at x0 x1 x2 HXB ⊢
   obtain ⟨vA, hvA⟩ : ∃ V, V = X.drew := ⟨_, rfl⟩
   have hbA : Below wr.heap.size wr vA := by rw [hvA]; exact hbX.drew
   have zvA : vA.heap.size = X.heap.size := by rw [hvA]; rfl
   have SXA : Hid (vA.cell? ⟨xbb, 0, none⟩ = some (.int .u64 I) ∧ vA.cell? ⟨xbb, 1, none⟩ = some (.int .i64 Dl) ∧ vA.cell? ⟨xbb, 2, none⟩ = some (.slice pq nq cq)) := by
    show _ ∧ _
    rw [hvA]
    exact ⟨x0, x1, x2⟩
   have RQ := hide (hrQ.below hbA)
   have OA := hide (hO.below elSe.keep hbA)
   have CXA := hide (hC.below (by omega) hbA)
   have gA : Hid (w1.grownBy vA (some sb)) := grown_step (unhide hgr) (grown_of_below hbA none) (fun b e => by cases e)
   have BXA := hide (Below.refl vA.heap.size vA)
   have zxA : sb < vA.heap.size := by omega
   have t3b : xbb ≠ sb := by omega
   have zxb : xbb < vA.heap.size := by omega
   have HZ := hide (And.intro exb (And.intro zX zvA))
   clear hX hbX hcI hcD hcQ hrQ hC hO zX zvA i4 exb
   refine wp_region_noPanic ?_
   refine wp_region_held_drew (S := fun w' => w'.cell? ⟨xbb, 0, none⟩ = some (.int .u64 I) ∧ w'.cell? ⟨xbb, 1, none⟩ = some (.int .i64 Dl) ∧ w'.cell? ⟨xbb, 2, none⟩ = some (.slice pq nq cq)) (by kernel_rfl) (by rw [← hvA]; exact unhide SXA) (fun hS => ?_)
   rw [← hvA] at hS ⊢
   clear hvA x0 x1 x2 hbA
   refine tk 0 hS (h := ?_); simp only [Act.put, xa, xb, xc]
   refine tk 2 hS (h := ?_); simp only [Act.put, xa, xb, xc]
   refine tk 3 hS (h := ?_); simp only [Act.put, xa, xb, xc]
   refine tk 4 hS (h := ?_); simp only [Act.put, xa, xb, xc]
   refine tk 5 hS (h := ?_); simp only [Act.put, xa, xb, xc]
   refine tk 6 hS (h := ?_); simp only [Act.put, xa, xb, xc]
   refine tk 7 hS (h := ?_); simp only [Act.put, xa, xb, xc]
   refine ry [1, 8] ?_
   refine cn (fun KK hK => ?_) ?_
   ·have cl := (unhide CXA).1 4 _ rfl
    go_simp
    refine hK.out _ _ (by exact unhide SXA) (fun hS => ?_)
    clear hK KK cl
    (try simp only [Act.put, xa, xb, xc])
    refine ry [8] ?_
    refine cn (fun KK hK => ?_) ?_
    ·refine step_call1 (by rfl) 117 _ _ (by rfl) (.slice pq nq cq) (by rfl) (fun _ => unhide HCF _ _) (l3events_any pq cq nq Qu ENQ _ ((unhide RQ).below (unhide BXA)) hnq HQ2) ?_
     rintro r v2 ⟨pe, ce, Ae, rfl, rdE, lvE, apE, hb2⟩
     refine ⟨_, rfl, ?_⟩
     have HE2 := hide (And.intro rdE (And.intro lvE (apE.mono (B' := vA.heap.size) (unhide BXA).size)))
     obtain ⟨s1, s2, s3⟩ := unhide SXA
     have SX2 := hide (And.intro (cell_below s1 hb2) (And.intro (cell_below s2 hb2) (cell_below s3 hb2)))
     have CX2 := hide ((unhide CXA).below (by omega) hb2)
     have BX2 := hide (Below.step (unhide BXA) hb2)
     have zx2 : vA.heap.size ≤ v2.heap.size := (unhide BX2).size
     clear s1 s2 s3
     refine hK.out _ _ (by exact unhide SX2) (fun hS => ?_)
     clear hK KK hb2 rdE lvE apE
     (try simp only [Act.put, xa, xb, xc])
     refine tk 9 hS (h := ?_); simp only [Act.put, xa, xb, xc]
     refine ry [10] ?_
     refine cn (fun KK hK => ?_) ?_
     ·go_simp
      obtain ⟨v3, hv3⟩ : ∃ V, V = v2.alloc (.cells #[.int .u64 I, .int .i64 Dl, .slice pe nq ce] 65) := ⟨_, rfl⟩
      have hb3 : Below v2.heap.size v2 v3 := by rw [hv3]; exact (Below.refl _ _).alloc (Nat.le_refl _) _
      have hcC : ∀ j u, ([.int .u64 I, .int .i64 Dl, .slice pe nq ce] : List Value)[j]? = some u → v3.cell? ⟨v2.heap.size, j, none⟩ = some u := fun j u hu => by
       rw [hv3]
       exact (CellsAre.alloc v2 #[.int .u64 I, .int .i64 Dl, .slice pe nq ce] 65).1 j u (by simpa using hu)
      rw [← hv3]
      obtain ⟨gE, hgE⟩ : ∃ G, G = v2.heap.size := ⟨_, rfl⟩
      rw [← hgE] at hcC ⊢
      obtain ⟨rdE, lvE, apE⟩ := unhide HE2
      have kE : ∀ a ∈ Ae, v3.heap[a.b]? = v2.heap[a.b]? := fun a ha => hb3.block _ (apE.inn.lt ha)
      have EL3 : Hid (elSe v3 (I, Dl, Qu) [.int .u64 I, .int .i64 Dl, .slice pe nq ce] Ae ∧ Apt vA.heap.size v3 Ae) := ⟨⟨pe, ce, by rw [unhide ENQ], by rw [unhide ENQ]; exact rdE.keepLv lvE kE, by rw [unhide ENQ]; exact LvE.keep lvE kE⟩, apE.keep kE⟩
      have HCC := hide hcC
      obtain ⟨s1, s2, s3⟩ := unhide SX2
      have SX3 := hide (And.intro (cell_below s1 hb3) (And.intro (cell_below s2 hb3) (cell_below s3 hb3)))
      have CX3 := hide ((unhide CX2).below (by omega) hb3)
      have BX3 := hide (Below.step (unhide BX2) hb3)
      have zx3 : vA.heap.size ≤ v3.heap.size := (unhide BX3).size
      clear s1 s2 s3
      refine hK.out _ _ (by exact unhide SX3) (fun hS => ?_)
      clear hK KK hv3 hb3 hcC hgE rdE lvE apE kE
      (try simp only [Act.put, xa, xb, xc])
      have OC := (unhide OA).below elSe.keep (unhide BX3)
      obtain ⟨elC, apC⟩ := unhide EL3
      obtain ⟨cs, g1, g2, g3, g4, g5, g6, g7⟩ := id OC
      have hlA := (unhide OA).lt
      have hle : (ss.take k).length ≤ 1048576 := by rw [List.length_take]; omega
      have zA1 := (unhide gA).size
      have zA : w1.heap.size ≤ v3.heap.size := by omega
      refine ry [11] ?_
      refine cn (fun KK hK => ?_) ?_
      ·refine step_append_fr (by rfl) _ _ 24 (by rfl) w1.heap.size 65 is _ 3 40 Tryz.underlying24 his sz0 sz1 sz2 rfl (by decide) Sv _ _ (by rfl) g4 gE 1 1 [.int .u64 I, .int .i64 Dl, .slice pe nq ce] (by rfl) rfl (unhide HCC) (fun u hu => by simp at hu; rcases hu with rfl | rfl | rfl <;> rfl) (by unfold maxLen; omega) (by omega) zA ?_
       intro v' w9 hrow hg hfr
       have sn := OwnT.snoc g1 g2 g3 g5 g6 g7 elSe.keep elC rfl apC zA1 (fun a ha => (hlA.2 a ha).2) (fun b hb => (hlA.1 b hb).2) hrow hg hfr
       rw [← take_snoc (unhide HY)] at sn
       obtain ⟨pN, cN, evN, -⟩ := id sn.read
       obtain ⟨lN, hlN⟩ : ∃ n, n = (ss.take (k + 1)).length := ⟨_, rfl⟩
       rw [← hlN] at evN
       subst evN
       clear hlN
       have hneS : ∀ z, z < w1.heap.size → some z ≠ Sv.ownBlock := fun z hz e => by
        have := (hlA.1 z e.symm).1
        omega
       have hg9 : w1.grownBy w9 (some sb) := grown_step (grown_step (unhide gA) (grown_of_below (unhide BX3) none) (fun b e => by cases e)) hg (fun b e => .inl (hlA.1 b e).1)
       have C9 := (unhide CX3).grown (by omega) hg (hneS sb (by omega))
       have hneX : some xbb ≠ Sv.ownBlock := fun e => by
        have := unhide HXB _ e.symm
        omega
       obtain ⟨s1, s2, s3⟩ := unhide SX3
       have S9 := hide (And.intro (hg.cell s1 hneX) (And.intro (hg.cell s2 hneX) (hg.cell s3 hneX)))
       refine hK.out _ _ (by exact unhide S9) (fun hS => ?_)
       have SN := hide sn
       have cc := C9.1 4 _ rfl
       have cf := C9.2
       have hlS := sn.lt
       clear hK KK sn hrow hfr g1 g2 g3 g4 g5 g6 g7 elC apC OC s1 s2 s3
       (try simp only [Act.put, xa, xb, xc])
       refine tk 12 hS (h := ?_); simp only [Act.put, xa, xb, xc]
       refine ry [13] ?_
       refine cn (fun KK hK => ?_) ?_
       ·go_simp
        obtain ⟨wT, hwT⟩ : ∃ Z, Z = w9.setCell ⟨sb, 4, none⟩ (.slice pN lN cN) := ⟨_, rfl⟩
        have CT := C9.near 4 (by simp) (.slice pN lN cN)
        have hkT : ∀ z, z ≠ sb → wT.heap[z]? = w9.heap[z]? := fun z hz => by rw [hwT]; exact RowKit.Below.heap_setCell _ _ _ _ hz
        have gT : Hid (w1.grownBy wT (some sb)) := by show World.grownBy _ _ _; rw [hwT]; exact grown_trans hg9 (grown_set _ _ _)
        have zT : w9.heap.size ≤ wT.heap.size := by rw [hwT]; simp
        have OT : Hid (OwnT elSe 65 3 w1.heap.size wT (.slice pN lN cN) (ss.take (k + 1)) (Ls ++ [Ae])) := (unhide SN).keep (elSe.keep _ _) zT (fun z hz => hkT z (by have := (hlS.1 z hz).1; omega)) (fun y hy => hkT _ (by have := (hlS.2 y hy).1; omega))
        rw [← hwT] at CT ⊢
        have hcT := fun z (hz : z ≠ sb) o => cell_at_heap (hkT z hz) o
        obtain ⟨s1, s2, s3⟩ := unhide S9
        have ST := And.intro ((hcT _ t3b _).trans s1) (And.intro ((hcT _ t3b _).trans s2) ((hcT _ t3b _).trans s3))
        refine hK.out _ _ (by exact ST) (fun hS => ?_)
        have CT2 := hide CT
        clear hK KK hwT hkT hcT C9 cc cf CT hg hg9 zT ST s1 s2 s3
        (try simp only [Act.put, xa, xb, xc])
        refine wpAnyH_done (by kernel_rfl) ?_ _
        refine NoPanic.normal ?_
        clear hS hlS hlA
        go_wp2
        go_roundw
        case rel => exact ⟨k + 1, _, _, by omega, by go_num, ⟨unhide CT2, unhide OT⟩, gT⟩
        case measure => simp [intOf]; omega
       exact AllReadyH.nil
      exact AllReadyH.nil
     exact AllReadyH.nil
    exact AllReadyH.nil
   refine cn (fun KK hK => ?_) ?_
   ·refine step_call1 (by rfl) 117 _ _ (by rfl) (.slice pq nq cq) (by rfl) (fun _ => unhide HCF _ _) (l3events_any pq cq nq Qu ENQ _ ((unhide RQ).below (unhide BXA)) hnq HQ2) ?_
    rintro r v4 ⟨pe, ce, Ae, rfl, rdE, lvE, apE, hb4⟩
    refine ⟨_, rfl, ?_⟩
    have HE4 := hide (And.intro rdE (And.intro lvE (apE.mono (B' := vA.heap.size) (unhide BXA).size)))
    obtain ⟨s1, s2, s3⟩ := unhide SXA
    have SX4 := hide (And.intro (cell_below s1 hb4) (And.intro (cell_below s2 hb4) (cell_below s3 hb4)))
    have CX4 := hide ((unhide CXA).below (by omega) hb4)
    have BX4 := hide (Below.step (unhide BXA) hb4)
    have zx4 : vA.heap.size ≤ v4.heap.size := (unhide BX4).size
    clear s1 s2 s3
    refine hK.out _ _ (by exact unhide SX4) (fun hS => ?_)
    clear hK KK hb4 rdE lvE apE
    (try simp only [Act.put, xa, xb, xc])
    refine tk 9 hS (h := ?_); simp only [Act.put, xa, xb, xc]
    refine ry [1, 10] ?_
    refine cn (fun KK hK => ?_) ?_
    ·have cl := (unhide CX4).1 4 _ rfl
     go_simp
     refine hK.out _ _ (by exact unhide SX4) (fun hS => ?_)
     clear hK KK cl
     (try simp only [Act.put, xa, xb, xc])
     refine ry [10] ?_
     refine cn (fun KK hK => ?_) ?_
     ·go_simp
      obtain ⟨v6, hv6⟩ : ∃ V, V = v4.alloc (.cells #[.int .u64 I, .int .i64 Dl, .slice pe nq ce] 65) := ⟨_, rfl⟩
      have hb6 : Below v4.heap.size v4 v6 := by rw [hv6]; exact (Below.refl _ _).alloc (Nat.le_refl _) _
      have hcC : ∀ j u, ([.int .u64 I, .int .i64 Dl, .slice pe nq ce] : List Value)[j]? = some u → v6.cell? ⟨v4.heap.size, j, none⟩ = some u := fun j u hu => by
       rw [hv6]
       exact (CellsAre.alloc v4 #[.int .u64 I, .int .i64 Dl, .slice pe nq ce] 65).1 j u (by simpa using hu)
      rw [← hv6]
      obtain ⟨gE, hgE⟩ : ∃ G, G = v4.heap.size := ⟨_, rfl⟩
      rw [← hgE] at hcC ⊢
      obtain ⟨rdE, lvE, apE⟩ := unhide HE4
      have kE : ∀ a ∈ Ae, v6.heap[a.b]? = v4.heap[a.b]? := fun a ha => hb6.block _ (apE.inn.lt ha)
      have EL6 : Hid (elSe v6 (I, Dl, Qu) [.int .u64 I, .int .i64 Dl, .slice pe nq ce] Ae ∧ Apt vA.heap.size v6 Ae) := ⟨⟨pe, ce, by rw [unhide ENQ], by rw [unhide ENQ]; exact rdE.keepLv lvE kE, by rw [unhide ENQ]; exact LvE.keep lvE kE⟩, apE.keep kE⟩
      have HCC := hide hcC
      obtain ⟨s1, s2, s3⟩ := unhide SX4
      have SX6 := hide (And.intro (cell_below s1 hb6) (And.intro (cell_below s2 hb6) (cell_below s3 hb6)))
      have CX6 := hide ((unhide CX4).below (by omega) hb6)
      have BX6 := hide (Below.step (unhide BX4) hb6)
      have zx6 : vA.heap.size ≤ v6.heap.size := (unhide BX6).size
      clear s1 s2 s3
      refine hK.out _ _ (by exact unhide SX6) (fun hS => ?_)
      clear hK KK hv6 hb6 hcC hgE rdE lvE apE kE
      (try simp only [Act.put, xa, xb, xc])
      have OC := (unhide OA).below elSe.keep (unhide BX6)
      obtain ⟨elC, apC⟩ := unhide EL6
      obtain ⟨cs, g1, g2, g3, g4, g5, g6, g7⟩ := id OC
      have hlA := (unhide OA).lt
      have hle : (ss.take k).length ≤ 1048576 := by rw [List.length_take]; omega
      have zA1 := (unhide gA).size
      have zA : w1.heap.size ≤ v6.heap.size := by omega
      refine ry [11] ?_
      refine cn (fun KK hK => ?_) ?_
      ·refine step_append_fr (by rfl) _ _ 24 (by rfl) w1.heap.size 65 is _ 3 40 Tryz.underlying24 his sz0 sz1 sz2 rfl (by decide) Sv _ _ (by rfl) g4 gE 1 1 [.int .u64 I, .int .i64 Dl, .slice pe nq ce] (by rfl) rfl (unhide HCC) (fun u hu => by simp at hu; rcases hu with rfl | rfl | rfl <;> rfl) (by unfold maxLen; omega) (by omega) zA ?_
       intro v' w9 hrow hg hfr
       have sn := OwnT.snoc g1 g2 g3 g5 g6 g7 elSe.keep elC rfl apC zA1 (fun a ha => (hlA.2 a ha).2) (fun b hb => (hlA.1 b hb).2) hrow hg hfr
       rw [← take_snoc (unhide HY)] at sn
       obtain ⟨pN, cN, evN, -⟩ := id sn.read
       obtain ⟨lN, hlN⟩ : ∃ n, n = (ss.take (k + 1)).length := ⟨_, rfl⟩
       rw [← hlN] at evN
       subst evN
       clear hlN
       have hneS : ∀ z, z < w1.heap.size → some z ≠ Sv.ownBlock := fun z hz e => by
        have := (hlA.1 z e.symm).1
        omega
       have hg9 : w1.grownBy w9 (some sb) := grown_step (grown_step (unhide gA) (grown_of_below (unhide BX6) none) (fun b e => by cases e)) hg (fun b e => .inl (hlA.1 b e).1)
       have C9 := (unhide CX6).grown (by omega) hg (hneS sb (by omega))
       have hneX : some xbb ≠ Sv.ownBlock := fun e => by
        have := unhide HXB _ e.symm
        omega
       obtain ⟨s1, s2, s3⟩ := unhide SX6
       have S9 := hide (And.intro (hg.cell s1 hneX) (And.intro (hg.cell s2 hneX) (hg.cell s3 hneX)))
       refine hK.out _ _ (by exact unhide S9) (fun hS => ?_)
       have SN := hide sn
       have cc := C9.1 4 _ rfl
       have cf := C9.2
       have hlS := sn.lt
       clear hK KK sn hrow hfr g1 g2 g3 g4 g5 g6 g7 elC apC OC s1 s2 s3
       (try simp only [Act.put, xa, xb, xc])
       refine tk 12 hS (h := ?_); simp only [Act.put, xa, xb, xc]
       refine ry [13] ?_
       refine cn (fun KK hK => ?_) ?_
       ·go_simp
        obtain ⟨wT, hwT⟩ : ∃ Z, Z = w9.setCell ⟨sb, 4, none⟩ (.slice pN lN cN) := ⟨_, rfl⟩
        have CT := C9.near 4 (by simp) (.slice pN lN cN)
        have hkT : ∀ z, z ≠ sb → wT.heap[z]? = w9.heap[z]? := fun z hz => by rw [hwT]; exact RowKit.Below.heap_setCell _ _ _ _ hz
        have gT : Hid (w1.grownBy wT (some sb)) := by show World.grownBy _ _ _; rw [hwT]; exact grown_trans hg9 (grown_set _ _ _)
        have zT : w9.heap.size ≤ wT.heap.size := by rw [hwT]; simp
        have OT : Hid (OwnT elSe 65 3 w1.heap.size wT (.slice pN lN cN) (ss.take (k + 1)) (Ls ++ [Ae])) := (unhide SN).keep (elSe.keep _ _) zT (fun z hz => hkT z (by have := (hlS.1 z hz).1; omega)) (fun y hy => hkT _ (by have := (hlS.2 y hy).1; omega))
        rw [← hwT] at CT ⊢
        have hcT := fun z (hz : z ≠ sb) o => cell_at_heap (hkT z hz) o
        obtain ⟨s1, s2, s3⟩ := unhide S9
        have ST := And.intro ((hcT _ t3b _).trans s1) (And.intro ((hcT _ t3b _).trans s2) ((hcT _ t3b _).trans s3))
        refine hK.out _ _ (by exact ST) (fun hS => ?_)
        have CT2 := hide CT
        clear hK KK hwT hkT hcT C9 cc cf CT hg hg9 zT ST s1 s2 s3
        (try simp only [Act.put, xa, xb, xc])
        refine wpAnyH_done (by kernel_rfl) ?_ _
        refine NoPanic.normal ?_
        clear hS hlS hlA
        go_wp2
        go_roundw
        case rel => exact ⟨k + 1, _, _, by omega, by go_num, ⟨unhide CT2, unhide OT⟩, gT⟩
        case measure => simp [intOf]; omega
       exact AllReadyH.nil
      exact AllReadyH.nil
     exact AllReadyH.nil
    refine cn (fun KK hK => ?_) ?_
    ·go_simp
     obtain ⟨v7, hv7⟩ : ∃ V, V = v4.alloc (.cells #[.int .u64 I, .int .i64 Dl, .slice pe nq ce] 65) := ⟨_, rfl⟩
     have hb7 : Below v4.heap.size v4 v7 := by rw [hv7]; exact (Below.refl _ _).alloc (Nat.le_refl _) _
     have hcC : ∀ j u, ([.int .u64 I, .int .i64 Dl, .slice pe nq ce] : List Value)[j]? = some u → v7.cell? ⟨v4.heap.size, j, none⟩ = some u := fun j u hu => by
      rw [hv7]
      exact (CellsAre.alloc v4 #[.int .u64 I, .int .i64 Dl, .slice pe nq ce] 65).1 j u (by simpa using hu)
     rw [← hv7]
     obtain ⟨gE, hgE⟩ : ∃ G, G = v4.heap.size := ⟨_, rfl⟩
     rw [← hgE] at hcC ⊢
     obtain ⟨rdE, lvE, apE⟩ := unhide HE4
     have kE : ∀ a ∈ Ae, v7.heap[a.b]? = v4.heap[a.b]? := fun a ha => hb7.block _ (apE.inn.lt ha)
     have EL7 : Hid (elSe v7 (I, Dl, Qu) [.int .u64 I, .int .i64 Dl, .slice pe nq ce] Ae ∧ Apt vA.heap.size v7 Ae) := ⟨⟨pe, ce, by rw [unhide ENQ], by rw [unhide ENQ]; exact rdE.keepLv lvE kE, by rw [unhide ENQ]; exact LvE.keep lvE kE⟩, apE.keep kE⟩
     have HCC := hide hcC
     obtain ⟨s1, s2, s3⟩ := unhide SX4
     have SX7 := hide (And.intro (cell_below s1 hb7) (And.intro (cell_below s2 hb7) (cell_below s3 hb7)))
     have CX7 := hide ((unhide CX4).below (by omega) hb7)
     have BX7 := hide (Below.step (unhide BX4) hb7)
     have zx7 : vA.heap.size ≤ v7.heap.size := (unhide BX7).size
     clear s1 s2 s3
     refine hK.out _ _ (by exact unhide SX7) (fun hS => ?_)
     clear hK KK hv7 hb7 hcC hgE rdE lvE apE kE
     (try simp only [Act.put, xa, xb, xc])
     refine ry [1] ?_
     refine cn (fun KK hK => ?_) ?_
     ·have cl := (unhide CX7).1 4 _ rfl
      go_simp
      refine hK.out _ _ (by exact unhide SX7) (fun hS => ?_)
      clear hK KK cl
      (try simp only [Act.put, xa, xb, xc])
      have OC := (unhide OA).below elSe.keep (unhide BX7)
      obtain ⟨elC, apC⟩ := unhide EL7
      obtain ⟨cs, g1, g2, g3, g4, g5, g6, g7⟩ := id OC
      have hlA := (unhide OA).lt
      have hle : (ss.take k).length ≤ 1048576 := by rw [List.length_take]; omega
      have zA1 := (unhide gA).size
      have zA : w1.heap.size ≤ v7.heap.size := by omega
      refine ry [11] ?_
      refine cn (fun KK hK => ?_) ?_
      ·refine step_append_fr (by rfl) _ _ 24 (by rfl) w1.heap.size 65 is _ 3 40 Tryz.underlying24 his sz0 sz1 sz2 rfl (by decide) Sv _ _ (by rfl) g4 gE 1 1 [.int .u64 I, .int .i64 Dl, .slice pe nq ce] (by rfl) rfl (unhide HCC) (fun u hu => by simp at hu; rcases hu with rfl | rfl | rfl <;> rfl) (by unfold maxLen; omega) (by omega) zA ?_
       intro v' w9 hrow hg hfr
       have sn := OwnT.snoc g1 g2 g3 g5 g6 g7 elSe.keep elC rfl apC zA1 (fun a ha => (hlA.2 a ha).2) (fun b hb => (hlA.1 b hb).2) hrow hg hfr
       rw [← take_snoc (unhide HY)] at sn
       obtain ⟨pN, cN, evN, -⟩ := id sn.read
       obtain ⟨lN, hlN⟩ : ∃ n, n = (ss.take (k + 1)).length := ⟨_, rfl⟩
       rw [← hlN] at evN
       subst evN
       clear hlN
       have hneS : ∀ z, z < w1.heap.size → some z ≠ Sv.ownBlock := fun z hz e => by
        have := (hlA.1 z e.symm).1
        omega
       have hg9 : w1.grownBy w9 (some sb) := grown_step (grown_step (unhide gA) (grown_of_below (unhide BX7) none) (fun b e => by cases e)) hg (fun b e => .inl (hlA.1 b e).1)
       have C9 := (unhide CX7).grown (by omega) hg (hneS sb (by omega))
       have hneX : some xbb ≠ Sv.ownBlock := fun e => by
        have := unhide HXB _ e.symm
        omega
       obtain ⟨s1, s2, s3⟩ := unhide SX7
       have S9 := hide (And.intro (hg.cell s1 hneX) (And.intro (hg.cell s2 hneX) (hg.cell s3 hneX)))
       refine hK.out _ _ (by exact unhide S9) (fun hS => ?_)
       have SN := hide sn
       have cc := C9.1 4 _ rfl
       have cf := C9.2
       have hlS := sn.lt
       clear hK KK sn hrow hfr g1 g2 g3 g4 g5 g6 g7 elC apC OC s1 s2 s3
       (try simp only [Act.put, xa, xb, xc])
       refine tk 12 hS (h := ?_); simp only [Act.put, xa, xb, xc]
       refine ry [13] ?_
       refine cn (fun KK hK => ?_) ?_
       ·go_simp
        obtain ⟨wT, hwT⟩ : ∃ Z, Z = w9.setCell ⟨sb, 4, none⟩ (.slice pN lN cN) := ⟨_, rfl⟩
        have CT := C9.near 4 (by simp) (.slice pN lN cN)
        have hkT : ∀ z, z ≠ sb → wT.heap[z]? = w9.heap[z]? := fun z hz => by rw [hwT]; exact RowKit.Below.heap_setCell _ _ _ _ hz
        have gT : Hid (w1.grownBy wT (some sb)) := by show World.grownBy _ _ _; rw [hwT]; exact grown_trans hg9 (grown_set _ _ _)
        have zT : w9.heap.size ≤ wT.heap.size := by rw [hwT]; simp
        have OT : Hid (OwnT elSe 65 3 w1.heap.size wT (.slice pN lN cN) (ss.take (k + 1)) (Ls ++ [Ae])) := (unhide SN).keep (elSe.keep _ _) zT (fun z hz => hkT z (by have := (hlS.1 z hz).1; omega)) (fun y hy => hkT _ (by have := (hlS.2 y hy).1; omega))
        rw [← hwT] at CT ⊢
        have hcT := fun z (hz : z ≠ sb) o => cell_at_heap (hkT z hz) o
        obtain ⟨s1, s2, s3⟩ := unhide S9
        have ST := And.intro ((hcT _ t3b _).trans s1) (And.intro ((hcT _ t3b _).trans s2) ((hcT _ t3b _).trans s3))
        refine hK.out _ _ (by exact ST) (fun hS => ?_)
        have CT2 := hide CT
        clear hK KK hwT hkT hcT C9 cc cf CT hg hg9 zT ST s1 s2 s3
        (try simp only [Act.put, xa, xb, xc])
        refine wpAnyH_done (by kernel_rfl) ?_ _
        refine NoPanic.normal ?_
        clear hS hlS hlA
        go_wp2
        go_roundw
        case rel => exact ⟨k + 1, _, _, by omega, by go_num, ⟨unhide CT2, unhide OT⟩, gT⟩
        case measure => simp [intOf]; omega
       exact AllReadyH.nil
      exact AllReadyH.nil
     exact AllReadyH.nil
    exact AllReadyH.nil
   exact AllReadyH.nil
  ·have hlt' : ¬ (k : Int) < (n : Int) := by omega
   have ekn : n = k := by omega
   subst ekn
   obtain ⟨hC, hO⟩ := unhide hin
   rw [List.take_of_length_le (by rw [unhide en]; exact Nat.le_refl _)] at hO
   obtain ⟨w3, ew3⟩ : ∃ W, W = wr := ⟨_, rfl⟩
   subst ew3
   have R3 := hide ((unhide R1).grown (by omega) (unhide hgr) (by simp; omega))
   have A3 := hide ((unhide A1').grown (by omega) (unhide hgr) (by simp; omega))
   obtain ⟨pS, cS, evS, -⟩ := id hO.read
   rw [unhide en] at evS
   subst evS
   have O3 := hide hO
   have C3 := hide hC
   have z13 := (unhide hgr).size
   have b3 := BB
   clear hO hC hin hk hlt hlt' R1 C1 A1' hgr BB
   have hcf2 : ∀ (vs : Array Value) (w : World), (callFunc 118 vs).run Tryz.prog w = .ok (.enter 118 vs) w := fun vs w => by kernel_rfl
   clear HCF
   have HCF := hide hcf2
   clear hcf2
   go_wp2_with fail
   go_loopw [6] (fun iv wr => ∃ (k : Nat) (Sv : Value) (Ls : List (List Lf)), k ≤ m ∧ iv = .int .i64 k ∧ Hid (CellsAre wr sb [.int .u64 e, .int .u64 g, .int .u64 x, .int .i64 t, .slice pS n cS, Sv] ∧ OwnT elNo 71 8 w3.heap.size wr Sv (ns.take k) Ls) ∧ Hid (w3.grownBy wr (some sb))) (fun iv _ => m - (intOf iv).toNat)
   case atStart => exact ⟨0, _, [], Nat.zero_le _, rfl, ⟨unhide C3, OwnT.nil _ _ _ _ _⟩, grown_refl _ _⟩
   case round =>
    obtain ⟨k, Sv, Ls, hk, rfl, hin, hgr⟩ := hrel
    have BB := below_grow b3 (unhide hgr) (by omega)
    have i5 := ((unhide A3).grown (by omega) (unhide hgr) (by simp; omega)).1 5 _ rfl
    by_cases hlt : k < m
    ·have hlt' : (k : Int) < (m : Int) := by omega
     have hkl : k < ns.length := by rw [unhide em]; exact hlt
     obtain ⟨nd, hy⟩ : ∃ y, ns[k]? = some y := ⟨_, List.getElem?_eq_getElem hkl⟩
     obtain ⟨gs, o, rfl, P, V, H, U, na⟩ : ∃ b o, q = some ⟨b, o, none⟩ ∧ ∃ P V H U, NodeAt wr b (o + k * 8) nd P V H U := by
      obtain ⟨p', c', ev, hd⟩ := (unhide HR _ BB).2
      simp only [Value.slice.injEq] at ev
      obtain ⟨rfl, -, -⟩ := ev
      rcases hd with h0 | ⟨b, o, h1, h2⟩
      ·rw [h0] at hkl; simp at hkl
      ·exact ⟨b, o, h1, h2 k _ hy⟩
     have hgsw : gs < w.heap.size := unhide HLN gs o rfl (fun e => by rw [e] at hkl; simp at hkl)
     obtain ⟨hl1, hl2, hl3, hl4, hl5⟩ := unhide hby _ (List.mem_of_getElem? hy)
     have HY := hide hy
     obtain ⟨hC, hO⟩ := unhide hin
     obtain ⟨y0, x0, rfl, -⟩ := id na.r0
     obtain ⟨y1, x1, rfl, -⟩ := id na.r1
     obtain ⟨y4, x4, rfl, -⟩ := id na.r4
     obtain ⟨y7, x7, rfl, -⟩ := id na.r7
     obtain ⟨ow, mo, ep, ge, e1, e2, e3, e4⟩ : ∃ a b c d, nd.owner = a ∧ nd.mode = b ∧ nd.epoch = c ∧ nd.gen = d := ⟨_, _, _, _, rfl, rfl, rfl, rfl⟩
     have HEQ := hide (And.intro e1 (And.intro e2 (And.intro e3 e4)))
     have HLT : Hid (w.heap.size < w3.heap.size ∧ True ∧ gs < w3.heap.size) := ⟨by omega, trivial, by have := b3.size; omega⟩
     have t3b : w.heap.size ≠ sb := by omega
     have t5b : gs ≠ sb := by omega
     obtain ⟨vA, hvA⟩ : ∃ V, V = wr.drew := ⟨_, rfl⟩
     have hbA : Below wr.heap.size wr vA := by rw [hvA]; exact (Below.refl _ _).drew
     have SXA : Hid (vA.cell? ⟨w.heap.size, 5, none⟩ = some (.slice (some ⟨gs, o, none⟩) m d) ∧ vA.cell? ⟨gs, o + k * 8, none⟩ = some (.slice y0 nd.path.length x0) ∧ vA.cell? ⟨gs, o + k * 8 + 1, none⟩ = some (.slice y1 nd.value.length x1) ∧ vA.cell? ⟨gs, o + k * 8 + 2, none⟩ = some (.int .u64 ow) ∧ vA.cell? ⟨gs, o + k * 8 + 3, none⟩ = some (.int .i64 mo) ∧ vA.cell? ⟨gs, o + k * 8 + 4, none⟩ = some (.slice y4 nd.holders.length x4) ∧ vA.cell? ⟨gs, o + k * 8 + 5, none⟩ = some (.int .u64 ep) ∧ vA.cell? ⟨gs, o + k * 8 + 6, none⟩ = some (.int .u64 ge) ∧ vA.cell? ⟨gs, o + k * 8 + 7, none⟩ = some (.slice y7 nd.watchers.length x7)) := by
      refine ⟨cell_below i5 hbA, cell_below na.c0 hbA, cell_below na.c1 hbA, ?_, ?_, cell_below na.c4 hbA, ?_, ?_, cell_below na.c7 hbA⟩
      ·rw [← e1]; exact cell_below na.c2 hbA
      ·rw [← e2]; exact cell_below na.c3 hbA
      ·rw [← e3]; exact cell_below na.c5 hbA
      ·rw [← e4]; exact cell_below na.c6 hbA
     have RQ := hide (And.intro (na.r0.below hbA) (And.intro (na.r1.below hbA) (And.intro (na.r4.below hbA) (na.r7.below hbA))))
     have OA := hide (hO.below elNo.keep hbA)
     have CXA := hide (hC.below (by have := (unhide hgr).size; omega) hbA)
     have gA : Hid (w3.grownBy vA (some sb)) := grown_step (unhide hgr) (grown_of_below hbA none) (fun b e => by cases e)
     have BXA := hide (Below.refl vA.heap.size vA)
     have zxA : sb < vA.heap.size := by have := (unhide gA).size; omega
     clear hkl na e1 e2 e3 e4 hC hO
     go_wp2_with fail
     refine wp_region_noPanic ?_
     refine wp_region_held_drew (S := fun w' => w'.cell? ⟨w.heap.size, 5, none⟩ = some (.slice (some ⟨gs, o, none⟩) m d) ∧ w'.cell? ⟨gs, o + k * 8, none⟩ = some (.slice y0 nd.path.length x0) ∧ w'.cell? ⟨gs, o + k * 8 + 1, none⟩ = some (.slice y1 nd.value.length x1) ∧ w'.cell? ⟨gs, o + k * 8 + 2, none⟩ = some (.int .u64 ow) ∧ w'.cell? ⟨gs, o + k * 8 + 3, none⟩ = some (.int .i64 mo) ∧ w'.cell? ⟨gs, o + k * 8 + 4, none⟩ = some (.slice y4 nd.holders.length x4) ∧ w'.cell? ⟨gs, o + k * 8 + 5, none⟩ = some (.int .u64 ep) ∧ w'.cell? ⟨gs, o + k * 8 + 6, none⟩ = some (.int .u64 ge) ∧ w'.cell? ⟨gs, o + k * 8 + 7, none⟩ = some (.slice y7 nd.watchers.length x7)) (by kernel_rfl) (by rw [← hvA]; exact unhide SXA) (fun hS => ?_)
     rw [← hvA] at hS ⊢
     clear hvA hbA i5
     refine tk 0 hS (h := ?_); simp only [Act.put, xa, xb, xc]
     refine tk 2 hS (h := ?_); simp only [Act.put, xa, xb, xc]
     refine tk 3 hS (h := ?_); simp only [Act.put, xa, xb, xc]
     refine tk 4 hS (h := ?_); simp only [Act.put, xa, xb, xc]
     refine tk 5 hS (h := ?_); simp only [Act.put, xa, xb, xc]
     refine tk 6 hS (h := ?_); simp only [Act.put, xa, xb, xc]
     refine ry [1, 7] ?_
     refine cn (fun KK hK => ?_) ?_
     ·have cl := (unhide CXA).1 5 _ rfl
      go_simp
      refine hK.out _ _ (by exact unhide SXA) (fun hS => ?_)
      clear hK KK cl
      (try simp only [Act.put, xa, xb, xc])
      refine ry [7] ?_
      refine cn (fun KK hK => ?_) ?_
      ·refine step_call1 (by rfl) 118 _ _ (by rfl) (ndV (.slice y0 nd.path.length x0) (.slice y1 nd.value.length x1) ow mo (.slice y4 nd.holders.length x4) ep ge (.slice y7 nd.watchers.length x7)) (by rfl) (fun _ => unhide HCF _ _) (l3copyNode_n nd y0 y1 y4 y7 x0 x1 x4 x7 ow mo ep ge HEQ _ ((unhide RQ).1.below (unhide BXA)) ((unhide RQ).2.1.below (unhide BXA)) ((unhide RQ).2.2.1.below (unhide BXA)) ((unhide RQ).2.2.2.below (unhide BXA)) hl2 hl3 hl4 hl5) ?_
       rintro r vn2 ⟨cn, Ae, rfl, eln, apE, hbn2⟩
       obtain ⟨q0, q1, q2, q3, q4, q5, q6, q7, ecn, one⟩ := eln.cells
       subst ecn
       refine ⟨_, rfl, ?_⟩
       have HEn2 := hide (And.intro eln (And.intro one (apE.mono (B' := vA.heap.size) (unhide BXA).size)))
       obtain ⟨s1, s2, s3, s4, s5, s6, s7, s8, s9⟩ := unhide SXA
       have SXn2 := hide (And.intro (cell_below s1 hbn2) (And.intro (cell_below s2 hbn2) (And.intro (cell_below s3 hbn2) (And.intro (cell_below s4 hbn2) (And.intro (cell_below s5 hbn2) (And.intro (cell_below s6 hbn2) (And.intro (cell_below s7 hbn2) (And.intro (cell_below s8 hbn2) (cell_below s9 hbn2)))))))))
       have CXn2 := hide ((unhide CXA).below (by omega) hbn2)
       have BXn2 := hide (Below.step (unhide BXA) hbn2)
       have zxn2 : vA.heap.size ≤ vn2.heap.size := (unhide BXn2).size
       clear s1 s2 s3 s4 s5 s6 s7 s8 s9
       refine hK.out _ _ (by exact unhide SXn2) (fun hS => ?_)
       clear hK KK hbn2 eln apE one
       (try simp only [Act.put, xa, xb, xc])
       refine ry [8] ?_
       refine cn (fun KK hK => ?_) ?_
       ·go_simp
        obtain ⟨vn3, hvn3⟩ : ∃ V, V = vn2.alloc (.cells #[q0, q1, q2, q3, q4, q5, q6, q7] 71) := ⟨_, rfl⟩
        have hbn3 : Below vn2.heap.size vn2 vn3 := by rw [hvn3]; exact (Below.refl _ _).alloc (Nat.le_refl _) _
        have hcC : ∀ j u, ([q0, q1, q2, q3, q4, q5, q6, q7] : List Value)[j]? = some u → vn3.cell? ⟨vn2.heap.size, j, none⟩ = some u := fun j u hu => by
         rw [hvn3]
         exact (CellsAre.alloc vn2 #[q0, q1, q2, q3, q4, q5, q6, q7] 71).1 j u (by simpa using hu)
        rw [← hvn3]
        obtain ⟨gE, hgE⟩ : ∃ G, G = vn2.heap.size := ⟨_, rfl⟩
        rw [← hgE] at hcC ⊢
        obtain ⟨eln, one, apE⟩ := unhide HEn2
        have kE : ∀ a ∈ Ae, vn3.heap[a.b]? = vn2.heap[a.b]? := fun a ha => hbn3.block _ (apE.inn.lt ha)
        have ELn3 : Hid (elNo vn3 nd [q0, q1, q2, q3, q4, q5, q6, q7] Ae ∧ Apt vA.heap.size vn3 Ae) := ⟨elNo.keep _ _ _ _ _ eln kE, apE.keep kE⟩
        have ONE := hide one
        have HCC := hide hcC
        obtain ⟨s1, s2, s3, s4, s5, s6, s7, s8, s9⟩ := unhide SXn2
        have SXn3 := hide (And.intro (cell_below s1 hbn3) (And.intro (cell_below s2 hbn3) (And.intro (cell_below s3 hbn3) (And.intro (cell_below s4 hbn3) (And.intro (cell_below s5 hbn3) (And.intro (cell_below s6 hbn3) (And.intro (cell_below s7 hbn3) (And.intro (cell_below s8 hbn3) (cell_below s9 hbn3)))))))))
        have CXn3 := hide ((unhide CXn2).below (by omega) hbn3)
        have BXn3 := hide (Below.step (unhide BXn2) hbn3)
        have zxn3 : vA.heap.size ≤ vn3.heap.size := (unhide BXn3).size
        clear s1 s2 s3 s4 s5 s6 s7 s8 s9
        refine hK.out _ _ (by exact unhide SXn3) (fun hS => ?_)
        clear hK KK hvn3 hbn3 hcC hgE eln apE kE one
        (try simp only [Act.put, xa, xb, xc])
        have OC := (unhide OA).below elNo.keep (unhide BXn3)
        obtain ⟨elC, apC⟩ := unhide ELn3
        obtain ⟨cs, g1, g2, g3, g4, g5, g6, g7⟩ := id OC
        have hlA := (unhide OA).lt
        have hle : (ns.take k).length ≤ 1048576 := by rw [List.length_take]; omega
        have zA1 := (unhide gA).size
        have zA : w3.heap.size ≤ vn3.heap.size := by omega
        refine ry [9] ?_
        refine cn (fun KK hK => ?_) ?_
        ·refine step_append_fr (by rfl) _ _ 25 (by rfl) w3.heap.size 71 io _ 8 128 Tryz.underlying25 hio oz0 oz1 oz2 rfl (by decide) Sv _ _ (by rfl) g4 gE 1 1 [q0, q1, q2, q3, q4, q5, q6, q7] (by rfl) rfl (unhide HCC) (unhide ONE) (by unfold maxLen; omega) (by omega) zA ?_
         intro v' w9 hrow hg hfr
         have sn := OwnT.snoc g1 g2 g3 g5 g6 g7 elNo.keep elC rfl apC zA1 (fun a ha => (hlA.2 a ha).2) (fun b hb => (hlA.1 b hb).2) hrow hg hfr
         rw [← take_snoc (unhide HY)] at sn
         obtain ⟨pN, cN, evN, -⟩ := id sn.read
         obtain ⟨lN, hlN⟩ : ∃ n, n = (ns.take (k + 1)).length := ⟨_, rfl⟩
         rw [← hlN] at evN
         subst evN
         clear hlN
         have hneS : ∀ z, z < w3.heap.size → some z ≠ Sv.ownBlock := fun z hz e => by
          have := (hlA.1 z e.symm).1
          omega
         have hg9 : w3.grownBy w9 (some sb) := grown_step (grown_step (unhide gA) (grown_of_below (unhide BXn3) none) (fun b e => by cases e)) hg (fun b e => .inl (hlA.1 b e).1)
         have C9 := (unhide CXn3).grown (by omega) hg (hneS sb (by omega))
         obtain ⟨t1, t2, t3⟩ := unhide HLT
         obtain ⟨s1, s2, s3, s4, s5, s6, s7, s8, s9⟩ := unhide SXn3
         have S9 := hide (And.intro (hg.cell s1 (hneS (w.heap.size) t1)) (And.intro (hg.cell s2 (hneS (gs) t3)) (And.intro (hg.cell s3 (hneS (gs) t3)) (And.intro (hg.cell s4 (hneS (gs) t3)) (And.intro (hg.cell s5 (hneS (gs) t3)) (And.intro (hg.cell s6 (hneS (gs) t3)) (And.intro (hg.cell s7 (hneS (gs) t3)) (And.intro (hg.cell s8 (hneS (gs) t3)) (hg.cell s9 (hneS (gs) t3))))))))))
         refine hK.out _ _ (by exact unhide S9) (fun hS => ?_)
         have SN := hide sn
         have cc := C9.1 5 _ rfl
         have cf := C9.2
         have hlS := sn.lt
         clear hK KK sn hrow hfr g1 g2 g3 g4 g5 g6 g7 elC apC OC s1 s2 s3 s4 s5 s6 s7 s8 s9
         (try simp only [Act.put, xa, xb, xc])
         refine tk 10 hS (h := ?_); simp only [Act.put, xa, xb, xc]
         refine ry [11] ?_
         refine cn (fun KK hK => ?_) ?_
         ·go_simp
          obtain ⟨wT, hwT⟩ : ∃ Z, Z = w9.setCell ⟨sb, 5, none⟩ (.slice pN lN cN) := ⟨_, rfl⟩
          have CT := C9.near 5 (by simp) (.slice pN lN cN)
          have hkT : ∀ z, z ≠ sb → wT.heap[z]? = w9.heap[z]? := fun z hz => by rw [hwT]; exact RowKit.Below.heap_setCell _ _ _ _ hz
          have gT : Hid (w3.grownBy wT (some sb)) := by show World.grownBy _ _ _; rw [hwT]; exact grown_trans hg9 (grown_set _ _ _)
          have zT : w9.heap.size ≤ wT.heap.size := by rw [hwT]; simp
          have OT : Hid (OwnT elNo 71 8 w3.heap.size wT (.slice pN lN cN) (ns.take (k + 1)) (Ls ++ [Ae])) := (unhide SN).keep (elNo.keep _ _) zT (fun z hz => hkT z (by have := (hlS.1 z hz).1; omega)) (fun y hy => hkT _ (by have := (hlS.2 y hy).1; omega))
          rw [← hwT] at CT ⊢
          have hcT := fun z (hz : z ≠ sb) o => cell_at_heap (hkT z hz) o
          obtain ⟨s1, s2, s3, s4, s5, s6, s7, s8, s9⟩ := unhide S9
          have ST := And.intro ((hcT _ t3b _).trans s1) (And.intro ((hcT _ t5b _).trans s2) (And.intro ((hcT _ t5b _).trans s3) (And.intro ((hcT _ t5b _).trans s4) (And.intro ((hcT _ t5b _).trans s5) (And.intro ((hcT _ t5b _).trans s6) (And.intro ((hcT _ t5b _).trans s7) (And.intro ((hcT _ t5b _).trans s8) ((hcT _ t5b _).trans s9))))))))
          refine hK.out _ _ (by exact ST) (fun hS => ?_)
          have CT2 := hide CT
          clear hK KK hwT hkT hcT C9 cc cf CT hg hg9 zT ST s1 s2 s3 s4 s5 s6 s7 s8 s9
          (try simp only [Act.put, xa, xb, xc])
          refine wpAnyH_done (by kernel_rfl) ?_ _
          refine NoPanic.normal ?_
          clear hS hlS hlA
          go_wp2
          go_roundw
          case rel => exact ⟨k + 1, _, _, by omega, by go_num, ⟨unhide CT2, unhide OT⟩, gT⟩
          case measure => simp [intOf]; omega
         exact AllReadyH.nil
        exact AllReadyH.nil
       exact AllReadyH.nil
      exact AllReadyH.nil
     refine cn (fun KK hK => ?_) ?_
     ·refine step_call1 (by rfl) 118 _ _ (by rfl) (ndV (.slice y0 nd.path.length x0) (.slice y1 nd.value.length x1) ow mo (.slice y4 nd.holders.length x4) ep ge (.slice y7 nd.watchers.length x7)) (by rfl) (fun _ => unhide HCF _ _) (l3copyNode_n nd y0 y1 y4 y7 x0 x1 x4 x7 ow mo ep ge HEQ _ ((unhide RQ).1.below (unhide BXA)) ((unhide RQ).2.1.below (unhide BXA)) ((unhide RQ).2.2.1.below (unhide BXA)) ((unhide RQ).2.2.2.below (unhide BXA)) hl2 hl3 hl4 hl5) ?_
      rintro r vn4 ⟨cn, Ae, rfl, eln, apE, hbn4⟩
      obtain ⟨q0, q1, q2, q3, q4, q5, q6, q7, ecn, one⟩ := eln.cells
      subst ecn
      refine ⟨_, rfl, ?_⟩
      have HEn4 := hide (And.intro eln (And.intro one (apE.mono (B' := vA.heap.size) (unhide BXA).size)))
      obtain ⟨s1, s2, s3, s4, s5, s6, s7, s8, s9⟩ := unhide SXA
      have SXn4 := hide (And.intro (cell_below s1 hbn4) (And.intro (cell_below s2 hbn4) (And.intro (cell_below s3 hbn4) (And.intro (cell_below s4 hbn4) (And.intro (cell_below s5 hbn4) (And.intro (cell_below s6 hbn4) (And.intro (cell_below s7 hbn4) (And.intro (cell_below s8 hbn4) (cell_below s9 hbn4)))))))))
      have CXn4 := hide ((unhide CXA).below (by omega) hbn4)
      have BXn4 := hide (Below.step (unhide BXA) hbn4)
      have zxn4 : vA.heap.size ≤ vn4.heap.size := (unhide BXn4).size
      clear s1 s2 s3 s4 s5 s6 s7 s8 s9
      refine hK.out _ _ (by exact unhide SXn4) (fun hS => ?_)
      clear hK KK hbn4 eln apE one
      (try simp only [Act.put, xa, xb, xc])
      refine ry [1, 8] ?_
      refine cn (fun KK hK => ?_) ?_
      ·have cl := (unhide CXn4).1 5 _ rfl
       go_simp
       refine hK.out _ _ (by exact unhide SXn4) (fun hS => ?_)
       clear hK KK cl
       (try simp only [Act.put, xa, xb, xc])
       refine ry [8] ?_
       refine cn (fun KK hK => ?_) ?_
       ·go_simp
        obtain ⟨vn6, hvn6⟩ : ∃ V, V = vn4.alloc (.cells #[q0, q1, q2, q3, q4, q5, q6, q7] 71) := ⟨_, rfl⟩
        have hbn6 : Below vn4.heap.size vn4 vn6 := by rw [hvn6]; exact (Below.refl _ _).alloc (Nat.le_refl _) _
        have hcC : ∀ j u, ([q0, q1, q2, q3, q4, q5, q6, q7] : List Value)[j]? = some u → vn6.cell? ⟨vn4.heap.size, j, none⟩ = some u := fun j u hu => by
         rw [hvn6]
         exact (CellsAre.alloc vn4 #[q0, q1, q2, q3, q4, q5, q6, q7] 71).1 j u (by simpa using hu)
        rw [← hvn6]
        obtain ⟨gE, hgE⟩ : ∃ G, G = vn4.heap.size := ⟨_, rfl⟩
        rw [← hgE] at hcC ⊢
        obtain ⟨eln, one, apE⟩ := unhide HEn4
        have kE : ∀ a ∈ Ae, vn6.heap[a.b]? = vn4.heap[a.b]? := fun a ha => hbn6.block _ (apE.inn.lt ha)
        have ELn6 : Hid (elNo vn6 nd [q0, q1, q2, q3, q4, q5, q6, q7] Ae ∧ Apt vA.heap.size vn6 Ae) := ⟨elNo.keep _ _ _ _ _ eln kE, apE.keep kE⟩
        have ONE := hide one
        have HCC := hide hcC
        obtain ⟨s1, s2, s3, s4, s5, s6, s7, s8, s9⟩ := unhide SXn4
        have SXn6 := hide (And.intro (cell_below s1 hbn6) (And.intro (cell_below s2 hbn6) (And.intro (cell_below s3 hbn6) (And.intro (cell_below s4 hbn6) (And.intro (cell_below s5 hbn6) (And.intro (cell_below s6 hbn6) (And.intro (cell_below s7 hbn6) (And.intro (cell_below s8 hbn6) (cell_below s9 hbn6)))))))))
        have CXn6 := hide ((unhide CXn4).below (by omega) hbn6)
        have BXn6 := hide (Below.step (unhide BXn4) hbn6)
        have zxn6 : vA.heap.size ≤ vn6.heap.size := (unhide BXn6).size
        clear s1 s2 s3 s4 s5 s6 s7 s8 s9
        refine hK.out _ _ (by exact unhide SXn6) (fun hS => ?_)
        clear hK KK hvn6 hbn6 hcC hgE eln apE kE one
        (try simp only [Act.put, xa, xb, xc])
        have OC := (unhide OA).below elNo.keep (unhide BXn6)
        obtain ⟨elC, apC⟩ := unhide ELn6
        obtain ⟨cs, g1, g2, g3, g4, g5, g6, g7⟩ := id OC
        have hlA := (unhide OA).lt
        have hle : (ns.take k).length ≤ 1048576 := by rw [List.length_take]; omega
        have zA1 := (unhide gA).size
        have zA : w3.heap.size ≤ vn6.heap.size := by omega
        refine ry [9] ?_
        refine cn (fun KK hK => ?_) ?_
        ·refine step_append_fr (by rfl) _ _ 25 (by rfl) w3.heap.size 71 io _ 8 128 Tryz.underlying25 hio oz0 oz1 oz2 rfl (by decide) Sv _ _ (by rfl) g4 gE 1 1 [q0, q1, q2, q3, q4, q5, q6, q7] (by rfl) rfl (unhide HCC) (unhide ONE) (by unfold maxLen; omega) (by omega) zA ?_
         intro v' w9 hrow hg hfr
         have sn := OwnT.snoc g1 g2 g3 g5 g6 g7 elNo.keep elC rfl apC zA1 (fun a ha => (hlA.2 a ha).2) (fun b hb => (hlA.1 b hb).2) hrow hg hfr
         rw [← take_snoc (unhide HY)] at sn
         obtain ⟨pN, cN, evN, -⟩ := id sn.read
         obtain ⟨lN, hlN⟩ : ∃ n, n = (ns.take (k + 1)).length := ⟨_, rfl⟩
         rw [← hlN] at evN
         subst evN
         clear hlN
         have hneS : ∀ z, z < w3.heap.size → some z ≠ Sv.ownBlock := fun z hz e => by
          have := (hlA.1 z e.symm).1
          omega
         have hg9 : w3.grownBy w9 (some sb) := grown_step (grown_step (unhide gA) (grown_of_below (unhide BXn6) none) (fun b e => by cases e)) hg (fun b e => .inl (hlA.1 b e).1)
         have C9 := (unhide CXn6).grown (by omega) hg (hneS sb (by omega))
         obtain ⟨t1, t2, t3⟩ := unhide HLT
         obtain ⟨s1, s2, s3, s4, s5, s6, s7, s8, s9⟩ := unhide SXn6
         have S9 := hide (And.intro (hg.cell s1 (hneS (w.heap.size) t1)) (And.intro (hg.cell s2 (hneS (gs) t3)) (And.intro (hg.cell s3 (hneS (gs) t3)) (And.intro (hg.cell s4 (hneS (gs) t3)) (And.intro (hg.cell s5 (hneS (gs) t3)) (And.intro (hg.cell s6 (hneS (gs) t3)) (And.intro (hg.cell s7 (hneS (gs) t3)) (And.intro (hg.cell s8 (hneS (gs) t3)) (hg.cell s9 (hneS (gs) t3))))))))))
         refine hK.out _ _ (by exact unhide S9) (fun hS => ?_)
         have SN := hide sn
         have cc := C9.1 5 _ rfl
         have cf := C9.2
         have hlS := sn.lt
         clear hK KK sn hrow hfr g1 g2 g3 g4 g5 g6 g7 elC apC OC s1 s2 s3 s4 s5 s6 s7 s8 s9
         (try simp only [Act.put, xa, xb, xc])
         refine tk 10 hS (h := ?_); simp only [Act.put, xa, xb, xc]
         refine ry [11] ?_
         refine cn (fun KK hK => ?_) ?_
         ·go_simp
          obtain ⟨wT, hwT⟩ : ∃ Z, Z = w9.setCell ⟨sb, 5, none⟩ (.slice pN lN cN) := ⟨_, rfl⟩
          have CT := C9.near 5 (by simp) (.slice pN lN cN)
          have hkT : ∀ z, z ≠ sb → wT.heap[z]? = w9.heap[z]? := fun z hz => by rw [hwT]; exact RowKit.Below.heap_setCell _ _ _ _ hz
          have gT : Hid (w3.grownBy wT (some sb)) := by show World.grownBy _ _ _; rw [hwT]; exact grown_trans hg9 (grown_set _ _ _)
          have zT : w9.heap.size ≤ wT.heap.size := by rw [hwT]; simp
          have OT : Hid (OwnT elNo 71 8 w3.heap.size wT (.slice pN lN cN) (ns.take (k + 1)) (Ls ++ [Ae])) := (unhide SN).keep (elNo.keep _ _) zT (fun z hz => hkT z (by have := (hlS.1 z hz).1; omega)) (fun y hy => hkT _ (by have := (hlS.2 y hy).1; omega))
          rw [← hwT] at CT ⊢
          have hcT := fun z (hz : z ≠ sb) o => cell_at_heap (hkT z hz) o
          obtain ⟨s1, s2, s3, s4, s5, s6, s7, s8, s9⟩ := unhide S9
          have ST := And.intro ((hcT _ t3b _).trans s1) (And.intro ((hcT _ t5b _).trans s2) (And.intro ((hcT _ t5b _).trans s3) (And.intro ((hcT _ t5b _).trans s4) (And.intro ((hcT _ t5b _).trans s5) (And.intro ((hcT _ t5b _).trans s6) (And.intro ((hcT _ t5b _).trans s7) (And.intro ((hcT _ t5b _).trans s8) ((hcT _ t5b _).trans s9))))))))
          refine hK.out _ _ (by exact ST) (fun hS => ?_)
          have CT2 := hide CT
          clear hK KK hwT hkT hcT C9 cc cf CT hg hg9 zT ST s1 s2 s3 s4 s5 s6 s7 s8 s9
          (try simp only [Act.put, xa, xb, xc])
          refine wpAnyH_done (by kernel_rfl) ?_ _
          refine NoPanic.normal ?_
          clear hS hlS hlA
          go_wp2
          go_roundw
          case rel => exact ⟨k + 1, _, _, by omega, by go_num, ⟨unhide CT2, unhide OT⟩, gT⟩
          case measure => simp [intOf]; omega
         exact AllReadyH.nil
        exact AllReadyH.nil
       exact AllReadyH.nil
      refine cn (fun KK hK => ?_) ?_
      ·go_simp
       obtain ⟨vn7, hvn7⟩ : ∃ V, V = vn4.alloc (.cells #[q0, q1, q2, q3, q4, q5, q6, q7] 71) := ⟨_, rfl⟩
       have hbn7 : Below vn4.heap.size vn4 vn7 := by rw [hvn7]; exact (Below.refl _ _).alloc (Nat.le_refl _) _
       have hcC : ∀ j u, ([q0, q1, q2, q3, q4, q5, q6, q7] : List Value)[j]? = some u → vn7.cell? ⟨vn4.heap.size, j, none⟩ = some u := fun j u hu => by
        rw [hvn7]
        exact (CellsAre.alloc vn4 #[q0, q1, q2, q3, q4, q5, q6, q7] 71).1 j u (by simpa using hu)
       rw [← hvn7]
       obtain ⟨gE, hgE⟩ : ∃ G, G = vn4.heap.size := ⟨_, rfl⟩
       rw [← hgE] at hcC ⊢
       obtain ⟨eln, one, apE⟩ := unhide HEn4
       have kE : ∀ a ∈ Ae, vn7.heap[a.b]? = vn4.heap[a.b]? := fun a ha => hbn7.block _ (apE.inn.lt ha)
       have ELn7 : Hid (elNo vn7 nd [q0, q1, q2, q3, q4, q5, q6, q7] Ae ∧ Apt vA.heap.size vn7 Ae) := ⟨elNo.keep _ _ _ _ _ eln kE, apE.keep kE⟩
       have ONE := hide one
       have HCC := hide hcC
       obtain ⟨s1, s2, s3, s4, s5, s6, s7, s8, s9⟩ := unhide SXn4
       have SXn7 := hide (And.intro (cell_below s1 hbn7) (And.intro (cell_below s2 hbn7) (And.intro (cell_below s3 hbn7) (And.intro (cell_below s4 hbn7) (And.intro (cell_below s5 hbn7) (And.intro (cell_below s6 hbn7) (And.intro (cell_below s7 hbn7) (And.intro (cell_below s8 hbn7) (cell_below s9 hbn7)))))))))
       have CXn7 := hide ((unhide CXn4).below (by omega) hbn7)
       have BXn7 := hide (Below.step (unhide BXn4) hbn7)
       have zxn7 : vA.heap.size ≤ vn7.heap.size := (unhide BXn7).size
       clear s1 s2 s3 s4 s5 s6 s7 s8 s9
       refine hK.out _ _ (by exact unhide SXn7) (fun hS => ?_)
       clear hK KK hvn7 hbn7 hcC hgE eln apE kE one
       (try simp only [Act.put, xa, xb, xc])
       refine ry [1] ?_
       refine cn (fun KK hK => ?_) ?_
       ·have cl := (unhide CXn7).1 5 _ rfl
        go_simp
        refine hK.out _ _ (by exact unhide SXn7) (fun hS => ?_)
        clear hK KK cl
        (try simp only [Act.put, xa, xb, xc])
        have OC := (unhide OA).below elNo.keep (unhide BXn7)
        obtain ⟨elC, apC⟩ := unhide ELn7
        obtain ⟨cs, g1, g2, g3, g4, g5, g6, g7⟩ := id OC
        have hlA := (unhide OA).lt
        have hle : (ns.take k).length ≤ 1048576 := by rw [List.length_take]; omega
        have zA1 := (unhide gA).size
        have zA : w3.heap.size ≤ vn7.heap.size := by omega
        refine ry [9] ?_
        refine cn (fun KK hK => ?_) ?_
        ·refine step_append_fr (by rfl) _ _ 25 (by rfl) w3.heap.size 71 io _ 8 128 Tryz.underlying25 hio oz0 oz1 oz2 rfl (by decide) Sv _ _ (by rfl) g4 gE 1 1 [q0, q1, q2, q3, q4, q5, q6, q7] (by rfl) rfl (unhide HCC) (unhide ONE) (by unfold maxLen; omega) (by omega) zA ?_
         intro v' w9 hrow hg hfr
         have sn := OwnT.snoc g1 g2 g3 g5 g6 g7 elNo.keep elC rfl apC zA1 (fun a ha => (hlA.2 a ha).2) (fun b hb => (hlA.1 b hb).2) hrow hg hfr
         rw [← take_snoc (unhide HY)] at sn
         obtain ⟨pN, cN, evN, -⟩ := id sn.read
         obtain ⟨lN, hlN⟩ : ∃ n, n = (ns.take (k + 1)).length := ⟨_, rfl⟩
         rw [← hlN] at evN
         subst evN
         clear hlN
         have hneS : ∀ z, z < w3.heap.size → some z ≠ Sv.ownBlock := fun z hz e => by
          have := (hlA.1 z e.symm).1
          omega
         have hg9 : w3.grownBy w9 (some sb) := grown_step (grown_step (unhide gA) (grown_of_below (unhide BXn7) none) (fun b e => by cases e)) hg (fun b e => .inl (hlA.1 b e).1)
         have C9 := (unhide CXn7).grown (by omega) hg (hneS sb (by omega))
         obtain ⟨t1, t2, t3⟩ := unhide HLT
         obtain ⟨s1, s2, s3, s4, s5, s6, s7, s8, s9⟩ := unhide SXn7
         have S9 := hide (And.intro (hg.cell s1 (hneS (w.heap.size) t1)) (And.intro (hg.cell s2 (hneS (gs) t3)) (And.intro (hg.cell s3 (hneS (gs) t3)) (And.intro (hg.cell s4 (hneS (gs) t3)) (And.intro (hg.cell s5 (hneS (gs) t3)) (And.intro (hg.cell s6 (hneS (gs) t3)) (And.intro (hg.cell s7 (hneS (gs) t3)) (And.intro (hg.cell s8 (hneS (gs) t3)) (hg.cell s9 (hneS (gs) t3))))))))))
         refine hK.out _ _ (by exact unhide S9) (fun hS => ?_)
         have SN := hide sn
         have cc := C9.1 5 _ rfl
         have cf := C9.2
         have hlS := sn.lt
         clear hK KK sn hrow hfr g1 g2 g3 g4 g5 g6 g7 elC apC OC s1 s2 s3 s4 s5 s6 s7 s8 s9
         (try simp only [Act.put, xa, xb, xc])
         refine tk 10 hS (h := ?_); simp only [Act.put, xa, xb, xc]
         refine ry [11] ?_
         refine cn (fun KK hK => ?_) ?_
         ·go_simp
          obtain ⟨wT, hwT⟩ : ∃ Z, Z = w9.setCell ⟨sb, 5, none⟩ (.slice pN lN cN) := ⟨_, rfl⟩
          have CT := C9.near 5 (by simp) (.slice pN lN cN)
          have hkT : ∀ z, z ≠ sb → wT.heap[z]? = w9.heap[z]? := fun z hz => by rw [hwT]; exact RowKit.Below.heap_setCell _ _ _ _ hz
          have gT : Hid (w3.grownBy wT (some sb)) := by show World.grownBy _ _ _; rw [hwT]; exact grown_trans hg9 (grown_set _ _ _)
          have zT : w9.heap.size ≤ wT.heap.size := by rw [hwT]; simp
          have OT : Hid (OwnT elNo 71 8 w3.heap.size wT (.slice pN lN cN) (ns.take (k + 1)) (Ls ++ [Ae])) := (unhide SN).keep (elNo.keep _ _) zT (fun z hz => hkT z (by have := (hlS.1 z hz).1; omega)) (fun y hy => hkT _ (by have := (hlS.2 y hy).1; omega))
          rw [← hwT] at CT ⊢
          have hcT := fun z (hz : z ≠ sb) o => cell_at_heap (hkT z hz) o
          obtain ⟨s1, s2, s3, s4, s5, s6, s7, s8, s9⟩ := unhide S9
          have ST := And.intro ((hcT _ t3b _).trans s1) (And.intro ((hcT _ t5b _).trans s2) (And.intro ((hcT _ t5b _).trans s3) (And.intro ((hcT _ t5b _).trans s4) (And.intro ((hcT _ t5b _).trans s5) (And.intro ((hcT _ t5b _).trans s6) (And.intro ((hcT _ t5b _).trans s7) (And.intro ((hcT _ t5b _).trans s8) ((hcT _ t5b _).trans s9))))))))
          refine hK.out _ _ (by exact ST) (fun hS => ?_)
          have CT2 := hide CT
          clear hK KK hwT hkT hcT C9 cc cf CT hg hg9 zT ST s1 s2 s3 s4 s5 s6 s7 s8 s9
          (try simp only [Act.put, xa, xb, xc])
          refine wpAnyH_done (by kernel_rfl) ?_ _
          refine NoPanic.normal ?_
          clear hS hlS hlA
          go_wp2
          go_roundw
          case rel => exact ⟨k + 1, _, _, by omega, by go_num, ⟨unhide CT2, unhide OT⟩, gT⟩
          case measure => simp [intOf]; omega
         exact AllReadyH.nil
        exact AllReadyH.nil
       exact AllReadyH.nil
      exact AllReadyH.nil
     exact AllReadyH.nil
    ·have hlt' : ¬ (k : Int) < (m : Int) := by omega
     have ekn : m = k := by omega
     subst ekn
     obtain ⟨hC, hO⟩ := unhide hin
     rw [List.take_of_length_le (by rw [unhide em]; exact Nat.le_refl _)] at hO
     obtain ⟨pN, cN, evN, -⟩ := id hO.read
     rw [unhide em] at evN
     subst evN
     have ON := hide hO
     have R4 := (unhide R3).grown (by omega) (unhide hgr) (by simp; omega)
     have c0 := hC.1 0 _ rfl
     have c1 := hC.1 1 _ rfl
     have c2 := hC.1 2 _ rfl
     have c3 := hC.1 3 _ rfl
     have c4 := hC.1 4 _ rfl
     have c5 := hC.1 5 _ rfl
     have r0 := R4.1 0 _ rfl
     have r1 := R4.1 1 _ rfl
     have r2 := R4.1 2 _ rfl
     have r3 := R4.1 3 _ rfl
     have r4 := R4.1 4 _ rfl
     have r5 := R4.1 5 _ rfl
     have rf := R4.2
     have hns : ¬ w.heap.size + 1 = sb := by omega
     have hsn : ¬ sb = w.heap.size + 1 := by omega
     have z3r := (unhide hgr).size
     clear hO hC R4 hin
     go_wp2
     obtain ⟨Z, hZ⟩ : ∃ Z, Z = ((((((wr.setCell ⟨w.heap.size + 1, 0, none⟩ (.int .u64 e)).setCell ⟨w.heap.size + 1, 1, none⟩ (.int .u64 g)).setCell ⟨w.heap.size + 1, 2, none⟩ (.int .u64 x)).setCell ⟨w.heap.size + 1, 3, none⟩ (.int .i64 t)).setCell ⟨w.heap.size + 1, 4, none⟩ (.slice pS n cS)).setCell ⟨w.heap.size + 1, 5, none⟩ (.slice pN m cN)) := ⟨_, rfl⟩
     have hkZ : ∀ z, z ≠ w.heap.size + 1 → Z.heap[z]? = wr.heap[z]? := fun z hz => by
      rw [hZ]
      iterate 6 rw [RowKit.Below.heap_setCell _ _ _ _ hz]
     have hbZ : Below w.heap.size w Z := by
      rw [hZ]
      exact (((((BB.setCell (by simp) _).setCell (by simp) _).setCell (by simp) _).setCell (by simp) _).setCell (by simp) _).setCell (by simp) _
     refine bodyPost_ret (v := stV e g x t (.slice pS n cS) (.slice pN m cN)) (by simp [results, Tryz.results73, go_sem, r0, r1, r2, r3, r4, r5, c0, c1, c2, c3, c4, c5]) rfl ?_
     rw [← hZ]
     have hS := unhide O3
     have hN := unhide ON
     have lS := hS.lt
     have lN := hN.lt
     have zZ : Z.heap.size = wr.heap.size := by rw [hZ]; simp
     have k1 : ∀ z, w1.heap.size ≤ z → z < w3.heap.size → Z.heap[z]? = w3.heap[z]? := fun z hz hz' => by
      rw [hkZ _ (by omega)]
      exact (unhide hgr).block _ (by omega) (by simp; omega)
     have k2 : ∀ z, w3.heap.size ≤ z → Z.heap[z]? = wr.heap[z]? := fun z hz => hkZ _ (by omega)
     refine ⟨pS, cS, pN, cN, rfl, ⟨unhide en, unhide em, w1.heap.size, w3.heap.size, _, _, hS.keep (elSe.keep _ _) (by omega) (fun z hz => k1 z (lS.1 z hz).1 (lS.1 z hz).2) (fun a ha => k1 _ (lS.2 a ha).1 (lS.2 a ha).2), hN.keep (elNo.keep _ _) (by omega) (fun z hz => k2 z (lN.1 z hz).1) (fun a ha => k2 _ (lN.2 a ha).1), by omega, by omega, fun z hz => (lS.1 z hz).2, fun a ha => (lS.2 a ha).2⟩, hbZ⟩
theorem l3copy_any (e g x t : Int) (p q : Option Addr) (c n d m : Nat) (ss : List Ses) (ns : List Nod) (en : Hid (ss.length = n)) (em : Hid (ns.length = m)) (w : World) (h : RdS w (.slice p n c) ss) (hN : RdN w (.slice q m d) ns) (hn : n ≤ 1048576) (hm : m ≤ 1048576)
  (hbs : Hid (∀ s ∈ ss, s.2.2.length ≤ 1048576 ∧ ∀ e ∈ s.2.2, Byt e.2 ∧ e.2.length ≤ 1048576)) (hby : Hid (∀ nd ∈ ns, Byt nd.path ∧ nd.path.length ≤ 1048576 ∧ nd.value.length ≤ 1048576 ∧ nd.holders.length ≤ 1048576 ∧ nd.watchers.length ≤ 1048576)) :
  Calls Tryz.prog 73 #[stV e g x t (.slice p n c) (.slice q m d)] w fun r w' => ∃ p' c' q' d', r = .returned (stV e g x t (.slice p' n c') (.slice q' m d')) ∧ StOwn w.heap.size w' p' n c' q' m d' ss ns ∧ Below w.heap.size w w' := by
 refine (l3copy_w e g x t p q c n d m ss ns en em w h hN hn hm hbs hby).mono ?_
 rintro r w' ⟨p', c', q', d', h1, h2, h3⟩
 exact ⟨p', c', q', d', h1, h2.own, h3⟩
end Go.Proofs.YtpbppdeleijhkaaGreatDoor
