import Derived.Test.YtpbppdeleijhkaaGreatDoorG37
namespace Go.Proofs.YtpbppdeleijhkaaGreatDoor
open Go.ChangeShapes Go.WideShapes Go.ChangeAt Go.RowKit Go.Maps
set_option linter.unusedVariables false
set_option linter.unusedSimpArgs false
set_option maxRecDepth 100000
def Named (nd : Nod) (i : Int) : Prop := (nd.owner ≠ 0 ∧ i = nd.owner) ∨ i ∈ nd.holders ∨ i ∈ nd.watchers
theorem SetTo.del {D : DataW Unit} {s : List Int} (h : SetTo D s) (i : Int) : SetTo (D.del (.int .u64 i)) (s.filter fun j => decide (j ≠ i)) := by
 intro k'
 by_cases e : k' = .int .u64 i
 ·subst e
  rw [Maps.has_del_same]
  simp
 ·rw [Maps.has_del_other e, h k']
  constructor
  ·rintro ⟨j, hj, rfl⟩
   refine ⟨j, ?_, rfl⟩
   rw [List.mem_filter]
   exact ⟨hj, by simpa using fun hh => e (by rw [hh])⟩
  ·rintro ⟨j, hj, rfl⟩
   exact ⟨j, (List.mem_filter.1 hj).1, rfl⟩
theorem invU : ∀ (key : Value) (kl : Lit), keyOf Tryz.prog 23 key = some kl → ∃ i : Int, key = .int .u64 i := by
 intro key kl hk
 obtain ⟨x, rfl, _⟩ := keyOf_int_inv Tryz.underlying23 hk
 exact ⟨x, rfl⟩
theorem NodL.uniq {w0 w : World} {bn : Nat} {ns : List Nod} {NB HB UB : List Nat} (h : NodL w0 w bn ns NB HB UB) {i j : Nat} {nd nd' : Nod} (hi : ns[i]? = some nd) (hj : ns[j]? = some nd') (hp : nd.path = nd'.path) : nd = nd' := by
 obtain ⟨D, _, mD⟩ := h.own
 obtain ⟨g1, _, _, q1, _, _⟩ := h.at hi
 obtain ⟨g2, _, _, q2, _, _⟩ := h.at hj
 have m1 : (litS nd.path, g1) ∈ List.zipWith (fun (nd : Nod) g => (litS nd.path, g)) ns NB := by
  rw [List.mem_iff_getElem?]
  exact ⟨i, by rw [List.getElem?_zipWith, hi, q1]⟩
 have m2 : (litS nd'.path, g2) ∈ List.zipWith (fun (nd : Nod) g => (litS nd.path, g)) ns NB := by
  rw [List.mem_iff_getElem?]
  exact ⟨j, by rw [List.getElem?_zipWith, hj, q2]⟩
 have e1 := mD.at' _ m1 .nil
 have e2 := mD.at' _ m2 .nil
 simp only [hp] at e1
 simp only at e2
 rw [e1] at e2
 simp only [DataW.lit.injEq, Lit.int.injEq, true_and, Int.natCast_inj] at e2
 subst e2
 have l1 := (List.getElem?_eq_some_iff.1 q1).1
 have l2 := (List.getElem?_eq_some_iff.1 q2).1
 have hpw := List.pairwise_iff_getElem.1 h.nod
 have v1 := (List.getElem?_eq_some_iff.1 q1).2
 have v2 := (List.getElem?_eq_some_iff.1 q2).2
 have : i = j := by
  rcases Nat.lt_trichotomy i j with hh | hh | hh
  ·exact absurd (v1.trans v2.symm) (hpw i j l1 l2 hh)
  ·exact hh
  ·exact absurd (v2.trans v1.symm) (hpw j i l2 l1 hh)
 subst this
 rw [hi] at hj
 cases hj
 rfl
set_option maxHeartbeats 3200000 in
theorem strangers_any {w0 : World} {b bs bn : Nat} {e g x t : Int} {ss : List Ses} {ns : List Nod} {SB NB HB UB : List Nat} (w : World) (hst : Hid (StoreAt w0 w b bs bn e g x t ss ns SB NB HB UB)) (hbn : Hid (∀ nd ∈ ns, Byt nd.path ∧ nd.holders.length ≤ 1048576 ∧ nd.watchers.length ≤ 1048576)) (hou : Hid (∀ nd ∈ ns, 0 ≤ nd.owner ∧ nd.owner < 18446744073709551616)) (m : Nat) (em : Hid (ns.length = m)) (hm : m ≤ 1048576) (n : Nat) (en : Hid (ss.length = n)) :
  Calls Tryz.prog 112 #[.pointer (some ⟨b, 0, none⟩)] w fun r w' => ∃ nb k D s, r = .returned (.map (some nb)) ∧ w'.ownsMap Tryz.prog 23 unitElem nb k D ∧ SetTo D s ∧ (∀ i, i ∈ s ↔ (∃ nd ∈ ns, Named nd i) ∧ ¬ ∃ z ∈ ss, z.1 = i) ∧ Below w.heap.size w w' := by
 have hc5 : w.cell? ⟨b, 5, none⟩ = some (.map (some bn)) := cells_at (unhide hst).hd 5
 have hc4 : w.cell? ⟨b, 4, none⟩ = some (.map (some bs)) := cells_at (unhide hst).hd 4
 have hbl : b < w.heap.size := heap_lt (unhide hst).hd
 obtain ⟨D, oD, mD⟩ := (unhide hst).nod.own
 obtain ⟨Ds, oS, mS⟩ := (unhide hst).ses.own
 rw [unhide em] at oD
 rw [unhide en] at oS
 have MD := hide mD
 have MS := hide mS
 have OS := hide oS
 have HC4 := hide hc4
 clear mD mS oS hc4
 have hmm := @run_makeMap Tryz.prog
 have b1 : Below w.heap.size w (w.alloc (.map #[] 0)) := (Below.refl _ _).alloc (Nat.le_refl _) _
 have hc5' := cell_below hc5 b1
 have oD1 := oD.alloc (.map #[] 0)
 go_enter Tryz.func112, Tryz.ntmps112
 go_wp2_with (first
  | (at_range; refine wpList_range_own _ rfl _ 100 rfl 9 _ keyT Tryz.underlying100 _ bn m _ rfl oD1 ?_; intro w1 hrg0 hg0 hs0)
  | go_in)
 go_frame
 have hz1 : (w.alloc (.map #[] 0)).heap.size = w.heap.size + 1 := by simp
 have hb1 : Below w.heap.size w w1 := Below.step b1 (grown_below hg0)
 have o0 : w1.ownsMap Tryz.prog 23 (unitElem (H := Unit)) w.heap.size 0 (.map []) := (World.ownsMap_made w _ _ _).kept hg0 (by simp)
 rw [hz1] at hrg0 ⊢
 have HZ1 := hide hz1
 clear hmm hc5' hz1
 go_loopw [5] (fun _ wr => ∃ (left : Lit → Bool) (cnt k : Nat) (E : DataW Unit) (s : List Int), wr.ranges Tryz.prog 9 ptrElem bn (w.heap.size + 1) m D left cnt ∧ k + cnt * 2097153 ≤ m * 2097153 ∧ wr.ownsMap Tryz.prog 23 unitElem w.heap.size k E ∧ Hid (SetTo E s ∧ ∀ i, i ∈ s ↔ ∃ nd ∈ ns, left (litS nd.path) = false ∧ Named nd i) ∧ Below w.heap.size w wr) (fun _ wr => wr.rangeLeft bn (w.heap.size + 1))
 case atStart =>
  refine ⟨_, _, 0, _, [], hrg0, ?_, o0, ⟨SetTo.nil, fun i => ?_⟩, hb1⟩
  ·have := oD.size_le
   omega
  ·constructor
   ·intro h; cases h
   ·rintro ⟨nd, hnd, hl, _⟩
    exfalso
    obtain ⟨i, hi⟩ := List.getElem?_of_mem hnd
    obtain ⟨g1, h1, u1, q1, q2, q3⟩ := (unhide hst).nod.at hi
    have : Maps.has D (litS nd.path) = true := ((unhide MD).hs _).2 ⟨(litS nd.path, g1), by
     rw [List.mem_iff_getElem?]
     refine ⟨i, ?_⟩
     rw [List.getElem?_zipWith, hi, q1], rfl⟩
    rw [this] at hl
    cases hl
 case round =>
  obtain ⟨left, cnt, k, E, s, hrg, hkc, hown, hset, hbr⟩ := hrel
  go_wp2_with (first
   | (at_next; refine wpList_next_ptr _ rfl _ rfl 9 keyT (fun s : ByteArray => .string s) invT bn (w.heap.size + 1) m _ _ (unhide MD) _ _ (by first | rfl | (rw [← unhide HZ1]; rfl)) hrg ?_ ?_)
   | go_in)
  ·intro _ hl0
   have hs1 : Hid (∀ i, i ∈ s ↔ ∃ nd ∈ ns, Named nd i) := fun i => by
    rw [(unhide hset).2 i]
    constructor
    ·rintro ⟨nd, h1, _, h2⟩
     exact ⟨nd, h1, h2⟩
    ·rintro ⟨nd, h1, h2⟩
     exact ⟨nd, h1, hl0 _, h2⟩
   have hs2 := hide (unhide hset).1
   have hc4 := cell_below (unhide HC4) hbr
   have oS1 := (unhide OS).kept (grown_of_below hbr none) (by simp)
   obtain ⟨Y, eY⟩ : ∃ Y, Y = wr := ⟨_, rfl⟩
   subst eY
   clear hset hkc hrg hl0
   go_wp2_with (first
    | (at_range; refine wpList_range_own _ rfl _ 99 rfl 23 _ keyU Tryz.underlying99 _ bs n _ rfl oS1 ?_; intro w3 hrg3 hg3 hs3)
    | go_in)
   go_frame
   have hown3 := hown.kept hg3 (by simp)
   have hb3 : Below w.heap.size w w3 := below_of_grown hbr hg3 hbr.size (fun j hj => by cases hj)
   have hr2 : w.heap.size < Y.heap.size := hown.lt
   clear hc4 hg3
   go_loopw [6] (fun _ wr => ∃ (left : Lit → Bool) (cnt : Nat) (E : DataW Unit) (s' : List Int), wr.ranges Tryz.prog 23 ptrElem bs Y.heap.size n Ds left cnt ∧ wr.ownsMap Tryz.prog 23 unitElem w.heap.size k E ∧ Hid (SetTo E s' ∧ ∀ i, i ∈ s' ↔ i ∈ s ∧ ¬ ∃ z ∈ ss, z.1 = i ∧ left (.int .u64 i) = false) ∧ Below w.heap.size w wr) (fun _ wr => wr.rangeLeft bs Y.heap.size)
   case atStart =>
    refine ⟨_, _, E, s, hrg3, hown3, ⟨unhide hs2, fun i => ?_⟩, hb3⟩
    constructor
    ·intro hi
     refine ⟨hi, ?_⟩
     rintro ⟨z, hz, rfl, hl⟩
     obtain ⟨j, hj⟩ := List.getElem?_of_mem hz
     obtain ⟨gz, hgz⟩ : ∃ gz, SB[j]? = some gz := ⟨_, List.getElem?_eq_getElem (by rw [(unhide hst).ses.len]; exact (List.getElem?_eq_some_iff.1 hj).1)⟩
     have : Maps.has Ds (.int .u64 z.1) = true := ((unhide MS).hs _).2 ⟨(.int .u64 z.1, gz), by
      rw [List.mem_iff_getElem?]
      exact ⟨j, by rw [List.getElem?_zipWith, hj, hgz]⟩, rfl⟩
     rw [this] at hl
     cases hl
    ·exact fun h => h.1
   case round =>
    obtain ⟨left, cnt, E1, s', hrg, hown1, hset, hbr⟩ := hrel
    go_wp2_with (first
     | (at_next; refine wpList_next_ptr _ rfl _ rfl 23 keyU (fun i : Int => .int .u64 i) invU bs Y.heap.size n _ _ (unhide MS) _ _ rfl hrg ?_ ?_)
     | go_in)
    ·intro _ hl0
     have HS := unhide hset
     clear hset
     go_wp2
     go_ret
     refine ⟨w.heap.size, k, E1, s', rfl, hown1, HS.1, fun i => ?_, hbr⟩
     rw [HS.2 i, unhide hs1 i]
     constructor
     ·rintro ⟨h1, h2⟩
      exact ⟨h1, fun ⟨z, hz, e⟩ => h2 ⟨z, hz, e, hl0 _⟩⟩
     ·rintro ⟨h1, h2⟩
      exact ⟨h1, fun ⟨z, hz, e, _⟩ => h2 ⟨z, hz, e⟩⟩
    ·intro i0 pl g1 w4 cnt1 hkey hp hlp hrg1 hlt hg1 hs1' hen
     obtain ⟨j, z, g1', hj, hgj, ee⟩ := zip_mem hp
     simp only [Prod.mk.injEq] at ee
     obtain ⟨rfl, rfl⟩ := ee
     obtain ⟨i1, e1, e2, hwx⟩ := keyOf_int_inv Tryz.underlying23 hkey
     simp only [Value.int.injEq, true_and] at e1
     simp only [Lit.int.injEq, true_and] at e2
     subst e1
     subst e2
     have hb4 : Below w.heap.size w w4 := below_of_grown hbr hg1 hbr.size (fun j hj => by cases hj; omega)
     have hown4 := hown1.kept hg1 (by simp; omega)
     have hen' : (Instr.entry (.pointer (some ⟨Y.heap.size, 0, none⟩))).run Tryz.prog w4 = .ok (.tuple #[.int .u64 z.1, .pointer (some ⟨g1, 0, none⟩)]) w4 := hen
     have HSET : Hid (SetTo (E1.del (.int .u64 z.1)) (s'.filter fun j => decide (j ≠ z.1)) ∧ ∀ i, i ∈ (s'.filter fun j => decide (j ≠ z.1)) ↔ i ∈ s ∧ ¬ ∃ y ∈ ss, y.1 = i ∧ (fun q => left q && !q.sameKey (.int .u64 z.1)) (.int .u64 i) = false) := by
      refine ⟨(unhide hset).1.del z.1, fun i => ?_⟩
      rw [List.mem_filter, (unhide hset).2 i]
      have hk : ((Lit.int .u64 i).sameKey (.int .u64 z.1) = true) ↔ i = z.1 := by
       rw [WideAt.sameKey_iff (by trivial)]
       simp
      by_cases ei : i = z.1
      ·subst ei
       simp only [ne_eq, not_true_eq_false, decide_false, Bool.false_eq_true, and_false, false_iff]
       rintro ⟨_, h2⟩
       exact h2 ⟨z, List.mem_of_getElem? hj, rfl, by simp [hk.2 rfl]⟩
      ·simp [ei, show (Lit.int .u64 i).sameKey (.int .u64 z.1) = false by (rw [Bool.eq_false_iff]; exact fun h => ei (hk.1 h))]
     clear hkey hp hj hgj hset hen
     go_wp2_with (first
      | (at_delete; refine wpList_delete_own _ rfl _ _ 135 23 rfl _ keyU Tryz.underlying135 unitElem w.heap.size k _ rfl hown4 _ _ rfl (keyOf_int_mk Tryz.underlying23 hwx) ?_; intro w5 hown5 hturn5; go_frame)
      | go_in)
     have hg5 := hturn5.grown
     have hb5 : Below w.heap.size w w5 := below_of_grown hb4 hg5 hb4.size (fun j hj => by cases hj; exact Nat.le_refl _)
     have hrg5 := hrg1.kept hg5 (by have := (unhide OS).lt; simp; omega) (by simp; omega)
     go_roundw
     case rel => exact ⟨_, cnt1, _, _, hrg5, hown5, HSET, hb5⟩
     case measure => rw [hrg5.left_eq, hrg.left_eq]; exact hlt
  ·intro sb pl g1 w2 cnt1 hkey hp hlp hrg1 hlt hg1 hs1 hen
   obtain ⟨i, nd, g1', hi, hgi, ee⟩ := zip_mem hp
   simp only [Prod.mk.injEq] at ee
   obtain ⟨rfl, rfl⟩ := ee
   have hb2 : Below w.heap.size w w2 := below_of_grown hbr hg1 hbr.size (fun j hj => by cases hj; omega)
   obtain rfl := keyT_val hkey
   have hnd := List.mem_of_getElem? hi
   obtain ⟨hB1, hl1, hl2⟩ := unhide hbn nd hnd
   obtain ⟨g2, h1, u1, q1, q2, q3⟩ := (unhide hst).nod.at hi
   rw [hgi] at q1
   cases q1
   obtain ⟨_, _, _, ⟨V, a4, _⟩, ⟨Dh, oh, sh⟩, ⟨Du, ou, su⟩⟩ := (unhide hst).nod.blk i nd g1 h1 u1 hi hgi q2 q3
   have hg1l : g1 < w.heap.size := heap_lt a4
   have k1 : w.cell? ⟨g1, 1, none⟩ = some (.int .u64 nd.owner) := cells_at a4 1
   have k3 : w.cell? ⟨g1, 3, none⟩ = some (.map (some h1)) := cells_at a4 3
   have k6 : w.cell? ⟨g1, 6, none⟩ = some (.map (some u1)) := cells_at a4 6
   have SH := hide sh
   have SU := hide su
   have hown2 := hown.kept hg1 (by first | (simp; done) | (simp; omega))
   have hen' : (Instr.entry (.pointer (some ⟨w.heap.size + 1, 0, none⟩))).run Tryz.prog w2 = .ok (.tuple #[.string (bstr nd.path), .pointer (some ⟨g1, 0, none⟩)]) w2 := hen
   have FIN : ∀ i : Int, ((i ∈ s ∨ (nd.owner ≠ 0 ∧ i = nd.owner)) ∨ i ∈ nd.holders) ∨ i ∈ nd.watchers ↔ ∃ nd' ∈ ns, (fun z => left z && !z.sameKey (litS nd.path)) (litS nd'.path) = false ∧ Named nd' i := by
    intro i0
    rw [(unhide hset).2 i0]
    constructor
    ·rintro (((⟨nd', h1, h2, h3⟩ | h) | h) | h)
     ·exact ⟨nd', h1, by simp [h2], h3⟩
     ·exact ⟨nd, hnd, by simp [litS_same hB1 hB1], .inl h⟩
     ·exact ⟨nd, hnd, by simp [litS_same hB1 hB1], .inr (.inl h)⟩
     ·exact ⟨nd, hnd, by simp [litS_same hB1 hB1], .inr (.inr h)⟩
    ·rintro ⟨nd', h1, h2, h3⟩
     by_cases ep : nd'.path = nd.path
     ·obtain ⟨j, hj⟩ := List.getElem?_of_mem h1
      have := (unhide hst).nod.uniq hj hi ep
      subst this
      rcases h3 with h3 | h3 | h3
      ·exact .inl (.inl (.inr h3))
      ·exact .inl (.inr h3)
      ·exact .inr h3
     ·refine .inl (.inl (.inl ⟨nd', h1, ?_, h3⟩))
      simpa [litS_same (unhide hbn nd' h1).1 hB1, ep] using h2
   have hO := unhide hou nd hnd
   clear hkey hp hen
   by_cases ho : nd.owner = 0
   ·have d1 := (cell_heap (hb2.block g1 hg1l) 1).trans k1
    have d3 := (cell_heap (hb2.block g1 hg1l) 3).trans k3
    have d6 := (cell_heap (hb2.block g1 hg1l) 6).trans k6
    rw [ho] at d1
    have M3 : ∀ i, i ∈ s ↔ i ∈ s ∨ (nd.owner ≠ 0 ∧ i = nd.owner) := fun i => by simp [ho]
    have S3 := hide (unhide hset).1
    have hb3 := hb2
    have hown3 := hown2
    have hrg3 := hrg1
    obtain ⟨w3, e3⟩ : ∃ w3, w3 = w2 := ⟨_, rfl⟩
    obtain ⟨K3, eK⟩ : ∃ K3, K3 = k := ⟨_, rfl⟩
    obtain ⟨E3, eE⟩ : ∃ E3, E3 = E := ⟨_, rfl⟩
    obtain ⟨s3, eS⟩ : ∃ s3, s3 = s := ⟨_, rfl⟩
    have hK3 : K3 ≤ k + 1 := by omega
    subst e3 eK eE eS
    clear hset
    go_wp2_with fail
    refine (copyU_any w.heap.size h1 K3 nd.holders.length E3 Dh s3 nd.holders w3 hown3 (oh.kept (grown_of_below hb3 none) (by simp)) S3 SH (by have := oh.lt; omega) (by omega) hl1).mono ?_
    rintro r w4 ⟨E4, s4, rfl, hown4, hset4, hmem4, hg4⟩
    have hb4 : Below w.heap.size w w4 := below_of_grown hb3 hg4 hb3.size (fun j hj => by cases hj; exact Nat.le_refl _)
    have f6 := (cell_heap (hb4.block g1 hg1l) 6).trans k6
    have S4 := hide hset4
    clear d1 d3 d6 hset4
    go_wp2_with fail
    refine (copyU_any w.heap.size u1 _ nd.watchers.length E4 Du s4 nd.watchers w4 hown4 (ou.kept (grown_of_below hb4 none) (by simp)) S4 SU (by have := ou.lt; omega) (by omega) hl2).mono ?_
    rintro r w5 ⟨E5, s5, rfl, hown5, hset5, hmem5, hg5⟩
    have hb5 : Below w.heap.size w w5 := below_of_grown hb4 hg5 hb4.size (fun j hj => by cases hj; exact Nat.le_refl _)
    have hrg5 := (hrg3.kept hg4 (by have := oD.lt; simp; omega) (by first | (simp; done) | (simp; omega))).kept hg5 (by have := oD.lt; simp; omega) (by first | (simp; done) | (simp; omega))
    have HSET : Hid (SetTo E5 s5 ∧ ∀ i, i ∈ s5 ↔ ∃ nd' ∈ ns, (fun z => left z && !z.sameKey (litS nd.path)) (litS nd'.path) = false ∧ Named nd' i) := ⟨hset5, fun i => by
     rw [hmem5, hmem4, M3, FIN]⟩
    clear f6 hset5 hmem5 hmem4
    go_wp2
    go_roundw
    case rel => first | exact ⟨_, cnt1, hrg5, _, by omega, E5, hown5, s5, HSET, hb5⟩ | exact ⟨_, cnt1, _, E5, s5, hrg5, by omega, hown5, HSET, hb5⟩
    case measure => rw [hrg5.left_eq, hrg.left_eq]; exact hlt
   ·have ho' : (nd.owner != 0) = true := by simp [ho]
    have d1 := (cell_heap (hb2.block g1 hg1l) 1).trans k1
    have hkeyO : keyOf Tryz.prog 23 (.int .u64 nd.owner) = some (.int .u64 nd.owner) := keyOf_int_mk Tryz.underlying23 (u64_wf hO)
    have M3 : ∀ i, i ∈ s ++ [nd.owner] ↔ i ∈ s ∨ (nd.owner ≠ 0 ∧ i = nd.owner) := fun i => by simp [ho]
    have S3 := hide ((unhide hset).1.put hown.isMap nd.owner (.agg []))
    clear hset
    go_wp2_with (first
     | (at_mapUpdate; refine wpList_mapUpdate_own _ rfl _ _ _ 135 rfl 23 _ keyU Tryz.underlying135 unitElem w.heap.size k _ rfl hown2 (by unfold maxLen; omega) _ _ _ rfl rfl hkeyO (.agg []) [] unitElem_mk ?_; intro w3 hown3 hgrow3; have hb3 : Below w.heap.size w w3 := below_of_grown hb2 hgrow3 hb2.size (fun j hj => by cases hj; exact Nat.le_refl _); have d3 := (cell_heap (hb3.block g1 hg1l) 3).trans k3; have d6 := (cell_heap (hb3.block g1 hg1l) 6).trans k6)
     | fail)
    have hrg3 := hrg1.kept hgrow3 (by have := oD.lt; simp; omega) (by first | (simp; done) | (simp; omega))
    obtain ⟨K3, eK⟩ : ∃ K3, K3 = k + 1 := ⟨_, rfl⟩
    obtain ⟨E3, eE⟩ : ∃ E3, E3 = E.put (.int .u64 nd.owner) (.agg []) := ⟨_, rfl⟩
    obtain ⟨s3, eS⟩ : ∃ s3, s3 = s ++ [nd.owner] := ⟨_, rfl⟩
    have hK3 : K3 ≤ k + 1 := by omega
    rw [← eK, ← eE] at hown3
    rw [← eE, ← eS] at S3
    rw [← eS] at M3
    clear eK eE eS
    refine (copyU_any w.heap.size h1 K3 nd.holders.length E3 Dh s3 nd.holders w3 hown3 (oh.kept (grown_of_below hb3 none) (by simp)) S3 SH (by have := oh.lt; omega) (by omega) hl1).mono ?_
    rintro r w4 ⟨E4, s4, rfl, hown4, hset4, hmem4, hg4⟩
    have hb4 : Below w.heap.size w w4 := below_of_grown hb3 hg4 hb3.size (fun j hj => by cases hj; exact Nat.le_refl _)
    have f6 := (cell_heap (hb4.block g1 hg1l) 6).trans k6
    have S4 := hide hset4
    clear d1 d3 d6 hset4
    go_wp2_with fail
    refine (copyU_any w.heap.size u1 _ nd.watchers.length E4 Du s4 nd.watchers w4 hown4 (ou.kept (grown_of_below hb4 none) (by simp)) S4 SU (by have := ou.lt; omega) (by omega) hl2).mono ?_
    rintro r w5 ⟨E5, s5, rfl, hown5, hset5, hmem5, hg5⟩
    have hb5 : Below w.heap.size w w5 := below_of_grown hb4 hg5 hb4.size (fun j hj => by cases hj; exact Nat.le_refl _)
    have hrg5 := (hrg3.kept hg4 (by have := oD.lt; simp; omega) (by first | (simp; done) | (simp; omega))).kept hg5 (by have := oD.lt; simp; omega) (by first | (simp; done) | (simp; omega))
    have HSET : Hid (SetTo E5 s5 ∧ ∀ i, i ∈ s5 ↔ ∃ nd' ∈ ns, (fun z => left z && !z.sameKey (litS nd.path)) (litS nd'.path) = false ∧ Named nd' i) := ⟨hset5, fun i => by
     rw [hmem5, hmem4, M3, FIN]⟩
    clear f6 hset5 hmem5 hmem4
    go_wp2
    go_roundw
    case rel => first | exact ⟨_, cnt1, hrg5, _, by omega, E5, hown5, s5, HSET, hb5⟩ | exact ⟨_, cnt1, _, E5, s5, hrg5, by omega, hown5, HSET, hb5⟩
    case measure => rw [hrg5.left_eq, hrg.left_eq]; exact hlt
theorem ids_iff (ss : List Ses) (ids : List Int) : idsOK ss ids = true ↔ ascI ids = true ∧ ∀ i ∈ ids, live ss i = true := by
 simp only [idsOK, ascI, ascOf, List.all_eq_true, List.mem_range, idAt, Bool.and_eq_true]
 constructor
 ·intro h
  refine ⟨fun i hi => (h i hi).2, fun y hy => ?_⟩
  obtain ⟨i, hi, rfl⟩ := List.getElem_of_mem hy
  have := (h i hi).1
  rwa [List.getD_eq_getElem?_getD, List.getElem?_eq_getElem hi] at this
 ·rintro ⟨h1, h2⟩ i hi
  refine ⟨h2 _ ?_, h1 i hi⟩
  rw [List.getD_eq_getElem?_getD, List.getElem?_eq_getElem hi]
  exact List.getElem_mem hi
theorem all_idx {α : Type} (l : List α) (d : α) (f : α → Bool) : (∀ i, i < l.length → f (l.getD i d) = true) ↔ ∀ y ∈ l, f y = true := by
 constructor
 ·intro h y hy
  obtain ⟨i, hi, rfl⟩ := List.getElem_of_mem hy
  have := h i hi
  rwa [List.getD_eq_getElem?_getD, List.getElem?_eq_getElem hi] at this
 ·intro h i hi
  rw [List.getD_eq_getElem?_getD, List.getElem?_eq_getElem hi]
  exact h _ (List.getElem_mem hi)
theorem ses_iff (x : Int) (ss : List Ses) : (List.range ss.length).all (sesAt x ss) = true ↔ sesAll x ss = true := by
 simp only [sesAll, ascOf, List.all_eq_true, List.mem_range, sesAt, sesV, Bool.and_eq_true]
 constructor
 ·intro h
  exact ⟨fun i hi => ⟨(h i hi).1, (h i hi).2.1, (h i hi).2.2.2⟩, fun i hi => (h i hi).2.2.1⟩
 ·rintro ⟨h1, h2⟩ i hi
  exact ⟨(h1 i hi).1, (h1 i hi).2.1, h2 i hi, (h1 i hi).2.2⟩
theorem nod_iff (e g : Int) (ss : List Ses) (ns : List Nod) : (List.range ns.length).all (nodOK e g ss ns) = true ↔ nodAll e g ns = true ∧ ns.all (fun nd => canPar ns (parL nd.path)) = true ∧ ∀ nd ∈ ns, ∀ i, Named nd i → live ss i = true := by
 have key : ∀ k, nodOK e g ss ns k = true ↔ (nodV e g (ns.getD k nod0) = true ∧ (k == 0 || !leB (ns.getD k nod0).path (ns.getD (k - 1) nod0).path) = true) ∧ canPar ns (parL (ns.getD k nod0).path) = true ∧ (fun nd => decide (nd.owner = 0) || live ss nd.owner) (ns.getD k nod0) = true ∧ (fun nd : Nod => nd.holders.all (live ss)) (ns.getD k nod0) = true ∧ (fun nd : Nod => nd.watchers.all (live ss)) (ns.getD k nod0) = true := by
  intro k
  simp only [nodOK, nodV, Bool.and_eq_true, ids_iff, List.all_eq_true]
  have : ((ns.getD k nod0).owner == 0 || live ss (ns.getD k nod0).owner) = (decide ((ns.getD k nod0).owner = 0) || live ss (ns.getD k nod0).owner) := by
   congr 1
  rw [this]
  constructor
  ·rintro ⟨⟨a1, a2⟩, a3, a4, a5, ⟨a6, a7⟩, ⟨a8, a9⟩, a10⟩
   exact ⟨⟨⟨a1, a4, a10, a6, a8⟩, a2⟩, a3, a5, a7, a9⟩
  ·rintro ⟨⟨⟨a1, a4, a10, a6, a8⟩, a2⟩, a3, a5, a7, a9⟩
   exact ⟨⟨a1, a2⟩, a3, a4, a5, ⟨a6, a7⟩, ⟨a8, a9⟩, a10⟩
 simp only [nodAll, ascOf, List.all_eq_true, List.mem_range, Bool.and_eq_true, key]
 rw [← all_idx ns nod0]
 constructor
 ·intro h
  refine ⟨⟨fun i hi => (h i hi).1.1, fun i hi => (h i hi).1.2⟩, fun i hi => (h i hi).2.1, ?_⟩
  have h3 := (all_idx ns nod0 (fun nd => decide (nd.owner = 0) || live ss nd.owner)).1 (fun i hi => (h i hi).2.2.1)
  have h4 := (all_idx ns nod0 (fun nd : Nod => nd.holders.all (live ss))).1 (fun i hi => List.all_eq_true.2 (h i hi).2.2.2.1)
  have h5 := (all_idx ns nod0 (fun nd : Nod => nd.watchers.all (live ss))).1 (fun i hi => List.all_eq_true.2 (h i hi).2.2.2.2)
  rintro nd hnd i (⟨h1, rfl⟩ | h1 | h1)
  ·have := h3 nd hnd
   simpa [h1] using this
  ·exact List.all_eq_true.1 (h4 nd hnd) i h1
  ·exact List.all_eq_true.1 (h5 nd hnd) i h1
 ·rintro ⟨⟨h1, h2⟩, h3, h4⟩ i hi
  refine ⟨⟨h1 i hi, h2 i hi⟩, h3 i hi, ?_, ?_, ?_⟩
  ·refine (all_idx ns nod0 (fun nd => decide (nd.owner = 0) || live ss nd.owner)).2 (fun nd hnd => ?_) i hi
   by_cases ho : nd.owner = 0
   ·simp [ho]
   ·simp [ho, h4 nd hnd nd.owner (.inl ⟨ho, rfl⟩)]
  ·exact List.all_eq_true.1 ((all_idx ns nod0 (fun nd : Nod => nd.holders.all (live ss))).2 (fun nd hnd => List.all_eq_true.2 fun j hj => h4 nd hnd j (.inr (.inl hj))) i hi)
  ·exact List.all_eq_true.1 ((all_idx ns nod0 (fun nd : Nod => nd.watchers.all (live ss))).2 (fun nd hnd => List.all_eq_true.2 fun j hj => h4 nd hnd j (.inr (.inr hj))) i hi)
theorem stOK_iff (e g x t : Int) (ss : List Ses) (ns : List Nod) : stOK e g x t ss ns = true ↔ limOK e g x t ss.length ns.length = true ∧ sesAll x ss = true ∧ nodAll e g ns = true ∧ ns.all (fun nd => canPar ns (parL nd.path)) = true ∧ ∀ nd ∈ ns, ∀ i, Named nd i → live ss i = true := by
 rw [stOK, Bool.and_eq_true, Bool.and_eq_true, ses_iff, nod_iff]
 exact Iff.rfl
theorem live_iff (ss : List Ses) (i : Int) : live ss i = true ↔ ∃ z ∈ ss, z.1 = i := by
 rw [live, List.any_eq_true]
 simp
theorem bl_irrefl : ∀ a : List UInt8, Op.bytesLess a a = false
 | [] => rfl
 | x :: a => by simp [Op.bytesLess, bl_irrefl a, UInt8.lt_irrefl]
theorem bl_trans : ∀ {a b c : List UInt8}, Op.bytesLess a b = true → Op.bytesLess b c = true → Op.bytesLess a c = true
 | _, [], _, h, _ => by simp [Op.bytesLess] at h
 | _, _ :: _, [], _, h => by simp [Op.bytesLess] at h
 | [], _ :: _, _ :: _, _, _ => rfl
 | x :: a, y :: b, z :: c, h, k => by
  simp only [Op.bytesLess, Bool.or_eq_true, decide_eq_true_eq, Bool.and_eq_true, beq_iff_eq] at h k ⊢
  rcases h with h | ⟨rfl, h⟩
  ·rcases k with k | ⟨rfl, k⟩
   ·exact .inl (UInt8.lt_trans h k)
   ·exact .inl h
  ·rcases k with k | ⟨rfl, k⟩
   ·exact .inl k
   ·exact .inr ⟨rfl, bl_trans h k⟩
theorem bl_total : ∀ {a b : List UInt8}, Op.bytesLess a b = false → a ≠ b → Op.bytesLess b a = true
 | [], [], _, h => absurd rfl h
 | [], _ :: _, h, _ => by simp [Op.bytesLess] at h
 | _ :: _, [], _, _ => rfl
 | x :: a, y :: b, h, hne => by
  simp only [Op.bytesLess, Bool.or_eq_false_iff, decide_eq_false_iff_not] at h
  simp only [Op.bytesLess, Bool.or_eq_true, decide_eq_true_eq, Bool.and_eq_true, beq_iff_eq]
  by_cases hxy : x = y
  ·subst hxy
   right
   refine ⟨rfl, bl_total ?_ (fun e => hne (by rw [e]))⟩
   simpa using h.2
  ·exact .inl (UInt8.lt_of_le_of_ne (UInt8.not_lt.1 h.1) (Ne.symm hxy))
theorem asc_far {n : Nat} {lt : Nat → Nat → Bool} (h : ascOf n lt = true) (tr : ∀ i j k, lt i j = true → lt j k = true → lt i k = true) : ∀ (j i : Nat), j < n → i < j → lt i j = true := by
 have hs : ∀ j, j + 1 < n → lt j (j + 1) = true := fun j hj => by
  have := List.all_eq_true.1 h (j + 1) (List.mem_range.2 hj)
  simpa using this
 intro j
 induction j with
 | zero => intro i _ hi; omega
 | succ j ih =>
  intro i hj hi
  by_cases e : i = j
  ·subst e; exact hs i hj
  ·exact tr i j (j + 1) (ih i (by omega) (by omega)) (hs j hj)
theorem ses_apart {x : Int} {ss : List Ses} (h : sesAll x ss = true) : ∀ (i j : Nat) (s s' : Ses), ss[i]? = some s → ss[j]? = some s' → i < j → s.1 ≠ s'.1 := by
 intro i j s s' hi hj hij
 rw [sesAll, Bool.and_eq_true] at h
 have := asc_far h.2 (fun i j k h1 h2 => by simp at h1 h2 ⊢; omega) j i (List.getElem?_eq_some_iff.1 hj).1 hij
 simp only [List.getD_eq_getElem?_getD, hi, hj, Option.getD_some, decide_eq_true_eq] at this
 omega
theorem not_leB {l m : List Int} : (!leB l m) = true ↔ Op.bytesLess (bstr m).toList (bstr l).toList = true := by
 simp only [leB, Bool.not_eq_true', Bool.or_eq_false_iff, beq_eq_false_iff_ne]
 constructor
 ·rintro ⟨h1, h2⟩
  exact bl_total h1 h2
 ·intro h
  refine ⟨?_, fun e => ?_⟩
  ·rw [Bool.eq_false_iff]
   intro h2
   have := bl_trans h h2
   rw [bl_irrefl] at this
   cases this
  ·rw [e, bl_irrefl] at h
   cases h
theorem nod_apart {e g : Int} {ns : List Nod} (h : nodAll e g ns = true) : ∀ (i j : Nat) (z z' : Nod), ns[i]? = some z → ns[j]? = some z' → i < j → z.path ≠ z'.path := by
 intro i j z z' hi hj hij
 rw [nodAll, Bool.and_eq_true] at h
 have := asc_far h.2 (fun i j k h1 h2 => not_leB.2 (bl_trans (not_leB.1 h1) (not_leB.1 h2))) j i (List.getElem?_eq_some_iff.1 hj).1 hij
 simp only [List.getD_eq_getElem?_getD, hi, hj, Option.getD_some] at this
 intro e
 rw [e, not_leB, bl_irrefl] at this
 cases this
theorem ses_u64 {x : Int} {ss : List Ses} (h : sesAll x ss = true) (hx : x ≤ 4611686018427387904) : ∀ s ∈ ss, 0 ≤ s.1 ∧ s.1 < 18446744073709551616 := by
 rw [sesAll, Bool.and_eq_true, List.all_eq_true] at h
 have H := (all_idx ss (0, 0, []) (sesV x)).1 fun i hi => h.1 i (List.mem_range.2 hi)
 intro s hs
 have := H s hs
 simp only [sesV, Bool.and_eq_true, decide_eq_true_eq] at this
 omega
set_option maxHeartbeats 1600000 in
theorem implVS (e g x t : Int) (p q : Option Addr) (c n d m : Nat) (ss : List Ses) (ns : List Nod) (en : Hid (ss.length = n)) (em : Hid (ns.length = m)) (w : World) (h : RdSc w (.slice p n c) ss) (hN : RdN w (.slice q m d) ns) (hn : n ≤ 1048576) (hm : m ≤ 1048576)
  (hbs : Hid (∀ s ∈ ss, s.2.2.length ≤ 1048576 ∧ ∀ e ∈ s.2.2, Byt e.2 ∧ e.2.length ≤ 1048576))
  (hby : Hid (∀ nd ∈ ns, Byt nd.path ∧ nd.path.length ≤ 1048576 ∧ nd.value.length ≤ 1048576 ∧ nd.holders.length ≤ 1048576 ∧ nd.watchers.length ≤ 1048576))
  (hnu : Hid (∀ nd ∈ ns, (∀ i ∈ nd.holders, 0 ≤ i ∧ i < 18446744073709551616) ∧ ∀ i ∈ nd.watchers, 0 ≤ i ∧ i < 18446744073709551616))
  (hou : Hid (∀ nd ∈ ns, 0 ≤ nd.owner ∧ nd.owner < 18446744073709551616)) (hML : ML w) (B : Bool) (eB : Hid (stOK e g x t ss ns = B)) :
  Calls Tryz.prog 64 #[stV e g x t (.slice p n c) (.slice q m d)] w fun r w' => r = .returned (.bool B) ∧ Below w.heap.size w w' := by
 have HR := hide fun (w' : World) (hb : Below w.heap.size w w') => And.intro (h.below hb) (And.intro (hN.below hb) (hML.below hb))
 clear h hN hML
 have HI : Hid (B = true ↔ limOK e g x t n m = true ∧ sesAll x ss = true ∧ nodAll e g ns = true ∧ ns.all (fun nd => canPar ns (parL nd.path)) = true ∧ ∀ nd ∈ ns, ∀ i, Named nd i → live ss i = true) := by
  show _ ↔ _
  rw [← unhide eB, stOK_iff, unhide en, unhide em]
 clear eB
 obtain ⟨T1, E1⟩ : ∃ T, Hid (limOK e g x t n m = T) := ⟨_, (by show _ = _; rfl)⟩
 obtain ⟨T2, E2⟩ : ∃ T, Hid (sesAll x ss = T) := ⟨_, (by show _ = _; rfl)⟩
 obtain ⟨T3, E3⟩ : ∃ T, Hid (nodAll e g ns = T) := ⟨_, (by show _ = _; rfl)⟩
 obtain ⟨T4, E4⟩ : ∃ T, Hid (ns.all (fun nd => canPar ns (parL nd.path)) = T) := ⟨_, (by show _ = _; rfl)⟩
 obtain ⟨W, hW⟩ : ∃ W, W = (w.alloc (.cells #[.int .u64 e, .int .u64 g, .int .u64 x, .int .i64 t, .slice p n c, .slice q m d] 27)) := ⟨_, rfl⟩
 have bW : Below w.heap.size w W := by rw [hW]; exact (Below.refl _ _).alloc (Nat.le_refl _) _
 have hc6 : St6 W w.heap.size e g x t (.slice p n c) (.slice q m d) := by rw [hW]; simp [St6]
 have HC6 := hide hc6
 go_enter Tryz.func64, Tryz.ntmps64
 go_wp2_with fail
 rw [← hW]
 clear hW hc6
 refine (limits_any e g x t p q c n d m _ hn hm T1 E1).mono ?_
 rintro r w1 ⟨rfl, hb1⟩
 have b1 := Below.step bW hb1
 cases T1 with
 | false =>
  have eF : B = false := by rw [Bool.eq_false_iff]; intro hB; have := ((unhide HI).1 hB).1; rw [unhide E1] at this; cases this
  subst eF
  go_wp2
  go_ret
  exact ⟨rfl, b1⟩
 | true =>
  obtain ⟨i0, i1, i2, i3, i4, i5⟩ := (unhide HC6).below hb1
  go_wp2_with fail
  refine (validSessions_any e g x t p c n _ ss en _ (unhide HR _ b1).1 hn hbs (unhide HR _ b1).2.2 T2 E2).mono ?_
  rintro r w2 ⟨rfl, hb2⟩
  have b2 := Below.step b1 hb2
  cases T2 with
  | false =>
   have eF : B = false := by rw [Bool.eq_false_iff]; intro hB; have := ((unhide HI).1 hB).2.1; rw [unhide E2] at this; cases this
   subst eF
   clear i0 i1 i2 i3 i4 i5
   go_wp2
   go_ret
   exact ⟨rfl, b2⟩
  | true =>
   replace i0 := cell_below i0 hb2
   replace i1 := cell_below i1 hb2
   replace i2 := cell_below i2 hb2
   replace i3 := cell_below i3 hb2
   replace i4 := cell_below i4 hb2
   replace i5 := cell_below i5 hb2
   go_wp2_with fail
   refine (validNodes_any e g x t _ q d m ns em _ (unhide HR _ b2).2.1 hm hby (unhide HR _ b2).2.2 T3 E3).mono ?_
   rintro r w3 ⟨rfl, hb3⟩
   have b3 := Below.step b2 hb3
   cases T3 with
   | false =>
    have eF : B = false := by rw [Bool.eq_false_iff]; intro hB; have := ((unhide HI).1 hB).2.2.1; rw [unhide E3] at this; cases this
    subst eF
    clear i0 i1 i2 i3 i4 i5
    go_wp2
    go_ret
    exact ⟨rfl, b3⟩
   | true =>
    replace i0 := cell_below i0 hb3
    replace i1 := cell_below i1 hb3
    replace i2 := cell_below i2 hb3
    replace i3 := cell_below i3 hb3
    replace i4 := cell_below i4 hb3
    replace i5 := cell_below i5 hb3
    have hx : x ≤ 4611686018427387904 := by have := unhide E1; simp only [limOK, decide_eq_true_eq] at this; exact this.2.2.1
    have H1 := hide (ses_u64 (unhide E2) hx)
    have H2 := hide (ses_apart (unhide E2))
    have H3 := hide (nod_apart (unhide E3))
    clear hx
    go_wp2_with fail
    refine (storeOf_any e g x t p q c n d m ss ns en em _ (unhide HR _ b3).1 (unhide HR _ b3).2.1 hn hm H1 H2 hby hnu H3).mono ?_
    rintro r w4 ⟨b, bs, bn, SB, NB, HB, UB, rfl, hst, hb4⟩
    have b4 := Below.step b3 hb4
    have HST := hide hst
    clear hst hb4 i0 i1 i2 i3 i4 i5
    go_wp2_with fail
    refine (hasAll_any _ HST (fun nd hnd => ⟨(unhide hby nd hnd).1, (unhide hby nd hnd).2.1⟩) T4 E4).mono ?_
    rintro r w5 ⟨rfl, hb5⟩
    have b5 := Below.step b4 hb5
    cases T4 with
    | false =>
     have eF : B = false := by rw [Bool.eq_false_iff]; intro hB; have := ((unhide HI).1 hB).2.2.2.1; rw [unhide E4] at this; cases this
     subst eF
     go_wp2
     go_ret
     exact ⟨rfl, b5⟩
    | true =>
     have HST5 := hide ((unhide HST).below hb5)
     go_wp2_with fail
     refine (strangers_any _ HST5 (fun nd hnd => ⟨(unhide hby nd hnd).1, (unhide hby nd hnd).2.2.2⟩) hou m em hm n en).mono ?_
     rintro r w6 ⟨nb, k, D, s, rfl, oD, sD, hs, hb6⟩
     have b6 := Below.step b5 hb6
     have hlen : ∀ ty, (Builtin.len_ #[135] ty #[.map (some nb)]).run Tryz.prog w6 = .ok (.int .i64 (Maps.size D)) w6 := fun ty => oD.len Tryz.underlying135 ty
     have hsz : Maps.size D = 0 ↔ s = [] := sD.size0 oD.isMap (fun es ee p hp => by
      obtain ⟨es', e', _, hk⟩ := oD.entries keyU
      rw [ee] at e'
      cases e'
      exact hk p hp)
     have hB : B = true ↔ s = [] := by
      rw [unhide HI]
      constructor
      ·rintro ⟨_, _, _, _, h5⟩
       apply List.eq_nil_iff_forall_not_mem.2
       intro i hi
       obtain ⟨⟨nd, hnd, hN⟩, hno⟩ := (hs i).1 hi
       exact hno ((live_iff ss i).1 (h5 nd hnd i hN))
      ·intro hs0
       refine ⟨unhide E1, unhide E2, unhide E3, unhide E4, fun nd hnd i hN => ?_⟩
       rw [live_iff]
       by_cases hh : ∃ z ∈ ss, z.1 = i
       ·exact hh
       ·have := (hs i).2 ⟨⟨nd, hnd, hN⟩, hh⟩
        rw [hs0] at this
        cases this
     have hb : ((Maps.size D : Int) == 0) = B := by
      rw [Bool.eq_iff_iff, hB, ← hsz]
      simp
     clear hsz hB sD oD hs hb6
     go_wp2
     go_ret
     exact ⟨rfl, b6⟩
end Go.Proofs.YtpbppdeleijhkaaGreatDoor
