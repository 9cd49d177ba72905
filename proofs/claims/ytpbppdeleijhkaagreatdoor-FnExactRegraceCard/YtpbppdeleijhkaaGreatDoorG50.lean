import Derived.Test.YtpbppdeleijhkaaGreatDoorXK2
import Derived.Test.YtpbppdeleijhkaaGreatDoorG49
namespace Go.Proofs.YtpbppdeleijhkaaGreatDoor
open Go.ChangeShapes Go.WideShapes Go.ChangeAt Go.RowKit Go.Maps
set_option linter.unusedVariables false
set_option linter.unusedSimpArgs false
set_option maxRecDepth 100000
def firstK {α : Type} (f : α → α) (k : Nat) (xs : List α) : List α := (xs.take k).map f ++ xs.drop k
theorem firstK_zero {α : Type} (f : α → α) (xs : List α) : firstK f 0 xs = xs := by simp [firstK]
theorem firstK_all {α : Type} (f : α → α) {k : Nat} {xs : List α} (h : xs.length ≤ k) : firstK f k xs = xs.map f := by
 rw [firstK, List.take_of_length_le h, List.drop_eq_nil_of_le h, List.append_nil]
theorem firstK_len {α : Type} (f : α → α) (k : Nat) (xs : List α) : (firstK f k xs).length = xs.length := by
 simp [firstK]
 omega
theorem firstK_at {α : Type} (f : α → α) {k : Nat} {xs : List α} {x : α} (h : xs[k]? = some x) : (firstK f k xs)[k]? = some x := by
 have hl := (List.getElem?_eq_some_iff.1 h).1
 rw [firstK, List.getElem?_append_right (by simp; omega), List.getElem?_drop, List.length_map, List.length_take, show k + (k - min k xs.length) = k by omega]
 exact h
theorem firstK_step {α : Type} (f : α → α) {k : Nat} {xs : List α} {x : α} (h : xs[k]? = some x) : (firstK f k xs).set k (f x) = firstK f (k + 1) xs := by
 have hl := (List.getElem?_eq_some_iff.1 h).1
 have hx := (List.getElem?_eq_some_iff.1 h).2
 rw [firstK, firstK, List.set_append_right _ _ (by simp; omega), List.length_map, List.length_take, show k - min k xs.length = 0 by omega, List.drop_eq_getElem_cons hl, List.set_cons_zero, List.take_add_one, h]
 simp
theorem StW.dl {B : Nat} {w : World} {g n c : Nat} {q : Option Addr} {m d : Nat} {ss : List Ses} {ns : List Nod} (h : StW B w (some ⟨g, 0, none⟩) n c q m d ss ns) {i : Nat} {s : Ses} (hs : ss[i]? = some s) (v : Int) : StW B (w.setCell ⟨g, i * 3 + 1, none⟩ (.int .i64 v)) (some ⟨g, 0, none⟩) n c q m d (ss.set i (s.1, v, s.2.2)) ns := by
 obtain ⟨h1, h2, BS, BN, LS, LN, o1, o2, b1, b2, b3, b4⟩ := h
 obtain ⟨LS', o3, hl⟩ := o1.put h1 elSe.keep hs (j := 1) (by decide) (.int .i64 v) (s.1, v, s.2.2) (fun cc l hc hel => by
  obtain ⟨p', c', rfl, q2, q3⟩ := hel
  exact ⟨l, List.Sublist.refl _, p', c', rfl, q2, q3⟩)
 have hg : g < BN := b3 g rfl
 have hk : ∀ z, BN ≤ z → (w.setCell ⟨g, i * 3 + 1, none⟩ (.int .i64 v)).heap[z]? = w.heap[z]? := fun z hz => RowKit.Below.heap_setCell _ _ _ _ (by simp; omega)
 exact ⟨by rw [List.length_set]; exact h1, h2, BS, BN, LS', LN, o3, o2.keep (elNo.keep _ _) (by simp) (fun z hz => hk z (o2.lt.1 z hz).1) (fun a ha => hk _ (o2.lt.2 a ha).1), b1, b2, b3, fun a ha => b4 a (hl a ha)⟩
theorem StW.qn {B : Nat} {w : World} {g n c : Nat} {q : Option Addr} {m d : Nat} {ss : List Ses} {ns : List Nod} (h : StW B w (some ⟨g, 0, none⟩) n c q m d ss ns) {i : Nat} {s : Ses} (hs : ss[i]? = some s) : StW B (w.setCell ⟨g, i * 3 + 2, none⟩ (.slice none 0 0)) (some ⟨g, 0, none⟩) n c q m d (ss.set i (s.1, s.2.1, [])) ns := by
 obtain ⟨h1, h2, BS, BN, LS, LN, o1, o2, b1, b2, b3, b4⟩ := h
 obtain ⟨LS', o3, hl⟩ := o1.put h1 elSe.keep hs (j := 2) (by decide) (.slice none 0 0) (s.1, s.2.1, []) (fun cc l hc hel => by
  obtain ⟨p', c', rfl, q2, q3⟩ := hel
  exact ⟨[], List.nil_sublist _, none, 0, rfl, ⟨none, 0, rfl, .inl rfl⟩, ⟨none, 0, [], rfl, rfl, rfl, .inl rfl⟩⟩)
 have hg : g < BN := b3 g rfl
 have hk : ∀ z, BN ≤ z → (w.setCell ⟨g, i * 3 + 2, none⟩ (.slice none 0 0)).heap[z]? = w.heap[z]? := fun z hz => RowKit.Below.heap_setCell _ _ _ _ (by simp; omega)
 exact ⟨by rw [List.length_set]; exact h1, h2, BS, BN, LS', LN, o3, o2.keep (elNo.keep _ _) (by simp) (fun z hz => hk z (o2.lt.1 z hz).1) (fun a ha => hk _ (o2.lt.2 a ha).1), b1, b2, b3, fun a ha => b4 a (hl a ha)⟩
theorem StW.wn {B : Nat} {w : World} {p : Option Addr} {g n c m d : Nat} {ss : List Ses} {ns : List Nod} (h : StW B w p n c (some ⟨g, 0, none⟩) m d ss ns) {i : Nat} {nd : Nod} (hs : ns[i]? = some nd) : StW B (w.setCell ⟨g, i * 8 + 7, none⟩ (.slice none 0 0)) p n c (some ⟨g, 0, none⟩) m d ss (ns.set i (nodF nd)) := by
 obtain ⟨h1, h2, BS, BN, LS, LN, o1, o2, b1, b2, b3, b4⟩ := h
 obtain ⟨LN', o3, hl⟩ := o2.put h2 elNo.keep hs (j := 7) (by decide) (.slice none 0 0) (nodF nd) (fun cc l hc hel => by
  obtain ⟨p0, c0, p1, c1, p4, c4, p7, c7, l0, l1, l4, l7, rfl, rfl, ⟨h3, h4, h5⟩, ⟨h6, h7⟩, ⟨h8, h9⟩, ⟨h10, h11⟩⟩ := hel
  refine ⟨l0 ++ (l1 ++ (l4 ++ [])), ?_, p0, c0, p1, c1, p4, c4, none, 0, l0, l1, l4, [], rfl, rfl, ⟨h3, h4, h5⟩, ⟨h6, h7⟩, ⟨h8, h9⟩, ⟨?_, ?_⟩⟩
  ·exact (List.Sublist.refl _).append ((List.Sublist.refl _).append ((List.Sublist.refl _).append (List.nil_sublist _)))
  ·exact ⟨none, 0, rfl, .inl rfl⟩
  ·exact ⟨none, 0, [], rfl, rfl, rfl, .inl rfl⟩)
 have hg : BN ≤ g := (o2.lt.1 g rfl).1
 have hk : ∀ z, z < BN → (w.setCell ⟨g, i * 8 + 7, none⟩ (.slice none 0 0)).heap[z]? = w.heap[z]? := fun z hz => RowKit.Below.heap_setCell _ _ _ _ (by simp; omega)
 exact ⟨h1, by rw [List.length_set]; exact h2, BS, BN, LS, LN', o1.keep (elSe.keep _ _) (by simp) (fun z hz => hk z (b3 z hz)) (fun a ha => hk _ (b4 a ha)), o3, b1, b2, b3, b4⟩
theorem StW.below {B : Nat} {w w' : World} {p q : Option Addr} {n c m d : Nat} {ss : List Ses} {ns : List Nod} (h : StW B w p n c q m d ss ns) (hz : w.heap.size ≤ w'.heap.size) (hk : ∀ z, B ≤ z → z < w.heap.size → w'.heap[z]? = w.heap[z]?) : StW B w' p n c q m d ss ns := by
 obtain ⟨h1, h2, BS, BN, LS, LN, o1, o2, b1, b2, b3, b4⟩ := h
 have l1 := o1.lt
 have l2 := o2.lt
 exact ⟨h1, h2, BS, BN, LS, LN, o1.keep (elSe.keep _ _) hz (fun z h => hk z (by have := (l1.1 z h).1; omega) (l1.1 z h).2) (fun a h => hk _ (by have := (l1.2 a h).1; omega) (l1.2 a h).2), o2.keep (elNo.keep _ _) hz (fun z h => hk z (by have := (l2.1 z h).1; omega) (l2.1 z h).2) (fun a h => hk _ (by have := (l2.2 a h).1; omega) (l2.2 a h).2), b1, b2, b3, b4⟩
theorem StW.mono {B B' : Nat} {w : World} {p q : Option Addr} {n c m d : Nat} {ss : List Ses} {ns : List Nod} (h : StW B w p n c q m d ss ns) (hB : B' ≤ B) : StW B' w p n c q m d ss ns := by
 obtain ⟨h1, h2, BS, BN, LS, LN, o1, o2, b1, b2, b3, b4⟩ := h
 exact ⟨h1, h2, BS, BN, LS, LN, o1, o2, Nat.le_trans hB b1, b2, b3, b4⟩
theorem StW.sesAt {B : Nat} {w : World} {p q : Option Addr} {n c m d : Nat} {ss : List Ses} {ns : List Nod} (h : StW B w p n c q m d ss ns) {i : Nat} (hi : i < n) : ∃ g, p = some ⟨g, 0, none⟩ ∧ B ≤ g ∧ g < w.heap.size ∧ n ≤ c ∧ (∃ u, w.cell? ⟨g, i * 3 + 1, none⟩ = some u) ∧ (∃ u, w.cell? ⟨g, i * 3 + 2, none⟩ = some u) ∧ ∀ o, w.frozen? ⟨g, o, none⟩ = false := by
 obtain ⟨h1, h2, BS, BN, LS, LN, o1, o2, b1, b2, b3, b4⟩ := h
 obtain ⟨g, rfl, hg, hg', hc⟩ := o1.ptr h1 (by omega)
 exact ⟨g, rfl, by omega, hg', hc, (o1.cell h1 hi (j := 1) (by decide)).1, (o1.cell h1 hi (j := 2) (by decide)).1, (o1.cell h1 hi (j := 2) (by decide)).2⟩
theorem StW.nodAt {B : Nat} {w : World} {p q : Option Addr} {n c m d : Nat} {ss : List Ses} {ns : List Nod} (h : StW B w p n c q m d ss ns) {i : Nat} (hi : i < m) : ∃ g, q = some ⟨g, 0, none⟩ ∧ B ≤ g ∧ g < w.heap.size ∧ m ≤ d ∧ (∃ u, w.cell? ⟨g, i * 8 + 7, none⟩ = some u) ∧ ∀ o, w.frozen? ⟨g, o, none⟩ = false := by
 obtain ⟨h1, h2, BS, BN, LS, LN, o1, o2, b1, b2, b3, b4⟩ := h
 obtain ⟨g, rfl, hg, hg', hc⟩ := o2.ptr h2 (by omega)
 exact ⟨g, rfl, by omega, hg', hc, (o2.cell h2 hi (j := 7) (by decide)).1, (o2.cell h2 hi (j := 7) (by decide)).2⟩
set_option maxHeartbeats 3200000 in
theorem durable_any (e g x t : Int) (p q : Option Addr) (c n d m : Nat) (ss : List Ses) (ns : List Nod) (en : Hid (ss.length = n)) (em : Hid (ns.length = m)) (w : World) (h : RdS w (.slice p n c) ss) (hN : RdN w (.slice q m d) ns) (hn : n ≤ 1048576) (hm : m ≤ 1048576)
  (hbs : Hid (∀ s ∈ ss, s.2.2.length ≤ 1048576 ∧ ∀ e ∈ s.2.2, Byt e.2 ∧ e.2.length ≤ 1048576)) (hby : Hid (∀ nd ∈ ns, Byt nd.path ∧ nd.path.length ≤ 1048576 ∧ nd.value.length ≤ 1048576 ∧ nd.holders.length ≤ 1048576 ∧ nd.watchers.length ≤ 1048576)) :
  Calls Tryz.prog 124 #[stV e g x t (.slice p n c) (.slice q m d)] w fun r w' => ∃ p' c' q' d', r = .returned (stV e g x 0 (.slice p' n c') (.slice q' m d')) ∧ StW w.heap.size w' p' n c' q' m d' (ss.map sesF) (ns.map nodF) ∧ Below w.heap.size w w' := by
 have HR := hide fun (w' : World) (hb : Below w.heap.size w w') => And.intro (h.below hb) (hN.below hb)
 clear h hN
 go_enter Tryz.func124, Tryz.ntmps124
 go_wp2_with fail
 obtain ⟨W, hW⟩ : ∃ W, W = (w.alloc (.cells #[.int .u64 e, .int .u64 g, .int .u64 x, .int .i64 t, .slice p n c, .slice q m d] 27)) := ⟨_, rfl⟩
 have bW : Below w.heap.size w W := by rw [hW]; exact (Below.refl _ _).alloc (Nat.le_refl _) _
 obtain ⟨W2, hW2⟩ : ∃ W2, W2 = (W.alloc (.cells #[.int .u64 0, .int .u64 0, .int .u64 0, .int .i64 0, .slice none 0 0, .slice none 0 0] 27)) := ⟨_, rfl⟩
 have zW : W.heap.size = w.heap.size + 1 := by rw [hW]; simp
 have bW2 : Below W.heap.size W W2 := by rw [hW2]; exact (Below.refl _ _).alloc (Nat.le_refl _) _
 have hR3 : CellsAre W2 (w.heap.size + 1) [.int .u64 0, .int .u64 0, .int .u64 0, .int .i64 0, .slice none 0 0, .slice none 0 0] := by
  rw [hW2, show w.heap.size + 1 = W.heap.size by omega]; exact CellsAre.alloc W #[.int .u64 0, .int .u64 0, .int .u64 0, .int .i64 0, .slice none 0 0, .slice none 0 0] _
 have zW2 : W2.heap.size = w.heap.size + 2 := by rw [hW2]; simp; omega
 rw [← hW, ← hW2]
 have b2 := Below.step bW bW2
 have R2 := hide hR3
 clear hW hW2 bW hR3 bW2 zW
 refine (l3copy_w e g x t p q c n d m ss ns en em _ (unhide HR _ b2).1 (unhide HR _ b2).2 hn hm hbs hby).mono ?_
 rintro r w4 ⟨ps, cs, pn, cn, rfl, f4, hb4⟩
 have b4 := Below.step b2 hb4
 have z4 := hb4.size
 have R4 := hide ((unhide R2).below (by omega) hb4)
 have F4 := hide (f4.mono (B' := w.heap.size + 2) (by omega))
 clear f4 hb4 R2
 go_wp2
 obtain ⟨Y, hY⟩ : ∃ Y, Y = (w4.alloc (.cells #[.int .u64 e, .int .u64 g, .int .u64 x, .int .i64 0, .slice ps n cs, .slice pn m cn] 27)) := ⟨_, rfl⟩
 have bY : Below w4.heap.size w4 Y := by rw [hY]; exact (Below.refl _ _).alloc (Nat.le_refl _) _
 have zY : Y.heap.size = w4.heap.size + 1 := by rw [hY]; simp
 have cY : CellsAre Y w4.heap.size [.int .u64 e, .int .u64 g, .int .u64 x, .int .i64 0, .slice ps n cs, .slice pn m cn] := by rw [hY]; exact CellsAre.alloc w4 #[.int .u64 e, .int .u64 g, .int .u64 x, .int .i64 0, .slice ps n cs, .slice pn m cn] _
 have rY := (unhide R4).below (by omega) bY
 have fY := (unhide F4).below (w' := Y) (by omega) (fun z _ hz => bY.block z hz)
 have b5 := Below.step b4 bY
 rw [← hY]
 obtain ⟨sb, hsb⟩ : ∃ s, s = w4.heap.size := ⟨_, rfl⟩
 have hgs : ∀ gg, ps = some ⟨gg, 0, none⟩ → gg < sb := fun gg e => by
  obtain ⟨-, -, BS, BN, LS, LN, o1, -⟩ := unhide F4
  subst e
  rw [hsb]
  exact (o1.lt.1 gg rfl).2
 have hgn : ∀ gg, pn = some ⟨gg, 0, none⟩ → gg < sb := fun gg e => by
  obtain ⟨-, -, BS, BN, LS, LN, -, o1, -⟩ := unhide F4
  subst e
  rw [hsb]
  exact (o1.lt.1 gg rfl).2
 have HG := hide (And.intro hgs hgn)
 rw [← hsb] at cY ⊢
 have INV := hide (And.intro cY (And.intro rY fY))
 have zz : w.heap.size + 2 ≤ sb := by omega
 have zz' : sb < Y.heap.size := by omega
 clear hY bY cY rY fY F4 R4 hgs hgn hsb b4 z4 zW2 b2
 go_loopw [4] (fun iv wr => ∃ (k : Nat), k ≤ n ∧ iv = .int .i64 k ∧ Hid (CellsAre wr sb [.int .u64 e, .int .u64 g, .int .u64 x, .int .i64 0, .slice ps n cs, .slice pn m cn] ∧ CellsAre wr (w.heap.size + 1) [.int .u64 0, .int .u64 0, .int .u64 0, .int .i64 0, .slice none 0 0, .slice none 0 0] ∧ StW (w.heap.size + 2) wr ps n cs pn m cn (firstK sesF k ss) ns) ∧ sb < wr.heap.size ∧ Below w.heap.size w wr) (fun iv _ => n - (intOf iv).toNat)
 case atStart => exact ⟨0, Nat.zero_le _, rfl, ⟨(unhide INV).1, (unhide INV).2.1, by rw [firstK_zero]; exact (unhide INV).2.2⟩, zz', b5⟩
 case round =>
  obtain ⟨k, hk, rfl, hin, hsz, hbr⟩ := hrel
  obtain ⟨hC, hR, hF⟩ := unhide hin
  have c4 := hC.1 4 _ rfl
  by_cases hlt : k < n
  ·have hlt' : (k : Int) < (n : Int) := by omega
   obtain ⟨s, hs⟩ : ∃ s, ss[k]? = some s := ⟨_, List.getElem?_eq_getElem (by rw [unhide en]; exact hlt)⟩
   obtain ⟨gg, rfl, hg1, hg2, hcap, ⟨u1, hu1⟩, ⟨u2, hu2⟩, hf⟩ := hF.sesAt hlt
   have hgsb := (unhide HG).1 gg rfl
   have n1 : ¬ gg = sb := by omega
   have n2 : ¬ sb = gg := by omega
   have wk : IntKind.i64.wrap ((k : Int) + 1) = ((k + 1 : Nat) : Int) := by rw [IntWalk.i64_in _ (by omega)]; omega
   have HF := hide hF
   have HC := hide hC
   have HR' := hide hR
   clear hF hC hR hin
   go_wp2
   have hF2 := ((unhide HF).dl (firstK_at sesF hs) 0).qn (i := k) (s := (s.1, 0, s.2.2)) (by rw [List.getElem?_set, if_pos rfl, if_pos (by rw [firstK_len, unhide en]; exact hlt)])
   rw [List.set_set, show ((s.1, 0, []) : Ses) = sesF s from rfl, firstK_step sesF hs] at hF2
   have hfar1 : ∀ (v : Value) (o : Nat), (⟨gg, o, none⟩ : Addr).block ≠ sb := fun v o => by simp; omega
   go_roundw
   case rel => exact ⟨k + 1, by omega, by simp, ⟨((unhide HC).far (by simp; omega) _).far (by simp; omega) _, ((unhide HR').far (by simp; omega) _).far (by simp; omega) _, hF2⟩, by simpa using hsz, (hbr.setCell (by simp; omega) _).setCell (by simp; omega) _⟩
   case measure => simp [intOf]; omega
  ·have hlt' : ¬ (k : Int) < (n : Int) := by omega
   have ekn : n = k := by omega
   subst ekn
   rw [firstK_all sesF (by rw [unhide en]; exact Nat.le_refl _)] at hF
   obtain ⟨Y2, eY2⟩ : ∃ Y, Y = wr := ⟨_, rfl⟩
   subst eY2
   have INV2 := hide (And.intro hC (And.intro hR hF))
   clear hC hR hF hin hk hlt INV zz' b5
   go_wp2
   go_loopw [5] (fun iv wr => ∃ (k : Nat), k ≤ m ∧ iv = .int .i64 k ∧ Hid (CellsAre wr sb [.int .u64 e, .int .u64 g, .int .u64 x, .int .i64 0, .slice ps n cs, .slice pn m cn] ∧ CellsAre wr (w.heap.size + 1) [.int .u64 0, .int .u64 0, .int .u64 0, .int .i64 0, .slice none 0 0, .slice none 0 0] ∧ StW (w.heap.size + 2) wr ps n cs pn m cn (ss.map sesF) (firstK nodF k ns)) ∧ sb < wr.heap.size ∧ Below w.heap.size w wr) (fun iv _ => m - (intOf iv).toNat)
   case atStart => exact ⟨0, Nat.zero_le _, rfl, ⟨(unhide INV2).1, (unhide INV2).2.1, by rw [firstK_zero]; exact (unhide INV2).2.2⟩, hsz, hbr⟩
   case round =>
    clear hsz hbr INV2 c4 hlt'
    obtain ⟨k, hk, rfl, hin, hsz, hbr⟩ := hrel
    obtain ⟨hC, hR, hF⟩ := unhide hin
    have c5 := hC.1 5 _ rfl
    by_cases hlt : k < m
    ·have hlt' : (k : Int) < (m : Int) := by omega
     obtain ⟨s, hs⟩ : ∃ s, ns[k]? = some s := ⟨_, List.getElem?_eq_getElem (by rw [unhide em]; exact hlt)⟩
     obtain ⟨gg, rfl, hg1, hg2, hcap, ⟨u1, hu1⟩, hf⟩ := hF.nodAt hlt
     have hgsb := (unhide HG).2 gg rfl
     have n1 : ¬ gg = sb := by omega
     have n2 : ¬ sb = gg := by omega
     have wk : IntKind.i64.wrap ((k : Int) + 1) = ((k + 1 : Nat) : Int) := by rw [IntWalk.i64_in _ (by omega)]; omega
     have HF := hide hF
     have HC := hide hC
     have HR' := hide hR
     clear hF hC hR hin
     go_wp2
     have hF2 := (unhide HF).wn (firstK_at nodF hs)
     rw [firstK_step nodF hs] at hF2
     go_roundw
     case rel => exact ⟨k + 1, by omega, by simp, ⟨(unhide HC).far (by simp; omega) _, (unhide HR').far (by simp; omega) _, hF2⟩, by simpa using hsz, hbr.setCell (by simp; omega) _⟩
     case measure => simp [intOf]; omega
    ·have hlt' : ¬ (k : Int) < (m : Int) := by omega
     have ekn : m = k := by omega
     subst ekn
     rw [firstK_all nodF (by rw [unhide em]; exact Nat.le_refl _)] at hF
     have c0 := hC.1 0 _ rfl
     have c1 := hC.1 1 _ rfl
     have c2 := hC.1 2 _ rfl
     have c3 := hC.1 3 _ rfl
     have c4 := hC.1 4 _ rfl
     have r0 := hR.1 0 _ rfl
     have r1 := hR.1 1 _ rfl
     have r2 := hR.1 2 _ rfl
     have r3 := hR.1 3 _ rfl
     have r4 := hR.1 4 _ rfl
     have r5 := hR.1 5 _ rfl
     have rf := hR.2
     have hns : ¬ w.heap.size + 1 = sb := by omega
     have hsn : ¬ sb = w.heap.size + 1 := by omega
     have HF := hide hF
     clear hF hC hR hin hk hlt
     go_wp2
     obtain ⟨Z, hZ⟩ : ∃ Z, Z = ((((((wr.setCell ⟨w.heap.size + 1, 0, none⟩ (.int .u64 e)).setCell ⟨w.heap.size + 1, 1, none⟩ (.int .u64 g)).setCell ⟨w.heap.size + 1, 2, none⟩ (.int .u64 x)).setCell ⟨w.heap.size + 1, 3, none⟩ (.int .i64 0)).setCell ⟨w.heap.size + 1, 4, none⟩ (.slice ps n cs)).setCell ⟨w.heap.size + 1, 5, none⟩ (.slice pn m cn)) := ⟨_, rfl⟩
     have hkZ : ∀ z, z ≠ w.heap.size + 1 → Z.heap[z]? = wr.heap[z]? := fun z hz => by
      rw [hZ]
      iterate 6 rw [RowKit.Below.heap_setCell _ _ _ _ hz]
     have zZ : Z.heap.size = wr.heap.size := by rw [hZ]; simp
     have hbZ : Below w.heap.size w Z := by
      rw [hZ]
      exact (((((hbr.setCell (by simp) _).setCell (by simp) _).setCell (by simp) _).setCell (by simp) _).setCell (by simp) _).setCell (by simp) _
     refine bodyPost_ret (v := stV e g x 0 (.slice ps n cs) (.slice pn m cn)) (by simp [results, Tryz.results124, go_sem, r0, r1, r2, r3, r4, r5, c0, c1, c2, c3, c4, c5]) rfl ?_
     rw [← hZ]
     exact ⟨ps, cs, pn, cn, rfl, ((unhide HF).below (by omega) (fun z hz _ => hkZ z (by omega))).mono (by omega), hbZ⟩
def sesD (k : Int) (s : Ses) : Ses := (s.1, k, s.2.2)
theorem sesD_is (k : Int) (ss : List Ses) : (ss.map sesF).map (sesD (k + 15)) = ss.map (sesG k) := by
 rw [List.map_map]
 rfl
set_option maxHeartbeats 3200000 in
theorem regr_any (e g x t K : Int) (hK : 0 ≤ K ∧ K ≤ 1000000) (p q : Option Addr) (c n d m : Nat) (ss : List Ses) (ns : List Nod) (en : Hid (ss.length = n)) (em : Hid (ns.length = m)) (w : World) (h : RdS w (.slice p n c) ss) (hN : RdN w (.slice q m d) ns) (hn : n ≤ 1048576) (hm : m ≤ 1048576)
  (hbs : Hid (∀ s ∈ ss, s.2.2.length ≤ 1048576 ∧ ∀ e ∈ s.2.2, Byt e.2 ∧ e.2.length ≤ 1048576)) (hby : Hid (∀ nd ∈ ns, Byt nd.path ∧ nd.path.length ≤ 1048576 ∧ nd.value.length ≤ 1048576 ∧ nd.holders.length ≤ 1048576 ∧ nd.watchers.length ≤ 1048576)) :
  Calls Tryz.prog 76 #[stV e g x t (.slice p n c) (.slice q m d), .int .i64 K] w fun r w' => ∃ p' c' q' d', r = .returned (stV e g x K (.slice p' n c') (.slice q' m d')) ∧ StW w.heap.size w' p' n c' q' m d' (ss.map (sesG K)) (ns.map nodF) ∧ Below w.heap.size w w' := by
 have HR := hide fun (w' : World) (hb : Below w.heap.size w w') => And.intro (h.below hb) (hN.below hb)
 clear h hN
 go_enter Tryz.func76, Tryz.ntmps76
 go_wp2_with fail
 obtain ⟨W, hW⟩ : ∃ W, W = (w.alloc (.cells #[.int .u64 e, .int .u64 g, .int .u64 x, .int .i64 t, .slice p n c, .slice q m d] 27)) := ⟨_, rfl⟩
 have bW : Below w.heap.size w W := by rw [hW]; exact (Below.refl _ _).alloc (Nat.le_refl _) _
 obtain ⟨W2, hW2⟩ : ∃ W2, W2 = (W.alloc (.cells #[.int .u64 0, .int .u64 0, .int .u64 0, .int .i64 0, .slice none 0 0, .slice none 0 0] 27)) := ⟨_, rfl⟩
 have zW : W.heap.size = w.heap.size + 1 := by rw [hW]; simp
 have bW2 : Below W.heap.size W W2 := by rw [hW2]; exact (Below.refl _ _).alloc (Nat.le_refl _) _
 have hR3 : CellsAre W2 (w.heap.size + 1) [.int .u64 0, .int .u64 0, .int .u64 0, .int .i64 0, .slice none 0 0, .slice none 0 0] := by
  rw [hW2, show w.heap.size + 1 = W.heap.size by omega]; exact CellsAre.alloc W #[.int .u64 0, .int .u64 0, .int .u64 0, .int .i64 0, .slice none 0 0, .slice none 0 0] _
 have zW2 : W2.heap.size = w.heap.size + 2 := by rw [hW2]; simp; omega
 rw [← hW, ← hW2]
 have b2 := Below.step bW bW2
 have R2 := hide hR3
 clear hW hW2 bW hR3 bW2 zW
 refine (durable_any e g x t p q c n d m ss ns en em _ (unhide HR _ b2).1 (unhide HR _ b2).2 hn hm hbs hby).mono ?_
 rintro r w4 ⟨ps, cs, pn, cn, rfl, f4, hb4⟩
 have b4 := Below.step b2 hb4
 have z4 := hb4.size
 have R4 := hide ((unhide R2).below (by omega) hb4)
 have F4 := hide (f4.mono (B' := w.heap.size + 2) (by omega))
 clear f4 hb4 R2
 have wa : IntKind.i64.wrap (K + 10) = K + 10 := IntWalk.i64_in _ (by omega)
 have wb : IntKind.i64.wrap (K + 10 + 5) = K + 15 := (IntWalk.i64_in _ (by omega)).trans (by omega)
 obtain ⟨sl, esl⟩ : ∃ sl, Hid (sl = ss.map sesF) := ⟨_, (by show _ = _; rfl)⟩
 obtain ⟨nl, enl⟩ : ∃ nl, Hid (nl = ns.map nodF) := ⟨_, (by show _ = _; rfl)⟩
 rw [← unhide esl, ← unhide enl] at F4
 have len : Hid (sl.length = n) := by show sl.length = n; rw [unhide esl, List.length_map]; exact unhide en
 go_wp2
 obtain ⟨Y, hY⟩ : ∃ Y, Y = (w4.alloc (.cells #[.int .u64 e, .int .u64 g, .int .u64 x, .int .i64 K, .slice ps n cs, .slice pn m cn] 27)) := ⟨_, rfl⟩
 have bY : Below w4.heap.size w4 Y := by rw [hY]; exact (Below.refl _ _).alloc (Nat.le_refl _) _
 have zY : Y.heap.size = w4.heap.size + 1 := by rw [hY]; simp
 have cY : CellsAre Y w4.heap.size [.int .u64 e, .int .u64 g, .int .u64 x, .int .i64 K, .slice ps n cs, .slice pn m cn] := by rw [hY]; exact CellsAre.alloc w4 #[.int .u64 e, .int .u64 g, .int .u64 x, .int .i64 K, .slice ps n cs, .slice pn m cn] _
 have rY := (unhide R4).below (by omega) bY
 have fY := (unhide F4).below (w' := Y) (by omega) (fun z _ hz => bY.block z hz)
 have b5 := Below.step b4 bY
 rw [← hY]
 obtain ⟨sb, hsb⟩ : ∃ s, s = w4.heap.size := ⟨_, rfl⟩
 have hgs : ∀ gg, ps = some ⟨gg, 0, none⟩ → gg < sb := fun gg e => by
  obtain ⟨-, -, BS, BN, LS, LN, o1, -⟩ := unhide F4
  subst e
  rw [hsb]
  exact (o1.lt.1 gg rfl).2
 have hgn : ∀ gg, pn = some ⟨gg, 0, none⟩ → gg < sb := fun gg e => by
  obtain ⟨-, -, BS, BN, LS, LN, -, o1, -⟩ := unhide F4
  subst e
  rw [hsb]
  exact (o1.lt.1 gg rfl).2
 have HG := hide (And.intro hgs hgn)
 rw [← hsb] at cY ⊢
 have INV := hide (And.intro cY (And.intro rY fY))
 have zz : w.heap.size + 2 ≤ sb := by omega
 have zz' : sb < Y.heap.size := by omega
 clear hY bY cY rY fY F4 R4 hgs hgn hsb b4 z4 zW2 b2
 go_loopw [6] (fun iv wr => ∃ (k : Nat), k ≤ n ∧ iv = .int .i64 k ∧ Hid (CellsAre wr sb [.int .u64 e, .int .u64 g, .int .u64 x, .int .i64 K, .slice ps n cs, .slice pn m cn] ∧ CellsAre wr (w.heap.size + 1) [.int .u64 0, .int .u64 0, .int .u64 0, .int .i64 0, .slice none 0 0, .slice none 0 0] ∧ StW (w.heap.size + 2) wr ps n cs pn m cn (firstK (sesD (K + 15)) k sl) nl) ∧ sb < wr.heap.size ∧ Below w.heap.size w wr) (fun iv _ => n - (intOf iv).toNat)
 case atStart => exact ⟨0, Nat.zero_le _, rfl, ⟨(unhide INV).1, (unhide INV).2.1, by rw [firstK_zero]; exact (unhide INV).2.2⟩, zz', b5⟩
 case round =>
  obtain ⟨k, hk, rfl, hin, hsz, hbr⟩ := hrel
  obtain ⟨hC, hR, hF⟩ := unhide hin
  have c4 := hC.1 4 _ rfl
  by_cases hlt : k < n
  ·have hlt' : (k : Int) < (n : Int) := by omega
   obtain ⟨s, hs⟩ : ∃ s, sl[k]? = some s := ⟨_, List.getElem?_eq_getElem (by rw [unhide len]; exact hlt)⟩
   obtain ⟨gg, rfl, hg1, hg2, hcap, ⟨u1, hu1⟩, ⟨u2, hu2⟩, hf⟩ := hF.sesAt hlt
   have hgsb := (unhide HG).1 gg rfl
   have n1 : ¬ gg = sb := by omega
   have n2 : ¬ sb = gg := by omega
   have wk : IntKind.i64.wrap ((k : Int) + 1) = ((k + 1 : Nat) : Int) := by rw [IntWalk.i64_in _ (by omega)]; omega
   have HF := hide hF
   have HC := hide hC
   have HR' := hide hR
   clear hF hC hR hin
   go_wp2
   have hF2 := (unhide HF).dl (firstK_at (sesD (K + 15)) hs) (K + 15)
   rw [show ((s.1, K + 15, s.2.2) : Ses) = sesD (K + 15) s from rfl, firstK_step (sesD (K + 15)) hs] at hF2
   go_roundw
   case rel => exact ⟨k + 1, by omega, by simp, ⟨(unhide HC).far (by simp; omega) _, (unhide HR').far (by simp; omega) _, hF2⟩, by simpa using hsz, hbr.setCell (by simp; omega) _⟩
   case measure => simp [intOf]; omega
  ·have hlt' : ¬ (k : Int) < (n : Int) := by omega
   have ekn : n = k := by omega
   subst ekn
   rw [firstK_all (sesD (K + 15)) (by rw [unhide len]; exact Nat.le_refl _), unhide esl, unhide enl, sesD_is] at hF
   have c0 := hC.1 0 _ rfl
   have c1 := hC.1 1 _ rfl
   have c2 := hC.1 2 _ rfl
   have c3 := hC.1 3 _ rfl
   have c5 := hC.1 5 _ rfl
   have r0 := hR.1 0 _ rfl
   have r1 := hR.1 1 _ rfl
   have r2 := hR.1 2 _ rfl
   have r3 := hR.1 3 _ rfl
   have r4 := hR.1 4 _ rfl
   have r5 := hR.1 5 _ rfl
   have rf := hR.2
   have hns : ¬ w.heap.size + 1 = sb := by omega
   have hsn : ¬ sb = w.heap.size + 1 := by omega
   have HF := hide hF
   clear hF hC hR hin hk hlt INV
   go_wp2
   obtain ⟨Z, hZ⟩ : ∃ Z, Z = ((((((wr.setCell ⟨w.heap.size + 1, 0, none⟩ (.int .u64 e)).setCell ⟨w.heap.size + 1, 1, none⟩ (.int .u64 g)).setCell ⟨w.heap.size + 1, 2, none⟩ (.int .u64 x)).setCell ⟨w.heap.size + 1, 3, none⟩ (.int .i64 K)).setCell ⟨w.heap.size + 1, 4, none⟩ (.slice ps n cs)).setCell ⟨w.heap.size + 1, 5, none⟩ (.slice pn m cn)) := ⟨_, rfl⟩
   have hkZ : ∀ z, z ≠ w.heap.size + 1 → Z.heap[z]? = wr.heap[z]? := fun z hz => by
    rw [hZ]
    iterate 6 rw [RowKit.Below.heap_setCell _ _ _ _ hz]
   have zZ : Z.heap.size = wr.heap.size := by rw [hZ]; simp
   have hbZ : Below w.heap.size w Z := by
    rw [hZ]
    exact (((((hbr.setCell (by simp) _).setCell (by simp) _).setCell (by simp) _).setCell (by simp) _).setCell (by simp) _).setCell (by simp) _
   refine bodyPost_ret (v := stV e g x K (.slice ps n cs) (.slice pn m cn)) (by simp [results, Tryz.results76, go_sem, r0, r1, r2, r3, r4, r5, c0, c1, c2, c3, c4, c5]) rfl ?_
   rw [← hZ]
   exact ⟨ps, cs, pn, cn, rfl, ((unhide HF).below (by omega) (fun z hz _ => hkZ z (by omega))).mono (by omega), hbZ⟩
set_option maxHeartbeats 3200000 in
theorem specReg (e g x t k : Int) (p q : Option Addr) (c n d m : Nat) (ss : List Ses) (ns : List Nod) (en : Hid (ss.length = n)) (em : Hid (ns.length = m)) (w : World) (h : RdS w (.slice p n c) ss) (hN : RdN w (.slice q m d) ns) (hn : n ≤ 1048576) (hm : m ≤ 1048576)
  (hbs : Hid (∀ s ∈ ss, s.2.2.length ≤ 1048576 ∧ ∀ e ∈ s.2.2, Byt e.2 ∧ e.2.length ≤ 1048576)) (hby : Hid (∀ nd ∈ ns, Byt nd.path ∧ nd.path.length ≤ 1048576 ∧ nd.value.length ≤ 1048576 ∧ nd.holders.length ≤ 1048576 ∧ nd.watchers.length ≤ 1048576)) (hk : -9223372036854775808 ≤ k ∧ k < 9223372036854775808) :
  Calls Tryz.prog 29 #[stV e g x t (.slice p n c) (.slice q m d), .int .i64 k] w fun r w' => StRes w.heap.size r w' (regD e g x t k ss ns) (regC e g x t k ss ns) ∧ Below w.heap.size w w' := by
 have HR := hide fun (w' : World) (hb : Below w.heap.size w w') => And.intro (h.below hb) (hN.below hb)
 clear h hN
 obtain ⟨B, eB⟩ : ∃ B, Hid (stOK e g x t ss ns = B) := ⟨_, (by show _ = _; rfl)⟩
 go_enter Tryz.func29, Tryz.ntmps29
 go_wp2_with fail
 obtain ⟨W, hW⟩ : ∃ W, W = (w.alloc (.cells #[.int .u64 e, .int .u64 g, .int .u64 x, .int .i64 t, .slice p n c, .slice q m d] 27)) := ⟨_, rfl⟩
 have bW : Below w.heap.size w W := by rw [hW]; exact (Below.refl _ _).alloc (Nat.le_refl _) _
 have hc6 : St6 W w.heap.size e g x t (.slice p n c) (.slice q m d) := by rw [hW]; simp [St6]
 obtain ⟨W2, hW2⟩ : ∃ W2, W2 = (W.alloc (.cells #[.int .u64 0, .int .u64 0, .int .u64 0, .int .i64 0, .slice none 0 0, .slice none 0 0] 27)) := ⟨_, rfl⟩
 have zW : W.heap.size = w.heap.size + 1 := by rw [hW]; simp
 have bW2 : Below W.heap.size W W2 := by rw [hW2]; exact (Below.refl _ _).alloc (Nat.le_refl _) _
 have hR3 : CellsAre W2 (w.heap.size + 1) [.int .u64 0, .int .u64 0, .int .u64 0, .int .i64 0, .slice none 0 0, .slice none 0 0] := by
  rw [hW2, show w.heap.size + 1 = W.heap.size by omega]; exact CellsAre.alloc W #[.int .u64 0, .int .u64 0, .int .u64 0, .int .i64 0, .slice none 0 0, .slice none 0 0] _
 have zW2 : W2.heap.size = w.heap.size + 2 := by rw [hW2]; simp; omega
 rw [← hW, ← hW2]
 have b2 := Below.step bW bW2
 have C2 := hide (hc6.below bW2)
 have R2 := hide hR3
 clear hW hW2 bW hc6 hR3 bW2 zW
 refine (specVS e g x t p q c n d m ss ns en em _ (unhide HR _ b2).1 (unhide HR _ b2).2 hn hm hbs hby B eB).mono ?_
 rintro r w3 ⟨rfl, hb3⟩
 have b3 := Below.step b2 hb3
 have C3 := hide ((unhide C2).below hb3)
 have R3 := hide ((unhide R2).below (by omega) hb3)
 have z3 : w.heap.size + 2 ≤ w3.heap.size := by have := hb3.size; omega
 clear hb3 b2 C2 R2 zW2
 obtain ⟨i0, i1, i2, i3, i4, i5⟩ := unhide C3
 have r0 := (unhide R3).1 0 _ rfl
 have r1 := (unhide R3).1 1 _ rfl
 have r2 := (unhide R3).1 2 _ rfl
 have r3 := (unhide R3).1 3 _ rfl
 have r4 := (unhide R3).1 4 _ rfl
 have r5 := (unhide R3).1 5 _ rfl
 have rf := (unhide R3).2
 cases B with
 | false =>
  have hD : regD e g x t k ss ns = stD0 := by unfold regD; rw [if_neg (by rw [unhide eB]; simp)]
  have hC : regC e g x t k ss ns = 1 := by unfold regC; rw [if_neg (by rw [unhide eB]; simp)]
  have HD := hide (And.intro hD hC)
  clear hD hC
  go_wp2
  obtain ⟨hD, hC⟩ := unhide HD
  refine bodyPost_ret (v := .tuple #[stV 0 0 0 0 (.slice none 0 0) (.slice none 0 0), .int .i64 1]) (by simp [results, Tryz.results29, go_sem, r0, r1, r2, r3, r4, r5]) rfl ⟨?_, ?_⟩
  ·rw [hD, hC]
   exact ⟨none, 0, none, 0, rfl, StOwn.zero _ _⟩
  ·exact (((((b3.setCell (by simp) _).setCell (by simp) _).setCell (by simp) _).setCell (by simp) _).setCell (by simp) _).setCell (by simp) _
 | true =>
  have hlim := ((stOK_iff e g x t ss ns).1 (unhide eB)).1
  have ht : 0 ≤ t ∧ t ≤ 1000000 := by simp only [limOK, decide_eq_true_eq] at hlim; omega
  by_cases hk0 : k < 0
  ·have hD : regD e g x t k ss ns = stD0 := by unfold regD; rw [if_neg (by omega)]
   have hC : regC e g x t k ss ns = 1 := by unfold regC; rw [if_neg (by omega)]
   have HD := hide (And.intro hD hC)
   clear hD hC hlim
   go_wp2
   obtain ⟨hD, hC⟩ := unhide HD
   refine bodyPost_ret (v := .tuple #[stV 0 0 0 0 (.slice none 0 0) (.slice none 0 0), .int .i64 1]) (by simp [results, Tryz.results29, go_sem, r0, r1, r2, r3, r4, r5]) rfl ⟨?_, ?_⟩
   ·rw [hD, hC]
    exact ⟨none, 0, none, 0, rfl, StOwn.zero _ _⟩
   ·exact (((((b3.setCell (by simp) _).setCell (by simp) _).setCell (by simp) _).setCell (by simp) _).setCell (by simp) _).setCell (by simp) _
  ·by_cases hk1 : 1000000 < k
   ·have hD : regD e g x t k ss ns = stD0 := by unfold regD; rw [if_neg (by omega)]
    have hC : regC e g x t k ss ns = 1 := by unfold regC; rw [if_neg (by omega)]
    have HD := hide (And.intro hD hC)
    clear hD hC hlim
    go_wp2
    obtain ⟨hD, hC⟩ := unhide HD
    refine bodyPost_ret (v := .tuple #[stV 0 0 0 0 (.slice none 0 0) (.slice none 0 0), .int .i64 1]) (by simp [results, Tryz.results29, go_sem, r0, r1, r2, r3, r4, r5]) rfl ⟨?_, ?_⟩
    ·rw [hD, hC]
     exact ⟨none, 0, none, 0, rfl, StOwn.zero _ _⟩
    ·exact (((((b3.setCell (by simp) _).setCell (by simp) _).setCell (by simp) _).setCell (by simp) _).setCell (by simp) _).setCell (by simp) _
   ·go_wp2_with fail
    refine (regr_any e g x t k ⟨by omega, by omega⟩ p q c n d m ss ns en em _ (unhide HR _ b3).1 (unhide HR _ b3).2 hn hm hbs hby).mono ?_
    rintro r w4 ⟨ps, cs, pn, cn, rfl, f4, hb4⟩
    have b4 := Below.step b3 hb4
    have F4 := hide f4.own
    have R4 := hide ((unhide R3).below (by omega) hb4)
    have z4 := hb4.size
    clear f4 hb4 i0 i1 i2 i3 i4 i5 r0 r1 r2 r3 r4 r5 rf hlim
    have r0 := (unhide R4).1 0 _ rfl
    have r1 := (unhide R4).1 1 _ rfl
    have r2 := (unhide R4).1 2 _ rfl
    have r3 := (unhide R4).1 3 _ rfl
    have r4 := (unhide R4).1 4 _ rfl
    have r5 := (unhide R4).1 5 _ rfl
    have rf := (unhide R4).2
    go_wp2
    obtain ⟨Z, hZ⟩ : ∃ Z, Z = ((((((w4.setCell ⟨w.heap.size + 1, 0, none⟩ (.int .u64 e)).setCell ⟨w.heap.size + 1, 1, none⟩ (.int .u64 g)).setCell ⟨w.heap.size + 1, 2, none⟩ (.int .u64 x)).setCell ⟨w.heap.size + 1, 3, none⟩ (.int .i64 k)).setCell ⟨w.heap.size + 1, 4, none⟩ (.slice ps n cs)).setCell ⟨w.heap.size + 1, 5, none⟩ (.slice pn m cn)) := ⟨_, rfl⟩
    have hkZ : ∀ z, z ≠ w.heap.size + 1 → Z.heap[z]? = w4.heap[z]? := fun z hz => by
     rw [hZ]
     iterate 6 rw [RowKit.Below.heap_setCell _ _ _ _ hz]
    refine bodyPost_ret (v := .tuple #[stV e g x k (.slice ps n cs) (.slice pn m cn), .int .i64 0]) (by simp [results, Tryz.results29, go_sem, r0, r1, r2, r3, r4, r5]) rfl ⟨?_, ?_⟩
    ·rw [← hZ]
     have hD : regD e g x t k ss ns = ⟨e, g, x, k, ss.map (sesG k), ns.map nodF⟩ := by unfold regD; rw [if_pos ⟨unhide eB, by omega, by omega⟩]
     have hC : regC e g x t k ss ns = 0 := by unfold regC; rw [if_pos ⟨unhide eB, by omega, by omega⟩]
     rw [hD, hC]
     have f := ((unhide F4).keep (w' := Z) (fun z hz _ => hkZ z (by omega))).mono (B' := w.heap.size) (by omega)
     have l1 : (ss.map (sesG k)).length = n := by rw [List.length_map]; exact unhide en
     have l2 : (ns.map nodF).length = m := by rw [List.length_map]; exact unhide em
     exact ⟨ps, cs, pn, cn, by simp only; rw [l1, l2], by simp only; rw [l1, l2]; exact f⟩
    ·exact (((((b4.setCell (by simp) _).setCell (by simp) _).setCell (by simp) _).setCell (by simp) _).setCell (by simp) _).setCell (by simp) _
end Go.Proofs.YtpbppdeleijhkaaGreatDoor
