import Derived.Test.YtnbgnhhnpmmloaaGreatDoorVM5
import Derived.Test.YtnbgnhhnpmmloaaGreatDoorVS8
namespace Go.Proofs.YtnbgnhhnpmmloaaGreatDoor
open Go.ChangeShapes Go.WideShapes Go.ChangeAt Go.RowKit Go.Maps
set_option linter.unusedVariables false
set_option linter.unusedSimpArgs false
set_option maxRecDepth 100000
section
variable {P : Program} (w : World) {ops : Array Oper} {rest : List Oper} {o : Oper} {a : Act} {Q : Exit → Act → World → Prop}
theorem wpList_lookup_hit (hg : o.guard = none) (m x : Operand) (t : TypeId) (hop : o.op = Op.lookup t m x true) (k e : TypeId) (K : Keyed P k) (ht : P.underlying t = some (.map k e)) (hz : (zeroValue e).run P w = .ok (.pointer none) w) (b n : Nat) (D : DataW Unit) (l : List (Lit × Nat)) (hM : MapTo D l)
  (hm : a.eval m = .map (some b)) (hown : w.ownsMap P k ptrElem b n D) (key : Value) (p : Lit × Nat) (hp : p ∈ l) (hx : a.eval x = key) (hkey : keyOf P k key = some p.1)
  (hK : wpList P ops Q rest (a.put o.dst (.tuple #[.pointer (some ⟨p.2, 0, none⟩), .bool true])) w) : wpList P ops Q (o :: rest) a w :=
 wpList_lookup_own_ok w hg m x t hop k e K ht ptrElem hz .nil [] rfl b n D hm hown key p.1 hx hkey (fun v ps hv => by
  rw [hM.at' p hp] at hv
  obtain rfl := ptrElem_inv hv
  rw [(hM.hs p.1).2 ⟨p, hp, rfl⟩]
  exact hK)
theorem wpList_lookup_miss (hg : o.guard = none) (m x : Operand) (t : TypeId) (hop : o.op = Op.lookup t m x true) (k e : TypeId) (K : Keyed P k) (ht : P.underlying t = some (.map k e)) (hz : (zeroValue e).run P w = .ok (.pointer none) w) (b n : Nat) (D : DataW Unit) (l : List (Lit × Nat)) (hM : MapTo D l)
  (hm : a.eval m = .map (some b)) (hown : w.ownsMap P k ptrElem b n D) (key : Value) (kl : Lit) (hno : ∀ p ∈ l, p.1 ≠ kl) (hx : a.eval x = key) (hkey : keyOf P k key = some kl)
  (hK : wpList P ops Q rest (a.put o.dst (.tuple #[.pointer none, .bool false])) w) : wpList P ops Q (o :: rest) a w :=
 wpList_lookup_own_ok w hg m x t hop k e K ht ptrElem hz .nil [] rfl b n D hm hown key kl hx hkey (fun v ps hv => by
  have hh : Maps.has D kl = false := by
   rw [Bool.eq_false_iff]
   intro h
   obtain ⟨p, hp, e⟩ := (hM.hs kl).1 h
   exact hno p hp e
  rw [Maps.atKey_of_not_has hh] at hv
  obtain rfl := ptrElem_nil hv
  rw [hh]
  exact hK)
end
theorem zeroNodeP (w : World) : (zeroValue 163).run Tryz.prog w = .ok (.pointer none) w := by kernel_rfl
theorem ndOf_some {ns : List Nod} {l : List Int} {nd : Nod} (h : ndOf ns l = some nd) : nd.path = l ∧ ∃ i : Nat, ns[i]? = some nd := by
 have h1 := List.find?_some h
 have h2 := List.mem_of_find?_eq_some h
 exact ⟨by simpa using h1, List.getElem?_of_mem h2⟩
theorem ndOf_none {ns : List Nod} {l : List Int} (h : ndOf ns l = none) : ∀ nd ∈ ns, nd.path ≠ l := by
 intro nd hnd e
 have := List.find?_eq_none.1 h nd hnd
 simp [e] at this
set_option maxHeartbeats 1600000 in
theorem canHave_any {w0 : World} {b bs bn : Nat} {e g x t : Int} {ss : List Ses} {ns : List Nod} {SB NB HB UB : List Nat} (l : List Int) (w : World) (hst : Hid (StoreAt w0 w b bs bn e g x t ss ns SB NB HB UB)) (hB : Hid (Byt l)) (hbn : Hid (∀ nd ∈ ns, Byt nd.path)) (hl : l.length ≤ 1048577) (B : Bool) (eB : Hid (canPar ns l = B)) :
  Calls Tryz.prog 136 #[.pointer (some ⟨b, 0, none⟩), .string (bstr l)] w fun r w' => r = .returned (.bool B) ∧ Below w.heap.size w w' := by
 have hc5 : w.cell? ⟨b, 5, none⟩ = some (.map (some bn)) := cells_at (uh hst).hd 5
 obtain ⟨D, oD, mD⟩ := (uh hst).nod.own
 have hkey : keyOf Tryz.prog 9 (.string (bstr l)) = some (litS l) := by
  rw [WideMaps.keyOf_string_mk Tryz.underlying9 (by rw [bstr_size]; unfold maxLen; omega), bstr_litS]
 have OD := hide oD
 have MD := hide mD
 have HKEY := hide hkey
 have hroot : ((bstr l).toList == (bstr [47]).toList) = decide (l = [47]) := bstr_eq (uh hB) (by intro y hy; simp at hy; omega)
 rw [show (bstr [47]).toList = [47] from bstr_list [47]] at hroot
 clear oD mD hkey
 obtain ⟨s, es⟩ : ∃ s, s = bstr l := ⟨_, rfl⟩
 rw [← es] at hroot HKEY ⊢
 clear es
 by_cases h47 : l = [47]
 ·have eT : B = true := by rw [← uh eB, canPar, if_pos h47]
  subst eT
  have hr : (s.toList == [47]) = true := by rw [hroot]; simp [h47]
  clear hroot h47
  go_enter Tryz.func136, Tryz.ntmps136
  go_wp2
  go_ret
  exact ⟨rfl, Below.refl _ _⟩
 ·have hr : (s.toList == [47]) = false := by rw [hroot]; simp [h47]
  have hB2 : (match ndOf ns l with | some nd => nd.owner == 0 | none => false) = B := by rw [← uh eB, canPar, if_neg h47]; rfl
  clear hroot h47
  cases hF : ndOf ns l with
  | none =>
   rw [hF] at hB2
   have eF : B = false := hB2.symm
   subst eF
   have hno : Hid (∀ p ∈ List.zipWith (fun (nd : Nod) g => (litS nd.path, g)) ns NB, p.1 ≠ litS l) := by
    intro p hp
    obtain ⟨i, nd, y, hx, hy, rfl⟩ := zip_mem hp
    intro ee
    have hm := List.mem_of_getElem? hx
    exact ndOf_none hF nd hm (litS_inj (uh hbn nd hm) (uh hB) ee)
   clear hF hB2
   go_enter Tryz.func136, Tryz.ntmps136
   go_wp2_with (first
    | (at_lookup; refine wpList_lookup_miss _ rfl _ _ 159 rfl 9 _ keyT Tryz.underlying159 (zeroNodeP _) bn _ D _ (uh MD) rfl (uh OD) _ (litS l) (uh hno) rfl (uh HKEY) ?_)
    | go_in)
   go_ret
   exact ⟨rfl, Below.refl _ _⟩
  | some nd =>
   rw [hF] at hB2
   replace hB2 : (nd.owner == 0) = B := hB2
   obtain ⟨hp, i, hi⟩ := ndOf_some hF
   obtain ⟨g1, h1, u1, q1, q2, q3⟩ := (uh hst).nod.at hi
   obtain ⟨_, _, _, ⟨V, a4, _⟩, _, _⟩ := (uh hst).nod.blk i nd g1 h1 u1 hi q1 q2 q3
   have hcO : w.cell? ⟨g1, 1, none⟩ = some (.int .u64 nd.owner) := cells_at a4 1
   have hmem : Hid ((litS l, g1) ∈ List.zipWith (fun (nd : Nod) g => (litS nd.path, g)) ns NB) := by
    show _ ∈ _
    rw [List.mem_iff_getElem?]
    refine ⟨i, ?_⟩
    rw [List.getElem?_zipWith, hi, q1]
    show some (litS nd.path, g1) = some (litS l, g1)
    rw [hp]
   obtain ⟨ow, eow⟩ : ∃ ow, nd.owner = ow := ⟨_, rfl⟩
   rw [eow] at hcO hB2
   clear hF hp hi q1 q2 q3 a4 eow
   cases B with
   | true =>
    have ho : ow = 0 := by simpa using hB2
    subst ho
    clear hB2
    go_enter Tryz.func136, Tryz.ntmps136
    go_wp2_with (first
     | (at_lookup; refine wpList_lookup_hit _ rfl _ _ 159 rfl 9 _ keyT Tryz.underlying159 (zeroNodeP _) bn _ D _ (uh MD) rfl (uh OD) _ (litS l, g1) (uh hmem) rfl (uh HKEY) ?_)
     | go_in)
    go_ret
    exact ⟨rfl, Below.refl _ _⟩
   | false =>
    have ho : (ow == 0) = false := hB2
    clear hB2
    go_enter Tryz.func136, Tryz.ntmps136
    go_wp2_with (first
     | (at_lookup; refine wpList_lookup_hit _ rfl _ _ 159 rfl 9 _ keyT Tryz.underlying159 (zeroNodeP _) bn _ D _ (uh MD) rfl (uh OD) _ (litS l, g1) (uh hmem) rfl (uh HKEY) ?_)
     | go_in)
    go_ret
    exact ⟨rfl, Below.refl _ _⟩
theorem invT : ∀ (key : Value) (kl : Lit), keyOf Tryz.prog 9 key = some kl → ∃ s : ByteArray, key = .string s := by
 intro key kl hk
 cases key <;> simp [keyOf, Tryz.underlying9, mapKey] at hk
 exact ⟨_, rfl⟩
theorem keyT_val {s : ByteArray} {l : List Int} (h : keyOf Tryz.prog 9 (.string s) = some (litS l)) : s = bstr l := by
 simp [keyOf, Tryz.underlying9, mapKey] at h
 exact litS_val h.2
theorem litS_same {l m : List Int} (hl : Byt l) (hm : Byt m) : (litS l).sameKey (litS m) = decide (l = m) := by
 rw [Bool.eq_iff_iff, WideAt.sameKey_iff (by trivial), decide_eq_true_iff]
 exact ⟨fun h => litS_inj hl hm h, fun h => by rw [h]⟩
set_option maxHeartbeats 1600000 in
theorem hasAll_any {w0 : World} {b bs bn : Nat} {e g x t : Int} {ss : List Ses} {ns : List Nod} {SB NB HB UB : List Nat} (w : World) (hst : Hid (StoreAt w0 w b bs bn e g x t ss ns SB NB HB UB)) (hbn : Hid (∀ nd ∈ ns, Byt nd.path ∧ nd.path.length ≤ 1048576)) (B : Bool) (eB : Hid (ns.all (fun nd => canPar ns (parL nd.path)) = B)) :
  Calls Tryz.prog 96 #[.pointer (some ⟨b, 0, none⟩)] w fun r w' => r = .returned (.bool B) ∧ Below w.heap.size w w' := by
 have hc5 : w.cell? ⟨b, 5, none⟩ = some (.map (some bn)) := cells_at (uh hst).hd 5
 obtain ⟨D, oD, mD⟩ := (uh hst).nod.own
 obtain ⟨m, em⟩ : ∃ m, ns.length = m := ⟨_, rfl⟩
 rw [em] at oD
 clear em
 have hbn' : Hid (∀ nd ∈ ns, Byt nd.path) := fun nd h => (uh hbn nd h).1
 have MD := hide mD
 clear mD
 go_enter Tryz.func96, Tryz.ntmps96
 go_wp2_with (first
  | (at_range; refine wpList_range_own _ rfl _ 159 rfl 9 _ keyT Tryz.underlying159 _ bn m _ rfl oD ?_; intro w1 hrg0 hg0 hs0)
  | go_in)
 go_frame
 go_loopw [3] (fun _ wr => ∃ (left : Lit → Bool) (cnt : Nat), wr.ranges Tryz.prog 9 ptrElem bn w.heap.size m D left cnt ∧ Hid (∀ nd ∈ ns, left (litS nd.path) = false → canPar ns (parL nd.path) = true) ∧ Below w.heap.size w wr) (fun _ wr => wr.rangeLeft bn w.heap.size)
 case atStart =>
  refine ⟨_, _, hrg0, fun nd hnd hl => ?_, grown_below hg0⟩
  exfalso
  obtain ⟨i, hi⟩ := List.getElem?_of_mem hnd
  obtain ⟨g1, h1, u1, q1, q2, q3⟩ := (uh hst).nod.at hi
  have : Maps.has D (litS nd.path) = true := ((uh MD).hs _).2 ⟨(litS nd.path, g1), by
   rw [List.mem_iff_getElem?]
   refine ⟨i, ?_⟩
   rw [List.getElem?_zipWith, hi, q1], rfl⟩
  rw [this] at hl
  cases hl
 case round =>
  obtain ⟨left, cnt, hrg, hok, hbr⟩ := hrel
  have HST := hide ((uh hst).below hbr)
  go_wp2_with (first
   | (at_next; refine wpList_next_ptr _ rfl _ rfl 9 keyT (fun s : ByteArray => .string s) invT bn w.heap.size m _ _ (uh MD) _ _ rfl hrg ?_ ?_)
   | go_in)
  ·intro _ hl0
   have eT : B = true := by
    rw [← uh eB, List.all_eq_true]
    exact fun nd hnd => uh hok nd hnd (hl0 _)
   subst eT
   go_wp2
   go_ret
   exact ⟨rfl, hbr⟩
  ·intro s pl g1 w2 cnt1 hkey hp hlp hrg1 hlt hg1 hs1 hen
   obtain ⟨i, nd, g1', hi, hgi, ee⟩ := zip_mem hp
   simp only [Prod.mk.injEq] at ee
   obtain ⟨rfl, rfl⟩ := ee
   have hb2 : Below w.heap.size w w2 := below_of_grown hbr hg1 hbr.size (fun j hj => by cases hj; exact Nat.le_refl _)
   obtain rfl := keyT_val hkey
   have hnd := List.mem_of_getElem? hi
   obtain ⟨hB1, hB2⟩ := uh hbn nd hnd
   obtain ⟨T, eT⟩ : ∃ T, canPar ns (parL nd.path) = T := ⟨_, rfl⟩
   have ET := hide eT
   have HF : Hid (T = false → B = false) := fun h => by
    rw [← uh eB, List.all_eq_false]
    exact ⟨nd, hnd, by rw [eT, h]; simp⟩
   have HT : Hid (T = true → Hid (∀ nd' ∈ ns, (fun z => left z && !z.sameKey (litS nd.path)) (litS nd'.path) = false → canPar ns (parL nd'.path) = true)) := fun h nd' hnd' hl => by
    simp only [litS_same (uh hbn nd' hnd').1 hB1] at hl
    by_cases ep : nd'.path = nd.path
    ·rw [ep, eT, h]
    ·simp [ep] at hl
     exact uh hok nd' hnd' hl
   have HB1 : Hid (Byt nd.path) := hB1
   have HB3 := hide (parL_byt hB1)
   have hpl : (parL nd.path).length ≤ 1048577 := by
    unfold parL
    split
    ·simp
    ·rw [List.length_take]; omega
   have HST2 := hide ((uh hst).below hb2)
   have hen' : (Instr.entry (.pointer (some ⟨w.heap.size, 0, none⟩))).run Tryz.prog w2 = .ok (.tuple #[.string (bstr nd.path), .pointer (some ⟨g1, 0, none⟩)]) w2 := hen
   clear hkey hp hi hgi hnd hB1 eT hen
   go_wp2_with fail
   refine (parentOf_any nd.path _ (by show _ = _; rfl) HB1 hB2 _).mono ?_
   rintro r w3 ⟨rfl, rfl⟩
   go_wp2_with fail
   refine (canHave_any (parL nd.path) _ HST2 HB3 hbn' hpl T ET).mono ?_
   rintro r w4 ⟨rfl, hb4⟩
   have b4 := Below.step hb2 hb4
   cases T with
   | false =>
    have eF := uh HF rfl
    subst eF
    clear hen'
    go_wp2
    go_ret
    exact ⟨rfl, b4⟩
   | true =>
    have HOK := uh HT rfl
    have hrg2 := hrg1.kept (grown_of_below hb4 none) (by simp) (by simp)
    clear hen'
    go_wp2
    go_roundw
    case rel => exact ⟨_, cnt1, hrg2, HOK, b4⟩
    case measure => rw [hrg2.left_eq, hrg.left_eq]; exact hlt
def Named (nd : Nod) (i : Int) : Prop := (nd.owner ≠ 0 ∧ i = nd.owner) ∨ i ∈ nd.holders ∨ i ∈ nd.watchers
theorem SetTo.del {D : DataW Unit} {s : List Int} (h : SetTo D s) (i : Int) : SetTo (D.del (.int .u64 i)) (s.filter fun j => decide (j ≠ i)) := by
 intro k'
 by_cases e : k' = .int .u64 i
 ·subst e
  rw [Maps.has_del_same]
  simp
 ·rw [Maps.has_del_other e, h k']
  constructor
  ·rintro ⟨j, hj, rfl⟩
   refine ⟨j, ?_, rfl⟩
   rw [List.mem_filter]
   exact ⟨hj, by simpa using fun hh => e (by rw [hh])⟩
  ·rintro ⟨j, hj, rfl⟩
   exact ⟨j, (List.mem_filter.1 hj).1, rfl⟩
theorem invU : ∀ (key : Value) (kl : Lit), keyOf Tryz.prog 23 key = some kl → ∃ i : Int, key = .int .u64 i := by
 intro key kl hk
 obtain ⟨x, rfl, _⟩ := keyOf_int_inv Tryz.underlying23 hk
 exact ⟨x, rfl⟩
theorem NodL.uniq {w0 w : World} {bn : Nat} {ns : List Nod} {NB HB UB : List Nat} (h : NodL w0 w bn ns NB HB UB) {i j : Nat} {nd nd' : Nod} (hi : ns[i]? = some nd) (hj : ns[j]? = some nd') (hp : nd.path = nd'.path) : nd = nd' := by
 obtain ⟨D, _, mD⟩ := h.own
 obtain ⟨g1, _, _, q1, _, _⟩ := h.at hi
 obtain ⟨g2, _, _, q2, _, _⟩ := h.at hj
 have m1 : (litS nd.path, g1) ∈ List.zipWith (fun (nd : Nod) g => (litS nd.path, g)) ns NB := by
  rw [List.mem_iff_getElem?]
  exact ⟨i, by rw [List.getElem?_zipWith, hi, q1]⟩
 have m2 : (litS nd'.path, g2) ∈ List.zipWith (fun (nd : Nod) g => (litS nd.path, g)) ns NB := by
  rw [List.mem_iff_getElem?]
  exact ⟨j, by rw [List.getElem?_zipWith, hj, q2]⟩
 have e1 := mD.at' _ m1 .nil
 have e2 := mD.at' _ m2 .nil
 simp only [hp] at e1
 simp only at e2
 rw [e1] at e2
 simp only [DataW.lit.injEq, Lit.int.injEq, true_and, Int.natCast_inj] at e2
 subst e2
 have l1 := (List.getElem?_eq_some_iff.1 q1).1
 have l2 := (List.getElem?_eq_some_iff.1 q2).1
 have hpw := List.pairwise_iff_getElem.1 h.nod
 have v1 := (List.getElem?_eq_some_iff.1 q1).2
 have v2 := (List.getElem?_eq_some_iff.1 q2).2
 have : i = j := by
  rcases Nat.lt_trichotomy i j with hh | hh | hh
  ·exact absurd (v1.trans v2.symm) (hpw i j l1 l2 hh)
  ·exact hh
  ·exact absurd (v2.trans v1.symm) (hpw j i l2 l1 hh)
 subst this
 rw [hi] at hj
 cases hj
 rfl
set_option maxHeartbeats 3200000 in
theorem strangers_any {w0 : World} {b bs bn : Nat} {e g x t : Int} {ss : List Ses} {ns : List Nod} {SB NB HB UB : List Nat} (w : World) (hst : Hid (StoreAt w0 w b bs bn e g x t ss ns SB NB HB UB)) (hbn : Hid (∀ nd ∈ ns, Byt nd.path ∧ nd.holders.length ≤ 1048576 ∧ nd.watchers.length ≤ 1048576)) (hou : Hid (∀ nd ∈ ns, 0 ≤ nd.owner ∧ nd.owner < 18446744073709551616)) (m : Nat) (em : Hid (ns.length = m)) (hm : m ≤ 1048576) (n : Nat) (en : Hid (ss.length = n)) :
  Calls Tryz.prog 97 #[.pointer (some ⟨b, 0, none⟩)] w fun r w' => ∃ nb k D s, r = .returned (.map (some nb)) ∧ w'.ownsMap Tryz.prog 23 unitElem nb k D ∧ SetTo D s ∧ (∀ i, i ∈ s ↔ (∃ nd ∈ ns, Named nd i) ∧ ¬ ∃ z ∈ ss, z.1 = i) ∧ Below w.heap.size w w' := by
 have hc5 : w.cell? ⟨b, 5, none⟩ = some (.map (some bn)) := cells_at (uh hst).hd 5
 have hc4 : w.cell? ⟨b, 4, none⟩ = some (.map (some bs)) := cells_at (uh hst).hd 4
 have hbl : b < w.heap.size := heap_lt (uh hst).hd
 obtain ⟨D, oD, mD⟩ := (uh hst).nod.own
 obtain ⟨Ds, oS, mS⟩ := (uh hst).ses.own
 rw [uh em] at oD
 rw [uh en] at oS
 have MD := hide mD
 have MS := hide mS
 have OS := hide oS
 have HC4 := hide hc4
 clear mD mS oS hc4
 have hmm := @run_makeMap Tryz.prog
 have b1 : Below w.heap.size w (w.alloc (.map #[] 0)) := (Below.refl _ _).alloc (Nat.le_refl _) _
 have hc5' := cell_below hc5 b1
 have oD1 := oD.alloc (.map #[] 0)
 go_enter Tryz.func97, Tryz.ntmps97
 go_wp2_with (first
  | (at_range; refine wpList_range_own _ rfl _ 159 rfl 9 _ keyT Tryz.underlying159 _ bn m _ rfl oD1 ?_; intro w1 hrg0 hg0 hs0)
  | go_in)
 go_frame
 have hz1 : (w.alloc (.map #[] 0)).heap.size = w.heap.size + 1 := by simp
 have hb1 : Below w.heap.size w w1 := Below.step b1 (grown_below hg0)
 have o0 : w1.ownsMap Tryz.prog 23 (unitElem (H := Unit)) w.heap.size 0 (.map []) := (World.ownsMap_made w _ _ _).kept hg0 (by simp)
 rw [hz1] at hrg0 ⊢
 have HZ1 := hide hz1
 clear hmm hc5' hz1
 go_loopw [5] (fun _ wr => ∃ (left : Lit → Bool) (cnt k : Nat) (E : DataW Unit) (s : List Int), wr.ranges Tryz.prog 9 ptrElem bn (w.heap.size + 1) m D left cnt ∧ k + cnt * 2097153 ≤ m * 2097153 ∧ wr.ownsMap Tryz.prog 23 unitElem w.heap.size k E ∧ Hid (SetTo E s ∧ ∀ i, i ∈ s ↔ ∃ nd ∈ ns, left (litS nd.path) = false ∧ Named nd i) ∧ Below w.heap.size w wr) (fun _ wr => wr.rangeLeft bn (w.heap.size + 1))
 case atStart =>
  refine ⟨_, _, 0, _, [], hrg0, ?_, o0, ⟨SetTo.nil, fun i => ?_⟩, hb1⟩
  ·have := oD.size_le
   omega
  ·constructor
   ·intro h; cases h
   ·rintro ⟨nd, hnd, hl, _⟩
    exfalso
    obtain ⟨i, hi⟩ := List.getElem?_of_mem hnd
    obtain ⟨g1, h1, u1, q1, q2, q3⟩ := (uh hst).nod.at hi
    have : Maps.has D (litS nd.path) = true := ((uh MD).hs _).2 ⟨(litS nd.path, g1), by
     rw [List.mem_iff_getElem?]
     refine ⟨i, ?_⟩
     rw [List.getElem?_zipWith, hi, q1], rfl⟩
    rw [this] at hl
    cases hl
 case round =>
  obtain ⟨left, cnt, k, E, s, hrg, hkc, hown, hset, hbr⟩ := hrel
  go_wp2_with (first
   | (at_next; refine wpList_next_ptr _ rfl _ rfl 9 keyT (fun s : ByteArray => .string s) invT bn (w.heap.size + 1) m _ _ (uh MD) _ _ (by first | rfl | (rw [← uh HZ1]; rfl)) hrg ?_ ?_)
   | go_in)
  ·intro _ hl0
   have hs1 : Hid (∀ i, i ∈ s ↔ ∃ nd ∈ ns, Named nd i) := fun i => by
    rw [(uh hset).2 i]
    constructor
    ·rintro ⟨nd, h1, _, h2⟩
     exact ⟨nd, h1, h2⟩
    ·rintro ⟨nd, h1, h2⟩
     exact ⟨nd, h1, hl0 _, h2⟩
   have hs2 := hide (uh hset).1
   have hc4 := cell_below (uh HC4) hbr
   have oS1 := (uh OS).kept (grown_of_below hbr none) (by simp)
   obtain ⟨Y, eY⟩ : ∃ Y, Y = wr := ⟨_, rfl⟩
   subst eY
   clear hset hkc hrg hl0
   go_wp2_with (first
    | (at_range; refine wpList_range_own _ rfl _ 158 rfl 23 _ keyU Tryz.underlying158 _ bs n _ rfl oS1 ?_; intro w3 hrg3 hg3 hs3)
    | go_in)
   go_frame
   have hown3 := hown.kept hg3 (by simp)
   have hb3 : Below w.heap.size w w3 := below_of_grown hbr hg3 hbr.size (fun j hj => by cases hj)
   have hr2 : w.heap.size < Y.heap.size := hown.lt
   clear hc4 hg3
   go_loopw [6] (fun _ wr => ∃ (left : Lit → Bool) (cnt : Nat) (E : DataW Unit) (s' : List Int), wr.ranges Tryz.prog 23 ptrElem bs Y.heap.size n Ds left cnt ∧ wr.ownsMap Tryz.prog 23 unitElem w.heap.size k E ∧ Hid (SetTo E s' ∧ ∀ i, i ∈ s' ↔ i ∈ s ∧ ¬ ∃ z ∈ ss, z.1 = i ∧ left (.int .u64 i) = false) ∧ Below w.heap.size w wr) (fun _ wr => wr.rangeLeft bs Y.heap.size)
   case atStart =>
    refine ⟨_, _, E, s, hrg3, hown3, ⟨uh hs2, fun i => ?_⟩, hb3⟩
    constructor
    ·intro hi
     refine ⟨hi, ?_⟩
     rintro ⟨z, hz, rfl, hl⟩
     obtain ⟨j, hj⟩ := List.getElem?_of_mem hz
     obtain ⟨gz, hgz⟩ : ∃ gz, SB[j]? = some gz := ⟨_, List.getElem?_eq_getElem (by rw [(uh hst).ses.len]; exact (List.getElem?_eq_some_iff.1 hj).1)⟩
     have : Maps.has Ds (.int .u64 z.1) = true := ((uh MS).hs _).2 ⟨(.int .u64 z.1, gz), by
      rw [List.mem_iff_getElem?]
      exact ⟨j, by rw [List.getElem?_zipWith, hj, hgz]⟩, rfl⟩
     rw [this] at hl
     cases hl
    ·exact fun h => h.1
   case round =>
    obtain ⟨left, cnt, E1, s', hrg, hown1, hset, hbr⟩ := hrel
    go_wp2_with (first
     | (at_next; refine wpList_next_ptr _ rfl _ rfl 23 keyU (fun i : Int => .int .u64 i) invU bs Y.heap.size n _ _ (uh MS) _ _ rfl hrg ?_ ?_)
     | go_in)
    ·intro _ hl0
     have HS := uh hset
     clear hset
     go_wp2
     go_ret
     refine ⟨w.heap.size, k, E1, s', rfl, hown1, HS.1, fun i => ?_, hbr⟩
     rw [HS.2 i, uh hs1 i]
     constructor
     ·rintro ⟨h1, h2⟩
      exact ⟨h1, fun ⟨z, hz, e⟩ => h2 ⟨z, hz, e, hl0 _⟩⟩
     ·rintro ⟨h1, h2⟩
      exact ⟨h1, fun ⟨z, hz, e, _⟩ => h2 ⟨z, hz, e⟩⟩
    ·intro i0 pl g1 w4 cnt1 hkey hp hlp hrg1 hlt hg1 hs1' hen
     obtain ⟨j, z, g1', hj, hgj, ee⟩ := zip_mem hp
     simp only [Prod.mk.injEq] at ee
     obtain ⟨rfl, rfl⟩ := ee
     obtain ⟨i1, e1, e2, hwx⟩ := keyOf_int_inv Tryz.underlying23 hkey
     simp only [Value.int.injEq, true_and] at e1
     simp only [Lit.int.injEq, true_and] at e2
     subst e1
     subst e2
     have hb4 : Below w.heap.size w w4 := below_of_grown hbr hg1 hbr.size (fun j hj => by cases hj; omega)
     have hown4 := hown1.kept hg1 (by simp; omega)
     have hen' : (Instr.entry (.pointer (some ⟨Y.heap.size, 0, none⟩))).run Tryz.prog w4 = .ok (.tuple #[.int .u64 z.1, .pointer (some ⟨g1, 0, none⟩)]) w4 := hen
     have HSET : Hid (SetTo (E1.del (.int .u64 z.1)) (s'.filter fun j => decide (j ≠ z.1)) ∧ ∀ i, i ∈ (s'.filter fun j => decide (j ≠ z.1)) ↔ i ∈ s ∧ ¬ ∃ y ∈ ss, y.1 = i ∧ (fun q => left q && !q.sameKey (.int .u64 z.1)) (.int .u64 i) = false) := by
      refine ⟨(uh hset).1.del z.1, fun i => ?_⟩
      rw [List.mem_filter, (uh hset).2 i]
      have hk : ((Lit.int .u64 i).sameKey (.int .u64 z.1) = true) ↔ i = z.1 := by
       rw [WideAt.sameKey_iff (by trivial)]
       simp
      by_cases ei : i = z.1
      ·subst ei
       simp only [ne_eq, not_true_eq_false, decide_false, Bool.false_eq_true, and_false, false_iff]
       rintro ⟨_, h2⟩
       exact h2 ⟨z, List.mem_of_getElem? hj, rfl, by simp [hk.2 rfl]⟩
      ·simp [ei, show (Lit.int .u64 i).sameKey (.int .u64 z.1) = false by (rw [Bool.eq_false_iff]; exact fun h => ei (hk.1 h))]
     clear hkey hp hj hgj hset hen
     go_wp2_with (first
      | (at_delete; refine wpList_delete_own _ rfl _ _ 123 23 rfl _ keyU Tryz.underlying123 unitElem w.heap.size k _ rfl hown4 _ _ rfl (keyOf_int_mk Tryz.underlying23 hwx) ?_; intro w5 hown5 hturn5; go_frame)
      | go_in)
     have hg5 := hturn5.grown
     have hb5 : Below w.heap.size w w5 := below_of_grown hb4 hg5 hb4.size (fun j hj => by cases hj; exact Nat.le_refl _)
     have hrg5 := hrg1.kept hg5 (by have := (uh OS).lt; simp; omega) (by simp; omega)
     go_roundw
     case rel => exact ⟨_, cnt1, _, _, hrg5, hown5, HSET, hb5⟩
     case measure => rw [hrg5.left_eq, hrg.left_eq]; exact hlt
  ·intro sb pl g1 w2 cnt1 hkey hp hlp hrg1 hlt hg1 hs1 hen
   obtain ⟨i, nd, g1', hi, hgi, ee⟩ := zip_mem hp
   simp only [Prod.mk.injEq] at ee
   obtain ⟨rfl, rfl⟩ := ee
   have hb2 : Below w.heap.size w w2 := below_of_grown hbr hg1 hbr.size (fun j hj => by cases hj; omega)
   obtain rfl := keyT_val hkey
   have hnd := List.mem_of_getElem? hi
   obtain ⟨hB1, hl1, hl2⟩ := uh hbn nd hnd
   obtain ⟨g2, h1, u1, q1, q2, q3⟩ := (uh hst).nod.at hi
   rw [hgi] at q1
   cases q1
   obtain ⟨_, _, _, ⟨V, a4, _⟩, ⟨Dh, oh, sh⟩, ⟨Du, ou, su⟩⟩ := (uh hst).nod.blk i nd g1 h1 u1 hi hgi q2 q3
   have hg1l : g1 < w.heap.size := heap_lt a4
   have k1 : w.cell? ⟨g1, 1, none⟩ = some (.int .u64 nd.owner) := cells_at a4 1
   have k3 : w.cell? ⟨g1, 3, none⟩ = some (.map (some h1)) := cells_at a4 3
   have k6 : w.cell? ⟨g1, 6, none⟩ = some (.map (some u1)) := cells_at a4 6
   have SH := hide sh
   have SU := hide su
   have hown2 := hown.kept hg1 (by first | (simp; done) | (simp; omega))
   have hen' : (Instr.entry (.pointer (some ⟨w.heap.size + 1, 0, none⟩))).run Tryz.prog w2 = .ok (.tuple #[.string (bstr nd.path), .pointer (some ⟨g1, 0, none⟩)]) w2 := hen
   have FIN : ∀ i : Int, ((i ∈ s ∨ (nd.owner ≠ 0 ∧ i = nd.owner)) ∨ i ∈ nd.holders) ∨ i ∈ nd.watchers ↔ ∃ nd' ∈ ns, (fun z => left z && !z.sameKey (litS nd.path)) (litS nd'.path) = false ∧ Named nd' i := by
    intro i0
    rw [(uh hset).2 i0]
    constructor
    ·rintro (((⟨nd', h1, h2, h3⟩ | h) | h) | h)
     ·exact ⟨nd', h1, by simp [h2], h3⟩
     ·exact ⟨nd, hnd, by simp [litS_same hB1 hB1], .inl h⟩
     ·exact ⟨nd, hnd, by simp [litS_same hB1 hB1], .inr (.inl h)⟩
     ·exact ⟨nd, hnd, by simp [litS_same hB1 hB1], .inr (.inr h)⟩
    ·rintro ⟨nd', h1, h2, h3⟩
     by_cases ep : nd'.path = nd.path
     ·obtain ⟨j, hj⟩ := List.getElem?_of_mem h1
      have := (uh hst).nod.uniq hj hi ep
      subst this
      rcases h3 with h3 | h3 | h3
      ·exact .inl (.inl (.inr h3))
      ·exact .inl (.inr h3)
      ·exact .inr h3
     ·refine .inl (.inl (.inl ⟨nd', h1, ?_, h3⟩))
      simpa [litS_same (uh hbn nd' h1).1 hB1, ep] using h2
   have hO := uh hou nd hnd
   clear hkey hp hen
   by_cases ho : nd.owner = 0
   ·have d1 := (cell_heap (hb2.block g1 hg1l) 1).trans k1
    have d3 := (cell_heap (hb2.block g1 hg1l) 3).trans k3
    have d6 := (cell_heap (hb2.block g1 hg1l) 6).trans k6
    rw [ho] at d1
    have M3 : ∀ i, i ∈ s ↔ i ∈ s ∨ (nd.owner ≠ 0 ∧ i = nd.owner) := fun i => by simp [ho]
    have S3 := hide (uh hset).1
    have hb3 := hb2
    have hown3 := hown2
    have hrg3 := hrg1
    obtain ⟨w3, e3⟩ : ∃ w3, w3 = w2 := ⟨_, rfl⟩
    obtain ⟨K3, eK⟩ : ∃ K3, K3 = k := ⟨_, rfl⟩
    obtain ⟨E3, eE⟩ : ∃ E3, E3 = E := ⟨_, rfl⟩
    obtain ⟨s3, eS⟩ : ∃ s3, s3 = s := ⟨_, rfl⟩
    have hK3 : K3 ≤ k + 1 := by omega
    subst e3 eK eE eS
    clear hset
    go_wp2_with fail
    refine (copyU_any w.heap.size h1 K3 nd.holders.length E3 Dh s3 nd.holders w3 hown3 (oh.kept (grown_of_below hb3 none) (by simp)) S3 SH (by have := oh.lt; omega) (by omega) hl1).mono ?_
    rintro r w4 ⟨E4, s4, rfl, hown4, hset4, hmem4, hg4⟩
    have hb4 : Below w.heap.size w w4 := below_of_grown hb3 hg4 hb3.size (fun j hj => by cases hj; exact Nat.le_refl _)
    have f6 := (cell_heap (hb4.block g1 hg1l) 6).trans k6
    have S4 := hide hset4
    clear d1 d3 d6 hset4
    go_wp2_with fail
    refine (copyU_any w.heap.size u1 _ nd.watchers.length E4 Du s4 nd.watchers w4 hown4 (ou.kept (grown_of_below hb4 none) (by simp)) S4 SU (by have := ou.lt; omega) (by omega) hl2).mono ?_
    rintro r w5 ⟨E5, s5, rfl, hown5, hset5, hmem5, hg5⟩
    have hb5 : Below w.heap.size w w5 := below_of_grown hb4 hg5 hb4.size (fun j hj => by cases hj; exact Nat.le_refl _)
    have hrg5 := (hrg3.kept hg4 (by have := oD.lt; simp; omega) (by first | (simp; done) | (simp; omega))).kept hg5 (by have := oD.lt; simp; omega) (by first | (simp; done) | (simp; omega))
    have HSET : Hid (SetTo E5 s5 ∧ ∀ i, i ∈ s5 ↔ ∃ nd' ∈ ns, (fun z => left z && !z.sameKey (litS nd.path)) (litS nd'.path) = false ∧ Named nd' i) := ⟨hset5, fun i => by
     rw [hmem5, hmem4, M3, FIN]⟩
    clear f6 hset5 hmem5 hmem4
    go_wp2
    go_roundw
    case rel => first | exact ⟨_, cnt1, hrg5, _, by omega, E5, hown5, s5, HSET, hb5⟩ | exact ⟨_, cnt1, _, E5, s5, hrg5, by omega, hown5, HSET, hb5⟩
    case measure => rw [hrg5.left_eq, hrg.left_eq]; exact hlt
   ·have ho' : (nd.owner != 0) = true := by simp [ho]
    have d1 := (cell_heap (hb2.block g1 hg1l) 1).trans k1
    have hkeyO : keyOf Tryz.prog 23 (.int .u64 nd.owner) = some (.int .u64 nd.owner) := keyOf_int_mk Tryz.underlying23 (u64_wf hO)
    have M3 : ∀ i, i ∈ s ++ [nd.owner] ↔ i ∈ s ∨ (nd.owner ≠ 0 ∧ i = nd.owner) := fun i => by simp [ho]
    have S3 := hide ((uh hset).1.put hown.isMap nd.owner (.agg []))
    clear hset
    go_wp2_with (first
     | (at_mapUpdate; refine wpList_mapUpdate_own _ rfl _ _ _ 123 rfl 23 _ keyU Tryz.underlying123 unitElem w.heap.size k _ rfl hown2 (by unfold maxLen; omega) _ _ _ rfl rfl hkeyO (.agg []) [] unitElem_mk ?_; intro w3 hown3 hgrow3; have hb3 : Below w.heap.size w w3 := below_of_grown hb2 hgrow3 hb2.size (fun j hj => by cases hj; exact Nat.le_refl _); have d3 := (cell_heap (hb3.block g1 hg1l) 3).trans k3; have d6 := (cell_heap (hb3.block g1 hg1l) 6).trans k6)
     | fail)
    have hrg3 := hrg1.kept hgrow3 (by have := oD.lt; simp; omega) (by first | (simp; done) | (simp; omega))
    obtain ⟨K3, eK⟩ : ∃ K3, K3 = k + 1 := ⟨_, rfl⟩
    obtain ⟨E3, eE⟩ : ∃ E3, E3 = E.put (.int .u64 nd.owner) (.agg []) := ⟨_, rfl⟩
    obtain ⟨s3, eS⟩ : ∃ s3, s3 = s ++ [nd.owner] := ⟨_, rfl⟩
    have hK3 : K3 ≤ k + 1 := by omega
    rw [← eK, ← eE] at hown3
    rw [← eE, ← eS] at S3
    rw [← eS] at M3
    clear eK eE eS
    refine (copyU_any w.heap.size h1 K3 nd.holders.length E3 Dh s3 nd.holders w3 hown3 (oh.kept (grown_of_below hb3 none) (by simp)) S3 SH (by have := oh.lt; omega) (by omega) hl1).mono ?_
    rintro r w4 ⟨E4, s4, rfl, hown4, hset4, hmem4, hg4⟩
    have hb4 : Below w.heap.size w w4 := below_of_grown hb3 hg4 hb3.size (fun j hj => by cases hj; exact Nat.le_refl _)
    have f6 := (cell_heap (hb4.block g1 hg1l) 6).trans k6
    have S4 := hide hset4
    clear d1 d3 d6 hset4
    go_wp2_with fail
    refine (copyU_any w.heap.size u1 _ nd.watchers.length E4 Du s4 nd.watchers w4 hown4 (ou.kept (grown_of_below hb4 none) (by simp)) S4 SU (by have := ou.lt; omega) (by omega) hl2).mono ?_
    rintro r w5 ⟨E5, s5, rfl, hown5, hset5, hmem5, hg5⟩
    have hb5 : Below w.heap.size w w5 := below_of_grown hb4 hg5 hb4.size (fun j hj => by cases hj; exact Nat.le_refl _)
    have hrg5 := (hrg3.kept hg4 (by have := oD.lt; simp; omega) (by first | (simp; done) | (simp; omega))).kept hg5 (by have := oD.lt; simp; omega) (by first | (simp; done) | (simp; omega))
    have HSET : Hid (SetTo E5 s5 ∧ ∀ i, i ∈ s5 ↔ ∃ nd' ∈ ns, (fun z => left z && !z.sameKey (litS nd.path)) (litS nd'.path) = false ∧ Named nd' i) := ⟨hset5, fun i => by
     rw [hmem5, hmem4, M3, FIN]⟩
    clear f6 hset5 hmem5 hmem4
    go_wp2
    go_roundw
    case rel => first | exact ⟨_, cnt1, hrg5, _, by omega, E5, hown5, s5, HSET, hb5⟩ | exact ⟨_, cnt1, _, E5, s5, hrg5, by omega, hown5, HSET, hb5⟩
    case measure => rw [hrg5.left_eq, hrg.left_eq]; exact hlt
end Go.Proofs.YtnbgnhhnpmmloaaGreatDoor
