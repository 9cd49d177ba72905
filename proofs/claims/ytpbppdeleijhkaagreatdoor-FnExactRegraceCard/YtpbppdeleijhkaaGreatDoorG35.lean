import Derived.Test.YtpbppdeleijhkaaGreatDoorVM5
import Derived.Test.YtpbppdeleijhkaaGreatDoorG34
import Derived.Test.YtpbppdeleijhkaaGreatDoorST2
namespace Go.Proofs.YtpbppdeleijhkaaGreatDoor
open Go.ChangeShapes Go.WideShapes Go.ChangeAt Go.RowKit Go.Maps
set_option linter.unusedVariables false
set_option linter.unusedSimpArgs false
set_option maxRecDepth 100000
section
variable {P : Program} (w : World) {ops : Array Oper} {rest : List Oper} {o : Oper} {a : Act} {Q : Exit → Act → World → Prop}
theorem wpList_lookup_hit (hg : o.guard = none) (m x : Operand) (t : TypeId) (hop : o.op = Op.lookup t m x true) (k e : TypeId) (K : Keyed P k) (ht : P.underlying t = some (.map k e)) (hz : (zeroValue e).run P w = .ok (.pointer none) w) (b n : Nat) (D : DataW Unit) (l : List (Lit × Nat)) (hM : MapTo D l)
  (hm : a.eval m = .map (some b)) (hown : w.ownsMap P k ptrElem b n D) (key : Value) (p : Lit × Nat) (hp : p ∈ l) (hx : a.eval x = key) (hkey : keyOf P k key = some p.1)
  (hK : wpList P ops Q rest (a.put o.dst (.tuple #[.pointer (some ⟨p.2, 0, none⟩), .bool true])) w) : wpList P ops Q (o :: rest) a w :=
 wpList_lookup_own_ok w hg m x t hop k e K ht ptrElem hz .nil [] rfl b n D hm hown key p.1 hx hkey (fun v ps hv => by
  rw [hM.at' p hp] at hv
  obtain rfl := ptrElem_inv hv
  rw [(hM.hs p.1).2 ⟨p, hp, rfl⟩]
  exact hK)
theorem wpList_lookup_miss (hg : o.guard = none) (m x : Operand) (t : TypeId) (hop : o.op = Op.lookup t m x true) (k e : TypeId) (K : Keyed P k) (ht : P.underlying t = some (.map k e)) (hz : (zeroValue e).run P w = .ok (.pointer none) w) (b n : Nat) (D : DataW Unit) (l : List (Lit × Nat)) (hM : MapTo D l)
  (hm : a.eval m = .map (some b)) (hown : w.ownsMap P k ptrElem b n D) (key : Value) (kl : Lit) (hno : ∀ p ∈ l, p.1 ≠ kl) (hx : a.eval x = key) (hkey : keyOf P k key = some kl)
  (hK : wpList P ops Q rest (a.put o.dst (.tuple #[.pointer none, .bool false])) w) : wpList P ops Q (o :: rest) a w :=
 wpList_lookup_own_ok w hg m x t hop k e K ht ptrElem hz .nil [] rfl b n D hm hown key kl hx hkey (fun v ps hv => by
  have hh : Maps.has D kl = false := by
   rw [Bool.eq_false_iff]
   intro h
   obtain ⟨p, hp, e⟩ := (hM.hs kl).1 h
   exact hno p hp e
  rw [Maps.atKey_of_not_has hh] at hv
  obtain rfl := ptrElem_nil hv
  rw [hh]
  exact hK)
end
theorem zeroNodeP (w : World) : (zeroValue 142).run Tryz.prog w = .ok (.pointer none) w := by kernel_rfl
theorem ndOf_some {ns : List Nod} {l : List Int} {nd : Nod} (h : ndOf ns l = some nd) : nd.path = l ∧ ∃ i : Nat, ns[i]? = some nd := by
 have h1 := List.find?_some h
 have h2 := List.mem_of_find?_eq_some h
 exact ⟨by simpa using h1, List.getElem?_of_mem h2⟩
theorem ndOf_none {ns : List Nod} {l : List Int} (h : ndOf ns l = none) : ∀ nd ∈ ns, nd.path ≠ l := by
 intro nd hnd e
 have := List.find?_eq_none.1 h nd hnd
 simp [e] at this
set_option maxHeartbeats 1600000 in
theorem canHave_any {w0 : World} {b bs bn : Nat} {e g x t : Int} {ss : List Ses} {ns : List Nod} {SB NB HB UB : List Nat} (l : List Int) (w : World) (hst : Hid (StoreAt w0 w b bs bn e g x t ss ns SB NB HB UB)) (hB : Hid (Byt l)) (hbn : Hid (∀ nd ∈ ns, Byt nd.path)) (hl : l.length ≤ 1048577) (B : Bool) (eB : Hid (canPar ns l = B)) :
  Calls Tryz.prog 158 #[.pointer (some ⟨b, 0, none⟩), .string (bstr l)] w fun r w' => r = .returned (.bool B) ∧ Below w.heap.size w w' := by
 have hc5 : w.cell? ⟨b, 5, none⟩ = some (.map (some bn)) := cells_at (unhide hst).hd 5
 obtain ⟨D, oD, mD⟩ := (unhide hst).nod.own
 have hkey : keyOf Tryz.prog 9 (.string (bstr l)) = some (litS l) := by
  rw [WideMaps.keyOf_string_mk Tryz.underlying9 (by rw [bstr_size]; unfold maxLen; omega), bstr_litS]
 have OD := hide oD
 have MD := hide mD
 have HKEY := hide hkey
 have hroot : ((bstr l).toList == (bstr [47]).toList) = decide (l = [47]) := bstr_eq (unhide hB) (by intro y hy; simp at hy; omega)
 rw [show (bstr [47]).toList = [47] from bstr_list [47]] at hroot
 clear oD mD hkey
 obtain ⟨s, es⟩ : ∃ s, s = bstr l := ⟨_, rfl⟩
 rw [← es] at hroot HKEY ⊢
 clear es
 by_cases h47 : l = [47]
 ·have eT : B = true := by rw [← unhide eB, canPar, if_pos h47]
  subst eT
  have hr : (s.toList == [47]) = true := by rw [hroot]; simp [h47]
  clear hroot h47
  go_enter Tryz.func158, Tryz.ntmps158
  go_wp2
  go_ret
  exact ⟨rfl, Below.refl _ _⟩
 ·have hr : (s.toList == [47]) = false := by rw [hroot]; simp [h47]
  have hB2 : (match ndOf ns l with | some nd => nd.owner == 0 | none => false) = B := by rw [← unhide eB, canPar, if_neg h47]; rfl
  clear hroot h47
  cases hF : ndOf ns l with
  | none =>
   rw [hF] at hB2
   have eF : B = false := hB2.symm
   subst eF
   have hno : Hid (∀ p ∈ List.zipWith (fun (nd : Nod) g => (litS nd.path, g)) ns NB, p.1 ≠ litS l) := by
    intro p hp
    obtain ⟨i, nd, y, hx, hy, rfl⟩ := zip_mem hp
    intro ee
    have hm := List.mem_of_getElem? hx
    exact ndOf_none hF nd hm (litS_inj (unhide hbn nd hm) (unhide hB) ee)
   clear hF hB2
   go_enter Tryz.func158, Tryz.ntmps158
   go_wp2_with (first
    | (at_lookup; refine wpList_lookup_miss _ rfl _ _ 100 rfl 9 _ keyT Tryz.underlying100 (zeroNodeP _) bn _ D _ (unhide MD) rfl (unhide OD) _ (litS l) (unhide hno) rfl (unhide HKEY) ?_)
    | go_in)
   go_ret
   exact ⟨rfl, Below.refl _ _⟩
  | some nd =>
   rw [hF] at hB2
   replace hB2 : (nd.owner == 0) = B := hB2
   obtain ⟨hp, i, hi⟩ := ndOf_some hF
   obtain ⟨g1, h1, u1, q1, q2, q3⟩ := (unhide hst).nod.at hi
   obtain ⟨_, _, _, ⟨V, a4, _⟩, _, _⟩ := (unhide hst).nod.blk i nd g1 h1 u1 hi q1 q2 q3
   have hcO : w.cell? ⟨g1, 1, none⟩ = some (.int .u64 nd.owner) := cells_at a4 1
   have hmem : Hid ((litS l, g1) ∈ List.zipWith (fun (nd : Nod) g => (litS nd.path, g)) ns NB) := by
    show _ ∈ _
    rw [List.mem_iff_getElem?]
    refine ⟨i, ?_⟩
    rw [List.getElem?_zipWith, hi, q1]
    show some (litS nd.path, g1) = some (litS l, g1)
    rw [hp]
   obtain ⟨ow, eow⟩ : ∃ ow, nd.owner = ow := ⟨_, rfl⟩
   rw [eow] at hcO hB2
   clear hF hp hi q1 q2 q3 a4 eow
   cases B with
   | true =>
    have ho : ow = 0 := by simpa using hB2
    subst ho
    clear hB2
    go_enter Tryz.func158, Tryz.ntmps158
    go_wp2_with (first
     | (at_lookup; refine wpList_lookup_hit _ rfl _ _ 100 rfl 9 _ keyT Tryz.underlying100 (zeroNodeP _) bn _ D _ (unhide MD) rfl (unhide OD) _ (litS l, g1) (unhide hmem) rfl (unhide HKEY) ?_)
     | go_in)
    go_ret
    exact ⟨rfl, Below.refl _ _⟩
   | false =>
    have ho : (ow == 0) = false := hB2
    clear hB2
    go_enter Tryz.func158, Tryz.ntmps158
    go_wp2_with (first
     | (at_lookup; refine wpList_lookup_hit _ rfl _ _ 100 rfl 9 _ keyT Tryz.underlying100 (zeroNodeP _) bn _ D _ (unhide MD) rfl (unhide OD) _ (litS l, g1) (unhide hmem) rfl (unhide HKEY) ?_)
     | go_in)
    go_ret
    exact ⟨rfl, Below.refl _ _⟩
end Go.Proofs.YtpbppdeleijhkaaGreatDoor
namespace Go.Proofs.YtpbppdeleijhkaaGreatDoor.T
open Go.RowKit Go.Maps Go.Sort
set_option linter.unusedVariables false
set_option linter.unusedSimpArgs false
set_option maxRecDepth 100000
set_option maxHeartbeats 1000000 in
theorem collect_in (n : Nat) (hn : 3 ≤ n) (g : Nat) (lb : Array Value) (eg : ∀ args w, (callFunc g args).run Tryz.prog w = .ok (.enter g args) w)
  (S Sp : List (List UInt8) → Prop) (N : Nat) (hN : N ≤ 1048576) (w : World) (hseq : SeqStopsK Fence.wide (n - 1 - 1) Tryz.prog g lb (fun x : List UInt8 => #[encU x]) KeepsWalks S Sp N w) :
  CallsIn Fence.wide n Tryz.prog 189 #[.func (.func g) #[] lb] w fun e w' => ∃ (v : Value) (ss : List (List UInt8)), e = .returned v ∧ S ss ∧ w'.ownsRow (w.heap.size + 1) 9 1 v ss.length (ss.map encU) ∧ (v = .slice none 0 0 ↔ ss = []) ∧ Below w.heap.size w w' := by
 have h1 : 1 ≤ n := by omega
 have hfS : Fence.wide.fn 208 := trivial
 refine callsIn_of_wp Tryz.func189 rfl trivial ?_ rfl
 simp only [Tryz.ntmps189, List.size_toArray, List.length_cons, List.length_nil, Nat.reduceAdd, Nat.reduceSub, Array.replicate_succ, Array.replicate_zero, List.push_toArray, List.append_toArray, List.nil_append, List.cons_append]
 gi_wp2_with (gi_at_call 208; refine (appendSeq_in (n - 1) (by omega) g lb eg S Sp N hN _ hseq).mono ?_; rintro e w' ⟨v, ss, rfl, hS, hrow, hnil, hb⟩)
 go_ret
 exact ⟨v, ss, rfl, hS, hrow, hnil, hb⟩
theorem hu_row {w : World} {g : Nat} {cur : Array Value} {e : TypeId} {ss : List (List UInt8)} (hb : w.heap[g]? = some (.cells cur e (0, 0))) (ht : cur.toList.take ss.length = ss.map encU) : HT w g 0 ss.toArray := by
 intro j hj
 have hj' : j < ss.length := by simpa using hj
 refine ⟨?_, by simp [World.frozen?, hb]⟩
 have h1 : (cur.toList.take ss.length)[j]? = (ss.map encU)[j]? := by rw [ht]
 rw [List.getElem?_take_of_lt hj'] at h1
 simp only [World.cell?, hb, Nat.zero_add]
 simp only [Option.isSome_none, Bool.false_eq_true, if_false]
 rw [← Array.getElem?_toList, h1]
 simp [hj', encU]
def RdK (B : Nat) (w : World) (v : Value) (ss : List (List UInt8)) : Prop := (v = .slice none 0 0 ∧ ss = []) ∨ ∃ g cap, v = .slice (some ⟨g, 0, none⟩) ss.length cap ∧ B ≤ g ∧ g < w.heap.size ∧ HT w g 0 ss.toArray
structure Asc {H : Type} (D0 : DataW H) (ss : List (List UInt8)) : Prop where
 lt : ss.Pairwise (· < ·)
 mem : ∀ x, x ∈ ss ↔ has D0 (.string x) = true
 size : ss.length ≤ Maps.size D0
theorem asc_of {H : Type} {D0 : DataW H} {ss : List (List UInt8)} (h : AllKeys D0 ss) : Asc D0 (ss.mergeSort (fun x y => decide (x ≤ y))) := by
 have hp := List.mergeSort_perm ss (fun x y => decide (x ≤ y))
 refine ⟨?_, fun x => (hp.mem_iff).trans (h.2.1 x), by rw [hp.length_eq]; exact h.2.2⟩
 have h1 := List.pairwise_mergeSort (le := fun x y : List UInt8 => decide (x ≤ y)) (fun a b c h1 h2 => by simp only [decide_eq_true_eq] at *; exact List.le_trans h1 h2) (fun a b => by simp only [Bool.or_eq_true, decide_eq_true_eq]; exact List.le_total a b) ss
 have h2 : (ss.mergeSort (fun x y => decide (x ≤ y))).Pairwise (· ≠ ·) := hp.nodup_iff.2 h.1
 refine (h1.and h2).imp (fun {a b} ⟨x, y⟩ => ?_)
 simp only [decide_eq_true_eq] at x
 exact Decidable.byContradiction fun hh => y (List.le_antisymm x hh)
set_option maxHeartbeats 2000000 in
theorem sorted_in (n : Nat) (hn : 4 ≤ n) (g : Nat) (lb : Array Value) (eg : ∀ args w, (callFunc g args).run Tryz.prog w = .ok (.enter g args) w)
  (S Sp : List (List UInt8) → Prop) (N : Nat) (hN : N ≤ 1048576) (hS : ∀ ss, S ss → ss.length ≤ 1048576) (w : World) (hseq : SeqStopsK Fence.wide (n - 1 - 1 - 1) Tryz.prog g lb (fun x : List UInt8 => #[encU x]) KeepsWalks S Sp N w) :
  CallsIn Fence.wide n Tryz.prog 165 #[.func (.func g) #[] lb] w fun e w' => ∃ (v : Value) (ss : List (List UInt8)), e = .returned v ∧ S ss ∧ RdK w.heap.size w' v (ss.mergeSort (fun x y => decide (x ≤ y))) ∧ Below w.heap.size w w' := by
 have h1 : 1 ≤ n := by omega
 have hfC : Fence.wide.fn 189 := trivial
 have hfS : Fence.wide.fn 190 := trivial
 refine callsIn_of_wp Tryz.func165 rfl trivial ?_ rfl
 simp only [Tryz.ntmps165, List.size_toArray, List.length_cons, List.length_nil, Nat.reduceAdd, Nat.reduceSub, Array.replicate_succ, Array.replicate_zero, List.push_toArray, List.append_toArray, List.nil_append, List.cons_append]
 gi_wp2_with (gi_at_call 189; refine (collect_in (n - 1) (by omega) g lb eg S Sp N hN _ hseq).mono ?_; rintro e w' ⟨v, ss, rfl, hSs, hrow, hnil, hb⟩)
 rcases hrow.2 with ⟨rfl, _⟩ | ⟨gb, cap, cur, rfl, hbase, hgb, hr1, hr2, hr3, hr4⟩
 ·have e0 : ss = [] := hnil.1 rfl
  subst e0
  gi_wp2_with (gi_at_call 190; refine (callsIn_wide.2 (sort_nil 0 _)).mono ?_; rintro e w2 ⟨rfl, rfl⟩)
  go_ret
  exact ⟨_, [], rfl, hSs, .inl ⟨rfl, by simp⟩, hb⟩
 ·have hlt : gb < w'.heap.size := (Array.getElem?_eq_some_iff.1 hgb).1
  have hH := hu_row hgb (by simpa using hr4)
  gi_wp2_with (gi_at_call 190; refine (callsIn_wide.2 (sort_list gb 0 cap ss (hS ss hSs) _ hH hlt)).mono ?_; rintro e w2 ⟨rfl, hH2, hg2⟩)
  go_ret
  refine ⟨_, ss, rfl, hSs, .inr ⟨gb, cap, by rw [List.length_mergeSort]; rfl, by omega, Nat.lt_of_lt_of_le hlt hg2.size, hH2⟩, ?_⟩
  exact hb.grown hg2 hb.size (fun k e => by cases e; omega)
set_option maxHeartbeats 2000000 in
theorem sortedKeys_s {H : Type} (b nn : Nat) (D0 : DataW H) {R : Value → Option (DataW H × List MemPlace)} (w : World) (hown : w.ownsMap Tryz.prog 9 R b nn D0) (hsz : Maps.size D0 ≤ 1048576) :
  Calls Tryz.prog 122 #[.map (some b)] w fun e w' => ∃ (v : Value) (ss : List (List UInt8)), e = .returned v ∧ Asc D0 ss ∧ RdK w.heap.size w' v ss ∧ Below w.heap.size w w' := by
 refine (callsIn_wide (n := 6)).1 ?_
 have hfK : Fence.wide.fn 166 := trivial
 have hfS : Fence.wide.fn 165 := trivial
 have hbl := hown.lt
 have hown1 : (w.alloc (.cells #[.map (some b)] 100)).ownsMap Tryz.prog 9 R b nn D0 := by
  obtain ⟨es, clock, hb, Ft, hs, hD⟩ := hown
  exact ⟨es, clock, (Below.heap_alloc _ _ b hbl).trans hb, Ft, hs, hD⟩
 have hseq := stops_s 2 (by omega) w.heap.size b nn D0 (w.alloc (.cells #[.map (some b)] 100)) (by simp) (by simp) hown1
 refine callsIn_of_wp Tryz.func122 rfl trivial ?_ rfl
 simp only [Tryz.ntmps122, List.size_toArray, List.length_cons, List.length_nil, Nat.reduceAdd, Nat.reduceSub, Array.replicate_succ, Array.replicate_zero, List.push_toArray, List.append_toArray, List.nil_append, List.cons_append]
 gi_wp2_with (first
  | (gi_at_call 166; refine (keys_s _ _ _).mono ?_; rintro e w' ⟨rfl, rfl⟩)
  | (gi_at_call 165; refine (sorted_in 5 (by omega) _ _ (fun args w => (by kernel_rfl : (callFunc 191 args).run Tryz.prog w = .ok (.enter 191 args) w)) _ _ _ hsz (fun ss h => Nat.le_trans h.2.2 hsz) _ hseq).mono ?_; rintro e w' ⟨v, ss, rfl, hS, hrd, hb⟩))
 go_ret
 refine ⟨v, _, rfl, asc_of hS, ?_, ((Below.refl _ w).alloc (Nat.le_refl _) _).trans (hb.mono (by simp))⟩
 rcases hrd with h | ⟨g, cap, h1, h2, h3, h4⟩
 ·exact .inl h
 ·exact .inr ⟨g, cap, h1, by simp at h2; omega, h3, h4⟩
end Go.Proofs.YtpbppdeleijhkaaGreatDoor.T
namespace Go.Proofs.YtpbppdeleijhkaaGreatDoor
open Go.ChangeShapes Go.WideShapes Go.ChangeAt Go.RowKit Go.Maps
set_option linter.unusedVariables false
set_option linter.unusedSimpArgs false
set_option maxRecDepth 100000
structure SesM (w : World) (bs : Nat) (ss : List Ses) (SB : List Nat) : Prop where
 len : SB.length = ss.length
 own : ∃ D n, w.ownsMap Tryz.prog 23 ptrElem bs n D ∧ n ≤ 1048576 ∧ MapTo D (List.zipWith (fun (s : Ses) g => (Lit.int .u64 s.1, g)) ss SB)
 blk : ∀ (i : Nat) (s : Ses) (g : Nat), ss[i]? = some s → SB[i]? = some g → ∃ u, w.heap[g]? = some (.cells #[.int .u64 s.1, .int .i64 s.2.1, u] 65) ∧ RdEc w u s.2.2
structure NodM (w : World) (bn : Nat) (ns : List Nod) (NB : List Nat) : Prop where
 len : NB.length = ns.length
 own : ∃ D n, w.ownsMap Tryz.prog 9 ptrElem bn n D ∧ n ≤ 1048576 ∧ MapTo D (List.zipWith (fun (nd : Nod) g => (litS nd.path, g)) ns NB)
 blk : ∀ (i : Nat) (nd : Nod) (g : Nat), ns[i]? = some nd → NB[i]? = some g → ∃ V h u, KN w g h u V nd
theorem KN.below {w w' : World} {g h u : Nat} {V : Value} {nd : Nod} (k : KN w g h u V nd) (hb : Below w.heap.size w w') : KN w' g h u V nd := by
 obtain ⟨h1, h2, ⟨D1, o1, s1⟩, ⟨D2, o2, s2⟩⟩ := k
 exact ⟨(hb.block g (heap_lt h1)).trans h1, h2.below hb, ⟨D1, o1.kept (grown_of_below hb none) (by simp), s1⟩, ⟨D2, o2.kept (grown_of_below hb none) (by simp), s2⟩⟩
theorem SesM.below {w w' : World} {bs : Nat} {ss : List Ses} {SB : List Nat} (h : SesM w bs ss SB) (hb : Below w.heap.size w w') : SesM w' bs ss SB := by
 obtain ⟨h1, ⟨D, n, o, hn, m⟩, h3⟩ := h
 refine ⟨h1, ⟨D, n, o.kept (grown_of_below hb none) (by simp), hn, m⟩, fun i s g hs hg => ?_⟩
 obtain ⟨u, q1, q2⟩ := h3 i s g hs hg
 exact ⟨u, (hb.block g (heap_lt q1)).trans q1, q2.below hb⟩
theorem NodM.below {w w' : World} {bn : Nat} {ns : List Nod} {NB : List Nat} (h : NodM w bn ns NB) (hb : Below w.heap.size w w') : NodM w' bn ns NB := by
 obtain ⟨h1, ⟨D, n, o, hn, m⟩, h3⟩ := h
 refine ⟨h1, ⟨D, n, o.kept (grown_of_below hb none) (by simp), hn, m⟩, fun i s g hs hg => ?_⟩
 obtain ⟨V, h, u, q⟩ := h3 i s g hs hg
 exact ⟨V, h, u, q.below hb⟩
structure Sto (w : World) (b bs bn : Nat) (e g x t : Int) (ss : List Ses) (ns : List Nod) (SB NB : List Nat) : Prop where
 hd : w.heap[b]? = some (.cells #[.int .u64 e, .int .u64 g, .int .u64 x, .int .i64 t, .map (some bs), .map (some bn)] 102)
 ses : SesM w bs ss SB
 nod : NodM w bn ns NB
theorem Sto.below {w w' : World} {b bs bn : Nat} {e g x t : Int} {ss : List Ses} {ns : List Nod} {SB NB : List Nat} (h : Sto w b bs bn e g x t ss ns SB NB) (hb : Below w.heap.size w w') : Sto w' b bs bn e g x t ss ns SB NB :=
 ⟨(hb.block b (heap_lt h.hd)).trans h.hd, h.ses.below hb, h.nod.below hb⟩
theorem key_at_ses {w : World} {bs : Nat} {ss : List Ses} {SB : List Nat} (h : SesM w bs ss SB) {i : Nat} {s : Ses} (hs : ss[i]? = some s) : ∃ g, SB[i]? = some g ∧ (Lit.int .u64 s.1, g) ∈ List.zipWith (fun (s : Ses) g => (Lit.int .u64 s.1, g)) ss SB := by
 have hi := (List.getElem?_eq_some_iff.1 hs).1
 obtain ⟨g, hg⟩ : ∃ g, SB[i]? = some g := ⟨_, List.getElem?_eq_getElem (by rw [h.len]; exact hi)⟩
 refine ⟨g, hg, List.mem_of_getElem? (i := i) ?_⟩
 rw [List.getElem?_zipWith, hs, hg]
theorem key_at_nod {w : World} {bn : Nat} {ns : List Nod} {NB : List Nat} (h : NodM w bn ns NB) {i : Nat} {nd : Nod} (hs : ns[i]? = some nd) : ∃ g, NB[i]? = some g ∧ (litS nd.path, g) ∈ List.zipWith (fun (nd : Nod) g => (litS nd.path, g)) ns NB := by
 have hi := (List.getElem?_eq_some_iff.1 hs).1
 obtain ⟨g, hg⟩ : ∃ g, NB[i]? = some g := ⟨_, List.getElem?_eq_getElem (by rw [h.len]; exact hi)⟩
 refine ⟨g, hg, List.mem_of_getElem? (i := i) ?_⟩
 rw [List.getElem?_zipWith, hs, hg]
theorem mem_zip {α β γ : Type} {f : α → β → γ} {l : List α} {m : List β} {z : γ} (h : z ∈ List.zipWith f l m) : ∃ a ∈ l, ∃ b, z = f a b := by
 induction l generalizing m with
 | nil => simp at h
 | cons a l ih =>
  cases m with
  | nil => simp at h
  | cons b m =>
   simp only [List.zipWith_cons_cons, List.mem_cons] at h
   rcases h with rfl | h
   ·exact ⟨a, by simp, b, rfl⟩
   ·obtain ⟨a', ha, b', e⟩ := ih h
    exact ⟨a', by simp [ha], b', e⟩
theorem ses_sorted {w : World} {bs : Nat} {ss : List Ses} {SB : List Nat} (h : SesM w bs ss SB) (hs : ss.Pairwise (fun s s' => s.1 < s'.1)) {D : DataW Unit} (m : MapTo D (List.zipWith (fun (s : Ses) g => (Lit.int .u64 s.1, g)) ss SB)) {ids : List Int} (ha : Q.Asc D ids) : ids = ss.map (·.1) := by
 refine asc_unique ha.lt (List.pairwise_map.2 hs) fun x => ?_
 rw [ha.mem x, m.hs]
 constructor
 ·rintro ⟨p, hp, e⟩
  obtain ⟨s, hs', g, rfl⟩ := mem_zip hp
  simp only [Lit.int.injEq, true_and] at e
  exact List.mem_map.2 ⟨s, hs', e⟩
 ·intro hx
  obtain ⟨s, hs', rfl⟩ := List.mem_map.1 hx
  obtain ⟨i, hi, e⟩ := List.getElem_of_mem hs'
  obtain ⟨g, hg, hm⟩ := key_at_ses h (i := i) (s := s) (by rw [List.getElem?_eq_getElem hi, e])
  exact ⟨_, hm, rfl⟩
def byS (l : List Int) : List UInt8 := l.map fun n => UInt8.ofNat n.toNat
theorem pw_unique {α : Type} [LT α] (irr : ∀ a : α, ¬ a < a) (tr : ∀ a b c : α, a < b → b < c → a < c) : ∀ {l m : List α}, l.Pairwise (· < ·) → m.Pairwise (· < ·) → (∀ x, x ∈ l ↔ x ∈ m) → l = m
 | [], [], _, _, _ => rfl
 | [], b :: m, _, _, h => absurd ((h b).2 (by simp)) (by simp)
 | a :: l, [], _, _, h => absurd ((h a).1 (by simp)) (by simp)
 | a :: l, b :: m, h1, h2, h => by
  rw [List.pairwise_cons] at h1 h2
  have hab : a = b := by
   rcases List.mem_cons.1 ((h a).1 (by simp)) with e | e
   ·exact e
   ·rcases List.mem_cons.1 ((h b).2 (by simp)) with e' | e'
    ·exact e'.symm
    ·exact absurd (tr _ _ _ (h2.1 a e) (h1.1 b e')) (irr _)
  subst hab
  rw [pw_unique irr tr h1.2 h2.2 (fun x => ?_)]
  constructor
  ·intro hx
   rcases List.mem_cons.1 ((h x).1 (by simp [hx])) with e | e
   ·subst e; exact absurd (h1.1 _ hx) (irr _)
   ·exact e
  ·intro hx
   rcases List.mem_cons.1 ((h x).2 (by simp [hx])) with e | e
   ·subst e; exact absurd (h2.1 _ hx) (irr _)
   ·exact e
theorem nod_sorted {w : World} {bn : Nat} {ns : List Nod} {NB : List Nat} (h : NodM w bn ns NB) (hs : (ns.map fun nd => byS nd.path).Pairwise (· < ·)) {D : DataW Unit} (m : MapTo D (List.zipWith (fun (nd : Nod) g => (litS nd.path, g)) ns NB)) {ks : List (List UInt8)} (ha : T.Asc D ks) : ks = ns.map fun nd => byS nd.path := by
 refine pw_unique (fun a => List.lt_irrefl a) (fun a b c => List.lt_trans) ha.lt hs fun x => ?_
 rw [ha.mem x, m.hs]
 constructor
 ·rintro ⟨p, hp, e⟩
  obtain ⟨s, hs', g, rfl⟩ := mem_zip hp
  simp only [litS, Lit.string.injEq] at e
  exact List.mem_map.2 ⟨s, hs', e⟩
 ·intro hx
  obtain ⟨s, hs', rfl⟩ := List.mem_map.1 hx
  obtain ⟨i, hi, e⟩ := List.getElem_of_mem hs'
  obtain ⟨g, hg, hm⟩ := key_at_nod h (i := i) (nd := s) (by rw [List.getElem?_eq_getElem hi, e])
  exact ⟨_, hm, rfl⟩
theorem zeroSesP (w : World) : (zeroValue 141).run Tryz.prog w = .ok (.pointer none) w := by kernel_rfl
theorem look_ses {w : World} {bs n : Nat} {D : DataW Unit} {l : List (Lit × Nat)} (o : w.ownsMap Tryz.prog 23 ptrElem bs n D) (m : MapTo D l) {I : Int} {g : Nat} (hp : (Lit.int .u64 I, g) ∈ l) (hI : 0 ≤ I ∧ I < 18446744073709551616) :
  (Instr.lookup 99 (.map (some bs)) (.int .u64 I) false).run Tryz.prog w = .ok (.pointer (some ⟨g, 0, none⟩)) w := by
 obtain ⟨v, ps, hr, hv⟩ := o.lookup keyU Tryz.underlying99 (zeroSesP w) (zd := .nil) (zp := []) rfl (key := .int .u64 I) (keyOf_int_mk Tryz.underlying23 (u64_wf hI))
 rw [m.at' _ hp] at hv
 obtain rfl := ptrElem_inv hv
 exact hr
theorem look_nod {w : World} {bn n : Nat} {D : DataW Unit} {l : List (Lit × Nat)} (o : w.ownsMap Tryz.prog 9 ptrElem bn n D) (m : MapTo D l) {P : List Int} {g : Nat} (hp : (litS P, g) ∈ l) (hP : P.length ≤ 1048576) :
  (Instr.lookup 100 (.map (some bn)) (.string (bstr P)) false).run Tryz.prog w = .ok (.pointer (some ⟨g, 0, none⟩)) w := by
 obtain ⟨v, ps, hr, hv⟩ := o.lookup keyT Tryz.underlying100 (zeroNodeP w) (zd := .nil) (zp := []) rfl (key := .string (bstr P)) (kl := litS P) (by
  rw [WideMaps.keyOf_string_mk Tryz.underlying9 (by rw [bstr_size]; unfold maxLen; omega), bstr_litS])
 rw [m.at' _ hp] at hv
 obtain rfl := ptrElem_inv hv
 exact hr
theorem grown_step {w w1 w2 : World} {sb : Nat} {row : Option Nat} (h : w.grownBy w1 (some sb)) (k : w1.grownBy w2 row) (hr : ∀ b, row = some b → w.heap.size ≤ b ∨ b = sb) : w.grownBy w2 (some sb) :=
 ⟨k.os.trans h.os, k.tape.trans h.tape, k.output.trans h.output, Nat.le_trans h.size k.size, fun i hi hne => (k.block i (Nat.lt_of_lt_of_le hi h.size) (fun e => by
  rcases hr i e.symm with h' | h'
  ·omega
  ·exact hne (by rw [h']))).trans (h.block i hi hne)⟩
theorem grown_set (w : World) (a : Addr) (v : Value) : w.grownBy (w.setCell a v) (some a.block) :=
 ⟨rfl, rfl, rfl, by simp, fun k _ hk => RowKit.Below.heap_setCell _ _ _ _ (fun e => hk (by rw [e]))⟩
theorem below_grow {w w1 w2 : World} {sb : Nat} (h : Below w.heap.size w w1) (k : w1.grownBy w2 (some sb)) (hs : w.heap.size ≤ sb) : Below w.heap.size w w2 := h.grown k h.size (fun b e => by cases e; exact hs)
theorem ownsMap_same {w w' : World} {k : TypeId} {R : Value → Option (DataW Unit × List MemPlace)} {b n : Nat} {D : DataW Unit} (h : w.ownsMap Tryz.prog k R b n D) (hh : w'.heap[b]? = w.heap[b]?) : w'.ownsMap Tryz.prog k R b n D := by
 obtain ⟨es, clock, h1, h2⟩ := h
 exact ⟨es, clock, hh.trans h1, h2⟩
theorem CellsAre.grown {w w' : World} {b : Nat} {vs : List Value} {row : Option Nat} (h : CellsAre w b vs) (hb : b < w.heap.size) (hg : w.grownBy w' row) (hne : some b ≠ row) : CellsAre w' b vs := by
 have hh := hg.block b hb hne
 refine ⟨fun i v hi => (cell_at_heap hh _).trans (h.1 i v hi), fun o => ?_⟩
 have : w'.frozen? ⟨b, o, none⟩ = w.frozen? ⟨b, o, none⟩ := World.frozen?_of_block hh
 rw [this]
 exact h.2 o
theorem bstr_byS (l : List Int) : (⟨(byS l).toArray⟩ : ByteArray) = bstr l := by
 have h : (bstr l).data = (byS l).toArray := by
  rw [← Array.toList_inj]
  simpa [byS] using bstr_data' l
 cases hb : bstr l with
 | mk d => rw [hb] at h; simp only at h; rw [h]
theorem rdK_str {B : Nat} {w : World} {v : Value} {ns : List Nod} (h : T.RdK B w v (ns.map fun nd => byS nd.path)) : ∃ p c, v = .slice p ns.length c ∧ (ns = [] ∨ ∃ g, p = some ⟨g, 0, none⟩ ∧ B ≤ g ∧ g < w.heap.size ∧ ∀ (j : Nat) (nd : Nod), ns[j]? = some nd → w.cell? ⟨g, 0 + j, none⟩ = some (.string (bstr nd.path))) := by
 rcases h with ⟨rfl, h0⟩ | ⟨g, cap, rfl, hb, hl, hH⟩
 ·have : ns = [] := by simpa using h0
  subst this
  exact ⟨none, 0, rfl, .inl rfl⟩
 ·refine ⟨some ⟨g, 0, none⟩, cap, by rw [List.length_map], .inr ⟨g, rfl, hb, hl, fun j nd hj => ?_⟩⟩
  have hjl := (List.getElem?_eq_some_iff.1 hj).1
  have := (hH j (by simpa using hjl)).1
  rw [this, ← bstr_byS]
  have e : (ns.map fun nd => byS nd.path).toArray[j]! = byS nd.path := by
   have e2 : ns[j] = nd := (List.getElem?_eq_some_iff.1 hj).2
   simp [hjl, e2]
  rw [e]
theorem elNo.cells {w : World} {nd : Nod} {c : Array Value} {l : List Lf} (h : elNo w nd c.toList l) : ∃ q0 q1 q2 q3 q4 q5 q6 q7, c = #[q0, q1, q2, q3, q4, q5, q6, q7] ∧ ∀ u ∈ [q0, q1, q2, q3, q4, q5, q6, q7], u.oneCell' = true := by
 obtain ⟨p0, c0, p1, c1, p4, c4, p7, c7, l0, l1, l4, l7, -, h2, -⟩ := h
 refine ⟨_, _, _, _, _, _, _, _, by rw [← Array.toList_inj, h2], fun u hu => ?_⟩
 simp only [List.mem_cons, List.not_mem_nil, or_false] at hu
 rcases hu with rfl | rfl | rfl | rfl | rfl | rfl | rfl | rfl <;> rfl
end Go.Proofs.YtpbppdeleijhkaaGreatDoor
