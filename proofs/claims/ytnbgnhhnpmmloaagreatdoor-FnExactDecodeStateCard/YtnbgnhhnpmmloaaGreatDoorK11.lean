import Derived.Test.YtnbgnhhnpmmloaaGreatDoorK6
import Derived.Test.YtnbgnhhnpmmloaaGreatDoorK8
import Derived.Lib.LastIndexByte
import Derived.Laws.IdiomRangeMap
import Derived.Test.YtnbgnhhnpmmloaaGreatDoorK10
namespace Go.Proofs.YtnbgnhhnpmmloaaGreatDoor
open Go.ChangeShapes Go.WideShapes Go.ChangeAt Go.RowKit Go.Maps
set_option linter.unusedVariables false
set_option linter.unusedSimpArgs false
set_option maxRecDepth 100000
theorem keyU : Keyed Tryz.prog 23 := int_keyed Tryz.underlying23
theorem keyT : Keyed Tryz.prog 9 := string_keyed Tryz.underlying9
theorem u64_wf {i : Int} (h : 0 ≤ i ∧ i < 18446744073709551616) : (Lit.int .u64 i).wf = true := by
 simp only [Lit.wf, IntKind.min, IntKind.max, IntKind.signed, IntKind.bits, Bool.and_eq_true, decide_eq_true_eq]
 simp
 omega
theorem grown_of_below {w w' : World} (h : Below w.heap.size w w') (row : Option Nat) : w.grownBy w' row := ⟨h.os, h.tape, h.output, h.size, fun i hi _ => h.block i hi⟩
theorem below_of_grown {B : Nat} {w0 w w' : World} {row : Option Nat} (h : Below B w0 w) (hg : w.grownBy w' row) (hB : B ≤ w.heap.size) (hr : ∀ j, row = some j → B ≤ j) : Below B w0 w' :=
 ⟨hg.os.trans h.os, hg.tape.trans h.tape, hg.output.trans h.output, Nat.le_trans h.size hg.size, fun k hk => (hg.block k (Nat.lt_of_lt_of_le hk hB) (fun e => by have := hr k e.symm; omega)).trans (h.block k hk)⟩
set_option maxHeartbeats 800000 in
theorem setOf_any (p : Option Addr) (c n : Nat) (ids : List Int) (en : Hid (ids.length = n)) (w : World) (h : RdU w (.slice p n c) ids) (hn : n ≤ 1048576) (hU : Hid (∀ i ∈ ids, 0 ≤ i ∧ i < 18446744073709551616)) :
  Calls Tryz.prog 135 #[.slice p n c] w fun r w' => ∃ D, r = .returned (.map (some w.heap.size)) ∧ w'.ownsMap Tryz.prog 23 unitElem w.heap.size n D ∧ SetTo D ids ∧ Below w.heap.size w w' ∧ w.heap.size < w'.heap.size := by
 have HR := hide fun (w' : World) (hb : Below w.heap.size w w') => h.below hb
 clear h
 have hmm := @run_makeMap Tryz.prog
 go_enter Tryz.func135, Tryz.ntmps135
 go_wp2
 go_loopw [9] (fun iv wr => ∃ (k : Nat) (D : DataW Unit), k ≤ n ∧ iv = .int .i64 k ∧ wr.ownsMap Tryz.prog 23 unitElem w.heap.size k D ∧ Hid (SetTo D (ids.take k)) ∧ Below w.heap.size w wr) (fun iv _ => n - (intOf iv).toNat)
 case atStart => exact ⟨0, _, Nat.zero_le _, rfl, World.ownsMap_made _ _ _ _, SetTo.nil, (Below.refl _ _).alloc (Nat.le_refl _) _⟩
 case round =>
  obtain ⟨k, D, hk, rfl, hown, hset, hbr⟩ := hrel
  by_cases hlt : k < n
  ·have hlt' : (k : Int) < (n : Int) := by omega
   have hkl : k < ids.length := by rw [uh en]; exact hlt
   obtain ⟨b, o, rfl, hcell⟩ : ∃ b o, p = some ⟨b, o, none⟩ ∧ wr.cell? ⟨b, o + k, none⟩ = some (.int .u64 (ids.getD k 0)) := by
    obtain ⟨p', c', ev, hd⟩ := uh HR _ hbr
    simp only [Value.slice.injEq] at ev
    obtain ⟨rfl, -, -⟩ := ev
    rcases hd with h0 | ⟨b, o, h1, h2⟩
    ·rw [h0] at hkl; simp at hkl
    ·exact ⟨b, o, h1, h2 k hkl⟩
   have e1 : ids.take (k + 1) = ids.take k ++ [ids.getD k 0] := by
    rw [List.take_add_one, List.getD_eq_getElem?_getD, List.getElem?_eq_getElem hkl]; rfl
   have hy := uh hU (ids.getD k 0) (by rw [List.getD_eq_getElem?_getD, List.getElem?_eq_getElem hkl]; exact List.getElem_mem hkl)
   have hset2 := (uh hset).put hown.isMap (ids.getD k 0) (.agg [])
   rw [← e1] at hset2
   have HS2 := hide hset2
   clear hset2 e1 hkl hset
   obtain ⟨y, ey⟩ : ∃ y, ids.getD k 0 = y := ⟨_, rfl⟩
   rw [ey] at hcell hy HS2
   clear ey
   have hkey : keyOf Tryz.prog 23 (.int .u64 y) = some (.int .u64 y) := keyOf_int_mk Tryz.underlying23 (u64_wf hy)
   clear hy
   go_wp2_with (first
    | (at_mapUpdate; refine wpList_mapUpdate_own _ rfl _ _ _ 123 rfl 23 _ keyU Tryz.underlying123 unitElem w.heap.size k _ rfl hown (by unfold maxLen; omega) _ _ _ rfl rfl hkey (.agg []) [] unitElem_mk ?_; intro w1 hown1 hgrow1)
    | go_in)
   go_roundw
   case rel => exact ⟨k + 1, _, by omega, by go_num, hown1, HS2, below_of_grown hbr hgrow1 (Nat.le_of_lt (Nat.lt_of_le_of_lt (Nat.le_refl _) hown.lt)) (fun j hj => by cases hj; exact Nat.le_refl _)⟩
   case measure => simp [intOf]; omega
  ·have hlt' : ¬ (k : Int) < (n : Int) := by omega
   have : k = n := by omega
   subst this
   have HS := uh hset
   rw [List.take_of_length_le (by rw [uh en]; exact Nat.le_refl _)] at HS
   go_wp2
   go_ret
   exact ⟨rfl, D, hown, HS, hbr, hown.lt⟩
set_option maxHeartbeats 800000 in
theorem copyU_any (bd bs nd ns : Nat) (Dd Ds : DataW Unit) (sd ss : List Int) (w : World) (hd : w.ownsMap Tryz.prog 23 unitElem bd nd Dd) (hs : w.ownsMap Tryz.prog 23 unitElem bs ns Ds) (hsd : Hid (SetTo Dd sd)) (hss : Hid (SetTo Ds ss)) (hne : bd ≠ bs) (hn : nd ≤ 4611686018427387904) (hm : ns ≤ 1048576) :
  Calls Tryz.prog 138 #[.map (some bd), .map (some bs)] w fun r w' => ∃ D s, r = .returned (.tuple #[]) ∧ w'.ownsMap Tryz.prog 23 unitElem bd (nd + ns) D ∧ SetTo D s ∧ (∀ i, i ∈ s ↔ i ∈ sd ∨ i ∈ ss) ∧ w.grownBy w' (some bd) := by
 have HS := hs
 go_enter Tryz.func138, Tryz.ntmps138
 go_wp2_with (first
  | (at_range; refine wpList_range_own _ rfl _ 123 rfl 23 _ keyU Tryz.underlying123 _ bs ns _ rfl hs ?_; intro w0 hrg0 hg0 hs0)
  | go_in)
 go_frame
 go_loopw [4] (fun _ wr => ∃ (left : Lit → Bool) (cnt k : Nat) (D : DataW Unit) (s : List Int), wr.ranges Tryz.prog 23 unitElem bs w.heap.size ns Ds left cnt ∧ k + cnt ≤ nd + ns ∧ wr.ownsMap Tryz.prog 23 unitElem bd k D ∧ Hid (SetTo D s) ∧ Hid (∀ i, i ∈ s ↔ i ∈ sd ∨ (i ∈ ss ∧ left (.int .u64 i) = false)) ∧ w.grownBy wr (some bd)) (fun _ wr => wr.rangeLeft bs w.heap.size)
 case atStart =>
  refine ⟨_, _, nd, Dd, sd, hrg0, ?_, hd.kept hg0 (by simp), hsd, ?_, hg0.but _⟩
  ·have := hs.size_le
   omega
  ·intro i
   constructor
   ·exact fun h => .inl h
   ·rintro (h | ⟨h1, h2⟩)
    ·exact h
    ·rw [(uh hss (.int .u64 i)).2 ⟨i, h1, rfl⟩] at h2
     cases h2
 case round =>
  obtain ⟨left, cnt, k, D, s, hrg, hkc, hown, hset, hmem, hgw⟩ := hrel
  go_wp2_with (first
   | (at_next; refine wpList_next_set _ rfl _ rfl 23 keyU Tryz.underlying23 bs w.heap.size ns _ ss (uh hss) _ _ rfl hrg ?_ ?_)
   | go_in)
  ·intro _ hl0
   go_wp2
   go_end0
   refine ⟨D, s, rfl, hown.mono (by omega), uh hset, fun i => ?_, hgw⟩
   rw [uh hmem i, hl0]
   simp
  ·intro x w1 cnt1 hwx hx hlx hrg1 hlt hg1 hs1 hen
   have hgw1 := hgw.andThen hg1 (fun j hj => by cases hj; exact Or.inl (Nat.le_refl _))
   have hr := hrg.lt
   have hown1 := hown.kept hg1 (fun e => by cases e; exact absurd hd.lt (by omega))
   have hkey : keyOf Tryz.prog 23 (.int .u64 x) = some (.int .u64 x) := keyOf_int_mk Tryz.underlying23 hwx
   have hset2 := hide ((uh hset).put hown.isMap x (.agg []))
   have hmem2 : Hid (∀ i, i ∈ s ++ [x] ↔ i ∈ sd ∨ (i ∈ ss ∧ (fun z => left z && !z.sameKey (.int .u64 x)) (.int .u64 i) = false)) := by
    intro i
    rw [List.mem_append, uh hmem i]
    simp only [List.mem_singleton]
    have hk : ((Lit.int .u64 i).sameKey (.int .u64 x) = true) ↔ i = x := by
     rw [WideAt.sameKey_iff (by trivial)]
     simp
    by_cases e : i = x
    ·subst e
     rw [hk.2 rfl]
     simp [hx]
    ·rw [show (Lit.int .u64 i).sameKey (.int .u64 x) = false by (rw [Bool.eq_false_iff]; exact fun h => e (hk.1 h))]
     simp [e]
   clear hset hmem
   go_wp2_with (first
    | (at_mapUpdate; refine wpList_mapUpdate_own _ rfl _ _ _ 123 rfl 23 _ keyU Tryz.underlying123 unitElem bd k _ rfl (hown1.alloc _) (by unfold maxLen; omega) _ _ _ rfl rfl hkey (.agg []) [] unitElem_mk ?_; intro w2 hown2 hgrow2)
    | go_in)
   have hrg2 := (hrg1.alloc _).kept hgrow2 (by simp; exact fun e => hne e.symm) (by simp; intro e; exact absurd hd.lt (by omega))
   go_roundw
   case rel => exact ⟨_, cnt1, hrg2, k + 1, by omega, _, hown2, _, hset2, hmem2, (hgw1.andThen (World.grownBy_alloc _ _ none) (fun j hj => by cases hj)).andThen hgrow2 (fun j hj => by cases hj; exact Or.inr rfl)⟩
   case measure => rw [hrg2.left_eq, hrg.left_eq]; omega
theorem bstr_data' (l : List Int) : (bstr l).data.toList = l.map (fun n => UInt8.ofNat n.toNat) := by rw [bstr, bstr_data]; rfl
theorem bstr_size (l : List Int) : (bstr l).size = l.length := by
 show (bstr l).data.size = _
 rw [← Array.length_toList, bstr_data', List.length_map]
theorem bstr_get {l : List Int} (hB : Byt l) (j : Nat) (hj : j < (bstr l).size) : (((bstr l)[j]'hj).toNat : Int) = l.getD j 0 := by
 have hl : j < l.length := by rw [← bstr_size]; exact hj
 have e1 : (bstr l)[j]'hj = (bstr l).data.toList[j]'(by rw [bstr_data', List.length_map]; exact hl) := by rw [Array.getElem_toList]; rfl
 rw [e1]
 simp only [bstr_data', List.getElem_map]
 rw [List.getD_eq_getElem?_getD, List.getElem?_eq_getElem hl, Option.getD_some]
 have := hB l[j] (List.getElem_mem hl)
 rw [UInt8.toNat_ofNat']
 omega
set_option maxHeartbeats 1600000 in
theorem lastByte_any (l : List Int) (n : Nat) (s : ByteArray) (es : Hid (s = bstr l)) (en : s.size = n) (hB : Hid (Byt l)) (hn : n ≤ 2097152) (w : World) :
  Calls Tryz.prog 180 #[.string s, .int .u8 47] w fun e w' => ((∃ k : Nat, e = .returned (.int .i64 k) ∧ k < n ∧ lsl l n = k) ∨ (e = .returned (.int .i64 (-1)) ∧ lsl l n = 0)) ∧ w' = w := by
 have hget : Hid (∀ (j : Nat) (hj : j < s.size), ((s[j]'hj).toNat : Int) = l.getD j 0) := by
  have e := uh es
  subst e
  exact fun j hj => bstr_get (uh hB) j hj
 subst en
 go_enter Tryz.func180, Tryz.ntmps180
 go_wp2
 go_loop [5] (fun vi => ∃ k : Nat, k ≤ s.size ∧ vi = .int .i64 ((k : Int) - 1) ∧ Hid (lsl l s.size = lsl l k)) (fun vi => ((RowKit.intOf vi) + 1).toNat)
 case atStart => exact ⟨s.size, Nat.le_refl _, by first | rfl | go_num | (congr 1; omega), (by show _ = _; rfl)⟩
 case round =>
  obtain ⟨k, hk, rfl, hh⟩ := hrel
  go_wp2
  ·have hc : (((s[k - 1]).toNat : Int) == 47) = true := by assumption
   have k1 : 1 ≤ k := by omega
   have e1 : lsl l k = k - 1 := by
    have := lsl_step l (k - 1)
    rw [show k - 1 + 1 = k by omega] at this
    rw [this, if_pos]
    rw [← uh hget (k - 1) (by omega)]
    simpa using hc
   have e2 : ((k - 1 : Nat) : Int) = (k : Int) - 1 := by omega
   go_ret
   refine ⟨.inl ⟨k - 1, by rw [e2]; rfl, by omega, by rw [uh hh, e1]⟩, rfl⟩
  ·have hc : (((s[k - 1]).toNat : Int) == 47) = false := by assumption
   have k1 : 1 ≤ k := by omega
   have e1 : lsl l k = lsl l (k - 1) := by
    have := lsl_step l (k - 1)
    rw [show k - 1 + 1 = k by omega] at this
    rw [this, if_neg]
    rw [← uh hget (k - 1) (by omega)]
    simpa using hc
   refine ⟨⟨k - 1, by omega, by congr 1; omega, (uh hh).trans e1⟩, ?_⟩
   simp [RowKit.intOf]; omega
  ·have k0 : k = 0 := by omega
   subst k0
   go_ret
   exact ⟨.inr ⟨rfl, uh hh⟩, rfl⟩
theorem lastIdx_any (l : List Int) (n : Nat) (s : ByteArray) (es : Hid (s = bstr l)) (en : s.size = n) (hB : Hid (Byt l)) (hn : n ≤ 2097152) (w : World) :
  Calls Tryz.prog 162 #[.string s, .int .u8 47] w fun e w' => ((∃ k : Nat, e = .returned (.int .i64 k) ∧ k < n ∧ lsl l n = k) ∨ (e = .returned (.int .i64 (-1)) ∧ lsl l n = 0)) ∧ w' = w := by
 go_enter Tryz.func162, Tryz.ntmps162
 go_wp2_with fail
 refine (lastByte_any l n s es en hB hn w).mono ?_
 rintro e w' ⟨hr, rfl⟩
 rcases hr with ⟨k, rfl, hk, hl⟩ | ⟨rfl, hl⟩
 ·have HL := hide hl
  clear hl
  go_wp2
  go_ret
  exact ⟨.inl ⟨k, rfl, hk, uh HL⟩, rfl⟩
 ·have HL := hide hl
  clear hl
  go_wp2
  go_ret
  exact ⟨.inr ⟨rfl, uh HL⟩, rfl⟩
set_option maxHeartbeats 800000 in
theorem parentOf_any (l : List Int) (n : Nat) (en : Hid (l.length = n)) (hB : Hid (Byt l)) (hn : n ≤ 1048576) (w : World) :
  Calls Tryz.prog 137 #[.string (bstr l)] w fun e w' => e = .returned (.string (bstr (parL l))) ∧ w' = w := by
 obtain ⟨s, es⟩ : ∃ s, s = bstr l := ⟨_, rfl⟩
 have hs : s.size = n := by rw [es, bstr_size]; exact uh en
 rw [← es]
 have ES := hide es
 clear es
 go_enter Tryz.func137, Tryz.ntmps137
 go_wp2_with fail
 refine (lastIdx_any l n s ES hs hB (by omega) w).mono ?_
 rintro e w' ⟨hr, rfl⟩
 rcases hr with ⟨k, rfl, hk, hl⟩ | ⟨rfl, hl⟩
 ·by_cases k0 : k = 0
  ·subst k0
   have e1 : parL l = [47] := by rw [parL, uh en, hl, if_pos rfl]
   have E1 := hide e1
   clear hl e1
   go_wp2
   go_ret
   exact ⟨by rw [uh E1]; rfl, rfl⟩
  ·have e1 : parL l = l.take k := by rw [parL, uh en, hl, if_neg k0]
   have E1 := hide e1
   clear e1
   have g1 : ¬ (k : Int) < 1 := by omega
   have g2 : (k : Int) ≤ (n : Int) := by omega
   have g3 : k ≤ s.size := by omega
   have ex : Hid (s.extract 0 k = bstr (l.take k)) := by
    show _ = _
    rw [uh ES]
    apply ByteArray.ext
    apply Array.toList_inj.1
    rw [bstr_data', List.map_take, ← bstr_data']
    simp [ByteArray.data_extract]
   clear hl
   go_wp2
   go_ret
   exact ⟨by rw [uh E1, ← uh ex]; rfl, rfl⟩
 ·have e1 : parL l = [47] := by rw [parL, uh en, hl, if_pos rfl]
  have E1 := hide e1
  clear hl e1
  go_wp2
  go_ret
  exact ⟨by rw [uh E1]; rfl, rfl⟩
structure SesL (w0 w : World) (bs : Nat) (ss : List Ses) (SB : List Nat) : Prop where
 len : SB.length = ss.length
 own : ∃ D, w.ownsMap Tryz.prog 23 ptrElem bs ss.length D ∧ MapTo D (List.zipWith (fun (s : Ses) g => (Lit.int .u64 s.1, g)) ss SB)
 blk : ∀ (i : Nat) (s : Ses) (g : Nat), ss[i]? = some s → SB[i]? = some g → w0.heap.size ≤ g ∧ ∃ u, w.heap[g]? = some (.cells #[.int .u64 s.1, .int .i64 s.2.1, u] 59) ∧ RdEc w0 u s.2.2
 nod : SB.Nodup
structure NodL (w0 w : World) (bn : Nat) (ns : List Nod) (NB HB UB : List Nat) : Prop where
 len : NB.length = ns.length
 lenH : HB.length = ns.length
 lenU : UB.length = ns.length
 own : ∃ D, w.ownsMap Tryz.prog 9 ptrElem bn ns.length D ∧ MapTo D (List.zipWith (fun (nd : Nod) g => (litS nd.path, g)) ns NB)
 blk : ∀ (i : Nat) (nd : Nod) (g h u : Nat), ns[i]? = some nd → NB[i]? = some g → HB[i]? = some h → UB[i]? = some u → w0.heap.size ≤ g ∧ w0.heap.size ≤ h ∧ w0.heap.size ≤ u ∧
  (∃ V, w.heap[g]? = some (.cells #[V, .int .u64 nd.owner, .int .i64 nd.mode, .map (some h), .int .u64 nd.epoch, .int .u64 nd.gen, .map (some u)] 166) ∧ Rd w0 V nd.value) ∧
  (∃ D, w.ownsMap Tryz.prog 23 unitElem h nd.holders.length D ∧ SetTo D nd.holders) ∧ (∃ D, w.ownsMap Tryz.prog 23 unitElem u nd.watchers.length D ∧ SetTo D nd.watchers)
 nod : NB.Nodup
 dis : (bn :: (HB ++ UB)).Nodup
theorem ownsMap_cells {P : Program} {k : TypeId} {R : Value → Option (DataW Unit × List MemPlace)} {w : World} {b n g : Nat} {D : DataW Unit} {cs : Array Value} {t : TypeId} (h : w.ownsMap P k R b n D) (hg : w.heap[g]? = some (.cells cs t)) : g ≠ b := by
 rintro rfl
 obtain ⟨es, cl, hb, _⟩ := h
 rw [hb] at hg
 cases hg
theorem heap_lt {w : World} {g : Nat} {o : Obj} (h : w.heap[g]? = some o) : g < w.heap.size := (Array.getElem?_eq_some_iff.1 h).1
theorem SesL.kept {w0 w w' : World} {bs : Nat} {ss : List Ses} {SB : List Nat} {row : Option Nat} (h : SesL w0 w bs ss SB) (hg : w.grownBy w' row) (h1 : some bs ≠ row) (h2 : ∀ g ∈ SB, some g ≠ row) : SesL w0 w' bs ss SB := by
 refine ⟨h.len, ?_, fun i s g hi hgi => ?_, h.nod⟩
 ·obtain ⟨D, hD, hM⟩ := h.own
  exact ⟨D, hD.kept hg h1, hM⟩
 ·obtain ⟨a1, u, a2, a3⟩ := h.blk i s g hi hgi
  exact ⟨a1, u, (hg.block g (heap_lt a2) (h2 g (List.mem_of_getElem? hgi))).trans a2, a3⟩
theorem NodL.kept {w0 w w' : World} {bn : Nat} {ns : List Nod} {NB HB UB : List Nat} {row : Option Nat} (h : NodL w0 w bn ns NB HB UB) (hg : w.grownBy w' row) (h1 : some bn ≠ row) (h2 : ∀ g ∈ NB, some g ≠ row) (h3 : ∀ g ∈ HB ++ UB, some g ≠ row) : NodL w0 w' bn ns NB HB UB := by
 refine ⟨h.len, h.lenH, h.lenU, ?_, fun i nd g hh u hi hgi hhi hui => ?_, h.nod, h.dis⟩
 ·obtain ⟨D, hD, hM⟩ := h.own
  exact ⟨D, hD.kept hg h1, hM⟩
 ·obtain ⟨a1, a2, a3, ⟨V, a4, a5⟩, ⟨D1, a6, a7⟩, ⟨D2, a8, a9⟩⟩ := h.blk i nd g hh u hi hgi hhi hui
  exact ⟨a1, a2, a3, ⟨V, (hg.block g (heap_lt a4) (h2 g (List.mem_of_getElem? hgi))).trans a4, a5⟩, ⟨D1, a6.kept hg (h3 _ (List.mem_append.2 (.inl (List.mem_of_getElem? hhi)))), a7⟩, ⟨D2, a8.kept hg (h3 _ (List.mem_append.2 (.inr (List.mem_of_getElem? hui)))), a9⟩⟩
theorem getElem?_snoc {α : Type} {l : List α} {x y : α} {i : Nat} (h : (l ++ [x])[i]? = some y) : l[i]? = some y ∨ (i = l.length ∧ x = y) := by
 by_cases hi : i < l.length
 ·rw [List.getElem?_append_left hi] at h
  exact .inl h
 ·rw [List.getElem?_append_right (by omega)] at h
  right
  obtain ⟨hlt, e⟩ := List.getElem?_eq_some_iff.1 h
  simp at hlt
  refine ⟨by omega, ?_⟩
  simpa [show i - l.length = 0 by omega] using h
theorem zip_snoc {α β γ : Type} (f : α → β → γ) {l : List α} {m : List β} (h : m.length = l.length) (x : α) (y : β) : List.zipWith f (l ++ [x]) (m ++ [y]) = List.zipWith f l m ++ [f x y] := by
 rw [List.zipWith_append (by omega)]
 rfl
theorem zip_mem {α β γ : Type} {f : α → β → γ} {l : List α} {m : List β} {z : γ} (h : z ∈ List.zipWith f l m) : ∃ (i : Nat) (x : α) (y : β), l[i]? = some x ∧ m[i]? = some y ∧ z = f x y := by
 obtain ⟨i, hi, rfl⟩ := List.getElem_of_mem h
 rw [List.length_zipWith] at hi
 refine ⟨i, l[i]'(by omega), m[i]'(by omega), List.getElem?_eq_getElem _, List.getElem?_eq_getElem _, ?_⟩
 simp
theorem SesL.empty {w0 w : World} {bs : Nat} (h : w.ownsMap Tryz.prog 23 ptrElem bs 0 (.map [])) : SesL w0 w bs [] [] :=
 ⟨rfl, ⟨_, h, MapTo.nil⟩, fun i s g hi => by simp at hi, List.nodup_nil⟩
theorem NodL.empty {w0 w : World} {bn : Nat} (h : w.ownsMap Tryz.prog 9 ptrElem bn 0 (.map [])) : NodL w0 w bn [] [] [] [] :=
 ⟨rfl, rfl, rfl, ⟨_, h, MapTo.nil⟩, fun i s g _ _ hi => by simp at hi, List.nodup_nil, by simp⟩
theorem SesL.lt {w0 w : World} {bs : Nat} {ss : List Ses} {SB : List Nat} (h : SesL w0 w bs ss SB) : ∀ g ∈ SB, g < w.heap.size := by
 intro g hg
 obtain ⟨i, hi⟩ := List.getElem?_of_mem hg
 have hl := (List.getElem?_eq_some_iff.1 hi).1
 obtain ⟨s, hs⟩ : ∃ s, ss[i]? = some s := ⟨_, List.getElem?_eq_getElem (by rw [← h.len]; exact hl)⟩
 obtain ⟨_, u, a2, _⟩ := h.blk i s g hs hi
 exact heap_lt a2
theorem NodL.at {w0 w : World} {bn : Nat} {ns : List Nod} {NB HB UB : List Nat} (h : NodL w0 w bn ns NB HB UB) {i : Nat} {nd : Nod} (hi : ns[i]? = some nd) : ∃ g hh u, NB[i]? = some g ∧ HB[i]? = some hh ∧ UB[i]? = some u := by
 have hl := (List.getElem?_eq_some_iff.1 hi).1
 exact ⟨_, _, _, List.getElem?_eq_getElem (by rw [h.len]; exact hl), List.getElem?_eq_getElem (by rw [h.lenH]; exact hl), List.getElem?_eq_getElem (by rw [h.lenU]; exact hl)⟩
theorem NodL.lt {w0 w : World} {bn : Nat} {ns : List Nod} {NB HB UB : List Nat} (h : NodL w0 w bn ns NB HB UB) : (∀ g ∈ NB, g < w.heap.size) ∧ ∀ g ∈ HB ++ UB, g < w.heap.size := by
 have key : ∀ i, i < ns.length → ∃ g hh u, NB[i]? = some g ∧ HB[i]? = some hh ∧ UB[i]? = some u ∧ g < w.heap.size ∧ hh < w.heap.size ∧ u < w.heap.size := fun i hi => by
  obtain ⟨nd, hnd⟩ : ∃ s, ns[i]? = some s := ⟨_, List.getElem?_eq_getElem hi⟩
  obtain ⟨g, hh, u, e1, e2, e3⟩ := h.at hnd
  obtain ⟨_, _, _, ⟨V, a4, _⟩, ⟨D1, a6, _⟩, ⟨D2, a8, _⟩⟩ := h.blk i nd g hh u hnd e1 e2 e3
  exact ⟨g, hh, u, e1, e2, e3, heap_lt a4, a6.lt, a8.lt⟩
 refine ⟨fun g hg => ?_, fun g hg => ?_⟩
 ·obtain ⟨i, hi⟩ := List.getElem?_of_mem hg
  have hl := (List.getElem?_eq_some_iff.1 hi).1
  obtain ⟨g', _, _, e1, _, _, a, _, _⟩ := key i (by rw [← h.len]; exact hl)
  rw [hi] at e1
  cases e1
  exact a
 ·rcases List.mem_append.1 hg with hg | hg
  ·obtain ⟨i, hi⟩ := List.getElem?_of_mem hg
   have hl := (List.getElem?_eq_some_iff.1 hi).1
   obtain ⟨_, g', _, _, e1, _, _, a, _⟩ := key i (by rw [← h.lenH]; exact hl)
   rw [hi] at e1
   cases e1
   exact a
  ·obtain ⟨i, hi⟩ := List.getElem?_of_mem hg
   have hl := (List.getElem?_eq_some_iff.1 hi).1
   obtain ⟨_, _, g', _, _, e1, _, _, a⟩ := key i (by rw [← h.lenU]; exact hl)
   rw [hi] at e1
   cases e1
   exact a
theorem nodup_snoc {l : List Nat} {x : Nat} (h : l.Nodup) (hx : ∀ y ∈ l, y ≠ x) : (l ++ [x]).Nodup := by
 rw [List.nodup_append]
 exact ⟨h, by simp, fun a ha b hb => by simp at hb; subst hb; exact hx a ha⟩
theorem SesL.step {w0 w w1 w2 : World} {bs : Nat} {ss : List Ses} {SB : List Nat} (h : SesL w0 w bs ss SB) (s : Ses) (g : Nat) (hg : w.grownBy w1 none) (hgn : w.heap.size ≤ g) (hw : w0.heap.size ≤ w.heap.size) (u : Value) (hu : RdEc w0 u s.2.2) (hb : w1.heap[g]? = some (.cells #[.int .u64 s.1, .int .i64 s.2.1, u] 59))
  (hid : ∀ z ∈ ss, z.1 ≠ s.1) {D : DataW Unit} (hM : MapTo D (List.zipWith (fun (s : Ses) g => (Lit.int .u64 s.1, g)) ss SB)) (hD : IsMap D)
  (hown : w2.ownsMap Tryz.prog 23 ptrElem bs (ss.length + 1) (D.put (.int .u64 s.1) (.lit (.int .i64 g)))) (hg2 : w1.grownBy w2 (some bs)) : SesL w0 w2 bs (ss ++ [s]) (SB ++ [g]) := by
 have hbs : bs < w.heap.size := by obtain ⟨D, hD, _⟩ := h.own; exact hD.lt
 refine ⟨by simp [h.len], ⟨_, by rw [List.length_append]; exact hown, ?_⟩, fun i z g' hi hgi => ?_, nodup_snoc h.nod (fun y hy => by have := h.lt y hy; omega)⟩
 ·rw [zip_snoc _ h.len]
  refine hM.put hD (by trivial) (fun p hp => ?_) g
  obtain ⟨i, x, y, hx, hy, rfl⟩ := zip_mem hp
  intro e
  simp only [Lit.int.injEq, true_and] at e
  exact hid x (List.mem_of_getElem? hx) e
 ·rcases getElem?_snoc hi with hi' | ⟨e1, rfl⟩
  ·have hl := (List.getElem?_eq_some_iff.1 hi').1
   rw [List.getElem?_append_left (by rw [h.len]; exact hl)] at hgi
   obtain ⟨a1, v, a2, a3⟩ := h.blk i z g' hi' hgi
   refine ⟨a1, v, ?_, a3⟩
   have b1 := (hg.block g' (heap_lt a2) (by simp)).trans a2
   refine (hg2.block g' (heap_lt b1) ?_).trans b1
   obtain ⟨D', hD', _⟩ := h.own
   have := ownsMap_cells hD' a2
   simpa using this
  ·rw [e1, ← h.len, List.getElem?_append_right (Nat.le_refl _)] at hgi
   simp at hgi
   subst hgi
   refine ⟨by omega, u, ?_, hu⟩
   exact (hg2.block _ (heap_lt hb) (by simp; omega)).trans hb
structure StoreAt (w0 w : World) (b bs bn : Nat) (e g x t : Int) (ss : List Ses) (ns : List Nod) (SB NB HB UB : List Nat) : Prop where
 hd : w.heap[b]? = some (.cells #[.int .u64 e, .int .u64 g, .int .u64 x, .int .i64 t, .map (some bs), .map (some bn)] 161)
 ses : SesL w0 w bs ss SB
 nod : NodL w0 w bn ns NB HB UB
 lo : w0.heap.size ≤ b ∧ w0.heap.size ≤ bs ∧ w0.heap.size ≤ bn
 dis : (bs :: bn :: (HB ++ UB)).Nodup
theorem StoreAt.below {w0 w w' : World} {b bs bn : Nat} {e g x t : Int} {ss : List Ses} {ns : List Nod} {SB NB HB UB : List Nat} (h : StoreAt w0 w b bs bn e g x t ss ns SB NB HB UB) (hb : Below w.heap.size w w') : StoreAt w0 w' b bs bn e g x t ss ns SB NB HB UB :=
 ⟨(hb.block b (heap_lt h.hd)).trans h.hd, h.ses.kept (grown_of_below hb none) (by simp) (by simp), h.nod.kept (grown_of_below hb none) (by simp) (by simp) (by simp), h.lo, h.dis⟩
theorem cells_at {w : World} {g : Nat} {cs : Array Value} {t : TypeId} (h : w.heap[g]? = some (.cells cs t)) (i : Nat) : w.cell? ⟨g, i, none⟩ = cs[i]? := by
 unfold World.cell?
 rw [h]
 rfl
theorem NodL.step {w0 w w1 w2 : World} {bn : Nat} {ns : List Nod} {NB HB UB : List Nat} (h : NodL w0 w bn ns NB HB UB) (nd : Nod) (g hb ub : Nat) (hg : w.grownBy w1 none) (hgn : w.heap.size ≤ g) (hhn : w.heap.size ≤ hb) (hun : w.heap.size ≤ ub) (hne : hb ≠ ub) (hw : w0.heap.size ≤ w.heap.size) (V : Value) (hV : Rd w0 V nd.value)
  (hbk : w1.heap[g]? = some (.cells #[V, .int .u64 nd.owner, .int .i64 nd.mode, .map (some hb), .int .u64 nd.epoch, .int .u64 nd.gen, .map (some ub)] 166))
  {D1 D2 : DataW Unit} (hH : w1.ownsMap Tryz.prog 23 unitElem hb nd.holders.length D1) (hHs : SetTo D1 nd.holders) (hU : w1.ownsMap Tryz.prog 23 unitElem ub nd.watchers.length D2) (hUs : SetTo D2 nd.watchers)
  (hid : ∀ z ∈ ns, litS z.path ≠ litS nd.path) {D : DataW Unit} (hM : MapTo D (List.zipWith (fun (nd : Nod) g => (litS nd.path, g)) ns NB)) (hD : IsMap D)
  (hown : w2.ownsMap Tryz.prog 9 ptrElem bn (ns.length + 1) (D.put (litS nd.path) (.lit (.int .i64 g)))) (hg2 : w1.grownBy w2 (some bn)) : NodL w0 w2 bn (ns ++ [nd]) (NB ++ [g]) (HB ++ [hb]) (UB ++ [ub]) := by
 have hbn : bn < w.heap.size := by obtain ⟨D, hD, _⟩ := h.own; exact hD.lt
 have hlt := h.lt
 refine ⟨by simp [h.len], by simp [h.lenH], by simp [h.lenU], ⟨_, by rw [List.length_append]; exact hown, ?_⟩, fun i z g' h' u' hi hgi hhi hui => ?_, nodup_snoc h.nod (fun y hy => by have := hlt.1 y hy; omega), ?_⟩
 ·rw [zip_snoc _ h.len]
  refine hM.put hD (by trivial) (fun p hp => ?_) g
  obtain ⟨i, x, y, hx, hy, rfl⟩ := zip_mem hp
  exact fun e => hid x (List.mem_of_getElem? hx) e
 ·rcases getElem?_snoc hi with hi' | ⟨e1, rfl⟩
  ·have hl := (List.getElem?_eq_some_iff.1 hi').1
   rw [List.getElem?_append_left (by rw [h.len]; exact hl)] at hgi
   rw [List.getElem?_append_left (by rw [h.lenH]; exact hl)] at hhi
   rw [List.getElem?_append_left (by rw [h.lenU]; exact hl)] at hui
   obtain ⟨a1, a2, a3, ⟨V', a4, a5⟩, ⟨E1, a6, a7⟩, ⟨E2, a8, a9⟩⟩ := h.blk i z g' h' u' hi' hgi hhi hui
   have hdis := h.dis
   rw [List.nodup_cons] at hdis
   have n1 : some h' ≠ some bn := by
    intro e
    cases e
    exact hdis.1 (List.mem_append.2 (.inl (List.mem_of_getElem? hhi)))
   have n2 : some u' ≠ some bn := by
    intro e
    cases e
    exact hdis.1 (List.mem_append.2 (.inr (List.mem_of_getElem? hui)))
   have b1 := (hg.block g' (heap_lt a4) (by simp)).trans a4
   refine ⟨a1, a2, a3, ⟨V', (hg2.block g' (heap_lt b1) ?_).trans b1, a5⟩, ⟨E1, (a6.kept hg (by simp)).kept hg2 n1, a7⟩, ⟨E2, (a8.kept hg (by simp)).kept hg2 n2, a9⟩⟩
   obtain ⟨D', hD', _⟩ := h.own
   have := ownsMap_cells hD' a4
   simpa using this
  ·rw [e1, ← h.len, List.getElem?_append_right (Nat.le_refl _)] at hgi
   rw [e1, ← h.lenH, List.getElem?_append_right (Nat.le_refl _)] at hhi
   rw [e1, ← h.lenU, List.getElem?_append_right (Nat.le_refl _)] at hui
   simp at hgi hhi hui
   subst hgi hhi hui
   exact ⟨by omega, by omega, by omega, ⟨V, (hg2.block _ (heap_lt hbk) (by simp; omega)).trans hbk, hV⟩, ⟨D1, hH.kept hg2 (by simp; omega), hHs⟩, ⟨D2, hU.kept hg2 (by simp; omega), hUs⟩⟩
 ·have hp : ((HB ++ [hb]) ++ (UB ++ [ub])).Perm ((HB ++ UB) ++ [hb, ub]) := by
   rw [List.append_assoc, List.append_assoc]
   exact List.Perm.append_left HB (show (hb :: (UB ++ [ub])).Perm (UB ++ hb :: [ub]) from List.perm_middle.symm)
  have hq : (bn :: ((HB ++ [hb]) ++ (UB ++ [ub]))).Perm ((bn :: (HB ++ UB)) ++ [hb, ub]) := hp.cons bn
  rw [hq.nodup_iff, List.nodup_append]
  refine ⟨h.dis, by simp [hne], fun a ha c hc => ?_⟩
  have hal : a < w.heap.size := by
   rcases List.mem_cons.1 ha with rfl | ha
   ·exact hbn
   ·exact hlt.2 a ha
  simp at hc
  rcases hc with rfl | rfl <;> omega
theorem step_mapUpdate {P : Program} {w : World} {ops : Array Oper} {o : Oper} {a : Act} {K : Act → World → Prop} {Q : Exit → Act → World → Prop} {E : Prop} (hgd : o.guard = none) (m x v : Operand) (t : TypeId) (hop : o.op = Op.mapUpdate t m x v)
  (k e : TypeId) (KK : Keyed P k) (ht : P.underlying t = some (.map k e)) (R : Value → Option (DataW Unit × List MemPlace)) (b n : Nat) (D : DataW Unit)
  (hm : a.eval m = .map (some b)) (hown : w.ownsMap P k R b n D) (hn : n < maxLen) (key val : Value) (kl : Lit) (hx : a.eval x = key) (hv : a.eval v = val) (hkey : keyOf P k key = some kl)
  (d : DataW Unit) (ps : List MemPlace) (hval : R val = some (d, ps)) (hK : ∀ w', w'.ownsMap P k R b (n + 1) (D.put kl d) → w.grownBy w' (some b) → K (a.put o.dst undef) w') :
  if Region.wanted o (yielded ops a.tmps) = true then Oper.wp P o a w K Q else E := by
 have hw : Region.wanted o (yielded ops a.tmps) = true := by simp [Region.wanted, hgd]
 rw [if_pos hw]
 obtain ⟨w', hrun, r1, r2⟩ := hown.update KK ht hn hkey hval
 unfold Oper.wp
 simp [execOp, hop, hm, hx, hv, hrun, Result.andThen]
 exact hK w' r1 r2
theorem step_box {P : Program} {w : World} {ops : Array Oper} {o : Oper} {a : Act} {K : Act → World → Prop} {Q : Exit → Act → World → Prop} {E : Prop} (hgd : o.guard = none) (t : TypeId) (x : Operand) (hop : o.op = Op.box t x) (v : Value) (hx : a.eval x = v) (r : Value) (w' : World) (hrun : (Instr.box t v).run P w = .ok r w')
  (hK : K (a.put o.dst r) w') : if Region.wanted o (yielded ops a.tmps) = true then Oper.wp P o a w K Q else E := by
 have hw : Region.wanted o (yielded ops a.tmps) = true := by simp [Region.wanted, hgd]
 rw [if_pos hw]
 unfold Oper.wp
 simp [execOp, hop, hx, hrun, Result.andThen]
 exact hK
theorem run_boxNode (w : World) (V : Value) (ow mo ep ge : Int) (h u : Nat) : (Instr.box 166 (.agg #[V, .int .u64 ow, .int .i64 mo, .map (some h), .int .u64 ep, .int .u64 ge, .map (some u)])).run Tryz.prog w = .ok (.pointer (some ⟨w.heap.size, 0, none⟩)) (w.alloc (.cells #[V, .int .u64 ow, .int .i64 mo, .map (some h), .int .u64 ep, .int .u64 ge, .map (some u)] 166)) := by
 go_simp
end Go.Proofs.YtnbgnhhnpmmloaaGreatDoor
