import Derived.Test.YtpbppdeleijhkaaGreatDoorJ3
import Derived.Test.YtpbppdeleijhkaaGreatDoorVM0
import Derived.Lib.LastIndexByte
import Derived.Laws.IdiomRangeMap
namespace Go.Proofs.YtpbppdeleijhkaaGreatDoor
open Go.ChangeShapes Go.WideShapes Go.ChangeAt Go.RowKit Go.Maps
set_option linter.unusedVariables false
set_option linter.unusedSimpArgs false
set_option maxRecDepth 100000

theorem keyU : Keyed Tryz.prog 23 := int_keyed Tryz.underlying23
theorem keyT : Keyed Tryz.prog 9 := string_keyed Tryz.underlying9
theorem u64_wf {i : Int} (h : 0 ≤ i ∧ i < 18446744073709551616) : (Lit.int .u64 i).wf = true := by
  simp only [Lit.wf, IntKind.min, IntKind.max, IntKind.signed, IntKind.bits, Bool.and_eq_true, decide_eq_true_eq]
  simp
  omega
theorem grown_of_below {w w' : World} (h : Below w.heap.size w w') (row : Option Nat) : w.grownBy w' row := ⟨h.os, h.tape, h.output, h.size, fun i hi _ => h.block i hi⟩
theorem below_of_grown {B : Nat} {w0 w w' : World} {row : Option Nat} (h : Below B w0 w) (hg : w.grownBy w' row) (hB : B ≤ w.heap.size) (hr : ∀ j, row = some j → B ≤ j) : Below B w0 w' :=
  ⟨hg.os.trans h.os, hg.tape.trans h.tape, hg.output.trans h.output, Nat.le_trans h.size hg.size, fun k hk => (hg.block k (Nat.lt_of_lt_of_le hk hB) (fun e => by have := hr k e.symm; omega)).trans (h.block k hk)⟩

set_option maxHeartbeats 800000 in
theorem setOf_any (p : Option Addr) (c n : Nat) (ids : List Int) (en : Hid (ids.length = n)) (w : World) (h : RdU w (.slice p n c) ids) (hn : n ≤ 1048576) (hU : Hid (∀ i ∈ ids, 0 ≤ i ∧ i < 18446744073709551616)) :
    Calls Tryz.prog 119 #[.slice p n c] w fun r w' => ∃ D, r = .returned (.map (some w.heap.size)) ∧ w'.ownsMap Tryz.prog 23 unitElem w.heap.size n D ∧ SetTo D ids ∧ Below w.heap.size w w' ∧ w.heap.size < w'.heap.size := by
  have HR := hide fun (w' : World) (hb : Below w.heap.size w w') => h.below hb
  clear h
  have hmm := @run_makeMap Tryz.prog
  go_enter Tryz.func119, Tryz.ntmps119
  go_wp2
  go_loopw [9] (fun iv wr => ∃ (k : Nat) (D : DataW Unit), k ≤ n ∧ iv = .int .i64 k ∧ wr.ownsMap Tryz.prog 23 unitElem w.heap.size k D ∧ Hid (SetTo D (ids.take k)) ∧ Below w.heap.size w wr) (fun iv _ => n - (intOf iv).toNat)
  case atStart => exact ⟨0, _, Nat.zero_le _, rfl, World.ownsMap_made _ _ _ _, SetTo.nil, (Below.refl _ _).alloc (Nat.le_refl _) _⟩
  case round =>
    obtain ⟨k, D, hk, rfl, hown, hset, hbr⟩ := hrel
    by_cases hlt : k < n
    · have hlt' : (k : Int) < (n : Int) := by omega
      have hkl : k < ids.length := by rw [unhide en]; exact hlt
      obtain ⟨b, o, rfl, hcell⟩ : ∃ b o, p = some ⟨b, o, none⟩ ∧ wr.cell? ⟨b, o + k, none⟩ = some (.int .u64 (ids.getD k 0)) := by
        obtain ⟨p', c', ev, hd⟩ := unhide HR _ hbr
        simp only [Value.slice.injEq] at ev
        obtain ⟨rfl, -, -⟩ := ev
        rcases hd with h0 | ⟨b, o, h1, h2⟩
        · rw [h0] at hkl; simp at hkl
        · exact ⟨b, o, h1, h2 k hkl⟩
      have e1 : ids.take (k + 1) = ids.take k ++ [ids.getD k 0] := by
        rw [List.take_add_one, List.getD_eq_getElem?_getD, List.getElem?_eq_getElem hkl]; rfl
      have hy := unhide hU (ids.getD k 0) (by rw [List.getD_eq_getElem?_getD, List.getElem?_eq_getElem hkl]; exact List.getElem_mem hkl)
      have hset2 := (unhide hset).put hown.isMap (ids.getD k 0) (.agg [])
      rw [← e1] at hset2
      have HS2 := hide hset2
      clear hset2 e1 hkl hset
      obtain ⟨y, ey⟩ : ∃ y, ids.getD k 0 = y := ⟨_, rfl⟩
      rw [ey] at hcell hy HS2
      clear ey
      have hkey : keyOf Tryz.prog 23 (.int .u64 y) = some (.int .u64 y) := keyOf_int_mk Tryz.underlying23 (u64_wf hy)
      clear hy
      go_wp2_with (first
        | (at_mapUpdate; refine wpList_mapUpdate_own _ rfl _ _ _ 135 rfl 23 _ keyU Tryz.underlying135 unitElem w.heap.size k _ rfl hown (by unfold maxLen; omega) _ _ _ rfl rfl hkey (.agg []) [] unitElem_mk ?_; intro w1 hown1 hgrow1)
        | go_in)
      go_roundw
      case rel => exact ⟨k + 1, _, by omega, by go_num, hown1, HS2, below_of_grown hbr hgrow1 (Nat.le_of_lt (Nat.lt_of_le_of_lt (Nat.le_refl _) hown.lt)) (fun j hj => by cases hj; exact Nat.le_refl _)⟩
      case measure => simp [intOf]; omega
    · have hlt' : ¬ (k : Int) < (n : Int) := by omega
      have : k = n := by omega
      subst this
      have HS := unhide hset
      rw [List.take_of_length_le (by rw [unhide en]; exact Nat.le_refl _)] at HS
      go_wp2
      go_ret
      exact ⟨rfl, D, hown, HS, hbr, hown.lt⟩

set_option maxHeartbeats 800000 in
/-- maps.Copy at sets: the set grows by the other -/
theorem copyU_any (bd bs nd ns : Nat) (Dd Ds : DataW Unit) (sd ss : List Int) (w : World) (hd : w.ownsMap Tryz.prog 23 unitElem bd nd Dd) (hs : w.ownsMap Tryz.prog 23 unitElem bs ns Ds) (hsd : Hid (SetTo Dd sd)) (hss : Hid (SetTo Ds ss)) (hne : bd ≠ bs) (hn : nd ≤ 4611686018427387904) (hm : ns ≤ 1048576) :
    Calls Tryz.prog 160 #[.map (some bd), .map (some bs)] w fun r w' => ∃ D s, r = .returned (.tuple #[]) ∧ w'.ownsMap Tryz.prog 23 unitElem bd (nd + ns) D ∧ SetTo D s ∧ (∀ i, i ∈ s ↔ i ∈ sd ∨ i ∈ ss) ∧ w.grownBy w' (some bd) := by
  have HS := hs
  go_enter Tryz.func160, Tryz.ntmps160
  go_wp2_with (first
    | (at_range; refine wpList_range_own _ rfl _ 135 rfl 23 _ keyU Tryz.underlying135 _ bs ns _ rfl hs ?_; intro w0 hrg0 hg0 hs0)
    | go_in)
  go_frame
  go_loopw [4] (fun _ wr => ∃ (left : Lit → Bool) (cnt k : Nat) (D : DataW Unit) (s : List Int), wr.ranges Tryz.prog 23 unitElem bs w.heap.size ns Ds left cnt ∧ k + cnt ≤ nd + ns ∧ wr.ownsMap Tryz.prog 23 unitElem bd k D ∧ Hid (SetTo D s) ∧ Hid (∀ i, i ∈ s ↔ i ∈ sd ∨ (i ∈ ss ∧ left (.int .u64 i) = false)) ∧ w.grownBy wr (some bd)) (fun _ wr => wr.rangeLeft bs w.heap.size)
  case atStart =>
    refine ⟨_, _, nd, Dd, sd, hrg0, ?_, hd.kept hg0 (by simp), hsd, ?_, hg0.but _⟩
    · have := hs.size_le
      omega
    · intro i
      constructor
      · exact fun h => .inl h
      · rintro (h | ⟨h1, h2⟩)
        · exact h
        · rw [(unhide hss (.int .u64 i)).2 ⟨i, h1, rfl⟩] at h2
          cases h2
  case round =>
    obtain ⟨left, cnt, k, D, s, hrg, hkc, hown, hset, hmem, hgw⟩ := hrel
    go_wp2_with (first
      | (at_next; refine wpList_next_set _ rfl _ rfl 23 keyU Tryz.underlying23 bs w.heap.size ns _ ss (unhide hss) _ _ rfl hrg ?_ ?_)
      | go_in)
    · intro _ hl0
      go_wp2
      go_end0
      refine ⟨D, s, rfl, hown.mono (by omega), unhide hset, fun i => ?_, hgw⟩
      rw [unhide hmem i, hl0]
      simp
    · intro x w1 cnt1 hwx hx hlx hrg1 hlt hg1 hs1 hen
      have hgw1 := hgw.andThen hg1 (fun j hj => by cases hj; exact Or.inl (Nat.le_refl _))
      have hr := hrg.lt
      have hown1 := hown.kept hg1 (fun e => by cases e; exact absurd hd.lt (by omega))
      have hkey : keyOf Tryz.prog 23 (.int .u64 x) = some (.int .u64 x) := keyOf_int_mk Tryz.underlying23 hwx
      have hset2 := hide ((unhide hset).put hown.isMap x (.agg []))
      have hmem2 : Hid (∀ i, i ∈ s ++ [x] ↔ i ∈ sd ∨ (i ∈ ss ∧ (fun z => left z && !z.sameKey (.int .u64 x)) (.int .u64 i) = false)) := by
        intro i
        rw [List.mem_append, unhide hmem i]
        simp only [List.mem_singleton]
        have hk : ((Lit.int .u64 i).sameKey (.int .u64 x) = true) ↔ i = x := by
          rw [WideAt.sameKey_iff (by trivial)]
          simp
        by_cases e : i = x
        · subst e
          rw [hk.2 rfl]
          simp [hx]
        · rw [show (Lit.int .u64 i).sameKey (.int .u64 x) = false by (rw [Bool.eq_false_iff]; exact fun h => e (hk.1 h))]
          simp [e]
      clear hset hmem
      go_wp2_with (first
        | (at_mapUpdate; refine wpList_mapUpdate_own _ rfl _ _ _ 135 rfl 23 _ keyU Tryz.underlying135 unitElem bd k _ rfl (hown1.alloc _) (by unfold maxLen; omega) _ _ _ rfl rfl hkey (.agg []) [] unitElem_mk ?_; intro w2 hown2 hgrow2)
        | go_in)
      have hrg2 := (hrg1.alloc _).kept hgrow2 (by simp; exact fun e => hne e.symm) (by simp; intro e; exact absurd hd.lt (by omega))
      go_roundw
      case rel => exact ⟨_, cnt1, hrg2, k + 1, by omega, _, hown2, _, hset2, hmem2, (hgw1.andThen (World.grownBy_alloc _ _ none) (fun j hj => by cases hj)).andThen hgrow2 (fun j hj => by cases hj; exact Or.inr rfl)⟩
      case measure => rw [hrg2.left_eq, hrg.left_eq]; omega
end Go.Proofs.YtpbppdeleijhkaaGreatDoor
