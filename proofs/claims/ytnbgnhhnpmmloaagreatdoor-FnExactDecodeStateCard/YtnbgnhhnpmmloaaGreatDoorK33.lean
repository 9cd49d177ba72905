import Derived.Test.YtnbgnhhnpmmloaaGreatDoorProg
import Derived.RangeFuncGives
import Derived.RangeFuncSeq
import Derived.Sort.MapsRangeIn
import Derived.Sort.KeysCollected
import Derived.Maps.Ext
import Derived.WalkKit
import Derived.OwnWalkIn
import Derived.TacticsInMore
import Derived.RegionIn
import Derived.LoopNIn
import Derived.LoopIn
import Derived.Maps.AppendAt
import Derived.RangeFuncKeeps
import Derived.RangeFuncFrom
import Derived.Below
import Derived.RangeFuncNested
import Derived.RangeFuncBound
import Derived.RangeFuncCalls
import Derived.RangeFuncLeaves
import Derived.Test.YtnbgnhhnpmmloaaGreatDoorK32
import Derived.Test.YtnbgnhhnpmmloaaGreatDoorST2
import Derived.Test.YtnbgnhhnpmmloaaGreatDoorK13
namespace Go.Proofs.YtnbgnhhnpmmloaaGreatDoor.T
open Go.RowKit Go.Maps
set_option linter.unusedVariables false
set_option linter.unusedSimpArgs false
set_option maxRecDepth 100000
theorem keyU : Keyed Tryz.prog 9 := string_keyed Tryz.underlying9
abbrev encU (x : List UInt8) : Value := .string ⟨x.toArray⟩
def Come {H : Type} (D0 : DataW H) (left : Lit → Bool) (ss : List (List UInt8)) : Prop := ss.Nodup ∧ ∀ x, x ∈ ss ↔ (has D0 (.string x) = true ∧ left (.string x) = false)
theorem Come.start {H : Type} (D0 : DataW H) : Come D0 (has D0) [] := ⟨List.nodup_nil, fun x => by cases has D0 (.string x) <;> simp⟩
theorem Come.step {H : Type} {D0 : DataW H} {left : Lit → Bool} {ss : List (List UInt8)} (h : Come D0 left ss) {x : List UInt8} {y : DataW H} (hlk : left (.string x) = true) (hat : ∀ zd, D0.atKey (.string x) zd = y) : Come D0 (fun z => left z && !z.sameKey (.string x)) (ss ++ [x]) := by
 have hhas : has D0 (.string x) = true := has_true_of_atKey hat
 have hnew : x ∉ ss := fun hx => by have := ((h.2 x).1 hx).2; rw [hlk] at this; cases this
 refine ⟨List.nodup_append.2 ⟨h.1, by simp, fun a ha b hb => by simp at hb; subst hb; exact fun e => hnew (e ▸ ha)⟩, fun y => ?_⟩
 by_cases hy : y = x
 ·subst hy; simp [hhas, Lit.sameKey]
 ·simp [h.2 y, hy, Lit.sameKey]
def AllKeys {H : Type} (D0 : DataW H) (ss : List (List UInt8)) : Prop := ss.Nodup ∧ (∀ x, x ∈ ss ↔ has D0 (.string x) = true) ∧ ss.length ≤ Maps.size D0
theorem Come.all {H : Type} {D0 : DataW H} {left : Lit → Bool} {ss : List (List UInt8)} (h : Come D0 left ss) (hl : ∀ kl, left kl = false) (hs : ss.length ≤ Maps.size D0) : AllKeys D0 ss := ⟨h.1, (fun x => by rw [h.2 x, hl]; simp), hs⟩
set_option maxHeartbeats 2000000 in
theorem keys1_s {H : Type} (n : Nat) (hn : 1 ≤ n) (l Bm b nn : Nat) (D0 : DataW H) {R : Value → Option (DataW H × List MemPlace)} (J Jx : List (List UInt8) → World → Prop)
  (hY : ∀ pre x W, J pre W → pre.length < Maps.size D0 → YieldAt Fence.wide (n - 1) Tryz.prog l #[encU x] W fun e W' => (e = .returned (.bool true) ∧ J (pre ++ [x]) W' ∧ KeepsWalks W W') ∨ (e = .returned (.bool false) ∧ Jx (pre ++ [x]) W'))
  (W : World) (hJ : AbidesFrom W.heap.size J) (hm : W.cell? ⟨Bm, 0, none⟩ = some (.map (some b))) (hown : W.ownsMap Tryz.prog 9 R b nn D0) (h0 : J [] W) :
  CallsIn Fence.wide n Tryz.prog 186 #[.func (.yield l) #[] #[], .pointer (some ⟨Bm, 0, none⟩)] W fun e W' => (∃ v, e = .returned v) ∧ ((∃ ss : List (List UInt8), AllKeys D0 ss ∧ J ss W') ∨ (∃ pre, Jx pre W')) := by
 refine callsIn_of_wp Tryz.func186 rfl trivial ?_ rfl
 simp only [Tryz.ntmps186, List.size_toArray, List.length_cons, List.length_nil, Nat.reduceAdd, Nat.reduceSub, Array.replicate_succ, Array.replicate_zero, List.push_toArray, List.append_toArray, List.nil_append, List.cons_append]
 gi_wp2_with (first
  | (gi_at_range; refine wpListIn_range_own _ rfl _ 159 rfl 9 _ keyU Tryz.underlying159 _ b nn _ rfl hown ?_; intro w0 hrg0 hg0 hs0)
  | gi_in)
 go_frame
 gi_loopw [3] (fun _ wr => ∃ (left : Lit → Bool) (cnt : Nat) (ss : List (List UInt8)), wr.ranges Tryz.prog 9 R b W.heap.size nn D0 left cnt ∧ ss.length + cnt ≤ Maps.size D0 ∧ Come D0 left ss ∧ J ss wr)
  (fun _ wr => wr.rangeLeft b W.heap.size)
 case atStart => exact ⟨_, _, [], hrg0, by simp, Come.start D0, hJ [] W w0 none h0 hg0 (fun r e => by cases e)⟩
 case round =>
  obtain ⟨left, cnt, ss, hrg, hcs, hC, hJs⟩ := hrel
  gi_wp2_with (first
   | (gi_at_next; refine wpListIn_next_ranges _ rfl _ rfl 9 keyU R encU id (fun key kl hk => by obtain ⟨x, hx, _⟩ := Maps.keyOf_str Tryz.underlying9 hk; exact ⟨x, hx⟩) (fun v _ _ => ⟨v, rfl⟩) b W.heap.size nn _ _ _ rfl hrg ?_ ?_)
   | gi_in)
  ·intro hc0 hl0
   gi_wp2
   go_end0
   exact ⟨⟨_, rfl⟩, .inl ⟨ss, hC.all hl0 (by omega), hJs⟩⟩
  ·intro x c kl yd yp w2 cnt2 hkey hlk hv hat hrg2 hlt hg2 hs2 hen
   obtain ⟨x', ex, rfl, _⟩ := Maps.keyOf_str Tryz.underlying9 hkey
   obtain rfl : x = x' := by simpa [encU] using ex
   have hJ2 : J ss w2 := hJ ss wr w2 (some W.heap.size) hJs hg2 (fun r e => by cases e; exact ⟨Nat.le_refl _, hrg.iter_walk⟩)
   obtain ⟨fn, tmps, assign, body, hy, hR⟩ := hY ss x w2 hJ2 (by omega)
   clear hs2
   gi_wp2
   refine hR.mono ?_
   rintro e W3 (⟨rfl, hJ3, hk3⟩ | ⟨rfl, hJx3⟩)
   ·gi_wp2
    have hrg3 := hrg2.of_walks hk3
    go_roundw
    case rel => exact ⟨_, cnt2, ss ++ [x], hrg3, by simp; omega, hC.step hlk hat, hJ3⟩
    case measure => rw [hrg3.left_eq, hrg.left_eq]; exact hlt
   ·gi_wp2
    refine bodyPost_ret (results_none rfl _ _ _) rfl ?_
    exact ⟨⟨_, rfl⟩, .inr ⟨_, hJx3⟩⟩
set_option maxHeartbeats 1000000 in
theorem keys_s (n : Nat) (mb : Option Nat) (w : World) :
  CallsIn Fence.wide n Tryz.prog 166 #[.map mb] w fun e w' => e = .returned (.func (.func 186) #[] #[.pointer (some ⟨w.heap.size, 0, none⟩)]) ∧ w' = w.alloc (.cells #[.map mb] 159) := by
 refine callsIn_of_wp Tryz.func166 rfl trivial ?_ rfl
 simp only [Tryz.ntmps166, List.size_toArray, List.length_cons, List.length_nil, Nat.reduceAdd, Nat.reduceSub, Array.replicate_succ, Array.replicate_zero, List.push_toArray, List.append_toArray, List.nil_append, List.cons_append]
 gi_wp2
 go_ret
 exact ⟨rfl, rfl⟩
theorem stops_s {H : Type} (n : Nat) (hn : 1 ≤ n) (Bm b nn : Nat) (D0 : DataW H) {R : Value → Option (DataW H × List MemPlace)} (w : World) (hBm : Bm < w.heap.size)
  (hm : w.cell? ⟨Bm, 0, none⟩ = some (.map (some b))) (hown : w.ownsMap Tryz.prog 9 R b nn D0) :
  SeqStopsK Fence.wide n Tryz.prog 186 #[.pointer (some ⟨Bm, 0, none⟩)] (fun x : List UInt8 => #[encU x]) KeepsWalks (AllKeys D0) (fun _ => True) (Maps.size D0) w := fun l J Jx W hW hJ _ hY h0 => by
 have hown' : W.ownsMap Tryz.prog 9 R b nn D0 := by
  have hbl := hown.lt
  obtain ⟨es, clock, hb, Ft, hs, hD⟩ := hown
  exact ⟨es, clock, (hW.block b hbl).trans hb, Ft, hs, hD⟩
 refine (keys1_s n hn l Bm b nn D0 J Jx hY W hJ ((hW.cell (p := ⟨Bm, 0, none⟩) hBm).trans hm) hown' h0).mono ?_
 rintro e W' ⟨he, ⟨ss, hs, hj⟩ | ⟨pre, hj⟩⟩
 ·exact ⟨he, .inl ⟨ss, hs, hj⟩⟩
 ·exact ⟨he, .inr ⟨pre, trivial, hj⟩⟩
theorem Hid.intro' {p : Prop} (h : p) : Hid p := h
theorem unhid {p : Prop} (h : Hid p) : p := h
theorem grown_putObj (W : World) (l : Nat) (o : Obj) : W.grownBy (W.putObj l o) (some l) := ⟨rfl, rfl, rfl, by simp, fun k _ hk => World.putObj_heap_other (fun e => hk (by rw [e]))⟩
theorem grown_cell0 (W : World) (b : Nat) (v : Value) : W.grownBy (W.setCell ⟨b, 0, none⟩ v) (some b) := ⟨rfl, rfl, rfl, by simp, fun k _ hk => Below.heap_setCell _ _ _ k (fun e => hk (by rw [e]))⟩
theorem row_cells {W : World} {base : Nat} {e : TypeId} {size : Nat} {v : Value} {k : Nat} {xs : List Value} (h : W.ownsRow base e size v k xs) {j : Nat} {o : Obj} (hj : W.heap[j]? = some o) (ho : o.isCells = false) : v.ownBlock = none ∨ v.ownBlock ≠ some j := by
  rcases h.2 with ⟨rfl, _⟩ | ⟨g, cap, cur, rfl, _, hgb, _⟩
  · exact .inl rfl
  · refine .inr fun e' => ?_
    have : g = j := by simpa [Value.ownBlock] using e'
    subst this
    rw [hgb] at hj
    cases hj
    cases ho
theorem row_own {W W' : World} {row : Option Nat} {base : Nat} {e : TypeId} {size : Nat} {v : Value} {k : Nat} {xs : List Value} (h : W.ownsRow base e size v k xs) (hg : W.grownBy W' row)
    (hr : ∀ r, row = some r → ∃ o : Obj, W.heap[r]? = some o ∧ o.isCells = false) : W'.ownsRow base e size v k xs := by
  refine h.kept hg ?_
  cases hv : v.ownBlock with
  | none => exact .inl rfl
  | some j =>
    refine .inr fun e' => ?_
    obtain ⟨o, ho, hc⟩ := hr j e'.symm
    rcases row_cells h ho hc with e1 | e1
    · rw [hv] at e1; cases e1
    · exact e1 hv
theorem others_row {W W' : World} {base : Nat} {e : TypeId} {size : Nat} {v : Value} {k : Nat} {xs : List Value} (h : W.ownsRow base e size v k xs) (hg : W.grownBy W' v.ownBlock) : KeepsOthers W W' :=
  ⟨hg.size, fun j o hj ho => (hg.block j (Array.getElem?_eq_some_iff.1 hj).1 (fun e1 => by
    rcases row_cells h hj ho with e2 | e2
    · rw [e2] at e1; cases e1
    · exact e2 e1.symm)).trans hj⟩
structure Got (w0 : World) (Bs : Nat) (pre : List (List UInt8)) (v : Value) (W : World) : Prop where
  cell : W.cell? ⟨Bs, 0, none⟩ = some v
  fr : W.frozen? ⟨Bs, 0, none⟩ = false
  row : W.ownsRow (Bs + 1) 9 1 v pre.length (pre.map encU)
  nil : v = .slice none 0 0 ↔ pre = []
set_option maxHeartbeats 4000000 in
theorem appendSeq_in (n : Nat) (hn : 2 ≤ n) (g : Nat) (lb : Array Value) (eg : ∀ args w, (callFunc g args).run Tryz.prog w = .ok (.enter g args) w)
    (S Sp : List (List UInt8) → Prop) (N : Nat) (hN : N ≤ 1048576) (w : World) (hseq : SeqStopsK Fence.wide (n - 1) Tryz.prog g lb (fun x : List UInt8 => #[encU x]) KeepsWalks S Sp N w) :
    CallsIn Fence.wide n Tryz.prog 199 #[.slice none 0 0, .func (.func g) #[] lb] w fun e w' => ∃ (v : Value) (ss : List (List UInt8)), e = .returned v ∧ S ss ∧ w'.ownsRow (w.heap.size + 1) 9 1 v ss.length (ss.map encU) ∧ (v = .slice none 0 0 ↔ ss = []) ∧ Below w.heap.size w w' := by
  have h1 : 1 ≤ n := by omega
  obtain ⟨i0, hi, hz0, hz1, hz2⟩ := info_parts (P := Tryz.prog) (e := 9) (z := .string ⟨#[]⟩) (size := 1) (bytes := 16) (by kernel_rfl)
  refine callsIn_of_wp_marks Tryz.func199 rfl trivial ?_ rfl
  simp only [Tryz.ntmps199, List.size_toArray, List.length_cons, List.length_nil, Nat.reduceAdd, Nat.reduceSub, Array.replicate_succ, Array.replicate_zero, List.push_toArray, List.append_toArray, List.nil_append, List.cons_append]
  gi_wp2
  obtain ⟨W0, hW0⟩ : ∃ W0, W0 = w.alloc (.cells #[.slice none 0 0] 172) := ⟨_, rfl⟩
  have z0 : W0.heap.size = w.heap.size + 1 := by rw [hW0]; simp
  have k0 : W0.cell? ⟨w.heap.size, 0, none⟩ = some (.slice none 0 0) := by rw [hW0]; simp
  have f0 : W0.frozen? ⟨w.heap.size, 0, none⟩ = false := by rw [hW0]; simp
  have hB0 : Below w.heap.size w W0 := by rw [hW0]; exact (Below.refl _ _).alloc (Nat.le_refl _) _
  rw [← hW0]
  clear hW0
  refine wpIn_rangeFunc_ownF (F := Fence.wide) rfl h1 (gf := g) (lb := lb) rfl trivial eg hseq (fun h k => h.trans k) (fun W l o o' _ hl _ hw => KeepsWalks.putObj _ hl hw) hB0 (fun _ => rfl)
    (fun pre W => (∃ v, Got w w.heap.size pre v W) ∧ Below w.heap.size w W)
    (fun _ _ _ => False)
    (OwnFrom.and (Own.from (fun s A B row hs hg hr => by
      obtain ⟨v, hv⟩ := hs
      exact ⟨v, cell_kept hv.cell hg hr, (frozen_kept hv.cell hg hr).trans hv.fr, row_own hv.row hg hr, hv.nil⟩) _) (ownFrom_below (Nat.le_refl _) (by omega)))
    (fun _ _ _ _ _ hs _ _ => hs)
    ⟨⟨_, k0, f0, ⟨rfl, .inl ⟨rfl, rfl⟩⟩, by simp⟩, hB0⟩
    (fun x => { tmps := #[.slice none 0 0, .func (.func g) #[] lb, .pointer (some ⟨w.heap.size, 0, none⟩), undef, .slice none 0 0, encU x, .func (.func g) #[] lb, encU x, undef, undef, undef, undef, undef], defers := [] }) ?assign ?body ?done ?stop
  case assign =>
    intro l x W K hK
    gi_wp2_with (rw [Oper.semAt_eq _ _ _ (fun c h => by cases h)]; go_simp; try go_bits)
    exact hK
  case body =>
    rintro L pre x W ⟨⟨v, hv⟩, hBl⟩ hpl
    have hc := hv.cell
    have hf := hv.fr
    have hrow := hv.row
    have hlt : w.heap.size < W.heap.size := World.block_lt_of_cell? W _ hc
    have hrowA := hrow.alloc (.cells #[encU x] 9)
    gi_wp2_with (first
      | (gi_at_builtin; refine wpListIn_append_own _ rfl _ _ 172 rfl (w.heap.size + 1) 9 i0 (.string ⟨#[]⟩) 1 16 Tryz.underlying172 hi hz0 hz1 hz2 rfl (by decide) _ _ _ rfl hrowA ⟨W.heap.size, 0, none⟩ 1 1 [encU x] rfl rfl (cell_one_new _ _ _) (by simp [Value.oneCell', encU]) (by unfold maxLen; omega) (by omega) (by simp; omega) ?_; intro v' w3 hown' hg3 hnil3
         have hg3' : (W.alloc (.cells #[encU x] 9)).grownBy w3 v.ownBlock := hg3
         have hneB : some w.heap.size ≠ v.ownBlock := fun e => by have := (hrow.lt _ e.symm).1; omega
         have hcA : (W.alloc (.cells #[encU x] 9)).cell? ⟨w.heap.size, 0, none⟩ = some v := (World.cell?_of_block (a := ⟨w.heap.size, 0, none⟩) (Below.heap_alloc _ _ _ hlt)).trans hc
         have hfA : (W.alloc (.cells #[encU x] 9)).frozen? ⟨w.heap.size, 0, none⟩ = false := (World.frozen?_of_block (a := ⟨w.heap.size, 0, none⟩) (Below.heap_alloc _ _ _ hlt)).trans hf
         have hb3 : w3.heap[w.heap.size]? = (W.alloc (.cells #[encU x] 9)).heap[w.heap.size]? := hg3'.block _ (by simp; omega) hneB
         have hc3 : w3.cell? ⟨w.heap.size, 0, none⟩ = some v := (World.cell?_of_block (a := ⟨w.heap.size, 0, none⟩) hb3).trans hcA
         have hf3 : w3.frozen? ⟨w.heap.size, 0, none⟩ = false := (World.frozen?_of_block (a := ⟨w.heap.size, 0, none⟩) hb3).trans hfA
         obtain ⟨g', cap', rfl⟩ : ∃ g' cap', v' = .slice (some ⟨g', 0, none⟩) (pre.length + 1) cap' := by
           rcases hown'.2 with ⟨_, h0⟩ | ⟨g', cap', _, h', _⟩
           · exact absurd h0 (by omega)
           · exact ⟨g', cap', h'⟩
         have HO3 := Hid.intro' ((KeepsOthers.alloc W (.cells #[encU x] 9)).trans (others_row hrowA hg3'))
         have HB3 := Hid.intro' (((hBl.alloc hBl.size (.cells #[encU x] 9)).grown hg3' (by have := hBl.size; simp; omega) (fun k e => by have := (hrow.lt k e).1; omega)))
         have HR3 := Hid.intro' hown'
         clear hown' hnil3 hg3 hg3' hcA hfA hb3
         go_frame)
      | (rw [Oper.semAt_eq _ _ _ (fun c h => by cases h)]; go_simp; try go_bits))
    refine ⟨(unhid HO3).trans (KeepsOthers.setCell _ _ _), ((unhid HO3).trans (KeepsOthers.setCell _ _ _)).walks, ⟨_, World.cell?_setCell_same _ _ _ hc3, by rw [World.frozen?_setCell]; exact hf3, ?_, by simp⟩, (unhid HB3).setCell (p := ⟨w.heap.size, 0, none⟩) (Nat.le_refl _) _⟩
    have hr := (unhid HR3).kept (grown_cell0 w3 w.heap.size (.slice (some ⟨g', 0, none⟩) (pre.length + 1) cap')) (.inr (fun e => by have := ((unhid HR3).lt _ e).1; omega))
    simpa using hr
  case done =>
    rintro D ys W hD hS ⟨⟨v, hv⟩, hBl⟩ hK
    have hc := hv.cell
    gi_wp2
    refine ⟨by simp, .inl ⟨_, _, rfl, run_takeDeferred hK, ?_⟩⟩
    exact ⟨_, results_tmp rfl _ _ _, v, ys, rfl, hS, row_own hv.row (grown_putObj _ _ _) (fun r e => by cases e; exact ⟨_, hK, rfl⟩), hv.nil, hBl.grown (grown_putObj _ _ _) hBl.size (fun k e => by cases e; omega)⟩
  case stop =>
    rintro D c pre W _ _ h _
    exact h.elim
end Go.Proofs.YtnbgnhhnpmmloaaGreatDoor.T
namespace Go.Proofs.YtnbgnhhnpmmloaaGreatDoor.T
open Go.Sort Go.RowKit
set_option linter.unusedVariables false
set_option linter.unusedSimpArgs false
set_option maxRecDepth 100000
theorem ins_nil (cap : Nat) (w : World) : Calls Tryz.prog 217 #[.slice none 0 cap, .int .i64 0, .int .i64 0] w fun e w' => e = .returned (.tuple #[]) ∧ w' = w := by
 go_enter Tryz.func217, Tryz.ntmps217
 go_wp2_with fail
 go_loopw [6] (fun s6 wr => s6 = .int .i64 1 ∧ wr = w) (fun _ _ => 0)
 case atStart => exact ⟨rfl, rfl⟩
 case round =>
  obtain ⟨rfl, rfl⟩ := hrel
  go_wp2
  go_end0
  exact ⟨rfl, rfl⟩
theorem pdq_nil (cap : Nat) (w : World) : Calls Tryz.prog 200 #[.slice none 0 cap, .int .i64 0, .int .i64 0, .int .i64 0] w fun e w' => e = .returned (.tuple #[]) ∧ w' = w := by
 go_enter Tryz.func200, Tryz.ntmps200
 go_wp2_with fail
 go_loopw [1, 2, 3, 8, 9] (fun s1 s2 s3 s8 s9 wr => s1 = .int .i64 0 ∧ s2 = .int .i64 0 ∧ s3 = .int .i64 0 ∧ s8 = .bool true ∧ s9 = .bool true ∧ wr = w) (fun _ _ _ _ _ _ => 0)
 case atStart => exact ⟨rfl, rfl, rfl, rfl, rfl, rfl⟩
 case round =>
  obtain ⟨rfl, rfl, rfl, rfl, rfl, rfl⟩ := hrel
  go_wp2_with fail
  refine (ins_nil cap _).mono ?_
  rintro e w1 ⟨rfl, rfl⟩
  go_wp2
  exact bodyPost_ret (results_none (h := rfl) _ _ _) rfl ⟨rfl, rfl⟩
theorem sort_nil (cap : Nat) (w : World) : Calls Tryz.prog 185 #[.slice none 0 cap] w fun e w' => e = .returned (.tuple #[]) ∧ w' = w := by
 have hL := Go.Proofs.YtnbgnhhnpmmloaaGreatDoor.Q.len_any 0 (by omega)
 have e0 : Lib.bitLen 0 = 0 := by decide
 rw [e0] at hL
 go_enter Tryz.func185, Tryz.ntmps185
 go_wp2_with fail
 refine (hL _).mono ?_
 rintro e w1 ⟨rfl, rfl⟩
 go_wp2_with fail
 refine (pdq_nil cap _).mono ?_
 rintro e w1 ⟨rfl, rfl⟩
 go_wp2
 go_end0
 exact ⟨rfl, rfl⟩
theorem sort_any (blk off cap N : Nat) (d : Array (List UInt8)) (hN : Hid (d.size = N)) (hsz : N ≤ 1048576) (w : World) (h : HT w blk off d) (hblk : blk < w.heap.size) :
  Calls Tryz.prog 185 #[.slice (some ⟨blk, off, none⟩) N cap] w fun e w' =>
   e = .returned (.tuple #[]) ∧ ∃ d', HT w' blk off d' ∧ PermIn 0 N d d' ∧ SortedIn ltStr 0 N d' ∧ w.grownBy w' (some blk) := by
 have hL := Go.Proofs.YtnbgnhhnpmmloaaGreatDoor.Q.len_any N hsz
 have hK : Lib.bitLen N ≤ 21 := Lib.bitLen_le N 21 (by omega) (by omega)
 generalize Lib.bitLen N = K at hL hK
 have wU : IntKind.u64.wrap (N : Int) = (N : Int) := by rw [IntKind.wrap_u64]; omega
 have H0 := hide h
 clear h
 go_enter Tryz.func185, Tryz.ntmps185
 go_wp2_with fail
 refine (hL _).mono ?_
 rintro e w1 ⟨rfl, rfl⟩
 go_wp2_with fail
 refine (pdq_any blk off cap N hsz N 0 N K d _ (by show _ = _; omega) hN (uh H0) hblk (Nat.zero_le _) (Nat.le_refl _) (by omega) (by omega) (Or.inl rfl)).mono ?_
 rintro e w2 ⟨rfl, d', hH, hP, hS, hg⟩
 have HH := hide hH
 have HP := hide hP
 have HS := hide hS
 have HG := hide hg
 clear hH hP hS hg
 go_wp2
 go_end0
 exact ⟨rfl, d', uh HH, uh HP, uh HS, uh HG⟩
theorem sort_list (blk off cap : Nat) (l : List (List UInt8)) (hsz : l.length ≤ 1048576) (w : World) (h : HT w blk off l.toArray) (hblk : blk < w.heap.size) :
  Calls Tryz.prog 185 #[.slice (some ⟨blk, off, none⟩) l.length cap] w fun e w' =>
   e = .returned (.tuple #[]) ∧ HT w' blk off (l.mergeSort (fun x y => decide (x ≤ y))).toArray ∧ w.grownBy w' (some blk) := by
 refine (sort_any blk off cap l.length l.toArray (by show _ = _; simp) hsz w h hblk).mono ?_
 rintro e w' ⟨rfl, d', hH, hP, hS, hg⟩
 refine ⟨rfl, ?_, hg⟩
 have e := sorted_unique_holds swoS (fun x y h1 h2 => by simp only [ltStr, decide_eq_false_iff_not] at h1 h2; exact List.le_antisymm h2 h1) l.toArray d' (by simpa using hP) (by simpa using hS)
 have e2 : (fun x y : List UInt8 => !ltStr y x) = (fun x y => decide (x ≤ y)) := by
  funext x y
  by_cases hh : x ≤ y
  ·rw [decide_eq_true hh]
   have : ¬ y < x := hh
   simp only [ltStr, decide_eq_false this, Bool.not_false]
  ·rw [decide_eq_false hh]
   have : y < x := Decidable.not_not.1 hh
   simp only [ltStr, decide_eq_true this, Bool.not_true]
 rw [e2] at e
 have e3 : d' = (l.mergeSort (fun x y => decide (x ≤ y))).toArray := by
  rw [← show d'.toList.toArray = d' from by simp, e]
 rw [← e3]
 exact hH
end Go.Proofs.YtnbgnhhnpmmloaaGreatDoor.T
namespace Go.Proofs.YtnbgnhhnpmmloaaGreatDoor.T
open Go.RowKit Go.Maps Go.Sort
set_option linter.unusedVariables false
set_option linter.unusedSimpArgs false
set_option maxRecDepth 100000
set_option maxHeartbeats 1000000 in
theorem collect_in (n : Nat) (hn : 3 ≤ n) (g : Nat) (lb : Array Value) (eg : ∀ args w, (callFunc g args).run Tryz.prog w = .ok (.enter g args) w)
  (S Sp : List (List UInt8) → Prop) (N : Nat) (hN : N ≤ 1048576) (w : World) (hseq : SeqStopsK Fence.wide (n - 1 - 1) Tryz.prog g lb (fun x : List UInt8 => #[encU x]) KeepsWalks S Sp N w) :
  CallsIn Fence.wide n Tryz.prog 184 #[.func (.func g) #[] lb] w fun e w' => ∃ (v : Value) (ss : List (List UInt8)), e = .returned v ∧ S ss ∧ w'.ownsRow (w.heap.size + 1) 9 1 v ss.length (ss.map encU) ∧ (v = .slice none 0 0 ↔ ss = []) ∧ Below w.heap.size w w' := by
 have h1 : 1 ≤ n := by omega
 have hfS : Fence.wide.fn 199 := trivial
 refine callsIn_of_wp Tryz.func184 rfl trivial ?_ rfl
 simp only [Tryz.ntmps184, List.size_toArray, List.length_cons, List.length_nil, Nat.reduceAdd, Nat.reduceSub, Array.replicate_succ, Array.replicate_zero, List.push_toArray, List.append_toArray, List.nil_append, List.cons_append]
 gi_wp2_with (gi_at_call 199; refine (appendSeq_in (n - 1) (by omega) g lb eg S Sp N hN _ hseq).mono ?_; rintro e w' ⟨v, ss, rfl, hS, hrow, hnil, hb⟩)
 go_ret
 exact ⟨v, ss, rfl, hS, hrow, hnil, hb⟩
theorem hu_row {w : World} {g : Nat} {cur : Array Value} {e : TypeId} {ss : List (List UInt8)} (hb : w.heap[g]? = some (.cells cur e (0, 0))) (ht : cur.toList.take ss.length = ss.map encU) : HT w g 0 ss.toArray := by
 intro j hj
 have hj' : j < ss.length := by simpa using hj
 refine ⟨?_, by simp [World.frozen?, hb]⟩
 have h1 : (cur.toList.take ss.length)[j]? = (ss.map encU)[j]? := by rw [ht]
 rw [List.getElem?_take_of_lt hj'] at h1
 simp only [World.cell?, hb, Nat.zero_add]
 simp only [Option.isSome_none, Bool.false_eq_true, if_false]
 rw [← Array.getElem?_toList, h1]
 simp [hj', encU]
def RdK (B : Nat) (w : World) (v : Value) (ss : List (List UInt8)) : Prop := (v = .slice none 0 0 ∧ ss = []) ∨ ∃ g cap, v = .slice (some ⟨g, 0, none⟩) ss.length cap ∧ B ≤ g ∧ g < w.heap.size ∧ HT w g 0 ss.toArray
structure Asc {H : Type} (D0 : DataW H) (ss : List (List UInt8)) : Prop where
 lt : ss.Pairwise (· < ·)
 mem : ∀ x, x ∈ ss ↔ has D0 (.string x) = true
 size : ss.length ≤ Maps.size D0
theorem asc_of {H : Type} {D0 : DataW H} {ss : List (List UInt8)} (h : AllKeys D0 ss) : Asc D0 (ss.mergeSort (fun x y => decide (x ≤ y))) := by
 have hp := List.mergeSort_perm ss (fun x y => decide (x ≤ y))
 refine ⟨?_, fun x => (hp.mem_iff).trans (h.2.1 x), by rw [hp.length_eq]; exact h.2.2⟩
 have h1 := List.pairwise_mergeSort (le := fun x y : List UInt8 => decide (x ≤ y)) (fun a b c h1 h2 => by simp only [decide_eq_true_eq] at *; exact List.le_trans h1 h2) (fun a b => by simp only [Bool.or_eq_true, decide_eq_true_eq]; exact List.le_total a b) ss
 have h2 : (ss.mergeSort (fun x y => decide (x ≤ y))).Pairwise (· ≠ ·) := hp.nodup_iff.2 h.1
 refine (h1.and h2).imp (fun {a b} ⟨x, y⟩ => ?_)
 simp only [decide_eq_true_eq] at x
 exact Decidable.byContradiction fun hh => y (List.le_antisymm x hh)
set_option maxHeartbeats 2000000 in
theorem sorted_in (n : Nat) (hn : 4 ≤ n) (g : Nat) (lb : Array Value) (eg : ∀ args w, (callFunc g args).run Tryz.prog w = .ok (.enter g args) w)
  (S Sp : List (List UInt8) → Prop) (N : Nat) (hN : N ≤ 1048576) (hS : ∀ ss, S ss → ss.length ≤ 1048576) (w : World) (hseq : SeqStopsK Fence.wide (n - 1 - 1 - 1) Tryz.prog g lb (fun x : List UInt8 => #[encU x]) KeepsWalks S Sp N w) :
  CallsIn Fence.wide n Tryz.prog 165 #[.func (.func g) #[] lb] w fun e w' => ∃ (v : Value) (ss : List (List UInt8)), e = .returned v ∧ S ss ∧ RdK w.heap.size w' v (ss.mergeSort (fun x y => decide (x ≤ y))) ∧ Below w.heap.size w w' := by
 have h1 : 1 ≤ n := by omega
 have hfC : Fence.wide.fn 184 := trivial
 have hfS : Fence.wide.fn 185 := trivial
 refine callsIn_of_wp Tryz.func165 rfl trivial ?_ rfl
 simp only [Tryz.ntmps165, List.size_toArray, List.length_cons, List.length_nil, Nat.reduceAdd, Nat.reduceSub, Array.replicate_succ, Array.replicate_zero, List.push_toArray, List.append_toArray, List.nil_append, List.cons_append]
 gi_wp2_with (gi_at_call 184; refine (collect_in (n - 1) (by omega) g lb eg S Sp N hN _ hseq).mono ?_; rintro e w' ⟨v, ss, rfl, hSs, hrow, hnil, hb⟩)
 rcases hrow.2 with ⟨rfl, _⟩ | ⟨gb, cap, cur, rfl, hbase, hgb, hr1, hr2, hr3, hr4⟩
 ·have e0 : ss = [] := hnil.1 rfl
  subst e0
  gi_wp2_with (gi_at_call 185; refine (callsIn_wide.2 (sort_nil 0 _)).mono ?_; rintro e w2 ⟨rfl, rfl⟩)
  go_ret
  exact ⟨_, [], rfl, hSs, .inl ⟨rfl, by simp⟩, hb⟩
 ·have hlt : gb < w'.heap.size := (Array.getElem?_eq_some_iff.1 hgb).1
  have hH := hu_row hgb (by simpa using hr4)
  gi_wp2_with (gi_at_call 185; refine (callsIn_wide.2 (sort_list gb 0 cap ss (hS ss hSs) _ hH hlt)).mono ?_; rintro e w2 ⟨rfl, hH2, hg2⟩)
  go_ret
  refine ⟨_, ss, rfl, hSs, .inr ⟨gb, cap, by rw [List.length_mergeSort]; rfl, by omega, Nat.lt_of_lt_of_le hlt hg2.size, hH2⟩, ?_⟩
  exact hb.grown hg2 hb.size (fun k e => by cases e; omega)
set_option maxHeartbeats 2000000 in
theorem sortedKeys_s {H : Type} (b nn : Nat) (D0 : DataW H) {R : Value → Option (DataW H × List MemPlace)} (w : World) (hown : w.ownsMap Tryz.prog 9 R b nn D0) (hsz : Maps.size D0 ≤ 1048576) :
  Calls Tryz.prog 141 #[.map (some b)] w fun e w' => ∃ (v : Value) (ss : List (List UInt8)), e = .returned v ∧ Asc D0 ss ∧ RdK w.heap.size w' v ss ∧ Below w.heap.size w w' := by
 refine (callsIn_wide (n := 6)).1 ?_
 have hfK : Fence.wide.fn 166 := trivial
 have hfS : Fence.wide.fn 165 := trivial
 have hbl := hown.lt
 have hown1 : (w.alloc (.cells #[.map (some b)] 159)).ownsMap Tryz.prog 9 R b nn D0 := by
  obtain ⟨es, clock, hb, Ft, hs, hD⟩ := hown
  exact ⟨es, clock, (Below.heap_alloc _ _ b hbl).trans hb, Ft, hs, hD⟩
 have hseq := stops_s 2 (by omega) w.heap.size b nn D0 (w.alloc (.cells #[.map (some b)] 159)) (by simp) (by simp) hown1
 refine callsIn_of_wp Tryz.func141 rfl trivial ?_ rfl
 simp only [Tryz.ntmps141, List.size_toArray, List.length_cons, List.length_nil, Nat.reduceAdd, Nat.reduceSub, Array.replicate_succ, Array.replicate_zero, List.push_toArray, List.append_toArray, List.nil_append, List.cons_append]
 gi_wp2_with (first
  | (gi_at_call 166; refine (keys_s _ _ _).mono ?_; rintro e w' ⟨rfl, rfl⟩)
  | (gi_at_call 165; refine (sorted_in 5 (by omega) _ _ (fun args w => (by kernel_rfl : (callFunc 186 args).run Tryz.prog w = .ok (.enter 186 args) w)) _ _ _ hsz (fun ss h => Nat.le_trans h.2.2 hsz) _ hseq).mono ?_; rintro e w' ⟨v, ss, rfl, hS, hrd, hb⟩))
 go_ret
 refine ⟨v, _, rfl, asc_of hS, ?_, ((Below.refl _ w).alloc (Nat.le_refl _) _).trans (hb.mono (by simp))⟩
 rcases hrd with h | ⟨g, cap, h1, h2, h3, h4⟩
 ·exact .inl h
 ·exact .inr ⟨g, cap, h1, by simp at h2; omega, h3, h4⟩
end Go.Proofs.YtnbgnhhnpmmloaaGreatDoor.T
namespace Go.Proofs.YtnbgnhhnpmmloaaGreatDoor
open Go.ChangeShapes Go.WideShapes Go.ChangeAt Go.RowKit Go.Maps
set_option linter.unusedVariables false
set_option linter.unusedSimpArgs false
set_option maxRecDepth 100000
structure SesM (w : World) (bs : Nat) (ss : List Ses) (SB : List Nat) : Prop where
 len : SB.length = ss.length
 own : ∃ D n, w.ownsMap Tryz.prog 23 ptrElem bs n D ∧ n ≤ 1048576 ∧ MapTo D (List.zipWith (fun (s : Ses) g => (Lit.int .u64 s.1, g)) ss SB)
 blk : ∀ (i : Nat) (s : Ses) (g : Nat), ss[i]? = some s → SB[i]? = some g → ∃ u, w.heap[g]? = some (.cells #[.int .u64 s.1, .int .i64 s.2.1, u] 59) ∧ RdEc w u s.2.2
structure NodM (w : World) (bn : Nat) (ns : List Nod) (NB : List Nat) : Prop where
 len : NB.length = ns.length
 own : ∃ D n, w.ownsMap Tryz.prog 9 ptrElem bn n D ∧ n ≤ 1048576 ∧ MapTo D (List.zipWith (fun (nd : Nod) g => (litS nd.path, g)) ns NB)
 blk : ∀ (i : Nat) (nd : Nod) (g : Nat), ns[i]? = some nd → NB[i]? = some g → ∃ V h u, KN w g h u V nd
theorem KN.below {w w' : World} {g h u : Nat} {V : Value} {nd : Nod} (k : KN w g h u V nd) (hb : Below w.heap.size w w') : KN w' g h u V nd := by
 obtain ⟨h1, h2, ⟨D1, o1, s1⟩, ⟨D2, o2, s2⟩⟩ := k
 exact ⟨(hb.block g (heap_lt h1)).trans h1, h2.below hb, ⟨D1, o1.kept (grown_of_below hb none) (by simp), s1⟩, ⟨D2, o2.kept (grown_of_below hb none) (by simp), s2⟩⟩
theorem SesM.below {w w' : World} {bs : Nat} {ss : List Ses} {SB : List Nat} (h : SesM w bs ss SB) (hb : Below w.heap.size w w') : SesM w' bs ss SB := by
 obtain ⟨h1, ⟨D, n, o, hn, m⟩, h3⟩ := h
 refine ⟨h1, ⟨D, n, o.kept (grown_of_below hb none) (by simp), hn, m⟩, fun i s g hs hg => ?_⟩
 obtain ⟨u, q1, q2⟩ := h3 i s g hs hg
 exact ⟨u, (hb.block g (heap_lt q1)).trans q1, q2.below hb⟩
theorem NodM.below {w w' : World} {bn : Nat} {ns : List Nod} {NB : List Nat} (h : NodM w bn ns NB) (hb : Below w.heap.size w w') : NodM w' bn ns NB := by
 obtain ⟨h1, ⟨D, n, o, hn, m⟩, h3⟩ := h
 refine ⟨h1, ⟨D, n, o.kept (grown_of_below hb none) (by simp), hn, m⟩, fun i s g hs hg => ?_⟩
 obtain ⟨V, h, u, q⟩ := h3 i s g hs hg
 exact ⟨V, h, u, q.below hb⟩
structure Sto (w : World) (b bs bn : Nat) (e g x t : Int) (ss : List Ses) (ns : List Nod) (SB NB : List Nat) : Prop where
 hd : w.heap[b]? = some (.cells #[.int .u64 e, .int .u64 g, .int .u64 x, .int .i64 t, .map (some bs), .map (some bn)] 161)
 ses : SesM w bs ss SB
 nod : NodM w bn ns NB
theorem Sto.below {w w' : World} {b bs bn : Nat} {e g x t : Int} {ss : List Ses} {ns : List Nod} {SB NB : List Nat} (h : Sto w b bs bn e g x t ss ns SB NB) (hb : Below w.heap.size w w') : Sto w' b bs bn e g x t ss ns SB NB :=
 ⟨(hb.block b (heap_lt h.hd)).trans h.hd, h.ses.below hb, h.nod.below hb⟩
theorem key_at_ses {w : World} {bs : Nat} {ss : List Ses} {SB : List Nat} (h : SesM w bs ss SB) {i : Nat} {s : Ses} (hs : ss[i]? = some s) : ∃ g, SB[i]? = some g ∧ (Lit.int .u64 s.1, g) ∈ List.zipWith (fun (s : Ses) g => (Lit.int .u64 s.1, g)) ss SB := by
 have hi := (List.getElem?_eq_some_iff.1 hs).1
 obtain ⟨g, hg⟩ : ∃ g, SB[i]? = some g := ⟨_, List.getElem?_eq_getElem (by rw [h.len]; exact hi)⟩
 refine ⟨g, hg, List.mem_of_getElem? (i := i) ?_⟩
 rw [List.getElem?_zipWith, hs, hg]
theorem key_at_nod {w : World} {bn : Nat} {ns : List Nod} {NB : List Nat} (h : NodM w bn ns NB) {i : Nat} {nd : Nod} (hs : ns[i]? = some nd) : ∃ g, NB[i]? = some g ∧ (litS nd.path, g) ∈ List.zipWith (fun (nd : Nod) g => (litS nd.path, g)) ns NB := by
 have hi := (List.getElem?_eq_some_iff.1 hs).1
 obtain ⟨g, hg⟩ : ∃ g, NB[i]? = some g := ⟨_, List.getElem?_eq_getElem (by rw [h.len]; exact hi)⟩
 refine ⟨g, hg, List.mem_of_getElem? (i := i) ?_⟩
 rw [List.getElem?_zipWith, hs, hg]
theorem mem_zip {α β γ : Type} {f : α → β → γ} {l : List α} {m : List β} {z : γ} (h : z ∈ List.zipWith f l m) : ∃ a ∈ l, ∃ b, z = f a b := by
 induction l generalizing m with
 | nil => simp at h
 | cons a l ih =>
  cases m with
  | nil => simp at h
  | cons b m =>
   simp only [List.zipWith_cons_cons, List.mem_cons] at h
   rcases h with rfl | h
   ·exact ⟨a, by simp, b, rfl⟩
   ·obtain ⟨a', ha, b', e⟩ := ih h
    exact ⟨a', by simp [ha], b', e⟩
theorem ses_sorted {w : World} {bs : Nat} {ss : List Ses} {SB : List Nat} (h : SesM w bs ss SB) (hs : ss.Pairwise (fun s s' => s.1 < s'.1)) {D : DataW Unit} (m : MapTo D (List.zipWith (fun (s : Ses) g => (Lit.int .u64 s.1, g)) ss SB)) {ids : List Int} (ha : Q.Asc D ids) : ids = ss.map (·.1) := by
 refine asc_unique ha.lt (List.pairwise_map.2 hs) fun x => ?_
 rw [ha.mem x, m.hs]
 constructor
 ·rintro ⟨p, hp, e⟩
  obtain ⟨s, hs', g, rfl⟩ := mem_zip hp
  simp only [Lit.int.injEq, true_and] at e
  exact List.mem_map.2 ⟨s, hs', e⟩
 ·intro hx
  obtain ⟨s, hs', rfl⟩ := List.mem_map.1 hx
  obtain ⟨i, hi, e⟩ := List.getElem_of_mem hs'
  obtain ⟨g, hg, hm⟩ := key_at_ses h (i := i) (s := s) (by rw [List.getElem?_eq_getElem hi, e])
  exact ⟨_, hm, rfl⟩
def byS (l : List Int) : List UInt8 := l.map fun n => UInt8.ofNat n.toNat
theorem pw_unique {α : Type} [LT α] (irr : ∀ a : α, ¬ a < a) (tr : ∀ a b c : α, a < b → b < c → a < c) : ∀ {l m : List α}, l.Pairwise (· < ·) → m.Pairwise (· < ·) → (∀ x, x ∈ l ↔ x ∈ m) → l = m
 | [], [], _, _, _ => rfl
 | [], b :: m, _, _, h => absurd ((h b).2 (by simp)) (by simp)
 | a :: l, [], _, _, h => absurd ((h a).1 (by simp)) (by simp)
 | a :: l, b :: m, h1, h2, h => by
  rw [List.pairwise_cons] at h1 h2
  have hab : a = b := by
   rcases List.mem_cons.1 ((h a).1 (by simp)) with e | e
   ·exact e
   ·rcases List.mem_cons.1 ((h b).2 (by simp)) with e' | e'
    ·exact e'.symm
    ·exact absurd (tr _ _ _ (h2.1 a e) (h1.1 b e')) (irr _)
  subst hab
  rw [pw_unique irr tr h1.2 h2.2 (fun x => ?_)]
  constructor
  ·intro hx
   rcases List.mem_cons.1 ((h x).1 (by simp [hx])) with e | e
   ·subst e; exact absurd (h1.1 _ hx) (irr _)
   ·exact e
  ·intro hx
   rcases List.mem_cons.1 ((h x).2 (by simp [hx])) with e | e
   ·subst e; exact absurd (h2.1 _ hx) (irr _)
   ·exact e
theorem nod_sorted {w : World} {bn : Nat} {ns : List Nod} {NB : List Nat} (h : NodM w bn ns NB) (hs : (ns.map fun nd => byS nd.path).Pairwise (· < ·)) {D : DataW Unit} (m : MapTo D (List.zipWith (fun (nd : Nod) g => (litS nd.path, g)) ns NB)) {ks : List (List UInt8)} (ha : T.Asc D ks) : ks = ns.map fun nd => byS nd.path := by
 refine pw_unique (fun a => List.lt_irrefl a) (fun a b c => List.lt_trans) ha.lt hs fun x => ?_
 rw [ha.mem x, m.hs]
 constructor
 ·rintro ⟨p, hp, e⟩
  obtain ⟨s, hs', g, rfl⟩ := mem_zip hp
  simp only [litS, Lit.string.injEq] at e
  exact List.mem_map.2 ⟨s, hs', e⟩
 ·intro hx
  obtain ⟨s, hs', rfl⟩ := List.mem_map.1 hx
  obtain ⟨i, hi, e⟩ := List.getElem_of_mem hs'
  obtain ⟨g, hg, hm⟩ := key_at_nod h (i := i) (nd := s) (by rw [List.getElem?_eq_getElem hi, e])
  exact ⟨_, hm, rfl⟩
theorem zeroSesP (w : World) : (zeroValue 162).run Tryz.prog w = .ok (.pointer none) w := by kernel_rfl
theorem look_ses {w : World} {bs n : Nat} {D : DataW Unit} {l : List (Lit × Nat)} (o : w.ownsMap Tryz.prog 23 ptrElem bs n D) (m : MapTo D l) {I : Int} {g : Nat} (hp : (Lit.int .u64 I, g) ∈ l) (hI : 0 ≤ I ∧ I < 18446744073709551616) :
  (Instr.lookup 158 (.map (some bs)) (.int .u64 I) false).run Tryz.prog w = .ok (.pointer (some ⟨g, 0, none⟩)) w := by
 obtain ⟨v, ps, hr, hv⟩ := o.lookup keyU Tryz.underlying158 (zeroSesP w) (zd := .nil) (zp := []) rfl (key := .int .u64 I) (keyOf_int_mk Tryz.underlying23 (u64_wf hI))
 rw [m.at' _ hp] at hv
 obtain rfl := ptrElem_inv hv
 exact hr
theorem look_nod {w : World} {bn n : Nat} {D : DataW Unit} {l : List (Lit × Nat)} (o : w.ownsMap Tryz.prog 9 ptrElem bn n D) (m : MapTo D l) {P : List Int} {g : Nat} (hp : (litS P, g) ∈ l) (hP : P.length ≤ 1048576) :
  (Instr.lookup 159 (.map (some bn)) (.string (bstr P)) false).run Tryz.prog w = .ok (.pointer (some ⟨g, 0, none⟩)) w := by
 obtain ⟨v, ps, hr, hv⟩ := o.lookup keyT Tryz.underlying159 (zeroNodeP w) (zd := .nil) (zp := []) rfl (key := .string (bstr P)) (kl := litS P) (by
  rw [WideMaps.keyOf_string_mk Tryz.underlying9 (by rw [bstr_size]; unfold maxLen; omega), bstr_litS])
 rw [m.at' _ hp] at hv
 obtain rfl := ptrElem_inv hv
 exact hr
theorem grown_step {w w1 w2 : World} {sb : Nat} {row : Option Nat} (h : w.grownBy w1 (some sb)) (k : w1.grownBy w2 row) (hr : ∀ b, row = some b → w.heap.size ≤ b ∨ b = sb) : w.grownBy w2 (some sb) :=
 ⟨k.os.trans h.os, k.tape.trans h.tape, k.output.trans h.output, Nat.le_trans h.size k.size, fun i hi hne => (k.block i (Nat.lt_of_lt_of_le hi h.size) (fun e => by
  rcases hr i e.symm with h' | h'
  ·omega
  ·exact hne (by rw [h']))).trans (h.block i hi hne)⟩
theorem grown_set (w : World) (a : Addr) (v : Value) : w.grownBy (w.setCell a v) (some a.block) :=
 ⟨rfl, rfl, rfl, by simp, fun k _ hk => RowKit.Below.heap_setCell _ _ _ _ (fun e => hk (by rw [e]))⟩
theorem below_grow {w w1 w2 : World} {sb : Nat} (h : Below w.heap.size w w1) (k : w1.grownBy w2 (some sb)) (hs : w.heap.size ≤ sb) : Below w.heap.size w w2 := h.grown k h.size (fun b e => by cases e; exact hs)
theorem ownsMap_same {w w' : World} {k : TypeId} {R : Value → Option (DataW Unit × List MemPlace)} {b n : Nat} {D : DataW Unit} (h : w.ownsMap Tryz.prog k R b n D) (hh : w'.heap[b]? = w.heap[b]?) : w'.ownsMap Tryz.prog k R b n D := by
 obtain ⟨es, clock, h1, h2⟩ := h
 exact ⟨es, clock, hh.trans h1, h2⟩
theorem CellsAre.grown {w w' : World} {b : Nat} {vs : List Value} {row : Option Nat} (h : CellsAre w b vs) (hb : b < w.heap.size) (hg : w.grownBy w' row) (hne : some b ≠ row) : CellsAre w' b vs := by
 have hh := hg.block b hb hne
 refine ⟨fun i v hi => (cell_at_heap hh _).trans (h.1 i v hi), fun o => ?_⟩
 have : w'.frozen? ⟨b, o, none⟩ = w.frozen? ⟨b, o, none⟩ := World.frozen?_of_block hh
 rw [this]
 exact h.2 o
theorem bstr_byS (l : List Int) : (⟨(byS l).toArray⟩ : ByteArray) = bstr l := by
 have h : (bstr l).data = (byS l).toArray := by
  rw [← Array.toList_inj]
  simpa [byS] using bstr_data' l
 cases hb : bstr l with
 | mk d => rw [hb] at h; simp only at h; rw [h]
theorem rdK_str {B : Nat} {w : World} {v : Value} {ns : List Nod} (h : T.RdK B w v (ns.map fun nd => byS nd.path)) : ∃ p c, v = .slice p ns.length c ∧ (ns = [] ∨ ∃ g, p = some ⟨g, 0, none⟩ ∧ B ≤ g ∧ g < w.heap.size ∧ ∀ (j : Nat) (nd : Nod), ns[j]? = some nd → w.cell? ⟨g, 0 + j, none⟩ = some (.string (bstr nd.path))) := by
 rcases h with ⟨rfl, h0⟩ | ⟨g, cap, rfl, hb, hl, hH⟩
 ·have : ns = [] := by simpa using h0
  subst this
  exact ⟨none, 0, rfl, .inl rfl⟩
 ·refine ⟨some ⟨g, 0, none⟩, cap, by rw [List.length_map], .inr ⟨g, rfl, hb, hl, fun j nd hj => ?_⟩⟩
  have hjl := (List.getElem?_eq_some_iff.1 hj).1
  have := (hH j (by simpa using hjl)).1
  rw [this, ← bstr_byS]
  have e : (ns.map fun nd => byS nd.path).toArray[j]! = byS nd.path := by
   have e2 : ns[j] = nd := (List.getElem?_eq_some_iff.1 hj).2
   simp [hjl, e2]
  rw [e]
theorem elNo.cells {w : World} {nd : Nod} {c : Array Value} {l : List Lf} (h : elNo w nd c.toList l) : ∃ q0 q1 q2 q3 q4 q5 q6 q7, c = #[q0, q1, q2, q3, q4, q5, q6, q7] ∧ ∀ u ∈ [q0, q1, q2, q3, q4, q5, q6, q7], u.oneCell' = true := by
 obtain ⟨p0, c0, p1, c1, p4, c4, p7, c7, l0, l1, l4, l7, -, h2, -⟩ := h
 refine ⟨_, _, _, _, _, _, _, _, by rw [← Array.toList_inj, h2], fun u hu => ?_⟩
 simp only [List.mem_cons, List.not_mem_nil, or_false] at hu
 rcases hu with rfl | rfl | rfl | rfl | rfl | rfl | rfl | rfl <;> rfl
end Go.Proofs.YtnbgnhhnpmmloaaGreatDoor
