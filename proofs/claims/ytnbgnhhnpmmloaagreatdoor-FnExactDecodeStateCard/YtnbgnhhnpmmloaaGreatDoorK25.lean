import Derived.Test.YtnbgnhhnpmmloaaGreatDoorProg
import Derived.RangeFuncGives
import Derived.RangeFuncSeq
import Derived.Sort.MapsRangeIn
import Derived.Maps.Ext
import Derived.WalkKit
import Derived.OwnWalkIn
import Derived.TacticsInMore
import Derived.RegionIn
import Derived.LoopNIn
import Derived.LoopIn
import Derived.Maps.AppendAt
import Derived.RangeFuncKeeps
import Derived.RangeFuncFrom
import Derived.Below
import Derived.RangeFuncNested
import Derived.RangeFuncBound
import Derived.RangeFuncCalls
import Derived.RangeFuncLeaves
import Derived.Test.YtnbgnhhnpmmloaaGreatDoorK24
import Derived.Test.YtnbgnhhnpmmloaaGreatDoorK18
namespace Go.Proofs.YtnbgnhhnpmmloaaGreatDoor.Q
open Go.RowKit Go.Maps
set_option linter.unusedVariables false
set_option linter.unusedSimpArgs false
set_option maxRecDepth 100000
theorem keyU : Keyed Tryz.prog 23 := int_keyed Tryz.underlying23
abbrev encU (x : Int) : Value := .int .u64 x
def Come {H : Type} (D0 : DataW H) (left : Lit → Bool) (ss : List Int) : Prop := ss.Nodup ∧ ∀ x, x ∈ ss ↔ (has D0 (.int .u64 x) = true ∧ left (.int .u64 x) = false)
theorem Come.start {H : Type} (D0 : DataW H) : Come D0 (has D0) [] := ⟨List.nodup_nil, fun x => by cases has D0 (.int .u64 x) <;> simp⟩
theorem Come.step {H : Type} {D0 : DataW H} {left : Lit → Bool} {ss : List Int} (h : Come D0 left ss) {x : Int} {y : DataW H} (hlk : left (.int .u64 x) = true) (hat : ∀ zd, D0.atKey (.int .u64 x) zd = y) : Come D0 (fun z => left z && !z.sameKey (.int .u64 x)) (ss ++ [x]) := by
 have hhas : has D0 (.int .u64 x) = true := has_true_of_atKey hat
 have hnew : x ∉ ss := fun hx => by have := ((h.2 x).1 hx).2; rw [hlk] at this; cases this
 refine ⟨List.nodup_append.2 ⟨h.1, by simp, fun a ha b hb => by simp at hb; subst hb; exact fun e => hnew (e ▸ ha)⟩, fun y => ?_⟩
 by_cases hy : y = x
 ·subst hy; simp [hhas, Lit.sameKey]
 ·simp [h.2 y, hy, Lit.sameKey]
def AllKeys {H : Type} (D0 : DataW H) (ss : List Int) : Prop := ss.Nodup ∧ (∀ x, x ∈ ss ↔ has D0 (.int .u64 x) = true) ∧ ss.length ≤ Maps.size D0
theorem Come.all {H : Type} {D0 : DataW H} {left : Lit → Bool} {ss : List Int} (h : Come D0 left ss) (hl : ∀ kl, left kl = false) (hs : ss.length ≤ Maps.size D0) : AllKeys D0 ss := ⟨h.1, (fun x => by rw [h.2 x, hl]; simp), hs⟩
set_option maxHeartbeats 2000000 in
theorem keys1_s {H : Type} (n : Nat) (hn : 1 ≤ n) (l Bm b nn : Nat) (D0 : DataW H) {R : Value → Option (DataW H × List MemPlace)} (J Jx : List Int → World → Prop)
  (hY : ∀ pre x W, J pre W → pre.length < Maps.size D0 → YieldAt Fence.wide (n - 1) Tryz.prog l #[encU x] W fun e W' => (e = .returned (.bool true) ∧ J (pre ++ [x]) W' ∧ KeepsWalks W W') ∨ (e = .returned (.bool false) ∧ Jx (pre ++ [x]) W'))
  (W : World) (hJ : AbidesFrom W.heap.size J) (hm : W.cell? ⟨Bm, 0, none⟩ = some (.map (some b))) (hown : W.ownsMap Tryz.prog 23 R b nn D0) (h0 : J [] W) :
  CallsIn Fence.wide n Tryz.prog 183 #[.func (.yield l) #[] #[], .pointer (some ⟨Bm, 0, none⟩)] W fun e W' => (∃ v, e = .returned v) ∧ ((∃ ss : List Int, AllKeys D0 ss ∧ J ss W') ∨ (∃ pre, Jx pre W')) := by
 refine callsIn_of_wp Tryz.func183 rfl trivial ?_ rfl
 simp only [Tryz.ntmps183, List.size_toArray, List.length_cons, List.length_nil, Nat.reduceAdd, Nat.reduceSub, Array.replicate_succ, Array.replicate_zero, List.push_toArray, List.append_toArray, List.nil_append, List.cons_append]
 gi_wp2_with (first
  | (gi_at_range; refine wpListIn_range_own _ rfl _ 158 rfl 23 _ keyU Tryz.underlying158 _ b nn _ rfl hown ?_; intro w0 hrg0 hg0 hs0)
  | gi_in)
 go_frame
 gi_loopw [3] (fun _ wr => ∃ (left : Lit → Bool) (cnt : Nat) (ss : List Int), wr.ranges Tryz.prog 23 R b W.heap.size nn D0 left cnt ∧ ss.length + cnt ≤ Maps.size D0 ∧ Come D0 left ss ∧ J ss wr)
  (fun _ wr => wr.rangeLeft b W.heap.size)
 case atStart => exact ⟨_, _, [], hrg0, by simp, Come.start D0, hJ [] W w0 none h0 hg0 (fun r e => by cases e)⟩
 case round =>
  obtain ⟨left, cnt, ss, hrg, hcs, hC, hJs⟩ := hrel
  gi_wp2_with (first
   | (gi_at_next; refine wpListIn_next_ranges _ rfl _ rfl 23 keyU R encU id (fun key kl hk => by obtain ⟨x, hx, _⟩ := Maps.keyOf_int_inv Tryz.underlying23 hk; exact ⟨x, hx⟩) (fun v _ _ => ⟨v, rfl⟩) b W.heap.size nn _ _ _ rfl hrg ?_ ?_)
   | gi_in)
  ·intro hc0 hl0
   gi_wp2
   go_end0
   exact ⟨⟨_, rfl⟩, .inl ⟨ss, hC.all hl0 (by omega), hJs⟩⟩
  ·intro x c kl yd yp w2 cnt2 hkey hlk hv hat hrg2 hlt hg2 hs2 hen
   obtain ⟨x', ex, rfl, _⟩ := Maps.keyOf_int_inv Tryz.underlying23 hkey
   obtain rfl : x = x' := by simpa [encU] using ex
   have hJ2 : J ss w2 := hJ ss wr w2 (some W.heap.size) hJs hg2 (fun r e => by cases e; exact ⟨Nat.le_refl _, hrg.iter_walk⟩)
   obtain ⟨fn, tmps, assign, body, hy, hR⟩ := hY ss x w2 hJ2 (by omega)
   clear hs2
   gi_wp2
   refine hR.mono ?_
   rintro e W3 (⟨rfl, hJ3, hk3⟩ | ⟨rfl, hJx3⟩)
   ·gi_wp2
    have hrg3 := hrg2.of_walks hk3
    go_roundw
    case rel => exact ⟨_, cnt2, ss ++ [x], hrg3, by simp; omega, hC.step hlk hat, hJ3⟩
    case measure => rw [hrg3.left_eq, hrg.left_eq]; exact hlt
   ·gi_wp2
    refine bodyPost_ret (results_none rfl _ _ _) rfl ?_
    exact ⟨⟨_, rfl⟩, .inr ⟨_, hJx3⟩⟩
set_option maxHeartbeats 1000000 in
theorem keys_s (n : Nat) (mb : Option Nat) (w : World) :
  CallsIn Fence.wide n Tryz.prog 164 #[.map mb] w fun e w' => e = .returned (.func (.func 183) #[] #[.pointer (some ⟨w.heap.size, 0, none⟩)]) ∧ w' = w.alloc (.cells #[.map mb] 158) := by
 refine callsIn_of_wp Tryz.func164 rfl trivial ?_ rfl
 simp only [Tryz.ntmps164, List.size_toArray, List.length_cons, List.length_nil, Nat.reduceAdd, Nat.reduceSub, Array.replicate_succ, Array.replicate_zero, List.push_toArray, List.append_toArray, List.nil_append, List.cons_append]
 gi_wp2
 go_ret
 exact ⟨rfl, rfl⟩
theorem stops_s {H : Type} (n : Nat) (hn : 1 ≤ n) (Bm b nn : Nat) (D0 : DataW H) {R : Value → Option (DataW H × List MemPlace)} (w : World) (hBm : Bm < w.heap.size)
  (hm : w.cell? ⟨Bm, 0, none⟩ = some (.map (some b))) (hown : w.ownsMap Tryz.prog 23 R b nn D0) :
  SeqStopsK Fence.wide n Tryz.prog 183 #[.pointer (some ⟨Bm, 0, none⟩)] (fun x : Int => #[encU x]) KeepsWalks (AllKeys D0) (fun _ => True) (Maps.size D0) w := fun l J Jx W hW hJ _ hY h0 => by
 have hown' : W.ownsMap Tryz.prog 23 R b nn D0 := by
  have hbl := hown.lt
  obtain ⟨es, clock, hb, Ft, hs, hD⟩ := hown
  exact ⟨es, clock, (hW.block b hbl).trans hb, Ft, hs, hD⟩
 refine (keys1_s n hn l Bm b nn D0 J Jx hY W hJ ((hW.cell (p := ⟨Bm, 0, none⟩) hBm).trans hm) hown' h0).mono ?_
 rintro e W' ⟨he, ⟨ss, hs, hj⟩ | ⟨pre, hj⟩⟩
 ·exact ⟨he, .inl ⟨ss, hs, hj⟩⟩
 ·exact ⟨he, .inr ⟨pre, trivial, hj⟩⟩
set_option maxHeartbeats 2000000 in
theorem keys1_u {H : Type} (n : Nat) (hn : 1 ≤ n) (l Bm b nn : Nat) (D0 : DataW H) {R : Value → Option (DataW H × List MemPlace)} (J Jx : List Int → World → Prop)
  (hY : ∀ pre x W, J pre W → pre.length < Maps.size D0 → YieldAt Fence.wide (n - 1) Tryz.prog l #[encU x] W fun e W' => (e = .returned (.bool true) ∧ J (pre ++ [x]) W' ∧ KeepsWalks W W') ∨ (e = .returned (.bool false) ∧ Jx (pre ++ [x]) W'))
  (W : World) (hJ : AbidesFrom W.heap.size J) (hm : W.cell? ⟨Bm, 0, none⟩ = some (.map (some b))) (hown : W.ownsMap Tryz.prog 23 R b nn D0) (h0 : J [] W) :
  CallsIn Fence.wide n Tryz.prog 201 #[.func (.yield l) #[] #[], .pointer (some ⟨Bm, 0, none⟩)] W fun e W' => (∃ v, e = .returned v) ∧ ((∃ ss : List Int, AllKeys D0 ss ∧ J ss W') ∨ (∃ pre, Jx pre W')) := by
 refine callsIn_of_wp Tryz.func201 rfl trivial ?_ rfl
 simp only [Tryz.ntmps201, List.size_toArray, List.length_cons, List.length_nil, Nat.reduceAdd, Nat.reduceSub, Array.replicate_succ, Array.replicate_zero, List.push_toArray, List.append_toArray, List.nil_append, List.cons_append]
 gi_wp2_with (first
  | (gi_at_range; refine wpListIn_range_own _ rfl _ 122 rfl 23 _ keyU Tryz.underlying122 _ b nn _ rfl hown ?_; intro w0 hrg0 hg0 hs0)
  | gi_in)
 go_frame
 gi_loopw [3] (fun _ wr => ∃ (left : Lit → Bool) (cnt : Nat) (ss : List Int), wr.ranges Tryz.prog 23 R b W.heap.size nn D0 left cnt ∧ ss.length + cnt ≤ Maps.size D0 ∧ Come D0 left ss ∧ J ss wr)
  (fun _ wr => wr.rangeLeft b W.heap.size)
 case atStart => exact ⟨_, _, [], hrg0, by simp, Come.start D0, hJ [] W w0 none h0 hg0 (fun r e => by cases e)⟩
 case round =>
  obtain ⟨left, cnt, ss, hrg, hcs, hC, hJs⟩ := hrel
  gi_wp2_with (first
   | (gi_at_next; refine wpListIn_next_ranges _ rfl _ rfl 23 keyU R encU id (fun key kl hk => by obtain ⟨x, hx, _⟩ := Maps.keyOf_int_inv Tryz.underlying23 hk; exact ⟨x, hx⟩) (fun v _ _ => ⟨v, rfl⟩) b W.heap.size nn _ _ _ rfl hrg ?_ ?_)
   | gi_in)
  ·intro hc0 hl0
   gi_wp2
   go_end0
   exact ⟨⟨_, rfl⟩, .inl ⟨ss, hC.all hl0 (by omega), hJs⟩⟩
  ·intro x c kl yd yp w2 cnt2 hkey hlk hv hat hrg2 hlt hg2 hs2 hen
   obtain ⟨x', ex, rfl, _⟩ := Maps.keyOf_int_inv Tryz.underlying23 hkey
   obtain rfl : x = x' := by simpa [encU] using ex
   have hJ2 : J ss w2 := hJ ss wr w2 (some W.heap.size) hJs hg2 (fun r e => by cases e; exact ⟨Nat.le_refl _, hrg.iter_walk⟩)
   obtain ⟨fn, tmps, assign, body, hy, hR⟩ := hY ss x w2 hJ2 (by omega)
   clear hs2
   gi_wp2
   refine hR.mono ?_
   rintro e W3 (⟨rfl, hJ3, hk3⟩ | ⟨rfl, hJx3⟩)
   ·gi_wp2
    have hrg3 := hrg2.of_walks hk3
    go_roundw
    case rel => exact ⟨_, cnt2, ss ++ [x], hrg3, by simp; omega, hC.step hlk hat, hJ3⟩
    case measure => rw [hrg3.left_eq, hrg.left_eq]; exact hlt
   ·gi_wp2
    refine bodyPost_ret (results_none rfl _ _ _) rfl ?_
    exact ⟨⟨_, rfl⟩, .inr ⟨_, hJx3⟩⟩
set_option maxHeartbeats 1000000 in
theorem keys_u (n : Nat) (mb : Option Nat) (w : World) :
  CallsIn Fence.wide n Tryz.prog 187 #[.map mb] w fun e w' => e = .returned (.func (.func 201) #[] #[.pointer (some ⟨w.heap.size, 0, none⟩)]) ∧ w' = w.alloc (.cells #[.map mb] 122) := by
 refine callsIn_of_wp Tryz.func187 rfl trivial ?_ rfl
 simp only [Tryz.ntmps187, List.size_toArray, List.length_cons, List.length_nil, Nat.reduceAdd, Nat.reduceSub, Array.replicate_succ, Array.replicate_zero, List.push_toArray, List.append_toArray, List.nil_append, List.cons_append]
 gi_wp2
 go_ret
 exact ⟨rfl, rfl⟩
theorem stops_u {H : Type} (n : Nat) (hn : 1 ≤ n) (Bm b nn : Nat) (D0 : DataW H) {R : Value → Option (DataW H × List MemPlace)} (w : World) (hBm : Bm < w.heap.size)
  (hm : w.cell? ⟨Bm, 0, none⟩ = some (.map (some b))) (hown : w.ownsMap Tryz.prog 23 R b nn D0) :
  SeqStopsK Fence.wide n Tryz.prog 201 #[.pointer (some ⟨Bm, 0, none⟩)] (fun x : Int => #[encU x]) KeepsWalks (AllKeys D0) (fun _ => True) (Maps.size D0) w := fun l J Jx W hW hJ _ hY h0 => by
 have hown' : W.ownsMap Tryz.prog 23 R b nn D0 := by
  have hbl := hown.lt
  obtain ⟨es, clock, hb, Ft, hs, hD⟩ := hown
  exact ⟨es, clock, (hW.block b hbl).trans hb, Ft, hs, hD⟩
 refine (keys1_u n hn l Bm b nn D0 J Jx hY W hJ ((hW.cell (p := ⟨Bm, 0, none⟩) hBm).trans hm) hown' h0).mono ?_
 rintro e W' ⟨he, ⟨ss, hs, hj⟩ | ⟨pre, hj⟩⟩
 ·exact ⟨he, .inl ⟨ss, hs, hj⟩⟩
 ·exact ⟨he, .inr ⟨pre, trivial, hj⟩⟩
theorem Hid.intro' {p : Prop} (h : p) : Hid p := h
theorem unhid {p : Prop} (h : Hid p) : p := h
theorem grown_putObj (W : World) (l : Nat) (o : Obj) : W.grownBy (W.putObj l o) (some l) := ⟨rfl, rfl, rfl, by simp, fun k _ hk => World.putObj_heap_other (fun e => hk (by rw [e]))⟩
theorem grown_cell0 (W : World) (b : Nat) (v : Value) : W.grownBy (W.setCell ⟨b, 0, none⟩ v) (some b) := ⟨rfl, rfl, rfl, by simp, fun k _ hk => Below.heap_setCell _ _ _ k (fun e => hk (by rw [e]))⟩
theorem row_cells {W : World} {base : Nat} {e : TypeId} {size : Nat} {v : Value} {k : Nat} {xs : List Value} (h : W.ownsRow base e size v k xs) {j : Nat} {o : Obj} (hj : W.heap[j]? = some o) (ho : o.isCells = false) : v.ownBlock = none ∨ v.ownBlock ≠ some j := by
  rcases h.2 with ⟨rfl, _⟩ | ⟨g, cap, cur, rfl, _, hgb, _⟩
  · exact .inl rfl
  · refine .inr fun e' => ?_
    have : g = j := by simpa [Value.ownBlock] using e'
    subst this
    rw [hgb] at hj
    cases hj
    cases ho
theorem row_own {W W' : World} {row : Option Nat} {base : Nat} {e : TypeId} {size : Nat} {v : Value} {k : Nat} {xs : List Value} (h : W.ownsRow base e size v k xs) (hg : W.grownBy W' row)
    (hr : ∀ r, row = some r → ∃ o : Obj, W.heap[r]? = some o ∧ o.isCells = false) : W'.ownsRow base e size v k xs := by
  refine h.kept hg ?_
  cases hv : v.ownBlock with
  | none => exact .inl rfl
  | some j =>
    refine .inr fun e' => ?_
    obtain ⟨o, ho, hc⟩ := hr j e'.symm
    rcases row_cells h ho hc with e1 | e1
    · rw [hv] at e1; cases e1
    · exact e1 hv
theorem others_row {W W' : World} {base : Nat} {e : TypeId} {size : Nat} {v : Value} {k : Nat} {xs : List Value} (h : W.ownsRow base e size v k xs) (hg : W.grownBy W' v.ownBlock) : KeepsOthers W W' :=
  ⟨hg.size, fun j o hj ho => (hg.block j (Array.getElem?_eq_some_iff.1 hj).1 (fun e1 => by
    rcases row_cells h hj ho with e2 | e2
    · rw [e2] at e1; cases e1
    · exact e2 e1.symm)).trans hj⟩
structure Got (w0 : World) (Bs : Nat) (pre : List Int) (v : Value) (W : World) : Prop where
  cell : W.cell? ⟨Bs, 0, none⟩ = some v
  fr : W.frozen? ⟨Bs, 0, none⟩ = false
  row : W.ownsRow (Bs + 1) 23 1 v pre.length (pre.map encU)
  nil : v = .slice none 0 0 ↔ pre = []
set_option maxHeartbeats 4000000 in
theorem appendSeq_in (n : Nat) (hn : 2 ≤ n) (g : Nat) (lb : Array Value) (eg : ∀ args w, (callFunc g args).run Tryz.prog w = .ok (.enter g args) w)
    (S Sp : List Int → Prop) (N : Nat) (hN : N ≤ 1048576) (w : World) (hseq : SeqStopsK Fence.wide (n - 1) Tryz.prog g lb (fun x : Int => #[encU x]) KeepsWalks S Sp N w) :
    CallsIn Fence.wide n Tryz.prog 196 #[.slice none 0 0, .func (.func g) #[] lb] w fun e w' => ∃ (v : Value) (ss : List Int), e = .returned v ∧ S ss ∧ w'.ownsRow (w.heap.size + 1) 23 1 v ss.length (ss.map encU) ∧ (v = .slice none 0 0 ↔ ss = []) ∧ Below w.heap.size w w' := by
  have h1 : 1 ≤ n := by omega
  obtain ⟨i0, hi, hz0, hz1, hz2⟩ := info_parts (P := Tryz.prog) (e := 23) (z := .int .u64 0) (size := 1) (bytes := 8) (by kernel_rfl)
  refine callsIn_of_wp_marks Tryz.func196 rfl trivial ?_ rfl
  simp only [Tryz.ntmps196, List.size_toArray, List.length_cons, List.length_nil, Nat.reduceAdd, Nat.reduceSub, Array.replicate_succ, Array.replicate_zero, List.push_toArray, List.append_toArray, List.nil_append, List.cons_append]
  gi_wp2
  obtain ⟨W0, hW0⟩ : ∃ W0, W0 = w.alloc (.cells #[.slice none 0 0] 64) := ⟨_, rfl⟩
  have z0 : W0.heap.size = w.heap.size + 1 := by rw [hW0]; simp
  have k0 : W0.cell? ⟨w.heap.size, 0, none⟩ = some (.slice none 0 0) := by rw [hW0]; simp
  have f0 : W0.frozen? ⟨w.heap.size, 0, none⟩ = false := by rw [hW0]; simp
  have hB0 : Below w.heap.size w W0 := by rw [hW0]; exact (Below.refl _ _).alloc (Nat.le_refl _) _
  rw [← hW0]
  clear hW0
  refine wpIn_rangeFunc_ownF (F := Fence.wide) rfl h1 (gf := g) (lb := lb) rfl trivial eg hseq (fun h k => h.trans k) (fun W l o o' _ hl _ hw => KeepsWalks.putObj _ hl hw) hB0 (fun _ => rfl)
    (fun pre W => (∃ v, Got w w.heap.size pre v W) ∧ Below w.heap.size w W)
    (fun _ _ _ => False)
    (OwnFrom.and (Own.from (fun s A B row hs hg hr => by
      obtain ⟨v, hv⟩ := hs
      exact ⟨v, cell_kept hv.cell hg hr, (frozen_kept hv.cell hg hr).trans hv.fr, row_own hv.row hg hr, hv.nil⟩) _) (ownFrom_below (Nat.le_refl _) (by omega)))
    (fun _ _ _ _ _ hs _ _ => hs)
    ⟨⟨_, k0, f0, ⟨rfl, .inl ⟨rfl, rfl⟩⟩, by simp⟩, hB0⟩
    (fun x => { tmps := #[.slice none 0 0, .func (.func g) #[] lb, .pointer (some ⟨w.heap.size, 0, none⟩), undef, .slice none 0 0, encU x, .func (.func g) #[] lb, encU x, undef, undef, undef, undef, undef], defers := [] }) ?assign ?body ?done ?stop
  case assign =>
    intro l x W K hK
    gi_wp2_with (rw [Oper.semAt_eq _ _ _ (fun c h => by cases h)]; go_simp; try go_bits)
    exact hK
  case body =>
    rintro L pre x W ⟨⟨v, hv⟩, hBl⟩ hpl
    have hc := hv.cell
    have hf := hv.fr
    have hrow := hv.row
    have hlt : w.heap.size < W.heap.size := World.block_lt_of_cell? W _ hc
    have hrowA := hrow.alloc (.cells #[encU x] 23)
    gi_wp2_with (first
      | (gi_at_builtin; refine wpListIn_append_own _ rfl _ _ 64 rfl (w.heap.size + 1) 23 i0 (.int .u64 0) 1 8 Tryz.underlying64 hi hz0 hz1 hz2 rfl (by decide) _ _ _ rfl hrowA ⟨W.heap.size, 0, none⟩ 1 1 [encU x] rfl rfl (cell_one_new _ _ _) (by simp [Value.oneCell', encU]) (by unfold maxLen; omega) (by omega) (by simp; omega) ?_; intro v' w3 hown' hg3 hnil3
         have hg3' : (W.alloc (.cells #[encU x] 23)).grownBy w3 v.ownBlock := hg3
         have hneB : some w.heap.size ≠ v.ownBlock := fun e => by have := (hrow.lt _ e.symm).1; omega
         have hcA : (W.alloc (.cells #[encU x] 23)).cell? ⟨w.heap.size, 0, none⟩ = some v := (World.cell?_of_block (a := ⟨w.heap.size, 0, none⟩) (Below.heap_alloc _ _ _ hlt)).trans hc
         have hfA : (W.alloc (.cells #[encU x] 23)).frozen? ⟨w.heap.size, 0, none⟩ = false := (World.frozen?_of_block (a := ⟨w.heap.size, 0, none⟩) (Below.heap_alloc _ _ _ hlt)).trans hf
         have hb3 : w3.heap[w.heap.size]? = (W.alloc (.cells #[encU x] 23)).heap[w.heap.size]? := hg3'.block _ (by simp; omega) hneB
         have hc3 : w3.cell? ⟨w.heap.size, 0, none⟩ = some v := (World.cell?_of_block (a := ⟨w.heap.size, 0, none⟩) hb3).trans hcA
         have hf3 : w3.frozen? ⟨w.heap.size, 0, none⟩ = false := (World.frozen?_of_block (a := ⟨w.heap.size, 0, none⟩) hb3).trans hfA
         obtain ⟨g', cap', rfl⟩ : ∃ g' cap', v' = .slice (some ⟨g', 0, none⟩) (pre.length + 1) cap' := by
           rcases hown'.2 with ⟨_, h0⟩ | ⟨g', cap', _, h', _⟩
           · exact absurd h0 (by omega)
           · exact ⟨g', cap', h'⟩
         have HO3 := Hid.intro' ((KeepsOthers.alloc W (.cells #[encU x] 23)).trans (others_row hrowA hg3'))
         have HB3 := Hid.intro' (((hBl.alloc hBl.size (.cells #[encU x] 23)).grown hg3' (by have := hBl.size; simp; omega) (fun k e => by have := (hrow.lt k e).1; omega)))
         have HR3 := Hid.intro' hown'
         clear hown' hnil3 hg3 hg3' hcA hfA hb3
         go_frame)
      | (rw [Oper.semAt_eq _ _ _ (fun c h => by cases h)]; go_simp; try go_bits))
    refine ⟨(unhid HO3).trans (KeepsOthers.setCell _ _ _), ((unhid HO3).trans (KeepsOthers.setCell _ _ _)).walks, ⟨_, World.cell?_setCell_same _ _ _ hc3, by rw [World.frozen?_setCell]; exact hf3, ?_, by simp⟩, (unhid HB3).setCell (p := ⟨w.heap.size, 0, none⟩) (Nat.le_refl _) _⟩
    have hr := (unhid HR3).kept (grown_cell0 w3 w.heap.size (.slice (some ⟨g', 0, none⟩) (pre.length + 1) cap')) (.inr (fun e => by have := ((unhid HR3).lt _ e).1; omega))
    simpa using hr
  case done =>
    rintro D ys W hD hS ⟨⟨v, hv⟩, hBl⟩ hK
    have hc := hv.cell
    gi_wp2
    refine ⟨by simp, .inl ⟨_, _, rfl, run_takeDeferred hK, ?_⟩⟩
    exact ⟨_, results_tmp rfl _ _ _, v, ys, rfl, hS, row_own hv.row (grown_putObj _ _ _) (fun r e => by cases e; exact ⟨_, hK, rfl⟩), hv.nil, hBl.grown (grown_putObj _ _ _) hBl.size (fun k e => by cases e; omega)⟩
  case stop =>
    rintro D c pre W _ _ h _
    exact h.elim
end Go.Proofs.YtnbgnhhnpmmloaaGreatDoor.Q
namespace Go.Proofs.YtnbgnhhnpmmloaaGreatDoor.Q
open Go.Sort Go.RowKit
set_option linter.unusedVariables false
set_option linter.unusedSimpArgs false
set_option maxRecDepth 100000
theorem ins_nil (cap : Nat) (w : World) : Calls Tryz.prog 206 #[.slice none 0 cap, .int .i64 0, .int .i64 0] w fun e w' => e = .returned (.tuple #[]) ∧ w' = w := by
 go_enter Tryz.func206, Tryz.ntmps206
 go_wp2_with fail
 go_loopw [6] (fun s6 wr => s6 = .int .i64 1 ∧ wr = w) (fun _ _ => 0)
 case atStart => exact ⟨rfl, rfl⟩
 case round =>
  obtain ⟨rfl, rfl⟩ := hrel
  go_wp2
  go_end0
  exact ⟨rfl, rfl⟩
theorem pdq_nil (cap : Nat) (w : World) : Calls Tryz.prog 197 #[.slice none 0 cap, .int .i64 0, .int .i64 0, .int .i64 0] w fun e w' => e = .returned (.tuple #[]) ∧ w' = w := by
 go_enter Tryz.func197, Tryz.ntmps197
 go_wp2_with fail
 go_loopw [1, 2, 3, 8, 9] (fun s1 s2 s3 s8 s9 wr => s1 = .int .i64 0 ∧ s2 = .int .i64 0 ∧ s3 = .int .i64 0 ∧ s8 = .bool true ∧ s9 = .bool true ∧ wr = w) (fun _ _ _ _ _ _ => 0)
 case atStart => exact ⟨rfl, rfl, rfl, rfl, rfl, rfl⟩
 case round =>
  obtain ⟨rfl, rfl, rfl, rfl, rfl, rfl⟩ := hrel
  go_wp2_with fail
  refine (ins_nil cap _).mono ?_
  rintro e w1 ⟨rfl, rfl⟩
  go_wp2
  exact bodyPost_ret (results_none (h := rfl) _ _ _) rfl ⟨rfl, rfl⟩
theorem sort_nil (cap : Nat) (w : World) : Calls Tryz.prog 182 #[.slice none 0 cap] w fun e w' => e = .returned (.tuple #[]) ∧ w' = w := by
 have hL := len_any 0 (by omega)
 have e0 : Lib.bitLen 0 = 0 := by decide
 rw [e0] at hL
 go_enter Tryz.func182, Tryz.ntmps182
 go_wp2_with fail
 refine (hL _).mono ?_
 rintro e w1 ⟨rfl, rfl⟩
 go_wp2_with fail
 refine (pdq_nil cap _).mono ?_
 rintro e w1 ⟨rfl, rfl⟩
 go_wp2
 go_end0
 exact ⟨rfl, rfl⟩
theorem sort_any (blk off cap N : Nat) (d : Array Int) (hN : Hid (d.size = N)) (hsz : N ≤ 1048576) (w : World) (h : HU w blk off d) (hblk : blk < w.heap.size) :
  Calls Tryz.prog 182 #[.slice (some ⟨blk, off, none⟩) N cap] w fun e w' =>
   e = .returned (.tuple #[]) ∧ ∃ d', HU w' blk off d' ∧ PermIn 0 N d d' ∧ SortedIn ltInt 0 N d' ∧ w.grownBy w' (some blk) := by
 have hL := len_any N hsz
 have hK : Lib.bitLen N ≤ 21 := Lib.bitLen_le N 21 (by omega) (by omega)
 generalize Lib.bitLen N = K at hL hK
 have wU : IntKind.u64.wrap (N : Int) = (N : Int) := by rw [IntKind.wrap_u64]; omega
 have H0 := hide h
 clear h
 go_enter Tryz.func182, Tryz.ntmps182
 go_wp2_with fail
 refine (hL _).mono ?_
 rintro e w1 ⟨rfl, rfl⟩
 go_wp2_with fail
 refine (pdq_any blk off cap N hsz N 0 N K d _ (by show _ = _; omega) hN (uh H0) hblk (Nat.zero_le _) (Nat.le_refl _) (by omega) (by omega) (Or.inl rfl)).mono ?_
 rintro e w2 ⟨rfl, d', hH, hP, hS, hg⟩
 have HH := hide hH
 have HP := hide hP
 have HS := hide hS
 have HG := hide hg
 clear hH hP hS hg
 go_wp2
 go_end0
 exact ⟨rfl, d', uh HH, uh HP, uh HS, uh HG⟩
theorem sort_list (blk off cap : Nat) (l : List Int) (hsz : l.length ≤ 1048576) (w : World) (h : HU w blk off l.toArray) (hblk : blk < w.heap.size) :
  Calls Tryz.prog 182 #[.slice (some ⟨blk, off, none⟩) l.length cap] w fun e w' =>
   e = .returned (.tuple #[]) ∧ HU w' blk off (l.mergeSort (fun x y => decide (x ≤ y))).toArray ∧ w.grownBy w' (some blk) := by
 refine (sort_any blk off cap l.length l.toArray (by show _ = _; simp) hsz w h hblk).mono ?_
 rintro e w' ⟨rfl, d', hH, hP, hS, hg⟩
 refine ⟨rfl, ?_, hg⟩
 have e := sorted_unique_holds swo64 (fun x y h1 h2 => by simp [ltInt] at h1 h2; omega) l.toArray d' (by simpa using hP) (by simpa using hS)
 have e2 : (fun x y : Int => !ltInt y x) = (fun x y => decide (x ≤ y)) := by
  funext x y
  by_cases hh : x ≤ y
  ·rw [decide_eq_true hh]; simp [ltInt]; omega
  ·rw [decide_eq_false hh]; simp [ltInt]; omega
 rw [e2] at e
 have e3 : d' = (l.mergeSort (fun x y => decide (x ≤ y))).toArray := by
  rw [← show d'.toList.toArray = d' from by simp, e]
 rw [← e3]
 exact hH
end Go.Proofs.YtnbgnhhnpmmloaaGreatDoor.Q
namespace Go.Proofs.YtnbgnhhnpmmloaaGreatDoor.Q
open Go.RowKit Go.Maps Go.Sort
set_option linter.unusedVariables false
set_option linter.unusedSimpArgs false
set_option maxRecDepth 100000
set_option maxHeartbeats 1000000 in
theorem collect_in (n : Nat) (hn : 3 ≤ n) (g : Nat) (lb : Array Value) (eg : ∀ args w, (callFunc g args).run Tryz.prog w = .ok (.enter g args) w)
  (S Sp : List Int → Prop) (N : Nat) (hN : N ≤ 1048576) (w : World) (hseq : SeqStopsK Fence.wide (n - 1 - 1) Tryz.prog g lb (fun x : Int => #[encU x]) KeepsWalks S Sp N w) :
  CallsIn Fence.wide n Tryz.prog 181 #[.func (.func g) #[] lb] w fun e w' => ∃ (v : Value) (ss : List Int), e = .returned v ∧ S ss ∧ w'.ownsRow (w.heap.size + 1) 23 1 v ss.length (ss.map encU) ∧ (v = .slice none 0 0 ↔ ss = []) ∧ Below w.heap.size w w' := by
 have h1 : 1 ≤ n := by omega
 have hfS : Fence.wide.fn 196 := trivial
 refine callsIn_of_wp Tryz.func181 rfl trivial ?_ rfl
 simp only [Tryz.ntmps181, List.size_toArray, List.length_cons, List.length_nil, Nat.reduceAdd, Nat.reduceSub, Array.replicate_succ, Array.replicate_zero, List.push_toArray, List.append_toArray, List.nil_append, List.cons_append]
 gi_wp2_with (gi_at_call 196; refine (appendSeq_in (n - 1) (by omega) g lb eg S Sp N hN _ hseq).mono ?_; rintro e w' ⟨v, ss, rfl, hS, hrow, hnil, hb⟩)
 go_ret
 exact ⟨v, ss, rfl, hS, hrow, hnil, hb⟩
theorem hu_row {w : World} {g : Nat} {cur : Array Value} {e : TypeId} {ss : List Int} (hb : w.heap[g]? = some (.cells cur e (0, 0))) (ht : cur.toList.take ss.length = ss.map encU) : HU w g 0 ss.toArray := by
 intro j hj
 have hj' : j < ss.length := by simpa using hj
 refine ⟨?_, by simp [World.frozen?, hb]⟩
 have h1 : (cur.toList.take ss.length)[j]? = (ss.map encU)[j]? := by rw [ht]
 rw [List.getElem?_take_of_lt hj'] at h1
 simp only [World.cell?, hb, Nat.zero_add]
 simp only [Option.isSome_none, Bool.false_eq_true, if_false]
 rw [← Array.getElem?_toList, h1]
 simp [hj', encU]
def RdK (B : Nat) (w : World) (v : Value) (ss : List Int) : Prop := (v = .slice none 0 0 ∧ ss = []) ∨ ∃ g cap, v = .slice (some ⟨g, 0, none⟩) ss.length cap ∧ B ≤ g ∧ g < w.heap.size ∧ HU w g 0 ss.toArray
structure Asc {H : Type} (D0 : DataW H) (ss : List Int) : Prop where
 lt : ss.Pairwise (· < ·)
 mem : ∀ x, x ∈ ss ↔ has D0 (.int .u64 x) = true
 size : ss.length ≤ Maps.size D0
theorem asc_of {H : Type} {D0 : DataW H} {ss : List Int} (h : AllKeys D0 ss) : Asc D0 (ss.mergeSort (fun x y => decide (x ≤ y))) := by
 have hp := List.mergeSort_perm ss (fun x y => decide (x ≤ y))
 refine ⟨?_, fun x => (hp.mem_iff).trans (h.2.1 x), by rw [hp.length_eq]; exact h.2.2⟩
 have h1 := List.pairwise_mergeSort (le := fun x y : Int => decide (x ≤ y)) (fun a b c h1 h2 => by simp at *; omega) (fun a b => by simp; omega) ss
 have h2 : (ss.mergeSort (fun x y => decide (x ≤ y))).Pairwise (· ≠ ·) := hp.nodup_iff.2 h.1
 exact (h1.and h2).imp (fun {a b} ⟨x, y⟩ => by simp at x; omega)
set_option maxHeartbeats 2000000 in
theorem sorted_in (n : Nat) (hn : 4 ≤ n) (g : Nat) (lb : Array Value) (eg : ∀ args w, (callFunc g args).run Tryz.prog w = .ok (.enter g args) w)
  (S Sp : List Int → Prop) (N : Nat) (hN : N ≤ 1048576) (hS : ∀ ss, S ss → ss.length ≤ 1048576) (w : World) (hseq : SeqStopsK Fence.wide (n - 1 - 1 - 1) Tryz.prog g lb (fun x : Int => #[encU x]) KeepsWalks S Sp N w) :
  CallsIn Fence.wide n Tryz.prog 163 #[.func (.func g) #[] lb] w fun e w' => ∃ (v : Value) (ss : List Int), e = .returned v ∧ S ss ∧ RdK w.heap.size w' v (ss.mergeSort (fun x y => decide (x ≤ y))) ∧ Below w.heap.size w w' := by
 have h1 : 1 ≤ n := by omega
 have hfC : Fence.wide.fn 181 := trivial
 have hfS : Fence.wide.fn 182 := trivial
 refine callsIn_of_wp Tryz.func163 rfl trivial ?_ rfl
 simp only [Tryz.ntmps163, List.size_toArray, List.length_cons, List.length_nil, Nat.reduceAdd, Nat.reduceSub, Array.replicate_succ, Array.replicate_zero, List.push_toArray, List.append_toArray, List.nil_append, List.cons_append]
 gi_wp2_with (gi_at_call 181; refine (collect_in (n - 1) (by omega) g lb eg S Sp N hN _ hseq).mono ?_; rintro e w' ⟨v, ss, rfl, hSs, hrow, hnil, hb⟩)
 rcases hrow.2 with ⟨rfl, _⟩ | ⟨gb, cap, cur, rfl, hbase, hgb, hr1, hr2, hr3, hr4⟩
 ·have e0 : ss = [] := hnil.1 rfl
  subst e0
  gi_wp2_with (gi_at_call 182; refine (callsIn_wide.2 (sort_nil 0 _)).mono ?_; rintro e w2 ⟨rfl, rfl⟩)
  go_ret
  exact ⟨_, [], rfl, hSs, .inl ⟨rfl, by simp⟩, hb⟩
 ·have hlt : gb < w'.heap.size := (Array.getElem?_eq_some_iff.1 hgb).1
  have hH := hu_row hgb (by simpa using hr4)
  gi_wp2_with (gi_at_call 182; refine (callsIn_wide.2 (sort_list gb 0 cap ss (hS ss hSs) _ hH hlt)).mono ?_; rintro e w2 ⟨rfl, hH2, hg2⟩)
  go_ret
  refine ⟨_, ss, rfl, hSs, .inr ⟨gb, cap, by rw [List.length_mergeSort]; rfl, by omega, Nat.lt_of_lt_of_le hlt hg2.size, hH2⟩, ?_⟩
  exact hb.grown hg2 hb.size (fun k e => by cases e; omega)
set_option maxHeartbeats 2000000 in
theorem sortedKeys_s {H : Type} (b nn : Nat) (D0 : DataW H) {R : Value → Option (DataW H × List MemPlace)} (w : World) (hown : w.ownsMap Tryz.prog 23 R b nn D0) (hsz : Maps.size D0 ≤ 1048576) :
  Calls Tryz.prog 139 #[.map (some b)] w fun e w' => ∃ (v : Value) (ss : List Int), e = .returned v ∧ Asc D0 ss ∧ RdK w.heap.size w' v ss ∧ Below w.heap.size w w' := by
 refine (callsIn_wide (n := 6)).1 ?_
 have hfK : Fence.wide.fn 164 := trivial
 have hfS : Fence.wide.fn 163 := trivial
 have hbl := hown.lt
 have hown1 : (w.alloc (.cells #[.map (some b)] 158)).ownsMap Tryz.prog 23 R b nn D0 := by
  obtain ⟨es, clock, hb, Ft, hs, hD⟩ := hown
  exact ⟨es, clock, (Below.heap_alloc _ _ b hbl).trans hb, Ft, hs, hD⟩
 have hseq := stops_s 2 (by omega) w.heap.size b nn D0 (w.alloc (.cells #[.map (some b)] 158)) (by simp) (by simp) hown1
 refine callsIn_of_wp Tryz.func139 rfl trivial ?_ rfl
 simp only [Tryz.ntmps139, List.size_toArray, List.length_cons, List.length_nil, Nat.reduceAdd, Nat.reduceSub, Array.replicate_succ, Array.replicate_zero, List.push_toArray, List.append_toArray, List.nil_append, List.cons_append]
 gi_wp2_with (first
  | (gi_at_call 164; refine (keys_s _ _ _).mono ?_; rintro e w' ⟨rfl, rfl⟩)
  | (gi_at_call 163; refine (sorted_in 5 (by omega) _ _ (fun args w => (by kernel_rfl : (callFunc 183 args).run Tryz.prog w = .ok (.enter 183 args) w)) _ _ _ hsz (fun ss h => Nat.le_trans h.2.2 hsz) _ hseq).mono ?_; rintro e w' ⟨v, ss, rfl, hS, hrd, hb⟩))
 go_ret
 refine ⟨v, _, rfl, asc_of hS, ?_, ((Below.refl _ w).alloc (Nat.le_refl _) _).trans (hb.mono (by simp))⟩
 rcases hrd with h | ⟨g, cap, h1, h2, h3, h4⟩
 ·exact .inl h
 ·exact .inr ⟨g, cap, h1, by simp at h2; omega, h3, h4⟩
set_option maxHeartbeats 2000000 in
theorem sortedKeys_u {H : Type} (b nn : Nat) (D0 : DataW H) {R : Value → Option (DataW H × List MemPlace)} (w : World) (hown : w.ownsMap Tryz.prog 23 R b nn D0) (hsz : Maps.size D0 ≤ 1048576) :
  Calls Tryz.prog 167 #[.map (some b)] w fun e w' => ∃ (v : Value) (ss : List Int), e = .returned v ∧ Asc D0 ss ∧ RdK w.heap.size w' v ss ∧ Below w.heap.size w w' := by
 refine (callsIn_wide (n := 6)).1 ?_
 have hfK : Fence.wide.fn 187 := trivial
 have hfS : Fence.wide.fn 163 := trivial
 have hbl := hown.lt
 have hown1 : (w.alloc (.cells #[.map (some b)] 122)).ownsMap Tryz.prog 23 R b nn D0 := by
  obtain ⟨es, clock, hb, Ft, hs, hD⟩ := hown
  exact ⟨es, clock, (Below.heap_alloc _ _ b hbl).trans hb, Ft, hs, hD⟩
 have hseq := stops_u 2 (by omega) w.heap.size b nn D0 (w.alloc (.cells #[.map (some b)] 122)) (by simp) (by simp) hown1
 refine callsIn_of_wp Tryz.func167 rfl trivial ?_ rfl
 simp only [Tryz.ntmps167, List.size_toArray, List.length_cons, List.length_nil, Nat.reduceAdd, Nat.reduceSub, Array.replicate_succ, Array.replicate_zero, List.push_toArray, List.append_toArray, List.nil_append, List.cons_append]
 gi_wp2_with (first
  | (gi_at_call 187; refine (keys_u _ _ _).mono ?_; rintro e w' ⟨rfl, rfl⟩)
  | (gi_at_call 163; refine (sorted_in 5 (by omega) _ _ (fun args w => (by kernel_rfl : (callFunc 201 args).run Tryz.prog w = .ok (.enter 201 args) w)) _ _ _ hsz (fun ss h => Nat.le_trans h.2.2 hsz) _ hseq).mono ?_; rintro e w' ⟨v, ss, rfl, hS, hrd, hb⟩))
 go_ret
 refine ⟨v, _, rfl, asc_of hS, ?_, ((Below.refl _ w).alloc (Nat.le_refl _) _).trans (hb.mono (by simp))⟩
 rcases hrd with h | ⟨g, cap, h1, h2, h3, h4⟩
 ·exact .inl h
 ·exact .inr ⟨g, cap, h1, by simp at h2; omega, h3, h4⟩
end Go.Proofs.YtnbgnhhnpmmloaaGreatDoor.Q
namespace Go.Proofs.YtnbgnhhnpmmloaaGreatDoor
open Go.ChangeShapes Go.WideShapes Go.ChangeAt Go.RowKit
set_option linter.unusedVariables false
set_option linter.unusedSimpArgs false
set_option maxRecDepth 100000
theorem rdK_own {B : Nat} {w : World} {v : Value} {ss : List Int} (h : Q.RdK B w v ss) : ∃ p c A, v = .slice p ss.length c ∧ RdU w (.slice p ss.length c) ss ∧ LvU (.slice p ss.length c) ss A ∧ Apt B w A := by
 rcases h with ⟨rfl, rfl⟩ | ⟨g, cap, rfl, hb, hl, hH⟩
 ·exact ⟨none, 0, [], rfl, ⟨none, 0, rfl, .inl rfl⟩, ⟨none, 0, [], rfl, rfl, rfl, .inl rfl⟩, Apt.nil _ _⟩
 ·have hc : ∀ i, i < ss.length → w.cell? ⟨g, 0 + i, none⟩ = some (.int .u64 (ss.getD i 0)) ∧ w.frozen? ⟨g, 0 + i, none⟩ = false := fun i hi => by
   have := hH i (by simpa using hi)
   simp only [List.getElem!_toArray] at this
   rw [List.getD_eq_getElem?_getD, List.getElem?_eq_getElem hi]
   have e : ss[i]! = ss[i] := by simp [hi]
   first | (rw [e] at this; exact this) | simpa [hi] using this
  refine ⟨some ⟨g, 0, none⟩, cap, (List.range ss.length).map fun i => ⟨g, 0 + i, .u64⟩, rfl, ⟨_, _, rfl, .inr ⟨g, 0, rfl, fun i hi => (hc i hi).1⟩⟩, ⟨some ⟨g, 0, none⟩, cap, (List.range ss.length).map fun i => [⟨g, 0 + i, .u64⟩], rfl, by simp, ?_, .inr ⟨g, 0, rfl, fun i x l' hx hl => ?_⟩⟩, ⟨?_, fun a ha => ?_, fun a ha => ?_⟩⟩
  ·induction (List.range ss.length) with
   | nil => rfl
   | cons i r ih => rw [List.map_cons, List.map_cons, List.flatten_cons, ← ih]; rfl
  ·obtain ⟨hi, e⟩ := List.getElem?_eq_some_iff.1 hl
   simp at e
   rw [← e, Nat.mul_one, Nat.zero_add]
   rfl
  ·rw [List.map_map, List.Nodup, List.pairwise_map]
   exact List.nodup_range.imp (fun {i j} hij => by simpa using hij)
  ·obtain ⟨i, hi, rfl⟩ := List.mem_map.1 ha
   exact hb
  ·obtain ⟨i, hi, rfl⟩ := List.mem_map.1 ha
   obtain ⟨h1, h2⟩ := hc i (by simpa using hi)
   exact ⟨⟨_, h1⟩, h2⟩
theorem asc_unique : ∀ {l m : List Int}, l.Pairwise (· < ·) → m.Pairwise (· < ·) → (∀ x, x ∈ l ↔ x ∈ m) → l = m
 | [], [], _, _, _ => rfl
 | [], b :: m, _, _, h => absurd ((h b).2 (by simp)) (by simp)
 | a :: l, [], _, _, h => absurd ((h a).1 (by simp)) (by simp)
 | a :: l, b :: m, h1, h2, h => by
  rw [List.pairwise_cons] at h1 h2
  have hab : a = b := by
   rcases List.mem_cons.1 ((h a).1 (by simp)) with e | e
   ·exact e
   ·rcases List.mem_cons.1 ((h b).2 (by simp)) with e' | e'
    ·exact e'.symm
    ·have := h2.1 a e
     have := h1.1 b e'
     omega
  subst hab
  rw [asc_unique h1.2 h2.2 (fun x => ?_)]
  constructor
  ·intro hx
   rcases List.mem_cons.1 ((h x).1 (by simp [hx])) with e | e
   ·have := h1.1 x hx; omega
   ·exact e
  ·intro hx
   rcases List.mem_cons.1 ((h x).2 (by simp [hx])) with e | e
   ·have := h2.1 x hx; omega
   ·exact e
theorem set_sorted {D : DataW Unit} {s ss : List Int} (h : SetTo D s) (hs : s.Pairwise (· < ·)) (ha : Q.Asc D ss) : ss = s := by
 refine asc_unique ha.lt hs fun x => ?_
 rw [ha.mem x, h]
 constructor
 ·rintro ⟨i, hi, e⟩
  simp only [Lit.int.injEq, true_and] at e
  rw [e]; exact hi
 ·intro hx
  exact ⟨x, hx, rfl⟩
structure KN (w : World) (g h u : Nat) (V : Value) (nd : Nod) : Prop where
 blk : w.heap[g]? = some (.cells #[V, .int .u64 nd.owner, .int .i64 nd.mode, .map (some h), .int .u64 nd.epoch, .int .u64 nd.gen, .map (some u)] 166)
 val : Rd w V nd.value
 hld : ∃ D, w.ownsMap Tryz.prog 23 unitElem h nd.holders.length D ∧ SetTo D nd.holders
 wat : ∃ D, w.ownsMap Tryz.prog 23 unitElem u nd.watchers.length D ∧ SetTo D nd.watchers
end Go.Proofs.YtnbgnhhnpmmloaaGreatDoor
