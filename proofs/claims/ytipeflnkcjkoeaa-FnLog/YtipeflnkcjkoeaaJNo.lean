import Derived.Test.YtipeflnkcjkoeaaJNum
import Derived.RangeFuncNested
import Derived.RangeFuncBound
import Derived.RangeFuncCalls
import Derived.RangeFuncLeaves
import Derived.Shelf.Abstract
import Derived.Shelf.RegionOpen
import Derived.OwnWalkIn
import Derived.TacticsInMore
import Derived.LoopNIn
import Derived.LoopIn
namespace Go.Proofs.Ytipeflnkcjkoeaa
open Go.ChangeShapes Go.WideShapes Go.ChangeAt Go.RowKit Go.Shelf
set_option linter.unusedVariables false
set_option linter.unusedSimpArgs false
attribute [local go_sem] Oper.semAt_some

/-- an index and a byte -/
abbrev IB := { z : Int × Int // 0 ≤ z.2 ∧ z.2 < 256 }
def upto {α : Type} (f : Nat → α) (k : Nat) : List α := (List.range k).map f
theorem upto_succ {α : Type} (f : Nat → α) (k : Nat) : upto f (k + 1) = upto f k ++ [f k] := by simp [upto, List.range_succ]
theorem upto_length {α : Type} (f : Nat → α) (k : Nat) : (upto f k).length = k := by simp [upto]

theorem Byt.get {l : List Int} (h : Byt l) (i : Nat) : 0 ≤ l[i]?.getD 0 ∧ l[i]?.getD 0 < 256 := by
  by_cases hi : i < l.length
  · simp [hi]; exact h _ (List.getElem_mem hi)
  · simp [hi]
/-- what a round keeps: what lies below n, and the box of the slice -/
def KpB (n Bs : Nat) (A B : World) : Prop := Below n A B ∧ B.cell? ⟨Bs, 0, none⟩ = A.cell? ⟨Bs, 0, none⟩
theorem KpB.trans {n Bs : Nat} {A B C : World} (h : KpB n Bs A B) (k : KpB n Bs B C) : KpB n Bs A C := ⟨h.1.trans k.1, k.2.trans h.2⟩
theorem KpB.refl (n Bs : Nat) (A : World) : KpB n Bs A A := ⟨Below.refl _ _, rfl⟩
theorem KpB.put {n Bs : Nat} {w : World} (hn : n ≤ w.heap.size) (hB : Bs < w.heap.size) (W : World) (l : Nat) (o o' : Obj) (hl : w.heap.size ≤ l) (h : W.heap[l]? = some o) (h1 : o.isCells = false) (h2 : o.isWalk = false) : KpB n Bs W (W.putObj l o') :=
  ⟨belowK_b hn W l o o' hl h h1 h2, World.cell?_of_block (a := ⟨Bs, 0, none⟩) (World.putObj_heap_other (by show Bs ≠ l; omega))⟩
/-- what slices.Backward yields j-th -/
def bwAt (l : List Int) (h : Byt l) (j : Nat) : IB := ⟨((l.length : Int) - 1 - j, l[l.length - 1 - j]?.getD 0), h.get _⟩

set_option maxRecDepth 100000 in
set_option maxHeartbeats 2000000 in
theorem bw1_in (F : Fence) (n : Nat) (h7 : F.fn 56) (hro : F.round = none) (hn : 1 ≤ n) (L Bs n₀ b o len cap : Nat) (l : List Int) (hB : Byt l) (el : l.length = len) (hlen : len ≤ 8) (hb : b < n₀) (J Jx : List IB → World → Prop)
    (hY : ∀ pre x W, J pre W → pre.length < len → YieldAt F (n - 1) Try.prog L #[.int .i64 x.1.1, .int .u8 x.1.2] W fun e W' =>
      (e = .returned (.bool true) ∧ J (pre ++ [x]) W' ∧ KpB n₀ Bs W W') ∨ (e = .returned (.bool false) ∧ Jx (pre ++ [x]) W'))
    (W : World) (hBs : W.cell? ⟨Bs, 0, none⟩ = some (.slice (some ⟨b, o, none⟩) len cap)) (hc : ∀ j, j < len → W.cell? ⟨b, o + j, none⟩ = some (.int .u8 (l[j]?.getD 0))) (h0 : J [] W) :
    CallsIn F n Try.prog 56 #[.func (.yield L) #[] #[], .pointer (some ⟨Bs, 0, none⟩)] W fun e W' => (∃ v, e = .returned v) ∧
      ((∃ ys, ys = upto (bwAt l hB) len ∧ J ys W') ∨ (∃ pre, Jx pre W')) := by
  refine callsIn_of_wp Try.func56 rfl h7 ?_ hro
  simp only [Try.ntmps56, List.size_toArray, List.length_cons, List.length_nil, Nat.reduceAdd, Nat.reduceSub, Array.replicate_succ, Array.replicate_zero, List.push_toArray, List.append_toArray, List.nil_append, List.cons_append]
  gi_wp2
  gi_loopw [3] (fun i wr => ∃ k : Nat, k ≤ len ∧ i = .int .i64 ((len : Int) - 1 - k) ∧ J (upto (bwAt l hB) k) wr ∧ KpB n₀ Bs W wr) (fun i _ => (intOf i + 1).toNat)
  case atStart => exact ⟨0, Nat.zero_le _, by simp, h0, KpB.refl _ _ _⟩
  case round =>
    obtain ⟨k, hk, rfl, hJs, hnx⟩ := hrel
    by_cases hlt : k < len
    · obtain ⟨m, em⟩ : ∃ m : Nat, m = len - 1 - k := ⟨_, rfl⟩
      have e1 : (len : Int) - 1 - k = (m : Int) := by omega
      have hm : m < len := by omega
      obtain ⟨z, ez⟩ : ∃ z, z = l[m]?.getD 0 := ⟨_, rfl⟩
      have hcx : wr.cell? ⟨b, o + m, none⟩ = some (.int .u8 z) := (hnx.1.cell (p := ⟨b, o + m, none⟩) hb).trans ((hc m hm).trans (by rw [ez]))
      have hbx : wr.cell? ⟨Bs, 0, none⟩ = some (.slice (some ⟨b, o, none⟩) len cap) := hnx.2.trans hBs
      obtain ⟨fn, tmps, assign, body, hy, hR⟩ := hY _ (bwAt l hB k) wr hJs (by rw [upto_length]; exact hlt)
      have ex : (bwAt l hB k).1 = ((m : Int), z) := by simp only [bwAt, el, e1, em, ez]
      rw [ex] at hy
      dsimp only at hy
      rw [e1]
      have hmi : (m : Int) < (len : Int) := by omega
      have EM := hide em
      have E1 := hide e1
      have HK := hide hlt
      have HC := hide hc
      clear em e1 ex hlt hc ez
      gi_wp2
      refine hR.mono ?_
      rintro e W3 (⟨rfl, hJ3, hk3⟩ | ⟨rfl, hJx3⟩)
      · gi_wp2
        go_roundw
        case rel => exact ⟨k + 1, unhide HK, by have := unhide E1; congr 1; omega, by rw [upto_succ]; exact hJ3, hnx.trans hk3⟩
        case measure => simp [intOf] <;> omega
      · gi_wp2
        refine bodyPost_ret (results_none rfl _ _ _) rfl ?_
        exact ⟨⟨_, rfl⟩, .inr ⟨_, hJx3⟩⟩
    · obtain rfl : k = len := by omega
      gi_wp2
      go_end0
      exact ⟨⟨_, rfl⟩, .inl ⟨_, rfl, hJs⟩⟩

set_option maxHeartbeats 1000000 in
theorem bw_in (F : Fence) (n : Nat) (h5 : F.fn 52) (hro : F.round = none) (a : Option Addr) (len cap : Nat) (w : World) :
    CallsIn F n Try.prog 52 #[.slice a len cap] w fun e w' => e = .returned (.func (.func 56) #[] #[.pointer (some ⟨w.heap.size, 0, none⟩)]) ∧ w' = w.alloc (.cells #[.slice a len cap] 22) := by
  refine callsIn_of_wp Try.func52 rfl h5 ?_ hro
  simp only [Try.ntmps52, List.size_toArray, List.length_cons, List.length_nil, Nat.reduceAdd, Nat.reduceSub, Array.replicate_succ, Array.replicate_zero, List.push_toArray, List.append_toArray, List.nil_append, List.cons_append]
  gi_wp2
  go_ret
  exact ⟨rfl, rfl⟩

theorem bw_stops (F : Fence) (n : Nat) (h7 : F.fn 56) (hro : F.round = none) (hn : 1 ≤ n) (Bs n₀ b o len cap : Nat) (l : List Int) (hB : Byt l) (el : l.length = len) (hlen : len ≤ 8) (hb : b < n₀) (w : World) (hBn : Bs < w.heap.size) (hn₀ : n₀ ≤ w.heap.size)
    (hBs : w.cell? ⟨Bs, 0, none⟩ = some (.slice (some ⟨b, o, none⟩) len cap)) (hc : ∀ j, j < len → w.cell? ⟨b, o + j, none⟩ = some (.int .u8 (l[j]?.getD 0))) :
    SeqStopsK F n Try.prog 56 #[.pointer (some ⟨Bs, 0, none⟩)] (fun x : IB => #[.int .i64 x.1.1, .int .u8 x.1.2]) (KpB n₀ Bs) (fun ys => ys = upto (bwAt l hB) len) (fun _ => True) len w := fun L J Jx W hW _ _ hY h0 => by
  refine (bw1_in F n h7 hro hn L Bs n₀ b o len cap l hB el hlen hb J Jx hY W ((hW.cell (p := ⟨Bs, 0, none⟩) (by show Bs < _; omega)).trans hBs) (fun j hj => (hW.cell (p := ⟨b, o + j, none⟩) (by show b < _; omega)).trans (hc j hj)) h0).mono ?_
  rintro e W' ⟨he, ⟨ys, hy, hj⟩ | ⟨pre, hj⟩⟩
  · exact ⟨he, .inl ⟨_, hy, hj⟩⟩
  · exact ⟨he, .inr ⟨_, trivial, hj⟩⟩

/-- the number behind the bytes that have come -/
def acc (pre : List IB) : Int := pre.foldl (fun a x => a * 256 + x.1.2) 0
theorem acc_snoc (pre : List IB) (x : IB) : acc (pre ++ [x]) = acc pre * 256 + x.1.2 := by simp [acc]
theorem acc_bounds' (k : Nat) : ∀ pre : List IB, pre.length = k → 0 ≤ acc pre ∧ acc pre < 256 ^ k := by
  induction k with
  | zero => intro pre h; rw [List.eq_nil_of_length_eq_zero h]; simp [acc]
  | succ k ih =>
    intro pre h
    rcases pre.eq_nil_or_concat with rfl | ⟨m, x, rfl⟩
    · simp at h
    · rw [List.concat_eq_append] at h ⊢
      rw [acc_snoc]
      obtain ⟨h0, h1⟩ := ih m (by simpa using h)
      have := x.2
      rw [Int.pow_succ]
      omega
theorem acc_lt {pre : List IB} (h : pre.length < 8) : 0 ≤ acc pre ∧ acc pre * 256 + 256 ≤ 18446744073709551616 := by
  obtain ⟨h0, h1⟩ := acc_bounds' pre.length pre rfl
  refine ⟨h0, ?_⟩
  have h9 : ((256 ^ pre.length : Nat) : Int) ≤ 72057594037927936 := by
    have h8 := Nat.pow_le_pow_right (n := 256) (by omega) (show pre.length ≤ 7 by omega)
    have e : 256 ^ 7 = 72057594037927936 := rfl
    omega
  rw [Int.natCast_pow] at h9
  have h10 : acc pre < 72057594037927936 := Int.lt_of_lt_of_le h1 h9
  omega
theorem acc_bw (l : List Int) (hB : Byt l) (k : Nat) (hk : k ≤ l.length) : acc (upto (bwAt l hB) k) = num (l.drop (l.length - k)) := by
  induction k with
  | zero => simp [upto, acc, num]
  | succ k ih =>
    rw [upto_succ, acc_snoc, ih (by omega)]
    have hlt : l.length - 1 - k < l.length := by omega
    have e : l.drop (l.length - (k + 1)) = l[l.length - 1 - k] :: l.drop (l.length - k) := by
      rw [show l.length - (k + 1) = l.length - 1 - k by omega, List.drop_eq_getElem_cons hlt]
      congr 2; omega
    rw [e, num]
    simp [bwAt, hlt]
    omega

set_option maxRecDepth 100000 in
set_option maxHeartbeats 2000000 in
theorem numberOf_in (F : Fence) (n : Nat) (h3 : F.fn 41) (h5 : F.fn 52) (h6 : F.fn 56) (hro : F.round = none) (hn : 3 ≤ n) (b o len cap : Nat) (l : List Int) (hB : Byt l) (el : l.length = len) (hlen : len ≤ 8) (hb0 : 0 < len) (w : World)
    (hc : ∀ j, j < len → w.cell? ⟨b, o + j, none⟩ = some (.int .u8 (l[j]?.getD 0))) :
    CallsIn F n Try.prog 41 #[.slice (some ⟨b, o, none⟩) len cap] w fun e W' => e = .returned (.int .u64 (num l)) ∧ Below w.heap.size w W' := by
  have h1 : 1 ≤ n := by omega
  refine callsIn_of_wp_marks Try.func41 rfl h3 ?_ hro
  simp only [Try.ntmps41, List.size_toArray, List.length_cons, List.length_nil, Nat.reduceAdd, Nat.reduceSub, Array.replicate_succ, Array.replicate_zero, List.push_toArray, List.append_toArray, List.nil_append, List.cons_append]
  gi_wp2_with (gi_at_call 52; refine (bw_in F (n - 1) h5 hro _ _ _ _).mono ?_; rintro e w' ⟨rfl, rfl⟩)
  obtain ⟨W0, hW0⟩ : ∃ W0, W0 = (w.alloc (.cells #[.int .u64 0] 28)).alloc (.cells #[.slice (some ⟨b, o, none⟩) len cap] 22) := ⟨_, rfl⟩
  have z0 : W0.heap.size = w.heap.size + 2 := by rw [hW0]; simp
  have k0 : W0.cell? ⟨w.heap.size, 0, none⟩ = some (.int .u64 0) := by rw [hW0]; simp
  have f0 : W0.frozen? ⟨w.heap.size, 0, none⟩ = false := by rw [hW0]; simp
  have k1 : W0.cell? ⟨w.heap.size + 1, 0, none⟩ = some (.slice (some ⟨b, o, none⟩) len cap) := by rw [hW0]; simp
  have hB0 : Below w.heap.size w W0 := by rw [hW0]; exact ((Below.refl _ _).alloc (Nat.le_refl _) _).alloc (by simp) _
  have hbw : b < w.heap.size := World.block_lt_of_cell? w _ (hc 0 hb0)
  rw [← hW0]
  clear hW0
  refine wpIn_rangeFunc_ownF hro h1 (gf := 56) (lb := #[.pointer (some ⟨w.heap.size + 1, 0, none⟩)]) rfl h6 (enters_of Try.func56 (by kernel_rfl) rfl)
    (bw_stops F (n - 1) h6 hro (by omega) (w.heap.size + 1) w.heap.size b o len cap l hB el hlen hbw W0 (by omega) (by omega) k1 (fun j hj => (hB0.cell (p := ⟨b, o + j, none⟩) hbw).trans (hc j hj))) (fun h k => h.trans k) (KpB.put (by omega) (by omega)) (Below.refl _ _) (fun _ => rfl)
    (fun pre W => (W.cell? ⟨w.heap.size, 0, none⟩ = some (.int .u64 (acc pre)) ∧ W.frozen? ⟨w.heap.size, 0, none⟩ = false) ∧ Below w.heap.size w W)
    (fun _ _ _ => False)
    (OwnFrom.and (Own.from (fun s A B row hs hg hr => ⟨cell_kept hs.1 hg hr, (frozen_kept hs.1 hg hr).trans hs.2⟩) _) (ownFrom_below (Nat.le_refl _) (by omega)))
    (fun _ _ _ _ _ hs _ _ => hs)
    ⟨⟨k0, f0⟩, hB0⟩
    (fun x => { tmps := #[.slice (some ⟨b, o, none⟩) len cap, undef, .int .u64 0, .pointer (some ⟨w.heap.size, 0, none⟩), undef, .int .u8 x.1.2, .slice (some ⟨b, o, none⟩) len cap, .func (.func 56) #[] #[.pointer (some ⟨w.heap.size + 1, 0, none⟩)], .int .i64 x.1.1, .int .u8 x.1.2, undef, undef, undef, undef, undef, undef], defers := [] }) ?assign ?body ?done ?stop
  case assign =>
    intro l x W K hK
    gi_wp2
    exact hK
  case body =>
    rintro L pre x W ⟨⟨hcl, hf⟩, hBl⟩ hpl
    obtain ⟨a0, a1⟩ := acc_lt (pre := pre) (by omega)
    obtain ⟨x0, x1⟩ := x.2
    have HS := hide (acc_snoc pre x)
    generalize acc pre = a at *
    generalize x.1.2 = y at *
    have ejoin : bits .or .u64 (a * 256) y = a * 256 + y := by
      exact bits_join .u64 64 (by decide) wraps_u64 8 (a * 256) y (by omega) (by omega) (by omega) x0 (by omega) (by omega)
    have EJ := hide ejoin
    clear ejoin
    gi_wp2
    refine ⟨KeepsOthers.setCell _ _ _, ⟨(Below.refl w.heap.size W).setCell (p := ⟨w.heap.size, 0, none⟩) (Nat.le_refl _) _, World.cell?_setCell_far _ _ _ _ (by simp)⟩, ⟨?_, by rw [World.frozen?_setCell]; exact hf⟩, hBl.setCell (p := ⟨w.heap.size, 0, none⟩) (Nat.le_refl _) _⟩
    rw [unhide HS, ← unhide EJ]
    exact World.cell?_setCell_same' _ _ _ (by rw [hcl]; rfl)
  case done =>
    rintro D ys W hD rfl ⟨⟨hcl, hf⟩, hBl⟩ hK
    gi_wp2
    refine ⟨by simp, .inl ⟨_, _, rfl, run_takeDeferred hK, ?_⟩⟩
    exact ⟨_, results_tmp rfl _ _ _, by rw [← el, acc_bw l hB l.length (Nat.le_refl _)]; simp, hBl.trans (belowK_b (w := w) (Nat.le_refl _) W D _ _ (by omega) hK rfl rfl)⟩
  case stop =>
    rintro D c pre W _ _ h _
    exact h.elim

theorem numberOf_any (l : List Int) (p : Option Addr) (c n : Nat) (en : Hid (l.length = n)) (w : World) (h : Rd w (.slice p n c) l) (hb : Byt l) (hn : n ≤ 8) (h0 : 0 < n) :
    Calls Try.prog 41 #[.slice p n c] w fun e w' => e = .returned (.int .u64 (num l)) ∧ Below w.heap.size w w' := by
  have e := unhide en
  obtain ⟨b, o, rfl, -, hc⟩ := h.at (by omega)
  refine callsIn_wide.1 (numberOf_in Fence.wide 3 trivial trivial trivial rfl (by omega) b o n c l hb e hn h0 w (fun j hj => ?_))
  rw [hc j (by omega)]
  rfl
end Go.Proofs.Ytipeflnkcjkoeaa
