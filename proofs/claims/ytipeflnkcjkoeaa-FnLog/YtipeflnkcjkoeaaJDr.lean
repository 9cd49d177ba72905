import Derived.Test.YtipeflnkcjkoeaaGN
import Derived.Test.YtipeflnkcjkoeaaJSm
import Derived.Test.YtipeflnkcjkoeaaJB
namespace Go.Proofs.Ytipeflnkcjkoeaa
open Go.ChangeShapes Go.WideShapes Go.ChangeAt Go.RowKit
set_option linter.unusedVariables false
set_option linter.unusedSimpArgs false

/-- the number that l2drawSeq draws -/
def dSeq (k : Int) : Int := if k < 200 then k % 20 else if k < 220 then 18446744073709551615 - k % 4 else IntKind.u64.wrap (k * 2 ^ (k % 50).toNat)
theorem dSeq_range (k : Int) (h0 : 0 ≤ k) : 0 ≤ dSeq k ∧ dSeq k < 18446744073709551616 := by
  unfold dSeq
  split
  · omega
  · split
    · omega
    · rw [IntKind.wrap_u64]; omega

set_option maxHeartbeats 800000 in
theorem drawSeq_any (g : Nat) (p : Option Addr) (cd : List Int) (c t : Nat) (w : World) (h : Rdr w g p cd c t) (hb : Byt cd) (hl : cd.length ≤ 500) :
    Calls Try.prog 48 #[.pointer (some ⟨g, 0, none⟩)] w fun e w' => e = .returned (.int .u64 (dSeq (cd.getD t 0))) ∧ Rdr w' g p cd c (t + 1) ∧ Kept [blk g] w w' := by
  have hr := getD_range cd hb t
  go_enter Try.func48, Try.ntmps48
  go_wp2_with fail
  refine (next_any g p cd c t _ h hb hl).mono ?_
  rintro e w1 ⟨rfl, h1, k1⟩
  obtain ⟨x, ex⟩ : ∃ x, x = cd.getD t 0 := ⟨_, rfl⟩
  rw [← ex] at hr ⊢
  have EX := hide ex
  clear ex
  by_cases a1 : x < 200
  · have e1 : dSeq x = x % 20 := by unfold dSeq; rw [if_pos a1]
    have E1 := hide e1
    clear e1
    go_wp2
    go_ret
    exact ⟨by rw [← unhide EX, unhide E1]; rfl, h1, k1⟩
  · by_cases a2 : x < 220
    · have e1 : dSeq x = 18446744073709551615 - x % 4 := by unfold dSeq; rw [if_neg a1, if_pos a2]
      have E1 := hide e1
      clear e1
      go_wp2
      go_ret
      exact ⟨by rw [← unhide EX, unhide E1]; rfl, h1, k1⟩
    · have e1 : dSeq x = IntKind.u64.wrap (x * 2 ^ (x % 50).toNat) := by unfold dSeq; rw [if_neg a1, if_neg a2]
      have E1 := hide e1
      clear e1
      go_wp2
      go_ret
      exact ⟨by rw [← unhide EX, unhide E1]; rfl, h1, k1⟩

theorem take500 (l : List Int) : l.take (l.take 500).length = l.take 500 := by
  by_cases h : 500 ≤ l.length
  · rw [show (l.take 500).length = 500 by simp; omega]
  · rw [show (l.take 500).length = l.length by simp; omega, List.take_length, List.take_of_length_le (by omega)]
theorem Rd.take500 {w : World} {p : Option Addr} {c : Nat} {l : List Int} (h : Rd w (.slice p l.length c) l) : Rd w (.slice p (l.take 500).length c) (l.take 500) := by
  obtain ⟨q, d, e, hh⟩ := h
  simp only [Value.slice.injEq] at e
  obtain ⟨rfl, -, rfl⟩ := e
  refine ⟨p, c, rfl, ?_⟩
  rcases hh with rfl | ⟨b, o, rfl, hc⟩
  · left; rfl
  · right
    refine ⟨b, o, rfl, fun i hi => ?_⟩
    rw [List.length_take] at hi
    rw [hc i (by omega)]
    simp [List.getD, List.getElem?_take, show i < 500 by omega]
theorem Rd.old {w : World} {v : Value} {l : List Int} (h : Rd w v l) (hl : l ≠ []) : ∀ b, v.ownBlock = some b → b < w.heap.size := by
  obtain ⟨p, cap, rfl, h⟩ := h
  intro b e
  rcases h with rfl | ⟨b', o, rfl, hc⟩
  · exact absurd rfl hl
  · simp [Value.ownBlock] at e
    subst e
    have hp : 0 < l.length := List.length_pos_iff.2 hl
    exact World.block_lt_of_cell? w _ (hc 0 hp)

theorem dB_byt {cd : List Int} (hb : Byt cd) (t : Nat) : Byt (dB cd t) := by
  intro z hz
  unfold dB at hz
  obtain ⟨j, _, rfl⟩ := List.mem_map.1 hz
  exact getD_range cd hb _

/-- the bytes that DrawEncodeRecord draws -/
def dBody (cd : List Int) : List Int := if 240 < cd.getD 0 0 then List.replicate (999 + (cd.getD 0 0 % 3).toNat) (cd.getD 0 0) else dB cd 2

/-- a reader over a code, opened -/
theorem opened {p : Option Addr} {c : Nat} {code : List Int} {w w1 : World} {o : Obj} (h : Rd w (.slice p code.length c) code) (b1 : Below w.heap.size w w1) (g : Nat) (hg : w.heap.size ≤ g) (h0 : w1.cell? ⟨g, 0, none⟩ = some (.slice p (code.take 500).length c)) (h1 : w1.cell? ⟨g, 1, none⟩ = some (.int .i64 0)) (hf : ∀ o, w1.frozen? ⟨g, o, none⟩ = false) : Rdr w1 g p (code.take 500) c 0 := by
  have rd0 := h.take500
  exact ⟨h0, by simpa using h1, hf, rd0.below b1, fun hne e => by have := rd0.old hne _ e; omega⟩

set_option maxHeartbeats 800000 in
theorem drawRec_any (p : Option Addr) (c : Nat) (code : List Int) (w : World) (h : Rd w (.slice p code.length c) code) (hB : Byt code) (hl : code.length ≤ 1048576) (hc : code.length ≤ c) (cd : List Int) (ecd : Hid (code.take 500 = cd)) :
    Calls Try.prog 30 #[.slice p code.length c] w fun e w' => ∃ p' c', e = .returned (recV (dSeq (cd.getD 1 0)) (.slice p' (dBody cd).length c')) ∧ Own w.heap.size w' (.slice p' (dBody cd).length c') (dBody cd) ∧ Below w.heap.size w w' := by
  have hBt : Byt cd := by rw [← unhide ecd]; exact fun z hz => hB z (List.mem_of_mem_take hz)
  have hlt : cd.length ≤ 500 := by rw [← unhide ecd]; simp; omega
  go_enter Try.func30, Try.ntmps30
  go_wp2_with fail
  refine (l1open_any p c code _ hl hc).mono ?_
  rintro e w1 ⟨rfl, hw1⟩
  have c0 : w1.cell? ⟨w.heap.size, 0, none⟩ = some (.int .u64 0) := by rw [hw1]; simp
  have c1 : w1.cell? ⟨w.heap.size, 1, none⟩ = some (.slice none 0 0) := by rw [hw1]; simp
  have f1 : ∀ o, w1.frozen? ⟨w.heap.size, o, none⟩ = false := by intro o; rw [hw1]; simp
  have b1 : Below w.heap.size w w1 := by rw [hw1]; exact ((Below.refl _ _).alloc (Nat.le_refl _) _).alloc (by simp) _
  have z1 : w1.heap.size = w.heap.size + 2 := by rw [hw1]; simp
  have hR1 : Rdr w1 (w.heap.size + 1) p (code.take 500) c 0 := opened (o := .cells #[] 0) h b1 (w.heap.size + 1) (by omega) (by rw [hw1]; simp) (by rw [hw1]; simp) (by intro o; rw [hw1]; simp)
  have eg : (w.alloc (.cells #[.int .u64 0, .slice none 0 0] 38)).heap.size = w.heap.size + 1 := by simp
  rw [eg]
  clear hw1 eg h hB hl hc
  rw [unhide ecd] at hR1
  have nb : ∀ v ∈ [blk (w.heap.size + 1)], v.ownBlock ≠ some w.heap.size := by intro v hv; simp only [List.mem_singleton] at hv; subst hv; simp [blk_own]
  have fin0 : ∀ {W W' : World}, Kept [blk (w.heap.size + 1)] W W' → w.heap.size < W.heap.size → ∀ o, W'.cell? ⟨w.heap.size, o, none⟩ = W.cell? ⟨w.heap.size, o, none⟩ := fun hk hz => hk.cellAt hz nb
  have fin1 : ∀ {W W' : World}, Kept [blk (w.heap.size + 1)] W W' → w.heap.size < W.heap.size → ∀ o, W'.frozen? ⟨w.heap.size, o, none⟩ = W.frozen? ⟨w.heap.size, o, none⟩ := fun hk hz o => World.frozen?_of_block (hk.block _ hz nb)
  have hr0 := getD_range cd hBt 0
  go_wp2_with fail
  refine (next_any (w.heap.size + 1) p cd c 0 _ hR1 hBt hlt).mono ?_
  rintro e w2 ⟨rfl, hR2, k2⟩
  have z2 := k2.size
  obtain ⟨x0, ex0⟩ : ∃ x0, x0 = cd.getD 0 0 := ⟨_, rfl⟩
  rw [← ex0] at hr0 ⊢
  have EX := hide ex0
  clear ex0
  go_wp2_with fail
  refine (drawSeq_any (w.heap.size + 1) p cd c 1 _ hR2 hBt hlt).mono ?_
  rintro e w3 ⟨rfl, hR3, k3⟩
  have z3 := k3.size
  have K3 := k2.trans k3
  have d0 := (fin0 K3 (by omega) 0).trans c0
  have d1 := (fin0 K3 (by omega) 1).trans c1
  have df : ∀ o, w3.frozen? ⟨w.heap.size, o, none⟩ = false := fun o => (fin1 K3 (by omega) o).trans (f1 o)
  obtain ⟨s, es⟩ : ∃ s, s = dSeq (cd.getD 1 0) := ⟨_, rfl⟩
  rw [← es]
  have ES := hide es
  have b3 : Below w.heap.size w w3 := b1.trans (K3.below (by omega) (by intro v hv b e; simp only [List.mem_singleton] at hv; subst hv; simp [blk_own] at e; omega))
  clear es k2 k3 hR1 hR2 c0 c1 f1 b1
  by_cases hk : 240 < x0
  · obtain ⟨n, en⟩ : ∃ n : Nat, (999 : Int) + x0 % 3 = (n : Int) := ⟨999 + (x0 % 3).toNat, by omega⟩
    have hbody : dBody cd = List.replicate n x0 := by
      unfold dBody
      rw [← unhide EX, if_pos hk]
      congr 1
      omega
    have HBD := hide hbody
    have hn : n ≤ 1001 := by omega
    have hxm : x0 % 256 = x0 := by omega
    have hnl : Hid ((List.replicate n x0).length = n) := by show _ = _; simp
    clear hbody K3
    go_wp2_with fail
    refine (l1fill_any x0 n _ (by omega)).mono ?_
    rintro e w4 ⟨p4, c4, rfl, o4, hb4⟩
    have g0 := cell_below d0 hb4
    have g1 := cell_below d1 hb4
    have gf := frozen_below df hb4 (by omega)
    have b4 := Below.step b3 hb4
    clear d0 d1 df b3 hb4 hR3
    go_wp2
    refine bodyPost_ret (v := recV s (.slice p4 n c4)) (by simp [results, Try.results30, go_sem, g0, g1]) rfl ⟨p4, c4, by rw [unhide HBD, unhide hnl, ← unhide ES], ?_, ?_⟩
    · rw [unhide HBD, unhide hnl]
      refine Own.mono (B := w3.heap.size) ?_ (by omega)
      repeat (refine ownsRow_setCell_below ?_ (by show w.heap.size < _; omega) _)
      exact o4
    · repeat (refine Below.setCell ?_ (by simp) _)
      exact b4
  · have hbody : dBody cd = dB cd 2 := by unfold dBody; rw [← unhide EX, if_neg hk]
    have HBD := hide hbody
    clear hbody
    go_wp2_with fail
    refine (drawBytes_any (w.heap.size + 1) p cd c 2 _ hR3 hBt hlt).mono ?_
    rintro e w4 ⟨p4, c4, rfl, o4, hR4, k4⟩
    have g0 := (fin0 k4 (by omega) 0).trans d0
    have g1 := (fin0 k4 (by omega) 1).trans d1
    have gf : ∀ o, w4.frozen? ⟨w.heap.size, o, none⟩ = false := fun o => (fin1 k4 (by omega) o).trans (df o)
    have b4 : Below w.heap.size w w4 := b3.trans (k4.below (by omega) (by intro v hv b e; simp only [List.mem_singleton] at hv; subst hv; simp [blk_own] at e; omega))
    have z4 := k4.size
    clear d0 d1 df b3 k4 hR3 hR4
    go_wp2
    refine bodyPost_ret (v := recV s (.slice p4 (dB cd 2).length c4)) (by simp [results, Try.results30, go_sem, g0, g1]) rfl ⟨p4, c4, by rw [unhide HBD, ← unhide ES], ?_, ?_⟩
    · rw [unhide HBD]
      refine Own.mono (B := w3.heap.size) ?_ (by omega)
      repeat (refine ownsRow_setCell_below ?_ (by show w.heap.size < _; omega) _)
      exact o4
    · repeat (refine Below.setCell ?_ (by simp) _)
      exact b4
end Go.Proofs.Ytipeflnkcjkoeaa
