import Derived.Test.YtipeflnkcjkoeaaGC
import Derived.Test.YtipeflnkcjkoeaaGO
namespace Go.Proofs.Ytipeflnkcjkoeaa
open Go.ChangeShapes Go.WideShapes Go.ChangeAt Go.RowKit Go.Deep
set_option linter.unusedVariables false
set_option linter.unusedSimpArgs false

/-- a block's number as a slice's: for 'Kept' -/
abbrev blk (g : Nat) : Value := .slice (some ⟨g, 0, none⟩) 0 0

theorem blk_own (g : Nat) : (blk g).ownBlock = some g := rfl

/-- a reader in block g over the bytes cd, t calls of next behind it -/
structure Rdr (w : World) (g : Nat) (p : Option Addr) (cd : List Int) (c t : Nat) : Prop where
  c0 : w.cell? ⟨g, 0, none⟩ = some (.slice p cd.length c)
  c1 : w.cell? ⟨g, 1, none⟩ = some (.int .i64 (min t cd.length : Nat))
  fz : ∀ o, w.frozen? ⟨g, o, none⟩ = false
  rd : Rd w (.slice p cd.length c) cd
  ne : cd ≠ [] → (Value.slice p cd.length c).ownBlock ≠ some g

theorem Rdr.lt {w : World} {g : Nat} {p : Option Addr} {cd : List Int} {c t : Nat} (h : Rdr w g p cd c t) : g < w.heap.size := World.block_lt_of_cell? w _ h.c0

theorem Rdr.below {w w' : World} {g : Nat} {p : Option Addr} {cd : List Int} {c t : Nat} (h : Rdr w g p cd c t) (hb : Below w.heap.size w w') : Rdr w' g p cd c t :=
  ⟨cell_below h.c0 hb, cell_below h.c1 hb, frozen_below h.fz hb h.lt, h.rd.below hb, h.ne⟩

theorem Rdr.kept {vs : List Value} {w w' : World} {g : Nat} {p : Option Addr} {cd : List Int} {c t : Nat} (h : Rdr w g p cd c t) (hk : Kept vs w w') (h1 : ∀ v ∈ vs, v.ownBlock ≠ some g) (h2 : ∀ v ∈ vs, ∀ b, (Value.slice p cd.length c).ownBlock = some b → v.ownBlock ≠ some b) : Rdr w' g p cd c t :=
  ⟨(hk.cellAt h.lt h1 0).trans h.c0, (hk.cellAt h.lt h1 1).trans h.c1, fun o => (World.frozen?_of_block (hk.block g h.lt h1)).trans (h.fz o), h.rd.kept hk h2, h.ne⟩

theorem Kept.setBlk {w : World} {g o : Nat} (u : Value) : Kept [blk g] w (w.setCell ⟨g, o, none⟩ u) :=
  ⟨rfl, rfl, rfl, by simp [World.setCell], fun k hk hne => Below.heap_setCell w _ u k (fun e => hne (blk g) (by simp) (by rw [blk_own, e]))⟩

theorem Kept.drewN {vs : List Value} {w w' : World} (h : Kept vs w w') (n : Nat) : Kept vs w (w'.drewN n) := ⟨h.os, h.tape, h.output, h.size, h.block⟩

theorem getD_range (cd : List Int) (hb : ∀ z ∈ cd, 0 ≤ z ∧ z < 256) (t : Nat) : 0 ≤ cd.getD t 0 ∧ cd.getD t 0 < 256 := by
  by_cases h : t < cd.length
  · rw [List.getD, List.getElem?_eq_getElem h]; exact hb _ (List.getElem_mem h)
  · rw [List.getD, List.getElem?_eq_none (by omega)]; simp

theorem Rdr.drewN {w : World} {g : Nat} {p : Option Addr} {cd : List Int} {c t : Nat} (h : Rdr w g p cd c t) (n : Nat) : Rdr (w.drewN n) g p cd c t :=
  h.below (below_drewN (Below.refl _ _) n)

theorem Rdr.step {w : World} {g : Nat} {p : Option Addr} {cd : List Int} {c t : Nat} (h : Rdr w g p cd c t) (hlt : t < cd.length) : Rdr (w.setCell ⟨g, 1, none⟩ (.int .i64 ((t : Int) + 1))) g p cd c (t + 1) := by
  refine ⟨?_, ?_, ?_, ?_, h.ne⟩
  · rw [World.cell?_setCell_other w ⟨g, 1, none⟩ ⟨g, 0, none⟩ _ (by simp)]; exact h.c0
  · rw [World.cell?_setCell_same w ⟨g, 1, none⟩ _ h.c1]
    have e : ((min (t + 1) cd.length : Nat) : Int) = (t : Int) + 1 := by omega
    rw [e]
  · intro o; simp [h.fz]
  · refine h.rd.kept (Kept.setBlk (g := g) (o := 1) _) ?_
    intro u hu b hb e
    simp only [List.mem_singleton] at hu
    subst hu
    rw [blk_own] at e
    exact h.ne (by intro e0; subst e0; simp at hlt) (by rw [hb, e])

theorem Rdr.stay {w : World} {g : Nat} {p : Option Addr} {cd : List Int} {c t : Nat} (h : Rdr w g p cd c t) (hlt : ¬ t < cd.length) : Rdr w g p cd c (t + 1) := by
  refine ⟨h.c0, ?_, h.fz, h.rd, h.ne⟩
  rw [h.c1]
  have e : min t cd.length = min (t + 1) cd.length := by omega
  rw [e]

set_option maxHeartbeats 800000 in
theorem next_any (g : Nat) (p : Option Addr) (cd : List Int) (c t : Nat) (w : World) (h : Rdr w g p cd c t) (hb : ∀ z ∈ cd, 0 ≤ z ∧ z < 256) (hl : cd.length ≤ 500) :
    Calls Try.prog 47 #[.pointer (some ⟨g, 0, none⟩)] w fun e w' => e = .returned (.int .i64 (cd.getD t 0)) ∧ Rdr w' g p cd c (t + 1) ∧ Kept [blk g] w w' := by
  obtain ⟨c0, c1, fz, rd, ne⟩ := id h
  by_cases hlt : t < cd.length
  · have em : min t cd.length = t := by omega
    rw [em] at c1
    obtain ⟨q, d, e1, hh⟩ := id rd
    simp only [Value.slice.injEq] at e1
    obtain ⟨rfl, -, rfl⟩ := e1
    rcases hh with rfl | ⟨b, o, rfl, hc⟩
    · simp at hlt
    · have mx : w.cell? ⟨b, o + t, none⟩ = some (.int .u8 cd[t]) := by rw [hc t hlt]; simp [hlt]
      have hx := hb _ (List.getElem_mem hlt)
      have f1 := fz 1
      have i1 : (t : Int) < (cd.length : Int) := by omega
      have i0 : (0 : Int) ≤ (t : Int) := by omega
      have hng : ¬ ((cd.length : Int) ≤ t) := by omega
      have hgeq : decide ((cd.length : Int) ≤ t) = false := by simp; omega
      have HG : Hid (cd.getD t 0 = cd[t]) := by show _ = _; simp [hlt]
      have H := hide h
      have HN : b ≠ g := fun e => ne (by intro e0; subst e0; simp at hlt) (by rw [e]; rfl)
      clear hc rd ne fz h
      go_enter Try.func47, Try.ntmps47
      go_wp2
      go_quiet (fail)
      go_wp2
      go_quiet (fail)
      go_wp2
      go_ret
      exact ⟨by rw [HG.out]; rfl, ((unhide H).drewN _).step hlt, (Kept.refl _ _).drewN _ |>.trans (Kept.setBlk _)⟩
  · have em : min t cd.length = cd.length := by omega
    rw [em] at c1
    have hgeq : decide ((cd.length : Int) ≤ (cd.length : Int)) = true := by simp
    have HG : Hid (cd.getD t 0 = 0) := by show _ = _; rw [List.getD, List.getElem?_eq_none (by omega)]; rfl
    have H := hide h
    clear rd ne fz h
    go_enter Try.func47, Try.ntmps47
    go_wp2
    go_quiet (fail)
    go_wp2
    go_ret
    exact ⟨by rw [HG.out]; rfl, ((unhide H).drewN _).stay hlt, (Kept.refl _ _).drewN _⟩

set_option maxHeartbeats 800000 in
theorem l1fill_any (x : Int) (n : Nat) (w : World) (hn : n ≤ 300000) :
    Calls Try.prog 49 #[.int .u8 x, .int .i64 n] w fun e w' => ∃ p' c', e = .returned (.slice p' n c') ∧ Own w.heap.size w' (.slice p' n c') (List.replicate n x) ∧ Below w.heap.size w w' := by
  go_enter Try.func49, Try.ntmps49
  go_wp2
  go_loopw [5, 6] (fun v i wr => ∃ (k : Nat) (p : Option Addr) (c : Nat) (l : List Int), k ≤ n ∧ i = .int .i64 k ∧ Hid (l = List.replicate k x) ∧ l.length = k ∧ v = .slice p k c ∧ Own w.heap.size wr (.slice p k c) l ∧ Below w.heap.size w wr) (fun _ i _ => n - (intOf i).toNat)
  case atStart => exact ⟨0, none, 0, [], Nat.zero_le _, rfl, rfl, rfl, rfl, World.ownsRow_nil _ _ _ _, Below.refl _ _⟩
  case round =>
    obtain ⟨k, p, c, l, hk, rfl, el, hl, rfl, ho, hbr⟩ := hrel
    by_cases hlt : k < n
    · obtain ⟨lm, elm0⟩ : ∃ lm, lm = l ++ [x] := ⟨_, rfl⟩
      have hlm : lm.length = k + 1 := by simp [elm0, hl]
      have HLM := hide hlm
      have el2 : Hid (lm = List.replicate (k + 1) x) := by show _ = _; rw [elm0, unhide el, List.replicate_succ']
      have elm := hide elm0
      clear hlm el elm0
      go_wp2_with (at_builtin; refine wpList_append_byte rfl _ _ rfl w.heap.size (.slice p k c) l lm x elm wr.heap.size rfl rfl (Own.below ho ((Below.refl _ _).alloc (Nat.le_refl _) _)) (by simp) (by omega) (by have := hbr.size; simp; omega) ?_)
      intro p' c' w2 ho2 hg2
      have b2 : Below w.heap.size w w2 := (hbr.alloc hbr.size (.cells #[.int .u8 x] 5)).grown hg2 (by have := hbr.size; simp; omega) (fun k hk => (ho.lt k hk).1)
      simp only [unhide HLM]
      have ho3 : Own w.heap.size w2 (.slice p' (k + 1) c') lm := by have h2 := ho2; simp only [unhide HLM] at h2; exact h2
      clear ho2 hg2 ho hbr hl elm
      go_wp2
      go_roundw
      case rel => exact ⟨k + 1, p', c', lm, by omega, by go_num, el2, unhide HLM, rfl, ho3, b2⟩
      case measure => simp [intOf]; omega
    · have e : k = n := by omega
      subst e
      rw [unhide el] at ho
      clear el hl
      go_wp2
      go_ret
      exact ⟨p, c, rfl, ho, hbr⟩

/-- the bytes that l1drawBytes draws behind t calls of next -/
def dB (cd : List Int) (t : Nat) : List Int := (List.range ((cd.getD t 0).toNat % 14)).map fun j => cd.getD (t + 1 + j) 0

theorem dB_len (cd : List Int) (t : Nat) : (dB cd t).length = (cd.getD t 0).toNat % 14 := by simp [dB]

theorem dB_le (cd : List Int) (t : Nat) : (dB cd t).length ≤ 13 := by rw [dB_len]; omega

theorem range_step (f : Nat → Int) (k : Nat) : (List.range (k + 1)).map f = (List.range k).map f ++ [f k] := by rw [List.range_succ, List.map_append]; rfl

theorem Rdr.again {w w2 w3 : World} {g : Nat} {p : Option Addr} {cd : List Int} {c t0 t : Nat} (h : Rdr w g p cd c t0) (hk : Kept [blk g] w w3) (h2 : Rdr w2 g p cd c t) (hb : w3.heap[g]? = w2.heap[g]?) : Rdr w3 g p cd c t := by
  refine ⟨(World.cell?_of_block hb).trans h2.c0, (World.cell?_of_block hb).trans h2.c1, fun o => (World.frozen?_of_block hb).trans (h2.fz o), ?_, h.ne⟩
  by_cases hcd : cd = []
  · obtain ⟨q, d, e1, _⟩ := h.rd
    exact ⟨q, d, e1, .inl hcd⟩
  · refine h.rd.kept hk ?_
    intro u hu b e e'
    simp only [List.mem_singleton] at hu
    subst hu
    rw [blk_own] at e'
    exact h.ne hcd (by rw [e, e'])

theorem Kept.grown {vs : List Value} {w w1 w2 : World} {row : Option Nat} (h : Kept vs w w1) (hg : w1.grownBy w2 row) (hr : ∀ k, row = some k → w.heap.size ≤ k) : Kept vs w w2 :=
  ⟨hg.os.trans h.os, hg.tape.trans h.tape, hg.output.trans h.output, Nat.le_trans h.size hg.size, fun k hk hne => (hg.block k (Nat.lt_of_lt_of_le hk h.size) (fun e => by have := hr k e.symm; omega)).trans (h.block k hk hne)⟩

theorem Own.keptBlk {B g : Nat} {w w' : World} {v : Value} {l : List Int} (h : Own B w v l) (hk : Kept [blk g] w w') (hg : g < B) : Own B w' v l := by
  refine Own.keptBy h hk ?_
  intro u hu b e e'
  simp only [List.mem_singleton] at hu
  subst hu
  simp only [blk_own, Option.some.injEq] at e'
  have := (h.lt b e).1
  omega

set_option maxHeartbeats 1000000 in
theorem drawBytes_any (g : Nat) (p : Option Addr) (cd : List Int) (c t : Nat) (w : World) (h : Rdr w g p cd c t) (hb : ∀ z ∈ cd, 0 ≤ z ∧ z < 256) (hl : cd.length ≤ 500) :
    Calls Try.prog 50 #[.pointer (some ⟨g, 0, none⟩)] w fun e w' => ∃ p' c', e = .returned (.slice p' (dB cd t).length c') ∧ Own w.heap.size w' (.slice p' (dB cd t).length c') (dB cd t) ∧ Rdr w' g p cd c (t + 1 + (dB cd t).length) ∧ Kept [blk g] w w' := by
  have hr := getD_range cd hb t
  have hg := h.lt
  have hD := dB_len cd t
  have HF : Hid (dB cd t = (List.range (dB cd t).length).map fun j => cd.getD (t + 1 + j) 0) := by show _ = _; rw [dB_len]; rfl
  go_enter Try.func50, Try.ntmps50
  go_wp2_with fail
  refine (next_any g p cd c t _ h hb hl).mono ?_
  rintro e w1 ⟨rfl, h1, k1⟩
  have hn : (cd.getD t 0) % 14 = ((dB cd t).length : Int) := by rw [hD]; omega
  have HN := hide hn
  have H := hide h
  clear hn hD h
  generalize cd.getD t 0 = x at *
  generalize hnn : (dB cd t).length = n at *
  have HNN := hide hnn
  clear hnn
  have hn14 : n ≤ 13 := by have := unhide HN; omega
  go_wp2
  rw [unhide HN]
  go_loopw [4, 5] (fun v i wr => ∃ (k : Nat) (pv : Option Addr) (cv : Nat) (l : List Int), k ≤ n ∧ i = .int .i64 k ∧ Hid (l = (List.range k).map fun j => cd.getD (t + 1 + j) 0) ∧ l.length = k ∧ v = .slice pv k cv ∧ Own w.heap.size wr (.slice pv k cv) l ∧ Rdr wr g p cd c (t + 1 + k) ∧ Kept [blk g] w wr) (fun _ i _ => n - (intOf i).toNat)
  case atStart => exact ⟨0, none, 0, [], Nat.zero_le _, rfl, rfl, rfl, rfl, World.ownsRow_nil _ _ _ _, h1, k1⟩
  case round =>
    obtain ⟨k, pv, cv, l, hk, rfl, el, hll, rfl, ho, hR, hK⟩ := hrel
    have hzr := hK.size
    by_cases hlt : k < n
    · go_wp2_with fail
      refine (next_any g p cd c (t + 1 + k) _ hR hb hl).mono ?_
      rintro e w2 ⟨rfl, hR2, hK2⟩
      have hy := getD_range cd hb (t + 1 + k)
      obtain ⟨y, ey⟩ : ∃ y, y = cd.getD (t + 1 + k) 0 := ⟨_, rfl⟩
      obtain ⟨lm, elm0⟩ : ∃ lm, lm = l ++ [y] := ⟨_, rfl⟩
      have hlm : lm.length = k + 1 := by simp [elm0, hll]
      have HLM := hide hlm
      have el2 : Hid (lm = (List.range (k + 1)).map fun j => cd.getD (t + 1 + j) 0) := by show _ = _; rw [elm0, unhide el, range_step, ey]
      have elm := hide elm0
      rw [← ey] at hy ⊢
      have hmod : y % 256 = y := by omega
      have ho2 := Own.keptBlk ho hK2 hg
      have hKa := hK.trans hK2
      have hz2 := hKa.size
      clear hlm el elm0 ey ho hR hK hK2
      go_wp2_with (at_builtin; refine wpList_append_byte rfl _ _ rfl w.heap.size (.slice pv k cv) l lm y elm w2.heap.size rfl rfl (Own.below ho2 ((Below.refl _ _).alloc (Nat.le_refl _) _)) (by simp) (by omega) (by simp; omega) ?_)
      intro p' c' w3 ho3 hg3
      have hK3 : Kept [blk g] w w3 := (hKa.alloc (.cells #[.int .u8 y] 5)).grown hg3 (fun b e => (ho2.lt b e).1)
      have hR3 : Rdr w3 g p cd c (t + 1 + (k + 1)) := by
        refine (unhide H).again hK3 (w2 := w2) hR2 ?_
        rw [hg3.block g (by simp; omega) (fun e => by have := (ho2.lt g e.symm).1; omega)]
        exact Below.heap_alloc w2 _ g (by omega)
      simp only [unhide HLM]
      have ho4 : Own w.heap.size w3 (.slice p' (k + 1) c') lm := by have h2 := ho3; simp only [unhide HLM] at h2; exact h2
      clear ho3 hg3 ho2 hR2 hKa hll elm hmod
      go_wp2
      go_roundw
      case rel => exact ⟨k + 1, p', c', lm, by omega, by go_num, el2, unhide HLM, rfl, ho4, hR3, hK3⟩
      case measure => simp [intOf]; omega
    · have e : k = n := by omega
      subst e
      have e2 := unhide el
      rw [← unhide HF] at e2
      subst e2
      clear el hll
      go_wp2
      go_ret
      exact ⟨pv, cv, by rw [unhide HNN]; rfl, by rw [unhide HNN]; exact ho, by rw [unhide HNN]; exact hR, hK⟩

set_option maxHeartbeats 400000 in
theorem l1open_any (p : Option Addr) (c : Nat) (l : List Int) (w : World) (hl : l.length ≤ 1048576) (hc : l.length ≤ c) :
    Calls Try.prog 46 #[.slice p l.length c] w fun e w' => e = .returned (.pointer (some ⟨w.heap.size, 0, none⟩)) ∧ w' = w.alloc (.cells #[.slice p (l.take 500).length c, .int .i64 0] 71) := by
  by_cases h : 500 < l.length
  · have e : (l.take 500).length = 500 := by simp; omega
    rw [e]
    go_enter Try.func46, Try.ntmps46
    go_wp2
    go_ret
    exact ⟨rfl, rfl⟩
  · have e : (l.take 500).length = l.length := by simp; omega
    rw [e]
    go_enter Try.func46, Try.ntmps46
    go_wp2
    go_ret
    exact ⟨rfl, rfl⟩

set_option maxHeartbeats 400000 in
theorem sameB_any0 (v1 v2 : Value) (l1 l2 : List Int) (w : World) (h1 : Rd w v1 l1) (h2 : Rd w v2 l2) (hl1 : l1.length ≤ 2097152) (hl2 : l2.length ≤ 2097152) :
    Calls Try.prog 32 #[v1, v2] w fun e w' => e = .returned (.bool (decide (l1 = l2))) ∧ Below w.heap.size w w' := by
  obtain ⟨p1, cap1, rfl, h1⟩ := h1
  obtain ⟨p2, cap2, rfl, h2⟩ := h2
  by_cases hlen : l1.length = l2.length
  · have hne : ((l1.length : Int) != (l2.length : Int)) = false := by simp; omega
    go_enter Try.func32, Try.ntmps32
    go_wp2
    go_loopw [5] (fun i wr => ∃ k : Nat, k ≤ l1.length ∧ i = .int .i64 k ∧ l1.take k = l2.take k ∧ Below w.heap.size w wr) (fun i _ => l1.length - (intOf i).toNat)
    case atStart => exact ⟨0, Nat.zero_le _, rfl, rfl, Below.refl _ _⟩
    case round =>
      obtain ⟨k, hk, rfl, ht, hbr⟩ := hrel
      have HT : Hid (l1.take k = l2.take k) := ht
      clear ht
      by_cases hlt : k < l1.length
      · rcases h1 with rfl | ⟨b1, o1, rfl, hc1⟩
        · simp at hlt
        · rcases h2 with rfl | ⟨b2, o2, rfl, hc2⟩
          · simp at hlen; subst hlen; simp at hlt
          · have hlt2 : k < l2.length := by omega
            have g1 : wr.cell? ⟨b1, o1 + k, none⟩ = some (.int .u8 (l1.getD k 0)) := (hbr.cell (p := ⟨b1, o1 + k, none⟩) (World.block_lt_of_cell? w _ (hc1 k hlt))).trans (hc1 k hlt)
            have g2 : wr.cell? ⟨b2, o2 + k, none⟩ = some (.int .u8 (l2.getD k 0)) := (hbr.cell (p := ⟨b2, o2 + k, none⟩) (World.block_lt_of_cell? w _ (hc2 k hlt2))).trans (hc2 k hlt2)
            have i1 : (k : Int) < (l1.length : Int) := by omega
            have i2 : (k : Int) < (l2.length : Int) := by omega
            have HL : Hid (l1.length = l2.length) := hlen
            clear hc1 hc2 hlen
            by_cases hx : l1[k] = l2[k]
            · have hb : (l1[k] != l2[k]) = false := by simp only [bne_eq_false_iff_eq]; exact hx
              have HX : Hid (l1[k]?.getD 0 = l2[k]?.getD 0) := by show _ = _; simpa [hlt, hlt2] using hx
              clear hx
              go_wp2
              go_quiet (fail)
              go_wp2
              go_roundw
              case rel => exact ⟨k + 1, by omega, by go_num, take_eq_step l1 l2 k hlt hlt2 HT.out HX.out, below_drewN hbr _⟩
              case measure => simp [intOf]; omega
            · have hb : (l1[k] != l2[k]) = true := by simp only [bne_iff_ne]; exact hx
              have HF : Hid (decide (l1 = l2) = false) := by
                show _ = _
                simp only [decide_eq_false_iff_not]; intro e; apply hx; simp [e]
              clear hx
              go_wp2
              go_quiet (fail)
              go_wp2
              go_ret
              exact ⟨by rw [HF.out]; rfl, below_drewN hbr _⟩
      · have hkl : k = l1.length := by omega
        have HF : Hid (decide (l1 = l2) = true) := by
          have := HT.out
          rw [hkl, List.take_length, hlen, List.take_length] at this
          show _ = _
          simp [this]
        subst hkl
        clear HT hlen
        go_wp2
        go_ret
        exact ⟨by rw [HF.out]; rfl, hbr⟩
  · have hne : ((l1.length : Int) != (l2.length : Int)) = true := by simp; omega
    have hfin : decide (l1 = l2) = false := by
      simp only [decide_eq_false_iff_not]; intro e; apply hlen; rw [e]
    rw [hfin]
    go_enter Try.func32, Try.ntmps32
    go_wp2
    go_ret
    exact ⟨rfl, Below.refl _ _⟩

theorem sameB_same (p q : Option Addr) (c d : Nat) (l : List Int) (w : World) (h1 : Rd w (.slice p l.length c) l) (h2 : Rd w (.slice q l.length d) l) (hl : l.length ≤ 2097152) :
    Calls Try.prog 32 #[.slice p l.length c, .slice q l.length d] w fun e w' => e = .returned (.bool true) ∧ Below w.heap.size w w' := by
  refine (sameB_any0 _ _ l l w h1 h2 hl hl).mono ?_
  rintro e w' ⟨rfl, hb⟩
  exact ⟨by simp, hb⟩

end Go.Proofs.Ytipeflnkcjkoeaa
