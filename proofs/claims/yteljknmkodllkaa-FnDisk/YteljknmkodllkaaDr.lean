import Derived.Test.YteljknmkodllkaaNx
import Derived.Test.YteljknmkodllkaaAp
namespace Go.Proofs.Yteljknmkodllkaa
open Go.ChangeShapes Go.WideShapes Go.ChangeAt Go.RowKit
set_option linter.unusedVariables false
set_option linter.unusedSimpArgs false

/-- 'append(x, b)' of one byte that lies in a block of its own -/
theorem wpList_append_byte {w : World} {ops : Array Oper} {rest : List Oper} {o : Oper} {a : Act} {Q : Exit → Act → World → Prop} (hgd : o.guard = none) (s x : Operand)
    (ho : o.op = .call { callee := .builtin .append, args := #[s, x], argTypes := #[22, 22] })
    (B : Nat) (v : Value) (l lm : List Int) (y : Int) (elm : Hid (lm = l ++ [y])) (g : Nat) (hs : a.eval s = v) (hx : a.eval x = .slice (some ⟨g, 0, none⟩) 1 1) (hown : Own B w v l) (hc : w.cell? ⟨g, 0, none⟩ = some (.int .u8 y))
    (hl : l.length < 4194304) (hB : B ≤ w.heap.size)
    (h : ∀ p' c' w', Own B w' (.slice p' lm.length c') lm → w.grownBy w' v.ownBlock → wpList Try.prog ops Q rest (a.put o.dst (.slice p' lm.length c')) w') : wpList Try.prog ops Q (o :: rest) a w := by
  have hr : Rd w (.slice (some ⟨g, 0, none⟩) 1 1) [y] := by
    refine ⟨_, _, rfl, .inr ⟨g, 0, rfl, fun i hi => ?_⟩⟩
    have e : i = 0 := by simpa using hi
    subst e
    simpa using hc
  exact wpList_append_rd hgd s x ho B v l [y] lm elm (some ⟨g, 0, none⟩) 1 hs hx hown hr (by simp; omega) hB h

set_option maxHeartbeats 800000 in
theorem l1fill_any (x : Int) (n : Nat) (w : World) (hn : n ≤ 300000) :
    Calls Try.prog 45 #[.int .u8 x, .int .i64 n] w fun e w' => ∃ p' c', e = .returned (.slice p' n c') ∧ Own w.heap.size w' (.slice p' n c') (List.replicate n x) ∧ Below w.heap.size w w' := by
  go_enter Try.func45, Try.ntmps45
  go_wp2
  go_loopw [5, 6] (fun v i wr => ∃ (k : Nat) (p : Option Addr) (c : Nat) (l : List Int), k ≤ n ∧ i = .int .i64 k ∧ Hid (l = List.replicate k x) ∧ l.length = k ∧ v = .slice p k c ∧ Own w.heap.size wr (.slice p k c) l ∧ Below w.heap.size w wr) (fun _ i _ => n - (intOf i).toNat)
  case atStart => exact ⟨0, none, 0, [], Nat.zero_le _, rfl, rfl, rfl, rfl, World.ownsRow_nil _ _ _ _, Below.refl _ _⟩
  case round =>
    obtain ⟨k, p, c, l, hk, rfl, el, hl, rfl, ho, hbr⟩ := hrel
    by_cases hlt : k < n
    · obtain ⟨lm, elm0⟩ : ∃ lm, lm = l ++ [x] := ⟨_, rfl⟩
      have hlm : lm.length = k + 1 := by simp [elm0, hl]
      have HLM := hide hlm
      have el2 : Hid (lm = List.replicate (k + 1) x) := by show _ = _; rw [elm0, unhide el, List.replicate_succ']
      have elm := hide elm0
      clear hlm el elm0
      go_wp2_with (at_builtin; refine wpList_append_byte rfl _ _ rfl w.heap.size (.slice p k c) l lm x elm wr.heap.size rfl rfl (Own.below ho ((Below.refl _ _).alloc (Nat.le_refl _) _)) (by simp) (by omega) (by have := hbr.size; simp; omega) ?_)
      intro p' c' w2 ho2 hg2
      have b2 : Below w.heap.size w w2 := (hbr.alloc hbr.size (.cells #[.int .u8 x] 5)).grown hg2 (by have := hbr.size; simp; omega) (fun k hk => (ho.lt k hk).1)
      simp only [unhide HLM]
      have ho3 : Own w.heap.size w2 (.slice p' (k + 1) c') lm := by have h2 := ho2; simp only [unhide HLM] at h2; exact h2
      clear ho2 hg2 ho hbr hl elm
      go_wp2
      go_roundw
      case rel => exact ⟨k + 1, p', c', lm, by omega, by go_num, el2, unhide HLM, rfl, ho3, b2⟩
      case measure => simp [intOf]; omega
    · have e : k = n := by omega
      subst e
      rw [unhide el] at ho
      clear el hl
      go_wp2
      go_ret
      exact ⟨p, c, rfl, ho, hbr⟩

/-- the bytes that l1drawBytes draws behind t calls of next -/
def dB (cd : List Int) (t : Nat) : List Int := (List.range ((cd.getD t 0).toNat % 14)).map fun j => cd.getD (t + 1 + j) 0
theorem dB_len (cd : List Int) (t : Nat) : (dB cd t).length = (cd.getD t 0).toNat % 14 := by simp [dB]
theorem dB_le (cd : List Int) (t : Nat) : (dB cd t).length ≤ 13 := by rw [dB_len]; omega

theorem range_step (f : Nat → Int) (k : Nat) : (List.range (k + 1)).map f = (List.range k).map f ++ [f k] := by rw [List.range_succ, List.map_append]; rfl

theorem Rdr.again {w w2 w3 : World} {g : Nat} {p : Option Addr} {cd : List Int} {c t0 t : Nat} (h : Rdr w g p cd c t0) (hk : Kept [blk g] w w3) (h2 : Rdr w2 g p cd c t) (hb : w3.heap[g]? = w2.heap[g]?) : Rdr w3 g p cd c t := by
  refine ⟨(World.cell?_of_block hb).trans h2.c0, (World.cell?_of_block hb).trans h2.c1, fun o => (World.frozen?_of_block hb).trans (h2.fz o), ?_, h.ne⟩
  by_cases hcd : cd = []
  · obtain ⟨q, d, e1, _⟩ := h.rd
    exact ⟨q, d, e1, .inl hcd⟩
  · refine h.rd.kept hk ?_
    intro u hu b e e'
    simp only [List.mem_singleton] at hu
    subst hu
    rw [blk_own] at e'
    exact h.ne hcd (by rw [e, e'])

theorem Kept.grown {vs : List Value} {w w1 w2 : World} {row : Option Nat} (h : Kept vs w w1) (hg : w1.grownBy w2 row) (hr : ∀ k, row = some k → w.heap.size ≤ k) : Kept vs w w2 :=
  ⟨hg.os.trans h.os, hg.tape.trans h.tape, hg.output.trans h.output, Nat.le_trans h.size hg.size, fun k hk hne => (hg.block k (Nat.lt_of_lt_of_le hk h.size) (fun e => by have := hr k e.symm; omega)).trans (h.block k hk hne)⟩

theorem Own.keptBlk {B g : Nat} {w w' : World} {v : Value} {l : List Int} (h : Own B w v l) (hk : Kept [blk g] w w') (hg : g < B) : Own B w' v l := by
  refine Own.keptBy h hk ?_
  intro u hu b e e'
  simp only [List.mem_singleton] at hu
  subst hu
  simp only [blk_own, Option.some.injEq] at e'
  have := (h.lt b e).1
  omega

set_option maxHeartbeats 1000000 in
theorem drawBytes_any (g : Nat) (p : Option Addr) (cd : List Int) (c t : Nat) (w : World) (h : Rdr w g p cd c t) (hb : ∀ z ∈ cd, 0 ≤ z ∧ z < 256) (hl : cd.length ≤ 500) :
    Calls Try.prog 41 #[.pointer (some ⟨g, 0, none⟩)] w fun e w' => ∃ p' c', e = .returned (.slice p' (dB cd t).length c') ∧ Own w.heap.size w' (.slice p' (dB cd t).length c') (dB cd t) ∧ Rdr w' g p cd c (t + 1 + (dB cd t).length) ∧ Kept [blk g] w w' := by
  have hr := getD_range cd hb t
  have hg := h.lt
  have hD := dB_len cd t
  have HF : Hid (dB cd t = (List.range (dB cd t).length).map fun j => cd.getD (t + 1 + j) 0) := by show _ = _; rw [dB_len]; rfl
  go_enter Try.func41, Try.ntmps41
  go_wp2_with fail
  refine (next_any g p cd c t _ h hb hl).mono ?_
  rintro e w1 ⟨rfl, h1, k1⟩
  have hn : (cd.getD t 0) % 14 = ((dB cd t).length : Int) := by rw [hD]; omega
  have HN := hide hn
  have H := hide h
  clear hn hD h
  generalize cd.getD t 0 = x at *
  generalize hnn : (dB cd t).length = n at *
  have HNN := hide hnn
  clear hnn
  have hn14 : n ≤ 13 := by have := unhide HN; omega
  go_wp2
  rw [unhide HN]
  go_loopw [4, 5] (fun v i wr => ∃ (k : Nat) (pv : Option Addr) (cv : Nat) (l : List Int), k ≤ n ∧ i = .int .i64 k ∧ Hid (l = (List.range k).map fun j => cd.getD (t + 1 + j) 0) ∧ l.length = k ∧ v = .slice pv k cv ∧ Own w.heap.size wr (.slice pv k cv) l ∧ Rdr wr g p cd c (t + 1 + k) ∧ Kept [blk g] w wr) (fun _ i _ => n - (intOf i).toNat)
  case atStart => exact ⟨0, none, 0, [], Nat.zero_le _, rfl, rfl, rfl, rfl, World.ownsRow_nil _ _ _ _, h1, k1⟩
  case round =>
    obtain ⟨k, pv, cv, l, hk, rfl, el, hll, rfl, ho, hR, hK⟩ := hrel
    have hzr := hK.size
    by_cases hlt : k < n
    · go_wp2_with fail
      refine (next_any g p cd c (t + 1 + k) _ hR hb hl).mono ?_
      rintro e w2 ⟨rfl, hR2, hK2⟩
      have hy := getD_range cd hb (t + 1 + k)
      obtain ⟨y, ey⟩ : ∃ y, y = cd.getD (t + 1 + k) 0 := ⟨_, rfl⟩
      obtain ⟨lm, elm0⟩ : ∃ lm, lm = l ++ [y] := ⟨_, rfl⟩
      have hlm : lm.length = k + 1 := by simp [elm0, hll]
      have HLM := hide hlm
      have el2 : Hid (lm = (List.range (k + 1)).map fun j => cd.getD (t + 1 + j) 0) := by show _ = _; rw [elm0, unhide el, range_step, ey]
      have elm := hide elm0
      rw [← ey] at hy ⊢
      have hmod : y % 256 = y := by omega
      have ho2 := Own.keptBlk ho hK2 hg
      have hKa := hK.trans hK2
      have hz2 := hKa.size
      clear hlm el elm0 ey ho hR hK hK2
      go_wp2_with (at_builtin; refine wpList_append_byte rfl _ _ rfl w.heap.size (.slice pv k cv) l lm y elm w2.heap.size rfl rfl (Own.below ho2 ((Below.refl _ _).alloc (Nat.le_refl _) _)) (by simp) (by omega) (by simp; omega) ?_)
      intro p' c' w3 ho3 hg3
      have hK3 : Kept [blk g] w w3 := (hKa.alloc (.cells #[.int .u8 y] 5)).grown hg3 (fun b e => (ho2.lt b e).1)
      have hR3 : Rdr w3 g p cd c (t + 1 + (k + 1)) := by
        refine (unhide H).again hK3 (w2 := w2) hR2 ?_
        rw [hg3.block g (by simp; omega) (fun e => by have := (ho2.lt g e.symm).1; omega)]
        exact Below.heap_alloc w2 _ g (by omega)
      simp only [unhide HLM]
      have ho4 : Own w.heap.size w3 (.slice p' (k + 1) c') lm := by have h2 := ho3; simp only [unhide HLM] at h2; exact h2
      clear ho3 hg3 ho2 hR2 hKa hll elm hmod
      go_wp2
      go_roundw
      case rel => exact ⟨k + 1, p', c', lm, by omega, by go_num, el2, unhide HLM, rfl, ho4, hR3, hK3⟩
      case measure => simp [intOf]; omega
    · have e : k = n := by omega
      subst e
      have e2 := unhide el
      rw [← unhide HF] at e2
      subst e2
      clear el hll
      go_wp2
      go_ret
      exact ⟨pv, cv, by rw [unhide HNN]; rfl, by rw [unhide HNN]; exact ho, by rw [unhide HNN]; exact hR, hK⟩
end Go.Proofs.Yteljknmkodllkaa
