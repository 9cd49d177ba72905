import Derived.Test.YteljknmkodllkaaCp
import Derived.Test.YteljknmkodllkaaICr
import Derived.Test.YteljknmkodllkaaDi
import Derived.Test.YteljknmkodllkaaLBase
import Derived.Deep.RegionLaw
namespace Go.Proofs.Yteljknmkodllkaa
open Go.ChangeShapes Go.WideShapes Go.ChangeAt Go.RowKit
set_option linter.unusedVariables false
set_option linter.unusedSimpArgs false

/-- 'append(x, b)' of one byte, at a step of a region that draws its order -/
theorem step_append_byte {w : World} {ops : Array Oper} {o : Oper} {a : Act} {K : Act → World → Prop} {Q : Exit → Act → World → Prop} {E : Prop} (hgd : o.guard = none) (s x : Operand)
    (ho : o.op = .call { callee := .builtin .append, args := #[s, x], argTypes := #[22, 22] })
    (B : Nat) (v : Value) (l lm : List Int) (y : Int) (elm : Hid (lm = l ++ [y])) (g : Nat) (hs : a.eval s = v) (hx : a.eval x = .slice (some ⟨g, 0, none⟩) 1 1) (hown : Own B w v l) (hc : w.cell? ⟨g, 0, none⟩ = some (.int .u8 y))
    (hl : l.length ≤ 4194304) (hB : B ≤ w.heap.size)
    (h : ∀ p' c' w', Own B w' (.slice p' lm.length c') lm → w.grownBy w' v.ownBlock → K (a.put o.dst (.slice p' lm.length c')) w') :
    if Region.wanted o (yielded ops a.tmps) = true then Oper.wp Try.prog o a w K Q else E := by
  have hw : Region.wanted o (yielded ops a.tmps) = true := by simp [Region.wanted, hgd]
  rw [if_pos hw]
  obtain ⟨i, hi, hz0, hz1, hz2⟩ := info_parts Try.infoByte
  have e := unhide elm
  subst e
  refine wp_append_own w s x 22 ho B 5 i (.int .u8 0) 1 1 Try.underlying22 hi hz0 hz1 hz2 rfl (by decide) v _ _ hs hown ⟨g, 0, none⟩ 1 1 (U [y]) hx rfl ?_ ?_ (by unfold maxLen; omega) (by omega) hB ?_
  · intro j u hj
    match j, hj with
    | 0, hj => simp at hj; subst hj; simpa [Addr.add] using hc
  · intro u hu; simp at hu; subst hu; rfl
  · intro v' w' h1 h2 _
    have ho2 : Own B w' v' (l ++ [y]) := by unfold Own; rw [List.length_append, U, List.map_append]; exact h1
    obtain ⟨p', c', rfl⟩ := ho2.form
    exact h p' c' w' ho2 h2

theorem take_step (l : List Int) (j : Nat) (h : j < l.length) : l.take (j + 1) = l.take j ++ [l[j]] := List.take_succ_eq_append_getElem h

set_option maxHeartbeats 2000000 in
theorem l1kept_any (p : Option Addr) (c s : Nat) (f : Int) (l : List Int) (w : World) (h : Rd w (.slice p l.length c) l) (hs : s ≤ l.length) (hl : l.length ≤ 200000) (hf : 0 ≤ f) (hf1 : f ≤ 9223372036854775807)
    (L : List Int) (eL : Hid (L = l.take (kept l.length s f.toNat))) :
    Calls Try.prog 52 #[fileV (.slice p l.length c) s, .int .i64 f] w fun e w' => ∃ p' c', e = .returned (fileV (.slice p' L.length c') L.length) ∧ Own w.heap.size w' (.slice p' L.length c') L ∧ Below w.heap.size w w' := by
  have hK : kept l.length s f.toNat ≤ l.length := kept_le _ _ _ hs
  have hKd : ∀ j : Nat, j < l.length → ((j : Int) < s ∨ (j : Int) - s < f) → j < kept l.length s f.toNat := by intro j h1 h2; unfold kept; omega
  have hKn : ∀ j : Nat, j < l.length → ¬ ((j : Int) < s ∨ (j : Int) - s < f) → kept l.length s f.toNat ≤ j := by intro j h1 h2; unfold kept; omega
  have HKd := hide hKd
  have HKn := hide hKn
  clear hKd hKn
  generalize kept l.length s f.toNat = M at *
  go_enter Try.func52, Try.ntmps52
  go_wp2
  obtain ⟨W, hW⟩ : ∃ W, W = (((w.alloc (.cells #[.slice p l.length c, .int .i64 s] 29)).alloc (.cells #[.slice none 0 0, .int .i64 0] 29)).alloc (.cells #[.slice none 0 0, .int .i64 0] 29)) := ⟨_, rfl⟩
  have bW : Below w.heap.size w W := by rw [hW]; exact (((Below.refl _ _).alloc (Nat.le_refl _) _).alloc (by simp) _).alloc (by simp; omega) _
  have k0 : W.cell? ⟨w.heap.size, 0, none⟩ = some (.slice p l.length c) := by rw [hW]; simp [go_sem]
  have k1 : W.cell? ⟨w.heap.size, 1, none⟩ = some (.int .i64 s) := by rw [hW]; simp [go_sem]
  have r0 : W.cell? ⟨w.heap.size + 1, 0, none⟩ = some (.slice none 0 0) := by rw [hW]; simp [go_sem]
  have r1 : W.cell? ⟨w.heap.size + 1, 1, none⟩ = some (.int .i64 0) := by rw [hW]; simp [go_sem]
  have rz : ∀ o, W.frozen? ⟨w.heap.size + 1, o, none⟩ = false := by intro o; rw [hW]; simp [go_sem]
  have o0 : W.cell? ⟨w.heap.size + 1 + 1, 0, none⟩ = some (.slice none 0 0) := by rw [hW]; simp [go_sem]
  have o1 : W.cell? ⟨w.heap.size + 1 + 1, 1, none⟩ = some (.int .i64 0) := by rw [hW]; simp [go_sem]
  have oz : ∀ o, W.frozen? ⟨w.heap.size + 1 + 1, o, none⟩ = false := by intro o; rw [hW]; simp [go_sem]
  have zW : w.heap.size + 3 = W.heap.size := by rw [hW]; simp [go_sem]
  rw [← hW]
  clear hW
  go_loopw [6] (fun i wr => ∃ (j T : Nat) (pv : Option Addr) (cv : Nat), j ≤ l.length ∧ i = .int .i64 j ∧ Hid (T = min j M) ∧ T ≤ j ∧ wr.cell? ⟨w.heap.size + 1 + 1, 0, none⟩ = some (.slice pv T cv) ∧ wr.cell? ⟨w.heap.size + 1 + 1, 1, none⟩ = some (.int .i64 T) ∧ (∀ o, wr.frozen? ⟨w.heap.size + 1 + 1, o, none⟩ = false) ∧ Own (w.heap.size + 3) wr (.slice pv T cv) (l.take T) ∧ Below (w.heap.size + 2) W wr) (fun i _ => l.length - (intOf i).toNat)
  case atStart => exact ⟨0, 0, none, 0, Nat.zero_le _, rfl, by show _ = _; omega, Nat.le_refl _, o0, o1, oz, World.ownsRow_nil W (w.heap.size + 3) 5 1, Below.refl _ _⟩
  case round =>
    obtain ⟨j, T, pv, cv, hj, rfl, hT, hTj, g0, g1, gz, ho, hbr⟩ := hrel
    have m0 : wr.cell? ⟨w.heap.size, 0, none⟩ = some (.slice p l.length c) := (hbr.cell (p := ⟨w.heap.size, 0, none⟩) (by simp)).trans k0
    have m1 : wr.cell? ⟨w.heap.size, 1, none⟩ = some (.int .i64 s) := (hbr.cell (p := ⟨w.heap.size, 1, none⟩) (by simp)).trans k1
    have zr : W.heap.size ≤ wr.heap.size := hbr.size
    have zr2 : w.heap.size + 1 + 1 < wr.heap.size := by omega
    have zr0 : w.heap.size < wr.heap.size := by omega
    by_cases hlt : j < l.length
    · obtain ⟨q, d, e1, hh⟩ := id h
      simp only [Value.slice.injEq] at e1
      obtain ⟨rfl, -, rfl⟩ := e1
      rcases hh with rfl | ⟨b, o, rfl, hc⟩
      · simp at hlt
      · have hbl := World.block_lt_of_cell? w _ (hc j hlt)
        simp only at hbl
        have mx : wr.cell? ⟨b, o + j, none⟩ = some (.int .u8 l[j]) := by
          rw [hbr.cell (p := ⟨b, o + j, none⟩) (by simp; omega), bW.cell (p := ⟨b, o + j, none⟩) hbl, hc j hlt]
          simp [hlt]
        have zrb : b < wr.heap.size := by omega
        have i1 : (j : Int) < (l.length : Int) := by omega
        have i0 : (0 : Int) ≤ (j : Int) := by omega
        have hown : ∀ bb, (Value.slice pv T cv).ownBlock = some bb → w.heap.size + 3 ≤ bb := fun bb e => (ho.lt bb e).1
        by_cases hcd : (j : Int) < s ∨ (j : Int) - s < f
        · have hjM := unhide HKd j hlt hcd
          have eT : T = j := by have := unhide hT; omega
          subst eT
          obtain ⟨y, ey⟩ : ∃ y, y = l[T] := ⟨_, rfl⟩
          rw [← ey] at mx
          obtain ⟨lm, elm⟩ : ∃ lm, lm = l.take (T + 1) := ⟨_, rfl⟩
          have elm2 : Hid (lm = l.take T ++ [y]) := by show _ = _; rw [elm, take_step l T hlt, ey]
          have hlm : lm.length = T + 1 := by rw [elm]; simp; omega
          have HLM := hide hlm
          have ELM := hide elm
          clear elm ey hc hlm
          have zq : ∀ v ∈ [Value.slice pv T cv], v.ownBlock ≠ some (w.heap.size + 1 + 1) := by
            intro v hv e
            simp only [List.mem_singleton] at hv
            subst hv
            have := hown _ e
            omega
          by_cases hcz : (T : Int) < s
          · clear hcd
            go_wp2_with fail
            go_region_law ((refine step_append_byte (by rfl) _ _ (by rfl) (w.heap.size + 3) (.slice pv T cv) (l.take T) lm y elm2 wr.heap.size (by rfl) (by rfl) (by exact Own.below ho ((Below.refl _ _).alloc (Nat.le_refl _) _).drew) (by simp) (by simp; omega) (by simp; omega) ?_; intro p' c' w2 ho2 hg2; have hk2 := Kept.of_grown (vs := [.slice pv T cv]) hg2 (by simp); have n0 : w2.cell? ⟨w.heap.size + 1 + 1, 0, none⟩ = some (.slice pv T cv) := (hk2.cellAt (b := w.heap.size + 1 + 1) (by simp; omega) zq 0).trans (cell_below g0 ((Below.refl wr.heap.size wr).alloc (Nat.le_refl _) (.cells #[.int .u8 y] 5)).drew); have n1 : w2.cell? ⟨w.heap.size + 1 + 1, 1, none⟩ = some (.int .i64 T) := (hk2.cellAt (b := w.heap.size + 1 + 1) (by simp; omega) zq 1).trans (cell_below g1 ((Below.refl wr.heap.size wr).alloc (Nat.le_refl _) (.cells #[.int .u8 y] 5)).drew); have nf : ∀ o, w2.frozen? ⟨w.heap.size + 1 + 1, o, none⟩ = false := (fun o => (World.frozen?_of_block (hk2.block (w.heap.size + 1 + 1) (by simp; omega) zq)).trans (frozen_below gz ((Below.refl wr.heap.size wr).alloc (Nat.le_refl _) (.cells #[.int .u8 y] 5)).drew (by omega) o)); simp only [unhide HLM]))
            all_goals
              have b2 : Below (w.heap.size + 2) W w2 := (hbr.trans (((Below.refl wr.heap.size wr).alloc (Nat.le_refl _) (.cells #[.int .u8 y] 5)).drew.mono (by omega))).trans (hk2.below (by simp; omega) (fun v hv bb e => by simp only [List.mem_singleton] at hv; subst hv; have := hown bb e; omega))
              have ho3 : Own (w.heap.size + 3) w2 (.slice p' (T + 1) c') (l.take (T + 1)) := by
                have h2 := ho2
                rw [unhide HLM, unhide ELM] at h2
                exact h2
              clear hg2 hk2 ho2 ho hown m0 m1 mx hbr
              go_wp2
              go_roundw
              case rel => exact ⟨T + 1, T + 1, p', c', by omega, by go_num, by show _ = _; omega, Nat.le_refl _, by simp [go_sem, n0, n1], by simp [go_sem, n0, n1], by intro o; simp [nf], (ho3.set (by simp) _).set (by simp) _, (b2.setCell (by simp) _).setCell (by simp) _⟩
              case measure => simp [intOf]; omega
          · have hcx : decide ((T : Int) < s) = false := by simp; omega
            have hcy : (T : Int) - s < f := by omega
            have hcw : (s : Int) ≤ T := by omega
            clear hcd
            go_wp2_with fail
            go_region_law ((refine step_append_byte (by rfl) _ _ (by rfl) (w.heap.size + 3) (.slice pv T cv) (l.take T) lm y elm2 wr.heap.size (by rfl) (by rfl) (by exact Own.below ho ((Below.refl _ _).alloc (Nat.le_refl _) _).drew) (by simp) (by simp; omega) (by simp; omega) ?_; intro p' c' w2 ho2 hg2; have hk2 := Kept.of_grown (vs := [.slice pv T cv]) hg2 (by simp); have n0 : w2.cell? ⟨w.heap.size + 1 + 1, 0, none⟩ = some (.slice pv T cv) := (hk2.cellAt (b := w.heap.size + 1 + 1) (by simp; omega) zq 0).trans (cell_below g0 ((Below.refl wr.heap.size wr).alloc (Nat.le_refl _) (.cells #[.int .u8 y] 5)).drew); have n1 : w2.cell? ⟨w.heap.size + 1 + 1, 1, none⟩ = some (.int .i64 T) := (hk2.cellAt (b := w.heap.size + 1 + 1) (by simp; omega) zq 1).trans (cell_below g1 ((Below.refl wr.heap.size wr).alloc (Nat.le_refl _) (.cells #[.int .u8 y] 5)).drew); have nf : ∀ o, w2.frozen? ⟨w.heap.size + 1 + 1, o, none⟩ = false := (fun o => (World.frozen?_of_block (hk2.block (w.heap.size + 1 + 1) (by simp; omega) zq)).trans (frozen_below gz ((Below.refl wr.heap.size wr).alloc (Nat.le_refl _) (.cells #[.int .u8 y] 5)).drew (by omega) o)); simp only [unhide HLM]))
            all_goals
              have b2 : Below (w.heap.size + 2) W w2 := (hbr.trans (((Below.refl wr.heap.size wr).alloc (Nat.le_refl _) (.cells #[.int .u8 y] 5)).drew.mono (by omega))).trans (hk2.below (by simp; omega) (fun v hv bb e => by simp only [List.mem_singleton] at hv; subst hv; have := hown bb e; omega))
              have ho3 : Own (w.heap.size + 3) w2 (.slice p' (T + 1) c') (l.take (T + 1)) := by
                have h2 := ho2
                rw [unhide HLM, unhide ELM] at h2
                exact h2
              clear hg2 hk2 ho2 ho hown m0 m1 mx hbr
              go_wp2
              go_roundw
              case rel => exact ⟨T + 1, T + 1, p', c', by omega, by go_num, by show _ = _; omega, Nat.le_refl _, by simp [go_sem, n0, n1], by simp [go_sem, n0, n1], by intro o; simp [nf], (ho3.set (by simp) _).set (by simp) _, (b2.setCell (by simp) _).setCell (by simp) _⟩
              case measure => simp [intOf]; omega
        · have hjM := unhide HKn j hlt hcd
          have hc1 : decide ((j : Int) < s) = false := by simp; omega
          have hc2 : ¬ (j : Int) < s := by omega
          have hc3 : ¬ (j : Int) - s < f := by omega
          have hc4 : (s : Int) ≤ j := by omega
          clear hcd hc
          go_wp2
          go_roundw
          case rel => exact ⟨j + 1, T, pv, cv, by omega, by go_num, by show _ = _; have := unhide hT; omega, by omega, g0, g1, gz, ho, hbr⟩
          case measure => simp [intOf]; omega
    · have ej : j = l.length := by omega
      have eT : T = M := by have := unhide hT; omega
      subst eT
      have hLl : L.length = T := by rw [unhide eL, take_len _ _ hK]
      have HL := hide hLl
      have ho2 : Own (w.heap.size + 3) wr (.slice pv L.length cv) L := by rw [hLl, unhide eL]; exact ho
      have x0 : wr.cell? ⟨w.heap.size + 1, 0, none⟩ = some (.slice none 0 0) := (hbr.cell (p := ⟨w.heap.size + 1, 0, none⟩) (by simp)).trans r0
      have x1 : wr.cell? ⟨w.heap.size + 1, 1, none⟩ = some (.int .i64 0) := (hbr.cell (p := ⟨w.heap.size + 1, 1, none⟩) (by simp)).trans r1
      have xz : ∀ o, wr.frozen? ⟨w.heap.size + 1, o, none⟩ = false := fun o => (hbr.frozen (p := ⟨w.heap.size + 1, o, none⟩) (by simp)).trans (rz o)
      have bb : Below w.heap.size w wr := bW.trans (hbr.mono (by omega))
      clear hLl ho hT
      go_wp2
      refine bodyPost_ret (v := fileV (.slice pv T cv) T) (by simp [results, Try.results52, go_sem, x0, x1]) rfl ⟨pv, cv, by rw [unhide HL], Own.mono (B := w.heap.size + 3) ?_ (by omega), ?_⟩
      · repeat (refine ownsRow_setCell_below ?_ (by simp) _)
        exact ho2
      · repeat (refine Below.setCell ?_ (by simp) _)
        exact bb
end Go.Proofs.Yteljknmkodllkaa
