import Derived.Test.YteljknmkodllkaaEq
import Derived.Test.YteljknmkodllkaaOp
import Derived.Test.YteljknmkodllkaaAp
namespace Go.Proofs.Yteljknmkodllkaa
open Go.ChangeShapes Go.WideShapes Go.ChangeAt Go.RowKit
set_option linter.unusedVariables false
set_option linter.unusedSimpArgs false

set_option maxHeartbeats 400000 in
theorem sameB_any0 (v1 v2 : Value) (l1 l2 : List Int) (w : World) (h1 : Rd w v1 l1) (h2 : Rd w v2 l2) (hl1 : l1.length ≤ 2097152) (hl2 : l2.length ≤ 2097152) :
    Calls Try.prog 20 #[v1, v2] w fun e w' => e = .returned (.bool (decide (l1 = l2))) ∧ Below w.heap.size w w' := by
  obtain ⟨p1, cap1, rfl, h1⟩ := h1
  obtain ⟨p2, cap2, rfl, h2⟩ := h2
  by_cases hlen : l1.length = l2.length
  · have hne : ((l1.length : Int) != (l2.length : Int)) = false := by simp; omega
    go_enter Try.func20, Try.ntmps20
    go_wp2
    go_loopw [5] (fun i wr => ∃ k : Nat, k ≤ l1.length ∧ i = .int .i64 k ∧ l1.take k = l2.take k ∧ Below w.heap.size w wr) (fun i _ => l1.length - (intOf i).toNat)
    case atStart => exact ⟨0, Nat.zero_le _, rfl, rfl, Below.refl _ _⟩
    case round =>
      obtain ⟨k, hk, rfl, ht, hbr⟩ := hrel
      have HT : Hid (l1.take k = l2.take k) := ht
      clear ht
      by_cases hlt : k < l1.length
      · rcases h1 with rfl | ⟨b1, o1, rfl, hc1⟩
        · simp at hlt
        · rcases h2 with rfl | ⟨b2, o2, rfl, hc2⟩
          · simp at hlen; subst hlen; simp at hlt
          · have hlt2 : k < l2.length := by omega
            have g1 : wr.cell? ⟨b1, o1 + k, none⟩ = some (.int .u8 (l1.getD k 0)) := (hbr.cell (p := ⟨b1, o1 + k, none⟩) (World.block_lt_of_cell? w _ (hc1 k hlt))).trans (hc1 k hlt)
            have g2 : wr.cell? ⟨b2, o2 + k, none⟩ = some (.int .u8 (l2.getD k 0)) := (hbr.cell (p := ⟨b2, o2 + k, none⟩) (World.block_lt_of_cell? w _ (hc2 k hlt2))).trans (hc2 k hlt2)
            have i1 : (k : Int) < (l1.length : Int) := by omega
            have i2 : (k : Int) < (l2.length : Int) := by omega
            have HL : Hid (l1.length = l2.length) := hlen
            clear hc1 hc2 hlen
            by_cases hx : l1[k] = l2[k]
            · have hb : (l1[k] != l2[k]) = false := by simp only [bne_eq_false_iff_eq]; exact hx
              have HX : Hid (l1[k]?.getD 0 = l2[k]?.getD 0) := by show _ = _; simpa [hlt, hlt2] using hx
              clear hx
              go_wp2
              go_quiet (fail)
              go_wp2
              go_roundw
              case rel => exact ⟨k + 1, by omega, by go_num, take_eq_step l1 l2 k hlt hlt2 HT.out HX.out, below_drewN hbr _⟩
              case measure => simp [intOf]; omega
            · have hb : (l1[k] != l2[k]) = true := by simp only [bne_iff_ne]; exact hx
              have HF : Hid (decide (l1 = l2) = false) := by
                show _ = _
                simp only [decide_eq_false_iff_not]; intro e; apply hx; simp [e]
              clear hx
              go_wp2
              go_quiet (fail)
              go_wp2
              go_ret
              exact ⟨by rw [HF.out]; rfl, below_drewN hbr _⟩
      · have hkl : k = l1.length := by omega
        have HF : Hid (decide (l1 = l2) = true) := by
          have := HT.out
          rw [hkl, List.take_length, hlen, List.take_length] at this
          show _ = _
          simp [this]
        subst hkl
        clear HT hlen
        go_wp2
        go_ret
        exact ⟨by rw [HF.out]; rfl, hbr⟩
  · have hne : ((l1.length : Int) != (l2.length : Int)) = true := by simp; omega
    have hfin : decide (l1 = l2) = false := by
      simp only [decide_eq_false_iff_not]; intro e; apply hlen; rw [e]
    rw [hfin]
    go_enter Try.func20, Try.ntmps20
    go_wp2
    go_ret
    exact ⟨rfl, Below.refl _ _⟩

theorem sameB_same (p q : Option Addr) (c d : Nat) (l : List Int) (w : World) (h1 : Rd w (.slice p l.length c) l) (h2 : Rd w (.slice q l.length d) l) (hl : l.length ≤ 2097152) :
    Calls Try.prog 20 #[.slice p l.length c, .slice q l.length d] w fun e w' => e = .returned (.bool true) ∧ Below w.heap.size w w' := by
  refine (sameB_any0 _ _ l l w h1 h2 hl hl).mono ?_
  rintro e w' ⟨rfl, hb⟩
  exact ⟨by simp, hb⟩

set_option maxHeartbeats 400000 in
theorem pick0 (p0 p1 p2 : Option Addr) (m0 m1 m2 c0 c1 c2 : Nat) (n0 n1 n2 : Int) (w : World) :
    Calls Try.prog 21 #[diskV (.slice p0 m0 c0) n0 (.slice p1 m1 c1) n1 (.slice p2 m2 c2) n2, .int .i64 0] w fun e w' => e = .returned (.slice p0 m0 c0) ∧ Below w.heap.size w w' := by
  go_enter Try.func21, Try.ntmps21
  go_wp2
  go_ret
  exact ⟨rfl, (Below.refl _ _).alloc (Nat.le_refl _) _⟩

set_option maxHeartbeats 400000 in
theorem pick1 (p0 p1 p2 : Option Addr) (m0 m1 m2 c0 c1 c2 : Nat) (n0 n1 n2 : Int) (w : World) :
    Calls Try.prog 21 #[diskV (.slice p0 m0 c0) n0 (.slice p1 m1 c1) n1 (.slice p2 m2 c2) n2, .int .i64 1] w fun e w' => e = .returned (.slice p1 m1 c1) ∧ Below w.heap.size w w' := by
  go_enter Try.func21, Try.ntmps21
  go_wp2
  go_ret
  exact ⟨rfl, (Below.refl _ _).alloc (Nat.le_refl _) _⟩

set_option maxHeartbeats 400000 in
theorem pick2 (p0 p1 p2 : Option Addr) (m0 m1 m2 c0 c1 c2 : Nat) (n0 n1 n2 : Int) (w : World) :
    Calls Try.prog 21 #[diskV (.slice p0 m0 c0) n0 (.slice p1 m1 c1) n1 (.slice p2 m2 c2) n2, .int .i64 2] w fun e w' => e = .returned (.slice p2 m2 c2) ∧ Below w.heap.size w w' := by
  go_enter Try.func21, Try.ntmps21
  go_wp2
  go_ret
  exact ⟨rfl, (Below.refl _ _).alloc (Nat.le_refl _) _⟩

set_option maxHeartbeats 400000 in
theorem take_any (p : Option Addr) (c : Nat) (l : List Int) (w : World) (h : Rd w (.slice p l.length c) l) (hb : ∀ z ∈ l, 0 ≤ z ∧ z < 256) (hl : l.length ≤ 1048576) :
    Calls Try.prog 18 #[.slice p l.length c, .int .i64 0] w fun e w' => ∃ y : Int, (0 ≤ y ∧ y < 256) ∧ e = .returned (.int .i64 y) ∧ Below w.heap.size w w' := by
  obtain ⟨q, d, e1, hh⟩ := h
  simp only [Value.slice.injEq] at e1
  obtain ⟨rfl, -, rfl⟩ := e1
  rcases hh with rfl | ⟨b, o, rfl, hc⟩
  · go_enter Try.func18, Try.ntmps18
    go_wp2
    go_ret
    exact ⟨0, ⟨by omega, by omega⟩, rfl, Below.refl _ _⟩
  · by_cases h0 : l.length = 0
    · have e : l = [] := List.eq_nil_of_length_eq_zero h0
      subst e
      go_enter Try.func18, Try.ntmps18
      go_wp2
      go_ret
      exact ⟨0, ⟨by omega, by omega⟩, rfl, Below.refl _ _⟩
    · have hp : 0 < l.length := by omega
      have mx : w.cell? ⟨b, o, none⟩ = some (.int .u8 l[0]) := by have := hc 0 hp; simpa [hp] using this
      have hy := hb _ (List.getElem_mem hp)
      have hne : ((l.length : Int) == 0) = false := beq_eq_false_iff_ne.2 (by omega)
      have hpi : (0 : Int) < (l.length : Int) := by omega
      clear hc
      go_enter Try.func18, Try.ntmps18
      go_wp2
      go_ret
      exact ⟨l[0], hy, rfl, Below.refl _ _⟩

theorem Rd.of_trod_cap {H : Type} {enc : TypeId × Value → H} {w : World} {n : Nat} {cs : List Value} {x : DataW H × List MemPlace} (h : DataW.trod enc Try.prog w 0 (fun _ => true) true n 22 cs = some x) :
    ∃ (p : Option Addr) (l : List Int) (c : Nat), cs = [.slice p l.length c] ∧ Rd w (.slice p l.length c) l ∧ l.length ≤ maxLen ∧ l.length ≤ c ∧ (∀ z ∈ l, 0 ≤ z ∧ z < 256) := by
  obtain ⟨p, l, c, e, hr, hm, hw⟩ := Rd.of_trod h
  refine ⟨p, l, c, e, hr, hm, ?_, fun z hz => ?_⟩
  · rcases open_ints Try.underlying22 Try.underlying5 (by kernel_rfl) h with ⟨rfl, _⟩ | ⟨a, len, cap, zs, rfl, _, hl, _⟩
    · simp at e; omega
    · simp at e; omega
  · have := hw z hz
    simp [Lit.wf, IntKind.min, IntKind.max, IntKind.signed, IntKind.bits] at this
    omega
end Go.Proofs.Yteljknmkodllkaa
