import Derived.Test.YteljknmkodllkaaBy
namespace Go.Proofs.Yteljknmkodllkaa
open Go.ChangeShapes Go.WideShapes Go.ChangeAt Go.RowKit
set_option linter.unusedVariables false
set_option linter.unusedSimpArgs false

theorem take_eq_step (l1 l2 : List Int) (k : Nat) (h1 : k < l1.length) (h2 : k < l2.length) (h : l1.take k = l2.take k) (e : l1[k]?.getD 0 = l2[k]?.getD 0) : l1.take (k + 1) = l2.take (k + 1) := by
  rw [List.take_succ_eq_append_getElem h1, List.take_succ_eq_append_getElem h2, h]
  simp [List.getElem?_eq_getElem h1, List.getElem?_eq_getElem h2] at e
  rw [e]

theorem below_drewN {B : Nat} {w w' : World} (h : Below B w w') (n : Nat) : Below B w (w'.drewN n) := ⟨h.os, h.tape, h.output, h.size, h.block⟩

set_option maxHeartbeats 400000 in
theorem eqByteS_any (v1 v2 : Value) (l1 l2 : List Int) (w : World) (h1 : Rd w v1 l1) (h2 : Rd w v2 l2) (hl1 : l1.length ≤ 2097152) (hl2 : l2.length ≤ 2097152) :
    Calls Try.prog 31 #[v1, v2] w fun e w' => e = .returned (.bool (decide (l1 = l2))) ∧ Below w.heap.size w w' := by
  obtain ⟨p1, cap1, rfl, h1⟩ := h1
  obtain ⟨p2, cap2, rfl, h2⟩ := h2
  by_cases hlen : l1.length = l2.length
  · have hne : ((l1.length : Int) != (l2.length : Int)) = false := by simp; omega
    go_enter Try.func31, Try.ntmps31
    go_wp2
    go_loopw [5] (fun i wr => ∃ k : Nat, k ≤ l1.length ∧ i = .int .i64 k ∧ l1.take k = l2.take k ∧ Below w.heap.size w wr) (fun i _ => l1.length - (intOf i).toNat)
    case atStart => exact ⟨0, Nat.zero_le _, rfl, rfl, Below.refl _ _⟩
    case round =>
      obtain ⟨k, hk, rfl, ht, hbr⟩ := hrel
      have HT : Hid (l1.take k = l2.take k) := ht
      clear ht
      by_cases hlt : k < l1.length
      · rcases h1 with rfl | ⟨b1, o1, rfl, hc1⟩
        · simp at hlt
        · rcases h2 with rfl | ⟨b2, o2, rfl, hc2⟩
          · simp at hlen; subst hlen; simp at hlt
          · have hlt2 : k < l2.length := by omega
            have g1 : wr.cell? ⟨b1, o1 + k, none⟩ = some (.int .u8 (l1.getD k 0)) := (hbr.cell (p := ⟨b1, o1 + k, none⟩) (World.block_lt_of_cell? w _ (hc1 k hlt))).trans (hc1 k hlt)
            have g2 : wr.cell? ⟨b2, o2 + k, none⟩ = some (.int .u8 (l2.getD k 0)) := (hbr.cell (p := ⟨b2, o2 + k, none⟩) (World.block_lt_of_cell? w _ (hc2 k hlt2))).trans (hc2 k hlt2)
            have i1 : (k : Int) < (l1.length : Int) := by omega
            have i2 : (k : Int) < (l2.length : Int) := by omega
            have HL : Hid (l1.length = l2.length) := hlen
            clear hc1 hc2 hlen
            by_cases hx : l1[k] = l2[k]
            · have hb : (l1[k] != l2[k]) = false := by simp only [bne_eq_false_iff_eq]; exact hx
              have HX : Hid (l1[k]?.getD 0 = l2[k]?.getD 0) := by show _ = _; simpa [hlt, hlt2] using hx
              clear hx
              go_wp2
              go_quiet (fail)
              go_wp2
              go_roundw
              case rel => exact ⟨k + 1, by omega, by go_num, take_eq_step l1 l2 k hlt hlt2 HT.out HX.out, below_drewN hbr _⟩
              case measure => simp [intOf]; omega
            · have hb : (l1[k] != l2[k]) = true := by simp only [bne_iff_ne]; exact hx
              have HF : Hid (decide (l1 = l2) = false) := by
                show _ = _
                simp only [decide_eq_false_iff_not]; intro e; apply hx; simp [e]
              clear hx
              go_wp2
              go_quiet (fail)
              go_wp2
              go_ret
              exact ⟨by rw [HF.out]; rfl, below_drewN hbr _⟩
      · have hkl : k = l1.length := by omega
        have HF : Hid (decide (l1 = l2) = true) := by
          have := HT.out
          rw [hkl, List.take_length, hlen, List.take_length] at this
          show _ = _
          simp [this]
        subst hkl
        clear HT hlen
        go_wp2
        go_ret
        exact ⟨by rw [HF.out]; rfl, hbr⟩
  · have hne : ((l1.length : Int) != (l2.length : Int)) = true := by simp; omega
    have hfin : decide (l1 = l2) = false := by
      simp only [decide_eq_false_iff_not]; intro e; apply hlen; rw [e]
    rw [hfin]
    go_enter Try.func31, Try.ntmps31
    go_wp2
    go_ret
    exact ⟨rfl, Below.refl _ _⟩
end Go.Proofs.Yteljknmkodllkaa
