import Derived.Test.YtpbppdeleijhkaaGreatDoorVC2
namespace Go.Proofs.YtpbppdeleijhkaaGreatDoor
open Go.ChangeShapes Go.WideShapes Go.ChangeAt Go.RowKit
set_option linter.unusedVariables false
set_option linter.unusedSimpArgs false
set_option maxRecDepth 100000

/-- the bounds of a state -/
def limOK (e g x t : Int) (n m : Nat) : Bool := decide (e ≤ 4611686018427387904 ∧ g ≤ 4611686018427387904 ∧ x ≤ 4611686018427387904 ∧ 0 ≤ t ∧ t ≤ 1000000 ∧ n ≤ 50 ∧ m ≤ 200)

set_option maxHeartbeats 1600000 in
theorem limits_any (e g x t : Int) (p q : Option Addr) (c n d m : Nat) (w : World) (hn : n ≤ 1048576) (hm : m ≤ 1048576) (B : Bool) (eB : Hid (limOK e g x t n m = B)) :
    Calls Tryz.prog 108 #[stV e g x t (.slice p n c) (.slice q m d)] w fun r w' => r = .returned (.bool B) ∧ Below w.heap.size w w' := by
  go_enter Tryz.func108, Tryz.ntmps108
  go_wp2_with fail
  all_goals (
    go_ret
    refine ⟨?_, (Below.refl _ _).alloc (Nat.le_refl _) _⟩
    rw [← unhide eB]
    simp only [limOK, Ending.returned.injEq, Value.bool.injEq])
  all_goals first | (simp_all; done) | (simp_all; omega) | (show Value.bool (decide ((m : Int) ≤ 200)) = Value.bool _; congr 1; rw [Bool.eq_iff_iff, decide_eq_true_iff, decide_eq_true_iff]; omega) | skip

set_option maxHeartbeats 1600000 in
theorem validLock_any (e g ow mo ep ge : Int) (P V U : Value) (p : Option Addr) (c n : Nat) (w : World) (hn : n ≤ 1048576) (B : Bool) (eB : Hid (lockOK e g mo n ep ge = B)) :
    Calls Tryz.prog 182 #[ndV P V ow mo (.slice p n c) ep ge U, .int .u64 e, .int .u64 g] w fun r w' => r = .returned (.bool B) ∧ Below w.heap.size w w' := by
  go_enter Tryz.func182, Tryz.ntmps182
  go_wp2_with fail
  all_goals (
    go_ret
    refine ⟨?_, (Below.refl _ _).alloc (Nat.le_refl _) _⟩
    rw [← unhide eB]
    simp only [lockOK, Ending.returned.injEq, Value.bool.injEq])
  all_goals first | (simp_all; done) | (simp_all; omega) | skip

/-- numbers that ascend -/
def ascI (l : List Int) : Bool := ascOf l.length (fun i j => decide (l.getD i 0 < l.getD j 0))
/-- a node by itself -/
def nodV (e g : Int) (nd : Nod) : Bool := vp nd.path && (decide (nd.value.length ≤ 40) && (lockOK e g nd.mode nd.holders.length nd.epoch nd.gen && (ascI nd.holders && ascI nd.watchers)))

set_option maxHeartbeats 1600000 in
theorem validIn_any (e g x t : Int) (S N : Value) (nd : Nod) (pp vq hp up : Option Addr) (pc pn vc vn hc hh uc un : Nat) (ePn : Hid (nd.path.length = pn)) (eVn : Hid (nd.value.length = vn)) (eHn : Hid (nd.holders.length = hh)) (eUn : Hid (nd.watchers.length = un)) (w : World)
    (h0 : Rd w (.slice pp pn pc) nd.path) (h4 : RdU w (.slice hp hh hc) nd.holders) (h7 : RdU w (.slice up un uc) nd.watchers) (hBP : Hid (Byt nd.path)) (hpn : pn ≤ 1048576) (hvn : vn ≤ 1048576) (hhn : hh ≤ 1048576) (hun : un ≤ 1048576) (hcap : CapOK (.slice pp pn pc)) (hML : ML w) (B : Bool) (eB : Hid (nodV e g nd = B)) :
    Calls Tryz.prog 154 #[ndV (.slice pp pn pc) (.slice vq vn vc) nd.owner nd.mode (.slice hp hh hc) nd.epoch nd.gen (.slice up un uc), stV e g x t S N] w fun r w' => r = .returned (.bool B) ∧ Below w.heap.size w w' := by
  obtain ⟨hc1, hc2⟩ := hcap.of
  obtain ⟨ow, mo, ep, ge, e1, e2, e3, e4⟩ : ∃ a b c d, nd.owner = a ∧ nd.mode = b ∧ nd.epoch = c ∧ nd.gen = d := ⟨_, _, _, _, rfl, rfl, rfl, rfl⟩
  rw [e1, e2, e3, e4]
  have HR := hide fun (w' : World) (hb : Below w.heap.size w w') => And.intro (h0.below hb) (And.intro (h4.below hb) (And.intro (h7.below hb) (hML.below hb)))
  obtain ⟨T1, E1⟩ : ∃ T, Hid (vp nd.path = T) := ⟨_, (by show _ = _; rfl)⟩
  obtain ⟨T3, E3⟩ : ∃ T, Hid (lockOK e g mo hh ep ge = T) := ⟨_, (by show _ = _; rfl)⟩
  obtain ⟨T4, E4⟩ : ∃ T, Hid (ascOf hh (fun i j => decide (nd.holders.getD i 0 < nd.holders.getD j 0)) = T) := ⟨_, (by show _ = _; rfl)⟩
  obtain ⟨T5, E5⟩ : ∃ T, Hid (ascOf un (fun i j => decide (nd.watchers.getD i 0 < nd.watchers.getD j 0)) = T) := ⟨_, (by show _ = _; rfl)⟩
  have hB : B = (T1 && (decide (vn ≤ 40) && (T3 && (T4 && T5)))) := by
    rw [← unhide eB, nodV, ascI, ascI, e2, e3, e4, unhide eVn, unhide eHn, unhide eUn, unhide E1, unhide E3, unhide E4, unhide E5]
  have HB := hide hB
  clear h0 h4 h7 hML hB eB e1 e2 e3 e4 hcap
  obtain ⟨W, hW⟩ : ∃ W, W = ((w.alloc (.cells #[.slice pp pn pc, .slice vq vn vc, .int .u64 ow, .int .i64 mo, .slice hp hh hc, .int .u64 ep, .int .u64 ge, .slice up un uc] 71)).alloc (.cells #[.int .u64 e, .int .u64 g, .int .u64 x, .int .i64 t, S, N] 27)) := ⟨_, rfl⟩
  have bW : Below w.heap.size w W := by rw [hW]; exact ((Below.refl _ _).alloc (Nat.le_refl _) _).alloc (by simp) _
  have k0 : W.cell? ⟨w.heap.size, 0, none⟩ = some (.slice pp pn pc) := by rw [hW]; simp
  have k1 : W.cell? ⟨w.heap.size, 1, none⟩ = some (.slice vq vn vc) := by rw [hW]; simp
  have k2 : W.cell? ⟨w.heap.size, 2, none⟩ = some (.int .u64 ow) := by rw [hW]; simp
  have k3 : W.cell? ⟨w.heap.size, 3, none⟩ = some (.int .i64 mo) := by rw [hW]; simp
  have k4 : W.cell? ⟨w.heap.size, 4, none⟩ = some (.slice hp hh hc) := by rw [hW]; simp
  have k5 : W.cell? ⟨w.heap.size, 5, none⟩ = some (.int .u64 ep) := by rw [hW]; simp
  have k6 : W.cell? ⟨w.heap.size, 6, none⟩ = some (.int .u64 ge) := by rw [hW]; simp
  have k7 : W.cell? ⟨w.heap.size, 7, none⟩ = some (.slice up un uc) := by rw [hW]; simp
  have k8 : W.cell? ⟨w.heap.size + 1, 0, none⟩ = some (.int .u64 e) := by rw [hW]; simp
  have k9 : W.cell? ⟨w.heap.size + 1, 1, none⟩ = some (.int .u64 g) := by rw [hW]; simp
  go_enter Tryz.func154, Tryz.ntmps154
  go_wp2_with fail
  rw [← hW]
  clear hW
  refine (implVP pp pc pn nd.path ePn _ (unhide HR _ bW).1 hBP hpn hc1 hc2 (unhide HR _ bW).2.2.2 T1 E1).mono ?_
  rintro r w1 ⟨rfl, hb1⟩
  have b1 := Below.step bW hb1
  cases T1 with
  | false =>
    have eF : B = false := by rw [unhide HB]; rfl
    subst eF
    clear k0 k1 k2 k3 k4 k5 k6 k7 k8 k9
    go_wp2
    go_ret
    exact ⟨rfl, b1⟩
  | true =>
    replace k0 := cell_below k0 hb1
    replace k1 := cell_below k1 hb1
    replace k2 := cell_below k2 hb1
    replace k3 := cell_below k3 hb1
    replace k4 := cell_below k4 hb1
    replace k5 := cell_below k5 hb1
    replace k6 := cell_below k6 hb1
    replace k7 := cell_below k7 hb1
    replace k8 := cell_below k8 hb1
    replace k9 := cell_below k9 hb1
    clear hb1 bW
    by_cases hv : (vn : Int) ≤ 40
    · have HB2 : Hid (B = (T3 && (T4 && T5))) := by
        show _ = _
        rw [unhide HB, show decide (vn ≤ 40) = true by (rw [decide_eq_true_iff]; omega)]
        rfl
      clear HB
      go_wp2_with fail
      refine (validLock_any e g ow mo ep ge _ _ _ hp hc hh _ hhn T3 E3).mono ?_
      rintro r w2 ⟨rfl, hb2⟩
      have b2 := Below.step b1 hb2
      cases T3 with
      | false =>
        have eF : B = false := by rw [unhide HB2]; rfl
        subst eF
        clear k0 k1 k2 k3 k4 k5 k6 k7 k8 k9
        go_wp2
        go_ret
        exact ⟨rfl, b2⟩
      | true =>
        replace k4 := cell_below k4 hb2
        replace k7 := cell_below k7 hb2
        clear k0 k1 k2 k3 k5 k6 k8 k9 hb2
        go_wp2_with fail
        refine (ascU_any hp hc hh nd.holders eHn _ (unhide HR _ b2).2.1 hhn T4 E4).mono ?_
        rintro r w3 ⟨rfl, hb3⟩
        have b3 := Below.step b2 hb3
        cases T4 with
        | false =>
          have eF : B = false := by rw [unhide HB2]; rfl
          subst eF
          clear k4 k7
          go_wp2
          go_ret
          exact ⟨rfl, b3⟩
        | true =>
          have eT : B = T5 := by rw [unhide HB2]; rfl
          subst eT
          replace k7 := cell_below k7 hb3
          clear k4 hb3
          go_wp2_with fail
          refine (ascU_any up uc un nd.watchers eUn _ (unhide HR _ b3).2.2.1 hun B E5).mono ?_
          rintro r w4 ⟨rfl, hb4⟩
          have b4 := Below.step b3 hb4
          clear k7
          go_wp2
          go_ret
          exact ⟨rfl, b4⟩
    · have eF : B = false := by rw [unhide HB, show decide (vn ≤ 40) = false by (rw [decide_eq_false_iff_not]; omega)]; rfl
      subst eF
      clear k2 k3 k4 k5 k6 k7 k8 k9
      go_wp2
      go_ret
      exact ⟨rfl, b1⟩
end Go.Proofs.YtpbppdeleijhkaaGreatDoor
