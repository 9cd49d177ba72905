import Derived.Test.YtnakmagpgffhlaaJLER
import Derived.Test.YtnakmagpgffhlaaJAux
namespace Go.Proofs.Ytnakmagpgffhlaa
open Go.ChangeShapes Go.WideShapes Go.ChangeAt Go.RowKit
set_option linter.unusedVariables false
set_option linter.unusedSimpArgs false

namespace erRow
set_option maxHeartbeats 400000 in
theorem walk_big (s : Int) (p : Option Addr) (c n : Nat) (w : World) (m0 : n ≤ maxLen) (hl : 1048576 < n) :
    Calls Try.prog 6 #[recV s (.slice p n c)] w fun e w' => e = .returned (.bool true) ∧ Below w.heap.size w w' := by
  have b0 : ∀ o : Obj, Below w.heap.size w (w.alloc o) := fun o => (Below.refl _ _).alloc (Nat.le_refl _) _
  go_enter Try.func6, Try.ntmps6
  go_wp2_with fail
  refine (szRecord_any s p n c 1048576 _ m0 (by omega) (by omega)).mono ?_
  rintro e w0 ⟨rfl, hb0⟩
  have b00 : Below w.heap.size w w0 := Below.step (b0 _) hb0
  rw [szLeft_no (by omega)]
  clear hb0
  go_wp2
  go_ret
  exact ⟨rfl, b00⟩

set_option maxRecDepth 100000 in
theorem lifted (os : Os) (started : os.Started) (H : Type) (enc : TypeId × Value → H) :
    ReturnsInHanded {} Try.checked os 6 .any (Rows.fnExactEncodeRecordSpec.pre6 enc Try.prog Try.f6 Rows.fnExactEncodeRecordRow.domain false) (Rows.fnExactEncodeRecordSpec.post enc Try.prog Try.f6 false true false false) := by
  refine returnsInHanded_of_change (C := Try.checked) own started (by kernel_rfl) Try.func6
    (ChangeSpec.witness6 (enc := enc) (C := Try.checked) false ⟨#[], #[.agg #[.int .u64 0, .slice none 0 0]], []⟩ 8 (by kernel_rfl) (by kernel_rfl) (by kernel_rfl) (by kernel_rfl)) ?_
  intro W base args ds gs before hval0 hW hcnd _
  have hval : ∀ (j : Nat) t v, Try.f6.params[j]? = some t → args[j]? = some v → Value.okWide Try.prog W .any base t v := hval0
  have hW' := hW
  obtain ⟨p, q, hA0, hV, rfl, hfz, hnd⟩ := hW
  have hA : DataW.TrodAll enc Try.prog W 0 (fun _ => true) true Try.f6.params.toList args.toList ds p := hA0
  rw [Try.params6] at hA hval
  obtain ⟨v0, vs0, d0, ds0, p0, q0, hargs, rfl, rfl, h0, r0⟩ := trodAll_cons hA
  obtain ⟨rfl, rfl, rfl⟩ := trodAll_nil r0
  obtain rfl : args = #[v0] := by cases args; simp_all
  obtain ⟨rfl, rfl⟩ := trodVars_none hV
  have k0 := h0
  have lt0 : ∀ x ∈ p0, x.block < W.heap.size := by obtain ⟨m, hm⟩ := k0; exact DataW.trod_lt m _ _ _ hm
  obtain ⟨s0, a0, l0, c0, rfl, e0, m0, hB0, sl0, sh0⟩ := record_of_trod (hval 0 35 v0 rfl rfl) h0
  clear hA0 hval0
  have walk : Calls Try.prog 6 #[recV s0 (.slice a0 l0.length c0)] W fun e w' => e = .returned (.bool true) ∧ Below W.heap.size W w' := by
    by_cases hl : l0.length ≤ 1048576
    · by_cases hs : l0.length ≤ 1000
      · exact lawEncRec_small s0 a0 c0 l0.length (l0.length + 14) l0 (recB s0 l0) W e0 rfl (by show _ = _; exact recB_length s0 l0) hl (by omega)
          (hide fun q d w hr => specEncRec s0 q d l0.length l0 rfl w hr hB0 hs sl0 sh0) (hide fun q d w hr => implEncRec s0 q d l0.length l0 rfl w hr hB0 hs sl0 sh0)
      · exact lawEncRec_small s0 a0 c0 l0.length 0 l0 [] W e0 rfl rfl hl (by omega)
          (hide fun q d w hr => (specEncRec_long s0 q d l0.length w (by omega)).mono (by rintro e w' ⟨rfl, hb⟩; exact ⟨none, 0, rfl, World.ownsRow_nil _ _ _ _, hb⟩)) (hide fun q d w hr => (implEncRec_long s0 q d l0.length w (by omega)).mono (by rintro e w' ⟨rfl, hb⟩; exact ⟨none, 0, rfl, World.ownsRow_nil _ _ _ _, hb⟩))
    · exact walk_big s0 a0 c0 _ W m0 (by omega)
  refine walk.mono fun e W' ⟨he, bel⟩ => ?_
  subst he
  exact ⟨_, rfl, _, _, _, [], _, [], hW', trodAll_mk1 (shut_bool Try.underlying4 _), (trodAll_cons_mk (Below.trod laidOut (by kernel_rfl) (of_decide_eq_true (by kernel_rfl)) k0 bel lt0) trodAll_mk0), rfl, bel.frame _, fun h => by cases h⟩

theorem over : Rows.fnExactEncodeRecordRow.holds Try.pinned (OpenSpec.ofChange Rows.fnExactEncodeRecordSpec) :=
  OpenClaim.holds_of_wide 6 Try.f6 rfl rfl rfl rfl rfl rfl rfl ⟨rfl, rfl, rfl, rfl, rfl⟩ rfl rfl rfl rfl rfl (by kernel_rfl) Try.func6 (by kernel_rfl)
    (of_decide_eq_true (by kernel_rfl)) (by unfold Func.isWrapper; first | (rw [if_pos (by decide +kernel)]; kernel_rfl) | (rw [if_neg (by decide +kernel)]; exact ⟨rfl, rfl⟩))
    (fun os started H enc _ => lifted os started H enc)
end erRow

theorem fnExactEncodeRecord_holds : Rows.FnExactEncodeRecordSaid := erRow.over
end Go.Proofs.Ytnakmagpgffhlaa
