import Derived.Test.YtnakmagpgffhlaaJCk
import Derived.Test.YtnakmagpgffhlaaGO
import Derived.ShutString
import Derived.ChangeOld
import Derived.Below
namespace Go.Proofs.Ytnakmagpgffhlaa
open Go.ChangeShapes Go.WideShapes Go.ChangeAt Go.RowKit
set_option linter.unusedVariables false
set_option linter.unusedSimpArgs false

theorem own : ownKnob Try.prog.godebug = none := by kernel_rfl
theorem laidOut : laidOutB Try.prog = true := by kernel_rfl

namespace ckRow
set_option maxHeartbeats 400000 in
theorem walk_big (p : Option Addr) (c : Nat) (l : List Int) (w : World) (m0 : l.length ≤ maxLen) (hl : 1048576 < l.length) :
    Calls Try.prog 3 #[.slice p l.length c] w fun e w' => e = .returned (.bool true) ∧ Below w.heap.size w w' := by
  unfold maxLen at m0
  have hl' : (1048576 : Int) < (l.length : Int) := by omega
  go_enter Try.func3, Try.ntmps3
  go_wp2
  go_ret
  exact ⟨rfl, Below.refl _ _⟩

set_option maxHeartbeats 400000 in
theorem walk_small (p : Option Addr) (c : Nat) (l : List Int) (w : World) (h : Rd w (.slice p l.length c) l) (hb : Byt l) (hl : l.length ≤ 1048576) :
    Calls Try.prog 3 #[.slice p l.length c] w fun e w' => e = .returned (.bool true) ∧ Below w.heap.size w w' := by
  have hl' : ¬ (1048576 : Int) < (l.length : Int) := by omega
  have hne : (ck l != ck l) = false := by simp
  go_enter Try.func3, Try.ntmps3
  go_wp2_with fail
  refine (toByteS_any _ l _ h hl).mono ?_
  rintro e w1 ⟨p1, c1, rfl, o1, b1⟩
  go_wp2_with fail
  refine (specCk_any p1 c1 l _ o1.rd hb (by omega)).mono ?_
  rintro e w2 ⟨rfl, hb2⟩
  have b2 := Below.step b1 hb2
  clear o1 b1 hb2
  go_wp2_with fail
  refine (toByteS_any _ l _ (h.below b2) hl).mono ?_
  rintro e w3 ⟨p3, c3, rfl, o3, hb3⟩
  have b3 := Below.step b2 hb3
  clear b2 hb3
  go_wp2_with fail
  refine (implCk_any p3 c3 l _ o3.rd hb (by omega)).mono ?_
  rintro e w4 ⟨rfl, hb4⟩
  have b4 := Below.step b3 hb4
  have r4 := o3.rd.below hb4
  clear b3 hb4 o3
  go_wp2_with fail
  refine (toByteS_any _ l _ (h.below b4) hl).mono ?_
  rintro e w5 ⟨p5, c5, rfl, o5, hb5⟩
  have b5 := Below.step b4 hb5
  have r5 := r4.below hb5
  clear b4 hb5 r4
  go_wp2_with fail
  refine (eqByteS_any _ _ l l _ r5 o5.rd (by omega) (by omega)).mono ?_
  rintro e w6 ⟨rfl, hb6⟩
  have b6 := Below.step b5 hb6
  have hd : decide (l = l) = true := by simp
  rw [hd]
  clear b5 hb6 r5 o5
  go_wp2
  go_ret
  exact ⟨rfl, b6⟩

set_option maxRecDepth 100000 in
theorem lifted (os : Os) (started : os.Started) (H : Type) (enc : TypeId × Value → H) :
    ReturnsInHanded {} Try.checked os 3 .any (Rows.fnExactChecksumSpec.pre6 enc Try.prog Try.f3 Rows.fnExactChecksumRow.domain false) (Rows.fnExactChecksumSpec.post enc Try.prog Try.f3 false true false false) := by
  refine returnsInHanded_of_change (C := Try.checked) own started (by kernel_rfl) Try.func3
    (ChangeSpec.witness6 (enc := enc) (C := Try.checked) false ⟨#[], #[.slice none 0 0], []⟩ 8 (by kernel_rfl) (by kernel_rfl) (by kernel_rfl) (by kernel_rfl)) ?_
  intro W base args ds gs before hval0 hW hcnd _
  have hval : ∀ (j : Nat) t v, Try.f3.params[j]? = some t → args[j]? = some v → Value.okWide Try.prog W .any base t v := hval0
  have hW' := hW
  obtain ⟨p, q, hA0, hV, rfl, hfz, hnd⟩ := hW
  have hA : DataW.TrodAll enc Try.prog W 0 (fun _ => true) true Try.f3.params.toList args.toList ds p := hA0
  rw [Try.params3] at hA hval
  obtain ⟨v0, vs0, d0, ds0, p0, q0, hargs, rfl, rfl, h0, r0⟩ := trodAll_cons hA
  obtain ⟨rfl, rfl, rfl⟩ := trodAll_nil r0
  obtain rfl : args = #[v0] := by cases args; simp_all
  obtain ⟨rfl, rfl⟩ := trodVars_none hV
  have k0 := h0
  have lt0 : ∀ x ∈ p0, x.block < W.heap.size := by obtain ⟨m, hm⟩ := k0; exact DataW.trod_lt m _ _ _ hm
  obtain ⟨ao, ln, cb, rfl⟩ := okWide_slice Try.underlying22 (hval 0 22 v0 rfl rfl)
  obtain ⟨fu0, hf0⟩ := h0
  obtain ⟨pb, lb, cb', ecs, eB, mB, _, hB⟩ := Rd.of_trod_cap hf0
  simp [Value.cells] at ecs
  obtain ⟨rfl, rfl, rfl⟩ := ecs
  clear hA0 hval0
  have walk : Calls Try.prog 3 #[.slice ao lb.length cb] W fun e w' => e = .returned (.bool true) ∧ Below W.heap.size W w' := by
    by_cases hl : lb.length ≤ 1048576
    · exact walk_small ao cb lb W eB hB hl
    · exact walk_big ao cb lb W mB (by omega)
  refine walk.mono fun e W' ⟨he, bel⟩ => ?_
  subst he
  exact ⟨_, rfl, _, _, _, [], _, [], hW', trodAll_mk1 (shut_bool Try.underlying4 _), (trodAll_cons_mk (Below.trod laidOut (by kernel_rfl) (of_decide_eq_true (by kernel_rfl)) k0 bel lt0) trodAll_mk0), rfl, bel.frame _, fun h => by cases h⟩

theorem over : Rows.fnExactChecksumRow.holds Try.pinned (OpenSpec.ofChange Rows.fnExactChecksumSpec) :=
  OpenClaim.holds_of_wide 3 Try.f3 rfl rfl rfl rfl rfl rfl rfl ⟨rfl, rfl, rfl, rfl, rfl⟩ rfl rfl rfl rfl rfl (by kernel_rfl) Try.func3 (by kernel_rfl)
    (of_decide_eq_true (by kernel_rfl)) (by unfold Func.isWrapper; first | (rw [if_pos (by decide +kernel)]; kernel_rfl) | (rw [if_neg (by decide +kernel)]; exact ⟨rfl, rfl⟩))
    (fun os started H enc _ => lifted os started H enc)
end ckRow

theorem fnExactChecksum_holds : Rows.FnExactChecksumSaid := ckRow.over
end Go.Proofs.Ytnakmagpgffhlaa
