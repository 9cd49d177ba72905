import Derived.Test.YtekooebndehokaaDoorDOh
namespace Go.Proofs.YtekooebndehokaaDoor
open Go.ChangeShapes Go.WideShapes Go.ChangeAt Go.RowKit Go.Deep
set_option linter.unusedVariables false
set_option linter.unusedSimpArgs false
set_option maxRecDepth 100000

set_option maxHeartbeats 400000 in
theorem lawDec_big (p : Option Addr) (c n : Nat) (w : World) (m0 : n ≤ maxLen) (hl : 1048576 < n) :
    Calls Tryd.prog 5 #[.slice p n c] w fun e w' => e = .returned (.bool true) ∧ Below w.heap.size w w' := by
  unfold maxLen at m0
  have hl' : (1048576 : Int) < (n : Int) := by omega
  go_enter Tryd.func5, Tryd.ntmps5
  go_wp2
  go_ret
  exact ⟨rfl, Below.refl _ _⟩
theorem lawDec (p : Option Addr) (c : Nat) (l : List Int) (w : World) (h : Rd w (.slice p l.length c) l) (hb : Byt l) (hm : l.length ≤ maxLen) (hT : Tab w) :
    Calls Tryd.prog 5 #[.slice p l.length c] w fun e w' => e = .returned (.bool true) ∧ Below w.heap.size w w' := by
  by_cases hl : l.length ≤ 1048576
  · by_cases hd : ∃ K S P F V, Dec l K S P F V
    · obtain ⟨K, S, P, F, V, hd⟩ := hd
      have hp := hd.parts
      exact lawDec_small p c l.length l rfl w h hl K S F 0 P V P.length V.length rfl rfl (by omega) (by omega) (spec_yes rfl hb hl hd) (impl_yes rfl hb hl hT hd)
    · have hno : ∀ K S P F V, ¬ Dec l K S P F V := fun K S P F V h => hd ⟨K, S, P, F, V, h⟩
      exact lawDec_small p c l.length l rfl w h hl 0 0 0 13 [] [] 0 0 rfl rfl (by omega) (by omega) (spec_no rfl hb hl hno) (impl_no rfl hb hl hT hno)
  · exact lawDec_big p c l.length w hm (by omega)

namespace dopRow
theorem lifted (os : Os) (started : os.Started) (H : Type) (enc : TypeId × Value → H) :
    ReturnsInHanded {} Tryd.checked os 5 .any (fun w args => (Rows.fnExactDecodeOpSpec.pre enc Tryd.prog Tryd.f5 Rows.fnExactDecodeOpRow.domain false w args ∧ laidMetH Tryd.prog Rows.fnExactDecodeOpRow.laid w) ∧ sizedMet enc Tryd.prog Tryd.f5 (OpenSpec.ofChange Rows.fnExactDecodeOpSpec) false w args)
      (Rows.fnExactDecodeOpSpec.post enc Tryd.prog Tryd.f5 false true false false) := by
  refine handed_both (C := Tryd.checked) (X := fun w _ => laidMetH Tryd.prog Rows.fnExactDecodeOpRow.laid w) (fun _ _ _ hh h => h.of_heap hh) own started (by kernel_rfl) Tryd.func5
    (ChangeSpec.witness_shaped (enc := enc) (C := Tryd.checked) (os := os) (X := fun w _ => laidMetH Tryd.prog Rows.fnExactDecodeOpRow.laid w) false (World.laidAll Tryd.prog os Rows.fnExactDecodeOpRow.laid) #[.slice none 0 0] 8 (World.laidAll_os _ _ _)
      (World.shaped_of_ZipB (by kernel_rfl) (by kernel_rfl)) (by kernel_rfl) (by kernel_rfl) (by kernel_rfl)
      (by rw [MakeChecks.laidMetH_plain _ _ _ (by kernel_rfl)]; exact laidMet_laidAll _ (by kernel_rfl) (by kernel_rfl))) ?_
  intro W base args ds gs before hval0 hW hL hsh
  have hval : ∀ (j : Nat) t v, Tryd.f5.params[j]? = some t → args[j]? = some v → Value.okWide Tryd.prog W .any base t v := hval0
  have hW' := hW
  obtain ⟨p, q, hA0, hV0, rfl, hfz, hnd⟩ := hW
  have hA : DataW.TrodAll enc Tryd.prog W 0 (fun _ => true) true Tryd.f5.params.toList args.toList ds p := hA0
  have hV : DataW.TrodVars enc Tryd.prog W (fun _ => true) ["loop.example/s02132/impl.forms"] gs q := hV0
  rw [Tryd.params5] at hA hval
  obtain ⟨v0, vs0, d0, ds0, p0, q0, hargs, rfl, rfl, h0, r0⟩ := trodAll_cons hA
  obtain ⟨rfl, rfl, rfl⟩ := trodAll_nil r0
  obtain rfl : args = #[v0] := by cases args; simp_all
  obtain ⟨gg, tt, cs, fuel, dg, pg, rfl, hg, ht, hvar, hd, hq⟩ := trodVars_one hV
  have k0 := h0
  have lt0 : ∀ x ∈ p0, x.block < W.heap.size := by obtain ⟨m, hm⟩ := k0; exact DataW.trod_lt m _ _ _ hm
  obtain ⟨a0, ln0, c0, rfl⟩ := okWide_slice Tryd.underlying22 (hval 0 22 v0 rfl rfl)
  obtain ⟨fu0, hf0⟩ := h0
  obtain ⟨pb0, l0, cb0, ecs0, e0, m0, _, hB0⟩ := Rd.of_trod_cap hf0
  simp [Value.cells] at ecs0
  obtain ⟨rfl, rfl, rfl⟩ := ecs0
  clear hA0 hval0
  have hL' : laidMetH Tryd.prog Rows.fnExactEncodeOpRow.laid W := hL
  refine (lawDec a0 c0 l0 W e0 hB0 m0 (Tab.of_laid hL')).mono fun r W' ⟨he, bel⟩ => ?_
  subst he
  exact ⟨_, rfl, _, _, _, [], _, _, hW', trodAll_mk1 (shut_bool Tryd.underlying4 _), (trodAll_cons_mk (Below.trod laidOut (by kernel_rfl) (of_decide_eq_true (by kernel_rfl)) k0 bel lt0) trodAll_mk0), (Below.trodVars laidOut bel (by kernel_rfl) hV), bel.frame _, fun h => by cases h⟩

theorem over : Rows.fnExactDecodeOpRow.holds Tryd.pinned (OpenSpec.ofChange Rows.fnExactDecodeOpSpec) :=
  OpenClaim.holds_of_wide 5 Tryd.f5 rfl rfl rfl rfl rfl rfl rfl ⟨rfl, rfl, rfl, rfl, rfl⟩ rfl rfl rfl rfl rfl (by kernel_rfl) Tryd.func5 (by kernel_rfl)
    (of_decide_eq_true (by kernel_rfl)) (by unfold Func.isWrapper; first | (rw [if_pos (by decide +kernel)]; kernel_rfl) | (rw [if_neg (by decide +kernel)]; exact ⟨rfl, rfl⟩))
    (fun os started H enc _ => lifted os started H enc)
end dopRow
end Go.Proofs.YtekooebndehokaaDoor
