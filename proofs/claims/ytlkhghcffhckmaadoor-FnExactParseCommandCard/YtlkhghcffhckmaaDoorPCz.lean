import Derived.Test.YtlkhghcffhckmaaDoorPCv
import Derived.Test.YtlkhghcffhckmaaDoorDAv
import Derived.Test.YtlkhghcffhckmaaDoorRows
import Derived.Stop.LaidErr
import Derived.WalkSmall
namespace Go.Proofs.YtlkhghcffhckmaaDoor
open Go.ChangeShapes Go.WideShapes Go.ChangeAt Go.RowKit Go.Deep
set_option linter.unusedVariables false
set_option linter.unusedSimpArgs false
set_option maxRecDepth 100000

set_option maxHeartbeats 400000 in
theorem lawParse_big (p : Option Addr) (c n : Nat) (w : World) (m0 : n ≤ maxLen) (hl : 1048576 < n) :
  Calls Tryd.prog 3 #[.slice p n c] w fun e w' => e = .returned (.bool true) ∧ Below w.heap.size w w' := by
 unfold maxLen at m0
 have hl' : (1048576 : Int) < (n : Int) := by omega
 go_enter Tryd.func3, Tryd.ntmps3
 go_wp2
 go_ret
 exact ⟨rfl, Below.refl _ _⟩
theorem lawParse (p : Option Addr) (c : Nat) (l : List Int) (w : World) (h : Rd w (.slice p l.length c) l) (hb : Byt l) (hm : l.length ≤ maxLen) (hV : ∀ w', Below w.heap.size w w' → Vars w') :
  Calls Tryd.prog 3 #[.slice p l.length c] w fun e w' => e = .returned (.bool true) ∧ Below w.heap.size w w' := by
 by_cases hl : l.length ≤ 1048576
 ·exact lawParse_small p c l.length l (hide rfl) w h (hide hb) hl (hide hV)
 ·exact lawParse_big p c l.length w hm (by omega)

namespace pcRow
theorem star : "*" ++ "errors.errorString" = "*errors.errorString" := by decide
theorem rowE (u : TypeId) (h : Tryd.prog.typeName? 3 u = some "*errors.errorString") : u = 100 :=
 typeName_ptr_named (nm := "errors.errorString") (by rw [star]; kernel_rfl) (by kernel_rfl) (by decide) u (by rw [star]; exact h)
theorem laidV {W : World} (h : laidMetH Tryd.prog Rows.fnExactParseCommandRow.laid W) : Vars W ∧ 4 ≤ W.heap.size := by
 rw [MakeChecks.laidMetH_plain _ _ _ (by kernel_rfl)] at h
 have h3 := h.tail.tail.tail
 obtain ⟨a1, s1, hv1, -⟩ := laid_sentinel (g := 3) (ti := 70) (tp := 100) (te := 102) (ts := 9) h3 (by kernel_rfl) (by kernel_rfl) Tryd.underlying70 rowE Tryd.underlying100 Tryd.underlying102 rfl rfl Tryd.underlying9 (by kernel_rfl) (by kernel_rfl)
 obtain ⟨a2, s2, hv2, -⟩ := laid_sentinel (g := 2) (ti := 70) (tp := 100) (te := 102) (ts := 9) h3.tail (by kernel_rfl) (by kernel_rfl) Tryd.underlying70 rowE Tryd.underlying100 Tryd.underlying102 rfl rfl Tryd.underlying9 (by kernel_rfl) (by kernel_rfl)
 have ht := Lib.tabIs_of_head (g := 0) (t := 61) (e := 5) (n := 256) (k := .u8) (zs := Lib.asciiSpaceTab) (by kernel_rfl) (by kernel_rfl) Tryd.underlying61 Tryd.underlying5 (by kernel_rfl) (by kernel_rfl) (show laidMet Tryd.prog (("strings.asciiSpace", Lib.tabData .u8 Lib.asciiSpaceTab) :: []) W from h3.tail.tail.tail)
 refine ⟨⟨⟨⟨_, _, hv2⟩, ⟨_, _, hv1⟩⟩, ht⟩, ?_⟩
 have := World.var?_cell (g := 3) (by kernel_rfl) hv1 0
 exact World.block_lt_of_cell? W ⟨3, 0, none⟩ this
theorem Vars.bel {W W' : World} (h : Vars W ∧ 4 ≤ W.heap.size) (hb : Below W.heap.size W W') : Vars W' := by
 obtain ⟨⟨⟨⟨t1, q1, h1⟩, ⟨t2, q2, h2⟩⟩, h3⟩, hz⟩ := h
 exact ⟨⟨⟨t1, q1, var?_below (g := 2) hb (by kernel_rfl) (by omega) h1⟩, ⟨t2, q2, var?_below (g := 3) hb (by kernel_rfl) (by omega) h2⟩⟩, var?_below (g := 0) hb (by kernel_rfl) (by omega) h3⟩
theorem lifted (os : Os) (started : os.Started) (H : Type) (enc : TypeId × Value → H) :
  ReturnsInHanded {} Tryd.checked os 3 .any (fun w args => (Rows.fnExactParseCommandSpec.pre enc Tryd.prog Tryd.f3 Rows.fnExactParseCommandRow.domain false w args ∧ laidMetH Tryd.prog Rows.fnExactParseCommandRow.laid w) ∧ sizedMet enc Tryd.prog Tryd.f3 (OpenSpec.ofChange Rows.fnExactParseCommandSpec) false w args)
   (Rows.fnExactParseCommandSpec.post enc Tryd.prog Tryd.f3 false true false false) := by
 refine handed_both (C := Tryd.checked) (X := fun w _ => laidMetH Tryd.prog Rows.fnExactParseCommandRow.laid w) (fun _ _ _ hh h => h.of_heap hh) own started (by kernel_rfl) Tryd.func3
  (ChangeSpec.witness_shaped (enc := enc) (C := Tryd.checked) (os := os) (X := fun w _ => laidMetH Tryd.prog Rows.fnExactParseCommandRow.laid w) false (World.laidAll Tryd.prog os Rows.fnExactParseCommandRow.laid) #[.slice none 0 0] 8 (World.laidAll_os _ _ _)
   (World.shaped_of_ZipB (by kernel_rfl) (by kernel_rfl)) (by kernel_rfl) (by kernel_rfl) (by kernel_rfl)
   (by rw [MakeChecks.laidMetH_plain _ _ _ (by kernel_rfl)]; exact laidMet_laidAll _ (by kernel_rfl) (by kernel_rfl))) ?_
 intro W base args ds gs before hval0 hW hL hsh
 have hval : ∀ (j : Nat) t v, Tryd.f3.params[j]? = some t → args[j]? = some v → Value.okWide Tryd.prog W .any base t v := hval0
 have hW' := hW
 obtain ⟨p, q, hA0, hV0, rfl, hfz, hnd⟩ := hW
 have hA : DataW.TrodAll enc Tryd.prog W 0 (fun _ => true) true Tryd.f3.params.toList args.toList ds p := hA0
 rw [Tryd.params3] at hA hval
 obtain ⟨v0, vs0, d0, ds0, p0, q0, hargs, rfl, rfl, h0, r0⟩ := trodAll_cons hA
 obtain ⟨rfl, rfl, rfl⟩ := trodAll_nil r0
 obtain rfl : args = #[v0] := by cases args; simp_all
 obtain ⟨rfl, rfl⟩ := trodVars_none hV0
 have k0 := h0
 have lt0 : ∀ x ∈ p0, x.block < W.heap.size := by obtain ⟨m, hm⟩ := k0; exact DataW.trod_lt m _ _ _ hm
 obtain ⟨a0, ln0, c0, rfl⟩ := okWide_slice Tryd.underlying22 (hval 0 22 v0 rfl rfl)
 obtain ⟨fu0, hf0⟩ := h0
 obtain ⟨pb0, l0, cb0, ecs0, e0, m0, _, hB0⟩ := Rd.of_trod_cap hf0
 simp [Value.cells] at ecs0
 obtain ⟨rfl, rfl, rfl⟩ := ecs0
 clear hA0 hval0
 refine (lawParse a0 c0 l0 W e0 hB0 m0 (fun w' hw' => Vars.bel (laidV hL) hw')).mono fun r W' ⟨he, bel⟩ => ?_
 subst he
 exact ⟨_, rfl, _, _, _, [], _, [], hW', trodAll_mk1 (shut_bool Tryd.underlying4 _), (trodAll_cons_mk (Below.trod laidOut (by kernel_rfl) (of_decide_eq_true (by kernel_rfl)) k0 bel lt0) trodAll_mk0), rfl, bel.frame _, fun h => by cases h⟩

theorem over : Rows.fnExactParseCommandRow.holds Tryd.pinned (OpenSpec.ofChange Rows.fnExactParseCommandSpec) :=
 OpenClaim.holds_of_wide 3 Tryd.f3 rfl rfl rfl rfl rfl rfl rfl ⟨rfl, rfl, rfl, rfl, rfl⟩ rfl rfl rfl rfl rfl (by kernel_rfl) Tryd.func3 (by kernel_rfl)
  (of_decide_eq_true (by kernel_rfl)) (by unfold Func.isWrapper; first | (rw [if_pos (by decide +kernel)]; kernel_rfl) | (rw [if_neg (by decide +kernel)]; exact ⟨rfl, rfl⟩))
  (fun os started H enc _ => lifted os started H enc)
end pcRow
end Go.Proofs.YtlkhghcffhckmaaDoor
