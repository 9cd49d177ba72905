import Derived.Test.YteljknmkodllkaaLCr
import Derived.Test.YteljknmkodllkaaSCr
import Derived.Test.YteljknmkodllkaaICr
import Derived.Test.YteljknmkodllkaaOp
import Derived.Test.YteljknmkodllkaaAux
import Derived.ShutString
import Derived.ChangeOld
import Derived.Below
namespace Go.Proofs.Yteljknmkodllkaa
open Go.ChangeShapes Go.WideShapes Go.ChangeAt Go.RowKit
set_option linter.unusedVariables false
set_option linter.unusedSimpArgs false

namespace crashRow
theorem own : ownKnob Try.prog.godebug = none := by kernel_rfl
theorem laidOut : laidOutB Try.prog = true := by kernel_rfl

set_option maxHeartbeats 400000 in
theorem walk_big (p0 p1 p2 : Option Addr) (c0 c1 c2 : Nat) (n0 n1 n2 : Int) (l0 l1 l2 : List Int) (f : Int) (w : World) (m0 : l0.length ≤ maxLen) (m1 : l1.length ≤ maxLen) (m2 : l2.length ≤ maxLen)
    (hl : 1048576 < l0.length + l1.length + l2.length) :
    Calls Try.prog 5 #[diskV (.slice p0 l0.length c0) n0 (.slice p1 l1.length c1) n1 (.slice p2 l2.length c2) n2, .int .i64 f] w fun e w' => e = .returned (.bool true) ∧ Below w.heap.size w w' := by
  have b0 : ∀ o : Obj, Below w.heap.size w (w.alloc o) := fun o => (Below.refl _ _).alloc (Nat.le_refl _) _
  go_enter Try.func5, Try.ntmps5
  go_wp2_with fail
  refine (szDisk_no p0 p1 p2 _ c0 _ c1 _ c2 n0 n1 n2 _ m0 m1 m2 hl).mono ?_
  rintro e w1 ⟨rfl, hb1⟩
  have b1 : Below w.heap.size w w1 := (b0 _).trans (hb1.mono (by simp))
  go_wp2
  go_ret
  exact ⟨rfl, b1⟩

theorem walk_small (p0 p1 p2 : Option Addr) (c0 c1 c2 : Nat) (n0 n1 n2 : Int) (l0 l1 l2 : List Int) (f : Int) (w : World) (h0 : Rd w (.slice p0 l0.length c0) l0) (h1 : Rd w (.slice p1 l1.length c1) l1) (h2 : Rd w (.slice p2 l2.length c2) l2)
    (hf1 : f ≤ 9223372036854775807) (hl : l0.length + l1.length + l2.length ≤ 1048576) :
    Calls Try.prog 5 #[diskV (.slice p0 l0.length c0) n0 (.slice p1 l1.length c1) n1 (.slice p2 l2.length c2) n2, .int .i64 f] w fun e w' => e = .returned (.bool true) ∧ Below w.heap.size w w' := by
  cases hd : dok l0.length n0 l1.length n1 l2.length n2
  · exact lawDiskCrash_small p0 p1 p2 c0 c1 c2 n0 n1 n2 l0 l1 l2 f [] [] [] 0 0 0 1 w h0 h1 h2 hl (by first | omega | simp) (by first | omega | simp) (by first | omega | simp) (hide fun q0 q1 q2 d0 d1 d2 w _ _ _ e0 e1 e2 => specCrashBadA q0 q1 q2 d0 d1 d2 n0 n1 n2 l0 l1 l2 f w e0 e1 e2 hd (by omega) (by omega) (by omega)) (hide fun q0 q1 q2 d0 d1 d2 w _ _ _ e0 e1 e2 => implCrashBadA q0 q1 q2 d0 d1 d2 n0 n1 n2 l0 l1 l2 f w e0 e1 e2 hd (by omega) (by omega) (by omega))
  · obtain ⟨⟨t0, t1, t2⟩, ⟨t3, t4, t5⟩, ⟨t6, t7, t8⟩⟩ := dok_out hd
    by_cases hf : f < 0
    · exact lawDiskCrash_small p0 p1 p2 c0 c1 c2 n0 n1 n2 l0 l1 l2 f [] [] [] 0 0 0 1 w h0 h1 h2 hl (by first | omega | simp) (by first | omega | simp) (by first | omega | simp) (hide fun q0 q1 q2 d0 d1 d2 w _ _ _ e0 e1 e2 => specCrashBadB q0 q1 q2 d0 d1 d2 n0 n1 n2 l0 l1 l2 f w e0 e1 e2 hd hf (by omega) (by omega) (by omega)) (hide fun q0 q1 q2 d0 d1 d2 w _ _ _ e0 e1 e2 => implCrashBadB q0 q1 q2 d0 d1 d2 n0 n1 n2 l0 l1 l2 f w e0 e1 e2 hd hf (by omega) (by omega) (by omega))
    · obtain ⟨s0, rfl⟩ := Int.eq_ofNat_of_zero_le t1
      obtain ⟨s1, rfl⟩ := Int.eq_ofNat_of_zero_le t4
      obtain ⟨s2, rfl⟩ := Int.eq_ofNat_of_zero_le t7
      obtain ⟨L0, e0⟩ : ∃ L, L = l0.take (kept l0.length s0 f.toNat) := ⟨_, rfl⟩
      obtain ⟨L1, e1⟩ : ∃ L, L = l1.take (kept l1.length s1 f.toNat) := ⟨_, rfl⟩
      obtain ⟨L2, e2⟩ : ∃ L, L = l2.take (kept l2.length s2 f.toNat) := ⟨_, rfl⟩
      have m0 : L0.length ≤ 1048576 := by rw [e0]; simp; omega
      have m1 : L1.length ≤ 1048576 := by rw [e1]; simp; omega
      have m2 : L2.length ≤ 1048576 := by rw [e2]; simp; omega
      exact lawDiskCrash_small p0 p1 p2 c0 c1 c2 s0 s1 s2 l0 l1 l2 f L0 L1 L2 L0.length L1.length L2.length 0 w h0 h1 h2 hl m0 m1 m2 (hide fun q0 q1 q2 d0 d1 d2 w g0 g1 g2 a0 a1 a2 => specCrash0 q0 q1 q2 d0 d1 d2 s0 s1 s2 l0 l1 l2 f w a0 a1 a2 hd (by omega) hf1 (by omega) (by omega) (by omega) (by omega) (by omega) (by omega) L0 L1 L2 e0 e1 e2) (hide fun q0 q1 q2 d0 d1 d2 w g0 g1 g2 a0 a1 a2 => implCrash0 q0 q1 q2 d0 d1 d2 s0 s1 s2 l0 l1 l2 f w a0 a1 a2 hd (by omega) g0 g1 g2 (by omega) (by omega) (by omega) (by omega) (by omega) (by omega) L0 L1 L2 e0 e1 e2)

set_option maxRecDepth 100000 in
theorem lifted (os : Os) (started : os.Started) (H : Type) (enc : TypeId × Value → H) :
    ReturnsInHanded {} Try.checked os 5 .any (Rows.fnExactDiskCrashSpec.pre6 enc Try.prog Try.f5 Rows.fnExactDiskCrashRow.domain false) (Rows.fnExactDiskCrashSpec.post enc Try.prog Try.f5 false true false false) := by
  refine returnsInHanded_of_change (C := Try.checked) own started (by kernel_rfl) Try.func5
    (ChangeSpec.witness6 (enc := enc) (C := Try.checked) false ⟨#[], #[.agg #[.slice none 0 0, .int .i64 0, .slice none 0 0, .int .i64 0, .slice none 0 0, .int .i64 0], .int .i64 0], []⟩ 8 (by kernel_rfl) (by kernel_rfl) (by kernel_rfl) (by kernel_rfl)) ?_
  intro W base args ds gs before hval0 hW hcnd _
  have hval : ∀ (j : Nat) t v, Try.f5.params[j]? = some t → args[j]? = some v → Value.okWide Try.prog W .any base t v := hval0
  have hW' := hW
  obtain ⟨p, q, hA0, hV, rfl, hfz, hnd⟩ := hW
  have hA : DataW.TrodAll enc Try.prog W 0 (fun _ => true) true Try.f5.params.toList args.toList ds p := hA0
  rw [Try.params5] at hA hval
  obtain ⟨v0, vs0, d0, ds0, p0, q0, hargs, rfl, rfl, h0, r0⟩ := trodAll_cons hA
  obtain ⟨v1, vs1, d1, ds1, p1, q1, rfl, rfl, rfl, h1, r1⟩ := trodAll_cons r0
  obtain ⟨rfl, rfl, rfl⟩ := trodAll_nil r1
  obtain rfl : args = #[v0, v1] := by cases args; simp_all
  obtain ⟨rfl, rfl⟩ := trodVars_none hV
  have k0 := h0
  have lt0 : ∀ x ∈ p0, x.block < W.heap.size := by obtain ⟨m, hm⟩ := k0; exact DataW.trod_lt m _ _ _ hm
  obtain ⟨a0, a1, a2, l0, l1, l2, c0, c1, c2, s0, s1, s2, rfl, e0, e1, e2, m0, m1, m2⟩ := disk_of_trod (hval 0 26 v0 rfl rfl) h0
  obtain ⟨f, rfl, rfl, rfl, wf⟩ := open_int Try.underlying3 (hval 1 3 v1 rfl rfl) h1
  clear hA0 hval0
  have walk : Calls Try.prog 5 #[diskV (.slice a0 l0.length c0) s0 (.slice a1 l1.length c1) s1 (.slice a2 l2.length c2) s2, .int .i64 f] W fun e w' => e = .returned (.bool true) ∧ Below W.heap.size W w' := by
    by_cases hl : l0.length + l1.length + l2.length ≤ 1048576
    · exact walk_small a0 a1 a2 c0 c1 c2 s0 s1 s2 l0 l1 l2 f W e0 e1 e2 (by have := bounds_i64 wf; omega) hl
    · exact walk_big a0 a1 a2 c0 c1 c2 s0 s1 s2 l0 l1 l2 f W m0 m1 m2 (by omega)
  refine walk.mono fun e W' ⟨he, bel⟩ => ?_
  subst he
  exact ⟨_, rfl, _, _, _, [], _, [], hW', trodAll_mk1 (shut_bool Try.underlying4 _), (trodAll_cons_mk (Below.trod laidOut (by kernel_rfl) (of_decide_eq_true (by kernel_rfl)) k0 bel lt0) (trodAll_cons_mk (shut_int Try.underlying3 wf) trodAll_mk0)), rfl, bel.frame _, fun h => by cases h⟩

theorem over : Rows.fnExactDiskCrashRow.holds Try.pinned (OpenSpec.ofChange Rows.fnExactDiskCrashSpec) :=
  OpenClaim.holds_of_wide 5 Try.f5 rfl rfl rfl rfl rfl rfl rfl ⟨rfl, rfl, rfl, rfl, rfl⟩ rfl rfl rfl rfl rfl (by kernel_rfl) Try.func5 (by kernel_rfl)
    (of_decide_eq_true (by kernel_rfl)) (by unfold Func.isWrapper; first | (rw [if_pos (by decide +kernel)]; kernel_rfl) | (rw [if_neg (by decide +kernel)]; exact ⟨rfl, rfl⟩))
    (fun os started H enc _ => lifted os started H enc)
end crashRow

theorem fnExactDiskCrash_holds : Rows.FnExactDiskCrashSaid := crashRow.over
end Go.Proofs.Yteljknmkodllkaa
