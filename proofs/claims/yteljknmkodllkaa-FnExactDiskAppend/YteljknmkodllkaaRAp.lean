import Derived.Test.YteljknmkodllkaaLAp
import Derived.Test.YteljknmkodllkaaSAp
import Derived.Test.YteljknmkodllkaaIAp
import Derived.Test.YteljknmkodllkaaOp
import Derived.Test.YteljknmkodllkaaAux
import Derived.ShutString
import Derived.ChangeOld
import Derived.Below
namespace Go.Proofs.Yteljknmkodllkaa
open Go.ChangeShapes Go.WideShapes Go.ChangeAt Go.RowKit
set_option linter.unusedVariables false
set_option linter.unusedSimpArgs false

namespace appendRow
theorem own : ownKnob Try.prog.godebug = none := by kernel_rfl
theorem laidOut : laidOutB Try.prog = true := by kernel_rfl

set_option maxHeartbeats 400000 in
theorem walk_big (p0 p1 p2 : Option Addr) (c0 c1 c2 : Nat) (n0 n1 n2 : Int) (l0 l1 l2 : List Int) (f : Int) (pb : Option Addr) (lb : List Int) (cb : Nat) (w : World) (m0 : l0.length ≤ maxLen) (m1 : l1.length ≤ maxLen) (m2 : l2.length ≤ maxLen) (hlb : lb.length ≤ 1048576)
    (hl : 1048576 < l0.length + l1.length + l2.length) :
    Calls Try.prog 8 #[diskV (.slice p0 l0.length c0) n0 (.slice p1 l1.length c1) n1 (.slice p2 l2.length c2) n2, .int .i64 f, .slice pb lb.length cb] w fun e w' => e = .returned (.bool true) ∧ Below w.heap.size w w' := by
  have b0 : ∀ o : Obj, Below w.heap.size w (w.alloc o) := fun o => (Below.refl _ _).alloc (Nat.le_refl _) _
  go_enter Try.func8, Try.ntmps8
  go_wp2_with fail
  refine (szDisk_no p0 p1 p2 _ c0 _ c1 _ c2 n0 n1 n2 _ m0 m1 m2 hl).mono ?_
  rintro e w1 ⟨rfl, hb1⟩
  have b1 : Below w.heap.size w w1 := (b0 _).trans (hb1.mono (by simp))
  go_wp2
  go_ret
  exact ⟨rfl, b1⟩

set_option maxHeartbeats 400000 in
theorem walk_long (p0 p1 p2 : Option Addr) (c0 c1 c2 : Nat) (n0 n1 n2 : Int) (l0 l1 l2 : List Int) (f : Int) (pb : Option Addr) (lb : List Int) (cb : Nat) (w : World) (hm : lb.length ≤ maxLen) (hlb : 1048576 < lb.length) :
    Calls Try.prog 8 #[diskV (.slice p0 l0.length c0) n0 (.slice p1 l1.length c1) n1 (.slice p2 l2.length c2) n2, .int .i64 f, .slice pb lb.length cb] w fun e w' => e = .returned (.bool true) ∧ Below w.heap.size w w' := by
  unfold maxLen at hm
  go_enter Try.func8, Try.ntmps8
  go_wp2
  go_ret
  exact ⟨rfl, (Below.refl _ _).alloc (Nat.le_refl _) _⟩

theorem walk_small (p0 p1 p2 : Option Addr) (c0 c1 c2 : Nat) (n0 n1 n2 : Int) (l0 l1 l2 : List Int) (f : Int) (pb : Option Addr) (lb : List Int) (cb : Nat) (w : World) (h0 : Rd w (.slice p0 l0.length c0) l0) (h1 : Rd w (.slice p1 l1.length c1) l1) (h2 : Rd w (.slice p2 l2.length c2) l2)
    (hB : Rd w (.slice pb lb.length cb) lb) (hlb : lb.length ≤ 1048576) (hl : l0.length + l1.length + l2.length ≤ 1048576) :
    Calls Try.prog 8 #[diskV (.slice p0 l0.length c0) n0 (.slice p1 l1.length c1) n1 (.slice p2 l2.length c2) n2, .int .i64 f, .slice pb lb.length cb] w fun e w' => e = .returned (.bool true) ∧ Below w.heap.size w w' := by
  cases hd : dok l0.length n0 l1.length n1 l2.length n2
  · exact lawDiskAppend_small p0 p1 p2 c0 c1 c2 n0 n1 n2 l0 l1 l2 f pb lb cb [] [] [] 0 0 0 1 w h0 h1 h2 hB hlb hl (by first | omega | simp) (by first | omega | simp) (by first | omega | simp) (hide fun q0 q1 q2 d0 d1 d2 qb db w e0 e1 e2 eb => specAppendBad q0 q1 q2 d0 d1 d2 n0 n1 n2 l0 l1 l2 f qb lb db w e0 e1 e2 (by show _ = _; rw [hd]; rfl) (by omega) (by omega) (by omega)) (hide fun q0 q1 q2 d0 d1 d2 qb db w e0 e1 e2 eb => implAppendBadA q0 q1 q2 d0 d1 d2 n0 n1 n2 l0 l1 l2 f qb lb db w e0 e1 e2 hd (by omega) (by omega) (by omega))
  · obtain ⟨s0, s1, s2⟩ := dok_out hd
    cases hf : isF f
    · exact lawDiskAppend_small p0 p1 p2 c0 c1 c2 n0 n1 n2 l0 l1 l2 f pb lb cb [] [] [] 0 0 0 1 w h0 h1 h2 hB hlb hl (by first | omega | simp) (by first | omega | simp) (by first | omega | simp) (hide fun q0 q1 q2 d0 d1 d2 qb db w e0 e1 e2 eb => specAppendBad q0 q1 q2 d0 d1 d2 n0 n1 n2 l0 l1 l2 f qb lb db w e0 e1 e2 (by show _ = _; rw [hd, hf]; rfl) (by omega) (by omega) (by omega)) (hide fun q0 q1 q2 d0 d1 d2 qb db w e0 e1 e2 eb => implAppendBadB q0 q1 q2 d0 d1 d2 n0 n1 n2 l0 l1 l2 f qb lb db w e0 e1 e2 hd hf (by omega) (by omega) (by omega))
    · obtain ⟨ha, hb⟩ := isF_out hf
      have h3 : f = 0 ∨ f = 1 ∨ f = 2 := by omega
      rcases h3 with rfl | rfl | rfl
      · obtain ⟨lm, elm⟩ : ∃ lm, lm = l0 ++ lb := ⟨_, rfl⟩
        have hln : lm.length = l0.length + lb.length := by rw [elm, List.length_append]
        by_cases hr : lb.length + l0.length ≤ 200000
        · exact lawDiskAppend_small p0 p1 p2 c0 c1 c2 n0 n1 n2 l0 l1 l2 0 pb lb cb lm l1 l2 n0 n1 n2 0 w h0 h1 h2 hB hlb hl (by first | omega | simp) (by first | omega | simp) (by first | omega | simp) (hide fun q0 q1 q2 d0 d1 d2 qb db w e0 e1 e2 eb => specAppend0 q0 q1 q2 d0 d1 d2 n0 n1 n2 l0 l1 l2 qb lb lm elm db w e0 e1 e2 eb (by show _ = _; rw [hd, hf]; rfl) hlb (by omega) (by omega) (by omega) (by omega)) (hide fun q0 q1 q2 d0 d1 d2 qb db w e0 e1 e2 eb => implAppend0 q0 q1 q2 d0 d1 d2 n0 n1 n2 l0 l1 l2 qb lb lm elm db w e0 e1 e2 eb hd hlb (by omega) (by show _ = _; simpa using hr) (by omega) (by omega) (by omega))
        · exact lawDiskAppend_small p0 p1 p2 c0 c1 c2 n0 n1 n2 l0 l1 l2 0 pb lb cb l0 l1 l2 n0 n1 n2 11 w h0 h1 h2 hB hlb hl (by first | omega | simp) (by first | omega | simp) (by first | omega | simp) (hide fun q0 q1 q2 d0 d1 d2 qb db w e0 e1 e2 eb => specAppendFull0 q0 q1 q2 d0 d1 d2 n0 n1 n2 l0 l1 l2 qb lb lm elm db w e0 e1 e2 eb (by show _ = _; rw [hd, hf]; rfl) hlb (by omega) (by omega) (by omega) (by omega)) (hide fun q0 q1 q2 d0 d1 d2 qb db w e0 e1 e2 eb => implAppendFull0 q0 q1 q2 d0 d1 d2 n0 n1 n2 l0 l1 l2 qb lb db w e0 e1 e2 hd hlb (by show _ = _; simpa using hr) (by omega) (by omega) (by omega))
      · obtain ⟨lm, elm⟩ : ∃ lm, lm = l1 ++ lb := ⟨_, rfl⟩
        have hln : lm.length = l1.length + lb.length := by rw [elm, List.length_append]
        by_cases hr : lb.length + l1.length ≤ 200000
        · exact lawDiskAppend_small p0 p1 p2 c0 c1 c2 n0 n1 n2 l0 l1 l2 1 pb lb cb l0 lm l2 n0 n1 n2 0 w h0 h1 h2 hB hlb hl (by first | omega | simp) (by first | omega | simp) (by first | omega | simp) (hide fun q0 q1 q2 d0 d1 d2 qb db w e0 e1 e2 eb => specAppend1 q0 q1 q2 d0 d1 d2 n0 n1 n2 l0 l1 l2 qb lb lm elm db w e0 e1 e2 eb (by show _ = _; rw [hd, hf]; rfl) hlb (by omega) (by omega) (by omega) (by omega)) (hide fun q0 q1 q2 d0 d1 d2 qb db w e0 e1 e2 eb => implAppend1 q0 q1 q2 d0 d1 d2 n0 n1 n2 l0 l1 l2 qb lb lm elm db w e0 e1 e2 eb hd hlb (by omega) (by show _ = _; simpa using hr) (by omega) (by omega) (by omega))
        · exact lawDiskAppend_small p0 p1 p2 c0 c1 c2 n0 n1 n2 l0 l1 l2 1 pb lb cb l0 l1 l2 n0 n1 n2 11 w h0 h1 h2 hB hlb hl (by first | omega | simp) (by first | omega | simp) (by first | omega | simp) (hide fun q0 q1 q2 d0 d1 d2 qb db w e0 e1 e2 eb => specAppendFull1 q0 q1 q2 d0 d1 d2 n0 n1 n2 l0 l1 l2 qb lb lm elm db w e0 e1 e2 eb (by show _ = _; rw [hd, hf]; rfl) hlb (by omega) (by omega) (by omega) (by omega)) (hide fun q0 q1 q2 d0 d1 d2 qb db w e0 e1 e2 eb => implAppendFull1 q0 q1 q2 d0 d1 d2 n0 n1 n2 l0 l1 l2 qb lb db w e0 e1 e2 hd hlb (by show _ = _; simpa using hr) (by omega) (by omega) (by omega))
      · obtain ⟨lm, elm⟩ : ∃ lm, lm = l2 ++ lb := ⟨_, rfl⟩
        have hln : lm.length = l2.length + lb.length := by rw [elm, List.length_append]
        by_cases hr : lb.length + l2.length ≤ 200000
        · exact lawDiskAppend_small p0 p1 p2 c0 c1 c2 n0 n1 n2 l0 l1 l2 2 pb lb cb l0 l1 lm n0 n1 n2 0 w h0 h1 h2 hB hlb hl (by first | omega | simp) (by first | omega | simp) (by first | omega | simp) (hide fun q0 q1 q2 d0 d1 d2 qb db w e0 e1 e2 eb => specAppend2 q0 q1 q2 d0 d1 d2 n0 n1 n2 l0 l1 l2 qb lb lm elm db w e0 e1 e2 eb (by show _ = _; rw [hd, hf]; rfl) hlb (by omega) (by omega) (by omega) (by omega)) (hide fun q0 q1 q2 d0 d1 d2 qb db w e0 e1 e2 eb => implAppend2 q0 q1 q2 d0 d1 d2 n0 n1 n2 l0 l1 l2 qb lb lm elm db w e0 e1 e2 eb hd hlb (by omega) (by show _ = _; simpa using hr) (by omega) (by omega) (by omega))
        · exact lawDiskAppend_small p0 p1 p2 c0 c1 c2 n0 n1 n2 l0 l1 l2 2 pb lb cb l0 l1 l2 n0 n1 n2 11 w h0 h1 h2 hB hlb hl (by first | omega | simp) (by first | omega | simp) (by first | omega | simp) (hide fun q0 q1 q2 d0 d1 d2 qb db w e0 e1 e2 eb => specAppendFull2 q0 q1 q2 d0 d1 d2 n0 n1 n2 l0 l1 l2 qb lb lm elm db w e0 e1 e2 eb (by show _ = _; rw [hd, hf]; rfl) hlb (by omega) (by omega) (by omega) (by omega)) (hide fun q0 q1 q2 d0 d1 d2 qb db w e0 e1 e2 eb => implAppendFull2 q0 q1 q2 d0 d1 d2 n0 n1 n2 l0 l1 l2 qb lb db w e0 e1 e2 hd hlb (by show _ = _; simpa using hr) (by omega) (by omega) (by omega))

set_option maxRecDepth 100000 in
theorem lifted (os : Os) (started : os.Started) (H : Type) (enc : TypeId × Value → H) :
    ReturnsInHanded {} Try.checked os 8 .any (Rows.fnExactDiskAppendSpec.pre6 enc Try.prog Try.f8 Rows.fnExactDiskAppendRow.domain false) (Rows.fnExactDiskAppendSpec.post enc Try.prog Try.f8 false true false false) := by
  refine returnsInHanded_of_change (C := Try.checked) own started (by kernel_rfl) Try.func8
    (ChangeSpec.witness6 (enc := enc) (C := Try.checked) false ⟨#[], #[.agg #[.slice none 0 0, .int .i64 0, .slice none 0 0, .int .i64 0, .slice none 0 0, .int .i64 0], .int .i64 0, .slice none 0 0], []⟩ 8 (by kernel_rfl) (by kernel_rfl) (by kernel_rfl) (by kernel_rfl)) ?_
  intro W base args ds gs before hval0 hW hcnd _
  have hval : ∀ (j : Nat) t v, Try.f8.params[j]? = some t → args[j]? = some v → Value.okWide Try.prog W .any base t v := hval0
  have hW' := hW
  obtain ⟨p, q, hA0, hV, rfl, hfz, hnd⟩ := hW
  have hA : DataW.TrodAll enc Try.prog W 0 (fun _ => true) true Try.f8.params.toList args.toList ds p := hA0
  rw [Try.params8] at hA hval
  obtain ⟨v0, vs0, d0, ds0, p0, q0, hargs, rfl, rfl, h0, r0⟩ := trodAll_cons hA
  obtain ⟨v1, vs1, d1, ds1, p1, q1, rfl, rfl, rfl, h1, r1⟩ := trodAll_cons r0
  obtain ⟨v2, vs2, d2, ds2, p2, q2, rfl, rfl, rfl, h2, r2⟩ := trodAll_cons r1
  obtain ⟨rfl, rfl, rfl⟩ := trodAll_nil r2
  obtain rfl : args = #[v0, v1, v2] := by cases args; simp_all
  obtain ⟨rfl, rfl⟩ := trodVars_none hV
  have k0 := h0
  have lt0 : ∀ x ∈ p0, x.block < W.heap.size := by obtain ⟨m, hm⟩ := k0; exact DataW.trod_lt m _ _ _ hm
  obtain ⟨a0, a1, a2, l0, l1, l2, c0, c1, c2, s0, s1, s2, rfl, e0, e1, e2, m0, m1, m2⟩ := disk_of_trod (hval 0 26 v0 rfl rfl) h0
  obtain ⟨f, rfl, rfl, rfl, wf⟩ := open_int Try.underlying3 (hval 1 3 v1 rfl rfl) h1
  obtain ⟨ao, ln, cb, rfl⟩ := okWide_slice Try.underlying22 (hval 2 22 v2 rfl rfl)
  have k2 := h2
  have lt2 : ∀ x ∈ p2, x.block < W.heap.size := by obtain ⟨m, hm⟩ := k2; exact DataW.trod_lt m _ _ _ hm
  obtain ⟨fu2, hf2⟩ := h2
  obtain ⟨pb, lb, cb', ecs, eB, mB, _⟩ := Rd.of_trod hf2
  simp [Value.cells] at ecs
  obtain ⟨rfl, rfl, rfl⟩ := ecs
  clear hA0 hval0
  have walk : Calls Try.prog 8 #[diskV (.slice a0 l0.length c0) s0 (.slice a1 l1.length c1) s1 (.slice a2 l2.length c2) s2, .int .i64 f, .slice ao lb.length cb] W fun e w' => e = .returned (.bool true) ∧ Below W.heap.size W w' := by
    by_cases hlb : lb.length ≤ 1048576
    · by_cases hl : l0.length + l1.length + l2.length ≤ 1048576
      · exact walk_small a0 a1 a2 c0 c1 c2 s0 s1 s2 l0 l1 l2 f ao lb cb W e0 e1 e2 eB hlb hl
      · exact walk_big a0 a1 a2 c0 c1 c2 s0 s1 s2 l0 l1 l2 f ao lb cb W m0 m1 m2 hlb (by omega)
    · exact walk_long a0 a1 a2 c0 c1 c2 s0 s1 s2 l0 l1 l2 f ao lb cb W mB (by omega)
  refine walk.mono fun e W' ⟨he, bel⟩ => ?_
  subst he
  exact ⟨_, rfl, _, _, _, [], _, [], hW', trodAll_mk1 (shut_bool Try.underlying4 _), (trodAll_cons_mk (Below.trod laidOut (by kernel_rfl) (of_decide_eq_true (by kernel_rfl)) k0 bel lt0) (trodAll_cons_mk (shut_int Try.underlying3 wf) (trodAll_cons_mk (Below.trod laidOut (by kernel_rfl) (of_decide_eq_true (by kernel_rfl)) k2 bel lt2) trodAll_mk0))), rfl, bel.frame _, fun h => by cases h⟩

theorem over : Rows.fnExactDiskAppendRow.holds Try.pinned (OpenSpec.ofChange Rows.fnExactDiskAppendSpec) :=
  OpenClaim.holds_of_wide 8 Try.f8 rfl rfl rfl rfl rfl rfl rfl ⟨rfl, rfl, rfl, rfl, rfl⟩ rfl rfl rfl rfl rfl (by kernel_rfl) Try.func8 (by kernel_rfl)
    (of_decide_eq_true (by kernel_rfl)) (by unfold Func.isWrapper; first | (rw [if_pos (by decide +kernel)]; kernel_rfl) | (rw [if_neg (by decide +kernel)]; exact ⟨rfl, rfl⟩))
    (fun os started H enc _ => lifted os started H enc)
end appendRow

theorem fnExactDiskAppend_holds : Rows.FnExactDiskAppendSaid := appendRow.over
end Go.Proofs.Yteljknmkodllkaa
