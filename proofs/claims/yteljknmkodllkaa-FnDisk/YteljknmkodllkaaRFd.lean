import Derived.Test.YteljknmkodllkaaFM0
import Derived.Test.YteljknmkodllkaaFM1
import Derived.Test.YteljknmkodllkaaFM2
import Derived.ShutString
import Derived.ChangeOld
import Derived.Below
namespace Go.Proofs.Yteljknmkodllkaa
open Go.ChangeShapes Go.WideShapes Go.ChangeAt Go.RowKit
set_option linter.unusedVariables false
set_option linter.unusedSimpArgs false

namespace fnDiskRow
theorem own : ownKnob Try.prog.godebug = none := by kernel_rfl
theorem laidOut : laidOutB Try.prog = true := by kernel_rfl

set_option maxHeartbeats 400000 in
set_option maxRecDepth 100000 in
theorem walk_long1 (pc pm : Option Addr) (cc cm : Nat) (code more : List Int) (w : World) (h1 : code.length ≤ maxLen) (h2 : 1048576 < code.length) :
    Calls Try.prog 4 #[.slice pc code.length cc, .slice pm more.length cm] w fun e w' => e = .returned (.bool true) ∧ Below w.heap.size w w' := by
  unfold maxLen at h1
  go_enter Try.func4, Try.ntmps4
  go_wp2
  go_ret
  exact ⟨rfl, Below.refl _ _⟩

set_option maxHeartbeats 400000 in
set_option maxRecDepth 100000 in
theorem walk_long2 (pc pm : Option Addr) (cc cm : Nat) (code more : List Int) (w : World) (h0 : code.length ≤ 1048576) (h1 : more.length ≤ maxLen) (h2 : 1048576 < more.length) :
    Calls Try.prog 4 #[.slice pc code.length cc, .slice pm more.length cm] w fun e w' => e = .returned (.bool true) ∧ Below w.heap.size w w' := by
  unfold maxLen at h1
  have hc1 : ¬ (1048576 : Int) < (code.length : Int) := by omega
  have hc1' : decide ((1048576 : Int) < (code.length : Int)) = false := by simp; omega
  go_enter Try.func4, Try.ntmps4
  go_wp2
  go_ret
  exact ⟨rfl, Below.refl _ _⟩

set_option maxHeartbeats 2000000 in
set_option maxRecDepth 100000 in
theorem walk_bad (pc pm : Option Addr) (cc cm : Nat) (code more b l0 l1 l2 : List Int) (n0 n1 n2 f : Int) (w : World) (hRc : Rd w (.slice pc code.length cc) code) (hcc : code.length ≤ cc) (hcl : code.length ≤ 1048576) (hml : more.length ≤ 1048576)
    (m0 : l0.length ≤ 200001) (m1 : l1.length ≤ 200001) (m2 : l2.length ≤ 200001) (HD : Hid (DA code l0 l1 l2 n0 n1 n2 f b)) (hbad : Hid ((dok l0.length n0 l1.length n1 l2.length n2 && isF f) = false)) :
    Calls Try.prog 4 #[.slice pc code.length cc, .slice pm more.length cm] w fun e w' => e = .returned (.bool true) ∧ Below w.heap.size w w' := by
  have ba : ∀ (x : World) (o : Obj), Below x.heap.size x (x.alloc o) := fun x o => (Below.refl _ _).alloc (Nat.le_refl _) _
  have hc1 : ¬ (1048576 : Int) < (code.length : Int) := by omega
  have hc2 : ¬ (1048576 : Int) < (more.length : Int) := by omega
  have hc1' : decide ((1048576 : Int) < (code.length : Int)) = false := by simp; omega
  cases hd : dok l0.length n0 l1.length n1 l2.length n2
  · have HDK := hide hd
    clear hd
    go_enter Try.func4, Try.ntmps4
    go_wp2_with fail
    refine (unhide HD pc cc _ hcc hRc).mono ?_
    rintro e w1 ⟨q0, d0, q1, d1, q2, d2, pb, cb, rfl, r0, r1, r2, rb, b1⟩
    go_wp2_with fail
    refine (specValid_any q0 q1 q2 _ d0 _ d1 _ d2 n0 n1 n2 _ (by omega) (by omega) (by omega)).mono ?_
    rintro e w2 ⟨rfl, hb2⟩
    rw [unhide HDK]
    have b2 := Below.step b1 (Below.step (ba _ _) hb2)
    clear hb2 r0 r1 r2 rb b1
    go_wp2
    go_ret
    exact ⟨rfl, b2⟩
  · have hf : ¬ (0 ≤ f ∧ f < 3) := by
      intro h
      have := unhide hbad
      rw [hd, isF_yes h.1 h.2] at this
      simp at this
    have HDK := hide hd
    clear hd hbad
    by_cases h0 : f < 0
    · go_enter Try.func4, Try.ntmps4
      go_wp2_with fail
      refine (unhide HD pc cc _ hcc hRc).mono ?_
      rintro e w1 ⟨q0, d0, q1, d1, q2, d2, pb, cb, rfl, r0, r1, r2, rb, b1⟩
      go_wp2_with fail
      refine (specValid_any q0 q1 q2 _ d0 _ d1 _ d2 n0 n1 n2 _ (by omega) (by omega) (by omega)).mono ?_
      rintro e w2 ⟨rfl, hb2⟩
      rw [unhide HDK]
      have b2 := Below.step b1 (Below.step (ba _ _) hb2)
      clear hb2 r0 r1 r2 rb b1 hf
      go_wp2
      go_ret
      exact ⟨rfl, b2⟩
    · have h1 : (2 : Int) < f := by omega
      have h0' : decide (f < 0) = false := by simp; omega
      go_enter Try.func4, Try.ntmps4
      go_wp2_with fail
      refine (unhide HD pc cc _ hcc hRc).mono ?_
      rintro e w1 ⟨q0, d0, q1, d1, q2, d2, pb, cb, rfl, r0, r1, r2, rb, b1⟩
      go_wp2_with fail
      refine (specValid_any q0 q1 q2 _ d0 _ d1 _ d2 n0 n1 n2 _ (by omega) (by omega) (by omega)).mono ?_
      rintro e w2 ⟨rfl, hb2⟩
      rw [unhide HDK]
      have b2 := Below.step b1 (Below.step (ba _ _) hb2)
      clear hb2 r0 r1 r2 rb b1 hf
      go_wp2
      go_ret
      exact ⟨rfl, b2⟩

set_option maxHeartbeats 4000000 in
set_option maxRecDepth 100000 in
theorem walk_full0 (pc pm : Option Addr) (cc cm : Nat) (code more b l0 l1 l2 : List Int) (n0 n1 n2 : Int) (w : World) (hRc : Rd w (.slice pc code.length cc) code) (hcc : code.length ≤ cc) (hcl : code.length ≤ 1048576) (hml : more.length ≤ 1048576)
    (m0 : l0.length ≤ 200001) (m1 : l1.length ≤ 200001) (m2 : l2.length ≤ 200001) (mb : b.length ≤ 13) (HD : Hid (DA code l0 l1 l2 n0 n1 n2 0 b)) (hd : Hid (dok l0.length n0 l1.length n1 l2.length n2 = true)) (hfit : 200000 < l0.length + 2 * b.length + 1) :
    Calls Try.prog 4 #[.slice pc code.length cc, .slice pm more.length cm] w fun e w' => e = .returned (.bool true) ∧ Below w.heap.size w w' := by
  have ba : ∀ (x : World) (o : Obj), Below x.heap.size x (x.alloc o) := fun x o => (Below.refl _ _).alloc (Nat.le_refl _) _
  have hc1 : ¬ (1048576 : Int) < (code.length : Int) := by omega
  have hc2 : ¬ (1048576 : Int) < (more.length : Int) := by omega
  have hc1' : decide ((1048576 : Int) < (code.length : Int)) = false := by simp; omega
  have hiF : (200000 : Int) < (l0.length : Int) + 2 * (b.length : Int) + 1 := by omega
  clear hfit
  go_enter Try.func4, Try.ntmps4
  go_wp2_with fail
  refine (unhide HD pc cc _ hcc hRc).mono ?_
  rintro e w1 ⟨q0, d0, q1, d1, q2, d2, pb, cb, rfl, r0, r1, r2, rb, b1⟩
  go_wp2_with fail
  refine (specValid_any q0 q1 q2 _ d0 _ d1 _ d2 n0 n1 n2 _ (by omega) (by omega) (by omega)).mono ?_
  rintro e w2 ⟨rfl, hb2⟩
  rw [unhide hd]
  have D2 : At6 w2 w1.heap.size (.slice q0 l0.length d0) (.int .i64 n0) (.slice q1 l1.length d1) (.int .i64 n1) (.slice q2 l2.length d2) (.int .i64 n2) := At6.below (by simp [At6]) hb2
  have b2 := Below.step b1 (Below.step (ba _ _) hb2)
  obtain ⟨ka, kb, kc, kd, ke, kf⟩ := D2
  clear hb2 r0 r1 r2 rb b1
  go_upto_region 11 with fail
  iterate 22 go_step
  generalize (l0.length : Int) + 2 * (b.length : Int) + 1 = zz at hiF ⊢
  go_wp2
  go_ret
  exact ⟨rfl, b2⟩

set_option maxHeartbeats 4000000 in
set_option maxRecDepth 100000 in
theorem walk_full1 (pc pm : Option Addr) (cc cm : Nat) (code more b l0 l1 l2 : List Int) (n0 n1 n2 : Int) (w : World) (hRc : Rd w (.slice pc code.length cc) code) (hcc : code.length ≤ cc) (hcl : code.length ≤ 1048576) (hml : more.length ≤ 1048576)
    (m0 : l0.length ≤ 200001) (m1 : l1.length ≤ 200001) (m2 : l2.length ≤ 200001) (mb : b.length ≤ 13) (HD : Hid (DA code l0 l1 l2 n0 n1 n2 1 b)) (hd : Hid (dok l0.length n0 l1.length n1 l2.length n2 = true)) (hfit : 200000 < l1.length + 2 * b.length + 1) :
    Calls Try.prog 4 #[.slice pc code.length cc, .slice pm more.length cm] w fun e w' => e = .returned (.bool true) ∧ Below w.heap.size w w' := by
  have ba : ∀ (x : World) (o : Obj), Below x.heap.size x (x.alloc o) := fun x o => (Below.refl _ _).alloc (Nat.le_refl _) _
  have hc1 : ¬ (1048576 : Int) < (code.length : Int) := by omega
  have hc2 : ¬ (1048576 : Int) < (more.length : Int) := by omega
  have hc1' : decide ((1048576 : Int) < (code.length : Int)) = false := by simp; omega
  have hiF : (200000 : Int) < (l1.length : Int) + 2 * (b.length : Int) + 1 := by omega
  clear hfit
  go_enter Try.func4, Try.ntmps4
  go_wp2_with fail
  refine (unhide HD pc cc _ hcc hRc).mono ?_
  rintro e w1 ⟨q0, d0, q1, d1, q2, d2, pb, cb, rfl, r0, r1, r2, rb, b1⟩
  go_wp2_with fail
  refine (specValid_any q0 q1 q2 _ d0 _ d1 _ d2 n0 n1 n2 _ (by omega) (by omega) (by omega)).mono ?_
  rintro e w2 ⟨rfl, hb2⟩
  rw [unhide hd]
  have D2 : At6 w2 w1.heap.size (.slice q0 l0.length d0) (.int .i64 n0) (.slice q1 l1.length d1) (.int .i64 n1) (.slice q2 l2.length d2) (.int .i64 n2) := At6.below (by simp [At6]) hb2
  have b2 := Below.step b1 (Below.step (ba _ _) hb2)
  obtain ⟨ka, kb, kc, kd, ke, kf⟩ := D2
  clear hb2 r0 r1 r2 rb b1
  go_upto_region 11 with fail
  iterate 22 go_step
  generalize (l1.length : Int) + 2 * (b.length : Int) + 1 = zz at hiF ⊢
  go_wp2
  go_ret
  exact ⟨rfl, b2⟩

set_option maxHeartbeats 4000000 in
set_option maxRecDepth 100000 in
theorem walk_full2 (pc pm : Option Addr) (cc cm : Nat) (code more b l0 l1 l2 : List Int) (n0 n1 n2 : Int) (w : World) (hRc : Rd w (.slice pc code.length cc) code) (hcc : code.length ≤ cc) (hcl : code.length ≤ 1048576) (hml : more.length ≤ 1048576)
    (m0 : l0.length ≤ 200001) (m1 : l1.length ≤ 200001) (m2 : l2.length ≤ 200001) (mb : b.length ≤ 13) (HD : Hid (DA code l0 l1 l2 n0 n1 n2 2 b)) (hd : Hid (dok l0.length n0 l1.length n1 l2.length n2 = true)) (hfit : 200000 < l2.length + 2 * b.length + 1) :
    Calls Try.prog 4 #[.slice pc code.length cc, .slice pm more.length cm] w fun e w' => e = .returned (.bool true) ∧ Below w.heap.size w w' := by
  have ba : ∀ (x : World) (o : Obj), Below x.heap.size x (x.alloc o) := fun x o => (Below.refl _ _).alloc (Nat.le_refl _) _
  have hc1 : ¬ (1048576 : Int) < (code.length : Int) := by omega
  have hc2 : ¬ (1048576 : Int) < (more.length : Int) := by omega
  have hc1' : decide ((1048576 : Int) < (code.length : Int)) = false := by simp; omega
  have hiF : (200000 : Int) < (l2.length : Int) + 2 * (b.length : Int) + 1 := by omega
  clear hfit
  go_enter Try.func4, Try.ntmps4
  go_wp2_with fail
  refine (unhide HD pc cc _ hcc hRc).mono ?_
  rintro e w1 ⟨q0, d0, q1, d1, q2, d2, pb, cb, rfl, r0, r1, r2, rb, b1⟩
  go_wp2_with fail
  refine (specValid_any q0 q1 q2 _ d0 _ d1 _ d2 n0 n1 n2 _ (by omega) (by omega) (by omega)).mono ?_
  rintro e w2 ⟨rfl, hb2⟩
  rw [unhide hd]
  have D2 : At6 w2 w1.heap.size (.slice q0 l0.length d0) (.int .i64 n0) (.slice q1 l1.length d1) (.int .i64 n1) (.slice q2 l2.length d2) (.int .i64 n2) := At6.below (by simp [At6]) hb2
  have b2 := Below.step b1 (Below.step (ba _ _) hb2)
  obtain ⟨ka, kb, kc, kd, ke, kf⟩ := D2
  clear hb2 r0 r1 r2 rb b1
  go_upto_region 11 with fail
  iterate 22 go_step
  generalize (l2.length : Int) + 2 * (b.length : Int) + 1 = zz at hiF ⊢
  go_wp2
  go_ret
  exact ⟨rfl, b2⟩

theorem walk_small (pc pm : Option Addr) (cc cm : Nat) (code more : List Int) (w : World) (hRc : Rd w (.slice pc code.length cc) code) (hRm : Rd w (.slice pm more.length cm) more) (hcc : code.length ≤ cc) (hcl : code.length ≤ 1048576) (hml : more.length ≤ 1048576) (hcb : ∀ z ∈ code, 0 ≤ z ∧ z < 256) (hmb : ∀ z ∈ more, 0 ≤ z ∧ z < 256) :
    Calls Try.prog 4 #[.slice pc code.length cc, .slice pm more.length cm] w fun e w' => e = .returned (.bool true) ∧ Below w.heap.size w w' := by
  obtain ⟨l0, l1, l2, n0, n1, n2, f, b, m0, m1, m2, mb, HD⟩ := drawAppend_det code hcl hcb
  cases hok : (dok l0.length n0 l1.length n1 l2.length n2 && isF f)
  · exact walk_bad pc pm cc cm code more b l0 l1 l2 n0 n1 n2 f w hRc hcc hcl hml m0 m1 m2 HD hok
  · simp only [Bool.and_eq_true] at hok
    obtain ⟨hd, hf⟩ := hok
    obtain ⟨⟨t0, t1, t2⟩, ⟨t3, t4, t5⟩, ⟨t6, t7, t8⟩⟩ := dok_out hd
    obtain ⟨ha, hb⟩ := isF_out hf
    obtain ⟨s0, rfl⟩ := Int.eq_ofNat_of_zero_le t1
    obtain ⟨s1, rfl⟩ := Int.eq_ofNat_of_zero_le t4
    obtain ⟨s2, rfl⟩ := Int.eq_ofNat_of_zero_le t7
    have h3 : f = 0 ∨ f = 1 ∨ f = 2 := by omega
    rcases h3 with rfl | rfl | rfl
    · by_cases hfit : l0.length + 2 * b.length + 1 ≤ 200000
      · exact fnDisk_main0 pc pm cc cm code more b l0 l1 l2 _ _ s0 s1 s2 w hRc hRm hcc hcl hml hmb HD hd t0 t3 t6 (by omega) (by omega) (by omega) mb hfit rfl rfl
      · exact walk_full0 pc pm cc cm code more b l0 l1 l2 s0 s1 s2 w hRc hcc hcl hml m0 m1 m2 mb HD hd (by omega)
    · by_cases hfit : l1.length + 2 * b.length + 1 ≤ 200000
      · exact fnDisk_main1 pc pm cc cm code more b l0 l1 l2 _ _ s0 s1 s2 w hRc hRm hcc hcl hml hmb HD hd t0 t3 t6 (by omega) (by omega) (by omega) mb hfit rfl rfl
      · exact walk_full1 pc pm cc cm code more b l0 l1 l2 s0 s1 s2 w hRc hcc hcl hml m0 m1 m2 mb HD hd (by omega)
    · by_cases hfit : l2.length + 2 * b.length + 1 ≤ 200000
      · exact fnDisk_main2 pc pm cc cm code more b l0 l1 l2 _ _ s0 s1 s2 w hRc hRm hcc hcl hml hmb HD hd t0 t3 t6 (by omega) (by omega) (by omega) mb hfit rfl rfl
      · exact walk_full2 pc pm cc cm code more b l0 l1 l2 s0 s1 s2 w hRc hcc hcl hml m0 m1 m2 mb HD hd (by omega)

set_option maxRecDepth 100000 in
theorem lifted (os : Os) (started : os.Started) (H : Type) (enc : TypeId × Value → H) :
    ReturnsInHanded {} Try.checked os 4 .any (Rows.fnDiskSpec.pre6 enc Try.prog Try.f4 Rows.fnDiskRow.domain false) (Rows.fnDiskSpec.post enc Try.prog Try.f4 false true false false) := by
  refine returnsInHanded_of_change (C := Try.checked) own started (by kernel_rfl) Try.func4
    (ChangeSpec.witness6 (enc := enc) (C := Try.checked) false ⟨#[], #[.slice none 0 0, .slice none 0 0], []⟩ 8 (by kernel_rfl) (by kernel_rfl) (by kernel_rfl) (by kernel_rfl)) ?_
  intro W base args ds gs before hval0 hW hcnd _
  have hval : ∀ (j : Nat) t v, Try.f4.params[j]? = some t → args[j]? = some v → Value.okWide Try.prog W .any base t v := hval0
  have hW' := hW
  obtain ⟨p, q, hA0, hV, rfl, hfz, hnd⟩ := hW
  have hA : DataW.TrodAll enc Try.prog W 0 (fun _ => true) true Try.f4.params.toList args.toList ds p := hA0
  rw [Try.params4] at hA hval
  obtain ⟨v0, vs0, d0, ds0, p0, q0, hargs, rfl, rfl, h0, r0⟩ := trodAll_cons hA
  obtain ⟨v1, vs1, d1, ds1, p1, q1, rfl, rfl, rfl, h1, r1⟩ := trodAll_cons r0
  obtain ⟨rfl, rfl, rfl⟩ := trodAll_nil r1
  obtain rfl : args = #[v0, v1] := by cases args; simp_all
  obtain ⟨rfl, rfl⟩ := trodVars_none hV
  obtain ⟨ao, ln, cc, rfl⟩ := okWide_slice Try.underlying22 (hval 0 22 v0 rfl rfl)
  obtain ⟨bo, lm, cm, rfl⟩ := okWide_slice Try.underlying22 (hval 1 22 v1 rfl rfl)
  have k0 := h0
  have k1 := h1
  have lt0 : ∀ x ∈ p0, x.block < W.heap.size := by obtain ⟨m, hm⟩ := k0; exact DataW.trod_lt m _ _ _ hm
  have lt1 : ∀ x ∈ p1, x.block < W.heap.size := by obtain ⟨m, hm⟩ := k1; exact DataW.trod_lt m _ _ _ hm
  obtain ⟨fu0, hf0⟩ := h0
  obtain ⟨fu1, hf1⟩ := h1
  obtain ⟨pc, code, cc', ecs, eC, mC, capC, bC⟩ := Rd.of_trod_cap hf0
  simp [Value.cells] at ecs
  obtain ⟨rfl, rfl, rfl⟩ := ecs
  obtain ⟨pm, more, cm', ecs, eM, mM, capM, bM⟩ := Rd.of_trod_cap hf1
  simp [Value.cells] at ecs
  obtain ⟨rfl, rfl, rfl⟩ := ecs
  clear hA0 hval0
  have walk : Calls Try.prog 4 #[.slice ao code.length cc, .slice bo more.length cm] W fun e w' => e = .returned (.bool true) ∧ Below W.heap.size W w' := by
    by_cases hc : code.length ≤ 1048576
    · by_cases hm : more.length ≤ 1048576
      · exact walk_small ao bo cc cm code more W eC eM capC hc hm bC bM
      · exact walk_long2 ao bo cc cm code more W hc mM (by omega)
    · exact walk_long1 ao bo cc cm code more W mC (by omega)
  refine walk.mono fun e W' ⟨he, bel⟩ => ?_
  subst he
  exact ⟨_, rfl, _, _, _, [], _, [], hW', trodAll_mk1 (shut_bool Try.underlying4 _), (trodAll_cons_mk (Below.trod laidOut (by kernel_rfl) (of_decide_eq_true (by kernel_rfl)) k0 bel lt0) (trodAll_cons_mk (Below.trod laidOut (by kernel_rfl) (of_decide_eq_true (by kernel_rfl)) k1 bel lt1) trodAll_mk0)), rfl, bel.frame _, fun h => by cases h⟩

theorem over : Rows.fnDiskRow.holds Try.pinned (OpenSpec.ofChange Rows.fnDiskSpec) :=
  OpenClaim.holds_of_wide 4 Try.f4 rfl rfl rfl rfl rfl rfl rfl ⟨rfl, rfl, rfl, rfl, rfl⟩ rfl rfl rfl rfl rfl (by kernel_rfl) Try.func4 (by kernel_rfl)
    (of_decide_eq_true (by kernel_rfl)) (by unfold Func.isWrapper; first | (rw [if_pos (by decide +kernel)]; kernel_rfl) | (rw [if_neg (by decide +kernel)]; exact ⟨rfl, rfl⟩))
    (fun os started H enc _ => lifted os started H enc)
end fnDiskRow

theorem fnDisk_holds : Rows.FnDiskSaid := fnDiskRow.over
end Go.Proofs.Yteljknmkodllkaa
