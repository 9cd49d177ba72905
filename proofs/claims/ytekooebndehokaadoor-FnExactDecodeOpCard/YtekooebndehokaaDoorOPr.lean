import Derived.Test.YtekooebndehokaaDoorOPs
import Derived.Test.YtekooebndehokaaDoorOPl
import Derived.Test.YtekooebndehokaaDoorOPq
namespace Go.Proofs.YtekooebndehokaaDoor
open Go.ChangeShapes Go.WideShapes Go.ChangeAt Go.RowKit Go.Deep
set_option linter.unusedVariables false
set_option linter.unusedSimpArgs false
set_option maxRecDepth 100000

/-- the whole table in memory -/
def Tab (w : World) : Prop := ∀ k : Nat, 1 ≤ k → k ≤ 13 → RowAt w 0 (k * 7) (rowOf k).1 (rowOf k).2.1 (rowOf k).2.2.1 (rowOf k).2.2.2.1 (rowOf k).2.2.2.2.1 (rowOf k).2.2.2.2.2.1 (rowOf k).2.2.2.2.2.2
theorem Tab.of_laid {W : World} (h : laidMetH Tryd.prog Rows.fnExactEncodeOpRow.laid W) : Tab W := by
  intro k h1 h2
  rcases kinds h1 h2 with rfl | rfl | rfl | rfl | rfl | rfl | rfl | rfl | rfl | rfl | rfl | rfl | rfl <;> exact forms_row h _ (by omega) _ _ _ _ _ _ _ (fun ds hds => by
    have e := DataW.agg.inj hds
    rw [← e]
    rfl)

set_option maxHeartbeats 400000 in
theorem lawEncOp_big (k s f e g : Int) (p q : Option Addr) (n m c d : Nat) (w : World) (hn : n ≤ maxLen) (hm : m ≤ maxLen) (hl : 1048576 < n + m) :
    Calls Tryd.prog 4 #[opV k s (.slice p n c) f (.slice q m d) e g] w fun e w' => e = .returned (.bool true) ∧ Below w.heap.size w w' := by
  go_enter Tryd.func4, Tryd.ntmps4
  go_wp2_with fail
  refine (szOp_big k s f e g p q n m c d _ hn hm hl).mono ?_
  rintro r w0 ⟨rfl, hb0⟩
  have b0 := Below.step ((Below.refl w.heap.size w).alloc (Nat.le_refl _) _) hb0
  clear hb0
  go_wp2
  go_ret
  exact ⟨rfl, b0⟩

theorem encNil {F : Nat} {w : World} {k s f e g : Int} {n m : Nat} {P V : List Int} (h : ∀ (q1 q2 : Option Addr) (d1 d2 : Nat) (w' : World), Below w.heap.size w w' → Calls Tryd.prog F #[opV k s (.slice q1 n d1) f (.slice q2 m d2) e g] w' fun r w'' => r = .returned (.slice none 0 0) ∧ Below w'.heap.size w' w'') : EncRes F w k s f e g n m 0 P V [] :=
  fun q1 q2 d1 d2 w' hb _ _ => (h q1 q2 d1 d2 w' hb).mono (by rintro r w'' ⟨rfl, h2⟩; exact ⟨none, 0, rfl, World.ownsRow_nil _ _ _ _, h2⟩)

theorem lawEncOp (k s f e g : Int) (p q : Option Addr) (P V : List Int) (c d : Nat) (w : World) (hp : Rd w (.slice p P.length c) P) (hv : Rd w (.slice q V.length d) V) (hn : P.length ≤ maxLen) (hm : V.length ≤ maxLen) (s0 : 0 ≤ s) (s1 : s < 18446744073709551616) (hT : Tab w) :
    Calls Tryd.prog 4 #[opV k s (.slice p P.length c) f (.slice q V.length d) e g] w fun e w' => e = .returned (.bool true) ∧ Below w.heap.size w w' := by
  by_cases hl : P.length + V.length ≤ 1048576
  · by_cases hk : 1 ≤ k ∧ k ≤ 13
    · obtain ⟨S, rfl⟩ : ∃ S : Nat, s = (S : Int) := ⟨s.toNat, by omega⟩
      obtain ⟨K, rfl⟩ : ∃ K : Nat, k = (K : Int) := ⟨k.toNat, by omega⟩
      have h1 : 1 ≤ K := by omega
      have h2 : K ≤ 13 := by omega
      by_cases hB : (fmR K S f P.length V.length e g && joR K) = true
      · obtain ⟨hf, hj⟩ := Bool.and_eq_true_iff.1 hB
        obtain ⟨f0, f2⟩ := flag_bound h1 h2 hf
        obtain ⟨F, rfl⟩ : ∃ F : Nat, f = (F : Int) := ⟨f.toNat, by omega⟩
        refine lawEncOp_small K S F e g p q _ _ c d _ P V (opB K S P F V) rfl rfl rfl w hp hv hl (by have := opB_len K S P F V; omega) ?_ ?_
        · intro q1 q2 d1 d2 w' hb r1 r2
          exact specEncOp_yes K h1 h2 S F (by omega) (by omega) e g q1 q2 _ _ d1 d2 P V rfl rfl w' r1 r2 (by omega) (by omega) hf hj _ rfl
        · intro q1 q2 d1 d2 w' hb r1 r2
          have hrow := (hT K h1 h2).below hb
          rw [show (rowOf K).2.2.2.2.2.2 = true from hj] at hrow
          exact implEncOp_yes K h1 h2 _ _ _ _ _ _ S F (by omega) (by omega) e g q1 q2 _ _ d1 d2 P V rfl rfl w' r1 r2 (by omega) (by omega) hrow hf _ rfl
      · have hB' : (fmR K S f P.length V.length e g && joR K) = false := by simpa using hB
        refine lawEncOp_small K S f e g p q _ _ c d 0 P V [] rfl rfl rfl w hp hv hl (by omega) (encNil ?_) (encNil ?_)
        · intro q1 q2 d1 d2 w' hb
          exact specEncOp_no K h1 h2 S f e g q1 q2 _ _ d1 d2 w' _ rfl hB'
        · intro q1 q2 d1 d2 w' hb
          exact implEncOp_no K h1 h2 _ _ _ _ _ _ _ S f e g q1 q2 _ _ d1 d2 w' ((hT K h1 h2).below hb) _ rfl hB'
    · refine lawEncOp_small k s f e g p q _ _ c d 0 P V [] rfl rfl rfl w hp hv hl (by omega) (encNil ?_) (encNil ?_)
      · intro q1 q2 d1 d2 w' hb
        exact specEncOp_out k s f e g q1 q2 _ _ d1 d2 w' (by omega)
      · intro q1 q2 d1 d2 w' hb
        exact implEncOp_out k s f e g q1 q2 _ _ d1 d2 w' (by omega)
  · exact lawEncOp_big k s f e g p q _ _ c d w hn hm (by omega)

namespace eopRow
theorem lifted (os : Os) (started : os.Started) (H : Type) (enc : TypeId × Value → H) :
    ReturnsInHanded {} Tryd.checked os 4 .any (fun w args => (Rows.fnExactEncodeOpSpec.pre enc Tryd.prog Tryd.f4 Rows.fnExactEncodeOpRow.domain false w args ∧ laidMetH Tryd.prog Rows.fnExactEncodeOpRow.laid w) ∧ sizedMet enc Tryd.prog Tryd.f4 (OpenSpec.ofChange Rows.fnExactEncodeOpSpec) false w args)
      (Rows.fnExactEncodeOpSpec.post enc Tryd.prog Tryd.f4 false true false false) := by
  refine handed_both (C := Tryd.checked) (X := fun w _ => laidMetH Tryd.prog Rows.fnExactEncodeOpRow.laid w) (fun _ _ _ hh h => h.of_heap hh) own started (by kernel_rfl) Tryd.func4
    (ChangeSpec.witness_shaped (enc := enc) (C := Tryd.checked) (os := os) (X := fun w _ => laidMetH Tryd.prog Rows.fnExactEncodeOpRow.laid w) false (World.laidAll Tryd.prog os Rows.fnExactEncodeOpRow.laid) #[.agg #[.int .i64 0, .int .u64 0, .slice none 0 0, .int .i64 0, .slice none 0 0, .int .u64 0, .int .u64 0]] 8 (World.laidAll_os _ _ _)
      (World.shaped_of_ZipB (by kernel_rfl) (by kernel_rfl)) (by kernel_rfl) (by kernel_rfl) (by kernel_rfl)
      (by rw [MakeChecks.laidMetH_plain _ _ _ (by kernel_rfl)]; exact laidMet_laidAll _ (by kernel_rfl) (by kernel_rfl))) ?_
  intro W base args ds gs before hval0 hW hL hsh
  have hval : ∀ (j : Nat) t v, Tryd.f4.params[j]? = some t → args[j]? = some v → Value.okWide Tryd.prog W .any base t v := hval0
  have hW' := hW
  obtain ⟨p, q, hA0, hV0, rfl, hfz, hnd⟩ := hW
  have hA : DataW.TrodAll enc Tryd.prog W 0 (fun _ => true) true Tryd.f4.params.toList args.toList ds p := hA0
  have hV : DataW.TrodVars enc Tryd.prog W (fun _ => true) ["loop.example/s02132/impl.forms"] gs q := hV0
  rw [Tryd.params4] at hA hval
  obtain ⟨v0, vs0, d0, ds0, p0, q0, hargs, rfl, rfl, h0, r0⟩ := trodAll_cons hA
  obtain ⟨rfl, rfl, rfl⟩ := trodAll_nil r0
  obtain rfl : args = #[v0] := by cases args; simp_all
  obtain ⟨gg, tt, cs, fuel, dg, pg, rfl, hg, ht, hvar, hd, hq⟩ := trodVars_one hV
  have k0 := h0
  have lt0 : ∀ x ∈ p0, x.block < W.heap.size := by obtain ⟨m, hm⟩ := k0; exact DataW.trod_lt m _ _ _ hm
  obtain ⟨k, s, f, e, g, pp, pq, P, V, c, c', rfl, r1, r2, m1, m2, _, _, s0, s1⟩ := op_of_trod (hval 0 28 v0 rfl rfl) h0
  clear hA0 hval0
  refine (lawEncOp k s f e g pp pq P V c c' W r1 r2 m1 m2 s0 s1 (Tab.of_laid hL)).mono fun r W' ⟨he, bel⟩ => ?_
  subst he
  exact ⟨_, rfl, _, _, _, [], _, _, hW', trodAll_mk1 (shut_bool Tryd.underlying4 _), (trodAll_cons_mk (Below.trod laidOut (by kernel_rfl) (of_decide_eq_true (by kernel_rfl)) k0 bel lt0) trodAll_mk0), (Below.trodVars laidOut bel (by kernel_rfl) hV), bel.frame _, fun h => by cases h⟩

theorem over : Rows.fnExactEncodeOpRow.holds Tryd.pinned (OpenSpec.ofChange Rows.fnExactEncodeOpSpec) :=
  OpenClaim.holds_of_wide 4 Tryd.f4 rfl rfl rfl rfl rfl rfl rfl ⟨rfl, rfl, rfl, rfl, rfl⟩ rfl rfl rfl rfl rfl (by kernel_rfl) Tryd.func4 (by kernel_rfl)
    (of_decide_eq_true (by kernel_rfl)) (by unfold Func.isWrapper; first | (rw [if_pos (by decide +kernel)]; kernel_rfl) | (rw [if_neg (by decide +kernel)]; exact ⟨rfl, rfl⟩))
    (fun os started H enc _ => lifted os started H enc)
end eopRow
end Go.Proofs.YtekooebndehokaaDoor
