import Derived.Test.YtekooebndehokaaDoorOPh
namespace Go.Proofs.YtekooebndehokaaDoor
open Go.ChangeShapes Go.WideShapes Go.ChangeAt Go.RowKit
set_option linter.unusedVariables false
set_option linter.unusedSimpArgs false
set_option maxRecDepth 100000

set_option maxHeartbeats 1600000 in
theorem implEncOp_no (k : Nat) (hk1 : 1 ≤ k) (hk2 : k ≤ 13) (se pa : Bool) (lo hi vs : Int) (sq jo : Bool) (s f e g : Int) (p q : Option Addr) (n m c d : Nat) (w : World) (hT : RowAt w 0 (k * 7) se pa lo hi vs sq jo) (B : Bool) (eB : Hid (fmF se pa lo hi vs sq s f n m e g = B)) (eJ : (B && jo) = false) :
    Calls Tryd.prog 14 #[opV k s (.slice p n c) f (.slice q m d) e g] w fun r w' => r = .returned (.slice none 0 0) ∧ Below w.heap.size w w' := by
  have h1 : (1 : Int) ≤ (k : Int) := by omega
  have h2 : (k : Int) ≤ 13 := by omega
  have h3 : (k : Int) < 14 := by omega
  have h4 : k < 14 := by omega
  have h5 : (0 : Int) ≤ (k : Int) := by omega
  go_enter Tryd.func14, Tryd.ntmps14
  go_wp2_with fail
  obtain ⟨W, hW⟩ : ∃ W, W = (w.alloc (.cells #[.int .i64 k, .int .u64 s, .slice p n c, .int .i64 f, .slice q m d, .int .u64 e, .int .u64 g] 31)) := ⟨_, rfl⟩
  have bW : Below w.heap.size w W := by rw [hW]; exact (Below.refl _ _).alloc (Nat.le_refl _) _
  have hA : At7 W w.heap.size (.int .i64 k) (.int .u64 s) (.slice p n c) (.int .i64 f) (.slice q m d) (.int .u64 e) (.int .u64 g) := by rw [hW]; simp [At7, go_sem]
  have hTW := hT.below bW
  rw [← hW]
  clear hW hT
  refine (wellFormed_any k hk1 hk2 se pa lo hi vs sq jo s f e g p q n m c d _ hTW B eB).mono ?_
  rintro r w1 ⟨rfl, hb1⟩
  have hA1 := hA.below hb1
  have hT1 := hTW.below hb1
  have b1 := Below.step bW hb1
  clear hA hTW bW hb1
  obtain ⟨a0, a1, a2, a3, a4, a5, a6⟩ := hA1
  obtain ⟨t0, t1, t2, t3, t4, t5, t6⟩ := hT1
  cases B with
  | false =>
    go_wp2
    go_ret
    exact ⟨rfl, b1⟩
  | true =>
    rw [Bool.true_and] at eJ
    subst eJ
    go_wp2
    go_ret
    exact ⟨rfl, b1⟩

set_option maxHeartbeats 1600000 in
theorem implEncOp_out (k s f e g : Int) (p q : Option Addr) (n m c d : Nat) (w : World) (hk : k < 1 ∨ 13 < k) :
    Calls Tryd.prog 14 #[opV k s (.slice p n c) f (.slice q m d) e g] w fun r w' => r = .returned (.slice none 0 0) ∧ Below w.heap.size w w' := by
  go_enter Tryd.func14, Tryd.ntmps14
  go_wp2_with fail
  obtain ⟨W, hW⟩ : ∃ W, W = (w.alloc (.cells #[.int .i64 k, .int .u64 s, .slice p n c, .int .i64 f, .slice q m d, .int .u64 e, .int .u64 g] 31)) := ⟨_, rfl⟩
  have bW : Below w.heap.size w W := by rw [hW]; exact (Below.refl _ _).alloc (Nat.le_refl _) _
  rw [← hW]
  clear hW
  refine (wellFormed_out k s f e g p q n m c d _ hk).mono ?_
  rintro r x1 ⟨rfl, hb1⟩
  have b1 := Below.step bW hb1
  clear bW hb1
  go_wp2
  go_ret
  exact ⟨rfl, b1⟩
end Go.Proofs.YtekooebndehokaaDoor
