import Derived.Test.YtpbppdeleijhkaaGreatDoorVS3
namespace Go.Proofs.YtpbppdeleijhkaaGreatDoor
open Go.ChangeShapes Go.WideShapes Go.ChangeAt Go.RowKit
set_option linter.unusedVariables false
set_option linter.unusedSimpArgs false
set_option maxRecDepth 100000

/-- the session at place i, in a state whose greatest number is nx -/
def sesAt (nx : Int) (ss : List Ses) (i : Nat) : Bool :=
  decide (1 ≤ (ss.getD i (0, 0, [])).1) && (decide ((ss.getD i (0, 0, [])).1 ≤ nx) && ((i == 0 || decide ((ss.getD (i - 1) (0, 0, [])).1 < (ss.getD i (0, 0, [])).1)) &&
    (decide (0 ≤ (ss.getD i (0, 0, [])).2.1) && (decide ((ss.getD i (0, 0, [])).2.1 ≤ 1000015) && queueOK (ss.getD i (0, 0, [])).2.2))))

set_option maxHeartbeats 1600000 in
theorem l3sessionOK_any (e g x t : Int) (p : Option Addr) (c n k : Nat) (N : Value) (ss : List Ses) (en : Hid (ss.length = n)) (w : World) (h : RdS w (.slice p n c) ss) (hn : n ≤ 1048576) (hk : k < n)
    (hby : Hid (∀ s ∈ ss, s.2.2.length ≤ 1048576 ∧ ∀ e ∈ s.2.2, Byt e.2 ∧ e.2.length ≤ 1048576)) (B : Bool) (eB : Hid (sesAt x ss k = B)) :
    Calls Tryz.prog 89 #[stV e g x t (.slice p n c) N, .int .i64 k] w fun r w' => r = .returned (.bool B) ∧ Below w.heap.size w w' := by
  have HR := hide fun (w' : World) (hb : Below w.heap.size w w') => h.below hb
  have hkl : k < ss.length := by rw [unhide en]; exact hk
  obtain ⟨⟨I, D, Q⟩, hy⟩ : ∃ y, ss[k]? = some y := ⟨_, List.getElem?_eq_getElem hkl⟩
  have hyD : ss.getD k (0, 0, []) = (I, D, Q) := by rw [List.getD_eq_getElem?_getD, hy]; rfl
  obtain ⟨b, o, rfl, hcA⟩ : ∃ b o, p = some ⟨b, o, none⟩ ∧ ∀ i s, ss[i]? = some s → w.cell? ⟨b, o + i * 3, none⟩ = some (.int .u64 s.1) ∧ w.cell? ⟨b, o + i * 3 + 1, none⟩ = some (.int .i64 s.2.1) ∧ ∃ u, w.cell? ⟨b, o + i * 3 + 2, none⟩ = some u ∧ RdE w u s.2.2 := by
    obtain ⟨p', c', ev, hd⟩ := h
    simp only [Value.slice.injEq] at ev
    obtain ⟨rfl, -, -⟩ := ev
    rcases hd with h0 | ⟨b, o, h1, h2⟩
    · rw [h0] at hkl; simp at hkl
    · exact ⟨b, o, h1, h2⟩
  obtain ⟨hI, hD, u, hU, hQ⟩ := hcA k _ hy
  obtain ⟨hQl, hQb⟩ := unhide hby _ (List.mem_of_getElem? hy)
  obtain ⟨pq, cq, rfl, -⟩ := id hQ
  obtain ⟨m, em⟩ : ∃ m, Q.length = m := ⟨_, rfl⟩
  rw [em] at hQ hU
  have hm : m ≤ 1048576 := by rw [← em]; exact hQl
  have EM := hide em
  have HBQ : Hid (∀ e ∈ Q, Byt e.2 ∧ e.2.length ≤ 1048576) := hQb
  have HRQ := hide hQ
  obtain ⟨T, eT⟩ : ∃ T, queueOK Q = T := ⟨_, rfl⟩
  have ET : Hid (queueOK Q = T) := eT
  have hat : sesAt x ss k = (decide (1 ≤ I) && (decide (I ≤ x) && ((k == 0 || decide ((ss.getD (k - 1) (0, 0, [])).1 < I)) && (decide (0 ≤ D) && (decide (D ≤ 1000015) && T))))) := by
    rw [sesAt, hyD, eT]
  rw [show (sesAt x ss k) = B from unhide eB] at hat
  have HAT : Hid (B = (decide (1 ≤ I) && (decide (I ≤ x) && ((k == 0 || decide ((ss.getD (k - 1) (0, 0, [])).1 < I)) && (decide (0 ≤ D) && (decide (D ≤ 1000015) && T)))))) := hat
  clear hat
  have hk' : (k : Int) < (n : Int) := by omega
  have hk0' : (0 : Int) ≤ (k : Int) := by omega
  have HL := hide hkl
  clear hy hyD hQl hQb hQ em eT h eB hkl
  have HCA := hide hcA
  clear hcA
  go_enter Tryz.func89, Tryz.ntmps89
  have b1 : Below w.heap.size w (w.alloc (.cells #[.int .u64 e, .int .u64 g, .int .u64 x, .int .i64 t, .slice (some ⟨b, o, none⟩) n c, N] 27)) := (Below.refl _ _).alloc (Nat.le_refl _) _
  have i1 := cell_below hI b1
  have i2 := cell_below hD b1
  have i3 := cell_below hU b1
  go_wp2_with fail
  obtain ⟨X, hX⟩ : ∃ X, X = ((w.alloc (.cells #[.int .u64 e, .int .u64 g, .int .u64 x, .int .i64 t, .slice (some ⟨b, o, none⟩) n c, N] 27)).alloc (.cells #[.int .u64 I, .int .i64 D, .slice pq m cq] 65)) := ⟨_, rfl⟩
  have BX : Hid (Below w.heap.size w X) := by show Below _ _ _; rw [hX]; exact b1.alloc (by simp) _
  have kA : X.cell? ⟨w.heap.size + 1, 0, none⟩ = some (.int .u64 I) := by rw [hX]; simp
  have kD : X.cell? ⟨w.heap.size + 1, 1, none⟩ = some (.int .i64 D) := by rw [hX]; simp
  have kQ : X.cell? ⟨w.heap.size + 1, 2, none⟩ = some (.slice pq m cq) := by rw [hX]; simp
  have kB : X.cell? ⟨w.heap.size, 2, none⟩ = some (.int .u64 x) := by rw [hX]; simp
  have kC : X.cell? ⟨w.heap.size, 4, none⟩ = some (.slice (some ⟨b, o, none⟩) n c) := by rw [hX]; simp
  rw [← hX]
  have KA := hide kA
  have KB := hide kB
  have KC := hide kC
  clear hX b1 i1 i2 i3 kA kB kC hI hD hU
  by_cases h1 : I < 1
  · have eF : B = false := by rw [unhide HAT]; simp; omega
    subst eF
    have h1d : decide (I < 1) = true := by simp; omega
    refine wp_region_noPanic ?_
    refine wp_region_held_drew (S := fun w' => w'.cell? ⟨w.heap.size + 1, 0, none⟩ = some (.int .u64 I) ∧ w'.cell? ⟨w.heap.size, 2, none⟩ = some (.int .u64 x) ∧ w'.cell? ⟨w.heap.size, 4, none⟩ = some (.slice (some ⟨b, o, none⟩) n c)) (by kernel_rfl) (by exact ⟨unhide KA, unhide KB, unhide KC⟩) (fun hS => ?_)
    refine wpAnyH_take (i := 0) (oi := _) (v := ?_) (by simp only [List.getElem?_toArray, List.getElem?_cons_succ, List.getElem?_cons_zero]; rfl) (by kernel_rfl) (by kernel_rfl) (by kernel_rfl) (fun _ _ _ h => h) (Or.inl ⟨by rfl, ?_⟩) hS ?_
    rotate_left
    · (intro w' hSw; (try dsimp only at hSw); go_simp; try with_reducible rfl)
    simp only [Act.put, List.setIfInBounds_toArray, List.set_cons_zero, List.set_cons_succ]
    refine wpAnyH_take (i := 1) (oi := _) (v := ?_) (by simp only [List.getElem?_toArray, List.getElem?_cons_succ, List.getElem?_cons_zero]; rfl) (by kernel_rfl) (by kernel_rfl) (by kernel_rfl) (fun _ _ _ h => h) (Or.inl ⟨by rfl, ?_⟩) hS ?_
    rotate_left
    · (intro w' hSw; (try dsimp only at hSw); go_simp; try with_reducible rfl)
    simp only [Act.put, List.setIfInBounds_toArray, List.set_cons_zero, List.set_cons_succ]
    refine wpAnyH_take (i := 2) (oi := _) (v := ?_) (by simp only [List.getElem?_toArray, List.getElem?_cons_succ, List.getElem?_cons_zero]; rfl) (by kernel_rfl) (by kernel_rfl) (by kernel_rfl) (fun _ _ _ h => h) (Or.inl ⟨by rfl, ?_⟩) hS ?_
    rotate_left
    · (intro w' hSw; (try dsimp only at hSw); go_simp; try with_reducible rfl)
    simp only [Act.put, List.setIfInBounds_toArray, List.set_cons_zero, List.set_cons_succ]
    refine wpAnyH_take (i := 3) (oi := _) (v := ?_) (by simp only [List.getElem?_toArray, List.getElem?_cons_succ, List.getElem?_cons_zero]; rfl) (by kernel_rfl) (by kernel_rfl) (by kernel_rfl) (fun _ _ _ h => h) (Or.inl ⟨by rfl, ?_⟩) hS ?_
    rotate_left
    · (intro w' hSw; (try dsimp only at hSw); go_simp; try with_reducible rfl)
    simp only [Act.put, List.setIfInBounds_toArray, List.set_cons_zero, List.set_cons_succ]
    refine wpAnyH_take (i := 4) (oi := _) (v := undef) (by simp only [List.getElem?_toArray, List.getElem?_cons_succ, List.getElem?_cons_zero]; rfl) (by kernel_rfl) (by kernel_rfl) (by kernel_rfl) (fun _ _ _ h => h) (Or.inr ⟨by rfl, rfl⟩) hS ?_
    simp only [Act.put, List.setIfInBounds_toArray, List.set_cons_zero, List.set_cons_succ]
    refine wpAnyH_take (i := 5) (oi := _) (v := undef) (by simp only [List.getElem?_toArray, List.getElem?_cons_succ, List.getElem?_cons_zero]; rfl) (by kernel_rfl) (by kernel_rfl) (by kernel_rfl) (fun _ _ _ h => h) (Or.inr ⟨by rfl, rfl⟩) hS ?_
    simp only [Act.put, List.setIfInBounds_toArray, List.set_cons_zero, List.set_cons_succ]
    refine wpAnyH_take (i := 6) (oi := _) (v := undef) (by simp only [List.getElem?_toArray, List.getElem?_cons_succ, List.getElem?_cons_zero]; rfl) (by kernel_rfl) (by kernel_rfl) (by kernel_rfl) (fun _ _ _ h => h) (Or.inr ⟨by rfl, rfl⟩) hS ?_
    simp only [Act.put, List.setIfInBounds_toArray, List.set_cons_zero, List.set_cons_succ]
    refine wpAnyH_take (i := 7) (oi := _) (v := undef) (by simp only [List.getElem?_toArray, List.getElem?_cons_succ, List.getElem?_cons_zero]; rfl) (by kernel_rfl) (by kernel_rfl) (by kernel_rfl) (fun _ _ _ h => h) (Or.inr ⟨by rfl, rfl⟩) hS ?_
    simp only [Act.put, List.setIfInBounds_toArray, List.set_cons_zero, List.set_cons_succ]
    refine wpAnyH_take (i := 8) (oi := _) (v := undef) (by simp only [List.getElem?_toArray, List.getElem?_cons_succ, List.getElem?_cons_zero]; rfl) (by kernel_rfl) (by kernel_rfl) (by kernel_rfl) (fun _ _ _ h => h) (Or.inr ⟨by rfl, rfl⟩) hS ?_
    simp only [Act.put, List.setIfInBounds_toArray, List.set_cons_zero, List.set_cons_succ]
    refine wpAnyH_take (i := 9) (oi := _) (v := ?_) (by simp only [List.getElem?_toArray, List.getElem?_cons_succ, List.getElem?_cons_zero]; rfl) (by kernel_rfl) (by kernel_rfl) (by kernel_rfl) (fun _ _ _ h => h) (Or.inl ⟨by rfl, ?_⟩) hS ?_
    rotate_left
    · (intro w' hSw; (try dsimp only at hSw); go_simp; try with_reducible rfl)
    simp only [Act.put, List.setIfInBounds_toArray, List.set_cons_zero, List.set_cons_succ]
    refine wpAnyH_take (i := 10) (oi := _) (v := ?_) (by simp only [List.getElem?_toArray, List.getElem?_cons_succ, List.getElem?_cons_zero]; rfl) (by kernel_rfl) (by kernel_rfl) (by kernel_rfl) (fun _ _ _ h => h) (Or.inl ⟨by rfl, ?_⟩) hS ?_
    rotate_left
    · (intro w' hSw; (try dsimp only at hSw); go_simp; try with_reducible rfl)
    simp only [Act.put, List.setIfInBounds_toArray, List.set_cons_zero, List.set_cons_succ]
    refine wpAnyH_take (i := 11) (oi := _) (v := undef) (by simp only [List.getElem?_toArray, List.getElem?_cons_succ, List.getElem?_cons_zero]; rfl) (by kernel_rfl) (by kernel_rfl) (by kernel_rfl) (fun _ _ _ h => h) (Or.inr ⟨by rfl, rfl⟩) hS ?_
    simp only [Act.put, List.setIfInBounds_toArray, List.set_cons_zero, List.set_cons_succ]
    refine wpAnyH_take (i := 12) (oi := _) (v := undef) (by simp only [List.getElem?_toArray, List.getElem?_cons_succ, List.getElem?_cons_zero]; rfl) (by kernel_rfl) (by kernel_rfl) (by kernel_rfl) (fun _ _ _ h => h) (Or.inr ⟨by rfl, rfl⟩) hS ?_
    simp only [Act.put, List.setIfInBounds_toArray, List.set_cons_zero, List.set_cons_succ]
    refine wpAnyH_take (i := 13) (oi := _) (v := undef) (by simp only [List.getElem?_toArray, List.getElem?_cons_succ, List.getElem?_cons_zero]; rfl) (by kernel_rfl) (by kernel_rfl) (by kernel_rfl) (fun _ _ _ h => h) (Or.inr ⟨by rfl, rfl⟩) hS ?_
    simp only [Act.put, List.setIfInBounds_toArray, List.set_cons_zero, List.set_cons_succ]
    refine wpAnyH_take (i := 14) (oi := _) (v := undef) (by simp only [List.getElem?_toArray, List.getElem?_cons_succ, List.getElem?_cons_zero]; rfl) (by kernel_rfl) (by kernel_rfl) (by kernel_rfl) (fun _ _ _ h => h) (Or.inr ⟨by rfl, rfl⟩) hS ?_
    simp only [Act.put, List.setIfInBounds_toArray, List.set_cons_zero, List.set_cons_succ]
    refine wpAnyH_take (i := 15) (oi := _) (v := undef) (by simp only [List.getElem?_toArray, List.getElem?_cons_succ, List.getElem?_cons_zero]; rfl) (by kernel_rfl) (by kernel_rfl) (by kernel_rfl) (fun _ _ _ h => h) (Or.inr ⟨by rfl, rfl⟩) hS ?_
    simp only [Act.put, List.setIfInBounds_toArray, List.set_cons_zero, List.set_cons_succ]
    refine wpAnyH_take (i := 16) (oi := _) (v := undef) (by simp only [List.getElem?_toArray, List.getElem?_cons_succ, List.getElem?_cons_zero]; rfl) (by kernel_rfl) (by kernel_rfl) (by kernel_rfl) (fun _ _ _ h => h) (Or.inr ⟨by rfl, rfl⟩) hS ?_
    simp only [Act.put, List.setIfInBounds_toArray, List.set_cons_zero, List.set_cons_succ]
    refine wpAnyH_take (i := 17) (oi := _) (v := undef) (by simp only [List.getElem?_toArray, List.getElem?_cons_succ, List.getElem?_cons_zero]; rfl) (by kernel_rfl) (by kernel_rfl) (by kernel_rfl) (fun _ _ _ h => h) (Or.inr ⟨by rfl, rfl⟩) hS ?_
    simp only [Act.put, List.setIfInBounds_toArray, List.set_cons_zero, List.set_cons_succ]
    refine wpAnyH_take (i := 18) (oi := _) (v := undef) (by simp only [List.getElem?_toArray, List.getElem?_cons_succ, List.getElem?_cons_zero]; rfl) (by kernel_rfl) (by kernel_rfl) (by kernel_rfl) (fun _ _ _ h => h) (Or.inr ⟨by rfl, rfl⟩) hS ?_
    simp only [Act.put, List.setIfInBounds_toArray, List.set_cons_zero, List.set_cons_succ]
    refine wpAnyH_take (i := 19) (oi := _) (v := undef) (by simp only [List.getElem?_toArray, List.getElem?_cons_succ, List.getElem?_cons_zero]; rfl) (by kernel_rfl) (by kernel_rfl) (by kernel_rfl) (fun _ _ _ h => h) (Or.inr ⟨by rfl, rfl⟩) hS ?_
    simp only [Act.put, List.setIfInBounds_toArray, List.set_cons_zero, List.set_cons_succ]
    refine wpAnyH_take (i := 20) (oi := _) (v := undef) (by simp only [List.getElem?_toArray, List.getElem?_cons_succ, List.getElem?_cons_zero]; rfl) (by kernel_rfl) (by kernel_rfl) (by kernel_rfl) (fun _ _ _ h => h) (Or.inr ⟨by rfl, rfl⟩) hS ?_
    simp only [Act.put, List.setIfInBounds_toArray, List.set_cons_zero, List.set_cons_succ]
    refine wpAnyH_take (i := 21) (oi := _) (v := undef) (by simp only [List.getElem?_toArray, List.getElem?_cons_succ, List.getElem?_cons_zero]; rfl) (by kernel_rfl) (by kernel_rfl) (by kernel_rfl) (fun _ _ _ h => h) (Or.inr ⟨by rfl, rfl⟩) hS ?_
    simp only [Act.put, List.setIfInBounds_toArray, List.set_cons_zero, List.set_cons_succ]
    refine wpAnyH_take (i := 22) (oi := _) (v := undef) (by simp only [List.getElem?_toArray, List.getElem?_cons_succ, List.getElem?_cons_zero]; rfl) (by kernel_rfl) (by kernel_rfl) (by kernel_rfl) (fun _ _ _ h => h) (Or.inr ⟨by rfl, rfl⟩) hS ?_
    simp only [Act.put, List.setIfInBounds_toArray, List.set_cons_zero, List.set_cons_succ]
    refine wpAnyH_take (i := 23) (oi := _) (v := undef) (by simp only [List.getElem?_toArray, List.getElem?_cons_succ, List.getElem?_cons_zero]; rfl) (by kernel_rfl) (by kernel_rfl) (by kernel_rfl) (fun _ _ _ h => h) (Or.inr ⟨by rfl, rfl⟩) hS ?_
    simp only [Act.put, List.setIfInBounds_toArray, List.set_cons_zero, List.set_cons_succ]
    refine wpAnyH_take (i := 24) (oi := _) (v := undef) (by simp only [List.getElem?_toArray, List.getElem?_cons_succ, List.getElem?_cons_zero]; rfl) (by kernel_rfl) (by kernel_rfl) (by kernel_rfl) (fun _ _ _ h => h) (Or.inr ⟨by rfl, rfl⟩) hS ?_
    simp only [Act.put, List.setIfInBounds_toArray, List.set_cons_zero, List.set_cons_succ]
    refine wpAnyH_take (i := 25) (oi := _) (v := ?_) (by simp only [List.getElem?_toArray, List.getElem?_cons_succ, List.getElem?_cons_zero]; rfl) (by kernel_rfl) (by kernel_rfl) (by kernel_rfl) (fun _ _ _ h => h) (Or.inl ⟨by rfl, ?_⟩) hS ?_
    rotate_left
    · (intro w' hSw; (try dsimp only at hSw); go_simp; try with_reducible rfl)
    simp only [Act.put, List.setIfInBounds_toArray, List.set_cons_zero, List.set_cons_succ]
    refine wpAnyH_done (by kernel_rfl) ?_ _
    refine NoPanic.normal ?_
    clear hS
    go_wp2
    go_ret
    exact ⟨rfl, (unhide BX).drew⟩
  · have h1d : decide (I < 1) = false := by simp; omega
    by_cases h2 : x < I
    · have eF : B = false := by rw [unhide HAT]; simp; omega
      subst eF
      have h2d : decide (x < I) = true := by simp; omega
      refine wp_region_noPanic ?_
      refine wp_region_held_drew (S := fun w' => w'.cell? ⟨w.heap.size + 1, 0, none⟩ = some (.int .u64 I) ∧ w'.cell? ⟨w.heap.size, 2, none⟩ = some (.int .u64 x) ∧ w'.cell? ⟨w.heap.size, 4, none⟩ = some (.slice (some ⟨b, o, none⟩) n c)) (by kernel_rfl) (by exact ⟨unhide KA, unhide KB, unhide KC⟩) (fun hS => ?_)
      refine wpAnyH_take (i := 0) (oi := _) (v := ?_) (by simp only [List.getElem?_toArray, List.getElem?_cons_succ, List.getElem?_cons_zero]; rfl) (by kernel_rfl) (by kernel_rfl) (by kernel_rfl) (fun _ _ _ h => h) (Or.inl ⟨by rfl, ?_⟩) hS ?_
      rotate_left
      · (intro w' hSw; (try dsimp only at hSw); go_simp; try with_reducible rfl)
      simp only [Act.put, List.setIfInBounds_toArray, List.set_cons_zero, List.set_cons_succ]
      refine wpAnyH_take (i := 1) (oi := _) (v := ?_) (by simp only [List.getElem?_toArray, List.getElem?_cons_succ, List.getElem?_cons_zero]; rfl) (by kernel_rfl) (by kernel_rfl) (by kernel_rfl) (fun _ _ _ h => h) (Or.inl ⟨by rfl, ?_⟩) hS ?_
      rotate_left
      · (intro w' hSw; (try dsimp only at hSw); go_simp; try with_reducible rfl)
      simp only [Act.put, List.setIfInBounds_toArray, List.set_cons_zero, List.set_cons_succ]
      refine wpAnyH_take (i := 2) (oi := _) (v := ?_) (by simp only [List.getElem?_toArray, List.getElem?_cons_succ, List.getElem?_cons_zero]; rfl) (by kernel_rfl) (by kernel_rfl) (by kernel_rfl) (fun _ _ _ h => h) (Or.inl ⟨by rfl, ?_⟩) hS ?_
      rotate_left
      · (intro w' hSw; (try dsimp only at hSw); go_simp; try with_reducible rfl)
      simp only [Act.put, List.setIfInBounds_toArray, List.set_cons_zero, List.set_cons_succ]
      refine wpAnyH_take (i := 3) (oi := _) (v := ?_) (by simp only [List.getElem?_toArray, List.getElem?_cons_succ, List.getElem?_cons_zero]; rfl) (by kernel_rfl) (by kernel_rfl) (by kernel_rfl) (fun _ _ _ h => h) (Or.inl ⟨by rfl, ?_⟩) hS ?_
      rotate_left
      · (intro w' hSw; (try dsimp only at hSw); go_simp; try with_reducible rfl)
      simp only [Act.put, List.setIfInBounds_toArray, List.set_cons_zero, List.set_cons_succ]
      refine wpAnyH_take (i := 4) (oi := _) (v := ?_) (by simp only [List.getElem?_toArray, List.getElem?_cons_succ, List.getElem?_cons_zero]; rfl) (by kernel_rfl) (by kernel_rfl) (by kernel_rfl) (fun _ _ _ h => h) (Or.inl ⟨by rfl, ?_⟩) hS ?_
      rotate_left
      · (intro w' hSw; (try dsimp only at hSw); go_simp; try with_reducible rfl)
      simp only [Act.put, List.setIfInBounds_toArray, List.set_cons_zero, List.set_cons_succ]
      refine wpAnyH_take (i := 5) (oi := _) (v := ?_) (by simp only [List.getElem?_toArray, List.getElem?_cons_succ, List.getElem?_cons_zero]; rfl) (by kernel_rfl) (by kernel_rfl) (by kernel_rfl) (fun _ _ _ h => h) (Or.inl ⟨by rfl, ?_⟩) hS ?_
      rotate_left
      · (intro w' hSw; (try dsimp only at hSw); go_simp; try with_reducible rfl)
      simp only [Act.put, List.setIfInBounds_toArray, List.set_cons_zero, List.set_cons_succ]
      refine wpAnyH_take (i := 6) (oi := _) (v := ?_) (by simp only [List.getElem?_toArray, List.getElem?_cons_succ, List.getElem?_cons_zero]; rfl) (by kernel_rfl) (by kernel_rfl) (by kernel_rfl) (fun _ _ _ h => h) (Or.inl ⟨by rfl, ?_⟩) hS ?_
      rotate_left
      · (intro w' hSw; (try dsimp only at hSw); go_simp; try with_reducible rfl)
      simp only [Act.put, List.setIfInBounds_toArray, List.set_cons_zero, List.set_cons_succ]
      refine wpAnyH_take (i := 7) (oi := _) (v := ?_) (by simp only [List.getElem?_toArray, List.getElem?_cons_succ, List.getElem?_cons_zero]; rfl) (by kernel_rfl) (by kernel_rfl) (by kernel_rfl) (fun _ _ _ h => h) (Or.inl ⟨by rfl, ?_⟩) hS ?_
      rotate_left
      · (intro w' hSw; (try dsimp only at hSw); go_simp; try with_reducible rfl)
      simp only [Act.put, List.setIfInBounds_toArray, List.set_cons_zero, List.set_cons_succ]
      refine wpAnyH_take (i := 8) (oi := _) (v := ?_) (by simp only [List.getElem?_toArray, List.getElem?_cons_succ, List.getElem?_cons_zero]; rfl) (by kernel_rfl) (by kernel_rfl) (by kernel_rfl) (fun _ _ _ h => h) (Or.inl ⟨by rfl, ?_⟩) hS ?_
      rotate_left
      · (intro w' hSw; (try dsimp only at hSw); go_simp; try with_reducible rfl)
      simp only [Act.put, List.setIfInBounds_toArray, List.set_cons_zero, List.set_cons_succ]
      refine wpAnyH_take (i := 9) (oi := _) (v := ?_) (by simp only [List.getElem?_toArray, List.getElem?_cons_succ, List.getElem?_cons_zero]; rfl) (by kernel_rfl) (by kernel_rfl) (by kernel_rfl) (fun _ _ _ h => h) (Or.inl ⟨by rfl, ?_⟩) hS ?_
      rotate_left
      · (intro w' hSw; (try dsimp only at hSw); go_simp; try with_reducible rfl)
      simp only [Act.put, List.setIfInBounds_toArray, List.set_cons_zero, List.set_cons_succ]
      refine wpAnyH_take (i := 10) (oi := _) (v := ?_) (by simp only [List.getElem?_toArray, List.getElem?_cons_succ, List.getElem?_cons_zero]; rfl) (by kernel_rfl) (by kernel_rfl) (by kernel_rfl) (fun _ _ _ h => h) (Or.inl ⟨by rfl, ?_⟩) hS ?_
      rotate_left
      · (intro w' hSw; (try dsimp only at hSw); go_simp; try with_reducible rfl)
      simp only [Act.put, List.setIfInBounds_toArray, List.set_cons_zero, List.set_cons_succ]
      refine wpAnyH_take (i := 11) (oi := _) (v := undef) (by simp only [List.getElem?_toArray, List.getElem?_cons_succ, List.getElem?_cons_zero]; rfl) (by kernel_rfl) (by kernel_rfl) (by kernel_rfl) (fun _ _ _ h => h) (Or.inr ⟨by rfl, rfl⟩) hS ?_
      simp only [Act.put, List.setIfInBounds_toArray, List.set_cons_zero, List.set_cons_succ]
      refine wpAnyH_take (i := 12) (oi := _) (v := undef) (by simp only [List.getElem?_toArray, List.getElem?_cons_succ, List.getElem?_cons_zero]; rfl) (by kernel_rfl) (by kernel_rfl) (by kernel_rfl) (fun _ _ _ h => h) (Or.inr ⟨by rfl, rfl⟩) hS ?_
      simp only [Act.put, List.setIfInBounds_toArray, List.set_cons_zero, List.set_cons_succ]
      refine wpAnyH_take (i := 13) (oi := _) (v := undef) (by simp only [List.getElem?_toArray, List.getElem?_cons_succ, List.getElem?_cons_zero]; rfl) (by kernel_rfl) (by kernel_rfl) (by kernel_rfl) (fun _ _ _ h => h) (Or.inr ⟨by rfl, rfl⟩) hS ?_
      simp only [Act.put, List.setIfInBounds_toArray, List.set_cons_zero, List.set_cons_succ]
      refine wpAnyH_take (i := 14) (oi := _) (v := undef) (by simp only [List.getElem?_toArray, List.getElem?_cons_succ, List.getElem?_cons_zero]; rfl) (by kernel_rfl) (by kernel_rfl) (by kernel_rfl) (fun _ _ _ h => h) (Or.inr ⟨by rfl, rfl⟩) hS ?_
      simp only [Act.put, List.setIfInBounds_toArray, List.set_cons_zero, List.set_cons_succ]
      refine wpAnyH_take (i := 15) (oi := _) (v := undef) (by simp only [List.getElem?_toArray, List.getElem?_cons_succ, List.getElem?_cons_zero]; rfl) (by kernel_rfl) (by kernel_rfl) (by kernel_rfl) (fun _ _ _ h => h) (Or.inr ⟨by rfl, rfl⟩) hS ?_
      simp only [Act.put, List.setIfInBounds_toArray, List.set_cons_zero, List.set_cons_succ]
      refine wpAnyH_take (i := 16) (oi := _) (v := undef) (by simp only [List.getElem?_toArray, List.getElem?_cons_succ, List.getElem?_cons_zero]; rfl) (by kernel_rfl) (by kernel_rfl) (by kernel_rfl) (fun _ _ _ h => h) (Or.inr ⟨by rfl, rfl⟩) hS ?_
      simp only [Act.put, List.setIfInBounds_toArray, List.set_cons_zero, List.set_cons_succ]
      refine wpAnyH_take (i := 17) (oi := _) (v := undef) (by simp only [List.getElem?_toArray, List.getElem?_cons_succ, List.getElem?_cons_zero]; rfl) (by kernel_rfl) (by kernel_rfl) (by kernel_rfl) (fun _ _ _ h => h) (Or.inr ⟨by rfl, rfl⟩) hS ?_
      simp only [Act.put, List.setIfInBounds_toArray, List.set_cons_zero, List.set_cons_succ]
      refine wpAnyH_take (i := 18) (oi := _) (v := undef) (by simp only [List.getElem?_toArray, List.getElem?_cons_succ, List.getElem?_cons_zero]; rfl) (by kernel_rfl) (by kernel_rfl) (by kernel_rfl) (fun _ _ _ h => h) (Or.inr ⟨by rfl, rfl⟩) hS ?_
      simp only [Act.put, List.setIfInBounds_toArray, List.set_cons_zero, List.set_cons_succ]
      refine wpAnyH_take (i := 19) (oi := _) (v := undef) (by simp only [List.getElem?_toArray, List.getElem?_cons_succ, List.getElem?_cons_zero]; rfl) (by kernel_rfl) (by kernel_rfl) (by kernel_rfl) (fun _ _ _ h => h) (Or.inr ⟨by rfl, rfl⟩) hS ?_
      simp only [Act.put, List.setIfInBounds_toArray, List.set_cons_zero, List.set_cons_succ]
      refine wpAnyH_take (i := 20) (oi := _) (v := undef) (by simp only [List.getElem?_toArray, List.getElem?_cons_succ, List.getElem?_cons_zero]; rfl) (by kernel_rfl) (by kernel_rfl) (by kernel_rfl) (fun _ _ _ h => h) (Or.inr ⟨by rfl, rfl⟩) hS ?_
      simp only [Act.put, List.setIfInBounds_toArray, List.set_cons_zero, List.set_cons_succ]
      refine wpAnyH_take (i := 21) (oi := _) (v := undef) (by simp only [List.getElem?_toArray, List.getElem?_cons_succ, List.getElem?_cons_zero]; rfl) (by kernel_rfl) (by kernel_rfl) (by kernel_rfl) (fun _ _ _ h => h) (Or.inr ⟨by rfl, rfl⟩) hS ?_
      simp only [Act.put, List.setIfInBounds_toArray, List.set_cons_zero, List.set_cons_succ]
      refine wpAnyH_take (i := 22) (oi := _) (v := undef) (by simp only [List.getElem?_toArray, List.getElem?_cons_succ, List.getElem?_cons_zero]; rfl) (by kernel_rfl) (by kernel_rfl) (by kernel_rfl) (fun _ _ _ h => h) (Or.inr ⟨by rfl, rfl⟩) hS ?_
      simp only [Act.put, List.setIfInBounds_toArray, List.set_cons_zero, List.set_cons_succ]
      refine wpAnyH_take (i := 23) (oi := _) (v := undef) (by simp only [List.getElem?_toArray, List.getElem?_cons_succ, List.getElem?_cons_zero]; rfl) (by kernel_rfl) (by kernel_rfl) (by kernel_rfl) (fun _ _ _ h => h) (Or.inr ⟨by rfl, rfl⟩) hS ?_
      simp only [Act.put, List.setIfInBounds_toArray, List.set_cons_zero, List.set_cons_succ]
      refine wpAnyH_take (i := 24) (oi := _) (v := undef) (by simp only [List.getElem?_toArray, List.getElem?_cons_succ, List.getElem?_cons_zero]; rfl) (by kernel_rfl) (by kernel_rfl) (by kernel_rfl) (fun _ _ _ h => h) (Or.inr ⟨by rfl, rfl⟩) hS ?_
      simp only [Act.put, List.setIfInBounds_toArray, List.set_cons_zero, List.set_cons_succ]
      refine wpAnyH_take (i := 25) (oi := _) (v := ?_) (by simp only [List.getElem?_toArray, List.getElem?_cons_succ, List.getElem?_cons_zero]; rfl) (by kernel_rfl) (by kernel_rfl) (by kernel_rfl) (fun _ _ _ h => h) (Or.inl ⟨by rfl, ?_⟩) hS ?_
      rotate_left
      · (intro w' hSw; (try dsimp only at hSw); go_simp; try with_reducible rfl)
      simp only [Act.put, List.setIfInBounds_toArray, List.set_cons_zero, List.set_cons_succ]
      refine wpAnyH_done (by kernel_rfl) ?_ _
      refine NoPanic.normal ?_
      clear hS
      go_wp2
      go_ret
      exact ⟨rfl, (unhide BX).drew⟩
    · have h2d : decide (x < I) = false := by simp; omega
      by_cases hk0 : k = 0
      · have hp : ¬ 0 < k := by omega
        have hp' : ¬ (0 : Int) < (k : Int) := by omega
        have HK0 := hide hk0
        clear hk0
        refine wp_region_noPanic ?_
        refine wp_region_held_drew (S := fun w' => w'.cell? ⟨w.heap.size + 1, 0, none⟩ = some (.int .u64 I) ∧ w'.cell? ⟨w.heap.size, 2, none⟩ = some (.int .u64 x) ∧ w'.cell? ⟨w.heap.size, 4, none⟩ = some (.slice (some ⟨b, o, none⟩) n c)) (by kernel_rfl) (by exact ⟨unhide KA, unhide KB, unhide KC⟩) (fun hS => ?_)
        refine wpAnyH_take (i := 0) (oi := _) (v := ?_) (by simp only [List.getElem?_toArray, List.getElem?_cons_succ, List.getElem?_cons_zero]; rfl) (by kernel_rfl) (by kernel_rfl) (by kernel_rfl) (fun _ _ _ h => h) (Or.inl ⟨by rfl, ?_⟩) hS ?_
        rotate_left
        · (intro w' hSw; (try dsimp only at hSw); go_simp; try with_reducible rfl)
        simp only [Act.put, List.setIfInBounds_toArray, List.set_cons_zero, List.set_cons_succ]
        refine wpAnyH_take (i := 1) (oi := _) (v := ?_) (by simp only [List.getElem?_toArray, List.getElem?_cons_succ, List.getElem?_cons_zero]; rfl) (by kernel_rfl) (by kernel_rfl) (by kernel_rfl) (fun _ _ _ h => h) (Or.inl ⟨by rfl, ?_⟩) hS ?_
        rotate_left
        · (intro w' hSw; (try dsimp only at hSw); go_simp; try with_reducible rfl)
        simp only [Act.put, List.setIfInBounds_toArray, List.set_cons_zero, List.set_cons_succ]
        refine wpAnyH_take (i := 2) (oi := _) (v := ?_) (by simp only [List.getElem?_toArray, List.getElem?_cons_succ, List.getElem?_cons_zero]; rfl) (by kernel_rfl) (by kernel_rfl) (by kernel_rfl) (fun _ _ _ h => h) (Or.inl ⟨by rfl, ?_⟩) hS ?_
        rotate_left
        · (intro w' hSw; (try dsimp only at hSw); go_simp; try with_reducible rfl)
        simp only [Act.put, List.setIfInBounds_toArray, List.set_cons_zero, List.set_cons_succ]
        refine wpAnyH_take (i := 3) (oi := _) (v := ?_) (by simp only [List.getElem?_toArray, List.getElem?_cons_succ, List.getElem?_cons_zero]; rfl) (by kernel_rfl) (by kernel_rfl) (by kernel_rfl) (fun _ _ _ h => h) (Or.inl ⟨by rfl, ?_⟩) hS ?_
        rotate_left
        · (intro w' hSw; (try dsimp only at hSw); go_simp; try with_reducible rfl)
        simp only [Act.put, List.setIfInBounds_toArray, List.set_cons_zero, List.set_cons_succ]
        refine wpAnyH_take (i := 4) (oi := _) (v := ?_) (by simp only [List.getElem?_toArray, List.getElem?_cons_succ, List.getElem?_cons_zero]; rfl) (by kernel_rfl) (by kernel_rfl) (by kernel_rfl) (fun _ _ _ h => h) (Or.inl ⟨by rfl, ?_⟩) hS ?_
        rotate_left
        · (intro w' hSw; (try dsimp only at hSw); go_simp; try with_reducible rfl)
        simp only [Act.put, List.setIfInBounds_toArray, List.set_cons_zero, List.set_cons_succ]
        refine wpAnyH_take (i := 5) (oi := _) (v := ?_) (by simp only [List.getElem?_toArray, List.getElem?_cons_succ, List.getElem?_cons_zero]; rfl) (by kernel_rfl) (by kernel_rfl) (by kernel_rfl) (fun _ _ _ h => h) (Or.inl ⟨by rfl, ?_⟩) hS ?_
        rotate_left
        · (intro w' hSw; (try dsimp only at hSw); go_simp; try with_reducible rfl)
        simp only [Act.put, List.setIfInBounds_toArray, List.set_cons_zero, List.set_cons_succ]
        refine wpAnyH_take (i := 6) (oi := _) (v := ?_) (by simp only [List.getElem?_toArray, List.getElem?_cons_succ, List.getElem?_cons_zero]; rfl) (by kernel_rfl) (by kernel_rfl) (by kernel_rfl) (fun _ _ _ h => h) (Or.inl ⟨by rfl, ?_⟩) hS ?_
        rotate_left
        · (intro w' hSw; (try dsimp only at hSw); go_simp; try with_reducible rfl)
        simp only [Act.put, List.setIfInBounds_toArray, List.set_cons_zero, List.set_cons_succ]
        refine wpAnyH_take (i := 7) (oi := _) (v := ?_) (by simp only [List.getElem?_toArray, List.getElem?_cons_succ, List.getElem?_cons_zero]; rfl) (by kernel_rfl) (by kernel_rfl) (by kernel_rfl) (fun _ _ _ h => h) (Or.inl ⟨by rfl, ?_⟩) hS ?_
        rotate_left
        · (intro w' hSw; (try dsimp only at hSw); go_simp; try with_reducible rfl)
        simp only [Act.put, List.setIfInBounds_toArray, List.set_cons_zero, List.set_cons_succ]
        refine wpAnyH_take (i := 8) (oi := _) (v := ?_) (by simp only [List.getElem?_toArray, List.getElem?_cons_succ, List.getElem?_cons_zero]; rfl) (by kernel_rfl) (by kernel_rfl) (by kernel_rfl) (fun _ _ _ h => h) (Or.inl ⟨by rfl, ?_⟩) hS ?_
        rotate_left
        · (intro w' hSw; (try dsimp only at hSw); go_simp; try with_reducible rfl)
        simp only [Act.put, List.setIfInBounds_toArray, List.set_cons_zero, List.set_cons_succ]
        refine wpAnyH_take (i := 9) (oi := _) (v := ?_) (by simp only [List.getElem?_toArray, List.getElem?_cons_succ, List.getElem?_cons_zero]; rfl) (by kernel_rfl) (by kernel_rfl) (by kernel_rfl) (fun _ _ _ h => h) (Or.inl ⟨by rfl, ?_⟩) hS ?_
        rotate_left
        · (intro w' hSw; (try dsimp only at hSw); go_simp; try with_reducible rfl)
        simp only [Act.put, List.setIfInBounds_toArray, List.set_cons_zero, List.set_cons_succ]
        refine wpAnyH_take (i := 10) (oi := _) (v := ?_) (by simp only [List.getElem?_toArray, List.getElem?_cons_succ, List.getElem?_cons_zero]; rfl) (by kernel_rfl) (by kernel_rfl) (by kernel_rfl) (fun _ _ _ h => h) (Or.inl ⟨by rfl, ?_⟩) hS ?_
        rotate_left
        · (intro w' hSw; (try dsimp only at hSw); go_simp; try with_reducible rfl)
        simp only [Act.put, List.setIfInBounds_toArray, List.set_cons_zero, List.set_cons_succ]
        refine wpAnyH_take (i := 11) (oi := _) (v := ?_) (by simp only [List.getElem?_toArray, List.getElem?_cons_succ, List.getElem?_cons_zero]; rfl) (by kernel_rfl) (by kernel_rfl) (by kernel_rfl) (fun _ _ _ h => h) (Or.inl ⟨by rfl, ?_⟩) hS ?_
        rotate_left
        · (intro w' hSw; (try dsimp only at hSw); go_simp; try with_reducible rfl)
        simp only [Act.put, List.setIfInBounds_toArray, List.set_cons_zero, List.set_cons_succ]
        refine wpAnyH_take (i := 12) (oi := _) (v := ?_) (by simp only [List.getElem?_toArray, List.getElem?_cons_succ, List.getElem?_cons_zero]; rfl) (by kernel_rfl) (by kernel_rfl) (by kernel_rfl) (fun _ _ _ h => h) (Or.inl ⟨by rfl, ?_⟩) hS ?_
        rotate_left
        · (intro w' hSw; (try dsimp only at hSw); go_simp; try with_reducible rfl)
        simp only [Act.put, List.setIfInBounds_toArray, List.set_cons_zero, List.set_cons_succ]
        refine wpAnyH_take (i := 13) (oi := _) (v := ?_) (by simp only [List.getElem?_toArray, List.getElem?_cons_succ, List.getElem?_cons_zero]; rfl) (by kernel_rfl) (by kernel_rfl) (by kernel_rfl) (fun _ _ _ h => h) (Or.inl ⟨by rfl, ?_⟩) hS ?_
        rotate_left
        · (intro w' hSw; (try dsimp only at hSw); go_simp; try with_reducible rfl)
        simp only [Act.put, List.setIfInBounds_toArray, List.set_cons_zero, List.set_cons_succ]
        refine wpAnyH_take (i := 14) (oi := _) (v := undef) (by simp only [List.getElem?_toArray, List.getElem?_cons_succ, List.getElem?_cons_zero]; rfl) (by kernel_rfl) (by kernel_rfl) (by kernel_rfl) (fun _ _ _ h => h) (Or.inr ⟨by rfl, rfl⟩) hS ?_
        simp only [Act.put, List.setIfInBounds_toArray, List.set_cons_zero, List.set_cons_succ]
        refine wpAnyH_take (i := 15) (oi := _) (v := undef) (by simp only [List.getElem?_toArray, List.getElem?_cons_succ, List.getElem?_cons_zero]; rfl) (by kernel_rfl) (by kernel_rfl) (by kernel_rfl) (fun _ _ _ h => h) (Or.inr ⟨by rfl, rfl⟩) hS ?_
        simp only [Act.put, List.setIfInBounds_toArray, List.set_cons_zero, List.set_cons_succ]
        refine wpAnyH_take (i := 16) (oi := _) (v := undef) (by simp only [List.getElem?_toArray, List.getElem?_cons_succ, List.getElem?_cons_zero]; rfl) (by kernel_rfl) (by kernel_rfl) (by kernel_rfl) (fun _ _ _ h => h) (Or.inr ⟨by rfl, rfl⟩) hS ?_
        simp only [Act.put, List.setIfInBounds_toArray, List.set_cons_zero, List.set_cons_succ]
        refine wpAnyH_take (i := 17) (oi := _) (v := undef) (by simp only [List.getElem?_toArray, List.getElem?_cons_succ, List.getElem?_cons_zero]; rfl) (by kernel_rfl) (by kernel_rfl) (by kernel_rfl) (fun _ _ _ h => h) (Or.inr ⟨by rfl, rfl⟩) hS ?_
        simp only [Act.put, List.setIfInBounds_toArray, List.set_cons_zero, List.set_cons_succ]
        refine wpAnyH_take (i := 18) (oi := _) (v := undef) (by simp only [List.getElem?_toArray, List.getElem?_cons_succ, List.getElem?_cons_zero]; rfl) (by kernel_rfl) (by kernel_rfl) (by kernel_rfl) (fun _ _ _ h => h) (Or.inr ⟨by rfl, rfl⟩) hS ?_
        simp only [Act.put, List.setIfInBounds_toArray, List.set_cons_zero, List.set_cons_succ]
        refine wpAnyH_take (i := 19) (oi := _) (v := undef) (by simp only [List.getElem?_toArray, List.getElem?_cons_succ, List.getElem?_cons_zero]; rfl) (by kernel_rfl) (by kernel_rfl) (by kernel_rfl) (fun _ _ _ h => h) (Or.inr ⟨by rfl, rfl⟩) hS ?_
        simp only [Act.put, List.setIfInBounds_toArray, List.set_cons_zero, List.set_cons_succ]
        refine wpAnyH_take (i := 20) (oi := _) (v := undef) (by simp only [List.getElem?_toArray, List.getElem?_cons_succ, List.getElem?_cons_zero]; rfl) (by kernel_rfl) (by kernel_rfl) (by kernel_rfl) (fun _ _ _ h => h) (Or.inr ⟨by rfl, rfl⟩) hS ?_
        simp only [Act.put, List.setIfInBounds_toArray, List.set_cons_zero, List.set_cons_succ]
        refine wpAnyH_take (i := 21) (oi := _) (v := undef) (by simp only [List.getElem?_toArray, List.getElem?_cons_succ, List.getElem?_cons_zero]; rfl) (by kernel_rfl) (by kernel_rfl) (by kernel_rfl) (fun _ _ _ h => h) (Or.inr ⟨by rfl, rfl⟩) hS ?_
        simp only [Act.put, List.setIfInBounds_toArray, List.set_cons_zero, List.set_cons_succ]
        refine wpAnyH_take (i := 22) (oi := _) (v := undef) (by simp only [List.getElem?_toArray, List.getElem?_cons_succ, List.getElem?_cons_zero]; rfl) (by kernel_rfl) (by kernel_rfl) (by kernel_rfl) (fun _ _ _ h => h) (Or.inr ⟨by rfl, rfl⟩) hS ?_
        simp only [Act.put, List.setIfInBounds_toArray, List.set_cons_zero, List.set_cons_succ]
        refine wpAnyH_take (i := 23) (oi := _) (v := undef) (by simp only [List.getElem?_toArray, List.getElem?_cons_succ, List.getElem?_cons_zero]; rfl) (by kernel_rfl) (by kernel_rfl) (by kernel_rfl) (fun _ _ _ h => h) (Or.inr ⟨by rfl, rfl⟩) hS ?_
        simp only [Act.put, List.setIfInBounds_toArray, List.set_cons_zero, List.set_cons_succ]
        refine wpAnyH_take (i := 24) (oi := _) (v := ?_) (by simp only [List.getElem?_toArray, List.getElem?_cons_succ, List.getElem?_cons_zero]; rfl) (by kernel_rfl) (by kernel_rfl) (by kernel_rfl) (fun _ _ _ h => h) (Or.inl ⟨by rfl, ?_⟩) hS ?_
        rotate_left
        · (intro w' hSw; (try dsimp only at hSw); go_simp; try with_reducible rfl)
        simp only [Act.put, List.setIfInBounds_toArray, List.set_cons_zero, List.set_cons_succ]
        refine wpAnyH_take (i := 25) (oi := _) (v := ?_) (by simp only [List.getElem?_toArray, List.getElem?_cons_succ, List.getElem?_cons_zero]; rfl) (by kernel_rfl) (by kernel_rfl) (by kernel_rfl) (fun _ _ _ h => h) (Or.inl ⟨by rfl, ?_⟩) hS ?_
        rotate_left
        · (intro w' hSw; (try dsimp only at hSw); go_simp; try with_reducible rfl)
        simp only [Act.put, List.setIfInBounds_toArray, List.set_cons_zero, List.set_cons_succ]
        refine wpAnyH_done (by kernel_rfl) ?_ _
        refine NoPanic.normal ?_
        clear hS
        have hat := unhide HAT
        rw [show (k == 0) = true by simp [unhide HK0]] at hat
        by_cases h5 : D < 0
        · have eF : B = false := by rw [hat]; simp; omega
          subst eF
          clear hat
          have h5' : D < 0 := h5
          go_wp2
          go_ret
          exact ⟨rfl, (unhide BX).drew⟩
        · by_cases h6 : 1000015 < D
          · have eF : B = false := by rw [hat]; simp; omega
            subst eF
            clear hat
            go_wp2
            go_ret
            exact ⟨rfl, (unhide BX).drew⟩
          · have eQ : B = T := by rw [hat]; simp [show 1 ≤ I by omega, show I ≤ x by omega, show 0 ≤ D by omega, show D ≤ 1000015 by omega]
            subst eQ
            clear hat
            go_wp2_with fail
            refine (l3queueOK_any pq cq m Q EM _ (by exact (unhide HRQ).below (unhide BX).drew) hm HBQ B ET).mono ?_
            rintro r w2 ⟨rfl, hb2⟩
            have b2 := Below.step (unhide BX).drew hb2
            clear hb2
            go_wp2
            go_ret
            exact ⟨rfl, b2⟩
      · obtain ⟨j, ej⟩ : ∃ j : Nat, (k : Int) - 1 = (j : Int) := ⟨k - 1, by omega⟩
        have ej0 : k - 1 = j := by omega
        have hjl : j < ss.length := by have := unhide HL; omega
        obtain ⟨⟨z, zz⟩, hz⟩ : ∃ y, ss[j]? = some y := ⟨_, List.getElem?_eq_getElem hjl⟩
        have hzD : (ss.getD j (0, 0, [])).1 = z := by rw [List.getD_eq_getElem?_getD, hz]; rfl
        have hat := unhide HAT
        rw [ej0, hzD] at hat
        have kZ := cell_below (unhide HCA j _ hz).1 (unhide BX)
        have KZ : Hid (X.cell? ⟨b, o + j * 3, none⟩ = some (.int .u64 z)) := kZ
        have hp : 0 < k := by omega
        have hp' : (0 : Int) < (k : Int) := by omega
        have hjm : (j : Int) < (n : Int) := by omega
        have hj0 : (0 : Int) ≤ (j : Int) := by omega
        have wj : IntKind.i64.wrap (j : Int) = (j : Int) := IntWalk.i64_in _ (by omega)
        rw [show (k == 0) = false by simp [hk0], Bool.false_or] at hat
        have HAT2 : Hid (B = (decide (1 ≤ I) && (decide (I ≤ x) && (decide (z < I) && (decide (0 ≤ D) && (decide (D ≤ 1000015) && T)))))) := hat
        clear hat
        clear hz hzD hjl kZ ej0 hk0
        by_cases hzI : z < I
        · have hle : ¬ I ≤ z := by omega
          have hled : decide (I ≤ z) = false := by simp; omega
          refine wp_region_noPanic ?_
          refine wp_region_held_drew (S := fun w' => w'.cell? ⟨w.heap.size + 1, 0, none⟩ = some (.int .u64 I) ∧ w'.cell? ⟨w.heap.size, 2, none⟩ = some (.int .u64 x) ∧ w'.cell? ⟨w.heap.size, 4, none⟩ = some (.slice (some ⟨b, o, none⟩) n c) ∧ w'.cell? ⟨b, o + j * 3, none⟩ = some (.int .u64 z)) (by kernel_rfl) (by exact ⟨unhide KA, unhide KB, unhide KC, unhide KZ⟩) (fun hS => ?_)
          refine wpAnyH_take (i := 0) (oi := _) (v := ?_) (by simp only [List.getElem?_toArray, List.getElem?_cons_succ, List.getElem?_cons_zero]; rfl) (by kernel_rfl) (by kernel_rfl) (by kernel_rfl) (fun _ _ _ h => h) (Or.inl ⟨by rfl, ?_⟩) hS ?_
          rotate_left
          · (intro w' hSw; (try dsimp only at hSw); go_simp; try with_reducible rfl)
          simp only [Act.put, List.setIfInBounds_toArray, List.set_cons_zero, List.set_cons_succ]
          refine wpAnyH_take (i := 1) (oi := _) (v := ?_) (by simp only [List.getElem?_toArray, List.getElem?_cons_succ, List.getElem?_cons_zero]; rfl) (by kernel_rfl) (by kernel_rfl) (by kernel_rfl) (fun _ _ _ h => h) (Or.inl ⟨by rfl, ?_⟩) hS ?_
          rotate_left
          · (intro w' hSw; (try dsimp only at hSw); go_simp; try with_reducible rfl)
          simp only [Act.put, List.setIfInBounds_toArray, List.set_cons_zero, List.set_cons_succ]
          refine wpAnyH_take (i := 2) (oi := _) (v := ?_) (by simp only [List.getElem?_toArray, List.getElem?_cons_succ, List.getElem?_cons_zero]; rfl) (by kernel_rfl) (by kernel_rfl) (by kernel_rfl) (fun _ _ _ h => h) (Or.inl ⟨by rfl, ?_⟩) hS ?_
          rotate_left
          · (intro w' hSw; (try dsimp only at hSw); go_simp; try with_reducible rfl)
          simp only [Act.put, List.setIfInBounds_toArray, List.set_cons_zero, List.set_cons_succ]
          refine wpAnyH_take (i := 3) (oi := _) (v := ?_) (by simp only [List.getElem?_toArray, List.getElem?_cons_succ, List.getElem?_cons_zero]; rfl) (by kernel_rfl) (by kernel_rfl) (by kernel_rfl) (fun _ _ _ h => h) (Or.inl ⟨by rfl, ?_⟩) hS ?_
          rotate_left
          · (intro w' hSw; (try dsimp only at hSw); go_simp; try with_reducible rfl)
          simp only [Act.put, List.setIfInBounds_toArray, List.set_cons_zero, List.set_cons_succ]
          refine wpAnyH_take (i := 4) (oi := _) (v := ?_) (by simp only [List.getElem?_toArray, List.getElem?_cons_succ, List.getElem?_cons_zero]; rfl) (by kernel_rfl) (by kernel_rfl) (by kernel_rfl) (fun _ _ _ h => h) (Or.inl ⟨by rfl, ?_⟩) hS ?_
          rotate_left
          · (intro w' hSw; (try dsimp only at hSw); go_simp; try with_reducible rfl)
          simp only [Act.put, List.setIfInBounds_toArray, List.set_cons_zero, List.set_cons_succ]
          refine wpAnyH_take (i := 5) (oi := _) (v := ?_) (by simp only [List.getElem?_toArray, List.getElem?_cons_succ, List.getElem?_cons_zero]; rfl) (by kernel_rfl) (by kernel_rfl) (by kernel_rfl) (fun _ _ _ h => h) (Or.inl ⟨by rfl, ?_⟩) hS ?_
          rotate_left
          · (intro w' hSw; (try dsimp only at hSw); go_simp; try with_reducible rfl)
          simp only [Act.put, List.setIfInBounds_toArray, List.set_cons_zero, List.set_cons_succ]
          refine wpAnyH_take (i := 6) (oi := _) (v := ?_) (by simp only [List.getElem?_toArray, List.getElem?_cons_succ, List.getElem?_cons_zero]; rfl) (by kernel_rfl) (by kernel_rfl) (by kernel_rfl) (fun _ _ _ h => h) (Or.inl ⟨by rfl, ?_⟩) hS ?_
          rotate_left
          · (intro w' hSw; (try dsimp only at hSw); go_simp; try with_reducible rfl)
          simp only [Act.put, List.setIfInBounds_toArray, List.set_cons_zero, List.set_cons_succ]
          refine wpAnyH_take (i := 7) (oi := _) (v := ?_) (by simp only [List.getElem?_toArray, List.getElem?_cons_succ, List.getElem?_cons_zero]; rfl) (by kernel_rfl) (by kernel_rfl) (by kernel_rfl) (fun _ _ _ h => h) (Or.inl ⟨by rfl, ?_⟩) hS ?_
          rotate_left
          · (intro w' hSw; (try dsimp only at hSw); go_simp; try with_reducible rfl)
          simp only [Act.put, List.setIfInBounds_toArray, List.set_cons_zero, List.set_cons_succ]
          refine wpAnyH_take (i := 8) (oi := _) (v := ?_) (by simp only [List.getElem?_toArray, List.getElem?_cons_succ, List.getElem?_cons_zero]; rfl) (by kernel_rfl) (by kernel_rfl) (by kernel_rfl) (fun _ _ _ h => h) (Or.inl ⟨by rfl, ?_⟩) hS ?_
          rotate_left
          · (intro w' hSw; (try dsimp only at hSw); go_simp; try with_reducible rfl)
          simp only [Act.put, List.setIfInBounds_toArray, List.set_cons_zero, List.set_cons_succ]
          refine wpAnyH_take (i := 9) (oi := _) (v := ?_) (by simp only [List.getElem?_toArray, List.getElem?_cons_succ, List.getElem?_cons_zero]; rfl) (by kernel_rfl) (by kernel_rfl) (by kernel_rfl) (fun _ _ _ h => h) (Or.inl ⟨by rfl, ?_⟩) hS ?_
          rotate_left
          · (intro w' hSw; (try dsimp only at hSw); go_simp; try with_reducible rfl)
          simp only [Act.put, List.setIfInBounds_toArray, List.set_cons_zero, List.set_cons_succ]
          refine wpAnyH_take (i := 10) (oi := _) (v := ?_) (by simp only [List.getElem?_toArray, List.getElem?_cons_succ, List.getElem?_cons_zero]; rfl) (by kernel_rfl) (by kernel_rfl) (by kernel_rfl) (fun _ _ _ h => h) (Or.inl ⟨by rfl, ?_⟩) hS ?_
          rotate_left
          · (intro w' hSw; (try dsimp only at hSw); go_simp; try with_reducible rfl)
          simp only [Act.put, List.setIfInBounds_toArray, List.set_cons_zero, List.set_cons_succ]
          refine wpAnyH_take (i := 11) (oi := _) (v := ?_) (by simp only [List.getElem?_toArray, List.getElem?_cons_succ, List.getElem?_cons_zero]; rfl) (by kernel_rfl) (by kernel_rfl) (by kernel_rfl) (fun _ _ _ h => h) (Or.inl ⟨by rfl, ?_⟩) hS ?_
          rotate_left
          · (intro w' hSw; (try dsimp only at hSw); go_simp; try with_reducible rfl)
          simp only [Act.put, List.setIfInBounds_toArray, List.set_cons_zero, List.set_cons_succ]
          refine wpAnyH_take (i := 12) (oi := _) (v := ?_) (by simp only [List.getElem?_toArray, List.getElem?_cons_succ, List.getElem?_cons_zero]; rfl) (by kernel_rfl) (by kernel_rfl) (by kernel_rfl) (fun _ _ _ h => h) (Or.inl ⟨by rfl, ?_⟩) hS ?_
          rotate_left
          · (intro w' hSw; (try dsimp only at hSw); go_simp; try with_reducible rfl)
          simp only [Act.put, List.setIfInBounds_toArray, List.set_cons_zero, List.set_cons_succ]
          refine wpAnyH_take (i := 13) (oi := _) (v := ?_) (by simp only [List.getElem?_toArray, List.getElem?_cons_succ, List.getElem?_cons_zero]; rfl) (by kernel_rfl) (by kernel_rfl) (by kernel_rfl) (fun _ _ _ h => h) (Or.inl ⟨by rfl, ?_⟩) hS ?_
          rotate_left
          · (intro w' hSw; (try dsimp only at hSw); go_simp; try with_reducible rfl)
          simp only [Act.put, List.setIfInBounds_toArray, List.set_cons_zero, List.set_cons_succ]
          refine wpAnyH_take (i := 14) (oi := _) (v := ?_) (by simp only [List.getElem?_toArray, List.getElem?_cons_succ, List.getElem?_cons_zero]; rfl) (by kernel_rfl) (by kernel_rfl) (by kernel_rfl) (fun _ _ _ h => h) (Or.inl ⟨by rfl, ?_⟩) hS ?_
          rotate_left
          · (intro w' hSw; (try dsimp only at hSw); go_simp; try with_reducible rfl)
          simp only [Act.put, List.setIfInBounds_toArray, List.set_cons_zero, List.set_cons_succ]
          refine wpAnyH_take (i := 15) (oi := _) (v := ?_) (by simp only [List.getElem?_toArray, List.getElem?_cons_succ, List.getElem?_cons_zero]; rfl) (by kernel_rfl) (by kernel_rfl) (by kernel_rfl) (fun _ _ _ h => h) (Or.inl ⟨by rfl, ?_⟩) hS ?_
          rotate_left
          · (intro w' hSw; (try dsimp only at hSw); go_simp; try with_reducible rfl)
          simp only [Act.put, List.setIfInBounds_toArray, List.set_cons_zero, List.set_cons_succ]
          refine wpAnyH_take (i := 16) (oi := _) (v := ?_) (by simp only [List.getElem?_toArray, List.getElem?_cons_succ, List.getElem?_cons_zero]; rfl) (by kernel_rfl) (by kernel_rfl) (by kernel_rfl) (fun _ _ _ h => h) (Or.inl ⟨by rfl, ?_⟩) hS ?_
          rotate_left
          · (intro w' hSw; (try dsimp only at hSw); go_simp; try with_reducible rfl)
          simp only [Act.put, List.setIfInBounds_toArray, List.set_cons_zero, List.set_cons_succ]
          refine wpAnyH_take (i := 17) (oi := _) (v := ?_) (by simp only [List.getElem?_toArray, List.getElem?_cons_succ, List.getElem?_cons_zero]; rfl) (by kernel_rfl) (by kernel_rfl) (by kernel_rfl) (fun _ _ _ h => h) (Or.inl ⟨by rfl, ?_⟩) hS ?_
          rotate_left
          · (intro w' hSw; (try dsimp only at hSw); go_simp; try with_reducible rfl)
          simp only [Act.put, List.setIfInBounds_toArray, List.set_cons_zero, List.set_cons_succ]
          refine wpAnyH_take (i := 18) (oi := _) (v := ?_) (by simp only [List.getElem?_toArray, List.getElem?_cons_succ, List.getElem?_cons_zero]; rfl) (by kernel_rfl) (by kernel_rfl) (by kernel_rfl) (fun _ _ _ h => h) (Or.inl ⟨by rfl, ?_⟩) hS ?_
          rotate_left
          · (intro w' hSw; (try dsimp only at hSw); go_simp; try with_reducible rfl)
          simp only [Act.put, List.setIfInBounds_toArray, List.set_cons_zero, List.set_cons_succ]
          refine wpAnyH_take (i := 19) (oi := _) (v := ?_) (by simp only [List.getElem?_toArray, List.getElem?_cons_succ, List.getElem?_cons_zero]; rfl) (by kernel_rfl) (by kernel_rfl) (by kernel_rfl) (fun _ _ _ h => h) (Or.inl ⟨by rfl, ?_⟩) hS ?_
          rotate_left
          · (intro w' hSw; (try dsimp only at hSw); go_simp; try with_reducible rfl)
          simp only [Act.put, List.setIfInBounds_toArray, List.set_cons_zero, List.set_cons_succ]
          refine wpAnyH_take (i := 20) (oi := _) (v := ?_) (by simp only [List.getElem?_toArray, List.getElem?_cons_succ, List.getElem?_cons_zero]; rfl) (by kernel_rfl) (by kernel_rfl) (by kernel_rfl) (fun _ _ _ h => h) (Or.inl ⟨by rfl, ?_⟩) hS ?_
          rotate_left
          · (intro w' hSw; (try dsimp only at hSw); go_simp; try with_reducible rfl)
          simp only [Act.put, List.setIfInBounds_toArray, List.set_cons_zero, List.set_cons_succ]
          refine wpAnyH_take (i := 21) (oi := _) (v := ?_) (by simp only [List.getElem?_toArray, List.getElem?_cons_succ, List.getElem?_cons_zero]; rfl) (by kernel_rfl) (by kernel_rfl) (by kernel_rfl) (fun _ _ _ h => h) (Or.inl ⟨by rfl, ?_⟩) hS ?_
          rotate_left
          · (intro w' hSw; (try dsimp only at hSw); go_simp; try with_reducible rfl)
          simp only [Act.put, List.setIfInBounds_toArray, List.set_cons_zero, List.set_cons_succ]
          refine wpAnyH_take (i := 22) (oi := _) (v := ?_) (by simp only [List.getElem?_toArray, List.getElem?_cons_succ, List.getElem?_cons_zero]; rfl) (by kernel_rfl) (by kernel_rfl) (by kernel_rfl) (fun _ _ _ h => h) (Or.inl ⟨by rfl, ?_⟩) hS ?_
          rotate_left
          · (intro w' hSw; (try dsimp only at hSw); go_simp; try with_reducible rfl)
          simp only [Act.put, List.setIfInBounds_toArray, List.set_cons_zero, List.set_cons_succ]
          refine wpAnyH_take (i := 23) (oi := _) (v := ?_) (by simp only [List.getElem?_toArray, List.getElem?_cons_succ, List.getElem?_cons_zero]; rfl) (by kernel_rfl) (by kernel_rfl) (by kernel_rfl) (fun _ _ _ h => h) (Or.inl ⟨by rfl, ?_⟩) hS ?_
          rotate_left
          · (intro w' hSw; (try dsimp only at hSw); go_simp; try with_reducible rfl)
          simp only [Act.put, List.setIfInBounds_toArray, List.set_cons_zero, List.set_cons_succ]
          refine wpAnyH_take (i := 24) (oi := _) (v := ?_) (by simp only [List.getElem?_toArray, List.getElem?_cons_succ, List.getElem?_cons_zero]; rfl) (by kernel_rfl) (by kernel_rfl) (by kernel_rfl) (fun _ _ _ h => h) (Or.inl ⟨by rfl, ?_⟩) hS ?_
          rotate_left
          · (intro w' hSw; (try dsimp only at hSw); go_simp; try with_reducible rfl)
          simp only [Act.put, List.setIfInBounds_toArray, List.set_cons_zero, List.set_cons_succ]
          refine wpAnyH_take (i := 25) (oi := _) (v := ?_) (by simp only [List.getElem?_toArray, List.getElem?_cons_succ, List.getElem?_cons_zero]; rfl) (by kernel_rfl) (by kernel_rfl) (by kernel_rfl) (fun _ _ _ h => h) (Or.inl ⟨by rfl, ?_⟩) hS ?_
          rotate_left
          · (intro w' hSw; (try dsimp only at hSw); go_simp; try with_reducible rfl)
          simp only [Act.put, List.setIfInBounds_toArray, List.set_cons_zero, List.set_cons_succ]
          refine wpAnyH_done (by kernel_rfl) ?_ _
          refine NoPanic.normal ?_
          clear hS
          by_cases h5 : D < 0
          · have eF : B = false := by rw [unhide HAT2]; simp; omega
            subst eF
            clear HAT2
            have h5' : D < 0 := h5
            go_wp2
            go_ret
            exact ⟨rfl, (unhide BX).drew⟩
          · by_cases h6 : 1000015 < D
            · have eF : B = false := by rw [unhide HAT2]; simp; omega
              subst eF
              clear HAT2
              go_wp2
              go_ret
              exact ⟨rfl, (unhide BX).drew⟩
            · have eQ : B = T := by rw [unhide HAT2]; simp only [show decide (1 ≤ I) = true by (rw [decide_eq_true_iff]; omega), show decide (I ≤ x) = true by (rw [decide_eq_true_iff]; omega), show decide (z < I) = true by (rw [decide_eq_true_iff]; omega), show decide (0 ≤ D) = true by (rw [decide_eq_true_iff]; omega), show decide (D ≤ 1000015) = true by (rw [decide_eq_true_iff]; omega), Bool.true_and]
              subst eQ
              clear HAT2
              go_wp2_with fail
              refine (l3queueOK_any pq cq m Q EM _ (by exact (unhide HRQ).below (unhide BX).drew) hm HBQ B ET).mono ?_
              rintro r w2 ⟨rfl, hb2⟩
              have b2 := Below.step (unhide BX).drew hb2
              clear hb2
              go_wp2
              go_ret
              exact ⟨rfl, b2⟩
        · have hle : I ≤ z := by omega
          have hled : decide (I ≤ z) = true := by simp; omega
          have eF : B = false := by rw [unhide HAT2]; simp; omega
          subst eF
          clear HAT2
          refine wp_region_noPanic ?_
          refine wp_region_held_drew (S := fun w' => w'.cell? ⟨w.heap.size + 1, 0, none⟩ = some (.int .u64 I) ∧ w'.cell? ⟨w.heap.size, 2, none⟩ = some (.int .u64 x) ∧ w'.cell? ⟨w.heap.size, 4, none⟩ = some (.slice (some ⟨b, o, none⟩) n c) ∧ w'.cell? ⟨b, o + j * 3, none⟩ = some (.int .u64 z)) (by kernel_rfl) (by exact ⟨unhide KA, unhide KB, unhide KC, unhide KZ⟩) (fun hS => ?_)
          refine wpAnyH_take (i := 0) (oi := _) (v := ?_) (by simp only [List.getElem?_toArray, List.getElem?_cons_succ, List.getElem?_cons_zero]; rfl) (by kernel_rfl) (by kernel_rfl) (by kernel_rfl) (fun _ _ _ h => h) (Or.inl ⟨by rfl, ?_⟩) hS ?_
          rotate_left
          · (intro w' hSw; (try dsimp only at hSw); go_simp; try with_reducible rfl)
          simp only [Act.put, List.setIfInBounds_toArray, List.set_cons_zero, List.set_cons_succ]
          refine wpAnyH_take (i := 1) (oi := _) (v := ?_) (by simp only [List.getElem?_toArray, List.getElem?_cons_succ, List.getElem?_cons_zero]; rfl) (by kernel_rfl) (by kernel_rfl) (by kernel_rfl) (fun _ _ _ h => h) (Or.inl ⟨by rfl, ?_⟩) hS ?_
          rotate_left
          · (intro w' hSw; (try dsimp only at hSw); go_simp; try with_reducible rfl)
          simp only [Act.put, List.setIfInBounds_toArray, List.set_cons_zero, List.set_cons_succ]
          refine wpAnyH_take (i := 2) (oi := _) (v := ?_) (by simp only [List.getElem?_toArray, List.getElem?_cons_succ, List.getElem?_cons_zero]; rfl) (by kernel_rfl) (by kernel_rfl) (by kernel_rfl) (fun _ _ _ h => h) (Or.inl ⟨by rfl, ?_⟩) hS ?_
          rotate_left
          · (intro w' hSw; (try dsimp only at hSw); go_simp; try with_reducible rfl)
          simp only [Act.put, List.setIfInBounds_toArray, List.set_cons_zero, List.set_cons_succ]
          refine wpAnyH_take (i := 3) (oi := _) (v := ?_) (by simp only [List.getElem?_toArray, List.getElem?_cons_succ, List.getElem?_cons_zero]; rfl) (by kernel_rfl) (by kernel_rfl) (by kernel_rfl) (fun _ _ _ h => h) (Or.inl ⟨by rfl, ?_⟩) hS ?_
          rotate_left
          · (intro w' hSw; (try dsimp only at hSw); go_simp; try with_reducible rfl)
          simp only [Act.put, List.setIfInBounds_toArray, List.set_cons_zero, List.set_cons_succ]
          refine wpAnyH_take (i := 4) (oi := _) (v := ?_) (by simp only [List.getElem?_toArray, List.getElem?_cons_succ, List.getElem?_cons_zero]; rfl) (by kernel_rfl) (by kernel_rfl) (by kernel_rfl) (fun _ _ _ h => h) (Or.inl ⟨by rfl, ?_⟩) hS ?_
          rotate_left
          · (intro w' hSw; (try dsimp only at hSw); go_simp; try with_reducible rfl)
          simp only [Act.put, List.setIfInBounds_toArray, List.set_cons_zero, List.set_cons_succ]
          refine wpAnyH_take (i := 5) (oi := _) (v := ?_) (by simp only [List.getElem?_toArray, List.getElem?_cons_succ, List.getElem?_cons_zero]; rfl) (by kernel_rfl) (by kernel_rfl) (by kernel_rfl) (fun _ _ _ h => h) (Or.inl ⟨by rfl, ?_⟩) hS ?_
          rotate_left
          · (intro w' hSw; (try dsimp only at hSw); go_simp; try with_reducible rfl)
          simp only [Act.put, List.setIfInBounds_toArray, List.set_cons_zero, List.set_cons_succ]
          refine wpAnyH_take (i := 6) (oi := _) (v := ?_) (by simp only [List.getElem?_toArray, List.getElem?_cons_succ, List.getElem?_cons_zero]; rfl) (by kernel_rfl) (by kernel_rfl) (by kernel_rfl) (fun _ _ _ h => h) (Or.inl ⟨by rfl, ?_⟩) hS ?_
          rotate_left
          · (intro w' hSw; (try dsimp only at hSw); go_simp; try with_reducible rfl)
          simp only [Act.put, List.setIfInBounds_toArray, List.set_cons_zero, List.set_cons_succ]
          refine wpAnyH_take (i := 7) (oi := _) (v := ?_) (by simp only [List.getElem?_toArray, List.getElem?_cons_succ, List.getElem?_cons_zero]; rfl) (by kernel_rfl) (by kernel_rfl) (by kernel_rfl) (fun _ _ _ h => h) (Or.inl ⟨by rfl, ?_⟩) hS ?_
          rotate_left
          · (intro w' hSw; (try dsimp only at hSw); go_simp; try with_reducible rfl)
          simp only [Act.put, List.setIfInBounds_toArray, List.set_cons_zero, List.set_cons_succ]
          refine wpAnyH_take (i := 8) (oi := _) (v := ?_) (by simp only [List.getElem?_toArray, List.getElem?_cons_succ, List.getElem?_cons_zero]; rfl) (by kernel_rfl) (by kernel_rfl) (by kernel_rfl) (fun _ _ _ h => h) (Or.inl ⟨by rfl, ?_⟩) hS ?_
          rotate_left
          · (intro w' hSw; (try dsimp only at hSw); go_simp; try with_reducible rfl)
          simp only [Act.put, List.setIfInBounds_toArray, List.set_cons_zero, List.set_cons_succ]
          refine wpAnyH_take (i := 9) (oi := _) (v := ?_) (by simp only [List.getElem?_toArray, List.getElem?_cons_succ, List.getElem?_cons_zero]; rfl) (by kernel_rfl) (by kernel_rfl) (by kernel_rfl) (fun _ _ _ h => h) (Or.inl ⟨by rfl, ?_⟩) hS ?_
          rotate_left
          · (intro w' hSw; (try dsimp only at hSw); go_simp; try with_reducible rfl)
          simp only [Act.put, List.setIfInBounds_toArray, List.set_cons_zero, List.set_cons_succ]
          refine wpAnyH_take (i := 10) (oi := _) (v := ?_) (by simp only [List.getElem?_toArray, List.getElem?_cons_succ, List.getElem?_cons_zero]; rfl) (by kernel_rfl) (by kernel_rfl) (by kernel_rfl) (fun _ _ _ h => h) (Or.inl ⟨by rfl, ?_⟩) hS ?_
          rotate_left
          · (intro w' hSw; (try dsimp only at hSw); go_simp; try with_reducible rfl)
          simp only [Act.put, List.setIfInBounds_toArray, List.set_cons_zero, List.set_cons_succ]
          refine wpAnyH_take (i := 11) (oi := _) (v := ?_) (by simp only [List.getElem?_toArray, List.getElem?_cons_succ, List.getElem?_cons_zero]; rfl) (by kernel_rfl) (by kernel_rfl) (by kernel_rfl) (fun _ _ _ h => h) (Or.inl ⟨by rfl, ?_⟩) hS ?_
          rotate_left
          · (intro w' hSw; (try dsimp only at hSw); go_simp; try with_reducible rfl)
          simp only [Act.put, List.setIfInBounds_toArray, List.set_cons_zero, List.set_cons_succ]
          refine wpAnyH_take (i := 12) (oi := _) (v := ?_) (by simp only [List.getElem?_toArray, List.getElem?_cons_succ, List.getElem?_cons_zero]; rfl) (by kernel_rfl) (by kernel_rfl) (by kernel_rfl) (fun _ _ _ h => h) (Or.inl ⟨by rfl, ?_⟩) hS ?_
          rotate_left
          · (intro w' hSw; (try dsimp only at hSw); go_simp; try with_reducible rfl)
          simp only [Act.put, List.setIfInBounds_toArray, List.set_cons_zero, List.set_cons_succ]
          refine wpAnyH_take (i := 13) (oi := _) (v := ?_) (by simp only [List.getElem?_toArray, List.getElem?_cons_succ, List.getElem?_cons_zero]; rfl) (by kernel_rfl) (by kernel_rfl) (by kernel_rfl) (fun _ _ _ h => h) (Or.inl ⟨by rfl, ?_⟩) hS ?_
          rotate_left
          · (intro w' hSw; (try dsimp only at hSw); go_simp; try with_reducible rfl)
          simp only [Act.put, List.setIfInBounds_toArray, List.set_cons_zero, List.set_cons_succ]
          refine wpAnyH_take (i := 14) (oi := _) (v := ?_) (by simp only [List.getElem?_toArray, List.getElem?_cons_succ, List.getElem?_cons_zero]; rfl) (by kernel_rfl) (by kernel_rfl) (by kernel_rfl) (fun _ _ _ h => h) (Or.inl ⟨by rfl, ?_⟩) hS ?_
          rotate_left
          · (intro w' hSw; (try dsimp only at hSw); go_simp; try with_reducible rfl)
          simp only [Act.put, List.setIfInBounds_toArray, List.set_cons_zero, List.set_cons_succ]
          refine wpAnyH_take (i := 15) (oi := _) (v := ?_) (by simp only [List.getElem?_toArray, List.getElem?_cons_succ, List.getElem?_cons_zero]; rfl) (by kernel_rfl) (by kernel_rfl) (by kernel_rfl) (fun _ _ _ h => h) (Or.inl ⟨by rfl, ?_⟩) hS ?_
          rotate_left
          · (intro w' hSw; (try dsimp only at hSw); go_simp; try with_reducible rfl)
          simp only [Act.put, List.setIfInBounds_toArray, List.set_cons_zero, List.set_cons_succ]
          refine wpAnyH_take (i := 16) (oi := _) (v := ?_) (by simp only [List.getElem?_toArray, List.getElem?_cons_succ, List.getElem?_cons_zero]; rfl) (by kernel_rfl) (by kernel_rfl) (by kernel_rfl) (fun _ _ _ h => h) (Or.inl ⟨by rfl, ?_⟩) hS ?_
          rotate_left
          · (intro w' hSw; (try dsimp only at hSw); go_simp; try with_reducible rfl)
          simp only [Act.put, List.setIfInBounds_toArray, List.set_cons_zero, List.set_cons_succ]
          refine wpAnyH_take (i := 17) (oi := _) (v := ?_) (by simp only [List.getElem?_toArray, List.getElem?_cons_succ, List.getElem?_cons_zero]; rfl) (by kernel_rfl) (by kernel_rfl) (by kernel_rfl) (fun _ _ _ h => h) (Or.inl ⟨by rfl, ?_⟩) hS ?_
          rotate_left
          · (intro w' hSw; (try dsimp only at hSw); go_simp; try with_reducible rfl)
          simp only [Act.put, List.setIfInBounds_toArray, List.set_cons_zero, List.set_cons_succ]
          refine wpAnyH_take (i := 18) (oi := _) (v := ?_) (by simp only [List.getElem?_toArray, List.getElem?_cons_succ, List.getElem?_cons_zero]; rfl) (by kernel_rfl) (by kernel_rfl) (by kernel_rfl) (fun _ _ _ h => h) (Or.inl ⟨by rfl, ?_⟩) hS ?_
          rotate_left
          · (intro w' hSw; (try dsimp only at hSw); go_simp; try with_reducible rfl)
          simp only [Act.put, List.setIfInBounds_toArray, List.set_cons_zero, List.set_cons_succ]
          refine wpAnyH_take (i := 19) (oi := _) (v := ?_) (by simp only [List.getElem?_toArray, List.getElem?_cons_succ, List.getElem?_cons_zero]; rfl) (by kernel_rfl) (by kernel_rfl) (by kernel_rfl) (fun _ _ _ h => h) (Or.inl ⟨by rfl, ?_⟩) hS ?_
          rotate_left
          · (intro w' hSw; (try dsimp only at hSw); go_simp; try with_reducible rfl)
          simp only [Act.put, List.setIfInBounds_toArray, List.set_cons_zero, List.set_cons_succ]
          refine wpAnyH_take (i := 20) (oi := _) (v := ?_) (by simp only [List.getElem?_toArray, List.getElem?_cons_succ, List.getElem?_cons_zero]; rfl) (by kernel_rfl) (by kernel_rfl) (by kernel_rfl) (fun _ _ _ h => h) (Or.inl ⟨by rfl, ?_⟩) hS ?_
          rotate_left
          · (intro w' hSw; (try dsimp only at hSw); go_simp; try with_reducible rfl)
          simp only [Act.put, List.setIfInBounds_toArray, List.set_cons_zero, List.set_cons_succ]
          refine wpAnyH_take (i := 21) (oi := _) (v := ?_) (by simp only [List.getElem?_toArray, List.getElem?_cons_succ, List.getElem?_cons_zero]; rfl) (by kernel_rfl) (by kernel_rfl) (by kernel_rfl) (fun _ _ _ h => h) (Or.inl ⟨by rfl, ?_⟩) hS ?_
          rotate_left
          · (intro w' hSw; (try dsimp only at hSw); go_simp; try with_reducible rfl)
          simp only [Act.put, List.setIfInBounds_toArray, List.set_cons_zero, List.set_cons_succ]
          refine wpAnyH_take (i := 22) (oi := _) (v := ?_) (by simp only [List.getElem?_toArray, List.getElem?_cons_succ, List.getElem?_cons_zero]; rfl) (by kernel_rfl) (by kernel_rfl) (by kernel_rfl) (fun _ _ _ h => h) (Or.inl ⟨by rfl, ?_⟩) hS ?_
          rotate_left
          · (intro w' hSw; (try dsimp only at hSw); go_simp; try with_reducible rfl)
          simp only [Act.put, List.setIfInBounds_toArray, List.set_cons_zero, List.set_cons_succ]
          refine wpAnyH_take (i := 23) (oi := _) (v := ?_) (by simp only [List.getElem?_toArray, List.getElem?_cons_succ, List.getElem?_cons_zero]; rfl) (by kernel_rfl) (by kernel_rfl) (by kernel_rfl) (fun _ _ _ h => h) (Or.inl ⟨by rfl, ?_⟩) hS ?_
          rotate_left
          · (intro w' hSw; (try dsimp only at hSw); go_simp; try with_reducible rfl)
          simp only [Act.put, List.setIfInBounds_toArray, List.set_cons_zero, List.set_cons_succ]
          refine wpAnyH_take (i := 24) (oi := _) (v := ?_) (by simp only [List.getElem?_toArray, List.getElem?_cons_succ, List.getElem?_cons_zero]; rfl) (by kernel_rfl) (by kernel_rfl) (by kernel_rfl) (fun _ _ _ h => h) (Or.inl ⟨by rfl, ?_⟩) hS ?_
          rotate_left
          · (intro w' hSw; (try dsimp only at hSw); go_simp; try with_reducible rfl)
          simp only [Act.put, List.setIfInBounds_toArray, List.set_cons_zero, List.set_cons_succ]
          refine wpAnyH_take (i := 25) (oi := _) (v := ?_) (by simp only [List.getElem?_toArray, List.getElem?_cons_succ, List.getElem?_cons_zero]; rfl) (by kernel_rfl) (by kernel_rfl) (by kernel_rfl) (fun _ _ _ h => h) (Or.inl ⟨by rfl, ?_⟩) hS ?_
          rotate_left
          · (intro w' hSw; (try dsimp only at hSw); go_simp; try with_reducible rfl)
          simp only [Act.put, List.setIfInBounds_toArray, List.set_cons_zero, List.set_cons_succ]
          refine wpAnyH_done (by kernel_rfl) ?_ _
          refine NoPanic.normal ?_
          clear hS
          go_wp2
          go_ret
          exact ⟨rfl, (unhide BX).drew⟩
end Go.Proofs.YtpbppdeleijhkaaGreatDoor
namespace Go.Proofs.YtpbppdeleijhkaaGreatDoor
open Go.ChangeShapes Go.WideShapes Go.ChangeAt Go.RowKit
set_option linter.unusedVariables false
set_option linter.unusedSimpArgs false
set_option maxRecDepth 100000

theorem cellFr (w : World) (C : Array Value) (e : TypeId) (fr : Nat × Nat) (i : Nat) : (w.alloc (.cells C e fr)).cell? ⟨w.heap.size, i, none⟩ = C[i]? := by
  have h : (w.alloc (.cells C e fr)).heap[w.heap.size]? = some (.cells C e fr) := by
    show (w.heap.push (.cells C e fr))[w.heap.size]? = _
    simp
  unfold World.cell?
  rw [h]
  rfl
/-- the place of the last '/' (0 where there is none) -/
def lsl (l : List Int) (k : Nat) : Nat := (List.range k).foldl (fun a i => if l.getD i 0 = 47 then i else a) 0
theorem lsl_step (l : List Int) (k : Nat) : lsl l (k + 1) = if l.getD k 0 = 47 then k else lsl l k := by
  rw [lsl, List.range_succ, List.foldl_append]; rfl
theorem lsl_le (l : List Int) (k : Nat) : lsl l k ≤ k := by
  induction k with
  | zero => exact Nat.le_refl _
  | succ k ih => rw [lsl_step]; split <;> omega
/-- a path's parent -/
def parL (l : List Int) : List Int := if lsl l l.length = 0 then [47] else l.take (lsl l l.length)

set_option maxHeartbeats 800000 in
theorem l3parent_any (p : Option Addr) (c n : Nat) (l : List Int) (en : Hid (l.length = n)) (w : World) (h : Rd w (.slice p n c) l) (hn : n ≤ 1048576) (hc : n ≤ c) (hcm : c ≤ maxLen) :
    Calls Tryz.prog 138 #[.slice p n c] w fun r w' => ∃ q m d, r = .returned (.slice q m d) ∧ (parL l).length = m ∧ m ≤ n + 1 ∧ Rd w' (.slice q m d) (parL l) ∧ Below w.heap.size w w' := by
  have HR := hide h
  clear h
  go_enter Tryz.func138, Tryz.ntmps138
  go_wp2_with fail
  go_loopw [3, 4] (fun av iv wr => ∃ k a : Nat, k ≤ n ∧ iv = .int .i64 k ∧ av = .int .i64 a ∧ a ≤ k ∧ Hid (lsl l k = a) ∧ wr = w) (fun _ iv _ => n - (intOf iv).toNat)
  case atStart => exact ⟨0, 0, Nat.zero_le _, rfl, rfl, Nat.le_refl _, (by show _ = _; rfl), rfl⟩
  case round =>
    obtain ⟨k, a, hk, rfl, rfl, hak, hls, rfl⟩ := hrel
    by_cases hlt : k < n
    · have hlt' : (k : Int) < (n : Int) := by omega
      have hkl : k < l.length := by rw [unhide en]; exact hlt
      obtain ⟨b, o, rfl, -, hcell⟩ := (unhide HR).at (by omega)
      have hcx := hcell k hkl
      have hst := lsl_step l k
      obtain ⟨y, ey⟩ : ∃ y, l.getD k 0 = y := ⟨_, rfl⟩
      rw [ey] at hcx hst
      clear hcell hkl ey
      by_cases h47 : y = 47
      · subst h47
        rw [if_pos rfl] at hst
        have HST := hide hst
        clear hst
        go_wp2
        go_roundw
        case rel => exact ⟨k + 1, k, by omega, by go_num, rfl, by omega, HST, by first | rfl | trivial⟩
        case measure => simp [intOf]; omega
      · have h47d : (y == 47) = false := by simp [h47]
        rw [if_neg h47, unhide hls] at hst
        have HST := hide hst
        clear hst
        go_wp2
        go_roundw
        case rel => exact ⟨k + 1, a, by omega, by go_num, rfl, by omega, HST, by first | rfl | trivial⟩
        case measure => simp [intOf]; omega
    · have hlt' : ¬ (k : Int) < (n : Int) := by omega
      have ekn : k = n := by omega
      subst ekn
      clear hk hlt
      by_cases ha : a = 0
      · subst ha
        have hpl : Hid (parL l = [47]) := by show _ = _; rw [parL, unhide en, unhide hls, if_pos rfl]
        have hcv := Lib.run_convert_bytes_const (P := Tryz.prog) wr 22 5 #[.int .u8 47] 1 1 Tryz.underlying22 Tryz.underlying5
        go_wp2
        go_ret
        refine ⟨_, _, _, rfl, by rw [unhide hpl]; rfl, by omega, ?_, (Below.refl _ _).alloc (Nat.le_refl _) _⟩
        rw [unhide hpl]
        refine ⟨_, _, rfl, .inr ⟨wr.heap.size, 0, rfl, fun i hi => ?_⟩⟩
        match i, hi with
        | 0, _ => (rw [Nat.zero_add, cellFr]; rfl)
      · have ha' : ((a : Int) == 0) = false := by simp [ha]
        have hpl : Hid (parL l = l.take a) := by show _ = _; rw [parL, unhide en, unhide hls, if_neg ha]
        obtain ⟨b, o, rfl, -, -⟩ := (unhide HR).at (by rw [unhide en]; omega)
        have g1 : (a : Int) ≤ (k : Int) := by omega
        have g2 : (a : Int) ≤ (c : Int) := by omega
        have HRC := (unhide HR).cut 0 a (Nat.zero_le _) (by rw [unhide en]; omega) (some ⟨b, o, none⟩) (.inr rfl) c (l.take a) (by simp)
        have HRD := hide HRC
        clear HRC
        go_wp2
        go_ret
        exact ⟨_, _, _, rfl, by rw [unhide hpl, List.length_take, unhide en]; omega, by omega, by rw [unhide hpl]; exact unhide HRD, Below.refl _ _⟩
end Go.Proofs.YtpbppdeleijhkaaGreatDoor
namespace Go.Proofs.YtpbppdeleijhkaaGreatDoor
open Go.ChangeShapes Go.WideShapes Go.ChangeAt Go.RowKit
set_option linter.unusedVariables false
set_option linter.unusedSimpArgs false
set_option maxRecDepth 100000

/-- a slice within its capacity -/
def CapOK (v : Value) : Prop := ∃ p n c, v = .slice p n c ∧ n ≤ c ∧ c ≤ maxLen
/-- a node lies at place a of block b: P V H U are the values of its slices -/
structure NodeAt (w : World) (b a : Nat) (nd : Nod) (P V H U : Value) : Prop where
  c0 : w.cell? ⟨b, a, none⟩ = some P
  c1 : w.cell? ⟨b, a + 1, none⟩ = some V
  c2 : w.cell? ⟨b, a + 2, none⟩ = some (.int .u64 nd.owner)
  c3 : w.cell? ⟨b, a + 3, none⟩ = some (.int .i64 nd.mode)
  c4 : w.cell? ⟨b, a + 4, none⟩ = some H
  c5 : w.cell? ⟨b, a + 5, none⟩ = some (.int .u64 nd.epoch)
  c6 : w.cell? ⟨b, a + 6, none⟩ = some (.int .u64 nd.gen)
  c7 : w.cell? ⟨b, a + 7, none⟩ = some U
  r0 : Rd w P nd.path
  r1 : Rd w V nd.value
  r4 : RdU w H nd.holders
  r7 : RdU w U nd.watchers
  k0 : CapOK P
theorem NodeAt.below {w w' : World} {b a : Nat} {nd : Nod} {P V H U : Value} (h : NodeAt w b a nd P V H U) (hb : Below w.heap.size w w') : NodeAt w' b a nd P V H U :=
  ⟨cell_below h.c0 hb, cell_below h.c1 hb, cell_below h.c2 hb, cell_below h.c3 hb, cell_below h.c4 hb, cell_below h.c5 hb, cell_below h.c6 hb, cell_below h.c7 hb, h.r0.below hb, h.r1.below hb, h.r4.below hb, h.r7.below hb, h.k0⟩
/-- v is a slice of nodes that reads ns -/
def RdN (w : World) (v : Value) (ns : List Nod) : Prop :=
  ∃ (p : Option Addr) (c : Nat), v = .slice p ns.length c ∧ (ns = [] ∨ ∃ b o, p = some ⟨b, o, none⟩ ∧ ∀ i nd, ns[i]? = some nd → ∃ P V H U, NodeAt w b (o + i * 8) nd P V H U)
theorem RdN.below {w w' : World} {v : Value} {ns : List Nod} (h : RdN w v ns) (hb : Below w.heap.size w w') : RdN w' v ns := by
  obtain ⟨p, c, rfl, h⟩ := h
  refine ⟨p, c, rfl, ?_⟩
  rcases h with h | ⟨b, o, rfl, h⟩
  · exact .inl h
  · refine .inr ⟨b, o, rfl, fun i e he => ?_⟩
    obtain ⟨P, V, H, U, h1⟩ := h i e he
    exact ⟨P, V, H, U, h1.below hb⟩
/-- a node as a value -/
abbrev ndV (P V : Value) (ow mo : Int) (H : Value) (ep ge : Int) (U : Value) : Value := .agg #[P, V, .int .u64 ow, .int .i64 mo, H, .int .u64 ep, .int .u64 ge, U]

/-- a lock as it may be, in a state of epoch e and generation g -/
def lockOK (e g mo : Int) (nh : Nat) (ep ge : Int) : Bool :=
  if mo = 1 then nh == 1 && (decide (1 ≤ ge) && (decide (ge ≤ g) && decide (ep ≤ e))) else ep == 0 && (ge == 0 && (if mo = 0 then nh == 0 else mo == 2 && decide (1 ≤ nh)))

set_option maxHeartbeats 1600000 in
theorem l3lockOK_any (e g x t ow mo ep ge : Int) (S N P V U : Value) (p : Option Addr) (c n : Nat) (w : World) (hn : n ≤ 1048576) (B : Bool) (eB : Hid (lockOK e g mo n ep ge = B)) :
    Calls Tryz.prog 141 #[stV e g x t S N, ndV P V ow mo (.slice p n c) ep ge U] w fun r w' => r = .returned (.bool B) ∧ Below w.heap.size w w' := by
  go_enter Tryz.func141, Tryz.ntmps141
  go_wp2_with fail
  all_goals (
    go_ret
    refine ⟨?_, ((Below.refl _ _).alloc (Nat.le_refl _) _).alloc (by simp) _⟩
    rw [← unhide eB]
    simp only [lockOK, Ending.returned.injEq, Value.bool.injEq])
  all_goals first | (simp_all; done) | (simp_all; omega) | skip
  all_goals (
    show Value.bool ((n : Int) == 0) = Value.bool _
    congr 1
    have e0 : mo = 0 := (by simpa using ‹(mo == 0) = true›)
    have e1 : ge = 0 := (by simpa using ‹(ge != 0) = false›)
    subst e0 e1
    rw [Bool.eq_iff_iff]
    simp_all)
end Go.Proofs.YtpbppdeleijhkaaGreatDoor
namespace Go.Proofs.YtpbppdeleijhkaaGreatDoor
open Go.ChangeShapes Go.WideShapes Go.ChangeAt Go.RowKit
set_option linter.unusedVariables false
set_option linter.unusedSimpArgs false
set_option maxRecDepth 100000

theorem RdN.at {w : World} {p : Option Addr} {n c : Nat} {ns : List Nod} (h : RdN w (.slice p n c) ns) (hl : 0 < ns.length) : ∃ b o, p = some ⟨b, o, none⟩ ∧ ∀ i nd, ns[i]? = some nd → ∃ P V H U, NodeAt w b (o + i * 8) nd P V H U := by
  obtain ⟨p', c', ev, hd⟩ := h
  simp only [Value.slice.injEq] at ev
  obtain ⟨rfl, -, -⟩ := ev
  rcases hd with h0 | ⟨b, o, h1, h2⟩
  · rw [h0] at hl; simp at hl
  · exact ⟨b, o, h1, h2⟩
theorem Rd.slc {w : World} {v : Value} {l : List Int} (h : Rd w v l) : ∃ p c n, v = .slice p n c ∧ Hid (l.length = n) := by
  obtain ⟨p, c, rfl, -⟩ := h
  exact ⟨p, c, _, rfl, (by show _ = _; rfl)⟩

theorem List.cons_getElem?_drop_succ' {α : Type} {ns : List α} {k : Nat} {y : α} (h : ns[k]? = some y) : y :: ns.drop (k + 1) = ns.drop k := by
  obtain ⟨hk, rfl⟩ := List.getElem?_eq_some_iff.1 h
  exact (List.drop_eq_getElem_cons hk).symm
/-- the node of a path: the first -/
def ndOf (ns : List Nod) (l : List Int) : Option Nod := ns.find? fun nd => decide (nd.path = l)

set_option maxHeartbeats 1600000 in
theorem l3node_any (e g x t : Int) (p q : Option Addr) (c n d m : Nat) (S : Value) (ns : List Nod) (l : List Int) (en : Hid (ns.length = n)) (em : Hid (l.length = m)) (w : World) (h : RdN w (.slice p n c) ns) (hl : Rd w (.slice q m d) l) (hn : n ≤ 1048576) (hm : m ≤ 2097152)
    (hby : Hid (Byt l ∧ ∀ nd ∈ ns, Byt nd.path)) :
    Calls Tryz.prog 174 #[stV e g x t S (.slice p n c), .slice q m d] w fun r w' => ((∃ (k : Nat) (nd : Nod), r = .returned (.int .i64 k) ∧ k < n ∧ ns[k]? = some nd ∧ ndOf ns l = some nd) ∨ (r = .returned (.int .i64 (-1)) ∧ ndOf ns l = none)) ∧ Below w.heap.size w w' := by
  have HR := hide fun (w' : World) (hb : Below w.heap.size w w') => And.intro (h.below hb) (hl.below hb)
  have hcf : ∀ (vs : Array Value) (w : World), (callFunc 46 vs).run Tryz.prog w = .ok (.enter 46 vs) w := fun vs w => by kernel_rfl
  have HCF := hide hcf
  clear h hl hcf
  go_enter Tryz.func174, Tryz.ntmps174
  go_wp2_with fail
  obtain ⟨W, hW⟩ : ∃ W, W = (w.alloc (.cells #[.int .u64 e, .int .u64 g, .int .u64 x, .int .i64 t, S, .slice p n c] 27)) := ⟨_, rfl⟩
  have bW : Below w.heap.size w W := by rw [hW]; exact (Below.refl _ _).alloc (Nat.le_refl _) _
  have hc5 : W.cell? ⟨w.heap.size, 5, none⟩ = some (.slice p n c) := by rw [hW]; simp
  rw [← hW]
  clear hW
  have BW := hide bW
  have HC5 := hide hc5
  clear bW hc5
  go_loopw [5] (fun iv wr => ∃ k : Nat, k ≤ n ∧ iv = .int .i64 k ∧ Hid (ndOf (ns.take k) l = none) ∧ Below W.heap.size W wr) (fun iv _ => n - (intOf iv).toNat)
  case atStart => exact ⟨0, Nat.zero_le _, rfl, (by show _ = _; rfl), Below.refl _ _⟩
  case round =>
    obtain ⟨k, hk, rfl, hno, hbr⟩ := hrel
    have BB := Below.step (unhide BW) hbr
    have i5 := cell_below (unhide HC5) hbr
    by_cases hlt : k < n
    · have hlt' : (k : Int) < (n : Int) := by omega
      have hkl : k < ns.length := by rw [unhide en]; exact hlt
      obtain ⟨hN, hL⟩ := unhide HR _ BB
      obtain ⟨b, o, rfl, hA⟩ := hN.at (by omega)
      obtain ⟨nd, hy⟩ : ∃ y, ns[k]? = some y := ⟨_, List.getElem?_eq_getElem hkl⟩
      obtain ⟨P, V, H, U, hnd⟩ := hA k nd hy
      have hP := hnd.c0
      have hrP := hnd.r0
      obtain ⟨pp, pc, pn, rfl, ePn⟩ := hrP.slc
      have hBP := (unhide hby).2 nd (List.mem_of_getElem? hy)
      have HY := hide hy
      have HRP := hide hrP
      have HBP := hide hBP
      have HLL := hide hL
      clear hA hnd hkl hN hL hrP hBP hy
      go_wp2_with fail
      refine (l3same_any pp q pc d pn m nd.path l ePn em _ (unhide HRP) (unhide HLL) (unhide HBP) (unhide hby).1).mono ?_
      rintro r w2 ⟨rfl, hb2⟩
      by_cases hpl : nd.path = l
      · rw [show decide (nd.path = l) = true by simp [hpl]]
        have hF : Hid (ndOf ns l = some nd) := by
          show _ = _
          have e1 : ns = ns.take k ++ nd :: ns.drop (k + 1) := by
            rw [List.cons_getElem?_drop_succ' (unhide HY), List.take_append_drop]
          rw [e1, ndOf, List.find?_append, show (ns.take k).find? (fun nd => decide (nd.path = l)) = none from unhide hno]
          simp [hpl]
        have b2 := Below.step BB hb2
        clear hb2 hbr BB
        go_wp2
        go_ret
        exact ⟨.inl ⟨k, nd, rfl, hlt, unhide HY, unhide hF⟩, b2⟩
      · rw [show decide (nd.path = l) = false by simp [hpl]]
        have hno2 : Hid (ndOf (ns.take (k + 1)) l = none) := by
          show _ = _
          rw [List.take_add_one, unhide HY, ndOf, List.find?_append, show (ns.take k).find? (fun nd => decide (nd.path = l)) = none from unhide hno]
          simp [hpl]
        have b2 := Below.step hbr hb2
        clear hb2 hbr BB
        go_wp2
        go_roundw
        case rel => exact ⟨k + 1, by omega, by go_num, hno2, b2⟩
        case measure => simp [intOf]; omega
    · have hlt' : ¬ (k : Int) < (n : Int) := by omega
      have hF : Hid (ndOf ns l = none) := by
        show _ = _
        have := unhide hno
        rwa [List.take_of_length_le (by rw [unhide en]; omega)] at this
      go_wp2
      go_ret
      exact ⟨.inr ⟨rfl, unhide hF⟩, BB⟩

/-- may a path have children? -/
def canPar (ns : List Nod) (l : List Int) : Bool := if l = [47] then true else match ndOf ns l with | some nd => nd.owner == 0 | none => false

set_option maxHeartbeats 1600000 in
theorem l3canParent_any (e g x t : Int) (p q : Option Addr) (c n d m : Nat) (S : Value) (ns : List Nod) (l : List Int) (en : Hid (ns.length = n)) (em : Hid (l.length = m)) (w : World) (h : RdN w (.slice p n c) ns) (hl : Rd w (.slice q m d) l) (hn : n ≤ 1048576) (hm : m ≤ 2097152)
    (hby : Hid (Byt l ∧ ∀ nd ∈ ns, Byt nd.path)) (B : Bool) (eB : Hid (canPar ns l = B)) :
    Calls Tryz.prog 137 #[stV e g x t S (.slice p n c), .slice q m d] w fun r w' => r = .returned (.bool B) ∧ Below w.heap.size w w' := by
  have HR := hide fun (w' : World) (hb : Below w.heap.size w w') => And.intro (h.below hb) (hl.below hb)
  clear h hl
  obtain ⟨W, hW⟩ : ∃ W, W = (w.alloc (.cells #[.int .u64 e, .int .u64 g, .int .u64 x, .int .i64 t, S, .slice p n c] 27)) := ⟨_, rfl⟩
  have bW : Below w.heap.size w W := by rw [hW]; exact (Below.refl _ _).alloc (Nat.le_refl _) _
  have sW : W.heap.size = w.heap.size + 1 := by rw [hW]; simp
  have hc5 : St6 W w.heap.size e g x t S (.slice p n c) := by rw [hW]; simp [St6]
  have hcv := Lib.run_convert_bytes_const (P := Tryz.prog) W 22 5 #[.int .u8 47] 1 1 Tryz.underlying22 Tryz.underlying5
  simp only [show (#[Value.int .u8 47] : Array Value).size = 1 from rfl] at hcv
  obtain ⟨X, hX⟩ : ∃ X, X = W.alloc (.cells #[.int .u8 47] 5 (1, 1 + 1)) := ⟨_, rfl⟩
  have rX : Rd X (.slice (some ⟨w.heap.size + 1, 0, none⟩) 1 1) [47] := by
    rw [hX, ← sW]
    refine ⟨_, _, rfl, .inr ⟨W.heap.size, 0, rfl, fun i hi => ?_⟩⟩
    match i, hi with
    | 0, _ => (rw [Nat.zero_add, cellFr]; rfl)
  have bX : Below w.heap.size w X := by rw [hX]; exact bW.alloc (by omega) _
  have iX : St6 X w.heap.size e g x t S (.slice p n c) := hc5.below (by rw [hX]; exact (Below.refl _ _).alloc (Nat.le_refl _) _)
  rw [← hX, sW, hW] at hcv
  clear sW hc5 bW hX hW
  have RX := hide rX
  have BX := hide bX
  have IX := hide iX
  clear rX bX iX
  go_enter Tryz.func137, Tryz.ntmps137
  go_wp2_with fail
  refine (l3same_any q _ d 1 m 1 l [47] em (by show _ = _; rfl) _ (unhide HR _ (unhide BX)).2 (unhide RX) (unhide hby).1 (by intro x hx; simp at hx; omega)).mono ?_
  rintro r w2 ⟨rfl, hb2⟩
  have b2 := Below.step (unhide BX) hb2
  obtain ⟨j0, j1, j2, j3, j4, j5⟩ := (unhide IX).below hb2
  clear hcv hb2
  by_cases h47 : l = [47]
  · rw [show decide (l = [47]) = true by simp [h47]]
    have eT : B = true := by rw [← unhide eB, canPar, if_pos h47]
    subst eT
    clear h47
    go_wp2
    go_ret
    exact ⟨rfl, b2⟩
  · rw [show decide (l = [47]) = false by simp [h47]]
    have hB : (match ndOf ns l with | some nd => nd.owner == 0 | none => false) = B := by rw [← unhide eB, canPar, if_neg h47]
    have HB := hide hB
    clear hB h47
    go_wp2_with fail
    refine (l3node_any e g x t p q c n d m S ns l en em _ (unhide HR _ b2).1 (unhide HR _ b2).2 hn hm hby).mono ?_
    rintro r w3 ⟨hr, hb3⟩
    have b3 := Below.step b2 hb3
    have k5 := cell_below j5 hb3
    clear j0 j1 j2 j3 j4 j5 hb3
    rcases hr with ⟨k, nd, rfl, hk, hy, hF⟩ | ⟨rfl, hF⟩
    · rw [hF] at HB
      have hkl : k < ns.length := by rw [unhide en]; exact hk
      obtain ⟨b, o, rfl, hA⟩ := (unhide HR _ b3).1.at (by omega)
      obtain ⟨P, V, H, U, hnd⟩ := hA k nd hy
      have hO := hnd.c2
      have hk' : (k : Int) < (n : Int) := by omega
      have hk0 : (0 : Int) ≤ (k : Int) := by omega
      clear hA hnd hkl hy hF
      cases B with
      | true =>
        have ho : nd.owner = 0 := by have := unhide HB; simpa using this
        rw [ho] at hO
        clear ho
        go_wp2
        go_ret
        exact ⟨rfl, b3⟩
      | false =>
        have ho : (nd.owner == 0) = false := unhide HB
        go_wp2
        go_ret
        exact ⟨rfl, b3⟩
    · rw [hF] at HB
      have eF : B = false := (unhide HB).symm
      subst eF
      clear hF
      go_wp2
      go_ret
      exact ⟨rfl, b3⟩
end Go.Proofs.YtpbppdeleijhkaaGreatDoor
namespace Go.Proofs.YtpbppdeleijhkaaGreatDoor
open Go.ChangeShapes Go.WideShapes Go.ChangeAt Go.RowKit
set_option linter.unusedVariables false
set_option linter.unusedSimpArgs false
set_option maxRecDepth 100000

/-- '<=' of two strings of bytes, as the machine has it -/
def leB (l m : List Int) : Bool := Op.bytesLess (bstr l).toList (bstr m).toList || (bstr l).toList == (bstr m).toList
def nod0 : Nod := ⟨[], [], 0, 0, [], 0, 0, []⟩
/-- the node at place k, in a state of epoch e and generation g -/
def nodOK (e g : Int) (ss : List Ses) (ns : List Nod) (k : Nat) : Bool :=
  let nd := ns.getD k nod0
  (vp nd.path && (k == 0 || !leB nd.path (ns.getD (k - 1) nod0).path)) && (canPar ns (parL nd.path) && (decide (nd.value.length ≤ 40) && ((nd.owner == 0 || live ss nd.owner) && (idsOK ss nd.holders && (idsOK ss nd.watchers && lockOK e g nd.mode nd.holders.length nd.epoch nd.gen)))))
theorem parL_byt {l : List Int} (h : Byt l) : Byt (parL l) := by
  unfold parL
  split
  · intro x hx; simp at hx; omega
  · exact fun x hx => h x (List.mem_of_mem_take hx)
theorem RdU.slc {w : World} {v : Value} {l : List Int} (h : RdU w v l) : ∃ p c n, v = .slice p n c ∧ Hid (l.length = n) := by
  obtain ⟨p, c, rfl, -⟩ := h
  exact ⟨p, c, _, rfl, (by show _ = _; rfl)⟩

set_option maxHeartbeats 1600000 in
theorem l3nodeOK_any (e g x t : Int) (p q : Option Addr) (c n d m k : Nat) (ss : List Ses) (ns : List Nod) (en : Hid (ss.length = n)) (em : Hid (ns.length = m)) (w : World) (h : RdS w (.slice p n c) ss) (hN : RdN w (.slice q m d) ns) (hn : n ≤ 1048576) (hm : m ≤ 1048576) (hk : k < m)
    (hby : Hid (∀ nd ∈ ns, Byt nd.path ∧ nd.path.length ≤ 1048576 ∧ nd.value.length ≤ 1048576 ∧ nd.holders.length ≤ 1048576 ∧ nd.watchers.length ≤ 1048576)) (B : Bool) (eB : Hid (nodOK e g ss ns k = B)) :
    Calls Tryz.prog 90 #[stV e g x t (.slice p n c) (.slice q m d), .int .i64 k] w fun r w' => r = .returned (.bool B) ∧ Below w.heap.size w w' := by
  have HR := hide fun (w' : World) (hb : Below w.heap.size w w') => And.intro (h.below hb) (hN.below hb)
  have hkl : k < ns.length := by rw [unhide em]; exact hk
  obtain ⟨nd, hy⟩ : ∃ y, ns[k]? = some y := ⟨_, List.getElem?_eq_getElem hkl⟩
  have hyD : ns.getD k nod0 = nd := by rw [List.getD_eq_getElem?_getD, hy]; rfl
  obtain ⟨b, o, rfl, hA⟩ := hN.at (by omega)
  obtain ⟨P, V, H, U, hnd⟩ := hA k nd hy
  obtain ⟨hB1, hB2, hB3, hB4, hB5⟩ := unhide hby _ (List.mem_of_getElem? hy)
  obtain ⟨pp, pc, pn, rfl, ePn⟩ := hnd.r0.slc
  obtain ⟨vp', vc, vn, rfl, eVn⟩ := hnd.r1.slc
  obtain ⟨hp, hc, hh, rfl, eHn⟩ := hnd.r4.slc
  obtain ⟨up, uc, un, rfl, eUn⟩ := hnd.r7.slc
  have hpn : pn ≤ 1048576 := by rw [← unhide ePn]; exact hB2
  have hvn : vn ≤ 1048576 := by rw [← unhide eVn]; exact hB3
  have hhn : hh ≤ 1048576 := by rw [← unhide eHn]; exact hB4
  have hun : un ≤ 1048576 := by rw [← unhide eUn]; exact hB5
  have hk' : (k : Int) < (m : Int) := by omega
  have hk0' : (0 : Int) ≤ (k : Int) := by omega
  have b1 : Below w.heap.size w (w.alloc (.cells #[.int .u64 e, .int .u64 g, .int .u64 x, .int .i64 t, .slice p n c, .slice (some ⟨b, o, none⟩) m d] 27)) := (Below.refl _ _).alloc (Nat.le_refl _) _
  have hnd1 := hnd.below b1
  obtain ⟨c0, c1, c2, c3, c4, c5, c6, c7, -, -, -, -, -⟩ := hnd1
  have HYD := hide hyD
  have HND := hide hnd
  have HBP := hide hB1
  have hcf : ∀ (vs : Array Value) (w : World), (callFunc 136 vs).run Tryz.prog w = .ok (.enter 136 vs) w := fun vs w => by kernel_rfl
  have HCF := hide hcf
  clear hcf
  have HA := hide hA
  clear hnd hA hyD hB1 hB2 hB3 hB4 hB5 hN h
  go_enter Tryz.func90, Tryz.ntmps90
  go_wp2_with fail
  obtain ⟨X, hX⟩ : ∃ X, X = ((w.alloc (.cells #[.int .u64 e, .int .u64 g, .int .u64 x, .int .i64 t, .slice p n c, .slice (some ⟨b, o, none⟩) m d] 27)).alloc (.cells #[.slice pp pn pc, .slice vp' vn vc, .int .u64 nd.owner, .int .i64 nd.mode, .slice hp hh hc, .int .u64 nd.epoch, .int .u64 nd.gen, .slice up un uc] 71)) := ⟨_, rfl⟩
  have bX : Below w.heap.size w X := by rw [hX]; exact b1.alloc (by simp) _
  have iX : St6 X w.heap.size e g x t (.slice p n c) (.slice (some ⟨b, o, none⟩) m d) := by rw [hX]; simp [St6]
  have nX : NodeAt X (w.heap.size + 1) 0 nd (.slice pp pn pc) (.slice vp' vn vc) (.slice hp hh hc) (.slice up un uc) :=
    ⟨by rw [hX]; simp, by rw [hX]; simp, by rw [hX]; simp, by rw [hX]; simp, by rw [hX]; simp, by rw [hX]; simp, by rw [hX]; simp, by rw [hX]; simp, (unhide HND).r0.below bX, (unhide HND).r1.below bX, (unhide HND).r4.below bX, (unhide HND).r7.below bX, (unhide HND).k0⟩
  rw [← hX]
  have BX := hide bX
  have IX := hide iX
  have NX := hide nX
  clear hX b1 c0 c1 c2 c3 c4 c5 c6 c7 bX iX nX
  obtain ⟨V1, eV⟩ : ∃ V1, vp nd.path = V1 := ⟨_, rfl⟩
  have EV := hide eV
  clear eV
  obtain ⟨C, eC⟩ : ∃ C, (!(V1 && (k == 0 || !leB nd.path (ns.getD (k - 1) nod0).path))) = C := ⟨_, rfl⟩
  have hB : B = (!C && (canPar ns (parL nd.path) && (decide (nd.value.length ≤ 40) && ((nd.owner == 0 || live ss nd.owner) && (idsOK ss nd.holders && (idsOK ss nd.watchers && lockOK e g nd.mode nd.holders.length nd.epoch nd.gen)))))) := by
    rw [← unhide eB, nodOK, unhide HYD, ← eC, Bool.not_not, show vp nd.path = V1 from unhide EV]
  go_cut [32] (fun rv wc => rv = .bool C ∧ Below w.heap.size w wc ∧ St6 wc w.heap.size e g x t (.slice p n c) (.slice (some ⟨b, o, none⟩) m d) ∧ NodeAt wc (w.heap.size + 1) 0 nd (.slice pp pn pc) (.slice vp' vn vc) (.slice hp hh hc) (.slice up un uc))
  case first =>
    cases V1 with
    | false =>
      have eC' : C = true := by rw [← eC]; rfl
      subst eC'
      clear eC
      refine wp_region_noPanic ?_
      refine wp_region_held_drew (S := fun w' => w'.cell? ⟨w.heap.size + 1, 0, none⟩ = some (.slice pp pn pc) ∧ w'.cell? ⟨w.heap.size, 5, none⟩ = some (.slice (some ⟨b, o, none⟩) m d) ∧ Rd w' (.slice pp pn pc) nd.path) (by kernel_rfl) (by exact ⟨(unhide NX).c0, (unhide IX).2.2.2.2.2, (unhide NX).r0⟩) (fun hS => ?_)
      refine wpAnyH_take (i := 0) (oi := _) (v := ?_) (by simp only [List.getElem?_toArray, List.getElem?_cons_succ, List.getElem?_cons_zero]; rfl) (by kernel_rfl) (by kernel_rfl) (by kernel_rfl) (fun _ _ _ h => h) (Or.inl ⟨by rfl, ?_⟩) hS ?_
      rotate_left
      · (intro w' hSw; (try dsimp only at hSw); go_simp; try with_reducible rfl)
      simp only [Act.put, List.setIfInBounds_toArray, List.set_cons_zero, List.set_cons_succ]
      refine wpAnyH_take (i := 1) (oi := _) (v := ?_) (by simp only [List.getElem?_toArray, List.getElem?_cons_succ, List.getElem?_cons_zero]; rfl) (by kernel_rfl) (by kernel_rfl) (by kernel_rfl) (fun _ _ _ h => h) (Or.inl ⟨by rfl, ?_⟩) hS ?_
      rotate_left
      · (intro w' hSw; (try dsimp only at hSw); go_simp; try with_reducible rfl)
      simp only [Act.put, List.setIfInBounds_toArray, List.set_cons_zero, List.set_cons_succ]
      refine wpAnyH_ready (rs := [2]) (by kernel_rfl) (by simp) ?_
      refine AllReadyH.cons (o := _) (by simp only [List.getElem?_toArray, List.getElem?_cons_succ, List.getElem?_cons_zero]; rfl) (fun KK hK => ?_) ?_
      · refine step_call1 (by rfl) 136 _ _ (by rfl) (.slice pp pn pc) (by rfl) (fun _ => unhide HCF _ _) (specVP pp pc pn nd.path ePn _ (by exact (unhide NX).r0) HBP hpn false EV) ?_
        rintro r w2 ⟨rfl, hb2⟩
        refine ⟨_, rfl, ?_⟩
        have hb' : Below X.heap.size X w2 := Below.step (Below.refl X.heap.size X).drew hb2
        refine hK.out _ _ (by exact ⟨cell_below (unhide NX).c0 hb', cell_below (unhide IX).2.2.2.2.2 hb', (unhide NX).r0.below hb'⟩) (fun hS => ?_)
        clear hK KK
        (try simp only [Act.put, List.setIfInBounds_toArray, List.set_cons_zero, List.set_cons_succ])
        refine wpAnyH_take (i := 3) (oi := _) (v := ?_) (by simp only [List.getElem?_toArray, List.getElem?_cons_succ, List.getElem?_cons_zero]; rfl) (by kernel_rfl) (by kernel_rfl) (by kernel_rfl) (fun _ _ _ h => h) (Or.inl ⟨by rfl, ?_⟩) hS ?_
        rotate_left
        · (intro w' hSw; (try dsimp only at hSw); go_simp; try with_reducible rfl)
        simp only [Act.put, List.setIfInBounds_toArray, List.set_cons_zero, List.set_cons_succ]
        refine wpAnyH_take (i := 4) (oi := _) (v := ?_) (by simp only [List.getElem?_toArray, List.getElem?_cons_succ, List.getElem?_cons_zero]; rfl) (by kernel_rfl) (by kernel_rfl) (by kernel_rfl) (fun _ _ _ h => h) (Or.inl ⟨by rfl, ?_⟩) hS ?_
        rotate_left
        · (intro w' hSw; (try dsimp only at hSw); go_simp; try with_reducible rfl)
        simp only [Act.put, List.setIfInBounds_toArray, List.set_cons_zero, List.set_cons_succ]
        refine wpAnyH_take (i := 5) (oi := _) (v := undef) (by simp only [List.getElem?_toArray, List.getElem?_cons_succ, List.getElem?_cons_zero]; rfl) (by kernel_rfl) (by kernel_rfl) (by kernel_rfl) (fun _ _ _ h => h) (Or.inr ⟨by rfl, rfl⟩) hS ?_
        simp only [Act.put, List.setIfInBounds_toArray, List.set_cons_zero, List.set_cons_succ]
        refine wpAnyH_take (i := 6) (oi := _) (v := undef) (by simp only [List.getElem?_toArray, List.getElem?_cons_succ, List.getElem?_cons_zero]; rfl) (by kernel_rfl) (by kernel_rfl) (by kernel_rfl) (fun _ _ _ h => h) (Or.inr ⟨by rfl, rfl⟩) hS ?_
        simp only [Act.put, List.setIfInBounds_toArray, List.set_cons_zero, List.set_cons_succ]
        refine wpAnyH_take (i := 7) (oi := _) (v := undef) (by simp only [List.getElem?_toArray, List.getElem?_cons_succ, List.getElem?_cons_zero]; rfl) (by kernel_rfl) (by kernel_rfl) (by kernel_rfl) (fun _ _ _ h => h) (Or.inr ⟨by rfl, rfl⟩) hS ?_
        simp only [Act.put, List.setIfInBounds_toArray, List.set_cons_zero, List.set_cons_succ]
        refine wpAnyH_take (i := 8) (oi := _) (v := undef) (by simp only [List.getElem?_toArray, List.getElem?_cons_succ, List.getElem?_cons_zero]; rfl) (by kernel_rfl) (by kernel_rfl) (by kernel_rfl) (fun _ _ _ h => h) (Or.inr ⟨by rfl, rfl⟩) hS ?_
        simp only [Act.put, List.setIfInBounds_toArray, List.set_cons_zero, List.set_cons_succ]
        refine wpAnyH_take (i := 9) (oi := _) (v := undef) (by simp only [List.getElem?_toArray, List.getElem?_cons_succ, List.getElem?_cons_zero]; rfl) (by kernel_rfl) (by kernel_rfl) (by kernel_rfl) (fun _ _ _ h => h) (Or.inr ⟨by rfl, rfl⟩) hS ?_
        simp only [Act.put, List.setIfInBounds_toArray, List.set_cons_zero, List.set_cons_succ]
        refine wpAnyH_take (i := 10) (oi := _) (v := undef) (by simp only [List.getElem?_toArray, List.getElem?_cons_succ, List.getElem?_cons_zero]; rfl) (by kernel_rfl) (by kernel_rfl) (by kernel_rfl) (fun _ _ _ h => h) (Or.inr ⟨by rfl, rfl⟩) hS ?_
        simp only [Act.put, List.setIfInBounds_toArray, List.set_cons_zero, List.set_cons_succ]
        refine wpAnyH_take (i := 11) (oi := _) (v := undef) (by simp only [List.getElem?_toArray, List.getElem?_cons_succ, List.getElem?_cons_zero]; rfl) (by kernel_rfl) (by kernel_rfl) (by kernel_rfl) (fun _ _ _ h => h) (Or.inr ⟨by rfl, rfl⟩) hS ?_
        simp only [Act.put, List.setIfInBounds_toArray, List.set_cons_zero, List.set_cons_succ]
        refine wpAnyH_take (i := 12) (oi := _) (v := undef) (by simp only [List.getElem?_toArray, List.getElem?_cons_succ, List.getElem?_cons_zero]; rfl) (by kernel_rfl) (by kernel_rfl) (by kernel_rfl) (fun _ _ _ h => h) (Or.inr ⟨by rfl, rfl⟩) hS ?_
        simp only [Act.put, List.setIfInBounds_toArray, List.set_cons_zero, List.set_cons_succ]
        refine wpAnyH_take (i := 13) (oi := _) (v := undef) (by simp only [List.getElem?_toArray, List.getElem?_cons_succ, List.getElem?_cons_zero]; rfl) (by kernel_rfl) (by kernel_rfl) (by kernel_rfl) (fun _ _ _ h => h) (Or.inr ⟨by rfl, rfl⟩) hS ?_
        simp only [Act.put, List.setIfInBounds_toArray, List.set_cons_zero, List.set_cons_succ]
        refine wpAnyH_take (i := 14) (oi := _) (v := undef) (by simp only [List.getElem?_toArray, List.getElem?_cons_succ, List.getElem?_cons_zero]; rfl) (by kernel_rfl) (by kernel_rfl) (by kernel_rfl) (fun _ _ _ h => h) (Or.inr ⟨by rfl, rfl⟩) hS ?_
        simp only [Act.put, List.setIfInBounds_toArray, List.set_cons_zero, List.set_cons_succ]
        refine wpAnyH_take (i := 15) (oi := _) (v := undef) (by simp only [List.getElem?_toArray, List.getElem?_cons_succ, List.getElem?_cons_zero]; rfl) (by kernel_rfl) (by kernel_rfl) (by kernel_rfl) (fun _ _ _ h => h) (Or.inr ⟨by rfl, rfl⟩) hS ?_
        simp only [Act.put, List.setIfInBounds_toArray, List.set_cons_zero, List.set_cons_succ]
        refine wpAnyH_take (i := 16) (oi := _) (v := undef) (by simp only [List.getElem?_toArray, List.getElem?_cons_succ, List.getElem?_cons_zero]; rfl) (by kernel_rfl) (by kernel_rfl) (by kernel_rfl) (fun _ _ _ h => h) (Or.inr ⟨by rfl, rfl⟩) hS ?_
        simp only [Act.put, List.setIfInBounds_toArray, List.set_cons_zero, List.set_cons_succ]
        refine wpAnyH_take (i := 17) (oi := _) (v := undef) (by simp only [List.getElem?_toArray, List.getElem?_cons_succ, List.getElem?_cons_zero]; rfl) (by kernel_rfl) (by kernel_rfl) (by kernel_rfl) (fun _ _ _ h => h) (Or.inr ⟨by rfl, rfl⟩) hS ?_
        simp only [Act.put, List.setIfInBounds_toArray, List.set_cons_zero, List.set_cons_succ]
        refine wpAnyH_take (i := 18) (oi := _) (v := undef) (by simp only [List.getElem?_toArray, List.getElem?_cons_succ, List.getElem?_cons_zero]; rfl) (by kernel_rfl) (by kernel_rfl) (by kernel_rfl) (fun _ _ _ h => h) (Or.inr ⟨by rfl, rfl⟩) hS ?_
        simp only [Act.put, List.setIfInBounds_toArray, List.set_cons_zero, List.set_cons_succ]
        refine wpAnyH_take (i := 19) (oi := _) (v := undef) (by simp only [List.getElem?_toArray, List.getElem?_cons_succ, List.getElem?_cons_zero]; rfl) (by kernel_rfl) (by kernel_rfl) (by kernel_rfl) (fun _ _ _ h => h) (Or.inr ⟨by rfl, rfl⟩) hS ?_
        simp only [Act.put, List.setIfInBounds_toArray, List.set_cons_zero, List.set_cons_succ]
        refine wpAnyH_take (i := 20) (oi := _) (v := undef) (by simp only [List.getElem?_toArray, List.getElem?_cons_succ, List.getElem?_cons_zero]; rfl) (by kernel_rfl) (by kernel_rfl) (by kernel_rfl) (fun _ _ _ h => h) (Or.inr ⟨by rfl, rfl⟩) hS ?_
        simp only [Act.put, List.setIfInBounds_toArray, List.set_cons_zero, List.set_cons_succ]
        refine wpAnyH_take (i := 21) (oi := _) (v := ?_) (by simp only [List.getElem?_toArray, List.getElem?_cons_succ, List.getElem?_cons_zero]; rfl) (by kernel_rfl) (by kernel_rfl) (by kernel_rfl) (fun _ _ _ h => h) (Or.inl ⟨by rfl, ?_⟩) hS ?_
        rotate_left
        · (intro w' hSw; (try dsimp only at hSw); go_simp; try with_reducible rfl)
        simp only [Act.put, List.setIfInBounds_toArray, List.set_cons_zero, List.set_cons_succ]
        refine wpAnyH_done (by kernel_rfl) ?_ _
        refine NoPanic.normal ?_
        clear hS
        go_wp2_with fail
        go_meet
        exact ⟨rfl, Below.step (unhide BX) hb', (unhide IX).below hb', (unhide NX).below hb'⟩
      exact AllReadyH.nil
    | true =>
      by_cases hk0 : k = 0
      · have eC' : C = false := by rw [← eC, hk0]; rfl
        subst eC'
        have hp' : ¬ 0 < k := by omega
        have hp'' : ¬ (0 : Int) < (k : Int) := by omega
        clear eC hk0
        refine wp_region_noPanic ?_
        refine wp_region_held_drew (S := fun w' => w'.cell? ⟨w.heap.size + 1, 0, none⟩ = some (.slice pp pn pc) ∧ w'.cell? ⟨w.heap.size, 5, none⟩ = some (.slice (some ⟨b, o, none⟩) m d) ∧ Rd w' (.slice pp pn pc) nd.path) (by kernel_rfl) (by exact ⟨(unhide NX).c0, (unhide IX).2.2.2.2.2, (unhide NX).r0⟩) (fun hS => ?_)
        refine wpAnyH_take (i := 0) (oi := _) (v := ?_) (by simp only [List.getElem?_toArray, List.getElem?_cons_succ, List.getElem?_cons_zero]; rfl) (by kernel_rfl) (by kernel_rfl) (by kernel_rfl) (fun _ _ _ h => h) (Or.inl ⟨by rfl, ?_⟩) hS ?_
        rotate_left
        · (intro w' hSw; (try dsimp only at hSw); go_simp; try with_reducible rfl)
        simp only [Act.put, List.setIfInBounds_toArray, List.set_cons_zero, List.set_cons_succ]
        refine wpAnyH_take (i := 1) (oi := _) (v := ?_) (by simp only [List.getElem?_toArray, List.getElem?_cons_succ, List.getElem?_cons_zero]; rfl) (by kernel_rfl) (by kernel_rfl) (by kernel_rfl) (fun _ _ _ h => h) (Or.inl ⟨by rfl, ?_⟩) hS ?_
        rotate_left
        · (intro w' hSw; (try dsimp only at hSw); go_simp; try with_reducible rfl)
        simp only [Act.put, List.setIfInBounds_toArray, List.set_cons_zero, List.set_cons_succ]
        refine wpAnyH_ready (rs := [2]) (by kernel_rfl) (by simp) ?_
        refine AllReadyH.cons (o := _) (by simp only [List.getElem?_toArray, List.getElem?_cons_succ, List.getElem?_cons_zero]; rfl) (fun KK hK => ?_) ?_
        · refine step_call1 (by rfl) 136 _ _ (by rfl) (.slice pp pn pc) (by rfl) (fun _ => unhide HCF _ _) (specVP pp pc pn nd.path ePn _ (by exact (unhide NX).r0) HBP hpn true EV) ?_
          rintro r w2 ⟨rfl, hb2⟩
          refine ⟨_, rfl, ?_⟩
          have hb' : Below X.heap.size X w2 := Below.step (Below.refl X.heap.size X).drew hb2
          refine hK.out _ _ (by exact ⟨cell_below (unhide NX).c0 hb', cell_below (unhide IX).2.2.2.2.2 hb', (unhide NX).r0.below hb'⟩) (fun hS => ?_)
          clear hK KK
          (try simp only [Act.put, List.setIfInBounds_toArray, List.set_cons_zero, List.set_cons_succ])
          refine wpAnyH_take (i := 3) (oi := _) (v := ?_) (by simp only [List.getElem?_toArray, List.getElem?_cons_succ, List.getElem?_cons_zero]; rfl) (by kernel_rfl) (by kernel_rfl) (by kernel_rfl) (fun _ _ _ h => h) (Or.inl ⟨by rfl, ?_⟩) hS ?_
          rotate_left
          · (intro w' hSw; (try dsimp only at hSw); go_simp; try with_reducible rfl)
          simp only [Act.put, List.setIfInBounds_toArray, List.set_cons_zero, List.set_cons_succ]
          refine wpAnyH_take (i := 4) (oi := _) (v := ?_) (by simp only [List.getElem?_toArray, List.getElem?_cons_succ, List.getElem?_cons_zero]; rfl) (by kernel_rfl) (by kernel_rfl) (by kernel_rfl) (fun _ _ _ h => h) (Or.inl ⟨by rfl, ?_⟩) hS ?_
          rotate_left
          · (intro w' hSw; (try dsimp only at hSw); go_simp; try with_reducible rfl)
          simp only [Act.put, List.setIfInBounds_toArray, List.set_cons_zero, List.set_cons_succ]
          refine wpAnyH_take (i := 5) (oi := _) (v := ?_) (by simp only [List.getElem?_toArray, List.getElem?_cons_succ, List.getElem?_cons_zero]; rfl) (by kernel_rfl) (by kernel_rfl) (by kernel_rfl) (fun _ _ _ h => h) (Or.inl ⟨by rfl, ?_⟩) hS ?_
          rotate_left
          · (intro w' hSw; (try dsimp only at hSw); go_simp; try with_reducible rfl)
          simp only [Act.put, List.setIfInBounds_toArray, List.set_cons_zero, List.set_cons_succ]
          refine wpAnyH_take (i := 6) (oi := _) (v := ?_) (by simp only [List.getElem?_toArray, List.getElem?_cons_succ, List.getElem?_cons_zero]; rfl) (by kernel_rfl) (by kernel_rfl) (by kernel_rfl) (fun _ _ _ h => h) (Or.inl ⟨by rfl, ?_⟩) hS ?_
          rotate_left
          · (intro w' hSw; (try dsimp only at hSw); go_simp; try with_reducible rfl)
          simp only [Act.put, List.setIfInBounds_toArray, List.set_cons_zero, List.set_cons_succ]
          refine wpAnyH_take (i := 7) (oi := _) (v := ?_) (by simp only [List.getElem?_toArray, List.getElem?_cons_succ, List.getElem?_cons_zero]; rfl) (by kernel_rfl) (by kernel_rfl) (by kernel_rfl) (fun _ _ _ h => h) (Or.inl ⟨by rfl, ?_⟩) hS ?_
          rotate_left
          · (intro w' hSw; (try dsimp only at hSw); go_simp; try with_reducible rfl)
          simp only [Act.put, List.setIfInBounds_toArray, List.set_cons_zero, List.set_cons_succ]
          refine wpAnyH_take (i := 8) (oi := _) (v := undef) (by simp only [List.getElem?_toArray, List.getElem?_cons_succ, List.getElem?_cons_zero]; rfl) (by kernel_rfl) (by kernel_rfl) (by kernel_rfl) (fun _ _ _ h => h) (Or.inr ⟨by rfl, rfl⟩) hS ?_
          simp only [Act.put, List.setIfInBounds_toArray, List.set_cons_zero, List.set_cons_succ]
          refine wpAnyH_take (i := 9) (oi := _) (v := undef) (by simp only [List.getElem?_toArray, List.getElem?_cons_succ, List.getElem?_cons_zero]; rfl) (by kernel_rfl) (by kernel_rfl) (by kernel_rfl) (fun _ _ _ h => h) (Or.inr ⟨by rfl, rfl⟩) hS ?_
          simp only [Act.put, List.setIfInBounds_toArray, List.set_cons_zero, List.set_cons_succ]
          refine wpAnyH_take (i := 10) (oi := _) (v := undef) (by simp only [List.getElem?_toArray, List.getElem?_cons_succ, List.getElem?_cons_zero]; rfl) (by kernel_rfl) (by kernel_rfl) (by kernel_rfl) (fun _ _ _ h => h) (Or.inr ⟨by rfl, rfl⟩) hS ?_
          simp only [Act.put, List.setIfInBounds_toArray, List.set_cons_zero, List.set_cons_succ]
          refine wpAnyH_take (i := 11) (oi := _) (v := undef) (by simp only [List.getElem?_toArray, List.getElem?_cons_succ, List.getElem?_cons_zero]; rfl) (by kernel_rfl) (by kernel_rfl) (by kernel_rfl) (fun _ _ _ h => h) (Or.inr ⟨by rfl, rfl⟩) hS ?_
          simp only [Act.put, List.setIfInBounds_toArray, List.set_cons_zero, List.set_cons_succ]
          refine wpAnyH_take (i := 12) (oi := _) (v := undef) (by simp only [List.getElem?_toArray, List.getElem?_cons_succ, List.getElem?_cons_zero]; rfl) (by kernel_rfl) (by kernel_rfl) (by kernel_rfl) (fun _ _ _ h => h) (Or.inr ⟨by rfl, rfl⟩) hS ?_
          simp only [Act.put, List.setIfInBounds_toArray, List.set_cons_zero, List.set_cons_succ]
          refine wpAnyH_take (i := 13) (oi := _) (v := undef) (by simp only [List.getElem?_toArray, List.getElem?_cons_succ, List.getElem?_cons_zero]; rfl) (by kernel_rfl) (by kernel_rfl) (by kernel_rfl) (fun _ _ _ h => h) (Or.inr ⟨by rfl, rfl⟩) hS ?_
          simp only [Act.put, List.setIfInBounds_toArray, List.set_cons_zero, List.set_cons_succ]
          refine wpAnyH_take (i := 14) (oi := _) (v := undef) (by simp only [List.getElem?_toArray, List.getElem?_cons_succ, List.getElem?_cons_zero]; rfl) (by kernel_rfl) (by kernel_rfl) (by kernel_rfl) (fun _ _ _ h => h) (Or.inr ⟨by rfl, rfl⟩) hS ?_
          simp only [Act.put, List.setIfInBounds_toArray, List.set_cons_zero, List.set_cons_succ]
          refine wpAnyH_take (i := 15) (oi := _) (v := undef) (by simp only [List.getElem?_toArray, List.getElem?_cons_succ, List.getElem?_cons_zero]; rfl) (by kernel_rfl) (by kernel_rfl) (by kernel_rfl) (fun _ _ _ h => h) (Or.inr ⟨by rfl, rfl⟩) hS ?_
          simp only [Act.put, List.setIfInBounds_toArray, List.set_cons_zero, List.set_cons_succ]
          refine wpAnyH_take (i := 16) (oi := _) (v := undef) (by simp only [List.getElem?_toArray, List.getElem?_cons_succ, List.getElem?_cons_zero]; rfl) (by kernel_rfl) (by kernel_rfl) (by kernel_rfl) (fun _ _ _ h => h) (Or.inr ⟨by rfl, rfl⟩) hS ?_
          simp only [Act.put, List.setIfInBounds_toArray, List.set_cons_zero, List.set_cons_succ]
          refine wpAnyH_take (i := 17) (oi := _) (v := undef) (by simp only [List.getElem?_toArray, List.getElem?_cons_succ, List.getElem?_cons_zero]; rfl) (by kernel_rfl) (by kernel_rfl) (by kernel_rfl) (fun _ _ _ h => h) (Or.inr ⟨by rfl, rfl⟩) hS ?_
          simp only [Act.put, List.setIfInBounds_toArray, List.set_cons_zero, List.set_cons_succ]
          refine wpAnyH_take (i := 18) (oi := _) (v := undef) (by simp only [List.getElem?_toArray, List.getElem?_cons_succ, List.getElem?_cons_zero]; rfl) (by kernel_rfl) (by kernel_rfl) (by kernel_rfl) (fun _ _ _ h => h) (Or.inr ⟨by rfl, rfl⟩) hS ?_
          simp only [Act.put, List.setIfInBounds_toArray, List.set_cons_zero, List.set_cons_succ]
          refine wpAnyH_take (i := 19) (oi := _) (v := undef) (by simp only [List.getElem?_toArray, List.getElem?_cons_succ, List.getElem?_cons_zero]; rfl) (by kernel_rfl) (by kernel_rfl) (by kernel_rfl) (fun _ _ _ h => h) (Or.inr ⟨by rfl, rfl⟩) hS ?_
          simp only [Act.put, List.setIfInBounds_toArray, List.set_cons_zero, List.set_cons_succ]
          refine wpAnyH_take (i := 20) (oi := _) (v := ?_) (by simp only [List.getElem?_toArray, List.getElem?_cons_succ, List.getElem?_cons_zero]; rfl) (by kernel_rfl) (by kernel_rfl) (by kernel_rfl) (fun _ _ _ h => h) (Or.inl ⟨by rfl, ?_⟩) hS ?_
          rotate_left
          · (intro w' hSw; (try dsimp only at hSw); go_simp; try with_reducible rfl)
          simp only [Act.put, List.setIfInBounds_toArray, List.set_cons_zero, List.set_cons_succ]
          refine wpAnyH_take (i := 21) (oi := _) (v := ?_) (by simp only [List.getElem?_toArray, List.getElem?_cons_succ, List.getElem?_cons_zero]; rfl) (by kernel_rfl) (by kernel_rfl) (by kernel_rfl) (fun _ _ _ h => h) (Or.inl ⟨by rfl, ?_⟩) hS ?_
          rotate_left
          · (intro w' hSw; (try dsimp only at hSw); go_simp; try with_reducible rfl)
          simp only [Act.put, List.setIfInBounds_toArray, List.set_cons_zero, List.set_cons_succ]
          refine wpAnyH_done (by kernel_rfl) ?_ _
          refine NoPanic.normal ?_
          clear hS
          go_wp2_with fail
          go_meet
          exact ⟨rfl, Below.step (unhide BX) hb', (unhide IX).below hb', (unhide NX).below hb'⟩
        exact AllReadyH.nil
      · obtain ⟨j, ej⟩ : ∃ j : Nat, (k : Int) - 1 = (j : Int) := ⟨k - 1, by omega⟩
        have ej0 : k - 1 = j := by omega
        have hjl : j < ns.length := by omega
        obtain ⟨zd, hz⟩ : ∃ y, ns[j]? = some y := ⟨_, List.getElem?_eq_getElem hjl⟩
        have hzD : ns.getD j nod0 = zd := by rw [List.getD_eq_getElem?_getD, hz]; rfl
        obtain ⟨Z, Z1, Z2, Z3, hzn⟩ := unhide HA j zd hz
        obtain ⟨zp, zc, zn, rfl, eZn⟩ := hzn.r0.slc
        have KZ := hide (cell_below hzn.c0 (unhide BX))
        have RZ := hide (hzn.r0.below (unhide BX))
        have hpk : 0 < k := by omega
        have hpk' : (0 : Int) < (k : Int) := by omega
        have hjm : (j : Int) < (m : Int) := by omega
        have hj0 : (0 : Int) ≤ (j : Int) := by omega
        have wj : IntKind.i64.wrap (j : Int) = (j : Int) := IntWalk.i64_in _ (by omega)
        rw [ej0, hzD, show (k == 0) = false by simp [hk0], Bool.true_and, Bool.false_or, Bool.not_not] at eC
        have HLE : Hid ((Op.bytesLess (bstr nd.path).toList (bstr zd.path).toList || (bstr nd.path).toList == (bstr zd.path).toList) = C) := eC
        clear hz hzD hjl hzn ej0 hk0 eC
        refine wp_region_noPanic ?_
        refine wp_region_held_drew (S := fun w' => w'.cell? ⟨w.heap.size + 1, 0, none⟩ = some (.slice pp pn pc) ∧ w'.cell? ⟨w.heap.size, 5, none⟩ = some (.slice (some ⟨b, o, none⟩) m d) ∧ Rd w' (.slice pp pn pc) nd.path ∧ w'.cell? ⟨b, o + j * 8, none⟩ = some (.slice zp zn zc) ∧ Rd w' (.slice zp zn zc) zd.path) (by kernel_rfl) (by exact ⟨(unhide NX).c0, (unhide IX).2.2.2.2.2, (unhide NX).r0, unhide KZ, unhide RZ⟩) (fun hS => ?_)
        refine wpAnyH_take (i := 0) (oi := _) (v := ?_) (by simp only [List.getElem?_toArray, List.getElem?_cons_succ, List.getElem?_cons_zero]; rfl) (by kernel_rfl) (by kernel_rfl) (by kernel_rfl) (fun _ _ _ h => h) (Or.inl ⟨by rfl, ?_⟩) hS ?_
        rotate_left
        · (intro w' hSw; (try dsimp only at hSw); go_simp; try with_reducible rfl)
        simp only [Act.put, List.setIfInBounds_toArray, List.set_cons_zero, List.set_cons_succ]
        refine wpAnyH_take (i := 1) (oi := _) (v := ?_) (by simp only [List.getElem?_toArray, List.getElem?_cons_succ, List.getElem?_cons_zero]; rfl) (by kernel_rfl) (by kernel_rfl) (by kernel_rfl) (fun _ _ _ h => h) (Or.inl ⟨by rfl, ?_⟩) hS ?_
        rotate_left
        · (intro w' hSw; (try dsimp only at hSw); go_simp; try with_reducible rfl)
        simp only [Act.put, List.setIfInBounds_toArray, List.set_cons_zero, List.set_cons_succ]
        refine wpAnyH_ready (rs := [2]) (by kernel_rfl) (by simp) ?_
        refine AllReadyH.cons (o := _) (by simp only [List.getElem?_toArray, List.getElem?_cons_succ, List.getElem?_cons_zero]; rfl) (fun KK hK => ?_) ?_
        · refine step_call1 (by rfl) 136 _ _ (by rfl) (.slice pp pn pc) (by rfl) (fun _ => unhide HCF _ _) (specVP pp pc pn nd.path ePn _ (by exact (unhide NX).r0) HBP hpn true EV) ?_
          rintro r w2 ⟨rfl, hb2⟩
          refine ⟨_, rfl, ?_⟩
          have hb' : Below X.heap.size X w2 := Below.step (Below.refl X.heap.size X).drew hb2
          refine hK.out _ _ (by exact ⟨cell_below (unhide NX).c0 hb', cell_below (unhide IX).2.2.2.2.2 hb', (unhide NX).r0.below hb', cell_below (unhide KZ) hb', (unhide RZ).below hb'⟩) (fun hS => ?_)
          clear hK KK
          (try simp only [Act.put, List.setIfInBounds_toArray, List.set_cons_zero, List.set_cons_succ])
          refine wpAnyH_take (i := 3) (oi := _) (v := ?_) (by simp only [List.getElem?_toArray, List.getElem?_cons_succ, List.getElem?_cons_zero]; rfl) (by kernel_rfl) (by kernel_rfl) (by kernel_rfl) (fun _ _ _ h => h) (Or.inl ⟨by rfl, ?_⟩) hS ?_
          rotate_left
          · (intro w' hSw; (try dsimp only at hSw); go_simp; try with_reducible rfl)
          simp only [Act.put, List.setIfInBounds_toArray, List.set_cons_zero, List.set_cons_succ]
          refine wpAnyH_take (i := 4) (oi := _) (v := ?_) (by simp only [List.getElem?_toArray, List.getElem?_cons_succ, List.getElem?_cons_zero]; rfl) (by kernel_rfl) (by kernel_rfl) (by kernel_rfl) (fun _ _ _ h => h) (Or.inl ⟨by rfl, ?_⟩) hS ?_
          rotate_left
          · (intro w' hSw; (try dsimp only at hSw); go_simp; try with_reducible rfl)
          simp only [Act.put, List.setIfInBounds_toArray, List.set_cons_zero, List.set_cons_succ]
          refine wpAnyH_take (i := 5) (oi := _) (v := ?_) (by simp only [List.getElem?_toArray, List.getElem?_cons_succ, List.getElem?_cons_zero]; rfl) (by kernel_rfl) (by kernel_rfl) (by kernel_rfl) (fun _ _ _ h => h) (Or.inl ⟨by rfl, ?_⟩) hS ?_
          rotate_left
          · (intro w' hSw; (try dsimp only at hSw); go_simp; try with_reducible rfl)
          simp only [Act.put, List.setIfInBounds_toArray, List.set_cons_zero, List.set_cons_succ]
          refine wpAnyH_take (i := 6) (oi := _) (v := ?_) (by simp only [List.getElem?_toArray, List.getElem?_cons_succ, List.getElem?_cons_zero]; rfl) (by kernel_rfl) (by kernel_rfl) (by kernel_rfl) (fun _ _ _ h => h) (Or.inl ⟨by rfl, ?_⟩) hS ?_
          rotate_left
          · (intro w' hSw; (try dsimp only at hSw); go_simp; try with_reducible rfl)
          simp only [Act.put, List.setIfInBounds_toArray, List.set_cons_zero, List.set_cons_succ]
          refine wpAnyH_take (i := 7) (oi := _) (v := ?_) (by simp only [List.getElem?_toArray, List.getElem?_cons_succ, List.getElem?_cons_zero]; rfl) (by kernel_rfl) (by kernel_rfl) (by kernel_rfl) (fun _ _ _ h => h) (Or.inl ⟨by rfl, ?_⟩) hS ?_
          rotate_left
          · (intro w' hSw; (try dsimp only at hSw); go_simp; try with_reducible rfl)
          simp only [Act.put, List.setIfInBounds_toArray, List.set_cons_zero, List.set_cons_succ]
          refine wpAnyH_take (i := 8) (oi := _) (v := ?_) (by simp only [List.getElem?_toArray, List.getElem?_cons_succ, List.getElem?_cons_zero]; rfl) (by kernel_rfl) (by kernel_rfl) (by kernel_rfl) (fun _ _ _ h => h) (Or.inl ⟨by rfl, ?_⟩) hS ?_
          rotate_left
          · (intro w' hSw; (try dsimp only at hSw); go_simp; try with_reducible rfl)
          simp only [Act.put, List.setIfInBounds_toArray, List.set_cons_zero, List.set_cons_succ]
          refine wpAnyH_take (i := 9) (oi := _) (v := ?_) (by simp only [List.getElem?_toArray, List.getElem?_cons_succ, List.getElem?_cons_zero]; rfl) (by kernel_rfl) (by kernel_rfl) (by kernel_rfl) (fun _ _ _ h => h) (Or.inl ⟨by rfl, ?_⟩) hS ?_
          rotate_left
          · (intro w' hSw; (try dsimp only at hSw); go_simp; try with_reducible rfl)
          simp only [Act.put, List.setIfInBounds_toArray, List.set_cons_zero, List.set_cons_succ]
          refine wpAnyH_take (i := 10) (oi := _) (v := ?_) (by simp only [List.getElem?_toArray, List.getElem?_cons_succ, List.getElem?_cons_zero]; rfl) (by kernel_rfl) (by kernel_rfl) (by kernel_rfl) (fun _ _ _ h => h) (Or.inl ⟨by rfl, ?_⟩) hS ?_
          rotate_left
          · (intro w' hSw; (try dsimp only at hSw); have hcv := run_conv (unhide ePn) hSw.2.2.1; go_simp; try with_reducible rfl)
          simp only [Act.put, List.setIfInBounds_toArray, List.set_cons_zero, List.set_cons_succ]
          refine wpAnyH_take (i := 11) (oi := _) (v := ?_) (by simp only [List.getElem?_toArray, List.getElem?_cons_succ, List.getElem?_cons_zero]; rfl) (by kernel_rfl) (by kernel_rfl) (by kernel_rfl) (fun _ _ _ h => h) (Or.inl ⟨by rfl, ?_⟩) hS ?_
          rotate_left
          · (intro w' hSw; (try dsimp only at hSw); go_simp; try with_reducible rfl)
          simp only [Act.put, List.setIfInBounds_toArray, List.set_cons_zero, List.set_cons_succ]
          refine wpAnyH_take (i := 12) (oi := _) (v := ?_) (by simp only [List.getElem?_toArray, List.getElem?_cons_succ, List.getElem?_cons_zero]; rfl) (by kernel_rfl) (by kernel_rfl) (by kernel_rfl) (fun _ _ _ h => h) (Or.inl ⟨by rfl, ?_⟩) hS ?_
          rotate_left
          · (intro w' hSw; (try dsimp only at hSw); go_simp; try with_reducible rfl)
          simp only [Act.put, List.setIfInBounds_toArray, List.set_cons_zero, List.set_cons_succ]
          refine wpAnyH_take (i := 13) (oi := _) (v := ?_) (by simp only [List.getElem?_toArray, List.getElem?_cons_succ, List.getElem?_cons_zero]; rfl) (by kernel_rfl) (by kernel_rfl) (by kernel_rfl) (fun _ _ _ h => h) (Or.inl ⟨by rfl, ?_⟩) hS ?_
          rotate_left
          · (intro w' hSw; (try dsimp only at hSw); go_simp; try with_reducible rfl)
          simp only [Act.put, List.setIfInBounds_toArray, List.set_cons_zero, List.set_cons_succ]
          refine wpAnyH_take (i := 14) (oi := _) (v := ?_) (by simp only [List.getElem?_toArray, List.getElem?_cons_succ, List.getElem?_cons_zero]; rfl) (by kernel_rfl) (by kernel_rfl) (by kernel_rfl) (fun _ _ _ h => h) (Or.inl ⟨by rfl, ?_⟩) hS ?_
          rotate_left
          · (intro w' hSw; (try dsimp only at hSw); go_simp; try with_reducible rfl)
          simp only [Act.put, List.setIfInBounds_toArray, List.set_cons_zero, List.set_cons_succ]
          refine wpAnyH_take (i := 15) (oi := _) (v := ?_) (by simp only [List.getElem?_toArray, List.getElem?_cons_succ, List.getElem?_cons_zero]; rfl) (by kernel_rfl) (by kernel_rfl) (by kernel_rfl) (fun _ _ _ h => h) (Or.inl ⟨by rfl, ?_⟩) hS ?_
          rotate_left
          · (intro w' hSw; (try dsimp only at hSw); go_simp; try with_reducible rfl)
          simp only [Act.put, List.setIfInBounds_toArray, List.set_cons_zero, List.set_cons_succ]
          refine wpAnyH_take (i := 16) (oi := _) (v := ?_) (by simp only [List.getElem?_toArray, List.getElem?_cons_succ, List.getElem?_cons_zero]; rfl) (by kernel_rfl) (by kernel_rfl) (by kernel_rfl) (fun _ _ _ h => h) (Or.inl ⟨by rfl, ?_⟩) hS ?_
          rotate_left
          · (intro w' hSw; (try dsimp only at hSw); go_simp; try with_reducible rfl)
          simp only [Act.put, List.setIfInBounds_toArray, List.set_cons_zero, List.set_cons_succ]
          refine wpAnyH_take (i := 17) (oi := _) (v := ?_) (by simp only [List.getElem?_toArray, List.getElem?_cons_succ, List.getElem?_cons_zero]; rfl) (by kernel_rfl) (by kernel_rfl) (by kernel_rfl) (fun _ _ _ h => h) (Or.inl ⟨by rfl, ?_⟩) hS ?_
          rotate_left
          · (intro w' hSw; (try dsimp only at hSw); go_simp; try with_reducible rfl)
          simp only [Act.put, List.setIfInBounds_toArray, List.set_cons_zero, List.set_cons_succ]
          refine wpAnyH_take (i := 18) (oi := _) (v := ?_) (by simp only [List.getElem?_toArray, List.getElem?_cons_succ, List.getElem?_cons_zero]; rfl) (by kernel_rfl) (by kernel_rfl) (by kernel_rfl) (fun _ _ _ h => h) (Or.inl ⟨by rfl, ?_⟩) hS ?_
          rotate_left
          · (intro w' hSw; (try dsimp only at hSw); have hcv := run_conv (unhide eZn) hSw.2.2.2.2; go_simp; try with_reducible rfl)
          simp only [Act.put, List.setIfInBounds_toArray, List.set_cons_zero, List.set_cons_succ]
          refine wpAnyH_take (i := 19) (oi := _) (v := ?_) (by simp only [List.getElem?_toArray, List.getElem?_cons_succ, List.getElem?_cons_zero]; rfl) (by kernel_rfl) (by kernel_rfl) (by kernel_rfl) (fun _ _ _ h => h) (Or.inl ⟨by rfl, ?_⟩) hS ?_
          rotate_left
          · (intro w' hSw; (try dsimp only at hSw); have hle := unhide HLE; go_simp; try with_reducible rfl)
          simp only [Act.put, List.setIfInBounds_toArray, List.set_cons_zero, List.set_cons_succ]
          refine wpAnyH_take (i := 20) (oi := _) (v := ?_) (by simp only [List.getElem?_toArray, List.getElem?_cons_succ, List.getElem?_cons_zero]; rfl) (by kernel_rfl) (by kernel_rfl) (by kernel_rfl) (fun _ _ _ h => h) (Or.inl ⟨by rfl, ?_⟩) hS ?_
          rotate_left
          · (intro w' hSw; (try dsimp only at hSw); go_simp; try with_reducible rfl)
          simp only [Act.put, List.setIfInBounds_toArray, List.set_cons_zero, List.set_cons_succ]
          refine wpAnyH_take (i := 21) (oi := _) (v := ?_) (by simp only [List.getElem?_toArray, List.getElem?_cons_succ, List.getElem?_cons_zero]; rfl) (by kernel_rfl) (by kernel_rfl) (by kernel_rfl) (fun _ _ _ h => h) (Or.inl ⟨by rfl, ?_⟩) hS ?_
          rotate_left
          · (intro w' hSw; (try dsimp only at hSw); go_simp; try with_reducible rfl)
          simp only [Act.put, List.setIfInBounds_toArray, List.set_cons_zero, List.set_cons_succ]
          refine wpAnyH_done (by kernel_rfl) ?_ _
          refine NoPanic.normal ?_
          clear hS
          go_wp2_with fail
          go_meet
          exact ⟨rfl, Below.step (unhide BX) hb', (unhide IX).below hb', (unhide NX).below hb'⟩
        exact AllReadyH.nil
  obtain ⟨rfl, hbc, ⟨i0, i1, i2, i3, i4, i5⟩, hnc⟩ := hcut
  have HNC := hide hnc
  obtain ⟨c0, c1, c2, c3, c4, c5, c6, c7, -, -, -, -, -⟩ := hnc
  clear EV HA HND NX IX BX HCF
  cases C with
  | true =>
    have eF : B = false := by rw [hB]; rfl
    subst eF
    clear hB eC
    go_wp2
    go_ret
    exact ⟨rfl, hbc⟩
  | false =>
    rw [Bool.not_false, Bool.true_and] at hB
    have HB := hide hB
    clear hB eC
    go_wp2_with fail
    obtain ⟨pa, pb, pd, epp, hpc, hpm⟩ := (unhide HNC).k0
    simp only [Value.slice.injEq] at epp
    obtain ⟨rfl, rfl, rfl⟩ := epp
    have I6 : Hid (St6 wc w.heap.size e g x t (.slice p n c) (.slice (some ⟨b, o, none⟩) m d)) := ⟨i0, i1, i2, i3, i4, i5⟩
    have hcp : ∀ (vs : Array Value) (w : World), (callFunc 138 vs).run Tryz.prog w = .ok (.enter 138 vs) w := fun vs w => by kernel_rfl
    have HCP := hide hcp
    have hcc : ∀ (vs : Array Value) (w : World), (callFunc 137 vs).run Tryz.prog w = .ok (.enter 137 vs) w := fun vs w => by kernel_rfl
    have HCC := hide hcc
    have HBN : Hid (Byt (parL nd.path) ∧ ∀ nd ∈ ns, Byt nd.path) := ⟨parL_byt (unhide HBP), fun nd h => (unhide hby nd h).1⟩
    clear i0 i1 i2 i3 i4 i5 c0 c1 c2 c3 c4 c5 c6 c7 hcp hcc
    obtain ⟨C2, eC2⟩ : ∃ C2, canPar ns (parL nd.path) = C2 := ⟨_, rfl⟩
    have EC2 := hide eC2
    obtain ⟨C3, eC3⟩ : ∃ C3, (!(C2 && decide (nd.value.length ≤ 40))) = C3 := ⟨_, rfl⟩
    have hB2 : B = (!C3 && ((nd.owner == 0 || live ss nd.owner) && (idsOK ss nd.holders && (idsOK ss nd.watchers && lockOK e g nd.mode nd.holders.length nd.epoch nd.gen)))) := by
      rw [unhide HB, eC2, ← eC3, Bool.not_not, Bool.and_assoc]
    rw [unhide eVn] at eC3
    clear eC2 HB
    go_cut [44] (fun rv w' => rv = .bool C3 ∧ Below w.heap.size w w' ∧ St6 w' w.heap.size e g x t (.slice p n c) (.slice (some ⟨b, o, none⟩) m d) ∧ NodeAt w' (w.heap.size + 1) 0 nd (.slice pp pn pc) (.slice vp' vn vc) (.slice hp hh hc) (.slice up un uc))
    case first =>
      clear hB2
      cases C2 with
      | false =>
        have eC' : C3 = true := by rw [← eC3]; rfl
        subst eC'
        clear eC3
        refine wp_region_noPanic ?_
        refine wp_region_held_drew (S := fun w' => St6 w' w.heap.size e g x t (.slice p n c) (.slice (some ⟨b, o, none⟩) m d) ∧ w'.cell? ⟨w.heap.size + 1, 0, none⟩ = some (.slice pp pn pc) ∧ w'.cell? ⟨w.heap.size + 1, 1, none⟩ = some (.slice vp' vn vc)) (by kernel_rfl) (by exact ⟨unhide I6, (unhide HNC).c0, (unhide HNC).c1⟩) (fun hS => ?_)
        refine wpAnyH_take (i := 0) (oi := _) (v := ?_) (by simp only [List.getElem?_toArray, List.getElem?_cons_succ, List.getElem?_cons_zero]; rfl) (by kernel_rfl) (by kernel_rfl) (by kernel_rfl) (fun _ _ _ h => h) (Or.inl ⟨by rfl, ?_⟩) hS ?_
        rotate_left
        · (intro w' hSw; (try dsimp only at hSw); go_simp; try with_reducible rfl)
        simp only [Act.put, List.setIfInBounds_toArray, List.set_cons_zero, List.set_cons_succ]
        refine wpAnyH_take (i := 1) (oi := _) (v := ?_) (by simp only [List.getElem?_toArray, List.getElem?_cons_succ, List.getElem?_cons_zero]; rfl) (by kernel_rfl) (by kernel_rfl) (by kernel_rfl) (fun _ _ _ h => h) (Or.inl ⟨by rfl, ?_⟩) hS ?_
        rotate_left
        · (intro w' hSw; (try dsimp only at hSw); go_simp; try with_reducible rfl)
        simp only [Act.put, List.setIfInBounds_toArray, List.set_cons_zero, List.set_cons_succ]
        refine wpAnyH_take (i := 2) (oi := _) (v := ?_) (by simp only [List.getElem?_toArray, List.getElem?_cons_succ, List.getElem?_cons_zero]; rfl) (by kernel_rfl) (by kernel_rfl) (by kernel_rfl) (fun _ _ _ h => h) (Or.inl ⟨by rfl, ?_⟩) hS ?_
        rotate_left
        · (intro w' hSw; (try dsimp only at hSw); go_simp; try with_reducible rfl)
        simp only [Act.put, List.setIfInBounds_toArray, List.set_cons_zero, List.set_cons_succ]
        refine wpAnyH_ready (rs := [3]) (by kernel_rfl) (by simp) ?_
        refine AllReadyH.cons (o := _) (by simp only [List.getElem?_toArray, List.getElem?_cons_succ, List.getElem?_cons_zero]; rfl) (fun KK hK => ?_) ?_
        · refine step_call1 (by rfl) 138 _ _ (by rfl) (.slice pp pn pc) (by rfl) (fun _ => unhide HCP _ _) (l3parent_any pp pc pn nd.path ePn _ (by exact (unhide HNC).r0) hpn hpc hpm) ?_
          rintro r w2 ⟨q', m', d', rfl, em', hm', hr', hb2⟩
          refine ⟨_, rfl, ?_⟩
          have hb' : Below wc.heap.size wc w2 := Below.step (Below.refl wc.heap.size wc).drew hb2
          refine hK.out _ _ (by exact ⟨(unhide I6).below hb', cell_below (unhide HNC).c0 hb', cell_below (unhide HNC).c1 hb'⟩) (fun hS => ?_)
          clear hK KK
          (try simp only [Act.put, List.setIfInBounds_toArray, List.set_cons_zero, List.set_cons_succ])
          refine wpAnyH_ready (rs := [4]) (by kernel_rfl) (by simp) ?_
          refine AllReadyH.cons (o := _) (by simp only [List.getElem?_toArray, List.getElem?_cons_succ, List.getElem?_cons_zero]; rfl) (fun KK hK => ?_) ?_
          · refine step_call2 (by rfl) 137 _ _ _ (by rfl) (stV e g x t (.slice p n c) (.slice (some ⟨b, o, none⟩) m d)) (.slice q' m' d') (by rfl) (by rfl) (fun _ => unhide HCC _ _) (l3canParent_any e g x t _ q' d m d' m' _ ns (parL nd.path) em em' _ (unhide HR _ (Below.step hbc hb')).2 hr' hm (by omega) HBN false EC2) ?_
            rintro r w3 ⟨rfl, hb3⟩
            refine ⟨_, rfl, ?_⟩
            have hb4 : Below wc.heap.size wc w3 := Below.step hb' hb3
            refine hK.out _ _ (by exact ⟨(unhide I6).below hb4, cell_below (unhide HNC).c0 hb4, cell_below (unhide HNC).c1 hb4⟩) (fun hS => ?_)
            clear hK KK
            (try simp only [Act.put, List.setIfInBounds_toArray, List.set_cons_zero, List.set_cons_succ])
            refine wpAnyH_take (i := 5) (oi := _) (v := ?_) (by simp only [List.getElem?_toArray, List.getElem?_cons_succ, List.getElem?_cons_zero]; rfl) (by kernel_rfl) (by kernel_rfl) (by kernel_rfl) (fun _ _ _ h => h) (Or.inl ⟨by rfl, ?_⟩) hS ?_
            rotate_left
            · (intro w' hSw; (try dsimp only at hSw); go_simp; try with_reducible rfl)
            simp only [Act.put, List.setIfInBounds_toArray, List.set_cons_zero, List.set_cons_succ]
            refine wpAnyH_take (i := 6) (oi := _) (v := ?_) (by simp only [List.getElem?_toArray, List.getElem?_cons_succ, List.getElem?_cons_zero]; rfl) (by kernel_rfl) (by kernel_rfl) (by kernel_rfl) (fun _ _ _ h => h) (Or.inl ⟨by rfl, ?_⟩) hS ?_
            rotate_left
            · (intro w' hSw; (try dsimp only at hSw); go_simp; try with_reducible rfl)
            simp only [Act.put, List.setIfInBounds_toArray, List.set_cons_zero, List.set_cons_succ]
            refine wpAnyH_take (i := 7) (oi := _) (v := undef) (by simp only [List.getElem?_toArray, List.getElem?_cons_succ, List.getElem?_cons_zero]; rfl) (by kernel_rfl) (by kernel_rfl) (by kernel_rfl) (fun _ _ _ h => h) (Or.inr ⟨by rfl, rfl⟩) hS ?_
            simp only [Act.put, List.setIfInBounds_toArray, List.set_cons_zero, List.set_cons_succ]
            refine wpAnyH_take (i := 8) (oi := _) (v := undef) (by simp only [List.getElem?_toArray, List.getElem?_cons_succ, List.getElem?_cons_zero]; rfl) (by kernel_rfl) (by kernel_rfl) (by kernel_rfl) (fun _ _ _ h => h) (Or.inr ⟨by rfl, rfl⟩) hS ?_
            simp only [Act.put, List.setIfInBounds_toArray, List.set_cons_zero, List.set_cons_succ]
            refine wpAnyH_take (i := 9) (oi := _) (v := undef) (by simp only [List.getElem?_toArray, List.getElem?_cons_succ, List.getElem?_cons_zero]; rfl) (by kernel_rfl) (by kernel_rfl) (by kernel_rfl) (fun _ _ _ h => h) (Or.inr ⟨by rfl, rfl⟩) hS ?_
            simp only [Act.put, List.setIfInBounds_toArray, List.set_cons_zero, List.set_cons_succ]
            refine wpAnyH_take (i := 10) (oi := _) (v := undef) (by simp only [List.getElem?_toArray, List.getElem?_cons_succ, List.getElem?_cons_zero]; rfl) (by kernel_rfl) (by kernel_rfl) (by kernel_rfl) (fun _ _ _ h => h) (Or.inr ⟨by rfl, rfl⟩) hS ?_
            simp only [Act.put, List.setIfInBounds_toArray, List.set_cons_zero, List.set_cons_succ]
            refine wpAnyH_take (i := 11) (oi := _) (v := ?_) (by simp only [List.getElem?_toArray, List.getElem?_cons_succ, List.getElem?_cons_zero]; rfl) (by kernel_rfl) (by kernel_rfl) (by kernel_rfl) (fun _ _ _ h => h) (Or.inl ⟨by rfl, ?_⟩) hS ?_
            rotate_left
            · (intro w' hSw; (try dsimp only at hSw); go_simp; try with_reducible rfl)
            simp only [Act.put, List.setIfInBounds_toArray, List.set_cons_zero, List.set_cons_succ]
            refine wpAnyH_done (by kernel_rfl) ?_ _
            refine NoPanic.normal ?_
            clear hS
            go_wp2_with fail
            go_meet
            exact ⟨rfl, Below.step hbc hb4, (unhide I6).below hb4, (unhide HNC).below hb4⟩
          exact AllReadyH.nil
        exact AllReadyH.nil
      | true =>
        by_cases h40 : vn ≤ 40
        · have eC' : C3 = false := by rw [← eC3]; simp [h40]
          subst eC'
          have h40' : ¬ (40 : Int) < (vn : Int) := by omega
          clear eC3
          refine wp_region_noPanic ?_
          refine wp_region_held_drew (S := fun w' => St6 w' w.heap.size e g x t (.slice p n c) (.slice (some ⟨b, o, none⟩) m d) ∧ w'.cell? ⟨w.heap.size + 1, 0, none⟩ = some (.slice pp pn pc) ∧ w'.cell? ⟨w.heap.size + 1, 1, none⟩ = some (.slice vp' vn vc)) (by kernel_rfl) (by exact ⟨unhide I6, (unhide HNC).c0, (unhide HNC).c1⟩) (fun hS => ?_)
          refine wpAnyH_take (i := 0) (oi := _) (v := ?_) (by simp only [List.getElem?_toArray, List.getElem?_cons_succ, List.getElem?_cons_zero]; rfl) (by kernel_rfl) (by kernel_rfl) (by kernel_rfl) (fun _ _ _ h => h) (Or.inl ⟨by rfl, ?_⟩) hS ?_
          rotate_left
          · (intro w' hSw; (try dsimp only at hSw); go_simp; try with_reducible rfl)
          simp only [Act.put, List.setIfInBounds_toArray, List.set_cons_zero, List.set_cons_succ]
          refine wpAnyH_take (i := 1) (oi := _) (v := ?_) (by simp only [List.getElem?_toArray, List.getElem?_cons_succ, List.getElem?_cons_zero]; rfl) (by kernel_rfl) (by kernel_rfl) (by kernel_rfl) (fun _ _ _ h => h) (Or.inl ⟨by rfl, ?_⟩) hS ?_
          rotate_left
          · (intro w' hSw; (try dsimp only at hSw); go_simp; try with_reducible rfl)
          simp only [Act.put, List.setIfInBounds_toArray, List.set_cons_zero, List.set_cons_succ]
          refine wpAnyH_take (i := 2) (oi := _) (v := ?_) (by simp only [List.getElem?_toArray, List.getElem?_cons_succ, List.getElem?_cons_zero]; rfl) (by kernel_rfl) (by kernel_rfl) (by kernel_rfl) (fun _ _ _ h => h) (Or.inl ⟨by rfl, ?_⟩) hS ?_
          rotate_left
          · (intro w' hSw; (try dsimp only at hSw); go_simp; try with_reducible rfl)
          simp only [Act.put, List.setIfInBounds_toArray, List.set_cons_zero, List.set_cons_succ]
          refine wpAnyH_ready (rs := [3]) (by kernel_rfl) (by simp) ?_
          refine AllReadyH.cons (o := _) (by simp only [List.getElem?_toArray, List.getElem?_cons_succ, List.getElem?_cons_zero]; rfl) (fun KK hK => ?_) ?_
          · refine step_call1 (by rfl) 138 _ _ (by rfl) (.slice pp pn pc) (by rfl) (fun _ => unhide HCP _ _) (l3parent_any pp pc pn nd.path ePn _ (by exact (unhide HNC).r0) hpn hpc hpm) ?_
            rintro r w2 ⟨q', m', d', rfl, em', hm', hr', hb2⟩
            refine ⟨_, rfl, ?_⟩
            have hb' : Below wc.heap.size wc w2 := Below.step (Below.refl wc.heap.size wc).drew hb2
            refine hK.out _ _ (by exact ⟨(unhide I6).below hb', cell_below (unhide HNC).c0 hb', cell_below (unhide HNC).c1 hb'⟩) (fun hS => ?_)
            clear hK KK
            (try simp only [Act.put, List.setIfInBounds_toArray, List.set_cons_zero, List.set_cons_succ])
            refine wpAnyH_ready (rs := [4]) (by kernel_rfl) (by simp) ?_
            refine AllReadyH.cons (o := _) (by simp only [List.getElem?_toArray, List.getElem?_cons_succ, List.getElem?_cons_zero]; rfl) (fun KK hK => ?_) ?_
            · refine step_call2 (by rfl) 137 _ _ _ (by rfl) (stV e g x t (.slice p n c) (.slice (some ⟨b, o, none⟩) m d)) (.slice q' m' d') (by rfl) (by rfl) (fun _ => unhide HCC _ _) (l3canParent_any e g x t _ q' d m d' m' _ ns (parL nd.path) em em' _ (unhide HR _ (Below.step hbc hb')).2 hr' hm (by omega) HBN true EC2) ?_
              rintro r w3 ⟨rfl, hb3⟩
              refine ⟨_, rfl, ?_⟩
              have hb4 : Below wc.heap.size wc w3 := Below.step hb' hb3
              refine hK.out _ _ (by exact ⟨(unhide I6).below hb4, cell_below (unhide HNC).c0 hb4, cell_below (unhide HNC).c1 hb4⟩) (fun hS => ?_)
              clear hK KK
              (try simp only [Act.put, List.setIfInBounds_toArray, List.set_cons_zero, List.set_cons_succ])
              refine wpAnyH_take (i := 5) (oi := _) (v := ?_) (by simp only [List.getElem?_toArray, List.getElem?_cons_succ, List.getElem?_cons_zero]; rfl) (by kernel_rfl) (by kernel_rfl) (by kernel_rfl) (fun _ _ _ h => h) (Or.inl ⟨by rfl, ?_⟩) hS ?_
              rotate_left
              · (intro w' hSw; (try dsimp only at hSw); go_simp; try with_reducible rfl)
              simp only [Act.put, List.setIfInBounds_toArray, List.set_cons_zero, List.set_cons_succ]
              refine wpAnyH_take (i := 6) (oi := _) (v := ?_) (by simp only [List.getElem?_toArray, List.getElem?_cons_succ, List.getElem?_cons_zero]; rfl) (by kernel_rfl) (by kernel_rfl) (by kernel_rfl) (fun _ _ _ h => h) (Or.inl ⟨by rfl, ?_⟩) hS ?_
              rotate_left
              · (intro w' hSw; (try dsimp only at hSw); go_simp; try with_reducible rfl)
              simp only [Act.put, List.setIfInBounds_toArray, List.set_cons_zero, List.set_cons_succ]
              refine wpAnyH_take (i := 7) (oi := _) (v := ?_) (by simp only [List.getElem?_toArray, List.getElem?_cons_succ, List.getElem?_cons_zero]; rfl) (by kernel_rfl) (by kernel_rfl) (by kernel_rfl) (fun _ _ _ h => h) (Or.inl ⟨by rfl, ?_⟩) hS ?_
              rotate_left
              · (intro w' hSw; (try dsimp only at hSw); go_simp; try with_reducible rfl)
              simp only [Act.put, List.setIfInBounds_toArray, List.set_cons_zero, List.set_cons_succ]
              refine wpAnyH_take (i := 8) (oi := _) (v := ?_) (by simp only [List.getElem?_toArray, List.getElem?_cons_succ, List.getElem?_cons_zero]; rfl) (by kernel_rfl) (by kernel_rfl) (by kernel_rfl) (fun _ _ _ h => h) (Or.inl ⟨by rfl, ?_⟩) hS ?_
              rotate_left
              · (intro w' hSw; (try dsimp only at hSw); go_simp; try with_reducible rfl)
              simp only [Act.put, List.setIfInBounds_toArray, List.set_cons_zero, List.set_cons_succ]
              refine wpAnyH_take (i := 9) (oi := _) (v := ?_) (by simp only [List.getElem?_toArray, List.getElem?_cons_succ, List.getElem?_cons_zero]; rfl) (by kernel_rfl) (by kernel_rfl) (by kernel_rfl) (fun _ _ _ h => h) (Or.inl ⟨by rfl, ?_⟩) hS ?_
              rotate_left
              · (intro w' hSw; (try dsimp only at hSw); go_simp; try with_reducible rfl)
              simp only [Act.put, List.setIfInBounds_toArray, List.set_cons_zero, List.set_cons_succ]
              refine wpAnyH_take (i := 10) (oi := _) (v := ?_) (by simp only [List.getElem?_toArray, List.getElem?_cons_succ, List.getElem?_cons_zero]; rfl) (by kernel_rfl) (by kernel_rfl) (by kernel_rfl) (fun _ _ _ h => h) (Or.inl ⟨by rfl, ?_⟩) hS ?_
              rotate_left
              · (intro w' hSw; (try dsimp only at hSw); go_simp; try with_reducible rfl)
              simp only [Act.put, List.setIfInBounds_toArray, List.set_cons_zero, List.set_cons_succ]
              refine wpAnyH_take (i := 11) (oi := _) (v := ?_) (by simp only [List.getElem?_toArray, List.getElem?_cons_succ, List.getElem?_cons_zero]; rfl) (by kernel_rfl) (by kernel_rfl) (by kernel_rfl) (fun _ _ _ h => h) (Or.inl ⟨by rfl, ?_⟩) hS ?_
              rotate_left
              · (intro w' hSw; (try dsimp only at hSw); go_simp; try with_reducible rfl)
              simp only [Act.put, List.setIfInBounds_toArray, List.set_cons_zero, List.set_cons_succ]
              refine wpAnyH_done (by kernel_rfl) ?_ _
              refine NoPanic.normal ?_
              clear hS
              go_wp2_with fail
              go_meet
              exact ⟨rfl, Below.step hbc hb4, (unhide I6).below hb4, (unhide HNC).below hb4⟩
            exact AllReadyH.nil
          exact AllReadyH.nil
        · have eC' : C3 = true := by rw [← eC3]; simp [h40]
          subst eC'
          have h40' : (40 : Int) < (vn : Int) := by omega
          clear eC3
          refine wp_region_noPanic ?_
          refine wp_region_held_drew (S := fun w' => St6 w' w.heap.size e g x t (.slice p n c) (.slice (some ⟨b, o, none⟩) m d) ∧ w'.cell? ⟨w.heap.size + 1, 0, none⟩ = some (.slice pp pn pc) ∧ w'.cell? ⟨w.heap.size + 1, 1, none⟩ = some (.slice vp' vn vc)) (by kernel_rfl) (by exact ⟨unhide I6, (unhide HNC).c0, (unhide HNC).c1⟩) (fun hS => ?_)
          refine wpAnyH_take (i := 0) (oi := _) (v := ?_) (by simp only [List.getElem?_toArray, List.getElem?_cons_succ, List.getElem?_cons_zero]; rfl) (by kernel_rfl) (by kernel_rfl) (by kernel_rfl) (fun _ _ _ h => h) (Or.inl ⟨by rfl, ?_⟩) hS ?_
          rotate_left
          · (intro w' hSw; (try dsimp only at hSw); go_simp; try with_reducible rfl)
          simp only [Act.put, List.setIfInBounds_toArray, List.set_cons_zero, List.set_cons_succ]
          refine wpAnyH_take (i := 1) (oi := _) (v := ?_) (by simp only [List.getElem?_toArray, List.getElem?_cons_succ, List.getElem?_cons_zero]; rfl) (by kernel_rfl) (by kernel_rfl) (by kernel_rfl) (fun _ _ _ h => h) (Or.inl ⟨by rfl, ?_⟩) hS ?_
          rotate_left
          · (intro w' hSw; (try dsimp only at hSw); go_simp; try with_reducible rfl)
          simp only [Act.put, List.setIfInBounds_toArray, List.set_cons_zero, List.set_cons_succ]
          refine wpAnyH_take (i := 2) (oi := _) (v := ?_) (by simp only [List.getElem?_toArray, List.getElem?_cons_succ, List.getElem?_cons_zero]; rfl) (by kernel_rfl) (by kernel_rfl) (by kernel_rfl) (fun _ _ _ h => h) (Or.inl ⟨by rfl, ?_⟩) hS ?_
          rotate_left
          · (intro w' hSw; (try dsimp only at hSw); go_simp; try with_reducible rfl)
          simp only [Act.put, List.setIfInBounds_toArray, List.set_cons_zero, List.set_cons_succ]
          refine wpAnyH_ready (rs := [3]) (by kernel_rfl) (by simp) ?_
          refine AllReadyH.cons (o := _) (by simp only [List.getElem?_toArray, List.getElem?_cons_succ, List.getElem?_cons_zero]; rfl) (fun KK hK => ?_) ?_
          · refine step_call1 (by rfl) 138 _ _ (by rfl) (.slice pp pn pc) (by rfl) (fun _ => unhide HCP _ _) (l3parent_any pp pc pn nd.path ePn _ (by exact (unhide HNC).r0) hpn hpc hpm) ?_
            rintro r w2 ⟨q', m', d', rfl, em', hm', hr', hb2⟩
            refine ⟨_, rfl, ?_⟩
            have hb' : Below wc.heap.size wc w2 := Below.step (Below.refl wc.heap.size wc).drew hb2
            refine hK.out _ _ (by exact ⟨(unhide I6).below hb', cell_below (unhide HNC).c0 hb', cell_below (unhide HNC).c1 hb'⟩) (fun hS => ?_)
            clear hK KK
            (try simp only [Act.put, List.setIfInBounds_toArray, List.set_cons_zero, List.set_cons_succ])
            refine wpAnyH_ready (rs := [4]) (by kernel_rfl) (by simp) ?_
            refine AllReadyH.cons (o := _) (by simp only [List.getElem?_toArray, List.getElem?_cons_succ, List.getElem?_cons_zero]; rfl) (fun KK hK => ?_) ?_
            · refine step_call2 (by rfl) 137 _ _ _ (by rfl) (stV e g x t (.slice p n c) (.slice (some ⟨b, o, none⟩) m d)) (.slice q' m' d') (by rfl) (by rfl) (fun _ => unhide HCC _ _) (l3canParent_any e g x t _ q' d m d' m' _ ns (parL nd.path) em em' _ (unhide HR _ (Below.step hbc hb')).2 hr' hm (by omega) HBN true EC2) ?_
              rintro r w3 ⟨rfl, hb3⟩
              refine ⟨_, rfl, ?_⟩
              have hb4 : Below wc.heap.size wc w3 := Below.step hb' hb3
              refine hK.out _ _ (by exact ⟨(unhide I6).below hb4, cell_below (unhide HNC).c0 hb4, cell_below (unhide HNC).c1 hb4⟩) (fun hS => ?_)
              clear hK KK
              (try simp only [Act.put, List.setIfInBounds_toArray, List.set_cons_zero, List.set_cons_succ])
              refine wpAnyH_take (i := 5) (oi := _) (v := ?_) (by simp only [List.getElem?_toArray, List.getElem?_cons_succ, List.getElem?_cons_zero]; rfl) (by kernel_rfl) (by kernel_rfl) (by kernel_rfl) (fun _ _ _ h => h) (Or.inl ⟨by rfl, ?_⟩) hS ?_
              rotate_left
              · (intro w' hSw; (try dsimp only at hSw); go_simp; try with_reducible rfl)
              simp only [Act.put, List.setIfInBounds_toArray, List.set_cons_zero, List.set_cons_succ]
              refine wpAnyH_take (i := 6) (oi := _) (v := ?_) (by simp only [List.getElem?_toArray, List.getElem?_cons_succ, List.getElem?_cons_zero]; rfl) (by kernel_rfl) (by kernel_rfl) (by kernel_rfl) (fun _ _ _ h => h) (Or.inl ⟨by rfl, ?_⟩) hS ?_
              rotate_left
              · (intro w' hSw; (try dsimp only at hSw); go_simp; try with_reducible rfl)
              simp only [Act.put, List.setIfInBounds_toArray, List.set_cons_zero, List.set_cons_succ]
              refine wpAnyH_take (i := 7) (oi := _) (v := ?_) (by simp only [List.getElem?_toArray, List.getElem?_cons_succ, List.getElem?_cons_zero]; rfl) (by kernel_rfl) (by kernel_rfl) (by kernel_rfl) (fun _ _ _ h => h) (Or.inl ⟨by rfl, ?_⟩) hS ?_
              rotate_left
              · (intro w' hSw; (try dsimp only at hSw); go_simp; try with_reducible rfl)
              simp only [Act.put, List.setIfInBounds_toArray, List.set_cons_zero, List.set_cons_succ]
              refine wpAnyH_take (i := 8) (oi := _) (v := ?_) (by simp only [List.getElem?_toArray, List.getElem?_cons_succ, List.getElem?_cons_zero]; rfl) (by kernel_rfl) (by kernel_rfl) (by kernel_rfl) (fun _ _ _ h => h) (Or.inl ⟨by rfl, ?_⟩) hS ?_
              rotate_left
              · (intro w' hSw; (try dsimp only at hSw); go_simp; try with_reducible rfl)
              simp only [Act.put, List.setIfInBounds_toArray, List.set_cons_zero, List.set_cons_succ]
              refine wpAnyH_take (i := 9) (oi := _) (v := ?_) (by simp only [List.getElem?_toArray, List.getElem?_cons_succ, List.getElem?_cons_zero]; rfl) (by kernel_rfl) (by kernel_rfl) (by kernel_rfl) (fun _ _ _ h => h) (Or.inl ⟨by rfl, ?_⟩) hS ?_
              rotate_left
              · (intro w' hSw; (try dsimp only at hSw); go_simp; try with_reducible rfl)
              simp only [Act.put, List.setIfInBounds_toArray, List.set_cons_zero, List.set_cons_succ]
              refine wpAnyH_take (i := 10) (oi := _) (v := ?_) (by simp only [List.getElem?_toArray, List.getElem?_cons_succ, List.getElem?_cons_zero]; rfl) (by kernel_rfl) (by kernel_rfl) (by kernel_rfl) (fun _ _ _ h => h) (Or.inl ⟨by rfl, ?_⟩) hS ?_
              rotate_left
              · (intro w' hSw; (try dsimp only at hSw); go_simp; try with_reducible rfl)
              simp only [Act.put, List.setIfInBounds_toArray, List.set_cons_zero, List.set_cons_succ]
              refine wpAnyH_take (i := 11) (oi := _) (v := ?_) (by simp only [List.getElem?_toArray, List.getElem?_cons_succ, List.getElem?_cons_zero]; rfl) (by kernel_rfl) (by kernel_rfl) (by kernel_rfl) (fun _ _ _ h => h) (Or.inl ⟨by rfl, ?_⟩) hS ?_
              rotate_left
              · (intro w' hSw; (try dsimp only at hSw); go_simp; try with_reducible rfl)
              simp only [Act.put, List.setIfInBounds_toArray, List.set_cons_zero, List.set_cons_succ]
              refine wpAnyH_done (by kernel_rfl) ?_ _
              refine NoPanic.normal ?_
              clear hS
              go_wp2_with fail
              go_meet
              exact ⟨rfl, Below.step hbc hb4, (unhide I6).below hb4, (unhide HNC).below hb4⟩
            exact AllReadyH.nil
          exact AllReadyH.nil
    obtain ⟨rfl, hbd, ⟨i0, i1, i2, i3, i4, i5⟩, hnd2⟩ := hcut
    have HN2 := hide hnd2
    obtain ⟨c0, c1, c2, c3, c4, c5, c6, c7, -, -, -, -, -⟩ := hnd2
    clear I6 HNC HCP HCC HBN EC2 eC3
    cases C3 with
    | true =>
      have eF : B = false := by rw [hB2]; rfl
      subst eF
      clear hB2
      go_wp2
      go_ret
      exact ⟨rfl, hbd⟩
    | false =>
      rw [Bool.not_false, Bool.true_and] at hB2
      obtain ⟨ow, eo⟩ : ∃ ow, nd.owner = ow := ⟨_, rfl⟩
      rw [eo] at hB2 c2
      clear eo
      by_cases ho : ow = 0
      · subst ho
        have HB3 : Hid (B = (idsOK ss nd.holders && (idsOK ss nd.watchers && lockOK e g nd.mode nd.holders.length nd.epoch nd.gen))) := hB2
        clear hB2
        obtain ⟨T1, eT1⟩ : ∃ T, idsOK ss nd.holders = T := ⟨_, rfl⟩
        obtain ⟨T2, eT2⟩ : ∃ T, idsOK ss nd.watchers = T := ⟨_, rfl⟩
        obtain ⟨T3, eT3⟩ : ∃ T, lockOK e g nd.mode hh nd.epoch nd.gen = T := ⟨_, rfl⟩
        have ET1 := hide eT1
        have ET2 := hide eT2
        have ET3 := hide eT3
        have HB4 : Hid (B = (T1 && (T2 && T3))) := by show _ = _; rw [unhide HB3, eT1, eT2, unhide eHn, eT3]
        clear eT1 eT2 eT3 HB3
        go_wp2_with fail
        refine (l3idsOK_any e g x t p hp c n hc hh _ ss nd.holders en eHn _ (unhide HR _ hbd).1 (unhide HN2).r4 hn hhn T1 ET1).mono ?_
        rintro r wa ⟨rfl, hba⟩
        have Ba := Below.step hbd hba
        have HNa := hide ((unhide HN2).below hba)
        cases T1 with
        | false =>
          have eF : B = false := by rw [unhide HB4]; rfl
          subst eF
          clear HB4
          go_wp2
          go_ret
          exact ⟨rfl, Ba⟩
        | true =>
          have a0 := cell_below i0 hba
          have a1 := cell_below i1 hba
          have a2 := cell_below i2 hba
          have a3 := cell_below i3 hba
          have a4 := cell_below i4 hba
          have a5 := cell_below i5 hba
          have d0 := cell_below c0 hba
          have d1 := cell_below c1 hba
          have d2 := cell_below c2 hba
          have d3 := cell_below c3 hba
          have d4 := cell_below c4 hba
          have d5 := cell_below c5 hba
          have d6 := cell_below c6 hba
          have d7 := cell_below c7 hba
          clear i0 i1 i2 i3 i4 i5 c0 c1 c2 c3 c4 c5 c6 c7 hba
          go_wp2_with fail
          refine (l3idsOK_any e g x t p up c n uc un _ ss nd.watchers en eUn _ (unhide HR _ Ba).1 (unhide HNa).r7 hn hun T2 ET2).mono ?_
          rintro r wb ⟨rfl, hbb⟩
          have Bb := Below.step Ba hbb
          cases T2 with
          | false =>
            have eF : B = false := by rw [unhide HB4]; rfl
            subst eF
            clear HB4
            go_wp2
            go_ret
            exact ⟨rfl, Bb⟩
          | true =>
            have eT : B = T3 := by rw [unhide HB4]; rfl
            subst eT
            have f0 := cell_below a0 hbb
            have f1 := cell_below a1 hbb
            have f2 := cell_below a2 hbb
            have f3 := cell_below a3 hbb
            have f4 := cell_below a4 hbb
            have f5 := cell_below a5 hbb
            have g0 := cell_below d0 hbb
            have g1 := cell_below d1 hbb
            have g2 := cell_below d2 hbb
            have g3 := cell_below d3 hbb
            have g4 := cell_below d4 hbb
            have g5 := cell_below d5 hbb
            have g6 := cell_below d6 hbb
            have g7 := cell_below d7 hbb
            clear a0 a1 a2 a3 a4 a5 d0 d1 d2 d3 d4 d5 d6 d7 hbb HB4
            go_wp2_with fail
            refine (l3lockOK_any e g x t _ nd.mode nd.epoch nd.gen _ _ _ _ _ hp hc hh _ hhn B ET3).mono ?_
            rintro r wd ⟨rfl, hbd'⟩
            have Bd := Below.step Bb hbd'
            clear hbd' f0 f1 f2 f3 f4 f5 g0 g1 g2 g3 g4 g5 g6 g7
            go_wp2
            go_ret
            exact ⟨rfl, Bd⟩
      · have hod : (ow == 0) = false := by simp [ho]
        have hod' : (ow != 0) = true := by simp [ho]
        rw [hod, Bool.false_or] at hB2
        obtain ⟨L, eL⟩ : ∃ L, live ss ow = L := ⟨_, rfl⟩
        have EL : Hid ((ss.any fun s => s.1 == ow) = L) := eL
        rw [eL] at hB2
        have HB3 := hide hB2
        clear hB2 eL
        go_wp2_with fail
        refine (l3live_any e g x t p c n _ ss en _ (unhide HR _ hbd).1 hn ow L EL).mono ?_
        rintro r w2 ⟨rfl, hb2⟩
        have b2 := Below.step hbd hb2
        cases L with
        | false =>
          have eF : B = false := by rw [unhide HB3]; rfl
          subst eF
          clear HB3
          go_wp2
          go_ret
          exact ⟨rfl, b2⟩
        | true =>
          have HB3 : Hid (B = (idsOK ss nd.holders && (idsOK ss nd.watchers && lockOK e g nd.mode nd.holders.length nd.epoch nd.gen))) := unhide HB3
          have HN3 := hide ((unhide HN2).below hb2)
          replace i0 := cell_below i0 hb2
          replace i1 := cell_below i1 hb2
          replace i2 := cell_below i2 hb2
          replace i3 := cell_below i3 hb2
          replace i4 := cell_below i4 hb2
          replace i5 := cell_below i5 hb2
          replace c0 := cell_below c0 hb2
          replace c1 := cell_below c1 hb2
          replace c2 := cell_below c2 hb2
          replace c3 := cell_below c3 hb2
          replace c4 := cell_below c4 hb2
          replace c5 := cell_below c5 hb2
          replace c6 := cell_below c6 hb2
          replace c7 := cell_below c7 hb2
          clear hb2
          obtain ⟨T1, eT1⟩ : ∃ T, idsOK ss nd.holders = T := ⟨_, rfl⟩
          obtain ⟨T2, eT2⟩ : ∃ T, idsOK ss nd.watchers = T := ⟨_, rfl⟩
          obtain ⟨T3, eT3⟩ : ∃ T, lockOK e g nd.mode hh nd.epoch nd.gen = T := ⟨_, rfl⟩
          have ET1 := hide eT1
          have ET2 := hide eT2
          have ET3 := hide eT3
          have HB4 : Hid (B = (T1 && (T2 && T3))) := by show _ = _; rw [unhide HB3, eT1, eT2, unhide eHn, eT3]
          clear eT1 eT2 eT3 HB3
          go_wp2_with fail
          refine (l3idsOK_any e g x t p hp c n hc hh _ ss nd.holders en eHn _ (unhide HR _ b2).1 (unhide HN3).r4 hn hhn T1 ET1).mono ?_
          rintro r wa ⟨rfl, hba⟩
          have Ba := Below.step b2 hba
          have HNa := hide ((unhide HN3).below hba)
          cases T1 with
          | false =>
            have eF : B = false := by rw [unhide HB4]; rfl
            subst eF
            clear HB4
            go_wp2
            go_ret
            exact ⟨rfl, Ba⟩
          | true =>
            have a0 := cell_below i0 hba
            have a1 := cell_below i1 hba
            have a2 := cell_below i2 hba
            have a3 := cell_below i3 hba
            have a4 := cell_below i4 hba
            have a5 := cell_below i5 hba
            have d0 := cell_below c0 hba
            have d1 := cell_below c1 hba
            have d2 := cell_below c2 hba
            have d3 := cell_below c3 hba
            have d4 := cell_below c4 hba
            have d5 := cell_below c5 hba
            have d6 := cell_below c6 hba
            have d7 := cell_below c7 hba
            clear i0 i1 i2 i3 i4 i5 c0 c1 c2 c3 c4 c5 c6 c7 hba
            go_wp2_with fail
            refine (l3idsOK_any e g x t p up c n uc un _ ss nd.watchers en eUn _ (unhide HR _ Ba).1 (unhide HNa).r7 hn hun T2 ET2).mono ?_
            rintro r wb ⟨rfl, hbb⟩
            have Bb := Below.step Ba hbb
            cases T2 with
            | false =>
              have eF : B = false := by rw [unhide HB4]; rfl
              subst eF
              clear HB4
              go_wp2
              go_ret
              exact ⟨rfl, Bb⟩
            | true =>
              have eT : B = T3 := by rw [unhide HB4]; rfl
              subst eT
              have f0 := cell_below a0 hbb
              have f1 := cell_below a1 hbb
              have f2 := cell_below a2 hbb
              have f3 := cell_below a3 hbb
              have f4 := cell_below a4 hbb
              have f5 := cell_below a5 hbb
              have g0 := cell_below d0 hbb
              have g1 := cell_below d1 hbb
              have g2 := cell_below d2 hbb
              have g3 := cell_below d3 hbb
              have g4 := cell_below d4 hbb
              have g5 := cell_below d5 hbb
              have g6 := cell_below d6 hbb
              have g7 := cell_below d7 hbb
              clear a0 a1 a2 a3 a4 a5 d0 d1 d2 d3 d4 d5 d6 d7 hbb HB4
              go_wp2_with fail
              refine (l3lockOK_any e g x t _ nd.mode nd.epoch nd.gen _ _ _ _ _ hp hc hh _ hhn B ET3).mono ?_
              rintro r wd ⟨rfl, hbd'⟩
              have Bd := Below.step Bb hbd'
              clear hbd' f0 f1 f2 f3 f4 f5 g0 g1 g2 g3 g4 g5 g6 g7
              go_wp2
              go_ret
              exact ⟨rfl, Bd⟩
end Go.Proofs.YtpbppdeleijhkaaGreatDoor
namespace Go.Proofs.YtpbppdeleijhkaaGreatDoor
open Go.ChangeShapes Go.WideShapes Go.ChangeAt Go.RowKit
set_option linter.unusedVariables false
set_option linter.unusedSimpArgs false
set_option maxRecDepth 100000

/-- a valid state -/
def stOK (e g x t : Int) (ss : List Ses) (ns : List Nod) : Bool :=
  decide (e ≤ 4611686018427387904 ∧ g ≤ 4611686018427387904 ∧ x ≤ 4611686018427387904 ∧ 0 ≤ t ∧ t ≤ 1000000 ∧ ss.length ≤ 50 ∧ ns.length ≤ 200) && ((List.range ss.length).all (sesAt x ss) && (List.range ns.length).all (nodOK e g ss ns))

set_option maxHeartbeats 1600000 in
theorem specVS (e g x t : Int) (p q : Option Addr) (c n d m : Nat) (ss : List Ses) (ns : List Nod) (en : Hid (ss.length = n)) (em : Hid (ns.length = m)) (w : World) (h : RdS w (.slice p n c) ss) (hN : RdN w (.slice q m d) ns) (hn : n ≤ 1048576) (hm : m ≤ 1048576)
    (hbs : Hid (∀ s ∈ ss, s.2.2.length ≤ 1048576 ∧ ∀ e ∈ s.2.2, Byt e.2 ∧ e.2.length ≤ 1048576))
    (hby : Hid (∀ nd ∈ ns, Byt nd.path ∧ nd.path.length ≤ 1048576 ∧ nd.value.length ≤ 1048576 ∧ nd.holders.length ≤ 1048576 ∧ nd.watchers.length ≤ 1048576)) (B : Bool) (eB : Hid (stOK e g x t ss ns = B)) :
    Calls Tryz.prog 38 #[stV e g x t (.slice p n c) (.slice q m d)] w fun r w' => r = .returned (.bool B) ∧ Below w.heap.size w w' := by
  have HR := hide fun (w' : World) (hb : Below w.heap.size w w') => And.intro (h.below hb) (hN.below hb)
  have b1 : Below w.heap.size w (w.alloc (.cells #[.int .u64 e, .int .u64 g, .int .u64 x, .int .i64 t, .slice p n c, .slice q m d] 27)) := (Below.refl _ _).alloc (Nat.le_refl _) _
  have hB : B = (decide (e ≤ 4611686018427387904 ∧ g ≤ 4611686018427387904 ∧ x ≤ 4611686018427387904 ∧ 0 ≤ t ∧ t ≤ 1000000 ∧ n ≤ 50 ∧ m ≤ 200) && ((List.range n).all (sesAt x ss) && (List.range m).all (nodOK e g ss ns))) := by
    rw [← unhide eB, stOK, unhide en, unhide em]
  have HB := hide hB
  clear h hN hB eB
  by_cases h0 : 4611686018427387904 < e
  · have eF : B = false := by
      rw [unhide HB, Bool.and_eq_false_iff]
      exact .inl (decide_eq_false (fun hh => by omega))
    subst eF
    clear HB
    go_enter Tryz.func38, Tryz.ntmps38
    go_wp2
    go_ret
    exact ⟨rfl, b1⟩
  · have q0 : e ≤ 4611686018427387904 := by omega
    by_cases h1 : 4611686018427387904 < g
    · have eF : B = false := by
        rw [unhide HB, Bool.and_eq_false_iff]
        exact .inl (decide_eq_false (fun hh => by omega))
      subst eF
      clear HB
      go_enter Tryz.func38, Tryz.ntmps38
      go_wp2
      go_ret
      exact ⟨rfl, b1⟩
    · have q1 : g ≤ 4611686018427387904 := by omega
      by_cases h2 : 4611686018427387904 < x
      · have eF : B = false := by
          rw [unhide HB, Bool.and_eq_false_iff]
          exact .inl (decide_eq_false (fun hh => by omega))
        subst eF
        clear HB
        go_enter Tryz.func38, Tryz.ntmps38
        go_wp2
        go_ret
        exact ⟨rfl, b1⟩
      · have q2 : x ≤ 4611686018427387904 := by omega
        by_cases h3 : t < 0
        · have eF : B = false := by
            rw [unhide HB, Bool.and_eq_false_iff]
            exact .inl (decide_eq_false (fun hh => by omega))
          subst eF
          clear HB
          go_enter Tryz.func38, Tryz.ntmps38
          go_wp2
          go_ret
          exact ⟨rfl, b1⟩
        · have q3 : 0 ≤ t := by omega
          by_cases h4 : 1000000 < t
          · have eF : B = false := by
              rw [unhide HB, Bool.and_eq_false_iff]
              exact .inl (decide_eq_false (fun hh => by omega))
            subst eF
            clear HB
            go_enter Tryz.func38, Tryz.ntmps38
            go_wp2
            go_ret
            exact ⟨rfl, b1⟩
          · have q4 : t ≤ 1000000 := by omega
            by_cases h5 : (50 : Int) < (n : Int)
            · have eF : B = false := by
                rw [unhide HB, Bool.and_eq_false_iff]
                exact .inl (decide_eq_false (fun hh => by omega))
              subst eF
              clear HB
              go_enter Tryz.func38, Tryz.ntmps38
              go_wp2
              go_ret
              exact ⟨rfl, b1⟩
            · have q5 : n ≤ 50 := by omega
              by_cases h6 : (200 : Int) < (m : Int)
              · have eF : B = false := by
                  rw [unhide HB, Bool.and_eq_false_iff]
                  exact .inl (decide_eq_false (fun hh => by omega))
                subst eF
                clear HB
                go_enter Tryz.func38, Tryz.ntmps38
                go_wp2
                go_ret
                exact ⟨rfl, b1⟩
              · have q6 : m ≤ 200 := by omega
                have HB2 : Hid (B = ((List.range n).all (sesAt x ss) && (List.range m).all (nodOK e g ss ns))) := by
                  show _ = _
                  rw [unhide HB, decide_eq_true ⟨q0, q1, q2, q3, q4, q5, q6⟩, Bool.true_and]
                clear HB
                go_enter Tryz.func38, Tryz.ntmps38
                go_wp2_with fail
                obtain ⟨W, hW⟩ : ∃ W, W = (w.alloc (.cells #[.int .u64 e, .int .u64 g, .int .u64 x, .int .i64 t, .slice p n c, .slice q m d] 27)) := ⟨_, rfl⟩
                have hc6 : St6 W w.heap.size e g x t (.slice p n c) (.slice q m d) := by rw [hW]; simp [St6]
                rw [← hW] at b1 ⊢
                clear hW
                have BW := hide b1
                have HC6 := hide hc6
                clear b1 hc6
                clear h0 h1 h2 h3 h4 h5 h6 q0 q1 q2 q3 q4 q5 q6
                go_loopw [3] (fun iv wr => ∃ k : Nat, k ≤ n ∧ iv = .int .i64 k ∧ Hid ((List.range k).all (sesAt x ss) = true) ∧ Below W.heap.size W wr) (fun iv _ => n - (intOf iv).toNat)
                case atStart => exact ⟨0, Nat.zero_le _, rfl, (by show _ = _; rfl), Below.refl _ _⟩
                case round =>
                  obtain ⟨k, hk, rfl, hok, hbr⟩ := hrel
                  have BB := Below.step (unhide BW) hbr
                  obtain ⟨i0, i1, i2, i3, i4, i5⟩ := (unhide HC6).below hbr
                  by_cases hlt : k < n
                  · have hlt' : (k : Int) < (n : Int) := by omega
                    obtain ⟨T, eT⟩ : ∃ T, sesAt x ss k = T := ⟨_, rfl⟩
                    have ET := hide eT
                    go_wp2_with fail
                    refine (l3sessionOK_any e g x t p c n k _ ss en _ (unhide HR _ BB).1 hn hlt hbs T ET).mono ?_
                    rintro r w2 ⟨rfl, hb2⟩
                    clear i0 i1 i2 i3 i4 i5
                    cases T with
                    | false =>
                      have eF : B = false := by rw [unhide HB2, range_all_no hlt eT]; rfl
                      subst eF
                      have b2 := Below.step BB hb2
                      clear HB2 eT hb2
                      go_wp2
                      go_ret
                      exact ⟨rfl, b2⟩
                    | true =>
                      have HOK := hide (range_all_step (unhide hok) eT)
                      have b2 := Below.step hbr hb2
                      clear eT hb2 BB
                      go_wp2
                      go_roundw
                      case rel => exact ⟨k + 1, by omega, by go_num, HOK, b2⟩
                      case measure => simp [intOf]; omega
                  · have hlt' : ¬ (k : Int) < (n : Int) := by omega
                    have ekn : k = n := by omega
                    have HB3 : Hid (B = (List.range m).all (nodOK e g ss ns)) := by
                      show _ = _
                      rw [unhide HB2, show (List.range n).all (sesAt x ss) = true from ekn ▸ unhide hok, Bool.true_and]
                    have HC7 := hide ((unhide HC6).below hbr)
                    clear HB2 ekn hok
                    go_wp2_with fail
                    clear i0 i1 i2 i3 i4 i5
                    obtain ⟨Y, eY⟩ : ∃ Y, Y = wr := ⟨_, rfl⟩
                    subst eY
                    have BY := hide BB
                    clear BB hbr hlt hlt' hk
                    go_loopw [4] (fun iv wr => ∃ k : Nat, k ≤ m ∧ iv = .int .i64 k ∧ Hid ((List.range k).all (nodOK e g ss ns) = true) ∧ Below Y.heap.size Y wr) (fun iv _ => m - (intOf iv).toNat)
                    case atStart => exact ⟨0, Nat.zero_le _, rfl, (by show _ = _; rfl), Below.refl _ _⟩
                    case round =>
                      obtain ⟨j, hk, rfl, hok, hbr⟩ := hrel
                      have BB := Below.step (unhide BY) hbr
                      obtain ⟨i0, i1, i2, i3, i4, i5⟩ := (unhide HC7).below hbr
                      by_cases hlt : j < m
                      · have hlt' : (j : Int) < (m : Int) := by omega
                        obtain ⟨T, eT⟩ : ∃ T, nodOK e g ss ns j = T := ⟨_, rfl⟩
                        have ET := hide eT
                        go_wp2_with fail
                        refine (l3nodeOK_any e g x t p q c n d m j ss ns en em _ (unhide HR _ BB).1 (unhide HR _ BB).2 hn hm hlt hby T ET).mono ?_
                        rintro r w2 ⟨rfl, hb2⟩
                        clear i0 i1 i2 i3 i4 i5
                        cases T with
                        | false =>
                          have eF : B = false := by rw [unhide HB3]; exact range_all_no hlt eT
                          subst eF
                          have b2 := Below.step BB hb2
                          clear HB3 eT hb2
                          go_wp2
                          go_ret
                          exact ⟨rfl, b2⟩
                        | true =>
                          have HOK := hide (range_all_step (unhide hok) eT)
                          have b2 := Below.step hbr hb2
                          clear eT hb2 BB
                          go_wp2
                          go_roundw
                          case rel => exact ⟨j + 1, by omega, by go_num, HOK, b2⟩
                          case measure => simp [intOf]; omega
                      · have hlt' : ¬ (j : Int) < (m : Int) := by omega
                        have ekm : j = m := by omega
                        have eT : B = true := by rw [unhide HB3, ← ekm]; exact unhide hok
                        subst eT
                        clear HB3 ekm hok
                        go_wp2
                        go_ret
                        exact ⟨rfl, BB⟩
end Go.Proofs.YtpbppdeleijhkaaGreatDoor
