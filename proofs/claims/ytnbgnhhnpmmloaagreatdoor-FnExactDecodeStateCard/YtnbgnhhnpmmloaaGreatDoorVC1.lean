import Derived.Test.YtnbgnhhnpmmloaaGreatDoorK8
namespace Go.Proofs.YtnbgnhhnpmmloaaGreatDoor
open Go.ChangeShapes Go.WideShapes Go.ChangeAt Go.RowKit
set_option linter.unusedVariables false
set_option linter.unusedSimpArgs false
set_option maxRecDepth 100000
def ascOf (n : Nat) (lt : Nat → Nat → Bool) : Bool := (List.range n).all fun i => i == 0 || lt (i - 1) i
theorem all_le {f : Nat → Bool} {k n : Nat} (h : (List.range k).all f = true) (hn : n ≤ k) : (List.range n).all f = true := by
 rw [List.all_eq_true] at h ⊢
 exact fun i hi => h i (List.mem_range.2 (Nat.lt_of_lt_of_le (List.mem_range.1 hi) hn))
theorem clS_any (i1 d1 i2 d2 : Int) (q1 q2 : Value) (w : World) : Calls Tryz.prog 129 #[.agg #[.int .u64 i1, .int .i64 d1, q1], .agg #[.int .u64 i2, .int .i64 d2, q2]] w fun e w' => e = .returned (.int .i64 (cmpI i1 i2)) ∧ Below w.heap.size w w' := by
 go_enter Tryz.func129, Tryz.ntmps129
 go_wp2_with fail
 refine (compareU_any i1 i2 _).mono ?_
 rintro e w1 ⟨rfl, rfl⟩
 go_wp2
 go_ret
 exact ⟨rfl, ((Below.refl _ _).alloc (Nat.le_refl _) _).alloc (by simp) _⟩
set_option maxHeartbeats 400000 in
theorem clN_any (p1 p2 : Option Addr) (c1 c2 n1 n2 : Nat) (l1 l2 : List Int) (e1 : Hid (l1.length = n1)) (e2 : Hid (l2.length = n2)) (V1 V2 H1 H2 U1 U2 : Value) (o1 o2 m1 m2 x1 x2 g1 g2 : Int) (w : World) (h1 : Rd w (.slice p1 n1 c1) l1) (h2 : Rd w (.slice p2 n2 c2) l2) :
  Calls Tryz.prog 133 #[ndV (.slice p1 n1 c1) V1 o1 m1 H1 x1 g1 U1, ndV (.slice p2 n2 c2) V2 o2 m2 H2 x2 g2 U2] w fun e w' => e = .returned (.int .i64 (cmpB l1 l2)) ∧ Below w.heap.size w w' := by
 have HR := hide fun (w' : World) (hb : Below w.heap.size w w') => And.intro (h1.below hb) (h2.below hb)
 clear h1 h2
 go_enter Tryz.func133, Tryz.ntmps133
 go_wp2_with fail
 have b1 : Below w.heap.size w ((w.alloc (.cells #[.slice p1 n1 c1, V1, .int .u64 o1, .int .i64 m1, H1, .int .u64 x1, .int .u64 g1, U1] 66)).alloc (.cells #[.slice p2 n2 c2, V2, .int .u64 o2, .int .i64 m2, H2, .int .u64 x2, .int .u64 g2, U2] 66)) := ((Below.refl _ _).alloc (Nat.le_refl _) _).alloc (by simp) _
 refine (compareB_any p1 p2 c1 c2 n1 n2 l1 l2 e1 e2 _ (uh HR _ b1).1 (uh HR _ b1).2).mono ?_
 rintro e w1 ⟨rfl, rfl⟩
 go_wp2
 go_ret
 exact ⟨rfl, b1⟩
set_option maxHeartbeats 1600000 in
theorem ascU_any (p : Option Addr) (c n : Nat) (l : List Int) (en : Hid (l.length = n)) (w : World) (h : RdU w (.slice p n c) l) (hn : n ≤ 1048576) (B : Bool) (eB : Hid (ascOf n (fun i j => decide (l.getD i 0 < l.getD j 0)) = B)) :
  Calls Tryz.prog 160 #[.slice p n c, .func (.func 130) #[] #[]] w fun r w' => r = .returned (.bool B) ∧ Below w.heap.size w w' := by
 have HR := hide fun (w' : World) (hb : Below w.heap.size w w') => h.below hb
 have hcf : ∀ (vs : Array Value) (w : World), (callFunc 130 vs).run Tryz.prog w = .ok (.enter 130 vs) w := fun vs w => by kernel_rfl
 have HCF := hide hcf
 clear h hcf
 go_enter Tryz.func160, Tryz.ntmps160
 go_wp2_with fail
 go_loopw [5] (fun iv wr => ∃ k : Nat, 1 ≤ k ∧ (k ≤ n ∨ k = 1) ∧ iv = .int .i64 k ∧ Hid ((List.range k).all (fun i => i == 0 || (fun i j => decide (l.getD i 0 < l.getD j 0)) (i - 1) i) = true) ∧ Below w.heap.size w wr) (fun iv _ => n - (intOf iv).toNat)
 case atStart => exact ⟨1, Nat.le_refl _, .inr rfl, rfl, (by show _ = _; rfl), Below.refl _ _⟩
 case round =>
  obtain ⟨k, hk1, hkn, rfl, hok, hbr⟩ := hrel
  by_cases hlt : k < n
  ·have hlt' : (k : Int) < (n : Int) := by omega
   have hkl : k < l.length := by rw [uh en]; exact hlt
   obtain ⟨j, ej⟩ : ∃ j : Nat, (k : Int) - 1 = (j : Int) := ⟨k - 1, by omega⟩
   have ej0 : k - 1 = j := by omega
   have hjl : j < l.length := by omega
   have hjm : (j : Int) < (n : Int) := by omega
   have hj0 : (0 : Int) ≤ (j : Int) := by omega
   have wj : IntKind.i64.wrap (j : Int) = (j : Int) := IntWalk.i64_in _ (by omega)
   obtain ⟨b, o, rfl, hcell⟩ : ∃ b o, p = some ⟨b, o, none⟩ ∧ ∀ i, i < n → wr.cell? ⟨b, o + i, none⟩ = some (.int .u64 (l.getD i 0)) := by
    obtain ⟨p', c', ev, hd⟩ := uh HR _ hbr
    simp only [Value.slice.injEq] at ev
    obtain ⟨rfl, -, -⟩ := ev
    rcases hd with h0 | ⟨b, o, h1, h2⟩
    ·rw [h0] at hkl; simp at hkl
    ·exact ⟨b, o, h1, fun i hi => h2 i (by rw [uh en]; exact hi)⟩
   have hcx := hcell k hlt
   have hcz := hcell j (by omega)
   obtain ⟨y, ey⟩ : ∃ y, l.getD k 0 = y := ⟨_, rfl⟩
   obtain ⟨z, ez⟩ : ∃ y, l.getD j 0 = y := ⟨_, rfl⟩
   rw [ey] at hcx
   rw [ez] at hcz
   have K0 := hide (And.intro hcz hcx)
   clear hcell hcx hcz
   obtain ⟨C, eC⟩ : ∃ C, cmpI z y = C := ⟨_, rfl⟩
   have hat : ((k == 0) || (fun i j => decide (l.getD i 0 < l.getD j 0)) (k - 1) k) = !decide (0 ≤ C) := by
    rw [show (k == 0) = false by simp; omega, Bool.false_or, ej0]
    show decide (l.getD j 0 < l.getD k 0) = _
    rw [ey, ez, ← eC, cmpI]
    by_cases h1 : z < y
    ·simp [h1]
    ·by_cases h2 : y < z
     ·simp [h1, h2]
     ·simp [h1, h2]
   have hF : decide (0 ≤ C) = true → B = false := fun h => by rw [← uh eB, ascOf]; exact range_all_no hlt (by rw [hat, h]; rfl)
   have hT : decide (0 ≤ C) = false → Hid ((List.range (k + 1)).all (fun i => i == 0 || (fun i j => decide (l.getD i 0 < l.getD j 0)) (i - 1) i) = true) := fun h => range_all_step (uh hok) (by rw [hat, h]; rfl)
   clear hat hkl hjl ej0 hkn
   have EC := hide eC
   clear eC
   obtain ⟨D, eD⟩ : ∃ D, decide (0 ≤ C) = D := ⟨_, rfl⟩
   have HF := hide (fun h : D = true => hF (eD.trans h))
   have HT := hide (fun h : D = false => hT (eD.trans h))
   clear hF hT
   go_wp2_with fail
   go_cut [23] (fun rv wc => rv = .bool D ∧ Below w.heap.size w wc)
   case first =>
    refine wp_region_noPanic ?_
    refine wp_region_held_drew (S := fun w' => w'.cell? ⟨b, o + j, none⟩ = some (.int .u64 z) ∧ w'.cell? ⟨b, o + k, none⟩ = some (.int .u64 y)) (by kernel_rfl) (by exact uh K0) (fun hS => ?_)
    refine tk 0 hS (h := ?_); simp only [Act.put, xa, xb, xc]
    refine tk 1 hS (h := ?_); simp only [Act.put, xa, xb, xc]
    refine tk 2 hS (h := ?_); simp only [Act.put, xa, xb, xc]
    refine tk 3 hS (h := ?_); simp only [Act.put, xa, xb, xc]
    refine tk 4 hS (h := ?_); simp only [Act.put, xa, xb, xc]
    refine tk 5 hS (h := ?_); simp only [Act.put, xa, xb, xc]
    refine tk 6 hS (h := ?_); simp only [Act.put, xa, xb, xc]
    refine tk 7 hS (h := ?_); simp only [Act.put, xa, xb, xc]
    refine tk 8 hS (h := ?_); simp only [Act.put, xa, xb, xc]
    refine tk 9 hS (h := ?_); simp only [Act.put, xa, xb, xc]
    refine ry [10] ?_
    refine cn (fun KK hK => ?_) ?_
    ·refine step_callv2 (by rfl) 130 _ _ _ _ (by rfl) (.int .u64 z) (.int .u64 y) (by rfl) (by rfl) (by rfl) (fun _ => uh HCF _ _) (compareU_any z y _) ?_
     rintro r w2 ⟨rfl, rfl⟩
     refine ⟨_, rfl, ?_⟩
     have hb' : Below wr.heap.size wr wr.drew := (Below.refl _ _).drew
     rw [uh EC]
     refine hK.out _ _ hS (fun hS => ?_)
     clear hK KK
     (try simp only [Act.put, xa, xb, xc])
     refine tk 11 hS (h := ?_); simp only [Act.put, xa, xb, xc]
     refine wpAnyH_done (by kernel_rfl) ?_ _
     refine NoPanic.normal ?_
     clear hS
     go_wp2_with fail
     go_meet
     exact ⟨rfl, Below.step hbr hb'⟩
    exact AllReadyH.nil
   obtain ⟨rfl, hbc⟩ := hcut
   clear eD
   cases D with
   | true =>
    have eF := uh HF rfl
    subst eF
    go_wp2
    go_ret
    exact ⟨rfl, hbc⟩
   | false =>
    have HOK := uh HT rfl
    go_wp2
    go_roundw
    case rel => exact ⟨k + 1, by omega, .inl (by omega), by go_num, HOK, hbc⟩
    case measure => simp [intOf]; omega
  ·have hlt' : ¬ (k : Int) < (n : Int) := by omega
   have eT : B = true := by
    rw [← uh eB, ascOf]
    exact all_le (uh hok) (by omega)
   subst eT
   go_wp2
   go_ret
   exact ⟨rfl, hbr⟩
set_option maxHeartbeats 1600000 in
theorem ascS_any (p : Option Addr) (c n : Nat) (l : List Ses) (en : Hid (l.length = n)) (w : World) (h : RdS w (.slice p n c) l) (hn : n ≤ 1048576) (B : Bool) (eB : Hid (ascOf n (fun i j => decide ((l.getD i (0, 0, [])).1 < (l.getD j (0, 0, [])).1)) = B)) :
  Calls Tryz.prog 128 #[.slice p n c, .func (.func 129) #[] #[]] w fun r w' => r = .returned (.bool B) ∧ Below w.heap.size w w' := by
 have HR := hide fun (w' : World) (hb : Below w.heap.size w w') => h.below hb
 have hcf : ∀ (vs : Array Value) (w : World), (callFunc 129 vs).run Tryz.prog w = .ok (.enter 129 vs) w := fun vs w => by kernel_rfl
 have HCF := hide hcf
 clear h hcf
 go_enter Tryz.func128, Tryz.ntmps128
 go_wp2_with fail
 go_loopw [5] (fun iv wr => ∃ k : Nat, 1 ≤ k ∧ (k ≤ n ∨ k = 1) ∧ iv = .int .i64 k ∧ Hid ((List.range k).all (fun i => i == 0 || (fun i j => decide ((l.getD i (0, 0, [])).1 < (l.getD j (0, 0, [])).1)) (i - 1) i) = true) ∧ Below w.heap.size w wr) (fun iv _ => n - (intOf iv).toNat)
 case atStart => exact ⟨1, Nat.le_refl _, .inr rfl, rfl, (by show _ = _; rfl), Below.refl _ _⟩
 case round =>
  obtain ⟨k, hk1, hkn, rfl, hok, hbr⟩ := hrel
  by_cases hlt : k < n
  ·have hlt' : (k : Int) < (n : Int) := by omega
   have hkl : k < l.length := by rw [uh en]; exact hlt
   obtain ⟨j, ej⟩ : ∃ j : Nat, (k : Int) - 1 = (j : Int) := ⟨k - 1, by omega⟩
   have ej0 : k - 1 = j := by omega
   have hjl : j < l.length := by omega
   have hjm : (j : Int) < (n : Int) := by omega
   have hj0 : (0 : Int) ≤ (j : Int) := by omega
   have wj : IntKind.i64.wrap (j : Int) = (j : Int) := IntWalk.i64_in _ (by omega)
   obtain ⟨⟨y, yd, yq⟩, hy⟩ : ∃ y, l[k]? = some y := ⟨_, List.getElem?_eq_getElem hkl⟩
   obtain ⟨⟨z, zd, zq⟩, hz⟩ : ∃ y, l[j]? = some y := ⟨_, List.getElem?_eq_getElem hjl⟩
   obtain ⟨b, o, rfl, ⟨y1, y2, yu, y3, -⟩, z1, z2, zu, z3, -⟩ : ∃ b o, p = some ⟨b, o, none⟩ ∧ (wr.cell? ⟨b, o + k * 3, none⟩ = some (.int .u64 y) ∧ wr.cell? ⟨b, o + k * 3 + 1, none⟩ = some (.int .i64 yd) ∧ ∃ u, wr.cell? ⟨b, o + k * 3 + 2, none⟩ = some u ∧ RdE wr u yq) ∧ (wr.cell? ⟨b, o + j * 3, none⟩ = some (.int .u64 z) ∧ wr.cell? ⟨b, o + j * 3 + 1, none⟩ = some (.int .i64 zd) ∧ ∃ u, wr.cell? ⟨b, o + j * 3 + 2, none⟩ = some u ∧ RdE wr u zq) := by
    obtain ⟨p', c', ev, hd⟩ := uh HR _ hbr
    simp only [Value.slice.injEq] at ev
    obtain ⟨rfl, -, -⟩ := ev
    rcases hd with h0 | ⟨b, o, h1, h2⟩
    ·rw [h0] at hkl; simp at hkl
    ·exact ⟨b, o, h1, h2 k _ hy, h2 j _ hz⟩
   have ey : (l.getD k (0, 0, [])).1 = y := by rw [List.getD_eq_getElem?_getD, hy]; rfl
   have ez : (l.getD j (0, 0, [])).1 = z := by rw [List.getD_eq_getElem?_getD, hz]; rfl
   have K0 := hide (And.intro z1 (And.intro z2 (And.intro z3 (And.intro y1 (And.intro y2 y3)))))
   clear y1 y2 y3 z1 z2 z3 hy hz
   obtain ⟨C, eC⟩ : ∃ C, cmpI z y = C := ⟨_, rfl⟩
   have hat : ((k == 0) || (fun i j => decide ((l.getD i (0, 0, [])).1 < (l.getD j (0, 0, [])).1)) (k - 1) k) = !decide (0 ≤ C) := by
    rw [show (k == 0) = false by simp; omega, Bool.false_or, ej0]
    show decide ((l.getD j (0, 0, [])).1 < (l.getD k (0, 0, [])).1) = _
    rw [ey, ez, ← eC, cmpI]
    by_cases h1 : z < y
    ·simp [h1]
    ·by_cases h2 : y < z
     ·simp [h1, h2]
     ·simp [h1, h2]
   have hF : decide (0 ≤ C) = true → B = false := fun h => by rw [← uh eB, ascOf]; exact range_all_no hlt (by rw [hat, h]; rfl)
   have hT : decide (0 ≤ C) = false → Hid ((List.range (k + 1)).all (fun i => i == 0 || (fun i j => decide ((l.getD i (0, 0, [])).1 < (l.getD j (0, 0, [])).1)) (i - 1) i) = true) := fun h => range_all_step (uh hok) (by rw [hat, h]; rfl)
   clear hat hkl hjl ej0 hkn
   have EC := hide eC
   clear eC
   obtain ⟨D, eD⟩ : ∃ D, decide (0 ≤ C) = D := ⟨_, rfl⟩
   have HF := hide (fun h : D = true => hF (eD.trans h))
   have HT := hide (fun h : D = false => hT (eD.trans h))
   clear hF hT
   go_wp2_with fail
   go_cut [23] (fun rv wc => rv = .bool D ∧ Below w.heap.size w wc)
   case first =>
    refine wp_region_noPanic ?_
    refine wp_region_held_drew (S := fun w' => w'.cell? ⟨b, o + j * 3, none⟩ = some (.int .u64 z) ∧ w'.cell? ⟨b, o + j * 3 + 1, none⟩ = some (.int .i64 zd) ∧ w'.cell? ⟨b, o + j * 3 + 2, none⟩ = some zu ∧ w'.cell? ⟨b, o + k * 3, none⟩ = some (.int .u64 y) ∧ w'.cell? ⟨b, o + k * 3 + 1, none⟩ = some (.int .i64 yd) ∧ w'.cell? ⟨b, o + k * 3 + 2, none⟩ = some yu) (by kernel_rfl) (by exact uh K0) (fun hS => ?_)
    refine tk 0 hS (h := ?_); simp only [Act.put, xa, xb, xc]
    refine tk 1 hS (h := ?_); simp only [Act.put, xa, xb, xc]
    refine tk 2 hS (h := ?_); simp only [Act.put, xa, xb, xc]
    refine tk 3 hS (h := ?_); simp only [Act.put, xa, xb, xc]
    refine tk 4 hS (h := ?_); simp only [Act.put, xa, xb, xc]
    refine tk 5 hS (h := ?_); simp only [Act.put, xa, xb, xc]
    refine tk 6 hS (h := ?_); simp only [Act.put, xa, xb, xc]
    refine tk 7 hS (h := ?_); simp only [Act.put, xa, xb, xc]
    refine tk 8 hS (h := ?_); simp only [Act.put, xa, xb, xc]
    refine tk 9 hS (h := ?_); simp only [Act.put, xa, xb, xc]
    refine ry [10] ?_
    refine cn (fun KK hK => ?_) ?_
    ·refine step_callv2 (by rfl) 129 _ _ _ _ (by rfl) (.agg #[.int .u64 z, .int .i64 zd, zu]) (.agg #[.int .u64 y, .int .i64 yd, yu]) (by rfl) (by rfl) (by rfl) (fun _ => uh HCF _ _) (clS_any z zd y yd zu yu _) ?_
     rintro r w2 ⟨rfl, hb2⟩
     refine ⟨_, rfl, ?_⟩
     have hb' : Below wr.heap.size wr w2 := Below.step (Below.refl wr.heap.size wr).drew hb2
     rw [uh EC]
     refine hK.out _ _ (by obtain ⟨k1, k2, k3, k4, k5, k6⟩ := uh K0; exact ⟨cell_below k1 hb', cell_below k2 hb', cell_below k3 hb', cell_below k4 hb', cell_below k5 hb', cell_below k6 hb'⟩) (fun hS => ?_)
     clear hK KK
     (try simp only [Act.put, xa, xb, xc])
     refine tk 11 hS (h := ?_); simp only [Act.put, xa, xb, xc]
     refine wpAnyH_done (by kernel_rfl) ?_ _
     refine NoPanic.normal ?_
     clear hS
     go_wp2_with fail
     go_meet
     exact ⟨rfl, Below.step hbr hb'⟩
    exact AllReadyH.nil
   obtain ⟨rfl, hbc⟩ := hcut
   clear eD
   cases D with
   | true =>
    have eF := uh HF rfl
    subst eF
    go_wp2
    go_ret
    exact ⟨rfl, hbc⟩
   | false =>
    have HOK := uh HT rfl
    go_wp2
    go_roundw
    case rel => exact ⟨k + 1, by omega, .inl (by omega), by go_num, HOK, hbc⟩
    case measure => simp [intOf]; omega
  ·have hlt' : ¬ (k : Int) < (n : Int) := by omega
   have eT : B = true := by
    rw [← uh eB, ascOf]
    exact all_le (uh hok) (by omega)
   subst eT
   go_wp2
   go_ret
   exact ⟨rfl, hbr⟩
set_option maxHeartbeats 1600000 in
theorem ascN_any (p : Option Addr) (c n : Nat) (l : List Nod) (en : Hid (l.length = n)) (w : World) (h : RdN w (.slice p n c) l) (hn : n ≤ 1048576) (B : Bool) (eB : Hid (ascOf n (fun i j => !leB (l.getD j nod0).path (l.getD i nod0).path) = B)) :
  Calls Tryz.prog 132 #[.slice p n c, .func (.func 133) #[] #[]] w fun r w' => r = .returned (.bool B) ∧ Below w.heap.size w w' := by
 have HR := hide fun (w' : World) (hb : Below w.heap.size w w') => h.below hb
 have hcf : ∀ (vs : Array Value) (w : World), (callFunc 133 vs).run Tryz.prog w = .ok (.enter 133 vs) w := fun vs w => by kernel_rfl
 have HCF := hide hcf
 clear h hcf
 go_enter Tryz.func132, Tryz.ntmps132
 go_wp2_with fail
 go_loopw [5] (fun iv wr => ∃ k : Nat, 1 ≤ k ∧ (k ≤ n ∨ k = 1) ∧ iv = .int .i64 k ∧ Hid ((List.range k).all (fun i => i == 0 || (fun i j => !leB (l.getD j nod0).path (l.getD i nod0).path) (i - 1) i) = true) ∧ Below w.heap.size w wr) (fun iv _ => n - (intOf iv).toNat)
 case atStart => exact ⟨1, Nat.le_refl _, .inr rfl, rfl, (by show _ = _; rfl), Below.refl _ _⟩
 case round =>
  obtain ⟨k, hk1, hkn, rfl, hok, hbr⟩ := hrel
  by_cases hlt : k < n
  ·have hlt' : (k : Int) < (n : Int) := by omega
   have hkl : k < l.length := by rw [uh en]; exact hlt
   obtain ⟨j, ej⟩ : ∃ j : Nat, (k : Int) - 1 = (j : Int) := ⟨k - 1, by omega⟩
   have ej0 : k - 1 = j := by omega
   have hjl : j < l.length := by omega
   have hjm : (j : Int) < (n : Int) := by omega
   have hj0 : (0 : Int) ≤ (j : Int) := by omega
   have wj : IntKind.i64.wrap (j : Int) = (j : Int) := IntWalk.i64_in _ (by omega)
   obtain ⟨yn', hy⟩ : ∃ y, l[k]? = some y := ⟨_, List.getElem?_eq_getElem hkl⟩
   obtain ⟨zn', hz⟩ : ∃ y, l[j]? = some y := ⟨_, List.getElem?_eq_getElem hjl⟩
   obtain ⟨b, o, rfl, hA⟩ := (uh HR _ hbr).at (by omega)
   obtain ⟨yP, yV, yH, yU, ny⟩ := hA k _ hy
   obtain ⟨zP, zV, zH, zU, nz⟩ := hA j _ hz
   have ey : (l.getD k nod0).path = yn'.path := by rw [List.getD_eq_getElem?_getD, hy]; rfl
   have ez : (l.getD j nod0).path = zn'.path := by rw [List.getD_eq_getElem?_getD, hz]; rfl
   obtain ⟨yp, yc, yn, rfl, eyn⟩ := ny.r0.slc
   obtain ⟨zp, zc, zn, rfl, ezn⟩ := nz.r0.slc
   have RY := hide ny.r0
   have RZ := hide nz.r0
   obtain ⟨y0, y1, y2, y3, y4, y5, y6, y7, -, -, -, -, -⟩ := ny
   obtain ⟨z0, z1, z2, z3, z4, z5, z6, z7, -, -, -, -, -⟩ := nz
   obtain ⟨yo, ym, ye, yg, e1, e2, e3, e4⟩ : ∃ a b c d, yn'.owner = a ∧ yn'.mode = b ∧ yn'.epoch = c ∧ yn'.gen = d := ⟨_, _, _, _, rfl, rfl, rfl, rfl⟩
   obtain ⟨zo, zm, ze, zg, f1, f2, f3, f4⟩ : ∃ a b c d, zn'.owner = a ∧ zn'.mode = b ∧ zn'.epoch = c ∧ zn'.gen = d := ⟨_, _, _, _, rfl, rfl, rfl, rfl⟩
   rw [e1] at y2
   rw [e2] at y3
   rw [e3] at y5
   rw [e4] at y6
   rw [f1] at z2
   rw [f2] at z3
   rw [f3] at z5
   rw [f4] at z6
   have K0 := hide (And.intro z0 (And.intro z1 (And.intro z2 (And.intro z3 (And.intro z4 (And.intro z5 (And.intro z6 (And.intro z7 (And.intro y0 (And.intro y1 (And.intro y2 (And.intro y3 (And.intro y4 (And.intro y5 (And.intro y6 y7)))))))))))))))
   clear y0 y1 y2 y3 y4 y5 y6 y7 z0 z1 z2 z3 z4 z5 z6 z7 hy hz hA e1 e2 e3 e4 f1 f2 f3 f4
   obtain ⟨C, eC⟩ : ∃ C, cmpB zn'.path yn'.path = C := ⟨_, rfl⟩
   have hat : ((k == 0) || (fun i j => !leB (l.getD j nod0).path (l.getD i nod0).path) (k - 1) k) = !decide (0 ≤ C) := by
    rw [show (k == 0) = false by simp; omega, Bool.false_or, ej0]
    show (!leB (l.getD k nod0).path (l.getD j nod0).path) = _
    rw [ey, ez, ← eC, cmpB_le]
   have hF : decide (0 ≤ C) = true → B = false := fun h => by rw [← uh eB, ascOf]; exact range_all_no hlt (by rw [hat, h]; rfl)
   have hT : decide (0 ≤ C) = false → Hid ((List.range (k + 1)).all (fun i => i == 0 || (fun i j => !leB (l.getD j nod0).path (l.getD i nod0).path) (i - 1) i) = true) := fun h => range_all_step (uh hok) (by rw [hat, h]; rfl)
   clear hat hkl hjl ej0 hkn
   have EC := hide eC
   clear eC
   obtain ⟨D, eD⟩ : ∃ D, decide (0 ≤ C) = D := ⟨_, rfl⟩
   have HF := hide (fun h : D = true => hF (eD.trans h))
   have HT := hide (fun h : D = false => hT (eD.trans h))
   clear hF hT
   go_wp2_with fail
   go_cut [23] (fun rv wc => rv = .bool D ∧ Below w.heap.size w wc)
   case first =>
    refine wp_region_noPanic ?_
    refine wp_region_held_drew (S := fun w' => w'.cell? ⟨b, o + j * 8, none⟩ = some (.slice zp zn zc) ∧ w'.cell? ⟨b, o + j * 8 + 1, none⟩ = some zV ∧ w'.cell? ⟨b, o + j * 8 + 2, none⟩ = some (.int .u64 zo) ∧ w'.cell? ⟨b, o + j * 8 + 3, none⟩ = some (.int .i64 zm) ∧ w'.cell? ⟨b, o + j * 8 + 4, none⟩ = some zH ∧ w'.cell? ⟨b, o + j * 8 + 5, none⟩ = some (.int .u64 ze) ∧ w'.cell? ⟨b, o + j * 8 + 6, none⟩ = some (.int .u64 zg) ∧ w'.cell? ⟨b, o + j * 8 + 7, none⟩ = some zU ∧ w'.cell? ⟨b, o + k * 8, none⟩ = some (.slice yp yn yc) ∧ w'.cell? ⟨b, o + k * 8 + 1, none⟩ = some yV ∧ w'.cell? ⟨b, o + k * 8 + 2, none⟩ = some (.int .u64 yo) ∧ w'.cell? ⟨b, o + k * 8 + 3, none⟩ = some (.int .i64 ym) ∧ w'.cell? ⟨b, o + k * 8 + 4, none⟩ = some yH ∧ w'.cell? ⟨b, o + k * 8 + 5, none⟩ = some (.int .u64 ye) ∧ w'.cell? ⟨b, o + k * 8 + 6, none⟩ = some (.int .u64 yg) ∧ w'.cell? ⟨b, o + k * 8 + 7, none⟩ = some yU) (by kernel_rfl) (by exact uh K0) (fun hS => ?_)
    refine tk 0 hS (h := ?_); simp only [Act.put, xa, xb, xc]
    refine tk 1 hS (h := ?_); simp only [Act.put, xa, xb, xc]
    refine tk 2 hS (h := ?_); simp only [Act.put, xa, xb, xc]
    refine tk 3 hS (h := ?_); simp only [Act.put, xa, xb, xc]
    refine tk 4 hS (h := ?_); simp only [Act.put, xa, xb, xc]
    refine tk 5 hS (h := ?_); simp only [Act.put, xa, xb, xc]
    refine tk 6 hS (h := ?_); simp only [Act.put, xa, xb, xc]
    refine tk 7 hS (h := ?_); simp only [Act.put, xa, xb, xc]
    refine tk 8 hS (h := ?_); simp only [Act.put, xa, xb, xc]
    refine tk 9 hS (h := ?_); simp only [Act.put, xa, xb, xc]
    refine ry [10] ?_
    refine cn (fun KK hK => ?_) ?_
    ·refine step_callv2 (by rfl) 133 _ _ _ _ (by rfl) (ndV (.slice zp zn zc) zV zo zm zH ze zg zU) (ndV (.slice yp yn yc) yV yo ym yH ye yg yU) (by rfl) (by rfl) (by rfl) (fun _ => uh HCF _ _) (clN_any zp yp zc yc zn yn zn'.path yn'.path ezn eyn zV yV zH yH zU yU zo yo zm ym ze ye zg yg _ ((uh RZ).below (Below.refl _ _).drew) ((uh RY).below (Below.refl _ _).drew)) ?_
     rintro r w2 ⟨rfl, hb2⟩
     refine ⟨_, rfl, ?_⟩
     have hb' : Below wr.heap.size wr w2 := Below.step (Below.refl wr.heap.size wr).drew hb2
     rw [uh EC]
     refine hK.out _ _ (by obtain ⟨k0, k1, k2, k3, k4, k5, k6, k7, k8, k9, k10, k11, k12, k13, k14, k15⟩ := uh K0; exact ⟨cell_below k0 hb', cell_below k1 hb', cell_below k2 hb', cell_below k3 hb', cell_below k4 hb', cell_below k5 hb', cell_below k6 hb', cell_below k7 hb', cell_below k8 hb', cell_below k9 hb', cell_below k10 hb', cell_below k11 hb', cell_below k12 hb', cell_below k13 hb', cell_below k14 hb', cell_below k15 hb'⟩) (fun hS => ?_)
     clear hK KK
     (try simp only [Act.put, xa, xb, xc])
     refine tk 11 hS (h := ?_); simp only [Act.put, xa, xb, xc]
     refine wpAnyH_done (by kernel_rfl) ?_ _
     refine NoPanic.normal ?_
     clear hS
     go_wp2_with fail
     go_meet
     exact ⟨rfl, Below.step hbr hb'⟩
    exact AllReadyH.nil
   obtain ⟨rfl, hbc⟩ := hcut
   clear eD
   cases D with
   | true =>
    have eF := uh HF rfl
    subst eF
    go_wp2
    go_ret
    exact ⟨rfl, hbc⟩
   | false =>
    have HOK := uh HT rfl
    go_wp2
    go_roundw
    case rel => exact ⟨k + 1, by omega, .inl (by omega), by go_num, HOK, hbc⟩
    case measure => simp [intOf]; omega
  ·have hlt' : ¬ (k : Int) < (n : Int) := by omega
   have eT : B = true := by
    rw [← uh eB, ascOf]
    exact all_le (uh hok) (by omega)
   subst eT
   go_wp2
   go_ret
   exact ⟨rfl, hbr⟩
end Go.Proofs.YtnbgnhhnpmmloaaGreatDoor

