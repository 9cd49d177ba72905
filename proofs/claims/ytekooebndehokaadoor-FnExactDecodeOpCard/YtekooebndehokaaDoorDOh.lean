import Derived.Test.YtekooebndehokaaDoorDOv
import Derived.Test.YtekooebndehokaaDoorOPl
namespace Go.Proofs.YtekooebndehokaaDoor
open Go.ChangeShapes Go.WideShapes Go.ChangeAt Go.RowKit
set_option linter.unusedVariables false
set_option linter.unusedSimpArgs false
set_option maxRecDepth 100000

set_option maxHeartbeats 800000 in
theorem markOp_m (B B2 : Nat) (k s f e g : Int) (p q : Option Addr) (n m c d : Nat) (P V : List Int) (ep : Hid (P.length = n)) (ev : Hid (V.length = m)) (w : World) (hp : Own B w (.slice p n c) P) (tp : Btw B B2 (.slice p n c)) (hv : Own B2 w (.slice q m d) V) (hn : n ≤ 1048576) (hm : m ≤ 1048576) :
    Calls Tryd.prog 16 #[opV k s (.slice p n c) f (.slice q m d) e g, .int .i64 1] w fun r w' => r = .returned (.int .i64 (1 + n + m)) ∧ Own B w' (.slice p n c) (marks 1 n) ∧ Own B2 w' (.slice q m d) (marks (1 + n) m) ∧ Kept [.slice p n c, .slice q m d] w w' := by
  go_enter Tryd.func16, Tryd.ntmps16
  go_wp2_with fail
  obtain ⟨W, hW⟩ : ∃ W, W = (w.alloc (.cells #[.int .i64 k, .int .u64 s, .slice p n c, .int .i64 f, .slice q m d, .int .u64 e, .int .u64 g] 31)) := ⟨_, rfl⟩
  have bW : Below w.heap.size w W := by rw [hW]; exact (Below.refl _ _).alloc (Nat.le_refl _) _
  have hA : At7 W w.heap.size (.int .i64 k) (.int .u64 s) (.slice p n c) (.int .i64 f) (.slice q m d) (.int .u64 e) (.int .u64 g) := by rw [hW]; simp [At7, go_sem]
  have zW : w.heap.size < W.heap.size := by rw [hW]; simp
  rw [← hW]
  clear hW
  have hpW := Own.below hp bW
  have hvW := Own.below hv bW
  have htp := hp.lt
  clear hp hv
  refine (markByteS_n B p c n P ep 1 _ hpW (by omega) (by omega) (by omega)).mono ?_
  rintro r w1 ⟨rfl, ho1, hg1⟩
  have hv1 : Own B2 w1 (.slice q m d) V := Own.apart hvW hg1 tp (Own.btw hvW) (.inl (Nat.le_refl _))
  have a4 : w1.cell? ⟨w.heap.size, 4, none⟩ = some (.slice q m d) := (World.cell?_of_block (hg1.block w.heap.size zW (by intro hb; have := htp _ hb.symm; omega))).trans hA.2.2.2.2.1
  have HK1 := hide ((Kept.of_below bW).trans (Kept.of_grown (vs := [.slice p n c, .slice q m d]) hg1 (by simp)))
  have HV1 := hide hv1
  have HO1 := hide ho1
  clear ho1 hg1 hv1 hpW hvW hA bW
  obtain ⟨K1, eK1⟩ : ∃ K1 : Nat, (1 : Int) + (n : Int) = (K1 : Int) := ⟨1 + n, by omega⟩
  have hK1 : (K1 : Int) ≤ 100000000 := by omega
  rw [eK1]
  have EK := hide eK1
  clear eK1
  go_wp2_with fail
  refine (markByteS_n B2 q d m V ev K1 _ (unhide HV1) (by omega) (by omega) (by omega)).mono ?_
  rintro r w2 ⟨rfl, ho2, hg2⟩
  have hk2 := hide ((unhide HK1).trans (Kept.of_grown (vs := [.slice p n c, .slice q m d]) hg2 (by simp)))
  have ho12 := hide (Own.apart (unhide HO1) hg2 (Own.btw (unhide HV1)) tp (.inr (Nat.le_refl _)))
  have HO2 := hide ho2
  clear ho2 hg2
  go_wp2
  go_ret
  refine ⟨?_, unhide ho12, ?_, unhide hk2⟩
  · rw [unhide EK]
    rfl
  · rw [unhide EK]
    exact unhide HO2

set_option maxHeartbeats 800000 in
theorem heldOp_n (k s f e g : Int) (p q : Option Addr) (n m c d : Nat) (w : World) (hp : Rd w (.slice p n c) (marks 1 n)) (hv : Rd w (.slice q m d) (marks (1 + n) m)) (hn : n ≤ 1048576) (hm : m ≤ 1048576) :
    Calls Tryd.prog 21 #[opV k s (.slice p n c) f (.slice q m d) e g, .int .i64 1] w fun r w' => r = .returned (.int .i64 (1 + n + m)) ∧ Below w.heap.size w w' := by
  obtain ⟨K1, eK1⟩ : ∃ K1 : Nat, (1 : Int) + (n : Int) = (K1 : Int) := ⟨1 + n, by omega⟩
  obtain ⟨K2, eK2⟩ : ∃ K2 : Nat, (K1 : Int) + (m : Int) = (K2 : Int) := ⟨K1 + m, by omega⟩
  rw [eK1] at hv ⊢
  rw [eK2]
  have hK1 : (K1 : Int) ≤ 100000000 := by omega
  have n1 : ¬ (K1 : Int) < 0 := by omega
  have n2 : ¬ (K2 : Int) < 0 := by omega
  go_enter Tryd.func21, Tryd.ntmps21
  go_wp2_with fail
  obtain ⟨W, hW⟩ : ∃ W, W = (w.alloc (.cells #[.int .i64 k, .int .u64 s, .slice p n c, .int .i64 f, .slice q m d, .int .u64 e, .int .u64 g] 31)) := ⟨_, rfl⟩
  have bW : Below w.heap.size w W := by rw [hW]; exact (Below.refl _ _).alloc (Nat.le_refl _) _
  have hA : At7 W w.heap.size (.int .i64 k) (.int .u64 s) (.slice p n c) (.int .i64 f) (.slice q m d) (.int .u64 e) (.int .u64 g) := by rw [hW]; simp [At7, go_sem]
  rw [← hW]
  clear hW
  refine (heldByteS_any p c n 1 _ (hp.below bW) (by omega) (by omega) (by omega)).mono ?_
  rintro r w1 ⟨rfl, hb1⟩
  have b1 := Below.step bW hb1
  have hv1 := hv.below b1
  have a4 := cell_below hA.2.2.2.2.1 hb1
  rw [eK1]
  have E2 := hide eK2
  clear hb1 hA bW hp hv eK1 eK2
  go_wp2_with fail
  refine (heldByteS_any q d m K1 _ hv1 (by omega) (by omega) (by omega)).mono ?_
  rintro r w2 ⟨rfl, hb2⟩
  rw [unhide E2]
  have b2 := Below.step b1 hb2
  clear hb2 b1 hv1
  go_wp2
  go_ret
  exact ⟨rfl, b2⟩

set_option maxHeartbeats 4000000 in
theorem lawDec_small (p : Option Addr) (c n : Nat) (l : List Int) (en : Hid (l.length = n)) (w : World) (h : Rd w (.slice p n c) l) (hl : n ≤ 1048576) (k s f code : Int) (P V : List Int) (NP NV : Nat) (eP : Hid (P.length = NP)) (eV : Hid (V.length = NV)) (hNP : NP ≤ 1048576) (hNV : NV ≤ 1048576) (spec : Hid (DecRes 19 w l n k s f P V NP NV code)) (impl : Hid (DecRes 20 w l n k s f P V NP NV code)) :
    Calls Tryd.prog 5 #[.slice p n c] w fun e w' => e = .returned (.bool true) ∧ Below w.heap.size w w' := by
  have HH := hide fun (w' : World) (hb : Below w.heap.size w w') => h.below hb
  clear h
  have hl' : ¬ (1048576 : Int) < (n : Int) := by omega
  have hcode : (code != code) = false := by simp
  go_enter Tryd.func5, Tryd.ntmps5
  go_wp2_with fail
  refine (toByteS_n p c n l en _ (unhide HH _ (Below.refl _ _)) hl).mono ?_
  rintro r w1 ⟨p1, c1, rfl, x1, b1⟩
  go_wp2_with fail
  refine (unhide spec p1 c1 _ b1 x1.rd x1.cap x1.adr).mono ?_
  rintro r w2 ⟨p2, c2, q2, d2, B2, rfl, hB2, o2, _, u2, hb2⟩
  have b2 := Below.step b1 hb2
  have t2 := o2.btw
  have v2 := u2.btw
  have r2 := o2.rd
  have s2 := u2.rd
  have z1 := b1.size
  have z2 := hb2.size
  clear x1 b1 hb2 o2 u2
  go_wp2_with fail
  obtain ⟨W3, hW3⟩ : ∃ W, W = (w2.alloc (.cells #[.int .i64 k, .int .u64 s, .slice p2 NP c2, .int .i64 f, .slice q2 NV d2, .int .u64 0, .int .u64 0] 31)) := ⟨_, rfl⟩
  have ba3 : Below w2.heap.size w2 W3 := by rw [hW3]; exact (Below.refl _ _).alloc (Nat.le_refl _) _
  have D3 : At7 W3 w2.heap.size (.int .i64 k) (.int .u64 s) (.slice p2 NP c2) (.int .i64 f) (.slice q2 NV d2) (.int .u64 0) (.int .u64 0) := by rw [hW3]; simp [At7, go_sem]
  have z3 : W3.heap.size = w2.heap.size + 1 := by rw [hW3]; simp
  have b3 := Below.step b2 ba3
  have r3 := r2.below ba3
  have s3 := s2.below ba3
  rw [← hW3]
  clear hW3 ba3 b2 r2 s2
  refine (toByteS_n p c n l en _ (unhide HH _ b3) hl).mono ?_
  rintro r w4 ⟨p4, c4, rfl, x4, hb4⟩
  have b4 := Below.step b3 hb4
  have D4 := D3.below hb4
  have r4 := r3.below hb4
  have s4 := s3.below hb4
  have tx4 := x4.btw
  have z4 := hb4.size
  clear b3 hb4 D3 r3 s3
  go_wp2_with fail
  refine (unhide impl p4 c4 _ b4 x4.rd x4.cap x4.adr).mono ?_
  rintro r w5 ⟨p5, c5, q5, d5, B5, rfl, hB5, o5, tp5, u5, hb5⟩
  have b5 := Below.step b4 hb5
  have D5 := D4.below hb5
  have r5 := r4.below hb5
  have s5 := s4.below hb5
  have x5 := Own.below x4 hb5
  have to5 := o5.btw
  have tu5 := u5.btw
  have z5 := hb5.size
  clear b4 hb5 D4 r4 s4 x4
  have bo : ∀ ob : Obj, Below w5.heap.size w5 (w5.alloc ob) := fun ob => (Below.refl _ _).alloc (Nat.le_refl _) _
  have q0 := fun ob => cell_below D5.1 (bo ob)
  have q1 := fun ob => cell_below D5.2.1 (bo ob)
  have q2_ := fun ob => cell_below D5.2.2.1 (bo ob)
  have q3 := fun ob => cell_below D5.2.2.2.1 (bo ob)
  have q4 := fun ob => cell_below D5.2.2.2.2.1 (bo ob)
  have q5_ := fun ob => cell_below D5.2.2.2.2.2.1 (bo ob)
  have q6 := fun ob => cell_below D5.2.2.2.2.2.2 (bo ob)
  go_wp2_with fail
  obtain ⟨W6, hW6⟩ : ∃ W, W = (w5.alloc (.cells #[.int .i64 k, .int .u64 s, .slice p5 NP c5, .int .i64 f, .slice q5 NV d5, .int .u64 0, .int .u64 0] 31)) := ⟨_, rfl⟩
  have ba6 : Below w5.heap.size w5 W6 := by rw [hW6]; exact (Below.refl _ _).alloc (Nat.le_refl _) _
  have G6 : At7 W6 w5.heap.size (.int .i64 k) (.int .u64 s) (.slice p5 NP c5) (.int .i64 f) (.slice q5 NV d5) (.int .u64 0) (.int .u64 0) := by rw [hW6]; simp [At7, go_sem]
  have z6 : W6.heap.size = w5.heap.size + 1 := by rw [hW6]; simp
  have b6 := Below.step b5 ba6
  have D6 := D5.below ba6
  have r6 := r5.below ba6
  have s6 := s5.below ba6
  have x6 := Own.below x5 ba6
  have o6 := Own.below o5 ba6
  have u6 := Own.below u5 ba6
  rw [← hW6]
  clear hW6 ba6 b5 D5 r5 s5 x5 o5 u5 bo q0 q1 q2_ q3 q4 q5_ q6
  refine (eqOp_n k s f 0 0 p5 q5 p2 q2 NP NV c5 d5 c2 d2 P V eP eV _ o6.rd u6.rd r6 s6 hNP hNV).mono ?_
  rintro r w7 ⟨rfl, hb7⟩
  have b7 := Below.step b6 hb7
  have D7 := D6.below hb7
  have G7 := G6.below hb7
  have r7 := r6.below hb7
  have s7 := s6.below hb7
  have x7 := Own.below x6 hb7
  have o7 := Own.below o6 hb7
  have u7 := Own.below u6 hb7
  have z7 := hb7.size
  clear b6 D6 G6 r6 s6 x6 o6 u6 hb7
  go_wp2_with fail
  refine (toByteS_n p c n l en _ (unhide HH _ b7) hl).mono ?_
  rintro r w8 ⟨p8, c8, rfl, y8, hb8⟩
  have b8 := Below.step b7 hb8
  have D8 := D7.below hb8
  have G8 := G7.below hb8
  have r8 := r7.below hb8
  have s8 := s7.below hb8
  have x8 := Own.below x7 hb8
  have o8 := Own.below o7 hb8
  have u8 := Own.below u7 hb8
  have z8 := hb8.size
  clear b7 D7 G7 r7 s7 x7 o7 u7 hb8
  go_wp2_with fail
  refine (eqByteS_n p4 p8 c4 c8 n l en _ x8.rd y8.rd (by omega)).mono ?_
  rintro r w9 ⟨rfl, hb9⟩
  have b9 := Below.step b8 hb9
  have D9 := D8.below hb9
  have G9 := G8.below hb9
  have r9 := r8.below hb9
  have s9 := s8.below hb9
  have x9 := Own.below x8 hb9
  have o9 := Own.below o8 hb9
  have u9 := Own.below u8 hb9
  have z9 := hb9.size
  clear b8 D8 G8 r8 s8 x8 o8 u8 hb9 y8
  go_wp2_with fail
  refine (markByteS_n W3.heap.size p4 c4 n l en 1 _ x9 (by omega) (by omega) (by omega)).mono ?_
  rintro r w10 ⟨rfl, x10, hg10⟩
  have hk10 : Kept [.slice p4 n c4] w9 w10 := Kept.of_grown hg10 (by simp)
  have b10 := below_markK b9 hk10 tx4 (by omega) (by omega)
  have r10 := r9.apartK hk10 tx4 t2 (by omega)
  have s10 := s9.apartK hk10 tx4 v2 (by omega)
  have o10 := Own.apartK o9 hk10 tx4 to5 (by omega)
  have u10 := Own.apartK u9 hk10 tx4 tu5 (by omega)
  have D10 := D9.kept1 hk10 (by omega) tx4 (by omega)
  have G10 := G9.kept1 hk10 (by omega) tx4 (by omega)
  have z10 := hk10.size
  clear b9 D9 G9 r9 s9 x9 o9 u9 hg10 hk10 x10
  obtain ⟨K10, eK10⟩ : ∃ K : Nat, (1 : Int) + (n : Int) = (K : Int) := ⟨1 + n, by omega⟩
  have hK10 : ¬ (K10 : Int) < 0 := by omega
  rw [eK10]
  clear eK10
  obtain ⟨i0, i1, i2, i3, i4, i5, i6⟩ := id D10
  obtain ⟨j0, j1, j2, j3, j4, j5, j6⟩ := id G10
  go_wp2_with fail
  refine (eqOp_n k s f 0 0 p5 q5 p2 q2 NP NV c5 d5 c2 d2 P V eP eV _ o10.rd u10.rd r10 s10 hNP hNV).mono ?_
  rintro r w11 ⟨rfl, hb11⟩
  have b11 := Below.step b10 hb11
  have D11 := D10.below hb11
  have G11 := G10.below hb11
  have r11 := r10.below hb11
  have s11 := s10.below hb11
  have o11 := Own.below o10 hb11
  have u11 := Own.below u10 hb11
  have z11 := hb11.size
  clear b10 D10 G10 r10 s10 o10 u10 hb11 i0 i1 i2 i3 i4 i5 i6 j0 j1 j2 j3 j4 j5 j6
  obtain ⟨j0, j1, j2, j3, j4, j5, j6⟩ := id G11
  go_wp2_with fail
  refine (markOp_m w4.heap.size B5 k s f 0 0 p5 q5 NP NV c5 d5 P V eP eV _ o11 tp5 u11 hNP hNV).mono ?_
  rintro r w12 ⟨rfl, m12, n12, hk12⟩
  have b12 := below_mark2 b11 hk12 to5 tu5 (by omega) (by omega) (by omega)
  have r12 := r11.apart2 hk12 to5 tu5 t2 (by omega) (by omega)
  have s12 := s11.apart2 hk12 to5 tu5 v2 (by omega) (by omega)
  have D12 := D11.kept2 hk12 (by omega) to5 tu5 (by omega) (by omega)
  have G12 := G11.kept2 hk12 (by omega) to5 tu5 (by omega) (by omega)
  have z12 := hk12.size
  clear b11 D11 G11 r11 s11 o11 u11 hk12 j0 j1 j2 j3 j4 j5 j6
  obtain ⟨j0, j1, j2, j3, j4, j5, j6⟩ := id G12
  obtain ⟨K12, eK12⟩ : ∃ K : Nat, (1 : Int) + (NP : Int) + (NV : Int) = (K : Int) := ⟨1 + NP + NV, by omega⟩
  have hK12 : ¬ (K12 : Int) < 0 := by omega
  have hK12' : ((K12 : Int) != (K12 : Int)) = false := by simp
  rw [eK12]
  go_wp2_with fail
  refine (heldOp_n k s f 0 0 p5 q5 NP NV c5 d5 _ m12.rd n12.rd hNP hNV).mono ?_
  rintro r w13 ⟨rfl, hb13⟩
  rw [eK12]
  have b13 := Below.step b12 hb13
  have D13 := D12.below hb13
  have r13 := r12.below hb13
  have s13 := s12.below hb13
  have z13 := hb13.size
  clear b12 D12 G12 r12 s12 m12 n12 hb13 j0 j1 j2 j3 j4 j5 j6 eK12
  go_wp2_with fail
  refine (toByteS_n p c n l en _ (unhide HH _ b13) hl).mono ?_
  rintro r w14 ⟨p14, c14, rfl, y14, hb14⟩
  have b14 := Below.step b13 hb14
  have D14 := D13.below hb14
  have r14 := r13.below hb14
  have s14 := s13.below hb14
  clear b13 D13 r13 s13 hb14
  go_wp2_with fail
  refine (unhide impl p14 c14 _ b14 y14.rd y14.cap y14.adr).mono ?_
  rintro r w15 ⟨p15, c15, q15, d15, B15, rfl, _, o15, _, u15, hb15⟩
  have b15 := Below.step b14 hb15
  have D15 := D14.below hb15
  have r15 := r14.below hb15
  have s15 := s14.below hb15
  clear b14 D14 r14 s14 hb15 y14
  have bo : ∀ ob : Obj, Below w15.heap.size w15 (w15.alloc ob) := fun ob => (Below.refl _ _).alloc (Nat.le_refl _) _
  have h0 := fun ob => cell_below D15.1 (bo ob)
  have h1 := fun ob => cell_below D15.2.1 (bo ob)
  have h2 := fun ob => cell_below D15.2.2.1 (bo ob)
  have h3 := fun ob => cell_below D15.2.2.2.1 (bo ob)
  have h4 := fun ob => cell_below D15.2.2.2.2.1 (bo ob)
  have h5 := fun ob => cell_below D15.2.2.2.2.2.1 (bo ob)
  have h6 := fun ob => cell_below D15.2.2.2.2.2.2 (bo ob)
  have ba := fun ob : Obj => bo ob
  go_wp2_with fail
  refine (eqOp_n k s f 0 0 p15 q15 p2 q2 NP NV c15 d15 c2 d2 P V eP eV _ (o15.rd.below (bo _)) (u15.rd.below (bo _)) (r15.below (bo _)) (s15.below (bo _)) hNP hNV).mono ?_
  rintro r w16 ⟨rfl, hb16⟩
  have b16 := Below.step (Below.step b15 (bo _)) hb16
  clear hb16 b15 D15 r15 s15 o15 u15 bo ba h0 h1 h2 h3 h4 h5 h6
  go_wp2
  go_ret
  exact ⟨rfl, b16⟩
end Go.Proofs.YtekooebndehokaaDoor
