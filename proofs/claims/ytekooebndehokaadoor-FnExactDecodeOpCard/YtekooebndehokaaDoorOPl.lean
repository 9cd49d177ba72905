import Derived.Test.YtekooebndehokaaDoorOPn
namespace Go.Proofs.YtekooebndehokaaDoor
open Go.ChangeShapes Go.WideShapes Go.ChangeAt Go.RowKit
set_option linter.unusedVariables false
set_option linter.unusedSimpArgs false
set_option maxRecDepth 100000

theorem below_mark2 {B a b a' b' : Nat} {w0 w w' : World} {u v : Value} (h : Below B w0 w) (hg : Kept [u, v] w w') (hu : Btw a b u) (hv : Btw a' b' v) (hB : B ≤ a) (hB' : B ≤ a') (hz : B ≤ w.heap.size) : Below B w0 w' :=
  h.trans (hg.below hz (fun x hx k e => by
    simp only [List.mem_cons, List.not_mem_nil, or_false] at hx
    rcases hx with rfl | rfl
    · have := hu k e; omega
    · have := hv k e; omega))
theorem Own.apart2 {B a b a' b' c d : Nat} {w w' : World} {u v x : Value} {l : List Int} (h : Own B w x l) (hg : Kept [u, v] w w') (hu : Btw a b u) (hv : Btw a' b' v) (hx : Btw c d x) (hd : b ≤ c ∨ d ≤ a) (hd' : b' ≤ c ∨ d ≤ a') : Own B w' x l := by
  refine Own.keptBy (vs := [u, v]) h hg ?_
  intro y hy k e1 e2
  simp only [List.mem_cons, List.not_mem_nil, or_false] at hy
  have := hx k e1
  rcases hy with rfl | rfl
  · have := hu k e2; omega
  · have := hv k e2; omega
theorem Rd.apart2 {a b a' b' c d : Nat} {w w' : World} {u v x : Value} {l : List Int} (h : Rd w x l) (hg : Kept [u, v] w w') (hu : Btw a b u) (hv : Btw a' b' v) (hx : Btw c d x) (hd : b ≤ c ∨ d ≤ a) (hd' : b' ≤ c ∨ d ≤ a') : Rd w' x l := by
  refine Rd.kept h hg ?_
  intro y hy k e1 e2
  simp only [List.mem_cons, List.not_mem_nil, or_false] at hy
  have := hx k e1
  rcases hy with rfl | rfl
  · have := hu k e2; omega
  · have := hv k e2; omega
theorem At7.kept2 {u v : Value} {w w' : World} {b lo hi lo' hi' : Nat} {v0 v1 v2 v3 v4 v5 v6 : Value} (h : At7 w b v0 v1 v2 v3 v4 v5 v6) (hk : Kept [u, v] w w') (hb : b < w.heap.size) (hu : Btw lo hi u) (hv : Btw lo' hi' v) (hd : b < lo ∨ hi ≤ b) (hd' : b < lo' ∨ hi' ≤ b) : At7 w' b v0 v1 v2 v3 v4 v5 v6 := by
  have e := hk.cellAt hb (fun x hx e => by
    simp only [List.mem_cons, List.not_mem_nil, or_false] at hx
    rcases hx with rfl | rfl
    · have := hu _ e; omega
    · have := hv _ e; omega)
  exact ⟨(e 0).trans h.1, (e 1).trans h.2.1, (e 2).trans h.2.2.1, (e 3).trans h.2.2.2.1, (e 4).trans h.2.2.2.2.1, (e 5).trans h.2.2.2.2.2.1, (e 6).trans h.2.2.2.2.2.2⟩
theorem At7.kept1 {u : Value} {w w' : World} {b lo hi : Nat} {v0 v1 v2 v3 v4 v5 v6 : Value} (h : At7 w b v0 v1 v2 v3 v4 v5 v6) (hk : Kept [u] w w') (hb : b < w.heap.size) (hu : Btw lo hi u) (hd : b < lo ∨ hi ≤ b) : At7 w' b v0 v1 v2 v3 v4 v5 v6 := by
  have e := hk.cellAt hb (fun x hx e => by simp only [List.mem_singleton] at hx; subst hx; have := hu _ e; omega)
  exact ⟨(e 0).trans h.1, (e 1).trans h.2.1, (e 2).trans h.2.2.1, (e 3).trans h.2.2.2.1, (e 4).trans h.2.2.2.2.1, (e 5).trans h.2.2.2.2.2.1, (e 6).trans h.2.2.2.2.2.2⟩

/-- what a contract of EncodeOp says: both sides give it -/
abbrev EncRes (F : Nat) (w : World) (k s f e g : Int) (n m N : Nat) (P V R : List Int) : Prop :=
  ∀ (q1 q2 : Option Addr) (d1 d2 : Nat) (w' : World), Below w.heap.size w w' → Rd w' (.slice q1 n d1) P → Rd w' (.slice q2 m d2) V → Calls Tryd.prog F #[opV k s (.slice q1 n d1) f (.slice q2 m d2) e g] w' fun r w'' => ∃ p' c', r = .returned (.slice p' N c') ∧ Own w'.heap.size w'' (.slice p' N c') R ∧ Below w'.heap.size w' w''

set_option maxHeartbeats 4000000 in
theorem lawEncOp_small (k s f e g : Int) (p q : Option Addr) (n m c d N : Nat) (P V R : List Int) (ep : Hid (P.length = n)) (ev : Hid (V.length = m)) (eN : Hid (R.length = N)) (w : World) (hp : Rd w (.slice p n c) P) (hv : Rd w (.slice q m d) V) (hl : n + m ≤ 1048576) (hN : N ≤ 1048700) (spec : Hid (EncRes 12 w k s f e g n m N P V R)) (impl : Hid (EncRes 14 w k s f e g n m N P V R)) :
    Calls Tryd.prog 4 #[opV k s (.slice p n c) f (.slice q m d) e g] w fun e w' => e = .returned (.bool true) ∧ Below w.heap.size w w' := by
  have HP := hide fun (w' : World) (hb : Below w.heap.size w w') => hp.below hb
  have HV := hide fun (w' : World) (hb : Below w.heap.size w w') => hv.below hb
  clear hp hv
  have hn : n ≤ 1048576 := by omega
  have hm : m ≤ 1048576 := by omega
  have b0 : ∀ o : Obj, Below w.heap.size w (w.alloc o) := fun o => (Below.refl _ _).alloc (Nat.le_refl _) _
  have ba : ∀ (x : World) (o : Obj), Below x.heap.size x (x.alloc o) := fun x o => (Below.refl _ _).alloc (Nat.le_refl _) _
  obtain ⟨L2, e2⟩ : ∃ L2 : Nat, (1048576 : Int) - (n : Int) - (m : Int) = (L2 : Int) := ⟨1048576 - n - m, by omega⟩
  have g2 : ¬ (L2 : Int) < 0 := by omega
  go_enter Tryd.func4, Tryd.ntmps4
  go_wp2_with fail
  refine (szOp_small k s f e g p q n m c d _ hl).mono ?_
  rintro r w0 ⟨rfl, hb0⟩
  rw [e2]
  have A0 : At7 w0 w.heap.size (.int .i64 k) (.int .u64 s) (.slice p n c) (.int .i64 f) (.slice q m d) (.int .u64 e) (.int .u64 g) := At7.below (by simp [At7, go_sem]) hb0
  have b00 : Below w.heap.size w w0 := Below.step (b0 _) hb0
  have z0 : w.heap.size < w0.heap.size := by have := hb0.size; simp at this; omega
  clear hb0 e2
  obtain ⟨i0, i1, i2, i3, i4, i5, i6⟩ := id A0
  go_wp2_with fail
  refine (toOp_n k s f e g p q n m c d P V ep ev _ (unhide HP _ b00) (unhide HV _ b00) hn hm).mono ?_
  rintro r w1 ⟨p1, c1, q1, d1, B1, rfl, _, o1, _, u1, hb1⟩
  have b1 := Below.step b00 hb1
  have A1 := A0.below hb1
  have z1 := hb1.size
  clear hb1 A0 b00 i0 i1 i2 i3 i4 i5 i6
  go_wp2_with fail
  refine (unhide spec p1 q1 c1 d1 _ b1 o1.rd u1.rd).mono ?_
  rintro r w2 ⟨p2, c2, rfl, o2, hb2⟩
  have b2 := Below.step b1 hb2
  have t2 := o2.btw
  have z2 := hb2.size
  have r2 := o2.rd
  have A2 := A1.below hb2
  clear o1 u1 b1 hb2 o2 A1
  obtain ⟨i0, i1, i2, i3, i4, i5, i6⟩ := id A2
  go_wp2_with fail
  refine (toOp_n k s f e g p q n m c d P V ep ev _ (unhide HP _ b2) (unhide HV _ b2) hn hm).mono ?_
  rintro r w3 ⟨p3, c3, q3, d3, B3, rfl, hB3, x3, tx3, y3, hb3⟩
  have b3 := Below.step b2 hb3
  have ty3 := y3.btw
  have r3 := r2.below hb3
  have A3 := A2.below hb3
  have z3 := hb3.size
  have tb3 := x3.btw
  clear b2 hb3 r2 A2 i0 i1 i2 i3 i4 i5 i6
  go_wp2_with fail
  refine (unhide impl p3 q3 c3 d3 _ (Below.step b3 (ba _ _)) (x3.rd.below (ba _ _)) (y3.rd.below (ba _ _))).mono ?_
  rintro r w4 ⟨p4, c4, rfl, g4', hb4⟩
  have D4 : At7 w4 w3.heap.size (.int .i64 k) (.int .u64 s) (.slice p3 n c3) (.int .i64 f) (.slice q3 m d3) (.int .u64 e) (.int .u64 g) := At7.below (by simp [At7, go_sem]) hb4
  have hc4 : Below w3.heap.size w3 w4 := Below.step (ba _ _) hb4
  have g4 : Own (w3.heap.size + 1) w4 (.slice p4 N c4) R := Own.mono g4' (by simp)
  have b4 := Below.step b3 hc4
  have t4 := g4.btw
  have r4 := r3.below hc4
  have A4 := A3.below hc4
  have x4 := Own.below x3 hc4
  have y4 := Own.below y3 hc4
  have z4 : w3.heap.size < w4.heap.size := by have := hb4.size; simp at this; omega
  clear b3 hb4 r3 x3 y3 A3 hc4 g4'
  go_wp2_with fail
  refine (eqByteS_n p4 p2 c4 c2 N R eN _ g4.rd r4 (by omega)).mono ?_
  rintro r w5 ⟨rfl, hb5⟩
  have b5 := Below.step b4 hb5
  have r5 := r4.below hb5
  have x5 := Own.below x4 hb5
  have y5 := Own.below y4 hb5
  have g5 := Own.below g4 hb5
  have z5 := hb5.size
  have A5 := A4.below hb5
  have D5 := D4.below hb5
  clear b4 hb5 r4 x4 y4 g4 A4 D4
  go_wp2_with fail
  go_region_held3 (fun w' => Below w5.heap.size w5 w' ∧ At7 w' w.heap.size (.int .i64 k) (.int .u64 s) (.slice p n c) (.int .i64 f) (.slice q m d) (.int .u64 e) (.int .u64 g) ∧ At7 w' w3.heap.size (.int .i64 k) (.int .u64 s) (.slice p3 n c3) (.int .i64 f) (.slice q3 m d3) (.int .u64 e) (.int .u64 g)) (first | exact ⟨Below.refl _ _, A5, D5⟩ | exact ⟨(Below.refl _ _).drew, A5, D5⟩ | (have hb := Below.step (Below.refl w5.heap.size w5).drew hb6; exact ⟨hb, A5.below hb, D5.below hb⟩) | (have hb := Below.step (Below.step (Below.refl w5.heap.size w5).drew hb6) hb7; exact ⟨hb, A5.below hb, D5.below hb⟩))
    (first | (go_at_call 13; refine (toOp_n k s f e g p q n m c d P V ep ev _ (by exact unhide HP _ b5.drew) (by exact unhide HV _ b5.drew) hn hm).mono ?_; rintro r w6 ⟨p6, c6, q6, d6, B6, rfl, _, y6, _, v6, hb6⟩) | (go_at_call 15; refine (eqOp_n k s f e g p3 q3 p6 q6 n m c3 d3 c6 d6 P V ep ev _ (by exact (x5.rd.below (Below.step (Below.refl w5.heap.size w5).drew hb6))) (by exact (y5.rd.below (Below.step (Below.refl w5.heap.size w5).drew hb6))) (by exact y6.rd) (by exact v6.rd) hn hm).mono ?_; rintro r w7 ⟨rfl, hb7⟩))
  have hb57 : Below w5.heap.size w5 w7 := Below.step (Below.step (Below.refl w5.heap.size w5).drew hb6) hb7
  have b7 := Below.step b5 hb57
  have r7 := r5.below hb57
  have x7 := Own.below x5 hb57
  have y7 := Own.below y5 hb57
  have g7 := Own.below g5 hb57
  have A7 := A5.below hb57
  have D7 := D5.below hb57
  have z7 := hb57.size
  clear b5 hb6 hb7 hb57 r5 x5 y5 g5 y6 v6 A5 D5
  obtain ⟨j0, j1, j2, j3, j4, j5, j6⟩ := id D7
  go_wp2_with fail
  refine (markOp_n w2.heap.size B3 k s f e g p3 q3 n m c3 d3 P V ep ev _ x7 tx3 y7 hn hm).mono ?_
  rintro r w8 ⟨rfl, hg8⟩
  have b8 := below_mark2 b7 hg8 tb3 ty3 (by omega) (by omega) (by omega)
  have r8 := r7.apart2 hg8 tb3 ty3 t2 (by omega) (by omega)
  have g8 := Own.apart2 g7 hg8 tb3 ty3 t4 (by omega) (by omega)
  have A8 := A7.kept2 hg8 (by omega) tb3 ty3 (by omega) (by omega)
  have z8 := hg8.size
  clear b7 hg8 r7 g7 x7 y7 A7 D7 j0 j1 j2 j3 j4 j5 j6
  obtain ⟨K8, eK8⟩ : ∃ K8 : Nat, (1 : Int) + (n : Int) + (m : Int) = (K8 : Int) := ⟨1 + n + m, by omega⟩
  have hK8 : ¬ (K8 : Int) < 0 := by omega
  rw [eK8]
  clear eK8
  go_wp2_with fail
  refine (eqByteS_n p4 p2 c4 c2 N R eN _ g8.rd r8 (by omega)).mono ?_
  rintro r w9 ⟨rfl, hb9⟩
  have b9 := Below.step b8 hb9
  have r9 := r8.below hb9
  have g9 := Own.below g8 hb9
  have A9 := A8.below hb9
  have z9 := hb9.size
  clear b8 hb9 r8 g8 A8
  go_wp2_with fail
  refine (markByteS_n (w3.heap.size + 1) p4 c4 N R eN 1 _ g9 (by omega) (by omega) (by omega)).mono ?_
  rintro r w10 ⟨rfl, g10, hg10⟩
  have hk10 : Kept [.slice p4 N c4] w9 w10 := Kept.of_grown hg10 (by simp)
  have b10 := below_markK b9 hk10 t4 (by omega) (by omega)
  have r10 := r9.apartK hk10 t4 t2 (by omega)
  have A10 := A9.kept1 hk10 (by omega) t4 (by omega)
  have z10 := hg10.size
  clear b9 hg10 r9 g9 hk10 A9
  go_wp2_with fail
  refine (heldByteS_any p4 c4 N 1 _ g10.rd (by omega) (by omega) (by omega)).mono ?_
  rintro r w11 ⟨rfl, hb11⟩
  have b11 := Below.step b10 hb11
  have r11 := r10.below hb11
  have A11 := A10.below hb11
  have z11 := hb11.size
  clear b10 hb11 r10 g10 A10
  obtain ⟨i0, i1, i2, i3, i4, i5, i6⟩ := id A11
  go_wp2_with fail
  refine (toOp_n k s f e g p q n m c d P V ep ev _ (unhide HP _ b11) (unhide HV _ b11) hn hm).mono ?_
  rintro r w12 ⟨p12, c12, q12, d12, B12, rfl, _, y12, _, v12, hb12⟩
  have b12 := Below.step b11 hb12
  have r12 := r11.below hb12
  clear b11 hb12 r11 A11 i0 i1 i2 i3 i4 i5 i6
  go_wp2_with fail
  refine (unhide impl p12 q12 c12 d12 _ b12 y12.rd v12.rd).mono ?_
  rintro r w13 ⟨p13, c13, rfl, g13, hb13⟩
  have b13 := Below.step b12 hb13
  have r13 := r12.below hb13
  clear b12 hb13 r12 y12 v12
  go_wp2_with fail
  refine (eqByteS_n p13 p2 c13 c2 N R eN _ g13.rd r13 (by omega)).mono ?_
  rintro r w14 ⟨rfl, hb14⟩
  have b14 := Below.step b13 hb14
  clear b13 hb14 r13 g13
  go_wp2
  go_ret
  exact ⟨rfl, b14⟩
end Go.Proofs.YtekooebndehokaaDoor
