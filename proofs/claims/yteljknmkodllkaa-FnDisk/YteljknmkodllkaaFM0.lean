import Derived.Test.YteljknmkodllkaaFd1
import Derived.Deep.DeepCutAuto
namespace Go.Proofs.Yteljknmkodllkaa
open Go.ChangeShapes Go.WideShapes Go.ChangeAt Go.RowKit
set_option linter.unusedVariables false
set_option linter.unusedSimpArgs false

set_option maxHeartbeats 16000000 in
set_option maxRecDepth 100000 in
theorem fnDisk_main0 (pc pm : Option Addr) (cc cm : Nat) (code more b l0 l1 l2 A C : List Int) (s0 s1 s2 : Nat) (w : World) (hRc : Rd w (.slice pc code.length cc) code) (hRm : Rd w (.slice pm more.length cm) more) (hcc : code.length ≤ cc) (hcl : code.length ≤ 1048576) (hml : more.length ≤ 1048576) (hmb : ∀ z ∈ more, 0 ≤ z ∧ z < 256)
    (HD : Hid (DA code l0 l1 l2 s0 s1 s2 0 b)) (hd : Hid (dok l0.length s0 l1.length s1 l2.length s2 = true)) (hs : l0.length ≤ 200000) (hs1 : l1.length ≤ 200000) (hs2 : l2.length ≤ 200000) (t0 : s0 ≤ l0.length) (t1 : s1 ≤ l1.length) (t2 : s2 ≤ l2.length) (mb : b.length ≤ 13) (hfit : l0.length + 2 * b.length + 1 ≤ 200000)
    (eA : Hid (A = l0 ++ b)) (eC : Hid (C = A ++ ([9] ++ b))) :
    Calls Try.prog 4 #[.slice pc code.length cc, .slice pm more.length cm] w fun e w' => e = .returned (.bool true) ∧ Below w.heap.size w w' := by
  have ba : ∀ (x : World) (o : Obj), Below x.heap.size x (x.alloc o) := fun x o => (Below.refl _ _).alloc (Nat.le_refl _) _
  have HA : Hid (A.length = l0.length + b.length) := by show _ = _; rw [unhide eA, List.length_append]
  have HC : Hid (C.length = A.length + (1 + b.length)) := by show _ = _; rw [unhide eC]; simp; omega
  have hA1 : A.length ≤ 200000 := by have := unhide HA; omega
  have hC1 : C.length ≤ 200000 := by have := unhide HA; have := unhide HC; omega
  have hAC : A.length ≤ C.length := by have := unhide HC; omega
  have hAl : l0.length ≤ A.length := by have := unhide HA; omega
  obtain ⟨TT, eT⟩ : ∃ TT : List Int, TT = [9] ++ b := ⟨_, rfl⟩
  have HT : Hid (TT.length = 1 + b.length) := by show _ = _; rw [eT]; simp; omega
  have eC2 : Hid (C = A ++ TT) := by show _ = _; rw [unhide eC, eT]
  have ET : Hid (TT = [9] ++ b) := eT
  clear eC eT
  have hd2 : Hid (dok A.length s0 l1.length s1 l2.length s2 = true) := dok_mk (by omega) (by omega) (by omega) (by omega) (by omega) (by omega) (by omega) (by omega) (by omega)
  have hd3 : Hid (dok A.length A.length l1.length s1 l2.length s2 = true) := dok_mk (by omega) (by omega) (by omega) (by omega) (by omega) (by omega) (by omega) (by omega) (by omega)
  have hd4 : Hid (dok C.length A.length l1.length s1 l2.length s2 = true) := dok_mk (by omega) (by omega) (by omega) (by omega) (by omega) (by omega) (by omega) (by omega) (by omega)
  have hr1 : Hid (decide (b.length + l0.length ≤ 200000) = true) := by show _ = _; simp; omega
  have hr2 : Hid (decide (TT.length + A.length ≤ 200000) = true) := by show _ = _; simp; have := unhide HT; have := unhide HA; omega
  have hiF : ¬ (200000 : Int) < (l0.length : Int) + 2 * (b.length : Int) + 1 := by omega
  have hc1 : ¬ (1048576 : Int) < (code.length : Int) := by omega
  have hc2 : ¬ (1048576 : Int) < (more.length : Int) := by omega
  have hc1' : decide ((1048576 : Int) < (code.length : Int)) = false := by simp; omega
  go_enter Try.func4, Try.ntmps4
  go_wp2_with fail
  refine (unhide HD pc cc _ hcc hRc).mono ?_
  rintro e w1 ⟨q0, d0, q1, d1, q2, d2, pb, cb, rfl, r0, r1, r2, rb, b1⟩
  go_wp2_with fail
  refine (specValid_any q0 q1 q2 _ d0 _ d1 _ d2 s0 s1 s2 _ (by omega) (by omega) (by omega)).mono ?_
  rintro e w2 ⟨rfl, hb2⟩
  rw [unhide hd]
  have D2 : At6 w2 w1.heap.size (.slice q0 l0.length d0) (.int .i64 s0) (.slice q1 l1.length d1) (.int .i64 s1) (.slice q2 l2.length d2) (.int .i64 s2) := At6.below (by simp [At6]) hb2
  have c2 : Below w1.heap.size w1 w2 := Below.step (ba _ _) hb2
  have b2 := Below.step b1 c2
  obtain ⟨ka, kb, kc, kd, ke, kf⟩ := D2
  clear hb2
  go_upto_region 11 with fail
  iterate 22 go_step
  generalize (l0.length : Int) + 2 * (b.length : Int) + 1 = zz at hiF ⊢
  go_wp2_with fail
  refine (unhide HD pc cc _ hcc (hRc.below b2)).mono ?_
  rintro e w3 ⟨x0, y0, x1, y1, x2, y2, pb', cb', rfl, u0, u1, u2, _, hb3⟩
  have b3 := Below.step b2 hb3
  have old3 := (r0.below c2).below hb3
  have bb3 := (rb.below c2).below hb3
  have mm3 := hRm.below b3
  clear hb3 b2 c2 r0 r1 r2 rb b1 ka kb kc kd ke kf
  go_wp2_with fail
  refine (implAppend0 x0 x1 x2 y0 y1 y2 s0 s1 s2 l0 l1 l2 pb b A eA cb _ (u0.below (ba _ _)) (u1.below (ba _ _)) (u2.below (ba _ _)) (bb3.below (ba _ _)) hd (by omega) (by omega) hr1 (by omega) (by omega) (by omega)).mono ?_
  rintro e w4 ⟨g0, i0, g1, i1, g2, i2, rfl, o4, hb4⟩
  have X4a : At6 w4 w3.heap.size (.slice x0 l0.length y0) (.int .i64 s0) (.slice x1 l1.length y1) (.int .i64 s1) (.slice x2 l2.length y2) (.int .i64 s2) := At6.below (by simp [At6]) hb4
  have G4a := frozen_below (b := w3.heap.size) (by intro o; simp) hb4 (by simp)
  have b4 : Below w3.heap.size w3 w4 := Below.step (ba _ _) hb4
  replace o4 : Own3 (w3.heap.size + 1) w4 (.slice g0 A.length i0) (.slice g1 l1.length i1) (.slice g2 l2.length i2) A l1 l2 := o4.mono (by simp)
  obtain ⟨W4, hW4⟩ : ∃ W, W = ((((((w4.setCell ⟨w3.heap.size, 0, none⟩ (.slice g0 A.length i0)).setCell ⟨w3.heap.size, 1, none⟩ (.int .i64 s0)).setCell ⟨w3.heap.size, 2, none⟩ (.slice g1 l1.length i1)).setCell ⟨w3.heap.size, 3, none⟩ (.int .i64 s1)).setCell ⟨w3.heap.size, 4, none⟩ (.slice g2 l2.length i2)).setCell ⟨w3.heap.size, 5, none⟩ (.int .i64 s2)) := ⟨_, rfl⟩
  have X4 : At6 W4 w3.heap.size (.slice g0 A.length i0) (.int .i64 s0) (.slice g1 l1.length i1) (.int .i64 s1) (.slice g2 l2.length i2) (.int .i64 s2) := by
    rw [hW4]; obtain ⟨ka, kb, kc, kd, ke, kf⟩ := X4a
    refine ⟨?_, ?_, ?_, ?_, ?_, ?_⟩ <;> simp [go_sem, ka, kb, kc, kd, ke, kf]
  have G4 : ∀ o, W4.frozen? ⟨w3.heap.size, o, none⟩ = false := by intro o; rw [hW4]; simp [G4a]
  have B4 : Below w3.heap.size w3 W4 := by rw [hW4]; (repeat (refine Below.setCell ?_ (by simp) _)); exact b4
  have O4 : Own3 (w3.heap.size + 1) W4 (.slice g0 A.length i0) (.slice g1 l1.length i1) (.slice g2 l2.length i2) A l1 l2 := by rw [hW4]; (repeat (refine Own3.set ?_ (by simp) _)); exact o4
  have XX4 := hide X4
  have GG4 := hide G4
  clear b4 o4 hb4 u0 u1 u2 X4 G4
  go_wp2_with fail
  rw [← hW4]
  have X4 := unhide XX4
  have G4 := unhide GG4
  clear hW4 X4a G4a XX4 GG4
  refine (implSync0 g0 g1 g2 i0 i1 i2 s0 s1 s2 A l1 l2 _ O4.o0.rd O4.o1.rd O4.o2.rd hd2 (by omega) (by omega) (by omega)).mono ?_
  rintro e w5 ⟨h0, j0, h1, j1, h2, j2, rfl, o5, hb5⟩
  have X5a := X4.below hb5
  have z4 : w3.heap.size < W4.heap.size := World.block_lt_of_cell? W4 _ X4.1
  have G5a := frozen_below G4 hb5 z4
  have b5 := Below.step B4 hb5
  replace o5 : Own3 (w3.heap.size + 1) w5 (.slice h0 A.length j0) (.slice h1 l1.length j1) (.slice h2 l2.length j2) A l1 l2 := o5.mono z4
  obtain ⟨W5, hW5⟩ : ∃ W, W = ((((((w5.setCell ⟨w3.heap.size, 0, none⟩ (.slice h0 A.length j0)).setCell ⟨w3.heap.size, 1, none⟩ (.int .i64 A.length)).setCell ⟨w3.heap.size, 2, none⟩ (.slice h1 l1.length j1)).setCell ⟨w3.heap.size, 3, none⟩ (.int .i64 s1)).setCell ⟨w3.heap.size, 4, none⟩ (.slice h2 l2.length j2)).setCell ⟨w3.heap.size, 5, none⟩ (.int .i64 s2)) := ⟨_, rfl⟩
  have X5 : At6 W5 w3.heap.size (.slice h0 A.length j0) (.int .i64 A.length) (.slice h1 l1.length j1) (.int .i64 s1) (.slice h2 l2.length j2) (.int .i64 s2) := by
    rw [hW5]; obtain ⟨ka, kb, kc, kd, ke, kf⟩ := X5a
    refine ⟨?_, ?_, ?_, ?_, ?_, ?_⟩ <;> simp [go_sem, ka, kb, kc, kd, ke, kf]
  have G5 : ∀ o, W5.frozen? ⟨w3.heap.size, o, none⟩ = false := by intro o; rw [hW5]; simp [G5a]
  have B5 : Below w3.heap.size w3 W5 := by rw [hW5]; (repeat (refine Below.setCell ?_ (by simp) _)); exact b5
  have O5 : Own3 (w3.heap.size + 1) W5 (.slice h0 A.length j0) (.slice h1 l1.length j1) (.slice h2 l2.length j2) A l1 l2 := by rw [hW5]; (repeat (refine Own3.set ?_ (by simp) _)); exact o5
  have XX5 := hide X5
  have GG5 := hide G5
  clear b5 o5 hb5 X4 G4 B4 O4 X5 G5
  go_upto_region 16 with fail
  rw [← hW5]
  have X5 := unhide XX5
  have G5 := unhide GG5
  clear hW5 X5a G5a XX5 GG5
  have z5 : w3.heap.size < W5.heap.size := World.block_lt_of_cell? W5 _ X5.1
  have bb5 := bb3.below B5
  go_cut [14] (fun e3 wc => e3 = .int .i64 0 ∧ ∃ (k0 k1 k2 : Option Addr) (a0 a1 a2 : Nat), Own3 (w3.heap.size + 1) wc (.slice k0 C.length a0) (.slice k1 l1.length a1) (.slice k2 l2.length a2) C l1 l2 ∧ At6 wc w3.heap.size (.slice k0 C.length a0) (.int .i64 A.length) (.slice k1 l1.length a1) (.int .i64 s1) (.slice k2 l2.length a2) (.int .i64 s2) ∧ (∀ o, wc.frozen? ⟨w3.heap.size, o, none⟩ = false) ∧ Below w3.heap.size w3 wc)
  case first =>
    have hlT : [(9 : Int)].length + b.length ≤ 4194304 := by simp; omega
    have DRW : ∀ o : Obj, Below W5.heap.size W5 (W5.alloc o).drew := fun o => ((Below.refl _ _).alloc (Nat.le_refl _) _).drew
    go_region_law (first
      | (refine step_append_rd (by rfl) _ _ (by rfl) W5.heap.size (.slice (some ⟨W5.heap.size, 0, none⟩) 1 1) [9] b TT ET pb cb (by rfl) (by rfl) (by exact Own.below (Own.one W5 9) (Below.refl _ _).drew) (by exact bb5.below (DRW _)) hlT (by simp) ?_; intro pt ct wt ot gt; have bt : Below W5.heap.size W5 wt := below_grown (DRW _) gt (by exact Own.below (Own.one W5 9) (Below.refl _ _).drew) (Nat.le_refl _) (by simp); have Xt := X5.below bt; have Gt := frozen_below G5 bt z5; have Ot := O5.below bt)
      | (refine step_call (by rfl) 16 _ _ _ _ (by rfl) (.agg #[.slice h0 A.length j0, .int .i64 A.length, .slice h1 l1.length j1, .int .i64 s1, .slice h2 l2.length j2, .int .i64 s2]) (.int .i64 0) (.slice pt TT.length ct) (by rfl) (by rfl) (by rfl) (fun _ => calls_append _ _) (implAppend0 h0 h1 h2 j0 j1 j2 A.length s1 s2 A l1 l2 pt TT C eC2 ct _ Ot.o0.rd Ot.o1.rd Ot.o2.rd ot.rd hd3 (by have := unhide HT; omega) hC1 hr2 (by omega) (by omega) (by omega)) ?_; rintro e w6 ⟨k0, a0, k1, a1, k2, a2, rfl, o6, hb6⟩; refine ⟨_, rfl, ?_⟩; have bt6 := Below.step bt hb6; have X6 := X5.below bt6; have G6 := frozen_below G5 bt6 z5))
    all_goals
      have o6' : Own3 (w3.heap.size + 1) w6 (.slice k0 C.length a0) (.slice k1 l1.length a1) (.slice k2 l2.length a2) C l1 l2 := o6.mono (by have := bt.size; omega)
      go_wp2_with fail
      go_meet
      refine ⟨rfl, k0, k1, k2, a0, a1, a2, ?_, ?_, ?_, ?_⟩
      · (repeat (refine Own3.set ?_ (by simp) _)); exact o6'
      · obtain ⟨ka, kb, kc, kd, ke, kf⟩ := X6
        refine ⟨?_, ?_, ?_, ?_, ?_, ?_⟩ <;> simp [go_sem, ka, kb, kc, kd, ke, kf]
      · intro o; simp [G6]
      · (repeat (refine Below.setCell ?_ (by simp) _)); exact Below.step B5 bt6
  case rest =>
    obtain ⟨rfl, k0, k1, k2, a0, a1, a2, O6, X6, G6, B6⟩ := hcut
    clear X5 G5 B5 O5 bb5
    have z6 : w3.heap.size < wc.heap.size := World.block_lt_of_cell? wc _ X6.1
    go_wp2_with fail
    refine (take_any pm cm more _ (mm3.below B6) hmb hml).mono ?_
    rintro e w7 ⟨yk, hyk, rfl, hb7⟩
    have X7 := X6.below hb7
    have O7 := O6.below hb7
    have B7 := Below.step B6 hb7
    have em1 := Int.emod_nonneg yk (show (b.length : Int) + 3 ≠ 0 by omega)
    have em2 := Int.emod_lt_of_pos yk (show 0 < (b.length : Int) + 3 by omega)
    obtain ⟨kn, ekn⟩ : ∃ kn : Nat, (kn : Int) = yk % ((b.length : Int) + 3) := ⟨(yk % ((b.length : Int) + 3)).toNat, by omega⟩
    have hkn : kn ≤ b.length + 2 := by omega
    obtain ⟨Y0, eY0⟩ : ∃ L, L = C.take (kept C.length A.length ((kn : Int)).toNat) := ⟨_, rfl⟩
    obtain ⟨Y1, eY1⟩ : ∃ L, L = l1.take (kept l1.length s1 ((kn : Int)).toNat) := ⟨_, rfl⟩
    obtain ⟨Y2, eY2⟩ : ∃ L, L = l2.take (kept l2.length s2 ((kn : Int)).toNat) := ⟨_, rfl⟩
    have lY0 : Y0.length ≤ 200000 := by rw [eY0]; simp; omega
    have lY1 : Y1.length ≤ 200000 := by rw [eY1]; simp; omega
    have lY2 : Y2.length ≤ 200000 := by rw [eY2]; simp; omega
    have EYf : Hid (Y0 = A ++ TT.take (min kn TT.length)) := by show _ = _; rw [eY0, crash_f A TT C _ (unhide eC2)]; simp
    have CR := hide (implCrash0 k0 k1 k2 a0 a1 a2 A.length s1 s2 C l1 l2 (kn : Int) w7 O7.o0.rd O7.o1.rd O7.o2.rd hd4 (by omega) O7.o0.cap O7.o1.cap O7.o2.cap (by omega) (by omega) (by omega) (by omega) (by omega) (by omega) Y0 Y1 Y2 eY0 eY1 eY2)
    have hd5 : Hid (dok Y0.length Y0.length Y1.length Y1.length Y2.length Y2.length = true) := dok_mk lY0 (by omega) (by omega) lY1 (by omega) (by omega) lY2 (by omega) (by omega)
    have EKN := hide ekn
    clear em1 em2 eY0 eY1 eY2 ekn X6 O6 B6 G6 hb7
    have hden : (0 : Int) < (b.length : Int) + 3 := by omega
    have hdnz : ((b.length : Int) + 3 == 0) = false := beq_eq_false_iff_ne.2 (by omega)
    go_wp2_with fail
    rw [← unhide EKN]
    refine (unhide CR).mono ?_
    rintro e w8 ⟨f0, v0, f1, v1, f2, v2, rfl, O8, hb8⟩
    obtain ⟨W8, hW8⟩ : ∃ W, W = w8.alloc (.cells #[.slice f0 Y0.length v0, .int .i64 Y0.length, .slice f1 Y1.length v1, .int .i64 Y1.length, .slice f2 Y2.length v2, .int .i64 Y2.length] 31) := ⟨_, rfl⟩
    have c8 : Below w8.heap.size w8 W8 := by rw [hW8]; exact ba _ _
    have Y8 : At6 W8 w8.heap.size (.slice f0 Y0.length v0) (.int .i64 Y0.length) (.slice f1 Y1.length v1) (.int .i64 Y1.length) (.slice f2 Y2.length v2) (.int .i64 Y2.length) := by rw [hW8]; simp [At6]
    have X8 := (X7.below hb8).below c8
    have B8 := Below.step (Below.step B7 hb8) c8
    have P8 := O8.below c8
    have Q8 := (O7.below hb8).below c8
    have old8 := old3.below B8
    have bb8 := bb3.below B8
    have HK8 := hide (And.intro Y8 (And.intro X8 (And.intro P8 Q8)))
    clear X7 O7 B7 O8 hb8 CR c8 Y8 X8 P8 Q8
    go_upto_region 22 with fail
    rw [← hW8]
    clear hW8
    have eNil : Hid (l0 = [] ++ l0) := rfl
    go_wp2_with (at_builtin; refine wpList_append_rd rfl _ _ rfl W8.heap.size (.slice none 0 0) [] l0 l0 eNil q0 d0 rfl rfl (World.ownsRow_nil _ _ _ _) old8 (by simp; omega) (Nat.le_refl _) ?_)
    intro pw1 cw1 w9 ow1 gw1
    have c9 : Below W8.heap.size W8 w9 := grown_below (by exact gw1)
    clear gw1
    go_wp2_with (at_builtin; refine wpList_append_rd rfl _ _ rfl W8.heap.size (.slice pw1 l0.length cw1) l0 b A eA pb cb rfl rfl ow1 (bb8.below c9) (by omega) c9.size ?_)
    intro pw2 cw2 w10 ow2 gw2
    have c10 : Below W8.heap.size W8 w10 := below_grown c9 gw2 ow1 (Nat.le_refl _) c9.size
    clear gw2 ow1 c9
    have X10 := (unhide HK8).2.1.below c10
    have Q10 := (unhide HK8).2.2.2.below c10
    have CZ := hide (implCrash0 k0 k1 k2 a0 a1 a2 A.length s1 s2 C l1 l2 0 w10 Q10.o0.rd Q10.o1.rd Q10.o2.rd hd4 (by omega) Q10.o0.cap Q10.o1.cap Q10.o2.cap (by omega) (by omega) (by omega) (by omega) (by omega) (by omega) A _ _ (crash_0 A TT C (unhide eC2)).symm rfl rfl)
    go_wp2_with fail
    refine (unhide CZ).mono ?_
    rintro e w11 ⟨z0, r0, z1, r1, z2, r2, rfl, O11, hb11⟩
    have c11 := Below.step c10 hb11
    have ow11 := Own.below ow2 hb11
    clear CZ X10 Q10 c10 hb11
    go_wp2_with fail
    refine (pick0 z0 z1 z2 _ _ _ r0 r1 r2 _ _ _ _).mono ?_
    rintro e w12 ⟨rfl, hb12⟩
    have p12 := (O11.o0.rd.below (ba w11 _)).below hb12
    have ow12 := Own.below ow11 (Below.step (ba w11 _) hb12)
    have c12 := Below.step c11 (Below.step (ba w11 _) hb12)
    clear c11 ow11 O11 hb12
    go_wp2_with fail
    refine (sameB_same z0 pw2 r0 cw2 A _ p12 ow12.rd (by omega)).mono ?_
    rintro e w13 ⟨rfl, hb13⟩
    have ow13 := Own.below ow12 hb13
    have c13 := Below.step c12 hb13
    clear c12 ow12 p12 hb13
    go_wp2_with (at_builtin; refine wpList_append_rd rfl _ _ rfl w13.heap.size (.slice (some ⟨w13.heap.size, 0, none⟩) 1 1) [9] b TT ET pb cb rfl rfl (Own.one w13 9) ((bb8.below c13).below (ba _ _)) (by simp; omega) (by simp) ?_)
    intro pt ct w14 ot gt
    have d14 : Below w13.heap.size w13 w14 := below_grown (ba w13 (.cells #[.int .u8 9] 5)) gt (Own.one w13 9) (Nat.le_refl _) (by simp)
    have ow14 := Own.below ow13 d14
    have c14 := Below.step c13 d14
    have hcap := ot.cap
    clear gt ow13 c13 d14
    obtain ⟨TM, mm, eTM, hTM, hmm1, hmm2⟩ : ∃ (TM : List Int) (mm : Nat), TM = TT.take mm ∧ TM.length = mm ∧ mm = min kn TT.length ∧ mm ≤ TT.length := ⟨TT.take (min kn TT.length), min kn TT.length, rfl, by rw [List.length_take]; omega, rfl, by omega⟩
    have EYm : Hid (Y0 = A ++ TM) := by show _ = _; rw [unhide EYf, eTM, hmm1]
    have RT : Rd w14 (.slice pt mm ct) TM := by rw [eTM]; exact ot.rd.take mm hmm2
    have hTMl : TM.length ≤ 200000 := by have := unhide HT; omega
    have HTM := hide hTM
    have HRT := hide RT
    have hTTl : TT.length ≤ 14 := by have := unhide HT; omega
    clear eTM hTM RT
    by_cases hkt : (TT.length : Int) < (kn : Int)
    all_goals
      have hmk : mm = if (TT.length : Int) < (kn : Int) then TT.length else kn := by rw [hmm1]; split <;> omega
      first | rw [if_pos hkt] at hmk | rw [if_neg hkt] at hmk
      clear hmm1 hmm2
      subst hmk
      go_wp2_with (at_builtin; refine wpList_append_rdn rfl _ _ rfl W8.heap.size (.slice pw2 A.length cw2) A TM Y0 EYm pt ct _ HTM rfl rfl ow14 (unhide HRT) (by omega) c14.size ?_)
      intro pw3 cw3 w15 ow15 gw3
      have c15 : Below W8.heap.size W8 w15 := below_grown c14 gw3 ow14 (Nat.le_refl _) c14.size
      have Y15 := (unhide HK8).1.below c15
      have P15 := (unhide HK8).2.2.1.below c15
      clear gw3 ow14 c14 ot
      go_wp2_with fail
      refine (pick0 f0 f1 f2 _ _ _ v0 v1 v2 _ _ _ _).mono ?_
      rintro e w16 ⟨rfl, hb16⟩
      have c16 := Below.step c15 hb16
      have ow16 := Own.below ow15 hb16
      have Y16 := Y15.below hb16
      have P16 := P15.below hb16
      clear hb16 Y15 P15 c15 ow15
      go_wp2_with fail
      refine (sameB_same f0 pw3 v0 cw3 Y0 _ P16.o0.rd ow16.rd (by omega)).mono ?_
      rintro e w17 ⟨rfl, hb17⟩
      have c17 := Below.step c16 hb17
      have Y17 := Y16.below hb17
      have P17 := P16.below hb17
      clear hb17 Y16 P16 c16 ow16
      go_wp2_with fail
      refine (implRename0 f0 f1 f2 v0 v1 v2 _ _ _ Y0 Y1 Y2 _ P17.o0.rd P17.o1.rd P17.o2.rd hd5 lY0 lY1 lY2).mono ?_
      rintro e w18 ⟨z0', r0', z1', r1', z2', r2', rfl, O18, hb18⟩
      have z17 : w8.heap.size < w17.heap.size := World.block_lt_of_cell? w17 _ Y17.1
      have c18 := Below.step c17 hb18
      have Y18 := Y17.below hb18
      have P18 := P17.below hb18
      have z18 : w8.heap.size < w18.heap.size := World.block_lt_of_cell? w18 _ Y18.1
      clear hb18 Y17 P17 c17
      go_wp2_with fail
      refine (sameB_same z1' f2 r1' v2 Y2 _ (O18.o1.rd.below (ba _ _)) (P18.o2.rd.below (ba _ _)) (by omega)).mono ?_
      rintro e w19 ⟨rfl, hb19⟩
      have Y19 := (Y18.below (ba _ _)).below hb19
      have V19 : At6 w19 w18.heap.size (.slice z0' Y0.length r0') (.int .i64 Y0.length) (.slice z1' Y2.length r1') (.int .i64 Y2.length) (.slice z2' ([] : List Int).length r2') (.int .i64 0) := At6.below (by simp [At6]) hb19
      have O19 := (O18.below (ba w18 _)).below hb19
      have P19 := (P18.below (ba w18 _)).below hb19
      have c19 := Below.step c18 (Below.step (ba w18 _) hb19)
      clear hb19 Y18 P18 O18 c18
      go_wp2_with fail
      refine (sameB_same z0' f0 r0' v0 Y0 _ O19.o0.rd P19.o0.rd (by omega)).mono ?_
      rintro e w20 ⟨rfl, hb20⟩
      have b20 : Below w.heap.size w w20 := Below.step b3 (Below.step B8 (Below.step c19 hb20))
      clear hb20 Y19 V19 O19 P19 c19
      go_wp2
      go_ret
      exact ⟨rfl, b20⟩
end Go.Proofs.Yteljknmkodllkaa
