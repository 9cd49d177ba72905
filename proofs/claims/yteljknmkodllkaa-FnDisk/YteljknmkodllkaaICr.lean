import Derived.Test.YteljknmkodllkaaIBase
namespace Go.Proofs.Yteljknmkodllkaa
open Go.ChangeShapes Go.WideShapes Go.ChangeAt Go.RowKit
set_option linter.unusedVariables false
set_option linter.unusedSimpArgs false

/-- how many bytes a crash that keeps k leaves of n bytes, s of them safe -/
def kept (n s k : Nat) : Nat := s + min k (n - s)

theorem Rd.take {w : World} {p : Option Addr} {c : Nat} {l : List Int} (h : Rd w (.slice p l.length c) l) (m : Nat) (hm : m ≤ l.length) : Rd w (.slice p m c) (l.take m) := by
  have e : (l.take m).length = m := by simp; omega
  obtain ⟨q, d, e1, h⟩ := h
  simp only [Value.slice.injEq] at e1
  obtain ⟨rfl, -, rfl⟩ := e1
  refine ⟨p, c, by rw [e], ?_⟩
  rcases h with rfl | ⟨b, o, rfl, hc⟩
  · left; simp
  · right
    refine ⟨b, o, rfl, fun i hi => ?_⟩
    rw [e] at hi
    rw [hc i (by omega)]
    simp [List.getD, List.getElem?_take, hi]

set_option maxHeartbeats 800000 in
theorem crashed_any (p : Option Addr) (c : Nat) (s : Nat) (k : Int) (l : List Int) (w : World) (hs : s ≤ l.length) (hl : l.length ≤ 200000) (hc : l.length ≤ c) (hk : 0 ≤ k) :
    Calls Try.prog 51 #[fileV (.slice p l.length c) s, .int .i64 k] w fun e w' => e = .returned (fileV (.slice p (kept l.length s k.toNat) c) (kept l.length s k.toNat)) ∧ Below w.heap.size w w' := by
  have fin : ∀ m : Nat, m = kept l.length s k.toNat → Calls Try.prog 50 #[fileV (.slice p m c) 0] ((w.alloc (.cells #[.slice p l.length c, .int .i64 s] 29)).alloc (.cells #[.slice none 0 0, .int .i64 0] 29)) fun e w' => e = .returned (fileV (.slice p (kept l.length s k.toNat) c) (kept l.length s k.toNat)) ∧ Below (w.heap.size + 2) ((w.alloc (.cells #[.slice p l.length c, .int .i64 s] 29)).alloc (.cells #[.slice none 0 0, .int .i64 0] 29)) w' := by
    intro m em
    subst em
    refine (allSafe_any p _ c 0 _).mono ?_
    rintro e w' ⟨rfl, hb⟩
    exact ⟨rfl, by simpa using hb⟩
  have FIN := hide fin
  clear fin
  have em1 : k ≤ (l.length : Int) - s → (↑s + k).toNat = kept l.length s k.toNat := by intro h; unfold kept; omega
  have em2 : ¬ k ≤ (l.length : Int) - s → l.length = kept l.length s k.toNat := by intro h; unfold kept; omega
  generalize kept l.length s k.toNat = M at *
  by_cases h : k ≤ (l.length : Int) - s
  · have E := hide (em1 h)
    clear em1 em2
    go_enter Try.func51, Try.ntmps51
    go_wp2_with fail
    refine (unhide FIN _ (unhide E)).mono ?_
    rintro e w1 ⟨rfl, hb1⟩
    have b1 : Below w.heap.size w w1 := (((Below.refl _ _).alloc (Nat.le_refl _) _).alloc (by simp) _).trans (hb1.mono (by omega))
    obtain ⟨hc1, hf1⟩ := bcell (W := ((w.alloc (.cells #[.slice p l.length c, .int .i64 s] 29)).alloc (.cells #[.slice none 0 0, .int .i64 0] 29))) (by simpa using hb1)
    clear hb1
    go_wp2
    refine bodyPost_ret (v := fileV (.slice p M c) M) (by simp [results, Try.results51, go_sem, hc1]) rfl ⟨rfl, ?_⟩
    repeat (refine Below.setCell ?_ (by simp) _)
    exact b1
  · have E := hide (em2 h)
    clear em1 em2
    have hlt : (l.length : Int) - s < k := by omega
    have hz : ((s : Int) + ((l.length : Int) - s)) = l.length := by omega
    go_enter Try.func51, Try.ntmps51
    go_wp2_with fail
    refine (unhide FIN _ (unhide E)).mono ?_
    rintro e w1 ⟨rfl, hb1⟩
    have b1 : Below w.heap.size w w1 := (((Below.refl _ _).alloc (Nat.le_refl _) _).alloc (by simp) _).trans (hb1.mono (by omega))
    obtain ⟨hc1, hf1⟩ := bcell (W := ((w.alloc (.cells #[.slice p l.length c, .int .i64 s] 29)).alloc (.cells #[.slice none 0 0, .int .i64 0] 29))) (by simpa using hb1)
    clear hb1
    go_wp2
    refine bodyPost_ret (v := fileV (.slice p M c) M) (by simp [results, Try.results51, go_sem, hc1]) rfl ⟨rfl, ?_⟩
    repeat (refine Below.setCell ?_ (by simp) _)
    exact b1
theorem take_len (l : List Int) (m : Nat) (h : m ≤ l.length) : (l.take m).length = m := by simp; omega
theorem kept_le (n s k : Nat) (h : s ≤ n) : kept n s k ≤ n := by unfold kept; omega

set_option maxHeartbeats 2000000 in
theorem implCrash0 (p0 p1 p2 : Option Addr) (c0 c1 c2 s0 s1 s2 : Nat) (l0 l1 l2 : List Int) (f : Int) (w : World) (h0 : Rd w (.slice p0 l0.length c0) l0) (h1 : Rd w (.slice p1 l1.length c1) l1) (h2 : Rd w (.slice p2 l2.length c2) l2) (hd : Hid (dok l0.length s0 l1.length s1 l2.length s2 = true)) (hf : 0 ≤ f) (g0 : l0.length ≤ c0) (g1 : l1.length ≤ c1) (g2 : l2.length ≤ c2) (t0 : s0 ≤ l0.length) (t1 : s1 ≤ l1.length) (t2 : s2 ≤ l2.length) (hs : l0.length ≤ 200000) (hs1 : l1.length ≤ 200000) (hs2 : l2.length ≤ 200000)
    (L0 L1 L2 : List Int) (e0 : L0 = l0.take (kept l0.length s0 f.toNat)) (e1 : L1 = l1.take (kept l1.length s1 f.toNat)) (e2 : L2 = l2.take (kept l2.length s2 f.toNat)) :
    Calls Try.prog 19 #[diskV (.slice p0 l0.length c0) s0 (.slice p1 l1.length c1) s1 (.slice p2 l2.length c2) s2, .int .i64 f] w (DiskRes w L0 L1 L2 L0.length L1.length L2.length 0) := by
  have i0 : ∀ w : World, (Instr.index 52 (.agg #[.slice p0 l0.length c0, .int .i64 s0, .slice p1 l1.length c1, .int .i64 s1, .slice p2 l2.length c2, .int .i64 s2]) (.int .i64 0)).run Try.prog w = .ok (fileV (.slice p0 l0.length c0) s0) w := fun _ => by kernel_rfl
  have i1 : ∀ w : World, (Instr.index 52 (.agg #[.slice p0 l0.length c0, .int .i64 s0, .slice p1 l1.length c1, .int .i64 s1, .slice p2 l2.length c2, .int .i64 s2]) (.int .i64 1)).run Try.prog w = .ok (fileV (.slice p1 l1.length c1) s1) w := fun _ => by kernel_rfl
  have i2 : ∀ w : World, (Instr.index 52 (.agg #[.slice p0 l0.length c0, .int .i64 s0, .slice p1 l1.length c1, .int .i64 s1, .slice p2 l2.length c2, .int .i64 s2]) (.int .i64 2)).run Try.prog w = .ok (fileV (.slice p2 l2.length c2) s2) w := fun _ => by kernel_rfl
  have k0 := kept_le l0.length s0 f.toNat t0
  have Y0 := fun w => crashed_any p0 c0 s0 f l0 w t0 (by omega) g0 hf
  have r0 : L0.length = kept l0.length s0 f.toNat := by rw [e0]; exact take_len _ _ k0
  have V0 : Rd w (.slice p0 (kept l0.length s0 f.toNat) c0) L0 := by rw [e0]; exact h0.take _ k0
  simp only [← r0] at Y0 V0
  have k1 := kept_le l1.length s1 f.toNat t1
  have Y1 := fun w => crashed_any p1 c1 s1 f l1 w t1 (by omega) g1 hf
  have r1 : L1.length = kept l1.length s1 f.toNat := by rw [e1]; exact take_len _ _ k1
  have V1 : Rd w (.slice p1 (kept l1.length s1 f.toNat) c1) L1 := by rw [e1]; exact h1.take _ k1
  simp only [← r1] at Y1 V1
  have k2 := kept_le l2.length s2 f.toNat t2
  have Y2 := fun w => crashed_any p2 c2 s2 f l2 w t2 (by omega) g2 hf
  have r2 : L2.length = kept l2.length s2 f.toNat := by rw [e2]; exact take_len _ _ k2
  have V2 : Rd w (.slice p2 (kept l2.length s2 f.toNat) c2) L2 := by rw [e2]; exact h2.take _ k2
  simp only [← r2] at Y2 V2
  have Z0 := hide Y0
  have Z1 := hide Y1
  have Z2 := hide Y2
  rw [← r0] at k0
  rw [← r1] at k1
  rw [← r2] at k2
  clear e0 e1 e2 r0 r1 r2 Y0 Y1 Y2
  generalize hM0 : L0.length = M0 at *
  generalize hM1 : L1.length = M1 at *
  generalize hM2 : L2.length = M2 at *
  have HM0 := hide hM0
  have HM1 := hide hM1
  have HM2 := hide hM2
  have q0 : M0 ≤ l0.length := k0
  have q1 : M1 ≤ l1.length := k1
  have q2 : M2 ≤ l2.length := k2
  clear hM0 hM1 hM2
  go_enter Try.func19, Try.ntmps19
  go_wp2_with fail
  refine (filesOf_any _ _ _ (s0 : Int) (s1 : Int) (s2 : Int) p0 p1 p2 _ c0 _ c1 _ c2 rfl rfl rfl _).mono ?_
  rintro e w1 ⟨rfl, hb1⟩
  have b1 : Below w.heap.size w w1 := (((Below.refl _ _).alloc (Nat.le_refl _) _).alloc (by simp) _).trans (hb1.mono (by simp; omega))
  have z1 : w.heap.size + 1 < w1.heap.size := by have := hb1.size; simp at this; omega
  have R1 : At6 w1 (w.heap.size + 1) (.slice none 0 0) (.int .i64 0) (.slice none 0 0) (.int .i64 0) (.slice none 0 0) (.int .i64 0) := At6.below (by simp [At6]) hb1
  have F1 := frozen_below (b := w.heap.size + 1) (by intro o; simp) hb1 (by simp)
  clear hb1
  have e0 := V0.below b1
  have e1 := V1.below b1
  have e2 := V2.below b1
  clear h0 h1 h2 V0 V1 V2
  go_wp2_with fail
  refine (filesValid_any p0 p1 p2 _ c0 _ c1 _ c2 (s0 : Int) (s1 : Int) (s2 : Int) _ (by omega) (by omega) (by omega)).mono ?_
  rintro e w2 ⟨rfl, hb2⟩
  rw [unhide hd]
  have K2 : At6 w2 w1.heap.size (.slice p0 l0.length c0) (.int .i64 s0) (.slice p1 l1.length c1) (.int .i64 s1) (.slice p2 l2.length c2) (.int .i64 s2) := At6.below (by simp [At6]) hb2
  have G2 := frozen_below (b := w1.heap.size) (by intro o; simp) hb2 (by simp)
  have b2 : Below w1.heap.size w1 w2 := ((Below.refl _ _).alloc (Nat.le_refl _) _).trans (hb2.mono (by simp))
  have z2 : w1.heap.size < w2.heap.size := by have := hb2.size; simp at this; omega
  clear hb2
  have hnf : ¬ f < 0 := by omega
  go_wp2
  go_loopw [20] (fun i wr => Below w1.heap.size w1 wr ∧ (∀ o, wr.frozen? ⟨w1.heap.size, o, none⟩ = false) ∧ w1.heap.size < wr.heap.size ∧ ((i = .int .i64 0 ∧ At6 wr w1.heap.size (.slice p0 l0.length c0) (.int .i64 s0) (.slice p1 l1.length c1) (.int .i64 s1) (.slice p2 l2.length c2) (.int .i64 s2)) ∨ (i = .int .i64 1 ∧ At6 wr w1.heap.size (.slice p0 M0 c0) (.int .i64 M0) (.slice p1 l1.length c1) (.int .i64 s1) (.slice p2 l2.length c2) (.int .i64 s2)) ∨ (i = .int .i64 2 ∧ At6 wr w1.heap.size (.slice p0 M0 c0) (.int .i64 M0) (.slice p1 M1 c1) (.int .i64 M1) (.slice p2 l2.length c2) (.int .i64 s2)) ∨ (i = .int .i64 3 ∧ At6 wr w1.heap.size (.slice p0 M0 c0) (.int .i64 M0) (.slice p1 M1 c1) (.int .i64 M1) (.slice p2 M2 c2) (.int .i64 M2)))) (fun i _ => 3 - (intOf i).toNat)
  case atStart => exact ⟨b2, G2, z2, .inl ⟨rfl, K2⟩⟩
  case round =>
    obtain ⟨hbr, hfr, hzr, ⟨rfl, Kr⟩ | ⟨rfl, Kr⟩ | ⟨rfl, Kr⟩ | ⟨rfl, Kr⟩⟩ := hrel
    · have KA := Kr.below ((Below.refl _ _).alloc (Nat.le_refl _) (.cells #[.slice p0 l0.length c0, .int .i64 s0] 29))
      go_wp2_with fail
      refine (unhide Z0 _).mono ?_
      rintro e w3 ⟨rfl, hb3⟩
      have b3 := (hbr.alloc hbr.size (.cells #[.slice p0 l0.length c0, .int .i64 s0] 29)).trans (hb3.mono (by first | omega | (simp; omega)))
      have K3 := KA.below hb3
      have G3 := frozen_below (b := w1.heap.size) (frozen_below hfr ((Below.refl _ _).alloc (Nat.le_refl _) (.cells #[.slice p0 l0.length c0, .int .i64 s0] 29)) hzr) hb3 (by simp; omega)
      have z3 : w1.heap.size < w3.heap.size := by have := hb3.size; simp at this; omega
      have b4 := (b3.setCell (p := ⟨w1.heap.size, 0, none⟩) (Nat.le_refl _) (.slice p0 M0 c0)).setCell (p := ⟨w1.heap.size, 1, none⟩) (Nat.le_refl _) (.int .i64 M0)
      have KN : At6 ((w3.setCell ⟨w1.heap.size, 0, none⟩ (.slice p0 M0 c0)).setCell ⟨w1.heap.size, 1, none⟩ (.int .i64 M0)) w1.heap.size (.slice p0 M0 c0) (.int .i64 M0) (.slice p1 l1.length c1) (.int .i64 s1) (.slice p2 l2.length c2) (.int .i64 s2) := by
        obtain ⟨ka, kb, kc, kd, ke, kf⟩ := K3
        refine ⟨?_, ?_, ?_, ?_, ?_, ?_⟩ <;> simp [go_sem, ka, kb, kc, kd, ke, kf]
      have GN : ∀ o, ((w3.setCell ⟨w1.heap.size, 0, none⟩ (.slice p0 M0 c0)).setCell ⟨w1.heap.size, 1, none⟩ (.int .i64 M0)).frozen? ⟨w1.heap.size, o, none⟩ = false := by intro o; simp [G3]
      clear hb3 KA Kr hfr hbr
      go_wp2
      go_roundw
      case rel => exact ⟨b4, GN, by first | omega | (simp; omega), .inr (.inl ⟨rfl, KN⟩)⟩
      case measure => simp [intOf]
    · have KA := Kr.below ((Below.refl _ _).alloc (Nat.le_refl _) (.cells #[.slice p1 l1.length c1, .int .i64 s1] 29))
      go_wp2_with fail
      refine (unhide Z1 _).mono ?_
      rintro e w3 ⟨rfl, hb3⟩
      have b3 := (hbr.alloc hbr.size (.cells #[.slice p1 l1.length c1, .int .i64 s1] 29)).trans (hb3.mono (by first | omega | (simp; omega)))
      have K3 := KA.below hb3
      have G3 := frozen_below (b := w1.heap.size) (frozen_below hfr ((Below.refl _ _).alloc (Nat.le_refl _) (.cells #[.slice p1 l1.length c1, .int .i64 s1] 29)) hzr) hb3 (by simp; omega)
      have z3 : w1.heap.size < w3.heap.size := by have := hb3.size; simp at this; omega
      have b4 := (b3.setCell (p := ⟨w1.heap.size, 2, none⟩) (Nat.le_refl _) (.slice p1 M1 c1)).setCell (p := ⟨w1.heap.size, 3, none⟩) (Nat.le_refl _) (.int .i64 M1)
      have KN : At6 ((w3.setCell ⟨w1.heap.size, 2, none⟩ (.slice p1 M1 c1)).setCell ⟨w1.heap.size, 3, none⟩ (.int .i64 M1)) w1.heap.size (.slice p0 M0 c0) (.int .i64 M0) (.slice p1 M1 c1) (.int .i64 M1) (.slice p2 l2.length c2) (.int .i64 s2) := by
        obtain ⟨ka, kb, kc, kd, ke, kf⟩ := K3
        refine ⟨?_, ?_, ?_, ?_, ?_, ?_⟩ <;> simp [go_sem, ka, kb, kc, kd, ke, kf]
      have GN : ∀ o, ((w3.setCell ⟨w1.heap.size, 2, none⟩ (.slice p1 M1 c1)).setCell ⟨w1.heap.size, 3, none⟩ (.int .i64 M1)).frozen? ⟨w1.heap.size, o, none⟩ = false := by intro o; simp [G3]
      clear hb3 KA Kr hfr hbr
      go_wp2
      go_roundw
      case rel => exact ⟨b4, GN, by first | omega | (simp; omega), .inr (.inr (.inl ⟨rfl, KN⟩))⟩
      case measure => simp [intOf]
    · have KA := Kr.below ((Below.refl _ _).alloc (Nat.le_refl _) (.cells #[.slice p2 l2.length c2, .int .i64 s2] 29))
      go_wp2_with fail
      refine (unhide Z2 _).mono ?_
      rintro e w3 ⟨rfl, hb3⟩
      have b3 := (hbr.alloc hbr.size (.cells #[.slice p2 l2.length c2, .int .i64 s2] 29)).trans (hb3.mono (by first | omega | (simp; omega)))
      have K3 := KA.below hb3
      have G3 := frozen_below (b := w1.heap.size) (frozen_below hfr ((Below.refl _ _).alloc (Nat.le_refl _) (.cells #[.slice p2 l2.length c2, .int .i64 s2] 29)) hzr) hb3 (by simp; omega)
      have z3 : w1.heap.size < w3.heap.size := by have := hb3.size; simp at this; omega
      have b4 := (b3.setCell (p := ⟨w1.heap.size, 4, none⟩) (Nat.le_refl _) (.slice p2 M2 c2)).setCell (p := ⟨w1.heap.size, 5, none⟩) (Nat.le_refl _) (.int .i64 M2)
      have KN : At6 ((w3.setCell ⟨w1.heap.size, 4, none⟩ (.slice p2 M2 c2)).setCell ⟨w1.heap.size, 5, none⟩ (.int .i64 M2)) w1.heap.size (.slice p0 M0 c0) (.int .i64 M0) (.slice p1 M1 c1) (.int .i64 M1) (.slice p2 M2 c2) (.int .i64 M2) := by
        obtain ⟨ka, kb, kc, kd, ke, kf⟩ := K3
        refine ⟨?_, ?_, ?_, ?_, ?_, ?_⟩ <;> simp [go_sem, ka, kb, kc, kd, ke, kf]
      have GN : ∀ o, ((w3.setCell ⟨w1.heap.size, 4, none⟩ (.slice p2 M2 c2)).setCell ⟨w1.heap.size, 5, none⟩ (.int .i64 M2)).frozen? ⟨w1.heap.size, o, none⟩ = false := by intro o; simp [G3]
      clear hb3 KA Kr hfr hbr
      go_wp2
      go_roundw
      case rel => exact ⟨b4, GN, by first | omega | (simp; omega), .inr (.inr (.inr ⟨rfl, KN⟩))⟩
      case measure => simp [intOf]
    · have R4 := R1.below hbr
      have F4 := frozen_below F1 hbr z1
      go_wp2_with fail
      have d0 := e0.below hbr
      have d1 := e1.below hbr
      have d2 := e2.below hbr
      rw [← unhide HM0] at d0
      rw [← unhide HM1] at d1
      rw [← unhide HM2] at d2
      have FD := filesDisk_any p0 p1 p2 c0 c1 c2 L0.length L1.length L2.length L0 L1 L2 wr d0 d1 d2 (by have := unhide HM0; omega) (by have := unhide HM1; omega) (by have := unhide HM2; omega)
      rw [unhide HM0, unhide HM1, unhide HM2] at FD
      refine FD.mono ?_
      rintro e w6 ⟨q0, d0, q1, d1, q2, d2, rfl, o6, hb6⟩
      have bb : Below w.heap.size w w6 := Below.step b1 (Below.step hbr hb6)
      obtain ⟨ra, rb, rc, rd, re, rf⟩ := R4.below hb6
      have F6 := frozen_below F4 hb6 (by omega)
      have oo := o6
      clear R1 R4 F1 F4 Kr hfr hbr b2 G2 K2 hb6 o6 FD
      go_wp2
      refine bodyPost_ret (v := .tuple #[diskV (.slice q0 M0 d0) M0 (.slice q1 M1 d1) M1 (.slice q2 M2 d2) M2, .int .i64 0]) (by simp [results, Try.results19, go_sem, ra, rb, rc, rd, re, rf]) rfl ⟨q0, d0, q1, d1, q2, d2, by rw [unhide HM0, unhide HM1, unhide HM2], ?_, ?_⟩
      · refine Own3.mono (B := wr.heap.size) ?_ (by omega)
        repeat (refine Own3.set ?_ (by simp; omega) _)
        rw [unhide HM0, unhide HM1, unhide HM2]
        exact oo
      · repeat (refine Below.setCell ?_ (by simp) _)
        exact bb

set_option maxHeartbeats 1000000 in
theorem implCrashBadA (p0 p1 p2 : Option Addr) (c0 c1 c2 : Nat) (n0 n1 n2 : Int) (l0 l1 l2 : List Int) (f : Int) (w : World) (h0 : Rd w (.slice p0 l0.length c0) l0) (h1 : Rd w (.slice p1 l1.length c1) l1) (h2 : Rd w (.slice p2 l2.length c2) l2) (hd : Hid (dok l0.length n0 l1.length n1 l2.length n2 = false)) (hs : l0.length ≤ 2097152) (hs1 : l1.length ≤ 2097152) (hs2 : l2.length ≤ 2097152) :
    Calls Try.prog 19 #[diskV (.slice p0 l0.length c0) n0 (.slice p1 l1.length c1) n1 (.slice p2 l2.length c2) n2, .int .i64 f] w (DiskRes w ([]) ([]) ([]) (0) (0) (0) 1) := by
  go_enter Try.func19, Try.ntmps19
  go_wp2_with fail
  refine (filesOf_any _ _ _ n0 n1 n2 p0 p1 p2 _ c0 _ c1 _ c2 rfl rfl rfl _).mono ?_
  rintro e w1 ⟨rfl, hb1⟩
  have b1 : Below w.heap.size w w1 := (((Below.refl _ _).alloc (Nat.le_refl _) _).alloc (by simp) _).trans (hb1.mono (by simp; omega))
  have z1 : w.heap.size + 1 < w1.heap.size := by have := hb1.size; simp at this; omega
  have R1 : At6 w1 (w.heap.size + 1) (.slice none 0 0) (.int .i64 0) (.slice none 0 0) (.int .i64 0) (.slice none 0 0) (.int .i64 0) := At6.below (by simp [At6]) hb1
  have F1 := frozen_below (b := w.heap.size + 1) (by intro o; simp) hb1 (by simp)
  clear hb1
  have e0 := h0.below b1
  have e1 := h1.below b1
  have e2 := h2.below b1
  clear h0 h1 h2
  go_wp2_with fail
  refine (filesValid_any p0 p1 p2 _ c0 _ c1 _ c2 n0 n1 n2 _ (by omega) (by omega) (by omega)).mono ?_
  rintro e w2 ⟨rfl, hb2⟩
  rw [unhide hd]
  have K2 : At6 w2 w1.heap.size (.slice p0 l0.length c0) (.int .i64 n0) (.slice p1 l1.length c1) (.int .i64 n1) (.slice p2 l2.length c2) (.int .i64 n2) := At6.below (by simp [At6]) hb2
  have G2 := frozen_below (b := w1.heap.size) (by intro o; simp) hb2 (by simp)
  have b2 : Below w1.heap.size w1 w2 := ((Below.refl _ _).alloc (Nat.le_refl _) _).trans (hb2.mono (by simp))
  have z2 : w1.heap.size < w2.heap.size := by have := hb2.size; simp at this; omega
  clear hb2
  have R2b := R1.below b2
  obtain ⟨ra, rb, rc, rd, re, rf⟩ := R2b
  have F6 := frozen_below F1 b2 z1
  have bb : Below w.heap.size w w2 := Below.step b1 b2
  clear R1 F1 K2 G2 b2 e0 e1 e2
  go_wp2
  refine bodyPost_ret (v := .tuple #[zDisk, .int .i64 1]) (by simp [results, Try.results19, go_sem, ra, rb, rc, rd, re, rf]) rfl ⟨none, 0, none, 0, none, 0, rfl, Own3.nil _ _, ?_⟩
  · repeat (refine Below.setCell ?_ (by simp) _)
    exact bb

set_option maxHeartbeats 1000000 in
theorem implCrashBadB (p0 p1 p2 : Option Addr) (c0 c1 c2 : Nat) (n0 n1 n2 : Int) (l0 l1 l2 : List Int) (f : Int) (w : World) (h0 : Rd w (.slice p0 l0.length c0) l0) (h1 : Rd w (.slice p1 l1.length c1) l1) (h2 : Rd w (.slice p2 l2.length c2) l2) (hd : Hid (dok l0.length n0 l1.length n1 l2.length n2 = true)) (hf : f < 0) (hs : l0.length ≤ 2097152) (hs1 : l1.length ≤ 2097152) (hs2 : l2.length ≤ 2097152) :
    Calls Try.prog 19 #[diskV (.slice p0 l0.length c0) n0 (.slice p1 l1.length c1) n1 (.slice p2 l2.length c2) n2, .int .i64 f] w (DiskRes w ([]) ([]) ([]) (0) (0) (0) 1) := by
  go_enter Try.func19, Try.ntmps19
  go_wp2_with fail
  refine (filesOf_any _ _ _ n0 n1 n2 p0 p1 p2 _ c0 _ c1 _ c2 rfl rfl rfl _).mono ?_
  rintro e w1 ⟨rfl, hb1⟩
  have b1 : Below w.heap.size w w1 := (((Below.refl _ _).alloc (Nat.le_refl _) _).alloc (by simp) _).trans (hb1.mono (by simp; omega))
  have z1 : w.heap.size + 1 < w1.heap.size := by have := hb1.size; simp at this; omega
  have R1 : At6 w1 (w.heap.size + 1) (.slice none 0 0) (.int .i64 0) (.slice none 0 0) (.int .i64 0) (.slice none 0 0) (.int .i64 0) := At6.below (by simp [At6]) hb1
  have F1 := frozen_below (b := w.heap.size + 1) (by intro o; simp) hb1 (by simp)
  clear hb1
  have e0 := h0.below b1
  have e1 := h1.below b1
  have e2 := h2.below b1
  clear h0 h1 h2
  go_wp2_with fail
  refine (filesValid_any p0 p1 p2 _ c0 _ c1 _ c2 n0 n1 n2 _ (by omega) (by omega) (by omega)).mono ?_
  rintro e w2 ⟨rfl, hb2⟩
  rw [unhide hd]
  have K2 : At6 w2 w1.heap.size (.slice p0 l0.length c0) (.int .i64 n0) (.slice p1 l1.length c1) (.int .i64 n1) (.slice p2 l2.length c2) (.int .i64 n2) := At6.below (by simp [At6]) hb2
  have G2 := frozen_below (b := w1.heap.size) (by intro o; simp) hb2 (by simp)
  have b2 : Below w1.heap.size w1 w2 := ((Below.refl _ _).alloc (Nat.le_refl _) _).trans (hb2.mono (by simp))
  have z2 : w1.heap.size < w2.heap.size := by have := hb2.size; simp at this; omega
  clear hb2
  have R2b := R1.below b2
  obtain ⟨ra, rb, rc, rd, re, rf⟩ := R2b
  have F6 := frozen_below F1 b2 z1
  have bb : Below w.heap.size w w2 := Below.step b1 b2
  clear R1 F1 K2 G2 b2 e0 e1 e2
  go_wp2
  refine bodyPost_ret (v := .tuple #[zDisk, .int .i64 1]) (by simp [results, Try.results19, go_sem, ra, rb, rc, rd, re, rf]) rfl ⟨none, 0, none, 0, none, 0, rfl, Own3.nil _ _, ?_⟩
  · repeat (refine Below.setCell ?_ (by simp) _)
    exact bb
end Go.Proofs.Yteljknmkodllkaa
