import Derived.Test.YteljknmkodllkaaDf
namespace Go.Proofs.Yteljknmkodllkaa
open Go.ChangeShapes Go.WideShapes Go.ChangeAt Go.RowKit
set_option linter.unusedVariables false
set_option linter.unusedSimpArgs false

theorem frozen_kept2 {vs : List Value} {w w' : World} {b : Nat} (h : ∀ o, w.frozen? ⟨b, o, none⟩ = false) (hk : Kept vs w w') (hb : b < w.heap.size) (hv : ∀ v ∈ vs, v.ownBlock ≠ some b) : ∀ o, w'.frozen? ⟨b, o, none⟩ = false :=
  fun o => (World.frozen?_of_block (hk.block b hb hv)).trans (h o)

/-- a reader, over worlds that keep what lay below n but for the reader's block -/
theorem Kept.then_below {g : Nat} {w w1 Z : World} (hk : Kept [blk g] w w1) (hb : Below w.heap.size w1 Z) : Kept [blk g] w Z :=
  ⟨hb.os.trans hk.os, hb.tape.trans hk.tape, hb.output.trans hk.output, Nat.le_trans hk.size hb.size, fun k h1 h2 => (hb.block k h1).trans (hk.block k h1 h2)⟩

/-- what l1drawFile draws behind t calls of next: the bytes l, the number n; t' calls are behind it then -/
def DF (cd : List Int) (t : Nat) (l : List Int) (n : Int) (t' : Nat) : Prop :=
  ∀ g p c w, Rdr w g p cd c t → Calls Try.prog 62 #[.pointer (some ⟨g, 0, none⟩)] w fun e w' => ∃ p' c', e = .returned (fileV (.slice p' l.length c') n) ∧ Own w.heap.size w' (.slice p' l.length c') l ∧ Rdr w' g p cd c t' ∧ Kept [blk g] w w'
def DN (cd : List Int) (t : Nat) (x : Int) (t' : Nat) : Prop :=
  ∀ g p c w, Rdr w g p cd c t → Calls Try.prog 42 #[.pointer (some ⟨g, 0, none⟩)] w fun e w' => e = .returned (.int .i64 x) ∧ Rdr w' g p cd c t' ∧ Kept [blk g] w w'
/-- likewise l1drawDisk -/
def DD (cd : List Int) (t : Nat) (l0 l1 l2 : List Int) (n0 n1 n2 : Int) (t' : Nat) : Prop :=
  ∀ g p c w, Rdr w g p cd c t → Calls Try.prog 44 #[.pointer (some ⟨g, 0, none⟩)] w fun e w' => ∃ q0 d0 q1 d1 q2 d2, e = .returned (diskV (.slice q0 l0.length d0) n0 (.slice q1 l1.length d1) n1 (.slice q2 l2.length d2) n2) ∧
    Own3 w.heap.size w' (.slice q0 l0.length d0) (.slice q1 l1.length d1) (.slice q2 l2.length d2) l0 l1 l2 ∧ Rdr w' g p cd c t' ∧ Kept [blk g] w w'

theorem drawFile_det (cd : List Int) (t : Nat) (hb : ∀ z ∈ cd, 0 ≤ z ∧ z < 256) (hl : cd.length ≤ 500) : ∃ l n t', l.length ≤ 13 ∧ DF cd t l n t' :=
  ⟨_, _, _, dB_le cd t, fun g p c w h => drawFile_any g p cd c t w h hb hl⟩
theorem next_det (cd : List Int) (t : Nat) (hb : ∀ z ∈ cd, 0 ≤ z ∧ z < 256) (hl : cd.length ≤ 500) : ∃ x, (0 ≤ x ∧ x < 256) ∧ DN cd t x (t + 1) :=
  ⟨_, getD_range cd hb t, fun g p c w h => next_any g p cd c t w h hb hl⟩

set_option maxHeartbeats 4000000 in
theorem drawDisk_small (cd : List Int) (t t1 t2 t3 : Nat) (l0 l1 l2 : List Int) (n0 n1 n2 x : Int) (m0 : l0.length ≤ 13) (m1 : l1.length ≤ 13) (m2 : l2.length ≤ 13) (D0 : Hid (DF cd t l0 n0 t1)) (D1 : Hid (DF cd t1 l1 n1 t2)) (D2 : Hid (DF cd t2 l2 n2 t3)) (NX : Hid (DN cd t3 x (t3 + 1))) (hx : 0 ≤ x ∧ x < 256) (hk : ¬ 252 < x) :
    DD cd t l0 l1 l2 n0 n1 n2 (t3 + 1) := by
  intro g p c w h
  have hg := h.lt
  have b0 : ∀ o : Obj, Below w.heap.size w (w.alloc o) := fun o => (Below.refl _ _).alloc (Nat.le_refl _) _
  have nb : ∀ b, w.heap.size ≤ b → ∀ v ∈ [blk g], v.ownBlock ≠ some b := by intro b hb v hv; simp only [List.mem_singleton] at hv; subst hv; simp [blk_own]; omega
  have H := hide h
  go_enter Try.func44, Try.ntmps44
  go_wp2_with fail
  refine (unhide D0 g p c _ (h.below (b0 _))).mono ?_
  rintro e w1 ⟨q0, d0, rfl, o0, h1, k1⟩
  have K1 : Kept [blk g] w w1 := (Kept.of_below (b0 _)).trans k1
  have z1 : w.heap.size < w1.heap.size := by have := k1.size; simp at this; omega
  have R1 : At6 w1 w.heap.size (.slice none 0 0) (.int .i64 0) (.slice none 0 0) (.int .i64 0) (.slice none 0 0) (.int .i64 0) := At6.kept (by simp [At6]) k1 (by simp) (nb _ (Nat.le_refl _))
  have F1 := frozen_kept2 (b := w.heap.size) (by intro o; simp) k1 (by simp) (nb _ (Nat.le_refl _))
  replace o0 : Own (w.heap.size + 1) w1 (.slice q0 l0.length d0) l0 := by simpa using o0
  have ne0 : (Value.slice q0 l0.length d0).ownBlock ≠ some w1.heap.size := fun e => by have := (o0.lt _ e).2; omega
  have ba1 : ∀ o : Obj, Below w1.heap.size w1 (w1.alloc o) := fun o => (Below.refl _ _).alloc (Nat.le_refl _) _
  clear k1 h
  go_wp2_with fail
  refine (unhide D1 g p c _ (h1.below (ba1 _))).mono ?_
  rintro e w2 ⟨q1, d1, rfl, o1, h2, k2⟩
  have z2 : w1.heap.size < w2.heap.size := by have := k2.size; simp at this; omega
  have z2' : w.heap.size < w2.heap.size := by omega
  have E2 : At6 w2 w1.heap.size (.slice q0 l0.length d0) (.int .i64 n0) (.slice none 0 0) (.int .i64 0) (.slice none 0 0) (.int .i64 0) := At6.kept (by simp [At6]) k2 (by simp) (nb _ (by omega))
  have G2 := frozen_kept2 (b := w1.heap.size) (by intro o; simp) k2 (by simp) (nb _ (by omega))
  have R2 := (R1.below (ba1 _)).kept k2 (by simp; omega) (nb _ (Nat.le_refl _))
  have F2 := frozen_kept2 (frozen_below F1 (ba1 _) z1) k2 (by simp; omega) (nb _ (Nat.le_refl _))
  have K2 : Kept [blk g] w w2 := (K1.alloc _).trans k2
  have p0 : Own (w.heap.size + 1) w2 (.slice q0 l0.length d0) l0 := Own.keptBlk (Own.below o0 (ba1 _)) k2 (by omega)
  replace o1 : Own (w1.heap.size + 1) w2 (.slice q1 l1.length d1) l1 := by simpa using o1
  obtain ⟨W2, hW2⟩ : ∃ W2, W2 = (w2.setCell ⟨w1.heap.size, 2, none⟩ (.slice q1 l1.length d1)).setCell ⟨w1.heap.size, 3, none⟩ (.int .i64 n1) := ⟨_, rfl⟩
  have E3 : At6 W2 w1.heap.size (.slice q0 l0.length d0) (.int .i64 n0) (.slice q1 l1.length d1) (.int .i64 n1) (.slice none 0 0) (.int .i64 0) := by
    rw [hW2]; obtain ⟨ka, kb, kc, kd, ke, kf⟩ := E2
    refine ⟨?_, ?_, ?_, ?_, ?_, ?_⟩ <;> simp [go_sem, ka, kb, kc, kd, ke, kf]
  have bW2 : Below w1.heap.size w2 W2 := by rw [hW2]; exact ((Below.refl _ _).setCell (by simp) _).setCell (by simp) _
  have sW2 : W2.heap.size = w2.heap.size := by rw [hW2]; simp
  have G3 : ∀ o, W2.frozen? ⟨w1.heap.size, o, none⟩ = false := by intro o; rw [hW2]; simp [G2]
  have R3 : At6 W2 w.heap.size (.slice none 0 0) (.int .i64 0) (.slice none 0 0) (.int .i64 0) (.slice none 0 0) (.int .i64 0) := by rw [hW2]; exact (R2.setOther (by simp; omega) _).setOther (by simp; omega) _
  have F3 : ∀ o, W2.frozen? ⟨w.heap.size, o, none⟩ = false := by intro o; rw [hW2]; simp [F2]
  have p3 : Own (w.heap.size + 1) W2 (.slice q0 l0.length d0) l0 := by rw [hW2]; exact (p0.setNo ne0 _).setNo ne0 _
  have o3 : Own (w1.heap.size + 1) W2 (.slice q1 l1.length d1) l1 := by rw [hW2]; exact (o1.set (by simp) _).set (by simp) _
  have K3 : Kept [blk g] w W2 := K2.then_below (bW2.mono (by omega))
  have h3 : Rdr W2 g p cd c t2 := (unhide H).again K3 h2 (bW2.block g (by omega))
  go_wp2_with fail
  rw [← hW2]
  clear hW2 k2 E2 G2 R1 R2 F1 F2 K1 K2 h1 h2 p0
  refine (unhide D2 g p c _ h3).mono ?_
  rintro e w3 ⟨q2, d2, rfl, o2, h4, k3⟩
  have s3 := k3.size
  have z3 : w1.heap.size < w3.heap.size := by omega
  have z3' : w.heap.size < w3.heap.size := by omega
  have E4 := E3.kept k3 (by omega) (nb _ (by omega))
  have G4 := frozen_kept2 G3 k3 (by omega) (nb _ (by omega))
  have R4 := R3.kept k3 (by omega) (nb _ (Nat.le_refl _))
  have F4 := frozen_kept2 F3 k3 (by omega) (nb _ (Nat.le_refl _))
  have K4 : Kept [blk g] w w3 := K3.trans k3
  have p4 : Own (w.heap.size + 1) w3 (.slice q0 l0.length d0) l0 := Own.keptBlk p3 k3 (by omega)
  have o4 : Own (w1.heap.size + 1) w3 (.slice q1 l1.length d1) l1 := Own.keptBlk o3 k3 (by omega)
  have ne1 : ∀ b, (Value.slice q1 l1.length d1).ownBlock = some b → w1.heap.size + 1 ≤ b ∧ b < w2.heap.size := o1.lt
  obtain ⟨W3, hW3⟩ : ∃ W3, W3 = (w3.setCell ⟨w1.heap.size, 4, none⟩ (.slice q2 l2.length d2)).setCell ⟨w1.heap.size, 5, none⟩ (.int .i64 n2) := ⟨_, rfl⟩
  have E5 : At6 W3 w1.heap.size (.slice q0 l0.length d0) (.int .i64 n0) (.slice q1 l1.length d1) (.int .i64 n1) (.slice q2 l2.length d2) (.int .i64 n2) := by
    rw [hW3]; obtain ⟨ka, kb, kc, kd, ke, kf⟩ := E4
    refine ⟨?_, ?_, ?_, ?_, ?_, ?_⟩ <;> simp [go_sem, ka, kb, kc, kd, ke, kf]
  have bW3 : Below w1.heap.size w3 W3 := by rw [hW3]; exact ((Below.refl _ _).setCell (by simp) _).setCell (by simp) _
  have sW3 : W3.heap.size = w3.heap.size := by rw [hW3]; simp
  have G5 : ∀ o, W3.frozen? ⟨w1.heap.size, o, none⟩ = false := by intro o; rw [hW3]; simp [G4]
  have R5 : At6 W3 w.heap.size (.slice none 0 0) (.int .i64 0) (.slice none 0 0) (.int .i64 0) (.slice none 0 0) (.int .i64 0) := by rw [hW3]; exact (R4.setOther (by simp; omega) _).setOther (by simp; omega) _
  have F5 : ∀ o, W3.frozen? ⟨w.heap.size, o, none⟩ = false := by intro o; rw [hW3]; simp [F4]
  have p5 : Own (w.heap.size + 1) W3 (.slice q0 l0.length d0) l0 := by rw [hW3]; exact (p4.setNo ne0 _).setNo ne0 _
  have o5 : Own (w1.heap.size + 1) W3 (.slice q1 l1.length d1) l1 := by rw [hW3]; exact (o4.set (by simp) _).set (by simp) _
  have r5 : Own W2.heap.size W3 (.slice q2 l2.length d2) l2 := by rw [hW3]; exact (o2.set (by simp; omega) _).set (by simp; omega) _
  have K5 : Kept [blk g] w W3 := K4.then_below (bW3.mono (by omega))
  have h5 : Rdr W3 g p cd c t3 := (unhide H).again K5 h4 (bW3.block g (by omega))
  go_wp2_with fail
  rw [← hW3]
  clear hW3 k3 E3 E4 G3 G4 R3 R4 F3 F4 K3 K4 h3 h4 p3 p4 o3 o4 o2
  refine (unhide NX g p c _ h5).mono ?_
  rintro e w4 ⟨rfl, h6, k4⟩
  have s4 := k4.size
  have z4 : w1.heap.size < w4.heap.size := by omega
  have z4' : w.heap.size < w4.heap.size := by omega
  have E6 := E5.kept k4 (by omega) (nb _ (by omega))
  have G6 := frozen_kept2 G5 k4 (by omega) (nb _ (by omega))
  have R6 := R5.kept k4 (by omega) (nb _ (Nat.le_refl _))
  have F6 := frozen_kept2 F5 k4 (by omega) (nb _ (Nat.le_refl _))
  have K6 : Kept [blk g] w w4 := K5.trans k4
  have p6 : Own (w.heap.size + 1) w4 (.slice q0 l0.length d0) l0 := Own.keptBlk p5 k4 (by omega)
  have o6 : Own (w1.heap.size + 1) w4 (.slice q1 l1.length d1) l1 := Own.keptBlk o5 k4 (by omega)
  have r6 : Own W2.heap.size w4 (.slice q2 l2.length d2) l2 := Own.keptBlk r5 k4 (by omega)
  clear k4 E5 G5 R5 F5 K5 h5 p5 o5 r5
  obtain ⟨ea, eb, ec, ed, ee, ef⟩ := E6
  obtain ⟨ra, rb, rc, rd, re, rf⟩ := R6
  go_wp2
  refine bodyPost_ret (v := diskV (.slice q0 l0.length d0) n0 (.slice q1 l1.length d1) n1 (.slice q2 l2.length d2) n2) (by simp [results, Try.results44, go_sem, ra, rb, rc, rd, re, rf]) rfl ⟨q0, d0, q1, d1, q2, d2, rfl, ?_, ?_⟩
  · refine Own3.mono (B := w.heap.size + 1) ?_ (by omega)
    repeat (refine Own3.set ?_ (by simp) _)
    exact ⟨p6, o6.mono (by omega), r6.mono (by omega), fun b e e' => by have := (o0.lt b e).2; have := (ne1 b e').1; omega, fun b e e' => by have := (o0.lt b e).2; have := (r6.lt b e').1; omega, fun b e e' => by have := (ne1 b e).2; have := (r6.lt b e').1; omega⟩
  · have bb : Below w.heap.size w4 _ := Below.refl w.heap.size w4
    refine ⟨(unhide H).again (K6.then_below (Z := _) ?_) h6 ?_, K6.then_below (Z := _) ?_⟩
    · repeat (refine Below.setCell ?_ (by simp) _)
      exact Below.refl _ _
    · exact Below.block (B := w.heap.size) (w := w4) (by repeat (refine Below.setCell ?_ (by simp) _)
                                                         exact Below.refl _ _) g hg
    · repeat (refine Below.setCell ?_ (by simp) _)
      exact Below.refl _ _

set_option maxHeartbeats 4000000 in
theorem drawDisk_big (cd : List Int) (t t1 t2 t3 : Nat) (l0 l1 l2 l3 : List Int) (n0 n1 n2 x : Int) (m0 : l0.length ≤ 13) (m1 : l1.length ≤ 13) (m2 : l2.length ≤ 13) (D0 : Hid (DF cd t l0 n0 t1)) (D1 : Hid (DF cd t1 l1 n1 t2)) (D2 : Hid (DF cd t2 l2 n2 t3)) (NX : Hid (DN cd t3 x (t3 + 1))) (hx : 0 ≤ x ∧ x < 256) (hk : 252 < x)
    (e3 : Hid (l3 = List.replicate (199746 + x).toNat 3)) :
    DD cd t l0 l1 l3 n0 n1 n2 (t3 + 1) := by
  intro g p c w h
  have hm3 : (l3.length : Int) = 199746 + x := by rw [unhide e3]; simp; omega
  have M3 := hide hm3
  have hfill : ∀ w : World, Calls Try.prog 45 #[.int .u8 3, .int .i64 (199746 + x)] w fun e w' => ∃ p' c', e = .returned (.slice p' l3.length c') ∧ Own w.heap.size w' (.slice p' l3.length c') l3 ∧ Below w.heap.size w w' := by
    intro w
    have hh := l1fill_any 3 (199746 + x).toNat w (by omega)
    rw [show (((199746 + x).toNat : Nat) : Int) = 199746 + x by omega] at hh
    have el : l3.length = (199746 + x).toNat := by rw [unhide e3]; simp
    rw [← unhide e3, ← el] at hh
    exact hh
  have HF := hide hfill
  clear hfill hm3
  have hg := h.lt
  have b0 : ∀ o : Obj, Below w.heap.size w (w.alloc o) := fun o => (Below.refl _ _).alloc (Nat.le_refl _) _
  have nb : ∀ b, w.heap.size ≤ b → ∀ v ∈ [blk g], v.ownBlock ≠ some b := by intro b hb v hv; simp only [List.mem_singleton] at hv; subst hv; simp [blk_own]; omega
  have H := hide h
  go_enter Try.func44, Try.ntmps44
  go_wp2_with fail
  refine (unhide D0 g p c _ (h.below (b0 _))).mono ?_
  rintro e w1 ⟨q0, d0, rfl, o0, h1, k1⟩
  have K1 : Kept [blk g] w w1 := (Kept.of_below (b0 _)).trans k1
  have z1 : w.heap.size < w1.heap.size := by have := k1.size; simp at this; omega
  have R1 : At6 w1 w.heap.size (.slice none 0 0) (.int .i64 0) (.slice none 0 0) (.int .i64 0) (.slice none 0 0) (.int .i64 0) := At6.kept (by simp [At6]) k1 (by simp) (nb _ (Nat.le_refl _))
  have F1 := frozen_kept2 (b := w.heap.size) (by intro o; simp) k1 (by simp) (nb _ (Nat.le_refl _))
  replace o0 : Own (w.heap.size + 1) w1 (.slice q0 l0.length d0) l0 := by simpa using o0
  have ne0 : (Value.slice q0 l0.length d0).ownBlock ≠ some w1.heap.size := fun e => by have := (o0.lt _ e).2; omega
  have ba1 : ∀ o : Obj, Below w1.heap.size w1 (w1.alloc o) := fun o => (Below.refl _ _).alloc (Nat.le_refl _) _
  clear k1 h
  go_wp2_with fail
  refine (unhide D1 g p c _ (h1.below (ba1 _))).mono ?_
  rintro e w2 ⟨q1, d1, rfl, o1, h2, k2⟩
  have z2 : w1.heap.size < w2.heap.size := by have := k2.size; simp at this; omega
  have z2' : w.heap.size < w2.heap.size := by omega
  have E2 : At6 w2 w1.heap.size (.slice q0 l0.length d0) (.int .i64 n0) (.slice none 0 0) (.int .i64 0) (.slice none 0 0) (.int .i64 0) := At6.kept (by simp [At6]) k2 (by simp) (nb _ (by omega))
  have G2 := frozen_kept2 (b := w1.heap.size) (by intro o; simp) k2 (by simp) (nb _ (by omega))
  have R2 := (R1.below (ba1 _)).kept k2 (by simp; omega) (nb _ (Nat.le_refl _))
  have F2 := frozen_kept2 (frozen_below F1 (ba1 _) z1) k2 (by simp; omega) (nb _ (Nat.le_refl _))
  have K2 : Kept [blk g] w w2 := (K1.alloc _).trans k2
  have p0 : Own (w.heap.size + 1) w2 (.slice q0 l0.length d0) l0 := Own.keptBlk (Own.below o0 (ba1 _)) k2 (by omega)
  replace o1 : Own (w1.heap.size + 1) w2 (.slice q1 l1.length d1) l1 := by simpa using o1
  obtain ⟨W2, hW2⟩ : ∃ W2, W2 = (w2.setCell ⟨w1.heap.size, 2, none⟩ (.slice q1 l1.length d1)).setCell ⟨w1.heap.size, 3, none⟩ (.int .i64 n1) := ⟨_, rfl⟩
  have E3 : At6 W2 w1.heap.size (.slice q0 l0.length d0) (.int .i64 n0) (.slice q1 l1.length d1) (.int .i64 n1) (.slice none 0 0) (.int .i64 0) := by
    rw [hW2]; obtain ⟨ka, kb, kc, kd, ke, kf⟩ := E2
    refine ⟨?_, ?_, ?_, ?_, ?_, ?_⟩ <;> simp [go_sem, ka, kb, kc, kd, ke, kf]
  have bW2 : Below w1.heap.size w2 W2 := by rw [hW2]; exact ((Below.refl _ _).setCell (by simp) _).setCell (by simp) _
  have sW2 : W2.heap.size = w2.heap.size := by rw [hW2]; simp
  have G3 : ∀ o, W2.frozen? ⟨w1.heap.size, o, none⟩ = false := by intro o; rw [hW2]; simp [G2]
  have R3 : At6 W2 w.heap.size (.slice none 0 0) (.int .i64 0) (.slice none 0 0) (.int .i64 0) (.slice none 0 0) (.int .i64 0) := by rw [hW2]; exact (R2.setOther (by simp; omega) _).setOther (by simp; omega) _
  have F3 : ∀ o, W2.frozen? ⟨w.heap.size, o, none⟩ = false := by intro o; rw [hW2]; simp [F2]
  have p3 : Own (w.heap.size + 1) W2 (.slice q0 l0.length d0) l0 := by rw [hW2]; exact (p0.setNo ne0 _).setNo ne0 _
  have o3 : Own (w1.heap.size + 1) W2 (.slice q1 l1.length d1) l1 := by rw [hW2]; exact (o1.set (by simp) _).set (by simp) _
  have K3 : Kept [blk g] w W2 := K2.then_below (bW2.mono (by omega))
  have h3 : Rdr W2 g p cd c t2 := (unhide H).again K3 h2 (bW2.block g (by omega))
  go_wp2_with fail
  rw [← hW2]
  clear hW2 k2 E2 G2 R1 R2 F1 F2 K1 K2 h1 h2 p0
  refine (unhide D2 g p c _ h3).mono ?_
  rintro e w3 ⟨q2, d2, rfl, o2, h4, k3⟩
  have s3 := k3.size
  have z3 : w1.heap.size < w3.heap.size := by omega
  have z3' : w.heap.size < w3.heap.size := by omega
  have E4 := E3.kept k3 (by omega) (nb _ (by omega))
  have G4 := frozen_kept2 G3 k3 (by omega) (nb _ (by omega))
  have R4 := R3.kept k3 (by omega) (nb _ (Nat.le_refl _))
  have F4 := frozen_kept2 F3 k3 (by omega) (nb _ (Nat.le_refl _))
  have K4 : Kept [blk g] w w3 := K3.trans k3
  have p4 : Own (w.heap.size + 1) w3 (.slice q0 l0.length d0) l0 := Own.keptBlk p3 k3 (by omega)
  have o4 : Own (w1.heap.size + 1) w3 (.slice q1 l1.length d1) l1 := Own.keptBlk o3 k3 (by omega)
  have ne1 : ∀ b, (Value.slice q1 l1.length d1).ownBlock = some b → w1.heap.size + 1 ≤ b ∧ b < w2.heap.size := o1.lt
  obtain ⟨W3, hW3⟩ : ∃ W3, W3 = (w3.setCell ⟨w1.heap.size, 4, none⟩ (.slice q2 l2.length d2)).setCell ⟨w1.heap.size, 5, none⟩ (.int .i64 n2) := ⟨_, rfl⟩
  have E5 : At6 W3 w1.heap.size (.slice q0 l0.length d0) (.int .i64 n0) (.slice q1 l1.length d1) (.int .i64 n1) (.slice q2 l2.length d2) (.int .i64 n2) := by
    rw [hW3]; obtain ⟨ka, kb, kc, kd, ke, kf⟩ := E4
    refine ⟨?_, ?_, ?_, ?_, ?_, ?_⟩ <;> simp [go_sem, ka, kb, kc, kd, ke, kf]
  have bW3 : Below w1.heap.size w3 W3 := by rw [hW3]; exact ((Below.refl _ _).setCell (by simp) _).setCell (by simp) _
  have sW3 : W3.heap.size = w3.heap.size := by rw [hW3]; simp
  have G5 : ∀ o, W3.frozen? ⟨w1.heap.size, o, none⟩ = false := by intro o; rw [hW3]; simp [G4]
  have R5 : At6 W3 w.heap.size (.slice none 0 0) (.int .i64 0) (.slice none 0 0) (.int .i64 0) (.slice none 0 0) (.int .i64 0) := by rw [hW3]; exact (R4.setOther (by simp; omega) _).setOther (by simp; omega) _
  have F5 : ∀ o, W3.frozen? ⟨w.heap.size, o, none⟩ = false := by intro o; rw [hW3]; simp [F4]
  have p5 : Own (w.heap.size + 1) W3 (.slice q0 l0.length d0) l0 := by rw [hW3]; exact (p4.setNo ne0 _).setNo ne0 _
  have o5 : Own (w1.heap.size + 1) W3 (.slice q1 l1.length d1) l1 := by rw [hW3]; exact (o4.set (by simp) _).set (by simp) _
  have r5 : Own W2.heap.size W3 (.slice q2 l2.length d2) l2 := by rw [hW3]; exact (o2.set (by simp; omega) _).set (by simp; omega) _
  have K5 : Kept [blk g] w W3 := K4.then_below (bW3.mono (by omega))
  have h5 : Rdr W3 g p cd c t3 := (unhide H).again K5 h4 (bW3.block g (by omega))
  go_wp2_with fail
  rw [← hW3]
  clear hW3 k3 E3 E4 G3 G4 R3 R4 F3 F4 K3 K4 h3 h4 p3 p4 o3 o4 o2
  refine (unhide NX g p c _ h5).mono ?_
  rintro e w4 ⟨rfl, h6, k4⟩
  have s4 := k4.size
  have z4 : w1.heap.size < w4.heap.size := by omega
  have z4' : w.heap.size < w4.heap.size := by omega
  have E6 := E5.kept k4 (by omega) (nb _ (by omega))
  have G6 := frozen_kept2 G5 k4 (by omega) (nb _ (by omega))
  have R6 := R5.kept k4 (by omega) (nb _ (Nat.le_refl _))
  have F6 := frozen_kept2 F5 k4 (by omega) (nb _ (Nat.le_refl _))
  have K6 : Kept [blk g] w w4 := K5.trans k4
  have p6 : Own (w.heap.size + 1) w4 (.slice q0 l0.length d0) l0 := Own.keptBlk p5 k4 (by omega)
  have o6 : Own (w1.heap.size + 1) w4 (.slice q1 l1.length d1) l1 := Own.keptBlk o5 k4 (by omega)
  have r6 : Own W2.heap.size w4 (.slice q2 l2.length d2) l2 := Own.keptBlk r5 k4 (by omega)
  clear k4 E5 G5 R5 F5 K5 h5 p5 o5 r5
  obtain ⟨ea, eb, ec, ed, ee, ef⟩ := E6
  go_wp2_with fail
  refine (unhide HF w4).mono ?_
  rintro e w5 ⟨q3, d3, rfl, o7, hb7⟩
  have E7 := At6.below (⟨ea, eb, ec, ed, ee, ef⟩ : At6 w4 w1.heap.size (.slice q0 l0.length d0) (.int .i64 n0) (.slice q1 l1.length d1) (.int .i64 n1) (.slice q2 l2.length d2) (.int .i64 n2)) hb7
  have G7 := frozen_below G6 hb7 z4
  have R7 := R6.below hb7
  have F7 := frozen_below F6 hb7 z4'
  have K7 : Kept [blk g] w w5 := K6.then_below (hb7.mono (by omega))
  have h7 := h6.below hb7
  have p7 := Own.below p6 hb7
  have o8 := Own.below o6 hb7
  have z5 := hb7.size
  clear ea eb ec ed ee ef G6 R6 F6 K6 p6 o6 r6 hb7 h6
  obtain ⟨ea, eb, ec, ed, ee, ef⟩ := E7
  obtain ⟨ra, rb, rc, rd, re, rf⟩ := R7
  have zr1 : w.heap.size < w5.heap.size := by omega
  have zr2 : w1.heap.size < w5.heap.size := by omega
  go_wp2
  refine bodyPost_ret (v := diskV (.slice q0 l0.length d0) n0 (.slice q1 l1.length d1) n1 (.slice q3 l3.length d3) n2) (by simp [results, Try.results44, go_sem, ra, rb, rc, rd, re, rf]) rfl ⟨q0, d0, q1, d1, q3, d3, rfl, ?_, ?_⟩
  · refine Own3.mono (B := w.heap.size + 1) ?_ (by omega)
    iterate 6 (refine Own3.set ?_ (by simp) _)
    have oo : Own3 (w.heap.size + 1) w5 (.slice q0 l0.length d0) (.slice q1 l1.length d1) (.slice q3 l3.length d3) l0 l1 l3 := ⟨p7, o8.mono (by omega), o7.mono (by omega), fun b e e' => by have := (o0.lt b e).2; have := (ne1 b e').1; omega, fun b e e' => by have := (o0.lt b e).2; have := (o7.lt b e').1; omega, fun b e e' => by have := (ne1 b e).2; have := (o7.lt b e').1; omega⟩
    refine Own3.keptBy oo (vs := [blk w1.heap.size]) (Kept.setBlk _) ?_
    intro u hu b hb e
    simp only [List.mem_singleton] at hu
    subst hu
    simp only [blk_own, Option.some.injEq] at e
    rcases hb with hb | hb | hb
    · have := (o0.lt b hb).2; omega
    · have := (ne1 b hb).1; omega
    · have := (o7.lt b hb).1; omega
  · refine ⟨(unhide H).again (K7.then_below (Z := _) ?_) h7 ?_, K7.then_below (Z := _) ?_⟩
    · repeat (refine Below.setCell ?_ (by simp <;> omega) _)
      exact Below.refl _ _
    · exact Below.block (B := w.heap.size) (w := w5) (by repeat (refine Below.setCell ?_ (by simp <;> omega) _)
                                                         exact Below.refl _ _) g hg
    · repeat (refine Below.setCell ?_ (by simp <;> omega) _)
      exact Below.refl _ _

theorem drawDisk_det (cd : List Int) (t : Nat) (hb : ∀ z ∈ cd, 0 ≤ z ∧ z < 256) (hl : cd.length ≤ 500) : ∃ l0 l1 l2 n0 n1 n2 t', l0.length ≤ 200001 ∧ l1.length ≤ 200001 ∧ l2.length ≤ 200001 ∧ DD cd t l0 l1 l2 n0 n1 n2 t' := by
  obtain ⟨l0, n0, t1, m0, D0⟩ := drawFile_det cd t hb hl
  obtain ⟨l1, n1, t2, m1, D1⟩ := drawFile_det cd t1 hb hl
  obtain ⟨l2, n2, t3, m2, D2⟩ := drawFile_det cd t2 hb hl
  obtain ⟨x, hx, NX⟩ := next_det cd t3 hb hl
  by_cases hk : 252 < x
  · exact ⟨l0, l1, List.replicate (199746 + x).toNat 3, n0, n1, n2, t3 + 1, by omega, by omega, by simp; omega, drawDisk_big cd t t1 t2 t3 l0 l1 l2 _ n0 n1 n2 x m0 m1 m2 D0 D1 D2 NX hx hk rfl⟩
  · exact ⟨l0, l1, l2, n0, n1, n2, t3 + 1, by omega, by omega, by omega, drawDisk_small cd t t1 t2 t3 l0 l1 l2 n0 n1 n2 x m0 m1 m2 D0 D1 D2 NX hx hk⟩
end Go.Proofs.Yteljknmkodllkaa
