import Derived.Test.YteljknmkodllkaaDd
import Derived.Test.YteljknmkodllkaaICr
import Derived.Deep.RegionHeld3
namespace Go.Proofs.Yteljknmkodllkaa
open Go.ChangeShapes Go.WideShapes Go.ChangeAt Go.RowKit
set_option linter.unusedVariables false
set_option linter.unusedSimpArgs false

def DB (cd : List Int) (t : Nat) (l : List Int) (t' : Nat) : Prop :=
  ∀ g p c w, Rdr w g p cd c t → Calls Try.prog 41 #[.pointer (some ⟨g, 0, none⟩)] w fun e w' => ∃ p' c', e = .returned (.slice p' l.length c') ∧ Own w.heap.size w' (.slice p' l.length c') l ∧ Rdr w' g p cd c t' ∧ Kept [blk g] w w'
def DO (cd : List Int) (t : Nat) (x : Int) (t' : Nat) : Prop :=
  ∀ g p c w, Rdr w g p cd c t → Calls Try.prog 43 #[.pointer (some ⟨g, 0, none⟩)] w fun e w' => e = .returned (.int .i64 x) ∧ Rdr w' g p cd c t' ∧ Kept [blk g] w w'

theorem fno_range (x : Int) (h : 0 ≤ x ∧ x < 256) : -1 ≤ fno x ∧ fno x ≤ 3 := by unfold fno; split <;> (try split) <;> omega

set_option maxHeartbeats 400000 in
theorem l1open_any (p : Option Addr) (c : Nat) (l : List Int) (w : World) (hl : l.length ≤ 1048576) (hc : l.length ≤ c) :
    Calls Try.prog 40 #[.slice p l.length c] w fun e w' => e = .returned (.pointer (some ⟨w.heap.size, 0, none⟩)) ∧ w' = w.alloc (.cells #[.slice p (l.take 500).length c, .int .i64 0] 77) := by
  by_cases h : 500 < l.length
  · have e : (l.take 500).length = 500 := by simp; omega
    rw [e]
    go_enter Try.func40, Try.ntmps40
    go_wp2
    go_ret
    exact ⟨rfl, rfl⟩
  · have e : (l.take 500).length = l.length := by simp; omega
    rw [e]
    go_enter Try.func40, Try.ntmps40
    go_wp2
    go_ret
    exact ⟨rfl, rfl⟩

theorem take500 (l : List Int) : l.take (l.take 500).length = l.take 500 := by
  by_cases h : 500 ≤ l.length
  · rw [show (l.take 500).length = 500 by simp; omega]
  · rw [show (l.take 500).length = l.length by simp; omega, List.take_length, List.take_of_length_le (by omega)]
theorem Rd.take500 {w : World} {p : Option Addr} {c : Nat} {l : List Int} (h : Rd w (.slice p l.length c) l) : Rd w (.slice p (l.take 500).length c) (l.take 500) := by
  have := h.take (l.take 500).length (by simp; omega)
  rwa [Go.Proofs.Yteljknmkodllkaa.take500] at this
theorem Rd.old {w : World} {v : Value} {l : List Int} (h : Rd w v l) (hl : l ≠ []) : ∀ b, v.ownBlock = some b → b < w.heap.size := by
  obtain ⟨p, cap, rfl, h⟩ := h
  intro b e
  rcases h with rfl | ⟨b', o, rfl, hc⟩
  · exact absurd rfl hl
  · simp [Value.ownBlock] at e
    subst e
    have hp : 0 < l.length := List.length_pos_iff.2 hl
    exact World.block_lt_of_cell? w _ (hc 0 hp)

/-- what DrawDiskAppend draws of a code: a disk, a file's number, bytes -/
def DA (code : List Int) (l0 l1 l2 : List Int) (n0 n1 n2 f : Int) (b : List Int) : Prop :=
  ∀ p c w, code.length ≤ c → Rd w (.slice p code.length c) code → Calls Try.prog 15 #[.slice p code.length c] w fun e w' => ∃ q0 d0 q1 d1 q2 d2 pb cb, e = .returned (.tuple #[diskV (.slice q0 l0.length d0) n0 (.slice q1 l1.length d1) n1 (.slice q2 l2.length d2) n2, .int .i64 f, .slice pb b.length cb]) ∧
    Rd w' (.slice q0 l0.length d0) l0 ∧ Rd w' (.slice q1 l1.length d1) l1 ∧ Rd w' (.slice q2 l2.length d2) l2 ∧ Rd w' (.slice pb b.length cb) b ∧ Below w.heap.size w w'

set_option maxHeartbeats 4000000 in
theorem drawAppend_plain (code : List Int) (hcl : code.length ≤ 1048576) (t1 t2 t3 t4 : Nat) (b l0 l1 l2 : List Int) (n0 n1 n2 x f : Int) (m0 : l0.length ≤ 200001) (m1 : l1.length ≤ 200001) (m2 : l2.length ≤ 200001) (mb : b.length ≤ 13) (B0 : Hid (DB (code.take 500) 0 b t1)) (NX : Hid (DN (code.take 500) t1 x t2)) (NO : Hid (DO (code.take 500) t2 f t3)) (D0 : Hid (DD (code.take 500) t3 l0 l1 l2 n0 n1 n2 t4)) (hx : 0 ≤ x ∧ x < 256) (hk : (x == 0) = false) :
    DA code l0 l1 l2 n0 n1 n2 f b := by
  intro p c w hc h
  have b0 : ∀ o : Obj, Below w.heap.size w (w.alloc o) := fun o => (Below.refl _ _).alloc (Nat.le_refl _) _
  go_enter Try.func15, Try.ntmps15
  go_wp2_with fail
  refine (l1open_any p c code _ hcl hc).mono ?_
  rintro e w1 ⟨rfl, hw1⟩
  have R1 : At6 w1 w.heap.size (.slice none 0 0) (.int .i64 0) (.slice none 0 0) (.int .i64 0) (.slice none 0 0) (.int .i64 0) := by rw [hw1]; simp [At6]
  have F1 : ∀ o, w1.frozen? ⟨w.heap.size, o, none⟩ = false := by intro o; rw [hw1]; simp
  have b1 : Below w.heap.size w w1 := by rw [hw1]; exact (b0 _).alloc (by simp) _
  have z1 : w.heap.size + 2 = w1.heap.size := by rw [hw1]; simp
  have cdl : (code.take 500).length ≤ 500 := by simp; omega
  have rd0 := h.take500
  have rd1 := rd0.below b1
  have hR1 : Rdr w1 (w.heap.size + 1) p (code.take 500) c 0 := by
    refine ⟨?_, ?_, ?_, rd1, fun hne e => by have := rd0.old hne _ e; omega⟩
    · rw [hw1]; simp
    · rw [hw1]; simp
    · intro o; rw [hw1]; simp
  clear hw1 rd0 rd1 h hcl hc
  generalize code.take 500 = cd at *
  have nb : ∀ b, b ≠ w.heap.size + 1 → ∀ v ∈ [blk (w.heap.size + 1)], v.ownBlock ≠ some b := by intro b hb v hv; simp only [List.mem_singleton] at hv; subst hv; simp [blk_own]; omega
  go_wp2_with fail
  refine (unhide B0 (w.heap.size + 1) p c _ hR1).mono ?_
  rintro e w2 ⟨pb, cb, rfl, ob2, hR2, k2⟩
  have s2 := k2.size
  have R2 := R1.kept k2 (by omega) (nb _ (by omega))
  have F2 := frozen_kept2 F1 k2 (by omega) (nb _ (by omega))
  have K2 := k2
  clear k2 R1 F1 hR1
  go_wp2_with fail
  refine (unhide NX (w.heap.size + 1) p c _ hR2).mono ?_
  rintro e w3 ⟨rfl, hR3, k3⟩
  have s3 := k3.size
  have R3 := R2.kept k3 (by omega) (nb _ (by omega))
  have F3 := frozen_kept2 F2 k3 (by omega) (nb _ (by omega))
  have K3 := K2.trans k3
  have ob3 := Own.keptBlk ob2 k3 (by omega)
  clear k3 R2 F2 hR2 ob2 K2
  go_wp2_with fail
  refine (unhide NO (w.heap.size + 1) p c _ hR3).mono ?_
  rintro e w4 ⟨rfl, hR4, k4⟩
  have s4 := k4.size
  have R4 := R3.kept k4 (by omega) (nb _ (by omega))
  have F4 := frozen_kept2 F3 k4 (by omega) (nb _ (by omega))
  have K4 := K3.trans k4
  have ob4 := Own.keptBlk ob3 k4 (by omega)
  clear k4 R3 F3 hR3 ob3 K3
  go_wp2_with fail
  refine (unhide D0 (w.heap.size + 1) p c _ hR4).mono ?_
  rintro e w5 ⟨q0, d0, q1, d1, q2, d2, rfl, o5, hR5, k5⟩
  have s5 := k5.size
  have R5 := R4.kept k5 (by omega) (nb _ (by omega))
  have F5 := frozen_kept2 F4 k5 (by omega) (nb _ (by omega))
  have K5 := K4.trans k5
  have ob5 := Own.keptBlk ob4 k5 (by omega)
  have b5 : Below w.heap.size w w5 := b1.trans (K5.below (by omega) (by intro v hv b e; simp only [List.mem_singleton] at hv; subst hv; simp [blk_own] at e; omega))
  have z5 : w.heap.size < w5.heap.size := by omega
  clear k5 R4 F4 hR4 hR5 ob4 K4 K5 nb
  obtain ⟨ra, rb, rc, rd, re, rf⟩ := R5
  go_wp2
  refine bodyPost_ret (v := .tuple #[diskV (.slice q0 l0.length d0) n0 (.slice q1 l1.length d1) n1 (.slice q2 l2.length d2) n2, .int .i64 f, .slice pb b.length cb]) (by simp [results, Try.results15, go_sem, z5, ra, rb, rc, rd, re, rf]) rfl ⟨q0, d0, q1, d1, q2, d2, pb, cb, rfl, ?_⟩
  have fin : ∀ Z : World, Own3 w4.heap.size Z (.slice q0 l0.length d0) (.slice q1 l1.length d1) (.slice q2 l2.length d2) l0 l1 l2 → Own w1.heap.size Z (.slice pb b.length cb) b → Below w.heap.size w Z → Rd Z (.slice q0 l0.length d0) l0 ∧ Rd Z (.slice q1 l1.length d1) l1 ∧ Rd Z (.slice q2 l2.length d2) l2 ∧ Rd Z (.slice pb b.length cb) b ∧ Below w.heap.size w Z :=
    fun Z h1 h2 h3 => ⟨h1.o0.rd, h1.o1.rd, h1.o2.rd, h2.rd, h3⟩
  refine fin _ ?_ ?_ ?_
  · refine Own3.below ?_ ((Below.refl _ _).alloc (Nat.le_refl _) _)
    repeat (refine Own3.set ?_ (by simp; omega) _)
    exact o5
  · refine Own.below ?_ ((Below.refl _ _).alloc (Nat.le_refl _) _)
    repeat (refine Own.set ?_ (by simp; omega) _)
    exact ob5
  · refine Below.alloc ?_ (by simp; omega) _
    repeat (refine Below.setCell ?_ (by simp) _)
    exact b5

set_option maxHeartbeats 4000000 in
theorem drawAppend_zero (code : List Int) (hcl : code.length ≤ 1048576) (t1 t2 t3 t4 : Nat) (b l0 l1 l2 lf lb : List Int) (n0 n1 n2 x f : Int) (m0 : l0.length ≤ 200001) (m1 : l1.length ≤ 200001) (m2 : l2.length ≤ 200001) (mb : b.length ≤ 13) (B0 : Hid (DB (code.take 500) 0 b t1)) (NX : Hid (DN (code.take 500) t1 x t2)) (NO : Hid (DO (code.take 500) t2 f t3)) (D0 : Hid (DD (code.take 500) t3 l0 l1 l2 n0 n1 n2 t4)) (hx : 0 ≤ x ∧ x < 256) (hk : (x == 0) = true) (hf : -1 ≤ f ∧ f ≤ 3) (ef : Hid (lf = List.replicate 199998 3)) (eb : Hid (lb = List.replicate (1 + f.tmod 3).toNat 4)) :
    DA code l0 l1 lf n0 n1 0 2 lb := by
  intro p c w hc h
  have htm : f.tmod 3 = if f < 0 then -1 else f % 3 := by
    by_cases hn : f < 0
    · rw [if_pos hn, show f = -1 by omega]; rfl
    · rw [if_neg hn, Int.tmod_eq_emod_of_nonneg (by omega)]
  have hbd : 0 ≤ 1 + f.tmod 3 ∧ 1 + f.tmod 3 ≤ 3 := by rw [htm]; split <;> omega
  have fl1 : ∀ w : World, Calls Try.prog 45 #[.int .u8 3, .int .i64 199998] w fun e w' => ∃ p' c', e = .returned (.slice p' lf.length c') ∧ Own w.heap.size w' (.slice p' lf.length c') lf ∧ Below w.heap.size w w' := by
    intro w
    have hh := l1fill_any 3 199998 w (by omega)
    have el : lf.length = 199998 := by rw [unhide ef]; exact List.length_replicate
    rw [← unhide ef, ← el] at hh
    rw [el] at hh ⊢
    exact hh
  have fl2 : ∀ (w : World) (y : Int), y = 1 + f.tmod 3 → Calls Try.prog 45 #[.int .u8 4, .int .i64 y] w fun e w' => ∃ p' c', e = .returned (.slice p' lb.length c') ∧ Own w.heap.size w' (.slice p' lb.length c') lb ∧ Below w.heap.size w w' := by
    intro w y hy
    subst hy
    have hh := l1fill_any 4 (1 + f.tmod 3).toNat w (by omega)
    have el : lb.length = (1 + f.tmod 3).toNat := by rw [unhide eb]; simp
    rw [← unhide eb, ← el, el, show (((1 + f.tmod 3).toNat : Nat) : Int) = 1 + f.tmod 3 by omega, ← el] at hh
    exact hh
  have FL1 := hide fl1
  have FL2 := hide fl2
  clear fl1 fl2 htm
  have b0 : ∀ o : Obj, Below w.heap.size w (w.alloc o) := fun o => (Below.refl _ _).alloc (Nat.le_refl _) _
  go_enter Try.func15, Try.ntmps15
  go_wp2_with fail
  refine (l1open_any p c code _ hcl hc).mono ?_
  rintro e w1 ⟨rfl, hw1⟩
  have R1 : At6 w1 w.heap.size (.slice none 0 0) (.int .i64 0) (.slice none 0 0) (.int .i64 0) (.slice none 0 0) (.int .i64 0) := by rw [hw1]; simp [At6]
  have F1 : ∀ o, w1.frozen? ⟨w.heap.size, o, none⟩ = false := by intro o; rw [hw1]; simp
  have b1 : Below w.heap.size w w1 := by rw [hw1]; exact (b0 _).alloc (by simp) _
  have z1 : w.heap.size + 2 = w1.heap.size := by rw [hw1]; simp
  have cdl : (code.take 500).length ≤ 500 := by simp; omega
  have rd0 := h.take500
  have rd1 := rd0.below b1
  have hR1 : Rdr w1 (w.heap.size + 1) p (code.take 500) c 0 := by
    refine ⟨?_, ?_, ?_, rd1, fun hne e => by have := rd0.old hne _ e; omega⟩
    · rw [hw1]; simp
    · rw [hw1]; simp
    · intro o; rw [hw1]; simp
  clear hw1 rd0 rd1 h hcl hc
  generalize code.take 500 = cd at *
  have nb : ∀ b, b ≠ w.heap.size + 1 → ∀ v ∈ [blk (w.heap.size + 1)], v.ownBlock ≠ some b := by intro b hb v hv; simp only [List.mem_singleton] at hv; subst hv; simp [blk_own]; omega
  go_wp2_with fail
  refine (unhide B0 (w.heap.size + 1) p c _ hR1).mono ?_
  rintro e w2 ⟨pb, cb, rfl, ob2, hR2, k2⟩
  have s2 := k2.size
  have R2 := R1.kept k2 (by omega) (nb _ (by omega))
  have F2 := frozen_kept2 F1 k2 (by omega) (nb _ (by omega))
  have K2 := k2
  clear k2 R1 F1 hR1
  go_wp2_with fail
  refine (unhide NX (w.heap.size + 1) p c _ hR2).mono ?_
  rintro e w3 ⟨rfl, hR3, k3⟩
  have s3 := k3.size
  have R3 := R2.kept k3 (by omega) (nb _ (by omega))
  have F3 := frozen_kept2 F2 k3 (by omega) (nb _ (by omega))
  have K3 := K2.trans k3
  have ob3 := Own.keptBlk ob2 k3 (by omega)
  clear k3 R2 F2 hR2 ob2 K2
  go_wp2_with fail
  refine (unhide NO (w.heap.size + 1) p c _ hR3).mono ?_
  rintro e w4 ⟨rfl, hR4, k4⟩
  have s4 := k4.size
  have R4 := R3.kept k4 (by omega) (nb _ (by omega))
  have F4 := frozen_kept2 F3 k4 (by omega) (nb _ (by omega))
  have K4 := K3.trans k4
  have ob4 := Own.keptBlk ob3 k4 (by omega)
  clear k4 R3 F3 hR3 ob3 K3
  go_wp2_with fail
  refine (unhide D0 (w.heap.size + 1) p c _ hR4).mono ?_
  rintro e w5 ⟨q0, d0, q1, d1, q2, d2, rfl, o5, hR5, k5⟩
  have s5 := k5.size
  have R5 := R4.kept k5 (by omega) (nb _ (by omega))
  have F5 := frozen_kept2 F4 k5 (by omega) (nb _ (by omega))
  have K5 := K4.trans k5
  have ob5 := Own.keptBlk ob4 k5 (by omega)
  have b5 : Below w.heap.size w w5 := b1.trans (K5.below (by omega) (by intro v hv b e; simp only [List.mem_singleton] at hv; subst hv; simp [blk_own] at e; omega))
  have z5 : w.heap.size < w5.heap.size := by omega
  clear k5 R4 F4 hR4 hR5 ob4 K4 K5 nb
  go_wp2_with fail
  refine (unhide FL1 _).mono ?_
  rintro e w6 ⟨q3, d3, rfl, o6, hb6⟩
  have z6 := hb6.size
  simp at z6
  have E6 : At6 w6 w5.heap.size (.slice q0 l0.length d0) (.int .i64 n0) (.slice q1 l1.length d1) (.int .i64 n1) (.slice q2 l2.length d2) (.int .i64 n2) := At6.below (by simp [At6]) hb6
  have G6 := frozen_below (b := w5.heap.size) (by intro o; simp) hb6 (by simp)
  have hc6 : Below w5.heap.size w5 w6 := Below.step ((Below.refl _ _).alloc (Nat.le_refl _) _) hb6
  have R6 := R5.below hc6
  have F6 := frozen_below F5 hc6 z5
  have b6 := Below.step b5 hc6
  have o7 := o5.below hc6
  replace o6 : Own (w5.heap.size + 1) w6 (.slice q3 lf.length d3) lf := by simpa using o6
  obtain ⟨W, hW⟩ : ∃ W, W = (w6.setCell ⟨w5.heap.size, 4, none⟩ (.slice q3 lf.length d3)).setCell ⟨w5.heap.size, 5, none⟩ (.int .i64 0) := ⟨_, rfl⟩
  have E7 : At6 W w5.heap.size (.slice q0 l0.length d0) (.int .i64 n0) (.slice q1 l1.length d1) (.int .i64 n1) (.slice q3 lf.length d3) (.int .i64 0) := by
    rw [hW]; obtain ⟨ka, kb, kc, kd, ke, kf⟩ := E6
    refine ⟨?_, ?_, ?_, ?_, ?_, ?_⟩ <;> simp [go_sem, ka, kb, kc, kd, ke, kf]
  have bW : Below w5.heap.size w6 W := by rw [hW]; exact ((Below.refl _ _).setCell (by simp) _).setCell (by simp) _
  have sW : W.heap.size = w6.heap.size := by rw [hW]; simp
  have R7 : At6 W w.heap.size (.slice none 0 0) (.int .i64 0) (.slice none 0 0) (.int .i64 0) (.slice none 0 0) (.int .i64 0) := by rw [hW]; exact (R6.setOther (by simp; omega) _).setOther (by simp; omega) _
  have F7 : ∀ o, W.frozen? ⟨w.heap.size, o, none⟩ = false := by intro o; rw [hW]; simp [F6]
  have ne8 : (Value.slice q0 l0.length d0).ownBlock ≠ some w5.heap.size := fun e => by have := (o5.o0.lt _ e).2; omega
  have ne9 : (Value.slice q1 l1.length d1).ownBlock ≠ some w5.heap.size := fun e => by have := (o5.o1.lt _ e).2; omega
  have o8 : Own w4.heap.size W (.slice q0 l0.length d0) l0 := by rw [hW]; exact (o7.o0.setNo ne8 _).setNo ne8 _
  have o9 : Own w4.heap.size W (.slice q1 l1.length d1) l1 := by rw [hW]; exact (o7.o1.setNo ne9 _).setNo ne9 _
  have o10 : Own (w5.heap.size + 1) W (.slice q3 lf.length d3) lf := by rw [hW]; exact (o6.set (by simp) _).set (by simp) _
  have b7 : Below w.heap.size w W := b6.trans (bW.mono (by omega))
  have zW : w.heap.size < W.heap.size := by omega
  go_wp2_with fail
  rw [← hW]
  clear hW E6 G6 R5 R6 F5 F6 b5 b6 o5 o6 o7 hb6 hc6 bW ob5
  have E7d : At6 W.drew w5.heap.size (.slice q0 l0.length d0) (.int .i64 n0) (.slice q1 l1.length d1) (.int .i64 n1) (.slice q3 lf.length d3) (.int .i64 0) := E7
  go_region_held3 (fun w' => At6 w' w5.heap.size (.slice q0 l0.length d0) (.int .i64 n0) (.slice q1 l1.length d1) (.int .i64 n1) (.slice q3 lf.length d3) (.int .i64 0)) (first | with_reducible exact E7d | with_reducible exact E8 | (with_reducible ((repeat refine At6.setOther ?_ (by simp; omega) _); exact E8)))
    (first | (go_at_call 45; refine (unhide FL2 _ _ (by rw [IntKind.wrap_i64]; omega)).mono ?_; rintro e w7 ⟨pb', cb', rfl, ob7, hb7⟩; have y7 := Below.step (Below.refl W.heap.size W).drew hb7; have E8 := E7.below y7; have R8 := R7.below y7; have F8 := frozen_below F7 y7 zW))
  have z7 := hb7.size
  simp at z7
  have u8 := Own.below o8 y7
  have u9 := Own.below o9 y7
  have u10 := Own.below o10 y7
  have b8 := Below.step b7 y7
  replace ob7 : Own W.heap.size w7 (.slice pb' lb.length cb') lb := by simpa using ob7
  obtain ⟨ra, rb, rc, rd, re, rf⟩ := R8
  clear E7 E7d E8 R7 F7 o8 o9 o10 b7 y7 hb7 FL1 FL2 B0 NX NO D0
  go_wp2
  refine bodyPost_ret (v := .tuple #[diskV (.slice q0 l0.length d0) n0 (.slice q1 l1.length d1) n1 (.slice q3 lf.length d3) 0, .int .i64 2, .slice pb' lb.length cb']) (by simp [results, Try.results15, go_sem, ra, rb, rc, rd, re, rf]) rfl ⟨q0, d0, q1, d1, q3, d3, pb', cb', rfl, ?_⟩
  have fin : ∀ Z : World, Own w4.heap.size Z (.slice q0 l0.length d0) l0 → Own w4.heap.size Z (.slice q1 l1.length d1) l1 → Own (w5.heap.size + 1) Z (.slice q3 lf.length d3) lf → Own W.heap.size Z (.slice pb' lb.length cb') lb → Below w.heap.size w Z → Rd Z (.slice q0 l0.length d0) l0 ∧ Rd Z (.slice q1 l1.length d1) l1 ∧ Rd Z (.slice q3 lf.length d3) lf ∧ Rd Z (.slice pb' lb.length cb') lb ∧ Below w.heap.size w Z :=
    fun Z h1 h2 h3 h4 h5 => ⟨h1.rd, h2.rd, h3.rd, h4.rd, h5⟩
  refine fin _ ?_ ?_ ?_ ?_ ?_
  · repeat (refine Own.set ?_ (by simp; omega) _)
    exact u8
  · repeat (refine Own.set ?_ (by simp; omega) _)
    exact u9
  · repeat (refine Own.set ?_ (by simp; omega) _)
    exact u10
  · repeat (refine Own.set ?_ (by simp; omega) _)
    exact ob7
  · repeat (refine Below.setCell ?_ (by simp) _)
    exact b8

theorem drawAppend_det (code : List Int) (hcl : code.length ≤ 1048576) (hb : ∀ z ∈ code, 0 ≤ z ∧ z < 256) : ∃ l0 l1 l2 n0 n1 n2 f b, l0.length ≤ 200001 ∧ l1.length ≤ 200001 ∧ l2.length ≤ 200001 ∧ b.length ≤ 13 ∧ DA code l0 l1 l2 n0 n1 n2 f b := by
  have hb' : ∀ z ∈ code.take 500, 0 ≤ z ∧ z < 256 := fun z h => hb z (List.mem_of_mem_take h)
  have hl' : (code.take 500).length ≤ 500 := by simp; omega
  have mb := dB_le (code.take 500) 0
  have B0 : DB (code.take 500) 0 (dB (code.take 500) 0) (0 + 1 + (dB (code.take 500) 0).length) := fun g p c w h => drawBytes_any g p _ c 0 w h hb' hl'
  generalize dB (code.take 500) 0 = b at *
  generalize 0 + 1 + b.length = t1 at *
  obtain ⟨x, hx, NX⟩ := next_det (code.take 500) t1 hb' hl'
  have NO : DO (code.take 500) (t1 + 1) (fno ((code.take 500).getD (t1 + 1) 0)) (t1 + 1 + 1) := fun g p c w h => drawFileNo_any g p _ c _ w h hb' hl'
  have hf := fno_range _ (getD_range (code.take 500) hb' (t1 + 1))
  generalize fno ((code.take 500).getD (t1 + 1) 0) = f at *
  obtain ⟨l0, l1, l2, n0, n1, n2, t4, m0, m1, m2, D0⟩ := drawDisk_det (code.take 500) (t1 + 1 + 1) hb' hl'
  by_cases hk : x = 0
  · refine ⟨l0, l1, List.replicate 199998 3, n0, n1, 0, 2, List.replicate (1 + f.tmod 3).toNat 4, m0, m1, by rw [List.length_replicate]; omega, ?_, drawAppend_zero code hcl t1 _ _ t4 b l0 l1 l2 _ _ n0 n1 n2 x f m0 m1 m2 mb B0 NX NO D0 hx (by simp [hk]) hf rfl rfl⟩
    rw [List.length_replicate]
    have htm : f.tmod 3 = if f < 0 then -1 else f % 3 := by
      by_cases hn : f < 0
      · rw [if_pos hn, show f = -1 by omega]; rfl
      · rw [if_neg hn, Int.tmod_eq_emod_of_nonneg (by omega)]
    rw [htm]
    split <;> omega
  · exact ⟨l0, l1, l2, n0, n1, n2, f, b, m0, m1, m2, mb, drawAppend_plain code hcl t1 _ _ t4 b l0 l1 l2 n0 n1 n2 x f m0 m1 m2 mb B0 NX NO D0 hx (by simp [hk])⟩
end Go.Proofs.Yteljknmkodllkaa
