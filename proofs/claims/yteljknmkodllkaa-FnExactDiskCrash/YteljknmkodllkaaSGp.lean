import Derived.Test.YteljknmkodllkaaDi
import Derived.Test.YteljknmkodllkaaIBase
namespace Go.Proofs.Yteljknmkodllkaa
open Go.ChangeShapes Go.WideShapes Go.ChangeAt Go.RowKit
set_option linter.unusedVariables false
set_option linter.unusedSimpArgs false

theorem Own3.put0 {B B' : Nat} {w : World} {u v0 v1 v2 : Value} {lu l0 l1 l2 : List Int} (h : Own3 B w v0 v1 v2 l0 l1 l2) (hu : Own B' w u lu) (hlt : ∀ b, u.ownBlock = some b → b < B) (hB : B' ≤ B) : Own3 B' w u v1 v2 lu l1 l2 :=
  ⟨hu, h.o1.mono hB, h.o2.mono hB, fun b e e' => by have := hlt b e; have := h.o1.lt b e'; omega, fun b e e' => by have := hlt b e; have := h.o2.lt b e'; omega, h.n12⟩
theorem Own3.put1 {B B' : Nat} {w : World} {u v0 v1 v2 : Value} {lu l0 l1 l2 : List Int} (h : Own3 B w v0 v1 v2 l0 l1 l2) (hu : Own B' w u lu) (hlt : ∀ b, u.ownBlock = some b → b < B) (hB : B' ≤ B) : Own3 B' w v0 u v2 l0 lu l2 :=
  ⟨h.o0.mono hB, hu, h.o2.mono hB, fun b e e' => by have := hlt b e'; have := h.o0.lt b e; omega, h.n02, fun b e e' => by have := hlt b e; have := h.o2.lt b e'; omega⟩
theorem Own3.put2 {B B' : Nat} {w : World} {u v0 v1 v2 : Value} {lu l0 l1 l2 : List Int} (h : Own3 B w v0 v1 v2 l0 l1 l2) (hu : Own B' w u lu) (hlt : ∀ b, u.ownBlock = some b → b < B) (hB : B' ≤ B) : Own3 B' w v0 v1 u l0 l1 lu :=
  ⟨h.o0.mono hB, h.o1.mono hB, hu, h.n01, fun b e e' => by have := hlt b e'; have := h.o0.lt b e; omega, fun b e e' => by have := hlt b e'; have := h.o1.lt b e; omega⟩

set_option maxHeartbeats 800000 in
theorem l1bad_any (p0 p1 p2 : Option Addr) (n0 c0 n1 c1 n2 c2 : Nat) (s0 s1 s2 f : Int) (w : World) (h0 : n0 ≤ 2097152) (h1 : n1 ≤ 2097152) (h2 : n2 ≤ 2097152) :
    Calls Try.prog 57 #[diskV (.slice p0 n0 c0) s0 (.slice p1 n1 c1) s1 (.slice p2 n2 c2) s2, .int .i64 f] w fun e w' => e = .returned (.bool (!(dok n0 s0 n1 s1 n2 s2 && isF f))) ∧ Below w.heap.size w w' := by
  have b0 : ∀ o : Obj, Below w.heap.size w (w.alloc o) := fun o => (Below.refl _ _).alloc (Nat.le_refl _) _
  cases hd : dok n0 s0 n1 s1 n2 s2
  · have HD := hide hd
    clear hd
    rw [show (!(false && isF f)) = true by simp]
    go_enter Try.func57, Try.ntmps57
    go_wp2_with fail
    refine (specValid_any p0 p1 p2 n0 c0 n1 c1 n2 c2 s0 s1 s2 _ h0 h1 h2).mono ?_
    rintro e w1 ⟨rfl, hb1⟩
    rw [unhide HD]
    have b1 : Below w.heap.size w w1 := (b0 _).trans (hb1.mono (by simp))
    go_wp2
    go_ret
    exact ⟨rfl, b1⟩
  · have HD := hide hd
    clear hd
    by_cases ha : 0 ≤ f
    · by_cases hb : f < 3
      · rw [isF_yes ha hb]
        go_enter Try.func57, Try.ntmps57
        go_wp2_with fail
        refine (specValid_any p0 p1 p2 n0 c0 n1 c1 n2 c2 s0 s1 s2 _ h0 h1 h2).mono ?_
        rintro e w1 ⟨rfl, hb1⟩
        rw [unhide HD]
        have b1 : Below w.heap.size w w1 := (b0 _).trans (hb1.mono (by simp))
        go_wp2
        go_ret
        exact ⟨by simp; try omega, b1⟩
      · rw [isF_no (by omega)]
        go_enter Try.func57, Try.ntmps57
        go_wp2_with fail
        refine (specValid_any p0 p1 p2 n0 c0 n1 c1 n2 c2 s0 s1 s2 _ h0 h1 h2).mono ?_
        rintro e w1 ⟨rfl, hb1⟩
        rw [unhide HD]
        have b1 : Below w.heap.size w w1 := (b0 _).trans (hb1.mono (by simp))
        go_wp2
        go_ret
        exact ⟨by simp; try omega, b1⟩
    · rw [isF_no (by omega)]
      go_enter Try.func57, Try.ntmps57
      go_wp2_with fail
      refine (specValid_any p0 p1 p2 n0 c0 n1 c1 n2 c2 s0 s1 s2 _ h0 h1 h2).mono ?_
      rintro e w1 ⟨rfl, hb1⟩
      rw [unhide HD]
      have b1 : Below w.heap.size w w1 := (b0 _).trans (hb1.mono (by simp))
      go_wp2
      go_ret
      exact ⟨by simp; try omega, b1⟩

set_option maxHeartbeats 800000 in
theorem l1get0 (p0 p1 p2 : Option Addr) (c0 c1 c2 : Nat) (n0 n1 n2 : Int) (l0 l1 l2 : List Int) (w : World) (h0 : Rd w (.slice p0 l0.length c0) l0) (h1 : Rd w (.slice p1 l1.length c1) l1) (h2 : Rd w (.slice p2 l2.length c2) l2) (hs : l0.length ≤ 2097152) (hs1 : l1.length ≤ 2097152) (hs2 : l2.length ≤ 2097152) :
    Calls Try.prog 58 #[diskV (.slice p0 l0.length c0) n0 (.slice p1 l1.length c1) n1 (.slice p2 l2.length c2) n2, .int .i64 0] w fun e w' => ∃ q d, e = .returned (fileV (.slice q l0.length d) n0) ∧ Own w.heap.size w' (.slice q l0.length d) l0 ∧ Below w.heap.size w w' := by
  have bW : ∀ o o' : Obj, Below w.heap.size w ((w.alloc o).alloc o') := fun o o' => ((Below.refl _ _).alloc (Nat.le_refl _) _).alloc (by simp) _
  go_enter Try.func58, Try.ntmps58
  go_wp2_with fail
  refine (l1file_any p0 c0 n0 l0 _ (h0.below (bW _ _)) hs).mono ?_
  rintro e w1 ⟨q, d, rfl, o1, hb1⟩
  have b1 : Below w.heap.size w w1 := (bW _ _).trans (hb1.mono (by simp; omega))
  obtain ⟨hc1, hf1⟩ := bcell hb1
  have oo : Own (w.heap.size + 2) w1 (.slice q l0.length d) l0 := by simpa using o1
  clear hb1 o1
  go_wp2
  refine bodyPost_ret (v := fileV (.slice q l0.length d) n0) (by simp [results, Try.results58, go_sem, hc1]) rfl ⟨q, d, rfl, Own.mono (B := w.heap.size + 2) ?_ (by omega), ?_⟩
  · repeat (refine ownsRow_setCell_below ?_ (by simp) _)
    exact oo
  · repeat (refine Below.setCell ?_ (by simp <;> omega) _)
    exact b1

set_option maxHeartbeats 1000000 in
theorem l1put0 (p0 p1 p2 : Option Addr) (c0 c1 c2 : Nat) (n0 n1 n2 : Int) (l0 l1 l2 : List Int) (pf : Option Addr) (cf : Nat) (nf : Int) (lf : List Int) (w : World) (h0 : Rd w (.slice p0 l0.length c0) l0) (h1 : Rd w (.slice p1 l1.length c1) l1) (h2 : Rd w (.slice p2 l2.length c2) l2) (hs : l0.length ≤ 2097152) (hs1 : l1.length ≤ 2097152) (hs2 : l2.length ≤ 2097152) :
    Calls Try.prog 55 #[diskV (.slice p0 l0.length c0) n0 (.slice p1 l1.length c1) n1 (.slice p2 l2.length c2) n2, .int .i64 0, fileV (.slice pf lf.length cf) nf] w fun e w' => ∃ q0 d0 q1 d1 q2 d2, e = .returned (diskV (.slice pf lf.length cf) nf (.slice q1 l1.length d1) n1 (.slice q2 l2.length d2) n2) ∧
      Own3 w.heap.size w' (.slice q0 l0.length d0) (.slice q1 l1.length d1) (.slice q2 l2.length d2) l0 l1 l2 ∧ Below w.heap.size w w' := by
  have bW : ∀ o o' o'' : Obj, Below w.heap.size w (((w.alloc o).alloc o').alloc o'') := fun o o' o'' => (((Below.refl _ _).alloc (Nat.le_refl _) _).alloc (by simp) _).alloc (by simp; omega) _
  go_enter Try.func55, Try.ntmps55
  go_wp2_with fail
  refine (l1disk_any p0 p1 p2 c0 c1 c2 n0 n1 n2 l0 l1 l2 _ (h0.below (bW _ _ _)) (h1.below (bW _ _ _)) (h2.below (bW _ _ _)) (by omega) (by omega) (by omega)).mono ?_
  rintro e w1 ⟨q0, d0, q1, d1, q2, d2, rfl, o1, hb1⟩
  have b1 : Below w.heap.size w w1 := (bW _ _ _).trans (hb1.mono (by simp; omega))
  obtain ⟨hc1, hf1⟩ := bcell hb1
  have z1 : w.heap.size + 2 < w1.heap.size := by have := hb1.size; simp at this; omega
  have za : w.heap.size < w1.heap.size := by omega
  have zb : w.heap.size + 1 < w1.heap.size := by omega
  have zc : w.heap.size + 1 + 1 < w1.heap.size := by omega
  have oo : Own3 (w.heap.size + 3) w1 (.slice q0 l0.length d0) (.slice q1 l1.length d1) (.slice q2 l2.length d2) l0 l1 l2 := by simpa using o1
  clear hb1 o1 h0 h1 h2
  go_wp2
  refine bodyPost_ret (v := diskV (.slice pf lf.length cf) nf (.slice q1 l1.length d1) n1 (.slice q2 l2.length d2) n2) (by simp [results, Try.results55, go_sem, hc1, za, zb, zc]) rfl ⟨q0, d0, q1, d1, q2, d2, rfl, Own3.mono (B := w.heap.size + 3) ?_ (by omega), ?_⟩
  · refine Own3.below ?_ ((Below.refl _ _).alloc (Nat.le_refl _) _)
    repeat (refine Own3.set ?_ (by simp) _)
    exact oo
  · refine Below.alloc ?_ (by simp; omega) _
    repeat (refine Below.setCell ?_ (by simp <;> omega) _)
    exact b1

set_option maxHeartbeats 800000 in
theorem l1get1 (p0 p1 p2 : Option Addr) (c0 c1 c2 : Nat) (n0 n1 n2 : Int) (l0 l1 l2 : List Int) (w : World) (h0 : Rd w (.slice p0 l0.length c0) l0) (h1 : Rd w (.slice p1 l1.length c1) l1) (h2 : Rd w (.slice p2 l2.length c2) l2) (hs : l0.length ≤ 2097152) (hs1 : l1.length ≤ 2097152) (hs2 : l2.length ≤ 2097152) :
    Calls Try.prog 58 #[diskV (.slice p0 l0.length c0) n0 (.slice p1 l1.length c1) n1 (.slice p2 l2.length c2) n2, .int .i64 1] w fun e w' => ∃ q d, e = .returned (fileV (.slice q l1.length d) n1) ∧ Own w.heap.size w' (.slice q l1.length d) l1 ∧ Below w.heap.size w w' := by
  have bW : ∀ o o' : Obj, Below w.heap.size w ((w.alloc o).alloc o') := fun o o' => ((Below.refl _ _).alloc (Nat.le_refl _) _).alloc (by simp) _
  go_enter Try.func58, Try.ntmps58
  go_wp2_with fail
  refine (l1file_any p1 c1 n1 l1 _ (h1.below (bW _ _)) hs1).mono ?_
  rintro e w1 ⟨q, d, rfl, o1, hb1⟩
  have b1 : Below w.heap.size w w1 := (bW _ _).trans (hb1.mono (by simp; omega))
  obtain ⟨hc1, hf1⟩ := bcell hb1
  have oo : Own (w.heap.size + 2) w1 (.slice q l1.length d) l1 := by simpa using o1
  clear hb1 o1
  go_wp2
  refine bodyPost_ret (v := fileV (.slice q l1.length d) n1) (by simp [results, Try.results58, go_sem, hc1]) rfl ⟨q, d, rfl, Own.mono (B := w.heap.size + 2) ?_ (by omega), ?_⟩
  · repeat (refine ownsRow_setCell_below ?_ (by simp) _)
    exact oo
  · repeat (refine Below.setCell ?_ (by simp <;> omega) _)
    exact b1

set_option maxHeartbeats 1000000 in
theorem l1put1 (p0 p1 p2 : Option Addr) (c0 c1 c2 : Nat) (n0 n1 n2 : Int) (l0 l1 l2 : List Int) (pf : Option Addr) (cf : Nat) (nf : Int) (lf : List Int) (w : World) (h0 : Rd w (.slice p0 l0.length c0) l0) (h1 : Rd w (.slice p1 l1.length c1) l1) (h2 : Rd w (.slice p2 l2.length c2) l2) (hs : l0.length ≤ 2097152) (hs1 : l1.length ≤ 2097152) (hs2 : l2.length ≤ 2097152) :
    Calls Try.prog 55 #[diskV (.slice p0 l0.length c0) n0 (.slice p1 l1.length c1) n1 (.slice p2 l2.length c2) n2, .int .i64 1, fileV (.slice pf lf.length cf) nf] w fun e w' => ∃ q0 d0 q1 d1 q2 d2, e = .returned (diskV (.slice q0 l0.length d0) n0 (.slice pf lf.length cf) nf (.slice q2 l2.length d2) n2) ∧
      Own3 w.heap.size w' (.slice q0 l0.length d0) (.slice q1 l1.length d1) (.slice q2 l2.length d2) l0 l1 l2 ∧ Below w.heap.size w w' := by
  have bW : ∀ o o' o'' : Obj, Below w.heap.size w (((w.alloc o).alloc o').alloc o'') := fun o o' o'' => (((Below.refl _ _).alloc (Nat.le_refl _) _).alloc (by simp) _).alloc (by simp; omega) _
  go_enter Try.func55, Try.ntmps55
  go_wp2_with fail
  refine (l1disk_any p0 p1 p2 c0 c1 c2 n0 n1 n2 l0 l1 l2 _ (h0.below (bW _ _ _)) (h1.below (bW _ _ _)) (h2.below (bW _ _ _)) (by omega) (by omega) (by omega)).mono ?_
  rintro e w1 ⟨q0, d0, q1, d1, q2, d2, rfl, o1, hb1⟩
  have b1 : Below w.heap.size w w1 := (bW _ _ _).trans (hb1.mono (by simp; omega))
  obtain ⟨hc1, hf1⟩ := bcell hb1
  have z1 : w.heap.size + 2 < w1.heap.size := by have := hb1.size; simp at this; omega
  have za : w.heap.size < w1.heap.size := by omega
  have zb : w.heap.size + 1 < w1.heap.size := by omega
  have zc : w.heap.size + 1 + 1 < w1.heap.size := by omega
  have oo : Own3 (w.heap.size + 3) w1 (.slice q0 l0.length d0) (.slice q1 l1.length d1) (.slice q2 l2.length d2) l0 l1 l2 := by simpa using o1
  clear hb1 o1 h0 h1 h2
  go_wp2
  refine bodyPost_ret (v := diskV (.slice q0 l0.length d0) n0 (.slice pf lf.length cf) nf (.slice q2 l2.length d2) n2) (by simp [results, Try.results55, go_sem, hc1, za, zb, zc]) rfl ⟨q0, d0, q1, d1, q2, d2, rfl, Own3.mono (B := w.heap.size + 3) ?_ (by omega), ?_⟩
  · refine Own3.below ?_ ((Below.refl _ _).alloc (Nat.le_refl _) _)
    repeat (refine Own3.set ?_ (by simp) _)
    exact oo
  · refine Below.alloc ?_ (by simp; omega) _
    repeat (refine Below.setCell ?_ (by simp <;> omega) _)
    exact b1

set_option maxHeartbeats 800000 in
theorem l1get2 (p0 p1 p2 : Option Addr) (c0 c1 c2 : Nat) (n0 n1 n2 : Int) (l0 l1 l2 : List Int) (w : World) (h0 : Rd w (.slice p0 l0.length c0) l0) (h1 : Rd w (.slice p1 l1.length c1) l1) (h2 : Rd w (.slice p2 l2.length c2) l2) (hs : l0.length ≤ 2097152) (hs1 : l1.length ≤ 2097152) (hs2 : l2.length ≤ 2097152) :
    Calls Try.prog 58 #[diskV (.slice p0 l0.length c0) n0 (.slice p1 l1.length c1) n1 (.slice p2 l2.length c2) n2, .int .i64 2] w fun e w' => ∃ q d, e = .returned (fileV (.slice q l2.length d) n2) ∧ Own w.heap.size w' (.slice q l2.length d) l2 ∧ Below w.heap.size w w' := by
  have bW : ∀ o o' : Obj, Below w.heap.size w ((w.alloc o).alloc o') := fun o o' => ((Below.refl _ _).alloc (Nat.le_refl _) _).alloc (by simp) _
  go_enter Try.func58, Try.ntmps58
  go_wp2_with fail
  refine (l1file_any p2 c2 n2 l2 _ (h2.below (bW _ _)) hs2).mono ?_
  rintro e w1 ⟨q, d, rfl, o1, hb1⟩
  have b1 : Below w.heap.size w w1 := (bW _ _).trans (hb1.mono (by simp; omega))
  obtain ⟨hc1, hf1⟩ := bcell hb1
  have oo : Own (w.heap.size + 2) w1 (.slice q l2.length d) l2 := by simpa using o1
  clear hb1 o1
  go_wp2
  refine bodyPost_ret (v := fileV (.slice q l2.length d) n2) (by simp [results, Try.results58, go_sem, hc1]) rfl ⟨q, d, rfl, Own.mono (B := w.heap.size + 2) ?_ (by omega), ?_⟩
  · repeat (refine ownsRow_setCell_below ?_ (by simp) _)
    exact oo
  · repeat (refine Below.setCell ?_ (by simp <;> omega) _)
    exact b1

set_option maxHeartbeats 1000000 in
theorem l1put2 (p0 p1 p2 : Option Addr) (c0 c1 c2 : Nat) (n0 n1 n2 : Int) (l0 l1 l2 : List Int) (pf : Option Addr) (cf : Nat) (nf : Int) (lf : List Int) (w : World) (h0 : Rd w (.slice p0 l0.length c0) l0) (h1 : Rd w (.slice p1 l1.length c1) l1) (h2 : Rd w (.slice p2 l2.length c2) l2) (hs : l0.length ≤ 2097152) (hs1 : l1.length ≤ 2097152) (hs2 : l2.length ≤ 2097152) :
    Calls Try.prog 55 #[diskV (.slice p0 l0.length c0) n0 (.slice p1 l1.length c1) n1 (.slice p2 l2.length c2) n2, .int .i64 2, fileV (.slice pf lf.length cf) nf] w fun e w' => ∃ q0 d0 q1 d1 q2 d2, e = .returned (diskV (.slice q0 l0.length d0) n0 (.slice q1 l1.length d1) n1 (.slice pf lf.length cf) nf) ∧
      Own3 w.heap.size w' (.slice q0 l0.length d0) (.slice q1 l1.length d1) (.slice q2 l2.length d2) l0 l1 l2 ∧ Below w.heap.size w w' := by
  have bW : ∀ o o' o'' : Obj, Below w.heap.size w (((w.alloc o).alloc o').alloc o'') := fun o o' o'' => (((Below.refl _ _).alloc (Nat.le_refl _) _).alloc (by simp) _).alloc (by simp; omega) _
  go_enter Try.func55, Try.ntmps55
  go_wp2_with fail
  refine (l1disk_any p0 p1 p2 c0 c1 c2 n0 n1 n2 l0 l1 l2 _ (h0.below (bW _ _ _)) (h1.below (bW _ _ _)) (h2.below (bW _ _ _)) (by omega) (by omega) (by omega)).mono ?_
  rintro e w1 ⟨q0, d0, q1, d1, q2, d2, rfl, o1, hb1⟩
  have b1 : Below w.heap.size w w1 := (bW _ _ _).trans (hb1.mono (by simp; omega))
  obtain ⟨hc1, hf1⟩ := bcell hb1
  have z1 : w.heap.size + 2 < w1.heap.size := by have := hb1.size; simp at this; omega
  have za : w.heap.size < w1.heap.size := by omega
  have zb : w.heap.size + 1 < w1.heap.size := by omega
  have zc : w.heap.size + 1 + 1 < w1.heap.size := by omega
  have oo : Own3 (w.heap.size + 3) w1 (.slice q0 l0.length d0) (.slice q1 l1.length d1) (.slice q2 l2.length d2) l0 l1 l2 := by simpa using o1
  clear hb1 o1 h0 h1 h2
  go_wp2
  refine bodyPost_ret (v := diskV (.slice q0 l0.length d0) n0 (.slice q1 l1.length d1) n1 (.slice pf lf.length cf) nf) (by simp [results, Try.results55, go_sem, hc1, za, zb, zc]) rfl ⟨q0, d0, q1, d1, q2, d2, rfl, Own3.mono (B := w.heap.size + 3) ?_ (by omega), ?_⟩
  · refine Own3.below ?_ ((Below.refl _ _).alloc (Nat.le_refl _) _)
    repeat (refine Own3.set ?_ (by simp) _)
    exact oo
  · refine Below.alloc ?_ (by simp; omega) _
    repeat (refine Below.setCell ?_ (by simp <;> omega) _)
    exact b1
end Go.Proofs.Yteljknmkodllkaa
