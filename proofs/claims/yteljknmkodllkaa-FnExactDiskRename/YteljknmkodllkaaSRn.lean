import Derived.Test.YteljknmkodllkaaSGp
import Derived.Test.YteljknmkodllkaaIBase
import Derived.Deep.RegionHeld3
import Derived.OneCell
namespace Go.Proofs.Yteljknmkodllkaa
open Go.ChangeShapes Go.WideShapes Go.ChangeAt Go.RowKit
set_option linter.unusedVariables false
set_option linter.unusedSimpArgs false

set_option maxHeartbeats 1000000 in
theorem specRenameBad (p0 p1 p2 : Option Addr) (c0 c1 c2 : Nat) (n0 n1 n2 : Int) (l0 l1 l2 : List Int) (w : World) (h0 : Rd w (.slice p0 l0.length c0) l0) (h1 : Rd w (.slice p1 l1.length c1) l1) (h2 : Rd w (.slice p2 l2.length c2) l2) (hd : Hid (dok l0.length n0 l1.length n1 l2.length n2 = false)) (hs : l0.length ≤ 2097152) (hs1 : l1.length ≤ 2097152) (hs2 : l2.length ≤ 2097152) :
    Calls Try.prog 26 #[diskV (.slice p0 l0.length c0) n0 (.slice p1 l1.length c1) n1 (.slice p2 l2.length c2) n2] w (DiskRes w ([]) ([]) ([]) (0) (0) (0) 1) := by
  go_enter Try.func26, Try.ntmps26
  go_wp2_with fail
  refine (specValid_any p0 p1 p2 _ c0 _ c1 _ c2 n0 n1 n2 _ (by omega) (by omega) (by omega)).mono ?_
  rintro e w1 ⟨rfl, hb1⟩
  rw [unhide hd]
  have K1 : At6 w1 w.heap.size (.slice p0 l0.length c0) (.int .i64 n0) (.slice p1 l1.length c1) (.int .i64 n1) (.slice p2 l2.length c2) (.int .i64 n2) := At6.below (by simp [At6]) hb1
  have R1 : At6 w1 (w.heap.size + 1) (.slice none 0 0) (.int .i64 0) (.slice none 0 0) (.int .i64 0) (.slice none 0 0) (.int .i64 0) := At6.below (by simp [At6]) hb1
  have F1 := frozen_below (b := w.heap.size + 1) (by intro o; simp) hb1 (by simp)
  have b1 : Below w.heap.size w w1 := (((Below.refl _ _).alloc (Nat.le_refl _) _).alloc (by simp) _).trans (hb1.mono (by simp; omega))
  have z1 : w.heap.size + 1 < w1.heap.size := by have := hb1.size; simp at this; omega
  clear hb1
  have e0 := h0.below b1
  have e1 := h1.below b1
  have e2 := h2.below b1
  clear h0 h1 h2
  obtain ⟨ra, rb, rc, rd, re, rf⟩ := R1
  clear K1 e0 e1 e2
  go_wp2
  refine bodyPost_ret (v := .tuple #[zDisk, .int .i64 1]) (by simp [results, Try.results26, go_sem, ra, rb, rc, rd, re, rf]) rfl ⟨none, 0, none, 0, none, 0, rfl, Own3.nil _ _, ?_⟩
  · repeat (refine Below.setCell ?_ (by simp) _)
    exact b1

theorem Own.setNe {B : Nat} {w : World} {v : Value} {l : List Int} (h : Own B w v l) {a : Addr} (ha : v.ownBlock ≠ some a.block) (u : Value) : Own B (w.setCell a u) v l := ownsRow_setCell_other h ha u

set_option maxHeartbeats 2000000 in
theorem specRename0 (p0 p1 p2 : Option Addr) (c0 c1 c2 : Nat) (n0 n1 n2 : Int) (l0 l1 l2 : List Int) (w : World) (h0 : Rd w (.slice p0 l0.length c0) l0) (h1 : Rd w (.slice p1 l1.length c1) l1) (h2 : Rd w (.slice p2 l2.length c2) l2) (hd : Hid (dok l0.length n0 l1.length n1 l2.length n2 = true)) (hs : l0.length ≤ 200000) (hs1 : l1.length ≤ 200000) (hs2 : l2.length ≤ 200000) :
    Calls Try.prog 26 #[diskV (.slice p0 l0.length c0) n0 (.slice p1 l1.length c1) n1 (.slice p2 l2.length c2) n2] w (DiskRes w (l0) (l2) ([]) (n0) (n2) (0) 0) := by
  go_enter Try.func26, Try.ntmps26
  go_wp2_with fail
  refine (specValid_any p0 p1 p2 _ c0 _ c1 _ c2 n0 n1 n2 _ (by omega) (by omega) (by omega)).mono ?_
  rintro e w1 ⟨rfl, hb1⟩
  rw [unhide hd]
  have K1 : At6 w1 w.heap.size (.slice p0 l0.length c0) (.int .i64 n0) (.slice p1 l1.length c1) (.int .i64 n1) (.slice p2 l2.length c2) (.int .i64 n2) := At6.below (by simp [At6]) hb1
  have R1 : At6 w1 (w.heap.size + 1) (.slice none 0 0) (.int .i64 0) (.slice none 0 0) (.int .i64 0) (.slice none 0 0) (.int .i64 0) := At6.below (by simp [At6]) hb1
  have F1 := frozen_below (b := w.heap.size + 1) (by intro o; simp) hb1 (by simp)
  have b1 : Below w.heap.size w w1 := (((Below.refl _ _).alloc (Nat.le_refl _) _).alloc (by simp) _).trans (hb1.mono (by simp; omega))
  have z1 : w.heap.size + 1 < w1.heap.size := by have := hb1.size; simp at this; omega
  clear hb1
  have e0 := h0.below b1
  have e1 := h1.below b1
  have e2 := h2.below b1
  clear h0 h1 h2
  have ba : ∀ (x : World) (o : Obj), Below x.heap.size x (x.alloc o) := fun x o => (Below.refl _ _).alloc (Nat.le_refl _) _
  have K1d : At6 w1.drew w.heap.size (.slice p0 l0.length c0) (.int .i64 n0) (.slice p1 l1.length c1) (.int .i64 n1) (.slice p2 l2.length c2) (.int .i64 n2) := K1
  go_wp2_with fail
  go_region_held3 (fun w' => At6 w' w.heap.size (.slice p0 l0.length c0) (.int .i64 n0) (.slice p1 l1.length c1) (.int .i64 n1) (.slice p2 l2.length c2) (.int .i64 n2)) (first | with_reducible exact K1d | with_reducible exact K2 | with_reducible exact K3 | with_reducible exact K3.below (ba w3 _) | with_reducible exact K2.below (ba w2 _) | with_reducible exact K1.below (ba w1 _).drew | (with_reducible ((repeat refine At6.setOther ?_ (by simp <;> omega) _); exact K3)))
    (first
      | (go_at_call 56; refine (l1file_any p2 c2 n2 l2 _ (by exact e2.below (by first | exact (Below.refl w1.heap.size w1).drew | exact (ba w1 _).drew)) (by omega)).mono ?_; rintro e w2 ⟨qf, df, rfl, of, hb2⟩; have hc2 : Below w1.heap.size w1 w2 := (by first | exact Below.step (Below.refl w1.heap.size w1).drew hb2 | exact Below.step (ba w1 _).drew hb2); have K2 := K1.below hc2; have zz2 : w.heap.size + 1 < w2.heap.size := (by have := hc2.size; omega); have zz1 : w.heap.size + 1 < w1.heap.size := z1; (first | (have Za : At6 w2 w1.heap.size (.slice none 0 0) (.int .i64 0) (.slice none 0 0) (.int .i64 0) (.slice none 0 0) (.int .i64 0) := At6.below (w := (w1.alloc (.cells #[.slice none 0 0, .int .i64 0, .slice none 0 0, .int .i64 0, .slice none 0 0, .int .i64 0] 31)).drew) (by simp [At6]) hb2; have Fa := frozen_below (b := w1.heap.size) (w := (w1.alloc (.cells #[.slice none 0 0, .int .i64 0, .slice none 0 0, .int .i64 0, .slice none 0 0, .int .i64 0] 31)).drew) (by intro o; simp) hb2 (by simp)) | skip))
      | (go_at_call 55; refine (l1put1 p0 p1 p2 c0 c1 c2 n0 n1 n2 l0 l1 l2 qf df n2 l2 _ (by exact e0.below (by first | exact hc2 | exact Below.step hc2 (ba w2 _))) (by exact e1.below (by first | exact hc2 | exact Below.step hc2 (ba w2 _))) (by exact e2.below (by first | exact hc2 | exact Below.step hc2 (ba w2 _))) (by omega) (by omega) (by omega)).mono ?_; rintro e w3 ⟨q0, d0, q1, d1, q2, d2, rfl, o3, hb3⟩; have hc3 : Below w1.heap.size w1 w3 := (by first | exact Below.step hc2 hb3 | exact Below.step (Below.step hc2 (ba w2 _)) hb3); have K3 := K1.below hc3; (first | (have Zb : At6 w3 w2.heap.size (.slice none 0 0) (.int .i64 0) (.slice none 0 0) (.int .i64 0) (.slice none 0 0) (.int .i64 0) := At6.below (w := w2.alloc (.cells #[.slice none 0 0, .int .i64 0, .slice none 0 0, .int .i64 0, .slice none 0 0, .int .i64 0] 31)) (by simp [At6]) hb3; have Fb := frozen_below (b := w2.heap.size) (w := w2.alloc (.cells #[.slice none 0 0, .int .i64 0, .slice none 0 0, .int .i64 0, .slice none 0 0, .int .i64 0] 31)) (by intro o; simp) hb3 (by simp)) | (have Zb := Za.below hb3; have Fb := frozen_below Fa hb3 (by have := hb2.size; simp at this; omega)) | skip)))
  · have z2 : w1.heap.size ≤ w2.heap.size := hc2.size
    have z3 : w2.heap.size ≤ w3.heap.size := by have := hb3.size; skip; omega
    go_wp2_with fail
    have u0 : Own w1.heap.size _ (.slice q0 l0.length d0) l0 := Own.below (o3.o0.mono hc2.size) (ba w3 (.cells #[.slice q0 l0.length d0, .int .i64 n0, .slice qf l2.length df, .int .i64 n2, .slice q2 l2.length d2, .int .i64 n2] 31))
    have u1 : Own w1.heap.size _ (.slice qf l2.length df) l2 := Own.below (Own.below (by simpa using of) hb3) (ba w3 (.cells #[.slice q0 l0.length d0, .int .i64 n0, .slice qf l2.length df, .int .i64 n2, .slice q2 l2.length d2, .int .i64 n2] 31))
    have u2 : Own w1.heap.size _ (.slice q2 l2.length d2) l2 := Own.below (o3.o2.mono hc2.size) (ba w3 (.cells #[.slice q0 l0.length d0, .int .i64 n0, .slice qf l2.length df, .int .i64 n2, .slice q2 l2.length d2, .int .i64 n2] 31))
    have bX : Below w1.heap.size w1 _ := hc3.alloc hc3.size (.cells #[.slice q0 l0.length d0, .int .i64 n0, .slice qf l2.length df, .int .i64 n2, .slice q2 l2.length d2, .int .i64 n2] 31)
    have RX := R1.below bX
    have FX := frozen_below F1 bX z1
    have zX := bX.size
    refine (l1put2 q0 qf q2 d0 df d2 n0 n2 n2 l0 l2 l2 none 0 0 ([] : List Int) _ u0.rd u1.rd u2.rd (by omega) (by omega) (by omega)).mono ?_
    rintro e w4 ⟨a0, k0, a1, k1, a2, k2, rfl, o4, hb4⟩
    obtain ⟨ra, rb, rc, rd, re, rf⟩ := RX.below hb4
    have F4 := frozen_below FX hb4 (by omega)
    have b4 := Below.step b1 (Below.step bX hb4)
    have oo : Own3 w1.heap.size w4 (.slice a0 l0.length k0) (.slice a1 l2.length k1) (.slice none 0 0) l0 l2 ([] : List Int) := Own3.put2 o4 (World.ownsRow_nil _ _ _ _) (fun b hb => by simp [Value.ownBlock] at hb) zX
    clear RX FX hb4 o4 u0 u1 u2 R1 F1 K1 K1d K2 K3 o3 of hb2 hb3 hc2 hc3 e0 e1 e2 bX
    go_wp2
    refine bodyPost_ret (v := .tuple #[diskV (.slice a0 l0.length k0) n0 (.slice a1 l2.length k1) n2 (.slice none 0 0) 0, .int .i64 0]) (by simp [results, Try.results26, go_sem, ra, rb, rc, rd, re, rf]) rfl ⟨a0, k0, a1, k1, none, 0, rfl, ?_, ?_⟩
    · refine Own3.mono (B := w1.heap.size) ?_ (by omega)
      repeat (refine Own3.set ?_ (by simp; omega) _)
      exact oo
    · repeat (refine Below.setCell ?_ (by simp) _)
      exact b4
  · have z2 : w1.heap.size ≤ w2.heap.size := hc2.size
    have z3 : w2.heap.size ≤ w3.heap.size := by have := hb3.size; simp at this; omega
    go_wp2_with fail
    have hne : ∀ a, (Value.slice qf l2.length df).ownBlock = some a → a < w2.heap.size := fun a h => (of.lt a h).2
    replace hne : (Value.slice qf l2.length df).ownBlock ≠ some w2.heap.size := fun h => by have := hne _ h; omega
    have u0 : Own w1.heap.size _ (.slice q0 l0.length d0) l0 := (((((((o3.o0).set (a := ⟨w2.heap.size, 0, none⟩) (by first | omega | (simp; done) | (simp; omega)) (.slice q0 l0.length d0)).set (a := ⟨w2.heap.size, 1, none⟩) (by first | omega | (simp; done) | (simp; omega)) (.int .i64 n0)).set (a := ⟨w2.heap.size, 2, none⟩) (by first | omega | (simp; done) | (simp; omega)) (.slice qf l2.length df)).set (a := ⟨w2.heap.size, 3, none⟩) (by first | omega | (simp; done) | (simp; omega)) (.int .i64 n2)).set (a := ⟨w2.heap.size, 4, none⟩) (by first | omega | (simp; done) | (simp; omega)) (.slice q2 l2.length d2)).set (a := ⟨w2.heap.size, 5, none⟩) (by first | omega | (simp; done) | (simp; omega)) (.int .i64 n2)).mono (by simp; omega)
    have u1 : Own w1.heap.size _ (.slice qf l2.length df) l2 := (((((((Own.below (by simpa using of : Own w1.heap.size w2 (.slice qf l2.length df) l2) (Below.step (ba w2 _) hb3)).setNe (a := ⟨w2.heap.size, 0, none⟩) hne (.slice q0 l0.length d0)).setNe (a := ⟨w2.heap.size, 1, none⟩) hne (.int .i64 n0)).setNe (a := ⟨w2.heap.size, 2, none⟩) hne (.slice qf l2.length df)).setNe (a := ⟨w2.heap.size, 3, none⟩) hne (.int .i64 n2)).setNe (a := ⟨w2.heap.size, 4, none⟩) hne (.slice q2 l2.length d2)).setNe (a := ⟨w2.heap.size, 5, none⟩) hne (.int .i64 n2))
    have u2 : Own w1.heap.size _ (.slice q2 l2.length d2) l2 := (((((((o3.o2).set (a := ⟨w2.heap.size, 0, none⟩) (by first | omega | (simp; done) | (simp; omega)) (.slice q0 l0.length d0)).set (a := ⟨w2.heap.size, 1, none⟩) (by first | omega | (simp; done) | (simp; omega)) (.int .i64 n0)).set (a := ⟨w2.heap.size, 2, none⟩) (by first | omega | (simp; done) | (simp; omega)) (.slice qf l2.length df)).set (a := ⟨w2.heap.size, 3, none⟩) (by first | omega | (simp; done) | (simp; omega)) (.int .i64 n2)).set (a := ⟨w2.heap.size, 4, none⟩) (by first | omega | (simp; done) | (simp; omega)) (.slice q2 l2.length d2)).set (a := ⟨w2.heap.size, 5, none⟩) (by first | omega | (simp; done) | (simp; omega)) (.int .i64 n2)).mono (by simp; omega)
    have bX : Below w1.heap.size w1 _ := ((((((hc3.setCell (p := ⟨w2.heap.size, 0, none⟩) (by first | omega | (simp; done) | (simp; omega)) (.slice q0 l0.length d0)).setCell (p := ⟨w2.heap.size, 1, none⟩) (by first | omega | (simp; done) | (simp; omega)) (.int .i64 n0)).setCell (p := ⟨w2.heap.size, 2, none⟩) (by first | omega | (simp; done) | (simp; omega)) (.slice qf l2.length df)).setCell (p := ⟨w2.heap.size, 3, none⟩) (by first | omega | (simp; done) | (simp; omega)) (.int .i64 n2)).setCell (p := ⟨w2.heap.size, 4, none⟩) (by first | omega | (simp; done) | (simp; omega)) (.slice q2 l2.length d2)).setCell (p := ⟨w2.heap.size, 5, none⟩) (by first | omega | (simp; done) | (simp; omega)) (.int .i64 n2))
    have RX := R1.below bX
    have FX := frozen_below F1 bX z1
    have zX := bX.size
    refine (l1put2 q0 qf q2 d0 df d2 n0 n2 n2 l0 l2 l2 none 0 0 ([] : List Int) _ u0.rd u1.rd u2.rd (by omega) (by omega) (by omega)).mono ?_
    rintro e w4 ⟨a0, k0, a1, k1, a2, k2, rfl, o4, hb4⟩
    obtain ⟨ra, rb, rc, rd, re, rf⟩ := RX.below hb4
    have F4 := frozen_below FX hb4 (by omega)
    have b4 := Below.step b1 (Below.step bX hb4)
    have oo : Own3 w1.heap.size w4 (.slice a0 l0.length k0) (.slice a1 l2.length k1) (.slice none 0 0) l0 l2 ([] : List Int) := Own3.put2 o4 (World.ownsRow_nil _ _ _ _) (fun b hb => by simp [Value.ownBlock] at hb) zX
    clear RX FX hb4 o4 u0 u1 u2 R1 F1 K1 K1d K2 K3 o3 of hb2 hb3 hc2 hc3 e0 e1 e2 bX
    go_wp2
    refine bodyPost_ret (v := .tuple #[diskV (.slice a0 l0.length k0) n0 (.slice a1 l2.length k1) n2 (.slice none 0 0) 0, .int .i64 0]) (by simp [results, Try.results26, go_sem, ra, rb, rc, rd, re, rf]) rfl ⟨a0, k0, a1, k1, none, 0, rfl, ?_, ?_⟩
    · refine Own3.mono (B := w1.heap.size) ?_ (by omega)
      repeat (refine Own3.set ?_ (by simp; omega) _)
      exact oo
    · repeat (refine Below.setCell ?_ (by simp) _)
      exact b4
  · have z2 : w1.heap.size ≤ w2.heap.size := hc2.size
    have z3 : w2.heap.size ≤ w3.heap.size := by have := hb3.size; skip; omega
    go_wp2_with fail
    have z2s : w1.heap.size < w2.heap.size := by have := hb2.size; simp at this; omega
    have u0 : Own w1.heap.size _ (.slice q0 l0.length d0) l0 := (((((((o3.o0).set (a := ⟨w1.heap.size, 0, none⟩) (by first | omega | (simp; done) | (simp; omega)) (.slice q0 l0.length d0)).set (a := ⟨w1.heap.size, 1, none⟩) (by first | omega | (simp; done) | (simp; omega)) (.int .i64 n0)).set (a := ⟨w1.heap.size, 2, none⟩) (by first | omega | (simp; done) | (simp; omega)) (.slice qf l2.length df)).set (a := ⟨w1.heap.size, 3, none⟩) (by first | omega | (simp; done) | (simp; omega)) (.int .i64 n2)).set (a := ⟨w1.heap.size, 4, none⟩) (by first | omega | (simp; done) | (simp; omega)) (.slice q2 l2.length d2)).set (a := ⟨w1.heap.size, 5, none⟩) (by first | omega | (simp; done) | (simp; omega)) (.int .i64 n2)).mono (by omega)
    have u1 : Own w1.heap.size _ (.slice qf l2.length df) l2 := (((((((Own.below of hb3).set (a := ⟨w1.heap.size, 0, none⟩) (by first | omega | (simp; done) | (simp; omega)) (.slice q0 l0.length d0)).set (a := ⟨w1.heap.size, 1, none⟩) (by first | omega | (simp; done) | (simp; omega)) (.int .i64 n0)).set (a := ⟨w1.heap.size, 2, none⟩) (by first | omega | (simp; done) | (simp; omega)) (.slice qf l2.length df)).set (a := ⟨w1.heap.size, 3, none⟩) (by first | omega | (simp; done) | (simp; omega)) (.int .i64 n2)).set (a := ⟨w1.heap.size, 4, none⟩) (by first | omega | (simp; done) | (simp; omega)) (.slice q2 l2.length d2)).set (a := ⟨w1.heap.size, 5, none⟩) (by first | omega | (simp; done) | (simp; omega)) (.int .i64 n2)).mono (by simp)
    have u2 : Own w1.heap.size _ (.slice q2 l2.length d2) l2 := (((((((o3.o2).set (a := ⟨w1.heap.size, 0, none⟩) (by first | omega | (simp; done) | (simp; omega)) (.slice q0 l0.length d0)).set (a := ⟨w1.heap.size, 1, none⟩) (by first | omega | (simp; done) | (simp; omega)) (.int .i64 n0)).set (a := ⟨w1.heap.size, 2, none⟩) (by first | omega | (simp; done) | (simp; omega)) (.slice qf l2.length df)).set (a := ⟨w1.heap.size, 3, none⟩) (by first | omega | (simp; done) | (simp; omega)) (.int .i64 n2)).set (a := ⟨w1.heap.size, 4, none⟩) (by first | omega | (simp; done) | (simp; omega)) (.slice q2 l2.length d2)).set (a := ⟨w1.heap.size, 5, none⟩) (by first | omega | (simp; done) | (simp; omega)) (.int .i64 n2)).mono (by omega)
    have bX : Below w1.heap.size w1 _ := ((((((hc3.setCell (p := ⟨w1.heap.size, 0, none⟩) (by first | omega | (simp; done) | (simp; omega)) (.slice q0 l0.length d0)).setCell (p := ⟨w1.heap.size, 1, none⟩) (by first | omega | (simp; done) | (simp; omega)) (.int .i64 n0)).setCell (p := ⟨w1.heap.size, 2, none⟩) (by first | omega | (simp; done) | (simp; omega)) (.slice qf l2.length df)).setCell (p := ⟨w1.heap.size, 3, none⟩) (by first | omega | (simp; done) | (simp; omega)) (.int .i64 n2)).setCell (p := ⟨w1.heap.size, 4, none⟩) (by first | omega | (simp; done) | (simp; omega)) (.slice q2 l2.length d2)).setCell (p := ⟨w1.heap.size, 5, none⟩) (by first | omega | (simp; done) | (simp; omega)) (.int .i64 n2))
    have RX := R1.below bX
    have FX := frozen_below F1 bX z1
    have zX := bX.size
    refine (l1put2 q0 qf q2 d0 df d2 n0 n2 n2 l0 l2 l2 none 0 0 ([] : List Int) _ u0.rd u1.rd u2.rd (by omega) (by omega) (by omega)).mono ?_
    rintro e w4 ⟨a0, k0, a1, k1, a2, k2, rfl, o4, hb4⟩
    obtain ⟨ra, rb, rc, rd, re, rf⟩ := RX.below hb4
    have F4 := frozen_below FX hb4 (by omega)
    have b4 := Below.step b1 (Below.step bX hb4)
    have oo : Own3 w1.heap.size w4 (.slice a0 l0.length k0) (.slice a1 l2.length k1) (.slice none 0 0) l0 l2 ([] : List Int) := Own3.put2 o4 (World.ownsRow_nil _ _ _ _) (fun b hb => by simp [Value.ownBlock] at hb) zX
    clear RX FX hb4 o4 u0 u1 u2 R1 F1 K1 K1d K2 K3 o3 of hb2 hb3 hc2 hc3 e0 e1 e2 bX
    go_wp2
    refine bodyPost_ret (v := .tuple #[diskV (.slice a0 l0.length k0) n0 (.slice a1 l2.length k1) n2 (.slice none 0 0) 0, .int .i64 0]) (by simp [results, Try.results26, go_sem, ra, rb, rc, rd, re, rf]) rfl ⟨a0, k0, a1, k1, none, 0, rfl, ?_, ?_⟩
    · refine Own3.mono (B := w1.heap.size) ?_ (by omega)
      repeat (refine Own3.set ?_ (by simp; omega) _)
      exact oo
    · repeat (refine Below.setCell ?_ (by simp) _)
      exact b4
end Go.Proofs.Yteljknmkodllkaa
