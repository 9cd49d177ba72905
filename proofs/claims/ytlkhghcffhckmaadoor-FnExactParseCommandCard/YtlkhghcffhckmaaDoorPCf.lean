import Derived.Test.YtlkhghcffhckmaaDoorPCe
import Derived.Test.YtlkhghcffhckmaaDoorLTz
namespace Go.Proofs.YtlkhghcffhckmaaDoor
open Go.ChangeShapes Go.WideShapes Go.ChangeAt Go.RowKit
set_option linter.unusedVariables false
set_option linter.unusedSimpArgs false
set_option maxRecDepth 100000

theorem Own.setB {B : Nat} {w : World} {v : Value} {l : List Int} (h : Own B w v l) {a : Addr} (ha : a.block < B) (u : Value) : Own B (w.setCell a u) v l := by
 refine ⟨h.1, ?_⟩
 rcases h.2 with hn | ⟨g, cap, cur, rfl, hb, hg, rest⟩
 ·exact .inl hn
 ·exact .inr ⟨g, cap, cur, rfl, hb, (RowKit.Below.heap_setCell _ _ _ _ (by omega)).trans hg, rest⟩
set_option maxHeartbeats 3200000 in
theorem fill_P (k op se fl ep ge nn mm : Int) (a1 : Option Addr) (a2 a3 : Nat) (b1 : Option Addr) (b2 b3 : Nat) (p : Option Addr) (c n : Nat) (l : List Int) (en : Hid (l.length = n)) (w : World) (h : Rd w (.slice p n c) l) (hb : Hid (Byt l)) (hl : n ≤ 1048576) :
  Calls Tryd.prog 14 #[cmV k op se (.slice a1 a2 a3) fl (.slice b1 b2 b3) ep ge nn mm, .int .u8 80, .slice p n c] w fun e w' => ∃ q d, e = .returned (.tuple #[cmV k op se (.slice q n d) fl (.slice b1 b2 b3) ep ge nn mm, .bool true]) ∧ Own w.heap.size w' (.slice q n d) l ∧ Below w.heap.size w w' := by
 obtain ⟨R, eR⟩ : ∃ R, Hid (numO l 4611686018427387904 = R) := ⟨_, (by show _ = _; rfl)⟩
 have HR := hide fun (w' : World) (hb : Below w.heap.size w w') => h.below hb
 clear h
 obtain ⟨W1, hW1⟩ : ∃ W, W = (w.alloc (.cells #[.int .i64 k, .int .i64 op, .int .u64 se, .slice a1 a2 a3, .int .i64 fl, .slice b1 b2 b3, .int .u64 ep, .int .u64 ge, .int .i64 nn, .int .i64 mm] 27)) := ⟨_, rfl⟩
 obtain ⟨W, hW⟩ : ∃ W, W = W1.alloc (.cells #[.int .i64 0, .int .i64 0, .int .u64 0, .slice none 0 0, .int .i64 0, .slice none 0 0, .int .u64 0, .int .u64 0, .int .i64 0, .int .i64 0] 27) := ⟨_, rfl⟩
 have b1' : Below w.heap.size w W1 := by rw [hW1]; exact (Below.refl _ _).alloc (Nat.le_refl _) _
 have b2' : Below W1.heap.size W1 W := by rw [hW]; exact (Below.refl _ _).alloc (Nat.le_refl _) _
 have z1 : W1.heap.size = w.heap.size + 1 := by rw [hW1]; simp
 have zW : W.heap.size = w.heap.size + 2 := by rw [hW]; simp; omega
 have bW := Below.step b1' b2'
 have C1' : CellsAre W w.heap.size [.int .i64 k, .int .i64 op, .int .u64 se, .slice a1 a2 a3, .int .i64 fl, .slice b1 b2 b3, .int .u64 ep, .int .u64 ge, .int .i64 nn, .int .i64 mm] := by
  have : CellsAre W1 w.heap.size [.int .i64 k, .int .i64 op, .int .u64 se, .slice a1 a2 a3, .int .i64 fl, .slice b1 b2 b3, .int .u64 ep, .int .u64 ge, .int .i64 nn, .int .i64 mm] := by rw [hW1]; exact CellsAre.alloc w #[.int .i64 k, .int .i64 op, .int .u64 se, .slice a1 a2 a3, .int .i64 fl, .slice b1 b2 b3, .int .u64 ep, .int .u64 ge, .int .i64 nn, .int .i64 mm] _
  exact this.below (by omega) b2'
 have C0' : CellsAre W (w.heap.size + 1) [.int .i64 0, .int .i64 0, .int .u64 0, .slice none 0 0, .int .i64 0, .slice none 0 0, .int .u64 0, .int .u64 0, .int .i64 0, .int .i64 0] := by rw [hW, show w.heap.size + 1 = W1.heap.size by omega]; exact CellsAre.alloc W1 #[.int .i64 0, .int .i64 0, .int .u64 0, .slice none 0 0, .int .i64 0, .slice none 0 0, .int .u64 0, .int .u64 0, .int .i64 0, .int .i64 0] _
 have HC := hide (And.intro C1' C0')
 go_enter Tryd.func14, Tryd.ntmps14
 go_wp2_with fail
 rw [← hW1, ← hW]
 clear hW hW1 C1' C0' b1' b2' z1
 refine (l6number_any p c n l en _ (unhide HR _ bW) hb hl 4611686018427387904 R eR).mono ?_
 rintro r w1 ⟨⟨v, rfl, -⟩, rfl⟩
 go_wp2_with fail
 refine (l1copy_n p c n l en _ (unhide HR _ bW) (by omega)).mono ?_
 rintro r w2 ⟨q, d, rfl, o2, hb2⟩
 have bb2 := Below.step bW hb2
 have D1 := (unhide HC).1.below (by omega) hb2
 have D0 := (unhide HC).2.below (by omega) hb2
 have z2 := hb2.size
 have E1 := D1.near 3 (by simp) (.slice q n d)
 have k0 := D1.1 0 _ rfl
 have k1 := D1.1 1 _ rfl
 have k2 := D1.1 2 _ rfl
 have k3 := D1.1 3 _ rfl
 have k4 := D1.1 4 _ rfl
 have k5 := D1.1 5 _ rfl
 have k6 := D1.1 6 _ rfl
 have k7 := D1.1 7 _ rfl
 have k8 := D1.1 8 _ rfl
 have k9 := D1.1 9 _ rfl
 have kf := D1.2
 have r0 := D0.1 0 _ rfl
 have r1 := D0.1 1 _ rfl
 have r2 := D0.1 2 _ rfl
 have r3 := D0.1 3 _ rfl
 have r4 := D0.1 4 _ rfl
 have r5 := D0.1 5 _ rfl
 have r6 := D0.1 6 _ rfl
 have r7 := D0.1 7 _ rfl
 have r8 := D0.1 8 _ rfl
 have r9 := D0.1 9 _ rfl
 have rf := D0.2
 have O2 := hide (Own.mono (B' := w.heap.size + 2) o2 (by omega))
 have BB := bb2
 clear D1 D0 E1 o2 hb2 HC
 go_wp2
 refine bodyPost_ret (v := .tuple #[cmV k op se (.slice q n d) fl (.slice b1 b2 b3) ep ge nn mm, .bool true]) (by simp [results, Tryd.results14, go_sem, k0, k1, k2, k3, k4, k5, k6, k7, k8, k9, r0, r1, r2, r3, r4, r5, r6, r7, r8, r9]) rfl ⟨q, d, rfl, ?_, ?_⟩
 ·refine Own.mono (B := w.heap.size + 2) ?_ (by omega)
  repeat (first | with_reducible exact unhide O2 | with_reducible refine Own.setB ?_ (by simp) _)
 ·repeat (first | with_reducible exact BB | with_reducible refine Below.setCell ?_ (by simp) _)
set_option maxHeartbeats 3200000 in
theorem fill_V (k op se fl ep ge nn mm : Int) (a1 : Option Addr) (a2 a3 : Nat) (b1 : Option Addr) (b2 b3 : Nat) (p : Option Addr) (c n : Nat) (l : List Int) (en : Hid (l.length = n)) (w : World) (h : Rd w (.slice p n c) l) (hb : Hid (Byt l)) (hl : n ≤ 1048576) :
  Calls Tryd.prog 14 #[cmV k op se (.slice a1 a2 a3) fl (.slice b1 b2 b3) ep ge nn mm, .int .u8 86, .slice p n c] w fun e w' => ∃ q d, e = .returned (.tuple #[cmV k op se (.slice a1 a2 a3) fl (.slice q n d) ep ge nn mm, .bool true]) ∧ Own w.heap.size w' (.slice q n d) l ∧ Below w.heap.size w w' := by
 obtain ⟨R, eR⟩ : ∃ R, Hid (numO l 4611686018427387904 = R) := ⟨_, (by show _ = _; rfl)⟩
 have HR := hide fun (w' : World) (hb : Below w.heap.size w w') => h.below hb
 clear h
 obtain ⟨W1, hW1⟩ : ∃ W, W = (w.alloc (.cells #[.int .i64 k, .int .i64 op, .int .u64 se, .slice a1 a2 a3, .int .i64 fl, .slice b1 b2 b3, .int .u64 ep, .int .u64 ge, .int .i64 nn, .int .i64 mm] 27)) := ⟨_, rfl⟩
 obtain ⟨W, hW⟩ : ∃ W, W = W1.alloc (.cells #[.int .i64 0, .int .i64 0, .int .u64 0, .slice none 0 0, .int .i64 0, .slice none 0 0, .int .u64 0, .int .u64 0, .int .i64 0, .int .i64 0] 27) := ⟨_, rfl⟩
 have b1' : Below w.heap.size w W1 := by rw [hW1]; exact (Below.refl _ _).alloc (Nat.le_refl _) _
 have b2' : Below W1.heap.size W1 W := by rw [hW]; exact (Below.refl _ _).alloc (Nat.le_refl _) _
 have z1 : W1.heap.size = w.heap.size + 1 := by rw [hW1]; simp
 have zW : W.heap.size = w.heap.size + 2 := by rw [hW]; simp; omega
 have bW := Below.step b1' b2'
 have C1' : CellsAre W w.heap.size [.int .i64 k, .int .i64 op, .int .u64 se, .slice a1 a2 a3, .int .i64 fl, .slice b1 b2 b3, .int .u64 ep, .int .u64 ge, .int .i64 nn, .int .i64 mm] := by
  have : CellsAre W1 w.heap.size [.int .i64 k, .int .i64 op, .int .u64 se, .slice a1 a2 a3, .int .i64 fl, .slice b1 b2 b3, .int .u64 ep, .int .u64 ge, .int .i64 nn, .int .i64 mm] := by rw [hW1]; exact CellsAre.alloc w #[.int .i64 k, .int .i64 op, .int .u64 se, .slice a1 a2 a3, .int .i64 fl, .slice b1 b2 b3, .int .u64 ep, .int .u64 ge, .int .i64 nn, .int .i64 mm] _
  exact this.below (by omega) b2'
 have C0' : CellsAre W (w.heap.size + 1) [.int .i64 0, .int .i64 0, .int .u64 0, .slice none 0 0, .int .i64 0, .slice none 0 0, .int .u64 0, .int .u64 0, .int .i64 0, .int .i64 0] := by rw [hW, show w.heap.size + 1 = W1.heap.size by omega]; exact CellsAre.alloc W1 #[.int .i64 0, .int .i64 0, .int .u64 0, .slice none 0 0, .int .i64 0, .slice none 0 0, .int .u64 0, .int .u64 0, .int .i64 0, .int .i64 0] _
 have HC := hide (And.intro C1' C0')
 go_enter Tryd.func14, Tryd.ntmps14
 go_wp2_with fail
 rw [← hW1, ← hW]
 clear hW hW1 C1' C0' b1' b2' z1
 refine (l6number_any p c n l en _ (unhide HR _ bW) hb hl 4611686018427387904 R eR).mono ?_
 rintro r w1 ⟨⟨v, rfl, -⟩, rfl⟩
 go_wp2_with fail
 refine (l1copy_n p c n l en _ (unhide HR _ bW) (by omega)).mono ?_
 rintro r w2 ⟨q, d, rfl, o2, hb2⟩
 have bb2 := Below.step bW hb2
 have D1 := (unhide HC).1.below (by omega) hb2
 have D0 := (unhide HC).2.below (by omega) hb2
 have z2 := hb2.size
 have E1 := D1.near 5 (by simp) (.slice q n d)
 have k0 := D1.1 0 _ rfl
 have k1 := D1.1 1 _ rfl
 have k2 := D1.1 2 _ rfl
 have k3 := D1.1 3 _ rfl
 have k4 := D1.1 4 _ rfl
 have k5 := D1.1 5 _ rfl
 have k6 := D1.1 6 _ rfl
 have k7 := D1.1 7 _ rfl
 have k8 := D1.1 8 _ rfl
 have k9 := D1.1 9 _ rfl
 have kf := D1.2
 have r0 := D0.1 0 _ rfl
 have r1 := D0.1 1 _ rfl
 have r2 := D0.1 2 _ rfl
 have r3 := D0.1 3 _ rfl
 have r4 := D0.1 4 _ rfl
 have r5 := D0.1 5 _ rfl
 have r6 := D0.1 6 _ rfl
 have r7 := D0.1 7 _ rfl
 have r8 := D0.1 8 _ rfl
 have r9 := D0.1 9 _ rfl
 have rf := D0.2
 have O2 := hide (Own.mono (B' := w.heap.size + 2) o2 (by omega))
 have BB := bb2
 clear D1 D0 E1 o2 hb2 HC
 go_wp2
 refine bodyPost_ret (v := .tuple #[cmV k op se (.slice a1 a2 a3) fl (.slice q n d) ep ge nn mm, .bool true]) (by simp [results, Tryd.results14, go_sem, k0, k1, k2, k3, k4, k5, k6, k7, k8, k9, r0, r1, r2, r3, r4, r5, r6, r7, r8, r9]) rfl ⟨q, d, rfl, ?_, ?_⟩
 ·refine Own.mono (B := w.heap.size + 2) ?_ (by omega)
  repeat (first | with_reducible exact unhide O2 | with_reducible refine Own.setB ?_ (by simp) _)
 ·repeat (first | with_reducible exact BB | with_reducible refine Below.setCell ?_ (by simp) _)
end Go.Proofs.YtlkhghcffhckmaaDoor
