import Derived.Test.YtlkhghcffhckmaaDoorJB
import Derived.Test.YtlkhghcffhckmaaDoorGC
namespace Go.Proofs.YtlkhghcffhckmaaDoor
open Go.ChangeShapes Go.WideShapes Go.ChangeAt Go.RowKit
set_option linter.unusedVariables false
set_option linter.unusedSimpArgs false
set_option maxRecDepth 100000

abbrev opV (k s : Int) (P : Value) (f : Int) (V : Value) (e g : Int) : Value := .agg #[.int .i64 k, .int .u64 s, P, .int .i64 f, V, .int .u64 e, .int .u64 g]
abbrev At7 (w : World) (b : Nat) (v0 v1 v2 v3 v4 v5 v6 : Value) : Prop := w.cell? ⟨b, 0, none⟩ = some v0 ∧ w.cell? ⟨b, 1, none⟩ = some v1 ∧ w.cell? ⟨b, 2, none⟩ = some v2 ∧ w.cell? ⟨b, 3, none⟩ = some v3 ∧ w.cell? ⟨b, 4, none⟩ = some v4 ∧ w.cell? ⟨b, 5, none⟩ = some v5 ∧ w.cell? ⟨b, 6, none⟩ = some v6
theorem At7.below {w w' : World} {b : Nat} {v0 v1 v2 v3 v4 v5 v6 : Value} (h : At7 w b v0 v1 v2 v3 v4 v5 v6) (hb : Below w.heap.size w w') : At7 w' b v0 v1 v2 v3 v4 v5 v6 :=
 ⟨cell_below h.1 hb, cell_below h.2.1 hb, cell_below h.2.2.1 hb, cell_below h.2.2.2.1 hb, cell_below h.2.2.2.2.1 hb, cell_below h.2.2.2.2.2.1 hb, cell_below h.2.2.2.2.2.2 hb⟩
theorem frozen_bel {w w' : World} {b : Nat} (h : ∀ o, w.frozen? ⟨b, o, none⟩ = false) (hl : b < w.heap.size) (hb : Below w.heap.size w w') : ∀ o, w'.frozen? ⟨b, o, none⟩ = false := fun o => (hb.frozen (p := ⟨b, o, none⟩) hl).trans (h o)

set_option maxHeartbeats 800000 in
theorem eqOp_n (k s f e g : Int) (p q p' q' : Option Addr) (n m c d c' d' : Nat) (P V : List Int) (ep : Hid (P.length = n)) (ev : Hid (V.length = m)) (w : World) (hp : Rd w (.slice p n c) P) (hv : Rd w (.slice q m d) V) (hp' : Rd w (.slice p' n c') P) (hv' : Rd w (.slice q' m d') V) (hn : n ≤ 1048576) (hm : m ≤ 1048576) :
  Calls Tryd.prog 18 #[opV k s (.slice p n c) f (.slice q m d) e g, opV k s (.slice p' n c') f (.slice q' m d') e g] w fun r w' => r = .returned (.bool true) ∧ Below w.heap.size w w' := by
 have hR := hide fun (w' : World) (hb : Below w.heap.size w w') => And.intro (hp.below hb) (hp'.below hb)
 have hV := hide fun (w' : World) (hb : Below w.heap.size w w') => And.intro (hv.below hb) (hv'.below hb)
 clear hp hv hp' hv'
 have e1 : (k != k) = false := by simp
 have e2 : (s != s) = false := by simp
 have e3 : (f != f) = false := by simp
 have e4 : (e != e) = false := by simp
 have e5 : (g != g) = false := by simp
 go_enter Tryd.func18, Tryd.ntmps18
 go_wp2_with fail
 obtain ⟨W, hW⟩ : ∃ W, W = ((w.alloc (.cells #[.int .i64 k, .int .u64 s, .slice p n c, .int .i64 f, .slice q m d, .int .u64 e, .int .u64 g] 25)).alloc (.cells #[.int .i64 k, .int .u64 s, .slice p' n c', .int .i64 f, .slice q' m d', .int .u64 e, .int .u64 g] 25)) := ⟨_, rfl⟩
 have bW : Below w.heap.size w W := by rw [hW]; exact ((Below.refl _ _).alloc (Nat.le_refl _) _).alloc (by simp) _
 have hA : At7 W w.heap.size (.int .i64 k) (.int .u64 s) (.slice p n c) (.int .i64 f) (.slice q m d) (.int .u64 e) (.int .u64 g) := by rw [hW]; simp [At7, go_sem]
 have hC : At7 W (w.heap.size + 1) (.int .i64 k) (.int .u64 s) (.slice p' n c') (.int .i64 f) (.slice q' m d') (.int .u64 e) (.int .u64 g) := by rw [hW]; simp [At7, go_sem]
 rw [← hW]
 clear hW
 refine (eqByteS_n p p' c c' n P ep _ (unhide hR _ bW).1 (unhide hR _ bW).2 (by omega)).mono ?_
 rintro r w1 ⟨rfl, hb1⟩
 have hA1 := hA.below hb1
 have hC1 := hC.below hb1
 have B1 := hide (Below.step bW hb1)
 clear hb1 bW hA hC
 obtain ⟨a0, a1, a2, a3, a4, a5, a6⟩ := hA1
 obtain ⟨c0, c1, c2, c3, c4, c5, c6⟩ := hC1
 go_wp2_with fail
 refine (eqByteS_n q q' d d' m V ev _ (unhide hV _ (unhide B1)).1 (unhide hV _ (unhide B1)).2 (by omega)).mono ?_
 rintro r w2 ⟨rfl, hb2⟩
 have i5 := cell_below a5 hb2
 have i6 := cell_below a6 hb2
 have j5 := cell_below c5 hb2
 have j6 := cell_below c6 hb2
 have B2 := hide (Below.step (unhide B1) hb2)
 clear hb2 a0 a1 a2 a3 a4 a5 a6 c0 c1 c2 c3 c4 c5 c6
 go_wp2
 go_ret
 exact ⟨rfl, unhide B2⟩

end Go.Proofs.YtlkhghcffhckmaaDoor
