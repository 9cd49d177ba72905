import Derived.Test.YteljknmkodllkaaSGp
import Derived.Test.YteljknmkodllkaaIBase
import Derived.Test.YteljknmkodllkaaAp
import Derived.Test.YteljknmkodllkaaLBase
import Derived.OneCell
namespace Go.Proofs.Yteljknmkodllkaa
open Go.ChangeShapes Go.WideShapes Go.ChangeAt Go.RowKit
set_option linter.unusedVariables false
set_option linter.unusedSimpArgs false

theorem Own.setOff {B : Nat} {w : World} {v : Value} {l : List Int} (h : Own B w v l) {a : Addr} (ha : v.ownBlock ≠ some a.block) (u : Value) : Own B (w.setCell a u) v l := ownsRow_setCell_other h ha u
/-- a block of another type is no row of bytes -/
theorem Own.ne_block {B : Nat} {w : World} {v : Value} {l : List Int} {b : Nat} {cs : Array Value} {t : TypeId} {fr : Nat × Nat} (h : Own B w v l) (hb : w.heap[b]? = some (.cells cs t fr)) (ht : t ≠ 5) : v.ownBlock ≠ some b := by
  intro e
  rcases h.2 with ⟨rfl, _⟩ | ⟨g, cap, cur, rfl, _, hg, _⟩
  · simp [Value.ownBlock] at e
  · simp [Value.ownBlock] at e
    subst e
    rw [hb] at hg
    simp at hg
    exact ht hg.2.1
theorem frozen_kept {vs : List Value} {w w' : World} {b : Nat} (h : ∀ o, w.frozen? ⟨b, o, none⟩ = false) (hk : Kept vs w w') (hb : b < w.heap.size) (hv : ∀ v ∈ vs, v.ownBlock ≠ some b) : ∀ o, w'.frozen? ⟨b, o, none⟩ = false :=
  fun o => (World.frozen?_of_block (hk.block b hb hv)).trans (h o)

set_option maxHeartbeats 1000000 in
theorem specAppendBad (p0 p1 p2 : Option Addr) (c0 c1 c2 : Nat) (n0 n1 n2 : Int) (l0 l1 l2 : List Int) (f : Int) (pb : Option Addr) (lb : List Int) (cb : Nat) (w : World) (h0 : Rd w (.slice p0 l0.length c0) l0) (h1 : Rd w (.slice p1 l1.length c1) l1) (h2 : Rd w (.slice p2 l2.length c2) l2) (hd : Hid ((dok l0.length n0 l1.length n1 l2.length n2 && isF f) = false)) (hs : l0.length ≤ 2097152) (hs1 : l1.length ≤ 2097152) (hs2 : l2.length ≤ 2097152) :
    Calls Try.prog 29 #[diskV (.slice p0 l0.length c0) n0 (.slice p1 l1.length c1) n1 (.slice p2 l2.length c2) n2, .int .i64 f, .slice pb lb.length cb] w (DiskRes w ([]) ([]) ([]) (0) (0) (0) 1) := by
  go_enter Try.func29, Try.ntmps29
  go_wp2_with fail
  refine (l1bad_any p0 p1 p2 _ c0 _ c1 _ c2 n0 n1 n2 f _ (by omega) (by omega) (by omega)).mono ?_
  rintro e w1 ⟨rfl, hb1⟩
  rw [unhide hd]
  have K1 : At6 w1 w.heap.size (.slice p0 l0.length c0) (.int .i64 n0) (.slice p1 l1.length c1) (.int .i64 n1) (.slice p2 l2.length c2) (.int .i64 n2) := At6.below (by simp [At6]) hb1
  have R1 : At6 w1 (w.heap.size + 1) (.slice none 0 0) (.int .i64 0) (.slice none 0 0) (.int .i64 0) (.slice none 0 0) (.int .i64 0) := At6.below (by simp [At6]) hb1
  have F1 := frozen_below (b := w.heap.size + 1) (by intro o; simp) hb1 (by simp)
  have b1 : Below w.heap.size w w1 := (((Below.refl _ _).alloc (Nat.le_refl _) _).alloc (by simp) _).trans (hb1.mono (by simp; omega))
  have z1 : w.heap.size + 1 < w1.heap.size := by have := hb1.size; simp at this; omega
  clear hb1
  have e0 := h0.below b1
  have e1 := h1.below b1
  have e2 := h2.below b1
  clear h0 h1 h2
  obtain ⟨ra, rb, rc, rd, re, rf⟩ := R1
  clear K1 e0 e1 e2
  go_wp2
  refine bodyPost_ret (v := .tuple #[zDisk, .int .i64 1]) (by simp [results, Try.results29, go_sem, ra, rb, rc, rd, re, rf]) rfl ⟨none, 0, none, 0, none, 0, rfl, Own3.nil _ _, ?_⟩
  · repeat (refine Below.setCell ?_ (by simp) _)
    exact b1

set_option maxHeartbeats 2000000 in
theorem specAppendFull0 (p0 p1 p2 : Option Addr) (c0 c1 c2 : Nat) (n0 n1 n2 : Int) (l0 l1 l2 : List Int) (pb : Option Addr) (lb lm : List Int) (elm : Hid (lm = l0 ++ lb)) (cb : Nat) (w : World) (h0 : Rd w (.slice p0 l0.length c0) l0) (h1 : Rd w (.slice p1 l1.length c1) l1) (h2 : Rd w (.slice p2 l2.length c2) l2) (hb : Rd w (.slice pb lb.length cb) lb) (hd : Hid ((dok l0.length n0 l1.length n1 l2.length n2 && isF 0) = true)) (hlb : lb.length ≤ 1048576) (hfull : 200000 < lm.length) (hs : l0.length ≤ 200000) (hs1 : l1.length ≤ 200000) (hs2 : l2.length ≤ 200000) :
    Calls Try.prog 29 #[diskV (.slice p0 l0.length c0) n0 (.slice p1 l1.length c1) n1 (.slice p2 l2.length c2) n2, .int .i64 0, .slice pb lb.length cb] w (DiskRes w (l0) (l1) (l2) (n0) (n1) (n2) 11) := by
  have hfu : 200000 < lm.length := hfull
  have hb' := hb
  have hln : lm.length = l0.length + lb.length := by rw [unhide elm, List.length_append]
  have HN := hide hln
  clear hln
  go_enter Try.func29, Try.ntmps29
  go_wp2_with fail
  refine (l1bad_any p0 p1 p2 _ c0 _ c1 _ c2 n0 n1 n2 0 _ (by omega) (by omega) (by omega)).mono ?_
  rintro e w1 ⟨rfl, hb1⟩
  rw [unhide hd]
  have K1 : At6 w1 w.heap.size (.slice p0 l0.length c0) (.int .i64 n0) (.slice p1 l1.length c1) (.int .i64 n1) (.slice p2 l2.length c2) (.int .i64 n2) := At6.below (by simp [At6]) hb1
  have R1 : At6 w1 (w.heap.size + 1) (.slice none 0 0) (.int .i64 0) (.slice none 0 0) (.int .i64 0) (.slice none 0 0) (.int .i64 0) := At6.below (by simp [At6]) hb1
  have F1 := frozen_below (b := w.heap.size + 1) (by intro o; simp) hb1 (by simp)
  have b1 : Below w.heap.size w w1 := (((Below.refl _ _).alloc (Nat.le_refl _) _).alloc (by simp) _).trans (hb1.mono (by simp; omega))
  have z1 : w.heap.size + 1 < w1.heap.size := by have := hb1.size; simp at this; omega
  clear hb1
  have e0 := h0.below b1
  have e1 := h1.below b1
  have e2 := h2.below b1
  have eb := hb'.below b1
  clear h0 h1 h2 hb hb'
  go_wp2_with fail
  refine (l1get0 p0 p1 p2 c0 c1 c2 n0 n1 n2 l0 l1 l2 _ e0 e1 e2 (by omega) (by omega) (by omega)).mono ?_
  rintro e w2 ⟨qf, df, rfl, of, hb2⟩
  have K2 := K1.below hb2
  have R2 := R1.below hb2
  have F2 := frozen_below F1 hb2 z1
  have b2 := Below.step b1 hb2
  have z2 : w.heap.size + 1 < w2.heap.size := by have := (hb2).size; omega
  have y2 : w.heap.size < w2.heap.size := by omega
  have ba : ∀ o : Obj, Below w2.heap.size w2 (w2.alloc o) := fun o => (Below.refl _ _).alloc (Nat.le_refl _) _
  have zq : ∀ b, w2.heap.size ≤ b ∨ b < w1.heap.size → ∀ v ∈ [Value.slice qf l0.length df], v.ownBlock ≠ some b := by
    intro b hb v hv e
    simp only [List.mem_singleton] at hv
    subst hv
    have := of.lt b e
    omega
  have s2 := hb2.size
  go_wp2_with (at_builtin; refine wpList_append_rd rfl _ _ rfl w1.heap.size _ l0 lb lm elm pb cb rfl rfl (Own.below of (ba _)) (eb.below (Below.step hb2 (ba _))) (by omega) (by simp; omega) ?_)
  intro pm cm w3 om hg
  have hk := Kept.of_grown (vs := [.slice qf l0.length df]) hg (by simp)
  have s3 := hk.size
  simp at s3
  have K3 := (K2.below (ba _)).kept hk (by simp; omega) (zq _ (by omega))
  have R3 := (R2.below (ba _)).kept hk (by simp; omega) (zq _ (by omega))
  have F3 := frozen_kept (frozen_below F2 (ba _) z2) hk (by simp; omega) (zq _ (by omega))
  have bx : w3.heap[w2.heap.size]? = some (.cells #[.slice qf l0.length df, .int .i64 n0] 29 (0, 0)) := (hk.block w2.heap.size (by simp) (zq _ (by omega))).trans (heap_alloc_new w2 _)
  have x0 : w3.cell? ⟨w2.heap.size, 0, none⟩ = some (.slice qf l0.length df) := by simp [World.cell?, bx]
  have x1 : w3.cell? ⟨w2.heap.size, 1, none⟩ = some (.int .i64 n0) := by simp [World.cell?, bx]
  have xf : ∀ o, w3.frozen? ⟨w2.heap.size, o, none⟩ = false := by intro o; simp [World.frozen?, bx]
  have nb := om.ne_block bx (by decide)
  have b3 : Below w1.heap.size w1 w3 := (Below.step hb2 (ba _)).trans (hk.below (by simp; omega) (fun v hv b e => by simp only [List.mem_singleton] at hv; subst hv; exact (of.lt b e).1))
  have b4 := b3.setCell (p := ⟨w2.heap.size, 0, none⟩) (by simp; omega) (.slice pm lm.length cm)
  have om4 : Own w1.heap.size _ (.slice pm lm.length cm) lm := om.setOff (a := ⟨w2.heap.size, 0, none⟩) nb (.slice pm lm.length cm)
  have bX := Below.step b1 b4
  have RX := R3.setOther (a := ⟨w2.heap.size, 0, none⟩) (by simp; omega) (.slice pm lm.length cm)
  have K3a := K3
  clear hg hk nb of hb2 K1 K2 R1 R2 F1 F2 zq bx ba
  go_wp2_with fail
  refine (l1disk_any p0 p1 p2 c0 c1 c2 n0 n1 n2 l0 l1 l2 _ (e0.below b4) (e1.below b4) (e2.below b4) (by omega) (by omega) (by omega)).mono ?_
  rintro e w5 ⟨q0, d0, q1, d1, q2, d2, rfl, o5, hb5⟩
  obtain ⟨ra, rb, rc, rd, re, rf⟩ := RX.below hb5
  have F5 := frozen_below (b := w.heap.size + 1) (by intro o; simp [F3]) hb5 (by simp; omega)
  have b5 := Below.step bX hb5
  have s5 := hb5.size
  simp at s5
  have oo : Own3 w1.heap.size w5 (.slice q0 l0.length d0) (.slice q1 l1.length d1) (.slice q2 l2.length d2) l0 l1 l2 := o5.mono (by simp; omega)
  clear RX K3 K3a R3 F3 x0 x1 xf om om4 b3 b4 bX o5 hb5 e0 e1 e2 eb
  go_wp2
  refine bodyPost_ret (v := .tuple #[diskV (.slice q0 l0.length d0) n0 (.slice q1 l1.length d1) n1 (.slice q2 l2.length d2) n2, .int .i64 11]) (by simp [results, Try.results29, go_sem, ra, rb, rc, rd, re, rf]) rfl ⟨q0, d0, q1, d1, q2, d2, rfl, ?_, ?_⟩
  · refine Own3.mono (B := w1.heap.size) ?_ (by omega)
    repeat (refine Own3.set ?_ (by simp; omega) _)
    exact oo
  · repeat (refine Below.setCell ?_ (by simp) _)
    exact b5

set_option maxHeartbeats 2000000 in
theorem specAppend0 (p0 p1 p2 : Option Addr) (c0 c1 c2 : Nat) (n0 n1 n2 : Int) (l0 l1 l2 : List Int) (pb : Option Addr) (lb lm : List Int) (elm : Hid (lm = l0 ++ lb)) (cb : Nat) (w : World) (h0 : Rd w (.slice p0 l0.length c0) l0) (h1 : Rd w (.slice p1 l1.length c1) l1) (h2 : Rd w (.slice p2 l2.length c2) l2) (hb : Rd w (.slice pb lb.length cb) lb) (hd : Hid ((dok l0.length n0 l1.length n1 l2.length n2 && isF 0) = true)) (hlb : lb.length ≤ 1048576) (hfit : lm.length ≤ 200000) (hs : l0.length ≤ 200000) (hs1 : l1.length ≤ 200000) (hs2 : l2.length ≤ 200000) :
    Calls Try.prog 29 #[diskV (.slice p0 l0.length c0) n0 (.slice p1 l1.length c1) n1 (.slice p2 l2.length c2) n2, .int .i64 0, .slice pb lb.length cb] w (DiskRes w (lm) (l1) (l2) (n0) (n1) (n2) 0) := by
  have hfu : ¬ 200000 < lm.length := by omega
  have hb' := hb
  have hln : lm.length = l0.length + lb.length := by rw [unhide elm, List.length_append]
  have HN := hide hln
  clear hln
  go_enter Try.func29, Try.ntmps29
  go_wp2_with fail
  refine (l1bad_any p0 p1 p2 _ c0 _ c1 _ c2 n0 n1 n2 0 _ (by omega) (by omega) (by omega)).mono ?_
  rintro e w1 ⟨rfl, hb1⟩
  rw [unhide hd]
  have K1 : At6 w1 w.heap.size (.slice p0 l0.length c0) (.int .i64 n0) (.slice p1 l1.length c1) (.int .i64 n1) (.slice p2 l2.length c2) (.int .i64 n2) := At6.below (by simp [At6]) hb1
  have R1 : At6 w1 (w.heap.size + 1) (.slice none 0 0) (.int .i64 0) (.slice none 0 0) (.int .i64 0) (.slice none 0 0) (.int .i64 0) := At6.below (by simp [At6]) hb1
  have F1 := frozen_below (b := w.heap.size + 1) (by intro o; simp) hb1 (by simp)
  have b1 : Below w.heap.size w w1 := (((Below.refl _ _).alloc (Nat.le_refl _) _).alloc (by simp) _).trans (hb1.mono (by simp; omega))
  have z1 : w.heap.size + 1 < w1.heap.size := by have := hb1.size; simp at this; omega
  clear hb1
  have e0 := h0.below b1
  have e1 := h1.below b1
  have e2 := h2.below b1
  have eb := hb'.below b1
  clear h0 h1 h2 hb hb'
  go_wp2_with fail
  refine (l1get0 p0 p1 p2 c0 c1 c2 n0 n1 n2 l0 l1 l2 _ e0 e1 e2 (by omega) (by omega) (by omega)).mono ?_
  rintro e w2 ⟨qf, df, rfl, of, hb2⟩
  have K2 := K1.below hb2
  have R2 := R1.below hb2
  have F2 := frozen_below F1 hb2 z1
  have b2 := Below.step b1 hb2
  have z2 : w.heap.size + 1 < w2.heap.size := by have := (hb2).size; omega
  have y2 : w.heap.size < w2.heap.size := by omega
  have ba : ∀ o : Obj, Below w2.heap.size w2 (w2.alloc o) := fun o => (Below.refl _ _).alloc (Nat.le_refl _) _
  have zq : ∀ b, w2.heap.size ≤ b ∨ b < w1.heap.size → ∀ v ∈ [Value.slice qf l0.length df], v.ownBlock ≠ some b := by
    intro b hb v hv e
    simp only [List.mem_singleton] at hv
    subst hv
    have := of.lt b e
    omega
  have s2 := hb2.size
  go_wp2_with (at_builtin; refine wpList_append_rd rfl _ _ rfl w1.heap.size _ l0 lb lm elm pb cb rfl rfl (Own.below of (ba _)) (eb.below (Below.step hb2 (ba _))) (by omega) (by simp; omega) ?_)
  intro pm cm w3 om hg
  have hk := Kept.of_grown (vs := [.slice qf l0.length df]) hg (by simp)
  have s3 := hk.size
  simp at s3
  have K3 := (K2.below (ba _)).kept hk (by simp; omega) (zq _ (by omega))
  have R3 := (R2.below (ba _)).kept hk (by simp; omega) (zq _ (by omega))
  have F3 := frozen_kept (frozen_below F2 (ba _) z2) hk (by simp; omega) (zq _ (by omega))
  have bx : w3.heap[w2.heap.size]? = some (.cells #[.slice qf l0.length df, .int .i64 n0] 29 (0, 0)) := (hk.block w2.heap.size (by simp) (zq _ (by omega))).trans (heap_alloc_new w2 _)
  have x0 : w3.cell? ⟨w2.heap.size, 0, none⟩ = some (.slice qf l0.length df) := by simp [World.cell?, bx]
  have x1 : w3.cell? ⟨w2.heap.size, 1, none⟩ = some (.int .i64 n0) := by simp [World.cell?, bx]
  have xf : ∀ o, w3.frozen? ⟨w2.heap.size, o, none⟩ = false := by intro o; simp [World.frozen?, bx]
  have nb := om.ne_block bx (by decide)
  have b3 : Below w1.heap.size w1 w3 := (Below.step hb2 (ba _)).trans (hk.below (by simp; omega) (fun v hv b e => by simp only [List.mem_singleton] at hv; subst hv; exact (of.lt b e).1))
  have b4 := b3.setCell (p := ⟨w2.heap.size, 0, none⟩) (by simp; omega) (.slice pm lm.length cm)
  have om4 : Own w1.heap.size _ (.slice pm lm.length cm) lm := om.setOff (a := ⟨w2.heap.size, 0, none⟩) nb (.slice pm lm.length cm)
  have bX := Below.step b1 b4
  have RX := R3.setOther (a := ⟨w2.heap.size, 0, none⟩) (by simp; omega) (.slice pm lm.length cm)
  have K3a := K3
  clear hg hk nb of hb2 K1 K2 R1 R2 F1 F2 zq bx ba
  go_wp2_with fail
  refine (l1put0 p0 p1 p2 c0 c1 c2 n0 n1 n2 l0 l1 l2 pm cm n0 lm _ (e0.below b4) (e1.below b4) (e2.below b4) (by omega) (by omega) (by omega)).mono ?_
  rintro e w5 ⟨q0, d0, q1, d1, q2, d2, rfl, o5, hb5⟩
  obtain ⟨ra, rb, rc, rd, re, rf⟩ := RX.below hb5
  have F5 := frozen_below (b := w.heap.size + 1) (by intro o; simp [F3]) hb5 (by simp; omega)
  have b5 := Below.step bX hb5
  have s5 := hb5.size
  simp at s5
  have oo : Own3 w1.heap.size w5 (.slice pm lm.length cm) (.slice q1 l1.length d1) (.slice q2 l2.length d2) lm l1 l2 := Own3.put0 o5 (Own.below om4 hb5) (fun b hb => by have := (om4.lt b hb).2; simp at this ⊢; omega) (by simp; omega)
  clear RX K3 K3a R3 F3 x0 x1 xf om om4 b3 b4 bX o5 hb5 e0 e1 e2 eb
  go_wp2
  refine bodyPost_ret (v := .tuple #[diskV (.slice pm lm.length cm) n0 (.slice q1 l1.length d1) n1 (.slice q2 l2.length d2) n2, .int .i64 0]) (by simp [results, Try.results29, go_sem, ra, rb, rc, rd, re, rf]) rfl ⟨pm, cm, q1, d1, q2, d2, rfl, ?_, ?_⟩
  · refine Own3.mono (B := w1.heap.size) ?_ (by omega)
    repeat (refine Own3.set ?_ (by simp; omega) _)
    exact oo
  · repeat (refine Below.setCell ?_ (by simp) _)
    exact b5

set_option maxHeartbeats 2000000 in
theorem specAppendFull1 (p0 p1 p2 : Option Addr) (c0 c1 c2 : Nat) (n0 n1 n2 : Int) (l0 l1 l2 : List Int) (pb : Option Addr) (lb lm : List Int) (elm : Hid (lm = l1 ++ lb)) (cb : Nat) (w : World) (h0 : Rd w (.slice p0 l0.length c0) l0) (h1 : Rd w (.slice p1 l1.length c1) l1) (h2 : Rd w (.slice p2 l2.length c2) l2) (hb : Rd w (.slice pb lb.length cb) lb) (hd : Hid ((dok l0.length n0 l1.length n1 l2.length n2 && isF 1) = true)) (hlb : lb.length ≤ 1048576) (hfull : 200000 < lm.length) (hs : l0.length ≤ 200000) (hs1 : l1.length ≤ 200000) (hs2 : l2.length ≤ 200000) :
    Calls Try.prog 29 #[diskV (.slice p0 l0.length c0) n0 (.slice p1 l1.length c1) n1 (.slice p2 l2.length c2) n2, .int .i64 1, .slice pb lb.length cb] w (DiskRes w (l0) (l1) (l2) (n0) (n1) (n2) 11) := by
  have hfu : 200000 < lm.length := hfull
  have hb' := hb
  have hln : lm.length = l1.length + lb.length := by rw [unhide elm, List.length_append]
  have HN := hide hln
  clear hln
  go_enter Try.func29, Try.ntmps29
  go_wp2_with fail
  refine (l1bad_any p0 p1 p2 _ c0 _ c1 _ c2 n0 n1 n2 1 _ (by omega) (by omega) (by omega)).mono ?_
  rintro e w1 ⟨rfl, hb1⟩
  rw [unhide hd]
  have K1 : At6 w1 w.heap.size (.slice p0 l0.length c0) (.int .i64 n0) (.slice p1 l1.length c1) (.int .i64 n1) (.slice p2 l2.length c2) (.int .i64 n2) := At6.below (by simp [At6]) hb1
  have R1 : At6 w1 (w.heap.size + 1) (.slice none 0 0) (.int .i64 0) (.slice none 0 0) (.int .i64 0) (.slice none 0 0) (.int .i64 0) := At6.below (by simp [At6]) hb1
  have F1 := frozen_below (b := w.heap.size + 1) (by intro o; simp) hb1 (by simp)
  have b1 : Below w.heap.size w w1 := (((Below.refl _ _).alloc (Nat.le_refl _) _).alloc (by simp) _).trans (hb1.mono (by simp; omega))
  have z1 : w.heap.size + 1 < w1.heap.size := by have := hb1.size; simp at this; omega
  clear hb1
  have e0 := h0.below b1
  have e1 := h1.below b1
  have e2 := h2.below b1
  have eb := hb'.below b1
  clear h0 h1 h2 hb hb'
  go_wp2_with fail
  refine (l1get1 p0 p1 p2 c0 c1 c2 n0 n1 n2 l0 l1 l2 _ e0 e1 e2 (by omega) (by omega) (by omega)).mono ?_
  rintro e w2 ⟨qf, df, rfl, of, hb2⟩
  have K2 := K1.below hb2
  have R2 := R1.below hb2
  have F2 := frozen_below F1 hb2 z1
  have b2 := Below.step b1 hb2
  have z2 : w.heap.size + 1 < w2.heap.size := by have := (hb2).size; omega
  have y2 : w.heap.size < w2.heap.size := by omega
  have ba : ∀ o : Obj, Below w2.heap.size w2 (w2.alloc o) := fun o => (Below.refl _ _).alloc (Nat.le_refl _) _
  have zq : ∀ b, w2.heap.size ≤ b ∨ b < w1.heap.size → ∀ v ∈ [Value.slice qf l1.length df], v.ownBlock ≠ some b := by
    intro b hb v hv e
    simp only [List.mem_singleton] at hv
    subst hv
    have := of.lt b e
    omega
  have s2 := hb2.size
  go_wp2_with (at_builtin; refine wpList_append_rd rfl _ _ rfl w1.heap.size _ l1 lb lm elm pb cb rfl rfl (Own.below of (ba _)) (eb.below (Below.step hb2 (ba _))) (by omega) (by simp; omega) ?_)
  intro pm cm w3 om hg
  have hk := Kept.of_grown (vs := [.slice qf l1.length df]) hg (by simp)
  have s3 := hk.size
  simp at s3
  have K3 := (K2.below (ba _)).kept hk (by simp; omega) (zq _ (by omega))
  have R3 := (R2.below (ba _)).kept hk (by simp; omega) (zq _ (by omega))
  have F3 := frozen_kept (frozen_below F2 (ba _) z2) hk (by simp; omega) (zq _ (by omega))
  have bx : w3.heap[w2.heap.size]? = some (.cells #[.slice qf l1.length df, .int .i64 n1] 29 (0, 0)) := (hk.block w2.heap.size (by simp) (zq _ (by omega))).trans (heap_alloc_new w2 _)
  have x0 : w3.cell? ⟨w2.heap.size, 0, none⟩ = some (.slice qf l1.length df) := by simp [World.cell?, bx]
  have x1 : w3.cell? ⟨w2.heap.size, 1, none⟩ = some (.int .i64 n1) := by simp [World.cell?, bx]
  have xf : ∀ o, w3.frozen? ⟨w2.heap.size, o, none⟩ = false := by intro o; simp [World.frozen?, bx]
  have nb := om.ne_block bx (by decide)
  have b3 : Below w1.heap.size w1 w3 := (Below.step hb2 (ba _)).trans (hk.below (by simp; omega) (fun v hv b e => by simp only [List.mem_singleton] at hv; subst hv; exact (of.lt b e).1))
  have b4 := b3.setCell (p := ⟨w2.heap.size, 0, none⟩) (by simp; omega) (.slice pm lm.length cm)
  have om4 : Own w1.heap.size _ (.slice pm lm.length cm) lm := om.setOff (a := ⟨w2.heap.size, 0, none⟩) nb (.slice pm lm.length cm)
  have bX := Below.step b1 b4
  have RX := R3.setOther (a := ⟨w2.heap.size, 0, none⟩) (by simp; omega) (.slice pm lm.length cm)
  have K3a := K3
  clear hg hk nb of hb2 K1 K2 R1 R2 F1 F2 zq bx ba
  go_wp2_with fail
  refine (l1disk_any p0 p1 p2 c0 c1 c2 n0 n1 n2 l0 l1 l2 _ (e0.below b4) (e1.below b4) (e2.below b4) (by omega) (by omega) (by omega)).mono ?_
  rintro e w5 ⟨q0, d0, q1, d1, q2, d2, rfl, o5, hb5⟩
  obtain ⟨ra, rb, rc, rd, re, rf⟩ := RX.below hb5
  have F5 := frozen_below (b := w.heap.size + 1) (by intro o; simp [F3]) hb5 (by simp; omega)
  have b5 := Below.step bX hb5
  have s5 := hb5.size
  simp at s5
  have oo : Own3 w1.heap.size w5 (.slice q0 l0.length d0) (.slice q1 l1.length d1) (.slice q2 l2.length d2) l0 l1 l2 := o5.mono (by simp; omega)
  clear RX K3 K3a R3 F3 x0 x1 xf om om4 b3 b4 bX o5 hb5 e0 e1 e2 eb
  go_wp2
  refine bodyPost_ret (v := .tuple #[diskV (.slice q0 l0.length d0) n0 (.slice q1 l1.length d1) n1 (.slice q2 l2.length d2) n2, .int .i64 11]) (by simp [results, Try.results29, go_sem, ra, rb, rc, rd, re, rf]) rfl ⟨q0, d0, q1, d1, q2, d2, rfl, ?_, ?_⟩
  · refine Own3.mono (B := w1.heap.size) ?_ (by omega)
    repeat (refine Own3.set ?_ (by simp; omega) _)
    exact oo
  · repeat (refine Below.setCell ?_ (by simp) _)
    exact b5

set_option maxHeartbeats 2000000 in
theorem specAppend1 (p0 p1 p2 : Option Addr) (c0 c1 c2 : Nat) (n0 n1 n2 : Int) (l0 l1 l2 : List Int) (pb : Option Addr) (lb lm : List Int) (elm : Hid (lm = l1 ++ lb)) (cb : Nat) (w : World) (h0 : Rd w (.slice p0 l0.length c0) l0) (h1 : Rd w (.slice p1 l1.length c1) l1) (h2 : Rd w (.slice p2 l2.length c2) l2) (hb : Rd w (.slice pb lb.length cb) lb) (hd : Hid ((dok l0.length n0 l1.length n1 l2.length n2 && isF 1) = true)) (hlb : lb.length ≤ 1048576) (hfit : lm.length ≤ 200000) (hs : l0.length ≤ 200000) (hs1 : l1.length ≤ 200000) (hs2 : l2.length ≤ 200000) :
    Calls Try.prog 29 #[diskV (.slice p0 l0.length c0) n0 (.slice p1 l1.length c1) n1 (.slice p2 l2.length c2) n2, .int .i64 1, .slice pb lb.length cb] w (DiskRes w (l0) (lm) (l2) (n0) (n1) (n2) 0) := by
  have hfu : ¬ 200000 < lm.length := by omega
  have hb' := hb
  have hln : lm.length = l1.length + lb.length := by rw [unhide elm, List.length_append]
  have HN := hide hln
  clear hln
  go_enter Try.func29, Try.ntmps29
  go_wp2_with fail
  refine (l1bad_any p0 p1 p2 _ c0 _ c1 _ c2 n0 n1 n2 1 _ (by omega) (by omega) (by omega)).mono ?_
  rintro e w1 ⟨rfl, hb1⟩
  rw [unhide hd]
  have K1 : At6 w1 w.heap.size (.slice p0 l0.length c0) (.int .i64 n0) (.slice p1 l1.length c1) (.int .i64 n1) (.slice p2 l2.length c2) (.int .i64 n2) := At6.below (by simp [At6]) hb1
  have R1 : At6 w1 (w.heap.size + 1) (.slice none 0 0) (.int .i64 0) (.slice none 0 0) (.int .i64 0) (.slice none 0 0) (.int .i64 0) := At6.below (by simp [At6]) hb1
  have F1 := frozen_below (b := w.heap.size + 1) (by intro o; simp) hb1 (by simp)
  have b1 : Below w.heap.size w w1 := (((Below.refl _ _).alloc (Nat.le_refl _) _).alloc (by simp) _).trans (hb1.mono (by simp; omega))
  have z1 : w.heap.size + 1 < w1.heap.size := by have := hb1.size; simp at this; omega
  clear hb1
  have e0 := h0.below b1
  have e1 := h1.below b1
  have e2 := h2.below b1
  have eb := hb'.below b1
  clear h0 h1 h2 hb hb'
  go_wp2_with fail
  refine (l1get1 p0 p1 p2 c0 c1 c2 n0 n1 n2 l0 l1 l2 _ e0 e1 e2 (by omega) (by omega) (by omega)).mono ?_
  rintro e w2 ⟨qf, df, rfl, of, hb2⟩
  have K2 := K1.below hb2
  have R2 := R1.below hb2
  have F2 := frozen_below F1 hb2 z1
  have b2 := Below.step b1 hb2
  have z2 : w.heap.size + 1 < w2.heap.size := by have := (hb2).size; omega
  have y2 : w.heap.size < w2.heap.size := by omega
  have ba : ∀ o : Obj, Below w2.heap.size w2 (w2.alloc o) := fun o => (Below.refl _ _).alloc (Nat.le_refl _) _
  have zq : ∀ b, w2.heap.size ≤ b ∨ b < w1.heap.size → ∀ v ∈ [Value.slice qf l1.length df], v.ownBlock ≠ some b := by
    intro b hb v hv e
    simp only [List.mem_singleton] at hv
    subst hv
    have := of.lt b e
    omega
  have s2 := hb2.size
  go_wp2_with (at_builtin; refine wpList_append_rd rfl _ _ rfl w1.heap.size _ l1 lb lm elm pb cb rfl rfl (Own.below of (ba _)) (eb.below (Below.step hb2 (ba _))) (by omega) (by simp; omega) ?_)
  intro pm cm w3 om hg
  have hk := Kept.of_grown (vs := [.slice qf l1.length df]) hg (by simp)
  have s3 := hk.size
  simp at s3
  have K3 := (K2.below (ba _)).kept hk (by simp; omega) (zq _ (by omega))
  have R3 := (R2.below (ba _)).kept hk (by simp; omega) (zq _ (by omega))
  have F3 := frozen_kept (frozen_below F2 (ba _) z2) hk (by simp; omega) (zq _ (by omega))
  have bx : w3.heap[w2.heap.size]? = some (.cells #[.slice qf l1.length df, .int .i64 n1] 29 (0, 0)) := (hk.block w2.heap.size (by simp) (zq _ (by omega))).trans (heap_alloc_new w2 _)
  have x0 : w3.cell? ⟨w2.heap.size, 0, none⟩ = some (.slice qf l1.length df) := by simp [World.cell?, bx]
  have x1 : w3.cell? ⟨w2.heap.size, 1, none⟩ = some (.int .i64 n1) := by simp [World.cell?, bx]
  have xf : ∀ o, w3.frozen? ⟨w2.heap.size, o, none⟩ = false := by intro o; simp [World.frozen?, bx]
  have nb := om.ne_block bx (by decide)
  have b3 : Below w1.heap.size w1 w3 := (Below.step hb2 (ba _)).trans (hk.below (by simp; omega) (fun v hv b e => by simp only [List.mem_singleton] at hv; subst hv; exact (of.lt b e).1))
  have b4 := b3.setCell (p := ⟨w2.heap.size, 0, none⟩) (by simp; omega) (.slice pm lm.length cm)
  have om4 : Own w1.heap.size _ (.slice pm lm.length cm) lm := om.setOff (a := ⟨w2.heap.size, 0, none⟩) nb (.slice pm lm.length cm)
  have bX := Below.step b1 b4
  have RX := R3.setOther (a := ⟨w2.heap.size, 0, none⟩) (by simp; omega) (.slice pm lm.length cm)
  have K3a := K3
  clear hg hk nb of hb2 K1 K2 R1 R2 F1 F2 zq bx ba
  go_wp2_with fail
  refine (l1put1 p0 p1 p2 c0 c1 c2 n0 n1 n2 l0 l1 l2 pm cm n1 lm _ (e0.below b4) (e1.below b4) (e2.below b4) (by omega) (by omega) (by omega)).mono ?_
  rintro e w5 ⟨q0, d0, q1, d1, q2, d2, rfl, o5, hb5⟩
  obtain ⟨ra, rb, rc, rd, re, rf⟩ := RX.below hb5
  have F5 := frozen_below (b := w.heap.size + 1) (by intro o; simp [F3]) hb5 (by simp; omega)
  have b5 := Below.step bX hb5
  have s5 := hb5.size
  simp at s5
  have oo : Own3 w1.heap.size w5 (.slice q0 l0.length d0) (.slice pm lm.length cm) (.slice q2 l2.length d2) l0 lm l2 := Own3.put1 o5 (Own.below om4 hb5) (fun b hb => by have := (om4.lt b hb).2; simp at this ⊢; omega) (by simp; omega)
  clear RX K3 K3a R3 F3 x0 x1 xf om om4 b3 b4 bX o5 hb5 e0 e1 e2 eb
  go_wp2
  refine bodyPost_ret (v := .tuple #[diskV (.slice q0 l0.length d0) n0 (.slice pm lm.length cm) n1 (.slice q2 l2.length d2) n2, .int .i64 0]) (by simp [results, Try.results29, go_sem, ra, rb, rc, rd, re, rf]) rfl ⟨q0, d0, pm, cm, q2, d2, rfl, ?_, ?_⟩
  · refine Own3.mono (B := w1.heap.size) ?_ (by omega)
    repeat (refine Own3.set ?_ (by simp; omega) _)
    exact oo
  · repeat (refine Below.setCell ?_ (by simp) _)
    exact b5

set_option maxHeartbeats 2000000 in
theorem specAppendFull2 (p0 p1 p2 : Option Addr) (c0 c1 c2 : Nat) (n0 n1 n2 : Int) (l0 l1 l2 : List Int) (pb : Option Addr) (lb lm : List Int) (elm : Hid (lm = l2 ++ lb)) (cb : Nat) (w : World) (h0 : Rd w (.slice p0 l0.length c0) l0) (h1 : Rd w (.slice p1 l1.length c1) l1) (h2 : Rd w (.slice p2 l2.length c2) l2) (hb : Rd w (.slice pb lb.length cb) lb) (hd : Hid ((dok l0.length n0 l1.length n1 l2.length n2 && isF 2) = true)) (hlb : lb.length ≤ 1048576) (hfull : 200000 < lm.length) (hs : l0.length ≤ 200000) (hs1 : l1.length ≤ 200000) (hs2 : l2.length ≤ 200000) :
    Calls Try.prog 29 #[diskV (.slice p0 l0.length c0) n0 (.slice p1 l1.length c1) n1 (.slice p2 l2.length c2) n2, .int .i64 2, .slice pb lb.length cb] w (DiskRes w (l0) (l1) (l2) (n0) (n1) (n2) 11) := by
  have hfu : 200000 < lm.length := hfull
  have hb' := hb
  have hln : lm.length = l2.length + lb.length := by rw [unhide elm, List.length_append]
  have HN := hide hln
  clear hln
  go_enter Try.func29, Try.ntmps29
  go_wp2_with fail
  refine (l1bad_any p0 p1 p2 _ c0 _ c1 _ c2 n0 n1 n2 2 _ (by omega) (by omega) (by omega)).mono ?_
  rintro e w1 ⟨rfl, hb1⟩
  rw [unhide hd]
  have K1 : At6 w1 w.heap.size (.slice p0 l0.length c0) (.int .i64 n0) (.slice p1 l1.length c1) (.int .i64 n1) (.slice p2 l2.length c2) (.int .i64 n2) := At6.below (by simp [At6]) hb1
  have R1 : At6 w1 (w.heap.size + 1) (.slice none 0 0) (.int .i64 0) (.slice none 0 0) (.int .i64 0) (.slice none 0 0) (.int .i64 0) := At6.below (by simp [At6]) hb1
  have F1 := frozen_below (b := w.heap.size + 1) (by intro o; simp) hb1 (by simp)
  have b1 : Below w.heap.size w w1 := (((Below.refl _ _).alloc (Nat.le_refl _) _).alloc (by simp) _).trans (hb1.mono (by simp; omega))
  have z1 : w.heap.size + 1 < w1.heap.size := by have := hb1.size; simp at this; omega
  clear hb1
  have e0 := h0.below b1
  have e1 := h1.below b1
  have e2 := h2.below b1
  have eb := hb'.below b1
  clear h0 h1 h2 hb hb'
  go_wp2_with fail
  refine (l1get2 p0 p1 p2 c0 c1 c2 n0 n1 n2 l0 l1 l2 _ e0 e1 e2 (by omega) (by omega) (by omega)).mono ?_
  rintro e w2 ⟨qf, df, rfl, of, hb2⟩
  have K2 := K1.below hb2
  have R2 := R1.below hb2
  have F2 := frozen_below F1 hb2 z1
  have b2 := Below.step b1 hb2
  have z2 : w.heap.size + 1 < w2.heap.size := by have := (hb2).size; omega
  have y2 : w.heap.size < w2.heap.size := by omega
  have ba : ∀ o : Obj, Below w2.heap.size w2 (w2.alloc o) := fun o => (Below.refl _ _).alloc (Nat.le_refl _) _
  have zq : ∀ b, w2.heap.size ≤ b ∨ b < w1.heap.size → ∀ v ∈ [Value.slice qf l2.length df], v.ownBlock ≠ some b := by
    intro b hb v hv e
    simp only [List.mem_singleton] at hv
    subst hv
    have := of.lt b e
    omega
  have s2 := hb2.size
  go_wp2_with (at_builtin; refine wpList_append_rd rfl _ _ rfl w1.heap.size _ l2 lb lm elm pb cb rfl rfl (Own.below of (ba _)) (eb.below (Below.step hb2 (ba _))) (by omega) (by simp; omega) ?_)
  intro pm cm w3 om hg
  have hk := Kept.of_grown (vs := [.slice qf l2.length df]) hg (by simp)
  have s3 := hk.size
  simp at s3
  have K3 := (K2.below (ba _)).kept hk (by simp; omega) (zq _ (by omega))
  have R3 := (R2.below (ba _)).kept hk (by simp; omega) (zq _ (by omega))
  have F3 := frozen_kept (frozen_below F2 (ba _) z2) hk (by simp; omega) (zq _ (by omega))
  have bx : w3.heap[w2.heap.size]? = some (.cells #[.slice qf l2.length df, .int .i64 n2] 29 (0, 0)) := (hk.block w2.heap.size (by simp) (zq _ (by omega))).trans (heap_alloc_new w2 _)
  have x0 : w3.cell? ⟨w2.heap.size, 0, none⟩ = some (.slice qf l2.length df) := by simp [World.cell?, bx]
  have x1 : w3.cell? ⟨w2.heap.size, 1, none⟩ = some (.int .i64 n2) := by simp [World.cell?, bx]
  have xf : ∀ o, w3.frozen? ⟨w2.heap.size, o, none⟩ = false := by intro o; simp [World.frozen?, bx]
  have nb := om.ne_block bx (by decide)
  have b3 : Below w1.heap.size w1 w3 := (Below.step hb2 (ba _)).trans (hk.below (by simp; omega) (fun v hv b e => by simp only [List.mem_singleton] at hv; subst hv; exact (of.lt b e).1))
  have b4 := b3.setCell (p := ⟨w2.heap.size, 0, none⟩) (by simp; omega) (.slice pm lm.length cm)
  have om4 : Own w1.heap.size _ (.slice pm lm.length cm) lm := om.setOff (a := ⟨w2.heap.size, 0, none⟩) nb (.slice pm lm.length cm)
  have bX := Below.step b1 b4
  have RX := R3.setOther (a := ⟨w2.heap.size, 0, none⟩) (by simp; omega) (.slice pm lm.length cm)
  have K3a := K3
  clear hg hk nb of hb2 K1 K2 R1 R2 F1 F2 zq bx ba
  go_wp2_with fail
  refine (l1disk_any p0 p1 p2 c0 c1 c2 n0 n1 n2 l0 l1 l2 _ (e0.below b4) (e1.below b4) (e2.below b4) (by omega) (by omega) (by omega)).mono ?_
  rintro e w5 ⟨q0, d0, q1, d1, q2, d2, rfl, o5, hb5⟩
  obtain ⟨ra, rb, rc, rd, re, rf⟩ := RX.below hb5
  have F5 := frozen_below (b := w.heap.size + 1) (by intro o; simp [F3]) hb5 (by simp; omega)
  have b5 := Below.step bX hb5
  have s5 := hb5.size
  simp at s5
  have oo : Own3 w1.heap.size w5 (.slice q0 l0.length d0) (.slice q1 l1.length d1) (.slice q2 l2.length d2) l0 l1 l2 := o5.mono (by simp; omega)
  clear RX K3 K3a R3 F3 x0 x1 xf om om4 b3 b4 bX o5 hb5 e0 e1 e2 eb
  go_wp2
  refine bodyPost_ret (v := .tuple #[diskV (.slice q0 l0.length d0) n0 (.slice q1 l1.length d1) n1 (.slice q2 l2.length d2) n2, .int .i64 11]) (by simp [results, Try.results29, go_sem, ra, rb, rc, rd, re, rf]) rfl ⟨q0, d0, q1, d1, q2, d2, rfl, ?_, ?_⟩
  · refine Own3.mono (B := w1.heap.size) ?_ (by omega)
    repeat (refine Own3.set ?_ (by simp; omega) _)
    exact oo
  · repeat (refine Below.setCell ?_ (by simp) _)
    exact b5

set_option maxHeartbeats 2000000 in
theorem specAppend2 (p0 p1 p2 : Option Addr) (c0 c1 c2 : Nat) (n0 n1 n2 : Int) (l0 l1 l2 : List Int) (pb : Option Addr) (lb lm : List Int) (elm : Hid (lm = l2 ++ lb)) (cb : Nat) (w : World) (h0 : Rd w (.slice p0 l0.length c0) l0) (h1 : Rd w (.slice p1 l1.length c1) l1) (h2 : Rd w (.slice p2 l2.length c2) l2) (hb : Rd w (.slice pb lb.length cb) lb) (hd : Hid ((dok l0.length n0 l1.length n1 l2.length n2 && isF 2) = true)) (hlb : lb.length ≤ 1048576) (hfit : lm.length ≤ 200000) (hs : l0.length ≤ 200000) (hs1 : l1.length ≤ 200000) (hs2 : l2.length ≤ 200000) :
    Calls Try.prog 29 #[diskV (.slice p0 l0.length c0) n0 (.slice p1 l1.length c1) n1 (.slice p2 l2.length c2) n2, .int .i64 2, .slice pb lb.length cb] w (DiskRes w (l0) (l1) (lm) (n0) (n1) (n2) 0) := by
  have hfu : ¬ 200000 < lm.length := by omega
  have hb' := hb
  have hln : lm.length = l2.length + lb.length := by rw [unhide elm, List.length_append]
  have HN := hide hln
  clear hln
  go_enter Try.func29, Try.ntmps29
  go_wp2_with fail
  refine (l1bad_any p0 p1 p2 _ c0 _ c1 _ c2 n0 n1 n2 2 _ (by omega) (by omega) (by omega)).mono ?_
  rintro e w1 ⟨rfl, hb1⟩
  rw [unhide hd]
  have K1 : At6 w1 w.heap.size (.slice p0 l0.length c0) (.int .i64 n0) (.slice p1 l1.length c1) (.int .i64 n1) (.slice p2 l2.length c2) (.int .i64 n2) := At6.below (by simp [At6]) hb1
  have R1 : At6 w1 (w.heap.size + 1) (.slice none 0 0) (.int .i64 0) (.slice none 0 0) (.int .i64 0) (.slice none 0 0) (.int .i64 0) := At6.below (by simp [At6]) hb1
  have F1 := frozen_below (b := w.heap.size + 1) (by intro o; simp) hb1 (by simp)
  have b1 : Below w.heap.size w w1 := (((Below.refl _ _).alloc (Nat.le_refl _) _).alloc (by simp) _).trans (hb1.mono (by simp; omega))
  have z1 : w.heap.size + 1 < w1.heap.size := by have := hb1.size; simp at this; omega
  clear hb1
  have e0 := h0.below b1
  have e1 := h1.below b1
  have e2 := h2.below b1
  have eb := hb'.below b1
  clear h0 h1 h2 hb hb'
  go_wp2_with fail
  refine (l1get2 p0 p1 p2 c0 c1 c2 n0 n1 n2 l0 l1 l2 _ e0 e1 e2 (by omega) (by omega) (by omega)).mono ?_
  rintro e w2 ⟨qf, df, rfl, of, hb2⟩
  have K2 := K1.below hb2
  have R2 := R1.below hb2
  have F2 := frozen_below F1 hb2 z1
  have b2 := Below.step b1 hb2
  have z2 : w.heap.size + 1 < w2.heap.size := by have := (hb2).size; omega
  have y2 : w.heap.size < w2.heap.size := by omega
  have ba : ∀ o : Obj, Below w2.heap.size w2 (w2.alloc o) := fun o => (Below.refl _ _).alloc (Nat.le_refl _) _
  have zq : ∀ b, w2.heap.size ≤ b ∨ b < w1.heap.size → ∀ v ∈ [Value.slice qf l2.length df], v.ownBlock ≠ some b := by
    intro b hb v hv e
    simp only [List.mem_singleton] at hv
    subst hv
    have := of.lt b e
    omega
  have s2 := hb2.size
  go_wp2_with (at_builtin; refine wpList_append_rd rfl _ _ rfl w1.heap.size _ l2 lb lm elm pb cb rfl rfl (Own.below of (ba _)) (eb.below (Below.step hb2 (ba _))) (by omega) (by simp; omega) ?_)
  intro pm cm w3 om hg
  have hk := Kept.of_grown (vs := [.slice qf l2.length df]) hg (by simp)
  have s3 := hk.size
  simp at s3
  have K3 := (K2.below (ba _)).kept hk (by simp; omega) (zq _ (by omega))
  have R3 := (R2.below (ba _)).kept hk (by simp; omega) (zq _ (by omega))
  have F3 := frozen_kept (frozen_below F2 (ba _) z2) hk (by simp; omega) (zq _ (by omega))
  have bx : w3.heap[w2.heap.size]? = some (.cells #[.slice qf l2.length df, .int .i64 n2] 29 (0, 0)) := (hk.block w2.heap.size (by simp) (zq _ (by omega))).trans (heap_alloc_new w2 _)
  have x0 : w3.cell? ⟨w2.heap.size, 0, none⟩ = some (.slice qf l2.length df) := by simp [World.cell?, bx]
  have x1 : w3.cell? ⟨w2.heap.size, 1, none⟩ = some (.int .i64 n2) := by simp [World.cell?, bx]
  have xf : ∀ o, w3.frozen? ⟨w2.heap.size, o, none⟩ = false := by intro o; simp [World.frozen?, bx]
  have nb := om.ne_block bx (by decide)
  have b3 : Below w1.heap.size w1 w3 := (Below.step hb2 (ba _)).trans (hk.below (by simp; omega) (fun v hv b e => by simp only [List.mem_singleton] at hv; subst hv; exact (of.lt b e).1))
  have b4 := b3.setCell (p := ⟨w2.heap.size, 0, none⟩) (by simp; omega) (.slice pm lm.length cm)
  have om4 : Own w1.heap.size _ (.slice pm lm.length cm) lm := om.setOff (a := ⟨w2.heap.size, 0, none⟩) nb (.slice pm lm.length cm)
  have bX := Below.step b1 b4
  have RX := R3.setOther (a := ⟨w2.heap.size, 0, none⟩) (by simp; omega) (.slice pm lm.length cm)
  have K3a := K3
  clear hg hk nb of hb2 K1 K2 R1 R2 F1 F2 zq bx ba
  go_wp2_with fail
  refine (l1put2 p0 p1 p2 c0 c1 c2 n0 n1 n2 l0 l1 l2 pm cm n2 lm _ (e0.below b4) (e1.below b4) (e2.below b4) (by omega) (by omega) (by omega)).mono ?_
  rintro e w5 ⟨q0, d0, q1, d1, q2, d2, rfl, o5, hb5⟩
  obtain ⟨ra, rb, rc, rd, re, rf⟩ := RX.below hb5
  have F5 := frozen_below (b := w.heap.size + 1) (by intro o; simp [F3]) hb5 (by simp; omega)
  have b5 := Below.step bX hb5
  have s5 := hb5.size
  simp at s5
  have oo : Own3 w1.heap.size w5 (.slice q0 l0.length d0) (.slice q1 l1.length d1) (.slice pm lm.length cm) l0 l1 lm := Own3.put2 o5 (Own.below om4 hb5) (fun b hb => by have := (om4.lt b hb).2; simp at this ⊢; omega) (by simp; omega)
  clear RX K3 K3a R3 F3 x0 x1 xf om om4 b3 b4 bX o5 hb5 e0 e1 e2 eb
  go_wp2
  refine bodyPost_ret (v := .tuple #[diskV (.slice q0 l0.length d0) n0 (.slice q1 l1.length d1) n1 (.slice pm lm.length cm) n2, .int .i64 0]) (by simp [results, Try.results29, go_sem, ra, rb, rc, rd, re, rf]) rfl ⟨q0, d0, q1, d1, pm, cm, rfl, ?_, ?_⟩
  · refine Own3.mono (B := w1.heap.size) ?_ (by omega)
    repeat (refine Own3.set ?_ (by simp; omega) _)
    exact oo
  · repeat (refine Below.setCell ?_ (by simp) _)
    exact b5
end Go.Proofs.Yteljknmkodllkaa
