import Derived.Test.YtlkhghcffhckmaaDoorPCx
namespace Go.Proofs.YtlkhghcffhckmaaDoor
open Go.ChangeShapes Go.WideShapes Go.ChangeAt Go.RowKit
set_option linter.unusedVariables false
set_option linter.unusedSimpArgs false
set_option maxRecDepth 100000

set_option maxHeartbeats 16000000 in
theorem spec_parse (p : Option Addr) (c n : Nat) (l : List Int) (en : Hid (l.length = n)) (w : World) (h : Rd w (.slice p n c) l) (hb : Hid (Byt l)) (hl : n ≤ 1048576) (R : Option Cmd) (eR : Hid (specC (wds l) = R)) (k : Int) (ek : Hid (k = if R.isSome then 0 else 2)) :
  Calls Tryd.prog 4 #[.slice p n c] w fun e w' => (∃ V, e = .returned (.tuple #[V, .int .i64 k]) ∧ RdCm w' V (R.getD cmd0)) ∧ Below w.heap.size w w' := by
 obtain ⟨ws, ews⟩ : ∃ ws, Hid (wds l = ws) := ⟨_, (by show _ = _; rfl)⟩
 obtain ⟨N, eN⟩ : ∃ N, Hid ((wds l).length = N) := ⟨_, (by show _ = _; rfl)⟩
 have HR := hide fun (w' : World) (hb : Below w.heap.size w w') => h.below hb
 clear h
 obtain ⟨W, hW⟩ : ∃ W, W = (w.alloc (.cells #[.int .i64 0, .int .i64 0, .int .u64 0, .slice none 0 0, .int .i64 0, .slice none 0 0, .int .u64 0, .int .u64 0, .int .i64 0, .int .i64 0] 27)) := ⟨_, rfl⟩
 have bW : Below w.heap.size w W := by rw [hW]; exact (Below.refl _ _).alloc (Nat.le_refl _) _
 have zW : W.heap.size = w.heap.size + 1 := by rw [hW]; simp
 have HC := hide (by rw [hW]; exact CellsAre.alloc w #[.int .i64 0, .int .i64 0, .int .u64 0, .slice none 0 0, .int .i64 0, .slice none 0 0, .int .u64 0, .int .u64 0, .int .i64 0, .int .i64 0] _ : CellsAre W w.heap.size [.int .i64 0, .int .i64 0, .int .u64 0, .slice none 0 0, .int .i64 0, .slice none 0 0, .int .u64 0, .int .u64 0, .int .i64 0, .int .i64 0])
 have HNB := hide (by rw [hW]; exact NoB.alloc w _ _ (by simp) : NoB W w.heap.size)
 go_enter Tryd.func4, Tryd.ntmps4
 go_wp2_with fail
 rw [← hW]
 clear hW
 refine (l6words_any p c n l en _ (unhide HR _ bW) hb hl N eN).mono ?_
 rintro r w1 ⟨p', c', rfl, ho, hb1⟩
 have HW := hide ho.rdw
 have HC1 := hide ((unhide HC).below (by omega) hb1)
 have HNB1 := hide ((unhide HNB).below (by omega) hb1)
 have b1 := Below.step bW hb1
 have z1 := hb1.size
 clear ho hb1
 by_cases hN : N = 0
 ·subst hN
  obtain ⟨D1, kf⟩ := unhide HC1
  have k0 := D1 0 _ rfl
  have k1 := D1 1 _ rfl
  have k2 := D1 2 _ rfl
  have k3 := D1 3 _ rfl
  have k4 := D1 4 _ rfl
  have k5 := D1 5 _ rfl
  have k6 := D1 6 _ rfl
  have k7 := D1 7 _ rfl
  have k8 := D1 8 _ rfl
  have k9 := D1 9 _ rfl
  clear D1
  have BB := b1
  have PR := hide (by rw [← unhide eR, List.length_eq_zero_iff.1 (unhide eN)]; rfl : R = none)
  go_wp2
  refine bodyPost_ret (v := .tuple #[cmV 0 0 0 (.slice none 0 0) 0 (.slice none 0 0) 0 0 0 0, .int .i64 2]) (by simp [results, Tryd.results4, go_sem, k0, k1, k2, k3, k4, k5, k6, k7, k8, k9]) rfl ?_
  have ek' := unhide ek
  rw [unhide PR] at ek' ⊢
  subst ek'
  refine ⟨⟨_, rfl, ⟨none, 0, 0, none, 0, 0, rfl, Rd.nil _, Rd.nil _⟩⟩, ?_⟩
  repeat (first | with_reducible exact BB | with_reducible refine Below.setCell ?_ (by simp) _ | with_reducible refine Below.alloc ?_ (by simpa using BB.size) _)
 ·have hN' : ¬ (N : Int) = 0 := by omega
  obtain ⟨x, rest, eX⟩ : ∃ x rest, wds l = x :: rest := by
   cases e : wds l with
   | nil => exact absurd (by rw [← unhide eN, e]; rfl) hN
   | cons x r => exact ⟨x, r, rfl⟩
  obtain ⟨b, o, q, d, rfl, hc0, hr0⟩ := unhide HW 0 x (by rw [eX]; rfl)
  have hN1 : 0 < N := by omega
  have hNN : N ≤ 1048576 := by
   have h1 := wfold_len l
   have h2 := unhide eN
   rw [unhide en] at h1
   unfold wds at h2
   split at h2
   ·omega
   ·next h3 =>
    have := List.length_pos_iff.2 h3
    rw [List.length_append, List.length_singleton] at h2
    omega
  have cv := run_conv rfl hr0
  have EX := hide eX
  clear eX hr0
  rw [Nat.add_zero] at hc0
  go_wp2_with fail
  refine (shape_any _ _).mono ?_
  rintro r w2 ⟨rfl, rfl⟩
  have HC0 := hide hc0
  clear cv hc0
  have hbx : Byt x := (wds_byt l (unhide hb) x (by rw [unhide EX]; simp)).1
  rw [shTab_is x hbx]
  cases hf : shapes.find? (fun s => s.1 == x) with
  | none =>
   have q1 : ¬ w.heap.size = w2.heap.size := by omega
   have q2 : ¬ w2.heap.size = w.heap.size := by omega
   have q3 : (w.heap.size == w2.heap.size) = false := by simpa using q1
   have kf2 := fun (cs : Array Value) (t : TypeId) (o : Nat) => (frozen?_alloc_cells w2 cs t ⟨w.heap.size, o, none⟩).trans ((unhide HC1).2 o)
   have hlt : w.heap.size < w2.heap.size := by omega
   have e63 : ∀ h, (({ data := #[63] } : ByteArray)[0]'h).toNat = 63 := fun _ => rfl
   have m0 := fun (o : Obj) => (World.cell?_alloc_lt w2 o ⟨w.heap.size, 0, none⟩ hlt).trans ((unhide HC1).1 0 _ rfl)
   have m1 := fun (o : Obj) => (World.cell?_alloc_lt w2 o ⟨w.heap.size, 1, none⟩ hlt).trans ((unhide HC1).1 1 _ rfl)
   have m2 := fun (o : Obj) => (World.cell?_alloc_lt w2 o ⟨w.heap.size, 2, none⟩ hlt).trans ((unhide HC1).1 2 _ rfl)
   have m3 := fun (o : Obj) => (World.cell?_alloc_lt w2 o ⟨w.heap.size, 3, none⟩ hlt).trans ((unhide HC1).1 3 _ rfl)
   have m4 := fun (o : Obj) => (World.cell?_alloc_lt w2 o ⟨w.heap.size, 4, none⟩ hlt).trans ((unhide HC1).1 4 _ rfl)
   have m5 := fun (o : Obj) => (World.cell?_alloc_lt w2 o ⟨w.heap.size, 5, none⟩ hlt).trans ((unhide HC1).1 5 _ rfl)
   have m6 := fun (o : Obj) => (World.cell?_alloc_lt w2 o ⟨w.heap.size, 6, none⟩ hlt).trans ((unhide HC1).1 6 _ rfl)
   have m7 := fun (o : Obj) => (World.cell?_alloc_lt w2 o ⟨w.heap.size, 7, none⟩ hlt).trans ((unhide HC1).1 7 _ rfl)
   have m8 := fun (o : Obj) => (World.cell?_alloc_lt w2 o ⟨w.heap.size, 8, none⟩ hlt).trans ((unhide HC1).1 8 _ rfl)
   have m9 := fun (o : Obj) => (World.cell?_alloc_lt w2 o ⟨w.heap.size, 9, none⟩ hlt).trans ((unhide HC1).1 9 _ rfl)
   obtain ⟨D1, kf⟩ := unhide HC1
   have k0 := D1 0 _ rfl
   have k1 := D1 1 _ rfl
   have k2 := D1 2 _ rfl
   have k3 := D1 3 _ rfl
   have k4 := D1 4 _ rfl
   have k5 := D1 5 _ rfl
   have k6 := D1 6 _ rfl
   have k7 := D1 7 _ rfl
   have k8 := D1 8 _ rfl
   have k9 := D1 9 _ rfl
   clear D1
   have BB := b1
   have PR := hide (by rw [← unhide eR, unhide EX]; simp only [specC, hf] : R = none)
   go_wp2
   refine bodyPost_ret (v := .tuple #[cmV 0 0 0 (.slice none 0 0) 0 (.slice none 0 0) 0 0 0 0, .int .i64 2]) (by simp [results, Tryd.results4, go_sem, k0, k1, k2, k3, k4, k5, k6, k7, k8, k9, World.cell?_alloc_lt, hlt]) rfl ?_
   have ek' := unhide ek
   rw [unhide PR] at ek' ⊢
   subst ek'
   refine ⟨⟨_, rfl, ⟨none, 0, 0, none, 0, 0, rfl, Rd.nil _, Rd.nil _⟩⟩, ?_⟩
   repeat (first | with_reducible exact BB | with_reducible refine Below.setCell ?_ (by simp) _ | with_reducible refine Below.alloc ?_ (by simpa using BB.size) _)
  | some T =>
   obtain ⟨x', ps, kd, op⟩ := T
   obtain ⟨hps, hcl⟩ := shapes_cls _ (List.mem_of_find?_eq_some hf)
   have HRR : Hid (R = if leastS ps ≤ rest.length ∧ rest.length ≤ ps.length then fillsS ⟨kd, op, 0, [], 0, [], 0, 0, 0, if kd = 5 then 5 else 0⟩ ps rest else none) := by
    show _ = _
    rw [← unhide eR, unhide EX]
    simp only [specC, hf]
   have hNr : N = rest.length + 1 := by rw [← unhide eN, unhide EX]; rfl
   clear hf
   simp only at hps hcl ⊢
   obtain ⟨s, es⟩ : ∃ s, s = (⟨(ps.map Part.u8).toArray⟩ : ByteArray) := ⟨_, rfl⟩
   rw [← es]
   obtain ⟨n2, hs⟩ : ∃ n2, s.size = n2 := ⟨_, rfl⟩
   have e2 : n2 = ps.length := by rw [← hs, es]; exact shape_size ps
   have hn2 : n2 ≤ 4 := by rw [e2]; exact hps
   have HB : Hid (∀ (i : Nat) (q : Part), ps[i]? = some q → ∀ h, (s[i]'h).toNat = q.byte.toNat) := by subst es; exact shape_at ps
   have hq0 : ¬ s.toList = [63] := by rw [es]; exact shape_ask ps
   have hq : (s.toList == [63]) = false := by simpa using hq0
   clear hq0
   have ES := hide es
   have E2 := hide e2
   have HN := hide hNr
   clear e2 es hps hNr
   rcases hcl with h1 | h1 | h1 | h1
   ·obtain ⟨rfl, hl1⟩ := h1
    have hn3 : 0 < n2 := by
     rw [unhide E2]
     cases ps with
     | nil => cases hl1
     | cons a r => simp
    have hb1 : ∀ h, (s[n2 - 1]'h).toNat = 99 := fun h => by
     have hx : ps[n2 - 1]? = some (.inr .lt) := by rw [List.getLast?_eq_getElem?] at hl1; rw [unhide E2]; exact hl1
     rw [unhide HB _ _ hx]; rfl
    have hn4 : (0 : Int) < (n2 : Int) := by omega
    have q1 : ¬ w.heap.size = w2.heap.size := by omega
    have q2 : ¬ w2.heap.size = w.heap.size := by omega
    have q3 : (w.heap.size == w2.heap.size) = false := by simpa using q1
    have hlt : w.heap.size < w2.heap.size := by omega
    have kf2 := fun (cs : Array Value) (t : TypeId) (o : Nat) => (frozen?_alloc_cells w2 cs t ⟨w.heap.size, o, none⟩).trans ((unhide HC1).2 o)
    have m0 := fun (o : Obj) => (World.cell?_alloc_lt w2 o ⟨w.heap.size, 0, none⟩ hlt).trans ((unhide HC1).1 0 _ rfl)
    have m1 := fun (o : Obj) => (World.cell?_alloc_lt w2 o ⟨w.heap.size, 1, none⟩ hlt).trans ((unhide HC1).1 1 _ rfl)
    have m2 := fun (o : Obj) => (World.cell?_alloc_lt w2 o ⟨w.heap.size, 2, none⟩ hlt).trans ((unhide HC1).1 2 _ rfl)
    have m3 := fun (o : Obj) => (World.cell?_alloc_lt w2 o ⟨w.heap.size, 3, none⟩ hlt).trans ((unhide HC1).1 3 _ rfl)
    have m4 := fun (o : Obj) => (World.cell?_alloc_lt w2 o ⟨w.heap.size, 4, none⟩ hlt).trans ((unhide HC1).1 4 _ rfl)
    have m5 := fun (o : Obj) => (World.cell?_alloc_lt w2 o ⟨w.heap.size, 5, none⟩ hlt).trans ((unhide HC1).1 5 _ rfl)
    have m6 := fun (o : Obj) => (World.cell?_alloc_lt w2 o ⟨w.heap.size, 6, none⟩ hlt).trans ((unhide HC1).1 6 _ rfl)
    have m7 := fun (o : Obj) => (World.cell?_alloc_lt w2 o ⟨w.heap.size, 7, none⟩ hlt).trans ((unhide HC1).1 7 _ rfl)
    have m8 := fun (o : Obj) => (World.cell?_alloc_lt w2 o ⟨w.heap.size, 8, none⟩ hlt).trans ((unhide HC1).1 8 _ rfl)
    have m9 := fun (o : Obj) => (World.cell?_alloc_lt w2 o ⟨w.heap.size, 9, none⟩ hlt).trans ((unhide HC1).1 9 _ rfl)
    have hls : leastS ps = n2 - 1 := by rw [unhide E2]; simp only [leastS, hl1]
    by_cases hA : (N : Int) - 1 < (n2 : Int) - 1
    ·obtain ⟨D1, kf⟩ := unhide HC1
     have k0 := D1 0 _ rfl
     have k1 := D1 1 _ rfl
     have k2 := D1 2 _ rfl
     have k3 := D1 3 _ rfl
     have k4 := D1 4 _ rfl
     have k5 := D1 5 _ rfl
     have k6 := D1 6 _ rfl
     have k7 := D1 7 _ rfl
     have k8 := D1 8 _ rfl
     have k9 := D1 9 _ rfl
     clear D1
     have BB := b1
     have PR := hide (by rw [unhide HRR, if_neg (fun hh => by have := unhide HN; have := unhide E2; rw [hls] at hh; omega)] : R = none)
     go_wp2
     refine bodyPost_ret (v := .tuple #[cmV 0 0 0 (.slice none 0 0) 0 (.slice none 0 0) 0 0 0 0, .int .i64 2]) (by simp [results, Tryd.results4, go_sem, k0, k1, k2, k3, k4, k5, k6, k7, k8, k9, World.cell?_alloc_lt, hlt]) rfl ?_
     have ek' := unhide ek
     rw [unhide PR] at ek' ⊢
     subst ek'
     refine ⟨⟨_, rfl, ⟨none, 0, 0, none, 0, 0, rfl, Rd.nil _, Rd.nil _⟩⟩, ?_⟩
     repeat (first | with_reducible exact BB | with_reducible refine Below.setCell ?_ (by simp) _ | with_reducible refine Below.alloc ?_ (by simpa using BB.size) _)
    by_cases hB : (n2 : Int) < (N : Int) - 1
    ·obtain ⟨D1, kf⟩ := unhide HC1
     have k0 := D1 0 _ rfl
     have k1 := D1 1 _ rfl
     have k2 := D1 2 _ rfl
     have k3 := D1 3 _ rfl
     have k4 := D1 4 _ rfl
     have k5 := D1 5 _ rfl
     have k6 := D1 6 _ rfl
     have k7 := D1 7 _ rfl
     have k8 := D1 8 _ rfl
     have k9 := D1 9 _ rfl
     clear D1
     have BB := b1
     have PR := hide (by rw [unhide HRR, if_neg (fun hh => by have := unhide HN; have := unhide E2; rw [hls] at hh; omega)] : R = none)
     go_wp2
     refine bodyPost_ret (v := .tuple #[cmV 0 0 0 (.slice none 0 0) 0 (.slice none 0 0) 0 0 0 0, .int .i64 2]) (by simp [results, Tryd.results4, go_sem, k0, k1, k2, k3, k4, k5, k6, k7, k8, k9, World.cell?_alloc_lt, hlt]) rfl ?_
     have ek' := unhide ek
     rw [unhide PR] at ek' ⊢
     subst ek'
     refine ⟨⟨_, rfl, ⟨none, 0, 0, none, 0, 0, rfl, Rd.nil _, Rd.nil _⟩⟩, ?_⟩
     repeat (first | with_reducible exact BB | with_reducible refine Below.setCell ?_ (by simp) _ | with_reducible refine Below.alloc ?_ (by simpa using BB.size) _)
    have PR : Hid (fillsS (⟨5, op, 0, [], 0, [], 0, 0, 0, 5⟩ : Cmd) ps rest = R) := by
     show _ = _
     rw [unhide HRR, if_pos (by have := unhide HN; have := unhide E2; rw [hls]; omega), if_pos rfl]
    go_wp2
    go_loopw [10] (fun iv wr => ∃ (j : Nat) (C : Cmd) (a1 : Option Addr) (a2 a3 : Nat) (d1 : Option Addr) (d2 d3 : Nat), 1 ≤ j ∧ j ≤ N ∧ w2.heap.size < wr.heap.size ∧ iv = .int .i64 j ∧ Hid (fillsS C (List.drop (j - 1) ps) (rest.drop (j - 1)) = R) ∧ Hid (CellsAre wr w2.heap.size [.int .i64 C.k, .int .i64 C.op, .int .u64 C.se, .slice a1 a2 a3, .int .i64 C.fl, .slice d1 d2 d3, .int .u64 C.ep, .int .u64 C.ge, .int .i64 C.n, .int .i64 C.m]) ∧ Hid (Rd wr (.slice a1 a2 a3) C.pa) ∧ Hid (Rd wr (.slice d1 d2 d3) C.va) ∧ Hid (NoB wr w2.heap.size) ∧ Hid (Below w2.heap.size w2 wr)) (fun iv _ => N - (intOf iv).toNat)
    case atStart => exact ⟨1, ⟨5, op, 0, [], 0, [], 0, 0, 0, 5⟩, none, 0, 0, none, 0, 0, by omega, by omega, by simp, rfl, PR, (CellsAre.alloc w2 _ _), Rd.nil _, Rd.nil _, (NoB.alloc w2 _ _ (by simp)), ((Below.refl _ w2).alloc (Nat.le_refl _) _)⟩
    case round =>
     obtain ⟨j, C, a1, a2, a3, d1, d2, d3, hj1, hj2, zb, rfl, hR, hC, hP, hV, hNo, hBl⟩ := hrel
     have wj : IntKind.i64.wrap ((j : Int) + 1) = ((j + 1 : Nat) : Int) := by rw [IntWalk.i64_in _ (by omega)]; omega
     have zr := (unhide hBl).size
     have HC3 := hide ((unhide HC1).below hlt (unhide hBl))
     have HN3 := hide ((unhide HNB1).below hlt (unhide hBl))
     have B3 := hide (Below.step b1 (unhide hBl))
     by_cases hjN : j < N
     ·have hjN' : (j : Int) < (N : Int) := by omega
      have hjr : j - 1 < rest.length := by have := unhide HN; omega
      obtain ⟨y1, hy1⟩ : ∃ y, rest[j - 1]? = some y := ⟨_, List.getElem?_eq_getElem hjr⟩
      have hjp : j - 1 < (ps : List Part).length := by have := unhide E2; have := unhide HN; omega
      obtain ⟨pt, hpt⟩ : ∃ q, (ps : List Part)[j - 1]? = some q := ⟨_, List.getElem?_eq_getElem hjp⟩
      obtain ⟨y9, ey9⟩ : ∃ y9, pt.byte.toNat = y9 := ⟨_, rfl⟩
      have hby : ∀ h, ((s : ByteArray)[j - 1]'h).toNat = y9 := fun h => by rw [← ey9]; exact unhide HB (j - 1) pt hpt h
      have ey : (y9 : Int) = pt.byte := by rw [← ey9]; rcases pt with (_ | _ | _ | _ | _ | _ | _ | _) | (_ | _ | _) <;> rfl
      have wj0 : IntKind.i64.wrap ((j : Int) - 1) = ((j - 1 : Nat) : Int) := by rw [IntWalk.i64_in _ (by omega)]; omega
      have hj3 : ((j - 1 : Nat) : Int) < (n2 : Int) := by have := unhide E2; have := unhide HN; omega
      have hst := fills_step C _ _ _ _ _ hpt hy1
      rw [show j - 1 + 1 = j by omega] at hst
      have HST := hide hst
      have hwx : (wds l)[j]? = some y1 := by rw [unhide EX, show j = j - 1 + 1 by omega, List.getElem?_cons_succ]; exact hy1
      obtain ⟨b9, o9, q9, d9, e9, hc9, hr9⟩ := (unhide HW).below (unhide hBl) j y1 hwx
      simp only [Option.some.injEq, Addr.mk.injEq, and_true] at e9
      obtain ⟨rfl, rfl⟩ := e9
      have hby2 := (wds_byt l (unhide hb) y1 (List.mem_of_getElem? hwx))
      have hwl : y1.length ≤ 1048576 := by have := hby2.2; rw [unhide en] at this; omega
      have HYB := hide (And.intro hby2.1 hwl)
      have HR9 := hide hr9
      have hcf : ∀ (vs : Array Value) (w : World), (callFunc 14 vs).run Tryd.prog w = .ok (.enter 14 vs) w := fun vs w => by kernel_rfl
      have HCF := hide hcf
      obtain ⟨vA, hvA⟩ : ∃ V, V = wr.drew := ⟨_, rfl⟩
      have hbA : Below wr.heap.size wr vA := by rw [hvA]; exact (Below.refl _ _).drew
      have zA := hbA.size
      have G : Hid (∀ v, Below vA.heap.size vA v → CellsAre v w2.heap.size [.int .i64 C.k, .int .i64 C.op, .int .u64 C.se, .slice a1 a2 a3, .int .i64 C.fl, .slice d1 d2 d3, .int .u64 C.ep, .int .u64 C.ge, .int .i64 C.n, .int .i64 C.m] ∧ CellsAre v w.heap.size [.int .i64 0, .int .i64 0, .int .u64 0, .slice none 0 0, .int .i64 0, .slice none 0 0, .int .u64 0, .int .u64 0, .int .i64 0, .int .i64 0] ∧ NoB v w2.heap.size ∧ NoB v w.heap.size ∧ v.cell? ⟨b, o + j, none⟩ = some (.slice q9 y1.length d9) ∧ Below w2.heap.size w2 v ∧ Below w.heap.size w v) := fun v hv => by
       have hv' : Below wr.heap.size wr v := Below.step hbA hv
       exact ⟨(unhide hC).below (by omega) hv', (unhide HC3).below (by omega) hv', (unhide hNo).below (by omega) hv', (unhide HN3).below (by omega) hv', cell_below hc9 hv', Below.step (unhide hBl) hv', Below.step (unhide B3) hv'⟩
      have GR : Hid (∀ v, Below vA.heap.size vA v → Rd v (.slice q9 y1.length d9) y1 ∧ Rd v (.slice a1 a2 a3) C.pa ∧ Rd v (.slice d1 d2 d3) C.va) := fun v hv => by
       have hv' : Below wr.heap.size wr v := Below.step hbA hv
       exact ⟨(unhide HR9).below hv', (unhide hP).below hv', (unhide hV).below hv'⟩
      have HFA : Hid (∀ v, Below vA.heap.size vA v → Calls Tryd.prog 14 #[(cmV C.k C.op C.se (.slice a1 a2 a3) C.fl (.slice d1 d2 d3) C.ep C.ge C.n C.m), .int .u8 y9, .slice q9 y1.length d9] v (fun e w' => (∃ V', e = .returned (.tuple #[V', .bool (fillS C pt y1).isSome]) ∧ IsCm V' ∧ ∀ C', fillS C pt y1 = some C' → RdCm w' V' C') ∧ Below v.heap.size v w')) := fun v hv => by
       have := fill_any pt C _ q9 d9 y1.length y1 (hide rfl) v ⟨a1, a2, a3, d1, d2, d3, rfl, (unhide GR v hv).2.1, (unhide GR v hv).2.2⟩ (unhide GR v hv).1 (hide (unhide HYB).1) (unhide HYB).2
       rw [← ey] at this
       exact this
      obtain ⟨Y, eY⟩ : ∃ Y : Nat, y1.length = Y := ⟨_, rfl⟩
      rw [eY] at G hc9 HFA
      have EYL := hide eY
      have HEY := hide ey
      obtain ⟨D1, kf⟩ := unhide hC
      have k0 := D1 0 _ rfl
      have k1 := D1 1 _ rfl
      have k2 := D1 2 _ rfl
      have k3 := D1 3 _ rfl
      have k4 := D1 4 _ rfl
      have k5 := D1 5 _ rfl
      have k6 := D1 6 _ rfl
      have k7 := D1 7 _ rfl
      have k8 := D1 8 _ rfl
      have k9 := D1 9 _ rfl
      clear D1 hst hr9 hwx hby2 hy1 hpt hjr hjp hcf hwl eY ey
      go_wp2_with fail
      refine wp_region_noPanic ?_
      refine wp_region_held_drew (S := fun w' => At10 w' w2.heap.size (.int .i64 C.k) (.int .i64 C.op) (.int .u64 C.se) (.slice a1 a2 a3) (.int .i64 C.fl) (.slice d1 d2 d3) (.int .u64 C.ep) (.int .u64 C.ge) (.int .i64 C.n) (.int .i64 C.m) ∧ w'.cell? ⟨b, o + j, none⟩ = some (.slice q9 Y d9)) (by kernel_rfl) (by rw [← hvA]; exact ⟨(unhide G vA (Below.refl _ _)).1.at10, (unhide G vA (Below.refl _ _)).2.2.2.2.1⟩) (fun hS => ?_)
      rw [← hvA] at hS ⊢
      clear hvA hbA k0 k1 k2 k3 k4 k5 k6 k7 k8 k9 kf hc9
      refine tk 0 hS (h := ?_)
      simp only [Act.put, xa, xb, xc]
      refine tk 1 hS (h := ?_)
      simp only [Act.put, xa, xb, xc]
      refine tk 2 hS (h := ?_)
      simp only [Act.put, xa, xb, xc]
      refine tk 3 hS (h := ?_)
      simp only [Act.put, xa, xb, xc]
      refine tk 4 hS (h := ?_)
      simp only [Act.put, xa, xb, xc]
      refine tk 5 hS (h := ?_)
      simp only [Act.put, xa, xb, xc]
      refine tk 6 hS (h := ?_)
      simp only [Act.put, xa, xb, xc]
      refine tk 7 hS (h := ?_)
      simp only [Act.put, xa, xb, xc]
      refine tk 8 hS (h := ?_)
      simp only [Act.put, xa, xb, xc]
      refine ry [9, 13] ?_

      refine cn (fun KK hK => ?_) ?_
      ·refine step_call (by rfl) 14 _ _ _ _ (by rfl) (cmV C.k C.op C.se (.slice a1 a2 a3) C.fl (.slice d1 d2 d3) C.ep C.ge C.n C.m) (.int .u8 y9) (.slice q9 Y d9) (by rfl) (by rfl) (by rfl) (fun _ => unhide HCF _ _) (unhide HFA _ (Below.refl _ _)) ?_
       rintro e v1 ⟨⟨V', rfl, hIs, hsm⟩, hb1⟩
       obtain ⟨C1, x1, x2, x3, y1', y2, y3, rfl, hsm2⟩ := cm_form hIs hsm
       have HSM0 := hide hsm2
       clear hsm hsm2 hIs
       refine ⟨_, rfl, ?_⟩
       refine hK.out _ _ (by exact ⟨(unhide G _ hb1).1.at10, (unhide G _ hb1).2.2.2.2.1⟩) (fun hS => ?_)
       clear hK KK
       (try simp only [Act.put, xa, xb, xc])
       refine tk 10 hS (h := ?_)
       simp only [Act.put, xa, xb, xc]
       refine tk 11 hS (h := ?_)
       simp only [Act.put, xa, xb, xc]
       refine tk 12 hS (h := ?_)
       simp only [Act.put, xa, xb, xc]
       refine ry [13] ?_
       refine cn (fun KK hK => ?_) ?_
       ·go_simp
        obtain ⟨v2, hu⟩ : ∃ Z, Z = v1.alloc (.cells #[.int .i64 0, .int .i64 0, .int .u64 0, .slice none 0 0, .int .i64 0, .slice none 0 0, .int .u64 0, .int .u64 0, .int .i64 0, .int .i64 0] 27) := ⟨_, rfl⟩
        have CN0 := hide (by rw [hu]; exact CellsAre.alloc v1 #[.int .i64 0, .int .i64 0, .int .u64 0, .slice none 0 0, .int .i64 0, .slice none 0 0, .int .u64 0, .int .u64 0, .int .i64 0, .int .i64 0] _ : CellsAre v2 v1.heap.size [.int .i64 0, .int .i64 0, .int .u64 0, .slice none 0 0, .int .i64 0, .slice none 0 0, .int .u64 0, .int .u64 0, .int .i64 0, .int .i64 0])
        have NN0 := hide (by rw [hu]; exact NoB.alloc v1 _ _ (by simp) : NoB v2 v1.heap.size)
        have hbu : Below v1.heap.size v1 v2 := by rw [hu]; exact (Below.refl _ _).alloc (Nat.le_refl _) _
        have zu : v2.heap.size = v1.heap.size + 1 := by rw [hu]; simp
        rw [← hu]
        clear hu
        have bv := Below.step hb1 hbu
        have CN := CN0
        have NN := NN0
        have hnb : vA.heap.size ≤ v1.heap.size := hb1.size
        have HSM := hide fun C' (e : fillS C pt y1 = some C') => And.intro (unhide HSM0 C' e).1 (And.intro ((unhide HSM0 C' e).2.1.below hbu) ((unhide HSM0 C' e).2.2.below hbu))
        refine hK.out _ _ (by exact ⟨(unhide G _ bv).1.at10, (unhide G _ bv).2.2.2.2.1⟩) (fun hS => ?_)
        clear hK KK
        (try simp only [Act.put, xa, xb, xc])
        refine ry [14] ?_
        refine cn (fun KK hK => ?_) ?_
        ·have r0 := (unhide CN).1 0 _ rfl
         have r1 := (unhide CN).1 1 _ rfl
         have r2 := (unhide CN).1 2 _ rfl
         have r3 := (unhide CN).1 3 _ rfl
         have r4 := (unhide CN).1 4 _ rfl
         have r5 := (unhide CN).1 5 _ rfl
         have r6 := (unhide CN).1 6 _ rfl
         have r7 := (unhide CN).1 7 _ rfl
         have r8 := (unhide CN).1 8 _ rfl
         have r9 := (unhide CN).1 9 _ rfl
         have rf := (unhide CN).2
         go_simp
         clear r0 r1 r2 r3 r4 r5 r6 r7 r8 r9 rf
         have hp := put10_is (unhide CN) (unhide NN) (v0 := .int .i64 C1.k) (v1 := .int .i64 C1.op) (v2 := .int .u64 C1.se) (v3 := .slice x1 x2 x3) (v4 := .int .i64 C1.fl) (v5 := .slice y1' y2 y3) (v6 := .int .u64 C1.ep) (v7 := .int .u64 C1.ge) (v8 := .int .i64 C1.n) (v9 := .int .i64 C1.m) (by simp)
         obtain ⟨v5, hv5⟩ : ∃ Z, Z = put10 v2 v1.heap.size (.int .i64 C1.k) (.int .i64 C1.op) (.int .u64 C1.se) (.slice x1 x2 x3) (.int .i64 C1.fl) (.slice y1' y2 y3) (.int .u64 C1.ep) (.int .u64 C1.ge) (.int .i64 C1.n) (.int .i64 C1.m) := ⟨_, rfl⟩
         rw [← hv5] at hp
         unfold put10 at hv5
         rw [← hv5]
         have b5 := hp.2.2.2 _ _ hnb bv
         refine hK.out _ _ (by exact ⟨(unhide G _ b5).1.at10, (unhide G _ b5).2.2.2.2.1⟩) (fun hS => ?_)
         clear hK KK hv5
         (try simp only [Act.put, xa, xb, xc])
         refine tk 15 hS (h := ?_)
         simp only [Act.put, xa, xb, xc]
         refine wpAnyH_done (by kernel_rfl) ?_ _
         refine NoPanic.normal ?_
         clear hS
         have HC5 := hide (unhide G v5 b5).2.1
         have B5 := hide (unhide G v5 b5).2.2.2.2.2.2
         have z5 := b5.size
         have HP := hide hp
         cases hfi : fillS C pt y1 with
         | none =>
          simp only [Option.isSome_none]
          obtain ⟨D1, kf⟩ := unhide HC5
          have k0 := D1 0 _ rfl
          have k1 := D1 1 _ rfl
          have k2 := D1 2 _ rfl
          have k3 := D1 3 _ rfl
          have k4 := D1 4 _ rfl
          have k5 := D1 5 _ rfl
          have k6 := D1 6 _ rfl
          have k7 := D1 7 _ rfl
          have k8 := D1 8 _ rfl
          have k9 := D1 9 _ rfl
          clear D1
          have BB := unhide B5
          have PR := hide (by rw [← unhide hR, unhide HST, hfi]; rfl : R = none)
          go_wp2
          refine bodyPost_ret (v := .tuple #[cmV 0 0 0 (.slice none 0 0) 0 (.slice none 0 0) 0 0 0 0, .int .i64 2]) (by simp [results, Tryd.results4, go_sem, k0, k1, k2, k3, k4, k5, k6, k7, k8, k9]) rfl ?_
          have ek' := unhide ek
          rw [unhide PR] at ek' ⊢
          subst ek'
          refine ⟨⟨_, rfl, ⟨none, 0, 0, none, 0, 0, rfl, Rd.nil _, Rd.nil _⟩⟩, ?_⟩
          repeat (first | with_reducible exact BB | with_reducible refine Below.setCell ?_ (by simp) _ | with_reducible refine Below.alloc ?_ (by simpa using BB.size) _)
         | some C' =>
          simp only [Option.isSome_some]
          obtain ⟨rfl, hP', hV'⟩ := unhide HSM C' hfi
          have hR' : fillsS C1 (List.drop j ps) (rest.drop j) = R := by rw [← unhide hR, unhide HST, hfi]; rfl
          have HR2 := hide hR'
          have hp2 := put10_is (unhide G v5 b5).1 (unhide G v5 b5).2.2.1 (v0 := .int .i64 C1.k) (v1 := .int .i64 C1.op) (v2 := .int .u64 C1.se) (v3 := .slice x1 x2 x3) (v4 := .int .i64 C1.fl) (v5 := .slice y1' y2 y3) (v6 := .int .u64 C1.ep) (v7 := .int .u64 C1.ge) (v8 := .int .i64 C1.n) (v9 := .int .i64 C1.m) (by simp)
          have HP2 := hide (And.intro hp2.1 (And.intro (hp2.2.2.1 _ _ (hp.2.2.1 _ _ hP')) (And.intro (hp2.2.2.1 _ _ (hp.2.2.1 _ _ hV')) (And.intro hp2.2.1 (hp2.2.2.2 _ _ (Nat.le_refl _) (unhide G v5 b5).2.2.2.2.2.1)))))
          obtain ⟨D2, qf⟩ := hp.1
          obtain ⟨D1, kf⟩ := (unhide G v5 b5).1
          have k0 := D1 0 _ rfl
          have r0 := D2 0 _ rfl
          have k1 := D1 1 _ rfl
          have r1 := D2 1 _ rfl
          have k2 := D1 2 _ rfl
          have r2 := D2 2 _ rfl
          have k3 := D1 3 _ rfl
          have r3 := D2 3 _ rfl
          have k4 := D1 4 _ rfl
          have r4 := D2 4 _ rfl
          have k5 := D1 5 _ rfl
          have r5 := D2 5 _ rfl
          have k6 := D1 6 _ rfl
          have r6 := D2 6 _ rfl
          have k7 := D1 7 _ rfl
          have r7 := D2 7 _ rfl
          have k8 := D1 8 _ rfl
          have r8 := D2 8 _ rfl
          have k9 := D1 9 _ rfl
          have r9 := D2 9 _ rfl
          have t1 : ¬ w2.heap.size = v1.heap.size := by omega
          have t2 : ¬ v1.heap.size = w2.heap.size := by omega
          clear D1 D2 hP' hV' hR' hp hp2 hfi HSM0
          go_wp2
          go_roundw
          case rel => exact ⟨j + 1, C1, x1, x2, x3, y1', y2, y3, by omega, by omega, by simp; omega, by go_num, HR2, (unhide HP2).1, (unhide HP2).2.1, (unhide HP2).2.2.1, (unhide HP2).2.2.2.1, (unhide HP2).2.2.2.2⟩
          case measure => simp [intOf]; omega
        exact AllReadyH.nil
       exact AllReadyH.nil
      refine cn (fun KK hK => ?_) ?_
      ·go_simp
       obtain ⟨v2, hu⟩ : ∃ Z, Z = vA.alloc (.cells #[.int .i64 0, .int .i64 0, .int .u64 0, .slice none 0 0, .int .i64 0, .slice none 0 0, .int .u64 0, .int .u64 0, .int .i64 0, .int .i64 0] 27) := ⟨_, rfl⟩
       have CN0 := hide (by rw [hu]; exact CellsAre.alloc vA #[.int .i64 0, .int .i64 0, .int .u64 0, .slice none 0 0, .int .i64 0, .slice none 0 0, .int .u64 0, .int .u64 0, .int .i64 0, .int .i64 0] _ : CellsAre v2 vA.heap.size [.int .i64 0, .int .i64 0, .int .u64 0, .slice none 0 0, .int .i64 0, .slice none 0 0, .int .u64 0, .int .u64 0, .int .i64 0, .int .i64 0])
       have NN0 := hide (by rw [hu]; exact NoB.alloc vA _ _ (by simp) : NoB v2 vA.heap.size)
       have hbu : Below vA.heap.size vA v2 := by rw [hu]; exact (Below.refl _ _).alloc (Nat.le_refl _) _
       have zu : v2.heap.size = vA.heap.size + 1 := by rw [hu]; simp
       rw [← hu]
       clear hu
       refine hK.out _ _ (by exact ⟨(unhide G _ hbu).1.at10, (unhide G _ hbu).2.2.2.2.1⟩) (fun hS => ?_)
       clear hK KK
       (try simp only [Act.put, xa, xb, xc])
       refine ry [9] ?_
       refine cn (fun KK hK => ?_) ?_
       ·refine step_call (by rfl) 14 _ _ _ _ (by rfl) (cmV C.k C.op C.se (.slice a1 a2 a3) C.fl (.slice d1 d2 d3) C.ep C.ge C.n C.m) (.int .u8 y9) (.slice q9 Y d9) (by rfl) (by rfl) (by rfl) (fun _ => unhide HCF _ _) (unhide HFA _ hbu) ?_
        rintro e v1 ⟨⟨V', rfl, hIs, hsm⟩, hb1⟩
        obtain ⟨C1, x1, x2, x3, y1', y2, y3, rfl, hsm2⟩ := cm_form hIs hsm
        have HSM0 := hide hsm2
        clear hsm hsm2 hIs
        refine ⟨_, rfl, ?_⟩
        have bv := Below.step hbu hb1
        have CN := hide ((unhide CN0).below (by omega) hb1)
        have NN := hide ((unhide NN0).below (by omega) hb1)
        have hnb := Nat.le_refl vA.heap.size
        have HSM := HSM0
        refine hK.out _ _ (by exact ⟨(unhide G _ bv).1.at10, (unhide G _ bv).2.2.2.2.1⟩) (fun hS => ?_)
        clear hK KK
        (try simp only [Act.put, xa, xb, xc])
        refine tk 10 hS (h := ?_)
        simp only [Act.put, xa, xb, xc]
        refine tk 11 hS (h := ?_)
        simp only [Act.put, xa, xb, xc]
        refine tk 12 hS (h := ?_)
        simp only [Act.put, xa, xb, xc]
        refine ry [14] ?_
        refine cn (fun KK hK => ?_) ?_
        ·have r0 := (unhide CN).1 0 _ rfl
         have r1 := (unhide CN).1 1 _ rfl
         have r2 := (unhide CN).1 2 _ rfl
         have r3 := (unhide CN).1 3 _ rfl
         have r4 := (unhide CN).1 4 _ rfl
         have r5 := (unhide CN).1 5 _ rfl
         have r6 := (unhide CN).1 6 _ rfl
         have r7 := (unhide CN).1 7 _ rfl
         have r8 := (unhide CN).1 8 _ rfl
         have r9 := (unhide CN).1 9 _ rfl
         have rf := (unhide CN).2
         go_simp
         clear r0 r1 r2 r3 r4 r5 r6 r7 r8 r9 rf
         have hp := put10_is (unhide CN) (unhide NN) (v0 := .int .i64 C1.k) (v1 := .int .i64 C1.op) (v2 := .int .u64 C1.se) (v3 := .slice x1 x2 x3) (v4 := .int .i64 C1.fl) (v5 := .slice y1' y2 y3) (v6 := .int .u64 C1.ep) (v7 := .int .u64 C1.ge) (v8 := .int .i64 C1.n) (v9 := .int .i64 C1.m) (by simp)
         obtain ⟨v5, hv5⟩ : ∃ Z, Z = put10 v1 vA.heap.size (.int .i64 C1.k) (.int .i64 C1.op) (.int .u64 C1.se) (.slice x1 x2 x3) (.int .i64 C1.fl) (.slice y1' y2 y3) (.int .u64 C1.ep) (.int .u64 C1.ge) (.int .i64 C1.n) (.int .i64 C1.m) := ⟨_, rfl⟩
         rw [← hv5] at hp
         unfold put10 at hv5
         rw [← hv5]
         have b5 := hp.2.2.2 _ _ hnb bv
         refine hK.out _ _ (by exact ⟨(unhide G _ b5).1.at10, (unhide G _ b5).2.2.2.2.1⟩) (fun hS => ?_)
         clear hK KK hv5
         (try simp only [Act.put, xa, xb, xc])
         refine tk 15 hS (h := ?_)
         simp only [Act.put, xa, xb, xc]
         refine wpAnyH_done (by kernel_rfl) ?_ _
         refine NoPanic.normal ?_
         clear hS
         have HC5 := hide (unhide G v5 b5).2.1
         have B5 := hide (unhide G v5 b5).2.2.2.2.2.2
         have z5 := b5.size
         have HP := hide hp
         cases hfi : fillS C pt y1 with
         | none =>
          simp only [Option.isSome_none]
          obtain ⟨D1, kf⟩ := unhide HC5
          have k0 := D1 0 _ rfl
          have k1 := D1 1 _ rfl
          have k2 := D1 2 _ rfl
          have k3 := D1 3 _ rfl
          have k4 := D1 4 _ rfl
          have k5 := D1 5 _ rfl
          have k6 := D1 6 _ rfl
          have k7 := D1 7 _ rfl
          have k8 := D1 8 _ rfl
          have k9 := D1 9 _ rfl
          clear D1
          have BB := unhide B5
          have PR := hide (by rw [← unhide hR, unhide HST, hfi]; rfl : R = none)
          go_wp2
          refine bodyPost_ret (v := .tuple #[cmV 0 0 0 (.slice none 0 0) 0 (.slice none 0 0) 0 0 0 0, .int .i64 2]) (by simp [results, Tryd.results4, go_sem, k0, k1, k2, k3, k4, k5, k6, k7, k8, k9]) rfl ?_
          have ek' := unhide ek
          rw [unhide PR] at ek' ⊢
          subst ek'
          refine ⟨⟨_, rfl, ⟨none, 0, 0, none, 0, 0, rfl, Rd.nil _, Rd.nil _⟩⟩, ?_⟩
          repeat (first | with_reducible exact BB | with_reducible refine Below.setCell ?_ (by simp) _ | with_reducible refine Below.alloc ?_ (by simpa using BB.size) _)
         | some C' =>
          simp only [Option.isSome_some]
          obtain ⟨rfl, hP', hV'⟩ := unhide HSM C' hfi
          have hR' : fillsS C1 (List.drop j ps) (rest.drop j) = R := by rw [← unhide hR, unhide HST, hfi]; rfl
          have HR2 := hide hR'
          have hp2 := put10_is (unhide G v5 b5).1 (unhide G v5 b5).2.2.1 (v0 := .int .i64 C1.k) (v1 := .int .i64 C1.op) (v2 := .int .u64 C1.se) (v3 := .slice x1 x2 x3) (v4 := .int .i64 C1.fl) (v5 := .slice y1' y2 y3) (v6 := .int .u64 C1.ep) (v7 := .int .u64 C1.ge) (v8 := .int .i64 C1.n) (v9 := .int .i64 C1.m) (by simp)
          have HP2 := hide (And.intro hp2.1 (And.intro (hp2.2.2.1 _ _ (hp.2.2.1 _ _ hP')) (And.intro (hp2.2.2.1 _ _ (hp.2.2.1 _ _ hV')) (And.intro hp2.2.1 (hp2.2.2.2 _ _ (Nat.le_refl _) (unhide G v5 b5).2.2.2.2.2.1)))))
          obtain ⟨D2, qf⟩ := hp.1
          obtain ⟨D1, kf⟩ := (unhide G v5 b5).1
          have k0 := D1 0 _ rfl
          have r0 := D2 0 _ rfl
          have k1 := D1 1 _ rfl
          have r1 := D2 1 _ rfl
          have k2 := D1 2 _ rfl
          have r2 := D2 2 _ rfl
          have k3 := D1 3 _ rfl
          have r3 := D2 3 _ rfl
          have k4 := D1 4 _ rfl
          have r4 := D2 4 _ rfl
          have k5 := D1 5 _ rfl
          have r5 := D2 5 _ rfl
          have k6 := D1 6 _ rfl
          have r6 := D2 6 _ rfl
          have k7 := D1 7 _ rfl
          have r7 := D2 7 _ rfl
          have k8 := D1 8 _ rfl
          have r8 := D2 8 _ rfl
          have k9 := D1 9 _ rfl
          have r9 := D2 9 _ rfl
          have t1 : ¬ w2.heap.size = vA.heap.size := by omega
          have t2 : ¬ vA.heap.size = w2.heap.size := by omega
          clear D1 D2 hP' hV' hR' hp hp2 hfi HSM0
          go_wp2
          go_roundw
          case rel => exact ⟨j + 1, C1, x1, x2, x3, y1', y2, y3, by omega, by omega, by simp; omega, by go_num, HR2, (unhide HP2).1, (unhide HP2).2.1, (unhide HP2).2.2.1, (unhide HP2).2.2.2.1, (unhide HP2).2.2.2.2⟩
          case measure => simp [intOf]; omega
        exact AllReadyH.nil
       exact AllReadyH.nil
      exact AllReadyH.nil
     ·have hjE : j = N := by omega
      subst hjE
      have hRR : R = some C := by rw [← unhide hR]; exact fills_end _ _ _ _ (by have := unhide HN; omega)
      have PR2 := hide hRR
      have hp := put10_is (unhide HC3) (unhide HN3) (v0 := .int .i64 C.k) (v1 := .int .i64 C.op) (v2 := .int .u64 C.se) (v3 := .slice a1 a2 a3) (v4 := .int .i64 C.fl) (v5 := .slice d1 d2 d3) (v6 := .int .u64 C.ep) (v7 := .int .u64 C.ge) (v8 := .int .i64 C.n) (v9 := .int .i64 C.m) (by simp)
      have HP := hide (And.intro (hp.2.2.1 _ _ (unhide hP)) (And.intro (hp.2.2.1 _ _ (unhide hV)) (hp.2.2.2 _ _ (Nat.le_refl _) (unhide B3))))
      obtain ⟨D1, kf⟩ := unhide hC
      obtain ⟨D2, rf⟩ := unhide HC3
      have k0 := D1 0 _ rfl
      have r0 := D2 0 _ rfl
      have k1 := D1 1 _ rfl
      have r1 := D2 1 _ rfl
      have k2 := D1 2 _ rfl
      have r2 := D2 2 _ rfl
      have k3 := D1 3 _ rfl
      have r3 := D2 3 _ rfl
      have k4 := D1 4 _ rfl
      have r4 := D2 4 _ rfl
      have k5 := D1 5 _ rfl
      have r5 := D2 5 _ rfl
      have k6 := D1 6 _ rfl
      have r6 := D2 6 _ rfl
      have k7 := D1 7 _ rfl
      have r7 := D2 7 _ rfl
      have k8 := D1 8 _ rfl
      have r8 := D2 8 _ rfl
      have k9 := D1 9 _ rfl
      have r9 := D2 9 _ rfl
      clear D1 D2 hRR hp
      go_wp2
      refine bodyPost_ret (v := .tuple #[cmV C.k C.op C.se (.slice a1 a2 a3) C.fl (.slice d1 d2 d3) C.ep C.ge C.n C.m, .int .i64 0]) (by simp [results, Tryd.results4, go_sem, k0, k1, k2, k3, k4, k5, k6, k7, k8, k9, r0, r1, r2, r3, r4, r5, r6, r7, r8, r9]) rfl ?_
      have ek' := unhide ek
      rw [unhide PR2] at ek' ⊢
      subst ek'
      exact ⟨⟨_, rfl, ⟨a1, a2, a3, d1, d2, d3, rfl, (unhide HP).1, (unhide HP).2.1⟩⟩, (unhide HP).2.2⟩
   ·obtain ⟨hk, rfl⟩ := h1
    have e2 := unhide E2
    simp only [List.length_nil] at e2
    subst e2
    have es := unhide ES
    have es2 : s = ⟨#[]⟩ := es
    subst es2
    clear hq hs
    have q1 : ¬ w.heap.size = w2.heap.size := by omega
    have q2 : ¬ w2.heap.size = w.heap.size := by omega
    have q3 : (w.heap.size == w2.heap.size) = false := by simpa using q1
    have hlt : w.heap.size < w2.heap.size := by omega
    have kf2 := fun (cs : Array Value) (t : TypeId) (o : Nat) => (frozen?_alloc_cells w2 cs t ⟨w.heap.size, o, none⟩).trans ((unhide HC1).2 o)
    have m0 := fun (o : Obj) => (World.cell?_alloc_lt w2 o ⟨w.heap.size, 0, none⟩ hlt).trans ((unhide HC1).1 0 _ rfl)
    have m1 := fun (o : Obj) => (World.cell?_alloc_lt w2 o ⟨w.heap.size, 1, none⟩ hlt).trans ((unhide HC1).1 1 _ rfl)
    have m2 := fun (o : Obj) => (World.cell?_alloc_lt w2 o ⟨w.heap.size, 2, none⟩ hlt).trans ((unhide HC1).1 2 _ rfl)
    have m3 := fun (o : Obj) => (World.cell?_alloc_lt w2 o ⟨w.heap.size, 3, none⟩ hlt).trans ((unhide HC1).1 3 _ rfl)
    have m4 := fun (o : Obj) => (World.cell?_alloc_lt w2 o ⟨w.heap.size, 4, none⟩ hlt).trans ((unhide HC1).1 4 _ rfl)
    have m5 := fun (o : Obj) => (World.cell?_alloc_lt w2 o ⟨w.heap.size, 5, none⟩ hlt).trans ((unhide HC1).1 5 _ rfl)
    have m6 := fun (o : Obj) => (World.cell?_alloc_lt w2 o ⟨w.heap.size, 6, none⟩ hlt).trans ((unhide HC1).1 6 _ rfl)
    have m7 := fun (o : Obj) => (World.cell?_alloc_lt w2 o ⟨w.heap.size, 7, none⟩ hlt).trans ((unhide HC1).1 7 _ rfl)
    have m8 := fun (o : Obj) => (World.cell?_alloc_lt w2 o ⟨w.heap.size, 8, none⟩ hlt).trans ((unhide HC1).1 8 _ rfl)
    have m9 := fun (o : Obj) => (World.cell?_alloc_lt w2 o ⟨w.heap.size, 9, none⟩ hlt).trans ((unhide HC1).1 9 _ rfl)
    skip
    by_cases hB : (0 : Int) < (N : Int) - 1
    ·obtain ⟨D1, kf⟩ := unhide HC1
     have k0 := D1 0 _ rfl
     have k1 := D1 1 _ rfl
     have k2 := D1 2 _ rfl
     have k3 := D1 3 _ rfl
     have k4 := D1 4 _ rfl
     have k5 := D1 5 _ rfl
     have k6 := D1 6 _ rfl
     have k7 := D1 7 _ rfl
     have k8 := D1 8 _ rfl
     have k9 := D1 9 _ rfl
     clear D1
     have BB := b1
     have PR := hide (by rw [unhide HRR, if_neg (fun hh => by have := unhide HN; have := unhide E2; have h9 := hh.2; rw [List.length_nil] at h9; omega)] : R = none)
     go_wp2
     refine bodyPost_ret (v := .tuple #[cmV 0 0 0 (.slice none 0 0) 0 (.slice none 0 0) 0 0 0 0, .int .i64 2]) (by simp [results, Tryd.results4, go_sem, k0, k1, k2, k3, k4, k5, k6, k7, k8, k9, World.cell?_alloc_lt, hlt]) rfl ?_
     have ek' := unhide ek
     rw [unhide PR] at ek' ⊢
     subst ek'
     refine ⟨⟨_, rfl, ⟨none, 0, 0, none, 0, 0, rfl, Rd.nil _, Rd.nil _⟩⟩, ?_⟩
     repeat (first | with_reducible exact BB | with_reducible refine Below.setCell ?_ (by simp) _ | with_reducible refine Below.alloc ?_ (by simpa using BB.size) _)
    have PR : Hid (fillsS (⟨kd, op, 0, [], 0, [], 0, 0, 0, 0⟩ : Cmd) [] rest = R) := by
     show _ = _
     rw [unhide HRR, if_pos (by have := unhide HN; have := unhide E2; simp only [List.length_nil, show leastS [] = 0 from rfl]; omega), if_neg hk]
    go_wp2
    go_loopw [10] (fun iv wr => ∃ (j : Nat) (C : Cmd) (a1 : Option Addr) (a2 a3 : Nat) (d1 : Option Addr) (d2 d3 : Nat), 1 ≤ j ∧ j ≤ N ∧ w2.heap.size < wr.heap.size ∧ iv = .int .i64 j ∧ Hid (fillsS C (List.drop (j - 1) []) (rest.drop (j - 1)) = R) ∧ Hid (CellsAre wr w2.heap.size [.int .i64 C.k, .int .i64 C.op, .int .u64 C.se, .slice a1 a2 a3, .int .i64 C.fl, .slice d1 d2 d3, .int .u64 C.ep, .int .u64 C.ge, .int .i64 C.n, .int .i64 C.m]) ∧ Hid (Rd wr (.slice a1 a2 a3) C.pa) ∧ Hid (Rd wr (.slice d1 d2 d3) C.va) ∧ Hid (NoB wr w2.heap.size) ∧ Hid (Below w2.heap.size w2 wr)) (fun iv _ => N - (intOf iv).toNat)
    case atStart => exact ⟨1, ⟨kd, op, 0, [], 0, [], 0, 0, 0, 0⟩, none, 0, 0, none, 0, 0, by omega, by omega, by simp, rfl, PR, (CellsAre.alloc w2 _ _), Rd.nil _, Rd.nil _, (NoB.alloc w2 _ _ (by simp)), ((Below.refl _ w2).alloc (Nat.le_refl _) _)⟩
    case round =>
     obtain ⟨j, C, a1, a2, a3, d1, d2, d3, hj1, hj2, zb, rfl, hR, hC, hP, hV, hNo, hBl⟩ := hrel
     have wj : IntKind.i64.wrap ((j : Int) + 1) = ((j + 1 : Nat) : Int) := by rw [IntWalk.i64_in _ (by omega)]; omega
     have zr := (unhide hBl).size
     have HC3 := hide ((unhide HC1).below hlt (unhide hBl))
     have HN3 := hide ((unhide HNB1).below hlt (unhide hBl))
     have B3 := hide (Below.step b1 (unhide hBl))
     by_cases hjN : j < N
     ·exfalso
      have := unhide HN
      omega
     ·have hjE : j = N := by omega
      subst hjE
      have hRR : R = some C := by rw [← unhide hR]; exact fills_end _ _ _ _ (by have := unhide HN; omega)
      have PR2 := hide hRR
      have hp := put10_is (unhide HC3) (unhide HN3) (v0 := .int .i64 C.k) (v1 := .int .i64 C.op) (v2 := .int .u64 C.se) (v3 := .slice a1 a2 a3) (v4 := .int .i64 C.fl) (v5 := .slice d1 d2 d3) (v6 := .int .u64 C.ep) (v7 := .int .u64 C.ge) (v8 := .int .i64 C.n) (v9 := .int .i64 C.m) (by simp)
      have HP := hide (And.intro (hp.2.2.1 _ _ (unhide hP)) (And.intro (hp.2.2.1 _ _ (unhide hV)) (hp.2.2.2 _ _ (Nat.le_refl _) (unhide B3))))
      obtain ⟨D1, kf⟩ := unhide hC
      obtain ⟨D2, rf⟩ := unhide HC3
      have k0 := D1 0 _ rfl
      have r0 := D2 0 _ rfl
      have k1 := D1 1 _ rfl
      have r1 := D2 1 _ rfl
      have k2 := D1 2 _ rfl
      have r2 := D2 2 _ rfl
      have k3 := D1 3 _ rfl
      have r3 := D2 3 _ rfl
      have k4 := D1 4 _ rfl
      have r4 := D2 4 _ rfl
      have k5 := D1 5 _ rfl
      have r5 := D2 5 _ rfl
      have k6 := D1 6 _ rfl
      have r6 := D2 6 _ rfl
      have k7 := D1 7 _ rfl
      have r7 := D2 7 _ rfl
      have k8 := D1 8 _ rfl
      have r8 := D2 8 _ rfl
      have k9 := D1 9 _ rfl
      have r9 := D2 9 _ rfl
      clear D1 D2 hRR hp
      go_wp2
      refine bodyPost_ret (v := .tuple #[cmV C.k C.op C.se (.slice a1 a2 a3) C.fl (.slice d1 d2 d3) C.ep C.ge C.n C.m, .int .i64 0]) (by simp [results, Tryd.results4, go_sem, k0, k1, k2, k3, k4, k5, k6, k7, k8, k9, r0, r1, r2, r3, r4, r5, r6, r7, r8, r9]) rfl ?_
      have ek' := unhide ek
      rw [unhide PR2] at ek' ⊢
      subst ek'
      exact ⟨⟨_, rfl, ⟨a1, a2, a3, d1, d2, d3, rfl, (unhide HP).1, (unhide HP).2.1⟩⟩, (unhide HP).2.2⟩
   ·obtain ⟨hk, hl1⟩ := h1
    have hn3 : 0 < n2 := by
     rw [unhide E2]
     cases ps with
     | nil => cases hl1
     | cons a r => simp
    have hb1 : ∀ h, (s[n2 - 1]'h).toNat = 86 := fun h => by
     have hx : ps[n2 - 1]? = some (.inl .i32) := by rw [List.getLast?_eq_getElem?] at hl1; rw [unhide E2]; exact hl1
     rw [unhide HB _ _ hx]; rfl
    have hn4 : (0 : Int) < (n2 : Int) := by omega
    have q1 : ¬ w.heap.size = w2.heap.size := by omega
    have q2 : ¬ w2.heap.size = w.heap.size := by omega
    have q3 : (w.heap.size == w2.heap.size) = false := by simpa using q1
    have hlt : w.heap.size < w2.heap.size := by omega
    have kf2 := fun (cs : Array Value) (t : TypeId) (o : Nat) => (frozen?_alloc_cells w2 cs t ⟨w.heap.size, o, none⟩).trans ((unhide HC1).2 o)
    have m0 := fun (o : Obj) => (World.cell?_alloc_lt w2 o ⟨w.heap.size, 0, none⟩ hlt).trans ((unhide HC1).1 0 _ rfl)
    have m1 := fun (o : Obj) => (World.cell?_alloc_lt w2 o ⟨w.heap.size, 1, none⟩ hlt).trans ((unhide HC1).1 1 _ rfl)
    have m2 := fun (o : Obj) => (World.cell?_alloc_lt w2 o ⟨w.heap.size, 2, none⟩ hlt).trans ((unhide HC1).1 2 _ rfl)
    have m3 := fun (o : Obj) => (World.cell?_alloc_lt w2 o ⟨w.heap.size, 3, none⟩ hlt).trans ((unhide HC1).1 3 _ rfl)
    have m4 := fun (o : Obj) => (World.cell?_alloc_lt w2 o ⟨w.heap.size, 4, none⟩ hlt).trans ((unhide HC1).1 4 _ rfl)
    have m5 := fun (o : Obj) => (World.cell?_alloc_lt w2 o ⟨w.heap.size, 5, none⟩ hlt).trans ((unhide HC1).1 5 _ rfl)
    have m6 := fun (o : Obj) => (World.cell?_alloc_lt w2 o ⟨w.heap.size, 6, none⟩ hlt).trans ((unhide HC1).1 6 _ rfl)
    have m7 := fun (o : Obj) => (World.cell?_alloc_lt w2 o ⟨w.heap.size, 7, none⟩ hlt).trans ((unhide HC1).1 7 _ rfl)
    have m8 := fun (o : Obj) => (World.cell?_alloc_lt w2 o ⟨w.heap.size, 8, none⟩ hlt).trans ((unhide HC1).1 8 _ rfl)
    have m9 := fun (o : Obj) => (World.cell?_alloc_lt w2 o ⟨w.heap.size, 9, none⟩ hlt).trans ((unhide HC1).1 9 _ rfl)
    have hls : leastS ps = n2 - 1 := by rw [unhide E2]; simp only [leastS, hl1]
    by_cases hA : (N : Int) - 1 < (n2 : Int) - 1
    ·obtain ⟨D1, kf⟩ := unhide HC1
     have k0 := D1 0 _ rfl
     have k1 := D1 1 _ rfl
     have k2 := D1 2 _ rfl
     have k3 := D1 3 _ rfl
     have k4 := D1 4 _ rfl
     have k5 := D1 5 _ rfl
     have k6 := D1 6 _ rfl
     have k7 := D1 7 _ rfl
     have k8 := D1 8 _ rfl
     have k9 := D1 9 _ rfl
     clear D1
     have BB := b1
     have PR := hide (by rw [unhide HRR, if_neg (fun hh => by have := unhide HN; have := unhide E2; rw [hls] at hh; omega)] : R = none)
     go_wp2
     refine bodyPost_ret (v := .tuple #[cmV 0 0 0 (.slice none 0 0) 0 (.slice none 0 0) 0 0 0 0, .int .i64 2]) (by simp [results, Tryd.results4, go_sem, k0, k1, k2, k3, k4, k5, k6, k7, k8, k9, World.cell?_alloc_lt, hlt]) rfl ?_
     have ek' := unhide ek
     rw [unhide PR] at ek' ⊢
     subst ek'
     refine ⟨⟨_, rfl, ⟨none, 0, 0, none, 0, 0, rfl, Rd.nil _, Rd.nil _⟩⟩, ?_⟩
     repeat (first | with_reducible exact BB | with_reducible refine Below.setCell ?_ (by simp) _ | with_reducible refine Below.alloc ?_ (by simpa using BB.size) _)
    by_cases hB : (n2 : Int) < (N : Int) - 1
    ·obtain ⟨D1, kf⟩ := unhide HC1
     have k0 := D1 0 _ rfl
     have k1 := D1 1 _ rfl
     have k2 := D1 2 _ rfl
     have k3 := D1 3 _ rfl
     have k4 := D1 4 _ rfl
     have k5 := D1 5 _ rfl
     have k6 := D1 6 _ rfl
     have k7 := D1 7 _ rfl
     have k8 := D1 8 _ rfl
     have k9 := D1 9 _ rfl
     clear D1
     have BB := b1
     have PR := hide (by rw [unhide HRR, if_neg (fun hh => by have := unhide HN; have := unhide E2; rw [hls] at hh; omega)] : R = none)
     go_wp2
     refine bodyPost_ret (v := .tuple #[cmV 0 0 0 (.slice none 0 0) 0 (.slice none 0 0) 0 0 0 0, .int .i64 2]) (by simp [results, Tryd.results4, go_sem, k0, k1, k2, k3, k4, k5, k6, k7, k8, k9, World.cell?_alloc_lt, hlt]) rfl ?_
     have ek' := unhide ek
     rw [unhide PR] at ek' ⊢
     subst ek'
     refine ⟨⟨_, rfl, ⟨none, 0, 0, none, 0, 0, rfl, Rd.nil _, Rd.nil _⟩⟩, ?_⟩
     repeat (first | with_reducible exact BB | with_reducible refine Below.setCell ?_ (by simp) _ | with_reducible refine Below.alloc ?_ (by simpa using BB.size) _)
    have PR : Hid (fillsS (⟨kd, op, 0, [], 0, [], 0, 0, 0, 0⟩ : Cmd) ps rest = R) := by
     show _ = _
     rw [unhide HRR, if_pos (by have := unhide HN; have := unhide E2; rw [hls]; omega), if_neg hk]
    go_wp2
    go_loopw [10] (fun iv wr => ∃ (j : Nat) (C : Cmd) (a1 : Option Addr) (a2 a3 : Nat) (d1 : Option Addr) (d2 d3 : Nat), 1 ≤ j ∧ j ≤ N ∧ w2.heap.size < wr.heap.size ∧ iv = .int .i64 j ∧ Hid (fillsS C (List.drop (j - 1) ps) (rest.drop (j - 1)) = R) ∧ Hid (CellsAre wr w2.heap.size [.int .i64 C.k, .int .i64 C.op, .int .u64 C.se, .slice a1 a2 a3, .int .i64 C.fl, .slice d1 d2 d3, .int .u64 C.ep, .int .u64 C.ge, .int .i64 C.n, .int .i64 C.m]) ∧ Hid (Rd wr (.slice a1 a2 a3) C.pa) ∧ Hid (Rd wr (.slice d1 d2 d3) C.va) ∧ Hid (NoB wr w2.heap.size) ∧ Hid (Below w2.heap.size w2 wr)) (fun iv _ => N - (intOf iv).toNat)
    case atStart => exact ⟨1, ⟨kd, op, 0, [], 0, [], 0, 0, 0, 0⟩, none, 0, 0, none, 0, 0, by omega, by omega, by simp, rfl, PR, (CellsAre.alloc w2 _ _), Rd.nil _, Rd.nil _, (NoB.alloc w2 _ _ (by simp)), ((Below.refl _ w2).alloc (Nat.le_refl _) _)⟩
    case round =>
     obtain ⟨j, C, a1, a2, a3, d1, d2, d3, hj1, hj2, zb, rfl, hR, hC, hP, hV, hNo, hBl⟩ := hrel
     have wj : IntKind.i64.wrap ((j : Int) + 1) = ((j + 1 : Nat) : Int) := by rw [IntWalk.i64_in _ (by omega)]; omega
     have zr := (unhide hBl).size
     have HC3 := hide ((unhide HC1).below hlt (unhide hBl))
     have HN3 := hide ((unhide HNB1).below hlt (unhide hBl))
     have B3 := hide (Below.step b1 (unhide hBl))
     by_cases hjN : j < N
     ·have hjN' : (j : Int) < (N : Int) := by omega
      have hjr : j - 1 < rest.length := by have := unhide HN; omega
      obtain ⟨y1, hy1⟩ : ∃ y, rest[j - 1]? = some y := ⟨_, List.getElem?_eq_getElem hjr⟩
      have hjp : j - 1 < (ps : List Part).length := by have := unhide E2; have := unhide HN; omega
      obtain ⟨pt, hpt⟩ : ∃ q, (ps : List Part)[j - 1]? = some q := ⟨_, List.getElem?_eq_getElem hjp⟩
      obtain ⟨y9, ey9⟩ : ∃ y9, pt.byte.toNat = y9 := ⟨_, rfl⟩
      have hby : ∀ h, ((s : ByteArray)[j - 1]'h).toNat = y9 := fun h => by rw [← ey9]; exact unhide HB (j - 1) pt hpt h
      have ey : (y9 : Int) = pt.byte := by rw [← ey9]; rcases pt with (_ | _ | _ | _ | _ | _ | _ | _) | (_ | _ | _) <;> rfl
      have wj0 : IntKind.i64.wrap ((j : Int) - 1) = ((j - 1 : Nat) : Int) := by rw [IntWalk.i64_in _ (by omega)]; omega
      have hj3 : ((j - 1 : Nat) : Int) < (n2 : Int) := by have := unhide E2; have := unhide HN; omega
      have hst := fills_step C _ _ _ _ _ hpt hy1
      rw [show j - 1 + 1 = j by omega] at hst
      have HST := hide hst
      have hwx : (wds l)[j]? = some y1 := by rw [unhide EX, show j = j - 1 + 1 by omega, List.getElem?_cons_succ]; exact hy1
      obtain ⟨b9, o9, q9, d9, e9, hc9, hr9⟩ := (unhide HW).below (unhide hBl) j y1 hwx
      simp only [Option.some.injEq, Addr.mk.injEq, and_true] at e9
      obtain ⟨rfl, rfl⟩ := e9
      have hby2 := (wds_byt l (unhide hb) y1 (List.mem_of_getElem? hwx))
      have hwl : y1.length ≤ 1048576 := by have := hby2.2; rw [unhide en] at this; omega
      have HYB := hide (And.intro hby2.1 hwl)
      have HR9 := hide hr9
      have hcf : ∀ (vs : Array Value) (w : World), (callFunc 14 vs).run Tryd.prog w = .ok (.enter 14 vs) w := fun vs w => by kernel_rfl
      have HCF := hide hcf
      obtain ⟨vA, hvA⟩ : ∃ V, V = wr.drew := ⟨_, rfl⟩
      have hbA : Below wr.heap.size wr vA := by rw [hvA]; exact (Below.refl _ _).drew
      have zA := hbA.size
      have G : Hid (∀ v, Below vA.heap.size vA v → CellsAre v w2.heap.size [.int .i64 C.k, .int .i64 C.op, .int .u64 C.se, .slice a1 a2 a3, .int .i64 C.fl, .slice d1 d2 d3, .int .u64 C.ep, .int .u64 C.ge, .int .i64 C.n, .int .i64 C.m] ∧ CellsAre v w.heap.size [.int .i64 0, .int .i64 0, .int .u64 0, .slice none 0 0, .int .i64 0, .slice none 0 0, .int .u64 0, .int .u64 0, .int .i64 0, .int .i64 0] ∧ NoB v w2.heap.size ∧ NoB v w.heap.size ∧ v.cell? ⟨b, o + j, none⟩ = some (.slice q9 y1.length d9) ∧ Below w2.heap.size w2 v ∧ Below w.heap.size w v) := fun v hv => by
       have hv' : Below wr.heap.size wr v := Below.step hbA hv
       exact ⟨(unhide hC).below (by omega) hv', (unhide HC3).below (by omega) hv', (unhide hNo).below (by omega) hv', (unhide HN3).below (by omega) hv', cell_below hc9 hv', Below.step (unhide hBl) hv', Below.step (unhide B3) hv'⟩
      have GR : Hid (∀ v, Below vA.heap.size vA v → Rd v (.slice q9 y1.length d9) y1 ∧ Rd v (.slice a1 a2 a3) C.pa ∧ Rd v (.slice d1 d2 d3) C.va) := fun v hv => by
       have hv' : Below wr.heap.size wr v := Below.step hbA hv
       exact ⟨(unhide HR9).below hv', (unhide hP).below hv', (unhide hV).below hv'⟩
      have HFA : Hid (∀ v, Below vA.heap.size vA v → Calls Tryd.prog 14 #[(cmV C.k C.op C.se (.slice a1 a2 a3) C.fl (.slice d1 d2 d3) C.ep C.ge C.n C.m), .int .u8 y9, .slice q9 y1.length d9] v (fun e w' => (∃ V', e = .returned (.tuple #[V', .bool (fillS C pt y1).isSome]) ∧ IsCm V' ∧ ∀ C', fillS C pt y1 = some C' → RdCm w' V' C') ∧ Below v.heap.size v w')) := fun v hv => by
       have := fill_any pt C _ q9 d9 y1.length y1 (hide rfl) v ⟨a1, a2, a3, d1, d2, d3, rfl, (unhide GR v hv).2.1, (unhide GR v hv).2.2⟩ (unhide GR v hv).1 (hide (unhide HYB).1) (unhide HYB).2
       rw [← ey] at this
       exact this
      obtain ⟨Y, eY⟩ : ∃ Y : Nat, y1.length = Y := ⟨_, rfl⟩
      rw [eY] at G hc9 HFA
      have EYL := hide eY
      have HEY := hide ey
      obtain ⟨D1, kf⟩ := unhide hC
      have k0 := D1 0 _ rfl
      have k1 := D1 1 _ rfl
      have k2 := D1 2 _ rfl
      have k3 := D1 3 _ rfl
      have k4 := D1 4 _ rfl
      have k5 := D1 5 _ rfl
      have k6 := D1 6 _ rfl
      have k7 := D1 7 _ rfl
      have k8 := D1 8 _ rfl
      have k9 := D1 9 _ rfl
      clear D1 hst hr9 hwx hby2 hy1 hpt hjr hjp hcf hwl eY ey
      go_wp2_with fail
      refine wp_region_noPanic ?_
      refine wp_region_held_drew (S := fun w' => At10 w' w2.heap.size (.int .i64 C.k) (.int .i64 C.op) (.int .u64 C.se) (.slice a1 a2 a3) (.int .i64 C.fl) (.slice d1 d2 d3) (.int .u64 C.ep) (.int .u64 C.ge) (.int .i64 C.n) (.int .i64 C.m) ∧ w'.cell? ⟨b, o + j, none⟩ = some (.slice q9 Y d9)) (by kernel_rfl) (by rw [← hvA]; exact ⟨(unhide G vA (Below.refl _ _)).1.at10, (unhide G vA (Below.refl _ _)).2.2.2.2.1⟩) (fun hS => ?_)
      rw [← hvA] at hS ⊢
      clear hvA hbA k0 k1 k2 k3 k4 k5 k6 k7 k8 k9 kf hc9
      refine tk 0 hS (h := ?_)
      simp only [Act.put, xa, xb, xc]
      refine tk 1 hS (h := ?_)
      simp only [Act.put, xa, xb, xc]
      refine tk 2 hS (h := ?_)
      simp only [Act.put, xa, xb, xc]
      refine tk 3 hS (h := ?_)
      simp only [Act.put, xa, xb, xc]
      refine tk 4 hS (h := ?_)
      simp only [Act.put, xa, xb, xc]
      refine tk 5 hS (h := ?_)
      simp only [Act.put, xa, xb, xc]
      refine tk 6 hS (h := ?_)
      simp only [Act.put, xa, xb, xc]
      refine tk 7 hS (h := ?_)
      simp only [Act.put, xa, xb, xc]
      refine tk 8 hS (h := ?_)
      simp only [Act.put, xa, xb, xc]
      refine ry [9, 13] ?_

      refine cn (fun KK hK => ?_) ?_
      ·refine step_call (by rfl) 14 _ _ _ _ (by rfl) (cmV C.k C.op C.se (.slice a1 a2 a3) C.fl (.slice d1 d2 d3) C.ep C.ge C.n C.m) (.int .u8 y9) (.slice q9 Y d9) (by rfl) (by rfl) (by rfl) (fun _ => unhide HCF _ _) (unhide HFA _ (Below.refl _ _)) ?_
       rintro e v1 ⟨⟨V', rfl, hIs, hsm⟩, hb1⟩
       obtain ⟨C1, x1, x2, x3, y1', y2, y3, rfl, hsm2⟩ := cm_form hIs hsm
       have HSM0 := hide hsm2
       clear hsm hsm2 hIs
       refine ⟨_, rfl, ?_⟩
       refine hK.out _ _ (by exact ⟨(unhide G _ hb1).1.at10, (unhide G _ hb1).2.2.2.2.1⟩) (fun hS => ?_)
       clear hK KK
       (try simp only [Act.put, xa, xb, xc])
       refine tk 10 hS (h := ?_)
       simp only [Act.put, xa, xb, xc]
       refine tk 11 hS (h := ?_)
       simp only [Act.put, xa, xb, xc]
       refine tk 12 hS (h := ?_)
       simp only [Act.put, xa, xb, xc]
       refine ry [13] ?_
       refine cn (fun KK hK => ?_) ?_
       ·go_simp
        obtain ⟨v2, hu⟩ : ∃ Z, Z = v1.alloc (.cells #[.int .i64 0, .int .i64 0, .int .u64 0, .slice none 0 0, .int .i64 0, .slice none 0 0, .int .u64 0, .int .u64 0, .int .i64 0, .int .i64 0] 27) := ⟨_, rfl⟩
        have CN0 := hide (by rw [hu]; exact CellsAre.alloc v1 #[.int .i64 0, .int .i64 0, .int .u64 0, .slice none 0 0, .int .i64 0, .slice none 0 0, .int .u64 0, .int .u64 0, .int .i64 0, .int .i64 0] _ : CellsAre v2 v1.heap.size [.int .i64 0, .int .i64 0, .int .u64 0, .slice none 0 0, .int .i64 0, .slice none 0 0, .int .u64 0, .int .u64 0, .int .i64 0, .int .i64 0])
        have NN0 := hide (by rw [hu]; exact NoB.alloc v1 _ _ (by simp) : NoB v2 v1.heap.size)
        have hbu : Below v1.heap.size v1 v2 := by rw [hu]; exact (Below.refl _ _).alloc (Nat.le_refl _) _
        have zu : v2.heap.size = v1.heap.size + 1 := by rw [hu]; simp
        rw [← hu]
        clear hu
        have bv := Below.step hb1 hbu
        have CN := CN0
        have NN := NN0
        have hnb : vA.heap.size ≤ v1.heap.size := hb1.size
        have HSM := hide fun C' (e : fillS C pt y1 = some C') => And.intro (unhide HSM0 C' e).1 (And.intro ((unhide HSM0 C' e).2.1.below hbu) ((unhide HSM0 C' e).2.2.below hbu))
        refine hK.out _ _ (by exact ⟨(unhide G _ bv).1.at10, (unhide G _ bv).2.2.2.2.1⟩) (fun hS => ?_)
        clear hK KK
        (try simp only [Act.put, xa, xb, xc])
        refine ry [14] ?_
        refine cn (fun KK hK => ?_) ?_
        ·have r0 := (unhide CN).1 0 _ rfl
         have r1 := (unhide CN).1 1 _ rfl
         have r2 := (unhide CN).1 2 _ rfl
         have r3 := (unhide CN).1 3 _ rfl
         have r4 := (unhide CN).1 4 _ rfl
         have r5 := (unhide CN).1 5 _ rfl
         have r6 := (unhide CN).1 6 _ rfl
         have r7 := (unhide CN).1 7 _ rfl
         have r8 := (unhide CN).1 8 _ rfl
         have r9 := (unhide CN).1 9 _ rfl
         have rf := (unhide CN).2
         go_simp
         clear r0 r1 r2 r3 r4 r5 r6 r7 r8 r9 rf
         have hp := put10_is (unhide CN) (unhide NN) (v0 := .int .i64 C1.k) (v1 := .int .i64 C1.op) (v2 := .int .u64 C1.se) (v3 := .slice x1 x2 x3) (v4 := .int .i64 C1.fl) (v5 := .slice y1' y2 y3) (v6 := .int .u64 C1.ep) (v7 := .int .u64 C1.ge) (v8 := .int .i64 C1.n) (v9 := .int .i64 C1.m) (by simp)
         obtain ⟨v5, hv5⟩ : ∃ Z, Z = put10 v2 v1.heap.size (.int .i64 C1.k) (.int .i64 C1.op) (.int .u64 C1.se) (.slice x1 x2 x3) (.int .i64 C1.fl) (.slice y1' y2 y3) (.int .u64 C1.ep) (.int .u64 C1.ge) (.int .i64 C1.n) (.int .i64 C1.m) := ⟨_, rfl⟩
         rw [← hv5] at hp
         unfold put10 at hv5
         rw [← hv5]
         have b5 := hp.2.2.2 _ _ hnb bv
         refine hK.out _ _ (by exact ⟨(unhide G _ b5).1.at10, (unhide G _ b5).2.2.2.2.1⟩) (fun hS => ?_)
         clear hK KK hv5
         (try simp only [Act.put, xa, xb, xc])
         refine tk 15 hS (h := ?_)
         simp only [Act.put, xa, xb, xc]
         refine wpAnyH_done (by kernel_rfl) ?_ _
         refine NoPanic.normal ?_
         clear hS
         have HC5 := hide (unhide G v5 b5).2.1
         have B5 := hide (unhide G v5 b5).2.2.2.2.2.2
         have z5 := b5.size
         have HP := hide hp
         cases hfi : fillS C pt y1 with
         | none =>
          simp only [Option.isSome_none]
          obtain ⟨D1, kf⟩ := unhide HC5
          have k0 := D1 0 _ rfl
          have k1 := D1 1 _ rfl
          have k2 := D1 2 _ rfl
          have k3 := D1 3 _ rfl
          have k4 := D1 4 _ rfl
          have k5 := D1 5 _ rfl
          have k6 := D1 6 _ rfl
          have k7 := D1 7 _ rfl
          have k8 := D1 8 _ rfl
          have k9 := D1 9 _ rfl
          clear D1
          have BB := unhide B5
          have PR := hide (by rw [← unhide hR, unhide HST, hfi]; rfl : R = none)
          go_wp2
          refine bodyPost_ret (v := .tuple #[cmV 0 0 0 (.slice none 0 0) 0 (.slice none 0 0) 0 0 0 0, .int .i64 2]) (by simp [results, Tryd.results4, go_sem, k0, k1, k2, k3, k4, k5, k6, k7, k8, k9]) rfl ?_
          have ek' := unhide ek
          rw [unhide PR] at ek' ⊢
          subst ek'
          refine ⟨⟨_, rfl, ⟨none, 0, 0, none, 0, 0, rfl, Rd.nil _, Rd.nil _⟩⟩, ?_⟩
          repeat (first | with_reducible exact BB | with_reducible refine Below.setCell ?_ (by simp) _ | with_reducible refine Below.alloc ?_ (by simpa using BB.size) _)
         | some C' =>
          simp only [Option.isSome_some]
          obtain ⟨rfl, hP', hV'⟩ := unhide HSM C' hfi
          have hR' : fillsS C1 (List.drop j ps) (rest.drop j) = R := by rw [← unhide hR, unhide HST, hfi]; rfl
          have HR2 := hide hR'
          have hp2 := put10_is (unhide G v5 b5).1 (unhide G v5 b5).2.2.1 (v0 := .int .i64 C1.k) (v1 := .int .i64 C1.op) (v2 := .int .u64 C1.se) (v3 := .slice x1 x2 x3) (v4 := .int .i64 C1.fl) (v5 := .slice y1' y2 y3) (v6 := .int .u64 C1.ep) (v7 := .int .u64 C1.ge) (v8 := .int .i64 C1.n) (v9 := .int .i64 C1.m) (by simp)
          have HP2 := hide (And.intro hp2.1 (And.intro (hp2.2.2.1 _ _ (hp.2.2.1 _ _ hP')) (And.intro (hp2.2.2.1 _ _ (hp.2.2.1 _ _ hV')) (And.intro hp2.2.1 (hp2.2.2.2 _ _ (Nat.le_refl _) (unhide G v5 b5).2.2.2.2.2.1)))))
          obtain ⟨D2, qf⟩ := hp.1
          obtain ⟨D1, kf⟩ := (unhide G v5 b5).1
          have k0 := D1 0 _ rfl
          have r0 := D2 0 _ rfl
          have k1 := D1 1 _ rfl
          have r1 := D2 1 _ rfl
          have k2 := D1 2 _ rfl
          have r2 := D2 2 _ rfl
          have k3 := D1 3 _ rfl
          have r3 := D2 3 _ rfl
          have k4 := D1 4 _ rfl
          have r4 := D2 4 _ rfl
          have k5 := D1 5 _ rfl
          have r5 := D2 5 _ rfl
          have k6 := D1 6 _ rfl
          have r6 := D2 6 _ rfl
          have k7 := D1 7 _ rfl
          have r7 := D2 7 _ rfl
          have k8 := D1 8 _ rfl
          have r8 := D2 8 _ rfl
          have k9 := D1 9 _ rfl
          have r9 := D2 9 _ rfl
          have t1 : ¬ w2.heap.size = v1.heap.size := by omega
          have t2 : ¬ v1.heap.size = w2.heap.size := by omega
          clear D1 D2 hP' hV' hR' hp hp2 hfi HSM0
          go_wp2
          go_roundw
          case rel => exact ⟨j + 1, C1, x1, x2, x3, y1', y2, y3, by omega, by omega, by simp; omega, by go_num, HR2, (unhide HP2).1, (unhide HP2).2.1, (unhide HP2).2.2.1, (unhide HP2).2.2.2.1, (unhide HP2).2.2.2.2⟩
          case measure => simp [intOf]; omega
        exact AllReadyH.nil
       exact AllReadyH.nil
      refine cn (fun KK hK => ?_) ?_
      ·go_simp
       obtain ⟨v2, hu⟩ : ∃ Z, Z = vA.alloc (.cells #[.int .i64 0, .int .i64 0, .int .u64 0, .slice none 0 0, .int .i64 0, .slice none 0 0, .int .u64 0, .int .u64 0, .int .i64 0, .int .i64 0] 27) := ⟨_, rfl⟩
       have CN0 := hide (by rw [hu]; exact CellsAre.alloc vA #[.int .i64 0, .int .i64 0, .int .u64 0, .slice none 0 0, .int .i64 0, .slice none 0 0, .int .u64 0, .int .u64 0, .int .i64 0, .int .i64 0] _ : CellsAre v2 vA.heap.size [.int .i64 0, .int .i64 0, .int .u64 0, .slice none 0 0, .int .i64 0, .slice none 0 0, .int .u64 0, .int .u64 0, .int .i64 0, .int .i64 0])
       have NN0 := hide (by rw [hu]; exact NoB.alloc vA _ _ (by simp) : NoB v2 vA.heap.size)
       have hbu : Below vA.heap.size vA v2 := by rw [hu]; exact (Below.refl _ _).alloc (Nat.le_refl _) _
       have zu : v2.heap.size = vA.heap.size + 1 := by rw [hu]; simp
       rw [← hu]
       clear hu
       refine hK.out _ _ (by exact ⟨(unhide G _ hbu).1.at10, (unhide G _ hbu).2.2.2.2.1⟩) (fun hS => ?_)
       clear hK KK
       (try simp only [Act.put, xa, xb, xc])
       refine ry [9] ?_
       refine cn (fun KK hK => ?_) ?_
       ·refine step_call (by rfl) 14 _ _ _ _ (by rfl) (cmV C.k C.op C.se (.slice a1 a2 a3) C.fl (.slice d1 d2 d3) C.ep C.ge C.n C.m) (.int .u8 y9) (.slice q9 Y d9) (by rfl) (by rfl) (by rfl) (fun _ => unhide HCF _ _) (unhide HFA _ hbu) ?_
        rintro e v1 ⟨⟨V', rfl, hIs, hsm⟩, hb1⟩
        obtain ⟨C1, x1, x2, x3, y1', y2, y3, rfl, hsm2⟩ := cm_form hIs hsm
        have HSM0 := hide hsm2
        clear hsm hsm2 hIs
        refine ⟨_, rfl, ?_⟩
        have bv := Below.step hbu hb1
        have CN := hide ((unhide CN0).below (by omega) hb1)
        have NN := hide ((unhide NN0).below (by omega) hb1)
        have hnb := Nat.le_refl vA.heap.size
        have HSM := HSM0
        refine hK.out _ _ (by exact ⟨(unhide G _ bv).1.at10, (unhide G _ bv).2.2.2.2.1⟩) (fun hS => ?_)
        clear hK KK
        (try simp only [Act.put, xa, xb, xc])
        refine tk 10 hS (h := ?_)
        simp only [Act.put, xa, xb, xc]
        refine tk 11 hS (h := ?_)
        simp only [Act.put, xa, xb, xc]
        refine tk 12 hS (h := ?_)
        simp only [Act.put, xa, xb, xc]
        refine ry [14] ?_
        refine cn (fun KK hK => ?_) ?_
        ·have r0 := (unhide CN).1 0 _ rfl
         have r1 := (unhide CN).1 1 _ rfl
         have r2 := (unhide CN).1 2 _ rfl
         have r3 := (unhide CN).1 3 _ rfl
         have r4 := (unhide CN).1 4 _ rfl
         have r5 := (unhide CN).1 5 _ rfl
         have r6 := (unhide CN).1 6 _ rfl
         have r7 := (unhide CN).1 7 _ rfl
         have r8 := (unhide CN).1 8 _ rfl
         have r9 := (unhide CN).1 9 _ rfl
         have rf := (unhide CN).2
         go_simp
         clear r0 r1 r2 r3 r4 r5 r6 r7 r8 r9 rf
         have hp := put10_is (unhide CN) (unhide NN) (v0 := .int .i64 C1.k) (v1 := .int .i64 C1.op) (v2 := .int .u64 C1.se) (v3 := .slice x1 x2 x3) (v4 := .int .i64 C1.fl) (v5 := .slice y1' y2 y3) (v6 := .int .u64 C1.ep) (v7 := .int .u64 C1.ge) (v8 := .int .i64 C1.n) (v9 := .int .i64 C1.m) (by simp)
         obtain ⟨v5, hv5⟩ : ∃ Z, Z = put10 v1 vA.heap.size (.int .i64 C1.k) (.int .i64 C1.op) (.int .u64 C1.se) (.slice x1 x2 x3) (.int .i64 C1.fl) (.slice y1' y2 y3) (.int .u64 C1.ep) (.int .u64 C1.ge) (.int .i64 C1.n) (.int .i64 C1.m) := ⟨_, rfl⟩
         rw [← hv5] at hp
         unfold put10 at hv5
         rw [← hv5]
         have b5 := hp.2.2.2 _ _ hnb bv
         refine hK.out _ _ (by exact ⟨(unhide G _ b5).1.at10, (unhide G _ b5).2.2.2.2.1⟩) (fun hS => ?_)
         clear hK KK hv5
         (try simp only [Act.put, xa, xb, xc])
         refine tk 15 hS (h := ?_)
         simp only [Act.put, xa, xb, xc]
         refine wpAnyH_done (by kernel_rfl) ?_ _
         refine NoPanic.normal ?_
         clear hS
         have HC5 := hide (unhide G v5 b5).2.1
         have B5 := hide (unhide G v5 b5).2.2.2.2.2.2
         have z5 := b5.size
         have HP := hide hp
         cases hfi : fillS C pt y1 with
         | none =>
          simp only [Option.isSome_none]
          obtain ⟨D1, kf⟩ := unhide HC5
          have k0 := D1 0 _ rfl
          have k1 := D1 1 _ rfl
          have k2 := D1 2 _ rfl
          have k3 := D1 3 _ rfl
          have k4 := D1 4 _ rfl
          have k5 := D1 5 _ rfl
          have k6 := D1 6 _ rfl
          have k7 := D1 7 _ rfl
          have k8 := D1 8 _ rfl
          have k9 := D1 9 _ rfl
          clear D1
          have BB := unhide B5
          have PR := hide (by rw [← unhide hR, unhide HST, hfi]; rfl : R = none)
          go_wp2
          refine bodyPost_ret (v := .tuple #[cmV 0 0 0 (.slice none 0 0) 0 (.slice none 0 0) 0 0 0 0, .int .i64 2]) (by simp [results, Tryd.results4, go_sem, k0, k1, k2, k3, k4, k5, k6, k7, k8, k9]) rfl ?_
          have ek' := unhide ek
          rw [unhide PR] at ek' ⊢
          subst ek'
          refine ⟨⟨_, rfl, ⟨none, 0, 0, none, 0, 0, rfl, Rd.nil _, Rd.nil _⟩⟩, ?_⟩
          repeat (first | with_reducible exact BB | with_reducible refine Below.setCell ?_ (by simp) _ | with_reducible refine Below.alloc ?_ (by simpa using BB.size) _)
         | some C' =>
          simp only [Option.isSome_some]
          obtain ⟨rfl, hP', hV'⟩ := unhide HSM C' hfi
          have hR' : fillsS C1 (List.drop j ps) (rest.drop j) = R := by rw [← unhide hR, unhide HST, hfi]; rfl
          have HR2 := hide hR'
          have hp2 := put10_is (unhide G v5 b5).1 (unhide G v5 b5).2.2.1 (v0 := .int .i64 C1.k) (v1 := .int .i64 C1.op) (v2 := .int .u64 C1.se) (v3 := .slice x1 x2 x3) (v4 := .int .i64 C1.fl) (v5 := .slice y1' y2 y3) (v6 := .int .u64 C1.ep) (v7 := .int .u64 C1.ge) (v8 := .int .i64 C1.n) (v9 := .int .i64 C1.m) (by simp)
          have HP2 := hide (And.intro hp2.1 (And.intro (hp2.2.2.1 _ _ (hp.2.2.1 _ _ hP')) (And.intro (hp2.2.2.1 _ _ (hp.2.2.1 _ _ hV')) (And.intro hp2.2.1 (hp2.2.2.2 _ _ (Nat.le_refl _) (unhide G v5 b5).2.2.2.2.2.1)))))
          obtain ⟨D2, qf⟩ := hp.1
          obtain ⟨D1, kf⟩ := (unhide G v5 b5).1
          have k0 := D1 0 _ rfl
          have r0 := D2 0 _ rfl
          have k1 := D1 1 _ rfl
          have r1 := D2 1 _ rfl
          have k2 := D1 2 _ rfl
          have r2 := D2 2 _ rfl
          have k3 := D1 3 _ rfl
          have r3 := D2 3 _ rfl
          have k4 := D1 4 _ rfl
          have r4 := D2 4 _ rfl
          have k5 := D1 5 _ rfl
          have r5 := D2 5 _ rfl
          have k6 := D1 6 _ rfl
          have r6 := D2 6 _ rfl
          have k7 := D1 7 _ rfl
          have r7 := D2 7 _ rfl
          have k8 := D1 8 _ rfl
          have r8 := D2 8 _ rfl
          have k9 := D1 9 _ rfl
          have r9 := D2 9 _ rfl
          have t1 : ¬ w2.heap.size = vA.heap.size := by omega
          have t2 : ¬ vA.heap.size = w2.heap.size := by omega
          clear D1 D2 hP' hV' hR' hp hp2 hfi HSM0
          go_wp2
          go_roundw
          case rel => exact ⟨j + 1, C1, x1, x2, x3, y1', y2, y3, by omega, by omega, by simp; omega, by go_num, HR2, (unhide HP2).1, (unhide HP2).2.1, (unhide HP2).2.2.1, (unhide HP2).2.2.2.1, (unhide HP2).2.2.2.2⟩
          case measure => simp [intOf]; omega
        exact AllReadyH.nil
       exact AllReadyH.nil
      exact AllReadyH.nil
     ·have hjE : j = N := by omega
      subst hjE
      have hRR : R = some C := by rw [← unhide hR]; exact fills_end _ _ _ _ (by have := unhide HN; omega)
      have PR2 := hide hRR
      have hp := put10_is (unhide HC3) (unhide HN3) (v0 := .int .i64 C.k) (v1 := .int .i64 C.op) (v2 := .int .u64 C.se) (v3 := .slice a1 a2 a3) (v4 := .int .i64 C.fl) (v5 := .slice d1 d2 d3) (v6 := .int .u64 C.ep) (v7 := .int .u64 C.ge) (v8 := .int .i64 C.n) (v9 := .int .i64 C.m) (by simp)
      have HP := hide (And.intro (hp.2.2.1 _ _ (unhide hP)) (And.intro (hp.2.2.1 _ _ (unhide hV)) (hp.2.2.2 _ _ (Nat.le_refl _) (unhide B3))))
      obtain ⟨D1, kf⟩ := unhide hC
      obtain ⟨D2, rf⟩ := unhide HC3
      have k0 := D1 0 _ rfl
      have r0 := D2 0 _ rfl
      have k1 := D1 1 _ rfl
      have r1 := D2 1 _ rfl
      have k2 := D1 2 _ rfl
      have r2 := D2 2 _ rfl
      have k3 := D1 3 _ rfl
      have r3 := D2 3 _ rfl
      have k4 := D1 4 _ rfl
      have r4 := D2 4 _ rfl
      have k5 := D1 5 _ rfl
      have r5 := D2 5 _ rfl
      have k6 := D1 6 _ rfl
      have r6 := D2 6 _ rfl
      have k7 := D1 7 _ rfl
      have r7 := D2 7 _ rfl
      have k8 := D1 8 _ rfl
      have r8 := D2 8 _ rfl
      have k9 := D1 9 _ rfl
      have r9 := D2 9 _ rfl
      clear D1 D2 hRR hp
      go_wp2
      refine bodyPost_ret (v := .tuple #[cmV C.k C.op C.se (.slice a1 a2 a3) C.fl (.slice d1 d2 d3) C.ep C.ge C.n C.m, .int .i64 0]) (by simp [results, Tryd.results4, go_sem, k0, k1, k2, k3, k4, k5, k6, k7, k8, k9, r0, r1, r2, r3, r4, r5, r6, r7, r8, r9]) rfl ?_
      have ek' := unhide ek
      rw [unhide PR2] at ek' ⊢
      subst ek'
      exact ⟨⟨_, rfl, ⟨a1, a2, a3, d1, d2, d3, rfl, (unhide HP).1, (unhide HP).2.1⟩⟩, (unhide HP).2.2⟩
   ·obtain ⟨hk, q, hl1, hq1, hq2⟩ := h1
    obtain ⟨y, ey⟩ : ∃ y, q.byte.toNat = y := ⟨_, rfl⟩
    have hy1 : ¬ y = 86 := by subst ey; rcases q with (_ | _ | _ | _ | _ | _ | _ | _) | (_ | _ | _) <;> simp_all [Part.byte]
    have hy2 : ¬ y = 99 := by subst ey; rcases q with (_ | _ | _ | _ | _ | _ | _ | _) | (_ | _ | _) <;> simp_all [Part.byte]
    have hy3 : ¬ (y : Int) = 86 := by omega
    have hy4 : ¬ (y : Int) = 99 := by omega
    have hz1 : ((y : Int) == 86) = false := by simpa using hy3
    have hz2 : ((y : Int) == 99) = false := by simpa using hy4
    have hn3 : 0 < n2 := by
     rw [unhide E2]
     cases ps with
     | nil => cases hl1
     | cons a r => simp
    have hb1 : ∀ h, (s[n2 - 1]'h).toNat = y := fun h => by
     have hx : ps[n2 - 1]? = some q := by rw [List.getLast?_eq_getElem?] at hl1; rw [unhide E2]; exact hl1
     rw [unhide HB _ _ hx]; exact ey
    have hn4 : (0 : Int) < (n2 : Int) := by omega
    have q1 : ¬ w.heap.size = w2.heap.size := by omega
    have q2 : ¬ w2.heap.size = w.heap.size := by omega
    have q3 : (w.heap.size == w2.heap.size) = false := by simpa using q1
    have hlt : w.heap.size < w2.heap.size := by omega
    have kf2 := fun (cs : Array Value) (t : TypeId) (o : Nat) => (frozen?_alloc_cells w2 cs t ⟨w.heap.size, o, none⟩).trans ((unhide HC1).2 o)
    have m0 := fun (o : Obj) => (World.cell?_alloc_lt w2 o ⟨w.heap.size, 0, none⟩ hlt).trans ((unhide HC1).1 0 _ rfl)
    have m1 := fun (o : Obj) => (World.cell?_alloc_lt w2 o ⟨w.heap.size, 1, none⟩ hlt).trans ((unhide HC1).1 1 _ rfl)
    have m2 := fun (o : Obj) => (World.cell?_alloc_lt w2 o ⟨w.heap.size, 2, none⟩ hlt).trans ((unhide HC1).1 2 _ rfl)
    have m3 := fun (o : Obj) => (World.cell?_alloc_lt w2 o ⟨w.heap.size, 3, none⟩ hlt).trans ((unhide HC1).1 3 _ rfl)
    have m4 := fun (o : Obj) => (World.cell?_alloc_lt w2 o ⟨w.heap.size, 4, none⟩ hlt).trans ((unhide HC1).1 4 _ rfl)
    have m5 := fun (o : Obj) => (World.cell?_alloc_lt w2 o ⟨w.heap.size, 5, none⟩ hlt).trans ((unhide HC1).1 5 _ rfl)
    have m6 := fun (o : Obj) => (World.cell?_alloc_lt w2 o ⟨w.heap.size, 6, none⟩ hlt).trans ((unhide HC1).1 6 _ rfl)
    have m7 := fun (o : Obj) => (World.cell?_alloc_lt w2 o ⟨w.heap.size, 7, none⟩ hlt).trans ((unhide HC1).1 7 _ rfl)
    have m8 := fun (o : Obj) => (World.cell?_alloc_lt w2 o ⟨w.heap.size, 8, none⟩ hlt).trans ((unhide HC1).1 8 _ rfl)
    have m9 := fun (o : Obj) => (World.cell?_alloc_lt w2 o ⟨w.heap.size, 9, none⟩ hlt).trans ((unhide HC1).1 9 _ rfl)
    have hls : leastS ps = n2 := by rw [unhide E2]; unfold leastS; rw [hl1]; rcases q with (_ | _ | _ | _ | _ | _ | _ | _) | (_ | _ | _) <;> first | rfl | exact absurd rfl hq1 | exact absurd rfl hq2
    by_cases hA : (N : Int) - 1 < (n2 : Int)
    ·obtain ⟨D1, kf⟩ := unhide HC1
     have k0 := D1 0 _ rfl
     have k1 := D1 1 _ rfl
     have k2 := D1 2 _ rfl
     have k3 := D1 3 _ rfl
     have k4 := D1 4 _ rfl
     have k5 := D1 5 _ rfl
     have k6 := D1 6 _ rfl
     have k7 := D1 7 _ rfl
     have k8 := D1 8 _ rfl
     have k9 := D1 9 _ rfl
     clear D1
     have BB := b1
     have PR := hide (by rw [unhide HRR, if_neg (fun hh => by have := unhide HN; have := unhide E2; rw [hls] at hh; omega)] : R = none)
     go_wp2
     refine bodyPost_ret (v := .tuple #[cmV 0 0 0 (.slice none 0 0) 0 (.slice none 0 0) 0 0 0 0, .int .i64 2]) (by simp [results, Tryd.results4, go_sem, k0, k1, k2, k3, k4, k5, k6, k7, k8, k9, World.cell?_alloc_lt, hlt]) rfl ?_
     have ek' := unhide ek
     rw [unhide PR] at ek' ⊢
     subst ek'
     refine ⟨⟨_, rfl, ⟨none, 0, 0, none, 0, 0, rfl, Rd.nil _, Rd.nil _⟩⟩, ?_⟩
     repeat (first | with_reducible exact BB | with_reducible refine Below.setCell ?_ (by simp) _ | with_reducible refine Below.alloc ?_ (by simpa using BB.size) _)
    by_cases hB : (n2 : Int) < (N : Int) - 1
    ·obtain ⟨D1, kf⟩ := unhide HC1
     have k0 := D1 0 _ rfl
     have k1 := D1 1 _ rfl
     have k2 := D1 2 _ rfl
     have k3 := D1 3 _ rfl
     have k4 := D1 4 _ rfl
     have k5 := D1 5 _ rfl
     have k6 := D1 6 _ rfl
     have k7 := D1 7 _ rfl
     have k8 := D1 8 _ rfl
     have k9 := D1 9 _ rfl
     clear D1
     have BB := b1
     have PR := hide (by rw [unhide HRR, if_neg (fun hh => by have := unhide HN; have := unhide E2; rw [hls] at hh; omega)] : R = none)
     go_wp2
     refine bodyPost_ret (v := .tuple #[cmV 0 0 0 (.slice none 0 0) 0 (.slice none 0 0) 0 0 0 0, .int .i64 2]) (by simp [results, Tryd.results4, go_sem, k0, k1, k2, k3, k4, k5, k6, k7, k8, k9, World.cell?_alloc_lt, hlt]) rfl ?_
     have ek' := unhide ek
     rw [unhide PR] at ek' ⊢
     subst ek'
     refine ⟨⟨_, rfl, ⟨none, 0, 0, none, 0, 0, rfl, Rd.nil _, Rd.nil _⟩⟩, ?_⟩
     repeat (first | with_reducible exact BB | with_reducible refine Below.setCell ?_ (by simp) _ | with_reducible refine Below.alloc ?_ (by simpa using BB.size) _)
    have PR : Hid (fillsS (⟨kd, op, 0, [], 0, [], 0, 0, 0, 0⟩ : Cmd) ps rest = R) := by
     show _ = _
     rw [unhide HRR, if_pos (by have := unhide HN; have := unhide E2; rw [hls]; omega), if_neg hk]
    go_wp2
    go_loopw [10] (fun iv wr => ∃ (j : Nat) (C : Cmd) (a1 : Option Addr) (a2 a3 : Nat) (d1 : Option Addr) (d2 d3 : Nat), 1 ≤ j ∧ j ≤ N ∧ w2.heap.size < wr.heap.size ∧ iv = .int .i64 j ∧ Hid (fillsS C (List.drop (j - 1) ps) (rest.drop (j - 1)) = R) ∧ Hid (CellsAre wr w2.heap.size [.int .i64 C.k, .int .i64 C.op, .int .u64 C.se, .slice a1 a2 a3, .int .i64 C.fl, .slice d1 d2 d3, .int .u64 C.ep, .int .u64 C.ge, .int .i64 C.n, .int .i64 C.m]) ∧ Hid (Rd wr (.slice a1 a2 a3) C.pa) ∧ Hid (Rd wr (.slice d1 d2 d3) C.va) ∧ Hid (NoB wr w2.heap.size) ∧ Hid (Below w2.heap.size w2 wr)) (fun iv _ => N - (intOf iv).toNat)
    case atStart => exact ⟨1, ⟨kd, op, 0, [], 0, [], 0, 0, 0, 0⟩, none, 0, 0, none, 0, 0, by omega, by omega, by simp, rfl, PR, (CellsAre.alloc w2 _ _), Rd.nil _, Rd.nil _, (NoB.alloc w2 _ _ (by simp)), ((Below.refl _ w2).alloc (Nat.le_refl _) _)⟩
    case round =>
     obtain ⟨j, C, a1, a2, a3, d1, d2, d3, hj1, hj2, zb, rfl, hR, hC, hP, hV, hNo, hBl⟩ := hrel
     have wj : IntKind.i64.wrap ((j : Int) + 1) = ((j + 1 : Nat) : Int) := by rw [IntWalk.i64_in _ (by omega)]; omega
     have zr := (unhide hBl).size
     have HC3 := hide ((unhide HC1).below hlt (unhide hBl))
     have HN3 := hide ((unhide HNB1).below hlt (unhide hBl))
     have B3 := hide (Below.step b1 (unhide hBl))
     by_cases hjN : j < N
     ·have hjN' : (j : Int) < (N : Int) := by omega
      have hjr : j - 1 < rest.length := by have := unhide HN; omega
      obtain ⟨y1, hy1⟩ : ∃ y, rest[j - 1]? = some y := ⟨_, List.getElem?_eq_getElem hjr⟩
      have hjp : j - 1 < (ps : List Part).length := by have := unhide E2; have := unhide HN; omega
      obtain ⟨pt, hpt⟩ : ∃ q, (ps : List Part)[j - 1]? = some q := ⟨_, List.getElem?_eq_getElem hjp⟩
      obtain ⟨y9, ey9⟩ : ∃ y9, pt.byte.toNat = y9 := ⟨_, rfl⟩
      have hby : ∀ h, ((s : ByteArray)[j - 1]'h).toNat = y9 := fun h => by rw [← ey9]; exact unhide HB (j - 1) pt hpt h
      have ey : (y9 : Int) = pt.byte := by rw [← ey9]; rcases pt with (_ | _ | _ | _ | _ | _ | _ | _) | (_ | _ | _) <;> rfl
      have wj0 : IntKind.i64.wrap ((j : Int) - 1) = ((j - 1 : Nat) : Int) := by rw [IntWalk.i64_in _ (by omega)]; omega
      have hj3 : ((j - 1 : Nat) : Int) < (n2 : Int) := by have := unhide E2; have := unhide HN; omega
      have hst := fills_step C _ _ _ _ _ hpt hy1
      rw [show j - 1 + 1 = j by omega] at hst
      have HST := hide hst
      have hwx : (wds l)[j]? = some y1 := by rw [unhide EX, show j = j - 1 + 1 by omega, List.getElem?_cons_succ]; exact hy1
      obtain ⟨b9, o9, q9, d9, e9, hc9, hr9⟩ := (unhide HW).below (unhide hBl) j y1 hwx
      simp only [Option.some.injEq, Addr.mk.injEq, and_true] at e9
      obtain ⟨rfl, rfl⟩ := e9
      have hby2 := (wds_byt l (unhide hb) y1 (List.mem_of_getElem? hwx))
      have hwl : y1.length ≤ 1048576 := by have := hby2.2; rw [unhide en] at this; omega
      have HYB := hide (And.intro hby2.1 hwl)
      have HR9 := hide hr9
      have hcf : ∀ (vs : Array Value) (w : World), (callFunc 14 vs).run Tryd.prog w = .ok (.enter 14 vs) w := fun vs w => by kernel_rfl
      have HCF := hide hcf
      obtain ⟨vA, hvA⟩ : ∃ V, V = wr.drew := ⟨_, rfl⟩
      have hbA : Below wr.heap.size wr vA := by rw [hvA]; exact (Below.refl _ _).drew
      have zA := hbA.size
      have G : Hid (∀ v, Below vA.heap.size vA v → CellsAre v w2.heap.size [.int .i64 C.k, .int .i64 C.op, .int .u64 C.se, .slice a1 a2 a3, .int .i64 C.fl, .slice d1 d2 d3, .int .u64 C.ep, .int .u64 C.ge, .int .i64 C.n, .int .i64 C.m] ∧ CellsAre v w.heap.size [.int .i64 0, .int .i64 0, .int .u64 0, .slice none 0 0, .int .i64 0, .slice none 0 0, .int .u64 0, .int .u64 0, .int .i64 0, .int .i64 0] ∧ NoB v w2.heap.size ∧ NoB v w.heap.size ∧ v.cell? ⟨b, o + j, none⟩ = some (.slice q9 y1.length d9) ∧ Below w2.heap.size w2 v ∧ Below w.heap.size w v) := fun v hv => by
       have hv' : Below wr.heap.size wr v := Below.step hbA hv
       exact ⟨(unhide hC).below (by omega) hv', (unhide HC3).below (by omega) hv', (unhide hNo).below (by omega) hv', (unhide HN3).below (by omega) hv', cell_below hc9 hv', Below.step (unhide hBl) hv', Below.step (unhide B3) hv'⟩
      have GR : Hid (∀ v, Below vA.heap.size vA v → Rd v (.slice q9 y1.length d9) y1 ∧ Rd v (.slice a1 a2 a3) C.pa ∧ Rd v (.slice d1 d2 d3) C.va) := fun v hv => by
       have hv' : Below wr.heap.size wr v := Below.step hbA hv
       exact ⟨(unhide HR9).below hv', (unhide hP).below hv', (unhide hV).below hv'⟩
      have HFA : Hid (∀ v, Below vA.heap.size vA v → Calls Tryd.prog 14 #[(cmV C.k C.op C.se (.slice a1 a2 a3) C.fl (.slice d1 d2 d3) C.ep C.ge C.n C.m), .int .u8 y9, .slice q9 y1.length d9] v (fun e w' => (∃ V', e = .returned (.tuple #[V', .bool (fillS C pt y1).isSome]) ∧ IsCm V' ∧ ∀ C', fillS C pt y1 = some C' → RdCm w' V' C') ∧ Below v.heap.size v w')) := fun v hv => by
       have := fill_any pt C _ q9 d9 y1.length y1 (hide rfl) v ⟨a1, a2, a3, d1, d2, d3, rfl, (unhide GR v hv).2.1, (unhide GR v hv).2.2⟩ (unhide GR v hv).1 (hide (unhide HYB).1) (unhide HYB).2
       rw [← ey] at this
       exact this
      obtain ⟨Y, eY⟩ : ∃ Y : Nat, y1.length = Y := ⟨_, rfl⟩
      rw [eY] at G hc9 HFA
      have EYL := hide eY
      have HEY := hide ey
      obtain ⟨D1, kf⟩ := unhide hC
      have k0 := D1 0 _ rfl
      have k1 := D1 1 _ rfl
      have k2 := D1 2 _ rfl
      have k3 := D1 3 _ rfl
      have k4 := D1 4 _ rfl
      have k5 := D1 5 _ rfl
      have k6 := D1 6 _ rfl
      have k7 := D1 7 _ rfl
      have k8 := D1 8 _ rfl
      have k9 := D1 9 _ rfl
      clear D1 hst hr9 hwx hby2 hy1 hpt hjr hjp hcf hwl eY ey
      go_wp2_with fail
      refine wp_region_noPanic ?_
      refine wp_region_held_drew (S := fun w' => At10 w' w2.heap.size (.int .i64 C.k) (.int .i64 C.op) (.int .u64 C.se) (.slice a1 a2 a3) (.int .i64 C.fl) (.slice d1 d2 d3) (.int .u64 C.ep) (.int .u64 C.ge) (.int .i64 C.n) (.int .i64 C.m) ∧ w'.cell? ⟨b, o + j, none⟩ = some (.slice q9 Y d9)) (by kernel_rfl) (by rw [← hvA]; exact ⟨(unhide G vA (Below.refl _ _)).1.at10, (unhide G vA (Below.refl _ _)).2.2.2.2.1⟩) (fun hS => ?_)
      rw [← hvA] at hS ⊢
      clear hvA hbA k0 k1 k2 k3 k4 k5 k6 k7 k8 k9 kf hc9
      refine tk 0 hS (h := ?_)
      simp only [Act.put, xa, xb, xc]
      refine tk 1 hS (h := ?_)
      simp only [Act.put, xa, xb, xc]
      refine tk 2 hS (h := ?_)
      simp only [Act.put, xa, xb, xc]
      refine tk 3 hS (h := ?_)
      simp only [Act.put, xa, xb, xc]
      refine tk 4 hS (h := ?_)
      simp only [Act.put, xa, xb, xc]
      refine tk 5 hS (h := ?_)
      simp only [Act.put, xa, xb, xc]
      refine tk 6 hS (h := ?_)
      simp only [Act.put, xa, xb, xc]
      refine tk 7 hS (h := ?_)
      simp only [Act.put, xa, xb, xc]
      refine tk 8 hS (h := ?_)
      simp only [Act.put, xa, xb, xc]
      refine ry [9, 13] ?_

      refine cn (fun KK hK => ?_) ?_
      ·refine step_call (by rfl) 14 _ _ _ _ (by rfl) (cmV C.k C.op C.se (.slice a1 a2 a3) C.fl (.slice d1 d2 d3) C.ep C.ge C.n C.m) (.int .u8 y9) (.slice q9 Y d9) (by rfl) (by rfl) (by rfl) (fun _ => unhide HCF _ _) (unhide HFA _ (Below.refl _ _)) ?_
       rintro e v1 ⟨⟨V', rfl, hIs, hsm⟩, hb1⟩
       obtain ⟨C1, x1, x2, x3, y1', y2, y3, rfl, hsm2⟩ := cm_form hIs hsm
       have HSM0 := hide hsm2
       clear hsm hsm2 hIs
       refine ⟨_, rfl, ?_⟩
       refine hK.out _ _ (by exact ⟨(unhide G _ hb1).1.at10, (unhide G _ hb1).2.2.2.2.1⟩) (fun hS => ?_)
       clear hK KK
       (try simp only [Act.put, xa, xb, xc])
       refine tk 10 hS (h := ?_)
       simp only [Act.put, xa, xb, xc]
       refine tk 11 hS (h := ?_)
       simp only [Act.put, xa, xb, xc]
       refine tk 12 hS (h := ?_)
       simp only [Act.put, xa, xb, xc]
       refine ry [13] ?_
       refine cn (fun KK hK => ?_) ?_
       ·go_simp
        obtain ⟨v2, hu⟩ : ∃ Z, Z = v1.alloc (.cells #[.int .i64 0, .int .i64 0, .int .u64 0, .slice none 0 0, .int .i64 0, .slice none 0 0, .int .u64 0, .int .u64 0, .int .i64 0, .int .i64 0] 27) := ⟨_, rfl⟩
        have CN0 := hide (by rw [hu]; exact CellsAre.alloc v1 #[.int .i64 0, .int .i64 0, .int .u64 0, .slice none 0 0, .int .i64 0, .slice none 0 0, .int .u64 0, .int .u64 0, .int .i64 0, .int .i64 0] _ : CellsAre v2 v1.heap.size [.int .i64 0, .int .i64 0, .int .u64 0, .slice none 0 0, .int .i64 0, .slice none 0 0, .int .u64 0, .int .u64 0, .int .i64 0, .int .i64 0])
        have NN0 := hide (by rw [hu]; exact NoB.alloc v1 _ _ (by simp) : NoB v2 v1.heap.size)
        have hbu : Below v1.heap.size v1 v2 := by rw [hu]; exact (Below.refl _ _).alloc (Nat.le_refl _) _
        have zu : v2.heap.size = v1.heap.size + 1 := by rw [hu]; simp
        rw [← hu]
        clear hu
        have bv := Below.step hb1 hbu
        have CN := CN0
        have NN := NN0
        have hnb : vA.heap.size ≤ v1.heap.size := hb1.size
        have HSM := hide fun C' (e : fillS C pt y1 = some C') => And.intro (unhide HSM0 C' e).1 (And.intro ((unhide HSM0 C' e).2.1.below hbu) ((unhide HSM0 C' e).2.2.below hbu))
        refine hK.out _ _ (by exact ⟨(unhide G _ bv).1.at10, (unhide G _ bv).2.2.2.2.1⟩) (fun hS => ?_)
        clear hK KK
        (try simp only [Act.put, xa, xb, xc])
        refine ry [14] ?_
        refine cn (fun KK hK => ?_) ?_
        ·have r0 := (unhide CN).1 0 _ rfl
         have r1 := (unhide CN).1 1 _ rfl
         have r2 := (unhide CN).1 2 _ rfl
         have r3 := (unhide CN).1 3 _ rfl
         have r4 := (unhide CN).1 4 _ rfl
         have r5 := (unhide CN).1 5 _ rfl
         have r6 := (unhide CN).1 6 _ rfl
         have r7 := (unhide CN).1 7 _ rfl
         have r8 := (unhide CN).1 8 _ rfl
         have r9 := (unhide CN).1 9 _ rfl
         have rf := (unhide CN).2
         go_simp
         clear r0 r1 r2 r3 r4 r5 r6 r7 r8 r9 rf
         have hp := put10_is (unhide CN) (unhide NN) (v0 := .int .i64 C1.k) (v1 := .int .i64 C1.op) (v2 := .int .u64 C1.se) (v3 := .slice x1 x2 x3) (v4 := .int .i64 C1.fl) (v5 := .slice y1' y2 y3) (v6 := .int .u64 C1.ep) (v7 := .int .u64 C1.ge) (v8 := .int .i64 C1.n) (v9 := .int .i64 C1.m) (by simp)
         obtain ⟨v5, hv5⟩ : ∃ Z, Z = put10 v2 v1.heap.size (.int .i64 C1.k) (.int .i64 C1.op) (.int .u64 C1.se) (.slice x1 x2 x3) (.int .i64 C1.fl) (.slice y1' y2 y3) (.int .u64 C1.ep) (.int .u64 C1.ge) (.int .i64 C1.n) (.int .i64 C1.m) := ⟨_, rfl⟩
         rw [← hv5] at hp
         unfold put10 at hv5
         rw [← hv5]
         have b5 := hp.2.2.2 _ _ hnb bv
         refine hK.out _ _ (by exact ⟨(unhide G _ b5).1.at10, (unhide G _ b5).2.2.2.2.1⟩) (fun hS => ?_)
         clear hK KK hv5
         (try simp only [Act.put, xa, xb, xc])
         refine tk 15 hS (h := ?_)
         simp only [Act.put, xa, xb, xc]
         refine wpAnyH_done (by kernel_rfl) ?_ _
         refine NoPanic.normal ?_
         clear hS
         have HC5 := hide (unhide G v5 b5).2.1
         have B5 := hide (unhide G v5 b5).2.2.2.2.2.2
         have z5 := b5.size
         have HP := hide hp
         cases hfi : fillS C pt y1 with
         | none =>
          simp only [Option.isSome_none]
          obtain ⟨D1, kf⟩ := unhide HC5
          have k0 := D1 0 _ rfl
          have k1 := D1 1 _ rfl
          have k2 := D1 2 _ rfl
          have k3 := D1 3 _ rfl
          have k4 := D1 4 _ rfl
          have k5 := D1 5 _ rfl
          have k6 := D1 6 _ rfl
          have k7 := D1 7 _ rfl
          have k8 := D1 8 _ rfl
          have k9 := D1 9 _ rfl
          clear D1
          have BB := unhide B5
          have PR := hide (by rw [← unhide hR, unhide HST, hfi]; rfl : R = none)
          go_wp2
          refine bodyPost_ret (v := .tuple #[cmV 0 0 0 (.slice none 0 0) 0 (.slice none 0 0) 0 0 0 0, .int .i64 2]) (by simp [results, Tryd.results4, go_sem, k0, k1, k2, k3, k4, k5, k6, k7, k8, k9]) rfl ?_
          have ek' := unhide ek
          rw [unhide PR] at ek' ⊢
          subst ek'
          refine ⟨⟨_, rfl, ⟨none, 0, 0, none, 0, 0, rfl, Rd.nil _, Rd.nil _⟩⟩, ?_⟩
          repeat (first | with_reducible exact BB | with_reducible refine Below.setCell ?_ (by simp) _ | with_reducible refine Below.alloc ?_ (by simpa using BB.size) _)
         | some C' =>
          simp only [Option.isSome_some]
          obtain ⟨rfl, hP', hV'⟩ := unhide HSM C' hfi
          have hR' : fillsS C1 (List.drop j ps) (rest.drop j) = R := by rw [← unhide hR, unhide HST, hfi]; rfl
          have HR2 := hide hR'
          have hp2 := put10_is (unhide G v5 b5).1 (unhide G v5 b5).2.2.1 (v0 := .int .i64 C1.k) (v1 := .int .i64 C1.op) (v2 := .int .u64 C1.se) (v3 := .slice x1 x2 x3) (v4 := .int .i64 C1.fl) (v5 := .slice y1' y2 y3) (v6 := .int .u64 C1.ep) (v7 := .int .u64 C1.ge) (v8 := .int .i64 C1.n) (v9 := .int .i64 C1.m) (by simp)
          have HP2 := hide (And.intro hp2.1 (And.intro (hp2.2.2.1 _ _ (hp.2.2.1 _ _ hP')) (And.intro (hp2.2.2.1 _ _ (hp.2.2.1 _ _ hV')) (And.intro hp2.2.1 (hp2.2.2.2 _ _ (Nat.le_refl _) (unhide G v5 b5).2.2.2.2.2.1)))))
          obtain ⟨D2, qf⟩ := hp.1
          obtain ⟨D1, kf⟩ := (unhide G v5 b5).1
          have k0 := D1 0 _ rfl
          have r0 := D2 0 _ rfl
          have k1 := D1 1 _ rfl
          have r1 := D2 1 _ rfl
          have k2 := D1 2 _ rfl
          have r2 := D2 2 _ rfl
          have k3 := D1 3 _ rfl
          have r3 := D2 3 _ rfl
          have k4 := D1 4 _ rfl
          have r4 := D2 4 _ rfl
          have k5 := D1 5 _ rfl
          have r5 := D2 5 _ rfl
          have k6 := D1 6 _ rfl
          have r6 := D2 6 _ rfl
          have k7 := D1 7 _ rfl
          have r7 := D2 7 _ rfl
          have k8 := D1 8 _ rfl
          have r8 := D2 8 _ rfl
          have k9 := D1 9 _ rfl
          have r9 := D2 9 _ rfl
          have t1 : ¬ w2.heap.size = v1.heap.size := by omega
          have t2 : ¬ v1.heap.size = w2.heap.size := by omega
          clear D1 D2 hP' hV' hR' hp hp2 hfi HSM0
          go_wp2
          go_roundw
          case rel => exact ⟨j + 1, C1, x1, x2, x3, y1', y2, y3, by omega, by omega, by simp; omega, by go_num, HR2, (unhide HP2).1, (unhide HP2).2.1, (unhide HP2).2.2.1, (unhide HP2).2.2.2.1, (unhide HP2).2.2.2.2⟩
          case measure => simp [intOf]; omega
        exact AllReadyH.nil
       exact AllReadyH.nil
      refine cn (fun KK hK => ?_) ?_
      ·go_simp
       obtain ⟨v2, hu⟩ : ∃ Z, Z = vA.alloc (.cells #[.int .i64 0, .int .i64 0, .int .u64 0, .slice none 0 0, .int .i64 0, .slice none 0 0, .int .u64 0, .int .u64 0, .int .i64 0, .int .i64 0] 27) := ⟨_, rfl⟩
       have CN0 := hide (by rw [hu]; exact CellsAre.alloc vA #[.int .i64 0, .int .i64 0, .int .u64 0, .slice none 0 0, .int .i64 0, .slice none 0 0, .int .u64 0, .int .u64 0, .int .i64 0, .int .i64 0] _ : CellsAre v2 vA.heap.size [.int .i64 0, .int .i64 0, .int .u64 0, .slice none 0 0, .int .i64 0, .slice none 0 0, .int .u64 0, .int .u64 0, .int .i64 0, .int .i64 0])
       have NN0 := hide (by rw [hu]; exact NoB.alloc vA _ _ (by simp) : NoB v2 vA.heap.size)
       have hbu : Below vA.heap.size vA v2 := by rw [hu]; exact (Below.refl _ _).alloc (Nat.le_refl _) _
       have zu : v2.heap.size = vA.heap.size + 1 := by rw [hu]; simp
       rw [← hu]
       clear hu
       refine hK.out _ _ (by exact ⟨(unhide G _ hbu).1.at10, (unhide G _ hbu).2.2.2.2.1⟩) (fun hS => ?_)
       clear hK KK
       (try simp only [Act.put, xa, xb, xc])
       refine ry [9] ?_
       refine cn (fun KK hK => ?_) ?_
       ·refine step_call (by rfl) 14 _ _ _ _ (by rfl) (cmV C.k C.op C.se (.slice a1 a2 a3) C.fl (.slice d1 d2 d3) C.ep C.ge C.n C.m) (.int .u8 y9) (.slice q9 Y d9) (by rfl) (by rfl) (by rfl) (fun _ => unhide HCF _ _) (unhide HFA _ hbu) ?_
        rintro e v1 ⟨⟨V', rfl, hIs, hsm⟩, hb1⟩
        obtain ⟨C1, x1, x2, x3, y1', y2, y3, rfl, hsm2⟩ := cm_form hIs hsm
        have HSM0 := hide hsm2
        clear hsm hsm2 hIs
        refine ⟨_, rfl, ?_⟩
        have bv := Below.step hbu hb1
        have CN := hide ((unhide CN0).below (by omega) hb1)
        have NN := hide ((unhide NN0).below (by omega) hb1)
        have hnb := Nat.le_refl vA.heap.size
        have HSM := HSM0
        refine hK.out _ _ (by exact ⟨(unhide G _ bv).1.at10, (unhide G _ bv).2.2.2.2.1⟩) (fun hS => ?_)
        clear hK KK
        (try simp only [Act.put, xa, xb, xc])
        refine tk 10 hS (h := ?_)
        simp only [Act.put, xa, xb, xc]
        refine tk 11 hS (h := ?_)
        simp only [Act.put, xa, xb, xc]
        refine tk 12 hS (h := ?_)
        simp only [Act.put, xa, xb, xc]
        refine ry [14] ?_
        refine cn (fun KK hK => ?_) ?_
        ·have r0 := (unhide CN).1 0 _ rfl
         have r1 := (unhide CN).1 1 _ rfl
         have r2 := (unhide CN).1 2 _ rfl
         have r3 := (unhide CN).1 3 _ rfl
         have r4 := (unhide CN).1 4 _ rfl
         have r5 := (unhide CN).1 5 _ rfl
         have r6 := (unhide CN).1 6 _ rfl
         have r7 := (unhide CN).1 7 _ rfl
         have r8 := (unhide CN).1 8 _ rfl
         have r9 := (unhide CN).1 9 _ rfl
         have rf := (unhide CN).2
         go_simp
         clear r0 r1 r2 r3 r4 r5 r6 r7 r8 r9 rf
         have hp := put10_is (unhide CN) (unhide NN) (v0 := .int .i64 C1.k) (v1 := .int .i64 C1.op) (v2 := .int .u64 C1.se) (v3 := .slice x1 x2 x3) (v4 := .int .i64 C1.fl) (v5 := .slice y1' y2 y3) (v6 := .int .u64 C1.ep) (v7 := .int .u64 C1.ge) (v8 := .int .i64 C1.n) (v9 := .int .i64 C1.m) (by simp)
         obtain ⟨v5, hv5⟩ : ∃ Z, Z = put10 v1 vA.heap.size (.int .i64 C1.k) (.int .i64 C1.op) (.int .u64 C1.se) (.slice x1 x2 x3) (.int .i64 C1.fl) (.slice y1' y2 y3) (.int .u64 C1.ep) (.int .u64 C1.ge) (.int .i64 C1.n) (.int .i64 C1.m) := ⟨_, rfl⟩
         rw [← hv5] at hp
         unfold put10 at hv5
         rw [← hv5]
         have b5 := hp.2.2.2 _ _ hnb bv
         refine hK.out _ _ (by exact ⟨(unhide G _ b5).1.at10, (unhide G _ b5).2.2.2.2.1⟩) (fun hS => ?_)
         clear hK KK hv5
         (try simp only [Act.put, xa, xb, xc])
         refine tk 15 hS (h := ?_)
         simp only [Act.put, xa, xb, xc]
         refine wpAnyH_done (by kernel_rfl) ?_ _
         refine NoPanic.normal ?_
         clear hS
         have HC5 := hide (unhide G v5 b5).2.1
         have B5 := hide (unhide G v5 b5).2.2.2.2.2.2
         have z5 := b5.size
         have HP := hide hp
         cases hfi : fillS C pt y1 with
         | none =>
          simp only [Option.isSome_none]
          obtain ⟨D1, kf⟩ := unhide HC5
          have k0 := D1 0 _ rfl
          have k1 := D1 1 _ rfl
          have k2 := D1 2 _ rfl
          have k3 := D1 3 _ rfl
          have k4 := D1 4 _ rfl
          have k5 := D1 5 _ rfl
          have k6 := D1 6 _ rfl
          have k7 := D1 7 _ rfl
          have k8 := D1 8 _ rfl
          have k9 := D1 9 _ rfl
          clear D1
          have BB := unhide B5
          have PR := hide (by rw [← unhide hR, unhide HST, hfi]; rfl : R = none)
          go_wp2
          refine bodyPost_ret (v := .tuple #[cmV 0 0 0 (.slice none 0 0) 0 (.slice none 0 0) 0 0 0 0, .int .i64 2]) (by simp [results, Tryd.results4, go_sem, k0, k1, k2, k3, k4, k5, k6, k7, k8, k9]) rfl ?_
          have ek' := unhide ek
          rw [unhide PR] at ek' ⊢
          subst ek'
          refine ⟨⟨_, rfl, ⟨none, 0, 0, none, 0, 0, rfl, Rd.nil _, Rd.nil _⟩⟩, ?_⟩
          repeat (first | with_reducible exact BB | with_reducible refine Below.setCell ?_ (by simp) _ | with_reducible refine Below.alloc ?_ (by simpa using BB.size) _)
         | some C' =>
          simp only [Option.isSome_some]
          obtain ⟨rfl, hP', hV'⟩ := unhide HSM C' hfi
          have hR' : fillsS C1 (List.drop j ps) (rest.drop j) = R := by rw [← unhide hR, unhide HST, hfi]; rfl
          have HR2 := hide hR'
          have hp2 := put10_is (unhide G v5 b5).1 (unhide G v5 b5).2.2.1 (v0 := .int .i64 C1.k) (v1 := .int .i64 C1.op) (v2 := .int .u64 C1.se) (v3 := .slice x1 x2 x3) (v4 := .int .i64 C1.fl) (v5 := .slice y1' y2 y3) (v6 := .int .u64 C1.ep) (v7 := .int .u64 C1.ge) (v8 := .int .i64 C1.n) (v9 := .int .i64 C1.m) (by simp)
          have HP2 := hide (And.intro hp2.1 (And.intro (hp2.2.2.1 _ _ (hp.2.2.1 _ _ hP')) (And.intro (hp2.2.2.1 _ _ (hp.2.2.1 _ _ hV')) (And.intro hp2.2.1 (hp2.2.2.2 _ _ (Nat.le_refl _) (unhide G v5 b5).2.2.2.2.2.1)))))
          obtain ⟨D2, qf⟩ := hp.1
          obtain ⟨D1, kf⟩ := (unhide G v5 b5).1
          have k0 := D1 0 _ rfl
          have r0 := D2 0 _ rfl
          have k1 := D1 1 _ rfl
          have r1 := D2 1 _ rfl
          have k2 := D1 2 _ rfl
          have r2 := D2 2 _ rfl
          have k3 := D1 3 _ rfl
          have r3 := D2 3 _ rfl
          have k4 := D1 4 _ rfl
          have r4 := D2 4 _ rfl
          have k5 := D1 5 _ rfl
          have r5 := D2 5 _ rfl
          have k6 := D1 6 _ rfl
          have r6 := D2 6 _ rfl
          have k7 := D1 7 _ rfl
          have r7 := D2 7 _ rfl
          have k8 := D1 8 _ rfl
          have r8 := D2 8 _ rfl
          have k9 := D1 9 _ rfl
          have r9 := D2 9 _ rfl
          have t1 : ¬ w2.heap.size = vA.heap.size := by omega
          have t2 : ¬ vA.heap.size = w2.heap.size := by omega
          clear D1 D2 hP' hV' hR' hp hp2 hfi HSM0
          go_wp2
          go_roundw
          case rel => exact ⟨j + 1, C1, x1, x2, x3, y1', y2, y3, by omega, by omega, by simp; omega, by go_num, HR2, (unhide HP2).1, (unhide HP2).2.1, (unhide HP2).2.2.1, (unhide HP2).2.2.2.1, (unhide HP2).2.2.2.2⟩
          case measure => simp [intOf]; omega
        exact AllReadyH.nil
       exact AllReadyH.nil
      exact AllReadyH.nil
     ·have hjE : j = N := by omega
      subst hjE
      have hRR : R = some C := by rw [← unhide hR]; exact fills_end _ _ _ _ (by have := unhide HN; omega)
      have PR2 := hide hRR
      have hp := put10_is (unhide HC3) (unhide HN3) (v0 := .int .i64 C.k) (v1 := .int .i64 C.op) (v2 := .int .u64 C.se) (v3 := .slice a1 a2 a3) (v4 := .int .i64 C.fl) (v5 := .slice d1 d2 d3) (v6 := .int .u64 C.ep) (v7 := .int .u64 C.ge) (v8 := .int .i64 C.n) (v9 := .int .i64 C.m) (by simp)
      have HP := hide (And.intro (hp.2.2.1 _ _ (unhide hP)) (And.intro (hp.2.2.1 _ _ (unhide hV)) (hp.2.2.2 _ _ (Nat.le_refl _) (unhide B3))))
      obtain ⟨D1, kf⟩ := unhide hC
      obtain ⟨D2, rf⟩ := unhide HC3
      have k0 := D1 0 _ rfl
      have r0 := D2 0 _ rfl
      have k1 := D1 1 _ rfl
      have r1 := D2 1 _ rfl
      have k2 := D1 2 _ rfl
      have r2 := D2 2 _ rfl
      have k3 := D1 3 _ rfl
      have r3 := D2 3 _ rfl
      have k4 := D1 4 _ rfl
      have r4 := D2 4 _ rfl
      have k5 := D1 5 _ rfl
      have r5 := D2 5 _ rfl
      have k6 := D1 6 _ rfl
      have r6 := D2 6 _ rfl
      have k7 := D1 7 _ rfl
      have r7 := D2 7 _ rfl
      have k8 := D1 8 _ rfl
      have r8 := D2 8 _ rfl
      have k9 := D1 9 _ rfl
      have r9 := D2 9 _ rfl
      clear D1 D2 hRR hp
      go_wp2
      refine bodyPost_ret (v := .tuple #[cmV C.k C.op C.se (.slice a1 a2 a3) C.fl (.slice d1 d2 d3) C.ep C.ge C.n C.m, .int .i64 0]) (by simp [results, Tryd.results4, go_sem, k0, k1, k2, k3, k4, k5, k6, k7, k8, k9, r0, r1, r2, r3, r4, r5, r6, r7, r8, r9]) rfl ?_
      have ek' := unhide ek
      rw [unhide PR2] at ek' ⊢
      subst ek'
      exact ⟨⟨_, rfl, ⟨a1, a2, a3, d1, d2, d3, rfl, (unhide HP).1, (unhide HP).2.1⟩⟩, (unhide HP).2.2⟩
end Go.Proofs.YtlkhghcffhckmaaDoor
