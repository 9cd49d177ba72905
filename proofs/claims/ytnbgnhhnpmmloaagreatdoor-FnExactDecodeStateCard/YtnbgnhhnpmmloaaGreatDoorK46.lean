import Derived.Test.YtnbgnhhnpmmloaaGreatDoorK15
namespace Go.Proofs.YtnbgnhhnpmmloaaGreatDoor
open Go.ChangeShapes Go.WideShapes Go.ChangeAt Go.RowKit
set_option linter.unusedVariables false
set_option linter.unusedSimpArgs false
set_option maxRecDepth 100000
set_option maxHeartbeats 3200000 in
theorem markNodeS_lv (p : Option Addr) (c n : Nat) (xs : List Nod) (A : List Lf) (k : Int) (w : World) (h : LvN w (.slice p n c) xs A) (hA : LvIn w A) (k0 : 0 ≤ k) (k1 : k + A.length ≤ 100000000) :
  Calls Tryz.prog 45 #[.slice p n c, .int .i64 k] w fun e w' => e = .returned (.int .i64 (k + A.length)) ∧ Mk w w' A k := by
 have hnA := h.len (fun x b a l hl => hl.pos)
 obtain ⟨Ls, en, lL, eA, hat⟩ := h.at
 have HAT := hide hat
 have HA := hide hA
 have EA := hide eA
 have K1 : k + (Ls.flatten.length : Int) ≤ 100000000 := by rw [← eA]; exact k1
 have hn : n ≤ 100000000 := by omega
 have LL := hide lL
 clear h hat hA eA en lL hnA
 go_enter Tryz.func45, Tryz.ntmps45
 go_wp2
 go_loopw [1, 5] (fun kk i wr => ∃ j : Nat, j ≤ n ∧ i = .int .i64 j ∧ kk = .int .i64 (k + (((Ls.take j).flatten.length : Nat) : Int)) ∧ Hid (Mk w wr (Ls.take j).flatten k)) (fun _ i _ => n - (intOf i).toNat)
 case atStart => exact ⟨0, Nat.zero_le _, rfl, by simp, Mk.refl _ _⟩
 case round =>
  obtain ⟨j, hj, rfl, rfl, hM⟩ := hrel
  have hle := flatten_take_le Ls j
  by_cases hlt : j < n
  ·have hlt' : (j : Int) < (n : Int) := by omega
   obtain ⟨b, o, x, l, rfl, hx, hl, hP, hfl, hsub⟩ := uh HAT j hlt
   have hpre : LvIn w (Ls.take j).flatten := (uh HA).sub (fun a ha => by rw [uh EA]; exact mem_flatten_take ha)
   have hlw : LvIn w l := (uh HA).sub hsub
   have hin : LvIn wr l := hlw.mk (uh hM) hpre
   have hP' := hP.mk (uh hM) hpre
   have hTl : (Ls.take (j + 1)).flatten.length = (Ls.take j).flatten.length + l.length := by rw [hfl, List.length_append]
   have hle1 : k + ((Ls.take j).flatten.length : Int) + (l.length : Int) ≤ 100000000 := by
    have := flatten_take_le Ls (j + 1)
    omega
   have HT := hide hTl
   have HPW : Hid (∀ w', Mk wr w' l (k + ((Ls.take j).flatten.length : Int)) → Mk w w' (Ls.take (j + 1)).flatten k) := by
    intro w' hw'
    rw [hfl]
    exact (uh hM).trans hw' hpre hlw
   generalize hT : (Ls.take j).flatten.length = T at *
   clear hT hx hl hP hfl hsub hpre hM hTl hlw
   have hT0 : 0 ≤ k + (T : Int) := by omega
   obtain ⟨p0, c0, p1, c1, p4, c4, p7, c7, l0, l1, l4, l7, rfl, ⟨h1, h2⟩, ⟨h3, h4⟩, ⟨h5, h6⟩, ⟨h7, h8⟩⟩ := hP'
   have HD := hide (And.intro h1 (And.intro h3 (And.intro h5 h7)))
   have HLV := hide (And.intro h2 (And.intro h4 (And.intro h6 h8)))
   clear h1 h2 h3 h4 h5 h6 h7 h8
   have hlen : k + (T : Int) + (4 + (l0.length : Int) + (l1.length : Int) + (l4.length : Int) + (l7.length : Int)) ≤ 100000000 := by simp only [List.length_append, List.length_cons] at hle1; omega
   clear hle1
   have HIN := hide hin
   have AC0 : Hid (Mk wr wr [] (k + (T : Int))) := Mk.refl _ _
   clear hin
   have IN0 : LvIn wr (l0 ++ (l1 ++ (⟨b, o + j * 8 + 2, .u64⟩ :: ⟨b, o + j * 8 + 3, .i64⟩ :: (l4 ++ (⟨b, o + j * 8 + 5, .u64⟩ :: ⟨b, o + j * 8 + 6, .u64⟩ :: l7))))) := (uh HIN).mk (uh AC0) ((uh HIN).sub (by intro a ha; first | (simp at ha; done) | (simp only [List.mem_append, List.mem_cons, List.not_mem_nil, List.nil_append, or_false] at ha ⊢; grind)))
   have hh0 : wr.cell? ⟨b, o + j * 8, none⟩ = some (.slice p0 x.path.length c0) := (uh AC0).head ((uh HIN).sub (by intro a ha; first | (simp at ha; done) | (simp only [List.mem_append, List.mem_cons, List.not_mem_nil, List.nil_append, or_false] at ha ⊢; grind))) (uh HD).1
   have AX0 : Hid (Mk wr wr [] (k + (T : Int))) := (uh AC0)
   have HV0 : Hid (LvIn wr l0) := ((uh HIN).sub (by intro a ha; simp [ha])).mk (uh AX0) ((uh HIN).sub (by intro a ha; first | (simp at ha; done) | (simp only [List.mem_append, List.mem_cons, List.not_mem_nil, List.nil_append, or_false] at ha ⊢; grind)))
   clear IN0
   go_wp2_with fail
   clear hh0
   refine (markByteS_lv p0 c0 x.path.length (x.path) l0 (k + (T : Int)) _ (uh HLV).1 (uh HV0) (by omega) (by omega)).mono ?_
   rintro e v0 ⟨rfl, N0⟩
   have AC1 : Hid (Mk wr v0 ([] ++ l0) (k + (T : Int))) := Mk.call (uh AX0) N0 (uh HIN) (by intro a ha; first | (simp at ha; done) | (simp only [List.mem_append, List.mem_cons, List.not_mem_nil, List.nil_append, or_false] at ha ⊢; grind)) (by intro a ha; simp [ha]) (by simp; try omega)
   clear N0 AX0 HV0
   have IN1 : LvIn v0 (l0 ++ (l1 ++ (⟨b, o + j * 8 + 2, .u64⟩ :: ⟨b, o + j * 8 + 3, .i64⟩ :: (l4 ++ (⟨b, o + j * 8 + 5, .u64⟩ :: ⟨b, o + j * 8 + 6, .u64⟩ :: l7))))) := (uh HIN).mk (uh AC1) ((uh HIN).sub (by intro a ha; first | (simp at ha; done) | (simp only [List.mem_append, List.mem_cons, List.not_mem_nil, List.nil_append, or_false] at ha ⊢; grind)))
   have hh1 : v0.cell? ⟨b, o + j * 8 + 1, none⟩ = some (.slice p1 x.value.length c1) := (uh AC1).head ((uh HIN).sub (by intro a ha; first | (simp at ha; done) | (simp only [List.mem_append, List.mem_cons, List.not_mem_nil, List.nil_append, or_false] at ha ⊢; grind))) (uh HD).2.1
   have AX1 : Hid (Mk wr v0 ([] ++ l0) (k + (T : Int))) := (uh AC1)
   have HV1 : Hid (LvIn v0 l1) := ((uh HIN).sub (by intro a ha; simp [ha])).mk (uh AX1) ((uh HIN).sub (by intro a ha; first | (simp at ha; done) | (simp only [List.mem_append, List.mem_cons, List.not_mem_nil, List.nil_append, or_false] at ha ⊢; grind)))
   clear IN1
   go_wp2_with fail
   clear hh1
   refine (markByteS_lv p1 c1 x.value.length (x.value) l1 (k + (T : Int) + (l0.length : Int)) _ (uh HLV).2.1 (uh HV1) (by omega) (by omega)).mono ?_
   rintro e v1 ⟨rfl, N1⟩
   have AC2 : Hid (Mk wr v1 (([] ++ l0) ++ l1) (k + (T : Int))) := Mk.call (uh AX1) N1 (uh HIN) (by intro a ha; first | (simp at ha; done) | (simp only [List.mem_append, List.mem_cons, List.not_mem_nil, List.nil_append, or_false] at ha ⊢; grind)) (by intro a ha; simp [ha]) (by simp; try omega)
   clear N1 AX1 HV1
   have IN2 : LvIn v1 (l0 ++ (l1 ++ (⟨b, o + j * 8 + 2, .u64⟩ :: ⟨b, o + j * 8 + 3, .i64⟩ :: (l4 ++ (⟨b, o + j * 8 + 5, .u64⟩ :: ⟨b, o + j * 8 + 6, .u64⟩ :: l7))))) := (uh HIN).mk (uh AC2) ((uh HIN).sub (by intro a ha; first | (simp at ha; done) | (simp only [List.mem_append, List.mem_cons, List.not_mem_nil, List.nil_append, or_false] at ha ⊢; grind)))
   obtain ⟨⟨m2, hc2⟩, hf2⟩ := IN2 ⟨b, o + j * 8 + 2, .u64⟩ (by simp)
   obtain ⟨⟨m3, hc3⟩, hf3⟩ := IN2 ⟨b, o + j * 8 + 3, .i64⟩ (by simp)
   dsimp only at hc2 hf2 hc3 hf3
   have hh4 : v1.cell? ⟨b, o + j * 8 + 4, none⟩ = some (.slice p4 x.holders.length c4) := (uh AC2).head ((uh HIN).sub (by intro a ha; first | (simp at ha; done) | (simp only [List.mem_append, List.mem_cons, List.not_mem_nil, List.nil_append, or_false] at ha ⊢; grind))) (uh HD).2.2.1
   have AX2 : Hid (Mk wr ((v1.setCell ⟨b, o + j * 8 + 2, none⟩ (.int .u64 (k + (T : Int) + (l0.length : Int) + (l1.length : Int)))).setCell ⟨b, o + j * 8 + 3, none⟩ (.int .i64 (k + (T : Int) + (l0.length : Int) + (l1.length : Int) + 1))) (((([] ++ l0) ++ l1) ++ [⟨b, o + j * 8 + 2, .u64⟩]) ++ [⟨b, o + j * 8 + 3, .i64⟩]) (k + (T : Int))) := (Mk.set (Mk.set (uh AC2) (uh HIN) (by intro a ha; first | (simp at ha; done) | (simp only [List.mem_append, List.mem_cons, List.not_mem_nil, List.nil_append, or_false] at ha ⊢; grind)) (b := b) (o := o + j * 8 + 2) (kd := .u64) (by simp) (K := k + (T : Int) + (l0.length : Int) + (l1.length : Int)) (by simp; try omega)) (uh HIN) (by intro a ha; first | (simp at ha; done) | (simp only [List.mem_append, List.mem_cons, List.not_mem_nil, List.nil_append, or_false] at ha ⊢; grind)) (b := b) (o := o + j * 8 + 3) (kd := .i64) (by simp) (K := k + (T : Int) + (l0.length : Int) + (l1.length : Int) + 1) (by simp; try omega))
   have HV2 : Hid (LvIn ((v1.setCell ⟨b, o + j * 8 + 2, none⟩ (.int .u64 (k + (T : Int) + (l0.length : Int) + (l1.length : Int)))).setCell ⟨b, o + j * 8 + 3, none⟩ (.int .i64 (k + (T : Int) + (l0.length : Int) + (l1.length : Int) + 1))) l4) := ((uh HIN).sub (by intro a ha; simp [ha])).mk (uh AX2) ((uh HIN).sub (by intro a ha; first | (simp at ha; done) | (simp only [List.mem_append, List.mem_cons, List.not_mem_nil, List.nil_append, or_false] at ha ⊢; grind)))
   clear IN2
   go_wp2_with fail
   clear hc2 hf2 hc3 hf3 hh4
   refine (markUint64S_lv p4 c4 x.holders.length (x.holders) l4 (k + (T : Int) + (l0.length : Int) + (l1.length : Int) + 1 + 1) _ (uh HLV).2.2.1 (uh HV2) (by omega) (by omega)).mono ?_
   rintro e v2 ⟨rfl, N2⟩
   have AC3 : Hid (Mk wr v2 ((((([] ++ l0) ++ l1) ++ [⟨b, o + j * 8 + 2, .u64⟩]) ++ [⟨b, o + j * 8 + 3, .i64⟩]) ++ l4) (k + (T : Int))) := Mk.call (uh AX2) N2 (uh HIN) (by intro a ha; first | (simp at ha; done) | (simp only [List.mem_append, List.mem_cons, List.not_mem_nil, List.nil_append, or_false] at ha ⊢; grind)) (by intro a ha; simp [ha]) (by simp; try omega)
   clear N2 AX2 HV2
   have IN3 : LvIn v2 (l0 ++ (l1 ++ (⟨b, o + j * 8 + 2, .u64⟩ :: ⟨b, o + j * 8 + 3, .i64⟩ :: (l4 ++ (⟨b, o + j * 8 + 5, .u64⟩ :: ⟨b, o + j * 8 + 6, .u64⟩ :: l7))))) := (uh HIN).mk (uh AC3) ((uh HIN).sub (by intro a ha; first | (simp at ha; done) | (simp only [List.mem_append, List.mem_cons, List.not_mem_nil, List.nil_append, or_false] at ha ⊢; grind)))
   obtain ⟨⟨m5, hc5⟩, hf5⟩ := IN3 ⟨b, o + j * 8 + 5, .u64⟩ (by simp)
   obtain ⟨⟨m6, hc6⟩, hf6⟩ := IN3 ⟨b, o + j * 8 + 6, .u64⟩ (by simp)
   dsimp only at hc5 hf5 hc6 hf6
   have hh7 : v2.cell? ⟨b, o + j * 8 + 7, none⟩ = some (.slice p7 x.watchers.length c7) := (uh AC3).head ((uh HIN).sub (by intro a ha; first | (simp at ha; done) | (simp only [List.mem_append, List.mem_cons, List.not_mem_nil, List.nil_append, or_false] at ha ⊢; grind))) (uh HD).2.2.2
   have AX3 : Hid (Mk wr ((v2.setCell ⟨b, o + j * 8 + 5, none⟩ (.int .u64 (k + (T : Int) + (l0.length : Int) + (l1.length : Int) + 1 + 1 + (l4.length : Int)))).setCell ⟨b, o + j * 8 + 6, none⟩ (.int .u64 (k + (T : Int) + (l0.length : Int) + (l1.length : Int) + 1 + 1 + (l4.length : Int) + 1))) ((((((([] ++ l0) ++ l1) ++ [⟨b, o + j * 8 + 2, .u64⟩]) ++ [⟨b, o + j * 8 + 3, .i64⟩]) ++ l4) ++ [⟨b, o + j * 8 + 5, .u64⟩]) ++ [⟨b, o + j * 8 + 6, .u64⟩]) (k + (T : Int))) := (Mk.set (Mk.set (uh AC3) (uh HIN) (by intro a ha; first | (simp at ha; done) | (simp only [List.mem_append, List.mem_cons, List.not_mem_nil, List.nil_append, or_false] at ha ⊢; grind)) (b := b) (o := o + j * 8 + 5) (kd := .u64) (by simp) (K := k + (T : Int) + (l0.length : Int) + (l1.length : Int) + 1 + 1 + (l4.length : Int)) (by simp; try omega)) (uh HIN) (by intro a ha; first | (simp at ha; done) | (simp only [List.mem_append, List.mem_cons, List.not_mem_nil, List.nil_append, or_false] at ha ⊢; grind)) (b := b) (o := o + j * 8 + 6) (kd := .u64) (by simp) (K := k + (T : Int) + (l0.length : Int) + (l1.length : Int) + 1 + 1 + (l4.length : Int) + 1) (by simp; try omega))
   have HV3 : Hid (LvIn ((v2.setCell ⟨b, o + j * 8 + 5, none⟩ (.int .u64 (k + (T : Int) + (l0.length : Int) + (l1.length : Int) + 1 + 1 + (l4.length : Int)))).setCell ⟨b, o + j * 8 + 6, none⟩ (.int .u64 (k + (T : Int) + (l0.length : Int) + (l1.length : Int) + 1 + 1 + (l4.length : Int) + 1))) l7) := ((uh HIN).sub (by intro a ha; simp [ha])).mk (uh AX3) ((uh HIN).sub (by intro a ha; first | (simp at ha; done) | (simp only [List.mem_append, List.mem_cons, List.not_mem_nil, List.nil_append, or_false] at ha ⊢; grind)))
   clear IN3
   go_wp2_with fail
   clear hc5 hf5 hc6 hf6 hh7
   refine (markUint64S_lv p7 c7 x.watchers.length (x.watchers) l7 (k + (T : Int) + (l0.length : Int) + (l1.length : Int) + 1 + 1 + (l4.length : Int) + 1 + 1) _ (uh HLV).2.2.2 (uh HV3) (by omega) (by omega)).mono ?_
   rintro e v3 ⟨rfl, N3⟩
   have AC4 : Hid (Mk wr v3 (((((((([] ++ l0) ++ l1) ++ [⟨b, o + j * 8 + 2, .u64⟩]) ++ [⟨b, o + j * 8 + 3, .i64⟩]) ++ l4) ++ [⟨b, o + j * 8 + 5, .u64⟩]) ++ [⟨b, o + j * 8 + 6, .u64⟩]) ++ l7) (k + (T : Int))) := Mk.call (uh AX3) N3 (uh HIN) (by intro a ha; first | (simp at ha; done) | (simp only [List.mem_append, List.mem_cons, List.not_mem_nil, List.nil_append, or_false] at ha ⊢; grind)) (by intro a ha; simp [ha]) (by simp; try omega)
   clear N3 AX3 HV3
   have FIN := hide (uh HPW _ (by simpa using uh AC4))
   go_wp2
   go_roundw
   case rel => exact ⟨j + 1, by omega, by go_num, by rw [uh HT]; first | (simp; omega) | (congr 1; simp; omega), FIN⟩
   case measure => simp [intOf]; omega
  ·have e : j = n := by omega
   subst e
   have e2 : (Ls.take j).flatten = A := by rw [← uh LL, List.take_length]; exact (uh EA).symm
   rw [e2] at hM ⊢
   clear hle HAT HA
   go_wp2
   go_ret
   exact ⟨rfl, uh hM⟩
def HeldAt (w : World) (A : List Lf) (k : Int) : Prop := ∀ (i : Nat) (a : Lf), A[i]? = some a → w.cell? ⟨a.b, a.o, none⟩ = some (.int a.k (mkV a.k (k + i)))
theorem HeldAt.below {w w' : World} {A : List Lf} {k : Int} (h : HeldAt w A k) (hb : Below w.heap.size w w') : HeldAt w' A k := fun i a ha => cell_below (h i a ha) hb
theorem HeldAt.app {w : World} {A A2 : List Lf} {k : Int} (h : HeldAt w (A ++ A2) k) : HeldAt w A k ∧ HeldAt w A2 (k + A.length) := by
 refine ⟨fun i a ha => h i a ?_, fun i a ha => ?_⟩
 ·rw [List.getElem?_append_left (List.getElem?_eq_some_iff.1 ha).1]
  exact ha
 ·have := h (A.length + i) a (by rw [List.getElem?_append_right (by omega)]; simpa using ha)
  rw [this]
  congr 3
  push_cast
  omega
theorem HeldAt.cons {w : World} {a : Lf} {A2 : List Lf} {k : Int} (h : HeldAt w (a :: A2) k) : w.cell? ⟨a.b, a.o, none⟩ = some (.int a.k (mkV a.k k)) ∧ HeldAt w A2 (k + 1) := by
 have h1 := (HeldAt.app (A := [a]) (A2 := A2) (by simpa using h))
 refine ⟨?_, by simpa using h1.2⟩
 have := h1.1 0 a (by simp)
 simpa using this
theorem HeldAt.flat {w : World} {Ls : List (List Lf)} {k : Int} {j : Nat} {l : List Lf} (h : HeldAt w Ls.flatten k) (hfl : (Ls.take (j + 1)).flatten = (Ls.take j).flatten ++ l) : HeldAt w l (k + (Ls.take j).flatten.length) := by
 have e : Ls.flatten = (Ls.take j).flatten ++ (l ++ (Ls.drop (j + 1)).flatten) := by
  rw [← List.append_assoc, ← hfl, ← List.flatten_append, List.take_append_drop]
 rw [e] at h
 exact h.app.2.app.1
theorem Mk.held {w w' : World} {A : List Lf} {k : Int} (h : Mk w w' A k) (hnd : (A.map fun a => (a.b, a.o)).Nodup) : HeldAt w' A k := h.val hnd
theorem LvEv.below {w w' : World} {x : Ev} {b a : Nat} {l : List Lf} (h : LvEv w x b a l) (hb : Below w.heap.size w w') : LvEv w' x b a l := h.mk (Mk.of_below hb 0) (LvIn.nil _)
theorem LvE.below {w w' : World} {v : Value} {xs : List Ev} {l : List Lf} (h : LvE w v xs l) (hb : Below w.heap.size w w') : LvE w' v xs l := LvE.mk h (Mk.of_below hb 0) (LvIn.nil _)
theorem LvSe.below {w w' : World} {x : Ses} {b a : Nat} {l : List Lf} (h : LvSe w x b a l) (hb : Below w.heap.size w w') : LvSe w' x b a l := h.mk (Mk.of_below hb 0) (LvIn.nil _)
theorem LvS.below {w w' : World} {v : Value} {xs : List Ses} {l : List Lf} (h : LvS w v xs l) (hb : Below w.heap.size w w') : LvS w' v xs l := LvS.mk h (Mk.of_below hb 0) (LvIn.nil _)
theorem LvNo.below {w w' : World} {x : Nod} {b a : Nat} {l : List Lf} (h : LvNo w x b a l) (hb : Below w.heap.size w w') : LvNo w' x b a l := h.mk (Mk.of_below hb 0) (LvIn.nil _)
theorem LvN.below {w w' : World} {v : Value} {xs : List Nod} {l : List Lf} (h : LvN w v xs l) (hb : Below w.heap.size w w') : LvN w' v xs l := LvN.mk h (Mk.of_below hb 0) (LvIn.nil _)
set_option maxHeartbeats 3200000 in
theorem heldByteS_lv (p : Option Addr) (c n : Nat) (xs : List Int) (A : List Lf) (k : Int) (w : World) (h : LvB (.slice p n c) xs A) (hA : HeldAt w A k) (k0 : 0 ≤ k) (k1 : k + A.length ≤ 100000000) :
  Calls Tryz.prog 18 #[.slice p n c, .int .i64 k] w fun e w' => e = .returned (.int .i64 (k + A.length)) ∧ Below w.heap.size w w' := by
 have hnA := h.len (fun x b a l hl => by rw [show l = _ from hl]; simp)
 obtain ⟨Ls, en, lL, eA, hat⟩ := h.at
 have HAT := hide hat
 have HA := hide (show HeldAt w Ls.flatten k by rw [← eA]; exact hA)
 have EA := hide eA
 have K1 : k + (Ls.flatten.length : Int) ≤ 100000000 := by rw [← eA]; exact k1
 have hn : n ≤ 100000000 := by omega
 have LL := hide lL
 clear h hat hA eA en lL hnA
 go_enter Tryz.func18, Tryz.ntmps18
 go_wp2
 go_loopw [1, 5] (fun kk i wr => ∃ j : Nat, j ≤ n ∧ i = .int .i64 j ∧ kk = .int .i64 (k + (((Ls.take j).flatten.length : Nat) : Int)) ∧ Below w.heap.size w wr) (fun _ i _ => n - (intOf i).toNat)
 case atStart => exact ⟨0, Nat.zero_le _, rfl, by simp, Below.refl _ _⟩
 case round =>
  obtain ⟨j, hj, rfl, rfl, hbr⟩ := hrel
  have hle := flatten_take_le Ls j
  by_cases hlt : j < n
  ·have hlt' : (j : Int) < (n : Int) := by omega
   obtain ⟨b, o, x, l, rfl, hx, hl, hP, hfl, hsub⟩ := uh HAT j hlt
   have hh := ((uh HA).flat hfl).below hbr
   have hTl : (Ls.take (j + 1)).flatten.length = (Ls.take j).flatten.length + l.length := by rw [hfl, List.length_append]
   have hle1 : k + ((Ls.take j).flatten.length : Int) + (l.length : Int) ≤ 100000000 := by
    have := flatten_take_le Ls (j + 1)
    omega
   have HT := hide hTl
   generalize hT : (Ls.take j).flatten.length = T at *
   clear hT hx hl hfl hsub hTl
   have hT0 : 0 ≤ k + (T : Int) := by omega
   obtain rfl : l = [⟨b, o + j, .u8⟩] := by rw [show l = _ from hP, Nat.mul_one]
   have hc0 : wr.cell? ⟨b, o + j, none⟩ = some (.int .u8 ((k + (T : Int)) % 256)) := hh.cons.1
   have hne : (((k + (T : Int)) % 256) != ((k + (T : Int)) % 256)) = false := by simp
   have hle2 : k + (T : Int) + 1 ≤ 100000000 := by simpa using hle1
   clear hP hh hle1
   go_wp2
   go_roundw
   case rel => exact ⟨j + 1, by omega, by go_num, by rw [uh HT]; first | go_num | (simp; omega) | (congr 1; simp; omega), by first | exact hbr | exact below_drewN hbr _⟩
   case measure => simp [intOf]; omega
  ·have e : j = n := by omega
   subst e
   have e2 : (Ls.take j).flatten = A := by rw [← uh LL, List.take_length]; exact (uh EA).symm
   rw [e2]
   clear hle HAT HA
   go_wp2
   go_ret
   exact ⟨rfl, hbr⟩
set_option maxHeartbeats 3200000 in
theorem heldUint64S_lv (p : Option Addr) (c n : Nat) (xs : List Int) (A : List Lf) (k : Int) (w : World) (h : LvU (.slice p n c) xs A) (hA : HeldAt w A k) (k0 : 0 ≤ k) (k1 : k + A.length ≤ 100000000) :
  Calls Tryz.prog 87 #[.slice p n c, .int .i64 k] w fun e w' => e = .returned (.int .i64 (k + A.length)) ∧ Below w.heap.size w w' := by
 have hnA := h.len (fun x b a l hl => by rw [show l = _ from hl]; simp)
 obtain ⟨Ls, en, lL, eA, hat⟩ := h.at
 have HAT := hide hat
 have HA := hide (show HeldAt w Ls.flatten k by rw [← eA]; exact hA)
 have EA := hide eA
 have K1 : k + (Ls.flatten.length : Int) ≤ 100000000 := by rw [← eA]; exact k1
 have hn : n ≤ 100000000 := by omega
 have LL := hide lL
 clear h hat hA eA en lL hnA
 go_enter Tryz.func87, Tryz.ntmps87
 go_wp2
 go_loopw [1, 5] (fun kk i wr => ∃ j : Nat, j ≤ n ∧ i = .int .i64 j ∧ kk = .int .i64 (k + (((Ls.take j).flatten.length : Nat) : Int)) ∧ Below w.heap.size w wr) (fun _ i _ => n - (intOf i).toNat)
 case atStart => exact ⟨0, Nat.zero_le _, rfl, by simp, Below.refl _ _⟩
 case round =>
  obtain ⟨j, hj, rfl, rfl, hbr⟩ := hrel
  have hle := flatten_take_le Ls j
  by_cases hlt : j < n
  ·have hlt' : (j : Int) < (n : Int) := by omega
   obtain ⟨b, o, x, l, rfl, hx, hl, hP, hfl, hsub⟩ := uh HAT j hlt
   have hh := ((uh HA).flat hfl).below hbr
   have hTl : (Ls.take (j + 1)).flatten.length = (Ls.take j).flatten.length + l.length := by rw [hfl, List.length_append]
   have hle1 : k + ((Ls.take j).flatten.length : Int) + (l.length : Int) ≤ 100000000 := by
    have := flatten_take_le Ls (j + 1)
    omega
   have HT := hide hTl
   generalize hT : (Ls.take j).flatten.length = T at *
   clear hT hx hl hfl hsub hTl
   have hT0 : 0 ≤ k + (T : Int) := by omega
   obtain rfl : l = [⟨b, o + j, .u64⟩] := by rw [show l = _ from hP, Nat.mul_one]
   have hc0 : wr.cell? ⟨b, o + j, none⟩ = some (.int .u64 (k + (T : Int))) := hh.cons.1
   have hne : ((k + (T : Int)) != (k + (T : Int))) = false := by simp
   have hle2 : k + (T : Int) + 1 ≤ 100000000 := by simpa using hle1
   clear hP hh hle1
   go_wp2
   go_roundw
   case rel => exact ⟨j + 1, by omega, by go_num, by rw [uh HT]; first | go_num | (simp; omega) | (congr 1; simp; omega), by first | exact hbr | exact below_drewN hbr _⟩
   case measure => simp [intOf]; omega
  ·have e : j = n := by omega
   subst e
   have e2 : (Ls.take j).flatten = A := by rw [← uh LL, List.take_length]; exact (uh EA).symm
   rw [e2]
   clear hle HAT HA
   go_wp2
   go_ret
   exact ⟨rfl, hbr⟩
set_option maxHeartbeats 3200000 in
theorem heldEventS_lv (p : Option Addr) (c n : Nat) (xs : List Ev) (A : List Lf) (k : Int) (w : World) (h : LvE w (.slice p n c) xs A) (hA : HeldAt w A k) (k0 : 0 ≤ k) (k1 : k + A.length ≤ 100000000) :
  Calls Tryz.prog 86 #[.slice p n c, .int .i64 k] w fun e w' => e = .returned (.int .i64 (k + A.length)) ∧ Below w.heap.size w w' := by
 have hnA := h.len (fun x b a l hl => hl.pos)
 obtain ⟨Ls, en, lL, eA, hat⟩ := h.at
 have HAT := hide hat
 have HA := hide (show HeldAt w Ls.flatten k by rw [← eA]; exact hA)
 have EA := hide eA
 have K1 : k + (Ls.flatten.length : Int) ≤ 100000000 := by rw [← eA]; exact k1
 have hn : n ≤ 100000000 := by omega
 have LL := hide lL
 clear h hat hA eA en lL hnA
 go_enter Tryz.func86, Tryz.ntmps86
 go_wp2
 go_loopw [1, 5] (fun kk i wr => ∃ j : Nat, j ≤ n ∧ i = .int .i64 j ∧ kk = .int .i64 (k + (((Ls.take j).flatten.length : Nat) : Int)) ∧ Below w.heap.size w wr) (fun _ i _ => n - (intOf i).toNat)
 case atStart => exact ⟨0, Nat.zero_le _, rfl, by simp, Below.refl _ _⟩
 case round =>
  obtain ⟨j, hj, rfl, rfl, hbr⟩ := hrel
  have hle := flatten_take_le Ls j
  by_cases hlt : j < n
  ·have hlt' : (j : Int) < (n : Int) := by omega
   obtain ⟨b, o, x, l, rfl, hx, hl, hP, hfl, hsub⟩ := uh HAT j hlt
   have hh := ((uh HA).flat hfl).below hbr
   have hTl : (Ls.take (j + 1)).flatten.length = (Ls.take j).flatten.length + l.length := by rw [hfl, List.length_append]
   have hle1 : k + ((Ls.take j).flatten.length : Int) + (l.length : Int) ≤ 100000000 := by
    have := flatten_take_le Ls (j + 1)
    omega
   have HT := hide hTl
   generalize hT : (Ls.take j).flatten.length = T at *
   clear hT hx hl hfl hsub hTl
   have hT0 : 0 ≤ k + (T : Int) := by omega
   have hP' := hP.below hbr
   obtain ⟨q, d, lb, rfl, hd, hlv⟩ := hP'
   have HD := hide hd
   have HLV := hide hlv
   clear hd hlv
   have hlen : k + (T : Int) + (1 + (lb.length : Int)) ≤ 100000000 := by simp only [List.length_append, List.length_cons] at hle1; omega
   clear hle1 hP
   have hc0 : wr.cell? ⟨b, o + j * 2, none⟩ = some (.int .i64 (k + (T : Int))) := (HeldAt.cons hh).1
   have t0 := (HeldAt.cons hh).2
   have s1 : HeldAt wr lb (k + (T : Int) + 1) := t0
   have HS := hide (s1)
   have HCC := hide (hc0)
   have W0 := hide (Below.refl wr.heap.size wr)
   clear hh t0 s1 hc0
   have hc0 := cell_below (uh HCC) (uh W0)
   have hne0 : ((k + (T : Int)) != (k + (T : Int))) = false := by simp
   have hd1 := cell_below (uh HD) (uh W0)
   go_wp2_with fail
   clear hc0 hne0 hd1
   refine (heldByteS_lv q d x.2.length (x.2) lb (k + (T : Int) + 1) _ (uh HLV) ((uh HS).below (uh W0)) (by omega) (by omega)).mono ?_
   rintro e v0 ⟨rfl, N0⟩
   have BV0 := hide (Below.step (uh W0) N0)
   have hpos0 : ¬ k + (T : Int) + 1 + (lb.length : Int) < 0 := by omega
   clear N0
   have b1 := Below.step hbr (uh BV0)
   clear hbr
   go_wp2
   go_roundw
   case rel => exact ⟨j + 1, by omega, by go_num, by rw [uh HT]; first | go_num | (simp; omega) | (congr 1; simp; omega), by first | exact b1 | exact below_drewN b1 _⟩
   case measure => simp [intOf]; omega
  ·have e : j = n := by omega
   subst e
   have e2 : (Ls.take j).flatten = A := by rw [← uh LL, List.take_length]; exact (uh EA).symm
   rw [e2]
   clear hle HAT HA
   go_wp2
   go_ret
   exact ⟨rfl, hbr⟩
set_option maxHeartbeats 3200000 in
theorem heldSessionS_lv (p : Option Addr) (c n : Nat) (xs : List Ses) (A : List Lf) (k : Int) (w : World) (h : LvS w (.slice p n c) xs A) (hA : HeldAt w A k) (k0 : 0 ≤ k) (k1 : k + A.length ≤ 100000000) :
  Calls Tryz.prog 46 #[.slice p n c, .int .i64 k] w fun e w' => e = .returned (.int .i64 (k + A.length)) ∧ Below w.heap.size w w' := by
 have hnA := h.len (fun x b a l hl => hl.pos)
 obtain ⟨Ls, en, lL, eA, hat⟩ := h.at
 have HAT := hide hat
 have HA := hide (show HeldAt w Ls.flatten k by rw [← eA]; exact hA)
 have EA := hide eA
 have K1 : k + (Ls.flatten.length : Int) ≤ 100000000 := by rw [← eA]; exact k1
 have hn : n ≤ 100000000 := by omega
 have LL := hide lL
 clear h hat hA eA en lL hnA
 go_enter Tryz.func46, Tryz.ntmps46
 go_wp2
 go_loopw [1, 5] (fun kk i wr => ∃ j : Nat, j ≤ n ∧ i = .int .i64 j ∧ kk = .int .i64 (k + (((Ls.take j).flatten.length : Nat) : Int)) ∧ Below w.heap.size w wr) (fun _ i _ => n - (intOf i).toNat)
 case atStart => exact ⟨0, Nat.zero_le _, rfl, by simp, Below.refl _ _⟩
 case round =>
  obtain ⟨j, hj, rfl, rfl, hbr⟩ := hrel
  have hle := flatten_take_le Ls j
  by_cases hlt : j < n
  ·have hlt' : (j : Int) < (n : Int) := by omega
   obtain ⟨b, o, x, l, rfl, hx, hl, hP, hfl, hsub⟩ := uh HAT j hlt
   have hh := ((uh HA).flat hfl).below hbr
   have hTl : (Ls.take (j + 1)).flatten.length = (Ls.take j).flatten.length + l.length := by rw [hfl, List.length_append]
   have hle1 : k + ((Ls.take j).flatten.length : Int) + (l.length : Int) ≤ 100000000 := by
    have := flatten_take_le Ls (j + 1)
    omega
   have HT := hide hTl
   generalize hT : (Ls.take j).flatten.length = T at *
   clear hT hx hl hfl hsub hTl
   have hT0 : 0 ≤ k + (T : Int) := by omega
   have hP' := hP.below hbr
   obtain ⟨q, d, lb, rfl, hd, hlv⟩ := hP'
   have HD := hide hd
   have HLV := hide hlv
   clear hd hlv
   have hlen : k + (T : Int) + (2 + (lb.length : Int)) ≤ 100000000 := by simp only [List.length_append, List.length_cons] at hle1; omega
   clear hle1 hP
   have hc0 : wr.cell? ⟨b, o + j * 3, none⟩ = some (.int .u64 (k + (T : Int))) := (HeldAt.cons hh).1
   have t0 := (HeldAt.cons hh).2
   have hc1 : wr.cell? ⟨b, o + j * 3 + 1, none⟩ = some (.int .i64 (k + (T : Int) + 1)) := (HeldAt.cons t0).1
   have t1 := (HeldAt.cons t0).2
   have s2 : HeldAt wr lb (k + (T : Int) + 1 + 1) := t1
   have HS := hide (s2)
   have HCC := hide (And.intro hc0 (hc1))
   have W0 := hide (Below.refl wr.heap.size wr)
   clear hh t0 t1 s2 hc0 hc1
   have hc0 := cell_below (uh HCC).1 (uh W0)
   have hne0 : ((k + (T : Int)) != (k + (T : Int))) = false := by simp
   have hc1 := cell_below (uh HCC).2 (uh W0)
   have hne1 : ((k + (T : Int) + 1) != (k + (T : Int) + 1)) = false := by simp
   have hd2 := cell_below (uh HD) (uh W0)
   go_wp2_with fail
   clear hc0 hne0 hc1 hne1 hd2
   have lv0 := (uh HLV).below (uh W0)
   refine (heldEventS_lv q d x.2.2.length (x.2.2) lb (k + (T : Int) + 1 + 1) _ lv0 ((uh HS).below (uh W0)) (by omega) (by omega)).mono ?_
   rintro e v0 ⟨rfl, N0⟩
   have BV0 := hide (Below.step (uh W0) N0)
   have hpos0 : ¬ k + (T : Int) + 1 + 1 + (lb.length : Int) < 0 := by omega
   clear N0
   have b1 := Below.step hbr (uh BV0)
   clear hbr
   go_wp2
   go_roundw
   case rel => exact ⟨j + 1, by omega, by go_num, by rw [uh HT]; first | go_num | (simp; omega) | (congr 1; simp; omega), by first | exact b1 | exact below_drewN b1 _⟩
   case measure => simp [intOf]; omega
  ·have e : j = n := by omega
   subst e
   have e2 : (Ls.take j).flatten = A := by rw [← uh LL, List.take_length]; exact (uh EA).symm
   rw [e2]
   clear hle HAT HA
   go_wp2
   go_ret
   exact ⟨rfl, hbr⟩
end Go.Proofs.YtnbgnhhnpmmloaaGreatDoor
