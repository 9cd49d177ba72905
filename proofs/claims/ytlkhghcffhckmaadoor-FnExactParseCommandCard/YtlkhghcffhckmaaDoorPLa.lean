import Derived.Test.YtlkhghcffhckmaaDoorPCx
namespace Go.Proofs.YtlkhghcffhckmaaDoor
open Go.ChangeShapes Go.WideShapes Go.ChangeAt Go.RowKit
set_option linter.unusedVariables false
set_option linter.unusedSimpArgs false
set_option maxRecDepth 100000

/-- a leaf of what a value reaches: the cell of a number: block, place, kind -/
structure Lf where
 b : Nat
 o : Nat
 k : IntKind
/-- every leaf is a number, and may be written -/
def LvIn (w : World) (A : List Lf) : Prop := ∀ a ∈ A, (∃ n, w.cell? ⟨a.b, a.o, none⟩ = some (.int a.k n)) ∧ w.frozen? ⟨a.b, a.o, none⟩ = false
/-- what a mark k leaves in a number -/
def mkV (kd : IntKind) (k : Int) : Int := match kd with | .u8 => k % 256 | _ => k
/-- the leaves A, marked from k on -/
structure Mk (w w' : World) (A : List Lf) (k : Int) : Prop where
 os : w'.os = w.os
 tape : w'.tape = w.tape
 output : w'.output = w.output
 size : w.heap.size ≤ w'.heap.size
 blk : ∀ b, b < w.heap.size → (∀ a ∈ A, a.b ≠ b) → w'.heap[b]? = w.heap[b]?
 keep : ∀ b o, b < w.heap.size → (∀ a ∈ A, ¬ (a.b = b ∧ a.o = o)) → w'.cell? ⟨b, o, none⟩ = w.cell? ⟨b, o, none⟩
 fz : ∀ b o, b < w.heap.size → w'.frozen? ⟨b, o, none⟩ = w.frozen? ⟨b, o, none⟩
 int : ∀ a ∈ A, ∃ n, w'.cell? ⟨a.b, a.o, none⟩ = some (.int a.k n)
 val : (A.map fun a => (a.b, a.o)).Nodup → ∀ (i : Nat) (a : Lf), A[i]? = some a → w'.cell? ⟨a.b, a.o, none⟩ = some (.int a.k (mkV a.k (k + i)))
theorem LvIn.lt {w : World} {A : List Lf} (h : LvIn w A) {a : Lf} (ha : a ∈ A) : a.b < w.heap.size := by
 obtain ⟨⟨n, hn⟩, _⟩ := h a ha
 exact World.block_lt_of_cell? w _ hn
theorem LvIn.nil (w : World) : LvIn w [] := fun a ha => by simp at ha
theorem LvIn.app {w : World} {A A' : List Lf} : LvIn w (A ++ A') ↔ LvIn w A ∧ LvIn w A' := by
 constructor
 ·intro h
  exact ⟨fun a ha => h a (List.mem_append_left _ ha), fun a ha => h a (List.mem_append_right _ ha)⟩
 ·rintro ⟨h, k⟩ a ha
  rcases List.mem_append.1 ha with ha | ha
  ·exact h a ha
  ·exact k a ha
theorem LvIn.sub {w : World} {A A' : List Lf} (h : LvIn w A) (hs : ∀ a ∈ A', a ∈ A) : LvIn w A' := fun a ha => h a (hs a ha)
theorem LvIn.below {w w' : World} {A : List Lf} (h : LvIn w A) (hb : Below w.heap.size w w') : LvIn w' A := fun a ha => by
 obtain ⟨⟨n, hn⟩, hf⟩ := h a ha
 exact ⟨⟨n, cell_below hn hb⟩, (hb.frozen (p := ⟨a.b, a.o, none⟩) (h.lt ha)).trans hf⟩
theorem Mk.of_below {w w' : World} (h : Below w.heap.size w w') (k : Int) : Mk w w' [] k :=
 ⟨h.os, h.tape, h.output, h.size, fun b hb _ => h.block b hb, fun b o hb _ => h.cell (p := ⟨b, o, none⟩) hb, fun b o hb => h.frozen (p := ⟨b, o, none⟩) hb, fun a ha => by simp at ha, fun _ i a ha => by simp at ha⟩
theorem Mk.refl (w : World) (k : Int) : Mk w w [] k := Mk.of_below (Below.refl _ _) k
theorem Mk.one {w : World} {b o : Nat} {kd : IntKind} {k n : Int} (hc : w.cell? ⟨b, o, none⟩ = some (.int kd n)) : Mk w (w.setCell ⟨b, o, none⟩ (.int kd (mkV kd k))) [⟨b, o, kd⟩] k := by
 have hs : (w.setCell ⟨b, o, none⟩ (.int kd (mkV kd k))).cell? ⟨b, o, none⟩ = some (.int kd (mkV kd k)) := World.cell?_setCell_same' w _ _ (by rw [hc]; rfl)
 refine ⟨rfl, rfl, rfl, by simp, fun b' hb hne => RowKit.Below.heap_setCell _ _ _ _ (fun e => hne ⟨b, o, kd⟩ (by simp) e.symm), fun b' o' hb hne => ?_, fun b' o' hb => ?_, fun a ha => ?_, fun _ i a ha => ?_⟩
 ·have h1 := hne ⟨b, o, kd⟩ (by simp)
  simp only at h1
  exact World.cell?_setCell_other _ _ _ _ (fun e => h1 (by simpa using e))
 ·simp
 ·simp at ha
  subst ha
  exact ⟨_, hs⟩
 ·cases i with
  | zero => simp at ha; subst ha; simpa using hs
  | succ i => simp at ha
theorem Mk.trans {w w1 w2 : World} {A A2 : List Lf} {k : Int} (h : Mk w w1 A k) (h2 : Mk w1 w2 A2 (k + A.length)) (hA : LvIn w A) (hA2 : LvIn w A2) : Mk w w2 (A ++ A2) k := by
 refine ⟨h2.os.trans h.os, h2.tape.trans h.tape, h2.output.trans h.output, Nat.le_trans h.size h2.size, fun b hb hne => ?_, fun b o hb hne => ?_, fun b o hb => ?_, fun a ha => ?_, fun hnd i a ha => ?_⟩
 ·exact (h2.blk b (Nat.lt_of_lt_of_le hb h.size) (fun a ha => hne a (List.mem_append_right _ ha))).trans (h.blk b hb (fun a ha => hne a (List.mem_append_left _ ha)))
 ·exact (h2.keep b o (Nat.lt_of_lt_of_le hb h.size) (fun a ha => hne a (List.mem_append_right _ ha))).trans (h.keep b o hb (fun a ha => hne a (List.mem_append_left _ ha)))
 ·exact (h2.fz b o (Nat.lt_of_lt_of_le hb h.size)).trans (h.fz b o hb)
 ·by_cases h3 : ∃ a2 ∈ A2, a2.b = a.b ∧ a2.o = a.o
  ·obtain ⟨a2, m2, e1, e2⟩ := h3
   obtain ⟨n, hn⟩ := h2.int a2 m2
   obtain ⟨⟨n1, hn1⟩, _⟩ := hA2 a2 m2
   obtain ⟨⟨n2, hn2⟩, _⟩ := LvIn.app.2 ⟨hA, hA2⟩ a ha
   rw [e1, e2] at hn hn1
   rw [hn1] at hn2
   simp only [Option.some.injEq, Value.int.injEq] at hn2
   exact ⟨n, by rw [hn, hn2.1]⟩
  ·rcases List.mem_append.1 ha with ha | ha
   ·obtain ⟨n, hn⟩ := h.int a ha
    refine ⟨n, (h2.keep a.b a.o (Nat.lt_of_lt_of_le (hA.lt ha) h.size) (fun a2 m2 e => h3 ⟨a2, m2, e⟩)).trans hn⟩
   ·exact absurd ⟨a, ha, rfl, rfl⟩ h3
 ·rw [List.map_append, List.nodup_append] at hnd
  obtain ⟨n1, n2, n3⟩ := hnd
  by_cases hi : i < A.length
  ·rw [List.getElem?_append_left hi] at ha
   have hm := List.mem_of_getElem? ha
   refine (h2.keep a.b a.o (Nat.lt_of_lt_of_le (hA.lt hm) h.size) (fun a2 m2 e => ?_)).trans (h.val n1 i a ha)
   exact n3 (a.b, a.o) (List.mem_map_of_mem hm) (a2.b, a2.o) (List.mem_map_of_mem m2) (by rw [e.1, e.2])
  ·rw [List.getElem?_append_right (by omega)] at ha
   have := h2.val n2 (i - A.length) a ha
   rw [this]
   congr 3
   omega
theorem LvIn.mk {w w' : World} {A A' : List Lf} {k : Int} (h : LvIn w A') (hm : Mk w w' A k) (hA : LvIn w A) : LvIn w' A' := fun a ha => by
 obtain ⟨⟨n, hn⟩, hf⟩ := h a ha
 refine ⟨?_, (hm.fz _ _ (h.lt ha)).trans hf⟩
 by_cases h3 : ∃ a2 ∈ A, a2.b = a.b ∧ a2.o = a.o
 ·obtain ⟨a2, m2, e1, e2⟩ := h3
  obtain ⟨n', hn'⟩ := hm.int a2 m2
  obtain ⟨⟨n1, hn1⟩, _⟩ := hA a2 m2
  rw [e1, e2] at hn' hn1
  rw [hn] at hn1
  simp only [Option.some.injEq, Value.int.injEq] at hn1
  exact ⟨n', by rw [hn', hn1.1]⟩
 ·exact ⟨n, (hm.keep _ _ (h.lt ha) (fun a2 m2 e => h3 ⟨a2, m2, e⟩)).trans hn⟩
/-- what is no number is as it was -/
theorem Mk.head {w w' : World} {A : List Lf} {k : Int} (hm : Mk w w' A k) (hA : LvIn w A) {b o : Nat} {p : Option Addr} {n c : Nat} (h : w.cell? ⟨b, o, none⟩ = some (.slice p n c)) : w'.cell? ⟨b, o, none⟩ = some (.slice p n c) := by
 refine (hm.keep b o (World.block_lt_of_cell? w _ h) (fun a ha e => ?_)).trans h
 obtain ⟨⟨n', hn⟩, _⟩ := hA a ha
 rw [e.1, e.2, h] at hn
 simp at hn
/-- below the blocks of the leaves nothing turns -/
theorem Mk.below {w w' : World} {A : List Lf} {k : Int} {B : Nat} (hm : Mk w w' A k) (hB : ∀ a ∈ A, B ≤ a.b) (hz : B ≤ w.heap.size) : Below B w w' :=
 ⟨hm.os, hm.tape, hm.output, hm.size, fun b hb => hm.blk b (by omega) (fun a ha e => by have := hB a ha; omega)⟩

/-- v is a slice of elements of sz cells each, whose leaves, one after another, are A; P x b a l: an element x that lies at place a of block b has the leaves l -/
def LvL {α : Type} (P : α → Nat → Nat → List Lf → Prop) (sz : Nat) (v : Value) (xs : List α) (A : List Lf) : Prop :=
 ∃ (p : Option Addr) (c : Nat) (Ls : List (List Lf)), v = .slice p xs.length c ∧ Ls.length = xs.length ∧ A = Ls.flatten ∧ (xs = [] ∨ ∃ b o, p = some ⟨b, o, none⟩ ∧ ∀ i x l, xs[i]? = some x → Ls[i]? = some l → P x b (o + i * sz) l)
theorem LvL.imp {α : Type} {P P' : α → Nat → Nat → List Lf → Prop} {sz : Nat} {v : Value} {xs : List α} {A : List Lf} (h : LvL P sz v xs A) (hi : ∀ x b a l, x ∈ xs → (∀ y ∈ l, y ∈ A) → P x b a l → P' x b a l) : LvL P' sz v xs A := by
 obtain ⟨p, c, Ls, h1, h2, h3, h4⟩ := h
 refine ⟨p, c, Ls, h1, h2, h3, ?_⟩
 rcases h4 with h4 | ⟨b, o, h5, h6⟩
 ·exact .inl h4
 ·refine .inr ⟨b, o, h5, fun i x l hx hl => hi _ _ _ _ (List.mem_of_getElem? hx) (fun y hy => ?_) (h6 i x l hx hl)⟩
  rw [h3]
  exact List.mem_flatten.2 ⟨l, List.mem_of_getElem? hl, hy⟩
/-- a number -/
def LvI (kd : IntKind) (x : Int) (b a : Nat) (l : List Lf) : Prop := l = [⟨b, a, kd⟩]
abbrev LvB (v : Value) (xs : List Int) (A : List Lf) : Prop := LvL (LvI .u8) 1 v xs A
abbrev LvU (v : Value) (xs : List Int) (A : List Lf) : Prop := LvL (LvI .u64) 1 v xs A
/-- the k-th element and what its round marks -/
theorem LvL.at {α : Type} {P : α → Nat → Nat → List Lf → Prop} {sz : Nat} {p : Option Addr} {n c : Nat} {xs : List α} {A : List Lf} (h : LvL P sz (.slice p n c) xs A) :
  ∃ Ls : List (List Lf), n = xs.length ∧ Ls.length = n ∧ A = Ls.flatten ∧ ∀ k, k < n → ∃ b o x l, p = some ⟨b, o, none⟩ ∧ xs[k]? = some x ∧ Ls[k]? = some l ∧ P x b (o + k * sz) l ∧ (Ls.take (k + 1)).flatten = (Ls.take k).flatten ++ l ∧ ∀ y ∈ l, y ∈ A := by
 obtain ⟨p', c', Ls, h1, h2, h3, h4⟩ := h
 simp only [Value.slice.injEq] at h1
 obtain ⟨rfl, rfl, rfl⟩ := h1
 refine ⟨Ls, rfl, h2, h3, fun k hk => ?_⟩
 obtain ⟨x, hx⟩ : ∃ x, xs[k]? = some x := ⟨_, List.getElem?_eq_getElem hk⟩
 obtain ⟨l, hl⟩ : ∃ l, Ls[k]? = some l := ⟨_, List.getElem?_eq_getElem (by omega)⟩
 rcases h4 with h4 | ⟨b, o, h5, h6⟩
 ·rw [h4] at hk; simp at hk
 ·refine ⟨b, o, x, l, h5, hx, hl, h6 k x l hx hl, ?_, fun y hy => ?_⟩
  ·rw [List.take_add_one, hl]
   simp
  ·rw [h3]
   exact List.mem_flatten.2 ⟨l, List.mem_of_getElem? hl, hy⟩
theorem flatten_take_le (Ls : List (List Lf)) (k : Nat) : (Ls.take k).flatten.length ≤ Ls.flatten.length := by
 have h : Ls.flatten = (Ls.take k).flatten ++ (Ls.drop k).flatten := by rw [← List.flatten_append, List.take_append_drop]
 rw [h, List.length_append]
 omega
theorem mem_flatten_take {Ls : List (List Lf)} {k : Nat} {y : Lf} (h : y ∈ (Ls.take k).flatten) : y ∈ Ls.flatten := by
 obtain ⟨l, hl, hy⟩ := List.mem_flatten.1 h
 exact List.mem_flatten.2 ⟨l, List.mem_of_mem_take hl, hy⟩

theorem LvL.len {α : Type} {P : α → Nat → Nat → List Lf → Prop} {sz : Nat} {p : Option Addr} {n c : Nat} {xs : List α} {A : List Lf} (h : LvL P sz (.slice p n c) xs A) (hne : ∀ x b a l, P x b a l → 1 ≤ l.length) : n ≤ A.length := by
 obtain ⟨Ls, en, lL, eA, hat⟩ := h.at
 have key : ∀ k, k ≤ n → k ≤ (Ls.take k).flatten.length := by
  intro k
  induction k with
  | zero => intro _; exact Nat.zero_le _
  | succ k ih =>
   intro hk
   obtain ⟨b, o, x, l, -, -, -, hP, hfl, -⟩ := hat k (by omega)
   rw [hfl, List.length_append]
   have := ih (by omega)
   have := hne _ _ _ _ hP
   omega
 have := key n (Nat.le_refl _)
 rw [← lL, List.take_length, lL] at this
 rw [eA]
 exact this
set_option maxHeartbeats 800000 in
theorem markByteS_lv (p : Option Addr) (c n : Nat) (xs : List Int) (A : List Lf) (k : Int) (w : World) (h : LvB (.slice p n c) xs A) (hA : LvIn w A) (k0 : 0 ≤ k) (k1 : k + A.length ≤ 100000000) :
  Calls Tryd.prog 9 #[.slice p n c, .int .i64 k] w fun e w' => e = .returned (.int .i64 (k + A.length)) ∧ Mk w w' A k := by
 have hnA := h.len (fun x b a l hl => by rw [show l = _ from hl]; simp)
 obtain ⟨Ls, en, lL, eA, hat⟩ := h.at
 have HAT := hide hat
 have HA := hide hA
 have EA := hide eA
 have K1 : k + (Ls.flatten.length : Int) ≤ 100000000 := by rw [← eA]; exact k1
 have hn : n ≤ 100000000 := by omega
 have LL := hide lL
 clear h hat hA eA en lL hnA
 go_enter Tryd.func9, Tryd.ntmps9
 go_wp2
 go_loopw [1, 5] (fun kk i wr => ∃ j : Nat, j ≤ n ∧ i = .int .i64 j ∧ kk = .int .i64 (k + (((Ls.take j).flatten.length : Nat) : Int)) ∧ Hid (Mk w wr (Ls.take j).flatten k)) (fun _ i _ => n - (intOf i).toNat)
 case atStart => exact ⟨0, Nat.zero_le _, rfl, by simp, Mk.refl _ _⟩
 case round =>
  obtain ⟨j, hj, rfl, rfl, hM⟩ := hrel
  have hle := flatten_take_le Ls j
  by_cases hlt : j < n
  ·have hlt' : (j : Int) < (n : Int) := by omega
   obtain ⟨b, o, x, l, rfl, hx, hl, hP, hfl, hsub⟩ := unhide HAT j hlt
   obtain rfl : l = [⟨b, o + j, .u8⟩] := by rw [show l = _ from hP, Nat.mul_one]
   have hpre : LvIn w (Ls.take j).flatten := (unhide HA).sub (fun a ha => by rw [unhide EA]; exact mem_flatten_take ha)
   obtain ⟨⟨n0, hc0⟩, hf0⟩ := (unhide HA).mk (unhide hM) hpre _ (hsub ⟨b, o + j, .u8⟩ (by simp))
   dsimp only at hc0 hf0
   have HT : Hid ((Ls.take (j + 1)).flatten.length = (Ls.take j).flatten.length + 1) := by show _ = _; rw [hfl]; simp
   have hle1 : ((Ls.take j).flatten.length : Int) + 1 ≤ 100000000 := by
    have := flatten_take_le Ls (j + 1)
    have := unhide HT
    omega
   have M1 : Hid (Mk w (wr.setCell ⟨b, o + j, none⟩ (.int .u8 (mkV .u8 (k + ((Ls.take j).flatten.length : Int))))) (Ls.take (j + 1)).flatten k) := by
    show Mk _ _ _ _
    rw [hfl]
    exact (unhide hM).trans (Mk.one hc0) hpre (by
     intro a ha
     exact (unhide HA) a (hsub a ha))
   generalize hT : (Ls.take j).flatten.length = T at *
   clear hT hx hl hP hfl hsub hpre hM
   have hT0 : 0 ≤ k + (T : Int) := by omega
   have hT1 : k + (T : Int) ≤ 100000000 := by omega
   go_wp2
   go_roundw
   case rel => exact ⟨j + 1, by omega, by go_num, by rw [unhide HT]; go_num, M1⟩
   case measure => simp [intOf]; omega
  ·have e : j = n := by omega
   subst e
   have e2 : (Ls.take j).flatten = A := by rw [← unhide LL, List.take_length]; exact (unhide EA).symm
   rw [e2] at hM ⊢
   clear hle HAT HA
   go_wp2
   go_ret
   exact ⟨rfl, unhide hM⟩


/-- the leaves hold the marks from k on -/
def HeldAt (w : World) (A : List Lf) (k : Int) : Prop := ∀ (i : Nat) (a : Lf), A[i]? = some a → w.cell? ⟨a.b, a.o, none⟩ = some (.int a.k (mkV a.k (k + i)))
theorem HeldAt.below {w w' : World} {A : List Lf} {k : Int} (h : HeldAt w A k) (hb : Below w.heap.size w w') : HeldAt w' A k := fun i a ha => cell_below (h i a ha) hb
theorem HeldAt.app {w : World} {A A2 : List Lf} {k : Int} (h : HeldAt w (A ++ A2) k) : HeldAt w A k ∧ HeldAt w A2 (k + A.length) := by
 refine ⟨fun i a ha => h i a ?_, fun i a ha => ?_⟩
 ·rw [List.getElem?_append_left (List.getElem?_eq_some_iff.1 ha).1]
  exact ha
 ·have := h (A.length + i) a (by rw [List.getElem?_append_right (by omega)]; simpa using ha)
  rw [this]
  congr 3
  push_cast
  omega
theorem HeldAt.cons {w : World} {a : Lf} {A2 : List Lf} {k : Int} (h : HeldAt w (a :: A2) k) : w.cell? ⟨a.b, a.o, none⟩ = some (.int a.k (mkV a.k k)) ∧ HeldAt w A2 (k + 1) := by
 have h1 := (HeldAt.app (A := [a]) (A2 := A2) (by simpa using h))
 refine ⟨?_, by simpa using h1.2⟩
 have := h1.1 0 a (by simp)
 simpa using this
theorem HeldAt.flat {w : World} {Ls : List (List Lf)} {k : Int} {j : Nat} {l : List Lf} (h : HeldAt w Ls.flatten k) (hfl : (Ls.take (j + 1)).flatten = (Ls.take j).flatten ++ l) : HeldAt w l (k + (Ls.take j).flatten.length) := by
 have e : Ls.flatten = (Ls.take j).flatten ++ (l ++ (Ls.drop (j + 1)).flatten) := by
  rw [← List.append_assoc, ← hfl, ← List.flatten_append, List.take_append_drop]
 rw [e] at h
 exact h.app.2.app.1
theorem Mk.held {w w' : World} {A : List Lf} {k : Int} (h : Mk w w' A k) (hnd : (A.map fun a => (a.b, a.o)).Nodup) : HeldAt w' A k := h.val hnd
set_option maxHeartbeats 3200000 in
theorem heldByteS_lv (p : Option Addr) (c n : Nat) (xs : List Int) (A : List Lf) (k : Int) (w : World) (h : LvB (.slice p n c) xs A) (hA : HeldAt w A k) (k0 : 0 ≤ k) (k1 : k + A.length ≤ 100000000) :
  Calls Tryd.prog 28 #[.slice p n c, .int .i64 k] w fun e w' => e = .returned (.int .i64 (k + A.length)) ∧ Below w.heap.size w w' := by
 have hnA := h.len (fun x b a l hl => by rw [show l = _ from hl]; simp)
 obtain ⟨Ls, en, lL, eA, hat⟩ := h.at
 have HAT := hide hat
 have HA := hide (show HeldAt w Ls.flatten k by rw [← eA]; exact hA)
 have EA := hide eA
 have K1 : k + (Ls.flatten.length : Int) ≤ 100000000 := by rw [← eA]; exact k1
 have hn : n ≤ 100000000 := by omega
 have LL := hide lL
 clear h hat hA eA en lL hnA
 go_enter Tryd.func28, Tryd.ntmps28
 go_wp2
 go_loopw [1, 5] (fun kk i wr => ∃ j : Nat, j ≤ n ∧ i = .int .i64 j ∧ kk = .int .i64 (k + (((Ls.take j).flatten.length : Nat) : Int)) ∧ Below w.heap.size w wr) (fun _ i _ => n - (intOf i).toNat)
 case atStart => exact ⟨0, Nat.zero_le _, rfl, by simp, Below.refl _ _⟩
 case round =>
  obtain ⟨j, hj, rfl, rfl, hbr⟩ := hrel
  have hle := flatten_take_le Ls j
  by_cases hlt : j < n
  ·have hlt' : (j : Int) < (n : Int) := by omega
   obtain ⟨b, o, x, l, rfl, hx, hl, hP, hfl, hsub⟩ := unhide HAT j hlt
   have hh := ((unhide HA).flat hfl).below hbr
   have hTl : (Ls.take (j + 1)).flatten.length = (Ls.take j).flatten.length + l.length := by rw [hfl, List.length_append]
   have hle1 : k + ((Ls.take j).flatten.length : Int) + (l.length : Int) ≤ 100000000 := by
    have := flatten_take_le Ls (j + 1)
    omega
   have HT := hide hTl
   generalize hT : (Ls.take j).flatten.length = T at *
   clear hT hx hl hfl hsub hTl
   have hT0 : 0 ≤ k + (T : Int) := by omega
   obtain rfl : l = [⟨b, o + j, .u8⟩] := by rw [show l = _ from hP, Nat.mul_one]
   have hc0 : wr.cell? ⟨b, o + j, none⟩ = some (.int .u8 ((k + (T : Int)) % 256)) := hh.cons.1
   have hne : (((k + (T : Int)) % 256) != ((k + (T : Int)) % 256)) = false := by simp
   have hle2 : k + (T : Int) + 1 ≤ 100000000 := by simpa using hle1
   clear hP hh hle1
   go_wp2
   go_roundw
   case rel => exact ⟨j + 1, by omega, by go_num, by rw [unhide HT]; first | go_num | (simp; omega) | (congr 1; simp; omega), by first | exact hbr | exact below_drewN hbr _⟩
   case measure => simp [intOf]; omega
  ·have e : j = n := by omega
   subst e
   have e2 : (Ls.take j).flatten = A := by rw [← unhide LL, List.take_length]; exact (unhide EA).symm
   rw [e2]
   clear hle HAT HA
   go_wp2
   go_ret
   exact ⟨rfl, hbr⟩

end Go.Proofs.YtlkhghcffhckmaaDoor
