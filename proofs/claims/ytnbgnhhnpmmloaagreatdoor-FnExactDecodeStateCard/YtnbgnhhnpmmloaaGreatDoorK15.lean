import Derived.Test.YtnbgnhhnpmmloaaGreatDoorK10
namespace Go.Proofs.YtnbgnhhnpmmloaaGreatDoor
open Go.ChangeShapes Go.WideShapes Go.ChangeAt Go.RowKit
set_option linter.unusedVariables false
set_option linter.unusedSimpArgs false
set_option maxRecDepth 100000
structure Lf where
 b : Nat
 o : Nat
 k : IntKind
def LvIn (w : World) (A : List Lf) : Prop := ∀ a ∈ A, (∃ n, w.cell? ⟨a.b, a.o, none⟩ = some (.int a.k n)) ∧ w.frozen? ⟨a.b, a.o, none⟩ = false
def mkV (kd : IntKind) (k : Int) : Int := match kd with | .u8 => k % 256 | _ => k
structure Mk (w w' : World) (A : List Lf) (k : Int) : Prop where
 os : w'.os = w.os
 tape : w'.tape = w.tape
 output : w'.output = w.output
 size : w.heap.size ≤ w'.heap.size
 blk : ∀ b, b < w.heap.size → (∀ a ∈ A, a.b ≠ b) → w'.heap[b]? = w.heap[b]?
 keep : ∀ b o, b < w.heap.size → (∀ a ∈ A, ¬ (a.b = b ∧ a.o = o)) → w'.cell? ⟨b, o, none⟩ = w.cell? ⟨b, o, none⟩
 fz : ∀ b o, b < w.heap.size → w'.frozen? ⟨b, o, none⟩ = w.frozen? ⟨b, o, none⟩
 int : ∀ a ∈ A, ∃ n, w'.cell? ⟨a.b, a.o, none⟩ = some (.int a.k n)
 val : (A.map fun a => (a.b, a.o)).Nodup → ∀ (i : Nat) (a : Lf), A[i]? = some a → w'.cell? ⟨a.b, a.o, none⟩ = some (.int a.k (mkV a.k (k + i)))
theorem LvIn.lt {w : World} {A : List Lf} (h : LvIn w A) {a : Lf} (ha : a ∈ A) : a.b < w.heap.size := by
 obtain ⟨⟨n, hn⟩, _⟩ := h a ha
 exact World.block_lt_of_cell? w _ hn
theorem LvIn.nil (w : World) : LvIn w [] := fun a ha => by simp at ha
theorem LvIn.app {w : World} {A A' : List Lf} : LvIn w (A ++ A') ↔ LvIn w A ∧ LvIn w A' := by
 constructor
 ·intro h
  exact ⟨fun a ha => h a (List.mem_append_left _ ha), fun a ha => h a (List.mem_append_right _ ha)⟩
 ·rintro ⟨h, k⟩ a ha
  rcases List.mem_append.1 ha with ha | ha
  ·exact h a ha
  ·exact k a ha
theorem LvIn.sub {w : World} {A A' : List Lf} (h : LvIn w A) (hs : ∀ a ∈ A', a ∈ A) : LvIn w A' := fun a ha => h a (hs a ha)
theorem LvIn.below {w w' : World} {A : List Lf} (h : LvIn w A) (hb : Below w.heap.size w w') : LvIn w' A := fun a ha => by
 obtain ⟨⟨n, hn⟩, hf⟩ := h a ha
 exact ⟨⟨n, cell_below hn hb⟩, (hb.frozen (p := ⟨a.b, a.o, none⟩) (h.lt ha)).trans hf⟩
theorem Mk.of_below {w w' : World} (h : Below w.heap.size w w') (k : Int) : Mk w w' [] k :=
 ⟨h.os, h.tape, h.output, h.size, fun b hb _ => h.block b hb, fun b o hb _ => h.cell (p := ⟨b, o, none⟩) hb, fun b o hb => h.frozen (p := ⟨b, o, none⟩) hb, fun a ha => by simp at ha, fun _ i a ha => by simp at ha⟩
theorem Mk.refl (w : World) (k : Int) : Mk w w [] k := Mk.of_below (Below.refl _ _) k
theorem Mk.one {w : World} {b o : Nat} {kd : IntKind} {k n : Int} (hc : w.cell? ⟨b, o, none⟩ = some (.int kd n)) : Mk w (w.setCell ⟨b, o, none⟩ (.int kd (mkV kd k))) [⟨b, o, kd⟩] k := by
 have hs : (w.setCell ⟨b, o, none⟩ (.int kd (mkV kd k))).cell? ⟨b, o, none⟩ = some (.int kd (mkV kd k)) := World.cell?_setCell_same' w _ _ (by rw [hc]; rfl)
 refine ⟨rfl, rfl, rfl, by simp, fun b' hb hne => RowKit.Below.heap_setCell _ _ _ _ (fun e => hne ⟨b, o, kd⟩ (by simp) e.symm), fun b' o' hb hne => ?_, fun b' o' hb => ?_, fun a ha => ?_, fun _ i a ha => ?_⟩
 ·have h1 := hne ⟨b, o, kd⟩ (by simp)
  simp only at h1
  exact World.cell?_setCell_other _ _ _ _ (fun e => h1 (by simpa using e))
 ·simp
 ·simp at ha
  subst ha
  exact ⟨_, hs⟩
 ·cases i with
  | zero => simp at ha; subst ha; simpa using hs
  | succ i => simp at ha
theorem Mk.trans {w w1 w2 : World} {A A2 : List Lf} {k : Int} (h : Mk w w1 A k) (h2 : Mk w1 w2 A2 (k + A.length)) (hA : LvIn w A) (hA2 : LvIn w A2) : Mk w w2 (A ++ A2) k := by
 refine ⟨h2.os.trans h.os, h2.tape.trans h.tape, h2.output.trans h.output, Nat.le_trans h.size h2.size, fun b hb hne => ?_, fun b o hb hne => ?_, fun b o hb => ?_, fun a ha => ?_, fun hnd i a ha => ?_⟩
 ·exact (h2.blk b (Nat.lt_of_lt_of_le hb h.size) (fun a ha => hne a (List.mem_append_right _ ha))).trans (h.blk b hb (fun a ha => hne a (List.mem_append_left _ ha)))
 ·exact (h2.keep b o (Nat.lt_of_lt_of_le hb h.size) (fun a ha => hne a (List.mem_append_right _ ha))).trans (h.keep b o hb (fun a ha => hne a (List.mem_append_left _ ha)))
 ·exact (h2.fz b o (Nat.lt_of_lt_of_le hb h.size)).trans (h.fz b o hb)
 ·by_cases h3 : ∃ a2 ∈ A2, a2.b = a.b ∧ a2.o = a.o
  ·obtain ⟨a2, m2, e1, e2⟩ := h3
   obtain ⟨n, hn⟩ := h2.int a2 m2
   obtain ⟨⟨n1, hn1⟩, _⟩ := hA2 a2 m2
   obtain ⟨⟨n2, hn2⟩, _⟩ := LvIn.app.2 ⟨hA, hA2⟩ a ha
   rw [e1, e2] at hn hn1
   rw [hn1] at hn2
   simp only [Option.some.injEq, Value.int.injEq] at hn2
   exact ⟨n, by rw [hn, hn2.1]⟩
  ·rcases List.mem_append.1 ha with ha | ha
   ·obtain ⟨n, hn⟩ := h.int a ha
    refine ⟨n, (h2.keep a.b a.o (Nat.lt_of_lt_of_le (hA.lt ha) h.size) (fun a2 m2 e => h3 ⟨a2, m2, e⟩)).trans hn⟩
   ·exact absurd ⟨a, ha, rfl, rfl⟩ h3
 ·rw [List.map_append, List.nodup_append] at hnd
  obtain ⟨n1, n2, n3⟩ := hnd
  by_cases hi : i < A.length
  ·rw [List.getElem?_append_left hi] at ha
   have hm := List.mem_of_getElem? ha
   refine (h2.keep a.b a.o (Nat.lt_of_lt_of_le (hA.lt hm) h.size) (fun a2 m2 e => ?_)).trans (h.val n1 i a ha)
   exact n3 (a.b, a.o) (List.mem_map_of_mem hm) (a2.b, a2.o) (List.mem_map_of_mem m2) (by rw [e.1, e.2])
  ·rw [List.getElem?_append_right (by omega)] at ha
   have := h2.val n2 (i - A.length) a ha
   rw [this]
   congr 3
   omega
theorem LvIn.mk {w w' : World} {A A' : List Lf} {k : Int} (h : LvIn w A') (hm : Mk w w' A k) (hA : LvIn w A) : LvIn w' A' := fun a ha => by
 obtain ⟨⟨n, hn⟩, hf⟩ := h a ha
 refine ⟨?_, (hm.fz _ _ (h.lt ha)).trans hf⟩
 by_cases h3 : ∃ a2 ∈ A, a2.b = a.b ∧ a2.o = a.o
 ·obtain ⟨a2, m2, e1, e2⟩ := h3
  obtain ⟨n', hn'⟩ := hm.int a2 m2
  obtain ⟨⟨n1, hn1⟩, _⟩ := hA a2 m2
  rw [e1, e2] at hn' hn1
  rw [hn] at hn1
  simp only [Option.some.injEq, Value.int.injEq] at hn1
  exact ⟨n', by rw [hn', hn1.1]⟩
 ·exact ⟨n, (hm.keep _ _ (h.lt ha) (fun a2 m2 e => h3 ⟨a2, m2, e⟩)).trans hn⟩
theorem Mk.head {w w' : World} {A : List Lf} {k : Int} (hm : Mk w w' A k) (hA : LvIn w A) {b o : Nat} {p : Option Addr} {n c : Nat} (h : w.cell? ⟨b, o, none⟩ = some (.slice p n c)) : w'.cell? ⟨b, o, none⟩ = some (.slice p n c) := by
 refine (hm.keep b o (World.block_lt_of_cell? w _ h) (fun a ha e => ?_)).trans h
 obtain ⟨⟨n', hn⟩, _⟩ := hA a ha
 rw [e.1, e.2, h] at hn
 simp at hn
theorem Mk.below {w w' : World} {A : List Lf} {k : Int} {B : Nat} (hm : Mk w w' A k) (hB : ∀ a ∈ A, B ≤ a.b) (hz : B ≤ w.heap.size) : Below B w w' :=
 ⟨hm.os, hm.tape, hm.output, hm.size, fun b hb => hm.blk b (by omega) (fun a ha e => by have := hB a ha; omega)⟩
def LvL {α : Type} (P : α → Nat → Nat → List Lf → Prop) (sz : Nat) (v : Value) (xs : List α) (A : List Lf) : Prop :=
 ∃ (p : Option Addr) (c : Nat) (Ls : List (List Lf)), v = .slice p xs.length c ∧ Ls.length = xs.length ∧ A = Ls.flatten ∧ (xs = [] ∨ ∃ b o, p = some ⟨b, o, none⟩ ∧ ∀ i x l, xs[i]? = some x → Ls[i]? = some l → P x b (o + i * sz) l)
theorem LvL.imp {α : Type} {P P' : α → Nat → Nat → List Lf → Prop} {sz : Nat} {v : Value} {xs : List α} {A : List Lf} (h : LvL P sz v xs A) (hi : ∀ x b a l, x ∈ xs → (∀ y ∈ l, y ∈ A) → P x b a l → P' x b a l) : LvL P' sz v xs A := by
 obtain ⟨p, c, Ls, h1, h2, h3, h4⟩ := h
 refine ⟨p, c, Ls, h1, h2, h3, ?_⟩
 rcases h4 with h4 | ⟨b, o, h5, h6⟩
 ·exact .inl h4
 ·refine .inr ⟨b, o, h5, fun i x l hx hl => hi _ _ _ _ (List.mem_of_getElem? hx) (fun y hy => ?_) (h6 i x l hx hl)⟩
  rw [h3]
  exact List.mem_flatten.2 ⟨l, List.mem_of_getElem? hl, hy⟩
def LvI (kd : IntKind) (x : Int) (b a : Nat) (l : List Lf) : Prop := l = [⟨b, a, kd⟩]
abbrev LvB (v : Value) (xs : List Int) (A : List Lf) : Prop := LvL (LvI .u8) 1 v xs A
abbrev LvU (v : Value) (xs : List Int) (A : List Lf) : Prop := LvL (LvI .u64) 1 v xs A
def LvEv (w : World) (x : Ev) (b a : Nat) (l : List Lf) : Prop :=
 ∃ p c lb, l = ⟨b, a, .i64⟩ :: lb ∧ w.cell? ⟨b, a + 1, none⟩ = some (.slice p x.2.length c) ∧ LvB (.slice p x.2.length c) x.2 lb
abbrev LvE (w : World) (v : Value) (xs : List Ev) (A : List Lf) : Prop := LvL (LvEv w) 2 v xs A
def LvSe (w : World) (x : Ses) (b a : Nat) (l : List Lf) : Prop :=
 ∃ p c lq, l = ⟨b, a, .u64⟩ :: ⟨b, a + 1, .i64⟩ :: lq ∧ w.cell? ⟨b, a + 2, none⟩ = some (.slice p x.2.2.length c) ∧ LvE w (.slice p x.2.2.length c) x.2.2 lq
abbrev LvS (w : World) (v : Value) (xs : List Ses) (A : List Lf) : Prop := LvL (LvSe w) 3 v xs A
def LvNo (w : World) (x : Nod) (b a : Nat) (l : List Lf) : Prop :=
 ∃ p0 c0 p1 c1 p4 c4 p7 c7 l0 l1 l4 l7, l = l0 ++ (l1 ++ (⟨b, a + 2, .u64⟩ :: ⟨b, a + 3, .i64⟩ :: (l4 ++ (⟨b, a + 5, .u64⟩ :: ⟨b, a + 6, .u64⟩ :: l7)))) ∧
  (w.cell? ⟨b, a, none⟩ = some (.slice p0 x.path.length c0) ∧ LvB (.slice p0 x.path.length c0) x.path l0) ∧
  (w.cell? ⟨b, a + 1, none⟩ = some (.slice p1 x.value.length c1) ∧ LvB (.slice p1 x.value.length c1) x.value l1) ∧
  (w.cell? ⟨b, a + 4, none⟩ = some (.slice p4 x.holders.length c4) ∧ LvU (.slice p4 x.holders.length c4) x.holders l4) ∧
  (w.cell? ⟨b, a + 7, none⟩ = some (.slice p7 x.watchers.length c7) ∧ LvU (.slice p7 x.watchers.length c7) x.watchers l7)
abbrev LvN (w : World) (v : Value) (xs : List Nod) (A : List Lf) : Prop := LvL (LvNo w) 8 v xs A
theorem LvEv.mk {w w' : World} {x : Ev} {b a : Nat} {l : List Lf} {A : List Lf} {k : Int} (h : LvEv w x b a l) (hm : Mk w w' A k) (hA : LvIn w A) : LvEv w' x b a l := by
 obtain ⟨p, c, lb, h1, h2, h3⟩ := h
 exact ⟨p, c, lb, h1, hm.head hA h2, h3⟩
theorem LvE.mk {w w' : World} {v : Value} {xs : List Ev} {l : List Lf} {A : List Lf} {k : Int} (h : LvE w v xs l) (hm : Mk w w' A k) (hA : LvIn w A) : LvE w' v xs l := h.imp fun _ _ _ _ _ _ h => h.mk hm hA
theorem LvSe.mk {w w' : World} {x : Ses} {b a : Nat} {l : List Lf} {A : List Lf} {k : Int} (h : LvSe w x b a l) (hm : Mk w w' A k) (hA : LvIn w A) : LvSe w' x b a l := by
 obtain ⟨p, c, lb, h1, h2, h3⟩ := h
 exact ⟨p, c, lb, h1, hm.head hA h2, LvE.mk h3 hm hA⟩
theorem LvS.mk {w w' : World} {v : Value} {xs : List Ses} {l : List Lf} {A : List Lf} {k : Int} (h : LvS w v xs l) (hm : Mk w w' A k) (hA : LvIn w A) : LvS w' v xs l := h.imp fun _ _ _ _ _ _ h => h.mk hm hA
theorem LvNo.mk {w w' : World} {x : Nod} {b a : Nat} {l : List Lf} {A : List Lf} {k : Int} (h : LvNo w x b a l) (hm : Mk w w' A k) (hA : LvIn w A) : LvNo w' x b a l := by
 obtain ⟨p0, c0, p1, c1, p4, c4, p7, c7, l0, l1, l4, l7, h1, ⟨h2, h3⟩, ⟨h4, h5⟩, ⟨h6, h7⟩, ⟨h8, h9⟩⟩ := h
 exact ⟨p0, c0, p1, c1, p4, c4, p7, c7, l0, l1, l4, l7, h1, ⟨hm.head hA h2, h3⟩, ⟨hm.head hA h4, h5⟩, ⟨hm.head hA h6, h7⟩, ⟨hm.head hA h8, h9⟩⟩
theorem LvN.mk {w w' : World} {v : Value} {xs : List Nod} {l : List Lf} {A : List Lf} {k : Int} (h : LvN w v xs l) (hm : Mk w w' A k) (hA : LvIn w A) : LvN w' v xs l := h.imp fun _ _ _ _ _ _ h => h.mk hm hA
theorem LvL.at {α : Type} {P : α → Nat → Nat → List Lf → Prop} {sz : Nat} {p : Option Addr} {n c : Nat} {xs : List α} {A : List Lf} (h : LvL P sz (.slice p n c) xs A) :
  ∃ Ls : List (List Lf), n = xs.length ∧ Ls.length = n ∧ A = Ls.flatten ∧ ∀ k, k < n → ∃ b o x l, p = some ⟨b, o, none⟩ ∧ xs[k]? = some x ∧ Ls[k]? = some l ∧ P x b (o + k * sz) l ∧ (Ls.take (k + 1)).flatten = (Ls.take k).flatten ++ l ∧ ∀ y ∈ l, y ∈ A := by
 obtain ⟨p', c', Ls, h1, h2, h3, h4⟩ := h
 simp only [Value.slice.injEq] at h1
 obtain ⟨rfl, rfl, rfl⟩ := h1
 refine ⟨Ls, rfl, h2, h3, fun k hk => ?_⟩
 obtain ⟨x, hx⟩ : ∃ x, xs[k]? = some x := ⟨_, List.getElem?_eq_getElem hk⟩
 obtain ⟨l, hl⟩ : ∃ l, Ls[k]? = some l := ⟨_, List.getElem?_eq_getElem (by omega)⟩
 rcases h4 with h4 | ⟨b, o, h5, h6⟩
 ·rw [h4] at hk; simp at hk
 ·refine ⟨b, o, x, l, h5, hx, hl, h6 k x l hx hl, ?_, fun y hy => ?_⟩
  ·rw [List.take_add_one, hl]
   simp
  ·rw [h3]
   exact List.mem_flatten.2 ⟨l, List.mem_of_getElem? hl, hy⟩
theorem flatten_take_le (Ls : List (List Lf)) (k : Nat) : (Ls.take k).flatten.length ≤ Ls.flatten.length := by
 have h : Ls.flatten = (Ls.take k).flatten ++ (Ls.drop k).flatten := by rw [← List.flatten_append, List.take_append_drop]
 rw [h, List.length_append]
 omega
theorem mem_flatten_take {Ls : List (List Lf)} {k : Nat} {y : Lf} (h : y ∈ (Ls.take k).flatten) : y ∈ Ls.flatten := by
 obtain ⟨l, hl, hy⟩ := List.mem_flatten.1 h
 exact List.mem_flatten.2 ⟨l, List.mem_of_mem_take hl, hy⟩
theorem LvL.len {α : Type} {P : α → Nat → Nat → List Lf → Prop} {sz : Nat} {p : Option Addr} {n c : Nat} {xs : List α} {A : List Lf} (h : LvL P sz (.slice p n c) xs A) (hne : ∀ x b a l, P x b a l → 1 ≤ l.length) : n ≤ A.length := by
 obtain ⟨Ls, en, lL, eA, hat⟩ := h.at
 have key : ∀ k, k ≤ n → k ≤ (Ls.take k).flatten.length := by
  intro k
  induction k with
  | zero => intro _; exact Nat.zero_le _
  | succ k ih =>
   intro hk
   obtain ⟨b, o, x, l, -, -, -, hP, hfl, -⟩ := hat k (by omega)
   rw [hfl, List.length_append]
   have := ih (by omega)
   have := hne _ _ _ _ hP
   omega
 have := key n (Nat.le_refl _)
 rw [← lL, List.take_length, lL] at this
 rw [eA]
 exact this
theorem LvEv.pos {w : World} {x : Ev} {b a : Nat} {l : List Lf} (h : LvEv w x b a l) : 1 ≤ l.length := by
 obtain ⟨p, c, lb, rfl, -⟩ := h
 simp
theorem LvSe.pos {w : World} {x : Ses} {b a : Nat} {l : List Lf} (h : LvSe w x b a l) : 1 ≤ l.length := by
 obtain ⟨p, c, lb, rfl, -⟩ := h
 simp
theorem LvNo.pos {w : World} {x : Nod} {b a : Nat} {l : List Lf} (h : LvNo w x b a l) : 1 ≤ l.length := by
 obtain ⟨p0, c0, p1, c1, p4, c4, p7, c7, l0, l1, l4, l7, rfl, -⟩ := h
 simp
 omega
set_option maxHeartbeats 800000 in
theorem markByteS_lv (p : Option Addr) (c n : Nat) (xs : List Int) (A : List Lf) (k : Int) (w : World) (h : LvB (.slice p n c) xs A) (hA : LvIn w A) (k0 : 0 ≤ k) (k1 : k + A.length ≤ 100000000) :
  Calls Tryz.prog 11 #[.slice p n c, .int .i64 k] w fun e w' => e = .returned (.int .i64 (k + A.length)) ∧ Mk w w' A k := by
 have hnA := h.len (fun x b a l hl => by rw [show l = _ from hl]; simp)
 obtain ⟨Ls, en, lL, eA, hat⟩ := h.at
 have HAT := hide hat
 have HA := hide hA
 have EA := hide eA
 have K1 : k + (Ls.flatten.length : Int) ≤ 100000000 := by rw [← eA]; exact k1
 have hn : n ≤ 100000000 := by omega
 have LL := hide lL
 clear h hat hA eA en lL hnA
 go_enter Tryz.func11, Tryz.ntmps11
 go_wp2
 go_loopw [1, 5] (fun kk i wr => ∃ j : Nat, j ≤ n ∧ i = .int .i64 j ∧ kk = .int .i64 (k + (((Ls.take j).flatten.length : Nat) : Int)) ∧ Hid (Mk w wr (Ls.take j).flatten k)) (fun _ i _ => n - (intOf i).toNat)
 case atStart => exact ⟨0, Nat.zero_le _, rfl, by simp, Mk.refl _ _⟩
 case round =>
  obtain ⟨j, hj, rfl, rfl, hM⟩ := hrel
  have hle := flatten_take_le Ls j
  by_cases hlt : j < n
  ·have hlt' : (j : Int) < (n : Int) := by omega
   obtain ⟨b, o, x, l, rfl, hx, hl, hP, hfl, hsub⟩ := uh HAT j hlt
   obtain rfl : l = [⟨b, o + j, .u8⟩] := by rw [show l = _ from hP, Nat.mul_one]
   have hpre : LvIn w (Ls.take j).flatten := (uh HA).sub (fun a ha => by rw [uh EA]; exact mem_flatten_take ha)
   obtain ⟨⟨n0, hc0⟩, hf0⟩ := (uh HA).mk (uh hM) hpre _ (hsub ⟨b, o + j, .u8⟩ (by simp))
   dsimp only at hc0 hf0
   have HT : Hid ((Ls.take (j + 1)).flatten.length = (Ls.take j).flatten.length + 1) := by show _ = _; rw [hfl]; simp
   have hle1 : ((Ls.take j).flatten.length : Int) + 1 ≤ 100000000 := by
    have := flatten_take_le Ls (j + 1)
    have := uh HT
    omega
   have M1 : Hid (Mk w (wr.setCell ⟨b, o + j, none⟩ (.int .u8 (mkV .u8 (k + ((Ls.take j).flatten.length : Int))))) (Ls.take (j + 1)).flatten k) := by
    show Mk _ _ _ _
    rw [hfl]
    exact (uh hM).trans (Mk.one hc0) hpre (by
     intro a ha
     exact (uh HA) a (hsub a ha))
   generalize hT : (Ls.take j).flatten.length = T at *
   clear hT hx hl hP hfl hsub hpre hM
   have hT0 : 0 ≤ k + (T : Int) := by omega
   have hT1 : k + (T : Int) ≤ 100000000 := by omega
   go_wp2
   go_roundw
   case rel => exact ⟨j + 1, by omega, by go_num, by rw [uh HT]; go_num, M1⟩
   case measure => simp [intOf]; omega
  ·have e : j = n := by omega
   subst e
   have e2 : (Ls.take j).flatten = A := by rw [← uh LL, List.take_length]; exact (uh EA).symm
   rw [e2] at hM ⊢
   clear hle HAT HA
   go_wp2
   go_ret
   exact ⟨rfl, uh hM⟩
set_option maxHeartbeats 800000 in
theorem markUint64S_lv (p : Option Addr) (c n : Nat) (xs : List Int) (A : List Lf) (k : Int) (w : World) (h : LvU (.slice p n c) xs A) (hA : LvIn w A) (k0 : 0 ≤ k) (k1 : k + A.length ≤ 100000000) :
  Calls Tryz.prog 85 #[.slice p n c, .int .i64 k] w fun e w' => e = .returned (.int .i64 (k + A.length)) ∧ Mk w w' A k := by
 have hnA := h.len (fun x b a l hl => by rw [show l = _ from hl]; simp)
 obtain ⟨Ls, en, lL, eA, hat⟩ := h.at
 have HAT := hide hat
 have HA := hide hA
 have EA := hide eA
 have K1 : k + (Ls.flatten.length : Int) ≤ 100000000 := by rw [← eA]; exact k1
 have hn : n ≤ 100000000 := by omega
 have LL := hide lL
 clear h hat hA eA en lL hnA
 go_enter Tryz.func85, Tryz.ntmps85
 go_wp2
 go_loopw [1, 5] (fun kk i wr => ∃ j : Nat, j ≤ n ∧ i = .int .i64 j ∧ kk = .int .i64 (k + (((Ls.take j).flatten.length : Nat) : Int)) ∧ Hid (Mk w wr (Ls.take j).flatten k)) (fun _ i _ => n - (intOf i).toNat)
 case atStart => exact ⟨0, Nat.zero_le _, rfl, by simp, Mk.refl _ _⟩
 case round =>
  obtain ⟨j, hj, rfl, rfl, hM⟩ := hrel
  have hle := flatten_take_le Ls j
  by_cases hlt : j < n
  ·have hlt' : (j : Int) < (n : Int) := by omega
   obtain ⟨b, o, x, l, rfl, hx, hl, hP, hfl, hsub⟩ := uh HAT j hlt
   obtain rfl : l = [⟨b, o + j, .u64⟩] := by rw [show l = _ from hP, Nat.mul_one]
   have hpre : LvIn w (Ls.take j).flatten := (uh HA).sub (fun a ha => by rw [uh EA]; exact mem_flatten_take ha)
   obtain ⟨⟨n0, hc0⟩, hf0⟩ := (uh HA).mk (uh hM) hpre _ (hsub ⟨b, o + j, .u64⟩ (by simp))
   dsimp only at hc0 hf0
   have HT : Hid ((Ls.take (j + 1)).flatten.length = (Ls.take j).flatten.length + 1) := by show _ = _; rw [hfl]; simp
   have hle1 : ((Ls.take j).flatten.length : Int) + 1 ≤ 100000000 := by
    have := flatten_take_le Ls (j + 1)
    have := uh HT
    omega
   have M1 : Hid (Mk w (wr.setCell ⟨b, o + j, none⟩ (.int .u64 (mkV .u64 (k + ((Ls.take j).flatten.length : Int))))) (Ls.take (j + 1)).flatten k) := by
    show Mk _ _ _ _
    rw [hfl]
    exact (uh hM).trans (Mk.one hc0) hpre (by
     intro a ha
     exact (uh HA) a (hsub a ha))
   generalize hT : (Ls.take j).flatten.length = T at *
   clear hT hx hl hP hfl hsub hpre hM
   have hT0 : 0 ≤ k + (T : Int) := by omega
   have hT1 : k + (T : Int) ≤ 100000000 := by omega
   go_wp2
   go_roundw
   case rel => exact ⟨j + 1, by omega, by go_num, by rw [uh HT]; go_num, M1⟩
   case measure => simp [intOf]; omega
  ·have e : j = n := by omega
   subst e
   have e2 : (Ls.take j).flatten = A := by rw [← uh LL, List.take_length]; exact (uh EA).symm
   rw [e2] at hM ⊢
   clear hle HAT HA
   go_wp2
   go_ret
   exact ⟨rfl, uh hM⟩
theorem Mk.trans' {w w1 w2 : World} {A A2 : List Lf} {k K : Int} (h : Mk w w1 A k) (h2 : Mk w1 w2 A2 K) (e : K = k + A.length) (hA : LvIn w A) (hA2 : LvIn w A2) : Mk w w2 (A ++ A2) k := by
 subst e
 exact h.trans h2 hA hA2
theorem Mk.set {wr V : World} {acc l : List Lf} {k0 K : Int} {b o : Nat} {kd : IntKind} (h : Mk wr V acc k0) (hin : LvIn wr l) (hacc : ∀ a ∈ acc, a ∈ l) (hm : Lf.mk b o kd ∈ l) (e : K = k0 + acc.length) : Mk wr (V.setCell ⟨b, o, none⟩ (.int kd (mkV kd K))) (acc ++ [⟨b, o, kd⟩]) k0 := by
 obtain ⟨⟨n, hn⟩, hf⟩ := hin.mk h (hin.sub hacc) _ hm
 exact h.trans' (Mk.one hn) e (hin.sub hacc) (fun a ha => hin a (by simp at ha; rw [ha]; exact hm))
theorem Mk.call {wr V V' : World} {acc lf l : List Lf} {k0 K : Int} (h : Mk wr V acc k0) (h2 : Mk V V' lf K) (hin : LvIn wr l) (hacc : ∀ a ∈ acc, a ∈ l) (hlf : ∀ a ∈ lf, a ∈ l) (e : K = k0 + acc.length) : Mk wr V' (acc ++ lf) k0 :=
 h.trans' h2 e (hin.sub hacc) (hin.sub hlf)
set_option maxHeartbeats 3200000 in
theorem markEventS_lv (p : Option Addr) (c n : Nat) (xs : List Ev) (A : List Lf) (k : Int) (w : World) (h : LvE w (.slice p n c) xs A) (hA : LvIn w A) (k0 : 0 ≤ k) (k1 : k + A.length ≤ 100000000) :
  Calls Tryz.prog 84 #[.slice p n c, .int .i64 k] w fun e w' => e = .returned (.int .i64 (k + A.length)) ∧ Mk w w' A k := by
 have hnA := h.len (fun x b a l hl => hl.pos)
 obtain ⟨Ls, en, lL, eA, hat⟩ := h.at
 have HAT := hide hat
 have HA := hide hA
 have EA := hide eA
 have K1 : k + (Ls.flatten.length : Int) ≤ 100000000 := by rw [← eA]; exact k1
 have hn : n ≤ 100000000 := by omega
 have LL := hide lL
 clear h hat hA eA en lL hnA
 go_enter Tryz.func84, Tryz.ntmps84
 go_wp2
 go_loopw [1, 5] (fun kk i wr => ∃ j : Nat, j ≤ n ∧ i = .int .i64 j ∧ kk = .int .i64 (k + (((Ls.take j).flatten.length : Nat) : Int)) ∧ Hid (Mk w wr (Ls.take j).flatten k)) (fun _ i _ => n - (intOf i).toNat)
 case atStart => exact ⟨0, Nat.zero_le _, rfl, by simp, Mk.refl _ _⟩
 case round =>
  obtain ⟨j, hj, rfl, rfl, hM⟩ := hrel
  have hle := flatten_take_le Ls j
  by_cases hlt : j < n
  ·have hlt' : (j : Int) < (n : Int) := by omega
   obtain ⟨b, o, x, l, rfl, hx, hl, hP, hfl, hsub⟩ := uh HAT j hlt
   have hpre : LvIn w (Ls.take j).flatten := (uh HA).sub (fun a ha => by rw [uh EA]; exact mem_flatten_take ha)
   have hlw : LvIn w l := (uh HA).sub hsub
   have hin : LvIn wr l := hlw.mk (uh hM) hpre
   have hP' := hP.mk (uh hM) hpre
   have hTl : (Ls.take (j + 1)).flatten.length = (Ls.take j).flatten.length + l.length := by rw [hfl, List.length_append]
   have hle1 : k + ((Ls.take j).flatten.length : Int) + (l.length : Int) ≤ 100000000 := by
    have := flatten_take_le Ls (j + 1)
    omega
   have HT := hide hTl
   have HPW : Hid (∀ w', Mk wr w' l (k + ((Ls.take j).flatten.length : Int)) → Mk w w' (Ls.take (j + 1)).flatten k) := by
    intro w' hw'
    rw [hfl]
    exact (uh hM).trans hw' hpre hlw
   generalize hT : (Ls.take j).flatten.length = T at *
   clear hT hx hl hP hfl hsub hpre hM hTl hlw
   have hT0 : 0 ≤ k + (T : Int) := by omega
   obtain ⟨q, d, lb, rfl, hd, hlv⟩ := hP'
   have HD := hide hd
   have HLV := hide hlv
   clear hd hlv
   have hlen : k + (T : Int) + (1 + (lb.length : Int)) ≤ 100000000 := by simp only [List.length_append, List.length_cons] at hle1; omega
   clear hle1
   have HIN := hide hin
   have AC0 : Hid (Mk wr wr [] (k + (T : Int))) := Mk.refl _ _
   clear hin
   have IN0 : LvIn wr (⟨b, o + j * 2, .i64⟩ :: lb) := (uh HIN).mk (uh AC0) ((uh HIN).sub (by intro a ha; first | (simp at ha; done) | (simp only [List.mem_append, List.mem_cons, List.not_mem_nil, List.nil_append, or_false] at ha ⊢; grind)))
   obtain ⟨⟨m0, hc0⟩, hf0⟩ := IN0 ⟨b, o + j * 2, .i64⟩ (by simp)
   dsimp only at hc0 hf0
   have hh1 : wr.cell? ⟨b, o + j * 2 + 1, none⟩ = some (.slice q x.2.length d) := (uh AC0).head ((uh HIN).sub (by intro a ha; first | (simp at ha; done) | (simp only [List.mem_append, List.mem_cons, List.not_mem_nil, List.nil_append, or_false] at ha ⊢; grind))) (uh HD)
   have AX0 : Hid (Mk wr (wr.setCell ⟨b, o + j * 2, none⟩ (.int .i64 (k + (T : Int)))) ([] ++ [⟨b, o + j * 2, .i64⟩]) (k + (T : Int))) := (Mk.set (uh AC0) (uh HIN) (by intro a ha; first | (simp at ha; done) | (simp only [List.mem_append, List.mem_cons, List.not_mem_nil, List.nil_append, or_false] at ha ⊢; grind)) (b := b) (o := o + j * 2) (kd := .i64) (by simp) (K := k + (T : Int)) (by simp))
   have HV0 : Hid (LvIn (wr.setCell ⟨b, o + j * 2, none⟩ (.int .i64 (k + (T : Int)))) lb) := ((uh HIN).sub (by intro a ha; simp [ha])).mk (uh AX0) ((uh HIN).sub (by intro a ha; first | (simp at ha; done) | (simp only [List.mem_append, List.mem_cons, List.not_mem_nil, List.nil_append, or_false] at ha ⊢; grind)))
   clear IN0
   go_wp2_with fail
   clear hc0 hf0 hh1
   refine (markByteS_lv q d x.2.length (x.2) lb (k + (T : Int) + 1) _ (uh HLV) (uh HV0) (by omega) (by omega)).mono ?_
   rintro e v0 ⟨rfl, N0⟩
   have AC1 : Hid (Mk wr v0 (([] ++ [⟨b, o + j * 2, .i64⟩]) ++ lb) (k + (T : Int))) := Mk.call (uh AX0) N0 (uh HIN) (by intro a ha; first | (simp at ha; done) | (simp only [List.mem_append, List.mem_cons, List.not_mem_nil, List.nil_append, or_false] at ha ⊢; grind)) (by intro a ha; simp [ha]) (by simp; try omega)
   clear N0 AX0 HV0
   have FIN := hide (uh HPW _ (by simpa using uh AC1))
   go_wp2
   go_roundw
   case rel => exact ⟨j + 1, by omega, by go_num, by rw [uh HT]; first | (simp; omega) | (congr 1; simp; omega), FIN⟩
   case measure => simp [intOf]; omega
  ·have e : j = n := by omega
   subst e
   have e2 : (Ls.take j).flatten = A := by rw [← uh LL, List.take_length]; exact (uh EA).symm
   rw [e2] at hM ⊢
   clear hle HAT HA
   go_wp2
   go_ret
   exact ⟨rfl, uh hM⟩
set_option maxHeartbeats 3200000 in
theorem markSessionS_lv (p : Option Addr) (c n : Nat) (xs : List Ses) (A : List Lf) (k : Int) (w : World) (h : LvS w (.slice p n c) xs A) (hA : LvIn w A) (k0 : 0 ≤ k) (k1 : k + A.length ≤ 100000000) :
  Calls Tryz.prog 44 #[.slice p n c, .int .i64 k] w fun e w' => e = .returned (.int .i64 (k + A.length)) ∧ Mk w w' A k := by
 have hnA := h.len (fun x b a l hl => hl.pos)
 obtain ⟨Ls, en, lL, eA, hat⟩ := h.at
 have HAT := hide hat
 have HA := hide hA
 have EA := hide eA
 have K1 : k + (Ls.flatten.length : Int) ≤ 100000000 := by rw [← eA]; exact k1
 have hn : n ≤ 100000000 := by omega
 have LL := hide lL
 clear h hat hA eA en lL hnA
 go_enter Tryz.func44, Tryz.ntmps44
 go_wp2
 go_loopw [1, 5] (fun kk i wr => ∃ j : Nat, j ≤ n ∧ i = .int .i64 j ∧ kk = .int .i64 (k + (((Ls.take j).flatten.length : Nat) : Int)) ∧ Hid (Mk w wr (Ls.take j).flatten k)) (fun _ i _ => n - (intOf i).toNat)
 case atStart => exact ⟨0, Nat.zero_le _, rfl, by simp, Mk.refl _ _⟩
 case round =>
  obtain ⟨j, hj, rfl, rfl, hM⟩ := hrel
  have hle := flatten_take_le Ls j
  by_cases hlt : j < n
  ·have hlt' : (j : Int) < (n : Int) := by omega
   obtain ⟨b, o, x, l, rfl, hx, hl, hP, hfl, hsub⟩ := uh HAT j hlt
   have hpre : LvIn w (Ls.take j).flatten := (uh HA).sub (fun a ha => by rw [uh EA]; exact mem_flatten_take ha)
   have hlw : LvIn w l := (uh HA).sub hsub
   have hin : LvIn wr l := hlw.mk (uh hM) hpre
   have hP' := hP.mk (uh hM) hpre
   have hTl : (Ls.take (j + 1)).flatten.length = (Ls.take j).flatten.length + l.length := by rw [hfl, List.length_append]
   have hle1 : k + ((Ls.take j).flatten.length : Int) + (l.length : Int) ≤ 100000000 := by
    have := flatten_take_le Ls (j + 1)
    omega
   have HT := hide hTl
   have HPW : Hid (∀ w', Mk wr w' l (k + ((Ls.take j).flatten.length : Int)) → Mk w w' (Ls.take (j + 1)).flatten k) := by
    intro w' hw'
    rw [hfl]
    exact (uh hM).trans hw' hpre hlw
   generalize hT : (Ls.take j).flatten.length = T at *
   clear hT hx hl hP hfl hsub hpre hM hTl hlw
   have hT0 : 0 ≤ k + (T : Int) := by omega
   obtain ⟨q, d, lb, rfl, hd, hlv⟩ := hP'
   have HD := hide hd
   have HLV := hide hlv
   clear hd hlv
   have hlen : k + (T : Int) + (2 + (lb.length : Int)) ≤ 100000000 := by simp only [List.length_append, List.length_cons] at hle1; omega
   clear hle1
   have HIN := hide hin
   have AC0 : Hid (Mk wr wr [] (k + (T : Int))) := Mk.refl _ _
   clear hin
   have IN0 : LvIn wr (⟨b, o + j * 3, .u64⟩ :: ⟨b, o + j * 3 + 1, .i64⟩ :: lb) := (uh HIN).mk (uh AC0) ((uh HIN).sub (by intro a ha; first | (simp at ha; done) | (simp only [List.mem_append, List.mem_cons, List.not_mem_nil, List.nil_append, or_false] at ha ⊢; grind)))
   obtain ⟨⟨m0, hc0⟩, hf0⟩ := IN0 ⟨b, o + j * 3, .u64⟩ (by simp)
   obtain ⟨⟨m1, hc1⟩, hf1⟩ := IN0 ⟨b, o + j * 3 + 1, .i64⟩ (by simp)
   dsimp only at hc0 hf0 hc1 hf1
   have hh2 : wr.cell? ⟨b, o + j * 3 + 2, none⟩ = some (.slice q x.2.2.length d) := (uh AC0).head ((uh HIN).sub (by intro a ha; first | (simp at ha; done) | (simp only [List.mem_append, List.mem_cons, List.not_mem_nil, List.nil_append, or_false] at ha ⊢; grind))) (uh HD)
   have AX0 : Hid (Mk wr ((wr.setCell ⟨b, o + j * 3, none⟩ (.int .u64 (k + (T : Int)))).setCell ⟨b, o + j * 3 + 1, none⟩ (.int .i64 (k + (T : Int) + 1))) (([] ++ [⟨b, o + j * 3, .u64⟩]) ++ [⟨b, o + j * 3 + 1, .i64⟩]) (k + (T : Int))) := (Mk.set (Mk.set (uh AC0) (uh HIN) (by intro a ha; first | (simp at ha; done) | (simp only [List.mem_append, List.mem_cons, List.not_mem_nil, List.nil_append, or_false] at ha ⊢; grind)) (b := b) (o := o + j * 3) (kd := .u64) (by simp) (K := k + (T : Int)) (by simp)) (uh HIN) (by intro a ha; first | (simp at ha; done) | (simp only [List.mem_append, List.mem_cons, List.not_mem_nil, List.nil_append, or_false] at ha ⊢; grind)) (b := b) (o := o + j * 3 + 1) (kd := .i64) (by simp) (K := k + (T : Int) + 1) (by simp; try omega))
   have HV0 : Hid (LvIn ((wr.setCell ⟨b, o + j * 3, none⟩ (.int .u64 (k + (T : Int)))).setCell ⟨b, o + j * 3 + 1, none⟩ (.int .i64 (k + (T : Int) + 1))) lb) := ((uh HIN).sub (by intro a ha; simp [ha])).mk (uh AX0) ((uh HIN).sub (by intro a ha; first | (simp at ha; done) | (simp only [List.mem_append, List.mem_cons, List.not_mem_nil, List.nil_append, or_false] at ha ⊢; grind)))
   clear IN0
   go_wp2_with fail
   clear hc0 hf0 hc1 hf1 hh2
   refine (markEventS_lv q d x.2.2.length (x.2.2) lb (k + (T : Int) + 1 + 1) _ ((uh HLV).mk (uh AX0) ((uh HIN).sub (by intro a ha; first | (simp at ha; done) | (simp only [List.mem_append, List.mem_cons, List.not_mem_nil, List.nil_append, or_false] at ha ⊢; grind)))) (uh HV0) (by omega) (by omega)).mono ?_
   rintro e v0 ⟨rfl, N0⟩
   have AC1 : Hid (Mk wr v0 ((([] ++ [⟨b, o + j * 3, .u64⟩]) ++ [⟨b, o + j * 3 + 1, .i64⟩]) ++ lb) (k + (T : Int))) := Mk.call (uh AX0) N0 (uh HIN) (by intro a ha; first | (simp at ha; done) | (simp only [List.mem_append, List.mem_cons, List.not_mem_nil, List.nil_append, or_false] at ha ⊢; grind)) (by intro a ha; simp [ha]) (by simp; try omega)
   clear N0 AX0 HV0
   have FIN := hide (uh HPW _ (by simpa using uh AC1))
   go_wp2
   go_roundw
   case rel => exact ⟨j + 1, by omega, by go_num, by rw [uh HT]; first | (simp; omega) | (congr 1; simp; omega), FIN⟩
   case measure => simp [intOf]; omega
  ·have e : j = n := by omega
   subst e
   have e2 : (Ls.take j).flatten = A := by rw [← uh LL, List.take_length]; exact (uh EA).symm
   rw [e2] at hM ⊢
   clear hle HAT HA
   go_wp2
   go_ret
   exact ⟨rfl, uh hM⟩
def Ab (B : Nat) (w : World) (Q : World → Prop) : Prop := ∀ w' : World, (∀ k, B ≤ k → k < w.heap.size → w'.heap[k]? = w.heap[k]?) → Q w'
theorem Ab.step {B : Nat} {w w' : World} {Q : World → Prop} (h : Ab B w Q) (hs : w.heap.size ≤ w'.heap.size) (hk : ∀ k, B ≤ k → k < w.heap.size → w'.heap[k]? = w.heap[k]?) : Ab B w' Q :=
 fun u hu => h u (fun k h1 h2 => (hu k h1 (Nat.lt_of_lt_of_le h2 hs)).trans (hk k h1 h2))
theorem Ab.below {B : Nat} {w w' : World} {Q : World → Prop} (h : Ab B w Q) (hb : Below w.heap.size w w') : Ab B w' Q := h.step hb.size (fun k _ h2 => hb.block k h2)
theorem Ab.mono {B B' : Nat} {w : World} {Q : World → Prop} (h : Ab B' w Q) (hB : B ≤ B') : Ab B w Q := fun u hu => h u (fun k h1 h2 => hu k (Nat.le_trans hB h1) h2)
theorem Ab.set {B : Nat} {w : World} {Q : World → Prop} (h : Ab B w Q) {a : Addr} (ha : a.block < B) (v : Value) : Ab B (w.setCell a v) Q :=
 h.step (by simp) (fun k h1 _ => RowKit.Below.heap_setCell _ _ _ _ (by omega))
theorem Ab.imp {B : Nat} {w : World} {Q R : World → Prop} (h : Ab B w Q) (hi : ∀ u, Q u → R u) : Ab B w R := fun u hu => hi u (h u hu)
theorem Ab.and {B : Nat} {w : World} {Q R : World → Prop} (h : Ab B w Q) (k : Ab B w R) : Ab B w (fun u => Q u ∧ R u) := fun u hu => ⟨h u hu, k u hu⟩
theorem cell_at_heap {w w' : World} {b : Nat} (h : w'.heap[b]? = w.heap[b]?) (o : Nat) : w'.cell? ⟨b, o, none⟩ = w.cell? ⟨b, o, none⟩ := by
 unfold World.cell?
 rw [h]
theorem Tryz.infoU64 : (Tryz.prog.info? 23).map (fun i => (i.zero, i.size, i.bytes)) = some (some (.int .u64 0), 1, 8) := by kernel_rfl
theorem Tryz.infoEv : (Tryz.prog.info? 147).map (fun i => (i.zero, i.size, i.bytes)) = some (some (.agg #[.int .i64 0, .slice none 0 0]), 2, 32) := by kernel_rfl
theorem Tryz.infoSes : (Tryz.prog.info? 59).map (fun i => (i.zero, i.size, i.bytes)) = some (some (.agg #[.int .u64 0, .int .i64 0, .slice none 0 0]), 3, 40) := by kernel_rfl
theorem Tryz.infoNod : (Tryz.prog.info? 66).map (fun i => (i.zero, i.size, i.bytes)) = some (some (.agg #[.slice none 0 0, .slice none 0 0, .int .u64 0, .int .i64 0, .slice none 0 0, .int .u64 0, .int .u64 0, .slice none 0 0]), 8, 128) := by kernel_rfl
def CellsAre (w : World) (b : Nat) (vs : List Value) : Prop := (∀ i v, vs[i]? = some v → w.cell? ⟨b, i, none⟩ = some v) ∧ ∀ o, w.frozen? ⟨b, o, none⟩ = false
theorem CellsAre.alloc (w : World) (cs : Array Value) (t : TypeId) : CellsAre (w.alloc (.cells cs t)) w.heap.size cs.toList := by
 refine ⟨fun i v h => ?_, fun o => ?_⟩
 ·rw [Array.getElem?_toList] at h
  simp [h]
 ·simp [go_sem]
theorem CellsAre.below {w w' : World} {b : Nat} {vs : List Value} (h : CellsAre w b vs) (hb : b < w.heap.size) (hbl : Below w.heap.size w w') : CellsAre w' b vs :=
 ⟨fun i v hi => (hbl.cell (p := ⟨b, i, none⟩) hb).trans (h.1 i v hi), fun o => (hbl.frozen (p := ⟨b, o, none⟩) hb).trans (h.2 o)⟩
theorem CellsAre.far {w : World} {b : Nat} {vs : List Value} (h : CellsAre w b vs) {a : Addr} (ha : b ≠ a.block) (u : Value) : CellsAre (w.setCell a u) b vs := by
 have hh : (w.setCell a u).heap[b]? = w.heap[b]? := RowKit.Below.heap_setCell _ _ _ _ ha
 refine ⟨fun i v hi => (cell_at_heap hh _).trans (h.1 i v hi), fun o => ?_⟩
 have : (w.setCell a u).frozen? ⟨b, o, none⟩ = w.frozen? ⟨b, o, none⟩ := World.frozen?_of_block hh
 rw [this]
 exact h.2 o
theorem CellsAre.near {w : World} {b : Nat} {vs : List Value} (h : CellsAre w b vs) (j : Nat) (hj : j < vs.length) (u : Value) : CellsAre (w.setCell ⟨b, j, none⟩ u) b (vs.set j u) := by
 have hc := h.1 j _ (List.getElem?_eq_getElem hj)
 refine ⟨fun i v hi => ?_, fun o => by simp [h.2 o]⟩
 by_cases e : j = i
 ·subst e
  rw [List.getElem?_set_self hj] at hi
  cases hi
  exact World.cell?_setCell_same _ _ _ hc
 ·rw [List.getElem?_set_ne e] at hi
  have := h.1 i v hi
  simp [go_sem, e, this]
theorem grown_of_b {w w' : World} (h : Below w.heap.size w w') : w.grownBy w' none := ⟨h.os, h.tape, h.output, h.size, fun i hi _ => h.block i hi⟩
end Go.Proofs.YtnbgnhhnpmmloaaGreatDoor
