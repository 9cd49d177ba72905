import Derived.Test.YtnbgnhhnpmmloaaGreatDoorK15
namespace Go.Proofs.YtnbgnhhnpmmloaaGreatDoor
open Go.ChangeShapes Go.WideShapes Go.ChangeAt Go.RowKit
set_option linter.unusedVariables false
set_option linter.unusedSimpArgs false
set_option maxRecDepth 100000
def Nf (BZ : Nat) (w : World) (v : Value) : Prop := ∀ b, v.ownBlock = some b → BZ ≤ b ∧ ∀ o, w.frozen? ⟨b, o, none⟩ = false
def RdEw (BZ : Nat) (w : World) (v : Value) (es : List Ev) : Prop :=
 ∃ (p : Option Addr) (c : Nat), v = .slice p es.length c ∧ Nf BZ w v ∧ (es = [] ∨ ∃ b o, p = some ⟨b, o, none⟩ ∧ ∀ i e, es[i]? = some e → w.cell? ⟨b, o + i * 2, none⟩ = some (.int .i64 e.1) ∧ ∃ u, w.cell? ⟨b, o + i * 2 + 1, none⟩ = some u ∧ Rd w u e.2 ∧ CapOK u ∧ Nf BZ w u)
def RdSw (BZ : Nat) (w : World) (v : Value) (ss : List Ses) : Prop :=
 ∃ (p : Option Addr) (c : Nat), v = .slice p ss.length c ∧ Nf BZ w v ∧ (ss = [] ∨ ∃ b o, p = some ⟨b, o, none⟩ ∧ ∀ i s, ss[i]? = some s → w.cell? ⟨b, o + i * 3, none⟩ = some (.int .u64 s.1) ∧ w.cell? ⟨b, o + i * 3 + 1, none⟩ = some (.int .i64 s.2.1) ∧ ∃ u, w.cell? ⟨b, o + i * 3 + 2, none⟩ = some u ∧ RdEw BZ w u s.2.2)
def RdNw (BZ : Nat) (w : World) (v : Value) (ns : List Nod) : Prop :=
 ∃ (p : Option Addr) (c : Nat), v = .slice p ns.length c ∧ Nf BZ w v ∧ (ns = [] ∨ ∃ b o, p = some ⟨b, o, none⟩ ∧ ∀ i nd, ns[i]? = some nd → ∃ P V H U, NodeAt w b (o + i * 8) nd P V H U ∧ Nf BZ w P ∧ Nf BZ w V ∧ Nf BZ w H ∧ Nf BZ w U)
theorem RdEw.rd {BZ : Nat} {w : World} {v : Value} {es : List Ev} (h : RdEw BZ w v es) : RdEc w v es := by
 obtain ⟨p, c, rfl, -, h⟩ := h
 refine ⟨p, c, rfl, ?_⟩
 rcases h with h | ⟨b, o, rfl, h⟩
 ·exact .inl h
 ·refine .inr ⟨b, o, rfl, fun i e he => ?_⟩
  obtain ⟨h1, u, h2, h3, h4, _⟩ := h i e he
  exact ⟨h1, u, h2, h3, h4⟩
theorem RdSw.rd {BZ : Nat} {w : World} {v : Value} {es : List Ses} (h : RdSw BZ w v es) : RdSc w v es := by
 obtain ⟨p, c, rfl, -, h⟩ := h
 refine ⟨p, c, rfl, ?_⟩
 rcases h with h | ⟨b, o, rfl, h⟩
 ·exact .inl h
 ·refine .inr ⟨b, o, rfl, fun i e he => ?_⟩
  obtain ⟨h1, h2, u, h3, h4⟩ := h i e he
  exact ⟨h1, h2, u, h3, h4.rd⟩
theorem RdNw.rd {BZ : Nat} {w : World} {v : Value} {es : List Nod} (h : RdNw BZ w v es) : RdN w v es := by
 obtain ⟨p, c, rfl, -, h⟩ := h
 refine ⟨p, c, rfl, ?_⟩
 rcases h with h | ⟨b, o, rfl, h⟩
 ·exact .inl h
 ·refine .inr ⟨b, o, rfl, fun i e he => ?_⟩
  obtain ⟨P, V, H, U, h1, _⟩ := h i e he
  exact ⟨P, V, H, U, h1⟩
theorem Nf.row {BZ : Nat} {u wr : World} {G n c m : Nat} {e : TypeId} {sz : Nat} {L : List Value} (ho : wr.ownsRow G e sz (.slice (some ⟨G, 0, none⟩) n c) m L) (hB : BZ ≤ G) (hu : u.heap[G]? = wr.heap[G]?) : Nf BZ u (.slice (some ⟨G, 0, none⟩) n c) := fun b hb => by
 simp only [Value.ownBlock, Option.some.injEq] at hb
 subst hb
 refine ⟨hB, fun o => ?_⟩
 rw [World.frozen?_of_block (w := wr) (a := ⟨G, o, none⟩) hu]
 rcases ho.2 with ⟨e, _⟩ | ⟨g, cap, cur, e, hg, hgg, _⟩
 ·simp at e
 ·simp only [Value.slice.injEq, Option.some.injEq, Addr.mk.injEq] at e
  obtain ⟨⟨rfl, -⟩, -⟩ := e
  simp [World.frozen?, hgg]
structure Apt (B : Nat) (w : World) (A : List Lf) : Prop where
 nd : (A.map fun a => (a.b, a.o)).Nodup
 lo : ∀ a ∈ A, B ≤ a.b
 inn : LvIn w A
theorem Apt.nil (B : Nat) (w : World) : Apt B w [] := ⟨by simp, fun a ha => by simp at ha, LvIn.nil w⟩
theorem Apt.mono {B B' : Nat} {w : World} {A : List Lf} (h : Apt B w A) (hB : B' ≤ B) : Apt B' w A := ⟨h.nd, fun a ha => Nat.le_trans hB (h.lo a ha), h.inn⟩
theorem Apt.app {B M : Nat} {w : World} {A A2 : List Lf} (h : Apt B w A) (h2 : Apt M w A2) (hB : B ≤ M) (hM : ∀ a ∈ A, a.b < M) : Apt B w (A ++ A2) := by
 refine ⟨?_, fun a ha => ?_, LvIn.app.2 ⟨h.inn, h2.inn⟩⟩
 ·rw [List.map_append, List.nodup_append]
  refine ⟨h.nd, h2.nd, fun x hx y hy => ?_⟩
  obtain ⟨a, ha, rfl⟩ := List.mem_map.1 hx
  obtain ⟨a2, ha2, rfl⟩ := List.mem_map.1 hy
  intro e
  have := hM a ha
  have := h2.lo a2 ha2
  simp only [Prod.mk.injEq] at e
  omega
 ·rcases List.mem_append.1 ha with ha | ha
  ·exact h.lo a ha
  ·exact Nat.le_trans hB (h2.lo a ha)
theorem LvIn.keep {w w' : World} {A : List Lf} (h : LvIn w A) (hk : ∀ a ∈ A, w'.heap[a.b]? = w.heap[a.b]?) : LvIn w' A := fun a ha => by
 obtain ⟨⟨n, hn⟩, hf⟩ := h a ha
 exact ⟨⟨n, (World.cell?_of_block (w := w) (a := ⟨a.b, a.o, none⟩) (hk a ha)).trans hn⟩, (World.frozen?_of_block (w := w) (a := ⟨a.b, a.o, none⟩) (hk a ha)).trans hf⟩
theorem Apt.keep {B : Nat} {w w' : World} {A : List Lf} (h : Apt B w A) (hk : ∀ a ∈ A, w'.heap[a.b]? = w.heap[a.b]?) : Apt B w' A := ⟨h.nd, h.lo, h.inn.keep hk⟩
def OwnT {α : Type} (el : World → α → List Value → List Lf → Prop) (ty : TypeId) (sz B : Nat) (w : World) (v : Value) (xs : List α) (Ls : List (List Lf)) : Prop :=
 ∃ cs : List (List Value), cs.length = xs.length ∧ Ls.length = xs.length ∧ (∀ c ∈ cs, c.length = sz) ∧ w.ownsRow B ty sz v xs.length cs.flatten ∧
  (∀ (i : Nat) (x : α) (c : List Value) (l : List Lf), xs[i]? = some x → cs[i]? = some c → Ls[i]? = some l → el w x c l) ∧ Apt B w Ls.flatten ∧ ∀ a ∈ Ls.flatten, v.ownBlock ≠ some a.b
theorem OwnT.nil {α : Type} (el : World → α → List Value → List Lf → Prop) (ty : TypeId) (sz B : Nat) (w : World) : OwnT el ty sz B w (.slice none 0 0) [] [] :=
 ⟨[], rfl, rfl, fun c hc => by simp at hc, by simpa using World.ownsRow_nil w B ty sz, fun i x c l hx => by simp at hx, by simpa using Apt.nil B w, fun a ha => by simp at ha⟩
theorem OwnT.keep {α : Type} {el : World → α → List Value → List Lf → Prop} {ty : TypeId} {sz B : Nat} {w w' : World} {v : Value} {xs : List α} {Ls : List (List Lf)} (h : OwnT el ty sz B w v xs Ls)
  (hst : ∀ x c l, el w x c l → (∀ a ∈ l, w'.heap[a.b]? = w.heap[a.b]?) → el w' x c l) (hz : w.heap.size ≤ w'.heap.size) (hr : ∀ b, v.ownBlock = some b → w'.heap[b]? = w.heap[b]?) (hl : ∀ a ∈ Ls.flatten, w'.heap[a.b]? = w.heap[a.b]?) :
  OwnT el ty sz B w' v xs Ls := by
 obtain ⟨cs, h1, h2, h3, h4, h5, h6, h7⟩ := h
 refine ⟨cs, h1, h2, h3, ?_, fun i x c l hx hc hl' => hst _ _ _ (h5 i x c l hx hc hl') (fun a ha => hl a (List.mem_flatten.2 ⟨l, List.mem_of_getElem? hl', ha⟩)), h6.keep hl, h7⟩
 refine ⟨h4.1, ?_⟩
 rcases h4.2 with hn | ⟨g, cap, cur, rfl, hb, hg, rest⟩
 ·exact .inl hn
 ·exact .inr ⟨g, cap, cur, rfl, hb, (hr g rfl).trans hg, rest⟩
theorem OwnT.below {α : Type} {el : World → α → List Value → List Lf → Prop} {ty : TypeId} {sz B : Nat} {w w' : World} {v : Value} {xs : List α} {Ls : List (List Lf)} (h : OwnT el ty sz B w v xs Ls)
  (hst : ∀ w w' x c l, el w x c l → (∀ a ∈ l, w'.heap[a.b]? = w.heap[a.b]?) → el w' x c l) (hb : Below w.heap.size w w') : OwnT el ty sz B w' v xs Ls := by
 have h' := h
 obtain ⟨cs, h1, h2, h3, h4, h5, h6, h7⟩ := h'
 exact h.keep (hst w w') hb.size (fun b hv => hb.block b (h4.lt b hv).2) (fun a ha => hb.block _ (h6.inn.lt ha))
theorem OwnT.snoc {α : Type} {el : World → α → List Value → List Lf → Prop} {ty : TypeId} {sz B M : Nat} {w w' : World} {v v' : Value} {xs : List α} {Ls : List (List Lf)} {x : α} {c : List Value} {l : List Lf} {cs : List (List Value)}
  (h1 : cs.length = xs.length) (h2 : Ls.length = xs.length) (h3 : ∀ c ∈ cs, c.length = sz) (h5 : ∀ (i : Nat) (x : α) (c : List Value) (l : List Lf), xs[i]? = some x → cs[i]? = some c → Ls[i]? = some l → el w x c l) (h6 : Apt B w Ls.flatten) (h7 : ∀ a ∈ Ls.flatten, v.ownBlock ≠ some a.b)
  (hst : ∀ w w' x c l, el w x c l → (∀ a ∈ l, w'.heap[a.b]? = w.heap[a.b]?) → el w' x c l) (hx : el w x c l) (hc : c.length = sz) (hA : Apt M w l) (hBM : B ≤ M) (hM : ∀ a ∈ Ls.flatten, a.b < M) (hvM : ∀ b, v.ownBlock = some b → b < M)
  (hrow : w'.ownsRow B ty sz v' (xs.length + 1) (cs.flatten ++ c)) (hg : w.grownBy w' v.ownBlock) (hfr : ∀ g, v'.ownBlock = some g → v.ownBlock = some g ∨ w.heap.size ≤ g) :
  OwnT el ty sz B w' v' (xs ++ [x]) (Ls ++ [l]) := by
 have hk : ∀ a ∈ Ls.flatten ++ l, w'.heap[a.b]? = w.heap[a.b]? := fun a ha => by
  rcases List.mem_append.1 ha with ha | ha
  ·exact hg.block _ (h6.inn.lt ha) (fun e => h7 a ha e.symm)
  ·exact hg.block _ (hA.inn.lt ha) (fun e => by have := hvM a.b e.symm; have := hA.lo a ha; omega)
 refine ⟨cs ++ [c], by simp [h1], by simp [h2], fun c' hc' => ?_, ?_, fun i y c' l' hy hc' hl' => ?_, ?_, fun a ha => ?_⟩
 ·rcases List.mem_append.1 hc' with hc' | hc'
  ·exact h3 c' hc'
  ·simp at hc'; subst hc'; exact hc
 ·simpa using hrow
 ·by_cases hi : i < xs.length
  ·rw [List.getElem?_append_left hi] at hy
   rw [List.getElem?_append_left (by omega)] at hc' hl'
   exact hst w w' _ _ _ (h5 i y c' l' hy hc' hl') (fun a ha => hk a (List.mem_append_left _ (List.mem_flatten.2 ⟨l', List.mem_of_getElem? hl', ha⟩)))
  ·have ei : i = xs.length := by
    have := (List.getElem?_eq_some_iff.1 hy).1
    simp at this
    omega
   subst ei
   simp at hy
   rw [← h1] at hc'
   simp at hc'
   rw [← h2] at hl'
   simp at hl'
   subst hy hc' hl'
   exact hst w w' _ _ _ hx (fun a ha => hk a (List.mem_append_right _ ha))
 ·have : (Ls ++ [l]).flatten = Ls.flatten ++ l := by simp
  rw [this]
  exact (h6.app hA hBM hM).keep hk
 ·have : (Ls ++ [l]).flatten = Ls.flatten ++ l := by simp
  rw [this] at ha
  intro e
  rcases hfr _ e with e1 | e1
  ·rcases List.mem_append.1 ha with ha | ha
   ·exact h7 a ha e1
   ·have := hvM a.b e1
    have := hA.lo a ha
    omega
  ·have : a.b < w.heap.size := by
    rcases List.mem_append.1 ha with ha | ha
    ·exact h6.inn.lt ha
    ·exact hA.inn.lt ha
   omega
theorem OwnT.lt {α : Type} {el : World → α → List Value → List Lf → Prop} {ty : TypeId} {sz B : Nat} {w : World} {v : Value} {xs : List α} {Ls : List (List Lf)} (h : OwnT el ty sz B w v xs Ls) : (∀ b, v.ownBlock = some b → B ≤ b ∧ b < w.heap.size) ∧ ∀ a ∈ Ls.flatten, B ≤ a.b ∧ a.b < w.heap.size := by
 obtain ⟨cs, h1, h2, h3, h4, h5, h6, h7⟩ := h
 exact ⟨fun b hb => h4.lt b hb, fun a ha => ⟨h6.lo a ha, h6.inn.lt ha⟩⟩
theorem flat_get {cs : List (List Value)} {sz : Nat} (h : ∀ c ∈ cs, c.length = sz) {i : Nat} {c : List Value} (hc : cs[i]? = some c) {j : Nat} (hj : j < sz) : cs.flatten[i * sz + j]? = c[j]? := by
 induction cs generalizing i with
 | nil => simp at hc
 | cons d cs ih =>
  cases i with
  | zero =>
   simp at hc
   subst hc
   rw [List.flatten_cons, List.getElem?_append_left (by rw [h d (by simp)]; omega)]
   simp
  | succ i =>
   rw [List.flatten_cons, List.getElem?_append_right (by rw [h d (by simp), Nat.succ_mul]; omega), h d (by simp)]
   have := ih (fun c hc => h c (by simp [hc])) (by simpa using hc)
   rw [← this]
   congr 1
   rw [Nat.succ_mul]
   omega
theorem OwnT.lv {α : Type} {el : World → α → List Value → List Lf → Prop} {ty : TypeId} {sz B : Nat} {w : World} {v : Value} {xs : List α} {Ls : List (List Lf)} (h : OwnT el ty sz B w v xs Ls) (P : α → Nat → Nat → List Lf → Prop)
  (hel : ∀ x c l b a, el w x c l → (∀ j u, c[j]? = some u → w.cell? ⟨b, a + j, none⟩ = some u) → (∀ o, w.frozen? ⟨b, o, none⟩ = false) → (∀ y ∈ l, y.b ≠ b) → LvIn w l → (l.map fun a => (a.b, a.o)).Nodup →
   ∃ L, P x b a L ∧ (L.map fun a => (a.b, a.o)).Nodup ∧ LvIn w L ∧ ∀ y ∈ L, y ∈ l ∨ y.b = b ∧ a ≤ y.o ∧ y.o < a + sz) :
  ∃ A, LvL P sz v xs A ∧ Apt B w A := by
 obtain ⟨cs, h1, h2, h3, h4, h5, h6, h7⟩ := h
 rcases id h4.2 with ⟨rfl, h0⟩ | ⟨g, cap, cur, rfl, hb, hg, -, -, -, -⟩
 ·have e0 : xs = [] := List.length_eq_zero_iff.1 h0
  subst e0
  exact ⟨[], ⟨none, 0, [], by simp, rfl, rfl, .inl rfl⟩, Apt.nil _ _⟩
 ·have hfz : ∀ o, w.frozen? ⟨g, o, none⟩ = false := fun o => by simp [World.frozen?, hg]
  have key : ∀ k, k ≤ xs.length → ∃ LL : List (List Lf), LL.length = k ∧ (∀ (i : Nat) (x : α) (l : List Lf), i < k → xs[i]? = some x → LL[i]? = some l → P x g (0 + i * sz) l) ∧ (LL.flatten.map fun a => (a.b, a.o)).Nodup ∧ LvIn w LL.flatten ∧
    ∀ y ∈ LL.flatten, y ∈ (Ls.take k).flatten ∨ y.b = g ∧ y.o < k * sz := by
   intro k
   induction k with
   | zero => intro _; exact ⟨[], rfl, fun i x l hi => by omega, by simp, LvIn.nil w, fun y hy => by simp at hy⟩
   | succ k ih =>
    intro hk
    obtain ⟨LL, q1, q2, q3, q4, q5⟩ := ih (by omega)
    obtain ⟨x, hx⟩ : ∃ x, xs[k]? = some x := ⟨_, List.getElem?_eq_getElem (by omega)⟩
    obtain ⟨c, hc⟩ : ∃ x, cs[k]? = some x := ⟨_, List.getElem?_eq_getElem (by omega)⟩
    obtain ⟨l, hl⟩ : ∃ x, Ls[k]? = some x := ⟨_, List.getElem?_eq_getElem (by omega)⟩
    have hlm : ∀ y ∈ l, y ∈ Ls.flatten := fun y hy => List.mem_flatten.2 ⟨l, List.mem_of_getElem? hl, hy⟩
    have hlen : c.length = sz := h3 c (List.mem_of_getElem? hc)
    have hnd : (Ls.take (k + 1)).flatten = (Ls.take k).flatten ++ l := by rw [List.take_add_one, hl]; simp
    have hpre : (((Ls.take (k + 1)).flatten.map fun a => (a.b, a.o))).Nodup := by
     have := h6.nd
     have e : Ls.flatten = (Ls.take (k + 1)).flatten ++ (Ls.drop (k + 1)).flatten := by rw [← List.flatten_append, List.take_append_drop]
     rw [e, List.map_append, List.nodup_append] at this
     exact this.1
    rw [hnd, List.map_append, List.nodup_append] at hpre
    obtain ⟨n1, n2, n3⟩ := hpre
    obtain ⟨L, r1, r2, r3, r4⟩ := hel x c l g (0 + k * sz) (h5 k x c l hx hc hl) (fun j u hu => by
     have hj : j < sz := by have := (List.getElem?_eq_some_iff.1 hu).1; omega
     have hks : k * sz + sz ≤ xs.length * sz := by rw [← Nat.succ_mul]; exact Nat.mul_le_mul_right _ hk
     rw [Nat.zero_add, h4.cellAt (k * sz + j) (by omega), flat_get h3 hc hj]
     exact hu) hfz (fun y hy e => h7 y (hlm y hy) (by simp [Value.ownBlock, e])) (h6.inn.sub hlm) n2
    refine ⟨LL ++ [L], by simp [q1], fun i y m hi hy hm => ?_, ?_, ?_, fun y hy => ?_⟩
    ·by_cases hik : i < k
     ·rw [List.getElem?_append_left (by omega)] at hm
      exact q2 i y m hik hy hm
     ·have : i = k := by omega
      subst this
      rw [hx] at hy
      cases hy
      rw [← q1] at hm
      simp at hm
      subst hm
      exact r1
    ·have e : (LL ++ [L]).flatten = LL.flatten ++ L := by simp
     rw [e, List.map_append, List.nodup_append]
     refine ⟨q3, r2, fun y hy z hz => ?_⟩
     obtain ⟨a1, m1, rfl⟩ := List.mem_map.1 hy
     obtain ⟨a2, m2, rfl⟩ := List.mem_map.1 hz
     intro ee
     simp only [Prod.mk.injEq] at ee
     rcases q5 a1 m1 with u1 | ⟨u1, u2⟩
     ·rcases r4 a2 m2 with v1 | ⟨v1, v2, v3⟩
      ·exact n3 (a1.b, a1.o) (List.mem_map_of_mem u1) (a2.b, a2.o) (List.mem_map_of_mem v1) (by rw [ee.1, ee.2])
      ·exact h7 a1 (mem_flatten_take u1) (by simp [Value.ownBlock, ee.1, v1])
     ·rcases r4 a2 m2 with v1 | ⟨v1, v2, v3⟩
      ·exact h7 a2 (hlm a2 v1) (by simp [Value.ownBlock, ← ee.1, u1])
      ·omega
    ·have e : (LL ++ [L]).flatten = LL.flatten ++ L := by simp
     rw [e]
     exact LvIn.app.2 ⟨q4, r3⟩
    ·have e : (LL ++ [L]).flatten = LL.flatten ++ L := by simp
     rw [e] at hy
     rcases List.mem_append.1 hy with hy | hy
     ·rcases q5 y hy with u1 | ⟨u1, u2⟩
      ·exact .inl (by rw [hnd]; exact List.mem_append_left _ u1)
      ·exact .inr ⟨u1, by rw [Nat.succ_mul]; omega⟩
     ·rcases r4 y hy with v1 | ⟨v1, v2, v3⟩
      ·exact .inl (by rw [hnd]; exact List.mem_append_right _ v1)
      ·exact .inr ⟨v1, by rw [Nat.succ_mul]; omega⟩
  obtain ⟨LL, q1, q2, q3, q4, q5⟩ := key xs.length (Nat.le_refl _)
  refine ⟨LL.flatten, ⟨some ⟨g, 0, none⟩, cap, LL, rfl, q1, rfl, .inr ⟨g, 0, rfl, fun i x l hx hl => q2 i x l (List.getElem?_eq_some_iff.1 hx).1 hx hl⟩⟩, q3, fun a ha => ?_, q4⟩
  rcases q5 a ha with u1 | ⟨u1, u2⟩
  ·exact h6.lo a (mem_flatten_take u1)
  ·rw [u1]; exact hb
end Go.Proofs.YtnbgnhhnpmmloaaGreatDoor
