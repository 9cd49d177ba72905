import Derived.Test.YtpbppdeleijhkaaGreatDoorG11
import Derived.Test.YtpbppdeleijhkaaGreatDoorLWo
namespace Go.Proofs.YtpbppdeleijhkaaGreatDoor
open Go.ChangeShapes Go.WideShapes Go.ChangeAt Go.RowKit
set_option linter.unusedVariables false
set_option linter.unusedSimpArgs false
set_option maxRecDepth 100000
structure Apt (B : Nat) (w : World) (A : List Lf) : Prop where
 nd : (A.map fun a => (a.b, a.o)).Nodup
 lo : ∀ a ∈ A, B ≤ a.b
 inn : LvIn w A
theorem Apt.nil (B : Nat) (w : World) : Apt B w [] := ⟨by simp, fun a ha => by simp at ha, LvIn.nil w⟩
theorem Apt.mono {B B' : Nat} {w : World} {A : List Lf} (h : Apt B w A) (hB : B' ≤ B) : Apt B' w A := ⟨h.nd, fun a ha => Nat.le_trans hB (h.lo a ha), h.inn⟩
theorem Apt.app {B M : Nat} {w : World} {A A2 : List Lf} (h : Apt B w A) (h2 : Apt M w A2) (hB : B ≤ M) (hM : ∀ a ∈ A, a.b < M) : Apt B w (A ++ A2) := by
 refine ⟨?_, fun a ha => ?_, LvIn.app.2 ⟨h.inn, h2.inn⟩⟩
 ·rw [List.map_append, List.nodup_append]
  refine ⟨h.nd, h2.nd, fun x hx y hy => ?_⟩
  obtain ⟨a, ha, rfl⟩ := List.mem_map.1 hx
  obtain ⟨a2, ha2, rfl⟩ := List.mem_map.1 hy
  intro e
  have := hM a ha
  have := h2.lo a2 ha2
  simp only [Prod.mk.injEq] at e
  omega
 ·rcases List.mem_append.1 ha with ha | ha
  ·exact h.lo a ha
  ·exact Nat.le_trans hB (h2.lo a ha)
theorem LvIn.keep {w w' : World} {A : List Lf} (h : LvIn w A) (hk : ∀ a ∈ A, w'.heap[a.b]? = w.heap[a.b]?) : LvIn w' A := fun a ha => by
 obtain ⟨⟨n, hn⟩, hf⟩ := h a ha
 exact ⟨⟨n, (World.cell?_of_block (w := w) (a := ⟨a.b, a.o, none⟩) (hk a ha)).trans hn⟩, (World.frozen?_of_block (w := w) (a := ⟨a.b, a.o, none⟩) (hk a ha)).trans hf⟩
theorem Apt.keep {B : Nat} {w w' : World} {A : List Lf} (h : Apt B w A) (hk : ∀ a ∈ A, w'.heap[a.b]? = w.heap[a.b]?) : Apt B w' A := ⟨h.nd, h.lo, h.inn.keep hk⟩
def OwnT {α : Type} (el : World → α → List Value → List Lf → Prop) (ty : TypeId) (sz B : Nat) (w : World) (v : Value) (xs : List α) (Ls : List (List Lf)) : Prop :=
 ∃ cs : List (List Value), cs.length = xs.length ∧ Ls.length = xs.length ∧ (∀ c ∈ cs, c.length = sz) ∧ w.ownsRow B ty sz v xs.length cs.flatten ∧
  (∀ (i : Nat) (x : α) (c : List Value) (l : List Lf), xs[i]? = some x → cs[i]? = some c → Ls[i]? = some l → el w x c l) ∧ Apt B w Ls.flatten ∧ ∀ a ∈ Ls.flatten, v.ownBlock ≠ some a.b
theorem OwnT.nil {α : Type} (el : World → α → List Value → List Lf → Prop) (ty : TypeId) (sz B : Nat) (w : World) : OwnT el ty sz B w (.slice none 0 0) [] [] :=
 ⟨[], rfl, rfl, fun c hc => by simp at hc, by simpa using World.ownsRow_nil w B ty sz, fun i x c l hx => by simp at hx, by simpa using Apt.nil B w, fun a ha => by simp at ha⟩
theorem OwnT.keep {α : Type} {el : World → α → List Value → List Lf → Prop} {ty : TypeId} {sz B : Nat} {w w' : World} {v : Value} {xs : List α} {Ls : List (List Lf)} (h : OwnT el ty sz B w v xs Ls)
  (hst : ∀ x c l, el w x c l → (∀ a ∈ l, w'.heap[a.b]? = w.heap[a.b]?) → el w' x c l) (hz : w.heap.size ≤ w'.heap.size) (hr : ∀ b, v.ownBlock = some b → w'.heap[b]? = w.heap[b]?) (hl : ∀ a ∈ Ls.flatten, w'.heap[a.b]? = w.heap[a.b]?) :
  OwnT el ty sz B w' v xs Ls := by
 obtain ⟨cs, h1, h2, h3, h4, h5, h6, h7⟩ := h
 refine ⟨cs, h1, h2, h3, ?_, fun i x c l hx hc hl' => hst _ _ _ (h5 i x c l hx hc hl') (fun a ha => hl a (List.mem_flatten.2 ⟨l, List.mem_of_getElem? hl', ha⟩)), h6.keep hl, h7⟩
 refine ⟨h4.1, ?_⟩
 rcases h4.2 with hn | ⟨g, cap, cur, rfl, hb, hg, rest⟩
 ·exact .inl hn
 ·exact .inr ⟨g, cap, cur, rfl, hb, (hr g rfl).trans hg, rest⟩
theorem OwnT.below {α : Type} {el : World → α → List Value → List Lf → Prop} {ty : TypeId} {sz B : Nat} {w w' : World} {v : Value} {xs : List α} {Ls : List (List Lf)} (h : OwnT el ty sz B w v xs Ls)
  (hst : ∀ w w' x c l, el w x c l → (∀ a ∈ l, w'.heap[a.b]? = w.heap[a.b]?) → el w' x c l) (hb : Below w.heap.size w w') : OwnT el ty sz B w' v xs Ls := by
 have h' := h
 obtain ⟨cs, h1, h2, h3, h4, h5, h6, h7⟩ := h'
 exact h.keep (hst w w') hb.size (fun b hv => hb.block b (h4.lt b hv).2) (fun a ha => hb.block _ (h6.inn.lt ha))
theorem OwnT.snoc {α : Type} {el : World → α → List Value → List Lf → Prop} {ty : TypeId} {sz B M : Nat} {w w' : World} {v v' : Value} {xs : List α} {Ls : List (List Lf)} {x : α} {c : List Value} {l : List Lf} {cs : List (List Value)}
  (h1 : cs.length = xs.length) (h2 : Ls.length = xs.length) (h3 : ∀ c ∈ cs, c.length = sz) (h5 : ∀ (i : Nat) (x : α) (c : List Value) (l : List Lf), xs[i]? = some x → cs[i]? = some c → Ls[i]? = some l → el w x c l) (h6 : Apt B w Ls.flatten) (h7 : ∀ a ∈ Ls.flatten, v.ownBlock ≠ some a.b)
  (hst : ∀ w w' x c l, el w x c l → (∀ a ∈ l, w'.heap[a.b]? = w.heap[a.b]?) → el w' x c l) (hx : el w x c l) (hc : c.length = sz) (hA : Apt M w l) (hBM : B ≤ M) (hM : ∀ a ∈ Ls.flatten, a.b < M) (hvM : ∀ b, v.ownBlock = some b → b < M)
  (hrow : w'.ownsRow B ty sz v' (xs.length + 1) (cs.flatten ++ c)) (hg : w.grownBy w' v.ownBlock) (hfr : ∀ g, v'.ownBlock = some g → v.ownBlock = some g ∨ w.heap.size ≤ g) :
  OwnT el ty sz B w' v' (xs ++ [x]) (Ls ++ [l]) := by
 have hk : ∀ a ∈ Ls.flatten ++ l, w'.heap[a.b]? = w.heap[a.b]? := fun a ha => by
  rcases List.mem_append.1 ha with ha | ha
  ·exact hg.block _ (h6.inn.lt ha) (fun e => h7 a ha e.symm)
  ·exact hg.block _ (hA.inn.lt ha) (fun e => by have := hvM a.b e.symm; have := hA.lo a ha; omega)
 refine ⟨cs ++ [c], by simp [h1], by simp [h2], fun c' hc' => ?_, ?_, fun i y c' l' hy hc' hl' => ?_, ?_, fun a ha => ?_⟩
 ·rcases List.mem_append.1 hc' with hc' | hc'
  ·exact h3 c' hc'
  ·simp at hc'; subst hc'; exact hc
 ·simpa using hrow
 ·by_cases hi : i < xs.length
  ·rw [List.getElem?_append_left hi] at hy
   rw [List.getElem?_append_left (by omega)] at hc' hl'
   exact hst w w' _ _ _ (h5 i y c' l' hy hc' hl') (fun a ha => hk a (List.mem_append_left _ (List.mem_flatten.2 ⟨l', List.mem_of_getElem? hl', ha⟩)))
  ·have ei : i = xs.length := by
    have := (List.getElem?_eq_some_iff.1 hy).1
    simp at this
    omega
   subst ei
   simp at hy
   rw [← h1] at hc'
   simp at hc'
   rw [← h2] at hl'
   simp at hl'
   subst hy hc' hl'
   exact hst w w' _ _ _ hx (fun a ha => hk a (List.mem_append_right _ ha))
 ·have : (Ls ++ [l]).flatten = Ls.flatten ++ l := by simp
  rw [this]
  exact (h6.app hA hBM hM).keep hk
 ·have : (Ls ++ [l]).flatten = Ls.flatten ++ l := by simp
  rw [this] at ha
  intro e
  rcases hfr _ e with e1 | e1
  ·rcases List.mem_append.1 ha with ha | ha
   ·exact h7 a ha e1
   ·have := hvM a.b e1
    have := hA.lo a ha
    omega
  ·have : a.b < w.heap.size := by
    rcases List.mem_append.1 ha with ha | ha
    ·exact h6.inn.lt ha
    ·exact hA.inn.lt ha
   omega
theorem OwnT.lt {α : Type} {el : World → α → List Value → List Lf → Prop} {ty : TypeId} {sz B : Nat} {w : World} {v : Value} {xs : List α} {Ls : List (List Lf)} (h : OwnT el ty sz B w v xs Ls) : (∀ b, v.ownBlock = some b → B ≤ b ∧ b < w.heap.size) ∧ ∀ a ∈ Ls.flatten, B ≤ a.b ∧ a.b < w.heap.size := by
 obtain ⟨cs, h1, h2, h3, h4, h5, h6, h7⟩ := h
 exact ⟨fun b hb => h4.lt b hb, fun a ha => ⟨h6.lo a ha, h6.inn.lt ha⟩⟩
theorem flat_get {cs : List (List Value)} {sz : Nat} (h : ∀ c ∈ cs, c.length = sz) {i : Nat} {c : List Value} (hc : cs[i]? = some c) {j : Nat} (hj : j < sz) : cs.flatten[i * sz + j]? = c[j]? := by
 induction cs generalizing i with
 | nil => simp at hc
 | cons d cs ih =>
  cases i with
  | zero =>
   simp at hc
   subst hc
   rw [List.flatten_cons, List.getElem?_append_left (by rw [h d (by simp)]; omega)]
   simp
  | succ i =>
   rw [List.flatten_cons, List.getElem?_append_right (by rw [h d (by simp), Nat.succ_mul]; omega), h d (by simp)]
   have := ih (fun c hc => h c (by simp [hc])) (by simpa using hc)
   rw [← this]
   congr 1
   rw [Nat.succ_mul]
   omega
theorem OwnT.lv {α : Type} {el : World → α → List Value → List Lf → Prop} {ty : TypeId} {sz B : Nat} {w : World} {v : Value} {xs : List α} {Ls : List (List Lf)} (h : OwnT el ty sz B w v xs Ls) (P : α → Nat → Nat → List Lf → Prop)
  (hel : ∀ x c l b a, el w x c l → (∀ j u, c[j]? = some u → w.cell? ⟨b, a + j, none⟩ = some u) → (∀ o, w.frozen? ⟨b, o, none⟩ = false) → (∀ y ∈ l, y.b ≠ b) → LvIn w l → (l.map fun a => (a.b, a.o)).Nodup →
   ∃ L, P x b a L ∧ (L.map fun a => (a.b, a.o)).Nodup ∧ LvIn w L ∧ ∀ y ∈ L, y ∈ l ∨ y.b = b ∧ a ≤ y.o ∧ y.o < a + sz) :
  ∃ A, LvL P sz v xs A ∧ Apt B w A := by
 obtain ⟨cs, h1, h2, h3, h4, h5, h6, h7⟩ := h
 rcases id h4.2 with ⟨rfl, h0⟩ | ⟨g, cap, cur, rfl, hb, hg, -, -, -, -⟩
 ·have e0 : xs = [] := List.length_eq_zero_iff.1 h0
  subst e0
  exact ⟨[], ⟨none, 0, [], by simp, rfl, rfl, .inl rfl⟩, Apt.nil _ _⟩
 ·have hfz : ∀ o, w.frozen? ⟨g, o, none⟩ = false := fun o => by simp [World.frozen?, hg]
  have key : ∀ k, k ≤ xs.length → ∃ LL : List (List Lf), LL.length = k ∧ (∀ (i : Nat) (x : α) (l : List Lf), i < k → xs[i]? = some x → LL[i]? = some l → P x g (0 + i * sz) l) ∧ (LL.flatten.map fun a => (a.b, a.o)).Nodup ∧ LvIn w LL.flatten ∧
    ∀ y ∈ LL.flatten, y ∈ (Ls.take k).flatten ∨ y.b = g ∧ y.o < k * sz := by
   intro k
   induction k with
   | zero => intro _; exact ⟨[], rfl, fun i x l hi => by omega, by simp, LvIn.nil w, fun y hy => by simp at hy⟩
   | succ k ih =>
    intro hk
    obtain ⟨LL, q1, q2, q3, q4, q5⟩ := ih (by omega)
    obtain ⟨x, hx⟩ : ∃ x, xs[k]? = some x := ⟨_, List.getElem?_eq_getElem (by omega)⟩
    obtain ⟨c, hc⟩ : ∃ x, cs[k]? = some x := ⟨_, List.getElem?_eq_getElem (by omega)⟩
    obtain ⟨l, hl⟩ : ∃ x, Ls[k]? = some x := ⟨_, List.getElem?_eq_getElem (by omega)⟩
    have hlm : ∀ y ∈ l, y ∈ Ls.flatten := fun y hy => List.mem_flatten.2 ⟨l, List.mem_of_getElem? hl, hy⟩
    have hlen : c.length = sz := h3 c (List.mem_of_getElem? hc)
    have hnd : (Ls.take (k + 1)).flatten = (Ls.take k).flatten ++ l := by rw [List.take_add_one, hl]; simp
    have hpre : (((Ls.take (k + 1)).flatten.map fun a => (a.b, a.o))).Nodup := by
     have := h6.nd
     have e : Ls.flatten = (Ls.take (k + 1)).flatten ++ (Ls.drop (k + 1)).flatten := by rw [← List.flatten_append, List.take_append_drop]
     rw [e, List.map_append, List.nodup_append] at this
     exact this.1
    rw [hnd, List.map_append, List.nodup_append] at hpre
    obtain ⟨n1, n2, n3⟩ := hpre
    obtain ⟨L, r1, r2, r3, r4⟩ := hel x c l g (0 + k * sz) (h5 k x c l hx hc hl) (fun j u hu => by
     have hj : j < sz := by have := (List.getElem?_eq_some_iff.1 hu).1; omega
     have hks : k * sz + sz ≤ xs.length * sz := by rw [← Nat.succ_mul]; exact Nat.mul_le_mul_right _ hk
     rw [Nat.zero_add, h4.cellAt (k * sz + j) (by omega), flat_get h3 hc hj]
     exact hu) hfz (fun y hy e => h7 y (hlm y hy) (by simp [Value.ownBlock, e])) (h6.inn.sub hlm) n2
    refine ⟨LL ++ [L], by simp [q1], fun i y m hi hy hm => ?_, ?_, ?_, fun y hy => ?_⟩
    ·by_cases hik : i < k
     ·rw [List.getElem?_append_left (by omega)] at hm
      exact q2 i y m hik hy hm
     ·have : i = k := by omega
      subst this
      rw [hx] at hy
      cases hy
      rw [← q1] at hm
      simp at hm
      subst hm
      exact r1
    ·have e : (LL ++ [L]).flatten = LL.flatten ++ L := by simp
     rw [e, List.map_append, List.nodup_append]
     refine ⟨q3, r2, fun y hy z hz => ?_⟩
     obtain ⟨a1, m1, rfl⟩ := List.mem_map.1 hy
     obtain ⟨a2, m2, rfl⟩ := List.mem_map.1 hz
     intro ee
     simp only [Prod.mk.injEq] at ee
     rcases q5 a1 m1 with u1 | ⟨u1, u2⟩
     ·rcases r4 a2 m2 with v1 | ⟨v1, v2, v3⟩
      ·exact n3 (a1.b, a1.o) (List.mem_map_of_mem u1) (a2.b, a2.o) (List.mem_map_of_mem v1) (by rw [ee.1, ee.2])
      ·exact h7 a1 (mem_flatten_take u1) (by simp [Value.ownBlock, ee.1, v1])
     ·rcases r4 a2 m2 with v1 | ⟨v1, v2, v3⟩
      ·exact h7 a2 (hlm a2 v1) (by simp [Value.ownBlock, ← ee.1, u1])
      ·omega
    ·have e : (LL ++ [L]).flatten = LL.flatten ++ L := by simp
     rw [e]
     exact LvIn.app.2 ⟨q4, r3⟩
    ·have e : (LL ++ [L]).flatten = LL.flatten ++ L := by simp
     rw [e] at hy
     rcases List.mem_append.1 hy with hy | hy
     ·rcases q5 y hy with u1 | ⟨u1, u2⟩
      ·exact .inl (by rw [hnd]; exact List.mem_append_left _ u1)
      ·exact .inr ⟨u1, by rw [Nat.succ_mul]; omega⟩
     ·rcases r4 y hy with v1 | ⟨v1, v2, v3⟩
      ·exact .inl (by rw [hnd]; exact List.mem_append_right _ v1)
      ·exact .inr ⟨v1, by rw [Nat.succ_mul]; omega⟩
  obtain ⟨LL, q1, q2, q3, q4, q5⟩ := key xs.length (Nat.le_refl _)
  refine ⟨LL.flatten, ⟨some ⟨g, 0, none⟩, cap, LL, rfl, q1, rfl, .inr ⟨g, 0, rfl, fun i x l hx hl => q2 i x l (List.getElem?_eq_some_iff.1 hx).1 hx hl⟩⟩, q3, fun a ha => ?_, q4⟩
  rcases q5 a ha with u1 | ⟨u1, u2⟩
  ·exact h6.lo a (mem_flatten_take u1)
  ·rw [u1]; exact hb
theorem run_append_fr {P : Program} (w : World) (base : Nat) (t ty e : TypeId) (i : TypeInfo) (z : Value) (size bytes : Nat) (ht : P.underlying t = some (.slice e)) (hi : P.info? e = some i) (hz : i.zero = some z)
  (hsize : i.size = size) (hby : i.bytes = bytes) (hzs : z.cells.size = size) (hsz : 0 < size)
  (v : Value) (n : Nat) (xs : List Value) (hown : w.ownsRow base e size v n xs)
  (a : Addr) (m c : Nat) (news : List Value) (hl : news.length = m * size) (hnews : ∀ j u, news[j]? = some u → w.cell? (a.add j) = some u) (h1 : ∀ u ∈ news, u.oneCell' = true)
  (h63 : n + m ≤ maxLen) (hbytes : (n + m) * bytes ≤ 140737488355328) (hbase : base ≤ w.heap.size) :
  ∃ v' w', (Builtin.append_ #[t, t] ty #[v, .slice (some a) m c]).run P w = .ok v' w' ∧ w'.ownsRow base e size v' (n + m) (xs ++ news) ∧ w.grownBy w' v.ownBlock ∧ ∀ g, v'.ownBlock = some g → v.ownBlock = some g ∨ w.heap.size ≤ g := by
 obtain ⟨v', w', hr, h2, h3, -⟩ := run_append_own (P := P) w base t ty e i z size bytes ht hi hz hsize hby hzs hsz v n xs hown a m c news hl hnews h1 h63 hbytes hbase
 refine ⟨v', w', hr, h2, h3, fun g' hg' => ?_⟩
 rcases id hown.2 with ⟨rfl, rfl⟩ | ⟨g, cap, cur, rfl, hbg, hg, hnc, hcm, hcs, htake⟩
 ·have hx : xs = [] := List.eq_nil_of_length_eq_zero (by simpa using hown.1)
  subst hx
  obtain ⟨v2, w2, hr2, k2, -, -⟩ := run_append_own (P := P) w w.heap.size t ty e i z size bytes ht hi hz hsize hby hzs hsz (.slice none 0 0) 0 [] (World.ownsRow_nil w _ e size) a m c news hl hnews h1 h63 hbytes (Nat.le_refl _)
  rw [hr] at hr2
  simp only [Result.ok.injEq] at hr2
  obtain ⟨rfl, rfl⟩ := hr2
  exact .inr (k2.lt g' hg').1
 ·subst hsize
  subst hby
  by_cases hroom : n + m ≤ cap
  ·have hfit : n * i.size + news.length ≤ cur.size := by rw [hl, hcs, ← Nat.add_mul]; exact Nat.mul_le_mul_right _ hroom
   rw [run_append_room (P := P) w t ty e i ht hi g n cap cur hg a m c news hl hnews h1 hroom hfit] at hr
   simp only [Result.ok.injEq] at hr
   obtain ⟨rfl, -⟩ := hr
   exact .inl hg'
  ·have holds : ∀ j u, xs[j]? = some u → w.cell? ((⟨g, 0, none⟩ : Addr).add j) = some u := hown.cells (g := g) rfl
   rw [run_append_grow (P := P) w t ty e i z ht hi hz ⟨g, 0, none⟩ n cap xs hown.1 holds a m c news hl hnews (by omega) (by simp only [maxLen] at h63; omega) (growslice_fits (by omega) hbytes)] at hr
   simp only [Result.ok.injEq] at hr
   obtain ⟨rfl, -⟩ := hr
   simp only [Value.ownBlock, Option.some.injEq] at hg'
   exact .inr (by omega)
theorem wpList_append_fr {P : Program} {w : World} {ops : Array Oper} {rest : List Oper} {o : Oper} {a : Act} {Q : Exit → Act → World → Prop} (hgd : o.guard = none) (s x : Operand) (t : TypeId)
  (ho : o.op = .call { callee := .builtin .append, args := #[s, x], argTypes := #[t, t] })
  (base : Nat) (e : TypeId) (i : TypeInfo) (z : Value) (size bytes : Nat) (ht : P.underlying t = some (.slice e)) (hi : P.info? e = some i) (hz : i.zero = some z)
  (hsize : i.size = size) (hby : i.bytes = bytes) (hzs : z.cells.size = size) (hsz : 0 < size)
  (v : Value) (n : Nat) (xs : List Value) (hs : a.eval s = v) (hown : w.ownsRow base e size v n xs)
  (g m c : Nat) (news : List Value) (hx : a.eval x = .slice (some ⟨g, 0, none⟩) m c) (hl : news.length = m * size) (hnews : ∀ j u, news[j]? = some u → w.cell? ⟨g, j, none⟩ = some u) (h1 : ∀ u ∈ news, u.oneCell' = true)
  (h63 : n + m ≤ maxLen) (hbytes : (n + m) * bytes ≤ 140737488355328) (hbase : base ≤ w.heap.size)
  (h : ∀ v' w', w'.ownsRow base e size v' (n + m) (xs ++ news) → w.grownBy w' v.ownBlock → (∀ g, v'.ownBlock = some g → v.ownBlock = some g ∨ w.heap.size ≤ g) → wpList P ops Q rest (a.put o.dst v') w') : wpList P ops Q (o :: rest) a w := by
 obtain ⟨v', w', hr, h2, h3, h4⟩ := run_append_fr (P := P) w base t o.type e i z size bytes ht hi hz hsize hby hzs hsz v n xs hown ⟨g, 0, none⟩ m c news hl (fun j u hu => by rw [Addr.add_lit, Nat.zero_add]; exact hnews j u hu) h1 h63 hbytes hbase
 exact Lib.wpList_append_run w hgd s x t t ho _ _ hs hx _ _ hr (h v' w' h2 h3 h4)
theorem step_append_fr {P : Program} {w : World} {ops : Array Oper} {o : Oper} {a : Act} {K : Act → World → Prop} {Q : Exit → Act → World → Prop} {E : Prop} (hgd : o.guard = none) (s x : Operand) (t : TypeId)
  (ho : o.op = .call { callee := .builtin .append, args := #[s, x], argTypes := #[t, t] })
  (base : Nat) (e : TypeId) (i : TypeInfo) (z : Value) (size bytes : Nat) (ht : P.underlying t = some (.slice e)) (hi : P.info? e = some i) (hz : i.zero = some z)
  (hsize : i.size = size) (hby : i.bytes = bytes) (hzs : z.cells.size = size) (hsz : 0 < size)
  (v : Value) (n : Nat) (xs : List Value) (hs : a.eval s = v) (hown : w.ownsRow base e size v n xs)
  (g m c : Nat) (news : List Value) (hx : a.eval x = .slice (some ⟨g, 0, none⟩) m c) (hl : news.length = m * size) (hnews : ∀ j u, news[j]? = some u → w.cell? ⟨g, j, none⟩ = some u) (h1 : ∀ u ∈ news, u.oneCell' = true)
  (h63 : n + m ≤ maxLen) (hbytes : (n + m) * bytes ≤ 140737488355328) (hbase : base ≤ w.heap.size)
  (h : ∀ v' w', w'.ownsRow base e size v' (n + m) (xs ++ news) → w.grownBy w' v.ownBlock → (∀ g, v'.ownBlock = some g → v.ownBlock = some g ∨ w.heap.size ≤ g) → K (a.put o.dst v') w') :
  if Region.wanted o (yielded ops a.tmps) = true then Oper.wp P o a w K Q else E := by
 have hw : Region.wanted o (yielded ops a.tmps) = true := by simp [Region.wanted, hgd]
 rw [if_pos hw]
 obtain ⟨v', w', hr, h2, h3, h4⟩ := run_append_fr (P := P) w base t o.type e i z size bytes ht hi hz hsize hby hzs hsz v n xs hown ⟨g, 0, none⟩ m c news hl (fun j u hu => by rw [Addr.add_lit, Nat.zero_add]; exact hnews j u hu) h1 h63 hbytes hbase
 exact Lib.wp_append_run w s x t t ho _ _ hs hx _ _ hr (h v' w' h2 h3 h4)
theorem row_lv {kd : IntKind} {e : TypeId} {B : Nat} {w : World} {p : Option Addr} {n c : Nat} {l : List Int} (h : w.ownsRow B e 1 (.slice p n c) l.length (l.map (Value.int kd))) : ∃ A, LvL (LvI kd) 1 (.slice p n c) l A ∧ Apt B w A ∧ A.length = l.length ∧ ∀ a ∈ A, (Value.slice p n c).ownBlock = some a.b := by
 rcases id h.2 with ⟨ee, h0⟩ | ⟨g, cap, cur, ee, hb, hg, hr⟩
 ·simp only [Value.slice.injEq] at ee
  obtain ⟨rfl, rfl, rfl⟩ := ee
  have e0 := List.length_eq_zero_iff.1 h0
  subst e0
  exact ⟨[], ⟨none, 0, [], rfl, rfl, rfl, .inl rfl⟩, Apt.nil _ _, rfl, fun a ha => by simp at ha⟩
 ·simp only [Value.slice.injEq] at ee
  obtain ⟨rfl, rfl, rfl⟩ := ee
  refine ⟨(List.range l.length).map fun i => ⟨g, 0 + i, kd⟩, ⟨some ⟨g, 0, none⟩, c, (List.range l.length).map fun i => [⟨g, 0 + i, kd⟩], rfl, by simp, ?_, .inr ⟨g, 0, rfl, fun i x l' hx hl => ?_⟩⟩, ⟨?_, fun a ha => ?_, fun a ha => ?_⟩, by simp, fun a ha => ?_⟩
  ·induction (List.range l.length) with
   | nil => rfl
   | cons i r ih => rw [List.map_cons, List.map_cons, List.flatten_cons, ← ih]; rfl
  ·obtain ⟨hi, e⟩ := List.getElem?_eq_some_iff.1 hl
   simp at e
   rw [← e, Nat.mul_one, Nat.zero_add]
   rfl
  ·rw [List.map_map, List.Nodup, List.pairwise_map]
   exact List.nodup_range.imp (fun {i j} hij => by simpa using hij)
  ·obtain ⟨i, hi, rfl⟩ := List.mem_map.1 ha
   exact hb
  ·obtain ⟨i, hi, rfl⟩ := List.mem_map.1 ha
   have hi' : i < l.length := by simpa using hi
   refine ⟨⟨l[i], ?_⟩, by simp [World.frozen?, hg]⟩
   have := World.ownsRow.cellAt h i (by omega)
   simp only [Nat.zero_add]
   rw [this]
   simp [hi']
  ·obtain ⟨i, hi, rfl⟩ := List.mem_map.1 ha
   rfl
def elU (w : World) (x : Int) (c : List Value) (l : List Lf) : Prop := c = [.int .u64 x] ∧ l = []
theorem elU.keep (w w' : World) (x : Int) (c : List Value) (l : List Lf) (h : elU w x c l) (_ : ∀ a ∈ l, w'.heap[a.b]? = w.heap[a.b]?) : elU w' x c l := h
theorem Rd.keepLv {w w' : World} {v : Value} {xs : List Int} {A : List Lf} (h : Rd w v xs) (hl : LvB v xs A) (hk : ∀ a ∈ A, w'.heap[a.b]? = w.heap[a.b]?) : Rd w' v xs := by
 obtain ⟨p, c, rfl, hd⟩ := h
 refine ⟨p, c, rfl, ?_⟩
 rcases hd with hd | ⟨b, o, rfl, hd⟩
 ·exact .inl hd
 ·refine .inr ⟨b, o, rfl, fun i hi => ?_⟩
  obtain ⟨Ls, en, lL, eA, hat⟩ := hl.at
  obtain ⟨b', o', x, l, e1, -, hl', hP, -, hsub⟩ := hat i hi
  simp only [Option.some.injEq, Addr.mk.injEq, and_true] at e1
  obtain ⟨rfl, rfl⟩ := e1
  have : w'.heap[b]? = w.heap[b]? := hk ⟨b, o + i * 1, .u8⟩ (hsub _ (by rw [show l = _ from hP]; simp))
  exact (cell_at_heap this _).trans (hd i hi)
theorem RdU.keepLv {w w' : World} {v : Value} {xs : List Int} {A : List Lf} (h : RdU w v xs) (hl : LvU v xs A) (hk : ∀ a ∈ A, w'.heap[a.b]? = w.heap[a.b]?) : RdU w' v xs := by
 obtain ⟨p, c, rfl, hd⟩ := h
 refine ⟨p, c, rfl, ?_⟩
 rcases hd with hd | ⟨b, o, rfl, hd⟩
 ·exact .inl hd
 ·refine .inr ⟨b, o, rfl, fun i hi => ?_⟩
  obtain ⟨Ls, en, lL, eA, hat⟩ := hl.at
  obtain ⟨b', o', x, l, e1, -, hl', hP, -, hsub⟩ := hat i hi
  simp only [Option.some.injEq, Addr.mk.injEq, and_true] at e1
  obtain ⟨rfl, rfl⟩ := e1
  have : w'.heap[b]? = w.heap[b]? := hk ⟨b, o + i * 1, .u64⟩ (hsub _ (by rw [show l = _ from hP]; simp))
  exact (cell_at_heap this _).trans (hd i hi)
def elEv (w : World) (x : Ev) (c : List Value) (l : List Lf) : Prop :=
 ∃ p cc, c = [.int .i64 x.1, .slice p x.2.length cc] ∧ Rd w (.slice p x.2.length cc) x.2 ∧ CapOK (.slice p x.2.length cc) ∧ LvB (.slice p x.2.length cc) x.2 l
theorem elEv.keep (w w' : World) (x : Ev) (c : List Value) (l : List Lf) (h : elEv w x c l) (hk : ∀ a ∈ l, w'.heap[a.b]? = w.heap[a.b]?) : elEv w' x c l := by
 obtain ⟨p, cc, h1, h2, h3, h4⟩ := h
 exact ⟨p, cc, h1, h2.keepLv h4 hk, h3, h4⟩
theorem LvE.keep {w w' : World} {v : Value} {xs : List Ev} {A : List Lf} (h : LvE w v xs A) (hk : ∀ a ∈ A, w'.heap[a.b]? = w.heap[a.b]?) : LvE w' v xs A := by
 refine h.imp fun x b a l hx hsub hP => ?_
 obtain ⟨p, c, lb, h1, h2, h3⟩ := hP
 refine ⟨p, c, lb, h1, ?_, h3⟩
 have : w'.heap[b]? = w.heap[b]? := hk ⟨b, a, .i64⟩ (hsub _ (by rw [h1]; simp))
 exact (cell_at_heap this _).trans h2
theorem RdEc.keepLv {w w' : World} {v : Value} {xs : List Ev} {A : List Lf} (h : RdEc w v xs) (hl : LvE w v xs A) (hk : ∀ a ∈ A, w'.heap[a.b]? = w.heap[a.b]?) : RdEc w' v xs := by
 obtain ⟨p, c, rfl, hd⟩ := h
 refine ⟨p, c, rfl, ?_⟩
 rcases hd with hd | ⟨b, o, rfl, hd⟩
 ·exact .inl hd
 ·refine .inr ⟨b, o, rfl, fun i e he => ?_⟩
  obtain ⟨Ls, en, lL, eA, hat⟩ := hl.at
  obtain ⟨b', o', x, l, e1, hx, hl', hP, -, hsub⟩ := hat i (List.getElem?_eq_some_iff.1 he).1
  simp only [Option.some.injEq, Addr.mk.injEq, and_true] at e1
  obtain ⟨rfl, rfl⟩ := e1
  rw [he] at hx
  cases hx
  obtain ⟨q, cc, lb, e2, h2, h3⟩ := hP
  have hb : w'.heap[b]? = w.heap[b]? := hk ⟨b, o + i * 2, .i64⟩ (hsub _ (by rw [e2]; simp))
  obtain ⟨r1, u, r2, r3, r4⟩ := hd i e he
  have : u = .slice q e.2.length cc := by rw [h2] at r2; exact (Option.some.inj r2).symm
  subst this
  exact ⟨(cell_at_heap hb _).trans r1, _, (cell_at_heap hb _).trans r2, r3.keepLv h3 (fun a ha => hk a (hsub a (by rw [e2]; simp [ha]))), r4⟩
def elSe (w : World) (x : Ses) (c : List Value) (l : List Lf) : Prop :=
 ∃ p cc, c = [.int .u64 x.1, .int .i64 x.2.1, .slice p x.2.2.length cc] ∧ RdEc w (.slice p x.2.2.length cc) x.2.2 ∧ LvE w (.slice p x.2.2.length cc) x.2.2 l
theorem elSe.keep (w w' : World) (x : Ses) (c : List Value) (l : List Lf) (h : elSe w x c l) (hk : ∀ a ∈ l, w'.heap[a.b]? = w.heap[a.b]?) : elSe w' x c l := by
 obtain ⟨p, cc, h1, h2, h3⟩ := h
 exact ⟨p, cc, h1, h2.keepLv h3 hk, LvE.keep h3 hk⟩
def elNo (w : World) (x : Nod) (c : List Value) (l : List Lf) : Prop :=
 ∃ p0 c0 p1 c1 p4 c4 p7 c7 l0 l1 l4 l7, l = l0 ++ (l1 ++ (l4 ++ l7)) ∧ c = [.slice p0 x.path.length c0, .slice p1 x.value.length c1, .int .u64 x.owner, .int .i64 x.mode, .slice p4 x.holders.length c4, .int .u64 x.epoch, .int .u64 x.gen, .slice p7 x.watchers.length c7] ∧
  (Rd w (.slice p0 x.path.length c0) x.path ∧ CapOK (.slice p0 x.path.length c0) ∧ LvB (.slice p0 x.path.length c0) x.path l0) ∧ (Rd w (.slice p1 x.value.length c1) x.value ∧ LvB (.slice p1 x.value.length c1) x.value l1) ∧
  (RdU w (.slice p4 x.holders.length c4) x.holders ∧ LvU (.slice p4 x.holders.length c4) x.holders l4) ∧ (RdU w (.slice p7 x.watchers.length c7) x.watchers ∧ LvU (.slice p7 x.watchers.length c7) x.watchers l7)
theorem elNo.keep (w w' : World) (x : Nod) (c : List Value) (l : List Lf) (h : elNo w x c l) (hk : ∀ a ∈ l, w'.heap[a.b]? = w.heap[a.b]?) : elNo w' x c l := by
 obtain ⟨p0, c0, p1, c1, p4, c4, p7, c7, l0, l1, l4, l7, rfl, h2, ⟨h3, h4, h5⟩, ⟨h6, h7⟩, ⟨h8, h9⟩, ⟨h10, h11⟩⟩ := h
 exact ⟨p0, c0, p1, c1, p4, c4, p7, c7, l0, l1, l4, l7, rfl, h2, ⟨h3.keepLv h5 (fun a ha => hk a (by simp [ha])), h4, h5⟩, ⟨h6.keepLv h7 (fun a ha => hk a (by simp [ha])), h7⟩, ⟨h8.keepLv h9 (fun a ha => hk a (by simp [ha])), h9⟩, ⟨h10.keepLv h11 (fun a ha => hk a (by simp [ha])), h11⟩⟩
end Go.Proofs.YtpbppdeleijhkaaGreatDoor
