import Derived.Test.YtnbgnhhnpmmloaaGreatDoorK16
namespace Go.Proofs.YtnbgnhhnpmmloaaGreatDoor
open Go.ChangeShapes Go.WideShapes Go.ChangeAt Go.RowKit
set_option linter.unusedVariables false
set_option linter.unusedSimpArgs false
set_option maxRecDepth 100000
theorem run_append_fr {P : Program} (w : World) (base : Nat) (t ty e : TypeId) (i : TypeInfo) (z : Value) (size bytes : Nat) (ht : P.underlying t = some (.slice e)) (hi : P.info? e = some i) (hz : i.zero = some z)
  (hsize : i.size = size) (hby : i.bytes = bytes) (hzs : z.cells.size = size) (hsz : 0 < size)
  (v : Value) (n : Nat) (xs : List Value) (hown : w.ownsRow base e size v n xs)
  (a : Addr) (m c : Nat) (news : List Value) (hl : news.length = m * size) (hnews : ∀ j u, news[j]? = some u → w.cell? (a.add j) = some u) (h1 : ∀ u ∈ news, u.oneCell' = true)
  (h63 : n + m ≤ maxLen) (hbytes : (n + m) * bytes ≤ 140737488355328) (hbase : base ≤ w.heap.size) :
  ∃ v' w', (Builtin.append_ #[t, t] ty #[v, .slice (some a) m c]).run P w = .ok v' w' ∧ w'.ownsRow base e size v' (n + m) (xs ++ news) ∧ w.grownBy w' v.ownBlock ∧ ∀ g, v'.ownBlock = some g → v.ownBlock = some g ∨ w.heap.size ≤ g := by
 obtain ⟨v', w', hr, h2, h3, -⟩ := run_append_own (P := P) w base t ty e i z size bytes ht hi hz hsize hby hzs hsz v n xs hown a m c news hl hnews h1 h63 hbytes hbase
 refine ⟨v', w', hr, h2, h3, fun g' hg' => ?_⟩
 rcases id hown.2 with ⟨rfl, rfl⟩ | ⟨g, cap, cur, rfl, hbg, hg, hnc, hcm, hcs, htake⟩
 ·have hx : xs = [] := List.eq_nil_of_length_eq_zero (by simpa using hown.1)
  subst hx
  obtain ⟨v2, w2, hr2, k2, -, -⟩ := run_append_own (P := P) w w.heap.size t ty e i z size bytes ht hi hz hsize hby hzs hsz (.slice none 0 0) 0 [] (World.ownsRow_nil w _ e size) a m c news hl hnews h1 h63 hbytes (Nat.le_refl _)
  rw [hr] at hr2
  simp only [Result.ok.injEq] at hr2
  obtain ⟨rfl, rfl⟩ := hr2
  exact .inr (k2.lt g' hg').1
 ·subst hsize
  subst hby
  by_cases hroom : n + m ≤ cap
  ·have hfit : n * i.size + news.length ≤ cur.size := by rw [hl, hcs, ← Nat.add_mul]; exact Nat.mul_le_mul_right _ hroom
   rw [run_append_room (P := P) w t ty e i ht hi g n cap cur hg a m c news hl hnews h1 hroom hfit] at hr
   simp only [Result.ok.injEq] at hr
   obtain ⟨rfl, -⟩ := hr
   exact .inl hg'
  ·have holds : ∀ j u, xs[j]? = some u → w.cell? ((⟨g, 0, none⟩ : Addr).add j) = some u := hown.cells (g := g) rfl
   rw [run_append_grow (P := P) w t ty e i z ht hi hz ⟨g, 0, none⟩ n cap xs hown.1 holds a m c news hl hnews (by omega) (by simp only [maxLen] at h63; omega) (growslice_fits (by omega) hbytes)] at hr
   simp only [Result.ok.injEq] at hr
   obtain ⟨rfl, -⟩ := hr
   simp only [Value.ownBlock, Option.some.injEq] at hg'
   exact .inr (by omega)
theorem wpList_append_fr {P : Program} {w : World} {ops : Array Oper} {rest : List Oper} {o : Oper} {a : Act} {Q : Exit → Act → World → Prop} (hgd : o.guard = none) (s x : Operand) (t : TypeId)
  (ho : o.op = .call { callee := .builtin .append, args := #[s, x], argTypes := #[t, t] })
  (base : Nat) (e : TypeId) (i : TypeInfo) (z : Value) (size bytes : Nat) (ht : P.underlying t = some (.slice e)) (hi : P.info? e = some i) (hz : i.zero = some z)
  (hsize : i.size = size) (hby : i.bytes = bytes) (hzs : z.cells.size = size) (hsz : 0 < size)
  (v : Value) (n : Nat) (xs : List Value) (hs : a.eval s = v) (hown : w.ownsRow base e size v n xs)
  (g m c : Nat) (news : List Value) (hx : a.eval x = .slice (some ⟨g, 0, none⟩) m c) (hl : news.length = m * size) (hnews : ∀ j u, news[j]? = some u → w.cell? ⟨g, j, none⟩ = some u) (h1 : ∀ u ∈ news, u.oneCell' = true)
  (h63 : n + m ≤ maxLen) (hbytes : (n + m) * bytes ≤ 140737488355328) (hbase : base ≤ w.heap.size)
  (h : ∀ v' w', w'.ownsRow base e size v' (n + m) (xs ++ news) → w.grownBy w' v.ownBlock → (∀ g, v'.ownBlock = some g → v.ownBlock = some g ∨ w.heap.size ≤ g) → wpList P ops Q rest (a.put o.dst v') w') : wpList P ops Q (o :: rest) a w := by
 obtain ⟨v', w', hr, h2, h3, h4⟩ := run_append_fr (P := P) w base t o.type e i z size bytes ht hi hz hsize hby hzs hsz v n xs hown ⟨g, 0, none⟩ m c news hl (fun j u hu => by rw [Addr.add_lit, Nat.zero_add]; exact hnews j u hu) h1 h63 hbytes hbase
 exact Lib.wpList_append_run w hgd s x t t ho _ _ hs hx _ _ hr (h v' w' h2 h3 h4)
theorem step_append_fr {P : Program} {w : World} {ops : Array Oper} {o : Oper} {a : Act} {K : Act → World → Prop} {Q : Exit → Act → World → Prop} {E : Prop} (hgd : o.guard = none) (s x : Operand) (t : TypeId)
  (ho : o.op = .call { callee := .builtin .append, args := #[s, x], argTypes := #[t, t] })
  (base : Nat) (e : TypeId) (i : TypeInfo) (z : Value) (size bytes : Nat) (ht : P.underlying t = some (.slice e)) (hi : P.info? e = some i) (hz : i.zero = some z)
  (hsize : i.size = size) (hby : i.bytes = bytes) (hzs : z.cells.size = size) (hsz : 0 < size)
  (v : Value) (n : Nat) (xs : List Value) (hs : a.eval s = v) (hown : w.ownsRow base e size v n xs)
  (g m c : Nat) (news : List Value) (hx : a.eval x = .slice (some ⟨g, 0, none⟩) m c) (hl : news.length = m * size) (hnews : ∀ j u, news[j]? = some u → w.cell? ⟨g, j, none⟩ = some u) (h1 : ∀ u ∈ news, u.oneCell' = true)
  (h63 : n + m ≤ maxLen) (hbytes : (n + m) * bytes ≤ 140737488355328) (hbase : base ≤ w.heap.size)
  (h : ∀ v' w', w'.ownsRow base e size v' (n + m) (xs ++ news) → w.grownBy w' v.ownBlock → (∀ g, v'.ownBlock = some g → v.ownBlock = some g ∨ w.heap.size ≤ g) → K (a.put o.dst v') w') :
  if Region.wanted o (yielded ops a.tmps) = true then Oper.wp P o a w K Q else E := by
 have hw : Region.wanted o (yielded ops a.tmps) = true := by simp [Region.wanted, hgd]
 rw [if_pos hw]
 obtain ⟨v', w', hr, h2, h3, h4⟩ := run_append_fr (P := P) w base t o.type e i z size bytes ht hi hz hsize hby hzs hsz v n xs hown ⟨g, 0, none⟩ m c news hl (fun j u hu => by rw [Addr.add_lit, Nat.zero_add]; exact hnews j u hu) h1 h63 hbytes hbase
 exact Lib.wp_append_run w s x t t ho _ _ hs hx _ _ hr (h v' w' h2 h3 h4)
theorem row_lv {kd : IntKind} {e : TypeId} {B : Nat} {w : World} {p : Option Addr} {n c : Nat} {l : List Int} (h : w.ownsRow B e 1 (.slice p n c) l.length (l.map (Value.int kd))) : ∃ A, LvL (LvI kd) 1 (.slice p n c) l A ∧ Apt B w A ∧ A.length = l.length ∧ ∀ a ∈ A, (Value.slice p n c).ownBlock = some a.b := by
 rcases id h.2 with ⟨ee, h0⟩ | ⟨g, cap, cur, ee, hb, hg, hr⟩
 ·simp only [Value.slice.injEq] at ee
  obtain ⟨rfl, rfl, rfl⟩ := ee
  have e0 := List.length_eq_zero_iff.1 h0
  subst e0
  exact ⟨[], ⟨none, 0, [], rfl, rfl, rfl, .inl rfl⟩, Apt.nil _ _, rfl, fun a ha => by simp at ha⟩
 ·simp only [Value.slice.injEq] at ee
  obtain ⟨rfl, rfl, rfl⟩ := ee
  refine ⟨(List.range l.length).map fun i => ⟨g, 0 + i, kd⟩, ⟨some ⟨g, 0, none⟩, c, (List.range l.length).map fun i => [⟨g, 0 + i, kd⟩], rfl, by simp, ?_, .inr ⟨g, 0, rfl, fun i x l' hx hl => ?_⟩⟩, ⟨?_, fun a ha => ?_, fun a ha => ?_⟩, by simp, fun a ha => ?_⟩
  ·induction (List.range l.length) with
   | nil => rfl
   | cons i r ih => rw [List.map_cons, List.map_cons, List.flatten_cons, ← ih]; rfl
  ·obtain ⟨hi, e⟩ := List.getElem?_eq_some_iff.1 hl
   simp at e
   rw [← e, Nat.mul_one, Nat.zero_add]
   rfl
  ·rw [List.map_map, List.Nodup, List.pairwise_map]
   exact List.nodup_range.imp (fun {i j} hij => by simpa using hij)
  ·obtain ⟨i, hi, rfl⟩ := List.mem_map.1 ha
   exact hb
  ·obtain ⟨i, hi, rfl⟩ := List.mem_map.1 ha
   have hi' : i < l.length := by simpa using hi
   refine ⟨⟨l[i], ?_⟩, by simp [World.frozen?, hg]⟩
   have := World.ownsRow.cellAt h i (by omega)
   simp only [Nat.zero_add]
   rw [this]
   simp [hi']
  ·obtain ⟨i, hi, rfl⟩ := List.mem_map.1 ha
   rfl
def elU (w : World) (x : Int) (c : List Value) (l : List Lf) : Prop := c = [.int .u64 x] ∧ l = []
theorem elU.keep (w w' : World) (x : Int) (c : List Value) (l : List Lf) (h : elU w x c l) (_ : ∀ a ∈ l, w'.heap[a.b]? = w.heap[a.b]?) : elU w' x c l := h
theorem Rd.keepLv {w w' : World} {v : Value} {xs : List Int} {A : List Lf} (h : Rd w v xs) (hl : LvB v xs A) (hk : ∀ a ∈ A, w'.heap[a.b]? = w.heap[a.b]?) : Rd w' v xs := by
 obtain ⟨p, c, rfl, hd⟩ := h
 refine ⟨p, c, rfl, ?_⟩
 rcases hd with hd | ⟨b, o, rfl, hd⟩
 ·exact .inl hd
 ·refine .inr ⟨b, o, rfl, fun i hi => ?_⟩
  obtain ⟨Ls, en, lL, eA, hat⟩ := hl.at
  obtain ⟨b', o', x, l, e1, -, hl', hP, -, hsub⟩ := hat i hi
  simp only [Option.some.injEq, Addr.mk.injEq, and_true] at e1
  obtain ⟨rfl, rfl⟩ := e1
  have : w'.heap[b]? = w.heap[b]? := hk ⟨b, o + i * 1, .u8⟩ (hsub _ (by rw [show l = _ from hP]; simp))
  exact (cell_at_heap this _).trans (hd i hi)
theorem RdU.keepLv {w w' : World} {v : Value} {xs : List Int} {A : List Lf} (h : RdU w v xs) (hl : LvU v xs A) (hk : ∀ a ∈ A, w'.heap[a.b]? = w.heap[a.b]?) : RdU w' v xs := by
 obtain ⟨p, c, rfl, hd⟩ := h
 refine ⟨p, c, rfl, ?_⟩
 rcases hd with hd | ⟨b, o, rfl, hd⟩
 ·exact .inl hd
 ·refine .inr ⟨b, o, rfl, fun i hi => ?_⟩
  obtain ⟨Ls, en, lL, eA, hat⟩ := hl.at
  obtain ⟨b', o', x, l, e1, -, hl', hP, -, hsub⟩ := hat i hi
  simp only [Option.some.injEq, Addr.mk.injEq, and_true] at e1
  obtain ⟨rfl, rfl⟩ := e1
  have : w'.heap[b]? = w.heap[b]? := hk ⟨b, o + i * 1, .u64⟩ (hsub _ (by rw [show l = _ from hP]; simp))
  exact (cell_at_heap this _).trans (hd i hi)
def elEv (w : World) (x : Ev) (c : List Value) (l : List Lf) : Prop :=
 ∃ p cc, c = [.int .i64 x.1, .slice p x.2.length cc] ∧ Rd w (.slice p x.2.length cc) x.2 ∧ CapOK (.slice p x.2.length cc) ∧ LvB (.slice p x.2.length cc) x.2 l
theorem elEv.keep (w w' : World) (x : Ev) (c : List Value) (l : List Lf) (h : elEv w x c l) (hk : ∀ a ∈ l, w'.heap[a.b]? = w.heap[a.b]?) : elEv w' x c l := by
 obtain ⟨p, cc, h1, h2, h3, h4⟩ := h
 exact ⟨p, cc, h1, h2.keepLv h4 hk, h3, h4⟩
theorem LvE.keep {w w' : World} {v : Value} {xs : List Ev} {A : List Lf} (h : LvE w v xs A) (hk : ∀ a ∈ A, w'.heap[a.b]? = w.heap[a.b]?) : LvE w' v xs A := by
 refine h.imp fun x b a l hx hsub hP => ?_
 obtain ⟨p, c, lb, h1, h2, h3⟩ := hP
 refine ⟨p, c, lb, h1, ?_, h3⟩
 have : w'.heap[b]? = w.heap[b]? := hk ⟨b, a, .i64⟩ (hsub _ (by rw [h1]; simp))
 exact (cell_at_heap this _).trans h2
theorem RdEc.keepLv {w w' : World} {v : Value} {xs : List Ev} {A : List Lf} (h : RdEc w v xs) (hl : LvE w v xs A) (hk : ∀ a ∈ A, w'.heap[a.b]? = w.heap[a.b]?) : RdEc w' v xs := by
 obtain ⟨p, c, rfl, hd⟩ := h
 refine ⟨p, c, rfl, ?_⟩
 rcases hd with hd | ⟨b, o, rfl, hd⟩
 ·exact .inl hd
 ·refine .inr ⟨b, o, rfl, fun i e he => ?_⟩
  obtain ⟨Ls, en, lL, eA, hat⟩ := hl.at
  obtain ⟨b', o', x, l, e1, hx, hl', hP, -, hsub⟩ := hat i (List.getElem?_eq_some_iff.1 he).1
  simp only [Option.some.injEq, Addr.mk.injEq, and_true] at e1
  obtain ⟨rfl, rfl⟩ := e1
  rw [he] at hx
  cases hx
  obtain ⟨q, cc, lb, e2, h2, h3⟩ := hP
  have hb : w'.heap[b]? = w.heap[b]? := hk ⟨b, o + i * 2, .i64⟩ (hsub _ (by rw [e2]; simp))
  obtain ⟨r1, u, r2, r3, r4⟩ := hd i e he
  have : u = .slice q e.2.length cc := by rw [h2] at r2; exact (Option.some.inj r2).symm
  subst this
  exact ⟨(cell_at_heap hb _).trans r1, _, (cell_at_heap hb _).trans r2, r3.keepLv h3 (fun a ha => hk a (hsub a (by rw [e2]; simp [ha]))), r4⟩
def elSe (w : World) (x : Ses) (c : List Value) (l : List Lf) : Prop :=
 ∃ p cc, c = [.int .u64 x.1, .int .i64 x.2.1, .slice p x.2.2.length cc] ∧ RdEc w (.slice p x.2.2.length cc) x.2.2 ∧ LvE w (.slice p x.2.2.length cc) x.2.2 l
theorem elSe.keep (w w' : World) (x : Ses) (c : List Value) (l : List Lf) (h : elSe w x c l) (hk : ∀ a ∈ l, w'.heap[a.b]? = w.heap[a.b]?) : elSe w' x c l := by
 obtain ⟨p, cc, h1, h2, h3⟩ := h
 exact ⟨p, cc, h1, h2.keepLv h3 hk, LvE.keep h3 hk⟩
def elNo (w : World) (x : Nod) (c : List Value) (l : List Lf) : Prop :=
 ∃ p0 c0 p1 c1 p4 c4 p7 c7 l0 l1 l4 l7, l = l0 ++ (l1 ++ (l4 ++ l7)) ∧ c = [.slice p0 x.path.length c0, .slice p1 x.value.length c1, .int .u64 x.owner, .int .i64 x.mode, .slice p4 x.holders.length c4, .int .u64 x.epoch, .int .u64 x.gen, .slice p7 x.watchers.length c7] ∧
  (Rd w (.slice p0 x.path.length c0) x.path ∧ CapOK (.slice p0 x.path.length c0) ∧ LvB (.slice p0 x.path.length c0) x.path l0) ∧ (Rd w (.slice p1 x.value.length c1) x.value ∧ LvB (.slice p1 x.value.length c1) x.value l1) ∧
  (RdU w (.slice p4 x.holders.length c4) x.holders ∧ LvU (.slice p4 x.holders.length c4) x.holders l4) ∧ (RdU w (.slice p7 x.watchers.length c7) x.watchers ∧ LvU (.slice p7 x.watchers.length c7) x.watchers l7)
theorem elNo.keep (w w' : World) (x : Nod) (c : List Value) (l : List Lf) (h : elNo w x c l) (hk : ∀ a ∈ l, w'.heap[a.b]? = w.heap[a.b]?) : elNo w' x c l := by
 obtain ⟨p0, c0, p1, c1, p4, c4, p7, c7, l0, l1, l4, l7, rfl, h2, ⟨h3, h4, h5⟩, ⟨h6, h7⟩, ⟨h8, h9⟩, ⟨h10, h11⟩⟩ := h
 exact ⟨p0, c0, p1, c1, p4, c4, p7, c7, l0, l1, l4, l7, rfl, h2, ⟨h3.keepLv h5 (fun a ha => hk a (by simp [ha])), h4, h5⟩, ⟨h6.keepLv h7 (fun a ha => hk a (by simp [ha])), h7⟩, ⟨h8.keepLv h9 (fun a ha => hk a (by simp [ha])), h9⟩, ⟨h10.keepLv h11 (fun a ha => hk a (by simp [ha])), h11⟩⟩
theorem OwnT.read {α : Type} {el : World → α → List Value → List Lf → Prop} {ty : TypeId} {sz B : Nat} {w : World} {v : Value} {xs : List α} {Ls : List (List Lf)} (h : OwnT el ty sz B w v xs Ls) :
  ∃ p cap, v = .slice p xs.length cap ∧ (xs = [] ∨ ∃ g, p = some ⟨g, 0, none⟩ ∧ ∀ (i : Nat) (x : α), xs[i]? = some x → ∃ c l, el w x c l ∧ ∀ (j : Nat) (u : Value), c[j]? = some u → w.cell? ⟨g, 0 + i * sz + j, none⟩ = some u) := by
 obtain ⟨cs, h1, h2, h3, h4, h5, h6, h7⟩ := h
 rcases id h4.2 with ⟨rfl, h0⟩ | ⟨g, cap, cur, rfl, hb, hg, -, -, -, -⟩
 ·exact ⟨none, 0, by rw [h0], .inl (List.length_eq_zero_iff.1 h0)⟩
 ·refine ⟨_, cap, rfl, .inr ⟨g, rfl, fun i x hx => ?_⟩⟩
  have hi := (List.getElem?_eq_some_iff.1 hx).1
  obtain ⟨c, hc⟩ : ∃ x, cs[i]? = some x := ⟨_, List.getElem?_eq_getElem (by omega)⟩
  obtain ⟨l, hl⟩ : ∃ x, Ls[i]? = some x := ⟨_, List.getElem?_eq_getElem (by omega)⟩
  refine ⟨c, l, h5 i x c l hx hc hl, fun j u hu => ?_⟩
  have hlen : c.length = sz := h3 c (List.mem_of_getElem? hc)
  have hj : j < sz := by have := (List.getElem?_eq_some_iff.1 hu).1; omega
  have hks : i * sz + sz ≤ xs.length * sz := by rw [← Nat.succ_mul]; exact Nat.mul_le_mul_right _ hi
  rw [Nat.zero_add, h4.cellAt (i * sz + j) (by omega), flat_get h3 hc hj]
  exact hu
theorem OwnT.ev {B : Nat} {w : World} {v : Value} {es : List Ev} {Ls : List (List Lf)} (h : OwnT elEv 147 2 B w v es Ls) : RdEc w v es ∧ ∃ A, LvE w v es A ∧ Apt B w A := by
 refine ⟨?_, h.lv (LvEv w) fun x c l b a hel hc hf hne hin hnd => ?_⟩
 ·obtain ⟨p, cap, rfl, hd⟩ := h.read
  refine ⟨p, cap, rfl, ?_⟩
  rcases hd with hd | ⟨g, rfl, hd⟩
  ·exact .inl hd
  ·refine .inr ⟨g, 0, rfl, fun i e he => ?_⟩
   obtain ⟨c, l, ⟨p', cc, rfl, h2, h3, h4⟩, hcell⟩ := hd i e he
   exact ⟨hcell 0 _ rfl, _, hcell 1 _ rfl, h2, h3⟩
 ·obtain ⟨p', cc, rfl, h2, h3, h4⟩ := hel
  refine ⟨⟨b, a, .i64⟩ :: l, ⟨p', cc, l, rfl, hc 1 _ rfl, h4⟩, ?_, ?_, fun y hy => ?_⟩
  ·rw [List.map_cons, List.nodup_cons]
   refine ⟨fun hm => ?_, hnd⟩
   obtain ⟨y, hy, e⟩ := List.mem_map.1 hm
   simp only [Prod.mk.injEq] at e
   exact hne y hy e.1
  ·intro y hy
   rcases List.mem_cons.1 hy with rfl | hy
   ·exact ⟨⟨_, hc 0 _ rfl⟩, hf _⟩
   ·exact hin y hy
  ·rcases List.mem_cons.1 hy with rfl | hy
   ·exact .inr ⟨rfl, by simp, by simp⟩
   ·exact .inl hy
theorem OwnT.se {B : Nat} {w : World} {v : Value} {es : List Ses} {Ls : List (List Lf)} (h : OwnT elSe 59 3 B w v es Ls) : RdSc w v es ∧ ∃ A, LvS w v es A ∧ Apt B w A := by
 refine ⟨?_, h.lv (LvSe w) fun x c l b a hel hc hf hne hin hnd => ?_⟩
 ·obtain ⟨p, cap, rfl, hd⟩ := h.read
  refine ⟨p, cap, rfl, ?_⟩
  rcases hd with hd | ⟨g, rfl, hd⟩
  ·exact .inl hd
  ·refine .inr ⟨g, 0, rfl, fun i e he => ?_⟩
   obtain ⟨c, l, ⟨p', cc, rfl, h2, h3⟩, hcell⟩ := hd i e he
   exact ⟨hcell 0 _ rfl, hcell 1 _ rfl, _, hcell 2 _ rfl, h2⟩
 ·obtain ⟨p', cc, rfl, h2, h3⟩ := hel
  refine ⟨⟨b, a, .u64⟩ :: ⟨b, a + 1, .i64⟩ :: l, ⟨p', cc, l, rfl, hc 2 _ rfl, h3⟩, ?_, ?_, fun y hy => ?_⟩
  ·rw [List.map_cons, List.nodup_cons, List.map_cons, List.nodup_cons]
   refine ⟨fun hm => ?_, fun hm => ?_, hnd⟩
   ·rcases List.mem_cons.1 hm with e | hm
    ·simp at e
    ·obtain ⟨y, hy, e⟩ := List.mem_map.1 hm
     simp only [Prod.mk.injEq] at e
     exact hne y hy e.1
   ·obtain ⟨y, hy, e⟩ := List.mem_map.1 hm
    simp only [Prod.mk.injEq] at e
    exact hne y hy e.1
  ·intro y hy
   rcases List.mem_cons.1 hy with rfl | hy
   ·exact ⟨⟨_, hc 0 _ rfl⟩, hf _⟩
   ·rcases List.mem_cons.1 hy with rfl | hy
    ·exact ⟨⟨_, hc 1 _ rfl⟩, hf _⟩
    ·exact hin y hy
  ·rcases List.mem_cons.1 hy with rfl | hy
   ·exact .inr ⟨rfl, by simp, by simp⟩
   ·rcases List.mem_cons.1 hy with rfl | hy
    ·exact .inr ⟨rfl, by simp, by simp⟩
    ·exact .inl hy
theorem nodup_ins {A A' : List Lf} {b a : Nat} {k1 k2 : IntKind} {i j : Nat} (hij : i ≠ j) (h : ((A ++ A').map fun a => (a.b, a.o)).Nodup) (hne : ∀ y ∈ A ++ A', y.b ≠ b ∨ (y.o ≠ a + i ∧ y.o ≠ a + j)) : ((A ++ (⟨b, a + i, k1⟩ :: ⟨b, a + j, k2⟩ :: A')).map fun a => (a.b, a.o)).Nodup := by
 rw [List.map_append, List.nodup_append] at h ⊢
 obtain ⟨n1, n2, n3⟩ := h
 refine ⟨n1, ?_, fun x hx y hy => ?_⟩
 ·rw [List.map_cons, List.nodup_cons, List.map_cons, List.nodup_cons]
  refine ⟨fun hm => ?_, fun hm => ?_, n2⟩
  ·rcases List.mem_cons.1 hm with e | hm
   ·simp at e; exact hij e
   ·obtain ⟨y, hy, e⟩ := List.mem_map.1 hm
    simp only [Prod.mk.injEq] at e
    rcases hne y (by simp [hy]) with h | h
    ·exact h e.1
    ·exact h.1 e.2
  ·obtain ⟨y, hy, e⟩ := List.mem_map.1 hm
   simp only [Prod.mk.injEq] at e
   rcases hne y (by simp [hy]) with h | h
   ·exact h e.1
   ·exact h.2 e.2
 ·obtain ⟨z, hz, rfl⟩ := List.mem_map.1 hx
  have hz' := hne z (by simp [hz])
  rw [List.map_cons, List.map_cons] at hy
  rcases List.mem_cons.1 hy with rfl | hy
  ·intro e
   simp only [Prod.mk.injEq] at e
   rcases hz' with h | h
   ·exact h e.1
   ·exact h.1 e.2
  ·rcases List.mem_cons.1 hy with rfl | hy
   ·intro e
    simp only [Prod.mk.injEq] at e
    rcases hz' with h | h
    ·exact h e.1
    ·exact h.2 e.2
   ·exact n3 _ (List.mem_map_of_mem hz) _ hy
theorem OwnT.no {B : Nat} {w : World} {v : Value} {es : List Nod} {Ls : List (List Lf)} (h : OwnT elNo 66 8 B w v es Ls) : RdN w v es ∧ ∃ A, LvN w v es A ∧ Apt B w A := by
 refine ⟨?_, h.lv (LvNo w) fun x c l b a hel hc hf hne hin hnd => ?_⟩
 ·obtain ⟨p, cap, rfl, hd⟩ := h.read
  refine ⟨p, cap, rfl, ?_⟩
  rcases hd with hd | ⟨g, rfl, hd⟩
  ·exact .inl hd
  ·refine .inr ⟨g, 0, rfl, fun i e he => ?_⟩
   obtain ⟨c, l, ⟨p0, c0, p1, c1, p4, c4, p7, c7, l0, l1, l4, l7, -, rfl, ⟨h3, h4, h5⟩, ⟨h6, h7⟩, ⟨h8, h9⟩, ⟨h10, h11⟩⟩, hcell⟩ := hd i e he
   exact ⟨_, _, _, _, ⟨hcell 0 _ rfl, hcell 1 _ rfl, hcell 2 _ rfl, hcell 3 _ rfl, hcell 4 _ rfl, hcell 5 _ rfl, hcell 6 _ rfl, hcell 7 _ rfl, h3, h6, h8, h10, h4⟩⟩
 ·obtain ⟨p0, c0, p1, c1, p4, c4, p7, c7, l0, l1, l4, l7, rfl, rfl, ⟨h3, h4, h5⟩, ⟨h6, h7⟩, ⟨h8, h9⟩, ⟨h10, h11⟩⟩ := hel
  refine ⟨l0 ++ (l1 ++ (⟨b, a + 2, .u64⟩ :: ⟨b, a + 3, .i64⟩ :: (l4 ++ (⟨b, a + 5, .u64⟩ :: ⟨b, a + 6, .u64⟩ :: l7)))),
   ⟨p0, c0, p1, c1, p4, c4, p7, c7, l0, l1, l4, l7, rfl, ⟨hc 0 _ rfl, h5⟩, ⟨hc 1 _ rfl, h7⟩, ⟨hc 4 _ rfl, h9⟩, ⟨hc 7 _ rfl, h11⟩⟩, ?_, ?_, fun y hy => ?_⟩
  ·have s1 : (((l0 ++ (l1 ++ l4)) ++ (⟨b, a + 5, .u64⟩ :: ⟨b, a + 6, .u64⟩ :: l7)).map fun a => (a.b, a.o)).Nodup := nodup_ins (by decide) (by simpa using hnd) (fun y hy => .inl (hne y (by simpa using hy)))
   have s2 := nodup_ins (A := l0 ++ l1) (A' := l4 ++ (⟨b, a + 5, .u64⟩ :: ⟨b, a + 6, .u64⟩ :: l7)) (b := b) (a := a) (k1 := .u64) (k2 := .i64) (i := 2) (j := 3) (by decide) (by simpa using s1) (fun y hy => by
    simp only [List.mem_append, List.mem_cons] at hy
    rcases hy with (hy | hy) | hy | rfl | rfl | hy
    ·exact .inl (hne y (by simp [hy]))
    ·exact .inl (hne y (by simp [hy]))
    ·exact .inl (hne y (by simp [hy]))
    ·exact .inr (by simp)
    ·exact .inr (by simp)
    ·exact .inl (hne y (by simp [hy])))
   simpa using s2
  ·intro y hy
   simp only [List.mem_append, List.mem_cons] at hy
   rcases hy with hy | hy | rfl | rfl | hy | rfl | rfl | hy
   ·exact hin y (by simp [hy])
   ·exact hin y (by simp [hy])
   ·exact ⟨⟨_, hc 2 _ rfl⟩, hf _⟩
   ·exact ⟨⟨_, hc 3 _ rfl⟩, hf _⟩
   ·exact hin y (by simp [hy])
   ·exact ⟨⟨_, hc 5 _ rfl⟩, hf _⟩
   ·exact ⟨⟨_, hc 6 _ rfl⟩, hf _⟩
   ·exact hin y (by simp [hy])
  ·simp only [List.mem_append, List.mem_cons] at hy
   rcases hy with hy | hy | rfl | rfl | hy | rfl | rfl | hy
   ·exact .inl (by simp [hy])
   ·exact .inl (by simp [hy])
   ·exact .inr ⟨rfl, by simp, by simp⟩
   ·exact .inr ⟨rfl, by simp, by simp⟩
   ·exact .inl (by simp [hy])
   ·exact .inr ⟨rfl, by simp, by simp⟩
   ·exact .inr ⟨rfl, by simp, by simp⟩
   ·exact .inl (by simp [hy])
theorem LvS.keep {w w' : World} {v : Value} {xs : List Ses} {A : List Lf} (h : LvS w v xs A) (hk : ∀ a ∈ A, w'.heap[a.b]? = w.heap[a.b]?) : LvS w' v xs A := by
 refine h.imp fun x b a l hx hsub hP => ?_
 obtain ⟨p, c, lb, h1, h2, h3⟩ := hP
 refine ⟨p, c, lb, h1, ?_, LvE.keep h3 (fun y hy => hk y (hsub y (by rw [h1]; simp [hy])))⟩
 have : w'.heap[b]? = w.heap[b]? := hk ⟨b, a, .u64⟩ (hsub _ (by rw [h1]; simp))
 exact (cell_at_heap this _).trans h2
theorem LvN.keep {w w' : World} {v : Value} {xs : List Nod} {A : List Lf} (h : LvN w v xs A) (hk : ∀ a ∈ A, w'.heap[a.b]? = w.heap[a.b]?) : LvN w' v xs A := by
 refine h.imp fun x b a l hx hsub hP => ?_
 obtain ⟨p0, c0, p1, c1, p4, c4, p7, c7, l0, l1, l4, l7, h1, ⟨h2, h3⟩, ⟨h4, h5⟩, ⟨h6, h7⟩, ⟨h8, h9⟩⟩ := hP
 have : w'.heap[b]? = w.heap[b]? := hk ⟨b, a + 2, .u64⟩ (hsub _ (by rw [h1]; simp))
 have hc := cell_at_heap this
 exact ⟨p0, c0, p1, c1, p4, c4, p7, c7, l0, l1, l4, l7, h1, ⟨(hc _).trans h2, h3⟩, ⟨(hc _).trans h4, h5⟩, ⟨(hc _).trans h6, h7⟩, ⟨(hc _).trans h8, h9⟩⟩
theorem RdSc.keepLv {w w' : World} {v : Value} {xs : List Ses} {A : List Lf} (h : RdSc w v xs) (hl : LvS w v xs A) (hk : ∀ a ∈ A, w'.heap[a.b]? = w.heap[a.b]?) : RdSc w' v xs := by
 obtain ⟨p, c, rfl, hd⟩ := h
 refine ⟨p, c, rfl, ?_⟩
 rcases hd with hd | ⟨b, o, rfl, hd⟩
 ·exact .inl hd
 ·refine .inr ⟨b, o, rfl, fun i e he => ?_⟩
  obtain ⟨Ls, en, lL, eA, hat⟩ := hl.at
  obtain ⟨b', o', x, l, e1, hx, hl', hP, -, hsub⟩ := hat i (List.getElem?_eq_some_iff.1 he).1
  simp only [Option.some.injEq, Addr.mk.injEq, and_true] at e1
  obtain ⟨rfl, rfl⟩ := e1
  rw [he] at hx
  cases hx
  obtain ⟨q, cc, lb, e2, h2, h3⟩ := hP
  have hb : w'.heap[b]? = w.heap[b]? := hk ⟨b, o + i * 3, .u64⟩ (hsub _ (by rw [e2]; simp))
  obtain ⟨r1, r1', u, r2, r3⟩ := hd i e he
  have : u = .slice q e.2.2.length cc := by rw [h2] at r2; exact (Option.some.inj r2).symm
  subst this
  exact ⟨(cell_at_heap hb _).trans r1, (cell_at_heap hb _).trans r1', _, (cell_at_heap hb _).trans r2, r3.keepLv h3 (fun a ha => hk a (hsub a (by rw [e2]; simp [ha])))⟩
theorem RdN.keepLv {w w' : World} {v : Value} {xs : List Nod} {A : List Lf} (h : RdN w v xs) (hl : LvN w v xs A) (hk : ∀ a ∈ A, w'.heap[a.b]? = w.heap[a.b]?) : RdN w' v xs := by
 obtain ⟨p, c, rfl, hd⟩ := h
 refine ⟨p, c, rfl, ?_⟩
 rcases hd with hd | ⟨b, o, rfl, hd⟩
 ·exact .inl hd
 ·refine .inr ⟨b, o, rfl, fun i e he => ?_⟩
  obtain ⟨Ls, en, lL, eA, hat⟩ := hl.at
  obtain ⟨b', o', x, l, e1, hx, hl', hP, -, hsub⟩ := hat i (List.getElem?_eq_some_iff.1 he).1
  simp only [Option.some.injEq, Addr.mk.injEq, and_true] at e1
  obtain ⟨rfl, rfl⟩ := e1
  rw [he] at hx
  cases hx
  obtain ⟨p0, c0, p1, c1, p4, c4, p7, c7, l0, l1, l4, l7, e2, ⟨h2, h3⟩, ⟨h4, h5⟩, ⟨h6, h7⟩, ⟨h8, h9⟩⟩ := hP
  have hb : w'.heap[b]? = w.heap[b]? := hk ⟨b, o + i * 8 + 2, .u64⟩ (hsub _ (by rw [e2]; simp))
  have hc := cell_at_heap hb
  obtain ⟨P, V, H, U, na⟩ := hd i e he
  have q0 : P = _ := Option.some.inj (na.c0.symm.trans h2)
  have q1 : V = _ := Option.some.inj (na.c1.symm.trans h4)
  have q4 : H = _ := Option.some.inj (na.c4.symm.trans h6)
  have q7 : U = _ := Option.some.inj (na.c7.symm.trans h8)
  subst q0 q1 q4 q7
  have hs : ∀ y, (y ∈ l0 ∨ y ∈ l1 ∨ y ∈ l4 ∨ y ∈ l7) → w'.heap[y.b]? = w.heap[y.b]? := fun y hy => hk y (hsub y (by rw [e2]; rcases hy with hy | hy | hy | hy <;> simp [hy]))
  exact ⟨_, _, _, _, ⟨(hc _).trans na.c0, (hc _).trans na.c1, (hc _).trans na.c2, (hc _).trans na.c3, (hc _).trans na.c4, (hc _).trans na.c5, (hc _).trans na.c6, (hc _).trans na.c7,
   na.r0.keepLv h3 (fun a ha => hs a (.inl ha)), na.r1.keepLv h5 (fun a ha => hs a (.inr (.inl ha))), na.r4.keepLv h7 (fun a ha => hs a (.inr (.inr (.inl ha)))), na.r7.keepLv h9 (fun a ha => hs a (.inr (.inr (.inr ha)))), na.k0⟩⟩
end Go.Proofs.YtnbgnhhnpmmloaaGreatDoor
