import Derived.Test.YtpbppdeleijhkaaGreatDoorLO0
namespace Go.Proofs.YtpbppdeleijhkaaGreatDoor
open Go.ChangeShapes Go.WideShapes Go.ChangeAt Go.RowKit
set_option linter.unusedVariables false
set_option linter.unusedSimpArgs false
set_option maxRecDepth 100000

/-- append of what lies elsewhere: the row's block is the old one, or a new one -/
theorem run_append_fr {P : Program} (w : World) (base : Nat) (t ty e : TypeId) (i : TypeInfo) (z : Value) (size bytes : Nat) (ht : P.underlying t = some (.slice e)) (hi : P.info? e = some i) (hz : i.zero = some z)
    (hsize : i.size = size) (hby : i.bytes = bytes) (hzs : z.cells.size = size) (hsz : 0 < size)
    (v : Value) (n : Nat) (xs : List Value) (hown : w.ownsRow base e size v n xs)
    (a : Addr) (m c : Nat) (news : List Value) (hl : news.length = m * size) (hnews : ∀ j u, news[j]? = some u → w.cell? (a.add j) = some u) (h1 : ∀ u ∈ news, u.oneCell' = true)
    (h63 : n + m ≤ maxLen) (hbytes : (n + m) * bytes ≤ 140737488355328) (hbase : base ≤ w.heap.size) :
    ∃ v' w', (Builtin.append_ #[t, t] ty #[v, .slice (some a) m c]).run P w = .ok v' w' ∧ w'.ownsRow base e size v' (n + m) (xs ++ news) ∧ w.grownBy w' v.ownBlock ∧ ∀ g, v'.ownBlock = some g → v.ownBlock = some g ∨ w.heap.size ≤ g := by
  obtain ⟨v', w', hr, h2, h3, -⟩ := run_append_own (P := P) w base t ty e i z size bytes ht hi hz hsize hby hzs hsz v n xs hown a m c news hl hnews h1 h63 hbytes hbase
  refine ⟨v', w', hr, h2, h3, fun g' hg' => ?_⟩
  rcases id hown.2 with ⟨rfl, rfl⟩ | ⟨g, cap, cur, rfl, hbg, hg, hnc, hcm, hcs, htake⟩
  · have hx : xs = [] := List.eq_nil_of_length_eq_zero (by simpa using hown.1)
    subst hx
    obtain ⟨v2, w2, hr2, k2, -, -⟩ := run_append_own (P := P) w w.heap.size t ty e i z size bytes ht hi hz hsize hby hzs hsz (.slice none 0 0) 0 [] (World.ownsRow_nil w _ e size) a m c news hl hnews h1 h63 hbytes (Nat.le_refl _)
    rw [hr] at hr2
    simp only [Result.ok.injEq] at hr2
    obtain ⟨rfl, rfl⟩ := hr2
    exact .inr (k2.lt g' hg').1
  · subst hsize
    subst hby
    by_cases hroom : n + m ≤ cap
    · have hfit : n * i.size + news.length ≤ cur.size := by rw [hl, hcs, ← Nat.add_mul]; exact Nat.mul_le_mul_right _ hroom
      rw [run_append_room (P := P) w t ty e i ht hi g n cap cur hg a m c news hl hnews h1 hroom hfit] at hr
      simp only [Result.ok.injEq] at hr
      obtain ⟨rfl, -⟩ := hr
      exact .inl hg'
    · have holds : ∀ j u, xs[j]? = some u → w.cell? ((⟨g, 0, none⟩ : Addr).add j) = some u := hown.cells (g := g) rfl
      rw [run_append_grow (P := P) w t ty e i z ht hi hz ⟨g, 0, none⟩ n cap xs hown.1 holds a m c news hl hnews (by omega) (by simp only [maxLen] at h63; omega) (growslice_fits (by omega) hbytes)] at hr
      simp only [Result.ok.injEq] at hr
      obtain ⟨rfl, -⟩ := hr
      simp only [Value.ownBlock, Option.some.injEq] at hg'
      exact .inr (by omega)
theorem wpList_append_fr {P : Program} {w : World} {ops : Array Oper} {rest : List Oper} {o : Oper} {a : Act} {Q : Exit → Act → World → Prop} (hgd : o.guard = none) (s x : Operand) (t : TypeId)
    (ho : o.op = .call { callee := .builtin .append, args := #[s, x], argTypes := #[t, t] })
    (base : Nat) (e : TypeId) (i : TypeInfo) (z : Value) (size bytes : Nat) (ht : P.underlying t = some (.slice e)) (hi : P.info? e = some i) (hz : i.zero = some z)
    (hsize : i.size = size) (hby : i.bytes = bytes) (hzs : z.cells.size = size) (hsz : 0 < size)
    (v : Value) (n : Nat) (xs : List Value) (hs : a.eval s = v) (hown : w.ownsRow base e size v n xs)
    (g m c : Nat) (news : List Value) (hx : a.eval x = .slice (some ⟨g, 0, none⟩) m c) (hl : news.length = m * size) (hnews : ∀ j u, news[j]? = some u → w.cell? ⟨g, j, none⟩ = some u) (h1 : ∀ u ∈ news, u.oneCell' = true)
    (h63 : n + m ≤ maxLen) (hbytes : (n + m) * bytes ≤ 140737488355328) (hbase : base ≤ w.heap.size)
    (h : ∀ v' w', w'.ownsRow base e size v' (n + m) (xs ++ news) → w.grownBy w' v.ownBlock → (∀ g, v'.ownBlock = some g → v.ownBlock = some g ∨ w.heap.size ≤ g) → wpList P ops Q rest (a.put o.dst v') w') : wpList P ops Q (o :: rest) a w := by
  obtain ⟨v', w', hr, h2, h3, h4⟩ := run_append_fr (P := P) w base t o.type e i z size bytes ht hi hz hsize hby hzs hsz v n xs hown ⟨g, 0, none⟩ m c news hl (fun j u hu => by rw [Addr.add_lit, Nat.zero_add]; exact hnews j u hu) h1 h63 hbytes hbase
  exact Lib.wpList_append_run w hgd s x t t ho _ _ hs hx _ _ hr (h v' w' h2 h3 h4)
theorem step_append_fr {P : Program} {w : World} {ops : Array Oper} {o : Oper} {a : Act} {K : Act → World → Prop} {Q : Exit → Act → World → Prop} {E : Prop} (hgd : o.guard = none) (s x : Operand) (t : TypeId)
    (ho : o.op = .call { callee := .builtin .append, args := #[s, x], argTypes := #[t, t] })
    (base : Nat) (e : TypeId) (i : TypeInfo) (z : Value) (size bytes : Nat) (ht : P.underlying t = some (.slice e)) (hi : P.info? e = some i) (hz : i.zero = some z)
    (hsize : i.size = size) (hby : i.bytes = bytes) (hzs : z.cells.size = size) (hsz : 0 < size)
    (v : Value) (n : Nat) (xs : List Value) (hs : a.eval s = v) (hown : w.ownsRow base e size v n xs)
    (g m c : Nat) (news : List Value) (hx : a.eval x = .slice (some ⟨g, 0, none⟩) m c) (hl : news.length = m * size) (hnews : ∀ j u, news[j]? = some u → w.cell? ⟨g, j, none⟩ = some u) (h1 : ∀ u ∈ news, u.oneCell' = true)
    (h63 : n + m ≤ maxLen) (hbytes : (n + m) * bytes ≤ 140737488355328) (hbase : base ≤ w.heap.size)
    (h : ∀ v' w', w'.ownsRow base e size v' (n + m) (xs ++ news) → w.grownBy w' v.ownBlock → (∀ g, v'.ownBlock = some g → v.ownBlock = some g ∨ w.heap.size ≤ g) → K (a.put o.dst v') w') :
    if Region.wanted o (yielded ops a.tmps) = true then Oper.wp P o a w K Q else E := by
  have hw : Region.wanted o (yielded ops a.tmps) = true := by simp [Region.wanted, hgd]
  rw [if_pos hw]
  obtain ⟨v', w', hr, h2, h3, h4⟩ := run_append_fr (P := P) w base t o.type e i z size bytes ht hi hz hsize hby hzs hsz v n xs hown ⟨g, 0, none⟩ m c news hl (fun j u hu => by rw [Addr.add_lit, Nat.zero_add]; exact hnews j u hu) h1 h63 hbytes hbase
  exact Lib.wp_append_run w s x t t ho _ _ hs hx _ _ hr (h v' w' h2 h3 h4)

/-- numbers of a row of one's own: el for them -/
def elU (w : World) (x : Int) (c : List Value) (l : List Lf) : Prop := c = [.int .u64 x] ∧ l = []
theorem elU.keep (w w' : World) (x : Int) (c : List Value) (l : List Lf) (h : elU w x c l) (_ : ∀ a ∈ l, w'.heap[a.b]? = w.heap[a.b]?) : elU w' x c l := h
theorem Rd.keepLv {w w' : World} {v : Value} {xs : List Int} {A : List Lf} (h : Rd w v xs) (hl : LvB v xs A) (hk : ∀ a ∈ A, w'.heap[a.b]? = w.heap[a.b]?) : Rd w' v xs := by
  obtain ⟨p, c, rfl, hd⟩ := h
  refine ⟨p, c, rfl, ?_⟩
  rcases hd with hd | ⟨b, o, rfl, hd⟩
  · exact .inl hd
  · refine .inr ⟨b, o, rfl, fun i hi => ?_⟩
    obtain ⟨Ls, en, lL, eA, hat⟩ := hl.at
    obtain ⟨b', o', x, l, e1, -, hl', hP, -, hsub⟩ := hat i hi
    simp only [Option.some.injEq, Addr.mk.injEq, and_true] at e1
    obtain ⟨rfl, rfl⟩ := e1
    have : w'.heap[b]? = w.heap[b]? := hk ⟨b, o + i * 1, .u8⟩ (hsub _ (by rw [show l = _ from hP]; simp))
    exact (cell_at_heap this _).trans (hd i hi)
theorem RdU.keepLv {w w' : World} {v : Value} {xs : List Int} {A : List Lf} (h : RdU w v xs) (hl : LvU v xs A) (hk : ∀ a ∈ A, w'.heap[a.b]? = w.heap[a.b]?) : RdU w' v xs := by
  obtain ⟨p, c, rfl, hd⟩ := h
  refine ⟨p, c, rfl, ?_⟩
  rcases hd with hd | ⟨b, o, rfl, hd⟩
  · exact .inl hd
  · refine .inr ⟨b, o, rfl, fun i hi => ?_⟩
    obtain ⟨Ls, en, lL, eA, hat⟩ := hl.at
    obtain ⟨b', o', x, l, e1, -, hl', hP, -, hsub⟩ := hat i hi
    simp only [Option.some.injEq, Addr.mk.injEq, and_true] at e1
    obtain ⟨rfl, rfl⟩ := e1
    have : w'.heap[b]? = w.heap[b]? := hk ⟨b, o + i * 1, .u64⟩ (hsub _ (by rw [show l = _ from hP]; simp))
    exact (cell_at_heap this _).trans (hd i hi)
/-- an event of one's own -/
def elEv (w : World) (x : Ev) (c : List Value) (l : List Lf) : Prop :=
  ∃ p cc, c = [.int .i64 x.1, .slice p x.2.length cc] ∧ Rd w (.slice p x.2.length cc) x.2 ∧ CapOK (.slice p x.2.length cc) ∧ LvB (.slice p x.2.length cc) x.2 l
theorem elEv.keep (w w' : World) (x : Ev) (c : List Value) (l : List Lf) (h : elEv w x c l) (hk : ∀ a ∈ l, w'.heap[a.b]? = w.heap[a.b]?) : elEv w' x c l := by
  obtain ⟨p, cc, h1, h2, h3, h4⟩ := h
  exact ⟨p, cc, h1, h2.keepLv h4 hk, h3, h4⟩
theorem LvE.keep {w w' : World} {v : Value} {xs : List Ev} {A : List Lf} (h : LvE w v xs A) (hk : ∀ a ∈ A, w'.heap[a.b]? = w.heap[a.b]?) : LvE w' v xs A := by
  refine h.imp fun x b a l hx hsub hP => ?_
  obtain ⟨p, c, lb, h1, h2, h3⟩ := hP
  refine ⟨p, c, lb, h1, ?_, h3⟩
  have : w'.heap[b]? = w.heap[b]? := hk ⟨b, a, .i64⟩ (hsub _ (by rw [h1]; simp))
  exact (cell_at_heap this _).trans h2
theorem RdEc.keepLv {w w' : World} {v : Value} {xs : List Ev} {A : List Lf} (h : RdEc w v xs) (hl : LvE w v xs A) (hk : ∀ a ∈ A, w'.heap[a.b]? = w.heap[a.b]?) : RdEc w' v xs := by
  obtain ⟨p, c, rfl, hd⟩ := h
  refine ⟨p, c, rfl, ?_⟩
  rcases hd with hd | ⟨b, o, rfl, hd⟩
  · exact .inl hd
  · refine .inr ⟨b, o, rfl, fun i e he => ?_⟩
    obtain ⟨Ls, en, lL, eA, hat⟩ := hl.at
    obtain ⟨b', o', x, l, e1, hx, hl', hP, -, hsub⟩ := hat i (List.getElem?_eq_some_iff.1 he).1
    simp only [Option.some.injEq, Addr.mk.injEq, and_true] at e1
    obtain ⟨rfl, rfl⟩ := e1
    rw [he] at hx
    cases hx
    obtain ⟨q, cc, lb, e2, h2, h3⟩ := hP
    have hb : w'.heap[b]? = w.heap[b]? := hk ⟨b, o + i * 2, .i64⟩ (hsub _ (by rw [e2]; simp))
    obtain ⟨r1, u, r2, r3, r4⟩ := hd i e he
    have : u = .slice q e.2.length cc := by rw [h2] at r2; exact (Option.some.inj r2).symm
    subst this
    exact ⟨(cell_at_heap hb _).trans r1, _, (cell_at_heap hb _).trans r2, r3.keepLv h3 (fun a ha => hk a (hsub a (by rw [e2]; simp [ha]))), r4⟩
/-- a session of one's own -/
def elSe (w : World) (x : Ses) (c : List Value) (l : List Lf) : Prop :=
  ∃ p cc, c = [.int .u64 x.1, .int .i64 x.2.1, .slice p x.2.2.length cc] ∧ RdEc w (.slice p x.2.2.length cc) x.2.2 ∧ LvE w (.slice p x.2.2.length cc) x.2.2 l
theorem elSe.keep (w w' : World) (x : Ses) (c : List Value) (l : List Lf) (h : elSe w x c l) (hk : ∀ a ∈ l, w'.heap[a.b]? = w.heap[a.b]?) : elSe w' x c l := by
  obtain ⟨p, cc, h1, h2, h3⟩ := h
  exact ⟨p, cc, h1, h2.keepLv h3 hk, LvE.keep h3 hk⟩
/-- a node of one's own -/
def elNo (w : World) (x : Nod) (c : List Value) (l : List Lf) : Prop :=
  ∃ p0 c0 p1 c1 p4 c4 p7 c7 l0 l1 l4 l7, l = l0 ++ (l1 ++ (l4 ++ l7)) ∧ c = [.slice p0 x.path.length c0, .slice p1 x.value.length c1, .int .u64 x.owner, .int .i64 x.mode, .slice p4 x.holders.length c4, .int .u64 x.epoch, .int .u64 x.gen, .slice p7 x.watchers.length c7] ∧
    (Rd w (.slice p0 x.path.length c0) x.path ∧ CapOK (.slice p0 x.path.length c0) ∧ LvB (.slice p0 x.path.length c0) x.path l0) ∧ (Rd w (.slice p1 x.value.length c1) x.value ∧ LvB (.slice p1 x.value.length c1) x.value l1) ∧
    (RdU w (.slice p4 x.holders.length c4) x.holders ∧ LvU (.slice p4 x.holders.length c4) x.holders l4) ∧ (RdU w (.slice p7 x.watchers.length c7) x.watchers ∧ LvU (.slice p7 x.watchers.length c7) x.watchers l7)
theorem elNo.keep (w w' : World) (x : Nod) (c : List Value) (l : List Lf) (h : elNo w x c l) (hk : ∀ a ∈ l, w'.heap[a.b]? = w.heap[a.b]?) : elNo w' x c l := by
  obtain ⟨p0, c0, p1, c1, p4, c4, p7, c7, l0, l1, l4, l7, rfl, h2, ⟨h3, h4, h5⟩, ⟨h6, h7⟩, ⟨h8, h9⟩, ⟨h10, h11⟩⟩ := h
  exact ⟨p0, c0, p1, c1, p4, c4, p7, c7, l0, l1, l4, l7, rfl, h2, ⟨h3.keepLv h5 (fun a ha => hk a (by simp [ha])), h4, h5⟩, ⟨h6.keepLv h7 (fun a ha => hk a (by simp [ha])), h7⟩, ⟨h8.keepLv h9 (fun a ha => hk a (by simp [ha])), h9⟩, ⟨h10.keepLv h11 (fun a ha => hk a (by simp [ha])), h11⟩⟩
end Go.Proofs.YtpbppdeleijhkaaGreatDoor
