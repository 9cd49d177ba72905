import Derived.Test.YtpbppdeleijhkaaGreatDoorVC2
import Derived.Test.YtpbppdeleijhkaaGreatDoorVM2
namespace Go.Proofs.YtpbppdeleijhkaaGreatDoor
open Go.ChangeShapes Go.WideShapes Go.ChangeAt Go.RowKit Go.Maps
set_option linter.unusedVariables false
set_option linter.unusedSimpArgs false
set_option maxRecDepth 100000

/-- the sessions of a store: a map of pointers to structs of its own -/
structure SesL (w0 w : World) (bs : Nat) (ss : List Ses) (SB : List Nat) : Prop where
  len : SB.length = ss.length
  own : ∃ D, w.ownsMap Tryz.prog 23 ptrElem bs ss.length D ∧ MapTo D (List.zipWith (fun (s : Ses) g => (Lit.int .u64 s.1, g)) ss SB)
  blk : ∀ (i : Nat) (s : Ses) (g : Nat), ss[i]? = some s → SB[i]? = some g → w0.heap.size ≤ g ∧ ∃ u, w.heap[g]? = some (.cells #[.int .u64 s.1, .int .i64 s.2.1, u] 65) ∧ RdEc w0 u s.2.2
  nod : SB.Nodup
/-- the nodes of a store -/
structure NodL (w0 w : World) (bn : Nat) (ns : List Nod) (NB HB UB : List Nat) : Prop where
  len : NB.length = ns.length
  lenH : HB.length = ns.length
  lenU : UB.length = ns.length
  own : ∃ D, w.ownsMap Tryz.prog 9 ptrElem bn ns.length D ∧ MapTo D (List.zipWith (fun (nd : Nod) g => (litS nd.path, g)) ns NB)
  blk : ∀ (i : Nat) (nd : Nod) (g h u : Nat), ns[i]? = some nd → NB[i]? = some g → HB[i]? = some h → UB[i]? = some u → w0.heap.size ≤ g ∧ w0.heap.size ≤ h ∧ w0.heap.size ≤ u ∧
    (∃ V, w.heap[g]? = some (.cells #[V, .int .u64 nd.owner, .int .i64 nd.mode, .map (some h), .int .u64 nd.epoch, .int .u64 nd.gen, .map (some u)] 145) ∧ Rd w0 V nd.value) ∧
    (∃ D, w.ownsMap Tryz.prog 23 unitElem h nd.holders.length D ∧ SetTo D nd.holders) ∧ (∃ D, w.ownsMap Tryz.prog 23 unitElem u nd.watchers.length D ∧ SetTo D nd.watchers)
  nod : NB.Nodup
  dis : (bn :: (HB ++ UB)).Nodup
theorem ownsMap_cells {P : Program} {k : TypeId} {R : Value → Option (DataW Unit × List MemPlace)} {w : World} {b n g : Nat} {D : DataW Unit} {cs : Array Value} {t : TypeId} (h : w.ownsMap P k R b n D) (hg : w.heap[g]? = some (.cells cs t)) : g ≠ b := by
  rintro rfl
  obtain ⟨es, cl, hb, _⟩ := h
  rw [hb] at hg
  cases hg
theorem heap_lt {w : World} {g : Nat} {o : Obj} (h : w.heap[g]? = some o) : g < w.heap.size := (Array.getElem?_eq_some_iff.1 h).1
theorem SesL.kept {w0 w w' : World} {bs : Nat} {ss : List Ses} {SB : List Nat} {row : Option Nat} (h : SesL w0 w bs ss SB) (hg : w.grownBy w' row) (h1 : some bs ≠ row) (h2 : ∀ g ∈ SB, some g ≠ row) : SesL w0 w' bs ss SB := by
  refine ⟨h.len, ?_, fun i s g hi hgi => ?_, h.nod⟩
  · obtain ⟨D, hD, hM⟩ := h.own
    exact ⟨D, hD.kept hg h1, hM⟩
  · obtain ⟨a1, u, a2, a3⟩ := h.blk i s g hi hgi
    exact ⟨a1, u, (hg.block g (heap_lt a2) (h2 g (List.mem_of_getElem? hgi))).trans a2, a3⟩
theorem NodL.kept {w0 w w' : World} {bn : Nat} {ns : List Nod} {NB HB UB : List Nat} {row : Option Nat} (h : NodL w0 w bn ns NB HB UB) (hg : w.grownBy w' row) (h1 : some bn ≠ row) (h2 : ∀ g ∈ NB, some g ≠ row) (h3 : ∀ g ∈ HB ++ UB, some g ≠ row) : NodL w0 w' bn ns NB HB UB := by
  refine ⟨h.len, h.lenH, h.lenU, ?_, fun i nd g hh u hi hgi hhi hui => ?_, h.nod, h.dis⟩
  · obtain ⟨D, hD, hM⟩ := h.own
    exact ⟨D, hD.kept hg h1, hM⟩
  · obtain ⟨a1, a2, a3, ⟨V, a4, a5⟩, ⟨D1, a6, a7⟩, ⟨D2, a8, a9⟩⟩ := h.blk i nd g hh u hi hgi hhi hui
    exact ⟨a1, a2, a3, ⟨V, (hg.block g (heap_lt a4) (h2 g (List.mem_of_getElem? hgi))).trans a4, a5⟩, ⟨D1, a6.kept hg (h3 _ (List.mem_append.2 (.inl (List.mem_of_getElem? hhi)))), a7⟩, ⟨D2, a8.kept hg (h3 _ (List.mem_append.2 (.inr (List.mem_of_getElem? hui)))), a9⟩⟩
theorem getElem?_snoc {α : Type} {l : List α} {x y : α} {i : Nat} (h : (l ++ [x])[i]? = some y) : l[i]? = some y ∨ (i = l.length ∧ x = y) := by
  by_cases hi : i < l.length
  · rw [List.getElem?_append_left hi] at h
    exact .inl h
  · rw [List.getElem?_append_right (by omega)] at h
    right
    obtain ⟨hlt, e⟩ := List.getElem?_eq_some_iff.1 h
    simp at hlt
    refine ⟨by omega, ?_⟩
    simpa [show i - l.length = 0 by omega] using h
theorem zip_snoc {α β γ : Type} (f : α → β → γ) {l : List α} {m : List β} (h : m.length = l.length) (x : α) (y : β) : List.zipWith f (l ++ [x]) (m ++ [y]) = List.zipWith f l m ++ [f x y] := by
  rw [List.zipWith_append (by omega)]
  rfl
theorem zip_mem {α β γ : Type} {f : α → β → γ} {l : List α} {m : List β} {z : γ} (h : z ∈ List.zipWith f l m) : ∃ (i : Nat) (x : α) (y : β), l[i]? = some x ∧ m[i]? = some y ∧ z = f x y := by
  obtain ⟨i, hi, rfl⟩ := List.getElem_of_mem h
  rw [List.length_zipWith] at hi
  refine ⟨i, l[i]'(by omega), m[i]'(by omega), List.getElem?_eq_getElem _, List.getElem?_eq_getElem _, ?_⟩
  simp
theorem SesL.empty {w0 w : World} {bs : Nat} (h : w.ownsMap Tryz.prog 23 ptrElem bs 0 (.map [])) : SesL w0 w bs [] [] :=
  ⟨rfl, ⟨_, h, MapTo.nil⟩, fun i s g hi => by simp at hi, List.nodup_nil⟩
theorem NodL.empty {w0 w : World} {bn : Nat} (h : w.ownsMap Tryz.prog 9 ptrElem bn 0 (.map [])) : NodL w0 w bn [] [] [] [] :=
  ⟨rfl, rfl, rfl, ⟨_, h, MapTo.nil⟩, fun i s g _ _ hi => by simp at hi, List.nodup_nil, by simp⟩
theorem SesL.lt {w0 w : World} {bs : Nat} {ss : List Ses} {SB : List Nat} (h : SesL w0 w bs ss SB) : ∀ g ∈ SB, g < w.heap.size := by
  intro g hg
  obtain ⟨i, hi⟩ := List.getElem?_of_mem hg
  have hl := (List.getElem?_eq_some_iff.1 hi).1
  obtain ⟨s, hs⟩ : ∃ s, ss[i]? = some s := ⟨_, List.getElem?_eq_getElem (by rw [← h.len]; exact hl)⟩
  obtain ⟨_, u, a2, _⟩ := h.blk i s g hs hi
  exact heap_lt a2
theorem NodL.at {w0 w : World} {bn : Nat} {ns : List Nod} {NB HB UB : List Nat} (h : NodL w0 w bn ns NB HB UB) {i : Nat} {nd : Nod} (hi : ns[i]? = some nd) : ∃ g hh u, NB[i]? = some g ∧ HB[i]? = some hh ∧ UB[i]? = some u := by
  have hl := (List.getElem?_eq_some_iff.1 hi).1
  exact ⟨_, _, _, List.getElem?_eq_getElem (by rw [h.len]; exact hl), List.getElem?_eq_getElem (by rw [h.lenH]; exact hl), List.getElem?_eq_getElem (by rw [h.lenU]; exact hl)⟩
theorem NodL.lt {w0 w : World} {bn : Nat} {ns : List Nod} {NB HB UB : List Nat} (h : NodL w0 w bn ns NB HB UB) : (∀ g ∈ NB, g < w.heap.size) ∧ ∀ g ∈ HB ++ UB, g < w.heap.size := by
  have key : ∀ i, i < ns.length → ∃ g hh u, NB[i]? = some g ∧ HB[i]? = some hh ∧ UB[i]? = some u ∧ g < w.heap.size ∧ hh < w.heap.size ∧ u < w.heap.size := fun i hi => by
    obtain ⟨nd, hnd⟩ : ∃ s, ns[i]? = some s := ⟨_, List.getElem?_eq_getElem hi⟩
    obtain ⟨g, hh, u, e1, e2, e3⟩ := h.at hnd
    obtain ⟨_, _, _, ⟨V, a4, _⟩, ⟨D1, a6, _⟩, ⟨D2, a8, _⟩⟩ := h.blk i nd g hh u hnd e1 e2 e3
    exact ⟨g, hh, u, e1, e2, e3, heap_lt a4, a6.lt, a8.lt⟩
  refine ⟨fun g hg => ?_, fun g hg => ?_⟩
  · obtain ⟨i, hi⟩ := List.getElem?_of_mem hg
    have hl := (List.getElem?_eq_some_iff.1 hi).1
    obtain ⟨g', _, _, e1, _, _, a, _, _⟩ := key i (by rw [← h.len]; exact hl)
    rw [hi] at e1
    cases e1
    exact a
  · rcases List.mem_append.1 hg with hg | hg
    · obtain ⟨i, hi⟩ := List.getElem?_of_mem hg
      have hl := (List.getElem?_eq_some_iff.1 hi).1
      obtain ⟨_, g', _, _, e1, _, _, a, _⟩ := key i (by rw [← h.lenH]; exact hl)
      rw [hi] at e1
      cases e1
      exact a
    · obtain ⟨i, hi⟩ := List.getElem?_of_mem hg
      have hl := (List.getElem?_eq_some_iff.1 hi).1
      obtain ⟨_, _, g', _, _, e1, _, _, a⟩ := key i (by rw [← h.lenU]; exact hl)
      rw [hi] at e1
      cases e1
      exact a
theorem nodup_snoc {l : List Nat} {x : Nat} (h : l.Nodup) (hx : ∀ y ∈ l, y ≠ x) : (l ++ [x]).Nodup := by
  rw [List.nodup_append]
  exact ⟨h, by simp, fun a ha b hb => by simp at hb; subst hb; exact hx a ha⟩
theorem SesL.step {w0 w w1 w2 : World} {bs : Nat} {ss : List Ses} {SB : List Nat} (h : SesL w0 w bs ss SB) (s : Ses) (g : Nat) (hg : w.grownBy w1 none) (hgn : w.heap.size ≤ g) (hw : w0.heap.size ≤ w.heap.size) (u : Value) (hu : RdEc w0 u s.2.2) (hb : w1.heap[g]? = some (.cells #[.int .u64 s.1, .int .i64 s.2.1, u] 65))
    (hid : ∀ z ∈ ss, z.1 ≠ s.1) {D : DataW Unit} (hM : MapTo D (List.zipWith (fun (s : Ses) g => (Lit.int .u64 s.1, g)) ss SB)) (hD : IsMap D)
    (hown : w2.ownsMap Tryz.prog 23 ptrElem bs (ss.length + 1) (D.put (.int .u64 s.1) (.lit (.int .i64 g)))) (hg2 : w1.grownBy w2 (some bs)) : SesL w0 w2 bs (ss ++ [s]) (SB ++ [g]) := by
  have hbs : bs < w.heap.size := by obtain ⟨D, hD, _⟩ := h.own; exact hD.lt
  refine ⟨by simp [h.len], ⟨_, by rw [List.length_append]; exact hown, ?_⟩, fun i z g' hi hgi => ?_, nodup_snoc h.nod (fun y hy => by have := h.lt y hy; omega)⟩
  · rw [zip_snoc _ h.len]
    refine hM.put hD (by trivial) (fun p hp => ?_) g
    obtain ⟨i, x, y, hx, hy, rfl⟩ := zip_mem hp
    intro e
    simp only [Lit.int.injEq, true_and] at e
    exact hid x (List.mem_of_getElem? hx) e
  · rcases getElem?_snoc hi with hi' | ⟨e1, rfl⟩
    · have hl := (List.getElem?_eq_some_iff.1 hi').1
      rw [List.getElem?_append_left (by rw [h.len]; exact hl)] at hgi
      obtain ⟨a1, v, a2, a3⟩ := h.blk i z g' hi' hgi
      refine ⟨a1, v, ?_, a3⟩
      have b1 := (hg.block g' (heap_lt a2) (by simp)).trans a2
      refine (hg2.block g' (heap_lt b1) ?_).trans b1
      obtain ⟨D', hD', _⟩ := h.own
      have := ownsMap_cells hD' a2
      simpa using this
    · rw [e1, ← h.len, List.getElem?_append_right (Nat.le_refl _)] at hgi
      simp at hgi
      subst hgi
      refine ⟨by omega, u, ?_, hu⟩
      exact (hg2.block _ (heap_lt hb) (by simp; omega)).trans hb
/-- a store at block b: it was made of a state that was there in w0 -/
structure StoreAt (w0 w : World) (b bs bn : Nat) (e g x t : Int) (ss : List Ses) (ns : List Nod) (SB NB HB UB : List Nat) : Prop where
  hd : w.heap[b]? = some (.cells #[.int .u64 e, .int .u64 g, .int .u64 x, .int .i64 t, .map (some bs), .map (some bn)] 102)
  ses : SesL w0 w bs ss SB
  nod : NodL w0 w bn ns NB HB UB
  lo : w0.heap.size ≤ b ∧ w0.heap.size ≤ bs ∧ w0.heap.size ≤ bn
  dis : (bs :: bn :: (HB ++ UB)).Nodup
theorem StoreAt.below {w0 w w' : World} {b bs bn : Nat} {e g x t : Int} {ss : List Ses} {ns : List Nod} {SB NB HB UB : List Nat} (h : StoreAt w0 w b bs bn e g x t ss ns SB NB HB UB) (hb : Below w.heap.size w w') : StoreAt w0 w' b bs bn e g x t ss ns SB NB HB UB :=
  ⟨(hb.block b (heap_lt h.hd)).trans h.hd, h.ses.kept (grown_of_below hb none) (by simp) (by simp), h.nod.kept (grown_of_below hb none) (by simp) (by simp) (by simp), h.lo, h.dis⟩
theorem cells_at {w : World} {g : Nat} {cs : Array Value} {t : TypeId} (h : w.heap[g]? = some (.cells cs t)) (i : Nat) : w.cell? ⟨g, i, none⟩ = cs[i]? := by
  unfold World.cell?
  rw [h]
  rfl
end Go.Proofs.YtpbppdeleijhkaaGreatDoor
