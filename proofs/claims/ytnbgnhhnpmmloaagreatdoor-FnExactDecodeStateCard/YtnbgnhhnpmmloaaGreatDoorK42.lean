import Derived.Test.YtnbgnhhnpmmloaaGreatDoorK17
import Derived.Test.YtnbgnhhnpmmloaaGreatDoorK8
import Derived.Test.YtnbgnhhnpmmloaaGreatDoorK14
import Derived.Test.YtnbgnhhnpmmloaaGreatDoorST2
import Derived.Test.YtnbgnhhnpmmloaaGreatDoorK40
import Derived.Test.YtnbgnhhnpmmloaaGreatDoorXCt
namespace Go.Proofs.YtnbgnhhnpmmloaaGreatDoor
open Go.ChangeShapes Go.WideShapes Go.ChangeAt Go.RowKit
set_option linter.unusedVariables false
set_option linter.unusedSimpArgs false
set_option maxRecDepth 100000
abbrev OwnU (B : Nat) (w : World) (v : Value) (l : List Int) : Prop := w.ownsRow B 23 1 v l.length (l.map (Value.int .u64))
theorem OwnU.form {B : Nat} {w : World} {v : Value} {l : List Int} (h : OwnU B w v l) : ∃ p c, v = .slice p l.length c := by
 rcases h.2 with ⟨rfl, h0⟩ | ⟨g, cap, cur, rfl, _⟩
 ·exact ⟨none, 0, by rw [h0]⟩
 ·exact ⟨_, _, rfl⟩
theorem OwnU.mono {B B' : Nat} {w : World} {v : Value} {l : List Int} (h : OwnU B w v l) (hB : B' ≤ B) : OwnU B' w v l := by
 refine ⟨h.1, ?_⟩
 rcases h.2 with h | ⟨g, cap, cur, rfl, hb, r⟩
 ·exact .inl h
 ·exact .inr ⟨g, cap, cur, rfl, by omega, r⟩
theorem OwnU.below {B : Nat} {w w' : World} {v : Value} {l : List Int} (h : OwnU B w v l) (hb : Below w.heap.size w w') : OwnU B w' v l :=
 World.ownsRow.kept (row := none) h (grown_of_b hb) (by by_cases e : v.ownBlock = none <;> simp [e])
theorem PB.far {w w' : World} {M N z0 : Nat} {v : Value} {xs : List Int} {A : List Lf} (h : PB w M N v xs A) (hM : z0 < M) (hk : ∀ z, z ≠ z0 → w'.heap[z]? = w.heap[z]?) : PB w' M N v xs A :=
 have k : ∀ a ∈ A, w'.heap[a.b]? = w.heap[a.b]? := fun a ha => hk _ (by have := h.ap.lo a ha; omega)
 ⟨h.rd.keepLv h.lv k, h.cap, h.lv, h.ap.keep k, h.hi⟩
theorem PU.far {w w' : World} {M N z0 : Nat} {v : Value} {xs : List Int} {A : List Lf} (h : PU w M N v xs A) (hM : z0 < M) (hk : ∀ z, z ≠ z0 → w'.heap[z]? = w.heap[z]?) : PU w' M N v xs A :=
 have k : ∀ a ∈ A, w'.heap[a.b]? = w.heap[a.b]? := fun a ha => hk _ (by have := h.ap.lo a ha; omega)
 ⟨h.rd.keepLv h.lv k, h.lv, h.ap.keep k, h.hi⟩
theorem OwnU.pu {B : Nat} {w : World} {p : Option Addr} {n c : Nat} {l : List Int} (h : OwnU B w (.slice p n c) l) : ∃ A, PU w B w.heap.size (.slice p n c) l A := by
 obtain ⟨A, q1, q2, q3, q4⟩ := row_lv (kd := .u64) h
 refine ⟨A, ?_, q1, q2, fun a ha => q2.inn.lt ha⟩
 rcases h.2 with ⟨e, h0⟩ | ⟨g, cap, cur, e, hb, hg, hr⟩
 ·rw [e]
  exact ⟨none, 0, by rw [h0], .inl (List.length_eq_zero_iff.1 h0)⟩
 ·rw [e] at h ⊢
  refine ⟨_, cap, rfl, .inr ⟨g, 0, rfl, fun i hi => ?_⟩⟩
  have := World.ownsRow.cellAt h i (by omega)
  rw [Nat.zero_add, this]
  simp [List.getD_eq_getElem?_getD, hi]
def decD : Option ((Int × Int × Int) × List Ses × List Nod) → StD
 | none => stD0
 | some r => ⟨r.1.1, r.1.2.1, r.1.2.2, 0, r.2.1, r.2.2⟩
def decC : Option ((Int × Int × Int) × List Ses × List Nod) → Int
 | none => 13
 | some _ => 0
theorem oV_at (p : Option Addr) (c n : Nat) (l : List Int) (en : Hid (l.length = n)) (w : World) (h : Rd w (.slice p n c) l) (hb : Hid (Byt l)) (hl : n ≤ 1048576) (om : Option (List Int)) (hs : Hid (Sfx n l om)) (a : Int) (ea : Hid (atI n om = a)) (x : Int) (om' : Option (List Int)) (e : Hid (oV om = (x, om'))) (a' : Int) (ea' : Hid (atI n om' = a')) :
  Calls Tryz.prog 31 #[.slice p n c, .int .i64 a] w fun e w' => e = .returned (.tuple #[.int .u64 x, .int .i64 a']) ∧ w' = w := by
 have e1 := uh ea
 have e2 := uh ea'
 subst e1 e2
 exact readVar_o p c n l en w h (uh hb) hl om (uh hs) x om' e
theorem oB_at (p : Option Addr) (c n : Nat) (l : List Int) (en : Hid (l.length = n)) (w : World) (h : Rd w (.slice p n c) l) (hb : Hid (Byt l)) (hl : n ≤ 1048576) (om : Option (List Int)) (hs : Hid (Sfx n l om)) (a : Int) (ea : Hid (atI n om = a)) (x : Int) (om' : Option (List Int)) (e : Hid (oB om = (x, om'))) (a' : Int) (ea' : Hid (atI n om' = a')) :
  Calls Tryz.prog 33 #[.slice p n c, .int .i64 a] w fun e w' => e = .returned (.tuple #[.int .i64 x, .int .i64 a']) ∧ w' = w := by
 have e1 := uh ea
 have e2 := uh ea'
 subst e1 e2
 exact readByte_o p c n l en w h (uh hb) hl om (uh hs) x om' e
theorem oT_at (p : Option Addr) (c n : Nat) (l : List Int) (en : Hid (l.length = n)) (w : World) (h : Rd w (.slice p n c) l) (hb : Hid (Byt l)) (hl : n ≤ 1048576) (hnc : n ≤ c) (om : Option (List Int)) (hs : Hid (Sfx n l om)) (a : Int) (ea : Hid (atI n om = a)) (x : List Int) (om' : Option (List Int)) (e : Hid (oT om = (x, om'))) (a' : Int) (ea' : Hid (atI n om' = a')) (N : Nat) (eN : Hid (x.length = N)) :
  Calls Tryz.prog 32 #[.slice p n c, .int .i64 a] w fun e w' => ∃ p' c', e = .returned (.tuple #[.slice p' N c', .int .i64 a']) ∧ Own w.heap.size w' (.slice p' N c') x ∧ Below w.heap.size w w' := by
 have e1 := uh ea
 have e2 := uh ea'
 subst e1 e2
 exact readText_o p c n l en w h (uh hb) hl hnc om (uh hs) x om' e N eN
theorem atI_neg {n : Nat} {l : List Int} {om : Option (List Int)} (hs : Sfx n l om) : (atI n om < 0 ↔ om = none) ∧ atI n om ≤ n ∧ -1 ≤ atI n om := by
 cases om with
 | none => simp [atI]
 | some m =>
  have := (hs m rfl).1
  simp only [atI]
  refine ⟨⟨fun h => by omega, fun h => by cases h⟩, by omega, by omega⟩
theorem bel_al {w u : World} (h : Below w.heap.size w u) (o : Obj) : Below w.heap.size w (u.alloc o) := h.alloc h.size o
theorem OwnT.app {α : Type} {el : World → α → List Value → List Lf → Prop} {ty : TypeId} {sz B : Nat} {V V3 : World} {v : Value} {xs : List α} {Ls : List (List Lf)} {x : α} {c : List Value} {l : List Lf} (h : OwnT el ty sz B V v xs Ls)
  (hst : ∀ w w' x c l, el w x c l → (∀ a ∈ l, w'.heap[a.b]? = w.heap[a.b]?) → el w' x c l) (hb : Below V.heap.size V V3) (hx : el V3 x c l) (hc : c.length = sz) (hA : Apt V.heap.size V3 l) (hB : B ≤ V.heap.size) :
  ∃ row, V3.ownsRow B ty sz v xs.length row ∧ ∀ v' w9, w9.ownsRow B ty sz v' (xs.length + 1) (row ++ c) → V3.grownBy w9 v.ownBlock → (∀ g, v'.ownBlock = some g → v.ownBlock = some g ∨ V3.heap.size ≤ g) →
   OwnT el ty sz B w9 v' (xs ++ [x]) (Ls ++ [l]) ∧ ∃ p c', v' = .slice p (xs.length + 1) c' := by
 have hl := h.lt
 obtain ⟨cs, g1, g2, g3, g4, g5, g6, g7⟩ := h.below hst hb
 refine ⟨cs.flatten, g4, fun v' w9 hrow hg hfr => ?_⟩
 have sn := OwnT.snoc g1 g2 g3 g5 g6 g7 hst hx hc hA hB (fun a ha => (hl.2 a ha).2) (fun b hb => (hl.1 b hb).2) hrow hg hfr
 refine ⟨sn, ?_⟩
 obtain ⟨p, c', e, -⟩ := sn.read
 rw [List.length_append] at e
 exact ⟨p, c', e⟩
theorem OwnT.putBox {α : Type} {el : World → α → List Value → List Lf → Prop} {ty : TypeId} {sz B sb : Nat} {w : World} {v : Value} {xs : List α} {Ls : List (List Lf)} (h : OwnT el ty sz B w v xs Ls)
  (hst : ∀ w w' x c l, el w x c l → (∀ a ∈ l, w'.heap[a.b]? = w.heap[a.b]?) → el w' x c l) (hs : sb < B) (j : Nat) (u : Value) : OwnT el ty sz B (w.setCell ⟨sb, j, none⟩ u) v xs Ls :=
 h.keep (hst _ _) (by simp) (fun b hb => RowKit.Below.heap_setCell _ _ _ _ (by have := (h.lt.1 b hb).1; simp; omega)) (fun a ha => RowKit.Below.heap_setCell _ _ _ _ (by have := (h.lt.2 a ha).1; simp; omega))
theorem elSe.id (w : World) (i : Int) : elSe w (idS i) [.int .u64 i, .int .i64 0, .slice none 0 0] [] := ⟨none, 0, rfl, ⟨none, 0, rfl, .inl rfl⟩, ⟨none, 0, [], rfl, rfl, rfl, .inl rfl⟩⟩
theorem cells_new {w : World} {cs : List Value} {t : TypeId} : ∀ j u, cs[j]? = some u → (w.alloc (.cells cs.toArray t)).cell? ⟨w.heap.size, j, none⟩ = some u := fun j u hu => (CellsAre.alloc w cs.toArray t).1 j u (by simpa using hu)
theorem spNods_no {k : Nat} {o : Option (List Int)} (h : spNods k o = none) : ∀ j, k ≤ j → spNods j o = none := by
 intro j hj
 induction j with
 | zero => rw [show k = 0 by omega] at h; exact h
 | succ j ih =>
  by_cases e : k = j + 1
  ·rw [← e]; exact h
  ·rw [spNods, ih (by omega)]; rfl
theorem spNods_step {k : Nat} {o om om' : Option (List Int)} {ns : List Nod} {nd : Nod} (h : spNods k o = some (ns, om)) (h2 : spNod om = some (nd, om')) : spNods (k + 1) o = some (ns ++ [nd], om') := by
 rw [spNods, h]
 simp only [Option.bind_some, h2, Option.map_some]
theorem spNods_stop {k : Nat} {o om : Option (List Int)} {ns : List Nod} (h : spNods k o = some (ns, om)) (h2 : spNod om = none) : spNods (k + 1) o = none := by
 rw [spNods, h]
 simp only [Option.bind_some, h2, Option.map_none]
theorem OwnU.snoc {B : Nat} {w : World} {v : Value} {l : List Int} {d : Int} {k : Nat} (hk : l.length = k) (h : w.ownsRow B 23 1 v (k + 1) (l.map (Value.int .u64) ++ [.int .u64 d])) : OwnU B w v (l ++ [d]) := by
 unfold OwnU
 rw [List.length_append, List.map_append, hk]
 exact h
theorem PU.nil (w : World) (M N : Nat) : PU w M N (.slice none 0 0) [] [] := ⟨⟨none, 0, rfl, .inl rfl⟩, ⟨none, 0, [], rfl, rfl, rfl, .inl rfl⟩, Apt.nil _ _, fun a ha => by simp at ha⟩
theorem Rdr.keep {w w' : World} {R : Nat} {m : List Int} {n : Nat} {sh : Bool} (h : Rdr w R m n sh) (hk : ∀ b, b ≤ R → w'.heap[b]? = w.heap[b]?) : Rdr w' R m n sh := by
 obtain ⟨h1, h2, p, c, ⟨h3, h4⟩, h5, h6⟩ := h
 have e := cell_at_heap (hk R (Nat.le_refl _))
 refine ⟨h1, fun o => (World.frozen?_of_block (hk R (Nat.le_refl _))).trans (h2 o), p, c, ⟨(e 0).trans h3, (e 1).trans h4⟩, ?_, h6⟩
 rcases h5 with h5 | ⟨b, o, hb, hp, h5⟩
 ·exact .inl h5
 ·exact .inr ⟨b, o, hb, hp, fun i hi => (cell_at_heap (hk b (by omega)) _).trans (h5 i hi)⟩
theorem Rdr.below {w w' : World} {R B : Nat} {m : List Int} {n : Nat} {sh : Bool} (h : Rdr w R m n sh) (hb : Below B w w') (hR : R < B) : Rdr w' R m n sh := h.keep fun b hbR => hb.block b (by omega)
theorem Kept.blkR {R : Nat} {w w' : World} (h : Kept [blk R] w w') {b : Nat} (hb : b < w.heap.size) (hne : b ≠ R) : w'.heap[b]? = w.heap[b]? := h.block b hb fun v hv e => by
 simp only [List.mem_singleton] at hv
 subst hv
 simp [Value.ownBlock] at e
 exact hne e.symm
theorem OwnU.keptR {B R : Nat} {w w' : World} {v : Value} {l : List Int} (h : OwnU B w v l) (hk : Kept [blk R] w w') (hR : R < B) : OwnU B w' v l := by
 refine ⟨h.1, ?_⟩
 rcases h.2 with hn | ⟨g, cap, cur, rfl, hb, hg, rest⟩
 ·exact .inl hn
 ·exact .inr ⟨g, cap, cur, rfl, hb, (hk.blkR (Array.getElem?_eq_some_iff.1 hg).1 (by omega)).trans hg, rest⟩
theorem OwnT.keptR {α : Type} {el : World → α → List Value → List Lf → Prop} {ty : TypeId} {sz B R : Nat} {w w' : World} {v : Value} {xs : List α} {Ls : List (List Lf)} (h : OwnT el ty sz B w v xs Ls)
  (hst : ∀ w w' x c l, el w x c l → (∀ a ∈ l, w'.heap[a.b]? = w.heap[a.b]?) → el w' x c l) (hk : Kept [blk R] w w') (hR : R < B) : OwnT el ty sz B w' v xs Ls :=
 h.keep (hst _ _) hk.size (fun b hb => hk.blkR (h.lt.1 b hb).2 (by have := (h.lt.1 b hb).1; omega)) (fun a ha => hk.blkR (h.lt.2 a ha).2 (by have := (h.lt.2 a ha).1; omega))
theorem OwnT.appM {α : Type} {el : World → α → List Value → List Lf → Prop} {ty : TypeId} {sz B M : Nat} {V3 : World} {v : Value} {xs : List α} {Ls : List (List Lf)} {x : α} {c : List Value} {l : List Lf} (h : OwnT el ty sz B V3 v xs Ls)
  (hst : ∀ w w' x c l, el w x c l → (∀ a ∈ l, w'.heap[a.b]? = w.heap[a.b]?) → el w' x c l) (hx : el V3 x c l) (hc : c.length = sz) (hA : Apt M V3 l) (hB : B ≤ M) (hM : ∀ a ∈ Ls.flatten, a.b < M) (hvM : ∀ b, v.ownBlock = some b → b < M) :
  ∃ row, V3.ownsRow B ty sz v xs.length row ∧ ∀ v' w9, w9.ownsRow B ty sz v' (xs.length + 1) (row ++ c) → V3.grownBy w9 v.ownBlock → (∀ g, v'.ownBlock = some g → v.ownBlock = some g ∨ V3.heap.size ≤ g) →
   OwnT el ty sz B w9 v' (xs ++ [x]) (Ls ++ [l]) ∧ ∃ p c', v' = .slice p (xs.length + 1) c' := by
 obtain ⟨cs, g1, g2, g3, g4, g5, g6, g7⟩ := h
 refine ⟨cs.flatten, g4, fun v' w9 hrow hg hfr => ?_⟩
 have sn := OwnT.snoc g1 g2 g3 g5 g6 g7 hst hx hc hA hB hM hvM hrow hg hfr
 refine ⟨sn, ?_⟩
 obtain ⟨p, c', e, -⟩ := sn.read
 rw [List.length_append] at e
 exact ⟨p, c', e⟩
theorem PB.keptR {w w' : World} {M N R : Nat} {v : Value} {xs : List Int} {A : List Lf} (h : PB w M N v xs A) (hk : Kept [blk R] w w') (hR : R < M) : PB w' M N v xs A :=
 have k : ∀ a ∈ A, w'.heap[a.b]? = w.heap[a.b]? := fun a ha => hk.blkR (h.ap.inn.lt ha) (by have := h.ap.lo a ha; omega)
 ⟨h.rd.keepLv h.lv k, h.cap, h.lv, h.ap.keep k, h.hi⟩
theorem PU.keptR {w w' : World} {M N R : Nat} {v : Value} {xs : List Int} {A : List Lf} (h : PU w M N v xs A) (hk : Kept [blk R] w w') (hR : R < M) : PU w' M N v xs A :=
 have k : ∀ a ∈ A, w'.heap[a.b]? = w.heap[a.b]? := fun a ha => hk.blkR (h.ap.inn.lt ha) (by have := h.ap.lo a ha; omega)
 ⟨h.rd.keepLv h.lv k, h.lv, h.ap.keep k, h.hi⟩
theorem CellsAre.keptR {w w' : World} {b R : Nat} {vs : List Value} (h : CellsAre w b vs) (hk : Kept [blk R] w w') (hb : b < w.heap.size) (hne : b ≠ R) : CellsAre w' b vs :=
 ⟨fun i v hi => (cell_at_heap (hk.blkR hb hne) _).trans (h.1 i v hi), fun o => (World.frozen?_of_block (hk.blkR hb hne)).trans (h.2 o)⟩
theorem Kept.grownR {R : Nat} {w w1 w2 : World} {row : Option Nat} (h : Kept [blk R] w w1) (hg : w1.grownBy w2 row) (hr : ∀ k, row = some k → w.heap.size ≤ k) : Kept [blk R] w w2 :=
 ⟨hg.os.trans h.os, hg.tape.trans h.tape, hg.output.trans h.output, Nat.le_trans h.size hg.size, fun k hk hv => (hg.block k (Nat.lt_of_lt_of_le hk h.size) (fun e => by have := hr k e.symm; omega)).trans (h.block k hk hv)⟩
theorem Kept.setN {R : Nat} {w w1 : World} (h : Kept [blk R] w w1) {a : Addr} (ha : w.heap.size ≤ a.block) (v : Value) : Kept [blk R] w (w1.setCell a v) :=
 h.grownR (grown_set w1 a v) fun k e => by cases e; exact ha
set_option maxHeartbeats 1600000 in
theorem session_any (R : Nat) (m : List Int) (n : Nat) (sh : Bool) (w : World) (h : Rdr w R m n sh) (hR : R < w.heap.size) (hb : Byt m) (hl : n ≤ 1048576) (x : Int) (m' : List Int) (sh' : Bool) (e : Hid (sNs (m, sh) = (x, m', sh'))) :
  Calls Tryz.prog 38 #[.pointer (some ⟨R, 0, none⟩)] w fun e w' => e = .returned (.agg #[.int .u64 x, .int .i64 0, .slice none 0 0]) ∧ Rdr w' R m' m'.length sh' ∧ Kept [blk R] w w' := by
 obtain ⟨W, hW⟩ : ∃ W, W = (w.alloc (.cells #[.int .u64 0, .int .i64 0, .slice none 0 0] 59)) := ⟨_, rfl⟩
 have bW : Below w.heap.size w W := by rw [hW]; exact (Below.refl _ _).alloc (Nat.le_refl _) _
 have hC : CellsAre W w.heap.size [.int .u64 0, .int .i64 0, .slice none 0 0] := by rw [hW]; exact CellsAre.alloc w #[.int .u64 0, .int .i64 0, .slice none 0 0] _
 have zW : W.heap.size = w.heap.size + 1 := by rw [hW]; simp
 go_enter Tryz.func38, Tryz.ntmps38
 go_wp2_with fail
 rw [← hW]
 clear hW
 refine (number_any R m n sh _ (h.below bW hR) hb hl x m' sh' e).mono ?_
 rintro r w1 ⟨rfl, hR1, hk1⟩
 have C1 := hC.keptR hk1 (by omega) (by omega)
 have KK := hide ((Kept.of_below (vs := [blk R]) bW).trans hk1)
 have HR1 := hide hR1
 have r0 := C1.1 0 _ rfl
 have r1 := C1.1 1 _ rfl
 have r2 := C1.1 2 _ rfl
 have rf := C1.2
 clear hC hk1 hR1 C1 h
 go_wp2
 refine bodyPost_ret (v := .agg #[.int .u64 x, .int .i64 0, .slice none 0 0]) (by simp [results, Tryz.results38, go_sem, r0, r1, r2]) rfl ⟨rfl, ?_, ?_⟩
 ·exact (uh HR1).keep fun b hb => by iterate 3 rw [RowKit.Below.heap_setCell _ _ _ _ (by simp; omega)]
 ·exact (((uh KK).setN (by simp) _).setN (by simp) _).setN (by simp) _
end Go.Proofs.YtnbgnhhnpmmloaaGreatDoor
