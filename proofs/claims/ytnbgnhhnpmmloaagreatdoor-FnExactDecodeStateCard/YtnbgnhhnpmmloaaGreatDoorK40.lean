import Derived.Test.YtnbgnhhnpmmloaaGreatDoorK38
import Derived.Test.YtnbgnhhnpmmloaaGreatDoorK39
namespace Go.Proofs.YtnbgnhhnpmmloaaGreatDoor
open Go.ChangeShapes Go.WideShapes Go.ChangeAt Go.RowKit
set_option linter.unusedVariables false
set_option linter.unusedSimpArgs false
set_option maxRecDepth 100000
theorem blk_below {w w' : World} {b : Nat} {o : Obj} (h : w.heap[b]? = some o) (hb : Below w.heap.size w w') : w'.heap[b]? = some o := (hb.block b (Array.getElem?_eq_some_iff.1 h).1).trans h
theorem blk_new (w : World) (o : Obj) : (w.alloc o).heap[w.heap.size]? = some o := by unfold World.alloc; simp
theorem blk_grown {w w' : World} {B : Nat} {v : Value} {l : List Int} (ho : Own B w v l) (hg : w.grownBy w' v.ownBlock) : ∀ (b : Nat) (cs : Array Value) (t : TypeId), t ≠ 5 → w.heap[b]? = some (.cells cs t) → w'.heap[b]? = some (.cells cs t) := fun b cs t ht h => by
 refine (hg.block b (Array.getElem?_eq_some_iff.1 h).1 fun e => ?_).trans h
 rcases ho.2 with ⟨rfl, -⟩ | ⟨g, cap, cur, rfl, -, hh, -⟩
 ·simp [Value.ownBlock] at e
 ·simp only [Value.ownBlock, Option.some.injEq] at e
  subst e
  rw [h] at hh
  simp only [Option.some.injEq, Obj.cells.injEq] at hh
  exact ht hh.2.1
def KeptB (w w' : World) : Prop := ∀ (b : Nat) (cs : Array Value) (t : TypeId), t ≠ 5 → w.heap[b]? = some (.cells cs t) → w'.heap[b]? = some (.cells cs t)
theorem wpList_app {w0 w : World} {ops : Array Oper} {rest : List Oper} {o : Oper} {a : Act} {Q : Exit → Act → World → Prop} (hgd : o.guard = none) (s x : Operand)
  (ho : o.op = .call { callee := .builtin .append, args := #[s, x], argTypes := #[22, 22] })
  (hB : Hid (Below w0.heap.size w0 w)) (v : Value) (l m lm : List Int) (elm : Hid (lm = l ++ m)) (p : Option Addr) (c k : Nat) (hk : Hid (m.length = k)) (L : Nat) (eL : Hid (l.length = L)) (L' : Nat) (eL' : Hid (L' = L + k)) (hs : a.eval s = v) (hx : a.eval x = .slice p k c) (hown : Hid (Own w0.heap.size w v l)) (hr : Hid (Rd w (.slice p k c) m))
  (hl : L + k ≤ 4194304)
  (hK : ∀ p' c' w', Hid (Own w0.heap.size w' (.slice p' L' c') lm) → Hid (lm.length = L') → Hid (Below w0.heap.size w0 w') → Hid (KeptB w w') → wpList Tryz.prog ops Q rest (a.put o.dst (.slice p' L' c')) w') : wpList Tryz.prog ops Q (o :: rest) a w := by
 have e1 : lm.length = L' := by rw [uh elm, List.length_append, uh eL, uh hk, uh eL']
 refine wpList_append_rdn hgd s x ho w0.heap.size v l m lm elm p c k hk hs hx (uh hown) (uh hr) (by rw [uh eL, uh hk]; exact hl) (uh hB).size ?_
 intro p' c' w' h1 h2
 rw [e1] at h1 ⊢
 exact hK p' c' w' h1 e1 (below_grown (uh hB) h2 (uh hown) (Nat.le_refl _) (uh hB).size) (blk_grown (uh hown) h2)
theorem wpList_appb {w0 u : World} {ops : Array Oper} {rest : List Oper} {o : Oper} {a : Act} {Q : Exit → Act → World → Prop} (hgd : o.guard = none) (s x : Operand)
  (ho : o.op = .call { callee := .builtin .append, args := #[s, x], argTypes := #[22, 22] })
  (hB : Hid (Below w0.heap.size w0 u)) (v : Value) (l lm : List Int) (y : Int) (elm : Hid (lm = l ++ [y])) (L : Nat) (eL : Hid (l.length = L)) (L' : Nat) (eL' : Hid (L' = L + 1)) (hs : a.eval s = v) (hx : a.eval x = .slice (some ⟨u.heap.size, 0, none⟩) 1 1) (hown : Hid (Own w0.heap.size u v l))
  (hl : L < 4194304)
  (hK : ∀ p' c' w', Hid (Own w0.heap.size w' (.slice p' L' c') lm) → Hid (lm.length = L') → Hid (Below w0.heap.size w0 w') → Hid (KeptB u w') → wpList Tryz.prog ops Q rest (a.put o.dst (.slice p' L' c')) w') : wpList Tryz.prog ops Q (o :: rest) a (u.alloc (.cells #[.int .u8 y] 5)) := by
 have e1 : lm.length = L' := by rw [uh elm, List.length_append, uh eL, uh eL']; rfl
 have hb : Below u.heap.size u (u.alloc (.cells #[.int .u8 y] 5)) := (Below.refl _ _).alloc (Nat.le_refl _) _
 have ho2 := (uh hown).below hb
 have hB2 := Below.step (uh hB) hb
 refine wpList_append_byte hgd s x ho w0.heap.size v l lm y elm u.heap.size hs hx ho2 (by simp) (by rw [uh eL]; exact hl) hB2.size ?_
 intro p' c' w' h1 h2
 rw [e1] at h1 ⊢
 exact hK p' c' w' h1 e1 (below_grown hB2 h2 ho2 (Nat.le_refl _) hB2.size) fun b cs t ht h => blk_grown ho2 h2 b cs t ht (blk_below h hb)
theorem St6.of_blk {w : World} {b : Nat} {e g x t : Int} {S N : Value} {ty : TypeId} (h : w.heap[b]? = some (.cells #[.int .u64 e, .int .u64 g, .int .u64 x, .int .i64 t, S, N] ty)) : St6 w b e g x t S N := ⟨cells_at h 0, cells_at h 1, cells_at h 2, cells_at h 3, cells_at h 4, cells_at h 5⟩
theorem At8.of_blk {w : World} {b : Nat} {v0 v1 v2 v3 v4 v5 v6 v7 : Value} {ty : TypeId} (h : w.heap[b]? = some (.cells #[v0, v1, v2, v3, v4, v5, v6, v7] ty)) : At8 w b v0 v1 v2 v3 v4 v5 v6 v7 := ⟨cells_at h 0, cells_at h 1, cells_at h 2, cells_at h 3, cells_at h 4, cells_at h 5, cells_at h 6, cells_at h 7⟩
theorem l3varN (v : Nat) (w : World) (h64 : v < 18446744073709551616) (M : Nat) (eM : Hid ((vi v).length = M)) :
  Calls Tryz.prog 79 #[.int .u64 v] w fun e w' => ∃ p' c', e = .returned (.slice p' M c') ∧ Own w.heap.size w' (.slice p' M c') (vi v) ∧ Below w.heap.size w w' := l3var_any 9 v w (by omega) h64 (by omega) M eM
def U64 (i : Int) : Prop := 0 ≤ i ∧ i < 18446744073709551616
structure RgN (nd : Nod) : Prop where
 by0 : Byt nd.path
 by1 : Byt nd.value
 l0 : nd.path.length ≤ 1048576
 l1 : nd.value.length ≤ 1048576
 l4 : nd.holders.length ≤ 1048576
 l7 : nd.watchers = []
 ow : U64 nd.owner
 ep : U64 nd.epoch
 ge : U64 nd.gen
 ho : ∀ i ∈ nd.holders, U64 i
 mo : 0 ≤ nd.mode ∧ nd.mode < 256
theorem oV_u64 {om : Option (List Int)} : U64 (oV om).1 := oV_range
theorem rL_all {α σ : Type} (f : σ → α × σ) (P : α → Prop) (I : σ → Prop) (hf : ∀ s, I s → P (f s).1 ∧ I (f s).2) (k : Nat) (o : σ) (ho : I o) : (∀ x ∈ (rL f k o).1, P x) ∧ I (rL f k o).2 := by
 induction k with
 | zero => exact ⟨fun x hx => by simp [rL] at hx, ho⟩
 | succ k ih =>
  rw [rL]
  obtain ⟨h1, h2⟩ := hf _ ih.2
  refine ⟨fun x hx => ?_, h2⟩
  rcases List.mem_append.1 hx with hx | hx
  ·exact ih.1 x hx
  ·rw [List.mem_singleton] at hx; rw [hx]; exact h1
theorem spNod_rg {n : Nat} {l : List Int} (en : l.length = n) (hb : Byt l) (hl : n ≤ 1048576) {o o' : Option (List Int)} {nd : Nod} (hs : Sfx n l o) (h : spNod o = some (nd, o')) : RgN nd ∧ Sfx n l o' ∧ nd.holders.length ≤ 50 := by
 rw [spNod] at h
 have s1 := oT_sfx en hs
 have s2 := oT_sfx en s1
 have s3 := oV_sfx en s2
 have s4 := oB_sfx en s3
 have s5 := oV_sfx en s4
 have t0 := oT_byt hb hs
 have t1 := oT_byt hb s1
 have m0 := oB_range hb s3
 simp only at h
 split at h
 ·cases h
 ·next hc =>
  simp only [Option.some.injEq, Prod.mk.injEq] at h
  obtain ⟨rfl, rfl⟩ := h
  obtain ⟨r1, r2⟩ := rL_all oV U64 (Sfx n l) (fun s hs => ⟨oV_u64, oV_sfx en hs⟩) (oV (oB (oV (oT (oT o).2).2).2).2).1.toNat _ s5
  have hlen := rL_len oV (oV (oB (oV (oT (oT o).2).2).2).2).1.toNat (oV (oB (oV (oT (oT o).2).2).2).2).2
  have h50 : (rL oV (oV (oB (oV (oT (oT o).2).2).2).2).1.toNat (oV (oB (oV (oT (oT o).2).2).2).2).2).1.length ≤ 50 := by rw [hlen]; simp only [not_or, Int.not_lt] at hc; omega
  exact ⟨⟨t0.1, t1.1, by have := t0.2; simp only; omega, by have := t1.2; simp only; omega, by simp only; omega, rfl, oV_u64, oV_u64, oV_u64, r1, m0⟩, oV_sfx en (oV_sfx en r2), h50⟩
theorem spNods_rg {n : Nat} {l : List Int} (en : l.length = n) (hb : Byt l) (hl : n ≤ 1048576) (k : Nat) {o o' : Option (List Int)} {ns : List Nod} (hs : Sfx n l o) (h : spNods k o = some (ns, o')) : (∀ nd ∈ ns, RgN nd) ∧ Sfx n l o' ∧ ns.length = k := by
 induction k generalizing ns o' with
 | zero =>
  simp only [spNods, Option.some.injEq, Prod.mk.injEq] at h
  obtain ⟨rfl, rfl⟩ := h
  exact ⟨fun nd hnd => (by simp at hnd), hs, rfl⟩
 | succ k ih =>
  rw [spNods] at h
  cases h1 : spNods k o with
  | none => rw [h1] at h; cases h
  | some r =>
   obtain ⟨r1, r2⟩ := r
   rw [h1] at h
   obtain ⟨g1, g2, g3⟩ := ih h1
   simp only [Option.bind_some] at h
   cases h2 : spNod r2 with
   | none => rw [h2] at h; cases h
   | some q =>
    obtain ⟨q1, q2⟩ := q
    rw [h2] at h
    simp only [Option.map_some, Option.some.injEq, Prod.mk.injEq] at h
    obtain ⟨rfl, rfl⟩ := h
    obtain ⟨e1, e2, -⟩ := spNod_rg en hb hl g2 h2
    refine ⟨fun nd hnd => ?_, e2, by rw [List.length_append, g3]; rfl⟩
    rcases List.mem_append.1 hnd with hnd | hnd
    ·exact g1 nd hnd
    ·rw [List.mem_singleton] at hnd; rw [hnd]; exact e1
def Okf {α : Type} (f : Rs → α × Rs) (P : α → Prop) : Prop := ∀ s : Rs, Byt s.1 → s.1.length ≤ 1048576 → P (f s).1 ∧ Byt (f s).2.1 ∧ (f s).2.1.length ≤ s.1.length ∧ ((f s).2.2 = false → (f s).2.1.length < s.1.length)
theorem sNs_ok : Okf sNs U64 := fun s hb hl => by
 obtain ⟨h1, h2, h3, h4⟩ := sN_byt 10 0 0 s.1 s.2 hb (by omega)
 refine ⟨⟨h3, h4⟩, h1, h2, fun hs => ?_⟩
 obtain ⟨m, sh⟩ := s
 cases m with
 | nil =>
  have : (sNs (([], sh) : Rs)).2.2 = true := by
   unfold sNs
   show (sN 10 0 0 [] sh).2.2 = true
   rw [sN]
   simp [sB]
  rw [this] at hs
  cases hs
 | cons c t =>
  show (sN 10 0 0 (c :: t) sh).2.1.length < _
  rw [sN]
  split
  ·simp [sB]
  ·have := (sN_byt 9 (0 + 1) (accN 0 0 c) t sh (fun z hz => hb z (by simp [hz])) (accN_range _ _ _)).2.1
   simp only [sB, List.length_cons]
   omega
theorem lfK_ok {α : Type} {f : Rs → α × Rs} {P : α → Prop} (hf : Okf f P) : ∀ (k : Nat) (acc : List α) (s : Rs), Byt s.1 → s.1.length ≤ 1048576 → (∀ x ∈ acc, P x) → (∀ x ∈ (lfK f k acc s).1, P x) ∧ Byt (lfK f k acc s).2.1 ∧ (lfK f k acc s).2.1.length ≤ s.1.length ∧ (lfK f k acc s).1.length ≤ acc.length + s.1.length
 | 0, acc, s, hb, hl, ha => ⟨ha, hb, Nat.le_refl _, Nat.le_add_right _ _⟩
 | k + 1, acc, s, hb, hl, ha => by
  obtain ⟨h1, h2, h3, h4⟩ := hf s hb hl
  rw [lfK]
  split
  ·exact ⟨fun x hx => (by simp at hx), h2, h3, Nat.zero_le _⟩
  ·next hs =>
   have hs' : (f s).2.2 = false := by simpa using hs
   have h5 := h4 hs'
   obtain ⟨g1, g2, g3, g4⟩ := lfK_ok hf k (acc ++ [(f s).1]) (f s).2 h2 (by omega) fun x hx => by
    rcases List.mem_append.1 hx with hx | hx
    ·exact ha x hx
    ·rw [List.mem_singleton] at hx; rw [hx]; exact h1
   refine ⟨g1, g2, by omega, ?_⟩
   rw [List.length_append] at g4
   simp only [List.length_cons, List.length_nil] at g4
   omega
theorem lF_ok {α : Type} {f : Rs → α × Rs} {P : α → Prop} (hf : Okf f P) (s : Rs) (hb : Byt s.1) (hl : s.1.length ≤ 1048576) : (∀ x ∈ (lF f s).1, P x) ∧ Byt (lF f s).2.1 ∧ (lF f s).2.1.length ≤ s.1.length ∧ (lF f s).1.length ≤ s.1.length := by
 obtain ⟨h1, h2, h3, h4⟩ := sNs_ok s hb hl
 obtain ⟨g1, g2, g3, g4⟩ := lfK_ok hf (sNs s).1.toNat [] (sNs s).2 h2 (by omega) fun x hx => (by simp at hx)
 simp only [List.length_nil] at g4
 exact ⟨g1, g2, Nat.le_trans g3 h3, by unfold lF; omega⟩
def SesR (s : Ses) : Prop := U64 s.1 ∧ s.2 = (0, [])
theorem sSe_ok : Okf sSe SesR := fun s hb hl => by
 obtain ⟨h1, h2, h3, h4⟩ := sNs_ok s hb hl
 exact ⟨⟨h1, rfl⟩, h2, h3, h4⟩
theorem sNo_ok : Okf sNo RgN := fun s hb hl => by
 obtain ⟨a1, a2, a3, a4⟩ := sT_byt (sh := s.2) hb
 obtain ⟨b1, b2, b3, b4⟩ := sT_byt (sh := (sT s.1 s.2).2.2) a2
 obtain ⟨c1, c2, c3, c4⟩ := sNs_ok (sT (sT s.1 s.2).2.1 (sT s.1 s.2).2.2).2 b2 (by omega)
 obtain ⟨d1, d2, d3, d4⟩ := sB_byt (sh := (sNs (sT (sT s.1 s.2).2.1 (sT s.1 s.2).2.2).2).2.2) c2
 obtain ⟨e1, e2, e3, e4⟩ := lF_ok sNs_ok (sB (sNs (sT (sT s.1 s.2).2.1 (sT s.1 s.2).2.2).2).2.1 (sNs (sT (sT s.1 s.2).2.1 (sT s.1 s.2).2.2).2).2.2).2 d1 (by omega)
 obtain ⟨f1, f2, f3, f4⟩ := sNs_ok (lF sNs (sB (sNs (sT (sT s.1 s.2).2.1 (sT s.1 s.2).2.2).2).2.1 (sNs (sT (sT s.1 s.2).2.1 (sT s.1 s.2).2.2).2).2.2).2).2 e2 (by omega)
 obtain ⟨g1, g2, g3, g4⟩ := sNs_ok (sNs (lF sNs (sB (sNs (sT (sT s.1 s.2).2.1 (sT s.1 s.2).2.2).2).2.1 (sNs (sT (sT s.1 s.2).2.1 (sT s.1 s.2).2.2).2).2.2).2).2).2 f2 (by omega)
 refine ⟨⟨a1, b1, by show _ ≤ _; simp only [sNo]; omega, by show _ ≤ _; simp only [sNo]; omega, by show _ ≤ _; simp only [sNo]; omega, rfl, c1, f1, g1, e1, ⟨d2, d3⟩⟩, g2, ?_, fun hs => ?_⟩
 ·show (sNs (sNs (lF sNs (sB (sNs (sT (sT s.1 s.2).2.1 (sT s.1 s.2).2.2).2).2.1 (sNs (sT (sT s.1 s.2).2.1 (sT s.1 s.2).2.2).2).2.2).2).2).2).2.1.length ≤ _
  omega
 ·have := g4 hs
  show (sNs (sNs (lF sNs (sB (sNs (sT (sT s.1 s.2).2.1 (sT s.1 s.2).2.2).2).2.1 (sNs (sT (sT s.1 s.2).2.1 (sT s.1 s.2).2.2).2).2.2).2).2).2).2.1.length < _
  omega
theorem rg_sml {e g x t : Int} {ss : List Ses} {ns : List Nod} (h : stOK e g x t ss ns = true) (hr : ∀ nd ∈ ns, RgN nd) : Sml ss ns :=
 sml_of h (fun nd hnd => ⟨(hr nd hnd).ho, fun i hi => by rw [(hr nd hnd).l7] at hi; simp at hi⟩) (fun nd hnd => (hr nd hnd).ow) (fun nd hnd => ⟨(hr nd hnd).ep, (hr nd hnd).ge⟩)
theorem spec_impl {l : List Int} (hb : Byt l) (hl : l.length ≤ 1048576) : specP l = implP l := by
 have tu : ∀ s, specP l = some s → implP l = some s := fun s h => by
  rw [specP] at h
  cases hr : spSt l with
  | none => rw [hr] at h; cases h
  | some r =>
   rw [hr, Option.bind_some] at h
   split at h
   ·next hc =>
    obtain ⟨⟨e, g, x⟩, ss, ns, o⟩ := r
    simp only [Option.some.injEq] at h hc
    obtain ⟨-, hok, hB⟩ := hc
    have hst := hr
    rw [spSt] at hst
    simp only at hst
    have q1 := Sfx.start (n := l.length) (l := l) rfl
    have q2 := oV_sfx rfl q1
    have q3 := oV_sfx rfl q2
    have q4 := oV_sfx rfl q3
    have q5 := oV_sfx rfl q4
    split at hst
    ·cases hst
    ·obtain ⟨u1, u2⟩ := rL_all oV U64 (Sfx l.length l) (fun s hs => ⟨oV_u64, oV_sfx rfl hs⟩) (oV (oV (oV (oV (some l)).2).2).2).1.toNat _ q5
     split at hst
     ·cases hst
     ·rw [Option.map_eq_some_iff] at hst
      obtain ⟨⟨r1, r2⟩, h3, h4⟩ := hst
      obtain ⟨v1, -, -⟩ := spNods_rg rfl hb hl _ (oV_sfx rfl u2) h3
      simp only [Prod.mk.injEq] at h4
      obtain ⟨⟨rfl, rfl, rfl⟩, rfl, rfl, rfl⟩ := h4
      have hS := rg_sml hok v1
      have z1 := oV_u64 (om := some l)
      have z2 := oV_u64 (om := (oV (some l)).2)
      have z3 := oV_u64 (om := (oV (oV (some l)).2).2)
      have w1 : ∀ s ∈ ((rL oV (oV (oV (oV (oV (some l)).2).2).2).1.toNat (oV (oV (oV (oV (some l)).2).2).2).2).1.map idS), s.2 = (0, []) := fun s hs => by
       obtain ⟨i, -, rfl⟩ := List.mem_map.1 hs
       rfl
      have him := imSt_read (e := (oV (some l)).1.toNat) (g := (oV (oV (some l)).2).1.toNat) (x := (oV (oV (oV (some l)).2).2).1.toNat) (by have := z1.2; have := z1.1; omega) (by have := z2.2; have := z2.1; omega) (by have := z3.2; have := z3.1; omega) hS w1 (fun nd hnd => (v1 nd hnd).l7)
      rw [hB, Int.toNat_of_nonneg z1.1, Int.toNat_of_nonneg z2.1, Int.toNat_of_nonneg z3.1] at him
      rw [implP]
      simp only [him]
      rw [if_pos ⟨trivial, by rw [encR, if_pos hok]; exact hB⟩, ← h]
   ·cases h
 have fro : ∀ s, implP l = some s → specP l = some s := fun s h => by
  rw [implP] at h
  split at h
  ·next hc =>
   obtain ⟨hsh, hE⟩ := hc
   have hok : stOK (imSt l).1.1 (imSt l).1.2.1 (imSt l).1.2.2 0 (imSt l).2.1 (imSt l).2.2.1 = true := by
    by_cases hk : stOK (imSt l).1.1 (imSt l).1.2.1 (imSt l).1.2.2 0 (imSt l).2.1 (imSt l).2.2.1 = true
    ·exact hk
    ·rw [encR, if_neg hk] at hE
     rw [← hE, imSt_nil] at hsh
     cases hsh
   rw [encR, if_pos hok] at hE
   obtain ⟨a1, a2, a3, -⟩ := sNs_ok (l, false) hb hl
   obtain ⟨b1, b2, b3, -⟩ := sNs_ok (sNs (l, false)).2 a2 (by simp only at a3; omega)
   obtain ⟨c1, c2, c3, -⟩ := sNs_ok (sNs (sNs (l, false)).2).2 b2 (by simp only at a3; omega)
   obtain ⟨d1, d2, d3, -⟩ := lF_ok sSe_ok (sNs (sNs (sNs (l, false)).2).2).2 c2 (by simp only at a3; omega)
   obtain ⟨e1, -⟩ := lF_ok sNo_ok (lF sSe (sNs (sNs (sNs (l, false)).2).2).2).2 d2 (by simp only at a3; omega)
   have hS := rg_sml hok e1
   have hsp := spSt_read (e := (imSt l).1.1.toNat) (g := (imSt l).1.2.1.toNat) (x := (imSt l).1.2.2.toNat) (by have := a1.2; have := a1.1; show (sNs (l, false)).1.toNat < _; omega) (by have := b1.2; have := b1.1; show (sNs (sNs (l, false)).2).1.toNat < _; omega) (by have := c1.2; have := c1.1; show (sNs (sNs (sNs (l, false)).2).2).1.toNat < _; omega) hS (fun s hs => (d1 s hs).2) (fun nd hnd => (e1 nd hnd).l7)
   rw [hE, Int.toNat_of_nonneg (show 0 ≤ (imSt l).1.1 from a1.1), Int.toNat_of_nonneg (show 0 ≤ (imSt l).1.2.1 from b1.1), Int.toNat_of_nonneg (show 0 ≤ (imSt l).1.2.2 from c1.1)] at hsp
   rw [specP, hsp, Option.bind_some, if_pos ⟨by simp, hok, hE⟩]
   exact h
  ·cases h
 cases h : specP l with
 | some s => exact (tu s h).symm
 | none =>
  cases h2 : implP l with
  | none => rfl
  | some s => rw [fro s h2] at h; cases h
theorem cat_byt {ls : List (List Int)} (h : ∀ l ∈ ls, Byt l) : Byt (cat ls) := fun z hz => by
 rw [cat, List.mem_flatten] at hz
 obtain ⟨l, hl, hz⟩ := hz
 exact h l hl z hz
theorem viI_byt {i : Int} (h : U64 i) : Byt (viI i) := vi_byt (by have := h.1; have := h.2; omega)
theorem tx_byt {l : List Int} (h : Byt l) (hl : l.length < 18446744073709551616) : Byt (tx l) := Byt.app (vi_byt hl) h
theorem noB_byt {nd : Nod} (h : RgN nd) : Byt (noB nd) := by
 rw [noB, noL]
 refine cat_byt fun l hl => ?_
 simp only [List.mem_cons, List.not_mem_nil, or_false] at hl
 rcases hl with rfl | rfl | rfl | rfl | rfl | rfl | rfl
 ·exact tx_byt h.by0 (by have := h.l0; omega)
 ·exact tx_byt h.by1 (by have := h.l1; omega)
 ·exact viI_byt h.ow
 ·intro z hz; rw [List.mem_singleton] at hz; rw [hz]; exact h.mo
 ·rw [liB]
  refine cat_byt fun l hl => ?_
  rcases List.mem_cons.1 hl with rfl | hl
  ·exact vi_byt (by have := h.l4; omega)
  ·obtain ⟨i, hi, rfl⟩ := List.mem_map.1 hl
   exact viI_byt (h.ho i hi)
 ·exact viI_byt h.ep
 ·exact viI_byt h.ge
theorem stB_byt {e g x : Nat} (he : e < 18446744073709551616) (hg : g < 18446744073709551616) (hx : x < 18446744073709551616) {ss : List Ses} {ns : List Nod} (h : Sml ss ns) (hr : ∀ nd ∈ ns, RgN nd) : Byt (stB e g x ss ns) := by
 have n1 := h.n1
 have n2 := h.n2
 rw [stB]
 refine cat_byt fun l hl => ?_
 simp only [List.mem_cons, List.not_mem_nil, or_false] at hl
 rcases hl with rfl | rfl | rfl | rfl | rfl
 ·exact vi_byt he
 ·exact vi_byt hg
 ·exact vi_byt hx
 ·rw [liB]
  refine cat_byt fun l hl => ?_
  rcases List.mem_cons.1 hl with rfl | hl
  ·exact vi_byt (by omega)
  ·obtain ⟨s, hs, rfl⟩ := List.mem_map.1 hl
   exact viI_byt (h.s s hs)
 ·rw [liB]
  refine cat_byt fun l hl => ?_
  rcases List.mem_cons.1 hl with rfl | hl
  ·exact vi_byt (by omega)
  ·obtain ⟨nd, hnd, rfl⟩ := List.mem_map.1 hl
   exact noB_byt (hr nd hnd)
end Go.Proofs.YtnbgnhhnpmmloaaGreatDoor
