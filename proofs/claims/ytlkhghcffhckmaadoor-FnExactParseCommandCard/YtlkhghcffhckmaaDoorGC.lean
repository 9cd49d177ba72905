import Derived.Test.YtlkhghcffhckmaaDoorGA
import Derived.Deep.RegionHeld3
import Derived.Lib.AppendZeros
import Derived.Deep.RegionLaw
namespace Go.Proofs.YtlkhghcffhckmaaDoor
open Go.ChangeShapes Go.WideShapes Go.ChangeAt Go.RowKit Go.Deep
set_option linter.unusedVariables false
set_option linter.unusedSimpArgs false
set_option maxRecDepth 100000

theorem Own.form {B : Nat} {w : World} {v : Value} {l : List Int} (h : Own B w v l) : ∃ p c, v = .slice p l.length c := by
 rcases h.2 with ⟨rfl, h0⟩ | ⟨g, cap, cur, rfl, _⟩
 ·exact ⟨none, 0, by rw [h0]⟩
 ·exact ⟨_, _, rfl⟩

/-- what a slice that reads l hands to an append -/
theorem Rd.news {w : World} {a : Addr} {c : Nat} {l : List Int} (h : Rd w (.slice (some a) l.length c) l) : (U l).length = l.length * 1 ∧ (∀ j u, (U l)[j]? = some u → w.cell? (a.add j) = some u) ∧ (∀ u ∈ U l, u.oneCell' = true) := by
 refine ⟨by simp, ?_, ?_⟩
 ·intro j u hj
  obtain ⟨p, cap, e, h⟩ := h
  simp only [Value.slice.injEq] at e
  obtain ⟨rfl, -, rfl⟩ := e
  rcases h with rfl | ⟨b, o, e, hc⟩
  ·simp at hj
  ·simp only [Option.some.injEq] at e
   subst e
   have hjl : j < l.length := by
    have := (List.getElem?_eq_some_iff.1 hj).1
    simpa using this
   have := hc j hjl
   rw [Addr.add_lit, this]
   simp [List.getD, List.getElem?_eq_getElem hjl] at hj ⊢
   exact hj
 ·intro u hu
  obtain ⟨x, _, rfl⟩ := List.mem_map.1 hu
  rfl

theorem Rd.none_nil {w : World} {c : Nat} {l : List Int} (h : Rd w (.slice none l.length c) l) : l = [] := by
 obtain ⟨p, cap, e, h⟩ := h
 simp only [Value.slice.injEq] at e
 obtain ⟨rfl, -, rfl⟩ := e
 rcases h with rfl | ⟨b, o, e, hc⟩
 ·rfl
 ·cases e

/-- an append of a nil slice, whatever its capacity is told to be -/
theorem run_append_none_any {P : Program} (w : World) (base : Nat) (t ty e : TypeId) (i : TypeInfo) (size : Nat) (ht : P.underlying t = some (.slice e)) (hi : P.info? e = some i)
  (v : Value) (n : Nat) (xs : List Value) (c : Nat) (hown : w.ownsRow base e size v n xs) :
  (Builtin.append_ #[t, t] ty #[v, .slice none 0 c]).run P w = .ok v w := by
 rcases hown.2 with ⟨rfl, rfl⟩ | ⟨g, cap, cur, rfl, _, _, hnc, _⟩
 ·simp [Builtin.append_, run_underlying ht, sizeOf, typeInfo, hi, Builtin.lenOf, Builtin.firstCells]
 ·simp [Builtin.append_, run_underlying ht, sizeOf, typeInfo, hi, Builtin.lenOf, Builtin.firstCells, hnc, storeCells]

set_option maxHeartbeats 400000 in
theorem l1copy_any (p : Option Addr) (c : Nat) (l : List Int) (w : World) (h : Rd w (.slice p l.length c) l) (hl : l.length ≤ 2097152) :
  Calls Tryd.prog 22 #[.slice p l.length c] w fun e w' => ∃ p' c', e = .returned (.slice p' l.length c') ∧ Own w.heap.size w' (.slice p' l.length c') l ∧ Below w.heap.size w w' := by
 obtain ⟨i, hi, hz0, hz1, hz2⟩ := info_parts Tryd.infoByte
 cases p with
 | none =>
  have e := h.none_nil
  subst e
  have hap := fun w : World => run_append_none_any (P := Tryd.prog) w 0 22 22 5 i 1 Tryd.underlying22 hi _ 0 [] c (World.ownsRow_nil w 0 5 1)
  go_enter Tryd.func22, Tryd.ntmps22
  go_wp2
  go_ret
  exact ⟨none, 0, rfl, World.ownsRow_nil _ _ _ _, Below.refl _ _⟩
 | some a =>
  obtain ⟨n1, n2, n3⟩ := h.news
  clear h
  go_enter Tryd.func22, Tryd.ntmps22
  go_wp2_with (at_builtin; refine wpList_append_own _ rfl _ _ 22 rfl w.heap.size 5 i (.int .u8 0) 1 1 Tryd.underlying22 hi hz0 hz1 hz2 rfl (by decide) _ _ _ rfl (World.ownsRow_nil _ _ _ _) a _ c (U l) rfl n1 n2 n3 (by unfold maxLen; omega) (by omega) (Nat.le_refl _) ?_)
  intro v' w1 hown hg _
  have ho : Own w.heap.size w1 v' l := by simpa using hown
  obtain ⟨p', c', rfl⟩ := ho.form
  have hb := grown_below hg
  clear hown hg
  go_wp2
  go_ret
  exact ⟨p', c', rfl, ho, hb⟩

/-- 'append(x, y...)' of bytes: x a slice of the call's own, y whatever slice reads m (nil or not) -/
theorem wpList_append_rd {w : World} {ops : Array Oper} {rest : List Oper} {o : Oper} {a : Act} {Q : Exit → Act → World → Prop} (hgd : o.guard = none) (s x : Operand)
  (ho : o.op = .call { callee := .builtin .append, args := #[s, x], argTypes := #[22, 22] })
  (B : Nat) (v : Value) (l m lm : List Int) (elm : Hid (lm = l ++ m)) (p : Option Addr) (c : Nat) (hs : a.eval s = v) (hx : a.eval x = .slice p m.length c) (hown : Own B w v l) (hr : Rd w (.slice p m.length c) m)
  (hl : l.length + m.length ≤ 4194304) (hB : B ≤ w.heap.size)
  (hK : ∀ p' c' w', Own B w' (.slice p' lm.length c') lm → w.grownBy w' v.ownBlock → wpList Tryd.prog ops Q rest (a.put o.dst (.slice p' lm.length c')) w') : wpList Tryd.prog ops Q (o :: rest) a w := by
 obtain ⟨i, hi, hz0, hz1, hz2⟩ := info_parts Tryd.infoByte
 have e := unhide elm
 subst e
 cases p with
 | none =>
  have e := hr.none_nil
  subst e
  obtain ⟨pv, cv, rfl⟩ := hown.form
  have hap := run_append_none_any (P := Tryd.prog) w B 22 o.type 5 i 1 Tryd.underlying22 hi _ _ _ c hown
  refine Lib.wpList_append_run w hgd s x 22 22 ho _ _ hs hx _ _ hap ?_
  have := hK pv cv w (by simpa using hown) ⟨rfl, rfl, rfl, Nat.le_refl _, fun _ _ _ => rfl⟩
  simpa using this
 | some ad =>
  obtain ⟨n1, n2, n3⟩ := hr.news
  refine wpList_append_own w hgd s x 22 ho B 5 i (.int .u8 0) 1 1 Tryd.underlying22 hi hz0 hz1 hz2 rfl (by decide) v _ _ hs hown ad _ c (U m) hx n1 n2 n3 (by unfold maxLen; omega) (by omega) hB ?_
  intro v' w' h1 h2 _
  have ho2 : Own B w' v' (l ++ m) := by unfold Own; rw [List.length_append, U, List.map_append]; exact h1
  obtain ⟨p', c', rfl⟩ := ho2.form
  exact hK p' c' w' ho2 h2

/-- a row of slices that read the lists ls -/
def Parts (w : World) (g : Nat) (vs : List Value) (ls : List (List Int)) : Prop :=
 vs.length = ls.length ∧ ∀ j v l, vs[j]? = some v → ls[j]? = some l → w.cell? ⟨g, j, none⟩ = some v ∧ Rd w v l

theorem Parts.below {w w' : World} {g : Nat} {vs : List Value} {ls : List (List Int)} (h : Parts w g vs ls) (hb : Below w.heap.size w w') : Parts w' g vs ls :=
 ⟨h.1, fun j v l e1 e2 => ⟨cell_below (h.2 j v l e1 e2).1 hb, (h.2 j v l e1 e2).2.below hb⟩⟩

theorem Parts.get {w : World} {g : Nat} {vs : List Value} {ls : List (List Int)} (h : Parts w g vs ls) (j : Nat) (hj : j < ls.length) : ∃ (p : Option Addr) (c : Nat) (l : List Int), ls[j]? = some l ∧ w.cell? ⟨g, j, none⟩ = some (.slice p l.length c) ∧ Rd w (.slice p l.length c) l := by
 have hv : j < vs.length := by rw [h.1]; exact hj
 obtain ⟨h1, h2⟩ := h.2 j vs[j] ls[j] (List.getElem?_eq_getElem hv) (List.getElem?_eq_getElem hj)
 obtain ⟨p, c, e, hh⟩ := id h2
 exact ⟨p, c, ls[j], List.getElem?_eq_getElem hj, by rw [h1, e], by rw [e] at h2; exact h2⟩

/-- lists one behind the other -/
def cat (ls : List (List Int)) : List Int := ls.flatten

theorem cat_nil : cat [] = [] := rfl

theorem cat_one (l : List Int) : cat [l] = l := by simp [cat]

theorem cat_two (l m : List Int) : cat [l, m] = l ++ m := by simp [cat]

theorem flat_step (ls : List (List Int)) (k : Nat) (l : List Int) (h : ls[k]? = some l) : cat (ls.take (k + 1)) = cat (ls.take k) ++ l := by
 obtain ⟨hk, e⟩ := List.getElem?_eq_some_iff.1 h
 unfold cat
 rw [List.take_succ_eq_append_getElem hk, List.flatten_append, e]
 simp only [List.flatten_cons, List.flatten_nil, List.append_nil]

theorem flat_le (ls : List (List Int)) (k : Nat) : (cat (ls.take k)).length ≤ (cat ls).length := by
 have e : cat ls = cat (ls.take k) ++ cat (ls.drop k) := by unfold cat; rw [← List.flatten_append, List.take_append_drop]
 rw [e, List.length_append]; omega

/-- 'append(x, y...)' of bytes at a step of a region that draws its order -/
theorem step_append_rd {w : World} {ops : Array Oper} {o : Oper} {a : Act} {K : Act → World → Prop} {Q : Exit → Act → World → Prop} {E : Prop} (hgd : o.guard = none) (s x : Operand)
  (ho : o.op = .call { callee := .builtin .append, args := #[s, x], argTypes := #[22, 22] })
  (B : Nat) (v : Value) (l m lm : List Int) (elm : Hid (lm = l ++ m)) (p : Option Addr) (c : Nat) (hs : a.eval s = v) (hx : a.eval x = .slice p m.length c) (hown : Own B w v l) (hr : Rd w (.slice p m.length c) m)
  (hl : l.length + m.length ≤ 4194304) (hB : B ≤ w.heap.size)
  (hK : ∀ p' c' w', Own B w' (.slice p' lm.length c') lm → w.grownBy w' v.ownBlock → K (a.put o.dst (.slice p' lm.length c')) w') :
  if Region.wanted o (yielded ops a.tmps) = true then Oper.wp Tryd.prog o a w K Q else E := by
 have hw : Region.wanted o (yielded ops a.tmps) = true := by simp [Region.wanted, hgd]
 rw [if_pos hw]
 obtain ⟨i, hi, hz0, hz1, hz2⟩ := info_parts Tryd.infoByte
 have e := unhide elm
 subst e
 cases p with
 | none =>
  have e := hr.none_nil
  subst e
  obtain ⟨pv, cv, rfl⟩ := hown.form
  have hap := run_append_none_any (P := Tryd.prog) w B 22 o.type 5 i 1 Tryd.underlying22 hi _ _ _ c hown
  refine Lib.wp_append_run w s x 22 22 ho _ _ hs hx _ _ hap ?_
  have := hK pv cv w (by simpa using hown) ⟨rfl, rfl, rfl, Nat.le_refl _, fun _ _ _ => rfl⟩
  simpa using this
 | some ad =>
  obtain ⟨n1, n2, n3⟩ := hr.news
  refine wp_append_own w s x 22 ho B 5 i (.int .u8 0) 1 1 Tryd.underlying22 hi hz0 hz1 hz2 rfl (by decide) v _ _ hs hown ad _ c (U m) hx n1 n2 n3 (by unfold maxLen; omega) (by omega) hB ?_
  intro v' w' h1 h2 _
  have ho2 : Own B w' v' (l ++ m) := by unfold Own; rw [List.length_append, U, List.map_append]; exact h1
  obtain ⟨p', c', rfl⟩ := ho2.form
  exact hK p' c' w' ho2 h2

theorem wpList_append_rdn {w : World} {ops : Array Oper} {rest : List Oper} {o : Oper} {a : Act} {Q : Exit → Act → World → Prop} (hgd : o.guard = none) (s x : Operand)
  (ho : o.op = .call { callee := .builtin .append, args := #[s, x], argTypes := #[22, 22] })
  (B : Nat) (v : Value) (l m lm : List Int) (elm : Hid (lm = l ++ m)) (p : Option Addr) (c k : Nat) (hk : Hid (m.length = k)) (hs : a.eval s = v) (hx : a.eval x = .slice p k c) (hown : Own B w v l) (hr : Rd w (.slice p k c) m)
  (hl : l.length + m.length ≤ 4194304) (hB : B ≤ w.heap.size)
  (hK : ∀ p' c' w', Own B w' (.slice p' lm.length c') lm → w.grownBy w' v.ownBlock → wpList Tryd.prog ops Q rest (a.put o.dst (.slice p' lm.length c')) w') : wpList Tryd.prog ops Q (o :: rest) a w := by
 have e := unhide hk
 subst e
 exact wpList_append_rd hgd s x ho B v l m lm elm p c hs hx hown hr hl hB hK

/-- a call of a Go function at a step of a region that draws its order -/
theorem step_call {P : Program} {w : World} {ops : Array Oper} {o : Oper} {a : Act} {K : Act → World → Prop} {Q : Exit → Act → World → Prop} {E : Prop} {R : Ending → World → Prop} (hgd : o.guard = none) (f : FuncId) (x1 x2 x3 : Operand) (tys : Array TypeId)
  (ho : o.op = .call { callee := .value (.func f), args := #[x1, x2, x3], argTypes := tys }) (v1 v2 v3 : Value) (h1 : a.eval x1 = v1) (h2 : a.eval x2 = v2) (h3 : a.eval x3 = v3) (hcf : ∀ vs, (callFunc f vs).run P w = .ok (.enter f vs) w) (hc : Calls P f #[v1, v2, v3] w R) (hR : ∀ e w', R e w' → ∃ v, e = .returned v ∧ K (a.put o.dst v) w') :
  if Region.wanted o (yielded ops a.tmps) = true then Oper.wp P o a w K Q else E := by
 have hw : Region.wanted o (yielded ops a.tmps) = true := by simp [Region.wanted, hgd]
 rw [if_pos hw]
 have hrun : (execOp a.eval o).run P w = .ok (.enter f #[v1, v2, v3]) w := by
  subst h1 h2 h3
  unfold execOp
  simp [go_sem, ho, resolve, invoke, hcf]
 show o.upon P a K Q _
 rw [hrun, Oper.upon_enter]
 refine hc.mono ?_
 intro e w' h
 obtain ⟨v, rfl, hk⟩ := hR e w' h
 exact hk

/-- a slice over one new byte -/
theorem Own.one (w : World) (y : Int) : Own w.heap.size (w.alloc (.cells #[.int .u8 y] 5)) (.slice (some ⟨w.heap.size, 0, none⟩) 1 1) [y] :=
 World.ownsRow_lit w #[.int .u8 y] 1 (Nat.le_refl _) (by unfold maxLen; omega) rfl

theorem below_grown {B : Nat} {a w w' : World} {v : Value} {l : List Int} {C : Nat} (h : Below B a w) (hg : w.grownBy w' v.ownBlock) (ho : Own C w v l) (hC : B ≤ C) (hB : B ≤ w.heap.size) : Below B a w' :=
 h.grown hg hB (fun k e => by have := (ho.lt k e).1; omega)

/-- 'append(x, b)' of one byte that lies in a block of its own -/
theorem wpList_append_byte {w : World} {ops : Array Oper} {rest : List Oper} {o : Oper} {a : Act} {Q : Exit → Act → World → Prop} (hgd : o.guard = none) (s x : Operand)
  (ho : o.op = .call { callee := .builtin .append, args := #[s, x], argTypes := #[22, 22] })
  (B : Nat) (v : Value) (l lm : List Int) (y : Int) (elm : Hid (lm = l ++ [y])) (g : Nat) (hs : a.eval s = v) (hx : a.eval x = .slice (some ⟨g, 0, none⟩) 1 1) (hown : Own B w v l) (hc : w.cell? ⟨g, 0, none⟩ = some (.int .u8 y))
  (hl : l.length < 4194304) (hB : B ≤ w.heap.size)
  (h : ∀ p' c' w', Own B w' (.slice p' lm.length c') lm → w.grownBy w' v.ownBlock → wpList Tryd.prog ops Q rest (a.put o.dst (.slice p' lm.length c')) w') : wpList Tryd.prog ops Q (o :: rest) a w := by
 have hr : Rd w (.slice (some ⟨g, 0, none⟩) 1 1) [y] := by
  refine ⟨_, _, rfl, .inr ⟨g, 0, rfl, fun i hi => ?_⟩⟩
  have e : i = 0 := by simpa using hi
  subst e
  simpa using hc
 exact wpList_append_rd hgd s x ho B v l [y] lm elm (some ⟨g, 0, none⟩) 1 hs hx hown hr (by simp; omega) hB h

end Go.Proofs.YtlkhghcffhckmaaDoor
