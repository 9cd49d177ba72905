import Derived.Test.YtpbppdeleijhkaaGreatDoorG38
namespace Go.Proofs.YtpbppdeleijhkaaGreatDoor
open Go.ChangeShapes Go.WideShapes Go.ChangeAt Go.RowKit Go.Maps
set_option linter.unusedVariables false
set_option linter.unusedSimpArgs false
set_option maxRecDepth 100000
def sesF (s : Ses) : Ses := (s.1, 0, [])
def nodF (nd : Nod) : Nod := { nd with watchers := [] }
theorem ownsMap_obj {w w' : World} {k : TypeId} {R : Value → Option (DataW Unit × List MemPlace)} {b n : Nat} {D : DataW Unit} (h : w.ownsMap Tryz.prog k R b n D) (K : ∀ es c, w.heap[b]? = some (.map es c) → w'.heap[b]? = some (.map es c)) : w'.ownsMap Tryz.prog k R b n D := by
 obtain ⟨es, clock, h1, h2⟩ := h
 exact ⟨es, clock, K _ _ h1, h2⟩
def SameObj (w w' : World) : Prop := (∀ (z : Nat) (cs : Array Value) (ty : TypeId), w.heap[z]? = some (.cells cs ty) → w'.heap[z]? = some (.cells cs ty)) ∧ ∀ (z : Nat) (es : Array MapEntry) (c : Nat), w.heap[z]? = some (.map es c) → w'.heap[z]? = some (.map es c)
theorem StoreAt.same {w0 w w' : World} {b bs bn : Nat} {e g x t : Int} {ss : List Ses} {ns : List Nod} {SB NB HB UB : List Nat} (h : StoreAt w0 w b bs bn e g x t ss ns SB NB HB UB) (K : SameObj w w') : StoreAt w0 w' b bs bn e g x t ss ns SB NB HB UB := by
 refine ⟨K.1 _ _ _ h.hd, ⟨h.ses.len, ?_, fun i s gb hs hg => ?_, h.ses.nod⟩, ⟨h.nod.len, h.nod.lenH, h.nod.lenU, ?_, fun i nd gb hh uu hs hg h1 h2 => ?_, h.nod.nod, h.nod.dis⟩, h.lo, h.dis⟩
 ·obtain ⟨D, o, m⟩ := h.ses.own
  exact ⟨D, ownsMap_obj o (K.2 _), m⟩
 ·obtain ⟨q0, u, q1, q2⟩ := h.ses.blk i s gb hs hg
  exact ⟨q0, u, K.1 _ _ _ q1, q2⟩
 ·obtain ⟨D, o, m⟩ := h.nod.own
  exact ⟨D, ownsMap_obj o (K.2 _), m⟩
 ·obtain ⟨q0, q1, q2, ⟨V, q3, q4⟩, ⟨D1, o1, m1⟩, ⟨D2, o2, m2⟩⟩ := h.nod.blk i nd gb hh uu hs hg h1 h2
  exact ⟨q0, q1, q2, ⟨V, K.1 _ _ _ q3, q4⟩, ⟨D1, ownsMap_obj o1 (K.2 _), m1⟩, ⟨D2, ownsMap_obj o2 (K.2 _), m2⟩⟩
theorem SameObj.grown {w w' : World} (hg : w.grownBy w' none) : SameObj w w' := ⟨fun z cs ty h => (hg.block z (heap_lt h) (by simp)).trans h, fun z es c h => (hg.block z (heap_lt h) (by simp)).trans h⟩
theorem SameObj.next {w w' : World} {r : Nat} {P : Program} {k : TypeId} {R : Value → Option (DataW Unit × List MemPlace)} {b n : Nat} {D : DataW Unit} {left : Lit → Bool} {cnt : Nat} (hr : w.ranges P k R b r n D left cnt) (hg : w.grownBy w' (some r)) : SameObj w w' := by
 obtain ⟨es, clock, since, seen, c0, -, -, -, -, hi, -⟩ := hr
 refine ⟨fun z cs ty h => (hg.block z (heap_lt h) ?_).trans h, fun z es c h => (hg.block z (heap_lt h) ?_).trans h⟩ <;>
 ·intro e
  cases e
  rw [hi] at h
  cases h
theorem ranges_same {w w' : World} {P : Program} {k : TypeId} {R : Value → Option (DataW Unit × List MemPlace)} {b r n : Nat} {D : DataW Unit} {left : Lit → Bool} {cnt : Nat} (h : w.ranges P k R b r n D left cnt) (h1 : w'.heap[b]? = w.heap[b]?) (h2 : w'.heap[r]? = w.heap[r]?) : w'.ranges P k R b r n D left cnt := by
 obtain ⟨es, clock, since, seen, c0, hb, F, hs, hD, hr, rest⟩ := h
 exact ⟨es, clock, since, seen, c0, h1.trans hb, F, hs, hD, h2.trans hr, rest⟩
theorem StoreAt.setSes {w0 w w' : World} {b bs bn : Nat} {e g x t : Int} {ss : List Ses} {ns : List Nod} {SB NB HB UB : List Nat} (h : StoreAt w0 w b bs bn e g x t ss ns SB NB HB UB) {i : Nat} {s : Ses} {gs : Nat} (hs : ss[i]? = some s) (hgs : SB[i]? = some gs) (d : Int) (u : Value) (q : List Ev)
  (hb : w'.heap[gs]? = some (.cells #[.int .u64 s.1, .int .i64 d, u] 65)) (hu : RdEc w0 u q) (hk : ∀ z, z ≠ gs → w'.heap[z]? = w.heap[z]?) : StoreAt w0 w' b bs bn e g x t (ss.set i (s.1, d, q)) ns SB NB HB UB := by
 have hil := (List.getElem?_eq_some_iff.1 hs).1
 obtain ⟨q0, u0, q1, -⟩ := h.ses.blk i s gs hs hgs
 have hm : ∀ {k : TypeId} {R : Value → Option (DataW Unit × List MemPlace)} {z n : Nat} {D : DataW Unit}, w.ownsMap Tryz.prog k R z n D → w'.heap[z]? = w.heap[z]? := fun {k R z n D} o => hk _ (fun e => ownsMap_cells o q1 e.symm)
 have hc : ∀ {z : Nat} {cs : Array Value} {ty : TypeId}, w.heap[z]? = some (.cells cs ty) → ty ≠ 65 → w'.heap[z]? = some (.cells cs ty) := fun {z cs ty} hz ht => (hk _ (fun e => by
  rw [e, q1] at hz
  simp at hz
  exact ht hz.2.symm)).trans hz
 refine ⟨hc h.hd (by decide), ⟨by simp [h.ses.len], ?_, fun j s' gb hs' hg' => ?_, h.ses.nod⟩, ⟨h.nod.len, h.nod.lenH, h.nod.lenU, ?_, fun i nd gb hh uu hs hg h1 h2 => ?_, h.nod.nod, h.nod.dis⟩, h.lo, h.dis⟩
 ·obtain ⟨D, o, m⟩ := h.ses.own
  refine ⟨D, by rw [List.length_set]; exact ownsMap_obj o (fun es c hh => (hm o).trans hh), ?_⟩
  have e : List.zipWith (fun (s : Ses) g => (Lit.int .u64 s.1, g)) (ss.set i (s.1, d, q)) SB = List.zipWith (fun (s : Ses) g => (Lit.int .u64 s.1, g)) ss SB := by
   refine List.ext_getElem? fun j => ?_
   rw [List.getElem?_zipWith, List.getElem?_zipWith, List.getElem?_set]
   by_cases ej : i = j
   ·subst ej
    rw [if_pos rfl, if_pos hil, hs, hgs]
   ·simp [ej]
  rw [e]
  exact m
 ·rw [List.getElem?_set] at hs'
  by_cases ej : i = j
  ·subst ej
   rw [hgs] at hg'
   cases hg'
   simp [hil] at hs'
   subst hs'
   exact ⟨q0, u, hb, hu⟩
  ·simp [ej] at hs'
   obtain ⟨p0, u', p1, p2⟩ := h.ses.blk j s' gb hs' hg'
   refine ⟨p0, u', (hk _ (fun e => ?_)).trans p1, p2⟩
   have l1 := (List.getElem?_eq_some_iff.1 hgs).1
   have l2 := (List.getElem?_eq_some_iff.1 hg').1
   have hpw := List.pairwise_iff_getElem.1 h.ses.nod
   have v1 := (List.getElem?_eq_some_iff.1 hgs).2
   have v2 := (List.getElem?_eq_some_iff.1 hg').2
   rcases Nat.lt_trichotomy i j with hh | hh | hh
   ·exact hpw i j l1 l2 hh (by rw [v1, v2, e])
   ·exact ej hh
   ·exact hpw j i l2 l1 hh (by rw [v1, v2, e])
 ·obtain ⟨D, o, m⟩ := h.nod.own
  exact ⟨D, ownsMap_obj o (fun es c hh => (hm o).trans hh), m⟩
 ·obtain ⟨q0, q1, q2, ⟨V, q3, q4⟩, ⟨D1, o1, m1⟩, ⟨D2, o2, m2⟩⟩ := h.nod.blk i nd gb hh uu hs hg h1 h2
  exact ⟨q0, q1, q2, ⟨V, hc q3 (by decide), q4⟩, ⟨D1, ownsMap_obj o1 (fun es c hh => (hm o1).trans hh), m1⟩, ⟨D2, ownsMap_obj o2 (fun es c hh => (hm o2).trans hh), m2⟩⟩
theorem nodup_idx {l : List Nat} (h : l.Nodup) {i j a : Nat} (hi : l[i]? = some a) (hj : l[j]? = some a) : i = j := by
 have l1 := (List.getElem?_eq_some_iff.1 hi).1
 have l2 := (List.getElem?_eq_some_iff.1 hj).1
 have hpw := List.pairwise_iff_getElem.1 h
 have v1 := (List.getElem?_eq_some_iff.1 hi).2
 have v2 := (List.getElem?_eq_some_iff.1 hj).2
 rcases Nat.lt_trichotomy i j with hh | hh | hh
 ·exact absurd (v1.trans v2.symm) (hpw i j l1 l2 hh)
 ·exact hh
 ·exact absurd (v2.trans v1.symm) (hpw j i l2 l1 hh)
theorem StoreAt.clearW {w0 w w' : World} {b bs bn : Nat} {e g x t : Int} {ss : List Ses} {ns : List Nod} {SB NB HB UB : List Nat} (h : StoreAt w0 w b bs bn e g x t ss ns SB NB HB UB) {i : Nat} {nd : Nod} {ub : Nat} (hs : ns[i]? = some nd) (hub : UB[i]? = some ub)
  (hb : w'.ownsMap Tryz.prog 23 (unitElem (H := Unit)) ub 0 (.map [])) (hk : ∀ z, z ≠ ub → w'.heap[z]? = w.heap[z]?) : StoreAt w0 w' b bs bn e g x t ss (ns.set i (nodF nd)) SB NB HB UB := by
 have hil := (List.getElem?_eq_some_iff.1 hs).1
 have hdis := h.dis
 simp only [List.nodup_cons, List.mem_cons, List.mem_append, not_or] at hdis
 obtain ⟨⟨-, d1, d2⟩, ⟨d3, d4⟩, d5⟩ := hdis
 rw [List.nodup_append] at d5
 obtain ⟨-, d6, d7⟩ := d5
 have hum : ub ∈ UB := List.mem_of_getElem? hub
 obtain ⟨gi, hi', ui, z1, z2, z3⟩ := h.nod.at hs
 rw [hub] at z3
 cases z3
 obtain ⟨-, -, -, -, -, ⟨D0, o0, -⟩⟩ := h.nod.blk i nd gi hi' ub hs z1 z2 hub
 have hc : ∀ {z : Nat} {cs : Array Value} {ty : TypeId}, w.heap[z]? = some (.cells cs ty) → w'.heap[z]? = some (.cells cs ty) := fun {z cs ty} hz => (hk _ (ownsMap_cells o0 hz)).trans hz
 refine ⟨hc h.hd, ⟨h.ses.len, ?_, fun j s' gb hs' hg' => ?_, h.ses.nod⟩, ⟨by simp [h.nod.len], by simp [h.nod.lenH], by simp [h.nod.lenU], ?_, fun j nd' gb hh uu hs' hg h1 h2 => ?_, h.nod.nod, h.nod.dis⟩, h.lo, h.dis⟩
 ·obtain ⟨D, o, m⟩ := h.ses.own
  exact ⟨D, ownsMap_obj o (fun es c hh => (hk bs (fun e => d2 (by rw [e]; exact hum))).trans hh), m⟩
 ·obtain ⟨q0, u, q1, q2⟩ := h.ses.blk j s' gb hs' hg'
  exact ⟨q0, u, hc q1, q2⟩
 ·obtain ⟨D, o, m⟩ := h.nod.own
  refine ⟨D, by rw [List.length_set]; exact ownsMap_obj o (fun es c hh => (hk bn (fun e => d4 (by rw [e]; exact hum))).trans hh), ?_⟩
  have e : List.zipWith (fun (nd : Nod) g => (litS nd.path, g)) (ns.set i (nodF nd)) NB = List.zipWith (fun (nd : Nod) g => (litS nd.path, g)) ns NB := by
   refine List.ext_getElem? fun j => ?_
   rw [List.getElem?_zipWith, List.getElem?_zipWith, List.getElem?_set]
   by_cases ej : i = j
   ·subst ej
    rw [if_pos rfl, if_pos hil, hs, z1]
    rfl
   ·simp [ej]
  rw [e]
  exact m
 ·have hne : hh ≠ ub := fun e => d7 hh (List.mem_of_getElem? h1) ub hum e
  rw [List.getElem?_set] at hs'
  by_cases ej : i = j
  ·subst ej
   rw [hub] at h2
   cases h2
   simp [hil] at hs'
   subst hs'
   obtain ⟨q0, q1, q2, ⟨V, q3, q4⟩, ⟨D1, o1, m1⟩, -⟩ := h.nod.blk i nd gb hh ub hs hg h1 hub
   exact ⟨q0, q1, q2, ⟨V, hc q3, q4⟩, ⟨D1, ownsMap_obj o1 (fun es c hh => (hk _ hne).trans hh), m1⟩, ⟨_, hb, SetTo.nil⟩⟩
  ·simp [ej] at hs'
   obtain ⟨q0, q1, q2, ⟨V, q3, q4⟩, ⟨D1, o1, m1⟩, ⟨D2, o2, m2⟩⟩ := h.nod.blk j nd' gb hh uu hs' hg h1 h2
   exact ⟨q0, q1, q2, ⟨V, hc q3, q4⟩, ⟨D1, ownsMap_obj o1 (fun es c hh => (hk _ hne).trans hh), m1⟩, ⟨D2, ownsMap_obj o2 (fun es c hh => (hk _ (fun e => ej (nodup_idx d6 hub (e ▸ h2)))).trans hh), m2⟩⟩
def turnS (f : Ses → Ses) (left : Lit → Bool) (ss : List Ses) : List Ses := ss.map fun s => if left (.int .u64 s.1) then s else f s
def turnN (left : Lit → Bool) (ns : List Nod) : List Nod := ns.map fun s => if left (litS s.path) then s else nodF s
theorem turnS_start {f : Ses → Ses} {left : Lit → Bool} {ss : List Ses} (h : ∀ s ∈ ss, left (.int .u64 s.1) = true) : turnS f left ss = ss := by
 unfold turnS
 rw [List.map_congr_left (g := id) (fun s hs => by rw [if_pos (h s hs)]; rfl), List.map_id]
theorem turnN_start {left : Lit → Bool} {ns : List Nod} (h : ∀ s ∈ ns, left (litS s.path) = true) : turnN left ns = ns := by
 unfold turnN
 rw [List.map_congr_left (g := id) (fun s hs => by rw [if_pos (h s hs)]; rfl), List.map_id]
theorem turnS_end {f : Ses → Ses} {left : Lit → Bool} {ss : List Ses} (h : ∀ k, left k = false) : turnS f left ss = ss.map f := by
 unfold turnS
 exact List.map_congr_left fun s _ => by rw [if_neg (by rw [h]; simp)]
theorem turnN_end {left : Lit → Bool} {ns : List Nod} (h : ∀ k, left k = false) : turnN left ns = ns.map nodF := by
 unfold turnN
 exact List.map_congr_left fun s _ => by rw [if_neg (by rw [h]; simp)]
theorem turnS_at {f : Ses → Ses} {left : Lit → Bool} {ss : List Ses} {i : Nat} {s : Ses} (hs : ss[i]? = some s) (hl : left (.int .u64 s.1) = true) : (turnS f left ss)[i]? = some s := by
 unfold turnS
 rw [List.getElem?_map, hs, Option.map_some, if_pos hl]
theorem turnN_at {left : Lit → Bool} {ss : List Nod} {i : Nat} {s : Nod} (hs : ss[i]? = some s) (hl : left (litS s.path) = true) : (turnN left ss)[i]? = some s := by
 unfold turnN
 rw [List.getElem?_map, hs, Option.map_some, if_pos hl]
theorem turnS_step {f : Ses → Ses} {left : Lit → Bool} {ss : List Ses} (hd : ∀ (i j : Nat) (s s' : Ses), ss[i]? = some s → ss[j]? = some s' → i < j → s.1 ≠ s'.1) {i : Nat} {s : Ses} (hs : ss[i]? = some s) :
  (turnS f left ss).set i (f s) = turnS f (fun z => left z && !z.sameKey (.int .u64 s.1)) ss := by
 have hil := (List.getElem?_eq_some_iff.1 hs).1
 refine List.ext_getElem? fun j => ?_
 rw [List.getElem?_set]
 unfold turnS
 by_cases ej : i = j
 ·subst ej
  have hkk : (Lit.int .u64 s.1).sameKey (.int .u64 s.1) = true := WideAt.sameKey_self (by trivial)
  rw [if_pos rfl, if_pos (by simpa using hil), List.getElem?_map, hs, Option.map_some, if_neg (by simp [hkk])]
 ·simp only [ej, if_false]
  rw [List.getElem?_map, List.getElem?_map]
  cases hj : ss[j]? with
  | none => rfl
  | some s' =>
   have hne : s'.1 ≠ s.1 := by
    rcases Nat.lt_trichotomy i j with hh | hh | hh
    ·exact fun e => hd i j s s' hs hj hh e.symm
    ·exact absurd hh ej
    ·exact hd j i s' s hj hs hh
   have : (Lit.int .u64 s'.1).sameKey (.int .u64 s.1) = false := by
    cases hq : (Lit.int .u64 s'.1).sameKey (.int .u64 s.1) with
    | false => rfl
    | true => rw [WideAt.sameKey_iff (by trivial)] at hq; simp at hq; exact absurd hq hne
   simp [this]
theorem turnN_step {left : Lit → Bool} {ss : List Nod} (hby : ∀ nd ∈ ss, Byt nd.path) (hd : ∀ (i j : Nat) (s s' : Nod), ss[i]? = some s → ss[j]? = some s' → i < j → s.path ≠ s'.path) {i : Nat} {s : Nod} (hs : ss[i]? = some s) :
  (turnN left ss).set i (nodF s) = turnN (fun z => left z && !z.sameKey (litS s.path)) ss := by
 have hil := (List.getElem?_eq_some_iff.1 hs).1
 refine List.ext_getElem? fun j => ?_
 rw [List.getElem?_set]
 unfold turnN
 by_cases ej : i = j
 ·subst ej
  have hkk := litS_same (hby s (List.mem_of_getElem? hs)) (hby s (List.mem_of_getElem? hs))
  rw [if_pos rfl, if_pos (by simpa using hil), List.getElem?_map, hs, Option.map_some, if_neg (by simp [hkk])]
 ·simp only [ej, if_false]
  rw [List.getElem?_map, List.getElem?_map]
  cases hj : ss[j]? with
  | none => rfl
  | some s' =>
   have hne : s'.path ≠ s.path := by
    rcases Nat.lt_trichotomy i j with hh | hh | hh
    ·exact fun e => hd i j s s' hs hj hh e.symm
    ·exact absurd hh ej
    ·exact hd j i s' s hj hs hh
   simp [litS_same (hby s' (List.mem_of_getElem? hj)) (hby s (List.mem_of_getElem? hs)), hne]
theorem run_clear {w : World} {mty kt et : TypeId} {P : Program} {k : TypeId} {R : Value → Option (DataW Unit × List MemPlace)} {b n : Nat} {D : DataW Unit} (hm : P.underlying mty = some (.map kt et)) (h : w.ownsMap P k R b n D) (ty : TypeId) :
  ∃ v w', (Builtin.clear_ #[mty] ty #[.map (some b)]).run P w = .ok v w' ∧ w'.ownsMap P k R b 0 (.map []) ∧ w.grownBy w' (some b) ∧ w'.heap.size = w.heap.size := by
 obtain ⟨es, clock, hb, F, hs, hD⟩ := h
 have hrun : ∃ v, (Builtin.clear_ #[mty] ty #[.map (some b)]).run P w = .ok v { w with heap := w.heap.setIfInBounds b (.map #[] clock) } := by
  simp [Builtin.clear_, run_underlying hm, MapKept.run_getObj_map hb, MapKept.run_setObj_map _ hb, Result.andThen]
 obtain ⟨v, hv⟩ := hrun
 refine ⟨v, _, hv, ?_, ⟨rfl, rfl, rfl, by simp, fun i _ hne => (MapKept.heap_set hb).2 i (fun e => hne (by rw [e]))⟩, by simp⟩
 exact ⟨#[], clock, (MapKept.heap_set hb).1, ⟨by simp, MapKept.stamped_empty _, by simp⟩, Nat.le_refl _, rfl⟩
end Go.Proofs.YtpbppdeleijhkaaGreatDoor
