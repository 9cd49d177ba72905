import Derived.Test.YtpbppdeleijhkaaGreatDoorDOe
import Derived.Maps.RangeWalk
import Derived.Maps.Ext
namespace Go.Proofs.YtpbppdeleijhkaaGreatDoor
open Go.ChangeShapes Go.WideShapes Go.ChangeAt Go.RowKit
open Go.Maps (Keyed IsMap)
set_option linter.unusedVariables false
set_option linter.unusedSimpArgs false
set_option maxRecDepth 100000

/-- a pointer to the head of a block reads as the block's number -/
def ptrElem : Value → Option (DataW Unit × List MemPlace)
  | .pointer (some ⟨b, 0, none⟩) => some (.lit (.int .i64 b), [])
  | .pointer none => some (.nil, [])
  | _ => none
theorem ptrElem_mk (b : Nat) : ptrElem (.pointer (some ⟨b, 0, none⟩)) = some (.lit (.int .i64 b), []) := rfl
theorem ptrElem_inv {v : Value} {b : Nat} {ps : List MemPlace} (h : ptrElem v = some (.lit (.int .i64 b), ps)) : v = .pointer (some ⟨b, 0, none⟩) := by
  unfold ptrElem at h
  split at h
  · simp only [Option.some.injEq, Prod.mk.injEq, DataW.lit.injEq, Lit.int.injEq, true_and, Int.natCast_inj] at h
    rw [h.1]
  · simp at h
  · simp at h
theorem ptrElem_nil {v : Value} {ps : List MemPlace} (h : ptrElem v = some (.nil, ps)) : v = .pointer none := by
  unfold ptrElem at h
  split at h
  · simp at h
  · rfl
  · simp at h

/-- D is a map from the keys of l to the blocks beside them -/
structure MapTo (D : DataW Unit) (l : List (Lit × Nat)) : Prop where
  hs : ∀ k, Maps.has D k = true ↔ ∃ p ∈ l, p.1 = k
  at' : ∀ p ∈ l, ∀ z, D.atKey p.1 z = .lit (.int .i64 p.2)
theorem MapTo.nil : MapTo (.map []) [] := ⟨fun k => by simp [Maps.has], fun p hp => by simp at hp⟩
theorem MapTo.put {D : DataW Unit} {l : List (Lit × Nat)} (h : MapTo D l) (hD : IsMap D) {k : Lit} (hk : WideAt.IsKeyLit k) (hn : ∀ p ∈ l, p.1 ≠ k) (g : Nat) : MapTo (D.put k (.lit (.int .i64 g))) (l ++ [(k, g)]) := by
  refine ⟨fun k' => ?_, fun p hp z => ?_⟩
  · by_cases e : k' = k
    · subst e
      simp [Maps.has_put_same hD hk]
    · rw [Maps.has_put_other e, h.hs k']
      constructor
      · rintro ⟨p, hp, rfl⟩
        exact ⟨p, by simp [hp], rfl⟩
      · rintro ⟨p, hp, rfl⟩
        rcases List.mem_append.1 hp with hp | hp
        · exact ⟨p, hp, rfl⟩
        · simp at hp
          subst hp
          exact absurd rfl e
  · rcases List.mem_append.1 hp with hp | hp
    · rw [Maps.atKey_put_other (hn p hp)]
      exact h.at' p hp z
    · simp at hp
      subst hp
      exact Maps.atKey_put_same hD hk _ _
/-- D is a set of these numbers -/
def SetTo (D : DataW Unit) (s : List Int) : Prop := ∀ k, Maps.has D k = true ↔ ∃ i ∈ s, k = .int .u64 i
theorem SetTo.nil : SetTo (.map []) [] := fun k => by simp [Maps.has]
theorem SetTo.put {D : DataW Unit} {s : List Int} (h : SetTo D s) (hD : IsMap D) (i : Int) (d : DataW Unit) : SetTo (D.put (.int .u64 i) d) (s ++ [i]) := by
  intro k'
  by_cases e : k' = .int .u64 i
  · subst e
    rw [Maps.has_put_same hD (by trivial)]
    simp
  · rw [Maps.has_put_other e, h k']
    constructor
    · rintro ⟨j, hj, rfl⟩
      exact ⟨j, by simp [hj], rfl⟩
    · rintro ⟨j, hj, rfl⟩
      rcases List.mem_append.1 hj with hj | hj
      · exact ⟨j, hj, rfl⟩
      · simp at hj
        subst hj
        exact absurd rfl e
theorem SetTo.size0 {D : DataW Unit} {s : List Int} (h : SetTo D s) (hD : IsMap D) (hk : ∀ es, D = .map es → ∀ p ∈ es, WideAt.IsKeyLit p.1) : Maps.size D = 0 ↔ s = [] := by
  obtain ⟨es, rfl⟩ := hD
  constructor
  · intro h0
    have e0 : es = [] := List.length_eq_zero_iff.1 h0
    subst e0
    cases s with
    | nil => rfl
    | cons i s =>
      have := (h (.int .u64 i)).2 ⟨i, by simp, rfl⟩
      simp [Maps.has] at this
  · rintro rfl
    cases es with
    | nil => rfl
    | cons p es =>
      have := (h p.1).1 (by rw [Maps.has_eq]; simp [WideAt.sameKey_self (hk _ rfl p (by simp))])
      simp at this

section
variable {P : Program} (w : World) {ops : Array Oper} {rest : List Oper} {o : Oper} {a : Act} {Q : Exit → Act → World → Prop}
/-- a step of a range over a map of pointers -/
theorem wpList_next_ptr {α : Type} (hg : o.guard = none) (it : Operand) (hop : o.op = Op.next it false) (k : TypeId) (K : Keyed P k) (mkK : α → Value) (invK : ∀ key kl, keyOf P k key = some kl → ∃ x, key = mkK x)
    (b r n : Nat) (D : DataW Unit) (l : List (Lit × Nat)) (hM : MapTo D l) (left : Lit → Bool) (cnt : Nat)
    (hit : a.eval it = .pointer (some ⟨r, 0, none⟩)) (h : w.ranges P k ptrElem b r n D left cnt)
    (hDone : cnt = 0 → (∀ kl, left kl = false) → wpList P ops Q rest (a.put o.dst (.tuple #[.bool false])) w)
    (hMore : ∀ (x : α) (p : Lit × Nat) (w' : World) (cnt' : Nat), keyOf P k (mkK x) = some p.1 → p ∈ l → left p.1 = true → w'.ranges P k ptrElem b r n D (fun z => left z && !z.sameKey p.1) cnt' → cnt' < cnt →
      w.grownBy w' (some r) → w'.heap.size = w.heap.size → (Instr.entry (.pointer (some ⟨r, 0, none⟩))).run P w' = .ok (.tuple #[mkK x, .pointer (some ⟨p.2, 0, none⟩)]) w' → wpList P ops Q rest (a.put o.dst (.tuple #[.bool true, mkK x, .pointer (some ⟨p.2, 0, none⟩)])) w') :
    wpList P ops Q (o :: rest) a w := by
  refine wpList_plain hg fun K' hK' => ?_
  unfold Oper.wp
  rcases h.next K o.type with ⟨h0, hl, hrun⟩ | ⟨key, v, kl, y, w', cnt', hkey, hlk, hv, hat, hrun, hrg, hlt, hgr, hsz, hen⟩
  · simp [execOp, hop, hit, hrun, Result.andThen]
    exact hK' _ _ (hDone h0 hl)
  · obtain ⟨x, rfl⟩ := invK key kl hkey
    obtain ⟨p, hp, rfl⟩ := (hM.hs kl).1 (Maps.has_true_of_atKey hat)
    have e1 : y.1 = .lit (.int .i64 p.2) := by rw [← hat .nil]; exact hM.at' p hp _
    obtain ⟨y1, y2⟩ := y
    simp only at e1
    subst e1
    obtain rfl := ptrElem_inv hv
    simp [execOp, hop, hit, hrun, Result.andThen]
    exact hK' _ _ (hMore x p w' cnt' hkey hp hlk hrg hlt hgr hsz hen)
/-- a step of a range over a set -/
theorem wpList_next_set (hg : o.guard = none) (it : Operand) (hop : o.op = Op.next it false) (k : TypeId) (K : Keyed P k) (hk : P.underlying k = some (.int .u64))
    (b r n : Nat) (D : DataW Unit) (s : List Int) (hM : SetTo D s) (left : Lit → Bool) (cnt : Nat)
    (hit : a.eval it = .pointer (some ⟨r, 0, none⟩)) (h : w.ranges P k unitElem b r n D left cnt)
    (hDone : cnt = 0 → (∀ kl, left kl = false) → wpList P ops Q rest (a.put o.dst (.tuple #[.bool false])) w)
    (hMore : ∀ (x : Int) (w' : World) (cnt' : Nat), (Lit.int .u64 x).wf = true → x ∈ s → left (.int .u64 x) = true → w'.ranges P k unitElem b r n D (fun z => left z && !z.sameKey (.int .u64 x)) cnt' → cnt' < cnt →
      w.grownBy w' (some r) → w'.heap.size = w.heap.size → (Instr.entry (.pointer (some ⟨r, 0, none⟩))).run P w' = .ok (.tuple #[.int .u64 x, .agg #[]]) w' → wpList P ops Q rest (a.put o.dst (.tuple #[.bool true, .int .u64 x, .agg #[]])) w') :
    wpList P ops Q (o :: rest) a w := by
  refine wpList_plain hg fun K' hK' => ?_
  unfold Oper.wp
  rcases h.next K o.type with ⟨h0, hl, hrun⟩ | ⟨key, v, kl, y, w', cnt', hkey, hlk, hv, hat, hrun, hrg, hlt, hgr, hsz, hen⟩
  · simp [execOp, hop, hit, hrun, Result.andThen]
    exact hK' _ _ (hDone h0 hl)
  · obtain ⟨x, rfl, rfl, hwx⟩ := Maps.keyOf_int_inv hk hkey
    obtain ⟨i, hi, ei⟩ := (hM _).1 (Maps.has_true_of_atKey hat)
    simp only [Lit.int.injEq, true_and] at ei
    subst ei
    obtain ⟨rfl, _⟩ := unitElem_inv hv
    simp [execOp, hop, hit, hrun, Result.andThen]
    exact hK' _ _ (hMore x w' cnt' hwx hi hlk hrg hlt hgr hsz hen)
end
/-- a path as a key -/
def litS (l : List Int) : Lit := .string (l.map fun n => UInt8.ofNat n.toNat)
theorem litS_inj {l m : List Int} (hl : Byt l) (hm : Byt m) (h : litS l = litS m) : l = m := by
  simp only [litS, Lit.string.injEq] at h
  exact map_inj hl hm h
theorem bstr_litS (l : List Int) : Lit.string (bstr l).data.toList = litS l := by rw [← ByteArray.toList_eq, bstr_list]; rfl
theorem litS_val {s : ByteArray} {l : List Int} (h : Lit.string s.data.toList = litS l) : s = bstr l := by
  rw [← bstr_litS] at h
  simp only [Lit.string.injEq] at h
  cases s with | mk d => cases hb : bstr l with | mk d' => (rw [hb] at h; simp only at h; congr; exact Array.toList_inj.1 h)
end Go.Proofs.YtpbppdeleijhkaaGreatDoor
