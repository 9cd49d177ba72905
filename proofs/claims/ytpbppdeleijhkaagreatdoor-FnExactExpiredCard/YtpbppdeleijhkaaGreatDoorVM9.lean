import Derived.Test.YtpbppdeleijhkaaGreatDoorVC4
import Derived.Test.YtpbppdeleijhkaaGreatDoorVM8
namespace Go.Proofs.YtpbppdeleijhkaaGreatDoor
open Go.ChangeShapes Go.WideShapes Go.ChangeAt Go.RowKit Go.Maps
set_option linter.unusedVariables false
set_option linter.unusedSimpArgs false
set_option maxRecDepth 100000

theorem ids_iff (ss : List Ses) (ids : List Int) : idsOK ss ids = true ↔ ascI ids = true ∧ ∀ i ∈ ids, live ss i = true := by
  simp only [idsOK, ascI, ascOf, List.all_eq_true, List.mem_range, idAt, Bool.and_eq_true]
  constructor
  · intro h
    refine ⟨fun i hi => (h i hi).2, fun y hy => ?_⟩
    obtain ⟨i, hi, rfl⟩ := List.getElem_of_mem hy
    have := (h i hi).1
    rwa [List.getD_eq_getElem?_getD, List.getElem?_eq_getElem hi] at this
  · rintro ⟨h1, h2⟩ i hi
    refine ⟨h2 _ ?_, h1 i hi⟩
    rw [List.getD_eq_getElem?_getD, List.getElem?_eq_getElem hi]
    exact List.getElem_mem hi
theorem all_idx {α : Type} (l : List α) (d : α) (f : α → Bool) : (∀ i, i < l.length → f (l.getD i d) = true) ↔ ∀ y ∈ l, f y = true := by
  constructor
  · intro h y hy
    obtain ⟨i, hi, rfl⟩ := List.getElem_of_mem hy
    have := h i hi
    rwa [List.getD_eq_getElem?_getD, List.getElem?_eq_getElem hi] at this
  · intro h i hi
    rw [List.getD_eq_getElem?_getD, List.getElem?_eq_getElem hi]
    exact h _ (List.getElem_mem hi)
theorem ses_iff (x : Int) (ss : List Ses) : (List.range ss.length).all (sesAt x ss) = true ↔ sesAll x ss = true := by
  simp only [sesAll, ascOf, List.all_eq_true, List.mem_range, sesAt, sesV, Bool.and_eq_true]
  constructor
  · intro h
    exact ⟨fun i hi => ⟨(h i hi).1, (h i hi).2.1, (h i hi).2.2.2⟩, fun i hi => (h i hi).2.2.1⟩
  · rintro ⟨h1, h2⟩ i hi
    exact ⟨(h1 i hi).1, (h1 i hi).2.1, h2 i hi, (h1 i hi).2.2⟩
theorem nod_iff (e g : Int) (ss : List Ses) (ns : List Nod) : (List.range ns.length).all (nodOK e g ss ns) = true ↔ nodAll e g ns = true ∧ ns.all (fun nd => canPar ns (parL nd.path)) = true ∧ ∀ nd ∈ ns, ∀ i, Named nd i → live ss i = true := by
  have key : ∀ k, nodOK e g ss ns k = true ↔ (nodV e g (ns.getD k nod0) = true ∧ (k == 0 || !leB (ns.getD k nod0).path (ns.getD (k - 1) nod0).path) = true) ∧ canPar ns (parL (ns.getD k nod0).path) = true ∧ (fun nd => decide (nd.owner = 0) || live ss nd.owner) (ns.getD k nod0) = true ∧ (fun nd : Nod => nd.holders.all (live ss)) (ns.getD k nod0) = true ∧ (fun nd : Nod => nd.watchers.all (live ss)) (ns.getD k nod0) = true := by
    intro k
    simp only [nodOK, nodV, Bool.and_eq_true, ids_iff, List.all_eq_true]
    have : ((ns.getD k nod0).owner == 0 || live ss (ns.getD k nod0).owner) = (decide ((ns.getD k nod0).owner = 0) || live ss (ns.getD k nod0).owner) := by
      congr 1
    rw [this]
    constructor
    · rintro ⟨⟨a1, a2⟩, a3, a4, a5, ⟨a6, a7⟩, ⟨a8, a9⟩, a10⟩
      exact ⟨⟨⟨a1, a4, a10, a6, a8⟩, a2⟩, a3, a5, a7, a9⟩
    · rintro ⟨⟨⟨a1, a4, a10, a6, a8⟩, a2⟩, a3, a5, a7, a9⟩
      exact ⟨⟨a1, a2⟩, a3, a4, a5, ⟨a6, a7⟩, ⟨a8, a9⟩, a10⟩
  simp only [nodAll, ascOf, List.all_eq_true, List.mem_range, Bool.and_eq_true, key]
  rw [← all_idx ns nod0]
  constructor
  · intro h
    refine ⟨⟨fun i hi => (h i hi).1.1, fun i hi => (h i hi).1.2⟩, fun i hi => (h i hi).2.1, ?_⟩
    have h3 := (all_idx ns nod0 (fun nd => decide (nd.owner = 0) || live ss nd.owner)).1 (fun i hi => (h i hi).2.2.1)
    have h4 := (all_idx ns nod0 (fun nd : Nod => nd.holders.all (live ss))).1 (fun i hi => List.all_eq_true.2 (h i hi).2.2.2.1)
    have h5 := (all_idx ns nod0 (fun nd : Nod => nd.watchers.all (live ss))).1 (fun i hi => List.all_eq_true.2 (h i hi).2.2.2.2)
    rintro nd hnd i (⟨h1, rfl⟩ | h1 | h1)
    · have := h3 nd hnd
      simpa [h1] using this
    · exact List.all_eq_true.1 (h4 nd hnd) i h1
    · exact List.all_eq_true.1 (h5 nd hnd) i h1
  · rintro ⟨⟨h1, h2⟩, h3, h4⟩ i hi
    refine ⟨⟨h1 i hi, h2 i hi⟩, h3 i hi, ?_, ?_, ?_⟩
    · refine (all_idx ns nod0 (fun nd => decide (nd.owner = 0) || live ss nd.owner)).2 (fun nd hnd => ?_) i hi
      by_cases ho : nd.owner = 0
      · simp [ho]
      · simp [ho, h4 nd hnd nd.owner (.inl ⟨ho, rfl⟩)]
    · exact List.all_eq_true.1 ((all_idx ns nod0 (fun nd : Nod => nd.holders.all (live ss))).2 (fun nd hnd => List.all_eq_true.2 fun j hj => h4 nd hnd j (.inr (.inl hj))) i hi)
    · exact List.all_eq_true.1 ((all_idx ns nod0 (fun nd : Nod => nd.watchers.all (live ss))).2 (fun nd hnd => List.all_eq_true.2 fun j hj => h4 nd hnd j (.inr (.inr hj))) i hi)
theorem stOK_iff (e g x t : Int) (ss : List Ses) (ns : List Nod) : stOK e g x t ss ns = true ↔ limOK e g x t ss.length ns.length = true ∧ sesAll x ss = true ∧ nodAll e g ns = true ∧ ns.all (fun nd => canPar ns (parL nd.path)) = true ∧ ∀ nd ∈ ns, ∀ i, Named nd i → live ss i = true := by
  rw [stOK, Bool.and_eq_true, Bool.and_eq_true, ses_iff, nod_iff]
  exact Iff.rfl
theorem live_iff (ss : List Ses) (i : Int) : live ss i = true ↔ ∃ z ∈ ss, z.1 = i := by
  rw [live, List.any_eq_true]
  simp
theorem bl_irrefl : ∀ a : List UInt8, Op.bytesLess a a = false
  | [] => rfl
  | x :: a => by simp [Op.bytesLess, bl_irrefl a, UInt8.lt_irrefl]
theorem bl_trans : ∀ {a b c : List UInt8}, Op.bytesLess a b = true → Op.bytesLess b c = true → Op.bytesLess a c = true
  | _, [], _, h, _ => by simp [Op.bytesLess] at h
  | _, _ :: _, [], _, h => by simp [Op.bytesLess] at h
  | [], _ :: _, _ :: _, _, _ => rfl
  | x :: a, y :: b, z :: c, h, k => by
    simp only [Op.bytesLess, Bool.or_eq_true, decide_eq_true_eq, Bool.and_eq_true, beq_iff_eq] at h k ⊢
    rcases h with h | ⟨rfl, h⟩
    · rcases k with k | ⟨rfl, k⟩
      · exact .inl (UInt8.lt_trans h k)
      · exact .inl h
    · rcases k with k | ⟨rfl, k⟩
      · exact .inl k
      · exact .inr ⟨rfl, bl_trans h k⟩
theorem bl_total : ∀ {a b : List UInt8}, Op.bytesLess a b = false → a ≠ b → Op.bytesLess b a = true
  | [], [], _, h => absurd rfl h
  | [], _ :: _, h, _ => by simp [Op.bytesLess] at h
  | _ :: _, [], _, _ => rfl
  | x :: a, y :: b, h, hne => by
    simp only [Op.bytesLess, Bool.or_eq_false_iff, decide_eq_false_iff_not] at h
    simp only [Op.bytesLess, Bool.or_eq_true, decide_eq_true_eq, Bool.and_eq_true, beq_iff_eq]
    by_cases hxy : x = y
    · subst hxy
      right
      refine ⟨rfl, bl_total ?_ (fun e => hne (by rw [e]))⟩
      simpa using h.2
    · exact .inl (UInt8.lt_of_le_of_ne (UInt8.not_lt.1 h.1) (Ne.symm hxy))
/-- what ascends by one step ascends throughout -/
theorem asc_far {n : Nat} {lt : Nat → Nat → Bool} (h : ascOf n lt = true) (tr : ∀ i j k, lt i j = true → lt j k = true → lt i k = true) : ∀ (j i : Nat), j < n → i < j → lt i j = true := by
  have hs : ∀ j, j + 1 < n → lt j (j + 1) = true := fun j hj => by
    have := List.all_eq_true.1 h (j + 1) (List.mem_range.2 hj)
    simpa using this
  intro j
  induction j with
  | zero => intro i _ hi; omega
  | succ j ih =>
    intro i hj hi
    by_cases e : i = j
    · subst e; exact hs i hj
    · exact tr i j (j + 1) (ih i (by omega) (by omega)) (hs j hj)
theorem ses_apart {x : Int} {ss : List Ses} (h : sesAll x ss = true) : ∀ (i j : Nat) (s s' : Ses), ss[i]? = some s → ss[j]? = some s' → i < j → s.1 ≠ s'.1 := by
  intro i j s s' hi hj hij
  rw [sesAll, Bool.and_eq_true] at h
  have := asc_far h.2 (fun i j k h1 h2 => by simp at h1 h2 ⊢; omega) j i (List.getElem?_eq_some_iff.1 hj).1 hij
  simp only [List.getD_eq_getElem?_getD, hi, hj, Option.getD_some, decide_eq_true_eq] at this
  omega
theorem not_leB {l m : List Int} : (!leB l m) = true ↔ Op.bytesLess (bstr m).toList (bstr l).toList = true := by
  simp only [leB, Bool.not_eq_true', Bool.or_eq_false_iff, beq_eq_false_iff_ne]
  constructor
  · rintro ⟨h1, h2⟩
    exact bl_total h1 h2
  · intro h
    refine ⟨?_, fun e => ?_⟩
    · rw [Bool.eq_false_iff]
      intro h2
      have := bl_trans h h2
      rw [bl_irrefl] at this
      cases this
    · rw [e, bl_irrefl] at h
      cases h
theorem nod_apart {e g : Int} {ns : List Nod} (h : nodAll e g ns = true) : ∀ (i j : Nat) (z z' : Nod), ns[i]? = some z → ns[j]? = some z' → i < j → z.path ≠ z'.path := by
  intro i j z z' hi hj hij
  rw [nodAll, Bool.and_eq_true] at h
  have := asc_far h.2 (fun i j k h1 h2 => not_leB.2 (bl_trans (not_leB.1 h1) (not_leB.1 h2))) j i (List.getElem?_eq_some_iff.1 hj).1 hij
  simp only [List.getD_eq_getElem?_getD, hi, hj, Option.getD_some] at this
  intro e
  rw [e, not_leB, bl_irrefl] at this
  cases this
theorem ses_u64 {x : Int} {ss : List Ses} (h : sesAll x ss = true) (hx : x ≤ 4611686018427387904) : ∀ s ∈ ss, 0 ≤ s.1 ∧ s.1 < 18446744073709551616 := by
  rw [sesAll, Bool.and_eq_true, List.all_eq_true] at h
  have H := (all_idx ss (0, 0, []) (sesV x)).1 fun i hi => h.1 i (List.mem_range.2 hi)
  intro s hs
  have := H s hs
  simp only [sesV, Bool.and_eq_true, decide_eq_true_eq] at this
  omega
end Go.Proofs.YtpbppdeleijhkaaGreatDoor
