import Derived.Test.YtnbgnhhnpmmloaaGreatDoorK10
import Derived.Test.YtnbgnhhnpmmloaaGreatDoorK13
namespace Go.Proofs.YtnbgnhhnpmmloaaGreatDoor
open Go.ChangeShapes Go.WideShapes Go.ChangeAt Go.RowKit Go.Maps
set_option linter.unusedVariables false
set_option linter.unusedSimpArgs false
set_option maxRecDepth 100000
theorem ids_iff (ss : List Ses) (ids : List Int) : idsOK ss ids = true ↔ ascI ids = true ∧ ∀ i ∈ ids, live ss i = true := by
 simp only [idsOK, ascI, ascOf, List.all_eq_true, List.mem_range, idAt, Bool.and_eq_true]
 constructor
 ·intro h
  refine ⟨fun i hi => (h i hi).2, fun y hy => ?_⟩
  obtain ⟨i, hi, rfl⟩ := List.getElem_of_mem hy
  have := (h i hi).1
  rwa [List.getD_eq_getElem?_getD, List.getElem?_eq_getElem hi] at this
 ·rintro ⟨h1, h2⟩ i hi
  refine ⟨h2 _ ?_, h1 i hi⟩
  rw [List.getD_eq_getElem?_getD, List.getElem?_eq_getElem hi]
  exact List.getElem_mem hi
theorem all_idx {α : Type} (l : List α) (d : α) (f : α → Bool) : (∀ i, i < l.length → f (l.getD i d) = true) ↔ ∀ y ∈ l, f y = true := by
 constructor
 ·intro h y hy
  obtain ⟨i, hi, rfl⟩ := List.getElem_of_mem hy
  have := h i hi
  rwa [List.getD_eq_getElem?_getD, List.getElem?_eq_getElem hi] at this
 ·intro h i hi
  rw [List.getD_eq_getElem?_getD, List.getElem?_eq_getElem hi]
  exact h _ (List.getElem_mem hi)
theorem ses_iff (x : Int) (ss : List Ses) : (List.range ss.length).all (sesAt x ss) = true ↔ sesAll x ss = true := by
 simp only [sesAll, ascOf, List.all_eq_true, List.mem_range, sesAt, sesV, Bool.and_eq_true]
 constructor
 ·intro h
  exact ⟨fun i hi => ⟨(h i hi).1, (h i hi).2.1, (h i hi).2.2.2⟩, fun i hi => (h i hi).2.2.1⟩
 ·rintro ⟨h1, h2⟩ i hi
  exact ⟨(h1 i hi).1, (h1 i hi).2.1, h2 i hi, (h1 i hi).2.2⟩
theorem nod_iff (e g : Int) (ss : List Ses) (ns : List Nod) : (List.range ns.length).all (nodOK e g ss ns) = true ↔ nodAll e g ns = true ∧ ns.all (fun nd => canPar ns (parL nd.path)) = true ∧ ∀ nd ∈ ns, ∀ i, Named nd i → live ss i = true := by
 have key : ∀ k, nodOK e g ss ns k = true ↔ (nodV e g (ns.getD k nod0) = true ∧ (k == 0 || !leB (ns.getD k nod0).path (ns.getD (k - 1) nod0).path) = true) ∧ canPar ns (parL (ns.getD k nod0).path) = true ∧ (fun nd => decide (nd.owner = 0) || live ss nd.owner) (ns.getD k nod0) = true ∧ (fun nd : Nod => nd.holders.all (live ss)) (ns.getD k nod0) = true ∧ (fun nd : Nod => nd.watchers.all (live ss)) (ns.getD k nod0) = true := by
  intro k
  simp only [nodOK, nodV, Bool.and_eq_true, ids_iff, List.all_eq_true]
  have : ((ns.getD k nod0).owner == 0 || live ss (ns.getD k nod0).owner) = (decide ((ns.getD k nod0).owner = 0) || live ss (ns.getD k nod0).owner) := by
   congr 1
  rw [this]
  constructor
  ·rintro ⟨⟨a1, a2⟩, a3, a4, a5, ⟨a6, a7⟩, ⟨a8, a9⟩, a10⟩
   exact ⟨⟨⟨a1, a4, a10, a6, a8⟩, a2⟩, a3, a5, a7, a9⟩
  ·rintro ⟨⟨⟨a1, a4, a10, a6, a8⟩, a2⟩, a3, a5, a7, a9⟩
   exact ⟨⟨a1, a2⟩, a3, a4, a5, ⟨a6, a7⟩, ⟨a8, a9⟩, a10⟩
 simp only [nodAll, ascOf, List.all_eq_true, List.mem_range, Bool.and_eq_true, key]
 rw [← all_idx ns nod0]
 constructor
 ·intro h
  refine ⟨⟨fun i hi => (h i hi).1.1, fun i hi => (h i hi).1.2⟩, fun i hi => (h i hi).2.1, ?_⟩
  have h3 := (all_idx ns nod0 (fun nd => decide (nd.owner = 0) || live ss nd.owner)).1 (fun i hi => (h i hi).2.2.1)
  have h4 := (all_idx ns nod0 (fun nd : Nod => nd.holders.all (live ss))).1 (fun i hi => List.all_eq_true.2 (h i hi).2.2.2.1)
  have h5 := (all_idx ns nod0 (fun nd : Nod => nd.watchers.all (live ss))).1 (fun i hi => List.all_eq_true.2 (h i hi).2.2.2.2)
  rintro nd hnd i (⟨h1, rfl⟩ | h1 | h1)
  ·have := h3 nd hnd
   simpa [h1] using this
  ·exact List.all_eq_true.1 (h4 nd hnd) i h1
  ·exact List.all_eq_true.1 (h5 nd hnd) i h1
 ·rintro ⟨⟨h1, h2⟩, h3, h4⟩ i hi
  refine ⟨⟨h1 i hi, h2 i hi⟩, h3 i hi, ?_, ?_, ?_⟩
  ·refine (all_idx ns nod0 (fun nd => decide (nd.owner = 0) || live ss nd.owner)).2 (fun nd hnd => ?_) i hi
   by_cases ho : nd.owner = 0
   ·simp [ho]
   ·simp [ho, h4 nd hnd nd.owner (.inl ⟨ho, rfl⟩)]
  ·exact List.all_eq_true.1 ((all_idx ns nod0 (fun nd : Nod => nd.holders.all (live ss))).2 (fun nd hnd => List.all_eq_true.2 fun j hj => h4 nd hnd j (.inr (.inl hj))) i hi)
  ·exact List.all_eq_true.1 ((all_idx ns nod0 (fun nd : Nod => nd.watchers.all (live ss))).2 (fun nd hnd => List.all_eq_true.2 fun j hj => h4 nd hnd j (.inr (.inr hj))) i hi)
theorem stOK_iff (e g x t : Int) (ss : List Ses) (ns : List Nod) : stOK e g x t ss ns = true ↔ limOK e g x t ss.length ns.length = true ∧ sesAll x ss = true ∧ nodAll e g ns = true ∧ ns.all (fun nd => canPar ns (parL nd.path)) = true ∧ ∀ nd ∈ ns, ∀ i, Named nd i → live ss i = true := by
 rw [stOK, Bool.and_eq_true, Bool.and_eq_true, ses_iff, nod_iff]
 exact Iff.rfl
theorem live_iff (ss : List Ses) (i : Int) : live ss i = true ↔ ∃ z ∈ ss, z.1 = i := by
 rw [live, List.any_eq_true]
 simp
theorem bl_irrefl : ∀ a : List UInt8, Op.bytesLess a a = false
 | [] => rfl
 | x :: a => by simp [Op.bytesLess, bl_irrefl a, UInt8.lt_irrefl]
theorem bl_trans : ∀ {a b c : List UInt8}, Op.bytesLess a b = true → Op.bytesLess b c = true → Op.bytesLess a c = true
 | _, [], _, h, _ => by simp [Op.bytesLess] at h
 | _, _ :: _, [], _, h => by simp [Op.bytesLess] at h
 | [], _ :: _, _ :: _, _, _ => rfl
 | x :: a, y :: b, z :: c, h, k => by
  simp only [Op.bytesLess, Bool.or_eq_true, decide_eq_true_eq, Bool.and_eq_true, beq_iff_eq] at h k ⊢
  rcases h with h | ⟨rfl, h⟩
  ·rcases k with k | ⟨rfl, k⟩
   ·exact .inl (UInt8.lt_trans h k)
   ·exact .inl h
  ·rcases k with k | ⟨rfl, k⟩
   ·exact .inl k
   ·exact .inr ⟨rfl, bl_trans h k⟩
theorem bl_total : ∀ {a b : List UInt8}, Op.bytesLess a b = false → a ≠ b → Op.bytesLess b a = true
 | [], [], _, h => absurd rfl h
 | [], _ :: _, h, _ => by simp [Op.bytesLess] at h
 | _ :: _, [], _, _ => rfl
 | x :: a, y :: b, h, hne => by
  simp only [Op.bytesLess, Bool.or_eq_false_iff, decide_eq_false_iff_not] at h
  simp only [Op.bytesLess, Bool.or_eq_true, decide_eq_true_eq, Bool.and_eq_true, beq_iff_eq]
  by_cases hxy : x = y
  ·subst hxy
   right
   refine ⟨rfl, bl_total ?_ (fun e => hne (by rw [e]))⟩
   simpa using h.2
  ·exact .inl (UInt8.lt_of_le_of_ne (UInt8.not_lt.1 h.1) (Ne.symm hxy))
theorem asc_far {n : Nat} {lt : Nat → Nat → Bool} (h : ascOf n lt = true) (tr : ∀ i j k, lt i j = true → lt j k = true → lt i k = true) : ∀ (j i : Nat), j < n → i < j → lt i j = true := by
 have hs : ∀ j, j + 1 < n → lt j (j + 1) = true := fun j hj => by
  have := List.all_eq_true.1 h (j + 1) (List.mem_range.2 hj)
  simpa using this
 intro j
 induction j with
 | zero => intro i _ hi; omega
 | succ j ih =>
  intro i hj hi
  by_cases e : i = j
  ·subst e; exact hs i hj
  ·exact tr i j (j + 1) (ih i (by omega) (by omega)) (hs j hj)
theorem ses_apart {x : Int} {ss : List Ses} (h : sesAll x ss = true) : ∀ (i j : Nat) (s s' : Ses), ss[i]? = some s → ss[j]? = some s' → i < j → s.1 ≠ s'.1 := by
 intro i j s s' hi hj hij
 rw [sesAll, Bool.and_eq_true] at h
 have := asc_far h.2 (fun i j k h1 h2 => by simp at h1 h2 ⊢; omega) j i (List.getElem?_eq_some_iff.1 hj).1 hij
 simp only [List.getD_eq_getElem?_getD, hi, hj, Option.getD_some, decide_eq_true_eq] at this
 omega
theorem not_leB {l m : List Int} : (!leB l m) = true ↔ Op.bytesLess (bstr m).toList (bstr l).toList = true := by
 simp only [leB, Bool.not_eq_true', Bool.or_eq_false_iff, beq_eq_false_iff_ne]
 constructor
 ·rintro ⟨h1, h2⟩
  exact bl_total h1 h2
 ·intro h
  refine ⟨?_, fun e => ?_⟩
  ·rw [Bool.eq_false_iff]
   intro h2
   have := bl_trans h h2
   rw [bl_irrefl] at this
   cases this
  ·rw [e, bl_irrefl] at h
   cases h
theorem nod_apart {e g : Int} {ns : List Nod} (h : nodAll e g ns = true) : ∀ (i j : Nat) (z z' : Nod), ns[i]? = some z → ns[j]? = some z' → i < j → z.path ≠ z'.path := by
 intro i j z z' hi hj hij
 rw [nodAll, Bool.and_eq_true] at h
 have := asc_far h.2 (fun i j k h1 h2 => not_leB.2 (bl_trans (not_leB.1 h1) (not_leB.1 h2))) j i (List.getElem?_eq_some_iff.1 hj).1 hij
 simp only [List.getD_eq_getElem?_getD, hi, hj, Option.getD_some] at this
 intro e
 rw [e, not_leB, bl_irrefl] at this
 cases this
theorem ses_u64 {x : Int} {ss : List Ses} (h : sesAll x ss = true) (hx : x ≤ 4611686018427387904) : ∀ s ∈ ss, 0 ≤ s.1 ∧ s.1 < 18446744073709551616 := by
 rw [sesAll, Bool.and_eq_true, List.all_eq_true] at h
 have H := (all_idx ss (0, 0, []) (sesV x)).1 fun i hi => h.1 i (List.mem_range.2 hi)
 intro s hs
 have := H s hs
 simp only [sesV, Bool.and_eq_true, decide_eq_true_eq] at this
 omega
set_option maxHeartbeats 1600000 in
theorem implVS (e g x t : Int) (p q : Option Addr) (c n d m : Nat) (ss : List Ses) (ns : List Nod) (en : Hid (ss.length = n)) (em : Hid (ns.length = m)) (w : World) (h : RdSc w (.slice p n c) ss) (hN : RdN w (.slice q m d) ns) (hn : n ≤ 1048576) (hm : m ≤ 1048576)
  (hbs : Hid (∀ s ∈ ss, s.2.2.length ≤ 1048576 ∧ ∀ e ∈ s.2.2, Byt e.2 ∧ e.2.length ≤ 1048576))
  (hby : Hid (∀ nd ∈ ns, Byt nd.path ∧ nd.path.length ≤ 1048576 ∧ nd.value.length ≤ 1048576 ∧ nd.holders.length ≤ 1048576 ∧ nd.watchers.length ≤ 1048576))
  (hnu : Hid (∀ nd ∈ ns, (∀ i ∈ nd.holders, 0 ≤ i ∧ i < 18446744073709551616) ∧ ∀ i ∈ nd.watchers, 0 ≤ i ∧ i < 18446744073709551616))
  (hou : Hid (∀ nd ∈ ns, 0 ≤ nd.owner ∧ nd.owner < 18446744073709551616)) (hML : ML w) (B : Bool) (eB : Hid (stOK e g x t ss ns = B)) :
  Calls Tryz.prog 52 #[stV e g x t (.slice p n c) (.slice q m d)] w fun r w' => r = .returned (.bool B) ∧ Below w.heap.size w w' := by
 have HR := hide fun (w' : World) (hb : Below w.heap.size w w') => And.intro (h.below hb) (And.intro (hN.below hb) (hML.below hb))
 clear h hN hML
 have HI : Hid (B = true ↔ limOK e g x t n m = true ∧ sesAll x ss = true ∧ nodAll e g ns = true ∧ ns.all (fun nd => canPar ns (parL nd.path)) = true ∧ ∀ nd ∈ ns, ∀ i, Named nd i → live ss i = true) := by
  show _ ↔ _
  rw [← uh eB, stOK_iff, uh en, uh em]
 clear eB
 obtain ⟨T1, E1⟩ : ∃ T, Hid (limOK e g x t n m = T) := ⟨_, (by show _ = _; rfl)⟩
 obtain ⟨T2, E2⟩ : ∃ T, Hid (sesAll x ss = T) := ⟨_, (by show _ = _; rfl)⟩
 obtain ⟨T3, E3⟩ : ∃ T, Hid (nodAll e g ns = T) := ⟨_, (by show _ = _; rfl)⟩
 obtain ⟨T4, E4⟩ : ∃ T, Hid (ns.all (fun nd => canPar ns (parL nd.path)) = T) := ⟨_, (by show _ = _; rfl)⟩
 obtain ⟨W, hW⟩ : ∃ W, W = (w.alloc (.cells #[.int .u64 e, .int .u64 g, .int .u64 x, .int .i64 t, .slice p n c, .slice q m d] 27)) := ⟨_, rfl⟩
 have bW : Below w.heap.size w W := by rw [hW]; exact (Below.refl _ _).alloc (Nat.le_refl _) _
 have hc6 : St6 W w.heap.size e g x t (.slice p n c) (.slice q m d) := by rw [hW]; simp [St6]
 have HC6 := hide hc6
 go_enter Tryz.func52, Tryz.ntmps52
 go_wp2_with fail
 rw [← hW]
 clear hW hc6
 refine (limits_any e g x t p q c n d m _ hn hm T1 E1).mono ?_
 rintro r w1 ⟨rfl, hb1⟩
 have b1 := Below.step bW hb1
 cases T1 with
 | false =>
  have eF : B = false := by rw [Bool.eq_false_iff]; intro hB; have := ((uh HI).1 hB).1; rw [uh E1] at this; cases this
  subst eF
  go_wp2
  go_ret
  exact ⟨rfl, b1⟩
 | true =>
  obtain ⟨i0, i1, i2, i3, i4, i5⟩ := (uh HC6).below hb1
  go_wp2_with fail
  refine (validSessions_any e g x t p c n _ ss en _ (uh HR _ b1).1 hn hbs (uh HR _ b1).2.2 T2 E2).mono ?_
  rintro r w2 ⟨rfl, hb2⟩
  have b2 := Below.step b1 hb2
  cases T2 with
  | false =>
   have eF : B = false := by rw [Bool.eq_false_iff]; intro hB; have := ((uh HI).1 hB).2.1; rw [uh E2] at this; cases this
   subst eF
   clear i0 i1 i2 i3 i4 i5
   go_wp2
   go_ret
   exact ⟨rfl, b2⟩
  | true =>
   replace i0 := cell_below i0 hb2
   replace i1 := cell_below i1 hb2
   replace i2 := cell_below i2 hb2
   replace i3 := cell_below i3 hb2
   replace i4 := cell_below i4 hb2
   replace i5 := cell_below i5 hb2
   go_wp2_with fail
   refine (validNodes_any e g x t _ q d m ns em _ (uh HR _ b2).2.1 hm hby (uh HR _ b2).2.2 T3 E3).mono ?_
   rintro r w3 ⟨rfl, hb3⟩
   have b3 := Below.step b2 hb3
   cases T3 with
   | false =>
    have eF : B = false := by rw [Bool.eq_false_iff]; intro hB; have := ((uh HI).1 hB).2.2.1; rw [uh E3] at this; cases this
    subst eF
    clear i0 i1 i2 i3 i4 i5
    go_wp2
    go_ret
    exact ⟨rfl, b3⟩
   | true =>
    replace i0 := cell_below i0 hb3
    replace i1 := cell_below i1 hb3
    replace i2 := cell_below i2 hb3
    replace i3 := cell_below i3 hb3
    replace i4 := cell_below i4 hb3
    replace i5 := cell_below i5 hb3
    have hx : x ≤ 4611686018427387904 := by have := uh E1; simp only [limOK, decide_eq_true_eq] at this; exact this.2.2.1
    have H1 := hide (ses_u64 (uh E2) hx)
    have H2 := hide (ses_apart (uh E2))
    have H3 := hide (nod_apart (uh E3))
    clear hx
    go_wp2_with fail
    refine (storeOf_any e g x t p q c n d m ss ns en em _ (uh HR _ b3).1 (uh HR _ b3).2.1 hn hm H1 H2 hby hnu H3).mono ?_
    rintro r w4 ⟨b, bs, bn, SB, NB, HB, UB, rfl, hst, hb4⟩
    have b4 := Below.step b3 hb4
    have HST := hide hst
    clear hst hb4 i0 i1 i2 i3 i4 i5
    go_wp2_with fail
    refine (hasAll_any _ HST (fun nd hnd => ⟨(uh hby nd hnd).1, (uh hby nd hnd).2.1⟩) T4 E4).mono ?_
    rintro r w5 ⟨rfl, hb5⟩
    have b5 := Below.step b4 hb5
    cases T4 with
    | false =>
     have eF : B = false := by rw [Bool.eq_false_iff]; intro hB; have := ((uh HI).1 hB).2.2.2.1; rw [uh E4] at this; cases this
     subst eF
     go_wp2
     go_ret
     exact ⟨rfl, b5⟩
    | true =>
     have HST5 := hide ((uh HST).below hb5)
     go_wp2_with fail
     refine (strangers_any _ HST5 (fun nd hnd => ⟨(uh hby nd hnd).1, (uh hby nd hnd).2.2.2⟩) hou m em hm n en).mono ?_
     rintro r w6 ⟨nb, k, D, s, rfl, oD, sD, hs, hb6⟩
     have b6 := Below.step b5 hb6
     have hlen : ∀ ty, (Builtin.len_ #[123] ty #[.map (some nb)]).run Tryz.prog w6 = .ok (.int .i64 (Maps.size D)) w6 := fun ty => oD.len Tryz.underlying123 ty
     have hsz : Maps.size D = 0 ↔ s = [] := sD.size0 oD.isMap (fun es ee p hp => by
      obtain ⟨es', e', _, hk⟩ := oD.entries keyU
      rw [ee] at e'
      cases e'
      exact hk p hp)
     have hB : B = true ↔ s = [] := by
      rw [uh HI]
      constructor
      ·rintro ⟨_, _, _, _, h5⟩
       apply List.eq_nil_iff_forall_not_mem.2
       intro i hi
       obtain ⟨⟨nd, hnd, hN⟩, hno⟩ := (hs i).1 hi
       exact hno ((live_iff ss i).1 (h5 nd hnd i hN))
      ·intro hs0
       refine ⟨uh E1, uh E2, uh E3, uh E4, fun nd hnd i hN => ?_⟩
       rw [live_iff]
       by_cases hh : ∃ z ∈ ss, z.1 = i
       ·exact hh
       ·have := (hs i).2 ⟨⟨nd, hnd, hN⟩, hh⟩
        rw [hs0] at this
        cases this
     have hb : ((Maps.size D : Int) == 0) = B := by
      rw [Bool.eq_iff_iff, hB, ← hsz]
      simp
     clear hsz hB sD oD hs hb6
     go_wp2
     go_ret
     exact ⟨rfl, b6⟩
def sesF (s : Ses) : Ses := (s.1, 0, [])
def nodF (nd : Nod) : Nod := { nd with watchers := [] }
theorem ownsMap_obj {w w' : World} {k : TypeId} {R : Value → Option (DataW Unit × List MemPlace)} {b n : Nat} {D : DataW Unit} (h : w.ownsMap Tryz.prog k R b n D) (K : ∀ es c, w.heap[b]? = some (.map es c) → w'.heap[b]? = some (.map es c)) : w'.ownsMap Tryz.prog k R b n D := by
 obtain ⟨es, clock, h1, h2⟩ := h
 exact ⟨es, clock, K _ _ h1, h2⟩
def SameObj (w w' : World) : Prop := (∀ (z : Nat) (cs : Array Value) (ty : TypeId), w.heap[z]? = some (.cells cs ty) → w'.heap[z]? = some (.cells cs ty)) ∧ ∀ (z : Nat) (es : Array MapEntry) (c : Nat), w.heap[z]? = some (.map es c) → w'.heap[z]? = some (.map es c)
theorem StoreAt.same {w0 w w' : World} {b bs bn : Nat} {e g x t : Int} {ss : List Ses} {ns : List Nod} {SB NB HB UB : List Nat} (h : StoreAt w0 w b bs bn e g x t ss ns SB NB HB UB) (K : SameObj w w') : StoreAt w0 w' b bs bn e g x t ss ns SB NB HB UB := by
 refine ⟨K.1 _ _ _ h.hd, ⟨h.ses.len, ?_, fun i s gb hs hg => ?_, h.ses.nod⟩, ⟨h.nod.len, h.nod.lenH, h.nod.lenU, ?_, fun i nd gb hh uu hs hg h1 h2 => ?_, h.nod.nod, h.nod.dis⟩, h.lo, h.dis⟩
 ·obtain ⟨D, o, m⟩ := h.ses.own
  exact ⟨D, ownsMap_obj o (K.2 _), m⟩
 ·obtain ⟨q0, u, q1, q2⟩ := h.ses.blk i s gb hs hg
  exact ⟨q0, u, K.1 _ _ _ q1, q2⟩
 ·obtain ⟨D, o, m⟩ := h.nod.own
  exact ⟨D, ownsMap_obj o (K.2 _), m⟩
 ·obtain ⟨q0, q1, q2, ⟨V, q3, q4⟩, ⟨D1, o1, m1⟩, ⟨D2, o2, m2⟩⟩ := h.nod.blk i nd gb hh uu hs hg h1 h2
  exact ⟨q0, q1, q2, ⟨V, K.1 _ _ _ q3, q4⟩, ⟨D1, ownsMap_obj o1 (K.2 _), m1⟩, ⟨D2, ownsMap_obj o2 (K.2 _), m2⟩⟩
theorem SameObj.grown {w w' : World} (hg : w.grownBy w' none) : SameObj w w' := ⟨fun z cs ty h => (hg.block z (heap_lt h) (by simp)).trans h, fun z es c h => (hg.block z (heap_lt h) (by simp)).trans h⟩
theorem SameObj.next {w w' : World} {r : Nat} {P : Program} {k : TypeId} {R : Value → Option (DataW Unit × List MemPlace)} {b n : Nat} {D : DataW Unit} {left : Lit → Bool} {cnt : Nat} (hr : w.ranges P k R b r n D left cnt) (hg : w.grownBy w' (some r)) : SameObj w w' := by
 obtain ⟨es, clock, since, seen, c0, -, -, -, -, hi, -⟩ := hr
 refine ⟨fun z cs ty h => (hg.block z (heap_lt h) ?_).trans h, fun z es c h => (hg.block z (heap_lt h) ?_).trans h⟩ <;>
 ·intro e
  cases e
  rw [hi] at h
  cases h
theorem ranges_same {w w' : World} {P : Program} {k : TypeId} {R : Value → Option (DataW Unit × List MemPlace)} {b r n : Nat} {D : DataW Unit} {left : Lit → Bool} {cnt : Nat} (h : w.ranges P k R b r n D left cnt) (h1 : w'.heap[b]? = w.heap[b]?) (h2 : w'.heap[r]? = w.heap[r]?) : w'.ranges P k R b r n D left cnt := by
 obtain ⟨es, clock, since, seen, c0, hb, F, hs, hD, hr, rest⟩ := h
 exact ⟨es, clock, since, seen, c0, h1.trans hb, F, hs, hD, h2.trans hr, rest⟩
theorem StoreAt.setSes {w0 w w' : World} {b bs bn : Nat} {e g x t : Int} {ss : List Ses} {ns : List Nod} {SB NB HB UB : List Nat} (h : StoreAt w0 w b bs bn e g x t ss ns SB NB HB UB) {i : Nat} {s : Ses} {gs : Nat} (hs : ss[i]? = some s) (hgs : SB[i]? = some gs) (d : Int) (u : Value) (q : List Ev)
  (hb : w'.heap[gs]? = some (.cells #[.int .u64 s.1, .int .i64 d, u] 59)) (hu : RdEc w0 u q) (hk : ∀ z, z ≠ gs → w'.heap[z]? = w.heap[z]?) : StoreAt w0 w' b bs bn e g x t (ss.set i (s.1, d, q)) ns SB NB HB UB := by
 have hil := (List.getElem?_eq_some_iff.1 hs).1
 obtain ⟨q0, u0, q1, -⟩ := h.ses.blk i s gs hs hgs
 have hm : ∀ {k : TypeId} {R : Value → Option (DataW Unit × List MemPlace)} {z n : Nat} {D : DataW Unit}, w.ownsMap Tryz.prog k R z n D → w'.heap[z]? = w.heap[z]? := fun {k R z n D} o => hk _ (fun e => ownsMap_cells o q1 e.symm)
 have hc : ∀ {z : Nat} {cs : Array Value} {ty : TypeId}, w.heap[z]? = some (.cells cs ty) → ty ≠ 59 → w'.heap[z]? = some (.cells cs ty) := fun {z cs ty} hz ht => (hk _ (fun e => by
  rw [e, q1] at hz
  simp at hz
  exact ht hz.2.symm)).trans hz
 refine ⟨hc h.hd (by decide), ⟨by simp [h.ses.len], ?_, fun j s' gb hs' hg' => ?_, h.ses.nod⟩, ⟨h.nod.len, h.nod.lenH, h.nod.lenU, ?_, fun i nd gb hh uu hs hg h1 h2 => ?_, h.nod.nod, h.nod.dis⟩, h.lo, h.dis⟩
 ·obtain ⟨D, o, m⟩ := h.ses.own
  refine ⟨D, by rw [List.length_set]; exact ownsMap_obj o (fun es c hh => (hm o).trans hh), ?_⟩
  have e : List.zipWith (fun (s : Ses) g => (Lit.int .u64 s.1, g)) (ss.set i (s.1, d, q)) SB = List.zipWith (fun (s : Ses) g => (Lit.int .u64 s.1, g)) ss SB := by
   refine List.ext_getElem? fun j => ?_
   rw [List.getElem?_zipWith, List.getElem?_zipWith, List.getElem?_set]
   by_cases ej : i = j
   ·subst ej
    rw [if_pos rfl, if_pos hil, hs, hgs]
   ·simp [ej]
  rw [e]
  exact m
 ·rw [List.getElem?_set] at hs'
  by_cases ej : i = j
  ·subst ej
   rw [hgs] at hg'
   cases hg'
   simp [hil] at hs'
   subst hs'
   exact ⟨q0, u, hb, hu⟩
  ·simp [ej] at hs'
   obtain ⟨p0, u', p1, p2⟩ := h.ses.blk j s' gb hs' hg'
   refine ⟨p0, u', (hk _ (fun e => ?_)).trans p1, p2⟩
   have l1 := (List.getElem?_eq_some_iff.1 hgs).1
   have l2 := (List.getElem?_eq_some_iff.1 hg').1
   have hpw := List.pairwise_iff_getElem.1 h.ses.nod
   have v1 := (List.getElem?_eq_some_iff.1 hgs).2
   have v2 := (List.getElem?_eq_some_iff.1 hg').2
   rcases Nat.lt_trichotomy i j with hh | hh | hh
   ·exact hpw i j l1 l2 hh (by rw [v1, v2, e])
   ·exact ej hh
   ·exact hpw j i l2 l1 hh (by rw [v1, v2, e])
 ·obtain ⟨D, o, m⟩ := h.nod.own
  exact ⟨D, ownsMap_obj o (fun es c hh => (hm o).trans hh), m⟩
 ·obtain ⟨q0, q1, q2, ⟨V, q3, q4⟩, ⟨D1, o1, m1⟩, ⟨D2, o2, m2⟩⟩ := h.nod.blk i nd gb hh uu hs hg h1 h2
  exact ⟨q0, q1, q2, ⟨V, hc q3 (by decide), q4⟩, ⟨D1, ownsMap_obj o1 (fun es c hh => (hm o1).trans hh), m1⟩, ⟨D2, ownsMap_obj o2 (fun es c hh => (hm o2).trans hh), m2⟩⟩
theorem nodup_idx {l : List Nat} (h : l.Nodup) {i j a : Nat} (hi : l[i]? = some a) (hj : l[j]? = some a) : i = j := by
 have l1 := (List.getElem?_eq_some_iff.1 hi).1
 have l2 := (List.getElem?_eq_some_iff.1 hj).1
 have hpw := List.pairwise_iff_getElem.1 h
 have v1 := (List.getElem?_eq_some_iff.1 hi).2
 have v2 := (List.getElem?_eq_some_iff.1 hj).2
 rcases Nat.lt_trichotomy i j with hh | hh | hh
 ·exact absurd (v1.trans v2.symm) (hpw i j l1 l2 hh)
 ·exact hh
 ·exact absurd (v2.trans v1.symm) (hpw j i l2 l1 hh)
theorem StoreAt.clearW {w0 w w' : World} {b bs bn : Nat} {e g x t : Int} {ss : List Ses} {ns : List Nod} {SB NB HB UB : List Nat} (h : StoreAt w0 w b bs bn e g x t ss ns SB NB HB UB) {i : Nat} {nd : Nod} {ub : Nat} (hs : ns[i]? = some nd) (hub : UB[i]? = some ub)
  (hb : w'.ownsMap Tryz.prog 23 (unitElem (H := Unit)) ub 0 (.map [])) (hk : ∀ z, z ≠ ub → w'.heap[z]? = w.heap[z]?) : StoreAt w0 w' b bs bn e g x t ss (ns.set i (nodF nd)) SB NB HB UB := by
 have hil := (List.getElem?_eq_some_iff.1 hs).1
 have hdis := h.dis
 simp only [List.nodup_cons, List.mem_cons, List.mem_append, not_or] at hdis
 obtain ⟨⟨-, d1, d2⟩, ⟨d3, d4⟩, d5⟩ := hdis
 rw [List.nodup_append] at d5
 obtain ⟨-, d6, d7⟩ := d5
 have hum : ub ∈ UB := List.mem_of_getElem? hub
 obtain ⟨gi, hi', ui, z1, z2, z3⟩ := h.nod.at hs
 rw [hub] at z3
 cases z3
 obtain ⟨-, -, -, -, -, ⟨D0, o0, -⟩⟩ := h.nod.blk i nd gi hi' ub hs z1 z2 hub
 have hc : ∀ {z : Nat} {cs : Array Value} {ty : TypeId}, w.heap[z]? = some (.cells cs ty) → w'.heap[z]? = some (.cells cs ty) := fun {z cs ty} hz => (hk _ (ownsMap_cells o0 hz)).trans hz
 refine ⟨hc h.hd, ⟨h.ses.len, ?_, fun j s' gb hs' hg' => ?_, h.ses.nod⟩, ⟨by simp [h.nod.len], by simp [h.nod.lenH], by simp [h.nod.lenU], ?_, fun j nd' gb hh uu hs' hg h1 h2 => ?_, h.nod.nod, h.nod.dis⟩, h.lo, h.dis⟩
 ·obtain ⟨D, o, m⟩ := h.ses.own
  exact ⟨D, ownsMap_obj o (fun es c hh => (hk bs (fun e => d2 (by rw [e]; exact hum))).trans hh), m⟩
 ·obtain ⟨q0, u, q1, q2⟩ := h.ses.blk j s' gb hs' hg'
  exact ⟨q0, u, hc q1, q2⟩
 ·obtain ⟨D, o, m⟩ := h.nod.own
  refine ⟨D, by rw [List.length_set]; exact ownsMap_obj o (fun es c hh => (hk bn (fun e => d4 (by rw [e]; exact hum))).trans hh), ?_⟩
  have e : List.zipWith (fun (nd : Nod) g => (litS nd.path, g)) (ns.set i (nodF nd)) NB = List.zipWith (fun (nd : Nod) g => (litS nd.path, g)) ns NB := by
   refine List.ext_getElem? fun j => ?_
   rw [List.getElem?_zipWith, List.getElem?_zipWith, List.getElem?_set]
   by_cases ej : i = j
   ·subst ej
    rw [if_pos rfl, if_pos hil, hs, z1]
    rfl
   ·simp [ej]
  rw [e]
  exact m
 ·have hne : hh ≠ ub := fun e => d7 hh (List.mem_of_getElem? h1) ub hum e
  rw [List.getElem?_set] at hs'
  by_cases ej : i = j
  ·subst ej
   rw [hub] at h2
   cases h2
   simp [hil] at hs'
   subst hs'
   obtain ⟨q0, q1, q2, ⟨V, q3, q4⟩, ⟨D1, o1, m1⟩, -⟩ := h.nod.blk i nd gb hh ub hs hg h1 hub
   exact ⟨q0, q1, q2, ⟨V, hc q3, q4⟩, ⟨D1, ownsMap_obj o1 (fun es c hh => (hk _ hne).trans hh), m1⟩, ⟨_, hb, SetTo.nil⟩⟩
  ·simp [ej] at hs'
   obtain ⟨q0, q1, q2, ⟨V, q3, q4⟩, ⟨D1, o1, m1⟩, ⟨D2, o2, m2⟩⟩ := h.nod.blk j nd' gb hh uu hs' hg h1 h2
   exact ⟨q0, q1, q2, ⟨V, hc q3, q4⟩, ⟨D1, ownsMap_obj o1 (fun es c hh => (hk _ hne).trans hh), m1⟩, ⟨D2, ownsMap_obj o2 (fun es c hh => (hk _ (fun e => ej (nodup_idx d6 hub (e ▸ h2)))).trans hh), m2⟩⟩
def turnS (f : Ses → Ses) (left : Lit → Bool) (ss : List Ses) : List Ses := ss.map fun s => if left (.int .u64 s.1) then s else f s
def turnN (left : Lit → Bool) (ns : List Nod) : List Nod := ns.map fun s => if left (litS s.path) then s else nodF s
theorem turnS_start {f : Ses → Ses} {left : Lit → Bool} {ss : List Ses} (h : ∀ s ∈ ss, left (.int .u64 s.1) = true) : turnS f left ss = ss := by
 unfold turnS
 rw [List.map_congr_left (g := id) (fun s hs => by rw [if_pos (h s hs)]; rfl), List.map_id]
theorem turnN_start {left : Lit → Bool} {ns : List Nod} (h : ∀ s ∈ ns, left (litS s.path) = true) : turnN left ns = ns := by
 unfold turnN
 rw [List.map_congr_left (g := id) (fun s hs => by rw [if_pos (h s hs)]; rfl), List.map_id]
theorem turnS_end {f : Ses → Ses} {left : Lit → Bool} {ss : List Ses} (h : ∀ k, left k = false) : turnS f left ss = ss.map f := by
 unfold turnS
 exact List.map_congr_left fun s _ => by rw [if_neg (by rw [h]; simp)]
theorem turnN_end {left : Lit → Bool} {ns : List Nod} (h : ∀ k, left k = false) : turnN left ns = ns.map nodF := by
 unfold turnN
 exact List.map_congr_left fun s _ => by rw [if_neg (by rw [h]; simp)]
theorem turnS_at {f : Ses → Ses} {left : Lit → Bool} {ss : List Ses} {i : Nat} {s : Ses} (hs : ss[i]? = some s) (hl : left (.int .u64 s.1) = true) : (turnS f left ss)[i]? = some s := by
 unfold turnS
 rw [List.getElem?_map, hs, Option.map_some, if_pos hl]
theorem turnN_at {left : Lit → Bool} {ss : List Nod} {i : Nat} {s : Nod} (hs : ss[i]? = some s) (hl : left (litS s.path) = true) : (turnN left ss)[i]? = some s := by
 unfold turnN
 rw [List.getElem?_map, hs, Option.map_some, if_pos hl]
theorem turnS_step {f : Ses → Ses} {left : Lit → Bool} {ss : List Ses} (hd : ∀ (i j : Nat) (s s' : Ses), ss[i]? = some s → ss[j]? = some s' → i < j → s.1 ≠ s'.1) {i : Nat} {s : Ses} (hs : ss[i]? = some s) :
  (turnS f left ss).set i (f s) = turnS f (fun z => left z && !z.sameKey (.int .u64 s.1)) ss := by
 have hil := (List.getElem?_eq_some_iff.1 hs).1
 refine List.ext_getElem? fun j => ?_
 rw [List.getElem?_set]
 unfold turnS
 by_cases ej : i = j
 ·subst ej
  have hkk : (Lit.int .u64 s.1).sameKey (.int .u64 s.1) = true := WideAt.sameKey_self (by trivial)
  rw [if_pos rfl, if_pos (by simpa using hil), List.getElem?_map, hs, Option.map_some, if_neg (by simp [hkk])]
 ·simp only [ej, if_false]
  rw [List.getElem?_map, List.getElem?_map]
  cases hj : ss[j]? with
  | none => rfl
  | some s' =>
   have hne : s'.1 ≠ s.1 := by
    rcases Nat.lt_trichotomy i j with hh | hh | hh
    ·exact fun e => hd i j s s' hs hj hh e.symm
    ·exact absurd hh ej
    ·exact hd j i s' s hj hs hh
   have : (Lit.int .u64 s'.1).sameKey (.int .u64 s.1) = false := by
    cases hq : (Lit.int .u64 s'.1).sameKey (.int .u64 s.1) with
    | false => rfl
    | true => rw [WideAt.sameKey_iff (by trivial)] at hq; simp at hq; exact absurd hq hne
   simp [this]
theorem turnN_step {left : Lit → Bool} {ss : List Nod} (hby : ∀ nd ∈ ss, Byt nd.path) (hd : ∀ (i j : Nat) (s s' : Nod), ss[i]? = some s → ss[j]? = some s' → i < j → s.path ≠ s'.path) {i : Nat} {s : Nod} (hs : ss[i]? = some s) :
  (turnN left ss).set i (nodF s) = turnN (fun z => left z && !z.sameKey (litS s.path)) ss := by
 have hil := (List.getElem?_eq_some_iff.1 hs).1
 refine List.ext_getElem? fun j => ?_
 rw [List.getElem?_set]
 unfold turnN
 by_cases ej : i = j
 ·subst ej
  have hkk := litS_same (hby s (List.mem_of_getElem? hs)) (hby s (List.mem_of_getElem? hs))
  rw [if_pos rfl, if_pos (by simpa using hil), List.getElem?_map, hs, Option.map_some, if_neg (by simp [hkk])]
 ·simp only [ej, if_false]
  rw [List.getElem?_map, List.getElem?_map]
  cases hj : ss[j]? with
  | none => rfl
  | some s' =>
   have hne : s'.path ≠ s.path := by
    rcases Nat.lt_trichotomy i j with hh | hh | hh
    ·exact fun e => hd i j s s' hs hj hh e.symm
    ·exact absurd hh ej
    ·exact hd j i s' s hj hs hh
   simp [litS_same (hby s' (List.mem_of_getElem? hj)) (hby s (List.mem_of_getElem? hs)), hne]
theorem run_clear {w : World} {mty kt et : TypeId} {P : Program} {k : TypeId} {R : Value → Option (DataW Unit × List MemPlace)} {b n : Nat} {D : DataW Unit} (hm : P.underlying mty = some (.map kt et)) (h : w.ownsMap P k R b n D) (ty : TypeId) :
  ∃ v w', (Builtin.clear_ #[mty] ty #[.map (some b)]).run P w = .ok v w' ∧ w'.ownsMap P k R b 0 (.map []) ∧ w.grownBy w' (some b) ∧ w'.heap.size = w.heap.size := by
 obtain ⟨es, clock, hb, F, hs, hD⟩ := h
 have hrun : ∃ v, (Builtin.clear_ #[mty] ty #[.map (some b)]).run P w = .ok v { w with heap := w.heap.setIfInBounds b (.map #[] clock) } := by
  simp [Builtin.clear_, run_underlying hm, MapKept.run_getObj_map hb, MapKept.run_setObj_map _ hb, Result.andThen]
 obtain ⟨v, hv⟩ := hrun
 refine ⟨v, _, hv, ?_, ⟨rfl, rfl, rfl, by simp, fun i _ hne => (MapKept.heap_set hb).2 i (fun e => hne (by rw [e]))⟩, by simp⟩
 exact ⟨#[], clock, (MapKept.heap_set hb).1, ⟨by simp, MapKept.stamped_empty _, by simp⟩, Nat.le_refl _, rfl⟩
end Go.Proofs.YtnbgnhhnpmmloaaGreatDoor
