import Derived.Test.YtpbppdeleijhkaaGreatDoorK28
import Derived.Test.YtpbppdeleijhkaaGreatDoorK29
import Derived.Test.YtpbppdeleijhkaaGreatDoorK14
import Derived.Test.YtpbppdeleijhkaaGreatDoorK9
namespace Go.Proofs.YtpbppdeleijhkaaGreatDoor
open Go.ChangeShapes Go.WideShapes Go.ChangeAt Go.RowKit Go.Maps
set_option linter.unusedVariables false
set_option linter.unusedSimpArgs false
set_option maxRecDepth 100000

theorem ids_iff (ss : List Ses) (ids : List Int) : idsOK ss ids = true ↔ ascI ids = true ∧ ∀ i ∈ ids, live ss i = true := by
 simp only [idsOK, ascI, ascOf, List.all_eq_true, List.mem_range, idAt, Bool.and_eq_true]
 constructor
 ·intro h
  refine ⟨fun i hi => (h i hi).2, fun y hy => ?_⟩
  obtain ⟨i, hi, rfl⟩ := List.getElem_of_mem hy
  have := (h i hi).1
  rwa [List.getD_eq_getElem?_getD, List.getElem?_eq_getElem hi] at this
 ·rintro ⟨h1, h2⟩ i hi
  refine ⟨h2 _ ?_, h1 i hi⟩
  rw [List.getD_eq_getElem?_getD, List.getElem?_eq_getElem hi]
  exact List.getElem_mem hi
theorem all_idx {α : Type} (l : List α) (d : α) (f : α → Bool) : (∀ i, i < l.length → f (l.getD i d) = true) ↔ ∀ y ∈ l, f y = true := by
 constructor
 ·intro h y hy
  obtain ⟨i, hi, rfl⟩ := List.getElem_of_mem hy
  have := h i hi
  rwa [List.getD_eq_getElem?_getD, List.getElem?_eq_getElem hi] at this
 ·intro h i hi
  rw [List.getD_eq_getElem?_getD, List.getElem?_eq_getElem hi]
  exact h _ (List.getElem_mem hi)
theorem ses_iff (x : Int) (ss : List Ses) : (List.range ss.length).all (sesAt x ss) = true ↔ sesAll x ss = true := by
 simp only [sesAll, ascOf, List.all_eq_true, List.mem_range, sesAt, sesV, Bool.and_eq_true]
 constructor
 ·intro h
  exact ⟨fun i hi => ⟨(h i hi).1, (h i hi).2.1, (h i hi).2.2.2⟩, fun i hi => (h i hi).2.2.1⟩
 ·rintro ⟨h1, h2⟩ i hi
  exact ⟨(h1 i hi).1, (h1 i hi).2.1, h2 i hi, (h1 i hi).2.2⟩
theorem nod_iff (e g : Int) (ss : List Ses) (ns : List Nod) : (List.range ns.length).all (nodOK e g ss ns) = true ↔ nodAll e g ns = true ∧ ns.all (fun nd => canPar ns (parL nd.path)) = true ∧ ∀ nd ∈ ns, ∀ i, Named nd i → live ss i = true := by
 have key : ∀ k, nodOK e g ss ns k = true ↔ (nodV e g (ns.getD k nod0) = true ∧ (k == 0 || !leB (ns.getD k nod0).path (ns.getD (k - 1) nod0).path) = true) ∧ canPar ns (parL (ns.getD k nod0).path) = true ∧ (fun nd => decide (nd.owner = 0) || live ss nd.owner) (ns.getD k nod0) = true ∧ (fun nd : Nod => nd.holders.all (live ss)) (ns.getD k nod0) = true ∧ (fun nd : Nod => nd.watchers.all (live ss)) (ns.getD k nod0) = true := by
  intro k
  simp only [nodOK, nodV, Bool.and_eq_true, ids_iff, List.all_eq_true]
  have : ((ns.getD k nod0).owner == 0 || live ss (ns.getD k nod0).owner) = (decide ((ns.getD k nod0).owner = 0) || live ss (ns.getD k nod0).owner) := by
   congr 1
  rw [this]
  constructor
  ·rintro ⟨⟨a1, a2⟩, a3, a4, a5, ⟨a6, a7⟩, ⟨a8, a9⟩, a10⟩
   exact ⟨⟨⟨a1, a4, a10, a6, a8⟩, a2⟩, a3, a5, a7, a9⟩
  ·rintro ⟨⟨⟨a1, a4, a10, a6, a8⟩, a2⟩, a3, a5, a7, a9⟩
   exact ⟨⟨a1, a2⟩, a3, a4, a5, ⟨a6, a7⟩, ⟨a8, a9⟩, a10⟩
 simp only [nodAll, ascOf, List.all_eq_true, List.mem_range, Bool.and_eq_true, key]
 rw [← all_idx ns nod0]
 constructor
 ·intro h
  refine ⟨⟨fun i hi => (h i hi).1.1, fun i hi => (h i hi).1.2⟩, fun i hi => (h i hi).2.1, ?_⟩
  have h3 := (all_idx ns nod0 (fun nd => decide (nd.owner = 0) || live ss nd.owner)).1 (fun i hi => (h i hi).2.2.1)
  have h4 := (all_idx ns nod0 (fun nd : Nod => nd.holders.all (live ss))).1 (fun i hi => List.all_eq_true.2 (h i hi).2.2.2.1)
  have h5 := (all_idx ns nod0 (fun nd : Nod => nd.watchers.all (live ss))).1 (fun i hi => List.all_eq_true.2 (h i hi).2.2.2.2)
  rintro nd hnd i (⟨h1, rfl⟩ | h1 | h1)
  ·have := h3 nd hnd
   simpa [h1] using this
  ·exact List.all_eq_true.1 (h4 nd hnd) i h1
  ·exact List.all_eq_true.1 (h5 nd hnd) i h1
 ·rintro ⟨⟨h1, h2⟩, h3, h4⟩ i hi
  refine ⟨⟨h1 i hi, h2 i hi⟩, h3 i hi, ?_, ?_, ?_⟩
  ·refine (all_idx ns nod0 (fun nd => decide (nd.owner = 0) || live ss nd.owner)).2 (fun nd hnd => ?_) i hi
   by_cases ho : nd.owner = 0
   ·simp [ho]
   ·simp [ho, h4 nd hnd nd.owner (.inl ⟨ho, rfl⟩)]
  ·exact List.all_eq_true.1 ((all_idx ns nod0 (fun nd : Nod => nd.holders.all (live ss))).2 (fun nd hnd => List.all_eq_true.2 fun j hj => h4 nd hnd j (.inr (.inl hj))) i hi)
  ·exact List.all_eq_true.1 ((all_idx ns nod0 (fun nd : Nod => nd.watchers.all (live ss))).2 (fun nd hnd => List.all_eq_true.2 fun j hj => h4 nd hnd j (.inr (.inr hj))) i hi)
theorem stOK_iff (e g x t : Int) (ss : List Ses) (ns : List Nod) : stOK e g x t ss ns = true ↔ limOK e g x t ss.length ns.length = true ∧ sesAll x ss = true ∧ nodAll e g ns = true ∧ ns.all (fun nd => canPar ns (parL nd.path)) = true ∧ ∀ nd ∈ ns, ∀ i, Named nd i → live ss i = true := by
 rw [stOK, Bool.and_eq_true, Bool.and_eq_true, ses_iff, nod_iff]
 exact Iff.rfl
theorem live_iff (ss : List Ses) (i : Int) : live ss i = true ↔ ∃ z ∈ ss, z.1 = i := by
 rw [live, List.any_eq_true]
 simp
theorem bl_irrefl : ∀ a : List UInt8, Op.bytesLess a a = false
 | [] => rfl
 | x :: a => by simp [Op.bytesLess, bl_irrefl a, UInt8.lt_irrefl]
theorem bl_trans : ∀ {a b c : List UInt8}, Op.bytesLess a b = true → Op.bytesLess b c = true → Op.bytesLess a c = true
 | _, [], _, h, _ => by simp [Op.bytesLess] at h
 | _, _ :: _, [], _, h => by simp [Op.bytesLess] at h
 | [], _ :: _, _ :: _, _, _ => rfl
 | x :: a, y :: b, z :: c, h, k => by
  simp only [Op.bytesLess, Bool.or_eq_true, decide_eq_true_eq, Bool.and_eq_true, beq_iff_eq] at h k ⊢
  rcases h with h | ⟨rfl, h⟩
  ·rcases k with k | ⟨rfl, k⟩
   ·exact .inl (UInt8.lt_trans h k)
   ·exact .inl h
  ·rcases k with k | ⟨rfl, k⟩
   ·exact .inl k
   ·exact .inr ⟨rfl, bl_trans h k⟩
theorem bl_total : ∀ {a b : List UInt8}, Op.bytesLess a b = false → a ≠ b → Op.bytesLess b a = true
 | [], [], _, h => absurd rfl h
 | [], _ :: _, h, _ => by simp [Op.bytesLess] at h
 | _ :: _, [], _, _ => rfl
 | x :: a, y :: b, h, hne => by
  simp only [Op.bytesLess, Bool.or_eq_false_iff, decide_eq_false_iff_not] at h
  simp only [Op.bytesLess, Bool.or_eq_true, decide_eq_true_eq, Bool.and_eq_true, beq_iff_eq]
  by_cases hxy : x = y
  ·subst hxy
   right
   refine ⟨rfl, bl_total ?_ (fun e => hne (by rw [e]))⟩
   simpa using h.2
  ·exact .inl (UInt8.lt_of_le_of_ne (UInt8.not_lt.1 h.1) (Ne.symm hxy))
/-- what ascends by one step ascends throughout -/
theorem asc_far {n : Nat} {lt : Nat → Nat → Bool} (h : ascOf n lt = true) (tr : ∀ i j k, lt i j = true → lt j k = true → lt i k = true) : ∀ (j i : Nat), j < n → i < j → lt i j = true := by
 have hs : ∀ j, j + 1 < n → lt j (j + 1) = true := fun j hj => by
  have := List.all_eq_true.1 h (j + 1) (List.mem_range.2 hj)
  simpa using this
 intro j
 induction j with
 | zero => intro i _ hi; omega
 | succ j ih =>
  intro i hj hi
  by_cases e : i = j
  ·subst e; exact hs i hj
  ·exact tr i j (j + 1) (ih i (by omega) (by omega)) (hs j hj)
theorem ses_apart {x : Int} {ss : List Ses} (h : sesAll x ss = true) : ∀ (i j : Nat) (s s' : Ses), ss[i]? = some s → ss[j]? = some s' → i < j → s.1 ≠ s'.1 := by
 intro i j s s' hi hj hij
 rw [sesAll, Bool.and_eq_true] at h
 have := asc_far h.2 (fun i j k h1 h2 => by simp at h1 h2 ⊢; omega) j i (List.getElem?_eq_some_iff.1 hj).1 hij
 simp only [List.getD_eq_getElem?_getD, hi, hj, Option.getD_some, decide_eq_true_eq] at this
 omega
theorem not_leB {l m : List Int} : (!leB l m) = true ↔ Op.bytesLess (bstr m).toList (bstr l).toList = true := by
 simp only [leB, Bool.not_eq_true', Bool.or_eq_false_iff, beq_eq_false_iff_ne]
 constructor
 ·rintro ⟨h1, h2⟩
  exact bl_total h1 h2
 ·intro h
  refine ⟨?_, fun e => ?_⟩
  ·rw [Bool.eq_false_iff]
   intro h2
   have := bl_trans h h2
   rw [bl_irrefl] at this
   cases this
  ·rw [e, bl_irrefl] at h
   cases h
theorem nod_apart {e g : Int} {ns : List Nod} (h : nodAll e g ns = true) : ∀ (i j : Nat) (z z' : Nod), ns[i]? = some z → ns[j]? = some z' → i < j → z.path ≠ z'.path := by
 intro i j z z' hi hj hij
 rw [nodAll, Bool.and_eq_true] at h
 have := asc_far h.2 (fun i j k h1 h2 => not_leB.2 (bl_trans (not_leB.1 h1) (not_leB.1 h2))) j i (List.getElem?_eq_some_iff.1 hj).1 hij
 simp only [List.getD_eq_getElem?_getD, hi, hj, Option.getD_some] at this
 intro e
 rw [e, not_leB, bl_irrefl] at this
 cases this
theorem ses_u64 {x : Int} {ss : List Ses} (h : sesAll x ss = true) (hx : x ≤ 4611686018427387904) : ∀ s ∈ ss, 0 ≤ s.1 ∧ s.1 < 18446744073709551616 := by
 rw [sesAll, Bool.and_eq_true, List.all_eq_true] at h
 have H := (all_idx ss (0, 0, []) (sesV x)).1 fun i hi => h.1 i (List.mem_range.2 hi)
 intro s hs
 have := H s hs
 simp only [sesV, Bool.and_eq_true, decide_eq_true_eq] at this
 omega
end Go.Proofs.YtpbppdeleijhkaaGreatDoor
namespace Go.Proofs.YtpbppdeleijhkaaGreatDoor
open Go.ChangeShapes Go.WideShapes Go.ChangeAt Go.RowKit Go.Maps
set_option linter.unusedVariables false
set_option linter.unusedSimpArgs false
set_option maxRecDepth 100000

set_option maxHeartbeats 1600000 in
theorem implVS (e g x t : Int) (p q : Option Addr) (c n d m : Nat) (ss : List Ses) (ns : List Nod) (en : Hid (ss.length = n)) (em : Hid (ns.length = m)) (w : World) (h : RdSc w (.slice p n c) ss) (hN : RdN w (.slice q m d) ns) (hn : n ≤ 1048576) (hm : m ≤ 1048576)
  (hbs : Hid (∀ s ∈ ss, s.2.2.length ≤ 1048576 ∧ ∀ e ∈ s.2.2, Byt e.2 ∧ e.2.length ≤ 1048576))
  (hby : Hid (∀ nd ∈ ns, Byt nd.path ∧ nd.path.length ≤ 1048576 ∧ nd.value.length ≤ 1048576 ∧ nd.holders.length ≤ 1048576 ∧ nd.watchers.length ≤ 1048576))
  (hnu : Hid (∀ nd ∈ ns, (∀ i ∈ nd.holders, 0 ≤ i ∧ i < 18446744073709551616) ∧ ∀ i ∈ nd.watchers, 0 ≤ i ∧ i < 18446744073709551616))
  (hou : Hid (∀ nd ∈ ns, 0 ≤ nd.owner ∧ nd.owner < 18446744073709551616)) (hML : ML w) (B : Bool) (eB : Hid (stOK e g x t ss ns = B)) :
  Calls Tryz.prog 64 #[stV e g x t (.slice p n c) (.slice q m d)] w fun r w' => r = .returned (.bool B) ∧ Below w.heap.size w w' := by
 have HR := hide fun (w' : World) (hb : Below w.heap.size w w') => And.intro (h.below hb) (And.intro (hN.below hb) (hML.below hb))
 clear h hN hML
 have HI : Hid (B = true ↔ limOK e g x t n m = true ∧ sesAll x ss = true ∧ nodAll e g ns = true ∧ ns.all (fun nd => canPar ns (parL nd.path)) = true ∧ ∀ nd ∈ ns, ∀ i, Named nd i → live ss i = true) := by
  show _ ↔ _
  rw [← unhide eB, stOK_iff, unhide en, unhide em]
 clear eB
 obtain ⟨T1, E1⟩ : ∃ T, Hid (limOK e g x t n m = T) := ⟨_, (by show _ = _; rfl)⟩
 obtain ⟨T2, E2⟩ : ∃ T, Hid (sesAll x ss = T) := ⟨_, (by show _ = _; rfl)⟩
 obtain ⟨T3, E3⟩ : ∃ T, Hid (nodAll e g ns = T) := ⟨_, (by show _ = _; rfl)⟩
 obtain ⟨T4, E4⟩ : ∃ T, Hid (ns.all (fun nd => canPar ns (parL nd.path)) = T) := ⟨_, (by show _ = _; rfl)⟩
 obtain ⟨W, hW⟩ : ∃ W, W = (w.alloc (.cells #[.int .u64 e, .int .u64 g, .int .u64 x, .int .i64 t, .slice p n c, .slice q m d] 27)) := ⟨_, rfl⟩
 have bW : Below w.heap.size w W := by rw [hW]; exact (Below.refl _ _).alloc (Nat.le_refl _) _
 have hc6 : St6 W w.heap.size e g x t (.slice p n c) (.slice q m d) := by rw [hW]; simp [St6]
 have HC6 := hide hc6
 go_enter Tryz.func64, Tryz.ntmps64
 go_wp2_with fail
 rw [← hW]
 clear hW hc6
 refine (limits_any e g x t p q c n d m _ hn hm T1 E1).mono ?_
 rintro r w1 ⟨rfl, hb1⟩
 have b1 := Below.step bW hb1
 cases T1 with
 | false =>
  have eF : B = false := by rw [Bool.eq_false_iff]; intro hB; have := ((unhide HI).1 hB).1; rw [unhide E1] at this; cases this
  subst eF
  go_wp2
  go_ret
  exact ⟨rfl, b1⟩
 | true =>
  obtain ⟨i0, i1, i2, i3, i4, i5⟩ := (unhide HC6).below hb1
  go_wp2_with fail
  refine (validSessions_any e g x t p c n _ ss en _ (unhide HR _ b1).1 hn hbs (unhide HR _ b1).2.2 T2 E2).mono ?_
  rintro r w2 ⟨rfl, hb2⟩
  have b2 := Below.step b1 hb2
  cases T2 with
  | false =>
   have eF : B = false := by rw [Bool.eq_false_iff]; intro hB; have := ((unhide HI).1 hB).2.1; rw [unhide E2] at this; cases this
   subst eF
   clear i0 i1 i2 i3 i4 i5
   go_wp2
   go_ret
   exact ⟨rfl, b2⟩
  | true =>
   replace i0 := cell_below i0 hb2
   replace i1 := cell_below i1 hb2
   replace i2 := cell_below i2 hb2
   replace i3 := cell_below i3 hb2
   replace i4 := cell_below i4 hb2
   replace i5 := cell_below i5 hb2
   go_wp2_with fail
   refine (validNodes_any e g x t _ q d m ns em _ (unhide HR _ b2).2.1 hm hby (unhide HR _ b2).2.2 T3 E3).mono ?_
   rintro r w3 ⟨rfl, hb3⟩
   have b3 := Below.step b2 hb3
   cases T3 with
   | false =>
    have eF : B = false := by rw [Bool.eq_false_iff]; intro hB; have := ((unhide HI).1 hB).2.2.1; rw [unhide E3] at this; cases this
    subst eF
    clear i0 i1 i2 i3 i4 i5
    go_wp2
    go_ret
    exact ⟨rfl, b3⟩
   | true =>
    replace i0 := cell_below i0 hb3
    replace i1 := cell_below i1 hb3
    replace i2 := cell_below i2 hb3
    replace i3 := cell_below i3 hb3
    replace i4 := cell_below i4 hb3
    replace i5 := cell_below i5 hb3
    have hx : x ≤ 4611686018427387904 := by have := unhide E1; simp only [limOK, decide_eq_true_eq] at this; exact this.2.2.1
    have H1 := hide (ses_u64 (unhide E2) hx)
    have H2 := hide (ses_apart (unhide E2))
    have H3 := hide (nod_apart (unhide E3))
    clear hx
    go_wp2_with fail
    refine (storeOf_any e g x t p q c n d m ss ns en em _ (unhide HR _ b3).1 (unhide HR _ b3).2.1 hn hm H1 H2 hby hnu H3).mono ?_
    rintro r w4 ⟨b, bs, bn, SB, NB, HB, UB, rfl, hst, hb4⟩
    have b4 := Below.step b3 hb4
    have HST := hide hst
    clear hst hb4 i0 i1 i2 i3 i4 i5
    go_wp2_with fail
    refine (hasAll_any _ HST (fun nd hnd => ⟨(unhide hby nd hnd).1, (unhide hby nd hnd).2.1⟩) T4 E4).mono ?_
    rintro r w5 ⟨rfl, hb5⟩
    have b5 := Below.step b4 hb5
    cases T4 with
    | false =>
     have eF : B = false := by rw [Bool.eq_false_iff]; intro hB; have := ((unhide HI).1 hB).2.2.2.1; rw [unhide E4] at this; cases this
     subst eF
     go_wp2
     go_ret
     exact ⟨rfl, b5⟩
    | true =>
     have HST5 := hide ((unhide HST).below hb5)
     go_wp2_with fail
     refine (strangers_any _ HST5 (fun nd hnd => ⟨(unhide hby nd hnd).1, (unhide hby nd hnd).2.2.2⟩) hou m em hm n en).mono ?_
     rintro r w6 ⟨nb, k, D, s, rfl, oD, sD, hs, hb6⟩
     have b6 := Below.step b5 hb6
     have hlen : ∀ ty, (Builtin.len_ #[135] ty #[.map (some nb)]).run Tryz.prog w6 = .ok (.int .i64 (Maps.size D)) w6 := fun ty => oD.len Tryz.underlying135 ty
     have hsz : Maps.size D = 0 ↔ s = [] := sD.size0 oD.isMap (fun es ee p hp => by
      obtain ⟨es', e', _, hk⟩ := oD.entries keyU
      rw [ee] at e'
      cases e'
      exact hk p hp)
     have hB : B = true ↔ s = [] := by
      rw [unhide HI]
      constructor
      ·rintro ⟨_, _, _, _, h5⟩
       apply List.eq_nil_iff_forall_not_mem.2
       intro i hi
       obtain ⟨⟨nd, hnd, hN⟩, hno⟩ := (hs i).1 hi
       exact hno ((live_iff ss i).1 (h5 nd hnd i hN))
      ·intro hs0
       refine ⟨unhide E1, unhide E2, unhide E3, unhide E4, fun nd hnd i hN => ?_⟩
       rw [live_iff]
       by_cases hh : ∃ z ∈ ss, z.1 = i
       ·exact hh
       ·have := (hs i).2 ⟨⟨nd, hnd, hN⟩, hh⟩
        rw [hs0] at this
        cases this
     have hb : ((Maps.size D : Int) == 0) = B := by
      rw [Bool.eq_iff_iff, hB, ← hsz]
      simp
     clear hsz hB sD oD hs hb6
     go_wp2
     go_ret
     exact ⟨rfl, b6⟩
end Go.Proofs.YtpbppdeleijhkaaGreatDoor
namespace Go.Proofs.YtpbppdeleijhkaaGreatDoor
open Go.ChangeShapes Go.WideShapes Go.ChangeAt Go.RowKit
set_option linter.unusedVariables false
set_option linter.unusedSimpArgs false
set_option maxRecDepth 100000

/-- the ids of the sessions whose deadline is at most t -/
def expL (t : Int) (ss : List Ses) : List Int := (ss.filter fun s => decide (s.2.1 ≤ t)).map (·.1)
theorem expL_snoc {t : Int} {ss : List Ses} {k : Nat} {s : Ses} (h : ss[k]? = some s) : expL t (ss.take (k + 1)) = expL t (ss.take k) ++ (if s.2.1 ≤ t then [s.1] else []) := by
 rw [List.take_add_one, h]
 simp only [expL, Option.toList_some, List.filter_append, List.map_append]
 congr 1
 by_cases h1 : s.2.1 ≤ t <;> simp [h1]
theorem expL_len (t : Int) (ss : List Ses) : (expL t ss).length ≤ ss.length := by
 simp only [expL, List.length_map]
 exact List.length_filter_le _ _
abbrev OwnU (B : Nat) (w : World) (v : Value) (l : List Int) : Prop := w.ownsRow B 23 1 v l.length (l.map (Value.int .u64))

theorem OwnU.form {B : Nat} {w : World} {v : Value} {l : List Int} (h : OwnU B w v l) : ∃ p c, v = .slice p l.length c := by
 rcases h.2 with ⟨rfl, h0⟩ | ⟨g, cap, cur, rfl, _⟩
 ·exact ⟨none, 0, by rw [h0]⟩
 ·exact ⟨_, _, rfl⟩
/-- 'append(x, u)' of one number that lies in a block of its own -/
theorem wpList_append_u {w : World} {ops : Array Oper} {rest : List Oper} {o : Oper} {a : Act} {Q : Exit → Act → World → Prop} (hgd : o.guard = none) (s x : Operand)
  (ho : o.op = .call { callee := .builtin .append, args := #[s, x], argTypes := #[41, 41] })
  (B : Nat) (v : Value) (l lm : List Int) (y : Int) (elm : Hid (lm = l ++ [y])) (g : Nat) (hs : a.eval s = v) (hx : a.eval x = .slice (some ⟨g, 0, none⟩) 1 1) (hown : OwnU B w v l) (hc : w.cell? ⟨g, 0, none⟩ = some (.int .u64 y))
  (hl : l.length < 4194304) (hB : B ≤ w.heap.size)
  (h : ∀ p' c' w', OwnU B w' (.slice p' lm.length c') lm → w.grownBy w' v.ownBlock → wpList Tryz.prog ops Q rest (a.put o.dst (.slice p' lm.length c')) w') : wpList Tryz.prog ops Q (o :: rest) a w := by
 obtain ⟨i, hi, hz0, hz1, hz2⟩ := info_parts Tryz.infoU64
 refine wpList_append_fr hgd s x 41 ho B 23 i (.int .u64 0) 1 8 Tryz.underlying41 hi hz0 hz1 hz2 rfl (by decide) v _ _ hs hown g 1 1 [.int .u64 y] hx rfl (fun j u hu => ?_) (fun u hu => by simp at hu; subst hu; rfl) (by unfold maxLen; omega) (by omega) hB ?_
 ·cases j with
  | zero => simp at hu; subst hu; exact hc
  | succ j => simp at hu
 ·intro v' w' h1 h2 _
  have e := unhide elm
  subst e
  have ho2 : OwnU B w' v' (l ++ [y]) := by unfold OwnU; rw [List.length_append, List.map_append]; exact h1
  obtain ⟨p', c', rfl⟩ := ho2.form
  exact h p' c' w' ho2 h2
theorem OwnU.mono {B B' : Nat} {w : World} {v : Value} {l : List Int} (h : OwnU B w v l) (hB : B' ≤ B) : OwnU B' w v l := by
 refine ⟨h.1, ?_⟩
 rcases h.2 with h | ⟨g, cap, cur, rfl, hb, r⟩
 ·exact .inl h
 ·exact .inr ⟨g, cap, cur, rfl, by omega, r⟩
theorem OwnU.below {B : Nat} {w w' : World} {v : Value} {l : List Int} (h : OwnU B w v l) (hb : Below w.heap.size w w') : OwnU B w' v l :=
 World.ownsRow.kept (row := none) h (grown_of_b hb) (by by_cases e : v.ownBlock = none <;> simp [e])

set_option maxHeartbeats 1600000 in
theorem specExp_ok (e g x t : Int) (p q : Option Addr) (c n d m : Nat) (ss : List Ses) (ns : List Nod) (en : Hid (ss.length = n)) (em : Hid (ns.length = m)) (w : World) (h : RdS w (.slice p n c) ss) (hN : RdN w (.slice q m d) ns) (hn : n ≤ 1048576) (hm : m ≤ 1048576)
  (hbs : Hid (∀ s ∈ ss, s.2.2.length ≤ 1048576 ∧ ∀ e ∈ s.2.2, Byt e.2 ∧ e.2.length ≤ 1048576)) (hby : Hid (∀ nd ∈ ns, Byt nd.path ∧ nd.path.length ≤ 1048576 ∧ nd.value.length ≤ 1048576 ∧ nd.holders.length ≤ 1048576 ∧ nd.watchers.length ≤ 1048576)) (eB : Hid (stOK e g x t ss ns = true)) :
  Calls Tryz.prog 18 #[stV e g x t (.slice p n c) (.slice q m d)] w fun r w' => ∃ v, r = .returned v ∧ OwnU w.heap.size w' v (expL t ss) ∧ Below w.heap.size w w' := by
 have HR := hide fun (w' : World) (hb : Below w.heap.size w w') => And.intro (h.below hb) (hN.below hb)
 clear h hN
 obtain ⟨iu, hiu, hz0, hz1, hz2⟩ := info_parts Tryz.infoU64
 obtain ⟨W, hW⟩ : ∃ W, W = (w.alloc (.cells #[.int .u64 e, .int .u64 g, .int .u64 x, .int .i64 t, .slice p n c, .slice q m d] 27)) := ⟨_, rfl⟩
 have bW : Below w.heap.size w W := by rw [hW]; exact (Below.refl _ _).alloc (Nat.le_refl _) _
 have hc6 : St6 W w.heap.size e g x t (.slice p n c) (.slice q m d) := by rw [hW]; simp [St6]
 have zW : W.heap.size = w.heap.size + 1 := by rw [hW]; simp
 go_enter Tryz.func18, Tryz.ntmps18
 go_wp2_with fail
 rw [← hW]
 clear hW
 refine (specVS e g x t p q c n d m ss ns en em _ (unhide HR _ bW).1 (unhide HR _ bW).2 hn hm hbs hby true eB).mono ?_
 rintro r w1 ⟨rfl, hb1⟩
 have b1 := Below.step bW hb1
 have z1 : w.heap.size + 1 ≤ w1.heap.size := by have := hb1.size; omega
 have C1 := hide (hc6.below hb1)
 clear hb1 bW hc6 zW
 go_wp2_with fail
 go_loopw [3, 4] (fun ov iv wr => ∃ (k : Nat), k ≤ n ∧ iv = .int .i64 k ∧ OwnU (w.heap.size + 1) wr ov (expL t (ss.take k)) ∧ Below w.heap.size w wr ∧ Hid (St6 wr w.heap.size e g x t (.slice p n c) (.slice q m d))) (fun _ iv _ => n - (intOf iv).toNat)
 case atStart => exact ⟨0, Nat.zero_le _, rfl, (by simpa [expL, OwnU] using World.ownsRow_nil w1 (w.heap.size + 1) 23 1), b1, C1⟩
 case round =>
  obtain ⟨k, hk, rfl, ho, hbr, hst⟩ := hrel
  obtain ⟨i0, i1, i2, i3, i4, i5⟩ := unhide hst
  by_cases hlt : k < n
  ·have hlt' : (k : Int) < (n : Int) := by omega
   have hkl : k < ss.length := by rw [unhide en]; exact hlt
   obtain ⟨⟨I, D, Q⟩, hy⟩ : ∃ y, ss[k]? = some y := ⟨_, List.getElem?_eq_getElem hkl⟩
   obtain ⟨b, o, rfl, hcI, hcD⟩ : ∃ b o, p = some ⟨b, o, none⟩ ∧ wr.cell? ⟨b, o + k * 3, none⟩ = some (.int .u64 I) ∧ wr.cell? ⟨b, o + k * 3 + 1, none⟩ = some (.int .i64 D) := by
    obtain ⟨p', c', ev, hd⟩ := (unhide HR _ hbr).1
    simp only [Value.slice.injEq] at ev
    obtain ⟨rfl, -, -⟩ := ev
    rcases hd with h0 | ⟨b, o, h1, h2⟩
    ·rw [h0] at hkl; simp at hkl
    ·obtain ⟨q1, q2, -⟩ := h2 k _ hy
     exact ⟨b, o, h1, q1, q2⟩
   have hsn := expL_snoc (t := t) hy
   have hll := expL_len t (ss.take k)
   have hl4 : (expL t (ss.take k)).length < 4194304 := by have : (ss.take k).length ≤ k := List.length_take_le _ _; omega
   obtain ⟨pv, cv, rfl⟩ := OwnU.form ho
   obtain ⟨L, eL⟩ : ∃ L, L = expL t (ss.take k) := ⟨_, rfl⟩
   obtain ⟨L2, eL2⟩ : ∃ L2, L2 = expL t (ss.take (k + 1)) := ⟨_, rfl⟩
   rw [← eL] at ho hl4 hsn ⊢
   rw [← eL2] at hsn
   dsimp only at hsn
   have HSN := hide hsn
   have EL2 := hide eL2
   have HO := hide ho
   have hz : w.heap.size + 1 ≤ wr.heap.size := by
    have := hbr.cell (p := ⟨b, o, none⟩)
    have := World.block_lt_of_cell? wr _ i0
    simp at this
    omega
   clear hy hkl hsn hll eL eL2 ho
   go_wp2_with fail
   refine wp_region_noPanic ?_
   refine wp_region_held_drew (S := fun w' => w'.cell? ⟨w.heap.size, 4, none⟩ = some (.slice (some ⟨b, o, none⟩) n c) ∧ w'.cell? ⟨b, o + k * 3 + 1, none⟩ = some (.int .i64 D) ∧ w'.cell? ⟨w.heap.size, 3, none⟩ = some (.int .i64 t)) (by kernel_rfl) (by exact ⟨i4, hcD, i3⟩) (fun hS => ?_)
   refine tk 0 hS (h := ?_)
   simp only [Act.put, xa, xb, xc]
   refine tk 1 hS (h := ?_)
   simp only [Act.put, xa, xb, xc]
   refine tk 2 hS (h := ?_)
   simp only [Act.put, xa, xb, xc]
   refine tk 3 hS (h := ?_)
   simp only [Act.put, xa, xb, xc]
   refine tk 4 hS (h := ?_)
   simp only [Act.put, xa, xb, xc]
   refine tk 5 hS (h := ?_)
   simp only [Act.put, xa, xb, xc]
   refine tk 6 hS (h := ?_)
   simp only [Act.put, xa, xb, xc]
   refine tk 7 hS (h := ?_)
   simp only [Act.put, xa, xb, xc]
   refine tk 8 hS (h := ?_)
   simp only [Act.put, xa, xb, xc]
   refine wpAnyH_done (by kernel_rfl) ?_ _
   refine NoPanic.normal ?_
   obtain ⟨X, hX⟩ : ∃ X, X = wr.drew := ⟨_, rfl⟩
   rw [← hX]
   have hbX : Below wr.heap.size wr X := by rw [hX]; exact (Below.refl _ _).drew
   have bX := Below.step hbr hbX
   have stX := hide ((unhide hst).below hbX)
   have OX := hide ((unhide HO).below hbX)
   have hzX : w.heap.size + 1 ≤ X.heap.size := by have := hbX.size; omega
   replace hcI := cell_below hcI hbX
   clear hS hX hbX HO i0 i1 i2 i3 i4 i5 hst hbr hcD hz
   obtain ⟨i0, i1, i2, i3, i4, i5⟩ := unhide stX
   by_cases hDt : D ≤ t
   ·have E1 : Hid (L2 = L ++ [I]) := by
     have := unhide HSN
     rw [if_pos hDt] at this
     exact this
    go_wp2_with (at_builtin; refine wpList_append_u rfl _ _ rfl (w.heap.size + 1) (.slice pv L.length cv) L L2 I E1 X.heap.size rfl rfl (OwnU.below (unhide OX) ((Below.refl _ _).alloc (Nat.le_refl _) _)) (by simp) hl4 (by simp; omega) ?_)
    intro p' c' w' o2 hg2
    have bA : Below X.heap.size X (X.alloc (.cells #[.int .u64 I] 23)) := (Below.refl _ _).alloc (Nat.le_refl _) _
    have b2 : Below w.heap.size w w' := (Below.step bX bA).grown hg2 (by simp; omega) (fun b' e => by have := ((unhide OX).lt b' e).1; omega)
    have st2 : Hid (St6 w' w.heap.size e g x t (.slice (some ⟨b, o, none⟩) n c) (.slice q m d)) :=
     ((unhide stX).below bA).heap (hg2.block w.heap.size (by simp; omega) (fun e => by have := ((unhide OX).lt w.heap.size e.symm).1; omega))
    clear bA hg2 i0 i1 i2 i3 i4 i5 hcI
    rw [unhide EL2] at o2 ⊢
    go_wp2
    go_roundw
    case rel => exact ⟨k + 1, by omega, by go_num, o2, b2, st2⟩
    case measure => simp [intOf]; omega
   ·go_wp2
    go_roundw
    case rel =>
     have := unhide HSN
     rw [if_neg hDt, List.append_nil] at this
     exact ⟨k + 1, by omega, by go_num, by rw [← unhide EL2, this]; exact unhide OX, bX, stX⟩
    case measure => simp [intOf]; omega
  ·have hlt' : ¬ (k : Int) < (n : Int) := by omega
   have ekn : k = n := by omega
   subst ekn
   have ho2 : OwnU w.heap.size wr u3 (expL t ss) := by
    rw [List.take_of_length_le (by rw [unhide en]; exact Nat.le_refl _)] at ho
    exact OwnU.mono ho (by omega)
   go_wp2
   go_ret
   exact ⟨_, rfl, ho2, hbr⟩

set_option maxHeartbeats 1600000 in
theorem specExp_no (e g x t : Int) (p q : Option Addr) (c n d m : Nat) (ss : List Ses) (ns : List Nod) (en : Hid (ss.length = n)) (em : Hid (ns.length = m)) (w : World) (h : RdS w (.slice p n c) ss) (hN : RdN w (.slice q m d) ns) (hn : n ≤ 1048576) (hm : m ≤ 1048576)
  (hbs : Hid (∀ s ∈ ss, s.2.2.length ≤ 1048576 ∧ ∀ e ∈ s.2.2, Byt e.2 ∧ e.2.length ≤ 1048576)) (hby : Hid (∀ nd ∈ ns, Byt nd.path ∧ nd.path.length ≤ 1048576 ∧ nd.value.length ≤ 1048576 ∧ nd.holders.length ≤ 1048576 ∧ nd.watchers.length ≤ 1048576)) (eB : Hid (stOK e g x t ss ns = false)) :
  Calls Tryz.prog 18 #[stV e g x t (.slice p n c) (.slice q m d)] w fun r w' => ∃ v, r = .returned v ∧ OwnU w.heap.size w' v [] ∧ Below w.heap.size w w' := by
 have HR := hide fun (w' : World) (hb : Below w.heap.size w w') => And.intro (h.below hb) (hN.below hb)
 clear h hN
 obtain ⟨W, hW⟩ : ∃ W, W = (w.alloc (.cells #[.int .u64 e, .int .u64 g, .int .u64 x, .int .i64 t, .slice p n c, .slice q m d] 27)) := ⟨_, rfl⟩
 have bW : Below w.heap.size w W := by rw [hW]; exact (Below.refl _ _).alloc (Nat.le_refl _) _
 have hc6 : St6 W w.heap.size e g x t (.slice p n c) (.slice q m d) := by rw [hW]; simp [St6]
 go_enter Tryz.func18, Tryz.ntmps18
 go_wp2_with fail
 rw [← hW]
 clear hW
 refine (specVS e g x t p q c n d m ss ns en em _ (unhide HR _ bW).1 (unhide HR _ bW).2 hn hm hbs hby false eB).mono ?_
 rintro r w1 ⟨rfl, hb1⟩
 have b1 := Below.step bW hb1
 clear hb1 bW hc6
 go_wp2
 go_ret
 exact ⟨_, rfl, (by simpa [OwnU] using World.ownsRow_nil w1 w.heap.size 23 1), b1⟩
/-- what Expired gives -/
def expR (e g x t : Int) (ss : List Ses) (ns : List Nod) : List Int := if stOK e g x t ss ns = true then expL t ss else []
theorem specExp (e g x t : Int) (p q : Option Addr) (c n d m : Nat) (ss : List Ses) (ns : List Nod) (en : Hid (ss.length = n)) (em : Hid (ns.length = m)) (w : World) (h : RdS w (.slice p n c) ss) (hN : RdN w (.slice q m d) ns) (hn : n ≤ 1048576) (hm : m ≤ 1048576)
  (hbs : Hid (∀ s ∈ ss, s.2.2.length ≤ 1048576 ∧ ∀ e ∈ s.2.2, Byt e.2 ∧ e.2.length ≤ 1048576)) (hby : Hid (∀ nd ∈ ns, Byt nd.path ∧ nd.path.length ≤ 1048576 ∧ nd.value.length ≤ 1048576 ∧ nd.holders.length ≤ 1048576 ∧ nd.watchers.length ≤ 1048576)) :
  Calls Tryz.prog 18 #[stV e g x t (.slice p n c) (.slice q m d)] w fun r w' => ∃ v, r = .returned v ∧ OwnU w.heap.size w' v (expR e g x t ss ns) ∧ Below w.heap.size w w' := by
 unfold expR
 by_cases hB : stOK e g x t ss ns = true
 ·rw [if_pos hB]
  exact specExp_ok e g x t p q c n d m ss ns en em w h hN hn hm hbs hby hB
 ·rw [if_neg hB]
  exact specExp_no e g x t p q c n d m ss ns en em w h hN hn hm hbs hby (hide (by simpa using hB))
end Go.Proofs.YtpbppdeleijhkaaGreatDoor
