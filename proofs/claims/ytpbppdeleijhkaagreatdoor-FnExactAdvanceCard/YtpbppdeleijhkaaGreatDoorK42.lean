import Derived.Test.YtpbppdeleijhkaaGreatDoorST4
import Derived.Test.YtpbppdeleijhkaaGreatDoorK30
namespace Go.Proofs.YtpbppdeleijhkaaGreatDoor
open Go.ChangeShapes Go.WideShapes Go.ChangeAt Go.RowKit Go.Maps
set_option linter.unusedVariables false
set_option linter.unusedSimpArgs false
set_option maxRecDepth 100000

theorem pw_of {α : Type} {R : α → α → Prop} {l : List α} (h : ∀ (i j : Nat) (a b : α), l[i]? = some a → l[j]? = some b → i < j → R a b) : l.Pairwise R := by
 rw [List.pairwise_iff_getElem]
 intro i j hi hj hij
 exact h i j _ _ (List.getElem?_eq_getElem hi) (List.getElem?_eq_getElem hj) hij
theorem ses_asc {x : Int} {ss : List Ses} (h : sesAll x ss = true) : ss.Pairwise (fun s s' => s.1 < s'.1) := by
 refine pw_of fun i j s s' hi hj hij => ?_
 rw [sesAll, Bool.and_eq_true] at h
 have := asc_far h.2 (fun i j k h1 h2 => by simp at h1 h2 ⊢; omega) j i (List.getElem?_eq_some_iff.1 hj).1 hij
 simpa only [List.getD_eq_getElem?_getD, hi, hj, Option.getD_some, decide_eq_true_eq] using this
theorem nod_asc {e g : Int} {ns : List Nod} (h : nodAll e g ns = true) : (ns.map fun nd => byS nd.path).Pairwise (· < ·) := by
 rw [List.pairwise_map]
 refine pw_of fun i j s s' hi hj hij => ?_
 rw [nodAll, Bool.and_eq_true] at h
 have := asc_far h.2 (fun i j k h1 h2 => not_leB.2 (bl_trans (not_leB.1 h1) (not_leB.1 h2))) j i (List.getElem?_eq_some_iff.1 hj).1 hij
 simp only [List.getD_eq_getElem?_getD, hi, hj, Option.getD_some] at this
 rw [not_leB, T.bytesLess_is, decide_eq_true_eq, bstr_list, bstr_list] at this
 exact this
theorem ascI_asc {l : List Int} (h : ascI l = true) : l.Pairwise (· < ·) := by
 refine pw_of fun i j s s' hi hj hij => ?_
 rw [ascI] at h
 have := asc_far h (fun i j k h1 h2 => by simp at h1 h2 ⊢; omega) j i (List.getElem?_eq_some_iff.1 hj).1 hij
 simpa only [List.getD_eq_getElem?_getD, hi, hj, Option.getD_some, decide_eq_true_eq] using this
theorem nod_each {e g : Int} {ns : List Nod} (h : nodAll e g ns = true) : ∀ nd ∈ ns, nd.holders.Pairwise (· < ·) ∧ nd.watchers.Pairwise (· < ·) := by
 intro nd hnd
 rw [nodAll, Bool.and_eq_true] at h
 have h1 : ∀ y ∈ ns, nodV e g y = true := (all_idx ns nod0 (nodV e g)).1 fun i hi => List.all_eq_true.1 h.1 i (List.mem_range.2 hi)
 have := h1 nd hnd
 simp only [nodV, Bool.and_eq_true] at this
 exact ⟨ascI_asc this.2.2.2.1, ascI_asc this.2.2.2.2⟩
/-- what a valid state is to the store -/
structure Fine (ss : List Ses) (ns : List Nod) : Prop where
 s1 : ss.Pairwise (fun s s' => s.1 < s'.1)
 n1 : (ns.map fun nd => byS nd.path).Pairwise (· < ·)
 s2 : ∀ s ∈ ss, (0 ≤ s.1 ∧ s.1 < 18446744073709551616) ∧ s.2.2.length ≤ 1048576 ∧ ∀ e ∈ s.2.2, e.2.length ≤ 1048576
 n2 : ∀ nd ∈ ns, Byt nd.path ∧ nd.path.length ≤ 1048576 ∧ nd.value.length ≤ 1048576 ∧ nd.holders.length ≤ 1048576 ∧ nd.watchers.length ≤ 1048576 ∧ nd.holders.Pairwise (· < ·) ∧ nd.watchers.Pairwise (· < ·)
 s3 : ∀ (i j : Nat) (s s' : Ses), ss[i]? = some s → ss[j]? = some s' → i < j → s.1 ≠ s'.1
 n3 : ∀ (i j : Nat) (z z' : Nod), ns[i]? = some z → ns[j]? = some z' → i < j → z.path ≠ z'.path
theorem fine_of {e g x t : Int} {ss : List Ses} {ns : List Nod} (h : stOK e g x t ss ns = true) (hbs : ∀ s ∈ ss, s.2.2.length ≤ 1048576 ∧ ∀ e ∈ s.2.2, Byt e.2 ∧ e.2.length ≤ 1048576)
  (hby : ∀ nd ∈ ns, Byt nd.path ∧ nd.path.length ≤ 1048576 ∧ nd.value.length ≤ 1048576 ∧ nd.holders.length ≤ 1048576 ∧ nd.watchers.length ≤ 1048576) : Fine ss ns := by
 obtain ⟨h1, h2, h3, h4, h5⟩ := (stOK_iff e g x t ss ns).1 h
 have hx : x ≤ 4611686018427387904 := by simp only [limOK, decide_eq_true_eq] at h1; exact h1.2.2.1
 refine ⟨ses_asc h2, nod_asc h3, fun s hs => ⟨ses_u64 h2 hx s hs, (hbs s hs).1, fun e he => ((hbs s hs).2 e he).2⟩, fun nd hnd => ?_, ses_apart h2, nod_apart h3⟩
 obtain ⟨a, b, c, d, f⟩ := hby nd hnd
 exact ⟨a, b, c, d, f, (nod_each h3 nd hnd).1, (nod_each h3 nd hnd).2⟩
theorem sto_of {w0 w : World} {b bs bn : Nat} {e g x t : Int} {ss : List Ses} {ns : List Nod} {SB NB HB UB : List Nat} (h : StoreAt w0 w b bs bn e g x t ss ns SB NB HB UB) (hb : Below w0.heap.size w0 w) (l1 : ss.length ≤ 1048576) (l2 : ns.length ≤ 1048576) : Sto w b bs bn e g x t ss ns SB NB := by
 refine ⟨h.hd, ⟨h.ses.len, ?_, fun i s gb hs hg => ?_⟩, ⟨h.nod.len, ?_, fun i nd gb hs hg => ?_⟩⟩
 ·obtain ⟨D, o, m⟩ := h.ses.own
  exact ⟨D, _, o, l1, m⟩
 ·obtain ⟨-, u, q1, q2⟩ := h.ses.blk i s gb hs hg
  exact ⟨u, q1, q2.below hb⟩
 ·obtain ⟨D, o, m⟩ := h.nod.own
  exact ⟨D, _, o, l2, m⟩
 ·have hi := (List.getElem?_eq_some_iff.1 hs).1
  obtain ⟨hh, hhe⟩ : ∃ y, HB[i]? = some y := ⟨_, List.getElem?_eq_getElem (by rw [h.nod.lenH]; exact hi)⟩
  obtain ⟨uu, hue⟩ : ∃ y, UB[i]? = some y := ⟨_, List.getElem?_eq_getElem (by rw [h.nod.lenU]; exact hi)⟩
  obtain ⟨-, -, -, ⟨V, q1, q2⟩, q3, q4⟩ := h.nod.blk i nd gb hh uu hs hg hhe hue
  exact ⟨V, hh, uu, q1, q2.below hb, q3, q4⟩
end Go.Proofs.YtpbppdeleijhkaaGreatDoor
namespace Go.Proofs.YtpbppdeleijhkaaGreatDoor
open Go.ChangeShapes Go.WideShapes Go.ChangeAt Go.RowKit Go.Maps
set_option linter.unusedVariables false
set_option linter.unusedSimpArgs false
set_option maxRecDepth 100000

/-- a state as plain data -/
structure StD where
 e : Int
 g : Int
 x : Int
 t : Int
 ss : List Ses
 ns : List Nod
def stD0 : StD := ⟨0, 0, 0, 0, [], []⟩
/-- a state of the call's own: what it reads, and its leaves, apart, from block B on -/
def StOwn (B : Nat) (w : World) (p : Option Addr) (n c : Nat) (q : Option Addr) (m d : Nat) (ss : List Ses) (ns : List Nod) : Prop :=
 ∃ A1 A2, RdSc w (.slice p n c) ss ∧ RdN w (.slice q m d) ns ∧ LvS w (.slice p n c) ss A1 ∧ LvN w (.slice q m d) ns A2 ∧ Apt B w (A1 ++ A2)
theorem StOwn.zero (B : Nat) (w : World) : StOwn B w none 0 0 none 0 0 [] [] :=
 ⟨[], [], ⟨none, 0, rfl, .inl rfl⟩, ⟨none, 0, rfl, .inl rfl⟩, ⟨none, 0, [], rfl, rfl, rfl, .inl rfl⟩, ⟨none, 0, [], rfl, rfl, rfl, .inl rfl⟩, Apt.nil _ _⟩
theorem StOwn.keep {B : Nat} {w w' : World} {p q : Option Addr} {n c m d : Nat} {ss : List Ses} {ns : List Nod} (h : StOwn B w p n c q m d ss ns) (hk : ∀ b, B ≤ b → b < w.heap.size → w'.heap[b]? = w.heap[b]?) : StOwn B w' p n c q m d ss ns := by
 obtain ⟨A1, A2, h1, h2, h3, h4, h5⟩ := h
 have k : ∀ a ∈ A1 ++ A2, w'.heap[a.b]? = w.heap[a.b]? := fun a ha => hk _ (h5.lo a ha) (h5.inn.lt ha)
 have k1 : ∀ a ∈ A1, w'.heap[a.b]? = w.heap[a.b]? := fun a ha => k a (List.mem_append_left _ ha)
 have k2 : ∀ a ∈ A2, w'.heap[a.b]? = w.heap[a.b]? := fun a ha => k a (List.mem_append_right _ ha)
 exact ⟨A1, A2, h1.keepLv h3 k1, h2.keepLv h4 k2, LvS.keep h3 k1, LvN.keep h4 k2, h5.keep k⟩
theorem StOwn.below {B : Nat} {w w' : World} {p q : Option Addr} {n c m d : Nat} {ss : List Ses} {ns : List Nod} (h : StOwn B w p n c q m d ss ns) (hb : Below w.heap.size w w') : StOwn B w' p n c q m d ss ns := h.keep fun b _ hl => hb.block b hl
theorem StOwn.mono {B B' : Nat} {w : World} {p q : Option Addr} {n c m d : Nat} {ss : List Ses} {ns : List Nod} (h : StOwn B w p n c q m d ss ns) (hB : B' ≤ B) : StOwn B' w p n c q m d ss ns := by
 obtain ⟨A1, A2, h1, h2, h3, h4, h5⟩ := h
 exact ⟨A1, A2, h1, h2, h3, h4, h5.mono hB⟩
/-- what a function that gives a state and a code has given -/
def StRes (B : Nat) (r : Ending) (w : World) (D : StD) (code : Int) : Prop := ∃ p c q d, r = .returned (.tuple #[stV D.e D.g D.x D.t (.slice p D.ss.length c) (.slice q D.ns.length d), .int .i64 code]) ∧ StOwn B w p D.ss.length c q D.ns.length d D.ss D.ns
theorem StoreAt.setNow {w0 w : World} {b bs bn : Nat} {e g x t : Int} {ss : List Ses} {ns : List Nod} {SB NB HB UB : List Nat} (h : StoreAt w0 w b bs bn e g x t ss ns SB NB HB UB) (t' : Int) : StoreAt w0 (w.setCell ⟨b, 3, none⟩ (.int .i64 t')) b bs bn e g x t' ss ns SB NB HB UB := by
 have hk : ∀ z, z ≠ b → (w.setCell ⟨b, 3, none⟩ (.int .i64 t')).heap[z]? = w.heap[z]? := fun z hz => RowKit.Below.heap_setCell _ _ _ _ hz
 have hc : ∀ {z : Nat} {cs : Array Value} {ty : TypeId}, w.heap[z]? = some (.cells cs ty) → ty ≠ 102 → z ≠ b := fun {z cs ty} hz ht e => by
  rw [e, h.hd] at hz
  simp at hz
  exact ht hz.2.symm
 have hmn : ∀ {k : TypeId} {R : Value → Option (DataW Unit × List MemPlace)} {z n : Nat} {D : DataW Unit}, w.ownsMap Tryz.prog k R z n D → z ≠ b := fun {k R z n D} o e => ownsMap_cells o h.hd e.symm
 refine ⟨?_, ⟨h.ses.len, ?_, fun i s gb hs hg => ?_, h.ses.nod⟩, ⟨h.nod.len, h.nod.lenH, h.nod.lenU, ?_, fun i nd gb hh uu hs hg h1 h2 => ?_, h.nod.nod, h.nod.dis⟩, h.lo, h.dis⟩
 ·have := h.hd
  simp [World.setCell, Array.getElem?_modify, this]
 ·obtain ⟨D, o, m⟩ := h.ses.own
  exact ⟨D, ownsMap_same o (hk _ (hmn o)), m⟩
 ·obtain ⟨q0, u, q1, q2⟩ := h.ses.blk i s gb hs hg
  exact ⟨q0, u, (hk _ (hc q1 (by decide))).trans q1, q2⟩
 ·obtain ⟨D, o, m⟩ := h.nod.own
  exact ⟨D, ownsMap_same o (hk _ (hmn o)), m⟩
 ·obtain ⟨q0, q1, q2, ⟨V, q3, q4⟩, ⟨D1, o1, m1⟩, ⟨D2, o2, m2⟩⟩ := h.nod.blk i nd gb hh uu hs hg h1 h2
  exact ⟨q0, q1, q2, ⟨V, (hk _ (hc q3 (by decide))).trans q3, q4⟩, ⟨D1, ownsMap_same o1 (hk _ (hmn o1)), m1⟩, ⟨D2, ownsMap_same o2 (hk _ (hmn o2)), m2⟩⟩
/-- what Advance gives -/
def advD (e g x t k : Int) (ss : List Ses) (ns : List Nod) : StD := if stOK e g x t ss ns = true ∧ 0 ≤ k then (if 1000000 - t < k then ⟨e, g, x, t, ss, ns⟩ else ⟨e, g, x, t + k, ss, ns⟩) else stD0
def advC (e g x t k : Int) (ss : List Ses) (ns : List Nod) : Int := if stOK e g x t ss ns = true ∧ 0 ≤ k then (if 1000000 - t < k then 11 else 0) else 1

set_option maxHeartbeats 3200000 in
theorem implAdv (e g x t k : Int) (p q : Option Addr) (c n d m : Nat) (ss : List Ses) (ns : List Nod) (en : Hid (ss.length = n)) (em : Hid (ns.length = m)) (w : World) (h : RdSc w (.slice p n c) ss) (hN : RdN w (.slice q m d) ns) (hn : n ≤ 1048576) (hm : m ≤ 1048576)
  (hbs : Hid (∀ s ∈ ss, s.2.2.length ≤ 1048576 ∧ ∀ e ∈ s.2.2, Byt e.2 ∧ e.2.length ≤ 1048576)) (hby : Hid (∀ nd ∈ ns, Byt nd.path ∧ nd.path.length ≤ 1048576 ∧ nd.value.length ≤ 1048576 ∧ nd.holders.length ≤ 1048576 ∧ nd.watchers.length ≤ 1048576))
  (hnu : Hid (∀ nd ∈ ns, (∀ i ∈ nd.holders, 0 ≤ i ∧ i < 18446744073709551616) ∧ ∀ i ∈ nd.watchers, 0 ≤ i ∧ i < 18446744073709551616))
  (hou : Hid (∀ nd ∈ ns, 0 ≤ nd.owner ∧ nd.owner < 18446744073709551616)) (hML : ML w) (hk : -9223372036854775808 ≤ k ∧ k < 9223372036854775808) :
  Calls Tryz.prog 28 #[stV e g x t (.slice p n c) (.slice q m d), .int .i64 k] w fun r w' => StRes w.heap.size r w' (advD e g x t k ss ns) (advC e g x t k ss ns) ∧ Below w.heap.size w w' := by
 have HR := hide fun (w' : World) (hb : Below w.heap.size w w') => And.intro (h.below hb) (And.intro (hN.below hb) (hML.below hb))
 clear h hN hML
 obtain ⟨B, eB⟩ : ∃ B, Hid (stOK e g x t ss ns = B) := ⟨_, (by show _ = _; rfl)⟩
 go_enter Tryz.func28, Tryz.ntmps28
 go_wp2_with fail
 obtain ⟨W, hW⟩ : ∃ W, W = (w.alloc (.cells #[.int .u64 e, .int .u64 g, .int .u64 x, .int .i64 t, .slice p n c, .slice q m d] 27)) := ⟨_, rfl⟩
 have bW : Below w.heap.size w W := by rw [hW]; exact (Below.refl _ _).alloc (Nat.le_refl _) _
 have hc6 : St6 W w.heap.size e g x t (.slice p n c) (.slice q m d) := by rw [hW]; simp [St6]
 obtain ⟨W2, hW2⟩ : ∃ W2, W2 = (W.alloc (.cells #[.int .u64 0, .int .u64 0, .int .u64 0, .int .i64 0, .slice none 0 0, .slice none 0 0] 27)) := ⟨_, rfl⟩
 have zW : W.heap.size = w.heap.size + 1 := by rw [hW]; simp
 have bW2 : Below W.heap.size W W2 := by rw [hW2]; exact (Below.refl _ _).alloc (Nat.le_refl _) _
 have hR3 : CellsAre W2 (w.heap.size + 1) [.int .u64 0, .int .u64 0, .int .u64 0, .int .i64 0, .slice none 0 0, .slice none 0 0] := by
  rw [hW2, show w.heap.size + 1 = W.heap.size by omega]; exact CellsAre.alloc W #[.int .u64 0, .int .u64 0, .int .u64 0, .int .i64 0, .slice none 0 0, .slice none 0 0] _
 have zW2 : W2.heap.size = w.heap.size + 2 := by rw [hW2]; simp; omega
 rw [← hW, ← hW2]
 have b2 := Below.step bW bW2
 have C2 := hide (hc6.below bW2)
 have R2 := hide hR3
 clear hW hW2 bW hc6 hR3 bW2 zW
 refine (implVS e g x t p q c n d m ss ns en em _ (unhide HR _ b2).1 (unhide HR _ b2).2.1 hn hm hbs hby hnu hou (unhide HR _ b2).2.2 B eB).mono ?_
 rintro r w3 ⟨rfl, hb3⟩
 have b3 := Below.step b2 hb3
 have C3 := hide ((unhide C2).below hb3)
 have R3 := hide ((unhide R2).below (by omega) hb3)
 have z3 : w.heap.size + 2 ≤ w3.heap.size := by have := hb3.size; omega
 clear hb3 b2 C2 R2 zW2
 obtain ⟨i0, i1, i2, i3, i4, i5⟩ := unhide C3
 have r0 := (unhide R3).1 0 _ rfl
 have r1 := (unhide R3).1 1 _ rfl
 have r2 := (unhide R3).1 2 _ rfl
 have r3 := (unhide R3).1 3 _ rfl
 have r4 := (unhide R3).1 4 _ rfl
 have r5 := (unhide R3).1 5 _ rfl
 have rf := (unhide R3).2
 cases B with
 | false =>
  have hD : advD e g x t k ss ns = stD0 := by unfold advD; rw [if_neg (by rw [unhide eB]; simp)]
  have hC : advC e g x t k ss ns = 1 := by unfold advC; rw [if_neg (by rw [unhide eB]; simp)]
  have HD := hide (And.intro hD hC)
  clear hD hC
  go_wp2
  obtain ⟨hD, hC⟩ := unhide HD
  refine bodyPost_ret (v := .tuple #[stV 0 0 0 0 (.slice none 0 0) (.slice none 0 0), .int .i64 1]) (by simp [results, Tryz.results28, go_sem, r0, r1, r2, r3, r4, r5]) rfl ⟨?_, ?_⟩
  ·rw [hD, hC]
   exact ⟨none, 0, none, 0, rfl, StOwn.zero _ _⟩
  ·exact (((((b3.setCell (by simp) _).setCell (by simp) _).setCell (by simp) _).setCell (by simp) _).setCell (by simp) _).setCell (by simp) _
 | true =>
  have hlim := ((stOK_iff e g x t ss ns).1 (unhide eB)).1
  have ht : 0 ≤ t ∧ t ≤ 1000000 := by simp only [limOK, decide_eq_true_eq] at hlim; omega
  by_cases hk0 : k < 0
  ·have hD : advD e g x t k ss ns = stD0 := by unfold advD; rw [if_neg (by omega)]
   have hC : advC e g x t k ss ns = 1 := by unfold advC; rw [if_neg (by omega)]
   have HD := hide (And.intro hD hC)
   clear hD hC hlim
   go_wp2
   obtain ⟨hD, hC⟩ := unhide HD
   refine bodyPost_ret (v := .tuple #[stV 0 0 0 0 (.slice none 0 0) (.slice none 0 0), .int .i64 1]) (by simp [results, Tryz.results28, go_sem, r0, r1, r2, r3, r4, r5]) rfl ⟨?_, ?_⟩
   ·rw [hD, hC]
    exact ⟨none, 0, none, 0, rfl, StOwn.zero _ _⟩
   ·exact (((((b3.setCell (by simp) _).setCell (by simp) _).setCell (by simp) _).setCell (by simp) _).setCell (by simp) _).setCell (by simp) _
  ·have hfine := fine_of (unhide eB) (unhide hbs) (unhide hby)
   have H1 : Hid (∀ s ∈ ss, 0 ≤ s.1 ∧ s.1 < 18446744073709551616) := fun s hs => (hfine.s2 s hs).1
   have HF := hide hfine
   clear hlim hfine
   go_wp2_with fail
   refine (storeOf_any e g x t p q c n d m ss ns en em _ (unhide HR _ b3).1 (unhide HR _ b3).2.1 hn hm H1 (unhide HF).s3 hby hnu (unhide HF).n3).mono ?_
   rintro r w4 ⟨b, bs, bn, SB, NB, HB, UB, rfl, hst, hb4⟩
   have b4 := Below.step b3 hb4
   have ST4 := hide (sto_of hst hb4 (by rw [unhide en]; exact hn) (by rw [unhide em]; exact hm))
   have hlo := hst.lo
   have R4 := hide ((unhide R3).below (by omega) hb4)
   have z4 := hb4.size
   have kb3 : w4.cell? ⟨b, 3, none⟩ = some (.int .i64 t) := cells_at hst.hd 3
   have kbf : ∀ o, w4.frozen? ⟨b, o, none⟩ = false := fun o => by simp [World.frozen?, hst.hd]
   have HST := hide hst
   have HB4 := hide hb4
   clear hst hb4 i0 i1 i2 i3 i4 i5 r0 r1 r2 r3 r4 r5 rf
   have w1 : IntKind.i64.wrap (1000000 - t) = 1000000 - t := IntWalk.i64_in _ (by omega)
   by_cases hk1 : 1000000 - t < k
   ·go_wp2_with fail
    clear kb3 kbf
    refine (state_any b bs bn e g x t ss ns SB NB _ (unhide ST4) (unhide HF).s1 (unhide HF).n1 (by rw [unhide en]; exact hn) (by rw [unhide em]; exact hm) (unhide HF).s2 (unhide HF).n2).mono ?_
    rintro r w5 ⟨ps, cs, pn, cn, A1, A2, rfl, f1, f2, f3, f4, f5, hb5⟩
    have b5 := Below.step b4 hb5
    have R5 := (unhide R4).below (by omega) hb5
    have r0 := R5.1 0 _ rfl
    have r1 := R5.1 1 _ rfl
    have r2 := R5.1 2 _ rfl
    have r3 := R5.1 3 _ rfl
    have r4 := R5.1 4 _ rfl
    have r5 := R5.1 5 _ rfl
    have rf := R5.2
    have FF := hide (show StOwn w4.heap.size w5 ps ss.length cs pn ns.length cn ss ns from ⟨A1, A2, f1, f2, f3, f4, f5⟩)
    clear f1 f2 f3 f4 f5 hb5 R5
    go_wp2
    obtain ⟨Z, hZ⟩ : ∃ Z, Z = ((((((w5.setCell ⟨w.heap.size + 1, 0, none⟩ (.int .u64 e)).setCell ⟨w.heap.size + 1, 1, none⟩ (.int .u64 g)).setCell ⟨w.heap.size + 1, 2, none⟩ (.int .u64 x)).setCell ⟨w.heap.size + 1, 3, none⟩ (.int .i64 (t))).setCell ⟨w.heap.size + 1, 4, none⟩ (.slice ps ss.length cs)).setCell ⟨w.heap.size + 1, 5, none⟩ (.slice pn ns.length cn)) := ⟨_, rfl⟩
    have hkZ : ∀ z, z ≠ w.heap.size + 1 → Z.heap[z]? = w5.heap[z]? := fun z hz => by
     rw [hZ]
     iterate 6 rw [RowKit.Below.heap_setCell _ _ _ _ hz]
    refine bodyPost_ret (v := .tuple #[stV e g x (t) (.slice ps ss.length cs) (.slice pn ns.length cn), .int .i64 11]) (by simp [results, Tryz.results28, go_sem, r0, r1, r2, r3, r4, r5]) rfl ⟨?_, ?_⟩
    ·rw [← hZ]
     have hD : advD e g x t k ss ns = ⟨e, g, x, t, ss, ns⟩ := by unfold advD; rw [if_pos ⟨unhide eB, by omega⟩, if_pos hk1]
     have hC : advC e g x t k ss ns = 11 := by unfold advC; rw [if_pos ⟨unhide eB, by omega⟩, if_pos hk1]
     rw [hD, hC]
     exact ⟨ps, cs, pn, cn, rfl, ((unhide FF).keep (fun z hz _ => hkZ z (by omega))).mono (by omega)⟩
    ·exact (((((b5.setCell (by simp) _).setCell (by simp) _).setCell (by simp) _).setCell (by simp) _).setCell (by simp) _).setCell (by simp) _
   ·have w2 : IntKind.i64.wrap (t + k) = t + k := IntWalk.i64_in _ (by omega)
    go_wp2_with fail
    obtain ⟨v4, hv4⟩ : ∃ V, V = w4.setCell ⟨b, 3, none⟩ (.int .i64 (t + k)) := ⟨_, rfl⟩
    have b4' : Below w.heap.size w v4 := by rw [hv4]; exact b4.setCell (by have := hlo.1; simp; omega) _
    have R4' : Hid (CellsAre v4 (w.heap.size + 1) [.int .u64 0, .int .u64 0, .int .u64 0, .int .i64 0, .slice none 0 0, .slice none 0 0]) := by
     show CellsAre _ _ _
     rw [hv4]
     exact (unhide R4).far (by have := hlo.1; simp; omega) _
    have ST5 : Hid (Sto v4 b bs bn e g x (t + k) ss ns SB NB) := by
     show Sto _ _ _ _ _ _ _ _ _ _ _ _
     rw [hv4]
     exact sto_of ((unhide HST).setNow (t + k)) (by exact (unhide HB4).setCell (by have := hlo.1; simpa using this) _) (by rw [unhide en]; exact hn) (by rw [unhide em]; exact hm)
    have zv4 : v4.heap.size = w4.heap.size := by rw [hv4]; simp
    rw [← hv4]
    clear hv4
    clear kb3 kbf
    refine (state_any b bs bn e g x (t + k) ss ns SB NB _ (unhide ST5) (unhide HF).s1 (unhide HF).n1 (by rw [unhide en]; exact hn) (by rw [unhide em]; exact hm) (unhide HF).s2 (unhide HF).n2).mono ?_
    rintro r w5 ⟨ps, cs, pn, cn, A1, A2, rfl, f1, f2, f3, f4, f5, hb5⟩
    have b5 := Below.step b4' hb5
    have R5 := (unhide R4').below (by omega) hb5
    have r0 := R5.1 0 _ rfl
    have r1 := R5.1 1 _ rfl
    have r2 := R5.1 2 _ rfl
    have r3 := R5.1 3 _ rfl
    have r4 := R5.1 4 _ rfl
    have r5 := R5.1 5 _ rfl
    have rf := R5.2
    have FF := hide (show StOwn v4.heap.size w5 ps ss.length cs pn ns.length cn ss ns from ⟨A1, A2, f1, f2, f3, f4, f5⟩)
    clear f1 f2 f3 f4 f5 hb5 R5
    go_wp2
    obtain ⟨Z, hZ⟩ : ∃ Z, Z = ((((((w5.setCell ⟨w.heap.size + 1, 0, none⟩ (.int .u64 e)).setCell ⟨w.heap.size + 1, 1, none⟩ (.int .u64 g)).setCell ⟨w.heap.size + 1, 2, none⟩ (.int .u64 x)).setCell ⟨w.heap.size + 1, 3, none⟩ (.int .i64 (t + k))).setCell ⟨w.heap.size + 1, 4, none⟩ (.slice ps ss.length cs)).setCell ⟨w.heap.size + 1, 5, none⟩ (.slice pn ns.length cn)) := ⟨_, rfl⟩
    have hkZ : ∀ z, z ≠ w.heap.size + 1 → Z.heap[z]? = w5.heap[z]? := fun z hz => by
     rw [hZ]
     iterate 6 rw [RowKit.Below.heap_setCell _ _ _ _ hz]
    refine bodyPost_ret (v := .tuple #[stV e g x (t + k) (.slice ps ss.length cs) (.slice pn ns.length cn), .int .i64 0]) (by simp [results, Tryz.results28, go_sem, r0, r1, r2, r3, r4, r5]) rfl ⟨?_, ?_⟩
    ·rw [← hZ]
     have hD : advD e g x t k ss ns = ⟨e, g, x, t + k, ss, ns⟩ := by unfold advD; rw [if_pos ⟨unhide eB, by omega⟩, if_neg (by omega)]
     have hC : advC e g x t k ss ns = 0 := by unfold advC; rw [if_pos ⟨unhide eB, by omega⟩, if_neg (by omega)]
     rw [hD, hC]
     exact ⟨ps, cs, pn, cn, rfl, ((unhide FF).keep (fun z hz _ => hkZ z (by omega))).mono (by omega)⟩
    ·exact (((((b5.setCell (by simp) _).setCell (by simp) _).setCell (by simp) _).setCell (by simp) _).setCell (by simp) _).setCell (by simp) _
end Go.Proofs.YtpbppdeleijhkaaGreatDoor
