import Derived.Test.YtnbgnhhnpmmloaaGreatDoorST4
import Derived.Test.YtnbgnhhnpmmloaaGreatDoorK14
namespace Go.Proofs.YtnbgnhhnpmmloaaGreatDoor
open Go.ChangeShapes Go.WideShapes Go.ChangeAt Go.RowKit Go.Maps
set_option linter.unusedVariables false
set_option linter.unusedSimpArgs false
set_option maxRecDepth 100000
theorem pw_of {α : Type} {R : α → α → Prop} {l : List α} (h : ∀ (i j : Nat) (a b : α), l[i]? = some a → l[j]? = some b → i < j → R a b) : l.Pairwise R := by
 rw [List.pairwise_iff_getElem]
 intro i j hi hj hij
 exact h i j _ _ (List.getElem?_eq_getElem hi) (List.getElem?_eq_getElem hj) hij
theorem ses_asc {x : Int} {ss : List Ses} (h : sesAll x ss = true) : ss.Pairwise (fun s s' => s.1 < s'.1) := by
 refine pw_of fun i j s s' hi hj hij => ?_
 rw [sesAll, Bool.and_eq_true] at h
 have := asc_far h.2 (fun i j k h1 h2 => by simp at h1 h2 ⊢; omega) j i (List.getElem?_eq_some_iff.1 hj).1 hij
 simpa only [List.getD_eq_getElem?_getD, hi, hj, Option.getD_some, decide_eq_true_eq] using this
theorem nod_asc {e g : Int} {ns : List Nod} (h : nodAll e g ns = true) : (ns.map fun nd => byS nd.path).Pairwise (· < ·) := by
 rw [List.pairwise_map]
 refine pw_of fun i j s s' hi hj hij => ?_
 rw [nodAll, Bool.and_eq_true] at h
 have := asc_far h.2 (fun i j k h1 h2 => not_leB.2 (bl_trans (not_leB.1 h1) (not_leB.1 h2))) j i (List.getElem?_eq_some_iff.1 hj).1 hij
 simp only [List.getD_eq_getElem?_getD, hi, hj, Option.getD_some] at this
 rw [not_leB, T.bytesLess_is, decide_eq_true_eq, bstr_list, bstr_list] at this
 exact this
theorem ascI_asc {l : List Int} (h : ascI l = true) : l.Pairwise (· < ·) := by
 refine pw_of fun i j s s' hi hj hij => ?_
 rw [ascI] at h
 have := asc_far h (fun i j k h1 h2 => by simp at h1 h2 ⊢; omega) j i (List.getElem?_eq_some_iff.1 hj).1 hij
 simpa only [List.getD_eq_getElem?_getD, hi, hj, Option.getD_some, decide_eq_true_eq] using this
theorem nod_each {e g : Int} {ns : List Nod} (h : nodAll e g ns = true) : ∀ nd ∈ ns, nd.holders.Pairwise (· < ·) ∧ nd.watchers.Pairwise (· < ·) := by
 intro nd hnd
 rw [nodAll, Bool.and_eq_true] at h
 have h1 : ∀ y ∈ ns, nodV e g y = true := (all_idx ns nod0 (nodV e g)).1 fun i hi => List.all_eq_true.1 h.1 i (List.mem_range.2 hi)
 have := h1 nd hnd
 simp only [nodV, Bool.and_eq_true] at this
 exact ⟨ascI_asc this.2.2.2.1, ascI_asc this.2.2.2.2⟩
structure Fine (ss : List Ses) (ns : List Nod) : Prop where
 s1 : ss.Pairwise (fun s s' => s.1 < s'.1)
 n1 : (ns.map fun nd => byS nd.path).Pairwise (· < ·)
 s2 : ∀ s ∈ ss, (0 ≤ s.1 ∧ s.1 < 18446744073709551616) ∧ s.2.2.length ≤ 1048576 ∧ ∀ e ∈ s.2.2, e.2.length ≤ 1048576
 n2 : ∀ nd ∈ ns, Byt nd.path ∧ nd.path.length ≤ 1048576 ∧ nd.value.length ≤ 1048576 ∧ nd.holders.length ≤ 1048576 ∧ nd.watchers.length ≤ 1048576 ∧ nd.holders.Pairwise (· < ·) ∧ nd.watchers.Pairwise (· < ·)
 s3 : ∀ (i j : Nat) (s s' : Ses), ss[i]? = some s → ss[j]? = some s' → i < j → s.1 ≠ s'.1
 n3 : ∀ (i j : Nat) (z z' : Nod), ns[i]? = some z → ns[j]? = some z' → i < j → z.path ≠ z'.path
theorem fine_of {e g x t : Int} {ss : List Ses} {ns : List Nod} (h : stOK e g x t ss ns = true) (hbs : ∀ s ∈ ss, s.2.2.length ≤ 1048576 ∧ ∀ e ∈ s.2.2, Byt e.2 ∧ e.2.length ≤ 1048576)
  (hby : ∀ nd ∈ ns, Byt nd.path ∧ nd.path.length ≤ 1048576 ∧ nd.value.length ≤ 1048576 ∧ nd.holders.length ≤ 1048576 ∧ nd.watchers.length ≤ 1048576) : Fine ss ns := by
 obtain ⟨h1, h2, h3, h4, h5⟩ := (stOK_iff e g x t ss ns).1 h
 have hx : x ≤ 4611686018427387904 := by simp only [limOK, decide_eq_true_eq] at h1; exact h1.2.2.1
 refine ⟨ses_asc h2, nod_asc h3, fun s hs => ⟨ses_u64 h2 hx s hs, (hbs s hs).1, fun e he => ((hbs s hs).2 e he).2⟩, fun nd hnd => ?_, ses_apart h2, nod_apart h3⟩
 obtain ⟨a, b, c, d, f⟩ := hby nd hnd
 exact ⟨a, b, c, d, f, (nod_each h3 nd hnd).1, (nod_each h3 nd hnd).2⟩
theorem sto_of {w0 w : World} {b bs bn : Nat} {e g x t : Int} {ss : List Ses} {ns : List Nod} {SB NB HB UB : List Nat} (h : StoreAt w0 w b bs bn e g x t ss ns SB NB HB UB) (hb : Below w0.heap.size w0 w) (l1 : ss.length ≤ 1048576) (l2 : ns.length ≤ 1048576) : Sto w b bs bn e g x t ss ns SB NB := by
 refine ⟨h.hd, ⟨h.ses.len, ?_, fun i s gb hs hg => ?_⟩, ⟨h.nod.len, ?_, fun i nd gb hs hg => ?_⟩⟩
 ·obtain ⟨D, o, m⟩ := h.ses.own
  exact ⟨D, _, o, l1, m⟩
 ·obtain ⟨-, u, q1, q2⟩ := h.ses.blk i s gb hs hg
  exact ⟨u, q1, q2.below hb⟩
 ·obtain ⟨D, o, m⟩ := h.nod.own
  exact ⟨D, _, o, l2, m⟩
 ·have hi := (List.getElem?_eq_some_iff.1 hs).1
  obtain ⟨hh, hhe⟩ : ∃ y, HB[i]? = some y := ⟨_, List.getElem?_eq_getElem (by rw [h.nod.lenH]; exact hi)⟩
  obtain ⟨uu, hue⟩ : ∃ y, UB[i]? = some y := ⟨_, List.getElem?_eq_getElem (by rw [h.nod.lenU]; exact hi)⟩
  obtain ⟨-, -, -, ⟨V, q1, q2⟩, q3, q4⟩ := h.nod.blk i nd gb hh uu hs hg hhe hue
  exact ⟨V, hh, uu, q1, q2.below hb, q3, q4⟩
structure StD where
 e : Int
 g : Int
 x : Int
 t : Int
 ss : List Ses
 ns : List Nod
def stD0 : StD := ⟨0, 0, 0, 0, [], []⟩
def StOwn (B : Nat) (w : World) (p : Option Addr) (n c : Nat) (q : Option Addr) (m d : Nat) (ss : List Ses) (ns : List Nod) : Prop :=
 ∃ A1 A2, RdSc w (.slice p n c) ss ∧ RdN w (.slice q m d) ns ∧ LvS w (.slice p n c) ss A1 ∧ LvN w (.slice q m d) ns A2 ∧ Apt B w (A1 ++ A2)
theorem StOwn.zero (B : Nat) (w : World) : StOwn B w none 0 0 none 0 0 [] [] :=
 ⟨[], [], ⟨none, 0, rfl, .inl rfl⟩, ⟨none, 0, rfl, .inl rfl⟩, ⟨none, 0, [], rfl, rfl, rfl, .inl rfl⟩, ⟨none, 0, [], rfl, rfl, rfl, .inl rfl⟩, Apt.nil _ _⟩
theorem StOwn.keep {B : Nat} {w w' : World} {p q : Option Addr} {n c m d : Nat} {ss : List Ses} {ns : List Nod} (h : StOwn B w p n c q m d ss ns) (hk : ∀ b, B ≤ b → b < w.heap.size → w'.heap[b]? = w.heap[b]?) : StOwn B w' p n c q m d ss ns := by
 obtain ⟨A1, A2, h1, h2, h3, h4, h5⟩ := h
 have k : ∀ a ∈ A1 ++ A2, w'.heap[a.b]? = w.heap[a.b]? := fun a ha => hk _ (h5.lo a ha) (h5.inn.lt ha)
 have k1 : ∀ a ∈ A1, w'.heap[a.b]? = w.heap[a.b]? := fun a ha => k a (List.mem_append_left _ ha)
 have k2 : ∀ a ∈ A2, w'.heap[a.b]? = w.heap[a.b]? := fun a ha => k a (List.mem_append_right _ ha)
 exact ⟨A1, A2, h1.keepLv h3 k1, h2.keepLv h4 k2, LvS.keep h3 k1, LvN.keep h4 k2, h5.keep k⟩
theorem StOwn.below {B : Nat} {w w' : World} {p q : Option Addr} {n c m d : Nat} {ss : List Ses} {ns : List Nod} (h : StOwn B w p n c q m d ss ns) (hb : Below w.heap.size w w') : StOwn B w' p n c q m d ss ns := h.keep fun b _ hl => hb.block b hl
theorem StOwn.mono {B B' : Nat} {w : World} {p q : Option Addr} {n c m d : Nat} {ss : List Ses} {ns : List Nod} (h : StOwn B w p n c q m d ss ns) (hB : B' ≤ B) : StOwn B' w p n c q m d ss ns := by
 obtain ⟨A1, A2, h1, h2, h3, h4, h5⟩ := h
 exact ⟨A1, A2, h1, h2, h3, h4, h5.mono hB⟩
def StRes (B : Nat) (r : Ending) (w : World) (D : StD) (code : Int) : Prop := ∃ p c q d, r = .returned (.tuple #[stV D.e D.g D.x D.t (.slice p D.ss.length c) (.slice q D.ns.length d), .int .i64 code]) ∧ StOwn B w p D.ss.length c q D.ns.length d D.ss D.ns
theorem StoreAt.setNow {w0 w : World} {b bs bn : Nat} {e g x t : Int} {ss : List Ses} {ns : List Nod} {SB NB HB UB : List Nat} (h : StoreAt w0 w b bs bn e g x t ss ns SB NB HB UB) (t' : Int) : StoreAt w0 (w.setCell ⟨b, 3, none⟩ (.int .i64 t')) b bs bn e g x t' ss ns SB NB HB UB := by
 have hk : ∀ z, z ≠ b → (w.setCell ⟨b, 3, none⟩ (.int .i64 t')).heap[z]? = w.heap[z]? := fun z hz => RowKit.Below.heap_setCell _ _ _ _ hz
 have hc : ∀ {z : Nat} {cs : Array Value} {ty : TypeId}, w.heap[z]? = some (.cells cs ty) → ty ≠ 161 → z ≠ b := fun {z cs ty} hz ht e => by
  rw [e, h.hd] at hz
  simp at hz
  exact ht hz.2.symm
 have hmn : ∀ {k : TypeId} {R : Value → Option (DataW Unit × List MemPlace)} {z n : Nat} {D : DataW Unit}, w.ownsMap Tryz.prog k R z n D → z ≠ b := fun {k R z n D} o e => ownsMap_cells o h.hd e.symm
 refine ⟨?_, ⟨h.ses.len, ?_, fun i s gb hs hg => ?_, h.ses.nod⟩, ⟨h.nod.len, h.nod.lenH, h.nod.lenU, ?_, fun i nd gb hh uu hs hg h1 h2 => ?_, h.nod.nod, h.nod.dis⟩, h.lo, h.dis⟩
 ·have := h.hd
  simp [World.setCell, Array.getElem?_modify, this]
 ·obtain ⟨D, o, m⟩ := h.ses.own
  exact ⟨D, ownsMap_same o (hk _ (hmn o)), m⟩
 ·obtain ⟨q0, u, q1, q2⟩ := h.ses.blk i s gb hs hg
  exact ⟨q0, u, (hk _ (hc q1 (by decide))).trans q1, q2⟩
 ·obtain ⟨D, o, m⟩ := h.nod.own
  exact ⟨D, ownsMap_same o (hk _ (hmn o)), m⟩
 ·obtain ⟨q0, q1, q2, ⟨V, q3, q4⟩, ⟨D1, o1, m1⟩, ⟨D2, o2, m2⟩⟩ := h.nod.blk i nd gb hh uu hs hg h1 h2
  exact ⟨q0, q1, q2, ⟨V, (hk _ (hc q3 (by decide))).trans q3, q4⟩, ⟨D1, ownsMap_same o1 (hk _ (hmn o1)), m1⟩, ⟨D2, ownsMap_same o2 (hk _ (hmn o2)), m2⟩⟩
set_option maxHeartbeats 3200000 in
theorem forget_any {w0 : World} {b bs bn : Nat} {e g x t : Int} {ss : List Ses} {ns : List Nod} {SB NB HB UB : List Nat} (w : World) (hst : Hid (StoreAt w0 w b bs bn e g x t ss ns SB NB HB UB)) (hw0 : w0.heap.size ≤ w.heap.size)
  (hby : Hid (∀ nd ∈ ns, Byt nd.path)) (hds : Hid (∀ (i j : Nat) (s s' : Ses), ss[i]? = some s → ss[j]? = some s' → i < j → s.1 ≠ s'.1)) (hdn : Hid (∀ (i j : Nat) (s s' : Nod), ns[i]? = some s → ns[j]? = some s' → i < j → s.path ≠ s'.path))
  (m : Nat) (em : Hid (ns.length = m)) (n : Nat) (en : Hid (ss.length = n)) :
  Calls Tryz.prog 98 #[.pointer (some ⟨b, 0, none⟩)] w fun r w' => StoreAt w0 w' b bs bn e g x 0 (ss.map sesF) (ns.map nodF) SB NB HB UB ∧ Below w0.heap.size w w' ∧ (∃ v, r = .returned v) := by
 have hc3 : w.cell? ⟨b, 3, none⟩ = some (.int .i64 t) := cells_at (uh hst).hd 3
 have hf3 : ∀ o, w.frozen? ⟨b, o, none⟩ = false := fun o => by simp [World.frozen?, (uh hst).hd]
 obtain ⟨Z, hZ⟩ : ∃ Z, Z = w.setCell ⟨b, 3, none⟩ (.int .i64 0) := ⟨_, rfl⟩
 have hstZ : Hid (StoreAt w0 Z b bs bn e g x 0 ss ns SB NB HB UB) := by
  rw [hZ]
  exact (uh hst).setNow 0
 obtain ⟨Ds, oS, mS⟩ := (uh hstZ).ses.own
 have hc4 : Z.cell? ⟨b, 4, none⟩ = some (.map (some bs)) := cells_at (uh hstZ).hd 4
 rw [uh en] at oS
 have hbZ : Below w0.heap.size w Z := by rw [hZ]; exact (Below.refl _ _).setCell ((uh hst).lo.1) _
 go_enter Tryz.func98, Tryz.ntmps98
 subst hZ
 go_wp2_with (first
  | (at_range; refine wpList_range_own _ rfl _ 158 rfl 23 _ keyU Tryz.underlying158 _ bs n _ rfl oS ?_; intro w1 hrg0 hg0 hs0)
  | go_in)
 go_frame
 have hst1 := hide ((uh hstZ).same (SameObj.grown hg0))
 have hr0 : w.heap.size ≤ (w.setCell ⟨b, 3, none⟩ (.int .i64 0)).heap.size := by simp
 have hb1 : Below w0.heap.size w w1 := below_of_grown hbZ hg0 (by simpa using hw0) (fun j hj => by cases hj)
 obtain ⟨r1, er1⟩ : ∃ r, r = (w.setCell ⟨b, 3, none⟩ (.int .i64 0)).heap.size := ⟨_, rfl⟩
 rw [← er1] at hrg0 hr0 ⊢
 have hall : Hid (∀ s ∈ ss, Maps.has Ds (.int .u64 s.1) = true) := fun s hs => by
  obtain ⟨i, hi⟩ := List.getElem?_of_mem hs
  have hi' := (List.getElem?_eq_some_iff.1 hi).1
  obtain ⟨gz, hgz⟩ : ∃ gz, SB[i]? = some gz := ⟨_, List.getElem?_eq_getElem (by rw [(uh hst).ses.len]; exact hi')⟩
  exact (mS.hs _).2 ⟨(.int .u64 s.1, gz), by
   rw [List.mem_iff_getElem?]
   exact ⟨i, by rw [List.getElem?_zipWith, hi, hgz]⟩, rfl⟩
 have MS := hide mS
 clear mS oS hc3 hf3 hc4 hstZ hbZ hg0 hs0 er1
 go_loopw [3] (fun _ wr => ∃ (left : Lit → Bool) (cnt : Nat), wr.ranges Tryz.prog 23 ptrElem bs r1 n Ds left cnt ∧ Hid (StoreAt w0 wr b bs bn e g x 0 (turnS sesF left ss) ns SB NB HB UB) ∧ Below w0.heap.size w wr) (fun _ wr => wr.rangeLeft bs r1)
 case atStart => exact ⟨_, _, hrg0, by rw [turnS_start (uh hall)]; exact hst1, hb1⟩
 case round =>
  obtain ⟨left, cnt, hrg, hstr, hbr⟩ := hrel
  go_wp2_with (first
   | (at_next; refine wpList_next_ptr _ rfl _ rfl 23 keyU (fun i : Int => .int .u64 i) invU bs r1 n _ _ (uh MS) _ _ rfl hrg ?_ ?_)
   | go_in)
  ·intro _ hl0
   have hst2 : Hid (StoreAt w0 wr b bs bn e g x 0 (ss.map sesF) ns SB NB HB UB) := by
    have := uh hstr
    rw [turnS_end hl0] at this
    exact this
   obtain ⟨D, oD, mD⟩ := (uh hst2).nod.own
   have hc5 : wr.cell? ⟨b, 5, none⟩ = some (.map (some bn)) := cells_at (uh hst2).hd 5
   rw [uh em] at oD
   have hallN : Hid (∀ s ∈ ns, Maps.has D (litS s.path) = true) := fun s hs => by
    obtain ⟨i, hi⟩ := List.getElem?_of_mem hs
    obtain ⟨gz, _, _, hgz, _, _⟩ := (uh hst).nod.at hi
    exact (mD.hs _).2 ⟨(litS s.path, gz), by
     rw [List.mem_iff_getElem?]
     exact ⟨i, by rw [List.getElem?_zipWith, hi, hgz]⟩, rfl⟩
   have MD := hide mD
   obtain ⟨Y, eY⟩ : ∃ Y, Y = wr := ⟨_, rfl⟩
   subst eY
   have hYw := hbr.size
   clear mD hl0 hstr hrg
   go_wp2_with (first
    | (at_range; refine wpList_range_own _ rfl _ 159 rfl 9 _ keyT Tryz.underlying159 _ bn m _ rfl oD ?_; intro w3 hrg3 hg3 hs3)
    | go_in)
   go_frame
   have hst3 := hide ((uh hst2).same (SameObj.grown hg3))
   have hb3 : Below w0.heap.size w w3 := below_of_grown hbr hg3 (by omega) (fun j hj => by cases hj)
   clear hc5 hg3 oD hst2 hbr
   go_loopw [5] (fun _ wr => ∃ (left : Lit → Bool) (cnt : Nat), wr.ranges Tryz.prog 9 ptrElem bn Y.heap.size m D left cnt ∧ Hid (StoreAt w0 wr b bs bn e g x 0 (ss.map sesF) (turnN left ns) SB NB HB UB) ∧ Below w0.heap.size w wr) (fun _ wr => wr.rangeLeft bn Y.heap.size)
   case atStart => exact ⟨_, _, hrg3, by rw [turnN_start (uh hallN)]; exact hst3, hb3⟩
   case round =>
    obtain ⟨left, cnt, hrg, hstr, hbr⟩ := hrel
    go_wp2_with (first
     | (at_next; refine wpList_next_ptr _ rfl _ rfl 9 keyT (fun s : ByteArray => .string s) invT bn Y.heap.size m _ _ (uh MD) _ _ rfl hrg ?_ ?_)
     | go_in)
    ·intro _ hl0
     have hst4 : Hid (StoreAt w0 wr b bs bn e g x 0 (ss.map sesF) (ns.map nodF) SB NB HB UB) := by
      have := uh hstr
      rw [turnN_end hl0] at this
      exact this
     clear hstr
     go_wp2
     go_end0
     exact ⟨uh hst4, hbr, ⟨_, rfl⟩⟩
    ·intro i0 pl g1 w4 cnt1 hkey hp hlp hrg1 hlt hg1 hs1' hen
     obtain ⟨j, z, g1', hj, hgj, ee⟩ := zip_mem hp
     simp only [Prod.mk.injEq] at ee
     obtain ⟨rfl, rfl⟩ := ee
     have hst4 := hide ((uh hstr).same (SameObj.next hrg hg1))
     have hb4 : Below w0.heap.size w w4 := below_of_grown hbr hg1 (by have := hbr.size; omega) (fun j hj => by cases hj; omega)
     obtain ⟨gz, hh, ub, z1, z2, z3⟩ := (uh hst4).nod.at (turnN_at hj hlp)
     rw [hgj] at z1
     cases z1
     obtain ⟨a1, a2, a3, ⟨V, a4, -⟩, -, ⟨D2, a5, -⟩⟩ := (uh hst4).nod.blk j _ g1 hh ub (turnN_at hj hlp) hgj z2 z3
     have hc6 : w4.cell? ⟨g1, 6, none⟩ = some (.map (some ub)) := cells_at a4 6
     obtain ⟨v, w5, hrun, ho5, hg5, hs5⟩ := run_clear Tryz.underlying123 a5 0
     have hst5 : Hid (StoreAt w0 w5 b bs bn e g x 0 (ss.map sesF) (turnN (fun z' => left z' && !z'.sameKey (litS z.path)) ns) SB NB HB UB) := by
      have := (uh hst4).clearW (turnN_at hj hlp) z3 ho5 (fun q hq => by
       by_cases hq' : q < w4.heap.size
       ·exact hg5.block q hq' (by simpa using hq)
       ·rw [Array.getElem?_eq_none (by omega), Array.getElem?_eq_none (by omega)])
      rw [turnN_step (uh hby) (uh hdn) hj] at this
      exact this
     have hb5 : Below w0.heap.size w w5 := below_of_grown hb4 hg5 (by have := hb4.size; omega) (fun j hj => by cases hj; exact a3)
     have hen' : (Instr.entry (.pointer (some ⟨Y.heap.size, 0, none⟩))).run Tryz.prog w4 = .ok (.tuple #[.string i0, .pointer (some ⟨g1, 0, none⟩)]) w4 := hen
     have hrg5 : w5.ranges Tryz.prog 9 ptrElem bn Y.heap.size m D (fun z' => left z' && !z'.sameKey (litS z.path)) cnt1 := by
      refine ranges_same hrg1 ?_ ?_
      ·obtain ⟨D9, o9, -⟩ := (uh hst4).nod.own
       refine hg5.block _ o9.lt ?_
       have hd := (uh hst4).nod.dis
       rw [List.nodup_cons] at hd
       simp only [ne_eq, Option.some.injEq]
       rintro rfl
       exact hd.1 (List.mem_append_right _ (List.mem_of_getElem? z3))
      ·obtain ⟨es, clock, since, seen, c0, -, -, -, -, hi, -⟩ := hrg1
       refine hg5.block _ (heap_lt hi) ?_
       simp only [ne_eq, Option.some.injEq]
       rintro e
       obtain ⟨es', cl', h', -⟩ := a5
       rw [← e, hi] at h'
       cases h'
     clear hg1 hp hkey hstr hst4 hbr hb4 a1 a2 a3 a4 a5 ho5 hg5 hs5
     go_wp2
     go_roundw
     case rel => exact ⟨_, _, hrg5, hst5, hb5⟩
     case measure => rw [hrg5.left_eq, hrg.left_eq]; exact hlt
  ·intro i0 pl g1 w2 cnt1 hkey hp hlp hrg1 hlt hg1 hs1' hen
   obtain ⟨j, z, g1', hj, hgj, ee⟩ := zip_mem hp
   simp only [Prod.mk.injEq] at ee
   obtain ⟨rfl, rfl⟩ := ee
   have hst2 := hide ((uh hstr).same (SameObj.next hrg hg1))
   have hb2 : Below w0.heap.size w w2 := below_of_grown hbr hg1 (by have := hbr.size; omega) (fun j hj => by cases hj; omega)
   obtain ⟨a1, u, a2, a3⟩ := (uh hst2).ses.blk j _ g1 (turnS_at hj hlp) hgj
   have hc1 : w2.cell? ⟨g1, 1, none⟩ = some (.int .i64 z.2.1) := cells_at a2 1
   have hc2 : w2.cell? ⟨g1, 2, none⟩ = some u := cells_at a2 2
   have hf : ∀ o, w2.frozen? ⟨g1, o, none⟩ = false := fun o => by simp [World.frozen?, a2]
   obtain ⟨ZZ, hZZ⟩ : ∃ Z, Z = (w2.setCell ⟨g1, 1, none⟩ (.int .i64 0)).setCell ⟨g1, 2, none⟩ (.slice none 0 0) := ⟨_, rfl⟩
   have hst5 : Hid (StoreAt w0 ZZ b bs bn e g x 0 (turnS sesF (fun z' => left z' && !z'.sameKey (.int .u64 z.1)) ss) ns SB NB HB UB) := by
    have := (uh hst2).setSes (turnS_at hj hlp) hgj 0 (.slice none 0 0) [] (w' := ZZ) (by rw [hZZ]; simp [World.setCell, Array.getElem?_modify, a2]) ⟨none, 0, rfl, .inl rfl⟩ (fun q hq => by
     rw [hZZ, RowKit.Below.heap_setCell _ _ _ _ hq, RowKit.Below.heap_setCell _ _ _ _ hq])
    rw [show ((z.1, 0, []) : Ses) = sesF z from rfl, turnS_step (uh hds) hj] at this
    exact this
   have hb5 : Below w0.heap.size w ZZ := by rw [hZZ]; exact (hb2.setCell a1 _).setCell a1 _
   have hen' : (Instr.entry (.pointer (some ⟨r1, 0, none⟩))).run Tryz.prog w2 = .ok (.tuple #[.int .u64 i0, .pointer (some ⟨g1, 0, none⟩)]) w2 := hen
   have hrg5 : ZZ.ranges Tryz.prog 23 ptrElem bs r1 n Ds (fun z' => left z' && !z'.sameKey (.int .u64 z.1)) cnt1 := by
    rw [hZZ]
    exact hrg1.of_walks ((KeepsWalks.setCell _ _ _).trans (KeepsWalks.setCell _ _ _))
   clear hg1 hp hkey hstr hst2 hbr hb2 a1 a2 a3
   go_wp2
   rw [← hZZ]
   go_roundw
   case rel => exact ⟨_, _, hrg5, hst5, hb5⟩
   case measure => rw [hrg5.left_eq, hrg.left_eq]; exact hlt
end Go.Proofs.YtnbgnhhnpmmloaaGreatDoor
