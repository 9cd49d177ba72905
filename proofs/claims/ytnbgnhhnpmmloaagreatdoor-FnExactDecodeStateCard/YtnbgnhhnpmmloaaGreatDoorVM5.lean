import Derived.Test.YtnbgnhhnpmmloaaGreatDoorK11
namespace Go.Proofs.YtnbgnhhnpmmloaaGreatDoor
open Go.ChangeShapes Go.WideShapes Go.ChangeAt Go.RowKit Go.Maps
set_option linter.unusedVariables false
set_option linter.unusedSimpArgs false
set_option maxRecDepth 100000
theorem take_snoc {α : Type} {l : List α} {k : Nat} {y : α} (h : l[k]? = some y) : l.take (k + 1) = l.take k ++ [y] := by rw [List.take_add_one, h]; rfl
theorem mem_take_idx {α : Type} {l : List α} {k : Nat} {z : α} (h : z ∈ l.take k) : ∃ i, i < k ∧ l[i]? = some z := by
 obtain ⟨i, hi⟩ := List.getElem?_of_mem h
 rw [List.getElem?_take] at hi
 split at hi
 ·exact ⟨i, by assumption, hi⟩
 ·cases hi
theorem cell_heap {w w' : World} {b : Nat} (h : w'.heap[b]? = w.heap[b]?) (o : Nat) : w'.cell? ⟨b, o, none⟩ = w.cell? ⟨b, o, none⟩ := by
 unfold World.cell?
 rw [h]
theorem St6.heap {w w' : World} {b : Nat} {e g x t : Int} {S N : Value} (h : St6 w b e g x t S N) (hb : w'.heap[b]? = w.heap[b]?) : St6 w' b e g x t S N :=
 ⟨(cell_heap hb _).trans h.1, (cell_heap hb _).trans h.2.1, (cell_heap hb _).trans h.2.2.1, (cell_heap hb _).trans h.2.2.2.1, (cell_heap hb _).trans h.2.2.2.2.1, (cell_heap hb _).trans h.2.2.2.2.2⟩
theorem grown_drew {X w2 : World} {row : Option Nat} (h : X.drew.grownBy w2 row) : X.grownBy w2 row := ⟨h.os, h.tape, h.output, h.size, h.block⟩
set_option maxHeartbeats 3200000 in
theorem storeOf_any (e g x t : Int) (p q : Option Addr) (c n d m : Nat) (ss : List Ses) (ns : List Nod) (en : Hid (ss.length = n)) (em : Hid (ns.length = m)) (w : World) (h : RdSc w (.slice p n c) ss) (hN : RdN w (.slice q m d) ns) (hn : n ≤ 1048576) (hm : m ≤ 1048576)
  (hsu : Hid (∀ s ∈ ss, 0 ≤ s.1 ∧ s.1 < 18446744073709551616)) (hsd : Hid (∀ (i j : Nat) (s s' : Ses), ss[i]? = some s → ss[j]? = some s' → i < j → s.1 ≠ s'.1))
  (hby : Hid (∀ nd ∈ ns, Byt nd.path ∧ nd.path.length ≤ 1048576 ∧ nd.value.length ≤ 1048576 ∧ nd.holders.length ≤ 1048576 ∧ nd.watchers.length ≤ 1048576))
  (hnu : Hid (∀ nd ∈ ns, (∀ i ∈ nd.holders, 0 ≤ i ∧ i < 18446744073709551616) ∧ ∀ i ∈ nd.watchers, 0 ≤ i ∧ i < 18446744073709551616))
  (hnd : Hid (∀ (i j : Nat) (z z' : Nod), ns[i]? = some z → ns[j]? = some z' → i < j → z.path ≠ z'.path)) :
  Calls Tryz.prog 95 #[stV e g x t (.slice p n c) (.slice q m d)] w fun r w' => ∃ b bs bn SB NB HB UB, r = .returned (.pointer (some ⟨b, 0, none⟩)) ∧ StoreAt w w' b bs bn e g x t ss ns SB NB HB UB ∧ Below w.heap.size w w' := by
 have HR := hide fun (w' : World) (hb : Below w.heap.size w w') => And.intro (h.below hb) (hN.below hb)
 have HS0 := hide h
 have HN0 := hide hN
 clear h hN
 have hmm := @run_makeMap Tryz.prog
 go_enter Tryz.func95, Tryz.ntmps95
 go_wp2_with fail
 obtain ⟨b, eb⟩ : ∃ b, b = w.heap.size + 1 + 1 + 1 := ⟨_, rfl⟩
 obtain ⟨bn, ebn⟩ : ∃ b, b = w.heap.size + 1 + 1 := ⟨_, rfl⟩
 obtain ⟨bs, ebs⟩ : ∃ b, b = w.heap.size + 1 := ⟨_, rfl⟩
 rw [← eb, ← ebn, ← ebs]
 obtain ⟨W, hW⟩ : ∃ W, W = ((((w.alloc (.cells #[.int .u64 e, .int .u64 g, .int .u64 x, .int .i64 t, .slice p n c, .slice q m d] 27)).alloc (.map #[] 0)).alloc (.map #[] 0)).alloc (.cells #[.int .u64 e, .int .u64 g, .int .u64 x, .int .i64 t, .map (some bs), .map (some bn)] 161)) := ⟨_, rfl⟩
 have bW : Below w.heap.size w W := by rw [hW]; exact ((((Below.refl _ _).alloc (Nat.le_refl _) _).alloc (by simp) _).alloc (by simp; omega) _).alloc (by simp; omega) _
 have zW : W.heap.size = w.heap.size + 4 := by rw [hW]; simp
 have hdW : W.heap[b]? = some (.cells #[.int .u64 e, .int .u64 g, .int .u64 x, .int .i64 t, .map (some bs), .map (some bn)] 161) := by
  rw [hW, eb]
  have := (MapKept.heap_alloc (((w.alloc (.cells #[.int .u64 e, .int .u64 g, .int .u64 x, .int .i64 t, .slice p n c, .slice q m d] 27)).alloc (.map #[] 0)).alloc (.map #[] 0)) (.cells #[.int .u64 e, .int .u64 g, .int .u64 x, .int .i64 t, .map (some bs), .map (some bn)] 161)).1
  simpa using this
 have oS : W.ownsMap Tryz.prog 23 ptrElem bs 0 (.map []) := by
  rw [hW, ebs]
  have := ((World.ownsMap_made (w.alloc (.cells #[.int .u64 e, .int .u64 g, .int .u64 x, .int .i64 t, .slice p n c, .slice q m d] 27)) Tryz.prog 23 ptrElem).alloc (.map #[] 0)).alloc (.cells #[.int .u64 e, .int .u64 g, .int .u64 x, .int .i64 t, .map (some (w.heap.size + 1)), .map (some bn)] 161)
  simpa using this
 have oN : W.ownsMap Tryz.prog 9 ptrElem bn 0 (.map []) := by
  rw [hW, ebn]
  have := (World.ownsMap_made ((w.alloc (.cells #[.int .u64 e, .int .u64 g, .int .u64 x, .int .i64 t, .slice p n c, .slice q m d] 27)).alloc (.map #[] 0)) Tryz.prog 9 ptrElem).alloc (.cells #[.int .u64 e, .int .u64 g, .int .u64 x, .int .i64 t, .map (some bs), .map (some (w.heap.size + 1 + 1))] 161)
  simpa using this
 have c6 : St6 W w.heap.size e g x t (.slice p n c) (.slice q m d) := by
  have c0 : St6 (w.alloc (.cells #[.int .u64 e, .int .u64 g, .int .u64 x, .int .i64 t, .slice p n c, .slice q m d] 27)) w.heap.size e g x t (.slice p n c) (.slice q m d) := by simp [St6]
  rw [hW]
  exact c0.below ((((Below.refl _ _).alloc (Nat.le_refl _) _).alloc (by simp) _).alloc (by simp) _)
 rw [← hW]
 have HEQ := hide (And.intro eb (And.intro ebn (And.intro ebs zW)))
 have BW := hide bW
 have HC6 := hide c6
 have HN1 := hide (And.intro hdW (And.intro oS oN))
 clear hW eb ebn ebs zW bW hdW oS oN c6 hmm
 go_loopw [23] (fun iv wr => ∃ (k : Nat) (SB : List Nat), k ≤ n ∧ iv = .int .i64 k ∧ Hid (SesL w wr bs (ss.take k) SB ∧ wr.heap[b]? = some (.cells #[.int .u64 e, .int .u64 g, .int .u64 x, .int .i64 t, .map (some bs), .map (some bn)] 161) ∧ wr.ownsMap Tryz.prog 9 ptrElem bn 0 (.map []) ∧ St6 wr w.heap.size e g x t (.slice p n c) (.slice q m d)) ∧ Below w.heap.size w wr ∧ W.heap.size ≤ wr.heap.size) (fun iv _ => n - (intOf iv).toNat)
 case atStart => exact ⟨0, [], Nat.zero_le _, rfl, ⟨SesL.empty (uh HN1).2.1, (uh HN1).1, (uh HN1).2.2, uh HC6⟩, uh BW, Nat.le_refl _⟩
 case round =>
  obtain ⟨k, SB, hk, rfl, hin, hbr, hzr⟩ := hrel
  by_cases hlt : k < n
  ·have hlt' : (k : Int) < (n : Int) := by omega
   have hkl : k < ss.length := by rw [uh en]; exact hlt
   obtain ⟨⟨I, D, Q⟩, hy⟩ : ∃ y, ss[k]? = some y := ⟨_, List.getElem?_eq_getElem hkl⟩
   obtain ⟨b0, o, rfl, hcI, hcD, u, hcQ, hrQ⟩ : ∃ b o, p = some ⟨b, o, none⟩ ∧ w.cell? ⟨b, o + k * 3, none⟩ = some (.int .u64 I) ∧ w.cell? ⟨b, o + k * 3 + 1, none⟩ = some (.int .i64 D) ∧ ∃ u, w.cell? ⟨b, o + k * 3 + 2, none⟩ = some u ∧ RdEc w u Q := by
    obtain ⟨p', c', ev, hd⟩ := uh HS0
    simp only [Value.slice.injEq] at ev
    obtain ⟨rfl, -, -⟩ := ev
    rcases hd with h0 | ⟨b, o, h1, h2⟩
    ·rw [h0] at hkl; simp at hkl
    ·exact ⟨b, o, h1, h2 k _ hy⟩
   obtain ⟨pq, cq, rfl, -⟩ := id hrQ
   obtain ⟨mq, emq⟩ : ∃ m, Q.length = m := ⟨_, rfl⟩
   rw [emq] at hrQ hcQ
   clear emq
   replace hcI := cell_below hcI hbr
   replace hcD := cell_below hcD hbr
   replace hcQ := cell_below hcQ hbr
   have HRQ := hide hrQ
   have HY := hide hy
   have hI := uh hsu _ (List.mem_of_getElem? hy)
   have hkey : keyOf Tryz.prog 23 (.int .u64 I) = some (.int .u64 I) := keyOf_int_mk Tryz.underlying23 (u64_wf hI)
   have HKEY := hide hkey
   clear hkl hy hrQ hI hkey
   go_wp2_with fail
   obtain ⟨X, hX⟩ : ∃ X, X = (wr.alloc (.cells #[.int .u64 I, .int .i64 D, .slice pq mq cq] 59)) := ⟨_, rfl⟩
   have bX : Below wr.heap.size wr X := by rw [hX]; exact (Below.refl _ _).alloc (Nat.le_refl _) _
   have hbX : X.heap[wr.heap.size]? = some (.cells #[.int .u64 I, .int .i64 D, .slice pq mq cq] 59) := by rw [hX]; exact (MapKept.heap_alloc wr _).1
   have hcX : X.cell? ⟨wr.heap.size, 0, none⟩ = some (.int .u64 I) := by rw [hX]; simp
   obtain ⟨i1, i2, i3, i4⟩ := uh hin
   have hbb : X.heap[b]? = some (.cells #[.int .u64 e, .int .u64 g, .int .u64 x, .int .i64 t, .map (some bs), .map (some bn)] 161) := (bX.block b (heap_lt i2)).trans i2
   have hc4 : X.cell? ⟨b, 4, none⟩ = some (.map (some bs)) := cells_at hbb 4
   rw [← hX]
   have zX : X.heap.size = wr.heap.size + 1 := by rw [hX]; simp
   clear hX hcI hcD hcQ
   obtain ⟨D0, oD, mD⟩ := i1.own
   have hlen : (ss.take k).length = k := by rw [List.length_take, uh en]; omega
   rw [hlen] at oD
   have oX : X.ownsMap Tryz.prog 23 ptrElem bs k D0 := oD.kept (grown_of_below bX none) (by simp)
   have hbs : bs < wr.heap.size := oD.lt
   have hbsb : bs ≠ b := fun e => ownsMap_cells oD i2 e.symm
   have KX := hide (And.intro hc4 hcX)
   have OX := hide oX
   clear hc4 hcX oX
   refine wp_region_noPanic ?_
   refine wp_region_held_drew (S := fun w' => w'.cell? ⟨b, 4, none⟩ = some (.map (some bs)) ∧ w'.cell? ⟨wr.heap.size, 0, none⟩ = some (.int .u64 I)) (by kernel_rfl) (by exact uh KX) (fun hS => ?_)
   refine tk 0 hS (h := ?_); simp only [Act.put, xa, xb, xc]
   refine tk 1 hS (h := ?_); simp only [Act.put, xa, xb, xc]
   refine tk 2 hS (h := ?_); simp only [Act.put, xa, xb, xc]
   refine tk 3 hS (h := ?_); simp only [Act.put, xa, xb, xc]
   refine tk 4 hS (h := ?_); simp only [Act.put, xa, xb, xc]
   refine tk 5 hS (h := ?_); simp only [Act.put, xa, xb, xc]
   refine ry [6] ?_
   refine cn (fun KK hK => ?_) ?_
   ·refine step_mapUpdate (by rfl) _ _ _ 158 (by rfl) 23 _ keyU Tryz.underlying158 ptrElem bs k D0 (by rfl) (by exact (uh OX).drew) (by unfold maxLen; omega) (.int .u64 I) (.pointer (some ⟨wr.heap.size, 0, none⟩)) (.int .u64 I) (by rfl) (by rfl) (uh HKEY) (.lit (.int .i64 wr.heap.size)) [] rfl ?_
    intro w2 hown2 hg2
    have hg2' : X.grownBy w2 (some bs) := grown_drew hg2
    refine hK.out _ _ (by exact ⟨(cell_heap (hg2'.block b (heap_lt hbb) (by simpa using hbsb.symm)) _).trans (uh KX).1, (cell_heap (hg2'.block wr.heap.size (heap_lt hbX) (by simp; omega)) _).trans (uh KX).2⟩) (fun hS => ?_)
    clear hK KK
    (try simp only [Act.put, xa, xb, xc])
    refine wpAnyH_done (by kernel_rfl) ?_ _
    refine NoPanic.normal ?_
    have hst : SesL w w2 bs (ss.take (k + 1)) (SB ++ [wr.heap.size]) := by
     rw [take_snoc (uh HY)]
     refine i1.step (I, D, Q) wr.heap.size (grown_of_below bX none) (Nat.le_refl _) hbr.size (.slice pq mq cq) (uh HRQ) hbX (fun z hz => ?_) mD oD.isMap (by rw [hlen]; exact hown2) hg2'
     obtain ⟨i, hi, hz'⟩ := mem_take_idx hz
     exact uh hsd i k z (I, D, Q) hz' (uh HY) hi
    have hn2 : w2.ownsMap Tryz.prog 9 ptrElem bn 0 (.map []) := (i3.kept (grown_of_below bX none) (by simp)).kept hg2' (by
     have := (uh HEQ)
     simp
     omega)
    have hb2 : w2.heap[b]? = some (.cells #[.int .u64 e, .int .u64 g, .int .u64 x, .int .i64 t, .map (some bs), .map (some bn)] 161) := (hg2'.block b (heap_lt hbb) (by simpa using hbsb.symm)).trans hbb
    have h62 : St6 w2 w.heap.size e g x t (.slice (some ⟨b0, o, none⟩) n c) (.slice q m d) := (i4.below bX).heap (hg2'.block w.heap.size (by have := hbr.size; omega) (by have := uh HEQ; simp; omega))
    have hB2 : Below w.heap.size w w2 := below_of_grown (Below.step hbr bX) hg2' (by have := hbr.size; omega) (fun j hj => by cases hj; have := uh HEQ; omega)
    have hz2 : W.heap.size ≤ w2.heap.size := by have := hg2'.size; omega
    have HIN := hide (And.intro hst (And.intro hb2 (And.intro hn2 h62)))
    clear hst hb2 hn2 h62 hS hown2 hg2 hg2' i1 i2 i3 i4 hbb oD mD hbX bX
    go_wp2
    go_roundw
    case rel => exact ⟨k + 1, _, by omega, by go_num, HIN, hB2, hz2⟩
    case measure => simp [intOf]; omega
   exact AllReadyH.nil
  ·have hlt' : ¬ (k : Int) < (n : Int) := by omega
   have ekn : k = n := by omega
   subst ekn
   obtain ⟨i1, i2, i3, i4⟩ := uh hin
   rw [List.take_of_length_le (by rw [uh en]; exact Nat.le_refl _)] at i1
   obtain ⟨j0, j1, j2, j3, j4, j5⟩ := id i4
   have I1 := hide i1
   have I2 := hide i2
   have I3 := hide i3
   have I4 := hide i4
   clear i1 i2 i3 i4 hin
   go_wp2_with fail
   clear j0 j1 j2 j3 j4 j5
   obtain ⟨Y, eY⟩ : ∃ Y, Y = wr := ⟨_, rfl⟩
   subst eY
   have BY := hide hbr
   have ZY := hide hzr
   clear hbr hzr hlt hlt' hk
   go_loopw [37] (fun iv wr => ∃ (k : Nat) (NB HB UB : List Nat), k ≤ m ∧ iv = .int .i64 k ∧ Hid (NodL w wr bn (ns.take k) NB HB UB ∧ SesL w wr bs ss SB ∧ wr.heap[b]? = some (.cells #[.int .u64 e, .int .u64 g, .int .u64 x, .int .i64 t, .map (some bs), .map (some bn)] 161) ∧ ∀ y ∈ HB ++ UB, y ≠ bs) ∧ Below w.heap.size w wr ∧ W.heap.size ≤ wr.heap.size) (fun iv _ => m - (intOf iv).toNat)
   case atStart => exact ⟨0, [], [], [], Nat.zero_le _, rfl, ⟨NodL.empty (uh I3), uh I1, uh I2, by simp⟩, uh BY, uh ZY⟩
   case round =>
    obtain ⟨j, NB, HB, UB, hk, rfl, hin, hbr, hzr⟩ := hrel
    by_cases hlt : j < m
    ·have hlt' : (j : Int) < (m : Int) := by omega
     have hkl : j < ns.length := by rw [uh em]; exact hlt
     obtain ⟨nd, hy⟩ : ∃ y, ns[j]? = some y := ⟨_, List.getElem?_eq_getElem hkl⟩
     obtain ⟨b0, o, rfl, hA⟩ := (uh HN0).at (by omega)
     obtain ⟨P, V, H, U, hnd0⟩ := hA j nd hy
     obtain ⟨hB1, hB2, hB3, hB4, hB5⟩ := uh hby _ (List.mem_of_getElem? hy)
     obtain ⟨hU1, hU2⟩ := uh hnu _ (List.mem_of_getElem? hy)
     obtain ⟨pp, pc, pn, rfl, ePn⟩ := hnd0.r0.slc
     obtain ⟨vq, vc, vn, rfl, eVn⟩ := hnd0.r1.slc
     obtain ⟨hp, hc, hh, rfl, eHn⟩ := hnd0.r4.slc
     obtain ⟨up, uc, un, rfl, eUn⟩ := hnd0.r7.slc
     have hpn : pn ≤ 1048576 := by rw [← uh ePn]; exact hB2
     have hhn : hh ≤ 1048576 := by rw [← uh eHn]; exact hB4
     have hun : un ≤ 1048576 := by rw [← uh eUn]; exact hB5
     have HND0 := hide hnd0
     have HY := hide hy
     have HU1 : Hid (∀ i ∈ nd.holders, 0 ≤ i ∧ i < 18446744073709551616) := hU1
     have HU2 : Hid (∀ i ∈ nd.watchers, 0 ≤ i ∧ i < 18446744073709551616) := hU2
     have hnr := hnd0.below hbr
     obtain ⟨c0, c1, c2, c3, c4, c5, c6, c7, -, -, -, -, -⟩ := hnr
     obtain ⟨ow, mo, ep, ge, e1, e2, e3, e4⟩ : ∃ a b c d, nd.owner = a ∧ nd.mode = b ∧ nd.epoch = c ∧ nd.gen = d := ⟨_, _, _, _, rfl, rfl, rfl, rfl⟩
     rw [e1] at c2
     rw [e2] at c3
     rw [e3] at c5
     rw [e4] at c6
     have HE := hide (And.intro e1 (And.intro e2 (And.intro e3 e4)))
     clear hkl hy hA hnd0 hB1 hB2 hB3 hB4 hB5 hU1 hU2 e1 e2 e3 e4
     go_wp2_with fail
     obtain ⟨X, hX⟩ : ∃ X, X = (wr.alloc (.cells #[.slice pp pn pc, .slice vq vn vc, .int .u64 ow, .int .i64 mo, .slice hp hh hc, .int .u64 ep, .int .u64 ge, .slice up un uc] 66)) := ⟨_, rfl⟩
     obtain ⟨C, eC⟩ : ∃ C, C = wr.heap.size := ⟨_, rfl⟩
     have bX : Below wr.heap.size wr X := by rw [hX]; exact (Below.refl _ _).alloc (Nat.le_refl _) _
     have zX : X.heap.size = wr.heap.size + 1 := by rw [hX]; simp
     obtain ⟨i1, i2, i3, i4⟩ := uh hin
     have hbb : X.heap[b]? = some (.cells #[.int .u64 e, .int .u64 g, .int .u64 x, .int .i64 t, .map (some bs), .map (some bn)] 161) := (bX.block b (heap_lt i3)).trans i3
     have rX : Rd X (.slice pp pn pc) nd.path := (uh HND0).r0.below (Below.step hbr bX)
     have KX : Hid (X.cell? ⟨b, 5, none⟩ = some (.map (some bn)) ∧ X.cell? ⟨C, 0, none⟩ = some (.slice pp pn pc) ∧ X.cell? ⟨C, 1, none⟩ = some (.slice vq vn vc) ∧ X.cell? ⟨C, 2, none⟩ = some (.int .u64 ow) ∧ X.cell? ⟨C, 3, none⟩ = some (.int .i64 mo) ∧ X.cell? ⟨C, 4, none⟩ = some (.slice hp hh hc) ∧ X.cell? ⟨C, 5, none⟩ = some (.int .u64 ep) ∧ X.cell? ⟨C, 6, none⟩ = some (.int .u64 ge) ∧ X.cell? ⟨C, 7, none⟩ = some (.slice up un uc) ∧ Rd X (.slice pp pn pc) nd.path) := by
      refine ⟨cells_at hbb 5, ?_, ?_, ?_, ?_, ?_, ?_, ?_, ?_, rX⟩ <;> (rw [hX, eC]; simp)
     have uH : RdU X (.slice hp hh hc) nd.holders := (uh HND0).r4.below (Below.step hbr bX)
     have uU : RdU X (.slice up un uc) nd.watchers := (uh HND0).r7.below (Below.step hbr bX)
     rw [← hX, ← eC]
     have UH := hide uH
     have UU := hide uU
     have hcf : ∀ (vs : Array Value) (w : World), (callFunc 135 vs).run Tryz.prog w = .ok (.enter 135 vs) w := fun vs w => by kernel_rfl
     have HCF := hide hcf
     have HX := hide (And.intro bX (And.intro zX hbb))
     have HIN := hin
     clear hX c0 c1 c2 c3 c4 c5 c6 c7 uH uU rX hcf bX zX hbb i1 i2 i3 i4 hin
     have HCE := hide eC
     clear eC
     have hkey : keyOf Tryz.prog 9 (.string (bstr nd.path)) = some (litS nd.path) := by
      rw [WideMaps.keyOf_string_mk Tryz.underlying9 (by rw [bstr_size, uh ePn]; unfold maxLen; omega), bstr_litS]
     have HKEY := hide hkey
     clear hkey
     refine wp_region_noPanic ?_
     refine wp_region_held_drew (S := fun w' => w'.cell? ⟨b, 5, none⟩ = some (.map (some bn)) ∧ w'.cell? ⟨C, 0, none⟩ = some (.slice pp pn pc) ∧ w'.cell? ⟨C, 1, none⟩ = some (.slice vq vn vc) ∧ w'.cell? ⟨C, 2, none⟩ = some (.int .u64 ow) ∧ w'.cell? ⟨C, 3, none⟩ = some (.int .i64 mo) ∧ w'.cell? ⟨C, 4, none⟩ = some (.slice hp hh hc) ∧ w'.cell? ⟨C, 5, none⟩ = some (.int .u64 ep) ∧ w'.cell? ⟨C, 6, none⟩ = some (.int .u64 ge) ∧ w'.cell? ⟨C, 7, none⟩ = some (.slice up un uc) ∧ Rd w' (.slice pp pn pc) nd.path) (by kernel_rfl) (by exact uh KX) (fun hS => ?_)
     refine tk 0 hS (h := ?_); simp only [Act.put, xa, xb, xc]
     refine tk 1 hS (h := ?_); simp only [Act.put, xa, xb, xc]
     refine tk 2 hS (h := ?_); simp only [Act.put, xa, xb, xc]
     refine tk 3 hS (h := ?_); simp only [Act.put, xa, xb, xc]
     refine tk 4 hS (h := ?_); simp only [Act.put, xa, xb, xc]
     refine tk 5 hS (h := ?_); simp only [Act.put, xa, xb, xc]
     refine wpAnyH_take (i := 6) (oi := _) (v := ?_) (by simp only [List.getElem?_toArray, List.getElem?_cons_succ, List.getElem?_cons_zero]; rfl) (by kernel_rfl) (by kernel_rfl) (by kernel_rfl) (fun _ _ _ h => h) (Or.inl ⟨by rfl, ?_⟩) hS ?_
     rotate_left
     ·(intro w' hSw; (try dsimp only at hSw); (have hcv := run_conv (uh ePn) hSw.2.2.2.2.2.2.2.2.2); go_simp; try with_reducible rfl)
     simp only [Act.put, xa, xb, xc]
     refine tk 7 hS (h := ?_); simp only [Act.put, xa, xb, xc]
     refine tk 8 hS (h := ?_); simp only [Act.put, xa, xb, xc]
     refine tk 9 hS (h := ?_); simp only [Act.put, xa, xb, xc]
     refine tk 10 hS (h := ?_); simp only [Act.put, xa, xb, xc]
     refine tk 11 hS (h := ?_); simp only [Act.put, xa, xb, xc]
     refine tk 12 hS (h := ?_); simp only [Act.put, xa, xb, xc]
     refine tk 13 hS (h := ?_); simp only [Act.put, xa, xb, xc]
     refine tk 14 hS (h := ?_); simp only [Act.put, xa, xb, xc]
     refine tk 15 hS (h := ?_); simp only [Act.put, xa, xb, xc]
     refine tk 16 hS (h := ?_); simp only [Act.put, xa, xb, xc]
     refine tk 17 hS (h := ?_); simp only [Act.put, xa, xb, xc]
     refine tk 18 hS (h := ?_); simp only [Act.put, xa, xb, xc]
     refine tk 20 hS (h := ?_); simp only [Act.put, xa, xb, xc]
     refine tk 21 hS (h := ?_); simp only [Act.put, xa, xb, xc]
     refine ry [19] ?_
     refine cn (fun KK hK => ?_) ?_
     ·refine step_call1 (by rfl) 135 _ _ (by rfl) (.slice hp hh hc) (by rfl) (fun _ => uh HCF _ _) (setOf_any hp hc hh nd.holders eHn _ ((uh UH).below (Below.refl _ _).drew) hhn HU1) ?_
      rintro r w2 ⟨D1, rfl, o1, s1, hb2, hl2⟩
      refine ⟨_, rfl, ?_⟩
      have hb2' : Below X.heap.size X w2 := Below.step (Below.refl X.heap.size X).drew hb2
      have KX2 : Hid (w2.cell? ⟨b, 5, none⟩ = some (.map (some bn)) ∧ w2.cell? ⟨C, 0, none⟩ = some (.slice pp pn pc) ∧ w2.cell? ⟨C, 1, none⟩ = some (.slice vq vn vc) ∧ w2.cell? ⟨C, 2, none⟩ = some (.int .u64 ow) ∧ w2.cell? ⟨C, 3, none⟩ = some (.int .i64 mo) ∧ w2.cell? ⟨C, 4, none⟩ = some (.slice hp hh hc) ∧ w2.cell? ⟨C, 5, none⟩ = some (.int .u64 ep) ∧ w2.cell? ⟨C, 6, none⟩ = some (.int .u64 ge) ∧ w2.cell? ⟨C, 7, none⟩ = some (.slice up un uc) ∧ Rd w2 (.slice pp pn pc) nd.path) := by
       obtain ⟨k0, k1, k2, k3, k4, k5, k6, k7, k8, k9⟩ := uh KX
       exact ⟨cell_below k0 hb2', cell_below k1 hb2', cell_below k2 hb2', cell_below k3 hb2', cell_below k4 hb2', cell_below k5 hb2', cell_below k6 hb2', cell_below k7 hb2', cell_below k8 hb2', k9.below hb2'⟩
      refine hK.out _ _ (by exact uh KX2) (fun hS => ?_)
      clear hK KK
      have zd : X.drew.heap.size = X.heap.size := rfl
      rw [zd] at o1 hl2 ⊢
      obtain ⟨h1, eh1⟩ : ∃ h1, h1 = X.heap.size := ⟨_, rfl⟩
      rw [← eh1] at o1 hl2 ⊢
      have HO1 := hide (And.intro o1 (And.intro s1 (And.intro hl2 eh1)))
      have HB2 := hide hb2'
      clear o1 s1 hb2 hl2 hb2' zd eh1
      (try simp only [Act.put, xa, xb, xc])
      refine ry [22] ?_
      refine cn (fun KK hK => ?_) ?_
      ·refine step_call1 (by rfl) 135 _ _ (by rfl) (.slice up un uc) (by rfl) (fun _ => uh HCF _ _) (setOf_any up uc un nd.watchers eUn _ ((uh UU).below (uh HB2)) hun HU2) ?_
       rintro r w3 ⟨D2, rfl, o2, s2, hb3, hl3⟩
       refine ⟨_, rfl, ?_⟩
       have KX3 : Hid (w3.cell? ⟨b, 5, none⟩ = some (.map (some bn)) ∧ w3.cell? ⟨C, 0, none⟩ = some (.slice pp pn pc) ∧ w3.cell? ⟨C, 1, none⟩ = some (.slice vq vn vc) ∧ w3.cell? ⟨C, 2, none⟩ = some (.int .u64 ow) ∧ w3.cell? ⟨C, 3, none⟩ = some (.int .i64 mo) ∧ w3.cell? ⟨C, 4, none⟩ = some (.slice hp hh hc) ∧ w3.cell? ⟨C, 5, none⟩ = some (.int .u64 ep) ∧ w3.cell? ⟨C, 6, none⟩ = some (.int .u64 ge) ∧ w3.cell? ⟨C, 7, none⟩ = some (.slice up un uc) ∧ Rd w3 (.slice pp pn pc) nd.path) := by
        obtain ⟨k0, k1, k2, k3, k4, k5, k6, k7, k8, k9⟩ := uh KX2
        exact ⟨cell_below k0 hb3, cell_below k1 hb3, cell_below k2 hb3, cell_below k3 hb3, cell_below k4 hb3, cell_below k5 hb3, cell_below k6 hb3, cell_below k7 hb3, cell_below k8 hb3, k9.below hb3⟩
       refine hK.out _ _ (by exact uh KX3) (fun hS => ?_)
       clear hK KK
       obtain ⟨u1, eu1⟩ : ∃ u1, u1 = w2.heap.size := ⟨_, rfl⟩
       rw [← eu1] at o2 hl3 ⊢
       have HO2 := hide (And.intro o2 (And.intro s2 (And.intro hl3 eu1)))
       have HB3 := hide hb3
       clear o2 s2 hb3 hl3 eu1
       (try simp only [Act.put, xa, xb, xc])
       refine tk 23 hS (h := ?_); simp only [Act.put, xa, xb, xc]
       refine ry [24] ?_
       refine cn (fun KK hK => ?_) ?_
       ·refine step_box (by rfl) 166 _ (by rfl) (.agg #[.slice vq vn vc, .int .u64 ow, .int .i64 mo, .map (some h1), .int .u64 ep, .int .u64 ge, .map (some u1)]) (by rfl) _ _ (run_boxNode _ _ _ _ _ _ _ _) ?_
        obtain ⟨Z, eZ⟩ : ∃ Z, Z = w3.alloc (.cells #[.slice vq vn vc, .int .u64 ow, .int .i64 mo, .map (some h1), .int .u64 ep, .int .u64 ge, .map (some u1)] 166) := ⟨_, rfl⟩
        have bZ : Below w3.heap.size w3 Z := by rw [eZ]; exact (Below.refl _ _).alloc (Nat.le_refl _) _
        have hZ : Z.heap[w3.heap.size]? = some (.cells #[.slice vq vn vc, .int .u64 ow, .int .i64 mo, .map (some h1), .int .u64 ep, .int .u64 ge, .map (some u1)] 166) := by rw [eZ]; exact (MapKept.heap_alloc w3 _).1
        rw [← eZ]
        clear eZ
        have KX4 : Hid (Z.cell? ⟨b, 5, none⟩ = some (.map (some bn)) ∧ Z.cell? ⟨C, 0, none⟩ = some (.slice pp pn pc) ∧ Z.cell? ⟨C, 1, none⟩ = some (.slice vq vn vc) ∧ Z.cell? ⟨C, 2, none⟩ = some (.int .u64 ow) ∧ Z.cell? ⟨C, 3, none⟩ = some (.int .i64 mo) ∧ Z.cell? ⟨C, 4, none⟩ = some (.slice hp hh hc) ∧ Z.cell? ⟨C, 5, none⟩ = some (.int .u64 ep) ∧ Z.cell? ⟨C, 6, none⟩ = some (.int .u64 ge) ∧ Z.cell? ⟨C, 7, none⟩ = some (.slice up un uc) ∧ Rd Z (.slice pp pn pc) nd.path) := by
         obtain ⟨k0, k1, k2, k3, k4, k5, k6, k7, k8, k9⟩ := uh KX3
         exact ⟨cell_below k0 bZ, cell_below k1 bZ, cell_below k2 bZ, cell_below k3 bZ, cell_below k4 bZ, cell_below k5 bZ, cell_below k6 bZ, cell_below k7 bZ, cell_below k8 bZ, k9.below bZ⟩
        refine hK.out _ _ (by exact uh KX4) (fun hS => ?_)
        clear hK KK
        obtain ⟨g1, eg1⟩ : ∃ g1, g1 = w3.heap.size := ⟨_, rfl⟩
        rw [← eg1] at hZ ⊢
        have BXZ : Below X.heap.size X Z := Below.step (Below.step (uh HB2) (uh HB3)) bZ
        obtain ⟨i1, i2, i3, i4⟩ := uh HIN
        obtain ⟨bX, zX, hbb⟩ := uh HX
        obtain ⟨o1, s1, hl2, eh1⟩ := uh HO1
        obtain ⟨o2, s2, hl3, eu1⟩ := uh HO2
        have bRZ : Below wr.heap.size wr Z := Below.step bX BXZ
        obtain ⟨D0, oD, mD⟩ := i1.own
        have hlen : (ns.take j).length = j := by rw [List.length_take, uh em]; omega
        rw [hlen] at oD
        have oZ : Z.ownsMap Tryz.prog 9 ptrElem bn j D0 := oD.kept (grown_of_below bRZ none) (by simp)
        have q1 : Z.ownsMap Tryz.prog 23 unitElem h1 hh D1 := (o1.kept (grown_of_below (uh HB3) none) (by simp)).kept (grown_of_below bZ none) (by simp)
        have q2 : Z.ownsMap Tryz.prog 23 unitElem u1 un D2 := o2.kept (grown_of_below bZ none) (by simp)
        have lt3 := (uh HB3).size
        have lt2 := (uh HB2).size
        have hbn := oD.lt
        have HQ := hide (And.intro q1 (And.intro q2 (And.intro s1 s2)))
        have HNUM := hide (And.intro hl2 (And.intro eh1 (And.intro hl3 (And.intro eu1 (And.intro eg1 (And.intro zX (And.intro lt2 (And.intro lt3 hbn))))))))
        have HOZ := hide oZ
        have HREST := hide (And.intro hZ (And.intro bRZ (And.intro oD mD)))
        clear q1 q2 s1 s2 hl2 eh1 hl3 eu1 eg1 zX lt2 lt3 hbn oZ hZ bRZ oD mD i1 i2 i3 i4 bX hbb o1 o2 BXZ bZ
        (try simp only [Act.put, xa, xb, xc])
        refine ry [25] ?_
        refine cn (fun KK hK => ?_) ?_
        ·refine step_mapUpdate (by rfl) _ _ _ 159 (by rfl) 9 _ keyT Tryz.underlying159 ptrElem bn j D0 (by rfl) (by exact uh HOZ) (by unfold maxLen; omega) (.string (bstr nd.path)) (.pointer (some ⟨g1, 0, none⟩)) (litS nd.path) (by rfl) (by rfl) (uh HKEY) (.lit (.int .i64 g1)) [] rfl ?_
         intro w4 hown4 hg4
         obtain ⟨hZ, bRZ, oD, mD⟩ := uh HREST
         obtain ⟨i1, i2, i3, i4⟩ := uh HIN
         obtain ⟨q1, q2, s1, s2⟩ := uh HQ
         obtain ⟨hl2, eh1, hl3, eu1, eg1, zX, lt2, lt3, hbn⟩ := uh HNUM
         have hsz4 := hg4.size
         have zZ := heap_lt hZ
         have zRZ := bRZ.size
         have hbrs := hbr.size
         obtain ⟨eb, ebn, ebs, zW⟩ := uh HEQ
         have hCe := uh HCE
         have hbbZ : Z.heap[b]? = some (.cells #[.int .u64 e, .int .u64 g, .int .u64 x, .int .i64 t, .map (some bs), .map (some bn)] 161) := (bRZ.block b (heap_lt i3)).trans i3
         have nb : b ≠ bn := by omega
         have nC : C ≠ bn := by omega
         have KX5 : Hid (w4.cell? ⟨b, 5, none⟩ = some (.map (some bn)) ∧ w4.cell? ⟨C, 0, none⟩ = some (.slice pp pn pc) ∧ w4.cell? ⟨C, 1, none⟩ = some (.slice vq vn vc) ∧ w4.cell? ⟨C, 2, none⟩ = some (.int .u64 ow) ∧ w4.cell? ⟨C, 3, none⟩ = some (.int .i64 mo) ∧ w4.cell? ⟨C, 4, none⟩ = some (.slice hp hh hc) ∧ w4.cell? ⟨C, 5, none⟩ = some (.int .u64 ep) ∧ w4.cell? ⟨C, 6, none⟩ = some (.int .u64 ge) ∧ w4.cell? ⟨C, 7, none⟩ = some (.slice up un uc) ∧ Rd w4 (.slice pp pn pc) nd.path) := by
          obtain ⟨k0, k1, k2, k3, k4, k5, k6, k7, k8, k9⟩ := uh KX4
          have hC := hg4.block C (by omega) (by simpa using nC)
          exact ⟨(cell_heap (hg4.block b (heap_lt hbbZ) (by simpa using nb)) _).trans k0, (cell_heap hC _).trans k1, (cell_heap hC _).trans k2, (cell_heap hC _).trans k3, (cell_heap hC _).trans k4, (cell_heap hC _).trans k5, (cell_heap hC _).trans k6, (cell_heap hC _).trans k7, (cell_heap hC _).trans k8,
           (uh HND0).r0.below (below_of_grown (Below.step hbr bRZ) hg4 (by omega) (fun j hj => by cases hj; omega))⟩
         refine hK.out _ _ (by exact uh KX5) (fun hS => ?_)
         clear hK KK
         (try simp only [Act.put, xa, xb, xc])
         refine wpAnyH_done (by kernel_rfl) ?_ _
         refine NoPanic.normal ?_
         obtain ⟨e1, e2, e3, e4⟩ := uh HE
         have hst : NodL w w4 bn (ns.take (j + 1)) (NB ++ [g1]) (HB ++ [h1]) (UB ++ [u1]) := by
          rw [take_snoc (uh HY)]
          refine i1.step nd g1 h1 u1 (grown_of_below bRZ none) (by omega) (by omega) (by omega) (by omega) hbr.size (.slice vq vn vc) (uh HND0).r1 (by rw [e1, e2, e3, e4]; exact hZ) (by rw [uh eHn]; exact q1) s1 (by rw [uh eUn]; exact q2) s2 (fun z hz => ?_) mD oD.isMap (by rw [hlen]; exact hown4) hg4
          obtain ⟨i, hi, hz'⟩ := mem_take_idx hz
          intro ee
          exact uh hnd i j z nd hz' (uh HY) hi (litS_inj (uh hby z (List.mem_of_getElem? hz')).1 (uh hby nd (List.mem_of_getElem? (uh HY))).1 ee)
         have hse : SesL w w4 bs ss SB := (i2.kept (grown_of_below bRZ none) (by simp) (by simp)).kept hg4 (by simp; omega) (fun y hy => by
          obtain ⟨i, hi⟩ := List.getElem?_of_mem hy
          obtain ⟨s, hs⟩ : ∃ s, ss[i]? = some s := ⟨_, List.getElem?_eq_getElem (by rw [← i2.len]; exact (List.getElem?_eq_some_iff.1 hi).1)⟩
          obtain ⟨_, u, a2, _⟩ := i2.blk i s y hs hi
          have := ownsMap_cells oD a2
          simpa using this)
         have hb4 : w4.heap[b]? = some (.cells #[.int .u64 e, .int .u64 g, .int .u64 x, .int .i64 t, .map (some bs), .map (some bn)] 161) := (hg4.block b (heap_lt hbbZ) (by simpa using nb)).trans hbbZ
         have hB4 : Below w.heap.size w w4 := below_of_grown (Below.step hbr bRZ) hg4 (by omega) (fun j hj => by cases hj; omega)
         have hz4 : W.heap.size ≤ w4.heap.size := by omega
         have hd4 : ∀ y ∈ (HB ++ [h1]) ++ (UB ++ [u1]), y ≠ bs := by
          intro y hy
          simp only [List.mem_append, List.mem_singleton] at hy
          rcases hy with (hy | rfl) | (hy | rfl)
          ·exact i4 y (List.mem_append.2 (.inl hy))
          ·omega
          ·exact i4 y (List.mem_append.2 (.inr hy))
          ·omega
         have HIN4 := hide (And.intro hst (And.intro hse (And.intro hb4 hd4)))
         clear hst hse hb4 hd4 hS hown4 hg4 i1 i2 i3 i4 q1 q2 s1 s2 hl2 eh1 hl3 eu1 eg1 zX lt2 lt3 hbn eb ebn ebs zW hCe hZ bRZ oD mD hbbZ e1 e2 e3 e4 hsz4 hbrs nb nC zZ zRZ KX KX2 KX3 KX4 KX5
         go_wp2
         go_roundw
         case rel => exact ⟨j + 1, _, _, _, by omega, by go_num, HIN4, hB4, hz4⟩
         case measure => simp [intOf]; omega
        exact AllReadyH.nil
       exact AllReadyH.nil
      exact AllReadyH.nil
     exact AllReadyH.nil
    ·have hlt' : ¬ (j : Int) < (m : Int) := by omega
     have ekm : j = m := by omega
     subst ekm
     obtain ⟨i1, i2, i3, i4⟩ := uh hin
     rw [List.take_of_length_le (by rw [uh em]; exact Nat.le_refl _)] at i1
     obtain ⟨eb, ebn, ebs, zW⟩ := uh HEQ
     have hfin : StoreAt w wr b bs bn e g x t ss ns SB NB HB UB := ⟨i3, i2, i1, by omega, by
      rw [List.nodup_cons]
      refine ⟨fun hmem => ?_, i1.dis⟩
      rcases List.mem_cons.1 hmem with hh | hh
      ·omega
      ·exact i4 _ hh rfl⟩
     have HFIN := hide hfin
     clear i1 i2 i3 i4 eb ebn ebs zW hfin
     go_wp2
     go_ret
     exact ⟨b, rfl, ⟨bs, bn, SB, NB, HB, UB, uh HFIN⟩, hbr⟩
end Go.Proofs.YtnbgnhhnpmmloaaGreatDoor

