import Derived.Test.YtpbppdeleijhkaaGreatDoorVF0
import Derived.Test.YtpbppdeleijhkaaGreatDoorG39
namespace Go.Proofs.YtpbppdeleijhkaaGreatDoor
open Go.ChangeShapes Go.WideShapes Go.ChangeAt Go.RowKit Go.Maps
set_option linter.unusedVariables false
set_option linter.unusedSimpArgs false
set_option maxRecDepth 100000
set_option maxHeartbeats 3200000 in
theorem forget_any {w0 : World} {b bs bn : Nat} {e g x t : Int} {ss : List Ses} {ns : List Nod} {SB NB HB UB : List Nat} (w : World) (hst : Hid (StoreAt w0 w b bs bn e g x t ss ns SB NB HB UB)) (hw0 : w0.heap.size ≤ w.heap.size)
  (hby : Hid (∀ nd ∈ ns, Byt nd.path)) (hds : Hid (∀ (i j : Nat) (s s' : Ses), ss[i]? = some s → ss[j]? = some s' → i < j → s.1 ≠ s'.1)) (hdn : Hid (∀ (i j : Nat) (s s' : Nod), ns[i]? = some s → ns[j]? = some s' → i < j → s.path ≠ s'.path))
  (m : Nat) (em : Hid (ns.length = m)) (n : Nat) (en : Hid (ss.length = n)) :
  Calls Tryz.prog 114 #[.pointer (some ⟨b, 0, none⟩)] w fun r w' => StoreAt w0 w' b bs bn e g x 0 (ss.map sesF) (ns.map nodF) SB NB HB UB ∧ Below w0.heap.size w w' ∧ (∃ v, r = .returned v) := by
 have hc3 : w.cell? ⟨b, 3, none⟩ = some (.int .i64 t) := cells_at (unhide hst).hd 3
 have hf3 : ∀ o, w.frozen? ⟨b, o, none⟩ = false := fun o => by simp [World.frozen?, (unhide hst).hd]
 obtain ⟨Z, hZ⟩ : ∃ Z, Z = w.setCell ⟨b, 3, none⟩ (.int .i64 0) := ⟨_, rfl⟩
 have hstZ : Hid (StoreAt w0 Z b bs bn e g x 0 ss ns SB NB HB UB) := by
  rw [hZ]
  exact (unhide hst).setNow 0
 obtain ⟨Ds, oS, mS⟩ := (unhide hstZ).ses.own
 have hc4 : Z.cell? ⟨b, 4, none⟩ = some (.map (some bs)) := cells_at (unhide hstZ).hd 4
 rw [unhide en] at oS
 have hbZ : Below w0.heap.size w Z := by rw [hZ]; exact (Below.refl _ _).setCell ((unhide hst).lo.1) _
 go_enter Tryz.func114, Tryz.ntmps114
 subst hZ
 go_wp2_with (first
  | (at_range; refine wpList_range_own _ rfl _ 99 rfl 23 _ keyU Tryz.underlying99 _ bs n _ rfl oS ?_; intro w1 hrg0 hg0 hs0)
  | go_in)
 go_frame
 have hst1 := hide ((unhide hstZ).same (SameObj.grown hg0))
 have hr0 : w.heap.size ≤ (w.setCell ⟨b, 3, none⟩ (.int .i64 0)).heap.size := by simp
 have hb1 : Below w0.heap.size w w1 := below_of_grown hbZ hg0 (by simpa using hw0) (fun j hj => by cases hj)
 obtain ⟨r1, er1⟩ : ∃ r, r = (w.setCell ⟨b, 3, none⟩ (.int .i64 0)).heap.size := ⟨_, rfl⟩
 rw [← er1] at hrg0 hr0 ⊢
 have hall : Hid (∀ s ∈ ss, Maps.has Ds (.int .u64 s.1) = true) := fun s hs => by
  obtain ⟨i, hi⟩ := List.getElem?_of_mem hs
  have hi' := (List.getElem?_eq_some_iff.1 hi).1
  obtain ⟨gz, hgz⟩ : ∃ gz, SB[i]? = some gz := ⟨_, List.getElem?_eq_getElem (by rw [(unhide hst).ses.len]; exact hi')⟩
  exact (mS.hs _).2 ⟨(.int .u64 s.1, gz), by
   rw [List.mem_iff_getElem?]
   exact ⟨i, by rw [List.getElem?_zipWith, hi, hgz]⟩, rfl⟩
 have MS := hide mS
 clear mS oS hc3 hf3 hc4 hstZ hbZ hg0 hs0 er1
 go_loopw [3] (fun _ wr => ∃ (left : Lit → Bool) (cnt : Nat), wr.ranges Tryz.prog 23 ptrElem bs r1 n Ds left cnt ∧ Hid (StoreAt w0 wr b bs bn e g x 0 (turnS sesF left ss) ns SB NB HB UB) ∧ Below w0.heap.size w wr) (fun _ wr => wr.rangeLeft bs r1)
 case atStart => exact ⟨_, _, hrg0, by rw [turnS_start (unhide hall)]; exact hst1, hb1⟩
 case round =>
  obtain ⟨left, cnt, hrg, hstr, hbr⟩ := hrel
  go_wp2_with (first
   | (at_next; refine wpList_next_ptr _ rfl _ rfl 23 keyU (fun i : Int => .int .u64 i) invU bs r1 n _ _ (unhide MS) _ _ rfl hrg ?_ ?_)
   | go_in)
  ·intro _ hl0
   have hst2 : Hid (StoreAt w0 wr b bs bn e g x 0 (ss.map sesF) ns SB NB HB UB) := by
    have := unhide hstr
    rw [turnS_end hl0] at this
    exact this
   obtain ⟨D, oD, mD⟩ := (unhide hst2).nod.own
   have hc5 : wr.cell? ⟨b, 5, none⟩ = some (.map (some bn)) := cells_at (unhide hst2).hd 5
   rw [unhide em] at oD
   have hallN : Hid (∀ s ∈ ns, Maps.has D (litS s.path) = true) := fun s hs => by
    obtain ⟨i, hi⟩ := List.getElem?_of_mem hs
    obtain ⟨gz, _, _, hgz, _, _⟩ := (unhide hst).nod.at hi
    exact (mD.hs _).2 ⟨(litS s.path, gz), by
     rw [List.mem_iff_getElem?]
     exact ⟨i, by rw [List.getElem?_zipWith, hi, hgz]⟩, rfl⟩
   have MD := hide mD
   obtain ⟨Y, eY⟩ : ∃ Y, Y = wr := ⟨_, rfl⟩
   subst eY
   have hYw := hbr.size
   clear mD hl0 hstr hrg
   go_wp2_with (first
    | (at_range; refine wpList_range_own _ rfl _ 100 rfl 9 _ keyT Tryz.underlying100 _ bn m _ rfl oD ?_; intro w3 hrg3 hg3 hs3)
    | go_in)
   go_frame
   have hst3 := hide ((unhide hst2).same (SameObj.grown hg3))
   have hb3 : Below w0.heap.size w w3 := below_of_grown hbr hg3 (by omega) (fun j hj => by cases hj)
   clear hc5 hg3 oD hst2 hbr
   go_loopw [5] (fun _ wr => ∃ (left : Lit → Bool) (cnt : Nat), wr.ranges Tryz.prog 9 ptrElem bn Y.heap.size m D left cnt ∧ Hid (StoreAt w0 wr b bs bn e g x 0 (ss.map sesF) (turnN left ns) SB NB HB UB) ∧ Below w0.heap.size w wr) (fun _ wr => wr.rangeLeft bn Y.heap.size)
   case atStart => exact ⟨_, _, hrg3, by rw [turnN_start (unhide hallN)]; exact hst3, hb3⟩
   case round =>
    obtain ⟨left, cnt, hrg, hstr, hbr⟩ := hrel
    go_wp2_with (first
     | (at_next; refine wpList_next_ptr _ rfl _ rfl 9 keyT (fun s : ByteArray => .string s) invT bn Y.heap.size m _ _ (unhide MD) _ _ rfl hrg ?_ ?_)
     | go_in)
    ·intro _ hl0
     have hst4 : Hid (StoreAt w0 wr b bs bn e g x 0 (ss.map sesF) (ns.map nodF) SB NB HB UB) := by
      have := unhide hstr
      rw [turnN_end hl0] at this
      exact this
     clear hstr
     go_wp2
     go_end0
     exact ⟨unhide hst4, hbr, ⟨_, rfl⟩⟩
    ·intro i0 pl g1 w4 cnt1 hkey hp hlp hrg1 hlt hg1 hs1' hen
     obtain ⟨j, z, g1', hj, hgj, ee⟩ := zip_mem hp
     simp only [Prod.mk.injEq] at ee
     obtain ⟨rfl, rfl⟩ := ee
     have hst4 := hide ((unhide hstr).same (SameObj.next hrg hg1))
     have hb4 : Below w0.heap.size w w4 := below_of_grown hbr hg1 (by have := hbr.size; omega) (fun j hj => by cases hj; omega)
     obtain ⟨gz, hh, ub, z1, z2, z3⟩ := (unhide hst4).nod.at (turnN_at hj hlp)
     rw [hgj] at z1
     cases z1
     obtain ⟨a1, a2, a3, ⟨V, a4, -⟩, -, ⟨D2, a5, -⟩⟩ := (unhide hst4).nod.blk j _ g1 hh ub (turnN_at hj hlp) hgj z2 z3
     have hc6 : w4.cell? ⟨g1, 6, none⟩ = some (.map (some ub)) := cells_at a4 6
     obtain ⟨v, w5, hrun, ho5, hg5, hs5⟩ := run_clear Tryz.underlying135 a5 0
     have hst5 : Hid (StoreAt w0 w5 b bs bn e g x 0 (ss.map sesF) (turnN (fun z' => left z' && !z'.sameKey (litS z.path)) ns) SB NB HB UB) := by
      have := (unhide hst4).clearW (turnN_at hj hlp) z3 ho5 (fun q hq => by
       by_cases hq' : q < w4.heap.size
       ·exact hg5.block q hq' (by simpa using hq)
       ·rw [Array.getElem?_eq_none (by omega), Array.getElem?_eq_none (by omega)])
      rw [turnN_step (unhide hby) (unhide hdn) hj] at this
      exact this
     have hb5 : Below w0.heap.size w w5 := below_of_grown hb4 hg5 (by have := hb4.size; omega) (fun j hj => by cases hj; exact a3)
     have hen' : (Instr.entry (.pointer (some ⟨Y.heap.size, 0, none⟩))).run Tryz.prog w4 = .ok (.tuple #[.string i0, .pointer (some ⟨g1, 0, none⟩)]) w4 := hen
     have hrg5 : w5.ranges Tryz.prog 9 ptrElem bn Y.heap.size m D (fun z' => left z' && !z'.sameKey (litS z.path)) cnt1 := by
      refine ranges_same hrg1 ?_ ?_
      ·obtain ⟨D9, o9, -⟩ := (unhide hst4).nod.own
       refine hg5.block _ o9.lt ?_
       have hd := (unhide hst4).nod.dis
       rw [List.nodup_cons] at hd
       simp only [ne_eq, Option.some.injEq]
       rintro rfl
       exact hd.1 (List.mem_append_right _ (List.mem_of_getElem? z3))
      ·obtain ⟨es, clock, since, seen, c0, -, -, -, -, hi, -⟩ := hrg1
       refine hg5.block _ (heap_lt hi) ?_
       simp only [ne_eq, Option.some.injEq]
       rintro e
       obtain ⟨es', cl', h', -⟩ := a5
       rw [← e, hi] at h'
       cases h'
     clear hg1 hp hkey hstr hst4 hbr hb4 a1 a2 a3 a4 a5 ho5 hg5 hs5
     go_wp2
     go_roundw
     case rel => exact ⟨_, _, hrg5, hst5, hb5⟩
     case measure => rw [hrg5.left_eq, hrg.left_eq]; exact hlt
  ·intro i0 pl g1 w2 cnt1 hkey hp hlp hrg1 hlt hg1 hs1' hen
   obtain ⟨j, z, g1', hj, hgj, ee⟩ := zip_mem hp
   simp only [Prod.mk.injEq] at ee
   obtain ⟨rfl, rfl⟩ := ee
   have hst2 := hide ((unhide hstr).same (SameObj.next hrg hg1))
   have hb2 : Below w0.heap.size w w2 := below_of_grown hbr hg1 (by have := hbr.size; omega) (fun j hj => by cases hj; omega)
   obtain ⟨a1, u, a2, a3⟩ := (unhide hst2).ses.blk j _ g1 (turnS_at hj hlp) hgj
   have hc1 : w2.cell? ⟨g1, 1, none⟩ = some (.int .i64 z.2.1) := cells_at a2 1
   have hc2 : w2.cell? ⟨g1, 2, none⟩ = some u := cells_at a2 2
   have hf : ∀ o, w2.frozen? ⟨g1, o, none⟩ = false := fun o => by simp [World.frozen?, a2]
   obtain ⟨ZZ, hZZ⟩ : ∃ Z, Z = (w2.setCell ⟨g1, 1, none⟩ (.int .i64 0)).setCell ⟨g1, 2, none⟩ (.slice none 0 0) := ⟨_, rfl⟩
   have hst5 : Hid (StoreAt w0 ZZ b bs bn e g x 0 (turnS sesF (fun z' => left z' && !z'.sameKey (.int .u64 z.1)) ss) ns SB NB HB UB) := by
    have := (unhide hst2).setSes (turnS_at hj hlp) hgj 0 (.slice none 0 0) [] (w' := ZZ) (by rw [hZZ]; simp [World.setCell, Array.getElem?_modify, a2]) ⟨none, 0, rfl, .inl rfl⟩ (fun q hq => by
     rw [hZZ, RowKit.Below.heap_setCell _ _ _ _ hq, RowKit.Below.heap_setCell _ _ _ _ hq])
    rw [show ((z.1, 0, []) : Ses) = sesF z from rfl, turnS_step (unhide hds) hj] at this
    exact this
   have hb5 : Below w0.heap.size w ZZ := by rw [hZZ]; exact (hb2.setCell a1 _).setCell a1 _
   have hen' : (Instr.entry (.pointer (some ⟨r1, 0, none⟩))).run Tryz.prog w2 = .ok (.tuple #[.int .u64 i0, .pointer (some ⟨g1, 0, none⟩)]) w2 := hen
   have hrg5 : ZZ.ranges Tryz.prog 23 ptrElem bs r1 n Ds (fun z' => left z' && !z'.sameKey (.int .u64 z.1)) cnt1 := by
    rw [hZZ]
    exact hrg1.of_walks ((KeepsWalks.setCell _ _ _).trans (KeepsWalks.setCell _ _ _))
   clear hg1 hp hkey hstr hst2 hbr hb2 a1 a2 a3
   go_wp2
   rw [← hZZ]
   go_roundw
   case rel => exact ⟨_, _, hrg5, hst5, hb5⟩
   case measure => rw [hrg5.left_eq, hrg.left_eq]; exact hlt
def sesX (d : Int) (s : Ses) : Ses := (s.1, max s.2.1 d, s.2.2)
set_option maxHeartbeats 1600000 in
theorem extend_any (w : World) (g1 : Nat) (t d : Int) (h1 : w.cell? ⟨g1, 1, none⟩ = some (.int .i64 t)) (hf : ∀ o, w.frozen? ⟨g1, o, none⟩ = false) :
  Calls Tryz.prog 125 #[.pointer (some ⟨g1, 0, none⟩), .int .i64 d] w fun r w' => w' = w.setCell ⟨g1, 1, none⟩ (.int .i64 (max t d)) ∧ ∃ v, r = .returned v := by
 go_enter Tryz.func125, Tryz.ntmps125
 go_wp2
 go_end0
 exact ⟨rfl, _, rfl⟩
set_option maxHeartbeats 3200000 in
theorem regrace_any {w0 : World} {b bs bn : Nat} {e g x t : Int} {ss : List Ses} {ns : List Nod} {SB NB HB UB : List Nat} (w : World) (k : Int) (hk : 0 ≤ k ∧ k ≤ 1000000) (hst : Hid (StoreAt w0 w b bs bn e g x t ss ns SB NB HB UB)) (hw0 : w0.heap.size ≤ w.heap.size)
  (hby : Hid (∀ nd ∈ ns, Byt nd.path)) (hds : Hid (∀ (i j : Nat) (s s' : Ses), ss[i]? = some s → ss[j]? = some s' → i < j → s.1 ≠ s'.1)) (hdn : Hid (∀ (i j : Nat) (s s' : Nod), ns[i]? = some s → ns[j]? = some s' → i < j → s.path ≠ s'.path))
  (m : Nat) (em : Hid (ns.length = m)) (n : Nat) (en : Hid (ss.length = n)) :
  Calls Tryz.prog 77 #[.pointer (some ⟨b, 0, none⟩), .int .i64 k] w fun r w' => StoreAt w0 w' b bs bn e g x k ((ss.map sesF).map (sesX (k + 15))) (ns.map nodF) SB NB HB UB ∧ Below w0.heap.size w w' ∧ (∃ v, r = .returned v) := by
 go_enter Tryz.func77, Tryz.ntmps77
 go_wp2_with fail
 refine (forget_any w hst hw0 hby hds hdn m em n en).mono ?_
 rintro r w2 ⟨hst2, hb2, v, rfl⟩
 have HST2 := hide hst2
 have hc3 : w2.cell? ⟨b, 3, none⟩ = some (.int .i64 0) := cells_at hst2.hd 3
 have hf3 : ∀ o, w2.frozen? ⟨b, o, none⟩ = false := fun o => by simp [World.frozen?, hst2.hd]
 have hstZ : Hid (StoreAt w0 (w2.setCell ⟨b, 3, none⟩ (.int .i64 k)) b bs bn e g x k (ss.map sesF) (ns.map nodF) SB NB HB UB) := hst2.setNow k
 obtain ⟨Ds, oS, mS⟩ := (unhide hstZ).ses.own
 have hc4 : (w2.setCell ⟨b, 3, none⟩ (.int .i64 k)).cell? ⟨b, 4, none⟩ = some (.map (some bs)) := cells_at (unhide hstZ).hd 4
 rw [List.length_map, unhide en] at oS
 have hbZ : Below w0.heap.size w (w2.setCell ⟨b, 3, none⟩ (.int .i64 k)) := hb2.setCell hst2.lo.1 _
 have hzZ := hbZ.size
 clear hst2 hb2
 go_wp2_with (first
  | (at_range; refine wpList_range_own _ rfl _ 99 rfl 23 _ keyU Tryz.underlying99 _ bs n _ rfl oS ?_; intro w1 hrg0 hg0 hs0)
  | go_in)
 go_frame
 have hst1 := hide ((unhide hstZ).same (SameObj.grown hg0))
 have hb1 : Below w0.heap.size w w1 := below_of_grown hbZ hg0 (by omega) (fun j hj => by cases hj)
 obtain ⟨r1, er1⟩ : ∃ r, r = (w2.setCell ⟨b, 3, none⟩ (.int .i64 k)).heap.size := ⟨_, rfl⟩
 rw [← er1] at hrg0 hzZ ⊢
 have hds2 : Hid (∀ (i j : Nat) (s s' : Ses), (ss.map sesF)[i]? = some s → (ss.map sesF)[j]? = some s' → i < j → s.1 ≠ s'.1) := fun i j s s' hi hj hij => by
  rw [List.getElem?_map] at hi hj
  obtain ⟨a, ha, rfl⟩ := Option.map_eq_some_iff.1 hi
  obtain ⟨a', ha', rfl⟩ := Option.map_eq_some_iff.1 hj
  exact unhide hds i j a a' ha ha' hij
 obtain ⟨sl, esl⟩ : ∃ sl, Hid (sl = ss.map sesF) := ⟨_, (by show _ = _; rfl)⟩
 rw [← unhide esl] at hst1 hds2 mS
 have hpost : Hid (∀ w', StoreAt w0 w' b bs bn e g x k (sl.map (sesX (k + 15))) (ns.map nodF) SB NB HB UB → StoreAt w0 w' b bs bn e g x k ((ss.map sesF).map (sesX (k + 15))) (ns.map nodF) SB NB HB UB) := fun w' h => by rw [← unhide esl]; exact h
 have hall : Hid (∀ s ∈ sl, Maps.has Ds (.int .u64 s.1) = true) := fun s hs => by
  obtain ⟨i, hi⟩ := List.getElem?_of_mem hs
  have hi' := (List.getElem?_eq_some_iff.1 hi).1
  obtain ⟨gz, hgz⟩ : ∃ gz, SB[i]? = some gz := ⟨_, List.getElem?_eq_getElem (by rw [(unhide hst1).ses.len]; exact hi')⟩
  exact (mS.hs _).2 ⟨(.int .u64 s.1, gz), by
   rw [List.mem_iff_getElem?]
   exact ⟨i, by rw [List.getElem?_zipWith, hi, hgz]⟩, rfl⟩
 have MS := hide mS
 have wa : IntKind.i64.wrap (k + 10) = k + 10 := IntWalk.i64_in _ (by omega)
 have wb : IntKind.i64.wrap (k + 10 + 5) = k + 15 := (IntWalk.i64_in _ (by omega)).trans (by omega)
 clear mS oS hc3 hf3 hc4 hstZ hbZ hg0 hs0 er1 HST2 esl
 go_loopw [5] (fun _ wr => ∃ (left : Lit → Bool) (cnt : Nat), wr.ranges Tryz.prog 23 ptrElem bs r1 n Ds left cnt ∧ Hid (StoreAt w0 wr b bs bn e g x k (turnS (sesX (k + 15)) left sl) (ns.map nodF) SB NB HB UB) ∧ Below w0.heap.size w wr) (fun _ wr => wr.rangeLeft bs r1)
 case atStart => exact ⟨_, _, hrg0, by rw [turnS_start (unhide hall)]; exact hst1, hb1⟩
 case round =>
  obtain ⟨left, cnt, hrg, hstr, hbr⟩ := hrel
  go_wp2_with (first
   | (at_next; refine wpList_next_ptr _ rfl _ rfl 23 keyU (fun i : Int => .int .u64 i) invU bs r1 n _ _ (unhide MS) _ _ rfl hrg ?_ ?_)
   | go_in)
  ·intro _ hl0
   have hst2 : Hid (StoreAt w0 wr b bs bn e g x k (sl.map (sesX (k + 15))) (ns.map nodF) SB NB HB UB) := by
    have := unhide hstr
    rw [turnS_end hl0] at this
    exact this
   clear hstr hrg
   go_wp2
   go_end0
   exact ⟨unhide hpost _ (unhide hst2), hbr, ⟨_, rfl⟩⟩
  ·intro i0 pl g1 w3 cnt1 hkey hp hlp hrg1 hlt hg1 hs1' hen
   obtain ⟨j, z, g1', hj, hgj, ee⟩ := zip_mem hp
   simp only [Prod.mk.injEq] at ee
   obtain ⟨rfl, rfl⟩ := ee
   have hst2 := hide ((unhide hstr).same (SameObj.next hrg hg1))
   have hb2 : Below w0.heap.size w w3 := below_of_grown hbr hg1 (by have := hbr.size; omega) (fun j hj => by cases hj; omega)
   obtain ⟨a1, u, a2, a3⟩ := (unhide hst2).ses.blk j _ g1 (turnS_at hj hlp) hgj
   have hc1 : w3.cell? ⟨g1, 1, none⟩ = some (.int .i64 z.2.1) := cells_at a2 1
   have hf : ∀ o, w3.frozen? ⟨g1, o, none⟩ = false := fun o => by simp [World.frozen?, a2]
   obtain ⟨ZZ, hZZ⟩ : ∃ Z, Z = w3.setCell ⟨g1, 1, none⟩ (.int .i64 (max z.2.1 (k + 15))) := ⟨_, rfl⟩
   have hst5 : Hid (StoreAt w0 ZZ b bs bn e g x k (turnS (sesX (k + 15)) (fun z' => left z' && !z'.sameKey (.int .u64 z.1)) sl) (ns.map nodF) SB NB HB UB) := by
    have := (unhide hst2).setSes (turnS_at hj hlp) hgj (max z.2.1 (k + 15)) u z.2.2 (w' := ZZ) (by rw [hZZ]; simp [World.setCell, Array.getElem?_modify, a2]) a3 (fun q hq => by
     rw [hZZ, RowKit.Below.heap_setCell _ _ _ _ hq])
    rw [show ((z.1, max z.2.1 (k + 15), z.2.2) : Ses) = sesX (k + 15) z from rfl, turnS_step (unhide hds2) hj] at this
    exact this
   have hb5 : Below w0.heap.size w ZZ := by rw [hZZ]; exact hb2.setCell a1 _
   have hen' : (Instr.entry (.pointer (some ⟨r1, 0, none⟩))).run Tryz.prog w3 = .ok (.tuple #[.int .u64 i0, .pointer (some ⟨g1, 0, none⟩)]) w3 := hen
   have hrg5 : ZZ.ranges Tryz.prog 23 ptrElem bs r1 n Ds (fun z' => left z' && !z'.sameKey (.int .u64 z.1)) cnt1 := by
    rw [hZZ]
    exact hrg1.of_walks (KeepsWalks.setCell _ _ _)
   clear hg1 hp hkey hstr hst2 hbr hb2 a1 a2 a3
   go_wp2_with fail
   refine (extend_any w3 g1 z.2.1 (k + 15) hc1 hf).mono ?_
   rintro r W9 ⟨rfl, v9, rfl⟩
   go_wp2
   rw [← hZZ]
   go_roundw
   case rel => exact ⟨_, _, hrg5, hst5, hb5⟩
   case measure => rw [hrg5.left_eq, hrg.left_eq]; exact hlt
def sesG (k : Int) (s : Ses) : Ses := (s.1, k + 15, [])
theorem sesG_is {k : Int} (hk : 0 ≤ k) (ss : List Ses) : (ss.map sesF).map (sesX (k + 15)) = ss.map (sesG k) := by
 rw [List.map_map]
 refine List.map_congr_left fun s _ => ?_
 simp only [Function.comp, sesF, sesX, sesG]
 rw [show max 0 (k + 15) = k + 15 by omega]
theorem Fine.regr {ss : List Ses} {ns : List Nod} (h : Fine ss ns) (k : Int) : Fine (ss.map (sesG k)) (ns.map nodF) := by
 refine ⟨?_, ?_, fun s hs => ?_, fun nd hnd => ?_, fun i j s s' hi hj hij => ?_, fun i j s s' hi hj hij => ?_⟩
 ·rw [List.pairwise_map]
  exact h.s1
 ·rw [List.map_map]
  exact h.n1
 ·obtain ⟨s0, hs0, rfl⟩ := List.mem_map.1 hs
  exact ⟨(h.s2 s0 hs0).1, by simp [sesG], fun e he => by simp [sesG] at he⟩
 ·obtain ⟨n0, hn0, rfl⟩ := List.mem_map.1 hnd
  obtain ⟨a, b, c, d, -, f, -⟩ := h.n2 n0 hn0
  exact ⟨a, b, c, d, by simp [nodF], f, by simp [nodF]⟩
 ·rw [List.getElem?_map] at hi hj
  obtain ⟨a, ha, rfl⟩ := Option.map_eq_some_iff.1 hi
  obtain ⟨a', ha', rfl⟩ := Option.map_eq_some_iff.1 hj
  exact h.s3 i j a a' ha ha' hij
 ·rw [List.getElem?_map] at hi hj
  obtain ⟨a, ha, rfl⟩ := Option.map_eq_some_iff.1 hi
  obtain ⟨a', ha', rfl⟩ := Option.map_eq_some_iff.1 hj
  exact h.n3 i j a a' ha ha' hij
def regD (e g x t k : Int) (ss : List Ses) (ns : List Nod) : StD := if stOK e g x t ss ns = true ∧ 0 ≤ k ∧ k ≤ 1000000 then ⟨e, g, x, k, ss.map (sesG k), ns.map nodF⟩ else stD0
def regC (e g x t k : Int) (ss : List Ses) (ns : List Nod) : Int := if stOK e g x t ss ns = true ∧ 0 ≤ k ∧ k ≤ 1000000 then 0 else 1
set_option maxHeartbeats 3200000 in
theorem implReg (e g x t k : Int) (p q : Option Addr) (c n d m : Nat) (ss : List Ses) (ns : List Nod) (en : Hid (ss.length = n)) (em : Hid (ns.length = m)) (w : World) (h : RdSc w (.slice p n c) ss) (hN : RdN w (.slice q m d) ns) (hn : n ≤ 1048576) (hm : m ≤ 1048576)
  (hbs : Hid (∀ s ∈ ss, s.2.2.length ≤ 1048576 ∧ ∀ e ∈ s.2.2, Byt e.2 ∧ e.2.length ≤ 1048576)) (hby : Hid (∀ nd ∈ ns, Byt nd.path ∧ nd.path.length ≤ 1048576 ∧ nd.value.length ≤ 1048576 ∧ nd.holders.length ≤ 1048576 ∧ nd.watchers.length ≤ 1048576))
  (hnu : Hid (∀ nd ∈ ns, (∀ i ∈ nd.holders, 0 ≤ i ∧ i < 18446744073709551616) ∧ ∀ i ∈ nd.watchers, 0 ≤ i ∧ i < 18446744073709551616))
  (hou : Hid (∀ nd ∈ ns, 0 ≤ nd.owner ∧ nd.owner < 18446744073709551616)) (hML : ML w) (hk : -9223372036854775808 ≤ k ∧ k < 9223372036854775808) :
  Calls Tryz.prog 30 #[stV e g x t (.slice p n c) (.slice q m d), .int .i64 k] w fun r w' => StRes w.heap.size r w' (regD e g x t k ss ns) (regC e g x t k ss ns) ∧ Below w.heap.size w w' := by
 have HR := hide fun (w' : World) (hb : Below w.heap.size w w') => And.intro (h.below hb) (And.intro (hN.below hb) (hML.below hb))
 clear h hN hML
 obtain ⟨B, eB⟩ : ∃ B, Hid (stOK e g x t ss ns = B) := ⟨_, (by show _ = _; rfl)⟩
 go_enter Tryz.func30, Tryz.ntmps30
 go_wp2_with fail
 obtain ⟨W, hW⟩ : ∃ W, W = (w.alloc (.cells #[.int .u64 e, .int .u64 g, .int .u64 x, .int .i64 t, .slice p n c, .slice q m d] 27)) := ⟨_, rfl⟩
 have bW : Below w.heap.size w W := by rw [hW]; exact (Below.refl _ _).alloc (Nat.le_refl _) _
 have hc6 : St6 W w.heap.size e g x t (.slice p n c) (.slice q m d) := by rw [hW]; simp [St6]
 obtain ⟨W2, hW2⟩ : ∃ W2, W2 = (W.alloc (.cells #[.int .u64 0, .int .u64 0, .int .u64 0, .int .i64 0, .slice none 0 0, .slice none 0 0] 27)) := ⟨_, rfl⟩
 have zW : W.heap.size = w.heap.size + 1 := by rw [hW]; simp
 have bW2 : Below W.heap.size W W2 := by rw [hW2]; exact (Below.refl _ _).alloc (Nat.le_refl _) _
 have hR3 : CellsAre W2 (w.heap.size + 1) [.int .u64 0, .int .u64 0, .int .u64 0, .int .i64 0, .slice none 0 0, .slice none 0 0] := by
  rw [hW2, show w.heap.size + 1 = W.heap.size by omega]; exact CellsAre.alloc W #[.int .u64 0, .int .u64 0, .int .u64 0, .int .i64 0, .slice none 0 0, .slice none 0 0] _
 have zW2 : W2.heap.size = w.heap.size + 2 := by rw [hW2]; simp; omega
 rw [← hW, ← hW2]
 have b2 := Below.step bW bW2
 have C2 := hide (hc6.below bW2)
 have R2 := hide hR3
 clear hW hW2 bW hc6 hR3 bW2 zW
 refine (implVS e g x t p q c n d m ss ns en em _ (unhide HR _ b2).1 (unhide HR _ b2).2.1 hn hm hbs hby hnu hou (unhide HR _ b2).2.2 B eB).mono ?_
 rintro r w3 ⟨rfl, hb3⟩
 have b3 := Below.step b2 hb3
 have C3 := hide ((unhide C2).below hb3)
 have R3 := hide ((unhide R2).below (by omega) hb3)
 have z3 : w.heap.size + 2 ≤ w3.heap.size := by have := hb3.size; omega
 clear hb3 b2 C2 R2 zW2
 obtain ⟨i0, i1, i2, i3, i4, i5⟩ := unhide C3
 have r0 := (unhide R3).1 0 _ rfl
 have r1 := (unhide R3).1 1 _ rfl
 have r2 := (unhide R3).1 2 _ rfl
 have r3 := (unhide R3).1 3 _ rfl
 have r4 := (unhide R3).1 4 _ rfl
 have r5 := (unhide R3).1 5 _ rfl
 have rf := (unhide R3).2
 cases B with
 | false =>
  have hD : regD e g x t k ss ns = stD0 := by unfold regD; rw [if_neg (by rw [unhide eB]; simp)]
  have hC : regC e g x t k ss ns = 1 := by unfold regC; rw [if_neg (by rw [unhide eB]; simp)]
  have HD := hide (And.intro hD hC)
  clear hD hC
  go_wp2
  obtain ⟨hD, hC⟩ := unhide HD
  refine bodyPost_ret (v := .tuple #[stV 0 0 0 0 (.slice none 0 0) (.slice none 0 0), .int .i64 1]) (by simp [results, Tryz.results30, go_sem, r0, r1, r2, r3, r4, r5]) rfl ⟨?_, ?_⟩
  ·rw [hD, hC]
   exact ⟨none, 0, none, 0, rfl, StOwn.zero _ _⟩
  ·exact (((((b3.setCell (by simp) _).setCell (by simp) _).setCell (by simp) _).setCell (by simp) _).setCell (by simp) _).setCell (by simp) _
 | true =>
  have hlim := ((stOK_iff e g x t ss ns).1 (unhide eB)).1
  have ht : 0 ≤ t ∧ t ≤ 1000000 := by simp only [limOK, decide_eq_true_eq] at hlim; omega
  by_cases hk0 : k < 0
  ·have hD : regD e g x t k ss ns = stD0 := by unfold regD; rw [if_neg (by omega)]
   have hC : regC e g x t k ss ns = 1 := by unfold regC; rw [if_neg (by omega)]
   have HD := hide (And.intro hD hC)
   clear hD hC hlim
   go_wp2
   obtain ⟨hD, hC⟩ := unhide HD
   refine bodyPost_ret (v := .tuple #[stV 0 0 0 0 (.slice none 0 0) (.slice none 0 0), .int .i64 1]) (by simp [results, Tryz.results30, go_sem, r0, r1, r2, r3, r4, r5]) rfl ⟨?_, ?_⟩
   ·rw [hD, hC]
    exact ⟨none, 0, none, 0, rfl, StOwn.zero _ _⟩
   ·exact (((((b3.setCell (by simp) _).setCell (by simp) _).setCell (by simp) _).setCell (by simp) _).setCell (by simp) _).setCell (by simp) _
  ·by_cases hk1 : 1000000 < k
   ·have hD : regD e g x t k ss ns = stD0 := by unfold regD; rw [if_neg (by omega)]
    have hC : regC e g x t k ss ns = 1 := by unfold regC; rw [if_neg (by omega)]
    have HD := hide (And.intro hD hC)
    clear hD hC hlim
    go_wp2
    obtain ⟨hD, hC⟩ := unhide HD
    refine bodyPost_ret (v := .tuple #[stV 0 0 0 0 (.slice none 0 0) (.slice none 0 0), .int .i64 1]) (by simp [results, Tryz.results30, go_sem, r0, r1, r2, r3, r4, r5]) rfl ⟨?_, ?_⟩
    ·rw [hD, hC]
     exact ⟨none, 0, none, 0, rfl, StOwn.zero _ _⟩
    ·exact (((((b3.setCell (by simp) _).setCell (by simp) _).setCell (by simp) _).setCell (by simp) _).setCell (by simp) _).setCell (by simp) _
   ·have hfine := fine_of (unhide eB) (unhide hbs) (unhide hby)
    have H1 : Hid (∀ s ∈ ss, 0 ≤ s.1 ∧ s.1 < 18446744073709551616) := fun s hs => (hfine.s2 s hs).1
    have HF := hide hfine
    clear hlim hfine
    go_wp2_with fail
    refine (storeOf_any e g x t p q c n d m ss ns en em _ (unhide HR _ b3).1 (unhide HR _ b3).2.1 hn hm H1 (unhide HF).s3 hby hnu (unhide HF).n3).mono ?_
    rintro r w4 ⟨b, bs, bn, SB, NB, HB, UB, rfl, hst, hb4⟩
    have b4 := Below.step b3 hb4
    have hlo := hst.lo
    have z4 := hb4.size
    have HST := hide hst
    have HB4 := hide hb4
    clear hst hb4 i0 i1 i2 i3 i4 i5 r0 r1 r2 r3 r4 r5 rf
    have hby1 : Hid (∀ nd ∈ ns, Byt nd.path) := fun nd hnd => (unhide hby nd hnd).1
    go_wp2_with fail
    refine (regrace_any _ k ⟨by omega, by omega⟩ HST z4 hby1 (unhide HF).s3 (unhide HF).n3 m em n en).mono ?_
    rintro r w5 ⟨hst5, hb5, v5, rfl⟩
    rw [sesG_is (by omega)] at hst5
    have z5 := hb5.size
    have b5 : Below w.heap.size w w5 := b4.trans (hb5.mono (by omega))
    have ST5 : Hid (Sto w5 b bs bn e g x k (ss.map (sesG k)) (ns.map nodF) SB NB) := sto_of hst5 ((unhide HB4).trans hb5) (by rw [List.length_map, unhide en]; exact hn) (by rw [List.length_map, unhide em]; exact hm)
    have R4 := hide ((unhide R3).below (by omega) ((unhide HB4).trans hb5))
    have HF5 := hide ((unhide HF).regr k)
    have L1 := hide (show (ss.map (sesG k)).length = n by rw [List.length_map, unhide en])
    have L2 := hide (show (ns.map nodF).length = m by rw [List.length_map, unhide em])
    obtain ⟨sl, esl⟩ : ∃ sl, Hid (sl = ss.map (sesG k)) := ⟨_, (by show _ = _; rfl)⟩
    obtain ⟨nl, enl⟩ : ∃ nl, Hid (nl = ns.map nodF) := ⟨_, (by show _ = _; rfl)⟩
    rw [← unhide esl, ← unhide enl] at ST5 HF5
    rw [← unhide esl] at L1
    rw [← unhide enl] at L2
    clear hst5 hb5 HST HB4
    go_wp2_with fail
    refine (state_any b bs bn e g x k sl nl SB NB _ (unhide ST5) (unhide HF5).s1 (unhide HF5).n1 (by rw [unhide L1]; exact hn) (by rw [unhide L2]; exact hm) (unhide HF5).s2 (unhide HF5).n2).mono ?_
    rintro r w6 ⟨ps, cs, pn, cn, A1, A2, rfl, f1, f2, f3, f4, f5, hb6⟩
    have b6 := Below.step b5 hb6
    have R5 := (unhide R4).below (by omega) hb6
    have r0 := R5.1 0 _ rfl
    have r1 := R5.1 1 _ rfl
    have r2 := R5.1 2 _ rfl
    have r3 := R5.1 3 _ rfl
    have r4 := R5.1 4 _ rfl
    have r5 := R5.1 5 _ rfl
    have rf := R5.2
    have FF := hide (show StOwn w5.heap.size w6 ps sl.length cs pn nl.length cn sl nl from ⟨A1, A2, f1, f2, f3, f4, f5⟩)
    clear f1 f2 f3 f4 f5 hb6 R5
    go_wp2
    obtain ⟨Z, hZ⟩ : ∃ Z, Z = ((((((w6.setCell ⟨w.heap.size + 1, 0, none⟩ (.int .u64 e)).setCell ⟨w.heap.size + 1, 1, none⟩ (.int .u64 g)).setCell ⟨w.heap.size + 1, 2, none⟩ (.int .u64 x)).setCell ⟨w.heap.size + 1, 3, none⟩ (.int .i64 k)).setCell ⟨w.heap.size + 1, 4, none⟩ (.slice ps sl.length cs)).setCell ⟨w.heap.size + 1, 5, none⟩ (.slice pn nl.length cn)) := ⟨_, rfl⟩
    have hkZ : ∀ z, z ≠ w.heap.size + 1 → Z.heap[z]? = w6.heap[z]? := fun z hz => by
     rw [hZ]
     iterate 6 rw [RowKit.Below.heap_setCell _ _ _ _ hz]
    refine bodyPost_ret (v := .tuple #[stV e g x k (.slice ps sl.length cs) (.slice pn nl.length cn), .int .i64 0]) (by simp [results, Tryz.results30, go_sem, r0, r1, r2, r3, r4, r5]) rfl ⟨?_, ?_⟩
    ·rw [← hZ]
     have hD : regD e g x t k ss ns = ⟨e, g, x, k, sl, nl⟩ := by unfold regD; rw [if_pos ⟨unhide eB, by omega, by omega⟩, unhide esl, unhide enl]
     have hC : regC e g x t k ss ns = 0 := by unfold regC; rw [if_pos ⟨unhide eB, by omega, by omega⟩]
     rw [hD, hC]
     exact ⟨ps, cs, pn, cn, rfl, ((unhide FF).keep (fun z hz _ => hkZ z (by omega))).mono (by omega)⟩
    ·exact (((((b6.setCell (by simp) _).setCell (by simp) _).setCell (by simp) _).setCell (by simp) _).setCell (by simp) _).setCell (by simp) _
end Go.Proofs.YtpbppdeleijhkaaGreatDoor
