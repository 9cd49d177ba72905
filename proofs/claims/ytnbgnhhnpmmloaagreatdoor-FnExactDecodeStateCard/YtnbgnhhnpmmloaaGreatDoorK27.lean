import Derived.Test.YtnbgnhhnpmmloaaGreatDoorProg
import Derived.Test.YtnbgnhhnpmmloaaGreatDoorK0
import Derived.WalkKit
import Derived.WalkSpells
import Derived.WalkLawsBesides
import Derived.BigQuiet
import Derived.Below
import Derived.Deep.RegionHeld3
import Derived.Deep.DeepCutAuto
import Derived.Sort.AssemblyPlain
import Derived.Sort.Row
namespace Go.Proofs.YtnbgnhhnpmmloaaGreatDoor.T
open Go.Sort Go.RowKit
set_option linter.unusedVariables false
set_option linter.unusedSimpArgs false
set_option maxRecDepth 100000
theorem hide {p : Prop} (h : p) : Hid p := h
theorem uh {p : Prop} (h : Hid p) : p := h
abbrev HT (w : World) (blk off : Nat) (d : Array (List UInt8)) : Prop := Holds (fun x : List UInt8 => Value.string ⟨x.toArray⟩) w blk off d
theorem grown_r (w : World) (row : Option Nat) : w.grownBy w row := ⟨rfl, rfl, rfl, Nat.le_refl _, fun _ _ _ => rfl⟩
theorem grown_t {w w1 w2 : World} {row : Option Nat} (h : w.grownBy w1 row) (k : w1.grownBy w2 row) : w.grownBy w2 row :=
 ⟨k.os.trans h.os, k.tape.trans h.tape, k.output.trans h.output, Nat.le_trans h.size k.size, fun i hi hne => (k.block i (Nat.lt_of_lt_of_le hi h.size) hne).trans (h.block i hi hne)⟩
theorem grown_set (w : World) (b o : Nat) (v : Value) : w.grownBy (w.setCell ⟨b, o, none⟩ v) (some b) :=
 ⟨rfl, rfl, rfl, by simp, fun i _ hne => RowKit.Below.heap_setCell _ _ _ _ (fun e => hne (by rw [e]))⟩
theorem grown_drew {w w' : World} {row : Option Nat} (h : w.grownBy w' row) : w.grownBy w'.drew row := ⟨h.os, h.tape, h.output, h.size, h.block⟩
theorem HT.swap {w : World} {blk off : Nat} {d : Array (List UInt8)} (h : HT w blk off d) {i j : Nat} (hi : i < d.size) (hj : j < d.size) {x y : List UInt8} (hx : x = d[j]!) (hy : y = d[i]!) :
  HT ((w.setCell ⟨blk, off + i, none⟩ (.string ⟨x.toArray⟩)).setCell ⟨blk, off + j, none⟩ (.string ⟨y.toArray⟩)) blk off (swp d i j) := by
 subst hx hy
 have e := putRow_self (fun x : List UInt8 => Value.string ⟨x.toArray⟩) w blk off d h
 have e2 := putRow_swp (fun x : List UInt8 => Value.string ⟨x.toArray⟩) w blk off d i j hi hj
 rw [e] at e2
 show Holds _ _ _ _ _
 rw [e2]
 exact holds_putRow _ w blk off d _ h (by rw [size_swp])
theorem set_some {w : World} {p q : Addr} {t u : Value} (h : w.cell? p = some t) : ∃ s, (w.setCell q u).cell? p = some s := by
 by_cases e : q = p
 ·subst e; exact ⟨u, World.cell?_setCell_same _ _ _ h⟩
 ·exact ⟨t, (World.cell?_setCell_other _ _ _ _ e).trans h⟩
theorem HT.drew {w : World} {blk off : Nat} {d : Array (List UInt8)} (h : HT w blk off d) : HT w.drew blk off d := h
theorem HT.kept {w w' : World} {blk off : Nat} {d : Array (List UInt8)} (h : HT w blk off d) (hb : w'.heap[blk]? = w.heap[blk]?) : HT w' blk off d := fun j hj =>
 ⟨(World.cell?_of_block (a := ⟨blk, off + j, none⟩) hb).trans (h j hj).1, (World.frozen?_of_block (a := ⟨blk, off + j, none⟩) hb).trans (h j hj).2⟩
theorem bytesLess_is : ∀ x y : List UInt8, Op.bytesLess x y = decide (x < y)
 | [], [] => by simp [Op.bytesLess]
 | [], b :: y => by simp [Op.bytesLess]
 | a :: x, [] => by simp [Op.bytesLess]
 | a :: x, b :: y => by
  have ih := bytesLess_is x y
  simp only [Op.bytesLess, ih, List.cons_lt_cons_iff]
  by_cases h1 : a < b
  ·simp [h1]
  ·by_cases h2 : a = b
   ·subst h2; simp
   ·simp [h1, h2]
theorem nan_any (x : List UInt8) (w : World) : Calls Tryz.prog 241 #[.string ⟨x.toArray⟩] w fun e w' => e = .returned (.bool false) ∧ w' = w := by
 go_enter Tryz.func241, Tryz.ntmps241
 go_wp2
 go_ret
 exact ⟨by simp, rfl⟩
set_option maxHeartbeats 800000 in
theorem less_any (x y : List UInt8) (w : World) : Calls Tryz.prog 223 #[.string ⟨x.toArray⟩, .string ⟨y.toArray⟩] w fun e w' => e = .returned (.bool (ltStr x y)) ∧ w' = w := by
 go_enter Tryz.func223, Tryz.ntmps223
 go_wp2_with fail
 refine (nan_any x w).mono ?_
 rintro e w' ⟨rfl, rfl⟩
 go_wp2
 go_ret
 refine ⟨?_, rfl⟩
 show Ending.returned (.bool (Op.bytesLess x y)) = _
 rw [bytesLess_is]
 rfl
theorem callLess (vs : Array Value) (w : World) : (callFunc 223 vs).run Tryz.prog w = .ok (.enter 223 vs) w := by kernel_rfl
theorem step_call2g {P : Program} {w : World} {ops : Array Oper} {o : Oper} {a : Act} {K : Act → World → Prop} {Q : Exit → Act → World → Prop} {E : Prop} {R : Ending → World → Prop} (hw : Region.wanted o (yielded ops a.tmps) = true) (f : FuncId) (x1 x2 : Operand) (tys : Array TypeId)
  (ho : o.op = .call { callee := .value (.func f), args := #[x1, x2], argTypes := tys }) (v1 v2 : Value) (h1 : a.eval x1 = v1) (h2 : a.eval x2 = v2) (hcf : ∀ vs, (callFunc f vs).run P w = .ok (.enter f vs) w) (hc : Calls P f #[v1, v2] w R) (hR : ∀ e w', R e w' → ∃ v, e = .returned v ∧ K (a.put o.dst v) w') :
  if Region.wanted o (yielded ops a.tmps) = true then Oper.wp P o a w K Q else E := by
 rw [if_pos hw]
 have hrun : (execOp a.eval o).run P w = .ok (.enter f #[v1, v2]) w := by
  subst h1 h2
  unfold execOp
  simp [go_sem, ho, resolve, invoke, hcf]
 show o.upon P a K Q _
 rw [hrun, Oper.upon_enter]
 refine hc.mono ?_
 intro e w' h
 obtain ⟨v, rfl, hk⟩ := hR e w' h
 exact hk
set_option maxHeartbeats 1600000 in
theorem rev_any (blk off cap N a b : Nat) (d : Array (List UInt8)) (hN : Hid (d.size = N)) (w : World) (h : HT w blk off d) (hab : a ≤ b) (hb : b ≤ N) (hsz : N ≤ 1048576) :
  Calls Tryz.prog 221 #[.slice (some ⟨blk, off, none⟩) N cap, .int .i64 a, .int .i64 b] w fun e w' => e = .returned (.tuple #[]) ∧ HT w' blk off (reverseRange d a b) ∧ w.grownBy w' (some blk) := by
 obtain ⟨D, eD⟩ : ∃ D, reverseRange d a b = D := ⟨_, rfl⟩
 rw [eD]
 have ED : Hid (reverseLoop a (b - 1) d = D) := eD
 clear eD
 have H0 := hide h
 clear h
 go_enter Tryz.func221, Tryz.ntmps221
 go_wp2_with fail
 go_loopw [6, 7] (fun s6 s7 wr => ∃ (i jn : Nat) (jz : Int) (dk : Array (List UInt8)), s6 = .int .i64 i ∧ s7 = .int .i64 jz ∧ jz ≤ 1048576 ∧ -1 ≤ jz ∧ i ≤ 1048577 ∧ Hid ((i : Int) < jz → jz = jn ∧ jn < N) ∧ Hid (¬ (i : Int) < jz → ¬ i < jn) ∧ Hid (dk.size = N) ∧ Hid (HT wr blk off dk) ∧ Hid (reverseLoop i jn dk = D) ∧ Hid (w.grownBy wr (some blk))) (fun s6 s7 _ => (intOf s7 - intOf s6).toNat)
 case atStart => exact ⟨a, b - 1, (b : Int) - 1, d, rfl, by first | rfl | go_num, by omega, by omega, by omega, fun h => ⟨by omega, by omega⟩, (fun h => by omega), hN, H0, ED, grown_r _ _⟩
 case round =>
  obtain ⟨i, jn, jz, dk, rfl, rfl, q1, q2, q3, h1, h2, hds, hHk, heq, hg⟩ := hrel
  by_cases hlt : (i : Int) < jz
  ·obtain ⟨ej, hjn⟩ := uh h1 hlt
   subst ej
   have hij : i < jn := by omega
   have hds' := uh hds
   obtain ⟨ci, fi⟩ := uh hHk i (by omega)
   obtain ⟨cj, fj⟩ := uh hHk jn (by omega)
   obtain ⟨y, ey⟩ : ∃ y, dk[i]! = y := ⟨_, rfl⟩
   obtain ⟨z, ez⟩ : ∃ z, dk[jn]! = z := ⟨_, rfl⟩
   have hsw := hide ((uh hHk).swap (i := i) (j := jn) (by omega) (by omega) ez.symm ey.symm)
   rw [ey] at ci
   rw [ez] at cj
   have hq := uh heq
   rw [reverseLoop, if_pos hij] at hq
   have HQ := hide hq
   have HS2 : Hid ((swp dk i jn).size = N) := by show _ = _; rw [size_swp]; exact hds'
   have HG := hide (grown_t (grown_t (uh hg) (grown_set wr blk (off + i) (.string ⟨z.toArray⟩))) (grown_set _ blk (off + jn) (.string ⟨y.toArray⟩)))
   have i1 : (jn : Int) < (N : Int) := by omega
   have i2 : (i : Int) < (N : Int) := by omega
   have i3 : (0 : Int) ≤ (jn : Int) := by omega
   clear h1 h2 hHk heq hg ey ez hq hds'
   go_wp2_with fail
   go_region
   go_wp2
   go_roundw
   case rel => exact ⟨i + 1, jn - 1, (jn : Int) - 1, swp dk i jn, by go_num, by first | rfl | go_num, by omega, by omega, by omega, fun h => ⟨by omega, by omega⟩, (fun h => by omega), HS2, (uh hsw).drew, HQ, grown_drew (uh HG)⟩
   case measure => simp [intOf]; omega
  ·have hnot := uh h2 hlt
   have hq := uh heq
   rw [reverseLoop, if_neg hnot] at hq
   subst hq
   go_wp2
   go_end0
   exact ⟨rfl, uh hHk, uh hg⟩
theorem insInner_size (lt : List UInt8 → List UInt8 → Bool) (a : Nat) : ∀ (j : Nat) (d : Array (List UInt8)), (insInner lt a j d).size = d.size
 | 0, d => rfl
 | j + 1, d => by
  rw [insInner]
  split
  ·rw [insInner_size lt a j, size_swp]
  ·rfl
theorem insInner_stop {a j : Nat} {d : Array (List UInt8)} (h : ¬ a < j ∨ ltStr d[j]! d[j - 1]! = false) : insInner ltStr a j d = d := by
 cases j with
 | zero => rfl
 | succ j =>
  rw [insInner, if_neg]
  rcases h with h | h
  ·simp; omega
  ·simp only [Nat.add_sub_cancel] at h
   simp [h]
theorem insInner_go {a j : Nat} {d : Array (List UInt8)} (h : a < j) (hl : ltStr d[j]! d[j - 1]! = true) : insInner ltStr a j d = insInner ltStr a (j - 1) (swp d j (j - 1)) := by
 cases j with
 | zero => omega
 | succ j =>
  simp only [Nat.add_sub_cancel] at hl ⊢
  rw [insInner, if_pos (by simp [hl]; omega)]
set_option maxHeartbeats 3200000 in
theorem ins_any (blk off cap N a b : Nat) (d : Array (List UInt8)) (hN : Hid (d.size = N)) (w : World) (h : HT w blk off d) (hab : a ≤ b) (hb : b ≤ N) (hsz : N ≤ 1048576) :
  Calls Tryz.prog 217 #[.slice (some ⟨blk, off, none⟩) N cap, .int .i64 a, .int .i64 b] w fun e w' => e = .returned (.tuple #[]) ∧ HT w' blk off (insertionSort ltStr d a b) ∧ w.grownBy w' (some blk) := by
 obtain ⟨D, eD⟩ : ∃ D, insertionSort ltStr d a b = D := ⟨_, rfl⟩
 rw [eD]
 have ED : Hid (insOuter ltStr a b (a + 1) d = D) := eD
 clear eD
 have H0 := hide h
 clear h
 go_enter Tryz.func217, Tryz.ntmps217
 go_wp2_with fail
 go_loopw [6] (fun s6 wr => ∃ (i : Nat) (dk : Array (List UInt8)), s6 = .int .i64 i ∧ i ≤ 1048577 ∧ a < i ∧ Hid (dk.size = N) ∧ Hid (HT wr blk off dk) ∧ Hid (insOuter ltStr a b i dk = D) ∧ Hid (w.grownBy wr (some blk))) (fun s6 _ => b - (intOf s6).toNat)
 case atStart => exact ⟨a + 1, d, by first | rfl | go_num, by omega, by omega, hN, H0, ED, grown_r _ _⟩
 case round =>
  obtain ⟨i, dk, rfl, q1, q2, hds, hHk, heq, hg⟩ := hrel
  by_cases hlt : i < b
  ·have hlt' : (i : Int) < (b : Int) := by omega
   have hq := uh heq
   rw [insOuter, if_pos hlt] at hq
   obtain ⟨E, eE⟩ : ∃ E, insInner ltStr a i dk = E := ⟨_, rfl⟩
   rw [eE] at hq
   have HQ := hide hq
   have EE := hide eE
   have hEs : Hid (E.size = N) := by show _ = _; rw [← eE, insInner_size]; exact uh hds
   clear hq eE heq
   go_wp2_with fail
   obtain ⟨Y, eY⟩ : ∃ Y, Y = wr := ⟨_, rfl⟩
   subst eY
   have HG0 := hg
   clear hg
   go_loopw [7] (fun s7 wr => ∃ (j : Nat) (dj : Array (List UInt8)), s7 = .int .i64 j ∧ j ≤ i ∧ a ≤ j ∧ Hid (dj.size = N) ∧ Hid (HT wr blk off dj) ∧ Hid (insInner ltStr a j dj = E) ∧ Hid (w.grownBy wr (some blk))) (fun s7 _ => (intOf s7).toNat)
   case atStart => exact ⟨i, dk, rfl, Nat.le_refl _, by omega, hds, hHk, EE, HG0⟩
   case round =>
    obtain ⟨j, dj, rfl, q3, q4, hdj, hHj, hej, hg⟩ := hrel
    by_cases hja : a < j
    ·have hja' : (a : Int) < (j : Int) := by omega
     obtain ⟨m, em⟩ : ∃ m : Nat, (j : Int) - 1 = (m : Int) := ⟨j - 1, by omega⟩
     have em0 : j - 1 = m := by omega
     have hdj' := uh hdj
     obtain ⟨cj, fj⟩ := uh hHj j (by omega)
     obtain ⟨cm, fm⟩ := uh hHj m (by omega)
     obtain ⟨y, ey⟩ : ∃ y, dj[j]! = y := ⟨_, rfl⟩
     obtain ⟨z, ez⟩ : ∃ z, dj[m]! = z := ⟨_, rfl⟩
     have hsw := hide ((uh hHj).swap (i := j) (j := m) (by omega) (by omega) ez.symm ey.symm)
     rw [ey] at cj
     rw [ez] at cm
     have i1 : (j : Int) < (N : Int) := by omega
     have i2 : (m : Int) < (N : Int) := by omega
     have i3 : (0 : Int) ≤ (m : Int) := by omega
     have wm : IntKind.i64.wrap (m : Int) = (m : Int) := IntWalk.i64_in _ (by omega)
     obtain ⟨B, eB⟩ : ∃ B, ltStr y z = B := ⟨_, rfl⟩
     have EB := hide eB
     have HSTOP : Hid (B = false → dj = E) := fun hB => by
      rw [← uh hej, insInner_stop (.inr (by rw [em0, ey, ez, eB, hB]))]
     have HGO : Hid (B = true → insInner ltStr a m (swp dj j m) = E) := fun hB => by
      rw [← uh hej, insInner_go hja (by rw [em0, ey, ez, eB, hB]), em0]
     have HS2 : Hid ((swp dj j m).size = N) := by show _ = _; rw [size_swp]; exact hdj'
     have HG := hide (grown_t (grown_t (uh hg) (grown_set wr blk (off + j) (.string ⟨z.toArray⟩))) (grown_set _ blk (off + m) (.string ⟨y.toArray⟩)))
     have K0 := hide (And.intro cj cm)
     have FF := hide (And.intro fj fm)
     clear ey ez eB hdj' cj cm fj fm em0
     go_wp2_with fail
     go_cut [30] (fun rv wc => rv = .bool B ∧ wc = wr.drew)
     case first =>
      refine wp_region_noPanic ?_
      refine wp_region_held_drew (S := fun w' => w'.cell? ⟨blk, off + j, none⟩ = some (.string ⟨y.toArray⟩) ∧ w'.cell? ⟨blk, off + m, none⟩ = some (.string ⟨z.toArray⟩)) (by kernel_rfl) (by exact uh K0) (fun hS => ?_)
      refine tk 0 hS (h := ?_); simp only [Act.put, xa, xb, xc]
      refine tk 1 hS (h := ?_); simp only [Act.put, xa, xb, xc]
      refine tk 2 hS (h := ?_); simp only [Act.put, xa, xb, xc]
      refine tk 3 hS (h := ?_); simp only [Act.put, xa, xb, xc]
      refine tk 4 hS (h := ?_); simp only [Act.put, xa, xb, xc]
      refine tk 5 hS (h := ?_); simp only [Act.put, xa, xb, xc]
      refine tk 6 hS (h := ?_); simp only [Act.put, xa, xb, xc]
      refine tk 7 hS (h := ?_); simp only [Act.put, xa, xb, xc]
      refine tk 8 hS (h := ?_); simp only [Act.put, xa, xb, xc]
      refine tk 9 hS (h := ?_); simp only [Act.put, xa, xb, xc]
      refine tk 10 hS (h := ?_); simp only [Act.put, xa, xb, xc]
      refine tk 11 hS (h := ?_); simp only [Act.put, xa, xb, xc]
      refine tk 12 hS (h := ?_); simp only [Act.put, xa, xb, xc]
      refine ry [13] ?_
      refine cn (fun KK hK => ?_) ?_
      ·refine step_call2g (by rfl) 223 _ _ _ (by rfl) (.string ⟨y.toArray⟩) (.string ⟨z.toArray⟩) (by rfl) (by rfl) (fun _ => callLess _ _) (less_any y z _) ?_
       rintro r w2 ⟨rfl, rfl⟩
       refine ⟨_, rfl, ?_⟩
       rw [uh EB]
       refine hK.out _ _ (by exact uh K0) (fun hS => ?_)
       clear hK KK
       (try simp only [Act.put, xa, xb, xc])
       refine tk 14 hS (h := ?_); simp only [Act.put, xa, xb, xc]
       refine wpAnyH_done (by kernel_rfl) ?_ _
       refine NoPanic.normal ?_
       clear hS
       go_wp2_with fail
       go_meet
       exact ⟨rfl, rfl⟩
      exact AllReadyH.nil
     obtain ⟨rfl, rfl⟩ := hcut
     cases B with
     | false =>
      have e := uh HSTOP rfl
      subst e
      clear hsw HG HGO HSTOP FF K0
      go_wp2
      go_roundw
      case rel => exact ⟨i + 1, dj, by go_num, by omega, by omega, hdj, (uh hHj).drew, HQ, grown_drew (uh hg)⟩
      case measure => simp [intOf]; omega
     | true =>
      have e := hide (uh HGO rfl)
      obtain ⟨cj, cm⟩ := uh K0
      obtain ⟨fj, fm⟩ := uh FF
      clear HGO HSTOP FF K0
      go_wp2_with fail
      go_region
      go_wp2
      go_roundw
      case rel => exact ⟨m, swp dj j m, by first | rfl | go_num, by omega, by omega, HS2, (uh hsw), e, grown_drew (grown_drew (uh HG))⟩
      case measure => simp [intOf]; omega
    ·have hja' : ¬ (a : Int) < (j : Int) := by omega
     have e : dj = E := by rw [← uh hej, insInner_stop (.inl hja)]
     subst e
     go_wp2_with fail
     go_cut [30] (fun rv wc => rv = .bool false ∧ wc = wr.drew)
     case first =>
      refine wp_region_noPanic ?_
      refine wp_region_held_drew (S := fun w' => True) (by kernel_rfl) trivial (fun hS => ?_)
      refine tk 0 hS (h := ?_); simp only [Act.put, xa, xb, xc]
      refine tk 1 hS (h := ?_); simp only [Act.put, xa, xb, xc]
      refine tk 2 hS (h := ?_); simp only [Act.put, xa, xb, xc]
      refine tk 3 hS (h := ?_); simp only [Act.put, xa, xb, xc]
      refine sk 4 hS (h := ?_); simp only [Act.put, xa, xb, xc]
      refine sk 5 hS (h := ?_); simp only [Act.put, xa, xb, xc]
      refine sk 6 hS (h := ?_); simp only [Act.put, xa, xb, xc]
      refine sk 7 hS (h := ?_); simp only [Act.put, xa, xb, xc]
      refine sk 8 hS (h := ?_); simp only [Act.put, xa, xb, xc]
      refine sk 9 hS (h := ?_); simp only [Act.put, xa, xb, xc]
      refine sk 10 hS (h := ?_); simp only [Act.put, xa, xb, xc]
      refine sk 11 hS (h := ?_); simp only [Act.put, xa, xb, xc]
      refine sk 12 hS (h := ?_); simp only [Act.put, xa, xb, xc]
      refine sk 13 hS (h := ?_); simp only [Act.put, xa, xb, xc]
      refine tk 14 hS (h := ?_); simp only [Act.put, xa, xb, xc]
      refine wpAnyH_done (by kernel_rfl) ?_ _
      refine NoPanic.normal ?_
      clear hS
      go_wp2_with fail
      go_meet
      exact ⟨rfl, rfl⟩
     obtain ⟨rfl, rfl⟩ := hcut
     go_wp2
     go_roundw
     case rel => exact ⟨i + 1, dj, by go_num, by omega, by omega, hdj, (uh hHj).drew, HQ, grown_drew (uh hg)⟩
     case measure => simp [intOf]; omega
  ·have hlt' : ¬ (i : Int) < (b : Int) := by omega
   have hq := uh heq
   rw [insOuter, if_neg hlt] at hq
   subst hq
   go_wp2
   go_end0
   exact ⟨rfl, uh hHk, uh hg⟩
end Go.Proofs.YtnbgnhhnpmmloaaGreatDoor.T
