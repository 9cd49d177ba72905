import Derived.Test.YtnbgnhhnpmmloaaGreatDoorProg
import Derived.Test.YtnbgnhhnpmmloaaGreatDoorK0
import Derived.WalkKit
import Derived.WalkSpells
import Derived.WalkLawsBesides
import Derived.BigQuiet
import Derived.Below
import Derived.Deep.RegionHeld3
import Derived.Deep.DeepCutAuto
import Derived.Sort.AssemblyPlain
import Derived.Sort.Row
import Derived.Test.YtnbgnhhnpmmloaaGreatDoorK4
import Derived.Test.YtnbgnhhnpmmloaaGreatDoorK17
import Derived.Test.YtnbgnhhnpmmloaaGreatDoorVM5
namespace Go.Proofs.YtnbgnhhnpmmloaaGreatDoor.Q
open Go.Sort Go.RowKit
set_option linter.unusedVariables false
set_option linter.unusedSimpArgs false
set_option maxRecDepth 100000
theorem hide {p : Prop} (h : p) : Hid p := h
theorem uh {p : Prop} (h : Hid p) : p := h
abbrev HU (w : World) (blk off : Nat) (d : Array Int) : Prop := Holds (fun x : Int => Value.int .u64 x) w blk off d
theorem grown_r (w : World) (row : Option Nat) : w.grownBy w row := ⟨rfl, rfl, rfl, Nat.le_refl _, fun _ _ _ => rfl⟩
theorem grown_t {w w1 w2 : World} {row : Option Nat} (h : w.grownBy w1 row) (k : w1.grownBy w2 row) : w.grownBy w2 row :=
 ⟨k.os.trans h.os, k.tape.trans h.tape, k.output.trans h.output, Nat.le_trans h.size k.size, fun i hi hne => (k.block i (Nat.lt_of_lt_of_le hi h.size) hne).trans (h.block i hi hne)⟩
theorem grown_set (w : World) (b o : Nat) (v : Value) : w.grownBy (w.setCell ⟨b, o, none⟩ v) (some b) :=
 ⟨rfl, rfl, rfl, by simp, fun i _ hne => RowKit.Below.heap_setCell _ _ _ _ (fun e => hne (by rw [e]))⟩
theorem grown_drew {w w' : World} {row : Option Nat} (h : w.grownBy w' row) : w.grownBy w'.drew row := ⟨h.os, h.tape, h.output, h.size, h.block⟩
theorem HU.swap {w : World} {blk off : Nat} {d : Array Int} (h : HU w blk off d) {i j : Nat} (hi : i < d.size) (hj : j < d.size) {x y : Int} (hx : x = d[j]!) (hy : y = d[i]!) :
  HU ((w.setCell ⟨blk, off + i, none⟩ (.int .u64 x)).setCell ⟨blk, off + j, none⟩ (.int .u64 y)) blk off (swp d i j) := by
 subst hx hy
 have e := putRow_self (fun x : Int => Value.int .u64 x) w blk off d h
 have e2 := putRow_swp (fun x : Int => Value.int .u64 x) w blk off d i j hi hj
 rw [e] at e2
 show Holds _ _ _ _ _
 rw [e2]
 exact holds_putRow _ w blk off d _ h (by rw [size_swp])
theorem set_some {w : World} {p q : Addr} {t u : Value} (h : w.cell? p = some t) : ∃ s, (w.setCell q u).cell? p = some s := by
 by_cases e : q = p
 ·subst e; exact ⟨u, World.cell?_setCell_same _ _ _ h⟩
 ·exact ⟨t, (World.cell?_setCell_other _ _ _ _ e).trans h⟩
theorem HU.drew {w : World} {blk off : Nat} {d : Array Int} (h : HU w blk off d) : HU w.drew blk off d := h
theorem HU.kept {w w' : World} {blk off : Nat} {d : Array Int} (h : HU w blk off d) (hb : w'.heap[blk]? = w.heap[blk]?) : HU w' blk off d := fun j hj =>
 ⟨(World.cell?_of_block (a := ⟨blk, off + j, none⟩) hb).trans (h j hj).1, (World.frozen?_of_block (a := ⟨blk, off + j, none⟩) hb).trans (h j hj).2⟩
theorem nan_any (x : Int) (w : World) : Calls Tryz.prog 157 #[.int .u64 x] w fun e w' => e = .returned (.bool false) ∧ w' = w := by
 go_enter Tryz.func157, Tryz.ntmps157
 go_wp2
 go_ret
 exact ⟨by simp, rfl⟩
set_option maxHeartbeats 800000 in
theorem less_any (x y : Int) (w : World) : Calls Tryz.prog 212 #[.int .u64 x, .int .u64 y] w fun e w' => e = .returned (.bool (ltInt x y)) ∧ w' = w := by
 go_enter Tryz.func212, Tryz.ntmps212
 go_wp2_with fail
 refine (nan_any x w).mono ?_
 rintro e w' ⟨rfl, rfl⟩
 go_wp2
 go_ret
 exact ⟨rfl, rfl⟩
theorem callLess (vs : Array Value) (w : World) : (callFunc 212 vs).run Tryz.prog w = .ok (.enter 212 vs) w := by kernel_rfl
theorem step_call2g {P : Program} {w : World} {ops : Array Oper} {o : Oper} {a : Act} {K : Act → World → Prop} {Q : Exit → Act → World → Prop} {E : Prop} {R : Ending → World → Prop} (hw : Region.wanted o (yielded ops a.tmps) = true) (f : FuncId) (x1 x2 : Operand) (tys : Array TypeId)
  (ho : o.op = .call { callee := .value (.func f), args := #[x1, x2], argTypes := tys }) (v1 v2 : Value) (h1 : a.eval x1 = v1) (h2 : a.eval x2 = v2) (hcf : ∀ vs, (callFunc f vs).run P w = .ok (.enter f vs) w) (hc : Calls P f #[v1, v2] w R) (hR : ∀ e w', R e w' → ∃ v, e = .returned v ∧ K (a.put o.dst v) w') :
  if Region.wanted o (yielded ops a.tmps) = true then Oper.wp P o a w K Q else E := by
 rw [if_pos hw]
 have hrun : (execOp a.eval o).run P w = .ok (.enter f #[v1, v2]) w := by
  subst h1 h2
  unfold execOp
  simp [go_sem, ho, resolve, invoke, hcf]
 show o.upon P a K Q _
 rw [hrun, Oper.upon_enter]
 refine hc.mono ?_
 intro e w' h
 obtain ⟨v, rfl, hk⟩ := hR e w' h
 exact hk
set_option maxHeartbeats 1600000 in
theorem rev_any (blk off cap N a b : Nat) (d : Array Int) (hN : Hid (d.size = N)) (w : World) (h : HU w blk off d) (hab : a ≤ b) (hb : b ≤ N) (hsz : N ≤ 1048576) :
  Calls Tryz.prog 210 #[.slice (some ⟨blk, off, none⟩) N cap, .int .i64 a, .int .i64 b] w fun e w' => e = .returned (.tuple #[]) ∧ HU w' blk off (reverseRange d a b) ∧ w.grownBy w' (some blk) := by
 obtain ⟨D, eD⟩ : ∃ D, reverseRange d a b = D := ⟨_, rfl⟩
 rw [eD]
 have ED : Hid (reverseLoop a (b - 1) d = D) := eD
 clear eD
 have H0 := hide h
 clear h
 go_enter Tryz.func210, Tryz.ntmps210
 go_wp2_with fail
 go_loopw [6, 7] (fun s6 s7 wr => ∃ (i jn : Nat) (jz : Int) (dk : Array Int), s6 = .int .i64 i ∧ s7 = .int .i64 jz ∧ jz ≤ 1048576 ∧ -1 ≤ jz ∧ i ≤ 1048577 ∧ Hid ((i : Int) < jz → jz = jn ∧ jn < N) ∧ Hid (¬ (i : Int) < jz → ¬ i < jn) ∧ Hid (dk.size = N) ∧ Hid (HU wr blk off dk) ∧ Hid (reverseLoop i jn dk = D) ∧ Hid (w.grownBy wr (some blk))) (fun s6 s7 _ => (intOf s7 - intOf s6).toNat)
 case atStart => exact ⟨a, b - 1, (b : Int) - 1, d, rfl, by first | rfl | go_num, by omega, by omega, by omega, fun h => ⟨by omega, by omega⟩, (fun h => by omega), hN, H0, ED, grown_r _ _⟩
 case round =>
  obtain ⟨i, jn, jz, dk, rfl, rfl, q1, q2, q3, h1, h2, hds, hHk, heq, hg⟩ := hrel
  by_cases hlt : (i : Int) < jz
  ·obtain ⟨ej, hjn⟩ := uh h1 hlt
   subst ej
   have hij : i < jn := by omega
   have hds' := uh hds
   obtain ⟨ci, fi⟩ := uh hHk i (by omega)
   obtain ⟨cj, fj⟩ := uh hHk jn (by omega)
   obtain ⟨y, ey⟩ : ∃ y, dk[i]! = y := ⟨_, rfl⟩
   obtain ⟨z, ez⟩ : ∃ z, dk[jn]! = z := ⟨_, rfl⟩
   have hsw := hide ((uh hHk).swap (i := i) (j := jn) (by omega) (by omega) ez.symm ey.symm)
   rw [ey] at ci
   rw [ez] at cj
   have hq := uh heq
   rw [reverseLoop, if_pos hij] at hq
   have HQ := hide hq
   have HS2 : Hid ((swp dk i jn).size = N) := by show _ = _; rw [size_swp]; exact hds'
   have HG := hide (grown_t (grown_t (uh hg) (grown_set wr blk (off + i) (.int .u64 z))) (grown_set _ blk (off + jn) (.int .u64 y)))
   have i1 : (jn : Int) < (N : Int) := by omega
   have i2 : (i : Int) < (N : Int) := by omega
   have i3 : (0 : Int) ≤ (jn : Int) := by omega
   clear h1 h2 hHk heq hg ey ez hq hds'
   go_wp2_with fail
   go_region
   go_wp2
   go_roundw
   case rel => exact ⟨i + 1, jn - 1, (jn : Int) - 1, swp dk i jn, by go_num, by first | rfl | go_num, by omega, by omega, by omega, fun h => ⟨by omega, by omega⟩, (fun h => by omega), HS2, (uh hsw).drew, HQ, grown_drew (uh HG)⟩
   case measure => simp [intOf]; omega
  ·have hnot := uh h2 hlt
   have hq := uh heq
   rw [reverseLoop, if_neg hnot] at hq
   subst hq
   go_wp2
   go_end0
   exact ⟨rfl, uh hHk, uh hg⟩
theorem insInner_size (lt : Int → Int → Bool) (a : Nat) : ∀ (j : Nat) (d : Array Int), (insInner lt a j d).size = d.size
 | 0, d => rfl
 | j + 1, d => by
  rw [insInner]
  split
  ·rw [insInner_size lt a j, size_swp]
  ·rfl
theorem insInner_stop {a j : Nat} {d : Array Int} (h : ¬ a < j ∨ ltInt d[j]! d[j - 1]! = false) : insInner ltInt a j d = d := by
 cases j with
 | zero => rfl
 | succ j =>
  rw [insInner, if_neg]
  rcases h with h | h
  ·simp; omega
  ·simp only [Nat.add_sub_cancel] at h
   simp [h]
theorem insInner_go {a j : Nat} {d : Array Int} (h : a < j) (hl : ltInt d[j]! d[j - 1]! = true) : insInner ltInt a j d = insInner ltInt a (j - 1) (swp d j (j - 1)) := by
 cases j with
 | zero => omega
 | succ j =>
  simp only [Nat.add_sub_cancel] at hl ⊢
  rw [insInner, if_pos (by simp [hl]; omega)]
set_option maxHeartbeats 3200000 in
theorem ins_any (blk off cap N a b : Nat) (d : Array Int) (hN : Hid (d.size = N)) (w : World) (h : HU w blk off d) (hab : a ≤ b) (hb : b ≤ N) (hsz : N ≤ 1048576) :
  Calls Tryz.prog 206 #[.slice (some ⟨blk, off, none⟩) N cap, .int .i64 a, .int .i64 b] w fun e w' => e = .returned (.tuple #[]) ∧ HU w' blk off (insertionSort ltInt d a b) ∧ w.grownBy w' (some blk) := by
 obtain ⟨D, eD⟩ : ∃ D, insertionSort ltInt d a b = D := ⟨_, rfl⟩
 rw [eD]
 have ED : Hid (insOuter ltInt a b (a + 1) d = D) := eD
 clear eD
 have H0 := hide h
 clear h
 go_enter Tryz.func206, Tryz.ntmps206
 go_wp2_with fail
 go_loopw [6] (fun s6 wr => ∃ (i : Nat) (dk : Array Int), s6 = .int .i64 i ∧ i ≤ 1048577 ∧ a < i ∧ Hid (dk.size = N) ∧ Hid (HU wr blk off dk) ∧ Hid (insOuter ltInt a b i dk = D) ∧ Hid (w.grownBy wr (some blk))) (fun s6 _ => b - (intOf s6).toNat)
 case atStart => exact ⟨a + 1, d, by first | rfl | go_num, by omega, by omega, hN, H0, ED, grown_r _ _⟩
 case round =>
  obtain ⟨i, dk, rfl, q1, q2, hds, hHk, heq, hg⟩ := hrel
  by_cases hlt : i < b
  ·have hlt' : (i : Int) < (b : Int) := by omega
   have hq := uh heq
   rw [insOuter, if_pos hlt] at hq
   obtain ⟨E, eE⟩ : ∃ E, insInner ltInt a i dk = E := ⟨_, rfl⟩
   rw [eE] at hq
   have HQ := hide hq
   have EE := hide eE
   have hEs : Hid (E.size = N) := by show _ = _; rw [← eE, insInner_size]; exact uh hds
   clear hq eE heq
   go_wp2_with fail
   obtain ⟨Y, eY⟩ : ∃ Y, Y = wr := ⟨_, rfl⟩
   subst eY
   have HG0 := hg
   clear hg
   go_loopw [7] (fun s7 wr => ∃ (j : Nat) (dj : Array Int), s7 = .int .i64 j ∧ j ≤ i ∧ a ≤ j ∧ Hid (dj.size = N) ∧ Hid (HU wr blk off dj) ∧ Hid (insInner ltInt a j dj = E) ∧ Hid (w.grownBy wr (some blk))) (fun s7 _ => (intOf s7).toNat)
   case atStart => exact ⟨i, dk, rfl, Nat.le_refl _, by omega, hds, hHk, EE, HG0⟩
   case round =>
    obtain ⟨j, dj, rfl, q3, q4, hdj, hHj, hej, hg⟩ := hrel
    by_cases hja : a < j
    ·have hja' : (a : Int) < (j : Int) := by omega
     obtain ⟨m, em⟩ : ∃ m : Nat, (j : Int) - 1 = (m : Int) := ⟨j - 1, by omega⟩
     have em0 : j - 1 = m := by omega
     have hdj' := uh hdj
     obtain ⟨cj, fj⟩ := uh hHj j (by omega)
     obtain ⟨cm, fm⟩ := uh hHj m (by omega)
     obtain ⟨y, ey⟩ : ∃ y, dj[j]! = y := ⟨_, rfl⟩
     obtain ⟨z, ez⟩ : ∃ z, dj[m]! = z := ⟨_, rfl⟩
     have hsw := hide ((uh hHj).swap (i := j) (j := m) (by omega) (by omega) ez.symm ey.symm)
     rw [ey] at cj
     rw [ez] at cm
     have i1 : (j : Int) < (N : Int) := by omega
     have i2 : (m : Int) < (N : Int) := by omega
     have i3 : (0 : Int) ≤ (m : Int) := by omega
     have wm : IntKind.i64.wrap (m : Int) = (m : Int) := IntWalk.i64_in _ (by omega)
     obtain ⟨B, eB⟩ : ∃ B, ltInt y z = B := ⟨_, rfl⟩
     have EB := hide eB
     have HSTOP : Hid (B = false → dj = E) := fun hB => by
      rw [← uh hej, insInner_stop (.inr (by rw [em0, ey, ez, eB, hB]))]
     have HGO : Hid (B = true → insInner ltInt a m (swp dj j m) = E) := fun hB => by
      rw [← uh hej, insInner_go hja (by rw [em0, ey, ez, eB, hB]), em0]
     have HS2 : Hid ((swp dj j m).size = N) := by show _ = _; rw [size_swp]; exact hdj'
     have HG := hide (grown_t (grown_t (uh hg) (grown_set wr blk (off + j) (.int .u64 z))) (grown_set _ blk (off + m) (.int .u64 y)))
     have K0 := hide (And.intro cj cm)
     have FF := hide (And.intro fj fm)
     clear ey ez eB hdj' cj cm fj fm em0
     go_wp2_with fail
     go_cut [30] (fun rv wc => rv = .bool B ∧ wc = wr.drew)
     case first =>
      refine wp_region_noPanic ?_
      refine wp_region_held_drew (S := fun w' => w'.cell? ⟨blk, off + j, none⟩ = some (.int .u64 y) ∧ w'.cell? ⟨blk, off + m, none⟩ = some (.int .u64 z)) (by kernel_rfl) (by exact uh K0) (fun hS => ?_)
      refine tk 0 hS (h := ?_); simp only [Act.put, xa, xb, xc]
      refine tk 1 hS (h := ?_); simp only [Act.put, xa, xb, xc]
      refine tk 2 hS (h := ?_); simp only [Act.put, xa, xb, xc]
      refine tk 3 hS (h := ?_); simp only [Act.put, xa, xb, xc]
      refine tk 4 hS (h := ?_); simp only [Act.put, xa, xb, xc]
      refine tk 5 hS (h := ?_); simp only [Act.put, xa, xb, xc]
      refine tk 6 hS (h := ?_); simp only [Act.put, xa, xb, xc]
      refine tk 7 hS (h := ?_); simp only [Act.put, xa, xb, xc]
      refine tk 8 hS (h := ?_); simp only [Act.put, xa, xb, xc]
      refine tk 9 hS (h := ?_); simp only [Act.put, xa, xb, xc]
      refine tk 10 hS (h := ?_); simp only [Act.put, xa, xb, xc]
      refine tk 11 hS (h := ?_); simp only [Act.put, xa, xb, xc]
      refine tk 12 hS (h := ?_); simp only [Act.put, xa, xb, xc]
      refine ry [13] ?_
      refine cn (fun KK hK => ?_) ?_
      ·refine step_call2g (by rfl) 212 _ _ _ (by rfl) (.int .u64 y) (.int .u64 z) (by rfl) (by rfl) (fun _ => callLess _ _) (less_any y z _) ?_
       rintro r w2 ⟨rfl, rfl⟩
       refine ⟨_, rfl, ?_⟩
       rw [uh EB]
       refine hK.out _ _ (by exact uh K0) (fun hS => ?_)
       clear hK KK
       (try simp only [Act.put, xa, xb, xc])
       refine tk 14 hS (h := ?_); simp only [Act.put, xa, xb, xc]
       refine wpAnyH_done (by kernel_rfl) ?_ _
       refine NoPanic.normal ?_
       clear hS
       go_wp2_with fail
       go_meet
       exact ⟨rfl, rfl⟩
      exact AllReadyH.nil
     obtain ⟨rfl, rfl⟩ := hcut
     cases B with
     | false =>
      have e := uh HSTOP rfl
      subst e
      clear hsw HG HGO HSTOP FF K0
      go_wp2
      go_roundw
      case rel => exact ⟨i + 1, dj, by go_num, by omega, by omega, hdj, (uh hHj).drew, HQ, grown_drew (uh hg)⟩
      case measure => simp [intOf]; omega
     | true =>
      have e := hide (uh HGO rfl)
      obtain ⟨cj, cm⟩ := uh K0
      obtain ⟨fj, fm⟩ := uh FF
      clear HGO HSTOP FF K0
      go_wp2_with fail
      go_region
      go_wp2
      go_roundw
      case rel => exact ⟨m, swp dj j m, by first | rfl | go_num, by omega, by omega, HS2, (uh hsw), e, grown_drew (grown_drew (uh HG))⟩
      case measure => simp [intOf]; omega
    ·have hja' : ¬ (a : Int) < (j : Int) := by omega
     have e : dj = E := by rw [← uh hej, insInner_stop (.inl hja)]
     subst e
     go_wp2_with fail
     go_cut [30] (fun rv wc => rv = .bool false ∧ wc = wr.drew)
     case first =>
      refine wp_region_noPanic ?_
      refine wp_region_held_drew (S := fun w' => True) (by kernel_rfl) trivial (fun hS => ?_)
      refine tk 0 hS (h := ?_); simp only [Act.put, xa, xb, xc]
      refine tk 1 hS (h := ?_); simp only [Act.put, xa, xb, xc]
      refine tk 2 hS (h := ?_); simp only [Act.put, xa, xb, xc]
      refine tk 3 hS (h := ?_); simp only [Act.put, xa, xb, xc]
      refine sk 4 hS (h := ?_); simp only [Act.put, xa, xb, xc]
      refine sk 5 hS (h := ?_); simp only [Act.put, xa, xb, xc]
      refine sk 6 hS (h := ?_); simp only [Act.put, xa, xb, xc]
      refine sk 7 hS (h := ?_); simp only [Act.put, xa, xb, xc]
      refine sk 8 hS (h := ?_); simp only [Act.put, xa, xb, xc]
      refine sk 9 hS (h := ?_); simp only [Act.put, xa, xb, xc]
      refine sk 10 hS (h := ?_); simp only [Act.put, xa, xb, xc]
      refine sk 11 hS (h := ?_); simp only [Act.put, xa, xb, xc]
      refine sk 12 hS (h := ?_); simp only [Act.put, xa, xb, xc]
      refine sk 13 hS (h := ?_); simp only [Act.put, xa, xb, xc]
      refine tk 14 hS (h := ?_); simp only [Act.put, xa, xb, xc]
      refine wpAnyH_done (by kernel_rfl) ?_ _
      refine NoPanic.normal ?_
      clear hS
      go_wp2_with fail
      go_meet
      exact ⟨rfl, rfl⟩
     obtain ⟨rfl, rfl⟩ := hcut
     go_wp2
     go_roundw
     case rel => exact ⟨i + 1, dj, by go_num, by omega, by omega, hdj, (uh hHj).drew, HQ, grown_drew (uh hg)⟩
     case measure => simp [intOf]; omega
  ·have hlt' : ¬ (i : Int) < (b : Int) := by omega
   have hq := uh heq
   rw [insOuter, if_neg hlt] at hq
   subst hq
   go_wp2
   go_end0
   exact ⟨rfl, uh hHk, uh hg⟩
end Go.Proofs.YtnbgnhhnpmmloaaGreatDoor.Q
namespace Go.Proofs.YtnbgnhhnpmmloaaGreatDoor
open Go.ChangeShapes Go.WideShapes Go.ChangeAt Go.RowKit
set_option linter.unusedVariables false
set_option linter.unusedSimpArgs false
set_option maxRecDepth 100000
set_option maxHeartbeats 400000 in
theorem joined_any (g : Nat) (vs : List Value) (ls : List (List Int)) (lm : List Int) (n k : Nat) (ek : Hid (k = ls.length)) (e : Hid (lm = cat ls)) (en : Hid (lm.length = n)) (w : World) (h : Parts w g vs ls) (hl : n ≤ 4194304) (hk : k ≤ 10) :
  Calls Tryz.prog 54 #[.slice (some ⟨g, 0, none⟩) k k] w fun e w' => ∃ p' c', e = .returned (.slice p' n c') ∧ Own w.heap.size w' (.slice p' n c') lm ∧ Below w.heap.size w w' := by
 have e1 := uh ek
 have e2 := uh e
 have e3 := uh en
 subst e1 e3 e2
 go_enter Tryz.func54, Tryz.ntmps54
 go_wp2_with fail
 refine (concat_any g vs ls _ h hl (by omega)).mono ?_
 rintro e w1 ⟨p1, c1, rfl, o1, hb1⟩
 go_wp2
 go_ret
 exact ⟨p1, c1, rfl, o1, hb1⟩
theorem parts2 {w : World} {g : Nat} {v0 v1 : Value} {l0 l1 : List Int} (c0 : w.cell? ⟨g, 0, none⟩ = some v0) (c1 : w.cell? ⟨g, 1, none⟩ = some v1) (r0 : Rd w v0 l0) (r1 : Rd w v1 l1) : Parts w g [v0, v1] [l0, l1] := by
 refine ⟨rfl, fun j v x e1 e2 => ?_⟩
 match j, e1, e2 with
 | 0, e1, e2 => simp at e1 e2; subst e1 e2; exact ⟨c0, r0⟩
 | 1, e1, e2 => simp at e1 e2; subst e1 e2; exact ⟨c1, r1⟩
theorem parts5 {w : World} {g : Nat} {v0 v1 v2 v3 v4 : Value} {l0 l1 l2 l3 l4 : List Int} (c0 : w.cell? ⟨g, 0, none⟩ = some v0) (c1 : w.cell? ⟨g, 1, none⟩ = some v1) (c2 : w.cell? ⟨g, 2, none⟩ = some v2) (c3 : w.cell? ⟨g, 3, none⟩ = some v3) (c4 : w.cell? ⟨g, 4, none⟩ = some v4) (r0 : Rd w v0 l0) (r1 : Rd w v1 l1) (r2 : Rd w v2 l2) (r3 : Rd w v3 l3) (r4 : Rd w v4 l4) : Parts w g [v0, v1, v2, v3, v4] [l0, l1, l2, l3, l4] := by
 refine ⟨rfl, fun j v x e1 e2 => ?_⟩
 match j, e1, e2 with
 | 0, e1, e2 => simp at e1 e2; subst e1 e2; exact ⟨c0, r0⟩
 | 1, e1, e2 => simp at e1 e2; subst e1 e2; exact ⟨c1, r1⟩
 | 2, e1, e2 => simp at e1 e2; subst e1 e2; exact ⟨c2, r2⟩
 | 3, e1, e2 => simp at e1 e2; subst e1 e2; exact ⟨c3, r3⟩
 | 4, e1, e2 => simp at e1 e2; subst e1 e2; exact ⟨c4, r4⟩
theorem cat2 (a b : List Int) : cat [a, b] = a ++ b := by simp [cat]
def tx (l : List Int) : List Int := vi l.length ++ l
theorem tx_len (l : List Int) : l.length + 1 ≤ (tx l).length ∧ (tx l).length ≤ l.length + 10 := by
 have := vi_len l.length
 rw [tx, List.length_append]
 omega
set_option maxHeartbeats 800000 in
theorem l3text_any (p : Option Addr) (c n : Nat) (l : List Int) (en : Hid (l.length = n)) (w : World) (h : Rd w (.slice p n c) l) (hl : n ≤ 1048576) (N : Nat) (eN : Hid ((tx l).length = N)) :
  Calls Tryz.prog 80 #[.slice p n c] w fun e w' => ∃ p' c', e = .returned (.slice p' N c') ∧ Own w.heap.size w' (.slice p' N c') (tx l) ∧ Below w.heap.size w w' := by
 obtain ⟨M, eM⟩ : ∃ M, (vi n).length = M := ⟨_, rfl⟩
 have hM := vi_len n
 rw [eM] at hM
 have EM := hide eM
 clear eM
 have hN : M + n = N := by rw [← uh eN, tx, List.length_append, uh en, uh EM]
 have wn : IntKind.u64.wrap (n : Int) = (n : Int) := by rw [IntKind.wrap_u64]; omega
 have EE : Hid (tx l = vi n ++ l) := by show _ = _; rw [tx, uh en]
 go_enter Tryz.func80, Tryz.ntmps80
 go_wp2_with fail
 refine (l3var_any 9 n _ (by omega) (by omega) (by omega) M EM).mono ?_
 rintro e w1 ⟨p1, c1, rfl, o1, b1⟩
 have r1 := h.below b1
 have z1 := b1.size
 have o1' : Own w.heap.size w1 (.slice p1 M c1) (vi n) := o1
 clear o1 h
 go_wp2_with (at_builtin; refine wpList_append_rdn rfl _ _ rfl w.heap.size (.slice p1 M c1) (vi n) l (tx l) EE p c n en rfl rfl o1' r1 (by rw [uh EM, uh en]; omega) (by omega) ?_)
 intro p2 c2 w2 o2 hg2
 have b2 := below_grown b1 hg2 o1' (Nat.le_refl _) (by omega)
 rw [uh eN] at o2 ⊢
 clear hg2 o1' r1 b1
 go_wp2
 go_ret
 exact ⟨p2, c2, rfl, o2, b2⟩
set_option maxHeartbeats 800000 in
theorem textBytes_any (p : Option Addr) (c n : Nat) (l : List Int) (en : Hid (l.length = n)) (w : World) (h : Rd w (.slice p n c) l) (hl : n ≤ 1048576) (N : Nat) (eN : Hid ((tx l).length = N)) :
  Calls Tryz.prog 69 #[.slice p n c] w fun e w' => ∃ p' c', e = .returned (.slice p' N c') ∧ Own w.heap.size w' (.slice p' N c') (tx l) ∧ Below w.heap.size w w' := by
 obtain ⟨M, eM⟩ : ∃ M, (vi n).length = M := ⟨_, rfl⟩
 have hM := vi_len n
 rw [eM] at hM
 have EM := hide eM
 clear eM
 have hN : M + n = N := by rw [← uh eN, tx, List.length_append, uh en, uh EM]
 have wn : IntKind.u64.wrap (n : Int) = (n : Int) := by rw [IntKind.wrap_u64]; omega
 have EE : Hid (tx l = cat [vi n, l]) := by show _ = _; rw [cat2, tx, uh en]
 go_enter Tryz.func69, Tryz.ntmps69
 go_wp2_with fail
 refine (varint_any n _ (by omega)).mono ?_
 rintro e w1 ⟨p1, c1, rfl, o1, b1⟩
 rw [uh EM] at o1 ⊢
 have r1 := h.below b1
 have z1 := b1.size
 have rv := o1.rd
 clear o1 h
 go_wp2_with fail
 refine (joined_any w1.heap.size [.slice p1 M c1, .slice p n c] [vi n, l] (tx l) N 2 rfl EE eN _ (parts2 (by simp) (by simp) (rv.below ((Below.refl _ _).alloc (Nat.le_refl _) _)) (r1.below ((Below.refl _ _).alloc (Nat.le_refl _) _))) (by omega) (by omega)).mono ?_
 rintro e w2 ⟨p2, c2, rfl, o2, hb2⟩
 have b2 : Below w.heap.size w w2 := Below.step (Below.step b1 ((Below.refl _ _).alloc (Nat.le_refl _) _)) hb2
 have o3 : Own w.heap.size w2 (.slice p2 N c2) (tx l) := Own.mono o2 (by simp; omega)
 clear o2 hb2 r1 rv b1
 go_wp2
 go_ret
 exact ⟨p2, c2, rfl, o3, b2⟩
theorem joinedOne (X : World) (v0 : Value) (l0 : List Int) (N : Nat) (en : Hid (l0.length = N)) (r0 : Rd X v0 l0) (hl : N ≤ 4194304) :
  Calls Tryz.prog 54 #[.slice (some ⟨X.heap.size, 0, none⟩) 1 1] (X.alloc (.cells #[v0] 22)) fun e w' => ∃ p' c', e = .returned (.slice p' N c') ∧ Own X.heap.size w' (.slice p' N c') l0 ∧ Below X.heap.size X w' := by
 have ba : Below X.heap.size X (X.alloc (.cells #[v0] 22)) := (Below.refl _ _).alloc (Nat.le_refl _) _
 refine (joined_any X.heap.size [v0] [l0] l0 N 1 rfl (by show _ = _; simp [cat]) en _ ⟨rfl, fun j v x e1 e2 => ?_⟩ hl (by omega)).mono ?_
 ·match j, e1, e2 with
  | 0, e1, e2 => simp at e1 e2; subst e1 e2; exact ⟨by simp, r0.below ba⟩
 ·rintro e w' ⟨p', c', rfl, o, hb⟩
  exact ⟨p', c', rfl, Own.mono o (by simp), Below.step ba hb⟩
set_option maxHeartbeats 3200000 in
theorem copied_any (I D : Int) (p : Option Addr) (c n : Nat) (Q : List Ev) (en : Hid (Q.length = n)) (w : World) (h : RdEc w (.slice p n c) Q) (hn : n ≤ 1048576) (hbq : Hid (∀ e ∈ Q, e.2.length ≤ 1048576)) :
  Calls Tryz.prog 140 #[.agg #[.int .u64 I, .int .i64 D, .slice p n c]] w fun r w' => ∃ p' c' A, r = .returned (.agg #[.int .u64 I, .int .i64 D, .slice p' n c']) ∧ RdEc w' (.slice p' n c') Q ∧ LvE w' (.slice p' n c') Q A ∧ Apt w.heap.size w' A ∧ Below w.heap.size w w' := by
 obtain ⟨ie, hie, hz0, hz1, hz2⟩ := info_parts Tryz.infoEv
 have HR := hide fun (w' : World) (hb : Below w.heap.size w w') => h.below hb
 clear h
 obtain ⟨W, hW⟩ : ∃ W, W = (w.alloc (.cells #[.int .u64 I, .int .i64 D, .slice p n c] 59)) := ⟨_, rfl⟩
 have bW : Below w.heap.size w W := by rw [hW]; exact (Below.refl _ _).alloc (Nat.le_refl _) _
 have zW : W.heap.size = w.heap.size + 1 := by rw [hW]; simp
 have k0 : W.cell? ⟨w.heap.size, 0, none⟩ = some (.int .u64 I) := by rw [hW]; simp
 have k1 : W.cell? ⟨w.heap.size, 1, none⟩ = some (.int .i64 D) := by rw [hW]; simp
 have k2 : W.cell? ⟨w.heap.size, 2, none⟩ = some (.slice p n c) := by rw [hW]; simp
 go_enter Tryz.func140, Tryz.ntmps140
 go_wp2_with fail
 obtain ⟨W2, hW2⟩ : ∃ W2, W2 = (W.alloc (.cells #[.int .u64 0, .int .i64 0, .slice none 0 0] 59)) := ⟨_, rfl⟩
 have bW2 : Below W.heap.size W W2 := by rw [hW2]; exact (Below.refl _ _).alloc (Nat.le_refl _) _
 have zW2 : W2.heap.size = w.heap.size + 2 := by rw [hW2]; simp; omega
 have hR3 : CellsAre W2 (w.heap.size + 1) [.int .u64 0, .int .i64 0, .slice none 0 0] := by
  rw [hW2, show w.heap.size + 1 = W.heap.size by omega]; exact CellsAre.alloc W #[.int .u64 0, .int .i64 0, .slice none 0 0] _
 rw [← hW, ← hW2]
 have b2 := Below.step bW bW2
 have HK := hide (And.intro (cell_below k0 bW2) (And.intro (cell_below k1 bW2) (cell_below k2 bW2)))
 have HR3 := hide hR3
 clear hW hW2 bW2 k0 k1 k2 bW zW hR3
 have hcf : ∀ (vs : Array Value) (w : World), (callFunc 54 vs).run Tryz.prog w = .ok (.enter 54 vs) w := fun vs w => by kernel_rfl
 have HCF := hide hcf
 clear hcf
 go_loopw [3, 9] (fun ov iv wr => ∃ (k : Nat) (Ls : List (List Lf)), k ≤ n ∧ iv = .int .i64 k ∧ Hid (OwnT elEv 147 2 W2.heap.size wr ov (Q.take k) Ls) ∧ Below W2.heap.size W2 wr) (fun _ iv _ => n - (intOf iv).toNat)
 case atStart => exact ⟨0, [], Nat.zero_le _, rfl, OwnT.nil _ _ _ _ _, Below.refl _ _⟩
 case round =>
  obtain ⟨k, Ls, hk, rfl, ho, hbr⟩ := hrel
  have BB := Below.step b2 hbr
  by_cases hlt : k < n
  ·have hlt' : (k : Int) < (n : Int) := by omega
   have hkl : k < Q.length := by rw [uh en]; exact hlt
   obtain ⟨⟨K, P⟩, hy⟩ : ∃ y, Q[k]? = some y := ⟨_, List.getElem?_eq_getElem hkl⟩
   obtain ⟨b, o, rfl, hcK, u, hcP, hrP, hcap⟩ : ∃ b o, p = some ⟨b, o, none⟩ ∧ wr.cell? ⟨b, o + k * 2, none⟩ = some (.int .i64 K) ∧ ∃ u, wr.cell? ⟨b, o + k * 2 + 1, none⟩ = some u ∧ Rd wr u P ∧ CapOK u := by
    obtain ⟨p', c', ev, hd⟩ := uh HR _ BB
    simp only [Value.slice.injEq] at ev
    obtain ⟨rfl, -, -⟩ := ev
    rcases hd with h0 | ⟨b, o, h1, h2⟩
    ·rw [h0] at hkl; simp at hkl
    ·exact ⟨b, o, h1, h2 k _ hy⟩
   obtain ⟨pp, pc, m, rfl, em⟩ := hrP.slc
   have hm : m ≤ 1048576 := by rw [← uh em]; exact uh hbq _ (List.mem_of_getElem? hy)
   have HRP := hide hrP
   have HY := hide hy
   clear hrP hcap hy hkl
   go_wp2_with fail
   obtain ⟨X, hX⟩ : ∃ X, X = (wr.alloc (.cells #[.int .i64 K, .slice pp m pc] 147)) := ⟨_, rfl⟩
   have hbX : Below wr.heap.size wr X := by rw [hX]; exact (Below.refl _ _).alloc (Nat.le_refl _) _
   have e0 : X.cell? ⟨wr.heap.size, 0, none⟩ = some (.int .i64 K) := by rw [hX]; simp
   have e1 : X.cell? ⟨wr.heap.size, 1, none⟩ = some (.slice pp m pc) := by rw [hX]; simp
   obtain ⟨V, hV⟩ : ∃ V, V = X.drew := ⟨_, rfl⟩
   have hbV : Below wr.heap.size wr V := by rw [hV]; exact hbX.drew
   rw [← hX]
   refine wp_region_noPanic ?_
   refine wp_region_held_drew (S := fun w' => w'.cell? ⟨wr.heap.size, 0, none⟩ = some (.int .i64 K) ∧ w'.cell? ⟨wr.heap.size, 1, none⟩ = some (.slice pp m pc)) (by kernel_rfl) (by exact ⟨e0, e1⟩) (fun hS => ?_)
   rw [← hV] at hS ⊢
   have KV := hide hS
   have zV : wr.heap.size < V.heap.size := World.block_lt_of_cell? V _ hS.1
   have z2r := hbr.size
   clear hX hbX e0 e1 hV hcK hcP
   have OV := hide ((uh ho).below elEv.keep hbV)
   have HU3 := hide fun b hb => ((uh ho).lt.1 b hb).2
   have rV := hide ((uh HRP).below hbV)
   clear ho
   refine tk 0 hS (h := ?_); simp only [Act.put, xa, xb, xc]
   refine tk 1 hS (h := ?_); simp only [Act.put, xa, xb, xc]
   refine tk 2 hS (h := ?_); simp only [Act.put, xa, xb, xc]
   refine tk 3 hS (h := ?_); simp only [Act.put, xa, xb, xc]
   refine tk 4 hS (h := ?_); simp only [Act.put, xa, xb, xc]
   refine ry [5] ?_
   refine cn (fun KK hK => ?_) ?_
   ·go_simp
    have S5 := (Below.refl V.heap.size V).alloc (Nat.le_refl _) (.cells #[.slice pp m pc] 22)
    refine hK.out _ _ (by exact ⟨cell_below (uh KV).1 S5, cell_below (uh KV).2 S5⟩) (fun hS => ?_)
    clear hK KK
    (try simp only [Act.put, xa, xb, xc])
    refine ry [6] ?_
    refine cn (fun KK hK => ?_) ?_
    ·refine step_call1 (by rfl) 54 _ _ (by rfl) (.slice (some ⟨V.heap.size, 0, none⟩) 1 1) (by rfl) (fun _ => uh HCF _ _) (joinedOne V (.slice pp m pc) P m em (uh rV) (by omega)) ?_
     rintro r v1 ⟨p6, c6, rfl, o6, hb6⟩
     refine ⟨_, rfl, ?_⟩
     have K6 := hide (And.intro (cell_below (uh KV).1 hb6) (cell_below (uh KV).2 hb6))
     refine hK.out _ _ (by exact uh K6) (fun hS => ?_)
     clear hK KK S5
     have O6 := hide o6
     have B6 := hide hb6
     clear o6 hb6
     (try simp only [Act.put, xa, xb, xc])
     refine tk 7 hS (h := ?_); simp only [Act.put, xa, xb, xc]
     refine ry [8] ?_
     refine cn (fun KK hK => ?_) ?_
     ·go_simp
      have A8 := (Below.refl v1.heap.size v1).alloc (Nat.le_refl _) (.cells #[.int .i64 K, .slice p6 m c6] 147)
      refine hK.out _ _ (by exact ⟨cell_below (uh K6).1 A8, cell_below (uh K6).2 A8⟩) (fun hS => ?_)
      clear hK KK
      obtain ⟨Z, hZ⟩ : ∃ Z, Z = v1.alloc (.cells #[.int .i64 K, .slice p6 m c6] 147) := ⟨_, rfl⟩
      have hcZ : ∀ j u, [Value.int .i64 K, .slice p6 m c6][j]? = some u → Z.cell? ⟨v1.heap.size, j, none⟩ = some u := fun j u hu => by
       have := (CellsAre.alloc v1 #[.int .i64 K, .slice p6 m c6] 147).1 j u (by simpa using hu)
       rw [hZ]
       exact this
      rw [← hZ] at A8 hS ⊢
      have bVZ : Below V.heap.size V Z := Below.step (uh B6) A8
      have OZ := (uh OV).below elEv.keep bVZ
      obtain ⟨lb, q1, q2, q3, q4⟩ := row_lv (kd := .u8) (Own.below (uh O6) A8)
      have elz : elEv Z (K, P) [.int .i64 K, .slice p6 m c6] lb := ⟨p6, c6, by rw [uh em], by rw [uh em]; exact (Own.below (uh O6) A8).rd, by rw [uh em]; exact ⟨_, _, _, rfl, (Own.below (uh O6) A8).cap, (Own.below (uh O6) A8).capMax⟩, by rw [uh em]; exact q1⟩
      obtain ⟨cs, g1, g2, g3, g4, g5, g6, g7⟩ := id OZ
      have hlV := (uh OV).lt
      have hle : (Q.take k).length ≤ 1048576 := by rw [List.length_take]; omega
      have z9 : W2.heap.size ≤ Z.heap.size := by have := bVZ.size; omega
      clear hZ
      (try simp only [Act.put, xa, xb, xc])
      refine ry [9] ?_
      refine cn (fun KK hK => ?_) ?_
      ·refine step_append_fr (by rfl) _ _ 57 (by rfl) W2.heap.size 147 ie _ 2 32 Tryz.underlying57 hie hz0 hz1 hz2 rfl (by decide) u3 _ _ (by rfl) g4 v1.heap.size 1 1 [.int .i64 K, .slice p6 m c6] (by rfl) rfl hcZ (fun u hu => by simp at hu; rcases hu with rfl | rfl <;> rfl) (by unfold maxLen; omega) (by omega) z9 ?_
       intro v' w9 hrow hg hfr
       have sn := OwnT.snoc g1 g2 g3 g5 g6 g7 elEv.keep elz rfl q2 (by omega) (fun a ha => (hlV.2 a ha).2) (fun b hb => (hlV.1 b hb).2) hrow hg hfr
       rw [← take_snoc (uh HY)] at sn
       have hb9 : Below W2.heap.size W2 w9 := (Below.step (Below.step hbr hbV) bVZ).grown hg z9 (fun b hb => (hlV.1 b hb).1)
       have K9 : w9.cell? ⟨wr.heap.size, 0, none⟩ = some (.int .i64 K) ∧ w9.cell? ⟨wr.heap.size, 1, none⟩ = some (.slice pp m pc) := by
        have hne : some wr.heap.size ≠ u3.ownBlock := fun e => by
         have := uh HU3 _ e.symm
         omega
        exact ⟨hg.cell hS.1 hne, hg.cell hS.2 hne⟩
       refine hK.out _ _ (by exact K9) (fun hS => ?_)
       clear hK KK
       (try simp only [Act.put, xa, xb, xc])
       refine tk 10 hS (h := ?_); simp only [Act.put, xa, xb, xc]
       refine wpAnyH_done (by kernel_rfl) ?_ _
       refine NoPanic.normal ?_
       have SN := hide sn
       clear hS sn hrow hg hfr g1 g2 g3 g4 g5 g6 g7 elz q1 q2 q3 q4 hcZ OZ hlV
       go_wp2
       go_roundw
       case rel => exact ⟨k + 1, _, by omega, by go_num, SN, hb9⟩
       case measure => simp [intOf]; omega
      exact AllReadyH.nil
     exact AllReadyH.nil
    exact AllReadyH.nil
   exact AllReadyH.nil
  ·have hlt' : ¬ (k : Int) < (n : Int) := by omega
   have ekn : k = n := by omega
   subst ekn
   have o2 := uh ho
   rw [List.take_of_length_le (by rw [uh en]; exact Nat.le_refl _)] at o2
   obtain ⟨rdE, A, lvE, apE⟩ := o2.ev
   obtain ⟨pv, cv, rfl, -⟩ := id rdE
   rw [uh en] at rdE lvE ⊢
   obtain ⟨q0, q1, q2⟩ := uh HK
   have c0 := cell_below q0 hbr
   have c1 := cell_below q1 hbr
   have hR3 := (uh HR3).below (by omega) hbr
   have r0 := hR3.1 0 _ rfl
   have r1 := hR3.1 1 _ rfl
   have r2 := hR3.1 2 _ rfl
   have rf := hR3.2
   have hne : ¬ w.heap.size + 1 = w.heap.size := by omega
   have RD := hide (And.intro rdE (And.intro lvE apE))
   have hzr := hbr.size
   clear rdE lvE apE o2 q0 q1 q2 hR3
   go_wp2
   obtain ⟨rdE, lvE, apE⟩ := uh RD
   obtain ⟨Z, hZ⟩ : ∃ Z, Z = (((wr.setCell ⟨w.heap.size + 1, 0, none⟩ (.int .u64 I)).setCell ⟨w.heap.size + 1, 1, none⟩ (.int .i64 D)).setCell ⟨w.heap.size + 1, 2, none⟩ (.slice pv k cv)) := ⟨_, rfl⟩
   have hk : ∀ a ∈ A, Z.heap[a.b]? = wr.heap[a.b]? := fun a ha => by
    have := apE.lo a ha
    rw [hZ]
    rw [RowKit.Below.heap_setCell _ _ _ _ (by simp; omega), RowKit.Below.heap_setCell _ _ _ _ (by simp; omega), RowKit.Below.heap_setCell _ _ _ _ (by simp; omega)]
   have hbZ : Below w.heap.size w Z := by
    rw [hZ]
    exact ((BB.setCell (by simp) _).setCell (by simp) _).setCell (by simp) _
   refine bodyPost_ret (v := .agg #[.int .u64 I, .int .i64 D, .slice pv k cv]) (by simp [results, Tryz.results140, go_sem, r0, r1, r2]) rfl ⟨pv, cv, rfl, ?_⟩
   rw [← hZ]
   exact ⟨rdE.keepLv lvE hk, A, LvE.keep lvE hk, (apE.keep hk).mono (by omega), hbZ⟩
end Go.Proofs.YtnbgnhhnpmmloaaGreatDoor
