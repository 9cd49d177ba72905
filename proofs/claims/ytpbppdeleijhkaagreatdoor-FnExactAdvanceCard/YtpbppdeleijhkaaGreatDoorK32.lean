import Derived.Test.YtpbppdeleijhkaaGreatDoorProg
import Derived.Test.YtpbppdeleijhkaaGreatDoorK0
import Derived.WalkKit
import Derived.WalkSpells
import Derived.WalkLawsBesides
import Derived.BigQuiet
import Derived.Below
import Derived.Deep.RegionHeld3
import Derived.Deep.DeepCutAuto
import Derived.Sort.AssemblyPlain
import Derived.Sort.Row
import Derived.Test.YtpbppdeleijhkaaGreatDoorXK0
namespace Go.Proofs.YtpbppdeleijhkaaGreatDoor.T
open Go.Sort Go.RowKit
set_option linter.unusedVariables false
set_option linter.unusedSimpArgs false
set_option maxRecDepth 100000

theorem hide {p : Prop} (h : p) : Hid p := h
theorem unhide {p : Prop} (h : Hid p) : p := h
/-- the numbers of a slice of 64 bits -/
abbrev HT (w : World) (blk off : Nat) (d : Array (List UInt8)) : Prop := Holds (fun x : List UInt8 => Value.string ⟨x.toArray⟩) w blk off d
theorem grown_r (w : World) (row : Option Nat) : w.grownBy w row := ⟨rfl, rfl, rfl, Nat.le_refl _, fun _ _ _ => rfl⟩
theorem grown_t {w w1 w2 : World} {row : Option Nat} (h : w.grownBy w1 row) (k : w1.grownBy w2 row) : w.grownBy w2 row :=
 ⟨k.os.trans h.os, k.tape.trans h.tape, k.output.trans h.output, Nat.le_trans h.size k.size, fun i hi hne => (k.block i (Nat.lt_of_lt_of_le hi h.size) hne).trans (h.block i hi hne)⟩
theorem grown_set (w : World) (b o : Nat) (v : Value) : w.grownBy (w.setCell ⟨b, o, none⟩ v) (some b) :=
 ⟨rfl, rfl, rfl, by simp, fun i _ hne => RowKit.Below.heap_setCell _ _ _ _ (fun e => hne (by rw [e]))⟩
theorem grown_drew {w w' : World} {row : Option Nat} (h : w.grownBy w' row) : w.grownBy w'.drew row := ⟨h.os, h.tape, h.output, h.size, h.block⟩
theorem HT.swap {w : World} {blk off : Nat} {d : Array (List UInt8)} (h : HT w blk off d) {i j : Nat} (hi : i < d.size) (hj : j < d.size) {x y : List UInt8} (hx : x = d[j]!) (hy : y = d[i]!) :
  HT ((w.setCell ⟨blk, off + i, none⟩ (.string ⟨x.toArray⟩)).setCell ⟨blk, off + j, none⟩ (.string ⟨y.toArray⟩)) blk off (swp d i j) := by
 subst hx hy
 have e := putRow_self (fun x : List UInt8 => Value.string ⟨x.toArray⟩) w blk off d h
 have e2 := putRow_swp (fun x : List UInt8 => Value.string ⟨x.toArray⟩) w blk off d i j hi hj
 rw [e] at e2
 show Holds _ _ _ _ _
 rw [e2]
 exact holds_putRow _ w blk off d _ h (by rw [size_swp])
theorem set_some {w : World} {p q : Addr} {t u : Value} (h : w.cell? p = some t) : ∃ s, (w.setCell q u).cell? p = some s := by
 by_cases e : q = p
 ·subst e; exact ⟨u, World.cell?_setCell_same _ _ _ h⟩
 ·exact ⟨t, (World.cell?_setCell_other _ _ _ _ e).trans h⟩
theorem HT.drew {w : World} {blk off : Nat} {d : Array (List UInt8)} (h : HT w blk off d) : HT w.drew blk off d := h
theorem HT.kept {w w' : World} {blk off : Nat} {d : Array (List UInt8)} (h : HT w blk off d) (hb : w'.heap[blk]? = w.heap[blk]?) : HT w' blk off d := fun j hj =>
 ⟨(World.cell?_of_block (a := ⟨blk, off + j, none⟩) hb).trans (h j hj).1, (World.frozen?_of_block (a := ⟨blk, off + j, none⟩) hb).trans (h j hj).2⟩

theorem bytesLess_is : ∀ x y : List UInt8, Op.bytesLess x y = decide (x < y)
 | [], [] => by simp [Op.bytesLess]
 | [], b :: y => by simp [Op.bytesLess]
 | a :: x, [] => by simp [Op.bytesLess]
 | a :: x, b :: y => by
  have ih := bytesLess_is x y
  simp only [Op.bytesLess, ih, List.cons_lt_cons_iff]
  by_cases h1 : a < b
  ·simp [h1]
  ·by_cases h2 : a = b
   ·subst h2; simp
   ·simp [h1, h2]
theorem nan_any (x : List UInt8) (w : World) : Calls Tryz.prog 251 #[.string ⟨x.toArray⟩] w fun e w' => e = .returned (.bool false) ∧ w' = w := by
 go_enter Tryz.func251, Tryz.ntmps251
 go_wp2
 go_ret
 exact ⟨by simp, rfl⟩
set_option maxHeartbeats 800000 in
theorem less_any (x y : List UInt8) (w : World) : Calls Tryz.prog 236 #[.string ⟨x.toArray⟩, .string ⟨y.toArray⟩] w fun e w' => e = .returned (.bool (ltStr x y)) ∧ w' = w := by
 go_enter Tryz.func236, Tryz.ntmps236
 go_wp2_with fail
 refine (nan_any x w).mono ?_
 rintro e w' ⟨rfl, rfl⟩
 go_wp2
 go_ret
 refine ⟨?_, rfl⟩
 show Ending.returned (.bool (Op.bytesLess x y)) = _
 rw [bytesLess_is]
 rfl
theorem callLess (vs : Array Value) (w : World) : (callFunc 236 vs).run Tryz.prog w = .ok (.enter 236 vs) w := by kernel_rfl
/-- a call in a region, wherever its guard lets it stand -/
theorem step_call2g {P : Program} {w : World} {ops : Array Oper} {o : Oper} {a : Act} {K : Act → World → Prop} {Q : Exit → Act → World → Prop} {E : Prop} {R : Ending → World → Prop} (hw : Region.wanted o (yielded ops a.tmps) = true) (f : FuncId) (x1 x2 : Operand) (tys : Array TypeId)
  (ho : o.op = .call { callee := .value (.func f), args := #[x1, x2], argTypes := tys }) (v1 v2 : Value) (h1 : a.eval x1 = v1) (h2 : a.eval x2 = v2) (hcf : ∀ vs, (callFunc f vs).run P w = .ok (.enter f vs) w) (hc : Calls P f #[v1, v2] w R) (hR : ∀ e w', R e w' → ∃ v, e = .returned v ∧ K (a.put o.dst v) w') :
  if Region.wanted o (yielded ops a.tmps) = true then Oper.wp P o a w K Q else E := by
 rw [if_pos hw]
 have hrun : (execOp a.eval o).run P w = .ok (.enter f #[v1, v2]) w := by
  subst h1 h2
  unfold execOp
  simp [go_sem, ho, resolve, invoke, hcf]
 show o.upon P a K Q _
 rw [hrun, Oper.upon_enter]
 refine hc.mono ?_
 intro e w' h
 obtain ⟨v, rfl, hk⟩ := hR e w' h
 exact hk

set_option maxHeartbeats 1600000 in
theorem rev_any (blk off cap N a b : Nat) (d : Array (List UInt8)) (hN : Hid (d.size = N)) (w : World) (h : HT w blk off d) (hab : a ≤ b) (hb : b ≤ N) (hsz : N ≤ 1048576) :
  Calls Tryz.prog 234 #[.slice (some ⟨blk, off, none⟩) N cap, .int .i64 a, .int .i64 b] w fun e w' => e = .returned (.tuple #[]) ∧ HT w' blk off (reverseRange d a b) ∧ w.grownBy w' (some blk) := by
 obtain ⟨D, eD⟩ : ∃ D, reverseRange d a b = D := ⟨_, rfl⟩
 rw [eD]
 have ED : Hid (reverseLoop a (b - 1) d = D) := eD
 clear eD
 have H0 := hide h
 clear h
 go_enter Tryz.func234, Tryz.ntmps234
 go_wp2_with fail
 go_loopw [6, 7] (fun s6 s7 wr => ∃ (i jn : Nat) (jz : Int) (dk : Array (List UInt8)), s6 = .int .i64 i ∧ s7 = .int .i64 jz ∧ jz ≤ 1048576 ∧ -1 ≤ jz ∧ i ≤ 1048577 ∧ Hid ((i : Int) < jz → jz = jn ∧ jn < N) ∧ Hid (¬ (i : Int) < jz → ¬ i < jn) ∧ Hid (dk.size = N) ∧ Hid (HT wr blk off dk) ∧ Hid (reverseLoop i jn dk = D) ∧ Hid (w.grownBy wr (some blk))) (fun s6 s7 _ => (intOf s7 - intOf s6).toNat)
 case atStart => exact ⟨a, b - 1, (b : Int) - 1, d, rfl, by first | rfl | go_num, by omega, by omega, by omega, fun h => ⟨by omega, by omega⟩, (fun h => by omega), hN, H0, ED, grown_r _ _⟩
 case round =>
  obtain ⟨i, jn, jz, dk, rfl, rfl, q1, q2, q3, h1, h2, hds, hHk, heq, hg⟩ := hrel
  by_cases hlt : (i : Int) < jz
  ·obtain ⟨ej, hjn⟩ := unhide h1 hlt
   subst ej
   have hij : i < jn := by omega
   have hds' := unhide hds
   obtain ⟨ci, fi⟩ := unhide hHk i (by omega)
   obtain ⟨cj, fj⟩ := unhide hHk jn (by omega)
   obtain ⟨y, ey⟩ : ∃ y, dk[i]! = y := ⟨_, rfl⟩
   obtain ⟨z, ez⟩ : ∃ z, dk[jn]! = z := ⟨_, rfl⟩
   have hsw := hide ((unhide hHk).swap (i := i) (j := jn) (by omega) (by omega) ez.symm ey.symm)
   rw [ey] at ci
   rw [ez] at cj
   have hq := unhide heq
   rw [reverseLoop, if_pos hij] at hq
   have HQ := hide hq
   have HS2 : Hid ((swp dk i jn).size = N) := by show _ = _; rw [size_swp]; exact hds'
   have HG := hide (grown_t (grown_t (unhide hg) (grown_set wr blk (off + i) (.string ⟨z.toArray⟩))) (grown_set _ blk (off + jn) (.string ⟨y.toArray⟩)))
   have i1 : (jn : Int) < (N : Int) := by omega
   have i2 : (i : Int) < (N : Int) := by omega
   have i3 : (0 : Int) ≤ (jn : Int) := by omega
   clear h1 h2 hHk heq hg ey ez hq hds'
   go_wp2_with fail
   go_region
   go_wp2
   go_roundw
   case rel => exact ⟨i + 1, jn - 1, (jn : Int) - 1, swp dk i jn, by go_num, by first | rfl | go_num, by omega, by omega, by omega, fun h => ⟨by omega, by omega⟩, (fun h => by omega), HS2, (unhide hsw).drew, HQ, grown_drew (unhide HG)⟩
   case measure => simp [intOf]; omega
  ·have hnot := unhide h2 hlt
   have hq := unhide heq
   rw [reverseLoop, if_neg hnot] at hq
   subst hq
   go_wp2
   go_end0
   exact ⟨rfl, unhide hHk, unhide hg⟩
end Go.Proofs.YtpbppdeleijhkaaGreatDoor.T
namespace Go.Proofs.YtpbppdeleijhkaaGreatDoor.T
open Go.Sort Go.RowKit
set_option linter.unusedVariables false
set_option linter.unusedSimpArgs false
set_option maxRecDepth 100000

theorem insInner_size (lt : List UInt8 → List UInt8 → Bool) (a : Nat) : ∀ (j : Nat) (d : Array (List UInt8)), (insInner lt a j d).size = d.size
 | 0, d => rfl
 | j + 1, d => by
  rw [insInner]
  split
  ·rw [insInner_size lt a j, size_swp]
  ·rfl
theorem insInner_stop {a j : Nat} {d : Array (List UInt8)} (h : ¬ a < j ∨ ltStr d[j]! d[j - 1]! = false) : insInner ltStr a j d = d := by
 cases j with
 | zero => rfl
 | succ j =>
  rw [insInner, if_neg]
  rcases h with h | h
  ·simp; omega
  ·simp only [Nat.add_sub_cancel] at h
   simp [h]
theorem insInner_go {a j : Nat} {d : Array (List UInt8)} (h : a < j) (hl : ltStr d[j]! d[j - 1]! = true) : insInner ltStr a j d = insInner ltStr a (j - 1) (swp d j (j - 1)) := by
 cases j with
 | zero => omega
 | succ j =>
  simp only [Nat.add_sub_cancel] at hl ⊢
  rw [insInner, if_pos (by simp [hl]; omega)]

set_option maxHeartbeats 3200000 in
theorem ins_any (blk off cap N a b : Nat) (d : Array (List UInt8)) (hN : Hid (d.size = N)) (w : World) (h : HT w blk off d) (hab : a ≤ b) (hb : b ≤ N) (hsz : N ≤ 1048576) :
  Calls Tryz.prog 230 #[.slice (some ⟨blk, off, none⟩) N cap, .int .i64 a, .int .i64 b] w fun e w' => e = .returned (.tuple #[]) ∧ HT w' blk off (insertionSort ltStr d a b) ∧ w.grownBy w' (some blk) := by
 obtain ⟨D, eD⟩ : ∃ D, insertionSort ltStr d a b = D := ⟨_, rfl⟩
 rw [eD]
 have ED : Hid (insOuter ltStr a b (a + 1) d = D) := eD
 clear eD
 have H0 := hide h
 clear h
 go_enter Tryz.func230, Tryz.ntmps230
 go_wp2_with fail
 go_loopw [6] (fun s6 wr => ∃ (i : Nat) (dk : Array (List UInt8)), s6 = .int .i64 i ∧ i ≤ 1048577 ∧ a < i ∧ Hid (dk.size = N) ∧ Hid (HT wr blk off dk) ∧ Hid (insOuter ltStr a b i dk = D) ∧ Hid (w.grownBy wr (some blk))) (fun s6 _ => b - (intOf s6).toNat)
 case atStart => exact ⟨a + 1, d, by first | rfl | go_num, by omega, by omega, hN, H0, ED, grown_r _ _⟩
 case round =>
  obtain ⟨i, dk, rfl, q1, q2, hds, hHk, heq, hg⟩ := hrel
  by_cases hlt : i < b
  ·have hlt' : (i : Int) < (b : Int) := by omega
   have hq := unhide heq
   rw [insOuter, if_pos hlt] at hq
   obtain ⟨E, eE⟩ : ∃ E, insInner ltStr a i dk = E := ⟨_, rfl⟩
   rw [eE] at hq
   have HQ := hide hq
   have EE := hide eE
   have hEs : Hid (E.size = N) := by show _ = _; rw [← eE, insInner_size]; exact unhide hds
   clear hq eE heq
   go_wp2_with fail
   obtain ⟨Y, eY⟩ : ∃ Y, Y = wr := ⟨_, rfl⟩
   subst eY
   have HG0 := hg
   clear hg
   go_loopw [7] (fun s7 wr => ∃ (j : Nat) (dj : Array (List UInt8)), s7 = .int .i64 j ∧ j ≤ i ∧ a ≤ j ∧ Hid (dj.size = N) ∧ Hid (HT wr blk off dj) ∧ Hid (insInner ltStr a j dj = E) ∧ Hid (w.grownBy wr (some blk))) (fun s7 _ => (intOf s7).toNat)
   case atStart => exact ⟨i, dk, rfl, Nat.le_refl _, by omega, hds, hHk, EE, HG0⟩
   case round =>
    obtain ⟨j, dj, rfl, q3, q4, hdj, hHj, hej, hg⟩ := hrel
    by_cases hja : a < j
    ·have hja' : (a : Int) < (j : Int) := by omega
     obtain ⟨m, em⟩ : ∃ m : Nat, (j : Int) - 1 = (m : Int) := ⟨j - 1, by omega⟩
     have em0 : j - 1 = m := by omega
     have hdj' := unhide hdj
     obtain ⟨cj, fj⟩ := unhide hHj j (by omega)
     obtain ⟨cm, fm⟩ := unhide hHj m (by omega)
     obtain ⟨y, ey⟩ : ∃ y, dj[j]! = y := ⟨_, rfl⟩
     obtain ⟨z, ez⟩ : ∃ z, dj[m]! = z := ⟨_, rfl⟩
     have hsw := hide ((unhide hHj).swap (i := j) (j := m) (by omega) (by omega) ez.symm ey.symm)
     rw [ey] at cj
     rw [ez] at cm
     have i1 : (j : Int) < (N : Int) := by omega
     have i2 : (m : Int) < (N : Int) := by omega
     have i3 : (0 : Int) ≤ (m : Int) := by omega
     have wm : IntKind.i64.wrap (m : Int) = (m : Int) := IntWalk.i64_in _ (by omega)
     obtain ⟨B, eB⟩ : ∃ B, ltStr y z = B := ⟨_, rfl⟩
     have EB := hide eB
     have HSTOP : Hid (B = false → dj = E) := fun hB => by
      rw [← unhide hej, insInner_stop (.inr (by rw [em0, ey, ez, eB, hB]))]
     have HGO : Hid (B = true → insInner ltStr a m (swp dj j m) = E) := fun hB => by
      rw [← unhide hej, insInner_go hja (by rw [em0, ey, ez, eB, hB]), em0]
     have HS2 : Hid ((swp dj j m).size = N) := by show _ = _; rw [size_swp]; exact hdj'
     have HG := hide (grown_t (grown_t (unhide hg) (grown_set wr blk (off + j) (.string ⟨z.toArray⟩))) (grown_set _ blk (off + m) (.string ⟨y.toArray⟩)))
     have K0 := hide (And.intro cj cm)
     have FF := hide (And.intro fj fm)
     clear ey ez eB hdj' cj cm fj fm em0
     go_wp2_with fail
     go_cut [30] (fun rv wc => rv = .bool B ∧ wc = wr.drew)
     case first =>
      refine wp_region_noPanic ?_
      refine wp_region_held_drew (S := fun w' => w'.cell? ⟨blk, off + j, none⟩ = some (.string ⟨y.toArray⟩) ∧ w'.cell? ⟨blk, off + m, none⟩ = some (.string ⟨z.toArray⟩)) (by kernel_rfl) (by exact unhide K0) (fun hS => ?_)
      refine tk 0 hS (h := ?_)
      simp only [Act.put, xa, xb, xc]
      refine tk 1 hS (h := ?_)
      simp only [Act.put, xa, xb, xc]
      refine tk 2 hS (h := ?_)
      simp only [Act.put, xa, xb, xc]
      refine tk 3 hS (h := ?_)
      simp only [Act.put, xa, xb, xc]
      refine tk 4 hS (h := ?_)
      simp only [Act.put, xa, xb, xc]
      refine tk 5 hS (h := ?_)
      simp only [Act.put, xa, xb, xc]
      refine tk 6 hS (h := ?_)
      simp only [Act.put, xa, xb, xc]
      refine tk 7 hS (h := ?_)
      simp only [Act.put, xa, xb, xc]
      refine tk 8 hS (h := ?_)
      simp only [Act.put, xa, xb, xc]
      refine tk 9 hS (h := ?_)
      simp only [Act.put, xa, xb, xc]
      refine tk 10 hS (h := ?_)
      simp only [Act.put, xa, xb, xc]
      refine tk 11 hS (h := ?_)
      simp only [Act.put, xa, xb, xc]
      refine tk 12 hS (h := ?_)
      simp only [Act.put, xa, xb, xc]
      refine ry [13] ?_
      refine cn (fun KK hK => ?_) ?_
      ·refine step_call2g (by rfl) 236 _ _ _ (by rfl) (.string ⟨y.toArray⟩) (.string ⟨z.toArray⟩) (by rfl) (by rfl) (fun _ => callLess _ _) (less_any y z _) ?_
       rintro r w2 ⟨rfl, rfl⟩
       refine ⟨_, rfl, ?_⟩
       rw [unhide EB]
       refine hK.out _ _ (by exact unhide K0) (fun hS => ?_)
       clear hK KK
       (try simp only [Act.put, xa, xb, xc])
       refine tk 14 hS (h := ?_)
       simp only [Act.put, xa, xb, xc]
       refine wpAnyH_done (by kernel_rfl) ?_ _
       refine NoPanic.normal ?_
       clear hS
       go_wp2_with fail
       go_meet
       exact ⟨rfl, rfl⟩
      exact AllReadyH.nil
     obtain ⟨rfl, rfl⟩ := hcut
     cases B with
     | false =>
      have e := unhide HSTOP rfl
      subst e
      clear hsw HG HGO HSTOP FF K0
      go_wp2
      go_roundw
      case rel => exact ⟨i + 1, dj, by go_num, by omega, by omega, hdj, (unhide hHj).drew, HQ, grown_drew (unhide hg)⟩
      case measure => simp [intOf]; omega
     | true =>
      have e := hide (unhide HGO rfl)
      obtain ⟨cj, cm⟩ := unhide K0
      obtain ⟨fj, fm⟩ := unhide FF
      clear HGO HSTOP FF K0
      go_wp2_with fail
      go_region
      go_wp2
      go_roundw
      case rel => exact ⟨m, swp dj j m, by first | rfl | go_num, by omega, by omega, HS2, (unhide hsw), e, grown_drew (grown_drew (unhide HG))⟩
      case measure => simp [intOf]; omega
    ·have hja' : ¬ (a : Int) < (j : Int) := by omega
     have e : dj = E := by rw [← unhide hej, insInner_stop (.inl hja)]
     subst e
     go_wp2_with fail
     go_cut [30] (fun rv wc => rv = .bool false ∧ wc = wr.drew)
     case first =>
      refine wp_region_noPanic ?_
      refine wp_region_held_drew (S := fun w' => True) (by kernel_rfl) trivial (fun hS => ?_)
      refine tk 0 hS (h := ?_)
      simp only [Act.put, xa, xb, xc]
      refine tk 1 hS (h := ?_)
      simp only [Act.put, xa, xb, xc]
      refine tk 2 hS (h := ?_)
      simp only [Act.put, xa, xb, xc]
      refine tk 3 hS (h := ?_)
      simp only [Act.put, xa, xb, xc]
      refine sk 4 hS (h := ?_)
      simp only [Act.put, xa, xb, xc]
      refine sk 5 hS (h := ?_)
      simp only [Act.put, xa, xb, xc]
      refine sk 6 hS (h := ?_)
      simp only [Act.put, xa, xb, xc]
      refine sk 7 hS (h := ?_)
      simp only [Act.put, xa, xb, xc]
      refine sk 8 hS (h := ?_)
      simp only [Act.put, xa, xb, xc]
      refine sk 9 hS (h := ?_)
      simp only [Act.put, xa, xb, xc]
      refine sk 10 hS (h := ?_)
      simp only [Act.put, xa, xb, xc]
      refine sk 11 hS (h := ?_)
      simp only [Act.put, xa, xb, xc]
      refine sk 12 hS (h := ?_)
      simp only [Act.put, xa, xb, xc]
      refine sk 13 hS (h := ?_)
      simp only [Act.put, xa, xb, xc]
      refine tk 14 hS (h := ?_)
      simp only [Act.put, xa, xb, xc]
      refine wpAnyH_done (by kernel_rfl) ?_ _
      refine NoPanic.normal ?_
      clear hS
      go_wp2_with fail
      go_meet
      exact ⟨rfl, rfl⟩
     obtain ⟨rfl, rfl⟩ := hcut
     go_wp2
     go_roundw
     case rel => exact ⟨i + 1, dj, by go_num, by omega, by omega, hdj, (unhide hHj).drew, HQ, grown_drew (unhide hg)⟩
     case measure => simp [intOf]; omega
  ·have hlt' : ¬ (i : Int) < (b : Int) := by omega
   have hq := unhide heq
   rw [insOuter, if_neg hlt] at hq
   subst hq
   go_wp2
   go_end0
   exact ⟨rfl, unhide hHk, unhide hg⟩
end Go.Proofs.YtpbppdeleijhkaaGreatDoor.T
namespace Go.Proofs.YtpbppdeleijhkaaGreatDoor
open Go.ChangeShapes Go.WideShapes Go.ChangeAt Go.RowKit
set_option linter.unusedVariables false
set_option linter.unusedSimpArgs false
set_option maxRecDepth 100000

theorem l1copy_m (p : Option Addr) (c n : Nat) (l : List Int) (en : Hid (l.length = n)) (w : World) (h : Rd w (.slice p n c) l) (hl : n ≤ 2097152) :
  Calls Tryz.prog 96 #[.slice p n c] w fun e w' => ∃ p' c', e = .returned (.slice p' n c') ∧ Own w.heap.size w' (.slice p' n c') l ∧ Below w.heap.size w w' := by
 have e := unhide en
 subst e
 exact l1copy_any p c l w h hl
set_option maxHeartbeats 3200000 in
theorem l3events_any (p : Option Addr) (c n : Nat) (Q : List Ev) (en : Hid (Q.length = n)) (w : World) (h : RdE w (.slice p n c) Q) (hn : n ≤ 1048576) (hbq : Hid (∀ e ∈ Q, e.2.length ≤ 1048576)) :
  Calls Tryz.prog 117 #[.slice p n c] w fun r w' => ∃ p' c' A, r = .returned (.slice p' n c') ∧ RdEc w' (.slice p' n c') Q ∧ LvE w' (.slice p' n c') Q A ∧ Apt w.heap.size w' A ∧ Below w.heap.size w w' := by
 obtain ⟨ie, hie, hz0, hz1, hz2⟩ := info_parts Tryz.infoEv
 have HR := hide fun (w' : World) (hb : Below w.heap.size w w') => h.below hb
 clear h
 have hcf : ∀ (vs : Array Value) (w : World), (callFunc 96 vs).run Tryz.prog w = .ok (.enter 96 vs) w := fun vs w => by kernel_rfl
 have HCF := hide hcf
 clear hcf
 go_enter Tryz.func117, Tryz.ntmps117
 go_wp2_with fail
 go_loopw [3, 4] (fun ov iv wr => ∃ (k : Nat) (Ls : List (List Lf)), k ≤ n ∧ iv = .int .i64 k ∧ Hid (OwnT elEv 169 2 w.heap.size wr ov (Q.take k) Ls) ∧ Below w.heap.size w wr) (fun _ iv _ => n - (intOf iv).toNat)
 case atStart => exact ⟨0, [], Nat.zero_le _, rfl, OwnT.nil _ _ _ _ _, Below.refl _ _⟩
 case round =>
  obtain ⟨k, Ls, hk, rfl, ho, hbr⟩ := hrel
  by_cases hlt : k < n
  ·have hlt' : (k : Int) < (n : Int) := by omega
   have hkl : k < Q.length := by rw [unhide en]; exact hlt
   obtain ⟨⟨K, P⟩, hy⟩ : ∃ y, Q[k]? = some y := ⟨_, List.getElem?_eq_getElem hkl⟩
   obtain ⟨b, o, rfl, hcK, u, hcP, hrP⟩ : ∃ b o, p = some ⟨b, o, none⟩ ∧ wr.cell? ⟨b, o + k * 2, none⟩ = some (.int .i64 K) ∧ ∃ u, wr.cell? ⟨b, o + k * 2 + 1, none⟩ = some u ∧ Rd wr u P := by
    obtain ⟨p', c', ev, hd⟩ := unhide HR _ hbr
    simp only [Value.slice.injEq] at ev
    obtain ⟨rfl, -, -⟩ := ev
    rcases hd with h0 | ⟨b, o, h1, h2⟩
    ·rw [h0] at hkl; simp at hkl
    ·exact ⟨b, o, h1, h2 k _ hy⟩
   obtain ⟨pp, pc, m, rfl, em⟩ := hrP.slc
   have hm : m ≤ 1048576 := by rw [← unhide em]; exact unhide hbq _ (List.mem_of_getElem? hy)
   have HRP := hide hrP
   have HY := hide hy
   have HBW : Hid (b < w.heap.size) := by
    obtain ⟨p', c', ev, hd⟩ := unhide HR _ (Below.refl _ _)
    simp only [Value.slice.injEq] at ev
    rcases hd with h0 | ⟨b', o', h1, h2⟩
    ·rw [h0] at hkl; simp at hkl
    ·rw [h1] at ev
     simp only [Option.some.injEq, Addr.mk.injEq, and_true] at ev
     rw [ev.1.1]
     exact World.block_lt_of_cell? w _ (h2 k _ hy).1
   clear hrP hy hkl
   obtain ⟨V, hV⟩ : ∃ V, V = wr.drew := ⟨_, rfl⟩
   have hbV : Below wr.heap.size wr V := by rw [hV]; exact (Below.refl _ _).drew
   have KV := hide (And.intro (cell_below hcK hbV) (cell_below hcP hbV))
   have OV := hide ((unhide ho).below elEv.keep hbV)
   have rV := hide ((unhide HRP).below hbV)
   have zr := hbr.size
   have zV := hbV.size
   go_wp2_with fail
   refine wp_region_noPanic ?_
   refine wp_region_held_drew (S := fun w' => w'.cell? ⟨b, o + k * 2, none⟩ = some (.int .i64 K) ∧ w'.cell? ⟨b, o + k * 2 + 1, none⟩ = some (.slice pp m pc)) (by kernel_rfl) (by exact ⟨hcK, hcP⟩) (fun hS => ?_)
   rw [← hV] at hS ⊢
   clear hV ho hcK hcP
   refine tk 0 hS (h := ?_)
   simp only [Act.put, xa, xb, xc]
   refine tk 1 hS (h := ?_)
   simp only [Act.put, xa, xb, xc]
   refine tk 2 hS (h := ?_)
   simp only [Act.put, xa, xb, xc]
   refine tk 3 hS (h := ?_)
   simp only [Act.put, xa, xb, xc]
   refine tk 4 hS (h := ?_)
   simp only [Act.put, xa, xb, xc]
   refine tk 5 hS (h := ?_)
   simp only [Act.put, xa, xb, xc]
   refine tk 6 hS (h := ?_)
   simp only [Act.put, xa, xb, xc]
   refine tk 7 hS (h := ?_)
   simp only [Act.put, xa, xb, xc]
   refine tk 8 hS (h := ?_)
   simp only [Act.put, xa, xb, xc]
   refine tk 9 hS (h := ?_)
   simp only [Act.put, xa, xb, xc]
   refine tk 10 hS (h := ?_)
   simp only [Act.put, xa, xb, xc]
   refine ry [11] ?_
   refine cn (fun KK hK => ?_) ?_
   ·refine step_call1 (by rfl) 96 _ _ (by rfl) (.slice pp m pc) (by rfl) (fun _ => unhide HCF _ _) (l1copy_m pp pc m P em _ (unhide rV) (by omega)) ?_
    rintro r v1 ⟨p6, c6, rfl, o6, hb6⟩
    refine ⟨_, rfl, ?_⟩
    have K6 := hide (And.intro (cell_below (unhide KV).1 hb6) (cell_below (unhide KV).2 hb6))
    refine hK.out _ _ (by exact unhide K6) (fun hS => ?_)
    clear hK KK
    have O6 := hide o6
    have B6 := hide hb6
    clear o6 hb6
    (try simp only [Act.put, xa, xb, xc])
    refine tk 12 hS (h := ?_)
    simp only [Act.put, xa, xb, xc]
    refine ry [13] ?_
    refine cn (fun KK hK => ?_) ?_
    ·go_simp
     obtain ⟨Z, hZ⟩ : ∃ Z, Z = v1.alloc (.cells #[.int .i64 K, .slice p6 m c6] 169) := ⟨_, rfl⟩
     have A8 : Below v1.heap.size v1 Z := by rw [hZ]; exact (Below.refl _ _).alloc (Nat.le_refl _) _
     rw [← hZ]
     refine hK.out _ _ (by exact ⟨cell_below (unhide K6).1 A8, cell_below (unhide K6).2 A8⟩) (fun hS => ?_)
     clear hK KK
     have hcZ : ∀ j u, [Value.int .i64 K, .slice p6 m c6][j]? = some u → Z.cell? ⟨v1.heap.size, j, none⟩ = some u := fun j u hu => by
      have := (CellsAre.alloc v1 #[.int .i64 K, .slice p6 m c6] 169).1 j u (by simpa using hu)
      rw [hZ]
      exact this
     have bVZ : Below V.heap.size V Z := Below.step (unhide B6) A8
     have OZ := (unhide OV).below elEv.keep bVZ
     obtain ⟨lb, q1, q2, q3, q4⟩ := row_lv (kd := .u8) (Own.below (unhide O6) A8)
     have elz : elEv Z (K, P) [.int .i64 K, .slice p6 m c6] lb := ⟨p6, c6, by rw [unhide em], by rw [unhide em]; exact (Own.below (unhide O6) A8).rd, by rw [unhide em]; exact ⟨_, _, _, rfl, (Own.below (unhide O6) A8).cap, (Own.below (unhide O6) A8).capMax⟩, by rw [unhide em]; exact q1⟩
     obtain ⟨cs, g1, g2, g3, g4, g5, g6, g7⟩ := id OZ
     have hlV := (unhide OV).lt
     have hle : (Q.take k).length ≤ 1048576 := by rw [List.length_take]; omega
     have z9 : w.heap.size ≤ Z.heap.size := by have := bVZ.size; omega
     clear hZ
     (try simp only [Act.put, xa, xb, xc])
     refine ry [14] ?_
     refine cn (fun KK hK => ?_) ?_
     ·refine step_append_fr (by rfl) _ _ 63 (by rfl) w.heap.size 169 ie _ 2 32 Tryz.underlying63 hie hz0 hz1 hz2 rfl (by decide) u3 _ _ (by rfl) g4 v1.heap.size 1 1 [.int .i64 K, .slice p6 m c6] (by rfl) rfl hcZ (fun u hu => by simp at hu; rcases hu with rfl | rfl <;> rfl) (by unfold maxLen; omega) (by omega) z9 ?_
      intro v' w9 hrow hg hfr
      have sn := OwnT.snoc g1 g2 g3 g5 g6 g7 elEv.keep elz rfl q2 (by omega) (fun a ha => (hlV.2 a ha).2) (fun b hb => (hlV.1 b hb).2) hrow hg hfr
      rw [← take_snoc (unhide HY)] at sn
      have hb9 : Below w.heap.size w w9 := (Below.step (Below.step hbr hbV) bVZ).grown hg z9 (fun b hb => (hlV.1 b hb).1)
      have K9 : w9.cell? ⟨b, o + k * 2, none⟩ = some (.int .i64 K) ∧ w9.cell? ⟨b, o + k * 2 + 1, none⟩ = some (.slice pp m pc) := by
       obtain ⟨p', c', ev, hd⟩ := unhide HR _ hb9
       simp only [Value.slice.injEq, Option.some.injEq] at ev
       have hkl : k < Q.length := by rw [unhide en]; exact hlt
       rcases hd with h0 | ⟨b', o', h1, h2⟩
       ·rw [h0] at hkl; simp at hkl
       ·rw [h1] at ev
        simp only [Option.some.injEq, Addr.mk.injEq, and_true] at ev
        obtain ⟨⟨rfl, rfl⟩, -⟩ := ev
        obtain ⟨d1, u', d2, d3⟩ := h2 k _ (unhide HY)
        refine ⟨d1, ?_⟩
        have hne : some b ≠ u3.ownBlock := fun e => by
         have h5 := (hlV.1 b e.symm).1
         have h6 := unhide HBW
         omega
        exact hg.cell hS.2 hne
      refine hK.out _ _ (by exact K9) (fun hS => ?_)
      clear hK KK
      (try simp only [Act.put, xa, xb, xc])
      refine tk 15 hS (h := ?_)
      simp only [Act.put, xa, xb, xc]
      refine wpAnyH_done (by kernel_rfl) ?_ _
      refine NoPanic.normal ?_
      have SN := hide sn
      clear hS sn hrow hg hfr g1 g2 g3 g4 g5 g6 g7 elz q1 q2 q3 q4 hcZ OZ hlV
      go_wp2
      go_roundw
      case rel => exact ⟨k + 1, _, by omega, by go_num, SN, hb9⟩
      case measure => simp [intOf]; omega
     exact AllReadyH.nil
    exact AllReadyH.nil
   exact AllReadyH.nil
  ·have hlt' : ¬ (k : Int) < (n : Int) := by omega
   have ekn : k = n := by omega
   subst ekn
   have o2 := unhide ho
   rw [List.take_of_length_le (by rw [unhide en]; exact Nat.le_refl _)] at o2
   obtain ⟨rdE, A, lvE, apE⟩ := o2.ev
   obtain ⟨pv, cv, rfl, -⟩ := id rdE
   rw [unhide en] at rdE lvE ⊢
   clear o2
   have RD := hide (And.intro rdE (And.intro lvE apE))
   clear rdE lvE apE
   go_wp2
   go_ret
   exact ⟨pv, cv, rfl, (unhide RD).1, A, (unhide RD).2.1, (unhide RD).2.2, hbr⟩
end Go.Proofs.YtpbppdeleijhkaaGreatDoor
