import Derived.Test.YtlkhghcffhckmaaDoorRows
import Derived.Test.YtlkhghcffhckmaaDoorTK
import Derived.WalkKit
import Derived.ProofKit
import Derived.OpenShut
import Derived.WalkSpells
import Derived.WalkLawsBesides
import Derived.BigQuiet
import Derived.Deep.QuietTactic
import Derived.Deep.Fields23
import Derived.Deep.Strs
import Derived.Below
namespace Go.Proofs.YtlkhghcffhckmaaDoor
open Go.ChangeShapes Go.WideShapes Go.ChangeAt Go.RowKit Go.Deep
set_option linter.unusedVariables false
set_option linter.unusedSimpArgs false

theorem hide {p : Prop} (h : p) : Hid p := h

theorem unhide {p : Prop} (h : Hid p) : p := h

/-- what is left of a budget behind n values; below zero: -1 -/
def szLeft (n : Nat) (left : Int) : Int := if left - n < 0 then -1 else left - n

theorem bcell {W w1 : World} (hb : Below W.heap.size W w1) : (∀ b o, b < W.heap.size → w1.cell? ⟨b, o, none⟩ = W.cell? ⟨b, o, none⟩) ∧ (∀ b o, b < W.heap.size → w1.frozen? ⟨b, o, none⟩ = W.frozen? ⟨b, o, none⟩) :=
 ⟨fun b o h => hb.cell (p := ⟨b, o, none⟩) h, fun b o h => hb.frozen (p := ⟨b, o, none⟩) h⟩

theorem szLeft_yes {n : Nat} {left : Int} (h : (n : Int) ≤ left) : szLeft n left = left - n := by unfold szLeft; rw [if_neg (by omega)]

theorem szLeft_no {n : Nat} {left : Int} (h : left < n) : szLeft n left = -1 := by unfold szLeft; rw [if_pos (by omega)]

/-- two calls behind one another: what lay below the first still reads as it did -/
theorem Below.step {W w1 w2 : World} (h : Below W.heap.size W w1) (k : Below w1.heap.size w1 w2) : Below W.heap.size W w2 := h.trans (k.mono h.size)

/-- bytes as cells -/
abbrev U (l : List Int) : List Value := l.map (Value.int .u8)

/-- v is a slice whose bytes read l -/
def Rd (w : World) (v : Value) (l : List Int) : Prop :=
 ∃ (p : Option Addr) (cap : Nat), v = .slice p l.length cap ∧ (l = [] ∨ ∃ b o, p = some ⟨b, o, none⟩ ∧ ∀ i, i < l.length → w.cell? ⟨b, o + i, none⟩ = some (.int .u8 (l.getD i 0)))

/-- v is a slice of the call's own, from block B on, whose bytes are l -/
abbrev Own (B : Nat) (w : World) (v : Value) (l : List Int) : Prop := w.ownsRow B 5 1 v l.length (U l)

theorem Rd.nil (w : World) : Rd w (.slice none 0 0) [] := ⟨none, 0, rfl, .inl rfl⟩

theorem Own.rd {B : Nat} {w : World} {v : Value} {l : List Int} (h : Own B w v l) : Rd w v l := by
 rcases h.2 with ⟨rfl, h0⟩ | ⟨g, cap, cur, rfl, hb, hg, _, _, _, ht⟩
 ·have : l = [] := List.eq_nil_of_length_eq_zero h0
  subst this
  exact Rd.nil w
 ·refine ⟨_, _, rfl, .inr ⟨g, 0, rfl, fun i hi => ?_⟩⟩
  have := World.ownsRow.cellAt (w := w) (base := B) h i (by omega)
  rw [Nat.zero_add, this]
  simp [List.getD, List.getElem?_eq_getElem hi]

/-- what reads in w reads in every world that has turned nothing of w's -/
theorem Rd.below {w w' : World} {v : Value} {l : List Int} (h : Rd w v l) (hb : Below w.heap.size w w') : Rd w' v l := by
 obtain ⟨p, cap, rfl, h⟩ := h
 refine ⟨p, cap, rfl, ?_⟩
 rcases h with h | ⟨b, o, rfl, hc⟩
 ·exact .inl h
 ·refine .inr ⟨b, o, rfl, fun i hi => ?_⟩
  rw [hb.cell (p := ⟨b, o + i, none⟩) (World.block_lt_of_cell? w _ (hc i hi))]
  exact hc i hi

theorem Rd.frame {w w' : World} {v : Value} {l : List Int} {row : Option Nat} (h : Rd w v l) (hg : w.grownBy w' row) (hne : ∀ b, v.ownBlock = some b → row ≠ some b) : Rd w' v l := by
 obtain ⟨p, cap, rfl, h⟩ := h
 refine ⟨p, cap, rfl, ?_⟩
 rcases h with h | ⟨b, o, rfl, hc⟩
 ·exact .inl h
 ·exact .inr ⟨b, o, rfl, fun i hi => hg.cell (hc i hi) (fun e => hne b rfl e.symm)⟩

theorem Own.below {B : Nat} {w w' : World} {v : Value} {l : List Int} (h : Own B w v l) (hb : Below w.heap.size w w') : Own B w' v l :=
 h.kept (row := none) ⟨hb.os, hb.tape, hb.output, hb.size, fun k hk _ => hb.block k hk⟩ (by cases hv : v.ownBlock <;> simp)

theorem Own.mono {B B' : Nat} {w : World} {v : Value} {l : List Int} (h : Own B w v l) (hB : B' ≤ B) : Own B' w v l := by
 refine ⟨h.1, ?_⟩
 rcases h.2 with h | ⟨g, cap, cur, rfl, hb, r⟩
 ·exact .inl h
 ·exact .inr ⟨g, cap, cur, rfl, by omega, r⟩

/-- the list that a copying loop has made behind k rounds -/
def cpy (l : List Int) (k : Nat) : List Int := l.take k ++ List.replicate (l.length - k) 0

theorem cpy_length (l : List Int) (k : Nat) (h : k ≤ l.length) : (cpy l k).length = l.length := by simp [cpy]; omega

theorem cpy_zero (l : List Int) : cpy l 0 = List.replicate l.length 0 := by simp [cpy]

theorem cpy_full (l : List Int) : cpy l l.length = l := by simp [cpy]

theorem cpy_step (l : List Int) (k : Nat) (h : k < l.length) : (U (cpy l k)).set k (.int .u8 (l.getD k 0)) = U (cpy l (k + 1)) := by
 have e1 : l.take (k + 1) = l.take k ++ [l.getD k 0] := by
  rw [List.take_succ_eq_append_getElem h]; simp [List.getD, List.getElem?_eq_getElem h]
 have e2 : List.replicate (l.length - k) (0 : Int) = 0 :: List.replicate (l.length - (k + 1)) 0 := by
  rw [show l.length - k = (l.length - (k + 1)) + 1 by omega, List.replicate_succ]
 have e3 : (l.take k).length = k := by simp; omega
 have e4 : (cpy l k).set k (l.getD k 0) = cpy l (k + 1) := by
  unfold cpy
  rw [e1, e2, List.set_append_right _ _ (by omega), e3, Nat.sub_self, List.set_cons_zero]
  simp
 rw [← e4, U, U, List.map_set]

theorem Tryd.infoByte : (Tryd.prog.info? 5).map (fun i => (i.zero, i.size, i.bytes)) = some (some (.int .u8 0), 1, 1) := by kernel_rfl

theorem grown_below {w w' : World} (h : w.grownBy w' none) : Below w.heap.size w w' := ⟨h.os, h.tape, h.output, h.size, fun k hk => h.block k hk (by simp)⟩

set_option maxHeartbeats 400000 in
theorem toByteS_any (v : Value) (l : List Int) (w : World) (h : Rd w v l) (hl : l.length ≤ 1048576) :
  Calls Tryd.prog 5 #[v] w fun e w' => ∃ p' c', e = .returned (.slice p' l.length c') ∧ Own w.heap.size w' (.slice p' l.length c') l ∧ Below w.heap.size w w' := by
 obtain ⟨i, hi, hz0, hz1, hz2⟩ := info_parts Tryd.infoByte
 obtain ⟨p, cap, rfl, h⟩ := h
 go_enter Tryd.func5, Tryd.ntmps5
 go_wp2_with (first | (at_make; refine wpList_make_full _ rfl _ _ 22 rfl w.heap.size 5 i (.int .u8 0) 1 Tryd.underlying22 hi hz0 hz1 _ _ _ _ l.length rfl rfl rfl rfl ?b2 ?b3 ?b4 ?_))
 case b2 => rw [hz2]; omega
 case b3 => unfold maxLen; omega
 case b4 => exact Nat.le_refl _
 intro w1 hown hg
 have hb := grown_below hg
 clear hg
 have hmade : (madeCells #[Value.int .u8 0] l.length).toList = U (cpy l 0) := by
  rw [cpy_zero, toList_madeCells_one]; simp
 rw [hmade] at hown
 clear hmade
 go_wp2
 go_loopw [4] (fun i wr => ∃ k : Nat, k ≤ l.length ∧ i = .int .i64 k ∧ wr.ownsRow w.heap.size 5 1 (.slice (some ⟨w.heap.size, 0, none⟩) l.length l.length) l.length (U (cpy l k)) ∧ Below w.heap.size w wr) (fun i _ => l.length - (intOf i).toNat)
 case atStart => exact ⟨0, Nat.zero_le _, rfl, hown, hb⟩
 case round =>
  obtain ⟨k, hk, rfl, ho, hbr⟩ := hrel
  by_cases hlt : k < l.length
  ·rcases h with rfl | ⟨b, o, rfl, hc⟩
   ·simp at hlt
   ·have hcx : wr.cell? ⟨b, o + k, none⟩ = some (.int .u8 (l.getD k 0)) := (hbr.cell (p := ⟨b, o + k, none⟩) (World.block_lt_of_cell? w _ (hc k hlt))).trans (hc k hlt)
    have hfz := ho.frozenAt k
    have hcc : ∃ u, wr.cell? ⟨w.heap.size, k, none⟩ = some u := by
     rw [ho.cellAt k (by omega)]
     exact ⟨_, List.getElem?_eq_getElem (by rw [List.length_map, cpy_length l k hk]; omega)⟩
    obtain ⟨u, hcu⟩ := hcc
    have hst := ho.stored k (.int .u8 (l.getD k 0))
    rw [cpy_step l k hlt] at hst
    have HS : Hid (World.ownsRow (wr.setCell ⟨w.heap.size, k, none⟩ (.int .u8 (l.getD k 0))) w.heap.size 5 1 (.slice (some ⟨w.heap.size, 0, none⟩) l.length l.length) l.length (U (cpy l (k + 1)))) := hst.1
    clear hst hc ho hown hb
    go_wp2
    go_roundw
    case rel => exact ⟨k + 1, by omega, by go_num, by simpa [hlt] using HS.out, hbr.setCell (Nat.le_refl _) _⟩
    case measure => simp [intOf]; omega
  ·have : k = l.length := by omega
   subst this
   rw [cpy_full] at ho
   go_wp2
   go_ret
   exact ⟨_, _, rfl, ho, hbr⟩

theorem take_eq_step (l1 l2 : List Int) (k : Nat) (h1 : k < l1.length) (h2 : k < l2.length) (h : l1.take k = l2.take k) (e : l1[k]?.getD 0 = l2[k]?.getD 0) : l1.take (k + 1) = l2.take (k + 1) := by
 rw [List.take_succ_eq_append_getElem h1, List.take_succ_eq_append_getElem h2, h]
 simp [List.getElem?_eq_getElem h1, List.getElem?_eq_getElem h2] at e
 rw [e]

theorem below_drewN {B : Nat} {w w' : World} (h : Below B w w') (n : Nat) : Below B w (w'.drewN n) := ⟨h.os, h.tape, h.output, h.size, h.block⟩

set_option maxHeartbeats 400000 in
theorem eqByteS_any (v1 v2 : Value) (l1 l2 : List Int) (w : World) (h1 : Rd w v1 l1) (h2 : Rd w v2 l2) (hl1 : l1.length ≤ 2097152) (hl2 : l2.length ≤ 2097152) :
  Calls Tryd.prog 8 #[v1, v2] w fun e w' => e = .returned (.bool (decide (l1 = l2))) ∧ Below w.heap.size w w' := by
 obtain ⟨p1, cap1, rfl, h1⟩ := h1
 obtain ⟨p2, cap2, rfl, h2⟩ := h2
 by_cases hlen : l1.length = l2.length
 ·have hne : ((l1.length : Int) != (l2.length : Int)) = false := by simp; omega
  go_enter Tryd.func8, Tryd.ntmps8
  go_wp2
  go_loopw [5] (fun i wr => ∃ k : Nat, k ≤ l1.length ∧ i = .int .i64 k ∧ l1.take k = l2.take k ∧ Below w.heap.size w wr) (fun i _ => l1.length - (intOf i).toNat)
  case atStart => exact ⟨0, Nat.zero_le _, rfl, rfl, Below.refl _ _⟩
  case round =>
   obtain ⟨k, hk, rfl, ht, hbr⟩ := hrel
   have HT : Hid (l1.take k = l2.take k) := ht
   clear ht
   by_cases hlt : k < l1.length
   ·rcases h1 with rfl | ⟨b1, o1, rfl, hc1⟩
    ·simp at hlt
    ·rcases h2 with rfl | ⟨b2, o2, rfl, hc2⟩
     ·simp at hlen; subst hlen; simp at hlt
     ·have hlt2 : k < l2.length := by omega
      have g1 : wr.cell? ⟨b1, o1 + k, none⟩ = some (.int .u8 (l1.getD k 0)) := (hbr.cell (p := ⟨b1, o1 + k, none⟩) (World.block_lt_of_cell? w _ (hc1 k hlt))).trans (hc1 k hlt)
      have g2 : wr.cell? ⟨b2, o2 + k, none⟩ = some (.int .u8 (l2.getD k 0)) := (hbr.cell (p := ⟨b2, o2 + k, none⟩) (World.block_lt_of_cell? w _ (hc2 k hlt2))).trans (hc2 k hlt2)
      have i1 : (k : Int) < (l1.length : Int) := by omega
      have i2 : (k : Int) < (l2.length : Int) := by omega
      have HL : Hid (l1.length = l2.length) := hlen
      clear hc1 hc2 hlen
      by_cases hx : l1[k] = l2[k]
      ·have hb : (l1[k] != l2[k]) = false := by simp only [bne_eq_false_iff_eq]; exact hx
       have HX : Hid (l1[k]?.getD 0 = l2[k]?.getD 0) := by show _ = _; simpa [hlt, hlt2] using hx
       clear hx
       go_wp2
       go_quiet (fail)
       go_wp2
       go_roundw
       case rel => exact ⟨k + 1, by omega, by go_num, take_eq_step l1 l2 k hlt hlt2 HT.out HX.out, below_drewN hbr _⟩
       case measure => simp [intOf]; omega
      ·have hb : (l1[k] != l2[k]) = true := by simp only [bne_iff_ne]; exact hx
       have HF : Hid (decide (l1 = l2) = false) := by
        show _ = _
        simp only [decide_eq_false_iff_not]; intro e; apply hx; simp [e]
       clear hx
       go_wp2
       go_quiet (fail)
       go_wp2
       go_ret
       exact ⟨by rw [HF.out]; rfl, below_drewN hbr _⟩
   ·have hkl : k = l1.length := by omega
    have HF : Hid (decide (l1 = l2) = true) := by
     have := HT.out
     rw [hkl, List.take_length, hlen, List.take_length] at this
     show _ = _
     simp [this]
    subst hkl
    clear HT hlen
    go_wp2
    go_ret
    exact ⟨by rw [HF.out]; rfl, hbr⟩
 ·have hne : ((l1.length : Int) != (l2.length : Int)) = true := by simp; omega
  have hfin : decide (l1 = l2) = false := by
   simp only [decide_eq_false_iff_not]; intro e; apply hlen; rw [e]
  rw [hfin]
  go_enter Tryd.func8, Tryd.ntmps8
  go_wp2
  go_ret
  exact ⟨rfl, Below.refl _ _⟩

theorem Own.lt {B : Nat} {w : World} {v : Value} {l : List Int} (h : Own B w v l) : ∀ b, v.ownBlock = some b → B ≤ b ∧ b < w.heap.size := World.ownsRow.lt h

theorem Own.set {B : Nat} {w : World} {v : Value} {l : List Int} (h : Own B w v l) {a : Addr} (ha : a.block < B) (u : Value) : Own B (w.setCell a u) v l := ownsRow_setCell_below h ha u

/-- the marks that a marking loop lays from k on -/
def marks (k : Int) : Nat → List Int
 | 0 => []
 | n + 1 => marks k n ++ [(k + n) % 256]

theorem marks_length (k : Int) (n : Nat) : (marks k n).length = n := by induction n with | zero => rfl | succ n ih => simp [marks, ih]

theorem marks_get (k : Int) (n j : Nat) (h : j < n) : (marks k n)[j]? = some ((k + j) % 256) := by
 induction n with
 | zero => omega
 | succ n ih =>
  by_cases e : j = n
  ·subst e; simp [marks, marks_length]
  ·rw [marks, List.getElem?_append_left (by rw [marks_length]; omega)]; exact ih (by omega)

/-- what a marked list reads behind j rounds -/
def marked (l : List Int) (k : Int) (j : Nat) : List Int := marks k j ++ l.drop j

theorem marked_length (l : List Int) (k : Int) (j : Nat) (h : j ≤ l.length) : (marked l k j).length = l.length := by simp [marked, marks_length]; omega

theorem marked_zero (l : List Int) (k : Int) : marked l k 0 = l := by simp [marked, marks]

theorem marked_full (l : List Int) (k : Int) : marked l k l.length = marks k l.length := by simp [marked]

theorem marked_step (l : List Int) (k : Int) (j : Nat) (h : j < l.length) : (U (marked l k j)).set j (.int .u8 ((k + j) % 256)) = U (marked l k (j + 1)) := by
 have e2 : l.drop j = l[j] :: l.drop (j + 1) := List.drop_eq_getElem_cons h
 have e4 : (marked l k j).set j ((k + j) % 256) = marked l k (j + 1) := by
  unfold marked
  rw [e2, List.set_append_right _ _ (by rw [marks_length]; omega), marks_length, Nat.sub_self, List.set_cons_zero]
  simp [marks]
 rw [← e4, U, U, List.map_set]

theorem grown_refl (w : World) (row : Option Nat) : w.grownBy w row := ⟨rfl, rfl, rfl, Nat.le_refl _, fun _ _ _ => rfl⟩

theorem grown_trans {w w1 w2 : World} {row : Option Nat} (h : w.grownBy w1 row) (k : w1.grownBy w2 row) : w.grownBy w2 row :=
 ⟨k.os.trans h.os, k.tape.trans h.tape, k.output.trans h.output, Nat.le_trans h.size k.size, fun i hi hne => (k.block i (Nat.lt_of_lt_of_le hi h.size) hne).trans (h.block i hi hne)⟩

set_option maxHeartbeats 400000 in
theorem markByteS_any (B : Nat) (p : Option Addr) (c : Nat) (l : List Int) (k : Int) (w : World) (h : Own B w (.slice p l.length c) l) (hl : l.length ≤ 2097152) (k0 : 0 ≤ k) (k1 : k ≤ 100000000) :
  Calls Tryd.prog 9 #[.slice p l.length c, .int .i64 k] w fun e w' => e = .returned (.int .i64 (k + l.length)) ∧ Own B w' (.slice p l.length c) (marks k l.length) ∧ w.grownBy w' (Value.ownBlock (.slice p l.length c)) := by
 have hcases : (p = none ∧ l = []) ∨ ∃ g, p = some ⟨g, 0, none⟩ := by
  rcases h.2 with ⟨e, h0⟩ | ⟨g, cap, cur, e, _⟩
  ·simp at e; exact .inl ⟨e.1, e.2.1⟩
  ·simp at e; exact .inr ⟨g, e.1⟩
 go_enter Tryd.func9, Tryd.ntmps9
 go_wp2
 go_loopw [1, 5] (fun kk i wr => ∃ j : Nat, j ≤ l.length ∧ i = .int .i64 j ∧ kk = .int .i64 (k + j) ∧ wr.ownsRow B 5 1 (.slice p l.length c) l.length (U (marked l k j)) ∧ w.grownBy wr (Value.ownBlock (.slice p l.length c))) (fun _ i _ => l.length - (intOf i).toNat)
 case atStart => exact ⟨0, Nat.zero_le _, rfl, by simp, by rw [marked_zero]; exact h, grown_refl _ _⟩
 case round =>
  obtain ⟨j, hj, rfl, rfl, ho, hg⟩ := hrel
  by_cases hlt : j < l.length
  ·rcases hcases with ⟨rfl, rfl⟩ | ⟨g, rfl⟩
   ·simp at hlt
   ·have hfz := ho.frozenAt j
    have hcc : ∃ u, wr.cell? ⟨g, j, none⟩ = some u := by
     rw [ho.cellAt j (by omega)]
     exact ⟨_, List.getElem?_eq_getElem (by rw [List.length_map, marked_length l k j hj]; omega)⟩
    obtain ⟨u, hcu⟩ := hcc
    have hst := ho.stored j (.int .u8 ((k + j) % 256))
    rw [marked_step l k j hlt] at hst
    have HS := hide hst.1
    have HG := hide (grown_trans hg hst.2)
    clear hst h ho
    go_wp2
    go_roundw
    case rel => exact ⟨j + 1, by omega, by go_num, by go_num, by simpa using HS.out, by simpa using HG.out⟩
    case measure => simp [intOf]; omega
  ·have : j = l.length := by omega
   subst this
   rw [marked_full] at ho
   go_wp2
   go_ret
   refine ⟨rfl, ?_, hg⟩
   unfold Own
   rw [marks_length]
   exact ho

set_option maxHeartbeats 400000 in
theorem heldByteS_any (p : Option Addr) (c n : Nat) (k : Int) (w : World) (h : Rd w (.slice p n c) (marks k n)) (hl : n ≤ 2097152) (k0 : 0 ≤ k) (k1 : k ≤ 100000000) :
  Calls Tryd.prog 28 #[.slice p n c, .int .i64 k] w fun e w' => e = .returned (.int .i64 (k + n)) ∧ Below w.heap.size w w' := by
 have hcases : n = 0 ∨ ∃ g o, p = some ⟨g, o, none⟩ ∧ ∀ j, j < n → w.cell? ⟨g, o + j, none⟩ = some (.int .u8 ((k + j) % 256)) := by
  obtain ⟨q, cap, e, h⟩ := h
  simp only [Value.slice.injEq, marks_length] at e
  obtain ⟨rfl, -, rfl⟩ := e
  rcases h with e | ⟨b, o, rfl, hc⟩
  ·left; have := congrArg List.length e; simpa [marks_length] using this
  ·right
   refine ⟨b, o, rfl, fun j hj => ?_⟩
   rw [hc j (by rw [marks_length]; exact hj)]
   simp [List.getD, marks_get k n j hj]
 clear h
 go_enter Tryd.func28, Tryd.ntmps28
 go_wp2
 go_loopw [1, 5] (fun kk i wr => ∃ j : Nat, j ≤ n ∧ i = .int .i64 j ∧ kk = .int .i64 (k + j) ∧ Below w.heap.size w wr) (fun _ i _ => n - (intOf i).toNat)
 case atStart => exact ⟨0, Nat.zero_le _, rfl, by simp, Below.refl _ _⟩
 case round =>
  obtain ⟨j, hj, rfl, rfl, hbr⟩ := hrel
  by_cases hlt : j < n
  ·rcases hcases with rfl | ⟨g, o, rfl, hc⟩
   ·omega
   ·have hcx : wr.cell? ⟨g, o + j, none⟩ = some (.int .u8 ((k + j) % 256)) := (hbr.cell (p := ⟨g, o + j, none⟩) (World.block_lt_of_cell? w _ (hc j hlt))).trans (hc j hlt)
    have hne : ((k + (j : Int)) % 256 != (k + (j : Int)) % 256) = false := by simp
    clear hc
    go_wp2
    go_roundw
    case rel => exact ⟨j + 1, by omega, by go_num, by go_num, by first | exact hbr | exact below_drewN hbr _⟩
    case measure => simp [intOf]; omega
  ·have : j = n := by omega
   subst this
   clear hcases
   go_wp2
   go_ret
   exact ⟨rfl, hbr⟩

/-- w' is w with new blocks, and with writes to the listed slices' blocks alone -/
structure Kept (vs : List Value) (w w' : World) : Prop where
 os : w'.os = w.os
 tape : w'.tape = w.tape
 output : w'.output = w.output
 size : w.heap.size ≤ w'.heap.size
 block : ∀ k, k < w.heap.size → (∀ v ∈ vs, v.ownBlock ≠ some k) → w'.heap[k]? = w.heap[k]?

theorem Kept.refl (vs : List Value) (w : World) : Kept vs w w := ⟨rfl, rfl, rfl, Nat.le_refl _, fun _ _ _ => rfl⟩

theorem Kept.trans {vs : List Value} {w w1 w2 : World} (h : Kept vs w w1) (k : Kept vs w1 w2) : Kept vs w w2 :=
 ⟨k.os.trans h.os, k.tape.trans h.tape, k.output.trans h.output, Nat.le_trans h.size k.size, fun i hi hne => (k.block i (Nat.lt_of_lt_of_le hi h.size) hne).trans (h.block i hi hne)⟩

theorem Kept.of_below {vs : List Value} {w w' : World} (h : Below w.heap.size w w') : Kept vs w w' := ⟨h.os, h.tape, h.output, h.size, fun k hk _ => h.block k hk⟩

theorem Kept.of_grown {vs : List Value} {w w' : World} {v : Value} (h : w.grownBy w' v.ownBlock) (hv : v ∈ vs) : Kept vs w w' :=
 ⟨h.os, h.tape, h.output, h.size, fun k hk hne => h.block k hk (fun e => hne v hv e.symm)⟩

theorem Kept.alloc {vs : List Value} {w w' : World} (h : Kept vs w w') (o : Obj) : Kept vs w (w'.alloc o) := h.trans (Kept.of_below ((Below.refl _ _).alloc (Nat.le_refl _) _))

theorem Kept.below {vs : List Value} {w w' : World} {B : Nat} (h : Kept vs w w') (hB : B ≤ w.heap.size) (hv : ∀ v ∈ vs, ∀ b, v.ownBlock = some b → B ≤ b) : Below B w w' :=
 ⟨h.os, h.tape, h.output, h.size, fun k hk => h.block k (by omega) (fun v hv' e => by have := hv v hv' k e; omega)⟩

theorem Rd.kept {vs : List Value} {w w' : World} {v : Value} {l : List Int} (h : Rd w v l) (hk : Kept vs w w') (hne : ∀ u ∈ vs, ∀ b, v.ownBlock = some b → u.ownBlock ≠ some b) : Rd w' v l := by
 obtain ⟨p, cap, rfl, h⟩ := h
 refine ⟨p, cap, rfl, ?_⟩
 rcases h with h | ⟨b, o, rfl, hc⟩
 ·exact .inl h
 ·refine .inr ⟨b, o, rfl, fun i hi => ?_⟩
  have e := hc i hi
  rw [← e]
  exact World.cell?_of_block (hk.block b (World.block_lt_of_cell? w _ e) (fun u hu => hne u hu b rfl))

theorem Own.keptBy {B : Nat} {vs : List Value} {w w' : World} {v : Value} {l : List Int} (h : Own B w v l) (hk : Kept vs w w') (hne : ∀ u ∈ vs, ∀ b, v.ownBlock = some b → u.ownBlock ≠ some b) : Own B w' v l := by
 refine ⟨h.1, ?_⟩
 rcases h.2 with hn | ⟨g, cap, cur, rfl, hb, hgg, rest⟩
 ·exact .inl hn
 ·refine .inr ⟨g, cap, cur, rfl, hb, ?_, rest⟩
  rw [hk.block g (Array.getElem?_eq_some_iff.1 hgg).1 (fun u hu => hne u hu g rfl)]
  exact hgg

theorem cell_below {w w' : World} {b o : Nat} {v : Value} (h : w.cell? ⟨b, o, none⟩ = some v) (hb : Below w.heap.size w w') : w'.cell? ⟨b, o, none⟩ = some v :=
 (hb.cell (p := ⟨b, o, none⟩) (World.block_lt_of_cell? w _ h)).trans h

theorem frozen_below {w w' : World} {b : Nat} (h : ∀ o, w.frozen? ⟨b, o, none⟩ = false) (hb : Below w.heap.size w w') (hlt : b < w.heap.size) : ∀ o, w'.frozen? ⟨b, o, none⟩ = false :=
 fun o => (hb.frozen (p := ⟨b, o, none⟩) hlt).trans (h o)

theorem Kept.cellAt {vs : List Value} {w w' : World} (h : Kept vs w w') {b : Nat} (hb : b < w.heap.size) (hv : ∀ v ∈ vs, v.ownBlock ≠ some b) : ∀ o, w'.cell? ⟨b, o, none⟩ = w.cell? ⟨b, o, none⟩ :=
 fun o => World.cell?_of_block (h.block b hb hv)

theorem Kept.more {vs us : List Value} {w w' : World} (h : Kept vs w w') (hs : ∀ v ∈ vs, v ∈ us) : Kept us w w' :=
 ⟨h.os, h.tape, h.output, h.size, fun k hk hne => h.block k hk (fun v hv => hne v (hs v hv))⟩

end Go.Proofs.YtlkhghcffhckmaaDoor
