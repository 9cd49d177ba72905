import Derived.Test.YtnbgnhhnpmmloaaGreatDoorK0
import Derived.Lib.SlSplitV
import Derived.Lib.IndexBytes
import Derived.Lib.CountLaws
import Derived.Lib.Bytes
import Derived.Deep.RegionHeld3
import Derived.Lib.AppendZeros
import Derived.Deep.RegionLaw
namespace Go.Proofs.YtnbgnhhnpmmloaaGreatDoor
open Go.ChangeShapes Go.WideShapes Go.ChangeAt Go.RowKit
set_option linter.unusedVariables false
set_option linter.unusedSimpArgs false
def Byt (l : List Int) : Prop := ∀ z ∈ l, 0 ≤ z ∧ z < 256
def cutG {α : Type} [DecidableEq α] (c : α) : List α → List (List α)
 | [] => [[]]
 | x :: l => if x = c then [] :: cutG c l else (match cutG c l with | [] => [[x]] | n :: ns => (x :: n) :: ns)
theorem cutG_no {α : Type} [DecidableEq α] {c : α} {s : List α} (h : c ∉ s) : cutG c s = [s] := by
 induction s with
 | nil => rfl
 | cons x l ih =>
  have hx : ¬ x = c := fun e => h (by simp [e])
  rw [cutG, if_neg hx, ih (fun h' => h (by simp [h']))]
theorem cutG_hit {α : Type} [DecidableEq α] {c : α} {s t : List α} (h : c ∉ s) : cutG c (s ++ c :: t) = s :: cutG c t := by
 induction s with
 | nil => simp [cutG]
 | cons x l ih =>
  have hx : ¬ x = c := fun e => h (by simp [e])
  rw [List.cons_append, cutG, if_neg hx, ih (fun h' => h (by simp [h']))]
theorem cutG_bad {α : Type} [DecidableEq α] {c x : α} (t : List α) (hx : ¬ x = c) (s : List α) (h : c ∉ s) : ∃ n ns, cutG c (s ++ x :: t) = (s ++ x :: n) :: ns := by
 induction s with
 | nil =>
  rw [List.nil_append, cutG, if_neg hx]
  cases cutG c t with
  | nil => exact ⟨[], [], rfl⟩
  | cons n ns => exact ⟨n, ns, rfl⟩
 | cons y l ih =>
  have hy : ¬ y = c := fun e => h (by simp [e])
  obtain ⟨n, ns, e⟩ := ih (fun h' => h (by simp [h']))
  exact ⟨n, ns, by rw [List.cons_append, cutG, if_neg hy, e]; rfl⟩
theorem cutG_pos {α : Type} [DecidableEq α] (c : α) (s : List α) : 1 ≤ (cutG c s).length := by
 cases s with
 | nil => simp [cutG]
 | cons x l =>
  rw [cutG]
  split
  ·simp
  ·split <;> simp
theorem cutG_map {α β : Type} [DecidableEq α] [DecidableEq β] (f : α → β) (c : α) (s : List α) (h : ∀ x ∈ s, f x = f c → x = c) : cutG (f c) (s.map f) = (cutG c s).map (List.map f) := by
 induction s with
 | nil => rfl
 | cons x l ih =>
  have ih := ih fun y hy => h y (by simp [hy])
  rw [List.map_cons, cutG, cutG, ih]
  by_cases hx : x = c
  ·rw [if_pos (by rw [hx]), if_pos hx]; rfl
  ·rw [if_neg (fun e => hx (h x (by simp) e)), if_neg hx]
   cases cutG c l <;> rfl
theorem indexByte_no {s : List UInt8} {c : UInt8} (h : c ∉ s) : Lib.indexByte s c = -1 := by
 induction s with
 | nil => rfl
 | cons x l ih =>
  have hx : ¬ x = c := fun e => h (by simp [e])
  unfold Lib.indexByte
  rw [ih (fun h' => h (by simp [h']))]
  simp [hx]
theorem indexByte_hit {s t : List UInt8} {c : UInt8} (h : c ∉ s) : Lib.indexByte (s ++ c :: t) c = s.length := by
 induction s with
 | nil => simp [Lib.indexByte]
 | cons x l ih =>
  have hx : ¬ x = c := fun e => h (by simp [e])
  have e := ih (fun h' => h (by simp [h']))
  rw [List.cons_append]
  unfold Lib.indexByte
  rw [e]
  have h1 : ¬ ((l.length : Int) == -1) = true := by simp
  rw [if_neg (by simpa using hx), if_neg h1]
  simp
theorem split_cut (c : UInt8) : ∀ (n : Nat) (s : List UInt8), s.length < n → Lib.splitK [c] 0 (Lib.count s [c]) s = cutG c s ∧ Lib.count s [c] + 1 = (cutG c s).length := by
 intro n
 induction n with
 | zero => intro s h; omega
 | succ n ih =>
  intro s h
  by_cases hc : c ∈ s
  ·obtain ⟨pre, t, rfl, hp⟩ := List.eq_append_cons_of_mem hc
   have hi : Lib.index (pre ++ c :: t) [c] = (pre.length : Nat) := by rw [Lib.index_one, indexByte_hit hp]
   have hd : (pre ++ c :: t).drop (pre.length + 1) = t := by
    rw [List.drop_append]
    simp
   obtain ⟨e1, e2⟩ := ih t (by simp at h; omega)
   rw [Lib.count_hit (by simp) hi, cutG_hit hp]
   simp only [List.length_cons, List.length_nil, Nat.zero_add, hd]
   constructor
   ·rw [Nat.add_comm 1, Lib.splitK, if_neg (by rw [hi]; simp), hi]
    simp only [Int.toNat_natCast, List.length_cons, List.length_nil, Nat.zero_add, Nat.add_zero, hd, e1]
    simp
   ·omega
  ·have hi : Lib.index s [c] = -1 := by rw [Lib.index_one, indexByte_no hc]
   rw [Lib.count_miss hi, cutG_no hc]
   exact ⟨rfl, rfl⟩
def nmB (c : Int) : Bool := (decide (97 ≤ c) && decide (c ≤ 122)) || (decide (48 ≤ c) && decide (c ≤ 57)) || c == 45 || c == 95
def nmOK (l : List Int) : Bool := decide (1 ≤ l.length) && decide (l.length ≤ 16) && l.all nmB
def st (k : Nat) : List Int → Bool
 | [] => decide (1 ≤ k) && decide (k ≤ 8)
 | c :: t => c == 47 && (decide (k + (cutG 47 t).length ≤ 8) && (cutG 47 t).all nmOK)
def vp (p : List Int) : Bool := st 0 p
theorem nmB_ne {c : Int} (h : nmB c = true) : ¬ c = 47 := by
 intro e
 subst e
 revert h
 decide
theorem no_slash {l : List Int} (h : ∀ x ∈ l, nmB x = true) : (47 : Int) ∉ l := fun hm => nmB_ne (h _ hm) rfl
theorem st_end {k : Nat} {nm : List Int} (h : ∀ x ∈ nm, nmB x = true) : st k (47 :: nm) = (nmOK nm && st (k + 1) []) := by
 rw [st, st, cutG_no (no_slash h)]
 by_cases hk : k + 1 ≤ 8
 ·simp [hk]
 ·simp [hk]
theorem st_next {k : Nat} {nm t : List Int} (h : ∀ x ∈ nm, nmB x = true) : st k (47 :: (nm ++ 47 :: t)) = (nmOK nm && st (k + 1) (47 :: t)) := by
 rw [st, st, cutG_hit (no_slash h)]
 have e : k + (nm :: cutG 47 t).length = k + 1 + (cutG 47 t).length := by simp; omega
 rw [e]
 rw [List.all_cons]
 cases nmOK nm <;> cases decide (k + 1 + (cutG 47 t).length ≤ 8) <;> cases (cutG 47 t).all nmOK <;> rfl
theorem st_bad {k : Nat} {nm t : List Int} {c : Int} (h : ∀ x ∈ nm, nmB x = true) (hc : ¬ c = 47) (hb : nmB c = false) : st k (47 :: (nm ++ c :: t)) = false := by
 obtain ⟨n, ns, e⟩ := cutG_bad t hc nm (no_slash h)
 rw [st, e]
 have h0 : nmOK (nm ++ c :: n) = false := by
  rw [nmOK, List.all_append, List.all_cons, hb]
  simp
 rw [List.all_cons, h0]
 simp
theorem st_first {k : Nat} {c : Int} {t : List Int} (hc : ¬ c = 47) : st k (c :: t) = false := by
 rw [st]
 simp [hc]
theorem bytesOf_inj : ∀ {a b : List Int}, Byt a → Byt b → Lib.bytesOf a = Lib.bytesOf b → a = b
 | [], [], _, _, _ => rfl
 | [], y :: b, _, _, h => by simp [Lib.bytesOf] at h
 | x :: a, [], _, _, h => by simp [Lib.bytesOf] at h
 | x :: a, y :: b, ha, hb, h => by
  simp only [Lib.bytesOf, List.map_cons, List.cons.injEq] at h
  have h1 := ha x (by simp)
  have h2 := hb y (by simp)
  have e : x = y := by
   have := congrArg UInt8.toNat h.1
   simp at this
   omega
  rw [e, bytesOf_inj (fun z hz => ha z (by simp [hz])) (fun z hz => hb z (by simp [hz])) h.2]
theorem split_ints {t : List Int} (hB : Byt t) : Lib.splitK (Lib.bytesOf [47]) 0 (Lib.count (Lib.bytesOf t) (Lib.bytesOf [47])) (Lib.bytesOf t) = (cutG 47 t).map Lib.bytesOf ∧ Lib.count (Lib.bytesOf t) (Lib.bytesOf [47]) + 1 = (cutG 47 t).length := by
 have e47 : Lib.bytesOf [47] = [UInt8.ofNat (47 : Int).toNat] := rfl
 obtain ⟨e1, e2⟩ := split_cut (UInt8.ofNat (47 : Int).toNat) _ (Lib.bytesOf t) (Nat.lt_succ_self _)
 have em : cutG (UInt8.ofNat (47 : Int).toNat) (Lib.bytesOf t) = (cutG 47 t).map Lib.bytesOf := by
  refine cutG_map (fun n : Int => UInt8.ofNat n.toNat) 47 t fun x hx e => ?_
  have h1 := hB x hx
  have := congrArg UInt8.toNat e
  simp at this
  omega
 rw [e47, e1, em]
 refine ⟨rfl, ?_⟩
 rw [e2, em, List.length_map]
theorem cut_byt {t : List Int} (hB : Byt t) : ∀ n ∈ cutG 47 t, Byt n := by
 induction t with
 | nil => intro n hn; simp [cutG] at hn; subst hn; intro z hz; simp at hz
 | cons x l ih =>
  have ih := ih fun z hz => hB z (by simp [hz])
  intro n hn
  rw [cutG] at hn
  split at hn
  ·rcases List.mem_cons.1 hn with rfl | hn
   ·intro z hz; simp at hz
   ·exact ih n hn
  ·cases hc : cutG 47 l with
   | nil =>
    rw [hc] at hn
    simp at hn
    subst hn
    intro z hz
    simp at hz
    subst hz
    exact hB _ (by simp)
   | cons m ms =>
    rw [hc] at hn ih
    rcases List.mem_cons.1 hn with rfl | hn
    ·intro z hz
     rcases List.mem_cons.1 hz with rfl | hz
     ·exact hB _ (by simp)
     ·exact ih m (by simp) z hz
    ·exact ih n (by simp [hn])
end Go.Proofs.YtnbgnhhnpmmloaaGreatDoor
namespace Go.Proofs.YtnbgnhhnpmmloaaGreatDoor
open Go.ChangeShapes Go.WideShapes Go.ChangeAt Go.RowKit Go.Deep
set_option linter.unusedVariables false
set_option linter.unusedSimpArgs false
set_option maxRecDepth 100000
theorem Own.form {B : Nat} {w : World} {v : Value} {l : List Int} (h : Own B w v l) : ∃ p c, v = .slice p l.length c := by
 rcases h.2 with ⟨rfl, h0⟩ | ⟨g, cap, cur, rfl, _⟩
 ·exact ⟨none, 0, by rw [h0]⟩
 ·exact ⟨_, _, rfl⟩
theorem Rd.news {w : World} {a : Addr} {c : Nat} {l : List Int} (h : Rd w (.slice (some a) l.length c) l) : (U l).length = l.length * 1 ∧ (∀ j u, (U l)[j]? = some u → w.cell? (a.add j) = some u) ∧ (∀ u ∈ U l, u.oneCell' = true) := by
 refine ⟨by simp, ?_, ?_⟩
 ·intro j u hj
  obtain ⟨p, cap, e, h⟩ := h
  simp only [Value.slice.injEq] at e
  obtain ⟨rfl, -, rfl⟩ := e
  rcases h with rfl | ⟨b, o, e, hc⟩
  ·simp at hj
  ·simp only [Option.some.injEq] at e
   subst e
   have hjl : j < l.length := by
    have := (List.getElem?_eq_some_iff.1 hj).1
    simpa using this
   have := hc j hjl
   rw [Addr.add_lit, this]
   simp [List.getD, List.getElem?_eq_getElem hjl] at hj ⊢
   exact hj
 ·intro u hu
  obtain ⟨x, _, rfl⟩ := List.mem_map.1 hu
  rfl
theorem Rd.none_nil {w : World} {c : Nat} {l : List Int} (h : Rd w (.slice none l.length c) l) : l = [] := by
 obtain ⟨p, cap, e, h⟩ := h
 simp only [Value.slice.injEq] at e
 obtain ⟨rfl, -, rfl⟩ := e
 rcases h with rfl | ⟨b, o, e, hc⟩
 ·rfl
 ·cases e
theorem run_append_none_any {P : Program} (w : World) (base : Nat) (t ty e : TypeId) (i : TypeInfo) (size : Nat) (ht : P.underlying t = some (.slice e)) (hi : P.info? e = some i)
  (v : Value) (n : Nat) (xs : List Value) (c : Nat) (hown : w.ownsRow base e size v n xs) :
  (Builtin.append_ #[t, t] ty #[v, .slice none 0 c]).run P w = .ok v w := by
 rcases hown.2 with ⟨rfl, rfl⟩ | ⟨g, cap, cur, rfl, _, _, hnc, _⟩
 ·simp [Builtin.append_, run_underlying ht, sizeOf, typeInfo, hi, Builtin.lenOf, Builtin.firstCells]
 ·simp [Builtin.append_, run_underlying ht, sizeOf, typeInfo, hi, Builtin.lenOf, Builtin.firstCells, hnc, storeCells]
set_option maxHeartbeats 400000 in
theorem l1copy_any (p : Option Addr) (c : Nat) (l : List Int) (w : World) (h : Rd w (.slice p l.length c) l) (hl : l.length ≤ 2097152) :
  Calls Tryz.prog 78 #[.slice p l.length c] w fun e w' => ∃ p' c', e = .returned (.slice p' l.length c') ∧ Own w.heap.size w' (.slice p' l.length c') l ∧ Below w.heap.size w w' := by
 obtain ⟨i, hi, hz0, hz1, hz2⟩ := info_parts Tryz.infoByte
 cases p with
 | none =>
  have e := h.none_nil
  subst e
  have hap := fun w : World => run_append_none_any (P := Tryz.prog) w 0 22 22 5 i 1 Tryz.underlying22 hi _ 0 [] c (World.ownsRow_nil w 0 5 1)
  go_enter Tryz.func78, Tryz.ntmps78
  go_wp2
  go_ret
  exact ⟨none, 0, rfl, World.ownsRow_nil _ _ _ _, Below.refl _ _⟩
 | some a =>
  obtain ⟨n1, n2, n3⟩ := h.news
  clear h
  go_enter Tryz.func78, Tryz.ntmps78
  go_wp2_with (at_builtin; refine wpList_append_own _ rfl _ _ 22 rfl w.heap.size 5 i (.int .u8 0) 1 1 Tryz.underlying22 hi hz0 hz1 hz2 rfl (by decide) _ _ _ rfl (World.ownsRow_nil _ _ _ _) a _ c (U l) rfl n1 n2 n3 (by unfold maxLen; omega) (by omega) (Nat.le_refl _) ?_)
  intro v' w1 hown hg _
  have ho : Own w.heap.size w1 v' l := by simpa using hown
  obtain ⟨p', c', rfl⟩ := ho.form
  have hb := grown_below hg
  clear hown hg
  go_wp2
  go_ret
  exact ⟨p', c', rfl, ho, hb⟩
theorem wpList_append_rd {w : World} {ops : Array Oper} {rest : List Oper} {o : Oper} {a : Act} {Q : Exit → Act → World → Prop} (hgd : o.guard = none) (s x : Operand)
  (ho : o.op = .call { callee := .builtin .append, args := #[s, x], argTypes := #[22, 22] })
  (B : Nat) (v : Value) (l m lm : List Int) (elm : Hid (lm = l ++ m)) (p : Option Addr) (c : Nat) (hs : a.eval s = v) (hx : a.eval x = .slice p m.length c) (hown : Own B w v l) (hr : Rd w (.slice p m.length c) m)
  (hl : l.length + m.length ≤ 4194304) (hB : B ≤ w.heap.size)
  (hK : ∀ p' c' w', Own B w' (.slice p' lm.length c') lm → w.grownBy w' v.ownBlock → wpList Tryz.prog ops Q rest (a.put o.dst (.slice p' lm.length c')) w') : wpList Tryz.prog ops Q (o :: rest) a w := by
 obtain ⟨i, hi, hz0, hz1, hz2⟩ := info_parts Tryz.infoByte
 have e := uh elm
 subst e
 cases p with
 | none =>
  have e := hr.none_nil
  subst e
  obtain ⟨pv, cv, rfl⟩ := hown.form
  have hap := run_append_none_any (P := Tryz.prog) w B 22 o.type 5 i 1 Tryz.underlying22 hi _ _ _ c hown
  refine Lib.wpList_append_run w hgd s x 22 22 ho _ _ hs hx _ _ hap ?_
  have := hK pv cv w (by simpa using hown) ⟨rfl, rfl, rfl, Nat.le_refl _, fun _ _ _ => rfl⟩
  simpa using this
 | some ad =>
  obtain ⟨n1, n2, n3⟩ := hr.news
  refine wpList_append_own w hgd s x 22 ho B 5 i (.int .u8 0) 1 1 Tryz.underlying22 hi hz0 hz1 hz2 rfl (by decide) v _ _ hs hown ad _ c (U m) hx n1 n2 n3 (by unfold maxLen; omega) (by omega) hB ?_
  intro v' w' h1 h2 _
  have ho2 : Own B w' v' (l ++ m) := by unfold Own; rw [List.length_append, U, List.map_append]; exact h1
  obtain ⟨p', c', rfl⟩ := ho2.form
  exact hK p' c' w' ho2 h2
set_option maxHeartbeats 400000 in
theorem growNil_any (n : Nat) (w : World) (hn : n ≤ 4194304) :
  Calls Tryz.prog 143 #[.slice none 0 0, .int .i64 n] w fun e w' => ∃ p' c', e = .returned (.slice p' 0 c') ∧ Own w.heap.size w' (.slice p' 0 c') [] ∧ Below w.heap.size w w' := by
 obtain ⟨i, hi, hz0, hz1, hz2⟩ := info_parts Tryz.infoByte
 by_cases h : n = 0
 ·subst h
  go_enter Tryz.func143, Tryz.ntmps143
  go_wp2
  go_ret
  exact ⟨none, 0, rfl, World.ownsRow_nil _ _ _ _, Below.refl _ _⟩
 ·have hp : (0 : Int) < (n : Int) := by omega
  have hr := Lib.run_append_nil_zeros (P := Tryz.prog) w 22 3 22 5 i (.int .u8 0) .i64 .i64 Tryz.underlying22 Tryz.underlying3 hi hz0 n (by omega) (by omega) (by omega) (by rw [hz2]; omega)
  have HR := hide hr
  have hcap := grownCap_ge w n 0 5
  have hcm := grownCap_le_maxLen w n 0 5 (by unfold maxLen; omega)
  generalize grownCap w n 0 5 = cc at HR hcap hcm
  clear hr
  go_enter Tryz.func143, Tryz.ntmps143
  go_wp2_with (at_builtin; refine Lib.wpList_append_run _ rfl _ _ _ _ rfl _ _ rfl rfl _ _ (by exact uh HR) ?_)
  unfold maxLen at hcm
  go_wp2
  go_ret
  have hs : (Builtin.zeroCells #[Value.int IntKind.u8 0] n ++ Builtin.zeroCells #[Value.int IntKind.u8 0] (cc - n)).size = cc * 1 := by
   rw [Array.size_append, size_zeroCells, size_zeroCells]; simp; omega
  exact ⟨_, cc, rfl, World.ownsRow_made (base := w.heap.size) (e := 5) (size := 1) w _ cc (Nat.le_refl _) (by unfold maxLen; omega) hs, ((Below.refl _ _).alloc (Nat.le_refl _) _).drew⟩
def Parts (w : World) (g : Nat) (vs : List Value) (ls : List (List Int)) : Prop :=
 vs.length = ls.length ∧ ∀ j v l, vs[j]? = some v → ls[j]? = some l → w.cell? ⟨g, j, none⟩ = some v ∧ Rd w v l
theorem Parts.below {w w' : World} {g : Nat} {vs : List Value} {ls : List (List Int)} (h : Parts w g vs ls) (hb : Below w.heap.size w w') : Parts w' g vs ls :=
 ⟨h.1, fun j v l e1 e2 => ⟨cell_below (h.2 j v l e1 e2).1 hb, (h.2 j v l e1 e2).2.below hb⟩⟩
theorem Parts.get {w : World} {g : Nat} {vs : List Value} {ls : List (List Int)} (h : Parts w g vs ls) (j : Nat) (hj : j < ls.length) : ∃ (p : Option Addr) (c : Nat) (l : List Int), ls[j]? = some l ∧ w.cell? ⟨g, j, none⟩ = some (.slice p l.length c) ∧ Rd w (.slice p l.length c) l := by
 have hv : j < vs.length := by rw [h.1]; exact hj
 obtain ⟨h1, h2⟩ := h.2 j vs[j] ls[j] (List.getElem?_eq_getElem hv) (List.getElem?_eq_getElem hj)
 obtain ⟨p, c, e, hh⟩ := id h2
 exact ⟨p, c, ls[j], List.getElem?_eq_getElem hj, by rw [h1, e], by rw [e] at h2; exact h2⟩
def cat (ls : List (List Int)) : List Int := ls.flatten
theorem cat_nil : cat [] = [] := rfl
theorem flat_step (ls : List (List Int)) (k : Nat) (l : List Int) (h : ls[k]? = some l) : cat (ls.take (k + 1)) = cat (ls.take k) ++ l := by
 obtain ⟨hk, e⟩ := List.getElem?_eq_some_iff.1 h
 unfold cat
 rw [List.take_succ_eq_append_getElem hk, List.flatten_append, e]
 simp only [List.flatten_cons, List.flatten_nil, List.append_nil]
theorem flat_le (ls : List (List Int)) (k : Nat) : (cat (ls.take k)).length ≤ (cat ls).length := by
 have e : cat ls = cat (ls.take k) ++ cat (ls.drop k) := by unfold cat; rw [← List.flatten_append, List.take_append_drop]
 rw [e, List.length_append]; omega
set_option maxHeartbeats 800000 in
theorem concat_any (g : Nat) (vs : List Value) (ls : List (List Int)) (w : World) (h : Parts w g vs ls) (hl : (cat ls).length ≤ 4194304) (hk : ls.length ≤ 1000) :
  Calls Tryz.prog 100 #[.slice (some ⟨g, 0, none⟩) ls.length ls.length] w fun e w' => ∃ p' c', e = .returned (.slice p' (cat ls).length c') ∧ Own w.heap.size w' (.slice p' (cat ls).length c') (cat ls) ∧ Below w.heap.size w w' := by
 obtain ⟨i, hi, hz0, hz1, hz2⟩ := info_parts Tryz.infoByte
 go_enter Tryz.func100, Tryz.ntmps100
 go_wp2
 go_loopw [3, 11] (fun s i wr => ∃ k : Nat, k ≤ ls.length ∧ i = .int .i64 k ∧ s = .int .i64 ((cat (ls.take k)).length : Nat) ∧ Below w.heap.size w wr) (fun _ i _ => ls.length - (intOf i).toNat)
 case atStart => exact ⟨0, Nat.zero_le _, rfl, by simp [cat], Below.refl _ _⟩
 case round =>
  obtain ⟨k, hk1, rfl, rfl, hbr⟩ := hrel
  have hfl := flat_le ls k
  by_cases hlt : k < ls.length
  ·obtain ⟨p, c, l, e1, e2, e3⟩ := (h.below hbr).get k hlt
   have hst := flat_step ls k l e1
   have hln : (cat (ls.take k)).length + l.length = (cat (ls.take (k + 1))).length := by rw [hst]; simp
   have hfl2 := flat_le ls (k + 1)
   have hle : (cat (ls.take k)).length + l.length ≤ 4194304 := by omega
   have HL := hide hln
   clear hln hst hfl2 e3 e1
   generalize (cat (ls.take k)).length = a at *
   go_wp2
   go_roundw
   case rel => exact ⟨k + 1, by omega, by go_num, by rw [← uh HL]; go_num, hbr⟩
   case measure => simp [intOf]; omega
  ·have e : k = ls.length := by omega
   subst e
   rw [List.take_length]
   rw [List.take_length] at hfl
   go_wp2_with fail
   refine (growNil_any _ _ hl).mono ?_
   rintro e w1 ⟨p1, c1, rfl, o1, hb1⟩
   replace o1 : Own w.heap.size w1 (.slice p1 0 c1) [] := o1.mono hbr.size
   have b1 := Below.step hbr hb1
   clear hb1 hbr hfl
   go_wp2
   go_loopw [6, 27] (fun v i wr => ∃ k : Nat, k ≤ ls.length ∧ i = .int .i64 k ∧ (∃ p c, v = .slice p (cat (ls.take k)).length c ∧ Own w.heap.size wr v (cat (ls.take k))) ∧ Below w.heap.size w wr) (fun _ i _ => ls.length - (intOf i).toNat)
   case atStart => exact ⟨0, Nat.zero_le _, rfl, ⟨p1, c1, by simp [cat], by simpa [cat] using o1⟩, b1⟩
   case round =>
    obtain ⟨k, hk1, rfl, ⟨pv, cv, rfl, ho⟩, hbr⟩ := hrel
    have hfl := flat_le ls k
    by_cases hlt : k < ls.length
    ·obtain ⟨p, c, l, e1, e2, e3⟩ := (h.below hbr).get k hlt
     have hst := flat_step ls k l e1
     have hfl2 := flat_le ls (k + 1)
     have hle : (cat (ls.take k)).length + l.length ≤ 4194304 := by have := congrArg List.length hst; simp only [List.length_append] at this; omega
     have HS := hide hst
     clear hst hfl2 e1 o1 b1
     generalize (cat (ls.take k)) = a at *
     cases p with
     | none =>
      have e := e3.none_nil
      subst e
      have HA := hide (run_append_none_any (P := Tryz.prog) wr w.heap.size 22 22 5 i 1 Tryz.underlying22 hi _ _ _ c ho)
      go_wp2_with (at_builtin; refine Lib.wpList_append_run _ rfl _ _ _ _ rfl _ _ rfl rfl _ _ (by exact uh HA) ?_)
      go_roundw
      case rel => exact ⟨k + 1, by omega, by go_num, ⟨pv, cv, by rw [uh HS]; simp, by rw [uh HS]; simpa using ho⟩, hbr⟩
      case measure => simp [intOf]; omega
     | some ad =>
      obtain ⟨n1, n2, n3⟩ := e3.news
      clear e3
      go_wp2_with (at_builtin; refine wpList_append_own _ rfl _ _ 22 rfl w.heap.size 5 i (.int .u8 0) 1 1 Tryz.underlying22 hi hz0 hz1 hz2 rfl (by decide) _ _ _ rfl ho ad _ c (U l) rfl n1 n2 n3 (by unfold maxLen; omega) (by omega) hbr.size ?_)
      intro v' w2 hown hg _
      have b2 : Below w.heap.size w w2 := hbr.grown hg hbr.size (fun k hk => (ho.lt k hk).1)
      have ho2 : Own w.heap.size w2 v' (a ++ l) := by unfold Own; rw [List.length_append, U, List.map_append]; exact hown
      obtain ⟨p', c', rfl⟩ := ho2.form
      clear hown hg n2
      go_wp2
      go_roundw
      case rel => exact ⟨k + 1, by omega, by go_num, ⟨p', c', by rw [uh HS], by rw [uh HS]; exact ho2⟩, b2⟩
      case measure => simp [intOf]; omega
    ·have e : k = ls.length := by omega
     subst e
     rw [List.take_length] at ho
     clear o1 b1 hfl
     go_wp2
     go_ret
     exact ⟨pv, cv, by rw [List.take_length]; rfl, ho, hbr⟩
theorem wpList_append_rdn {w : World} {ops : Array Oper} {rest : List Oper} {o : Oper} {a : Act} {Q : Exit → Act → World → Prop} (hgd : o.guard = none) (s x : Operand)
  (ho : o.op = .call { callee := .builtin .append, args := #[s, x], argTypes := #[22, 22] })
  (B : Nat) (v : Value) (l m lm : List Int) (elm : Hid (lm = l ++ m)) (p : Option Addr) (c k : Nat) (hk : Hid (m.length = k)) (hs : a.eval s = v) (hx : a.eval x = .slice p k c) (hown : Own B w v l) (hr : Rd w (.slice p k c) m)
  (hl : l.length + m.length ≤ 4194304) (hB : B ≤ w.heap.size)
  (hK : ∀ p' c' w', Own B w' (.slice p' lm.length c') lm → w.grownBy w' v.ownBlock → wpList Tryz.prog ops Q rest (a.put o.dst (.slice p' lm.length c')) w') : wpList Tryz.prog ops Q (o :: rest) a w := by
 have e := uh hk
 subst e
 exact wpList_append_rd hgd s x ho B v l m lm elm p c hs hx hown hr hl hB hK
theorem Own.one (w : World) (y : Int) : Own w.heap.size (w.alloc (.cells #[.int .u8 y] 5)) (.slice (some ⟨w.heap.size, 0, none⟩) 1 1) [y] :=
 World.ownsRow_lit w #[.int .u8 y] 1 (Nat.le_refl _) (by unfold maxLen; omega) rfl
theorem below_grown {B : Nat} {a w w' : World} {v : Value} {l : List Int} {C : Nat} (h : Below B a w) (hg : w.grownBy w' v.ownBlock) (ho : Own C w v l) (hC : B ≤ C) (hB : B ≤ w.heap.size) : Below B a w' :=
 h.grown hg hB (fun k e => by have := (ho.lt k e).1; omega)
theorem wpList_append_byte {w : World} {ops : Array Oper} {rest : List Oper} {o : Oper} {a : Act} {Q : Exit → Act → World → Prop} (hgd : o.guard = none) (s x : Operand)
  (ho : o.op = .call { callee := .builtin .append, args := #[s, x], argTypes := #[22, 22] })
  (B : Nat) (v : Value) (l lm : List Int) (y : Int) (elm : Hid (lm = l ++ [y])) (g : Nat) (hs : a.eval s = v) (hx : a.eval x = .slice (some ⟨g, 0, none⟩) 1 1) (hown : Own B w v l) (hc : w.cell? ⟨g, 0, none⟩ = some (.int .u8 y))
  (hl : l.length < 4194304) (hB : B ≤ w.heap.size)
  (h : ∀ p' c' w', Own B w' (.slice p' lm.length c') lm → w.grownBy w' v.ownBlock → wpList Tryz.prog ops Q rest (a.put o.dst (.slice p' lm.length c')) w') : wpList Tryz.prog ops Q (o :: rest) a w := by
 have hr : Rd w (.slice (some ⟨g, 0, none⟩) 1 1) [y] := by
  refine ⟨_, _, rfl, .inr ⟨g, 0, rfl, fun i hi => ?_⟩⟩
  have e : i = 0 := by simpa using hi
  subst e
  simpa using hc
 exact wpList_append_rd hgd s x ho B v l [y] lm elm (some ⟨g, 0, none⟩) 1 hs hx hown hr (by simp; omega) hB h
end Go.Proofs.YtnbgnhhnpmmloaaGreatDoor
