import Derived.Test.YtlkhghcffhckmaaDoorGA
import Derived.Lib.SlSplitV
import Derived.Lib.IndexBytes
import Derived.Lib.CountLaws
import Derived.Lib.Bytes
namespace Go.Proofs.YtlkhghcffhckmaaDoor
open Go.ChangeShapes Go.WideShapes Go.ChangeAt Go.RowKit
set_option linter.unusedVariables false
set_option linter.unusedSimpArgs false

/-- a list of bytes -/
def Byt (l : List Int) : Prop := ∀ z ∈ l, 0 ≤ z ∧ z < 256

/-- a list cut at every c -/
def cutG {α : Type} [DecidableEq α] (c : α) : List α → List (List α)
 | [] => [[]]
 | x :: l => if x = c then [] :: cutG c l else (match cutG c l with | [] => [[x]] | n :: ns => (x :: n) :: ns)
theorem cutG_no {α : Type} [DecidableEq α] {c : α} {s : List α} (h : c ∉ s) : cutG c s = [s] := by
 induction s with
 | nil => rfl
 | cons x l ih =>
  have hx : ¬ x = c := fun e => h (by simp [e])
  rw [cutG, if_neg hx, ih (fun h' => h (by simp [h']))]
theorem cutG_hit {α : Type} [DecidableEq α] {c : α} {s t : List α} (h : c ∉ s) : cutG c (s ++ c :: t) = s :: cutG c t := by
 induction s with
 | nil => simp [cutG]
 | cons x l ih =>
  have hx : ¬ x = c := fun e => h (by simp [e])
  rw [List.cons_append, cutG, if_neg hx, ih (fun h' => h (by simp [h']))]
theorem cutG_bad {α : Type} [DecidableEq α] {c x : α} (t : List α) (hx : ¬ x = c) (s : List α) (h : c ∉ s) : ∃ n ns, cutG c (s ++ x :: t) = (s ++ x :: n) :: ns := by
 induction s with
 | nil =>
  rw [List.nil_append, cutG, if_neg hx]
  cases cutG c t with
  | nil => exact ⟨[], [], rfl⟩
  | cons n ns => exact ⟨n, ns, rfl⟩
 | cons y l ih =>
  have hy : ¬ y = c := fun e => h (by simp [e])
  obtain ⟨n, ns, e⟩ := ih (fun h' => h (by simp [h']))
  exact ⟨n, ns, by rw [List.cons_append, cutG, if_neg hy, e]; rfl⟩
theorem cutG_pos {α : Type} [DecidableEq α] (c : α) (s : List α) : 1 ≤ (cutG c s).length := by
 cases s with
 | nil => simp [cutG]
 | cons x l =>
  rw [cutG]
  split
  ·simp
  ·split <;> simp
theorem cutG_map {α β : Type} [DecidableEq α] [DecidableEq β] (f : α → β) (c : α) (s : List α) (h : ∀ x ∈ s, f x = f c → x = c) : cutG (f c) (s.map f) = (cutG c s).map (List.map f) := by
 induction s with
 | nil => rfl
 | cons x l ih =>
  have ih := ih fun y hy => h y (by simp [hy])
  rw [List.map_cons, cutG, cutG, ih]
  by_cases hx : x = c
  ·rw [if_pos (by rw [hx]), if_pos hx]; rfl
  ·rw [if_neg (fun e => hx (h x (by simp) e)), if_neg hx]
   cases cutG c l <;> rfl

theorem indexByte_no {s : List UInt8} {c : UInt8} (h : c ∉ s) : Lib.indexByte s c = -1 := by
 induction s with
 | nil => rfl
 | cons x l ih =>
  have hx : ¬ x = c := fun e => h (by simp [e])
  unfold Lib.indexByte
  rw [ih (fun h' => h (by simp [h']))]
  simp [hx]
theorem indexByte_hit {s t : List UInt8} {c : UInt8} (h : c ∉ s) : Lib.indexByte (s ++ c :: t) c = s.length := by
 induction s with
 | nil => simp [Lib.indexByte]
 | cons x l ih =>
  have hx : ¬ x = c := fun e => h (by simp [e])
  have e := ih (fun h' => h (by simp [h']))
  rw [List.cons_append]
  unfold Lib.indexByte
  rw [e]
  have h1 : ¬ ((l.length : Int) == -1) = true := by simp
  rw [if_neg (by simpa using hx), if_neg h1]
  simp
theorem split_cut (c : UInt8) : ∀ (n : Nat) (s : List UInt8), s.length < n → Lib.splitK [c] 0 (Lib.count s [c]) s = cutG c s ∧ Lib.count s [c] + 1 = (cutG c s).length := by
 intro n
 induction n with
 | zero => intro s h; omega
 | succ n ih =>
  intro s h
  by_cases hc : c ∈ s
  ·obtain ⟨pre, t, rfl, hp⟩ := List.eq_append_cons_of_mem hc
   have hi : Lib.index (pre ++ c :: t) [c] = (pre.length : Nat) := by rw [Lib.index_one, indexByte_hit hp]
   have hd : (pre ++ c :: t).drop (pre.length + 1) = t := by
    rw [List.drop_append]
    simp
   obtain ⟨e1, e2⟩ := ih t (by simp at h; omega)
   rw [Lib.count_hit (by simp) hi, cutG_hit hp]
   simp only [List.length_cons, List.length_nil, Nat.zero_add, hd]
   constructor
   ·rw [Nat.add_comm 1, Lib.splitK, if_neg (by rw [hi]; simp), hi]
    simp only [Int.toNat_natCast, List.length_cons, List.length_nil, Nat.zero_add, Nat.add_zero, hd, e1]
    simp
   ·omega
  ·have hi : Lib.index s [c] = -1 := by rw [Lib.index_one, indexByte_no hc]
   rw [Lib.count_miss hi, cutG_no hc]
   exact ⟨rfl, rfl⟩

/-- a byte of a name -/
def nmB (c : Int) : Bool := (decide (97 ≤ c) && decide (c ≤ 122)) || (decide (48 ≤ c) && decide (c ≤ 57)) || c == 45 || c == 95
def nmOK (l : List Int) : Bool := decide (1 ≤ l.length) && decide (l.length ≤ 16) && l.all nmB
/-- what is left to be asked of a path once k of its names are read -/
def st (k : Nat) : List Int → Bool
 | [] => decide (1 ≤ k) && decide (k ≤ 8)
 | c :: t => c == 47 && (decide (k + (cutG 47 t).length ≤ 8) && (cutG 47 t).all nmOK)
/-- is it a path? -/
def vp (p : List Int) : Bool := st 0 p
theorem nmB_ne {c : Int} (h : nmB c = true) : ¬ c = 47 := by
 intro e
 subst e
 revert h
 decide
theorem no_slash {l : List Int} (h : ∀ x ∈ l, nmB x = true) : (47 : Int) ∉ l := fun hm => nmB_ne (h _ hm) rfl
theorem st_end {k : Nat} {nm : List Int} (h : ∀ x ∈ nm, nmB x = true) : st k (47 :: nm) = (nmOK nm && st (k + 1) []) := by
 rw [st, st, cutG_no (no_slash h)]
 by_cases hk : k + 1 ≤ 8
 ·simp [hk]
 ·simp [hk]
theorem st_next {k : Nat} {nm t : List Int} (h : ∀ x ∈ nm, nmB x = true) : st k (47 :: (nm ++ 47 :: t)) = (nmOK nm && st (k + 1) (47 :: t)) := by
 rw [st, st, cutG_hit (no_slash h)]
 have e : k + (nm :: cutG 47 t).length = k + 1 + (cutG 47 t).length := by simp; omega
 rw [e]
 rw [List.all_cons]
 cases nmOK nm <;> cases decide (k + 1 + (cutG 47 t).length ≤ 8) <;> cases (cutG 47 t).all nmOK <;> rfl
theorem st_bad {k : Nat} {nm t : List Int} {c : Int} (h : ∀ x ∈ nm, nmB x = true) (hc : ¬ c = 47) (hb : nmB c = false) : st k (47 :: (nm ++ c :: t)) = false := by
 obtain ⟨n, ns, e⟩ := cutG_bad t hc nm (no_slash h)
 rw [st, e]
 have h0 : nmOK (nm ++ c :: n) = false := by
  rw [nmOK, List.all_append, List.all_cons, hb]
  simp
 rw [List.all_cons, h0]
 simp
theorem st_first {k : Nat} {c : Int} {t : List Int} (hc : ¬ c = 47) : st k (c :: t) = false := by
 rw [st]
 simp [hc]

theorem bytesOf_inj : ∀ {a b : List Int}, Byt a → Byt b → Lib.bytesOf a = Lib.bytesOf b → a = b
 | [], [], _, _, _ => rfl
 | [], y :: b, _, _, h => by simp [Lib.bytesOf] at h
 | x :: a, [], _, _, h => by simp [Lib.bytesOf] at h
 | x :: a, y :: b, ha, hb, h => by
  simp only [Lib.bytesOf, List.map_cons, List.cons.injEq] at h
  have h1 := ha x (by simp)
  have h2 := hb y (by simp)
  have e : x = y := by
   have := congrArg UInt8.toNat h.1
   simp at this
   omega
  rw [e, bytesOf_inj (fun z hz => ha z (by simp [hz])) (fun z hz => hb z (by simp [hz])) h.2]
/-- what bytes.Split gives at the slash -/
theorem split_ints {t : List Int} (hB : Byt t) : Lib.splitK (Lib.bytesOf [47]) 0 (Lib.count (Lib.bytesOf t) (Lib.bytesOf [47])) (Lib.bytesOf t) = (cutG 47 t).map Lib.bytesOf ∧ Lib.count (Lib.bytesOf t) (Lib.bytesOf [47]) + 1 = (cutG 47 t).length := by
 have e47 : Lib.bytesOf [47] = [UInt8.ofNat (47 : Int).toNat] := rfl
 obtain ⟨e1, e2⟩ := split_cut (UInt8.ofNat (47 : Int).toNat) _ (Lib.bytesOf t) (Nat.lt_succ_self _)
 have em : cutG (UInt8.ofNat (47 : Int).toNat) (Lib.bytesOf t) = (cutG 47 t).map Lib.bytesOf := by
  refine cutG_map (fun n : Int => UInt8.ofNat n.toNat) 47 t fun x hx e => ?_
  have h1 := hB x hx
  have := congrArg UInt8.toNat e
  simp at this
  omega
 rw [e47, e1, em]
 refine ⟨rfl, ?_⟩
 rw [e2, em, List.length_map]
theorem cut_byt {t : List Int} (hB : Byt t) : ∀ n ∈ cutG 47 t, Byt n := by
 induction t with
 | nil => intro n hn; simp [cutG] at hn; subst hn; intro z hz; simp at hz
 | cons x l ih =>
  have ih := ih fun z hz => hB z (by simp [hz])
  intro n hn
  rw [cutG] at hn
  split at hn
  ·rcases List.mem_cons.1 hn with rfl | hn
   ·intro z hz; simp at hz
   ·exact ih n hn
  ·cases hc : cutG 47 l with
   | nil =>
    rw [hc] at hn
    simp at hn
    subst hn
    intro z hz
    simp at hz
    subst hz
    exact hB _ (by simp)
   | cons m ms =>
    rw [hc] at hn ih
    rcases List.mem_cons.1 hn with rfl | hn
    ·intro z hz
     rcases List.mem_cons.1 hz with rfl | hz
     ·exact hB _ (by simp)
     ·exact ih m (by simp) z hz
    ·exact ih n (by simp [hn])
end Go.Proofs.YtlkhghcffhckmaaDoor
