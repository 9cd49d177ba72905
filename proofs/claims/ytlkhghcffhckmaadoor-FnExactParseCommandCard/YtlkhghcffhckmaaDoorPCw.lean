import Derived.Test.YtlkhghcffhckmaaDoorPCk
import Derived.Lib.FieldsP
namespace Go.Proofs.YtlkhghcffhckmaaDoor
open Go.ChangeShapes Go.WideShapes Go.ChangeAt Go.RowKit
set_option linter.unusedVariables false
set_option linter.unusedSimpArgs false
set_option maxRecDepth 100000

theorem bstr_is (l : List Int) : (bstr l).data = (l.map fun n => UInt8.ofNat n.toNat).toArray := by
 have h : (bstr l).data.toList = l.map fun n => UInt8.ofNat n.toNat := by rw [bstr, bstr_data]; rfl
 rw [← h]
theorem bstr_size (l : List Int) : (bstr l).size = l.length := by
 show (bstr l).data.size = _
 rw [bstr_is]; simp
theorem bstr_get (l : List Int) (hb : Byt l) (i : Nat) (x : Int) (h : l[i]? = some x) : ((bstr l).get! i).toNat = x.toNat := by
 obtain ⟨h1, h2⟩ := List.getElem?_eq_some_iff.1 h
 have hx := hb x (List.mem_of_getElem? h)
 have : (bstr l).get! i = UInt8.ofNat x.toNat := by
  show (bstr l).data[i]! = _
  rw [bstr_is, getElem!_def]
  simp [h]
 rw [this]
 simp
 omega
theorem bstr_extract (l : List Int) (a b : Nat) : (bstr l).extract a b = bstr ((l.take b).drop a) := by
 apply ByteArray.ext
 rw [ByteArray.data_extract, bstr_is, bstr_is]
 apply Array.ext'
 simp [List.map_take, List.map_drop, List.drop_take, List.extract]
theorem dec_sp (n b0 b1 b2 b3 : Nat) (hn : 1 ≤ n) : (b0 = 32 → Lib.decodeN n b0 b1 b2 b3 = (32, 1)) ∧ (b0 ≠ 32 → (Lib.decodeN n b0 b1 b2 b3).1 ≠ 32 ∧ (2 ≤ (Lib.decodeN n b0 b1 b2 b3).2 → b1 ≠ 32) ∧ (3 ≤ (Lib.decodeN n b0 b1 b2 b3).2 → b2 ≠ 32) ∧ (4 ≤ (Lib.decodeN n b0 b1 b2 b3).2 → b3 ≠ 32)) ∧ 1 ≤ (Lib.decodeN n b0 b1 b2 b3).2 ∧ (Lib.decodeN n b0 b1 b2 b3).2 ≤ n ∧ (Lib.decodeN n b0 b1 b2 b3).2 ≤ 4 := by
 unfold Lib.decodeN
 repeat' split
 all_goals (refine ⟨fun h => ?_, fun h => ⟨?_, ?_, ?_, ?_⟩, ?_, ?_, ?_⟩ <;> (try simp only [Prod.mk.injEq, and_true]) <;> (first | omega | (intro h2; omega) | (subst h; rfl) | simp_all | (exfalso; omega)))
theorem dec_at (l : List Int) (hb : Byt l) (i : Nat) (hi : i < l.length) : (l[i]? = some 32 → Utf8.decode (bstr l) i = (32, 1)) ∧ (l[i]? ≠ some 32 → (Utf8.decode (bstr l) i).1 ≠ 32 ∧ ∀ j, i ≤ j → j < i + (Utf8.decode (bstr l) i).2 → l[j]? ≠ some 32) ∧ 1 ≤ (Utf8.decode (bstr l) i).2 ∧ i + (Utf8.decode (bstr l) i).2 ≤ l.length := by
 rw [Lib.decode_at]
 obtain ⟨h1, h2, h3, h4, h5⟩ := dec_sp ((bstr l).size - i) ((bstr l).get! i).toNat ((bstr l).get! (i + 1)).toNat ((bstr l).get! (i + 2)).toNat ((bstr l).get! (i + 3)).toNat (by rw [bstr_size]; omega)
 have key : ∀ k, l[k]? = some 32 → ((bstr l).get! k).toNat = 32 := fun k hk => bstr_get l hb k 32 hk
 refine ⟨fun h => h1 (key i h), fun h => ?_, h3, by rw [bstr_size] at h4 ⊢; omega⟩
 have hne : ((bstr l).get! i).toNat ≠ 32 := fun e => h (by
  have hx := List.getElem?_eq_getElem hi
  rw [bstr_get l hb i _ hx] at e
  have h0 := (hb _ (List.mem_of_getElem? hx)).1
  rw [hx, show l[i] = 32 by omega])
 obtain ⟨g0, g1, g2, g3⟩ := h2 hne
 refine ⟨g0, fun j hj1 hj2 e => ?_⟩
 have ek := key j e
 rcases (show j = i ∨ j = i + 1 ∨ j = i + 2 ∨ j = i + 3 by omega) with rfl | rfl | rfl | rfl
 ·exact hne ek
 ·exact g1 (by omega) ek
 ·exact g2 (by omega) ek
 ·exact g3 (by omega) ek
theorem wfold_run (l : List Int) (pos : Nat) : ∀ k, pos + k ≤ l.length → (∀ j, pos ≤ j → j < pos + k → l[j]? ≠ some 32) → wfold (l.take (pos + k)) = ((wfold (l.take pos)).1, (wfold (l.take pos)).2 ++ (l.take (pos + k)).drop pos)
 | 0, _, _ => by
  have : (l.take pos).drop pos = [] := List.drop_eq_nil_of_le (by rw [List.length_take]; omega)
  rw [Nat.add_zero, this, List.append_nil]
 | k + 1, h, hn => by
  have ih := wfold_run l pos k (by omega) fun j h1 h2 => hn j h1 (by omega)
  have hlt : pos + k < l.length := by omega
  have hx := List.getElem?_eq_getElem hlt
  have hne : ¬ l[pos + k] = 32 := fun e => hn (pos + k) (by omega) (by omega) (by rw [hx, e])
  rw [← Nat.add_assoc, wfold_step l (pos + k) _ hx, ih, wstep, if_neg hne, List.take_add_one, hx, List.drop_append_of_le_length (by rw [List.length_take]; omega), List.append_assoc]
  rfl
def sp32 (x : Nat) : Bool := decide (x = 32)
def piece (l : List Int) (x : Nat × Nat) : List Int := (l.take x.2).drop x.1
theorem spans_wds (l : List Int) (hb : Byt l) : ∀ (f pos : Nat) (st : Option Nat) (acc : List (Nat × Nat)), pos ≤ l.length → l.length ≤ pos + f → acc.map (piece l) = (wfold (l.take pos)).1 → (st = none → (wfold (l.take pos)).2 = []) → (∀ a, st = some a → a < pos ∧ (wfold (l.take pos)).2 = (l.take pos).drop a) →
  (Lib.closeSpans (bstr l) (Lib.spansFromP sp32 (bstr l) f pos st acc)).map (piece l) = wds l := by
 intro f
 induction f with
 | zero =>
  intro pos st acc h1 h2 h3 h4 h5
  have e : pos = l.length := by omega
  subst e
  rw [List.take_length] at h3 h4 h5
  show (Lib.closeSpans (bstr l) (acc, st)).map (piece l) = _
  unfold Lib.closeSpans wds
  cases st with
  | none => simp only [h3, h4 rfl, if_true]
  | some a =>
   obtain ⟨g1, g2⟩ := h5 a rfl
   have hne : ¬ (wfold l).2 = [] := fun e => by
    rw [g2] at e
    have := List.drop_eq_nil_iff.1 e
    omega
   rw [if_neg hne, g2]
   simp only [List.map_append, h3, List.map_cons, List.map_nil, piece, bstr_size, List.take_length]
 | succ f ih =>
  intro pos st acc h1 h2 h3 h4 h5
  unfold Lib.spansFromP
  by_cases hp : pos < l.length
  ·obtain ⟨d1, d2, d3, d4⟩ := dec_at l hb pos hp
   rw [if_pos (by rw [bstr_size]; exact hp)]
   have hx := List.getElem?_eq_getElem hp
   by_cases h32 : l[pos]? = some 32
   ·rw [d1 h32]
    have es := wfold_step l pos 32 h32
    rw [if_pos (by rfl)]
    cases st with
    | none =>
     refine ih (pos + 1) none acc hp (by omega) ?_ ?_ (fun a e => by cases e)
     ·rw [es, wstep, if_pos rfl, if_pos (h4 rfl)]; exact h3
     ·intro _; rw [es, wstep, if_pos rfl]
    | some a =>
     obtain ⟨g1, g2⟩ := h5 a rfl
     have hne : ¬ (wfold (l.take pos)).2 = [] := fun e => by
      rw [g2] at e
      have := List.drop_eq_nil_iff.1 e
      rw [List.length_take] at this
      omega
     refine ih (pos + 1) none (acc ++ [(a, pos)]) hp (by omega) ?_ ?_ (fun a e => by cases e)
     ·rw [es, wstep, if_pos rfl, if_neg hne, List.map_append, h3, g2]; rfl
     ·intro _; rw [es, wstep, if_pos rfl]
   ·obtain ⟨e1, e2⟩ := d2 h32
    have er := wfold_run l pos _ d4 e2
    rw [if_neg (by simpa [sp32] using e1)]
    cases st with
    | none =>
     refine ih _ (some pos) acc d4 (by omega) ?_ (fun e => by cases e) ?_
     ·rw [er]; exact h3
     ·intro a e
      cases e
      refine ⟨by omega, ?_⟩
      rw [er, h4 rfl]; rfl
    | some a =>
     obtain ⟨g1, g2⟩ := h5 a rfl
     refine ih _ (some a) acc d4 (by omega) ?_ (fun e => by cases e) ?_
     ·rw [er]; exact h3
     ·intro a' e
      cases e
      refine ⟨by omega, ?_⟩
      rw [er, g2]
      show List.drop a (List.take pos l) ++ _ = _
      have ht : l.take (pos + (Utf8.decode (bstr l) pos).2) = l.take pos ++ (l.take (pos + (Utf8.decode (bstr l) pos).2)).drop pos := by
       conv => lhs; rw [← List.take_append_drop pos (l.take (pos + (Utf8.decode (bstr l) pos).2))]
       rw [List.take_take, Nat.min_eq_left (by omega)]
      conv => rhs; rw [ht]
      rw [List.drop_append_of_le_length (by rw [List.length_take]; omega)]
  ·rw [if_neg (by rw [bstr_size]; exact hp)]
   have := ih pos st acc h1 (by omega) h3 h4 h5
   rw [Lib.spansFromP_end _ _ _ _ _ _ (by rw [bstr_size]; exact hp)] at this
   exact this
theorem goFields_wds (l : List Int) (hb : Byt l) : Lib.goFieldsP sp32 (bstr l) = (wds l).map bstr := by
 rw [← spans_wds l hb l.length 0 none [] (by omega) (by omega) (by simp [wfold]) (by simp [wfold]) (by intro a e; cases e), Lib.goFieldsP, Lib.spansOfP, bstr_size, List.map_map]
 exact List.map_congr_left fun x _ => bstr_extract l x.1 x.2
end Go.Proofs.YtlkhghcffhckmaaDoor
