import Derived.Test.YtlkhghcffhckmaaDoorVPm
import Derived.Test.YtlkhghcffhckmaaDoorGC
import Derived.Test.YtlkhghcffhckmaaDoorJB
import Derived.Laws.BytesString
namespace Go.Proofs.YtlkhghcffhckmaaDoor
open Go.ChangeShapes Go.WideShapes Go.ChangeAt Go.RowKit
set_option linter.unusedVariables false
set_option linter.unusedSimpArgs false
set_option maxRecDepth 100000

/-- what a slice that reads l gives as a string -/
def bstr (l : List Int) : ByteArray := l.foldl (fun r n => r.push (UInt8.ofNat n.toNat)) ByteArray.empty
theorem bstr_data (l : List Int) (s : ByteArray) : (l.foldl (fun r n => r.push (UInt8.ofNat n.toNat)) s).data.toList = s.data.toList ++ l.map (fun n => UInt8.ofNat n.toNat) := by
 induction l generalizing s with
 | nil => simp
 | cons b l ih => rw [List.foldl_cons, ih]; simp [ByteArray.push]
theorem map_inj {l m : List Int} (hl : Byt l) (hm : Byt m) (h : l.map (fun n => UInt8.ofNat n.toNat) = m.map (fun n => UInt8.ofNat n.toNat)) : l = m := by
 induction l generalizing m with
 | nil => cases m with
  | nil => rfl
  | cons b m => simp at h
 | cons a l ih => cases m with
  | nil => simp at h
  | cons b m =>
   simp only [List.map_cons, List.cons.injEq] at h
   obtain ⟨a0, a1⟩ := hl a (by simp)
   obtain ⟨b0, b1⟩ := hm b (by simp)
   have e := congrArg UInt8.toNat h.1
   simp at e
   have e2 : a = b := by omega
   rw [e2, ih (fun z hz => hl z (by simp [hz])) (fun z hz => hm z (by simp [hz])) h.2]
theorem bstr_list (l : List Int) : (bstr l).toList = l.map (fun n => UInt8.ofNat n.toNat) := by
 rw [ByteArray.toList_eq, bstr, bstr_data]; rfl
theorem bstr_eq {l m : List Int} (hl : Byt l) (hm : Byt m) : ((bstr l).toList == (bstr m).toList) = decide (l = m) := by
 rw [bstr_list, bstr_list]
 by_cases h : l = m
 ·simp [h]
 ·simp only [h, decide_false, beq_eq_false_iff_ne]
  exact fun e => h (map_inj hl hm e)

theorem run_conv {w : World} {p : Option Addr} {c n : Nat} {l : List Int} (en : l.length = n) (h : Rd w (.slice p n c) l) :
  (convert 22 9 (.slice p n c)).run Tryd.prog w = .ok (.string (bstr l)) w := by
 subst en
 rw [run_convert_bytes_string w 22 9 5 p l.length c Tryd.underlying22 Tryd.underlying5 Tryd.underlying9]
 cases p with
 | none =>
  have e := h.none_nil
  subst e
  simp [Conv.bytesToString, bstr, Sem.run_pure]
 | some a =>
  obtain ⟨n1, n2, n3⟩ := h.news
  have hl := run_loadCells_list (P := Tryd.prog) w a (U l) (fun j v hj => n2 j v hj)
  simp only [List.length_map] at hl
  exact run_bytesToString w a l.length c l hl

/-- the slice of a slice, as the machine has it: at the capacity's end the address stays -/
theorem Rd.cut {w : World} {b o n c : Nat} {l : List Int} (h : Rd w (.slice (some ⟨b, o, none⟩) n c) l) (i j : Nat) (hi : i ≤ j) (hj : j ≤ l.length) (q : Option Addr) (hq : j = i ∨ q = some ⟨b, o + i, none⟩) (d : Nat) (m : List Int) (em : m = (l.take j).drop i) : Rd w (.slice q (j - i) d) m := by
 have hm : m.length = j - i := by rw [em]; simp; omega
 refine ⟨q, d, by rw [hm], ?_⟩
 rcases hq with rfl | rfl
 ·left; exact List.eq_nil_of_length_eq_zero (by omega)
 ·obtain ⟨p', c', e, h⟩ := h
  simp only [Value.slice.injEq] at e
  obtain ⟨e1, -, -⟩ := e
  rcases h with rfl | ⟨b', o', e2, hc⟩
  ·left; exact List.eq_nil_of_length_eq_zero (by simp at hj; omega)
  ·right
   rw [e2] at e1
   simp only [Option.some.injEq, Addr.mk.injEq] at e1
   obtain ⟨rfl, rfl, -⟩ := e1
   refine ⟨b, o + i, rfl, fun k hk => ?_⟩
   have := hc (i + k) (by omega)
   rw [Nat.add_assoc, this, em]
   simp [List.getD, List.getElem?_take, show i + k < j by omega]

set_option maxHeartbeats 400000 in
theorem l3same_any (p q : Option Addr) (c d n k : Nat) (l m : List Int) (el : Hid (l.length = n)) (em : Hid (m.length = k)) (w : World) (h1 : Rd w (.slice p n c) l) (h2 : Rd w (.slice q k d) m) (b1 : Byt l) (b2 : Byt m) :
  Calls Tryd.prog 23 #[.slice p n c, .slice q k d] w fun e w' => e = .returned (.bool (decide (l = m))) ∧ Below w.heap.size w w' := by
 have e1 := run_conv (unhide el) h1
 have e2 := run_conv (unhide em) h2
 have HE := hide (bstr_eq b1 b2)
 clear h1 h2 b1 b2
 go_enter Tryd.func23, Tryd.ntmps23
 go_wp2
 go_ret
 exact ⟨by rw [unhide HE]; rfl, Below.refl _ _⟩
theorem l1copy_n (p : Option Addr) (c n : Nat) (l : List Int) (en : Hid (l.length = n)) (w : World) (h : Rd w (.slice p n c) l) (hl : n ≤ 2097152) :
  Calls Tryd.prog 22 #[.slice p n c] w fun e w' => ∃ p' c', e = .returned (.slice p' n c') ∧ Own w.heap.size w' (.slice p' n c') l ∧ Below w.heap.size w w' := by
 have e := unhide en
 subst e
 exact l1copy_any p c l w h hl
end Go.Proofs.YtlkhghcffhckmaaDoor
