import Derived.Test.YtpbppdeleijhkaaGreatDoorDOs
import Derived.Laws.BytesString
namespace Go.Proofs.YtpbppdeleijhkaaGreatDoor
open Go.ChangeShapes Go.WideShapes Go.ChangeAt Go.RowKit
set_option linter.unusedVariables false
set_option linter.unusedSimpArgs false
set_option maxRecDepth 100000

/-- what a slice that reads l gives as a string -/
def bstr (l : List Int) : ByteArray := l.foldl (fun r n => r.push (UInt8.ofNat n.toNat)) ByteArray.empty
theorem bstr_data (l : List Int) (s : ByteArray) : (l.foldl (fun r n => r.push (UInt8.ofNat n.toNat)) s).data.toList = s.data.toList ++ l.map (fun n => UInt8.ofNat n.toNat) := by
  induction l generalizing s with
  | nil => simp
  | cons b l ih => rw [List.foldl_cons, ih]; simp [ByteArray.push]
theorem map_inj {l m : List Int} (hl : Byt l) (hm : Byt m) (h : l.map (fun n => UInt8.ofNat n.toNat) = m.map (fun n => UInt8.ofNat n.toNat)) : l = m := by
  induction l generalizing m with
  | nil => cases m with
    | nil => rfl
    | cons b m => simp at h
  | cons a l ih => cases m with
    | nil => simp at h
    | cons b m =>
      simp only [List.map_cons, List.cons.injEq] at h
      obtain ⟨a0, a1⟩ := hl a (by simp)
      obtain ⟨b0, b1⟩ := hm b (by simp)
      have e := congrArg UInt8.toNat h.1
      simp at e
      have e2 : a = b := by omega
      rw [e2, ih (fun z hz => hl z (by simp [hz])) (fun z hz => hm z (by simp [hz])) h.2]
theorem bstr_list (l : List Int) : (bstr l).toList = l.map (fun n => UInt8.ofNat n.toNat) := by
  rw [ByteArray.toList_eq, bstr, bstr_data]; rfl
theorem bstr_eq {l m : List Int} (hl : Byt l) (hm : Byt m) : ((bstr l).toList == (bstr m).toList) = decide (l = m) := by
  rw [bstr_list, bstr_list]
  by_cases h : l = m
  · simp [h]
  · simp only [h, decide_false, beq_eq_false_iff_ne]
    exact fun e => h (map_inj hl hm e)

theorem run_conv {w : World} {p : Option Addr} {c n : Nat} {l : List Int} (en : l.length = n) (h : Rd w (.slice p n c) l) :
    (convert 22 9 (.slice p n c)).run Tryz.prog w = .ok (.string (bstr l)) w := by
  subst en
  rw [run_convert_bytes_string w 22 9 5 p l.length c Tryz.underlying22 Tryz.underlying5 Tryz.underlying9]
  cases p with
  | none =>
    have e := h.none_nil
    subst e
    simp [Conv.bytesToString, bstr, Sem.run_pure]
  | some a =>
    obtain ⟨n1, n2, n3⟩ := h.news
    have hl := run_loadCells_list (P := Tryz.prog) w a (U l) (fun j v hj => n2 j v hj)
    simp only [List.length_map] at hl
    exact run_bytesToString w a l.length c l hl

set_option maxHeartbeats 400000 in
theorem bytesEqual_any (p q : Option Addr) (c d n k : Nat) (l m : List Int) (el : Hid (l.length = n)) (em : Hid (m.length = k)) (w : World) (h1 : Rd w (.slice p n c) l) (h2 : Rd w (.slice q k d) m) (b1 : Byt l) (b2 : Byt m) :
    Calls Tryz.prog 53 #[.slice p n c, .slice q k d] w fun e w' => e = .returned (.bool (decide (l = m))) ∧ Below w.heap.size w w' := by
  have e1 := run_conv (unhide el) h1
  have e2 := run_conv (unhide em) h2
  have HE := hide (bstr_eq b1 b2)
  clear h1 h2 b1 b2
  go_enter Tryz.func53, Tryz.ntmps53
  go_wp2
  go_ret
  exact ⟨by rw [unhide HE]; rfl, Below.refl _ _⟩

/-- the slice of a slice, as the machine has it: at the capacity's end the address stays -/
theorem Rd.cut {w : World} {b o n c : Nat} {l : List Int} (h : Rd w (.slice (some ⟨b, o, none⟩) n c) l) (i j : Nat) (hi : i ≤ j) (hj : j ≤ l.length) (q : Option Addr) (hq : j = i ∨ q = some ⟨b, o + i, none⟩) (d : Nat) (m : List Int) (em : m = (l.take j).drop i) : Rd w (.slice q (j - i) d) m := by
  have hm : m.length = j - i := by rw [em]; simp; omega
  refine ⟨q, d, by rw [hm], ?_⟩
  rcases hq with rfl | rfl
  · left; exact List.eq_nil_of_length_eq_zero (by omega)
  · obtain ⟨p', c', e, h⟩ := h
    simp only [Value.slice.injEq] at e
    obtain ⟨e1, -, -⟩ := e
    rcases h with rfl | ⟨b', o', e2, hc⟩
    · left; exact List.eq_nil_of_length_eq_zero (by simp at hj; omega)
    · right
      rw [e2] at e1
      simp only [Option.some.injEq, Addr.mk.injEq] at e1
      obtain ⟨rfl, rfl, -⟩ := e1
      refine ⟨b, o + i, rfl, fun k hk => ?_⟩
      have := hc (i + k) (by omega)
      rw [Nat.add_assoc, this, em]
      simp [List.getD, List.getElem?_take, show i + k < j by omega]

set_option maxHeartbeats 400000 in
theorem l3same_any (p q : Option Addr) (c d n k : Nat) (l m : List Int) (el : Hid (l.length = n)) (em : Hid (m.length = k)) (w : World) (h1 : Rd w (.slice p n c) l) (h2 : Rd w (.slice q k d) m) (b1 : Byt l) (b2 : Byt m) :
    Calls Tryz.prog 46 #[.slice p n c, .slice q k d] w fun e w' => e = .returned (.bool (decide (l = m))) ∧ Below w.heap.size w w' := by
  have e1 := run_conv (unhide el) h1
  have e2 := run_conv (unhide em) h2
  have HE := hide (bstr_eq b1 b2)
  clear h1 h2 b1 b2
  go_enter Tryz.func46, Tryz.ntmps46
  go_wp2
  go_ret
  exact ⟨by rw [unhide HE]; rfl, Below.refl _ _⟩
theorem l1copy_n (p : Option Addr) (c n : Nat) (l : List Int) (en : Hid (l.length = n)) (w : World) (h : Rd w (.slice p n c) l) (hl : n ≤ 2097152) :
    Calls Tryz.prog 96 #[.slice p n c] w fun e w' => ∃ p' c', e = .returned (.slice p' n c') ∧ Own w.heap.size w' (.slice p' n c') l ∧ Below w.heap.size w w' := by
  have e := unhide en
  subst e
  exact l1copy_any p c l w h hl

/-- a text read: it and what is left -/
def rt (m : List Int) : Option (List Int × List Int) :=
  match rv m with
  | none => none
  | some x => if (x.2.length : Int) < x.1 then none else some (x.2.take x.1.toNat, x.2.drop x.1.toNat)
def tOf : Option (List Int × List Int) → List Int
  | some x => x.1
  | none => []
def bOf (n : Nat) : Option (List Int × List Int) → Int
  | some x => (n : Int) - x.2.length
  | none => -1

set_option maxHeartbeats 800000 in
theorem readText_neg (p : Option Addr) (c n : Nat) (w : World) :
    Calls Tryz.prog 44 #[.slice p n c, .int .i64 (-1)] w fun e w' => e = .returned (.tuple #[.slice none 0 0, .int .i64 (-1)]) ∧ w' = w := by
  go_enter Tryz.func44, Tryz.ntmps44
  go_wp2_with fail
  refine (readVar_neg p c n _).mono ?_
  rintro e w' ⟨rfl, rfl⟩
  go_wp2
  go_ret2
  exact ⟨rfl, rfl⟩

set_option maxHeartbeats 1600000 in
theorem readText_at (p : Option Addr) (c n a : Nat) (l : List Int) (en : Hid (l.length = n)) (w : World) (h : Rd w (.slice p n c) l) (hb : Byt l) (hl : n ≤ 1048576) (hnc : n ≤ c) (ha : a ≤ n) (r : Option (List Int × List Int)) (er : Hid (rt (l.drop a) = r)) (N : Nat) (eN : Hid ((tOf r).length = N)) :
    Calls Tryz.prog 44 #[.slice p n c, .int .i64 a] w fun e w' => ∃ p' c', e = .returned (.tuple #[.slice p' N c', .int .i64 (bOf n r)]) ∧ Own w.heap.size w' (.slice p' N c') (tOf r) ∧ Below w.heap.size w w' := by
  obtain ⟨x, ex⟩ : ∃ x, rv (l.drop a) = x := ⟨_, rfl⟩
  have er2 := unhide er
  rw [rt, ex] at er2
  go_enter Tryz.func44, Tryz.ntmps44
  go_wp2_with fail
  refine (readVar_at p c n a l en _ h hb hl ha x ex).mono ?_
  rintro e w' ⟨rfl, rfl⟩
  cases x with
  | none =>
    subst er2
    have hN0 : N = 0 := by rw [← unhide eN]; rfl
    subst hN0
    dsimp only [vOf, aOf]
    go_wp2
    go_ret2
    exact ⟨none, 0, rfl, World.ownsRow_nil _ _ _ _, Below.refl _ _⟩
  | some x =>
    obtain ⟨v, t⟩ := x
    have hrg := rvF_range 10 0 0 _ v t ex
    rw [List.length_drop, unhide en] at hrg
    obtain ⟨v0, v1, htl, hteq⟩ := hrg
    obtain ⟨T, eT⟩ : ∃ T, t.length = T := ⟨_, rfl⟩
    dsimp only at er2
    rw [eT] at er2 htl hteq
    obtain ⟨A, eA⟩ : ∃ A, n - T = A := ⟨_, rfl⟩
    have hte : t = l.drop A := by
      rw [hteq, List.drop_drop]
      congr 1
      omega
    have ea : aOf n (some (v, t)) = (A : Int) := by show (n : Int) - (t.length : Nat) = _; rw [eT]; omega
    have ev : vOf (some (v, t)) = v := rfl
    rw [ea, ev]
    have hA0 : ¬ (A : Int) < 0 := by omega
    have hAn : (n : Int) - (A : Int) = (T : Int) := by omega
    have wT : IntKind.u64.wrap (T : Int) = (T : Int) := by rw [IntKind.wrap_u64]; omega
    by_cases hv : (T : Int) < v
    · rw [if_pos hv] at er2
      subst er2
      have hN0 : N = 0 := by rw [← unhide eN]; rfl
      subst hN0
      clear er ea ev ex hteq hte
      go_wp2
      go_ret2
      exact ⟨none, 0, rfl, World.ownsRow_nil _ _ _ _, Below.refl _ _⟩
    · rw [if_neg hv] at er2
      obtain ⟨V, rfl⟩ : ∃ V : Nat, v = (V : Int) := ⟨v.toNat, by omega⟩
      have eV : ((V : Int)).toNat = V := by omega
      rw [eV] at er2
      have hN1 : N = V := by rw [← unhide eN, ← er2]; show (t.take V).length = V; rw [List.length_take, eT]; omega
      subst hN1
      have hbo : bOf n r = ((A + N : Nat) : Int) := by rw [← er2]; show (n : Int) - ((t.drop N).length : Nat) = _; rw [List.length_drop, eT]; omega
      have htk : tOf r = (l.take (A + N)).drop A := by rw [← er2]; show t.take N = _; rw [hte, List.drop_take, Nat.add_sub_cancel_left]
      obtain ⟨b, o, rfl, -, -⟩ := h.at (by rw [unhide en]; omega)
      have hcut : ∀ (q : Option Addr) (d : Nat), (A + N = A ∨ q = some ⟨b, o + A, none⟩) → Rd w' (.slice q N d) (tOf r) := fun q d hq => by
        have := h.cut A (A + N) (by omega) (by rw [unhide en]; omega) q hq d (tOf r) htk
        rwa [Nat.add_sub_cancel_left] at this
      obtain ⟨E, eE⟩ : ∃ E, A + N = E := ⟨_, rfl⟩
      rw [eE] at hcut
      have wN : IntKind.i64.wrap (N : Int) = (N : Int) := IntWalk.i64_in _ (by omega)
      have hAE : (A : Int) + (N : Int) = (E : Int) := by omega
      have hE1 : (A : Int) ≤ (E : Int) := by omega
      have hE2 : (E : Int) ≤ (c : Int) := by omega
      have hE4 : E - A = N := by omega
      have hvv : ¬ (T : Int) < (N : Int) := hv
      have HC := hide hcut
      have HS := hide (And.intro hbo (And.intro htk (And.intro eE (And.intro eT eA))))
      clear er er2 ea ev ex hteq hte hcut hbo htk eE eT eA hv eV h hb
      by_cases hcA : c = A
      · have hEA : A = E := by omega
        have hN0 : N = 0 := by omega
        subst hcA
        subst hEA
        subst hN0
        go_wp2_with fail
        refine (l1copy_n _ _ 0 (tOf r) eN _ (unhide HC _ _ (.inl (by first | rfl | trivial))) (by omega)).mono ?_
        rintro e w2 ⟨p2, c2, rfl, o2, b2⟩
        go_wp2
        go_ret2
        exact ⟨p2, c2, by rw [(unhide HS).1, (unhide HS).2.2.1]; rfl, o2, b2⟩
      · have hcA' : ¬ (c : Int) = (A : Int) := by omega
        have hcA2 : c ≠ A := hcA
        have wE : IntKind.i64.wrap (E : Int) = (E : Int) := IntWalk.i64_in _ (by omega)
        have hNb : N ≤ 2097152 := by omega
        have HE4 := hide hE4
        clear htl hcA hE4 hcA' v0 v1
        go_wp2_with fail
        rw [unhide HE4]
        refine (l1copy_n _ _ N (tOf r) eN _ (unhide HC _ _ (.inr rfl)) (by omega)).mono ?_
        rintro e w2 ⟨p2, c2, rfl, o2, b2⟩
        go_wp2
        go_ret2
        exact ⟨p2, c2, by rw [(unhide HS).1, (unhide HS).2.2.1]; rfl, o2, b2⟩
end Go.Proofs.YtpbppdeleijhkaaGreatDoor
