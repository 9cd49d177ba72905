import Derived.Test.YtpbppdeleijhkaaGreatDoorVM1
namespace Go.Proofs.YtpbppdeleijhkaaGreatDoor
open Go.ChangeShapes Go.WideShapes Go.ChangeAt Go.RowKit Go.Maps
set_option linter.unusedVariables false
set_option linter.unusedSimpArgs false
set_option maxRecDepth 100000

theorem bstr_data' (l : List Int) : (bstr l).data.toList = l.map (fun n => UInt8.ofNat n.toNat) := by rw [bstr, bstr_data]; rfl
theorem bstr_size (l : List Int) : (bstr l).size = l.length := by
  show (bstr l).data.size = _
  rw [← Array.length_toList, bstr_data', List.length_map]
theorem bstr_get {l : List Int} (hB : Byt l) (j : Nat) (hj : j < (bstr l).size) : (((bstr l)[j]'hj).toNat : Int) = l.getD j 0 := by
  have hl : j < l.length := by rw [← bstr_size]; exact hj
  have e1 : (bstr l)[j]'hj = (bstr l).data.toList[j]'(by rw [bstr_data', List.length_map]; exact hl) := by rw [Array.getElem_toList]; rfl
  rw [e1]
  simp only [bstr_data', List.getElem_map]
  rw [List.getD_eq_getElem?_getD, List.getElem?_eq_getElem hl, Option.getD_some]
  have := hB l[j] (List.getElem_mem hl)
  rw [UInt8.toNat_ofNat']
  omega
theorem lsl_len {l : List Int} {k : Nat} (hk : k < l.length) : True := trivial

set_option maxHeartbeats 1600000 in
theorem lastByte_any (l : List Int) (n : Nat) (s : ByteArray) (es : Hid (s = bstr l)) (en : s.size = n) (hB : Hid (Byt l)) (hn : n ≤ 2097152) (w : World) :
    Calls Tryz.prog 204 #[.string s, .int .u8 47] w fun e w' => ((∃ k : Nat, e = .returned (.int .i64 k) ∧ k < n ∧ lsl l n = k) ∨ (e = .returned (.int .i64 (-1)) ∧ lsl l n = 0)) ∧ w' = w := by
  have hget : Hid (∀ (j : Nat) (hj : j < s.size), ((s[j]'hj).toNat : Int) = l.getD j 0) := by
    have e := unhide es
    subst e
    exact fun j hj => bstr_get (unhide hB) j hj
  subst en
  go_enter Tryz.func204, Tryz.ntmps204
  go_wp2
  go_loop [5] (fun vi => ∃ k : Nat, k ≤ s.size ∧ vi = .int .i64 ((k : Int) - 1) ∧ Hid (lsl l s.size = lsl l k)) (fun vi => ((RowKit.intOf vi) + 1).toNat)
  case atStart => exact ⟨s.size, Nat.le_refl _, by first | rfl | go_num | (congr 1; omega), (by show _ = _; rfl)⟩
  case round =>
    obtain ⟨k, hk, rfl, hh⟩ := hrel
    go_wp2
    · have hc : (((s[k - 1]).toNat : Int) == 47) = true := by assumption
      have k1 : 1 ≤ k := by omega
      have e1 : lsl l k = k - 1 := by
        have := lsl_step l (k - 1)
        rw [show k - 1 + 1 = k by omega] at this
        rw [this, if_pos]
        rw [← unhide hget (k - 1) (by omega)]
        simpa using hc
      have e2 : ((k - 1 : Nat) : Int) = (k : Int) - 1 := by omega
      go_ret
      refine ⟨.inl ⟨k - 1, by rw [e2]; rfl, by omega, by rw [unhide hh, e1]⟩, rfl⟩
    · have hc : (((s[k - 1]).toNat : Int) == 47) = false := by assumption
      have k1 : 1 ≤ k := by omega
      have e1 : lsl l k = lsl l (k - 1) := by
        have := lsl_step l (k - 1)
        rw [show k - 1 + 1 = k by omega] at this
        rw [this, if_neg]
        rw [← unhide hget (k - 1) (by omega)]
        simpa using hc
      refine ⟨⟨k - 1, by omega, by congr 1; omega, (unhide hh).trans e1⟩, ?_⟩
      simp [RowKit.intOf]; omega
    · have k0 : k = 0 := by omega
      subst k0
      go_ret
      exact ⟨.inr ⟨rfl, unhide hh⟩, rfl⟩

theorem lastIdx_any (l : List Int) (n : Nat) (s : ByteArray) (es : Hid (s = bstr l)) (en : s.size = n) (hB : Hid (Byt l)) (hn : n ≤ 2097152) (w : World) :
    Calls Tryz.prog 185 #[.string s, .int .u8 47] w fun e w' => ((∃ k : Nat, e = .returned (.int .i64 k) ∧ k < n ∧ lsl l n = k) ∨ (e = .returned (.int .i64 (-1)) ∧ lsl l n = 0)) ∧ w' = w := by
  go_enter Tryz.func185, Tryz.ntmps185
  go_wp2_with fail
  refine (lastByte_any l n s es en hB hn w).mono ?_
  rintro e w' ⟨hr, rfl⟩
  rcases hr with ⟨k, rfl, hk, hl⟩ | ⟨rfl, hl⟩
  · have HL := hide hl
    clear hl
    go_wp2
    go_ret
    exact ⟨.inl ⟨k, rfl, hk, unhide HL⟩, rfl⟩
  · have HL := hide hl
    clear hl
    go_wp2
    go_ret
    exact ⟨.inr ⟨rfl, unhide HL⟩, rfl⟩

set_option maxHeartbeats 800000 in
theorem parentOf_any (l : List Int) (n : Nat) (en : Hid (l.length = n)) (hB : Hid (Byt l)) (hn : n ≤ 1048576) (w : World) :
    Calls Tryz.prog 159 #[.string (bstr l)] w fun e w' => e = .returned (.string (bstr (parL l))) ∧ w' = w := by
  obtain ⟨s, es⟩ : ∃ s, s = bstr l := ⟨_, rfl⟩
  have hs : s.size = n := by rw [es, bstr_size]; exact unhide en
  rw [← es]
  have ES := hide es
  clear es
  go_enter Tryz.func159, Tryz.ntmps159
  go_wp2_with fail
  refine (lastIdx_any l n s ES hs hB (by omega) w).mono ?_
  rintro e w' ⟨hr, rfl⟩
  rcases hr with ⟨k, rfl, hk, hl⟩ | ⟨rfl, hl⟩
  · by_cases k0 : k = 0
    · subst k0
      have e1 : parL l = [47] := by rw [parL, unhide en, hl, if_pos rfl]
      have E1 := hide e1
      clear hl e1
      go_wp2
      go_ret
      exact ⟨by rw [unhide E1]; rfl, rfl⟩
    · have e1 : parL l = l.take k := by rw [parL, unhide en, hl, if_neg k0]
      have E1 := hide e1
      clear e1
      have g1 : ¬ (k : Int) < 1 := by omega
      have g2 : (k : Int) ≤ (n : Int) := by omega
      have g3 : k ≤ s.size := by omega
      have ex : Hid (s.extract 0 k = bstr (l.take k)) := by
        show _ = _
        rw [unhide ES]
        apply ByteArray.ext
        apply Array.toList_inj.1
        rw [bstr_data', List.map_take, ← bstr_data']
        simp [ByteArray.data_extract]
      clear hl
      go_wp2
      go_ret
      exact ⟨by rw [unhide E1, ← unhide ex]; rfl, rfl⟩
  · have e1 : parL l = [47] := by rw [parL, unhide en, hl, if_pos rfl]
    have E1 := hide e1
    clear hl e1
    go_wp2
    go_ret
    exact ⟨by rw [unhide E1]; rfl, rfl⟩
end Go.Proofs.YtpbppdeleijhkaaGreatDoor
