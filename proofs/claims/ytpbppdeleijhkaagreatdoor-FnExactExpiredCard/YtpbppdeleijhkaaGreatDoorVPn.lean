import Derived.Test.YtpbppdeleijhkaaGreatDoorVPs
namespace Go.Proofs.YtpbppdeleijhkaaGreatDoor
open Go.ChangeShapes Go.WideShapes Go.ChangeAt Go.RowKit
set_option linter.unusedVariables false
set_option linter.unusedSimpArgs false
set_option maxRecDepth 100000

theorem drop_cons {l : List Int} {a : Nat} (h : a < l.length) : l.drop a = l.getD a 0 :: l.drop (a + 1) := by
  rw [List.drop_eq_getElem_cons h]
  simp [List.getD, h]
/-- the inner loop's end: a name has been read -/
theorem st_read {l : List Int} {a j k : Nat} {b : Bool} (h0 : st k (l.drop a) = b) (ha : a < l.length) (h47 : l.getD a 0 = 47) (hnm : ∀ x ∈ (l.drop (a + 1)).take j, nmB x = true) (hj : a + 1 + j ≤ l.length) (hend : a + 1 + j = l.length ∨ l.getD (a + 1 + j) 0 = 47) :
    b = (nmOK ((l.drop (a + 1)).take j) && st (k + 1) (l.drop (a + 1 + j))) := by
  rw [← h0, drop_cons ha, h47]
  have e : l.drop (a + 1) = (l.drop (a + 1)).take j ++ l.drop (a + 1 + j) := by
    have e := (List.take_append_drop j (l.drop (a + 1))).symm
    rw [List.drop_drop] at e
    exact e
  by_cases hl : a + 1 + j = l.length
  · have e0 : l.drop (a + 1 + j) = [] := List.drop_eq_nil_of_le (by omega)
    rw [e0, List.append_nil] at e
    rw [e0]
    conv => lhs; rw [e]
    exact st_end hnm
  · rcases hend with h | h
    · exact absurd h hl
    · have e1 := drop_cons (l := l) (a := a + 1 + j) (by omega)
      rw [h] at e1
      rw [e1] at e ⊢
      conv => lhs; rw [e]
      exact st_next hnm
theorem st_wrong {l : List Int} {a j k : Nat} {b : Bool} (h0 : st k (l.drop a) = b) (ha : a < l.length) (h47 : l.getD a 0 = 47) (hnm : ∀ x ∈ (l.drop (a + 1)).take j, nmB x = true) (hj : a + 1 + j < l.length) (hn : ¬ l.getD (a + 1 + j) 0 = 47) (hb : nmB (l.getD (a + 1 + j) 0) = false) : b = false := by
  rw [← h0, drop_cons ha, h47]
  have e : l.drop (a + 1) = (l.drop (a + 1)).take j ++ l.drop (a + 1 + j) := by
    have e := (List.take_append_drop j (l.drop (a + 1))).symm
    rw [List.drop_drop] at e
    exact e
  rw [drop_cons hj] at e
  rw [e]
  exact st_bad hnm hn hb

set_option maxHeartbeats 4000000 in
theorem l3names_any (p : Option Addr) (c n : Nat) (l : List Int) (en : Hid (l.length = n)) (w : World) (h : Rd w (.slice p n c) l) (hb : Byt l) (hl : n ≤ 1048576) (B : Bool) (eB : Hid (vp l = B)) :
    Calls Tryz.prog 173 #[.slice p n c] w fun e w' => (∃ v, e = .returned (.tuple #[v, .bool B])) ∧ Below w.heap.size w w' := by
  have HR := hide h
  have HB := hide hb
  clear h hb
  go_enter Tryz.func173, Tryz.ntmps173
  go_wp2
  go_loopw [4, 5] (fun ov i wr => ∃ (a k : Nat) (pv : Option Addr) (cv : Nat) (vs : List Value), a ≤ n ∧ i = .int .i64 a ∧ ov = .slice pv k cv ∧ k ≤ a ∧ Hid (st k (l.drop a) = B) ∧ OwnV w.heap.size wr (.slice pv k cv) k vs ∧ Below w.heap.size w wr) (fun _ i _ => n - (intOf i).toNat)
  case atStart => exact ⟨0, 0, none, 0, [], Nat.zero_le _, rfl, rfl, Nat.le_refl _, (by show _ = _; exact unhide eB), OwnV.nil _ _, Below.refl _ _⟩
  case round =>
    obtain ⟨a, k, pv, cv, vs, ha, rfl, rfl, hka, hst, ho, hbr⟩ := hrel
    have hzr := hbr.size
    by_cases hlt : a < n
    · have hlt' : (a : Int) < (n : Int) := by omega
      obtain ⟨b, o, rfl, -, hc⟩ := (unhide HR).at (by rw [unhide en]; omega)
      have hcell : ∀ (i : Nat) (w' : World), i < n → Below w.heap.size w w' → w'.cell? ⟨b, o + i, none⟩ = some (.int .u8 (l.getD i 0)) := fun i w' hi hb' => (hb'.cell (p := ⟨b, o + i, none⟩) (World.block_lt_of_cell? w _ (hc i (by rw [unhide en]; exact hi)))).trans (hc i (by rw [unhide en]; exact hi))
      have HC := hide hcell
      have hca := hcell a wr hlt hbr
      clear hc hcell
      obtain ⟨x, ex⟩ : ∃ x, l.getD a 0 = x := ⟨_, rfl⟩
      rw [ex] at hca
      have EX := hide ex
      clear ex
      by_cases h47 : x = 47
      · subst h47
        go_wp2_with fail
        go_loopw [5, 6] (fun i nv w2 => ∃ (t j : Nat) (pn : Option Addr) (cn : Nat) (nm : List Int), Hid (t = a + 1 + j) ∧ t ≤ n ∧ a < t ∧ j < t ∧ i = .int .i64 t ∧ nv = .slice pn j cn ∧ Hid (nm = (l.drop (a + 1)).take j) ∧ Hid (nm.length = j) ∧ Hid (∀ y ∈ nm, nmB y = true) ∧ Own wr.heap.size w2 (.slice pn j cn) nm ∧ Below wr.heap.size wr w2) (fun i _ _ => n - (intOf i).toNat)
        case atStart => exact ⟨a + 1, 0, none, 0, [], rfl, by omega, by omega, by omega, by go_num, rfl, rfl, rfl, (by intro y hy; simp at hy), World.ownsRow_nil _ _ _ _, Below.refl _ _⟩
        case round =>
          obtain ⟨t, j, pn, cn, nm, ht, htn, hat, hjt, rfl, rfl, enm, elj, hnm, hon, hb2⟩ := hrel
          have hz2 := hb2.size
          have bb2 := Below.step hbr hb2
          have ho2 := ho.below hb2
          have hend : (t = n ∨ l.getD t 0 = 47) → B = (nmOK nm && st (k + 1) (l.drop t)) := fun he => by
            have := st_read (j := j) (unhide hst) (by rw [unhide en]; exact hlt) (unhide EX) (by rw [← unhide enm]; exact unhide hnm) (by rw [unhide en, ← unhide ht]; exact htn) (by rw [unhide en, ← unhide ht]; exact he)
            rw [← unhide enm, ← unhide ht] at this
            exact this
          have hok : (1 ≤ j ∧ j ≤ 16 → nmOK nm = true) ∧ (¬ (1 ≤ j ∧ j ≤ 16) → nmOK nm = false) := by
            have ha : nm.all nmB = true := List.all_eq_true.2 (unhide hnm)
            rw [nmOK, unhide elj, ha]
            constructor
            · rintro ⟨h1, h2⟩; simp [h1, h2]
            · intro h; simp; omega
          have HE := hide hend
          have HK := hide hok
          clear hend hok
          by_cases hin : t < n
          · have hin' : (t : Int) < (n : Int) := by omega
            have hct := unhide HC t wr hin bb2
            obtain ⟨z, ez⟩ : ∃ z, l.getD t 0 = z := ⟨_, rfl⟩
            rw [ez] at hct
            have EZ := hide ez
            clear ez
            by_cases hz47 : z = 47
            · subst hz47
              have he := unhide HE (.inr (unhide EZ))
              by_cases hj1 : 1 ≤ j
              · have hj1' : ¬ (j : Int) < 1 := by omega
                by_cases hj16 : j ≤ 16
                · have hj16' : ¬ (16 : Int) < (j : Int) := by omega
                  rw [(unhide HK).1 ⟨hj1, hj16⟩, Bool.true_and] at he
                  have HE2 := hide he.symm
                  clear he hca
                  go_wp2_with (at_builtin; refine wpList_appendV rfl _ _ rfl w.heap.size (.slice pv k cv) k vs wr.heap.size rfl rfl (ho2.below ((Below.refl _ _).alloc (Nat.le_refl _) _)) pn j cn (by simp) (by omega) (by simp; omega) ?_)
                  intro p' c' w3 ho3 hg3
                  have b3 : Below w.heap.size w w3 := (bb2.alloc bb2.size _).grown hg3 (by simp; omega) (fun k hk => (World.ownsRow.lt ho2 k hk).1)
                  clear hg3
                  go_wp2
                  go_roundw
                  case rel => exact ⟨t, k + 1, p', c', _, htn, by go_num, rfl, by omega, HE2, ho3, b3⟩
                  case measure => simp [intOf]; omega
                · have hj16' : (16 : Int) < (j : Int) := by omega
                  rw [(unhide HK).2 (by omega), Bool.false_and] at he
                  subst he
                  go_wp2
                  go_ret2
                  exact ⟨⟨_, rfl⟩, bb2⟩
              · have hj1' : (j : Int) < 1 := by omega
                rw [(unhide HK).2 (by omega), Bool.false_and] at he
                subst he
                go_wp2
                go_ret2
                exact ⟨⟨_, rfl⟩, bb2⟩
            · have hz' : (z == 47) = false := by simp [hz47]
              have hz'' : (z != 47) = true := by simp [hz47]
              go_wp2_with fail
              refine (l3nameByte_any z _).mono ?_
              rintro e w3 ⟨rfl, rfl⟩
              by_cases hzb : nmB z = true
              · rw [hzb]
                have enm2 : Hid (nm ++ [z] = (l.drop (a + 1)).take (j + 1)) := by
                  show _ = _
                  have e1 : (l.drop (a + 1))[j]? = some z := by
                    rw [List.getElem?_drop, ← unhide ht, ← unhide EZ]
                    simp [List.getD, unhide en, hin]
                  rw [List.take_add_one, e1, unhide enm]
                  rfl
                have elj2 : Hid ((nm ++ [z]).length = j + 1) := by show _ = _; rw [List.length_append, unhide elj]; rfl
                have hnm2 : Hid (∀ y ∈ nm ++ [z], nmB y = true) := by
                  intro y hy
                  rcases List.mem_append.1 hy with h | h
                  · exact unhide hnm y h
                  · simp at h; rw [h]; exact hzb
                have ht2 : Hid (t + 1 = a + 1 + (j + 1)) := by show _ = _; have := unhide ht; omega
                obtain ⟨nm2, enm0⟩ : ∃ nm2, nm2 = nm ++ [z] := ⟨_, rfl⟩
                rw [← enm0] at enm2 elj2 hnm2
                have elm := hide enm0
                clear enm0 ho2
                go_wp2_with (at_builtin; refine wpList_append_byte rfl _ _ rfl _ (.slice pn j cn) nm nm2 z elm w3.heap.size rfl rfl (Own.below hon ((Below.refl _ _).alloc (Nat.le_refl _) _)) (by simp) (by rw [unhide elj]; omega) (by simp; omega) ?_)
                intro p' c' w4 ho4 hg4
                have b4 := (hb2.alloc hb2.size _).grown hg4 (by simp; omega) (fun k hk => (hon.lt k hk).1)
                rw [unhide elj2] at ho4 ⊢
                clear hg4
                go_wp2
                go_roundw
                case rel => exact ⟨t + 1, j + 1, p', c', nm2, ht2, by omega, by omega, by omega, by go_num, rfl, enm2, elj2, hnm2, ho4, b4⟩
                case measure => simp [intOf]; omega
              · have hzf : nmB z = false := by simpa using hzb
                rw [hzf]
                have eF : B = false := by
                  have e := unhide ht
                  exact st_wrong (j := j) (unhide hst) (by rw [unhide en]; exact hlt) (unhide EX) (by rw [← unhide enm]; exact unhide hnm) (by rw [unhide en, ← e]; exact hin) (by rw [← e, unhide EZ]; exact hz47) (by rw [← e, unhide EZ]; exact hzf)
                subst eF
                go_wp2
                go_ret2
                exact ⟨⟨_, rfl⟩, bb2⟩
          · have hin' : ¬ (t : Int) < (n : Int) := by omega
            have he := unhide HE (.inl (by omega))
            by_cases hj1 : 1 ≤ j
            · have hj1' : ¬ (j : Int) < 1 := by omega
              by_cases hj16 : j ≤ 16
              · have hj16' : ¬ (16 : Int) < (j : Int) := by omega
                rw [(unhide HK).1 ⟨hj1, hj16⟩, Bool.true_and] at he
                have HE2 := hide he.symm
                clear he hca
                go_wp2_with (at_builtin; refine wpList_appendV rfl _ _ rfl w.heap.size (.slice pv k cv) k vs wr.heap.size rfl rfl (ho2.below ((Below.refl _ _).alloc (Nat.le_refl _) _)) pn j cn (by simp) (by omega) (by simp; omega) ?_)
                intro p' c' w3 ho3 hg3
                have b3 : Below w.heap.size w w3 := (bb2.alloc bb2.size _).grown hg3 (by simp; omega) (fun k hk => (World.ownsRow.lt ho2 k hk).1)
                clear hg3
                go_wp2
                go_roundw
                case rel => exact ⟨t, k + 1, p', c', _, htn, by go_num, rfl, by omega, HE2, ho3, b3⟩
                case measure => simp [intOf]; omega
              · have hj16' : (16 : Int) < (j : Int) := by omega
                rw [(unhide HK).2 (by omega), Bool.false_and] at he
                subst he
                go_wp2
                go_ret2
                exact ⟨⟨_, rfl⟩, bb2⟩
            · have hj1' : (j : Int) < 1 := by omega
              rw [(unhide HK).2 (by omega), Bool.false_and] at he
              subst he
              go_wp2
              go_ret2
              exact ⟨⟨_, rfl⟩, bb2⟩
      · have hx : (x == 47) = false := by simp [h47]
        have hx' : (x != 47) = true := by simp [h47]
        have eF : B = false := by
          rw [← unhide hst, drop_cons (by rw [unhide en]; exact hlt), unhide EX]
          exact st_first h47
        subst eF
        go_wp2
        go_ret2
        exact ⟨⟨_, rfl⟩, hbr⟩
    · have e : a = n := by omega
      have hlt' : ¬ (a : Int) < (n : Int) := by omega
      have eB2 := unhide hst
      rw [List.drop_eq_nil_of_le (by rw [unhide en]; omega), st] at eB2
      by_cases h1 : 1 ≤ k
      · by_cases h8 : k ≤ 8
        · have h1' : (1 : Int) ≤ (k : Int) := by omega
          have h8' : (k : Int) ≤ 8 := by omega
          have eT : B = true := by rw [← eB2]; simp [h1, h8]
          subst eT
          go_wp2
          go_ret2
          exact ⟨⟨_, rfl⟩, hbr⟩
        · have h1' : (1 : Int) ≤ (k : Int) := by omega
          have h8' : ¬ (k : Int) ≤ 8 := by omega
          have eT : B = false := by rw [← eB2]; simp [h8]
          subst eT
          go_wp2
          go_ret2
          exact ⟨⟨_, rfl⟩, hbr⟩
      · have h1' : ¬ (1 : Int) ≤ (k : Int) := by omega
        have eT : B = false := by rw [← eB2]; simp [h1]
        subst eT
        go_wp2
        go_ret2
        exact ⟨⟨_, rfl⟩, hbr⟩
end Go.Proofs.YtpbppdeleijhkaaGreatDoor
