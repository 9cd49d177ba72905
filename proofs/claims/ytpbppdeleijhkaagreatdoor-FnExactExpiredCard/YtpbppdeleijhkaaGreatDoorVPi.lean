import Derived.Test.YtpbppdeleijhkaaGreatDoorVPn
import Derived.Test.YtpbppdeleijhkaaGreatDoorVPy
namespace Go.Proofs.YtpbppdeleijhkaaGreatDoor
open Go.ChangeShapes Go.WideShapes Go.ChangeAt Go.RowKit
set_option linter.unusedVariables false
set_option linter.unusedSimpArgs false
set_option maxRecDepth 100000

set_option maxHeartbeats 4000000 in
theorem validName_any (p : Option Addr) (c n : Nat) (l : List Int) (en : Hid (l.length = n)) (w : World) (h : Rd w (.slice p n c) l) (hl : n ≤ 2097152) (B : Bool) (eB : Hid (nmOK l = B)) :
    Calls Tryz.prog 203 #[.slice p n c] w fun e w' => e = .returned (.bool B) ∧ Below w.heap.size w w' := by
  have HR := hide h
  clear h
  by_cases h1 : 1 ≤ n
  · by_cases h16 : n ≤ 16
    · have h1' : ¬ (n : Int) < 1 := by omega
      have h16' : ¬ (16 : Int) < (n : Int) := by omega
      obtain ⟨b, o, rfl, -, hc⟩ := (unhide HR).at (by rw [unhide en]; omega)
      go_enter Tryz.func203, Tryz.ntmps203
      have hcell : ∀ (i : Nat) (w' : World), i < n → Below w.heap.size w w' → w'.cell? ⟨b, o + i, none⟩ = some (.int .u8 (l.getD i 0)) := fun i w' hi hb' => (hb'.cell (p := ⟨b, o + i, none⟩) (World.block_lt_of_cell? w _ (hc i (by rw [unhide en]; exact hi)))).trans (hc i (by rw [unhide en]; exact hi))
      have HC := hide hcell
      clear hc hcell
      go_wp2
      go_loopw [17] (fun i wr => ∃ k : Nat, k ≤ n ∧ i = .int .i64 k ∧ Hid (∀ j, j < k → nmB (l.getD j 0) = true) ∧ Below w.heap.size w wr) (fun i _ => n - (intOf i).toNat)
      case atStart => exact ⟨0, Nat.zero_le _, rfl, (fun j hj => by omega), Below.refl _ _⟩
      case round =>
        obtain ⟨k, hk, rfl, hok, hbr⟩ := hrel
        by_cases hlt : k < n
        · have hlt' : (k : Int) < (n : Int) := by omega
          have hcx := unhide HC k wr hlt hbr
          obtain ⟨z, ez⟩ : ∃ z, l.getD k 0 = z := ⟨_, rfl⟩
          rw [ez] at hcx
          have EZ := hide ez
          clear ez
          have hnext : nmB z = true → Hid (∀ j, j < k + 1 → nmB (l.getD j 0) = true) := fun hz j hj => by
            by_cases e : j = k
            · rw [e, unhide EZ]; exact hz
            · exact unhide hok j (by omega)
          have hstop : nmB z = false → B = false := fun hz => by
            rw [← unhide eB, nmOK]
            have : l.all nmB = false := by
              rw [List.all_eq_false]
              refine ⟨z, ?_, by simp [hz]⟩
              rw [← unhide EZ]
              have hk' : k < l.length := by rw [unhide en]; exact hlt
              rw [show l.getD k 0 = l[k] by simp [List.getD, hk']]
              exact List.getElem_mem hk'
            rw [this]
            simp
          rcases nm_cases z with ⟨g1, g2, gb⟩ | ⟨g2, gb⟩ | ⟨g3, g4, gb⟩ | ⟨rfl, gb⟩ | ⟨g4, g1, g6, gb⟩ | ⟨rfl, gb⟩ | ⟨g3, g5, gb⟩
          · have HN := hnext gb
            clear hnext hstop
            have g3 : (48 : Int) ≤ z := by omega
            have g4 : ¬ z ≤ 57 := by omega
            go_wp2
            go_roundw
            case rel => exact ⟨k + 1, by omega, by go_num, HN, hbr⟩
            case measure => simp [intOf]; omega
          · have eF := hstop gb
            subst eF
            clear hnext hstop
            have g1 : (97 : Int) ≤ z := by omega
            have g2' : ¬ z ≤ 122 := by omega
            have g3 : (48 : Int) ≤ z := by omega
            have g4 : ¬ z ≤ 57 := by omega
            have g5 : (z != 45) = true := by simp; omega
            have g6 : (z != 95) = true := by simp; omega
            go_wp2
            go_ret
            exact ⟨rfl, hbr⟩
          · have HN := hnext gb
            clear hnext hstop
            have g1 : ¬ (97 : Int) ≤ z := by omega
            go_wp2
            go_roundw
            case rel => exact ⟨k + 1, by omega, by go_num, HN, hbr⟩
            case measure => simp [intOf]; omega
          · have HN := hnext gb
            clear hnext hstop
            go_wp2
            go_roundw
            case rel => exact ⟨k + 1, by omega, by go_num, HN, hbr⟩
            case measure => simp [intOf]; omega
          · have eF := hstop gb
            subst eF
            clear hnext hstop
            have g1' : ¬ (97 : Int) ≤ z := by omega
            have g3 : (48 : Int) ≤ z := by omega
            have g4' : ¬ z ≤ 57 := by omega
            have g5 : (z != 45) = true := by simp; omega
            have g6' : (z != 95) = true := by simp [g6]
            go_wp2
            go_ret
            exact ⟨rfl, hbr⟩
          · have HN := hnext gb
            clear hnext hstop
            go_wp2
            go_roundw
            case rel => exact ⟨k + 1, by omega, by go_num, HN, hbr⟩
            case measure => simp [intOf]; omega
          · have eF := hstop gb
            subst eF
            clear hnext hstop
            have g1 : ¬ (97 : Int) ≤ z := by omega
            have g3' : ¬ (48 : Int) ≤ z := by omega
            have g5' : (z != 45) = true := by simp [g5]
            have g6 : (z != 95) = true := by simp; omega
            go_wp2
            go_ret
            exact ⟨rfl, hbr⟩
        · have hlt' : ¬ (k : Int) < (n : Int) := by omega
          have e : k = n := by omega
          have eT : B = true := by
            rw [← unhide eB, nmOK, unhide en]
            have : l.all nmB = true := by
              rw [List.all_eq_true]
              intro x hx
              obtain ⟨i, hi, rfl⟩ := List.getElem_of_mem hx
              have := unhide hok i (by rw [unhide en] at hi; omega)
              rwa [show l.getD i 0 = l[i] by simp [List.getD, hi]] at this
            simp [h1, h16, this]
          subst eT
          go_wp2
          go_ret
          exact ⟨rfl, hbr⟩
    · have h1' : ¬ (n : Int) < 1 := by omega
      have h16' : (16 : Int) < (n : Int) := by omega
      have eF : B = false := by rw [← unhide eB, nmOK, unhide en]; simp [h16]
      subst eF
      go_enter Tryz.func203, Tryz.ntmps203
      go_wp2
      go_ret
      exact ⟨rfl, Below.refl _ _⟩
  · have h1' : (n : Int) < 1 := by omega
    have eF : B = false := by rw [← unhide eB, nmOK, unhide en]; simp [h1]
    subst eF
    go_enter Tryz.func203, Tryz.ntmps203
    go_wp2
    go_ret
    exact ⟨rfl, Below.refl _ _⟩

theorem split_any (b o n c : Nat) (t : List Int) (en : t.length = n) (g : Nat) (w : World) (hc : ∀ i, i < n → w.cell? ⟨b, o + i, none⟩ = some (.int .u8 (t.getD i 0))) (hg : w.cell? ⟨g, 0, none⟩ = some (.int .u8 47)) (hB : Byt t) (hn : n ≤ c) (hc63 : c ≤ maxLen) (hl : n ≤ 2097152) (hm : ∃ m, w.cell? ⟨1, 0, none⟩ = some (.int .i64 m)) (K : Nat) (eK : (cutG 47 t).length = K) :
    Calls Tryz.prog 202 #[.slice (some ⟨b, o, none⟩) n c, .slice (some ⟨g, 0, none⟩) 1 1] w fun e w' => e = .returned (.slice (some ⟨w.heap.size, 0, none⟩) K K) ∧ (∀ j nm, (cutG 47 t)[j]? = some nm → ∃ p' c', w'.cell? ⟨w.heap.size, j, none⟩ = some (.slice p' nm.length c') ∧ Rd w' (.slice p' nm.length c') nm) ∧ Below w.heap.size w w' := by
  obtain ⟨m, hm⟩ := hm
  have hadd : ∀ (g o i : Nat), (⟨g, o, none⟩ : Addr).add i = ⟨g, o + i, none⟩ := fun g o i => by
    unfold Addr.add
    split
    · next h => subst h; rfl
    · rfl
  obtain ⟨e1, e2⟩ := split_ints hB
  refine (Any.bytes_Split Tryz.layS7 ⟨b, o, none⟩ ⟨g, 0, none⟩ n c 1 1 t [47] m w en rfl hB (by intro y hy; simp at hy; subst hy; decide) (fun i hi => by rw [hadd]; exact hc i hi) (fun i hi => by
    obtain rfl : i = 0 := by omega
    exact hg) hn (by omega) (by decide) (by unfold maxLen at hc63; omega) (by decide) hm).mono ?_
  rintro e w' ⟨rfl, q, rfl⟩
  have hbel : Below w.heap.size w ((w.alloc (.cells (Lib.splitV (Lib.bytesOf [47]) 0 (Lib.count (Lib.bytesOf t) (Lib.bytesOf [47])) ⟨b, o, none⟩ c (Lib.bytesOf t)).toArray (Tryz.layS7_ren.t 22))).drewN q) := ⟨rfl, rfl, rfl, by simp, fun k hk => Below.heap_alloc _ _ k hk⟩
  rw [e2, eK]
  refine ⟨rfl, fun j nm hj => ?_, hbel⟩
  have hjl : j < (Lib.splitV (Lib.bytesOf [47]) 0 (Lib.count (Lib.bytesOf t) (Lib.bytesOf [47])) ⟨b, o, none⟩ c (Lib.bytesOf t)).length := by
    rw [Lib.splitV_length, e1, List.length_map]
    exact (List.getElem?_eq_some_iff.1 hj).1
  obtain ⟨a', off, len, cp, ev, h1, h2, h3, h4⟩ := Lib.splitV_spec (Lib.bytesOf [47]) 0 (by decide) (Nat.zero_le _) _ ⟨b, o, none⟩ c (Lib.bytesOf t) (by rw [Lib.bytesOf_length, en]; exact hn) j _ (List.getElem?_eq_getElem hjl)
  rw [e1, List.getElem?_map, hj] at h3
  rw [Lib.bytesOf_length] at h2
  have enm : nm = (t.drop off).take len := by
    refine bytesOf_inj (cut_byt hB nm (List.mem_of_getElem? hj)) (fun z hz => hB z (List.mem_of_mem_drop (List.mem_of_mem_take hz))) ?_
    rw [Lib.bytesOf_take, Lib.bytesOf_drop]
    simpa using h3
  have elen : nm.length = len := by rw [enm, List.length_take, List.length_drop]; omega
  refine ⟨some a', cp, ?_, ?_⟩
  · rw [World.cell?_drewN, World.cell?_alloc_new, List.getElem?_toArray, List.getElem?_eq_getElem hjl, ev, elen]
  · refine ⟨some a', cp, rfl, ?_⟩
    by_cases h0 : len = 0
    · left
      exact List.length_eq_zero_iff.1 (by rw [elen]; exact h0)
    · right
      have ea := h4 0 (by omega)
      rw [hadd, Nat.add_zero] at ea
      refine ⟨b, o + off, ?_, fun i hi => ?_⟩
      · have : a'.add 0 = a' := rfl
        rw [← this, ea]
      · rw [elen] at hi
        have hcc : ((w.alloc (.cells (Lib.splitV (Lib.bytesOf [47]) 0 (Lib.count (Lib.bytesOf t) (Lib.bytesOf [47])) ⟨b, o, none⟩ c (Lib.bytesOf t)).toArray (Tryz.layS7_ren.t 22))).drewN q).cell? ⟨b, o + (off + i), none⟩ = some (.int .u8 (t.getD (off + i) 0)) :=
          (hbel.cell (p := ⟨b, o + (off + i), none⟩) (World.block_lt_of_cell? w _ (hc (off + i) (by omega)))).trans (hc (off + i) (by omega))
        rw [Nat.add_assoc, hcc, enm]
        have : ((t.drop off).take len).getD i 0 = t.getD (off + i) 0 := by
          simp [List.getD, List.getElem?_take, hi, List.getElem?_drop]
        rw [this]
end Go.Proofs.YtpbppdeleijhkaaGreatDoor
