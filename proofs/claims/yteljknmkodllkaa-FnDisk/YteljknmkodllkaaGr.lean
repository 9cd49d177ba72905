import Derived.Test.YteljknmkodllkaaCp
import Derived.Lib.AppendZeros
namespace Go.Proofs.Yteljknmkodllkaa
open Go.ChangeShapes Go.WideShapes Go.ChangeAt Go.RowKit
set_option linter.unusedVariables false
set_option linter.unusedSimpArgs false

set_option maxHeartbeats 400000 in
theorem growNil_any (n : Nat) (w : World) (hn : n ≤ 4194304) :
    Calls Try.prog 67 #[.slice none 0 0, .int .i64 n] w fun e w' => ∃ p' c', e = .returned (.slice p' 0 c') ∧ Own w.heap.size w' (.slice p' 0 c') [] ∧ Below w.heap.size w w' := by
  obtain ⟨i, hi, hz0, hz1, hz2⟩ := info_parts Try.infoByte
  by_cases h : n = 0
  · subst h
    go_enter Try.func67, Try.ntmps67
    go_wp2
    go_ret
    exact ⟨none, 0, rfl, World.ownsRow_nil _ _ _ _, Below.refl _ _⟩
  · have hp : (0 : Int) < (n : Int) := by omega
    have hr := Lib.run_append_nil_zeros (P := Try.prog) w 22 3 22 5 i (.int .u8 0) .i64 .i64 Try.underlying22 Try.underlying3 hi hz0 n (by omega) (by omega) (by omega) (by rw [hz2]; omega)
    have HR := hide hr
    have hcap := grownCap_ge w n 0 5
    have hcm := grownCap_le_maxLen w n 0 5 (by unfold maxLen; omega)
    generalize grownCap w n 0 5 = cc at HR hcap hcm
    clear hr
    go_enter Try.func67, Try.ntmps67
    go_wp2_with (at_builtin; refine Lib.wpList_append_run _ rfl _ _ _ _ rfl _ _ rfl rfl _ _ (by exact unhide HR) ?_)
    unfold maxLen at hcm
    go_wp2
    go_ret
    have hs : (Builtin.zeroCells #[Value.int IntKind.u8 0] n ++ Builtin.zeroCells #[Value.int IntKind.u8 0] (cc - n)).size = cc * 1 := by
      rw [Array.size_append, size_zeroCells, size_zeroCells]; simp; omega
    exact ⟨_, cc, rfl, World.ownsRow_made (base := w.heap.size) (e := 5) (size := 1) w _ cc (Nat.le_refl _) (by unfold maxLen; omega) hs, ((Below.refl _ _).alloc (Nat.le_refl _) _).drew⟩

/-- a row of slices that read the lists ls -/
def Parts (w : World) (g : Nat) (vs : List Value) (ls : List (List Int)) : Prop :=
  vs.length = ls.length ∧ ∀ j v l, vs[j]? = some v → ls[j]? = some l → w.cell? ⟨g, j, none⟩ = some v ∧ Rd w v l
theorem Parts.below {w w' : World} {g : Nat} {vs : List Value} {ls : List (List Int)} (h : Parts w g vs ls) (hb : Below w.heap.size w w') : Parts w' g vs ls :=
  ⟨h.1, fun j v l e1 e2 => ⟨cell_below (h.2 j v l e1 e2).1 hb, (h.2 j v l e1 e2).2.below hb⟩⟩
theorem Parts.get {w : World} {g : Nat} {vs : List Value} {ls : List (List Int)} (h : Parts w g vs ls) (j : Nat) (hj : j < ls.length) : ∃ (p : Option Addr) (c : Nat) (l : List Int), ls[j]? = some l ∧ w.cell? ⟨g, j, none⟩ = some (.slice p l.length c) ∧ Rd w (.slice p l.length c) l := by
  have hv : j < vs.length := by rw [h.1]; exact hj
  obtain ⟨h1, h2⟩ := h.2 j vs[j] ls[j] (List.getElem?_eq_getElem hv) (List.getElem?_eq_getElem hj)
  obtain ⟨p, c, e, hh⟩ := id h2
  exact ⟨p, c, ls[j], List.getElem?_eq_getElem hj, by rw [h1, e], by rw [e] at h2; exact h2⟩

/-- lists one behind the other -/
def cat (ls : List (List Int)) : List Int := ls.flatten
theorem cat_nil : cat [] = [] := rfl
theorem cat_one (l : List Int) : cat [l] = l := by simp [cat]
theorem cat_two (l m : List Int) : cat [l, m] = l ++ m := by simp [cat]
theorem flat_step (ls : List (List Int)) (k : Nat) (l : List Int) (h : ls[k]? = some l) : cat (ls.take (k + 1)) = cat (ls.take k) ++ l := by
  obtain ⟨hk, e⟩ := List.getElem?_eq_some_iff.1 h
  unfold cat
  rw [List.take_succ_eq_append_getElem hk, List.flatten_append, e]
  simp only [List.flatten_cons, List.flatten_nil, List.append_nil]
theorem flat_le (ls : List (List Int)) (k : Nat) : (cat (ls.take k)).length ≤ (cat ls).length := by
  have e : cat ls = cat (ls.take k) ++ cat (ls.drop k) := by unfold cat; rw [← List.flatten_append, List.take_append_drop]
  rw [e, List.length_append]; omega

set_option maxHeartbeats 800000 in
theorem concat_any (g : Nat) (vs : List Value) (ls : List (List Int)) (w : World) (h : Parts w g vs ls) (hl : (cat ls).length ≤ 4194304) (hk : ls.length ≤ 1000) :
    Calls Try.prog 64 #[.slice (some ⟨g, 0, none⟩) ls.length ls.length] w fun e w' => ∃ p' c', e = .returned (.slice p' (cat ls).length c') ∧ Own w.heap.size w' (.slice p' (cat ls).length c') (cat ls) ∧ Below w.heap.size w w' := by
  obtain ⟨i, hi, hz0, hz1, hz2⟩ := info_parts Try.infoByte
  go_enter Try.func64, Try.ntmps64
  go_wp2
  go_loopw [3, 11] (fun s i wr => ∃ k : Nat, k ≤ ls.length ∧ i = .int .i64 k ∧ s = .int .i64 ((cat (ls.take k)).length : Nat) ∧ Below w.heap.size w wr) (fun _ i _ => ls.length - (intOf i).toNat)
  case atStart => exact ⟨0, Nat.zero_le _, rfl, by simp [cat], Below.refl _ _⟩
  case round =>
    obtain ⟨k, hk1, rfl, rfl, hbr⟩ := hrel
    have hfl := flat_le ls k
    by_cases hlt : k < ls.length
    · obtain ⟨p, c, l, e1, e2, e3⟩ := (h.below hbr).get k hlt
      have hst := flat_step ls k l e1
      have hln : (cat (ls.take k)).length + l.length = (cat (ls.take (k + 1))).length := by rw [hst]; simp
      have hfl2 := flat_le ls (k + 1)
      have hle : (cat (ls.take k)).length + l.length ≤ 4194304 := by omega
      have HL := hide hln
      clear hln hst hfl2 e3 e1
      generalize (cat (ls.take k)).length = a at *
      go_wp2
      go_roundw
      case rel => exact ⟨k + 1, by omega, by go_num, by rw [← unhide HL]; go_num, hbr⟩
      case measure => simp [intOf]; omega
    · have e : k = ls.length := by omega
      subst e
      rw [List.take_length]
      rw [List.take_length] at hfl
      go_wp2_with fail
      refine (growNil_any _ _ hl).mono ?_
      rintro e w1 ⟨p1, c1, rfl, o1, hb1⟩
      replace o1 : Own w.heap.size w1 (.slice p1 0 c1) [] := o1.mono hbr.size
      have b1 := Below.step hbr hb1
      clear hb1 hbr hfl
      go_wp2
      go_loopw [6, 27] (fun v i wr => ∃ k : Nat, k ≤ ls.length ∧ i = .int .i64 k ∧ (∃ p c, v = .slice p (cat (ls.take k)).length c ∧ Own w.heap.size wr v (cat (ls.take k))) ∧ Below w.heap.size w wr) (fun _ i _ => ls.length - (intOf i).toNat)
      case atStart => exact ⟨0, Nat.zero_le _, rfl, ⟨p1, c1, by simp [cat], by simpa [cat] using o1⟩, b1⟩
      case round =>
        obtain ⟨k, hk1, rfl, ⟨pv, cv, rfl, ho⟩, hbr⟩ := hrel
        have hfl := flat_le ls k
        by_cases hlt : k < ls.length
        · obtain ⟨p, c, l, e1, e2, e3⟩ := (h.below hbr).get k hlt
          have hst := flat_step ls k l e1
          have hfl2 := flat_le ls (k + 1)
          have hle : (cat (ls.take k)).length + l.length ≤ 4194304 := by have := congrArg List.length hst; simp only [List.length_append] at this; omega
          have HS := hide hst
          clear hst hfl2 e1 o1 b1
          generalize (cat (ls.take k)) = a at *
          cases p with
          | none =>
            have e := e3.none_nil
            subst e
            have HA := hide (run_append_none_any (P := Try.prog) wr w.heap.size 22 22 5 i 1 Try.underlying22 hi _ _ _ c ho)
            go_wp2_with (at_builtin; refine Lib.wpList_append_run _ rfl _ _ _ _ rfl _ _ rfl rfl _ _ (by exact unhide HA) ?_)
            go_roundw
            case rel => exact ⟨k + 1, by omega, by go_num, ⟨pv, cv, by rw [unhide HS]; simp, by rw [unhide HS]; simpa using ho⟩, hbr⟩
            case measure => simp [intOf]; omega
          | some ad =>
            obtain ⟨n1, n2, n3⟩ := e3.news
            clear e3
            go_wp2_with (at_builtin; refine wpList_append_own _ rfl _ _ 22 rfl w.heap.size 5 i (.int .u8 0) 1 1 Try.underlying22 hi hz0 hz1 hz2 rfl (by decide) _ _ _ rfl ho ad _ c (U l) rfl n1 n2 n3 (by unfold maxLen; omega) (by omega) hbr.size ?_)
            intro v' w2 hown hg _
            have b2 : Below w.heap.size w w2 := hbr.grown hg hbr.size (fun k hk => (ho.lt k hk).1)
            have ho2 : Own w.heap.size w2 v' (a ++ l) := by unfold Own; rw [List.length_append, U, List.map_append]; exact hown
            obtain ⟨p', c', rfl⟩ := ho2.form
            clear hown hg n2
            go_wp2
            go_roundw
            case rel => exact ⟨k + 1, by omega, by go_num, ⟨p', c', by rw [unhide HS], by rw [unhide HS]; exact ho2⟩, b2⟩
            case measure => simp [intOf]; omega
        · have e : k = ls.length := by omega
          subst e
          rw [List.take_length] at ho
          clear o1 b1 hfl
          go_wp2
          go_ret
          exact ⟨pv, cv, by rw [List.take_length]; rfl, ho, hbr⟩
end Go.Proofs.Yteljknmkodllkaa
