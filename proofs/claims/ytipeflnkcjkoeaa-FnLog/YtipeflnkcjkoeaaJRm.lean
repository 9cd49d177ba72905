import Derived.Test.YtipeflnkcjkoeaaJRs
namespace Go.Proofs.Ytipeflnkcjkoeaa
open Go.ChangeShapes Go.WideShapes Go.ChangeAt Go.RowKit
set_option linter.unusedVariables false
set_option linter.unusedSimpArgs false

theorem recCells_setSeq : ∀ (rs : List R1) (vs : List Value) (i : Nat) (k s : Int) (l : List Int), vs.length = rs.length → rs[i]? = some (s, l) → recCells (rs.set i (k, l)) vs = (recCells rs vs).set (2 * i) (.int .u64 k)
  | [], vs, i, k, s, l, _, h => by simp at h
  | r :: rs, [], i, k, s, l, h, _ => by simp at h
  | r :: rs, v :: vs, 0, k, s, l, _, h => by simp [recCells]
  | r :: rs, v :: vs, i + 1, k, s, l, h1, h2 => by
    rw [show 2 * (i + 1) = 2 * i + 1 + 1 by omega]
    simp [recCells, recCells_setSeq rs vs i k s l (by simpa using h1) (by simpa using h2)]
theorem recCells_setBody : ∀ (rs : List R1) (vs : List Value) (i : Nat) (s : Int) (l l' : List Int), rs[i]? = some (s, l) → recCells (rs.set i (s, l')) vs = recCells rs vs
  | [], vs, i, s, l, l', h => by simp at h
  | r :: rs, [], i, s, l, l', h => by cases i <;> simp [recCells]
  | r :: rs, v :: vs, 0, s, l, l', h => by simp at h; subst h; simp [recCells]
  | r :: rs, v :: vs, i + 1, s, l, l', h => by simp [recCells, recCells_setBody rs vs i s l l' (by simpa using h)]

/-- the block of a row of records holds no bytes -/
theorem OwnR.apart {B B' : Nat} {w : World} {v u : Value} {rs : List R1} {vs : List Value} {l : List Int} (h : OwnR B w v rs vs) (ho : Own B' w u l) : Apart v u := by
  intro b e1 e2
  rcases h.row.2 with ⟨rfl, _⟩ | ⟨g, cap, cur, rfl, _, hg, _⟩
  · simp [Value.ownBlock] at e1
  · rcases ho.2 with ⟨rfl, _⟩ | ⟨g', cap', cur', rfl, _, hg', _⟩
    · simp [Value.ownBlock] at e2
    · simp [Value.ownBlock] at e1 e2
      subst e1 e2
      rw [hg] at hg'
      simp at hg'

theorem OwnR.setSeq {B g n c : Nat} {w : World} {rs : List R1} {vs : List Value} (hn : rs.length = n) (h : OwnR B w (.slice (some ⟨g, 0, none⟩) n c) rs vs) (i : Nat) (s : Int) (l : List Int) (hi : rs[i]? = some (s, l)) (k : Int) :
    OwnR B (w.setCell ⟨g, 2 * i, none⟩ (.int .u64 k)) (.slice (some ⟨g, 0, none⟩) n c) (rs.set i (k, l)) vs ∧ w.grownBy (w.setCell ⟨g, 2 * i, none⟩ (.int .u64 k)) (some g) := by
  subst hn
  have hst := h.row.stored (2 * i) (.int .u64 k)
  refine ⟨⟨by rw [List.length_set]; exact h.len, ?_, ?_, h.ap⟩, hst.2⟩
  · rw [List.length_set, recCells_setSeq rs vs i k s l h.len hi]
    exact hst.1
  · intro j r u h1 h2
    obtain ⟨r', hr'⟩ : ∃ r', rs[j]? = some r' := by
      have : j < rs.length := by rw [← h.len]; exact (List.getElem?_eq_some_iff.1 h2).1
      exact ⟨_, List.getElem?_eq_getElem this⟩
    have ho := h.own j r' u hr' h2
    have e2 : r.2 = r'.2 := by
      by_cases e : i = j
      · subst e
        rw [List.getElem?_set_self (List.getElem?_eq_some_iff.1 hi).1] at h1
        rw [hi] at hr'
        simp at h1 hr'
        rw [← h1, ← hr']
      · rw [List.getElem?_set_ne e] at h1
        rw [h1] at hr'
        simp at hr'
        rw [hr']
    rw [e2]
    exact Own.keptBy (vs := [.slice (some ⟨g, 0, none⟩) rs.length c]) ho (Kept.of_grown (v := .slice (some ⟨g, 0, none⟩) rs.length c) hst.2 (by simp)) (fun x hx b e1 e3 => by simp only [List.mem_singleton] at hx; subst hx; exact h.apart ho b e3 e1)

theorem OwnR.setBody {B : Nat} {w w' : World} {v u : Value} {rs : List R1} {vs : List Value} (h : OwnR B w v rs vs) (i : Nat) (s : Int) (l l' : List Int) (hi : rs[i]? = some (s, l)) (hv : vs[i]? = some u) (hg : w.grownBy w' u.ownBlock) (ho : Own B w' u l') :
    OwnR B w' v (rs.set i (s, l')) vs := by
  have hu := h.own i _ u hi hv
  refine ⟨by rw [List.length_set]; exact h.len, ?_, ?_, h.ap⟩
  · rw [List.length_set, recCells_setBody rs vs i s l l' hi]
    refine h.row.kept hg ?_
    cases e : v.ownBlock with
    | none => exact .inl rfl
    | some b => exact .inr fun e2 => h.apart hu b e e2.symm
  · intro j r u' h1 h2
    by_cases e : i = j
    · subst e
      rw [List.getElem?_set_self (List.getElem?_eq_some_iff.1 hi).1] at h1
      rw [hv] at h2
      simp at h1 h2
      rw [← h1, ← h2]
      exact ho
    · rw [List.getElem?_set_ne e] at h1
      have ho' := h.own j r u' h1 h2
      refine Own.keptBy (vs := [u]) ho' (Kept.of_grown hg (by simp)) (fun x hx b e1 e3 => ?_)
      simp only [List.mem_singleton] at hx
      subst hx
      obtain ⟨hi', ei⟩ := List.getElem?_eq_some_iff.1 hv
      obtain ⟨hj', ej⟩ := List.getElem?_eq_some_iff.1 h2
      rcases Nat.lt_or_ge i j with hlt | hge
      · have := List.pairwise_iff_getElem.1 h.ap i j hi' hj' hlt
        rw [ei, ej] at this
        exact this b e3 e1
      · have := List.pairwise_iff_getElem.1 h.ap j i hj' hi' (by omega)
        rw [ei, ej] at this
        exact this b e1 e3

/-- the marks that a marking of records lays -/
def mkR (k : Int) : List R1 → List R1
  | [] => []
  | r :: rs => (k, marks (k + 1) r.2.length) :: mkR (k + 1 + r.2.length) rs
def tot : List R1 → Nat
  | [] => 0
  | r :: rs => 1 + r.2.length + tot rs
theorem tot_append (a b : List R1) : tot (a ++ b) = tot a + tot b := by induction a with | nil => simp [tot] | cons r a ih => simp [tot, ih]; omega
theorem mkR_length (k : Int) (rs : List R1) : (mkR k rs).length = rs.length := by induction rs generalizing k with | nil => rfl | cons r rs ih => simp [mkR, ih]
theorem mkR_append (k : Int) (a b : List R1) : mkR k (a ++ b) = mkR k a ++ mkR (k + tot a) b := by
  induction a generalizing k with
  | nil => simp [mkR, tot]
  | cons r a ih => simp only [List.cons_append, mkR, ih, tot]; congr 3; omega
theorem mkR_get (k : Int) (rs : List R1) (i : Nat) (r : R1) (h : rs[i]? = some r) : (mkR k rs)[i]? = some (k + tot (rs.take i), marks (k + tot (rs.take i) + 1) r.2.length) := by
  induction rs generalizing k i with
  | nil => simp at h
  | cons r' rs ih =>
    cases i with
    | zero => simp at h; subst h; simp [mkR, tot]
    | succ i =>
      have := ih (k + 1 + r'.2.length) i (by simpa using h)
      simp only [mkR, List.getElem?_cons_succ, this, List.take_succ_cons, tot]
      congr 2
      · omega
      · congr 1; omega
theorem tot_take (rs : List R1) (i : Nat) (r : R1) (h : rs[i]? = some r) : tot (rs.take (i + 1)) = tot (rs.take i) + 1 + r.2.length := by
  obtain ⟨hi, e⟩ := List.getElem?_eq_some_iff.1 h
  rw [List.take_succ_eq_append_getElem hi, tot_append, e]; simp [tot]; omega
theorem tot_take_le (rs : List R1) (i : Nat) : tot (rs.take i) ≤ tot rs := by
  conv => rhs; rw [← List.take_append_drop i rs]
  rw [tot_append]; omega

/-- what marked records read behind j rounds -/
def mkd (rs : List R1) (k : Int) (j : Nat) : List R1 := mkR k (rs.take j) ++ rs.drop j

theorem mkd_length (rs : List R1) (k : Int) (j : Nat) (hj : j ≤ rs.length) : (mkd rs k j).length = rs.length := by simp [mkd, mkR_length]; omega
theorem mkd_get (rs : List R1) (k : Int) (j : Nat) (r : R1) (h : rs[j]? = some r) : (mkd rs k j)[j]? = some r := by
  obtain ⟨hj, e⟩ := List.getElem?_eq_some_iff.1 h
  unfold mkd
  rw [List.getElem?_append_right (by rw [mkR_length]; simp; omega), mkR_length]
  simp [show min j rs.length = j by omega, h]
theorem mkd_step (rs : List R1) (k : Int) (j : Nat) (r : R1) (h : rs[j]? = some r) : ((mkd rs k j).set j (k + tot (rs.take j), r.2)).set j (k + tot (rs.take j), marks (k + tot (rs.take j) + 1) r.2.length) = mkd rs k (j + 1) := by
  obtain ⟨hj, e⟩ := List.getElem?_eq_some_iff.1 h
  rw [List.set_set]
  unfold mkd
  have hm : (mkR k (rs.take j)).length = j := by rw [mkR_length]; simp; omega
  rw [List.take_succ_eq_append_getElem hj, mkR_append, e, List.drop_eq_getElem_cons hj, List.set_append_right _ _ (by omega), hm, Nat.sub_self, List.set_cons_zero]
  simp [mkR]

set_option maxHeartbeats 800000 in
theorem markRecordS_any (B : Nat) (p : Option Addr) (c n : Nat) (rs : List R1) (vs : List Value) (en : Hid (rs.length = n)) (k : Int) (w : World) (h : OwnR B w (.slice p n c) rs vs) (hB : B ≤ w.heap.size) (k0 : 0 ≤ k) (k1 : k + tot rs ≤ 50000000) (hn : n ≤ 1048576) (hl : ∀ r ∈ rs, r.2.length ≤ 1048576) :
    Calls Try.prog 28 #[.slice p n c, .int .i64 k] w fun e w' => e = .returned (.int .i64 (k + tot rs)) ∧ OwnR B w' (.slice p n c) (mkR k rs) vs ∧ Below B w w' := by
  go_enter Try.func28, Try.ntmps28
  go_wp2
  go_loopw [1, 5] (fun kk i wr => ∃ j : Nat, j ≤ n ∧ i = .int .i64 j ∧ kk = .int .i64 (k + tot (rs.take j)) ∧ OwnR B wr (.slice p n c) (mkd rs k j) vs ∧ Below B w wr) (fun _ i _ => n - (intOf i).toNat)
  case atStart => exact ⟨0, Nat.zero_le _, rfl, by simp [tot], by simpa [mkd, mkR] using h, Below.refl _ _⟩
  case round =>
    obtain ⟨j, hj, rfl, rfl, ho, hbr⟩ := hrel
    have hle := tot_take_le rs j
    by_cases hlt : j < n
    · have e0 := unhide en
      have hj1 : j < rs.length := by omega
      obtain ⟨r, hr⟩ : ∃ r, rs[j]? = some r := ⟨_, List.getElem?_eq_getElem hj1⟩
      obtain ⟨u, hu⟩ : ∃ u, vs[j]? = some u := ⟨_, List.getElem?_eq_getElem (by rw [h.len]; exact hj1)⟩
      have hln : (mkd rs k j).length = n := by rw [mkd_length rs k j (by omega)]; exact e0
      have hg := mkd_get rs k j r hr
      have hstep := mkd_step rs k j r hr
      have ht := tot_take rs j r hr
      have hle2 := tot_take_le rs (j + 1)
      have hlr := hl r (List.mem_of_getElem? hr)
      obtain ⟨pu, cu, eu⟩ := (ho.own j r u hg hu).form
      rcases id ho.row.2 with ⟨_, h0⟩ | ⟨g, cap, cur, ev, hgB, hgg, _, _, _, _⟩
      · omega
      · simp only [Value.slice.injEq] at ev
        obtain ⟨rfl, -, rfl⟩ := ev
        obtain ⟨c0, c1⟩ := recCells_get _ _ j r u hg hu
        have row' := ho.row
        rw [hln] at row'
        have d0 := (row'.cellAt (2 * j) (by omega)).trans c0
        have d1 := (row'.cellAt (2 * j + 1) (by omega)).trans c1
        have hfz := row'.frozenAt (2 * j)
        rw [Nat.mul_comm] at d0 d1 hfz
        rw [eu] at d1
        obtain ⟨s, l⟩ := r
        dsimp only at *
        have S1 := ho.setSeq hln j s l hg (k + tot (rs.take j))
        rw [Nat.mul_comm 2 j] at S1
        have hs2 : ((mkd rs k j).set j (k + tot (rs.take j), l))[j]? = some (k + tot (rs.take j), l) := List.getElem?_set_self (by omega)
        have hOb := S1.1.own j _ u hs2 hu
        rw [eu] at hOb
        have HS := hide S1
        have HO := hide hOb
        have HX := hide (And.intro hs2 (And.intro hu (And.intro eu (And.intro hstep (And.intro ht ho)))))
        have hji : (j : Int) < (n : Int) := by omega
        clear S1 hOb hs2 hu eu hstep ho row' hg hr c0 c1 hgg h hl
        generalize hT : tot (rs.take j) = T at *
        clear hT
        have hT0 : 0 ≤ k + (T : Int) := by omega
        go_wp2_with fail
        refine (markByteS_n B pu cu l.length l rfl (k + T + 1) _ (unhide HO) (by omega) (by omega) (by omega)).mono ?_
        rintro e w1 ⟨rfl, ob, hg1⟩
        obtain ⟨hs2, hu, eu, hstep, ht, ho⟩ := unhide HX
        rw [eu] at hu
        have hR := (unhide HS).1.setBody j (k + T) l (marks (k + T + 1) l.length) hs2 hu hg1 ob
        rw [hstep] at hR
        have b1 : Below B w (wr.setCell ⟨g, j * 2, none⟩ (.int .u64 (k + T))) := hbr.setCell (p := ⟨g, j * 2, none⟩) hgB _
        have b2 : Below B w w1 := b1.grown hg1 (by have := b1.size; omega) (fun b e => (Own.lt (unhide HO) b e).1)
        have HT := hide ht
        clear HX HS HO hs2 hu eu hstep ht ho ob hg1 b1 hbr d0 d1 hfz
        go_wp2
        go_roundw
        case rel => exact ⟨j + 1, by omega, by go_num, by rw [unhide HT]; go_num, hR, b2⟩
        case measure => simp [intOf]; omega
    · have e : j = n := by omega
      subst e
      have e0 := unhide en
      have e2 : mkd rs k j = mkR k rs := by unfold mkd; rw [← e0, List.take_length, List.drop_length, List.append_nil]
      have e3 : rs.take j = rs := by rw [← e0, List.take_length]
      rw [e2] at ho
      rw [e3]
      clear h hl e2 e3 e0
      go_wp2
      go_ret
      exact ⟨rfl, ho, hbr⟩

set_option maxHeartbeats 800000 in
theorem heldRecordS_any (p : Option Addr) (c n : Nat) (rs : List R1) (en : Hid (rs.length = n)) (k : Int) (w : World) (h : RdR w (.slice p n c) (mkR k rs)) (k0 : 0 ≤ k) (k1 : k + tot rs ≤ 50000000) (hn : n ≤ 1048576) (hl : ∀ r ∈ rs, r.2.length ≤ 1048576) :
    Calls Try.prog 29 #[.slice p n c, .int .i64 k] w fun e w' => e = .returned (.int .i64 (k + tot rs)) ∧ Below w.heap.size w w' := by
  go_enter Try.func29, Try.ntmps29
  go_wp2
  go_loopw [1, 5] (fun kk i wr => ∃ j : Nat, j ≤ n ∧ i = .int .i64 j ∧ kk = .int .i64 (k + tot (rs.take j)) ∧ Below w.heap.size w wr) (fun _ i _ => n - (intOf i).toNat)
  case atStart => exact ⟨0, Nat.zero_le _, rfl, by simp [tot], Below.refl _ _⟩
  case round =>
    obtain ⟨j, hj, rfl, rfl, hbr⟩ := hrel
    have hle := tot_take_le rs j
    have e0 := unhide en
    by_cases hlt : j < n
    · have hj1 : j < rs.length := by omega
      obtain ⟨r, hr⟩ : ∃ r, rs[j]? = some r := ⟨_, List.getElem?_eq_getElem hj1⟩
      have ht := tot_take rs j r hr
      have hle2 := tot_take_le rs (j + 1)
      have hlr := hl r (List.mem_of_getElem? hr)
      have hg := mkR_get k rs j r hr
      obtain ⟨q1, d1, ev, h'⟩ := h.below hbr
      simp only [Value.slice.injEq] at ev
      obtain ⟨rfl, -, rfl⟩ := ev
      rcases h' with e | ⟨g, o, rfl, hc⟩
      · rw [e] at hg; simp at hg
      · obtain ⟨a1, x1, y1, a2, a3⟩ := hc j _ hg
        dsimp only at a1 a2 a3
        rw [marks_length] at a2 a3
        rw [Nat.mul_comm] at a1 a2
        have hji : (j : Int) < (n : Int) := by omega
        obtain ⟨s, l⟩ := r
        dsimp only at *
        have HT := hide ht
        have HA := hide a3
        clear hc h hl hr e0 hj1 hg ht a3
        generalize hT : tot (rs.take j) = T at *
        clear hT
        have hT0 : 0 ≤ k + (T : Int) := by omega
        have hne : ((k + (T : Int)) != (k + (T : Int))) = false := by simp
        go_wp2_with fail
        refine (heldByteS_any x1 y1 l.length (k + T + 1) _ (unhide HA) (by omega) (by omega) (by omega)).mono ?_
        rintro e w1 ⟨rfl, hb1⟩
        have b1 := Below.step hbr hb1
        clear hbr hb1 a1 a2 HA
        go_wp2
        go_roundw
        case rel => exact ⟨j + 1, by omega, by go_num, by rw [unhide HT]; go_num, b1⟩
        case measure => simp [intOf]; omega
    · have e : j = n := by omega
      subst e
      have e3 : rs.take j = rs := by rw [← e0, List.take_length]
      rw [e3]
      clear h hl e3 e0
      go_wp2
      go_ret
      exact ⟨rfl, hbr⟩
end Go.Proofs.Ytipeflnkcjkoeaa
