import Derived.Test.YtipeflnkcjkoeaaJRI
import Derived.Deep.DeepCutAuto
namespace Go.Proofs.Ytipeflnkcjkoeaa
open Go.ChangeShapes Go.WideShapes Go.ChangeAt Go.RowKit
set_option linter.unusedVariables false
set_option linter.unusedSimpArgs false

theorem rlRes_mk {w wr : World} {l : List Int} {rs : List R1} {p : Option Addr} {c K a : Nat} {vs : List Value} (e : rl l = rs) (ek : Hid (rs.length = K)) (ea : Hid (tkR rs = a)) (ho : OwnR w.heap.size wr (.slice p K c) rs vs) (hb : Below w.heap.size w wr) : RlRes w (rl l) (.returned (.tuple #[.slice p K c, .int .i64 (a : Int)])) wr := by
  have e1 := unhide ek
  have e2 := unhide ea
  subst e1 e2
  rw [e]
  exact ⟨p, c, vs, rfl, ho, hb⟩

/-- what holds between two rounds of the specification's reading -/
def SInv (l : List Int) (rs : List R1) (a f : Nat) : Prop :=
  fol none (yl (l.length + 1) l) = rs ++ fol (lastS rs) (yl f (l.drop a)) ∧ tkR rs = a ∧ f + rs.length = l.length + 1 ∧ rs.length ≤ a ∧ (∀ r ∈ rs, r.2.length ≤ 1000 ∧ 0 ≤ r.1 ∧ r.1 < 18446744073709551616)
theorem SInv.stop {l : List Int} {rs : List R1} {a f : Nat} (h : SInv l rs a f) (h0 : rec1 (l.drop a) = none) : rl l = rs := by
  unfold rl; rw [h.1, yl_none h0]; simp [fol]
theorem SInv.stop2 {l : List Int} {rs : List R1} {a f : Nat} (h : SInv l rs a f) (ha : a ≤ l.length) {r : R1} (h0 : rec1 (l.drop a) = some r) (h1 : okN (lastS rs) r.1 = false) : rl l = rs := by
  obtain ⟨f', rfl⟩ : ∃ f', f = f' + 1 := ⟨f - 1, by have := h.2.2.1; have := h.2.2.2.1; omega⟩
  unfold rl; rw [h.1, yl_some h0]; simp [fol, h1]
theorem SInv.next {l : List Int} {rs : List R1} {a f : Nat} (h : SInv l rs a f) (ha : a ≤ l.length) {s : Int} {b : List Int} (h0 : rec1 (l.drop a) = some (s, b)) (h1 : okN (lastS rs) s = true) (hb : b.length ≤ 1000 ∧ 0 ≤ s ∧ s < 18446744073709551616) : SInv l (rs ++ [(s, b)]) (a + (14 + b.length)) (f - 1) := by
  obtain ⟨h2, h3, h4, h5, h6⟩ := h
  obtain ⟨f', rfl⟩ : ∃ f', f = f' + 1 := ⟨f - 1, by omega⟩
  refine ⟨?_, by rw [tkR_append]; simp [tkR]; omega, by simp; omega, by simp; omega, ?_⟩
  · rw [h2, yl_some h0, lastS_snoc, Nat.add_sub_cancel, show a + (14 + b.length) = a + (b.length + 14) by omega, ← List.drop_drop]
    simp [fol, h1, Nat.add_assoc]
  · intro r hr
    rcases List.mem_append.1 hr with h | h
    · exact h6 r h
    · simp at h; subst h; exact hb

set_option maxRecDepth 100000 in
set_option maxHeartbeats 4000000 in
theorem specReadLog (len cap : Nat) (p : Option Addr) (l : List Int) (w : World) (hR : Rd w (.slice p len cap) l) (hB : Byt l) (el : Hid (l.length = len)) (hlen : len ≤ 1048576) (hcap : len ≤ cap) (hcm : cap ≤ maxLen) :
    Calls Try.prog 25 #[.slice p len cap] w (RlRes w (rl l)) := by
  have HRB := hide (And.intro hR hB)
  clear hR hB
  go_enter Try.func25, Try.ntmps25
  go_wp2
  go_loopw [4, 5] (fun ov i wr => ∃ (a f K : Nat) (rs : List R1) (pv : Option Addr) (cv : Nat) (vs : List Value), a ≤ len ∧ i = .int .i64 a ∧ ov = .slice pv K cv ∧ Hid (rs.length = K) ∧ Hid (SInv l rs a f) ∧ OwnR w.heap.size wr (.slice pv K cv) rs vs ∧ Below w.heap.size w wr) (fun _ i _ => len + 1 - (intOf i).toNat)
  case atStart => exact ⟨0, len + 1, 0, [], none, 0, [], Nat.zero_le _, rfl, rfl, rfl, ⟨by rw [← unhide el]; rfl, rfl, by rw [← unhide el]; rfl, Nat.le_refl _, by simp⟩, OwnR.nil _ _, Below.refl _ _⟩
  case round =>
    obtain ⟨a, f, K, rs, pv, cv, vs, hal, rfl, rfl, eK, hinv, ho, hbr⟩ := hrel
    have hKa : K ≤ 1048576 := by have := (unhide hinv).2.2.2.1; have := unhide eK; omega
    obtain ⟨A14, e14⟩ : ∃ A : Nat, (a : Int) + 14 = (A : Int) := ⟨a + 14, by omega⟩
    obtain ⟨A2, e2⟩ : ∃ A : Nat, (a : Int) + 2 = (A : Int) := ⟨a + 2, by omega⟩
    obtain ⟨A10, e10⟩ : ∃ A : Nat, (a : Int) + 10 = (A : Int) := ⟨a + 10, by omega⟩
    have hA14 : A14 = a + 14 := by omega
    have hA2 : A2 = a + 2 := by omega
    have hA10 : A10 = a + 10 := by omega
    have HA := hide (And.intro hA14 (And.intro hA2 hA10))
    by_cases h14 : A14 ≤ len
    · have h14' : (A14 : Int) ≤ (len : Int) := by omega
      have eln := unhide el
      obtain ⟨b, o, rfl, -, -⟩ := (unhide HRB).1.at (by omega)
      obtain ⟨m, em⟩ : ∃ m, m = l.drop a := ⟨_, rfl⟩
      have hBm : Byt m := by rw [em]; exact (unhide HRB).2.drop a
      have hml : m.length = len - a := by rw [em, List.length_drop]; omega
      have hRm : ∀ d, Rd w (.slice (some ⟨b, o + a, none⟩) (len - a) d) m := fun d => (unhide HRB).1.cut a len hal (by omega) _ (.inr rfl) d m (by rw [em, List.take_of_length_le (by omega)])
      obtain ⟨N, eN⟩ : ∃ N, N = len1 m := ⟨_, rfl⟩
      obtain ⟨eK2, hK2⟩ := len1_eq hBm
      rw [← eN] at eK2 hK2
      obtain ⟨Z, eZ⟩ : ∃ Z : Nat, (A14 : Int) + (N : Int) = (Z : Int) := ⟨A14 + N, by omega⟩
      obtain ⟨E, eE⟩ : ∃ E : Nat, (A10 : Int) + (N : Int) = (E : Int) := ⟨A10 + N, by omega⟩
      have r1 : ∀ (d : Nat) (w' : World), Below w.heap.size w w' → Rd w' (.slice (some ⟨b, o + a, none⟩) 2 d) (sub m 0 2) := fun d w' hb' => ((hRm d).below hb').cut 0 2 (by omega) (by omega) _ (.inr rfl) d _ rfl
      have s1 : (sub m 0 2).length = 2 := sub_length (by omega)
      have g1 : (a : Int) ≤ (A2 : Int) := by omega
      have g2 : (A2 : Int) ≤ (cap : Int) := by omega
      have g3 : cap ≠ a := by omega
      have g4 : A2 - a = 2 := by omega
      have HM := hide (And.intro em (And.intro hBm (And.intro hml (And.intro hRm (And.intro eN eK2)))))
      have HZ := hide (And.intro eZ eE)
      have HR1 := hide r1
      have HS1 := hide s1
      clear em hBm hml hRm eN eK2 r1 s1 hA14 hA2 hA10 eln
      unfold maxLen at hcm
      go_wp2_with fail
      refine (l2number_any (sub m 0 2) _ _ 2 HS1 _ (unhide HR1 _ _ hbr) ((unhide HM).2.1.sub 0 2) (by omega) (by omega) (by unfold maxLen; omega)).mono ?_
      rintro e w1 ⟨rfl, hb1⟩
      rw [(unhide HM).2.2.2.2.2]
      have b1 := Below.step hbr hb1
      have ho1 := ho.below hb1
      clear hbr hb1 ho HR1 HS1
      by_cases hbad : len < Z ∨ 1000 < N
      · have hfin := hide ((unhide hinv).stop (by
          obtain ⟨em, -, hml, -, eN, -⟩ := unhide HM
          have := unhide HA
          rw [← em]; unfold rec1; rw [← eN, if_pos (by omega)]))
        have htk := hide (unhide hinv).2.1
        by_cases hN : 1000 < N
        · have hN' : (1000 : Int) < (N : Int) := by omega
          go_wp2
          refine bodyPost_ret (v := .tuple #[.slice pv K cv, .int .i64 (a : Int)]) (by simp [results, Try.results25, go_sem]) rfl (rlRes_mk (unhide hfin) eK htk ho1 b1)
        · have hN' : ¬ (1000 : Int) < (N : Int) := by omega
          have hZ' : (len : Int) < (Z : Int) := by omega
          go_wp2
          refine bodyPost_ret (v := .tuple #[.slice pv K cv, .int .i64 (a : Int)]) (by simp [results, Try.results25, go_sem]) rfl (rlRes_mk (unhide hfin) eK htk ho1 b1)
      · have hN' : ¬ (1000 : Int) < (N : Int) := by omega
        have hZ' : ¬ (len : Int) < (Z : Int) := by omega
        have hN3 : N ≤ 1000 := by omega
        have k1 : (A2 : Int) ≤ (A10 : Int) := by omega
        have k2 : (A10 : Int) ≤ (cap : Int) := by omega
        have k3 : cap ≠ A2 := by omega
        have k4 : (A10 : Int) ≤ (E : Int) := by omega
        have k5 : (E : Int) ≤ (cap : Int) := by omega
        have k6 : cap ≠ A10 := by omega
        have k7 : (a : Int) ≤ (Z : Int) := by omega
        have k8 : (Z : Int) ≤ (cap : Int) := by omega
        have k9 : A10 - A2 = 8 := by omega
        have k10 : E - A10 = N := by omega
        have k11 : Z - a = 14 + N := by omega
        have r2 : ∀ (d : Nat) (w' : World), Below w.heap.size w w' → Rd w' (.slice (some ⟨b, o + A2, none⟩) 8 d) (sub m 2 10) := fun d w' hb' => by
          have := ((((unhide HM).2.2.2.1 d).below hb').cut 2 10 (by omega) (by have := (unhide HM).2.2.1; omega) (some ⟨b, o + a + 2, none⟩) (.inr rfl) d _ rfl)
          rw [show o + A2 = o + a + 2 by have := unhide HA; omega]; exact this
        have r3 : ∀ (d : Nat) (w' : World), Below w.heap.size w w' → Rd w' (.slice (some ⟨b, o + A10, none⟩) N d) (sub m 10 (10 + N)) := fun d w' hb' => by
          have := ((((unhide HM).2.2.2.1 d).below hb').cut 10 (10 + N) (by omega) (by have := (unhide HM).2.2.1; omega) (some ⟨b, o + a + 10, none⟩) (.inr rfl) d _ rfl)
          rw [show 10 + N - 10 = N by omega] at this
          rw [show o + A10 = o + a + 10 by have := unhide HA; omega]; exact this
        have r4 : ∀ (d : Nat) (w' : World), Below w.heap.size w w' → Rd w' (.slice (some ⟨b, o + a, none⟩) (14 + N) d) (sub m 0 (14 + N)) := fun d w' hb' =>
          (((unhide HM).2.2.2.1 d).below hb').cut 0 (14 + N) (by omega) (by have := (unhide HM).2.2.1; omega) (some ⟨b, o + a, none⟩) (.inr rfl) d _ rfl
        have HR2 := hide r2
        have HR3 := hide r3
        have HR4 := hide r4
        have HS2 : Hid ((sub m 2 10).length = 8) := sub_length (by have := (unhide HM).2.2.1; omega)
        have HS3 : Hid ((sub m 10 (10 + N)).length = N) := by show _ = _; rw [sub_length (by have := (unhide HM).2.2.1; omega)]; omega
        have HS4 : Hid ((sub m 0 (14 + N)).length = 14 + N) := by show _ = _; rw [sub_length (by have := (unhide HM).2.2.1; omega)]; omega
        obtain ⟨sq0, sq1⟩ := num_lt8 ((unhide HM).2.1.sub 2 10) (by rw [unhide HS2]; omega)
        clear r2 r3 r4
        have wA2 : IntKind.i64.wrap (A2 : Int) = (A2 : Int) := IntWalk.i64_in _ (by omega)
        have wA10 : IntKind.i64.wrap (A10 : Int) = (A10 : Int) := IntWalk.i64_in _ (by omega)
        have wA14 : IntKind.i64.wrap (A14 : Int) = (A14 : Int) := IntWalk.i64_in _ (by omega)
        have wE : IntKind.i64.wrap (E : Int) = (E : Int) := IntWalk.i64_in _ (by omega)
        have wZ : IntKind.i64.wrap (Z : Int) = (Z : Int) := IntWalk.i64_in _ (by omega)
        have hB2 := (unhide HM).2.1.sub 2 10
        have hl8 : (8 : Nat) ≤ 8 := Nat.le_refl _
        have hl9 : 8 ≤ cap - A2 := by omega
        have hl10 : cap - A2 ≤ maxLen := by unfold maxLen; omega
        have hl11 : N ≤ 2097152 := by omega
        have hcf : ∀ (vs : Array Value) (w : World), (callFunc 39 vs).run Try.prog w = .ok (.enter 39 vs) w := fun vs w => by kernel_rfl
        have hcg : ∀ (vs : Array Value) (w : World), (callFunc 40 vs).run Try.prog w = .ok (.enter 40 vs) w := fun vs w => by kernel_rfl
        go_upto_region 6 with fail
        go_cut [7] (fun rp wc => ∃ R pb cb, rp = .pointer (some ⟨R, 0, none⟩) ∧ w1.heap.size ≤ R ∧ At2 wc R (.int .u64 (num (sub m 2 10))) (.slice pb N cb) ∧ Own w1.heap.size wc (.slice pb N cb) (sub m 10 (10 + N)) ∧ Below w1.heap.size w1 wc)
        case first =>
          refine wp_region_noPanic ?_
          refine wp_region_held_drew (S := fun _ => True) (by kernel_rfl) trivial (fun hS => ?_)
          refine wpAnyH_take (i := 0) (oi := _) (v := ?_) (by simp only [List.getElem?_toArray, List.getElem?_cons_succ, List.getElem?_cons_zero]; rfl) (by kernel_rfl) (by kernel_rfl) (by kernel_rfl) (fun _ _ _ h => h) (Or.inl ⟨by rfl, ?_⟩) hS ?_
          rotate_left
          · (intro w' hSw; (try dsimp only at hSw); go_simp; try with_reducible rfl)
          simp only [Act.put, List.setIfInBounds_toArray, List.set_cons_zero, List.set_cons_succ]
          refine wpAnyH_take (i := 1) (oi := _) (v := ?_) (by simp only [List.getElem?_toArray, List.getElem?_cons_succ, List.getElem?_cons_zero]; rfl) (by kernel_rfl) (by kernel_rfl) (by kernel_rfl) (fun _ _ _ h => h) (Or.inl ⟨by rfl, ?_⟩) hS ?_
          rotate_left
          · (intro w' hSw; (try dsimp only at hSw); go_simp; try with_reducible rfl)
          simp only [Act.put, List.setIfInBounds_toArray, List.set_cons_zero, List.set_cons_succ]
          refine wpAnyH_take (i := 2) (oi := _) (v := ?_) (by simp only [List.getElem?_toArray, List.getElem?_cons_succ, List.getElem?_cons_zero]; rfl) (by kernel_rfl) (by kernel_rfl) (by kernel_rfl) (fun _ _ _ h => h) (Or.inl ⟨by rfl, ?_⟩) hS ?_
          rotate_left
          · (intro w' hSw; (try dsimp only at hSw); go_simp; try with_reducible rfl)
          simp only [Act.put, List.setIfInBounds_toArray, List.set_cons_zero, List.set_cons_succ]
          refine wpAnyH_take (i := 3) (oi := _) (v := ?_) (by simp only [List.getElem?_toArray, List.getElem?_cons_succ, List.getElem?_cons_zero]; rfl) (by kernel_rfl) (by kernel_rfl) (by kernel_rfl) (fun _ _ _ h => h) (Or.inl ⟨by rfl, ?_⟩) hS ?_
          rotate_left
          · (intro w' hSw; (try dsimp only at hSw); go_simp; try with_reducible rfl)
          simp only [Act.put, List.setIfInBounds_toArray, List.set_cons_zero, List.set_cons_succ]
          refine wpAnyH_take (i := 4) (oi := _) (v := ?_) (by simp only [List.getElem?_toArray, List.getElem?_cons_succ, List.getElem?_cons_zero]; rfl) (by kernel_rfl) (by kernel_rfl) (by kernel_rfl) (fun _ _ _ h => h) (Or.inl ⟨by rfl, ?_⟩) hS ?_
          rotate_left
          · (intro w' hSw; (try dsimp only at hSw); go_simp; try with_reducible rfl)
          simp only [Act.put, List.setIfInBounds_toArray, List.set_cons_zero, List.set_cons_succ]
          refine wpAnyH_take (i := 5) (oi := _) (v := ?_) (by simp only [List.getElem?_toArray, List.getElem?_cons_succ, List.getElem?_cons_zero]; rfl) (by kernel_rfl) (by kernel_rfl) (by kernel_rfl) (fun _ _ _ h => h) (Or.inl ⟨by rfl, ?_⟩) hS ?_
          rotate_left
          · (intro w' hSw; (try dsimp only at hSw); go_simp; try with_reducible rfl)
          simp only [Act.put, List.setIfInBounds_toArray, List.set_cons_zero, List.set_cons_succ]
          refine wpAnyH_take (i := 7) (oi := _) (v := ?_) (by simp only [List.getElem?_toArray, List.getElem?_cons_succ, List.getElem?_cons_zero]; rfl) (by kernel_rfl) (by kernel_rfl) (by kernel_rfl) (fun _ _ _ h => h) (Or.inl ⟨by rfl, ?_⟩) hS ?_
          rotate_left
          · (intro w' hSw; (try dsimp only at hSw); go_simp; try with_reducible rfl)
          simp only [Act.put, List.setIfInBounds_toArray, List.set_cons_zero, List.set_cons_succ]
          refine wpAnyH_take (i := 8) (oi := _) (v := ?_) (by simp only [List.getElem?_toArray, List.getElem?_cons_succ, List.getElem?_cons_zero]; rfl) (by kernel_rfl) (by kernel_rfl) (by kernel_rfl) (fun _ _ _ h => h) (Or.inl ⟨by rfl, ?_⟩) hS ?_
          rotate_left
          · (intro w' hSw; (try dsimp only at hSw); go_simp; try with_reducible rfl)
          simp only [Act.put, List.setIfInBounds_toArray, List.set_cons_zero, List.set_cons_succ]
          refine wpAnyH_take (i := 9) (oi := _) (v := ?_) (by simp only [List.getElem?_toArray, List.getElem?_cons_succ, List.getElem?_cons_zero]; rfl) (by kernel_rfl) (by kernel_rfl) (by kernel_rfl) (fun _ _ _ h => h) (Or.inl ⟨by rfl, ?_⟩) hS ?_
          rotate_left
          · (intro w' hSw; (try dsimp only at hSw); go_simp; try with_reducible rfl)
          simp only [Act.put, List.setIfInBounds_toArray, List.set_cons_zero, List.set_cons_succ]
          refine wpAnyH_take (i := 10) (oi := _) (v := ?_) (by simp only [List.getElem?_toArray, List.getElem?_cons_succ, List.getElem?_cons_zero]; rfl) (by kernel_rfl) (by kernel_rfl) (by kernel_rfl) (fun _ _ _ h => h) (Or.inl ⟨by rfl, ?_⟩) hS ?_
          rotate_left
          · (intro w' hSw; (try dsimp only at hSw); go_simp; try with_reducible rfl)
          simp only [Act.put, List.setIfInBounds_toArray, List.set_cons_zero, List.set_cons_succ]
          refine wpAnyH_take (i := 11) (oi := _) (v := ?_) (by simp only [List.getElem?_toArray, List.getElem?_cons_succ, List.getElem?_cons_zero]; rfl) (by kernel_rfl) (by kernel_rfl) (by kernel_rfl) (fun _ _ _ h => h) (Or.inl ⟨by rfl, ?_⟩) hS ?_
          rotate_left
          · (intro w' hSw; (try dsimp only at hSw); go_simp; try with_reducible rfl)
          simp only [Act.put, List.setIfInBounds_toArray, List.set_cons_zero, List.set_cons_succ]
          refine wpAnyH_take (i := 12) (oi := _) (v := ?_) (by simp only [List.getElem?_toArray, List.getElem?_cons_succ, List.getElem?_cons_zero]; rfl) (by kernel_rfl) (by kernel_rfl) (by kernel_rfl) (fun _ _ _ h => h) (Or.inl ⟨by rfl, ?_⟩) hS ?_
          rotate_left
          · (intro w' hSw; (try dsimp only at hSw); go_simp; try with_reducible rfl)
          simp only [Act.put, List.setIfInBounds_toArray, List.set_cons_zero, List.set_cons_succ]
          refine wpAnyH_take (i := 13) (oi := _) (v := ?_) (by simp only [List.getElem?_toArray, List.getElem?_cons_succ, List.getElem?_cons_zero]; rfl) (by kernel_rfl) (by kernel_rfl) (by kernel_rfl) (fun _ _ _ h => h) (Or.inl ⟨by rfl, ?_⟩) hS ?_
          rotate_left
          · (intro w' hSw; (try dsimp only at hSw); go_simp; try with_reducible rfl)
          simp only [Act.put, List.setIfInBounds_toArray, List.set_cons_zero, List.set_cons_succ]
          refine wpAnyH_take (i := 14) (oi := _) (v := ?_) (by simp only [List.getElem?_toArray, List.getElem?_cons_succ, List.getElem?_cons_zero]; rfl) (by kernel_rfl) (by kernel_rfl) (by kernel_rfl) (fun _ _ _ h => h) (Or.inl ⟨by rfl, ?_⟩) hS ?_
          rotate_left
          · (intro w' hSw; (try dsimp only at hSw); go_simp; try with_reducible rfl)
          simp only [Act.put, List.setIfInBounds_toArray, List.set_cons_zero, List.set_cons_succ]
          refine wpAnyH_ready (rs := [6, 17]) (by kernel_rfl) (by simp) ?_
          refine AllReadyH.cons (o := _) (by simp only [List.getElem?_toArray, List.getElem?_cons_succ, List.getElem?_cons_zero]; rfl) (fun KK hK => ?_) ?_
          · refine step_call1 (by rfl) 39 _ _ (by rfl) (.slice (some ⟨b, o + A2, none⟩) 8 (cap - A2)) (by rfl) (fun _ => hcf _ _) (l2number_any (sub m 2 10) _ _ 8 HS2 _ (unhide HR2 _ _ (b1.drew)) hB2 hl8 hl9 hl10) ?_
            rintro e w2 ⟨rfl, hb2⟩
            refine ⟨_, rfl, ?_⟩
            have hbB : Below w1.heap.size w1 w2 := Below.step ((Below.refl w1.heap.size w1).drew) hb2
            refine hK.out _ _ ?_ (fun hS => ?_)
            · trivial
            clear hK KK
            try simp only [Act.put, List.setIfInBounds_toArray, List.set_cons_zero, List.set_cons_succ]
            refine wpAnyH_ready (rs := [15, 17]) (by kernel_rfl) (by simp) ?_
            refine AllReadyH.cons (o := _) (by simp only [List.getElem?_toArray, List.getElem?_cons_succ, List.getElem?_cons_zero]; rfl) (fun KK hK => ?_) ?_
            · refine step_call1 (by rfl) 40 _ _ (by rfl) (.slice (some ⟨b, o + A10, none⟩) N (cap - A10)) (by rfl) (fun _ => hcg _ _) (l1copy_n _ _ N (sub m 10 (10 + N)) HS3 _ (unhide HR3 _ _ (Below.step b1 hbB)) hl11) ?_
              rintro e w3 ⟨p3, c3, rfl, o3, hb3⟩
              refine ⟨_, rfl, ?_⟩
              have hb3B : Below w2.heap.size w2 w3 := hb3
              refine hK.out _ _ ?_ (fun hS => ?_)
              · trivial
              clear hK KK
              try simp only [Act.put, List.setIfInBounds_toArray, List.set_cons_zero, List.set_cons_succ]
              refine wpAnyH_take (i := 16) (oi := _) (v := ?_) (by simp only [List.getElem?_toArray, List.getElem?_cons_succ, List.getElem?_cons_zero]; rfl) (by kernel_rfl) (by kernel_rfl) (by kernel_rfl) (fun _ _ _ h => h) (Or.inl ⟨by rfl, ?_⟩) hS ?_
              rotate_left
              · (intro w' hSw; (try dsimp only at hSw); go_simp; try with_reducible rfl)
              simp only [Act.put, List.setIfInBounds_toArray, List.set_cons_zero, List.set_cons_succ]
              refine wpAnyH_ready (rs := [17]) (by kernel_rfl) (by simp) ?_
              refine AllReadyH.cons (o := _) (by simp only [List.getElem?_toArray, List.getElem?_cons_succ, List.getElem?_cons_zero]; rfl) (fun KK hK => ?_) ?_
              · go_simp
                refine hK.out _ _ ?_ (fun hS => ?_)
                · trivial
                clear hK KK
                try simp only [Act.put, List.setIfInBounds_toArray, List.set_cons_zero, List.set_cons_succ]
                refine wpAnyH_ready (rs := [18]) (by kernel_rfl) (by simp) ?_
                refine AllReadyH.cons (o := _) (by simp only [List.getElem?_toArray, List.getElem?_cons_succ, List.getElem?_cons_zero]; rfl) (fun KK hK => ?_) ?_
                · go_simp
                  refine hK.out _ _ ?_ (fun hS => ?_)
                  · trivial
                  clear hK KK
                  try simp only [Act.put, List.setIfInBounds_toArray, List.set_cons_zero, List.set_cons_succ]
                  refine wpAnyH_done (by kernel_rfl) ?_ _
                  refine NoPanic.normal ?_
                  go_wp2_with fail
                  go_meet
                  have hb13 := Below.step hbB hb3B
                  exact ⟨w3.heap.size, p3, c3, rfl, hb13.size, by simp [At2], Own.mono (Own.below o3 ((Below.refl _ _).alloc (Nat.le_refl _) _)) hbB.size, hb13.alloc hb13.size _⟩
                exact AllReadyH.nil
              exact AllReadyH.nil
            refine AllReadyH.cons (o := _) (by simp only [List.getElem?_toArray, List.getElem?_cons_succ, List.getElem?_cons_zero]; rfl) (fun KK hK => ?_) ?_
            · go_simp
              refine hK.out _ _ ?_ (fun hS => ?_)
              · trivial
              clear hK KK
              try simp only [Act.put, List.setIfInBounds_toArray, List.set_cons_zero, List.set_cons_succ]
              refine wpAnyH_ready (rs := [15]) (by kernel_rfl) (by simp) ?_
              refine AllReadyH.cons (o := _) (by simp only [List.getElem?_toArray, List.getElem?_cons_succ, List.getElem?_cons_zero]; rfl) (fun KK hK => ?_) ?_
              · refine step_call1 (by rfl) 40 _ _ (by rfl) (.slice (some ⟨b, o + A10, none⟩) N (cap - A10)) (by rfl) (fun _ => hcg _ _) (l1copy_n _ _ N (sub m 10 (10 + N)) HS3 _ (unhide HR3 _ _ ((Below.step b1 hbB).alloc (Below.step b1 hbB).size _)) hl11) ?_
                rintro e w3 ⟨p3, c3, rfl, o3, hb3⟩
                refine ⟨_, rfl, ?_⟩
                have hb3B : Below w2.heap.size w2 w3 := Below.step ((Below.refl w2.heap.size w2).alloc (Nat.le_refl _) _) hb3
                refine hK.out _ _ ?_ (fun hS => ?_)
                · trivial
                clear hK KK
                try simp only [Act.put, List.setIfInBounds_toArray, List.set_cons_zero, List.set_cons_succ]
                refine wpAnyH_take (i := 16) (oi := _) (v := ?_) (by simp only [List.getElem?_toArray, List.getElem?_cons_succ, List.getElem?_cons_zero]; rfl) (by kernel_rfl) (by kernel_rfl) (by kernel_rfl) (fun _ _ _ h => h) (Or.inl ⟨by rfl, ?_⟩) hS ?_
                rotate_left
                · (intro w' hSw; (try dsimp only at hSw); go_simp; try with_reducible rfl)
                simp only [Act.put, List.setIfInBounds_toArray, List.set_cons_zero, List.set_cons_succ]
                have n0 : w3.cell? ⟨w2.heap.size, 0, none⟩ = some (.int .u64 0) := cell_below (by simp) hb3
                have n1 : w3.cell? ⟨w2.heap.size, 1, none⟩ = some (.slice none 0 0) := cell_below (by simp) hb3
                have nf : ∀ o, w3.frozen? ⟨w2.heap.size, o, none⟩ = false := frozen_below (by simp) hb3 (by simp)
                refine wpAnyH_ready (rs := [18]) (by kernel_rfl) (by simp) ?_
                refine AllReadyH.cons (o := _) (by simp only [List.getElem?_toArray, List.getElem?_cons_succ, List.getElem?_cons_zero]; rfl) (fun KK hK => ?_) ?_
                · go_simp
                  refine hK.out _ _ ?_ (fun hS => ?_)
                  · trivial
                  clear hK KK
                  try simp only [Act.put, List.setIfInBounds_toArray, List.set_cons_zero, List.set_cons_succ]
                  refine wpAnyH_done (by kernel_rfl) ?_ _
                  refine NoPanic.normal ?_
                  go_wp2_with fail
                  go_meet
                  have hb13 := Below.step hbB hb3B
                  have z23 := hb3B.size
                  have z12 := hbB.size
                  refine ⟨w2.heap.size, p3, c3, rfl, by omega, ⟨?_, ?_⟩, ?_, ?_⟩
                  · simp [go_sem, n0, n1]
                  · simp [go_sem, n0, n1]
                  · refine Own.mono (B := w2.heap.size + 1) ?_ (by omega)
                    exact Own.set (Own.set (Own.mono o3 (by simp)) (by show w2.heap.size < _; omega) _) (by show w2.heap.size < _; omega) _
                  · exact (hb13.setCell (by simp <;> omega) _).setCell (by simp <;> omega) _
                exact AllReadyH.nil
              exact AllReadyH.nil
            exact AllReadyH.nil
          refine AllReadyH.cons (o := _) (by simp only [List.getElem?_toArray, List.getElem?_cons_succ, List.getElem?_cons_zero]; rfl) (fun KK hK => ?_) ?_
          · go_simp
            refine hK.out _ _ ?_ (fun hS => ?_)
            · trivial
            clear hK KK
            try simp only [Act.put, List.setIfInBounds_toArray, List.set_cons_zero, List.set_cons_succ]
            refine wpAnyH_ready (rs := [6]) (by kernel_rfl) (by simp) ?_
            refine AllReadyH.cons (o := _) (by simp only [List.getElem?_toArray, List.getElem?_cons_succ, List.getElem?_cons_zero]; rfl) (fun KK hK => ?_) ?_
            · refine step_call1 (by rfl) 39 _ _ (by rfl) (.slice (some ⟨b, o + A2, none⟩) 8 (cap - A2)) (by rfl) (fun _ => hcf _ _) (l2number_any (sub m 2 10) _ _ 8 HS2 _ (unhide HR2 _ _ ((b1.alloc b1.size _).drew)) hB2 hl8 hl9 hl10) ?_
              rintro e w2 ⟨rfl, hb2⟩
              refine ⟨_, rfl, ?_⟩
              have hbB : Below w1.heap.size w1 w2 := Below.step (((Below.refl w1.heap.size w1).alloc (Nat.le_refl _) _).drew) hb2
              refine hK.out _ _ ?_ (fun hS => ?_)
              · trivial
              clear hK KK
              try simp only [Act.put, List.setIfInBounds_toArray, List.set_cons_zero, List.set_cons_succ]
              have m0 : w2.cell? ⟨w1.heap.size, 0, none⟩ = some (.int .u64 0) := cell_below (by simp) hb2
              have m1 : w2.cell? ⟨w1.heap.size, 1, none⟩ = some (.slice none 0 0) := cell_below (by simp) hb2
              have mf : ∀ o, w2.frozen? ⟨w1.heap.size, o, none⟩ = false := frozen_below (by simp) hb2 (by simp)
              have mz : w1.heap.size < w2.heap.size := World.block_lt_of_cell? w2 _ m0
              refine wpAnyH_ready (rs := [15]) (by kernel_rfl) (by simp) ?_
              refine AllReadyH.cons (o := _) (by simp only [List.getElem?_toArray, List.getElem?_cons_succ, List.getElem?_cons_zero]; rfl) (fun KK hK => ?_) ?_
              · refine step_call1 (by rfl) 40 _ _ (by rfl) (.slice (some ⟨b, o + A10, none⟩) N (cap - A10)) (by rfl) (fun _ => hcg _ _) (l1copy_n _ _ N (sub m 10 (10 + N)) HS3 _ (unhide HR3 _ _ (Below.step b1 hbB)) hl11) ?_
                rintro e w3 ⟨p3, c3, rfl, o3, hb3⟩
                refine ⟨_, rfl, ?_⟩
                have hb3B : Below w2.heap.size w2 w3 := hb3
                refine hK.out _ _ ?_ (fun hS => ?_)
                · trivial
                clear hK KK
                try simp only [Act.put, List.setIfInBounds_toArray, List.set_cons_zero, List.set_cons_succ]
                refine wpAnyH_take (i := 16) (oi := _) (v := ?_) (by simp only [List.getElem?_toArray, List.getElem?_cons_succ, List.getElem?_cons_zero]; rfl) (by kernel_rfl) (by kernel_rfl) (by kernel_rfl) (fun _ _ _ h => h) (Or.inl ⟨by rfl, ?_⟩) hS ?_
                rotate_left
                · (intro w' hSw; (try dsimp only at hSw); go_simp; try with_reducible rfl)
                simp only [Act.put, List.setIfInBounds_toArray, List.set_cons_zero, List.set_cons_succ]
                have n0 := cell_below m0 hb3
                have n1 := cell_below m1 hb3
                have nf := frozen_below mf hb3 mz
                refine wpAnyH_ready (rs := [18]) (by kernel_rfl) (by simp) ?_
                refine AllReadyH.cons (o := _) (by simp only [List.getElem?_toArray, List.getElem?_cons_succ, List.getElem?_cons_zero]; rfl) (fun KK hK => ?_) ?_
                · go_simp
                  refine hK.out _ _ ?_ (fun hS => ?_)
                  · trivial
                  clear hK KK
                  try simp only [Act.put, List.setIfInBounds_toArray, List.set_cons_zero, List.set_cons_succ]
                  refine wpAnyH_done (by kernel_rfl) ?_ _
                  refine NoPanic.normal ?_
                  go_wp2_with fail
                  go_meet
                  have hb13 := Below.step hbB hb3B
                  have z23 := hb3B.size
                  have z12 := hbB.size
                  refine ⟨w1.heap.size, p3, c3, rfl, by omega, ⟨?_, ?_⟩, ?_, ?_⟩
                  · simp [go_sem, n0, n1]
                  · simp [go_sem, n0, n1]
                  · refine Own.mono (B := w2.heap.size) ?_ (by omega)
                    exact Own.set (Own.set o3 (by show w1.heap.size < _; omega) _) (by show w1.heap.size < _; omega) _
                  · exact (hb13.setCell (by simp <;> omega) _).setCell (by simp <;> omega) _
                exact AllReadyH.nil
              exact AllReadyH.nil
            exact AllReadyH.nil
          exact AllReadyH.nil
        case rest =>
          obtain ⟨R, pb, cb, rfl, hR1, hA, oB, hbc⟩ := hcut
          have bc := Below.step b1 hbc
          have ho2 := ho1.below hbc
          have hB10 := (unhide HM).2.1.sub 10 (10 + N)
          have u4 := run_conv (unhide HS4) (unhide HR4 (cap - a) _ bc.drew)
          have hch : ∀ (vs : Array Value) (w : World), (callFunc 20 vs).run Try.prog w = .ok (.enter 20 vs) w := fun vs w => by kernel_rfl
          clear hbc hcf hcg HR2 HR3 HS2
          go_wp2_with fail
          refine wp_region_noPanic ?_
          refine wp_region_held_drew (S := fun w' => At2 w' R (.int .u64 (num (sub m 2 10))) (.slice pb N cb) ∧ (convert 22 9 (.slice (some ⟨b, o + a, none⟩) (14 + N) (cap - a))).run Try.prog w' = .ok (.string (bstr (sub m 0 (14 + N)))) w') (by kernel_rfl) ⟨hA, u4⟩ (fun hS => ?_)
          refine wpAnyH_take (i := 0) (oi := _) (v := ?_) (by simp only [List.getElem?_toArray, List.getElem?_cons_succ, List.getElem?_cons_zero]; rfl) (by kernel_rfl) (by kernel_rfl) (by kernel_rfl) (fun _ _ _ h => h) (Or.inl ⟨by rfl, ?_⟩) hS ?_
          rotate_left
          · (intro w' hSw; (try dsimp only at hSw); go_simp; try with_reducible rfl)
          simp only [Act.put, List.setIfInBounds_toArray, List.set_cons_zero, List.set_cons_succ]
          refine wpAnyH_take (i := 3) (oi := _) (v := ?_) (by simp only [List.getElem?_toArray, List.getElem?_cons_succ, List.getElem?_cons_zero]; rfl) (by kernel_rfl) (by kernel_rfl) (by kernel_rfl) (fun _ _ _ h => h) (Or.inl ⟨by rfl, ?_⟩) hS ?_
          rotate_left
          · (intro w' hSw; (try dsimp only at hSw); go_simp; try with_reducible rfl)
          simp only [Act.put, List.setIfInBounds_toArray, List.set_cons_zero, List.set_cons_succ]
          refine wpAnyH_take (i := 4) (oi := _) (v := ?_) (by simp only [List.getElem?_toArray, List.getElem?_cons_succ, List.getElem?_cons_zero]; rfl) (by kernel_rfl) (by kernel_rfl) (by kernel_rfl) (fun _ _ _ h => h) (Or.inl ⟨by rfl, ?_⟩) hS ?_
          rotate_left
          · (intro w' hSw; (try dsimp only at hSw); go_simp; try with_reducible rfl)
          simp only [Act.put, List.setIfInBounds_toArray, List.set_cons_zero, List.set_cons_succ]
          refine wpAnyH_take (i := 5) (oi := _) (v := ?_) (by simp only [List.getElem?_toArray, List.getElem?_cons_succ, List.getElem?_cons_zero]; rfl) (by kernel_rfl) (by kernel_rfl) (by kernel_rfl) (fun _ _ _ h => h) (Or.inl ⟨by rfl, ?_⟩) hS ?_
          rotate_left
          · (intro w' hSw; (try dsimp only at hSw); go_simp; try with_reducible rfl)
          simp only [Act.put, List.setIfInBounds_toArray, List.set_cons_zero, List.set_cons_succ]
          refine wpAnyH_take (i := 6) (oi := _) (v := ?_) (by simp only [List.getElem?_toArray, List.getElem?_cons_succ, List.getElem?_cons_zero]; rfl) (by kernel_rfl) (by kernel_rfl) (by kernel_rfl) (fun _ _ _ h => h) (Or.inl ⟨by rfl, ?_⟩) hS ?_
          rotate_left
          · (intro w' hSw; (try dsimp only at hSw); go_simp; try with_reducible rfl)
          simp only [Act.put, List.setIfInBounds_toArray, List.set_cons_zero, List.set_cons_succ]
          refine wpAnyH_take (i := 7) (oi := _) (v := ?_) (by simp only [List.getElem?_toArray, List.getElem?_cons_succ, List.getElem?_cons_zero]; rfl) (by kernel_rfl) (by kernel_rfl) (by kernel_rfl) (fun _ _ _ h => h) (Or.inl ⟨by rfl, ?_⟩) hS ?_
          rotate_left
          · (intro w' hSw; (try dsimp only at hSw); go_simp; try with_reducible rfl)
          simp only [Act.put, List.setIfInBounds_toArray, List.set_cons_zero, List.set_cons_succ]
          refine wpAnyH_take (i := 8) (oi := _) (v := ?_) (by simp only [List.getElem?_toArray, List.getElem?_cons_succ, List.getElem?_cons_zero]; rfl) (by kernel_rfl) (by kernel_rfl) (by kernel_rfl) (fun _ _ _ h => h) (Or.inl ⟨by rfl, ?_⟩) hS ?_
          rotate_left
          · (intro w' hSw; (try dsimp only at hSw); go_simp; try with_reducible rfl)
          simp only [Act.put, List.setIfInBounds_toArray, List.set_cons_zero, List.set_cons_succ]
          refine wpAnyH_take (i := 9) (oi := _) (v := ?_) (by simp only [List.getElem?_toArray, List.getElem?_cons_succ, List.getElem?_cons_zero]; rfl) (by kernel_rfl) (by kernel_rfl) (by kernel_rfl) (fun _ _ _ h => h) (Or.inl ⟨by rfl, ?_⟩) hS ?_
          rotate_left
          · (intro w' hSw; (try dsimp only at hSw); go_simp; try with_reducible rfl)
          simp only [Act.put, List.setIfInBounds_toArray, List.set_cons_zero, List.set_cons_succ]
          refine wpAnyH_take (i := 10) (oi := _) (v := ?_) (by simp only [List.getElem?_toArray, List.getElem?_cons_succ, List.getElem?_cons_zero]; rfl) (by kernel_rfl) (by kernel_rfl) (by kernel_rfl) (fun _ _ _ h => h) (Or.inl ⟨by rfl, ?_⟩) hS ?_
          rotate_left
          · (intro w' hSw; (try dsimp only at hSw); go_simp; try with_reducible rfl)
          simp only [Act.put, List.setIfInBounds_toArray, List.set_cons_zero, List.set_cons_succ]
          refine wpAnyH_ready (rs := [1]) (by kernel_rfl) (by simp) ?_
          refine AllReadyH.cons (o := _) (by simp only [List.getElem?_toArray, List.getElem?_cons_succ, List.getElem?_cons_zero]; rfl) (fun KK hK => ?_) ?_
          · refine step_call1 (by rfl) 20 _ _ (by rfl) (recV (num (sub m 2 10)) (.slice pb N cb)) (by rfl) (fun _ => hch _ _) (specEncRec (num (sub m 2 10)) pb cb N (sub m 10 (10 + N)) HS3 _ (oB.rd.below (Below.refl wc.heap.size wc).drew) hB10 hN3 sq0 sq1) ?_
            rintro e w5 ⟨p5, c5, rfl, o5, hb5'⟩
            refine ⟨_, rfl, ?_⟩
            have hb5 : Below wc.heap.size wc w5 := Below.step (Below.refl wc.heap.size wc).drew hb5'
            have A5 := hA.below hb5
            have u5 := run_conv (unhide HS4) (unhide HR4 (cap - a) _ (Below.step bc hb5))
            have e5 := run_conv (l := recB (num (sub m 2 10)) (sub m 10 (10 + N))) (by rw [recB_length, unhide HS3]) o5.rd
            refine hK.out _ _ ?_ (fun hS => ?_)
            · exact ⟨A5, u5⟩
            clear hK KK
            try simp only [Act.put, List.setIfInBounds_toArray, List.set_cons_zero, List.set_cons_succ]
            refine wpAnyH_ready (rs := [2]) (by kernel_rfl) (by simp) ?_
            refine AllReadyH.cons (o := _) (by simp only [List.getElem?_toArray, List.getElem?_cons_succ, List.getElem?_cons_zero]; rfl) (fun KK hK => ?_) ?_
            · go_simp
              refine hK.out _ _ ?_ (fun hS => ?_)
              · exact ⟨A5, u5⟩
              clear hK KK
              try simp only [Act.put, List.setIfInBounds_toArray, List.set_cons_zero, List.set_cons_succ]
              refine wpAnyH_take (i := 11) (oi := _) (v := ?_) (by simp only [List.getElem?_toArray, List.getElem?_cons_succ, List.getElem?_cons_zero]; rfl) (by kernel_rfl) (by kernel_rfl) (by kernel_rfl) (fun _ _ _ h => h) (Or.inl ⟨by rfl, ?_⟩) hS ?_
              rotate_left
              · (intro w' hSw; (try dsimp only at hSw); go_simp; try with_reducible rfl)
              simp only [Act.put, List.setIfInBounds_toArray, List.set_cons_zero, List.set_cons_succ]
              refine wpAnyH_done (by kernel_rfl) ?_ _
              refine NoPanic.normal ?_
              have b5 := Below.step bc hb5
              have ho5 := ho2.below hb5
              have oB5 : Own w.heap.size w5 (.slice pb N cb) (sub m 10 (10 + N)) := Own.mono (Own.below oB hb5) b1.size
              have hap5 : ∀ u' ∈ vs, Apart u' (.slice pb N cb) := fun u' hu' bb e1 e2 => by
                have h1 := ho1.lt u' hu' bb e1
                have h2 := (Own.lt oB bb e2).1
                omega
              have HC := hide (bstr_eq (recB_byt (s := num (sub m 2 10)) hB10) ((unhide HM).2.1.sub 0 (14 + N)))
              have HNB := hide (show ¬ (m.length < 14 + N ∨ 1000 < N) by have := (unhide HM).2.2.1; have := unhide HA; omega)
              have HNC := hide (show a + (14 + N) ≤ len by have := unhide HA; omega)
              clear hb5 hb5' o5 hA u4 ho2 bc oB hS u5 e5 k1 k2 k3 k4 k5 k6 k7 k8 k9 k10 k11 g1 g2 g3 g4 wA2 wA10 wA14 wE wZ HR4 HS4 hch hl8 hl9 hl10 hl11 hB2 ho1 hbad hZ' e2 e10 e14 eZ eE h14' HZ
              have htk := hide (unhide hinv).2.1
              rw [unhide HC]
              clear HC
              by_cases hq : recB (num (sub m 2 10)) (sub m 10 (10 + N)) = sub m 0 (14 + N)
              · have hrec : rec1 (l.drop a) = some (num (sub m 2 10), sub m 10 (10 + N)) := by
                  obtain ⟨em, -, hml, -, eN, -⟩ := unhide HM
                  have := unhide HA
                  rw [← em]; unfold rec1; rw [← eN, if_neg (unhide HNB), if_pos hq]
                have HREC := hide hrec
                rw [decide_eq_true hq, Bool.not_true]
                clear hq hrec
                by_cases hK0 : K = 0
                · subst hK0
                  have hok : okN (lastS rs) (num (sub m 2 10)) = true := by rw [List.eq_nil_of_length_eq_zero (unhide eK)]; rfl
                  have HOK := hide hok
                  clear hok
                  go_wp2_with (at_builtin; refine wpList_appendR rfl _ _ rfl w.heap.size (.slice pv 0 cv) rs vs 0 eK w5.heap.size rfl rfl (ho5.below ((Below.refl _ _).alloc (Nat.le_refl _) _)) (num (sub m 2 10), sub m 10 (10 + N)) (.slice pb N cb) (by simp) (by simp) (Own.below oB5 ((Below.refl _ _).alloc (Nat.le_refl _) _)) hap5 (by omega) (by have := b5.size; simp; omega) ?_)
                  intro p9 c9 w9 hR9 hg9
                  have b9 : Below w.heap.size w w9 := (b5.alloc b5.size _).grown hg9 (by have := b5.size; simp; omega) (fun bb e => (ho5.rowLt bb e).1)
                  have eN3 := unhide HS3
                  have hnx := hide ((unhide hinv).next (by rw [unhide el]; exact hal) (unhide HREC) (unhide HOK) ⟨by omega, sq0, sq1⟩)
                  have eKn : Hid ((rs ++ [(num (sub m 2 10), sub m 10 (10 + N))]).length = 0 + 1) := by show _ = _; rw [List.length_append, unhide eK]; rfl
                  clear hg9 ho5 oB5 hap5 b5 A5
                  go_wp2
                  go_roundw
                  case rel =>
                    refine ⟨a + (14 + N), f - 1, 0 + 1, _, p9, c9, _, unhide HNC, by go_num, rfl, eKn, ?_, hR9, b9⟩
                    have := unhide hnx
                    rw [eN3] at this
                    exact this
                  case measure => simp [intOf]; omega
                · have hkr : K - 1 < rs.length := by rw [unhide eK]; omega
                  obtain ⟨⟨t, bt⟩, hrt⟩ : ∃ r, rs[K - 1]? = some r := ⟨_, List.getElem?_eq_getElem hkr⟩
                  have hlast : lastS rs = some t := by unfold lastS; rw [List.getLast?_eq_getElem?, unhide eK, hrt]; rfl
                  obtain ⟨t0, t1⟩ := (unhide hinv).2.2.2.2 _ (List.mem_of_getElem? hrt) |>.2
                  obtain ⟨u, hu⟩ : ∃ u, vs[K - 1]? = some u := ⟨_, List.getElem?_eq_getElem (by rw [ho5.len]; exact hkr)⟩
                  rcases id ho5.row.2 with ⟨_, h0⟩ | ⟨g, cap', cur, ev, hgB, hgg, _, _, _, _⟩
                  · have := unhide eK; omega
                  · simp only [Value.slice.injEq] at ev
                    obtain ⟨rfl, -, rfl⟩ := ev
                    have row' := ho5.row
                    rw [unhide eK] at row'
                    have d0 := (row'.cellAt (2 * (K - 1)) (by omega)).trans (recCells_get rs vs (K - 1) _ u hrt hu).1
                    rw [Nat.mul_comm] at d0
                    dsimp only at d0
                    obtain ⟨K1, eK1⟩ : ∃ K1, K - 1 = K1 := ⟨_, rfl⟩
                    rw [eK1] at d0
                    have hK1 : (K : Int) - 1 = (K1 : Int) := by omega
                    have hK2 : (0 : Int) < (K : Int) := by omega
                    have hK3 : (K1 : Int) < (K : Int) := by omega
                    have hK4 : 0 < K := by omega
                    have hK5 : K1 ≤ 1048578 := by omega
                    have hK6 : (K1 : Int) ≤ 1048578 := by omega
                    have hK7 : IntKind.i64.wrap (K1 : Int) = (K1 : Int) := IntWalk.i64_in _ (by omega)
                    clear hkr hrt hu row' hgg eK1
                    by_cases hok : okN (some t) (num (sub m 2 10)) = true
                    · have HOK : Hid (okN (lastS rs) (num (sub m 2 10)) = true) := by show _ = _; rw [hlast]; exact hok
                      have e1 : t ≠ 18446744073709551615 ∧ num (sub m 2 10) = t + 1 := by simpa [okN] using hok
                      have f1 : (t == 18446744073709551615) = false := by simp [e1.1]
                      have f2 : IntKind.u64.wrap (t + 1) = t + 1 := u64_wrap_id _ (by omega) (by omega)
                      have f3 : (num (sub m 2 10) != t + 1) = false := by simp [e1.2]
                      clear hok hlast e1
                      go_wp2_with (at_builtin; refine wpList_appendR rfl _ _ rfl w.heap.size (.slice (some ⟨g, 0, none⟩) K cv) rs vs K eK w5.heap.size rfl rfl (ho5.below ((Below.refl _ _).alloc (Nat.le_refl _) _)) (num (sub m 2 10), sub m 10 (10 + N)) (.slice pb N cb) (by simp) (by simp) (Own.below oB5 ((Below.refl _ _).alloc (Nat.le_refl _) _)) hap5 (by omega) (by have := b5.size; simp; omega) ?_)
                      intro p9 c9 w9 hR9 hg9
                      have b9 : Below w.heap.size w w9 := (b5.alloc b5.size _).grown hg9 (by have := b5.size; simp; omega) (fun bb e => (ho5.rowLt bb e).1)
                      have eN3 := unhide HS3
                      have hnx := hide ((unhide hinv).next (by rw [unhide el]; exact hal) (unhide HREC) (unhide HOK) ⟨by omega, sq0, sq1⟩)
                      have eKn : Hid ((rs ++ [(num (sub m 2 10), sub m 10 (10 + N))]).length = K + 1) := by show _ = _; rw [List.length_append, unhide eK]; rfl
                      clear hg9 ho5 oB5 hap5 b5 A5
                      go_wp2
                      go_roundw
                      case rel =>
                        refine ⟨a + (14 + N), f - 1, K + 1, _, p9, c9, _, unhide HNC, by go_num, rfl, eKn, ?_, hR9, b9⟩
                        have := unhide hnx
                        rw [eN3] at this
                        exact this
                      case measure => simp [intOf]; omega
                    · have hok' : okN (some t) (num (sub m 2 10)) = false := by simpa using hok
                      have hfin := hide ((unhide hinv).stop2 (by rw [unhide el]; exact hal) (unhide HREC) (by rw [hlast]; exact hok'))
                      by_cases ht : t = 18446744073709551615
                      · have f1 : (t == 18446744073709551615) = true := by simp [ht]
                        clear hok hok' hlast ht
                        go_wp2
                        refine bodyPost_ret (v := .tuple #[.slice (some ⟨g, 0, none⟩) K cv, .int .i64 (a : Int)]) (by simp [results, Try.results25, go_sem]) rfl (rlRes_mk (unhide hfin) eK htk ho5 b5)
                      · have hne : num (sub m 2 10) ≠ t + 1 := by
                          intro e
                          apply hok
                          simp [okN, ht, e]
                        have f1 : (t == 18446744073709551615) = false := by simp [ht]
                        have f2 : IntKind.u64.wrap (t + 1) = t + 1 := u64_wrap_id _ (by omega) (by omega)
                        have f3 : (num (sub m 2 10) != t + 1) = true := by simp [hne]
                        clear hok hok' hlast ht hne
                        go_wp2
                        refine bodyPost_ret (v := .tuple #[.slice (some ⟨g, 0, none⟩) K cv, .int .i64 (a : Int)]) (by simp [results, Try.results25, go_sem]) rfl (rlRes_mk (unhide hfin) eK htk ho5 b5)
              · have hfin := hide ((unhide hinv).stop (by
                  obtain ⟨em, -, hml, -, eN, -⟩ := unhide HM
                  have := unhide HA
                  rw [← em]; unfold rec1; rw [← eN, if_neg (unhide HNB), if_neg hq]))
                rw [decide_eq_false hq, Bool.not_false]
                clear hq
                go_wp2
                refine bodyPost_ret (v := .tuple #[.slice pv K cv, .int .i64 (a : Int)]) (by simp [results, Try.results25, go_sem]) rfl (rlRes_mk (unhide hfin) eK htk ho5 b5)
            exact AllReadyH.nil
          exact AllReadyH.nil
    · have h14' : ¬ (A14 : Int) ≤ (len : Int) := by omega
      have hfin := hide ((unhide hinv).stop (rec1_short (by rw [List.length_drop, unhide el]; omega)))
      have htk := hide (unhide hinv).2.1
      clear hA14 hA2 hA10
      go_wp2
      refine bodyPost_ret (v := .tuple #[.slice pv K cv, .int .i64 (a : Int)]) (by simp [results, Try.results25, go_sem]) rfl (rlRes_mk (unhide hfin) eK htk ho hbr)
end Go.Proofs.Ytipeflnkcjkoeaa
