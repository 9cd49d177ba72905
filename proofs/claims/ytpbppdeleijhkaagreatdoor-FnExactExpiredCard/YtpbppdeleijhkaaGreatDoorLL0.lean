import Derived.Test.YtpbppdeleijhkaaGreatDoorJ4
import Derived.Test.YtpbppdeleijhkaaGreatDoorJ5
import Derived.Test.YtpbppdeleijhkaaGreatDoorJ2
import Derived.Test.YtpbppdeleijhkaaGreatDoorLSz
import Derived.Test.YtpbppdeleijhkaaGreatDoorLEq
namespace Go.Proofs.YtpbppdeleijhkaaGreatDoor
open Go.ChangeShapes Go.WideShapes Go.ChangeAt Go.RowKit
set_option linter.unusedVariables false
set_option linter.unusedSimpArgs false
set_option maxRecDepth 100000

set_option maxHeartbeats 1600000 in
theorem markState_lv (e g x t : Int) (p q : Option Addr) (c n d m : Nat) (ss : List Ses) (ns : List Nod) (A1 A2 : List Lf) (k : Int) (w : World) (h1 : LvS w (.slice p n c) ss A1) (h2 : LvN w (.slice q m d) ns A2) (i1 : LvIn w A1) (i2 : LvIn w A2) (k0 : 0 ≤ k) (k1 : k + A1.length + A2.length ≤ 100000000) :
    Calls Tryz.prog 15 #[stV e g x t (.slice p n c) (.slice q m d), .int .i64 k] w fun r w' => r = .returned (.int .i64 (k + A1.length + A2.length)) ∧ Mk w w' (A1 ++ A2) k := by
  obtain ⟨W, hW⟩ : ∃ W, W = (w.alloc (.cells #[.int .u64 e, .int .u64 g, .int .u64 x, .int .i64 t, .slice p n c, .slice q m d] 27)) := ⟨_, rfl⟩
  have bW : Below w.heap.size w W := by rw [hW]; exact (Below.refl _ _).alloc (Nat.le_refl _) _
  have hc6 : St6 W w.heap.size e g x t (.slice p n c) (.slice q m d) := by rw [hW]; simp [St6]
  have M0 := Mk.of_below bW k
  have H1 := hide (LvS.below h1 bW)
  have H2 := hide (LvN.below h2 bW)
  have I1 := hide (i1.below bW)
  have I2 := hide (i2.below bW)
  have J := hide (And.intro i1 i2)
  have HM0 := hide M0
  have HC := hide hc6
  clear h1 h2 i1 i2 M0
  go_enter Tryz.func15, Tryz.ntmps15
  go_wp2_with fail
  rw [← hW]
  clear hW hc6
  refine (markSessionS_lv p c n ss A1 k _ (unhide H1) (unhide I1) k0 (by omega)).mono ?_
  rintro r w1 ⟨rfl, m1⟩
  obtain ⟨j0, j1, j2, j3, j4, j5⟩ := unhide HC
  have c4 : w1.cell? ⟨w.heap.size, 4, none⟩ = some (.slice p n c) := m1.head (unhide I1) j4
  have c5 : w1.cell? ⟨w.heap.size, 5, none⟩ = some (.slice q m d) := m1.head (unhide I1) j5
  have H3 := hide (LvN.mk (unhide H2) m1 (unhide I1))
  have I3 := hide ((unhide I2).mk m1 (unhide I1))
  have M1 := hide ((unhide HM0).trans' m1 (by simp) (LvIn.nil _) (unhide J).1)
  clear m1 j0 j1 j2 j3 j4 j5
  go_wp2_with fail
  refine (markNodeS_lv q d m ns A2 (k + A1.length) _ (unhide H3) (unhide I3) (by omega) (by omega)).mono ?_
  rintro r w2 ⟨rfl, m2⟩
  have M2 := (unhide M1).trans' m2 (by simp) (by simpa using (unhide J).1) (unhide J).2
  clear m2 c4 c5
  go_wp2
  go_ret
  exact ⟨rfl, by simpa using M2⟩
set_option maxHeartbeats 1600000 in
theorem heldState_lv (e g x t : Int) (p q : Option Addr) (c n d m : Nat) (ss : List Ses) (ns : List Nod) (A1 A2 : List Lf) (k : Int) (w : World) (h1 : LvS w (.slice p n c) ss A1) (h2 : LvN w (.slice q m d) ns A2) (hh : HeldAt w (A1 ++ A2) k) (k0 : 0 ≤ k) (k1 : k + A1.length + A2.length ≤ 100000000) :
    Calls Tryz.prog 16 #[stV e g x t (.slice p n c) (.slice q m d), .int .i64 k] w fun r w' => r = .returned (.int .i64 (k + A1.length + A2.length)) ∧ Below w.heap.size w w' := by
  obtain ⟨W, hW⟩ : ∃ W, W = (w.alloc (.cells #[.int .u64 e, .int .u64 g, .int .u64 x, .int .i64 t, .slice p n c, .slice q m d] 27)) := ⟨_, rfl⟩
  have bW : Below w.heap.size w W := by rw [hW]; exact (Below.refl _ _).alloc (Nat.le_refl _) _
  have hc6 : St6 W w.heap.size e g x t (.slice p n c) (.slice q m d) := by rw [hW]; simp [St6]
  have H1 := hide (LvS.below h1 bW)
  have H2 := hide (LvN.below h2 bW)
  have I1 := hide (hh.app.1.below bW)
  have I2 := hide (hh.app.2.below bW)
  have HC := hide hc6
  clear h1 h2 hh
  go_enter Tryz.func16, Tryz.ntmps16
  go_wp2_with fail
  rw [← hW]
  clear hW hc6
  refine (heldSessionS_lv p c n ss A1 k _ (unhide H1) (unhide I1) k0 (by omega)).mono ?_
  rintro r w1 ⟨rfl, m1⟩
  obtain ⟨j0, j1, j2, j3, j4, j5⟩ := (unhide HC).below m1
  have hp1 : ¬ k + (A1.length : Int) < 0 := by omega
  have H3 := hide (LvN.below (unhide H2) m1)
  have I3 := hide ((unhide I2).below m1)
  have b1 := Below.step bW m1
  clear m1 bW
  go_wp2_with fail
  refine (heldNodeS_lv q d m ns A2 (k + A1.length) _ (unhide H3) (unhide I3) (by omega) (by omega)).mono ?_
  rintro r w2 ⟨rfl, m2⟩
  have b2 := Below.step b1 m2
  have hp2 : ¬ k + (A1.length : Int) + (A2.length : Int) < 0 := by omega
  clear m2 j0 j1 j2 j3 j4 j5 b1
  go_wp2
  go_ret
  exact ⟨rfl, b2⟩
theorem lv_nil {v : Value} {xs : List Int} {kd : IntKind} (h : ∃ c, v = .slice none xs.length c) (h0 : xs = []) : LvL (LvI kd) 1 v xs [] := by
  obtain ⟨c, rfl⟩ := h
  subst h0
  exact ⟨none, c, [], rfl, rfl, rfl, .inl rfl⟩
/-- a slice of numbers that reads, as leaves -/
theorem lv_row {α : Type} {kd : IntKind} {w : World} {p : Option Addr} {c n : Nat} (xs : List Int) (en : xs.length = n) (hd : xs = [] ∨ ∃ b o, p = some ⟨b, o, none⟩ ∧ ∀ i, i < xs.length → w.cell? ⟨b, o + i, none⟩ = some (.int kd (xs.getD i 0))) (BZ : Nat) (hN : Nf BZ w (.slice p n c)) :
    ∃ A, LvL (LvI kd) 1 (.slice p n c) xs A ∧ LvIn w A ∧ (∀ a ∈ A, BZ ≤ a.b) ∧ A.length = xs.length ∧ ∀ a ∈ A, (Value.slice p n c).ownBlock = some a.b := by
  subst en
  rcases hd with h0 | ⟨b, o, rfl, hc⟩
  · subst h0
    exact ⟨[], ⟨p, c, [], rfl, rfl, rfl, .inl rfl⟩, LvIn.nil w, fun a ha => by simp at ha, rfl, fun a ha => by simp at ha⟩
  · have hb := hN b rfl
    refine ⟨(List.range xs.length).map fun i => ⟨b, o + i, kd⟩, ⟨some ⟨b, o, none⟩, c, (List.range xs.length).map fun i => [⟨b, o + i, kd⟩], rfl, by simp, ?_, .inr ⟨b, o, rfl, fun i x l hx hl => ?_⟩⟩, fun a ha => ?_, fun a ha => ?_, by simp, fun a ha => ?_⟩
    · induction (List.range xs.length) with
      | nil => rfl
      | cons i r ih => simp [ih]
    · obtain ⟨hi, e⟩ := List.getElem?_eq_some_iff.1 hl
      simp at e
      rw [← e, Nat.mul_one]
      rfl
    · obtain ⟨i, hi, rfl⟩ := List.mem_map.1 ha
      exact ⟨⟨_, hc i (by simpa using hi)⟩, hb.2 _⟩
    · obtain ⟨i, hi, rfl⟩ := List.mem_map.1 ha
      exact hb.1
    · obtain ⟨i, hi, rfl⟩ := List.mem_map.1 ha
      rfl
/-- a list whose elements have leaves has leaves -/
theorem lv_list {α : Type} {P : α → Nat → Nat → List Lf → Prop} {sz n c BZ : Nat} {w : World} {p : Option Addr} (F : α → Nat) (xs : List α) (en : xs.length = n) (hd : xs = [] ∨ ∃ b o, p = some ⟨b, o, none⟩ ∧ ∀ i x, xs[i]? = some x → ∃ l, P x b (o + i * sz) l ∧ LvIn w l ∧ (∀ a ∈ l, BZ ≤ a.b) ∧ l.length = F x) :
    ∃ A, LvL P sz (.slice p n c) xs A ∧ LvIn w A ∧ (∀ a ∈ A, BZ ≤ a.b) ∧ A.length = sumF F xs := by
  subst en
  rcases hd with h0 | ⟨b, o, rfl, hc⟩
  · subst h0
    exact ⟨[], ⟨p, c, [], rfl, rfl, rfl, .inl rfl⟩, LvIn.nil w, fun a ha => by simp at ha, rfl⟩
  · have key : ∀ k, k ≤ xs.length → ∃ LL : List (List Lf), LL.length = k ∧ (∀ (i : Nat) (x : α) (l : List Lf), xs[i]? = some x → LL[i]? = some l → P x b (o + i * sz) l) ∧ LvIn w LL.flatten ∧ (∀ a ∈ LL.flatten, BZ ≤ a.b) ∧ LL.flatten.length = sumF F (xs.take k) := by
      intro k
      induction k with
      | zero => intro _; exact ⟨[], rfl, fun i x l _ hl => by simp at hl, LvIn.nil w, fun a ha => by simp at ha, rfl⟩
      | succ k ih =>
        intro hk
        obtain ⟨LL, q1, q2, q3, q4, q5⟩ := ih (by omega)
        obtain ⟨x, hx⟩ : ∃ x, xs[k]? = some x := ⟨_, List.getElem?_eq_getElem (by omega)⟩
        obtain ⟨l, r1, r2, r3, r4⟩ := hc k x hx
        have e : (LL ++ [l]).flatten = LL.flatten ++ l := by simp
        refine ⟨LL ++ [l], by simp [q1], fun i y m hy hm => ?_, by rw [e]; exact LvIn.app.2 ⟨q3, r2⟩, fun a ha => ?_, ?_⟩
        · by_cases hi : i < LL.length
          · rw [List.getElem?_append_left hi] at hm
            exact q2 i y m hy hm
          · have ei : i = k := by
              have := (List.getElem?_eq_some_iff.1 hm).1
              simp at this
              omega
            subst ei
            rw [hx] at hy
            cases hy
            rw [← q1] at hm
            simp at hm
            subst hm
            exact r1
        · rw [e] at ha
          rcases List.mem_append.1 ha with ha | ha
          · exact q4 a ha
          · exact r3 a ha
        · rw [e, List.length_append, q5, r4, List.take_add_one, hx]
          simp [sumF]
    obtain ⟨LL, q1, q2, q3, q4, q5⟩ := key xs.length (Nat.le_refl _)
    rw [List.take_length] at q5
    exact ⟨LL.flatten, ⟨some ⟨b, o, none⟩, c, LL, rfl, q1, rfl, .inr ⟨b, o, rfl, fun i x l hx hl => q2 i x l hx hl⟩⟩, q3, q4, q5⟩
end Go.Proofs.YtpbppdeleijhkaaGreatDoor
