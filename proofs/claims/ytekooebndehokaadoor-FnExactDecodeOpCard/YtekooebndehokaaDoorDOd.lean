import Derived.Test.YtekooebndehokaaDoorDOe
import Derived.Test.YtekooebndehokaaDoorOPs
namespace Go.Proofs.YtekooebndehokaaDoor
open Go.ChangeShapes Go.WideShapes Go.ChangeAt Go.RowKit
set_option linter.unusedVariables false
set_option linter.unusedSimpArgs false
set_option maxRecDepth 100000

/-- the places that the reader comes to: what is left, or none where it has failed -/
def oB : Option (List Int) → Int × Option (List Int)
  | some (c :: t) => (c, some t)
  | _ => (0, none)
def oV : Option (List Int) → Int × Option (List Int)
  | some m => (match rv m with | some x => (x.1, some x.2) | none => (0, none))
  | none => (0, none)
def oT : Option (List Int) → List Int × Option (List Int)
  | some m => (match rt m with | some x => (x.1, some x.2) | none => ([], none))
  | none => ([], none)
def atI (n : Nat) : Option (List Int) → Int
  | some m => (n : Int) - m.length
  | none => -1
def Sfx (n : Nat) (l : List Int) (om : Option (List Int)) : Prop := ∀ m, om = some m → m.length ≤ n ∧ m = l.drop (n - m.length)
theorem Sfx.start {n : Nat} {l : List Int} (h : l.length = n) : Sfx n l (some l) := fun m e => by
  simp at e
  subst e
  exact ⟨by omega, by rw [h, Nat.sub_self]; rfl⟩
theorem Sfx.none {n : Nat} {l : List Int} : Sfx n l none := fun m e => by cases e
theorem Sfx.of_drop {n : Nat} {l m : List Int} (hl : l.length = n) (h : Sfx n l (some m)) {t : List Int} (ht : t.length ≤ m.length) (e : t = m.drop (m.length - t.length)) : Sfx n l (some t) := fun x ex => by
  simp at ex
  subst ex
  obtain ⟨h1, h2⟩ := h m rfl
  refine ⟨by omega, ?_⟩
  conv => lhs; rw [e, h2, List.drop_drop, List.length_drop, hl]
  congr 1
  omega
theorem oB_sfx {n : Nat} {l : List Int} {om : Option (List Int)} (hl : l.length = n) (h : Sfx n l om) : Sfx n l (oB om).2 := by
  match om, h with
  | none, _ => exact Sfx.none
  | some [], _ => exact Sfx.none
  | some (c :: t), h => exact Sfx.of_drop hl h (by simp) (by simp)
theorem oV_sfx {n : Nat} {l : List Int} {om : Option (List Int)} (hl : l.length = n) (h : Sfx n l om) : Sfx n l (oV om).2 := by
  match om, h with
  | none, _ => exact Sfx.none
  | some m, h =>
    show Sfx n l (match rv m with | some x => (x.1, some x.2) | none => (0, none) : Int × Option (List Int)).2
    cases e : rv m with
    | none => exact Sfx.none
    | some x =>
      obtain ⟨v, t⟩ := x
      obtain ⟨_, _, h3, h4⟩ := rvF_range 10 0 0 m v t e
      exact Sfx.of_drop (t := t) hl h (Nat.le_of_lt h3) h4
theorem rt_len {m : List Int} {x : List Int × List Int} (h : rt m = some x) : x.2.length ≤ m.length ∧ x.2 = m.drop (m.length - x.2.length) ∧ ∃ a b, x.1 = (m.drop a).take b := by
  unfold rt at h
  cases e : rv m with
  | none => rw [e] at h; simp at h
  | some y =>
    obtain ⟨v, t⟩ := y
    rw [e] at h
    simp only at h
    obtain ⟨v0, _, h3, h4⟩ := rvF_range 10 0 0 m v t e
    split at h
    · cases h
    · next hv =>
      simp at h
      subst h
      simp only [List.length_drop]
      refine ⟨by omega, ?_, m.length - t.length, v.toNat, by rw [← h4]⟩
      conv => lhs; rw [h4, List.drop_drop]
      congr 1
      omega
theorem oT_sfx {n : Nat} {l : List Int} {om : Option (List Int)} (hl : l.length = n) (h : Sfx n l om) : Sfx n l (oT om).2 := by
  match om, h with
  | none, _ => exact Sfx.none
  | some m, h =>
    show Sfx n l (match rt m with | some x => (x.1, some x.2) | none => ([], none) : List Int × Option (List Int)).2
    cases e : rt m with
    | none => exact Sfx.none
    | some x =>
      obtain ⟨h1, h2, _⟩ := rt_len e
      exact Sfx.of_drop hl h h1 h2
theorem oT_byt {l : List Int} {n : Nat} (hb : Byt l) {om : Option (List Int)} (h : Sfx n l om) : Byt (oT om).1 ∧ (oT om).1.length ≤ n := by
  match om, h with
  | none, _ => exact ⟨fun z hz => by simp [oT] at hz, by simp [oT]⟩
  | some m, h =>
    obtain ⟨h1, h2⟩ := h m rfl
    have hm : Byt m := by rw [h2]; exact fun z hz => hb z (List.mem_of_mem_drop hz)
    show Byt (match rt m with | some x => (x.1, some x.2) | none => ([], none) : List Int × Option (List Int)).1 ∧ (match rt m with | some x => (x.1, some x.2) | none => ([], none) : List Int × Option (List Int)).1.length ≤ n
    cases e : rt m with
    | none => exact ⟨fun z hz => by simp at hz, by simp⟩
    | some x =>
      obtain ⟨_, _, a, b, h3⟩ := rt_len e
      refine ⟨?_, ?_⟩
      · show Byt x.1
        rw [h3]
        exact fun z hz => hm z (List.mem_of_mem_drop (List.mem_of_mem_take hz))
      · show x.1.length ≤ n
        rw [h3, List.length_take, List.length_drop]
        omega
theorem oB_range {l : List Int} {n : Nat} (hb : Byt l) {om : Option (List Int)} (h : Sfx n l om) : 0 ≤ (oB om).1 ∧ (oB om).1 < 256 := by
  match om, h with
  | none, _ => simp [oB]
  | some [], _ => simp [oB]
  | some (c :: t), h =>
    obtain ⟨h1, h2⟩ := h _ rfl
    exact hb c (List.mem_of_mem_drop (by rw [← h2]; simp))
theorem oV_range {om : Option (List Int)} : 0 ≤ (oV om).1 ∧ (oV om).1 < 18446744073709551616 := by
  cases om with
  | none => simp [oV]
  | some m =>
    show 0 ≤ (match rv m with | some x => (x.1, some x.2) | none => (0, none) : Int × Option (List Int)).1 ∧ (match rv m with | some x => (x.1, some x.2) | none => (0, none) : Int × Option (List Int)).1 < _
    cases e : rv m with
    | none => simp
    | some x =>
      obtain ⟨v, t⟩ := x
      obtain ⟨h1, h2, _⟩ := rvF_range 10 0 0 m v t e
      exact ⟨h1, h2⟩
theorem rt_tx (P rest : List Int) (h : P.length < 18446744073709551616) : rt (tx P ++ rest) = some (P, rest) := by
  rw [rt, tx, List.append_assoc, rv_vi _ _ h]
  simp only [List.length_append]
  rw [if_neg (by omega)]
  simp
/-- what the bytes of a request are read as -/
theorem read_opB (k s f : Nat) (P V : List Int) (hs : s < 18446744073709551616) (hP : P.length < 18446744073709551616) (hV : V.length < 18446744073709551616) :
    oB (some (opB k s P f V)) = ((k : Int), some (vi s ++ (tx P ++ ([(f : Int)] ++ tx V)))) ∧ oV (some (vi s ++ (tx P ++ ([(f : Int)] ++ tx V)))) = ((s : Int), some (tx P ++ ([(f : Int)] ++ tx V))) ∧ oT (some (tx P ++ ([(f : Int)] ++ tx V))) = (P, some ([(f : Int)] ++ tx V)) ∧ oB (some ([(f : Int)] ++ tx V)) = ((f : Int), some (tx V)) ∧ oT (some (tx V)) = (V, some []) := by
  refine ⟨rfl, ?_, ?_, rfl, ?_⟩
  · rw [oV, rv_vi _ _ hs]
  · rw [oT, rt_tx _ _ hP]
  · have := rt_tx V [] hV
    rw [List.append_nil] at this
    rw [oT, this]

theorem readByte_o (p : Option Addr) (c n : Nat) (l : List Int) (en : Hid (l.length = n)) (w : World) (h : Rd w (.slice p n c) l) (hb : Byt l) (hl : n ≤ 1048576) (om : Option (List Int)) (hs : Sfx n l om) (x : Int) (om' : Option (List Int)) (e : Hid (oB om = (x, om'))) :
    Calls Tryd.prog 38 #[.slice p n c, .int .i64 (atI n om)] w fun e w' => e = .returned (.tuple #[.int .i64 x, .int .i64 (atI n om')]) ∧ w' = w := by
  have e := unhide e
  match om, hs with
  | none, _ =>
    simp [oB] at e
    obtain ⟨rfl, rfl⟩ := e
    exact readByte_neg p c n w
  | some [], hs =>
    simp [oB] at e
    obtain ⟨rfl, rfl⟩ := e
    have ea : atI n (some []) = (n : Int) := by simp [atI]
    rw [ea]
    exact readByte_end p c n w hl
  | some (y :: t), hs =>
    simp [oB] at e
    obtain ⟨rfl, rfl⟩ := e
    obtain ⟨h1, h2⟩ := hs _ rfl
    simp only [List.length_cons] at h1 h2
    obtain ⟨a, ea⟩ : ∃ a, n - (t.length + 1) = a := ⟨_, rfl⟩
    rw [ea] at h2
    have e1 : atI n (some (y :: t)) = (a : Int) := by simp [atI]; omega
    have e2 : atI n (some t) = ((a + 1 : Nat) : Int) := by simp [atI]; omega
    have e3 : l.getD a 0 = y := by
      have := congrArg (fun z => z.getD 0 0) h2
      simp [List.getD] at this
      simp [List.getD, ← this]
    have := readByte_at p c n a l en w h hb hl (by omega)
    rw [e3] at this
    rw [e1, e2]
    exact this
theorem readVar_o (p : Option Addr) (c n : Nat) (l : List Int) (en : Hid (l.length = n)) (w : World) (h : Rd w (.slice p n c) l) (hb : Byt l) (hl : n ≤ 1048576) (om : Option (List Int)) (hs : Sfx n l om) (x : Int) (om' : Option (List Int)) (e : Hid (oV om = (x, om'))) :
    Calls Tryd.prog 39 #[.slice p n c, .int .i64 (atI n om)] w fun e w' => e = .returned (.tuple #[.int .u64 x, .int .i64 (atI n om')]) ∧ w' = w := by
  have e := unhide e
  match om, hs with
  | none, _ =>
    simp [oV] at e
    obtain ⟨rfl, rfl⟩ := e
    exact readVar_neg p c n w
  | some m, hs =>
    obtain ⟨h1, h2⟩ := hs _ rfl
    obtain ⟨a, ea⟩ : ∃ a, n - m.length = a := ⟨_, rfl⟩
    rw [ea] at h2
    have e1 : atI n (some m) = (a : Int) := by simp [atI]; omega
    have := readVar_at p c n a l en w h hb hl (by omega) (rv m) (by show _ = _; rw [← h2])
    rw [e1]
    refine this.mono ?_
    rintro r w' ⟨rfl, rfl⟩
    refine ⟨?_, rfl⟩
    unfold oV at e
    dsimp only at e
    cases er : rv m with
    | none => rw [er] at e; simp at e; obtain ⟨rfl, rfl⟩ := e; rfl
    | some y => rw [er] at e; simp at e; obtain ⟨rfl, rfl⟩ := e; rfl
theorem readText_o (p : Option Addr) (c n : Nat) (l : List Int) (en : Hid (l.length = n)) (w : World) (h : Rd w (.slice p n c) l) (hb : Byt l) (hl : n ≤ 1048576) (hnc : n ≤ c) (om : Option (List Int)) (hs : Sfx n l om) (x : List Int) (om' : Option (List Int)) (e : Hid (oT om = (x, om'))) (N : Nat) (eN : Hid (x.length = N)) :
    Calls Tryd.prog 40 #[.slice p n c, .int .i64 (atI n om)] w fun e w' => ∃ p' c', e = .returned (.tuple #[.slice p' N c', .int .i64 (atI n om')]) ∧ Own w.heap.size w' (.slice p' N c') x ∧ Below w.heap.size w w' := by
  have e := unhide e
  match om, hs with
  | none, _ =>
    simp [oT] at e
    obtain ⟨rfl, rfl⟩ := e
    have hN : N = 0 := by rw [← unhide eN]; rfl
    subst hN
    refine (readText_neg p c n w).mono ?_
    rintro r w' ⟨rfl, rfl⟩
    exact ⟨none, 0, rfl, World.ownsRow_nil _ _ _ _, Below.refl _ _⟩
  | some m, hs =>
    obtain ⟨h1, h2⟩ := hs _ rfl
    obtain ⟨a, ea⟩ : ∃ a, n - m.length = a := ⟨_, rfl⟩
    rw [ea] at h2
    have e1 : atI n (some m) = (a : Int) := by simp [atI]; omega
    have e2 : tOf (rt m) = x ∧ bOf n (rt m) = atI n om' := by
      unfold oT at e
      dsimp only at e
      cases er : rt m with
      | none => rw [er] at e; simp at e; obtain ⟨rfl, rfl⟩ := e; exact ⟨rfl, rfl⟩
      | some y => rw [er] at e; simp at e; obtain ⟨rfl, rfl⟩ := e; exact ⟨rfl, rfl⟩
    have := readText_at p c n a l en w h hb hl hnc (by omega) (rt m) (by show _ = _; rw [← h2]) N (by show _ = _; rw [e2.1]; exact unhide eN)
    rw [e1]
    rw [e2.1, e2.2] at this
    exact this
end Go.Proofs.YtekooebndehokaaDoor
