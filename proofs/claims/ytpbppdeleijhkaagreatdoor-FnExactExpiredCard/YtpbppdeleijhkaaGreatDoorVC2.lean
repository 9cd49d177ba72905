import Derived.Test.YtpbppdeleijhkaaGreatDoorVC1
namespace Go.Proofs.YtpbppdeleijhkaaGreatDoor
open Go.ChangeShapes Go.WideShapes Go.ChangeAt Go.RowKit
set_option linter.unusedVariables false
set_option linter.unusedSimpArgs false
set_option maxRecDepth 100000

/-- v is a slice of events that reads es, their paths within their capacities -/
def RdEc (w : World) (v : Value) (es : List Ev) : Prop :=
  ∃ (p : Option Addr) (c : Nat), v = .slice p es.length c ∧ (es = [] ∨ ∃ b o, p = some ⟨b, o, none⟩ ∧ ∀ i e, es[i]? = some e → w.cell? ⟨b, o + i * 2, none⟩ = some (.int .i64 e.1) ∧ ∃ u, w.cell? ⟨b, o + i * 2 + 1, none⟩ = some u ∧ Rd w u e.2 ∧ CapOK u)
theorem RdEc.rd {w : World} {v : Value} {es : List Ev} (h : RdEc w v es) : RdE w v es := by
  obtain ⟨p, c, rfl, h⟩ := h
  refine ⟨p, c, rfl, ?_⟩
  rcases h with h | ⟨b, o, rfl, h⟩
  · exact .inl h
  · refine .inr ⟨b, o, rfl, fun i e he => ?_⟩
    obtain ⟨h1, u, h2, h3, _⟩ := h i e he
    exact ⟨h1, u, h2, h3⟩
theorem RdEc.below {w w' : World} {v : Value} {es : List Ev} (h : RdEc w v es) (hb : Below w.heap.size w w') : RdEc w' v es := by
  obtain ⟨p, c, rfl, h⟩ := h
  refine ⟨p, c, rfl, ?_⟩
  rcases h with h | ⟨b, o, rfl, h⟩
  · exact .inl h
  · refine .inr ⟨b, o, rfl, fun i e he => ?_⟩
    obtain ⟨h1, u, h2, h3, h4⟩ := h i e he
    exact ⟨cell_below h1 hb, u, cell_below h2 hb, h3.below hb, h4⟩
/-- v is a slice of sessions that reads ss, the paths of the events within their capacities -/
def RdSc (w : World) (v : Value) (ss : List Ses) : Prop :=
  ∃ (p : Option Addr) (c : Nat), v = .slice p ss.length c ∧ (ss = [] ∨ ∃ b o, p = some ⟨b, o, none⟩ ∧ ∀ i s, ss[i]? = some s → w.cell? ⟨b, o + i * 3, none⟩ = some (.int .u64 s.1) ∧ w.cell? ⟨b, o + i * 3 + 1, none⟩ = some (.int .i64 s.2.1) ∧ ∃ u, w.cell? ⟨b, o + i * 3 + 2, none⟩ = some u ∧ RdEc w u s.2.2)
theorem RdSc.rd {w : World} {v : Value} {ss : List Ses} (h : RdSc w v ss) : RdS w v ss := by
  obtain ⟨p, c, rfl, h⟩ := h
  refine ⟨p, c, rfl, ?_⟩
  rcases h with h | ⟨b, o, rfl, h⟩
  · exact .inl h
  · refine .inr ⟨b, o, rfl, fun i e he => ?_⟩
    obtain ⟨h1, h2, u, h3, h4⟩ := h i e he
    exact ⟨h1, h2, u, h3, h4.rd⟩
theorem RdSc.below {w w' : World} {v : Value} {ss : List Ses} (h : RdSc w v ss) (hb : Below w.heap.size w w') : RdSc w' v ss := by
  obtain ⟨p, c, rfl, h⟩ := h
  refine ⟨p, c, rfl, ?_⟩
  rcases h with h | ⟨b, o, rfl, h⟩
  · exact .inl h
  · refine .inr ⟨b, o, rfl, fun i e he => ?_⟩
    obtain ⟨h1, h2, u, h3, h4⟩ := h i e he
    exact ⟨cell_below h1 hb, cell_below h2 hb, u, cell_below h3 hb, h4.below hb⟩
/-- the variable that bytes.Split reads -/
def ML (w : World) : Prop := ∃ m, w.cell? ⟨1, 0, none⟩ = some (.int .i64 m)
theorem ML.below {w w' : World} (h : ML w) (hb : Below w.heap.size w w') : ML w' := by
  obtain ⟨m, h⟩ := h
  exact ⟨m, cell_below h hb⟩
theorem CapOK.of {p : Option Addr} {n c : Nat} (h : CapOK (.slice p n c)) : n ≤ c ∧ c ≤ maxLen := by
  obtain ⟨p', n', c', e, h1, h2⟩ := h
  simp only [Value.slice.injEq] at e
  obtain ⟨rfl, rfl, rfl⟩ := e
  exact ⟨h1, h2⟩

set_option maxHeartbeats 1600000 in
theorem validAt_any (K : Int) (pp : Option Addr) (pc m i : Nat) (P : List Int) (em : Hid (P.length = m)) (w : World) (hR : Rd w (.slice pp m pc) P) (hB : Hid (Byt P)) (hm : m ≤ 1048576) (hcap : CapOK (.slice pp m pc)) (hML : ML w) (B : Bool) (eB : Hid (evAt i (K, P) = B)) :
    Calls Tryz.prog 179 #[.agg #[.int .i64 K, .slice pp m pc], .int .i64 i] w fun r w' => r = .returned (.bool B) ∧ Below w.heap.size w w' := by
  obtain ⟨hc1, hc2⟩ := hcap.of
  have b1 : Below w.heap.size w (w.alloc (.cells #[.int .i64 K, .slice pp m pc] 169)) := (Below.refl _ _).alloc (Nat.le_refl _) _
  have HR := hide (hR.below b1)
  have HM := hide (hML.below b1)
  clear hR hML hcap
  by_cases h7 : i = 7
  · subst h7
    by_cases h4 : K = 4
    · subst h4
      by_cases hm0 : m = 0
      · subst hm0
        have eT : B = true := by rw [← unhide eB, evAt, if_pos rfl]; simp [unhide em]
        subst eT
        go_enter Tryz.func179, Tryz.ntmps179
        go_wp2
        go_ret
        exact ⟨rfl, b1⟩
      · have hm0d : ((m : Int) == 0) = false := by simp; omega
        have eT : B = false := by rw [← unhide eB, evAt, if_pos rfl]; simp [unhide em, hm0]
        subst eT
        go_enter Tryz.func179, Tryz.ntmps179
        go_wp2
        go_ret
        exact ⟨rfl, b1⟩
    · have h4d : (K == 4) = false := by simp [h4]
      have eT : B = false := by rw [← unhide eB, evAt, if_pos rfl]; simp [h4]
      subst eT
      go_enter Tryz.func179, Tryz.ntmps179
      go_wp2
      go_ret
      exact ⟨rfl, b1⟩
  · have h7d : ((i : Int) == 7) = false := by simp; omega
    by_cases h1 : 1 ≤ K
    · by_cases h3 : K ≤ 3
      · have eV : Hid (vp P = B) := by show _ = _; rw [← unhide eB, evAt, if_neg h7]; simp [h1, h3]
        go_enter Tryz.func179, Tryz.ntmps179
        go_wp2_with fail
        refine (implVP pp pc m P em _ (unhide HR) hB hm hc1 hc2 (unhide HM) B eV).mono ?_
        rintro r w2 ⟨rfl, hb2⟩
        have b2 := Below.step b1 hb2
        clear hb2
        go_wp2
        go_ret
        exact ⟨rfl, b2⟩
      · have eT : B = false := by rw [← unhide eB, evAt, if_neg h7]; simp [h3]
        subst eT
        go_enter Tryz.func179, Tryz.ntmps179
        go_wp2
        go_ret
        exact ⟨rfl, b1⟩
    · have eT : B = false := by rw [← unhide eB, evAt, if_neg h7]; simp [h1]
      subst eT
      go_enter Tryz.func179, Tryz.ntmps179
      go_wp2
      go_ret
      exact ⟨rfl, b1⟩

/-- a session by itself -/
def sesV (nx : Int) (s : Ses) : Bool := decide (1 ≤ s.1) && (decide (s.1 ≤ nx) && (decide (0 ≤ s.2.1) && (decide (s.2.1 ≤ 1000015) && queueOK s.2.2)))

set_option maxHeartbeats 1600000 in
theorem sesValid_any (I D x : Int) (p : Option Addr) (c n : Nat) (Q : List Ev) (en : Hid (Q.length = n)) (w : World) (h : RdEc w (.slice p n c) Q) (hn : n ≤ 1048576) (hby : Hid (∀ e ∈ Q, Byt e.2 ∧ e.2.length ≤ 1048576)) (hML : ML w) (B : Bool) (eB : Hid (sesV x (I, D, Q) = B)) :
    Calls Tryz.prog 150 #[.agg #[.int .u64 I, .int .i64 D, .slice p n c], .int .u64 x] w fun r w' => r = .returned (.bool B) ∧ Below w.heap.size w w' := by
  have HR := hide fun (w' : World) (hb : Below w.heap.size w w') => And.intro (h.below hb) (hML.below hb)
  have b1 : Below w.heap.size w (w.alloc (.cells #[.int .u64 I, .int .i64 D, .slice p n c] 65)) := (Below.refl _ _).alloc (Nat.le_refl _) _
  have hB : B = (decide (1 ≤ I) && (decide (I ≤ x) && (decide (0 ≤ D) && (decide (D ≤ 1000015) && (decide (n ≤ 8) && (List.range n).all fun i => evAt i (Q.getD i (0, []))))))) := by
    rw [← unhide eB, sesV, queueOK, unhide en]
  have HB := hide hB
  clear h hML hB eB
  by_cases h1 : I < 1
  · have eF : B = false := by rw [unhide HB]; simp; omega
    subst eF
    clear HB
    go_enter Tryz.func150, Tryz.ntmps150
    go_wp2
    go_ret
    exact ⟨rfl, b1⟩
  · by_cases h2 : x < I
    · have eF : B = false := by rw [unhide HB]; simp; omega
      subst eF
      clear HB
      go_enter Tryz.func150, Tryz.ntmps150
      go_wp2
      go_ret
      exact ⟨rfl, b1⟩
    · by_cases h3 : D < 0
      · have eF : B = false := by rw [unhide HB]; simp; omega
        subst eF
        clear HB
        go_enter Tryz.func150, Tryz.ntmps150
        go_wp2
        go_ret
        exact ⟨rfl, b1⟩
      · by_cases h4 : 1000015 < D
        · have eF : B = false := by rw [unhide HB]; simp; omega
          subst eF
          clear HB
          go_enter Tryz.func150, Tryz.ntmps150
          go_wp2
          go_ret
          exact ⟨rfl, b1⟩
        · by_cases h8 : (8 : Int) < (n : Int)
          · have eF : B = false := by rw [unhide HB]; simp; omega
            subst eF
            clear HB
            go_enter Tryz.func150, Tryz.ntmps150
            go_wp2
            go_ret
            exact ⟨rfl, b1⟩
          · have HB2 : Hid (B = (List.range n).all fun i => evAt i (Q.getD i (0, []))) := by
              show _ = _
              rw [unhide HB]
              simp only [show decide (1 ≤ I) = true by (rw [decide_eq_true_iff]; omega), show decide (I ≤ x) = true by (rw [decide_eq_true_iff]; omega), show decide (0 ≤ D) = true by (rw [decide_eq_true_iff]; omega), show decide (D ≤ 1000015) = true by (rw [decide_eq_true_iff]; omega), show decide (n ≤ 8) = true by (rw [decide_eq_true_iff]; omega), Bool.true_and]
            clear HB
            go_enter Tryz.func150, Tryz.ntmps150
            go_wp2_with fail
            clear h1 h2 h3 h4 h8
            obtain ⟨W, hW⟩ : ∃ W, W = (w.alloc (.cells #[.int .u64 I, .int .i64 D, .slice p n c] 65)) := ⟨_, rfl⟩
            rw [← hW] at b1 ⊢
            clear hW
            go_loopw [35] (fun iv wr => ∃ k : Nat, k ≤ n ∧ iv = .int .i64 k ∧ Hid ((List.range k).all (fun i => evAt i (Q.getD i (0, []))) = true) ∧ Below w.heap.size w wr) (fun iv _ => n - (intOf iv).toNat)
            case atStart => exact ⟨0, Nat.zero_le _, rfl, (by show _ = _; rfl), b1⟩
            case round =>
              obtain ⟨k, hk, rfl, hok, hbr⟩ := hrel
              by_cases hlt : k < n
              · have hlt' : (k : Int) < (n : Int) := by omega
                have hkl : k < Q.length := by rw [unhide en]; exact hlt
                obtain ⟨⟨K, P⟩, hy⟩ : ∃ y, Q[k]? = some y := ⟨_, List.getElem?_eq_getElem hkl⟩
                have hyD : Q.getD k (0, []) = (K, P) := by rw [List.getD_eq_getElem?_getD, hy]; rfl
                obtain ⟨b, o, rfl, hcK, u, hcP, hrP, hcap⟩ : ∃ b o, p = some ⟨b, o, none⟩ ∧ wr.cell? ⟨b, o + k * 2, none⟩ = some (.int .i64 K) ∧ ∃ u, wr.cell? ⟨b, o + k * 2 + 1, none⟩ = some u ∧ Rd wr u P ∧ CapOK u := by
                  obtain ⟨p', c', ev, hd⟩ := (unhide HR _ hbr).1
                  simp only [Value.slice.injEq] at ev
                  obtain ⟨rfl, -, -⟩ := ev
                  rcases hd with h0 | ⟨b, o, h1, h2⟩
                  · rw [h0] at hkl; simp at hkl
                  · exact ⟨b, o, h1, h2 k _ hy⟩
                obtain ⟨hBP, hPl⟩ := unhide hby _ (List.mem_of_getElem? hy)
                obtain ⟨pp, pc, m, rfl, em⟩ := hrP.slc
                have hm : m ≤ 1048576 := by rw [← unhide em]; exact hPl
                have HBP : Hid (Byt P) := hBP
                obtain ⟨V, eV⟩ : ∃ V, evAt k (K, P) = V := ⟨_, rfl⟩
                have EV := hide eV
                have hF : V = false → B = false := fun h => by rw [unhide HB2]; exact range_all_no hlt (by rw [hyD, eV]; exact h)
                have hT : V = true → Hid ((List.range (k + 1)).all (fun i => evAt i (Q.getD i (0, []))) = true) := fun h => range_all_step (unhide hok) (by rw [hyD, eV]; exact h)
                have HF := hide hF
                have HT := hide hT
                have b2 : Below wr.heap.size wr ((wr.alloc (.cells #[.int .i64 K, .slice pp m pc] 169))) := (Below.refl _ _).alloc (Nat.le_refl _) _
                have HRP := hide (hrP.below b2)
                have HML := hide ((unhide HR _ hbr).2.below b2)
                have HCAP := hide hcap
                clear hkl hy hyD hBP hPl hrP eV hF hT hcap
                go_wp2_with fail
                refine (validAt_any K pp pc m k P em _ (by exact unhide HRP) HBP hm (unhide HCAP) (by exact unhide HML) V EV).mono ?_
                rintro r w2 ⟨rfl, hb2⟩
                have b3 := Below.step hbr (Below.step b2 hb2)
                clear hb2 b2
                cases V with
                | false =>
                  have eF := unhide HF rfl
                  subst eF
                  go_wp2
                  go_ret
                  exact ⟨rfl, b3⟩
                | true =>
                  have HOK := unhide HT rfl
                  go_wp2
                  go_roundw
                  case rel => exact ⟨k + 1, by omega, by go_num, HOK, b3⟩
                  case measure => simp [intOf]; omega
              · have hlt' : ¬ (k : Int) < (n : Int) := by omega
                have eT : B = true := by
                  rw [unhide HB2]
                  have : k = n := by omega
                  rw [← this]
                  exact unhide hok
                subst eT
                go_wp2
                go_ret
                exact ⟨rfl, hbr⟩
end Go.Proofs.YtpbppdeleijhkaaGreatDoor
