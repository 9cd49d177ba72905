import Derived.Test.YtieofdbdkpdlcaaDoorVS8
namespace Go.Proofs.YtieofdbdkpdlcaaDoor
open Go.ChangeShapes Go.WideShapes Go.ChangeAt Go.RowKit
set_option linter.unusedVariables false
set_option linter.unusedSimpArgs false
set_option maxRecDepth 100000

/-- a valid state -/
def stOK (e g x t : Int) (ss : List Ses) (ns : List Nod) : Bool :=
  decide (e ≤ 4611686018427387904 ∧ g ≤ 4611686018427387904 ∧ x ≤ 4611686018427387904 ∧ 0 ≤ t ∧ t ≤ 1000000 ∧ ss.length ≤ 50 ∧ ns.length ≤ 200) && ((List.range ss.length).all (sesAt x ss) && (List.range ns.length).all (nodOK e g ss ns))

set_option maxHeartbeats 1600000 in
theorem specVS (e g x t : Int) (p q : Option Addr) (c n d m : Nat) (ss : List Ses) (ns : List Nod) (en : Hid (ss.length = n)) (em : Hid (ns.length = m)) (w : World) (h : RdS w (.slice p n c) ss) (hN : RdN w (.slice q m d) ns) (hn : n ≤ 1048576) (hm : m ≤ 1048576)
    (hbs : Hid (∀ s ∈ ss, s.2.2.length ≤ 1048576 ∧ ∀ e ∈ s.2.2, Byt e.2 ∧ e.2.length ≤ 1048576))
    (hby : Hid (∀ nd ∈ ns, Byt nd.path ∧ nd.path.length ≤ 1048576 ∧ nd.value.length ≤ 1048576 ∧ nd.holders.length ≤ 1048576 ∧ nd.watchers.length ≤ 1048576)) (B : Bool) (eB : Hid (stOK e g x t ss ns = B)) :
    Calls Tryd.prog 23 #[stV e g x t (.slice p n c) (.slice q m d)] w fun r w' => r = .returned (.bool B) ∧ Below w.heap.size w w' := by
  have HR := hide fun (w' : World) (hb : Below w.heap.size w w') => And.intro (h.below hb) (hN.below hb)
  have b1 : Below w.heap.size w (w.alloc (.cells #[.int .u64 e, .int .u64 g, .int .u64 x, .int .i64 t, .slice p n c, .slice q m d] 48)) := (Below.refl _ _).alloc (Nat.le_refl _) _
  have hB : B = (decide (e ≤ 4611686018427387904 ∧ g ≤ 4611686018427387904 ∧ x ≤ 4611686018427387904 ∧ 0 ≤ t ∧ t ≤ 1000000 ∧ n ≤ 50 ∧ m ≤ 200) && ((List.range n).all (sesAt x ss) && (List.range m).all (nodOK e g ss ns))) := by
    rw [← unhide eB, stOK, unhide en, unhide em]
  have HB := hide hB
  clear h hN hB eB
  by_cases h0 : 4611686018427387904 < e
  · have eF : B = false := by
      rw [unhide HB, Bool.and_eq_false_iff]
      exact .inl (decide_eq_false (fun hh => by omega))
    subst eF
    clear HB
    go_enter Tryd.func23, Tryd.ntmps23
    go_wp2
    go_ret
    exact ⟨rfl, b1⟩
  · have q0 : e ≤ 4611686018427387904 := by omega
    by_cases h1 : 4611686018427387904 < g
    · have eF : B = false := by
        rw [unhide HB, Bool.and_eq_false_iff]
        exact .inl (decide_eq_false (fun hh => by omega))
      subst eF
      clear HB
      go_enter Tryd.func23, Tryd.ntmps23
      go_wp2
      go_ret
      exact ⟨rfl, b1⟩
    · have q1 : g ≤ 4611686018427387904 := by omega
      by_cases h2 : 4611686018427387904 < x
      · have eF : B = false := by
          rw [unhide HB, Bool.and_eq_false_iff]
          exact .inl (decide_eq_false (fun hh => by omega))
        subst eF
        clear HB
        go_enter Tryd.func23, Tryd.ntmps23
        go_wp2
        go_ret
        exact ⟨rfl, b1⟩
      · have q2 : x ≤ 4611686018427387904 := by omega
        by_cases h3 : t < 0
        · have eF : B = false := by
            rw [unhide HB, Bool.and_eq_false_iff]
            exact .inl (decide_eq_false (fun hh => by omega))
          subst eF
          clear HB
          go_enter Tryd.func23, Tryd.ntmps23
          go_wp2
          go_ret
          exact ⟨rfl, b1⟩
        · have q3 : 0 ≤ t := by omega
          by_cases h4 : 1000000 < t
          · have eF : B = false := by
              rw [unhide HB, Bool.and_eq_false_iff]
              exact .inl (decide_eq_false (fun hh => by omega))
            subst eF
            clear HB
            go_enter Tryd.func23, Tryd.ntmps23
            go_wp2
            go_ret
            exact ⟨rfl, b1⟩
          · have q4 : t ≤ 1000000 := by omega
            by_cases h5 : (50 : Int) < (n : Int)
            · have eF : B = false := by
                rw [unhide HB, Bool.and_eq_false_iff]
                exact .inl (decide_eq_false (fun hh => by omega))
              subst eF
              clear HB
              go_enter Tryd.func23, Tryd.ntmps23
              go_wp2
              go_ret
              exact ⟨rfl, b1⟩
            · have q5 : n ≤ 50 := by omega
              by_cases h6 : (200 : Int) < (m : Int)
              · have eF : B = false := by
                  rw [unhide HB, Bool.and_eq_false_iff]
                  exact .inl (decide_eq_false (fun hh => by omega))
                subst eF
                clear HB
                go_enter Tryd.func23, Tryd.ntmps23
                go_wp2
                go_ret
                exact ⟨rfl, b1⟩
              · have q6 : m ≤ 200 := by omega
                have HB2 : Hid (B = ((List.range n).all (sesAt x ss) && (List.range m).all (nodOK e g ss ns))) := by
                  show _ = _
                  rw [unhide HB, decide_eq_true ⟨q0, q1, q2, q3, q4, q5, q6⟩, Bool.true_and]
                clear HB
                go_enter Tryd.func23, Tryd.ntmps23
                go_wp2_with fail
                obtain ⟨W, hW⟩ : ∃ W, W = (w.alloc (.cells #[.int .u64 e, .int .u64 g, .int .u64 x, .int .i64 t, .slice p n c, .slice q m d] 48)) := ⟨_, rfl⟩
                have hc6 : St6 W w.heap.size e g x t (.slice p n c) (.slice q m d) := by rw [hW]; simp [St6]
                rw [← hW] at b1 ⊢
                clear hW
                have BW := hide b1
                have HC6 := hide hc6
                clear b1 hc6
                clear h0 h1 h2 h3 h4 h5 h6 q0 q1 q2 q3 q4 q5 q6
                go_loopw [3] (fun iv wr => ∃ k : Nat, k ≤ n ∧ iv = .int .i64 k ∧ Hid ((List.range k).all (sesAt x ss) = true) ∧ Below W.heap.size W wr) (fun iv _ => n - (intOf iv).toNat)
                case atStart => exact ⟨0, Nat.zero_le _, rfl, (by show _ = _; rfl), Below.refl _ _⟩
                case round =>
                  obtain ⟨k, hk, rfl, hok, hbr⟩ := hrel
                  have BB := Below.step (unhide BW) hbr
                  obtain ⟨i0, i1, i2, i3, i4, i5⟩ := (unhide HC6).below hbr
                  by_cases hlt : k < n
                  · have hlt' : (k : Int) < (n : Int) := by omega
                    obtain ⟨T, eT⟩ : ∃ T, sesAt x ss k = T := ⟨_, rfl⟩
                    have ET := hide eT
                    go_wp2_with fail
                    refine (l3sessionOK_any e g x t p c n k _ ss en _ (unhide HR _ BB).1 hn hlt hbs T ET).mono ?_
                    rintro r w2 ⟨rfl, hb2⟩
                    clear i0 i1 i2 i3 i4 i5
                    cases T with
                    | false =>
                      have eF : B = false := by rw [unhide HB2, range_all_no hlt eT]; rfl
                      subst eF
                      have b2 := Below.step BB hb2
                      clear HB2 eT hb2
                      go_wp2
                      go_ret
                      exact ⟨rfl, b2⟩
                    | true =>
                      have HOK := hide (range_all_step (unhide hok) eT)
                      have b2 := Below.step hbr hb2
                      clear eT hb2 BB
                      go_wp2
                      go_roundw
                      case rel => exact ⟨k + 1, by omega, by go_num, HOK, b2⟩
                      case measure => simp [intOf]; omega
                  · have hlt' : ¬ (k : Int) < (n : Int) := by omega
                    have ekn : k = n := by omega
                    have HB3 : Hid (B = (List.range m).all (nodOK e g ss ns)) := by
                      show _ = _
                      rw [unhide HB2, show (List.range n).all (sesAt x ss) = true from ekn ▸ unhide hok, Bool.true_and]
                    have HC7 := hide ((unhide HC6).below hbr)
                    clear HB2 ekn hok
                    go_wp2_with fail
                    clear i0 i1 i2 i3 i4 i5
                    obtain ⟨Y, eY⟩ : ∃ Y, Y = wr := ⟨_, rfl⟩
                    subst eY
                    have BY := hide BB
                    clear BB hbr hlt hlt' hk
                    go_loopw [4] (fun iv wr => ∃ k : Nat, k ≤ m ∧ iv = .int .i64 k ∧ Hid ((List.range k).all (nodOK e g ss ns) = true) ∧ Below Y.heap.size Y wr) (fun iv _ => m - (intOf iv).toNat)
                    case atStart => exact ⟨0, Nat.zero_le _, rfl, (by show _ = _; rfl), Below.refl _ _⟩
                    case round =>
                      obtain ⟨j, hk, rfl, hok, hbr⟩ := hrel
                      have BB := Below.step (unhide BY) hbr
                      obtain ⟨i0, i1, i2, i3, i4, i5⟩ := (unhide HC7).below hbr
                      by_cases hlt : j < m
                      · have hlt' : (j : Int) < (m : Int) := by omega
                        obtain ⟨T, eT⟩ : ∃ T, nodOK e g ss ns j = T := ⟨_, rfl⟩
                        have ET := hide eT
                        go_wp2_with fail
                        refine (l3nodeOK_any e g x t p q c n d m j ss ns en em _ (unhide HR _ BB).1 (unhide HR _ BB).2 hn hm hlt hby T ET).mono ?_
                        rintro r w2 ⟨rfl, hb2⟩
                        clear i0 i1 i2 i3 i4 i5
                        cases T with
                        | false =>
                          have eF : B = false := by rw [unhide HB3]; exact range_all_no hlt eT
                          subst eF
                          have b2 := Below.step BB hb2
                          clear HB3 eT hb2
                          go_wp2
                          go_ret
                          exact ⟨rfl, b2⟩
                        | true =>
                          have HOK := hide (range_all_step (unhide hok) eT)
                          have b2 := Below.step hbr hb2
                          clear eT hb2 BB
                          go_wp2
                          go_roundw
                          case rel => exact ⟨j + 1, by omega, by go_num, HOK, b2⟩
                          case measure => simp [intOf]; omega
                      · have hlt' : ¬ (j : Int) < (m : Int) := by omega
                        have ekm : j = m := by omega
                        have eT : B = true := by rw [unhide HB3, ← ekm]; exact unhide hok
                        subst eT
                        clear HB3 ekm hok
                        go_wp2
                        go_ret
                        exact ⟨rfl, BB⟩
end Go.Proofs.YtieofdbdkpdlcaaDoor
