import Derived.Test.YtpbppdeleijhkaaGreatDoorVS2
import Derived.Test.YtpbppdeleijhkaaGreatDoorDOe
namespace Go.Proofs.YtpbppdeleijhkaaGreatDoor
open Go.ChangeShapes Go.WideShapes Go.ChangeAt Go.RowKit
set_option linter.unusedVariables false
set_option linter.unusedSimpArgs false
set_option maxRecDepth 100000

/-- an event at place i of a queue -/
def evAt (i : Nat) (e : Ev) : Bool := if i = 7 then e.1 == 4 && e.2.length == 0 else decide (1 ≤ e.1) && (decide (e.1 ≤ 3) && vp e.2)
def queueOK (es : List Ev) : Bool := decide (es.length ≤ 8) && (List.range es.length).all fun i => evAt i (es.getD i (0, []))

set_option maxHeartbeats 1600000 in
theorem l3queueOK_any (p : Option Addr) (c n : Nat) (es : List Ev) (en : Hid (es.length = n)) (w : World) (h : RdE w (.slice p n c) es) (hn : n ≤ 1048576) (hby : Hid (∀ e ∈ es, Byt e.2 ∧ e.2.length ≤ 1048576)) (B : Bool) (eB : Hid (queueOK es = B)) :
    Calls Tryz.prog 135 #[.slice p n c] w fun r w' => r = .returned (.bool B) ∧ Below w.heap.size w w' := by
  have HR := hide fun (w' : World) (hb : Below w.heap.size w w') => h.below hb
  have hcf : ∀ (vs : Array Value) (w : World), (callFunc 136 vs).run Tryz.prog w = .ok (.enter 136 vs) w := fun vs w => by kernel_rfl
  have HCF := hide hcf
  clear h hcf
  by_cases h8 : n ≤ 8
  · have h8' : ¬ (8 : Int) < (n : Int) := by omega
    go_enter Tryz.func135, Tryz.ntmps135
    go_wp2_with fail
    go_loopw [3] (fun iv wr => ∃ k : Nat, k ≤ n ∧ iv = .int .i64 k ∧ Hid ((List.range k).all (fun i => evAt i (es.getD i (0, []))) = true) ∧ Below w.heap.size w wr) (fun iv _ => n - (intOf iv).toNat)
    case atStart => exact ⟨0, Nat.zero_le _, rfl, (by show _ = _; rfl), Below.refl _ _⟩
    case round =>
      obtain ⟨k, hk, rfl, hok, hbr⟩ := hrel
      by_cases hlt : k < n
      · have hlt' : (k : Int) < (n : Int) := by omega
        have hkl : k < es.length := by rw [unhide en]; exact hlt
        obtain ⟨⟨K, P⟩, hy⟩ : ∃ y, es[k]? = some y := ⟨_, List.getElem?_eq_getElem hkl⟩
        have hyD : es.getD k (0, []) = (K, P) := by rw [List.getD_eq_getElem?_getD, hy]; rfl
        obtain ⟨b, o, rfl, hcK, u, hcP, hrP⟩ : ∃ b o, p = some ⟨b, o, none⟩ ∧ wr.cell? ⟨b, o + k * 2, none⟩ = some (.int .i64 K) ∧ ∃ u, wr.cell? ⟨b, o + k * 2 + 1, none⟩ = some u ∧ Rd wr u P := by
          obtain ⟨p', c', ev, hd⟩ := unhide HR _ hbr
          simp only [Value.slice.injEq] at ev
          obtain ⟨rfl, -, -⟩ := ev
          rcases hd with h0 | ⟨b, o, h1, h2⟩
          · rw [h0] at hkl; simp at hkl
          · exact ⟨b, o, h1, h2 k _ hy⟩
        obtain ⟨hBP, hPl⟩ := unhide hby _ (List.mem_of_getElem? hy)
        obtain ⟨pp, pc, rfl, -⟩ := id hrP
        obtain ⟨m, em⟩ : ∃ m, P.length = m := ⟨_, rfl⟩
        rw [em] at hrP hcP
        have hm : m ≤ 1048576 := by rw [← em]; exact hPl
        have EM := hide em
        have HBP := hide hBP
        have HRP := hide hrP
        have hF : evAt k (K, P) = false → B = false := fun h => by rw [← unhide eB, queueOK, unhide en, range_all_no hlt (by rw [hyD]; exact h), Bool.and_false]
        have hT : evAt k (K, P) = true → Hid ((List.range (k + 1)).all (fun i => evAt i (es.getD i (0, []))) = true) := fun h => range_all_step (unhide hok) (by rw [hyD]; exact h)
        clear hkl hy hyD em hBP hPl hrP
        by_cases h7 : k = 7
        · subst h7
          have hcK : wr.cell? ⟨b, o + 14, none⟩ = some (.int .i64 K) := hcK
          have hcP : wr.cell? ⟨b, o + 14 + 1, none⟩ = some (.slice pp m pc) := hcP
          have hcP' : wr.cell? ⟨b, o + 15, none⟩ = some (.slice pp m pc) := hcP
          by_cases h4 : K = 4
          · have h4d : (K == 4) = true := by simp [h4]
            by_cases hm0 : m = 0
            · have hm0d : ((m : Int) == 0) = true := by simp; omega
              have HOK := hT (by rw [evAt, if_pos rfl]; simp [h4, unhide EM, hm0])
              clear hF hT
              go_wp2
              go_roundw
              case rel => exact ⟨7 + 1, by omega, by go_num, HOK, hbr⟩
              case measure => simp [intOf]; omega
            · have hm0d : ((m : Int) == 0) = false := by simp; omega
              have eF := hF (by rw [evAt, if_pos rfl]; simp [h4, unhide EM, hm0])
              subst eF
              clear hF hT
              go_wp2
              go_ret
              exact ⟨rfl, hbr⟩
          · have h4d : (K == 4) = false := by simp [h4]
            have eF := hF (by rw [evAt, if_pos rfl]; simp [h4])
            subst eF
            clear hF hT
            go_wp2
            go_ret
            exact ⟨rfl, hbr⟩
        · have h7' : ¬ (k : Int) = 7 := by omega
          have h7d : ((k : Int) == 7) = false := by simp; omega
          by_cases h4 : K = 4
          · have h4d : (K == 4) = true := by simp [h4]
            have eF := hF (by rw [evAt, if_neg h7]; simp [h4])
            subst eF
            clear hF hT
            go_wp2
            go_ret
            exact ⟨rfl, hbr⟩
          · have h4d : (K == 4) = false := by simp [h4]
            by_cases h1 : K < 1
            · have h1' : ¬ 1 ≤ K := by omega
              have eF := hF (by rw [evAt, if_neg h7]; simp; omega)
              subst eF
              clear hF hT
              go_wp2
              go_ret
              exact ⟨rfl, hbr⟩
            · by_cases h3 : 3 < K
              · have h3' : ¬ K ≤ 3 := by omega
                have eF := hF (by rw [evAt, if_neg h7]; simp; omega)
                subst eF
                clear hF hT
                go_wp2
                go_ret
                exact ⟨rfl, hbr⟩
              · have h1' : ¬ K < 1 := h1
                have g1 : 1 ≤ K := by omega
                have g3 : K ≤ 3 := by omega
                obtain ⟨V, eV⟩ : ∃ V, vp P = V := ⟨_, rfl⟩
                have EV := hide eV
                have hat : evAt k (K, P) = V := by rw [evAt, if_neg h7, eV]; simp [g1, g3]
                clear eV
                go_wp2_with fail
                refine (specVP pp pc m P EM _ (unhide HRP) HBP hm V EV).mono ?_
                rintro r w2 ⟨rfl, hb2⟩
                have b2 := Below.step hbr hb2
                clear hb2 hbr
                cases V with
                | false =>
                  have eF := hF (by exact hat)
                  subst eF
                  clear hF hT
                  go_wp2
                  go_ret
                  exact ⟨rfl, b2⟩
                | true =>
                  have HOK := hT (by exact hat)
                  clear hF hT
                  go_wp2
                  go_roundw
                  case rel => exact ⟨k + 1, by omega, by go_num, HOK, b2⟩
                  case measure => simp [intOf]; omega
      · have hlt' : ¬ (k : Int) < (n : Int) := by omega
        have eT : B = true := by
          rw [← unhide eB, queueOK, unhide en]
          have : k = n := by omega
          rw [← this, unhide hok]
          simp; omega
        subst eT
        go_wp2
        go_ret
        exact ⟨rfl, hbr⟩
  · have h8' : (8 : Int) < (n : Int) := by omega
    have eF : B = false := by rw [← unhide eB, queueOK, unhide en]; simp [h8]
    subst eF
    go_enter Tryz.func135, Tryz.ntmps135
    go_wp2
    go_ret
    exact ⟨rfl, Below.refl _ _⟩
end Go.Proofs.YtpbppdeleijhkaaGreatDoor
