import Derived.Test.YtpbppdeleijhkaaGreatDoorVPm
import Derived.Test.YtpbppdeleijhkaaGreatDoorGC
namespace Go.Proofs.YtpbppdeleijhkaaGreatDoor
open Go.ChangeShapes Go.WideShapes Go.ChangeAt Go.RowKit
set_option linter.unusedVariables false
set_option linter.unusedSimpArgs false
set_option maxRecDepth 100000

theorem Rd.at {w : World} {p : Option Addr} {n c : Nat} {l : List Int} (h : Rd w (.slice p n c) l) (hl : 0 < l.length) : ∃ b o, p = some ⟨b, o, none⟩ ∧ n = l.length ∧ ∀ i, i < l.length → w.cell? ⟨b, o + i, none⟩ = some (.int .u8 (l.getD i 0)) := by
  obtain ⟨p', c', e, h⟩ := h
  simp only [Value.slice.injEq] at e
  obtain ⟨rfl, rfl, -⟩ := e
  rcases h with rfl | ⟨b, o, e2, hc⟩
  · simp at hl
  · exact ⟨b, o, e2, rfl, hc⟩
/-- where a byte stands against the bytes of a name -/
theorem nm_cases (c : Int) : (97 ≤ c ∧ c ≤ 122 ∧ nmB c = true) ∨ (122 < c ∧ nmB c = false) ∨ (48 ≤ c ∧ c ≤ 57 ∧ nmB c = true) ∨ (c = 95 ∧ nmB c = true) ∨ (57 < c ∧ c < 97 ∧ ¬ c = 95 ∧ nmB c = false) ∨ (c = 45 ∧ nmB c = true) ∨ (c < 48 ∧ ¬ c = 45 ∧ nmB c = false) := by
  unfold nmB
  by_cases h1 : 97 ≤ c <;> by_cases h2 : c ≤ 122 <;> by_cases h3 : 48 ≤ c <;> by_cases h4 : c ≤ 57 <;> by_cases h5 : c = 45 <;> by_cases h6 : c = 95 <;> simp [h1, h2, h3, h4, h5, h6] <;> omega

set_option maxHeartbeats 800000 in
theorem l3nameByte_any (c : Int) (w : World) :
    Calls Tryz.prog 201 #[.int .u8 c] w fun e w' => e = .returned (.bool (nmB c)) ∧ w' = w := by
  rcases nm_cases c with ⟨h1, h2, hb⟩ | ⟨h2, hb⟩ | ⟨h3, h4, hb⟩ | ⟨rfl, hb⟩ | ⟨h4, h1, h6, hb⟩ | ⟨rfl, hb⟩ | ⟨h3, h5, hb⟩
  · rw [hb]
    go_enter Tryz.func201, Tryz.ntmps201
    go_wp2
    go_ret
    exact ⟨rfl, rfl⟩
  · rw [hb]
    have h1 : (97 : Int) ≤ c := by omega
    have h3 : (48 : Int) ≤ c := by omega
    have h2' : ¬ c ≤ 122 := by omega
    have h4 : ¬ c ≤ 57 := by omega
    have h5 : ¬ c = 45 := by omega
    have h6 : ¬ c = 95 := by omega
    go_enter Tryz.func201, Tryz.ntmps201
    go_wp2
    go_ret
    exact ⟨by simp [h5, h6], rfl⟩
  · rw [hb]
    have h1 : ¬ (97 : Int) ≤ c := by omega
    go_enter Tryz.func201, Tryz.ntmps201
    go_wp2
    go_ret
    exact ⟨rfl, rfl⟩
  · rw [hb]
    go_enter Tryz.func201, Tryz.ntmps201
    go_wp2
    go_ret
    exact ⟨rfl, rfl⟩
  · rw [hb]
    have h1 : ¬ (97 : Int) ≤ c := by omega
    have h3 : (48 : Int) ≤ c := by omega
    have h4 : ¬ c ≤ 57 := by omega
    have h5 : ¬ c = 45 := by omega
    go_enter Tryz.func201, Tryz.ntmps201
    go_wp2
    go_ret
    exact ⟨by simp [h5, h6], rfl⟩
  · rw [hb]
    go_enter Tryz.func201, Tryz.ntmps201
    go_wp2
    go_ret
    exact ⟨rfl, rfl⟩
  · rw [hb]
    have h1 : ¬ (97 : Int) ≤ c := by omega
    have h3' : ¬ (48 : Int) ≤ c := by omega
    have h6 : ¬ c = 95 := by omega
    go_enter Tryz.func201, Tryz.ntmps201
    go_wp2
    go_ret
    exact ⟨by simp [h5, h6], rfl⟩

theorem Tryz.infoSl : (Tryz.prog.info? 22).map (fun i => (i.zero, i.size, i.bytes)) = some (some (.slice none 0 0), 1, 24) := by kernel_rfl
/-- a row of slices of the call's own -/
def OwnV (B : Nat) (w : World) (v : Value) (n : Nat) (vs : List Value) : Prop := w.ownsRow B 22 1 v n vs
theorem OwnV.nil (B : Nat) (w : World) : OwnV B w (.slice none 0 0) 0 [] := World.ownsRow_nil _ _ _ _
theorem OwnV.form {B : Nat} {w : World} {v : Value} {n : Nat} {vs : List Value} (h : OwnV B w v n vs) : ∃ p c, v = .slice p n c := by
  rcases h.2 with ⟨rfl, h0⟩ | ⟨g, cap, cur, rfl, _⟩
  · exact ⟨none, 0, by rw [h0]⟩
  · exact ⟨_, _, rfl⟩
theorem OwnV.below {B : Nat} {w w' : World} {v : Value} {n : Nat} {vs : List Value} (h : OwnV B w v n vs) (hb : Below w.heap.size w w') : OwnV B w' v n vs :=
  World.ownsRow.kept h (row := none) ⟨hb.os, hb.tape, hb.output, hb.size, fun k hk _ => hb.block k hk⟩ (by cases hv : v.ownBlock <;> simp)
theorem wpList_appendV {w : World} {ops : Array Oper} {rest : List Oper} {o : Oper} {a : Act} {Q : Exit → Act → World → Prop} (hgd : o.guard = none) (s x : Operand)
    (ho : o.op = .call { callee := .builtin .append, args := #[s, x], argTypes := #[137, 137] })
    (B : Nat) (v : Value) (n : Nat) (vs : List Value) (g : Nat) (hs : a.eval s = v) (hx : a.eval x = .slice (some ⟨g, 0, none⟩) 1 1) (h : OwnV B w v n vs) (pu : Option Addr) (nu cu : Nat) (hc : w.cell? ⟨g, 0, none⟩ = some (.slice pu nu cu))
    (hl : n ≤ 2097152) (hB : B ≤ w.heap.size)
    (hK : ∀ p' c' w', OwnV B w' (.slice p' (n + 1) c') (n + 1) (vs ++ [.slice pu nu cu]) → w.grownBy w' v.ownBlock → wpList Tryz.prog ops Q rest (a.put o.dst (.slice p' (n + 1) c')) w') : wpList Tryz.prog ops Q (o :: rest) a w := by
  obtain ⟨i, hi, hz0, hz1, hz2⟩ := info_parts Tryz.infoSl
  refine wpList_append_own w hgd s x 137 ho B 22 i _ 1 24 Tryz.underlying137 hi hz0 hz1 hz2 rfl (by decide) v _ _ hs h ⟨g, 0, none⟩ 1 1 [.slice pu nu cu] hx rfl ?_ ?_ (by unfold maxLen; omega) (by omega) hB ?_
  · intro j u hu
    have e : j = 0 := by
      have := (List.getElem?_eq_some_iff.1 hu).1
      simpa using this
    subst e
    simp at hu
    subst hu
    exact hc
  · intro u hu
    simp at hu
    subst hu
    rfl
  · intro v' w' h1 h2 _
    have h3 : OwnV B w' v' (n + 1) (vs ++ [.slice pu nu cu]) := h1
    obtain ⟨p', c', rfl⟩ := h3.form
    exact hK p' c' w' h3 h2
end Go.Proofs.YtpbppdeleijhkaaGreatDoor
