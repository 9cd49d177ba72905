import Derived.Test.YtpbppdeleijhkaaGreatDoorVPl
import Derived.Test.YtpbppdeleijhkaaGreatDoorOPa
namespace Go.Proofs.YtpbppdeleijhkaaGreatDoor
open Go.ChangeShapes Go.WideShapes Go.ChangeAt Go.RowKit
set_option linter.unusedVariables false
set_option linter.unusedSimpArgs false
set_option maxRecDepth 100000

/-- an event, a session, a node, as plain data -/
abbrev Ev := Int × List Int
abbrev Ses := Int × Int × List Ev
structure Nod where
  path : List Int
  value : List Int
  owner : Int
  mode : Int
  holders : List Int
  epoch : Int
  gen : Int
  watchers : List Int
/-- v is a slice of numbers of 64 bits that reads ns -/
def RdU (w : World) (v : Value) (ns : List Int) : Prop :=
  ∃ (p : Option Addr) (c : Nat), v = .slice p ns.length c ∧ (ns = [] ∨ ∃ b o, p = some ⟨b, o, none⟩ ∧ ∀ i, i < ns.length → w.cell? ⟨b, o + i, none⟩ = some (.int .u64 (ns.getD i 0)))
/-- v is a slice of events that reads es -/
def RdE (w : World) (v : Value) (es : List Ev) : Prop :=
  ∃ (p : Option Addr) (c : Nat), v = .slice p es.length c ∧ (es = [] ∨ ∃ b o, p = some ⟨b, o, none⟩ ∧ ∀ i e, es[i]? = some e → w.cell? ⟨b, o + i * 2, none⟩ = some (.int .i64 e.1) ∧ ∃ u, w.cell? ⟨b, o + i * 2 + 1, none⟩ = some u ∧ Rd w u e.2)
/-- v is a slice of sessions that reads ss -/
def RdS (w : World) (v : Value) (ss : List Ses) : Prop :=
  ∃ (p : Option Addr) (c : Nat), v = .slice p ss.length c ∧ (ss = [] ∨ ∃ b o, p = some ⟨b, o, none⟩ ∧ ∀ i s, ss[i]? = some s → w.cell? ⟨b, o + i * 3, none⟩ = some (.int .u64 s.1) ∧ w.cell? ⟨b, o + i * 3 + 1, none⟩ = some (.int .i64 s.2.1) ∧ ∃ u, w.cell? ⟨b, o + i * 3 + 2, none⟩ = some u ∧ RdE w u s.2.2)
theorem RdU.below {w w' : World} {v : Value} {ns : List Int} (h : RdU w v ns) (hb : Below w.heap.size w w') : RdU w' v ns := by
  obtain ⟨p, c, rfl, h⟩ := h
  refine ⟨p, c, rfl, ?_⟩
  rcases h with h | ⟨b, o, rfl, h⟩
  · exact .inl h
  · exact .inr ⟨b, o, rfl, fun i hi => cell_below (h i hi) hb⟩
theorem RdE.below {w w' : World} {v : Value} {es : List Ev} (h : RdE w v es) (hb : Below w.heap.size w w') : RdE w' v es := by
  obtain ⟨p, c, rfl, h⟩ := h
  refine ⟨p, c, rfl, ?_⟩
  rcases h with h | ⟨b, o, rfl, h⟩
  · exact .inl h
  · refine .inr ⟨b, o, rfl, fun i e he => ?_⟩
    obtain ⟨h1, u, h2, h3⟩ := h i e he
    exact ⟨cell_below h1 hb, u, cell_below h2 hb, h3.below hb⟩
theorem RdS.below {w w' : World} {v : Value} {ss : List Ses} (h : RdS w v ss) (hb : Below w.heap.size w w') : RdS w' v ss := by
  obtain ⟨p, c, rfl, h⟩ := h
  refine ⟨p, c, rfl, ?_⟩
  rcases h with h | ⟨b, o, rfl, h⟩
  · exact .inl h
  · refine .inr ⟨b, o, rfl, fun i e he => ?_⟩
    obtain ⟨h1, h2, u, h3, h4⟩ := h i e he
    exact ⟨cell_below h1 hb, cell_below h2 hb, u, cell_below h3 hb, h4.below hb⟩
/-- a state as a value -/
abbrev stV (e g x n : Int) (S N : Value) : Value := .agg #[.int .u64 e, .int .u64 g, .int .u64 x, .int .i64 n, S, N]

set_option maxHeartbeats 800000 in
theorem l3live_any (e g x t : Int) (p : Option Addr) (c n : Nat) (N : Value) (ss : List Ses) (en : Hid (ss.length = n)) (w : World) (h : RdS w (.slice p n c) ss) (hn : n ≤ 1048576) (id : Int) (B : Bool) (eB : Hid ((ss.any fun s => s.1 == id) = B)) :
    Calls Tryz.prog 139 #[stV e g x t (.slice p n c) N, .int .u64 id] w fun r w' => r = .returned (.bool B) ∧ Below w.heap.size w w' := by
  have HR := hide fun (w' : World) (hb : Below w.heap.size w w') => h.below hb
  clear h
  go_enter Tryz.func139, Tryz.ntmps139
  go_wp2_with fail
  obtain ⟨W, hW⟩ : ∃ W, W = (w.alloc (.cells #[.int .u64 e, .int .u64 g, .int .u64 x, .int .i64 t, .slice p n c, N] 27)) := ⟨_, rfl⟩
  have bW : Below w.heap.size w W := by rw [hW]; exact (Below.refl _ _).alloc (Nat.le_refl _) _
  have hc4 : W.cell? ⟨w.heap.size, 4, none⟩ = some (.slice p n c) := by rw [hW]; simp
  rw [← hW]
  clear hW
  have hS := unhide HR _ bW
  have HS := hide hS
  have BW := hide bW
  clear hS bW HR
  go_loopw [5] (fun iv wr => ∃ k : Nat, k ≤ n ∧ iv = .int .i64 k ∧ Hid (((ss.take k).any fun s => s.1 == id) = false) ∧ wr = W) (fun iv _ => n - (intOf iv).toNat)
  case atStart => exact ⟨0, Nat.zero_le _, rfl, (by show _ = _; simp), rfl⟩
  case round =>
    obtain ⟨k, hk, rfl, hno, rfl⟩ := hrel
    by_cases hlt : k < n
    · have hlt' : (k : Int) < (n : Int) := by omega
      have hkl : k < ss.length := by rw [unhide en]; exact hlt
      obtain ⟨y, hy⟩ : ∃ y, ss[k]? = some y := ⟨_, List.getElem?_eq_getElem hkl⟩
      obtain ⟨p', c', ev, hd⟩ := unhide HS
      simp only [Value.slice.injEq] at ev
      obtain ⟨rfl, -, -⟩ := ev
      obtain ⟨b, o, rfl, hcell⟩ : ∃ b o, p = some ⟨b, o, none⟩ ∧ ∀ i s, ss[i]? = some s → wr.cell? ⟨b, o + i * 3, none⟩ = some (.int .u64 s.1) := by
        rcases hd with h0 | ⟨b, o, h1, h2⟩
        · rw [h0] at hkl; simp at hkl
        · exact ⟨b, o, h1, fun i s hi => (h2 i s hi).1⟩
      have hcx := hcell k y hy
      have HY := hide hy
      clear hcell hd hy hkl
      by_cases hid : y.1 = id
      · have eT : B = true := by
          rw [← unhide eB, List.any_eq_true]
          exact ⟨y, List.mem_of_getElem? (unhide HY), by simp [hid]⟩
        subst eT
        have hid' : (y.1 == id) = true := by simp [hid]
        go_wp2
        go_ret
        exact ⟨rfl, unhide BW⟩
      · have hid' : (y.1 == id) = false := by simp [hid]
        have hno2 : Hid (((ss.take (k + 1)).any fun s => s.1 == id) = false) := by
          show _ = _
          rw [List.take_add_one, unhide HY, List.any_append, unhide hno]
          simp [hid']
        go_wp2
        go_roundw
        case rel => exact ⟨k + 1, by omega, by go_num, hno2, by first | rfl | trivial⟩
        case measure => simp [intOf]; omega
    · have hlt' : ¬ (k : Int) < (n : Int) := by omega
      have eF : B = false := by
        rw [← unhide eB]
        have := unhide hno
        rwa [List.take_of_length_le (by rw [unhide en]; omega)] at this
      subst eF
      go_wp2
      go_ret
      exact ⟨rfl, unhide BW⟩
end Go.Proofs.YtpbppdeleijhkaaGreatDoor
