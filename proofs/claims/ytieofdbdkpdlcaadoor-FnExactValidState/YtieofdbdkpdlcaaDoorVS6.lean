import Derived.Test.YtieofdbdkpdlcaaDoorVS5
namespace Go.Proofs.YtieofdbdkpdlcaaDoor
open Go.ChangeShapes Go.WideShapes Go.ChangeAt Go.RowKit
set_option linter.unusedVariables false
set_option linter.unusedSimpArgs false
set_option maxRecDepth 100000

/-- a slice within its capacity -/
def CapOK (v : Value) : Prop := ∃ p n c, v = .slice p n c ∧ n ≤ c ∧ c ≤ maxLen
/-- a node lies at place a of block b: P V H U are the values of its slices -/
structure NodeAt (w : World) (b a : Nat) (nd : Nod) (P V H U : Value) : Prop where
  c0 : w.cell? ⟨b, a, none⟩ = some P
  c1 : w.cell? ⟨b, a + 1, none⟩ = some V
  c2 : w.cell? ⟨b, a + 2, none⟩ = some (.int .u64 nd.owner)
  c3 : w.cell? ⟨b, a + 3, none⟩ = some (.int .i64 nd.mode)
  c4 : w.cell? ⟨b, a + 4, none⟩ = some H
  c5 : w.cell? ⟨b, a + 5, none⟩ = some (.int .u64 nd.epoch)
  c6 : w.cell? ⟨b, a + 6, none⟩ = some (.int .u64 nd.gen)
  c7 : w.cell? ⟨b, a + 7, none⟩ = some U
  r0 : Rd w P nd.path
  r1 : Rd w V nd.value
  r4 : RdU w H nd.holders
  r7 : RdU w U nd.watchers
  k0 : CapOK P
theorem NodeAt.below {w w' : World} {b a : Nat} {nd : Nod} {P V H U : Value} (h : NodeAt w b a nd P V H U) (hb : Below w.heap.size w w') : NodeAt w' b a nd P V H U :=
  ⟨cell_below h.c0 hb, cell_below h.c1 hb, cell_below h.c2 hb, cell_below h.c3 hb, cell_below h.c4 hb, cell_below h.c5 hb, cell_below h.c6 hb, cell_below h.c7 hb, h.r0.below hb, h.r1.below hb, h.r4.below hb, h.r7.below hb, h.k0⟩
/-- v is a slice of nodes that reads ns -/
def RdN (w : World) (v : Value) (ns : List Nod) : Prop :=
  ∃ (p : Option Addr) (c : Nat), v = .slice p ns.length c ∧ (ns = [] ∨ ∃ b o, p = some ⟨b, o, none⟩ ∧ ∀ i nd, ns[i]? = some nd → ∃ P V H U, NodeAt w b (o + i * 8) nd P V H U)
theorem RdN.below {w w' : World} {v : Value} {ns : List Nod} (h : RdN w v ns) (hb : Below w.heap.size w w') : RdN w' v ns := by
  obtain ⟨p, c, rfl, h⟩ := h
  refine ⟨p, c, rfl, ?_⟩
  rcases h with h | ⟨b, o, rfl, h⟩
  · exact .inl h
  · refine .inr ⟨b, o, rfl, fun i e he => ?_⟩
    obtain ⟨P, V, H, U, h1⟩ := h i e he
    exact ⟨P, V, H, U, h1.below hb⟩
/-- a node as a value -/
abbrev ndV (P V : Value) (ow mo : Int) (H : Value) (ep ge : Int) (U : Value) : Value := .agg #[P, V, .int .u64 ow, .int .i64 mo, H, .int .u64 ep, .int .u64 ge, U]

/-- a lock as it may be, in a state of epoch e and generation g -/
def lockOK (e g mo : Int) (nh : Nat) (ep ge : Int) : Bool :=
  if mo = 1 then nh == 1 && (decide (1 ≤ ge) && (decide (ge ≤ g) && decide (ep ≤ e))) else ep == 0 && (ge == 0 && (if mo = 0 then nh == 0 else mo == 2 && decide (1 ≤ nh)))

set_option maxHeartbeats 1600000 in
theorem l3lockOK_any (e g x t ow mo ep ge : Int) (S N P V U : Value) (p : Option Addr) (c n : Nat) (w : World) (hn : n ≤ 1048576) (B : Bool) (eB : Hid (lockOK e g mo n ep ge = B)) :
    Calls Tryd.prog 76 #[stV e g x t S N, ndV P V ow mo (.slice p n c) ep ge U] w fun r w' => r = .returned (.bool B) ∧ Below w.heap.size w w' := by
  go_enter Tryd.func76, Tryd.ntmps76
  go_wp2_with fail
  all_goals (
    go_ret
    refine ⟨?_, ((Below.refl _ _).alloc (Nat.le_refl _) _).alloc (by simp) _⟩
    rw [← unhide eB]
    simp only [lockOK, Ending.returned.injEq, Value.bool.injEq])
  all_goals first | (simp_all; done) | (simp_all; omega) | skip
  all_goals (
    show Value.bool ((n : Int) == 0) = Value.bool _
    congr 1
    have e0 : mo = 0 := (by simpa using ‹(mo == 0) = true›)
    have e1 : ge = 0 := (by simpa using ‹(ge != 0) = false›)
    subst e0 e1
    rw [Bool.eq_iff_iff]
    simp_all)
end Go.Proofs.YtieofdbdkpdlcaaDoor
