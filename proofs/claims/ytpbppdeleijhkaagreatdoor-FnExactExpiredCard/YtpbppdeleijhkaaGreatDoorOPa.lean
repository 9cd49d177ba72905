import Derived.Test.YtpbppdeleijhkaaGreatDoorJB
import Derived.Test.YtpbppdeleijhkaaGreatDoorGC
namespace Go.Proofs.YtpbppdeleijhkaaGreatDoor
open Go.ChangeShapes Go.WideShapes Go.ChangeAt Go.RowKit
set_option linter.unusedVariables false
set_option linter.unusedSimpArgs false
set_option maxRecDepth 100000

/-- a request as a value -/
abbrev opV (k s : Int) (P : Value) (f : Int) (V : Value) (e g : Int) : Value := .agg #[.int .i64 k, .int .u64 s, P, .int .i64 f, V, .int .u64 e, .int .u64 g]

/-- seven cells of a block -/
abbrev At7 (w : World) (b : Nat) (v0 v1 v2 v3 v4 v5 v6 : Value) : Prop := w.cell? ⟨b, 0, none⟩ = some v0 ∧ w.cell? ⟨b, 1, none⟩ = some v1 ∧ w.cell? ⟨b, 2, none⟩ = some v2 ∧ w.cell? ⟨b, 3, none⟩ = some v3 ∧ w.cell? ⟨b, 4, none⟩ = some v4 ∧ w.cell? ⟨b, 5, none⟩ = some v5 ∧ w.cell? ⟨b, 6, none⟩ = some v6
theorem At7.below {w w' : World} {b : Nat} {v0 v1 v2 v3 v4 v5 v6 : Value} (h : At7 w b v0 v1 v2 v3 v4 v5 v6) (hb : Below w.heap.size w w') : At7 w' b v0 v1 v2 v3 v4 v5 v6 :=
  ⟨cell_below h.1 hb, cell_below h.2.1 hb, cell_below h.2.2.1 hb, cell_below h.2.2.2.1 hb, cell_below h.2.2.2.2.1 hb, cell_below h.2.2.2.2.2.1 hb, cell_below h.2.2.2.2.2.2 hb⟩
theorem frozen_bel {w w' : World} {b : Nat} (h : ∀ o, w.frozen? ⟨b, o, none⟩ = false) (hl : b < w.heap.size) (hb : Below w.heap.size w w') : ∀ o, w'.frozen? ⟨b, o, none⟩ = false := fun o => (hb.frozen (p := ⟨b, o, none⟩) hl).trans (h o)

end Go.Proofs.YtpbppdeleijhkaaGreatDoor
