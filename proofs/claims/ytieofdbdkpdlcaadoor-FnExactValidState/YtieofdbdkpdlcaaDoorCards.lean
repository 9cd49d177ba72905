/-
  DERIVED. GIVEN WITH THE SEED: THE CARDS: each row of YtieofdbdkpdlcaaDoorRows.lean that lists a variable, with what it lists TIED to the program's text (the seventh form; the later family's looks); each row that meets fmt, with fmt's text TOLD by the authors' own Lean function (tested against real Go, not proved from fmt's source: count such statements apart). THE CARD IS WHAT COUNTS. Prove the row's statement (the work); the ties are given (YtieofdbdkpdlcaaDoorTie.lean); close each card by the builder's one call (the guide's Derived/Test/ToyasCard.lean, 'card_holds'). Laid BY PROGRAM, IN A SANDBOX (cutbox-door.mjs). By AI agents, Wed Nov 11 2026. No macro, syntax, notation, axiom, sorry.
-/
import Derived.Test.YtieofdbdkpdlcaaDoorRows
import GoSem.ClaimSeven
namespace Go.Proofs.YtieofdbdkpdlcaaDoor
namespace Rows

/-- THE TIED CARD OF 'laws.FnExactValidPath'. -/
def fnExactValidPathCard : Claim7 := { stood := { row := fnExactValidPathRow, standIns := [], harness := (true, "8a811ad031ae183d72133e4eba2eee6edf8d18d78ac750ab197b3e134dc682e2"), looks := false }, kinds := [], alts := [], laidByText := true, laidKinds := [.data, .pinned], laidTests := true, laidLooks := .later }
def FnExactValidPathCardSaid : Prop := Claim7.holds Tryd.pinned (.plain (OpenSpec.ofChange fnExactValidPathSpec)) fnExactValidPathCard

/-- THE TIED CARD OF 'laws.FnExactEncodeOp'. -/
def fnExactEncodeOpCard : Claim7 := { stood := { row := fnExactEncodeOpRow, standIns := [], harness := (true, "8a811ad031ae183d72133e4eba2eee6edf8d18d78ac750ab197b3e134dc682e2"), looks := false }, kinds := [], alts := [], laidByText := true, laidKinds := [.wider], laidTests := true, laidLooks := .later }
def FnExactEncodeOpCardSaid : Prop := Claim7.holds Tryd.pinned (.plain (OpenSpec.ofChange fnExactEncodeOpSpec)) fnExactEncodeOpCard

/-- THE TIED CARD OF 'laws.FnExactDecodeOp'. -/
def fnExactDecodeOpCard : Claim7 := { stood := { row := fnExactDecodeOpRow, standIns := [], harness := (true, "8a811ad031ae183d72133e4eba2eee6edf8d18d78ac750ab197b3e134dc682e2"), looks := false }, kinds := [], alts := [], laidByText := true, laidKinds := [.wider], laidTests := true, laidLooks := .later }
def FnExactDecodeOpCardSaid : Prop := Claim7.holds Tryd.pinned (.plain (OpenSpec.ofChange fnExactDecodeOpSpec)) fnExactDecodeOpCard

/-- THE TIED CARD OF 'laws.FnExactValidState'. -/
def fnExactValidStateCard : Claim7 := { stood := { row := fnExactValidStateRow, standIns := [], harness := (true, "8a811ad031ae183d72133e4eba2eee6edf8d18d78ac750ab197b3e134dc682e2"), looks := false }, kinds := [], alts := [], laidByText := true, laidKinds := [.data, .pinned], laidTests := true, laidLooks := .later }
def FnExactValidStateCardSaid : Prop := Claim7.holds Tryd.pinned (.plain (OpenSpec.ofChange fnExactValidStateSpec)) fnExactValidStateCard

/-- THE SECOND FORM's CARD OF 'laws.FnExactValidPath'. -/
def fnExactValidPathUptoCard : Claim7 := { stood := { row := fnExactValidPathUptoRow, standIns := [], harness := (true, "8a811ad031ae183d72133e4eba2eee6edf8d18d78ac750ab197b3e134dc682e2"), looks := false }, kinds := [], alts := [], laidByText := true, laidKinds := [.data, .pinned], laidTests := true, laidLooks := .later }
def FnExactValidPathUptoCardSaid : Prop := Claim7.holds Tryd.pinned (.plain (OpenSpec.upto fnExactValidPathSpec)) fnExactValidPathUptoCard

/-- THE SECOND FORM's CARD OF 'laws.FnExactEncodeOp'. -/
def fnExactEncodeOpUptoCard : Claim7 := { stood := { row := fnExactEncodeOpUptoRow, standIns := [], harness := (true, "8a811ad031ae183d72133e4eba2eee6edf8d18d78ac750ab197b3e134dc682e2"), looks := false }, kinds := [], alts := [], laidByText := true, laidKinds := [.wider], laidTests := true, laidLooks := .later }
def FnExactEncodeOpUptoCardSaid : Prop := Claim7.holds Tryd.pinned (.plain (OpenSpec.upto fnExactEncodeOpSpec)) fnExactEncodeOpUptoCard

/-- THE SECOND FORM's CARD OF 'laws.FnExactDecodeOp'. -/
def fnExactDecodeOpUptoCard : Claim7 := { stood := { row := fnExactDecodeOpUptoRow, standIns := [], harness := (true, "8a811ad031ae183d72133e4eba2eee6edf8d18d78ac750ab197b3e134dc682e2"), looks := false }, kinds := [], alts := [], laidByText := true, laidKinds := [.wider], laidTests := true, laidLooks := .later }
def FnExactDecodeOpUptoCardSaid : Prop := Claim7.holds Tryd.pinned (.plain (OpenSpec.upto fnExactDecodeOpSpec)) fnExactDecodeOpUptoCard

/-- THE SECOND FORM's CARD OF 'laws.FnExactValidState'. -/
def fnExactValidStateUptoCard : Claim7 := { stood := { row := fnExactValidStateUptoRow, standIns := [], harness := (true, "8a811ad031ae183d72133e4eba2eee6edf8d18d78ac750ab197b3e134dc682e2"), looks := false }, kinds := [], alts := [], laidByText := true, laidKinds := [.data, .pinned], laidTests := true, laidLooks := .later }
def FnExactValidStateUptoCardSaid : Prop := Claim7.holds Tryd.pinned (.plain (OpenSpec.upto fnExactValidStateSpec)) fnExactValidStateUptoCard
end Rows
end Go.Proofs.YtieofdbdkpdlcaaDoor
