/-
  DERIVED. GIVEN WITH THE SEED: THE CARDS: each row of YtlkhghcffhckmaaDoorRows.lean that lists a variable, with what it lists TIED to the program's text (the seventh form; the later family's looks); each row that meets fmt, with fmt's text TOLD by the authors' own Lean function (tested against real Go, not proved from fmt's source: count such statements apart). THE CARD IS WHAT COUNTS. Prove the row's statement (the work); the ties are given (YtlkhghcffhckmaaDoorTie.lean); close each card by the builder's one call (the guide's Derived/Test/ToyasCard.lean, 'card_holds'). Laid BY PROGRAM, IN A SANDBOX (cutbox-door.mjs). By AI agents, Wed Nov 11 2026. No macro, syntax, notation, axiom, sorry.
-/
import Derived.Test.YtlkhghcffhckmaaDoorRows
import GoSem.ClaimSeven
namespace Go.Proofs.YtlkhghcffhckmaaDoor
namespace Rows

/-- THE TIED CARD OF 'laws.FnExactParseCommand'. -/
def fnExactParseCommandCard : Claim7 := { stood := { row := fnExactParseCommandRow, standIns := [], harness := (true, "ba355d3aa0dfce98dc4a1e64ad54e8a774dfa65e66fc14515c2868b071832193"), looks := true }, kinds := [], alts := [], laidByText := true, laidKinds := [.data, .data, .data, .sentinel, .sentinel, .listed, .data], laidTests := true, laidLooks := .later }
def FnExactParseCommandCardSaid : Prop := Claim7.holds Tryd.pinned (.plain (OpenSpec.ofChange fnExactParseCommandSpec)) fnExactParseCommandCard

/-- THE SECOND FORM's CARD OF 'laws.FnExactParseCommand'. -/
def fnExactParseCommandUptoCard : Claim7 := { stood := { row := fnExactParseCommandUptoRow, standIns := [], harness := (true, "ba355d3aa0dfce98dc4a1e64ad54e8a774dfa65e66fc14515c2868b071832193"), looks := true }, kinds := [], alts := [], laidByText := true, laidKinds := [.data, .data, .data, .sentinel, .sentinel, .listed, .data], laidTests := true, laidLooks := .later }
def FnExactParseCommandUptoCardSaid : Prop := Claim7.holds Tryd.pinned (.plain (OpenSpec.upto fnExactParseCommandSpec)) fnExactParseCommandUptoCard
end Rows
end Go.Proofs.YtlkhghcffhckmaaDoor
