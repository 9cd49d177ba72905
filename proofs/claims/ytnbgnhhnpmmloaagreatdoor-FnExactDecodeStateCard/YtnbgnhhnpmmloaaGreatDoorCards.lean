/-
  DERIVED. GIVEN WITH THE SEED: THE CARDS: each row of YtnbgnhhnpmmloaaGreatDoorRows.lean that lists a variable, with what it lists TIED to the program's text (the seventh form; the later family's looks); each row that meets fmt, with fmt's text TOLD by the authors' own Lean function (tested against real Go, not proved from fmt's source: count such statements apart). THE CARD IS WHAT COUNTS. Prove the row's statement (the work); the ties are given (YtnbgnhhnpmmloaaGreatDoorTie.lean); close each card by the builder's one call (the guide's Derived/Test/ToyasCard.lean, 'card_holds'). Laid BY PROGRAM, IN A SANDBOX (cutbox-door.mjs). By AI agents, Wed Nov 11 2026. No macro, syntax, notation, axiom, sorry.
-/
import Derived.Test.YtnbgnhhnpmmloaaGreatDoorRows
import GoSem.ClaimSeven
namespace Go.Proofs.YtnbgnhhnpmmloaaGreatDoor
namespace Rows

/-- THE TIED CARD OF 'laws.FnExactDecodeState'. -/
def fnExactDecodeStateCard : Claim7 := { stood := { row := fnExactDecodeStateRow, standIns := [], harness := (true, "2d55d17264fb34dbba7b5bb2da5f0cca1be9732555f4e0e2fbeb45c745853bcb"), looks := false }, kinds := [], alts := [], laidByText := true, laidKinds := [.data, .pinned], laidTests := true, laidLooks := .later }
def FnExactDecodeStateCardSaid : Prop := Claim7.holds Tryz.pinned (.plain (OpenSpec.ofChange fnExactDecodeStateSpec)) fnExactDecodeStateCard

/-- THE TIED CARD OF 'laws.FnExactEncodeState'. -/
def fnExactEncodeStateCard : Claim7 := { stood := { row := fnExactEncodeStateRow, standIns := [], harness := (true, "2d55d17264fb34dbba7b5bb2da5f0cca1be9732555f4e0e2fbeb45c745853bcb"), looks := false }, kinds := [], alts := [], laidByText := true, laidKinds := [.data, .pinned], laidTests := true, laidLooks := .later }
def FnExactEncodeStateCardSaid : Prop := Claim7.holds Tryz.pinned (.plain (OpenSpec.ofChange fnExactEncodeStateSpec)) fnExactEncodeStateCard

/-- THE TIED CARD OF 'laws.FnCodec'. -/
def fnCodecCard : Claim7 := { stood := { row := fnCodecRow, standIns := [], harness := (true, "2d55d17264fb34dbba7b5bb2da5f0cca1be9732555f4e0e2fbeb45c745853bcb"), looks := false }, kinds := [], alts := [], laidByText := true, laidKinds := [.data, .wider, .pinned], laidTests := true, laidLooks := .later }
def FnCodecCardSaid : Prop := Claim7.holds Tryz.pinned (.plain (OpenSpec.ofChange fnCodecSpec)) fnCodecCard

/-- THE SECOND FORM's CARD OF 'laws.FnExactDecodeState'. -/
def fnExactDecodeStateUptoCard : Claim7 := { stood := { row := fnExactDecodeStateUptoRow, standIns := [], harness := (true, "2d55d17264fb34dbba7b5bb2da5f0cca1be9732555f4e0e2fbeb45c745853bcb"), looks := false }, kinds := [], alts := [], laidByText := true, laidKinds := [.data, .pinned], laidTests := true, laidLooks := .later }
def FnExactDecodeStateUptoCardSaid : Prop := Claim7.holds Tryz.pinned (.plain (OpenSpec.upto fnExactDecodeStateSpec)) fnExactDecodeStateUptoCard

/-- THE SECOND FORM's CARD OF 'laws.FnExactEncodeState'. -/
def fnExactEncodeStateUptoCard : Claim7 := { stood := { row := fnExactEncodeStateUptoRow, standIns := [], harness := (true, "2d55d17264fb34dbba7b5bb2da5f0cca1be9732555f4e0e2fbeb45c745853bcb"), looks := false }, kinds := [], alts := [], laidByText := true, laidKinds := [.data, .pinned], laidTests := true, laidLooks := .later }
def FnExactEncodeStateUptoCardSaid : Prop := Claim7.holds Tryz.pinned (.plain (OpenSpec.upto fnExactEncodeStateSpec)) fnExactEncodeStateUptoCard

/-- THE SECOND FORM's CARD OF 'laws.FnCodec'. -/
def fnCodecUptoCard : Claim7 := { stood := { row := fnCodecUptoRow, standIns := [], harness := (true, "2d55d17264fb34dbba7b5bb2da5f0cca1be9732555f4e0e2fbeb45c745853bcb"), looks := false }, kinds := [], alts := [], laidByText := true, laidKinds := [.data, .wider, .pinned], laidTests := true, laidLooks := .later }
def FnCodecUptoCardSaid : Prop := Claim7.holds Tryz.pinned (.plain (OpenSpec.upto fnCodecSpec)) fnCodecUptoCard
end Rows
end Go.Proofs.YtnbgnhhnpmmloaaGreatDoor
