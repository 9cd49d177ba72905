/-
  DERIVED. GIVEN WITH THE SEED: THE CARDS: each row of YtpbppdeleijhkaaGreatDoorRows.lean that lists a variable, with what it lists TIED to the program's text (the seventh form; the later family's looks); each row that meets fmt, with fmt's text TOLD by the authors' own Lean function (tested against real Go, not proved from fmt's source: count such statements apart). THE CARD IS WHAT COUNTS. Prove the row's statement (the work); the ties are given (YtpbppdeleijhkaaGreatDoorTie.lean); close each card by the builder's one call (the guide's Derived/Test/ToyasCard.lean, 'card_holds'). Laid BY PROGRAM, IN A SANDBOX (cutbox-door.mjs). By AI agents, Wed Nov 11 2026. No macro, syntax, notation, axiom, sorry.
-/
import Derived.Test.YtpbppdeleijhkaaGreatDoorRows
import GoSem.ClaimSeven
namespace Go.Proofs.YtpbppdeleijhkaaGreatDoor
namespace Rows

/-- THE TIED CARD OF 'laws.FnExactDecodeState'. -/
def fnExactDecodeStateCard : Claim7 := { stood := { row := fnExactDecodeStateRow, standIns := [], harness := (true, "d1dfce70a16f41b742a2d6eec2bf897ae6988893e1d53c1ab73965493fc1e728"), looks := false }, kinds := [], alts := [], laidByText := true, laidKinds := [.data, .pinned], laidTests := true, laidLooks := .later }
def FnExactDecodeStateCardSaid : Prop := Claim7.holds Tryz.pinned (.plain (OpenSpec.ofChange fnExactDecodeStateSpec)) fnExactDecodeStateCard

/-- THE TIED CARD OF 'laws.FnExactExpired'. -/
def fnExactExpiredCard : Claim7 := { stood := { row := fnExactExpiredRow, standIns := [], harness := (true, "d1dfce70a16f41b742a2d6eec2bf897ae6988893e1d53c1ab73965493fc1e728"), looks := false }, kinds := [], alts := [], laidByText := true, laidKinds := [.data, .pinned], laidTests := true, laidLooks := .later }
def FnExactExpiredCardSaid : Prop := Claim7.holds Tryz.pinned (.plain (OpenSpec.ofChange fnExactExpiredSpec)) fnExactExpiredCard

/-- THE TIED CARD OF 'laws.FnExactEncodeState'. -/
def fnExactEncodeStateCard : Claim7 := { stood := { row := fnExactEncodeStateRow, standIns := [], harness := (true, "d1dfce70a16f41b742a2d6eec2bf897ae6988893e1d53c1ab73965493fc1e728"), looks := false }, kinds := [], alts := [], laidByText := true, laidKinds := [.data, .pinned], laidTests := true, laidLooks := .later }
def FnExactEncodeStateCardSaid : Prop := Claim7.holds Tryz.pinned (.plain (OpenSpec.ofChange fnExactEncodeStateSpec)) fnExactEncodeStateCard

/-- THE TIED CARD OF 'laws.FnExactAdvance'. -/
def fnExactAdvanceCard : Claim7 := { stood := { row := fnExactAdvanceRow, standIns := [], harness := (true, "d1dfce70a16f41b742a2d6eec2bf897ae6988893e1d53c1ab73965493fc1e728"), looks := false }, kinds := [], alts := [], laidByText := true, laidKinds := [.data, .pinned], laidTests := true, laidLooks := .later }
def FnExactAdvanceCardSaid : Prop := Claim7.holds Tryz.pinned (.plain (OpenSpec.ofChange fnExactAdvanceSpec)) fnExactAdvanceCard

/-- THE TIED CARD OF 'laws.FnExactRegrace'. -/
def fnExactRegraceCard : Claim7 := { stood := { row := fnExactRegraceRow, standIns := [], harness := (true, "d1dfce70a16f41b742a2d6eec2bf897ae6988893e1d53c1ab73965493fc1e728"), looks := false }, kinds := [], alts := [], laidByText := true, laidKinds := [.data, .pinned], laidTests := true, laidLooks := .later }
def FnExactRegraceCardSaid : Prop := Claim7.holds Tryz.pinned (.plain (OpenSpec.ofChange fnExactRegraceSpec)) fnExactRegraceCard

/-- THE TIED CARD OF 'laws.FnCodec'. -/
def fnCodecCard : Claim7 := { stood := { row := fnCodecRow, standIns := [], harness := (true, "d1dfce70a16f41b742a2d6eec2bf897ae6988893e1d53c1ab73965493fc1e728"), looks := false }, kinds := [], alts := [], laidByText := true, laidKinds := [.data, .wider, .pinned], laidTests := true, laidLooks := .later }
def FnCodecCardSaid : Prop := Claim7.holds Tryz.pinned (.plain (OpenSpec.ofChange fnCodecSpec)) fnCodecCard

/-- THE SECOND FORM's CARD OF 'laws.FnExactDecodeState'. -/
def fnExactDecodeStateUptoCard : Claim7 := { stood := { row := fnExactDecodeStateUptoRow, standIns := [], harness := (true, "d1dfce70a16f41b742a2d6eec2bf897ae6988893e1d53c1ab73965493fc1e728"), looks := false }, kinds := [], alts := [], laidByText := true, laidKinds := [.data, .pinned], laidTests := true, laidLooks := .later }
def FnExactDecodeStateUptoCardSaid : Prop := Claim7.holds Tryz.pinned (.plain (OpenSpec.upto fnExactDecodeStateSpec)) fnExactDecodeStateUptoCard

/-- THE SECOND FORM's CARD OF 'laws.FnExactExpired'. -/
def fnExactExpiredUptoCard : Claim7 := { stood := { row := fnExactExpiredUptoRow, standIns := [], harness := (true, "d1dfce70a16f41b742a2d6eec2bf897ae6988893e1d53c1ab73965493fc1e728"), looks := false }, kinds := [], alts := [], laidByText := true, laidKinds := [.data, .pinned], laidTests := true, laidLooks := .later }
def FnExactExpiredUptoCardSaid : Prop := Claim7.holds Tryz.pinned (.plain (OpenSpec.upto fnExactExpiredSpec)) fnExactExpiredUptoCard

/-- THE SECOND FORM's CARD OF 'laws.FnExactEncodeState'. -/
def fnExactEncodeStateUptoCard : Claim7 := { stood := { row := fnExactEncodeStateUptoRow, standIns := [], harness := (true, "d1dfce70a16f41b742a2d6eec2bf897ae6988893e1d53c1ab73965493fc1e728"), looks := false }, kinds := [], alts := [], laidByText := true, laidKinds := [.data, .pinned], laidTests := true, laidLooks := .later }
def FnExactEncodeStateUptoCardSaid : Prop := Claim7.holds Tryz.pinned (.plain (OpenSpec.upto fnExactEncodeStateSpec)) fnExactEncodeStateUptoCard

/-- THE SECOND FORM's CARD OF 'laws.FnExactAdvance'. -/
def fnExactAdvanceUptoCard : Claim7 := { stood := { row := fnExactAdvanceUptoRow, standIns := [], harness := (true, "d1dfce70a16f41b742a2d6eec2bf897ae6988893e1d53c1ab73965493fc1e728"), looks := false }, kinds := [], alts := [], laidByText := true, laidKinds := [.data, .pinned], laidTests := true, laidLooks := .later }
def FnExactAdvanceUptoCardSaid : Prop := Claim7.holds Tryz.pinned (.plain (OpenSpec.upto fnExactAdvanceSpec)) fnExactAdvanceUptoCard

/-- THE SECOND FORM's CARD OF 'laws.FnExactRegrace'. -/
def fnExactRegraceUptoCard : Claim7 := { stood := { row := fnExactRegraceUptoRow, standIns := [], harness := (true, "d1dfce70a16f41b742a2d6eec2bf897ae6988893e1d53c1ab73965493fc1e728"), looks := false }, kinds := [], alts := [], laidByText := true, laidKinds := [.data, .pinned], laidTests := true, laidLooks := .later }
def FnExactRegraceUptoCardSaid : Prop := Claim7.holds Tryz.pinned (.plain (OpenSpec.upto fnExactRegraceSpec)) fnExactRegraceUptoCard

/-- THE SECOND FORM's CARD OF 'laws.FnCodec'. -/
def fnCodecUptoCard : Claim7 := { stood := { row := fnCodecUptoRow, standIns := [], harness := (true, "d1dfce70a16f41b742a2d6eec2bf897ae6988893e1d53c1ab73965493fc1e728"), looks := false }, kinds := [], alts := [], laidByText := true, laidKinds := [.data, .wider, .pinned], laidTests := true, laidLooks := .later }
def FnCodecUptoCardSaid : Prop := Claim7.holds Tryz.pinned (.plain (OpenSpec.upto fnCodecSpec)) fnCodecUptoCard
end Rows
end Go.Proofs.YtpbppdeleijhkaaGreatDoor
