/-
  DERIVED. GIVEN WITH THE SEED: THE CARDS: each row of YtcfcafeciggjeaaGreatDoorRows.lean that lists a variable, with what it lists TIED to the program's text (the seventh form; the later family's looks); each row that meets fmt, with fmt's text TOLD by the authors' own Lean function (tested against real Go, not proved from fmt's source: count such statements apart). THE CARD IS WHAT COUNTS. Prove the row's statement (the work); the ties are given (YtcfcafeciggjeaaGreatDoorTie.lean); close each card by the builder's one call (the guide's Derived/Test/ToyasCard.lean, 'card_holds'). Laid BY PROGRAM, IN A SANDBOX (cutbox-door.mjs). By AI agents, Wed Nov 11 2026. No macro, syntax, notation, axiom, sorry.
-/
import Derived.Test.YtcfcafeciggjeaaGreatDoorRows
import GoSem.ClaimSeven
namespace Go.Proofs.YtcfcafeciggjeaaGreatDoor
namespace Rows

/-- THE TIED CARD OF 'laws.FnClose'. -/
def fnCloseCard : Claim7 := { stood := { row := fnCloseRow, standIns := [], harness := (true, "fa67b5837ebbd862b9b9509ed2fc638b2901d9d5d3a20c037885861d5b5cbcae"), looks := true }, kinds := [], alts := [], laidByText := true, laidKinds := [.data, .handle, .wider, .pinned], laidTests := true, laidLooks := .later }
def FnCloseCardSaid : Prop := Claim7.holds Tryz.pinned (.plain (OpenSpec.ofChange fnCloseSpec)) fnCloseCard

/-- THE TIED CARD OF 'laws.FnHolds'. -/
def fnHoldsCard : Claim7 := { stood := { row := fnHoldsRow, standIns := [], harness := (true, "fa67b5837ebbd862b9b9509ed2fc638b2901d9d5d3a20c037885861d5b5cbcae"), looks := true }, kinds := [], alts := [], laidByText := true, laidKinds := [.data, .handle, .wider, .pinned], laidTests := true, laidLooks := .later }
def FnHoldsCardSaid : Prop := Claim7.holds Tryz.pinned (.plain (OpenSpec.ofChange fnHoldsSpec)) fnHoldsCard

/-- THE TIED CARD OF 'laws.FnWatch'. -/
def fnWatchCard : Claim7 := { stood := { row := fnWatchRow, standIns := [], harness := (true, "fa67b5837ebbd862b9b9509ed2fc638b2901d9d5d3a20c037885861d5b5cbcae"), looks := true }, kinds := [], alts := [], laidByText := true, laidKinds := [.data, .handle, .wider, .pinned], laidTests := true, laidLooks := .later }
def FnWatchCardSaid : Prop := Claim7.holds Tryz.pinned (.plain (OpenSpec.ofChange fnWatchSpec)) fnWatchCard

/-- THE TIED CARD OF 'laws.FnApply'. -/
def fnApplyCard : Claim7 := { stood := { row := fnApplyRow, standIns := [], harness := (true, "fa67b5837ebbd862b9b9509ed2fc638b2901d9d5d3a20c037885861d5b5cbcae"), looks := true }, kinds := [], alts := [], laidByText := true, laidKinds := [.data, .handle, .wider, .pinned], laidTests := true, laidLooks := .later }
def FnApplyCardSaid : Prop := Claim7.holds Tryz.pinned (.plain (OpenSpec.ofChange fnApplySpec)) fnApplyCard

/-- THE TIED CARD OF 'laws.FnCodec'. -/
def fnCodecCard : Claim7 := { stood := { row := fnCodecRow, standIns := [], harness := (true, "fa67b5837ebbd862b9b9509ed2fc638b2901d9d5d3a20c037885861d5b5cbcae"), looks := true }, kinds := [], alts := [], laidByText := true, laidKinds := [.data, .wider, .pinned], laidTests := true, laidLooks := .later }
def FnCodecCardSaid : Prop := Claim7.holds Tryz.pinned (.plain (OpenSpec.ofChange fnCodecSpec)) fnCodecCard

/-- THE SECOND FORM's CARD OF 'laws.FnClose'. -/
def fnCloseUptoCard : Claim7 := { stood := { row := fnCloseUptoRow, standIns := [], harness := (true, "fa67b5837ebbd862b9b9509ed2fc638b2901d9d5d3a20c037885861d5b5cbcae"), looks := true }, kinds := [], alts := [], laidByText := true, laidKinds := [.data, .handle, .wider, .pinned], laidTests := true, laidLooks := .later }
def FnCloseUptoCardSaid : Prop := Claim7.holds Tryz.pinned (.plain (OpenSpec.upto fnCloseSpec)) fnCloseUptoCard

/-- THE SECOND FORM's CARD OF 'laws.FnHolds'. -/
def fnHoldsUptoCard : Claim7 := { stood := { row := fnHoldsUptoRow, standIns := [], harness := (true, "fa67b5837ebbd862b9b9509ed2fc638b2901d9d5d3a20c037885861d5b5cbcae"), looks := true }, kinds := [], alts := [], laidByText := true, laidKinds := [.data, .handle, .wider, .pinned], laidTests := true, laidLooks := .later }
def FnHoldsUptoCardSaid : Prop := Claim7.holds Tryz.pinned (.plain (OpenSpec.upto fnHoldsSpec)) fnHoldsUptoCard

/-- THE SECOND FORM's CARD OF 'laws.FnWatch'. -/
def fnWatchUptoCard : Claim7 := { stood := { row := fnWatchUptoRow, standIns := [], harness := (true, "fa67b5837ebbd862b9b9509ed2fc638b2901d9d5d3a20c037885861d5b5cbcae"), looks := true }, kinds := [], alts := [], laidByText := true, laidKinds := [.data, .handle, .wider, .pinned], laidTests := true, laidLooks := .later }
def FnWatchUptoCardSaid : Prop := Claim7.holds Tryz.pinned (.plain (OpenSpec.upto fnWatchSpec)) fnWatchUptoCard

/-- THE SECOND FORM's CARD OF 'laws.FnApply'. -/
def fnApplyUptoCard : Claim7 := { stood := { row := fnApplyUptoRow, standIns := [], harness := (true, "fa67b5837ebbd862b9b9509ed2fc638b2901d9d5d3a20c037885861d5b5cbcae"), looks := true }, kinds := [], alts := [], laidByText := true, laidKinds := [.data, .handle, .wider, .pinned], laidTests := true, laidLooks := .later }
def FnApplyUptoCardSaid : Prop := Claim7.holds Tryz.pinned (.plain (OpenSpec.upto fnApplySpec)) fnApplyUptoCard

/-- THE SECOND FORM's CARD OF 'laws.FnCodec'. -/
def fnCodecUptoCard : Claim7 := { stood := { row := fnCodecUptoRow, standIns := [], harness := (true, "fa67b5837ebbd862b9b9509ed2fc638b2901d9d5d3a20c037885861d5b5cbcae"), looks := true }, kinds := [], alts := [], laidByText := true, laidKinds := [.data, .wider, .pinned], laidTests := true, laidLooks := .later }
def FnCodecUptoCardSaid : Prop := Claim7.holds Tryz.pinned (.plain (OpenSpec.upto fnCodecSpec)) fnCodecUptoCard
end Rows
end Go.Proofs.YtcfcafeciggjeaaGreatDoor
