/-
  DERIVED. GIVEN WITH THE SEED: THE CARDS: each row of YtmfjiolopcbcmaaGreatDoorRows.lean that lists a variable, with what it lists TIED to the program's text (the seventh form; the later family's looks); each row that meets fmt, with fmt's text TOLD by the authors' own Lean function (tested against real Go, not proved from fmt's source: count such statements apart). THE CARD IS WHAT COUNTS. Prove the row's statement (the work); the ties are given (YtmfjiolopcbcmaaGreatDoorTie.lean); close each card by the builder's one call (the guide's Derived/Test/ToyasCard.lean, 'card_holds'). Laid BY PROGRAM, IN A SANDBOX (cutbox-door.mjs). By AI agents, Wed Nov 11 2026. No macro, syntax, notation, axiom, sorry.
-/
import Derived.Test.YtmfjiolopcbcmaaGreatDoorRows
import GoSem.ClaimSeven
namespace Go.Proofs.YtmfjiolopcbcmaaGreatDoor
namespace Rows

/-- THE TIED CARD OF 'laws.FnExactApply'. -/
def fnExactApplyCard : Claim7 := { stood := { row := fnExactApplyRow, standIns := [], harness := (true, "1ef53139ffe704d1ea83229d0611c0464d19c3071c43ed8238e97a5aebdad06a"), looks := true }, kinds := [], alts := [], laidByText := true, laidKinds := [.data, .handle, .wider, .pinned], laidTests := true, laidLooks := .later }
def FnExactApplyCardSaid : Prop := Claim7.holds Tryz.pinned (.plain (OpenSpec.ofChange fnExactApplySpec)) fnExactApplyCard

/-- THE SECOND FORM's CARD OF 'laws.FnExactApply'. -/
def fnExactApplyUptoCard : Claim7 := { stood := { row := fnExactApplyUptoRow, standIns := [], harness := (true, "1ef53139ffe704d1ea83229d0611c0464d19c3071c43ed8238e97a5aebdad06a"), looks := true }, kinds := [], alts := [], laidByText := true, laidKinds := [.data, .handle, .wider, .pinned], laidTests := true, laidLooks := .later }
def FnExactApplyUptoCardSaid : Prop := Claim7.holds Tryz.pinned (.plain (OpenSpec.upto fnExactApplySpec)) fnExactApplyUptoCard
end Rows
end Go.Proofs.YtmfjiolopcbcmaaGreatDoor
