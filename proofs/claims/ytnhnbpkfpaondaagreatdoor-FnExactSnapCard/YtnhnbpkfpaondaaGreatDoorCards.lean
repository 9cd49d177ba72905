/-
  DERIVED. GIVEN WITH THE SEED: THE CARDS: each row of YtnhnbpkfpaondaaGreatDoorRows.lean that lists a variable, with what it lists TIED to the program's text (the seventh form; the later family's looks); each row that meets fmt, with fmt's text TOLD by the authors' own Lean function (tested against real Go, not proved from fmt's source: count such statements apart). THE CARD IS WHAT COUNTS. Prove the row's statement (the work); the ties are given (YtnhnbpkfpaondaaGreatDoorTie.lean); close each card by the builder's one call (the guide's Derived/Test/ToyasCard.lean, 'card_holds'). Laid BY PROGRAM, IN A SANDBOX (cutbox-door.mjs). By AI agents, Wed Nov 11 2026. No macro, syntax, notation, axiom, sorry.
-/
import Derived.Test.YtnhnbpkfpaondaaGreatDoorRows
import GoSem.ClaimSeven
namespace Go.Proofs.YtnhnbpkfpaondaaGreatDoor
namespace Rows

/-- THE TIED CARD OF 'laws.FnExactSnap'. -/
def fnExactSnapCard : Claim7 := { stood := { row := fnExactSnapRow, standIns := [], harness := (true, "229cdc4a5343a0ae25cb909e7b336dd7a41d62c8b78cc9c4486f0657abcff162"), looks := false }, kinds := [], alts := [], laidByText := true, laidKinds := [.data, .wider, .pinned], laidTests := true, laidLooks := .later }
def FnExactSnapCardSaid : Prop := Claim7.holds Tryz.pinned (.plain (OpenSpec.ofChange fnExactSnapSpec)) fnExactSnapCard

/-- THE SECOND FORM's CARD OF 'laws.FnExactSnap'. -/
def fnExactSnapUptoCard : Claim7 := { stood := { row := fnExactSnapUptoRow, standIns := [], harness := (true, "229cdc4a5343a0ae25cb909e7b336dd7a41d62c8b78cc9c4486f0657abcff162"), looks := false }, kinds := [], alts := [], laidByText := true, laidKinds := [.data, .wider, .pinned], laidTests := true, laidLooks := .later }
def FnExactSnapUptoCardSaid : Prop := Claim7.holds Tryz.pinned (.plain (OpenSpec.upto fnExactSnapSpec)) fnExactSnapUptoCard
end Rows
end Go.Proofs.YtnhnbpkfpaondaaGreatDoor
