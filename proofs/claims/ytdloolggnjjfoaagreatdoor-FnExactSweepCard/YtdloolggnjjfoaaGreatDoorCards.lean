/-
  DERIVED. GIVEN WITH THE SEED: THE CARDS: each row of YtdloolggnjjfoaaGreatDoorRows.lean that lists a variable, with what it lists TIED to the program's text (the seventh form; the later family's looks); each row that meets fmt, with fmt's text TOLD by the authors' own Lean function (tested against real Go, not proved from fmt's source: count such statements apart). THE CARD IS WHAT COUNTS. Prove the row's statement (the work); the ties are given (YtdloolggnjjfoaaGreatDoorTie.lean); close each card by the builder's one call (the guide's Derived/Test/ToyasCard.lean, 'card_holds'). Laid BY PROGRAM, IN A SANDBOX (cutbox-door.mjs). By AI agents, Wed Nov 11 2026. No macro, syntax, notation, axiom, sorry.
-/
import Derived.Test.YtdloolggnjjfoaaGreatDoorRows
import GoSem.ClaimSeven
namespace Go.Proofs.YtdloolggnjjfoaaGreatDoor
namespace Rows

/-- THE TIED CARD OF 'laws.FnExactSweep'. -/
def fnExactSweepCard : Claim7 := { stood := { row := fnExactSweepRow, standIns := [], harness := (true, "8aa34d43f87bcd0099b2e5df630fb71638bc32da65683fa9f16f8b5d765088db"), looks := true }, kinds := [], alts := [], laidByText := true, laidKinds := [.data, .handle, .wider, .pinned], laidTests := true, laidLooks := .later }
def FnExactSweepCardSaid : Prop := Claim7.holds Tryz.pinned (.plain (OpenSpec.ofChange fnExactSweepSpec)) fnExactSweepCard

/-- THE SECOND FORM's CARD OF 'laws.FnExactSweep'. -/
def fnExactSweepUptoCard : Claim7 := { stood := { row := fnExactSweepUptoRow, standIns := [], harness := (true, "8aa34d43f87bcd0099b2e5df630fb71638bc32da65683fa9f16f8b5d765088db"), looks := true }, kinds := [], alts := [], laidByText := true, laidKinds := [.data, .handle, .wider, .pinned], laidTests := true, laidLooks := .later }
def FnExactSweepUptoCardSaid : Prop := Claim7.holds Tryz.pinned (.plain (OpenSpec.upto fnExactSweepSpec)) fnExactSweepUptoCard
end Rows
end Go.Proofs.YtdloolggnjjfoaaGreatDoor
