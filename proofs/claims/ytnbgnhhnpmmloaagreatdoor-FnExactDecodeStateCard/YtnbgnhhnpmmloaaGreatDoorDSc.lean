import Derived.Test.YtnbgnhhnpmmloaaGreatDoorK52
import Derived.Test.YtnbgnhhnpmmloaaGreatDoorCards
import Derived.Test.YtnbgnhhnpmmloaaGreatDoorTie
import Derived.SevenTiedAt
namespace Go.Proofs.YtnbgnhhnpmmloaaGreatDoor
open Go
theorem fnExactDecodeStateCard_holds : Rows.FnExactDecodeStateCardSaid :=
 Claim7.holds_tied_plain_at .later [] [.data, .pinned] true (true, "2d55d17264fb34dbba7b5bb2da5f0cca1be9732555f4e0e2fbeb45c745853bcb") false dsRow.over (fun _ h => by cases h) (by kernel_rfl) (fun _ h => by cases h) fnExactDecodeState_row_tie rfl ⟨rfl, rfl⟩ (by kernel_rfl) rfl
  (fun f fn hf hfn => by
   obtain rfl : f = 3 := Option.some.inj ((show Tryz.prog.funcNamed "loop.example/s02132/laws.FnExactDecodeState" = some 3 by kernel_rfl).symm.trans hf) |>.symm
   obtain rfl : fn = Tryz.f3 := (Option.some.inj (Tryz.func3.symm.trans hfn)).symm
   exact ⟨by kernel_rfl, fun j t ht => by
    rw [Tryz.params3] at ht
    have hm : t ∈ [22] := by simpa using Array.mem_of_getElem? ht
    have hall : ([22].all fun u => !Tryz.prog.wantsStandIn u) = true := by kernel_rfl
    exact (show Tryz.prog.wantsStandIn t = false by simpa using List.all_eq_true.1 hall t hm)⟩)
  (by kernel_rfl)
end Go.Proofs.YtnbgnhhnpmmloaaGreatDoor

