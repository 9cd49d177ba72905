import Derived.Test.YtpbppdeleijhkaaGreatDoorK52
import Derived.Test.YtpbppdeleijhkaaGreatDoorCards
import Derived.Test.YtpbppdeleijhkaaGreatDoorTie
import Derived.SevenTiedAt
namespace Go.Proofs.YtpbppdeleijhkaaGreatDoor
open Go
theorem fnExactAdvanceCard_holds : Rows.FnExactAdvanceCardSaid :=
 Claim7.holds_tied_plain_at .later [] [.data, .pinned] true (true, "d1dfce70a16f41b742a2d6eec2bf897ae6988893e1d53c1ab73965493fc1e728") false xaRow.over (fun _ h => by cases h) (by kernel_rfl) (fun _ h => by cases h) fnExactAdvance_row_tie rfl ⟨rfl, rfl⟩ (by kernel_rfl) rfl
  (fun f fn hf hfn => by
   obtain rfl : f = 6 := Option.some.inj ((show Tryz.prog.funcNamed "loop.example/s02132/laws.FnExactAdvance" = some 6 by kernel_rfl).symm.trans hf) |>.symm
   obtain rfl : fn = Tryz.f6 := (Option.some.inj (Tryz.func6.symm.trans hfn)).symm
   exact ⟨by kernel_rfl, fun j t ht => by
    rw [Tryz.params6] at ht
    have hm : t ∈ [39, 3] := by simpa using Array.mem_of_getElem? ht
    have hall : ([39, 3].all fun u => !Tryz.prog.wantsStandIn u) = true := by kernel_rfl
    exact (show Tryz.prog.wantsStandIn t = false by simpa using List.all_eq_true.1 hall t hm)⟩)
  (by kernel_rfl)
end Go.Proofs.YtpbppdeleijhkaaGreatDoor
