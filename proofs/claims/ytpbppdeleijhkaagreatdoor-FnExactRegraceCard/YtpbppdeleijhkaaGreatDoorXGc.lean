import Derived.Test.YtpbppdeleijhkaaGreatDoorG52
import Derived.Test.YtpbppdeleijhkaaGreatDoorCards
import Derived.Test.YtpbppdeleijhkaaGreatDoorTie
import Derived.SevenTiedAt
namespace Go.Proofs.YtpbppdeleijhkaaGreatDoor
open Go
theorem fnExactRegraceCard_holds : Rows.FnExactRegraceCardSaid :=
 Claim7.holds_tied_plain_at .later [] [.data, .pinned] true (true, "d1dfce70a16f41b742a2d6eec2bf897ae6988893e1d53c1ab73965493fc1e728") false xgRow.over (fun _ h => by cases h) (by kernel_rfl) (fun _ h => by cases h) fnExactRegrace_row_tie rfl ⟨rfl, rfl⟩ (by kernel_rfl) rfl
  (fun f fn hf hfn => by
   obtain rfl : f = 7 := Option.some.inj ((show Tryz.prog.funcNamed "loop.example/s02132/laws.FnExactRegrace" = some 7 by kernel_rfl).symm.trans hf) |>.symm
   obtain rfl : fn = Tryz.f7 := (Option.some.inj (Tryz.func7.symm.trans hfn)).symm
   exact ⟨by kernel_rfl, fun j t ht => by
    rw [Tryz.params7] at ht
    have hm : t ∈ [39, 3] := by simpa using Array.mem_of_getElem? ht
    have hall : ([39, 3].all fun u => !Tryz.prog.wantsStandIn u) = true := by kernel_rfl
    exact (show Tryz.prog.wantsStandIn t = false by simpa using List.all_eq_true.1 hall t hm)⟩)
  (by kernel_rfl)
end Go.Proofs.YtpbppdeleijhkaaGreatDoor
