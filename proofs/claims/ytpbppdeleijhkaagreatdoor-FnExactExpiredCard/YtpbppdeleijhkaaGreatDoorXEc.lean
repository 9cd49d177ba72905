import Derived.Test.YtpbppdeleijhkaaGreatDoorXEr
import Derived.Test.YtpbppdeleijhkaaGreatDoorCards
import Derived.Test.YtpbppdeleijhkaaGreatDoorTie
import Derived.SevenTiedAt
namespace Go.Proofs.YtpbppdeleijhkaaGreatDoor
open Go
theorem fnExactExpiredCard_holds : Rows.FnExactExpiredCardSaid :=
  Claim7.holds_tied_plain_at .later [] [.data, .pinned] true (true, "d1dfce70a16f41b742a2d6eec2bf897ae6988893e1d53c1ab73965493fc1e728") false xeRow.over (fun _ h => by cases h) (by kernel_rfl) (fun _ h => by cases h) fnExactExpired_row_tie rfl ⟨rfl, rfl⟩ (by kernel_rfl) rfl
    (fun f fn hf hfn => by
      obtain rfl : f = 4 := Option.some.inj ((show Tryz.prog.funcNamed "loop.example/s02132/laws.FnExactExpired" = some 4 by kernel_rfl).symm.trans hf) |>.symm
      obtain rfl : fn = Tryz.f4 := (Option.some.inj (Tryz.func4.symm.trans hfn)).symm
      exact ⟨by kernel_rfl, fun j t ht => by
        rw [Tryz.params4] at ht
        have hm : t ∈ [39] := by simpa using Array.mem_of_getElem? ht
        have hall : ([39].all fun u => !Tryz.prog.wantsStandIn u) = true := by kernel_rfl
        exact (show Tryz.prog.wantsStandIn t = false by simpa using List.all_eq_true.1 hall t hm)⟩)
    (by kernel_rfl)
end Go.Proofs.YtpbppdeleijhkaaGreatDoor
