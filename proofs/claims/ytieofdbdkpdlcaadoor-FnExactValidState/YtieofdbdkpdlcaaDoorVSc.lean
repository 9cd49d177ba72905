import Derived.Test.YtieofdbdkpdlcaaDoorVSr
import Derived.Test.YtieofdbdkpdlcaaDoorCards
import Derived.Test.YtieofdbdkpdlcaaDoorTie
import Derived.SevenTiedAt
namespace Go.Proofs.YtieofdbdkpdlcaaDoor
open Go
theorem fnExactValidStateCard_holds : Rows.FnExactValidStateCardSaid :=
  Claim7.holds_tied_plain_at .later [] [.data, .pinned] true (true, "8a811ad031ae183d72133e4eba2eee6edf8d18d78ac750ab197b3e134dc682e2") false vsRow.over (fun _ h => by cases h) (by kernel_rfl) (fun _ h => by cases h) fnExactValidState_row_tie rfl ⟨rfl, rfl⟩ (by kernel_rfl) rfl
    (fun f fn hf hfn => by
      obtain rfl : f = 6 := Option.some.inj ((show Tryd.prog.funcNamed "loop.example/s02132/laws.FnExactValidState" = some 6 by kernel_rfl).symm.trans hf) |>.symm
      obtain rfl : fn = Tryd.f6 := (Option.some.inj (Tryd.func6.symm.trans hfn)).symm
      exact ⟨by kernel_rfl, fun j t ht => by
        rw [Tryd.params6] at ht
        have hm : t ∈ [42] := by simpa using Array.mem_of_getElem? ht
        have hall : ([42].all fun u => !Tryd.prog.wantsStandIn u) = true := by kernel_rfl
        exact (show Tryd.prog.wantsStandIn t = false by simpa using List.all_eq_true.1 hall t hm)⟩)
    (by kernel_rfl)
end Go.Proofs.YtieofdbdkpdlcaaDoor
