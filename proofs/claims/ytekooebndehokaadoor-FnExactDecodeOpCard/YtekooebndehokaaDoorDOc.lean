import Derived.Test.YtekooebndehokaaDoorDOr
import Derived.Test.YtekooebndehokaaDoorCards
import Derived.Test.YtekooebndehokaaDoorTie
import Derived.SevenTiedAt
namespace Go.Proofs.YtekooebndehokaaDoor
open Go
theorem fnExactDecodeOpCard_holds : Rows.FnExactDecodeOpCardSaid :=
  Claim7.holds_tied_plain_at .later [] [.wider] true (true, "8a811ad031ae183d72133e4eba2eee6edf8d18d78ac750ab197b3e134dc682e2") false dopRow.over (fun _ h => by cases h) (by kernel_rfl) (fun _ h => by cases h) fnExactDecodeOp_row_tie rfl ⟨rfl, rfl⟩ (by kernel_rfl) rfl
    (fun f fn hf hfn => by
      obtain rfl : f = 5 := Option.some.inj ((show Tryd.prog.funcNamed "loop.example/s02132/laws.FnExactDecodeOp" = some 5 by kernel_rfl).symm.trans hf) |>.symm
      obtain rfl : fn = Tryd.f5 := (Option.some.inj (Tryd.func5.symm.trans hfn)).symm
      exact ⟨by kernel_rfl, fun j t ht => by
        rw [Tryd.params5] at ht
        have hm : t ∈ [22] := by simpa using Array.mem_of_getElem? ht
        have hall : ([22].all fun u => !Tryd.prog.wantsStandIn u) = true := by kernel_rfl
        exact (show Tryd.prog.wantsStandIn t = false by simpa using List.all_eq_true.1 hall t hm)⟩)
    (by kernel_rfl)
end Go.Proofs.YtekooebndehokaaDoor
