import Derived.Test.YtekooebndehokaaDoorOPr
import Derived.Test.YtekooebndehokaaDoorCards
import Derived.Test.YtekooebndehokaaDoorTie
import Derived.SevenTiedAt
namespace Go.Proofs.YtekooebndehokaaDoor
open Go
theorem fnExactEncodeOpCard_holds : Rows.FnExactEncodeOpCardSaid :=
  Claim7.holds_tied_plain_at .later [] [.wider] true (true, "8a811ad031ae183d72133e4eba2eee6edf8d18d78ac750ab197b3e134dc682e2") false eopRow.over (fun _ h => by cases h) (by kernel_rfl) (fun _ h => by cases h) fnExactEncodeOp_row_tie rfl ⟨rfl, rfl⟩ (by kernel_rfl) rfl
    (fun f fn hf hfn => by
      obtain rfl : f = 4 := Option.some.inj ((show Tryd.prog.funcNamed "loop.example/s02132/laws.FnExactEncodeOp" = some 4 by kernel_rfl).symm.trans hf) |>.symm
      obtain rfl : fn = Tryd.f4 := (Option.some.inj (Tryd.func4.symm.trans hfn)).symm
      exact ⟨by kernel_rfl, fun j t ht => by
        rw [Tryd.params4] at ht
        have hm : t ∈ [28] := by simpa using Array.mem_of_getElem? ht
        have hall : ([28].all fun u => !Tryd.prog.wantsStandIn u) = true := by kernel_rfl
        exact (show Tryd.prog.wantsStandIn t = false by simpa using List.all_eq_true.1 hall t hm)⟩)
    (by kernel_rfl)
end Go.Proofs.YtekooebndehokaaDoor
