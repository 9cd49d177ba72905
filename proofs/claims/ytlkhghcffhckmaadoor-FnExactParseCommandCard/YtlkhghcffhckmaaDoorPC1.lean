import Derived.Test.YtlkhghcffhckmaaDoorPCz
import Derived.Test.YtlkhghcffhckmaaDoorCards
import Derived.Test.YtlkhghcffhckmaaDoorTie
import Derived.SevenTiedAt
namespace Go.Proofs.YtlkhghcffhckmaaDoor
open Go
theorem fnExactParseCommandCard_holds : Rows.FnExactParseCommandCardSaid :=
 Claim7.holds_tied_plain_at .later [] [.data, .data, .data, .sentinel, .sentinel, .listed, .data] true (true, "ba355d3aa0dfce98dc4a1e64ad54e8a774dfa65e66fc14515c2868b071832193") true pcRow.over (fun _ h => by cases h) (by kernel_rfl) (fun _ h => by cases h) fnExactParseCommand_row_tie rfl ⟨rfl, rfl⟩ (by kernel_rfl) rfl
  (fun f fn hf hfn => by
   obtain rfl : f = 3 := Option.some.inj ((show Tryd.prog.funcNamed "loop.example/s02132/laws.FnExactParseCommand" = some 3 by kernel_rfl).symm.trans hf) |>.symm
   obtain rfl : fn = Tryd.f3 := (Option.some.inj (Tryd.func3.symm.trans hfn)).symm
   exact ⟨by kernel_rfl, fun j t ht => by
    rw [Tryd.params3] at ht
    have hm : t ∈ [22] := by simpa using Array.mem_of_getElem? ht
    have hall : ([22].all fun u => !Tryd.prog.wantsStandIn u) = true := by kernel_rfl
    exact (show Tryd.prog.wantsStandIn t = false by simpa using List.all_eq_true.1 hall t hm)⟩)
  (by kernel_rfl)
end Go.Proofs.YtlkhghcffhckmaaDoor
