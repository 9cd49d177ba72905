import Derived.Test.YtnhnbpkfpaondaaGreatDoorSN8
import Derived.Test.YtnhnbpkfpaondaaGreatDoorCards
import Derived.Test.YtnhnbpkfpaondaaGreatDoorTie
import Derived.SevenTiedAt
namespace Go.Proofs.YtnhnbpkfpaondaaGreatDoor
open Go
theorem fnExactSnapCard_holds:Rows.FnExactSnapCardSaid:=
 Claim7.holds_tied_plain_at .later [] [.data, .wider, .pinned] true (true, "229cdc4a5343a0ae25cb909e7b336dd7a41d62c8b78cc9c4486f0657abcff162") false srRow.over (λ_ h=>by cases h) bg (λ_ h=>by cases h) fnExactSnap_row_tie rfl ⟨rfl,rfl⟩ bg rfl
  (λf fn hf hfn=>by
   obtain rfl : f = 3:=Ji ((show Tryz.prog.funcNamed "loop.example/s02132/laws.FnExactSnap" = some 3 by kernel_rfl).symm.trans hf) |>.symm;obtain rfl:fn=Tryz.f3:=(Ji (Tryz.func3.symm.trans hfn)).symm;exact⟨bg,λj t ht=>by
    rw[Tryz.params3]at ht;have hm:t∈[33,3]:=by simpa using Array.mem_of_getElem? ht
    have as5:([33,3].all λu=>!Tryz.prog.wantsStandIn u)=true:=bg;exact(show Tryz.prog.wantsStandIn t=false by simpa using jw.1 as5 t hm)⟩)
  bg
end Go.Proofs.YtnhnbpkfpaondaaGreatDoor
