import Derived.Test.YtjjnidignljppaaGreatDoorK38
import Derived.Test.YtjjnidignljppaaGreatDoorCards
import Derived.Test.YtjjnidignljppaaGreatDoorTie
import Derived.SevenTiedAt
namespace Go.Proofs.YtjjnidignljppaaGreatDoor
open Go
theorem fnExactLoadCard_holds:Rows.FnExactLoadCardSaid:=
 Claim7.holds_tied_plain_at .later [] [.data, .wider, .pinned] true (true, "f46f7366869d772398536edce889c649c4de9defa084b61b0fe1279bfb5cc4f3") false ldRow.over (fun _ h=>by cases h) bg (fun _ h=>by cases h) fnExactLoad_row_tie rfl ⟨rfl,rfl⟩ bg rfl
  (fun f fn hf hfn=>by
   obtain rfl : f = 3:=Cz ((show Tryz.prog.funcNamed "loop.example/s02132/laws.FnExactLoad" = some 3 by kernel_rfl).symm.trans hf) |>.symm;obtain rfl:fn=Tryz.f3:=(Cz (Tryz.func3.symm.trans hfn)).symm;exact⟨bg,fun j t ht=>by
    rw[Tryz.params3]at ht;have hm:t∈[26]:=by simpa using Array.mem_of_getElem? ht
    have Lj:([26].all fun u=>!Tryz.prog.wantsStandIn u)=true:=bg;exact(show Tryz.prog.wantsStandIn t=false by simpa using iT.1 Lj t hm)⟩)
  bg
end Go.Proofs.YtjjnidignljppaaGreatDoor
