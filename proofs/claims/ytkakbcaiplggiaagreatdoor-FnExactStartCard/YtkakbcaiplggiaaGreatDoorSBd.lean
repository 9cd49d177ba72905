import Derived.Test.YtkakbcaiplggiaaGreatDoorK17
import Derived.Test.YtkakbcaiplggiaaGreatDoorCards
import Derived.Test.YtkakbcaiplggiaaGreatDoorTie
import Derived.SevenTiedAt
namespace Go.Proofs.YtkakbcaiplggiaaGreatDoor
open Go
theorem fnExactStartCard_holds:Rows.FnExactStartCardSaid:=
 Claim7.holds_tied_plain_at .later [] [.data, .wider, .pinned] true (true, "bae83719cc2f4bfb15d547aa1c6e8598a353ec3ff31ab86ef88ca11317565414") false srRow.over (λ_ h=>by cases h) bg (λ_ h=>by cases h) fnExactStart_row_tie rfl ⟨rfl,rfl⟩ bg rfl
  (λf fn hf hfn=>by
   obtain rfl : f = 3:=DZ ((show Tryz.prog.funcNamed "loop.example/s02132/laws.FnExactStart" = some 3 by kernel_rfl).symm.trans hf) |>.symm;obtain rfl:fn=Tryz.f3:=(DZ (Tryz.func3.symm.trans hfn)).symm;exact⟨bg,λj t ht=>by
    rw[Tryz.params3]at ht;have hm:t∈[26,3,3]:=by simpa using ac4 ht
    have MU:([26,3,3].all λu=>!Tryz.prog.wantsStandIn u)=true:=bg;exact(show Tryz.prog.wantsStandIn t=false by simpa using jy.1 MU t hm)⟩)
  bg
end Go.Proofs.YtkakbcaiplggiaaGreatDoor
