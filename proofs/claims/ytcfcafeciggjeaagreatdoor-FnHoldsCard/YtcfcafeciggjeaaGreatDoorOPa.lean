import Derived.Test.YtcfcafeciggjeaaGreatDoorK1
import Derived.Test.YtcfcafeciggjeaaGreatDoorGC
namespace Go.Proofs.YtcfcafeciggjeaaGreatDoor
set_option linter.all false
set_option maxRecDepth 100000
open Go.ChangeShapes Go.WideShapes Go.ChangeAt Go.RowKit
abbrev X5 (k s:Int) (P:Value) (f:Int) (V:Value) (e g:Int):Value:=.agg #[.I k,.U s,P,.I f,V,.U e,.U g]
abbrev S6 (w:World) (b:Nat) (v0 v1 v2 v3 v4 v5 v6:Value):Prop:=w.cell? ⟨b,0,none⟩=some v0/\w.cell? ⟨b,1,none⟩=some v1/\w.cell? ⟨b,2,none⟩=some v2/\w.cell? ⟨b,3,none⟩=some v3/\w.cell? ⟨b,4,none⟩=some v4/\w.cell? ⟨b,5,none⟩=some v5/\w.cell? ⟨b,6,none⟩=some v6
theorem S6.below {w w':World} {b:Nat} {v0 v1 v2 v3 v4 v5 v6:Value} (h:S6 w b v0 v1 v2 v3 v4 v5 v6) (hb:Bw w w'):S6 w' b v0 v1 v2 v3 v4 v5 v6:=
 ⟨af h.1 hb,af h.2.1 hb,af h.2.2.1 hb,af h.2.2.2.1 hb,af h.2.2.2.2.1 hb,af h.2.2.2.2.2.1 hb,af h.2.2.2.2.2.2 hb⟩
end Go.Proofs.YtcfcafeciggjeaaGreatDoor
