import Derived.Test.YtjjnidignljppaaGreatDoorK1
import Derived.Test.YtjjnidignljppaaGreatDoorGC
namespace Go.Proofs.YtjjnidignljppaaGreatDoor
set_option linter.all false
set_option maxRecDepth 100000
open Go.ChangeShapes Go.WideShapes Go.ChangeAt Go.RowKit
abbrev ya(k s:Int)(P:Value)(f:Int)(V:Value)(e g:Int):Value:=.agg #[.I k,.U s,P,.I f,V,.U e,.U g]
abbrev rW(w:World)(b:Nat)(v0 v1 v2 v3 v4 v5 v6:Value):Prop:=w.cell? ⟨b,0,none⟩=some v0/\w.cell? ⟨b,1,none⟩=some v1/\w.cell? ⟨b,2,none⟩=some v2/\w.cell? ⟨b,3,none⟩=some v3/\w.cell? ⟨b,4,none⟩=some v4/\w.cell? ⟨b,5,none⟩=some v5/\w.cell? ⟨b,6,none⟩=some v6
def rW.below{w w':World}{b:Nat}{v0 v1 v2 v3 v4 v5 v6:Value}(h:rW w b v0 v1 v2 v3 v4 v5 v6)(hb:Bw w w'):rW w' b v0 v1 v2 v3 v4 v5 v6:=
 ⟨ag h.1 hb,ag h.2.1 hb,ag h.2.2.1 hb,ag h.2.2.2.1 hb,ag h.2.2.2.2.1 hb,ag h.2.2.2.2.2.1 hb,ag h.2.2.2.2.2.2 hb⟩
def cG{w w':World}{b:Nat}(h:∀o,w.frozen? ⟨b,o,none⟩=false)(hl:b<w.heap.size)(hb:Bw w w'):∀o,w'.frozen? ⟨b,o,none⟩=false:=fun o=>(hb.frozen (p:=⟨b,o,none⟩) hl).trans (h o)
end Go.Proofs.YtjjnidignljppaaGreatDoor
