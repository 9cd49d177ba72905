import Derived.Test.YtkakbcaiplggiaaGreatDoorK0
import Derived.Shelf.Sort.Plain
import Derived.Shelf.Slices.In.SortNone
namespace Go.Proofs
set_option linter.all false
open Go.Shelf
def Tryz.lays190_ren:Go.Shelf.Ren:=⟨λ|190=>207|125=>228|258=>230|128=>246|129=>247|302=>248|303=>249|304=>250|305=>251|306=>252|307=>253|308=>254|309=>255|310=>256|333=>263|329=>259|330=>260|334=>264|335=>265|336=>266|344=>271|n=>n,λ|31=>146|9=>9|3=>3|46=>157|0=>0|51=>168|53=>31|4=>4|183=>288|182=>287|131=>292|5=>5|218=>303|222=>306|228=>311|229=>115|n=>n,λ|n=>n⟩
def Tryz.lays190:Go.Proofs.Lays.n190 Tryz.prog Tryz.lays190_ren:={
  mixed:=by kernel_rfl
  f125:=Tryz.func228.trans (congrArg some (by kernel_rfl))
  f128:=Tryz.func246.trans (congrArg some (by kernel_rfl))
  f129:=Tryz.func247.trans (congrArg some (by kernel_rfl))
  f190:=Tryz.func207.trans (congrArg some (by kernel_rfl))
  f258:=Tryz.func230.trans (congrArg some (by kernel_rfl))
  f302:=Tryz.func248.trans (congrArg some (by kernel_rfl))
  f303:=Tryz.func249.trans (congrArg some (by kernel_rfl))
  f304:=Tryz.func250.trans (congrArg some (by kernel_rfl))
  f305:=Tryz.func251.trans (congrArg some (by kernel_rfl))
  f306:=Tryz.func252.trans (congrArg some (by kernel_rfl))
  f307:=Tryz.func253.trans (congrArg some (by kernel_rfl))
  f308:=Tryz.func254.trans (congrArg some (by kernel_rfl))
  f309:=Tryz.func255.trans (congrArg some (by kernel_rfl))
  f310:=Tryz.func256.trans (congrArg some (by kernel_rfl))
  f329:=Tryz.func259.trans (congrArg some (by kernel_rfl))
  f330:=Tryz.func260.trans (congrArg some (by kernel_rfl))
  f333:=Tryz.func263.trans (congrArg some (by kernel_rfl))
  f334:=Tryz.func264.trans (congrArg some (by kernel_rfl))
  f335:=Tryz.func265.trans (congrArg some (by kernel_rfl))
  f336:=Tryz.func266.trans (congrArg some (by kernel_rfl))
  f344:=Tryz.func271.trans (congrArg some (by kernel_rfl))
  t0:=Tryz.underlying0
  a0:=Tryz.isAgg0
  z0:=Tryz.sizeOf0
  v0:=Tryz.zeroValue0
  t3:=Tryz.underlying3
  a3:=Tryz.isAgg3
  z3:=Tryz.sizeOf3
  v3:=Tryz.zeroValue3
  t4:=Tryz.underlying4
  a4:=Tryz.isAgg4
  z4:=Tryz.sizeOf4
  v4:=Tryz.zeroValue4
  t5:=Tryz.underlying5
  a5:=Tryz.isAgg5
  z5:=Tryz.sizeOf5
  v5:=Tryz.zeroValue5
  t9:=Tryz.underlying9
  a9:=Tryz.isAgg9
  z9:=Tryz.sizeOf9
  v9:=Tryz.zeroValue9
  t31:=Tryz.underlying146
  a31:=Tryz.isAgg146
  z31:=Tryz.sizeOf146
  v31:=Tryz.zeroValue146
  t46:=Tryz.underlying157
  a46:=Tryz.isAgg157
  z46:=Tryz.sizeOf157
  v46:=Tryz.zeroValue157
  t51:=Tryz.underlying168
  a51:=Tryz.isAgg168
  z51:=Tryz.sizeOf168
  v51:=Tryz.zeroValue168
  t53:=Tryz.underlying31
  a53:=Tryz.isAgg31
  z53:=Tryz.sizeOf31
  v53:=Tryz.zeroValue31
  t131:=Tryz.underlying292
  a131:=Tryz.isAgg292
  z131:=Tryz.sizeOf292
  v131:=Tryz.zeroValue292
  t182:=Tryz.underlying287
  a182:=Tryz.isAgg287
  z182:=Tryz.sizeOf287
  v182:=Tryz.zeroValue287
  t183:=Tryz.underlying288
  a183:=Tryz.isAgg288
  z183:=Tryz.sizeOf288
  v183:=Tryz.zeroValue288
  t218:=Tryz.underlying303
  a218:=Tryz.isAgg303
  z218:=Tryz.sizeOf303
  v218:=Tryz.zeroValue303
  t222:=Tryz.underlying306
  a222:=Tryz.isAgg306
  z222:=Tryz.sizeOf306
  v222:=Tryz.zeroValue306
  t228:=Tryz.underlying311
  a228:=Tryz.isAgg311
  z228:=Tryz.sizeOf311
  v228:=Tryz.zeroValue311
  t229:=Tryz.underlying115
  a229:=Tryz.isAgg115
  z229:=Tryz.sizeOf115
  v229:=Tryz.zeroValue115}
open Go.Sort Go.RowKit in
def Tryz.slices_Sort_string(blk off cap:Nat)(ss:List (List UInt8))(w:World)(hH:Holds encStr w blk off ss.toArray)(jB:blk<w.heap.size)(jI:ss.length<4611686018427387904):Calls Tryz.prog 207 #[.S (some ⟨blk,off,none⟩) ss.length cap] w λe w'=>
      e=.returned (.tuple #[])/\∃n os,w'=grow (putRow encStr (Sort.ahead w n) blk off (ss.mergeSort λx y=>decide (x<=y)).toArray) os:=Any.slices_Sort_string Tryz.lays190 blk off cap ss w hH jB jI
open Go.RowKit Go.Sort in
def Tryz.slices_Sort_string_none(p:Option Addr)(cap:Nat)(w:World):Calls Tryz.prog 207 #[.S p 0 cap] w λe w'=>e=.returned (.tuple #[])/\w'=w:=Any.slices_Sort_string_none Tryz.lays190 p cap w
end Go.Proofs
