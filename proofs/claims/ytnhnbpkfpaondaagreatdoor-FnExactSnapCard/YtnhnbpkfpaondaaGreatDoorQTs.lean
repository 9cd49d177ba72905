import Derived.Test.YtnhnbpkfpaondaaGreatDoorK0
import Derived.Shelf.Sort.Plain
import Derived.Shelf.Slices.In.SortNone
namespace Go.Proofs
set_option linter.all false
open Go.Shelf
def Tryz.lays190_ren:Go.Shelf.Ren:=⟨λ|190=>218|125=>245|258=>247|128=>263|129=>264|302=>265|303=>266|304=>267|305=>268|306=>269|307=>270|308=>271|309=>272|310=>273|333=>284|329=>280|330=>281|334=>285|335=>286|336=>287|344=>296|n=>n,λ|31=>165|9=>9|3=>3|46=>209|0=>0|51=>191|53=>27|4=>4|183=>316|182=>315|131=>320|5=>5|218=>331|222=>334|228=>343|229=>183|n=>n,λ|n=>n⟩
def Tryz.lays190:Go.Proofs.Lays.n190 Tryz.prog Tryz.lays190_ren:={
  mixed:=by kernel_rfl
  f125:=Tryz.func245.trans (congrArg some (by kernel_rfl))
  f128:=Tryz.func263.trans (congrArg some (by kernel_rfl))
  f129:=Tryz.func264.trans (congrArg some (by kernel_rfl))
  f190:=Tryz.func218.trans (congrArg some (by kernel_rfl))
  f258:=Tryz.func247.trans (congrArg some (by kernel_rfl))
  f302:=Tryz.func265.trans (congrArg some (by kernel_rfl))
  f303:=Tryz.func266.trans (congrArg some (by kernel_rfl))
  f304:=Tryz.func267.trans (congrArg some (by kernel_rfl))
  f305:=Tryz.func268.trans (congrArg some (by kernel_rfl))
  f306:=Tryz.func269.trans (congrArg some (by kernel_rfl))
  f307:=Tryz.func270.trans (congrArg some (by kernel_rfl))
  f308:=Tryz.func271.trans (congrArg some (by kernel_rfl))
  f309:=Tryz.func272.trans (congrArg some (by kernel_rfl))
  f310:=Tryz.func273.trans (congrArg some (by kernel_rfl))
  f329:=Tryz.func280.trans (congrArg some (by kernel_rfl))
  f330:=Tryz.func281.trans (congrArg some (by kernel_rfl))
  f333:=Tryz.func284.trans (congrArg some (by kernel_rfl))
  f334:=Tryz.func285.trans (congrArg some (by kernel_rfl))
  f335:=Tryz.func286.trans (congrArg some (by kernel_rfl))
  f336:=Tryz.func287.trans (congrArg some (by kernel_rfl))
  f344:=Tryz.func296.trans (congrArg some (by kernel_rfl))
  t0:=Tryz.underlying0
  a0:=Tryz.isAgg0
  z0:=Tryz.sizeOf0
  v0:=Tryz.zeroValue0
  t3:=Tryz.underlying3
  a3:=Tryz.isAgg3
  z3:=Tryz.sizeOf3
  v3:=Tryz.zeroValue3
  t4:=Tryz.underlying4
  a4:=Tryz.isAgg4
  z4:=Tryz.sizeOf4
  v4:=Tryz.zeroValue4
  t5:=Tryz.underlying5
  a5:=Tryz.isAgg5
  z5:=Tryz.sizeOf5
  v5:=Tryz.zeroValue5
  t9:=Tryz.underlying9
  a9:=Tryz.isAgg9
  z9:=Tryz.sizeOf9
  v9:=Tryz.zeroValue9
  t31:=Tryz.underlying165
  a31:=Tryz.isAgg165
  z31:=Tryz.sizeOf165
  v31:=Tryz.zeroValue165
  t46:=Tryz.underlying209
  a46:=Tryz.isAgg209
  z46:=Tryz.sizeOf209
  v46:=Tryz.zeroValue209
  t51:=Tryz.underlying191
  a51:=Tryz.isAgg191
  z51:=Tryz.sizeOf191
  v51:=Tryz.zeroValue191
  t53:=Tryz.underlying27
  a53:=Tryz.isAgg27
  z53:=Tryz.sizeOf27
  v53:=Tryz.zeroValue27
  t131:=Tryz.underlying320
  a131:=Tryz.isAgg320
  z131:=Tryz.sizeOf320
  v131:=Tryz.zeroValue320
  t182:=Tryz.underlying315
  a182:=Tryz.isAgg315
  z182:=Tryz.sizeOf315
  v182:=Tryz.zeroValue315
  t183:=Tryz.underlying316
  a183:=Tryz.isAgg316
  z183:=Tryz.sizeOf316
  v183:=Tryz.zeroValue316
  t218:=Tryz.underlying331
  a218:=Tryz.isAgg331
  z218:=Tryz.sizeOf331
  v218:=Tryz.zeroValue331
  t222:=Tryz.underlying334
  a222:=Tryz.isAgg334
  z222:=Tryz.sizeOf334
  v222:=Tryz.zeroValue334
  t228:=Tryz.underlying343
  a228:=Tryz.isAgg343
  z228:=Tryz.sizeOf343
  v228:=Tryz.zeroValue343
  t229:=Tryz.underlying183
  a229:=Tryz.isAgg183
  z229:=Tryz.sizeOf183
  v229:=Tryz.zeroValue183}
open Go.Sort Go.RowKit in
def Tryz.slices_Sort_string(blk off cap:Nat)(ss:List (List UInt8))(w:World)(hH:Holds encStr w blk off ss.toArray)(jr:blk<w.heap.size)(jl:ss.length<4611686018427387904):Calls Tryz.prog 218 #[.S (some ⟨blk,off,none⟩) ss.length cap] w λe w'=>
      e=.returned (.tuple #[])/\∃n os,w'=grow (putRow encStr (Sort.ahead w n) blk off (ss.mergeSort λx y=>decide (x<=y)).toArray) os:=Any.slices_Sort_string Tryz.lays190 blk off cap ss w hH jr jl
open Go.RowKit Go.Sort in
def Tryz.slices_Sort_string_none(p:Option Addr)(cap:Nat)(w:World):Calls Tryz.prog 218 #[.S p 0 cap] w λe w'=>e=.returned (.tuple #[])/\w'=w:=Any.slices_Sort_string_none Tryz.lays190 p cap w
end Go.Proofs
