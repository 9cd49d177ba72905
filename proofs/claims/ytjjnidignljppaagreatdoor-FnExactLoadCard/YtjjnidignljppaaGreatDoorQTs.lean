import Derived.Test.YtjjnidignljppaaGreatDoorK0
import Derived.Shelf.Sort.Plain
import Derived.Shelf.Slices.In.SortNone
namespace Go.Proofs
set_option linter.all false
open Go.Shelf
def Tryz.lays190_ren:Go.Shelf.Ren:=⟨fun|190=>159|125=>178|258=>180|128=>205|129=>206|302=>207|303=>208|304=>209|305=>210|306=>211|307=>212|308=>213|309=>214|310=>215|333=>229|329=>225|330=>226|334=>230|335=>231|336=>232|344=>236|n=>n,fun|31=>125|9=>9|3=>3|46=>133|0=>0|51=>173|53=>28|4=>4|183=>263|182=>262|131=>267|5=>5|218=>280|222=>283|228=>288|229=>89|n=>n,fun|n=>n⟩
def Tryz.lays190:Go.Proofs.Lays.n190 Tryz.prog Tryz.lays190_ren:={
  mixed:=by kernel_rfl
  f125:=Tryz.func178.trans (congrArg some (by kernel_rfl))
  f128:=Tryz.func205.trans (congrArg some (by kernel_rfl))
  f129:=Tryz.func206.trans (congrArg some (by kernel_rfl))
  f190:=Tryz.func159.trans (congrArg some (by kernel_rfl))
  f258:=Tryz.func180.trans (congrArg some (by kernel_rfl))
  f302:=Tryz.func207.trans (congrArg some (by kernel_rfl))
  f303:=Tryz.func208.trans (congrArg some (by kernel_rfl))
  f304:=Tryz.func209.trans (congrArg some (by kernel_rfl))
  f305:=Tryz.func210.trans (congrArg some (by kernel_rfl))
  f306:=Tryz.func211.trans (congrArg some (by kernel_rfl))
  f307:=Tryz.func212.trans (congrArg some (by kernel_rfl))
  f308:=Tryz.func213.trans (congrArg some (by kernel_rfl))
  f309:=Tryz.func214.trans (congrArg some (by kernel_rfl))
  f310:=Tryz.func215.trans (congrArg some (by kernel_rfl))
  f329:=Tryz.func225.trans (congrArg some (by kernel_rfl))
  f330:=Tryz.func226.trans (congrArg some (by kernel_rfl))
  f333:=Tryz.func229.trans (congrArg some (by kernel_rfl))
  f334:=Tryz.func230.trans (congrArg some (by kernel_rfl))
  f335:=Tryz.func231.trans (congrArg some (by kernel_rfl))
  f336:=Tryz.func232.trans (congrArg some (by kernel_rfl))
  f344:=Tryz.func236.trans (congrArg some (by kernel_rfl))
  t0:=Tryz.underlying0
  a0:=Tryz.isAgg0
  z0:=Tryz.sizeOf0
  v0:=Tryz.zeroValue0
  t3:=Tryz.underlying3
  a3:=Tryz.isAgg3
  z3:=Tryz.sizeOf3
  v3:=Tryz.zeroValue3
  t4:=Tryz.underlying4
  a4:=Tryz.isAgg4
  z4:=Tryz.sizeOf4
  v4:=Tryz.zeroValue4
  t5:=Tryz.underlying5
  a5:=Tryz.isAgg5
  z5:=Tryz.sizeOf5
  v5:=Tryz.zeroValue5
  t9:=Tryz.underlying9
  a9:=Tryz.isAgg9
  z9:=Tryz.sizeOf9
  v9:=Tryz.zeroValue9
  t31:=Tryz.underlying125
  a31:=Tryz.isAgg125
  z31:=Tryz.sizeOf125
  v31:=Tryz.zeroValue125
  t46:=Tryz.underlying133
  a46:=Tryz.isAgg133
  z46:=Tryz.sizeOf133
  v46:=Tryz.zeroValue133
  t51:=Tryz.underlying173
  a51:=Tryz.isAgg173
  z51:=Tryz.sizeOf173
  v51:=Tryz.zeroValue173
  t53:=Tryz.underlying28
  a53:=Tryz.isAgg28
  z53:=Tryz.sizeOf28
  v53:=Tryz.zeroValue28
  t131:=Tryz.underlying267
  a131:=Tryz.isAgg267
  z131:=Tryz.sizeOf267
  v131:=Tryz.zeroValue267
  t182:=Tryz.underlying262
  a182:=Tryz.isAgg262
  z182:=Tryz.sizeOf262
  v182:=Tryz.zeroValue262
  t183:=Tryz.underlying263
  a183:=Tryz.isAgg263
  z183:=Tryz.sizeOf263
  v183:=Tryz.zeroValue263
  t218:=Tryz.underlying280
  a218:=Tryz.isAgg280
  z218:=Tryz.sizeOf280
  v218:=Tryz.zeroValue280
  t222:=Tryz.underlying283
  a222:=Tryz.isAgg283
  z222:=Tryz.sizeOf283
  v222:=Tryz.zeroValue283
  t228:=Tryz.underlying288
  a228:=Tryz.isAgg288
  z228:=Tryz.sizeOf288
  v228:=Tryz.zeroValue288
  t229:=Tryz.underlying89
  a229:=Tryz.isAgg89
  z229:=Tryz.sizeOf89
  v229:=Tryz.zeroValue89}
open Go.Sort Go.RowKit in
def Tryz.slices_Sort_string(blk off cap:Nat)(ss:List (List UInt8))(w:World)(hH:Holds encStr w blk off ss.toArray)(ji:blk<w.heap.size)(iO:ss.length<4611686018427387904):Calls Tryz.prog 159 #[.S (some ⟨blk,off,none⟩) ss.length cap] w fun e w'=>
      e=.returned (.tuple #[])/\∃n os,w'=grow (putRow encStr (Sort.ahead w n) blk off (ss.mergeSort fun x y=>decide (x<=y)).toArray) os:=Any.slices_Sort_string Tryz.lays190 blk off cap ss w hH ji iO
open Go.RowKit Go.Sort in
def Tryz.slices_Sort_string_none(p:Option Addr)(cap:Nat)(w:World):Calls Tryz.prog 159 #[.S p 0 cap] w fun e w'=>e=.returned (.tuple #[])/\w'=w:=Any.slices_Sort_string_none Tryz.lays190 p cap w
end Go.Proofs
