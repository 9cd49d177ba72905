import Derived.Test.YtpkakgkipopiaaaGreatDoorK1
import Derived.Shelf.Sort.Plain
import Derived.Shelf.Slices.In.SortNone
open Array renaming size->U
open Decidable renaming decide->dD
open Go renaming Calls->dQ,World->G
open Go.Ending renaming returned->dR
open Go.Proofs.Tryz renaming prog->dG
open Go.Value renaming tuple->dT
open Go.World renaming heap->Q
open List renaming length->J
open Option renaming none->dN,some->Y
namespace Go.Proofs
open Go.Shelf
def Tryz.lays190_ren:Go.Shelf.Ren:=⟨λ|190=>197|125=>218|258=>220|128=>235|129=>236|302=>237|303=>238|304=>239|305=>240|306=>241|307=>242|308=>243|309=>244|310=>245|333=>252|329=>248|330=>249|334=>253|335=>254|336=>255|344=>260|n=>n,λ|31=>145|9=>9|3=>3|46=>173|0=>0|51=>174|53=>24|4=>4|183=>301|182=>300|131=>305|5=>5|218=>316|222=>319|228=>324|229=>121|n=>n,λ|n=>n⟩
theorem Tryz.lays190:Go.Proofs.Lays.n190 dG Tryz.lays190_ren:={
  mixed:=by kernel_rfl
  f125:=Tryz.func218.trans (congrArg Y (by kernel_rfl))
  f128:=Tryz.func235.trans (congrArg Y (by kernel_rfl))
  f129:=Tryz.func236.trans (congrArg Y (by kernel_rfl))
  f190:=Tryz.func197.trans (congrArg Y (by kernel_rfl))
  f258:=Tryz.func220.trans (congrArg Y (by kernel_rfl))
  f302:=Tryz.func237.trans (congrArg Y (by kernel_rfl))
  f303:=Tryz.func238.trans (congrArg Y (by kernel_rfl))
  f304:=Tryz.func239.trans (congrArg Y (by kernel_rfl))
  f305:=Tryz.func240.trans (congrArg Y (by kernel_rfl))
  f306:=Tryz.func241.trans (congrArg Y (by kernel_rfl))
  f307:=Tryz.func242.trans (congrArg Y (by kernel_rfl))
  f308:=Tryz.func243.trans (congrArg Y (by kernel_rfl))
  f309:=Tryz.func244.trans (congrArg Y (by kernel_rfl))
  f310:=Tryz.func245.trans (congrArg Y (by kernel_rfl))
  f329:=Tryz.func248.trans (congrArg Y (by kernel_rfl))
  f330:=Tryz.func249.trans (congrArg Y (by kernel_rfl))
  f333:=Tryz.func252.trans (congrArg Y (by kernel_rfl))
  f334:=Tryz.func253.trans (congrArg Y (by kernel_rfl))
  f335:=Tryz.func254.trans (congrArg Y (by kernel_rfl))
  f336:=Tryz.func255.trans (congrArg Y (by kernel_rfl))
  f344:=Tryz.func260.trans (congrArg Y (by kernel_rfl))
  t0:=Tryz.underlying0
  a0:=Tryz.isAgg0
  z0:=Tryz.sizeOf0
  v0:=Tryz.zeroValue0
  t3:=Tryz.underlying3
  a3:=Tryz.isAgg3
  z3:=Tryz.sizeOf3
  v3:=Tryz.zeroValue3
  t4:=Tryz.underlying4
  a4:=Tryz.isAgg4
  z4:=Tryz.sizeOf4
  v4:=Tryz.zeroValue4
  t5:=Tryz.underlying5
  a5:=Tryz.isAgg5
  z5:=Tryz.sizeOf5
  v5:=Tryz.zeroValue5
  t9:=Tryz.underlying9
  a9:=Tryz.isAgg9
  z9:=Tryz.sizeOf9
  v9:=Tryz.zeroValue9
  t31:=Tryz.underlying145
  a31:=Tryz.isAgg145
  z31:=Tryz.sizeOf145
  v31:=Tryz.zeroValue145
  t46:=Tryz.underlying173
  a46:=Tryz.isAgg173
  z46:=Tryz.sizeOf173
  v46:=Tryz.zeroValue173
  t51:=Tryz.underlying174
  a51:=Tryz.isAgg174
  z51:=Tryz.sizeOf174
  v51:=Tryz.zeroValue174
  t53:=Tryz.underlying24
  a53:=Tryz.isAgg24
  z53:=Tryz.sizeOf24
  v53:=Tryz.zeroValue24
  t131:=Tryz.underlying305
  a131:=Tryz.isAgg305
  z131:=Tryz.sizeOf305
  v131:=Tryz.zeroValue305
  t182:=Tryz.underlying300
  a182:=Tryz.isAgg300
  z182:=Tryz.sizeOf300
  v182:=Tryz.zeroValue300
  t183:=Tryz.underlying301
  a183:=Tryz.isAgg301
  z183:=Tryz.sizeOf301
  v183:=Tryz.zeroValue301
  t218:=Tryz.underlying316
  a218:=Tryz.isAgg316
  z218:=Tryz.sizeOf316
  v218:=Tryz.zeroValue316
  t222:=Tryz.underlying319
  a222:=Tryz.isAgg319
  z222:=Tryz.sizeOf319
  v222:=Tryz.zeroValue319
  t228:=Tryz.underlying324
  a228:=Tryz.isAgg324
  z228:=Tryz.sizeOf324
  v228:=Tryz.zeroValue324
  t229:=Tryz.underlying121
  a229:=Tryz.isAgg121
  z229:=Tryz.sizeOf121
  v229:=Tryz.zeroValue121}
open Go.Sort Go.RowKit in
theorem Tryz.slices_Sort_string(blk off cap:Nat)(ss:List (List UInt8))(w:G)(o:Holds encStr w blk off ss.toArray)(m:blk<U (Q w))(q:J ss<4611686018427387904):dQ dG 197 #[.S (Y ⟨blk,off,dN⟩) (J ss) cap] w λe i=>
      e=dR (dT #[])/\∃n j,i=grow (putRow encStr (Sort.ahead w n) blk off (ss.mergeSort λx y=>dD (x<=y)).toArray) j:=Any.slices_Sort_string Tryz.lays190 blk off cap ss w o m q
open Go.RowKit Go.Sort in
theorem Tryz.slices_Sort_string_none(p:Option Addr)(cap:Nat)(w:G):dQ dG 197 #[.S p 0 cap] w λe i=>e=dR (dT #[])/\i=w:=Any.slices_Sort_string_none Tryz.lays190 p cap w
end Go.Proofs
