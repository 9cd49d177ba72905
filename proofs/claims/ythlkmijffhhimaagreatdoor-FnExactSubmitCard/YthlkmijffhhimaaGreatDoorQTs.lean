import Derived.Test.YthlkmijffhhimaaGreatDoorK0
import Derived.Shelf.Sort.Plain
import Derived.Shelf.Slices.In.SortNone
open Array renaming size->U
open Decidable renaming decide->dD
open Go renaming Calls->dQ,World->G
open Go.Ending renaming returned->dR
open Go.Proofs.Tryz renaming prog->dG
open Go.Value renaming tuple->dT
open Go.World renaming heap->Q
open List renaming length->J
open Option renaming none->dN,some->Y
namespace Go.Proofs
open Go.Shelf
def Tryz.lays190_ren:Go.Shelf.Ren:=⟨λ|190=>248|125=>261|258=>263|128=>276|129=>277|302=>278|303=>279|304=>280|305=>281|306=>282|307=>283|308=>284|309=>285|310=>286|333=>295|329=>291|330=>292|334=>296|335=>297|336=>298|344=>307|n=>n,λ|31=>196|9=>9|3=>3|46=>243|0=>0|51=>225|53=>27|4=>4|183=>350|182=>349|131=>354|5=>5|218=>365|222=>368|228=>377|229=>213|n=>n,λ|n=>n⟩
theorem Tryz.lays190:Go.Proofs.Lays.n190 dG Tryz.lays190_ren:={
  mixed:=by kernel_rfl
  f125:=Tryz.func261.trans (congrArg Y (by kernel_rfl))
  f128:=Tryz.func276.trans (congrArg Y (by kernel_rfl))
  f129:=Tryz.func277.trans (congrArg Y (by kernel_rfl))
  f190:=Tryz.func248.trans (congrArg Y (by kernel_rfl))
  f258:=Tryz.func263.trans (congrArg Y (by kernel_rfl))
  f302:=Tryz.func278.trans (congrArg Y (by kernel_rfl))
  f303:=Tryz.func279.trans (congrArg Y (by kernel_rfl))
  f304:=Tryz.func280.trans (congrArg Y (by kernel_rfl))
  f305:=Tryz.func281.trans (congrArg Y (by kernel_rfl))
  f306:=Tryz.func282.trans (congrArg Y (by kernel_rfl))
  f307:=Tryz.func283.trans (congrArg Y (by kernel_rfl))
  f308:=Tryz.func284.trans (congrArg Y (by kernel_rfl))
  f309:=Tryz.func285.trans (congrArg Y (by kernel_rfl))
  f310:=Tryz.func286.trans (congrArg Y (by kernel_rfl))
  f329:=Tryz.func291.trans (congrArg Y (by kernel_rfl))
  f330:=Tryz.func292.trans (congrArg Y (by kernel_rfl))
  f333:=Tryz.func295.trans (congrArg Y (by kernel_rfl))
  f334:=Tryz.func296.trans (congrArg Y (by kernel_rfl))
  f335:=Tryz.func297.trans (congrArg Y (by kernel_rfl))
  f336:=Tryz.func298.trans (congrArg Y (by kernel_rfl))
  f344:=Tryz.func307.trans (congrArg Y (by kernel_rfl))
  t0:=Tryz.underlying0
  a0:=Tryz.isAgg0
  z0:=Tryz.sizeOf0
  v0:=Tryz.zeroValue0
  t3:=Tryz.underlying3
  a3:=Tryz.isAgg3
  z3:=Tryz.sizeOf3
  v3:=Tryz.zeroValue3
  t4:=Tryz.underlying4
  a4:=Tryz.isAgg4
  z4:=Tryz.sizeOf4
  v4:=Tryz.zeroValue4
  t5:=Tryz.underlying5
  a5:=Tryz.isAgg5
  z5:=Tryz.sizeOf5
  v5:=Tryz.zeroValue5
  t9:=Tryz.underlying9
  a9:=Tryz.isAgg9
  z9:=Tryz.sizeOf9
  v9:=Tryz.zeroValue9
  t31:=Tryz.underlying196
  a31:=Tryz.isAgg196
  z31:=Tryz.sizeOf196
  v31:=Tryz.zeroValue196
  t46:=Tryz.underlying243
  a46:=Tryz.isAgg243
  z46:=Tryz.sizeOf243
  v46:=Tryz.zeroValue243
  t51:=Tryz.underlying225
  a51:=Tryz.isAgg225
  z51:=Tryz.sizeOf225
  v51:=Tryz.zeroValue225
  t53:=Tryz.underlying27
  a53:=Tryz.isAgg27
  z53:=Tryz.sizeOf27
  v53:=Tryz.zeroValue27
  t131:=Tryz.underlying354
  a131:=Tryz.isAgg354
  z131:=Tryz.sizeOf354
  v131:=Tryz.zeroValue354
  t182:=Tryz.underlying349
  a182:=Tryz.isAgg349
  z182:=Tryz.sizeOf349
  v182:=Tryz.zeroValue349
  t183:=Tryz.underlying350
  a183:=Tryz.isAgg350
  z183:=Tryz.sizeOf350
  v183:=Tryz.zeroValue350
  t218:=Tryz.underlying365
  a218:=Tryz.isAgg365
  z218:=Tryz.sizeOf365
  v218:=Tryz.zeroValue365
  t222:=Tryz.underlying368
  a222:=Tryz.isAgg368
  z222:=Tryz.sizeOf368
  v222:=Tryz.zeroValue368
  t228:=Tryz.underlying377
  a228:=Tryz.isAgg377
  z228:=Tryz.sizeOf377
  v228:=Tryz.zeroValue377
  t229:=Tryz.underlying213
  a229:=Tryz.isAgg213
  z229:=Tryz.sizeOf213
  v229:=Tryz.zeroValue213}
open Go.Sort Go.RowKit in
theorem Tryz.slices_Sort_string(blk off cap:Nat)(ss:List (List UInt8))(w:G)(o:Holds encStr w blk off ss.toArray)(m:blk<U (Q w))(q:J ss<2^62):dQ dG 248 #[.S (Y ⟨blk,off,dN⟩) (J ss) cap] w λe i=>
      e=dR (dT #[])/\∃n j,i=grow (putRow encStr (Sort.ahead w n) blk off (ss.mergeSort λx y=>dD (x<=y)).toArray) j:=Any.slices_Sort_string Tryz.lays190 blk off cap ss w o m q
open Go.RowKit Go.Sort in
theorem Tryz.slices_Sort_string_none(p:Option Addr)(cap:Nat)(w:G):dQ dG 248 #[.S p 0 cap] w λe i=>e=dR (dT #[])/\i=w:=Any.slices_Sort_string_none Tryz.lays190 p cap w
end Go.Proofs
