import Derived.Test.YtdloolggnjjfoaaGreatDoorK1
import Derived.Shelf.Sort.Plain
import Derived.Shelf.Slices.In.SortNone
open Array renaming size->U
open Decidable renaming decide->dD
open Go renaming Calls->dQ,World->G
open Go.Ending renaming returned->dR
open Go.Proofs.Tryz renaming prog->dG
open Go.Value renaming tuple->dT
open List renaming length->J
open Option renaming none->dN,some->Y
namespace Go.Proofs
set_option linter.all false
open Go.Shelf
def Tryz.lays190_ren:Go.Shelf.Ren:=⟨λ|190=>243|125=>261|258=>263|128=>277|129=>278|302=>279|303=>280|304=>281|305=>282|306=>283|307=>284|308=>285|309=>286|310=>287|333=>296|329=>292|330=>293|334=>297|335=>298|336=>299|344=>308|n=>n,λ|31=>189|9=>9|3=>3|46=>235|0=>0|51=>217|53=>27|4=>4|183=>350|182=>349|131=>354|5=>5|218=>365|222=>368|228=>377|229=>206|n=>n,λ|n=>n⟩
def Tryz.lays190:Go.Proofs.Lays.n190 dG Tryz.lays190_ren:={
  mixed:=by kernel_rfl
  f125:=Tryz.func261.trans (congrArg Y (by kernel_rfl))
  f128:=Tryz.func277.trans (congrArg Y (by kernel_rfl))
  f129:=Tryz.func278.trans (congrArg Y (by kernel_rfl))
  f190:=Tryz.func243.trans (congrArg Y (by kernel_rfl))
  f258:=Tryz.func263.trans (congrArg Y (by kernel_rfl))
  f302:=Tryz.func279.trans (congrArg Y (by kernel_rfl))
  f303:=Tryz.func280.trans (congrArg Y (by kernel_rfl))
  f304:=Tryz.func281.trans (congrArg Y (by kernel_rfl))
  f305:=Tryz.func282.trans (congrArg Y (by kernel_rfl))
  f306:=Tryz.func283.trans (congrArg Y (by kernel_rfl))
  f307:=Tryz.func284.trans (congrArg Y (by kernel_rfl))
  f308:=Tryz.func285.trans (congrArg Y (by kernel_rfl))
  f309:=Tryz.func286.trans (congrArg Y (by kernel_rfl))
  f310:=Tryz.func287.trans (congrArg Y (by kernel_rfl))
  f329:=Tryz.func292.trans (congrArg Y (by kernel_rfl))
  f330:=Tryz.func293.trans (congrArg Y (by kernel_rfl))
  f333:=Tryz.func296.trans (congrArg Y (by kernel_rfl))
  f334:=Tryz.func297.trans (congrArg Y (by kernel_rfl))
  f335:=Tryz.func298.trans (congrArg Y (by kernel_rfl))
  f336:=Tryz.func299.trans (congrArg Y (by kernel_rfl))
  f344:=Tryz.func308.trans (congrArg Y (by kernel_rfl))
  t0:=Tryz.underlying0
  a0:=Tryz.isAgg0
  z0:=Tryz.sizeOf0
  v0:=Tryz.zeroValue0
  t3:=Tryz.underlying3
  a3:=Tryz.isAgg3
  z3:=Tryz.sizeOf3
  v3:=Tryz.zeroValue3
  t4:=Tryz.underlying4
  a4:=Tryz.isAgg4
  z4:=Tryz.sizeOf4
  v4:=Tryz.zeroValue4
  t5:=Tryz.underlying5
  a5:=Tryz.isAgg5
  z5:=Tryz.sizeOf5
  v5:=Tryz.zeroValue5
  t9:=Tryz.underlying9
  a9:=Tryz.isAgg9
  z9:=Tryz.sizeOf9
  v9:=Tryz.zeroValue9
  t31:=Tryz.underlying189
  a31:=Tryz.isAgg189
  z31:=Tryz.sizeOf189
  v31:=Tryz.zeroValue189
  t46:=Tryz.underlying235
  a46:=Tryz.isAgg235
  z46:=Tryz.sizeOf235
  v46:=Tryz.zeroValue235
  t51:=Tryz.underlying217
  a51:=Tryz.isAgg217
  z51:=Tryz.sizeOf217
  v51:=Tryz.zeroValue217
  t53:=Tryz.underlying27
  a53:=Tryz.isAgg27
  z53:=Tryz.sizeOf27
  v53:=Tryz.zeroValue27
  t131:=Tryz.underlying354
  a131:=Tryz.isAgg354
  z131:=Tryz.sizeOf354
  v131:=Tryz.zeroValue354
  t182:=Tryz.underlying349
  a182:=Tryz.isAgg349
  z182:=Tryz.sizeOf349
  v182:=Tryz.zeroValue349
  t183:=Tryz.underlying350
  a183:=Tryz.isAgg350
  z183:=Tryz.sizeOf350
  v183:=Tryz.zeroValue350
  t218:=Tryz.underlying365
  a218:=Tryz.isAgg365
  z218:=Tryz.sizeOf365
  v218:=Tryz.zeroValue365
  t222:=Tryz.underlying368
  a222:=Tryz.isAgg368
  z222:=Tryz.sizeOf368
  v222:=Tryz.zeroValue368
  t228:=Tryz.underlying377
  a228:=Tryz.isAgg377
  z228:=Tryz.sizeOf377
  v228:=Tryz.zeroValue377
  t229:=Tryz.underlying206
  a229:=Tryz.isAgg206
  z229:=Tryz.sizeOf206
  v229:=Tryz.zeroValue206}
open Go.Sort Go.RowKit in
def Tryz.slices_Sort_string(blk off cap:Nat)(ss:List (List UInt8))(w:G)(o:Holds encStr w blk off ss.toArray)(m:blk<U w.heap)(q:J ss<4611686018427387904):dQ dG 243 #[.S (Y ⟨blk,off,dN⟩) (J ss) cap] w λe i=>
      e=dR (dT #[])/\∃n j,i=grow (putRow encStr (Sort.ahead w n) blk off (ss.mergeSort λx y=>dD (x<=y)).toArray) j:=Any.slices_Sort_string Tryz.lays190 blk off cap ss w o m q
open Go.RowKit Go.Sort in
def Tryz.slices_Sort_string_none(p:Option Addr)(cap:Nat)(w:G):dQ dG 243 #[.S p 0 cap] w λe i=>e=dR (dT #[])/\i=w:=Any.slices_Sort_string_none Tryz.lays190 p cap w
end Go.Proofs
