import Derived.Test.YtcfcafeciggjeaaGreatDoorK0
import Derived.Shelf.Sort.Plain
import Derived.Shelf.Slices.In.SortNone
namespace Go.Proofs
open Go.Shelf
def Tryz.lays190_ren:Go.Shelf.Ren:=⟨fun | 190=>171 | 125=>180 | 258=>182 | 128=>194 | 129=>195 | 302=>196 | 303=>197 | 304=>198 | 305=>199 | 306=>200 | 307=>201 | 308=>202 | 309=>203 | 310=>204 | 333=>213 | 329=>209 | 330=>210 | 334=>214 | 335=>215 | 336=>216 | 344=>225 | n=>n,fun | 31=>157 | 9=>9 | 3=>3 | 46=>180 | 0=>0 | 51=>186 | 53=>23 | 4=>4 | 183=>265 | 182=>264 | 131=>269 | 5=>5 | 218=>280 | 222=>283 | 228=>292 | 229=>88 | n=>n,fun | n=>n⟩
theorem Tryz.lays190:Go.Proofs.Lays.n190 Tryz.prog Tryz.lays190_ren:={
  mixed:=by kernel_rfl
  f125:=Tryz.func180.trans (congrArg some (by kernel_rfl))
  f128:=Tryz.func194.trans (congrArg some (by kernel_rfl))
  f129:=Tryz.func195.trans (congrArg some (by kernel_rfl))
  f190:=Tryz.func171.trans (congrArg some (by kernel_rfl))
  f258:=Tryz.func182.trans (congrArg some (by kernel_rfl))
  f302:=Tryz.func196.trans (congrArg some (by kernel_rfl))
  f303:=Tryz.func197.trans (congrArg some (by kernel_rfl))
  f304:=Tryz.func198.trans (congrArg some (by kernel_rfl))
  f305:=Tryz.func199.trans (congrArg some (by kernel_rfl))
  f306:=Tryz.func200.trans (congrArg some (by kernel_rfl))
  f307:=Tryz.func201.trans (congrArg some (by kernel_rfl))
  f308:=Tryz.func202.trans (congrArg some (by kernel_rfl))
  f309:=Tryz.func203.trans (congrArg some (by kernel_rfl))
  f310:=Tryz.func204.trans (congrArg some (by kernel_rfl))
  f329:=Tryz.func209.trans (congrArg some (by kernel_rfl))
  f330:=Tryz.func210.trans (congrArg some (by kernel_rfl))
  f333:=Tryz.func213.trans (congrArg some (by kernel_rfl))
  f334:=Tryz.func214.trans (congrArg some (by kernel_rfl))
  f335:=Tryz.func215.trans (congrArg some (by kernel_rfl))
  f336:=Tryz.func216.trans (congrArg some (by kernel_rfl))
  f344:=Tryz.func225.trans (congrArg some (by kernel_rfl))
  t0:=Tryz.underlying0
  a0:=Tryz.isAgg0
  z0:=Tryz.sizeOf0
  v0:=Tryz.zeroValue0
  t3:=Tryz.underlying3
  a3:=Tryz.isAgg3
  z3:=Tryz.sizeOf3
  v3:=Tryz.zeroValue3
  t4:=Tryz.underlying4
  a4:=Tryz.isAgg4
  z4:=Tryz.sizeOf4
  v4:=Tryz.zeroValue4
  t5:=Tryz.underlying5
  a5:=Tryz.isAgg5
  z5:=Tryz.sizeOf5
  v5:=Tryz.zeroValue5
  t9:=Tryz.underlying9
  a9:=Tryz.isAgg9
  z9:=Tryz.sizeOf9
  v9:=Tryz.zeroValue9
  t31:=Tryz.underlying157
  a31:=Tryz.isAgg157
  z31:=Tryz.sizeOf157
  v31:=Tryz.zeroValue157
  t46:=Tryz.underlying180
  a46:=Tryz.isAgg180
  z46:=Tryz.sizeOf180
  v46:=Tryz.zeroValue180
  t51:=Tryz.underlying186
  a51:=Tryz.isAgg186
  z51:=Tryz.sizeOf186
  v51:=Tryz.zeroValue186
  t53:=Tryz.underlying23
  a53:=Tryz.isAgg23
  z53:=Tryz.sizeOf23
  v53:=Tryz.zeroValue23
  t131:=Tryz.underlying269
  a131:=Tryz.isAgg269
  z131:=Tryz.sizeOf269
  v131:=Tryz.zeroValue269
  t182:=Tryz.underlying264
  a182:=Tryz.isAgg264
  z182:=Tryz.sizeOf264
  v182:=Tryz.zeroValue264
  t183:=Tryz.underlying265
  a183:=Tryz.isAgg265
  z183:=Tryz.sizeOf265
  v183:=Tryz.zeroValue265
  t218:=Tryz.underlying280
  a218:=Tryz.isAgg280
  z218:=Tryz.sizeOf280
  v218:=Tryz.zeroValue280
  t222:=Tryz.underlying283
  a222:=Tryz.isAgg283
  z222:=Tryz.sizeOf283
  v222:=Tryz.zeroValue283
  t228:=Tryz.underlying292
  a228:=Tryz.isAgg292
  z228:=Tryz.sizeOf292
  v228:=Tryz.zeroValue292
  t229:=Tryz.underlying88
  a229:=Tryz.isAgg88
  z229:=Tryz.sizeOf88
  v229:=Tryz.zeroValue88 }
open Go.Sort Go.RowKit in
theorem Tryz.slices_Sort_string (aI off cap:Nat) (ss:List (List UInt8)) (w:World) (hH:Holds encStr w aI off ss.toArray) (jd:aI<w.heap.size) (il:ss.length<4611686018427387904) :
    Calls Tryz.prog 171 #[.S (some ⟨aI,off,none⟩) ss.length cap] w fun e w'=>
      e=.returned (.tuple #[])/\∃ n os,w'=grow (putRow encStr (Sort.ahead w n) aI off (ss.mergeSort fun x y=>decide (x<=y)).toArray) os:=Any.slices_Sort_string Tryz.lays190 aI off cap ss w hH jd il
open Go.RowKit Go.Sort in
theorem Tryz.slices_Sort_string_none (p:Option Addr) (cap:Nat) (w:World) :
    Calls Tryz.prog 171 #[.S p 0 cap] w fun e w'=>e=.returned (.tuple #[])/\w'=w:=Any.slices_Sort_string_none Tryz.lays190 p cap w
end Go.Proofs
