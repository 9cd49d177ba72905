import Derived.Shelf.Sort.Plain
import Derived.Shelf.Slices.In.SortNone
import Derived.Test.YtmfjiolopcbcmaaGreatDoorProg
namespace Go.Proofs
open Go.Shelf
def Tryz.lays190_ren:Go.Shelf.Ren:=⟨fun | 190=>153 | 125=>161 | 258=>164 | 128=>176 | 129=>177 | 302=>178 | 303=>179 | 304=>180 | 305=>181 | 306=>182 | 307=>183 | 308=>184 | 309=>185 | 310=>186 | 333=>195 | 329=>191 | 330=>192 | 334=>196 | 335=>197 | 336=>198 | 344=>208 | n=>n,fun | 31=>140 | 9=>9 | 3=>3 | 46=>245 | 0=>0 | 51=>259 | 53=>22 | 4=>4 | 183=>252 | 182=>251 | 131=>256 | 5=>5 | 218=>268 | 222=>272 | 228=>281 | 229=>282 | n=>n,fun | n=>n⟩
theorem Tryz.lays190:Go.Proofs.Lays.n190 Tryz.prog Tryz.lays190_ren:={
  mixed:=by kernel_rfl
  f125:=Tryz.func161.trans (congrArg some (by kernel_rfl))
  f128:=Tryz.func176.trans (congrArg some (by kernel_rfl))
  f129:=Tryz.func177.trans (congrArg some (by kernel_rfl))
  f190:=Tryz.func153.trans (congrArg some (by kernel_rfl))
  f258:=Tryz.func164.trans (congrArg some (by kernel_rfl))
  f302:=Tryz.func178.trans (congrArg some (by kernel_rfl))
  f303:=Tryz.func179.trans (congrArg some (by kernel_rfl))
  f304:=Tryz.func180.trans (congrArg some (by kernel_rfl))
  f305:=Tryz.func181.trans (congrArg some (by kernel_rfl))
  f306:=Tryz.func182.trans (congrArg some (by kernel_rfl))
  f307:=Tryz.func183.trans (congrArg some (by kernel_rfl))
  f308:=Tryz.func184.trans (congrArg some (by kernel_rfl))
  f309:=Tryz.func185.trans (congrArg some (by kernel_rfl))
  f310:=Tryz.func186.trans (congrArg some (by kernel_rfl))
  f329:=Tryz.func191.trans (congrArg some (by kernel_rfl))
  f330:=Tryz.func192.trans (congrArg some (by kernel_rfl))
  f333:=Tryz.func195.trans (congrArg some (by kernel_rfl))
  f334:=Tryz.func196.trans (congrArg some (by kernel_rfl))
  f335:=Tryz.func197.trans (congrArg some (by kernel_rfl))
  f336:=Tryz.func198.trans (congrArg some (by kernel_rfl))
  f344:=Tryz.func208.trans (congrArg some (by kernel_rfl))
  t0:=Tryz.underlying0
  a0:=Tryz.isAgg0
  z0:=Tryz.sizeOf0
  v0:=Tryz.zeroValue0
  t3:=Tryz.underlying3
  a3:=Tryz.isAgg3
  z3:=Tryz.sizeOf3
  v3:=Tryz.zeroValue3
  t4:=Tryz.underlying4
  a4:=Tryz.isAgg4
  z4:=Tryz.sizeOf4
  v4:=Tryz.zeroValue4
  t5:=Tryz.underlying5
  a5:=Tryz.isAgg5
  z5:=Tryz.sizeOf5
  v5:=Tryz.zeroValue5
  t9:=Tryz.underlying9
  a9:=Tryz.isAgg9
  z9:=Tryz.sizeOf9
  v9:=Tryz.zeroValue9
  t31:=Tryz.underlying140
  a31:=Tryz.isAgg140
  z31:=Tryz.sizeOf140
  v31:=Tryz.zeroValue140
  t46:=Tryz.underlying245
  a46:=Tryz.isAgg245
  z46:=Tryz.sizeOf245
  v46:=Tryz.zeroValue245
  t51:=Tryz.underlying259
  a51:=Tryz.isAgg259
  z51:=Tryz.sizeOf259
  v51:=Tryz.zeroValue259
  t53:=Tryz.underlying22
  a53:=Tryz.isAgg22
  z53:=Tryz.sizeOf22
  v53:=Tryz.zeroValue22
  t131:=Tryz.underlying256
  a131:=Tryz.isAgg256
  z131:=Tryz.sizeOf256
  v131:=Tryz.zeroValue256
  t182:=Tryz.underlying251
  a182:=Tryz.isAgg251
  z182:=Tryz.sizeOf251
  v182:=Tryz.zeroValue251
  t183:=Tryz.underlying252
  a183:=Tryz.isAgg252
  z183:=Tryz.sizeOf252
  v183:=Tryz.zeroValue252
  t218:=Tryz.underlying268
  a218:=Tryz.isAgg268
  z218:=Tryz.sizeOf268
  v218:=Tryz.zeroValue268
  t222:=Tryz.underlying272
  a222:=Tryz.isAgg272
  z222:=Tryz.sizeOf272
  v222:=Tryz.zeroValue272
  t228:=Tryz.underlying281
  a228:=Tryz.isAgg281
  z228:=Tryz.sizeOf281
  v228:=Tryz.zeroValue281
  t229:=Tryz.underlying282
  a229:=Tryz.isAgg282
  z229:=Tryz.sizeOf282
  v229:=Tryz.zeroValue282 }
open Go.Sort Go.RowKit in
theorem Tryz.slices_Sort_string (aF off cap:Nat) (ss:List (List UInt8)) (w:World) (hH:Holds encStr w aF off ss.toArray) (iB:aF<w.heap.size) (fH:ss.length<4611686018427387904) :
    Calls Tryz.prog 153 #[.slice (some ⟨aF,off,none⟩) ss.length cap] w fun e w'=>
      e=.returned (.tuple #[])/\∃ n os,w'=grow (putRow encStr (Sort.ahead w n) aF off (ss.mergeSort fun x y=>decide (x<=y)).toArray) os:=Any.slices_Sort_string Tryz.lays190 aF off cap ss w hH iB fH
open Go.RowKit Go.Sort in
theorem Tryz.slices_Sort_string_none (p:Option Addr) (cap:Nat) (w:World) :
    Calls Tryz.prog 153 #[.slice p 0 cap] w fun e w'=>e=.returned (.tuple #[])/\w'=w:=Any.slices_Sort_string_none Tryz.lays190 p cap w
end Go.Proofs
