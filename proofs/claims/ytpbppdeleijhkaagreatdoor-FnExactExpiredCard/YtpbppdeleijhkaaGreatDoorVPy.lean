import Derived.Test.YtpbppdeleijhkaaGreatDoorProg
import Derived.Ground.SlbSplitProg
import Derived.Shelf.Bytes.SlSplit
import Derived.KernelRfl
namespace Go.Proofs
open Go.Shelf Go.Lib
def Tryz.layS7_ren : Ren :=
  { f := fun x => match x with | 7 => 202 | 11 => 218 | 14 => 240 | 15 => 241 | 16 => 242 | 17 => 252 | 19 => 253 | 20 => 254 | 21 => 255 | 22 => 53 | 23 => 256 | 24 => 257 | 25 => 258 | 26 => 261 | 29 => 262 | 30 => 263 | 31 => 264 | n => n,
    t := fun x => match x with | 22 => 22 | 23 => 137 | 3 => 3 | 4 => 4 | 0 => 0 | 34 => 259 | 21 => 21 | 5 => 5 | 45 => 120 | 9 => 9 | 58 => 268 | 38 => 166 | 28 => 270 | 62 => 273 | 61 => 272 | n => n,
    g := fun x => match x with | 2 => 1 | 3 => 2 | 4 => 3 | n => n }
theorem Tryz.layS7 : SlLaysP.n7 Tryz.prog Tryz.layS7_ren :=
  { mixed := Eq.refl true
    f7 := Eq.trans Tryz.func202 (congrArg some (Eq.refl (SlBodyP.n7 Tryz.layS7_ren)))
    f11 := Eq.trans Tryz.func218 (congrArg some (Eq.refl (SlBodyP.n11 Tryz.layS7_ren)))
    f15 := Eq.trans Tryz.func241 (congrArg some (Eq.refl (SlBodyP.n15 Tryz.layS7_ren)))
    f16 := Eq.trans Tryz.func242 (congrArg some (Eq.refl (SlBodyP.n16 Tryz.layS7_ren)))
    f20 := Eq.trans Tryz.func254 (congrArg some (Eq.refl (SlBodyP.n20 Tryz.layS7_ren)))
    f21 := Eq.trans Tryz.func255 (congrArg some (Eq.refl (SlBodyP.n21 Tryz.layS7_ren)))
    f22 := Eq.trans Tryz.func53 (congrArg some (Eq.refl (SlBodyP.n22 Tryz.layS7_ren)))
    f23 := Eq.trans Tryz.func256 (congrArg some (Eq.refl (SlBodyP.n23 Tryz.layS7_ren)))
    f24 := Eq.trans Tryz.func257 (congrArg some (Eq.refl (SlBodyP.n24 Tryz.layS7_ren)))
    f25 := Eq.trans Tryz.func258 (congrArg some (Eq.refl (SlBodyP.n25 Tryz.layS7_ren)))
    f30 := Eq.trans Tryz.func263 (congrArg some (Eq.refl (SlBodyP.n30 Tryz.layS7_ren)))
    f31 := Eq.trans Tryz.func264 (congrArg some (Eq.refl (SlBodyP.n31 Tryz.layS7_ren)))
    t0 := Tryz.underlying0
    a0 := Tryz.isAgg0
    z0 := Tryz.sizeOf0
    v0 := Tryz.zeroValue0
    t3 := Tryz.underlying3
    a3 := Tryz.isAgg3
    z3 := Tryz.sizeOf3
    v3 := Tryz.zeroValue3
    t4 := Tryz.underlying4
    a4 := Tryz.isAgg4
    z4 := Tryz.sizeOf4
    v4 := Tryz.zeroValue4
    t5 := Tryz.underlying5
    a5 := Tryz.isAgg5
    z5 := Tryz.sizeOf5
    v5 := Tryz.zeroValue5
    t9 := Tryz.underlying9
    a9 := Tryz.isAgg9
    z9 := Tryz.sizeOf9
    v9 := Tryz.zeroValue9
    t22 := Tryz.underlying22
    a22 := Tryz.isAgg22
    z22 := Tryz.sizeOf22
    v22 := Tryz.zeroValue22
    t23 := Tryz.underlying137
    a23 := Tryz.isAgg137
    z23 := Tryz.sizeOf137
    v23 := Tryz.zeroValue137
    t38 := Tryz.underlying166
    a38 := Tryz.isAgg166
    z38 := Tryz.sizeOf166
    v38 := Tryz.zeroValue166
    t45 := Tryz.underlying120
    a45 := Tryz.isAgg120
    z45 := Tryz.sizeOf120
    v45 := Tryz.zeroValue120
    t58 := Tryz.underlying268
    a58 := Tryz.isAgg268
    z58 := Tryz.sizeOf268
    v58 := Tryz.zeroValue268
    g2 := by kernel_rfl
    i22 := by kernel_rfl }
end Go.Proofs
