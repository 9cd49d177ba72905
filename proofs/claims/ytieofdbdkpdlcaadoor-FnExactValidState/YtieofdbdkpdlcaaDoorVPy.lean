import Derived.Test.YtieofdbdkpdlcaaDoorProg
import Derived.Ground.SlbSplitProg
import Derived.Shelf.Bytes.SlSplit
import Derived.KernelRfl
namespace Go.Proofs
open Go.Shelf Go.Lib
def Tryd.layS7_ren : Ren :=
  { f := fun x => match x with | 7 => 28 | 11 => 61 | 14 => 93 | 15 => 94 | 16 => 95 | 17 => 110 | 19 => 111 | 20 => 112 | 21 => 113 | 22 => 45 | 23 => 114 | 24 => 115 | 25 => 116 | 26 => 121 | 29 => 122 | 30 => 123 | 31 => 124 | n => n,
    t := fun x => match x with | 22 => 22 | 23 => 52 | 3 => 3 | 4 => 4 | 0 => 0 | 34 => 147 | 21 => 21 | 5 => 5 | 45 => 89 | 9 => 9 | 58 => 158 | 38 => 157 | 28 => 160 | 62 => 163 | 61 => 162 | n => n,
    g := fun x => match x with | 2 => 1 | 3 => 2 | 4 => 3 | n => n }
theorem Tryd.layS7 : SlLaysP.n7 Tryd.prog Tryd.layS7_ren :=
  { mixed := Eq.refl true
    f7 := Eq.trans Tryd.func28 (congrArg some (Eq.refl (SlBodyP.n7 Tryd.layS7_ren)))
    f11 := Eq.trans Tryd.func61 (congrArg some (Eq.refl (SlBodyP.n11 Tryd.layS7_ren)))
    f15 := Eq.trans Tryd.func94 (congrArg some (Eq.refl (SlBodyP.n15 Tryd.layS7_ren)))
    f16 := Eq.trans Tryd.func95 (congrArg some (Eq.refl (SlBodyP.n16 Tryd.layS7_ren)))
    f20 := Eq.trans Tryd.func112 (congrArg some (Eq.refl (SlBodyP.n20 Tryd.layS7_ren)))
    f21 := Eq.trans Tryd.func113 (congrArg some (Eq.refl (SlBodyP.n21 Tryd.layS7_ren)))
    f22 := Eq.trans Tryd.func45 (congrArg some (Eq.refl (SlBodyP.n22 Tryd.layS7_ren)))
    f23 := Eq.trans Tryd.func114 (congrArg some (Eq.refl (SlBodyP.n23 Tryd.layS7_ren)))
    f24 := Eq.trans Tryd.func115 (congrArg some (Eq.refl (SlBodyP.n24 Tryd.layS7_ren)))
    f25 := Eq.trans Tryd.func116 (congrArg some (Eq.refl (SlBodyP.n25 Tryd.layS7_ren)))
    f30 := Eq.trans Tryd.func123 (congrArg some (Eq.refl (SlBodyP.n30 Tryd.layS7_ren)))
    f31 := Eq.trans Tryd.func124 (congrArg some (Eq.refl (SlBodyP.n31 Tryd.layS7_ren)))
    t0 := Tryd.underlying0
    a0 := Tryd.isAgg0
    z0 := Tryd.sizeOf0
    v0 := Tryd.zeroValue0
    t3 := Tryd.underlying3
    a3 := Tryd.isAgg3
    z3 := Tryd.sizeOf3
    v3 := Tryd.zeroValue3
    t4 := Tryd.underlying4
    a4 := Tryd.isAgg4
    z4 := Tryd.sizeOf4
    v4 := Tryd.zeroValue4
    t5 := Tryd.underlying5
    a5 := Tryd.isAgg5
    z5 := Tryd.sizeOf5
    v5 := Tryd.zeroValue5
    t9 := Tryd.underlying9
    a9 := Tryd.isAgg9
    z9 := Tryd.sizeOf9
    v9 := Tryd.zeroValue9
    t22 := Tryd.underlying22
    a22 := Tryd.isAgg22
    z22 := Tryd.sizeOf22
    v22 := Tryd.zeroValue22
    t23 := Tryd.underlying52
    a23 := Tryd.isAgg52
    z23 := Tryd.sizeOf52
    v23 := Tryd.zeroValue52
    t38 := Tryd.underlying157
    a38 := Tryd.isAgg157
    z38 := Tryd.sizeOf157
    v38 := Tryd.zeroValue157
    t45 := Tryd.underlying89
    a45 := Tryd.isAgg89
    z45 := Tryd.sizeOf89
    v45 := Tryd.zeroValue89
    t58 := Tryd.underlying158
    a58 := Tryd.isAgg158
    z58 := Tryd.sizeOf158
    v58 := Tryd.zeroValue158
    g2 := by kernel_rfl
    i22 := by kernel_rfl }
end Go.Proofs
