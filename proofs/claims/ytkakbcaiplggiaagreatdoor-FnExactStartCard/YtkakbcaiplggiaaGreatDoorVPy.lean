import Derived.Test.YtkakbcaiplggiaaGreatDoorProg
import Derived.Ground.SlbSplitProg
import Derived.Shelf.Bytes.SlSplit
import Derived.KernelRfl
namespace Go.Proofs
set_option linter.all false
open Go.Shelf Go.Lib Go.Proofs.Tryz
def Tryz.layS7_ren:Ren:=
  { f:=λx=>match x with|7=>232|11=>257|14=>267|15=>268|16=>269|17=>272|19=>273|20=>274|21=>275|22=>136|23=>276|24=>277|25=>278|26=>279|29=>280|30=>281|31=>282|n=>n,
    t:=λx=>match x with|22=>22|23=>76|3=>3|4=>4|0=>0|34=>314|21=>21|5=>5|45=>157|9=>9|58=>320|38=>168|28=>322|62=>325|61=>324|n=>n,
    g:=λx=>match x with|2=>1|3=>2|4=>3|n=>n}
def Tryz.layS7:SlLaysP.n7 prog Tryz.layS7_ren:=
  { mixed:=Eq.refl true
    f7:=Eq.trans func232 (congrArg some (Eq.refl (SlBodyP.n7 Tryz.layS7_ren)))
    f11:=Eq.trans func257 (congrArg some (Eq.refl (SlBodyP.n11 Tryz.layS7_ren)))
    f15:=Eq.trans func268 (congrArg some (Eq.refl (SlBodyP.n15 Tryz.layS7_ren)))
    f16:=Eq.trans func269 (congrArg some (Eq.refl (SlBodyP.n16 Tryz.layS7_ren)))
    f20:=Eq.trans func274 (congrArg some (Eq.refl (SlBodyP.n20 Tryz.layS7_ren)))
    f21:=Eq.trans func275 (congrArg some (Eq.refl (SlBodyP.n21 Tryz.layS7_ren)))
    f22:=Eq.trans func136 (congrArg some (Eq.refl (SlBodyP.n22 Tryz.layS7_ren)))
    f23:=Eq.trans func276 (congrArg some (Eq.refl (SlBodyP.n23 Tryz.layS7_ren)))
    f24:=Eq.trans func277 (congrArg some (Eq.refl (SlBodyP.n24 Tryz.layS7_ren)))
    f25:=Eq.trans func278 (congrArg some (Eq.refl (SlBodyP.n25 Tryz.layS7_ren)))
    f30:=Eq.trans func281 (congrArg some (Eq.refl (SlBodyP.n30 Tryz.layS7_ren)))
    f31:=Eq.trans func282 (congrArg some (Eq.refl (SlBodyP.n31 Tryz.layS7_ren)))
    t0:=underlying0
    a0:=isAgg0
    z0:=sizeOf0
    v0:=zeroValue0
    t3:=underlying3
    a3:=isAgg3
    z3:=sizeOf3
    v3:=zeroValue3
    t4:=underlying4
    a4:=isAgg4
    z4:=sizeOf4
    v4:=zeroValue4
    t5:=underlying5
    a5:=isAgg5
    z5:=sizeOf5
    v5:=zeroValue5
    t9:=underlying9
    a9:=isAgg9
    z9:=sizeOf9
    v9:=zeroValue9
    t22:=underlying22
    a22:=isAgg22
    z22:=sizeOf22
    v22:=zeroValue22
    t23:=underlying76
    a23:=isAgg76
    z23:=sizeOf76
    v23:=zeroValue76
    t38:=underlying168
    a38:=isAgg168
    z38:=sizeOf168
    v38:=zeroValue168
    t45:=underlying157
    a45:=isAgg157
    z45:=sizeOf157
    v45:=zeroValue157
    t58:=underlying320
    a58:=isAgg320
    z58:=sizeOf320
    v58:=zeroValue320
    g2:=by kernel_rfl
    i22:=by kernel_rfl}
end Go.Proofs
