import Derived.Test.YtjjnidignljppaaGreatDoorProg
import Derived.Ground.SlbSplitProg
import Derived.Shelf.Bytes.SlSplit
import Derived.KernelRfl
namespace Go.Proofs
set_option linter.all false
open Go.Shelf Go.Lib Go.Proofs.Tryz
def Tryz.layS7_ren:Ren:=
  { f:=fun x=>match x with|7=>222|11=>234|14=>237|15=>238|16=>239|17=>240|19=>241|20=>242|21=>243|22=>99|23=>244|24=>245|25=>246|26=>247|29=>248|30=>249|31=>250|n=>n,
    t:=fun x=>match x with|22=>22|23=>59|3=>3|4=>4|0=>0|34=>292|21=>21|5=>5|45=>133|9=>9|58=>298|38=>173|28=>300|62=>303|61=>302|n=>n,
    g:=fun x=>match x with|2=>1|3=>2|4=>3|n=>n}
def Tryz.layS7:SlLaysP.n7 prog Tryz.layS7_ren:=
  { mixed:=Eq.refl true
    f7:=Eq.trans func222 (congrArg some (Eq.refl (SlBodyP.n7 Tryz.layS7_ren)))
    f11:=Eq.trans func234 (congrArg some (Eq.refl (SlBodyP.n11 Tryz.layS7_ren)))
    f15:=Eq.trans func238 (congrArg some (Eq.refl (SlBodyP.n15 Tryz.layS7_ren)))
    f16:=Eq.trans func239 (congrArg some (Eq.refl (SlBodyP.n16 Tryz.layS7_ren)))
    f20:=Eq.trans func242 (congrArg some (Eq.refl (SlBodyP.n20 Tryz.layS7_ren)))
    f21:=Eq.trans func243 (congrArg some (Eq.refl (SlBodyP.n21 Tryz.layS7_ren)))
    f22:=Eq.trans func99 (congrArg some (Eq.refl (SlBodyP.n22 Tryz.layS7_ren)))
    f23:=Eq.trans func244 (congrArg some (Eq.refl (SlBodyP.n23 Tryz.layS7_ren)))
    f24:=Eq.trans func245 (congrArg some (Eq.refl (SlBodyP.n24 Tryz.layS7_ren)))
    f25:=Eq.trans func246 (congrArg some (Eq.refl (SlBodyP.n25 Tryz.layS7_ren)))
    f30:=Eq.trans func249 (congrArg some (Eq.refl (SlBodyP.n30 Tryz.layS7_ren)))
    f31:=Eq.trans func250 (congrArg some (Eq.refl (SlBodyP.n31 Tryz.layS7_ren)))
    t0:=underlying0
    a0:=isAgg0
    z0:=sizeOf0
    v0:=zeroValue0
    t3:=underlying3
    a3:=isAgg3
    z3:=sizeOf3
    v3:=zeroValue3
    t4:=underlying4
    a4:=isAgg4
    z4:=sizeOf4
    v4:=zeroValue4
    t5:=underlying5
    a5:=isAgg5
    z5:=sizeOf5
    v5:=zeroValue5
    t9:=underlying9
    a9:=isAgg9
    z9:=sizeOf9
    v9:=zeroValue9
    t22:=underlying22
    a22:=isAgg22
    z22:=sizeOf22
    v22:=zeroValue22
    t23:=underlying59
    a23:=isAgg59
    z23:=sizeOf59
    v23:=zeroValue59
    t38:=underlying173
    a38:=isAgg173
    z38:=sizeOf173
    v38:=zeroValue173
    t45:=underlying133
    a45:=isAgg133
    z45:=sizeOf133
    v45:=zeroValue133
    t58:=underlying298
    a58:=isAgg298
    z58:=sizeOf298
    v58:=zeroValue298
    g2:=by kernel_rfl
    i22:=by kernel_rfl}
end Go.Proofs
