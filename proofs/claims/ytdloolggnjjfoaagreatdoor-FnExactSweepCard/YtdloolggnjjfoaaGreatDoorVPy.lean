import Derived.Test.YtdloolggnjjfoaaGreatDoorProg
import Derived.Ground.SlbSplitProg
import Derived.Shelf.Bytes.SlSplit
import Derived.KernelRfl
open Bool renaming true->dY
open Go.Proofs.Tryz renaming prog->dG
open Option renaming some->Y
namespace Go.Proofs
set_option linter.all false
open Go.Shelf Go.Lib Go.Proofs.Tryz
def Tryz.layS7_ren:Ren:=
  { f:=λx=>match x with|7=>246|11=>265|14=>288|15=>289|16=>290|17=>300|19=>301|20=>302|21=>303|22=>63|23=>304|24=>305|25=>306|26=>309|29=>310|30=>311|31=>312|n=>n,
    t:=λx=>match x with|22=>22|23=>44|3=>3|4=>4|0=>0|34=>372|21=>21|5=>5|45=>235|9=>9|58=>381|38=>217|28=>383|62=>386|61=>385|n=>n,
    g:=λx=>match x with|2=>2|3=>3|4=>4|n=>n}
def Tryz.layS7:SlLaysP.n7 dG Tryz.layS7_ren:=
  { mixed:=Eq.refl dY
    f7:=Eq.trans func246 (congrArg Y (Eq.refl (SlBodyP.n7 Tryz.layS7_ren)))
    f11:=Eq.trans func265 (congrArg Y (Eq.refl (SlBodyP.n11 Tryz.layS7_ren)))
    f15:=Eq.trans func289 (congrArg Y (Eq.refl (SlBodyP.n15 Tryz.layS7_ren)))
    f16:=Eq.trans func290 (congrArg Y (Eq.refl (SlBodyP.n16 Tryz.layS7_ren)))
    f20:=Eq.trans func302 (congrArg Y (Eq.refl (SlBodyP.n20 Tryz.layS7_ren)))
    f21:=Eq.trans func303 (congrArg Y (Eq.refl (SlBodyP.n21 Tryz.layS7_ren)))
    f22:=Eq.trans func63 (congrArg Y (Eq.refl (SlBodyP.n22 Tryz.layS7_ren)))
    f23:=Eq.trans func304 (congrArg Y (Eq.refl (SlBodyP.n23 Tryz.layS7_ren)))
    f24:=Eq.trans func305 (congrArg Y (Eq.refl (SlBodyP.n24 Tryz.layS7_ren)))
    f25:=Eq.trans func306 (congrArg Y (Eq.refl (SlBodyP.n25 Tryz.layS7_ren)))
    f30:=Eq.trans func311 (congrArg Y (Eq.refl (SlBodyP.n30 Tryz.layS7_ren)))
    f31:=Eq.trans func312 (congrArg Y (Eq.refl (SlBodyP.n31 Tryz.layS7_ren)))
    t0:=underlying0
    a0:=isAgg0
    z0:=sizeOf0
    v0:=zeroValue0
    t3:=underlying3
    a3:=isAgg3
    z3:=sizeOf3
    v3:=zeroValue3
    t4:=underlying4
    a4:=isAgg4
    z4:=sizeOf4
    v4:=zeroValue4
    t5:=underlying5
    a5:=isAgg5
    z5:=sizeOf5
    v5:=zeroValue5
    t9:=underlying9
    a9:=isAgg9
    z9:=sizeOf9
    v9:=zeroValue9
    t22:=underlying22
    a22:=isAgg22
    z22:=sizeOf22
    v22:=zeroValue22
    t23:=underlying44
    a23:=isAgg44
    z23:=sizeOf44
    v23:=zeroValue44
    t38:=underlying217
    a38:=isAgg217
    z38:=sizeOf217
    v38:=zeroValue217
    t45:=underlying235
    a45:=isAgg235
    z45:=sizeOf235
    v45:=zeroValue235
    t58:=underlying381
    a58:=isAgg381
    z58:=sizeOf381
    v58:=zeroValue381
    g2:=by kernel_rfl
    i22:=by kernel_rfl}
end Go.Proofs
