import Derived.Test.YthlkmijffhhimaaGreatDoorProg
import Derived.Ground.SlbSplitProg
import Derived.Shelf.Bytes.SlSplit
import Derived.KernelRfl
open Bool renaming true->dY
open Go.Proofs.Tryz renaming prog->dG
open Option renaming some->Y
namespace Go.Proofs
open Go.Shelf Go.Lib Go.Proofs.Tryz
def Tryz.layS7_ren:Ren:=
  { f:=λx=>match x with|7=>251|11=>265|14=>287|15=>288|16=>289|17=>299|19=>300|20=>301|21=>302|22=>67|23=>303|24=>304|25=>305|26=>308|29=>309|30=>310|31=>311|n=>n,
    t:=λx=>match x with|22=>22|23=>47|3=>3|4=>4|0=>0|34=>372|21=>21|5=>5|45=>243|9=>9|58=>381|38=>225|28=>383|62=>386|61=>385|n=>n,
    g:=λx=>match x with|2=>2|3=>3|4=>4|n=>n}
theorem Tryz.layS7:SlLaysP.n7 dG Tryz.layS7_ren:=
  { mixed:=Eq.refl dY
    f7:=Eq.trans func251 (congrArg Y (Eq.refl (SlBodyP.n7 Tryz.layS7_ren)))
    f11:=Eq.trans func265 (congrArg Y (Eq.refl (SlBodyP.n11 Tryz.layS7_ren)))
    f15:=Eq.trans func288 (congrArg Y (Eq.refl (SlBodyP.n15 Tryz.layS7_ren)))
    f16:=Eq.trans func289 (congrArg Y (Eq.refl (SlBodyP.n16 Tryz.layS7_ren)))
    f20:=Eq.trans func301 (congrArg Y (Eq.refl (SlBodyP.n20 Tryz.layS7_ren)))
    f21:=Eq.trans func302 (congrArg Y (Eq.refl (SlBodyP.n21 Tryz.layS7_ren)))
    f22:=Eq.trans func67 (congrArg Y (Eq.refl (SlBodyP.n22 Tryz.layS7_ren)))
    f23:=Eq.trans func303 (congrArg Y (Eq.refl (SlBodyP.n23 Tryz.layS7_ren)))
    f24:=Eq.trans func304 (congrArg Y (Eq.refl (SlBodyP.n24 Tryz.layS7_ren)))
    f25:=Eq.trans func305 (congrArg Y (Eq.refl (SlBodyP.n25 Tryz.layS7_ren)))
    f30:=Eq.trans func310 (congrArg Y (Eq.refl (SlBodyP.n30 Tryz.layS7_ren)))
    f31:=Eq.trans func311 (congrArg Y (Eq.refl (SlBodyP.n31 Tryz.layS7_ren)))
    t0:=underlying0
    a0:=isAgg0
    z0:=sizeOf0
    v0:=zeroValue0
    t3:=underlying3
    a3:=isAgg3
    z3:=sizeOf3
    v3:=zeroValue3
    t4:=underlying4
    a4:=isAgg4
    z4:=sizeOf4
    v4:=zeroValue4
    t5:=underlying5
    a5:=isAgg5
    z5:=sizeOf5
    v5:=zeroValue5
    t9:=underlying9
    a9:=isAgg9
    z9:=sizeOf9
    v9:=zeroValue9
    t22:=underlying22
    a22:=isAgg22
    z22:=sizeOf22
    v22:=zeroValue22
    t23:=underlying47
    a23:=isAgg47
    z23:=sizeOf47
    v23:=zeroValue47
    t38:=underlying225
    a38:=isAgg225
    z38:=sizeOf225
    v38:=zeroValue225
    t45:=underlying243
    a45:=isAgg243
    z45:=sizeOf243
    v45:=zeroValue243
    t58:=underlying381
    a58:=isAgg381
    z58:=sizeOf381
    v58:=zeroValue381
    g2:=by kernel_rfl
    i22:=by kernel_rfl}
end Go.Proofs
