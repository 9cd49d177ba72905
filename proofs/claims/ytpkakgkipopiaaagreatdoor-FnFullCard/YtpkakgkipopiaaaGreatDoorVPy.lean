import Derived.Test.YtpkakgkipopiaaaGreatDoorProg
import Derived.Ground.SlbSplitProg
import Derived.Shelf.Bytes.SlSplit
import Derived.KernelRfl
open Bool renaming true->dY
open Go.Proofs.Tryz renaming prog->dG
open Option renaming some->Y
namespace Go.Proofs
open Go.Shelf Go.Lib Go.Proofs.Tryz
def Tryz.layS7_ren:Ren:=
  { f:=λx=>match x with|7=>222|11=>246|14=>256|15=>257|16=>258|17=>261|19=>262|20=>263|21=>264|22=>60|23=>265|24=>266|25=>267|26=>268|29=>269|30=>270|31=>271|n=>n,
    t:=λx=>match x with|22=>22|23=>40|3=>3|4=>4|0=>0|34=>327|21=>21|5=>5|45=>173|9=>9|58=>333|38=>174|28=>335|62=>338|61=>337|n=>n,
    g:=λx=>match x with|2=>2|3=>3|4=>4|n=>n}
theorem Tryz.layS7:SlLaysP.n7 dG Tryz.layS7_ren:=
  { mixed:=Eq.refl dY
    f7:=Eq.trans func222 (congrArg Y (Eq.refl (SlBodyP.n7 Tryz.layS7_ren)))
    f11:=Eq.trans func246 (congrArg Y (Eq.refl (SlBodyP.n11 Tryz.layS7_ren)))
    f15:=Eq.trans func257 (congrArg Y (Eq.refl (SlBodyP.n15 Tryz.layS7_ren)))
    f16:=Eq.trans func258 (congrArg Y (Eq.refl (SlBodyP.n16 Tryz.layS7_ren)))
    f20:=Eq.trans func263 (congrArg Y (Eq.refl (SlBodyP.n20 Tryz.layS7_ren)))
    f21:=Eq.trans func264 (congrArg Y (Eq.refl (SlBodyP.n21 Tryz.layS7_ren)))
    f22:=Eq.trans func60 (congrArg Y (Eq.refl (SlBodyP.n22 Tryz.layS7_ren)))
    f23:=Eq.trans func265 (congrArg Y (Eq.refl (SlBodyP.n23 Tryz.layS7_ren)))
    f24:=Eq.trans func266 (congrArg Y (Eq.refl (SlBodyP.n24 Tryz.layS7_ren)))
    f25:=Eq.trans func267 (congrArg Y (Eq.refl (SlBodyP.n25 Tryz.layS7_ren)))
    f30:=Eq.trans func270 (congrArg Y (Eq.refl (SlBodyP.n30 Tryz.layS7_ren)))
    f31:=Eq.trans func271 (congrArg Y (Eq.refl (SlBodyP.n31 Tryz.layS7_ren)))
    t0:=underlying0
    a0:=isAgg0
    z0:=sizeOf0
    v0:=zeroValue0
    t3:=underlying3
    a3:=isAgg3
    z3:=sizeOf3
    v3:=zeroValue3
    t4:=underlying4
    a4:=isAgg4
    z4:=sizeOf4
    v4:=zeroValue4
    t5:=underlying5
    a5:=isAgg5
    z5:=sizeOf5
    v5:=zeroValue5
    t9:=underlying9
    a9:=isAgg9
    z9:=sizeOf9
    v9:=zeroValue9
    t22:=underlying22
    a22:=isAgg22
    z22:=sizeOf22
    v22:=zeroValue22
    t23:=underlying40
    a23:=isAgg40
    z23:=sizeOf40
    v23:=zeroValue40
    t38:=underlying174
    a38:=isAgg174
    z38:=sizeOf174
    v38:=zeroValue174
    t45:=underlying173
    a45:=isAgg173
    z45:=sizeOf173
    v45:=zeroValue173
    t58:=underlying333
    a58:=isAgg333
    z58:=sizeOf333
    v58:=zeroValue333
    g2:=by kernel_rfl
    i22:=by kernel_rfl}
end Go.Proofs
