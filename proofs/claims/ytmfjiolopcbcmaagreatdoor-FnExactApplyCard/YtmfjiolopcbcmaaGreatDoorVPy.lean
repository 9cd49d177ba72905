import Derived.Test.YtmfjiolopcbcmaaGreatDoorProg
import Derived.Ground.SlbSplitProg
import Derived.Shelf.Bytes.SlSplit
import Derived.KernelRfl
namespace Go.Proofs
open Go.Shelf Go.Lib Go.Proofs.Tryz
def Tryz.layS7_ren:Ren:=
  { f:=fun x=>match x with | 7=>156 | 11=>166 | 14=>187 | 15=>188 | 16=>189 | 17=>199 | 19=>200 | 20=>201 | 21=>202 | 22=>203 | 23=>204 | 24=>205 | 25=>206 | 26=>209 | 29=>210 | 30=>211 | 31=>212 | n=>n,
    t:=fun x=>match x with | 22=>27 | 23=>36 | 3=>3 | 4=>4 | 0=>0 | 34=>276 | 21=>21 | 5=>5 | 45=>245 | 9=>9 | 58=>286 | 38=>259 | 28=>288 | 62=>291 | 61=>290 | n=>n,
    g:=fun x=>match x with | 2=>2 | 3=>3 | 4=>4 | n=>n }
theorem Tryz.layS7:SlLaysP.n7 prog Tryz.layS7_ren:=
  { mixed:=Eq.refl true
    f7:=Eq.trans func156 (congrArg some (Eq.refl (SlBodyP.n7 Tryz.layS7_ren)))
    f11:=Eq.trans func166 (congrArg some (Eq.refl (SlBodyP.n11 Tryz.layS7_ren)))
    f15:=Eq.trans func188 (congrArg some (Eq.refl (SlBodyP.n15 Tryz.layS7_ren)))
    f16:=Eq.trans func189 (congrArg some (Eq.refl (SlBodyP.n16 Tryz.layS7_ren)))
    f20:=Eq.trans func201 (congrArg some (Eq.refl (SlBodyP.n20 Tryz.layS7_ren)))
    f21:=Eq.trans func202 (congrArg some (Eq.refl (SlBodyP.n21 Tryz.layS7_ren)))
    f22:=Eq.trans func203 (congrArg some (Eq.refl (SlBodyP.n22 Tryz.layS7_ren)))
    f23:=Eq.trans func204 (congrArg some (Eq.refl (SlBodyP.n23 Tryz.layS7_ren)))
    f24:=Eq.trans func205 (congrArg some (Eq.refl (SlBodyP.n24 Tryz.layS7_ren)))
    f25:=Eq.trans func206 (congrArg some (Eq.refl (SlBodyP.n25 Tryz.layS7_ren)))
    f30:=Eq.trans func211 (congrArg some (Eq.refl (SlBodyP.n30 Tryz.layS7_ren)))
    f31:=Eq.trans func212 (congrArg some (Eq.refl (SlBodyP.n31 Tryz.layS7_ren)))
    t0:=underlying0
    a0:=isAgg0
    z0:=sizeOf0
    v0:=zeroValue0
    t3:=underlying3
    a3:=isAgg3
    z3:=sizeOf3
    v3:=zeroValue3
    t4:=underlying4
    a4:=isAgg4
    z4:=sizeOf4
    v4:=zeroValue4
    t5:=underlying5
    a5:=isAgg5
    z5:=sizeOf5
    v5:=zeroValue5
    t9:=underlying9
    a9:=isAgg9
    z9:=sizeOf9
    v9:=zeroValue9
    t22:=underlying27
    a22:=isAgg27
    z22:=sizeOf27
    v22:=zeroValue27
    t23:=underlying36
    a23:=isAgg36
    z23:=sizeOf36
    v23:=zeroValue36
    t38:=underlying259
    a38:=isAgg259
    z38:=sizeOf259
    v38:=zeroValue259
    t45:=underlying245
    a45:=isAgg245
    z45:=sizeOf245
    v45:=zeroValue245
    t58:=underlying286
    a58:=isAgg286
    z58:=sizeOf286
    v58:=zeroValue286
    g2:=by kernel_rfl
    i22:=by kernel_rfl }
end Go.Proofs
