import Derived.Test.YtcfcafeciggjeaaGreatDoorProg
import Derived.Ground.SlbSplitProg
import Derived.Shelf.Bytes.SlSplit
import Derived.KernelRfl
namespace Go.Proofs
open Go.Shelf Go.Lib Go.Proofs.Tryz
def Tryz.layS7_ren:Ren:=
  { f:=fun x=>match x with | 7=>175 | 11=>184 | 14=>205 | 15=>206 | 16=>207 | 17=>217 | 19=>218 | 20=>219 | 21=>220 | 22=>59 | 23=>221 | 24=>222 | 25=>223 | 26=>226 | 29=>227 | 30=>228 | 31=>229 | n=>n,
    t:=fun x=>match x with | 22=>22 | 23=>39 | 3=>3 | 4=>4 | 0=>0 | 34=>287 | 21=>21 | 5=>5 | 45=>180 | 9=>9 | 58=>296 | 38=>186 | 28=>298 | 62=>301 | 61=>300 | n=>n,
    g:=fun x=>match x with | 2=>2 | 3=>3 | 4=>4 | n=>n }
theorem Tryz.layS7:SlLaysP.n7 prog Tryz.layS7_ren:=
  { mixed:=Eq.refl true
    f7:=Eq.trans func175 (congrArg some (Eq.refl (SlBodyP.n7 Tryz.layS7_ren)))
    f11:=Eq.trans func184 (congrArg some (Eq.refl (SlBodyP.n11 Tryz.layS7_ren)))
    f15:=Eq.trans func206 (congrArg some (Eq.refl (SlBodyP.n15 Tryz.layS7_ren)))
    f16:=Eq.trans func207 (congrArg some (Eq.refl (SlBodyP.n16 Tryz.layS7_ren)))
    f20:=Eq.trans func219 (congrArg some (Eq.refl (SlBodyP.n20 Tryz.layS7_ren)))
    f21:=Eq.trans func220 (congrArg some (Eq.refl (SlBodyP.n21 Tryz.layS7_ren)))
    f22:=Eq.trans func59 (congrArg some (Eq.refl (SlBodyP.n22 Tryz.layS7_ren)))
    f23:=Eq.trans func221 (congrArg some (Eq.refl (SlBodyP.n23 Tryz.layS7_ren)))
    f24:=Eq.trans func222 (congrArg some (Eq.refl (SlBodyP.n24 Tryz.layS7_ren)))
    f25:=Eq.trans func223 (congrArg some (Eq.refl (SlBodyP.n25 Tryz.layS7_ren)))
    f30:=Eq.trans func228 (congrArg some (Eq.refl (SlBodyP.n30 Tryz.layS7_ren)))
    f31:=Eq.trans func229 (congrArg some (Eq.refl (SlBodyP.n31 Tryz.layS7_ren)))
    t0:=underlying0
    a0:=isAgg0
    z0:=sizeOf0
    v0:=zeroValue0
    t3:=underlying3
    a3:=isAgg3
    z3:=sizeOf3
    v3:=zeroValue3
    t4:=underlying4
    a4:=isAgg4
    z4:=sizeOf4
    v4:=zeroValue4
    t5:=underlying5
    a5:=isAgg5
    z5:=sizeOf5
    v5:=zeroValue5
    t9:=underlying9
    a9:=isAgg9
    z9:=sizeOf9
    v9:=zeroValue9
    t22:=underlying22
    a22:=isAgg22
    z22:=sizeOf22
    v22:=zeroValue22
    t23:=underlying39
    a23:=isAgg39
    z23:=sizeOf39
    v23:=zeroValue39
    t38:=underlying186
    a38:=isAgg186
    z38:=sizeOf186
    v38:=zeroValue186
    t45:=underlying180
    a45:=isAgg180
    z45:=sizeOf180
    v45:=zeroValue180
    t58:=underlying296
    a58:=isAgg296
    z58:=sizeOf296
    v58:=zeroValue296
    g2:=by kernel_rfl
    i22:=by kernel_rfl }
end Go.Proofs
