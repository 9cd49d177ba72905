import Derived.Test.YtnhnbpkfpaondaaGreatDoorProg
import Derived.Ground.SlbSplitProg
import Derived.Shelf.Bytes.SlSplit
import Derived.KernelRfl
namespace Go.Proofs
set_option linter.all false
open Go.Shelf Go.Lib Go.Proofs.Tryz
def Tryz.layS7_ren:Ren:=
  { f:=λx=>match x with|7=>232|11=>250|14=>274|15=>275|16=>276|17=>288|19=>289|20=>290|21=>291|22=>47|23=>292|24=>293|25=>294|26=>297|29=>298|30=>299|31=>300|n=>n,
    t:=λx=>match x with|22=>22|23=>124|3=>3|4=>4|0=>0|34=>338|21=>21|5=>5|45=>209|9=>9|58=>347|38=>191|28=>349|62=>352|61=>351|n=>n,
    g:=λx=>match x with|2=>0|3=>2|4=>3|n=>n}
def Tryz.layS7:SlLaysP.n7 prog Tryz.layS7_ren:=
  { mixed:=Eq.refl true
    f7:=Eq.trans func232 (congrArg some (Eq.refl (SlBodyP.n7 Tryz.layS7_ren)))
    f11:=Eq.trans func250 (congrArg some (Eq.refl (SlBodyP.n11 Tryz.layS7_ren)))
    f15:=Eq.trans func275 (congrArg some (Eq.refl (SlBodyP.n15 Tryz.layS7_ren)))
    f16:=Eq.trans func276 (congrArg some (Eq.refl (SlBodyP.n16 Tryz.layS7_ren)))
    f20:=Eq.trans func290 (congrArg some (Eq.refl (SlBodyP.n20 Tryz.layS7_ren)))
    f21:=Eq.trans func291 (congrArg some (Eq.refl (SlBodyP.n21 Tryz.layS7_ren)))
    f22:=Eq.trans func47 (congrArg some (Eq.refl (SlBodyP.n22 Tryz.layS7_ren)))
    f23:=Eq.trans func292 (congrArg some (Eq.refl (SlBodyP.n23 Tryz.layS7_ren)))
    f24:=Eq.trans func293 (congrArg some (Eq.refl (SlBodyP.n24 Tryz.layS7_ren)))
    f25:=Eq.trans func294 (congrArg some (Eq.refl (SlBodyP.n25 Tryz.layS7_ren)))
    f30:=Eq.trans func299 (congrArg some (Eq.refl (SlBodyP.n30 Tryz.layS7_ren)))
    f31:=Eq.trans func300 (congrArg some (Eq.refl (SlBodyP.n31 Tryz.layS7_ren)))
    t0:=underlying0
    a0:=isAgg0
    z0:=sizeOf0
    v0:=zeroValue0
    t3:=underlying3
    a3:=isAgg3
    z3:=sizeOf3
    v3:=zeroValue3
    t4:=underlying4
    a4:=isAgg4
    z4:=sizeOf4
    v4:=zeroValue4
    t5:=underlying5
    a5:=isAgg5
    z5:=sizeOf5
    v5:=zeroValue5
    t9:=underlying9
    a9:=isAgg9
    z9:=sizeOf9
    v9:=zeroValue9
    t22:=underlying22
    a22:=isAgg22
    z22:=sizeOf22
    v22:=zeroValue22
    t23:=underlying124
    a23:=isAgg124
    z23:=sizeOf124
    v23:=zeroValue124
    t38:=underlying191
    a38:=isAgg191
    z38:=sizeOf191
    v38:=zeroValue191
    t45:=underlying209
    a45:=isAgg209
    z45:=sizeOf209
    v45:=zeroValue209
    t58:=underlying347
    a58:=isAgg347
    z58:=sizeOf347
    v58:=zeroValue347
    g2:=by kernel_rfl
    i22:=by kernel_rfl}
end Go.Proofs
