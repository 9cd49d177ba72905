import Derived.KernelRfl
import Derived.IntWalk
import Derived.Test.YthlkmijffhhimaaGreatDoorProg
import Derived.WalkKit
import Derived.Below
import Derived.Deep.RegionHeld3
import Derived.Tactics
import Derived.Tactics2
import Derived.LoopTactic
import Derived.Deep.Cut
import Derived.WalkSpells
import Derived.WalkLawsBesides
import Derived.BigQuiet
import Derived.ProofKit
import Derived.OpenShut
import Derived.Deep.QuietTactic
import Derived.Deep.Fields23
import Derived.Deep.Strs
import Derived.Lib.AppendZeros
import Derived.Deep.RegionLaw
import Derived.Lib.SlSplitV
import Derived.Lib.IndexBytes
import Derived.Lib.CountLaws
import Derived.Lib.Bytes
import Derived.Laws.BytesString
import Derived.Deep.DeepCutAuto
import Derived.Sort.AssemblyPlain
import Derived.Sort.Row
import Derived.RangeFuncOwn
import Derived.RangeFuncSeq
open Array renaming setIfInBounds->jI,size->U
open Bool renaming false->dF,true->dY
open Decidable renaming decide->dD
open Go renaming undef->jQ,Calls->dQ,Value->dV,World->G
open Go.Ending renaming returned->dR
open Go.IntKind renaming i64->jV
open Go.Obj renaming cells->dO
open Go.Proofs.Tryz renaming prog->dG
open Go.Region renaming wanted->jW
open Go.RowKit renaming Hid->O
set_option linter.all false
namespace Eq
def Z:=@Eq.trans
def C:=@Eq.symm
end Eq
namespace Iff
def Z:=@Iff.trans
def C:=@Iff.symm
end Iff
namespace Ne
def C:=@Ne.symm
end Ne
namespace Or
def C:=@Or.symm
def L:=@Or.inl
def R:=@Or.inr
end Or
namespace List.Perm
def Z:=@List.Perm.trans
def C:=@List.Perm.symm
end List.Perm
namespace Go.RowKit.Below
def Z:=@trans
def h:=@mono
end Go.RowKit.Below
namespace Go.KeepsOthers
def Z:=@KeepsOthers.trans
end Go.KeepsOthers
namespace Go.KeepsWalks
def Z:=@KeepsWalks.trans
end Go.KeepsWalks
namespace Go.Calls
def h:=@mono
end Go.Calls
namespace Go.CallsIn
def h:=@mono
end Go.CallsIn
namespace Go.RoundIn
def h:=@mono
end Go.RoundIn
namespace Go.World.ownsMap
def h:=@mono
end Go.World.ownsMap
namespace Go.Value
abbrev U(x:Int):Value:=.int .u64 x
abbrev I(x:Int):Value:=.int .i64 x
abbrev S(p:Option Addr)(n c:Nat):Value:=.slice p n c
abbrev T(g n c:Nat):Value:=.slice (some ⟨g,0,none⟩) n c
end Go.Value
namespace Go.Lit
abbrev U(x:Int):Lit:=.int .u64 x
abbrev I(x:Int):Lit:=.int .i64 x
end Go.Lit
open Go.Value renaming ownBlock->jB,string->jJ,int->jK,bool->jO,agg->jP,S->dS,tuple->dT
open Go.World renaming alloc->jA,frozen?->jF,grownBy->jG,heap->Q,setCell->jS,cell?->I
open Int renaming toNat->jN
open List renaming drop->jD,getD->jE,flatten->jL,take->jT,length->J
open Option renaming none->dN,some->Y
namespace Go.Proofs.YthlkmijffhhimaaGreatDoor
set_option maxHeartbeats 1600000
set_option linter.all false
set_option maxRecDepth 100000
abbrev iE:Type:=Exit->Act->World->Prop
abbrev iP:Type:=World->Prop
abbrev iN:Type:=List Nat
abbrev iA:Type:=Array Value
abbrev iQ:Type:=Array Oper
abbrev Bw(w v:World):Prop:=Go.RowKit.Below w.heap.size w v
abbrev ay:Value:=.slice none 0 0
abbrev Rb(v:Value)(w:World):Ending->World->Prop:=λe w'=>e=.returned v/\Bw w w'
abbrev Mg(n:Nat):Prop:=n<=1048576
abbrev Ad(b o:Nat):Addr:=⟨b,o,none⟩
abbrev Aw(w:World)(o:Nat):Addr:=⟨w.heap.size,o,none⟩
abbrev Ax(w:World)(o:Nat):Addr:=⟨w.heap.size+1,o,none⟩
abbrev Pz(b:Nat):Value:=.pointer (some ⟨b,0,none⟩)
theorem bG{a b:Prop}(i:a)(j:b):Go.RowKit.Hid (a/\b):=⟨i,j⟩
theorem eG{a b c:Prop}(i:a)(j:b)(k:c):Go.RowKit.Hid (a/\b/\c):=⟨i,j,k⟩
theorem gJ{a b c d:Prop}(i:a)(j:b)(k:c)(l:d):Go.RowKit.Hid (a/\b/\c/\d):=⟨i,j,k,l⟩
theorem nK{a b c d e:Prop}(i:a)(j:b)(k:c)(l:d)(m:e):Go.RowKit.Hid (a/\b/\c/\d/\e):=⟨i,j,k,l,m⟩
theorem IV{a b c d e f:Prop}(i:a)(j:b)(k:c)(l:d)(m:e)(n:f):Go.RowKit.Hid (a/\b/\c/\d/\e/\f):=⟨i,j,k,l,m,n⟩
theorem cQ8{a b c d e f g:Prop}(i:a)(j:b)(k:c)(l:d)(m:e)(n:f)(q:g):Go.RowKit.Hid (a/\b/\c/\d/\e/\f/\g):=⟨i,j,k,l,m,n,q⟩
abbrev Ce(w:World)(b o:Nat)(v:Value):Prop:=w.cell? ⟨b,o,none⟩=some v
abbrev OA:Type:=Option Addr
abbrev LI:Type:=List Int
abbrev Cp(f:FuncId)(a:Array Value)(w:World)(R:Ending->World->Prop):Prop:=Calls Tryz.prog f a w R
open Go.RowKit
theorem aE{a b:Prop}(x:a)(y:b):a/\b:=⟨x,y⟩
theorem db{B:Nat}{w:World}:Below B w w:=Below.refl B w
theorem aj{W w1 i:World}(h:Below W.heap.size W w1)(k:Below w1.heap.size w1 i):Below W.heap.size W i:=h.Z (k.h h.size)
theorem aU{n:Nat}:n<=n:=Nat.le_refl n
theorem bN{α:Type}{l:List α}{i:Nat}(h:i<l.length):l[i]?=some l[i]:=List.getElem?_eq_getElem h
theorem bH{α:Type}{i:Nat}{a:α}{l:List α}:l[i]?=some a↔∃h:i<l.length,l[i]=a:=List.getElem?_eq_some_iff
theorem bq{α:Type}{l:List α}{i:Nat}{a:α}(h:l[i]?=some a):a∈l:=List.mem_of_getElem? h
theorem eX1{α:Type}{l:List α}{i j:Nat}(h:i≠j){a:α}:(l.set i a)[j]?=l[j]?:=List.getElem?_set_ne h
theorem gh(w:World)(a:Addr)(u:Value)(k:Nat)(h:k≠a.block):(w.setCell a u).heap[k]?=w.heap[k]?:=RowKit.Below.heap_setCell w a u k h
theorem AJ{i:Exit->Act->World->Prop}{a:Act}{w:World}(h:i Exit.normal a w):NoPanic i Exit.normal a w:=NoPanic.normal h
theorem aF{α:Sort _}(x:α):∃y,y=x:=⟨x,rfl⟩
theorem bu{α:Sort _}(x:α):∃y,x=y:=⟨x,rfl⟩
theorem ri{c:Prop}{α:Sort _}[Decidable c]{a b:α}(h:¬c:=by decide):(if c then a else b)=b:=if_neg h
theorem bD0{p q:Prop}(h:p)(n:¬p:=by decide):q:=absurd h n
theorem cQ5{P:Program}{md:Region.Mode}{ops:iQ}{iZ:Exit->Act->World->Prop}{S:World->Prop}{l:Array Bool}{a:Act}{w:World}{n:Nat}(h:iZ .normal a w)(hr:Region.ready md ops l=[]:=by kernel_rfl):wpAnyH P md ops iZ S n l a w:=wpAnyH_done hr h n
theorem fQ{P:Program}{md:Region.Mode}{ops:iQ}{iZ:Exit->Act->World->Prop}{S:World->Prop}{l:Array Bool}{a:Act}{w:World}{n:Nat}(h:iZ .normal a w)(hr:Region.ready md ops l=[]:=by kernel_rfl):wpAnyH P md ops (NoPanic iZ) S n l a w:=wpAnyH_done hr (NoPanic.normal h) n
theorem fw{P:Program}{ops:iQ}{iZ:Exit->Act->World->Prop}{id:Nat}{a:Act}{w:World}(S:World->Prop)(hS:S w.drew)(h:S w.drew->wpAnyH P .any ops (NoPanic iZ) S ops.size (Array.replicate ops.size false) a w.drew)(hm:P.follows .mixedOrders=true:=by kernel_rfl):(Code.region id ops true).wp P iZ a w:=wp_region_noPanic (wp_region_held_drew hm hS h)
theorem ir{w W:World}{o:Obj}(h:W=w.alloc o):Below w.heap.size w W:=by rw[h];exact(Below.refl _ _).alloc (Nat.le_refl _) _
theorem kH{w W:World}(h:W=w.drew):Below w.heap.size w W:=by rw[h];exact(Below.refl _ _).drew
theorem cM(a b:Nat)(h:(a:Int)<(b:Int):=by omega):(a:Int)<(b:Int):=h
theorem qx(a b:Nat)(h:(a:Int)<=(b:Int):=by omega):(a:Int)<=(b:Int):=h
theorem ga(a b:Nat)(h:¬(a:Int)<(b:Int):=by omega):¬(a:Int)<(b:Int):=h
theorem uX(a:Int)(b:Nat)(h:a<(b:Int):=by omega):a<(b:Int):=h
theorem gS(a:Int)(b:Nat)(h:a<=(b:Int):=by omega):a<=(b:Int):=h
theorem iM(a:Nat)(h: -9223372036854775808<=(a:Int)/\(a:Int)<=9223372036854775807:=by omega):IntKind.i64.wrap (a:Int)=(a:Int):=IntWalk.i64_in _ h
theorem yr{a b c d:Nat}(h:some (⟨a,b,none⟩:Addr)=some ⟨c,d,none⟩):a=c/\b=d:=by simpa using h
theorem fM5{p:Prop}(h:p:=by(intro a ha;first|(simp at ha;done)|(simp only[List.mem_append,List.mem_cons,List.not_mem_nil,List.nil_append,or_false]at ha⊢;grind))):p:=h
theorem bL{p:Prop}(h:p:=by(simp;omega)):p:=h
theorem kW{p:Prop}(h:p:=by(unfold maxLen;omega)):p:=h
theorem di{p:Prop}(h:p:=by(show _=_;rfl)):p:=h
theorem af{p:Prop}(h:p:=by(omega)):p:=h
theorem al{p:Prop}(h:p:=by(simp)):p:=h
theorem bf{p:Prop}(h:p:=by(decide)):p:=h
theorem aS{p:Prop}(h:p:=by(kernel_rfl)):p:=h
theorem aY{p:Prop}(h:p:=by(rfl)):p:=h
theorem dy{p:Prop}(h:p:=by(simp[intOf];omega)):p:=h
theorem GX:(∀l:List Value,l.toArray.size=l.length)/\(∀(a:Value)l,(a::l).length=l.length+1)/\(([]:List Value).length=0)/\(∀n(a:Value),Array.replicate (n+1) a=(Array.replicate n a).push a)/\(∀a:Value,Array.replicate 0 a=#[])/\(∀(l:List Value)a,l.toArray.push a=(l++[a]).toArray)/\(∀l k:List Value,l.toArray++k.toArray=(l++k).toArray)/\(∀l:List Value,[]++l=l)/\(∀(a:Value)l k,(a::l)++k=a::(l++k)):=⟨λ_=>by simp,λ_ _=>by simp,by simp,λ_ _=>Array.replicate_succ,λ_=>Array.replicate_zero,λ_ _=>by simp,λ_ _=>by simp,λ_=>by simp,λ_ _ _=>by simp⟩
theorem aM{p q:Prop}(h:p)(k:p->q:=by(intro _;omega)):q:=k h
theorem mh{p q:Option Addr}{a b c d:Nat}(h:Value.slice p a b=Value.slice q c d):p=q/\a=c/\b=d:=by simpa using h
theorem qH{α:Type}{l:List α}{i:Nat}(h:i<l.length):∃y,l[i]?=some y:=⟨_,List.getElem?_eq_getElem h⟩
def aJ:=@if_neg
def aK:=@if_pos
def bD:=@Go.RowKit.Below.refl
def cX:=@Go.bodyPost_ret
def de:=@Nat.zero_le
def iH:=@trivial
def fe:=@List.length_append
def fM:=@List.mem_map
def fS:=@Nat.le_refl
def gD:=@List.mem_cons
def rE:=@Go.Value.slice.injEq
def iC:=@List.length_map
def gP:=@Bool.and_eq_true
def lE:=@Prod.mk.injEq
def gq:=@Nat.le_trans
def ko:=@List.getD_eq_getElem?_getD
def vj:=@congrArg
def jl:=@List.mem_append
def lh:=@List.mem_iff_getElem?
def mO:=@List.length_cons
def od:=@List.map_cons
def mL:=@List.all_eq_true
def mn:=@decide_eq_true_eq
def mH:=@Nat.lt_of_lt_of_le
def oK:=@Option.some.injEq
def nZ:=@List.take_of_length_le
def tA:=@List.getElem?_zipWith
def uk:=@List.map_append
def nY:=@Nat.zero_add
def qU:=@List.getElem?_map
def nW:=@Go.IntWalk.i64_in
def oI:=@List.getElem?_append_left
def rD:=@List.take_add_one
def wS:=@List.take_length
def tz:=@List.length_take
def qT:=@List.getElem?_append_right
def qS:=@List.length_set
def my:=@Go.World.block_lt_of_cell?
def yG:=@Bool.true_and
def wR:=@decide_eq_true_iff
def rC:=@List.mem_singleton
def qR:=@if_true
def tv:=@Option.getD_some
def vG:=@List.getElem?_set
def wG:=@List.take_zero
def uK:=@List.length_drop
def uJ:=@List.length_eq_zero_iff
def xL:=@List.append_assoc
def BM:=@Go.results_none
def vF:=@List.flatten_cons
def NQ:=@decide_eq_false
def yF:=@List.drop_zero
def rY:=@Int.toNat_natCast
def uI:=@List.map_map
def Rg:=@Bool.and_eq_false_iff
def Gn:=@List.nodup_cons
def tp:=@Go.RowKit.Below.setCell
def rB:=@List.getElem?_toArray
def xK:=@List.mem_range
def Df:=@List.drop_succ_cons
def BK:=@if_false
def Af:=@List.getElem?_of_mem
def Ac:=@Array.getElem?_modify
def Ab:=@Nat.sub_self
def BJ:=@List.length_nil
def De:=@List.getElem_mem
def Gm:=@List.nodup_append
def Ej:=@List.take_succ_cons
def Dc:=@Option.bind_some
def LH:=@decide_eq_false_iff_not
def rW:=@Go.RowKit.ownsRow_setCell_below
def sR:=@List.getElem?_cons_succ
def sQ:=@List.getElem?_cons_zero
def LG:=@decide_eq_true
def Db:=@List.pairwise_map
def Gl:=@Go.World.frozen?_setCell
def Gk:=@List.cons_append
def Da:=@List.append_nil
def H7:=@List.mem_append_right
def CU:=@Option.some.inj
def Gj:=@Bool.eq_false_iff
def JE:=@Option.map_some
def JD:=@List.map_nil
def LF:=@Array.getElem?_eq_some_iff
def Eh:=@List.nil_append
def Ly:=@List.drop_drop
def H6:=@List.pairwise_iff_getElem
def JC:=@not_or
def Hz:=@List.eq_nil_of_length_eq_zero
def Eg:=@List.mem_flatten
def JB:=@Bool.false_eq_true
def Lx:=@List.drop_eq_getElem_cons
def NK:=@List.getElem?_drop
def Za:=@Go.RowKit.Below.heap_alloc
def Gi:=@beq_iff_eq
def Lw:=@List.foldl_cons
def Ef:=@true_and
def Gg:=@Nat.succ_mul
def Sa:=@Nat.add_sub_cancel
def LU:=@List.pairwise_cons
def Og:=@Nat.lt_trichotomy
def RM:=@List.map_congr_left
def LR:=@Decidable.em
def JN:=@List.take_append_drop
def RJ:=@List.getElem_of_mem
def Of:=@List.mem_append_left
def El:=@Nat.mul_one
def RH:=@Go.World.cell?_setCell_same
def JM:=@or_false
def Oe:=@List.findIdx?_eq_some_iff_getElem
def Oc:=@Option.map_eq_some_iff
def Ob:=@Int.toNat_of_nonneg
def RG:=@List.set_cons_zero
def Ek:=@Nat.add_zero
def Oa:=@List.mem_of_mem_drop
def Rz:=@List.mem_of_mem_take
def bd4:=@List.getElem?_take
def Ry:=@Bool.eq_iff_iff
def Rw:=@Go.World.cell?_setCell_other
def Rv:=@Go.IntWalk.wrap64_in
def Ru:=@List.ext_getElem?
def Rt:=@List.length_take_le
def Rr:=@List.length_eraseIdx
def LO:=@List.eraseIdx_sublist
def N9:=@List.mem_of_mem_eraseIdx
def Rp:=@Go.RowKit.Below.drew
def LM:=@List.flatten_append
def VW:=@List.drop_eq_nil_of_le
def yJ:=@Nat.add_assoc
def VU:=@List.any_eq_true
def VT:=@Bool.false_or
def Ro:=@Bool.or_eq_true
def Rn:=@List.not_mem_nil
def JL:=@List.mem_filter
def N8:=@List.getElem?_zip_eq_some
def VS:=@List.set_set
def VR:=@List.sum_cons
def Zq:=@List.take_succ_eq_append_getElem
def Zp:=@List.set_append_right
def Zo:=@List.all_eq_false
def Zn:=@Nat.pow_succ
def Zm:=@Nat.mul_comm
def Rm:=@Nat.mul_le_mul_right
def VQ:=@List.foldl_append
def Zl:=@List.mem_map_of_mem
def Zk:=@dif_pos
def Zj:=@Nat.xor_lt_two_pow
def Zi:=@List.find?_some
def VP:=@List.find?_eq_none
def NU:=@List.mem_or_eq_of_mem_set
def VO:=@List.length_filter_le
def VN:=@List.length_zip
def VM:=@of_decide_eq_true
def VK:=@List.map_set
def cj1:=@Bool.false_and
def av4:=@decide_false
def bd3:=@beq_eq_false_iff_ne
def Zh:=@Array.toList_inj
def bd2:=@Array.getElem?_toList
def av3:=@Nat.le_of_lt
def av2:=@List.nodup_nil
def Rl:=@Go.RowKit.Below.heap_setCell
def Zg:=@List.mem_of_find?_eq_some
def bd1:=@List.map_id
def NS:=@List.length_pos_iff
def av1:=@List.filter_append
def av0:=@List.findIdx?_eq_none_iff
def VJ:=@Nat.le_succ
def JK:=@Int.eq_ofNat_of_zero_le
def au9:=@Int.pow_succ
def bd0:=@Nat.add_comm
def bc9:=@List.all_cons
def bc8:=@List.flatten_nil
def bc7:=@List.range_succ
def bc6:=@Nat.div_lt_iff_lt_mul
def ft2:=@Go.Value.bool.injEq
def bc5:=@Bool.not_not
def bc4:=@Bool.not_false
def cj0:=@UInt8.lt_irrefl
def bc3:=@UInt8.not_lt
def bc2:=@Go.Value.int.injEq
def bc1:=@List.getElem?_set_self
def bb9:=@List.nodup_range
def bb8:=@List.getElem_map
def bb7:=@List.zipWith_append
def bb6:=@List.perm_middle
def bb5:=@Int.ofNat_tdiv
def ci9:=@Option.isSome_none
def bb4:=@not_true_eq_false
def ba9:=@List.set_cons_succ
def ba8:=@Nat.min_eq_left
def ba7:=@List.drop_of_length_le
def ba6:=@List.getElem?_eraseIdx
def ba5:=@List.eraseIdx_of_length_le
def au8:=@List.getLast?_eq_getElem?
def ba4:=@Nat.mul_succ
def dM0:=@Array.getElem?_eq_none
def ba3:=@Nat.pow_le_pow_right
def dL9:=@List.prefix_append_right_inj
def ci8:=@Nat.add_sub_cancel_left
def dL8:=@List.getElem?_take_of_lt
def ci7:=@List.pairwise_mergeSort
def ci6:=@Decidable.byContradiction
def ci5:=@List.zipWith_cons_cons
def ci4:=@Classical.byContradiction
def ci3:=@List.mem_eraseIdx_iff_getElem?
def ci2:=@List.eraseIdx_append_of_length_le
def ci1:=@List.length_eq_one_iff
def ci0:=@Array.getD_eq_getD_getElem?
def ch9:=@List.length_pos_of_mem
def ch8:=@Int.ediv_ediv_of_nonneg
def ch7:=@List.setIfInBounds_toArray
def fN:=@Go.AllReadyH.nil
def mJ:=@Go.info_parts
def qe:=@Go.World.ownsRow_nil
def qV:=@Go.wpStill_nil
def wV:=@Go.IntKind.wrap_u64
def yI:=@Go.callsIn_of_wp
def JI:=@Go.callsIn_wide
def Dg:=@Go.World.frozen?_of_block
def JH:=@Go.World.cell?_of_block
def JG:=@Go.wpAnyH_take
def LK:=@Go.IntKind.wrap_u8
def Ia:=@Go.Addr.add_lit
def NR:=@Go.Lit.int.injEq
def Rk:=@Go.World.ownsRow.cellAt
def VI:=@Go.World.ownsRow.lt
def Rj:=@Go.World.ownsRow.kept
def VH:=@Go.wpList_append_own
def VG:=@Go.Result.ok.injEq
def VF:=@Go.Oper.upon_enter
def ba2:=@Go.Sem.run_pure
def Zf:=@Go.World.grownBy_alloc
def ba1:=@Go.Oper.semAt_eq
def VE:=@Go.wp_region_noPanic
def Ze:=@Go.World.cell?_setCell_far
def au7:=@Go.WideAt.sameKey_self
def Zd:=@Go.World.cell?_setCell_same'
def au6:=@Go.RowKit.run_makeMap
def au5:=@Go.WideAt.sameKey_iff
def VB:=@Go.wp_region_held_drew
def au4:=@Go.DataW.trod_bool
def uL:=@Go.DataW.trod_int
def ba0:=@Go.run_underlying
def aZ9:=@Go.World.ownsRow_lit
def aZ8:=@Go.Ending.returned.injEq
def aZ7:=@Go.Lit.string.injEq
def Ri:=@Go.Sem.run_bind
def aZ6:=@Go.run_append_own
def aZ5:=@Go.MapKept.heap_alloc
def aZ4:=@Go.bits_xor_u64_nat
def JF:=@Ne.C
def dL7:=@Go.Addr.mk.injEq
def aZ3:=@and_true
def au3:=@Go.grownCap_ge
def au2:=@Go.grownCap_le_maxLen
def au1:=@Go.size_zeroCells
def aZ2:=@Array.size_append
def aZ1:=@ByteArray.ext
def aZ0:=@List.pairwise_append
def ft1:=@ByteArray.data_extract
def ch6:=@List.exists_cons_of_ne_nil
def ch5:=@List.Sublist.length_le
def Gp:=@Int.le_refl
def aY9:=@List.mem_nil_iff
def H8:=@Go.run_callFunc_extern
def LJ:=@Go.Calls.h
def Rh:=@Go.World.cell?_alloc_lt
def VA:=@Go.wpAnyH_ready
def Vz:=@Go.AllReadyH.cons
def Vy:=@Int.ofNat_inj
def Vx:=@Int.ofNat_nonneg
def Zc:=@Go.wpAnyH_done
def Zb:=@Go.RowKit.Below.Z
def au0:=@Go.Result.andThen_ok
def aY8:=@Go.RowKit.Below.h
def aY7:=@Nat.le_of_eq
def at7:=@Go.World.frozen?_alloc_old
def aY6:=@List.cons.injEq
def aY5:=@List.contains_iff_mem
def aY4:=@Go.DataW.trod_struct
def ch4:=@List.filter_eq_nil_iff
theorem cL{P:Program}{f:FuncId}{a:Array Value}{w:World}{v:Value}{S:World->Prop}{R:Ending->World->Prop}(h:Calls P f a w λe i=>e=.returned v/\S i)(k:∀i,S i->R (.returned v) i):Calls P f a w R:=h.h λe i q=>q.1▸k i q.2
theorem aH4{P:Nat->Value->Prop}{o m j:Value}{l:List Value}(h:∀i v,(o::m::j::l)[i]?=some v->P i v):P 0 o/\P 1 m/\P 2 j:=⟨h 0 _ rfl,h 1 _ rfl,h 2 _ rfl⟩
theorem eX2{P:Nat->Value->Prop}{q o m j:Value}{l:List Value}(h:∀i v,(q::o::m::j::l)[i]?=some v->P i v):P 0 q/\P 1 o/\P 2 m/\P 3 j:=⟨h 0 _ rfl,h 1 _ rfl,h 2 _ rfl,h 3 _ rfl⟩
theorem cQ9{P:Nat->Value->Prop}{r q o m j:Value}{l:List Value}(h:∀i v,(r::q::o::m::j::l)[i]?=some v->P i v):P 0 r/\P 1 q/\P 2 o/\P 3 m/\P 4 j:=⟨h 0 _ rfl,h 1 _ rfl,h 2 _ rfl,h 3 _ rfl,h 4 _ rfl⟩
theorem Cv{P:Nat->Value->Prop}{s r q o m j:Value}{l:List Value}(h:∀i v,(s::r::q::o::m::j::l)[i]?=some v->P i v):P 0 s/\P 1 r/\P 2 q/\P 3 o/\P 4 m/\P 5 j:=⟨h 0 _ rfl,h 1 _ rfl,h 2 _ rfl,h 3 _ rfl,h 4 _ rfl,h 5 _ rfl⟩
theorem Qe{P:Nat->Value->Prop}{u s r q o m j:Value}{l:List Value}(h:∀i v,(u::s::r::q::o::m::j::l)[i]?=some v->P i v):P 0 u/\P 1 s/\P 2 r/\P 3 q/\P 4 o/\P 5 m/\P 6 j:=⟨h 0 _ rfl,h 1 _ rfl,h 2 _ rfl,h 3 _ rfl,h 4 _ rfl,h 5 _ rfl,h 6 _ rfl⟩
theorem Qd{P:Nat->Value->Prop}{x u s r q o m j:Value}{l:List Value}(h:∀i v,(x::u::s::r::q::o::m::j::l)[i]?=some v->P i v):P 0 x/\P 1 u/\P 2 s/\P 3 r/\P 4 q/\P 5 o/\P 6 m/\P 7 j:=⟨h 0 _ rfl,h 1 _ rfl,h 2 _ rfl,h 3 _ rfl,h 4 _ rfl,h 5 _ rfl,h 6 _ rfl,h 7 _ rfl⟩
theorem eX3{P:Nat->Value->Prop}{E D B y x u s r q o M m j:Value}{l:List Value}(h:∀i v,(E::D::B::y::x::u::s::r::q::o::M::m::j::l)[i]?=some v->P i v):P 0 E/\P 1 D/\P 2 B/\P 3 y/\P 4 x/\P 5 u/\P 6 s/\P 7 r/\P 8 q/\P 9 o/\P 10 M/\P 11 m/\P 12 j:=⟨h 0 _ rfl,h 1 _ rfl,h 2 _ rfl,h 3 _ rfl,h 4 _ rfl,h 5 _ rfl,h 6 _ rfl,h 7 _ rfl,h 8 _ rfl,h 9 _ rfl,h 10 _ rfl,h 11 _ rfl,h 12 _ rfl⟩
open Go.RowKit
theorem xa{α:Type}{l:List α}{i:Nat}{a:α}:jI l.toArray i a=(l.set i a).toArray:=List.setIfInBounds_toArray _ _ _
theorem xb{α:Type}{x:α}{xs:List α}{a:α}:(x::xs).set 0 a=a::xs:=List.set_cons_zero
theorem xc{α:Type}{x:α}{xs:List α}{i:Nat}{a:α}:(x::xs).set (i+1) a=x::xs.set i a:=List.set_cons_succ
theorem tk{P:Program}{md:Region.Mode}{ops:iQ}{iZ:iE}{S:iP}(i:Nat){oi:Oper}{v:dV}{fuel:Nat}{listed:Array Bool}{a:Act}{w:G}(hS:S w)(hi:ops[i]?=oi:=by(simp only[List.getElem?_toArray,List.getElem?_cons_succ,List.getElem?_cons_zero];rfl))(hs:Region.noSelect ops:=by kernel_rfl)(hf:Region.free md ops listed i:=by kernel_rfl)(hr:(Region.ready md ops listed).contains i:=by kernel_rfl)(hQ:∀c a w,iZ (.panic c) (a.put oi.dst v) w->iZ (.panic c) a w:=by exactλ_ _ _ h=>h)(hg:jW oi (yielded ops a.tmps):=by rfl)(hy:∀w,S w->(execOp a.eval oi).run P w=.ok (.value v) w:=by(intro w' pf;(try dsimp only at pf);go_simp;try with_reducible rfl))(h:wpAnyH P md ops iZ S fuel (jI listed i dY) (a.put oi.dst v) w):wpAnyH P md ops iZ S (fuel+1) listed a w:=
 wpAnyH_take hi hs hf hr hQ (Or.L ⟨hg,hy⟩) hS h
def Tk(P:Program)(o:Region.Mode)(m:iQ)(q:iE)(S:iP)(j:Array Bool)(i:Nat)(a a':Act):Prop:=∀fuel w,S w->wpAnyH P o m q S fuel (jI j i dY) a' w->wpAnyH P o m q S (fuel+1) j a w
theorem AZ{P:Program}{md:Region.Mode}{ops:iQ}{iZ:iE}{S:iP}{i:Nat}{oi:Oper}{v:dV}{listed:Array Bool}{a a':Act}(hi:ops[i]?=oi:=by(simp only[List.getElem?_toArray,List.getElem?_cons_succ,List.getElem?_cons_zero];rfl))(hs:Region.noSelect ops:=by kernel_rfl)(hf:Region.free md ops listed i:=by kernel_rfl)(hr:(Region.ready md ops listed).contains i:=by kernel_rfl)(hQ:∀c a w,iZ (.panic c) (a.put oi.dst v) w->iZ (.panic c) a w:=by exactλ_ _ _ h=>h)(hg:jW oi (yielded ops a.tmps):=by rfl)(hy:∀w,S w->(execOp a.eval oi).run P w=.ok (.value v) w:=by(intro w' pf;(try dsimp only at pf);go_simp;try with_reducible rfl))(ha:a.put oi.dst v=a':=by(simp only[Act.put,xa,xb,xc];rfl)):Tk P md ops iZ S listed i a a':=
 λ_ _ hS h=>wpAnyH_take hi hs hf hr hQ (Or.L ⟨hg,hy⟩) hS (ha▸h)
theorem Yg{P:Program}{md:Region.Mode}{ops:iQ}{iZ:iE}{S:iP}{i:Nat}{oi:Oper}{listed:Array Bool}{a a':Act}(hi:ops[i]?=oi:=by(simp only[List.getElem?_toArray,List.getElem?_cons_succ,List.getElem?_cons_zero];rfl))(hs:Region.noSelect ops:=by kernel_rfl)(hf:Region.free md ops listed i:=by kernel_rfl)(hr:(Region.ready md ops listed).contains i:=by kernel_rfl)(hQ:∀c a w,iZ (.panic c) (a.put oi.dst jQ) w->iZ (.panic c) a w:=by exactλ_ _ _ h=>h)(hg:jW oi (yielded ops a.tmps)=dF:=by rfl)(ha:a.put oi.dst jQ=a':=by(simp only[Act.put,xa,xb,xc];rfl)):Tk P md ops iZ S listed i a a':=
 λ_ _ hS h=>wpAnyH_take hi hs hf hr hQ (Or.R ⟨hg,rfl⟩) hS (ha▸h)
theorem tn{P:Program}{md:Region.Mode}{ops:iQ}{iZ:iE}{S:iP}(i:Nat){fuel:Nat}{listed:Array Bool}{a a':Act}{w:G}(hS:S w)(h:wpAnyH P md ops iZ S fuel (jI listed i dY) a' w)(t:Tk P md ops iZ S listed i a a':=by exact AZ):wpAnyH P md ops iZ S (fuel+1) listed a w:=t _ _ hS h
theorem sn{P:Program}{md:Region.Mode}{ops:iQ}{iZ:iE}{S:iP}(i:Nat){fuel:Nat}{listed:Array Bool}{a a':Act}{w:G}(hS:S w)(h:wpAnyH P md ops iZ S fuel (jI listed i dY) a' w)(t:Tk P md ops iZ S listed i a a':=by exact Yg):wpAnyH P md ops iZ S (fuel+1) listed a w:=t _ _ hS h
theorem fu{P:Program}{md:Region.Mode}{ops:iQ}{iZ:iE}{S:iP}(i0 i1:Nat){fuel:Nat}{listed:Array Bool}{a0 a1 a2:Act}{w:G}(hS:S w)(h:wpAnyH P md ops iZ S fuel (jI (jI listed i0 dY) i1 dY) a2 w)(x0:Tk P md ops iZ S listed i0 a0 a1:=by exact AZ)(x1:Tk P md ops iZ S (jI listed i0 dY) i1 a1 a2:=by exact AZ):wpAnyH P md ops iZ S (fuel+2) listed a0 w:=x0 _ _ hS (x1 _ _ hS h)
theorem iy{P:Program}{md:Region.Mode}{ops:iQ}{iZ:iE}{S:iP}(i0 i1 i2 i3:Nat){fuel:Nat}{listed:Array Bool}{a0 a1 a2 a3 a4:Act}{w:G}(hS:S w)(h:wpAnyH P md ops iZ S fuel (jI (jI (jI (jI listed i0 dY) i1 dY) i2 dY) i3 dY) a4 w)(x0:Tk P md ops iZ S listed i0 a0 a1:=by exact AZ)(x1:Tk P md ops iZ S (jI listed i0 dY) i1 a1 a2:=by exact AZ)(x2:Tk P md ops iZ S (jI (jI listed i0 dY) i1 dY) i2 a2 a3:=by exact AZ)(x3:Tk P md ops iZ S (jI (jI (jI listed i0 dY) i1 dY) i2 dY) i3 a3 a4:=by exact AZ):wpAnyH P md ops iZ S (fuel+4) listed a0 w:=x0 _ _ hS (x1 _ _ hS (x2 _ _ hS (x3 _ _ hS h)))
theorem iT{P:Program}{md:Region.Mode}{ops:iQ}{iZ:iE}{S:iP}(i0 i1 i2 i3:Nat){fuel:Nat}{listed:Array Bool}{a0 a1 a2 a3 a4:Act}{w:G}(hS:S w)(h:wpAnyH P md ops iZ S fuel (jI (jI (jI (jI listed i0 dY) i1 dY) i2 dY) i3 dY) a4 w)(x0:Tk P md ops iZ S listed i0 a0 a1:=by exact Yg)(x1:Tk P md ops iZ S (jI listed i0 dY) i1 a1 a2:=by exact Yg)(x2:Tk P md ops iZ S (jI (jI listed i0 dY) i1 dY) i2 a2 a3:=by exact Yg)(x3:Tk P md ops iZ S (jI (jI (jI listed i0 dY) i1 dY) i2 dY) i3 a3 a4:=by exact Yg):wpAnyH P md ops iZ S (fuel+4) listed a0 w:=x0 _ _ hS (x1 _ _ hS (x2 _ _ hS (x3 _ _ hS h)))
theorem gr{P:Program}{md:Region.Mode}{ops:iQ}{iZ:iE}{S:iP}(i0 i1 i2 i3 i4 i5 i6 i7:Nat){fuel:Nat}{listed:Array Bool}{a0 a1 a2 a3 a4 a5 a6 a7 a8:Act}{w:G}(hS:S w)(h:wpAnyH P md ops iZ S fuel (jI (jI (jI (jI (jI (jI (jI (jI listed i0 dY) i1 dY) i2 dY) i3 dY) i4 dY) i5 dY) i6 dY) i7 dY) a8 w)(x0:Tk P md ops iZ S listed i0 a0 a1:=by exact AZ)(x1:Tk P md ops iZ S (jI listed i0 dY) i1 a1 a2:=by exact AZ)(x2:Tk P md ops iZ S (jI (jI listed i0 dY) i1 dY) i2 a2 a3:=by exact AZ)(x3:Tk P md ops iZ S (jI (jI (jI listed i0 dY) i1 dY) i2 dY) i3 a3 a4:=by exact AZ)(x4:Tk P md ops iZ S (jI (jI (jI (jI listed i0 dY) i1 dY) i2 dY) i3 dY) i4 a4 a5:=by exact AZ)(x5:Tk P md ops iZ S (jI (jI (jI (jI (jI listed i0 dY) i1 dY) i2 dY) i3 dY) i4 dY) i5 a5 a6:=by exact AZ)(x6:Tk P md ops iZ S (jI (jI (jI (jI (jI (jI listed i0 dY) i1 dY) i2 dY) i3 dY) i4 dY) i5 dY) i6 a6 a7:=by exact AZ)(x7:Tk P md ops iZ S (jI (jI (jI (jI (jI (jI (jI listed i0 dY) i1 dY) i2 dY) i3 dY) i4 dY) i5 dY) i6 dY) i7 a7 a8:=by exact AZ):wpAnyH P md ops iZ S (fuel+8) listed a0 w:=x0 _ _ hS (x1 _ _ hS (x2 _ _ hS (x3 _ _ hS (x4 _ _ hS (x5 _ _ hS (x6 _ _ hS (x7 _ _ hS h)))))))
theorem ry{P:Program}{md:Region.Mode}{ops:iQ}{iZ:iE}{S:iP}(rs:iN){fuel:Nat}{listed:Array Bool}{a:Act}{w:G}(h:AllReadyH P md ops iZ S fuel listed a w rs)(hr:Region.ready md ops listed=rs:=by kernel_rfl)(aP:rs≠[]:=by simp):wpAnyH P md ops iZ S (fuel+1) listed a w:=wpAnyH_ready hr aP h
theorem cn{P:Program}{md:Region.Mode}{ops:iQ}{iZ:iE}{S:iP}{fuel:Nat}{listed:Array Bool}{a:Act}{w:G}{i:Nat}{o:Oper}{rs:iN}(h:∀K':Act->G->Prop,Shut (∀a w,S w->(S w->wpAnyH P md ops iZ S fuel (jI listed i dY) a w)->K' a w)->if jW o (yielded ops a.tmps)then Oper.wp P o a w K' iZ else K' (a.put o.dst jQ) w)(hs:AllReadyH P md ops iZ S fuel listed a w rs)(ho:ops[i]?=o:=by(simp only[List.getElem?_toArray,List.getElem?_cons_succ,List.getElem?_cons_zero];rfl)):AllReadyH P md ops iZ S fuel listed a w (i::rs):=AllReadyH.cons ho h hs
theorem qN{P:Program}{md:Region.Mode}{ops:iQ}{iZ:iE}{S:iP}(rs:iN){fuel:Nat}{listed:Array Bool}{a:Act}{w:G}(h:AllReadyH P md ops iZ S fuel listed a w rs)(hr:Region.ready md ops listed=rs:=by decide +kernel)(aP:rs≠[]:=by simp):wpAnyH P md ops iZ S (fuel+1) listed a w:=wpAnyH_ready hr aP h
structure Tag(n:Nat)(p:Prop):Prop where
 out:p
theorem Tag.go(n:Nat){p:Prop}(h:p):Tag n p:=⟨h⟩
theorem sG{P:Program}{md:Region.Mode}{ops:iQ}{iZ:iE}{S:iP}{fuel:Nat}{listed:Array Bool}{a:Act}{w:G}{i:Nat}{o:Oper}{rs:iN}(h:∀K':Act->G->Prop,Shut (∀a w,S w->(S w->wpAnyH P md ops iZ S fuel (jI listed i dY) a w)->K' a w)->Tag i (if jW o (yielded ops a.tmps)then Oper.wp P o a w K' iZ else K' (a.put o.dst jQ) w))(hs:AllReadyH P md ops iZ S fuel listed a w rs)(ho:ops[i]?=o:=by(simp only[List.getElem?_toArray,List.getElem?_cons_succ,List.getElem?_cons_zero];rfl)):AllReadyH P md ops iZ S fuel listed a w (i::rs):=AllReadyH.cons ho (λK' hK=>(h K' hK).out) hs
theorem xG{P:Program}{md:Region.Mode}{ops:iQ}{iZ:iE}{S:iP}(i:Nat){o:Oper}{fuel:Nat}{listed:Array Bool}{a:Act}{w:G}(h:∀K':Act->G->Prop,Shut (∀a w,S w->(S w->wpAnyH P md ops iZ S fuel (jI listed i dY) a w)->K' a w)->Tag i (if jW o (yielded ops a.tmps)then Oper.wp P o a w K' iZ else K' (a.put o.dst jQ) w))(ho:ops[i]?=o:=by(simp only[List.getElem?_toArray,List.getElem?_cons_succ,List.getElem?_cons_zero];rfl))(hr:Region.ready md ops listed=[i]:=by decide +kernel):wpAnyH P md ops iZ S (fuel+1) listed a w:=qN [i] (sG h AllReadyH.nil ho) hr
theorem CL{P:Program}{md:Region.Mode}{ops:iQ}{iZ:iE}{S:iP}(i j:Nat){o o':Oper}{fuel:Nat}{listed:Array Bool}{a:Act}{w:G}(h:∀K':Act->G->Prop,Shut (∀a w,S w->(S w->wpAnyH P md ops iZ S fuel (jI listed i dY) a w)->K' a w)->Tag i (if jW o (yielded ops a.tmps)then Oper.wp P o a w K' iZ else K' (a.put o.dst jQ) w))(h':∀K':Act->G->Prop,Shut (∀a w,S w->(S w->wpAnyH P md ops iZ S fuel (jI listed j dY) a w)->K' a w)->Tag j (if jW o' (yielded ops a.tmps)then Oper.wp P o' a w K' iZ else K' (a.put o'.dst jQ) w))(ho:ops[i]?=o:=by(simp only[List.getElem?_toArray,List.getElem?_cons_succ,List.getElem?_cons_zero];rfl))(xS:ops[j]?=o':=by(simp only[List.getElem?_toArray,List.getElem?_cons_succ,List.getElem?_cons_zero];rfl))(hr:Region.ready md ops listed=[i,j]:=by decide +kernel):wpAnyH P md ops iZ S (fuel+1) listed a w:=qN [i,j] (sG h (sG h' AllReadyH.nil xS) ho) hr
theorem fy{P:Program}{md:Region.Mode}{ops:iQ}{iZ:iE}{S:iP}(i:Nat){fuel:Nat}{listed:Array Bool}{a:Act}{w:G}{o:Oper}(h:∀K':Act->G->Prop,Shut (∀a w,S w->(S w->wpAnyH P md ops iZ S fuel (jI listed i dY) a w)->K' a w)->if jW o (yielded ops a.tmps)then Oper.wp P o a w K' iZ else K' (a.put o.dst jQ) w)(ho:ops[i]?=o:=by(simp only[List.getElem?_toArray,List.getElem?_cons_succ,List.getElem?_cons_zero];rfl))(hr:Region.ready md ops listed=[i]:=by kernel_rfl):wpAnyH P md ops iZ S (fuel+1) listed a w:=ry [i] (cn h AllReadyH.nil ho) hr
theorem bS{P:Program}{md:Region.Mode}{ops:iQ}{iZ:iE}{S:iP}{fuel:Nat}{listed:Array Bool}{K:Act->G->Prop}{a a':Act}{w:G}(hK:Shut (∀a w,S w->(S w->wpAnyH P md ops iZ S fuel listed a w)->K a w))(hS:S w)(h:S w->wpAnyH P md ops iZ S fuel listed a' w)(ha:a=a':=by((try simp only[Act.put,xa,xb,xc]);rfl)):K a w:=hK.out _ _ hS (ha▸h)
theorem aV{q:Prop}(h:q:=by(go_wp2;go_ret;refine⟨rfl,?_⟩;first|with_reducible assumption|exact db.alloc aU _|with_reducible rfl|assumption|rfl|exact Below.refl _ _|exact Below.drew (by assumption))):q:=h
theorem uy{q:Prop}(h:q:=by(go_wp21;go_meet;refine⟨rfl,?_⟩;first|with_reducible rfl|with_reducible assumption|rfl|assumption|exact Below.drew (by assumption))):q:=h
theorem fM3{q:Prop}(h:q:=by(go_wp2;go_roundw;(refine⟨k+1,?_⟩;repeat' apply And.intro;all_goals(first|with_reducible assumption|with_reducible rfl|omega|(show _=_;go_num)|(first|left;omega|right;omega)|assumption));(simp[intOf];omega))):q:=h
theorem cY{w:G}{o:Obj}:Below (U (Q w)) w (jA w o):=(Below.refl _ _).alloc (Nat.le_refl _) _
theorem mC{B:Nat}{w:G}:Below B w w.drew:=(Below.refl _ _).drew
theorem fE{V:dV}{P:dV->Prop}(h:P V):∃v,Ending.returned V=dR v/\P v:=⟨V,rfl,h⟩
theorem aQ{j i:Prop}(o:j)(m:i):O j/\O i:=⟨o,m⟩
theorem gC{m j i:Prop}(r:m)(q:j)(o:i):O m/\O j/\O i:=⟨r,q,o⟩
theorem zk{o m j i:Prop}(u:o)(s:m)(r:j)(q:i):O o/\O m/\O j/\O i:=⟨u,s,r,q⟩
theorem cQ7{q o m j i:Prop}(y:q)(x:o)(u:m)(s:j)(r:i):O q/\O o/\O m/\O j/\O i:=⟨y,x,u,s,r⟩
theorem aH3{r q o m j i:Prop}(D:r)(B:q)(y:o)(x:m)(u:j)(s:i):O r/\O q/\O o/\O m/\O j/\O i:=⟨D,B,y,x,u,s⟩
theorem cQ6{s r q o m j i:Prop}(M:s)(E:r)(D:q)(B:o)(y:m)(x:j)(u:i):O s/\O r/\O q/\O o/\O m/\O j/\O i:=⟨M,E,D,B,y,x,u⟩
theorem fM4{u s r q o m j i:Prop}(R:u)(N:s)(M:r)(E:q)(D:o)(B:m)(y:j)(x:i):O u/\O s/\O r/\O q/\O o/\O m/\O j/\O i:=⟨R,N,M,E,D,B,y,x⟩
theorem eX0{x u s r q o m j i:Prop}(V:x)(S:u)(R:s)(N:r)(M:q)(E:o)(D:m)(B:j)(y:i):O x/\O u/\O s/\O r/\O q/\O o/\O m/\O j/\O i:=⟨V,S,R,N,M,E,D,B,y⟩
@[simp] def pT(n:Nat):Value->World->Nat|.int _ q,_=>n-q.toNat|_,_=>n
theorem zs0{q:Prop}(h:q:=by
  let⟨M,n,o,hn,m,hz⟩:=PW.sP;have o':=Ll o;rw[hz]at o';let⟨iU,gx,ho,qY⟩:=o'.update uM underlying186 (by have:=ae hl;unfold maxLen;omega) gO (as4 (w.heap.size+1+1+1+1));have O2:=One.Hq PW.be qY PW.lo.2.2 (ownsMap_at o');have hgN:w.heap.size+1+1+2∉NB:=λe=>by let⟨i,hi⟩:=lh.1 e;let⟨nd',aI⟩:=h.dJ4 hi;let⟨g',hh',uu',a1,a2,a3,DE⟩:=h.nat aI;rw[hi]at a1;cases a1;obtain⟨V',aR,-⟩:=DE.blk;have:=gQ aR;omega
  have hold:∀z∈bs::bn::(HB++UB),z<w.heap.size:=λz hz=>by
   have nb:∀i nd',D.N[i]?=some nd'->∃hh uu,HB[i]?=some hh/\UB[i]?=some uu/\hh<w.heap.size/\uu<w.heap.size:=λi nd' aI=>by let⟨g',hh',uu',a1,a2,a3,DE⟩:=h.nat aI;let⟨es,c,m3⟩:=DE.Ey.at;let⟨Mz,c',m4⟩:=DE.CG.at;exact⟨_,_,a2,a3,gQ m3,gQ m4⟩
   simp only[gD,jl]at hz;rcases hz with rfl|rfl|hz|hz;{obtain⟨M,n,o,-⟩:=h.vY;exact o.lt};{obtain⟨M,n,o,-⟩:=h.sP;exact o.lt};{let⟨i,hi⟩:=lh.1 hz;let⟨hh,uu,a1,a2,a3,a4⟩:=nb i _ (bN (h.hlen▸(bH.1 hi).1));rw[hi]at a1;cases a1;exact a3};{let⟨i,hi⟩:=lh.1 hz;let⟨hh,uu,a1,a2,a3,a4⟩:=nb i _ (bN (h.zI▸(bH.1 hi).1));rw[hi]at a2;cases a2;exact a4}
  have PU:=ai (PW.eW6 (j:=j) hj PNW hgN (λz hz=>aM (hold z hz)) af iL O2 hl (λM' o1=>by obtain⟨U',ZS,xS,-⟩:=o1.update uM underlying186 (by have:=ae hl;unfold maxLen;omega) gO (as4 (w.heap.size+1+1+1+1));rw[gx]at ZS;cases ZS;exact xS))
  have FY:=(Fr.H (T:=T3) nJ).Z O2.T;have RU:=GY.T FY;have r0:=RU.cells;have FU':=ai ((Fr.H (T:=T3) bY).Z FY);have RU':=ai RU;clear eW bV zV gV s1 s2 Kw nJ gW PNW o o' m hz ho qY O2 hgN hold FY RU;simp only[Ej,wG,Df,yF]
  repeat still_step
  refine qV ?_;go_wp2;exact QS RU' aS rfl rfl ⟨_,_,_,PS.rep PU RU' af _ _ _ _ _ _ _ _,FU'.low ((rT).h af),rfl⟩):q:=h
theorem zs1{q:Prop}(h:q:=by
  obtain⟨dp,dc,rfl⟩:=tD.fq;obtain⟨xp,xc,rfl,-⟩:=RT.form tN;obtain⟨yp,yc,rfl,-⟩:=RT.form tE;have BW9:=ai bw9;clear LW bw9 ur rh tD tN tE hF ku;let⟨q0,q1,q2,q3,q4,q5,qf⟩:=mv.2.1.cells;let⟨r0,r1,r2,r3,r4,r5,r6,r7,rf⟩:=mv.2.2.cells;go_wp2;let⟨fF,bF⟩:=TX.fin mv (.U R.1.e) (.U R.1.g) (.U R.1.x) (.I R.1.t) (.S p' R.1.E.length c') (.S q' R.1.N.length d') (.I R.2.k) (.U R.2.i) (.U R.2.e) (.U R.2.g) (.I R.2.n) (.S dp R.2.lW.length dc) (.S xp R.2.iB.length xc) (.S yp R.2.kF.length yc);refine cX (v:=.tuple #[cO R.1.e R.1.g R.1.x R.1.t (.S p' R.1.E.length c') (.S q' R.1.N.length d'),ij R.2.k R.2.i R.2.e R.2.g R.2.n (.S dp R.2.lW.length dc) (.S xp R.2.iB.length xc) (.S yp R.2.kF.length yc)]) (by simp[results,results55,go_sem,q0,q1,q2,q3,q4,q5,r0,r1,r2,r3,r4,r5,r6,r7]) rfl ?_;exact QR.low HQ (Fr.H BW9) (BW9.h hB) fF bF hB):q:=h
theorem zs2{q:Prop}(h:q:=by
  cases T1 with
  |false=>
   cases(by rw[ae Nn];rfl:B=false);clear Nn;exact aV
  | true=>
   have a0:=aq i0 sw;have a1:=aq i1 sw;have a2:=aq i2 sw;have a3:=aq i3 sw;have a4:=aq i4 sw;have a5:=aq i5 sw;have d0:=aq c0 sw;have d1:=aq c1 sw;have d2:=aq c2 sw;have d3:=aq c3 sw;have d4:=aq c4 sw;have d5:=aq c5 sw;have d6:=aq c6 sw;have d7:=aq c7 sw;clear i0 i1 i2 i3 i4 i5 c0 c1 c2 c3 c4 c5 c6 c7 sw
   go_wp21
   refine(bf5 en GN (ae HR _ Ba).1 HNa.r7 hn Mb ET2).h ?_;rintro r wb⟨rfl,oZ⟩;have Bb:=aj Ba oZ;cases T2 with
   |false=>
    cases(by rw[ae Nn];rfl:B=false);clear Nn;exact aV
   |true=>
    cases(by rw[ae Nn];rfl:B=T3);have f0:=aq a0 oZ;have f1:=aq a1 oZ;have f2:=aq a2 oZ;have f3:=aq a3 oZ;have f4:=aq a4 oZ;have f5:=aq a5 oZ;have g0:=aq d0 oZ;have g1:=aq d1 oZ;have g2:=aq d2 oZ;have g3:=aq d3 oZ;have g4:=aq d4 oZ;have g5:=aq d5 oZ;have g6:=aq d6 oZ;have g7:=aq d7 oZ;clear a0 a1 a2 a3 a4 a5 d0 d1 d2 d3 d4 d5 d6 d7 oZ Nn
    go_wp21
    refine(dQ6 Ml ET3).h ?_;rintro r wd⟨rfl,cw6⟩;have Bd:=aj Bb cw6;clear cw6 f0 f1 f2 f3 f4 f5 g0 g1 g2 g3 g4 g5 g6 g7;exact aV):q:=h
theorem zs3{q:Prop}(h:q:=by
  subst e';clear h4 h5;let⟨vA,br⟩:=aF W.drew;have bA:=kH br;refine fw (λw'=>w'.cell? (Ad g 2)=some (.I nd.M)/\w'.cell? (Ad g 4)=some (.U nd.P)/\w'.cell? (Ad g 5)=some (.U nd.F)/\w'.cell? (Aw w 0)=some (.U id)/\w'.cell? (Aw w 2)=some (.U E)/\w'.cell? (Aw w 3)=some (.U iG)) (br▸ae HS vA bA) λhS=>?_;rw[<-br]at hS⊢;have uF:=ai bA;clear br bA;refine gr 0 1 2 3 4 5 6 7 hS ?_;refine iy 8 9 10 11 hS ?_;refine tn 12 hS ?_;refine ry [13] ?_;refine cn (λKK hK=>?_) ?_;rotate_left;exact fN;rotate_right;refine aR0 aY aY aY aY (λ_=>ae Nl _ _) (J7 (ai (ae af8 vA uF)) hid eB) ?_;rintro r W2⟨rfl,eh⟩;refine fE ?_;have B5:=ai (aj uF eh);refine bS hK (HS W2 B5) λhS=>?_;clear hK KK eh;refine gr 14 15 16 17 18 19 20 21 hS ?_;refine gr 22 23 24 25 26 27 28 29 hS ?_;refine fu 30 31 hS ?_;refine tn 32 hS ?_;refine fQ ?_;clear hS;have b2:=ae B5;have P2:=ai (PW.H b2);have FY:=Fr.H (T:=T3) (aj Uy b2);have R2:=GY.T FY;have r0:=R2.cells;have F2:=ai ((Fr.H (T:=T3) bY).Z FY);have Ur:=ai R2;clear FY R2 b2;go_wp2;exact Ju P2 F2 Ur DZ aS rfl rfl rfl):q:=h
theorem zs4{q:Prop}(h:q:=by
  refine fQ ?_;clear hS;let⟨r0,r1,r2,r3,r4,r5,r6,r7,rf⟩:=RA.cells;go_wp2;refine cX (v:=ij 0 0 0 0 0 aN aN aN) (by simp[results,results108,go_sem,r0,r1,r2,r3,r4,r5,r6,r7]) rfl ⟨?_,BA.Z ((rT).h af)⟩;rw[<-ae eC];simp only[PX,ae oR];rw[aJ (by rw[ae hhd,ae Gz,ae Wv];have:=ae hmo;simp_all)]):q:=h
theorem zs5{q:Prop}(h:q:=by
  have HQ5:=ai hq;let⟨c1,f1⟩:=ae Az i4 (aM (ae yw));let⟨c2,f2⟩:=ae Az j5 (aM (ae yw));let⟨p1,vP⟩:=bu dk[i4]!;let⟨p2,vO⟩:=bu dk[j5]!;rw[vP]at c1;rw[vO]at c2;let⟨tt,ct⟩:=Lj (q:=(Ad blk (off+i4))) (u:=.U p2) c2;have Cz:=ai (Az.swap (i:=i4) (j:=j5) (aM (ae yw)) (aM (ae yw)) vO.C vP.C);have DX:=ai (jr (jr WI (js _ blk (off+i4) (.U p2))) (js _ blk (off+j5) (.U p1)));have l1:=cM i4 N;have l2:=cM j5 N;have l3:=gS 0 i4;have l4:=gS 0 j5;obtain⟨m5,em5⟩:∃m:Nat,(j5:Int)-1=(m:Int):=⟨j5-1,af⟩;have eD7:j5-1=m5:=af;rw[eD7]at HQ5;have HD5:Hid ((swp dk i4 j5).size=N):=by show _=_;rw[size_swp];exact ae yw
  go_wp21
  go_region
  go_wp2;go_roundw;exact⟨i4+1,m5,_,by first|rfl|go_num,by first|rfl|go_num,af,af,af,HD5,Cz,HQ5,gI (gI DX)⟩
  case measure=>simp[intOf];omega):q:=h
theorem zs6{q:Prop}(h:q:=by
  by_cases hj1:1<=j;{have ee2:¬(j:Int)<1:=af;by_cases ee1:j<=16;{have ee0:¬(16:Int)<(j:Int):=af;rw[HK.1 ⟨hj1,ee1⟩,yG]at he;have XJ:=ai he.C;clear he hca;go_wp2_with(at_builtin;refine df9 rfl rfl (v:=.S pv k cv) wr.heap.size rfl rfl (kU.H cY) pn j cn al af bL ?_);intro p' c' w3 ho3 sY;have b3:Bw w w3:=(bb2.alloc bb2.size _).grown sY bL (λk hk=>(VI kU k hk).1);have HL3:=ai (XD.app (B:=w.heap.size) (vs:=vs) ht EX Ko qB hon cY sY (λb hb=>(VI ho b hb).2) aC.size);clear sY;go_wp2;go_roundw;exact⟨t,k+1,p',c',_,htn,by go_num,rfl,af,XJ,ho3,HL3,b3⟩;exact dy};{have ee0:=uX 16 j;rw[HK.2 af,cj1]at he;subst he;go_wp2;go_ret2;exact⟨(λh=>by cases h),⟨_,rfl⟩,bb2⟩}};{have ee2:(j:Int)<1:=af;rw[HK.2 af,cj1]at he;subst he;go_wp2;go_ret2;exact⟨(λh=>by cases h),⟨_,rfl⟩,bb2⟩}):q:=h
theorem zs7{q:Prop}(h:q:=by
  refine Jr aY aY aY (λ_=>ae HCP _ _) (aw2 yb uD.r0 JT We hpm) ?_;rintro r w2⟨q',m',d',rfl,WV,Sx,hr',aA⟩;refine fE ?_;have aR:Bw wc w2:=aj (bD wc.heap.size wc).drew aA;refine bS hK ⟨I6.H aR,aq uD.c0 aR,aq uD.c1 aR⟩ λhS=>?_;clear hK KK;refine fy 4 λKK hK=>?_;refine Yt aY aY aY aY (λ_=>ae pI _ _) (bf7 em WV (ae HR _ (aj tM aR)).2 hr' hm af HBN EC2) ?_;rintro r w3⟨rfl,aL⟩;refine fE ?_;have dz:Bw wc w3:=aj aR aL;refine bS hK ⟨I6.H dz,aq uD.c0 dz,aq uD.c1 dz⟩ λhS=>?_;clear hK KK;refine iy 5 6 7 8 hS ?_;refine fu 9 10 hS ?_;refine tn 11 hS ?_;refine fQ ?_;clear hS
  go_wp21
  go_meet;exact⟨rfl,aj tM dz,I6.H dz,uD.H dz⟩):q:=h
theorem zs8{q:Prop}(h:q:=by
  rw[aK hw];have gx:(execOp a.eval o).run P w=.ok (.enter f #[v1,v2]) w:=by subst h1 h2;unfold execOp;simp[go_sem,ho,resolve,invoke,lG]
  show o.upon P a K iZ _;rw[gx,VF];refine hc.h ?_;intro e w' h;obtain⟨v,rfl,hk⟩:=hR e w' h;exact hk):q:=h
theorem QJ{q:Prop}(h:q:=by
  have eF:B=false:=by rw[ae HB,Rg];exact .L (NQ (λhh=>af))
  subst eF;clear HB;go_enter func49,ntmps49;exact aV):q:=h
theorem bN8{q:Prop}(h:q:=by
  have P2:=ai (PW.H b2);have FY:=Fr.H (T:=T3) (aj Uy b2);have R2:=GY.T FY;have r0:=R2.cells;have F2:=ai ((Fr.H (T:=T3) bY).Z FY);have Ur:=ai R2;clear FY R2 b2;go_wp2;exact Ju P2 F2 Ur DZ aS rfl rfl rfl):q:=h
theorem aM3{q:Prop}(h:q:=by
  let⟨B,eB⟩:=cg (nd.y.contains id)
  go_wp21
  refine(J7 KN hid eB).h ?_;rintro r w5⟨rfl,eh⟩;have AU:=ai (aj bW eh);have e:=ae eC;unfold Di at e;rw[ae eB]at e;cases B;{cases(by rw[<-e];simp[ae HM]:C=9);exact aV};{cases(by rw[<-e];simp:C=9);exact aV}):q:=h
theorem bN7{q:Prop}(h:q:=by
  have HN:=ai EN;rw[EN]at m1;clear e ih h hb jd EN m0;unfold maxLen at hm;go_enter func91,ntmps91
  go_wp21
  go_region_held3 (λw'=>w'.cell? (Ad b o)=some (.int .u8 z)) (first|with_reducible exact c0|with_reducible exact c1|go_keep)
   (first|(go_at_call 91;refine(ae IH _ (by first|exact bD _ _|exact db.drew)).h ?_;rintro e w1⟨rfl,az⟩;have b1:Bw w w1:=(by first|exact az|exact aj (bD w.heap.size w).drew az);have c1:=aq c0 b1))
  clear IH c1;go_wp2;go_ret;exact⟨by rw[ae HN,<-df3 z0 z1 n0 m1];rfl,b1⟩):q:=h
theorem aM2{q:Prop}(h:q:=by
  gi_wp2;refine cX (BM rfl _ _ _) rfl ?_;refine⟨⟨_,rfl⟩,.R ⟨_,?_,Tn⟩⟩;let⟨Aq,EG,xR,hB,gO,_⟩:=ae HM;rw[uk,<-Aq];refine(dL9 _).2 ?_;simp only[od,JD,gO];exact de6 af):q:=h
theorem bN6{q:Prop}(h:q:=by
  refine fw (λw'=>w'.cell? (Ad blk (off+j))=some (.U y)/\w'.cell? (Ad blk (off+jm))=some (.U z)) K0 λhS=>?_;refine gr 0 1 2 3 4 5 6 7 hS ?_;refine tn 8 hS ?_;refine ry [9] ?_;refine cn (λKK hK=>?_) ?_;{refine Lh aY aY aY aY (λ_=>MU) (LY) ?_;rintro r w2⟨rfl,rfl⟩;refine fE ?_;rw[eB];refine bS hK K0 λhS=>?_;refine tn 10 hS ?_;refine fQ ?_;exact uy};exact fN):q:=h
theorem bN5{q:Prop}(h:q:=by
  have aJ9:Hid (lX E5 s5/\∀i,i∈s5↔∃nd'∈ns,(λz=>left z&&!z.sameKey (ft nd.A)) (ft nd'.A)=false/\Nb nd' i):=⟨cq2,λi=>by rw[cs4,cs5,M3,FE]⟩
  go_wp2;go_roundw
  case rel=>first|exact⟨_,DP,An,_,af,E5,aa0,s5,aJ9,eh⟩|exact⟨_,DP,_,E5,s5,An,af,aa0,aJ9,eh⟩
  case measure=>rw[An.left_eq,kq.left_eq];exact aH):q:=h
theorem X8{q:Prop}(h:q:=by
  go_wp2;refine cX (by simp[results,results94,go_sem,r0,r1,r2,r3,r4,r5]) rfl (ai1 HD (xv BB))):q:=h
theorem yy{q:Prop}(h:q:=by
  rw[h0]at fg;simp at fg):q:=h
theorem X7{q:Prop}(h:q:=by
  cases(by rw[ae HB];simp;omega:B=false);clear HB;go_enter func179,ntmps179;exact aV):q:=h
theorem bN4{q:Prop}(h:q:=by
  refine gr 0 1 2 3 4 5 6 7 hS ?_;refine iy 8 9 10 11 hS ?_;refine ry [12] ?_;refine cn (λKK hK=>?_) ?_;{refine Lh aY aY aY aY (λ_=>MU) (LY) ?_;rintro r' w2⟨rfl,rfl⟩;refine fE ?_;rw[ae EB2];refine bS hK K3 λhS=>?_;refine tn 13 hS ?_;refine fQ ?_;exact uy};exact fN):q:=h
theorem ao2{q:Prop}(h:q:=by
  refine tn 9 hS ?_;refine fQ ?_;go_wp2;go_roundw;exact⟨k+1,af,by go_num,aj aC aR⟩;exact dy):q:=h
theorem bN2{q:Prop}(h:q:=by
  have Eu:x∉ss:=λhx=>by have:=((h.2 x).1 hx).2;rw[hlk]at this;cases this
  refine⟨Gm.2 ⟨h.1,al,λa ha b hb=>by simp at hb;subst hb;exactλe=>Eu (e▸ha)⟩,λy=>?_⟩;by_cases hy:y=x;{subst hy;simp[cu4,Lit.sameKey]};{simp[h.2 y,hy,Lit.sameKey]}):q:=h
theorem bN1{q:Prop}(h:q:=by
  refine⟨⟨p,c,rfl,?_⟩,λb e=>?_,hz.W hk,h3⟩;{rcases hd with hd|⟨b,o,rfl,hd⟩;{exact .L hd};{exact .R ⟨b,o,rfl,λi hi=>(gG (hk b rfl) _).Z (hd i hi)⟩}};{let⟨cur,hb⟩:=h2 b e;exact⟨cur,(hk b e).Z hb⟩}):q:=h
theorem bN0{q:Prop}(h:q:=by
  have dm:=ga k K;have eT:B=true:=by
   rw[ae kJ];have:(gR 47 t).all qQ=true:=by rw[mL];intro nm qB;obtain⟨i,hi,rfl⟩:=RJ qB;exact ae fU i _ (by rw[ae EK]at hi;omega) (bN hi)
   simp[this,Ip]
  subst eT;exact aV):q:=h
theorem bM9{q:Prop}(h:q:=by
  obtain⟨p,c,rfl,h⟩:=h;refine⟨p,c,rfl,?_⟩;rcases h with h|⟨b,o,rfl,h⟩;{exact .L h};{refine .R ⟨b,o,rfl,λi e he=>?_⟩;let⟨h1,h2,u,h3,h4⟩:=h i e he;exact⟨aq h1 hb,aq h2 hb,u,aq h3 hb,h4.H hb⟩}):q:=h
theorem aM1{q:Prop}(h:q:=by
  obtain⟨f',rfl⟩:∃f',f=f'+1:=⟨f-1,af⟩;rw[U0 hk]at Aq;rw[uk,xL,Sa,h,<-Ly];rw[<-Aq];simp[key,hz]):q:=h
theorem bM8{q:Prop}(h:q:=by
  clear hA hk F3 P3 hC;go_wp2;go_ret;exact⟨_,_,_,_,rfl,P4,(FF.Z (Fr.H (T:=T3) ((bD w3.heap.size w3).alloc aU (.cells #[.I Rx.k,.U Rx.i,.U Rx.e,.U Rx.g,.I Rx.n,.S p1 Rx.lW.length c1,.S p2 Rx.iB.length c2,.S p3 Rx.kF.length c3] 50))))⟩):q:=h
theorem bM7{q:Prop}(h:q:=by
  rw[od,Gn,od,Gn];refine⟨λhm=>?_,λhm=>?_,aI⟩;{rcases gD.1 hm with e|hm;{simp at e};{let⟨y,hy,e⟩:=fM.1 hm;simp only[lE]at e;exact aP y hy e.1}};{let⟨y,hy,e⟩:=fM.1 hm;simp only[lE]at e;exact aP y hy e.1}):q:=h
theorem vV{q:Prop}(h:q:=by
  exact AF.same h _ _ _ _ _):q:=h
theorem bM6{q:Prop}(h:q:=by
  have r0:=RW2.cells;have FZ2:=ai ((Fr.H (T:=T3) bY).Z QD);have RZ2:=ai RW2;clear TL kN QD RW2 Xl;simp only[Ej,wG,Df,yF]
  repeat still_step
  refine qV ?_;go_wp2;exact Ju I0 FZ2 RZ2 h.be.size aS rfl rfl rfl):q:=h
theorem bM4{q:Prop}(h:q:=by
  exfalso;let⟨i,hi⟩:=Af aI;let⟨g1,h1,u1,q1,q2,q3⟩:=cK.kM.at hi;have:Maps.has D (ft nd.A)=true:=(MD.hs _).2 ⟨(ft nd.A,g1),by rw[lh];refine⟨i,?_⟩;rw[tA,hi,q1],rfl⟩
  rw[this]at hl;cases hl):q:=h
theorem ao1{q:Prop}(h:q:=by
  clear h9
  go_wp21
  go_meet
  first|exact⟨rfl,rfl⟩|exact⟨by simp[hx],rfl⟩):q:=h
theorem X6{q:Prop}(h:q:=by
  let⟨es,c,hm⟩:=ownsMap_at o;exact⟨M,n,iO.map o (nm hm),r⟩):q:=h
theorem ao0{q:Prop}(h:q:=by
  rintro(h|h|h);{exact .R (.L h)};{exact .L h};{exact .R (.R h)}):q:=h
open Go.ChangeShapes Go.WideShapes Go.ChangeAt Go.Deep
variable {p E:Prop}{n B k j c b base g C d:Nat}{left y:Int}{w w' w1 w2:G}{v v1 v2 v0:dV}{a:Addr}{row:Option Nat}{vs us xs:List dV}{P:Program}{t e:TypeId}{o:Oper}{ops:iQ}{rest:List Oper}{s x x1 x2:Operand}{K:Act->G->Prop}{R:Ending->G->Prop}{f:FuncId}{ud:Array TypeId}
theorem ai(h:p):O p:=h
theorem ae(h:O p):p:=h
abbrev Le{α:Type}(l:List α)(n:Nat):Prop:=O (J l=n)
theorem cg{α:Sort _}(x:α):∃y,O (x=y):=⟨x,rfl⟩
def D7(n:Nat)(left:Int):Int:=if left-n<0 then -1 else left-n
theorem aQ5{p:OA}{cap:Nat}(i:n<=maxLen)(m:0<=left)(j:left<=2^20):dQ dG 20 #[.S p n cap,.I left] w λe w'=>e=dR (.I (D7 n left))/\w'=w:=by
 unfold maxLen at i;by_cases h:left-n<0;{
 have e:D7 n left=-1:=by unfold D7;rw[aK h]
 rw[e];go_enter Tryz.func20,Tryz.ntmps20;exact aV};{
 have e:D7 n left=left-n:=by unfold D7;rw[aJ h]
 rw[e];go_enter Tryz.func20,Tryz.ntmps20;exact aV}
theorem Ku{W w1:G}(i:Bw W w1):(∀b o,b<U (Q W)->I w1 (Ad b o)=I W (Ad b o))/\(∀b o,b<U (Q W)->jF w1 (Ad b o)=jF W (Ad b o)):=
 ⟨λb o h=>i.cell (p:=(Ad b o)) h,λb o h=>i.frozen (p:=(Ad b o)) h⟩
abbrev iU(l:LI):List dV:=l.map (Value.int .u8)
def Rd(w:G)(v:dV)(l:LI):Prop:=
 ∃(p:OA)(j:Nat),v=.S p (J l) j/\(l=[]\/∃b o,p=(Ad b o)/\∀i,i<J l->I w (Ad b (o+i))=Y (jK .u8 (jE l i 0)))
abbrev Own(B:Nat)(w:G)(v:dV)(l:LI):Prop:=w.ownsRow B 5 1 v (J l) (iU l)
abbrev Ow(w:World):World->Value->List Int->Prop:=Own w.heap.size
theorem Rd.nil(w:G):Rd w ay []:=⟨dN,0,rfl,.L rfl⟩
theorem Own.rd{l:LI}(h:Own B w v l):Rd w v l:=by
 obtain⟨rfl,m⟩|⟨g,r,q,rfl,y,x,_,_,_,s⟩:=h.2;{have:l=[]:=Hz m;subst this;exact Rd.nil w};{refine⟨_,_,rfl,.R ⟨g,0,rfl,λi j=>?_⟩⟩;have:=Rk (w:=w) (base:=B) h i af;rw[nY,this];simp[List.getD,bN j]}
theorem Rd.H{l:LI}(h:Rd w v l)(q:Bw w w'):Rd w' v l:=by
 obtain⟨p,j,rfl,h⟩:=h;refine⟨p,j,rfl,?_⟩;obtain h|⟨b,o,rfl,hc⟩:=h;{exact .L h};{refine .R ⟨b,o,rfl,λi m=>?_⟩;rw[q.cell (p:=(Ad b (o+i))) (my w _ (hc i m))];exact hc i m}
theorem Own.H{l:LI}(h:Own B w v l)(i:Bw w w'):Own B w' v l:=
 h.kept (row:=dN) ⟨i.os,i.tape,i.output,i.size,λk j _=>i.block k j⟩ (by cases m:jB v<;>simp)
theorem Own.h{B':Nat}{l:LI}(h:Own B w v l)(m:B'<=B):Own B' w v l:=by
 refine⟨h.1,?_⟩;obtain h|⟨g,j,i,rfl,hb,r⟩:=h.2;{exact .L h};{exact .R ⟨g,j,i,rfl,af,r⟩}
def DM(l:LI)(k:Nat):LI:=jT k l++List.replicate (J l-k) 0
theorem eM0{l:LI}(h:k<=J l):J (DM l k)=J l:=by simp[DM];omega
theorem eL8(l:LI):DM l 0=List.replicate (J l) 0:=by simp[DM]
theorem eM1(l:LI):DM l (J l)=l:=by simp[DM]
theorem eL9{l:LI}(h:k<J l):(iU (DM l k)).set k (jK .u8 (jE l k 0))=iU (DM l (k+1)):=by
 have o:jT (k+1) l=jT k l++[jE l k 0]:=by rw[Zq h];simp[List.getD,bN h]
 have m:List.replicate (J l-k) (0:Int)=0::List.replicate (J l-(k+1)) 0:=by rw[show J l-k=(J l-(k+1))+1 by omega,List.replicate_succ]
 have j:J (jT k l)=k:=by simp;omega
 have i:(DM l k).set k (jE l k 0)=DM l (k+1):=by unfold DM;rw[o,m,Zp _ _ af,j,Ab,RG];simp
 rw[<-i,iU,iU,VK]
theorem Tryz.infoByte:(Tryz.prog.info? 5).map (λi=>(i.zero,i.size,i.bytes))=Y (Y (jK .u8 0),1,1):=by kernel_rfl
theorem af7(h:jG w w' dN):Bw w w':=⟨h.os,h.tape,h.output,h.size,λk i=>h.block k i (by simp)⟩
theorem aO8{l:LI}(h:Rd w v l)(hl:Mg (J l)):dQ dG 26 #[v] w λe w'=>∃s B,e=dR (.S s (J l) B)/\Own (U (Q w)) w' (.S s (J l) B) l/\Bw w w':=by
 let⟨i,N,E,X,W⟩:=mJ Tryz.infoByte;obtain⟨p,Z,rfl,h⟩:=h;go_enter Tryz.func26,Tryz.ntmps26;go_wp2_with(first|(at_make;refine wpList_make_full _ rfl _ _ 22 rfl (U (Q w)) 5 i (jK .u8 0) 1 Tryz.underlying22 N E X _ _ _ _ (J l) rfl rfl rfl rfl ?b2 ?b3 ?b4 ?_))
 case b2=>rw[W];omega
 case b3=>unfold maxLen;omega
 case b4=>exact fS _
 intro w1 x R;have q:(madeCells #[Value.int .u8 0] (J l)).toList=iU (DM l 0):=by rw[eL8,toList_madeCells_one];simp
 rw[q]at x;go_wp2
 go_loopw[4](λi wr=>∃k:Nat,k<=J l/\i=.I k/\wr.ownsRow (U (Q w)) 5 1 (.T (U (Q w)) (J l) (J l)) (J l) (iU (DM l k))/\Bw w wr) (λi _=>J l-(jN (intOf i)))
 exact⟨0,de _,rfl,x,af7 R⟩;{
 obtain⟨k,M,rfl,j,r⟩:=hrel;by_cases m:k<J l;{
 obtain rfl|⟨b,o,rfl,hc⟩:=h;{simp at m};{
 have sk:I wr (Ad b (o+k))=Y (jK .u8 (jE l k 0)):=(r.cell (p:=(Ad b (o+k))) (my w _ (hc k m))).Z (hc k m);have SR:=j.frozenAt k;have D:∃u,I wr (Aw w k)=Y u:=by rw[j.cellAt k af];exact⟨_,bN (by rw[iC,eM0 M];omega)⟩
 obtain⟨u,V⟩:=D;have y:=j.stored k (jK .u8 (jE l k 0));rw[eL9 m]at y;have HS:O (World.ownsRow (jS wr (Aw w k) (jK .u8 (jE l k 0))) (U (Q w)) 5 1 (.T (U (Q w)) (J l) (J l)) (J l) (iU (DM l (k+1)))):=y.1;go_wp2;go_roundw;exact⟨k+1,af,by go_num,by simpa[m]using HS.out,r.setCell aU _⟩;exact dy}};{
 have:k=J l:=by omega
 subst this;rw[eM1]at j;go_wp2;go_ret;exact⟨_,_,rfl,j,r⟩}}
theorem dl2{l1 i:LI}(m:k<J l1)(j:k<J i)(h:jT k l1=jT k i)(e:l1[k]?.getD 0=i[k]?.getD 0):jT (k+1) l1=jT (k+1) i:=by
 rw[Zq m,Zq j,h];simp[bN m,bN j]at e;rw[e]
theorem below_drewN(h:Below B w w'):Below B w (w'.drewN n):=⟨h.os,h.tape,h.output,h.size,h.block⟩
theorem eB9{l1 j:LI}(y:Rd w v1 l1)(x:Rd w v2 j)(Ar:J l1<=2^21)(uQ:J j<=2^21):dQ dG 32 #[v1,v2] w (Rb (jO (dD (l1=j))) w):=by
 obtain⟨p1,Z,rfl,y⟩:=y;obtain⟨p2,fK2,rfl,x⟩:=x;by_cases m:J l1=J j;{
 have aP:((J l1:Int) != (J j:Int))=dF:=by simp;omega
 go_enter Tryz.func32,Tryz.ntmps32;go_wp2
 go_loopw[5](λi wr=>∃k:Nat,k<=J l1/\i=.I k/\jT k l1=jT k j/\Bw w wr) (λi _=>J l1-(jN (intOf i)))
 exact⟨0,de _,rfl,rfl,bD _ _⟩;{
 obtain⟨k,hk,rfl,X,r⟩:=hrel;have HT:O (jT k l1=jT k j):=X;by_cases o:k<J l1;{
 obtain rfl|⟨V,E,rfl,N⟩:=y;{simp at o};{
 obtain rfl|⟨S,D,rfl,M⟩:=x;{simp at m;subst m;simp at o};{
 have s:k<J j:=af;have g1:I wr (Ad V (E+k))=Y (jK .u8 (jE l1 k 0)):=(r.cell (p:=(Ad V (E+k))) (my w _ (N k o))).Z (N k o);have g2:I wr (Ad S (D+k))=Y (jK .u8 (jE j k 0)):=(r.cell (p:=(Ad S (D+k))) (my w _ (M k s))).Z (M k s);have i2:(k:Int)<(J j:Int):=af;by_cases u:l1[k]=j[k];{
 go_wp2
 go_quiet (fail)
 go_wp2;go_roundw;exact⟨k+1,af,by go_num,dl2 o s HT.out (by simpa[o,s]using u),below_drewN r⟩;exact dy};{
 have hb:(l1[k] != j[k]):=by simp only[bne_iff_ne];exact u
 have B:O (dD (l1=j)=dF):=by show _=_;simp only[LH];intro e;apply u;simp[e]
 go_wp2
 go_quiet (fail)
 go_wp2;go_ret;exact⟨by rw[B.out];rfl,below_drewN r⟩}}}};{
 have R:k=J l1:=af;have B:O (dD (l1=j)):=by have:=HT.out;rw[R,wS,m,wS]at this;show _=_;simp[this]
 subst R;go_wp2;go_ret;exact⟨by rw[B.out];rfl,r⟩}}};{
 have aP:((J l1:Int) != (J j:Int)):=by simp;omega
 have W:dD (l1=j)=dF:=by simp only[LH];intro e;apply m;rw[e]
 rw[W];go_enter Tryz.func32,Tryz.ntmps32;exact aV}
theorem Own.lt{l:LI}(h:Own B w v l):∀b,jB v=Y b->B<=b/\b<U (Q w):=VI h
theorem Own.set{l:LI}(h:Own B w v l)(i:a.block<B)(u:dV):Own B (w.setCell a u) v l:=rW h i u
def marks(k:Int):Nat->LI
 |0=>[]
 |n+1=>marks k n++[(k+n) % 256]
theorem Lv(k:Int)(n:Nat):J (marks k n)=n:=by induction n with|zero=>rfl|succ n ih=>simp[marks,ih]
theorem dK4(k:Int)(n j:Nat)(h:j<n):(marks k n)[j]?=Y ((k+j) % 256):=by
 induction n with
 |zero=>omega
 |succ n ih=>
  by_cases e:j=n;{subst e;simp[marks,Lv]};{rw[marks,oI (by rw[Lv];omega)];exact ih af}
def marked(l:LI)(k:Int)(j:Nat):LI:=marks k j++jD j l
variable {k:Int}
theorem dK7{l:LI}(h:j<=J l):J (marked l k j)=J l:=by simp[marked,Lv];omega
theorem dK5(l:LI)(k:Int):marked l k 0=l:=by simp[marked,marks]
theorem dK8(l:LI)(k:Int):marked l k (J l)=marks k (J l):=by simp[marked]
theorem dK6{l:LI}(h:j<J l):(iU (marked l k j)).set j (jK .u8 ((k+j) % 256))=iU (marked l k (j+1)):=by
 have i:(marked l k j).set j ((k+j) % 256)=marked l k (j+1):=by unfold marked;rw[Lx h,Zp _ _ (by rw[Lv];omega),Lv,Ab,RG];simp[marks]
 rw[<-i,iU,iU,VK]
theorem WO:jG w w row:=⟨rfl,rfl,rfl,fS _,λ_ _ _=>rfl⟩
theorem My(h:jG w w1 row)(k:jG w1 w2 row):jG w w2 row:=
 ⟨k.os.Z h.os,k.tape.Z h.tape,k.output.Z h.output,gq h.size k.size,λi j m=>(k.block i (mH j h.size) m).Z (h.block i j m)⟩
theorem dL6{p:OA}{l:LI}(h:Own B w (.S p (J l) c) l)(V:J l<=2^21)(R:0<=k)(k1:k<=10^8):dQ dG 37 #[.S p (J l) c,.I k] w λe w'=>e=dR (.I (k+J l))/\Own B w' (.S p (J l) c) (marks k (J l))/\jG w w' (jB (.S p (J l) c)):=by
 have q:(p=dN/\l=[])\/∃g,p=(Ad g 0):=by obtain⟨e,W⟩|⟨g,N,M,e,_⟩:=h.2;{simp at e;exact .L ⟨e.1,e.2.1⟩};{simp at e;exact .R ⟨g,e.1⟩}
 go_enter Tryz.func37,Tryz.ntmps37;go_wp2
 go_loopw[1,5](λy i wr=>∃j:Nat,j<=J l/\i=.I j/\y=.I (k+j)/\wr.ownsRow B 5 1 (.S p (J l) c) (J l) (iU (marked l k j))/\jG w wr (jB (.S p (J l) c))) (λ_ i _=>J l-(jN (intOf i)))
 exact⟨0,de _,rfl,al,by rw[dK5];exact h,WO⟩;{
 obtain⟨j,D,rfl,rfl,m,r⟩:=hrel;by_cases s:j<J l;{
 obtain⟨rfl,rfl⟩|⟨g,rfl⟩:=q;{simp at s};{
 have X:=m.frozenAt j;have x:∃u,I wr (Ad g j)=Y u:=by rw[m.cellAt j af];exact⟨_,bN (by rw[iC,dK7 D];omega)⟩
 obtain⟨u,E⟩:=x;have o:=m.stored j (jK .u8 ((k+j) % 256));rw[dK6 (k:=k) s]at o;go_wp2;go_roundw;exact⟨j+1,af,by go_num,by go_num,by simpa using o.1,by simpa using(My r o.2)⟩;exact dy}};{
 have:j=J l:=by omega
 subst this;rw[dK8]at m;go_wp2;go_ret;refine⟨rfl,?_,r⟩;unfold Own;rw[Lv];exact m}}
theorem eh2{p:OA}(h:Rd w (.S p n c) (marks k n))(E:n<=2^21)(D:0<=k)(k1:k<=10^8):dQ dG 42 #[.S p n c,.I k] w (Rb (.I (k+n)) w):=by
 have r:n=0\/∃g o,p=(Ad g o)/\∀j,j<n->I w (Ad g (o+j))=Y (jK .u8 ((k+j) % 256)):=by obtain⟨q,y,e,h⟩:=h;simp only[rE,Lv]at e;obtain⟨rfl,-,rfl⟩:=e;obtain e|⟨b,o,rfl,hc⟩:=h;{left;have:=vj List.length e;simpa[Lv]using this};{right;refine⟨b,o,rfl,λj m=>?_⟩;rw[hc j (by rw[Lv];exact m)];simp[List.getD,dK4 k n j m]}
 go_enter Tryz.func42,Tryz.ntmps42;go_wp2
 go_loopw[1,5](λx i wr=>∃j:Nat,j<=n/\i=.I j/\x=.I (k+j)/\Bw w wr) (λ_ i _=>n-(jN (intOf i)))
 exact⟨0,de _,rfl,al,bD _ _⟩;{
 obtain⟨j,m,rfl,rfl,s⟩:=hrel;by_cases u:j<n;{obtain rfl|⟨g,o,rfl,hc⟩:=r;{omega};{have B:I wr (Ad g (o+j))=Y (jK .u8 ((k+j) % 256)):=(s.cell (p:=(Ad g (o+j))) (my w _ (hc j u))).Z (hc j u);go_wp2;go_roundw;exact⟨j+1,af,by go_num,by go_num,by first|exact s|exact below_drewN s⟩;exact dy}};{
 have:j=n:=by omega
 subst this;exact aV}}
structure Kept(vs:List dV)(w w':G):Prop where
 os:w'.os=w.os
 tape:w'.tape=w.tape
 output:w'.output=w.output
 size:U (Q w)<=U (Q w')
 block:∀k,k<U (Q w)->(∀v∈vs,jB v≠Y k)->w'.heap[k]?=w.heap[k]?
theorem Kept.refl(vs:List dV)(w:G):Kept vs w w:=⟨rfl,rfl,rfl,fS _,λ_ _ _=>rfl⟩
theorem Kept.Z(h:Kept vs w w1)(k:Kept vs w1 w2):Kept vs w w2:=
 ⟨k.os.Z h.os,k.tape.Z h.tape,k.output.Z h.output,gq h.size k.size,λi j m=>(k.block i (mH j h.size) m).Z (h.block i j m)⟩
theorem Kept.tj(h:Bw w w'):Kept vs w w':=⟨h.os,h.tape,h.output,h.size,λk i _=>h.block k i⟩
theorem Kept.aW8(h:jG w w' (jB v))(i:v∈vs):Kept vs w w':=
 ⟨h.os,h.tape,h.output,h.size,λk j m=>h.block k j (λe=>m v i e.C)⟩
theorem Kept.alloc(h:Kept vs w w')(o:Obj):Kept vs w (jA w' o):=h.Z (Kept.tj cY)
theorem Kept.H(h:Kept vs w w')(o:B<=U (Q w))(j:∀v∈vs,∀b,jB v=Y b->B<=b):Below B w w':=
 ⟨h.os,h.tape,h.output,h.size,λk m=>h.block k af (λv i e=>aM (j v i k e))⟩
theorem Own.L5{l:LI}(h:Own B w v l)(s:Kept vs w w')(y:∀u∈vs,∀b,jB v=Y b->jB u≠Y b):Own B w' v l:=by
 refine⟨h.1,?_⟩;obtain r|⟨g,m,j,rfl,x,o,i⟩:=h.2;{exact .L r};{refine .R ⟨g,m,j,rfl,x,?_,i⟩;rw[s.block g (LF.1 o).1 (λu q=>y u q g rfl)];exact o}
theorem aq{o:Nat}(h:I w (Ad b o)=v)(i:Bw w w'):I w' (Ad b o)=v:=
 (i.cell (p:=(Ad b o)) (my w _ h)).Z h
theorem Co(h:∀o,jF w (Ad b o)=dF)(i:Bw w w')(j:b<U (Q w)):∀o,jF w' (Ad b o)=dF:=
 λo=>(i.frozen (p:=(Ad b o)) j).Z (h o)
theorem Kept.cellAt(h:Kept vs w w')(j:b<U (Q w))(i:∀v∈vs,jB v≠Y b):∀o,I w' (Ad b o)=I w (Ad b o):=
 λo=>JH (h.block b j i)
theorem Kept.more(h:Kept vs w w')(j:∀v∈vs,v∈us):Kept us w w':=
 ⟨h.os,h.tape,h.output,h.size,λk m o=>h.block k m (λv i=>o v (j v i))⟩
open Go.Proofs.Tryz
theorem Own.form{l:LI}(h:Own B w v l):∃p c,v=.S p (J l) c:=by
 obtain⟨rfl,i⟩|⟨g,m,j,rfl,_⟩:=h.2;{exact⟨dN,0,by rw[i]⟩};{exact⟨_,_,rfl⟩}
theorem Rd.news{l:LI}(h:Rd w (.S a (J l) c) l):J (iU l)=J l*1/\(∀j u,(iU l)[j]?=Y u->I w (a.add j)=Y u)/\(∀u∈iU l,u.oneCell'):=by
 refine⟨al,?_,?_⟩;{
 intro j u i;obtain⟨p,r,e,h⟩:=h;obtain⟨rfl,-,rfl⟩:=mh e;obtain rfl|⟨b,o,e,hc⟩:=h;{simp at i};{
 simp only[oK]at e;subst e;have m:j<J l:=by have:=(bH.1 i).1;simpa using this
 have:=hc j m;rw[Ia,this];simp[List.getD,bN m]at i⊢;exact i}};{intro u q;obtain⟨x,_,rfl⟩:=fM.1 q;rfl}
theorem Rd.YX{l:LI}(h:Rd w (.S dN (J l) c) l):l=[]:=by
 obtain⟨p,i,e,h⟩:=h;obtain⟨rfl,-,rfl⟩:=mh e;obtain rfl|⟨b,o,e,hc⟩:=h;{rfl};{cases e}
theorem ar0(ty:TypeId)(i:TypeInfo){size:Nat}(j:P.underlying t=Y (.slice e))(m:P.info? e=i)(c:Nat)(q:w.ownsRow base e size v n xs):(Builtin.append_ #[t,t] ty #[v,.S dN 0 c]).run P w=.ok v w:=by
 obtain⟨rfl,rfl⟩|⟨g,s,r,rfl,_,_,o,_⟩:=q.2;{simp[Builtin.append_,ba0 j,sizeOf,typeInfo,m,Builtin.lenOf,Builtin.firstCells]};{simp[Builtin.append_,ba0 j,sizeOf,typeInfo,m,Builtin.lenOf,Builtin.firstCells,o,storeCells]}
theorem bg0{p:OA}{l:LI}(h:Rd w (.S p (J l) c) l)(R:J l<=2^21):dQ dG 92 #[.S p (J l) c] w λe w'=>∃j m,e=dR (.S j (J l) m)/\Own (U (Q w)) w' (.S j (J l) m) l/\Bw w w':=by
 let⟨i,B,y,M,E⟩:=mJ Tryz.infoByte;cases p with
 |none=>
  cases h.YX;go_in;go_wp2;go_ret;exact⟨dN,0,rfl,qe _ _ _ _,bD _ _⟩
 |some a=>
  let⟨x,u,s⟩:=h.news;go_in;go_wp2_with(at_builtin;refine VH _ rfl _ _ 22 rfl (U (Q w)) 5 i (jK .u8 0) 1 1 underlying22 B y M E rfl bf _ _ _ rfl (qe _ _ _ _) a _ c (iU l) rfl x u s kW af aU ?_);intro r q N D _;have o:Ow w q r l:=by simpa using N
  obtain⟨j,m,rfl⟩:=o.form;go_wp2;go_ret;exact⟨j,m,rfl,o,af7 D⟩
variable {a:Act}
theorem aN0{iZ:iE}(ik:o.guard=dN) (ho:o.op=.call {callee:=.builtin .append,args:=#[s,x],argTypes:=#[22,22]}){l m lm:LI}(sE:O (lm=l++m)){p:OA}(hs:a.eval s=v)(hx:a.eval x=.S p (J m) c)(dw:Own B w v l)(hr:Rd w (.S p (J m) c) m)(hl:J l+J m<=2^22)(hB:B<=U (Q w))(hK:∀p' c' w',Own B w' (.S p' (J lm) c') lm->jG w w' (jB v)->wpList dG ops iZ rest (a.put o.dst (.S p' (J lm) c')) w'):wpList dG ops iZ (o::rest) a w:=by
 let⟨i,hi,jk,fI,gv⟩:=mJ Tryz.infoByte;cases ae sE;cases p with
 |none=>
  cases hr.YX;obtain⟨pv,cv,rfl⟩:=dw.form;refine Lib.wpList_append_run w ik s x 22 22 ho _ _ hs hx _ _ (ar0 (P:=dG) o.type i underlying22 hi c dw) ?_;have:=hK pv cv w (by simpa using dw) ⟨rfl,rfl,rfl,fS _,λ_ _ _=>rfl⟩;simpa using this
 |some ad=>
  let⟨n1,n2,n3⟩:=hr.news;refine VH w ik s x 22 ho B 5 i (jK .u8 0) 1 1 underlying22 hi jk fI gv rfl bf v _ _ hs dw ad _ c (iU m) hx n1 n2 n3 kW af hB ?_;intro v' w' h1 h2 _;have kU:Own B w' v' (l++m):=by unfold Own;rw[fe,iU,uk];exact h1
  obtain⟨p',c',rfl⟩:=kU.form;exact hK p' c' w' kU h2
theorem et5(D:n<=2^22):dQ dG 237 #[ay,.I n] w λe w'=>∃m o,e=dR (.S m 0 o)/\Own (U (Q w)) w' (.S m 0 o) []/\Bw w w':=by
 let⟨i,x,s,E,y⟩:=mJ Tryz.infoByte;by_cases h:n=0;{subst h;go_in;go_wp2;go_ret;exact⟨dN,0,rfl,qe _ _ _ _,bD _ _⟩};{
 have B:=uX 0 n;have q:=ai (Lib.run_append_nil_zeros (P:=dG) w 22 3 22 5 i (jK .u8 0) jV jV underlying22 underlying3 x s n af af af (by rw[y];omega));have r:=au3 w n 0 5;have j:=au2 w n 0 5 kW;generalize grownCap w n 0 5=cc at q r j;go_in;go_wp2_with(at_builtin;refine Lib.wpList_append_run _ rfl _ _ _ _ rfl _ _ rfl rfl _ _ q ?_);unfold maxLen at j;go_wp2;go_ret;have u:(Builtin.zeroCells #[Value.int IntKind.u8 0] n++Builtin.zeroCells #[Value.int IntKind.u8 0] (cc-n)).size=cc*1:=by rw[aZ2,au1,au1];simp;omega
 exact⟨_,cc,rfl,World.ownsRow_made (base:=U (Q w)) (e:=5) (size:=1) w _ cc aU kW u,cY.drew⟩}
def xx(w:G)(g:Nat)(vs:List dV)(ls:List LI):Prop:=
 J vs=J ls/\∀j v l,vs[j]?=Y v->ls[j]?=Y l->I w (Ad g j)=Y v/\Rd w v l
theorem xx.H{ls:List LI}(h:xx w g vs ls)(i:Bw w w'):xx w' g vs ls:=
 ⟨h.1,λj v l o m=>⟨aq (h.2 j v l o m).1 i,(h.2 j v l o m).2.H i⟩⟩
theorem xx.get{ls:List LI}(h:xx w g vs ls)(j:Nat)(i:j<J ls):∃(p:OA)(c:Nat)(l:LI),ls[j]?=l/\I w (Ad g j)=dS p (J l) c/\Rd w (.S p (J l) c) l:=by
 have o:j<J vs:=h.1▸i;let⟨q,m⟩:=h.2 j vs[j] ls[j] (bN o) (bN i);let⟨p,c,e,r⟩:=id m;exact⟨p,c,ls[j],bN i,by rw[q,e],by rw[e]at m;exact m⟩
def cat(ls:List LI):LI:=jL ls
theorem Xf:cat []=[]:=rfl
theorem aG0(l:LI):cat [l]=l:=by simp[cat]
theorem bB1(l m:LI):cat [l,m]=l++m:=by simp[cat]
variable {k:Nat}
theorem cE2{ls:List LI}{l:LI}(h:ls[k]?=l):cat (jT (k+1) ls)=cat (jT k ls)++l:=by
 let⟨i,e⟩:=bH.1 h;unfold cat;rw[Zq i,LM,e];simp only[vF,bc8,Da]
theorem aD1(ls:List LI)(k:Nat):J (cat (jT k ls))<=J (cat ls):=by
 have e:cat ls=cat (jT k ls)++cat (jD k ls):=by unfold cat;rw[<-LM,JN]
 rw[e,fe];omega
theorem cL3{ls:List LI}(h:xx w g vs ls)(hl:J (cat ls)<=2^22)(X:J ls<=1000):dQ dG 195 #[.T g (J ls) C] w λe w'=>∃o r,e=dR (.S o (J (cat ls)) r)/\Own (U w.heap) w' (.S o (J (cat ls)) r) (cat ls)/\Bw w w':=by
 let⟨i,Z,jk,fI,gv⟩:=mJ Tryz.infoByte;go_in;go_wp2
 go_loopw[3,11](λs i wr=>∃k:Nat,k<=J ls/\i=.I k/\s=.I (J (cat (jT k ls)):Nat)/\Bw w wr) (λ_ i _=>J ls-(jN (intOf i)))
 exact⟨0,de _,rfl,by simp[cat],bD _ _⟩;{
 obtain⟨k,kh,rfl,rfl,j⟩:=hrel;have N:=aD1 ls k;by_cases M:k<J ls;{
 let⟨p,c,l,D,e2,B⟩:=(h.H j).get k M;have q:=cE2 D;have Wm:J (cat (jT k ls))+J l=J (cat (jT (k+1) ls)):=by rw[q];simp
 have E:=aD1 ls (k+1);have y:J (cat (jT k ls))+J l<=2^22:=af;generalize J (cat (jT k ls))=a at*;go_wp2;go_roundw;exact⟨k+1,af,by go_num,by rw[<-Wm];go_num,j⟩;exact dy};{
 cases(af:k=J ls);rw[wS];rw[wS]at N
 go_wp21
 refine(et5 hl).h ?_;rintro e w1⟨V,c1,rfl,x,az⟩;replace x:Own (U w.heap) w1 (.S V 0 c1) []:=x.h j.size;go_wp2
 go_loopw[6,27](λv i wr=>∃k:Nat,k<=J ls/\i=.I k/\(∃p c,v=.S p (J (cat (jT k ls))) c/\Own (U w.heap) wr v (cat (jT k ls)))/\Bw w wr) (λ_ i _=>J ls-(jN (intOf i)))
 exact⟨0,de _,rfl,⟨V,c1,by simp[cat],by simpa[cat]using x⟩,aj j az⟩;{
 obtain⟨k,kh,rfl,⟨R,cv,rfl,m⟩,j⟩:=hrel;have N:=aD1 ls k;by_cases M:k<J ls;{
 let⟨p,c,l,D,e2,B⟩:=(h.H j).get k M;have q:=cE2 D;have E:=aD1 ls (k+1);have y:J (cat (jT k ls))+J l<=2^22:=by have:=vj List.length q;simp only[fe]at this;omega
 have u:=ai q;generalize(cat (jT k ls))=a at*;cases p with
 |none=>
  cases B.YX;go_wp2_with(at_builtin;refine Lib.wpList_append_run _ rfl _ _ _ _ rfl _ _ rfl rfl _ _ (ar0 (P:=dG) 22 i underlying22 Z c m) ?_);go_roundw;exact⟨k+1,af,by go_num,⟨R,cv,by rw[ae u];simp,by rw[ae u];simpa using m⟩,j⟩;exact dy
 |some ad=>
  let⟨n1,n2,n3⟩:=B.news;go_wp2_with(at_builtin;refine VH _ rfl _ _ 22 rfl (U w.heap) 5 i (jK .u8 0) 1 1 underlying22 Z jk fI gv rfl bf _ _ _ rfl m ad _ c (iU l) rfl n1 n2 n3 kW af j.size ?_);intro v' w2 dw hg _;have W:Own (U w.heap) w2 v' (a++l):=by unfold Own;rw[fe,iU,uk];exact dw
  obtain⟨o,r,rfl⟩:=W.form;go_wp2;go_roundw;exact⟨k+1,af,by go_num,⟨o,r,by rw[ae u],by rw[ae u];exact W⟩,j.grown hg j.size (λk X=>(m.lt k X).1)⟩;exact dy};{cases(af:k=J ls);rw[wS]at m;go_wp2;go_ret;exact⟨R,cv,by rw[wS];rfl,m,j⟩}}}}
theorem bA6{ls:List LI}(h:xx w g vs ls)(m:J (cat ls)<=2^22)(o:J ls<=1000):Cp 195 #[.T g (J ls) (J ls)] w λe w'=>∃i j,e=dR (.S i (J (cat ls)) j)/\Own (U (Q w)) w' (.S i (J (cat ls)) j) (cat ls)/\Bw w w':=cL3 (C:=J ls) h m af
theorem eN0{p:OA}{l:LI}(hc:I w (Ad g 0)=dS p (J l) c)(h:Rd w (.S p (J l) c) l)(u:J l<=2^21):Cp 195 #[.T g 1 1] w λe w'=>∃q r,e=dR (.S q (J l) r)/\Own (U (Q w)) w' (.S q (J l) r) l/\Bw w w':=by
 have s:xx w g [.S p (J l) c] [l]:=by
  refine⟨rfl,λj v m o i=>?_⟩
  match j,o,i with
  |0,o,i=>simp at o i;subst o i;exact⟨hc,h⟩
 have:=bA6 s (by rw[aG0];omega) al;rw[aG0]at this;exact this
theorem eM9{p q:OA}{l m lm:LI}(u:O (lm=l++m))(hc:I w (Ad g 0)=dS p (J l) c)(B:I w (Ad g 1)=dS q (J m) d)(h:Rd w (.S p (J l) c) l)(k:Rd w (.S q (J m) d) m)(D:J l+J m<=2^22):Cp 195 #[.T g 2 2] w λe w'=>∃r s,e=dR (.S r (J lm) s)/\Own (U (Q w)) w' (.S r (J lm) s) lm/\Bw w w':=by
 have y:xx w g [.S p (J l) c,.S q (J m) d] [l,m]:=by
  refine⟨rfl,λj v x o i=>?_⟩
  match j,o,i with
  |0,o,i=>simp at o i;subst o i;exact⟨hc,h⟩
  |1,o,i=>simp at o i;subst o i;exact⟨B,k⟩
 have:=bA6 y (by rw[bB1,fe];omega) al;rw[bB1,<-ae u]at this;exact this
theorem D4{iZ:iE}(ik:o.guard=dN) (ho:o.op=.call {callee:=.builtin .append,args:=#[s,x],argTypes:=#[22,22]})(v:dV){l m lm:LI}(sE:O (lm=l++m))(p:OA)(c k:Nat)(hk:Le m k)(hs:a.eval s=v)(hx:a.eval x=.S p k c)(dw:Own B w v l)(hr:Rd w (.S p k c) m)(hl:J l+J m<=2^22)(hB:B<=U (Q w))(hK:∀p' c' w',Own B w' (.S p' (J lm) c') lm->jG w w' (jB v)->wpList dG ops iZ rest (a.put o.dst (.S p' (J lm) c')) w'):wpList dG ops iZ (o::rest) a w:=by
 cases ae hk;exact aN0 ik ho sE hs hx dw hr hl hB hK
theorem do4{iZ:iE}(ik:o.guard=dN)(f:FuncId)(x1 x2 x3:Operand)(ud:Array TypeId)(ho:o.op=.call {callee:=.value (.func f),args:=#[x1,x2,x3],argTypes:=ud})(v1 v2 v3:dV)(h1:a.eval x1=v1)(h2:a.eval x2=v2)(h3:a.eval x3=v3)(lG:∀vs,(callFunc f vs).run P w=.ok (.enter f vs) w)(hc:dQ P f #[v1,v2,v3] w R)(hR:∀e w',R e w'->∃v,e=dR v/\K (a.put o.dst v) w'):if jW o (yielded ops a.tmps)then Oper.wp P o a w K iZ else E:=by
 have hw:jW o (yielded ops a.tmps):=by simp[jW,ik]
 rw[aK hw];have gx:(execOp a.eval o).run P w=.ok (.enter f #[v1,v2,v3]) w:=by subst h1 h2 h3;unfold execOp;simp[go_sem,ho,resolve,invoke,lG]
 show o.upon P a K iZ _;rw[gx,VF];refine hc.h ?_;intro e w' h;obtain⟨v,rfl,hk⟩:=hR e w' h;exact hk
theorem Own.one(w:G)(y:Int):Own (U (Q w)) (jA w (dO #[jK .u8 y] 5)) (.T (U (Q w)) 1 1) [y]:=
 aZ9 w #[jK .u8 y] 1 aU kW rfl
theorem Ct{a:G}{l:LI}(h:Below B a w)(j:jG w w' (jB v))(i:Own C w v l)(o:B<=C)(m:B<=U (Q w)):Below B a w':=
 h.grown j m (λk e=>aM (i.lt k e).1)
theorem U7{iZ:iE}(ik:o.guard=dN) (ho:o.op=.call {callee:=.builtin .append,args:=#[s,x],argTypes:=#[22,22]})(v:dV){l lm:LI}(sE:O (lm=l++[y]))(g:Nat)(hs:a.eval s=v)(hx:a.eval x=.T g 1 1)(dw:Own B w v l)(hc:I w (Ad g 0)=Y (jK .u8 y))(hl:J l<2^22)(hB:B<=U (Q w))(h:∀p' c' w',Own B w' (.S p' (J lm) c') lm->jG w w' (jB v)->wpList dG ops iZ rest (a.put o.dst (.S p' (J lm) c')) w'):wpList dG ops iZ (o::rest) a w:=by
 have hr:Rd w (.T g 1 1) [y]:=by refine⟨_,_,rfl,.R ⟨g,0,rfl,λi hi=>?_⟩⟩;cases(by simpa using hi:i=0);simpa using hc
 exact aN0 ik ho sE hs hx dw hr bL hB h
def XT(i j:Nat)(v:dV):Prop:=∀b,jB v=Y b->i<=b/\b<j
theorem Own.btw{l:LI}(h:Own B w v l):XT B (U (Q w)) v:=h.lt
abbrev CF(w:G)(b:Nat)(v0 v1:dV):Prop:=I w (Ad b 0)=v0/\I w (Ad b 1)=v1
theorem CF.H(h:CF w b v0 v1)(i:Bw w w'):CF w' b v0 v1:=⟨aq h.1 i,aq h.2 i⟩
theorem Own.cap{p:OA}{l:LI}(h:Own B w (.S p n c) l):n<=c:=by
 obtain⟨e,m⟩|⟨g,j,i,e,_,_,hc,_⟩:=h.2;{simp only[rE]at e;omega};{simp only[rE]at e;omega}
theorem Own.GR{p:OA}{l:LI}(h:Own B w (.S p n c) l):c<=maxLen:=by
 obtain⟨e,m⟩|⟨g,j,i,e,_,_,hc,hm,_⟩:=h.2;{simp only[rE]at e;omega};{simp only[rE]at e;omega}
theorem bR4{p:OA}{l:LI}(o:Le l n)(h:Rd w (.S p n c) l)(m:Mg n):dQ dG 26 #[.S p n c] w λe w'=>∃i j,e=dR (.S i n j)/\Own (U (Q w)) w' (.S i n j) l/\Bw w w':=by
 cases ae o;exact aO8 h m
theorem MB{p q:OA}{l:LI}(r:Le l n)(o:Rd w (.S p n c) l)(m:Rd w (.S q n d) l)(i:n<=2^21):dQ dG 32 #[.S p n c,.S q n d] w (Rb (jO dY) w):=by
 cases ae r;refine cL (eB9 o m i i) λs j=>?_;exact⟨al,j⟩
theorem Jr{iZ:iE}(ik:o.guard=dN) (ho:o.op=.call {callee:=.value (.func f),args:=#[x1],argTypes:=ud})(h1:a.eval x1=v1)(lG:∀vs,(callFunc f vs).run P w=.ok (.enter f vs) w)(hc:dQ P f #[v1] w R)(hR:∀e w',R e w'->∃v,e=dR v/\K (a.put o.dst v) w'):if jW o (yielded ops a.tmps)then Oper.wp P o a w K iZ else E:=by
 have hw:jW o (yielded ops a.tmps):=by simp[jW,ik]
 rw[aK hw];have gx:(execOp a.eval o).run P w=.ok (.enter f #[v1]) w:=by subst h1;unfold execOp;simp[go_sem,ho,resolve,invoke,lG]
 show o.upon P a K iZ _;rw[gx,VF];refine hc.h ?_;intro e w' h;obtain⟨v,rfl,hk⟩:=hR e w' h;exact hk
theorem Yt{iZ:iE}(ik:o.guard=dN) (ho:o.op=.call {callee:=.value (.func f),args:=#[x1,x2],argTypes:=ud})(h1:a.eval x1=v1)(h2:a.eval x2=v2)(lG:∀vs,(callFunc f vs).run P w=.ok (.enter f vs) w)(hc:dQ P f #[v1,v2] w R)(hR:∀e w',R e w'->∃v,e=dR v/\K (a.put o.dst v) w'):if jW o (yielded ops a.tmps)then Oper.wp P o a w K iZ else E:=by
 have hw:jW o (yielded ops a.tmps):=by simp[jW,ik]
 exact zs8
theorem ju{ops:iQ}{iZ:iE}{E:Prop}{ud:Array TypeId}{x1:Operand}(hc:dQ P f #[v1] w R)(hR:∀e w',R e w'->∃v,e=dR v/\K (a.put o.dst v) w')(ik:o.guard=dN:=by rfl)(ho:o.op=.call {callee:=.value (.func f),args:=#[x1],argTypes:=ud}:=by rfl)(h1:a.eval x1=v1:=by rfl)(lG:∀vs,(callFunc f vs).run P w=.ok (.enter f vs) w:=by(intro _;kernel_rfl)):if jW o (yielded ops a.tmps)then Oper.wp P o a w K iZ else E:=Jr ik ho h1 lG hc hR
theorem uG{ops:iQ}{iZ:iE}{E:Prop}{ud:Array TypeId}{x1 x2:Operand}(hc:dQ P f #[v1,v2] w R)(hR:∀e w',R e w'->∃v,e=dR v/\K (a.put o.dst v) w')(ik:o.guard=dN:=by rfl)(ho:o.op=.call {callee:=.value (.func f),args:=#[x1,x2],argTypes:=ud}:=by rfl)(h1:a.eval x1=v1:=by rfl)(h2:a.eval x2=v2:=by rfl)(lG:∀vs,(callFunc f vs).run P w=.ok (.enter f vs) w:=by(intro _;kernel_rfl)):if jW o (yielded ops a.tmps)then Oper.wp P o a w K iZ else E:=Yt ik ho h1 h2 lG hc hR
abbrev mG(k s:Int)(P:dV)(f:Int)(V:dV)(e g:Int):dV:=jP #[.I k,.U s,P,.I f,V,.U e,.U g]
abbrev iR(w:G)(b:Nat)(v0 v1 v2 v3 v4 v5 v6:dV):Prop:=I w (Ad b 0)=v0/\I w (Ad b 1)=v1/\I w (Ad b 2)=v2/\I w (Ad b 3)=v3/\I w (Ad b 4)=v4/\I w (Ad b 5)=v5/\I w (Ad b 6)=v6
theorem iR.H{v3 v4 v5 v6:dV}(h:iR w b v0 v1 v2 v3 v4 v5 v6)(i:Bw w w'):iR w' b v0 v1 v2 v3 v4 v5 v6:=
 ⟨aq h.1 i,aq h.2.1 i,aq h.2.2.1 i,aq h.2.2.2.1 i,aq h.2.2.2.2.1 i,aq h.2.2.2.2.2.1 i,aq h.2.2.2.2.2.2 i⟩
theorem yT(h:∀o,jF w (Ad b o)=dF)(i:b<U (Q w))(j:Bw w w'):∀o,jF w' (Ad b o)=dF:=λo=>(j.frozen (p:=(Ad b o)) i).Z (h o)
theorem dk4(k s f e g:Int)(p q:OA)(n m c d:Nat)(P V:LI)(ep:Le P n)(ev:Le V m)(w:G)(hp:Rd w (.S p n c) P)(hv:Rd w (.S q m d) V)(hn:Mg n)(hm:Mg m):dQ dG 8 #[mG k s (.S p n c) f (.S q m d) e g] w λr w'=>∃y N q' d' B,r=dR (mG k s (.S y n N) f (.S q' m d') e g)/\U (Q w)<=B/\Own (U (Q w)) w' (.S y n N) P/\XT (U (Q w)) B (.S y n N)/\Own B w' (.S q' m d') V/\Bw w w':=by
 have hR:=ai λ(w':G)(hb:Bw w w')=>hp.H hb;have hV:=ai λ(w':G)(hb:Bw w w')=>hv.H hb;clear hp hv;go_in
 go_wp21
 let⟨W,E⟩:=aF (jA (jA (jA w (dO #[.I k,.U s,.S p n c,.I f,.S q m d,.U e,.U g] 35)) (dO #[.I 0,.U 0,ay,.I 0,ay,.U 0,.U 0] 54)) (dO #[.I k,.U s,ay,.I 0,ay,.U 0,.U 0] 54));have bW:Bw w W:=by rw[E];exact(cY.alloc al _).alloc bL _
 have zW:U (Q W)=U (Q w)+3:=by rw[E];simp
 let⟨A,i⟩:=aF (U (Q w));let⟨R,j⟩:=aF (A+1);let⟨C,M⟩:=aF (R+1);have hA:iR W A (.I k) (.U s) (.S p n c) (.I f) (.S q m d) (.U e) (.U g):=by rw[E,i];simp[iR,go_sem]
 have hC:iR W C (.I k) (.U s) ay (.I 0) ay (.U 0) (.U 0):=by rw[E,M,j,i];simp[iR,go_sem]
 have fC:∀o,jF W (Ad C o)=dF:=λo=>by rw[E,M,j,i];simp[go_sem]
 have WD:iR W R (.I 0) (.U 0) ay (.I 0) ay (.U 0) (.U 0):=by rw[E,j,i];simp[iR,go_sem]
 have fR:∀o,jF W (Ad R o)=dF:=λo=>by rw[E,j,i];simp[go_sem]
 rw[<-E,<-i,<-j,<-M];clear E;have HE:=eG i j M;have HZ:=ai zW;refine(bR4 ep (ae hR _ bW) hn).h ?_;rintro r w1⟨y,N,rfl,ho,az⟩;have ya:=hA.H az;have IE:=hC.H az;have fC1:=yT fC af az;have z1:=az.size;let⟨HO,HB,Nd⟩:=gC ho (aj bW az) z1;have CE:=bG (WD.H az) (yT fR af az);clear hA hC fC bW ho az z1 zW i M j WD fR;have c0:=IE
 go_wp21
 let⟨X,x⟩:=aF (jS (jS w1 (Ad C 2) (.S y n N)) (Ad C 3) (.I f));let⟨i,j,M⟩:=ae HE;let⟨hAC,Pf⟩:¬C=A/\¬C=R:=af;have zX:U (Q X)=U (Q w1):=by rw[x];simp
 have xZ:iR X A (.I k) (.U s) (.S p n c) (.I f) (.S q m d) (.U e) (.U g):=by rw[x];simp[iR,go_sem,hAC,ya]
 have Fb:iR X C (.I k) (.U s) (.S y n N) (.I f) ay (.U 0) (.U 0):=by rw[x];simp[iR,go_sem,c0]
 have fC2:∀o,jF X (Ad C o)=dF:=λo=>by rw[x];simp[fC1]
 have Pg:iR X R (.I 0) (.U 0) ay (.I 0) ay (.U 0) (.U 0):=by let⟨⟨r0,r1,r2,r3,r4,r5,r6⟩,_⟩:=ae CE;rw[x];simp[iR,go_sem,Pf,r0,r1,r2,r3,r4,r5,r6]
 have fR2:∀o,jF X (Ad R o)=dF:=λo=>by rw[x];simp[CE.2]
 have z1:=ae Nd;have zW:=ae HZ;have bX:Bw w X:=x▸(HB.setCell bL _).setCell bL _;have oX:Ow W X (.S y n N) P:=by rw[x];exact rW (rW HO bL _) bL _
 rw[<-x];clear x c0 fC1 hAC Pf CE;have OX:=ai oX;refine(bR4 ev (ae hV _ bX) hm).h ?_;rintro r w2⟨q',d',rfl,kU,Z⟩;have Kl:=xZ.H Z;have hC3:=Fb.H Z;have fC3:=yT fC2 af Z;have tQ:=Pg.H Z;have fR3:=yT fR2 af Z;have z2:=Z.size;let⟨B2,O1,O2⟩:=gC (aj bX Z) (Own.H oX Z) kU;have u:=IV i (aE j M) zX z1 zW z2;clear xZ Fb fC2 bX oX kU Z i M zX z1 zW z2 j Pg fR2;have c0:=hC3;obtain⟨r0,r1,r2,r3,r4,r5,r6⟩:=tQ;have hAC:¬C=A:=by obtain⟨h1,⟨h2,h3⟩,_⟩:=ae u;omega
 have hAR:¬R=A:=by obtain⟨h1,⟨h2,h3⟩,_⟩:=ae u;omega
 have Pf:¬R=C:=by obtain⟨h1,⟨h2,h3⟩,_⟩:=ae u;omega
 have hCR:¬C=R:=by obtain⟨h1,⟨h2,h3⟩,_⟩:=ae u;omega
 go_wp2;let⟨i,⟨j,M⟩,zX,z1,zW,z2⟩:=ae u;refine cX (v:=mG k s (.S y n N) f (.S q' m d') e g) (by simp[results,results8,go_sem,r0,r1,r2,r3,r4,r5,r6]) rfl ⟨y,N,q',d',U (Q X),rfl,af,Own.h (B:=U (Q W)) ?_ af,?_,?_,?_⟩;{
 repeat(refine rW ?_ bL _)
 exact O1};{intro b hb;have:=OX.lt b hb;omega};{
 repeat(refine rW ?_ bL _)
 exact O2};{
 repeat(refine tp ?_ bL _)
 exact B2}
theorem fF5(k s f e g:Int)(p q o q':OA)(n m c d x u:Nat)(P V:LI)(ep:Le P n)(ev:Le V m)(w:G)(Z:Rd w (.S p n c) P)(X:Rd w (.S q m d) V)(Z9:Rd w (.S o n x) P)(R:Rd w (.S q' m u) V)(hn:Mg n)(hm:Mg m):dQ dG 12 #[mG k s (.S p n c) f (.S q m d) e g,mG k s (.S o n x) f (.S q' m u) e g] w (Rb (jO dY) w):=by
 have N:=ai λ(y:G)(i:Bw w y)=>aE (Z.H i) (Z9.H i);have M:=ai λ(y:G)(i:Bw w y)=>aE (X.H i) (R.H i);go_in
 go_wp21
 let⟨W,r⟩:=aF (jA (jA w (dO #[.I k,.U s,.S p n c,.I f,.S q m d,.U e,.U g] 54)) (dO #[.I k,.U s,.S o n x,.I f,.S q' m u,.U e,.U g] 54));have B:Bw w W:=r▸cY.alloc al _;have hA:iR W (U (Q w)) (.I k) (.U s) (.S p n c) (.I f) (.S q m d) (.U e) (.U g):=by rw[r];simp[iR,go_sem]
 have hC:iR W (U (Q w)+1) (.I k) (.U s) (.S o n x) (.I f) (.S q' m u) (.U e) (.U g):=by rw[r];simp[iR,go_sem]
 rw[<-r];refine cL (MB ep (ae N _ B).1 (ae N _ B).2 af) λw1 D=>?_;have E:=ai (aj B D);obtain⟨a0,a1,a2,a3,a4,a5,a6⟩:=hA.H D;obtain⟨c0,c1,c2,c3,c4,c5,c6⟩:=hC.H D
 go_wp21
 refine cL (MB ev (ae M _ E).1 (ae M _ E).2 af) λw2 j=>?_;have i5:=aq a5 j;have i6:=aq a6 j;have j5:=aq c5 j;have j6:=aq c6 j;have B2:=ai (aj E j);exact aV
def aD(l:LI):Prop:=∀z∈l,0<=z/\z<256
def gR{α:Type}[DecidableEq α](c:α):List α->List (List α)
 |[]=>[[]]
 |x::l=>if x=c then[]::gR c l else(match gR c l with|[]=>[[x]]|n::ns=>(x::n)::ns)
theorem cK6{α:Type}[DecidableEq α]{c:α}{s:List α}(h:c∉s):gR c s=[s]:=by
 induction s with
 |nil=>rfl
 |cons x l ih=>
  rw[gR,aJ (λe=>h (by simp[e])),ih (λi=>h (by simp[i]))]
theorem cK7{α:Type}[DecidableEq α]{c:α}{s t:List α}(h:c∉s):gR c (s++c::t)=s::gR c t:=by
 induction s with
 |nil=>simp[gR]
 |cons x l ih=>
  rw[Gk,gR,aJ (λe=>h (by simp[e])),ih (λi=>h (by simp[i]))]
theorem eK9{α:Type}[DecidableEq α]{c x:α}(t:List α)(m:¬x=c)(s:List α)(h:c∉s):∃n i,gR c (s++x::t)=(s++x::n)::i:=by
 induction s with
 |nil=>
  rw[Eh,gR,aJ m];cases gR c t with
  |nil=>exact⟨[],[],rfl⟩
  |cons n i=>exact⟨n,i,rfl⟩
 |cons y l ih=>
  have j:¬y=c:=λe=>h (by simp[e]);let⟨n,i,e⟩:=ih (λq=>h (by simp[q]));exact⟨n,i,by rw[Gk,gR,aJ j,e];rfl⟩
theorem eK6{α:Type}[DecidableEq α](c:α){s:List α}:1<=J (gR c s):=by
 cases s with
 |nil=>simp[gR]
 |cons x l=>
  rw[gR];split;{simp};{split<;>simp}
theorem eK7{α β:Type}[DecidableEq α][DecidableEq β](f:α->β)(c:α)(s:List α)(h:∀x∈s,f x=f c->x=c):gR (f c) (s.map f)=(gR c s).map (List.map f):=by
 induction s with
 |nil=>rfl
 |cons x l ih=>
  rw[od,gR,gR,ih λy j=>h y (by simp[j])];by_cases i:x=c;{rw[aK (by rw[i]),aK i];rfl};{rw[aJ (λe=>i (h x al e)),aJ i];cases gR c l<;>rfl}
variable {c:UInt8}{s:List UInt8}
theorem dU3(h:c∉s):Lib.indexByte s c=-1:=by
 induction s with
 |nil=>rfl
 |cons x l ih=>
  have i:¬x=c:=λe=>h (by simp[e]);unfold Lib.indexByte;rw[ih (λj=>h (by simp[j]))];simp[i]
theorem dU4{t:List UInt8}(h:c∉s):Lib.indexByte (s++c::t) c=J s:=by
 induction s with
 |nil=>simp[Lib.indexByte]
 |cons x l ih=>
  rw[Gk];unfold Lib.indexByte;rw[ih (λi=>h (by simp[i]))];rw[aJ (by simpa using(λe=>h (by simp[e]))),aJ al];simp
theorem dq1(c:UInt8):∀(n:Nat)(s:List UInt8),J s<n->Lib.splitK [c] 0 (Lib.count s [c]) s=gR c s/\Lib.count s [c]+1=J (gR c s):=by
 intro n
 induction n with
 |zero=>intro s h;omega
 |succ n ih=>
  intro s h;by_cases hc:c∈s;{
 obtain⟨i,t,rfl,m⟩:=List.eq_append_cons_of_mem hc;have j:Lib.index (i++c::t) [c]=(J i:Nat):=by rw[Lib.index_one,dU4 m]
 have o:jD (J i+1) (i++c::t)=t:=by rw[List.drop_append];simp
 let⟨q,r⟩:=ih t (by simp at h;omega);rw[Lib.count_hit al j,cK7 m];simp only[mO,BJ,nY,o];constructor;{rw[bd0 1,Lib.splitK,aJ (by rw[j];simp),j];simp only[rY,mO,BJ,nY,Ek,o,q];simp};{omega}};{
 have j:Lib.index s [c]=-1:=by rw[Lib.index_one,dU3 hc]
 rw[Lib.count_miss j,cK6 hc];exact⟨rfl,rfl⟩}
def ni(c:Int):Bool:=(dD (97<=c)&&dD (c<=122))||(dD (48<=c)&&dD (c<=57))||c==45||c==95
def qQ(l:LI):Bool:=dD (1<=J l)&&dD (J l<=16)&&l.all ni
def st(k:Nat):LI->Bool
 |[]=>dD (1<=k)&&dD (k<=8)
 |c::t=>c==47&&(dD (k+J (gR 47 t)<=8)&&(gR 47 t).all qQ)
def vp(p:LI):Bool:=st 0 p
variable {c:Int}
theorem cf9(h:ni c):¬c=47:=by
 intro e;subst e
 revert h
 decide
theorem aX3{l:LI}(h:∀x∈l,ni x):(47:Int)∉l:=λhm=>cf9 (h _ hm) rfl
theorem dp2{i:LI}(h:∀x∈i,ni x):st k (47::i)=(qQ i&&st (k+1) []):=by
 rw[st,st,cK6 (aX3 h)];by_cases j:k+1<=8;{simp[j]};{simp[j]}
theorem dp1{i t:LI}(h:∀x∈i,ni x):st k (47::(i++47::t))=(qQ i&&st (k+1) (47::t)):=by
 rw[st,st,cK7 (aX3 h)];have e:k+J (i::gR 47 t)=k+1+J (gR 47 t):=by simp;omega
 rw[e];rw[bc9];cases qQ i<;>cases dD (k+1+J (gR 47 t)<=8)<;>cases(gR 47 t).all qQ<;>rfl
theorem dp3{i t:LI}(h:∀x∈i,ni x)(hc:¬c=47)(j:ni c=dF):st k (47::(i++c::t))=dF:=by
 let⟨n,o,e⟩:=eK9 t hc i (aX3 h);rw[st,e];have m:qQ (i++c::n)=dF:=by rw[qQ,List.all_append,bc9,j];simp
 rw[bc9,m];simp
theorem bT4{t:LI}(hc:¬c=47):st k (c::t)=dF:=by
 rw[st];simp[hc]
theorem cO0:∀{a b:LI},aD a->aD b->Lib.bytesOf a=Lib.bytesOf b->a=b
 |[],[],_,_,_=>rfl
 |[],y::b,_,_,h=>by simp[Lib.bytesOf]at h
 |x::a,[],_,_,h=>by simp[Lib.bytesOf]at h
 |x::a,y::b,ha,hb,h=>by
  simp only[Lib.bytesOf,od,aY6]at h;have m:=ha x al;have j:=hb y al;have e:x=y:=by have:=vj UInt8.toNat h.1;simp at this;omega
  rw[e,cO0 (λz i=>ha z (by simp[i])) (λz i=>hb z (by simp[i])) h.2]
theorem bT8{t:LI}(o:aD t):Lib.splitK (Lib.bytesOf [47]) 0 (Lib.count (Lib.bytesOf t) (Lib.bytesOf [47])) (Lib.bytesOf t)=(gR 47 t).map Lib.bytesOf/\Lib.count (Lib.bytesOf t) (Lib.bytesOf [47])+1=J (gR 47 t):=by
 have i:Lib.bytesOf [47]=[UInt8.ofNat (jN (47:Int))]:=rfl;let⟨r,q⟩:=dq1 (UInt8.ofNat (jN (47:Int))) _ (Lib.bytesOf t) (Nat.lt_succ_self _);have j:gR (UInt8.ofNat (jN (47:Int))) (Lib.bytesOf t)=(gR 47 t).map Lib.bytesOf:=by refine eK7 (λn:Int=>UInt8.ofNat (jN n)) 47 t λx m e=>?_;have s:=o x m;have:=vj UInt8.toNat e;simp at this;omega
 rw[i,r,j];refine⟨rfl,?_⟩;rw[q,j,iC]
theorem eK5{t:LI}(r:aD t):∀n∈gR 47 t,aD n:=by
 induction t with
 |nil=>intro n i;simp[gR]at i;subst i;intro z j;simp at j
 |cons x l q=>
  have q:=q λz j=>r z (by simp[j]);intro n i;rw[gR]at i;split at i;{obtain rfl|i:=gD.1 i;{intro z j;simp at j};{exact q n i}};{
 cases hc:gR 47 l with
 |nil=>
  rw[hc]at i;simp at i;subst i;intro z j;simp at j;subst j;exact r _ al
 |cons m ms=>
  rw[hc]at i q;obtain rfl|i:=gD.1 i;{intro z j;obtain rfl|j:=gD.1 j;{exact r _ al};{exact q m al z j}};{exact q n (by simp[i])}}
theorem Rd.at{p:OA}{c:Nat}{l:LI}(h:Rd w (.S p n c) l)(j:0<J l):∃b o,p=(Ad b o)/\n=J l/\∀i,i<J l->I w (Ad b (o+i))=Y (jK .u8 (jE l i 0)):=by
 obtain⟨q,r,e,h⟩:=h;obtain⟨rfl,rfl,-⟩:=mh e;obtain rfl|⟨b,o,m,hc⟩:=h;{simp at j};{exact⟨b,o,m,rfl,hc⟩}
theorem cf8(c:Int):(97<=c/\c<=122/\ni c)\/(122<c/\ni c=dF)\/(48<=c/\c<=57/\ni c)\/(c=95/\ni c)\/(57<c/\c<97/\¬c=95/\ni c=dF)\/(c=45/\ni c)\/(c<48/\¬c=45/\ni c=dF):=by
 unfold ni;by_cases r:97<=c<;>by_cases q:c<=122<;>by_cases o:48<=c<;>by_cases m:c<=57<;>by_cases j:c=45<;>by_cases i:c=95<;>simp[r,q,o,m,j,i]<;>omega
theorem dQ5:dQ dG 218 #[jK .u8 c] w λe w'=>e=dR (jO (ni c))/\w'=w:=by
 obtain⟨o,y,i⟩|⟨y,i⟩|⟨s,r,i⟩|⟨rfl,i⟩|⟨r,o,j,i⟩|⟨rfl,i⟩|⟨s,m,i⟩:=cf8 c;{rw[i];go_enter Tryz.func218,Tryz.ntmps218;exact aV};{rw[i];let⟨o,s,x,r,m,j⟩:(97:Int)<=c/\(48:Int)<=c/\¬c<=122/\¬c<=57/\¬c=45/\¬c=95:=af;go_enter Tryz.func218,Tryz.ntmps218;go_wp2;go_ret;exact⟨by simp[m,j],rfl⟩};{rw[i];have o:¬(97:Int)<=c:=af;go_enter Tryz.func218,Tryz.ntmps218;exact aV};{rw[i];go_enter Tryz.func218,Tryz.ntmps218;exact aV};{rw[i];let⟨o,s,r,m⟩:¬(97:Int)<=c/\(48:Int)<=c/\¬c<=57/\¬c=45:=af;go_enter Tryz.func218,Tryz.ntmps218;go_wp2;go_ret;exact⟨by simp[m,j],rfl⟩};{rw[i];go_enter Tryz.func218,Tryz.ntmps218;exact aV};{rw[i];let⟨o,u,j⟩:¬(97:Int)<=c/\¬(48:Int)<=c/\¬c=95:=af;go_enter Tryz.func218,Tryz.ntmps218;go_wp2;go_ret;exact⟨by simp[m,j],rfl⟩}
theorem Tryz.infoSl:(Tryz.prog.info? 22).map (λi=>(i.zero,i.size,i.bytes))=Y (Y ay,1,24):=by kernel_rfl
def AM(B:Nat)(w:G)(v:dV)(n:Nat)(vs:List dV):Prop:=w.ownsRow B 22 1 v n vs
theorem AM.nil(B:Nat)(w:G):AM B w ay 0 []:=qe _ _ _ _
theorem AM.form(h:AM B w v n vs):∃p c,v=.S p n c:=by
 obtain⟨rfl,i⟩|⟨g,m,j,rfl,_⟩:=h.2;{exact⟨dN,0,by rw[i]⟩};{exact⟨_,_,rfl⟩}
theorem AM.H(h:AM B w v n vs)(i:Bw w w'):AM B w' v n vs:=
 Rj h (row:=dN) ⟨i.os,i.tape,i.output,i.size,λk j _=>i.block k j⟩ (by cases m:jB v<;>simp)
theorem df9{iZ:iE}(ik:o.guard=dN){s:Operand}(ho:o.op=.call {callee:=.builtin .append,args:=#[s,x],argTypes:=#[47,47]})(g:Nat)(hs:a.eval s=v)(hx:a.eval x=.T g 1 1)(h:AM B w v n vs)(pu:OA)(nu cu:Nat)(hc:I w (Ad g 0)=dS pu nu cu)(hl:n<=2^21)(hB:B<=U (Q w))(hK:∀p' c' w',AM B w' (.S p' (n+1) c') (n+1) (vs++[.S pu nu cu])->jG w w' (jB v)->wpList dG ops iZ rest (a.put o.dst (.S p' (n+1) c')) w'):wpList dG ops iZ (o::rest) a w:=by
 let⟨i,hi,jk,fI,gv⟩:=mJ Tryz.infoSl;refine VH w ik s x 47 ho B 22 i _ 1 24 Tryz.underlying47 hi jk fI gv rfl bf v _ _ hs h (Ad g 0) 1 1 [.S pu nu cu] hx rfl ?_ ?_ kW af hB ?_;{
 intro j u hu;have e:j=0:=by have:=(bH.1 hu).1;simpa using this
 subst e;simp at hu;subst hu;exact hc};{intro u hu;simp at hu;subst hu;rfl};{intro v' w' h1 h2 _;have h3:AM B w' v' (n+1) (vs++[.S pu nu cu]):=h1;obtain⟨p',c',rfl⟩:=h3.form;exact hK p' c' w' h3 h2}
def bg(l:LI):ByteArray:=l.foldl (λr n=>r.push (UInt8.ofNat (jN n))) ByteArray.empty
theorem cO7(l:LI)(s:ByteArray):(l.foldl (λr n=>r.push (UInt8.ofNat (jN n))) s).data.toList=s.data.toList++l.map (λn=>UInt8.ofNat (jN n)):=by
 induction l generalizing s with
 |nil=>simp
 |cons b l ih=>rw[Lw,ih];simp[ByteArray.push]
theorem map_inj{l m:LI}(j:aD l)(hm:aD m)(h:l.map (λn=>UInt8.ofNat (jN n))=m.map (λn=>UInt8.ofNat (jN n))):l=m:=by
 induction l generalizing m with
 |nil=>cases m with
  |nil=>rfl
  |cons b m=>simp at h
 | cons a l ih=>cases m with
  |nil=>simp at h
  |cons b m=>
   simp only[od,aY6]at h;let⟨y,x⟩:=j a al;let⟨s,r⟩:=hm b al;have e:=vj UInt8.toNat h.1;simp at e;have q:a=b:=af;rw[q,ih (λz i=>j z (by simp[i])) (λz i=>hm z (by simp[i])) h.2]
theorem DR(l:LI):(bg l).toList=l.map (λn=>UInt8.ofNat (jN n)):=by
 rw[ByteArray.toList_eq,bg,cO7];rfl
theorem Qa{l m:LI}(i:aD l)(hm:aD m):((bg l).toList==(bg m).toList)=dD (l=m):=by
 rw[DR,DR];by_cases h:l=m;{simp[h]};{simp only[h,av4,bd3];exactλe=>h (map_inj i hm e)}
variable {c:Nat}
theorem vz{p:OA}{l:LI}(q:J l=n)(h:Rd w (.S p n c) l):(convert 22 9 (.S p n c)).run dG w=.ok (jJ (bg l)) w:=by
 subst q;rw[run_convert_bytes_string w 22 9 5 p (J l) c underlying22 underlying5 underlying9];cases p with
 |none=>
  cases h.YX;simp[Conv.bytesToString,bg]
 |some a=>
  let⟨s,m,r⟩:=h.news;have i:=run_loadCells_list (P:=dG) w a (iU l) (λj v o=>m j v o);simp only[iC]at i;exact run_bytesToString w a (J l) c l i
theorem ai9{p q:OA}{l m:LI}(el:Le l n)(s:Le m k)(j:Rd w (.S p n c) l)(i:Rd w (.S q k d) m)(r:aD l)(o:aD m):dQ dG 67 #[.S p n c,.S q k d] w (Rb (jO (dD (l=m))) w):=by
 have y:=vz el j;have x:=vz s i;have u:=ai (Qa r o);clear j i r o;go_in;go_wp2;go_ret;exact⟨by rw[ae u];rfl,bD _ _⟩
theorem Rd.cut{o:Nat}{l:LI}(h:Rd w (.S (Ad b o) n c) l)(i j:Nat)(E:i<=j)(u:j<=J l)(q:OA)(hq:j=i\/q=(Ad b (o+i)))(d:Nat)(m:LI)(s:m=jD i (jT j l)):Rd w (.S q (j-i) d) m:=by
 have hm:J m=j-i:=by rw[s];simp;omega
 refine⟨q,d,by rw[hm],?_⟩;obtain rfl|rfl:=hq;{left;exact Hz af};{obtain⟨y,M,e,h⟩:=h;obtain⟨r,-,-⟩:=mh e;obtain rfl|⟨N,B,x,hc⟩:=h;{left;exact Hz (by simp at u;omega)};{right;rw[x]at r;simp only[oK,dL7]at r;obtain⟨rfl,rfl,-⟩:=r;refine⟨b,o+i,rfl,λk D=>?_⟩;have:=hc (i+k) af;rw[yJ,this,s];simp[List.getD,show i+k<j by omega]}}
theorem Sc{p q:OA}{l m:LI}(el:Le l n)(s:Le m k)(j:Rd w (.S p n c) l)(i:Rd w (.S q k d) m)(r:aD l)(o:aD m):dQ dG 52 #[.S p n c,.S q k d] w (Rb (jO (dD (l=m))) w):=by
 have y:=vz el j;have x:=vz s i;have u:=ai (Qa r o);clear j i r o;go_in;go_wp2;go_ret;exact⟨by rw[ae u];rfl,bD _ _⟩
theorem Dj{p:OA}{l:LI}(o:Le l n)(h:Rd w (.S p n c) l)(m:n<=2^21):Cp 92 #[.S p n c] w λe w'=>∃i j,e=dR (.S i n j)/\Own (U (Q w)) w' (.S i n j) l/\Bw w w':=by
 cases ae o;exact bg0 h m
namespace iZ
open Go.Sort
variable {p:Prop}
theorem ai(h:p):O p:=h
theorem ae(h:O p):p:=h
abbrev Le{α:Type}(l:List α)(n:Nat):Prop:=O (J l=n)
theorem cg{α:Sort _}(x:α):∃y,O (x=y):=⟨x,rfl⟩
abbrev HU(w:G)(blk off:Nat)(d:Array Int):Prop:=Holds (λx:Int=>Value.U x) w blk off d
variable {w:G}{row:Option Nat}
theorem Pu:jG w w row:=⟨rfl,rfl,rfl,fS _,λ_ _ _=>rfl⟩
theorem jr(h:jG w w1 row)(k:jG w1 w2 row):jG w w2 row:=
 ⟨k.os.Z h.os,k.tape.Z h.tape,k.output.Z h.output,gq h.size k.size,λi j m=>(k.block i (mH j h.size) m).Z (h.block i j m)⟩
theorem js(w:G)(b o:Nat)(v:dV):jG w (jS w (Ad b o) v) b:=
 ⟨rfl,rfl,rfl,al,λi _ j=>gh _ _ _ _ (λe=>j (by rw[e]))⟩
variable {w':G}
theorem gI(h:jG w w' row):jG w w'.drew row:=⟨h.os,h.tape,h.output,h.size,h.block⟩
variable {x y:Int}{d:Array Int}
theorem HU.swap{blk off:Nat}(h:HU w blk off d){i:Nat}(s:i<d.size)(r:j<d.size)(q:x=d[j]!)(o:y=d[i]!):HU (jS (jS w (Ad blk (off+i)) (.U x)) (Ad blk (off+j)) (.U y)) blk off (swp d i j):=by
 subst q o;have m:=putRow_swp (λx:Int=>Value.U x) w blk off d i j s r;rw[putRow_self (λx:Int=>Value.U x) w blk off d h]at m;show Holds _ _ _ _ _;rw[m];exact holds_putRow _ w blk off d _ h (by rw[size_swp])
theorem Lj{p q:Addr}{t u:dV}(h:I w p=t):∃s,I (w.setCell q u) p=Y s:=by
 by_cases e:q=p;{subst e;exact⟨u,RH _ _ _ h⟩};{exact⟨t,(Rw _ _ _ _ e).Z h⟩}
theorem HU.drew{blk off:Nat}(h:HU w blk off d):HU w.drew blk off d:=h
theorem HU.kept{blk off:Nat}(h:HU w blk off d)(m:w'.heap[blk]?=w.heap[blk]?):HU w' blk off d:=λj i=>
 ⟨(JH (a:=(Ad blk (off+j))) m).Z (h j i).1,(Dg (a:=(Ad blk (off+j))) m).Z (h j i).2⟩
theorem dJ7:dQ dG 221 #[.U x] w λe w'=>e=dR (jO dF)/\w'=w:=by
 go_in;go_wp2;go_ret;exact⟨al,rfl⟩
theorem LY:dQ dG 273 #[.U x,.U y] w λe w'=>e=dR (jO (ltInt x y))/\w'=w:=by
 go_in
 go_wp21
 refine(dJ7).h ?_;rintro e w'⟨rfl,rfl⟩;exact aV
variable {vs:iA}
theorem MU:(callFunc 273 vs).run dG w=.ok (.enter 273 vs) w:=by kernel_rfl
variable {a:Act}{o:Oper}{P:Program}{ops:iQ}{K:Act->G->Prop}{E:Prop}{R:Ending->G->Prop}{f:FuncId}{x1 x2:Operand}{ud:Array TypeId}
theorem Lh{iZ:iE}(hw:jW o (yielded ops a.tmps)) (ho:o.op=.call {callee:=.value (.func f),args:=#[x1,x2],argTypes:=ud})(h1:a.eval x1=v1)(h2:a.eval x2=v2)(lG:∀vs,(callFunc f vs).run P w=.ok (.enter f vs) w)(hc:dQ P f #[v1,v2] w R)(hR:∀e w',R e w'->∃v,e=dR v/\K (a.put o.dst v) w'):if jW o (yielded ops a.tmps)then Oper.wp P o a w K iZ else E:=by
 rw[aK hw];have gx:(execOp a.eval o).run P w=.ok (.enter f #[v1,v2]) w:=by subst h1 h2;unfold execOp;simp[go_sem,ho,resolve,invoke,lG]
 show o.upon P a K iZ _;rw[gx,VF];refine hc.h ?_;intro e w' h;obtain⟨v,rfl,hk⟩:=hR e w' h;exact hk
theorem dy6{blk off cap N a b:Nat}(hN:O (d.size=N))(h:HU w blk off d)(DB:a<=b)(hb:b<=N)(gj:N<=2^20):dQ dG 271 #[.S (Ad blk off) N cap,.I a,.I b] w λe w'=>e=dR (dT #[])/\HU w' blk off (reverseRange d a b)/\jG w w' blk:=by
 let⟨D,V⟩:=bu (reverseRange d a b);rw[V];have ED:O (reverseLoop a (b-1) d=D):=V;clear V;have H0:=ai h;clear h;go_in
 go_wp21
 go_loopw[6,7](λB x wr=>∃(i m:Nat)(o:Int)(q:Array Int),B=.I i/\x=.I o/\o<=2^20/\-1<=o/\i<=1048577/\O ((i:Int)<o->o=m/\m<N)/\O (¬(i:Int)<o->¬i<m)/\O (q.size=N)/\O (HU wr blk off q)/\O (reverseLoop i m q=D)/\O (jG w wr blk)) (λB x _=>jN (intOf x-intOf B))
 exact⟨a,b-1,(b:Int)-1,d,rfl,by first|rfl|go_num,af,af,af,λh=>⟨af,af⟩,(λh=>af),hN,H0,ED,Pu⟩;{
 obtain⟨i,m,o,q,rfl,rfl,q1,q2,q3,Z,X,qD,s,r,E⟩:=hrel;by_cases aH:(i:Int)<o;{
 let⟨ej,hjn⟩:=ae Z aH;subst ej;have lT:i<m:=af;have u:=ae qD;let⟨ci,fi⟩:=ae s i af;let⟨cj,fj⟩:=ae s m af;let⟨y,R⟩:=bu q[i]!;let⟨z,M⟩:=bu q[m]!;have Ih:=ai (s.swap (i:=i) (j:=m) af af M.C R.C);rw[R]at ci;rw[M]at cj;have hq:=ae r;rw[reverseLoop,aK lT]at hq;have HQ:=ai hq;have pG:O ((swp q i m).size=N):=by show _=_;rw[size_swp];exact u
 have HG:=ai (jr (jr E (js wr blk (off+i) (.U z))) (js _ blk (off+m) (.U y)));have i1:=cM m N;have i2:=cM i N;have i3:=gS 0 m;clear Z X s r E R M hq u
 go_wp21
 go_region
 go_wp2;go_roundw;exact⟨i+1,m-1,(m:Int)-1,swp q i m,by go_num,by first|rfl|go_num,af,af,af,λh=>⟨af,af⟩,(λh=>af),pG,Ih.drew,HQ,gI HG⟩;exact dy};{have W:=ae X aH;have hq:=ae r;rw[reverseLoop,aJ W]at hq;subst hq;go_wp2;go_end0;exact⟨rfl,s,E⟩}}
end iZ
end Go.Proofs.YthlkmijffhhimaaGreatDoor
