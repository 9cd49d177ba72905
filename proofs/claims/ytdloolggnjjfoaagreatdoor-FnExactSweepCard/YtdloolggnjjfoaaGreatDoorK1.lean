import Derived.Test.YtdloolggnjjfoaaGreatDoorVPy
import Derived.IntWalk
import Derived.WalkKit
import Derived.Below
import Derived.Deep.RegionHeld3
import Derived.WalkSpells
import Derived.WalkLawsBesides
import Derived.BigQuiet
import Derived.ProofKit
import Derived.OpenShut
import Derived.Deep.QuietTactic
import Derived.Deep.Fields23
import Derived.Deep.Strs
import Derived.Lib.AppendZeros
import Derived.Deep.RegionLaw
import Derived.Lib.SlSplitV
import Derived.Lib.IndexBytes
import Derived.Lib.CountLaws
import Derived.Lib.Bytes
import Derived.Deep.DeepCutAuto
import Derived.Lib.EndianBits
import Derived.Laws.Closers25b
import Derived.Laws.BytesString
import Derived.RangeFuncOwn
import Derived.RangeFuncSeq
open Array renaming size->U
open Bool renaming false->dF,true->dY
open Decidable renaming decide->dD
open Go renaming Calls->dQ,Value->dV,World->G
open Go.Ending renaming returned->dR
open Go.Obj renaming cells->dO
open Go.Proofs.Tryz renaming prog->dG
open Go.RowKit renaming Hid->O
set_option linter.all false
namespace Eq
def Z:=@Eq.trans
def C:=@Eq.symm
end Eq
namespace Iff
def Z:=@Iff.trans
def C:=@Iff.symm
end Iff
namespace Ne
def C:=@Ne.symm
end Ne
namespace Or
def L:=@Or.inl
def R:=@Or.inr
end Or
namespace List.Perm
def Z:=@List.Perm.trans
def C:=@List.Perm.symm
end List.Perm
namespace Go.RowKit.Below
def Z:=@trans
def h:=@mono
end Go.RowKit.Below
namespace Go.KeepsOthers
def Z:=@KeepsOthers.trans
end Go.KeepsOthers
namespace Go.KeepsWalks
def Z:=@KeepsWalks.trans
end Go.KeepsWalks
namespace Go.Calls
def h:=@mono
end Go.Calls
namespace Go.CallsIn
def h:=@mono
end Go.CallsIn
namespace Go.RoundIn
def h:=@mono
end Go.RoundIn
namespace Go.World.ownsMap
def h:=@mono
end Go.World.ownsMap
namespace Go.Value
abbrev U(x:Int):Value:=.int .u64 x
abbrev I(x:Int):Value:=.int .i64 x
abbrev S(p:Option Addr)(n c:Nat):Value:=.slice p n c
abbrev T(g n c:Nat):Value:=.slice (some ⟨g,0,none⟩) n c
end Go.Value
namespace Go.Lit
abbrev U(x:Int):Lit:=.int .u64 x
abbrev I(x:Int):Lit:=.int .i64 x
end Go.Lit
open Go.Value renaming I->dI,S->dS,tuple->dT,U->dU
open Go.World renaming cell?->I
open List renaming length->J
open Option renaming none->dN,some->Y
namespace Go.Proofs.YtdloolggnjjfoaaGreatDoor
set_option maxHeartbeats 4000000
set_option linter.all false
set_option maxRecDepth 100000
abbrev iE:Type:=Exit->Act->World->Prop
abbrev iP:Type:=World->Prop
abbrev iN:Type:=List Nat
abbrev iA:Type:=Array Value
abbrev iQ:Type:=Array Oper
abbrev Bw(w v:World):Prop:=Go.RowKit.Below w.heap.size w v
abbrev aq:Value:=.slice none 0 0
abbrev Rb(v:Value)(w:World):Ending->World->Prop:=λe w'=>e=.returned v/\Bw w w'
abbrev Mg(n:Nat):Prop:=n<=1048576
abbrev Ad(b o:Nat):Addr:=⟨b,o,none⟩
abbrev Aw(w:World)(o:Nat):Addr:=⟨w.heap.size,o,none⟩
abbrev Ax(w:World)(o:Nat):Addr:=⟨w.heap.size+1,o,none⟩
abbrev Pz(b:Nat):Value:=.pointer (some ⟨b,0,none⟩)
def bG{a b:Prop}(i:a)(j:b):Go.RowKit.Hid (a/\b):=⟨i,j⟩
def du{a b c:Prop}(i:a)(j:b)(k:c):Go.RowKit.Hid (a/\b/\c):=⟨i,j,k⟩
def gI{a b c d:Prop}(i:a)(j:b)(k:c)(l:d):Go.RowKit.Hid (a/\b/\c/\d):=⟨i,j,k,l⟩
def mX{a b c d e:Prop}(i:a)(j:b)(k:c)(l:d)(m:e):Go.RowKit.Hid (a/\b/\c/\d/\e):=⟨i,j,k,l,m⟩
def Nw{a b c d e f:Prop}(i:a)(j:b)(k:c)(l:d)(m:e)(n:f):Go.RowKit.Hid (a/\b/\c/\d/\e/\f):=⟨i,j,k,l,m,n⟩
def cI6{a b c d e f g:Prop}(i:a)(j:b)(k:c)(l:d)(m:e)(n:f)(q:g):Go.RowKit.Hid (a/\b/\c/\d/\e/\f/\g):=⟨i,j,k,l,m,n,q⟩
abbrev Ce(w:World)(b o:Nat)(v:Value):Prop:=w.cell? ⟨b,o,none⟩=some v
abbrev OA:Type:=Option Addr
abbrev LI:Type:=List Int
abbrev Cp(f:FuncId)(a:Array Value)(w:World)(R:Ending->World->Prop):Prop:=Calls Tryz.prog f a w R
open Go.RowKit
def aF{a b:Prop}(x:a)(y:b):a/\b:=⟨x,y⟩
def aD{B:Nat}{w:World}:Below B w w:=Below.refl B w
def ai{W w1 i:World}(h:Below W.heap.size W w1)(k:Below w1.heap.size w1 i):Below W.heap.size W i:=h.Z (k.h h.size)
def aA{n:Nat}:n<=n:=Nat.le_refl n
def bD{α:Type}{l:List α}{i:Nat}(h:i<l.length):l[i]?=some l[i]:=List.getElem?_eq_getElem h
def bg{α:Type}{i:Nat}{a:α}{l:List α}:l[i]?=some a↔∃h:i<l.length,l[i]=a:=List.getElem?_eq_some_iff
def bu{α:Type}{l:List α}{i:Nat}{a:α}(h:l[i]?=some a):a∈l:=List.mem_of_getElem? h
def eM4{α:Type}{l:List α}{i j:Nat}(h:i≠j){a:α}:(l.set i a)[j]?=l[j]?:=List.getElem?_set_ne h
def fT(w:World)(a:Addr)(u:Value)(k:Nat)(h:k≠a.block):(w.setCell a u).heap[k]?=w.heap[k]?:=RowKit.Below.heap_setCell w a u k h
def Bp{Q:Exit->Act->World->Prop}{a:Act}{w:World}(h:Q Exit.normal a w):NoPanic Q Exit.normal a w:=NoPanic.normal h
def aG{α:Sort _}(x:α):∃y,y=x:=⟨x,rfl⟩
def aY{α:Sort _}(x:α):∃y,x=y:=⟨x,rfl⟩
def An{c:Prop}{α:Sort _}[Decidable c]{a b:α}(h:¬c:=by decide):(if c then a else b)=b:=if_neg h
def fH0{p q:Prop}(h:p)(n:¬p:=by decide):q:=absurd h n
def cI5{P:Program}{md:Region.Mode}{ops:iQ}{Q:Exit->Act->World->Prop}{S:World->Prop}{l:Array Bool}{a:Act}{w:World}{n:Nat}(h:Q .normal a w)(hr:Region.ready md ops l=[]:=by kernel_rfl):wpAnyH P md ops Q S n l a w:=wpAnyH_done hr h n
def fy{P:Program}{md:Region.Mode}{ops:iQ}{Q:Exit->Act->World->Prop}{S:World->Prop}{l:Array Bool}{a:Act}{w:World}{n:Nat}(h:Q .normal a w)(hr:Region.ready md ops l=[]:=by kernel_rfl):wpAnyH P md ops (NoPanic Q) S n l a w:=wpAnyH_done hr (NoPanic.normal h) n
def fk{P:Program}{ops:iQ}{Q:Exit->Act->World->Prop}{id:Nat}{a:Act}{w:World}(S:World->Prop)(hS:S w.drew)(h:S w.drew->wpAnyH P .any ops (NoPanic Q) S ops.size (Array.replicate ops.size false) a w.drew)(hm:P.follows .mixedOrders=true:=by kernel_rfl):(Code.region id ops true).wp P Q a w:=wp_region_noPanic (wp_region_held_drew hm hS h)
def gF{w W:World}{o:Obj}(h:W=w.alloc o):Below w.heap.size w W:=by rw[h];exact(Below.refl _ _).alloc (Nat.le_refl _) _
def lG{w W:World}(h:W=w.drew):Below w.heap.size w W:=by rw[h];exact(Below.refl _ _).drew
def bM(a b:Nat)(h:(a:Int)<(b:Int):=by omega):(a:Int)<(b:Int):=h
def mF(a b:Nat)(h:(a:Int)<=(b:Int):=by omega):(a:Int)<=(b:Int):=h
def fq(a b:Nat)(h:¬(a:Int)<(b:Int):=by omega):¬(a:Int)<(b:Int):=h
def qV(a:Int)(b:Nat)(h:a<(b:Int):=by omega):a<(b:Int):=h
def gm(a:Int)(b:Nat)(h:a<=(b:Int):=by omega):a<=(b:Int):=h
def il(a:Nat)(h: -9223372036854775808<=(a:Int)/\(a:Int)<=9223372036854775807:=by omega):IntKind.i64.wrap (a:Int)=(a:Int):=IntWalk.i64_in _ h
def Ao{a b c d:Nat}(h:some (⟨a,b,none⟩:Addr)=some ⟨c,d,none⟩):a=c/\b=d:=by simpa using h
def fG9{p:Prop}(h:p:=by(intro a ha;first|(simp at ha;done)|(simp only[List.mem_append,List.mem_cons,List.not_mem_nil,List.nil_append,or_false]at ha⊢;grind))):p:=h
def bq{p:Prop}(h:p:=by(simp;omega)):p:=h
def jC{p:Prop}(h:p:=by(unfold maxLen;omega)):p:=h
def cM{p:Prop}(h:p:=by(show _=_;rfl)):p:=h
def af{p:Prop}(h:p:=by(omega)):p:=h
def aj{p:Prop}(h:p:=by(simp)):p:=h
def bf{p:Prop}(h:p:=by(decide)):p:=h
def aU{p:Prop}(h:p:=by(kernel_rfl)):p:=h
def aS{p:Prop}(h:p:=by(rfl)):p:=h
def cW{p:Prop}(h:p:=by(simp[intOf];omega)):p:=h
def Ep:(∀l:List Value,l.toArray.size=l.length)/\(∀(a:Value)l,(a::l).length=l.length+1)/\(([]:List Value).length=0)/\(∀n(a:Value),Array.replicate (n+1) a=(Array.replicate n a).push a)/\(∀a:Value,Array.replicate 0 a=#[])/\(∀(l:List Value)a,l.toArray.push a=(l++[a]).toArray)/\(∀l k:List Value,l.toArray++k.toArray=(l++k).toArray)/\(∀l:List Value,[]++l=l)/\(∀(a:Value)l k,(a::l)++k=a::(l++k)):=⟨λ_=>by simp,λ_ _=>by simp,by simp,λ_ _=>Array.replicate_succ,λ_=>Array.replicate_zero,λ_ _=>by simp,λ_ _=>by simp,λ_=>by simp,λ_ _ _=>by simp⟩
def aK{p q:Prop}(h:p)(k:p->q:=by(intro _;omega)):q:=k h
def jJ{p q:Option Addr}{a b c d:Nat}(h:Value.slice p a b=Value.slice q c d):p=q/\a=c/\b=d:=by simpa using h
def nR{α:Type}{l:List α}{i:Nat}(h:i<l.length):∃y,l[i]?=some y:=⟨_,List.getElem?_eq_getElem h⟩
def aL:=@if_neg
def aM:=@if_pos
def aR:=@Go.RowKit.Below.refl
def cg:=@Go.bodyPost_ret
def cO:=@Nat.zero_le
def iq:=@trivial
def dm:=@List.length_append
def fe:=@List.mem_map
def eG:=@Nat.le_refl
def fU:=@List.mem_cons
def rj:=@Go.Value.slice.injEq
def ir:=@List.length_map
def gL:=@Bool.and_eq_true
def jy:=@Prod.mk.injEq
def gv:=@Nat.le_trans
def im:=@List.getD_eq_getElem?_getD
def vJ:=@congrArg
def jd:=@List.mem_append
def jk:=@List.mem_iff_getElem?
def kJ:=@List.length_cons
def kI:=@List.map_cons
def ky:=@List.all_eq_true
def jX:=@decide_eq_true_eq
def ku:=@Nat.lt_of_lt_of_le
def mn:=@Option.some.injEq
def lY:=@List.take_of_length_le
def qL:=@List.getElem?_zipWith
def pK:=@List.map_append
def mO:=@Nat.zero_add
def qn:=@List.getElem?_map
def kP:=@Go.IntWalk.i64_in
def mj:=@List.getElem?_append_left
def pZ:=@List.take_add_one
def wV:=@List.take_length
def rM:=@List.length_take
def pI:=@List.getElem?_append_right
def rK:=@List.length_set
def jO:=@Go.World.block_lt_of_cell?
def vI:=@Bool.true_and
def uF:=@decide_eq_true_iff
def pY:=@List.mem_singleton
def od:=@if_true
def rJ:=@Option.getD_some
def uE:=@List.getElem?_set
def sY:=@List.take_zero
def tX:=@List.length_drop
def sX:=@List.length_eq_zero_iff
def uD:=@List.append_assoc
def wS:=@Go.results_none
def tW:=@List.flatten_cons
def AM:=@decide_eq_false
def rI:=@List.drop_zero
def uC:=@Int.toNat_natCast
def uB:=@List.map_map
def Cf:=@Bool.and_eq_false_iff
def AL:=@List.nodup_cons
def ri:=@Go.RowKit.Below.setCell
def sV:=@List.getElem?_toArray
def vH:=@List.mem_range
def xM:=@List.drop_succ_cons
def yT:=@if_false
def wR:=@List.getElem?_of_mem
def AK:=@Array.getElem?_modify
def xL:=@Nat.sub_self
def yS:=@List.length_nil
def AJ:=@List.getElem_mem
def Cd:=@List.nodup_append
def yR:=@List.take_succ_cons
def AI:=@Option.bind_some
def JW:=@decide_eq_false_iff_not
def sy:=@Go.RowKit.ownsRow_setCell_below
def uA:=@List.getElem?_cons_succ
def uz:=@List.getElem?_cons_zero
def JV:=@decide_eq_true
def AH:=@List.pairwise_map
def DJ:=@Go.World.frozen?_setCell
def DI:=@List.cons_append
def yQ:=@List.append_nil
def Fu:=@List.mem_append_right
def AG:=@Option.some.inj
def DH:=@Bool.eq_false_iff
def Hx:=@Option.map_some
def DG:=@List.map_nil
def JU:=@Array.getElem?_eq_some_iff
def DE:=@List.nil_append
def Fs:=@List.drop_drop
def Fq:=@List.pairwise_iff_getElem
def Hw:=@not_or
def Fp:=@List.eq_nil_of_length_eq_zero
def DD:=@List.mem_flatten
def JT:=@Bool.false_eq_true
def Hu:=@List.drop_eq_getElem_cons
def JS:=@List.getElem?_drop
def Xb:=@Go.RowKit.Below.heap_alloc
def Fo:=@beq_iff_eq
def JR:=@List.foldl_cons
def JQ:=@true_and
def DC:=@Nat.succ_mul
def Ka:=@Nat.add_sub_cancel
def Ie:=@List.pairwise_cons
def Mh:=@Nat.lt_trichotomy
def Px:=@List.map_congr_left
def J6:=@Decidable.em
def Ic:=@List.take_append_drop
def Mf:=@List.getElem_of_mem
def Me:=@List.mem_append_left
def J4:=@Nat.mul_one
def Pw:=@Go.World.cell?_setCell_same
def Ib:=@or_false
def Md:=@List.findIdx?_eq_some_iff_getElem
def Mc:=@Option.map_eq_some_iff
def Mb:=@Int.toNat_of_nonneg
def Pu:=@List.set_cons_zero
def DL:=@Nat.add_zero
def Pr:=@List.mem_of_mem_drop
def Pq:=@List.mem_of_mem_take
def Pp:=@List.getElem?_take
def Po:=@Bool.eq_iff_iff
def Pm:=@Go.World.cell?_setCell_other
def Pk:=@Go.IntWalk.wrap64_in
def Uk:=@List.ext_getElem?
def J3:=@List.length_take_le
def Pj:=@List.length_eraseIdx
def Ph:=@List.eraseIdx_sublist
def Pg:=@List.mem_of_mem_eraseIdx
def Pf:=@Go.RowKit.Below.drew
def J1:=@List.flatten_append
def Uj:=@List.drop_eq_nil_of_le
def wY:=@Nat.add_assoc
def Ui:=@List.any_eq_true
def Uh:=@Bool.false_or
def Ug:=@Bool.or_eq_true
def Pe:=@List.not_mem_nil
def JZ:=@List.mem_filter
def Ma:=@List.getElem?_zip_eq_some
def Uf:=@List.set_set
def Ue:=@List.sum_cons
def Xx:=@List.take_succ_eq_append_getElem
def Xw:=@List.set_append_right
def Xv:=@List.all_eq_false
def Xu:=@Nat.pow_succ
def Xt:=@Nat.mul_comm
def Pd:=@Nat.mul_le_mul_right
def Ud:=@List.foldl_append
def Xs:=@List.mem_map_of_mem
def Xr:=@dif_pos
def Xq:=@Nat.xor_lt_two_pow
def Xp:=@List.find?_some
def Xo:=@List.find?_eq_none
def Xn:=@List.mem_or_eq_of_mem_set
def Uc:=@List.length_filter_le
def Ub:=@List.length_zip
def Xm:=@of_decide_eq_true
def an7:=@List.map_set
def an6:=@Bool.false_and
def an5:=@decide_false
def an4:=@beq_eq_false_iff_ne
def an3:=@Array.toList_inj
def aX0:=@Array.getElem?_toList
def an2:=@Nat.le_of_lt
def an1:=@List.nodup_nil
def Pc:=@Go.RowKit.Below.heap_setCell
def an0:=@List.mem_of_find?_eq_some
def aW9:=@List.map_id
def Pb:=@List.length_pos_iff
def Xl:=@List.filter_append
def Xk:=@List.findIdx?_eq_none_iff
def Ua:=@Nat.le_succ
def Ia:=@Int.eq_ofNat_of_zero_le
def am9:=@Int.pow_succ
def aW8:=@Nat.add_comm
def aW7:=@List.all_cons
def aW6:=@List.flatten_nil
def aW5:=@List.range_succ
def aW4:=@Nat.div_lt_iff_lt_mul
def aW3:=@Go.Value.bool.injEq
def aW2:=@Bool.not_not
def aW1:=@Bool.not_false
def aW0:=@UInt8.lt_irrefl
def aV9:=@UInt8.not_lt
def aV8:=@Go.Value.int.injEq
def aV7:=@List.getElem?_set_self
def aV6:=@List.nodup_range
def aV5:=@List.getElem_map
def aV4:=@List.zipWith_append
def aV3:=@List.perm_middle
def aV2:=@Int.ofNat_tdiv
def cb9:=@Option.isSome_none
def aV1:=@not_true_eq_false
def aV0:=@List.set_cons_succ
def aU9:=@Nat.min_eq_left
def Xj:=@List.drop_of_length_le
def aU8:=@List.getElem?_eraseIdx
def aU7:=@List.eraseIdx_of_length_le
def am8:=@List.getLast?_eq_getElem?
def aU6:=@Nat.mul_succ
def dD6:=@Array.getElem?_eq_none
def aU5:=@Nat.pow_le_pow_right
def aU4:=@List.prefix_append_right_inj
def cb8:=@Nat.add_sub_cancel_left
def dD5:=@List.getElem?_take_of_lt
def cb7:=@List.pairwise_mergeSort
def cb6:=@Decidable.byContradiction
def cb5:=@List.zipWith_cons_cons
def cb4:=@Classical.byContradiction
def cb3:=@List.mem_eraseIdx_iff_getElem?
def cb2:=@List.eraseIdx_append_of_length_le
def cb1:=@List.length_eq_one_iff
def cb0:=@Array.getD_eq_getD_getElem?
def ca9:=@List.length_pos_of_mem
def ca8:=@Int.ediv_ediv_of_nonneg
def ca7:=@List.setIfInBounds_toArray
def fg:=@Go.AllReadyH.nil
def kx:=@Go.info_parts
def lZ:=@Go.World.ownsRow_nil
def qM:=@Go.wpStill_nil
def uG:=@Go.IntKind.wrap_u64
def wX:=@Go.callsIn_of_wp
def H6:=@Go.callsIn_wide
def AO:=@Go.World.frozen?_of_block
def Hz:=@Go.World.cell?_of_block
def Hy:=@Go.wpAnyH_take
def JY:=@Go.IntKind.wrap_u8
def Fx:=@Go.Addr.add_lit
def L6:=@Go.Lit.int.injEq
def L5:=@Go.World.ownsRow.cellAt
def LY:=@Go.World.ownsRow.lt
def Pa:=@Go.World.ownsRow.kept
def T9:=@Go.wpList_append_own
def TW:=@Go.Result.ok.injEq
def O0:=@Go.Oper.upon_enter
def Xi:=@Go.Sem.run_pure
def Xh:=@Go.World.grownBy_alloc
def aU3:=@Go.Oper.semAt_eq
def Xg:=@Go.wp_region_noPanic
def Xf:=@Go.World.cell?_setCell_far
def am7:=@Go.WideAt.sameKey_self
def Xe:=@Go.World.cell?_setCell_same'
def am6:=@Go.RowKit.run_makeMap
def am5:=@Go.WideAt.sameKey_iff
def am4:=@Go.wp_region_held_drew
def am3:=@Go.DataW.trod_bool
def wW:=@Go.DataW.trod_int
def aU2:=@Go.run_underlying
def aU1:=@Go.World.ownsRow_lit
def aU0:=@Go.Ending.returned.injEq
def aT9:=@Go.Lit.string.injEq
def LU:=@Go.Sem.run_bind
def aT8:=@Go.run_append_own
def aT7:=@Go.MapKept.heap_alloc
def aT6:=@Go.bits_xor_u64_nat
def Fw:=@Ne.C
def dD4:=@Go.Addr.mk.injEq
def ca6:=@and_true
def am2:=@Go.grownCap_ge
def am1:=@Go.grownCap_le_maxLen
def am0:=@Go.size_zeroCells
def aT5:=@Array.size_append
def ca5:=@ByteArray.ext
def ca4:=@List.pairwise_append
def dD3:=@ByteArray.data_extract
def dD2:=@List.exists_cons_of_ne_nil
def dD1:=@List.Sublist.length_le
def DK:=@Int.le_refl
def aT4:=@List.mem_nil_iff
def Fv:=@Go.run_callFunc_extern
def JX:=@Go.Calls.h
def OY:=@Go.World.cell?_alloc_lt
def TQ:=@Go.wpAnyH_ready
def TM:=@Go.AllReadyH.cons
def TL:=@Int.ofNat_inj
def TK:=@Int.ofNat_nonneg
def Xd:=@Go.wpAnyH_done
def Xc:=@Go.RowKit.Below.Z
def al9:=@Go.Result.andThen_ok
def al8:=@Go.RowKit.Below.h
def al7:=@Go.World.frozen?_alloc_old
def aT3:=@List.contains_iff_mem
def aT2:=@Nat.le_of_eq
def aT1:=@Go.DataW.trod_struct
def ca3:=@List.filter_eq_nil_iff
def br{P:Program}{f:FuncId}{a:Array Value}{w:World}{v:Value}{S:World->Prop}{R:Ending->World->Prop}(h:Calls P f a w λe i=>e=.returned v/\S i)(k:∀i,S i->R (.returned v) i):Calls P f a w R:=h.h λe i q=>q.1▸k i q.2
def aC7{P:Nat->Value->Prop}{o m j:Value}{l:List Value}(h:∀i v,(o::m::j::l)[i]?=some v->P i v):P 0 o/\P 1 m/\P 2 j:=⟨h 0 _ rfl,h 1 _ rfl,h 2 _ rfl⟩
def eM5{P:Nat->Value->Prop}{q o m j:Value}{l:List Value}(h:∀i v,(q::o::m::j::l)[i]?=some v->P i v):P 0 q/\P 1 o/\P 2 m/\P 3 j:=⟨h 0 _ rfl,h 1 _ rfl,h 2 _ rfl,h 3 _ rfl⟩
def bv3{P:Nat->Value->Prop}{r q o m j:Value}{l:List Value}(h:∀i v,(r::q::o::m::j::l)[i]?=some v->P i v):P 0 r/\P 1 q/\P 2 o/\P 3 m/\P 4 j:=⟨h 0 _ rfl,h 1 _ rfl,h 2 _ rfl,h 3 _ rfl,h 4 _ rfl⟩
def yx{P:Nat->Value->Prop}{s r q o m j:Value}{l:List Value}(h:∀i v,(s::r::q::o::m::j::l)[i]?=some v->P i v):P 0 s/\P 1 r/\P 2 q/\P 3 o/\P 4 m/\P 5 j:=⟨h 0 _ rfl,h 1 _ rfl,h 2 _ rfl,h 3 _ rfl,h 4 _ rfl,h 5 _ rfl⟩
def Lg{P:Nat->Value->Prop}{u s r q o m j:Value}{l:List Value}(h:∀i v,(u::s::r::q::o::m::j::l)[i]?=some v->P i v):P 0 u/\P 1 s/\P 2 r/\P 3 q/\P 4 o/\P 5 m/\P 6 j:=⟨h 0 _ rfl,h 1 _ rfl,h 2 _ rfl,h 3 _ rfl,h 4 _ rfl,h 5 _ rfl,h 6 _ rfl⟩
def Nx{P:Nat->Value->Prop}{x u s r q o m j:Value}{l:List Value}(h:∀i v,(x::u::s::r::q::o::m::j::l)[i]?=some v->P i v):P 0 x/\P 1 u/\P 2 s/\P 3 r/\P 4 q/\P 5 o/\P 6 m/\P 7 j:=⟨h 0 _ rfl,h 1 _ rfl,h 2 _ rfl,h 3 _ rfl,h 4 _ rfl,h 5 _ rfl,h 6 _ rfl,h 7 _ rfl⟩
def eM6{P:Nat->Value->Prop}{E D B y x u s r q o M m j:Value}{l:List Value}(h:∀i v,(E::D::B::y::x::u::s::r::q::o::M::m::j::l)[i]?=some v->P i v):P 0 E/\P 1 D/\P 2 B/\P 3 y/\P 4 x/\P 5 u/\P 6 s/\P 7 r/\P 8 q/\P 9 o/\P 10 M/\P 11 m/\P 12 j:=⟨h 0 _ rfl,h 1 _ rfl,h 2 _ rfl,h 3 _ rfl,h 4 _ rfl,h 5 _ rfl,h 6 _ rfl,h 7 _ rfl,h 8 _ rfl,h 9 _ rfl,h 10 _ rfl,h 11 _ rfl,h 12 _ rfl⟩
open Go.RowKit
def xa{α:Type}{l:List α}{i:Nat}{a:α}:l.toArray.setIfInBounds i a=(l.set i a).toArray:=List.setIfInBounds_toArray _ _ _
def xb{α:Type}{x:α}{xs:List α}{a:α}:(x::xs).set 0 a=a::xs:=List.set_cons_zero
def xc{α:Type}{x:α}{xs:List α}{i:Nat}{a:α}:(x::xs).set (i+1) a=x::xs.set i a:=List.set_cons_succ
def tk{P:Program}{md:Region.Mode}{ops:iQ}{Q:iE}{S:iP}(i:Nat){oi:Oper}{v:dV}{fuel:Nat}{listed:Array Bool}{a:Act}{w:G}(hS:S w)(hi:ops[i]?=oi:=by(simp only[List.getElem?_toArray,List.getElem?_cons_succ,List.getElem?_cons_zero];rfl))(hs:Region.noSelect ops:=by kernel_rfl)(hf:Region.free md ops listed i:=by kernel_rfl)(hr:(Region.ready md ops listed).contains i:=by kernel_rfl)(hQ:∀c a w,Q (.panic c) (a.put oi.dst v) w->Q (.panic c) a w:=by exactλ_ _ _ h=>h)(hg:Region.wanted oi (yielded ops a.tmps):=by rfl)(hy:∀w,S w->(execOp a.eval oi).run P w=.ok (.value v) w:=by(intro w' mw;(try dsimp only at mw);go_simp;try with_reducible rfl))(h:wpAnyH P md ops Q S fuel (listed.setIfInBounds i dY) (a.put oi.dst v) w):wpAnyH P md ops Q S (fuel+1) listed a w:=
 wpAnyH_take hi hs hf hr hQ (Or.L ⟨hg,hy⟩) hS h
def Tk(P:Program)(o:Region.Mode)(m:iQ)(Q:iE)(S:iP)(j:Array Bool)(i:Nat)(a q:Act):Prop:=∀fuel w,S w->wpAnyH P o m Q S fuel (j.setIfInBounds i dY) q w->wpAnyH P o m Q S (fuel+1) j a w
def yF{P:Program}{md:Region.Mode}{ops:iQ}{Q:iE}{S:iP}{i:Nat}{oi:Oper}{v:dV}{listed:Array Bool}{a a':Act}(hi:ops[i]?=oi:=by(simp only[List.getElem?_toArray,List.getElem?_cons_succ,List.getElem?_cons_zero];rfl))(hs:Region.noSelect ops:=by kernel_rfl)(hf:Region.free md ops listed i:=by kernel_rfl)(hr:(Region.ready md ops listed).contains i:=by kernel_rfl)(hQ:∀c a w,Q (.panic c) (a.put oi.dst v) w->Q (.panic c) a w:=by exactλ_ _ _ h=>h)(hg:Region.wanted oi (yielded ops a.tmps):=by rfl)(hy:∀w,S w->(execOp a.eval oi).run P w=.ok (.value v) w:=by(intro w' mw;(try dsimp only at mw);go_simp;try with_reducible rfl))(ha:a.put oi.dst v=a':=by(simp only[Act.put,xa,xb,xc];rfl)):Tk P md ops Q S listed i a a':=
 λ_ _ hS h=>wpAnyH_take hi hs hf hr hQ (Or.L ⟨hg,hy⟩) hS (ha▸h)
def Wi{P:Program}{md:Region.Mode}{ops:iQ}{Q:iE}{S:iP}{i:Nat}{oi:Oper}{listed:Array Bool}{a a':Act}(hi:ops[i]?=oi:=by(simp only[List.getElem?_toArray,List.getElem?_cons_succ,List.getElem?_cons_zero];rfl))(hs:Region.noSelect ops:=by kernel_rfl)(hf:Region.free md ops listed i:=by kernel_rfl)(hr:(Region.ready md ops listed).contains i:=by kernel_rfl)(hQ:∀c a w,Q (.panic c) (a.put oi.dst undef) w->Q (.panic c) a w:=by exactλ_ _ _ h=>h)(hg:Region.wanted oi (yielded ops a.tmps)=dF:=by rfl)(ha:a.put oi.dst undef=a':=by(simp only[Act.put,xa,xb,xc];rfl)):Tk P md ops Q S listed i a a':=
 λ_ _ hS h=>wpAnyH_take hi hs hf hr hQ (Or.R ⟨hg,rfl⟩) hS (ha▸h)
def tn{P:Program}{md:Region.Mode}{ops:iQ}{Q:iE}{S:iP}(i:Nat){fuel:Nat}{listed:Array Bool}{a a':Act}{w:G}(hS:S w)(h:wpAnyH P md ops Q S fuel (listed.setIfInBounds i dY) a' w)(t:Tk P md ops Q S listed i a a':=by exact yF):wpAnyH P md ops Q S (fuel+1) listed a w:=t _ _ hS h
def sn{P:Program}{md:Region.Mode}{ops:iQ}{Q:iE}{S:iP}(i:Nat){fuel:Nat}{listed:Array Bool}{a a':Act}{w:G}(hS:S w)(h:wpAnyH P md ops Q S fuel (listed.setIfInBounds i dY) a' w)(t:Tk P md ops Q S listed i a a':=by exact Wi):wpAnyH P md ops Q S (fuel+1) listed a w:=t _ _ hS h
def fO{P:Program}{md:Region.Mode}{ops:iQ}{Q:iE}{S:iP}(i0 i1:Nat){fuel:Nat}{listed:Array Bool}{a0 a1 a2:Act}{w:G}(hS:S w)(h:wpAnyH P md ops Q S fuel ((listed.setIfInBounds i0 dY).setIfInBounds i1 dY) a2 w)(x0:Tk P md ops Q S listed i0 a0 a1:=by exact yF)(x1:Tk P md ops Q S (listed.setIfInBounds i0 dY) i1 a1 a2:=by exact yF):wpAnyH P md ops Q S (fuel+2) listed a0 w:=x0 _ _ hS (x1 _ _ hS h)
def iC{P:Program}{md:Region.Mode}{ops:iQ}{Q:iE}{S:iP}(i0 i1 i2 i3:Nat){fuel:Nat}{listed:Array Bool}{a0 a1 a2 a3 a4:Act}{w:G}(hS:S w)(h:wpAnyH P md ops Q S fuel ((((listed.setIfInBounds i0 dY).setIfInBounds i1 dY).setIfInBounds i2 dY).setIfInBounds i3 dY) a4 w)(x0:Tk P md ops Q S listed i0 a0 a1:=by exact yF)(x1:Tk P md ops Q S (listed.setIfInBounds i0 dY) i1 a1 a2:=by exact yF)(x2:Tk P md ops Q S ((listed.setIfInBounds i0 dY).setIfInBounds i1 dY) i2 a2 a3:=by exact yF)(x3:Tk P md ops Q S (((listed.setIfInBounds i0 dY).setIfInBounds i1 dY).setIfInBounds i2 dY) i3 a3 a4:=by exact yF):wpAnyH P md ops Q S (fuel+4) listed a0 w:=x0 _ _ hS (x1 _ _ hS (x2 _ _ hS (x3 _ _ hS h)))
def kr{P:Program}{md:Region.Mode}{ops:iQ}{Q:iE}{S:iP}(i0 i1 i2 i3:Nat){fuel:Nat}{listed:Array Bool}{a0 a1 a2 a3 a4:Act}{w:G}(hS:S w)(h:wpAnyH P md ops Q S fuel ((((listed.setIfInBounds i0 dY).setIfInBounds i1 dY).setIfInBounds i2 dY).setIfInBounds i3 dY) a4 w)(x0:Tk P md ops Q S listed i0 a0 a1:=by exact Wi)(x1:Tk P md ops Q S (listed.setIfInBounds i0 dY) i1 a1 a2:=by exact Wi)(x2:Tk P md ops Q S ((listed.setIfInBounds i0 dY).setIfInBounds i1 dY) i2 a2 a3:=by exact Wi)(x3:Tk P md ops Q S (((listed.setIfInBounds i0 dY).setIfInBounds i1 dY).setIfInBounds i2 dY) i3 a3 a4:=by exact Wi):wpAnyH P md ops Q S (fuel+4) listed a0 w:=x0 _ _ hS (x1 _ _ hS (x2 _ _ hS (x3 _ _ hS h)))
def iR{P:Program}{md:Region.Mode}{ops:iQ}{Q:iE}{S:iP}(i0 i1 i2 i3 i4 i5 i6 i7:Nat){fuel:Nat}{listed:Array Bool}{a0 a1 a2 a3 a4 a5 a6 a7 a8:Act}{w:G}(hS:S w)(h:wpAnyH P md ops Q S fuel ((((((((listed.setIfInBounds i0 dY).setIfInBounds i1 dY).setIfInBounds i2 dY).setIfInBounds i3 dY).setIfInBounds i4 dY).setIfInBounds i5 dY).setIfInBounds i6 dY).setIfInBounds i7 dY) a8 w)(x0:Tk P md ops Q S listed i0 a0 a1:=by exact yF)(x1:Tk P md ops Q S (listed.setIfInBounds i0 dY) i1 a1 a2:=by exact yF)(x2:Tk P md ops Q S ((listed.setIfInBounds i0 dY).setIfInBounds i1 dY) i2 a2 a3:=by exact yF)(x3:Tk P md ops Q S (((listed.setIfInBounds i0 dY).setIfInBounds i1 dY).setIfInBounds i2 dY) i3 a3 a4:=by exact yF)(x4:Tk P md ops Q S ((((listed.setIfInBounds i0 dY).setIfInBounds i1 dY).setIfInBounds i2 dY).setIfInBounds i3 dY) i4 a4 a5:=by exact yF)(x5:Tk P md ops Q S (((((listed.setIfInBounds i0 dY).setIfInBounds i1 dY).setIfInBounds i2 dY).setIfInBounds i3 dY).setIfInBounds i4 dY) i5 a5 a6:=by exact yF)(x6:Tk P md ops Q S ((((((listed.setIfInBounds i0 dY).setIfInBounds i1 dY).setIfInBounds i2 dY).setIfInBounds i3 dY).setIfInBounds i4 dY).setIfInBounds i5 dY) i6 a6 a7:=by exact yF)(x7:Tk P md ops Q S (((((((listed.setIfInBounds i0 dY).setIfInBounds i1 dY).setIfInBounds i2 dY).setIfInBounds i3 dY).setIfInBounds i4 dY).setIfInBounds i5 dY).setIfInBounds i6 dY) i7 a7 a8:=by exact yF):wpAnyH P md ops Q S (fuel+8) listed a0 w:=x0 _ _ hS (x1 _ _ hS (x2 _ _ hS (x3 _ _ hS (x4 _ _ hS (x5 _ _ hS (x6 _ _ hS (x7 _ _ hS h)))))))
def ry{P:Program}{md:Region.Mode}{ops:iQ}{Q:iE}{S:iP}(rs:iN){fuel:Nat}{listed:Array Bool}{a:Act}{w:G}(h:AllReadyH P md ops Q S fuel listed a w rs)(hr:Region.ready md ops listed=rs:=by kernel_rfl)(aN:rs≠[]:=by simp):wpAnyH P md ops Q S (fuel+1) listed a w:=wpAnyH_ready hr aN h
def cn{P:Program}{md:Region.Mode}{ops:iQ}{Q:iE}{S:iP}{fuel:Nat}{listed:Array Bool}{a:Act}{w:G}{i:Nat}{o:Oper}{rs:iN}(h:∀K':Act->G->Prop,Shut (∀a w,S w->(S w->wpAnyH P md ops Q S fuel (listed.setIfInBounds i dY) a w)->K' a w)->if Region.wanted o (yielded ops a.tmps)then Oper.wp P o a w K' Q else K' (a.put o.dst undef) w)(hs:AllReadyH P md ops Q S fuel listed a w rs)(ho:ops[i]?=o:=by(simp only[List.getElem?_toArray,List.getElem?_cons_succ,List.getElem?_cons_zero];rfl)):AllReadyH P md ops Q S fuel listed a w (i::rs):=AllReadyH.cons ho h hs
def tL{P:Program}{md:Region.Mode}{ops:iQ}{Q:iE}{S:iP}(rs:iN){fuel:Nat}{listed:Array Bool}{a:Act}{w:G}(h:AllReadyH P md ops Q S fuel listed a w rs)(hr:Region.ready md ops listed=rs:=by decide +kernel)(aN:rs≠[]:=by simp):wpAnyH P md ops Q S (fuel+1) listed a w:=wpAnyH_ready hr aN h
structure Tag(n:Nat)(p:Prop):Prop where
 out:p
def Tag.go(n:Nat){p:Prop}(h:p):Tag n p:=⟨h⟩
def lE{P:Program}{md:Region.Mode}{ops:iQ}{Q:iE}{S:iP}{fuel:Nat}{listed:Array Bool}{a:Act}{w:G}{i:Nat}{o:Oper}{rs:iN}(h:∀K':Act->G->Prop,Shut (∀a w,S w->(S w->wpAnyH P md ops Q S fuel (listed.setIfInBounds i dY) a w)->K' a w)->Tag i (if Region.wanted o (yielded ops a.tmps)then Oper.wp P o a w K' Q else K' (a.put o.dst undef) w))(hs:AllReadyH P md ops Q S fuel listed a w rs)(ho:ops[i]?=o:=by(simp only[List.getElem?_toArray,List.getElem?_cons_succ,List.getElem?_cons_zero];rfl)):AllReadyH P md ops Q S fuel listed a w (i::rs):=AllReadyH.cons ho (λK' hK=>(h K' hK).out) hs
def vE{P:Program}{md:Region.Mode}{ops:iQ}{Q:iE}{S:iP}(i:Nat){o:Oper}{fuel:Nat}{listed:Array Bool}{a:Act}{w:G}(h:∀K':Act->G->Prop,Shut (∀a w,S w->(S w->wpAnyH P md ops Q S fuel (listed.setIfInBounds i dY) a w)->K' a w)->Tag i (if Region.wanted o (yielded ops a.tmps)then Oper.wp P o a w K' Q else K' (a.put o.dst undef) w))(ho:ops[i]?=o:=by(simp only[List.getElem?_toArray,List.getElem?_cons_succ,List.getElem?_cons_zero];rfl))(hr:Region.ready md ops listed=[i]:=by decide +kernel):wpAnyH P md ops Q S (fuel+1) listed a w:=tL [i] (lE h AllReadyH.nil ho) hr
def AE{P:Program}{md:Region.Mode}{ops:iQ}{Q:iE}{S:iP}(i j:Nat){o o':Oper}{fuel:Nat}{listed:Array Bool}{a:Act}{w:G}(h:∀K':Act->G->Prop,Shut (∀a w,S w->(S w->wpAnyH P md ops Q S fuel (listed.setIfInBounds i dY) a w)->K' a w)->Tag i (if Region.wanted o (yielded ops a.tmps)then Oper.wp P o a w K' Q else K' (a.put o.dst undef) w))(h':∀K':Act->G->Prop,Shut (∀a w,S w->(S w->wpAnyH P md ops Q S fuel (listed.setIfInBounds j dY) a w)->K' a w)->Tag j (if Region.wanted o' (yielded ops a.tmps)then Oper.wp P o' a w K' Q else K' (a.put o'.dst undef) w))(ho:ops[i]?=o:=by(simp only[List.getElem?_toArray,List.getElem?_cons_succ,List.getElem?_cons_zero];rfl))(xT:ops[j]?=o':=by(simp only[List.getElem?_toArray,List.getElem?_cons_succ,List.getElem?_cons_zero];rfl))(hr:Region.ready md ops listed=[i,j]:=by decide +kernel):wpAnyH P md ops Q S (fuel+1) listed a w:=tL [i,j] (lE h (lE h' AllReadyH.nil xT) ho) hr
def ew{P:Program}{md:Region.Mode}{ops:iQ}{Q:iE}{S:iP}(i:Nat){fuel:Nat}{listed:Array Bool}{a:Act}{w:G}{o:Oper}(h:∀K':Act->G->Prop,Shut (∀a w,S w->(S w->wpAnyH P md ops Q S fuel (listed.setIfInBounds i dY) a w)->K' a w)->if Region.wanted o (yielded ops a.tmps)then Oper.wp P o a w K' Q else K' (a.put o.dst undef) w)(ho:ops[i]?=o:=by(simp only[List.getElem?_toArray,List.getElem?_cons_succ,List.getElem?_cons_zero];rfl))(hr:Region.ready md ops listed=[i]:=by kernel_rfl):wpAnyH P md ops Q S (fuel+1) listed a w:=ry [i] (cn h AllReadyH.nil ho) hr
def bL{P:Program}{md:Region.Mode}{ops:iQ}{Q:iE}{S:iP}{fuel:Nat}{listed:Array Bool}{K:Act->G->Prop}{a a':Act}{w:G}(hK:Shut (∀a w,S w->(S w->wpAnyH P md ops Q S fuel listed a w)->K a w))(hS:S w)(h:S w->wpAnyH P md ops Q S fuel listed a' w)(ha:a=a':=by((try simp only[Act.put,xa,xb,xc]);rfl)):K a w:=hK.out _ _ hS (ha▸h)
open Go.ChangeShapes Go.WideShapes Go.ChangeAt Go.Deep
variable {p E:Prop}{n B k j c b base g C d:Nat}{left y t e:Int}{w w' w1 w2:G}{v v1 v2 v0 N:dV}{a:Addr}{row:Option Nat}{vs us xs:List dV}{P:Program}{o:Oper}{ops:iQ}{rest:List Oper}{s x x1 x2:Operand}{K:Act->G->Prop}{R:Ending->G->Prop}{f:FuncId}{sU:Array TypeId}
def ag(h:p):O p:=h
def ae(h:O p):p:=h
abbrev Le{α:Type}(l:List α)(n:Nat):Prop:=O (J l=n)
def cG{α:Sort _}(x:α):∃y,O (x=y):=⟨x,rfl⟩
def BN(n:Nat)(left:Int):Int:=if left-n<0 then -1 else left-n
def aL1{p:OA}{cap:Nat}(i:n<=maxLen)(m:0<=left)(j:left<=1048576):dQ dG 81 #[.S p n cap,.I left] w λe w'=>e=dR (.I (BN n left))/\w'=w:=by
 unfold maxLen at i;by_cases h:left-n<0;{
 have e:BN n left=-1:=by unfold BN;rw[aM h]
 rw[e];go_enter Tryz.func81,Tryz.ntmps81;go_wp2;go_ret;exact⟨rfl,rfl⟩};{
 have e:BN n left=left-n:=by unfold BN;rw[aL h]
 rw[e];go_enter Tryz.func81,Tryz.ntmps81;go_wp2;go_ret;exact⟨rfl,rfl⟩}
def I5{W w1:G}(i:Bw W w1):(∀b o,b<U W.heap->I w1 (Ad b o)=I W (Ad b o))/\(∀b o,b<U W.heap->w1.frozen? (Ad b o)=W.frozen? (Ad b o)):=
 ⟨λb o h=>i.cell (p:=(Ad b o)) h,λb o h=>i.frozen (p:=(Ad b o)) h⟩
abbrev iU(l:LI):List dV:=l.map (Value.int .u8)
def Rd(w:G)(v:dV)(l:LI):Prop:=
 ∃(p:OA)(j:Nat),v=.S p (J l) j/\(l=[]\/∃b o,p=(Ad b o)/\∀i,i<J l->I w (Ad b (o+i))=Y (.int .u8 (l.getD i 0)))
abbrev Own(B:Nat)(w:G)(v:dV)(l:LI):Prop:=w.ownsRow B 5 1 v (J l) (iU l)
def Rd.nil(w:G):Rd w aq []:=⟨dN,0,rfl,.L rfl⟩
def Own.rd{l:LI}(h:Own B w v l):Rd w v l:=by
 obtain⟨rfl,m⟩|⟨g,r,q,rfl,y,x,_,_,_,s⟩:=h.2;{have:l=[]:=Fp m;subst this;exact Rd.nil w};{refine⟨_,_,rfl,.R ⟨g,0,rfl,λi j=>?_⟩⟩;have:=L5 (w:=w) (base:=B) h i af;rw[mO,this];simp[List.getD,bD j]}
def Rd.H{l:LI}(h:Rd w v l)(q:Bw w w'):Rd w' v l:=by
 obtain⟨p,j,rfl,h⟩:=h;refine⟨p,j,rfl,?_⟩;obtain h|⟨b,o,rfl,hc⟩:=h;{exact .L h};{refine .R ⟨b,o,rfl,λi m=>?_⟩;rw[q.cell (p:=(Ad b (o+i))) (jO w _ (hc i m))];exact hc i m}
def Own.H{l:LI}(h:Own B w v l)(i:Bw w w'):Own B w' v l:=
 h.kept (row:=dN) ⟨i.os,i.tape,i.output,i.size,λk j _=>i.block k j⟩ (by cases m:v.ownBlock<;>simp)
def Own.h{B':Nat}{l:LI}(h:Own B w v l)(o:B'<=B):Own B' w v l:=by
 refine⟨h.1,?_⟩;obtain h|⟨g,j,i,rfl,m,r⟩:=h.2;{exact .L h};{exact .R ⟨g,j,i,rfl,af,r⟩}
def Bh(l:LI)(k:Nat):LI:=l.take k++List.replicate (J l-k) 0
def eB5{l:LI}(h:k<=J l):J (Bh l k)=J l:=by simp[Bh];omega
def eB3(l:LI):Bh l 0=List.replicate (J l) 0:=by simp[Bh]
def eB6(l:LI):Bh l (J l)=l:=by simp[Bh]
def eB4{l:LI}(h:k<J l):(iU (Bh l k)).set k (.int .u8 (l.getD k 0))=iU (Bh l (k+1)):=by
 have o:l.take (k+1)=l.take k++[l.getD k 0]:=by rw[Xx h];simp[List.getD,bD h]
 have m:List.replicate (J l-k) (0:Int)=0::List.replicate (J l-(k+1)) 0:=by rw[show J l-k=(J l-(k+1))+1 by omega,List.replicate_succ]
 have j:J (l.take k)=k:=by simp;omega
 have i:(Bh l k).set k (l.getD k 0)=Bh l (k+1):=by unfold Bh;rw[o,m,Xw _ _ af,j,xL,Pu];simp
 rw[<-i,iU,iU,an7]
def Tryz.infoByte:(Tryz.prog.info? 5).map (λi=>(i.zero,i.size,i.bytes))=Y (Y (.int .u8 0),1,1):=by kernel_rfl
def Zo(h:w.grownBy w' dN):Bw w w':=⟨h.os,h.tape,h.output,h.size,λk i=>h.block k i (by simp)⟩
def bK7{l:LI}(h:Rd w v l)(hl:Mg (J l)):dQ dG 112 #[v] w λe w'=>∃s y,e=dR (.S s (J l) y)/\Own (U w.heap) w' (.S s (J l) y) l/\Bw w w':=by
 let⟨i,N,E,X,Z⟩:=kx Tryz.infoByte;obtain⟨p,cap,rfl,h⟩:=h;go_enter Tryz.func112,Tryz.ntmps112;go_wp2_with(first|(at_make;refine wpList_make_full _ rfl _ _ 22 rfl (U w.heap) 5 i (.int .u8 0) 1 Tryz.underlying22 N E X _ _ _ _ (J l) rfl rfl rfl rfl ?b2 ?b3 ?b4 ?_))
 case b2=>rw[Z];omega
 case b3=>unfold maxLen;omega
 case b4=>exact eG _
 intro w1 x R;have W:=Zo R;have q:(madeCells #[Value.int .u8 0] (J l)).toList=iU (Bh l 0):=by rw[eB3,toList_madeCells_one];simp
 rw[q]at x;go_wp2
 go_loopw[4](λi wr=>∃k:Nat,k<=J l/\i=.I k/\wr.ownsRow (U w.heap) 5 1 (.T (U w.heap) (J l) (J l)) (J l) (iU (Bh l k))/\Bw w wr) (λi _=>J l-(intOf i).toNat)
 exact⟨0,cO _,rfl,x,W⟩;{
 obtain⟨k,M,rfl,j,r⟩:=hrel;by_cases m:k<J l;{
 obtain rfl|⟨b,o,rfl,hc⟩:=h;{simp at m};{
 have qz:I wr (Ad b (o+k))=Y (.int .u8 (l.getD k 0)):=(r.cell (p:=(Ad b (o+k))) (jO w _ (hc k m))).Z (hc k m);have Kk:=j.frozenAt k;have D:∃u,I wr (Aw w k)=Y u:=by rw[j.cellAt k af];exact⟨_,bD (by rw[ir,eB5 M];omega)⟩
 obtain⟨u,V⟩:=D;have B:=j.stored k (.int .u8 (l.getD k 0));rw[eB4 m]at B;have HS:O (World.ownsRow (wr.setCell (Aw w k) (.int .u8 (l.getD k 0))) (U w.heap) 5 1 (.T (U w.heap) (J l) (J l)) (J l) (iU (Bh l (k+1)))):=B.1;go_wp2;go_roundw;exact⟨k+1,af,by go_num,by simpa[m]using HS.out,r.setCell aA _⟩;exact cW}};{
 have:k=J l:=by omega
 subst this;rw[eB6]at j;go_wp2;go_ret;exact⟨_,_,rfl,j,r⟩}}
def db8{l1 i:LI}(m:k<J l1)(j:k<J i)(h:l1.take k=i.take k)(e:l1[k]?.getD 0=i[k]?.getD 0):l1.take (k+1)=i.take (k+1):=by
 rw[Xx m,Xx j,h];simp[bD m,bD j]at e;rw[e]
def below_drewN(h:Below B w w'):Below B w (w'.drewN n):=⟨h.os,h.tape,h.output,h.size,h.block⟩
def eq7{l1 j:LI}(x:Rd w v1 l1)(u:Rd w v2 j)(xY:J l1<=2097152)(uh:J j<=2097152):dQ dG 28 #[v1,v2] w (Rb (.bool (dD (l1=j))) w):=by
 obtain⟨p1,Z,rfl,x⟩:=x;obtain⟨p2,fE8,rfl,u⟩:=u;by_cases m:J l1=J j;{
 have aN:((J l1:Int) != (J j:Int))=dF:=by simp;omega
 go_enter Tryz.func28,Tryz.ntmps28;go_wp2
 go_loopw[5](λi wr=>∃k:Nat,k<=J l1/\i=.I k/\l1.take k=j.take k/\Bw w wr) (λi _=>J l1-(intOf i).toNat)
 exact⟨0,cO _,rfl,rfl,aR _ _⟩;{
 obtain⟨k,hk,rfl,W,q⟩:=hrel;have HT:O (l1.take k=j.take k):=W;by_cases o:k<J l1;{
 obtain rfl|⟨S,D,rfl,M⟩:=x;{simp at o};{
 obtain rfl|⟨R,B,rfl,E⟩:=u;{simp at m;subst m;simp at o};{
 have s:k<J j:=af;have g1:I wr (Ad S (D+k))=Y (.int .u8 (l1.getD k 0)):=(q.cell (p:=(Ad S (D+k))) (jO w _ (M k o))).Z (M k o);have g2:I wr (Ad R (B+k))=Y (.int .u8 (j.getD k 0)):=(q.cell (p:=(Ad R (B+k))) (jO w _ (E k s))).Z (E k s);have i1:(k:Int)<(J l1:Int):=af;have i2:(k:Int)<(J j:Int):=af;have HL:O (J l1=J j):=m;by_cases r:l1[k]=j[k];{
 have X:(l1[k] != j[k])=dF:=by simp only[bne_eq_false_iff_eq];exact r
 have HX:O (l1[k]?.getD 0=j[k]?.getD 0):=by show _=_;simpa[o,s]using r
 go_wp2
 go_quiet (fail)
 go_wp2;go_roundw;exact⟨k+1,af,by go_num,db8 o s HT.out HX.out,below_drewN q⟩;exact cW};{
 have X:(l1[k] != j[k]):=by simp only[bne_iff_ne];exact r
 have y:O (dD (l1=j)=dF):=by show _=_;simp only[JW];intro e;apply r;simp[e]
 go_wp2
 go_quiet (fail)
 go_wp2;go_ret;exact⟨by rw[y.out];rfl,below_drewN q⟩}}}};{
 have N:k=J l1:=af;have y:O (dD (l1=j)):=by have:=HT.out;rw[N,wV,m,wV]at this;show _=_;simp[this]
 subst N;go_wp2;go_ret;exact⟨by rw[y.out];rfl,q⟩}}};{
 have aN:((J l1:Int) != (J j:Int)):=by simp;omega
 have V:dD (l1=j)=dF:=by simp only[JW];intro e;apply m;rw[e]
 rw[V];go_enter Tryz.func28,Tryz.ntmps28;go_wp2;go_ret;exact⟨rfl,aR _ _⟩}
def Own.lt{l:LI}(h:Own B w v l):∀b,v.ownBlock=Y b->B<=b/\b<U w.heap:=LY h
def Own.set{l:LI}(h:Own B w v l)(i:a.block<B)(u:dV):Own B (w.setCell a u) v l:=sy h i u
def marks(k:Int):Nat->LI
 |0=>[]
 |n+1=>marks k n++[(k+n) % 256]
def JP(k:Int)(n:Nat):J (marks k n)=n:=by induction n with|zero=>rfl|succ n ih=>simp[marks,ih]
theorem dB9(k:Int)(n j:Nat)(h:j<n):(marks k n)[j]?=Y ((k+j) % 256):=by
 induction n with
 |zero=>omega
 |succ n ih=>
  by_cases e:j=n;{subst e;simp[marks,JP]};{rw[marks,mj (by rw[JP];omega)];exact ih af}
def marked(l:LI)(k:Int)(j:Nat):LI:=marks k j++l.drop j
variable {k:Int}
def dC2{l:LI}(h:j<=J l):J (marked l k j)=J l:=by simp[marked,JP];omega
def dC0(l:LI)(k:Int):marked l k 0=l:=by simp[marked,marks]
def dC3(l:LI)(k:Int):marked l k (J l)=marks k (J l):=by simp[marked]
def dC1{l:LI}(h:j<J l):(iU (marked l k j)).set j (.int .u8 ((k+j) % 256))=iU (marked l k (j+1)):=by
 have m:l.drop j=l[j]::l.drop (j+1):=Hu h;have i:(marked l k j).set j ((k+j) % 256)=marked l k (j+1):=by unfold marked;rw[m,Xw _ _ (by rw[JP];omega),JP,xL,Pu];simp[marks]
 rw[<-i,iU,iU,an7]
def Zn:w.grownBy w row:=⟨rfl,rfl,rfl,eG _,λ_ _ _=>rfl⟩
def KF(h:w.grownBy w1 row)(k:w1.grownBy w2 row):w.grownBy w2 row:=
 ⟨k.os.Z h.os,k.tape.Z h.tape,k.output.Z h.output,gv h.size k.size,λi j m=>(k.block i (ku j h.size) m).Z (h.block i j m)⟩
def dD0{p:OA}{l:LI}(h:Own B w (.S p (J l) c) l)(X:J l<=2097152)(W:0<=k)(k1:k<=100000000):dQ dG 33 #[.S p (J l) c,.I k] w λe w'=>e=dR (.I (k+J l))/\Own B w' (.S p (J l) c) (marks k (J l))/\w.grownBy w' (Value.ownBlock (.S p (J l) c)):=by
 have q:(p=dN/\l=[])\/∃g,p=(Ad g 0):=by obtain⟨e,Z⟩|⟨g,N,M,e,_⟩:=h.2;{simp at e;exact .L ⟨e.1,e.2.1⟩};{simp at e;exact .R ⟨g,e.1⟩}
 go_enter Tryz.func33,Tryz.ntmps33;go_wp2
 go_loopw[1,5](λx i wr=>∃j:Nat,j<=J l/\i=.I j/\x=.I (k+j)/\wr.ownsRow B 5 1 (.S p (J l) c) (J l) (iU (marked l k j))/\w.grownBy wr (Value.ownBlock (.S p (J l) c))) (λ_ i _=>J l-(intOf i).toNat)
 exact⟨0,cO _,rfl,aj,by rw[dC0];exact h,Zn⟩;{
 obtain⟨j,D,rfl,rfl,m,r⟩:=hrel;by_cases s:j<J l;{
 obtain⟨rfl,rfl⟩|⟨g,rfl⟩:=q;{simp at s};{
 have Kk:=m.frozenAt j;have y:∃u,I wr (Ad g j)=Y u:=by rw[m.cellAt j af];exact⟨_,bD (by rw[ir,dC2 D];omega)⟩
 obtain⟨u,E⟩:=y;have o:=m.stored j (.int .u8 ((k+j) % 256));rw[dC1 (k:=k) s]at o;have R:=ag o.1;have V:=ag (KF r o.2);go_wp2;go_roundw;exact⟨j+1,af,by go_num,by go_num,by simpa using R.out,by simpa using V.out⟩;exact cW}};{
 have:j=J l:=by omega
 subst this;rw[dC3]at m;go_wp2;go_ret;refine⟨rfl,?_,r⟩;unfold Own;rw[JP];exact m}}
def dY1{p:OA}(h:Rd w (.S p n c) (marks k n))(E:n<=2097152)(D:0<=k)(k1:k<=100000000):dQ dG 38 #[.S p n c,.I k] w (Rb (.I (k+n)) w):=by
 have s:n=0\/∃g o,p=(Ad g o)/\∀j,j<n->I w (Ad g (o+j))=Y (.int .u8 ((k+j) % 256)):=by obtain⟨q,y,e,h⟩:=h;simp only[rj,JP]at e;obtain⟨rfl,-,rfl⟩:=e;obtain e|⟨b,o,rfl,hc⟩:=h;{left;have:=vJ List.length e;simpa[JP]using this};{right;refine⟨b,o,rfl,λj r=>?_⟩;rw[hc j (by rw[JP];exact r)];simp[List.getD,dB9 k n j r]}
 go_enter Tryz.func38,Tryz.ntmps38;go_wp2
 go_loopw[1,5](λx i wr=>∃j:Nat,j<=n/\i=.I j/\x=.I (k+j)/\Bw w wr) (λ_ i _=>n-(intOf i).toNat)
 exact⟨0,cO _,rfl,aj,aR _ _⟩;{
 obtain⟨j,r,rfl,rfl,m⟩:=hrel;by_cases u:j<n;{obtain rfl|⟨g,o,rfl,hc⟩:=s;{omega};{have B:I wr (Ad g (o+j))=Y (.int .u8 ((k+j) % 256)):=(m.cell (p:=(Ad g (o+j))) (jO w _ (hc j u))).Z (hc j u);have M:((k+(j:Int)) % 256 != (k+(j:Int)) % 256)=dF:=aj;go_wp2;go_roundw;exact⟨j+1,af,by go_num,by go_num,by first|exact m|exact below_drewN m⟩;exact cW}};{
 have:j=n:=by omega
 subst this;go_wp2;go_ret;exact⟨rfl,m⟩}}
structure Kept(vs:List dV)(w w':G):Prop where
 os:w'.os=w.os
 tape:w'.tape=w.tape
 output:w'.output=w.output
 size:U w.heap<=U w'.heap
 block:∀k,k<U w.heap->(∀v∈vs,v.ownBlock≠Y k)->w'.heap[k]?=w.heap[k]?
def Kept.refl(vs:List dV)(w:G):Kept vs w w:=⟨rfl,rfl,rfl,eG _,λ_ _ _=>rfl⟩
def Kept.Z(h:Kept vs w w1)(k:Kept vs w1 w2):Kept vs w w2:=
 ⟨k.os.Z h.os,k.tape.Z h.tape,k.output.Z h.output,gv h.size k.size,λi j m=>(k.block i (ku j h.size) m).Z (h.block i j m)⟩
def Kept.tT(h:Bw w w'):Kept vs w w':=⟨h.os,h.tape,h.output,h.size,λk i _=>h.block k i⟩
def Kept.aR0(h:w.grownBy w' v.ownBlock)(i:v∈vs):Kept vs w w':=
 ⟨h.os,h.tape,h.output,h.size,λk j m=>h.block k j (λe=>m v i e.C)⟩
def Kept.alloc(h:Kept vs w w')(o:Obj):Kept vs w (w'.alloc o):=h.Z (Kept.tT (aD.alloc aA _))
def Kept.H(h:Kept vs w w')(o:B<=U w.heap)(j:∀v∈vs,∀b,v.ownBlock=Y b->B<=b):Below B w w':=
 ⟨h.os,h.tape,h.output,h.size,λk m=>h.block k af (λv i e=>aK (j v i k e))⟩
def Own.Kc{l:LI}(h:Own B w v l)(s:Kept vs w w')(y:∀u∈vs,∀b,v.ownBlock=Y b->u.ownBlock≠Y b):Own B w' v l:=by
 refine⟨h.1,?_⟩;obtain r|⟨g,m,j,rfl,x,o,i⟩:=h.2;{exact .L r};{refine .R ⟨g,m,j,rfl,x,?_,i⟩;rw[s.block g (JU.1 o).1 (λu q=>y u q g rfl)];exact o}
def al{o:Nat}(h:I w (Ad b o)=v)(i:Bw w w'):I w' (Ad b o)=v:=
 (i.cell (p:=(Ad b o)) (jO w _ h)).Z h
def Ag(h:∀o,w.frozen? (Ad b o)=dF)(i:Bw w w')(j:b<U w.heap):∀o,w'.frozen? (Ad b o)=dF:=
 λo=>(i.frozen (p:=(Ad b o)) j).Z (h o)
def Kept.cellAt(h:Kept vs w w')(j:b<U w.heap)(i:∀v∈vs,v.ownBlock≠Y b):∀o,I w' (Ad b o)=I w (Ad b o):=
 λo=>Hz (h.block b j i)
def Kept.more(h:Kept vs w w')(j:∀v∈vs,v∈us):Kept us w w':=
 ⟨h.os,h.tape,h.output,h.size,λk m o=>h.block k m (λv i=>o v (j v i))⟩
open Go.Proofs.Tryz
def Own.form{l:LI}(h:Own B w v l):∃p c,v=.S p (J l) c:=by
 obtain⟨rfl,i⟩|⟨g,m,j,rfl,_⟩:=h.2;{exact⟨dN,0,by rw[i]⟩};{exact⟨_,_,rfl⟩}
def Rd.news{l:LI}(h:Rd w (.S a (J l) c) l):J (iU l)=J l*1/\(∀j u,(iU l)[j]?=Y u->I w (a.add j)=Y u)/\(∀u∈iU l,u.oneCell'):=by
 refine⟨aj,?_,?_⟩;{
 intro j u i;obtain⟨p,r,e,h⟩:=h;obtain⟨rfl,-,rfl⟩:=jJ e;obtain rfl|⟨b,o,e,hc⟩:=h;{simp at i};{
 simp only[mn]at e;subst e;have m:j<J l:=by have:=(bg.1 i).1;simpa using this
 have:=hc j m;rw[Fx,this];simp[List.getD,bD m]at i⊢;exact i}};{intro u q;obtain⟨x,_,rfl⟩:=fe.1 q;rfl}
def Rd.WX{l:LI}(h:Rd w (.S dN (J l) c) l):l=[]:=by
 obtain⟨p,i,e,h⟩:=h;obtain⟨rfl,-,rfl⟩:=jJ e;obtain rfl|⟨b,o,e,hc⟩:=h;{rfl};{cases e}
def WH{t:TypeId}(ty:TypeId){e:TypeId}(i:TypeInfo){size:Nat}(j:P.underlying t=Y (.slice e))(m:P.info? e=i)(c:Nat)(s:w.ownsRow base e size v n xs):(Builtin.append_ #[t,t] ty #[v,.S dN 0 c]).run P w=.ok v w:=by
 obtain⟨rfl,rfl⟩|⟨g,r,q,rfl,_,_,o,_⟩:=s.2;{simp[Builtin.append_,aU2 j,sizeOf,typeInfo,m,Builtin.lenOf,Builtin.firstCells]};{simp[Builtin.append_,aU2 j,sizeOf,typeInfo,m,Builtin.lenOf,Builtin.firstCells,o,storeCells]}
theorem aZ3{p:OA}{l:LI}(h:Rd w (.S p (J l) c) l)(V:J l<=2097152):dQ dG 88 #[.S p (J l) c] w λe w'=>∃j m,e=dR (.S j (J l) m)/\Own (U w.heap) w' (.S j (J l) m) l/\Bw w w':=by
 let⟨i,q,B,M,N⟩:=kx Tryz.infoByte;cases p with
 |none=>
  obtain rfl:=h.WX;have W:=λw:G=>WH (P:=dG) 22 i underlying22 q c (lZ w 0 5 1);go_in;go_wp2;go_ret;exact⟨dN,0,rfl,lZ _ _ _ _,aR _ _⟩
 |some a=>
  let⟨y,x,u⟩:=h.news;go_in;go_wp2_with(at_builtin;refine T9 _ rfl _ _ 22 rfl (U w.heap) 5 i (.int .u8 0) 1 1 underlying22 q B M N rfl bf _ _ _ rfl (lZ _ _ _ _) a _ c (iU l) rfl y x u jC af aA ?_);intro s r R D _;have o:Own (U w.heap) r s l:=by simpa using R
  obtain⟨j,m,rfl⟩:=o.form;have E:=Zo D;go_wp2;go_ret;exact⟨j,m,rfl,o,E⟩
variable {a:Act}
theorem aH6{Q:iE}(gR:o.guard=dN) (ho:o.op=.call {callee:=.builtin .append,args:=#[s,x],argTypes:=#[22,22]}){l m lm:LI}(mT:O (lm=l++m)){p:OA}(hs:a.eval s=v)(hx:a.eval x=.S p (J m) c)(cX:Own B w v l)(hr:Rd w (.S p (J m) c) m)(hl:J l+J m<=4194304)(hB:B<=U w.heap)(hK:∀p' c' w',Own B w' (.S p' (J lm) c') lm->w.grownBy w' v.ownBlock->wpList dG ops Q rest (a.put o.dst (.S p' (J lm) c')) w'):wpList dG ops Q (o::rest) a w:=by
 let⟨i,hi,iD,fw,fI⟩:=kx Tryz.infoByte;obtain rfl:=ae mT;cases p with
 |none=>
  obtain rfl:=hr.WX;obtain⟨pv,cv,rfl⟩:=cX.form;have D6:=WH (P:=dG) o.type i underlying22 hi c cX;refine Lib.wpList_append_run w gR s x 22 22 ho _ _ hs hx _ _ D6 ?_;have:=hK pv cv w (by simpa using cX) ⟨rfl,rfl,rfl,eG _,λ_ _ _=>rfl⟩;simpa using this
 |some ad=>
  let⟨n1,n2,n3⟩:=hr.news;refine T9 w gR s x 22 ho B 5 i (.int .u8 0) 1 1 underlying22 hi iD fw fI rfl bf v _ _ hs cX ad _ c (iU m) hx n1 n2 n3 jC af hB ?_;intro v' w' h1 h2 _;have iW:Own B w' v' (l++m):=by unfold Own;rw[dm,iU,pK];exact h1
  obtain⟨p',c',rfl⟩:=iW.form;exact hK p' c' w' iW h2
def ei4(E:n<=4194304):dQ dG 226 #[aq,.I n] w λe w'=>∃j o,e=dR (.S j 0 o)/\Own (U w.heap) w' (.S j 0 o) []/\Bw w w':=by
 let⟨i,y,s,M,B⟩:=kx Tryz.infoByte;by_cases h:n=0;{subst h;go_in;go_wp2;go_ret;exact⟨dN,0,rfl,lZ _ _ _ _,aR _ _⟩};{
 have D:=qV 0 n;have x:=Lib.run_append_nil_zeros (P:=dG) w 22 3 22 5 i (.int .u8 0) .i64 .i64 underlying22 underlying3 y s n af af af (by rw[B];omega);have q:=ag x;have r:=am2 w n 0 5;have m:=am1 w n 0 5 jC;generalize grownCap w n 0 5=cc at q r m;go_in;go_wp2_with(at_builtin;refine Lib.wpList_append_run _ rfl _ _ _ _ rfl _ _ rfl rfl _ _ (by exact q) ?_);unfold maxLen at m;go_wp2;go_ret;have u:(Builtin.zeroCells #[Value.int IntKind.u8 0] n++Builtin.zeroCells #[Value.int IntKind.u8 0] (cc-n)).size=cc*1:=by rw[aT5,am0,am0];simp;omega
 exact⟨_,cc,rfl,World.ownsRow_made (base:=U w.heap) (e:=5) (size:=1) w _ cc aA jC u,(aD.alloc aA _).drew⟩}
def vj(w:G)(g:Nat)(vs:List dV)(ls:List LI):Prop:=
 J vs=J ls/\∀j v l,vs[j]?=Y v->ls[j]?=Y l->I w (Ad g j)=Y v/\Rd w v l
def vj.H{ls:List LI}(h:vj w g vs ls)(i:Bw w w'):vj w' g vs ls:=
 ⟨h.1,λj v l o m=>⟨al (h.2 j v l o m).1 i,(h.2 j v l o m).2.H i⟩⟩
def vj.get{ls:List LI}(h:vj w g vs ls)(j:Nat)(i:j<J ls):∃(p:OA)(c:Nat)(l:LI),ls[j]?=l/\I w (Ad g j)=dS p (J l) c/\Rd w (.S p (J l) c) l:=by
 have o:j<J vs:=h.1▸i;let⟨q,m⟩:=h.2 j vs[j] ls[j] (bD o) (bD i);let⟨p,c,e,r⟩:=id m;exact⟨p,c,ls[j],bD i,by rw[q,e],by rw[e]at m;exact m⟩
def cat(ls:List LI):LI:=ls.flatten
def Vp:cat []=[]:=rfl
def aA9(l:LI):cat [l]=l:=by simp[cat]
def bs9(l m:LI):cat [l,m]=l++m:=by simp[cat]
variable {k:Nat}
def cw2{ls:List LI}{l:LI}(h:ls[k]?=l):cat (ls.take (k+1))=cat (ls.take k)++l:=by
 let⟨i,e⟩:=bg.1 h;unfold cat;rw[Xx i,J1,e];simp only[tW,aW6,yQ]
def ax8(ls:List LI)(k:Nat):J (cat (ls.take k))<=J (cat ls):=by
 have e:cat ls=cat (ls.take k)++cat (ls.drop k):=by unfold cat;rw[<-J1,Ic]
 rw[e,dm];omega
theorem cD6{ls:List LI}(h:vj w g vs ls)(hl:J (cat ls)<=4194304)(X:J ls<=1000):dQ dG 190 #[.T g (J ls) C] w λe w'=>∃o q,e=dR (.S o (J (cat ls)) q)/\Own (U w.heap) w' (.S o (J (cat ls)) q) (cat ls)/\Bw w w':=by
 let⟨i,Z,iD,fw,fI⟩:=kx Tryz.infoByte;go_in;go_wp2
 go_loopw[3,11](λs i wr=>∃k:Nat,k<=J ls/\i=.I k/\s=.I (J (cat (ls.take k)):Nat)/\Bw w wr) (λ_ i _=>J ls-(intOf i).toNat)
 exact⟨0,cO _,rfl,by simp[cat],aR _ _⟩;{
 obtain⟨k,iK,rfl,rfl,j⟩:=hrel;have N:=ax8 ls k;by_cases E:k<J ls;{
 let⟨p,c,l,D,e2,B⟩:=(h.H j).get k E;have r:=cw2 D;have UF:J (cat (ls.take k))+J l=J (cat (ls.take (k+1))):=by rw[r];simp
 have YC:=ax8 ls (k+1);have y:J (cat (ls.take k))+J l<=4194304:=af;have HL:=ag UF;generalize J (cat (ls.take k))=a at*;go_wp2;go_roundw;exact⟨k+1,af,by go_num,by rw[<-ae HL];go_num,j⟩;exact cW};{
 obtain rfl:k=J ls:=af;rw[wV];rw[wV]at N;go_wp2_with fail;refine(ei4 hl).h ?_;rintro e w1⟨V,c1,rfl,x,au⟩;replace x:Own (U w.heap) w1 (.S V 0 c1) []:=x.h j.size;have b1:=ai j au;go_wp2
 go_loopw[6,27](λv i wr=>∃k:Nat,k<=J ls/\i=.I k/\(∃p c,v=.S p (J (cat (ls.take k))) c/\Own (U w.heap) wr v (cat (ls.take k)))/\Bw w wr) (λ_ i _=>J ls-(intOf i).toNat)
 exact⟨0,cO _,rfl,⟨V,c1,by simp[cat],by simpa[cat]using x⟩,b1⟩;{
 obtain⟨k,iK,rfl,⟨R,cv,rfl,m⟩,j⟩:=hrel;have N:=ax8 ls k;by_cases E:k<J ls;{
 let⟨p,c,l,D,e2,B⟩:=(h.H j).get k E;have r:=cw2 D;have YC:=ax8 ls (k+1);have y:J (cat (ls.take k))+J l<=4194304:=by have:=vJ List.length r;simp only[dm]at this;omega
 have u:=ag r;generalize(cat (ls.take k))=a at*;cases p with
 |none=>
  obtain rfl:=B.WX;have HA:=ag (WH (P:=dG) 22 i underlying22 Z c m);go_wp2_with(at_builtin;refine Lib.wpList_append_run _ rfl _ _ _ _ rfl _ _ rfl rfl _ _ (by exact HA) ?_);go_roundw;exact⟨k+1,af,by go_num,⟨R,cv,by rw[ae u];simp,by rw[ae u];simpa using m⟩,j⟩;exact cW
 |some ad=>
  let⟨n1,n2,n3⟩:=B.news;go_wp2_with(at_builtin;refine T9 _ rfl _ _ 22 rfl (U w.heap) 5 i (.int .u8 0) 1 1 underlying22 Z iD fw fI rfl bf _ _ _ rfl m ad _ c (iU l) rfl n1 n2 n3 jC af j.size ?_);intro v' M cX hg _;have b2:Bw w M:=j.grown hg j.size (λk X=>(m.lt k X).1);have W:Own (U w.heap) M v' (a++l):=by unfold Own;rw[dm,iU,pK];exact cX
  obtain⟨o,q,rfl⟩:=W.form;go_wp2;go_roundw;exact⟨k+1,af,by go_num,⟨o,q,by rw[ae u],by rw[ae u];exact W⟩,b2⟩;exact cW};{obtain rfl:k=J ls:=af;rw[wV]at m;go_wp2;go_ret;exact⟨R,cv,by rw[wV];rfl,m,j⟩}}}}
def bs6{ls:List LI}(h:vj w g vs ls)(m:J (cat ls)<=4194304)(o:J ls<=1000):Cp 190 #[.T g (J ls) (J ls)] w λe w'=>∃i j,e=dR (.S i (J (cat ls)) j)/\Own (U w.heap) w' (.S i (J (cat ls)) j) (cat ls)/\Bw w w':=cD6 (C:=J ls) h m af
theorem eC9{p:OA}{l:LI}(hc:I w (Ad g 0)=dS p (J l) c)(h:Rd w (.S p (J l) c) l)(u:J l<=2097152):Cp 190 #[.T g 1 1] w λe w'=>∃q r,e=dR (.S q (J l) r)/\Own (U w.heap) w' (.S q (J l) r) l/\Bw w w':=by
 have s:vj w g [.S p (J l) c] [l]:=by
  refine⟨rfl,λj v m o i=>?_⟩
  match j,o,i with
  |0,o,i=>simp at o i;subst o i;exact⟨hc,h⟩
 have:=bs6 s (by rw[aA9];omega) aj;rw[aA9]at this;exact this
theorem eC8{p q:OA}{l m lm:LI}(u:O (lm=l++m))(hc:I w (Ad g 0)=dS p (J l) c)(B:I w (Ad g 1)=dS q (J m) d)(h:Rd w (.S p (J l) c) l)(k:Rd w (.S q (J m) d) m)(D:J l+J m<=4194304):Cp 190 #[.T g 2 2] w λe w'=>∃r s,e=dR (.S r (J lm) s)/\Own (U w.heap) w' (.S r (J lm) s) lm/\Bw w w':=by
 have y:vj w g [.S p (J l) c,.S q (J m) d] [l,m]:=by
  refine⟨rfl,λj v x o i=>?_⟩
  match j,o,i with
  |0,o,i=>simp at o i;subst o i;exact⟨hc,h⟩
  |1,o,i=>simp at o i;subst o i;exact⟨B,k⟩
 have:=bs6 y (by rw[bs9,dm];omega) aj;rw[bs9,<-ae u]at this;exact this
def BJ{Q:iE}(gR:o.guard=dN) (ho:o.op=.call {callee:=.builtin .append,args:=#[s,x],argTypes:=#[22,22]})(v:dV){l m lm:LI}(mT:O (lm=l++m))(p:OA)(c k:Nat)(hk:Le m k)(hs:a.eval s=v)(hx:a.eval x=.S p k c)(cX:Own B w v l)(hr:Rd w (.S p k c) m)(hl:J l+J m<=4194304)(hB:B<=U w.heap)(hK:∀p' c' w',Own B w' (.S p' (J lm) c') lm->w.grownBy w' v.ownBlock->wpList dG ops Q rest (a.put o.dst (.S p' (J lm) c')) w'):wpList dG ops Q (o::rest) a w:=by
 obtain rfl:=ae hk;exact aH6 gR ho mT hs hx cX hr hl hB hK
def df2{Q:iE}(gR:o.guard=dN)(f:FuncId)(x1 x2 x3:Operand)(sU:Array TypeId)(ho:o.op=.call {callee:=.value (.func f),args:=#[x1,x2,x3],argTypes:=sU})(v1 v2 v3:dV)(h1:a.eval x1=v1)(h2:a.eval x2=v2)(h3:a.eval x3=v3)(jG:∀vs,(callFunc f vs).run P w=.ok (.enter f vs) w)(hc:dQ P f #[v1,v2,v3] w R)(hR:∀e w',R e w'->∃v,e=dR v/\K (a.put o.dst v) w'):if Region.wanted o (yielded ops a.tmps)then Oper.wp P o a w K Q else E:=by
 have hw:Region.wanted o (yielded ops a.tmps):=by simp[Region.wanted,gR]
 rw[aM hw];have fS:(execOp a.eval o).run P w=.ok (.enter f #[v1,v2,v3]) w:=by subst h1 h2 h3;unfold execOp;simp[go_sem,ho,resolve,invoke,jG]
 show o.upon P a K Q _;rw[fS,O0];refine hc.h ?_;intro e w' h;obtain⟨v,rfl,hk⟩:=hR e w' h;exact hk
def Own.one(w:G)(y:Int):Own (U w.heap) (w.alloc (dO #[.int .u8 y] 5)) (.T (U w.heap) 1 1) [y]:=
 aU1 w #[.int .u8 y] 1 aA jC rfl
def Am{a:G}{l:LI}(h:Below B a w)(j:w.grownBy w' v.ownBlock)(i:Own C w v l)(o:B<=C)(m:B<=U w.heap):Below B a w':=
 h.grown j m (λk e=>aK (i.lt k e).1)
def Tc{Q:iE}(gR:o.guard=dN) (ho:o.op=.call {callee:=.builtin .append,args:=#[s,x],argTypes:=#[22,22]})(v:dV){l lm:LI}(mT:O (lm=l++[y]))(g:Nat)(hs:a.eval s=v)(hx:a.eval x=.T g 1 1)(cX:Own B w v l)(hc:I w (Ad g 0)=Y (.int .u8 y))(hl:J l<4194304)(hB:B<=U w.heap)(h:∀p' c' w',Own B w' (.S p' (J lm) c') lm->w.grownBy w' v.ownBlock->wpList dG ops Q rest (a.put o.dst (.S p' (J lm) c')) w'):wpList dG ops Q (o::rest) a w:=by
 have hr:Rd w (.T g 1 1) [y]:=by
  refine⟨_,_,rfl,.R ⟨g,0,rfl,λi hi=>?_⟩⟩;obtain rfl:i=0:=by simpa using hi
  simpa using hc
 exact aH6 gR ho mT hs hx cX hr bq hB h
def Btw(i j:Nat)(v:dV):Prop:=∀b,v.ownBlock=Y b->i<=b/\b<j
def Own.btw{l:LI}(h:Own B w v l):Btw B (U w.heap) v:=h.lt
abbrev Au(w:G)(b:Nat)(v0 v1:dV):Prop:=I w (Ad b 0)=v0/\I w (Ad b 1)=v1
def Au.H(h:Au w b v0 v1)(i:Bw w w'):Au w' b v0 v1:=⟨al h.1 i,al h.2 i⟩
def Own.cap{p:OA}{l:LI}(h:Own B w (.S p n c) l):n<=c:=by
 obtain⟨e,m⟩|⟨g,j,i,e,_,_,hc,_⟩:=h.2;{simp only[rj]at e;omega};{simp only[rj]at e;omega}
def Own.GG{p:OA}{l:LI}(h:Own B w (.S p n c) l):c<=maxLen:=by
 obtain⟨e,m⟩|⟨g,j,i,e,_,_,hc,hm,_⟩:=h.2;{simp only[rj]at e;omega};{simp only[rj]at e;omega}
def Zt{p q:OA}{l:LI}(r:Le l n)(o:Rd w (.S p n c) l)(m:Rd w (.S q n d) l)(i:n<=2097152):dQ dG 28 #[.S p n c,.S q n d] w (Rb (.bool dY) w):=by
 obtain rfl:=ae r;refine br (eq7 o m i i) λs j=>?_;exact⟨aj,j⟩
def Hj{Q:iE}(gR:o.guard=dN) (ho:o.op=.call {callee:=.value (.func f),args:=#[x1],argTypes:=sU})(h1:a.eval x1=v1)(jG:∀vs,(callFunc f vs).run P w=.ok (.enter f vs) w)(hc:dQ P f #[v1] w R)(hR:∀e w',R e w'->∃v,e=dR v/\K (a.put o.dst v) w'):if Region.wanted o (yielded ops a.tmps)then Oper.wp P o a w K Q else E:=by
 have hw:Region.wanted o (yielded ops a.tmps):=by simp[Region.wanted,gR]
 rw[aM hw];have fS:(execOp a.eval o).run P w=.ok (.enter f #[v1]) w:=by subst h1;unfold execOp;simp[go_sem,ho,resolve,invoke,jG]
 show o.upon P a K Q _;rw[fS,O0];refine hc.h ?_;intro e w' h;obtain⟨v,rfl,hk⟩:=hR e w' h;exact hk
def Tm{Q:iE}(gR:o.guard=dN) (ho:o.op=.call {callee:=.value (.func f),args:=#[x1,x2],argTypes:=sU})(h1:a.eval x1=v1)(h2:a.eval x2=v2)(jG:∀vs,(callFunc f vs).run P w=.ok (.enter f vs) w)(hc:dQ P f #[v1,v2] w R)(hR:∀e w',R e w'->∃v,e=dR v/\K (a.put o.dst v) w'):if Region.wanted o (yielded ops a.tmps)then Oper.wp P o a w K Q else E:=by
 have hw:Region.wanted o (yielded ops a.tmps):=by simp[Region.wanted,gR]
 rw[aM hw];have fS:(execOp a.eval o).run P w=.ok (.enter f #[v1,v2]) w:=by subst h1 h2;unfold execOp;simp[go_sem,ho,resolve,invoke,jG]
 show o.upon P a K Q _;rw[fS,O0];refine hc.h ?_;intro e w' h;obtain⟨v,rfl,hk⟩:=hR e w' h;exact hk
def jg{ops:iQ}{Q:iE}{E:Prop}{sU:Array TypeId}{x1:Operand}(hc:dQ P f #[v1] w R)(hR:∀e w',R e w'->∃v,e=dR v/\K (a.put o.dst v) w')(gR:o.guard=dN:=by rfl)(ho:o.op=.call {callee:=.value (.func f),args:=#[x1],argTypes:=sU}:=by rfl)(h1:a.eval x1=v1:=by rfl)(jG:∀vs,(callFunc f vs).run P w=.ok (.enter f vs) w:=by(intro _;kernel_rfl)):if Region.wanted o (yielded ops a.tmps)then Oper.wp P o a w K Q else E:=Hj gR ho h1 jG hc hR
def wD{ops:iQ}{Q:iE}{E:Prop}{sU:Array TypeId}{x1 x2:Operand}(hc:dQ P f #[v1,v2] w R)(hR:∀e w',R e w'->∃v,e=dR v/\K (a.put o.dst v) w')(gR:o.guard=dN:=by rfl)(ho:o.op=.call {callee:=.value (.func f),args:=#[x1,x2],argTypes:=sU}:=by rfl)(h1:a.eval x1=v1:=by rfl)(h2:a.eval x2=v2:=by rfl)(jG:∀vs,(callFunc f vs).run P w=.ok (.enter f vs) w:=by(intro _;kernel_rfl)):if Region.wanted o (yielded ops a.tmps)then Oper.wp P o a w K Q else E:=Tm gR ho h1 h2 jG hc hR
abbrev lM(k s:Int)(P:dV)(f:Int)(V:dV)(e g:Int):dV:=.agg #[.I k,.U s,P,.I f,V,.U e,.U g]
abbrev lp(w:G)(b:Nat)(v0 v1 v2 v3 v4 v5 v6:dV):Prop:=I w (Ad b 0)=v0/\I w (Ad b 1)=v1/\I w (Ad b 2)=v2/\I w (Ad b 3)=v3/\I w (Ad b 4)=v4/\I w (Ad b 5)=v5/\I w (Ad b 6)=v6
def lp.H{v3 v4 v5 v6:dV}(h:lp w b v0 v1 v2 v3 v4 v5 v6)(i:Bw w w'):lp w' b v0 v1 v2 v3 v4 v5 v6:=
 ⟨al h.1 i,al h.2.1 i,al h.2.2.1 i,al h.2.2.2.1 i,al h.2.2.2.2.1 i,al h.2.2.2.2.2.1 i,al h.2.2.2.2.2.2 i⟩
def Cz(h:∀o,w.frozen? (Ad b o)=dF)(i:b<U w.heap)(j:Bw w w'):∀o,w'.frozen? (Ad b o)=dF:=λo=>(j.frozen (p:=(Ad b o)) i).Z (h o)
def aC(l:LI):Prop:=∀z∈l,0<=z/\z<256
def gH{α:Type}[DecidableEq α](c:α):List α->List (List α)
 |[]=>[[]]
 |x::l=>if x=c then[]::gH c l else(match gH c l with|[]=>[[x]]|n::ns=>(x::n)::ns)
theorem cD1{α:Type}[DecidableEq α]{c:α}{s:List α}(h:c∉s):gH c s=[s]:=by
 induction s with
 |nil=>rfl
 |cons x l ih=>
  have i:¬x=c:=λe=>h (by simp[e]);rw[gH,aL i,ih (λj=>h (by simp[j]))]
theorem cD2{α:Type}[DecidableEq α]{c:α}{s t:List α}(h:c∉s):gH c (s++c::t)=s::gH c t:=by
 induction s with
 |nil=>simp[gH]
 |cons x l ih=>
  have i:¬x=c:=λe=>h (by simp[e]);rw[DI,gH,aL i,ih (λj=>h (by simp[j]))]
theorem ez9{α:Type}[DecidableEq α]{c x:α}(t:List α)(m:¬x=c)(s:List α)(h:c∉s):∃n i,gH c (s++x::t)=(s++x::n)::i:=by
 induction s with
 |nil=>
  rw[DE,gH,aL m];cases gH c t with
  |nil=>exact⟨[],[],rfl⟩
  |cons n i=>exact⟨n,i,rfl⟩
 |cons y l ih=>
  have j:¬y=c:=λe=>h (by simp[e]);let⟨n,i,e⟩:=ih (λq=>h (by simp[q]));exact⟨n,i,by rw[DI,gH,aL j,e];rfl⟩
theorem ez6{α:Type}[DecidableEq α](c:α){s:List α}:1<=J (gH c s):=by
 cases s with
 |nil=>simp[gH]
 |cons x l=>
  rw[gH];split;{simp};{split<;>simp}
theorem ez7{α β:Type}[DecidableEq α][DecidableEq β](f:α->β)(c:α)(s:List α)(h:∀x∈s,f x=f c->x=c):gH (f c) (s.map f)=(gH c s).map (List.map f):=by
 induction s with
 |nil=>rfl
 |cons x l j=>
  have j:=j λy m=>h y (by simp[m]);rw[kI,gH,gH,j];by_cases i:x=c;{rw[aM (by rw[i]),aM i];rfl};{rw[aL (λe=>i (h x aj e)),aL i];cases gH c l<;>rfl}
variable {c:UInt8}{s:List UInt8}
theorem dM2(h:c∉s):Lib.indexByte s c=-1:=by
 induction s with
 |nil=>rfl
 |cons x l ih=>
  have i:¬x=c:=λe=>h (by simp[e]);unfold Lib.indexByte;rw[ih (λj=>h (by simp[j]))];simp[i]
theorem dM3{t:List UInt8}(h:c∉s):Lib.indexByte (s++c::t) c=J s:=by
 induction s with
 |nil=>simp[Lib.indexByte]
 |cons x l ih=>
  have i:¬x=c:=λe=>h (by simp[e]);have e:=ih (λm=>h (by simp[m]));rw[DI];unfold Lib.indexByte;rw[e];have j:¬((J l:Int)==-1):=aj;rw[aL (by simpa using i),aL j];simp
theorem dh0(c:UInt8):∀(n:Nat)(s:List UInt8),J s<n->Lib.splitK [c] 0 (Lib.count s [c]) s=gH c s/\Lib.count s [c]+1=J (gH c s):=by
 intro n
 induction n with
 |zero=>intro s h;omega
 |succ n ih=>
  intro s h;by_cases hc:c∈s;{
 obtain⟨i,t,rfl,m⟩:=List.eq_append_cons_of_mem hc;have j:Lib.index (i++c::t) [c]=(J i:Nat):=by rw[Lib.index_one,dM3 m]
 have o:(i++c::t).drop (J i+1)=t:=by rw[List.drop_append];simp
 let⟨q,r⟩:=ih t (by simp at h;omega);rw[Lib.count_hit aj j,cD2 m];simp only[kJ,yS,mO,o];constructor;{rw[aW8 1,Lib.splitK,aL (by rw[j];simp),j];simp only[uC,kJ,yS,mO,DL,o,q];simp};{omega}};{
 have j:Lib.index s [c]=-1:=by rw[Lib.index_one,dM2 hc]
 rw[Lib.count_miss j,cD1 hc];exact⟨rfl,rfl⟩}
def kO(c:Int):Bool:=(dD (97<=c)&&dD (c<=122))||(dD (48<=c)&&dD (c<=57))||c==45||c==95
def nZ(l:LI):Bool:=dD (1<=J l)&&dD (J l<=16)&&l.all kO
def st(k:Nat):LI->Bool
 |[]=>dD (1<=k)&&dD (k<=8)
 |c::t=>c==47&&(dD (k+J (gH 47 t)<=8)&&(gH 47 t).all nZ)
def vp(p:LI):Bool:=st 0 p
variable {c:Int}
def bY6(h:kO c):¬c=47:=by
 intro e;subst e
 revert h
 decide
def aR7{l:LI}(h:∀x∈l,kO x):(47:Int)∉l:=λhm=>bY6 (h _ hm) rfl
def dg0{i:LI}(h:∀x∈i,kO x):st k (47::i)=(nZ i&&st (k+1) []):=by
 rw[st,st,cD1 (aR7 h)];by_cases j:k+1<=8;{simp[j]};{simp[j]}
def df9{i t:LI}(h:∀x∈i,kO x):st k (47::(i++47::t))=(nZ i&&st (k+1) (47::t)):=by
 rw[st,st,cD2 (aR7 h)];have e:k+J (i::gH 47 t)=k+1+J (gH 47 t):=by simp;omega
 rw[e];rw[aW7];cases nZ i<;>cases dD (k+1+J (gH 47 t)<=8)<;>cases(gH 47 t).all nZ<;>rfl
def dg1{i t:LI}(h:∀x∈i,kO x)(hc:¬c=47)(j:kO c=dF):st k (47::(i++c::t))=dF:=by
 let⟨n,o,e⟩:=ez9 t hc i (aR7 h);rw[st,e];have m:nZ (i++c::n)=dF:=by rw[nZ,List.all_append,aW7,j];simp
 rw[aW7,m];simp
def bM6{t:LI}(hc:¬c=47):st k (c::t)=dF:=by
 rw[st];simp[hc]
theorem cG1:∀{a b:LI},aC a->aC b->Lib.bytesOf a=Lib.bytesOf b->a=b
 |[],[],_,_,_=>rfl
 |[],y::b,_,_,h=>by simp[Lib.bytesOf]at h
 |x::a,[],_,_,h=>by simp[Lib.bytesOf]at h
 |x::a,y::b,ha,hb,h=>by
  simp only[Lib.bytesOf,kI,List.cons.injEq]at h;have m:=ha x aj;have j:=hb y aj;have e:x=y:=by have:=vJ UInt8.toNat h.1;simp at this;omega
  rw[e,cG1 (λz i=>ha z (by simp[i])) (λz i=>hb z (by simp[i])) h.2]
def bN0{t:LI}(o:aC t):Lib.splitK (Lib.bytesOf [47]) 0 (Lib.count (Lib.bytesOf t) (Lib.bytesOf [47])) (Lib.bytesOf t)=(gH 47 t).map Lib.bytesOf/\Lib.count (Lib.bytesOf t) (Lib.bytesOf [47])+1=J (gH 47 t):=by
 have i:Lib.bytesOf [47]=[UInt8.ofNat (47:Int).toNat]:=rfl;let⟨r,q⟩:=dh0 (UInt8.ofNat (47:Int).toNat) _ (Lib.bytesOf t) (Nat.lt_succ_self _);have j:gH (UInt8.ofNat (47:Int).toNat) (Lib.bytesOf t)=(gH 47 t).map Lib.bytesOf:=by refine ez7 (λn:Int=>UInt8.ofNat n.toNat) 47 t λx m e=>?_;have s:=o x m;have:=vJ UInt8.toNat e;simp at this;omega
 rw[i,r,j];refine⟨rfl,?_⟩;rw[q,j,ir]
theorem ez5{t:LI}(r:aC t):∀n∈gH 47 t,aC n:=by
 induction t with
 |nil=>intro n i;simp[gH]at i;subst i;intro z j;simp at j
 |cons x l q=>
  have q:=q λz j=>r z (by simp[j]);intro n i;rw[gH]at i;split at i;{obtain rfl|i:=fU.1 i;{intro z j;simp at j};{exact q n i}};{
 cases hc:gH 47 l with
 |nil=>
  rw[hc]at i;simp at i;subst i;intro z j;simp at j;subst j;exact r _ aj
 |cons m ms=>
  rw[hc]at i q;obtain rfl|i:=fU.1 i;{intro z j;obtain rfl|j:=fU.1 j;{exact r _ aj};{exact q m aj z j}};{exact q n (by simp[i])}}
def qG:Nat->Nat->LI
 |0,n=>[(n:Int)]
 |f+1,n=>if n<128 then[(n:Int)]else((n % 128+128:Nat):Int)::qG f (n / 128)
def vi(n:Nat):LI:=qG 9 n
variable {f:Nat}
theorem aI1(h:n<128):qG f n=[(n:Int)]:=by
 cases f with
 |zero=>rfl
 |succ f=>rw[qG,aM h]
def aI2(h:¬n<128):qG (f+1) n=((n % 128+128:Nat):Int)::qG f (n / 128):=by rw[qG,aL h]
theorem bJ2(f:Nat):∀n,1<=J (qG f n)/\J (qG f n)<=f+1:=by
 induction f with
 |zero=>intro n;simp[qG]
 |succ f ih=>
  intro n;rw[qG];split;{simp};{have:=ih (n / 128);simp;omega}
theorem cY5(f:Nat):∀n,n<128 ^ (f+1)->aC (qG f n):=by
 induction f with
 |zero=>intro n j z i;simp[qG]at i;subst i;simp at j;omega
 |succ f ih=>
  intro n j;rw[qG];split;{intro z i;simp at i;subst i;omega};{intro z i;obtain rfl|i:=fU.1 i;{omega};{exact ih (n / 128) (by rw[aW4 af];rw[Xu]at j;exact j) z i}}
def Av(h:n<2^64):aC (vi n):=cY5 9 n (by omega)
def pf(n:Nat):1<=J (vi n)/\J (vi n)<=10:=bJ2 9 n
def aC.app{l m:LI}(h:aC l)(k:aC m):aC (l++m):=λz i=>by
 obtain i|i:=jd.1 i;{exact h z i};{exact k z i}
def dw9:((List.range 256).all λy=>bits .or .u8 (y:Int) 128==((y % 128+128:Nat):Int)):=by decide +kernel
def dx0{x:Nat}:bits .or .u8 ((x:Int) % 256) 128=((x % 128+128:Nat):Int):=by
 have h:=ky.1 dw9 (x % 256) (vH.2 (Nat.mod_lt _ af));have i:=Fo.1 h;rw[show((x:Int) % 256)=((x % 256:Nat):Int) by omega,i];congr 1;omega
theorem aY8(f:Nat):∀(v:Nat)(w:G),v<128 ^ (f+1)->v<2^64->f<=9->∀(N:Nat),O (J (qG f v)=N)→
  dQ dG 94 #[.U v] w λe w'=>∃p' c',e=dR (.S p' N c')/\Own (U w.heap) w' (.S p' N c') (qG f v)/\Bw w w':=by
 induction f with
 |zero=>
  intro v w r Gp hf N i;have h:v<128:=by simpa using r
  obtain rfl:N=1:=by rw[<-ae i];rfl
  have h':(v:Int)<128:=af;have wv:IntKind.u8.wrap (v:Int)=(v:Int):=by rw[JY];omega
  go_in;go_wp2;go_ret;exact⟨_,_,rfl,(by have:=Own.one w (v:Int);exact this),aD.alloc aA _⟩
 |succ f ih=>
  intro v w r Gp hf N i;by_cases h:v<128;{
 have e:qG (f+1) v=[(v:Int)]:=aI1 h;obtain rfl:N=1:=by rw[<-ae i,e];rfl
 rw[e];have h':(v:Int)<128:=af;have wv:IntKind.u8.wrap (v:Int)=(v:Int):=by rw[JY];omega
 clear e i ih;go_in;go_wp2;go_ret;exact⟨_,_,rfl,(by have:=Own.one w (v:Int);exact this),aD.alloc aA _⟩};{
 have h':¬(v:Int)<128:=af;let⟨V,D⟩:=aY (v / 128);have hd:(v:Int) / 128=(V:Int):=af;have xo:V<128 ^ (f+1):=by rw[<-D,aW4 af];rw[Xu]at r;exact r
 let⟨M,q⟩:=aY (J (qG f V));have hM:=bJ2 f V;have j:∀w:G,_:=λw=>ih V w xo af af M q;have e:qG (f+1) v=[((v % 128+128:Nat):Int)]++qG f V:=by rw[aI2 h,D];rfl
 obtain⟨y,ey⟩:∃y:Int,(v:Int) % 128+128=y:=⟨_,rfl⟩;have u:(((v % 128+128:Nat)):Int)=y:=by rw[<-ey];omega
 rw[u]at e;have UX:N=1+M:=by rw[<-ae i,e,dm,q];rfl
 have X:=ag j;have EE:=ag e;have Z:=ag q;rw[q]at hM;clear j e D ih i q;go_in;go_wp2_with fail
 try rw[hd]
 try rw[ey]
 refine(ae X _).h ?_;rintro e w1⟨p1,c1,rfl,o1,R⟩;have oo:Own (U w.heap) (w.alloc (dO #[.int .u8 y] 5)) (.T (U w.heap) 1 1) [y]:=Own.one w y;have W:=Own.H oo R;have bA:Bw w (w.alloc (dO #[.int .u8 y] 5)):=aD.alloc aA _;have E:=ai bA R;have z1:=E.size;have r1:=o1.rd;clear oo R bA o1;go_wp2_with(at_builtin;refine BJ rfl rfl (.T (U w.heap) 1 1) EE p1 c1 M Z rfl rfl W r1 (by rw[ae Z];simp;omega) af ?_);intro p2 c2 w2 o2 dt;have b2:=Am E dt W aA af;have eL:J (qG (f+1) v)=N:=by rw[ae EE,dm,ae Z,UX];rfl
 rw[eL]at o2⊢;clear dt W r1 E;go_wp2;go_ret;exact⟨p2,c2,rfl,o2,b2⟩}
theorem Th{v:Nat}(Gp:v<2^64):dQ dG 127 #[.U v] w λe w'=>∃p' c',e=dR (.S p' (J (vi v)) c')/\Own (U w.heap) w' (.S p' (J (vi v)) c') (vi v)/\Bw w w':=by
 go_in;go_wp2
 go_loopw[0,3](λnv ov wr=>∃(x f N:Nat)(j:LI)(r:OA)(R:Nat),nv=.U x/\x<2^64/\O (x<128 ^ (f+1))/\N+f<=9/\ov=.S r N R/\Le j N/\O (vi v=j++qG f x)/\Own (U w.heap) wr (.S r N R) j/\Bw w wr) (λnv _ _=>(intOf nv).toNat)
 exact⟨v,9,0,[],dN,0,rfl,Gp,(by show _<_;omega),af,rfl,rfl,rfl,lZ _ _ _ _,aR _ _⟩;{
 obtain⟨x,f,N,j,r,R,rfl,hx,u,hNf,rfl,eN,eV,ho,W⟩:=hrel;have zr:=W.size;by_cases h:x<128;{
 have h':¬(128:Int)<=(x:Int):=af;have wx:IntKind.u8.wrap (x:Int)=(x:Int):=by rw[JY];omega
 have eE:O (vi v=j++[(x:Int)]):=by show _=_;rw[ae eV,aI1 h]
 go_wp2_with(at_builtin;refine Tc rfl rfl (.S r N R) eE (U wr.heap) rfl rfl (Own.H ho (aD.alloc aA _)) aj (by rw[ae eN];omega) bq ?_);intro p2 c2 w2 Z M;have b2:Bw w w2:=(W.alloc W.size _).grown M bq (λk hk=>(ho.lt k hk).1);clear M;go_wp2;go_ret;exact⟨p2,c2,rfl,Z,b2⟩};{
 have h':=gm 128 x;obtain⟨q,rfl⟩:∃q,f=q+1:=by
  cases f with
  |zero=>have:=ae u;simp at this;omega
  |succ q=>exact⟨q,rfl⟩
 let⟨X,eX⟩:=aY (x / 128);have hX:O (X<128 ^ (q+1)):=by show _<_;have:=ae u;rw[<-eX,aW4 af];rw[Xu]at this;exact this
 obtain⟨y,D⟩:∃y:Int,((x % 128+128:Nat):Int)=y:=⟨_,rfl⟩;have Io:=dx0 (x:=x);rw[D]at Io;have hd:(x:Int) / 128=(X:Int):=af;have E:O (vi v=(j++[y])++qG q X):=by show _=_;rw[ae eV,aI2 h,eX,D];simp
 have hXx:X<x:=af;have hy:D=D:=rfl;let⟨V,m⟩:=aG (j++[y]);have eP:=ag m;have KP:O (J V=N+1):=by show _=_;rw[m,dm,ae eN];rfl
 rw[<-m]at E;clear m eX D hy;go_wp2_with(at_builtin;refine Tc rfl rfl (.S r N R) eP (U wr.heap) rfl rfl (Own.H ho (aD.alloc aA _)) aj (by rw[ae eN];omega) bq ?_);intro p2 c2 w2 Z M;have b2:Bw w w2:=(W.alloc W.size _).grown M bq (λk hk=>(ho.lt k hk).1);rw[ae KP]at Z⊢;clear M;go_wp2;go_roundw;exact⟨X,q,N+1,V,p2,c2,by go_num,af,hX,af,rfl,KP,E,Z,b2⟩
 case measure=>simp[intOf];omega}}
def Rd.at{p:OA}{c:Nat}{l:LI}(h:Rd w (.S p n c) l)(j:0<J l):∃b o,p=(Ad b o)/\n=J l/\∀i,i<J l->I w (Ad b (o+i))=Y (.int .u8 (l.getD i 0)):=by
 obtain⟨q,r,e,h⟩:=h;obtain⟨rfl,rfl,-⟩:=jJ e;obtain rfl|⟨b,o,m,hc⟩:=h;{simp at j};{exact⟨b,o,m,rfl,hc⟩}
def bY4(c:Int):(97<=c/\c<=122/\kO c)\/(122<c/\kO c=dF)\/(48<=c/\c<=57/\kO c)\/(c=95/\kO c)\/(57<c/\c<97/\¬c=95/\kO c=dF)\/(c=45/\kO c)\/(c<48/\¬c=45/\kO c=dF):=by
 unfold kO;by_cases r:97<=c<;>by_cases q:c<=122<;>by_cases o:48<=c<;>by_cases m:c<=57<;>by_cases j:c=45<;>by_cases i:c=95<;>simp[r,q,o,m,j,i]<;>omega
def dI1:dQ dG 207 #[.int .u8 c] w λe w'=>e=dR (.bool (kO c))/\w'=w:=by
 obtain⟨o,x,i⟩|⟨x,i⟩|⟨r,q,i⟩|⟨rfl,i⟩|⟨q,o,j,i⟩|⟨rfl,i⟩|⟨r,m,i⟩:=bY4 c;{rw[i];go_enter Tryz.func207,Tryz.ntmps207;go_wp2;go_ret;exact⟨rfl,rfl⟩};{rw[i];have o:(97:Int)<=c:=af;have r:(48:Int)<=c:=af;have u:¬c<=122:=af;have q:¬c<=57:=af;have m:¬c=45:=af;have j:¬c=95:=af;go_enter Tryz.func207,Tryz.ntmps207;go_wp2;go_ret;exact⟨by simp[m,j],rfl⟩};{rw[i];have o:¬(97:Int)<=c:=af;go_enter Tryz.func207,Tryz.ntmps207;go_wp2;go_ret;exact⟨rfl,rfl⟩};{rw[i];go_enter Tryz.func207,Tryz.ntmps207;go_wp2;go_ret;exact⟨rfl,rfl⟩};{rw[i];have o:¬(97:Int)<=c:=af;have r:(48:Int)<=c:=af;have q:¬c<=57:=af;have m:¬c=45:=af;go_enter Tryz.func207,Tryz.ntmps207;go_wp2;go_ret;exact⟨by simp[m,j],rfl⟩};{rw[i];go_enter Tryz.func207,Tryz.ntmps207;go_wp2;go_ret;exact⟨rfl,rfl⟩};{rw[i];have o:¬(97:Int)<=c:=af;have s:¬(48:Int)<=c:=af;have j:¬c=95:=af;go_enter Tryz.func207,Tryz.ntmps207;go_wp2;go_ret;exact⟨by simp[m,j],rfl⟩}
def Tryz.infoSl:(Tryz.prog.info? 22).map (λi=>(i.zero,i.size,i.bytes))=Y (Y aq,1,24):=by kernel_rfl
def yz(B:Nat)(w:G)(v:dV)(n:Nat)(vs:List dV):Prop:=w.ownsRow B 22 1 v n vs
def yz.nil(B:Nat)(w:G):yz B w aq 0 []:=lZ _ _ _ _
def yz.form(h:yz B w v n vs):∃p c,v=.S p n c:=by
 obtain⟨rfl,i⟩|⟨g,m,j,rfl,_⟩:=h.2;{exact⟨dN,0,by rw[i]⟩};{exact⟨_,_,rfl⟩}
def yz.H(h:yz B w v n vs)(i:Bw w w'):yz B w' v n vs:=
 Pa h (row:=dN) ⟨i.os,i.tape,i.output,i.size,λk j _=>i.block k j⟩ (by cases m:v.ownBlock<;>simp)
def bI7{Q:iE}(gR:o.guard=dN){s:Operand}(ho:o.op=.call {callee:=.builtin .append,args:=#[s,x],argTypes:=#[44,44]})(g:Nat)(hs:a.eval s=v)(hx:a.eval x=.T g 1 1)(h:yz B w v n vs)(pu:OA)(nu cu:Nat)(hc:I w (Ad g 0)=dS pu nu cu)(hl:n<=2097152)(hB:B<=U w.heap)(hK:∀p' c' w',yz B w' (.S p' (n+1) c') (n+1) (vs++[.S pu nu cu])->w.grownBy w' v.ownBlock->wpList dG ops Q rest (a.put o.dst (.S p' (n+1) c')) w'):wpList dG ops Q (o::rest) a w:=by
 let⟨i,hi,iD,fw,fI⟩:=kx Tryz.infoSl;refine T9 w gR s x 44 ho B 22 i _ 1 24 Tryz.underlying44 hi iD fw fI rfl bf v _ _ hs h (Ad g 0) 1 1 [.S pu nu cu] hx rfl ?_ ?_ jC af hB ?_;{
 intro j u hu;have e:j=0:=by have:=(bg.1 hu).1;simpa using this
 subst e;simp at hu;subst hu;exact hc};{intro u hu;simp at hu;subst hu;rfl};{intro v' w' h1 h2 _;have h3:yz B w' v' (n+1) (vs++[.S pu nu cu]):=h1;obtain⟨p',c',rfl⟩:=h3.form;exact hK p' c' w' h3 h2}
variable {a:Nat}
def drop_cons{l:LI}(h:a<J l):l.drop a=l.getD a 0::l.drop (a+1):=by
 rw[Hu h];simp[List.getD,h]
def df7{l:LI}{b:Bool}(y:st k (l.drop a)=b)(u:a<J l)(r:l.getD a 0=47)(m:∀x∈(l.drop (a+1)).take j,kO x)(B:a+1+j<=J l)(i:a+1+j=J l\/l.getD (a+1+j) 0=47):b=(nZ ((l.drop (a+1)).take j)&&st (k+1) (l.drop (a+1+j))):=by
 rw[<-y,drop_cons u,r];have e:l.drop (a+1)=(l.drop (a+1)).take j++l.drop (a+1+j):=by have e:=(Ic j (l.drop (a+1))).C;rw[Fs]at e;exact e
 by_cases s:a+1+j=J l;{
 have q:l.drop (a+1+j)=[]:=Uj af;rw[q,yQ]at e;rw[q]
 conv=>lhs;rw[e]
 exact dg0 m};{
 obtain h|h:=i;{exact absurd h s};{
 have o:=drop_cons (l:=l) (a:=a+1+j) af;rw[h]at o;rw[o]at e⊢
 conv=>lhs;rw[e]
 exact df9 m}}
def df6{l:LI}{b:Bool}(u:st k (l.drop a)=b)(s:a<J l)(m:l.getD a 0=47)(i:∀x∈(l.drop (a+1)).take j,kO x)(q:a+1+j<J l)(o:¬l.getD (a+1+j) 0=47)(r:kO (l.getD (a+1+j) 0)=dF):b=dF:=by
 rw[<-u,drop_cons s,m];have e:l.drop (a+1)=(l.drop (a+1)).take j++l.drop (a+1+j):=by have e:=(Ic j (l.drop (a+1))).C;rw[Fs]at e;exact e
 rw[drop_cons q]at e;rw[e];exact dg1 i o r
def Se(l:LI)(a B:Nat)(w:G)(vs:List dV):Prop:=(vs=[]/\a=0)\/∃s j v,vs.getLast?=Y v/\a=s+1+j/\l.getD s 0=47/\(∀y∈(l.drop (s+1)).take j,kO y)/\Own B w v ((l.drop (s+1)).take j)
def cL1(l:LI)(B:Nat)(w:G)(vs:List dV):Prop:=∃s v,vs.getLast?=Y v/\s<J l/\l.getD s 0=47/\(∀y∈l.drop (s+1),kO y)/\Own B w v (l.drop (s+1))
def Se.fin{l:LI}(h:Se l n B w vs)(y:J l=n)(o:yz B w v k vs)(u:1<=k):cL1 l B w vs:=by
 obtain⟨rfl,-⟩|⟨s,j,v,r,x,q,m,i⟩:=h;{have:=o.1;simp at this;omega};{have e:(l.drop (s+1)).take j=l.drop (s+1):=lY bq;rw[e]at m i;exact⟨s,v,r,af,q,m,i⟩}
def Se.app{l i:LI}{t:Nat}{o:G}{r:dV}(E:t=a+1+j)(D:l.getD a 0=47)(R:i=(l.drop (a+1)).take j)(x:∀y∈i,kO y)(s:Own C w v i)(m:Bw w w1)(M:w1.grownBy o r.ownBlock)(hr:∀b,r.ownBlock=Y b->b<C)(N:B<=C):Se l t B o (vs++[v]):=by
 subst R;refine .R ⟨a,j,v,aj,E,D,x,Own.h ((Own.H s m).Kc (Kept.aR0 (vs:=[r]) M aj) (λu q b m e=>?_)) N⟩;simp at q;subst q;have:=hr b e;have:=(s.lt b m).1;omega
def NmE(l:LI)(C:Nat)(B:Bool)(e:Ending)(w':G):Prop:=B->∃p k c i,e=dR (dT #[.S p k c,.bool dY])/\yz C w' (.S p k c) k i/\1<=k/\cL1 l C w' i
variable {B:Bool}{c:Nat}
def cd9{p:OA}{l:LI}(q:Le l n)(h:Rd w (.S p n c) l)(hb:aC l)(hl:Mg n)(eB:O (vp l=B)):dQ dG 164 #[.S p n c] w λe w'=>NmE l (U w.heap) B e w'/\(∃v,e=dR (dT #[v,.bool B]))/\Bw w w':=by
 have HR:=ag h;have HB:=ag hb;clear h hb;go_in;go_wp2
 go_loopw[4,5](λov i wr=>∃(a k:Nat)(pv:OA)(cv:Nat)(vs:List dV),a<=n/\i=.I a/\ov=.S pv k cv/\k<=a/\O (st k (l.drop a)=B)/\yz (U w.heap) wr (.S pv k cv) k vs/\O (Se l a (U w.heap) wr vs)/\Bw w wr) (λ_ i _=>n-(intOf i).toNat)
 exact⟨0,0,dN,0,[],cO _,rfl,rfl,eG _,(by show _=_;exact eB),yz.nil _ _,ag (.L ⟨rfl,rfl⟩),aR _ _⟩;{
 obtain⟨a,k,pv,cv,vs,ha,rfl,rfl,hka,bj,ho,hLN,D⟩:=hrel;have vN:=D.size;by_cases aH:a<n;{
 have cL:=bM a n;obtain⟨b,o,rfl,-,hc⟩:=HR.at (by rw[ae q];omega);have gS:∀(i:Nat)(w':G),i<n->Bw w w'->I w' (Ad b (o+i))=Y (.int .u8 (l.getD i 0)):=λi w' hi aP=>(aP.cell (p:=(Ad b (o+i))) (jO w _ (hc i (ae q▸hi)))).Z (hc i (ae q▸hi));have HC:=ag gS;have X:=gS a wr aH D;clear hc gS;let⟨x,ex⟩:=aY (l.getD a 0);rw[ex]at X;have EX:=ag ex;clear ex;by_cases jw:x=47;{
 subst jw;go_wp2_with fail
 go_loopw[5,6](λi nv w2=>∃(t j:Nat)(pn:OA)(cn:Nat)(m:LI),O (t=a+1+j)/\t<=n/\a<t/\j<t/\i=.I t/\nv=.S pn j cn/\O (m=(l.drop (a+1)).take j)/\Le m j/\O (∀y∈m,kO y)/\Own (U wr.heap) w2 (.S pn j cn) m/\Bw wr w2) (λi _ _=>n-(intOf i).toNat)
 exact⟨a+1,0,dN,0,[],rfl,af,af,af,by go_num,rfl,rfl,rfl,(by intro y hy;simp at hy),lZ _ _ _ _,aR _ _⟩;{
 obtain⟨t,j,pn,cn,m,M,V,fD,hjt,rfl,rfl,Gu,Z,ox,r,ay⟩:=hrel;have fI:=ay.size;have bb2:=ai D ay;have iW:=ho.H ay;have at4:(t=n\/l.getD t 0=47)->B=(nZ m&&st (k+1) (l.drop t)):=λhe=>by have:=df7 (j:=j) bj (ae q▸aH) EX (ae Gu▸ae ox) (by rw[ae q,<-ae M];exact V) (by rw[ae q,<-ae M];exact he);rw[<-ae Gu,<-ae M]at this;exact this
 have fv:(1<=j/\j<=16->nZ m)/\(¬(1<=j/\j<=16)->nZ m=dF):=by have ha:m.all kO:=ky.2 ox;rw[nZ,ae Z,ha];constructor;{rintro⟨h1,h2⟩;simp[h1,h2]};{intro h;simp;omega}
 have HE:=ag at4;have HK:=ag fv;clear at4 fv;by_cases fL:t<n;{
 have bg0:=bM t n;have MF:=ae HC t wr fL bb2;let⟨z,ez⟩:=aY (l.getD t 0);rw[ez]at MF;have EZ:=ag ez;clear ez;by_cases E:z=47;{subst E;have he:=ae HE (.R EZ);by_cases W:1<=j;{have bf4:¬(j:Int)<1:=af;by_cases bf3:j<=16;{have bf2:¬(16:Int)<(j:Int):=af;rw[HK.1 ⟨W,bf3⟩,vI]at he;have Oe:=ag he.C;clear he X;go_wp2_with(at_builtin;refine bI7 rfl rfl (v:=.S pv k cv) (U wr.heap) rfl rfl (iW.H (aD.alloc aA _)) pn j cn aj af bq ?_);intro p' c' w3 Yl N;have b3:Bw w w3:=(bb2.alloc bb2.size _).grown N bq (λk hk=>(LY iW k hk).1);have HL3:=ag (Se.app (B:=U w.heap) (vs:=vs) M EX Gu ox r (aD.alloc aA _) N (λb hb=>(LY ho b hb).2) D.size);clear N;go_wp2;go_roundw;exact⟨t,k+1,p',c',_,V,by go_num,rfl,af,Oe,Yl,HL3,b3⟩;exact cW};{have bf2:=qV 16 j;rw[HK.2 af,an6]at he;subst he;go_wp2;go_ret2;exact⟨(λh=>by cases h),⟨_,rfl⟩,bb2⟩}};{have bf4:(j:Int)<1:=af;rw[HK.2 af,an6]at he;subst he;go_wp2;go_ret2;exact⟨(λh=>by cases h),⟨_,rfl⟩,bb2⟩}};{
 have uI:(z==47)=dF:=by simp[E]
 have fp0:(z != 47):=by simp[E]
 go_wp2_with fail;refine(dI1).h ?_;rintro e w3⟨rfl,rfl⟩;by_cases R:kO z=dY;{
 rw[R];have cy7:O (m++[z]=(l.drop (a+1)).take (j+1)):=by
  show _=_;have e1:(l.drop (a+1))[j]?=z:=by rw[JS,<-ae M,<-ae EZ];simp[List.getD,ae q,fL]
  rw[pZ,e1,ae Gu];rfl
 have bp4:O (J (m++[z])=j+1):=by show _=_;rw[dm,ae Z];rfl
 have cj9:O (∀y∈m++[z],kO y):=by intro y hy;obtain h|h:=jd.1 hy;{exact ox y h};{simp at h;rw[h];exact R}
 have ht2:O (t+1=a+1+(j+1)):=by show _=_;have:=ae M;omega
 let⟨nm2,bo9⟩:=aG (m++[z]);rw[<-bo9]at cy7 bp4 cj9;have mT:=ag bo9;clear bo9 iW;go_wp2_with(at_builtin;refine Tc rfl rfl (.S pn j cn) mT (U w3.heap) rfl rfl (Own.H r (aD.alloc aA _)) aj (by rw[ae Z];omega) bq ?_);intro p' c' w4 ho4 ly;have b4:=(ay.alloc ay.size _).grown ly bq (λk hk=>(r.lt k hk).1);rw[ae bp4]at ho4⊢;clear ly;go_wp2;go_roundw;exact⟨t+1,j+1,p',c',nm2,ht2,af,af,af,by go_num,rfl,cy7,bp4,cj9,ho4,b4⟩;exact cW};{
 have hzf:kO z=dF:=by simpa using R
 rw[hzf];have eF:B=dF:=by have e:=ae M;exact df6 (j:=j) bj (ae q▸aH) EX (ae Gu▸ae ox) (by rw[ae q,<-e];exact fL) (by rw[<-e,ae EZ];exact E) (by rw[<-e,ae EZ];exact hzf)
 subst eF;go_wp2;go_ret2;exact⟨(λh=>by cases h),⟨_,rfl⟩,bb2⟩}}};{have bg0:=fq t n;have he:=ae HE (.L af);by_cases W:1<=j;{have bf4:¬(j:Int)<1:=af;by_cases bf3:j<=16;{have bf2:¬(16:Int)<(j:Int):=af;rw[HK.1 ⟨W,bf3⟩,vI]at he;have Oe:=ag he.C;clear he X;go_wp2_with(at_builtin;refine bI7 rfl rfl (v:=.S pv k cv) (U wr.heap) rfl rfl (iW.H (aD.alloc aA _)) pn j cn aj af bq ?_);intro p' c' w3 Yl N;have b3:Bw w w3:=(bb2.alloc bb2.size _).grown N bq (λk hk=>(LY iW k hk).1);have HL3:=ag (Se.app (B:=U w.heap) (vs:=vs) M EX Gu ox r (aD.alloc aA _) N (λb hb=>(LY ho b hb).2) D.size);clear N;go_wp2;go_roundw;exact⟨t,k+1,p',c',_,V,by go_num,rfl,af,Oe,Yl,HL3,b3⟩;exact cW};{have bf2:=qV 16 j;rw[HK.2 af,an6]at he;subst he;go_wp2;go_ret2;exact⟨(λh=>by cases h),⟨_,rfl⟩,bb2⟩}};{have bf4:(j:Int)<1:=af;rw[HK.2 af,an6]at he;subst he;go_wp2;go_ret2;exact⟨(λh=>by cases h),⟨_,rfl⟩,bb2⟩}}}};{
 have hx:(x==47)=dF:=by simp[jw]
 have yY:(x != 47):=by simp[jw]
 have eF:B=dF:=by rw[<-ae bj,drop_cons (ae q▸aH),ae EX];exact bM6 jw
 subst eF;go_wp2;go_ret2;exact⟨(λh=>by cases h),⟨_,rfl⟩,D⟩}};{
 have e:a=n:=af;have cL:=fq a n;have yr:=ae bj;rw[Uj (by rw[ae q];omega),st]at yr;by_cases h1:1<=k;{
 by_cases h8:k<=8;{
 have Gq:=gm 1 k;have QN:(k:Int)<=8:=af;obtain rfl:B:=by rw[<-yr];simp[h1,h8]
 subst e;go_wp2;go_ret2;exact⟨λ_=>⟨pv,k,cv,vs,rfl,ho,h1,hLN.fin q ho h1⟩,⟨_,rfl⟩,D⟩};{
 have Gq:=gm 1 k;have QN:¬(k:Int)<=8:=af;obtain rfl:B=dF:=by rw[<-yr];simp[h8]
 go_wp2;go_ret2;exact⟨(λh=>by cases h),⟨_,rfl⟩,D⟩}};{
 have Gq:¬(1:Int)<=(k:Int):=af;obtain rfl:B=dF:=by rw[<-yr];simp[h1]
 go_wp2;go_ret2;exact⟨(λh=>by cases h),⟨_,rfl⟩,D⟩}}}
def dI0{p:OA}{l:LI}(m:Le l n)(h:Rd w (.S p n c) l)(j:aC l)(i:Mg n)(o:O (vp l=B)):Cp 164 #[.S p n c] w λe w'=>(∃v,e=dR (dT #[v,.bool B]))/\Bw w w':=(cd9 m h j i o).h λ_ _ h=>h.2
def bJ3{p:OA}{l:LI}(u:Le l n)(h:Rd w (.S p n c) l)(hl:n<=2097152)(R:O (nZ l=B)):dQ dG 247 #[.S p n c] w (Rb (.bool B) w):=by
 have HR:=ag h;clear h;by_cases h1:1<=n;{
 by_cases E:n<=16;{
 have Gq:¬(n:Int)<1:=af;have eh9:¬(16:Int)<(n:Int):=af;obtain⟨b,o,rfl,-,hc⟩:=HR.at (by rw[ae u];omega);go_enter Tryz.func247,Tryz.ntmps247;have gS:∀(i:Nat)(V:G),i<n->Bw w V->I V (Ad b (o+i))=Y (.int .u8 (l.getD i 0)):=λi V D aP=>(aP.cell (p:=(Ad b (o+i))) (jO w _ (hc i (ae u▸D)))).Z (hc i (ae u▸D));have HC:=ag gS;clear hc gS;go_wp2
 go_loopw[17](λi wr=>∃k:Nat,k<=n/\i=.I k/\O (∀j,j<k->kO (l.getD j 0))/\Bw w wr) (λi _=>n-(intOf i).toNat)
 exact⟨0,cO _,rfl,(λj hj=>af),aR _ _⟩;{
 obtain⟨k,hk,rfl,fv,s⟩:=hrel;by_cases aH:k<n;{
 have cL:=bM k n;have qz:=ae HC k wr aH s;let⟨z,ez⟩:=aY (l.getD k 0);rw[ez]at qz;have EZ:=ag ez;clear ez;have q:kO z->O (∀j,j<k+1->kO (l.getD j 0)):=λW j hj=>by by_cases e:j=k;{rw[e,ae EZ];exact W};{exact fv j af}
 have r:kO z=dF->B=dF:=λW=>by
  rw[<-ae R,nZ];have:l.all kO=dF:=by rw[Xv];refine⟨z,?_,by simp[W]⟩;rw[<-ae EZ];have Iu:k<J l:=ae u▸aH;rw[show l.getD k 0=l[k] by simp[List.getD,Iu]];exact AJ Iu
  rw[this];simp
 obtain⟨N,g2,m⟩|⟨g2,m⟩|⟨M,g4,m⟩|⟨rfl,m⟩|⟨g4,N,X,m⟩|⟨rfl,m⟩|⟨M,Z,m⟩:=bY4 z;{have y:=q m;clear q r;have M:(48:Int)<=z:=af;have g4:¬z<=57:=af;go_wp2;go_roundw;exact⟨k+1,af,by go_num,y,s⟩;exact cW};{
 obtain rfl:=r m;clear q r;have N:(97:Int)<=z:=af;have g2':¬z<=122:=af;have M:(48:Int)<=z:=af;have g4:¬z<=57:=af;have Z:(z != 45):=by simp;omega
 have X:(z != 95):=by simp;omega
 go_wp2;go_ret;exact⟨rfl,s⟩};{have y:=q m;clear q r;have N:¬(97:Int)<=z:=af;go_wp2;go_roundw;exact⟨k+1,af,by go_num,y,s⟩;exact cW};{have y:=q m;clear q r;go_wp2;go_roundw;exact⟨k+1,af,by go_num,y,s⟩;exact cW};{
 obtain rfl:=r m;clear q r;have Va:¬(97:Int)<=z:=af;have M:(48:Int)<=z:=af;have g4':¬z<=57:=af;have Z:(z != 45):=by simp;omega
 have g6':(z != 95):=by simp[X]
 go_wp2;go_ret;exact⟨rfl,s⟩};{have y:=q m;clear q r;go_wp2;go_roundw;exact⟨k+1,af,by go_num,y,s⟩;exact cW};{
 obtain rfl:=r m;clear q r;have N:¬(97:Int)<=z:=af;have g3':¬(48:Int)<=z:=af;have g5':(z != 45):=by simp[Z]
 have X:(z != 95):=by simp;omega
 go_wp2;go_ret;exact⟨rfl,s⟩}};{
 have cL:=fq k n;have e:k=n:=af;have eT:B:=by
  rw[<-ae R,nZ,ae u];have:l.all kO:=by rw[ky];intro x hx;obtain⟨i,D,rfl⟩:=Mf hx;have:=ae fv i (by rw[ae u]at D;omega);rwa [show l.getD i 0=l[i] by simp[List.getD,D]]at this
  simp[h1,E,this]
 subst eT;go_wp2;go_ret;exact⟨rfl,s⟩}}};{
 have Gq:¬(n:Int)<1:=af;have eh9:=qV 16 n;obtain rfl:B=dF:=by rw[<-ae R,nZ,ae u];simp[E]
 go_enter Tryz.func247,Tryz.ntmps247;go_wp2;go_ret;exact⟨rfl,aR _ _⟩}};{
 have Gq:(n:Int)<1:=af;obtain rfl:B=dF:=by rw[<-ae R,nZ,ae u];simp[h1]
 go_enter Tryz.func247,Tryz.ntmps247;go_wp2;go_ret;exact⟨rfl,aR _ _⟩}
def dh1{o:Nat}{t:LI}(Z:J t=n)(hc:∀i,i<n->I w (Ad b (o+i))=Y (.int .u8 (t.getD i 0)))(hg:I w (Ad g 0)=Y (.int .u8 47))(B:aC t)(W:n<=c)(M:c<=maxLen)(hl:n<=2097152)(hm:∃m,I w (Ad 2 0)=dI m){K:Nat}(eK:J (gH 47 t)=K):dQ dG 246 #[.S (Ad b o) n c,.T g 1 1] w λe w'=>e=dR (.T (U w.heap) K K)/\(∀j r,(gH 47 t)[j]?=Y r->∃N c',I w' (Aw w j)=dS N (J r) c'/\Rd w' (.S N (J r) c') r)/\Bw w w':=by
 obtain⟨m,hm⟩:=hm;have x:∀(g o i:Nat),((Ad g o):Addr).add i=(Ad g (o+i)):=λg o i=>by
  unfold Addr.add;split;{next h=>subst h;rfl}
  {rfl}
 let⟨e1,e2⟩:=bN0 B;refine(Any.bytes_Split Tryz.layS7 (Ad b o) (Ad g 0) n c 1 1 t [47] m w Z rfl B (by intro y V;simp at V;subst V;decide) (λi u=>by rw[x];exact hc i u) (λi u=>by obtain rfl:i=0:=af;exact hg) W af bf (by unfold maxLen at M;omega) bf hm).h ?_
 rintro e w'⟨rfl,q,rfl⟩;have MJ:Bw w ((w.alloc (dO (Lib.splitV (Lib.bytesOf [47]) 0 (Lib.count (Lib.bytesOf t) (Lib.bytesOf [47])) (Ad b o) c (Lib.bytesOf t)).toArray (Tryz.layS7_ren.t 22))).drewN q):=⟨rfl,rfl,rfl,aj,λk hk=>Xb _ _ k hk⟩;rw[e2,eK];refine⟨rfl,λj r E=>?_,MJ⟩;have R:j<J (Lib.splitV (Lib.bytesOf [47]) 0 (Lib.count (Lib.bytesOf t) (Lib.bytesOf [47])) (Ad b o) c (Lib.bytesOf t)):=by rw[Lib.splitV_length,e1,ir];exact(bg.1 E).1
 let⟨D,off,len,cp,ev,h1,h2,X,h4⟩:=Lib.splitV_spec (Lib.bytesOf [47]) 0 bf (cO _) _ (Ad b o) c (Lib.bytesOf t) (by rw[Lib.bytesOf_length,Z];exact W) j _ (bD R);rw[e1,qn,E]at X;rw[Lib.bytesOf_length]at h2;have Gu:r=(t.drop off).take len:=by refine cG1 (ez5 B r (bu E)) (λz hz=>B z (Pr (Pq hz))) ?_;rw[Lib.bytesOf_take,Lib.bytesOf_drop];simpa using X
 have s:J r=len:=by rw[Gu,rM,tX];omega
 refine⟨Y D,cp,?_,?_⟩;{rw[World.cell?_drewN,World.cell?_alloc_new,sV,bD R,ev,s]};{
 refine⟨Y D,cp,rfl,?_⟩;by_cases h0:len=0;{left;exact sX.1 (s▸h0)};{
 right;have ea:=h4 0 af;rw[x,DL]at ea;refine⟨b,o+off,?_,λi u=>?_⟩;{have:D.add 0=D:=rfl;rw[<-this,ea]};{
 rw[s]at u;have kL:I ((w.alloc (dO (Lib.splitV (Lib.bytesOf [47]) 0 (Lib.count (Lib.bytesOf t) (Lib.bytesOf [47])) (Ad b o) c (Lib.bytesOf t)).toArray (Tryz.layS7_ren.t 22))).drewN q) (Ad b (o+(off+i)))=Y (.int .u8 (t.getD (off+i) 0)):=
  (MJ.cell (p:=(Ad b (o+(off+i)))) (jO w _ (hc (off+i) af))).Z (hc (off+i) af)
 rw[wY,kL,Gu];have:((t.drop off).take len).getD i 0=t.getD (off+i) 0:=by simp[List.getD,Pp,u,JS]
 rw[this]}}}
theorem ez4{t:LI}:∀n∈gH (47:Int) t,J n<=J t:=by
 induction t with
 |nil=>intro n i;simp[gH]at i;subst i;simp
 |cons x l ih=>
  intro n i;rw[gH]at i;split at i;{obtain rfl|i:=fU.1 i;{simp};{have:=ih n i;simp;omega}};{
 cases hc:gH 47 l with
 |nil=>
  rw[hc]at i;simp at i;subst i;simp
 |cons m ms=>
  rw[hc]at i ih;obtain rfl|i:=fU.1 i;{have:=ih m aj;simp;omega};{have:=ih n (by simp[i]);simp;omega}}
theorem ba2{p:OA}{l:LI}(en:Le l n)(h:Rd w (.S p n c) l)(hb:O (aC l))(hl:Mg n)(hcn:n<=c)(nI:c<=maxLen)(hm:∃m,I w (Ad 2 0)=dI m)(eB:O (vp l=B)):dQ dG 211 #[.S p n c] w λe w'=>e=dR (.bool B)/\Below (U w.heap) w w':=by
 have HR:=ag h;have HM:=ag hm;by_cases zF:n=0;{
 subst zF;have eF:B=dF:=by rw[<-ae eB,sX.1 (ae en)];rfl
 subst eF;go_in;go_wp2;go_ret;exact⟨rfl,aR _ _⟩};have nF:((n:Int)==0)=dF:=by simp[zF]
 obtain⟨b,o,rfl,-,hc⟩:=HR.at (by rw[ae en];omega);obtain⟨x,t,W⟩:∃x t,l=x::t:=by
  cases l with
  |nil=>have:=ae en;simp at this;omega
  |cons x t=>exact⟨x,t,rfl⟩
 have hx:I w (Ad b o)=Y (.int .u8 x):=by have:=hc 0 (by rw[ae en];omega);rw[W]at this;exact this
 by_cases jw:x=47;{
 subst jw;have ent:J t=n-1:=by have:=ae en;rw[W]at this;simp at this;omega
 have MF:∀i,i<n-1->I w (Ad b (o+1+i))=Y (.int .u8 (t.getD i 0)):=λi hi=>by have:=hc (1+i) (by rw[ae en];omega);rw[W,<-wY]at this;rw[this];simp[List.getD,aW8 1 i]
 have YK:aC t:=λz hz=>ae hb z (by rw[W];simp[hz]);let⟨K,eK⟩:=aY (J (gH 47 t));have bj:B=(dD (K<=8)&&(gH 47 t).all nZ):=by rw[<-ae eB,W,vp,st,eK];simp
 have tz:K<=n+1:=by have h1:=(bN0 YK).2;have h2:=Lib.count_le (Lib.bytesOf t) (Lib.bytesOf [47]);rw[Lib.bytesOf_length,ent]at h2;omega
 let⟨N,eN⟩:=aY (n-1);let⟨C,eC⟩:=aY (c-1);have X:∀(M:Nat)(w':G),(N=0\/M=o+1)->Below (U w.heap) w w'->I w' (Ad (U w.heap) 0)=Y (.int .u8 47)->Cp 246 #[.S (Ad b M) N C,.T (U w.heap) 1 1] w' λe s=>e=dR (.T (U w'.heap) K K)/\(∀j r,(gH 47 t)[j]?=Y r->∃Z c',I s (Ad (U w'.heap) j)=dS Z (J r) c'/\Rd s (.S Z (J r) c') r)/\Below (U w'.heap) w' s:=by intro M w' xT aP hg;refine dh1 (by rw[ent,eN]) (λi hi=>?_) hg YK af af af ?_ eK;{obtain h0|rfl:=xT;{omega};{exact(aP.cell (p:=(Ad b (o+1+i))) (jO w _ (MF i af))).Z (MF i af)}};{let⟨m,hm⟩:=ae HM;exact⟨m,(aP.cell (p:=(Ad 2 0)) (jO w _ hm)).Z hm⟩}
 have HSP:=ag X;have iM:=ag bj;have EK:=ag eK;have g1:=gm 1 n;have g2:=gm 1 c;have g3:=mF n c;have HN:=bG eN eC;clear X bj MF YK ent eK hc eN eC;have bA:Below (U w.heap) w (w.alloc (dO #[.int .u8 47] 5)):=aD.alloc aA _;have uQ:∀M,(N=0\/M=o+1)->Cp 246 #[.S (Ad b M) N C,.T (U w.heap) 1 1] (w.alloc (dO #[.int .u8 47] 5)) λe s=>e=dR (.T (U w.heap+1) K K)/\(∀j r,(gH 47 t)[j]?=Y r->∃Z c',I s (Ad (U w.heap+1) j)=dS Z (J r) c'/\Rd s (.S Z (J r) c') r)/\Below (U w.heap) w s:=by intro M xT;have e:U (w.alloc (dO #[.int .u8 47] 5)).heap=U w.heap+1:=aj;have:=ae HSP M _ xT bA aj;rw[e]at this;refine this.h ?_;rintro e1 w1⟨rfl,h1,h2⟩;refine⟨rfl,h1,?_⟩;rw[<-e]at h2;exact ai bA h2
 have HF:=ag uQ;clear uQ bA;have V:∀r∈gH (47:Int) t,J r<=2097152:=λr y=>by have h1:=ez4 r y;have h2:=ae en;rw[W]at h2;simp at h2;omega
 have HL:=ag V;clear V W;by_cases fM:c=1;{
 subst fM;obtain rfl:n=1:=af;go_in;go_wp2_with fail;have Zc:(0:Nat)=N:=aK HN.1;have Kw:(0:Nat)=C:=aK HN.2;have X:=ae HF o (.L Zc.C);rw[<-Zc,<-Kw]at X;clear Zc Kw;refine X.h ?_;rintro e w2⟨rfl,P8,ay⟩;have HP:=ag P8;by_cases Yu:K<=8;{
 have bf1:¬(8:Int)<(K:Int):=af;go_wp2
 go_loopw[24](λi wr=>∃k:Nat,k<=K/\i=.I k/\O (∀j r,j<k->(gH 47 t)[j]?=Y r->nZ r)/\Below (U w2.heap) w2 wr) (λi _=>K-(intOf i).toNat)
 exact⟨0,cO _,rfl,(λj r hj=>af),aR _ _⟩;{
 obtain⟨k,hk,rfl,fv,E⟩:=hrel;have BB:=ai ay E;by_cases aH:k<K;{
 have cL:=bM k K;obtain⟨r,y⟩:∃r,(gH 47 t)[k]?=Y r:=⟨_,bD (ae EK▸aH)⟩;let⟨Z,c',sG,xk⟩:=ae HP k r y;have bh5:=al sG E;have Yg:=xk.H E;have Ip:=ae HL r (bu y);let⟨nl,ik⟩:=aY (J r);rw[ik]at bh5 Yg Ip;have ENL:=ag ik;have D:=ag y;let⟨R,eR⟩:=aY (nZ r);have ER:=ag eR;go_wp2_with fail;refine br (bJ3 ENL Yg Ip ER) λw3 aI=>?_;have b3:=ai E aI;cases R with
 |true=>
  have kH:O (∀j r,j<k+1->(gH 47 t)[j]?=Y r->nZ r):=λj nm' hj Yv=>by by_cases e:j=k;{subst e;have e2:=D.C.Z Yv;simp at e2;rw[<-e2];exact ae ER};{exact fv j nm' af Yv}
  go_wp2;go_roundw;exact⟨k+1,af,by go_num,kH,b3⟩;exact cW
 | false=>
  have eF:B=dF:=by
   rw[ae iM];have:(gH 47 t).all nZ=dF:=by rw[Xv];exact⟨r,bu (ae D),by simp[ae ER]⟩
   rw[this];simp
  subst eF;go_wp2;go_ret;exact⟨rfl,ai BB aI⟩};{
 have cL:=fq k K;have eT:B:=by
  rw[ae iM];have:(gH 47 t).all nZ:=by rw[ky];intro r y;obtain⟨i,hi,rfl⟩:=Mf y;exact ae fv i _ (by rw[ae EK]at hi;omega) (bD hi)
  simp[this,Yu]
 subst eT;go_wp2;go_ret;exact⟨rfl,BB⟩}}};{
 have bf1:=qV 8 K;obtain rfl:B=dF:=by rw[ae iM];simp[Yu]
 go_wp2;go_ret;exact⟨rfl,ay⟩}};{
 have ea1:¬(c:Int)=1:=af;go_in;go_wp2_with fail;have X:=ae HF (o+1) (.R rfl);rw[<-HN.1,<-HN.2]at X;refine X.h ?_;rintro e w2⟨rfl,P8,ay⟩;have HP:=ag P8;by_cases Yu:K<=8;{
 have bf1:¬(8:Int)<(K:Int):=af;go_wp2
 go_loopw[24](λi wr=>∃k:Nat,k<=K/\i=.I k/\O (∀j r,j<k->(gH 47 t)[j]?=Y r->nZ r)/\Below (U w2.heap) w2 wr) (λi _=>K-(intOf i).toNat)
 exact⟨0,cO _,rfl,(λj r hj=>af),aR _ _⟩;{
 obtain⟨k,hk,rfl,fv,E⟩:=hrel;have BB:=ai ay E;by_cases aH:k<K;{
 have cL:=bM k K;obtain⟨r,y⟩:∃r,(gH 47 t)[k]?=Y r:=⟨_,bD (ae EK▸aH)⟩;let⟨Z,c',sG,xk⟩:=ae HP k r y;have bh5:=al sG E;have Yg:=xk.H E;have Ip:=ae HL r (bu y);let⟨nl,ik⟩:=aY (J r);rw[ik]at bh5 Yg Ip;have ENL:=ag ik;have D:=ag y;let⟨R,eR⟩:=aY (nZ r);have ER:=ag eR;go_wp2_with fail;refine br (bJ3 ENL Yg Ip ER) λw3 aI=>?_;have b3:=ai E aI;cases R with
 |true=>
  have kH:O (∀j r,j<k+1->(gH 47 t)[j]?=Y r->nZ r):=λj nm' hj Yv=>by by_cases e:j=k;{subst e;have e2:=D.C.Z Yv;simp at e2;rw[<-e2];exact ae ER};{exact fv j nm' af Yv}
  go_wp2;go_roundw;exact⟨k+1,af,by go_num,kH,b3⟩;exact cW
 | false=>
  have eF:B=dF:=by
   rw[ae iM];have:(gH 47 t).all nZ=dF:=by rw[Xv];exact⟨r,bu (ae D),by simp[ae ER]⟩
   rw[this];simp
  subst eF;go_wp2;go_ret;exact⟨rfl,ai BB aI⟩};{
 have cL:=fq k K;have eT:B:=by
  rw[ae iM];have:(gH 47 t).all nZ:=by rw[ky];intro r y;obtain⟨i,hi,rfl⟩:=Mf y;exact ae fv i _ (by rw[ae EK]at hi;omega) (bD hi)
  simp[this,Yu]
 subst eT;go_wp2;go_ret;exact⟨rfl,BB⟩}}};{
 have bf1:=qV 8 K;obtain rfl:B=dF:=by rw[ae iM];simp[Yu]
 go_wp2;go_ret;exact⟨rfl,ay⟩}}};{
 have hx1:(x==47)=dF:=by simp[jw]
 have hx2:(x != 47):=by simp[jw]
 have eF:B=dF:=by rw[<-ae eB,W,vp];exact bM6 jw
 subst eF;go_in;go_wp2;go_ret;exact⟨rfl,aR _ _⟩}
def Wu{p:OA}{l:LI}(m:Le l n)(h:Rd w (.S p n c) l)(j:O (aC l))(i:Mg n)(o:O (vp l=B)):dQ dG 104 #[.S p n c] w λe w'=>e=dR (.bool B)/\Below (U w.heap) w w':=by
 go_in;go_wp2_with fail;refine(dI0 m h j i o).h ?_;rintro e r⟨⟨v,rfl⟩,q⟩;go_wp2;go_ret;exact⟨rfl,q⟩
abbrev Ev:=Int×LI
abbrev aB:=Int×Int×List Ev
structure ar where
 A:LI
 V:LI
 D:Int
 M:Int
 y:LI
 P:Int
 F:Int
 X:LI
def iZ(w:G)(v:dV)(ns:LI):Prop:=
 ∃(p:OA)(c:Nat),v=.S p (J ns) c/\(ns=[]\/∃b o,p=(Ad b o)/\∀i,i<J ns->I w (Ad b (o+i))=dU (ns.getD i 0))
def qF(w:G)(v:dV)(es:List Ev):Prop:=
 ∃(p:OA)(c:Nat),v=.S p (J es) c/\(es=[]\/∃b o,p=(Ad b o)/\∀i e,es[i]?=Y e->I w (Ad b (o+i*2))=dI e.1/\∃u,I w (Ad b (o+i*2+1))=Y u/\Rd w u e.2)
def lI(w:G)(v:dV)(ss:List aB):Prop:=
 ∃(p:OA)(c:Nat),v=.S p (J ss) c/\(ss=[]\/∃b o,p=(Ad b o)/\∀i s,ss[i]?=Y s->I w (Ad b (o+i*3))=dU s.1/\I w (Ad b (o+i*3+1))=dI s.2.1/\∃u,I w (Ad b (o+i*3+2))=Y u/\qF w u s.2.2)
def iZ.H{ns:LI}(h:iZ w v ns)(m:Bw w w'):iZ w' v ns:=by
 obtain⟨p,c,rfl,h⟩:=h;refine⟨p,c,rfl,?_⟩;obtain h|⟨b,o,rfl,h⟩:=h;{exact .L h};{exact .R ⟨b,o,rfl,λi j=>al (h i j) m⟩}
def qF.H{es:List Ev}(h:qF w v es)(j:Bw w w'):qF w' v es:=by
 obtain⟨p,c,rfl,h⟩:=h;refine⟨p,c,rfl,?_⟩;obtain h|⟨b,o,rfl,h⟩:=h;{exact .L h};{refine .R ⟨b,o,rfl,λi e he=>?_⟩;let⟨r,u,q,m⟩:=h i e he;exact⟨al r j,u,al q j,m.H j⟩}
def lI.H{ss:List aB}(h:lI w v ss)(j:Bw w w'):lI w' v ss:=by
 obtain⟨p,c,rfl,h⟩:=h;refine⟨p,c,rfl,?_⟩;obtain h|⟨b,o,rfl,h⟩:=h;{exact .L h};{refine .R ⟨b,o,rfl,λi e he=>?_⟩;let⟨s,r,u,q,m⟩:=h i e he;exact⟨al s j,al r j,u,al q j,m.H j⟩}
abbrev bS(e g x n:Int)(S N:dV):dV:=.agg #[.U e,.U g,.U x,.I n,S,N]
variable {x g:Int}
def XL{p:OA}{ss:List aB}(Z:Le ss n)(h:lI w (.S p n c) ss)(hn:Mg n){id:Int}(eB:O ((ss.any λs=>s.1==id)=B)):dQ dG 151 #[bS e g x t (.S p n c) N,.U id] w (Rb (.bool B) w):=by
 have HR:=ag λ(w':G)(hb:Bw w w')=>h.H hb;clear h;go_in;go_wp2_with fail;let⟨W,q⟩:=aG (w.alloc (dO #[.U e,.U g,.U x,.I t,.S p n c,N] 41));have E:=gF q;have uR:I W (Aw w 4)=dS p n c:=by rw[q];simp
 rw[<-q];clear q;have V:=ae HR _ E;have HS:=ag V;have BW:=ag E;clear V E HR
 go_loopw[5](λu wr=>∃k:Nat,k<=n/\u=.I k/\O (((ss.take k).any λs=>s.1==id)=dF)/\wr=W) (λu _=>n-(intOf u).toNat)
 exact⟨0,cO _,rfl,(by show _=_;simp),rfl⟩;{
 obtain⟨k,hk,rfl,M,rfl⟩:=hrel;by_cases aH:k<n;{
 have cL:=bM k n;have r:k<J ss:=by rw[ae Z];exact aH
 obtain⟨y,D⟩:∃y,ss[k]?=Y y:=⟨_,bD r⟩;let⟨p',c',ev,R⟩:=ae HS;simp only[rj]at ev;obtain⟨rfl,-,-⟩:=ev;obtain⟨b,o,rfl,X⟩:∃b o,p=(Ad b o)/\∀i s,ss[i]?=Y s->I wr (Ad b (o+i*3))=dU s.1:=by obtain h0|⟨b,o,h1,h2⟩:=R;{rw[h0]at r;simp at r};{exact⟨b,o,h1,λi s hi=>(h2 i s hi).1⟩}
 have qz:=X k y D;have HY:=ag D;clear X R D r;by_cases j:y.1=id;{
 have eT:B:=by rw[<-ae eB,Ui];exact⟨y,bu (ae HY),by simp[j]⟩
 subst eT;have m:(y.1==id):=by simp[j]
 go_wp2;go_ret;exact⟨rfl,BW⟩};{
 have m:(y.1==id)=dF:=by simp[j]
 have Ym:O (((ss.take (k+1)).any λs=>s.1==id)=dF):=by show _=_;rw[pZ,ae HY,List.any_append,ae M];simp[m]
 go_wp2;go_roundw;exact⟨k+1,af,by go_num,Ym,by first|rfl|trivial⟩;exact cW}};{
 have cL:=fq k n;have eF:B=dF:=by rw[<-ae eB];have:=ae M;rwa [lY (by rw[ae Z];omega)]at this
 subst eF;go_wp2;go_ret;exact⟨rfl,BW⟩}}
abbrev Bn(ns:List ar):Prop:=∀nd∈ns,aC nd.A/\J nd.A<=1048576/\J nd.V<=1048576/\J nd.y<=1048576/\J nd.X<=1048576
abbrev Bs(ss:List aB):Prop:=∀s∈ss,J s.2.2<=1048576/\∀e∈s.2.2,aC e.2/\J e.2<=1048576
abbrev Bu(ns:List ar):Prop:=∀nd∈ns,(∀i∈nd.y,0<=i/\i<2^64)/\∀i∈nd.X,0<=i/\i<2^64
abbrev Bo(ns:List ar):Prop:=∀nd∈ns,0<=nd.D/\nd.D<2^64
def live(ss:List aB)(id:Int):Bool:=ss.any λs=>s.1==id
def Ii(ss:List aB)(ids:LI)(i:Nat):Bool:=live ss (ids.getD i 0)&&(i==0||decide (ids.getD (i-1) 0<ids.getD i 0))
def qN(ss:List aB)(ids:LI):Bool:=(List.range (J ids)).all (Ii ss ids)
variable {f:Nat->Bool}
def Ff(h:(List.range k).all f)(i:f k):(List.range (k+1)).all f:=by
 rw[aW5,List.all_append,h];simp[i]
def Hp(i:k<n)(h:f k=dF):(List.range n).all f=dF:=by
 rw[Xv];exact⟨k,vH.2 i,by simp[h]⟩
abbrev fK(w:G)(b:Nat)(e g x t:Int)(S N:dV):Prop:=I w (Ad b 0)=dU e/\I w (Ad b 1)=dU g/\I w (Ad b 2)=dU x/\I w (Ad b 3)=dI t/\I w (Ad b 4)=S/\I w (Ad b 5)=N
def fK.H{S:dV}(h:fK w b e g x t S N)(i:Bw w w'):fK w' b e g x t S N:=
 ⟨al h.1 i,al h.2.1 i,al h.2.2.1 i,al h.2.2.2.1 i,al h.2.2.2.2.1 i,al h.2.2.2.2.2 i⟩
theorem ao7{p q:OA}{m:Nat}{ss:List aB}{ids:LI}(en:Le ss n)(em:Le ids m)(h:lI w (.S p n c) ss)(hi:iZ w (.S q m d) ids)(hn:Mg n)(hm:Mg m)(eB:O (qN ss ids=B)):dQ dG 152 #[bS e g x t (.S p n c) N,.S q m d] w (Rb (.bool B) w):=by
 have HR:=ag λ(w':G)(hb:Bw w w')=>aF (h.H hb) (hi.H hb);go_in;go_wp2_with fail;let⟨W,hW⟩:=aG (w.alloc (dO #[.U e,.U g,.U x,.I t,.S p n c,N] 41));have bW:=gF hW;have jH:fK W (U w.heap) e g x t (.S p n c) N:=by rw[hW];simp[fK]
 rw[<-hW];have BW:=ag bW;have BI:=ag jH
 go_loopw[5](λiv wr=>∃k:Nat,k<=m/\iv=.I k/\O ((List.range k).all (Ii ss ids))/\Bw W wr) (λiv _=>m-(intOf iv).toNat)
 exact⟨0,cO _,rfl,cM,aR _ _⟩;{
 obtain⟨k,hk,rfl,fv,az⟩:=hrel;have BB:=ai BW az;by_cases aH:k<m;{
 have cL:=bM k m;have bR:k<J ids:=ae em▸aH;let⟨hS,hU⟩:=ae HR _ BB;obtain⟨b,o,rfl,gS⟩:∃b o,q=(Ad b o)/\∀i,i<m->I wr (Ad b (o+i))=dU (ids.getD i 0):=by obtain⟨p',c',ev,hd⟩:=hU;obtain⟨rfl,-,-⟩:=jJ ev;obtain h0|⟨b,o,h1,h2⟩:=hd;{rw[h0]at bR;simp at bR};{exact⟨b,o,h1,λi hi=>h2 i (ae em▸hi)⟩}
 have i6:=BI.H az;have Z:=gS k aH;let⟨y,ey⟩:=aY (ids.getD k 0);rw[ey]at Z;have Jn:=ag hS;let⟨L,eL⟩:=aY (live ss y);have EL:O ((ss.any λs=>s.1==y)=L):=eL;have fD:Ii ss ids k=(L&&(k==0||decide (ids.getD (k-1) 0<y))):=by rw[Ii,ey,eL]
 have hF:Ii ss ids k=dF->B=dF:=λh=>by rw[<-ae eB,qN,ae em];exact Hp aH h
 cases L with
 |false=>
  obtain rfl:=hF (by rw[fD];rfl);have D:=bG i6 Z;go_wp2_with fail;refine fk (λw'=>fK w' (U w.heap) e g x t (.S p n c) N/\I w' (Ad b (o+k))=dU y) (by exact D) λhS=>?_;refine iC 0 1 2 3 hS ?_;refine tn 4 hS ?_;refine ry [5] ?_;refine cn (λKK hK=>?_) ?_;{refine wD (XL en (Jn.H aD.drew) hn EL) ?_;rintro r M⟨rfl,X⟩;refine⟨_,rfl,?_⟩;have u:Bw wr M:=ai (aR (U wr.heap) wr).drew X;refine bL hK ⟨D.1.H u,al D.2 u⟩ λhS=>?_;refine fO 6 7 hS ?_;refine kr 8 9 10 11 hS ?_;refine kr 12 13 14 15 hS ?_;refine kr 16 17 18 19 hS ?_;refine sn 20 hS ?_;refine sn 21 hS ?_;refine tn 22 hS ?_;refine fy ?_;have V:=ai BB u;go_wp2;go_ret;exact⟨rfl,V⟩};exact fg
 |true=>
  by_cases xZ:k=0;{have kH:O ((List.range (k+1)).all (Ii ss ids)):=Ff fv (by rw[fD,xZ];rfl);have HK0:=ag xZ;have hp:¬0<k:=af;have hp':¬(0:Int)<(k:Int):=af;have D:=bG i6 Z;clear fD hF eL gS ey xZ i6 Z;go_wp2_with fail;refine fk (λw'=>fK w' (U w.heap) e g x t (.S p n c) N/\I w' (Ad b (o+k))=dU y) (by exact D) λhS=>?_;refine iC 0 1 2 3 hS ?_;refine tn 4 hS ?_;refine ew 5 λKK hK=>?_;refine wD (XL en (Jn.H aD.drew) hn EL) ?_;rintro r M⟨rfl,X⟩;refine⟨_,rfl,?_⟩;have u:Bw wr M:=ai (aR (U wr.heap) wr).drew X;refine bL hK ⟨D.1.H u,al D.2 u⟩ λhS=>?_;clear hK KK;refine iC 6 7 8 9 hS ?_;refine tn 10 hS ?_;refine kr 11 12 13 14 hS ?_;refine kr 15 16 17 18 hS ?_;refine sn 19 hS ?_;refine sn 20 hS ?_;refine fO 21 22 hS ?_;refine fy ?_;have V:=ai az u;go_wp2;go_roundw;exact⟨k+1,af,by go_num,kH,V⟩;exact cW};{
 obtain⟨j,ej⟩:∃j:Nat,(k:Int)-1=(j:Int):=⟨k-1,af⟩;have CL:k-1=j:=af;have UO:=gS j af;let⟨z,ez⟩:=aY (ids.getD j 0);rw[ez]at UO;rw[CL,ez]at fD;have hp:0<k:=af;have hp':=qV 0 k;have Qm:=bM j m;have Yw:=gm 0 j;have wj:=il j;by_cases hzy:z<y;{
 have hle:¬y<=z:=af;have be6:dD (y<=z)=dF:=by simp;omega
 have kH:O ((List.range (k+1)).all (Ii ss ids)):=Ff fv (by rw[fD];simp[hzy]);have D:=du i6 Z UO;go_wp2_with fail;refine fk (λw'=>fK w' (U w.heap) e g x t (.S p n c) N/\I w' (Ad b (o+k))=dU y/\I w' (Ad b (o+j))=dU z) (by exact D) λhS=>?_;refine iC 0 1 2 3 hS ?_;refine tn 4 hS ?_;refine ew 5 λKK hK=>?_;refine wD (XL en (Jn.H aD.drew) hn EL) ?_;rintro r M⟨rfl,X⟩;refine⟨_,rfl,?_⟩;have u:Bw wr M:=ai (aR (U wr.heap) wr).drew X;refine bL hK ⟨D.1.H u,al D.2.1 u,al D.2.2 u⟩ λhS=>?_;refine iR 6 7 8 9 10 11 12 13 hS ?_;refine iR 14 15 16 17 18 19 20 21 hS ?_;refine tn 22 hS ?_;refine fy ?_;have V:=ai az u;go_wp2;go_roundw;exact⟨k+1,af,by go_num,kH,V⟩;exact cW};{
 have hle:y<=z:=af;have be6:dD (y<=z):=by simp;omega
 obtain rfl:=hF (by rw[fD];simp[hzy,xZ]);have D:=du i6 Z UO;go_wp2_with fail;refine fk (λw'=>fK w' (U w.heap) e g x t (.S p n c) N/\I w' (Ad b (o+k))=dU y/\I w' (Ad b (o+j))=dU z) (by exact D) λhS=>?_;refine iC 0 1 2 3 hS ?_;refine tn 4 hS ?_;refine ew 5 λKK hK=>?_;refine wD (XL en (Jn.H aD.drew) hn EL) ?_;rintro r M⟨rfl,X⟩;refine⟨_,rfl,?_⟩;have u:Bw wr M:=ai (aR (U wr.heap) wr).drew X;refine bL hK ⟨D.1.H u,al D.2.1 u,al D.2.2 u⟩ λhS=>?_;refine iR 6 7 8 9 10 11 12 13 hS ?_;refine iR 14 15 16 17 18 19 20 21 hS ?_;refine tn 22 hS ?_;refine fy ?_;have V:=ai BB u;go_wp2;go_ret;exact⟨rfl,V⟩}}};{
 have cL:=fq k m;have eT:B:=by
  rw[<-ae eB,qN,ae em];have:k=m:=by omega
  rw[<-this];exact fv
 subst eT;go_wp2;go_ret;exact⟨rfl,BB⟩}}
def vU(k:Nat)(v x:Int):Int:=bits .or .u64 v (IntKind.u64.wrap (x % 128*2 ^ (7*k)))
def aC6{v:Int}:0<=vU k v x/\vU k v x<2^64:=by
 have j:=bits_lo_u64 .or v (IntKind.u64.wrap (x % 128*2 ^ (7*k)));have i:=bits_hi_u64 .or v (IntKind.u64.wrap (x % 128*2 ^ (7*k)));unfold vU;omega
def tm(x:Nat):(x:Int) % 128=((x % 128:Nat):Int):=by omega
def bv2{x:Nat}{c:Int}(hc:c % 128=(x:Int))(o:x<128)(j:a<2 ^ (7*k))(q:a+x*2 ^ (7*k)<2^64):vU k a c=((a+x*2 ^ (7*k):Nat):Int):=by
 unfold vU;rw[hc];have m:IntKind.u64.wrap ((x:Int)*2 ^ (7*k))=((x*2 ^ (7*k):Nat):Int):=by
  rw[uG];have:((x:Int)*2 ^ (7*k))=((x*2 ^ (7*k):Nat):Int):=by push_cast;rfl
  rw[this];omega
 rw[m];have i:=bits_join_low .u64 64 bf wraps_u64 (7*k) (a:Int) ((x*2 ^ (7*k):Nat):Int) af (by exact_mod_cast j) af af (by
  have:((x*2 ^ (7*k):Nat):Int) % 2 ^ (7*k)=((x*2 ^ (7*k) % 2 ^ (7*k):Nat):Int):=by push_cast;rfl
  rw[this,Nat.mul_mod_left];rfl) af
 rw[i]
 push_cast
 rfl
def uv:Nat->Nat->Int->LI->Option (Int×LI)
 |0,_,_,_=>dN
 |_+1,_,_,[]=>dN
 |f+1,k,a,c::t=>if c<128 then Y (vU k a c,t)else uv f (k+1) (vU k a c) t
def rv(m:LI):Option (Int×LI):=uv 10 0 0 m
def bV0(k:Nat):2 ^ (7*(k+1))=128*2 ^ (7*k):=by
 rw[Nat.mul_add,Nat.pow_add,Xt]
theorem dm9(f:Nat):∀(k a x:Nat)(rest:LI),x<128 ^ (f+1)->a<2 ^ (7*k)->a+x*2 ^ (7*k)<2^64->uv (f+1) k a (qG f x++rest)=Y (((a+x*2 ^ (7*k):Nat):Int),rest):=by
 induction f with
 |zero=>
  intro k a x rest o m j;have u:x<128:=by simpa using o
  rw[qG];simp only[DI,DE,uv];rw[aM af,bv2 (by rw[tm];omega) u m j]
 |succ f ih=>
  intro k a x rest o m j;by_cases h:x<128;{rw[aI1 h];simp only[DI,DE,uv];rw[aM af,bv2 (by rw[tm];omega) h m j]};{
 rw[aI2 h];simp only[DI,uv];have s:=Nat.div_add_mod x 128;have y:=Nat.mod_lt x (show 0<128 by omega);generalize x / 128=q at*;generalize x % 128=r at*;subst s;have i:(128*q+r)*2 ^ (7*k)=q*2 ^ (7*(k+1))+r*2 ^ (7*k):=by rw[bV0,Nat.add_mul,Xt 128 q,Nat.mul_assoc]
 rw[aL af,bv2 (by rw[tm];omega) y m (by rw[i]at j;omega),ih (k+1) (a+r*2 ^ (7*k)) q rest ?_ ?_ ?_];{rw[i];congr 2;simp;omega};{rw[Xu]at o;omega};{rw[bV0];have:r*2 ^ (7*k)<=127*2 ^ (7*k):=Pd _ af;omega};{rw[i]at j;omega}}
def ai8{s:Nat}(rest:LI)(i:s<2^64):rv (vi s++rest)=Y ((s:Int),rest):=by
 have:=dm9 9 0 0 s rest af bf af;simpa[rv,vi]using this
theorem ai9(f:Nat):∀(k:Nat)(a:Int)(m:LI)(v:Int)(t:LI),uv f k a m=Y (v,t)->0<=v/\v<2^64/\J t<J m/\t=m.drop (J m-(J t)):=by
 induction f with
 |zero=>intro k a m v t h;simp[uv]at h
 | succ f ih=>
  intro k a m v t h;cases m with
  |nil=>simp[uv]at h
  |cons c m=>
   rw[uv]at h;split at h;{simp at h;obtain⟨rfl,rfl⟩:=h;have:=aC6 (k:=k) (v:=a) (x:=c);refine⟨this.1,this.2,aj,?_⟩;rw[kJ,show J m+1-(J m)=1 by omega];rfl};{let⟨q,j,r,i⟩:=ih _ _ _ _ _ h;refine⟨q,j,bq,?_⟩;rw[kJ,show J m+1-(J t)=(J m-(J t))+1 by omega,xM];exact i}
def vOf:Option (Int×LI)->Int
 |some x=>x.1
 |none=>0
def aOf(n:Nat):Option (Int×LI)->Int
 |some x=>(n:Int)-(J x.2)
 |none=>-1
def dr1{p:OA}:dQ dG 157 #[.S p n c,.I (-1)] w λe w'=>e=dR (dT #[.I 0,.I (-1)])/\w'=w:=by
 go_in;go_wp2;go_ret2;exact⟨rfl,rfl⟩
def dr2{p:OA}(i:Mg n):dQ dG 157 #[.S p n c,.I n] w λe w'=>e=dR (dT #[.I 0,.I (-1)])/\w'=w:=by
 have m:¬(n:Int)<0:=af;have j:=mF n n;go_in;go_wp2;go_ret2;exact⟨rfl,rfl⟩
def dr3{p:OA}{l:LI}(i:Le l n)(h:Rd w (.S p n c) l)(s:aC l)(y:Mg n)(m:a<n):dQ dG 157 #[.S p n c,.I a] w λe w'=>e=dR (dT #[.I (l.getD a 0),.I ((a+1:Nat):Int)])/\w'=w:=by
 obtain⟨b,o,rfl,-,hc⟩:=h.at (by rw[ae i];omega);have q:=hc a (ae i▸m);have r:0<=l.getD a 0/\l.getD a 0<256:=by have j:a<J l:=ae i▸m;rw[show l.getD a 0=l[a] by simp[List.getD,j]];exact s _ (AJ j)
 let⟨x,ex⟩:=aY (l.getD a 0);rw[ex]at q r⊢;have E:¬(a:Int)<0:=af;have D:¬(n:Int)<=(a:Int):=af;have B:=bM a n;have u:IntKind.i64.wrap x=x:=kP _ af;clear hc ex;go_in;go_wp2;go_ret2;exact⟨aj,rfl⟩
def bS7{p:OA}:dQ dG 155 #[.S p n c,.I (-1)] w λe w'=>e=dR (dT #[.U 0,.I (-1)])/\w'=w:=by
 go_in;go_wp2_with fail
 go_loopw[6,7](λj i wr=>j=.U 0/\i=.I 0/\wr=w) (λ_ i _=>10-(intOf i).toNat)
 exact⟨rfl,rfl,rfl⟩;{obtain⟨rfl,rfl,rfl⟩:=hrel;go_wp2;go_ret2;exact⟨rfl,rfl⟩}
def ex7{l:LI}(h:a<J l):l.drop a=l.getD a 0::l.drop (a+1):=by
 rw[Hu h];simp[List.getD,h]
def bS8{p:OA}{l:LI}(m:Le l n)(h:Rd w (.S p n c) l)(D:aC l)(hl:Mg n)(ha:a<=n){r:Option (Int×LI)}(er:O (rv (l.drop a)=r)):dQ dG 155 #[.S p n c,.I a] w λe w'=>e=dR (dT #[.U (vOf r),.I (aOf n r)])/\w'=w:=by
 have HR:=ag h;have HB:=ag D;have ha0:¬(a:Int)<0:=af;clear h D;go_in;go_wp2_with fail
 go_loopw[6,7](λX s wr=>∃(v:Int)(k:Nat),X=.U v/\k<=10/\s=.I k/\O (r=uv (10-k) k v (l.drop (a+k)))/\wr=w) (λ_ s _=>10-(intOf s).toNat)
 exact⟨0,0,rfl,af,rfl,(by show _=_;rw[<-ae er];rfl),rfl⟩;{
 obtain⟨v,k,rfl,hk,rfl,q,rfl⟩:=hrel;by_cases Ec:k<10;{
 have y:(k:Int)<10:=af;obtain⟨A,eA⟩:∃A:Nat,(a:Int)+(k:Int)=(A:Int):=⟨a+k,af⟩;have ZH:a+k=A:=af;have i:=ae q;rw[ZH,show 10-k=(9-k)+1 by omega]at i;by_cases u:A<n;{
 have hA:=bM A n;have R:¬(n:Int)<=(A:Int):=af;obtain⟨b,o,rfl,-,hc⟩:=HR.at (by rw[ae m];omega);have W:=hc A (ae m▸u);have Z:0<=l.getD A 0/\l.getD A 0<256:=by have B:A<J l:=ae m▸u;rw[show l.getD A 0=l[A] by simp[List.getD,B]];exact HB _ (AJ B)
 rw[ex7 (ae m▸u)]at i;let⟨x,ex⟩:=aY (l.getD A 0);rw[ex]at W Z i;have w7:IntKind.i64.wrap (7*(k:Int))=7*(k:Int):=kP _ af;rw[uv]at i;clear hc ex q;by_cases j:x<128;{
 rw[aM j]at i;have N:vOf r=vU k v x:=by rw[i];rfl
 have M:aOf n r=(A:Int)+1:=by rw[i];show(n:Int)-(J (l.drop (A+1)):Nat)=_;rw[tX,ae m];omega
 have E:=bG N M;clear N M i;go_wp2;go_ret2;rw[E.1,E.2];exact⟨rfl,rfl⟩};{
 have fp2:¬x<128:=j;rw[aL j]at i;have V:O (r=uv (10-(k+1)) (k+1) (vU k v x) (l.drop (a+(k+1)))):=by show _=_;rw[i,show 10-(k+1)=9-k by omega,show a+(k+1)=A+1 by omega]
 clear i;go_wp2;go_roundw;exact⟨vU k v x,k+1,rfl,af,by go_num,V,by first|rfl|trivial⟩;exact cW}};{have R:=mF n A;rw[Uj (by rw[ae m];omega),uv]at i;subst i;clear q;go_wp2;go_ret2;exact⟨rfl,rfl⟩}};{have y:¬(k:Int)<10:=af;have i:=ae q;rw[show 10-k=0 by omega,uv]at i;subst i;clear q;go_wp2;go_ret2;exact⟨rfl,rfl⟩}}
def aZ(l:LI):ByteArray:=l.foldl (λr n=>r.push (UInt8.ofNat n.toNat)) ByteArray.empty
theorem cG6(l:LI)(s:ByteArray):(l.foldl (λr n=>r.push (UInt8.ofNat n.toNat)) s).data.toList=s.data.toList++l.map (λn=>UInt8.ofNat n.toNat):=by
 induction l generalizing s with
 |nil=>simp
 |cons b l ih=>rw[JR,ih];simp[ByteArray.push]
theorem map_inj{l m:LI}(j:aC l)(hm:aC m)(h:l.map (λn=>UInt8.ofNat n.toNat)=m.map (λn=>UInt8.ofNat n.toNat)):l=m:=by
 induction l generalizing m with
 |nil=>cases m with
  |nil=>rfl
  |cons b m=>simp at h
 | cons a l ih=>cases m with
  |nil=>simp at h
  |cons b m=>
   simp only[kI,List.cons.injEq]at h;let⟨y,x⟩:=j a aj;let⟨s,r⟩:=hm b aj;have e:=vJ UInt8.toNat h.1;simp at e;have q:a=b:=af;rw[q,ih (λz i=>j z (by simp[i])) (λz i=>hm z (by simp[i])) h.2]
def Bj(l:LI):(aZ l).toList=l.map (λn=>UInt8.ofNat n.toNat):=by
 rw[ByteArray.toList_eq,aZ,cG6];rfl
def Nq{l m:LI}(i:aC l)(hm:aC m):((aZ l).toList==(aZ m).toList)=dD (l=m):=by
 rw[Bj,Bj];by_cases h:l=m;{simp[h]};{simp only[h,an5,an4];exactλe=>h (map_inj i hm e)}
theorem tK{p:OA}{l:LI}(q:J l=n)(h:Rd w (.S p n c) l):(convert 22 9 (.S p n c)).run dG w=.ok (.string (aZ l)) w:=by
 subst q;rw[run_convert_bytes_string w 22 9 5 p (J l) c underlying22 underlying5 underlying9];cases p with
 |none=>
  obtain rfl:=h.WX;simp[Conv.bytesToString,aZ,Xi]
 |some a=>
  let⟨s,m,r⟩:=h.news;have i:=run_loadCells_list (P:=dG) w a (iU l) (λj v o=>m j v o);simp only[ir]at i;exact run_bytesToString w a (J l) c l i
def ZO{p q:OA}{l m:LI}(el:Le l n)(s:Le m k)(j:Rd w (.S p n c) l)(i:Rd w (.S q k d) m)(r:aC l)(o:aC m):dQ dG 63 #[.S p n c,.S q k d] w (Rb (.bool (dD (l=m))) w):=by
 have y:=tK el j;have x:=tK s i;have u:=ag (Nq r o);clear j i r o;go_in;go_wp2;go_ret;exact⟨by rw[ae u];rfl,aR _ _⟩
def Rd.cut{o:Nat}{l:LI}(h:Rd w (.S (Ad b o) n c) l)(i j:Nat)(E:i<=j)(u:j<=J l)(q:OA)(hq:j=i\/q=(Ad b (o+i)))(d:Nat)(m:LI)(s:m=(l.take j).drop i):Rd w (.S q (j-i) d) m:=by
 have hm:J m=j-i:=by rw[s];simp;omega
 refine⟨q,d,by rw[hm],?_⟩;obtain rfl|rfl:=hq;{left;exact Fp af};{obtain⟨y,M,e,h⟩:=h;obtain⟨r,-,-⟩:=jJ e;obtain rfl|⟨N,B,x,hc⟩:=h;{left;exact Fp (by simp at u;omega)};{right;rw[x]at r;simp only[mn,dD4]at r;obtain⟨rfl,rfl,-⟩:=r;refine⟨b,o+i,rfl,λk D=>?_⟩;have:=hc (i+k) af;rw[wY,this,s];simp[List.getD,Pp,show i+k<j by omega]}}
def Um{p q:OA}{l m:LI}(el:Le l n)(s:Le m k)(j:Rd w (.S p n c) l)(i:Rd w (.S q k d) m)(r:aC l)(o:aC m):dQ dG 48 #[.S p n c,.S q k d] w (Rb (.bool (dD (l=m))) w):=by
 have y:=tK el j;have x:=tK s i;have u:=ag (Nq r o);clear j i r o;go_in;go_wp2;go_ret;exact⟨by rw[ae u];rfl,aR _ _⟩
def Ci{p:OA}{l:LI}(o:Le l n)(h:Rd w (.S p n c) l)(m:n<=2097152):Cp 88 #[.S p n c] w λe w'=>∃i j,e=dR (.S i n j)/\Own (U w.heap) w' (.S i n j) l/\Bw w w':=by
 obtain rfl:=ae o;exact aZ3 h m
def rt(m:LI):Option (LI×LI):=
 match rv m with
 |none=>dN
 |some x=>if(J x.2:Int)<x.1 then dN else Y (x.2.take x.1.toNat,x.2.drop x.1.toNat)
def Tj:Option (LI×LI)->LI
 |some x=>x.1
 |none=>[]
def bOf(n:Nat):Option (LI×LI)->Int
 |some x=>(n:Int)-(J x.2)
 |none=>-1
def dq9{p:OA}:dQ dG 156 #[.S p n c,.I (-1)] w λe w'=>e=dR (dT #[aq,.I (-1)])/\w'=w:=by
 go_in;go_wp2_with fail;refine(bS7).h ?_;rintro e w'⟨rfl,rfl⟩;go_wp2;go_ret2;exact⟨rfl,rfl⟩
theorem dr0{p:OA}{l:LI}(B:Le l n)(h:Rd w (.S p n c) l)(hb:aC l)(hl:Mg n)(nE:n<=c)(ha:a<=n){r:Option (LI×LI)}(er:O (rt (l.drop a)=r)){N:Nat}(u:O (J (Tj r)=N)):dQ dG 156 #[.S p n c,.I a] w λe w'=>∃p' c',e=dR (dT #[.S p' N c',.I (bOf n r)])/\Own (U w.heap) w' (.S p' N c') (Tj r)/\Bw w w':=by
 let⟨x,ex⟩:=aY (rv (l.drop a));have i:=ae er;rw[rt,ex]at i;go_in;go_wp2_with fail;refine(bS8 B h hb hl ha ex).h ?_;rintro e w'⟨rfl,rfl⟩;cases x with
 |none=>
  subst i;obtain rfl:N=0:=by rw[<-ae u];rfl
  dsimp only[vOf,aOf];go_wp2;go_ret2;exact⟨dN,0,rfl,lZ _ _ _ _,aR _ _⟩
 |some x=>
  obtain⟨v,t⟩:=x;have iH:=ai9 10 0 0 _ v t ex;rw[tX,ae B]at iH;obtain⟨v0,v1,Ya,j⟩:=iH;let⟨T,s⟩:=aY (J t);dsimp only at i;rw[s]at i Ya j;let⟨A,eA⟩:=aY (n-T);have m:t=l.drop A:=by rw[j,Fs];congr 1;omega
  have Z:aOf n (Y (v,t))=(A:Int):=by show(n:Int)-(J t:Nat)=_;rw[s];omega
  have ev:vOf (Y (v,t))=v:=rfl;rw[Z,ev];have hA0:¬(A:Int)<0:=af;have hAn:(n:Int)-(A:Int)=(T:Int):=af;have wT:IntKind.u64.wrap (T:Int)=(T:Int):=by rw[uG];omega
  by_cases y:(T:Int)<v;{
 rw[aM y]at i;subst i;obtain rfl:N=0:=by rw[<-ae u];rfl
 clear er Z ev ex j m;go_wp2;go_ret2;exact⟨dN,0,rfl,lZ _ _ _ _,aR _ _⟩};{
 rw[aL y]at i;obtain⟨V,rfl⟩:∃V:Nat,v=(V:Int):=⟨v.toNat,af⟩;have eV:((V:Int)).toNat=V:=af;rw[eV]at i;obtain rfl:N=V:=by rw[<-ae u,<-i];show J (t.take V)=V;rw[rM,s];omega
 have Cv:bOf n r=((A+N:Nat):Int):=by rw[<-i];show(n:Int)-(J (t.drop N):Nat)=_;rw[tX,s];omega
 have M:Tj r=(l.take (A+N)).drop A:=by rw[<-i];show t.take N=_;rw[m,List.drop_take,cb8]
 obtain⟨b,o,rfl,-,-⟩:=h.at (by rw[ae B];omega);have hcut:∀(q:OA)(d:Nat),(A+N=A\/q=(Ad b (o+A)))->Rd w' (.S q N d) (Tj r):=λq d hq=>by have:=h.cut A (A+N) af (by rw[ae B];omega) q hq d (Tj r) M;rwa [cb8]at this
 let⟨E,eE⟩:=aY (A+N);rw[eE]at hcut;have wN:=il N;have hAE:(A:Int)+(N:Int)=(E:Int):=af;have IL:=mF A E;have hE2:=mF E c;have MT:E-A=N:=af;have hvv:¬(T:Int)<(N:Int):=y;have HC:=ag hcut;have D:=mX Cv M eE s eA;clear er i Z ev ex j m hcut Cv M eE s eA y eV h hb;by_cases ID:c=A;{have X:A=E:=af;have Zc:N=0:=af;subst ID;subst X;subst Zc;go_wp2_with fail;refine(Ci u (ae HC _ _ (.L (by first|rfl|trivial))) af).h ?_;rintro e w2⟨R,c2,rfl,W,b2⟩;go_wp2;go_ret2;exact⟨R,c2,by rw[D.1,D.2.2.1];rfl,W,b2⟩};{have dZ9:¬(c:Int)=(A:Int):=af;have fu3:c≠A:=ID;have wE:=il E;have hNb:N<=2097152:=af;have HE4:=ag MT;clear Ya ID MT dZ9 v0 v1;go_wp2_with fail;rw[ae HE4];refine(Ci u (ae HC _ _ (.R rfl)) af).h ?_;rintro e w2⟨R,c2,rfl,W,b2⟩;go_wp2;go_ret2;exact⟨R,c2,by rw[D.1,D.2.2.1];rfl,W,b2⟩}}
end Go.Proofs.YtdloolggnjjfoaaGreatDoor
