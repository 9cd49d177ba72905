import Derived.Test.YtpkakgkipopiaaaGreatDoorVPy
import Derived.IntWalk
import Derived.WalkKit
import Derived.Below
import Derived.Deep.RegionHeld3
import Derived.WalkSpells
import Derived.WalkLawsBesides
import Derived.BigQuiet
import Derived.ProofKit
import Derived.OpenShut
import Derived.Deep.QuietTactic
import Derived.Deep.Fields23
import Derived.Deep.Strs
import Derived.Lib.AppendZeros
import Derived.Deep.RegionLaw
import Derived.Lib.SlSplitV
import Derived.Lib.IndexBytes
import Derived.Lib.CountLaws
import Derived.Lib.Bytes
import Derived.Laws.BytesString
import Derived.Deep.DeepCutAuto
import Derived.Lib.EndianBits
import Derived.Laws.Closers25b
import Derived.Maps.RangeWalk
import Derived.Maps.Ext
import Derived.Sort.AssemblyPlain
import Derived.Sort.Row
import Derived.RangeFuncOwn
import Derived.RangeFuncSeq
open Array renaming setIfInBounds->jI,size->U
open Bool renaming false->dF,true->dY
open Decidable renaming decide->dD
open Go renaming undef->jQ,Calls->dQ,Value->dV,World->G
open Go.Ending renaming returned->dR
open Go.IntKind renaming u64->jU,i64->jV,wrap->jY
open Go.Obj renaming cells->dO
open Go.Proofs.Tryz renaming prog->dG
open Go.Region renaming wanted->jW
open Go.RowKit renaming Hid->O
set_option linter.all false
namespace Eq
def Z:=@Eq.trans
def C:=@Eq.symm
end Eq
namespace Iff
def Z:=@Iff.trans
def C:=@Iff.symm
end Iff
namespace Ne
def C:=@Ne.symm
end Ne
namespace Or
def C:=@Or.symm
def L:=@Or.inl
def R:=@Or.inr
end Or
namespace List.Perm
def Z:=@List.Perm.trans
def C:=@List.Perm.symm
end List.Perm
namespace Go.RowKit.Below
def Z:=@trans
def h:=@mono
end Go.RowKit.Below
namespace Go.KeepsOthers
def Z:=@KeepsOthers.trans
end Go.KeepsOthers
namespace Go.KeepsWalks
def Z:=@KeepsWalks.trans
end Go.KeepsWalks
namespace Go.Calls
def h:=@mono
end Go.Calls
namespace Go.CallsIn
def h:=@mono
end Go.CallsIn
namespace Go.RoundIn
def h:=@mono
end Go.RoundIn
namespace Go.World.ownsMap
def h:=@mono
end Go.World.ownsMap
namespace Go.Value
abbrev U(x:Int):Value:=.int .u64 x
abbrev I(x:Int):Value:=.int .i64 x
abbrev S(p:Option Addr)(n c:Nat):Value:=.slice p n c
abbrev T(g n c:Nat):Value:=.slice (some ⟨g,0,none⟩) n c
end Go.Value
namespace Go.Lit
abbrev U(x:Int):Lit:=.int .u64 x
abbrev I(x:Int):Lit:=.int .i64 x
end Go.Lit
open Go.Value renaming ownBlock->jB,string->jJ,int->jK,bool->jO,agg->jP,I->dI,pointer->dP,S->dS,tuple->dT,U->dU
open Go.World renaming alloc->jA,frozen?->jF,grownBy->jG,heap->Q,setCell->jS,cell?->I
open Int renaming toNat->jN
open List renaming drop->jD,getD->jE,flatten->jL,range->jR,take->jT,length->J
open Option renaming none->dN,some->Y
namespace Go.Proofs.YtpkakgkipopiaaaGreatDoor
set_option maxHeartbeats 4000000
set_option linter.all false
set_option maxRecDepth 100000
abbrev iE:Type:=Exit->Act->World->Prop
abbrev iP:Type:=World->Prop
abbrev iN:Type:=List Nat
abbrev iA:Type:=Array Value
abbrev iQ:Type:=Array Oper
abbrev Bw(w v:World):Prop:=Go.RowKit.Below w.heap.size w v
abbrev aq:Value:=.slice none 0 0
abbrev Rb(v:Value)(w:World):Ending->World->Prop:=λe w'=>e=.returned v/\Bw w w'
abbrev Mg(n:Nat):Prop:=n<=1048576
abbrev Ad(b o:Nat):Addr:=⟨b,o,none⟩
abbrev Aw(w:World)(o:Nat):Addr:=⟨w.heap.size,o,none⟩
abbrev Ax(w:World)(o:Nat):Addr:=⟨w.heap.size+1,o,none⟩
abbrev Pz(b:Nat):Value:=.pointer (some ⟨b,0,none⟩)
theorem br{a b:Prop}(i:a)(j:b):Go.RowKit.Hid (a/\b):=⟨i,j⟩
theorem dy{a b c:Prop}(i:a)(j:b)(k:c):Go.RowKit.Hid (a/\b/\c):=⟨i,j,k⟩
theorem jq{a b c d:Prop}(i:a)(j:b)(k:c)(l:d):Go.RowKit.Hid (a/\b/\c/\d):=⟨i,j,k,l⟩
theorem nF{a b c d e:Prop}(i:a)(j:b)(k:c)(l:d)(m:e):Go.RowKit.Hid (a/\b/\c/\d/\e):=⟨i,j,k,l,m⟩
theorem Sh{a b c d e f:Prop}(i:a)(j:b)(k:c)(l:d)(m:e)(n:f):Go.RowKit.Hid (a/\b/\c/\d/\e/\f):=⟨i,j,k,l,m,n⟩
theorem cI5{a b c d e f g:Prop}(i:a)(j:b)(k:c)(l:d)(m:e)(n:f)(q:g):Go.RowKit.Hid (a/\b/\c/\d/\e/\f/\g):=⟨i,j,k,l,m,n,q⟩
abbrev Ce(w:World)(b o:Nat)(v:Value):Prop:=w.cell? ⟨b,o,none⟩=some v
abbrev OA:Type:=Option Addr
abbrev LI:Type:=List Int
abbrev Cp(f:FuncId)(a:Array Value)(w:World)(R:Ending->World->Prop):Prop:=Calls Tryz.prog f a w R
open Go.RowKit
theorem aD{a b:Prop}(x:a)(y:b):a/\b:=⟨x,y⟩
theorem aH{B:Nat}{w:World}:Below B w w:=Below.refl B w
theorem ah{W w1 i:World}(h:Below W.heap.size W w1)(k:Below w1.heap.size w1 i):Below W.heap.size W i:=h.Z (k.h h.size)
theorem az{n:Nat}:n<=n:=Nat.le_refl n
theorem bN{α:Type}{l:List α}{i:Nat}(h:i<l.length):l[i]?=some l[i]:=List.getElem?_eq_getElem h
theorem bu{α:Type}{i:Nat}{a:α}{l:List α}:l[i]?=some a↔∃h:i<l.length,l[i]=a:=List.getElem?_eq_some_iff
theorem bq{α:Type}{l:List α}{i:Nat}{a:α}(h:l[i]?=some a):a∈l:=List.mem_of_getElem? h
theorem eE6{α:Type}{l:List α}{i j:Nat}(h:i≠j){a:α}:(l.set i a)[j]?=l[j]?:=List.getElem?_set_ne h
theorem fN(w:World)(a:Addr)(u:Value)(k:Nat)(h:k≠a.block):(w.setCell a u).heap[k]?=w.heap[k]?:=RowKit.Below.heap_setCell w a u k h
theorem Hf{i:Exit->Act->World->Prop}{a:Act}{w:World}(h:i Exit.normal a w):NoPanic i Exit.normal a w:=NoPanic.normal h
theorem aF{α:Sort _}(x:α):∃y,y=x:=⟨x,rfl⟩
theorem aZ{α:Sort _}(x:α):∃y,x=y:=⟨x,rfl⟩
theorem zk{c:Prop}{α:Sort _}[Decidable c]{a b:α}(h:¬c:=by decide):(if c then a else b)=b:=if_neg h
theorem fy0{p q:Prop}(h:p)(n:¬p:=by decide):q:=absurd h n
theorem cI4{P:Program}{md:Region.Mode}{ops:iQ}{iZ:Exit->Act->World->Prop}{S:World->Prop}{l:Array Bool}{a:Act}{w:World}{n:Nat}(h:iZ .normal a w)(hr:Region.ready md ops l=[]:=by kernel_rfl):wpAnyH P md ops iZ S n l a w:=wpAnyH_done hr h n
theorem ga{P:Program}{md:Region.Mode}{ops:iQ}{iZ:Exit->Act->World->Prop}{S:World->Prop}{l:Array Bool}{a:Act}{w:World}{n:Nat}(h:iZ .normal a w)(hr:Region.ready md ops l=[]:=by kernel_rfl):wpAnyH P md ops (NoPanic iZ) S n l a w:=wpAnyH_done hr (NoPanic.normal h) n
theorem fK{P:Program}{ops:iQ}{iZ:Exit->Act->World->Prop}{id:Nat}{a:Act}{w:World}(S:World->Prop)(hS:S w.drew)(h:S w.drew->wpAnyH P .any ops (NoPanic iZ) S ops.size (Array.replicate ops.size false) a w.drew)(hm:P.follows .mixedOrders=true:=by kernel_rfl):(Code.region id ops true).wp P iZ a w:=wp_region_noPanic (wp_region_held_drew hm hS h)
theorem ij{w W:World}{o:Obj}(h:W=w.alloc o):Below w.heap.size w W:=by rw[h];exact(Below.refl _ _).alloc (Nat.le_refl _) _
theorem mW{w W:World}(h:W=w.drew):Below w.heap.size w W:=by rw[h];exact(Below.refl _ _).drew
theorem bR(a b:Nat)(h:(a:Int)<(b:Int):=by omega):(a:Int)<(b:Int):=h
theorem nT(a b:Nat)(h:(a:Int)<=(b:Int):=by omega):(a:Int)<=(b:Int):=h
theorem fG(a b:Nat)(h:¬(a:Int)<(b:Int):=by omega):¬(a:Int)<(b:Int):=h
theorem rr(a:Int)(b:Nat)(h:a<(b:Int):=by omega):a<(b:Int):=h
theorem gr(a:Int)(b:Nat)(h:a<=(b:Int):=by omega):a<=(b:Int):=h
theorem iw(a:Nat)(h: -9223372036854775808<=(a:Int)/\(a:Int)<=9223372036854775807:=by omega):IntKind.i64.wrap (a:Int)=(a:Int):=IntWalk.i64_in _ h
theorem By{a b c d:Nat}(h:some (⟨a,b,none⟩:Addr)=some ⟨c,d,none⟩):a=c/\b=d:=by simpa using h
theorem fx9{p:Prop}(h:p:=by(intro a ha;first|(simp at ha;done)|(simp only[List.mem_append,List.mem_cons,List.not_mem_nil,List.nil_append,or_false]at ha⊢;grind))):p:=h
theorem cg{p:Prop}(h:p:=by(simp;omega)):p:=h
theorem kL{p:Prop}(h:p:=by(unfold maxLen;omega)):p:=h
theorem cO{p:Prop}(h:p:=by(show _=_;rfl)):p:=h
theorem ae{p:Prop}(h:p:=by(omega)):p:=h
theorem ai{p:Prop}(h:p:=by(simp)):p:=h
theorem aX{p:Prop}(h:p:=by(decide)):p:=h
theorem aU{p:Prop}(h:p:=by(kernel_rfl)):p:=h
theorem aP{p:Prop}(h:p:=by(rfl)):p:=h
theorem dh{p:Prop}(h:p:=by(simp[intOf];omega)):p:=h
theorem Ff:(∀l:List Value,l.toArray.size=l.length)/\(∀(a:Value)l,(a::l).length=l.length+1)/\(([]:List Value).length=0)/\(∀n(a:Value),Array.replicate (n+1) a=(Array.replicate n a).push a)/\(∀a:Value,Array.replicate 0 a=#[])/\(∀(l:List Value)a,l.toArray.push a=(l++[a]).toArray)/\(∀l k:List Value,l.toArray++k.toArray=(l++k).toArray)/\(∀l:List Value,[]++l=l)/\(∀(a:Value)l k,(a::l)++k=a::(l++k)):=⟨λ_=>by simp,λ_ _=>by simp,by simp,λ_ _=>Array.replicate_succ,λ_=>Array.replicate_zero,λ_ _=>by simp,λ_ _=>by simp,λ_=>by simp,λ_ _ _=>by simp⟩
theorem aM{p q:Prop}(h:p)(k:p->q:=by(intro _;omega)):q:=k h
theorem mg{p q:Option Addr}{a b c d:Nat}(h:Value.slice p a b=Value.slice q c d):p=q/\a=c/\b=d:=by simpa using h
theorem sj{α:Type}{l:List α}{i:Nat}(h:i<l.length):∃y,l[i]?=some y:=⟨_,List.getElem?_eq_getElem h⟩
def aJ:=@if_neg
def aK:=@if_pos
def aR:=@Go.RowKit.Below.refl
def bO:=@Go.bodyPost_ret
def cT:=@Nat.zero_le
def gQ:=@trivial
def eG:=@List.length_append
def fg:=@List.mem_map
def fq:=@Nat.le_refl
def gv:=@List.mem_cons
def ti:=@Go.Value.slice.injEq
def iH:=@List.length_map
def gI:=@Bool.and_eq_true
def jk:=@Prod.mk.injEq
def fx:=@Nat.le_trans
def iR:=@List.getD_eq_getElem?_getD
def tg:=@congrArg
def jg:=@List.mem_append
def ji:=@List.mem_iff_getElem?
def ni:=@List.length_cons
def mR:=@List.map_cons
def lW:=@List.all_eq_true
def lx:=@decide_eq_true_eq
def mj:=@Nat.lt_of_lt_of_le
def nJ:=@Option.some.injEq
def od:=@List.take_of_length_le
def qV:=@List.getElem?_zipWith
def rI:=@List.map_append
def l9:=@Nat.zero_add
def qI:=@List.getElem?_map
def l8:=@Go.IntWalk.i64_in
def qw:=@List.getElem?_append_left
def sE:=@List.take_add_one
def Kg:=@List.take_length
def te:=@List.length_take
def rG:=@List.getElem?_append_right
def rF:=@List.length_set
def nI:=@Go.World.block_lt_of_cell?
def xm:=@Bool.true_and
def vK:=@decide_eq_true_iff
def td:=@List.mem_singleton
def pQ:=@if_true
def ta:=@Option.getD_some
def vJ:=@List.getElem?_set
def uD:=@List.take_zero
def uC:=@List.length_drop
def vI:=@List.length_eq_zero_iff
def pO:=@List.append_assoc
def xK:=@Go.results_none
def vH:=@List.flatten_cons
def Cb:=@decide_eq_false
def vG:=@List.drop_zero
def sC:=@Int.toNat_natCast
def sA:=@List.map_map
def Di:=@Bool.and_eq_false_iff
def BS:=@List.nodup_cons
def kV:=@Go.RowKit.Below.setCell
def uB:=@List.getElem?_toArray
def xl:=@List.mem_range
def yE:=@List.drop_succ_cons
def Ap:=@if_false
def Dg:=@List.getElem?_of_mem
def yD:=@Array.getElem?_modify
def BQ:=@Nat.sub_self
def xk:=@List.length_nil
def Ao:=@List.getElem_mem
def Ek:=@List.nodup_append
def An:=@List.take_succ_cons
def Am:=@Option.bind_some
def Iw:=@decide_eq_false_iff_not
def xj:=@Go.RowKit.ownsRow_setCell_below
def vF:=@List.getElem?_cons_succ
def vE:=@List.getElem?_cons_zero
def Df:=@decide_eq_true
def BO:=@List.pairwise_map
def Ej:=@Go.World.frozen?_setCell
def Al:=@List.cons_append
def De:=@List.append_nil
def Kf:=@List.mem_append_right
def BN:=@Option.some.inj
def Eh:=@Bool.eq_false_iff
def Iv:=@Option.map_some
def Eg:=@List.map_nil
def Ke:=@Array.getElem?_eq_some_iff
def Ef:=@List.nil_append
def FQ:=@List.drop_drop
def FO:=@List.pairwise_iff_getElem
def Iu:=@not_or
def Is:=@List.eq_nil_of_length_eq_zero
def FN:=@List.mem_flatten
def Ir:=@Bool.false_eq_true
def Mm:=@List.drop_eq_getElem_cons
def Kd:=@List.getElem?_drop
def Xp:=@Go.RowKit.Below.heap_alloc
def Ee:=@beq_iff_eq
def Kc:=@List.foldl_cons
def Iq:=@true_and
def Ip:=@Nat.succ_mul
def Kn:=@Nat.add_sub_cancel
def Km:=@List.pairwise_cons
def Mz:=@Nat.lt_trichotomy
def My:=@List.map_congr_left
def Kl:=@Decidable.em
def Mw:=@List.take_append_drop
def Mv:=@List.getElem_of_mem
def Ux:=@List.mem_append_left
def ao4:=@Nat.mul_one
def P8:=@Go.World.cell?_setCell_same
def Uw:=@or_false
def Mu:=@List.findIdx?_eq_some_iff_getElem
def IE:=@Option.map_eq_some_iff
def Ga:=@Int.toNat_of_nonneg
def XL:=@List.set_cons_zero
def Mt:=@Nat.add_zero
def PX:=@List.mem_of_mem_drop
def PT:=@List.mem_of_mem_take
def PR:=@List.getElem?_take
def PQ:=@Bool.eq_iff_iff
def PO:=@Go.World.cell?_setCell_other
def PM:=@Go.IntWalk.wrap64_in
def XK:=@List.ext_getElem?
def PK:=@List.length_take_le
def PJ:=@List.length_eraseIdx
def Kk:=@List.eraseIdx_sublist
def Ms:=@List.mem_of_mem_eraseIdx
def PI:=@Go.RowKit.Below.drew
def Uu:=@List.flatten_append
def Ut:=@List.drop_eq_nil_of_le
def Us:=@Nat.add_assoc
def Ur:=@List.any_eq_true
def Uq:=@Bool.false_or
def PG:=@Bool.or_eq_true
def Up:=@List.not_mem_nil
def Kj:=@List.mem_filter
def Mr:=@List.getElem?_zip_eq_some
def Uo:=@List.set_set
def aW0:=@List.sum_cons
def ao3:=@List.take_succ_eq_append_getElem
def aV9:=@List.set_append_right
def XJ:=@List.all_eq_false
def XI:=@Nat.pow_succ
def XH:=@Nat.mul_comm
def XG:=@Nat.mul_le_mul_right
def Un:=@List.foldl_append
def aV8:=@List.mem_map_of_mem
def XF:=@dif_pos
def XE:=@Nat.xor_lt_two_pow
def XD:=@List.find?_some
def Um:=@List.find?_eq_none
def PF:=@List.mem_or_eq_of_mem_set
def Ul:=@List.length_filter_le
def Uk:=@List.length_zip
def XC:=@of_decide_eq_true
def aV7:=@List.map_set
def ao2:=@Bool.false_and
def ao1:=@decide_false
def XA:=@beq_eq_false_iff_ne
def ao0:=@Array.toList_inj
def aV6:=@Array.getElem?_toList
def an9:=@Nat.le_of_lt
def an8:=@List.nodup_nil
def Xz:=@Go.RowKit.Below.heap_setCell
def an7:=@List.mem_of_find?_eq_some
def aV5:=@List.map_id
def PC:=@List.length_pos_iff
def an6:=@List.filter_append
def an5:=@List.findIdx?_eq_none_iff
def an4:=@Nat.le_succ
def ID:=@Int.eq_ofNat_of_zero_le
def Xy:=@Int.pow_succ
def aV4:=@Nat.add_comm
def aV3:=@List.all_cons
def aV2:=@List.flatten_nil
def aV1:=@List.range_succ
def aV0:=@Nat.div_lt_iff_lt_mul
def aU9:=@Go.Value.bool.injEq
def aU8:=@Bool.not_not
def aU7:=@Bool.not_false
def aU6:=@UInt8.lt_irrefl
def aU5:=@UInt8.not_lt
def dz4:=@Go.Value.int.injEq
def aU4:=@List.getElem?_set_self
def aU3:=@List.nodup_range
def aU2:=@List.getElem_map
def aU1:=@List.zipWith_append
def aU0:=@List.perm_middle
def aT9:=@Int.ofNat_tdiv
def cb6:=@Option.isSome_none
def aT8:=@not_true_eq_false
def aT7:=@List.set_cons_succ
def aT6:=@Nat.min_eq_left
def aT5:=@List.drop_of_length_le
def aT4:=@List.getElem?_eraseIdx
def aT3:=@List.eraseIdx_of_length_le
def an3:=@List.getLast?_eq_getElem?
def cb5:=@Nat.mul_succ
def dz3:=@Array.getElem?_eq_none
def aT2:=@Nat.pow_le_pow_right
def aT1:=@List.prefix_append_right_inj
def cb4:=@Nat.add_sub_cancel_left
def dz2:=@List.getElem?_take_of_lt
def cb3:=@List.pairwise_mergeSort
def cb2:=@Decidable.byContradiction
def cb1:=@List.zipWith_cons_cons
def ca9:=@Classical.byContradiction
def ca8:=@List.mem_eraseIdx_iff_getElem?
def ca7:=@List.eraseIdx_append_of_length_le
def ca6:=@List.length_eq_one_iff
def ca5:=@Array.getD_eq_getD_getElem?
def ca4:=@List.length_pos_of_mem
def ca3:=@Int.ediv_ediv_of_nonneg
def ca2:=@List.setIfInBounds_toArray
def fI:=@Go.AllReadyH.nil
def og:=@Go.info_parts
def nK:=@Go.World.ownsRow_nil
def rJ:=@Go.wpStill_nil
def uW:=@Go.IntKind.wrap_u64
def xL:=@Go.callsIn_of_wp
def IC:=@Go.callsIn_wide
def Dj:=@Go.World.frozen?_of_block
def Iz:=@Go.World.cell?_of_block
def Iy:=@Go.wpAnyH_take
def Ki:=@Go.IntKind.wrap_u8
def Ix:=@Go.Addr.add_lit
def Mq:=@Go.Lit.int.injEq
def Py:=@Go.World.ownsRow.cellAt
def Mp:=@Go.World.ownsRow.lt
def Px:=@Go.World.ownsRow.kept
def Uj:=@Go.wpList_append_own
def Ui:=@Go.Result.ok.injEq
def Mo:=@Go.Oper.upon_enter
def Xx:=@Go.Sem.run_pure
def Xw:=@Go.World.grownBy_alloc
def aT0:=@Go.Oper.semAt_eq
def Xv:=@Go.wp_region_noPanic
def Xu:=@Go.World.cell?_setCell_far
def an2:=@Go.WideAt.sameKey_self
def Xt:=@Go.World.cell?_setCell_same'
def an1:=@Go.RowKit.run_makeMap
def an0:=@Go.WideAt.sameKey_iff
def am9:=@Go.wp_region_held_drew
def am8:=@Go.DataW.trod_bool
def aS9:=@Go.DataW.trod_int
def aS8:=@Go.run_underlying
def aS7:=@Go.World.ownsRow_lit
def aS6:=@Go.Ending.returned.injEq
def aS5:=@Go.Lit.string.injEq
def Mn:=@Go.Sem.run_bind
def aS4:=@Go.run_append_own
def aS3:=@Go.MapKept.heap_alloc
def aS2:=@Go.bits_xor_u64_nat
def El:=@Ne.C
def dz1:=@Go.Addr.mk.injEq
def ca1:=@and_true
def am7:=@Go.grownCap_ge
def am6:=@Go.grownCap_le_maxLen
def am5:=@Go.size_zeroCells
def aS1:=@Array.size_append
def ca0:=@ByteArray.ext
def aS0:=@List.pairwise_append
def dz0:=@ByteArray.data_extract
def dy9:=@List.exists_cons_of_ne_nil
def bZ9:=@List.Sublist.length_le
def tQ:=@Int.le_refl
def FR:=@Go.run_callFunc_extern
def Kh:=@Int.ofNat_nonneg
def Pw:=@Go.World.cell?_alloc_lt
def Uh:=@Int.ofNat_inj
def Ug:=@Go.wpAnyH_ready
def Uf:=@Go.AllReadyH.cons
def Xs:=@Go.RowKit.Below.Z
def Xr:=@Go.wpAnyH_done
def Xq:=@Go.Calls.h
def am4:=@List.cons.injEq
def am3:=@Go.Result.andThen_ok
def am2:=@Go.RowKit.Below.h
def am1:=@Go.World.frozen?_alloc_old
def aR9:=@Int.emod_eq_of_lt
def aR8:=@Array.mem_of_getElem?
def aR7:=@List.contains_iff_mem
def aR6:=@Nat.lt_of_le_of_lt
def bZ8:=@List.filter_eq_nil_iff
def bZ7:=@Array.getElem?_eq_getElem
theorem cK{P:Program}{f:FuncId}{a:Array Value}{w:World}{v:Value}{S:World->Prop}{R:Ending->World->Prop}(h:Calls P f a w λe i=>e=.returned v/\S i)(k:∀i,S i->R (.returned v) i):Calls P f a w R:=h.h λe i q=>q.1▸k i q.2
theorem cI6{P:Nat->Value->Prop}{o m j:Value}{l:List Value}(h:∀i v,(o::m::j::l)[i]?=some v->P i v):P 0 o/\P 1 m/\P 2 j:=⟨h 0 _ rfl,h 1 _ rfl,h 2 _ rfl⟩
theorem eE7{P:Nat->Value->Prop}{q o m j:Value}{l:List Value}(h:∀i v,(q::o::m::j::l)[i]?=some v->P i v):P 0 q/\P 1 o/\P 2 m/\P 3 j:=⟨h 0 _ rfl,h 1 _ rfl,h 2 _ rfl,h 3 _ rfl⟩
theorem bx0{P:Nat->Value->Prop}{r q o m j:Value}{l:List Value}(h:∀i v,(r::q::o::m::j::l)[i]?=some v->P i v):P 0 r/\P 1 q/\P 2 o/\P 3 m/\P 4 j:=⟨h 0 _ rfl,h 1 _ rfl,h 2 _ rfl,h 3 _ rfl,h 4 _ rfl⟩
theorem Bx{P:Nat->Value->Prop}{s r q o m j:Value}{l:List Value}(h:∀i v,(s::r::q::o::m::j::l)[i]?=some v->P i v):P 0 s/\P 1 r/\P 2 q/\P 3 o/\P 4 m/\P 5 j:=⟨h 0 _ rfl,h 1 _ rfl,h 2 _ rfl,h 3 _ rfl,h 4 _ rfl,h 5 _ rfl⟩
theorem Hg{P:Nat->Value->Prop}{u s r q o m j:Value}{l:List Value}(h:∀i v,(u::s::r::q::o::m::j::l)[i]?=some v->P i v):P 0 u/\P 1 s/\P 2 r/\P 3 q/\P 4 o/\P 5 m/\P 6 j:=⟨h 0 _ rfl,h 1 _ rfl,h 2 _ rfl,h 3 _ rfl,h 4 _ rfl,h 5 _ rfl,h 6 _ rfl⟩
theorem Sk{P:Nat->Value->Prop}{x u s r q o m j:Value}{l:List Value}(h:∀i v,(x::u::s::r::q::o::m::j::l)[i]?=some v->P i v):P 0 x/\P 1 u/\P 2 s/\P 3 r/\P 4 q/\P 5 o/\P 6 m/\P 7 j:=⟨h 0 _ rfl,h 1 _ rfl,h 2 _ rfl,h 3 _ rfl,h 4 _ rfl,h 5 _ rfl,h 6 _ rfl,h 7 _ rfl⟩
theorem cI7{P:Nat->Value->Prop}{E D B y x u s r q o M m j:Value}{l:List Value}(h:∀i v,(E::D::B::y::x::u::s::r::q::o::M::m::j::l)[i]?=some v->P i v):P 0 E/\P 1 D/\P 2 B/\P 3 y/\P 4 x/\P 5 u/\P 6 s/\P 7 r/\P 8 q/\P 9 o/\P 10 M/\P 11 m/\P 12 j:=⟨h 0 _ rfl,h 1 _ rfl,h 2 _ rfl,h 3 _ rfl,h 4 _ rfl,h 5 _ rfl,h 6 _ rfl,h 7 _ rfl,h 8 _ rfl,h 9 _ rfl,h 10 _ rfl,h 11 _ rfl,h 12 _ rfl⟩
open Go.RowKit
theorem xa{α:Type}{l:List α}{i:Nat}{a:α}:jI l.toArray i a=(l.set i a).toArray:=List.setIfInBounds_toArray _ _ _
theorem xb{α:Type}{x:α}{xs:List α}{a:α}:(x::xs).set 0 a=a::xs:=List.set_cons_zero
theorem xc{α:Type}{x:α}{xs:List α}{i:Nat}{a:α}:(x::xs).set (i+1) a=x::xs.set i a:=List.set_cons_succ
theorem tk{P:Program}{md:Region.Mode}{ops:iQ}{iZ:iE}{S:iP}(i:Nat){oi:Oper}{v:dV}{fuel:Nat}{listed:Array Bool}{a:Act}{w:G}(hS:S w)(hi:ops[i]?=oi:=by(simp only[List.getElem?_toArray,List.getElem?_cons_succ,List.getElem?_cons_zero];rfl))(hs:Region.noSelect ops:=by kernel_rfl)(hf:Region.free md ops listed i:=by kernel_rfl)(hr:(Region.ready md ops listed).contains i:=by kernel_rfl)(hQ:∀c a w,iZ (.panic c) (a.put oi.dst v) w->iZ (.panic c) a w:=by exactλ_ _ _ h=>h)(hg:jW oi (yielded ops a.tmps):=by rfl)(hy:∀w,S w->(execOp a.eval oi).run P w=.ok (.value v) w:=by(intro w' nR;(try dsimp only at nR);go_simp;try with_reducible rfl))(h:wpAnyH P md ops iZ S fuel (jI listed i dY) (a.put oi.dst v) w):wpAnyH P md ops iZ S (fuel+1) listed a w:=
 wpAnyH_take hi hs hf hr hQ (Or.L ⟨hg,hy⟩) hS h
def Tk(P:Program)(o:Region.Mode)(m:iQ)(q:iE)(S:iP)(j:Array Bool)(i:Nat)(a a':Act):Prop:=∀fuel w,S w->wpAnyH P o m q S fuel (jI j i dY) a' w->wpAnyH P o m q S (fuel+1) j a w
theorem zO{P:Program}{md:Region.Mode}{ops:iQ}{iZ:iE}{S:iP}{i:Nat}{oi:Oper}{v:dV}{listed:Array Bool}{a a':Act}(hi:ops[i]?=oi:=by(simp only[List.getElem?_toArray,List.getElem?_cons_succ,List.getElem?_cons_zero];rfl))(hs:Region.noSelect ops:=by kernel_rfl)(hf:Region.free md ops listed i:=by kernel_rfl)(hr:(Region.ready md ops listed).contains i:=by kernel_rfl)(hQ:∀c a w,iZ (.panic c) (a.put oi.dst v) w->iZ (.panic c) a w:=by exactλ_ _ _ h=>h)(hg:jW oi (yielded ops a.tmps):=by rfl)(hy:∀w,S w->(execOp a.eval oi).run P w=.ok (.value v) w:=by(intro w' nR;(try dsimp only at nR);go_simp;try with_reducible rfl))(ha:a.put oi.dst v=a':=by(simp only[Act.put,xa,xb,xc];rfl)):Tk P md ops iZ S listed i a a':=
 λ_ _ hS h=>wpAnyH_take hi hs hf hr hQ (Or.L ⟨hg,hy⟩) hS (ha▸h)
theorem WE{P:Program}{md:Region.Mode}{ops:iQ}{iZ:iE}{S:iP}{i:Nat}{oi:Oper}{listed:Array Bool}{a a':Act}(hi:ops[i]?=oi:=by(simp only[List.getElem?_toArray,List.getElem?_cons_succ,List.getElem?_cons_zero];rfl))(hs:Region.noSelect ops:=by kernel_rfl)(hf:Region.free md ops listed i:=by kernel_rfl)(hr:(Region.ready md ops listed).contains i:=by kernel_rfl)(hQ:∀c a w,iZ (.panic c) (a.put oi.dst jQ) w->iZ (.panic c) a w:=by exactλ_ _ _ h=>h)(hg:jW oi (yielded ops a.tmps)=dF:=by rfl)(ha:a.put oi.dst jQ=a':=by(simp only[Act.put,xa,xb,xc];rfl)):Tk P md ops iZ S listed i a a':=
 λ_ _ hS h=>wpAnyH_take hi hs hf hr hQ (Or.R ⟨hg,rfl⟩) hS (ha▸h)
theorem tn{P:Program}{md:Region.Mode}{ops:iQ}{iZ:iE}{S:iP}(i:Nat){fuel:Nat}{listed:Array Bool}{a a':Act}{w:G}(hS:S w)(h:wpAnyH P md ops iZ S fuel (jI listed i dY) a' w)(t:Tk P md ops iZ S listed i a a':=by exact zO):wpAnyH P md ops iZ S (fuel+1) listed a w:=t _ _ hS h
theorem sn{P:Program}{md:Region.Mode}{ops:iQ}{iZ:iE}{S:iP}(i:Nat){fuel:Nat}{listed:Array Bool}{a a':Act}{w:G}(hS:S w)(h:wpAnyH P md ops iZ S fuel (jI listed i dY) a' w)(t:Tk P md ops iZ S listed i a a':=by exact WE):wpAnyH P md ops iZ S (fuel+1) listed a w:=t _ _ hS h
theorem gh{P:Program}{md:Region.Mode}{ops:iQ}{iZ:iE}{S:iP}(i0 i1:Nat){fuel:Nat}{listed:Array Bool}{a0 a1 a2:Act}{w:G}(hS:S w)(h:wpAnyH P md ops iZ S fuel (jI (jI listed i0 dY) i1 dY) a2 w)(x0:Tk P md ops iZ S listed i0 a0 a1:=by exact zO)(x1:Tk P md ops iZ S (jI listed i0 dY) i1 a1 a2:=by exact zO):wpAnyH P md ops iZ S (fuel+2) listed a0 w:=x0 _ _ hS (x1 _ _ hS h)
theorem iL{P:Program}{md:Region.Mode}{ops:iQ}{iZ:iE}{S:iP}(i0 i1 i2 i3:Nat){fuel:Nat}{listed:Array Bool}{a0 a1 a2 a3 a4:Act}{w:G}(hS:S w)(h:wpAnyH P md ops iZ S fuel (jI (jI (jI (jI listed i0 dY) i1 dY) i2 dY) i3 dY) a4 w)(x0:Tk P md ops iZ S listed i0 a0 a1:=by exact zO)(x1:Tk P md ops iZ S (jI listed i0 dY) i1 a1 a2:=by exact zO)(x2:Tk P md ops iZ S (jI (jI listed i0 dY) i1 dY) i2 a2 a3:=by exact zO)(x3:Tk P md ops iZ S (jI (jI (jI listed i0 dY) i1 dY) i2 dY) i3 a3 a4:=by exact zO):wpAnyH P md ops iZ S (fuel+4) listed a0 w:=x0 _ _ hS (x1 _ _ hS (x2 _ _ hS (x3 _ _ hS h)))
theorem lT{P:Program}{md:Region.Mode}{ops:iQ}{iZ:iE}{S:iP}(i0 i1 i2 i3:Nat){fuel:Nat}{listed:Array Bool}{a0 a1 a2 a3 a4:Act}{w:G}(hS:S w)(h:wpAnyH P md ops iZ S fuel (jI (jI (jI (jI listed i0 dY) i1 dY) i2 dY) i3 dY) a4 w)(x0:Tk P md ops iZ S listed i0 a0 a1:=by exact WE)(x1:Tk P md ops iZ S (jI listed i0 dY) i1 a1 a2:=by exact WE)(x2:Tk P md ops iZ S (jI (jI listed i0 dY) i1 dY) i2 a2 a3:=by exact WE)(x3:Tk P md ops iZ S (jI (jI (jI listed i0 dY) i1 dY) i2 dY) i3 a3 a4:=by exact WE):wpAnyH P md ops iZ S (fuel+4) listed a0 w:=x0 _ _ hS (x1 _ _ hS (x2 _ _ hS (x3 _ _ hS h)))
theorem jh{P:Program}{md:Region.Mode}{ops:iQ}{iZ:iE}{S:iP}(i0 i1 i2 i3 i4 i5 i6 i7:Nat){fuel:Nat}{listed:Array Bool}{a0 a1 a2 a3 a4 a5 a6 a7 a8:Act}{w:G}(hS:S w)(h:wpAnyH P md ops iZ S fuel (jI (jI (jI (jI (jI (jI (jI (jI listed i0 dY) i1 dY) i2 dY) i3 dY) i4 dY) i5 dY) i6 dY) i7 dY) a8 w)(x0:Tk P md ops iZ S listed i0 a0 a1:=by exact zO)(x1:Tk P md ops iZ S (jI listed i0 dY) i1 a1 a2:=by exact zO)(x2:Tk P md ops iZ S (jI (jI listed i0 dY) i1 dY) i2 a2 a3:=by exact zO)(x3:Tk P md ops iZ S (jI (jI (jI listed i0 dY) i1 dY) i2 dY) i3 a3 a4:=by exact zO)(x4:Tk P md ops iZ S (jI (jI (jI (jI listed i0 dY) i1 dY) i2 dY) i3 dY) i4 a4 a5:=by exact zO)(x5:Tk P md ops iZ S (jI (jI (jI (jI (jI listed i0 dY) i1 dY) i2 dY) i3 dY) i4 dY) i5 a5 a6:=by exact zO)(x6:Tk P md ops iZ S (jI (jI (jI (jI (jI (jI listed i0 dY) i1 dY) i2 dY) i3 dY) i4 dY) i5 dY) i6 a6 a7:=by exact zO)(x7:Tk P md ops iZ S (jI (jI (jI (jI (jI (jI (jI listed i0 dY) i1 dY) i2 dY) i3 dY) i4 dY) i5 dY) i6 dY) i7 a7 a8:=by exact zO):wpAnyH P md ops iZ S (fuel+8) listed a0 w:=x0 _ _ hS (x1 _ _ hS (x2 _ _ hS (x3 _ _ hS (x4 _ _ hS (x5 _ _ hS (x6 _ _ hS (x7 _ _ hS h)))))))
theorem ry{P:Program}{md:Region.Mode}{ops:iQ}{iZ:iE}{S:iP}(rs:iN){fuel:Nat}{listed:Array Bool}{a:Act}{w:G}(h:AllReadyH P md ops iZ S fuel listed a w rs)(hr:Region.ready md ops listed=rs:=by kernel_rfl)(aN:rs≠[]:=by simp):wpAnyH P md ops iZ S (fuel+1) listed a w:=wpAnyH_ready hr aN h
theorem cn{P:Program}{md:Region.Mode}{ops:iQ}{iZ:iE}{S:iP}{fuel:Nat}{listed:Array Bool}{a:Act}{w:G}{i:Nat}{o:Oper}{rs:iN}(h:∀K':Act->G->Prop,Shut (∀a w,S w->(S w->wpAnyH P md ops iZ S fuel (jI listed i dY) a w)->K' a w)->if jW o (yielded ops a.tmps)then Oper.wp P o a w K' iZ else K' (a.put o.dst jQ) w)(hs:AllReadyH P md ops iZ S fuel listed a w rs)(ho:ops[i]?=o:=by(simp only[List.getElem?_toArray,List.getElem?_cons_succ,List.getElem?_cons_zero];rfl)):AllReadyH P md ops iZ S fuel listed a w (i::rs):=AllReadyH.cons ho h hs
theorem CQ{P:Program}{md:Region.Mode}{ops:iQ}{iZ:iE}{S:iP}(rs:iN){fuel:Nat}{listed:Array Bool}{a:Act}{w:G}(h:AllReadyH P md ops iZ S fuel listed a w rs)(hr:Region.ready md ops listed=rs:=by decide +kernel)(aN:rs≠[]:=by simp):wpAnyH P md ops iZ S (fuel+1) listed a w:=wpAnyH_ready hr aN h
structure Tag(n:Nat)(p:Prop):Prop where
 out:p
theorem Tag.go(n:Nat){p:Prop}(h:p):Tag n p:=⟨h⟩
theorem tI{P:Program}{md:Region.Mode}{ops:iQ}{iZ:iE}{S:iP}{fuel:Nat}{listed:Array Bool}{a:Act}{w:G}{i:Nat}{o:Oper}{rs:iN}(h:∀K':Act->G->Prop,Shut (∀a w,S w->(S w->wpAnyH P md ops iZ S fuel (jI listed i dY) a w)->K' a w)->Tag i (if jW o (yielded ops a.tmps)then Oper.wp P o a w K' iZ else K' (a.put o.dst jQ) w))(hs:AllReadyH P md ops iZ S fuel listed a w rs)(ho:ops[i]?=o:=by(simp only[List.getElem?_toArray,List.getElem?_cons_succ,List.getElem?_cons_zero];rfl)):AllReadyH P md ops iZ S fuel listed a w (i::rs):=AllReadyH.cons ho (λK' hK=>(h K' hK).out) hs
theorem uz{P:Program}{md:Region.Mode}{ops:iQ}{iZ:iE}{S:iP}(i:Nat){o:Oper}{fuel:Nat}{listed:Array Bool}{a:Act}{w:G}(h:∀K':Act->G->Prop,Shut (∀a w,S w->(S w->wpAnyH P md ops iZ S fuel (jI listed i dY) a w)->K' a w)->Tag i (if jW o (yielded ops a.tmps)then Oper.wp P o a w K' iZ else K' (a.put o.dst jQ) w))(ho:ops[i]?=o:=by(simp only[List.getElem?_toArray,List.getElem?_cons_succ,List.getElem?_cons_zero];rfl))(hr:Region.ready md ops listed=[i]:=by decide +kernel):wpAnyH P md ops iZ S (fuel+1) listed a w:=CQ [i] (tI h AllReadyH.nil ho) hr
theorem yA{P:Program}{md:Region.Mode}{ops:iQ}{iZ:iE}{S:iP}(i j:Nat){o o':Oper}{fuel:Nat}{listed:Array Bool}{a:Act}{w:G}(h:∀K':Act->G->Prop,Shut (∀a w,S w->(S w->wpAnyH P md ops iZ S fuel (jI listed i dY) a w)->K' a w)->Tag i (if jW o (yielded ops a.tmps)then Oper.wp P o a w K' iZ else K' (a.put o.dst jQ) w))(h':∀K':Act->G->Prop,Shut (∀a w,S w->(S w->wpAnyH P md ops iZ S fuel (jI listed j dY) a w)->K' a w)->Tag j (if jW o' (yielded ops a.tmps)then Oper.wp P o' a w K' iZ else K' (a.put o'.dst jQ) w))(ho:ops[i]?=o:=by(simp only[List.getElem?_toArray,List.getElem?_cons_succ,List.getElem?_cons_zero];rfl))(yL:ops[j]?=o':=by(simp only[List.getElem?_toArray,List.getElem?_cons_succ,List.getElem?_cons_zero];rfl))(hr:Region.ready md ops listed=[i,j]:=by decide +kernel):wpAnyH P md ops iZ S (fuel+1) listed a w:=CQ [i,j] (tI h (tI h' AllReadyH.nil yL) ho) hr
theorem ft{P:Program}{md:Region.Mode}{ops:iQ}{iZ:iE}{S:iP}(i:Nat){fuel:Nat}{listed:Array Bool}{a:Act}{w:G}{o:Oper}(h:∀K':Act->G->Prop,Shut (∀a w,S w->(S w->wpAnyH P md ops iZ S fuel (jI listed i dY) a w)->K' a w)->if jW o (yielded ops a.tmps)then Oper.wp P o a w K' iZ else K' (a.put o.dst jQ) w)(ho:ops[i]?=o:=by(simp only[List.getElem?_toArray,List.getElem?_cons_succ,List.getElem?_cons_zero];rfl))(hr:Region.ready md ops listed=[i]:=by kernel_rfl):wpAnyH P md ops iZ S (fuel+1) listed a w:=ry [i] (cn h AllReadyH.nil ho) hr
theorem bQ{P:Program}{md:Region.Mode}{ops:iQ}{iZ:iE}{S:iP}{fuel:Nat}{listed:Array Bool}{K:Act->G->Prop}{a a':Act}{w:G}(hK:Shut (∀a w,S w->(S w->wpAnyH P md ops iZ S fuel listed a w)->K a w))(hS:S w)(h:S w->wpAnyH P md ops iZ S fuel listed a' w)(ha:a=a':=by((try simp only[Act.put,xa,xb,xc]);rfl)):K a w:=hK.out _ _ hS (ha▸h)
open Go.ChangeShapes Go.WideShapes Go.ChangeAt Go.Deep
variable {p E:Prop}{B k n b c base g C d N j m bytes:Nat}{w w' w1 w2:G}{v v0 v1 v2 v3 v4 z:dV}{row:Option Nat}{vs xs:List dV}{a:Act}{o:Oper}{P:Program}{ops:iQ}{K:Act->G->Prop}{R:Ending->G->Prop}{f:FuncId}{x1 x2 s x:Operand}{sX:Array TypeId}{t e:TypeId}{rest:List Oper}{y:Int}{ps:List MemPlace}{D:DataW Unit}
theorem af(h:p):O p:=h
theorem aa(h:O p):p:=h
abbrev Le{α:Type}(l:List α)(n:Nat):Prop:=O (J l=n)
theorem bL{α:Sort _}(x:α):∃y,O (x=y):=⟨x,rfl⟩
theorem aB6{W w1:G}(i:Bw W w1):(∀b o,b<U (Q W)->I w1 (Ad b o)=I W (Ad b o))/\(∀b o,b<U (Q W)->jF w1 (Ad b o)=jF W (Ad b o)):=
 ⟨λb o h=>i.cell (p:=(Ad b o)) h,λb o h=>i.frozen (p:=(Ad b o)) h⟩
abbrev iU(l:LI):List dV:=l.map (Value.int .u8)
def Rd(w:G)(v:dV)(l:LI):Prop:=
 ∃(p:OA)(j:Nat),v=.S p (J l) j/\(l=[]\/∃b o,p=(Ad b o)/\∀i,i<J l->I w (Ad b (o+i))=Y (jK .u8 (jE l i 0)))
abbrev Own(B:Nat)(w:G)(v:dV)(l:LI):Prop:=w.ownsRow B 5 1 v (J l) (iU l)
abbrev Ow(w:World):World->Value->List Int->Prop:=Own w.heap.size
theorem Rd.nil(w:G):Rd w aq []:=⟨dN,0,rfl,.L rfl⟩
theorem Own.rd{l:LI}(h:Own B w v l):Rd w v l:=by
 obtain⟨rfl,m⟩|⟨g,r,q,rfl,y,x,_,_,_,s⟩:=h.2;{have:l=[]:=Is m;subst this;exact Rd.nil w};{refine⟨_,_,rfl,.R ⟨g,0,rfl,λi j=>?_⟩⟩;have:=Py (w:=w) (base:=B) h i ae;rw[l9,this];simp[List.getD,bN j]}
theorem Rd.H{l:LI}(h:Rd w v l)(q:Bw w w'):Rd w' v l:=by
 obtain⟨p,j,rfl,h⟩:=h;refine⟨p,j,rfl,?_⟩;obtain h|⟨b,o,rfl,hc⟩:=h;{exact .L h};{refine .R ⟨b,o,rfl,λi m=>?_⟩;rw[q.cell (p:=(Ad b (o+i))) (nI w _ (hc i m))];exact hc i m}
theorem Own.H{l:LI}(h:Own B w v l)(i:Bw w w'):Own B w' v l:=
 h.kept (row:=dN) ⟨i.os,i.tape,i.output,i.size,λk j _=>i.block k j⟩ (by cases m:jB v<;>simp)
theorem Own.h{B':Nat}{l:LI}(h:Own B w v l)(o:B'<=B):Own B' w v l:=by
 refine⟨h.1,?_⟩;obtain h|⟨g,j,i,rfl,m,r⟩:=h.2;{exact .L h};{exact .R ⟨g,j,i,rfl,ae,r⟩}
theorem Tryz.infoByte:(Tryz.prog.info? 5).map (λi=>(i.zero,i.size,i.bytes))=Y (Y (jK .u8 0),1,1):=by kernel_rfl
theorem bm3(h:jG w w' dN):Bw w w':=⟨h.os,h.tape,h.output,h.size,λk i=>h.block k i (by simp)⟩
theorem da2{l1 l2:LI}(j:k<J l1)(i:k<J l2)(h:jT k l1=jT k l2)(e:l1[k]?.getD 0=l2[k]?.getD 0):jT (k+1) l1=jT (k+1) l2:=by
 rw[ao3 j,ao3 i,h];simp[bN j,bN i]at e;rw[e]
theorem below_drewN(h:Below B w w'):Below B w (w'.drewN n):=⟨h.os,h.tape,h.output,h.size,h.block⟩
theorem Own.lt{l:LI}(h:Own B w v l):∀b,jB v=Y b->B<=b/\b<U (Q w):=Mp h
theorem Own.set{l:LI}(h:Own B w v l){a:Addr}(i:a.block<B)(u:dV):Own B (w.setCell a u) v l:=xj h i u
theorem aw5:jG w w row:=⟨rfl,rfl,rfl,fq _,λ_ _ _=>rfl⟩
theorem Nn(h:jG w w1 row)(k:jG w1 w2 row):jG w w2 row:=
 ⟨k.os.Z h.os,k.tape.Z h.tape,k.output.Z h.output,fx h.size k.size,λi j m=>(k.block i (mj j h.size) m).Z (h.block i j m)⟩
structure Kept(vs:List dV)(w w':G):Prop where
 os:w'.os=w.os
 tape:w'.tape=w.tape
 output:w'.output=w.output
 size:U (Q w)<=U (Q w')
 block:∀k,k<U (Q w)->(∀v∈vs,jB v≠Y k)->w'.heap[k]?=w.heap[k]?
theorem Kept.refl(vs:List dV)(w:G):Kept vs w w:=⟨rfl,rfl,rfl,fq _,λ_ _ _=>rfl⟩
theorem Kept.Z(h:Kept vs w w1)(k:Kept vs w1 w2):Kept vs w w2:=
 ⟨k.os.Z h.os,k.tape.Z h.tape,k.output.Z h.output,fx h.size k.size,λi j m=>(k.block i (mj j h.size) m).Z (h.block i j m)⟩
theorem Kept.J3(h:Bw w w'):Kept vs w w':=⟨h.os,h.tape,h.output,h.size,λk i _=>h.block k i⟩
theorem Kept.bV8(h:jG w w' (jB v))(i:v∈vs):Kept vs w w':=
 ⟨h.os,h.tape,h.output,h.size,λk j m=>h.block k j (λe=>m v i e.C)⟩
theorem Kept.alloc(h:Kept vs w w')(o:Obj):Kept vs w (jA w' o):=h.Z (Kept.J3 (aH.alloc az _))
theorem Kept.H(h:Kept vs w w')(o:B<=U (Q w))(j:∀v∈vs,∀b,jB v=Y b->B<=b):Below B w w':=
 ⟨h.os,h.tape,h.output,h.size,λk m=>h.block k ae (λv i e=>aM (j v i k e))⟩
theorem Own.aY5{l:LI}(h:Own B w v l)(s:Kept vs w w')(y:∀u∈vs,∀b,jB v=Y b->jB u≠Y b):Own B w' v l:=by
 refine⟨h.1,?_⟩;obtain r|⟨g,m,j,rfl,x,o,i⟩:=h.2;{exact .L r};{refine .R ⟨g,m,j,rfl,x,?_,i⟩;rw[s.block g (Ke.1 o).1 (λu q=>y u q g rfl)];exact o}
theorem aj{o:Nat}(h:I w (Ad b o)=v)(i:Bw w w'):I w' (Ad b o)=v:=
 (i.cell (p:=(Ad b o)) (nI w _ h)).Z h
theorem rY(h:∀o,jF w (Ad b o)=dF)(i:Bw w w')(j:b<U (Q w)):∀o,jF w' (Ad b o)=dF:=
 λo=>(i.frozen (p:=(Ad b o)) j).Z (h o)
theorem Kept.cellAt(h:Kept vs w w')(j:b<U (Q w))(i:∀v∈vs,jB v≠Y b):∀o,I w' (Ad b o)=I w (Ad b o):=
 λo=>Iz (h.block b j i)
def Btw(i j:Nat)(v:dV):Prop:=∀b,jB v=Y b->i<=b/\b<j
theorem Own.btw{l:LI}(h:Own B w v l):Btw B (U (Q w)) v:=h.lt
abbrev BG(w:G)(b:Nat)(v0 v1:dV):Prop:=I w (Ad b 0)=v0/\I w (Ad b 1)=v1
theorem BG.H(h:BG w b v0 v1)(i:Bw w w'):BG w' b v0 v1:=⟨aj h.1 i,aj h.2 i⟩
theorem Own.cap{p:OA}{l:LI}(h:Own B w (.S p n c) l):n<=c:=by
 obtain⟨e,m⟩|⟨g,j,i,e,_,_,hc,_⟩:=h.2;{simp only[ti]at e;omega};{simp only[ti]at e;omega}
theorem Own.NL{p:OA}{l:LI}(h:Own B w (.S p n c) l):c<=maxLen:=by
 obtain⟨e,m⟩|⟨g,j,i,e,_,_,hc,hm,_⟩:=h.2;{simp only[ti]at e;omega};{simp only[ti]at e;omega}
theorem Ic{iZ:iE}(iq:o.guard=dN) (ho:o.op=.call {callee:=.value (.func f),args:=#[x1],argTypes:=sX})(h1:a.eval x1=v1)(kn:∀vs,(callFunc f vs).run P w=.ok (.enter f vs) w)(hc:dQ P f #[v1] w R)(hR:∀e w',R e w'->∃v,e=dR v/\K (a.put o.dst v) w'):if jW o (yielded ops a.tmps)then Oper.wp P o a w K iZ else E:=by
 have hw:jW o (yielded ops a.tmps):=by simp[jW,iq]
 rw[aK hw];have fW:(execOp a.eval o).run P w=.ok (.enter f #[v1]) w:=by subst h1;unfold execOp;simp[go_sem,ho,resolve,invoke,kn]
 show o.upon P a K iZ _;rw[fW,Mo];refine hc.h ?_;intro e w' h;obtain⟨v,rfl,hk⟩:=hR e w' h;exact hk
theorem Tz{iZ:iE}(iq:o.guard=dN) (ho:o.op=.call {callee:=.value (.func f),args:=#[x1,x2],argTypes:=sX})(h1:a.eval x1=v1)(h2:a.eval x2=v2)(kn:∀vs,(callFunc f vs).run P w=.ok (.enter f vs) w)(hc:dQ P f #[v1,v2] w R)(hR:∀e w',R e w'->∃v,e=dR v/\K (a.put o.dst v) w'):if jW o (yielded ops a.tmps)then Oper.wp P o a w K iZ else E:=by
 have hw:jW o (yielded ops a.tmps):=by simp[jW,iq]
 rw[aK hw];have fW:(execOp a.eval o).run P w=.ok (.enter f #[v1,v2]) w:=by subst h1 h2;unfold execOp;simp[go_sem,ho,resolve,invoke,kn]
 show o.upon P a K iZ _;rw[fW,Mo];refine hc.h ?_;intro e w' h;obtain⟨v,rfl,hk⟩:=hR e w' h;exact hk
theorem js{ops:iQ}{iZ:iE}{E:Prop}{sX:Array TypeId}{x1:Operand}(hc:dQ P f #[v1] w R)(hR:∀e w',R e w'->∃v,e=dR v/\K (a.put o.dst v) w')(iq:o.guard=dN:=by rfl)(ho:o.op=.call {callee:=.value (.func f),args:=#[x1],argTypes:=sX}:=by rfl)(h1:a.eval x1=v1:=by rfl)(kn:∀vs,(callFunc f vs).run P w=.ok (.enter f vs) w:=by(intro _;kernel_rfl)):if jW o (yielded ops a.tmps)then Oper.wp P o a w K iZ else E:=Ic iq ho h1 kn hc hR
theorem CK{ops:iQ}{iZ:iE}{E:Prop}{sX:Array TypeId}{x1 x2:Operand}(hc:dQ P f #[v1,v2] w R)(hR:∀e w',R e w'->∃v,e=dR v/\K (a.put o.dst v) w')(iq:o.guard=dN:=by rfl)(ho:o.op=.call {callee:=.value (.func f),args:=#[x1,x2],argTypes:=sX}:=by rfl)(h1:a.eval x1=v1:=by rfl)(h2:a.eval x2=v2:=by rfl)(kn:∀vs,(callFunc f vs).run P w=.ok (.enter f vs) w:=by(intro _;kernel_rfl)):if jW o (yielded ops a.tmps)then Oper.wp P o a w K iZ else E:=Tz iq ho h1 h2 kn hc hR
open Go.Proofs.Tryz
theorem Own.form{l:LI}(h:Own B w v l):∃p c,v=.S p (J l) c:=by
 obtain⟨rfl,i⟩|⟨g,m,j,rfl,_⟩:=h.2;{exact⟨dN,0,by rw[i]⟩};{exact⟨_,_,rfl⟩}
theorem Rd.news{a:Addr}{l:LI}(h:Rd w (.S a (J l) c) l):J (iU l)=J l*1/\(∀j u,(iU l)[j]?=Y u->I w (a.add j)=Y u)/\(∀u∈iU l,u.oneCell'):=by
 refine⟨ai,?_,?_⟩;{
 intro j u i;obtain⟨p,r,e,h⟩:=h;obtain⟨rfl,-,rfl⟩:=mg e;obtain rfl|⟨b,o,e,hc⟩:=h;{simp at i};{
 simp only[nJ]at e;subst e;have m:j<J l:=by have:=(bu.1 i).1;simpa using this
 have:=hc j m;rw[Ix,this];simp[List.getD,bN m]at i⊢;exact i}};{intro u q;obtain⟨x,_,rfl⟩:=fg.1 q;rfl}
theorem Rd.Xm{l:LI}(h:Rd w (.S dN (J l) c) l):l=[]:=by
 obtain⟨p,i,e,h⟩:=h;obtain⟨rfl,-,rfl⟩:=mg e;obtain rfl|⟨b,o,e,hc⟩:=h;{rfl};{cases e}
theorem W8(ty:TypeId)(i:TypeInfo){size:Nat}(j:P.underlying t=Y (.slice e))(m:P.info? e=i)(c:Nat)(q:w.ownsRow base e size v n xs):(Builtin.append_ #[t,t] ty #[v,.S dN 0 c]).run P w=.ok v w:=by
 obtain⟨rfl,rfl⟩|⟨g,s,r,rfl,_,_,o,_⟩:=q.2;{simp[Builtin.append_,aS8 j,sizeOf,typeInfo,m,Builtin.lenOf,Builtin.firstCells]};{simp[Builtin.append_,aS8 j,sizeOf,typeInfo,m,Builtin.lenOf,Builtin.firstCells,o,storeCells]}
theorem aY4{p:OA}{l:LI}(h:Rd w (.S p (J l) c) l)(hl:J l<=2^21):dQ dG 66 #[.S p (J l) c] w λe w'=>∃j m,e=dR (.S j (J l) m)/\Own (U (Q w)) w' (.S j (J l) m) l/\Bw w w':=by
 let⟨i,q,B,N,M⟩:=og Tryz.infoByte;cases p with
 |none=>
  obtain rfl:=h.Xm;have V:=λw:G=>W8 (P:=dG) 22 i underlying22 q c (nK w 0 5 1);go_in;go_wp2;go_ret;exact⟨dN,0,rfl,nK _ _ _ _,aR _ _⟩
 |some a=>
  let⟨y,x,u⟩:=h.news;go_in;go_wp2_with(at_builtin;refine Uj _ rfl _ _ 22 rfl (U (Q w)) 5 i (jK .u8 0) 1 1 underlying22 q B N M rfl aX _ _ _ rfl (nK _ _ _ _) a _ c (iU l) rfl y x u kL ae az ?_);intro s r R D _;have o:Ow w r s l:=by simpa using R
  obtain⟨j,m,rfl⟩:=o.form;have E:=bm3 D;go_wp2;go_ret;exact⟨j,m,rfl,o,E⟩
theorem aH7{iZ:iE}(iq:o.guard=dN) (ho:o.op=.call {callee:=.builtin .append,args:=#[s,x],argTypes:=#[22,22]}){l m lm:LI}(lK:O (lm=l++m)){p:OA}(hs:a.eval s=v)(hx:a.eval x=.S p (J m) c)(du:Own B w v l)(hr:Rd w (.S p (J m) c) m)(hl:J l+J m<=2^22)(hB:B<=U (Q w))(hK:∀p' c' w',Own B w' (.S p' (J lm) c') lm->jG w w' (jB v)->wpList dG ops iZ rest (a.put o.dst (.S p' (J lm) c')) w'):wpList dG ops iZ (o::rest) a w:=by
 let⟨i,hi,ki,fy,gJ⟩:=og Tryz.infoByte;obtain rfl:=aa lK;cases p with
 |none=>
  obtain rfl:=hr.Xm;obtain⟨pv,cv,rfl⟩:=du.form;have EF:=W8 (P:=dG) o.type i underlying22 hi c du;refine Lib.wpList_append_run w iq s x 22 22 ho _ _ hs hx _ _ EF ?_;have:=hK pv cv w (by simpa using du) ⟨rfl,rfl,rfl,fq _,λ_ _ _=>rfl⟩;simpa using this
 |some ad=>
  let⟨n1,n2,n3⟩:=hr.news;refine Uj w iq s x 22 ho B 5 i (jK .u8 0) 1 1 underlying22 hi ki fy gJ rfl aX v _ _ hs du ad _ c (iU m) hx n1 n2 n3 kL ae hB ?_;intro v' w' h1 h2 _;have km:Own B w' v' (l++m):=by unfold Own;rw[eG,iU,rI];exact h1
  obtain⟨p',c',rfl⟩:=km.form;exact hK p' c' w' km h2
theorem eb9(E:n<=2^22):dQ dG 192 #[aq,.I n] w λe w'=>∃j o,e=dR (.S j 0 o)/\Own (U (Q w)) w' (.S j 0 o) []/\Bw w w':=by
 let⟨i,y,s,M,B⟩:=og Tryz.infoByte;by_cases h:n=0;{subst h;go_in;go_wp2;go_ret;exact⟨dN,0,rfl,nK _ _ _ _,aR _ _⟩};{
 have D:=rr 0 n;have x:=Lib.run_append_nil_zeros (P:=dG) w 22 3 22 5 i (jK .u8 0) jV jV underlying22 underlying3 y s n ae ae ae (by rw[B];omega);have q:=af x;have r:=am7 w n 0 5;have m:=am6 w n 0 5 kL;generalize grownCap w n 0 5=cc at q r m;go_in;go_wp2_with(at_builtin;refine Lib.wpList_append_run _ rfl _ _ _ _ rfl _ _ rfl rfl _ _ (by exact q) ?_);unfold maxLen at m;go_wp2;go_ret;have u:(Builtin.zeroCells #[Value.int IntKind.u8 0] n++Builtin.zeroCells #[Value.int IntKind.u8 0] (cc-n)).size=cc*1:=by rw[aS1,am5,am5];simp;omega
 exact⟨_,cc,rfl,World.ownsRow_made (base:=U (Q w)) (e:=5) (size:=1) w _ cc az kL u,(aH.alloc az _).drew⟩}
def wF(w:G)(g:Nat)(vs:List dV)(ls:List LI):Prop:=
 J vs=J ls/\∀j v l,vs[j]?=Y v->ls[j]?=Y l->I w (Ad g j)=Y v/\Rd w v l
theorem wF.H{ls:List LI}(h:wF w g vs ls)(i:Bw w w'):wF w' g vs ls:=
 ⟨h.1,λj v l o m=>⟨aj (h.2 j v l o m).1 i,(h.2 j v l o m).2.H i⟩⟩
theorem wF.get{ls:List LI}(h:wF w g vs ls)(j:Nat)(i:j<J ls):∃(p:OA)(c:Nat)(l:LI),ls[j]?=l/\I w (Ad g j)=dS p (J l) c/\Rd w (.S p (J l) c) l:=by
 have o:j<J vs:=h.1▸i;let⟨q,m⟩:=h.2 j vs[j] ls[j] (bN o) (bN i);let⟨p,c,e,r⟩:=id m;exact⟨p,c,ls[j],bN i,by rw[q,e],by rw[e]at m;exact m⟩
def cat(ls:List LI):LI:=jL ls
theorem VA:cat []=[]:=rfl
theorem aA6(l:LI):cat [l]=l:=by simp[cat]
theorem bt3(l m:LI):cat [l,m]=l++m:=by simp[cat]
theorem cv5{ls:List LI}{l:LI}(h:ls[k]?=l):cat (jT (k+1) ls)=cat (jT k ls)++l:=by
 let⟨i,e⟩:=bu.1 h;unfold cat;rw[ao3 i,Uu,e];simp only[vH,aV2,De]
theorem ax0(ls:List LI)(k:Nat):J (cat (jT k ls))<=J (cat ls):=by
 have e:cat ls=cat (jT k ls)++cat (jD k ls):=by unfold cat;rw[<-Uu,Mw]
 rw[e,eG];omega
theorem cE1{ls:List LI}(h:wF w g vs ls)(hl:J (cat ls)<=2^22)(W:J ls<=1000):dQ dG 138 #[.T g (J ls) C] w λe w'=>∃o q,e=dR (.S o (J (cat ls)) q)/\Own (U w.heap) w' (.S o (J (cat ls)) q) (cat ls)/\Bw w w':=by
 let⟨i,X,ki,fy,gJ⟩:=og Tryz.infoByte;go_in;go_wp2
 go_loopw[3,11](λs i wr=>∃k:Nat,k<=J ls/\i=.I k/\s=.I (J (cat (jT k ls)):Nat)/\Bw w wr) (λ_ i _=>J ls-(jN (intOf i)))
 exact⟨0,cT _,rfl,by simp[cat],aR _ _⟩;{
 obtain⟨k,iV,rfl,rfl,j⟩:=hrel;have QH:=ax0 ls k;by_cases E:k<J ls;{
 let⟨p,c,l,D,e2,B⟩:=(h.H j).get k E;have r:=cv5 D;have Yu:J (cat (jT k ls))+J l=J (cat (jT (k+1) ls)):=by rw[r];simp
 have YI:=ax0 ls (k+1);have y:J (cat (jT k ls))+J l<=2^22:=ae;have HL:=af Yu;generalize J (cat (jT k ls))=a at*;go_wp2;go_roundw;exact⟨k+1,ae,by go_num,by rw[<-aa HL];go_num,j⟩;exact dh};{
 obtain rfl:k=J ls:=ae;rw[Kg];rw[Kg]at QH
 go_wp21
 refine(eb9 hl).h ?_;rintro e w1⟨R,c1,rfl,x,ao⟩;replace x:Own (U w.heap) w1 (.S R 0 c1) []:=x.h j.size;have b1:=ah j ao;go_wp2
 go_loopw[6,27](λv i wr=>∃k:Nat,k<=J ls/\i=.I k/\(∃p c,v=.S p (J (cat (jT k ls))) c/\Own (U w.heap) wr v (cat (jT k ls)))/\Bw w wr) (λ_ i _=>J ls-(jN (intOf i)))
 exact⟨0,cT _,rfl,⟨R,c1,by simp[cat],by simpa[cat]using x⟩,b1⟩;{
 obtain⟨k,iV,rfl,⟨N,Z,rfl,m⟩,j⟩:=hrel;have QH:=ax0 ls k;by_cases E:k<J ls;{
 let⟨p,c,l,D,e2,B⟩:=(h.H j).get k E;have r:=cv5 D;have YI:=ax0 ls (k+1);have y:J (cat (jT k ls))+J l<=2^22:=by have:=tg List.length r;simp only[eG]at this;omega
 have u:=af r;generalize(cat (jT k ls))=a at*;cases p with
 |none=>
  obtain rfl:=B.Xm;have HA:=af (W8 (P:=dG) 22 i underlying22 X c m);go_wp2_with(at_builtin;refine Lib.wpList_append_run _ rfl _ _ _ _ rfl _ _ rfl rfl _ _ (by exact HA) ?_);go_roundw;exact⟨k+1,ae,by go_num,⟨N,Z,by rw[aa u];simp,by rw[aa u];simpa using m⟩,j⟩;exact dh
 |some ad=>
  let⟨n1,n2,n3⟩:=B.news;go_wp2_with(at_builtin;refine Uj _ rfl _ _ 22 rfl (U w.heap) 5 i (jK .u8 0) 1 1 underlying22 X ki fy gJ rfl aX _ _ _ rfl m ad _ c (iU l) rfl n1 n2 n3 kL ae j.size ?_);intro v' M du hg _;have b2:Bw w M:=j.grown hg j.size (λk W=>(m.lt k W).1);have V:Own (U w.heap) M v' (a++l):=by unfold Own;rw[eG,iU,rI];exact du
  obtain⟨o,q,rfl⟩:=V.form;go_wp2;go_roundw;exact⟨k+1,ae,by go_num,⟨o,q,by rw[aa u],by rw[aa u];exact V⟩,b2⟩;exact dh};{obtain rfl:k=J ls:=ae;rw[Kg]at m;go_wp2;go_ret;exact⟨N,Z,by rw[Kg];rfl,m,j⟩}}}}
theorem bt0{ls:List LI}(h:wF w g vs ls)(hl:J (cat ls)<=2^22)(m:J ls<=1000):Cp 138 #[.T g (J ls) (J ls)] w λe w'=>∃i j,e=dR (.S i (J (cat ls)) j)/\Own (U (Q w)) w' (.S i (J (cat ls)) j) (cat ls)/\Bw w w':=cE1 (C:=J ls) h hl ae
theorem ev5{p:OA}{l:LI}(hc:I w (Ad g 0)=dS p (J l) c)(h:Rd w (.S p (J l) c) l)(hl:J l<=2^21):Cp 138 #[.T g 1 1] w λe w'=>∃q r,e=dR (.S q (J l) r)/\Own (U (Q w)) w' (.S q (J l) r) l/\Bw w w':=by
 have s:wF w g [.S p (J l) c] [l]:=by
  refine⟨rfl,λj v m o i=>?_⟩
  match j,o,i with
  |0,o,i=>simp at o i;subst o i;exact⟨hc,h⟩
 have:=bt0 s (by rw[aA6];omega) ai;rw[aA6]at this;exact this
theorem ev4{p q:OA}{l m lm:LI}(u:O (lm=l++m))(hc:I w (Ad g 0)=dS p (J l) c)(hd:I w (Ad g 1)=dS q (J m) d)(h:Rd w (.S p (J l) c) l)(k:Rd w (.S q (J m) d) m)(hl:J l+J m<=2^22):Cp 138 #[.T g 2 2] w λe w'=>∃r s,e=dR (.S r (J lm) s)/\Own (U (Q w)) w' (.S r (J lm) s) lm/\Bw w w':=by
 have y:wF w g [.S p (J l) c,.S q (J m) d] [l,m]:=by
  refine⟨rfl,λj v x o i=>?_⟩
  match j,o,i with
  |0,o,i=>simp at o i;subst o i;exact⟨hc,h⟩
  |1,o,i=>simp at o i;subst o i;exact⟨hd,k⟩
 have:=bt0 y (by rw[bt3,eG];omega) ai;rw[bt3,<-aa u]at this;exact this
theorem CD{iZ:iE}(iq:o.guard=dN) (ho:o.op=.call {callee:=.builtin .append,args:=#[s,x],argTypes:=#[22,22]})(v:dV){l m lm:LI}(lK:O (lm=l++m))(p:OA)(c k:Nat)(hk:Le m k)(hs:a.eval s=v)(hx:a.eval x=.S p k c)(du:Own B w v l)(hr:Rd w (.S p k c) m)(hl:J l+J m<=2^22)(hB:B<=U (Q w))(hK:∀p' c' w',Own B w' (.S p' (J lm) c') lm->jG w w' (jB v)->wpList dG ops iZ rest (a.put o.dst (.S p' (J lm) c')) w'):wpList dG ops iZ (o::rest) a w:=by
 obtain rfl:=aa hk;exact aH7 iq ho lK hs hx du hr hl hB hK
theorem dc1{iZ:iE}(iq:o.guard=dN)(f:FuncId)(x1 x2 x3:Operand)(sX:Array TypeId)(ho:o.op=.call {callee:=.value (.func f),args:=#[x1,x2,x3],argTypes:=sX})(v1 v2 v3:dV)(h1:a.eval x1=v1)(h2:a.eval x2=v2)(h3:a.eval x3=v3)(kn:∀vs,(callFunc f vs).run P w=.ok (.enter f vs) w)(hc:dQ P f #[v1,v2,v3] w R)(hR:∀e w',R e w'->∃v,e=dR v/\K (a.put o.dst v) w'):if jW o (yielded ops a.tmps)then Oper.wp P o a w K iZ else E:=by
 have hw:jW o (yielded ops a.tmps):=by simp[jW,iq]
 rw[aK hw];have fW:(execOp a.eval o).run P w=.ok (.enter f #[v1,v2,v3]) w:=by subst h1 h2 h3;unfold execOp;simp[go_sem,ho,resolve,invoke,kn]
 show o.upon P a K iZ _;rw[fW,Mo];refine hc.h ?_;intro e w' h;obtain⟨v,rfl,hk⟩:=hR e w' h;exact hk
theorem Own.one(w:G)(y:Int):Own (U (Q w)) (jA w (dO #[jK .u8 y] 5)) (.T (U (Q w)) 1 1) [y]:=
 aS7 w #[jK .u8 y] 1 az kL rfl
theorem Bp{a:G}{l:LI}(h:Below B a w)(j:jG w w' (jB v))(i:Own C w v l)(o:B<=C)(m:B<=U (Q w)):Below B a w':=
 h.grown j m (λk e=>aM (i.lt k e).1)
theorem OQ{iZ:iE}(iq:o.guard=dN) (ho:o.op=.call {callee:=.builtin .append,args:=#[s,x],argTypes:=#[22,22]})(v:dV){l lm:LI}(lK:O (lm=l++[y]))(g:Nat)(hs:a.eval s=v)(hx:a.eval x=.T g 1 1)(du:Own B w v l)(hc:I w (Ad g 0)=Y (jK .u8 y))(hl:J l<2^22)(hB:B<=U (Q w))(h:∀p' c' w',Own B w' (.S p' (J lm) c') lm->jG w w' (jB v)->wpList dG ops iZ rest (a.put o.dst (.S p' (J lm) c')) w'):wpList dG ops iZ (o::rest) a w:=by
 have hr:Rd w (.T g 1 1) [y]:=by
  refine⟨_,_,rfl,.R ⟨g,0,rfl,λi hi=>?_⟩⟩;obtain rfl:i=0:=by simpa using hi
  simpa using hc
 exact aH7 iq ho lK hs hx du hr cg hB h
abbrev qF(k s:Int)(P:dV)(f:Int)(V:dV)(e g:Int):dV:=jP #[.I k,.U s,P,.I f,V,.U e,.U g]
abbrev lr(w:G)(b:Nat)(v0 v1 v2 v3 v4 v5 v6:dV):Prop:=I w (Ad b 0)=v0/\I w (Ad b 1)=v1/\I w (Ad b 2)=v2/\I w (Ad b 3)=v3/\I w (Ad b 4)=v4/\I w (Ad b 5)=v5/\I w (Ad b 6)=v6
theorem lr.H{v5 v6:dV}(h:lr w b v0 v1 v2 v3 v4 v5 v6)(i:Bw w w'):lr w' b v0 v1 v2 v3 v4 v5 v6:=
 ⟨aj h.1 i,aj h.2.1 i,aj h.2.2.1 i,aj h.2.2.2.1 i,aj h.2.2.2.2.1 i,aj h.2.2.2.2.2.1 i,aj h.2.2.2.2.2.2 i⟩
theorem DD(h:∀o,jF w (Ad b o)=dF)(hl:b<U (Q w))(i:Bw w w'):∀o,jF w' (Ad b o)=dF:=λo=>(i.frozen (p:=(Ad b o)) hl).Z (h o)
def aA(l:LI):Prop:=∀z∈l,0<=z/\z<256
def gO{α:Type}[DecidableEq α](c:α):List α->List (List α)
 |[]=>[[]]
 |x::l=>if x=c then[]::gO c l else(match gO c l with|[]=>[[x]]|n::ns=>(x::n)::ns)
theorem cD3{α:Type}[DecidableEq α]{c:α}{s:List α}(h:c∉s):gO c s=[s]:=by
 induction s with
 |nil=>rfl
 |cons x l ih=>
  have i:¬x=c:=λe=>h (by simp[e]);rw[gO,aJ i,ih (λj=>h (by simp[j]))]
theorem cD4{α:Type}[DecidableEq α]{c:α}{s t:List α}(h:c∉s):gO c (s++c::t)=s::gO c t:=by
 induction s with
 |nil=>simp[gO]
 |cons x l ih=>
  have i:¬x=c:=λe=>h (by simp[e]);rw[Al,gO,aJ i,ih (λj=>h (by simp[j]))]
theorem et6{α:Type}[DecidableEq α]{c x:α}(t:List α)(m:¬x=c)(s:List α)(h:c∉s):∃n i,gO c (s++x::t)=(s++x::n)::i:=by
 induction s with
 |nil=>
  rw[Ef,gO,aJ m];cases gO c t with
  |nil=>exact⟨[],[],rfl⟩
  |cons n i=>exact⟨n,i,rfl⟩
 |cons y l ih=>
  have j:¬y=c:=λe=>h (by simp[e]);let⟨n,i,e⟩:=ih (λq=>h (by simp[q]));exact⟨n,i,by rw[Al,gO,aJ j,e];rfl⟩
theorem et3{α:Type}[DecidableEq α](c:α){s:List α}:1<=J (gO c s):=by
 cases s with
 |nil=>simp[gO]
 |cons x l=>
  rw[gO];split;{simp};{split<;>simp}
theorem et4{α β:Type}[DecidableEq α][DecidableEq β](f:α->β)(c:α)(s:List α)(h:∀x∈s,f x=f c->x=c):gO (f c) (s.map f)=(gO c s).map (List.map f):=by
 induction s with
 |nil=>rfl
 |cons x l j=>
  have j:=j λy m=>h y (by simp[m]);rw[mR,gO,gO,j];by_cases i:x=c;{rw[aK (by rw[i]),aK i];rfl};{rw[aJ (λe=>i (h x ai e)),aJ i];cases gO c l<;>rfl}
variable {c:UInt8}
theorem dI1{s:List UInt8}(h:c∉s):Lib.indexByte s c=-1:=by
 induction s with
 |nil=>rfl
 |cons x l ih=>
  have i:¬x=c:=λe=>h (by simp[e]);unfold Lib.indexByte;rw[ih (λj=>h (by simp[j]))];simp[i]
theorem dI2{s t:List UInt8}(h:c∉s):Lib.indexByte (s++c::t) c=J s:=by
 induction s with
 |nil=>simp[Lib.indexByte]
 |cons x l ih=>
  have i:¬x=c:=λe=>h (by simp[e]);have e:=ih (λm=>h (by simp[m]));rw[Al];unfold Lib.indexByte;rw[e];have j:¬((J l:Int)==-1):=ai;rw[aJ (by simpa using i),aJ j];simp
theorem dd4(c:UInt8):∀(n:Nat)(s:List UInt8),J s<n->Lib.splitK [c] 0 (Lib.count s [c]) s=gO c s/\Lib.count s [c]+1=J (gO c s):=by
 intro n
 induction n with
 |zero=>intro s h;omega
 |succ n ih=>
  intro s h;by_cases hc:c∈s;{
 obtain⟨i,t,rfl,m⟩:=List.eq_append_cons_of_mem hc;have j:Lib.index (i++c::t) [c]=(J i:Nat):=by rw[Lib.index_one,dI2 m]
 have o:jD (J i+1) (i++c::t)=t:=by rw[List.drop_append];simp
 let⟨q,r⟩:=ih t (by simp at h;omega);rw[Lib.count_hit ai j,cD4 m];simp only[ni,xk,l9,o];constructor;{rw[aV4 1,Lib.splitK,aJ (by rw[j];simp),j];simp only[sC,ni,xk,l9,Mt,o,q];simp};{omega}};{
 have j:Lib.index s [c]=-1:=by rw[Lib.index_one,dI1 hc]
 rw[Lib.count_miss j,cD3 hc];exact⟨rfl,rfl⟩}
def mi(c:Int):Bool:=(dD (97<=c)&&dD (c<=122))||(dD (48<=c)&&dD (c<=57))||c==45||c==95
def pM(l:LI):Bool:=dD (1<=J l)&&dD (J l<=16)&&l.all mi
def st(k:Nat):LI->Bool
 |[]=>dD (1<=k)&&dD (k<=8)
 |c::t=>c==47&&(dD (k+J (gO 47 t)<=8)&&(gO 47 t).all pM)
def vp(p:LI):Bool:=st 0 p
variable {c:Int}
theorem bX8(h:mi c):¬c=47:=by
 intro e;subst e
 revert h
 decide
theorem aQ6{l:LI}(h:∀x∈l,mi x):(47:Int)∉l:=λhm=>bX8 (h _ hm) rfl
theorem dc7{i:LI}(h:∀x∈i,mi x):st k (47::i)=(pM i&&st (k+1) []):=by
 rw[st,st,cD3 (aQ6 h)];by_cases j:k+1<=8;{simp[j]};{simp[j]}
theorem dc6{i t:LI}(h:∀x∈i,mi x):st k (47::(i++47::t))=(pM i&&st (k+1) (47::t)):=by
 rw[st,st,cD4 (aQ6 h)];have e:k+J (i::gO 47 t)=k+1+J (gO 47 t):=by simp;omega
 rw[e];rw[aV3];cases pM i<;>cases dD (k+1+J (gO 47 t)<=8)<;>cases(gO 47 t).all pM<;>rfl
theorem dc8{i t:LI}(h:∀x∈i,mi x)(hc:¬c=47)(j:mi c=dF):st k (47::(i++c::t))=dF:=by
 let⟨n,o,e⟩:=et6 t hc i (aQ6 h);rw[st,e];have m:pM (i++c::n)=dF:=by rw[pM,List.all_append,aV3,j];simp
 rw[aV3,m];simp
theorem bM8{t:LI}(hc:¬c=47):st k (c::t)=dF:=by
 rw[st];simp[hc]
theorem cF7:∀{a b:LI},aA a->aA b->Lib.bytesOf a=Lib.bytesOf b->a=b
 |[],[],_,_,_=>rfl
 |[],y::b,_,_,h=>by simp[Lib.bytesOf]at h
 |x::a,[],_,_,h=>by simp[Lib.bytesOf]at h
 |x::a,y::b,ha,hb,h=>by
  simp only[Lib.bytesOf,mR,am4]at h;have m:=ha x ai;have j:=hb y ai;have e:x=y:=by have:=tg UInt8.toNat h.1;simp at this;omega
  rw[e,cF7 (λz i=>ha z (by simp[i])) (λz i=>hb z (by simp[i])) h.2]
theorem bN2{t:LI}(o:aA t):Lib.splitK (Lib.bytesOf [47]) 0 (Lib.count (Lib.bytesOf t) (Lib.bytesOf [47])) (Lib.bytesOf t)=(gO 47 t).map Lib.bytesOf/\Lib.count (Lib.bytesOf t) (Lib.bytesOf [47])+1=J (gO 47 t):=by
 have i:Lib.bytesOf [47]=[UInt8.ofNat (jN (47:Int))]:=rfl;let⟨r,q⟩:=dd4 (UInt8.ofNat (jN (47:Int))) _ (Lib.bytesOf t) (Nat.lt_succ_self _);have j:gO (UInt8.ofNat (jN (47:Int))) (Lib.bytesOf t)=(gO 47 t).map Lib.bytesOf:=by refine et4 (λn:Int=>UInt8.ofNat (jN n)) 47 t λx m e=>?_;have s:=o x m;have:=tg UInt8.toNat e;simp at this;omega
 rw[i,r,j];refine⟨rfl,?_⟩;rw[q,j,iH]
theorem et2{t:LI}(r:aA t):∀n∈gO 47 t,aA n:=by
 induction t with
 |nil=>intro n i;simp[gO]at i;subst i;intro z j;simp at j
 |cons x l q=>
  have q:=q λz j=>r z (by simp[j]);intro n i;rw[gO]at i;split at i;{obtain rfl|i:=gv.1 i;{intro z j;simp at j};{exact q n i}};{
 cases hc:gO 47 l with
 |nil=>
  rw[hc]at i;simp at i;subst i;intro z j;simp at j;subst j;exact r _ ai
 |cons m ms=>
  rw[hc]at i q;obtain rfl|i:=gv.1 i;{intro z j;obtain rfl|j:=gv.1 j;{exact r _ ai};{exact q m ai z j}};{exact q n (by simp[i])}}
def rA:Nat->Nat->LI
 |0,n=>[(n:Int)]
 |f+1,n=>if n<128 then[(n:Int)]else((n % 128+128:Nat):Int)::rA f (n / 128)
def vi(n:Nat):LI:=rA 9 n
variable {f:Nat}
theorem JT(h:n<128):rA f n=[(n:Int)]:=by
 cases f with
 |zero=>rfl
 |succ f=>rw[rA,aK h]
theorem aI1(h:¬n<128):rA (f+1) n=((n % 128+128:Nat):Int)::rA f (n / 128):=by rw[rA,aJ h]
theorem bJ4(f:Nat):∀n,1<=J (rA f n)/\J (rA f n)<=f+1:=by
 induction f with
 |zero=>intro n;simp[rA]
 |succ f ih=>
  intro n;rw[rA];split;{simp};{have:=ih (n / 128);simp;omega}
theorem cY3(f:Nat):∀n,n<128 ^ (f+1)->aA (rA f n):=by
 induction f with
 |zero=>intro n j z i;simp[rA]at i;subst i;simp at j;omega
 |succ f ih=>
  intro n j;rw[rA];split;{intro z i;simp at i;subst i;omega};{intro z i;obtain rfl|i:=gv.1 i;{omega};{exact ih (n / 128) (by rw[aV0 ae];rw[XI]at j;exact j) z i}}
theorem BH(h:n<2^64):aA (vi n):=cY3 9 n (by omega)
theorem qm(n:Nat):1<=J (vi n)/\J (vi n)<=10:=bJ4 9 n
theorem aA.app{l m:LI}(h:aA l)(k:aA m):aA (l++m):=λz i=>by
 obtain i|i:=jg.1 i;{exact h z i};{exact k z i}
theorem du1:((jR 256).all λy=>bits .or .u8 (y:Int) 128==((y % 128+128:Nat):Int)):=by decide +kernel
theorem du2{x:Nat}:bits .or .u8 ((x:Int) % 256) 128=((x % 128+128:Nat):Int):=by
 have h:=lW.1 du1 (x % 256) (xl.2 (Nat.mod_lt _ ae));have i:=Ee.1 h;rw[show((x:Int) % 256)=((x % 256:Nat):Int) by omega,i];congr 1;omega
theorem aX8(f:Nat):∀(v:Nat)(w:G),v<128 ^ (f+1)->v<2^64->f<=9->∀(N:Nat),O (J (rA f v)=N)→
  dQ dG 74 #[.U v] w λe w'=>∃p' c',e=dR (.S p' N c')/\Own (U (Q w)) w' (.S p' N c') (rA f v)/\Bw w w':=by
 induction f with
 |zero=>
  intro v w r GH hf N i;have h:v<128:=by simpa using r
  obtain rfl:N=1:=by rw[<-aa i];rfl
  have h':(v:Int)<128:=ae;have wv:IntKind.u8.wrap (v:Int)=(v:Int):=by rw[Ki];omega
  go_in;go_wp2;go_ret;exact⟨_,_,rfl,(by have:=Own.one w (v:Int);exact this),aH.alloc az _⟩
 |succ f ih=>
  intro v w r GH hf N i;by_cases h:v<128;{
 have e:rA (f+1) v=[(v:Int)]:=JT h;obtain rfl:N=1:=by rw[<-aa i,e];rfl
 rw[e];have h':(v:Int)<128:=ae;have wv:IntKind.u8.wrap (v:Int)=(v:Int):=by rw[Ki];omega
 clear e i ih;go_in;go_wp2;go_ret;exact⟨_,_,rfl,(by have:=Own.one w (v:Int);exact this),aH.alloc az _⟩};{
 have h':¬(v:Int)<128:=ae;let⟨V,D⟩:=aZ (v / 128);have hd:(v:Int) / 128=(V:Int):=ae;have ud:V<128 ^ (f+1):=by rw[<-D,aV0 ae];rw[XI]at r;exact r
 let⟨M,q⟩:=aZ (J (rA f V));have hM:=bJ4 f V;have j:∀w:G,_:=λw=>ih V w ud ae ae M q;have e:rA (f+1) v=[((v % 128+128:Nat):Int)]++rA f V:=by rw[aI1 h,D];rfl
 obtain⟨y,ey⟩:∃y:Int,(v:Int) % 128+128=y:=⟨_,rfl⟩;have u:(((v % 128+128:Nat)):Int)=y:=by rw[<-ey];omega
 rw[u]at e;have Vg:N=1+M:=by rw[<-aa i,e,eG,q];rfl
 have X:=af j;have EE:=af e;have Z:=af q;rw[q]at hM;clear j e D ih i q;go_in
 go_wp21
 try rw[hd]
 try rw[ey]
 refine(aa X _).h ?_;rintro e w1⟨p1,c1,rfl,o1,R⟩;have oo:Ow w (jA w (dO #[jK .u8 y] 5)) (.T (U (Q w)) 1 1) [y]:=Own.one w y;have W:=Own.H oo R;have bA:Bw w (jA w (dO #[jK .u8 y] 5)):=aH.alloc az _;have E:=ah bA R;have z1:=E.size;have r1:=o1.rd;clear oo R bA o1;go_wp2_with(at_builtin;refine CD rfl rfl (.T (U (Q w)) 1 1) EE p1 c1 M Z rfl rfl W r1 (by rw[aa Z];simp;omega) ae ?_);intro p2 c2 w2 o2 dz;have b2:=Bp E dz W az ae;have eL:J (rA (f+1) v)=N:=by rw[aa EE,eG,aa Z,Vg];rfl
 rw[eL]at o2⊢;clear dz W r1 E;go_wp2;go_ret;exact⟨p2,c2,rfl,o2,b2⟩}
theorem Tu{v:Nat}(GH:v<2^64):dQ dG 119 #[.U v] w λe w'=>∃p' c',e=dR (.S p' (J (vi v)) c')/\Own (U (Q w)) w' (.S p' (J (vi v)) c') (vi v)/\Bw w w':=by
 go_in;go_wp2
 go_loopw[0,3](λnv ov wr=>∃(x f N:Nat)(j:LI)(r:OA)(R:Nat),nv=.U x/\x<2^64/\O (x<128 ^ (f+1))/\N+f<=9/\ov=.S r N R/\Le j N/\O (vi v=j++rA f x)/\Ow w wr (.S r N R) j/\Bw w wr) (λnv _ _=>jN (intOf nv))
 exact⟨v,9,0,[],dN,0,rfl,GH,(by show _<_;omega),ae,rfl,rfl,rfl,nK _ _ _ _,aR _ _⟩;{
 obtain⟨x,f,N,j,r,R,rfl,hx,u,hNf,rfl,eN,eV,ho,W⟩:=hrel;have zr:=W.size;by_cases h:x<128;{
 have h':¬(128:Int)<=(x:Int):=ae;have wx:IntKind.u8.wrap (x:Int)=(x:Int):=by rw[Ki];omega
 have eE:O (vi v=j++[(x:Int)]):=by show _=_;rw[aa eV,JT h]
 go_wp2_with(at_builtin;refine OQ rfl rfl (.S r N R) eE (U (Q wr)) rfl rfl (Own.H ho (aH.alloc az _)) ai (by rw[aa eN];omega) cg ?_);intro p2 c2 w2 Z M;have b2:Bw w w2:=(W.alloc W.size _).grown M cg (λk hk=>(ho.lt k hk).1);clear M;go_wp2;go_ret;exact⟨p2,c2,rfl,Z,b2⟩};{
 have h':=gr 128 x;obtain⟨q,rfl⟩:∃q,f=q+1:=by
  cases f with
  |zero=>have:=aa u;simp at this;omega
  |succ q=>exact⟨q,rfl⟩
 let⟨X,eX⟩:=aZ (x / 128);have hX:O (X<128 ^ (q+1)):=by show _<_;have:=aa u;rw[<-eX,aV0 ae];rw[XI]at this;exact this
 obtain⟨y,D⟩:∃y:Int,((x % 128+128:Nat):Int)=y:=⟨_,rfl⟩;have IP:=du2 (x:=x);rw[D]at IP;have hd:(x:Int) / 128=(X:Int):=ae;have E:O (vi v=(j++[y])++rA q X):=by show _=_;rw[aa eV,aI1 h,eX,D];simp
 have hXx:X<x:=ae;have hy:D=D:=rfl;let⟨V,m⟩:=aF (j++[y]);have eP:=af m;have Lu:O (J V=N+1):=by show _=_;rw[m,eG,aa eN];rfl
 rw[<-m]at E;clear m eX D hy;go_wp2_with(at_builtin;refine OQ rfl rfl (.S r N R) eP (U (Q wr)) rfl rfl (Own.H ho (aH.alloc az _)) ai (by rw[aa eN];omega) cg ?_);intro p2 c2 w2 Z M;have b2:Bw w w2:=(W.alloc W.size _).grown M cg (λk hk=>(ho.lt k hk).1);rw[aa Lu]at Z⊢;clear M;go_wp2;go_roundw;exact⟨X,q,N+1,V,p2,c2,by go_num,ae,hX,ae,rfl,Lu,E,Z,b2⟩
 case measure=>simp[intOf];omega}}
theorem Ep(ls:List LI){lm:LI}(k:Nat)(r:O (k=J ls))(e:O (lm=cat ls))(q:Le lm n)(h:wF w g vs ls)(hl:n<=2^22)(E:k<=10):dQ dG 81 #[.T g k k] w λe w'=>∃i j,e=dR (.S i n j)/\Own (U (Q w)) w' (.S i n j) lm/\Bw w w':=by
 have x:=aa r;have u:=aa e;have s:=aa q;subst x s u;go_in
 go_wp21
 refine(bt0 h hl ae).h ?_;rintro e D⟨m,y,rfl,o,B⟩;go_wp2;go_ret;exact⟨m,y,rfl,o,B⟩
theorem bV1{l0 l1:LI}(c0:I w (Ad g 0)=v0)(r:I w (Ad g 1)=v1)(q:Rd w v0 l0)(o:Rd w v1 l1):wF w g [v0,v1] [l0,l1]:=by
 refine⟨rfl,λj v x m i=>?_⟩
 match j,m,i with
 |0,m,i=>simp at m i;subst m i;exact⟨c0,q⟩
 |1,m,i=>simp at m i;subst m i;exact⟨r,o⟩
theorem bV0{l0 l1 l2 q o:LI}(c0:I w (Ad g 0)=v0)(M:I w (Ad g 1)=v1)(c2:I w (Ad g 2)=v2)(E:I w (Ad g 3)=v3)(D:I w (Ad g 4)=v4)(B:Rd w v0 l0)(y:Rd w v1 l1)(u:Rd w v2 l2)(s:Rd w v3 q)(r:Rd w v4 o):wF w g [v0,v1,v2,v3,v4] [l0,l1,l2,q,o]:=by
 refine⟨rfl,λj v x m i=>?_⟩
 match j,m,i with
 |0,m,i=>simp at m i;subst m i;exact⟨c0,B⟩
 |1,m,i=>simp at m i;subst m i;exact⟨M,y⟩
 |2,m,i=>simp at m i;subst m i;exact⟨c2,u⟩
 |3,m,i=>simp at m i;subst m i;exact⟨E,s⟩
 |4,m,i=>simp at m i;subst m i;exact⟨D,r⟩
theorem ey3(a b:LI):cat [a,b]=a++b:=by simp[cat]
theorem ex9(a b c d e:LI):cat [a,b,c,d,e]=a++(b++(c++(d++e))):=by simp[cat]
def tx(l:LI):LI:=vi (J l)++l
theorem Ib(l:LI):J l+1<=J (tx l)/\J (tx l)<=J l+10:=by
 have:=qm (J l);rw[tx,eG];omega
variable {c:Nat}
theorem ao9{p:OA}{l:LI}(i:Le l n)(h:Rd w (.S p n c) l)(hl:Mg n)(V:O (J (tx l)=N)):dQ dG 75 #[.S p n c] w λe w'=>∃p' c',e=dR (.S p' N c')/\Own (U (Q w)) w' (.S p' N c') (tx l)/\Bw w w':=by
 let⟨M,q⟩:=aZ (J (vi n));have hM:=qm n;rw[q]at hM;have u:=af q;clear q;have hN:M+n=N:=by rw[<-aa V,tx,eG,aa i,aa u]
 have wn:jY jU (n:Int)=(n:Int):=by rw[uW];omega
 have EE:O (tx l=vi n++l):=by show _=_;rw[tx,aa i]
 go_in
 go_wp21
 refine(aX8 9 n _ ae ae ae M u).h ?_;rintro e Z⟨D,X,rfl,R,j⟩;have y:=h.H j;have z1:=j.size;have r:Ow w Z (.S D M X) (vi n):=R;clear R h;go_wp2_with(at_builtin;refine CD rfl rfl (.S D M X) EE p c n i rfl rfl r y (by rw[aa u,aa i];omega) ae ?_);intro p2 c2 w2 E W;have b2:=Bp j W r az ae;rw[aa V]at E⊢;clear W r y j;go_wp2;go_ret;exact⟨p2,c2,rfl,E,b2⟩
theorem ag9{p:OA}{l:LI}(x:Le l n)(h:Rd w (.S p n c) l)(hl:Mg n)(y:O (J (tx l)=N)):dQ dG 179 #[.S p n c] w λe w'=>∃s D,e=dR (.S s N D)/\Own (U (Q w)) w' (.S s N D) (tx l)/\Bw w w':=by
 let⟨M,m⟩:=aZ (J (vi n));have Z:=qm n;rw[m]at Z;have R:=af m;clear m;have hN:M+n=N:=by rw[<-aa y,tx,eG,aa x,aa R]
 have wn:jY jU (n:Int)=(n:Int):=by rw[uW];omega
 have EE:O (tx l=cat [vi n,l]):=by show _=_;rw[ey3,tx,aa x]
 go_in
 go_wp21
 refine(Tu ae).h ?_;rintro e V⟨W,c1,rfl,j,i⟩;rw[aa R]at j⊢;have q:=h.H i;have z1:=i.size;have rv:=j.rd;clear j h
 go_wp21
 refine(Ep (g:=U (Q V)) (vs:=[.S W M c1,.S p n c]) [vi n,l] (lm:=tx l) (n:=N) 2 rfl EE y (bV1 ai ai (rv.H (aH.alloc az _)) (q.H (aH.alloc az _))) ae ae).h ?_;rintro e o⟨r,B,rfl,u,E⟩;have b2:Bw w o:=ah (ah i (aH.alloc az _)) E;have X:Ow w o (.S r N B) (tx l):=Own.h u cg;clear u E q rv i;go_wp2;go_ret;exact⟨r,B,rfl,X,b2⟩
theorem Rd.at{p:OA}{l:LI}(h:Rd w (.S p n c) l)(hl:0<J l):∃b o,p=(Ad b o)/\n=J l/\∀i,i<J l->I w (Ad b (o+i))=Y (jK .u8 (jE l i 0)):=by
 obtain⟨m,q,e,h⟩:=h;obtain⟨rfl,rfl,-⟩:=mg e;obtain rfl|⟨b,o,j,hc⟩:=h;{simp at hl};{exact⟨b,o,j,rfl,hc⟩}
theorem bX7(c:Int):(97<=c/\c<=122/\mi c)\/(122<c/\mi c=dF)\/(48<=c/\c<=57/\mi c)\/(c=95/\mi c)\/(57<c/\c<97/\¬c=95/\mi c=dF)\/(c=45/\mi c)\/(c<48/\¬c=45/\mi c=dF):=by
 unfold mi;by_cases r:97<=c<;>by_cases q:c<=122<;>by_cases o:48<=c<;>by_cases m:c<=57<;>by_cases j:c=45<;>by_cases i:c=95<;>simp[r,q,o,m,j,i]<;>omega
theorem dE0{c:Int}:dQ dG 209 #[jK .u8 c] w λe w'=>e=dR (jO (mi c))/\w'=w:=by
 obtain⟨o,u,i⟩|⟨u,i⟩|⟨r,q,i⟩|⟨rfl,i⟩|⟨q,o,j,i⟩|⟨rfl,i⟩|⟨r,m,i⟩:=bX7 c;{rw[i];go_enter Tryz.func209,Tryz.ntmps209;go_wp2;go_ret;exact⟨rfl,rfl⟩};{rw[i];have o:(97:Int)<=c:=ae;have r:(48:Int)<=c:=ae;have x:¬c<=122:=ae;have q:¬c<=57:=ae;have m:¬c=45:=ae;have j:¬c=95:=ae;go_enter Tryz.func209,Tryz.ntmps209;go_wp2;go_ret;exact⟨by simp[m,j],rfl⟩};{rw[i];have o:¬(97:Int)<=c:=ae;go_enter Tryz.func209,Tryz.ntmps209;go_wp2;go_ret;exact⟨rfl,rfl⟩};{rw[i];go_enter Tryz.func209,Tryz.ntmps209;go_wp2;go_ret;exact⟨rfl,rfl⟩};{rw[i];have o:¬(97:Int)<=c:=ae;have r:(48:Int)<=c:=ae;have q:¬c<=57:=ae;have m:¬c=45:=ae;go_enter Tryz.func209,Tryz.ntmps209;go_wp2;go_ret;exact⟨by simp[m,j],rfl⟩};{rw[i];go_enter Tryz.func209,Tryz.ntmps209;go_wp2;go_ret;exact⟨rfl,rfl⟩};{rw[i];have o:¬(97:Int)<=c:=ae;have s:¬(48:Int)<=c:=ae;have j:¬c=95:=ae;go_enter Tryz.func209,Tryz.ntmps209;go_wp2;go_ret;exact⟨by simp[m,j],rfl⟩}
theorem Tryz.infoSl:(Tryz.prog.info? 22).map (λi=>(i.zero,i.size,i.bytes))=Y (Y aq,1,24):=by kernel_rfl
def zy(B:Nat)(w:G)(v:dV)(n:Nat)(vs:List dV):Prop:=w.ownsRow B 22 1 v n vs
theorem zy.nil(B:Nat)(w:G):zy B w aq 0 []:=nK _ _ _ _
theorem zy.form(h:zy B w v n vs):∃p c,v=.S p n c:=by
 obtain⟨rfl,i⟩|⟨g,m,j,rfl,_⟩:=h.2;{exact⟨dN,0,by rw[i]⟩};{exact⟨_,_,rfl⟩}
theorem zy.H(h:zy B w v n vs)(i:Bw w w'):zy B w' v n vs:=
 Px h (row:=dN) ⟨i.os,i.tape,i.output,i.size,λk j _=>i.block k j⟩ (by cases m:jB v<;>simp)
theorem bI8{iZ:iE}(iq:o.guard=dN) (ho:o.op=.call {callee:=.builtin .append,args:=#[s,x],argTypes:=#[40,40]})(g:Nat)(hs:a.eval s=v)(hx:a.eval x=.T g 1 1)(h:zy B w v n vs)(pu:OA)(nu cu:Nat)(hc:I w (Ad g 0)=dS pu nu cu)(hl:n<=2^21)(hB:B<=U (Q w))(hK:∀p' c' w',zy B w' (.S p' (n+1) c') (n+1) (vs++[.S pu nu cu])->jG w w' (jB v)->wpList dG ops iZ rest (a.put o.dst (.S p' (n+1) c')) w'):wpList dG ops iZ (o::rest) a w:=by
 let⟨i,hi,ki,fy,gJ⟩:=og Tryz.infoSl;refine Uj w iq s x 40 ho B 22 i _ 1 24 Tryz.underlying40 hi ki fy gJ rfl aX v _ _ hs h (Ad g 0) 1 1 [.S pu nu cu] hx rfl ?_ ?_ kL ae hB ?_;{
 intro j u hu;have e:j=0:=by have:=(bu.1 hu).1;simpa using this
 subst e;simp at hu;subst hu;exact hc};{intro u hu;simp at hu;subst hu;rfl};{intro v' w' h1 h2 _;have h3:zy B w' v' (n+1) (vs++[.S pu nu cu]):=h1;obtain⟨p',c',rfl⟩:=h3.form;exact hK p' c' w' h3 h2}
def bf(l:LI):ByteArray:=l.foldl (λr n=>r.push (UInt8.ofNat (jN n))) ByteArray.empty
theorem cG6(l:LI)(s:ByteArray):(l.foldl (λr n=>r.push (UInt8.ofNat (jN n))) s).data.toList=s.data.toList++l.map (λn=>UInt8.ofNat (jN n)):=by
 induction l generalizing s with
 |nil=>simp
 |cons b l ih=>rw[Kc,ih];simp[ByteArray.push]
theorem map_inj{l m:LI}(hl:aA l)(hm:aA m)(h:l.map (λn=>UInt8.ofNat (jN n))=m.map (λn=>UInt8.ofNat (jN n))):l=m:=by
 induction l generalizing m with
 |nil=>cases m with
  |nil=>rfl
  |cons b m=>simp at h
 | cons a l ih=>cases m with
  |nil=>simp at h
  |cons b m=>
   simp only[mR,am4]at h;let⟨x,s⟩:=hl a ai;let⟨r,q⟩:=hm b ai;have e:=tg UInt8.toNat h.1;simp at e;have j:a=b:=ae;rw[j,ih (λz i=>hl z (by simp[i])) (λz i=>hm z (by simp[i])) h.2]
theorem Cv(l:LI):(bf l).toList=l.map (λn=>UInt8.ofNat (jN n)):=by
 rw[ByteArray.toList_eq,bf,cG6];rfl
theorem NU{l m:LI}(hl:aA l)(hm:aA m):((bf l).toList==(bf m).toList)=dD (l=m):=by
 rw[Cv,Cv];by_cases h:l=m;{simp[h]};{simp only[h,ao1,XA];exactλe=>h (map_inj hl hm e)}
theorem uS{p:OA}{l:LI}(q:J l=n)(h:Rd w (.S p n c) l):(convert 22 9 (.S p n c)).run dG w=.ok (jJ (bf l)) w:=by
 subst q;rw[run_convert_bytes_string w 22 9 5 p (J l) c underlying22 underlying5 underlying9];cases p with
 |none=>
  obtain rfl:=h.Xm;simp[Conv.bytesToString,bf,Xx]
 |some a=>
  let⟨s,m,r⟩:=h.news;have i:=run_loadCells_list (P:=dG) w a (iU l) (λj v o=>m j v o);simp only[iH]at i;exact run_bytesToString w a (J l) c l i
theorem ZR{p q:OA}{l m:LI}(u:Le l n)(s:Le m k)(j:Rd w (.S p n c) l)(i:Rd w (.S q k d) m)(r:aA l)(o:aA m):dQ dG 60 #[.S p n c,.S q k d] w (Rb (jO (dD (l=m))) w):=by
 have B:=uS u j;have y:=uS s i;have x:=af (NU r o);clear j i r o;go_in;go_wp2;go_ret;exact⟨by rw[aa x];rfl,aR _ _⟩
theorem Rd.cut{o:Nat}{l:LI}(h:Rd w (.S (Ad b o) n c) l)(i j:Nat)(E:i<=j)(u:j<=J l)(q:OA)(hq:j=i\/q=(Ad b (o+i)))(d:Nat)(m:LI)(s:m=jD i (jT j l)):Rd w (.S q (j-i) d) m:=by
 have hm:J m=j-i:=by rw[s];simp;omega
 refine⟨q,d,by rw[hm],?_⟩;obtain rfl|rfl:=hq;{left;exact Is ae};{obtain⟨y,M,e,h⟩:=h;obtain⟨r,-,-⟩:=mg e;obtain rfl|⟨N,B,x,hc⟩:=h;{left;exact Is (by simp at u;omega)};{right;rw[x]at r;simp only[nJ,dz1]at r;obtain⟨rfl,rfl,-⟩:=r;refine⟨b,o+i,rfl,λk D=>?_⟩;have:=hc (i+k) ae;rw[Us,this,s];simp[List.getD,PR,show i+k<j by omega]}}
theorem Uz{p q:OA}{l m:LI}(u:Le l n)(s:Le m k)(j:Rd w (.S p n c) l)(i:Rd w (.S q k d) m)(r:aA l)(o:aA m):dQ dG 52 #[.S p n c,.S q k d] w (Rb (jO (dD (l=m))) w):=by
 have B:=uS u j;have y:=uS s i;have x:=af (NU r o);clear j i r o;go_in;go_wp2;go_ret;exact⟨by rw[aa x];rfl,aR _ _⟩
theorem Dp{p:OA}{l:LI}(m:Le l n)(h:Rd w (.S p n c) l)(hl:n<=2^21):Cp 66 #[.S p n c] w λe w'=>∃i j,e=dR (.S i n j)/\Own (U (Q w)) w' (.S i n j) l/\Bw w w':=by
 obtain rfl:=aa m;exact aY4 h hl
variable {a:Nat}
theorem drop_cons{l:LI}(h:a<J l):jD a l=jE l a 0::jD (a+1) l:=by
 rw[Mm h];simp[List.getD,h]
theorem dc5{l:LI}{b:Bool}(y:st k (jD a l)=b)(u:a<J l)(r:jE l a 0=47)(m:∀x∈jT j (jD (a+1) l),mi x)(B:a+1+j<=J l)(i:a+1+j=J l\/jE l (a+1+j) 0=47):b=(pM (jT j (jD (a+1) l))&&st (k+1) (jD (a+1+j) l)):=by
 rw[<-y,drop_cons u,r];have e:jD (a+1) l=jT j (jD (a+1) l)++jD (a+1+j) l:=by have e:=(Mw j (jD (a+1) l)).C;rw[FQ]at e;exact e
 by_cases s:a+1+j=J l;{
 have q:jD (a+1+j) l=[]:=Ut ae;rw[q,De]at e;rw[q]
 conv=>lhs;rw[e]
 exact dc7 m};{
 obtain h|h:=i;{exact absurd h s};{
 have o:=drop_cons (l:=l) (a:=a+1+j) ae;rw[h]at o;rw[o]at e⊢
 conv=>lhs;rw[e]
 exact dc6 m}}
theorem dc4{l:LI}{b:Bool}(u:st k (jD a l)=b)(s:a<J l)(m:jE l a 0=47)(i:∀x∈jT j (jD (a+1) l),mi x)(q:a+1+j<J l)(o:¬jE l (a+1+j) 0=47)(r:mi (jE l (a+1+j) 0)=dF):b=dF:=by
 rw[<-u,drop_cons s,m];have e:jD (a+1) l=jT j (jD (a+1) l)++jD (a+1+j) l:=by have e:=(Mw j (jD (a+1) l)).C;rw[FQ]at e;exact e
 rw[drop_cons q]at e;rw[e];exact dc8 i o r
def SE(l:LI)(a B:Nat)(w:G)(vs:List dV):Prop:=(vs=[]/\a=0)\/∃s j v,vs.getLast?=Y v/\a=s+1+j/\jE l s 0=47/\(∀y∈jT j (jD (s+1) l),mi y)/\Own B w v (jT j (jD (s+1) l))
def cL6(l:LI)(B:Nat)(w:G)(vs:List dV):Prop:=∃s v,vs.getLast?=Y v/\s<J l/\jE l s 0=47/\(∀y∈jD (s+1) l,mi y)/\Own B w v (jD (s+1) l)
theorem SE.fin{l:LI}(h:SE l n B w vs)(y:J l=n)(o:zy B w v k vs)(u:1<=k):cL6 l B w vs:=by
 obtain⟨rfl,-⟩|⟨s,j,v,r,x,q,m,i⟩:=h;{have:=o.1;simp at this;omega};{have e:jT j (jD (s+1) l)=jD (s+1) l:=od cg;rw[e]at m i;exact⟨s,v,r,ae,q,m,i⟩}
theorem SE.app{l i:LI}{t:Nat}{o:G}{r:dV}(E:t=a+1+j)(D:jE l a 0=47)(R:i=jT j (jD (a+1) l))(x:∀y∈i,mi y)(s:Own C w v i)(m:Bw w w1)(M:jG w1 o (jB r))(hr:∀b,jB r=Y b->b<C)(N:B<=C):SE l t B o (vs++[v]):=by
 subst R;refine .R ⟨a,j,v,ai,E,D,x,Own.h ((Own.H s m).aY5 (Kept.bV8 (vs:=[r]) M ai) (λu q b m e=>?_)) N⟩;simp at q;subst q;have:=hr b e;have:=(s.lt b m).1;omega
def NmE(l:LI)(C:Nat)(B:Bool)(e:Ending)(w':G):Prop:=B->∃p k c i,e=dR (dT #[.S p k c,jO dY])/\zy C w' (.S p k c) k i/\1<=k/\cL6 l C w' i
variable {B:Bool}
theorem cd7{p:OA}{l:LI}(q:Le l n)(h:Rd w (.S p n c) l)(hb:aA l)(hl:Mg n)(eB:O (vp l=B)):dQ dG 172 #[.S p n c] w λe w'=>NmE l (U (Q w)) B e w'/\(∃v,e=dR (dT #[v,jO B]))/\Bw w w':=by
 have HR:=af h;have HB:=af hb;clear h hb;go_in;go_wp2
 go_loopw[4,5](λov i wr=>∃(a k:Nat)(pv:OA)(cv:Nat)(vs:List dV),a<=n/\i=.I a/\ov=.S pv k cv/\k<=a/\O (st k (jD a l)=B)/\zy (U (Q w)) wr (.S pv k cv) k vs/\O (SE l a (U (Q w)) wr vs)/\Bw w wr) (λ_ i _=>n-(jN (intOf i)))
 exact⟨0,0,dN,0,[],cT _,rfl,rfl,fq _,(by show _=_;exact eB),zy.nil _ _,af (.L ⟨rfl,rfl⟩),aR _ _⟩;{
 obtain⟨a,k,pv,cv,vs,ha,rfl,rfl,hka,bD,ho,hLN,E⟩:=hrel;have Au:=E.size;by_cases aL:a<n;{
 have cM:=bR a n;obtain⟨b,o,rfl,-,hc⟩:=HR.at (by rw[aa q];omega);have ig:∀(i:Nat)(w':G),i<n->Bw w w'->I w' (Ad b (o+i))=Y (jK .u8 (jE l i 0)):=λi w' hi aQ=>(aQ.cell (p:=(Ad b (o+i))) (nI w _ (hc i (aa q▸hi)))).Z (hc i (aa q▸hi));have HC:=af ig;have X:=ig a wr aL E;clear hc ig;let⟨x,ex⟩:=aZ (jE l a 0);rw[ex]at X;have EX:=af ex;clear ex;by_cases kh:x=47;{
 subst kh
 go_wp21
 go_loopw[5,6](λi nv w2=>∃(t j:Nat)(pn:OA)(cn:Nat)(m:LI),O (t=a+1+j)/\t<=n/\a<t/\j<t/\i=.I t/\nv=.S pn j cn/\O (m=jT j (jD (a+1) l))/\Le m j/\O (∀y∈m,mi y)/\Ow wr w2 (.S pn j cn) m/\Bw wr w2) (λi _ _=>n-(jN (intOf i)))
 exact⟨a+1,0,dN,0,[],rfl,ae,ae,ae,by go_num,rfl,rfl,rfl,(by intro y hy;simp at hy),nK _ _ _ _,aR _ _⟩;{
 obtain⟨t,j,pn,cn,m,M,V,gi,hjt,rfl,rfl,GM,Z,pT,r,ay⟩:=hrel;have gJ:=ay.size;have bb2:=ah E ay;have km:=ho.H ay;have at4:(t=n\/jE l t 0=47)->B=(pM m&&st (k+1) (jD t l)):=λhe=>by have:=dc5 (j:=j) bD (aa q▸aL) EX (aa GM▸aa pT) (by rw[aa q,<-aa M];exact V) (by rw[aa q,<-aa M];exact he);rw[<-aa GM,<-aa M]at this;exact this
 have fk:(1<=j/\j<=16->pM m)/\(¬(1<=j/\j<=16)->pM m=dF):=by have ha:m.all mi:=lW.2 pT;rw[pM,aa Z,ha];constructor;{rintro⟨h1,h2⟩;simp[h1,h2]};{intro h;simp;omega}
 have HE:=af at4;have HK:=af fk;clear at4 fk;by_cases iW:t<n;{
 have bf7:=bR t n;have MY:=aa HC t wr iW bb2;let⟨z,ez⟩:=aZ (jE l t 0);rw[ez]at MY;have EZ:=af ez;clear ez;by_cases D:z=47;{subst D;have he:=aa HE (.R EZ);by_cases W:1<=j;{have bf1:¬(j:Int)<1:=ae;by_cases bf0:j<=16;{have be9:¬(16:Int)<(j:Int):=ae;rw[HK.1 ⟨W,bf0⟩,xm]at he;have Oy:=af he.C;clear he X;go_wp2_with(at_builtin;refine bI8 rfl rfl (v:=.S pv k cv) (U (Q wr)) rfl rfl (km.H (aH.alloc az _)) pn j cn ai ae cg ?_);intro p' c' w3 Qq N;have b3:Bw w w3:=(bb2.alloc bb2.size _).grown N cg (λk hk=>(Mp km k hk).1);have HL3:=af (SE.app (B:=U (Q w)) (vs:=vs) M EX GM pT r (aH.alloc az _) N (λb hb=>(Mp ho b hb).2) E.size);clear N;go_wp2;go_roundw;exact⟨t,k+1,p',c',_,V,by go_num,rfl,ae,Oy,Qq,HL3,b3⟩;exact dh};{have be9:=rr 16 j;rw[HK.2 ae,ao2]at he;subst he;go_wp2;go_ret2;exact⟨(λh=>by cases h),⟨_,rfl⟩,bb2⟩}};{have bf1:(j:Int)<1:=ae;rw[HK.2 ae,ao2]at he;subst he;go_wp2;go_ret2;exact⟨(λh=>by cases h),⟨_,rfl⟩,bb2⟩}};{
 have vM:(z==47)=dF:=by simp[D]
 have fg7:(z != 47):=by simp[D]
 go_wp21
 refine(dE0).h ?_;rintro e w3⟨rfl,rfl⟩;by_cases R:mi z=dY;{
 rw[R];have cx9:O (m++[z]=jT (j+1) (jD (a+1) l)):=by
  show _=_;have e1:(jD (a+1) l)[j]?=z:=by rw[Kd,<-aa M,<-aa EZ];simp[List.getD,aa q,iW]
  rw[sE,e1,aa GM];rfl
 have bq1:O (J (m++[z])=j+1):=by show _=_;rw[eG,aa Z];rfl
 have cj5:O (∀y∈m++[z],mi y):=by intro y hy;obtain h|h:=jg.1 hy;{exact pT y h};{simp at h;rw[h];exact R}
 have ht2:O (t+1=a+1+(j+1)):=by show _=_;have:=aa M;omega
 let⟨nm2,bp5⟩:=aF (m++[z]);rw[<-bp5]at cx9 bq1 cj5;have lK:=af bp5;clear bp5 km;go_wp2_with(at_builtin;refine OQ rfl rfl (.S pn j cn) lK (U (Q w3)) rfl rfl (Own.H r (aH.alloc az _)) ai (by rw[aa Z];omega) cg ?_);intro p' c' w4 ho4 mG;have b4:=(ay.alloc ay.size _).grown mG cg (λk hk=>(r.lt k hk).1);rw[aa bq1]at ho4⊢;clear mG;go_wp2;go_roundw;exact⟨t+1,j+1,p',c',nm2,ht2,ae,ae,ae,by go_num,rfl,cx9,bq1,cj5,ho4,b4⟩;exact dh};{
 have hzf:mi z=dF:=by simpa using R
 rw[hzf];have eF:B=dF:=by have e:=aa M;exact dc4 (j:=j) bD (aa q▸aL) EX (aa GM▸aa pT) (by rw[aa q,<-e];exact iW) (by rw[<-e,aa EZ];exact D) (by rw[<-e,aa EZ];exact hzf)
 subst eF;go_wp2;go_ret2;exact⟨(λh=>by cases h),⟨_,rfl⟩,bb2⟩}}};{have bf7:=fG t n;have he:=aa HE (.L ae);by_cases W:1<=j;{have bf1:¬(j:Int)<1:=ae;by_cases bf0:j<=16;{have be9:¬(16:Int)<(j:Int):=ae;rw[HK.1 ⟨W,bf0⟩,xm]at he;have Oy:=af he.C;clear he X;go_wp2_with(at_builtin;refine bI8 rfl rfl (v:=.S pv k cv) (U (Q wr)) rfl rfl (km.H (aH.alloc az _)) pn j cn ai ae cg ?_);intro p' c' w3 Qq N;have b3:Bw w w3:=(bb2.alloc bb2.size _).grown N cg (λk hk=>(Mp km k hk).1);have HL3:=af (SE.app (B:=U (Q w)) (vs:=vs) M EX GM pT r (aH.alloc az _) N (λb hb=>(Mp ho b hb).2) E.size);clear N;go_wp2;go_roundw;exact⟨t,k+1,p',c',_,V,by go_num,rfl,ae,Oy,Qq,HL3,b3⟩;exact dh};{have be9:=rr 16 j;rw[HK.2 ae,ao2]at he;subst he;go_wp2;go_ret2;exact⟨(λh=>by cases h),⟨_,rfl⟩,bb2⟩}};{have bf1:(j:Int)<1:=ae;rw[HK.2 ae,ao2]at he;subst he;go_wp2;go_ret2;exact⟨(λh=>by cases h),⟨_,rfl⟩,bb2⟩}}}};{
 have hx:(x==47)=dF:=by simp[kh]
 have Av:(x != 47):=by simp[kh]
 have eF:B=dF:=by rw[<-aa bD,drop_cons (aa q▸aL),aa EX];exact bM8 kh
 subst eF;go_wp2;go_ret2;exact⟨(λh=>by cases h),⟨_,rfl⟩,E⟩}};{
 have e:a=n:=ae;have cM:=fG a n;have yX:=aa bD;rw[Ut (by rw[aa q];omega),st]at yX;by_cases h1:1<=k;{
 by_cases h8:k<=8;{
 have GI:=gr 1 k;have Re:(k:Int)<=8:=ae;obtain rfl:B:=by rw[<-yX];simp[h1,h8]
 subst e;go_wp2;go_ret2;exact⟨λ_=>⟨pv,k,cv,vs,rfl,ho,h1,hLN.fin q ho h1⟩,⟨_,rfl⟩,E⟩};{
 have GI:=gr 1 k;have Re:¬(k:Int)<=8:=ae;obtain rfl:B=dF:=by rw[<-yX];simp[h8]
 go_wp2;go_ret2;exact⟨(λh=>by cases h),⟨_,rfl⟩,E⟩}};{
 have GI:¬(1:Int)<=(k:Int):=ae;obtain rfl:B=dF:=by rw[<-yX];simp[h1]
 go_wp2;go_ret2;exact⟨(λh=>by cases h),⟨_,rfl⟩,E⟩}}}
theorem dD9{p:OA}{l:LI}(j:Le l n)(h:Rd w (.S p n c) l)(i:aA l)(hl:Mg n)(m:O (vp l=B)):Cp 172 #[.S p n c] w λe w'=>(∃v,e=dR (dT #[v,jO B]))/\Bw w w':=(cd7 j h i hl m).h λ_ _ h=>h.2
theorem bJ6{p:OA}{l:LI}(u:Le l n)(h:Rd w (.S p n c) l)(hl:n<=2^21)(R:O (pM l=B)):dQ dG 223 #[.S p n c] w (Rb (jO B) w):=by
 have HR:=af h;clear h;by_cases h1:1<=n;{
 by_cases E:n<=16;{
 have GI:¬(n:Int)<1:=ae;have eb4:¬(16:Int)<(n:Int):=ae;obtain⟨b,o,rfl,-,hc⟩:=HR.at (by rw[aa u];omega);go_enter Tryz.func223,Tryz.ntmps223;have ig:∀(i:Nat)(V:G),i<n->Bw w V->I V (Ad b (o+i))=Y (jK .u8 (jE l i 0)):=λi V D aQ=>(aQ.cell (p:=(Ad b (o+i))) (nI w _ (hc i (aa u▸D)))).Z (hc i (aa u▸D));have HC:=af ig;clear hc ig;go_wp2
 go_loopw[17](λi wr=>∃k:Nat,k<=n/\i=.I k/\O (∀j,j<k->mi (jE l j 0))/\Bw w wr) (λi _=>n-(jN (intOf i)))
 exact⟨0,cT _,rfl,(λj hj=>ae),aR _ _⟩;{
 obtain⟨k,hk,rfl,fk,s⟩:=hrel;by_cases aL:k<n;{
 have cM:=bR k n;have sL:=aa HC k wr aL s;let⟨z,ez⟩:=aZ (jE l k 0);rw[ez]at sL;have EZ:=af ez;clear ez;have q:mi z->O (∀j,j<k+1->mi (jE l j 0)):=λW j hj=>by by_cases e:j=k;{rw[e,aa EZ];exact W};{exact fk j ae}
 have r:mi z=dF->B=dF:=λW=>by
  rw[<-aa R,pM];have:l.all mi=dF:=by rw[XJ];refine⟨z,?_,by simp[W]⟩;rw[<-aa EZ];have IW:k<J l:=aa u▸aL;rw[show jE l k 0=l[k] by simp[List.getD,IW]];exact Ao IW
  rw[this];simp
 obtain⟨N,g2,m⟩|⟨g2,m⟩|⟨M,g4,m⟩|⟨rfl,m⟩|⟨g4,N,X,m⟩|⟨rfl,m⟩|⟨M,Z,m⟩:=bX7 z;{have y:=q m;clear q r;have M:(48:Int)<=z:=ae;have g4:¬z<=57:=ae;go_wp2;go_roundw;exact⟨k+1,ae,by go_num,y,s⟩;exact dh};{
 obtain rfl:=r m;clear q r;have N:(97:Int)<=z:=ae;have g2':¬z<=122:=ae;have M:(48:Int)<=z:=ae;have g4:¬z<=57:=ae;have Z:(z != 45):=by simp;omega
 have X:(z != 95):=by simp;omega
 go_wp2;go_ret;exact⟨rfl,s⟩};{have y:=q m;clear q r;have N:¬(97:Int)<=z:=ae;go_wp2;go_roundw;exact⟨k+1,ae,by go_num,y,s⟩;exact dh};{have y:=q m;clear q r;go_wp2;go_roundw;exact⟨k+1,ae,by go_num,y,s⟩;exact dh};{
 obtain rfl:=r m;clear q r;have Ri:¬(97:Int)<=z:=ae;have M:(48:Int)<=z:=ae;have g4':¬z<=57:=ae;have Z:(z != 45):=by simp;omega
 have g6':(z != 95):=by simp[X]
 go_wp2;go_ret;exact⟨rfl,s⟩};{have y:=q m;clear q r;go_wp2;go_roundw;exact⟨k+1,ae,by go_num,y,s⟩;exact dh};{
 obtain rfl:=r m;clear q r;have N:¬(97:Int)<=z:=ae;have g3':¬(48:Int)<=z:=ae;have g5':(z != 45):=by simp[Z]
 have X:(z != 95):=by simp;omega
 go_wp2;go_ret;exact⟨rfl,s⟩}};{
 have cM:=fG k n;have e:k=n:=ae;have eT:B:=by
  rw[<-aa R,pM,aa u];have:l.all mi:=by rw[lW];intro x hx;obtain⟨i,D,rfl⟩:=Mv hx;have:=aa fk i (by rw[aa u]at D;omega);rwa [show jE l i 0=l[i] by simp[List.getD,D]]at this
  simp[h1,E,this]
 subst eT;go_wp2;go_ret;exact⟨rfl,s⟩}}};{
 have GI:¬(n:Int)<1:=ae;have eb4:=rr 16 n;obtain rfl:B=dF:=by rw[<-aa R,pM,aa u];simp[E]
 go_enter Tryz.func223,Tryz.ntmps223;go_wp2;go_ret;exact⟨rfl,aR _ _⟩}};{
 have GI:(n:Int)<1:=ae;obtain rfl:B=dF:=by rw[<-aa R,pM,aa u];simp[h1]
 go_enter Tryz.func223,Tryz.ntmps223;go_wp2;go_ret;exact⟨rfl,aR _ _⟩}
theorem dd5{o:Nat}{t:LI}(Z:J t=n)(hc:∀i,i<n->I w (Ad b (o+i))=Y (jK .u8 (jE t i 0)))(hg:I w (Ad g 0)=Y (jK .u8 47))(B:aA t)(W:n<=c)(M:c<=maxLen)(hl:n<=2^21)(hm:∃m,I w (Ad 2 0)=dI m){K:Nat}(eK:J (gO 47 t)=K):dQ dG 222 #[.S (Ad b o) n c,.T g 1 1] w λe w'=>e=dR (.T (U (Q w)) K K)/\(∀j r,(gO 47 t)[j]?=Y r->∃R c',I w' (Aw w j)=dS R (J r) c'/\Rd w' (.S R (J r) c') r)/\Bw w w':=by
 obtain⟨m,hm⟩:=hm;have x:∀(g o i:Nat),((Ad g o):Addr).add i=(Ad g (o+i)):=λg o i=>by
  unfold Addr.add;split;{next h=>subst h;rfl}
  {rfl}
 let⟨e1,e2⟩:=bN2 B;refine(Any.bytes_Split Tryz.layS7 (Ad b o) (Ad g 0) n c 1 1 t [47] m w Z rfl B (by intro y V;simp at V;subst V;decide) (λi u=>by rw[x];exact hc i u) (λi u=>by obtain rfl:i=0:=ae;exact hg) W ae aX (by unfold maxLen at M;omega) aX hm).h ?_
 rintro e w'⟨rfl,q,rfl⟩;have M8:Bw w ((jA w (dO (Lib.splitV (Lib.bytesOf [47]) 0 (Lib.count (Lib.bytesOf t) (Lib.bytesOf [47])) (Ad b o) c (Lib.bytesOf t)).toArray (Tryz.layS7_ren.t 22))).drewN q):=⟨rfl,rfl,rfl,ai,λk hk=>Xp _ _ k hk⟩;rw[e2,eK];refine⟨rfl,λj r E=>?_,M8⟩;have N:j<J (Lib.splitV (Lib.bytesOf [47]) 0 (Lib.count (Lib.bytesOf t) (Lib.bytesOf [47])) (Ad b o) c (Lib.bytesOf t)):=by rw[Lib.splitV_length,e1,iH];exact(bu.1 E).1
 let⟨D,off,len,cp,ev,h1,h2,X,h4⟩:=Lib.splitV_spec (Lib.bytesOf [47]) 0 aX (cT _) _ (Ad b o) c (Lib.bytesOf t) (by rw[Lib.bytesOf_length,Z];exact W) j _ (bN N);rw[e1,qI,E]at X;rw[Lib.bytesOf_length]at h2;have GM:r=jT len (jD off t):=by refine cF7 (et2 B r (bq E)) (λz hz=>B z (PX (PT hz))) ?_;rw[Lib.bytesOf_take,Lib.bytesOf_drop];simpa using X
 have s:J r=len:=by rw[GM,te,uC];omega
 refine⟨Y D,cp,?_,?_⟩;{rw[World.cell?_drewN,World.cell?_alloc_new,uB,bN N,ev,s]};{
 refine⟨Y D,cp,rfl,?_⟩;by_cases h0:len=0;{left;exact vI.1 (s▸h0)};{
 right;have ea:=h4 0 ae;rw[x,Mt]at ea;refine⟨b,o+off,?_,λi u=>?_⟩;{have:D.add 0=D:=rfl;rw[<-this,ea]};{
 rw[s]at u;have nE:I ((jA w (dO (Lib.splitV (Lib.bytesOf [47]) 0 (Lib.count (Lib.bytesOf t) (Lib.bytesOf [47])) (Ad b o) c (Lib.bytesOf t)).toArray (Tryz.layS7_ren.t 22))).drewN q) (Ad b (o+(off+i)))=Y (jK .u8 (jE t (off+i) 0)):=
  (M8.cell (p:=(Ad b (o+(off+i)))) (nI w _ (hc (off+i) ae))).Z (hc (off+i) ae)
 rw[Us,nE,GM];have:jE (jT len (jD off t)) i 0=jE t (off+i) 0:=by simp[List.getD,PR,u,Kd]
 rw[this]}}}
theorem et1{t:LI}:∀n∈gO (47:Int) t,J n<=J t:=by
 induction t with
 |nil=>intro n i;simp[gO]at i;subst i;simp
 |cons x l ih=>
  intro n i;rw[gO]at i;split at i;{obtain rfl|i:=gv.1 i;{simp};{have:=ih n i;simp;omega}};{
 cases hc:gO 47 l with
 |nil=>
  rw[hc]at i;simp at i;subst i;simp
 |cons m ms=>
  rw[hc]at i ih;obtain rfl|i:=gv.1 i;{have:=ih m ai;simp;omega};{have:=ih n (by simp[i]);simp;omega}}
theorem aZ7{p:OA}{l:LI}(en:Le l n)(h:Rd w (.S p n c) l)(hb:O (aA l))(hl:Mg n)(hcn:n<=c)(oY:c<=maxLen)(hm:∃m,I w (Ad 2 0)=dI m)(eB:O (vp l=B)):dQ dG 202 #[.S p n c] w λe w'=>e=dR (jO B)/\Below (U (Q w)) w w':=by
 have HR:=af h;have HM:=af hm;by_cases AH:n=0;{
 subst AH;have eF:B=dF:=by rw[<-aa eB,vI.1 (aa en)];rfl
 subst eF;go_in;go_wp2;go_ret;exact⟨rfl,aR _ _⟩};have qz:((n:Int)==0)=dF:=by simp[AH]
 obtain⟨b,o,rfl,-,hc⟩:=HR.at (by rw[aa en];omega);obtain⟨x,t,W⟩:∃x t,l=x::t:=by
  cases l with
  |nil=>have:=aa en;simp at this;omega
  |cons x t=>exact⟨x,t,rfl⟩
 have hx:I w (Ad b o)=Y (jK .u8 x):=by have:=hc 0 (by rw[aa en];omega);rw[W]at this;exact this
 by_cases kh:x=47;{
 subst kh;have ent:J t=n-1:=by have:=aa en;rw[W]at this;simp at this;omega
 have MY:∀i,i<n-1->I w (Ad b (o+1+i))=Y (jK .u8 (jE t i 0)):=λi hi=>by have:=hc (1+i) (by rw[aa en];omega);rw[W,<-Us]at this;rw[this];simp[List.getD,aV4 1 i]
 have YP:aA t:=λz hz=>aa hb z (by rw[W];simp[hz]);let⟨K,eK⟩:=aZ (J (gO 47 t));have bD:B=(dD (K<=8)&&(gO 47 t).all pM):=by rw[<-aa eB,W,vp,st,eK];simp
 have uk:K<=n+1:=by have h1:=(bN2 YP).2;have h2:=Lib.count_le (Lib.bytesOf t) (Lib.bytesOf [47]);rw[Lib.bytesOf_length,ent]at h2;omega
 let⟨N,eN⟩:=aZ (n-1);let⟨C,eC⟩:=aZ (c-1);have X:∀(M:Nat)(w':G),(N=0\/M=o+1)->Below (U (Q w)) w w'->I w' (Ad (U (Q w)) 0)=Y (jK .u8 47)->Cp 222 #[.S (Ad b M) N C,.T (U (Q w)) 1 1] w' λe s=>e=dR (.T (U (Q w')) K K)/\(∀j r,(gO 47 t)[j]?=Y r->∃Z c',I s (Ad (U (Q w')) j)=dS Z (J r) c'/\Rd s (.S Z (J r) c') r)/\Below (U (Q w')) w' s:=by intro M w' yL aQ hg;refine dd5 (by rw[ent,eN]) (λi hi=>?_) hg YP ae ae ae ?_ eK;{obtain h0|rfl:=yL;{omega};{exact(aQ.cell (p:=(Ad b (o+1+i))) (nI w _ (MY i ae))).Z (MY i ae)}};{let⟨m,hm⟩:=aa HM;exact⟨m,(aQ.cell (p:=(Ad 2 0)) (nI w _ hm)).Z hm⟩}
 have HSP:=af X;have il:=af bD;have EK:=af eK;have g1:=gr 1 n;have g2:=gr 1 c;have g3:=nT n c;have HN:=br eN eC;clear X bD MY YP ent eK hc eN eC;have bA:Below (U (Q w)) w (jA w (dO #[jK .u8 47] 5)):=aH.alloc az _;have vT:∀M,(N=0\/M=o+1)->Cp 222 #[.S (Ad b M) N C,.T (U (Q w)) 1 1] (jA w (dO #[jK .u8 47] 5)) λe s=>e=dR (.T (U (Q w)+1) K K)/\(∀j r,(gO 47 t)[j]?=Y r->∃Z c',I s (Ad (U (Q w)+1) j)=dS Z (J r) c'/\Rd s (.S Z (J r) c') r)/\Below (U (Q w)) w s:=by intro M yL;have e:U (Q (jA w (dO #[jK .u8 47] 5)))=U (Q w)+1:=ai;have:=aa HSP M _ yL bA ai;rw[e]at this;refine this.h ?_;rintro e1 w1⟨rfl,h1,h2⟩;refine⟨rfl,h1,?_⟩;rw[<-e]at h2;exact ah bA h2
 have HF:=af vT;clear vT bA;have V:∀r∈gO (47:Int) t,J r<=2^21:=λr y=>by have h1:=et1 r y;have h2:=aa en;rw[W]at h2;simp at h2;omega
 have HL:=af V;clear V W;by_cases gL:c=1;{
 subst gL;obtain rfl:n=1:=ae;go_in
 go_wp21
 have Zj:(0:Nat)=N:=aM HN.1;have Ld:(0:Nat)=C:=aM HN.2;have X:=aa HF o (.L Zj.C);rw[<-Zj,<-Ld]at X;clear Zj Ld;refine X.h ?_;rintro e w2⟨rfl,Qm,ay⟩;have HP:=af Qm;by_cases YA:K<=8;{
 have be8:¬(8:Int)<(K:Int):=ae;go_wp2
 go_loopw[24](λi wr=>∃k:Nat,k<=K/\i=.I k/\O (∀j r,j<k->(gO 47 t)[j]?=Y r->pM r)/\Below (U (Q w2)) w2 wr) (λi _=>K-(jN (intOf i)))
 exact⟨0,cT _,rfl,(λj r hj=>ae),aR _ _⟩;{
 obtain⟨k,hk,rfl,fk,E⟩:=hrel;have BB:=ah ay E;by_cases aL:k<K;{
 have cM:=bR k K;obtain⟨r,y⟩:∃r,(gO 47 t)[k]?=Y r:=⟨_,bN (aa EK▸aL)⟩;let⟨Z,c',yO,AE⟩:=aa HP k r y;have bg9:=aj yO E;have Yp:=AE.H E;have Kv:=aa HL r (bq y);let⟨nl,gM⟩:=aZ (J r);rw[gM]at bg9 Yp Kv;have ENL:=af gM;have D:=af y;let⟨R,eR⟩:=aZ (pM r);have ER:=af eR
 go_wp21
 refine cK (bJ6 ENL Yp Kv ER) λw3 aE=>?_;have b3:=ah E aE;cases R with
 |true=>
  have lh:O (∀j r,j<k+1->(gO 47 t)[j]?=Y r->pM r):=λj nm' hj YC=>by by_cases e:j=k;{subst e;have e2:=D.C.Z YC;simp at e2;rw[<-e2];exact aa ER};{exact fk j nm' ae YC}
  go_wp2;go_roundw;exact⟨k+1,ae,by go_num,lh,b3⟩;exact dh
 | false=>
  have eF:B=dF:=by
   rw[aa il];have:(gO 47 t).all pM=dF:=by rw[XJ];exact⟨r,bq (aa D),by simp[aa ER]⟩
   rw[this];simp
  subst eF;go_wp2;go_ret;exact⟨rfl,ah BB aE⟩};{
 have cM:=fG k K;have eT:B:=by
  rw[aa il];have:(gO 47 t).all pM:=by rw[lW];intro r y;obtain⟨i,hi,rfl⟩:=Mv y;exact aa fk i _ (by rw[aa EK]at hi;omega) (bN hi)
  simp[this,YA]
 subst eT;go_wp2;go_ret;exact⟨rfl,BB⟩}}};{
 have be8:=rr 8 K;obtain rfl:B=dF:=by rw[aa il];simp[YA]
 go_wp2;go_ret;exact⟨rfl,ay⟩}};{
 have dU6:¬(c:Int)=1:=ae;go_in
 go_wp21
 have X:=aa HF (o+1) (.R rfl);rw[<-HN.1,<-HN.2]at X;refine X.h ?_;rintro e w2⟨rfl,Qm,ay⟩;have HP:=af Qm;by_cases YA:K<=8;{
 have be8:¬(8:Int)<(K:Int):=ae;go_wp2
 go_loopw[24](λi wr=>∃k:Nat,k<=K/\i=.I k/\O (∀j r,j<k->(gO 47 t)[j]?=Y r->pM r)/\Below (U (Q w2)) w2 wr) (λi _=>K-(jN (intOf i)))
 exact⟨0,cT _,rfl,(λj r hj=>ae),aR _ _⟩;{
 obtain⟨k,hk,rfl,fk,E⟩:=hrel;have BB:=ah ay E;by_cases aL:k<K;{
 have cM:=bR k K;obtain⟨r,y⟩:∃r,(gO 47 t)[k]?=Y r:=⟨_,bN (aa EK▸aL)⟩;let⟨Z,c',yO,AE⟩:=aa HP k r y;have bg9:=aj yO E;have Yp:=AE.H E;have Kv:=aa HL r (bq y);let⟨nl,gM⟩:=aZ (J r);rw[gM]at bg9 Yp Kv;have ENL:=af gM;have D:=af y;let⟨R,eR⟩:=aZ (pM r);have ER:=af eR
 go_wp21
 refine cK (bJ6 ENL Yp Kv ER) λw3 aE=>?_;have b3:=ah E aE;cases R with
 |true=>
  have lh:O (∀j r,j<k+1->(gO 47 t)[j]?=Y r->pM r):=λj nm' hj YC=>by by_cases e:j=k;{subst e;have e2:=D.C.Z YC;simp at e2;rw[<-e2];exact aa ER};{exact fk j nm' ae YC}
  go_wp2;go_roundw;exact⟨k+1,ae,by go_num,lh,b3⟩;exact dh
 | false=>
  have eF:B=dF:=by
   rw[aa il];have:(gO 47 t).all pM=dF:=by rw[XJ];exact⟨r,bq (aa D),by simp[aa ER]⟩
   rw[this];simp
  subst eF;go_wp2;go_ret;exact⟨rfl,ah BB aE⟩};{
 have cM:=fG k K;have eT:B:=by
  rw[aa il];have:(gO 47 t).all pM:=by rw[lW];intro r y;obtain⟨i,hi,rfl⟩:=Mv y;exact aa fk i _ (by rw[aa EK]at hi;omega) (bN hi)
  simp[this,YA]
 subst eT;go_wp2;go_ret;exact⟨rfl,BB⟩}}};{
 have be8:=rr 8 K;obtain rfl:B=dF:=by rw[aa il];simp[YA]
 go_wp2;go_ret;exact⟨rfl,ay⟩}}};{
 have hx1:(x==47)=dF:=by simp[kh]
 have hx2:(x != 47):=by simp[kh]
 have eF:B=dF:=by rw[<-aa eB,W,vp];exact bM8 kh
 subst eF;go_in;go_wp2;go_ret;exact⟨rfl,aR _ _⟩}
theorem WR{p:OA}{l:LI}(j:Le l n)(h:Rd w (.S p n c) l)(i:O (aA l))(hl:Mg n)(m:O (vp l=B)):dQ dG 110 #[.S p n c] w λe w'=>e=dR (jO B)/\Below (U (Q w)) w w':=by
 go_in
 go_wp21
 refine(dD9 j h i hl m).h ?_;rintro e q⟨⟨v,rfl⟩,o⟩;go_wp2;go_ret;exact⟨rfl,o⟩
abbrev Ev:=Int×LI
abbrev aC:=Int×Int×List Ev
structure au where
 A:LI
 V:LI
 D:Int
 M:Int
 y:LI
 P:Int
 F:Int
 X:LI
def RdU(w:G)(v:dV)(ns:LI):Prop:=
 ∃(p:OA)(c:Nat),v=.S p (J ns) c/\(ns=[]\/∃b o,p=(Ad b o)/\∀i,i<J ns->I w (Ad b (o+i))=dU (jE ns i 0))
def vo(w:G)(v:dV)(es:List Ev):Prop:=
 ∃(p:OA)(c:Nat),v=.S p (J es) c/\(es=[]\/∃b o,p=(Ad b o)/\∀i e,es[i]?=Y e->I w (Ad b (o+i*2))=dI e.1/\∃u,I w (Ad b (o+i*2+1))=Y u/\Rd w u e.2)
def mX(w:G)(v:dV)(ss:List aC):Prop:=
 ∃(p:OA)(c:Nat),v=.S p (J ss) c/\(ss=[]\/∃b o,p=(Ad b o)/\∀i s,ss[i]?=Y s->I w (Ad b (o+i*3))=dU s.1/\I w (Ad b (o+i*3+1))=dI s.2.1/\∃u,I w (Ad b (o+i*3+2))=Y u/\vo w u s.2.2)
theorem RdU.H{ns:LI}(h:RdU w v ns)(m:Bw w w'):RdU w' v ns:=by
 obtain⟨p,c,rfl,h⟩:=h;refine⟨p,c,rfl,?_⟩;obtain h|⟨b,o,rfl,h⟩:=h;{exact .L h};{exact .R ⟨b,o,rfl,λi j=>aj (h i j) m⟩}
theorem vo.H{es:List Ev}(h:vo w v es)(j:Bw w w'):vo w' v es:=by
 obtain⟨p,c,rfl,h⟩:=h;refine⟨p,c,rfl,?_⟩;obtain h|⟨b,o,rfl,h⟩:=h;{exact .L h};{refine .R ⟨b,o,rfl,λi e he=>?_⟩;let⟨r,u,q,m⟩:=h i e he;exact⟨aj r j,u,aj q j,m.H j⟩}
theorem mX.H{ss:List aC}(h:mX w v ss)(j:Bw w w'):mX w' v ss:=by
 obtain⟨p,c,rfl,h⟩:=h;refine⟨p,c,rfl,?_⟩;obtain h|⟨b,o,rfl,h⟩:=h;{exact .L h};{refine .R ⟨b,o,rfl,λi e he=>?_⟩;let⟨s,r,u,q,m⟩:=h i e he;exact⟨aj s j,aj r j,u,aj q j,m.H j⟩}
abbrev bS(e g x n:Int)(S N:dV):dV:=jP #[.U e,.U g,.U x,.I n,S,N]
variable {N:dV}
theorem Ya{e g x t:Int}{p:OA}{ss:List aC}(Z:Le ss n)(h:mX w (.S p n c) ss)(hn:Mg n){id:Int}(eB:O ((ss.any λs=>s.1==id)=B)):dQ dG 165 #[bS e g x t (.S p n c) N,.U id] w (Rb (jO B) w):=by
 have HR:=af λ(w':G)(hb:Bw w w')=>h.H hb;clear h;go_in
 go_wp21
 let⟨W,q⟩:=aF (jA w (dO #[.U e,.U g,.U x,.I t,.S p n c,N] 34));have E:=ij q;have AM:I W (Aw w 4)=dS p n c:=by rw[q];simp
 rw[<-q];clear q;have X:=aa HR _ E;have HS:=af X;have BW:=af E;clear X E HR
 go_loopw[5](λu wr=>∃k:Nat,k<=n/\u=.I k/\O (((jT k ss).any λs=>s.1==id)=dF)/\wr=W) (λu _=>n-(jN (intOf u)))
 exact⟨0,cT _,rfl,(by show _=_;simp),rfl⟩;{
 obtain⟨k,hk,rfl,R,rfl⟩:=hrel;by_cases aL:k<n;{
 have cM:=bR k n;have r:k<J ss:=by rw[aa Z];exact aL
 obtain⟨y,D⟩:∃y,ss[k]?=Y y:=⟨_,bN r⟩;let⟨p',c',ev,V⟩:=aa HS;simp only[ti]at ev;obtain⟨rfl,-,-⟩:=ev;obtain⟨b,o,rfl,M⟩:∃b o,p=(Ad b o)/\∀i s,ss[i]?=Y s->I wr (Ad b (o+i*3))=dU s.1:=by obtain h0|⟨b,o,h1,h2⟩:=V;{rw[h0]at r;simp at r};{exact⟨b,o,h1,λi s hi=>(h2 i s hi).1⟩}
 have sL:=M k y D;have HY:=af D;clear M V D r;by_cases j:y.1=id;{
 have eT:B:=by rw[<-aa eB,Ur];exact⟨y,bq (aa HY),by simp[j]⟩
 subst eT;have m:(y.1==id):=by simp[j]
 go_wp2;go_ret;exact⟨rfl,BW⟩};{
 have m:(y.1==id)=dF:=by simp[j]
 have Yt:O (((jT (k+1) ss).any λs=>s.1==id)=dF):=by show _=_;rw[sE,aa HY,List.any_append,aa R];simp[m]
 go_wp2;go_roundw;exact⟨k+1,ae,by go_num,Yt,by first|rfl|trivial⟩;exact dh}};{
 have cM:=fG k n;have eF:B=dF:=by rw[<-aa eB];have:=aa R;rwa [od (by rw[aa Z];omega)]at this
 subst eF;go_wp2;go_ret;exact⟨rfl,BW⟩}}
abbrev Bn(ns:List au):Prop:=∀nd∈ns,aA nd.A/\J nd.A<=2^20/\J nd.V<=2^20/\J nd.y<=2^20/\J nd.X<=2^20
abbrev Bs(ss:List aC):Prop:=∀s∈ss,J s.2.2<=2^20/\∀e∈s.2.2,aA e.2/\J e.2<=2^20
abbrev Bu(ns:List au):Prop:=∀nd∈ns,(∀i∈nd.y,0<=i/\i<2^64)/\∀i∈nd.X,0<=i/\i<2^64
abbrev Bo(ns:List au):Prop:=∀nd∈ns,0<=nd.D/\nd.D<2^64
def live(ss:List aC)(id:Int):Bool:=ss.any λs=>s.1==id
def II(ss:List aC)(ids:LI)(i:Nat):Bool:=live ss (jE ids i 0)&&(i==0||decide (jE ids (i-1) 0<jE ids i 0))
def rK(ss:List aC)(ids:LI):Bool:=(jR (J ids)).all (II ss ids)
variable {f:Nat->Bool}
theorem Fz(h:(jR k).all f)(i:f k):(jR (k+1)).all f:=by
 rw[aV1,List.all_append,h];simp[i]
theorem Ik(i:k<n)(h:f k=dF):(jR n).all f=dF:=by
 rw[XJ];exact⟨k,xl.2 i,by simp[h]⟩
abbrev gH(w:G)(b:Nat)(e g x t:Int)(S N:dV):Prop:=I w (Ad b 0)=dU e/\I w (Ad b 1)=dU g/\I w (Ad b 2)=dU x/\I w (Ad b 3)=dI t/\I w (Ad b 4)=S/\I w (Ad b 5)=N
theorem gH.H{e g x t:Int}{S:dV}(h:gH w b e g x t S N)(i:Bw w w'):gH w' b e g x t S N:=
 ⟨aj h.1 i,aj h.2.1 i,aj h.2.2.1 i,aj h.2.2.2.1 i,aj h.2.2.2.2.1 i,aj h.2.2.2.2.2 i⟩
theorem ap0{e g x t:Int}{p q:OA}{ss:List aC}{ids:LI}(en:Le ss n)(em:Le ids m)(h:mX w (.S p n c) ss)(hi:RdU w (.S q m d) ids)(hn:Mg n)(hm:Mg m)(eB:O (rK ss ids=B)):dQ dG 166 #[bS e g x t (.S p n c) N,.S q m d] w (Rb (jO B) w):=by
 have HR:=af λ(w':G)(hb:Bw w w')=>aD (h.H hb) (hi.H hb);go_in
 go_wp21
 let⟨W,hW⟩:=aF (jA w (dO #[.U e,.U g,.U x,.I t,.S p n c,N] 34));have bW:=ij hW;have AL:gH W (U (Q w)) e g x t (.S p n c) N:=by rw[hW];simp[gH]
 rw[<-hW];have BW:=af bW;have Fl:=af AL
 go_loopw[5](λiv wr=>∃k:Nat,k<=m/\iv=.I k/\O ((jR k).all (II ss ids))/\Bw W wr) (λiv _=>m-(jN (intOf iv)))
 exact⟨0,cT _,rfl,cO,aR _ _⟩;{
 obtain⟨k,hk,rfl,fk,aB⟩:=hrel;have BB:=ah BW aB;by_cases aL:k<m;{
 have cM:=bR k m;have db:k<J ids:=aa em▸aL;let⟨hS,hU⟩:=aa HR _ BB;obtain⟨b,o,rfl,ig⟩:∃b o,q=(Ad b o)/\∀i,i<m->I wr (Ad b (o+i))=dU (jE ids i 0):=by obtain⟨p',c',ev,hd⟩:=hU;obtain⟨rfl,-,-⟩:=mg ev;obtain h0|⟨b,o,h1,h2⟩:=hd;{rw[h0]at db;simp at db};{exact⟨b,o,h1,λi hi=>h2 i (aa em▸hi)⟩}
 have i6:=Fl.H aB;have Z:=ig k aL;let⟨y,ey⟩:=aZ (jE ids k 0);rw[ey]at Z;have JD:=af hS;let⟨L,eL⟩:=aZ (live ss y);have EL:O ((ss.any λs=>s.1==y)=L):=eL;have gi:II ss ids k=(L&&(k==0||decide (jE ids (k-1) 0<y))):=by rw[II,ey,eL]
 have hF:II ss ids k=dF->B=dF:=λh=>by rw[<-aa eB,rK,aa em];exact Ik aL h
 cases L with
 |false=>
  obtain rfl:=hF (by rw[gi];rfl);have D:=br i6 Z
  go_wp21
  refine fK (λw'=>gH w' (U (Q w)) e g x t (.S p n c) N/\I w' (Ad b (o+k))=dU y) (by exact D) λhS=>?_;refine iL 0 1 2 3 hS ?_;refine tn 4 hS ?_;refine ry [5] ?_;refine cn (λKK hK=>?_) ?_;{refine CK (Ya en (JD.H aH.drew) hn EL) ?_;rintro r M⟨rfl,X⟩;refine⟨_,rfl,?_⟩;have u:Bw wr M:=ah (aR (U (Q wr)) wr).drew X;refine bQ hK ⟨D.1.H u,aj D.2 u⟩ λhS=>?_;refine gh 6 7 hS ?_;refine lT 8 9 10 11 hS ?_;refine lT 12 13 14 15 hS ?_;refine lT 16 17 18 19 hS ?_;refine sn 20 hS ?_;refine sn 21 hS ?_;refine tn 22 hS ?_;refine ga ?_;have V:=ah BB u;go_wp2;go_ret;exact⟨rfl,V⟩};exact fI
 |true=>
  by_cases nL:k=0;{
 have lh:O ((jR (k+1)).all (II ss ids)):=Fz fk (by rw[gi,nL];rfl);have HK0:=af nL;have hp:¬0<k:=ae;have MM:¬(0:Int)<(k:Int):=ae;have D:=br i6 Z;clear gi hF eL ig ey nL i6 Z
 go_wp21
 refine fK (λw'=>gH w' (U (Q w)) e g x t (.S p n c) N/\I w' (Ad b (o+k))=dU y) (by exact D) λhS=>?_;refine iL 0 1 2 3 hS ?_;refine tn 4 hS ?_;refine ft 5 λKK hK=>?_;refine CK (Ya en (JD.H aH.drew) hn EL) ?_;rintro r M⟨rfl,X⟩;refine⟨_,rfl,?_⟩;have u:Bw wr M:=ah (aR (U (Q wr)) wr).drew X;refine bQ hK ⟨D.1.H u,aj D.2 u⟩ λhS=>?_;clear hK KK;refine iL 6 7 8 9 hS ?_;refine tn 10 hS ?_;refine lT 11 12 13 14 hS ?_;refine lT 15 16 17 18 hS ?_;refine sn 19 hS ?_;refine sn 20 hS ?_;refine gh 21 22 hS ?_;refine ga ?_;have V:=ah aB u;go_wp2;go_roundw;exact⟨k+1,ae,by go_num,lh,V⟩;exact dh};{
 obtain⟨j,ej⟩:∃j:Nat,(k:Int)-1=(j:Int):=⟨k-1,ae⟩;have DH:k-1=j:=ae;have U7:=ig j ae;let⟨z,ez⟩:=aZ (jE ids j 0);rw[ez]at U7;rw[DH,ez]at gi;have hp:0<k:=ae;have MM:=rr 0 k;have QC:=bR j m;have YD:=gr 0 j;have wj:=iw j;by_cases hzy:z<y;{
 have hle:¬y<=z:=ae;have be3:dD (y<=z)=dF:=by simp;omega
 have lh:O ((jR (k+1)).all (II ss ids)):=Fz fk (by rw[gi];simp[hzy]);have D:=dy i6 Z U7
 go_wp21
 refine fK (λw'=>gH w' (U (Q w)) e g x t (.S p n c) N/\I w' (Ad b (o+k))=dU y/\I w' (Ad b (o+j))=dU z) (by exact D) λhS=>?_;refine iL 0 1 2 3 hS ?_;refine tn 4 hS ?_;refine ft 5 λKK hK=>?_;refine CK (Ya en (JD.H aH.drew) hn EL) ?_;rintro r M⟨rfl,X⟩;refine⟨_,rfl,?_⟩;have u:Bw wr M:=ah (aR (U (Q wr)) wr).drew X;refine bQ hK ⟨D.1.H u,aj D.2.1 u,aj D.2.2 u⟩ λhS=>?_;refine jh 6 7 8 9 10 11 12 13 hS ?_;refine jh 14 15 16 17 18 19 20 21 hS ?_;refine tn 22 hS ?_;refine ga ?_;have V:=ah aB u;go_wp2;go_roundw;exact⟨k+1,ae,by go_num,lh,V⟩;exact dh};{
 have hle:y<=z:=ae;have be3:dD (y<=z):=by simp;omega
 obtain rfl:=hF (by rw[gi];simp[hzy,nL]);have D:=dy i6 Z U7
 go_wp21
 refine fK (λw'=>gH w' (U (Q w)) e g x t (.S p n c) N/\I w' (Ad b (o+k))=dU y/\I w' (Ad b (o+j))=dU z) (by exact D) λhS=>?_;refine iL 0 1 2 3 hS ?_;refine tn 4 hS ?_;refine ft 5 λKK hK=>?_;refine CK (Ya en (JD.H aH.drew) hn EL) ?_;rintro r M⟨rfl,X⟩;refine⟨_,rfl,?_⟩;have u:Bw wr M:=ah (aR (U (Q wr)) wr).drew X;refine bQ hK ⟨D.1.H u,aj D.2.1 u,aj D.2.2 u⟩ λhS=>?_;refine jh 6 7 8 9 10 11 12 13 hS ?_;refine jh 14 15 16 17 18 19 20 21 hS ?_;refine tn 22 hS ?_;refine ga ?_;have V:=ah BB u;go_wp2;go_ret;exact⟨rfl,V⟩}}};{
 have cM:=fG k m;have eT:B:=by
  rw[<-aa eB,rK,aa em];have:k=m:=by omega
  rw[<-this];exact fk
 subst eT;go_wp2;go_ret;exact⟨rfl,BB⟩}}
def xA(k:Nat)(v x:Int):Int:=bits .or jU v (jY jU (x % 128*2 ^ (7*k)))
theorem aC0{v x:Int}:0<=xA k v x/\xA k v x<2^64:=by
 have j:=bits_lo_u64 .or v (jY jU (x % 128*2 ^ (7*k)));have i:=bits_hi_u64 .or v (jY jU (x % 128*2 ^ (7*k)));unfold xA;omega
theorem tm(x:Nat):(x:Int) % 128=((x % 128:Nat):Int):=by omega
theorem bw8{x:Nat}{c:Int}(hc:c % 128=(x:Int))(o:x<128)(j:a<2 ^ (7*k))(q:a+x*2 ^ (7*k)<2^64):xA k a c=((a+x*2 ^ (7*k):Nat):Int):=by
 unfold xA;rw[hc];have m:jY jU ((x:Int)*2 ^ (7*k))=((x*2 ^ (7*k):Nat):Int):=by
  rw[uW];have:((x:Int)*2 ^ (7*k))=((x*2 ^ (7*k):Nat):Int):=by push_cast;rfl
  rw[this];omega
 rw[m];have i:=bits_join_low jU 64 aX wraps_u64 (7*k) (a:Int) ((x*2 ^ (7*k):Nat):Int) ae (by exact_mod_cast j) ae ae (by
  have:((x*2 ^ (7*k):Nat):Int) % 2 ^ (7*k)=((x*2 ^ (7*k) % 2 ^ (7*k):Nat):Int):=by push_cast;rfl
  rw[this,Nat.mul_mod_left];rfl) ae
 rw[i]
 push_cast
 rfl
def vy:Nat->Nat->Int->LI->Option (Int×LI)
 |0,_,_,_=>dN
 |_+1,_,_,[]=>dN
 |f+1,k,a,c::t=>if c<128 then Y (xA k a c,t)else vy f (k+1) (xA k a c) t
def rv(m:LI):Option (Int×LI):=vy 10 0 0 m
theorem bU5(k:Nat):2 ^ (7*(k+1))=128*2 ^ (7*k):=by
 rw[Nat.mul_add,Nat.pow_add,XH]
theorem dj8(f:Nat):∀(k a x:Nat)(rest:LI),x<128 ^ (f+1)->a<2 ^ (7*k)->a+x*2 ^ (7*k)<2^64->vy (f+1) k a (rA f x++rest)=Y (((a+x*2 ^ (7*k):Nat):Int),rest):=by
 induction f with
 |zero=>
  intro k a x rest o m j;have y:x<128:=by simpa using o
  rw[rA];simp only[Al,Ef,vy];rw[aK ae,bw8 (by rw[tm];omega) y m j]
 |succ f ih=>
  intro k a x rest o m j;by_cases h:x<128;{rw[JT h];simp only[Al,Ef,vy];rw[aK ae,bw8 (by rw[tm];omega) h m j]};{
 rw[aI1 h];simp only[Al,vy];have s:=Nat.div_add_mod x 128;have u:=Nat.mod_lt x (show 0<128 by omega);generalize x / 128=q at*;generalize x % 128=r at*;subst s;have i:(128*q+r)*2 ^ (7*k)=q*2 ^ (7*(k+1))+r*2 ^ (7*k):=by rw[bU5,Nat.add_mul,XH 128 q,Nat.mul_assoc]
 rw[aJ ae,bw8 (by rw[tm];omega) u m (by rw[i]at j;omega),ih (k+1) (a+r*2 ^ (7*k)) q rest ?_ ?_ ?_];{rw[i];congr 2;simp;omega};{rw[XI]at o;omega};{rw[bU5];have:r*2 ^ (7*k)<=127*2 ^ (7*k):=XG _ ae;omega};{rw[i]at j;omega}}
theorem Mh{s:Nat}(rest:LI)(i:s<2^64):rv (vi s++rest)=Y ((s:Int),rest):=by
 have:=dj8 9 0 0 s rest ae aX ae;simpa[rv,vi]using this
theorem aj0(f:Nat):∀(k:Nat)(a:Int)(m:LI)(v:Int)(t:LI),vy f k a m=Y (v,t)->0<=v/\v<2^64/\J t<J m/\t=jD (J m-(J t)) m:=by
 induction f with
 |zero=>intro k a m v t h;simp[vy]at h
 | succ f ih=>
  intro k a m v t h;cases m with
  |nil=>simp[vy]at h
  |cons c m=>
   rw[vy]at h;split at h;{simp at h;obtain⟨rfl,rfl⟩:=h;have:=aC0 (k:=k) (v:=a) (x:=c);refine⟨this.1,this.2,ai,?_⟩;rw[ni,show J m+1-(J m)=1 by omega];rfl};{let⟨q,j,r,i⟩:=ih _ _ _ _ _ h;refine⟨q,j,cg,?_⟩;rw[ni,show J m+1-(J t)=(J m-(J t))+1 by omega,yE];exact i}
def vOf:Option (Int×LI)->Int
 |some x=>x.1
 |none=>0
def aOf(n:Nat):Option (Int×LI)->Int
 |some x=>(n:Int)-(J x.2)
 |none=>-1
theorem do6{p:OA}:dQ dG 69 #[.S p n c,.I (-1)] w λe w'=>e=dR (dT #[.I 0,.I (-1)])/\w'=w:=by
 go_in;go_wp2;go_ret2;exact⟨rfl,rfl⟩
theorem do7{p:OA}(hl:Mg n):dQ dG 69 #[.S p n c,.I n] w λe w'=>e=dR (dT #[.I 0,.I (-1)])/\w'=w:=by
 have j:¬(n:Int)<0:=ae;have i:=nT n n;go_in;go_wp2;go_ret2;exact⟨rfl,rfl⟩
theorem do8{p:OA}{l:LI}(i:Le l n)(h:Rd w (.S p n c) l)(s:aA l)(hl:Mg n)(j:a<n):dQ dG 69 #[.S p n c,.I a] w λe w'=>e=dR (dT #[.I (jE l a 0),.I ((a+1:Nat):Int)])/\w'=w:=by
 obtain⟨b,o,rfl,-,hc⟩:=h.at (by rw[aa i];omega);have q:=hc a (aa i▸j);have r:0<=jE l a 0/\jE l a 0<256:=by have m:a<J l:=aa i▸j;rw[show jE l a 0=l[a] by simp[List.getD,m]];exact s _ (Ao m)
 let⟨x,ex⟩:=aZ (jE l a 0);rw[ex]at q r⊢;have D:¬(a:Int)<0:=ae;have B:¬(n:Int)<=(a:Int):=ae;have y:=bR a n;have u:jY jV x=x:=l8 _ ae;clear hc ex;go_in;go_wp2;go_ret2;exact⟨ai,rfl⟩
theorem bS7{p:OA}:dQ dG 67 #[.S p n c,.I (-1)] w λe w'=>e=dR (dT #[.U 0,.I (-1)])/\w'=w:=by
 go_in
 go_wp21
 go_loopw[6,7](λj i wr=>j=.U 0/\i=.I 0/\wr=w) (λ_ i _=>10-(jN (intOf i)))
 exact⟨rfl,rfl,rfl⟩;{obtain⟨rfl,rfl,rfl⟩:=hrel;go_wp2;go_ret2;exact⟨rfl,rfl⟩}
theorem eq7{l:LI}(h:a<J l):jD a l=jE l a 0::jD (a+1) l:=by
 rw[Mm h];simp[List.getD,h]
theorem bS8{p:OA}{l:LI}(m:Le l n)(h:Rd w (.S p n c) l)(B:aA l)(hl:Mg n)(ha:a<=n){r:Option (Int×LI)}(er:O (rv (jD a l)=r)):dQ dG 67 #[.S p n c,.I a] w λe w'=>e=dR (dT #[.U (vOf r),.I (aOf n r)])/\w'=w:=by
 have HR:=af h;have HB:=af B;have ha0:¬(a:Int)<0:=ae;clear h B;go_in
 go_wp21
 go_loopw[6,7](λX s wr=>∃(v:Int)(k:Nat),X=.U v/\k<=10/\s=.I k/\O (r=vy (10-k) k v (jD (a+k) l))/\wr=w) (λ_ s _=>10-(jN (intOf s)))
 exact⟨0,0,rfl,ae,rfl,(by show _=_;rw[<-aa er];rfl),rfl⟩;{
 obtain⟨v,k,rfl,hk,rfl,q,rfl⟩:=hrel;by_cases EP:k<10;{
 have y:(k:Int)<10:=ae;obtain⟨A,eA⟩:∃A:Nat,(a:Int)+(k:Int)=(A:Int):=⟨a+k,ae⟩;have ZO:a+k=A:=ae;have i:=aa q;rw[ZO,show 10-k=(9-k)+1 by omega]at i;by_cases u:A<n;{
 have hA:=bR A n;have R:¬(n:Int)<=(A:Int):=ae;obtain⟨b,o,rfl,-,hc⟩:=HR.at (by rw[aa m];omega);have V:=hc A (aa m▸u);have Z:0<=jE l A 0/\jE l A 0<256:=by have N:A<J l:=aa m▸u;rw[show jE l A 0=l[A] by simp[List.getD,N]];exact HB _ (Ao N)
 rw[eq7 (aa m▸u)]at i;let⟨x,ex⟩:=aZ (jE l A 0);rw[ex]at V Z i;have w7:jY jV (7*(k:Int))=7*(k:Int):=l8 _ ae;rw[vy]at i;clear hc ex q;by_cases j:x<128;{
 rw[aK j]at i;have M:vOf r=xA k v x:=by rw[i];rfl
 have D:aOf n r=(A:Int)+1:=by rw[i];show(n:Int)-(J (jD (A+1) l):Nat)=_;rw[uC,aa m];omega
 have E:=br M D;clear M D i;go_wp2;go_ret2;rw[E.1,E.2];exact⟨rfl,rfl⟩};{
 have fg9:¬x<128:=j;rw[aJ j]at i;have W:O (r=vy (10-(k+1)) (k+1) (xA k v x) (jD (a+(k+1)) l)):=by show _=_;rw[i,show 10-(k+1)=9-k by omega,show a+(k+1)=A+1 by omega]
 clear i;go_wp2;go_roundw;exact⟨xA k v x,k+1,rfl,ae,by go_num,W,by first|rfl|trivial⟩;exact dh}};{have R:=nT n A;rw[Ut (by rw[aa m];omega),vy]at i;subst i;clear q;go_wp2;go_ret2;exact⟨rfl,rfl⟩}};{have y:¬(k:Int)<10:=ae;have i:=aa q;rw[show 10-k=0 by omega,vy]at i;subst i;clear q;go_wp2;go_ret2;exact⟨rfl,rfl⟩}}
def rt(m:LI):Option (LI×LI):=
 match rv m with
 |none=>dN
 |some x=>if(J x.2:Int)<x.1 then dN else Y (jT (jN x.1) x.2,jD (jN x.1) x.2)
def Tw:Option (LI×LI)->LI
 |some x=>x.1
 |none=>[]
def bOf(n:Nat):Option (LI×LI)->Int
 |some x=>(n:Int)-(J x.2)
 |none=>-1
theorem do4{p:OA}:dQ dG 68 #[.S p n c,.I (-1)] w λe w'=>e=dR (dT #[aq,.I (-1)])/\w'=w:=by
 go_in
 go_wp21
 refine(bS7).h ?_;rintro e w'⟨rfl,rfl⟩;go_wp2;go_ret2;exact⟨rfl,rfl⟩
theorem do5{p:OA}{l:LI}(B:Le l n)(h:Rd w (.S p n c) l)(hb:aA l)(hl:Mg n)(oU:n<=c)(ha:a<=n){r:Option (LI×LI)}(er:O (rt (jD a l)=r)){N:Nat}(u:O (J (Tw r)=N)):dQ dG 68 #[.S p n c,.I a] w λe w'=>∃p' c',e=dR (dT #[.S p' N c',.I (bOf n r)])/\Own (U (Q w)) w' (.S p' N c') (Tw r)/\Bw w w':=by
 let⟨x,ex⟩:=aZ (rv (jD a l));have i:=aa er;rw[rt,ex]at i;go_in
 go_wp21
 refine(bS8 B h hb hl ha ex).h ?_;rintro e w'⟨rfl,rfl⟩;cases x with
 |none=>
  subst i;obtain rfl:N=0:=by rw[<-aa u];rfl
  dsimp only[vOf,aOf];go_wp2;go_ret2;exact⟨dN,0,rfl,nK _ _ _ _,aR _ _⟩
 |some x=>
  obtain⟨v,t⟩:=x;have gU:=aj0 10 0 0 _ v t ex;rw[uC,aa B]at gU;obtain⟨v0,v1,Yi,j⟩:=gU;let⟨T,s⟩:=aZ (J t);dsimp only at i;rw[s]at i Yi j;let⟨A,eA⟩:=aZ (n-T);have m:t=jD A l:=by rw[j,FQ];congr 1;omega
  have Z:aOf n (Y (v,t))=(A:Int):=by show(n:Int)-(J t:Nat)=_;rw[s];omega
  have ev:vOf (Y (v,t))=v:=rfl;rw[Z,ev];have hA0:¬(A:Int)<0:=ae;have hAn:(n:Int)-(A:Int)=(T:Int):=ae;have wT:jY jU (T:Int)=(T:Int):=by rw[uW];omega
  by_cases y:(T:Int)<v;{
 rw[aK y]at i;subst i;obtain rfl:N=0:=by rw[<-aa u];rfl
 clear er Z ev ex j m;go_wp2;go_ret2;exact⟨dN,0,rfl,nK _ _ _ _,aR _ _⟩};{
 rw[aJ y]at i;obtain⟨V,rfl⟩:∃V:Nat,v=(V:Int):=⟨jN v,ae⟩;have eV:jN ((V:Int))=V:=ae;rw[eV]at i;obtain rfl:N=V:=by rw[<-aa u,<-i];show J (jT V t)=V;rw[te,s];omega
 have DB:bOf n r=((A+N:Nat):Int):=by rw[<-i];show(n:Int)-(J (jD N t):Nat)=_;rw[uC,s];omega
 have M:Tw r=jD A (jT (A+N) l):=by rw[<-i];show jT N t=_;rw[m,List.drop_take,cb4]
 obtain⟨b,o,rfl,-,-⟩:=h.at (by rw[aa B];omega);have hcut:∀(q:OA)(d:Nat),(A+N=A\/q=(Ad b (o+A)))->Rd w' (.S q N d) (Tw r):=λq d hq=>by have:=h.cut A (A+N) ae (by rw[aa B];omega) q hq d (Tw r) M;rwa [cb4]at this
 let⟨E,eE⟩:=aZ (A+N);rw[eE]at hcut;have wN:=iw N;have hAE:(A:Int)+(N:Int)=(E:Int):=ae;have Jd:=nT A E;have hE2:=nT E c;have Nh:E-A=N:=ae;have hvv:¬(T:Int)<(N:Int):=y;have HC:=af hcut;have D:=nF DB M eE s eA;clear er i Z ev ex j m hcut DB M eE s eA y eV h hb;by_cases I5:c=A;{
 have X:A=E:=ae;have Zj:N=0:=ae;subst I5;subst X;subst Zj
 go_wp21
 refine(Dp u (aa HC _ _ (.L (by first|rfl|trivial))) ae).h ?_;rintro e w2⟨R,c2,rfl,W,b2⟩;go_wp2;go_ret2;exact⟨R,c2,by rw[D.1,D.2.2.1];rfl,W,b2⟩};{
 have dU3:¬(c:Int)=(A:Int):=ae;have fl7:c≠A:=I5;have wE:=iw E;have hNb:N<=2^21:=ae;have HE4:=af Nh;clear Yi I5 Nh dU3 v0 v1
 go_wp21
 rw[aa HE4];refine(Dp u (aa HC _ _ (.R rfl)) ae).h ?_;rintro e w2⟨R,c2,rfl,W,b2⟩;go_wp2;go_ret2;exact⟨R,c2,by rw[D.1,D.2.2.1];rfl,W,b2⟩}}
open Go.Maps (Keyed IsMap)
def iB:dV->Option (DataW Unit×List MemPlace)
 |dP (Y ⟨b,0,dN⟩)=>Y (.lit (.int jV b),[])
 |dP dN=>Y (.nil,[])
 |_=>dN
theorem Ub(b:Nat):iB (Pz b)=Y (.lit (.I b),[]):=rfl
theorem Uc(h:iB v=Y (.lit (.I b),ps)):v=Pz b:=by
 unfold iB at h;split at h;{simp only[nJ,jk,DataW.lit.injEq,Mq,Iq,Int.natCast_inj]at h;rw[h.1]};{simp at h};{simp at h}
theorem aP3(h:iB v=Y (.nil,ps)):v=dP dN:=by
 unfold iB at h;split at h;{simp at h};{rfl};{simp at h}
structure qC(D:DataW Unit)(l:List (Lit×Nat)):Prop where
 hs:∀k,Maps.has D k=dY↔∃p∈l,p.1=k
 at':∀p∈l,∀z,D.atKey p.1 z=.lit (.I p.2)
theorem qC.nil:qC (.map []) []:=⟨λk=>by simp[Maps.has],λp hp=>by simp at hp⟩
theorem qC.put{l:List (Lit×Nat)}(h:qC D l)(o:IsMap D){k:Lit}(m:WideAt.IsKeyLit k)(q:∀p∈l,p.1≠k)(g:Nat):qC (D.put k (.lit (.I g))) (l++[(k,g)]):=by
 refine⟨λj=>?_,λp i z=>?_⟩;{by_cases e:j=k;{subst e;simp[Maps.has_put_same o m]};{rw[Maps.has_put_other e,h.hs j];constructor;{rintro⟨p,i,rfl⟩;exact⟨p,by simp[i],rfl⟩};{rintro⟨p,i,rfl⟩;obtain i|i:=jg.1 i;{exact⟨p,i,rfl⟩};{simp at i;subst i;exact absurd rfl e}}}};{obtain i|i:=jg.1 i;{rw[Maps.atKey_put_other (q p i)];exact h.at' p i z};{simp at i;subst i;exact Maps.atKey_put_same o m _ _}}
def kM(D:DataW Unit)(s:LI):Prop:=∀k,Maps.has D k=dY↔∃i∈s,k=.U i
theorem kM.nil:kM (.map []) []:=λk=>by simp[Maps.has]
theorem kM.put{s:LI}(h:kM D s)(q:IsMap D)(i:Int)(d:DataW Unit):kM (D.put (.U i) d) (s++[i]):=by
 intro o;by_cases e:o=.U i;{subst e;rw[Maps.has_put_same q (by trivial)];simp};{rw[Maps.has_put_other e,h o];constructor;{rintro⟨j,m,rfl⟩;exact⟨j,by simp[m],rfl⟩};{rintro⟨j,m,rfl⟩;obtain m|m:=jg.1 m;{exact⟨j,m,rfl⟩};{simp at m;subst m;exact absurd rfl e}}}
theorem kM.dg0{s:LI}(h:kM D s)(m:IsMap D)(j:∀es,D=.map es->∀p∈es,WideAt.IsKeyLit p.1):Maps.size D=0↔s=[]:=by
 obtain⟨es,rfl⟩:=m;constructor;{
 intro q;obtain rfl:es=[]:=vI.1 q;cases s with
 |nil=>rfl
 |cons i s=>
  have:=(h (.U i)).2 ⟨i,ai,rfl⟩;simp[Maps.has]at this};{
 rintro rfl;cases es with
 |nil=>rfl
 |cons p es=>
  have:=(h p.1).1 (by rw[Maps.has_eq];simp[an2 (j _ rfl p ai)]);simp at this}
section
variable {P:Program}(w:World){ops:iQ}{rest:List Oper}{o:Oper}{a:Act}{iZ:Exit->Act->World->Prop}
theorem OP{α:Type}(hg:o.guard=dN)(it:Operand)(S:o.op=Op.next it dF)(k:TypeId)(K:Keyed P k)(i:α->dV)(M:∀key j,keyOf P k key=Y j->∃x,key=i x)(b r n:Nat)(D:DataW Unit)(l:List (Lit×Nat))(W:qC D l)(left:Lit->Bool)(s:Nat)(m:a.eval it=Pz r)(h:w.ranges P k iB b r n D left s)(N:s=0->(∀j,left j=dF)->wpList P ops iZ rest (a.put o.dst (dT #[jO dF])) w)(R:∀(x:α)(p:Lit×Nat)(w':G)(q:Nat),keyOf P k (i x)=p.1->p∈l->left p.1->w'.ranges P k iB b r n D (λz=>left z&&!z.sameKey p.1) q->q<s→
   jG w w' r->U (Q w')=U (Q w)->(Instr.entry (Pz r)).run P w'=.ok (dT #[i x,Pz p.2]) w'->wpList P ops iZ rest (a.put o.dst (dT #[jO dY,i x,Pz p.2])) w'):wpList P ops iZ (o::rest) a w:=by
 refine wpList_plain hg λK' hK'=>?_;unfold Oper.wp;obtain⟨h0,hl,E⟩|⟨key,v,j,y,w',q,Z,B,hv,X,E,gU,aL,pW,gK,tA⟩:=h.next K o.type;{simp[execOp,S,m,E,Result.andThen];exact hK' _ _ (N h0 hl)};{
 obtain⟨x,rfl⟩:=M key j Z;obtain⟨p,V,rfl⟩:=(W.hs j).1 (Maps.has_true_of_atKey X);have e1:y.1=.lit (.I p.2):=by rw[<-X .nil];exact W.at' p V _
 obtain⟨y1,y2⟩:=y;simp only at e1;subst e1;obtain rfl:=Uc hv;simp[execOp,S,m,E,Result.andThen];exact hK' _ _ (R x p w' q Z V B gU aL pW gK tA)}
theorem cW3(hg:o.guard=dN)(it:Operand)(N:o.op=Op.next it dF)(k:TypeId)(K:Keyed P k)(hk:P.underlying k=Y (.int jU))(b r n:Nat)(D:DataW Unit)(s:LI)(hM:kM D s)(left:Lit->Bool)(q:Nat)(j:a.eval it=Pz r)(h:w.ranges P k unitElem b r n D left q)(E:q=0->(∀R,left R=dF)->wpList P ops iZ rest (a.put o.dst (dT #[.bool dF])) w)(M:∀(x:Int)(w':G)(m:Nat),(Lit.U x).wf->x∈s->left (.U x)->w'.ranges P k unitElem b r n D (λz=>left z&&!z.sameKey (.U x)) m->m<q→
   jG w w' r->U (Q w')=U (Q w)->(Instr.entry (Pz r)).run P w'=.ok (dT #[.U x,.agg #[]]) w'->wpList P ops iZ rest (a.put o.dst (dT #[.bool dY,.U x,.agg #[]])) w'):wpList P ops iZ (o::rest) a w:=by
 refine wpList_plain hg λK' hK'=>?_;unfold Oper.wp;obtain⟨h0,Z,B⟩|⟨key,v,R,y,w',m,fe,u,X,gi,B,gU,aL,W,gK,V⟩:=h.next K o.type;{simp[execOp,N,j,B,Result.andThen];exact hK' _ _ (E h0 Z)};{obtain⟨x,rfl,rfl,Yg⟩:=Maps.keyOf_int_inv hk fe;let⟨i,hi,S⟩:=(hM _).1 (Maps.has_true_of_atKey gi);simp only[Mq,Iq]at S;subst S;obtain⟨rfl,_⟩:=unitElem_inv X;simp[execOp,N,j,B,Result.andThen];exact hK' _ _ (M x w' m Yg hi u gU aL W gK V)}
end
def dr(l:LI):Lit:=.string (l.map λn=>UInt8.ofNat n.toNat)
theorem MC{l m:LI}(hl:aA l)(hm:aA m)(h:dr l=dr m):l=m:=by
 simp only[dr,aS5]at h;exact map_inj hl hm h
theorem VH(l:LI):Lit.string (bf l).data.toList=dr l:=by rw[<-ByteArray.toList_eq,Cv];rfl
theorem dA4{s:ByteArray}{l:LI}(h:Lit.string s.data.toList=dr l):s=bf l:=by
 rw[<-VH]at h;simp only[aS5]at h;cases s with|mk d=>cases hb:bf l with|mk d'=>(rw[hb]at h;simp only at h;congr;exact ao0.1 h)
theorem gF(h:w'.heap[b]?=w.heap[b]?)(o:Nat):I w' (Ad b o)=I w (Ad b o):=by
 unfold World.cell?;rw[h]
def aO(w:G)(b:Nat)(vs:List dV):Prop:=(∀i v,vs[i]?=Y v->I w (Ad b i)=Y v)/\∀o,jF w (Ad b o)=dF
theorem aO.alloc(w:G)(cs:iA)(t:TypeId):aO (jA w (dO cs t)) (U (Q w)) cs.toList:=by
 refine⟨λi v h=>?_,λo=>?_⟩;{rw[aV6]at h;simp[h]};{simp[go_sem]}
theorem aO.H(h:aO w b vs)(m:b<U (Q w))(j:Bw w w'):aO w' b vs:=
 ⟨λi v q=>(j.cell (p:=(Ad b i)) m).Z (h.1 i v q),λo=>(j.frozen (p:=(Ad b o)) m).Z (h.2 o)⟩
variable {a:Addr}
theorem aO.nS(h:aO w b vs)(q:b≠a.block)(u:dV):aO (w.setCell a u) b vs:=by
 have j:(w.setCell a u).heap[b]?=w.heap[b]?:=fN _ _ _ _ q;refine⟨λi v m=>(gF j _).Z (h.1 i v m),λo=>?_⟩;have:jF (w.setCell a u) (Ad b o)=jF w (Ad b o):=Dj j;rw[this];exact h.2 o
theorem aO.dt(h:aO w b vs)(j:Nat)(q:j<J vs)(u:dV):aO (jS w (Ad b j) u) b (vs.set j u):=by
 have hc:=h.1 j _ (bN q);refine⟨λi v m=>?_,λo=>by simp[h.2 o]⟩;by_cases e:j=i;{subst e;rw[aU4 q]at m;cases m;exact P8 _ _ _ hc};{rw[eE6 e]at m;have:=h.1 i v m;simp[go_sem,e,this]}
theorem bR3(ty:TypeId)(i:TypeInfo){size bytes:Nat}(E:P.underlying t=Y (.slice e))(M:P.info? e=i)(V:i.zero=z)(Z:i.size=size)(X:i.bytes=bytes)(MI:z.cells.size=size)(gK:0<size)(x:w.ownsRow base e size v n xs)(c:Nat){news:List dV}(hl:J news=m*size)(D:∀j u,news[j]?=Y u->I w (a.add j)=Y u)(W:∀u∈news,u.oneCell')(Jg:n+m<=maxLen)(I8:(n+m)*bytes<=140737488355328)(Na:base<=U (Q w)):∃s w',(Builtin.append_ #[t,t] ty #[v,.S a m c]).run P w=.ok s w'/\w'.ownsRow base e size s (n+m) (xs++news)/\jG w w' (jB v)/\∀g,jB s=Y g->jB v=Y g\/U (Q w)<=g:=by
 obtain⟨s,w',o,h2,h3,-⟩:=aS4 (P:=P) w base t ty e i z size bytes E M V Z X MI gK v n xs x a m c news hl D W Jg I8 Na;refine⟨s,w',o,h2,h3,λg' N=>?_⟩;obtain⟨rfl,rfl⟩|⟨g,r,y,rfl,I9,hg,oU,oY,U8,dM0⟩:=id x.2;{obtain rfl:xs=[]:=Is (by simpa using x.1);obtain⟨v2,w2,R,k2,-,-⟩:=aS4 (P:=P) w (U (Q w)) t ty e i z size bytes E M V Z X MI gK aq 0 [] (nK w _ e size) a m c news hl D W Jg I8 az;rw[o]at R;simp only[Ui]at R;obtain⟨rfl,rfl⟩:=R;exact .R (k2.lt g' N).1};{
 subst Z;subst X;by_cases B:n+m<=r;{
 have U3:n*i.size+J news<=y.size:=by rw[hl,U8,<-Nat.add_mul];exact XG _ B
 rw[run_append_room (P:=P) w t ty e i E M g n r y hg a m c news hl D W B U3]at o;simp only[Ui]at o;obtain⟨rfl,-⟩:=o;exact .L N};{have q:∀j u,xs[j]?=Y u->I w (((Ad g 0):Addr).add j)=Y u:=x.cells (g:=g) rfl;rw[run_append_grow (P:=P) w t ty e i z E M V (Ad g 0) n r xs x.1 q a m c news hl D ae (by simp only[maxLen]at Jg;omega) (growslice_fits ae I8)]at o;simp only[Ui]at o;obtain⟨rfl,-⟩:=o;simp only[jB,nJ]at N;exact .R ae}}
variable {a:Act}
theorem Fu{iZ:iE}(iq:o.guard=dN)(t:TypeId)(ho:o.op=.call {callee:=.builtin .append,args:=#[s,x],argTypes:=#[t,t]})(i:TypeInfo)(size:Nat)(ht:P.underlying t=Y (.slice e))(hi:P.info? e=i)(hz:i.zero=z)(Ks:i.size=size)(cW:i.bytes=bytes)(MI:z.cells.size=size)(gK:0<size)(v:dV)(hs:a.eval s=v)(du:w.ownsRow base e size v n xs)(g m c:Nat)(news:List dV)(hx:a.eval x=.T g m c)(hl:J news=m*size)(tv:∀j u,news[j]?=Y u->I w (Ad g j)=Y u)(h1:∀u∈news,u.oneCell')(Jg:n+m<=maxLen)(I8:(n+m)*bytes<=140737488355328)(Na:base<=U (Q w))(h:∀v' w',w'.ownsRow base e size v' (n+m) (xs++news)->jG w w' (jB v)->(∀g,jB v'=Y g->jB v=Y g\/U (Q w)<=g)->wpList P ops iZ rest (a.put o.dst v') w'):wpList P ops iZ (o::rest) a w:=by
 let⟨v',w',hr,h2,h3,h4⟩:=bR3 (P:=P) o.type i ht hi hz Ks cW MI gK du (a:=Ad g 0) c hl (λj u hu=>by rw[Ix,l9];exact tv j u hu) h1 Jg I8 Na;exact Lib.wpList_append_run w iq s x t t ho _ _ hs hx _ _ hr (h v' w' h2 h3 h4)
theorem TD{iZ:iE}(iq:o.guard=dN) (ho:o.op=.call {callee:=.builtin .append,args:=#[s,x],argTypes:=#[t,t]})(i:TypeInfo)(size:Nat)(ht:P.underlying t=Y (.slice e))(hi:P.info? e=i)(hz:i.zero=z)(Ks:i.size=size)(cW:i.bytes=bytes)(MI:z.cells.size=size)(gK:0<size)(hs:a.eval s=v)(du:w.ownsRow base e size v n xs)(m c:Nat)(news:List dV)(hx:a.eval x=.T g m c)(hl:J news=m*size)(tv:∀j u,news[j]?=Y u->I w (Ad g j)=Y u)(h1:∀u∈news,u.oneCell')(Jg:n+m<=maxLen)(I8:(n+m)*bytes<=140737488355328)(Na:base<=U (Q w))(h:∀v' w',w'.ownsRow base e size v' (n+m) (xs++news)->jG w w' (jB v)->(∀g,jB v'=Y g->jB v=Y g\/U (Q w)<=g)->K (a.put o.dst v') w'):if jW o (yielded ops a.tmps)then Oper.wp P o a w K iZ else E:=by
 have hw:jW o (yielded ops a.tmps):=by simp[jW,iq]
 rw[aK hw];let⟨v',w',hr,h2,h3,h4⟩:=bR3 (P:=P) o.type i ht hi hz Ks cW MI gK du (a:=Ad g 0) c hl (λj u hu=>by rw[Ix,l9];exact tv j u hu) h1 Jg I8 Na;exact Lib.wp_append_run w s x t t ho _ _ hs hx _ _ hr (h v' w' h2 h3 h4)
namespace iZ
open Go.Sort
variable {p:Prop}
theorem af(h:p):O p:=h
theorem aa(h:O p):p:=h
abbrev Le{α:Type}(l:List α)(n:Nat):Prop:=O (J l=n)
theorem bL{α:Sort _}(x:α):∃y,O (x=y):=⟨x,rfl⟩
abbrev HU(w:G)(blk off:Nat)(d:Array Int):Prop:=Holds (λx:Int=>Value.U x) w blk off d
variable {w:G}{row:Option Nat}
theorem Np:jG w w row:=⟨rfl,rfl,rfl,fq _,λ_ _ _=>rfl⟩
theorem iD(h:jG w w1 row)(k:jG w1 w2 row):jG w w2 row:=
 ⟨k.os.Z h.os,k.tape.Z h.tape,k.output.Z h.output,fx h.size k.size,λi j m=>(k.block i (mj j h.size) m).Z (h.block i j m)⟩
theorem iF(w:G)(b o:Nat)(v:dV):jG w (jS w (Ad b o) v) b:=
 ⟨rfl,rfl,rfl,ai,λi _ j=>fN _ _ _ _ (λe=>j (by rw[e]))⟩
variable {w':G}
theorem gp(h:jG w w' row):jG w w'.drew row:=⟨h.os,h.tape,h.output,h.size,h.block⟩
variable {x y:Int}{d:Array Int}
theorem HU.swap{blk off:Nat}(h:HU w blk off d){i:Nat}(s:i<d.size)(r:j<d.size)(q:x=d[j]!)(o:y=d[i]!):HU (jS (jS w (Ad blk (off+i)) (.U x)) (Ad blk (off+j)) (.U y)) blk off (swp d i j):=by
 subst q o;have e:=putRow_self (λx:Int=>Value.U x) w blk off d h;have m:=putRow_swp (λx:Int=>Value.U x) w blk off d i j s r;rw[e]at m;show Holds _ _ _ _ _;rw[m];exact holds_putRow _ w blk off d _ h (by rw[size_swp])
theorem Ig{p q:Addr}{t u:dV}(h:I w p=t):∃s,I (w.setCell q u) p=Y s:=by
 by_cases e:q=p;{subst e;exact⟨u,P8 _ _ _ h⟩};{exact⟨t,(PO _ _ _ _ e).Z h⟩}
theorem HU.drew{blk off:Nat}(h:HU w blk off d):HU w.drew blk off d:=h
theorem HU.kept{blk off:Nat}(h:HU w blk off d)(m:w'.heap[blk]?=w.heap[blk]?):HU w' blk off d:=λj i=>
 ⟨(Iz (a:=(Ad blk (off+j))) m).Z (h j i).1,(Dj (a:=(Ad blk (off+j))) m).Z (h j i).2⟩
theorem dy3:dQ dG 201 #[.U x] w λe w'=>e=dR (jO dF)/\w'=w:=by
 go_in;go_wp2;go_ret;exact⟨ai,rfl⟩
theorem Gc:dQ dG 232 #[.U x,.U y] w λe w'=>e=dR (jO (ltInt x y))/\w'=w:=by
 go_in
 go_wp21
 refine(dy3).h ?_;rintro e w'⟨rfl,rfl⟩;go_wp2;go_ret;exact⟨rfl,rfl⟩
variable {vs:iA}
theorem GZ:(callFunc 232 vs).run dG w=.ok (.enter 232 vs) w:=by kernel_rfl
variable {a:Act}{o:Oper}{P:Program}{ops:iQ}{K:Act->G->Prop}{E:Prop}{R:Ending->G->Prop}{f:FuncId}{x1 x2:Operand}{sX:Array TypeId}
theorem Fw{iZ:iE}(hw:jW o (yielded ops a.tmps)) (ho:o.op=.call {callee:=.value (.func f),args:=#[x1,x2],argTypes:=sX})(h1:a.eval x1=v1)(h2:a.eval x2=v2)(kn:∀vs,(callFunc f vs).run P w=.ok (.enter f vs) w)(hc:dQ P f #[v1,v2] w R)(hR:∀e w',R e w'->∃v,e=dR v/\K (a.put o.dst v) w'):if jW o (yielded ops a.tmps)then Oper.wp P o a w K iZ else E:=by
 rw[aK hw];have fW:(execOp a.eval o).run P w=.ok (.enter f #[v1,v2]) w:=by subst h1 h2;unfold execOp;simp[go_sem,ho,resolve,invoke,kn]
 show o.upon P a K iZ _;rw[fW,Mo];refine hc.h ?_;intro e w' h;obtain⟨v,rfl,hk⟩:=hR e w' h;exact hk
theorem dm9{blk off cap N a b:Nat}(hN:O (d.size=N))(h:HU w blk off d)(yS:a<=b)(hb:b<=N)(gK:N<=2^20):dQ dG 230 #[.S (Ad blk off) N cap,.I a,.I b] w λe w'=>e=dR (dT #[])/\HU w' blk off (reverseRange d a b)/\jG w w' blk:=by
 let⟨D,R⟩:=aZ (reverseRange d a b);rw[R];have ED:O (reverseLoop a (b-1) d=D):=R;clear R;have H0:=af h;clear h;go_in
 go_wp21
 go_loopw[6,7](λx u wr=>∃(i m:Nat)(o:Int)(q:Array Int),x=.I i/\u=.I o/\o<=2^20/\-1<=o/\i<=1048577/\O ((i:Int)<o->o=m/\m<N)/\O (¬(i:Int)<o->¬i<m)/\O (q.size=N)/\O (HU wr blk off q)/\O (reverseLoop i m q=D)/\O (jG w wr blk)) (λx u _=>jN (intOf u-intOf x))
 exact⟨a,b-1,(b:Int)-1,d,rfl,by first|rfl|go_num,ae,ae,ae,λh=>⟨ae,ae⟩,(λh=>ae),hN,H0,ED,Np⟩;{
 obtain⟨i,m,o,q,rfl,rfl,q1,q2,q3,X,W,nw,s,r,B⟩:=hrel;by_cases Z:(i:Int)<o;{
 let⟨ej,hjn⟩:=aa X Z;subst ej;have ky:i<m:=ae;have KJ:=aa nw;let⟨ci,fi⟩:=aa s i ae;let⟨cj,fj⟩:=aa s m ae;let⟨y,M⟩:=aZ q[i]!;let⟨z,E⟩:=aZ q[m]!;have Az:=af (s.swap (i:=i) (j:=m) ae ae E.C M.C);rw[M]at ci;rw[E]at cj;have hq:=aa r;rw[reverseLoop,aK ky]at hq;have HQ:=af hq;have lD:O ((swp q i m).size=N):=by show _=_;rw[size_swp];exact KJ
 have HG:=af (iD (iD B (iF wr blk (off+i) (.U z))) (iF _ blk (off+m) (.U y)));have i1:=bR m N;have i2:=bR i N;have i3:=gr 0 m;clear X W s r B M E hq KJ
 go_wp21
 go_region
 go_wp2;go_roundw;exact⟨i+1,m-1,(m:Int)-1,swp q i m,by go_num,by first|rfl|go_num,ae,ae,ae,λh=>⟨ae,ae⟩,(λh=>ae),lD,Az.drew,HQ,gp HG⟩;exact dh};{have V:=aa W Z;have hq:=aa r;rw[reverseLoop,aJ V]at hq;subst hq;go_wp2;go_end0;exact⟨rfl,s,B⟩}}
end iZ
end Go.Proofs.YtpkakgkipopiaaaGreatDoor
