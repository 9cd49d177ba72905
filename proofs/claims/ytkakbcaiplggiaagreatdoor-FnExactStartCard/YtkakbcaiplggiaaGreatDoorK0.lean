import Derived.KernelRfl
import Derived.IntWalk
import Derived.Test.YtkakbcaiplggiaaGreatDoorProg
import Derived.WalkKit
import Derived.Below
import Derived.Deep.RegionHeld3
import Derived.WalkSpells
import Derived.WalkLawsBesides
import Derived.BigQuiet
import Derived.ProofKit
import Derived.OpenShut
import Derived.Deep.QuietTactic
import Derived.Deep.Fields23
import Derived.Deep.Strs
import Derived.Lib.AppendZeros
import Derived.Deep.RegionLaw
import Derived.Lib.SlSplitV
import Derived.Lib.IndexBytes
import Derived.Lib.CountLaws
import Derived.Lib.Bytes
namespace Go
abbrev Value.U(x:Int):Value:=.int .u64 x
abbrev Value.I(x:Int):Value:=.int .i64 x
abbrev Lit.U(x:Int):Lit:=.int .u64 x
abbrev Lit.I(x:Int):Lit:=.int .i64 x
abbrev Value.S(p:Option Addr)(n c:Nat):Value:=.slice p n c
abbrev Value.T(g n c:Nat):Value:=.slice (some ⟨g,0,none⟩) n c
end Go
namespace Go.Proofs.YtkakbcaiplggiaaGreatDoor
set_option maxHeartbeats 4000000
set_option linter.all false
set_option maxRecDepth 100000
abbrev Bw(w v:World):Prop:=Go.RowKit.Below w.heap.size w v
abbrev Rb(v:Value)(w:World):Ending->World->Prop:=λe w'=>e=.returned v/\Bw w w'
abbrev Mg(n:Nat):Prop:=n<=1048576
abbrev Ad(b o:Nat):Addr:=⟨b,o,none⟩
abbrev Ce(w:World)(b o:Nat)(v:Value):Prop:=w.cell? ⟨b,o,none⟩=some v
abbrev OA:Type:=Option Addr
abbrev LI:Type:=List Int
abbrev Cp(f:FuncId)(a:Array Value)(w:World)(R:Ending->World->Prop):Prop:=Calls Tryz.prog f a w R
open Go.RowKit
def ah{a b:Prop}(x:a)(y:b):a/\b:=⟨x,y⟩
def au{B:Nat}{w:World}:Below B w w:=Below.refl B w
def aj{W w1 w2:World}(h:Below W.heap.size W w1)(k:Below w1.heap.size w1 w2):Below W.heap.size W w2:=h.trans (k.mono h.size)
def ao{n:Nat}:n<=n:=Nat.le_refl n
def bD{α:Type}{l:List α}{i:Nat}(h:i<l.length):l[i]?=some l[i]:=List.getElem?_eq_getElem h
def bf{α:Type}{i:Nat}{a:α}{l:List α}:l[i]?=some a↔∃h:i<l.length,l[i]=a:=List.getElem?_eq_some_iff
def aY{α:Type}{l:List α}{i:Nat}{a:α}(h:l[i]?=some a):a∈l:=List.mem_of_getElem? h
def cF8{α:Type}{l:List α}{i j:Nat}(h:i≠j){a:α}:(l.set i a)[j]?=l[j]?:=List.getElem?_set_ne h
def fW(w:World)(a:Addr)(u:Value)(k:Nat)(h:k≠a.block):(w.setCell a u).heap[k]?=w.heap[k]?:=RowKit.Below.heap_setCell w a u k h
def aK7{Q:Exit->Act->World->Prop}{a:Act}{w:World}(h:Q Exit.normal a w):NoPanic Q Exit.normal a w:=NoPanic.normal h
def az{α:Sort _}(x:α):∃y,y=x:=⟨x,rfl⟩
def aI{α:Sort _}(x:α):∃y,x=y:=⟨x,rfl⟩
def Cw{c:Prop}{α:Sort _}[Decidable c]{a b:α}(h:¬c:=by decide):(if c then a else b)=b:=if_neg h
def dV0{p q:Prop}(h:p)(n:¬p:=by decide):q:=absurd h n
def bM5{P:Program}{md:Region.Mode}{ops:Array Oper}{Q:Exit->Act->World->Prop}{S:World->Prop}{l:Array Bool}{a:Act}{w:World}{n:Nat}(h:Q .normal a w)(hr:Region.ready md ops l=[]:=by kernel_rfl):wpAnyH P md ops Q S n l a w:=wpAnyH_done hr h n
def dw{P:Program}{md:Region.Mode}{ops:Array Oper}{Q:Exit->Act->World->Prop}{S:World->Prop}{l:Array Bool}{a:Act}{w:World}{n:Nat}(h:Q .normal a w)(hr:Region.ready md ops l=[]:=by kernel_rfl):wpAnyH P md ops (NoPanic Q) S n l a w:=wpAnyH_done hr (NoPanic.normal h) n
def dC{P:Program}{ops:Array Oper}{Q:Exit->Act->World->Prop}{id:Nat}{a:Act}{w:World}(S:World->Prop)(hS:S w.drew)(h:S w.drew->wpAnyH P .any ops (NoPanic Q) S ops.size (Array.replicate ops.size false) a w.drew)(hm:P.follows .mixedOrders=true:=by kernel_rfl):(Code.region id ops true).wp P Q a w:=wp_region_noPanic (wp_region_held_drew hm hS h)
def ew{w W:World}{o:Obj}(h:W=w.alloc o):Below w.heap.size w W:=by rw[h];exact(Below.refl _ _).alloc (Nat.le_refl _) _
def nH{w W:World}(h:W=w.drew):Below w.heap.size w W:=by rw[h];exact(Below.refl _ _).drew
def aS(a b:Nat)(h:(a:Int)<(b:Int):=by omega):(a:Int)<(b:Int):=h
def iH(a b:Nat)(h:(a:Int)<=(b:Int):=by omega):(a:Int)<=(b:Int):=h
def dm(a b:Nat)(h:¬(a:Int)<(b:Int):=by omega):¬(a:Int)<(b:Int):=h
def qi(a:Int)(b:Nat)(h:a<(b:Int):=by omega):a<(b:Int):=h
def dA(a:Int)(b:Nat)(h:a<=(b:Int):=by omega):a<=(b:Int):=h
def fk(a:Nat)(h: -9223372036854775808<=(a:Int)/\(a:Int)<=9223372036854775807:=by omega):IntKind.i64.wrap (a:Int)=(a:Int):=IntWalk.i64_in _ h
def yD{a b c d:Nat}(h:some (⟨a,b,none⟩:Addr)=some ⟨c,d,none⟩):a=c/\b=d:=by simpa using h
def me{p:Prop}(h:p:=by(intro a ha;first|(simp at ha;done)|(simp only[List.mem_append,List.mem_cons,List.not_mem_nil,List.nil_append,or_false]at ha⊢;grind))):p:=h
def aU{p:Prop}(h:p:=by(simp;omega)):p:=h
def iF{p:Prop}(h:p:=by(unfold maxLen;omega)):p:=h
def bq{p:Prop}(h:p:=by(show _=_;rfl)):p:=h
def ae{p:Prop}(h:p:=by(omega)):p:=h
def ai{p:Prop}(h:p:=by(simp)):p:=h
def aZ{p:Prop}(h:p:=by(decide)):p:=h
def bg{p:Prop}(h:p:=by(kernel_rfl)):p:=h
def aH{p:Prop}(h:p:=by(rfl)):p:=h
def bM{p:Prop}(h:p:=by(simp[intOf];omega)):p:=h
def rB:(∀l:List Value,l.toArray.size=l.length)/\(∀(a:Value)l,(a::l).length=l.length+1)/\(([]:List Value).length=0)/\(∀n(a:Value),Array.replicate (n+1) a=(Array.replicate n a).push a)/\(∀a:Value,Array.replicate 0 a=#[])/\(∀(l:List Value)a,l.toArray.push a=(l++[a]).toArray)/\(∀l k:List Value,l.toArray++k.toArray=(l++k).toArray)/\(∀l:List Value,[]++l=l)/\(∀(a:Value)l k,(a::l)++k=a::(l++k)):=⟨λ_=>by simp,λ_ _=>by simp,by simp,λ_ _=>Array.replicate_succ,λ_=>Array.replicate_zero,λ_ _=>by simp,λ_ _=>by simp,λ_=>by simp,λ_ _ _=>by simp⟩
def aG{p q:Prop}(h:p)(k:p->q:=by(intro _;omega)):q:=k h
def js{p q:Option Addr}{a b c d:Nat}(h:Value.slice p a b=Value.slice q c d):p=q/\a=c/\b=d:=by simpa using h
def mR{α:Type}{l:List α}{i:Nat}(h:i<l.length):∃y,l[i]?=some y:=⟨_,List.getElem?_eq_getElem h⟩
def bG:=@if_neg
def bN:=@if_pos
def cR:=@Go.RowKit.Below.refl
def dD:=@Go.bodyPost_ret
def fN:=@Nat.zero_le
def jR:=@trivial
def ir:=@List.length_append
def ji:=@List.mem_map
def iP:=@Nat.le_refl
def jG:=@List.mem_cons
def qZ:=@Go.Value.slice.injEq
def dZ:=@List.length_map
def fx:=@Bool.and_eq_true
def fQ:=@Prod.mk.injEq
def dQ:=@Nat.le_trans
def gK:=@List.getD_eq_getElem?_getD
def uO:=@congrArg
def gM:=@List.mem_append
def gH:=@List.mem_iff_getElem?
def iT:=@List.length_cons
def iM:=@List.map_cons
def jy:=@List.all_eq_true
def jw:=@decide_eq_true_eq
def gQ:=@Nat.lt_of_lt_of_le
def kU:=@Option.some.injEq
def ke:=@List.take_of_length_le
def nw:=@List.getElem?_zipWith
def kT:=@List.map_append
def kS:=@Nat.zero_add
def nj:=@List.getElem?_map
def jL:=@Go.IntWalk.i64_in
def lE:=@List.getElem?_append_left
def ni:=@List.take_add_one
def ng:=@List.take_length
def od:=@List.length_take
def nZ:=@List.getElem?_append_right
def pO:=@List.length_set
def nY:=@Go.World.block_lt_of_cell?
def pM:=@Bool.true_and
def pL:=@decide_eq_true_iff
def nW:=@List.mem_singleton
def qt:=@if_true
def si:=@Option.getD_some
def vZ:=@List.getElem?_set
def sg:=@List.take_zero
def sX:=@List.length_drop
def sV:=@List.length_eq_zero_iff
def sU:=@List.append_assoc
def sS:=@Go.results_none
def tY:=@List.flatten_cons
def tX:=@decide_eq_false
def tW:=@List.drop_zero
def qY:=@Int.toNat_natCast
def qX:=@List.map_map
def uM:=@Bool.and_eq_false_iff
def Ah:=@List.nodup_cons
def gF:=@Go.RowKit.Below.setCell
def xQ:=@List.getElem?_toArray
def Cd:=@List.mem_range
def xO:=@List.drop_succ_cons
def Ag:=@if_false
def Cc:=@List.getElem?_of_mem
def xM:=@Array.getElem?_modify
def Cb:=@Nat.sub_self
def Af:=@List.length_nil
def Ac:=@List.getElem_mem
def BS:=@List.nodup_append
def Ab:=@List.take_succ_cons
def Aa:=@Option.bind_some
def xL:=@decide_eq_false_iff_not
def qn:=@Go.RowKit.ownsRow_setCell_below
def BQ:=@List.getElem?_cons_succ
def BO:=@List.getElem?_cons_zero
def BN:=@decide_eq_true
def D7:=@List.pairwise_map
def BM:=@Go.World.frozen?_setCell
def D6:=@List.cons_append
def D5:=@List.append_nil
def Gr:=@List.mem_append_right
def DZ:=@Option.some.inj
def DY:=@Bool.eq_false_iff
def Jg:=@Option.map_some
def DX:=@List.map_nil
def Gq:=@Array.getElem?_eq_some_iff
def Gp:=@List.nil_append
def Gn:=@List.drop_drop
def Jf:=@List.pairwise_iff_getElem
def Je:=@not_or
def Jd:=@List.eq_nil_of_length_eq_zero
def Jc:=@List.mem_flatten
def I9:=@Bool.false_eq_true
def Mr:=@List.drop_eq_getElem_cons
def Mq:=@List.getElem?_drop
def Mp:=@Go.RowKit.Below.heap_alloc
def Mo:=@beq_iff_eq
def Mn:=@List.foldl_cons
def Mm:=@true_and
def Ml:=@Nat.succ_mul
def Am:=@Nat.add_sub_cancel
def Al:=@List.pairwise_cons
def GN:=@Nat.lt_trichotomy
def Di:=@List.map_congr_left
def Aj:=@Decidable.em
def Dg:=@List.take_append_drop
def Df:=@List.getElem_of_mem
def De:=@List.mem_append_left
def Dc:=@Nat.mul_one
def Db:=@Go.World.cell?_setCell_same
def uP:=@or_false
def Da:=@List.findIdx?_eq_some_iff_getElem
def xi:=@Option.map_eq_some_iff
def CU:=@Int.toNat_of_nonneg
def GM:=@List.set_cons_zero
def GK:=@Nat.add_zero
def GJ:=@List.mem_of_mem_drop
def GI:=@List.mem_of_mem_take
def GH:=@List.getElem?_take
def GF:=@Bool.eq_iff_iff
def CQ:=@Go.World.cell?_setCell_other
def GC:=@Go.IntWalk.wrap64_in
def Wi:=@List.ext_getElem?
def Gz:=@List.length_take_le
def Gy:=@List.length_eraseIdx
def Gx:=@List.eraseIdx_sublist
def Gw:=@List.mem_of_mem_eraseIdx
def Gv:=@Go.RowKit.Below.drew
def Ko:=@List.flatten_append
def Kn:=@List.drop_eq_nil_of_le
def Km:=@Nat.add_assoc
def Kl:=@List.any_eq_true
def Kk:=@Bool.false_or
def Kj:=@Bool.or_eq_true
def Ki:=@List.not_mem_nil
def Kh:=@List.mem_filter
def Kg:=@List.getElem?_zip_eq_some
def Kf:=@List.set_set
def Ke:=@List.sum_cons
def Qx:=@List.take_succ_eq_append_getElem
def Qw:=@List.set_append_right
def Qv:=@List.all_eq_false
def Qt:=@Nat.pow_succ
def Qq:=@Nat.mul_comm
def Qp:=@Nat.mul_le_mul_right
def Qo:=@List.foldl_append
def Qn:=@List.mem_map_of_mem
def Qm:=@dif_pos
def Ql:=@Nat.xor_lt_two_pow
def Qj:=@List.find?_some
def Qi:=@List.find?_eq_none
def Qh:=@List.mem_or_eq_of_mem_set
def Qg:=@List.length_filter_le
def Qf:=@List.length_zip
def Qe:=@of_decide_eq_true
def Wh:=@List.map_set
def Wf:=@Bool.false_and
def We:=@decide_false
def Wd:=@beq_eq_false_iff_ne
def Wc:=@Array.toList_inj
def V9:=@Array.getElem?_toList
def V8:=@Nat.le_of_lt
def VY:=@List.nodup_nil
def Kd:=@Go.RowKit.Below.heap_setCell
def VX:=@List.mem_of_find?_eq_some
def ag1:=@List.map_id
def VW:=@List.length_pos_iff
def VU:=@List.filter_append
def VT:=@List.findIdx?_eq_none_iff
def VS:=@Nat.le_succ
def VR:=@Int.eq_ofNat_of_zero_le
def VQ:=@Int.pow_succ
def ag0:=@Nat.add_comm
def af9:=@List.all_cons
def af8:=@List.flatten_nil
def af7:=@List.range_succ
def af6:=@Nat.div_lt_iff_lt_mul
def af5:=@Go.Value.bool.injEq
def af4:=@Bool.not_not
def af3:=@Bool.not_false
def af2:=@UInt8.lt_irrefl
def af1:=@UInt8.not_lt
def af0:=@Go.Value.int.injEq
def ae9:=@List.getElem?_set_self
def ae8:=@List.nodup_range
def ae7:=@List.getElem_map
def ae6:=@List.zipWith_append
def ae5:=@List.perm_middle
def ae4:=@Int.ofNat_tdiv
def ae3:=@Option.isSome_none
def ae2:=@not_true_eq_false
def ae1:=@List.set_cons_succ
def ae0:=@Nat.min_eq_left
def ad9:=@List.drop_of_length_le
def ad8:=@List.getElem?_eraseIdx
def ad7:=@List.eraseIdx_of_length_le
def ad6:=@List.getLast?_eq_getElem?
def ad5:=@Nat.mul_succ
def bv2:=@Array.getElem?_eq_none
def ad4:=@Nat.pow_le_pow_right
def ad3:=@List.prefix_append_right_inj
def aP3:=@Nat.add_sub_cancel_left
def aP2:=@List.getElem?_take_of_lt
def aP1:=@List.pairwise_mergeSort
def aP0:=@Decidable.byContradiction
def aO9:=@List.zipWith_cons_cons
def aO8:=@Classical.byContradiction
def aO7:=@List.mem_eraseIdx_iff_getElem?
def aO6:=@List.eraseIdx_append_of_length_le
def aO5:=@List.length_eq_one_iff
def aO4:=@Array.getD_eq_getD_getElem?
def aO3:=@List.length_pos_of_mem
def aO2:=@Int.ediv_ediv_of_nonneg
def aO1:=@List.setIfInBounds_toArray
def eG:=@Go.AllReadyH.nil
def gh:=@Go.info_parts
def gC:=@Go.World.ownsRow_nil
def iQ:=@Go.wpStill_nil
def jj:=@Go.IntKind.wrap_u64
def mG:=@Go.callsIn_of_wp
def qG:=@Go.callsIn_wide
def sj:=@Go.World.frozen?_of_block
def tJ:=@Go.World.cell?_of_block
def xh:=@Go.wpAnyH_take
def Ai:=@Go.IntKind.wrap_u8
def CO:=@Go.Addr.add_lit
def CN:=@Go.Lit.int.injEq
def Gu:=@Go.World.ownsRow.cellAt
def Gt:=@Go.World.ownsRow.lt
def Gs:=@Go.World.ownsRow.kept
def Kc:=@Go.wpList_append_own
def Ka:=@Go.Result.ok.injEq
def Qd:=@Go.Oper.upon_enter
def Qc:=@Go.Sem.run_pure
def Qb:=@Go.World.grownBy_alloc
def Qa:=@Go.Oper.semAt_eq
def P9:=@Go.wp_region_noPanic
def P8:=@Go.World.cell?_setCell_far
def VP:=@Go.WideAt.sameKey_self
def PX:=@Go.World.cell?_setCell_same'
def VO:=@Go.RowKit.run_makeMap
def VN:=@Go.WideAt.sameKey_iff
def VM:=@Go.wp_region_held_drew
def VK:=@Go.DataW.trod_bool
def VJ:=@Go.DataW.trod_int
def ad2:=@Go.run_underlying
def ad1:=@Go.World.ownsRow_lit
def ad0:=@Go.Ending.returned.injEq
def ac9:=@Go.Lit.string.injEq
def ac8:=@Go.Sem.run_bind
def ac7:=@Go.run_append_own
def ac6:=@Go.MapKept.heap_alloc
def ac5:=@Go.bits_xor_u64_nat
def aO0:=@Ne.symm
def bv0:=@Go.Addr.mk.injEq
def aN9:=@and_true
def aN8:=@Go.grownCap_ge
def aN7:=@Go.grownCap_le_maxLen
def aN6:=@Go.size_zeroCells
def aN5:=@Array.size_append
def aN4:=@ByteArray.ext
def aN3:=@List.pairwise_append
def bu9:=@ByteArray.data_extract
def bu8:=@List.exists_cons_of_ne_nil
def bu7:=@List.Sublist.length_le
def pQ:=@Int.le_refl
def PT:=@List.mem_nil_iff
def J7:=@Int.ofNat_nonneg
def PR:=@Go.Calls.mono
def ac4:=@Array.mem_of_getElem?
def ac3:=@Go.ChangeShapes.trodAll_cons
open Go.RowKit
def xa{α:Type}{l:List α}{i:Nat}{a:α}:l.toArray.setIfInBounds i a=(l.set i a).toArray:=List.setIfInBounds_toArray _ _ _
def xb{α:Type}{x:α}{xs:List α}{a:α}:(x::xs).set 0 a=a::xs:=List.set_cons_zero
def xc{α:Type}{x:α}{xs:List α}{i:Nat}{a:α}:(x::xs).set (i+1) a=x::xs.set i a:=List.set_cons_succ
def tk{P:Program}{md:Region.Mode}{ops:Array Oper}{Q:Exit->Act->World->Prop}{S:World->Prop}(i:Nat){oi:Oper}{v:Value}{fuel:Nat}{listed:Array Bool}{a:Act}{w:World}(hS:S w)(hi:ops[i]?=some oi:=by(simp only[List.getElem?_toArray,List.getElem?_cons_succ,List.getElem?_cons_zero];rfl))(hs:Region.noSelect ops=true:=by kernel_rfl)(hf:Region.free md ops listed i=true:=by kernel_rfl)(hr:(Region.ready md ops listed).contains i=true:=by kernel_rfl)(hQ:∀c a w,Q (.panic c) (a.put oi.dst v) w->Q (.panic c) a w:=by exactλ_ _ _ h=>h)(hg:Region.wanted oi (yielded ops a.tmps)=true:=by rfl)(hy:∀w,S w->(execOp a.eval oi).run P w=.ok (.value v) w:=by(intro w' xt;(try dsimp only at xt);go_simp;try with_reducible rfl))(h:wpAnyH P md ops Q S fuel (listed.setIfInBounds i true) (a.put oi.dst v) w):wpAnyH P md ops Q S (fuel+1) listed a w:=
 wpAnyH_take hi hs hf hr hQ (Or.inl ⟨hg,hy⟩) hS h
def sk{P:Program}{md:Region.Mode}{ops:Array Oper}{Q:Exit->Act->World->Prop}{S:World->Prop}(i:Nat){oi:Oper}{fuel:Nat}{listed:Array Bool}{a:Act}{w:World}(hS:S w)(hi:ops[i]?=some oi:=by(simp only[List.getElem?_toArray,List.getElem?_cons_succ,List.getElem?_cons_zero];rfl))(hs:Region.noSelect ops=true:=by kernel_rfl)(hf:Region.free md ops listed i=true:=by kernel_rfl)(hr:(Region.ready md ops listed).contains i=true:=by kernel_rfl)(hQ:∀c a w,Q (.panic c) (a.put oi.dst undef) w->Q (.panic c) a w:=by exactλ_ _ _ h=>h)(hg:Region.wanted oi (yielded ops a.tmps)=false:=by rfl)(h:wpAnyH P md ops Q S fuel (listed.setIfInBounds i true) (a.put oi.dst undef) w):wpAnyH P md ops Q S (fuel+1) listed a w:=
 wpAnyH_take hi hs hf hr hQ (Or.inr ⟨hg,rfl⟩) hS h
def Tk(P:Program)(md:Region.Mode)(ops:Array Oper)(Q:Exit->Act->World->Prop)(S:World->Prop)(listed:Array Bool)(i:Nat)(a a':Act):Prop:=∀fuel w,S w->wpAnyH P md ops Q S fuel (listed.setIfInBounds i true) a' w->wpAnyH P md ops Q S (fuel+1) listed a w
def Tc{P:Program}{md:Region.Mode}{ops:Array Oper}{Q:Exit->Act->World->Prop}{S:World->Prop}{i:Nat}{oi:Oper}{v:Value}{listed:Array Bool}{a a':Act}(hi:ops[i]?=some oi:=by(simp only[List.getElem?_toArray,List.getElem?_cons_succ,List.getElem?_cons_zero];rfl))(hs:Region.noSelect ops=true:=by kernel_rfl)(hf:Region.free md ops listed i=true:=by kernel_rfl)(hr:(Region.ready md ops listed).contains i=true:=by kernel_rfl)(hQ:∀c a w,Q (.panic c) (a.put oi.dst v) w->Q (.panic c) a w:=by exactλ_ _ _ h=>h)(hg:Region.wanted oi (yielded ops a.tmps)=true:=by rfl)(hy:∀w,S w->(execOp a.eval oi).run P w=.ok (.value v) w:=by(intro w' xt;(try dsimp only at xt);go_simp;try with_reducible rfl))(ha:a.put oi.dst v=a':=by(simp only[Act.put,xa,xb,xc];rfl)):Tk P md ops Q S listed i a a':=
 λ_ _ hS h=>wpAnyH_take hi hs hf hr hQ (Or.inl ⟨hg,hy⟩) hS (ha▸h)
def tkZ{P:Program}{md:Region.Mode}{ops:Array Oper}{Q:Exit->Act->World->Prop}{S:World->Prop}{i:Nat}{oi:Oper}{listed:Array Bool}{a a':Act}(hi:ops[i]?=some oi:=by(simp only[List.getElem?_toArray,List.getElem?_cons_succ,List.getElem?_cons_zero];rfl))(hs:Region.noSelect ops=true:=by kernel_rfl)(hf:Region.free md ops listed i=true:=by kernel_rfl)(hr:(Region.ready md ops listed).contains i=true:=by kernel_rfl)(hQ:∀c a w,Q (.panic c) (a.put oi.dst undef) w->Q (.panic c) a w:=by exactλ_ _ _ h=>h)(hg:Region.wanted oi (yielded ops a.tmps)=false:=by rfl)(ha:a.put oi.dst undef=a':=by(simp only[Act.put,xa,xb,xc];rfl)):Tk P md ops Q S listed i a a':=
 λ_ _ hS h=>wpAnyH_take hi hs hf hr hQ (Or.inr ⟨hg,rfl⟩) hS (ha▸h)
def tn{P:Program}{md:Region.Mode}{ops:Array Oper}{Q:Exit->Act->World->Prop}{S:World->Prop}(i:Nat){fuel:Nat}{listed:Array Bool}{a a':Act}{w:World}(hS:S w)(h:wpAnyH P md ops Q S fuel (listed.setIfInBounds i true) a' w)(t:Tk P md ops Q S listed i a a':=by exact Tc):wpAnyH P md ops Q S (fuel+1) listed a w:=t _ _ hS h
def sn{P:Program}{md:Region.Mode}{ops:Array Oper}{Q:Exit->Act->World->Prop}{S:World->Prop}(i:Nat){fuel:Nat}{listed:Array Bool}{a a':Act}{w:World}(hS:S w)(h:wpAnyH P md ops Q S fuel (listed.setIfInBounds i true) a' w)(t:Tk P md ops Q S listed i a a':=by exact tkZ):wpAnyH P md ops Q S (fuel+1) listed a w:=t _ _ hS h
def kG{P:Program}{md:Region.Mode}{ops:Array Oper}{Q:Exit->Act->World->Prop}{S:World->Prop}(i0 i1:Nat){fuel:Nat}{listed:Array Bool}{a0 a1 a2:Act}{w:World}(hS:S w)(h:wpAnyH P md ops Q S fuel ((listed.setIfInBounds i0 true).setIfInBounds i1 true) a2 w)(x0:Tk P md ops Q S listed i0 a0 a1:=by exact Tc)(x1:Tk P md ops Q S (listed.setIfInBounds i0 true) i1 a1 a2:=by exact Tc):wpAnyH P md ops Q S (fuel+2) listed a0 w:=x0 _ _ hS (x1 _ _ hS h)
def mU{P:Program}{md:Region.Mode}{ops:Array Oper}{Q:Exit->Act->World->Prop}{S:World->Prop}(i0 i1 i2 i3:Nat){fuel:Nat}{listed:Array Bool}{a0 a1 a2 a3 a4:Act}{w:World}(hS:S w)(h:wpAnyH P md ops Q S fuel ((((listed.setIfInBounds i0 true).setIfInBounds i1 true).setIfInBounds i2 true).setIfInBounds i3 true) a4 w)(x0:Tk P md ops Q S listed i0 a0 a1:=by exact Tc)(x1:Tk P md ops Q S (listed.setIfInBounds i0 true) i1 a1 a2:=by exact Tc)(x2:Tk P md ops Q S ((listed.setIfInBounds i0 true).setIfInBounds i1 true) i2 a2 a3:=by exact Tc)(x3:Tk P md ops Q S (((listed.setIfInBounds i0 true).setIfInBounds i1 true).setIfInBounds i2 true) i3 a3 a4:=by exact Tc):wpAnyH P md ops Q S (fuel+4) listed a0 w:=x0 _ _ hS (x1 _ _ hS (x2 _ _ hS (x3 _ _ hS h)))
def oI{P:Program}{md:Region.Mode}{ops:Array Oper}{Q:Exit->Act->World->Prop}{S:World->Prop}(i0 i1 i2 i3:Nat){fuel:Nat}{listed:Array Bool}{a0 a1 a2 a3 a4:Act}{w:World}(hS:S w)(h:wpAnyH P md ops Q S fuel ((((listed.setIfInBounds i0 true).setIfInBounds i1 true).setIfInBounds i2 true).setIfInBounds i3 true) a4 w)(x0:Tk P md ops Q S listed i0 a0 a1:=by exact tkZ)(x1:Tk P md ops Q S (listed.setIfInBounds i0 true) i1 a1 a2:=by exact tkZ)(x2:Tk P md ops Q S ((listed.setIfInBounds i0 true).setIfInBounds i1 true) i2 a2 a3:=by exact tkZ)(x3:Tk P md ops Q S (((listed.setIfInBounds i0 true).setIfInBounds i1 true).setIfInBounds i2 true) i3 a3 a4:=by exact tkZ):wpAnyH P md ops Q S (fuel+4) listed a0 w:=x0 _ _ hS (x1 _ _ hS (x2 _ _ hS (x3 _ _ hS h)))
def nK{P:Program}{md:Region.Mode}{ops:Array Oper}{Q:Exit->Act->World->Prop}{S:World->Prop}(i0 i1 i2 i3 i4 i5 i6 i7:Nat){fuel:Nat}{listed:Array Bool}{a0 a1 a2 a3 a4 a5 a6 a7 a8:Act}{w:World}(hS:S w)(h:wpAnyH P md ops Q S fuel ((((((((listed.setIfInBounds i0 true).setIfInBounds i1 true).setIfInBounds i2 true).setIfInBounds i3 true).setIfInBounds i4 true).setIfInBounds i5 true).setIfInBounds i6 true).setIfInBounds i7 true) a8 w)(x0:Tk P md ops Q S listed i0 a0 a1:=by exact Tc)(x1:Tk P md ops Q S (listed.setIfInBounds i0 true) i1 a1 a2:=by exact Tc)(x2:Tk P md ops Q S ((listed.setIfInBounds i0 true).setIfInBounds i1 true) i2 a2 a3:=by exact Tc)(x3:Tk P md ops Q S (((listed.setIfInBounds i0 true).setIfInBounds i1 true).setIfInBounds i2 true) i3 a3 a4:=by exact Tc)(x4:Tk P md ops Q S ((((listed.setIfInBounds i0 true).setIfInBounds i1 true).setIfInBounds i2 true).setIfInBounds i3 true) i4 a4 a5:=by exact Tc)(x5:Tk P md ops Q S (((((listed.setIfInBounds i0 true).setIfInBounds i1 true).setIfInBounds i2 true).setIfInBounds i3 true).setIfInBounds i4 true) i5 a5 a6:=by exact Tc)(x6:Tk P md ops Q S ((((((listed.setIfInBounds i0 true).setIfInBounds i1 true).setIfInBounds i2 true).setIfInBounds i3 true).setIfInBounds i4 true).setIfInBounds i5 true) i6 a6 a7:=by exact Tc)(x7:Tk P md ops Q S (((((((listed.setIfInBounds i0 true).setIfInBounds i1 true).setIfInBounds i2 true).setIfInBounds i3 true).setIfInBounds i4 true).setIfInBounds i5 true).setIfInBounds i6 true) i7 a7 a8:=by exact Tc):wpAnyH P md ops Q S (fuel+8) listed a0 w:=x0 _ _ hS (x1 _ _ hS (x2 _ _ hS (x3 _ _ hS (x4 _ _ hS (x5 _ _ hS (x6 _ _ hS (x7 _ _ hS h)))))))
def ry{P:Program}{md:Region.Mode}{ops:Array Oper}{Q:Exit->Act->World->Prop}{S:World->Prop}(rs:List Nat){fuel:Nat}{listed:Array Bool}{a:Act}{w:World}(h:AllReadyH P md ops Q S fuel listed a w rs)(hr:Region.ready md ops listed=rs:=by kernel_rfl)(cg:rs≠[]:=by simp):wpAnyH P md ops Q S (fuel+1) listed a w:=wpAnyH_ready hr cg h
def cn{P:Program}{md:Region.Mode}{ops:Array Oper}{Q:Exit->Act->World->Prop}{S:World->Prop}{fuel:Nat}{listed:Array Bool}{a:Act}{w:World}{i:Nat}{o:Oper}{rs:List Nat}(h:∀K':Act->World->Prop,Shut (∀a w,S w->(S w->wpAnyH P md ops Q S fuel (listed.setIfInBounds i true) a w)->K' a w)->if Region.wanted o (yielded ops a.tmps)=true then Oper.wp P o a w K' Q else K' (a.put o.dst undef) w)(hs:AllReadyH P md ops Q S fuel listed a w rs)(ho:ops[i]?=some o:=by(simp only[List.getElem?_toArray,List.getElem?_cons_succ,List.getElem?_cons_zero];rfl)):AllReadyH P md ops Q S fuel listed a w (i::rs):=AllReadyH.cons ho h hs
def bt6{P:Program}{md:Region.Mode}{ops:Array Oper}{Q:Exit->Act->World->Prop}{S:World->Prop}(rs:List Nat){fuel:Nat}{listed:Array Bool}{a:Act}{w:World}(h:AllReadyH P md ops Q S fuel listed a w rs)(hr:Region.ready md ops listed=rs:=by decide +kernel)(cg:rs≠[]:=by simp):wpAnyH P md ops Q S (fuel+1) listed a w:=wpAnyH_ready hr cg h
structure Tag(n:Nat)(p:Prop):Prop where
 out:p
def Tag.go(n:Nat){p:Prop}(h:p):Tag n p:=⟨h⟩
def bg8{P:Program}{md:Region.Mode}{ops:Array Oper}{Q:Exit->Act->World->Prop}{S:World->Prop}{fuel:Nat}{listed:Array Bool}{a:Act}{w:World}{i:Nat}{o:Oper}{rs:List Nat}(h:∀K':Act->World->Prop,Shut (∀a w,S w->(S w->wpAnyH P md ops Q S fuel (listed.setIfInBounds i true) a w)->K' a w)->Tag i (if Region.wanted o (yielded ops a.tmps)=true then Oper.wp P o a w K' Q else K' (a.put o.dst undef) w))(hs:AllReadyH P md ops Q S fuel listed a w rs)(ho:ops[i]?=some o:=by(simp only[List.getElem?_toArray,List.getElem?_cons_succ,List.getElem?_cons_zero];rfl)):AllReadyH P md ops Q S fuel listed a w (i::rs):=AllReadyH.cons ho (λK' hK=>(h K' hK).out) hs
def IW{P:Program}{md:Region.Mode}{ops:Array Oper}{Q:Exit->Act->World->Prop}{S:World->Prop}(i:Nat){o:Oper}{fuel:Nat}{listed:Array Bool}{a:Act}{w:World}(h:∀K':Act->World->Prop,Shut (∀a w,S w->(S w->wpAnyH P md ops Q S fuel (listed.setIfInBounds i true) a w)->K' a w)->Tag i (if Region.wanted o (yielded ops a.tmps)=true then Oper.wp P o a w K' Q else K' (a.put o.dst undef) w))(ho:ops[i]?=some o:=by(simp only[List.getElem?_toArray,List.getElem?_cons_succ,List.getElem?_cons_zero];rfl))(hr:Region.ready md ops listed=[i]:=by decide +kernel):wpAnyH P md ops Q S (fuel+1) listed a w:=bt6 [i] (bg8 h AllReadyH.nil ho) hr
def Sl{P:Program}{md:Region.Mode}{ops:Array Oper}{Q:Exit->Act->World->Prop}{S:World->Prop}(i j:Nat){o o':Oper}{fuel:Nat}{listed:Array Bool}{a:Act}{w:World}(h:∀K':Act->World->Prop,Shut (∀a w,S w->(S w->wpAnyH P md ops Q S fuel (listed.setIfInBounds i true) a w)->K' a w)->Tag i (if Region.wanted o (yielded ops a.tmps)=true then Oper.wp P o a w K' Q else K' (a.put o.dst undef) w))(h':∀K':Act->World->Prop,Shut (∀a w,S w->(S w->wpAnyH P md ops Q S fuel (listed.setIfInBounds j true) a w)->K' a w)->Tag j (if Region.wanted o' (yielded ops a.tmps)=true then Oper.wp P o' a w K' Q else K' (a.put o'.dst undef) w))(ho:ops[i]?=some o:=by(simp only[List.getElem?_toArray,List.getElem?_cons_succ,List.getElem?_cons_zero];rfl))(Wt:ops[j]?=some o':=by(simp only[List.getElem?_toArray,List.getElem?_cons_succ,List.getElem?_cons_zero];rfl))(hr:Region.ready md ops listed=[i,j]:=by decide +kernel):wpAnyH P md ops Q S (fuel+1) listed a w:=bt6 [i,j] (bg8 h (bg8 h' AllReadyH.nil Wt) ho) hr
def dM{P:Program}{md:Region.Mode}{ops:Array Oper}{Q:Exit->Act->World->Prop}{S:World->Prop}(i:Nat){fuel:Nat}{listed:Array Bool}{a:Act}{w:World}{o:Oper}(h:∀K':Act->World->Prop,Shut (∀a w,S w->(S w->wpAnyH P md ops Q S fuel (listed.setIfInBounds i true) a w)->K' a w)->if Region.wanted o (yielded ops a.tmps)=true then Oper.wp P o a w K' Q else K' (a.put o.dst undef) w)(ho:ops[i]?=some o:=by(simp only[List.getElem?_toArray,List.getElem?_cons_succ,List.getElem?_cons_zero];rfl))(hr:Region.ready md ops listed=[i]:=by kernel_rfl):wpAnyH P md ops Q S (fuel+1) listed a w:=ry [i] (cn h AllReadyH.nil ho) hr
def gr{P:Program}{md:Region.Mode}{ops:Array Oper}{Q:Exit->Act->World->Prop}{S:World->Prop}{fuel:Nat}{listed:Array Bool}{K:Act->World->Prop}{a a':Act}{w:World}(hK:Shut (∀a w,S w->(S w->wpAnyH P md ops Q S fuel listed a w)->K a w))(hS:S w)(h:S w->wpAnyH P md ops Q S fuel listed a' w)(ha:a=a':=by((try simp only[Act.put,xa,xb,xc]);rfl)):K a w:=hK.out _ _ hS (ha▸h)
open Go.ChangeShapes Go.WideShapes Go.ChangeAt Go.Deep
def af{p:Prop}(h:p):Hid p:=h
def aa{p:Prop}(h:Hid p):p:=h
def bH{α:Sort _}(x:α):∃y,Hid (x=y):=⟨x,af rfl⟩
def jK(n:Nat)(left:Int):Int:=if left-n<0 then -1 else left-n
def CD{p:OA}{n cap:Nat}{left:Int}{w:World}(hn:n<=maxLen)(h0:0<=left)(h1:left<=1048576):Calls Tryz.prog 31 #[.S p n cap,.I left] w λe w'=>e=.returned (.I (jK n left))/\w'=w:=by
 unfold maxLen at hn;by_cases h:left-n<0;{
 have e:jK n left=-1:=by unfold jK;rw[bN h]
 rw[e];go_enter Tryz.func31,Tryz.ntmps31;go_wp2;go_ret;exact⟨rfl,rfl⟩};{
 have e:jK n left=left-n:=by unfold jK;rw[bG h]
 rw[e];go_enter Tryz.func31,Tryz.ntmps31;go_wp2;go_ret;exact⟨rfl,rfl⟩}
def lM{W w1:World}(hb:Bw W w1):(∀b o,b<W.heap.size->w1.cell? (Ad b o)=W.cell? (Ad b o))/\(∀b o,b<W.heap.size->w1.frozen? (Ad b o)=W.frozen? (Ad b o)):=
 ⟨λb o h=>hb.cell (p:=(Ad b o)) h,λb o h=>hb.frozen (p:=(Ad b o)) h⟩
def lT{n:Nat}{left:Int}(h:(n:Int)<=left):jK n left=left-n:=by unfold jK;rw[bG (by omega)]
def Bp{n:Nat}{left:Int}(h:left<n):jK n left=-1:=by unfold jK;rw[bN (by omega)]
abbrev U(l:LI):List Value:=l.map (Value.int .u8)
def Rd(w:World)(v:Value)(l:LI):Prop:=
 ∃(p:OA)(cap:Nat),v=.S p l.length cap/\(l=[]\/∃b o,p=some (Ad b o)/\∀i,i<l.length->w.cell? (Ad b (o+i))=some (.int .u8 (l.getD i 0)))
abbrev Own(B:Nat)(w:World)(v:Value)(l:LI):Prop:=w.ownsRow B 5 1 v l.length (U l)
def Rd.nil(w:World):Rd w (.S none 0 0) []:=⟨none,0,rfl,.inl rfl⟩
def Own.rd{B:Nat}{w:World}{v:Value}{l:LI}(h:Own B w v l):Rd w v l:=by
 rcases h.2 with⟨rfl,h0⟩|⟨g,cap,cur,rfl,hb,hg,_,_,_,ht⟩;{have:l=[]:=Jd h0;subst this;exact Rd.nil w};{refine⟨_,_,rfl,.inr ⟨g,0,rfl,λi hi=>?_⟩⟩;have:=Gu (w:=w) (base:=B) h i ae;rw[kS,this];simp[List.getD,bD hi]}
def Rd.below{w w':World}{v:Value}{l:LI}(h:Rd w v l)(hb:Bw w w'):Rd w' v l:=by
 obtain⟨p,cap,rfl,h⟩:=h;refine⟨p,cap,rfl,?_⟩;rcases h with h|⟨b,o,rfl,hc⟩;{exact .inl h};{refine .inr ⟨b,o,rfl,λi hi=>?_⟩;rw[hb.cell (p:=(Ad b (o+i))) (nY w _ (hc i hi))];exact hc i hi}
def Own.below{B:Nat}{w w':World}{v:Value}{l:LI}(h:Own B w v l)(hb:Bw w w'):Own B w' v l:=
 h.kept (row:=none) ⟨hb.os,hb.tape,hb.output,hb.size,λk hk _=>hb.block k hk⟩ (by cases hv:v.ownBlock<;>simp)
def Own.mono{B B':Nat}{w:World}{v:Value}{l:LI}(h:Own B w v l)(hB:B'<=B):Own B' w v l:=by
 refine⟨h.1,?_⟩;rcases h.2 with h|⟨g,cap,cur,rfl,hb,r⟩;{exact .inl h};{exact .inr ⟨g,cap,cur,rfl,ae,r⟩}
def WC(l:LI)(k:Nat):LI:=l.take k++List.replicate (l.length-k) 0
def UO{l:LI}{k:Nat}(h:k<=l.length):(WC l k).length=l.length:=by simp[WC];omega
def ar0(l:LI):WC l 0=List.replicate l.length 0:=by simp[WC]
def ar2(l:LI):WC l l.length=l:=by simp[WC]
def ar1{l:LI}{k:Nat}(h:k<l.length):(U (WC l k)).set k (.int .u8 (l.getD k 0))=U (WC l (k+1)):=by
 have e1:l.take (k+1)=l.take k++[l.getD k 0]:=by rw[Qx h];simp[List.getD,bD h]
 have e2:List.replicate (l.length-k) (0:Int)=0::List.replicate (l.length-(k+1)) 0:=by rw[show l.length-k=(l.length-(k+1))+1 by omega,List.replicate_succ]
 have e3:(l.take k).length=k:=by simp;omega
 have e4:(WC l k).set k (l.getD k 0)=WC l (k+1):=by unfold WC;rw[e1,e2,Qw _ _ ae,e3,Cb,GM];simp
 rw[<-e4,U,U,Wh]
def Tryz.infoByte:(Tryz.prog.info? 5).map (λi=>(i.zero,i.size,i.bytes))=some (some (.int .u8 0),1,1):=by kernel_rfl
def qJ{w w':World}(h:w.grownBy w' none):Bw w w':=⟨h.os,h.tape,h.output,h.size,λk hk=>h.block k hk (by simp)⟩
def OI{v:Value}{l:LI}{w:World}(h:Rd w v l)(hl:Mg l.length):Calls Tryz.prog 42 #[v] w λe w'=>∃p' c',e=.returned (.S p' l.length c')/\Own w.heap.size w' (.S p' l.length c') l/\Bw w w':=by
 obtain⟨i,hi,qc,iU,jU⟩:=gh Tryz.infoByte;obtain⟨p,cap,rfl,h⟩:=h;go_enter Tryz.func42,Tryz.ntmps42;go_wp2_with(first|(at_make;refine wpList_make_full _ rfl _ _ 22 rfl w.heap.size 5 i (.int .u8 0) 1 Tryz.underlying22 hi qc iU _ _ _ _ l.length rfl rfl rfl rfl ?b2 ?b3 ?b4 ?_))
 case b2=>rw[jU];omega
 case b3=>unfold maxLen;omega
 case b4=>exact iP _
 intro w1 bO hg;have hb:=qJ hg;have bz9:(madeCells #[Value.int .u8 0] l.length).toList=U (WC l 0):=by rw[ar0,toList_madeCells_one];simp
 rw[bz9]at bO;go_wp2
 go_loopw[4](λi wr=>∃k:Nat,k<=l.length/\i=.I k/\wr.ownsRow w.heap.size 5 1 (.T w.heap.size l.length l.length) l.length (U (WC l k))/\Bw w wr) (λi _=>l.length-(intOf i).toNat)
 exact⟨0,fN _,rfl,bO,hb⟩;{
 obtain⟨k,hk,rfl,ho,aK⟩:=hrel;by_cases aT:k<l.length;{
 rcases h with rfl|⟨b,o,rfl,hc⟩;{simp at aT};{
 have Dx:wr.cell? (Ad b (o+k))=some (.int .u8 (l.getD k 0)):=(aK.cell (p:=(Ad b (o+k))) (nY w _ (hc k aT))).trans (hc k aT);have hfz:=ho.frozenAt k;have EW:∃u,wr.cell? (Ad w.heap.size k)=some u:=by rw[ho.cellAt k ae];exact⟨_,bD (by rw[dZ,UO hk];omega)⟩
 obtain⟨u,hcu⟩:=EW;have cX:=ho.stored k (.int .u8 (l.getD k 0));rw[ar1 aT]at cX;have HS:Hid (World.ownsRow (wr.setCell (Ad w.heap.size k) (.int .u8 (l.getD k 0))) w.heap.size 5 1 (.T w.heap.size l.length l.length) l.length (U (WC l (k+1)))):=cX.1;go_wp2;go_roundw;exact⟨k+1,ae,by go_num,by simpa[aT]using HS.out,aK.setCell ao _⟩;exact bM}};{
 have:k=l.length:=by omega
 subst this;rw[ar2]at ho;go_wp2;go_ret;exact⟨_,_,rfl,ho,aK⟩}}
def Ll{l1 l2:LI}{k:Nat}(h1:k<l1.length)(h2:k<l2.length)(h:l1.take k=l2.take k)(e:l1[k]?.getD 0=l2[k]?.getD 0):l1.take (k+1)=l2.take (k+1):=by
 rw[Qx h1,Qx h2,h];simp[bD h1,bD h2]at e;rw[e]
def below_drewN{B:Nat}{w w':World}(h:Below B w w'){n:Nat}:Below B w (w'.drewN n):=⟨h.os,h.tape,h.output,h.size,h.block⟩
def DI{v1 v2:Value}{l1 l2:LI}{w:World}(h1:Rd w v1 l1)(h2:Rd w v2 l2)(KJ:l1.length<=2097152)(KI:l2.length<=2097152):Calls Tryz.prog 57 #[v1,v2] w (Rb (.bool (decide (l1=l2))) w):=by
 obtain⟨p1,dT6,rfl,h1⟩:=h1;obtain⟨p2,dT5,rfl,h2⟩:=h2;by_cases hlen:l1.length=l2.length;{
 have cg:((l1.length:Int) != (l2.length:Int))=false:=by simp;omega
 go_enter Tryz.func57,Tryz.ntmps57;go_wp2
 go_loopw[5](λi wr=>∃k:Nat,k<=l1.length/\i=.I k/\l1.take k=l2.take k/\Bw w wr) (λi _=>l1.length-(intOf i).toNat)
 exact⟨0,fN _,rfl,rfl,cR _ _⟩;{
 obtain⟨k,hk,rfl,ht,aK⟩:=hrel;have HT:Hid (l1.take k=l2.take k):=ht;by_cases aT:k<l1.length;{
 rcases h1 with rfl|⟨b1,o1,rfl,iW⟩;{simp at aT};{
 rcases h2 with rfl|⟨b2,o2,rfl,ku⟩;{simp at hlen;subst hlen;simp at aT};{
 have MH:k<l2.length:=ae;have g1:wr.cell? (Ad b1 (o1+k))=some (.int .u8 (l1.getD k 0)):=(aK.cell (p:=(Ad b1 (o1+k))) (nY w _ (iW k aT))).trans (iW k aT);have g2:wr.cell? (Ad b2 (o2+k))=some (.int .u8 (l2.getD k 0)):=(aK.cell (p:=(Ad b2 (o2+k))) (nY w _ (ku k MH))).trans (ku k MH);have i1:(k:Int)<(l1.length:Int):=ae;have i2:(k:Int)<(l2.length:Int):=ae;have HL:Hid (l1.length=l2.length):=hlen;by_cases hx:l1[k]=l2[k];{
 have hb:(l1[k] != l2[k])=false:=by simp only[bne_eq_false_iff_eq];exact hx
 have HX:Hid (l1[k]?.getD 0=l2[k]?.getD 0):=by show _=_;simpa[aT,MH]using hx
 go_wp2
 go_quiet (fail)
 go_wp2;go_roundw;exact⟨k+1,ae,by go_num,Ll aT MH HT.out HX.out,below_drewN aK⟩;exact bM};{
 have hb:(l1[k] != l2[k])=true:=by simp only[bne_iff_ne];exact hx
 have HF:Hid (decide (l1=l2)=false):=by show _=_;simp only[xL];intro e;apply hx;simp[e]
 go_wp2
 go_quiet (fail)
 go_wp2;go_ret;exact⟨by rw[HF.out];rfl,below_drewN aK⟩}}}};{
 have fh:k=l1.length:=ae;have HF:Hid (decide (l1=l2)=true):=by have:=HT.out;rw[fh,ng,hlen,ng]at this;show _=_;simp[this]
 subst fh;go_wp2;go_ret;exact⟨by rw[HF.out];rfl,aK⟩}}};{
 have cg:((l1.length:Int) != (l2.length:Int))=true:=by simp;omega
 have tg:decide (l1=l2)=false:=by simp only[xL];intro e;apply hlen;rw[e]
 rw[tg];go_enter Tryz.func57,Tryz.ntmps57;go_wp2;go_ret;exact⟨rfl,cR _ _⟩}
def Own.lt{B:Nat}{w:World}{v:Value}{l:LI}(h:Own B w v l):∀b,v.ownBlock=some b->B<=b/\b<w.heap.size:=Gt h
def Own.set{B:Nat}{w:World}{v:Value}{l:LI}(h:Own B w v l){a:Addr}(ha:a.block<B)(u:Value):Own B (w.setCell a u) v l:=qn h ha u
def marks(k:Int):Nat->LI
 |0=>[]
 |n+1=>marks k n++[(k+n) % 256]
def ga(k:Int)(n:Nat):(marks k n).length=n:=by induction n with|zero=>rfl|succ n ih=>simp[marks,ih]
theorem Xq(k:Int)(n j:Nat)(h:j<n):(marks k n)[j]?=some ((k+j) % 256):=by
 induction n with
 |zero=>omega
 |succ n ih=>
  by_cases e:j=n;{subst e;simp[marks,ga]};{rw[marks,lE (by rw[ga];omega)];exact ih ae}
def marked(l:LI)(k:Int)(j:Nat):LI:=marks k j++l.drop j
def I0{l:LI}{k:Int}{j:Nat}(h:j<=l.length):(marked l k j).length=l.length:=by simp[marked,ga];omega
def PM(l:LI)(k:Int):marked l k 0=l:=by simp[marked,marks]
def PQ(l:LI)(k:Int):marked l k l.length=marks k l.length:=by simp[marked]
def PO{l:LI}{k:Int}{j:Nat}(h:j<l.length):(U (marked l k j)).set j (.int .u8 ((k+j) % 256))=U (marked l k (j+1)):=by
 have e2:l.drop j=l[j]::l.drop (j+1):=Mr h;have e4:(marked l k j).set j ((k+j) % 256)=marked l k (j+1):=by unfold marked;rw[e2,Qw _ _ (by rw[ga];omega),ga,Cb,GM];simp[marks]
 rw[<-e4,U,U,Wh]
def qe{w:World}{row:Option Nat}:w.grownBy w row:=⟨rfl,rfl,rfl,iP _,λ_ _ _=>rfl⟩
def gL{w w1 w2:World}{row:Option Nat}(h:w.grownBy w1 row)(k:w1.grownBy w2 row):w.grownBy w2 row:=
 ⟨k.os.trans h.os,k.tape.trans h.tape,k.output.trans h.output,dQ h.size k.size,λi hi cg=>(k.block i (gQ hi h.size) cg).trans (h.block i hi cg)⟩
def I8{B:Nat}{p:OA}{c:Nat}{l:LI}{k:Int}{w:World}(h:Own B w (.S p l.length c) l)(hl:l.length<=2097152)(k0:0<=k)(k1:k<=100000000):Calls Tryz.prog 58 #[.S p l.length c,.I k] w λe w'=>e=.returned (.I (k+l.length))/\Own B w' (.S p l.length c) (marks k l.length)/\w.grownBy w' (Value.ownBlock (.S p l.length c)):=by
 have Ur:(p=none/\l=[])\/∃g,p=some (Ad g 0):=by rcases h.2 with⟨e,h0⟩|⟨g,cap,cur,e,_⟩;{simp at e;exact .inl ⟨e.1,e.2.1⟩};{simp at e;exact .inr ⟨g,e.1⟩}
 go_enter Tryz.func58,Tryz.ntmps58;go_wp2
 go_loopw[1,5](λkk i wr=>∃j:Nat,j<=l.length/\i=.I j/\kk=.I (k+j)/\wr.ownsRow B 5 1 (.S p l.length c) l.length (U (marked l k j))/\w.grownBy wr (Value.ownBlock (.S p l.length c))) (λ_ i _=>l.length-(intOf i).toNat)
 exact⟨0,fN _,rfl,ai,by rw[PM];exact h,qe⟩;{
 obtain⟨j,hj,rfl,rfl,ho,hg⟩:=hrel;by_cases aT:j<l.length;{
 rcases Ur with⟨rfl,rfl⟩|⟨g,rfl⟩;{simp at aT};{
 have hfz:=ho.frozenAt j;have EW:∃u,wr.cell? (Ad g j)=some u:=by rw[ho.cellAt j ae];exact⟨_,bD (by rw[dZ,I0 hj];omega)⟩
 obtain⟨u,hcu⟩:=EW;have cX:=ho.stored j (.int .u8 ((k+j) % 256));rw[PO (k:=k) aT]at cX;have HS:=af cX.1;have HG:=af (gL hg cX.2);go_wp2;go_roundw;exact⟨j+1,ae,by go_num,by go_num,by simpa using HS.out,by simpa using HG.out⟩;exact bM}};{
 have:j=l.length:=by omega
 subst this;rw[PQ]at ho;go_wp2;go_ret;refine⟨rfl,?_,hg⟩;unfold Own;rw[ga];exact ho}}
def Ju{p:OA}{c n:Nat}{k:Int}{w:World}(h:Rd w (.S p n c) (marks k n))(hl:n<=2097152)(k0:0<=k)(k1:k<=100000000):Calls Tryz.prog 116 #[.S p n c,.I k] w (Rb (.I (k+n)) w):=by
 have Ur:n=0\/∃g o,p=some (Ad g o)/\∀j,j<n->w.cell? (Ad g (o+j))=some (.int .u8 ((k+j) % 256)):=by
  obtain⟨q,cap,e,h⟩:=h;simp only[qZ,ga]at e;obtain⟨rfl,-,rfl⟩:=e;rcases h with e|⟨b,o,rfl,hc⟩;{left;have:=uO List.length e;simpa[ga]using this}
  {
 right
 refine⟨b,o,rfl,λj hj=>?_⟩;rw[hc j (by rw[ga];exact hj)];simp[List.getD,Xq k n j hj]}
 go_enter Tryz.func116,Tryz.ntmps116;go_wp2
 go_loopw[1,5](λkk i wr=>∃j:Nat,j<=n/\i=.I j/\kk=.I (k+j)/\Bw w wr) (λ_ i _=>n-(intOf i).toNat)
 exact⟨0,fN _,rfl,ai,cR _ _⟩;{
 obtain⟨j,hj,rfl,rfl,aK⟩:=hrel;by_cases aT:j<n;{rcases Ur with rfl|⟨g,o,rfl,hc⟩;{omega};{have Dx:wr.cell? (Ad g (o+j))=some (.int .u8 ((k+j) % 256)):=(aK.cell (p:=(Ad g (o+j))) (nY w _ (hc j aT))).trans (hc j aT);have cg:((k+(j:Int)) % 256 != (k+(j:Int)) % 256)=false:=ai;go_wp2;go_roundw;exact⟨j+1,ae,by go_num,by go_num,by first|exact aK|exact below_drewN aK⟩;exact bM}};{
 have:j=n:=by omega
 subst this;go_wp2;go_ret;exact⟨rfl,aK⟩}}
structure Kept(vs:List Value)(w w':World):Prop where
 os:w'.os=w.os
 tape:w'.tape=w.tape
 output:w'.output=w.output
 size:w.heap.size<=w'.heap.size
 block:∀k,k<w.heap.size->(∀v∈vs,v.ownBlock≠some k)->w'.heap[k]?=w.heap[k]?
def Kept.refl(vs:List Value)(w:World):Kept vs w w:=⟨rfl,rfl,rfl,iP _,λ_ _ _=>rfl⟩
def Kept.trans{vs:List Value}{w w1 w2:World}(h:Kept vs w w1)(k:Kept vs w1 w2):Kept vs w w2:=
 ⟨k.os.trans h.os,k.tape.trans h.tape,k.output.trans h.output,dQ h.size k.size,λi hi cg=>(k.block i (gQ hi h.size) cg).trans (h.block i hi cg)⟩
def Kept.dY{vs:List Value}{w w':World}(h:Bw w w'):Kept vs w w':=⟨h.os,h.tape,h.output,h.size,λk hk _=>h.block k hk⟩
def Kept.Gd{vs:List Value}{w w':World}{v:Value}(h:w.grownBy w' v.ownBlock)(hv:v∈vs):Kept vs w w':=
 ⟨h.os,h.tape,h.output,h.size,λk hk cg=>h.block k hk (λe=>cg v hv e.symm)⟩
def Kept.alloc{vs:List Value}{w w':World}(h:Kept vs w w')(o:Obj):Kept vs w (w'.alloc o):=h.trans (Kept.dY (au.alloc ao _))
def Kept.below{vs:List Value}{w w':World}{B:Nat}(h:Kept vs w w')(hB:B<=w.heap.size)(hv:∀v∈vs,∀b,v.ownBlock=some b->B<=b):Below B w w':=
 ⟨h.os,h.tape,h.output,h.size,λk hk=>h.block k ae (λv hv' e=>aG (hv v hv' k e))⟩
def Own.td{B:Nat}{vs:List Value}{w w':World}{v:Value}{l:LI}(h:Own B w v l)(hk:Kept vs w w')(cg:∀u∈vs,∀b,v.ownBlock=some b->u.ownBlock≠some b):Own B w' v l:=by
 refine⟨h.1,?_⟩;rcases h.2 with hn|⟨g,cap,cur,rfl,hb,hgg,rest⟩;{exact .inl hn};{refine .inr ⟨g,cap,cur,rfl,hb,?_,rest⟩;rw[hk.block g (Gq.1 hgg).1 (λu hu=>cg u hu g rfl)];exact hgg}
def ag{w w':World}{b o:Nat}{v:Value}(h:w.cell? (Ad b o)=some v)(hb:Bw w w'):w'.cell? (Ad b o)=some v:=
 (hb.cell (p:=(Ad b o)) (nY w _ h)).trans h
def cG{w w':World}{b:Nat}(h:∀o,w.frozen? (Ad b o)=false)(hb:Bw w w')(aT:b<w.heap.size):∀o,w'.frozen? (Ad b o)=false:=
 λo=>(hb.frozen (p:=(Ad b o)) aT).trans (h o)
def Kept.cellAt{vs:List Value}{w w':World}(h:Kept vs w w'){b:Nat}(hb:b<w.heap.size)(hv:∀v∈vs,v.ownBlock≠some b):∀o,w'.cell? (Ad b o)=w.cell? (Ad b o):=
 λo=>tJ (h.block b hb hv)
def Kept.more{vs us:List Value}{w w':World}(h:Kept vs w w')(hs:∀v∈vs,v∈us):Kept us w w':=
 ⟨h.os,h.tape,h.output,h.size,λk hk cg=>h.block k hk (λv hv=>cg v (hs v hv))⟩
open Go.Proofs.Tryz
def Own.form{B:Nat}{w:World}{v:Value}{l:LI}(h:Own B w v l):∃p c,v=.S p l.length c:=by
 rcases h.2 with⟨rfl,h0⟩|⟨g,cap,cur,rfl,_⟩;{exact⟨none,0,by rw[h0]⟩};{exact⟨_,_,rfl⟩}
def Rd.news{w:World}{a:Addr}{c:Nat}{l:LI}(h:Rd w (.S (some a) l.length c) l):(U l).length=l.length*1/\(∀j u,(U l)[j]?=some u->w.cell? (a.add j)=some u)/\(∀u∈U l,u.oneCell'=true):=by
 refine⟨ai,?_,?_⟩;{
 intro j u hj;obtain⟨p,cap,e,h⟩:=h;obtain⟨rfl,-,rfl⟩:=js e;rcases h with rfl|⟨b,o,e,hc⟩;{simp at hj};{
 simp only[kU]at e;subst e;have Ck:j<l.length:=by have:=(bf.1 hj).1;simpa using this
 have:=hc j Ck;rw[CO,this];simp[List.getD,bD Ck]at hj⊢;exact hj}};{
 intro u hu;obtain⟨x,_,rfl⟩:=ji.1 hu
 rfl}
def Rd.sc{w:World}{c:Nat}{l:LI}(h:Rd w (.S none l.length c) l):l=[]:=by
 obtain⟨p,cap,e,h⟩:=h;obtain⟨rfl,-,rfl⟩:=js e;rcases h with rfl|⟨b,o,e,hc⟩;{rfl}
 {cases e}
def fO{P:Program}{w:World}{base:Nat}{t:TypeId}(ty:TypeId){e:TypeId}(i:TypeInfo){size:Nat}(ht:P.underlying t=some (.slice e))(hi:P.info? e=some i){v:Value}{n:Nat}{xs:List Value}(c:Nat)(bO:w.ownsRow base e size v n xs):(Builtin.append_ #[t,t] ty #[v,.S none 0 c]).run P w=.ok v w:=by
 rcases bO.2 with⟨rfl,rfl⟩|⟨g,cap,cur,rfl,_,_,xq,_⟩;{simp[Builtin.append_,ad2 ht,sizeOf,typeInfo,hi,Builtin.lenOf,Builtin.firstCells]};{simp[Builtin.append_,ad2 ht,sizeOf,typeInfo,hi,Builtin.lenOf,Builtin.firstCells,xq,storeCells]}
theorem xT{p:OA}{c:Nat}{l:LI}{w:World}(h:Rd w (.S p l.length c) l)(hl:l.length<=2097152):Calls prog 65 #[.S p l.length c] w λe w'=>∃p' c',e=.returned (.S p' l.length c')/\Own w.heap.size w' (.S p' l.length c') l/\Bw w w':=by
 obtain⟨i,hi,qc,iU,jU⟩:=gh Tryz.infoByte;cases p with
 |none=>
  have e:=h.sc;subst e;have Y6:=λw:World=>fO (P:=prog) 22 i underlying22 hi c (gC w 0 5 1)
  go_in
  go_wp2;go_ret;exact⟨none,0,rfl,gC _ _ _ _,cR _ _⟩
 |some a=>
  obtain⟨n1,n2,n3⟩:=h.news
  go_in
  go_wp2_with(at_builtin;refine Kc _ rfl _ _ 22 rfl w.heap.size 5 i (.int .u8 0) 1 1 underlying22 hi qc iU jU rfl aZ _ _ _ rfl (gC _ _ _ _) a _ c (U l) rfl n1 n2 n3 iF ae ao ?_);intro v' w1 bO hg _;have ho:Own w.heap.size w1 v' l:=by simpa using bO
  obtain⟨p',c',rfl⟩:=ho.form;have hb:=qJ hg;go_wp2;go_ret;exact⟨p',c',rfl,ho,hb⟩
theorem rQ{w:World}{ops:Array Oper}{rest:List Oper}{o:Oper}{a:Act}{Q:Exit->Act->World->Prop}(mW:o.guard=none){s x:Operand}(ho:o.op=.call {callee:=.builtin .append,args:=#[s,x],argTypes:=#[22,22]}){B:Nat}{v:Value}{l m lm:LI}(vr:Hid (lm=l++m)){p:OA}{c:Nat}(hs:a.eval s=v)(hx:a.eval x=.S p m.length c)(bO:Own B w v l)(hr:Rd w (.S p m.length c) m)(hl:l.length+m.length<=4194304)(hB:B<=w.heap.size)(hK:∀p' c' w',Own B w' (.S p' lm.length c') lm->w.grownBy w' v.ownBlock->wpList prog ops Q rest (a.put o.dst (.S p' lm.length c')) w'):wpList prog ops Q (o::rest) a w:=by
 obtain⟨i,hi,qc,iU,jU⟩:=gh Tryz.infoByte;have e:=aa vr;subst e;cases p with
 |none=>
  have e:=hr.sc;subst e;obtain⟨pv,cv,rfl⟩:=bO.form;have Y6:=fO (P:=prog) o.type i underlying22 hi c bO;refine Lib.wpList_append_run w mW s x 22 22 ho _ _ hs hx _ _ Y6 ?_;have:=hK pv cv w (by simpa using bO) ⟨rfl,rfl,rfl,iP _,λ_ _ _=>rfl⟩;simpa using this
 |some ad=>
  obtain⟨n1,n2,n3⟩:=hr.news;refine Kc w mW s x 22 ho B 5 i (.int .u8 0) 1 1 underlying22 hi qc iU jU rfl aZ v _ _ hs bO ad _ c (U m) hx n1 n2 n3 iF ae hB ?_;intro v' w' h1 h2 _;have mV:Own B w' v' (l++m):=by unfold Own;rw[ir,U,kT];exact h1
  obtain⟨p',c',rfl⟩:=mV.form;exact hK p' c' w' mV h2
def DC{n:Nat}{w:World}(hn:n<=4194304):Calls prog 199 #[.S none 0 0,.I n] w λe w'=>∃p' c',e=.returned (.S p' 0 c')/\Own w.heap.size w' (.S p' 0 c') []/\Bw w w':=by
 obtain⟨i,hi,qc,iU,jU⟩:=gh Tryz.infoByte;by_cases h:n=0;{
 subst h
 go_in
 go_wp2;go_ret;exact⟨none,0,rfl,gC _ _ _ _,cR _ _⟩};{
 have hp:=qi 0 n;have hr:=Lib.run_append_nil_zeros (P:=prog) w 22 3 22 5 i (.int .u8 0) .i64 .i64 underlying22 underlying3 hi qc n ae ae ae (by rw[jU];omega);have HR:=af hr;have Eh:=aN8 w n 0 5;have EU:=aN7 w n 0 5 iF;generalize grownCap w n 0 5=cc at HR Eh EU
 go_in
 go_wp2_with(at_builtin;refine Lib.wpList_append_run _ rfl _ _ _ _ rfl _ _ rfl rfl _ _ (by exact HR) ?_);unfold maxLen at EU;go_wp2;go_ret;have hs:(Builtin.zeroCells #[Value.int IntKind.u8 0] n++Builtin.zeroCells #[Value.int IntKind.u8 0] (cc-n)).size=cc*1:=by rw[aN5,aN6,aN6];simp;omega
 exact⟨_,cc,rfl,World.ownsRow_made (base:=w.heap.size) (e:=5) (size:=1) w _ cc ao iF hs,(au.alloc ao _).drew⟩}
def lQ(w:World)(g:Nat)(vs:List Value)(ls:List LI):Prop:=
 vs.length=ls.length/\∀j v l,vs[j]?=some v->ls[j]?=some l->w.cell? (Ad g j)=some v/\Rd w v l
def lQ.below{w w':World}{g:Nat}{vs:List Value}{ls:List LI}(h:lQ w g vs ls)(hb:Bw w w'):lQ w' g vs ls:=
 ⟨h.1,λj v l e1 e2=>⟨ag (h.2 j v l e1 e2).1 hb,(h.2 j v l e1 e2).2.below hb⟩⟩
def lQ.get{w:World}{g:Nat}{vs:List Value}{ls:List LI}(h:lQ w g vs ls)(j:Nat)(hj:j<ls.length):∃(p:OA)(c:Nat)(l:LI),ls[j]?=some l/\w.cell? (Ad g j)=some (.S p l.length c)/\Rd w (.S p l.length c) l:=by
 have hv:j<vs.length:=h.1▸hj;obtain⟨h1,h2⟩:=h.2 j vs[j] ls[j] (bD hv) (bD hj);obtain⟨p,c,e,hh⟩:=id h2;exact⟨p,c,ls[j],bD hj,by rw[h1,e],by rw[e]at h2;exact h2⟩
def cat(ls:List LI):LI:=ls.flatten
def vU:cat []=[]:=rfl
def Fc(l:LI):cat [l]=l:=by simp[cat]
def Ny(l m:LI):cat [l,m]=l++m:=by simp[cat]
def vR{ls:List LI}{k:Nat}{l:LI}(h:ls[k]?=some l):cat (ls.take (k+1))=cat (ls.take k)++l:=by
 obtain⟨hk,e⟩:=bf.1 h;unfold cat;rw[Qx hk,Ko,e];simp only[tY,af8,D5]
def qL(ls:List LI)(k:Nat):(cat (ls.take k)).length<=(cat ls).length:=by
 have e:cat ls=cat (ls.take k)++cat (ls.drop k):=by unfold cat;rw[<-Ko,Dg]
 rw[e,ir];omega
theorem yy{g:Nat}{vs:List Value}{ls:List LI}{w:World}(h:lQ w g vs ls)(hl:(cat ls).length<=4194304)(hk:ls.length<=1000):Calls prog 144 #[.T g ls.length ls.length] w λe w'=>∃p' c',e=.returned (.S p' (cat ls).length c')/\Own w.heap.size w' (.S p' (cat ls).length c') (cat ls)/\Bw w w':=by
 obtain⟨i,hi,qc,iU,jU⟩:=gh Tryz.infoByte
 go_in
 go_wp2
 go_loopw[3,11](λs i wr=>∃k:Nat,k<=ls.length/\i=.I k/\s=.I ((cat (ls.take k)).length:Nat)/\Bw w wr) (λ_ i _=>ls.length-(intOf i).toNat)
 exact⟨0,fN _,rfl,by simp[cat],cR _ _⟩;{
 obtain⟨k,la,rfl,rfl,aK⟩:=hrel;have sA:=qL ls k;by_cases aT:k<ls.length;{
 obtain⟨p,c,l,e1,e2,e3⟩:=(h.below aK).get k aT;have cX:=vR e1;have hln:(cat (ls.take k)).length+l.length=(cat (ls.take (k+1))).length:=by rw[cX];simp
 have al8:=qL ls (k+1);have hle:(cat (ls.take k)).length+l.length<=4194304:=ae;have HL:=af hln;generalize(cat (ls.take k)).length=a at*;go_wp2;go_roundw;exact⟨k+1,ae,by go_num,by rw[<-aa HL];go_num,aK⟩;exact bM};{
 have e:k=ls.length:=ae;subst e;rw[ng];rw[ng]at sA;go_wp2_with fail;refine(DC hl).mono ?_;rintro e w1⟨p1,c1,rfl,o1,aA⟩;replace o1:Own w.heap.size w1 (.S p1 0 c1) []:=o1.mono aK.size;have b1:=aj aK aA;go_wp2
 go_loopw[6,27](λv i wr=>∃k:Nat,k<=ls.length/\i=.I k/\(∃p c,v=.S p (cat (ls.take k)).length c/\Own w.heap.size wr v (cat (ls.take k)))/\Bw w wr) (λ_ i _=>ls.length-(intOf i).toNat)
 exact⟨0,fN _,rfl,⟨p1,c1,by simp[cat],by simpa[cat]using o1⟩,b1⟩;{
 obtain⟨k,la,rfl,⟨pv,cv,rfl,ho⟩,aK⟩:=hrel;have sA:=qL ls k;by_cases aT:k<ls.length;{
 obtain⟨p,c,l,e1,e2,e3⟩:=(h.below aK).get k aT;have cX:=vR e1;have al8:=qL ls (k+1);have hle:(cat (ls.take k)).length+l.length<=4194304:=by have:=uO List.length cX;simp only[ir]at this;omega
 have HS:=af cX;generalize(cat (ls.take k))=a at*;cases p with
 |none=>
  have e:=e3.sc;subst e;have HA:=af (fO (P:=prog) 22 i underlying22 hi c ho);go_wp2_with(at_builtin;refine Lib.wpList_append_run _ rfl _ _ _ _ rfl _ _ rfl rfl _ _ (by exact HA) ?_);go_roundw;exact⟨k+1,ae,by go_num,⟨pv,cv,by rw[aa HS];simp,by rw[aa HS];simpa using ho⟩,aK⟩;exact bM
 |some ad=>
  obtain⟨n1,n2,n3⟩:=e3.news;go_wp2_with(at_builtin;refine Kc _ rfl _ _ 22 rfl w.heap.size 5 i (.int .u8 0) 1 1 underlying22 hi qc iU jU rfl aZ _ _ _ rfl ho ad _ c (U l) rfl n1 n2 n3 iF ae aK.size ?_);intro v' w2 bO hg _;have b2:Bw w w2:=aK.grown hg aK.size (λk hk=>(ho.lt k hk).1);have mV:Own w.heap.size w2 v' (a++l):=by unfold Own;rw[ir,U,kT];exact bO
  obtain⟨p',c',rfl⟩:=mV.form;go_wp2;go_roundw;exact⟨k+1,ae,by go_num,⟨p',c',by rw[aa HS],by rw[aa HS];exact mV⟩,b2⟩;exact bM};{have e:k=ls.length:=ae;subst e;rw[ng]at ho;go_wp2;go_ret;exact⟨pv,cv,by rw[ng];rfl,ho,aK⟩}}}}
theorem Ro{g:Nat}{p:OA}{c:Nat}{l:LI}{w:World}(hc:w.cell? (Ad g 0)=some (.S p l.length c))(h:Rd w (.S p l.length c) l)(hl:l.length<=2097152):Cp 144 #[.T g 1 1] w λe w'=>∃p' c',e=.returned (.S p' l.length c')/\Own w.heap.size w' (.S p' l.length c') l/\Bw w w':=by
 have hp:lQ w g [.S p l.length c] [l]:=by
  refine⟨rfl,λj v m e1 e2=>?_⟩
  match j,e1,e2 with
  |0,e1,e2=>simp at e1 e2;subst e1 e2;exact⟨hc,h⟩
 have:=yy hp (by rw[Fc];omega) ai;rw[Fc]at this;exact this
theorem Rn{g:Nat}{p q:OA}{c d:Nat}{l m lm:LI}(vr:Hid (lm=l++m)){w:World}(hc:w.cell? (Ad g 0)=some (.S p l.length c))(hd:w.cell? (Ad g 1)=some (.S q m.length d))(h:Rd w (.S p l.length c) l)(k:Rd w (.S q m.length d) m)(hl:l.length+m.length<=4194304):Cp 144 #[.T g 2 2] w λe w'=>∃p' c',e=.returned (.S p' lm.length c')/\Own w.heap.size w' (.S p' lm.length c') lm/\Bw w w':=by
 have hp:lQ w g [.S p l.length c,.S q m.length d] [l,m]:=by
  refine⟨rfl,λj v x e1 e2=>?_⟩
  match j,e1,e2 with
  |0,e1,e2=>simp at e1 e2;subst e1 e2;exact⟨hc,h⟩
  |1,e1,e2=>simp at e1 e2;subst e1 e2;exact⟨hd,k⟩
 have:=yy hp (by rw[Ny,ir];omega) ai;rw[Ny,<-aa vr]at this;exact this
def bQ{w:World}{ops:Array Oper}{rest:List Oper}{o:Oper}{a:Act}{Q:Exit->Act->World->Prop}(mW:o.guard=none){s x:Operand}(ho:o.op=.call {callee:=.builtin .append,args:=#[s,x],argTypes:=#[22,22]}){B:Nat}(v:Value){l m lm:LI}(vr:Hid (lm=l++m))(p:OA)(c k:Nat)(hk:Hid (m.length=k))(hs:a.eval s=v)(hx:a.eval x=.S p k c)(bO:Own B w v l)(hr:Rd w (.S p k c) m)(hl:l.length+m.length<=4194304)(hB:B<=w.heap.size)(hK:∀p' c' w',Own B w' (.S p' lm.length c') lm->w.grownBy w' v.ownBlock->wpList prog ops Q rest (a.put o.dst (.S p' lm.length c')) w'):wpList prog ops Q (o::rest) a w:=by
 have e:=aa hk;subst e;exact rQ mW ho vr hs hx bO hr hl hB hK
def Own.one(w:World)(y:Int):Own w.heap.size (w.alloc (.cells #[.int .u8 y] 5)) (.T w.heap.size 1 1) [y]:=
 ad1 w #[.int .u8 y] 1 ao iF rfl
def dz{B:Nat}{a w w':World}{v:Value}{l:LI}{C:Nat}(h:Below B a w)(hg:w.grownBy w' v.ownBlock)(ho:Own C w v l)(hC:B<=C)(hB:B<=w.heap.size):Below B a w':=
 h.grown hg hB (λk e=>aG (ho.lt k e).1)
def fo{w:World}{ops:Array Oper}{rest:List Oper}{o:Oper}{a:Act}{Q:Exit->Act->World->Prop}(mW:o.guard=none){s x:Operand}(ho:o.op=.call {callee:=.builtin .append,args:=#[s,x],argTypes:=#[22,22]}){B:Nat}(v:Value){l lm:LI}{y:Int}(vr:Hid (lm=l++[y]))(g:Nat)(hs:a.eval s=v)(hx:a.eval x=.T g 1 1)(bO:Own B w v l)(hc:w.cell? (Ad g 0)=some (.int .u8 y))(hl:l.length<4194304)(hB:B<=w.heap.size)(h:∀p' c' w',Own B w' (.S p' lm.length c') lm->w.grownBy w' v.ownBlock->wpList prog ops Q rest (a.put o.dst (.S p' lm.length c')) w'):wpList prog ops Q (o::rest) a w:=by
 have hr:Rd w (.T g 1 1) [y]:=by
  refine⟨_,_,rfl,.inr ⟨g,0,rfl,λi hi=>?_⟩⟩;have e:i=0:=by simpa using hi
  subst e;simpa using hc
 exact rQ mW ho vr hs hx bO hr aU hB h
def aN(l:LI):Prop:=∀z∈l,0<=z/\z<256
def dT{α:Type}[DecidableEq α](c:α):List α->List (List α)
 |[]=>[[]]
 |x::l=>if x=c then[]::dT c l else(match dT c l with|[]=>[[x]]|n::ns=>(x::n)::ns)
theorem WB{α:Type}[DecidableEq α]{c:α}{s:List α}(h:c∉s):dT c s=[s]:=by
 induction s with
 |nil=>rfl
 |cons x l ih=>
  have hx:¬x=c:=λe=>h (by simp[e]);rw[dT,bG hx,ih (λh'=>h (by simp[h']))]
theorem Rl{α:Type}[DecidableEq α]{c:α}{s t:List α}(h:c∉s):dT c (s++c::t)=s::dT c t:=by
 induction s with
 |nil=>simp[dT]
 |cons x l ih=>
  have hx:¬x=c:=λe=>h (by simp[e]);rw[D6,dT,bG hx,ih (λh'=>h (by simp[h']))]
theorem aq9{α:Type}[DecidableEq α]{c x:α}(t:List α)(hx:¬x=c)(s:List α)(h:c∉s):∃n ns,dT c (s++x::t)=(s++x::n)::ns:=by
 induction s with
 |nil=>
  rw[Gp,dT,bG hx];cases dT c t with
  |nil=>exact⟨[],[],rfl⟩
  |cons n ns=>exact⟨n,ns,rfl⟩
 |cons y l ih=>
  have hy:¬y=c:=λe=>h (by simp[e]);obtain⟨n,ns,e⟩:=ih (λh'=>h (by simp[h']));exact⟨n,ns,by rw[D6,dT,bG hy,e];rfl⟩
theorem aq6{α:Type}[DecidableEq α](c:α){s:List α}:1<=(dT c s).length:=by
 cases s with
 |nil=>simp[dT]
 |cons x l=>
  rw[dT];split;{simp};{split<;>simp}
theorem aq7{α β:Type}[DecidableEq α][DecidableEq β](f:α->β)(c:α)(s:List α)(h:∀x∈s,f x=f c->x=c):dT (f c) (s.map f)=(dT c s).map (List.map f):=by
 induction s with
 |nil=>rfl
 |cons x l ih=>
  have ih:=ih λy hy=>h y (by simp[hy]);rw[iM,dT,dT,ih];by_cases hx:x=c;{rw[bN (by rw[hx]),bN hx];rfl};{rw[bG (λe=>hx (h x ai e)),bG hx];cases dT c l<;>rfl}
theorem MA{s:List UInt8}{c:UInt8}(h:c∉s):Lib.indexByte s c=-1:=by
 induction s with
 |nil=>rfl
 |cons x l ih=>
  have hx:¬x=c:=λe=>h (by simp[e]);unfold Lib.indexByte;rw[ih (λh'=>h (by simp[h']))];simp[hx]
theorem Jj{s t:List UInt8}{c:UInt8}(h:c∉s):Lib.indexByte (s++c::t) c=s.length:=by
 induction s with
 |nil=>simp[Lib.indexByte]
 |cons x l ih=>
  have hx:¬x=c:=λe=>h (by simp[e]);have e:=ih (λh'=>h (by simp[h']));rw[D6];unfold Lib.indexByte;rw[e];have h1:¬((l.length:Int)==-1)=true:=ai;rw[bG (by simpa using hx),bG h1];simp
theorem W6(c:UInt8):∀(n:Nat)(s:List UInt8),s.length<n->Lib.splitK [c] 0 (Lib.count s [c]) s=dT c s/\Lib.count s [c]+1=(dT c s).length:=by
 intro n
 induction n with
 |zero=>intro s h;omega
 |succ n ih=>
  intro s h;by_cases hc:c∈s;{
 obtain⟨pre,t,rfl,hp⟩:=List.eq_append_cons_of_mem hc;have hi:Lib.index (pre++c::t) [c]=(pre.length:Nat):=by rw[Lib.index_one,Jj hp]
 have hd:(pre++c::t).drop (pre.length+1)=t:=by rw[List.drop_append];simp
 obtain⟨e1,e2⟩:=ih t (by simp at h;omega);rw[Lib.count_hit ai hi,Rl hp];simp only[iT,Af,kS,hd];constructor;{rw[ag0 1,Lib.splitK,bG (by rw[hi];simp),hi];simp only[qY,iT,Af,kS,GK,hd,e1];simp};{omega}};{
 have hi:Lib.index s [c]=-1:=by rw[Lib.index_one,MA hc]
 rw[Lib.count_miss hi,WB hc];exact⟨rfl,rfl⟩}
def uj(c:Int):Bool:=(decide (97<=c)&&decide (c<=122))||(decide (48<=c)&&decide (c<=57))||c==45||c==95
def kP(l:LI):Bool:=decide (1<=l.length)&&decide (l.length<=16)&&l.all uj
def st(k:Nat):LI->Bool
 |[]=>decide (1<=k)&&decide (k<=8)
 |c::t=>c==47&&(decide (k+(dT 47 t).length<=8)&&(dT 47 t).all kP)
def vp(p:LI):Bool:=st 0 p
def ab9{c:Int}(h:uj c=true):¬c=47:=by
 intro e;subst e
 revert h
 decide
def Gl{l:LI}(h:∀x∈l,uj x=true):(47:Int)∉l:=λhm=>ab9 (h _ hm) rfl
def aW0{k:Nat}{nm:LI}(h:∀x∈nm,uj x=true):st k (47::nm)=(kP nm&&st (k+1) []):=by
 rw[st,st,WB (Gl h)];by_cases hk:k+1<=8;{simp[hk]};{simp[hk]}
def az4{k:Nat}{nm t:LI}(h:∀x∈nm,uj x=true):st k (47::(nm++47::t))=(kP nm&&st (k+1) (47::t)):=by
 rw[st,st,Rl (Gl h)];have e:k+(nm::dT 47 t).length=k+1+(dT 47 t).length:=by simp;omega
 rw[e];rw[af9];cases kP nm<;>cases decide (k+1+(dT 47 t).length<=8)<;>cases(dT 47 t).all kP<;>rfl
def aW1{k:Nat}{nm t:LI}{c:Int}(h:∀x∈nm,uj x=true)(hc:¬c=47)(hb:uj c=false):st k (47::(nm++c::t))=false:=by
 obtain⟨n,ns,e⟩:=aq9 t hc nm (Gl h);rw[st,e];have h0:kP (nm++c::n)=false:=by rw[kP,List.all_append,af9,hb];simp
 rw[af9,h0];simp
def OR{k:Nat}{c:Int}{t:LI}(hc:¬c=47):st k (c::t)=false:=by
 rw[st];simp[hc]
theorem DM:∀{a b:LI},aN a->aN b->Lib.bytesOf a=Lib.bytesOf b->a=b
 |[],[],_,_,_=>rfl
 |[],y::b,_,_,h=>by simp[Lib.bytesOf]at h
 |x::a,[],_,_,h=>by simp[Lib.bytesOf]at h
 |x::a,y::b,ha,hb,h=>by
  simp only[Lib.bytesOf,iM,List.cons.injEq]at h;have h1:=ha x ai;have h2:=hb y ai;have e:x=y:=by have:=uO UInt8.toNat h.1;simp at this;omega
  rw[e,DM (λz hz=>ha z (by simp[hz])) (λz hz=>hb z (by simp[hz])) h.2]
def FD{t:LI}(hB:aN t):Lib.splitK (Lib.bytesOf [47]) 0 (Lib.count (Lib.bytesOf t) (Lib.bytesOf [47])) (Lib.bytesOf t)=(dT 47 t).map Lib.bytesOf/\Lib.count (Lib.bytesOf t) (Lib.bytesOf [47])+1=(dT 47 t).length:=by
 have e47:Lib.bytesOf [47]=[UInt8.ofNat (47:Int).toNat]:=rfl;obtain⟨e1,e2⟩:=W6 (UInt8.ofNat (47:Int).toNat) _ (Lib.bytesOf t) (Nat.lt_succ_self _);have em:dT (UInt8.ofNat (47:Int).toNat) (Lib.bytesOf t)=(dT 47 t).map Lib.bytesOf:=by refine aq7 (λn:Int=>UInt8.ofNat n.toNat) 47 t λx hx e=>?_;have h1:=hB x hx;have:=uO UInt8.toNat e;simp at this;omega
 rw[e47,e1,em];refine⟨rfl,?_⟩;rw[e2,em,dZ]
theorem aJ1{t:LI}(hB:aN t):∀n∈dT 47 t,aN n:=by
 induction t with
 |nil=>intro n hn;simp[dT]at hn;subst hn;intro z hz;simp at hz
 |cons x l ih=>
  have ih:=ih λz hz=>hB z (by simp[hz]);intro n hn;rw[dT]at hn;split at hn;{rcases jG.1 hn with rfl|hn;{intro z hz;simp at hz};{exact ih n hn}};{
 cases hc:dT 47 l with
 |nil=>
  rw[hc]at hn;simp at hn;subst hn;intro z hz;simp at hz;subst hz;exact hB _ ai
 |cons m ms=>
  rw[hc]at hn ih;rcases jG.1 hn with rfl|hn;{intro z hz;rcases jG.1 hz with rfl|hz;{exact hB _ ai};{exact ih m ai z hz}};{exact ih n (by simp[hn])}}
def Rd.at{w:World}{p:OA}{n c:Nat}{l:LI}(h:Rd w (.S p n c) l)(hl:0<l.length):∃b o,p=some (Ad b o)/\n=l.length/\∀i,i<l.length->w.cell? (Ad b (o+i))=some (.int .u8 (l.getD i 0)):=by
 obtain⟨p',c',e,h⟩:=h;obtain⟨rfl,rfl,-⟩:=js e;rcases h with rfl|⟨b,o,e2,hc⟩;{simp at hl};{exact⟨b,o,e2,rfl,hc⟩}
def PC(c:Int):(97<=c/\c<=122/\uj c=true)\/(122<c/\uj c=false)\/(48<=c/\c<=57/\uj c=true)\/(c=95/\uj c=true)\/(57<c/\c<97/\¬c=95/\uj c=false)\/(c=45/\uj c=true)\/(c<48/\¬c=45/\uj c=false):=by
 unfold uj;by_cases h1:97<=c<;>by_cases h2:c<=122<;>by_cases h3:48<=c<;>by_cases h4:c<=57<;>by_cases h5:c=45<;>by_cases h6:c=95<;>simp[h1,h2,h3,h4,h5,h6]<;>omega
def Ha{c:Int}{w:World}:Calls Tryz.prog 222 #[.int .u8 c] w λe w'=>e=.returned (.bool (uj c))/\w'=w:=by
 rcases PC c with⟨h1,h2,hb⟩|⟨h2,hb⟩|⟨h3,h4,hb⟩|⟨rfl,hb⟩|⟨h4,h1,h6,hb⟩|⟨rfl,hb⟩|⟨h3,h5,hb⟩;{rw[hb];go_enter Tryz.func222,Tryz.ntmps222;go_wp2;go_ret;exact⟨rfl,rfl⟩};{rw[hb];have h1:(97:Int)<=c:=ae;have h3:(48:Int)<=c:=ae;have h2':¬c<=122:=ae;have h4:¬c<=57:=ae;have h5:¬c=45:=ae;have h6:¬c=95:=ae;go_enter Tryz.func222,Tryz.ntmps222;go_wp2;go_ret;exact⟨by simp[h5,h6],rfl⟩};{rw[hb];have h1:¬(97:Int)<=c:=ae;go_enter Tryz.func222,Tryz.ntmps222;go_wp2;go_ret;exact⟨rfl,rfl⟩};{rw[hb];go_enter Tryz.func222,Tryz.ntmps222;go_wp2;go_ret;exact⟨rfl,rfl⟩};{rw[hb];have h1:¬(97:Int)<=c:=ae;have h3:(48:Int)<=c:=ae;have h4:¬c<=57:=ae;have h5:¬c=45:=ae;go_enter Tryz.func222,Tryz.ntmps222;go_wp2;go_ret;exact⟨by simp[h5,h6],rfl⟩};{rw[hb];go_enter Tryz.func222,Tryz.ntmps222;go_wp2;go_ret;exact⟨rfl,rfl⟩};{rw[hb];have h1:¬(97:Int)<=c:=ae;have h3':¬(48:Int)<=c:=ae;have h6:¬c=95:=ae;go_enter Tryz.func222,Tryz.ntmps222;go_wp2;go_ret;exact⟨by simp[h5,h6],rfl⟩}
def Tryz.infoSl:(Tryz.prog.info? 22).map (λi=>(i.zero,i.size,i.bytes))=some (some (.S none 0 0),1,24):=by kernel_rfl
def wR(B:Nat)(w:World)(v:Value)(n:Nat)(vs:List Value):Prop:=w.ownsRow B 22 1 v n vs
def wR.nil(B:Nat)(w:World):wR B w (.S none 0 0) 0 []:=gC _ _ _ _
def wR.form{B:Nat}{w:World}{v:Value}{n:Nat}{vs:List Value}(h:wR B w v n vs):∃p c,v=.S p n c:=by
 rcases h.2 with⟨rfl,h0⟩|⟨g,cap,cur,rfl,_⟩;{exact⟨none,0,by rw[h0]⟩};{exact⟨_,_,rfl⟩}
def wR.below{B:Nat}{w w':World}{v:Value}{n:Nat}{vs:List Value}(h:wR B w v n vs)(hb:Bw w w'):wR B w' v n vs:=
 Gs h (row:=none) ⟨hb.os,hb.tape,hb.output,hb.size,λk hk _=>hb.block k hk⟩ (by cases hv:v.ownBlock<;>simp)
def ur{w:World}{ops:Array Oper}{rest:List Oper}{o:Oper}{a:Act}{Q:Exit->Act->World->Prop}(mW:o.guard=none){s x:Operand}(ho:o.op=.call {callee:=.builtin .append,args:=#[s,x],argTypes:=#[76,76]}){B:Nat}{v:Value}{n:Nat}{vs:List Value}(g:Nat)(hs:a.eval s=v)(hx:a.eval x=.T g 1 1)(h:wR B w v n vs)(pu:OA)(nu cu:Nat)(hc:w.cell? (Ad g 0)=some (.S pu nu cu))(hl:n<=2097152)(hB:B<=w.heap.size)(hK:∀p' c' w',wR B w' (.S p' (n+1) c') (n+1) (vs++[.S pu nu cu])->w.grownBy w' v.ownBlock->wpList Tryz.prog ops Q rest (a.put o.dst (.S p' (n+1) c')) w'):wpList Tryz.prog ops Q (o::rest) a w:=by
 obtain⟨i,hi,qc,iU,jU⟩:=gh Tryz.infoSl;refine Kc w mW s x 76 ho B 22 i _ 1 24 Tryz.underlying76 hi qc iU jU rfl aZ v _ _ hs h (Ad g 0) 1 1 [.S pu nu cu] hx rfl ?_ ?_ iF ae hB ?_;{
 intro j u hu;have e:j=0:=by have:=(bf.1 hu).1;simpa using this
 subst e;simp at hu;subst hu;exact hc};{
 intro u hu;simp at hu;subst hu
 rfl}
 {intro v' w' h1 h2 _;have h3:wR B w' v' (n+1) (vs++[.S pu nu cu]):=h1;obtain⟨p',c',rfl⟩:=h3.form;exact hK p' c' w' h3 h2}
def drop_cons{l:LI}{a:Nat}(h:a<l.length):l.drop a=l.getD a 0::l.drop (a+1):=by
 rw[Mr h];simp[List.getD,h]
def az3{l:LI}{a j k:Nat}{b:Bool}(h0:st k (l.drop a)=b)(ha:a<l.length)(qm:l.getD a 0=47)(xZ:∀x∈(l.drop (a+1)).take j,uj x=true)(hj:a+1+j<=l.length)(aF7:a+1+j=l.length\/l.getD (a+1+j) 0=47):b=(kP ((l.drop (a+1)).take j)&&st (k+1) (l.drop (a+1+j))):=by
 rw[<-h0,drop_cons ha,qm];have e:l.drop (a+1)=(l.drop (a+1)).take j++l.drop (a+1+j):=by have e:=(Dg j (l.drop (a+1))).symm;rw[Gn]at e;exact e
 by_cases hl:a+1+j=l.length;{
 have e0:l.drop (a+1+j)=[]:=Kn ae;rw[e0,D5]at e;rw[e0]
 conv=>lhs;rw[e]
 exact aW0 xZ};{
 rcases aF7 with h|h;{exact absurd h hl};{
 have e1:=drop_cons (l:=l) (a:=a+1+j) ae;rw[h]at e1;rw[e1]at e⊢
 conv=>lhs;rw[e]
 exact az4 xZ}}
def Zu{l:LI}{a j k:Nat}{b:Bool}(h0:st k (l.drop a)=b)(ha:a<l.length)(qm:l.getD a 0=47)(xZ:∀x∈(l.drop (a+1)).take j,uj x=true)(hj:a+1+j<l.length)(hn:¬l.getD (a+1+j) 0=47)(hb:uj (l.getD (a+1+j) 0)=false):b=false:=by
 rw[<-h0,drop_cons ha,qm];have e:l.drop (a+1)=(l.drop (a+1)).take j++l.drop (a+1+j):=by have e:=(Dg j (l.drop (a+1))).symm;rw[Gn]at e;exact e
 rw[drop_cons hj]at e;rw[e];exact aW1 xZ hn hb
def Vg(l:LI)(a B:Nat)(w:World)(vs:List Value):Prop:=(vs=[]/\a=0)\/∃s j v,vs.getLast?=some v/\a=s+1+j/\l.getD s 0=47/\(∀y∈(l.drop (s+1)).take j,uj y=true)/\Own B w v ((l.drop (s+1)).take j)
def bN3(l:LI)(B:Nat)(w:World)(vs:List Value):Prop:=∃s v,vs.getLast?=some v/\s<l.length/\l.getD s 0=47/\(∀y∈l.drop (s+1),uj y=true)/\Own B w v (l.drop (s+1))
def Vg.fin{l:LI}{n k B:Nat}{w:World}{vs:List Value}{v:Value}(h:Vg l n B w vs)(en:l.length=n)(ho:wR B w v k vs)(hk:1<=k):bN3 l B w vs:=by
 rcases h with⟨rfl,-⟩|⟨s,j,v,h1,h2,h3,h4,h5⟩;{have:=ho.1;simp at this;omega};{have e:(l.drop (s+1)).take j=l.drop (s+1):=ke aU;rw[e]at h4 h5;exact⟨s,v,h1,ae,h3,h4,h5⟩}
def Vg.app{l nm:LI}{a j t B C:Nat}{w w1 w3:World}{r v:Value}{vs:List Value}(ht:t=a+1+j)(qm:l.getD a 0=47)(enm:nm=(l.drop (a+1)).take j)(xZ:∀y∈nm,uj y=true)(ho:Own C w v nm)(hb:Bw w w1)(hg:w1.grownBy w3 r.ownBlock)(hr:∀b,r.ownBlock=some b->b<C)(hC:B<=C):Vg l t B w3 (vs++[v]):=by
 subst enm;refine .inr ⟨a,j,v,ai,ht,qm,xZ,Own.mono ((Own.below ho hb).td (Kept.Gd (vs:=[r]) hg ai) (λu hu b hb e=>?_)) hC⟩;simp at hu;subst hu;have:=hr b e;have:=(ho.lt b hb).1;omega
def NmE(l:LI)(C:Nat)(B:Bool)(e:Ending)(w':World):Prop:=B=true->∃p k c vs,e=.returned (.tuple #[.S p k c,.bool true])/\wR C w' (.S p k c) k vs/\1<=k/\bN3 l C w' vs
def Ao{p:OA}{c n:Nat}{l:LI}(en:Hid (l.length=n)){w:World}(h:Rd w (.S p n c) l)(hb:aN l)(hl:Mg n){B:Bool}(eB:Hid (vp l=B)):Calls prog 187 #[.S p n c] w λe w'=>NmE l w.heap.size B e w'/\(∃v,e=.returned (.tuple #[v,.bool B]))/\Bw w w':=by
 have HR:=af h;have HB:=af hb;clear h hb
 go_in
 go_wp2
 go_loopw[4,5](λov i wr=>∃(a k:Nat)(pv:OA)(cv:Nat)(vs:List Value),a<=n/\i=.I a/\ov=.S pv k cv/\k<=a/\Hid (st k (l.drop a)=B)/\wR w.heap.size wr (.S pv k cv) k vs/\Hid (Vg l a w.heap.size wr vs)/\Bw w wr) (λ_ i _=>n-(intOf i).toNat)
 exact⟨0,0,none,0,[],fN _,rfl,rfl,iP _,(by show _=_;exact eB),wR.nil _ _,af (.inl ⟨rfl,rfl⟩),cR _ _⟩;{
 obtain⟨a,k,pv,cv,vs,ha,rfl,rfl,hka,cX,ho,hLN,aK⟩:=hrel;have Ue:=aK.size;by_cases aT:a<n;{
 have bu:=aS a n;obtain⟨b,o,rfl,-,hc⟩:=HR.at (by rw[aa en];omega);have cW:∀(i:Nat)(w':World),i<n->Bw w w'->w'.cell? (Ad b (o+i))=some (.int .u8 (l.getD i 0)):=λi w' hi bR=>(bR.cell (p:=(Ad b (o+i))) (nY w _ (hc i (aa en▸hi)))).trans (hc i (aa en▸hi));have HC:=af cW;have hca:=cW a wr aT aK;clear hc cW;obtain⟨x,ex⟩:=aI (l.getD a 0);rw[ex]at hca;have EX:=af ex;clear ex;by_cases qm:x=47;{
 subst qm;go_wp2_with fail
 go_loopw[5,6](λi nv w2=>∃(t j:Nat)(pn:OA)(cn:Nat)(nm:LI),Hid (t=a+1+j)/\t<=n/\a<t/\j<t/\i=.I t/\nv=.S pn j cn/\Hid (nm=(l.drop (a+1)).take j)/\Hid (nm.length=j)/\Hid (∀y∈nm,uj y=true)/\Own wr.heap.size w2 (.S pn j cn) nm/\Bw wr w2) (λi _ _=>n-(intOf i).toNat)
 exact⟨a+1,0,none,0,[],rfl,ae,ae,ae,by go_num,rfl,rfl,rfl,(by intro y hy;simp at hy),gC _ _ _ _,cR _ _⟩;{
 obtain⟨t,j,pn,cn,nm,ht,htn,fT,hjt,rfl,rfl,enm,elj,xZ,hon,aD⟩:=hrel;have jU:=aD.size;have bb2:=aj aK aD;have mV:=ho.below aD;have aF7:(t=n\/l.getD t 0=47)->B=(kP nm&&st (k+1) (l.drop t)):=λhe=>by have:=az3 (j:=j) (aa cX) (aa en▸aT) (aa EX) (aa enm▸aa xZ) (by rw[aa en,<-aa ht];exact htn) (by rw[aa en,<-aa ht];exact he);rw[<-aa enm,<-aa ht]at this;exact this
 have iV:(1<=j/\j<=16->kP nm=true)/\(¬(1<=j/\j<=16)->kP nm=false):=by have ha:nm.all uj=true:=jy.2 xZ;rw[kP,aa elj,ha];constructor;{rintro⟨h1,h2⟩;simp[h1,h2]};{intro h;simp;omega}
 have HE:=af aF7;have HK:=af iV;clear aF7 iV;by_cases ka:t<n;{
 have cq7:=aS t n;have hct:=aa HC t wr ka bb2;obtain⟨z,ez⟩:=aI (l.getD t 0);rw[ez]at hct;have EZ:=af ez;clear ez;by_cases aE9:z=47;{
 subst aE9;have he:=aa HE (.inr EZ);by_cases hj1:1<=j;{
 have bb6:¬(j:Int)<1:=ae;by_cases bb5:j<=16;{have al0:¬(16:Int)<(j:Int):=ae;rw[HK.1 ⟨hj1,bb5⟩,pM]at he;have HE2:=af he.symm;clear he hca;go_wp2_with(at_builtin;refine ur rfl rfl (v:=.S pv k cv) wr.heap.size rfl rfl (mV.below (au.alloc ao _)) pn j cn ai ae aU ?_);intro p' c' w3 ho3 wC;have b3:Bw w w3:=(bb2.alloc bb2.size _).grown wC aU (λk hk=>(Gt mV k hk).1);have HL3:=af (Vg.app (B:=w.heap.size) (vs:=vs) ht EX enm xZ hon (au.alloc ao _) wC (λb hb=>(Gt ho b hb).2) aK.size);clear wC;go_wp2;go_roundw;exact⟨t,k+1,p',c',_,htn,by go_num,rfl,ae,HE2,ho3,HL3,b3⟩;exact bM};{
 have al0:=qi 16 j;rw[HK.2 ae,Wf]at he;subst he;go_wp2
 go_ret2
 exact⟨(λh=>by cases h),⟨_,rfl⟩,bb2⟩}};{
 have bb6:(j:Int)<1:=ae;rw[HK.2 ae,Wf]at he;subst he;go_wp2
 go_ret2
 exact⟨(λh=>by cases h),⟨_,rfl⟩,bb2⟩}};{
 have Od:(z==47)=false:=by simp[aE9]
 have dC9:(z != 47)=true:=by simp[aE9]
 go_wp2_with fail;refine(Ha).mono ?_;rintro e w3⟨rfl,rfl⟩;by_cases hzb:uj z=true;{
 rw[hzb];have bI3:Hid (nm++[z]=(l.drop (a+1)).take (j+1)):=by
  show _=_;have e1:(l.drop (a+1))[j]?=some z:=by rw[Mq,<-aa ht,<-aa EZ];simp[List.getD,aa en,ka]
  rw[ni,e1,aa enm]
  rfl
 have bf8:Hid ((nm++[z]).length=j+1):=by show _=_;rw[ir,aa elj];rfl
 have bz4:Hid (∀y∈nm++[z],uj y=true):=by intro y hy;rcases gM.1 hy with h|h;{exact xZ y h};{simp at h;rw[h];exact hzb}
 have ht2:Hid (t+1=a+1+(j+1)):=by show _=_;have:=aa ht;omega
 obtain⟨nm2,bf5⟩:=az (nm++[z]);rw[<-bf5]at bI3 bf8 bz4;have vr:=af bf5;clear bf5 mV;go_wp2_with(at_builtin;refine fo rfl rfl (.S pn j cn) vr w3.heap.size rfl rfl (Own.below hon (au.alloc ao _)) ai (by rw[aa elj];omega) aU ?_);intro p' c' w4 ho4 tL;have b4:=(aD.alloc aD.size _).grown tL aU (λk hk=>(hon.lt k hk).1);rw[aa bf8]at ho4⊢;clear tL;go_wp2;go_roundw;exact⟨t+1,j+1,p',c',nm2,ht2,ae,ae,ae,by go_num,rfl,bI3,bf8,bz4,ho4,b4⟩;exact bM};{
 have hzf:uj z=false:=by simpa using hzb
 rw[hzf];have eF:B=false:=by have e:=aa ht;exact Zu (j:=j) (aa cX) (aa en▸aT) (aa EX) (aa enm▸aa xZ) (by rw[aa en,<-e];exact ka) (by rw[<-e,aa EZ];exact aE9) (by rw[<-e,aa EZ];exact hzf)
 subst eF;go_wp2
 go_ret2
 exact⟨(λh=>by cases h),⟨_,rfl⟩,bb2⟩}}};{
 have cq7:=dm t n;have he:=aa HE (.inl ae);by_cases hj1:1<=j;{
 have bb6:¬(j:Int)<1:=ae;by_cases bb5:j<=16;{have al0:¬(16:Int)<(j:Int):=ae;rw[HK.1 ⟨hj1,bb5⟩,pM]at he;have HE2:=af he.symm;clear he hca;go_wp2_with(at_builtin;refine ur rfl rfl (v:=.S pv k cv) wr.heap.size rfl rfl (mV.below (au.alloc ao _)) pn j cn ai ae aU ?_);intro p' c' w3 ho3 wC;have b3:Bw w w3:=(bb2.alloc bb2.size _).grown wC aU (λk hk=>(Gt mV k hk).1);have HL3:=af (Vg.app (B:=w.heap.size) (vs:=vs) ht EX enm xZ hon (au.alloc ao _) wC (λb hb=>(Gt ho b hb).2) aK.size);clear wC;go_wp2;go_roundw;exact⟨t,k+1,p',c',_,htn,by go_num,rfl,ae,HE2,ho3,HL3,b3⟩;exact bM};{
 have al0:=qi 16 j;rw[HK.2 ae,Wf]at he;subst he;go_wp2
 go_ret2
 exact⟨(λh=>by cases h),⟨_,rfl⟩,bb2⟩}};{
 have bb6:(j:Int)<1:=ae;rw[HK.2 ae,Wf]at he;subst he;go_wp2
 go_ret2
 exact⟨(λh=>by cases h),⟨_,rfl⟩,bb2⟩}}}};{
 have hx:(x==47)=false:=by simp[qm]
 have XC:(x != 47)=true:=by simp[qm]
 have eF:B=false:=by rw[<-aa cX,drop_cons (aa en▸aT),aa EX];exact OR qm
 subst eF;go_wp2
 go_ret2
 exact⟨(λh=>by cases h),⟨_,rfl⟩,aK⟩}};{
 have e:a=n:=ae;have bu:=dm a n;have SE:=aa cX;rw[Kn (by rw[aa en];omega),st]at SE;by_cases h1:1<=k;{
 by_cases h8:k<=8;{
 have h1':=dA 1 k;have h8':(k:Int)<=8:=ae;have eT:B=true:=by rw[<-SE];simp[h1,h8]
 subst eT;subst e;go_wp2
 go_ret2
 exact⟨λ_=>⟨pv,k,cv,vs,rfl,ho,h1,hLN.fin en ho h1⟩,⟨_,rfl⟩,aK⟩};{
 have h1':=dA 1 k;have h8':¬(k:Int)<=8:=ae;have eT:B=false:=by rw[<-SE];simp[h8]
 subst eT;go_wp2
 go_ret2
 exact⟨(λh=>by cases h),⟨_,rfl⟩,aK⟩}};{
 have h1':¬(1:Int)<=(k:Int):=ae;have eT:B=false:=by rw[<-SE];simp[h1]
 subst eT;go_wp2
 go_ret2
 exact⟨(λh=>by cases h),⟨_,rfl⟩,aK⟩}}}
def QG{p:OA}{c n:Nat}{l:LI}(en:Hid (l.length=n)){w:World}(h:Rd w (.S p n c) l)(hb:aN l)(hl:Mg n){B:Bool}(eB:Hid (vp l=B)):Cp 187 #[.S p n c] w λe w'=>(∃v,e=.returned (.tuple #[v,.bool B]))/\Bw w w':=(Ao en h hb hl eB).mono λ_ _ h=>h.2
def Btw(lo hi:Nat)(v:Value):Prop:=∀b,v.ownBlock=some b->lo<=b/\b<hi
def Own.btw{B:Nat}{w:World}{v:Value}{l:LI}(h:Own B w v l):Btw B w.heap.size v:=h.lt
abbrev SR(w:World)(b:Nat)(v0 v1:Value):Prop:=w.cell? (Ad b 0)=some v0/\w.cell? (Ad b 1)=some v1
def SR.below{w w':World}{b:Nat}{v0 v1:Value}(h:SR w b v0 v1)(hb:Bw w w'):SR w' b v0 v1:=⟨ag h.1 hb,ag h.2 hb⟩
def Own.cap{B:Nat}{w:World}{p:OA}{c n:Nat}{l:LI}(h:Own B w (.S p n c) l):n<=c:=by
 rcases h.2 with⟨e,h0⟩|⟨g,cap,cur,e,_,_,hc,_⟩;{simp only[qZ]at e;omega};{simp only[qZ]at e;omega}
def Own.vt{B:Nat}{w:World}{p:OA}{c n:Nat}{l:LI}(h:Own B w (.S p n c) l):c<=maxLen:=by
 rcases h.2 with⟨e,h0⟩|⟨g,cap,cur,e,_,_,hc,hm,_⟩;{simp only[qZ]at e;omega};{simp only[qZ]at e;omega}
def KP{p q:OA}{c d n:Nat}{l:LI}(en:Hid (l.length=n)){w:World}(h1:Rd w (.S p n c) l)(h2:Rd w (.S q n d) l)(hl:n<=2097152):Calls Tryz.prog 57 #[.S p n c,.S q n d] w (Rb (.bool true) w):=by
 have e:=aa en;subst e;refine(DI h1 h2 hl hl).mono ?_;rintro e w'⟨rfl,hb⟩;exact⟨ai,hb⟩
def iC{P:Program}{w:World}{ops:Array Oper}{o:Oper}{a:Act}{K:Act->World->Prop}{Q:Exit->Act->World->Prop}{E:Prop}{R:Ending->World->Prop}(mW:o.guard=none){f:FuncId}{x1:Operand}{WW:Array TypeId}(ho:o.op=.call {callee:=.value (.func f),args:=#[x1],argTypes:=WW}){v1:Value}(h1:a.eval x1=v1)(yK:∀vs,(callFunc f vs).run P w=.ok (.enter f vs) w)(hc:Calls P f #[v1] w R)(hR:∀e w',R e w'->∃v,e=.returned v/\K (a.put o.dst v) w'):if Region.wanted o (yielded ops a.tmps)=true then Oper.wp P o a w K Q else E:=by
 have hw:Region.wanted o (yielded ops a.tmps)=true:=by simp[Region.wanted,mW]
 rw[bN hw];have dN:(execOp a.eval o).run P w=.ok (.enter f #[v1]) w:=by subst h1;unfold execOp;simp[go_sem,ho,resolve,invoke,yK]
 show o.upon P a K Q _;rw[dN,Qd];refine hc.mono ?_;intro e w' h;obtain⟨v,rfl,hk⟩:=hR e w' h;exact hk
def kc{P:Program}{w:World}{ops:Array Oper}{o:Oper}{a:Act}{K:Act->World->Prop}{Q:Exit->Act->World->Prop}{E:Prop}{R:Ending->World->Prop}(mW:o.guard=none){f:FuncId}{x1 x2:Operand}{WW:Array TypeId}(ho:o.op=.call {callee:=.value (.func f),args:=#[x1,x2],argTypes:=WW}){v1 v2:Value}(h1:a.eval x1=v1)(h2:a.eval x2=v2)(yK:∀vs,(callFunc f vs).run P w=.ok (.enter f vs) w)(hc:Calls P f #[v1,v2] w R)(hR:∀e w',R e w'->∃v,e=.returned v/\K (a.put o.dst v) w'):if Region.wanted o (yielded ops a.tmps)=true then Oper.wp P o a w K Q else E:=by
 have hw:Region.wanted o (yielded ops a.tmps)=true:=by simp[Region.wanted,mW]
 rw[bN hw];have dN:(execOp a.eval o).run P w=.ok (.enter f #[v1,v2]) w:=by subst h1 h2;unfold execOp;simp[go_sem,ho,resolve,invoke,yK]
 show o.upon P a K Q _;rw[dN,Qd];refine hc.mono ?_;intro e w' h;obtain⟨v,rfl,hk⟩:=hR e w' h;exact hk
def jv{P:Program}{w:World}{ops:Array Oper}{o:Oper}{a:Act}{K:Act->World->Prop}{Q:Exit->Act->World->Prop}{E:Prop}{R:Ending->World->Prop}{f:FuncId}{WW:Array TypeId}{x1:Operand}{v1:Value}(hc:Calls P f #[v1] w R)(hR:∀e w',R e w'->∃v,e=.returned v/\K (a.put o.dst v) w')(mW:o.guard=none:=by rfl)(ho:o.op=.call {callee:=.value (.func f),args:=#[x1],argTypes:=WW}:=by rfl)(h1:a.eval x1=v1:=by rfl)(yK:∀vs,(callFunc f vs).run P w=.ok (.enter f vs) w:=by(intro _;kernel_rfl)):if Region.wanted o (yielded ops a.tmps)=true then Oper.wp P o a w K Q else E:=iC mW ho h1 yK hc hR
def yZ{P:Program}{w:World}{ops:Array Oper}{o:Oper}{a:Act}{K:Act->World->Prop}{Q:Exit->Act->World->Prop}{E:Prop}{R:Ending->World->Prop}{f:FuncId}{WW:Array TypeId}{x1 x2:Operand}{v1 v2:Value}(hc:Calls P f #[v1,v2] w R)(hR:∀e w',R e w'->∃v,e=.returned v/\K (a.put o.dst v) w')(mW:o.guard=none:=by rfl)(ho:o.op=.call {callee:=.value (.func f),args:=#[x1,x2],argTypes:=WW}:=by rfl)(h1:a.eval x1=v1:=by rfl)(h2:a.eval x2=v2:=by rfl)(yK:∀vs,(callFunc f vs).run P w=.ok (.enter f vs) w:=by(intro _;kernel_rfl)):if Region.wanted o (yielded ops a.tmps)=true then Oper.wp P o a w K Q else E:=kc mW ho h1 h2 yK hc hR
abbrev zI(k s:Int)(P:Value)(f:Int)(V:Value)(e g:Int):Value:=.agg #[.I k,.U s,P,.I f,V,.U e,.U g]
abbrev sG(w:World)(b:Nat)(v0 v1 v2 v3 v4 v5 v6:Value):Prop:=w.cell? (Ad b 0)=some v0/\w.cell? (Ad b 1)=some v1/\w.cell? (Ad b 2)=some v2/\w.cell? (Ad b 3)=some v3/\w.cell? (Ad b 4)=some v4/\w.cell? (Ad b 5)=some v5/\w.cell? (Ad b 6)=some v6
def sG.below{w w':World}{b:Nat}{v0 v1 v2 v3 v4 v5 v6:Value}(h:sG w b v0 v1 v2 v3 v4 v5 v6)(hb:Bw w w'):sG w' b v0 v1 v2 v3 v4 v5 v6:=
 ⟨ag h.1 hb,ag h.2.1 hb,ag h.2.2.1 hb,ag h.2.2.2.1 hb,ag h.2.2.2.2.1 hb,ag h.2.2.2.2.2.1 hb,ag h.2.2.2.2.2.2 hb⟩
def cI{w w':World}{b:Nat}(h:∀o,w.frozen? (Ad b o)=false)(hl:b<w.heap.size)(hb:Bw w w'):∀o,w'.frozen? (Ad b o)=false:=λo=>(hb.frozen (p:=(Ad b o)) hl).trans (h o)
end Go.Proofs.YtkakbcaiplggiaaGreatDoor
