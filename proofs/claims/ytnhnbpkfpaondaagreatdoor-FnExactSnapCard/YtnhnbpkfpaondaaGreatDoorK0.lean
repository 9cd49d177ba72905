import Derived.KernelRfl
import Derived.IntWalk
import Derived.Test.YtnhnbpkfpaondaaGreatDoorProg
import Derived.WalkKit
import Derived.Below
import Derived.Deep.RegionHeld3
import Derived.WalkSpells
import Derived.WalkLawsBesides
import Derived.BigQuiet
import Derived.ProofKit
import Derived.OpenShut
import Derived.Deep.QuietTactic
import Derived.Deep.Fields23
import Derived.Deep.Strs
import Derived.Lib.AppendZeros
import Derived.Deep.RegionLaw
import Derived.Lib.SlSplitV
import Derived.Lib.IndexBytes
import Derived.Lib.CountLaws
import Derived.Lib.Bytes
namespace Go
abbrev Value.U(x:Int):Value:=.int .u64 x
abbrev Value.I(x:Int):Value:=.int .i64 x
abbrev Lit.U(x:Int):Lit:=.int .u64 x
abbrev Lit.I(x:Int):Lit:=.int .i64 x
abbrev Value.S(p:Option Addr)(n c:Nat):Value:=.slice p n c
abbrev Value.T(g n c:Nat):Value:=.slice (some ⟨g,0,none⟩) n c
end Go
namespace Go.Proofs.YtnhnbpkfpaondaaGreatDoor
set_option maxHeartbeats 4000000
set_option linter.all false
set_option maxRecDepth 100000
abbrev Bw(w v:World):Prop:=Go.RowKit.Below w.heap.size w v
abbrev aq:Value:=.slice none 0 0
abbrev Rb(v:Value)(w:World):Ending->World->Prop:=λe w'=>e=.returned v/\Bw w w'
abbrev Mg(n:Nat):Prop:=n<=1048576
abbrev Ad(b o:Nat):Addr:=⟨b,o,none⟩
abbrev Ce(w:World)(b o:Nat)(v:Value):Prop:=w.cell? ⟨b,o,none⟩=some v
abbrev OA:Type:=Option Addr
abbrev LI:Type:=List Int
abbrev Cp(f:FuncId)(a:Array Value)(w:World)(R:Ending->World->Prop):Prop:=Calls Tryz.prog f a w R
open Go.RowKit
def ai{a b:Prop}(x:a)(y:b):a/\b:=⟨x,y⟩
def aA{B:Nat}{w:World}:Below B w w:=Below.refl B w
def aj{W w1 w2:World}(h:Below W.heap.size W w1)(k:Below w1.heap.size w1 w2):Below W.heap.size W w2:=h.trans (k.mono h.size)
def ay{n:Nat}:n<=n:=Nat.le_refl n
def aY{α:Type}{l:List α}{i:Nat}(h:i<l.length):l[i]?=some l[i]:=List.getElem?_eq_getElem h
def aV{α:Type}{i:Nat}{a:α}{l:List α}:l[i]?=some a↔∃h:i<l.length,l[i]=a:=List.getElem?_eq_some_iff
def aT{α:Type}{l:List α}{i:Nat}{a:α}(h:l[i]?=some a):a∈l:=List.mem_of_getElem? h
def cQ5{α:Type}{l:List α}{i j:Nat}(h:i≠j){a:α}:(l.set i a)[j]?=l[j]?:=List.getElem?_set_ne h
def ga(w:World)(a:Addr)(u:Value)(k:Nat)(h:k≠a.block):(w.setCell a u).heap[k]?=w.heap[k]?:=RowKit.Below.heap_setCell w a u k h
def aR5{Q:Exit->Act->World->Prop}{a:Act}{w:World}(h:Q Exit.normal a w):NoPanic Q Exit.normal a w:=NoPanic.normal h
def aB{α:Sort _}(x:α):∃y,y=x:=⟨x,rfl⟩
def aL{α:Sort _}(x:α):∃y,x=y:=⟨x,rfl⟩
def Cy{c:Prop}{α:Sort _}[Decidable c]{a b:α}(h:¬c:=by decide):(if c then a else b)=b:=if_neg h
def ei7{p q:Prop}(h:p)(n:¬p:=by decide):q:=absurd h n
def bW8{P:Program}{md:Region.Mode}{ops:Array Oper}{Q:Exit->Act->World->Prop}{S:World->Prop}{l:Array Bool}{a:Act}{w:World}{n:Nat}(h:Q .normal a w)(hr:Region.ready md ops l=[]:=by kernel_rfl):wpAnyH P md ops Q S n l a w:=wpAnyH_done hr h n
def cY{P:Program}{md:Region.Mode}{ops:Array Oper}{Q:Exit->Act->World->Prop}{S:World->Prop}{l:Array Bool}{a:Act}{w:World}{n:Nat}(h:Q .normal a w)(hr:Region.ready md ops l=[]:=by kernel_rfl):wpAnyH P md ops (NoPanic Q) S n l a w:=wpAnyH_done hr (NoPanic.normal h) n
def du{P:Program}{ops:Array Oper}{Q:Exit->Act->World->Prop}{id:Nat}{a:Act}{w:World}(S:World->Prop)(hS:S w.drew)(h:S w.drew->wpAnyH P .any ops (NoPanic Q) S ops.size (Array.replicate ops.size false) a w.drew)(hm:P.follows .mixedOrders=true:=by kernel_rfl):(Code.region id ops true).wp P Q a w:=wp_region_noPanic (wp_region_held_drew hm hS h)
def dX{w W:World}{o:Obj}(h:W=w.alloc o):Below w.heap.size w W:=by rw[h];exact(Below.refl _ _).alloc (Nat.le_refl _) _
def mX{w W:World}(h:W=w.drew):Below w.heap.size w W:=by rw[h];exact(Below.refl _ _).drew
def aU(a b:Nat)(h:(a:Int)<(b:Int):=by omega):(a:Int)<(b:Int):=h
def iC(a b:Nat)(h:(a:Int)<=(b:Int):=by omega):(a:Int)<=(b:Int):=h
def dB(a b:Nat)(h:¬(a:Int)<(b:Int):=by omega):¬(a:Int)<(b:Int):=h
def mW(a:Int)(b:Nat)(h:a<(b:Int):=by omega):a<(b:Int):=h
def dC(a:Int)(b:Nat)(h:a<=(b:Int):=by omega):a<=(b:Int):=h
def e8(a:Nat)(h: -9223372036854775808<=(a:Int)/\(a:Int)<=9223372036854775807:=by omega):IntKind.i64.wrap (a:Int)=(a:Int):=IntWalk.i64_in _ h
def yz{a b c d:Nat}(h:some (⟨a,b,none⟩:Addr)=some ⟨c,d,none⟩):a=c/\b=d:=by simpa using h
def ei6{p:Prop}(h:p:=by(intro a ha;first|(simp at ha;done)|(simp only[List.mem_append,List.mem_cons,List.not_mem_nil,List.nil_append,or_false]at ha⊢;grind))):p:=h
def bq{p:Prop}(h:p:=by(simp;omega)):p:=h
def iB{p:Prop}(h:p:=by(unfold maxLen;omega)):p:=h
def bD{p:Prop}(h:p:=by(show _=_;rfl)):p:=h
def af{p:Prop}(h:p:=by(omega)):p:=h
def al{p:Prop}(h:p:=by(simp)):p:=h
def bj{p:Prop}(h:p:=by(decide)):p:=h
def bg{p:Prop}(h:p:=by(kernel_rfl)):p:=h
def aJ{p:Prop}(h:p:=by(rfl)):p:=h
def cg{p:Prop}(h:p:=by(simp[intOf];omega)):p:=h
def Er:(∀l:List Value,l.toArray.size=l.length)/\(∀(a:Value)l,(a::l).length=l.length+1)/\(([]:List Value).length=0)/\(∀n(a:Value),Array.replicate (n+1) a=(Array.replicate n a).push a)/\(∀a:Value,Array.replicate 0 a=#[])/\(∀(l:List Value)a,l.toArray.push a=(l++[a]).toArray)/\(∀l k:List Value,l.toArray++k.toArray=(l++k).toArray)/\(∀l:List Value,[]++l=l)/\(∀(a:Value)l k,(a::l)++k=a::(l++k)):=⟨λ_=>by simp,λ_ _=>by simp,by simp,λ_ _=>Array.replicate_succ,λ_=>Array.replicate_zero,λ_ _=>by simp,λ_ _=>by simp,λ_=>by simp,λ_ _ _=>by simp⟩
def aI{p q:Prop}(h:p)(k:p->q:=by(intro _;omega)):q:=k h
def ir{p q:Option Addr}{a b c d:Nat}(h:Value.slice p a b=Value.slice q c d):p=q/\a=c/\b=d:=by simpa using h
def lE{α:Type}{l:List α}{i:Nat}(h:i<l.length):∃y,l[i]?=some y:=⟨_,List.getElem?_eq_getElem h⟩
def bH:=@if_neg
def bO:=@if_pos
def cQ:=@Go.RowKit.Below.refl
def dJ:=@Go.bodyPost_ret
def gr:=@Nat.zero_le
def km:=@trivial
def gU:=@List.length_append
def iR:=@List.mem_map
def iD:=@Nat.le_refl
def jv:=@List.mem_cons
def pW:=@Go.Value.slice.injEq
def fN:=@List.length_map
def fk:=@Bool.and_eq_true
def gy:=@Prod.mk.injEq
def fu:=@Nat.le_trans
def gj:=@List.getD_eq_getElem?_getD
def tX:=@congrArg
def gu:=@List.mem_append
def gH:=@List.mem_iff_getElem?
def iS:=@List.length_cons
def iH:=@List.map_cons
def jw:=@List.all_eq_true
def jj:=@decide_eq_true_eq
def iq:=@Nat.lt_of_lt_of_le
def kV:=@Option.some.injEq
def lD:=@List.take_of_length_le
def oe:=@List.getElem?_zipWith
def l8:=@List.map_append
def ly:=@Nat.zero_add
def nG:=@List.getElem?_map
def kU:=@Go.IntWalk.i64_in
def kR:=@List.getElem?_append_left
def od:=@List.take_add_one
def rr:=@List.take_length
def pT:=@List.length_take
def nF:=@List.getElem?_append_right
def pR:=@List.length_set
def nZ:=@Go.World.block_lt_of_cell?
def pQ:=@Bool.true_and
def pO:=@decide_eq_true_iff
def nE:=@List.mem_singleton
def pM:=@if_true
def sa:=@Option.getD_some
def vX:=@List.getElem?_set
def rj:=@List.take_zero
def r9:=@List.length_drop
def r8:=@List.length_eq_zero_iff
def sX:=@List.append_assoc
def uO:=@Go.results_none
def sV:=@List.flatten_cons
def tW:=@decide_eq_false
def sU:=@List.drop_zero
def sS:=@Int.toNat_natCast
def sR:=@List.map_map
def uM:=@Bool.and_eq_false_iff
def zG:=@List.nodup_cons
def ig:=@Go.RowKit.Below.setCell
def xU:=@List.getElem?_toArray
def Cc:=@List.mem_range
def vW:=@List.drop_succ_cons
def Cb:=@if_false
def uL:=@List.getElem?_of_mem
def BS:=@Array.getElem?_modify
def BQ:=@Nat.sub_self
def BO:=@List.length_nil
def zF:=@List.getElem_mem
def BN:=@List.nodup_append
def xT:=@List.take_succ_cons
def zE:=@Option.bind_some
def xS:=@decide_eq_false_iff_not
def qD:=@Go.RowKit.ownsRow_setCell_below
def BM:=@List.getElem?_cons_succ
def BK:=@List.getElem?_cons_zero
def BJ:=@decide_eq_true
def Ef:=@List.pairwise_map
def Ee:=@Go.World.frozen?_setCell
def Ed:=@List.cons_append
def BI:=@List.append_nil
def Gw:=@List.mem_append_right
def Ji:=@Option.some.inj
def Ec:=@Bool.eq_false_iff
def Jh:=@Option.map_some
def Eb:=@List.map_nil
def Jg:=@Array.getElem?_eq_some_iff
def D9:=@List.nil_append
def Gv:=@List.drop_drop
def Jf:=@List.pairwise_iff_getElem
def Je:=@not_or
def D8:=@List.eq_nil_of_length_eq_zero
def Gu:=@List.mem_flatten
def MI:=@Bool.false_eq_true
def MH:=@List.drop_eq_getElem_cons
def MG:=@List.getElem?_drop
def Yv:=@Go.RowKit.Below.heap_alloc
def MF:=@beq_iff_eq
def ME:=@List.foldl_cons
def MC:=@true_and
def D7:=@Nat.succ_mul
def Aa:=@Nat.add_sub_cancel
def zQ:=@List.pairwise_cons
def GZ:=@Nat.lt_trichotomy
def GY:=@List.map_congr_left
def zO:=@Decidable.em
def Dn:=@List.take_append_drop
def Dm:=@List.getElem_of_mem
def Dj:=@List.mem_append_left
def zL:=@Nat.mul_one
def GX:=@Go.World.cell?_setCell_same
def xl:=@or_false
def Di:=@List.findIdx?_eq_some_iff_getElem
def Dg:=@Option.map_eq_some_iff
def Df:=@Int.toNat_of_nonneg
def GW:=@List.set_cons_zero
def uP:=@Nat.add_zero
def GS:=@List.mem_of_mem_drop
def GR:=@List.mem_of_mem_take
def GP:=@List.getElem?_take
def GO:=@Bool.eq_iff_iff
def De:=@Go.World.cell?_setCell_other
def GN:=@Go.IntWalk.wrap64_in
def QS:=@List.ext_getElem?
def GM:=@List.length_take_le
def GK:=@List.length_eraseIdx
def GJ:=@List.eraseIdx_sublist
def GI:=@List.mem_of_mem_eraseIdx
def GH:=@Go.RowKit.Below.drew
def GG:=@List.flatten_append
def Ku:=@List.drop_eq_nil_of_le
def mL:=@Nat.add_assoc
def Kt:=@List.any_eq_true
def Ks:=@Bool.false_or
def Kq:=@Bool.or_eq_true
def GF:=@List.not_mem_nil
def Ko:=@List.mem_filter
def Kn:=@List.getElem?_zip_eq_some
def Km:=@List.set_set
def Kl:=@List.sum_cons
def QP:=@List.take_succ_eq_append_getElem
def QO:=@List.set_append_right
def QN:=@List.all_eq_false
def QM:=@Nat.pow_succ
def QL:=@Nat.mul_comm
def GC:=@Nat.mul_le_mul_right
def QK:=@List.foldl_append
def QJ:=@List.mem_map_of_mem
def QI:=@dif_pos
def QH:=@Nat.xor_lt_two_pow
def QG:=@List.find?_some
def QF:=@List.find?_eq_none
def QE:=@List.mem_or_eq_of_mem_set
def QD:=@List.length_filter_le
def QC:=@List.length_zip
def QA:=@of_decide_eq_true
def WZ:=@List.map_set
def WY:=@Bool.false_and
def WX:=@decide_false
def WW:=@beq_eq_false_iff_ne
def WV:=@Array.toList_inj
def am0:=@Array.getElem?_toList
def WU:=@Nat.le_of_lt
def WT:=@List.nodup_nil
def Dc:=@Go.RowKit.Below.heap_setCell
def WS:=@List.mem_of_find?_eq_some
def al9:=@List.map_id
def WR:=@List.length_pos_iff
def WQ:=@List.filter_append
def WO:=@List.findIdx?_eq_none_iff
def Qz:=@Nat.le_succ
def xk:=@Int.eq_ofNat_of_zero_le
def WN:=@Int.pow_succ
def al8:=@Nat.add_comm
def al7:=@List.all_cons
def al6:=@List.flatten_nil
def al5:=@List.range_succ
def al4:=@Nat.div_lt_iff_lt_mul
def al3:=@Go.Value.bool.injEq
def al2:=@Bool.not_not
def al1:=@Bool.not_false
def al0:=@UInt8.lt_irrefl
def ak9:=@UInt8.not_lt
def ak8:=@Go.Value.int.injEq
def ak7:=@List.getElem?_set_self
def ak6:=@List.nodup_range
def ak5:=@List.getElem_map
def ak4:=@List.zipWith_append
def ak3:=@List.perm_middle
def ak2:=@Int.ofNat_tdiv
def aV9:=@Option.isSome_none
def ak1:=@not_true_eq_false
def ak0:=@List.set_cons_succ
def aj9:=@Nat.min_eq_left
def aj8:=@List.drop_of_length_le
def aj7:=@List.getElem?_eraseIdx
def aj6:=@List.eraseIdx_of_length_le
def WM:=@List.getLast?_eq_getElem?
def aj5:=@Nat.mul_succ
def bF3:=@Array.getElem?_eq_none
def aj4:=@Nat.pow_le_pow_right
def aj3:=@List.prefix_append_right_inj
def aV8:=@Nat.add_sub_cancel_left
def bF2:=@List.getElem?_take_of_lt
def aV7:=@List.pairwise_mergeSort
def aV6:=@Decidable.byContradiction
def aV5:=@List.zipWith_cons_cons
def aV4:=@Classical.byContradiction
def aV3:=@List.mem_eraseIdx_iff_getElem?
def aV2:=@List.eraseIdx_append_of_length_le
def aV1:=@List.length_eq_one_iff
def aV0:=@Array.getD_eq_getD_getElem?
def aU9:=@List.length_pos_of_mem
def aU8:=@Int.ediv_ediv_of_nonneg
def aU7:=@List.setIfInBounds_toArray
def eh:=@Go.AllReadyH.nil
def fD:=@Go.info_parts
def gm:=@Go.World.ownsRow_nil
def iy:=@Go.wpStill_nil
def mK:=@Go.IntKind.wrap_u64
def mJ:=@Go.callsIn_of_wp
def xj:=@Go.callsIn_wide
def tM:=@Go.World.frozen?_of_block
def xi:=@Go.World.cell?_of_block
def xh:=@Go.wpAnyH_take
def zJ:=@Go.IntKind.wrap_u8
def zI:=@Go.Addr.add_lit
def Db:=@Go.Lit.int.injEq
def Gz:=@Go.World.ownsRow.cellAt
def Gy:=@Go.World.ownsRow.lt
def Gx:=@Go.World.ownsRow.kept
def Kk:=@Go.wpList_append_own
def Kj:=@Go.Result.ok.injEq
def Ki:=@Go.Oper.upon_enter
def Qy:=@Go.Sem.run_pure
def Qx:=@Go.World.grownBy_alloc
def aj2:=@Go.Oper.semAt_eq
def Qw:=@Go.wp_region_noPanic
def Qv:=@Go.World.cell?_setCell_far
def WL:=@Go.WideAt.sameKey_self
def Qt:=@Go.World.cell?_setCell_same'
def WK:=@Go.RowKit.run_makeMap
def WJ:=@Go.WideAt.sameKey_iff
def WI:=@Go.wp_region_held_drew
def WH:=@Go.DataW.trod_bool
def mI:=@Go.DataW.trod_int
def aj1:=@Go.run_underlying
def aj0:=@Go.World.ownsRow_lit
def ai9:=@Go.Ending.returned.injEq
def ai8:=@Go.Lit.string.injEq
def ai7:=@Go.Sem.run_bind
def ai6:=@Go.run_append_own
def ai5:=@Go.MapKept.heap_alloc
def ai4:=@Go.bits_xor_u64_nat
def aU6:=@Ne.symm
def bF1:=@Go.Addr.mk.injEq
def aU5:=@and_true
def aU4:=@Go.grownCap_ge
def aU3:=@Go.grownCap_le_maxLen
def aU2:=@Go.size_zeroCells
def aU1:=@Array.size_append
def aU0:=@ByteArray.ext
def aT9:=@List.pairwise_append
def bF0:=@ByteArray.data_extract
def bE9:=@List.exists_cons_of_ne_nil
def bE8:=@List.Sublist.length_le
def tL:=@Int.le_refl
def ai3:=@List.mem_nil_iff
def qO:=@Go.Calls.mono
def Kh:=@Int.ofNat_nonneg
def ai2:=@Nat.le_of_eq
def ai1:=@Go.DataW.trod_struct
open Go.RowKit
def xa{α:Type}{l:List α}{i:Nat}{a:α}:l.toArray.setIfInBounds i a=(l.set i a).toArray:=List.setIfInBounds_toArray _ _ _
def xb{α:Type}{x:α}{xs:List α}{a:α}:(x::xs).set 0 a=a::xs:=List.set_cons_zero
def xc{α:Type}{x:α}{xs:List α}{i:Nat}{a:α}:(x::xs).set (i+1) a=x::xs.set i a:=List.set_cons_succ
def tk{P:Program}{md:Region.Mode}{ops:Array Oper}{Q:Exit->Act->World->Prop}{S:World->Prop}(i:Nat){oi:Oper}{v:Value}{fuel:Nat}{listed:Array Bool}{a:Act}{w:World}(hS:S w)(hi:ops[i]?=some oi:=by(simp only[List.getElem?_toArray,List.getElem?_cons_succ,List.getElem?_cons_zero];rfl))(hs:Region.noSelect ops=true:=by kernel_rfl)(hf:Region.free md ops listed i=true:=by kernel_rfl)(hr:(Region.ready md ops listed).contains i=true:=by kernel_rfl)(hQ:∀c a w,Q (.panic c) (a.put oi.dst v) w->Q (.panic c) a w:=by exactλ_ _ _ h=>h)(hg:Region.wanted oi (yielded ops a.tmps)=true:=by rfl)(hy:∀w,S w->(execOp a.eval oi).run P w=.ok (.value v) w:=by(intro w' xx;(try dsimp only at xx);go_simp;try with_reducible rfl))(h:wpAnyH P md ops Q S fuel (listed.setIfInBounds i true) (a.put oi.dst v) w):wpAnyH P md ops Q S (fuel+1) listed a w:=
 wpAnyH_take hi hs hf hr hQ (Or.inl ⟨hg,hy⟩) hS h
def Tk(P:Program)(md:Region.Mode)(ops:Array Oper)(Q:Exit->Act->World->Prop)(S:World->Prop)(listed:Array Bool)(i:Nat)(a a':Act):Prop:=∀fuel w,S w->wpAnyH P md ops Q S fuel (listed.setIfInBounds i true) a' w->wpAnyH P md ops Q S (fuel+1) listed a w
def TM{P:Program}{md:Region.Mode}{ops:Array Oper}{Q:Exit->Act->World->Prop}{S:World->Prop}{i:Nat}{oi:Oper}{v:Value}{listed:Array Bool}{a a':Act}(hi:ops[i]?=some oi:=by(simp only[List.getElem?_toArray,List.getElem?_cons_succ,List.getElem?_cons_zero];rfl))(hs:Region.noSelect ops=true:=by kernel_rfl)(hf:Region.free md ops listed i=true:=by kernel_rfl)(hr:(Region.ready md ops listed).contains i=true:=by kernel_rfl)(hQ:∀c a w,Q (.panic c) (a.put oi.dst v) w->Q (.panic c) a w:=by exactλ_ _ _ h=>h)(hg:Region.wanted oi (yielded ops a.tmps)=true:=by rfl)(hy:∀w,S w->(execOp a.eval oi).run P w=.ok (.value v) w:=by(intro w' xx;(try dsimp only at xx);go_simp;try with_reducible rfl))(ha:a.put oi.dst v=a':=by(simp only[Act.put,xa,xb,xc];rfl)):Tk P md ops Q S listed i a a':=
 λ_ _ hS h=>wpAnyH_take hi hs hf hr hQ (Or.inl ⟨hg,hy⟩) hS (ha▸h)
def tkZ{P:Program}{md:Region.Mode}{ops:Array Oper}{Q:Exit->Act->World->Prop}{S:World->Prop}{i:Nat}{oi:Oper}{listed:Array Bool}{a a':Act}(hi:ops[i]?=some oi:=by(simp only[List.getElem?_toArray,List.getElem?_cons_succ,List.getElem?_cons_zero];rfl))(hs:Region.noSelect ops=true:=by kernel_rfl)(hf:Region.free md ops listed i=true:=by kernel_rfl)(hr:(Region.ready md ops listed).contains i=true:=by kernel_rfl)(hQ:∀c a w,Q (.panic c) (a.put oi.dst undef) w->Q (.panic c) a w:=by exactλ_ _ _ h=>h)(hg:Region.wanted oi (yielded ops a.tmps)=false:=by rfl)(ha:a.put oi.dst undef=a':=by(simp only[Act.put,xa,xb,xc];rfl)):Tk P md ops Q S listed i a a':=
 λ_ _ hS h=>wpAnyH_take hi hs hf hr hQ (Or.inr ⟨hg,rfl⟩) hS (ha▸h)
def tn{P:Program}{md:Region.Mode}{ops:Array Oper}{Q:Exit->Act->World->Prop}{S:World->Prop}(i:Nat){fuel:Nat}{listed:Array Bool}{a a':Act}{w:World}(hS:S w)(h:wpAnyH P md ops Q S fuel (listed.setIfInBounds i true) a' w)(t:Tk P md ops Q S listed i a a':=by exact TM):wpAnyH P md ops Q S (fuel+1) listed a w:=t _ _ hS h
def sn{P:Program}{md:Region.Mode}{ops:Array Oper}{Q:Exit->Act->World->Prop}{S:World->Prop}(i:Nat){fuel:Nat}{listed:Array Bool}{a a':Act}{w:World}(hS:S w)(h:wpAnyH P md ops Q S fuel (listed.setIfInBounds i true) a' w)(t:Tk P md ops Q S listed i a a':=by exact tkZ):wpAnyH P md ops Q S (fuel+1) listed a w:=t _ _ hS h
def jR{P:Program}{md:Region.Mode}{ops:Array Oper}{Q:Exit->Act->World->Prop}{S:World->Prop}(i0 i1:Nat){fuel:Nat}{listed:Array Bool}{a0 a1 a2:Act}{w:World}(hS:S w)(h:wpAnyH P md ops Q S fuel ((listed.setIfInBounds i0 true).setIfInBounds i1 true) a2 w)(x0:Tk P md ops Q S listed i0 a0 a1:=by exact TM)(x1:Tk P md ops Q S (listed.setIfInBounds i0 true) i1 a1 a2:=by exact TM):wpAnyH P md ops Q S (fuel+2) listed a0 w:=x0 _ _ hS (x1 _ _ hS h)
def lG{P:Program}{md:Region.Mode}{ops:Array Oper}{Q:Exit->Act->World->Prop}{S:World->Prop}(i0 i1 i2 i3:Nat){fuel:Nat}{listed:Array Bool}{a0 a1 a2 a3 a4:Act}{w:World}(hS:S w)(h:wpAnyH P md ops Q S fuel ((((listed.setIfInBounds i0 true).setIfInBounds i1 true).setIfInBounds i2 true).setIfInBounds i3 true) a4 w)(x0:Tk P md ops Q S listed i0 a0 a1:=by exact TM)(x1:Tk P md ops Q S (listed.setIfInBounds i0 true) i1 a1 a2:=by exact TM)(x2:Tk P md ops Q S ((listed.setIfInBounds i0 true).setIfInBounds i1 true) i2 a2 a3:=by exact TM)(x3:Tk P md ops Q S (((listed.setIfInBounds i0 true).setIfInBounds i1 true).setIfInBounds i2 true) i3 a3 a4:=by exact TM):wpAnyH P md ops Q S (fuel+4) listed a0 w:=x0 _ _ hS (x1 _ _ hS (x2 _ _ hS (x3 _ _ hS h)))
def oQ{P:Program}{md:Region.Mode}{ops:Array Oper}{Q:Exit->Act->World->Prop}{S:World->Prop}(i0 i1 i2 i3:Nat){fuel:Nat}{listed:Array Bool}{a0 a1 a2 a3 a4:Act}{w:World}(hS:S w)(h:wpAnyH P md ops Q S fuel ((((listed.setIfInBounds i0 true).setIfInBounds i1 true).setIfInBounds i2 true).setIfInBounds i3 true) a4 w)(x0:Tk P md ops Q S listed i0 a0 a1:=by exact tkZ)(x1:Tk P md ops Q S (listed.setIfInBounds i0 true) i1 a1 a2:=by exact tkZ)(x2:Tk P md ops Q S ((listed.setIfInBounds i0 true).setIfInBounds i1 true) i2 a2 a3:=by exact tkZ)(x3:Tk P md ops Q S (((listed.setIfInBounds i0 true).setIfInBounds i1 true).setIfInBounds i2 true) i3 a3 a4:=by exact tkZ):wpAnyH P md ops Q S (fuel+4) listed a0 w:=x0 _ _ hS (x1 _ _ hS (x2 _ _ hS (x3 _ _ hS h)))
def mj{P:Program}{md:Region.Mode}{ops:Array Oper}{Q:Exit->Act->World->Prop}{S:World->Prop}(i0 i1 i2 i3 i4 i5 i6 i7:Nat){fuel:Nat}{listed:Array Bool}{a0 a1 a2 a3 a4 a5 a6 a7 a8:Act}{w:World}(hS:S w)(h:wpAnyH P md ops Q S fuel ((((((((listed.setIfInBounds i0 true).setIfInBounds i1 true).setIfInBounds i2 true).setIfInBounds i3 true).setIfInBounds i4 true).setIfInBounds i5 true).setIfInBounds i6 true).setIfInBounds i7 true) a8 w)(x0:Tk P md ops Q S listed i0 a0 a1:=by exact TM)(x1:Tk P md ops Q S (listed.setIfInBounds i0 true) i1 a1 a2:=by exact TM)(x2:Tk P md ops Q S ((listed.setIfInBounds i0 true).setIfInBounds i1 true) i2 a2 a3:=by exact TM)(x3:Tk P md ops Q S (((listed.setIfInBounds i0 true).setIfInBounds i1 true).setIfInBounds i2 true) i3 a3 a4:=by exact TM)(x4:Tk P md ops Q S ((((listed.setIfInBounds i0 true).setIfInBounds i1 true).setIfInBounds i2 true).setIfInBounds i3 true) i4 a4 a5:=by exact TM)(x5:Tk P md ops Q S (((((listed.setIfInBounds i0 true).setIfInBounds i1 true).setIfInBounds i2 true).setIfInBounds i3 true).setIfInBounds i4 true) i5 a5 a6:=by exact TM)(x6:Tk P md ops Q S ((((((listed.setIfInBounds i0 true).setIfInBounds i1 true).setIfInBounds i2 true).setIfInBounds i3 true).setIfInBounds i4 true).setIfInBounds i5 true) i6 a6 a7:=by exact TM)(x7:Tk P md ops Q S (((((((listed.setIfInBounds i0 true).setIfInBounds i1 true).setIfInBounds i2 true).setIfInBounds i3 true).setIfInBounds i4 true).setIfInBounds i5 true).setIfInBounds i6 true) i7 a7 a8:=by exact TM):wpAnyH P md ops Q S (fuel+8) listed a0 w:=x0 _ _ hS (x1 _ _ hS (x2 _ _ hS (x3 _ _ hS (x4 _ _ hS (x5 _ _ hS (x6 _ _ hS (x7 _ _ hS h)))))))
def ry{P:Program}{md:Region.Mode}{ops:Array Oper}{Q:Exit->Act->World->Prop}{S:World->Prop}(rs:List Nat){fuel:Nat}{listed:Array Bool}{a:Act}{w:World}(h:AllReadyH P md ops Q S fuel listed a w rs)(hr:Region.ready md ops listed=rs:=by kernel_rfl)(bS:rs≠[]:=by simp):wpAnyH P md ops Q S (fuel+1) listed a w:=wpAnyH_ready hr bS h
def cn{P:Program}{md:Region.Mode}{ops:Array Oper}{Q:Exit->Act->World->Prop}{S:World->Prop}{fuel:Nat}{listed:Array Bool}{a:Act}{w:World}{i:Nat}{o:Oper}{rs:List Nat}(h:∀K':Act->World->Prop,Shut (∀a w,S w->(S w->wpAnyH P md ops Q S fuel (listed.setIfInBounds i true) a w)->K' a w)->if Region.wanted o (yielded ops a.tmps)=true then Oper.wp P o a w K' Q else K' (a.put o.dst undef) w)(hs:AllReadyH P md ops Q S fuel listed a w rs)(ho:ops[i]?=some o:=by(simp only[List.getElem?_toArray,List.getElem?_cons_succ,List.getElem?_cons_zero];rfl)):AllReadyH P md ops Q S fuel listed a w (i::rs):=AllReadyH.cons ho h hs
def bD3{P:Program}{md:Region.Mode}{ops:Array Oper}{Q:Exit->Act->World->Prop}{S:World->Prop}(rs:List Nat){fuel:Nat}{listed:Array Bool}{a:Act}{w:World}(h:AllReadyH P md ops Q S fuel listed a w rs)(hr:Region.ready md ops listed=rs:=by decide +kernel)(bS:rs≠[]:=by simp):wpAnyH P md ops Q S (fuel+1) listed a w:=wpAnyH_ready hr bS h
structure Tag(n:Nat)(p:Prop):Prop where
 out:p
def Tag.go(n:Nat){p:Prop}(h:p):Tag n p:=⟨h⟩
def bo2{P:Program}{md:Region.Mode}{ops:Array Oper}{Q:Exit->Act->World->Prop}{S:World->Prop}{fuel:Nat}{listed:Array Bool}{a:Act}{w:World}{i:Nat}{o:Oper}{rs:List Nat}(h:∀K':Act->World->Prop,Shut (∀a w,S w->(S w->wpAnyH P md ops Q S fuel (listed.setIfInBounds i true) a w)->K' a w)->Tag i (if Region.wanted o (yielded ops a.tmps)=true then Oper.wp P o a w K' Q else K' (a.put o.dst undef) w))(hs:AllReadyH P md ops Q S fuel listed a w rs)(ho:ops[i]?=some o:=by(simp only[List.getElem?_toArray,List.getElem?_cons_succ,List.getElem?_cons_zero];rfl)):AllReadyH P md ops Q S fuel listed a w (i::rs):=AllReadyH.cons ho (λK' hK=>(h K' hK).out) hs
def I0{P:Program}{md:Region.Mode}{ops:Array Oper}{Q:Exit->Act->World->Prop}{S:World->Prop}(i:Nat){o:Oper}{fuel:Nat}{listed:Array Bool}{a:Act}{w:World}(h:∀K':Act->World->Prop,Shut (∀a w,S w->(S w->wpAnyH P md ops Q S fuel (listed.setIfInBounds i true) a w)->K' a w)->Tag i (if Region.wanted o (yielded ops a.tmps)=true then Oper.wp P o a w K' Q else K' (a.put o.dst undef) w))(ho:ops[i]?=some o:=by(simp only[List.getElem?_toArray,List.getElem?_cons_succ,List.getElem?_cons_zero];rfl))(hr:Region.ready md ops listed=[i]:=by decide +kernel):wpAnyH P md ops Q S (fuel+1) listed a w:=bD3 [i] (bo2 h AllReadyH.nil ho) hr
def Tg{P:Program}{md:Region.Mode}{ops:Array Oper}{Q:Exit->Act->World->Prop}{S:World->Prop}(i j:Nat){o o':Oper}{fuel:Nat}{listed:Array Bool}{a:Act}{w:World}(h:∀K':Act->World->Prop,Shut (∀a w,S w->(S w->wpAnyH P md ops Q S fuel (listed.setIfInBounds i true) a w)->K' a w)->Tag i (if Region.wanted o (yielded ops a.tmps)=true then Oper.wp P o a w K' Q else K' (a.put o.dst undef) w))(h':∀K':Act->World->Prop,Shut (∀a w,S w->(S w->wpAnyH P md ops Q S fuel (listed.setIfInBounds j true) a w)->K' a w)->Tag j (if Region.wanted o' (yielded ops a.tmps)=true then Oper.wp P o' a w K' Q else K' (a.put o'.dst undef) w))(ho:ops[i]?=some o:=by(simp only[List.getElem?_toArray,List.getElem?_cons_succ,List.getElem?_cons_zero];rfl))(Xn:ops[j]?=some o':=by(simp only[List.getElem?_toArray,List.getElem?_cons_succ,List.getElem?_cons_zero];rfl))(hr:Region.ready md ops listed=[i,j]:=by decide +kernel):wpAnyH P md ops Q S (fuel+1) listed a w:=bD3 [i,j] (bo2 h (bo2 h' AllReadyH.nil Xn) ho) hr
def cX{P:Program}{md:Region.Mode}{ops:Array Oper}{Q:Exit->Act->World->Prop}{S:World->Prop}(i:Nat){fuel:Nat}{listed:Array Bool}{a:Act}{w:World}{o:Oper}(h:∀K':Act->World->Prop,Shut (∀a w,S w->(S w->wpAnyH P md ops Q S fuel (listed.setIfInBounds i true) a w)->K' a w)->if Region.wanted o (yielded ops a.tmps)=true then Oper.wp P o a w K' Q else K' (a.put o.dst undef) w)(ho:ops[i]?=some o:=by(simp only[List.getElem?_toArray,List.getElem?_cons_succ,List.getElem?_cons_zero];rfl))(hr:Region.ready md ops listed=[i]:=by kernel_rfl):wpAnyH P md ops Q S (fuel+1) listed a w:=ry [i] (cn h AllReadyH.nil ho) hr
def fh{P:Program}{md:Region.Mode}{ops:Array Oper}{Q:Exit->Act->World->Prop}{S:World->Prop}{fuel:Nat}{listed:Array Bool}{K:Act->World->Prop}{a a':Act}{w:World}(hK:Shut (∀a w,S w->(S w->wpAnyH P md ops Q S fuel listed a w)->K a w))(hS:S w)(h:S w->wpAnyH P md ops Q S fuel listed a' w)(ha:a=a':=by((try simp only[Act.put,xa,xb,xc]);rfl)):K a w:=hK.out _ _ hS (ha▸h)
open Go.ChangeShapes Go.WideShapes Go.ChangeAt Go.Deep
variable {p E:Prop}{n B k j c b base size g d C:Nat}{left y:Int}{w w1 w' w2:World}{v v1 v2 v0:Value}{a:Addr}{row:Option Nat}{vs us xs:List Value}{P:Program}{t e:TypeId}{o:Oper}{ops:Array Oper}{rest:List Oper}{s x x1 x2:Operand}{K:Act->World->Prop}{R:Ending->World->Prop}{f:FuncId}{Lw:Array TypeId}
def ag(h:p):Hid p:=h
def ae(h:Hid p):p:=h
abbrev Le{α:Type}(l:List α)(n:Nat):Prop:=Hid (l.length=n)
def bG{α:Sort _}(x:α):∃y,Hid (x=y):=⟨x,ag rfl⟩
def Bk(n:Nat)(left:Int):Int:=if left-n<0 then -1 else left-n
def Pe{p:OA}{cap:Nat}(hn:n<=maxLen)(h0:0<=left)(h1:left<=1048576):Calls Tryz.prog 63 #[.S p n cap,.I left] w λe w'=>e=.returned (.I (Bk n left))/\w'=w:=by
 unfold maxLen at hn;by_cases h:left-n<0;{
 have e:Bk n left=-1:=by unfold Bk;rw[bO h]
 rw[e];go_enter Tryz.func63,Tryz.ntmps63;go_wp2;go_ret;exact⟨rfl,rfl⟩};{
 have e:Bk n left=left-n:=by unfold Bk;rw[bH h]
 rw[e];go_enter Tryz.func63,Tryz.ntmps63;go_wp2;go_ret;exact⟨rfl,rfl⟩}
def xB{W:World}(hb:Bw W w1):(∀b o,b<W.heap.size->w1.cell? (Ad b o)=W.cell? (Ad b o))/\(∀b o,b<W.heap.size->w1.frozen? (Ad b o)=W.frozen? (Ad b o)):=
 ⟨λb o h=>hb.cell (p:=(Ad b o)) h,λb o h=>hb.frozen (p:=(Ad b o)) h⟩
abbrev U(l:LI):List Value:=l.map (Value.int .u8)
def Rd(w:World)(v:Value)(l:LI):Prop:=
 ∃(p:OA)(cap:Nat),v=.S p l.length cap/\(l=[]\/∃b o,p=some (Ad b o)/\∀i,i<l.length->w.cell? (Ad b (o+i))=some (.int .u8 (l.getD i 0)))
abbrev Own(B:Nat)(w:World)(v:Value)(l:LI):Prop:=w.ownsRow B 5 1 v l.length (U l)
def Rd.nil(w:World):Rd w aq []:=⟨none,0,rfl,.inl rfl⟩
def Own.rd{l:LI}(h:Own B w v l):Rd w v l:=by
 rcases h.2 with⟨rfl,h0⟩|⟨g,cap,cur,rfl,hb,hg,_,_,_,ht⟩;{have:l=[]:=D8 h0;subst this;exact Rd.nil w};{refine⟨_,_,rfl,.inr ⟨g,0,rfl,λi hi=>?_⟩⟩;have:=Gz (w:=w) (base:=B) h i af;rw[ly,this];simp[List.getD,aY hi]}
def Rd.below{l:LI}(h:Rd w v l)(hb:Bw w w'):Rd w' v l:=by
 obtain⟨p,cap,rfl,h⟩:=h;refine⟨p,cap,rfl,?_⟩;rcases h with h|⟨b,o,rfl,hc⟩;{exact .inl h};{refine .inr ⟨b,o,rfl,λi hi=>?_⟩;rw[hb.cell (p:=(Ad b (o+i))) (nZ w _ (hc i hi))];exact hc i hi}
def Own.below{l:LI}(h:Own B w v l)(hb:Bw w w'):Own B w' v l:=
 h.kept (row:=none) ⟨hb.os,hb.tape,hb.output,hb.size,λk hk _=>hb.block k hk⟩ (by cases hv:v.ownBlock<;>simp)
def Own.mono{B':Nat}{l:LI}(h:Own B w v l)(hB:B'<=B):Own B' w v l:=by
 refine⟨h.1,?_⟩;rcases h.2 with h|⟨g,cap,cur,rfl,hb,r⟩;{exact .inl h};{exact .inr ⟨g,cap,cur,rfl,af,r⟩}
def XC(l:LI)(k:Nat):LI:=l.take k++List.replicate (l.length-k) 0
def VF{l:LI}(h:k<=l.length):(XC l k).length=l.length:=by simp[XC];omega
def ax2(l:LI):XC l 0=List.replicate l.length 0:=by simp[XC]
def ax4(l:LI):XC l l.length=l:=by simp[XC]
def ax3{l:LI}(h:k<l.length):(U (XC l k)).set k (.int .u8 (l.getD k 0))=U (XC l (k+1)):=by
 have e1:l.take (k+1)=l.take k++[l.getD k 0]:=by rw[QP h];simp[List.getD,aY h]
 have e2:List.replicate (l.length-k) (0:Int)=0::List.replicate (l.length-(k+1)) 0:=by rw[show l.length-k=(l.length-(k+1))+1 by omega,List.replicate_succ]
 have e3:(l.take k).length=k:=by simp;omega
 have e4:(XC l k).set k (l.getD k 0)=XC l (k+1):=by unfold XC;rw[e1,e2,QO _ _ af,e3,BQ,GW];simp
 rw[<-e4,U,U,WZ]
def Tryz.infoByte:(Tryz.prog.info? 5).map (λi=>(i.zero,i.size,i.bytes))=some (some (.int .u8 0),1,1):=by kernel_rfl
def mU(h:w.grownBy w' none):Bw w w':=⟨h.os,h.tape,h.output,h.size,λk hk=>h.block k hk (by simp)⟩
def CG{l:LI}(h:Rd w v l)(hl:Mg l.length):Calls Tryz.prog 84 #[v] w λe w'=>∃p' c',e=.returned (.S p' l.length c')/\Own w.heap.size w' (.S p' l.length c') l/\Bw w w':=by
 let⟨i,hi,qx,jd,jJ⟩:=fD Tryz.infoByte
 obtain⟨p,cap,rfl,h⟩:=h;go_enter Tryz.func84,Tryz.ntmps84;go_wp2_with(first|(at_make;refine wpList_make_full _ rfl _ _ 22 rfl w.heap.size 5 i (.int .u8 0) 1 Tryz.underlying22 hi qx jd _ _ _ _ l.length rfl rfl rfl rfl ?b2 ?b3 ?b4 ?_))
 case b2=>rw[jJ];omega
 case b3=>unfold maxLen;omega
 case b4=>exact iD _
 intro w1 bR hg;have hb:=mU hg;have bI9:(madeCells #[Value.int .u8 0] l.length).toList=U (XC l 0):=by rw[ax2,toList_madeCells_one];simp
 rw[bI9]at bR;go_wp2
 go_loopw[4](λi wr=>∃k:Nat,k<=l.length/\i=.I k/\wr.ownsRow w.heap.size 5 1 (.T w.heap.size l.length l.length) l.length (U (XC l k))/\Bw w wr) (λi _=>l.length-(intOf i).toNat)
 exact⟨0,gr _,rfl,bR,hb⟩;{
 obtain⟨k,hk,rfl,ho,aM⟩:=hrel;by_cases bf:k<l.length;{
 rcases h with rfl|⟨b,o,rfl,hc⟩;{simp at bf};{
 have Dz:wr.cell? (Ad b (o+k))=some (.int .u8 (l.getD k 0)):=(aM.cell (p:=(Ad b (o+k))) (nZ w _ (hc k bf))).trans (hc k bf);have hfz:=ho.frozenAt k;have Fc:∃u,wr.cell? (Ad w.heap.size k)=some u:=by rw[ho.cellAt k af];exact⟨_,aY (by rw[fN,VF hk];omega)⟩
 obtain⟨u,hcu⟩:=Fc;have db:=ho.stored k (.int .u8 (l.getD k 0));rw[ax3 bf]at db;have HS:Hid (World.ownsRow (wr.setCell (Ad w.heap.size k) (.int .u8 (l.getD k 0))) w.heap.size 5 1 (.T w.heap.size l.length l.length) l.length (U (XC l (k+1)))):=db.1;go_wp2;go_roundw;exact⟨k+1,af,by go_num,by simpa[bf]using HS.out,aM.setCell ay _⟩;exact cg}};{
 have:k=l.length:=by omega
 subst this;rw[ax4]at ho;go_wp2;go_ret;exact⟨_,_,rfl,ho,aM⟩}}
def LJ{l1 l2:LI}(h1:k<l1.length)(h2:k<l2.length)(h:l1.take k=l2.take k)(e:l1[k]?.getD 0=l2[k]?.getD 0):l1.take (k+1)=l2.take (k+1):=by
 rw[QP h1,QP h2,h];simp[aY h1,aY h2]at e;rw[e]
def below_drewN(h:Below B w w'):Below B w (w'.drewN n):=⟨h.os,h.tape,h.output,h.size,h.block⟩
def RS{l1 l2:LI}(h1:Rd w v1 l1)(h2:Rd w v2 l2)(Tm:l1.length<=2097152)(KT:l2.length<=2097152):Calls Tryz.prog 119 #[v1,v2] w (Rb (.bool (decide (l1=l2))) w):=by
 obtain⟨p1,eg9,rfl,h1⟩:=h1;obtain⟨p2,eg8,rfl,h2⟩:=h2;by_cases hlen:l1.length=l2.length;{
 have bS:((l1.length:Int) != (l2.length:Int))=false:=by simp;omega
 go_enter Tryz.func119,Tryz.ntmps119;go_wp2
 go_loopw[5](λi wr=>∃k:Nat,k<=l1.length/\i=.I k/\l1.take k=l2.take k/\Bw w wr) (λi _=>l1.length-(intOf i).toNat)
 exact⟨0,gr _,rfl,rfl,cQ _ _⟩;{
 obtain⟨k,hk,rfl,ht,aM⟩:=hrel;have HT:Hid (l1.take k=l2.take k):=ht;by_cases bf:k<l1.length;{
 rcases h1 with rfl|⟨b1,o1,rfl,jt⟩;{simp at bf};{
 rcases h2 with rfl|⟨b2,o2,rfl,ku⟩;{simp at hlen;subst hlen;simp at bf};{
 have MZ:k<l2.length:=af;have g1:wr.cell? (Ad b1 (o1+k))=some (.int .u8 (l1.getD k 0)):=(aM.cell (p:=(Ad b1 (o1+k))) (nZ w _ (jt k bf))).trans (jt k bf);have g2:wr.cell? (Ad b2 (o2+k))=some (.int .u8 (l2.getD k 0)):=(aM.cell (p:=(Ad b2 (o2+k))) (nZ w _ (ku k MZ))).trans (ku k MZ);have i1:(k:Int)<(l1.length:Int):=af;have i2:(k:Int)<(l2.length:Int):=af;have HL:Hid (l1.length=l2.length):=hlen;by_cases hx:l1[k]=l2[k];{
 have hb:(l1[k] != l2[k])=false:=by simp only[bne_eq_false_iff_eq];exact hx
 have HX:Hid (l1[k]?.getD 0=l2[k]?.getD 0):=by show _=_;simpa[bf,MZ]using hx
 go_wp2
 go_quiet (fail)
 go_wp2;go_roundw;exact⟨k+1,af,by go_num,LJ bf MZ HT.out HX.out,below_drewN aM⟩;exact cg};{
 have hb:(l1[k] != l2[k])=true:=by simp only[bne_iff_ne];exact hx
 have HF:Hid (decide (l1=l2)=false):=by show _=_;simp only[xS];intro e;apply hx;simp[e]
 go_wp2
 go_quiet (fail)
 go_wp2;go_ret;exact⟨by rw[HF.out];rfl,below_drewN aM⟩}}}};{
 have dT:k=l1.length:=af;have HF:Hid (decide (l1=l2)=true):=by have:=HT.out;rw[dT,rr,hlen,rr]at this;show _=_;simp[this]
 subst dT;go_wp2;go_ret;exact⟨by rw[HF.out];rfl,aM⟩}}};{
 have bS:((l1.length:Int) != (l2.length:Int))=true:=by simp;omega
 have tj:decide (l1=l2)=false:=by simp only[xS];intro e;apply hlen;rw[e]
 rw[tj];go_enter Tryz.func119,Tryz.ntmps119;go_wp2;go_ret;exact⟨rfl,cQ _ _⟩}
def Own.lt{l:LI}(h:Own B w v l):∀b,v.ownBlock=some b->B<=b/\b<w.heap.size:=Gy h
def Own.set{l:LI}(h:Own B w v l)(ha:a.block<B)(u:Value):Own B (w.setCell a u) v l:=qD h ha u
def marks(k:Int):Nat->LI
 |0=>[]
 |n+1=>marks k n++[(k+n) % 256]
def fS(k:Int)(n:Nat):(marks k n).length=n:=by induction n with|zero=>rfl|succ n ih=>simp[marks,ih]
theorem Yu(k:Int)(n j:Nat)(h:j<n):(marks k n)[j]?=some ((k+j) % 256):=by
 induction n with
 |zero=>omega
 |succ n ih=>
  by_cases e:j=n;{subst e;simp[marks,fS]};{rw[marks,kR (by rw[fS];omega)];exact ih af}
def marked(l:LI)(k:Int)(j:Nat):LI:=marks k j++l.drop j
variable {k:Int}
def I9{l:LI}(h:j<=l.length):(marked l k j).length=l.length:=by simp[marked,fS];omega
def Qo(l:LI)(k:Int):marked l k 0=l:=by simp[marked,marks]
def Qq(l:LI)(k:Int):marked l k l.length=marks k l.length:=by simp[marked]
def Qp{l:LI}(h:j<l.length):(U (marked l k j)).set j (.int .u8 ((k+j) % 256))=U (marked l k (j+1)):=by
 have e2:l.drop j=l[j]::l.drop (j+1):=MH h;have e4:(marked l k j).set j ((k+j) % 256)=marked l k (j+1):=by unfold marked;rw[e2,QO _ _ (by rw[fS];omega),fS,BQ,GW];simp[marks]
 rw[<-e4,U,U,WZ]
def qi:w.grownBy w row:=⟨rfl,rfl,rfl,iD _,λ_ _ _=>rfl⟩
def gC(h:w.grownBy w1 row)(k:w1.grownBy w2 row):w.grownBy w2 row:=
 ⟨k.os.trans h.os,k.tape.trans h.tape,k.output.trans h.output,fu h.size k.size,λi hi bS=>(k.block i (iq hi h.size) bS).trans (h.block i hi bS)⟩
def Jd{p:OA}{l:LI}(h:Own B w (.S p l.length c) l)(hl:l.length<=2097152)(k0:0<=k)(k1:k<=100000000):Calls Tryz.prog 122 #[.S p l.length c,.I k] w λe w'=>e=.returned (.I (k+l.length))/\Own B w' (.S p l.length c) (marks k l.length)/\w.grownBy w' (Value.ownBlock (.S p l.length c)):=by
 have Vi:(p=none/\l=[])\/∃g,p=some (Ad g 0):=by rcases h.2 with⟨e,h0⟩|⟨g,cap,cur,e,_⟩;{simp at e;exact .inl ⟨e.1,e.2.1⟩};{simp at e;exact .inr ⟨g,e.1⟩}
 go_enter Tryz.func122,Tryz.ntmps122;go_wp2
 go_loopw[1,5](λkk i wr=>∃j:Nat,j<=l.length/\i=.I j/\kk=.I (k+j)/\wr.ownsRow B 5 1 (.S p l.length c) l.length (U (marked l k j))/\w.grownBy wr (Value.ownBlock (.S p l.length c))) (λ_ i _=>l.length-(intOf i).toNat)
 exact⟨0,gr _,rfl,al,by rw[Qo];exact h,qi⟩;{
 obtain⟨j,hj,rfl,rfl,ho,hg⟩:=hrel;by_cases bf:j<l.length;{
 rcases Vi with⟨rfl,rfl⟩|⟨g,rfl⟩;{simp at bf};{
 have hfz:=ho.frozenAt j;have Fc:∃u,wr.cell? (Ad g j)=some u:=by rw[ho.cellAt j af];exact⟨_,aY (by rw[fN,I9 hj];omega)⟩
 obtain⟨u,hcu⟩:=Fc;have db:=ho.stored j (.int .u8 ((k+j) % 256));rw[Qp (k:=k) bf]at db;have HS:=ag db.1;have HG:=ag (gC hg db.2);go_wp2;go_roundw;exact⟨j+1,af,by go_num,by go_num,by simpa using HS.out,by simpa using HG.out⟩;exact cg}};{
 have:j=l.length:=by omega
 subst this;rw[Qq]at ho;go_wp2;go_ret;refine⟨rfl,?_,hg⟩;unfold Own;rw[fS];exact ho}}
def Jv{p:OA}(h:Rd w (.S p n c) (marks k n))(hl:n<=2097152)(k0:0<=k)(k1:k<=100000000):Calls Tryz.prog 125 #[.S p n c,.I k] w (Rb (.I (k+n)) w):=by
 have Vi:n=0\/∃g o,p=some (Ad g o)/\∀j,j<n->w.cell? (Ad g (o+j))=some (.int .u8 ((k+j) % 256)):=by
  obtain⟨q,cap,e,h⟩:=h;simp only[pW,fS]at e;obtain⟨rfl,-,rfl⟩:=e;rcases h with e|⟨b,o,rfl,hc⟩;{left;have:=tX List.length e;simpa[fS]using this}
  {
 right
 refine⟨b,o,rfl,λj hj=>?_⟩;rw[hc j (by rw[fS];exact hj)];simp[List.getD,Yu k n j hj]}
 go_enter Tryz.func125,Tryz.ntmps125;go_wp2
 go_loopw[1,5](λkk i wr=>∃j:Nat,j<=n/\i=.I j/\kk=.I (k+j)/\Bw w wr) (λ_ i _=>n-(intOf i).toNat)
 exact⟨0,gr _,rfl,al,cQ _ _⟩;{
 obtain⟨j,hj,rfl,rfl,aM⟩:=hrel;by_cases bf:j<n;{rcases Vi with rfl|⟨g,o,rfl,hc⟩;{omega};{have Dz:wr.cell? (Ad g (o+j))=some (.int .u8 ((k+j) % 256)):=(aM.cell (p:=(Ad g (o+j))) (nZ w _ (hc j bf))).trans (hc j bf);have bS:((k+(j:Int)) % 256 != (k+(j:Int)) % 256)=false:=al;go_wp2;go_roundw;exact⟨j+1,af,by go_num,by go_num,by first|exact aM|exact below_drewN aM⟩;exact cg}};{
 have:j=n:=by omega
 subst this;go_wp2;go_ret;exact⟨rfl,aM⟩}}
structure Kept(vs:List Value)(w w':World):Prop where
 os:w'.os=w.os
 tape:w'.tape=w.tape
 output:w'.output=w.output
 size:w.heap.size<=w'.heap.size
 block:∀k,k<w.heap.size->(∀v∈vs,v.ownBlock≠some k)->w'.heap[k]?=w.heap[k]?
def Kept.refl(vs:List Value)(w:World):Kept vs w w:=⟨rfl,rfl,rfl,iD _,λ_ _ _=>rfl⟩
def Kept.trans(h:Kept vs w w1)(k:Kept vs w1 w2):Kept vs w w2:=
 ⟨k.os.trans h.os,k.tape.trans h.tape,k.output.trans h.output,fu h.size k.size,λi hi bS=>(k.block i (iq hi h.size) bS).trans (h.block i hi bS)⟩
def Kept.dR(h:Bw w w'):Kept vs w w':=⟨h.os,h.tape,h.output,h.size,λk hk _=>h.block k hk⟩
def Kept.Gk(h:w.grownBy w' v.ownBlock)(hv:v∈vs):Kept vs w w':=
 ⟨h.os,h.tape,h.output,h.size,λk hk bS=>h.block k hk (λe=>bS v hv e.symm)⟩
def Kept.alloc(h:Kept vs w w')(o:Obj):Kept vs w (w'.alloc o):=h.trans (Kept.dR (aA.alloc ay _))
def Kept.below(h:Kept vs w w')(hB:B<=w.heap.size)(hv:∀v∈vs,∀b,v.ownBlock=some b->B<=b):Below B w w':=
 ⟨h.os,h.tape,h.output,h.size,λk hk=>h.block k af (λv hv' e=>aI (hv v hv' k e))⟩
def Own.td{l:LI}(h:Own B w v l)(hk:Kept vs w w')(bS:∀u∈vs,∀b,v.ownBlock=some b->u.ownBlock≠some b):Own B w' v l:=by
 refine⟨h.1,?_⟩;rcases h.2 with hn|⟨g,cap,cur,rfl,hb,hgg,rest⟩;{exact .inl hn};{refine .inr ⟨g,cap,cur,rfl,hb,?_,rest⟩;rw[hk.block g (Jg.1 hgg).1 (λu hu=>bS u hu g rfl)];exact hgg}
def ah{o:Nat}(h:w.cell? (Ad b o)=some v)(hb:Bw w w'):w'.cell? (Ad b o)=some v:=
 (hb.cell (p:=(Ad b o)) (nZ w _ h)).trans h
def cG(h:∀o,w.frozen? (Ad b o)=false)(hb:Bw w w')(bf:b<w.heap.size):∀o,w'.frozen? (Ad b o)=false:=
 λo=>(hb.frozen (p:=(Ad b o)) bf).trans (h o)
def Kept.cellAt(h:Kept vs w w')(hb:b<w.heap.size)(hv:∀v∈vs,v.ownBlock≠some b):∀o,w'.cell? (Ad b o)=w.cell? (Ad b o):=
 λo=>xi (h.block b hb hv)
def Kept.more(h:Kept vs w w')(hs:∀v∈vs,v∈us):Kept us w w':=
 ⟨h.os,h.tape,h.output,h.size,λk hk bS=>h.block k hk (λv hv=>bS v (hs v hv))⟩
open Go.Proofs.Tryz
def Own.form{l:LI}(h:Own B w v l):∃p c,v=.S p l.length c:=by
 rcases h.2 with⟨rfl,h0⟩|⟨g,cap,cur,rfl,_⟩;{exact⟨none,0,by rw[h0]⟩};{exact⟨_,_,rfl⟩}
def Rd.news{l:LI}(h:Rd w (.S (some a) l.length c) l):(U l).length=l.length*1/\(∀j u,(U l)[j]?=some u->w.cell? (a.add j)=some u)/\(∀u∈U l,u.oneCell'=true):=by
 refine⟨al,?_,?_⟩;{
 intro j u hj;obtain⟨p,cap,e,h⟩:=h;obtain⟨rfl,-,rfl⟩:=ir e;rcases h with rfl|⟨b,o,e,hc⟩;{simp at hj};{
 simp only[kV]at e;subst e;have Al:j<l.length:=by have:=(aV.1 hj).1;simpa using this
 have:=hc j Al;rw[zI,this];simp[List.getD,aY Al]at hj⊢;exact hj}};{
 intro u hu;obtain⟨x,_,rfl⟩:=iR.1 hu
 rfl}
def Rd.rY{l:LI}(h:Rd w (.S none l.length c) l):l=[]:=by
 obtain⟨p,cap,e,h⟩:=h;obtain⟨rfl,-,rfl⟩:=ir e;rcases h with rfl|⟨b,o,e,hc⟩;{rfl}
 {cases e}
def fM(ty:TypeId)(i:TypeInfo)(ht:P.underlying t=some (.slice e))(hi:P.info? e=some i)(c:Nat)(bR:w.ownsRow base e size v n xs):(Builtin.append_ #[t,t] ty #[v,.S none 0 c]).run P w=.ok v w:=by
 rcases bR.2 with⟨rfl,rfl⟩|⟨g,cap,cur,rfl,_,_,xv,_⟩;{simp[Builtin.append_,aj1 ht,sizeOf,typeInfo,hi,Builtin.lenOf,Builtin.firstCells]};{simp[Builtin.append_,aj1 ht,sizeOf,typeInfo,hi,Builtin.lenOf,Builtin.firstCells,xv,storeCells]}
theorem xZ{p:OA}{l:LI}(h:Rd w (.S p l.length c) l)(hl:l.length<=2097152):Calls prog 70 #[.S p l.length c] w λe w'=>∃p' c',e=.returned (.S p' l.length c')/\Own w.heap.size w' (.S p' l.length c') l/\Bw w w':=by
 let⟨i,hi,qx,jd,jJ⟩:=fD Tryz.infoByte
 cases p with
 |none=>
  have e:=h.rY;subst e;have Z7:=λw:World=>fM (P:=prog) 22 i underlying22 hi c (gm w 0 5 1)
  go_in
  go_wp2;go_ret;exact⟨none,0,rfl,gm _ _ _ _,cQ _ _⟩
 |some a=>
  let⟨n1,n2,n3⟩:=h.news
  go_in
  go_wp2_with(at_builtin;refine Kk _ rfl _ _ 22 rfl w.heap.size 5 i (.int .u8 0) 1 1 underlying22 hi qx jd jJ rfl bj _ _ _ rfl (gm _ _ _ _) a _ c (U l) rfl n1 n2 n3 iB af ay ?_);intro v' w1 bR hg _;have ho:Own w.heap.size w1 v' l:=by simpa using bR
  obtain⟨p',c',rfl⟩:=ho.form;have hb:=mU hg;go_wp2;go_ret;exact⟨p',c',rfl,ho,hb⟩
variable {a:Act}
theorem rK{Q:Exit->Act->World->Prop}(ng:o.guard=none) (ho:o.op=.call {callee:=.builtin .append,args:=#[s,x],argTypes:=#[22,22]}){l m lm:LI}(wo:Hid (lm=l++m)){p:OA}(hs:a.eval s=v)(hx:a.eval x=.S p m.length c)(bR:Own B w v l)(hr:Rd w (.S p m.length c) m)(hl:l.length+m.length<=4194304)(hB:B<=w.heap.size)(hK:∀p' c' w',Own B w' (.S p' lm.length c') lm->w.grownBy w' v.ownBlock->wpList prog ops Q rest (a.put o.dst (.S p' lm.length c')) w'):wpList prog ops Q (o::rest) a w:=by
 let⟨i,hi,qx,jd,jJ⟩:=fD Tryz.infoByte
 have e:=ae wo;subst e;cases p with
 |none=>
  have e:=hr.rY;subst e;obtain⟨pv,cv,rfl⟩:=bR.form;have Z7:=fM (P:=prog) o.type i underlying22 hi c bR;refine Lib.wpList_append_run w ng s x 22 22 ho _ _ hs hx _ _ Z7 ?_;have:=hK pv cv w (by simpa using bR) ⟨rfl,rfl,rfl,iD _,λ_ _ _=>rfl⟩;simpa using this
 |some ad=>
  let⟨n1,n2,n3⟩:=hr.news
  refine Kk w ng s x 22 ho B 5 i (.int .u8 0) 1 1 underlying22 hi qx jd jJ rfl bj v _ _ hs bR ad _ c (U m) hx n1 n2 n3 iB af hB ?_;intro v' w' h1 h2 _;have qy:Own B w' v' (l++m):=by unfold Own;rw[gU,U,l8];exact h1
  obtain⟨p',c',rfl⟩:=qy.form;exact hK p' c' w' qy h2
def DH(hn:n<=4194304):Calls prog 212 #[aq,.I n] w λe w'=>∃p' c',e=.returned (.S p' 0 c')/\Own w.heap.size w' (.S p' 0 c') []/\Bw w w':=by
 let⟨i,hi,qx,jd,jJ⟩:=fD Tryz.infoByte
 by_cases h:n=0;{
 subst h
 go_in
 go_wp2;go_ret;exact⟨none,0,rfl,gm _ _ _ _,cQ _ _⟩};{
 have hp:=mW 0 n;have hr:=Lib.run_append_nil_zeros (P:=prog) w 22 3 22 5 i (.int .u8 0) .i64 .i64 underlying22 underlying3 hi qx n af af af (by rw[jJ];omega);have HR:=ag hr;have ud:=aU4 w n 0 5;have DA:=aU3 w n 0 5 iB;generalize grownCap w n 0 5=cc at HR ud DA
 go_in
 go_wp2_with(at_builtin;refine Lib.wpList_append_run _ rfl _ _ _ _ rfl _ _ rfl rfl _ _ (by exact HR) ?_);unfold maxLen at DA;go_wp2;go_ret;have hs:(Builtin.zeroCells #[Value.int IntKind.u8 0] n++Builtin.zeroCells #[Value.int IntKind.u8 0] (cc-n)).size=cc*1:=by rw[aU1,aU2,aU2];simp;omega
 exact⟨_,cc,rfl,World.ownsRow_made (base:=w.heap.size) (e:=5) (size:=1) w _ cc ay iB hs,(aA.alloc ay _).drew⟩}
def lh(w:World)(g:Nat)(vs:List Value)(ls:List LI):Prop:=
 vs.length=ls.length/\∀j v l,vs[j]?=some v->ls[j]?=some l->w.cell? (Ad g j)=some v/\Rd w v l
def lh.below{ls:List LI}(h:lh w g vs ls)(hb:Bw w w'):lh w' g vs ls:=
 ⟨h.1,λj v l e1 e2=>⟨ah (h.2 j v l e1 e2).1 hb,(h.2 j v l e1 e2).2.below hb⟩⟩
def lh.get{ls:List LI}(h:lh w g vs ls)(j:Nat)(hj:j<ls.length):∃(p:OA)(c:Nat)(l:LI),ls[j]?=some l/\w.cell? (Ad g j)=some (.S p l.length c)/\Rd w (.S p l.length c) l:=by
 have hv:j<vs.length:=h.1▸hj
 let⟨h1,h2⟩:=h.2 j vs[j] ls[j] (aY hv) (aY hj)
 let⟨p,c,e,hh⟩:=id h2
 exact⟨p,c,ls[j],aY hj,by rw[h1,e],by rw[e]at h2;exact h2⟩
def cat(ls:List LI):LI:=ls.flatten
def vO:cat []=[]:=rfl
def Fi(l:LI):cat [l]=l:=by simp[cat]
def NN(l m:LI):cat [l,m]=l++m:=by simp[cat]
variable {k:Nat}
def vK{ls:List LI}{l:LI}(h:ls[k]?=some l):cat (ls.take (k+1))=cat (ls.take k)++l:=by
 let⟨hk,e⟩:=aV.1 h
 unfold cat;rw[QP hk,GG,e];simp only[sV,al6,BI]
def qS(ls:List LI)(k:Nat):(cat (ls.take k)).length<=(cat ls).length:=by
 have e:cat ls=cat (ls.take k)++cat (ls.drop k):=by unfold cat;rw[<-GG,Dn]
 rw[e,gU];omega
theorem yw{ls:List LI}(h:lh w g vs ls)(hl:(cat ls).length<=4194304)(hk:ls.length<=1000):Calls prog 166 #[.T g ls.length ls.length] w λe w'=>∃p' c',e=.returned (.S p' (cat ls).length c')/\Own w.heap.size w' (.S p' (cat ls).length c') (cat ls)/\Bw w w':=by
 let⟨i,hi,qx,jd,jJ⟩:=fD Tryz.infoByte
 go_in
 go_wp2
 go_loopw[3,11](λs i wr=>∃k:Nat,k<=ls.length/\i=.I k/\s=.I ((cat (ls.take k)).length:Nat)/\Bw w wr) (λ_ i _=>ls.length-(intOf i).toNat)
 exact⟨0,gr _,rfl,by simp[cat],cQ _ _⟩;{
 obtain⟨k,mT,rfl,rfl,aM⟩:=hrel;have M8:=qS ls k;by_cases bf:k<ls.length;{
 let⟨p,c,l,e1,e2,e3⟩:=(h.below aM).get k bf
 have db:=vK e1;have hln:(cat (ls.take k)).length+l.length=(cat (ls.take (k+1))).length:=by rw[db];simp
 have ar7:=qS ls (k+1);have hle:(cat (ls.take k)).length+l.length<=4194304:=af;have HL:=ag hln;generalize(cat (ls.take k)).length=a at*;go_wp2;go_roundw;exact⟨k+1,af,by go_num,by rw[<-ae HL];go_num,aM⟩;exact cg};{
 have e:k=ls.length:=af;subst e;rw[rr];rw[rr]at M8;go_wp2_with fail;refine(DH hl).mono ?_;rintro e w1⟨p1,c1,rfl,o1,aG⟩;replace o1:Own w.heap.size w1 (.S p1 0 c1) []:=o1.mono aM.size;have b1:=aj aM aG;go_wp2
 go_loopw[6,27](λv i wr=>∃k:Nat,k<=ls.length/\i=.I k/\(∃p c,v=.S p (cat (ls.take k)).length c/\Own w.heap.size wr v (cat (ls.take k)))/\Bw w wr) (λ_ i _=>ls.length-(intOf i).toNat)
 exact⟨0,gr _,rfl,⟨p1,c1,by simp[cat],by simpa[cat]using o1⟩,b1⟩;{
 obtain⟨k,mT,rfl,⟨pv,cv,rfl,ho⟩,aM⟩:=hrel;have M8:=qS ls k;by_cases bf:k<ls.length;{
 let⟨p,c,l,e1,e2,e3⟩:=(h.below aM).get k bf
 have db:=vK e1;have ar7:=qS ls (k+1);have hle:(cat (ls.take k)).length+l.length<=4194304:=by have:=tX List.length db;simp only[gU]at this;omega
 have HS:=ag db;generalize(cat (ls.take k))=a at*;cases p with
 |none=>
  have e:=e3.rY;subst e;have HA:=ag (fM (P:=prog) 22 i underlying22 hi c ho);go_wp2_with(at_builtin;refine Lib.wpList_append_run _ rfl _ _ _ _ rfl _ _ rfl rfl _ _ (by exact HA) ?_);go_roundw;exact⟨k+1,af,by go_num,⟨pv,cv,by rw[ae HS];simp,by rw[ae HS];simpa using ho⟩,aM⟩;exact cg
 |some ad=>
  let⟨n1,n2,n3⟩:=e3.news
  go_wp2_with(at_builtin;refine Kk _ rfl _ _ 22 rfl w.heap.size 5 i (.int .u8 0) 1 1 underlying22 hi qx jd jJ rfl bj _ _ _ rfl ho ad _ c (U l) rfl n1 n2 n3 iB af aM.size ?_);intro v' w2 bR hg _;have b2:Bw w w2:=aM.grown hg aM.size (λk hk=>(ho.lt k hk).1);have qy:Own w.heap.size w2 v' (a++l):=by unfold Own;rw[gU,U,l8];exact bR
  obtain⟨p',c',rfl⟩:=qy.form;go_wp2;go_roundw;exact⟨k+1,af,by go_num,⟨p',c',by rw[ae HS],by rw[ae HS];exact qy⟩,b2⟩;exact cg};{have e:k=ls.length:=af;subst e;rw[rr]at ho;go_wp2;go_ret;exact⟨pv,cv,by rw[rr];rfl,ho,aM⟩}}}}
theorem Sh{p:OA}{l:LI}(hc:w.cell? (Ad g 0)=some (.S p l.length c))(h:Rd w (.S p l.length c) l)(hl:l.length<=2097152):Cp 166 #[.T g 1 1] w λe w'=>∃p' c',e=.returned (.S p' l.length c')/\Own w.heap.size w' (.S p' l.length c') l/\Bw w w':=by
 have hp:lh w g [.S p l.length c] [l]:=by
  refine⟨rfl,λj v m e1 e2=>?_⟩
  match j,e1,e2 with
  |0,e1,e2=>simp at e1 e2;subst e1 e2;exact⟨hc,h⟩
 have:=yw hp (by rw[Fi];omega) al;rw[Fi]at this;exact this
theorem Sg{p q:OA}{l m lm:LI}(wo:Hid (lm=l++m))(hc:w.cell? (Ad g 0)=some (.S p l.length c))(hd:w.cell? (Ad g 1)=some (.S q m.length d))(h:Rd w (.S p l.length c) l)(k:Rd w (.S q m.length d) m)(hl:l.length+m.length<=4194304):Cp 166 #[.T g 2 2] w λe w'=>∃p' c',e=.returned (.S p' lm.length c')/\Own w.heap.size w' (.S p' lm.length c') lm/\Bw w w':=by
 have hp:lh w g [.S p l.length c,.S q m.length d] [l,m]:=by
  refine⟨rfl,λj v x e1 e2=>?_⟩
  match j,e1,e2 with
  |0,e1,e2=>simp at e1 e2;subst e1 e2;exact⟨hc,h⟩
  |1,e1,e2=>simp at e1 e2;subst e1 e2;exact⟨hd,k⟩
 have:=yw hp (by rw[NN,gU];omega) al;rw[NN,<-ae wo]at this;exact this
def bQ{Q:Exit->Act->World->Prop}(ng:o.guard=none) (ho:o.op=.call {callee:=.builtin .append,args:=#[s,x],argTypes:=#[22,22]})(v:Value){l m lm:LI}(wo:Hid (lm=l++m))(p:OA)(c k:Nat)(hk:Le m k)(hs:a.eval s=v)(hx:a.eval x=.S p k c)(bR:Own B w v l)(hr:Rd w (.S p k c) m)(hl:l.length+m.length<=4194304)(hB:B<=w.heap.size)(hK:∀p' c' w',Own B w' (.S p' lm.length c') lm->w.grownBy w' v.ownBlock->wpList prog ops Q rest (a.put o.dst (.S p' lm.length c')) w'):wpList prog ops Q (o::rest) a w:=by
 have e:=ae hk;subst e;exact rK ng ho wo hs hx bR hr hl hB hK
def Own.one(w:World)(y:Int):Own w.heap.size (w.alloc (.cells #[.int .u8 y] 5)) (.T w.heap.size 1 1) [y]:=
 aj0 w #[.int .u8 y] 1 ay iB rfl
def dA{a:World}{l:LI}(h:Below B a w)(hg:w.grownBy w' v.ownBlock)(ho:Own C w v l)(hC:B<=C)(hB:B<=w.heap.size):Below B a w':=
 h.grown hg hB (λk e=>aI (ho.lt k e).1)
def fe{Q:Exit->Act->World->Prop}(ng:o.guard=none) (ho:o.op=.call {callee:=.builtin .append,args:=#[s,x],argTypes:=#[22,22]})(v:Value){l lm:LI}(wo:Hid (lm=l++[y]))(g:Nat)(hs:a.eval s=v)(hx:a.eval x=.T g 1 1)(bR:Own B w v l)(hc:w.cell? (Ad g 0)=some (.int .u8 y))(hl:l.length<4194304)(hB:B<=w.heap.size)(h:∀p' c' w',Own B w' (.S p' lm.length c') lm->w.grownBy w' v.ownBlock->wpList prog ops Q rest (a.put o.dst (.S p' lm.length c')) w'):wpList prog ops Q (o::rest) a w:=by
 have hr:Rd w (.T g 1 1) [y]:=by
  refine⟨_,_,rfl,.inr ⟨g,0,rfl,λi hi=>?_⟩⟩;have e:i=0:=by simpa using hi
  subst e;simpa using hc
 exact rK ng ho wo hs hx bR hr bq hB h
def aN(l:LI):Prop:=∀z∈l,0<=z/\z<256
def dU{α:Type}[DecidableEq α](c:α):List α->List (List α)
 |[]=>[[]]
 |x::l=>if x=c then[]::dU c l else(match dU c l with|[]=>[[x]]|n::ns=>(x::n)::ns)
theorem XA{α:Type}[DecidableEq α]{c:α}{s:List α}(h:c∉s):dU c s=[s]:=by
 induction s with
 |nil=>rfl
 |cons x l ih=>
  have hx:¬x=c:=λe=>h (by simp[e]);rw[dU,bH hx,ih (λh'=>h (by simp[h']))]
theorem Se{α:Type}[DecidableEq α]{c:α}{s t:List α}(h:c∉s):dU c (s++c::t)=s::dU c t:=by
 induction s with
 |nil=>simp[dU]
 |cons x l ih=>
  have hx:¬x=c:=λe=>h (by simp[e]);rw[Ed,dU,bH hx,ih (λh'=>h (by simp[h']))]
theorem ax1{α:Type}[DecidableEq α]{c x:α}(t:List α)(hx:¬x=c)(s:List α)(h:c∉s):∃n ns,dU c (s++x::t)=(s++x::n)::ns:=by
 induction s with
 |nil=>
  rw[D9,dU,bH hx];cases dU c t with
  |nil=>exact⟨[],[],rfl⟩
  |cons n ns=>exact⟨n,ns,rfl⟩
 |cons y l ih=>
  have hy:¬y=c:=λe=>h (by simp[e])
  let⟨n,ns,e⟩:=ih (λh'=>h (by simp[h']))
  exact⟨n,ns,by rw[Ed,dU,bH hy,e];rfl⟩
theorem aw8{α:Type}[DecidableEq α](c:α){s:List α}:1<=(dU c s).length:=by
 cases s with
 |nil=>simp[dU]
 |cons x l=>
  rw[dU];split;{simp};{split<;>simp}
theorem aw9{α β:Type}[DecidableEq α][DecidableEq β](f:α->β)(c:α)(s:List α)(h:∀x∈s,f x=f c->x=c):dU (f c) (s.map f)=(dU c s).map (List.map f):=by
 induction s with
 |nil=>rfl
 |cons x l ih=>
  have ih:=ih λy hy=>h y (by simp[hy]);rw[iH,dU,dU,ih];by_cases hx:x=c;{rw[bO (by rw[hx]),bO hx];rfl};{rw[bH (λe=>hx (h x al e)),bH hx];cases dU c l<;>rfl}
variable {c:UInt8}{s:List UInt8}
theorem MT(h:c∉s):Lib.indexByte s c=-1:=by
 induction s with
 |nil=>rfl
 |cons x l ih=>
  have hx:¬x=c:=λe=>h (by simp[e]);unfold Lib.indexByte;rw[ih (λh'=>h (by simp[h']))];simp[hx]
theorem Jl{t:List UInt8}(h:c∉s):Lib.indexByte (s++c::t) c=s.length:=by
 induction s with
 |nil=>simp[Lib.indexByte]
 |cons x l ih=>
  have hx:¬x=c:=λe=>h (by simp[e]);have e:=ih (λh'=>h (by simp[h']));rw[Ed];unfold Lib.indexByte;rw[e];have h1:¬((l.length:Int)==-1)=true:=al;rw[bH (by simpa using hx),bH h1];simp
theorem Yb(c:UInt8):∀(n:Nat)(s:List UInt8),s.length<n->Lib.splitK [c] 0 (Lib.count s [c]) s=dU c s/\Lib.count s [c]+1=(dU c s).length:=by
 intro n
 induction n with
 |zero=>intro s h;omega
 |succ n ih=>
  intro s h;by_cases hc:c∈s;{
 obtain⟨pre,t,rfl,hp⟩:=List.eq_append_cons_of_mem hc;have hi:Lib.index (pre++c::t) [c]=(pre.length:Nat):=by rw[Lib.index_one,Jl hp]
 have hd:(pre++c::t).drop (pre.length+1)=t:=by rw[List.drop_append];simp
 let⟨e1,e2⟩:=ih t (by simp at h;omega)
 rw[Lib.count_hit al hi,Se hp];simp only[iS,BO,ly,hd];constructor;{rw[al8 1,Lib.splitK,bH (by rw[hi];simp),hi];simp only[sS,iS,BO,ly,uP,hd,e1];simp};{omega}};{
 have hi:Lib.index s [c]=-1:=by rw[Lib.index_one,MT hc]
 rw[Lib.count_miss hi,XA hc];exact⟨rfl,rfl⟩}
def uk(c:Int):Bool:=(decide (97<=c)&&decide (c<=122))||(decide (48<=c)&&decide (c<=57))||c==45||c==95
def kP(l:LI):Bool:=decide (1<=l.length)&&decide (l.length<=16)&&l.all uk
def st(k:Nat):LI->Bool
 |[]=>decide (1<=k)&&decide (k<=8)
 |c::t=>c==47&&(decide (k+(dU 47 t).length<=8)&&(dU 47 t).all kP)
def vp(p:LI):Bool:=st 0 p
variable {c:Int}
def ah8(h:uk c=true):¬c=47:=by
 intro e;subst e
 revert h
 decide
def Gt{l:LI}(h:∀x∈l,uk x=true):(47:Int)∉l:=λhm=>ah8 (h _ hm) rfl
def bd1{nm:LI}(h:∀x∈nm,uk x=true):st k (47::nm)=(kP nm&&st (k+1) []):=by
 rw[st,st,XA (Gt h)];by_cases hk:k+1<=8;{simp[hk]};{simp[hk]}
def aG4{nm t:LI}(h:∀x∈nm,uk x=true):st k (47::(nm++47::t))=(kP nm&&st (k+1) (47::t)):=by
 rw[st,st,Se (Gt h)];have e:k+(nm::dU 47 t).length=k+1+(dU 47 t).length:=by simp;omega
 rw[e];rw[al7];cases kP nm<;>cases decide (k+1+(dU 47 t).length<=8)<;>cases(dU 47 t).all kP<;>rfl
def bd2{nm t:LI}(h:∀x∈nm,uk x=true)(hc:¬c=47)(hb:uk c=false):st k (47::(nm++c::t))=false:=by
 let⟨n,ns,e⟩:=ax1 t hc nm (Gt h)
 rw[st,e];have h0:kP (nm++c::n)=false:=by rw[kP,List.all_append,al7,hb];simp
 rw[al7,h0];simp
def Po{t:LI}(hc:¬c=47):st k (c::t)=false:=by
 rw[st];simp[hc]
theorem DR:∀{a b:LI},aN a->aN b->Lib.bytesOf a=Lib.bytesOf b->a=b
 |[],[],_,_,_=>rfl
 |[],y::b,_,_,h=>by simp[Lib.bytesOf]at h
 |x::a,[],_,_,h=>by simp[Lib.bytesOf]at h
 |x::a,y::b,ha,hb,h=>by
  simp only[Lib.bytesOf,iH,List.cons.injEq]at h;have h1:=ha x al;have h2:=hb y al;have e:x=y:=by have:=tX UInt8.toNat h.1;simp at this;omega
  rw[e,DR (λz hz=>ha z (by simp[hz])) (λz hz=>hb z (by simp[hz])) h.2]
def FM{t:LI}(hB:aN t):Lib.splitK (Lib.bytesOf [47]) 0 (Lib.count (Lib.bytesOf t) (Lib.bytesOf [47])) (Lib.bytesOf t)=(dU 47 t).map Lib.bytesOf/\Lib.count (Lib.bytesOf t) (Lib.bytesOf [47])+1=(dU 47 t).length:=by
 have e47:Lib.bytesOf [47]=[UInt8.ofNat (47:Int).toNat]:=rfl
 let⟨e1,e2⟩:=Yb (UInt8.ofNat (47:Int).toNat) _ (Lib.bytesOf t) (Nat.lt_succ_self _)
 have em:dU (UInt8.ofNat (47:Int).toNat) (Lib.bytesOf t)=(dU 47 t).map Lib.bytesOf:=by refine aw9 (λn:Int=>UInt8.ofNat n.toNat) 47 t λx hx e=>?_;have h1:=hB x hx;have:=tX UInt8.toNat e;simp at this;omega
 rw[e47,e1,em];refine⟨rfl,?_⟩;rw[e2,em,fN]
theorem aP9{t:LI}(hB:aN t):∀n∈dU 47 t,aN n:=by
 induction t with
 |nil=>intro n hn;simp[dU]at hn;subst hn;intro z hz;simp at hz
 |cons x l ih=>
  have ih:=ih λz hz=>hB z (by simp[hz]);intro n hn;rw[dU]at hn;split at hn;{rcases jv.1 hn with rfl|hn;{intro z hz;simp at hz};{exact ih n hn}};{
 cases hc:dU 47 l with
 |nil=>
  rw[hc]at hn;simp at hn;subst hn;intro z hz;simp at hz;subst hz;exact hB _ al
 |cons m ms=>
  rw[hc]at hn ih;rcases jv.1 hn with rfl|hn;{intro z hz;rcases jv.1 hz with rfl|hz;{exact hB _ al};{exact ih m al z hz}};{exact ih n (by simp[hn])}}
def Rd.at{p:OA}{c:Nat}{l:LI}(h:Rd w (.S p n c) l)(hl:0<l.length):∃b o,p=some (Ad b o)/\n=l.length/\∀i,i<l.length->w.cell? (Ad b (o+i))=some (.int .u8 (l.getD i 0)):=by
 obtain⟨p',c',e,h⟩:=h;obtain⟨rfl,rfl,-⟩:=ir e;rcases h with rfl|⟨b,o,e2,hc⟩;{simp at hl};{exact⟨b,o,e2,rfl,hc⟩}
def Qf(c:Int):(97<=c/\c<=122/\uk c=true)\/(122<c/\uk c=false)\/(48<=c/\c<=57/\uk c=true)\/(c=95/\uk c=true)\/(57<c/\c<97/\¬c=95/\uk c=false)\/(c=45/\uk c=true)\/(c<48/\¬c=45/\uk c=false):=by
 unfold uk;by_cases h1:97<=c<;>by_cases h2:c<=122<;>by_cases h3:48<=c<;>by_cases h4:c<=57<;>by_cases h5:c=45<;>by_cases h6:c=95<;>simp[h1,h2,h3,h4,h5,h6]<;>omega
def Hh:Calls Tryz.prog 222 #[.int .u8 c] w λe w'=>e=.returned (.bool (uk c))/\w'=w:=by
 rcases Qf c with⟨h1,h2,hb⟩|⟨h2,hb⟩|⟨h3,h4,hb⟩|⟨rfl,hb⟩|⟨h4,h1,h6,hb⟩|⟨rfl,hb⟩|⟨h3,h5,hb⟩;{rw[hb];go_enter Tryz.func222,Tryz.ntmps222;go_wp2;go_ret;exact⟨rfl,rfl⟩};{rw[hb];have h1:(97:Int)<=c:=af;have h3:(48:Int)<=c:=af;have h2':¬c<=122:=af;have h4:¬c<=57:=af;have h5:¬c=45:=af;have h6:¬c=95:=af;go_enter Tryz.func222,Tryz.ntmps222;go_wp2;go_ret;exact⟨by simp[h5,h6],rfl⟩};{rw[hb];have h1:¬(97:Int)<=c:=af;go_enter Tryz.func222,Tryz.ntmps222;go_wp2;go_ret;exact⟨rfl,rfl⟩};{rw[hb];go_enter Tryz.func222,Tryz.ntmps222;go_wp2;go_ret;exact⟨rfl,rfl⟩};{rw[hb];have h1:¬(97:Int)<=c:=af;have h3:(48:Int)<=c:=af;have h4:¬c<=57:=af;have h5:¬c=45:=af;go_enter Tryz.func222,Tryz.ntmps222;go_wp2;go_ret;exact⟨by simp[h5,h6],rfl⟩};{rw[hb];go_enter Tryz.func222,Tryz.ntmps222;go_wp2;go_ret;exact⟨rfl,rfl⟩};{rw[hb];have h1:¬(97:Int)<=c:=af;have h3':¬(48:Int)<=c:=af;have h6:¬c=95:=af;go_enter Tryz.func222,Tryz.ntmps222;go_wp2;go_ret;exact⟨by simp[h5,h6],rfl⟩}
def Tryz.infoSl:(Tryz.prog.info? 22).map (λi=>(i.zero,i.size,i.bytes))=some (some aq,1,24):=by kernel_rfl
def wD(B:Nat)(w:World)(v:Value)(n:Nat)(vs:List Value):Prop:=w.ownsRow B 22 1 v n vs
def wD.nil(B:Nat)(w:World):wD B w aq 0 []:=gm _ _ _ _
def wD.form(h:wD B w v n vs):∃p c,v=.S p n c:=by
 rcases h.2 with⟨rfl,h0⟩|⟨g,cap,cur,rfl,_⟩;{exact⟨none,0,by rw[h0]⟩};{exact⟨_,_,rfl⟩}
def wD.below(h:wD B w v n vs)(hb:Bw w w'):wD B w' v n vs:=
 Gx h (row:=none) ⟨hb.os,hb.tape,hb.output,hb.size,λk hk _=>hb.block k hk⟩ (by cases hv:v.ownBlock<;>simp)
def ur{Q:Exit->Act->World->Prop}(ng:o.guard=none){s:Operand}(ho:o.op=.call {callee:=.builtin .append,args:=#[s,x],argTypes:=#[124,124]})(g:Nat)(hs:a.eval s=v)(hx:a.eval x=.T g 1 1)(h:wD B w v n vs)(pu:OA)(nu cu:Nat)(hc:w.cell? (Ad g 0)=some (.S pu nu cu))(hl:n<=2097152)(hB:B<=w.heap.size)(hK:∀p' c' w',wD B w' (.S p' (n+1) c') (n+1) (vs++[.S pu nu cu])->w.grownBy w' v.ownBlock->wpList Tryz.prog ops Q rest (a.put o.dst (.S p' (n+1) c')) w'):wpList Tryz.prog ops Q (o::rest) a w:=by
 let⟨i,hi,qx,jd,jJ⟩:=fD Tryz.infoSl
 refine Kk w ng s x 124 ho B 22 i _ 1 24 Tryz.underlying124 hi qx jd jJ rfl bj v _ _ hs h (Ad g 0) 1 1 [.S pu nu cu] hx rfl ?_ ?_ iB af hB ?_;{
 intro j u hu;have e:j=0:=by have:=(aV.1 hu).1;simpa using this
 subst e;simp at hu;subst hu;exact hc};{
 intro u hu;simp at hu;subst hu
 rfl}
 {intro v' w' h1 h2 _;have h3:wD B w' v' (n+1) (vs++[.S pu nu cu]):=h1;obtain⟨p',c',rfl⟩:=h3.form;exact hK p' c' w' h3 h2}
def drop_cons{l:LI}{a:Nat}(h:a<l.length):l.drop a=l.getD a 0::l.drop (a+1):=by
 rw[MH h];simp[List.getD,h]
def aG3{l:LI}{a:Nat}{b:Bool}(h0:st k (l.drop a)=b)(ha:a<l.length)(qF:l.getD a 0=47)(Aj:∀x∈(l.drop (a+1)).take j,uk x=true)(hj:a+1+j<=l.length)(aM7:a+1+j=l.length\/l.getD (a+1+j) 0=47):b=(kP ((l.drop (a+1)).take j)&&st (k+1) (l.drop (a+1+j))):=by
 rw[<-h0,drop_cons ha,qF];have e:l.drop (a+1)=(l.drop (a+1)).take j++l.drop (a+1+j):=by have e:=(Dn j (l.drop (a+1))).symm;rw[Gv]at e;exact e
 by_cases hl:a+1+j=l.length;{
 have e0:l.drop (a+1+j)=[]:=Ku af;rw[e0,BI]at e;rw[e0]
 conv=>lhs;rw[e]
 exact bd1 Aj};{
 rcases aM7 with h|h;{exact absurd h hl};{
 have e1:=drop_cons (l:=l) (a:=a+1+j) af;rw[h]at e1;rw[e1]at e⊢
 conv=>lhs;rw[e]
 exact aG4 Aj}}
def ad1{l:LI}{a:Nat}{b:Bool}(h0:st k (l.drop a)=b)(ha:a<l.length)(qF:l.getD a 0=47)(Aj:∀x∈(l.drop (a+1)).take j,uk x=true)(hj:a+1+j<l.length)(hn:¬l.getD (a+1+j) 0=47)(hb:uk (l.getD (a+1+j) 0)=false):b=false:=by
 rw[<-h0,drop_cons ha,qF];have e:l.drop (a+1)=(l.drop (a+1)).take j++l.drop (a+1+j):=by have e:=(Dn j (l.drop (a+1))).symm;rw[Gv]at e;exact e
 rw[drop_cons hj]at e;rw[e];exact bd2 Aj hn hb
def Wd(l:LI)(a B:Nat)(w:World)(vs:List Value):Prop:=(vs=[]/\a=0)\/∃s j v,vs.getLast?=some v/\a=s+1+j/\l.getD s 0=47/\(∀y∈(l.drop (s+1)).take j,uk y=true)/\Own B w v ((l.drop (s+1)).take j)
def bX4(l:LI)(B:Nat)(w:World)(vs:List Value):Prop:=∃s v,vs.getLast?=some v/\s<l.length/\l.getD s 0=47/\(∀y∈l.drop (s+1),uk y=true)/\Own B w v (l.drop (s+1))
def Wd.fin{l:LI}(h:Wd l n B w vs)(en:l.length=n)(ho:wD B w v k vs)(hk:1<=k):bX4 l B w vs:=by
 rcases h with⟨rfl,-⟩|⟨s,j,v,h1,h2,h3,h4,h5⟩;{have:=ho.1;simp at this;omega};{have e:(l.drop (s+1)).take j=l.drop (s+1):=lD bq;rw[e]at h4 h5;exact⟨s,v,h1,af,h3,h4,h5⟩}
def Wd.app{l nm:LI}{a t:Nat}{w3:World}{r:Value}(ht:t=a+1+j)(qF:l.getD a 0=47)(enm:nm=(l.drop (a+1)).take j)(Aj:∀y∈nm,uk y=true)(ho:Own C w v nm)(hb:Bw w w1)(hg:w1.grownBy w3 r.ownBlock)(hr:∀b,r.ownBlock=some b->b<C)(hC:B<=C):Wd l t B w3 (vs++[v]):=by
 subst enm;refine .inr ⟨a,j,v,al,ht,qF,Aj,Own.mono ((Own.below ho hb).td (Kept.Gk (vs:=[r]) hg al) (λu hu b hb e=>?_)) hC⟩;simp at hu;subst hu;have:=hr b e;have:=(ho.lt b hb).1;omega
def NmE(l:LI)(C:Nat)(B:Bool)(e:Ending)(w':World):Prop:=B=true->∃p k c vs,e=.returned (.tuple #[.S p k c,.bool true])/\wD C w' (.S p k c) k vs/\1<=k/\bX4 l C w' vs
variable {c:Nat}
def Ac{p:OA}{l:LI}(en:Le l n)(h:Rd w (.S p n c) l)(hb:aN l)(hl:Mg n){B:Bool}(eB:Hid (vp l=B)):Calls prog 183 #[.S p n c] w λe w'=>NmE l w.heap.size B e w'/\(∃v,e=.returned (.tuple #[v,.bool B]))/\Bw w w':=by
 have HR:=ag h;have HB:=ag hb;clear h hb
 go_in
 go_wp2
 go_loopw[4,5](λov i wr=>∃(a k:Nat)(pv:OA)(cv:Nat)(vs:List Value),a<=n/\i=.I a/\ov=.S pv k cv/\k<=a/\Hid (st k (l.drop a)=B)/\wD w.heap.size wr (.S pv k cv) k vs/\Hid (Wd l a w.heap.size wr vs)/\Bw w wr) (λ_ i _=>n-(intOf i).toNat)
 exact⟨0,0,none,0,[],gr _,rfl,rfl,iD _,(by show _=_;exact eB),wD.nil _ _,ag (.inl ⟨rfl,rfl⟩),cQ _ _⟩;{
 obtain⟨a,k,pv,cv,vs,ha,rfl,rfl,hka,db,ho,hLN,aM⟩:=hrel;have ZM:=aM.size;by_cases bf:a<n;{
 have bL:=aU a n;obtain⟨b,o,rfl,-,hc⟩:=HR.at (by rw[ae en];omega);have cT:∀(i:Nat)(w':World),i<n->Bw w w'->w'.cell? (Ad b (o+i))=some (.int .u8 (l.getD i 0)):=λi w' hi bN=>(bN.cell (p:=(Ad b (o+i))) (nZ w _ (hc i (ae en▸hi)))).trans (hc i (ae en▸hi));have HC:=ag cT;have hca:=cT a wr bf aM;clear hc cT
 let⟨x,ex⟩:=aL (l.getD a 0)
 rw[ex]at hca;have EX:=ag ex;clear ex;by_cases qF:x=47;{
 subst qF;go_wp2_with fail
 go_loopw[5,6](λi nv w2=>∃(t j:Nat)(pn:OA)(cn:Nat)(nm:LI),Hid (t=a+1+j)/\t<=n/\a<t/\j<t/\i=.I t/\nv=.S pn j cn/\Hid (nm=(l.drop (a+1)).take j)/\Le nm j/\Hid (∀y∈nm,uk y=true)/\Own wr.heap.size w2 (.S pn j cn) nm/\Bw wr w2) (λi _ _=>n-(intOf i).toNat)
 exact⟨a+1,0,none,0,[],rfl,af,af,af,by go_num,rfl,rfl,rfl,(by intro y hy;simp at hy),gm _ _ _ _,cQ _ _⟩;{
 obtain⟨t,j,pn,cn,nm,ht,htn,iM,hjt,rfl,rfl,enm,elj,Aj,hon,aK⟩:=hrel;have jJ:=aK.size;have bb2:=aj aM aK;have qy:=ho.below aK;have aM7:(t=n\/l.getD t 0=47)->B=(kP nm&&st (k+1) (l.drop t)):=λhe=>by have:=aG3 (j:=j) (ae db) (ae en▸bf) (ae EX) (ae enm▸ae Aj) (by rw[ae en,<-ae ht];exact htn) (by rw[ae en,<-ae ht];exact he);rw[<-ae enm,<-ae ht]at this;exact this
 have iI:(1<=j/\j<=16->kP nm=true)/\(¬(1<=j/\j<=16)->kP nm=false):=by have ha:nm.all uk=true:=jw.2 Aj;rw[kP,ae elj,ha];constructor;{rintro⟨h1,h2⟩;simp[h1,h2]};{intro h;simp;omega}
 have HE:=ag aM7;have HK:=ag iI;clear aM7 iI;by_cases jq:t<n;{
 have cB8:=aU t n;have hct:=ae HC t wr jq bb2
 let⟨z,ez⟩:=aL (l.getD t 0)
 rw[ez]at hct;have EZ:=ag ez;clear ez;by_cases aL7:z=47;{
 subst aL7;have he:=ae HE (.inr EZ);by_cases hj1:1<=j;{
 have bi8:¬(j:Int)<1:=af;by_cases bi7:j<=16;{have ar1:¬(16:Int)<(j:Int):=af;rw[HK.1 ⟨hj1,bi7⟩,pQ]at he;have HE2:=ag he.symm;clear he hca;go_wp2_with(at_builtin;refine ur rfl rfl (v:=.S pv k cv) wr.heap.size rfl rfl (qy.below (aA.alloc ay _)) pn j cn al af bq ?_);intro p' c' w3 ho3 An;have b3:Bw w w3:=(bb2.alloc bb2.size _).grown An bq (λk hk=>(Gy qy k hk).1);have HL3:=ag (Wd.app (B:=w.heap.size) (vs:=vs) ht EX enm Aj hon (aA.alloc ay _) An (λb hb=>(Gy ho b hb).2) aM.size);clear An;go_wp2;go_roundw;exact⟨t,k+1,p',c',_,htn,by go_num,rfl,af,HE2,ho3,HL3,b3⟩;exact cg};{
 have ar1:=mW 16 j;rw[HK.2 af,WY]at he;subst he;go_wp2
 go_ret2
 exact⟨(λh=>by cases h),⟨_,rfl⟩,bb2⟩}};{
 have bi8:(j:Int)<1:=af;rw[HK.2 af,WY]at he;subst he;go_wp2
 go_ret2
 exact⟨(λh=>by cases h),⟨_,rfl⟩,bb2⟩}};{
 have Ol:(z==47)=false:=by simp[aL7]
 have dN4:(z != 47)=true:=by simp[aL7]
 go_wp2_with fail;refine(Hh).mono ?_;rintro e w3⟨rfl,rfl⟩;by_cases hzb:uk z=true;{
 rw[hzb];have bR5:Hid (nm++[z]=(l.drop (a+1)).take (j+1)):=by
  show _=_;have e1:(l.drop (a+1))[j]?=some z:=by rw[MG,<-ae ht,<-ae EZ];simp[List.getD,ae en,jq]
  rw[od,e1,ae enm]
  rfl
 have bm9:Hid ((nm++[z]).length=j+1):=by show _=_;rw[gU,ae elj];rfl
 have bI4:Hid (∀y∈nm++[z],uk y=true):=by intro y hy;rcases gu.1 hy with h|h;{exact Aj y h};{simp at h;rw[h];exact hzb}
 have ht2:Hid (t+1=a+1+(j+1)):=by show _=_;have:=ae ht;omega
 let⟨nm2,bm6⟩:=aB (nm++[z])
 rw[<-bm6]at bR5 bm9 bI4;have wo:=ag bm6;clear bm6 qy;go_wp2_with(at_builtin;refine fe rfl rfl (.S pn j cn) wo w3.heap.size rfl rfl (Own.below hon (aA.alloc ay _)) al (by rw[ae elj];omega) bq ?_);intro p' c' w4 ho4 uX;have b4:=(aK.alloc aK.size _).grown uX bq (λk hk=>(hon.lt k hk).1);rw[ae bm9]at ho4⊢;clear uX;go_wp2;go_roundw;exact⟨t+1,j+1,p',c',nm2,ht2,af,af,af,by go_num,rfl,bR5,bm9,bI4,ho4,b4⟩;exact cg};{
 have hzf:uk z=false:=by simpa using hzb
 rw[hzf];have eF:B=false:=by have e:=ae ht;exact ad1 (j:=j) (ae db) (ae en▸bf) (ae EX) (ae enm▸ae Aj) (by rw[ae en,<-e];exact jq) (by rw[<-e,ae EZ];exact aL7) (by rw[<-e,ae EZ];exact hzf)
 subst eF;go_wp2
 go_ret2
 exact⟨(λh=>by cases h),⟨_,rfl⟩,bb2⟩}}};{
 have cB8:=dB t n;have he:=ae HE (.inl af);by_cases hj1:1<=j;{
 have bi8:¬(j:Int)<1:=af;by_cases bi7:j<=16;{have ar1:¬(16:Int)<(j:Int):=af;rw[HK.1 ⟨hj1,bi7⟩,pQ]at he;have HE2:=ag he.symm;clear he hca;go_wp2_with(at_builtin;refine ur rfl rfl (v:=.S pv k cv) wr.heap.size rfl rfl (qy.below (aA.alloc ay _)) pn j cn al af bq ?_);intro p' c' w3 ho3 An;have b3:Bw w w3:=(bb2.alloc bb2.size _).grown An bq (λk hk=>(Gy qy k hk).1);have HL3:=ag (Wd.app (B:=w.heap.size) (vs:=vs) ht EX enm Aj hon (aA.alloc ay _) An (λb hb=>(Gy ho b hb).2) aM.size);clear An;go_wp2;go_roundw;exact⟨t,k+1,p',c',_,htn,by go_num,rfl,af,HE2,ho3,HL3,b3⟩;exact cg};{
 have ar1:=mW 16 j;rw[HK.2 af,WY]at he;subst he;go_wp2
 go_ret2
 exact⟨(λh=>by cases h),⟨_,rfl⟩,bb2⟩}};{
 have bi8:(j:Int)<1:=af;rw[HK.2 af,WY]at he;subst he;go_wp2
 go_ret2
 exact⟨(λh=>by cases h),⟨_,rfl⟩,bb2⟩}}}};{
 have hx:(x==47)=false:=by simp[qF]
 have YI:(x != 47)=true:=by simp[qF]
 have eF:B=false:=by rw[<-ae db,drop_cons (ae en▸bf),ae EX];exact Po qF
 subst eF;go_wp2
 go_ret2
 exact⟨(λh=>by cases h),⟨_,rfl⟩,aM⟩}};{
 have e:a=n:=af;have bL:=dB a n;have Tt:=ae db;rw[Ku (by rw[ae en];omega),st]at Tt;by_cases h1:1<=k;{
 by_cases h8:k<=8;{
 have h1':=dC 1 k;have h8':(k:Int)<=8:=af;have eT:B=true:=by rw[<-Tt];simp[h1,h8]
 subst eT;subst e;go_wp2
 go_ret2
 exact⟨λ_=>⟨pv,k,cv,vs,rfl,ho,h1,hLN.fin en ho h1⟩,⟨_,rfl⟩,aM⟩};{
 have h1':=dC 1 k;have h8':¬(k:Int)<=8:=af;have eT:B=false:=by rw[<-Tt];simp[h8]
 subst eT;go_wp2
 go_ret2
 exact⟨(λh=>by cases h),⟨_,rfl⟩,aM⟩}};{
 have h1':¬(1:Int)<=(k:Int):=af;have eT:B=false:=by rw[<-Tt];simp[h1]
 subst eT;go_wp2
 go_ret2
 exact⟨(λh=>by cases h),⟨_,rfl⟩,aM⟩}}}
def Q7{p:OA}{l:LI}(en:Le l n)(h:Rd w (.S p n c) l)(hb:aN l)(hl:Mg n){B:Bool}(eB:Hid (vp l=B)):Cp 183 #[.S p n c] w λe w'=>(∃v,e=.returned (.tuple #[v,.bool B]))/\Bw w w':=(Ac en h hb hl eB).mono λ_ _ h=>h.2
def Btw(lo hi:Nat)(v:Value):Prop:=∀b,v.ownBlock=some b->lo<=b/\b<hi
def Own.btw{l:LI}(h:Own B w v l):Btw B w.heap.size v:=h.lt
abbrev Ty(w:World)(b:Nat)(v0 v1:Value):Prop:=w.cell? (Ad b 0)=some v0/\w.cell? (Ad b 1)=some v1
def Ty.below(h:Ty w b v0 v1)(hb:Bw w w'):Ty w' b v0 v1:=⟨ah h.1 hb,ah h.2 hb⟩
def Own.cap{p:OA}{l:LI}(h:Own B w (.S p n c) l):n<=c:=by
 rcases h.2 with⟨e,h0⟩|⟨g,cap,cur,e,_,_,hc,_⟩;{simp only[pW]at e;omega};{simp only[pW]at e;omega}
def Own.qm{p:OA}{l:LI}(h:Own B w (.S p n c) l):c<=maxLen:=by
 rcases h.2 with⟨e,h0⟩|⟨g,cap,cur,e,_,_,hc,hm,_⟩;{simp only[pW]at e;omega};{simp only[pW]at e;omega}
def vL{p q:OA}{l:LI}(en:Le l n)(h1:Rd w (.S p n c) l)(h2:Rd w (.S q n d) l)(hl:n<=2097152):Calls Tryz.prog 119 #[.S p n c,.S q n d] w (Rb (.bool true) w):=by
 have e:=ae en;subst e;refine(RS h1 h2 hl hl).mono ?_;rintro e w'⟨rfl,hb⟩;exact⟨al,hb⟩
def im{Q:Exit->Act->World->Prop}(ng:o.guard=none) (ho:o.op=.call {callee:=.value (.func f),args:=#[x1],argTypes:=Lw})(h1:a.eval x1=v1)(ua:∀vs,(callFunc f vs).run P w=.ok (.enter f vs) w)(hc:Calls P f #[v1] w R)(hR:∀e w',R e w'->∃v,e=.returned v/\K (a.put o.dst v) w'):if Region.wanted o (yielded ops a.tmps)=true then Oper.wp P o a w K Q else E:=by
 have hw:Region.wanted o (yielded ops a.tmps)=true:=by simp[Region.wanted,ng]
 rw[bO hw];have dK:(execOp a.eval o).run P w=.ok (.enter f #[v1]) w:=by subst h1;unfold execOp;simp[go_sem,ho,resolve,invoke,ua]
 show o.upon P a K Q _;rw[dK,Ki];refine hc.mono ?_;intro e w' h;obtain⟨v,rfl,hk⟩:=hR e w' h;exact hk
def lT{Q:Exit->Act->World->Prop}(ng:o.guard=none) (ho:o.op=.call {callee:=.value (.func f),args:=#[x1,x2],argTypes:=Lw})(h1:a.eval x1=v1)(h2:a.eval x2=v2)(ua:∀vs,(callFunc f vs).run P w=.ok (.enter f vs) w)(hc:Calls P f #[v1,v2] w R)(hR:∀e w',R e w'->∃v,e=.returned v/\K (a.put o.dst v) w'):if Region.wanted o (yielded ops a.tmps)=true then Oper.wp P o a w K Q else E:=by
 have hw:Region.wanted o (yielded ops a.tmps)=true:=by simp[Region.wanted,ng]
 rw[bO hw];have dK:(execOp a.eval o).run P w=.ok (.enter f #[v1,v2]) w:=by subst h1 h2;unfold execOp;simp[go_sem,ho,resolve,invoke,ua]
 show o.upon P a K Q _;rw[dK,Ki];refine hc.mono ?_;intro e w' h;obtain⟨v,rfl,hk⟩:=hR e w' h;exact hk
def iw{ops:Array Oper}{Q:Exit->Act->World->Prop}{E:Prop}{Lw:Array TypeId}{x1:Operand}(hc:Calls P f #[v1] w R)(hR:∀e w',R e w'->∃v,e=.returned v/\K (a.put o.dst v) w')(ng:o.guard=none:=by rfl)(ho:o.op=.call {callee:=.value (.func f),args:=#[x1],argTypes:=Lw}:=by rfl)(h1:a.eval x1=v1:=by rfl)(ua:∀vs,(callFunc f vs).run P w=.ok (.enter f vs) w:=by(intro _;kernel_rfl)):if Region.wanted o (yielded ops a.tmps)=true then Oper.wp P o a w K Q else E:=im ng ho h1 ua hc hR
def vU{ops:Array Oper}{Q:Exit->Act->World->Prop}{E:Prop}{Lw:Array TypeId}{x1 x2:Operand}(hc:Calls P f #[v1,v2] w R)(hR:∀e w',R e w'->∃v,e=.returned v/\K (a.put o.dst v) w')(ng:o.guard=none:=by rfl)(ho:o.op=.call {callee:=.value (.func f),args:=#[x1,x2],argTypes:=Lw}:=by rfl)(h1:a.eval x1=v1:=by rfl)(h2:a.eval x2=v2:=by rfl)(ua:∀vs,(callFunc f vs).run P w=.ok (.enter f vs) w:=by(intro _;kernel_rfl)):if Region.wanted o (yielded ops a.tmps)=true then Oper.wp P o a w K Q else E:=lT ng ho h1 h2 ua hc hR
abbrev zl(k s:Int)(P:Value)(f:Int)(V:Value)(e g:Int):Value:=.agg #[.I k,.U s,P,.I f,V,.U e,.U g]
abbrev sy(w:World)(b:Nat)(v0 v1 v2 v3 v4 v5 v6:Value):Prop:=w.cell? (Ad b 0)=some v0/\w.cell? (Ad b 1)=some v1/\w.cell? (Ad b 2)=some v2/\w.cell? (Ad b 3)=some v3/\w.cell? (Ad b 4)=some v4/\w.cell? (Ad b 5)=some v5/\w.cell? (Ad b 6)=some v6
def sy.below{v3 v4 v5 v6:Value}(h:sy w b v0 v1 v2 v3 v4 v5 v6)(hb:Bw w w'):sy w' b v0 v1 v2 v3 v4 v5 v6:=
 ⟨ah h.1 hb,ah h.2.1 hb,ah h.2.2.1 hb,ah h.2.2.2.1 hb,ah h.2.2.2.2.1 hb,ah h.2.2.2.2.2.1 hb,ah h.2.2.2.2.2.2 hb⟩
def cI(h:∀o,w.frozen? (Ad b o)=false)(hl:b<w.heap.size)(hb:Bw w w'):∀o,w'.frozen? (Ad b o)=false:=λo=>(hb.frozen (p:=(Ad b o)) hl).trans (h o)
end Go.Proofs.YtnhnbpkfpaondaaGreatDoor
