import Derived.KernelRfl
import Derived.IntWalk
import Derived.Test.YtjjnidignljppaaGreatDoorProg
import Derived.WalkKit
import Derived.Below
import Derived.Deep.RegionHeld3
import Derived.WalkSpells
import Derived.WalkLawsBesides
import Derived.BigQuiet
import Derived.ProofKit
import Derived.OpenShut
import Derived.Deep.QuietTactic
import Derived.Deep.Fields23
import Derived.Deep.Strs
namespace Go
abbrev Value.U(x:Int):Value:=.int .u64 x
abbrev Value.I(x:Int):Value:=.int .i64 x
abbrev Lit.U(x:Int):Lit:=.int .u64 x
abbrev Lit.I(x:Int):Lit:=.int .i64 x
abbrev Value.S(p:Option Addr)(n c:Nat):Value:=.slice p n c
abbrev Value.T(g n c:Nat):Value:=.slice (some ⟨g,0,none⟩) n c
end Go
namespace Go.Proofs.YtjjnidignljppaaGreatDoor
set_option maxHeartbeats 400000
set_option linter.all false
abbrev Bw(w v:World):Prop:=Go.RowKit.Below w.heap.size w v
abbrev OA:Type:=Option Addr
abbrev LI:Type:=List Int
abbrev Cp(f:FuncId)(a:Array Value)(w:World)(R:Ending->World->Prop):Prop:=Calls Tryz.prog f a w R
open Go.RowKit
def ah{a b:Prop}(x:a)(y:b):a/\b:=⟨x,y⟩
def ay{B:Nat}{w:World}:Below B w w:=Below.refl B w
def aj{W w1 w2:World}(h:Below W.heap.size W w1)(k:Below w1.heap.size w1 w2):Below W.heap.size W w2:=h.trans (k.mono h.size)
def ao{n:Nat}:n<=n:=Nat.le_refl n
def aO{α:Type}{l:List α}{i:Nat}(h:i<l.length):l[i]?=some l[i]:=List.getElem?_eq_getElem h
def aT{α:Type}{i:Nat}{a:α}{l:List α}:l[i]?=some a↔∃h:i<l.length,l[i]=a:=List.getElem?_eq_some_iff
def aS{α:Type}{l:List α}{i:Nat}{a:α}(h:l[i]?=some a):a∈l:=List.mem_of_getElem? h
def cs7{α:Type}{l:List α}{i j:Nat}(h:i≠j){a:α}:(l.set i a)[j]?=l[j]?:=List.getElem?_set_ne h
def fy(w:World)(a:Addr)(u:Value)(k:Nat)(h:k≠a.block):(w.setCell a u).heap[k]?=w.heap[k]?:=RowKit.Below.heap_setCell w a u k h
def az6{Q:Exit->Act->World->Prop}{a:Act}{w:World}(h:Q Exit.normal a w):NoPanic Q Exit.normal a w:=NoPanic.normal h
def au{α:Sort _}(x:α):∃y,y=x:=⟨x,rfl⟩
def aI{α:Sort _}(x:α):∃y,x=y:=⟨x,rfl⟩
def AV{c:Prop}{α:Sort _}[Decidable c]{a b:α}(h:¬c:=by decide):(if c then a else b)=b:=if_neg h
def dE4{p q:Prop}(h:p)(n:¬p:=by decide):q:=absurd h n
def bB3{P:Program}{md:Region.Mode}{ops:Array Oper}{Q:Exit->Act->World->Prop}{S:World->Prop}{l:Array Bool}{a:Act}{w:World}{n:Nat}(h:Q .normal a w)(hr:Region.ready md ops l=[]:=by kernel_rfl):wpAnyH P md ops Q S n l a w:=wpAnyH_done hr h n
def di{P:Program}{md:Region.Mode}{ops:Array Oper}{Q:Exit->Act->World->Prop}{S:World->Prop}{l:Array Bool}{a:Act}{w:World}{n:Nat}(h:Q .normal a w)(hr:Region.ready md ops l=[]:=by kernel_rfl):wpAnyH P md ops (NoPanic Q) S n l a w:=wpAnyH_done hr (NoPanic.normal h) n
def dy{P:Program}{ops:Array Oper}{Q:Exit->Act->World->Prop}{id:Nat}{a:Act}{w:World}(S:World->Prop)(hS:S w.drew)(h:S w.drew->wpAnyH P .any ops (NoPanic Q) S ops.size (Array.replicate ops.size false) a w.drew)(hm:P.follows .mixedOrders=true:=by kernel_rfl):(Code.region id ops true).wp P Q a w:=wp_region_noPanic (wp_region_held_drew hm hS h)
def dO{w W:World}{o:Obj}(h:W=w.alloc o):Below w.heap.size w W:=by rw[h];exact(Below.refl _ _).alloc (Nat.le_refl _) _
def mi{w W:World}(h:W=w.drew):Below w.heap.size w W:=by rw[h];exact(Below.refl _ _).drew
def aP(a b:Nat)(h:(a:Int)<(b:Int):=by omega):(a:Int)<(b:Int):=h
def iE(a b:Nat)(h:(a:Int)<=(b:Int):=by omega):(a:Int)<=(b:Int):=h
def du(a b:Nat)(h:¬(a:Int)<(b:Int):=by omega):¬(a:Int)<(b:Int):=h
def pW(a:Int)(b:Nat)(h:a<(b:Int):=by omega):a<(b:Int):=h
def dw(a:Int)(b:Nat)(h:a<=(b:Int):=by omega):a<=(b:Int):=h
def dZ(a:Nat)(h: -9223372036854775808<=(a:Int)/\(a:Int)<=9223372036854775807:=by omega):IntKind.i64.wrap (a:Int)=(a:Int):=IntWalk.i64_in _ h
def xr{a b c d:Nat}(h:some (⟨a,b,none⟩:Addr)=some ⟨c,d,none⟩):a=c/\b=d:=by simpa using h
def jD{p:Prop}(h:p:=by(intro a ha;first|(simp at ha;done)|(simp only[List.mem_append,List.mem_cons,List.not_mem_nil,List.nil_append,or_false]at ha⊢;grind))):p:=h
def bj{p:Prop}(h:p:=by(simp;omega)):p:=h
def ic{p:Prop}(h:p:=by(unfold maxLen;omega)):p:=h
def bq{p:Prop}(h:p:=by(show _=_;rfl)):p:=h
def ae{p:Prop}(h:p:=by(omega)):p:=h
def ai{p:Prop}(h:p:=by(simp)):p:=h
def aU{p:Prop}(h:p:=by(decide)):p:=h
def bg{p:Prop}(h:p:=by(kernel_rfl)):p:=h
def aH{p:Prop}(h:p:=by(rfl)):p:=h
def bG{p:Prop}(h:p:=by(simp[intOf];omega)):p:=h
def qR:(∀l:List Value,l.toArray.size=l.length)/\(∀(a:Value)l,(a::l).length=l.length+1)/\(([]:List Value).length=0)/\(∀n(a:Value),Array.replicate (n+1) a=(Array.replicate n a).push a)/\(∀a:Value,Array.replicate 0 a=#[])/\(∀(l:List Value)a,l.toArray.push a=(l++[a]).toArray)/\(∀l k:List Value,l.toArray++k.toArray=(l++k).toArray)/\(∀l:List Value,[]++l=l)/\(∀(a:Value)l k,(a::l)++k=a::(l++k)):=⟨fun _=>by simp,fun _ _=>by simp,by simp,fun _ _=>Array.replicate_succ,fun _=>Array.replicate_zero,fun _ _=>by simp,fun _ _=>by simp,fun _=>by simp,fun _ _ _=>by simp⟩
def bH:=@if_neg
def bN:=@if_pos
def cW:=@Go.RowKit.Below.refl
def fL:=@Go.bodyPost_ret
def gq:=@Nat.zero_le
def jW:=@trivial
def ig:=@List.length_append
def iJ:=@List.mem_map
def jS:=@Nat.le_refl
def jA:=@List.mem_cons
def dU:=@Go.Value.slice.injEq
def fe:=@List.length_map
def fu:=@Bool.and_eq_true
def fO:=@Prod.mk.injEq
def fW:=@Nat.le_trans
def gj:=@List.getD_eq_getElem?_getD
def wF:=@congrArg
def gR:=@List.mem_append
def gv:=@List.mem_iff_getElem?
def iU:=@List.length_cons
def iH:=@List.map_cons
def iT:=@List.all_eq_true
def jg:=@decide_eq_true_eq
def kV:=@Nat.lt_of_lt_of_le
def jU:=@Option.some.injEq
def kq:=@List.take_of_length_le
def jT:=@List.getElem?_zipWith
def ko:=@List.map_append
def lu:=@Nat.zero_add
def kU:=@List.getElem?_map
def ni:=@Go.IntWalk.i64_in
def kT:=@List.getElem?_append_left
def ng:=@List.take_add_one
def mF:=@List.take_length
def pK:=@List.length_take
def mE:=@List.getElem?_append_right
def mB:=@List.length_set
def pI:=@Go.World.block_lt_of_cell?
def ox:=@Bool.true_and
def oq:=@decide_eq_true_iff
def yx:=@List.mem_singleton
def pG:=@if_true
def qI:=@Option.getD_some
def qH:=@List.getElem?_set
def rJ:=@List.take_zero
def Aw:=@List.length_drop
def tp:=@List.length_eq_zero_iff
def tj:=@List.append_assoc
def wD:=@Go.results_none
def ti:=@List.flatten_cons
def tg:=@decide_eq_false
def tf:=@List.drop_zero
def uk:=@Int.toNat_natCast
def uj:=@List.map_map
def yw:=@Bool.and_eq_false_iff
def vg:=@List.nodup_cons
def Av:=@Go.RowKit.Below.setCell
def wC:=@List.getElem?_toArray
def yv:=@List.mem_range
def yt:=@List.drop_succ_cons
def wu:=@if_false
def wo:=@List.getElem?_of_mem
def we:=@Array.getElem?_modify
def Au:=@Nat.sub_self
def yr:=@List.length_nil
def Hl:=@List.getElem_mem
def yk:=@List.nodup_append
def yj:=@List.take_succ_cons
def yi:=@Option.bind_some
def CG:=@decide_eq_false_iff_not
def Ky:=@Go.RowKit.ownsRow_setCell_below
def As:=@List.getElem?_cons_succ
def Ar:=@List.getElem?_cons_zero
def Aq:=@decide_eq_true
def Ap:=@List.pairwise_map
def CF:=@Go.World.frozen?_setCell
def Kw:=@List.cons_append
def CE:=@List.append_nil
def CD:=@List.mem_append_right
def Cz:=@Option.some.inj
def EG:=@Bool.eq_false_iff
def Cy:=@Option.map_some
def Cx:=@List.map_nil
def EF:=@Array.getElem?_eq_some_iff
def Kv:=@List.nil_append
def ND:=@List.drop_drop
def Ez:=@List.pairwise_iff_getElem
def Ey:=@not_or
def Ku:=@List.eq_nil_of_length_eq_zero
def Hk:=@List.mem_flatten
def Hj:=@Bool.false_eq_true
def Rm:=@List.drop_eq_getElem_cons
def Kt:=@List.getElem?_drop
def Ks:=@Go.RowKit.Below.heap_alloc
def NC:=@beq_iff_eq
def Kq:=@List.foldl_cons
def Rl:=@true_and
def Ko:=@Nat.succ_mul
def yC:=@Nat.add_sub_cancel
def yB:=@List.pairwise_cons
def yA:=@Nat.lt_trichotomy
def yz:=@List.map_congr_left
def yy:=@Decidable.em
def BH:=@List.take_append_drop
def BG:=@List.getElem_of_mem
def Bz:=@List.mem_append_left
def By:=@Nat.mul_one
def Bx:=@Go.World.cell?_setCell_same
def Bv:=@or_false
def Bu:=@List.findIdx?_eq_some_iff_getElem
def Bt:=@Option.map_eq_some_iff
def Bp:=@Int.toNat_of_nonneg
def Ff:=@List.set_cons_zero
def Fe:=@Nat.add_zero
def Un:=@List.mem_of_mem_drop
def Jh:=@List.mem_of_mem_take
def Fc:=@List.getElem?_take
def Jg:=@Bool.eq_iff_iff
def Fb:=@Go.World.cell?_setCell_other
def Fa:=@Go.IntWalk.wrap64_in
def EY:=@List.ext_getElem?
def EW:=@List.length_take_le
def EU:=@List.length_eraseIdx
def EP:=@List.eraseIdx_sublist
def EO:=@List.mem_of_mem_eraseIdx
def EH:=@Go.RowKit.Below.drew
def Jf:=@List.flatten_append
def Oc:=@List.drop_eq_nil_of_le
def Je:=@Nat.add_assoc
def Ob:=@List.any_eq_true
def Jd:=@Bool.false_or
def Jc:=@Bool.or_eq_true
def I9:=@List.not_mem_nil
def I8:=@List.mem_filter
def I5:=@List.getElem?_zip_eq_some
def I0:=@List.set_set
def IZ:=@List.sum_cons
def Oa:=@List.take_succ_eq_append_getElem
def N8:=@List.set_append_right
def NU:=@List.all_eq_false
def bl8:=@Nat.pow_succ
def Zj:=@Nat.mul_comm
def Um:=@Nat.mul_le_mul_right
def Ul:=@List.foldl_append
def NS:=@List.mem_map_of_mem
def NR:=@dif_pos
def NQ:=@Nat.xor_lt_two_pow
def NN:=@List.find?_some
def NL:=@List.find?_eq_none
def NJ:=@List.mem_or_eq_of_mem_set
def NI:=@List.length_filter_le
def NG:=@List.length_zip
def NF:=@of_decide_eq_true
def Uk:=@List.map_set
def Uj:=@Bool.false_and
def Ui:=@decide_false
def Uh:=@beq_eq_false_iff_ne
def Zi:=@Array.toList_inj
def Ug:=@Array.getElem?_toList
def aE0:=@Nat.le_of_lt
def Uf:=@List.nodup_nil
def Ue:=@Go.RowKit.Below.heap_setCell
def Ud:=@List.mem_of_find?_eq_some
def Uc:=@List.map_id
def Ub:=@List.length_pos_iff
def Ua:=@List.filter_append
def T9:=@List.findIdx?_eq_none_iff
def TW:=@Nat.le_succ
def TV:=@Int.eq_ofNat_of_zero_le
def Zh:=@Int.pow_succ
def Zg:=@Nat.add_comm
def Zf:=@List.all_cons
def Ze:=@List.flatten_nil
def bl7:=@List.range_succ
def aD9:=@Go.Value.bool.injEq
def Zd:=@Bool.not_not
def Zc:=@Bool.not_false
def Zb:=@UInt8.lt_irrefl
def Za:=@UInt8.not_lt
def Y9:=@Go.Value.int.injEq
def Y8:=@List.getElem?_set_self
def Y7:=@List.nodup_range
def Y6:=@List.getElem_map
def Y5:=@List.zipWith_append
def Y4:=@List.perm_middle
def YY:=@Int.ofNat_tdiv
def YX:=@Option.isSome_none
def YW:=@not_true_eq_false
def YV:=@List.set_cons_succ
def YU:=@Nat.min_eq_left
def YT:=@List.drop_of_length_le
def YS:=@List.getElem?_eraseIdx
def YR:=@List.eraseIdx_of_length_le
def YQ:=@List.getLast?_eq_getElem?
def YP:=@Nat.mul_succ
def YO:=@Array.getElem?_eq_none
def aD8:=@Nat.pow_le_pow_right
def YN:=@List.prefix_append_right_inj
def aD7:=@List.getElem?_take_of_lt
def aD6:=@List.pairwise_mergeSort
def aD5:=@Decidable.byContradiction
def aD4:=@List.zipWith_cons_cons
def aD3:=@Classical.byContradiction
def aD2:=@List.mem_eraseIdx_iff_getElem?
def aD1:=@List.eraseIdx_append_of_length_le
def aD0:=@List.length_eq_one_iff
def aC9:=@Array.getD_eq_getD_getElem?
def aC8:=@List.length_pos_of_mem
def aC7:=@Int.ediv_ediv_of_nonneg
def aC6:=@List.setIfInBounds_toArray
open Go.RowKit
def xa{α:Type}{l:List α}{i:Nat}{a:α}:l.toArray.setIfInBounds i a=(l.set i a).toArray:=List.setIfInBounds_toArray _ _ _
def xb{α:Type}{x:α}{xs:List α}{a:α}:(x::xs).set 0 a=a::xs:=List.set_cons_zero
def xc{α:Type}{x:α}{xs:List α}{i:Nat}{a:α}:(x::xs).set (i+1) a=x::xs.set i a:=List.set_cons_succ
def tk{P:Program}{md:Region.Mode}{ops:Array Oper}{Q:Exit->Act->World->Prop}{S:World->Prop}(i:Nat){oi:Oper}{v:Value}{fuel:Nat}{listed:Array Bool}{a:Act}{w:World}(hS:S w)(hi:ops[i]?=some oi:=by(simp only[List.getElem?_toArray,List.getElem?_cons_succ,List.getElem?_cons_zero];rfl))(hs:Region.noSelect ops=true:=by kernel_rfl)(hf:Region.free md ops listed i=true:=by kernel_rfl)(hr:(Region.ready md ops listed).contains i=true:=by kernel_rfl)(hQ:∀c a w,Q (.panic c) (a.put oi.dst v) w->Q (.panic c) a w:=by exact fun _ _ _ h=>h)(hg:Region.wanted oi (yielded ops a.tmps)=true:=by rfl)(hy:∀w,S w->(execOp a.eval oi).run P w=.ok (.value v) w:=by(intro w' vJ;(try dsimp only at vJ);go_simp;try with_reducible rfl))(h:wpAnyH P md ops Q S fuel (listed.setIfInBounds i true) (a.put oi.dst v) w):wpAnyH P md ops Q S (fuel+1) listed a w:=
 wpAnyH_take hi hs hf hr hQ (Or.inl ⟨hg,hy⟩) hS h
def sk{P:Program}{md:Region.Mode}{ops:Array Oper}{Q:Exit->Act->World->Prop}{S:World->Prop}(i:Nat){oi:Oper}{fuel:Nat}{listed:Array Bool}{a:Act}{w:World}(hS:S w)(hi:ops[i]?=some oi:=by(simp only[List.getElem?_toArray,List.getElem?_cons_succ,List.getElem?_cons_zero];rfl))(hs:Region.noSelect ops=true:=by kernel_rfl)(hf:Region.free md ops listed i=true:=by kernel_rfl)(hr:(Region.ready md ops listed).contains i=true:=by kernel_rfl)(hQ:∀c a w,Q (.panic c) (a.put oi.dst undef) w->Q (.panic c) a w:=by exact fun _ _ _ h=>h)(hg:Region.wanted oi (yielded ops a.tmps)=false:=by rfl)(h:wpAnyH P md ops Q S fuel (listed.setIfInBounds i true) (a.put oi.dst undef) w):wpAnyH P md ops Q S (fuel+1) listed a w:=
 wpAnyH_take hi hs hf hr hQ (Or.inr ⟨hg,rfl⟩) hS h
def Tk(P:Program)(md:Region.Mode)(ops:Array Oper)(Q:Exit->Act->World->Prop)(S:World->Prop)(listed:Array Bool)(i:Nat)(a a':Act):Prop:=∀fuel w,S w->wpAnyH P md ops Q S fuel (listed.setIfInBounds i true) a' w->wpAnyH P md ops Q S (fuel+1) listed a w
def QI{P:Program}{md:Region.Mode}{ops:Array Oper}{Q:Exit->Act->World->Prop}{S:World->Prop}{i:Nat}{oi:Oper}{v:Value}{listed:Array Bool}{a a':Act}(hi:ops[i]?=some oi:=by(simp only[List.getElem?_toArray,List.getElem?_cons_succ,List.getElem?_cons_zero];rfl))(hs:Region.noSelect ops=true:=by kernel_rfl)(hf:Region.free md ops listed i=true:=by kernel_rfl)(hr:(Region.ready md ops listed).contains i=true:=by kernel_rfl)(hQ:∀c a w,Q (.panic c) (a.put oi.dst v) w->Q (.panic c) a w:=by exact fun _ _ _ h=>h)(hg:Region.wanted oi (yielded ops a.tmps)=true:=by rfl)(hy:∀w,S w->(execOp a.eval oi).run P w=.ok (.value v) w:=by(intro w' vJ;(try dsimp only at vJ);go_simp;try with_reducible rfl))(ha:a.put oi.dst v=a':=by(simp only[Act.put,xa,xb,xc];rfl)):Tk P md ops Q S listed i a a':=
 fun _ _ hS h=>wpAnyH_take hi hs hf hr hQ (Or.inl ⟨hg,hy⟩) hS (ha▸h)
def tkZ{P:Program}{md:Region.Mode}{ops:Array Oper}{Q:Exit->Act->World->Prop}{S:World->Prop}{i:Nat}{oi:Oper}{listed:Array Bool}{a a':Act}(hi:ops[i]?=some oi:=by(simp only[List.getElem?_toArray,List.getElem?_cons_succ,List.getElem?_cons_zero];rfl))(hs:Region.noSelect ops=true:=by kernel_rfl)(hf:Region.free md ops listed i=true:=by kernel_rfl)(hr:(Region.ready md ops listed).contains i=true:=by kernel_rfl)(hQ:∀c a w,Q (.panic c) (a.put oi.dst undef) w->Q (.panic c) a w:=by exact fun _ _ _ h=>h)(hg:Region.wanted oi (yielded ops a.tmps)=false:=by rfl)(ha:a.put oi.dst undef=a':=by(simp only[Act.put,xa,xb,xc];rfl)):Tk P md ops Q S listed i a a':=
 fun _ _ hS h=>wpAnyH_take hi hs hf hr hQ (Or.inr ⟨hg,rfl⟩) hS (ha▸h)
def tn{P:Program}{md:Region.Mode}{ops:Array Oper}{Q:Exit->Act->World->Prop}{S:World->Prop}(i:Nat){fuel:Nat}{listed:Array Bool}{a a':Act}{w:World}(hS:S w)(h:wpAnyH P md ops Q S fuel (listed.setIfInBounds i true) a' w)(t:Tk P md ops Q S listed i a a':=by exact QI):wpAnyH P md ops Q S (fuel+1) listed a w:=t _ _ hS h
def sn{P:Program}{md:Region.Mode}{ops:Array Oper}{Q:Exit->Act->World->Prop}{S:World->Prop}(i:Nat){fuel:Nat}{listed:Array Bool}{a a':Act}{w:World}(hS:S w)(h:wpAnyH P md ops Q S fuel (listed.setIfInBounds i true) a' w)(t:Tk P md ops Q S listed i a a':=by exact tkZ):wpAnyH P md ops Q S (fuel+1) listed a w:=t _ _ hS h
def jZ{P:Program}{md:Region.Mode}{ops:Array Oper}{Q:Exit->Act->World->Prop}{S:World->Prop}(i0 i1:Nat){fuel:Nat}{listed:Array Bool}{a0 a1 a2:Act}{w:World}(hS:S w)(h:wpAnyH P md ops Q S fuel ((listed.setIfInBounds i0 true).setIfInBounds i1 true) a2 w)(x0:Tk P md ops Q S listed i0 a0 a1:=by exact QI)(x1:Tk P md ops Q S (listed.setIfInBounds i0 true) i1 a1 a2:=by exact QI):wpAnyH P md ops Q S (fuel+2) listed a0 w:=x0 _ _ hS (x1 _ _ hS h)
def mu{P:Program}{md:Region.Mode}{ops:Array Oper}{Q:Exit->Act->World->Prop}{S:World->Prop}(i0 i1 i2 i3:Nat){fuel:Nat}{listed:Array Bool}{a0 a1 a2 a3 a4:Act}{w:World}(hS:S w)(h:wpAnyH P md ops Q S fuel ((((listed.setIfInBounds i0 true).setIfInBounds i1 true).setIfInBounds i2 true).setIfInBounds i3 true) a4 w)(x0:Tk P md ops Q S listed i0 a0 a1:=by exact QI)(x1:Tk P md ops Q S (listed.setIfInBounds i0 true) i1 a1 a2:=by exact QI)(x2:Tk P md ops Q S ((listed.setIfInBounds i0 true).setIfInBounds i1 true) i2 a2 a3:=by exact QI)(x3:Tk P md ops Q S (((listed.setIfInBounds i0 true).setIfInBounds i1 true).setIfInBounds i2 true) i3 a3 a4:=by exact QI):wpAnyH P md ops Q S (fuel+4) listed a0 w:=x0 _ _ hS (x1 _ _ hS (x2 _ _ hS (x3 _ _ hS h)))
def nK{P:Program}{md:Region.Mode}{ops:Array Oper}{Q:Exit->Act->World->Prop}{S:World->Prop}(i0 i1 i2 i3:Nat){fuel:Nat}{listed:Array Bool}{a0 a1 a2 a3 a4:Act}{w:World}(hS:S w)(h:wpAnyH P md ops Q S fuel ((((listed.setIfInBounds i0 true).setIfInBounds i1 true).setIfInBounds i2 true).setIfInBounds i3 true) a4 w)(x0:Tk P md ops Q S listed i0 a0 a1:=by exact tkZ)(x1:Tk P md ops Q S (listed.setIfInBounds i0 true) i1 a1 a2:=by exact tkZ)(x2:Tk P md ops Q S ((listed.setIfInBounds i0 true).setIfInBounds i1 true) i2 a2 a3:=by exact tkZ)(x3:Tk P md ops Q S (((listed.setIfInBounds i0 true).setIfInBounds i1 true).setIfInBounds i2 true) i3 a3 a4:=by exact tkZ):wpAnyH P md ops Q S (fuel+4) listed a0 w:=x0 _ _ hS (x1 _ _ hS (x2 _ _ hS (x3 _ _ hS h)))
def mn{P:Program}{md:Region.Mode}{ops:Array Oper}{Q:Exit->Act->World->Prop}{S:World->Prop}(i0 i1 i2 i3 i4 i5 i6 i7:Nat){fuel:Nat}{listed:Array Bool}{a0 a1 a2 a3 a4 a5 a6 a7 a8:Act}{w:World}(hS:S w)(h:wpAnyH P md ops Q S fuel ((((((((listed.setIfInBounds i0 true).setIfInBounds i1 true).setIfInBounds i2 true).setIfInBounds i3 true).setIfInBounds i4 true).setIfInBounds i5 true).setIfInBounds i6 true).setIfInBounds i7 true) a8 w)(x0:Tk P md ops Q S listed i0 a0 a1:=by exact QI)(x1:Tk P md ops Q S (listed.setIfInBounds i0 true) i1 a1 a2:=by exact QI)(x2:Tk P md ops Q S ((listed.setIfInBounds i0 true).setIfInBounds i1 true) i2 a2 a3:=by exact QI)(x3:Tk P md ops Q S (((listed.setIfInBounds i0 true).setIfInBounds i1 true).setIfInBounds i2 true) i3 a3 a4:=by exact QI)(x4:Tk P md ops Q S ((((listed.setIfInBounds i0 true).setIfInBounds i1 true).setIfInBounds i2 true).setIfInBounds i3 true) i4 a4 a5:=by exact QI)(x5:Tk P md ops Q S (((((listed.setIfInBounds i0 true).setIfInBounds i1 true).setIfInBounds i2 true).setIfInBounds i3 true).setIfInBounds i4 true) i5 a5 a6:=by exact QI)(x6:Tk P md ops Q S ((((((listed.setIfInBounds i0 true).setIfInBounds i1 true).setIfInBounds i2 true).setIfInBounds i3 true).setIfInBounds i4 true).setIfInBounds i5 true) i6 a6 a7:=by exact QI)(x7:Tk P md ops Q S (((((((listed.setIfInBounds i0 true).setIfInBounds i1 true).setIfInBounds i2 true).setIfInBounds i3 true).setIfInBounds i4 true).setIfInBounds i5 true).setIfInBounds i6 true) i7 a7 a8:=by exact QI):wpAnyH P md ops Q S (fuel+8) listed a0 w:=x0 _ _ hS (x1 _ _ hS (x2 _ _ hS (x3 _ _ hS (x4 _ _ hS (x5 _ _ hS (x6 _ _ hS (x7 _ _ hS h)))))))
def ry{P:Program}{md:Region.Mode}{ops:Array Oper}{Q:Exit->Act->World->Prop}{S:World->Prop}(rs:List Nat){fuel:Nat}{listed:Array Bool}{a:Act}{w:World}(h:AllReadyH P md ops Q S fuel listed a w rs)(hr:Region.ready md ops listed=rs:=by kernel_rfl)(cg:rs≠[]:=by simp):wpAnyH P md ops Q S (fuel+1) listed a w:=wpAnyH_ready hr cg h
def cn{P:Program}{md:Region.Mode}{ops:Array Oper}{Q:Exit->Act->World->Prop}{S:World->Prop}{fuel:Nat}{listed:Array Bool}{a:Act}{w:World}{i:Nat}{o:Oper}{rs:List Nat}(h:∀K':Act->World->Prop,Shut (∀a w,S w->(S w->wpAnyH P md ops Q S fuel (listed.setIfInBounds i true) a w)->K' a w)->if Region.wanted o (yielded ops a.tmps)=true then Oper.wp P o a w K' Q else K' (a.put o.dst undef) w)(hs:AllReadyH P md ops Q S fuel listed a w rs)(ho:ops[i]?=some o:=by(simp only[List.getElem?_toArray,List.getElem?_cons_succ,List.getElem?_cons_zero];rfl)):AllReadyH P md ops Q S fuel listed a w (i::rs):=AllReadyH.cons ho h hs
def bj7{P:Program}{md:Region.Mode}{ops:Array Oper}{Q:Exit->Act->World->Prop}{S:World->Prop}(rs:List Nat){fuel:Nat}{listed:Array Bool}{a:Act}{w:World}(h:AllReadyH P md ops Q S fuel listed a w rs)(hr:Region.ready md ops listed=rs:=by decide +kernel)(cg:rs≠[]:=by simp):wpAnyH P md ops Q S (fuel+1) listed a w:=wpAnyH_ready hr cg h
structure Tag(n:Nat)(p:Prop):Prop where
 out:p
def Tag.go(n:Nat){p:Prop}(h:p):Tag n p:=⟨h⟩
def aX4{P:Program}{md:Region.Mode}{ops:Array Oper}{Q:Exit->Act->World->Prop}{S:World->Prop}{fuel:Nat}{listed:Array Bool}{a:Act}{w:World}{i:Nat}{o:Oper}{rs:List Nat}(h:∀K':Act->World->Prop,Shut (∀a w,S w->(S w->wpAnyH P md ops Q S fuel (listed.setIfInBounds i true) a w)->K' a w)->Tag i (if Region.wanted o (yielded ops a.tmps)=true then Oper.wp P o a w K' Q else K' (a.put o.dst undef) w))(hs:AllReadyH P md ops Q S fuel listed a w rs)(ho:ops[i]?=some o:=by(simp only[List.getElem?_toArray,List.getElem?_cons_succ,List.getElem?_cons_zero];rfl)):AllReadyH P md ops Q S fuel listed a w (i::rs):=AllReadyH.cons ho (fun K' hK=>(h K' hK).out) hs
def Mg{P:Program}{md:Region.Mode}{ops:Array Oper}{Q:Exit->Act->World->Prop}{S:World->Prop}(i:Nat){o:Oper}{fuel:Nat}{listed:Array Bool}{a:Act}{w:World}(h:∀K':Act->World->Prop,Shut (∀a w,S w->(S w->wpAnyH P md ops Q S fuel (listed.setIfInBounds i true) a w)->K' a w)->Tag i (if Region.wanted o (yielded ops a.tmps)=true then Oper.wp P o a w K' Q else K' (a.put o.dst undef) w))(ho:ops[i]?=some o:=by(simp only[List.getElem?_toArray,List.getElem?_cons_succ,List.getElem?_cons_zero];rfl))(hr:Region.ready md ops listed=[i]:=by decide +kernel):wpAnyH P md ops Q S (fuel+1) listed a w:=bj7 [i] (aX4 h AllReadyH.nil ho) hr
def TJ{P:Program}{md:Region.Mode}{ops:Array Oper}{Q:Exit->Act->World->Prop}{S:World->Prop}(i j:Nat){o o':Oper}{fuel:Nat}{listed:Array Bool}{a:Act}{w:World}(h:∀K':Act->World->Prop,Shut (∀a w,S w->(S w->wpAnyH P md ops Q S fuel (listed.setIfInBounds i true) a w)->K' a w)->Tag i (if Region.wanted o (yielded ops a.tmps)=true then Oper.wp P o a w K' Q else K' (a.put o.dst undef) w))(h':∀K':Act->World->Prop,Shut (∀a w,S w->(S w->wpAnyH P md ops Q S fuel (listed.setIfInBounds j true) a w)->K' a w)->Tag j (if Region.wanted o' (yielded ops a.tmps)=true then Oper.wp P o' a w K' Q else K' (a.put o'.dst undef) w))(ho:ops[i]?=some o:=by(simp only[List.getElem?_toArray,List.getElem?_cons_succ,List.getElem?_cons_zero];rfl))(Uy:ops[j]?=some o':=by(simp only[List.getElem?_toArray,List.getElem?_cons_succ,List.getElem?_cons_zero];rfl))(hr:Region.ready md ops listed=[i,j]:=by decide +kernel):wpAnyH P md ops Q S (fuel+1) listed a w:=bj7 [i,j] (aX4 h (aX4 h' AllReadyH.nil Uy) ho) hr
def dE{P:Program}{md:Region.Mode}{ops:Array Oper}{Q:Exit->Act->World->Prop}{S:World->Prop}(i:Nat){fuel:Nat}{listed:Array Bool}{a:Act}{w:World}{o:Oper}(h:∀K':Act->World->Prop,Shut (∀a w,S w->(S w->wpAnyH P md ops Q S fuel (listed.setIfInBounds i true) a w)->K' a w)->if Region.wanted o (yielded ops a.tmps)=true then Oper.wp P o a w K' Q else K' (a.put o.dst undef) w)(ho:ops[i]?=some o:=by(simp only[List.getElem?_toArray,List.getElem?_cons_succ,List.getElem?_cons_zero];rfl))(hr:Region.ready md ops listed=[i]:=by kernel_rfl):wpAnyH P md ops Q S (fuel+1) listed a w:=ry [i] (cn h AllReadyH.nil ho) hr
def gr{P:Program}{md:Region.Mode}{ops:Array Oper}{Q:Exit->Act->World->Prop}{S:World->Prop}{fuel:Nat}{listed:Array Bool}{K:Act->World->Prop}{a a':Act}{w:World}(hK:Shut (∀a w,S w->(S w->wpAnyH P md ops Q S fuel listed a w)->K a w))(hS:S w)(h:S w->wpAnyH P md ops Q S fuel listed a' w)(ha:a=a':=by((try simp only[Act.put,xa,xb,xc]);rfl)):K a w:=hK.out _ _ hS (ha▸h)
open Go.ChangeShapes Go.WideShapes Go.ChangeAt Go.Deep
def af{p:Prop}(h:p):Hid p:=h
def aa{p:Prop}(h:Hid p):p:=h
def cK{α:Sort _}(x:α):∃y,Hid (x=y):=⟨x,af rfl⟩
def jl(n:Nat)(left:Int):Int:=if left-n<0 then -1 else left-n
def Bf{p:OA}{n cap:Nat}{left:Int}{w:World}(hn:n<=maxLen)(h0:0<=left)(h1:left<=1048576):Calls Tryz.prog 37 #[.S p n cap,.I left] w fun e w'=>e=.returned (.I (jl n left))/\w'=w:=by
 unfold maxLen at hn;by_cases h:left-n<0;{
 have e:jl n left=-1:=by unfold jl;rw[bN h]
 rw[e];go_enter Tryz.func37,Tryz.ntmps37;go_wp2;go_ret;exact⟨rfl,rfl⟩};{
 have e:jl n left=left-n:=by unfold jl;rw[bH h]
 rw[e];go_enter Tryz.func37,Tryz.ntmps37;go_wp2;go_ret;exact⟨rfl,rfl⟩}
def pf{W w1:World}(hb:Bw W w1):(∀b o,b<W.heap.size->w1.cell? ⟨b,o,none⟩=W.cell? ⟨b,o,none⟩)/\(∀b o,b<W.heap.size->w1.frozen? ⟨b,o,none⟩=W.frozen? ⟨b,o,none⟩):=
 ⟨fun b o h=>hb.cell (p:=⟨b,o,none⟩) h,fun b o h=>hb.frozen (p:=⟨b,o,none⟩) h⟩
def ld{n:Nat}{left:Int}(h:(n:Int)<=left):jl n left=left-n:=by unfold jl;rw[bH (by omega)]
def Ad{n:Nat}{left:Int}(h:left<n):jl n left=-1:=by unfold jl;rw[bN (by omega)]
abbrev U(l:LI):List Value:=l.map (Value.int .u8)
def Rd(w:World)(v:Value)(l:LI):Prop:=
 ∃(p:OA)(cap:Nat),v=.S p l.length cap/\(l=[]\/∃b o,p=some ⟨b,o,none⟩/\∀i,i<l.length->w.cell? ⟨b,o+i,none⟩=some (.int .u8 (l.getD i 0)))
abbrev Own(B:Nat)(w:World)(v:Value)(l:LI):Prop:=w.ownsRow B 5 1 v l.length (U l)
def Rd.nil(w:World):Rd w (.S none 0 0) []:=⟨none,0,rfl,.inl rfl⟩
def Own.rd{B:Nat}{w:World}{v:Value}{l:LI}(h:Own B w v l):Rd w v l:=by
 rcases h.2 with⟨rfl,h0⟩|⟨g,cap,cur,rfl,hb,hg,_,_,_,ht⟩;{have:l=[]:=Ku h0;subst this;exact Rd.nil w};{refine⟨_,_,rfl,.inr ⟨g,0,rfl,fun i hi=>?_⟩⟩;have:=World.ownsRow.cellAt (w:=w) (base:=B) h i ae;rw[lu,this];simp[List.getD,aO hi]}
def Rd.below{w w':World}{v:Value}{l:LI}(h:Rd w v l)(hb:Bw w w'):Rd w' v l:=by
 obtain⟨p,cap,rfl,h⟩:=h;refine⟨p,cap,rfl,?_⟩;rcases h with h|⟨b,o,rfl,hc⟩;{exact .inl h};{refine .inr ⟨b,o,rfl,fun i hi=>?_⟩;rw[hb.cell (p:=⟨b,o+i,none⟩) (pI w _ (hc i hi))];exact hc i hi}
def Own.below{B:Nat}{w w':World}{v:Value}{l:LI}(h:Own B w v l)(hb:Bw w w'):Own B w' v l:=
 h.kept (row:=none) ⟨hb.os,hb.tape,hb.output,hb.size,fun k hk _=>hb.block k hk⟩ (by cases hv:v.ownBlock<;>simp)
def Own.mono{B B':Nat}{w:World}{v:Value}{l:LI}(h:Own B w v l)(hB:B'<=B):Own B' w v l:=by
 refine⟨h.1,?_⟩;rcases h.2 with h|⟨g,cap,cur,rfl,hb,r⟩;{exact .inl h};{exact .inr ⟨g,cap,cur,rfl,ae,r⟩}
def UO(l:LI)(k:Nat):LI:=l.take k++List.replicate (l.length-k) 0
def SJ{l:LI}{k:Nat}(h:k<=l.length):(UO l k).length=l.length:=by simp[UO];omega
def af7(l:LI):UO l 0=List.replicate l.length 0:=by simp[UO]
def af9(l:LI):UO l l.length=l:=by simp[UO]
def af8{l:LI}{k:Nat}(h:k<l.length):(U (UO l k)).set k (.int .u8 (l.getD k 0))=U (UO l (k+1)):=by
 have e1:l.take (k+1)=l.take k++[l.getD k 0]:=by rw[Oa h];simp[List.getD,aO h]
 have e2:List.replicate (l.length-k) (0:Int)=0::List.replicate (l.length-(k+1)) 0:=by rw[show l.length-k=(l.length-(k+1))+1 by omega,List.replicate_succ]
 have e3:(l.take k).length=k:=by simp;omega
 have e4:(UO l k).set k (l.getD k 0)=UO l (k+1):=by unfold UO;rw[e1,e2,N8 _ _ ae,e3,Au,Ff];simp
 rw[<-e4,U,U,Uk]
def Tryz.infoByte:(Tryz.prog.info? 5).map (fun i=>(i.zero,i.size,i.bytes))=some (some (.int .u8 0),1,1):=by kernel_rfl
def qm{w w':World}(h:w.grownBy w' none):Bw w w':=⟨h.os,h.tape,h.output,h.size,fun k hk=>h.block k hk (by simp)⟩
def ME{v:Value}{l:LI}{w:World}(h:Rd w v l)(hl:l.length<=1048576):Calls Tryz.prog 55 #[v] w fun e w'=>∃p' c',e=.returned (.S p' l.length c')/\Own w.heap.size w' (.S p' l.length c') l/\Bw w w':=by
 obtain⟨i,hi,nO,iL,ju⟩:=info_parts Tryz.infoByte;obtain⟨p,cap,rfl,h⟩:=h;go_enter Tryz.func55,Tryz.ntmps55;go_wp2_with(first|(at_make;refine wpList_make_full _ rfl _ _ 22 rfl w.heap.size 5 i (.int .u8 0) 1 Tryz.underlying22 hi nO iL _ _ _ _ l.length rfl rfl rfl rfl ?b2 ?b3 ?b4 ?_))
 case b2=>rw[ju];omega
 case b3=>unfold maxLen;omega
 case b4=>exact jS _
 intro w1 bO hg;have hb:=qm hg;have bo7:(madeCells #[Value.int .u8 0] l.length).toList=U (UO l 0):=by rw[af7,toList_madeCells_one];simp
 rw[bo7]at bO;go_wp2
 go_loopw[4](fun i wr=>∃k:Nat,k<=l.length/\i=.I k/\wr.ownsRow w.heap.size 5 1 (.T w.heap.size l.length l.length) l.length (U (UO l k))/\Bw w wr) (fun i _=>l.length-(intOf i).toNat)
 exact⟨0,gq _,rfl,bO,hb⟩;{
 obtain⟨k,hk,rfl,ho,aG⟩:=hrel;by_cases aX:k<l.length;{
 rcases h with rfl|⟨b,o,rfl,hc⟩;{simp at aX};{
 have zE:wr.cell? ⟨b,o+k,none⟩=some (.int .u8 (l.getD k 0)):=(aG.cell (p:=⟨b,o+k,none⟩) (pI w _ (hc k aX))).trans (hc k aX);have hfz:=ho.frozenAt k;have Dz:∃u,wr.cell? ⟨w.heap.size,k,none⟩=some u:=by rw[ho.cellAt k ae];exact⟨_,aO (by rw[fe,SJ hk];omega)⟩
 obtain⟨u,hcu⟩:=Dz;have cR:=ho.stored k (.int .u8 (l.getD k 0));rw[af8 aX]at cR;have HS:Hid (World.ownsRow (wr.setCell ⟨w.heap.size,k,none⟩ (.int .u8 (l.getD k 0))) w.heap.size 5 1 (.T w.heap.size l.length l.length) l.length (U (UO l (k+1)))):=cR.1;go_wp2;go_roundw;exact⟨k+1,ae,by go_num,by simpa[aX]using HS.out,aG.setCell ao _⟩;exact bG}};{
 have:k=l.length:=by omega
 subst this;rw[af9]at ho;go_wp2;go_ret;exact⟨_,_,rfl,ho,aG⟩}}
def JL{l1 l2:LI}{k:Nat}(h1:k<l1.length)(h2:k<l2.length)(h:l1.take k=l2.take k)(e:l1[k]?.getD 0=l2[k]?.getD 0):l1.take (k+1)=l2.take (k+1):=by
 rw[Oa h1,Oa h2,h];simp[aO h1,aO h2]at e;rw[e]
def below_drewN{B:Nat}{w w':World}(h:Below B w w'){n:Nat}:Below B w (w'.drewN n):=⟨h.os,h.tape,h.output,h.size,h.block⟩
def Cj{v1 v2:Value}{l1 l2:LI}{w:World}(h1:Rd w v1 l1)(h2:Rd w v2 l2)(Jq:l1.length<=2097152)(KY:l2.length<=2097152):Calls Tryz.prog 71 #[v1,v2] w fun e w'=>e=.returned (.bool (decide (l1=l2)))/\Bw w w':=by
 obtain⟨p1,dC8,rfl,h1⟩:=h1;obtain⟨p2,dC7,rfl,h2⟩:=h2;by_cases hlen:l1.length=l2.length;{
 have cg:((l1.length:Int) != (l2.length:Int))=false:=by simp;omega
 go_enter Tryz.func71,Tryz.ntmps71;go_wp2
 go_loopw[5](fun i wr=>∃k:Nat,k<=l1.length/\i=.I k/\l1.take k=l2.take k/\Bw w wr) (fun i _=>l1.length-(intOf i).toNat)
 exact⟨0,gq _,rfl,rfl,cW _ _⟩;{
 obtain⟨k,hk,rfl,ht,aG⟩:=hrel;have HT:Hid (l1.take k=l2.take k):=ht;by_cases aX:k<l1.length;{
 rcases h1 with rfl|⟨b1,o1,rfl,iD⟩;{simp at aX};{
 rcases h2 with rfl|⟨b2,o2,rfl,js⟩;{simp at hlen;subst hlen;simp at aX};{
 have KU:k<l2.length:=ae;have g1:wr.cell? ⟨b1,o1+k,none⟩=some (.int .u8 (l1.getD k 0)):=(aG.cell (p:=⟨b1,o1+k,none⟩) (pI w _ (iD k aX))).trans (iD k aX);have g2:wr.cell? ⟨b2,o2+k,none⟩=some (.int .u8 (l2.getD k 0)):=(aG.cell (p:=⟨b2,o2+k,none⟩) (pI w _ (js k KU))).trans (js k KU);have i1:(k:Int)<(l1.length:Int):=ae;have i2:(k:Int)<(l2.length:Int):=ae;have HL:Hid (l1.length=l2.length):=hlen;by_cases hx:l1[k]=l2[k];{
 have hb:(l1[k] != l2[k])=false:=by simp only[bne_eq_false_iff_eq];exact hx
 have HX:Hid (l1[k]?.getD 0=l2[k]?.getD 0):=by show _=_;simpa[aX,KU]using hx
 go_wp2
 go_quiet (fail)
 go_wp2;go_roundw;exact⟨k+1,ae,by go_num,JL aX KU HT.out HX.out,below_drewN aG⟩;exact bG};{
 have hb:(l1[k] != l2[k])=true:=by simp only[bne_iff_ne];exact hx
 have HF:Hid (decide (l1=l2)=false):=by show _=_;simp only[CG];intro e;apply hx;simp[e]
 go_wp2
 go_quiet (fail)
 go_wp2;go_ret;exact⟨by rw[HF.out];rfl,below_drewN aG⟩}}}};{
 have dA:k=l1.length:=ae;have HF:Hid (decide (l1=l2)=true):=by have:=HT.out;rw[dA,mF,hlen,mF]at this;show _=_;simp[this]
 subst dA;go_wp2;go_ret;exact⟨by rw[HF.out];rfl,aG⟩}}};{
 have cg:((l1.length:Int) != (l2.length:Int))=true:=by simp;omega
 have sE:decide (l1=l2)=false:=by simp only[CG];intro e;apply hlen;rw[e]
 rw[sE];go_enter Tryz.func71,Tryz.ntmps71;go_wp2;go_ret;exact⟨rfl,cW _ _⟩}
def Own.lt{B:Nat}{w:World}{v:Value}{l:LI}(h:Own B w v l):∀b,v.ownBlock=some b->B<=b/\b<w.heap.size:=World.ownsRow.lt h
def Own.set{B:Nat}{w:World}{v:Value}{l:LI}(h:Own B w v l){a:Addr}(ha:a.block<B)(u:Value):Own B (w.setCell a u) v l:=Ky h ha u
def marks(k:Int):Nat->LI
 |0=>[]
 |n+1=>marks k n++[(k+n) % 256]
def mZ(k:Int)(n:Nat):(marks k n).length=n:=by induction n with|zero=>rfl|succ n ih=>simp[marks,ih]
def marked(l:LI)(k:Int)(j:Nat):LI:=marks k j++l.drop j
def Hg{l:LI}{k:Int}{j:Nat}(h:j<=l.length):(marked l k j).length=l.length:=by simp[marked,mZ];omega
def Nx(l:LI)(k:Int):marked l k 0=l:=by simp[marked,marks]
def Nz(l:LI)(k:Int):marked l k l.length=marks k l.length:=by simp[marked]
def Ny{l:LI}{k:Int}{j:Nat}(h:j<l.length):(U (marked l k j)).set j (.int .u8 ((k+j) % 256))=U (marked l k (j+1)):=by
 have e2:l.drop j=l[j]::l.drop (j+1):=Rm h;have e4:(marked l k j).set j ((k+j) % 256)=marked l k (j+1):=by unfold marked;rw[e2,N8 _ _ (by rw[mZ];omega),mZ,Au,Ff];simp[marks]
 rw[<-e4,U,U,Uk]
def oR{w:World}{row:Option Nat}:w.grownBy w row:=⟨rfl,rfl,rfl,jS _,fun _ _ _=>rfl⟩
def gH{w w1 w2:World}{row:Option Nat}(h:w.grownBy w1 row)(k:w1.grownBy w2 row):w.grownBy w2 row:=
 ⟨k.os.trans h.os,k.tape.trans h.tape,k.output.trans h.output,fW h.size k.size,fun i hi cg=>(k.block i (kV hi h.size) cg).trans (h.block i hi cg)⟩
def Hi{B:Nat}{p:OA}{c:Nat}{l:LI}{k:Int}{w:World}(h:Own B w (.S p l.length c) l)(hl:l.length<=2097152)(k0:0<=k)(k1:k<=100000000):Calls Tryz.prog 72 #[.S p l.length c,.I k] w fun e w'=>e=.returned (.I (k+l.length))/\Own B w' (.S p l.length c) (marks k l.length)/\w.grownBy w' (Value.ownBlock (.S p l.length c)):=by
 have aS4:(p=none/\l=[])\/∃g,p=some ⟨g,0,none⟩:=by rcases h.2 with⟨e,h0⟩|⟨g,cap,cur,e,_⟩;{simp at e;exact .inl ⟨e.1,e.2.1⟩};{simp at e;exact .inr ⟨g,e.1⟩}
 go_enter Tryz.func72,Tryz.ntmps72;go_wp2
 go_loopw[1,5](fun kk i wr=>∃j:Nat,j<=l.length/\i=.I j/\kk=.I (k+j)/\wr.ownsRow B 5 1 (.S p l.length c) l.length (U (marked l k j))/\w.grownBy wr (Value.ownBlock (.S p l.length c))) (fun _ i _=>l.length-(intOf i).toNat)
 exact⟨0,gq _,rfl,ai,by rw[Nx];exact h,oR⟩;{
 obtain⟨j,hj,rfl,rfl,ho,hg⟩:=hrel;by_cases aX:j<l.length;{
 rcases aS4 with⟨rfl,rfl⟩|⟨g,rfl⟩;{simp at aX};{
 have hfz:=ho.frozenAt j;have Dz:∃u,wr.cell? ⟨g,j,none⟩=some u:=by rw[ho.cellAt j ae];exact⟨_,aO (by rw[fe,Hg hj];omega)⟩
 obtain⟨u,hcu⟩:=Dz;have cR:=ho.stored j (.int .u8 ((k+j) % 256));rw[Ny (k:=k) aX]at cR;have HS:=af cR.1;have HG:=af (gH hg cR.2);go_wp2;go_roundw;exact⟨j+1,ae,by go_num,by go_num,by simpa using HS.out,by simpa using HG.out⟩;exact bG}};{
 have:j=l.length:=by omega
 subst this;rw[Nz]at ho;go_wp2;go_ret;refine⟨rfl,?_,hg⟩;unfold Own;rw[mZ];exact ho}}
structure Kept(vs:List Value)(w w':World):Prop where
 os:w'.os=w.os
 tape:w'.tape=w.tape
 output:w'.output=w.output
 size:w.heap.size<=w'.heap.size
 block:∀k,k<w.heap.size->(∀v∈vs,v.ownBlock≠some k)->w'.heap[k]?=w.heap[k]?
def Kept.refl(vs:List Value)(w:World):Kept vs w w:=⟨rfl,rfl,rfl,jS _,fun _ _ _=>rfl⟩
def Kept.trans{vs:List Value}{w w1 w2:World}(h:Kept vs w w1)(k:Kept vs w1 w2):Kept vs w w2:=
 ⟨k.os.trans h.os,k.tape.trans h.tape,k.output.trans h.output,fW h.size k.size,fun i hi cg=>(k.block i (kV hi h.size) cg).trans (h.block i hi cg)⟩
def Kept.dL{vs:List Value}{w w':World}(h:Bw w w'):Kept vs w w':=⟨h.os,h.tape,h.output,h.size,fun k hk _=>h.block k hk⟩
def Kept.En{vs:List Value}{w w':World}{v:Value}(h:w.grownBy w' v.ownBlock)(hv:v∈vs):Kept vs w w':=
 ⟨h.os,h.tape,h.output,h.size,fun k hk cg=>h.block k hk (fun e=>cg v hv e.symm)⟩
def Kept.alloc{vs:List Value}{w w':World}(h:Kept vs w w')(o:Obj):Kept vs w (w'.alloc o):=h.trans (Kept.dL (ay.alloc ao _))
def Kept.below{vs:List Value}{w w':World}{B:Nat}(h:Kept vs w w')(hB:B<=w.heap.size)(hv:∀v∈vs,∀b,v.ownBlock=some b->B<=b):Below B w w':=
 ⟨h.os,h.tape,h.output,h.size,fun k hk=>h.block k ae (fun v hv' e=>by have:=hv v hv' k e;omega)⟩
def Own.sA{B:Nat}{vs:List Value}{w w':World}{v:Value}{l:LI}(h:Own B w v l)(hk:Kept vs w w')(cg:∀u∈vs,∀b,v.ownBlock=some b->u.ownBlock≠some b):Own B w' v l:=by
 refine⟨h.1,?_⟩;rcases h.2 with hn|⟨g,cap,cur,rfl,hb,hgg,rest⟩;{exact .inl hn};{refine .inr ⟨g,cap,cur,rfl,hb,?_,rest⟩;rw[hk.block g (EF.1 hgg).1 (fun u hu=>cg u hu g rfl)];exact hgg}
def ag{w w':World}{b o:Nat}{v:Value}(h:w.cell? ⟨b,o,none⟩=some v)(hb:Bw w w'):w'.cell? ⟨b,o,none⟩=some v:=
 (hb.cell (p:=⟨b,o,none⟩) (pI w _ h)).trans h
def kJ{w w':World}{b:Nat}(h:∀o,w.frozen? ⟨b,o,none⟩=false)(hb:Bw w w')(aX:b<w.heap.size):∀o,w'.frozen? ⟨b,o,none⟩=false:=
 fun o=>(hb.frozen (p:=⟨b,o,none⟩) aX).trans (h o)
def Kept.cellAt{vs:List Value}{w w':World}(h:Kept vs w w'){b:Nat}(hb:b<w.heap.size)(hv:∀v∈vs,v.ownBlock≠some b):∀o,w'.cell? ⟨b,o,none⟩=w.cell? ⟨b,o,none⟩:=
 fun o=>World.cell?_of_block (h.block b hb hv)
def Kept.more{vs us:List Value}{w w':World}(h:Kept vs w w')(hs:∀v∈vs,v∈us):Kept us w w':=
 ⟨h.os,h.tape,h.output,h.size,fun k hk cg=>h.block k hk (fun v hv=>cg v (hs v hv))⟩
end Go.Proofs.YtjjnidignljppaaGreatDoor
