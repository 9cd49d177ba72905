import Derived.KernelRfl
import Derived.IntWalk
import Derived.Test.YtcfcafeciggjeaaGreatDoorProg
import Derived.WalkKit
import Derived.Below
import Derived.Deep.RegionHeld3
import Derived.WalkSpells
import Derived.WalkLawsBesides
import Derived.BigQuiet
import Derived.ProofKit
import Derived.OpenShut
import Derived.Deep.QuietTactic
import Derived.Deep.Fields23
import Derived.Deep.Strs
namespace Go
abbrev Value.U (x:Int):Value:=.int .u64 x
abbrev Value.I (x:Int):Value:=.int .i64 x
abbrev Lit.U (x:Int):Lit:=.int .u64 x
abbrev Lit.I (x:Int):Lit:=.int .i64 x
abbrev Value.S (p:Option Addr) (n c:Nat):Value:=.slice p n c
end Go
namespace Go.Proofs.YtcfcafeciggjeaaGreatDoor
set_option linter.all false
abbrev Bw (w v:World):Prop:=Go.RowKit.Below w.heap.size w v
open Go.RowKit
theorem ag {a b:Prop} (x:a) (y:b):a/\b:=⟨x,y⟩
theorem aJ {B:Nat} {w:World}:Below B w w:=Below.refl B w
theorem ah {W w1 w2:World} (h:Below W.heap.size W w1) (k:Below w1.heap.size w1 w2):Below W.heap.size W w2:=h.trans (k.mono h.size)
theorem aA {n:Nat}:n<=n:=Nat.le_refl n
theorem aK {α:Type} {l:List α} {i:Nat} (h:i<l.length):l[i]?=some l[i]:=List.getElem?_eq_getElem h
theorem aN {α:Type} {i:Nat} {a:α} {l:List α}:l[i]?=some a↔∃ h:i<l.length,l[i]=a:=List.getElem?_eq_some_iff
theorem aF {α:Type} {l:List α} {i:Nat} {a:α} (h:l[i]?=some a):a∈l:=List.mem_of_getElem? h
theorem aY0 {α:Type} {l:List α} {i j:Nat} (h:i≠j) {a:α}:(l.set i a)[j]?=l[j]?:=List.getElem?_set_ne h
theorem dF (w:World) (a:Addr) (u:Value) (k:Nat) (h:k≠a.block):(w.setCell a u).heap[k]?=w.heap[k]?:=RowKit.Below.heap_setCell w a u k h
theorem xS {Q:Exit->Act->World->Prop} {a:Act} {w:World} (h:Q Exit.normal a w):NoPanic Q Exit.normal a w:=NoPanic.normal h
theorem ax {α:Sort _} (x:α):∃ y,y=x:=⟨x,rfl⟩
theorem aH {α:Sort _} (x:α):∃ y,x=y:=⟨x,rfl⟩
theorem bc {c:Prop} {α:Sort _} [Decidable c] {a b:α} (h:¬c:=by decide) : (if c then a else b)=b:=if_neg h
theorem yO {p q:Prop} (h:p) (n:¬p:=by decide) : q:=absurd h n
theorem ce5 {P:Program} {md:Region.Mode} {ops:Array Oper} {Q:Exit->Act->World->Prop} {S:World->Prop} {l:Array Bool} {a:Act} {w:World} {n:Nat} (h:Q .normal a w) (hr:Region.ready md ops l=[]:=by kernel_rfl) : wpAnyH P md ops Q S n l a w:=wpAnyH_done hr h n
theorem bu {P:Program} {md:Region.Mode} {ops:Array Oper} {Q:Exit->Act->World->Prop} {S:World->Prop} {l:Array Bool} {a:Act} {w:World} {n:Nat} (h:Q .normal a w) (hr:Region.ready md ops l=[]:=by kernel_rfl) : wpAnyH P md ops (NoPanic Q) S n l a w:=wpAnyH_done hr (NoPanic.normal h) n
theorem bO {P:Program} {ops:Array Oper} {Q:Exit->Act->World->Prop} {id:Nat} {a:Act} {w:World} (S:World->Prop) (hS:S w.drew) (h:S w.drew->wpAnyH P .any ops (NoPanic Q) S ops.size (Array.replicate ops.size false) a w.drew) (hm:P.follows .mixedOrders=true:=by kernel_rfl) : (Code.region id ops true).wp P Q a w:=wp_region_noPanic (wp_region_held_drew hm hS h)
theorem ju {w W:World} {o:Obj} (h:W=w.alloc o) : Below w.heap.size w W:=by rw [h];exact (Below.refl _ _).alloc (Nat.le_refl _) _
theorem dG {w W:World} (h:W=w.drew) : Below w.heap.size w W:=by rw [h];exact (Below.refl _ _).drew
theorem aT (a b:Nat) (h:(a:Int)<(b:Int):=by omega) : (a:Int)<(b:Int):=h
theorem vj (a b:Nat) (h:(a:Int)<=(b:Int):=by omega) : (a:Int)<=(b:Int):=h
theorem dy (a b:Nat) (h:¬ (a:Int)<(b:Int):=by omega) : ¬ (a:Int)<(b:Int):=h
theorem ja (a:Int) (b:Nat) (h:a<(b:Int):=by omega) : a<(b:Int):=h
theorem dE (a:Int) (b:Nat) (h:a<=(b:Int):=by omega) : a<=(b:Int):=h
theorem ji (a:Nat) (h: -9223372036854775808<=(a:Int)/\(a:Int)<=9223372036854775807:=by omega) : IntKind.i64.wrap (a:Int)=(a:Int):=IntWalk.i64_in _ h
theorem jf {a b c d:Nat} (h:some (⟨a,b,none⟩:Addr)=some ⟨c,d,none⟩) : a=c/\b=d:=by simpa using h
theorem dx {p:Prop} (h:p:=by (simp;omega)):p:=h
theorem jC {p:Prop} (h:p:=by (unfold maxLen;omega)):p:=h
theorem cw {p:Prop} (h:p:=by (show _=_;rfl)):p:=h
theorem ab {p:Prop} (h:p:=by (omega)):p:=h
theorem aU {p:Prop} (h:p:=by (simp)):p:=h
theorem bl {p:Prop} (h:p:=by (decide)):p:=h
theorem cW {p:Prop} (h:p:=by (kernel_rfl)):p:=h
theorem bU {p:Prop} (h:p:=by (rfl)):p:=h
theorem dC {p:Prop} (h:p:=by (simp [intOf];omega)):p:=h
open Go.RowKit
theorem xa {α:Type} {l:List α} {i:Nat} {a:α}:l.toArray.setIfInBounds i a=(l.set i a).toArray:=List.setIfInBounds_toArray _ _ _
theorem xb {α:Type} {x:α} {xs:List α} {a:α}:(x::xs).set 0 a=a::xs:=List.set_cons_zero
theorem xc {α:Type} {x:α} {xs:List α} {i:Nat} {a:α}:(x::xs).set (i+1) a=x::xs.set i a:=List.set_cons_succ
theorem tk {P:Program} {md:Region.Mode} {ops:Array Oper} {Q:Exit->Act->World->Prop} {S:World->Prop} (i:Nat) {oi:Oper} {v:Value} {fuel:Nat} {listed:Array Bool} {a:Act} {w:World} (hS:S w)
  (hi:ops[i]?=some oi:=by (simp only [List.getElem?_toArray,List.getElem?_cons_succ,List.getElem?_cons_zero];rfl))
  (hs:Region.noSelect ops=true:=by kernel_rfl) (hf:Region.free md ops listed i=true:=by kernel_rfl) (hr:(Region.ready md ops listed).contains i=true:=by kernel_rfl)
  (hQ:∀ c a w,Q (.panic c) (a.put oi.dst v) w->Q (.panic c) a w:=by exact fun _ _ _ h=>h) (hg:Region.wanted oi (yielded ops a.tmps)=true:=by rfl)
  (hy:∀ w,S w->(execOp a.eval oi).run P w=.ok (.value v) w:=by (intro w' qi;(try dsimp only at qi);go_simp;try with_reducible rfl))
  (h:wpAnyH P md ops Q S fuel (listed.setIfInBounds i true) (a.put oi.dst v) w):wpAnyH P md ops Q S (fuel+1) listed a w:=
 wpAnyH_take hi hs hf hr hQ (Or.inl ⟨hg,hy⟩) hS h
theorem sk {P:Program} {md:Region.Mode} {ops:Array Oper} {Q:Exit->Act->World->Prop} {S:World->Prop} (i:Nat) {oi:Oper} {fuel:Nat} {listed:Array Bool} {a:Act} {w:World} (hS:S w)
  (hi:ops[i]?=some oi:=by (simp only [List.getElem?_toArray,List.getElem?_cons_succ,List.getElem?_cons_zero];rfl))
  (hs:Region.noSelect ops=true:=by kernel_rfl) (hf:Region.free md ops listed i=true:=by kernel_rfl) (hr:(Region.ready md ops listed).contains i=true:=by kernel_rfl)
  (hQ:∀ c a w,Q (.panic c) (a.put oi.dst undef) w->Q (.panic c) a w:=by exact fun _ _ _ h=>h) (hg:Region.wanted oi (yielded ops a.tmps)=false:=by rfl)
  (h:wpAnyH P md ops Q S fuel (listed.setIfInBounds i true) (a.put oi.dst undef) w):wpAnyH P md ops Q S (fuel+1) listed a w:=
 wpAnyH_take hi hs hf hr hQ (Or.inr ⟨hg,rfl⟩) hS h
def Tk (P:Program) (md:Region.Mode) (ops:Array Oper) (Q:Exit->Act->World->Prop) (S:World->Prop) (listed:Array Bool) (i:Nat) (a a':Act):Prop:=∀ fuel w,S w->wpAnyH P md ops Q S fuel (listed.setIfInBounds i true) a' w->wpAnyH P md ops Q S (fuel+1) listed a w
theorem Oo {P:Program} {md:Region.Mode} {ops:Array Oper} {Q:Exit->Act->World->Prop} {S:World->Prop} {i:Nat} {oi:Oper} {v:Value} {listed:Array Bool} {a a':Act} (hi:ops[i]?=some oi:=by (simp only [List.getElem?_toArray,List.getElem?_cons_succ,List.getElem?_cons_zero];rfl))
  (hs:Region.noSelect ops=true:=by kernel_rfl) (hf:Region.free md ops listed i=true:=by kernel_rfl) (hr:(Region.ready md ops listed).contains i=true:=by kernel_rfl)
  (hQ:∀ c a w,Q (.panic c) (a.put oi.dst v) w->Q (.panic c) a w:=by exact fun _ _ _ h=>h) (hg:Region.wanted oi (yielded ops a.tmps)=true:=by rfl)
  (hy:∀ w,S w->(execOp a.eval oi).run P w=.ok (.value v) w:=by (intro w' qi;(try dsimp only at qi);go_simp;try with_reducible rfl)) (ha:a.put oi.dst v=a':=by (simp only [Act.put,xa,xb,xc];rfl)):Tk P md ops Q S listed i a a':=
 fun _ _ hS h=>wpAnyH_take hi hs hf hr hQ (Or.inl ⟨hg,hy⟩) hS (ha▸h)
theorem tkZ {P:Program} {md:Region.Mode} {ops:Array Oper} {Q:Exit->Act->World->Prop} {S:World->Prop} {i:Nat} {oi:Oper} {listed:Array Bool} {a a':Act} (hi:ops[i]?=some oi:=by (simp only [List.getElem?_toArray,List.getElem?_cons_succ,List.getElem?_cons_zero];rfl))
  (hs:Region.noSelect ops=true:=by kernel_rfl) (hf:Region.free md ops listed i=true:=by kernel_rfl) (hr:(Region.ready md ops listed).contains i=true:=by kernel_rfl)
  (hQ:∀ c a w,Q (.panic c) (a.put oi.dst undef) w->Q (.panic c) a w:=by exact fun _ _ _ h=>h) (hg:Region.wanted oi (yielded ops a.tmps)=false:=by rfl) (ha:a.put oi.dst undef=a':=by (simp only [Act.put,xa,xb,xc];rfl)):Tk P md ops Q S listed i a a':=
 fun _ _ hS h=>wpAnyH_take hi hs hf hr hQ (Or.inr ⟨hg,rfl⟩) hS (ha▸h)
theorem tn {P:Program} {md:Region.Mode} {ops:Array Oper} {Q:Exit->Act->World->Prop} {S:World->Prop} (i:Nat) {fuel:Nat} {listed:Array Bool} {a a':Act} {w:World} (hS:S w) (h:wpAnyH P md ops Q S fuel (listed.setIfInBounds i true) a' w) (t:Tk P md ops Q S listed i a a':=by exact Oo):wpAnyH P md ops Q S (fuel+1) listed a w:=t _ _ hS h
theorem sn {P:Program} {md:Region.Mode} {ops:Array Oper} {Q:Exit->Act->World->Prop} {S:World->Prop} (i:Nat) {fuel:Nat} {listed:Array Bool} {a a':Act} {w:World} (hS:S w) (h:wpAnyH P md ops Q S fuel (listed.setIfInBounds i true) a' w) (t:Tk P md ops Q S listed i a a':=by exact tkZ):wpAnyH P md ops Q S (fuel+1) listed a w:=t _ _ hS h
theorem fe {P:Program} {md:Region.Mode} {ops:Array Oper} {Q:Exit->Act->World->Prop} {S:World->Prop} (i0 i1:Nat) {fuel:Nat} {listed:Array Bool} {a0 a1 a2:Act} {w:World} (hS:S w) (h:wpAnyH P md ops Q S fuel ((listed.setIfInBounds i0 true).setIfInBounds i1 true) a2 w) (x0:Tk P md ops Q S listed i0 a0 a1:=by exact Oo) (x1:Tk P md ops Q S (listed.setIfInBounds i0 true) i1 a1 a2:=by exact Oo):wpAnyH P md ops Q S (fuel+2) listed a0 w:=x0 _ _ hS (x1 _ _ hS h)
theorem gC {P:Program} {md:Region.Mode} {ops:Array Oper} {Q:Exit->Act->World->Prop} {S:World->Prop} (i0 i1 i2 i3:Nat) {fuel:Nat} {listed:Array Bool} {a0 a1 a2 a3 a4:Act} {w:World} (hS:S w) (h:wpAnyH P md ops Q S fuel ((((listed.setIfInBounds i0 true).setIfInBounds i1 true).setIfInBounds i2 true).setIfInBounds i3 true) a4 w) (x0:Tk P md ops Q S listed i0 a0 a1:=by exact Oo) (x1:Tk P md ops Q S (listed.setIfInBounds i0 true) i1 a1 a2:=by exact Oo) (x2:Tk P md ops Q S ((listed.setIfInBounds i0 true).setIfInBounds i1 true) i2 a2 a3:=by exact Oo) (x3:Tk P md ops Q S (((listed.setIfInBounds i0 true).setIfInBounds i1 true).setIfInBounds i2 true) i3 a3 a4:=by exact Oo):wpAnyH P md ops Q S (fuel+4) listed a0 w:=x0 _ _ hS (x1 _ _ hS (x2 _ _ hS (x3 _ _ hS h)))
theorem iI {P:Program} {md:Region.Mode} {ops:Array Oper} {Q:Exit->Act->World->Prop} {S:World->Prop} (i0 i1 i2 i3:Nat) {fuel:Nat} {listed:Array Bool} {a0 a1 a2 a3 a4:Act} {w:World} (hS:S w) (h:wpAnyH P md ops Q S fuel ((((listed.setIfInBounds i0 true).setIfInBounds i1 true).setIfInBounds i2 true).setIfInBounds i3 true) a4 w) (x0:Tk P md ops Q S listed i0 a0 a1:=by exact tkZ) (x1:Tk P md ops Q S (listed.setIfInBounds i0 true) i1 a1 a2:=by exact tkZ) (x2:Tk P md ops Q S ((listed.setIfInBounds i0 true).setIfInBounds i1 true) i2 a2 a3:=by exact tkZ) (x3:Tk P md ops Q S (((listed.setIfInBounds i0 true).setIfInBounds i1 true).setIfInBounds i2 true) i3 a3 a4:=by exact tkZ):wpAnyH P md ops Q S (fuel+4) listed a0 w:=x0 _ _ hS (x1 _ _ hS (x2 _ _ hS (x3 _ _ hS h)))
theorem gy {P:Program} {md:Region.Mode} {ops:Array Oper} {Q:Exit->Act->World->Prop} {S:World->Prop} (i0 i1 i2 i3 i4 i5 i6 i7:Nat) {fuel:Nat} {listed:Array Bool} {a0 a1 a2 a3 a4 a5 a6 a7 a8:Act} {w:World} (hS:S w) (h:wpAnyH P md ops Q S fuel ((((((((listed.setIfInBounds i0 true).setIfInBounds i1 true).setIfInBounds i2 true).setIfInBounds i3 true).setIfInBounds i4 true).setIfInBounds i5 true).setIfInBounds i6 true).setIfInBounds i7 true) a8 w) (x0:Tk P md ops Q S listed i0 a0 a1:=by exact Oo) (x1:Tk P md ops Q S (listed.setIfInBounds i0 true) i1 a1 a2:=by exact Oo) (x2:Tk P md ops Q S ((listed.setIfInBounds i0 true).setIfInBounds i1 true) i2 a2 a3:=by exact Oo) (x3:Tk P md ops Q S (((listed.setIfInBounds i0 true).setIfInBounds i1 true).setIfInBounds i2 true) i3 a3 a4:=by exact Oo) (x4:Tk P md ops Q S ((((listed.setIfInBounds i0 true).setIfInBounds i1 true).setIfInBounds i2 true).setIfInBounds i3 true) i4 a4 a5:=by exact Oo) (x5:Tk P md ops Q S (((((listed.setIfInBounds i0 true).setIfInBounds i1 true).setIfInBounds i2 true).setIfInBounds i3 true).setIfInBounds i4 true) i5 a5 a6:=by exact Oo) (x6:Tk P md ops Q S ((((((listed.setIfInBounds i0 true).setIfInBounds i1 true).setIfInBounds i2 true).setIfInBounds i3 true).setIfInBounds i4 true).setIfInBounds i5 true) i6 a6 a7:=by exact Oo) (x7:Tk P md ops Q S (((((((listed.setIfInBounds i0 true).setIfInBounds i1 true).setIfInBounds i2 true).setIfInBounds i3 true).setIfInBounds i4 true).setIfInBounds i5 true).setIfInBounds i6 true) i7 a7 a8:=by exact Oo):wpAnyH P md ops Q S (fuel+8) listed a0 w:=x0 _ _ hS (x1 _ _ hS (x2 _ _ hS (x3 _ _ hS (x4 _ _ hS (x5 _ _ hS (x6 _ _ hS (x7 _ _ hS h)))))))
theorem ry {P:Program} {md:Region.Mode} {ops:Array Oper} {Q:Exit->Act->World->Prop} {S:World->Prop} (rs:List Nat) {fuel:Nat} {listed:Array Bool} {a:Act} {w:World} (h:AllReadyH P md ops Q S fuel listed a w rs) (hr:Region.ready md ops listed=rs:=by kernel_rfl) (gd:rs≠[]:=by simp):wpAnyH P md ops Q S (fuel+1) listed a w:=wpAnyH_ready hr gd h
theorem cn {P:Program} {md:Region.Mode} {ops:Array Oper} {Q:Exit->Act->World->Prop} {S:World->Prop} {fuel:Nat} {listed:Array Bool} {a:Act} {w:World} {i:Nat} {o:Oper} {rs:List Nat}
  (h:∀ K':Act->World->Prop,Shut (∀ a w,S w->(S w->wpAnyH P md ops Q S fuel (listed.setIfInBounds i true) a w)->K' a w)->if Region.wanted o (yielded ops a.tmps)=true then Oper.wp P o a w K' Q else K' (a.put o.dst undef) w)
  (hs:AllReadyH P md ops Q S fuel listed a w rs) (ho:ops[i]?=some o:=by (simp only [List.getElem?_toArray,List.getElem?_cons_succ,List.getElem?_cons_zero];rfl)):AllReadyH P md ops Q S fuel listed a w (i::rs):=AllReadyH.cons ho h hs
theorem AL {P:Program} {md:Region.Mode} {ops:Array Oper} {Q:Exit->Act->World->Prop} {S:World->Prop} (rs:List Nat) {fuel:Nat} {listed:Array Bool} {a:Act} {w:World} (h:AllReadyH P md ops Q S fuel listed a w rs) (hr:Region.ready md ops listed=rs:=by decide +kernel) (gd:rs≠[]:=by simp):wpAnyH P md ops Q S (fuel+1) listed a w:=wpAnyH_ready hr gd h
structure Tag (n:Nat) (p:Prop):Prop where
 out:p
theorem Tag.go (n:Nat) {p:Prop} (h:p):Tag n p:=⟨h⟩
theorem tZ {P:Program} {md:Region.Mode} {ops:Array Oper} {Q:Exit->Act->World->Prop} {S:World->Prop} {fuel:Nat} {listed:Array Bool} {a:Act} {w:World} {i:Nat} {o:Oper} {rs:List Nat}
  (h:∀ K':Act->World->Prop,Shut (∀ a w,S w->(S w->wpAnyH P md ops Q S fuel (listed.setIfInBounds i true) a w)->K' a w)->Tag i (if Region.wanted o (yielded ops a.tmps)=true then Oper.wp P o a w K' Q else K' (a.put o.dst undef) w))
  (hs:AllReadyH P md ops Q S fuel listed a w rs) (ho:ops[i]?=some o:=by (simp only [List.getElem?_toArray,List.getElem?_cons_succ,List.getElem?_cons_zero];rfl)):AllReadyH P md ops Q S fuel listed a w (i::rs):=AllReadyH.cons ho (fun K' hK=>(h K' hK).out) hs
theorem UG {P:Program} {md:Region.Mode} {ops:Array Oper} {Q:Exit->Act->World->Prop} {S:World->Prop} (i:Nat) {o:Oper} {fuel:Nat} {listed:Array Bool} {a:Act} {w:World} (h:∀ K':Act->World->Prop,Shut (∀ a w,S w->(S w->wpAnyH P md ops Q S fuel (listed.setIfInBounds i true) a w)->K' a w)->Tag i (if Region.wanted o (yielded ops a.tmps)=true then Oper.wp P o a w K' Q else K' (a.put o.dst undef) w)) (ho:ops[i]?=some o:=by (simp only [List.getElem?_toArray,List.getElem?_cons_succ,List.getElem?_cons_zero];rfl)) (hr:Region.ready md ops listed=[i]:=by decide +kernel):wpAnyH P md ops Q S (fuel+1) listed a w:=AL [i] (tZ h AllReadyH.nil ho) hr
theorem Zl {P:Program} {md:Region.Mode} {ops:Array Oper} {Q:Exit->Act->World->Prop} {S:World->Prop} (i j:Nat) {o o':Oper} {fuel:Nat} {listed:Array Bool} {a:Act} {w:World} (h:∀ K':Act->World->Prop,Shut (∀ a w,S w->(S w->wpAnyH P md ops Q S fuel (listed.setIfInBounds i true) a w)->K' a w)->Tag i (if Region.wanted o (yielded ops a.tmps)=true then Oper.wp P o a w K' Q else K' (a.put o.dst undef) w)) (h':∀ K':Act->World->Prop,Shut (∀ a w,S w->(S w->wpAnyH P md ops Q S fuel (listed.setIfInBounds j true) a w)->K' a w)->Tag j (if Region.wanted o' (yielded ops a.tmps)=true then Oper.wp P o' a w K' Q else K' (a.put o'.dst undef) w)) (ho:ops[i]?=some o:=by (simp only [List.getElem?_toArray,List.getElem?_cons_succ,List.getElem?_cons_zero];rfl)) (JZ:ops[j]?=some o':=by (simp only [List.getElem?_toArray,List.getElem?_cons_succ,List.getElem?_cons_zero];rfl)) (hr:Region.ready md ops listed=[i,j]:=by decide +kernel):wpAnyH P md ops Q S (fuel+1) listed a w:=AL [i,j] (tZ h (tZ h' AllReadyH.nil JZ) ho) hr
theorem bH {P:Program} {md:Region.Mode} {ops:Array Oper} {Q:Exit->Act->World->Prop} {S:World->Prop} (i:Nat) {fuel:Nat} {listed:Array Bool} {a:Act} {w:World} {o:Oper} (h:∀ K':Act->World->Prop,Shut (∀ a w,S w->(S w->wpAnyH P md ops Q S fuel (listed.setIfInBounds i true) a w)->K' a w)->if Region.wanted o (yielded ops a.tmps)=true then Oper.wp P o a w K' Q else K' (a.put o.dst undef) w) (ho:ops[i]?=some o:=by (simp only [List.getElem?_toArray,List.getElem?_cons_succ,List.getElem?_cons_zero];rfl)) (hr:Region.ready md ops listed=[i]:=by kernel_rfl):wpAnyH P md ops Q S (fuel+1) listed a w:=ry [i] (cn h AllReadyH.nil ho) hr
theorem cg {P:Program} {md:Region.Mode} {ops:Array Oper} {Q:Exit->Act->World->Prop} {S:World->Prop} {fuel:Nat} {listed:Array Bool} {K:Act->World->Prop} {a a':Act} {w:World} (hK:Shut (∀ a w,S w->(S w->wpAnyH P md ops Q S fuel listed a w)->K a w)) (hS:S w) (h:S w->wpAnyH P md ops Q S fuel listed a' w) (ha:a=a':=by ((try simp only [Act.put,xa,xb,xc]);rfl)):K a w:=hK.out _ _ hS (ha▸h)
open Go.ChangeShapes Go.WideShapes Go.ChangeAt Go.Deep
theorem ae {p:Prop} (h:p):Hid p:=h
theorem aa {p:Prop} (h:Hid p):p:=h
theorem aL {α:Sort _} (x:α) : ∃ y,Hid (x=y):=⟨x,ae rfl⟩
theorem Below.step {W w1 w2:World} (h:Bw W w1) (k:Bw w1 w2):Bw W w2:=h.trans (k.mono h.size)
abbrev U (l:List Int):List Value:=l.map (Value.int .u8)
def Rd (w:World) (v:Value) (l:List Int):Prop:=
 ∃ (p:Option Addr) (cap:Nat),v=.S p l.length cap/\(l=[]\/∃ b o,p=some ⟨b,o,none⟩/\∀ i,i<l.length->w.cell? ⟨b,o+i,none⟩=some (.int .u8 (l.getD i 0)))
abbrev Own (B:Nat) (w:World) (v:Value) (l:List Int):Prop:=w.ownsRow B 5 1 v l.length (U l)
theorem Rd.nil (w:World):Rd w (.S none 0 0) []:=⟨none,0,rfl,.inl rfl⟩
theorem Own.rd {B:Nat} {w:World} {v:Value} {l:List Int} (h:Own B w v l):Rd w v l:=by
 rcases h.2 with ⟨rfl,h0⟩ | ⟨g,cap,cur,rfl,hb,hg,_,_,_,ht⟩;{have:l=[]:=List.eq_nil_of_length_eq_zero h0;subst this;exact Rd.nil w};{refine ⟨_,_,rfl,.inr ⟨g,0,rfl,fun i hi=>?_⟩⟩;have:=World.ownsRow.cellAt (w:=w) (base:=B) h i ab;rw [Nat.zero_add,this];simp [List.getD,aK hi]}
theorem Rd.below {w w':World} {v:Value} {l:List Int} (h:Rd w v l) (hb:Bw w w'):Rd w' v l:=by
 obtain ⟨p,cap,rfl,h⟩:=h;refine ⟨p,cap,rfl,?_⟩;rcases h with h | ⟨b,o,rfl,hc⟩;{exact .inl h};{refine .inr ⟨b,o,rfl,fun i hi=>?_⟩;rw [hb.cell (p:=⟨b,o+i,none⟩) (World.block_lt_of_cell? w _ (hc i hi))];exact hc i hi}
theorem Own.below {B:Nat} {w w':World} {v:Value} {l:List Int} (h:Own B w v l) (hb:Bw w w'):Own B w' v l:=
 h.kept (row:=none) ⟨hb.os,hb.tape,hb.output,hb.size,fun k hk _=>hb.block k hk⟩ (by cases hv:v.ownBlock<;>simp)
theorem Own.mono {B B':Nat} {w:World} {v:Value} {l:List Int} (h:Own B w v l) (hB:B'<=B):Own B' w v l:=by
 refine ⟨h.1,?_⟩;rcases h.2 with h | ⟨g,cap,cur,rfl,hb,r⟩;{exact .inl h};{exact .inr ⟨g,cap,cur,rfl,ab,r⟩}
theorem Tryz.infoByte:(Tryz.prog.info? 5).map (fun i=>(i.zero,i.size,i.bytes))=some (some (.int .u8 0),1,1):=by kernel_rfl
theorem oO {w w':World} (h:w.grownBy w' none):Bw w w':=⟨h.os,h.tape,h.output,h.size,fun k hk=>h.block k hk (by simp)⟩
theorem Au (l1 l2:List Int) (k:Nat) (h1:k<l1.length) (h2:k<l2.length) (h:l1.take k=l2.take k) (e:l1[k]?.getD 0=l2[k]?.getD 0):l1.take (k+1)=l2.take (k+1):=by
 rw [List.take_succ_eq_append_getElem h1,List.take_succ_eq_append_getElem h2,h];simp [aK h1,aK h2] at e;rw [e]
theorem below_drewN {B:Nat} {w w':World} (h:Below B w w') (n:Nat):Below B w (w'.drewN n):=⟨h.os,h.tape,h.output,h.size,h.block⟩
theorem Own.lt {B:Nat} {w:World} {v:Value} {l:List Int} (h:Own B w v l):∀ b,v.ownBlock=some b->B<=b/\b<w.heap.size:=World.ownsRow.lt h
theorem qR (w:World) (row:Option Nat):w.grownBy w row:=⟨rfl,rfl,rfl,Nat.le_refl _,fun _ _ _=>rfl⟩
theorem gK {w w1 w2:World} {row:Option Nat} (h:w.grownBy w1 row) (k:w1.grownBy w2 row):w.grownBy w2 row:=
 ⟨k.os.trans h.os,k.tape.trans h.tape,k.output.trans h.output,Nat.le_trans h.size k.size,fun i hi gd=>(k.block i (Nat.lt_of_lt_of_le hi h.size) gd).trans (h.block i hi gd)⟩
structure Kept (vs:List Value) (w w':World):Prop where
 os:w'.os=w.os
 tape:w'.tape=w.tape
 output:w'.output=w.output
 size:w.heap.size<=w'.heap.size
 block:∀ k,k<w.heap.size->(∀ v∈vs,v.ownBlock≠some k)->w'.heap[k]?=w.heap[k]?
theorem Kept.refl (vs:List Value) (w:World):Kept vs w w:=⟨rfl,rfl,rfl,Nat.le_refl _,fun _ _ _=>rfl⟩
theorem Kept.trans {vs:List Value} {w w1 w2:World} (h:Kept vs w w1) (k:Kept vs w1 w2):Kept vs w w2:=
 ⟨k.os.trans h.os,k.tape.trans h.tape,k.output.trans h.output,Nat.le_trans h.size k.size,fun i hi gd=>(k.block i (Nat.lt_of_lt_of_le hi h.size) gd).trans (h.block i hi gd)⟩
theorem Kept.nR {vs:List Value} {w w':World} (h:Bw w w'):Kept vs w w':=⟨h.os,h.tape,h.output,h.size,fun k hk _=>h.block k hk⟩
theorem Kept.Lj {vs:List Value} {w w':World} {v:Value} (h:w.grownBy w' v.ownBlock) (hv:v∈vs):Kept vs w w':=
 ⟨h.os,h.tape,h.output,h.size,fun k hk gd=>h.block k hk (fun e=>gd v hv e.symm)⟩
theorem Kept.alloc {vs:List Value} {w w':World} (h:Kept vs w w') (o:Obj):Kept vs w (w'.alloc o):=h.trans (Kept.nR (aJ.alloc aA _))
theorem Kept.below {vs:List Value} {w w':World} {B:Nat} (h:Kept vs w w') (hB:B<=w.heap.size) (hv:∀ v∈vs,∀ b,v.ownBlock=some b->B<=b):Below B w w':=
 ⟨h.os,h.tape,h.output,h.size,fun k hk=>h.block k ab (fun v xk e=>by have:=hv v xk k e;omega)⟩
theorem Own.Vs {B:Nat} {vs:List Value} {w w':World} {v:Value} {l:List Int} (h:Own B w v l) (hk:Kept vs w w') (gd:∀ u∈vs,∀ b,v.ownBlock=some b->u.ownBlock≠some b):Own B w' v l:=by
 refine ⟨h.1,?_⟩;rcases h.2 with hn | ⟨g,cap,cur,rfl,hb,hgg,rest⟩;{exact .inl hn};{refine .inr ⟨g,cap,cur,rfl,hb,?_,rest⟩;rw [hk.block g (Array.getElem?_eq_some_iff.1 hgg).1 (fun u hu=>gd u hu g rfl)];exact hgg}
theorem af {w w':World} {b o:Nat} {v:Value} (h:w.cell? ⟨b,o,none⟩=some v) (hb:Bw w w'):w'.cell? ⟨b,o,none⟩=some v:=
 (hb.cell (p:=⟨b,o,none⟩) (World.block_lt_of_cell? w _ h)).trans h
theorem Kept.cellAt {vs:List Value} {w w':World} (h:Kept vs w w') {b:Nat} (hb:b<w.heap.size) (hv:∀ v∈vs,v.ownBlock≠some b):∀ o,w'.cell? ⟨b,o,none⟩=w.cell? ⟨b,o,none⟩:=
 fun o=>World.cell?_of_block (h.block b hb hv)
end Go.Proofs.YtcfcafeciggjeaaGreatDoor
