import Derived.Test.YtcfcafeciggjeaaGreatDoorK13
namespace Go.Proofs.YtcfcafeciggjeaaGreatDoor
set_option linter.all false
set_option maxRecDepth 100000
open Go.ChangeShapes Go.WideShapes Go.ChangeAt Go.RowKit
structure Lf where
 b:Nat
 o:Nat
 k:IntKind
def kK (w:World) (A:List Lf):Prop:=∀ a∈A,(∃ n,w.cell? ⟨a.b,a.o,none⟩=some (.int a.k n))/\w.frozen? ⟨a.b,a.o,none⟩=false
theorem kK.lt {w:World} {A:List Lf} (h:kK w A) {a:Lf} (ha:a∈A):a.b<w.heap.size:=by
 obtain ⟨⟨n,hn⟩,_⟩:=h a ha;exact World.block_lt_of_cell? w _ hn
theorem kK.nil (w:World):kK w []:=fun a ha=>by simp at ha
theorem kK.app {w:World} {A A':List Lf}:kK w (A++A')↔kK w A/\kK w A':=by
 constructor;{intro h;exact ⟨fun a ha=>h a (List.mem_append_left _ ha),fun a ha=>h a (List.mem_append_right _ ha)⟩};{rintro ⟨h,k⟩ a ha;rcases List.mem_append.1 ha with ha | ha;{exact h a ha};{exact k a ha}}
theorem kK.sub {w:World} {A A':List Lf} (h:kK w A) (hs:∀ a∈A',a∈A):kK w A':=fun a ha=>h a (hs a ha)
def LvL {α:Type} (P:α->Nat->Nat->List Lf->Prop) (sz:Nat) (v:Value) (xs:List α) (A:List Lf):Prop:=
 ∃ (p:Option Addr) (c:Nat) (Ls:List (List Lf)),v=.S p xs.length c/\Ls.length=xs.length/\A=Ls.flatten/\(xs=[]\/∃ b o,p=some ⟨b,o,none⟩/\∀ i x l,xs[i]?=some x->Ls[i]?=some l->P x b (o+i*sz) l)
theorem LvL.imp {α:Type} {P P':α->Nat->Nat->List Lf->Prop} {sz:Nat} {v:Value} {xs:List α} {A:List Lf} (h:LvL P sz v xs A) (hi:∀ x b a l,x∈xs->(∀ y∈l,y∈A)->P x b a l->P' x b a l):LvL P' sz v xs A:=by
 obtain ⟨p,c,Ls,h1,h2,h3,h4⟩:=h;refine ⟨p,c,Ls,h1,h2,h3,?_⟩;rcases h4 with h4 | ⟨b,o,h5,h6⟩;{exact .inl h4};{refine .inr ⟨b,o,h5,fun i x l hx hl=>hi _ _ _ _ (aF hx) (fun y hy=>?_) (h6 i x l hx hl)⟩;rw [h3];exact List.mem_flatten.2 ⟨l,aF hl,hy⟩}
def LvI (kd:IntKind) (x:Int) (b a:Nat) (l:List Lf):Prop:=l=[⟨b,a,kd⟩]
abbrev JI (v:Value) (xs:List Int) (A:List Lf):Prop:=LvL (LvI .u8) 1 v xs A
abbrev XE (v:Value) (xs:List Int) (A:List Lf):Prop:=LvL (LvI .u64) 1 v xs A
def LvEv (w:World) (x:Ev) (b a:Nat) (l:List Lf):Prop:=
 ∃ p c lb,l=⟨b,a,.i64⟩::lb/\w.cell? ⟨b,a+1,none⟩=some (.S p x.2.length c)/\JI (.S p x.2.length c) x.2 lb
abbrev LvE (w:World) (v:Value) (xs:List Ev) (A:List Lf):Prop:=LvL (LvEv w) 2 v xs A
def LvSe (w:World) (x:aY) (b a:Nat) (l:List Lf):Prop:=
 ∃ p c lq,l=⟨b,a,.u64⟩::⟨b,a+1,.i64⟩::lq/\w.cell? ⟨b,a+2,none⟩=some (.S p x.2.2.length c)/\LvE w (.S p x.2.2.length c) x.2.2 lq
abbrev LvS (w:World) (v:Value) (xs:List aY) (A:List Lf):Prop:=LvL (LvSe w) 3 v xs A
def LvNo (w:World) (x:aD) (b a:Nat) (l:List Lf):Prop:=
 ∃ p0 c0 p1 c1 p4 c4 p7 c7 l0 l1 l4 l7,l=l0++(l1++(⟨b,a+2,.u64⟩::⟨b,a+3,.i64⟩::(l4++(⟨b,a+5,.u64⟩::⟨b,a+6,.u64⟩::l7)))) ∧
  (w.cell? ⟨b,a,none⟩=some (.S p0 x.path.length c0)/\JI (.S p0 x.path.length c0) x.path l0) ∧
  (w.cell? ⟨b,a+1,none⟩=some (.S p1 x.value.length c1)/\JI (.S p1 x.value.length c1) x.value l1) ∧
  (w.cell? ⟨b,a+4,none⟩=some (.S p4 x.holders.length c4)/\XE (.S p4 x.holders.length c4) x.holders l4) ∧
  (w.cell? ⟨b,a+7,none⟩=some (.S p7 x.watchers.length c7)/\XE (.S p7 x.watchers.length c7) x.watchers l7)
abbrev LvN (w:World) (v:Value) (xs:List aD) (A:List Lf):Prop:=LvL (LvNo w) 8 v xs A
theorem LvL.at {α:Type} {P:α->Nat->Nat->List Lf->Prop} {sz:Nat} {p:Option Addr} {n c:Nat} {xs:List α} {A:List Lf} (h:LvL P sz (.S p n c) xs A) :
  ∃ Ls:List (List Lf),n=xs.length/\Ls.length=n/\A=Ls.flatten/\∀ k,k<n->∃ b o x l,p=some ⟨b,o,none⟩/\xs[k]?=some x/\Ls[k]?=some l/\P x b (o+k*sz) l/\(Ls.take (k+1)).flatten=(Ls.take k).flatten++l/\∀ y∈l,y∈A:=by
 obtain ⟨p',c',Ls,h1,h2,h3,h4⟩:=h;simp only [Value.slice.injEq] at h1;obtain ⟨rfl,rfl,rfl⟩:=h1;refine ⟨Ls,rfl,h2,h3,fun k hk=>?_⟩;obtain ⟨x,hx⟩:∃ x,xs[k]?=some x:=⟨_,aK hk⟩;obtain ⟨l,hl⟩:∃ l,Ls[k]?=some l:=⟨_,aK ab⟩;rcases h4 with h4 | ⟨b,o,h5,h6⟩;{rw [h4] at hk;simp at hk};{refine ⟨b,o,x,l,h5,hx,hl,h6 k x l hx hl,?_,fun y hy=>?_⟩;{rw [List.take_add_one,hl];simp};{rw [h3];exact List.mem_flatten.2 ⟨l,aF hl,hy⟩}}
theorem mh {Ls:List (List Lf)} {k:Nat} {y:Lf} (h:y∈(Ls.take k).flatten):y∈Ls.flatten:=by
 obtain ⟨l,hl,hy⟩:=List.mem_flatten.1 h;exact List.mem_flatten.2 ⟨l,List.mem_of_mem_take hl,hy⟩
end Go.Proofs.YtcfcafeciggjeaaGreatDoor
