import Derived.Test.YtcfcafeciggjeaaGreatDoorK11
namespace Go.Proofs.YtcfcafeciggjeaaGreatDoor
set_option linter.unusedVariables false
set_option linter.unusedSimpArgs false
set_option maxRecDepth 100000
open Go.ChangeShapes Go.WideShapes Go.ChangeAt Go.RowKit
variable {K k k0:Int} {V w w' w1 w2 wr:World} {a b o sz:Nat} {kd:IntKind} {p:Option Addr} {v:Value}
structure Lf where
 b:Nat
 o:Nat
 k:IntKind
def dm (w:World) (A:List Lf):Prop:=∀ a∈A,(∃ n,w.cell? ⟨a.b,a.o,none⟩=some (.int a.k n))/\w.frozen? ⟨a.b,a.o,none⟩=false
def Ow (kd:IntKind) (k:Int):Int:=match kd with | .u8=>k % 256 | _=>k
structure Mk (w w':World) (A:List Lf) (k:Int):Prop where
 os:w'.os=w.os
 tape:w'.tape=w.tape
 output:w'.output=w.output
 size:w.heap.size<=w'.heap.size
 aB:∀ b,b<w.heap.size->(∀ a∈A,a.b≠b)->w'.heap[b]?=w.heap[b]?
 aM:∀ b o,b<w.heap.size->(∀ a∈A,¬ (a.b=b/\a.o=o))->w'.cell? ⟨b,o,none⟩=w.cell? ⟨b,o,none⟩
 fz:∀ b o,b<w.heap.size->w'.frozen? ⟨b,o,none⟩=w.frozen? ⟨b,o,none⟩
 int:∀ a∈A,∃ n,w'.cell? ⟨a.b,a.o,none⟩=some (.int a.k n)
 val:(A.map fun a=>(a.b,a.o)).Nodup->∀ (i:Nat) (a:Lf),A[i]?=some a->w'.cell? ⟨a.b,a.o,none⟩=some (.int a.k (Ow a.k (k+i)))
theorem dm.lt {A:List Lf} (h:dm w A) {a:Lf} (ha:a∈A):a.b<w.heap.size:=by
 obtain ⟨⟨n,hn⟩,_⟩:=h a ha;exact World.block_lt_of_cell? w _ hn
theorem dm.nil (w:World):dm w []:=fun a ha=>by simp at ha
theorem dm.app {A A':List Lf}:dm w (A++A')↔dm w A/\dm w A':=by
 constructor;{intro h;exact ⟨fun a ha=>h a (List.mem_append_left _ ha),fun a ha=>h a (List.mem_append_right _ ha)⟩};{rintro ⟨h,k⟩ a ha;rcases List.mem_append.1 ha with ha | ha;{exact h a ha};{exact k a ha}}
theorem dm.sub {A A':List Lf} (h:dm w A) (hs:∀ a∈A',a∈A):dm w A':=fun a ha=>h a (hs a ha)
theorem dm.below {A:List Lf} (h:dm w A) (hb:Below w.heap.size w w'):dm w' A:=fun a ha=>by
 obtain ⟨⟨n,hn⟩,hf⟩:=h a ha;exact ⟨⟨n,af hn hb⟩,(hb.frozen (p:=⟨a.b,a.o,none⟩) (h.lt ha)).trans hf⟩
theorem Mk.gW (h:Below w.heap.size w w') (k:Int):Mk w w' [] k:=
 ⟨h.os,h.tape,h.output,h.size,fun b hb _=>h.block b hb,fun b o hb _=>h.cell (p:=⟨b,o,none⟩) hb,fun b o hb=>h.frozen (p:=⟨b,o,none⟩) hb,fun a ha=>by simp at ha,fun _ i a ha=>by simp at ha⟩
theorem Mk.refl (w:World) (k:Int):Mk w w [] k:=Mk.gW ay k
theorem Mk.one {k n:Int} (hc:w.cell? ⟨b,o,none⟩=some (.int kd n)):Mk w (w.setCell ⟨b,o,none⟩ (.int kd (Ow kd k))) [⟨b,o,kd⟩] k:=by
 have hs:(w.setCell ⟨b,o,none⟩ (.int kd (Ow kd k))).cell? ⟨b,o,none⟩=some (.int kd (Ow kd k)):=World.cell?_setCell_same' w _ _ (by rw [hc];rfl);refine ⟨rfl,rfl,rfl,by simp,fun b' hb bq=>dt _ _ _ _ (fun e=>bq ⟨b,o,kd⟩ (by simp) e.symm),fun b' o' hb bq=>?_,fun b' o' hb=>?_,fun a ha=>?_,fun _ i a ha=>?_⟩;{have h1:=bq ⟨b,o,kd⟩ (by simp);simp only at h1;exact World.cell?_setCell_other _ _ _ _ (fun e=>h1 (by simpa using e))};{simp};{simp at ha;subst ha;exact ⟨_,hs⟩};{
 cases i with
 | zero=>simp at ha;subst ha;simpa using hs
 | succ i=>simp at ha}
theorem Mk.trans {A A2:List Lf} (h:Mk w w1 A k) (h2:Mk w1 w2 A2 (k+A.length)) (hA:dm w A) (XJ:dm w A2):Mk w w2 (A++A2) k:=by
 refine ⟨h2.os.trans h.os,h2.tape.trans h.tape,h2.output.trans h.output,Nat.le_trans h.size h2.size,fun b hb bq=>?_,fun b o hb bq=>?_,fun b o hb=>?_,fun a ha=>?_,fun aK i a ha=>?_⟩;{exact (h2.aB b (Nat.lt_of_lt_of_le hb h.size) (fun a ha=>bq a (List.mem_append_right _ ha))).trans (h.aB b hb (fun a ha=>bq a (List.mem_append_left _ ha)))};{exact (h2.aM b o (Nat.lt_of_lt_of_le hb h.size) (fun a ha=>bq a (List.mem_append_right _ ha))).trans (h.aM b o hb (fun a ha=>bq a (List.mem_append_left _ ha)))};{exact (h2.fz b o (Nat.lt_of_lt_of_le hb h.size)).trans (h.fz b o hb)};{by_cases h3:∃ a2∈A2,a2.b=a.b/\a2.o=a.o;{obtain ⟨a2,m2,e1,e2⟩:=h3;obtain ⟨n,hn⟩:=h2.int a2 m2;obtain ⟨⟨n1,Fg⟩,_⟩:=XJ a2 m2;obtain ⟨⟨n2,zR⟩,_⟩:=dm.app.2 ⟨hA,XJ⟩ a ha;rw [e1,e2] at hn Fg;rw [Fg] at zR;simp only [Option.some.injEq,Value.int.injEq] at zR;exact ⟨n,by rw [hn,zR.1]⟩};{rcases List.mem_append.1 ha with ha | ha;{obtain ⟨n,hn⟩:=h.int a ha;refine ⟨n,(h2.aM a.b a.o (Nat.lt_of_lt_of_le (hA.lt ha) h.size) (fun a2 m2 e=>h3 ⟨a2,m2,e⟩)).trans hn⟩};{exact absurd ⟨a,ha,rfl,rfl⟩ h3}}};{
 rw [List.map_append,List.nodup_append] at aK;obtain ⟨n1,n2,n3⟩:=aK;by_cases hi:i<A.length;{rw [List.getElem?_append_left hi] at ha;have hm:=aF ha;refine (h2.aM a.b a.o (Nat.lt_of_lt_of_le (hA.lt hm) h.size) (fun a2 m2 e=>?_)).trans (h.val n1 i a ha);exact n3 (a.b,a.o) (List.mem_map_of_mem hm) (a2.b,a2.o) (List.mem_map_of_mem m2) (by rw [e.1,e.2])};{
 rw [List.getElem?_append_right (by omega)] at ha;have:=h2.val n2 (i-A.length) a ha;rw [this]
 congr 3
 omega}}
theorem dm.mk {A A':List Lf} (h:dm w A') (hm:Mk w w' A k) (hA:dm w A):dm w' A':=fun a ha=>by
 obtain ⟨⟨n,hn⟩,hf⟩:=h a ha;refine ⟨?_,(hm.fz _ _ (h.lt ha)).trans hf⟩;by_cases h3:∃ a2∈A,a2.b=a.b/\a2.o=a.o;{obtain ⟨a2,m2,e1,e2⟩:=h3;obtain ⟨n',zS⟩:=hm.int a2 m2;obtain ⟨⟨n1,Fg⟩,_⟩:=hA a2 m2;rw [e1,e2] at zS Fg;rw [hn] at Fg;simp only [Option.some.injEq,Value.int.injEq] at Fg;exact ⟨n',by rw [zS,Fg.1]⟩};{exact ⟨n,(hm.aM _ _ (h.lt ha) (fun a2 m2 e=>h3 ⟨a2,m2,e⟩)).trans hn⟩}
theorem Mk.head {A:List Lf} (hm:Mk w w' A k) (hA:dm w A) {n c:Nat} (h:w.cell? ⟨b,o,none⟩=some (.slice p n c)):w'.cell? ⟨b,o,none⟩=some (.slice p n c):=by
 refine (hm.aM b o (World.block_lt_of_cell? w _ h) (fun a ha e=>?_)).trans h;obtain ⟨⟨n',hn⟩,_⟩:=hA a ha;rw [e.1,e.2,h] at hn;simp at hn
theorem Mk.below {A:List Lf} {B:Nat} (hm:Mk w w' A k) (hB:∀ a∈A,B<=a.b) (hz:B<=w.heap.size):Below B w w':=
 ⟨hm.os,hm.tape,hm.output,hm.size,fun b hb=>hm.aB b (by omega) (fun a ha e=>by have:=hB a ha;omega)⟩
def EA {α:Type} (P:α->Nat->Nat->List Lf->Prop) (sz:Nat) (v:Value) (xs:List α) (A:List Lf):Prop:=
 ∃ (p:Option Addr) (c:Nat) (Ls:List (List Lf)),v=.slice p xs.length c/\Ls.length=xs.length/\A=Ls.flatten/\(xs=[]\/∃ b o,p=some ⟨b,o,none⟩/\∀ i x l,xs[i]?=some x->Ls[i]?=some l->P x b (o+i*sz) l)
theorem EA.imp {α:Type} {P P':α->Nat->Nat->List Lf->Prop} {xs:List α} {A:List Lf} (h:EA P sz v xs A) (hi:∀ x b a l,x∈xs->(∀ y∈l,y∈A)->P x b a l->P' x b a l):EA P' sz v xs A:=by
 obtain ⟨p,c,Ls,h1,h2,h3,h4⟩:=h;refine ⟨p,c,Ls,h1,h2,h3,?_⟩;rcases h4 with h4 | ⟨b,o,h5,h6⟩;{exact .inl h4};{refine .inr ⟨b,o,h5,fun i x l hx hl=>hi _ _ _ _ (aF hx) (fun y hy=>?_) (h6 i x l hx hl)⟩;rw [h3];exact List.mem_flatten.2 ⟨l,aF hl,hy⟩}
def LvI (kd:IntKind) (x:Int) (b a:Nat) (l:List Lf):Prop:=l=[⟨b,a,kd⟩]
abbrev EF (v:Value) (xs:List Int) (A:List Lf):Prop:=EA (LvI .u8) 1 v xs A
abbrev QN (v:Value) (xs:List Int) (A:List Lf):Prop:=EA (LvI .u64) 1 v xs A
def zG (w:World) (x:Ev) (b a:Nat) (l:List Lf):Prop:=
 ∃ p c lb,l=⟨b,a,.i64⟩::lb/\w.cell? ⟨b,a+1,none⟩=some (.slice p x.2.length c)/\EF (.slice p x.2.length c) x.2 lb
abbrev tC (w:World) (v:Value) (xs:List Ev) (A:List Lf):Prop:=EA (zG w) 2 v xs A
def zy (w:World) (x:aL) (b a:Nat) (l:List Lf):Prop:=
 ∃ p c lq,l=⟨b,a,.u64⟩::⟨b,a+1,.i64⟩::lq/\w.cell? ⟨b,a+2,none⟩=some (.slice p x.2.2.length c)/\tC w (.slice p x.2.2.length c) x.2.2 lq
abbrev zE (w:World) (v:Value) (xs:List aL) (A:List Lf):Prop:=EA (zy w) 3 v xs A
def zF (w:World) (x:aA) (b a:Nat) (l:List Lf):Prop:=
 ∃ p0 c0 p1 c1 p4 c4 p7 c7 l0 l1 l4 l7,l=l0++(l1++(⟨b,a+2,.u64⟩::⟨b,a+3,.i64⟩::(l4++(⟨b,a+5,.u64⟩::⟨b,a+6,.u64⟩::l7)))) ∧
  (w.cell? ⟨b,a,none⟩=some (.slice p0 x.path.length c0)/\EF (.slice p0 x.path.length c0) x.path l0) ∧
  (w.cell? ⟨b,a+1,none⟩=some (.slice p1 x.value.length c1)/\EF (.slice p1 x.value.length c1) x.value l1) ∧
  (w.cell? ⟨b,a+4,none⟩=some (.slice p4 x.holders.length c4)/\QN (.slice p4 x.holders.length c4) x.holders l4) ∧
  (w.cell? ⟨b,a+7,none⟩=some (.slice p7 x.watchers.length c7)/\QN (.slice p7 x.watchers.length c7) x.watchers l7)
abbrev Af (w:World) (v:Value) (xs:List aA) (A:List Lf):Prop:=EA (zF w) 8 v xs A
theorem zG.mk {x:Ev} {l:List Lf} {A:List Lf} (h:zG w x b a l) (hm:Mk w w' A k) (hA:dm w A):zG w' x b a l:=by
 obtain ⟨p,c,lb,h1,h2,h3⟩:=h;exact ⟨p,c,lb,h1,hm.head hA h2,h3⟩
theorem tC.mk {xs:List Ev} {l:List Lf} {A:List Lf} (h:tC w v xs l) (hm:Mk w w' A k) (hA:dm w A):tC w' v xs l:=h.imp fun _ _ _ _ _ _ h=>h.mk hm hA
theorem zy.mk {x:aL} {l:List Lf} {A:List Lf} (h:zy w x b a l) (hm:Mk w w' A k) (hA:dm w A):zy w' x b a l:=by
 obtain ⟨p,c,lb,h1,h2,h3⟩:=h;exact ⟨p,c,lb,h1,hm.head hA h2,tC.mk h3 hm hA⟩
theorem zE.mk {xs:List aL} {l:List Lf} {A:List Lf} (h:zE w v xs l) (hm:Mk w w' A k) (hA:dm w A):zE w' v xs l:=h.imp fun _ _ _ _ _ _ h=>h.mk hm hA
theorem zF.mk {x:aA} {l:List Lf} {A:List Lf} (h:zF w x b a l) (hm:Mk w w' A k) (hA:dm w A):zF w' x b a l:=by
 obtain ⟨p0,c0,p1,c1,p4,c4,p7,c7,l0,l1,l4,l7,h1,⟨h2,h3⟩,⟨h4,h5⟩,⟨h6,h7⟩,⟨h8,h9⟩⟩:=h;exact ⟨p0,c0,p1,c1,p4,c4,p7,c7,l0,l1,l4,l7,h1,⟨hm.head hA h2,h3⟩,⟨hm.head hA h4,h5⟩,⟨hm.head hA h6,h7⟩,⟨hm.head hA h8,h9⟩⟩
theorem Af.mk {xs:List aA} {l:List Lf} {A:List Lf} (h:Af w v xs l) (hm:Mk w w' A k) (hA:dm w A):Af w' v xs l:=h.imp fun _ _ _ _ _ _ h=>h.mk hm hA
theorem EA.at {α:Type} {P:α->Nat->Nat->List Lf->Prop} {n c:Nat} {xs:List α} {A:List Lf} (h:EA P sz (.slice p n c) xs A) :
  ∃ Ls:List (List Lf),n=xs.length/\Ls.length=n/\A=Ls.flatten/\∀ k,k<n->∃ b o x l,p=some ⟨b,o,none⟩/\xs[k]?=some x/\Ls[k]?=some l/\P x b (o+k*sz) l/\(Ls.take (k+1)).flatten=(Ls.take k).flatten++l/\∀ y∈l,y∈A:=by
 obtain ⟨p',c',Ls,h1,h2,h3,h4⟩:=h;simp only [Value.slice.injEq] at h1;obtain ⟨rfl,rfl,rfl⟩:=h1;refine ⟨Ls,rfl,h2,h3,fun k hk=>?_⟩;obtain ⟨x,hx⟩:∃ x,xs[k]?=some x:=⟨_,aE hk⟩;obtain ⟨l,hl⟩:∃ l,Ls[k]?=some l:=⟨_,aE (by omega)⟩;rcases h4 with h4 | ⟨b,o,h5,h6⟩;{rw [h4] at hk;simp at hk};{refine ⟨b,o,x,l,h5,hx,hl,h6 k x l hx hl,?_,fun y hy=>?_⟩;{rw [List.take_add_one,hl];simp};{rw [h3];exact List.mem_flatten.2 ⟨l,aF hl,hy⟩}}
theorem jH {Ls:List (List Lf)} {k:Nat} {y:Lf} (h:y∈(Ls.take k).flatten):y∈Ls.flatten:=by
 obtain ⟨l,hl,hy⟩:=List.mem_flatten.1 h;exact List.mem_flatten.2 ⟨l,List.mem_of_mem_take hl,hy⟩

theorem Mk.trans' {A A2:List Lf} (h:Mk w w1 A k) (h2:Mk w1 w2 A2 K) (e:K=k+A.length) (hA:dm w A) (XJ:dm w A2):Mk w w2 (A++A2) k:=by
 subst e;exact h.trans h2 hA XJ
theorem Mk.set {acc l:List Lf} (h:Mk wr V acc k0) (jL:dm wr l) (K8:∀ a∈acc,a∈l) (hm:Lf.mk b o kd∈l) (e:K=k0+acc.length):Mk wr (V.setCell ⟨b,o,none⟩ (.int kd (Ow kd K))) (acc++[⟨b,o,kd⟩]) k0:=by
 obtain ⟨⟨n,hn⟩,hf⟩:=jL.mk h (jL.sub K8) _ hm;exact h.trans' (Mk.one hn) e (jL.sub K8) (fun a ha=>jL a (by simp at ha;rw [ha];exact hm))
theorem Mk.call {V':World} {acc lf l:List Lf} (h:Mk wr V acc k0) (h2:Mk V V' lf K) (jL:dm wr l) (K8:∀ a∈acc,a∈l) (hlf:∀ a∈lf,a∈l) (e:K=k0+acc.length):Mk wr V' (acc++lf) k0:=
 h.trans' h2 e (jL.sub K8) (jL.sub hlf)
end Go.Proofs.YtcfcafeciggjeaaGreatDoor
