import Derived.Test.YtmfjiolopcbcmaaGreatDoorK12
import Derived.Test.YtmfjiolopcbcmaaGreatDoorK13
namespace Go.Proofs.YtmfjiolopcbcmaaGreatDoor
set_option linter.unusedVariables false
set_option linter.unusedSimpArgs false
set_option maxRecDepth 100000
open Go.ChangeShapes Go.WideShapes Go.ChangeAt Go.RowKit
variable {A:List Lf} {B i j:Nat} {Ls:List (List Lf)} {c:List Value} {cs:List (List Value)} {ty:TypeId} {v:Value} {w w':World} {xs:List Int}
structure jJ (B:Nat) (w:World) (A:List Lf):Prop where
 nd:(A.map fun a=>(a.b,a.o)).Nodup
 lo:∀ a∈A,B<=a.b
 oz:aP w A
theorem jJ.nil (B:Nat) (w:World):jJ B w []:=⟨by simp,fun a ha=>by simp at ha,aP.nil w⟩
theorem jJ.mono {B':Nat} (h:jJ B w A) (hB:B'<=B):jJ B' w A:=⟨h.nd,fun a ha=>Nat.le_trans hB (h.lo a ha),h.oz⟩
theorem jJ.app {M:Nat} {A2:List Lf} (h:jJ B w A) (h2:jJ M w A2) (hB:B<=M) (hM:∀ a∈A,a.b<M):jJ B w (A++A2):=by
 refine ⟨?_,fun a ha=>?_,aP.app.2 ⟨h.oz,h2.oz⟩⟩;{rw [List.map_append,List.nodup_append];refine ⟨h.nd,h2.nd,fun x hx y hy=>?_⟩;obtain ⟨a,ha,rfl⟩:=List.mem_map.1 hx;obtain ⟨a2,qc,rfl⟩:=List.mem_map.1 hy;intro e;have:=hM a ha;have:=h2.lo a2 qc;simp only [Prod.mk.injEq] at e;omega};{rcases List.mem_append.1 ha with ha | ha;{exact h.lo a ha};{exact Nat.le_trans hB (h2.lo a ha)}}
theorem aP.aN (h:aP w A) (hk:∀ a∈A,w'.heap[a.b]?=w.heap[a.b]?):aP w' A:=fun a ha=>by
 obtain ⟨⟨n,hn⟩,hf⟩:=h a ha;exact ⟨⟨n,(World.cell?_of_block (w:=w) (a:=⟨a.b,a.o,none⟩) (hk a ha)).trans hn⟩,(World.frozen?_of_block (w:=w) (a:=⟨a.b,a.o,none⟩) (hk a ha)).trans hf⟩
theorem jJ.aN (h:jJ B w A) (hk:∀ a∈A,w'.heap[a.b]?=w.heap[a.b]?):jJ B w' A:=⟨h.nd,h.lo,h.oz.aN hk⟩
def dM {α:Type} (el:World->α->List Value->List Lf->Prop) (ty:TypeId) (sz B:Nat) (w:World) (v:Value) (xs:List α) (Ls:List (List Lf)):Prop:=
 ∃ cs:List (List Value),cs.length=xs.length/\Ls.length=xs.length/\(∀ c∈cs,c.length=sz)/\w.ownsRow B ty sz v xs.length cs.flatten ∧
  (∀ (i:Nat) (x:α) (c:List Value) (l:List Lf),xs[i]?=some x->cs[i]?=some c->Ls[i]?=some l->el w x c l)/\jJ B w Ls.flatten/\∀ a∈Ls.flatten,v.ownBlock≠some a.b
theorem dM.nil {α:Type} (el:World->α->List Value->List Lf->Prop) (ty:TypeId) (sz B:Nat) (w:World):dM el ty sz B w (.slice none 0 0) [] []:=
 ⟨[],rfl,rfl,fun c hc=>by simp at hc,by simpa using World.ownsRow_nil w B ty sz,fun i x c l hx=>by simp at hx,by simpa using jJ.nil B w,fun a ha=>by simp at ha⟩
theorem dM.aN {α:Type} {el:World->α->List Value->List Lf->Prop} {sz B:Nat} {xs:List α} (h:dM el ty sz B w v xs Ls)
  (cF:∀ x c l,el w x c l->(∀ a∈l,w'.heap[a.b]?=w.heap[a.b]?)->el w' x c l) (hz:w.heap.size<=w'.heap.size) (hr:∀ b,v.ownBlock=some b->w'.heap[b]?=w.heap[b]?) (hl:∀ a∈Ls.flatten,w'.heap[a.b]?=w.heap[a.b]?) :
  dM el ty sz B w' v xs Ls:=by
 obtain ⟨cs,h1,h2,h3,h4,h5,h6,h7⟩:=h;refine ⟨cs,h1,h2,h3,?_,fun i x c l hx hc CK=>cF _ _ _ (h5 i x c l hx hc CK) (fun a ha=>hl a (List.mem_flatten.2 ⟨l,aL CK,ha⟩)),h6.aN hl,h7⟩;refine ⟨h4.1,?_⟩;rcases h4.2 with hn | ⟨g,cap,cur,rfl,hb,hg,rest⟩;{exact .inl hn};{exact .inr ⟨g,cap,cur,rfl,hb,(hr g rfl).trans hg,rest⟩}
theorem dM.below {α:Type} {el:World->α->List Value->List Lf->Prop} {sz B:Nat} {xs:List α} (h:dM el ty sz B w v xs Ls)
  (cF:∀ w w' x c l,el w x c l->(∀ a∈l,w'.heap[a.b]?=w.heap[a.b]?)->el w' x c l) (hb:Below w.heap.size w w'):dM el ty sz B w' v xs Ls:=by
 have h':=h;obtain ⟨cs,h1,h2,h3,h4,h5,h6,h7⟩:=h';exact h.aN (cF w w') hb.size (fun b hv=>hb.block b (h4.lt b hv).2) (fun a ha=>hb.block _ (h6.oz.lt ha))
theorem dM.snoc {α:Type} {el:World->α->List Value->List Lf->Prop} {sz B M:Nat} {v':Value} {xs:List α} {x:α} {l:List Lf} 
  (h1:cs.length=xs.length) (h2:Ls.length=xs.length) (h3:∀ c∈cs,c.length=sz) (h5:∀ (i:Nat) (x:α) (c:List Value) (l:List Lf),xs[i]?=some x->cs[i]?=some c->Ls[i]?=some l->el w x c l) (h6:jJ B w Ls.flatten) (h7:∀ a∈Ls.flatten,v.ownBlock≠some a.b)
  (cF:∀ w w' x c l,el w x c l->(∀ a∈l,w'.heap[a.b]?=w.heap[a.b]?)->el w' x c l) (hx:el w x c l) (hc:c.length=sz) (hA:jJ M w l) (hBM:B<=M) (hM:∀ a∈Ls.flatten,a.b<M) (hvM:∀ b,v.ownBlock=some b->b<M)
  (dN:w'.ownsRow B ty sz v' (xs.length+1) (cs.flatten++c)) (hg:w.grownBy w' v.ownBlock) (ku:∀ g,v'.ownBlock=some g->v.ownBlock=some g\/w.heap.size<=g) :
  dM el ty sz B w' v' (xs++[x]) (Ls++[l]):=by
 have hk:∀ a∈Ls.flatten++l,w'.heap[a.b]?=w.heap[a.b]?:=fun a ha=>by rcases List.mem_append.1 ha with ha | ha;{exact hg.block _ (h6.oz.lt ha) (fun e=>h7 a ha e.symm)};{exact hg.block _ (hA.oz.lt ha) (fun e=>by have:=hvM a.b e.symm;have:=hA.lo a ha;omega)}
 refine ⟨cs++[c],by simp [h1],by simp [h2],fun c' gq=>?_,?_,fun i y c' l' hy gq CK=>?_,?_,fun a ha=>?_⟩;{rcases List.mem_append.1 gq with gq | gq;{exact h3 c' gq};{simp at gq;subst gq;exact hc}};{simpa using dN};{
 by_cases hi:i<xs.length;{rw [List.getElem?_append_left hi] at hy;rw [List.getElem?_append_left (by omega)] at gq CK;exact cF w w' _ _ _ (h5 i y c' l' hy gq CK) (fun a ha=>hk a (List.mem_append_left _ (List.mem_flatten.2 ⟨l',aL CK,ha⟩)))};{
 have ei:i=xs.length:=by have:=(aM.1 hy).1;simp at this;omega
 subst ei;simp at hy;rw [<-h1] at gq;simp at gq;rw [<-h2] at CK;simp at CK;subst hy gq CK;exact cF w w' _ _ _ hx (fun a ha=>hk a (List.mem_append_right _ ha))}};{
 have:(Ls++[l]).flatten=Ls.flatten++l:=by simp
 rw [this];exact (h6.app hA hBM hM).aN hk};{
 have:(Ls++[l]).flatten=Ls.flatten++l:=by simp
 rw [this] at ha;intro e;rcases ku _ e with e1 | e1;{rcases List.mem_append.1 ha with ha | ha;{exact h7 a ha e1};{have:=hvM a.b e1;have:=hA.lo a ha;omega}};{
 have:a.b<w.heap.size:=by rcases List.mem_append.1 ha with ha | ha;{exact h6.oz.lt ha};{exact hA.oz.lt ha}
 omega}}
theorem dM.lt {α:Type} {el:World->α->List Value->List Lf->Prop} {sz B:Nat} {xs:List α} (h:dM el ty sz B w v xs Ls):(∀ b,v.ownBlock=some b->B<=b/\b<w.heap.size)/\∀ a∈Ls.flatten,B<=a.b/\a.b<w.heap.size:=by
 obtain ⟨cs,h1,h2,h3,h4,h5,h6,h7⟩:=h;exact ⟨fun b hb=>h4.lt b hb,fun a ha=>⟨h6.lo a ha,h6.oz.lt ha⟩⟩
theorem rn {sz:Nat} (h:∀ c∈cs,c.length=sz) (hc:cs[i]?=some c) (hj:j<sz):cs.flatten[i*sz+j]?=c[j]?:=by
 induction cs generalizing i with
 | nil=>simp at hc
 | cons d cs ih=>
  cases i with
  | zero=>
   simp at hc;subst hc;rw [List.flatten_cons,List.getElem?_append_left (by rw [h d (by simp)];omega)];simp
  | succ i=>
   rw [List.flatten_cons,List.getElem?_append_right (by rw [h d (by simp),Nat.succ_mul];omega),h d (by simp)];have:=ih (fun c hc=>h c (by simp [hc])) (by simpa using hc);rw [<-this]
   congr 1
   rw [Nat.succ_mul];omega
theorem dM.lv {α:Type} {el:World->α->List Value->List Lf->Prop} {sz B:Nat} {xs:List α} (h:dM el ty sz B w v xs Ls) (P:α->Nat->Nat->List Lf->Prop)
  (ij:∀ x c l b a,el w x c l->(∀ j u,c[j]?=some u->w.cell? ⟨b,a+j,none⟩=some u)->(∀ o,w.frozen? ⟨b,o,none⟩=false)->(∀ y∈l,y.b≠b)->aP w l->(l.map fun a=>(a.b,a.o)).Nodup →
   ∃ L,P x b a L/\(L.map fun a=>(a.b,a.o)).Nodup/\aP w L/\∀ y∈L,y∈l\/y.b=b/\a<=y.o/\y.o<a+sz) :
  ∃ A,tI P sz v xs A/\jJ B w A:=by
 obtain ⟨cs,h1,h2,h3,h4,h5,h6,h7⟩:=h;rcases id h4.2 with ⟨rfl,h0⟩ | ⟨g,cap,cur,rfl,hb,hg,-,-,-,-⟩;{have e0:xs=[]:=List.length_eq_zero_iff.1 h0;subst e0;exact ⟨[],⟨none,0,[],by simp,rfl,rfl,.inl rfl⟩,jJ.nil _ _⟩};{
 have Sc:∀ o,w.frozen? ⟨g,o,none⟩=false:=fun o=>by simp [World.frozen?,hg]
 have key:∀ k,k<=xs.length->∃ LL:List (List Lf),LL.length=k/\(∀ (i:Nat) (x:α) (l:List Lf),i<k->xs[i]?=some x->LL[i]?=some l->P x g (0+i*sz) l)/\(LL.flatten.map fun a=>(a.b,a.o)).Nodup/\aP w LL.flatten ∧
   ∀ y∈LL.flatten,y∈(Ls.take k).flatten\/y.b=g/\y.o<k*sz:=by
  intro k
  induction k with
  | zero=>intro _;exact ⟨[],rfl,fun i x l hi=>by omega,by simp,aP.nil w,fun y hy=>by simp at hy⟩
  | succ k ih=>
   intro hk;obtain ⟨LL,q1,q2,q3,q4,q5⟩:=ih (by omega);obtain ⟨x,hx⟩:∃ x,xs[k]?=some x:=⟨_,aH (by omega)⟩;obtain ⟨c,hc⟩:∃ x,cs[k]?=some x:=⟨_,aH (by omega)⟩;obtain ⟨l,hl⟩:∃ x,Ls[k]?=some x:=⟨_,aH (by omega)⟩;have hlm:∀ y∈l,y∈Ls.flatten:=fun y hy=>List.mem_flatten.2 ⟨l,aL hl,hy⟩;have hlen:c.length=sz:=h3 c (aL hc);have bf:(Ls.take (k+1)).flatten=(Ls.take k).flatten++l:=by rw [List.take_add_one,hl];simp
   have gx:(((Ls.take (k+1)).flatten.map fun a=>(a.b,a.o))).Nodup:=by
    have:=h6.nd;have e:Ls.flatten=(Ls.take (k+1)).flatten++(Ls.drop (k+1)).flatten:=by rw [<-List.flatten_append,List.take_append_drop]
    rw [e,List.map_append,List.nodup_append] at this;exact this.1
   rw [bf,List.map_append,List.nodup_append] at gx;obtain ⟨n1,n2,n3⟩:=gx;obtain ⟨L,r1,r2,r3,r4⟩:=ij x c l g (0+k*sz) (h5 k x c l hx hc hl) (fun j u hu=>by
    have hj:j<sz:=by have:=(aM.1 hu).1;omega
    have hks:k*sz+sz<=xs.length*sz:=by rw [<-Nat.succ_mul];exact Nat.mul_le_mul_right _ hk
    rw [Nat.zero_add,h4.cellAt (k*sz+j) (by omega),rn h3 hc hj];exact hu) Sc (fun y hy e=>h7 y (hlm y hy) (by simp [Value.ownBlock,e])) (h6.oz.sub hlm) n2
   refine ⟨LL++[L],by simp [q1],fun i y m hi hy hm=>?_,?_,?_,fun y hy=>?_⟩;{
 by_cases hik:i<k;{rw [List.getElem?_append_left (by omega)] at hm;exact q2 i y m hik hy hm};{
 have:i=k:=by omega
 subst this;rw [hx] at hy;cases hy;rw [<-q1] at hm;simp at hm;subst hm;exact r1}};{
 have e:(LL++[L]).flatten=LL.flatten++L:=by simp
 rw [e,List.map_append,List.nodup_append];refine ⟨q3,r2,fun y hy z hz=>?_⟩;obtain ⟨a1,m1,rfl⟩:=List.mem_map.1 hy;obtain ⟨a2,m2,rfl⟩:=List.mem_map.1 hz;intro ee;simp only [Prod.mk.injEq] at ee;rcases q5 a1 m1 with u1 | ⟨u1,u2⟩;{rcases r4 a2 m2 with v1 | ⟨v1,v2,v3⟩;{exact n3 (a1.b,a1.o) (List.mem_map_of_mem u1) (a2.b,a2.o) (List.mem_map_of_mem v1) (by rw [ee.1,ee.2])};{exact h7 a1 (cM u1) (by simp [Value.ownBlock,ee.1,v1])}};{rcases r4 a2 m2 with v1 | ⟨v1,v2,v3⟩;{exact h7 a2 (hlm a2 v1) (by simp [Value.ownBlock,<-ee.1,u1])};{omega}}};{
 have e:(LL++[L]).flatten=LL.flatten++L:=by simp
 rw [e];exact aP.app.2 ⟨q4,r3⟩};{
 have e:(LL++[L]).flatten=LL.flatten++L:=by simp
 rw [e] at hy;rcases List.mem_append.1 hy with hy | hy;{rcases q5 y hy with u1 | ⟨u1,u2⟩;{exact .inl (by rw [bf];exact List.mem_append_left _ u1)};{exact .inr ⟨u1,by rw [Nat.succ_mul];omega⟩}};{rcases r4 y hy with v1 | ⟨v1,v2,v3⟩;{exact .inl (by rw [bf];exact List.mem_append_right _ v1)};{exact .inr ⟨v1,by rw [Nat.succ_mul];omega⟩}}}
 obtain ⟨LL,q1,q2,q3,q4,q5⟩:=key xs.length ay;refine ⟨LL.flatten,⟨some ⟨g,0,none⟩,cap,LL,rfl,q1,rfl,.inr ⟨g,0,rfl,fun i x l hx hl=>q2 i x l (aM.1 hx).1 hx hl⟩⟩,q3,fun a ha=>?_,q4⟩;rcases q5 a ha with u1 | ⟨u1,u2⟩;{exact h6.lo a (cM u1)};{rw [u1];exact hb}}
theorem JO {kd:IntKind} {e:TypeId} {p:Option Addr} {n c:Nat} {l:List Int} (h:w.ownsRow B e 1 (.slice p n c) l.length (l.map (Value.int kd))):∃ A,tI (LvI kd) 1 (.slice p n c) l A/\jJ B w A/\A.length=l.length/\∀ a∈A,(Value.slice p n c).ownBlock=some a.b:=by
 rcases id h.2 with ⟨ee,h0⟩ | ⟨g,cap,cur,ee,hb,hg,hr⟩;{simp only [Value.slice.injEq] at ee;obtain ⟨rfl,rfl,rfl⟩:=ee;have e0:=List.length_eq_zero_iff.1 h0;subst e0;exact ⟨[],⟨none,0,[],rfl,rfl,rfl,.inl rfl⟩,jJ.nil _ _,rfl,fun a ha=>by simp at ha⟩};{
 simp only [Value.slice.injEq] at ee;obtain ⟨rfl,rfl,rfl⟩:=ee;refine ⟨(List.range l.length).map fun i=>⟨g,0+i,kd⟩,⟨some ⟨g,0,none⟩,c,(List.range l.length).map fun i=>[⟨g,0+i,kd⟩],rfl,by simp,?_,.inr ⟨g,0,rfl,fun i x l' hx hl=>?_⟩⟩,⟨?_,fun a ha=>?_,fun a ha=>?_⟩,by simp,fun a ha=>?_⟩;{
 induction (List.range l.length) with
 | nil=>rfl
 | cons i r ih=>rw [List.map_cons,List.map_cons,List.flatten_cons,<-ih];rfl}
 {
 obtain ⟨hi,e⟩:=aM.1 hl;simp at e;rw [<-e,Nat.mul_one,Nat.zero_add]
 rfl}
 {rw [List.map_map,List.Nodup,List.pairwise_map];exact List.nodup_range.imp (fun {i j} jd=>by simpa using jd)};{obtain ⟨i,hi,rfl⟩:=List.mem_map.1 ha;exact hb};{
 obtain ⟨i,hi,rfl⟩:=List.mem_map.1 ha;have PM:i<l.length:=by simpa using hi
 refine ⟨⟨l[i],?_⟩,by simp [World.frozen?,hg]⟩;have:=World.ownsRow.cellAt h i (by omega);simp only [Nat.zero_add];rw [this];simp [PM]};{
 obtain ⟨i,hi,rfl⟩:=List.mem_map.1 ha
 rfl}}
theorem Rd.bE (h:Rd w v xs) (hl:qs v xs A) (hk:∀ a∈A,w'.heap[a.b]?=w.heap[a.b]?):Rd w' v xs:=by
 obtain ⟨p,c,rfl,hd⟩:=h;refine ⟨p,c,rfl,?_⟩;rcases hd with hd | ⟨b,o,rfl,hd⟩;{exact .inl hd};{refine .inr ⟨b,o,rfl,fun i hi=>?_⟩;obtain ⟨Ls,en,lL,eA,dE⟩:=hl.at;obtain ⟨b',o',x,l,e1,-,CK,hP,-,dD⟩:=dE i hi;simp only [Option.some.injEq,Addr.mk.injEq,and_true] at e1;obtain ⟨rfl,rfl⟩:=e1;have:w'.heap[b]?=w.heap[b]?:=hk ⟨b,o+i*1,.u8⟩ (dD _ (by rw [show l=_ from hP];simp));exact (aj this _).trans (hd i hi)}
theorem iA.bE (h:iA w v xs) (hl:GW v xs A) (hk:∀ a∈A,w'.heap[a.b]?=w.heap[a.b]?):iA w' v xs:=by
 obtain ⟨p,c,rfl,hd⟩:=h;refine ⟨p,c,rfl,?_⟩;rcases hd with hd | ⟨b,o,rfl,hd⟩;{exact .inl hd};{refine .inr ⟨b,o,rfl,fun i hi=>?_⟩;obtain ⟨Ls,en,lL,eA,dE⟩:=hl.at;obtain ⟨b',o',x,l,e1,-,CK,hP,-,dD⟩:=dE i hi;simp only [Option.some.injEq,Addr.mk.injEq,and_true] at e1;obtain ⟨rfl,rfl⟩:=e1;have:w'.heap[b]?=w.heap[b]?:=hk ⟨b,o+i*1,.u64⟩ (dD _ (by rw [show l=_ from hP];simp));exact (aj this _).trans (hd i hi)}
def Aq (w:World) (x:Ev) (c:List Value) (l:List Lf):Prop:=
 ∃ p cc,c=[.int .i64 x.1,.slice p x.2.length cc]/\Rd w (.slice p x.2.length cc) x.2/\dh (.slice p x.2.length cc)/\qs (.slice p x.2.length cc) x.2 l
theorem Aq.aN (w w':World) (x:Ev) (c:List Value) (l:List Lf) (h:Aq w x c l) (hk:∀ a∈l,w'.heap[a.b]?=w.heap[a.b]?):Aq w' x c l:=by
 obtain ⟨p,cc,h1,h2,h3,h4⟩:=h;exact ⟨p,cc,h1,h2.bE h4 hk,h3,h4⟩
theorem kJ.aN {xs:List Ev} (h:kJ w v xs A) (hk:∀ a∈A,w'.heap[a.b]?=w.heap[a.b]?):kJ w' v xs A:=by
 refine h.imp fun x b a l hx dD hP=>?_;obtain ⟨p,c,lb,h1,h2,h3⟩:=hP;refine ⟨p,c,lb,h1,?_,h3⟩;have:w'.heap[b]?=w.heap[b]?:=hk ⟨b,a,.i64⟩ (dD _ (by rw [h1];simp));exact (aj this _).trans h2
theorem iO.bE {xs:List Ev} (h:iO w v xs) (hl:kJ w v xs A) (hk:∀ a∈A,w'.heap[a.b]?=w.heap[a.b]?):iO w' v xs:=by
 obtain ⟨p,c,rfl,hd⟩:=h;refine ⟨p,c,rfl,?_⟩;rcases hd with hd | ⟨b,o,rfl,hd⟩;{exact .inl hd};{
 refine .inr ⟨b,o,rfl,fun i e he=>?_⟩;obtain ⟨Ls,en,lL,eA,dE⟩:=hl.at;obtain ⟨b',o',x,l,e1,hx,CK,hP,-,dD⟩:=dE i (aM.1 he).1;simp only [Option.some.injEq,Addr.mk.injEq,and_true] at e1;obtain ⟨rfl,rfl⟩:=e1;rw [he] at hx;cases hx;obtain ⟨q,cc,lb,e2,h2,h3⟩:=hP;have hb:w'.heap[b]?=w.heap[b]?:=hk ⟨b,o+i*2,.i64⟩ (dD _ (by rw [e2];simp));obtain ⟨r1,u,r2,r3,r4⟩:=hd i e he;have:u=.slice q e.2.length cc:=by rw [h2] at r2;exact (Option.some.inj r2).symm
 subst this;exact ⟨(aj hb _).trans r1,_,(aj hb _).trans r2,r3.bE h3 (fun a ha=>hk a (dD a (by rw [e2];simp [ha]))),r4⟩}
def tC (w:World) (x:aR) (c:List Value) (l:List Lf):Prop:=
 ∃ p cc,c=[.int .u64 x.1,.int .i64 x.2.1,.slice p x.2.2.length cc]/\iO w (.slice p x.2.2.length cc) x.2.2/\kJ w (.slice p x.2.2.length cc) x.2.2 l
theorem tC.aN (w w':World) (x:aR) (c:List Value) (l:List Lf) (h:tC w x c l) (hk:∀ a∈l,w'.heap[a.b]?=w.heap[a.b]?):tC w' x c l:=by
 obtain ⟨p,cc,h1,h2,h3⟩:=h;exact ⟨p,cc,h1,h2.bE h3 hk,kJ.aN h3 hk⟩
def lD (w:World) (x:aA) (c:List Value) (l:List Lf):Prop:=
 ∃ p0 c0 p1 c1 p4 c4 p7 c7 l0 l1 l4 l7,l=l0++(l1++(l4++l7))/\c=[.slice p0 x.path.length c0,.slice p1 x.value.length c1,.int .u64 x.owner,.int .i64 x.mode,.slice p4 x.holders.length c4,.int .u64 x.aC,.int .u64 x.gen,.slice p7 x.watchers.length c7] ∧
  (Rd w (.slice p0 x.path.length c0) x.path/\dh (.slice p0 x.path.length c0)/\qs (.slice p0 x.path.length c0) x.path l0)/\(Rd w (.slice p1 x.value.length c1) x.value/\qs (.slice p1 x.value.length c1) x.value l1) ∧
  (iA w (.slice p4 x.holders.length c4) x.holders/\GW (.slice p4 x.holders.length c4) x.holders l4)/\(iA w (.slice p7 x.watchers.length c7) x.watchers/\GW (.slice p7 x.watchers.length c7) x.watchers l7)
theorem lD.aN (w w':World) (x:aA) (c:List Value) (l:List Lf) (h:lD w x c l) (hk:∀ a∈l,w'.heap[a.b]?=w.heap[a.b]?):lD w' x c l:=by
 obtain ⟨p0,c0,p1,c1,p4,c4,p7,c7,l0,l1,l4,l7,rfl,h2,⟨h3,h4,h5⟩,⟨h6,h7⟩,⟨h8,h9⟩,⟨ZP,Xa⟩⟩:=h;exact ⟨p0,c0,p1,c1,p4,c4,p7,c7,l0,l1,l4,l7,rfl,h2,⟨h3.bE h5 (fun a ha=>hk a (by simp [ha])),h4,h5⟩,⟨h6.bE h7 (fun a ha=>hk a (by simp [ha])),h7⟩,⟨h8.bE h9 (fun a ha=>hk a (by simp [ha])),h9⟩,⟨ZP.bE Xa (fun a ha=>hk a (by simp [ha])),Xa⟩⟩
theorem dM.read {α:Type} {el:World->α->List Value->List Lf->Prop} {sz B:Nat} {xs:List α} (h:dM el ty sz B w v xs Ls) :
  ∃ p cap,v=.slice p xs.length cap/\(xs=[]\/∃ g,p=some ⟨g,0,none⟩/\∀ (i:Nat) (x:α),xs[i]?=some x->∃ c l,el w x c l/\∀ (j:Nat) (u:Value),c[j]?=some u->w.cell? ⟨g,0+i*sz+j,none⟩=some u):=by
 obtain ⟨cs,h1,h2,h3,h4,h5,h6,h7⟩:=h;rcases id h4.2 with ⟨rfl,h0⟩ | ⟨g,cap,cur,rfl,hb,hg,-,-,-,-⟩;{exact ⟨none,0,by rw [h0],.inl (List.length_eq_zero_iff.1 h0)⟩};{
 refine ⟨_,cap,rfl,.inr ⟨g,rfl,fun i x hx=>?_⟩⟩;have hi:=(aM.1 hx).1;obtain ⟨c,hc⟩:∃ x,cs[i]?=some x:=⟨_,aH (by omega)⟩;obtain ⟨l,hl⟩:∃ x,Ls[i]?=some x:=⟨_,aH (by omega)⟩;refine ⟨c,l,h5 i x c l hx hc hl,fun j u hu=>?_⟩;have hlen:c.length=sz:=h3 c (aL hc);have hj:j<sz:=by have:=(aM.1 hu).1;omega
 have hks:i*sz+sz<=xs.length*sz:=by rw [<-Nat.succ_mul];exact Nat.mul_le_mul_right _ hi
 rw [Nat.zero_add,h4.cellAt (i*sz+j) (by omega),rn h3 hc hj];exact hu}
theorem dM.ev {es:List Ev} (h:dM Aq 147 2 B w v es Ls):iO w v es/\∃ A,kJ w v es A/\jJ B w A:=by
 refine ⟨?_,h.lv (vX w) fun x c l b a ij hc hf bm fP bf=>?_⟩;{obtain ⟨p,cap,rfl,hd⟩:=h.read;refine ⟨p,cap,rfl,?_⟩;rcases hd with hd | ⟨g,rfl,hd⟩;{exact .inl hd};{refine .inr ⟨g,0,rfl,fun i e he=>?_⟩;obtain ⟨c,l,⟨p',cc,rfl,h2,h3,h4⟩,bD⟩:=hd i e he;exact ⟨bD 0 _ rfl,_,bD 1 _ rfl,h2,h3⟩}};{obtain ⟨p',cc,rfl,h2,h3,h4⟩:=ij;refine ⟨⟨b,a,.i64⟩::l,⟨p',cc,l,rfl,hc 1 _ rfl,h4⟩,?_,?_,fun y hy=>?_⟩;{rw [List.map_cons,List.nodup_cons];refine ⟨fun hm=>?_,bf⟩;obtain ⟨y,hy,e⟩:=List.mem_map.1 hm;simp only [Prod.mk.injEq] at e;exact bm y hy e.1};{intro y hy;rcases List.mem_cons.1 hy with rfl | hy;{exact ⟨⟨_,hc 0 _ rfl⟩,hf _⟩};{exact fP y hy}};{rcases List.mem_cons.1 hy with rfl | hy;{exact .inr ⟨rfl,by simp,by simp⟩};{exact .inl hy}}}
theorem dM.se {es:List aR} (h:dM tC 95 3 B w v es Ls):jP w v es/\∃ A,mP w v es A/\jJ B w A:=by
 refine ⟨?_,h.lv (vV w) fun x c l b a ij hc hf bm fP bf=>?_⟩;{obtain ⟨p,cap,rfl,hd⟩:=h.read;refine ⟨p,cap,rfl,?_⟩;rcases hd with hd | ⟨g,rfl,hd⟩;{exact .inl hd};{refine .inr ⟨g,0,rfl,fun i e he=>?_⟩;obtain ⟨c,l,⟨p',cc,rfl,h2,h3⟩,bD⟩:=hd i e he;exact ⟨bD 0 _ rfl,bD 1 _ rfl,_,bD 2 _ rfl,h2⟩}};{obtain ⟨p',cc,rfl,h2,h3⟩:=ij;refine ⟨⟨b,a,.u64⟩::⟨b,a+1,.i64⟩::l,⟨p',cc,l,rfl,hc 2 _ rfl,h3⟩,?_,?_,fun y hy=>?_⟩;{rw [List.map_cons,List.nodup_cons,List.map_cons,List.nodup_cons];refine ⟨fun hm=>?_,fun hm=>?_,bf⟩;{rcases List.mem_cons.1 hm with e | hm;{simp at e};{obtain ⟨y,hy,e⟩:=List.mem_map.1 hm;simp only [Prod.mk.injEq] at e;exact bm y hy e.1}};{obtain ⟨y,hy,e⟩:=List.mem_map.1 hm;simp only [Prod.mk.injEq] at e;exact bm y hy e.1}};{intro y hy;rcases List.mem_cons.1 hy with rfl | hy;{exact ⟨⟨_,hc 0 _ rfl⟩,hf _⟩};{rcases List.mem_cons.1 hy with rfl | hy;{exact ⟨⟨_,hc 1 _ rfl⟩,hf _⟩};{exact fP y hy}}};{rcases List.mem_cons.1 hy with rfl | hy;{exact .inr ⟨rfl,by simp,by simp⟩};{rcases List.mem_cons.1 hy with rfl | hy;{exact .inr ⟨rfl,by simp,by simp⟩};{exact .inl hy}}}}
theorem xJ {A':List Lf} {b a:Nat} {k1 k2:IntKind} (jd:i≠j) (h:((A++A').map fun a=>(a.b,a.o)).Nodup) (bm:∀ y∈A++A',y.b≠b\/(y.o≠a+i/\y.o≠a+j)):((A++(⟨b,a+i,k1⟩::⟨b,a+j,k2⟩::A')).map fun a=>(a.b,a.o)).Nodup:=by
 rw [List.map_append,List.nodup_append] at h ⊢;obtain ⟨n1,n2,n3⟩:=h;refine ⟨n1,?_,fun x hx y hy=>?_⟩;{rw [List.map_cons,List.nodup_cons,List.map_cons,List.nodup_cons];refine ⟨fun hm=>?_,fun hm=>?_,n2⟩;{rcases List.mem_cons.1 hm with e | hm;{simp at e;exact jd e};{obtain ⟨y,hy,e⟩:=List.mem_map.1 hm;simp only [Prod.mk.injEq] at e;rcases bm y (by simp [hy]) with h | h;{exact h e.1};{exact h.1 e.2}}};{obtain ⟨y,hy,e⟩:=List.mem_map.1 hm;simp only [Prod.mk.injEq] at e;rcases bm y (by simp [hy]) with h | h;{exact h e.1};{exact h.2 e.2}}};{obtain ⟨z,hz,rfl⟩:=List.mem_map.1 hx;have Jc:=bm z (by simp [hz]);rw [List.map_cons,List.map_cons] at hy;rcases List.mem_cons.1 hy with rfl | hy;{intro e;simp only [Prod.mk.injEq] at e;rcases Jc with h | h;{exact h e.1};{exact h.1 e.2}};{rcases List.mem_cons.1 hy with rfl | hy;{intro e;simp only [Prod.mk.injEq] at e;rcases Jc with h | h;{exact h e.1};{exact h.2 e.2}};{exact n3 _ (List.mem_map_of_mem hz) _ hy}}}
theorem dM.no {es:List aA} (h:dM lD 103 8 B w v es Ls):jB w v es/\∃ A,mJ w v es A/\jJ B w A:=by
 refine ⟨?_,h.lv (vW w) fun x c l b a ij hc hf bm fP bf=>?_⟩;{obtain ⟨p,cap,rfl,hd⟩:=h.read;refine ⟨p,cap,rfl,?_⟩;rcases hd with hd | ⟨g,rfl,hd⟩;{exact .inl hd};{refine .inr ⟨g,0,rfl,fun i e he=>?_⟩;obtain ⟨c,l,⟨p0,c0,p1,c1,p4,c4,p7,c7,l0,l1,l4,l7,-,rfl,⟨h3,h4,h5⟩,⟨h6,h7⟩,⟨h8,h9⟩,⟨ZP,Xa⟩⟩,bD⟩:=hd i e he;exact ⟨_,_,_,_,⟨bD 0 _ rfl,bD 1 _ rfl,bD 2 _ rfl,bD 3 _ rfl,bD 4 _ rfl,bD 5 _ rfl,bD 6 _ rfl,bD 7 _ rfl,h3,h6,h8,ZP,h4⟩⟩}};{
 obtain ⟨p0,c0,p1,c1,p4,c4,p7,c7,l0,l1,l4,l7,rfl,rfl,⟨h3,h4,h5⟩,⟨h6,h7⟩,⟨h8,h9⟩,⟨ZP,Xa⟩⟩:=ij;refine ⟨l0++(l1++(⟨b,a+2,.u64⟩::⟨b,a+3,.i64⟩::(l4++(⟨b,a+5,.u64⟩::⟨b,a+6,.u64⟩::l7)))),
  ⟨p0,c0,p1,c1,p4,c4,p7,c7,l0,l1,l4,l7,rfl,⟨hc 0 _ rfl,h5⟩,⟨hc 1 _ rfl,h7⟩,⟨hc 4 _ rfl,h9⟩,⟨hc 7 _ rfl,Xa⟩⟩,?_,?_,fun y hy=>?_⟩
 {
 have s1:(((l0++(l1++l4))++(⟨b,a+5,.u64⟩::⟨b,a+6,.u64⟩::l7)).map fun a=>(a.b,a.o)).Nodup:=xJ (by decide) (by simpa using bf) (fun y hy=>.inl (bm y (by simpa using hy)));have s2:=xJ (A:=l0++l1) (A':=l4++(⟨b,a+5,.u64⟩::⟨b,a+6,.u64⟩::l7)) (b:=b) (a:=a) (k1:=.u64) (k2:=.i64) (i:=2) (j:=3) (by decide) (by simpa using s1) (fun y hy=>by simp only [List.mem_append,List.mem_cons] at hy;rcases hy with (hy | hy) | hy | rfl | rfl | hy;{exact .inl (bm y (by simp [hy]))};{exact .inl (bm y (by simp [hy]))};{exact .inl (bm y (by simp [hy]))};{exact .inr (by simp)};{exact .inr (by simp)};{exact .inl (bm y (by simp [hy]))})
 simpa using s2};{intro y hy;simp only [List.mem_append,List.mem_cons] at hy;rcases hy with hy | hy | rfl | rfl | hy | rfl | rfl | hy;{exact fP y (by simp [hy])};{exact fP y (by simp [hy])};{exact ⟨⟨_,hc 2 _ rfl⟩,hf _⟩};{exact ⟨⟨_,hc 3 _ rfl⟩,hf _⟩};{exact fP y (by simp [hy])};{exact ⟨⟨_,hc 5 _ rfl⟩,hf _⟩};{exact ⟨⟨_,hc 6 _ rfl⟩,hf _⟩};{exact fP y (by simp [hy])}};{simp only [List.mem_append,List.mem_cons] at hy;rcases hy with hy | hy | rfl | rfl | hy | rfl | rfl | hy;{exact .inl (by simp [hy])};{exact .inl (by simp [hy])};{exact .inr ⟨rfl,by simp,by simp⟩};{exact .inr ⟨rfl,by simp,by simp⟩};{exact .inl (by simp [hy])};{exact .inr ⟨rfl,by simp,by simp⟩};{exact .inr ⟨rfl,by simp,by simp⟩};{exact .inl (by simp [hy])}}}
theorem mP.aN {xs:List aR} (h:mP w v xs A) (hk:∀ a∈A,w'.heap[a.b]?=w.heap[a.b]?):mP w' v xs A:=by
 refine h.imp fun x b a l hx dD hP=>?_;obtain ⟨p,c,lb,h1,h2,h3⟩:=hP;refine ⟨p,c,lb,h1,?_,kJ.aN h3 (fun y hy=>hk y (dD y (by rw [h1];simp [hy])))⟩;have:w'.heap[b]?=w.heap[b]?:=hk ⟨b,a,.u64⟩ (dD _ (by rw [h1];simp));exact (aj this _).trans h2
theorem mJ.aN {xs:List aA} (h:mJ w v xs A) (hk:∀ a∈A,w'.heap[a.b]?=w.heap[a.b]?):mJ w' v xs A:=by
 refine h.imp fun x b a l hx dD hP=>?_;obtain ⟨p0,c0,p1,c1,p4,c4,p7,c7,l0,l1,l4,l7,h1,⟨h2,h3⟩,⟨h4,h5⟩,⟨h6,h7⟩,⟨h8,h9⟩⟩:=hP;have:w'.heap[b]?=w.heap[b]?:=hk ⟨b,a+2,.u64⟩ (dD _ (by rw [h1];simp));have hc:=aj this;exact ⟨p0,c0,p1,c1,p4,c4,p7,c7,l0,l1,l4,l7,h1,⟨(hc _).trans h2,h3⟩,⟨(hc _).trans h4,h5⟩,⟨(hc _).trans h6,h7⟩,⟨(hc _).trans h8,h9⟩⟩
theorem jP.bE {xs:List aR} (h:jP w v xs) (hl:mP w v xs A) (hk:∀ a∈A,w'.heap[a.b]?=w.heap[a.b]?):jP w' v xs:=by
 obtain ⟨p,c,rfl,hd⟩:=h;refine ⟨p,c,rfl,?_⟩;rcases hd with hd | ⟨b,o,rfl,hd⟩;{exact .inl hd};{
 refine .inr ⟨b,o,rfl,fun i e he=>?_⟩;obtain ⟨Ls,en,lL,eA,dE⟩:=hl.at;obtain ⟨b',o',x,l,e1,hx,CK,hP,-,dD⟩:=dE i (aM.1 he).1;simp only [Option.some.injEq,Addr.mk.injEq,and_true] at e1;obtain ⟨rfl,rfl⟩:=e1;rw [he] at hx;cases hx;obtain ⟨q,cc,lb,e2,h2,h3⟩:=hP;have hb:w'.heap[b]?=w.heap[b]?:=hk ⟨b,o+i*3,.u64⟩ (dD _ (by rw [e2];simp));obtain ⟨r1,r1',u,r2,r3⟩:=hd i e he;have:u=.slice q e.2.2.length cc:=by rw [h2] at r2;exact (Option.some.inj r2).symm
 subst this;exact ⟨(aj hb _).trans r1,(aj hb _).trans r1',_,(aj hb _).trans r2,r3.bE h3 (fun a ha=>hk a (dD a (by rw [e2];simp [ha])))⟩}
theorem jB.bE {xs:List aA} (h:jB w v xs) (hl:mJ w v xs A) (hk:∀ a∈A,w'.heap[a.b]?=w.heap[a.b]?):jB w' v xs:=by
 obtain ⟨p,c,rfl,hd⟩:=h;refine ⟨p,c,rfl,?_⟩;rcases hd with hd | ⟨b,o,rfl,hd⟩;{exact .inl hd};{
 refine .inr ⟨b,o,rfl,fun i e he=>?_⟩;obtain ⟨Ls,en,lL,eA,dE⟩:=hl.at;obtain ⟨b',o',x,l,e1,hx,CK,hP,-,dD⟩:=dE i (aM.1 he).1;simp only [Option.some.injEq,Addr.mk.injEq,and_true] at e1;obtain ⟨rfl,rfl⟩:=e1;rw [he] at hx;cases hx;obtain ⟨p0,c0,p1,c1,p4,c4,p7,c7,l0,l1,l4,l7,e2,⟨h2,h3⟩,⟨h4,h5⟩,⟨h6,h7⟩,⟨h8,h9⟩⟩:=hP;have hb:w'.heap[b]?=w.heap[b]?:=hk ⟨b,o+i*8+2,.u64⟩ (dD _ (by rw [e2];simp));have hc:=aj hb;obtain ⟨P,V,H,U,na⟩:=hd i e he;have q0:P=_:=Option.some.inj (na.c0.symm.trans h2);have q1:V=_:=Option.some.inj (na.c1.symm.trans h4);have q4:H=_:=Option.some.inj (na.c4.symm.trans h6);have q7:U=_:=Option.some.inj (na.c7.symm.trans h8);subst q0 q1 q4 q7;have hs:∀ y,(y∈l0\/y∈l1\/y∈l4\/y∈l7)->w'.heap[y.b]?=w.heap[y.b]?:=fun y hy=>hk y (dD y (by rw [e2];rcases hy with hy | hy | hy | hy<;>simp [hy]));exact ⟨_,_,_,_,⟨(hc _).trans na.c0,(hc _).trans na.c1,(hc _).trans na.c2,(hc _).trans na.c3,(hc _).trans na.c4,(hc _).trans na.c5,(hc _).trans na.c6,(hc _).trans na.c7,
  na.r0.bE h3 (fun a ha=>hs a (.inl ha)),na.r1.bE h5 (fun a ha=>hs a (.inr (.inl ha))),na.r4.bE h7 (fun a ha=>hs a (.inr (.inr (.inl ha)))),na.r7.bE h9 (fun a ha=>hs a (.inr (.inr (.inr ha)))),na.k0⟩⟩}
end Go.Proofs.YtmfjiolopcbcmaaGreatDoor
