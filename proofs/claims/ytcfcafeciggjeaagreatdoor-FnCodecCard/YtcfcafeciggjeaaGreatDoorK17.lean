import Derived.Test.YtcfcafeciggjeaaGreatDoorLM0
import Derived.Test.YtcfcafeciggjeaaGreatDoorLT0
namespace Go.Proofs.YtcfcafeciggjeaaGreatDoor
set_option linter.all false
set_option maxRecDepth 100000
open Go.ChangeShapes Go.WideShapes Go.ChangeAt Go.RowKit
variable {A:List Lf} {B M sz:Nat} {Ls:List (List Lf)} {c:List Value} {cs:List (List Value)} {ty:TypeId} {v:Value} {xs:List Int}
structure lx (B:Nat) (w:World) (A:List Lf):Prop where
 nd:(A.map fun a=>(a.b,a.o)).Nodup
 lo:∀ a∈A,B<=a.b
 vE:kK w A
theorem lx.nil (B:Nat) (w:World):lx B w []:=⟨by simp,fun a ha=>by simp at ha,kK.nil w⟩
theorem lx.mono {B':Nat} {w:World} (h:lx B w A) (hB:B'<=B):lx B' w A:=⟨h.nd,fun a ha=>Nat.le_trans hB (h.lo a ha),h.vE⟩
theorem lx.app {w:World} {A2:List Lf} (h:lx B w A) (h2:lx M w A2) (hB:B<=M) (hM:∀ a∈A,a.b<M):lx B w (A++A2):=by
 refine ⟨?_,fun a ha=>?_,kK.app.2 ⟨h.vE,h2.vE⟩⟩;{rw [List.map_append,List.nodup_append];refine ⟨h.nd,h2.nd,fun x hx y hy=>?_⟩;obtain ⟨a,ha,rfl⟩:=List.mem_map.1 hx;obtain ⟨a2,x8,rfl⟩:=List.mem_map.1 hy;intro e;have:=hM a ha;have:=h2.lo a2 x8;simp only [Prod.mk.injEq] at e;omega};{rcases List.mem_append.1 ha with ha | ha;{exact h.lo a ha};{exact Nat.le_trans hB (h2.lo a ha)}}
theorem kK.keep {w w':World} (h:kK w A) (hk:∀ a∈A,w'.heap[a.b]?=w.heap[a.b]?):kK w' A:=fun a ha=>by
 obtain ⟨⟨n,hn⟩,hf⟩:=h a ha;exact ⟨⟨n,(World.cell?_of_block (w:=w) (a:=⟨a.b,a.o,none⟩) (hk a ha)).trans hn⟩,(World.frozen?_of_block (w:=w) (a:=⟨a.b,a.o,none⟩) (hk a ha)).trans hf⟩
theorem lx.keep {w w':World} (h:lx B w A) (hk:∀ a∈A,w'.heap[a.b]?=w.heap[a.b]?):lx B w' A:=⟨h.nd,h.lo,h.vE.keep hk⟩
def OwnT {α:Type} (el:World->α->List Value->List Lf->Prop) (ty:TypeId) (sz B:Nat) (w:World) (v:Value) (xs:List α) (Ls:List (List Lf)):Prop:=
 ∃ cs:List (List Value),cs.length=xs.length/\Ls.length=xs.length/\(∀ c∈cs,c.length=sz)/\w.ownsRow B ty sz v xs.length cs.flatten ∧
  (∀ (i:Nat) (x:α) (c:List Value) (l:List Lf),xs[i]?=some x->cs[i]?=some c->Ls[i]?=some l->el w x c l)/\lx B w Ls.flatten/\∀ a∈Ls.flatten,v.ownBlock≠some a.b
theorem OwnT.nil {α:Type} (el:World->α->List Value->List Lf->Prop) (ty:TypeId) (sz B:Nat) (w:World):OwnT el ty sz B w (.S none 0 0) [] []:=
 ⟨[],rfl,rfl,fun c hc=>by simp at hc,by simpa using World.ownsRow_nil w B ty sz,fun i x c l hx=>by simp at hx,by simpa using lx.nil B w,fun a ha=>by simp at ha⟩
theorem OwnT.keep {α:Type} {el:World->α->List Value->List Lf->Prop} {w w':World} {xs:List α} (h:OwnT el ty sz B w v xs Ls)
  (dz:∀ x c l,el w x c l->(∀ a∈l,w'.heap[a.b]?=w.heap[a.b]?)->el w' x c l) (hz:w.heap.size<=w'.heap.size) (hr:∀ b,v.ownBlock=some b->w'.heap[b]?=w.heap[b]?) (hl:∀ a∈Ls.flatten,w'.heap[a.b]?=w.heap[a.b]?) :
  OwnT el ty sz B w' v xs Ls:=by
 obtain ⟨cs,h1,h2,h3,h4,h5,h6,h7⟩:=h;refine ⟨cs,h1,h2,h3,?_,fun i x c l hx hc sv=>dz _ _ _ (h5 i x c l hx hc sv) (fun a ha=>hl a (List.mem_flatten.2 ⟨l,aF sv,ha⟩)),h6.keep hl,h7⟩;refine ⟨h4.1,?_⟩;rcases h4.2 with hn | ⟨g,cap,cur,rfl,hb,hg,rest⟩;{exact .inl hn};{exact .inr ⟨g,cap,cur,rfl,hb,(hr g rfl).trans hg,rest⟩}
theorem OwnT.below {α:Type} {el:World->α->List Value->List Lf->Prop} {w w':World} {xs:List α} (h:OwnT el ty sz B w v xs Ls)
  (dz:∀ w w' x c l,el w x c l->(∀ a∈l,w'.heap[a.b]?=w.heap[a.b]?)->el w' x c l) (hb:Bw w w'):OwnT el ty sz B w' v xs Ls:=by
 have h':=h;obtain ⟨cs,h1,h2,h3,h4,h5,h6,h7⟩:=h';exact h.keep (dz w w') hb.size (fun b hv=>hb.block b (h4.lt b hv).2) (fun a ha=>hb.block _ (h6.vE.lt ha))
theorem OwnT.snoc {α:Type} {el:World->α->List Value->List Lf->Prop} {w w':World} {v':Value} {xs:List α} {x:α} {l:List Lf} 
  (h1:cs.length=xs.length) (h2:Ls.length=xs.length) (h3:∀ c∈cs,c.length=sz) (h5:∀ (i:Nat) (x:α) (c:List Value) (l:List Lf),xs[i]?=some x->cs[i]?=some c->Ls[i]?=some l->el w x c l) (h6:lx B w Ls.flatten) (h7:∀ a∈Ls.flatten,v.ownBlock≠some a.b)
  (dz:∀ w w' x c l,el w x c l->(∀ a∈l,w'.heap[a.b]?=w.heap[a.b]?)->el w' x c l) (hx:el w x c l) (hc:c.length=sz) (hA:lx M w l) (hBM:B<=M) (hM:∀ a∈Ls.flatten,a.b<M) (hvM:∀ b,v.ownBlock=some b->b<M)
  (dW:w'.ownsRow B ty sz v' (xs.length+1) (cs.flatten++c)) (hg:w.grownBy w' v.ownBlock) (mr:∀ g,v'.ownBlock=some g->v.ownBlock=some g\/w.heap.size<=g) :
  OwnT el ty sz B w' v' (xs++[x]) (Ls++[l]):=by
 have hk:∀ a∈Ls.flatten++l,w'.heap[a.b]?=w.heap[a.b]?:=fun a ha=>by rcases List.mem_append.1 ha with ha | ha;{exact hg.block _ (h6.vE.lt ha) (fun e=>h7 a ha e.symm)};{exact hg.block _ (hA.vE.lt ha) (fun e=>by have:=hvM a.b e.symm;have:=hA.lo a ha;omega)}
 refine ⟨cs++[c],by simp [h1],by simp [h2],fun c' iw=>?_,?_,fun i y c' l' hy iw sv=>?_,?_,fun a ha=>?_⟩;{rcases List.mem_append.1 iw with iw | iw;{exact h3 c' iw};{simp at iw;subst iw;exact hc}};{simpa using dW};{
 by_cases hi:i<xs.length;{rw [List.getElem?_append_left hi] at hy;rw [List.getElem?_append_left ab] at iw sv;exact dz w w' _ _ _ (h5 i y c' l' hy iw sv) (fun a ha=>hk a (List.mem_append_left _ (List.mem_flatten.2 ⟨l',aF sv,ha⟩)))};{
 have ei:i=xs.length:=by have:=(aN.1 hy).1;simp at this;omega
 subst ei;simp at hy;rw [<-h1] at iw;simp at iw;rw [<-h2] at sv;simp at sv;subst hy iw sv;exact dz w w' _ _ _ hx (fun a ha=>hk a (List.mem_append_right _ ha))}};{
 have:(Ls++[l]).flatten=Ls.flatten++l:=by simp
 rw [this];exact (h6.app hA hBM hM).keep hk};{
 have:(Ls++[l]).flatten=Ls.flatten++l:=by simp
 rw [this] at ha;intro e;rcases mr _ e with e1 | e1;{rcases List.mem_append.1 ha with ha | ha;{exact h7 a ha e1};{have:=hvM a.b e1;have:=hA.lo a ha;omega}};{
 have:a.b<w.heap.size:=by rcases List.mem_append.1 ha with ha | ha;{exact h6.vE.lt ha};{exact hA.vE.lt ha}
 omega}}
theorem OwnT.lt {α:Type} {el:World->α->List Value->List Lf->Prop} {w:World} {xs:List α} (h:OwnT el ty sz B w v xs Ls):(∀ b,v.ownBlock=some b->B<=b/\b<w.heap.size)/\∀ a∈Ls.flatten,B<=a.b/\a.b<w.heap.size:=by
 obtain ⟨cs,h1,h2,h3,h4,h5,h6,h7⟩:=h;exact ⟨fun b hb=>h4.lt b hb,fun a ha=>⟨h6.lo a ha,h6.vE.lt ha⟩⟩
theorem flat_get (h:∀ c∈cs,c.length=sz) {i:Nat} (hc:cs[i]?=some c) {j:Nat} (hj:j<sz):cs.flatten[i*sz+j]?=c[j]?:=by
 induction cs generalizing i with
 | nil=>simp at hc
 | cons d cs ih=>
  cases i with
  | zero=>
   simp at hc;subst hc;rw [List.flatten_cons,List.getElem?_append_left (by rw [h d aU];omega)];simp
  | succ i=>
   rw [List.flatten_cons,List.getElem?_append_right (by rw [h d aU,Nat.succ_mul];omega),h d aU];have:=ih (fun c hc=>h c (by simp [hc])) (by simpa using hc);rw [<-this]
   congr 1
   rw [Nat.succ_mul];omega
theorem OwnT.lv {α:Type} {el:World->α->List Value->List Lf->Prop} {w:World} {xs:List α} (h:OwnT el ty sz B w v xs Ls) (P:α->Nat->Nat->List Lf->Prop)
  (pL:∀ x c l b a,el w x c l->(∀ j u,c[j]?=some u->w.cell? ⟨b,a+j,none⟩=some u)->(∀ o,w.frozen? ⟨b,o,none⟩=false)->(∀ y∈l,y.b≠b)->kK w l->(l.map fun a=>(a.b,a.o)).Nodup →
   ∃ L,P x b a L/\(L.map fun a=>(a.b,a.o)).Nodup/\kK w L/\∀ y∈L,y∈l\/y.b=b/\a<=y.o/\y.o<a+sz) :
  ∃ A,LvL P sz v xs A/\lx B w A:=by
 obtain ⟨cs,h1,h2,h3,h4,h5,h6,h7⟩:=h;rcases id h4.2 with ⟨rfl,h0⟩ | ⟨g,cap,cur,rfl,hb,hg,-,-,-,-⟩;{have e0:xs=[]:=List.length_eq_zero_iff.1 h0;subst e0;exact ⟨[],⟨none,0,[],aU,rfl,rfl,.inl rfl⟩,lx.nil _ _⟩};{
 have My:∀ o,w.frozen? ⟨g,o,none⟩=false:=fun o=>by simp [World.frozen?,hg]
 have key:∀ k,k<=xs.length->∃ LL:List (List Lf),LL.length=k/\(∀ (i:Nat) (x:α) (l:List Lf),i<k->xs[i]?=some x->LL[i]?=some l->P x g (0+i*sz) l)/\(LL.flatten.map fun a=>(a.b,a.o)).Nodup/\kK w LL.flatten ∧
   ∀ y∈LL.flatten,y∈(Ls.take k).flatten\/y.b=g/\y.o<k*sz:=by
  intro k
  induction k with
  | zero=>intro _;exact ⟨[],rfl,fun i x l hi=>ab,aU,kK.nil w,fun y hy=>by simp at hy⟩
  | succ k ih=>
   intro hk;obtain ⟨LL,q1,q2,q3,q4,q5⟩:=ih ab;obtain ⟨x,hx⟩:∃ x,xs[k]?=some x:=⟨_,aK ab⟩;obtain ⟨c,hc⟩:∃ x,cs[k]?=some x:=⟨_,aK ab⟩;obtain ⟨l,hl⟩:∃ x,Ls[k]?=some x:=⟨_,aK ab⟩;have OR:∀ y∈l,y∈Ls.flatten:=fun y hy=>List.mem_flatten.2 ⟨l,aF hl,hy⟩;have hlen:c.length=sz:=h3 c (aF hc);have aV:(Ls.take (k+1)).flatten=(Ls.take k).flatten++l:=by rw [List.take_add_one,hl];simp
   have Q4:(((Ls.take (k+1)).flatten.map fun a=>(a.b,a.o))).Nodup:=by
    have:=h6.nd;have e:Ls.flatten=(Ls.take (k+1)).flatten++(Ls.drop (k+1)).flatten:=by rw [<-List.flatten_append,List.take_append_drop]
    rw [e,List.map_append,List.nodup_append] at this;exact this.1
   rw [aV,List.map_append,List.nodup_append] at Q4;obtain ⟨n1,n2,n3⟩:=Q4;obtain ⟨L,r1,r2,r3,r4⟩:=pL x c l g (0+k*sz) (h5 k x c l hx hc hl) (fun j u hu=>by
    have hj:j<sz:=by have:=(aN.1 hu).1;omega
    have hks:k*sz+sz<=xs.length*sz:=by rw [<-Nat.succ_mul];exact Nat.mul_le_mul_right _ hk
    rw [Nat.zero_add,h4.cellAt (k*sz+j) ab,flat_get h3 hc hj];exact hu) My (fun y hy e=>h7 y (OR y hy) (by simp [Value.ownBlock,e])) (h6.vE.sub OR) n2
   refine ⟨LL++[L],by simp [q1],fun i y m hi hy hm=>?_,?_,?_,fun y hy=>?_⟩;{
 by_cases hik:i<k;{rw [List.getElem?_append_left ab] at hm;exact q2 i y m hik hy hm};{
 have:i=k:=by omega
 subst this;rw [hx] at hy;cases hy;rw [<-q1] at hm;simp at hm;subst hm;exact r1}};{have e:(LL++[L]).flatten=LL.flatten++L:=aU;rw [e,List.map_append,List.nodup_append];refine ⟨q3,r2,fun y hy z hz=>?_⟩;obtain ⟨a1,m1,rfl⟩:=List.mem_map.1 hy;obtain ⟨a2,m2,rfl⟩:=List.mem_map.1 hz;intro ee;simp only [Prod.mk.injEq] at ee;rcases q5 a1 m1 with u1 | ⟨u1,u2⟩;{rcases r4 a2 m2 with v1 | ⟨v1,v2,v3⟩;{exact n3 (a1.b,a1.o) (List.mem_map_of_mem u1) (a2.b,a2.o) (List.mem_map_of_mem v1) (by rw [ee.1,ee.2])};{exact h7 a1 (mh u1) (by simp [Value.ownBlock,ee.1,v1])}};{rcases r4 a2 m2 with v1 | ⟨v1,v2,v3⟩;{exact h7 a2 (OR a2 v1) (by simp [Value.ownBlock,<-ee.1,u1])};{omega}}};{have e:(LL++[L]).flatten=LL.flatten++L:=aU;rw [e];exact kK.app.2 ⟨q4,r3⟩};{have e:(LL++[L]).flatten=LL.flatten++L:=aU;rw [e] at hy;rcases List.mem_append.1 hy with hy | hy;{rcases q5 y hy with u1 | ⟨u1,u2⟩;{exact .inl (by rw [aV];exact List.mem_append_left _ u1)};{exact .inr ⟨u1,by rw [Nat.succ_mul];omega⟩}};{rcases r4 y hy with v1 | ⟨v1,v2,v3⟩;{exact .inl (by rw [aV];exact List.mem_append_right _ v1)};{exact .inr ⟨v1,by rw [Nat.succ_mul];omega⟩}}}
 obtain ⟨LL,q1,q2,q3,q4,q5⟩:=key xs.length aA;refine ⟨LL.flatten,⟨some ⟨g,0,none⟩,cap,LL,rfl,q1,rfl,.inr ⟨g,0,rfl,fun i x l hx hl=>q2 i x l (aN.1 hx).1 hx hl⟩⟩,q3,fun a ha=>?_,q4⟩;rcases q5 a ha with u1 | ⟨u1,u2⟩;{exact h6.lo a (mh u1)};{rw [u1];exact hb}}
theorem KR {kd:IntKind} {e:TypeId} {w:World} {p:Option Addr} {n c:Nat} {l:List Int} (h:w.ownsRow B e 1 (.S p n c) l.length (l.map (Value.int kd))):∃ A,LvL (LvI kd) 1 (.S p n c) l A/\lx B w A/\A.length=l.length/\∀ a∈A,(Value.slice p n c).ownBlock=some a.b:=by
 rcases id h.2 with ⟨ee,h0⟩ | ⟨g,cap,cur,ee,hb,hg,hr⟩;{simp only [Value.slice.injEq] at ee;obtain ⟨rfl,rfl,rfl⟩:=ee;have e0:=List.length_eq_zero_iff.1 h0;subst e0;exact ⟨[],⟨none,0,[],rfl,rfl,rfl,.inl rfl⟩,lx.nil _ _,rfl,fun a ha=>by simp at ha⟩};{
 simp only [Value.slice.injEq] at ee;obtain ⟨rfl,rfl,rfl⟩:=ee;refine ⟨(List.range l.length).map fun i=>⟨g,0+i,kd⟩,⟨some ⟨g,0,none⟩,c,(List.range l.length).map fun i=>[⟨g,0+i,kd⟩],rfl,aU,?_,.inr ⟨g,0,rfl,fun i x l' hx hl=>?_⟩⟩,⟨?_,fun a ha=>?_,fun a ha=>?_⟩,aU,fun a ha=>?_⟩;{
 induction (List.range l.length) with
 | nil=>rfl
 | cons i r ih=>rw [List.map_cons,List.map_cons,List.flatten_cons,<-ih];rfl}
 {
 obtain ⟨hi,e⟩:=aN.1 hl;simp at e;rw [<-e,Nat.mul_one,Nat.zero_add]
 rfl}
 {rw [List.map_map,List.Nodup,List.pairwise_map];exact List.nodup_range.imp (fun {i j} jc=>by simpa using jc)};{obtain ⟨i,hi,rfl⟩:=List.mem_map.1 ha;exact hb};{
 obtain ⟨i,hi,rfl⟩:=List.mem_map.1 ha;have O0:i<l.length:=by simpa using hi
 refine ⟨⟨l[i],?_⟩,by simp [World.frozen?,hg]⟩;have:=World.ownsRow.cellAt h i ab;simp only [Nat.zero_add];rw [this];simp [O0]};{
 obtain ⟨i,hi,rfl⟩:=List.mem_map.1 ha
 rfl}}
theorem Rd.keepLv {w w':World} (h:Rd w v xs) (hl:JI v xs A) (hk:∀ a∈A,w'.heap[a.b]?=w.heap[a.b]?):Rd w' v xs:=by
 obtain ⟨p,c,rfl,hd⟩:=h;refine ⟨p,c,rfl,?_⟩;rcases hd with hd | ⟨b,o,rfl,hd⟩;{exact .inl hd};{refine .inr ⟨b,o,rfl,fun i hi=>?_⟩;obtain ⟨Ls,en,lL,eA,gS⟩:=hl.at;obtain ⟨b',o',x,l,e1,-,sv,hP,-,mR⟩:=gS i hi;obtain ⟨rfl,rfl⟩:=jf e1;have:w'.heap[b]?=w.heap[b]?:=hk ⟨b,o+i*1,.u8⟩ (mR _ (by rw [show l=_ from hP];simp));exact (ai this _).trans (hd i hi)}
theorem nH.keepLv {w w':World} (h:nH w v xs) (hl:XE v xs A) (hk:∀ a∈A,w'.heap[a.b]?=w.heap[a.b]?):nH w' v xs:=by
 obtain ⟨p,c,rfl,hd⟩:=h;refine ⟨p,c,rfl,?_⟩;rcases hd with hd | ⟨b,o,rfl,hd⟩;{exact .inl hd};{refine .inr ⟨b,o,rfl,fun i hi=>?_⟩;obtain ⟨Ls,en,lL,eA,gS⟩:=hl.at;obtain ⟨b',o',x,l,e1,-,sv,hP,-,mR⟩:=gS i hi;obtain ⟨rfl,rfl⟩:=jf e1;have:w'.heap[b]?=w.heap[b]?:=hk ⟨b,o+i*1,.u64⟩ (mR _ (by rw [show l=_ from hP];simp));exact (ai this _).trans (hd i hi)}
def Bv (w:World) (x:Ev) (c:List Value) (l:List Lf):Prop:=
 ∃ p cc,c=[.I x.1,.S p x.2.length cc]/\Rd w (.S p x.2.length cc) x.2/\iH (.S p x.2.length cc)/\JI (.S p x.2.length cc) x.2 l
theorem Bv.keep (w w':World) (x:Ev) (c:List Value) (l:List Lf) (h:Bv w x c l) (hk:∀ a∈l,w'.heap[a.b]?=w.heap[a.b]?):Bv w' x c l:=by
 obtain ⟨p,cc,h1,h2,h3,h4⟩:=h;exact ⟨p,cc,h1,h2.keepLv h4 hk,h3,h4⟩
theorem LvE.keep {w w':World} {xs:List Ev} (h:LvE w v xs A) (hk:∀ a∈A,w'.heap[a.b]?=w.heap[a.b]?):LvE w' v xs A:=by
 refine h.imp fun x b a l hx mR hP=>?_;obtain ⟨p,c,lb,h1,h2,h3⟩:=hP;refine ⟨p,c,lb,h1,?_,h3⟩;have:w'.heap[b]?=w.heap[b]?:=hk ⟨b,a,.i64⟩ (mR _ (by rw [h1];simp));exact (ai this _).trans h2
theorem jJ.keepLv {w w':World} {xs:List Ev} (h:jJ w v xs) (hl:LvE w v xs A) (hk:∀ a∈A,w'.heap[a.b]?=w.heap[a.b]?):jJ w' v xs:=by
 obtain ⟨p,c,rfl,hd⟩:=h;refine ⟨p,c,rfl,?_⟩;rcases hd with hd | ⟨b,o,rfl,hd⟩;{exact .inl hd};{
 refine .inr ⟨b,o,rfl,fun i e he=>?_⟩;obtain ⟨Ls,en,lL,eA,gS⟩:=hl.at;obtain ⟨b',o',x,l,e1,hx,sv,hP,-,mR⟩:=gS i (aN.1 he).1;obtain ⟨rfl,rfl⟩:=jf e1;rw [he] at hx;cases hx;obtain ⟨q,cc,lb,e2,h2,h3⟩:=hP;have hb:w'.heap[b]?=w.heap[b]?:=hk ⟨b,o+i*2,.i64⟩ (mR _ (by rw [e2];simp));obtain ⟨r1,u,r2,r3,r4⟩:=hd i e he;have:u=.S q e.2.length cc:=by rw [h2] at r2;exact (Option.some.inj r2).symm
 subst this;exact ⟨(ai hb _).trans r1,_,(ai hb _).trans r2,r3.keepLv h3 (fun a ha=>hk a (mR a (by rw [e2];simp [ha]))),r4⟩}
def xE (w:World) (x:aY) (c:List Value) (l:List Lf):Prop:=
 ∃ p cc,c=[.U x.1,.I x.2.1,.S p x.2.2.length cc]/\jJ w (.S p x.2.2.length cc) x.2.2/\LvE w (.S p x.2.2.length cc) x.2.2 l
theorem xE.keep (w w':World) (x:aY) (c:List Value) (l:List Lf) (h:xE w x c l) (hk:∀ a∈l,w'.heap[a.b]?=w.heap[a.b]?):xE w' x c l:=by
 obtain ⟨p,cc,h1,h2,h3⟩:=h;exact ⟨p,cc,h1,h2.keepLv h3 hk,LvE.keep h3 hk⟩
def mT (w:World) (x:aD) (c:List Value) (l:List Lf):Prop:=
 ∃ p0 c0 p1 c1 p4 c4 p7 c7 l0 l1 l4 l7,l=l0++(l1++(l4++l7))/\c=[.S p0 x.path.length c0,.S p1 x.value.length c1,.U x.owner,.I x.mode,.S p4 x.holders.length c4,.U x.aB,.U x.gen,.S p7 x.watchers.length c7] ∧
  (Rd w (.S p0 x.path.length c0) x.path/\iH (.S p0 x.path.length c0)/\JI (.S p0 x.path.length c0) x.path l0)/\(Rd w (.S p1 x.value.length c1) x.value/\JI (.S p1 x.value.length c1) x.value l1) ∧
  (nH w (.S p4 x.holders.length c4) x.holders/\XE (.S p4 x.holders.length c4) x.holders l4)/\(nH w (.S p7 x.watchers.length c7) x.watchers/\XE (.S p7 x.watchers.length c7) x.watchers l7)
theorem mT.keep (w w':World) (x:aD) (c:List Value) (l:List Lf) (h:mT w x c l) (hk:∀ a∈l,w'.heap[a.b]?=w.heap[a.b]?):mT w' x c l:=by
 obtain ⟨p0,c0,p1,c1,p4,c4,p7,c7,l0,l1,l4,l7,rfl,h2,⟨h3,h4,h5⟩,⟨h6,h7⟩,⟨h8,h9⟩,⟨h10,Yx⟩⟩:=h;exact ⟨p0,c0,p1,c1,p4,c4,p7,c7,l0,l1,l4,l7,rfl,h2,⟨h3.keepLv h5 (fun a ha=>hk a (by simp [ha])),h4,h5⟩,⟨h6.keepLv h7 (fun a ha=>hk a (by simp [ha])),h7⟩,⟨h8.keepLv h9 (fun a ha=>hk a (by simp [ha])),h9⟩,⟨h10.keepLv Yx (fun a ha=>hk a (by simp [ha])),Yx⟩⟩
end Go.Proofs.YtcfcafeciggjeaaGreatDoor
