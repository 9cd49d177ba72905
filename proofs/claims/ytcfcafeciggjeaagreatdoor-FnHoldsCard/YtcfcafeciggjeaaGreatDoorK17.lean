import Derived.Test.YtcfcafeciggjeaaGreatDoorK14
import Derived.Test.YtcfcafeciggjeaaGreatDoorK15
import Derived.Test.YtcfcafeciggjeaaGreatDoorK16
namespace Go.Proofs.YtcfcafeciggjeaaGreatDoor
set_option maxHeartbeats 6400000
set_option linter.all false
set_option maxRecDepth 100000
open Go.ChangeShapes Go.WideShapes Go.ChangeAt Go.RowKit
variable {B B' B0 b i j k:Nat} {Qs:List Value} {cur:Array Value} {id x:Int} {l:List Int} {ns:List aD} {s:aY} {ss:List aY} {ty:TypeId} {u v:Value} {w w' w1:World}
def RT {α:Type} (el:World->α->List Value->Prop) (ty:TypeId) (sz B:Nat) (w:World) (v:Value) (xs:List α):Prop:=
 ∃ cs:List (List Value),cs.length=xs.length/\(∀ c∈cs,c.length=sz)/\w.ownsRow B ty sz v xs.length cs.flatten/\∀ (i:Nat) (x:α) (c:List Value),xs[i]?=some x->cs[i]?=some c->el w x c
section
variable {α:Type} {el:World->α->List Value->Prop} {ty:TypeId} {sz B:Nat} {w w':World} {v:Value} {xs:List α}
theorem RT.nil (el:World->α->List Value->Prop) (ty:TypeId) (sz B:Nat) (w:World):RT el ty sz B w (.S none 0 0) []:=
 ⟨[],rfl,fun c hc=>by simp at hc,by simpa using World.ownsRow_nil w B ty sz,fun i x c hx=>by simp at hx⟩
theorem RT.lt (h:RT el ty sz B w v xs):∀ b,v.ownBlock=some b->B<=b/\b<w.heap.size:=by
 obtain ⟨cs,h1,h2,h3,h4⟩:=h;exact h3.lt
theorem RT.nJ (h:RT el ty sz B w v xs):∀ b,v.ownBlock=some b->∃ cur,w.heap[b]?=some (.cells cur ty):=fun b hb=>by
 obtain ⟨cs,h1,h2,h3,h4⟩:=h;rcases h3.2 with ⟨rfl,-⟩ | ⟨g,cap,cur,rfl,-,hg,-⟩;{simp [Value.ownBlock] at hb};{simp only [Value.ownBlock,Option.some.injEq] at hb;subst hb;exact ⟨cur,hg⟩}
theorem RT.form (h:RT el ty sz B w v xs):∃ p c,v=.S p xs.length c/\xs.length<=c/\c<=maxLen/\(0<xs.length->∃ g,p=some ⟨g,0,none⟩):=by
 obtain ⟨cs,h1,h2,h3,h4⟩:=h;rcases h3.2 with ⟨rfl,e⟩ | ⟨g,cap,cur,rfl,-,hg,a,b,-⟩;{exact ⟨none,0,by rw [e],by omega,by unfold maxLen;omega,fun hh=>by omega⟩};{exact ⟨_,cap,rfl,a,b,fun _=>⟨g,rfl⟩⟩}
theorem RT.aU (h:RT el ty sz B w v xs) (pL:∀ x c,el w x c->el w' x c) (hr:∀ b,v.ownBlock=some b->w'.heap[b]?=w.heap[b]?):RT el ty sz B w' v xs:=by
 obtain ⟨cs,h1,h2,h3,h4⟩:=h;refine ⟨cs,h1,h2,⟨h3.1,?_⟩,fun i x c hx hc=>pL x c (h4 i x c hx hc)⟩;rcases h3.2 with hn | ⟨g,cap,cur,rfl,hb,hg,rest⟩;{exact .inl hn};{exact .inr ⟨g,cap,cur,rfl,hb,(hr g rfl).trans hg,rest⟩}
theorem RT.mono (h:RT el ty sz B w v xs) (hB:B'<=B):RT el ty sz B' w v xs:=by
 obtain ⟨cs,h1,h2,h3,h4⟩:=h;refine ⟨cs,h1,h2,⟨h3.1,?_⟩,h4⟩;rcases h3.2 with hn | ⟨g,cap,cur,rfl,hb,rest⟩;{exact .inl hn};{exact .inr ⟨g,cap,cur,rfl,Nat.le_trans hB hb,rest⟩}
theorem RT.snoc {v':Value} {x:α} {c:List Value} {cs:List (List Value)} (h1:cs.length=xs.length) (h2:∀ c∈cs,c.length=sz) (h4:∀ (i:Nat) (x:α) (c:List Value),xs[i]?=some x->cs[i]?=some c->el w x c)
  (pL:∀ x c,el w x c->el w' x c) (hx:el w x c) (hc:c.length=sz) (dW:w'.ownsRow B ty sz v' (xs.length+1) (cs.flatten++c)):RT el ty sz B w' v' (xs++[x]):=by
 refine ⟨cs++[c],by simp [h1],fun c' iw=>?_,by simpa using dW,fun i y c' hy iw=>?_⟩;{rcases List.mem_append.1 iw with iw | iw;{exact h2 c' iw};{simp at iw;subst iw;exact hc}};{
 by_cases hi:i<xs.length;{rw [List.getElem?_append_left hi] at hy;rw [List.getElem?_append_left (by omega)] at iw;exact pL _ _ (h4 i y c' hy iw)};{
 have ei:i=xs.length:=by have:=(aN.1 hy).1;simp at this;omega
 subst ei;rw [List.getElem?_append_right aA,Nat.sub_self] at hy;rw [List.getElem?_append_right (by omega),h1,Nat.sub_self] at iw;simp at hy iw;subst hy iw;exact pL _ _ hx}}
theorem RT.n {g n cap:Nat} (h:RT el ty sz B w (.S (some ⟨g,0,none⟩) n cap) xs):n=xs.length:=by
 obtain ⟨p,c,e,-⟩:=h.form;simp only [Value.slice.injEq] at e;exact e.2.1
theorem RT.at {g n cap:Nat} (h:RT el ty sz B w (.S (some ⟨g,0,none⟩) n cap) xs) {x:α} (hx:xs[i]?=some x):∃ c,c.length=sz/\el w x c/\(∀ (j:Nat) (u:Value),c[j]?=some u->w.cell? ⟨g,i*sz+j,none⟩=some u)/\∀ o,w.frozen? ⟨g,o,none⟩=false:=by
 have en:=h.n;subst en;obtain ⟨cs,h1,h2,h3,h4⟩:=h;have hi:=(aN.1 hx).1;obtain ⟨c,hc⟩:∃ x,cs[i]?=some x:=⟨_,aK (by omega)⟩;have hlen:=h2 c (aF hc);refine ⟨c,hlen,h4 i x c hx hc,fun j u hu=>?_,fun o=>h3.frozenAt o⟩;have hj:j<sz:=by have:=(aN.1 hu).1;omega
 have hks:i*sz+sz<=xs.length*sz:=by rw [<-Nat.succ_mul];exact Nat.mul_le_mul_right _ hi
 rw [h3.cellAt (i*sz+j) (by omega),flat_get h2 hc hj];exact hu
theorem RT.put {g n cap:Nat} (h:RT el ty sz B w (.S (some ⟨g,0,none⟩) n cap) xs) {x:α} (hx:xs[i]?=some x) (hj:j<sz) (u:Value) (x':α)
  (pL:∀ y c,el w y c->el (w.setCell ⟨g,i*sz+j,none⟩ u) y c) (hn:∀ c,c.length=sz->el w x c->el (w.setCell ⟨g,i*sz+j,none⟩ u) x' (c.set j u)):RT el ty sz B (w.setCell ⟨g,i*sz+j,none⟩ u) (.S (some ⟨g,0,none⟩) n cap) (xs.set i x'):=by
 have en:=h.n;subst en;obtain ⟨cs,h1,h2,h3,h4⟩:=h;have Bg:=(aN.1 hx).1;obtain ⟨c,hc⟩:∃ x,cs[i]?=some x:=⟨_,aK (by omega)⟩;have hlen:=h2 c (aF hc);refine ⟨cs.set i (c.set j u),by simp [h1],fun d hd=>?_,?_,fun k y d hy hd=>?_⟩;{rcases List.mem_or_eq_of_mem_set hd with hd | rfl;{exact h2 d hd};{rw [List.length_set,hlen]}};{rw [Nd h2 hc hj,List.length_set];exact (h3.stored _ u).1};{rw [List.getElem?_set] at hy hd;by_cases e:i=k;{subst e;rw [if_pos rfl,if_pos (by omega)] at hy hd;cases hy;cases hd;exact hn c hlen (h4 i x c hx hc)};{rw [if_neg e] at hy hd;exact pL _ _ (h4 k y d hy hd)}}
end
theorem cF {o:Obj} (h:w.heap[b]?=some o):b<w.heap.size:=(Array.getElem?_eq_some_iff.1 h).1
def Fr (T:List TypeId) (w w':World):Prop:=w.heap.size<=w'.heap.size/\∀ (b:Nat) (cur:Array Value) (ty:TypeId) (m:Nat × Nat),ty∉T->w.heap[b]?=some (.cells cur ty m)->w'.heap[b]?=some (.cells cur ty m)
theorem Fr.below {T:List TypeId} (h:Bw w w'):Fr T w w':=⟨h.size,fun b cur ty m _ hb=>(h.block b (cF hb)).trans hb⟩
theorem al (h:Bw w w'):Fr [] w w':=Fr.below h
theorem Fr.refl (T:List TypeId) (w:World):Fr T w w:=⟨Nat.le_refl _,fun _ _ _ _ _ h=>h⟩
theorem Fr.trans {T:List TypeId} {w2:World} (h:Fr T w w1) (h2:Fr T w1 w2):Fr T w w2:=⟨Nat.le_trans h.1 h2.1,fun b cur ty m ht hb=>h2.2 b cur ty m ht (h.2 b cur ty m ht hb)⟩
theorem Fr.sub {T T':List TypeId} (h:Fr T w w') (hs:∀ t∈T,t∈T'):Fr T' w w':=⟨h.1,fun b cur ty m ht hb=>h.2 b cur ty m (fun e=>ht (hs _ e)) hb⟩
theorem Fr.set {T:List TypeId} {g:Nat} (hg:w.heap[g]?=some (.cells cur ty)) (ht:ty∈T):Fr T w (w.setCell ⟨g,j,none⟩ u):=by
 refine ⟨by simp,fun b xL PR m hn hb=>?_⟩;have bL:b≠g:=fun e=>by subst e;rw [hg] at hb;simp at hb;exact hn (hb.2.1▸ht)
 exact (dF _ _ _ _ bL).trans hb
theorem Fr.grown {T:List TypeId} {r:Option Nat} (hg:w.grownBy w' r) (ht:∀ b,r=some b->∃ cur ty,w.heap[b]?=some (.cells cur ty)/\ty∈T):Fr T w w':=by
 refine ⟨hg.size,fun b cur ty m hn hb=>?_⟩;refine (hg.block b (cF hb) (fun e=>?_)).trans hb;obtain ⟨xL,PR,h1,h2⟩:=ht b e.symm;rw [h1] at hb;simp at hb;exact hn (hb.2.1▸h2)
def TB (w:World) (v:Value) (l:List Int):Prop:=Rd w v l/\(∀ b,v.ownBlock=some b->l=[]\/∃ cur m,w.heap[b]?=some (.cells cur 5 m))/\iH v
def TU (B:Nat) (w:World) (v:Value) (l:List Int):Prop:=nH w v l/\(∀ b,v.ownBlock=some b->∃ cur,w.heap[b]?=some (.cells cur 23))/\ZT w v/\∀ b,v.ownBlock=some b->B<=b
theorem TB.fr {T:List TypeId} (h:TB w v l) (hf:Fr T w w') (ht:5∉T:=by decide):TB w' v l:=by
 obtain ⟨⟨p,c,rfl,hd⟩,h2,hc⟩:=h;by_cases hl:l=[];{exact ⟨⟨p,c,rfl,.inl hl⟩,fun b _=>.inl hl,hc⟩};rcases hd with hd | ⟨b,o,rfl,hd⟩;{exact absurd hd hl};rcases h2 b rfl with e | ⟨cur,m,hb⟩;{exact absurd e hl};have cR:=hf.2 b cur _ m ht hb;refine ⟨⟨_,c,rfl,.inr ⟨b,o,rfl,fun i hi=>(ai (cR.trans hb.symm) _).trans (hd i hi)⟩⟩,fun b' e=>.inr ?_,hc⟩;simp only [Value.ownBlock,Option.some.injEq] at e;subst e;exact ⟨cur,m,cR⟩
theorem TU.fr {T:List TypeId} (h:TU B w v l) (hf:Fr T w w') (ht:23∉T:=by decide):TU B w' v l:=by
 obtain ⟨⟨p,c,rfl,hd⟩,h2,hz,h3⟩:=h;have hk:∀ b,(Value.slice p l.length c).ownBlock=some b->w'.heap[b]?=w.heap[b]?:=fun b e=>by obtain ⟨cur,hb⟩:=h2 b e;exact (hf.2 b cur _ _ ht hb).trans hb.symm
 refine ⟨⟨p,c,rfl,?_⟩,fun b e=>?_,hz.aU hk,h3⟩;{rcases hd with hd | ⟨b,o,rfl,hd⟩;{exact .inl hd};{exact .inr ⟨b,o,rfl,fun i hi=>(ai (hk b rfl) _).trans (hd i hi)⟩}};{obtain ⟨cur,hb⟩:=h2 b e;exact ⟨cur,(hk b e).trans hb⟩}
theorem Own.ak2 (h:Own B w v l):iH v:=by
 rcases h.2 with ⟨rfl,-⟩ | ⟨g,cap,cur,rfl,-,hg,hc,hm,-⟩;{exact ⟨_,_,_,rfl,Nat.le_refl _,Nat.zero_le _⟩};{exact ⟨_,_,_,rfl,hc,hm⟩}
theorem Own.tb (h:Own B w v l):TB w v l:=⟨h.rd,fun b e=>.inr (by
 rcases h.2 with ⟨rfl,-⟩ | ⟨g,cap,cur,rfl,-,hg,-⟩;{simp [Value.ownBlock] at e};{simp only [Value.ownBlock,Option.some.injEq] at e;subst e;exact ⟨cur,_,hg⟩}),h.ak2⟩
theorem TB.nil (w:World):TB w (.S none 0 0) []:=⟨Rd.nil _,fun b e=>.inl rfl,_,_,_,rfl,Nat.le_refl _,Nat.zero_le _⟩
theorem TU.nil (w:World):TU B w (.S none 0 0) []:=⟨⟨none,0,rfl,.inl rfl⟩,fun b e=>by simp [Value.ownBlock] at e,ZT.nil w,fun b e=>by simp [Value.ownBlock] at e⟩
theorem TU.mono (h:TU B w v l) (hB:B'<=B):TU B' w v l:=⟨h.1,h.2.1,h.2.2.1,fun b e=>Nat.le_trans hB (h.2.2.2 b e)⟩
def nB (w:World) (e:Ev) (c:List Value):Prop:=∃ P,c=[.I e.1,P]/\TB w P e.2
def ll (_:World) (x:aY × Value) (c:List Value):Prop:=c=[.U x.1.1,.I x.1.2.1,x.2]
def jg (B:Nat) (w:World) (nd:aD) (c:List Value):Prop:=∃ P V H U,c=[P,V,.U nd.owner,.I nd.mode,H,.U nd.aB,.U nd.gen,U]/\TB w P nd.path/\TB w V nd.value/\TU B w H nd.holders/\TU B w U nd.watchers
abbrev mu (B:Nat) (w:World) (v:Value) (es:List Ev):Prop:=RT nB 49 2 B w v es
structure dJ (B:Nat) (w:World) (v:Value) (ss:List aY) (Qs:List Value):Prop where
 len:Qs.length=ss.length
 row:RT ll 35 3 B w v (ss.zip Qs)
 za:∀ (i:Nat) (s:aY) (Q:Value),ss[i]?=some s->Qs[i]?=some Q->mu B w Q s.2.2
 rj:∀ (i j:Nat) (Q Q':Value) (b:Nat),i≠j->Qs[i]?=some Q->Qs[j]?=some Q'->Q.ownBlock=some b->Q'.ownBlock≠some b
abbrev bS (B0 B:Nat) (w:World) (v:Value) (ns:List aD):Prop:=RT (jg B0) 38 8 B w v ns
abbrev lX (B:Nat) (w:World) (v:Value) (ns:List aD):Prop:=bS B B w v ns
theorem RT.fr {α:Type} {el:World->α->List Value->Prop} {sz:Nat} {xs:List α} {T:List TypeId} (h:RT el ty sz B w v xs) (hf:Fr T w w') (ht:ty∉T) (pL:∀ x c,el w x c->el w' x c):RT el ty sz B w' v xs:=
 h.aU pL fun b hb=>by obtain ⟨cur,hc⟩:=h.nJ b hb;exact (hf.2 b cur ty _ ht hc).trans hc.symm
theorem nB.fr {T:List TypeId} (hf:Fr T w w') (ht:5∉T) (x:Ev) (c:List Value) (h:nB w x c):nB w' x c:=by
 obtain ⟨P,e,h1⟩:=h;exact ⟨P,e,h1.fr hf ht⟩
theorem jg.fr {T:List TypeId} (hf:Fr T w w') (ht:5∉T) (hu:23∉T) (x:aD) (c:List Value) (h:jg B w x c):jg B w' x c:=by
 obtain ⟨P,V,H,U,e,h1,h2,h3,h4⟩:=h;exact ⟨P,V,H,U,e,h1.fr hf ht,h2.fr hf ht,h3.fr hf hu,h4.fr hf hu⟩
theorem bS.fr {T:List TypeId} (h:bS B0 B w v ns) (hf:Fr T w w') (ht:5∉T/\23∉T/\38∉T:=by decide):bS B0 B w' v ns:=
 RT.fr h hf ht.2.2 (jg.fr hf ht.1 ht.2.1)
theorem mu.fr {T:List TypeId} {es:List Ev} (h:mu B w v es) (hf:Fr T w w') (ht:5∉T/\49∉T:=by decide):mu B w' v es:=RT.fr h hf ht.2 (nB.fr hf ht.1)
theorem dJ.fr {T:List TypeId} (h:dJ B w v ss Qs) (hf:Fr T w w') (ht:5∉T/\49∉T/\35∉T:=by decide):dJ B w' v ss Qs:=
 ⟨h.len,RT.fr h.row hf ht.2.2 (fun _ _ h=>h),fun i s Q hs hq=>(h.za i s Q hs hq).fr hf ⟨ht.1,ht.2.1⟩,h.rj⟩
theorem dJ.nil (B:Nat) (w:World):dJ B w (.S none 0 0) [] []:=⟨rfl,RT.nil _ _ _ _ _,fun i s Q h=>by simp at h,fun i j Q Q' b _ h=>by simp at h⟩
theorem bS.put {g n cap:Nat} (h:bS B0 B w (.S (some ⟨g,0,none⟩) n cap) ns) {nd:aD} (hx:ns[i]?=some nd) (hj:j<8) (u:Value) (nd':aD)
  (hn:∀ w' P V H U,TB w' P nd.path->TB w' V nd.value->TU B0 w' H nd.holders->TU B0 w' U nd.watchers->Fr [38] w w'->jg B0 w' nd' ([P,V,.U nd.owner,.I nd.mode,H,.U nd.aB,.U nd.gen,U].set j u)) :
  bS B0 B (w.setCell ⟨g,i*8+j,none⟩ u) (.S (some ⟨g,0,none⟩) n cap) (ns.set i nd')/\Fr [38] w (w.setCell ⟨g,i*8+j,none⟩ u):=by
 obtain ⟨cur,hc⟩:=h.nJ g rfl;have hf:Fr [38] w (w.setCell ⟨g,i*8+j,none⟩ u):=Fr.set hc (by simp);have t1:5∉[38]:=by decide
 have t2:23∉[38]:=by decide
 refine ⟨RT.put h hx hj u nd' (jg.fr hf t1 t2) (fun c _ he=>?_),hf⟩;obtain ⟨P,V,H,U,rfl,h1,h2,h3,h4⟩:=he;exact hn _ P V H U (h1.fr hf t1) (h2.fr hf t1) (h3.fr hf t2) (h4.fr hf t2) hf
theorem vm {α β:Type}:∀ (l:List α) (m:List β) (i:Nat) (a:α) (b:β),(l.zip m).set i (a,b)=(l.set i a).zip (m.set i b)
 | [],m,i,a,b=>by simp
 | x::l,[],i,a,b=>by cases i<;>simp
 | x::l,y::m,0,a,b=>by simp
 | x::l,y::m,i+1,a,b=>by simp [vm l m i a b]
theorem gi {α:Type} {l:List α} {a:α} (h:l[i]?=some a):l.set i a=l:=by
 obtain ⟨h1,h2⟩:=aN.1 h;rw [<-h2,List.set_getElem_self]
theorem dJ.Kt {g n cap:Nat} (h:dJ B w (.S (some ⟨g,0,none⟩) n cap) ss Qs) (hx:ss[i]?=some s) {Q v':Value} (hQ:Qs[i]?=some Q) {q':List Ev}
  (qg:mu B w1 v' q') (hg:w.grownBy w1 Q.ownBlock) (mr:∀ b,v'.ownBlock=some b->Q.ownBlock=some b\/w.heap.size<=b) :
  dJ B (w1.setCell ⟨g,i*3+2,none⟩ v') (.S (some ⟨g,0,none⟩) n cap) (ss.set i (s.1,s.2.1,q')) (Qs.set i v')/\Fr [49,35] w (w1.setCell ⟨g,i*3+2,none⟩ v'):=by
 have hi:=(aN.1 hx).1;have f1:Fr [49] w w1:=Fr.grown hg fun b hb=>by obtain ⟨cur,hc⟩:=(h.za i s Q hx hQ).nJ b hb;exact ⟨cur,_,hc,by simp⟩
 have r1:RT ll 35 3 B w1 (.S (some ⟨g,0,none⟩) n cap) (ss.zip Qs):=RT.fr h.row f1 (by decide) (fun _ _ h=>h);obtain ⟨cur,hc⟩:=r1.nJ g rfl;have f2:Fr [35] w1 (w1.setCell ⟨g,i*3+2,none⟩ v'):=Fr.set hc (by simp);have hz:(ss.zip Qs)[i]?=some (s,Q):=by rw [List.getElem?_zip_eq_some];exact ⟨hx,hQ⟩
 have hold:∀ (k:Nat) (Q':Value) (b:Nat),i≠k->Qs[k]?=some Q'->Q'.ownBlock=some b->v'.ownBlock≠some b:=fun k Q' b hk hq hb e=>by rcases mr b e with e | e;{exact h.rj i k Q Q' b hk hQ hq e hb};{obtain ⟨s',uS⟩:∃ s',ss[k]?=some s':=⟨_,aK (by rw [<-h.len];exact (aN.1 hq).1)⟩;have:=((h.za k s' Q' uS hq).lt b hb).2;omega}
 refine ⟨⟨by rw [List.length_set,List.length_set];exact h.len,?_,fun k s' Q' hs hq=>?_,fun k j Q1 Q2 b hkj h1 h2 hb=>?_⟩,(f1.sub (by simp)).trans (f2.sub (by simp))⟩;{
 have:=RT.put r1 hz (j:=2) (by omega) v' ((s.1,s.2.1,q'),v') (fun _ _ h=>h) (fun c _ he=>by
  unfold ll at he ⊢;subst he
  rfl)
 rwa [vm] at this};{rw [List.getElem?_set] at hs hq;by_cases e:i=k;{subst e;rw [if_pos rfl,if_pos hi] at hs;rw [if_pos rfl,if_pos (by rw [h.len];exact hi)] at hq;cases hs;cases hq;exact mu.fr qg f2};{rw [if_neg e] at hs hq;have hk:=h.za k s' Q' hs hq;refine mu.fr (RT.aU hk (nB.fr f1 (by decide)) fun b hb=>hg.block b (hk.lt b hb).2 (fun e2=>h.rj i k Q Q' b e hQ hq e2.symm hb)) f2}};{rw [List.getElem?_set] at h1 h2;by_cases e:i=k;{subst e;rw [if_pos rfl,if_pos (by rw [h.len];exact hi)] at h1;rw [if_neg hkj] at h2;cases h1;exact fun e2=>hold j Q2 b hkj h2 e2 hb};{rw [if_neg e] at h1;by_cases e':i=j;{subst e';rw [if_pos rfl,if_pos (by rw [h.len];exact hi)] at h2;cases h2;exact hold k Q1 b e h1 hb};{rw [if_neg e'] at h2;exact h.rj k j Q1 Q2 b hkj h1 h2 hb}}}
theorem dJ.dl {g n cap:Nat} (h:dJ B w (.S (some ⟨g,0,none⟩) n cap) ss Qs) (hx:ss[i]?=some s) (d:Int) :
  dJ B (w.setCell ⟨g,i*3+1,none⟩ (.I d)) (.S (some ⟨g,0,none⟩) n cap) (ss.set i (s.1,d,s.2.2)) Qs/\Fr [35] w (w.setCell ⟨g,i*3+1,none⟩ (.I d)):=by
 obtain ⟨cur,hc⟩:=h.row.nJ g rfl;have hf:Fr [35] w (w.setCell ⟨g,i*3+1,none⟩ (.I d)):=Fr.set hc (by simp);have hi:=(aN.1 hx).1;obtain ⟨Q,hQ⟩:∃ Q,Qs[i]?=some Q:=⟨_,aK (by rw [h.len];exact hi)⟩;have hz:(ss.zip Qs)[i]?=some (s,Q):=by rw [List.getElem?_zip_eq_some];exact ⟨hx,hQ⟩
 refine ⟨⟨by rw [List.length_set];exact h.len,?_,fun k s' Q' hs hq=>?_,h.rj⟩,hf⟩;{
 have:=RT.put h.row hz (j:=1) (by omega) (.I d) ((s.1,d,s.2.2),Q) (fun _ _ h=>h) (fun c _ he=>by
  unfold ll at he ⊢;subst he
  rfl)
 rwa [vm,gi hQ] at this};{rw [List.getElem?_set] at hs;by_cases e:i=k;{subst e;rw [if_pos rfl,if_pos hi] at hs;cases hs;exact mu.fr (h.za i s Q' hx hq) hf};{rw [if_neg e] at hs;exact mu.fr (h.za k s' Q' hs hq) hf}}
open Go.Proofs.Tryz
theorem ua.rdu (h:ua B w v l):nH w v l:=by
 rcases h.2 with ⟨rfl,h0⟩ | ⟨g,cap,cur,rfl,hb,hg,hr⟩;{exact ⟨none,0,by rw [h0],.inl (List.length_eq_zero_iff.1 h0)⟩};{refine ⟨_,cap,rfl,.inr ⟨g,0,rfl,fun i hi=>?_⟩⟩;have:=World.ownsRow.cellAt h i (by omega);rw [Nat.zero_add,this];simp [List.getD_eq_getElem?_getD,hi]}
theorem nH.at {p:Option Addr} {n c:Nat} (h:nH w (.S p n c) l) (hx:l[k]?=some x):∃ b o,p=some ⟨b,o,none⟩/\w.cell? ⟨b,o+k,none⟩=some (.U x):=by
 obtain ⟨p',c',e,hd⟩:=h;have hk:=(aN.1 hx).1;rcases hd with h0 | ⟨b,o,h1,h2⟩;{rw [h0] at hk;simp at hk};{simp only [Value.slice.injEq] at e;have:=h2 k hk;rw [List.getD_eq_getElem?_getD,hx,Option.getD_some] at this;exact ⟨b,o,e.1.trans h1,this⟩}
theorem yK (hx:l[k]?=some x) (h:(l.take k).contains id=false) (bL:¬ x=id):(l.take (k+1)).contains id=false:=by
 rw [List.take_add_one,hx,List.contains_append,h];simpa using fun e:id=x=>bL e.symm
theorem tC (p:Option Addr) (c n:Nat) (l:List Int) (en:Hid (l.length=n)) (id:Int) (w:World) (h:nH w (.S p n c) l) (hl:n<=1048576) (B:Bool) (eB:Hid (l.contains id=B)) :
  Calls prog 154 #[.S p n c,.U id] w fun r w'=>r=.returned (.bool B)/\Bw w w':=by
 have HR:=ae fun (w':World) (hb:Bw w w')=>h.below hb;go_enter func154,ntmps154;go_wp2
 go_loopw [5] (fun iv wr=>∃ k:Nat,k<=n/\iv=.I k/\Hid ((l.take k).contains id=false)/\Hid (Bw w wr)) (fun iv _=>n-(intOf iv).toNat)
 case atStart=>exact ⟨0,Nat.zero_le _,rfl,(by show _=_;simp),Below.refl _ _⟩
 case round =>(
 obtain ⟨k,hk,rfl,hc,aR⟩:=hrel;by_cases bj:k<n;{
 have bm:=aT k n;obtain ⟨x,hx⟩:∃ x,l[k]?=some x:=⟨_,aK (by rw [aa en];exact bj)⟩;obtain ⟨b,o,rfl,zO⟩:=(aa HR _ aR).at hx;have HX:=ae hx;by_cases he:x=id;{
 subst he;have Ho:(x==x)=true:=by simp
 go_wp2;go_ret;refine ⟨?_,aR⟩;rw [<-aa eB,List.contains_iff_mem.2 (aF (aa HX))]
 rfl}
 {
 have dz:=ae (yK HX hc he);go_wp2;go_roundw
 case rel=>exact ⟨k+1,by omega,by go_num,dz,aR⟩
 case measure=>simp [intOf];omega}}
 {have bm:=dy k n;have iw:=aa hc;rw [List.take_of_length_le (by rw [aa en];omega),aa eB] at iw;subst iw;go_wp2;go_ret;exact ⟨rfl,aR⟩})
theorem PJ (hx:l[k]?=some x):lQ (l.take (k+1)) id=if x=id then lQ (l.take k) id else lQ (l.take k) id++[x]:=by
 rw [List.take_add_one,hx,lQ,List.filter_append];by_cases h:x=id<;>simp [lQ,h]
theorem nW (l:List Int) (id:Int):(lQ l id).length<=l.length:=List.length_filter_le _ _
theorem pZ (p:Option Addr) (c n:Nat) (l:List Int) (en:Hid (l.length=n)) (id:Int) (w:World) (h:nH w (.S p n c) l) (hl:n<=1048576) :
  Calls prog 148 #[.S p n c,.U id] w fun r w'=>∃ p' c',r=.returned (.S p' (lQ l id).length c')/\iK w.heap.size w' (.S p' (lQ l id).length c') (lQ l id)/\Bw w w':=by
 have HR:=ae fun (w':World) (hb:Bw w w')=>h.below hb;go_enter func148,ntmps148;go_wp2
 go_loopw [5,6] (fun ov iv wr=>∃ (k:Nat) (L:List Int),k<=n/\iv=.I k/\Hid (lQ (l.take k) id=L)/\Hid (iK w.heap.size wr ov L)/\Hid (Bw w wr)) (fun _ iv _=>n-(intOf iv).toNat)
 case atStart=>exact ⟨0,[],Nat.zero_le _,rfl,(by show _=_;simp [lQ]),(iK.nil _ _),Below.refl _ _⟩
 case round =>(
 obtain ⟨k,L,hk,rfl,hL,ho,aR⟩:=hrel;obtain ⟨pv,cv,rfl⟩:=ho.form;have zr:=aR.size;have Q8:L.length<4194304:=by have h1:=nW (l.take k) id;have h2:=List.length_take_le k l;rw [aa hL] at h1;have:=aa en;omega
 by_cases bj:k<n;{
 have bm:=aT k n;obtain ⟨x,hx⟩:∃ x,l[k]?=some x:=⟨_,aK (by rw [aa en];exact bj)⟩;obtain ⟨b,o,rfl,zO⟩:=(aa HR _ aR).at hx;have dz:=PJ (id:=id) hx;rw [aa hL] at dz;have lr:=ae dz;by_cases he:x=id;{
 subst he;have E1:Hid (lQ (l.take (k+1)) x=L):=by have:=aa lr;rwa [if_pos rfl] at this
 go_wp2;go_roundw
 case rel=>exact ⟨k+1,L,by omega,by go_num,E1,ho,aR⟩
 case measure=>simp [intOf];omega}
 {
 have E1:Hid (lQ (l.take (k+1)) id=L++[x]):=by have:=aa lr;rwa [if_neg he] at this
 go_wp2_with (at_builtin;refine fw rfl _ _ rfl w.heap.size (.S pv L.length cv) L (L++[x]) x (ae rfl) wr.heap.size rfl rfl (iK.below (aa ho) (aJ.alloc aA _)) (by simp) Q8 (by simp;omega) ?_);intro p' c' w' o2 fU;have bA:Bw wr (wr.alloc (.cells #[.U x] 23)):=aJ.alloc aA _;have b4:=ae ((ah (aa aR) bA).grown fU (by simp;omega) (fun b' e=>(ho.lt b' e).1));have O2:=ae o2;go_wp2;go_roundw
 case rel=>exact ⟨k+1,L++[x],by omega,by go_num,E1,O2,b4⟩
 case measure=>simp [intOf];omega}}
 {have bm:=dy k n;have iw:=aa hL;rw [List.take_of_length_le (by rw [aa en];omega)] at iw;subst iw;go_wp2;go_ret;exact ⟨_,_,rfl,ho,aR⟩})
def vr (id:Int) (s:List Int × Bool) (x:Int):List Int × Bool:=if s.2=false/\id<=x then (if x=id then (s.1++[id],true) else (s.1++[id]++[x],true)) else (if x=id then s else (s.1++[x],s.2))
def JO (l:List Int) (id:Int):List Int × Bool:=l.foldl (vr id) ([],false)
theorem rB (id:Int):∀ (l acc:List Int),l.foldl (vr id) (acc,true)=(acc++lQ l id,true)
 | [],acc=>by simp [lQ]
 | x::r,acc=>by rw [List.foldl_cons];by_cases h:x=id;{rw [show vr id (acc,true) x=(acc,true) by simp [vr,h],rB id r acc];simp [lQ,h]};{rw [show vr id (acc,true) x=(acc++[x],true) by simp [vr,h],rB id r (acc++[x])];simp [lQ,h]}
theorem UN (l:List Int) (id:Int):(if (JO l id).2 then (JO l id).1 else (JO l id).1++[id])=ig l id:=by
 have key:∀ (l acc:List Int),(if (l.foldl (vr id) (acc,false)).2 then (l.foldl (vr id) (acc,false)).1 else (l.foldl (vr id) (acc,false)).1++[id])=acc++ig l id:=by
  intro l
  induction l with
  | nil=>intro acc;simp [ig]
  | cons x r ih=>
   intro acc;rw [List.foldl_cons,ig];by_cases h:id<=x;{by_cases e:x=id;{rw [show vr id (acc,false) x=(acc++[id],true) by simp [vr,e],rB,if_pos h];simp [lQ,e]};{rw [show vr id (acc,false) x=(acc++[id]++[x],true) by simp [vr,e,h],rB,if_pos h];simp [lQ,e]}};{
 have e:¬ x=id:=by omega
 rw [show vr id (acc,false) x=(acc++[x],false) by simp [vr,e,h],ih (acc++[x]),if_neg h];simp}
 have:=key l [];rw [List.nil_append] at this;exact this
theorem PK (hx:l[k]?=some x):JO (l.take (k+1)) id=vr id (JO (l.take k) id) x:=by
 rw [List.take_add_one,hx,JO,List.foldl_append]
 rfl
theorem PM (id:Int) (s:List Int × Bool) (x:Int):(vr id s x).1.length<=s.1.length+2:=by
 unfold vr;split<;>split<;>simp
theorem GH (id:Int):∀ (l:List Int) (s:List Int × Bool),(l.foldl (vr id) s).1.length<=s.1.length+2*l.length
 | [],s=>by simp
 | x::r,s=>by have:=GH id r (vr id s x);have:=PM id s x;rw [List.foldl_cons,List.length_cons];omega
theorem qJ (p:Option Addr) (c n:Nat) (l:List Int) (en:Hid (l.length=n)) (id:Int) (w:World) (h:nH w (.S p n c) l) (hl:n<=1048576) :
  Calls prog 136 #[.S p n c,.U id] w fun r w'=>∃ p' c',r=.returned (.S p' (ig l id).length c')/\iK w.heap.size w' (.S p' (ig l id).length c') (ig l id)/\Bw w w':=by
 have HR:=ae fun (w':World) (hb:Bw w w')=>h.below hb;go_enter func136,ntmps136;go_wp2
 go_loopw [5,6,7] (fun ov dv iv wr=>∃ (k:Nat) (L:List Int) (d:Bool),k<=n/\iv=.I k/\dv=.bool d/\Hid (JO (l.take k) id=(L,d))/\Hid (iK w.heap.size wr ov L)/\Hid (Bw w wr)) (fun _ _ iv _=>n-(intOf iv).toNat)
 case atStart=>exact ⟨0,[],false,Nat.zero_le _,rfl,rfl,(by show _=_;rfl),(iK.nil _ _),Below.refl _ _⟩
 case round =>(
 obtain ⟨k,L,d,hk,rfl,rfl,hL,ho,aR⟩:=hrel;obtain ⟨pv,cv,rfl⟩:=ho.form;have zr:=aR.size;have Q8:L.length+1<4194304:=by have h1:=GH id (l.take k) ([],false);have h2:=List.length_take_le k l;have h3:=aa hL;unfold JO at h3;rw [h3] at h1;have:=aa en;simp only [List.length_nil] at h1;omega
 by_cases bj:k<n;{
 have bm:=aT k n;obtain ⟨x,hx⟩:∃ x,l[k]?=some x:=⟨_,aK (by rw [aa en];exact bj)⟩;obtain ⟨b,o,rfl,zO⟩:=(aa HR _ aR).at hx;have dz:=PK (id:=id) hx;rw [aa hL] at dz;have lr:=ae dz;have HX:=ae hx;have AP:∀ (y:Int) (wz:World) (Lz:List Int) (pz:Option Addr) (cz:Nat),Hid (iK w.heap.size wz (.S pz Lz.length cz) Lz)->Bw w wz->Bw wz (wz.alloc (.cells #[.U y] 23)):=fun y wz Lz pz cz _ _=>aJ.alloc aA _;by_cases hd:d=false/\id<=x;{
 obtain ⟨rfl,V8⟩:=hd;have bT4:decide (id<=x)=true:=by simpa using V8
 obtain ⟨L1,Nx⟩:∃ L1,Hid (L1=L++[id]):=⟨_,ae rfl⟩;have lL1:=ae (by rw [aa Nx];simp:L1.length=L.length+1);go_wp2_with (at_builtin;refine fw rfl _ _ rfl w.heap.size (.S pv L.length cv) L L1 id Nx wr.heap.size rfl rfl (iK.below (aa ho) (aJ.alloc aA _)) (by simp) (by omega) (by simp;omega) ?_);intro p' c' w' o2 fU;have b4:=ae ((ah (aa aR) (AP id wr L pv cv ho (aa aR))).grown fU (by simp;omega) (fun b' e=>(ho.lt b' e).1));have O2:=ae o2;have z4:=b4.size;have bV1:w'.cell? ⟨b,o+k,none⟩=some (.U x):=by obtain ⟨b',o',e',iw⟩:=(aa HR _ b4).at HX;obtain ⟨rfl,rfl⟩:=jf e';exact iw
 by_cases he:x=id;{
 subst he;have E1:=ae (by have:=aa lr;rw [aa Nx];simpa [vr] using this:JO (l.take (k+1)) x=(L1,true));have Ho:(x != x)=false:=by simp
 go_wp2;go_roundw
 case rel=>exact ⟨k+1,L1,true,by omega,by go_num,rfl,E1,O2,b4⟩
 case measure=>simp [intOf];omega}
 {
 have E1:=ae (by have:=aa lr;rw [aa Nx];simpa [vr,he,V8] using this:JO (l.take (k+1)) id=(L1++[x],true));obtain ⟨L2,eL2⟩:∃ L2,Hid (L2=L1++[x]):=⟨_,ae rfl⟩;rw [<-aa eL2] at E1;go_wp2_with (at_builtin;refine fw rfl _ _ rfl w.heap.size (.S p' L1.length c') L1 L2 x eL2 w'.heap.size rfl rfl (iK.below (aa O2) (aJ.alloc aA _)) (by simp) (by have:=aa lL1;omega) (by simp;omega) ?_);intro p'' c'' w'' o3 uA;have b5:=ae ((ah (aa b4) (AP x w' _ p' c' O2 (aa b4))).grown uA (by simp;omega) (fun b' e=>(O2.lt b' e).1));have O3:=ae o3;go_wp2;go_roundw
 case rel=>exact ⟨k+1,_,true,by omega,by go_num,rfl,E1,O3,b5⟩
 case measure=>simp [intOf];omega}}
 {
 have hdd:(!d&&decide (id<=x))=false:=by cases d<;>simp_all
 have hd2:d=true\/¬ id<=x:=by cases d<;>simp_all
 by_cases he:x=id;{
 subst he;have hdt:d=true:=hd2.resolve_right (by omega);subst hdt;have E1:=ae (by have:=aa lr;simpa [vr] using this:JO (l.take (k+1)) x=(L,true));have Ho:(x != x)=false:=by simp
 go_wp2;go_roundw
 case rel=>exact ⟨k+1,L,true,by omega,by go_num,rfl,E1,ho,aR⟩
 case measure=>simp [intOf];omega}
 {
 have E1:=ae (by have:=aa lr;simpa [vr,he,hd] using this:JO (l.take (k+1)) id=(L++[x],d));obtain ⟨L1,Nx⟩:∃ L1,Hid (L1=L++[x]):=⟨_,ae rfl⟩;rw [<-aa Nx] at E1;have hdq:d=false->decide (id<=x)=false:=fun e=>by subst e;simpa using hd
 cases d;{
 have V8:=hdq rfl;go_wp2_with (at_builtin;refine fw rfl _ _ rfl w.heap.size (.S pv L.length cv) L L1 x Nx wr.heap.size rfl rfl (iK.below (aa ho) (aJ.alloc aA _)) (by simp) (by omega) (by simp;omega) ?_);intro p' c' w' o2 fU;have b4:=ae ((ah (aa aR) (AP x wr L pv cv ho (aa aR))).grown fU (by simp;omega) (fun b' e=>(ho.lt b' e).1));have O2:=ae o2;go_wp2;go_roundw
 case rel=>exact ⟨k+1,_,false,by omega,by go_num,rfl,E1,O2,b4⟩
 case measure=>simp [intOf];omega}
 {
 go_wp2_with (at_builtin;refine fw rfl _ _ rfl w.heap.size (.S pv L.length cv) L L1 x Nx wr.heap.size rfl rfl (iK.below (aa ho) (aJ.alloc aA _)) (by simp) (by omega) (by simp;omega) ?_);intro p' c' w' o2 fU;have b4:=ae ((ah (aa aR) (AP x wr L pv cv ho (aa aR))).grown fU (by simp;omega) (fun b' e=>(ho.lt b' e).1));have O2:=ae o2;go_wp2;go_roundw
 case rel=>exact ⟨k+1,_,true,by omega,by go_num,rfl,E1,O2,b4⟩
 case measure=>simp [intOf];omega}}}}
 {have bm:=dy k n;have iw:=aa hL;rw [List.take_of_length_le (by rw [aa en];omega)] at iw;have hwi:=UN l id;rw [iw] at hwi;cases d;{obtain ⟨L1,Nx⟩:∃ L1,Hid (L1=L++[id]):=⟨_,ae rfl⟩;have E1:=ae (by rw [aa Nx];simpa using hwi.symm:ig l id=L1);go_wp2_with (at_builtin;refine fw rfl _ _ rfl w.heap.size (.S pv L.length cv) L L1 id Nx wr.heap.size rfl rfl (iK.below (aa ho) (aJ.alloc aA _)) (by simp) (by omega) (by simp;omega) ?_);intro p' c' w' o2 fU;have b4:=ae ((ah (aa aR) ((Below.refl wr.heap.size wr).alloc aA _)).grown fU (by simp;omega) (fun b' e=>(ho.lt b' e).1));have O2:=ae o2;go_wp2;go_ret;rw [aa E1];exact ⟨_,_,rfl,O2,b4⟩};{have E1:=ae (by simpa using hwi.symm:ig l id=L);go_wp2;go_ret;rw [aa E1];exact ⟨_,_,rfl,ho,aR⟩}})
def jI {α:Type} (f:α->α) (k:Nat) (xs:List α):List α:=(xs.take k).map f++xs.drop k
theorem Hs {α:Type} (f:α->α) {xs:List α} {x:α} (h:xs[k]?=some x):(jI f k xs)[k]?=some x:=by
 have hk:=(aN.1 h).1;rw [jI,List.getElem?_append_right (by simp;omega),List.length_map,List.length_take,Nat.min_eq_left (by omega),List.getElem?_drop];simpa using h
theorem Ah {α:Type} (f:α->α) {xs:List α} {x:α} (h:xs[k]?=some x):jI f (k+1) xs=(jI f k xs).set k (f x):=by
 obtain ⟨hk,e⟩:=aN.1 h;rw [jI,jI,List.take_add_one,h,List.set_append_right _ _ (by simp;omega),List.length_map,List.length_take,Nat.min_eq_left (by omega),Nat.sub_self,List.drop_eq_getElem_cons hk,List.set_cons_zero,List.map_append];simp
theorem DU {α:Type} (f:α->α) {xs:List α} (h:xs.length<=k):jI f k xs=xs.map f:=by
 rw [jI,List.take_of_length_le h,List.drop_of_length_le h,List.append_nil]
theorem Ng {α:Type} (f:α->α) (k:Nat) (xs:List α):(jI f k xs).length=xs.length:=by
 rw [jI,List.length_append,List.length_map,<-List.length_append,List.take_append_drop]
theorem aj (w:World) (cs:Array Value) (ty:TypeId):∃ W,W=w.alloc (.cells cs ty)/\Bw w W/\W.heap.size=w.heap.size+1/\aq W w.heap.size cs.toList/\W.heap[w.heap.size]?=some (.cells cs ty):=
 ⟨_,rfl,aJ.alloc aA _,by simp,aq.alloc w cs ty,by show (w.heap.push _)[w.heap.size]?=_;simp⟩
theorem aq.aS {vs:List Value} (h:aq w b vs) (hk:w'.heap[b]?=w.heap[b]?):aq w' b vs:=
 ⟨fun i v hi=>(ai hk _).trans (h.1 i v hi),fun o=>(World.frozen?_of_block hk).trans (h.2 o)⟩
def bg (w:World) (b:Nat) (v0 v1 v2 v3 v4 v5:Value):World:=(((((w.setCell ⟨b,0,none⟩ v0).setCell ⟨b,1,none⟩ v1).setCell ⟨b,2,none⟩ v2).setCell ⟨b,3,none⟩ v3).setCell ⟨b,4,none⟩ v4).setCell ⟨b,5,none⟩ v5
theorem bt (w:World) (b:Nat) (v0 v1 v2 v3 v4 v5:Value):Below b w (bg w b v0 v1 v2 v3 v4 v5):=
 ((((((Below.refl b w).setCell (p:=⟨b,0,none⟩) aA _).setCell (p:=⟨b,1,none⟩) aA _).setCell (p:=⟨b,2,none⟩) aA _).setCell (p:=⟨b,3,none⟩) aA _).setCell (p:=⟨b,4,none⟩) aA _).setCell (p:=⟨b,5,none⟩) aA _
theorem bf (h:∃ cur,w.heap[b]?=some (.cells cur ty)):(∃ cur,(w.setCell ⟨b,j,none⟩ u).heap[b]?=some (.cells cur ty))/\Fr [ty] w (w.setCell ⟨b,j,none⟩ u):=by
 obtain ⟨cur,hc⟩:=h;refine ⟨?_,Fr.set hc (by simp)⟩;simp only [World.setCell,Array.getElem?_modify,if_true,hc,Option.map_some];exact ⟨_,rfl⟩
theorem dT {v0 v1 v2 v3 v4 v5:Value} (h:w.heap[b]?=some (.cells cur ty)):Fr [ty] w (bg w b v0 v1 v2 v3 v4 v5):=by
 have a0:=bf (j:=0) (u:=v0) ⟨cur,h⟩;have a1:=bf (j:=1) (u:=v1) a0.1;have a2:=bf (j:=2) (u:=v2) a1.1;have a3:=bf (j:=3) (u:=v3) a2.1;have a4:=bf (j:=4) (u:=v4) a3.1;have a5:=bf (j:=5) (u:=v5) a4.1;exact ((((a0.2.trans a1.2).trans a2.2).trans a3.2).trans a4.2).trans a5.2
def XB (Qs vP:List Value) (N:Nat):Prop:=∀ (i:Nat) (Q:Value) (b:Nat),vP[i]?=some Q->Q.ownBlock=some b->(∃ (j:Nat) (Q':Value),Qs[j]?=some Q'/\Q'.ownBlock=some b)\/N<=b
def am3 (Qs:List Value) (S:Value) (w w':World):Prop:=∀ b,b<w.heap.size->(∀ (i:Nat) (Q:Value),Qs[i]?=some Q->Q.ownBlock≠some b)->S.ownBlock≠some b->w'.heap[b]?=w.heap[b]?
def iF (id:Int) (ev:Ev) (s:aY):aY:=if s.1=id then (s.1,s.2.1,dM s.2.2 ev) else s
theorem MY (ss:List aY) (id:Int) (ev:Ev):ss.map (iF id ev)=jG ss id ev:=rfl
theorem MX (e g x t:Int) (p:Option Addr) (n c:Nat) (q:Option Addr) (m d:Nat) (ss:List aY) (Qs:List Value) (en:Hid (ss.length=n)) (id K:Int) (pe:Option Addr) (ne ce:Nat) (P:List Int) (eP:Hid (P.length=ne)) (B:Nat) (w:World) (hS:Hid (dJ B w (.S p n c) ss Qs)) (hP:Hid (TB w (.S pe ne ce) P)) (hB:B<=w.heap.size) (hn:n<=1048576) (bL:ne<=1048576) :
  Calls prog 174 #[cY e g x t (.S p n c) (.S q m d),.U id,.agg #[.I K,.S pe ne ce]] w fun r w'=>r=.returned (cY e g x t (.S p n c) (.S q m d))/\(∃ vP,dJ B w' (.S p n c) (jG ss id (K,P)) vP/\XB Qs vP w.heap.size)/\am3 Qs (.S p n c) w w'/\Fr [49,35] w w'/\Below B w w':=by
 obtain ⟨ie,Yb,mw,iT,jW⟩:=info_parts Tryz.infoEv;obtain ⟨W0,dh,b0,z0,C0,T0⟩:=aj w #[.U e,.U g,.U x,.I t,.S p n c,.S q m d] 27;obtain ⟨W1,iM,b1,z1,C1,T1⟩:=aj W0 #[.I K,.S pe ne ce] 49;obtain ⟨W,hW,b2,z2,C2,T2⟩:=aj W1 #[.U 0,.U 0,.U 0,.I 0,.S none 0 0,.S none 0 0] 27;rw [z0] at C1 T1 z1;rw [z1] at C2 T2 z2;have bW:=ah (ah b0 b1) b2;have Kh:=ae (ag (((C0.below (by omega) b1).below (by omega) b2)) (ag (C1.below (by omega) b2) C2));have SL:=ae (ag ((b2.block _ (by omega)).trans ((b1.block _ (by omega)).trans T0)) (ag ((b2.block _ (by omega)).trans T1) T2));have SW:=ae (hS.fr (al bW));have PW:=ae (hP.fr (al bW));have HQ0:Hid (∀ (i:Nat) (Q:Value),Qs[i]?=some Q->∀ b,Q.ownBlock=some b->b<w.heap.size):=fun i Q hq b hb=>by obtain ⟨s,hs⟩:∃ s,ss[i]?=some s:=⟨_,aK (by rw [<-hS.len];exact (aN.1 hq).1)⟩;exact ((hS.za i s Q hs hq).lt b hb).2
 have HP0:Hid (∀ b,(Value.slice p n c).ownBlock=some b->b<w.heap.size):=fun b hb=>(hS.row.lt b hb).2;clear b0 b1 b2 C0 C1 C2 T0 T1 T2;go_enter func174,ntmps174;go_wp2;rw [<-dh,<-iM,<-hW];clear dh iM hW;clear hS hP
 go_loopw [7] (fun iv wr=>∃ (k:Nat) (Qk:List Value),k<=n/\iv=.I k/\W.heap.size<=wr.heap.size/\Hid (dJ B wr (.S p n c) (jI (iF id (K,P)) k ss) Qk)/\Hid (XB Qs Qk W.heap.size)/\Hid (Fr [49,35] W wr)/\Hid (am3 Qs (.S p n c) W wr)/\Hid (Below B W wr)) (fun iv _=>n-(intOf iv).toNat)
 case atStart=>exact ⟨0,Qs,Nat.zero_le _,rfl,Nat.le_refl _,(by show dJ _ _ _ _ _;rw [show jI (iF id (K,P)) 0 ss=ss by simp [jI]];exact aa SW),(fun i Q b hq e=>.inl ⟨i,Q,hq,e⟩),Fr.refl _ _,(fun b _ _ _=>rfl),Below.refl _ _⟩
 case round =>(
 obtain ⟨k,Qk,hk,rfl,zr,ri,Ac,sY,Hq,js⟩:=hrel;have hQe:Hid (∀ (i:Nat) (Q:Value),Qk[i]?=some Q->Q.ownBlock≠some (w.heap.size+1)):=fun i Q hq e=>by rcases aa Ac i Q _ hq e with ⟨j,Q',hj,e'⟩ | h;{have:=aa HQ0 j Q' hj _ e';omega};{omega}
 have Rw:Hid (wr.heap[w.heap.size+1]?=W.heap[w.heap.size+1]?):=aa Hq _ (by omega) (fun i Q hq e=>by have:=aa HQ0 i Q hq _ e;omega) (fun e=>by have:=aa HP0 _ e;omega);have wk:IntKind.i64.wrap ((k:Int)+1)=((k+1:Nat):Int):=by rw [IntWalk.i64_in _ (by omega)];omega
 have D0:=ae (Kh.1.aS ((sY.2 _ _ _ _ (by decide) SL.1).trans SL.1.symm));have D1:=ae (Kh.2.1.aS Rw);have D2:=ae (Kh.2.2.aS ((sY.2 _ _ _ _ (by decide) SL.2.2).trans SL.2.2.symm));have s4:=D0.1 4 _ rfl;by_cases Ra:k<n;{
 have aL5:=aT k n;obtain ⟨⟨I,Dl,qu⟩,hs⟩:∃ s,ss[k]?=some s:=⟨_,aK (by rw [aa en];exact Ra)⟩;have hf:=Hs (iF id (K,P)) hs;have dz:=Ah (iF id (K,P)) hs;obtain ⟨Q,hQ⟩:∃ Q,Qk[k]?=some Q:=⟨_,aK (by rw [ri.len,Ng,aa en];exact Ra)⟩;have hz:((jI (iF id (K,P)) k ss).zip Qk)[k]?=some ((I,Dl,qu),Q):=by rw [List.getElem?_zip_eq_some];exact ⟨hf,hQ⟩
 obtain ⟨gs,rfl⟩:∃ gs,p=some ⟨gs,0,none⟩:=by obtain ⟨p',c',e',-,-,hp⟩:=ri.row.form;simp only [Value.slice.injEq] at e';obtain ⟨gs,hg⟩:=hp (by have:=(aN.1 hz).1;omega);exact ⟨gs,e'.1.trans hg⟩
 obtain ⟨cs,-,pL,la,My⟩:=ri.row.at hz;unfold ll at pL;subst pL;have r0:=la 0 _ rfl;have r2:=la 2 _ rfl;rw [Nat.add_zero] at r0;have hq:=ri.za k _ Q hf hQ;obtain ⟨pq,cq,rfl,Q6,Bn,-⟩:=hq.form;obtain ⟨nq,yJ⟩:=aH qu.length;simp only at r0 r2 hq hQ hf Q6;rw [yJ] at r2 Q6 hQ hq;have HQ:=ae (ag hQ (ag hf (ag hq yJ)));have lr:=ae dz;clear la hz dz hf hQ hq yJ hs;by_cases he:I=id;{
 subst he;have Ho:(I != I)=false:=by simp
 by_cases h7:nq<7;{
 have WE:(nq:Int)<7:=by omega
 have E1:=ae (by rw [aa lr];simp only [iF,if_true,dM,HQ.2.2.2,h7]:jI (iF I (K,P)) (k+1) ss=(jI (iF I (K,P)) k ss).set k (I,Dl,qu++[(K,P)]));go_wp2_with fail;obtain ⟨vA,aX⟩:=ax wr.drew;have cI:=dG aX;have zA:=cI.size;have GA:Hid (∀ v,Bw vA v->(v.cell? ⟨w.heap.size,4,none⟩=some (.S (some ⟨gs,0,none⟩) n c)/\v.cell? ⟨w.heap.size+1,0,none⟩=some (.I K)/\v.cell? ⟨w.heap.size+1,1,none⟩=some (.S pe ne ce))/\v.cell? ⟨gs,k*3+2,none⟩=some (.S pq nq cq)/\TB v (.S pe ne ce) P/\dJ B v (.S (some ⟨gs,0,none⟩) n c) (jI (iF I (K,P)) k ss) Qk/\mu B v (.S pq nq cq) qu/\(∀ o,v.frozen? ⟨gs,o,none⟩=false)/\v.heap[w.heap.size]?=wr.heap[w.heap.size]?/\v.heap[w.heap.size+1]?=wr.heap[w.heap.size+1]?/\Bw wr v):=fun v hv=>by have xk:Bw wr v:=ah cI hv;have qN:gs<wr.heap.size:=(ri.row.lt gs rfl).2;exact ⟨⟨af s4 xk,af (D1.1 0 _ rfl) xk,af (D1.1 1 _ rfl) xk⟩,af r2 xk,((PW.fr sY).fr (al xk)),ri.fr (al xk),HQ.2.2.1.fr (al xk),fun o=>(xk.frozen (p:=⟨gs,o,none⟩) qN).trans (My o),xk.block _ (by omega),xk.block _ (by omega),xk⟩
 have Oq:Hid ((∃ cur,wr.heap[w.heap.size]?=some (.cells cur 27))/\∃ cur,wr.heap[gs]?=some (.cells cur 35)):=⟨⟨_,sY.2 _ _ _ _ (by decide) SL.1⟩,ri.row.nJ gs rfl⟩;refine bO (fun w'=>w'.cell? ⟨w.heap.size,4,none⟩=some (.S (some ⟨gs,0,none⟩) n c)/\w'.cell? ⟨w.heap.size+1,0,none⟩=some (.I K)/\w'.cell? ⟨w.heap.size+1,1,none⟩=some (.S pe ne ce)) (by rw [<-aX];exact (aa GA vA aJ).1) fun hS=>?_;rw [<-aX] at hS ⊢;clear aX cI r0 r2 s4;refine gy 0 1 2 3 4 5 6 7 hS ?_;refine gC 9 10 11 12 hS ?_;refine ry [8,13] ?_;refine cn (fun KK hK=>?_) ?_;rotate_left;refine cn (fun KK hK=>?_) ?_;rotate_left;exact AllReadyH.nil;have cq:=(aa GA _ aJ).2.1;go_simp;refine cg hK (by exact (aa GA _ aJ).1) fun hS=>?_;clear hK KK cq;refine ry [13] ?_;refine cn (fun KK hK=>?_) ?_;rotate_left;exact AllReadyH.nil
 rotate_right
 refine ia (fT pe ce ne P eP _ (aa GA _ aJ).2.2.1.1 (by omega)) ?_;rintro r v1 ⟨p6,c6,rfl,o6,DP⟩;refine ⟨_,rfl,?_⟩;have O6:=ae o6;have B6:=ae DP;refine cg hK (by exact (aa GA v1 DP).1) fun hS=>?_;clear hK KK o6 DP;refine tn 14 hS ?_;refine ry [15] ?_;refine cn (fun KK hK=>?_) ?_;rotate_left;exact AllReadyH.nil
 rotate_right
 go_simp;obtain ⟨Z,hZ,bZ,zZ,CZ,-⟩:=aj v1 #[.I K,.S p6 ne c6] 49;rw [<-hZ];have BZ:=ae (ah B6 bZ);have BS:=ae CZ;have TZ:=ae ((O6.tb).fr (al bZ));refine cg hK (by exact (aa GA Z BZ).1) fun hS=>?_;clear hK KK hZ bZ CZ;rotate_left;refine ia (fT pe ce ne P eP _ (aa GA _ aJ).2.2.1.1 (by omega)) ?_;rintro r v1 ⟨p6,c6,rfl,o6,DP⟩;refine ⟨_,rfl,?_⟩;have O6:=ae o6;have B6:=ae DP;refine cg hK (by exact (aa GA v1 DP).1) fun hS=>?_;clear hK KK o6 DP;refine tn 14 hS ?_;refine ry [8,15] ?_;refine cn (fun KK hK=>?_) ?_;rotate_left;refine cn (fun KK hK=>?_) ?_;rotate_left;exact AllReadyH.nil;rotate_left;have cq:=(aa GA _ B6).2.1;go_simp;refine cg hK (by exact (aa GA _ B6).1) fun hS=>?_;clear hK KK cq;refine ry [15] ?_;refine cn (fun KK hK=>?_) ?_;rotate_left;exact AllReadyH.nil
 rotate_right
 go_simp;obtain ⟨Z,hZ,bZ,zZ,CZ,-⟩:=aj v1 #[.I K,.S p6 ne c6] 49;rw [<-hZ];have BZ:=ae (ah B6 bZ);have BS:=ae CZ;have TZ:=ae ((O6.tb).fr (al bZ));refine cg hK (by exact (aa GA Z BZ).1) fun hS=>?_;clear hK KK hZ bZ CZ;rotate_left;go_simp;obtain ⟨Z,hZ,bZ,zZ,CZ,-⟩:=aj v1 #[.I K,.S p6 ne c6] 49;rw [<-hZ];have BZ:=ae (ah B6 bZ);have BS:=ae CZ;have TZ:=ae ((O6.tb).fr (al bZ));refine cg hK (by exact (aa GA Z BZ).1) fun hS=>?_;clear hK KK hZ bZ CZ;refine ry [8] ?_;refine cn (fun KK hK=>?_) ?_;rotate_left;exact AllReadyH.nil
 rotate_right
 have cq:=(aa GA _ BZ).2.1;go_simp;refine cg hK (by exact (aa GA _ BZ).1) fun hS=>?_;clear hK KK cq
 all_goals (
  obtain ⟨-,r2,-,SZ,sq,fz,YW,YV,wZ⟩:=aa GA Z BZ;obtain ⟨cs,g1,g2,g3,g4⟩:=id sq;rw [HQ.2.2.2] at g3;have zZ2:=BZ.size;refine ry [16] ?_;refine cn (fun KK hK=>?_) ?_;rotate_left;exact AllReadyH.nil
  rotate_right
  refine fR (by rfl) _ _ 33 (by rfl) B 49 ie _ 2 32 underlying33 Yb mw iT jW rfl (by decide) (.S pq nq cq) _ _ (by rfl) g3 v1.heap.size 1 1 [.I K,.S p6 ne c6] (by rfl) rfl (fun j u hu=>BS.1 j u hu) (fun u hu=>by simp at hu;rcases hu with rfl | rfl<;>rfl) (by unfold maxLen;omega) (by omega) (by omega) ?_;intro v' w9 dW hg mr;have f9:Fr [49] Z w9:=Fr.grown hg fun b hb=>by obtain ⟨cur,hc⟩:=sq.nJ b hb;exact ⟨cur,_,hc,by simp⟩
  have Qc:mu B w9 v' (qu++[(K,P)]):=RT.snoc g1 g2 g4 (nB.fr f9 (by decide)) ⟨_,rfl,aa TZ⟩ rfl (by rw [HQ.2.2.2];exact dW);have xt:∀ b,(Value.slice pq nq cq).ownBlock=some b->b≠w.heap.size/\b≠w.heap.size+1/\b≠gs:=fun b hb=>by obtain ⟨cur,hc⟩:=sq.nJ b hb;refine ⟨fun e=>?_,fun e=>?_,fun e=>?_⟩;{obtain ⟨xL,iw⟩:=Oq.1;rw [e,YW,iw] at hc;simp at hc};{exact hQe k _ HQ.1 (e▸hb)};{obtain ⟨xL,iw⟩:=Oq.2;rw [e,(wZ.block gs (cF iw)),iw] at hc;simp at hc}
  have k0:w9.heap[w.heap.size]?=Z.heap[w.heap.size]?:=hg.block _ (by omega) (fun e=>(xt _ e.symm).1 rfl);have k1:w9.heap[w.heap.size+1]?=Z.heap[w.heap.size+1]?:=hg.block _ (by omega) (fun e=>(xt _ e.symm).2.1 rfl);have Rg:gs<Z.heap.size:=(SZ.row.lt gs rfl).2;have kg:w9.heap[gs]?=Z.heap[gs]?:=hg.block _ Rg (fun e=>(xt _ e.symm).2.2 rfl);have S9:w9.cell? ⟨w.heap.size,4,none⟩=some (.S (some ⟨gs,0,none⟩) n c)/\w9.cell? ⟨w.heap.size+1,0,none⟩=some (.I K)/\w9.cell? ⟨w.heap.size+1,1,none⟩=some (.S pe ne ce):=⟨(ai k0 _).trans hS.1,(ai k1 _).trans hS.2.1,(ai k1 _).trans hS.2.2⟩;obtain ⟨pN,cN,rfl,-⟩:=Qc.form;have lN:(qu++[(K,P)]).length=nq+1:=by rw [List.length_append,HQ.2.2.2];rfl
  rw [lN] at Qc mr dW ⊢;obtain ⟨ST,FT⟩:=dJ.Kt SZ HQ.2.1 HQ.1 Qc hg mr;have TU2:=ae (ag ST FT);have r9:=(ai kg _).trans r2;have f9z:∀ o,w9.frozen? ⟨gs,o,none⟩=false:=fun o=>(World.frozen?_of_block kg).trans (fz o);have B9:=ae ((js.trans (wZ.mono (by omega))).grown hg (by omega) (fun b hb=>(sq.lt b hb).1));have xU:=ae (ag mr (ag xt (ag k1 YV)));have uX:gs≠w.heap.size/\gs≠w.heap.size+1:=⟨fun e=>by
   obtain ⟨cur,hc⟩:=Oq.1;obtain ⟨xL,iw⟩:=Oq.2;rw [e,hc] at iw;simp at iw,fun e=>by
   obtain ⟨xL,iw⟩:=Oq.2;rw [e,aa Rw,SL.2.1] at iw;simp at iw⟩
  have z9:=hg.size;have lg:=(SZ.row.lt gs rfl).1;refine cg hK (by exact S9) fun hS=>?_;clear hK KK dW mr g1 g2 g3 g4 f9 sq Qc xt k0 k1 kg ST FT SZ r2 fz YW YV lN;refine fe 17 18 hS ?_;refine ry [19] ?_;refine cn (fun KK hK=>?_) ?_;rotate_left;exact AllReadyH.nil
  rotate_right
  go_simp;have Ut:(w9.setCell ⟨gs,k*3+2,none⟩ (.S pN (nq+1) cN)).cell? ⟨w.heap.size,4,none⟩=some (.S (some ⟨gs,0,none⟩) n c)/\(w9.setCell ⟨gs,k*3+2,none⟩ (.S pN (nq+1) cN)).cell? ⟨w.heap.size+1,0,none⟩=some (.I K)/\(w9.setCell ⟨gs,k*3+2,none⟩ (.S pN (nq+1) cN)).cell? ⟨w.heap.size+1,1,none⟩=some (.S pe ne ce):=⟨(ai (dF _ _ _ _ (Ne.symm uX.1)) _).trans hS.1,(ai (dF _ _ _ _ (Ne.symm uX.2)) _).trans hS.2.1,(ai (dF _ _ _ _ (Ne.symm uX.2)) _).trans hS.2.2⟩;refine cg hK (by exact Ut) fun hS=>?_;clear hK KK r9 f9z;refine bu ?_;clear hS S9 Ut;go_wp2;go_roundw
  case rel=>exact ⟨k+1,Qk.set k (.S pN (nq+1) cN),by omega,by go_num,by simp;omega,(by show dJ _ _ _ _ _;rw [aa E1];exact TU2.1),(fun i Q b hq e=>by
   rw [List.getElem?_set] at hq;split at hq;{split at hq;{cases hq;rcases xU.1 _ e with e2 | e2;{exact Ac k _ _ HQ.1 e2};{exact .inr (by omega)}};{cases hq}};{exact Ac i Q b hq e}),(sY.trans (Fr.below wZ)).trans TU2.2,(fun b hb hq hp=>by
   have Pd:b≠gs:=fun e=>hp (by rw [e];rfl);exact (dF _ _ _ _ Pd).trans ((hg.block b (by omega) (fun e=>by rcases aa Ac k _ _ HQ.1 e.symm with ⟨j,Q',hj,e'⟩ | h;{exact hq j Q' hj e'};{omega})).trans ((wZ.block b (by omega)).trans (aa Hq b hb hq hp)))),B9.setCell lg _⟩
  case measure=>simp [intOf];omega)}
 {
 have WE:¬ (nq:Int)<7:=by omega
 by_cases h8:nq=7;{
 have RF:((nq:Int)==7)=true:=by simp;omega
 have E1:=ae (by rw [aa lr];simp [iF,dM,HQ.2.2.2,h8]:jI (iF I (K,P)) (k+1) ss=(jI (iF I (K,P)) k ss).set k (I,Dl,qu++[(4,[])]));have hnq:nq<=7:=by omega
 clear h8;go_wp2_with fail;obtain ⟨vA,aX⟩:=ax wr.drew;have cI:=dG aX;have zA:=cI.size;have GA:Hid (∀ v,Bw vA v->(v.cell? ⟨w.heap.size,4,none⟩=some (.S (some ⟨gs,0,none⟩) n c)/\v.cell? ⟨w.heap.size+1,0,none⟩=some (.I K)/\v.cell? ⟨w.heap.size+1,1,none⟩=some (.S pe ne ce))/\v.cell? ⟨gs,k*3+2,none⟩=some (.S pq nq cq)/\TB v (.S pe ne ce) P/\dJ B v (.S (some ⟨gs,0,none⟩) n c) (jI (iF I (K,P)) k ss) Qk/\mu B v (.S pq nq cq) qu/\(∀ o,v.frozen? ⟨gs,o,none⟩=false)/\v.heap[w.heap.size]?=wr.heap[w.heap.size]?/\v.heap[w.heap.size+1]?=wr.heap[w.heap.size+1]?/\Bw wr v):=fun v hv=>by have xk:Bw wr v:=ah cI hv;have qN:gs<wr.heap.size:=(ri.row.lt gs rfl).2;exact ⟨⟨af s4 xk,af (D1.1 0 _ rfl) xk,af (D1.1 1 _ rfl) xk⟩,af r2 xk,((PW.fr sY).fr (al xk)),ri.fr (al xk),HQ.2.2.1.fr (al xk),fun o=>(xk.frozen (p:=⟨gs,o,none⟩) qN).trans (My o),xk.block _ (by omega),xk.block _ (by omega),xk⟩
 have Oq:Hid ((∃ cur,wr.heap[w.heap.size]?=some (.cells cur 27))/\∃ cur,wr.heap[gs]?=some (.cells cur 35)):=⟨⟨_,sY.2 _ _ _ _ (by decide) SL.1⟩,ri.row.nJ gs rfl⟩;refine bO (fun w'=>w'.cell? ⟨w.heap.size,4,none⟩=some (.S (some ⟨gs,0,none⟩) n c)/\w'.cell? ⟨w.heap.size+1,0,none⟩=some (.I K)/\w'.cell? ⟨w.heap.size+1,1,none⟩=some (.S pe ne ce)) (by rw [<-aX];exact (aa GA vA aJ).1) fun hS=>?_;rw [<-aX] at hS ⊢;clear aX cI r0 r2 s4;refine gy 0 1 2 3 4 5 6 7 hS ?_;refine tn 9 hS ?_;refine ry [8,10] ?_;refine cn (fun KK hK=>?_) ?_;rotate_left;refine cn (fun KK hK=>?_) ?_;rotate_left;exact AllReadyH.nil;have cq:=(aa GA _ aJ).2.1;go_simp;refine cg hK (by exact (aa GA _ aJ).1) fun hS=>?_;clear hK KK cq;refine ry [10] ?_;refine cn (fun KK hK=>?_) ?_;rotate_left;exact AllReadyH.nil
 rotate_right
 go_simp;obtain ⟨Z,hZ,bZ,zZ,CZ,-⟩:=aj vA #[.I 4,.S none 0 0] 49;rw [<-hZ];have BZ:=ae (bZ);have BS:=ae CZ;have TZ:=ae (TB.nil Z);refine cg hK (by exact (aa GA Z BZ).1) fun hS=>?_;clear hK KK hZ bZ CZ;rotate_left;go_simp;obtain ⟨Z,hZ,bZ,zZ,CZ,-⟩:=aj vA #[.I 4,.S none 0 0] 49;rw [<-hZ];have BZ:=ae (bZ);have BS:=ae CZ;have TZ:=ae (TB.nil Z);refine cg hK (by exact (aa GA Z BZ).1) fun hS=>?_;clear hK KK hZ bZ CZ;refine ry [8] ?_;refine cn (fun KK hK=>?_) ?_;rotate_left;exact AllReadyH.nil
 rotate_right
 have cq:=(aa GA _ BZ).2.1;go_simp;refine cg hK (by exact (aa GA _ BZ).1) fun hS=>?_;clear hK KK cq
 all_goals (
  obtain ⟨-,r2,-,SZ,sq,fz,YW,YV,wZ⟩:=aa GA Z BZ;obtain ⟨cs,g1,g2,g3,g4⟩:=id sq;rw [HQ.2.2.2] at g3;have zZ2:=BZ.size;refine ry [11] ?_;refine cn (fun KK hK=>?_) ?_;rotate_left;exact AllReadyH.nil
  rotate_right
  refine fR (by rfl) _ _ 33 (by rfl) B 49 ie _ 2 32 underlying33 Yb mw iT jW rfl (by decide) (.S pq nq cq) _ _ (by rfl) g3 vA.heap.size 1 1 [.I 4,.S none 0 0] (by rfl) rfl (fun j u hu=>BS.1 j u hu) (fun u hu=>by simp at hu;rcases hu with rfl | rfl<;>rfl) (by unfold maxLen;omega) (by omega) (by omega) ?_;intro v' w9 dW hg mr;have f9:Fr [49] Z w9:=Fr.grown hg fun b hb=>by obtain ⟨cur,hc⟩:=sq.nJ b hb;exact ⟨cur,_,hc,by simp⟩
  have Qc:mu B w9 v' (qu++[(4,[])]):=RT.snoc g1 g2 g4 (nB.fr f9 (by decide)) ⟨_,rfl,aa TZ⟩ rfl (by rw [HQ.2.2.2];exact dW);have xt:∀ b,(Value.slice pq nq cq).ownBlock=some b->b≠w.heap.size/\b≠w.heap.size+1/\b≠gs:=fun b hb=>by obtain ⟨cur,hc⟩:=sq.nJ b hb;refine ⟨fun e=>?_,fun e=>?_,fun e=>?_⟩;{obtain ⟨xL,iw⟩:=Oq.1;rw [e,YW,iw] at hc;simp at hc};{exact hQe k _ HQ.1 (e▸hb)};{obtain ⟨xL,iw⟩:=Oq.2;rw [e,(wZ.block gs (cF iw)),iw] at hc;simp at hc}
  have k0:w9.heap[w.heap.size]?=Z.heap[w.heap.size]?:=hg.block _ (by omega) (fun e=>(xt _ e.symm).1 rfl);have k1:w9.heap[w.heap.size+1]?=Z.heap[w.heap.size+1]?:=hg.block _ (by omega) (fun e=>(xt _ e.symm).2.1 rfl);have Rg:gs<Z.heap.size:=(SZ.row.lt gs rfl).2;have kg:w9.heap[gs]?=Z.heap[gs]?:=hg.block _ Rg (fun e=>(xt _ e.symm).2.2 rfl);have S9:w9.cell? ⟨w.heap.size,4,none⟩=some (.S (some ⟨gs,0,none⟩) n c)/\w9.cell? ⟨w.heap.size+1,0,none⟩=some (.I K)/\w9.cell? ⟨w.heap.size+1,1,none⟩=some (.S pe ne ce):=⟨(ai k0 _).trans hS.1,(ai k1 _).trans hS.2.1,(ai k1 _).trans hS.2.2⟩;obtain ⟨pN,cN,rfl,-⟩:=Qc.form;have lN:(qu++[(4,[])]).length=nq+1:=by rw [List.length_append,HQ.2.2.2];rfl
  rw [lN] at Qc mr dW ⊢;obtain ⟨ST,FT⟩:=dJ.Kt SZ HQ.2.1 HQ.1 Qc hg mr;have TU2:=ae (ag ST FT);have r9:=(ai kg _).trans r2;have f9z:∀ o,w9.frozen? ⟨gs,o,none⟩=false:=fun o=>(World.frozen?_of_block kg).trans (fz o);have B9:=ae ((js.trans (wZ.mono (by omega))).grown hg (by omega) (fun b hb=>(sq.lt b hb).1));have xU:=ae (ag mr (ag xt (ag k1 YV)));have uX:gs≠w.heap.size/\gs≠w.heap.size+1:=⟨fun e=>by
   obtain ⟨cur,hc⟩:=Oq.1;obtain ⟨xL,iw⟩:=Oq.2;rw [e,hc] at iw;simp at iw,fun e=>by
   obtain ⟨xL,iw⟩:=Oq.2;rw [e,aa Rw,SL.2.1] at iw;simp at iw⟩
  have z9:=hg.size;have lg:=(SZ.row.lt gs rfl).1;refine cg hK (by exact S9) fun hS=>?_;clear hK KK dW mr g1 g2 g3 g4 f9 sq Qc xt k0 k1 kg ST FT SZ r2 fz YW YV lN;refine fe 12 13 hS ?_;refine ry [14] ?_;refine cn (fun KK hK=>?_) ?_;rotate_left;exact AllReadyH.nil
  rotate_right
  go_simp;have Ut:(w9.setCell ⟨gs,k*3+2,none⟩ (.S pN (nq+1) cN)).cell? ⟨w.heap.size,4,none⟩=some (.S (some ⟨gs,0,none⟩) n c)/\(w9.setCell ⟨gs,k*3+2,none⟩ (.S pN (nq+1) cN)).cell? ⟨w.heap.size+1,0,none⟩=some (.I K)/\(w9.setCell ⟨gs,k*3+2,none⟩ (.S pN (nq+1) cN)).cell? ⟨w.heap.size+1,1,none⟩=some (.S pe ne ce):=⟨(ai (dF _ _ _ _ (Ne.symm uX.1)) _).trans hS.1,(ai (dF _ _ _ _ (Ne.symm uX.2)) _).trans hS.2.1,(ai (dF _ _ _ _ (Ne.symm uX.2)) _).trans hS.2.2⟩;refine cg hK (by exact Ut) fun hS=>?_;clear hK KK r9 f9z;refine bu ?_;clear hS S9 Ut;go_wp2;go_roundw
  case rel=>exact ⟨k+1,Qk.set k (.S pN (nq+1) cN),by omega,by go_num,by simp;omega,(by show dJ _ _ _ _ _;rw [aa E1];exact TU2.1),(fun i Q b hq e=>by
   rw [List.getElem?_set] at hq;split at hq;{split at hq;{cases hq;rcases xU.1 _ e with e2 | e2;{exact Ac k _ _ HQ.1 e2};{exact .inr (by omega)}};{cases hq}};{exact Ac i Q b hq e}),(sY.trans (Fr.below wZ)).trans TU2.2,(fun b hb hq hp=>by
   have Pd:b≠gs:=fun e=>hp (by rw [e];rfl);exact (dF _ _ _ _ Pd).trans ((hg.block b (by omega) (fun e=>by rcases aa Ac k _ _ HQ.1 e.symm with ⟨j,Q',hj,e'⟩ | h;{exact hq j Q' hj e'};{omega})).trans ((wZ.block b (by omega)).trans (aa Hq b hb hq hp)))),B9.setCell lg _⟩
  case measure=>simp [intOf];omega)}
 {
 have RF:((nq:Int)==7)=false:=by simp;omega
 have E1:=ae (by rw [aa lr];simp only [iF,if_true,dM,HQ.2.2.2,h7,h8,if_false];exact gi HQ.2.1:jI (iF I (K,P)) (k+1) ss=jI (iF I (K,P)) k ss);go_wp2;go_roundw
 case rel=>exact ⟨k+1,Qk,by omega,by go_num,zr,(by show dJ _ _ _ _ _;rw [aa E1];exact aa ri),Ac,sY,Hq,js⟩
 case measure=>simp [intOf];omega}}}
 {
 have Ho:(I != id)=true:=by simpa using he
 have E1:=ae (by rw [aa lr];simp only [iF,he,if_false];exact gi HQ.2.1:jI (iF id (K,P)) (k+1) ss=jI (iF id (K,P)) k ss);go_wp2;go_roundw
 case rel=>exact ⟨k+1,Qk,by omega,by go_num,zr,(by show dJ _ _ _ _ _;rw [aa E1];exact aa ri),Ac,sY,Hq,js⟩
 case measure=>simp [intOf];omega}}
 {have aL5:=dy k n;have SF:=aa ri;rw [DU _ (by rw [aa en];omega),MY] at SF;have HSF:=ae SF;clear SF;obtain ⟨K0,kf⟩:=aa D0;obtain ⟨R0,rf⟩:=aa D2;have k0:=K0 0 _ rfl;have k1:=K0 1 _ rfl;have k2:=K0 2 _ rfl;have k3:=K0 3 _ rfl;have k5:=K0 5 _ rfl;have q0:=R0 0 _ rfl;have q1:=R0 1 _ rfl;have q2:=R0 2 _ rfl;have q3:=R0 3 _ rfl;have q4:=R0 4 _ rfl;have q5:=R0 5 _ rfl;clear K0 R0;go_wp2;have hF:=dT (v0:=.U e) (v1:=.U g) (v2:=.U x) (v3:=.I t) (v4:=.S p n c) (v5:=.S q m d) (sY.2 _ _ _ _ (by decide) SL.2.2);have yG:Below (w.heap.size+1+1) wr (bg wr (w.heap.size+1+1) (.U e) (.U g) (.U x) (.I t) (.S p n c) (.S q m d)):=bt _ _ _ _ _ _ _ _;refine bodyPost_ret (v:=cY e g x t (.S p n c) (.S q m d)) (by simp [results,results174,go_sem,q0,q1,q2,q3,q4,q5]) rfl ?_;refine ⟨rfl,⟨_,HSF.fr hF,(fun i Q b hq e=>by rcases aa Ac i Q b hq e with h | h;{exact .inl h};{exact .inr (by omega)})⟩,(fun b hb hq hp=>(yG.block b (by omega)).trans ((aa Hq b (by omega) hq hp).trans (bW.block b hb))),⟨Nat.le_trans (by omega) yG.size,fun b cur ty m' ht hb=>(yG.block b (by have:=cF hb;omega)).trans (sY.2 b cur ty m' ht ((bW.block b (cF hb)).trans hb))⟩,((bW.mono hB).trans js).trans (yG.mono (by omega))⟩})
end Go.Proofs.YtcfcafeciggjeaaGreatDoor
