import Derived.Test.YtcfcafeciggjeaaGreatDoorK18
import Derived.Test.YtcfcafeciggjeaaGreatDoorK19
namespace Go.Proofs.YtcfcafeciggjeaaGreatDoor
set_option linter.all false
set_option maxRecDepth 100000
open Go.ChangeShapes Go.WideShapes Go.ChangeAt Go.RowKit
variable {B B' B0 i j:Nat} {Qs:List Value} {l:List Int} {ns:List aD} {s:aY} {ss:List aY} {ty:TypeId} {v:Value}
def RT {α:Type} (el:World->α->List Value->Prop) (ty:TypeId) (sz B:Nat) (w:World) (v:Value) (xs:List α):Prop:=
 ∃ cs:List (List Value),cs.length=xs.length/\(∀ c∈cs,c.length=sz)/\w.ownsRow B ty sz v xs.length cs.flatten/\∀ (i:Nat) (x:α) (c:List Value),xs[i]?=some x->cs[i]?=some c->el w x c
section
variable {α:Type} {el:World->α->List Value->Prop} {ty:TypeId} {sz B:Nat} {w w':World} {v:Value} {xs:List α}
theorem RT.nil (el:World->α->List Value->Prop) (ty:TypeId) (sz B:Nat) (w:World):RT el ty sz B w (.S none 0 0) []:=
 ⟨[],rfl,fun c hc=>by simp at hc,by simpa using World.ownsRow_nil w B ty sz,fun i x c hx=>by simp at hx⟩
theorem RT.lt (h:RT el ty sz B w v xs):∀ b,v.ownBlock=some b->B<=b/\b<w.heap.size:=by
 obtain ⟨cs,h1,h2,h3,h4⟩:=h;exact h3.lt
theorem RT.nJ (h:RT el ty sz B w v xs):∀ b,v.ownBlock=some b->∃ cur,w.heap[b]?=some (.cells cur ty):=fun b hb=>by
 obtain ⟨cs,h1,h2,h3,h4⟩:=h;rcases h3.2 with ⟨rfl,-⟩ | ⟨g,cap,cur,rfl,-,hg,-⟩;{simp [Value.ownBlock] at hb};{simp only [Value.ownBlock,Option.some.injEq] at hb;subst hb;exact ⟨cur,hg⟩}
theorem RT.form (h:RT el ty sz B w v xs):∃ p c,v=.S p xs.length c/\xs.length<=c/\c<=maxLen/\(0<xs.length->∃ g,p=some ⟨g,0,none⟩):=by
 obtain ⟨cs,h1,h2,h3,h4⟩:=h;rcases h3.2 with ⟨rfl,e⟩ | ⟨g,cap,cur,rfl,-,hg,a,b,-⟩;{exact ⟨none,0,by rw [e],ab,jC,fun hh=>ab⟩};{exact ⟨_,cap,rfl,a,b,fun _=>⟨g,rfl⟩⟩}
theorem RT.keep (h:RT el ty sz B w v xs) (pL:∀ x c,el w x c->el w' x c) (hr:∀ b,v.ownBlock=some b->w'.heap[b]?=w.heap[b]?):RT el ty sz B w' v xs:=by
 obtain ⟨cs,h1,h2,h3,h4⟩:=h;refine ⟨cs,h1,h2,⟨h3.1,?_⟩,fun i x c hx hc=>pL x c (h4 i x c hx hc)⟩;rcases h3.2 with hn | ⟨g,cap,cur,rfl,hb,hg,rest⟩;{exact .inl hn};{exact .inr ⟨g,cap,cur,rfl,hb,(hr g rfl).trans hg,rest⟩}
theorem RT.mono (h:RT el ty sz B w v xs) (hB:B'<=B):RT el ty sz B' w v xs:=by
 obtain ⟨cs,h1,h2,h3,h4⟩:=h;refine ⟨cs,h1,h2,⟨h3.1,?_⟩,h4⟩;rcases h3.2 with hn | ⟨g,cap,cur,rfl,hb,rest⟩;{exact .inl hn};{exact .inr ⟨g,cap,cur,rfl,Nat.le_trans hB hb,rest⟩}
theorem RT.snoc {v':Value} {x:α} {c:List Value} {cs:List (List Value)} (h1:cs.length=xs.length) (h2:∀ c∈cs,c.length=sz) (h4:∀ (i:Nat) (x:α) (c:List Value),xs[i]?=some x->cs[i]?=some c->el w x c)
  (pL:∀ x c,el w x c->el w' x c) (hx:el w x c) (hc:c.length=sz) (dW:w'.ownsRow B ty sz v' (xs.length+1) (cs.flatten++c)):RT el ty sz B w' v' (xs++[x]):=by
 refine ⟨cs++[c],by simp [h1],fun c' iw=>?_,by simpa using dW,fun i y c' hy iw=>?_⟩;{rcases List.mem_append.1 iw with iw | iw;{exact h2 c' iw};{simp at iw;subst iw;exact hc}};{
 by_cases hi:i<xs.length;{rw [List.getElem?_append_left hi] at hy;rw [List.getElem?_append_left ab] at iw;exact pL _ _ (h4 i y c' hy iw)};{
 have ei:i=xs.length:=by have:=(aN.1 hy).1;simp at this;omega
 subst ei;rw [List.getElem?_append_right aA,Nat.sub_self] at hy;rw [List.getElem?_append_right ab,h1,Nat.sub_self] at iw;simp at hy iw;subst hy iw;exact pL _ _ hx}}
theorem RT.n {g n cap:Nat} (h:RT el ty sz B w (.S (some ⟨g,0,none⟩) n cap) xs):n=xs.length:=by
 obtain ⟨p,c,e,-⟩:=h.form;simp only [Value.slice.injEq] at e;exact e.2.1
theorem RT.at {g n cap:Nat} (h:RT el ty sz B w (.S (some ⟨g,0,none⟩) n cap) xs) {x:α} (hx:xs[i]?=some x):∃ c,c.length=sz/\el w x c/\(∀ (j:Nat) (u:Value),c[j]?=some u->w.cell? ⟨g,i*sz+j,none⟩=some u)/\∀ o,w.frozen? ⟨g,o,none⟩=false:=by
 have en:=h.n;subst en;obtain ⟨cs,h1,h2,h3,h4⟩:=h;have hi:=(aN.1 hx).1;obtain ⟨c,hc⟩:∃ x,cs[i]?=some x:=⟨_,aK ab⟩;have hlen:=h2 c (aF hc);refine ⟨c,hlen,h4 i x c hx hc,fun j u hu=>?_,fun o=>h3.frozenAt o⟩;have hj:j<sz:=by have:=(aN.1 hu).1;omega
 have hks:i*sz+sz<=xs.length*sz:=by rw [<-Nat.succ_mul];exact Nat.mul_le_mul_right _ hi
 rw [h3.cellAt (i*sz+j) ab,flat_get h2 hc hj];exact hu
theorem RT.put {g n cap:Nat} (h:RT el ty sz B w (.S (some ⟨g,0,none⟩) n cap) xs) {x:α} (hx:xs[i]?=some x) (hj:j<sz) (u:Value) (x':α)
  (pL:∀ y c,el w y c->el (w.setCell ⟨g,i*sz+j,none⟩ u) y c) (hn:∀ c,c.length=sz->el w x c->el (w.setCell ⟨g,i*sz+j,none⟩ u) x' (c.set j u)):RT el ty sz B (w.setCell ⟨g,i*sz+j,none⟩ u) (.S (some ⟨g,0,none⟩) n cap) (xs.set i x'):=by
 have en:=h.n;subst en;obtain ⟨cs,h1,h2,h3,h4⟩:=h;have Bg:=(aN.1 hx).1;obtain ⟨c,hc⟩:∃ x,cs[i]?=some x:=⟨_,aK ab⟩;have hlen:=h2 c (aF hc);refine ⟨cs.set i (c.set j u),by simp [h1],fun d hd=>?_,?_,fun k y d hy hd=>?_⟩;{rcases List.mem_or_eq_of_mem_set hd with hd | rfl;{exact h2 d hd};{rw [List.length_set,hlen]}};{rw [Nd h2 hc hj,List.length_set];exact (h3.stored _ u).1};{rw [List.getElem?_set] at hy hd;by_cases e:i=k;{subst e;rw [if_pos rfl,if_pos ab] at hy hd;cases hy;cases hd;exact hn c hlen (h4 i x c hx hc)};{rw [if_neg e] at hy hd;exact pL _ _ (h4 k y d hy hd)}}
end
theorem gN {w:World} {b:Nat} {o:Obj} (h:w.heap[b]?=some o):b<w.heap.size:=(Array.getElem?_eq_some_iff.1 h).1
def Fr (T:List TypeId) (w w':World):Prop:=w.heap.size<=w'.heap.size/\∀ (b:Nat) (cur:Array Value) (ty:TypeId) (m:Nat × Nat),ty∉T->w.heap[b]?=some (.cells cur ty m)->w'.heap[b]?=some (.cells cur ty m)
theorem Fr.below {T:List TypeId} {w w':World} (h:Bw w w'):Fr T w w':=⟨h.size,fun b cur ty m _ hb=>(h.block b (gN hb)).trans hb⟩
theorem al {w w':World} (h:Bw w w'):Fr [] w w':=Fr.below h
theorem Fr.refl (T:List TypeId) (w:World):Fr T w w:=⟨Nat.le_refl _,fun _ _ _ _ _ h=>h⟩
theorem Fr.trans {T:List TypeId} {w w1 w2:World} (h:Fr T w w1) (h2:Fr T w1 w2):Fr T w w2:=⟨Nat.le_trans h.1 h2.1,fun b cur ty m ht hb=>h2.2 b cur ty m ht (h.2 b cur ty m ht hb)⟩
theorem Fr.sub {T T':List TypeId} {w w':World} (h:Fr T w w') (hs:∀ t∈T,t∈T'):Fr T' w w':=⟨h.1,fun b cur ty m ht hb=>h.2 b cur ty m (fun e=>ht (hs _ e)) hb⟩
theorem Fr.set {T:List TypeId} {w:World} {g:Nat} {u:Value} {cur:Array Value} (hg:w.heap[g]?=some (.cells cur ty)) (ht:ty∈T):Fr T w (w.setCell ⟨g,j,none⟩ u):=by
 refine ⟨aU,fun b xL PR m hn hb=>?_⟩;have gd:b≠g:=fun e=>by subst e;rw [hg] at hb;simp at hb;exact hn (hb.2.1▸ht)
 exact (dF _ _ _ _ gd).trans hb
theorem Fr.grown {T:List TypeId} {w w':World} {r:Option Nat} (hg:w.grownBy w' r) (ht:∀ b,r=some b->∃ cur ty,w.heap[b]?=some (.cells cur ty)/\ty∈T):Fr T w w':=by
 refine ⟨hg.size,fun b cur ty m hn hb=>?_⟩;refine (hg.block b (gN hb) (fun e=>?_)).trans hb;obtain ⟨xL,PR,h1,h2⟩:=ht b e.symm;rw [h1] at hb;simp at hb;exact hn (hb.2.1▸h2)
def TB (w:World) (v:Value) (l:List Int):Prop:=Rd w v l/\(∀ b,v.ownBlock=some b->l=[]\/∃ cur m,w.heap[b]?=some (.cells cur 5 m))/\iH v
def TU (B:Nat) (w:World) (v:Value) (l:List Int):Prop:=nH w v l/\(∀ b,v.ownBlock=some b->∃ cur,w.heap[b]?=some (.cells cur 23))/\ZT w v/\∀ b,v.ownBlock=some b->B<=b
theorem TB.fr {T:List TypeId} {w w':World} (h:TB w v l) (hf:Fr T w w') (ht:5∉T:=by decide):TB w' v l:=by
 obtain ⟨⟨p,c,rfl,hd⟩,h2,hc⟩:=h;by_cases hl:l=[];{exact ⟨⟨p,c,rfl,.inl hl⟩,fun b _=>.inl hl,hc⟩};rcases hd with hd | ⟨b,o,rfl,hd⟩;{exact absurd hd hl};rcases h2 b rfl with e | ⟨cur,m,hb⟩;{exact absurd e hl};have cR:=hf.2 b cur _ m ht hb;refine ⟨⟨_,c,rfl,.inr ⟨b,o,rfl,fun i hi=>(ai (cR.trans hb.symm) _).trans (hd i hi)⟩⟩,fun b' e=>.inr ?_,hc⟩;simp only [Value.ownBlock,Option.some.injEq] at e;subst e;exact ⟨cur,m,cR⟩
theorem TU.fr {T:List TypeId} {w w':World} (h:TU B w v l) (hf:Fr T w w') (ht:23∉T:=by decide):TU B w' v l:=by
 obtain ⟨⟨p,c,rfl,hd⟩,h2,hz,h3⟩:=h;have hk:∀ b,(Value.slice p l.length c).ownBlock=some b->w'.heap[b]?=w.heap[b]?:=fun b e=>by obtain ⟨cur,hb⟩:=h2 b e;exact (hf.2 b cur _ _ ht hb).trans hb.symm
 refine ⟨⟨p,c,rfl,?_⟩,fun b e=>?_,hz.keep hk,h3⟩;{rcases hd with hd | ⟨b,o,rfl,hd⟩;{exact .inl hd};{exact .inr ⟨b,o,rfl,fun i hi=>(ai (hk b rfl) _).trans (hd i hi)⟩}};{obtain ⟨cur,hb⟩:=h2 b e;exact ⟨cur,(hk b e).trans hb⟩}
theorem Own.ak2 {w:World} (h:Own B w v l):iH v:=by
 rcases h.2 with ⟨rfl,-⟩ | ⟨g,cap,cur,rfl,-,hg,hc,hm,-⟩;{exact ⟨_,_,_,rfl,Nat.le_refl _,Nat.zero_le _⟩};{exact ⟨_,_,_,rfl,hc,hm⟩}
theorem Own.tb {w:World} (h:Own B w v l):TB w v l:=⟨h.rd,fun b e=>.inr (by
 rcases h.2 with ⟨rfl,-⟩ | ⟨g,cap,cur,rfl,-,hg,-⟩;{simp [Value.ownBlock] at e};{simp only [Value.ownBlock,Option.some.injEq] at e;subst e;exact ⟨cur,_,hg⟩}),h.ak2⟩
theorem TB.nil (w:World):TB w (.S none 0 0) []:=⟨Rd.nil _,fun b e=>.inl rfl,_,_,_,rfl,Nat.le_refl _,Nat.zero_le _⟩
theorem TU.nil (w:World):TU B w (.S none 0 0) []:=⟨⟨none,0,rfl,.inl rfl⟩,fun b e=>by simp [Value.ownBlock] at e,ZT.nil w,fun b e=>by simp [Value.ownBlock] at e⟩
theorem TU.mono {w:World} (h:TU B w v l) (hB:B'<=B):TU B' w v l:=⟨h.1,h.2.1,h.2.2.1,fun b e=>Nat.le_trans hB (h.2.2.2 b e)⟩
def wF (w:World) (e:Ev) (c:List Value):Prop:=∃ P,c=[.I e.1,P]/\TB w P e.2
def r8 (_:World) (x:aY × Value) (c:List Value):Prop:=c=[.U x.1.1,.I x.1.2.1,x.2]
def jg (B:Nat) (w:World) (nd:aD) (c:List Value):Prop:=∃ P V H U,c=[P,V,.U nd.owner,.I nd.mode,H,.U nd.aB,.U nd.gen,U]/\TB w P nd.path/\TB w V nd.value/\TU B w H nd.holders/\TU B w U nd.watchers
abbrev mu (B:Nat) (w:World) (v:Value) (es:List Ev):Prop:=RT wF 49 2 B w v es
structure SpS (B:Nat) (w:World) (v:Value) (ss:List aY) (Qs:List Value):Prop where
 len:Qs.length=ss.length
 row:RT r8 35 3 B w v (ss.zip Qs)
 za:∀ (i:Nat) (s:aY) (Q:Value),ss[i]?=some s->Qs[i]?=some Q->mu B w Q s.2.2
 rj:∀ (i j:Nat) (Q Q':Value) (b:Nat),i≠j->Qs[i]?=some Q->Qs[j]?=some Q'->Q.ownBlock=some b->Q'.ownBlock≠some b
abbrev bS (B0 B:Nat) (w:World) (v:Value) (ns:List aD):Prop:=RT (jg B0) 38 8 B w v ns
abbrev SpN (B:Nat) (w:World) (v:Value) (ns:List aD):Prop:=bS B B w v ns
theorem RT.fr {α:Type} {el:World->α->List Value->Prop} {sz:Nat} {w w':World} {xs:List α} {T:List TypeId} (h:RT el ty sz B w v xs) (hf:Fr T w w') (ht:ty∉T) (pL:∀ x c,el w x c->el w' x c):RT el ty sz B w' v xs:=
 h.keep pL fun b hb=>by obtain ⟨cur,hc⟩:=h.nJ b hb;exact (hf.2 b cur ty _ ht hc).trans hc.symm
theorem wF.fr {T:List TypeId} {w w':World} (hf:Fr T w w') (ht:5∉T) (x:Ev) (c:List Value) (h:wF w x c):wF w' x c:=by
 obtain ⟨P,e,h1⟩:=h;exact ⟨P,e,h1.fr hf ht⟩
theorem jg.fr {T:List TypeId} {w w':World} (hf:Fr T w w') (ht:5∉T) (hu:23∉T) (x:aD) (c:List Value) (h:jg B w x c):jg B w' x c:=by
 obtain ⟨P,V,H,U,e,h1,h2,h3,h4⟩:=h;exact ⟨P,V,H,U,e,h1.fr hf ht,h2.fr hf ht,h3.fr hf hu,h4.fr hf hu⟩
theorem bS.fr {T:List TypeId} {w w':World} (h:bS B0 B w v ns) (hf:Fr T w w') (ht:5∉T/\23∉T/\38∉T:=by decide):bS B0 B w' v ns:=
 RT.fr h hf ht.2.2 (jg.fr hf ht.1 ht.2.1)
theorem mu.fr {T:List TypeId} {w w':World} {es:List Ev} (h:mu B w v es) (hf:Fr T w w') (ht:5∉T/\49∉T:=by decide):mu B w' v es:=RT.fr h hf ht.2 (wF.fr hf ht.1)
theorem SpS.fr {T:List TypeId} {w w':World} (h:SpS B w v ss Qs) (hf:Fr T w w') (ht:5∉T/\49∉T/\35∉T:=by decide):SpS B w' v ss Qs:=
 ⟨h.len,RT.fr h.row hf ht.2.2 (fun _ _ h=>h),fun i s Q hs hq=>(h.za i s Q hs hq).fr hf ⟨ht.1,ht.2.1⟩,h.rj⟩
theorem SpS.nil (B:Nat) (w:World):SpS B w (.S none 0 0) [] []:=⟨rfl,RT.nil _ _ _ _ _,fun i s Q h=>by simp at h,fun i j Q Q' b _ h=>by simp at h⟩
theorem bS.put {w:World} {g n cap:Nat} (h:bS B0 B w (.S (some ⟨g,0,none⟩) n cap) ns) {nd:aD} (hx:ns[i]?=some nd) (hj:j<8) (u:Value) (nd':aD)
  (hn:∀ w' P V H U,TB w' P nd.path->TB w' V nd.value->TU B0 w' H nd.holders->TU B0 w' U nd.watchers->Fr [38] w w'->jg B0 w' nd' ([P,V,.U nd.owner,.I nd.mode,H,.U nd.aB,.U nd.gen,U].set j u)) :
  bS B0 B (w.setCell ⟨g,i*8+j,none⟩ u) (.S (some ⟨g,0,none⟩) n cap) (ns.set i nd')/\Fr [38] w (w.setCell ⟨g,i*8+j,none⟩ u):=by
 obtain ⟨cur,hc⟩:=h.nJ g rfl;have hf:Fr [38] w (w.setCell ⟨g,i*8+j,none⟩ u):=Fr.set hc aU;have t1:5∉[38]:=bl;have t2:23∉[38]:=bl;refine ⟨RT.put h hx hj u nd' (jg.fr hf t1 t2) (fun c _ he=>?_),hf⟩;obtain ⟨P,V,H,U,rfl,h1,h2,h3,h4⟩:=he;exact hn _ P V H U (h1.fr hf t1) (h2.fr hf t1) (h3.fr hf t2) (h4.fr hf t2) hf
theorem vm {α β:Type}:∀ (l:List α) (m:List β) (i:Nat) (a:α) (b:β),(l.zip m).set i (a,b)=(l.set i a).zip (m.set i b)
 | [],m,i,a,b=>aU
 | x::l,[],i,a,b=>by cases i<;>simp
 | x::l,y::m,0,a,b=>aU
 | x::l,y::m,i+1,a,b=>by simp [vm l m i a b]
theorem kN {α:Type} {l:List α} {a:α} (h:l[i]?=some a):l.set i a=l:=by
 obtain ⟨h1,h2⟩:=aN.1 h;rw [<-h2,List.set_getElem_self]
theorem SpS.Kt {w w1:World} {g n cap:Nat} (h:SpS B w (.S (some ⟨g,0,none⟩) n cap) ss Qs) (hx:ss[i]?=some s) {Q v':Value} (hQ:Qs[i]?=some Q) {q':List Ev}
  (qg:mu B w1 v' q') (hg:w.grownBy w1 Q.ownBlock) (mr:∀ b,v'.ownBlock=some b->Q.ownBlock=some b\/w.heap.size<=b) :
  SpS B (w1.setCell ⟨g,i*3+2,none⟩ v') (.S (some ⟨g,0,none⟩) n cap) (ss.set i (s.1,s.2.1,q')) (Qs.set i v')/\Fr [49,35] w (w1.setCell ⟨g,i*3+2,none⟩ v'):=by
 have hi:=(aN.1 hx).1;have f1:Fr [49] w w1:=Fr.grown hg fun b hb=>by obtain ⟨cur,hc⟩:=(h.za i s Q hx hQ).nJ b hb;exact ⟨cur,_,hc,aU⟩
 have r1:RT r8 35 3 B w1 (.S (some ⟨g,0,none⟩) n cap) (ss.zip Qs):=RT.fr h.row f1 bl (fun _ _ h=>h);obtain ⟨cur,hc⟩:=r1.nJ g rfl;have f2:Fr [35] w1 (w1.setCell ⟨g,i*3+2,none⟩ v'):=Fr.set hc aU;have hz:(ss.zip Qs)[i]?=some (s,Q):=by rw [List.getElem?_zip_eq_some];exact ⟨hx,hQ⟩
 have hold:∀ (k:Nat) (Q':Value) (b:Nat),i≠k->Qs[k]?=some Q'->Q'.ownBlock=some b->v'.ownBlock≠some b:=fun k Q' b hk hq hb e=>by rcases mr b e with e | e;{exact h.rj i k Q Q' b hk hQ hq e hb};{obtain ⟨s',uS⟩:∃ s',ss[k]?=some s':=⟨_,aK (by rw [<-h.len];exact (aN.1 hq).1)⟩;have:=((h.za k s' Q' uS hq).lt b hb).2;omega}
 refine ⟨⟨by rw [List.length_set,List.length_set];exact h.len,?_,fun k s' Q' hs hq=>?_,fun k j Q1 Q2 b hkj h1 h2 hb=>?_⟩,(f1.sub aU).trans (f2.sub aU)⟩;{
 have:=RT.put r1 hz (j:=2) ab v' ((s.1,s.2.1,q'),v') (fun _ _ h=>h) (fun c _ he=>by
  unfold r8 at he ⊢;subst he
  rfl)
 rwa [vm] at this};{rw [List.getElem?_set] at hs hq;by_cases e:i=k;{subst e;rw [if_pos rfl,if_pos hi] at hs;rw [if_pos rfl,if_pos (by rw [h.len];exact hi)] at hq;cases hs;cases hq;exact mu.fr qg f2};{rw [if_neg e] at hs hq;have hk:=h.za k s' Q' hs hq;refine mu.fr (RT.keep hk (wF.fr f1 bl) fun b hb=>hg.block b (hk.lt b hb).2 (fun e2=>h.rj i k Q Q' b e hQ hq e2.symm hb)) f2}};{rw [List.getElem?_set] at h1 h2;by_cases e:i=k;{subst e;rw [if_pos rfl,if_pos (by rw [h.len];exact hi)] at h1;rw [if_neg hkj] at h2;cases h1;exact fun e2=>hold j Q2 b hkj h2 e2 hb};{rw [if_neg e] at h1;by_cases e':i=j;{subst e';rw [if_pos rfl,if_pos (by rw [h.len];exact hi)] at h2;cases h2;exact hold k Q1 b e h1 hb};{rw [if_neg e'] at h2;exact h.rj k j Q1 Q2 b hkj h1 h2 hb}}}
theorem SpS.dl {w:World} {g n cap:Nat} (h:SpS B w (.S (some ⟨g,0,none⟩) n cap) ss Qs) (hx:ss[i]?=some s) (d:Int) :
  SpS B (w.setCell ⟨g,i*3+1,none⟩ (.I d)) (.S (some ⟨g,0,none⟩) n cap) (ss.set i (s.1,d,s.2.2)) Qs/\Fr [35] w (w.setCell ⟨g,i*3+1,none⟩ (.I d)):=by
 obtain ⟨cur,hc⟩:=h.row.nJ g rfl;have hf:Fr [35] w (w.setCell ⟨g,i*3+1,none⟩ (.I d)):=Fr.set hc aU;have hi:=(aN.1 hx).1;obtain ⟨Q,hQ⟩:∃ Q,Qs[i]?=some Q:=⟨_,aK (by rw [h.len];exact hi)⟩;have hz:(ss.zip Qs)[i]?=some (s,Q):=by rw [List.getElem?_zip_eq_some];exact ⟨hx,hQ⟩
 refine ⟨⟨by rw [List.length_set];exact h.len,?_,fun k s' Q' hs hq=>?_,h.rj⟩,hf⟩;{
 have:=RT.put h.row hz (j:=1) ab (.I d) ((s.1,d,s.2.2),Q) (fun _ _ h=>h) (fun c _ he=>by
  unfold r8 at he ⊢;subst he
  rfl)
 rwa [vm,kN hQ] at this};{rw [List.getElem?_set] at hs;by_cases e:i=k;{subst e;rw [if_pos rfl,if_pos hi] at hs;cases hs;exact mu.fr (h.za i s Q' hx hq) hf};{rw [if_neg e] at hs;exact mu.fr (h.za k s' Q' hs hq) hf}}
end Go.Proofs.YtcfcafeciggjeaaGreatDoor
