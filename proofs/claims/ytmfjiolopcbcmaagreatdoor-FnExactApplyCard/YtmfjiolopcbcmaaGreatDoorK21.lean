import Derived.Test.YtmfjiolopcbcmaaGreatDoorK14
namespace Go.Proofs.YtmfjiolopcbcmaaGreatDoor
set_option linter.unusedVariables false
set_option linter.unusedSimpArgs false
set_option maxRecDepth 100000
open Go.ChangeShapes Go.WideShapes Go.ChangeAt Go.RowKit
variable {B i j:Nat} {Qs c:List Value} {T:List TypeId} {cs:List (List Value)} {l:List Int} {ns:List aA} {s:aR} {ss:List aR} {ty:TypeId} {v v':Value} {w w' w1:World}
theorem Db {sz:Nat} (h:∀ c∈cs,c.length=sz) (hc:cs[i]?=some c) (hj:j<sz) (u:Value):(cs.set i (c.set j u)).flatten=cs.flatten.set (i*sz+j) u:=by
 induction cs generalizing i with
 | nil=>simp at hc
 | cons d cs ih=>
  cases i with
  | zero=>
   simp at hc;subst hc;rw [List.set_cons_zero,List.flatten_cons,List.flatten_cons,List.set_append_left _ _ (by rw [h d (by simp)];omega)];simp
  | succ i=>
   rw [List.set_cons_succ,List.flatten_cons,List.flatten_cons,List.set_append_right _ _ (by rw [h d (by simp),Nat.succ_mul];omega),h d (by simp),ih (fun c hc=>h c (by simp [hc])) (by simpa using hc)]
   congr 2
   rw [Nat.succ_mul];omega
def RT {α:Type} (el:World->α->List Value->Prop) (ty:TypeId) (sz B:Nat) (w:World) (v:Value) (xs:List α):Prop:=
 ∃ cs:List (List Value),cs.length=xs.length/\(∀ c∈cs,c.length=sz)/\w.ownsRow B ty sz v xs.length cs.flatten/\∀ (i:Nat) (x:α) (c:List Value),xs[i]?=some x->cs[i]?=some c->el w x c
section
variable {α:Type} {el:World->α->List Value->Prop} {ty:TypeId} {sz B:Nat} {w w':World} {v:Value} {xs:List α}
theorem RT.nil (el:World->α->List Value->Prop) (ty:TypeId) (sz B:Nat) (w:World):RT el ty sz B w (.slice none 0 0) []:=
 ⟨[],rfl,fun c hc=>by simp at hc,by simpa using World.ownsRow_nil w B ty sz,fun i x c hx=>by simp at hx⟩
theorem RT.lt (h:RT el ty sz B w v xs):∀ b,v.ownBlock=some b->B<=b/\b<w.heap.size:=by
 obtain ⟨cs,h1,h2,h3,h4⟩:=h;exact h3.lt
theorem RT.yE (h:RT el ty sz B w v xs):∀ b,v.ownBlock=some b->∃ cur,w.heap[b]?=some (.cells cur ty):=fun b hb=>by
 obtain ⟨cs,h1,h2,h3,h4⟩:=h;rcases h3.2 with ⟨rfl,-⟩ | ⟨g,cap,cur,rfl,-,hg,-⟩;{simp [Value.ownBlock] at hb};{simp only [Value.ownBlock,Option.some.injEq] at hb;subst hb;exact ⟨cur,hg⟩}
theorem RT.form (h:RT el ty sz B w v xs):∃ p c,v=.slice p xs.length c/\xs.length<=c/\c<=maxLen/\(0<xs.length->∃ g,p=some ⟨g,0,none⟩):=by
 obtain ⟨cs,h1,h2,h3,h4⟩:=h;rcases h3.2 with ⟨rfl,e⟩ | ⟨g,cap,cur,rfl,-,hg,a,b,-⟩;{exact ⟨none,0,by rw [e],by omega,by unfold maxLen;omega,fun hh=>by omega⟩};{exact ⟨_,cap,rfl,a,b,fun _=>⟨g,rfl⟩⟩}
theorem RT.aN (h:RT el ty sz B w v xs) (ij:∀ x c,el w x c->el w' x c) (hr:∀ b,v.ownBlock=some b->w'.heap[b]?=w.heap[b]?):RT el ty sz B w' v xs:=by
 obtain ⟨cs,h1,h2,h3,h4⟩:=h;refine ⟨cs,h1,h2,⟨h3.1,?_⟩,fun i x c hx hc=>ij x c (h4 i x c hx hc)⟩;rcases h3.2 with hn | ⟨g,cap,cur,rfl,hb,hg,rest⟩;{exact .inl hn};{exact .inr ⟨g,cap,cur,rfl,hb,(hr g rfl).trans hg,rest⟩}
theorem RT.mono {B':Nat} (h:RT el ty sz B w v xs) (hB:B'<=B):RT el ty sz B' w v xs:=by
 obtain ⟨cs,h1,h2,h3,h4⟩:=h;refine ⟨cs,h1,h2,⟨h3.1,?_⟩,h4⟩;rcases h3.2 with hn | ⟨g,cap,cur,rfl,hb,rest⟩;{exact .inl hn};{exact .inr ⟨g,cap,cur,rfl,Nat.le_trans hB hb,rest⟩}
theorem RT.snoc {x:α} (h1:cs.length=xs.length) (h2:∀ c∈cs,c.length=sz) (h4:∀ (i:Nat) (x:α) (c:List Value),xs[i]?=some x->cs[i]?=some c->el w x c)
  (ij:∀ x c,el w x c->el w' x c) (hx:el w x c) (hc:c.length=sz) (dN:w'.ownsRow B ty sz v' (xs.length+1) (cs.flatten++c)):RT el ty sz B w' v' (xs++[x]):=by
 refine ⟨cs++[c],by simp [h1],fun c' gq=>?_,by simpa using dN,fun i y c' hy gq=>?_⟩;{rcases List.mem_append.1 gq with gq | gq;{exact h2 c' gq};{simp at gq;subst gq;exact hc}};{
 by_cases hi:i<xs.length;{rw [List.getElem?_append_left hi] at hy;rw [List.getElem?_append_left (by omega)] at gq;exact ij _ _ (h4 i y c' hy gq)};{
 have ei:i=xs.length:=by have:=(aM.1 hy).1;simp at this;omega
 subst ei;rw [List.getElem?_append_right ay,Nat.sub_self] at hy;rw [List.getElem?_append_right (by omega),h1,Nat.sub_self] at gq;simp at hy gq;subst hy gq;exact ij _ _ hx}}
theorem RT.n {g n cap:Nat} (h:RT el ty sz B w (.slice (some ⟨g,0,none⟩) n cap) xs):n=xs.length:=by
 obtain ⟨p,c,e,-⟩:=h.form;simp only [Value.slice.injEq] at e;exact e.2.1
theorem RT.at {g n cap:Nat} (h:RT el ty sz B w (.slice (some ⟨g,0,none⟩) n cap) xs) {x:α} (hx:xs[i]?=some x):∃ c,c.length=sz/\el w x c/\(∀ (j:Nat) (u:Value),c[j]?=some u->w.cell? ⟨g,i*sz+j,none⟩=some u)/\∀ o,w.frozen? ⟨g,o,none⟩=false:=by
 have en:=h.n;subst en;obtain ⟨cs,h1,h2,h3,h4⟩:=h;have hi:=(aM.1 hx).1;obtain ⟨c,hc⟩:∃ x,cs[i]?=some x:=⟨_,aH (by omega)⟩;have hlen:=h2 c (aL hc);refine ⟨c,hlen,h4 i x c hx hc,fun j u hu=>?_,fun o=>h3.frozenAt o⟩;have hj:j<sz:=by have:=(aM.1 hu).1;omega
 have hks:i*sz+sz<=xs.length*sz:=by rw [<-Nat.succ_mul];exact Nat.mul_le_mul_right _ hi
 rw [h3.cellAt (i*sz+j) (by omega),rn h2 hc hj];exact hu
theorem RT.put {g n cap:Nat} (h:RT el ty sz B w (.slice (some ⟨g,0,none⟩) n cap) xs) {x:α} (hx:xs[i]?=some x) (hj:j<sz) (u:Value) (x':α)
  (ij:∀ y c,el w y c->el (w.setCell ⟨g,i*sz+j,none⟩ u) y c) (hn:∀ c,c.length=sz->el w x c->el (w.setCell ⟨g,i*sz+j,none⟩ u) x' (c.set j u)):RT el ty sz B (w.setCell ⟨g,i*sz+j,none⟩ u) (.slice (some ⟨g,0,none⟩) n cap) (xs.set i x'):=by
 have en:=h.n;subst en;obtain ⟨cs,h1,h2,h3,h4⟩:=h;have ua:=(aM.1 hx).1;obtain ⟨c,hc⟩:∃ x,cs[i]?=some x:=⟨_,aH (by omega)⟩;have hlen:=h2 c (aL hc);refine ⟨cs.set i (c.set j u),by simp [h1],fun d hd=>?_,?_,fun k y d hy hd=>?_⟩;{rcases List.mem_or_eq_of_mem_set hd with hd | rfl;{exact h2 d hd};{rw [List.length_set,hlen]}};{rw [Db h2 hc hj,List.length_set];exact (h3.stored _ u).1};{rw [List.getElem?_set] at hy hd;by_cases e:i=k;{subst e;rw [if_pos rfl,if_pos (by omega)] at hy hd;cases hy;cases hd;exact hn c hlen (h4 i x c hx hc)};{rw [if_neg e] at hy hd;exact ij _ _ (h4 k y d hy hd)}}
end
theorem dX {b:Nat} {o:Obj} (h:w.heap[b]?=some o):b<w.heap.size:=(Array.getElem?_eq_some_iff.1 h).1
def Fr (T:List TypeId) (w w':World):Prop:=w.heap.size<=w'.heap.size/\∀ (b:Nat) (cur:Array Value) (ty:TypeId) (m:Nat × Nat),ty∉T->w.heap[b]?=some (.cells cur ty m)->w'.heap[b]?=some (.cells cur ty m)
theorem Fr.below (h:Below w.heap.size w w'):Fr T w w':=⟨h.size,fun b cur ty m _ hb=>(h.block b (dX hb)).trans hb⟩
theorem Fr.refl (T:List TypeId) (w:World):Fr T w w:=⟨Nat.le_refl _,fun _ _ _ _ _ h=>h⟩
theorem Fr.trans {w2:World} (h:Fr T w w1) (h2:Fr T w1 w2):Fr T w w2:=⟨Nat.le_trans h.1 h2.1,fun b cur ty m ht hb=>h2.2 b cur ty m ht (h.2 b cur ty m ht hb)⟩
theorem Fr.sub {T':List TypeId} (h:Fr T w w') (hs:∀ t∈T,t∈T'):Fr T' w w':=⟨h.1,fun b cur ty m ht hb=>h.2 b cur ty m (fun e=>ht (hs _ e)) hb⟩
theorem Fr.set {g:Nat} {u:Value} {cur:Array Value} (hg:w.heap[g]?=some (.cells cur ty)) (ht:ty∈T):Fr T w (w.setCell ⟨g,j,none⟩ u):=by
 refine ⟨by simp,fun b vN Ox m hn hb=>?_⟩;have bm:b≠g:=fun e=>by subst e;rw [hg] at hb;simp at hb;exact hn (hb.2.1▸ht)
 exact (dr _ _ _ _ bm).trans hb
theorem Fr.grown {r:Option Nat} (hg:w.grownBy w' r) (ht:∀ b,r=some b->∃ cur ty,w.heap[b]?=some (.cells cur ty)/\ty∈T):Fr T w w':=by
 refine ⟨hg.size,fun b cur ty m hn hb=>?_⟩;refine (hg.block b (dX hb) (fun e=>?_)).trans hb;obtain ⟨vN,Ox,h1,h2⟩:=ht b e.symm;rw [h1] at hb;simp at hb;exact hn (hb.2.1▸h2)
def TB (w:World) (v:Value) (l:List Int):Prop:=Rd w v l/\(∀ b,v.ownBlock=some b->l=[]\/∃ cur m,w.heap[b]?=some (.cells cur 5 m))/\dh v
def TU (w:World) (v:Value) (l:List Int):Prop:=iA w v l/\∀ b,v.ownBlock=some b->l=[]\/∃ cur m,w.heap[b]?=some (.cells cur 22 m)
theorem TB.fr (h:TB w v l) (hf:Fr T w w') (ht:5∉T):TB w' v l:=by
 obtain ⟨⟨p,c,rfl,hd⟩,h2,hc⟩:=h;by_cases hl:l=[];{exact ⟨⟨p,c,rfl,.inl hl⟩,fun b _=>.inl hl,hc⟩};rcases hd with hd | ⟨b,o,rfl,hd⟩;{exact absurd hd hl};rcases h2 b rfl with e | ⟨cur,m,hb⟩;{exact absurd e hl};have bu:=hf.2 b cur _ m ht hb;refine ⟨⟨_,c,rfl,.inr ⟨b,o,rfl,fun i hi=>(aj (bu.trans hb.symm) _).trans (hd i hi)⟩⟩,fun b' e=>.inr ?_,hc⟩;simp only [Value.ownBlock,Option.some.injEq] at e;subst e;exact ⟨cur,m,bu⟩
theorem TU.fr (h:TU w v l) (hf:Fr T w w') (ht:22∉T):TU w' v l:=by
 obtain ⟨⟨p,c,rfl,hd⟩,h2⟩:=h;by_cases hl:l=[];{exact ⟨⟨p,c,rfl,.inl hl⟩,fun b _=>.inl hl⟩};rcases hd with hd | ⟨b,o,rfl,hd⟩;{exact absurd hd hl};rcases h2 b rfl with e | ⟨cur,m,hb⟩;{exact absurd e hl};have bu:=hf.2 b cur _ m ht hb;refine ⟨⟨_,c,rfl,.inr ⟨b,o,rfl,fun i hi=>(aj (bu.trans hb.symm) _).trans (hd i hi)⟩⟩,fun b' e=>.inr ?_⟩;simp only [Value.ownBlock,Option.some.injEq] at e;subst e;exact ⟨cur,m,bu⟩
theorem Own.ab3 (h:Own B w v l):dh v:=by
 rcases h.2 with ⟨rfl,-⟩ | ⟨g,cap,cur,rfl,-,hg,hc,hm,-⟩;{exact ⟨_,_,_,rfl,Nat.le_refl _,Nat.zero_le _⟩};{exact ⟨_,_,_,rfl,hc,hm⟩}
theorem Own.tb (h:Own B w v l):TB w v l:=⟨h.rd,fun b e=>.inr (by
 rcases h.2 with ⟨rfl,-⟩ | ⟨g,cap,cur,rfl,-,hg,-⟩;{simp [Value.ownBlock] at e};{simp only [Value.ownBlock,Option.some.injEq] at e;subst e;exact ⟨cur,_,hg⟩}),h.ab3⟩
theorem TB.nil (w:World):TB w (.slice none 0 0) []:=⟨Rd.nil _,fun b e=>.inl rfl,_,_,_,rfl,Nat.le_refl _,Nat.zero_le _⟩
theorem TU.nil (w:World):TU w (.slice none 0 0) []:=⟨⟨none,0,rfl,.inl rfl⟩,fun b e=>.inl rfl⟩
def ru (w:World) (e:Ev) (c:List Value):Prop:=∃ P,c=[.int .i64 e.1,P]/\TB w P e.2
def ly (_:World) (x:aR × Value) (c:List Value):Prop:=c=[.int .u64 x.1.1,.int .i64 x.1.2.1,x.2]
def jH (w:World) (nd:aA) (c:List Value):Prop:=∃ P V H U,c=[P,V,.int .u64 nd.owner,.int .i64 nd.mode,H,.int .u64 nd.aC,.int .u64 nd.gen,U]/\TB w P nd.path/\TB w V nd.value/\TU w H nd.holders/\TU w U nd.watchers
abbrev qn (B:Nat) (w:World) (v:Value) (es:List Ev):Prop:=RT ru 147 2 B w v es
structure fK (B:Nat) (w:World) (v:Value) (ss:List aR) (Qs:List Value):Prop where
 len:Qs.length=ss.length
 row:RT ly 95 3 B w v (ss.zip Qs)
 DR:∀ (i:Nat) (s:aR) (Q:Value),ss[i]?=some s->Qs[i]?=some Q->qn B w Q s.2.2
 kO:∀ (i j:Nat) (Q Q':Value) (b:Nat),i≠j->Qs[i]?=some Q->Qs[j]?=some Q'->Q.ownBlock=some b->Q'.ownBlock≠some b
abbrev dA (B:Nat) (w:World) (v:Value) (ns:List aA):Prop:=RT jH 103 8 B w v ns
theorem RT.fr {α:Type} {el:World->α->List Value->Prop} {sz B:Nat} {xs:List α} (h:RT el ty sz B w v xs) (hf:Fr T w w') (ht:ty∉T) (ij:∀ x c,el w x c->el w' x c):RT el ty sz B w' v xs:=
 h.aN ij fun b hb=>by obtain ⟨cur,hc⟩:=h.yE b hb;exact (hf.2 b cur ty _ ht hc).trans hc.symm
theorem ru.fr (hf:Fr T w w') (ht:5∉T) (x:Ev) (c:List Value) (h:ru w x c):ru w' x c:=by
 obtain ⟨P,e,h1⟩:=h;exact ⟨P,e,h1.fr hf ht⟩
theorem jH.fr (hf:Fr T w w') (ht:5∉T) (hu:22∉T) (x:aA) (c:List Value) (h:jH w x c):jH w' x c:=by
 obtain ⟨P,V,H,U,e,h1,h2,h3,h4⟩:=h;exact ⟨P,V,H,U,e,h1.fr hf ht,h2.fr hf ht,h3.fr hf hu,h4.fr hf hu⟩
theorem dA.fr (h:dA B w v ns) (hf:Fr T w w') (ht:5∉T/\22∉T/\103∉T):dA B w' v ns:=
 RT.fr h hf ht.2.2 (jH.fr hf ht.1 ht.2.1)
theorem qn.fr {es:List Ev} (h:qn B w v es) (hf:Fr T w w') (ht:5∉T/\147∉T):qn B w' v es:=RT.fr h hf ht.2 (ru.fr hf ht.1)
theorem fK.fr (h:fK B w v ss Qs) (hf:Fr T w w') (ht:5∉T/\147∉T/\95∉T):fK B w' v ss Qs:=
 ⟨h.len,RT.fr h.row hf ht.2.2 (fun _ _ h=>h),fun i s Q hs hq=>(h.DR i s Q hs hq).fr hf ⟨ht.1,ht.2.1⟩,h.kO⟩
theorem fK.nil (B:Nat) (w:World):fK B w (.slice none 0 0) [] []:=⟨rfl,RT.nil _ _ _ _ _,fun i s Q h=>by simp at h,fun i j Q Q' b _ h=>by simp at h⟩
theorem dA.put {g n cap:Nat} (h:dA B w (.slice (some ⟨g,0,none⟩) n cap) ns) {nd:aA} (hx:ns[i]?=some nd) (hj:j<8) (u:Value) (nd':aA)
  (hn:∀ w' P V H U,TB w' P nd.path->TB w' V nd.value->TU w' H nd.holders->TU w' U nd.watchers->Fr [103] w w'->jH w' nd' ([P,V,.int .u64 nd.owner,.int .i64 nd.mode,H,.int .u64 nd.aC,.int .u64 nd.gen,U].set j u)) :
  dA B (w.setCell ⟨g,i*8+j,none⟩ u) (.slice (some ⟨g,0,none⟩) n cap) (ns.set i nd')/\Fr [103] w (w.setCell ⟨g,i*8+j,none⟩ u):=by
 obtain ⟨cur,hc⟩:=h.yE g rfl;have hf:Fr [103] w (w.setCell ⟨g,i*8+j,none⟩ u):=Fr.set hc (by simp);have t1:5∉[103]:=by decide
 have t2:22∉[103]:=by decide
 refine ⟨RT.put h hx hj u nd' (jH.fr hf t1 t2) (fun c _ he=>?_),hf⟩;obtain ⟨P,V,H,U,rfl,h1,h2,h3,h4⟩:=he;exact hn _ P V H U (h1.fr hf t1) (h2.fr hf t1) (h3.fr hf t2) (h4.fr hf t2) hf
theorem yB {α β:Type}:∀ (l:List α) (m:List β) (i:Nat) (a:α) (b:β),(l.zip m).set i (a,b)=(l.set i a).zip (m.set i b)
 | [],m,i,a,b=>by simp
 | x::l,[],i,a,b=>by cases i<;>simp
 | x::l,y::m,0,a,b=>by simp
 | x::l,y::m,i+1,a,b=>by simp [yB l m i a b]
theorem jW {α:Type} {l:List α} {a:α} (h:l[i]?=some a):l.set i a=l:=by
 obtain ⟨h1,h2⟩:=aM.1 h;rw [<-h2,List.set_getElem_self]
theorem fK.Tw {g n cap:Nat} (h:fK B w (.slice (some ⟨g,0,none⟩) n cap) ss Qs) (hx:ss[i]?=some s) {Q:Value} (hQ:Qs[i]?=some Q) {q':List Ev}
  (om:qn B w1 v' q') (hg:w.grownBy w1 Q.ownBlock) (ku:∀ b,v'.ownBlock=some b->Q.ownBlock=some b\/w.heap.size<=b) :
  fK B (w1.setCell ⟨g,i*3+2,none⟩ v') (.slice (some ⟨g,0,none⟩) n cap) (ss.set i (s.1,s.2.1,q')) (Qs.set i v')/\Fr [147,95] w (w1.setCell ⟨g,i*3+2,none⟩ v'):=by
 have hi:=(aM.1 hx).1;have f1:Fr [147] w w1:=Fr.grown hg fun b hb=>by obtain ⟨cur,hc⟩:=(h.DR i s Q hx hQ).yE b hb;exact ⟨cur,_,hc,by simp⟩
 have r1:RT ly 95 3 B w1 (.slice (some ⟨g,0,none⟩) n cap) (ss.zip Qs):=RT.fr h.row f1 (by decide) (fun _ _ h=>h);obtain ⟨cur,hc⟩:=r1.yE g rfl;have f2:Fr [95] w1 (w1.setCell ⟨g,i*3+2,none⟩ v'):=Fr.set hc (by simp);have hz:(ss.zip Qs)[i]?=some (s,Q):=by rw [List.getElem?_zip_eq_some];exact ⟨hx,hQ⟩
 have hold:∀ (k:Nat) (Q':Value) (b:Nat),i≠k->Qs[k]?=some Q'->Q'.ownBlock=some b->v'.ownBlock≠some b:=fun k Q' b hk hq hb e=>by rcases ku b e with e | e;{exact h.kO i k Q Q' b hk hQ hq e hb};{obtain ⟨s',vh⟩:∃ s',ss[k]?=some s':=⟨_,aH (by rw [<-h.len];exact (aM.1 hq).1)⟩;have:=((h.DR k s' Q' vh hq).lt b hb).2;omega}
 refine ⟨⟨by rw [List.length_set,List.length_set];exact h.len,?_,fun k s' Q' hs hq=>?_,fun k j Q1 Q2 b hkj h1 h2 hb=>?_⟩,(f1.sub (by simp)).trans (f2.sub (by simp))⟩;{
 have:=RT.put r1 hz (j:=2) (by omega) v' ((s.1,s.2.1,q'),v') (fun _ _ h=>h) (fun c _ he=>by
  unfold ly at he ⊢;subst he
  rfl)
 rwa [yB] at this};{rw [List.getElem?_set] at hs hq;by_cases e:i=k;{subst e;rw [if_pos rfl,if_pos hi] at hs;rw [if_pos rfl,if_pos (by rw [h.len];exact hi)] at hq;cases hs;cases hq;exact qn.fr om f2 (by decide)};{rw [if_neg e] at hs hq;have hk:=h.DR k s' Q' hs hq;refine qn.fr (RT.aN hk (ru.fr f1 (by decide)) fun b hb=>hg.block b (hk.lt b hb).2 (fun e2=>h.kO i k Q Q' b e hQ hq e2.symm hb)) f2 (by decide)}};{rw [List.getElem?_set] at h1 h2;by_cases e:i=k;{subst e;rw [if_pos rfl,if_pos (by rw [h.len];exact hi)] at h1;rw [if_neg hkj] at h2;cases h1;exact fun e2=>hold j Q2 b hkj h2 e2 hb};{rw [if_neg e] at h1;by_cases e':i=j;{subst e';rw [if_pos rfl,if_pos (by rw [h.len];exact hi)] at h2;cases h2;exact hold k Q1 b e h1 hb};{rw [if_neg e'] at h2;exact h.kO k j Q1 Q2 b hkj h1 h2 hb}}}
theorem fK.dl {g n cap:Nat} (h:fK B w (.slice (some ⟨g,0,none⟩) n cap) ss Qs) (hx:ss[i]?=some s) (d:Int) :
  fK B (w.setCell ⟨g,i*3+1,none⟩ (.int .i64 d)) (.slice (some ⟨g,0,none⟩) n cap) (ss.set i (s.1,d,s.2.2)) Qs/\Fr [95] w (w.setCell ⟨g,i*3+1,none⟩ (.int .i64 d)):=by
 obtain ⟨cur,hc⟩:=h.row.yE g rfl;have hf:Fr [95] w (w.setCell ⟨g,i*3+1,none⟩ (.int .i64 d)):=Fr.set hc (by simp);have hi:=(aM.1 hx).1;obtain ⟨Q,hQ⟩:∃ Q,Qs[i]?=some Q:=⟨_,aH (by rw [h.len];exact hi)⟩;have hz:(ss.zip Qs)[i]?=some (s,Q):=by rw [List.getElem?_zip_eq_some];exact ⟨hx,hQ⟩
 refine ⟨⟨by rw [List.length_set];exact h.len,?_,fun k s' Q' hs hq=>?_,h.kO⟩,hf⟩;{
 have:=RT.put h.row hz (j:=1) (by omega) (.int .i64 d) ((s.1,d,s.2.2),Q) (fun _ _ h=>h) (fun c _ he=>by
  unfold ly at he ⊢;subst he
  rfl)
 rwa [yB,jW hQ] at this};{rw [List.getElem?_set] at hs;by_cases e:i=k;{subst e;rw [if_pos rfl,if_pos hi] at hs;cases hs;exact qn.fr (h.DR i s Q' hx hq) hf (by decide)};{rw [if_neg e] at hs;exact qn.fr (h.DR k s' Q' hs hq) hf (by decide)}}
end Go.Proofs.YtmfjiolopcbcmaaGreatDoor
