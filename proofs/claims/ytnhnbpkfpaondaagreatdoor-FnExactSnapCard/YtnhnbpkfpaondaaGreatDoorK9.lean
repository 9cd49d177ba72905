import Derived.Test.YtnhnbpkfpaondaaGreatDoorK3
namespace Go.Proofs.YtnhnbpkfpaondaaGreatDoor
set_option maxHeartbeats 0
set_option linter.all false
set_option maxRecDepth 100000
open Go.ChangeShapes Go.WideShapes Go.ChangeAt Go.RowKit
def RT{α:Type}(el:World->α->List Value->Prop)(ty:TypeId)(sz B:Nat)(w:World)(v:Value)(xs:List α):Prop:=
 ∃cs:List (List Value),cs.length=xs.length/\(∀c∈cs,c.length=sz)/\w.ownsRow B ty sz v xs.length cs.flatten/\∀(i:Nat)(x:α)(c:List Value),xs[i]?=some x->cs[i]?=some c->el w x c
section
variable {α:Type}{el:World->α->List Value->Prop}{ty:TypeId}{sz B:Nat}{w w':World}{v:Value}{xs:List α}
def RT.nil(el:World->α->List Value->Prop)(ty:TypeId)(sz B:Nat)(w:World):RT el ty sz B w aq []:=
 ⟨[],rfl,λc hc=>by simp at hc,by simpa using gm w B ty sz,λi x c hx=>by simp at hx⟩
def RT.lt(h:RT el ty sz B w v xs):∀b,v.ownBlock=some b->B<=b/\b<w.heap.size:=by
 obtain⟨cs,h1,h2,h3,h4⟩:=h;exact h3.lt
def RT.typ(h:RT el ty sz B w v xs):∀b,v.ownBlock=some b->∃cur,w.heap[b]?=some (.cells cur ty):=λb hb=>by
 obtain⟨cs,h1,h2,h3,h4⟩:=h;rcases h3.2 with⟨rfl,-⟩|⟨g,cap,cur,rfl,-,hg,-⟩;{simp[Value.ownBlock]at hb};{simp only[Value.ownBlock,kV]at hb;subst hb;exact⟨cur,hg⟩}
def RT.form(h:RT el ty sz B w v xs):∃p c,v=.S p xs.length c/\xs.length<=c/\c<=maxLen/\(0<xs.length->∃g,p=some (Ad g 0)):=by
 obtain⟨cs,h1,h2,h3,h4⟩:=h;rcases h3.2 with⟨rfl,e⟩|⟨g,cap,cur,rfl,-,hg,a,b,-⟩;{exact⟨none,0,by rw[e],af,iB,λhh=>af⟩};{exact⟨_,cap,rfl,a,b,λ_=>⟨g,rfl⟩⟩}
def RT.keep(h:RT el ty sz B w v xs)(oz:∀x c,el w x c->el w' x c)(hr:∀b,v.ownBlock=some b->w'.heap[b]?=w.heap[b]?):RT el ty sz B w' v xs:=by
 obtain⟨cs,h1,h2,h3,h4⟩:=h;refine⟨cs,h1,h2,⟨h3.1,?_⟩,λi x c hx hc=>oz x c (h4 i x c hx hc)⟩;rcases h3.2 with hn|⟨g,cap,cur,rfl,hb,hg,rest⟩;{exact .inl hn};{exact .inr ⟨g,cap,cur,rfl,hb,(hr g rfl).trans hg,rest⟩}
variable {B':Nat}
def RT.mono(h:RT el ty sz B w v xs)(hB:B'<=B):RT el ty sz B' w v xs:=by
 obtain⟨cs,h1,h2,h3,h4⟩:=h;refine⟨cs,h1,h2,⟨h3.1,?_⟩,h4⟩;rcases h3.2 with hn|⟨g,cap,cur,rfl,hb,rest⟩;{exact .inl hn};{exact .inr ⟨g,cap,cur,rfl,fu hB hb,rest⟩}
variable {v':Value}{c:List Value}{cs:List (List Value)}
def RT.snoc{x:α}(h1:cs.length=xs.length)(h2:∀c∈cs,c.length=sz)(h4:∀(i:Nat)(x:α)(c:List Value),xs[i]?=some x->cs[i]?=some c->el w x c)(oz:∀x c,el w x c->el w' x c)(hx:el w x c)(hc:c.length=sz)(fo:w'.ownsRow B ty sz v' (xs.length+1) (cs.flatten++c)):RT el ty sz B w' v' (xs++[x]):=by
 refine⟨cs++[c],by simp[h1],λc' rA=>?_,by simpa using fo,λi y c' hy rA=>?_⟩;{rcases gu.1 rA with rA|rA;{exact h2 c' rA};{simp at rA;subst rA;exact hc}};{
 by_cases hi:i<xs.length;{rw[kR hi]at hy;rw[kR af]at rA;exact oz _ _ (h4 i y c' hy rA)};{
 have ei:i=xs.length:=by have:=(aV.1 hy).1;simp at this;omega
 subst ei;rw[nF ay,BQ]at hy;rw[nF af,h1,BQ]at rA;simp at hy rA;subst hy rA;exact oz _ _ hx}}
def RT.n{g n cap:Nat}(h:RT el ty sz B w (.T g n cap) xs):n=xs.length:=by
 obtain⟨p,c,e,-⟩:=h.form;simp only[pW]at e;exact e.2.1
variable {i:Nat}
def RT.at{g n cap:Nat}(h:RT el ty sz B w (.T g n cap) xs){x:α}(hx:xs[i]?=some x):∃c,c.length=sz/\el w x c/\(∀(j:Nat)(u:Value),c[j]?=some u->w.cell? (Ad g (i*sz+j))=some u)/\∀o,w.frozen? (Ad g o)=false:=by
 have en:=h.n;subst en;obtain⟨cs,h1,h2,h3,h4⟩:=h;have hi:=(aV.1 hx).1;obtain⟨c,hc⟩:∃x,cs[i]?=some x:=⟨_,aY af⟩;have hlen:=h2 c (aT hc);refine⟨c,hlen,h4 i x c hx hc,λj u hu=>?_,λo=>h3.frozenAt o⟩;have hj:j<sz:=aI (aV.1 hu).1;have hks:i*sz+sz<=xs.length*sz:=by rw[<-D7];exact GC _ hi
 rw[h3.cellAt (i*sz+j) af,Au h2 hc hj];exact hu
variable {j:Nat}
def RT.put{g n cap:Nat}(h:RT el ty sz B w (.T g n cap) xs){x:α}(hx:xs[i]?=some x)(hj:j<sz)(u:Value)(x':α)(oz:∀y c,el w y c->el (w.setCell (Ad g (i*sz+j)) u) y c)(hn:∀c,c.length=sz->el w x c->el (w.setCell (Ad g (i*sz+j)) u) x' (c.set j u)):RT el ty sz B (w.setCell (Ad g (i*sz+j)) u) (.T g n cap) (xs.set i x'):=by
 have en:=h.n;subst en;obtain⟨cs,h1,h2,h3,h4⟩:=h;have KU:=(aV.1 hx).1;obtain⟨c,hc⟩:∃x,cs[i]?=some x:=⟨_,aY af⟩;have hlen:=h2 c (aT hc);refine⟨cs.set i (c.set j u),by simp[h1],λd hd=>?_,?_,λk y d hy hd=>?_⟩;{rcases QE hd with hd|rfl;{exact h2 d hd};{rw[pR,hlen]}};{rw[au6 h2 hc hj,pR];exact(h3.stored _ u).1};{rw[vX]at hy hd;by_cases e:i=k;{subst e;rw[bO rfl,bO af]at hy hd;cases hy;cases hd;exact hn c hlen (h4 i x c hx hc)};{rw[bH e]at hy hd;exact oz _ _ (h4 k y d hy hd)}}
end
variable {w w' w1 wr w'':World}{b j B B' B0 i k b' m d t2 t3 b1 b2 np cp:Nat}{u v v0 v1 v2 v3 v4 v5 o0 o1 o2 o3 o4 o5 v' v6 v7 r0 r1 r2 r3 r4 r5 r6 r7:Value}{cur:Array Value}{ty:TypeId}{r:Option Nat}{l P:LI}{ns:List aD}{es q':List Ev}{ss:List aQ}{Qs vs cs:List Value}{nd:aD}{s:aQ}{p q pp:OA}{x g e t:Int}{o:Oper}{ops:Array Oper}{rest:List Oper}{a:Act}{D:SD}{ps:String}{fn:Func}{md:Region.Mode}{S:World->Prop}{listed:Array Bool}{A5 A6:Array Edge}{ls L:List LI}
def iW{o:Obj}(h:w.heap[b]?=some o):b<w.heap.size:=(Jg.1 h).1
def Fr(T:List TypeId)(w w':World):Prop:=w.heap.size<=w'.heap.size/\∀(b:Nat)(cur:Array Value)(ty:TypeId)(m:Nat×Nat),ty∉T->w.heap[b]?=some (.cells cur ty m)->w'.heap[b]?=some (.cells cur ty m)
def Fr.below{T:List TypeId}(h:Bw w w'):Fr T w w':=⟨h.size,λb cur ty m _ hb=>(h.block b (iW hb)).trans hb⟩
def aO(h:Bw w w'):Fr [] w w':=Fr.below h
def Fr.refl(T:List TypeId)(w:World):Fr T w w:=⟨iD _,λ_ _ _ _ _ h=>h⟩
def Fr.trans{T:List TypeId}{w2:World}(h:Fr T w w1)(h2:Fr T w1 w2):Fr T w w2:=⟨fu h.1 h2.1,λb cur ty m ht hb=>h2.2 b cur ty m ht (h.2 b cur ty m ht hb)⟩
def Fr.sub{T T':List TypeId}(h:Fr T w w')(hs:∀t∈T,t∈T'):Fr T' w w':=⟨h.1,λb cur ty m ht hb=>h.2 b cur ty m (λe=>ht (hs _ e)) hb⟩
def Fr.set{T:List TypeId}{g:Nat}(hg:w.heap[g]?=some (.cells cur ty))(ht:ty∈T):Fr T w (w.setCell (Ad g j) u):=by
 refine⟨al,λb aQ0 ty' m hn hb=>?_⟩;have bS:b≠g:=λe=>by subst e;rw[hg]at hb;simp at hb;exact hn (hb.2.1▸ht)
 exact(ga _ _ _ _ bS).trans hb
def Fr.grown{T:List TypeId}(hg:w.grownBy w' r)(ht:∀b,r=some b->∃cur ty,w.heap[b]?=some (.cells cur ty)/\ty∈T):Fr T w w':=by
 refine⟨hg.size,λb cur ty m hn hb=>?_⟩;refine(hg.block b (iW hb) (λe=>?_)).trans hb
 let⟨aQ0,ty',h1,h2⟩:=ht b e.symm
 rw[h1]at hb;simp at hb;exact hn (hb.2.1▸h2)
def TB(w:World)(v:Value)(l:LI):Prop:=Rd w v l/\(∀b,v.ownBlock=some b->l=[]\/∃cur m,w.heap[b]?=some (.cells cur 5 m))/\nR v
def TU(B:Nat)(w:World)(v:Value)(l:LI):Prop:=oK w v l/\(∀b,v.ownBlock=some b->∃cur,w.heap[b]?=some (.cells cur 27))/\ZT w v/\∀b,v.ownBlock=some b->B<=b
def TB.fr{T:List TypeId}(h:TB w v l)(hf:Fr T w w')(ht:5∉T:=by decide):TB w' v l:=by
 obtain⟨⟨p,c,rfl,hd⟩,h2,hc⟩:=h;by_cases hl:l=[];{exact⟨⟨p,c,rfl,.inl hl⟩,λb _=>.inl hl,hc⟩};rcases hd with hd|⟨b,o,rfl,hd⟩;{exact absurd hd hl};rcases h2 b rfl with e|⟨cur,m,hb⟩;{exact absurd e hl};have bN:=hf.2 b cur _ m ht hb;refine⟨⟨_,c,rfl,.inr ⟨b,o,rfl,λi hi=>(aF (bN.trans hb.symm) _).trans (hd i hi)⟩⟩,λb' e=>.inr ?_,hc⟩;simp only[Value.ownBlock,kV]at e;subst e;exact⟨cur,m,bN⟩
def TU.fr{T:List TypeId}(h:TU B w v l)(hf:Fr T w w')(ht:27∉T:=by decide):TU B w' v l:=by
 obtain⟨⟨p,c,rfl,hd⟩,h2,hz,h3⟩:=h;have hk:∀b,(Value.slice p l.length c).ownBlock=some b->w'.heap[b]?=w.heap[b]?:=λb e=>by
  let⟨cur,hb⟩:=h2 b e
  exact(hf.2 b cur _ _ ht hb).trans hb.symm
 refine⟨⟨p,c,rfl,?_⟩,λb e=>?_,hz.keep hk,h3⟩;{rcases hd with hd|⟨b,o,rfl,hd⟩;{exact .inl hd};{exact .inr ⟨b,o,rfl,λi hi=>(aF (hk b rfl) _).trans (hd i hi)⟩}};{
 let⟨cur,hb⟩:=h2 b e
 exact⟨cur,(hk b e).trans hb⟩}
def Own.bV1(h:Own B w v l):nR v:=by
 rcases h.2 with⟨rfl,-⟩|⟨g,cap,cur,rfl,-,hg,hc,hm,-⟩;{exact⟨_,_,_,rfl,iD _,gr _⟩};{exact⟨_,_,_,rfl,hc,hm⟩}
def Own.tb(h:Own B w v l):TB w v l:=⟨h.rd,λb e=>.inr (by
 rcases h.2 with⟨rfl,-⟩|⟨g,cap,cur,rfl,-,hg,-⟩;{simp[Value.ownBlock]at e};{simp only[Value.ownBlock,kV]at e;subst e;exact⟨cur,_,hg⟩}),h.bV1⟩
def TB.nil(w:World):TB w aq []:=⟨Rd.nil _,λb e=>.inl rfl,_,_,_,rfl,iD _,gr _⟩
def TU.nil(w:World):TU B w aq []:=⟨⟨none,0,rfl,.inl rfl⟩,λb e=>by simp[Value.ownBlock]at e,ZT.nil w,λb e=>by simp[Value.ownBlock]at e⟩
def TU.mono(h:TU B w v l)(hB:B'<=B):TU B' w v l:=⟨h.1,h.2.1,h.2.2.1,λb e=>fu hB (h.2.2.2 b e)⟩
def Ij(w:World)(e:Ev)(c:List Value):Prop:=∃P,c=[.I e.1,P]/\TB w P e.2
def tO(_:World)(x:aQ×Value)(c:List Value):Prop:=c=[.U x.1.1,.I x.1.2.1,x.2]
def nQ(B:Nat)(w:World)(nd:aD)(c:List Value):Prop:=∃P V H U,c=[P,V,.U nd.owner,.I nd.mode,H,.U nd.aE,.U nd.gen,U]/\TB w P nd.path/\TB w V nd.value/\TU B w H nd.holders/\TU B w U nd.watchers
abbrev Ll(B:Nat)(w:World)(v:Value)(es:List Ev):Prop:=RT Ij 189 2 B w v es
structure kq(B:Nat)(w:World)(v:Value)(ss:List aQ)(Qs:List Value):Prop where
 len:Qs.length=ss.length
 row:RT tO 132 3 B w v (ss.zip Qs)
 Yk:∀(i:Nat)(s:aQ)(Q:Value),ss[i]?=some s->Qs[i]?=some Q->Ll B w Q s.2.2
 yv:∀(i j:Nat)(Q Q':Value)(b:Nat),i≠j->Qs[i]?=some Q->Qs[j]?=some Q'->Q.ownBlock=some b->Q'.ownBlock≠some b
abbrev gq(B0 B:Nat)(w:World)(v:Value)(ns:List aD):Prop:=RT (nQ B0) 133 8 B w v ns
abbrev AI(B:Nat)(w:World)(v:Value)(ns:List aD):Prop:=gq B B w v ns
def RT.fr{α:Type}{el:World->α->List Value->Prop}{sz:Nat}{xs:List α}{T:List TypeId}(h:RT el ty sz B w v xs)(hf:Fr T w w')(ht:ty∉T)(oz:∀x c,el w x c->el w' x c):RT el ty sz B w' v xs:=
 h.keep oz λb hb=>by
  let⟨cur,hc⟩:=h.typ b hb
  exact(hf.2 b cur ty _ ht hc).trans hc.symm
def Ij.fr{T:List TypeId}(hf:Fr T w w')(ht:5∉T)(x:Ev)(c:List Value)(h:Ij w x c):Ij w' x c:=by
 obtain⟨P,e,h1⟩:=h;exact⟨P,e,h1.fr hf ht⟩
def nQ.fr{T:List TypeId}(hf:Fr T w w')(ht:5∉T)(hu:27∉T)(x:aD)(c:List Value)(h:nQ B w x c):nQ B w' x c:=by
 obtain⟨P,V,H,U,e,h1,h2,h3,h4⟩:=h;exact⟨P,V,H,U,e,h1.fr hf ht,h2.fr hf ht,h3.fr hf hu,h4.fr hf hu⟩
def gq.fr{T:List TypeId}(h:gq B0 B w v ns)(hf:Fr T w w')(ht:5∉T/\27∉T/\133∉T:=by decide):gq B0 B w' v ns:=
 RT.fr h hf ht.2.2 (nQ.fr hf ht.1 ht.2.1)
def Ll.fr{T:List TypeId}(h:Ll B w v es)(hf:Fr T w w')(ht:5∉T/\189∉T:=by decide):Ll B w' v es:=RT.fr h hf ht.2 (Ij.fr hf ht.1)
def kq.fr{T:List TypeId}(h:kq B w v ss Qs)(hf:Fr T w w')(ht:5∉T/\189∉T/\132∉T:=by decide):kq B w' v ss Qs:=
 ⟨h.len,RT.fr h.row hf ht.2.2 (λ_ _ h=>h),λi s Q hs hq=>(h.Yk i s Q hs hq).fr hf ⟨ht.1,ht.2.1⟩,h.yv⟩
def kq.nil(B:Nat)(w:World):kq B w aq [] []:=⟨rfl,RT.nil _ _ _ _ _,λi s Q h=>by simp at h,λi j Q Q' b _ h=>by simp at h⟩
def gq.put{g n cap:Nat}(h:gq B0 B w (.T g n cap) ns)(hx:ns[i]?=some nd)(hj:j<8)(u:Value)(nd':aD)(hn:∀w' P V H U,TB w' P nd.path->TB w' V nd.value->TU B0 w' H nd.holders->TU B0 w' U nd.watchers->Fr [133] w w'->nQ B0 w' nd' ([P,V,.U nd.owner,.I nd.mode,H,.U nd.aE,.U nd.gen,U].set j u)):gq B0 B (w.setCell (Ad g (i*8+j)) u) (.T g n cap) (ns.set i nd')/\Fr [133] w (w.setCell (Ad g (i*8+j)) u):=by
 let⟨cur,hc⟩:=h.typ g rfl
 have hf:Fr [133] w (w.setCell (Ad g (i*8+j)) u):=Fr.set hc al;have t1:5∉[133]:=bj;have t2:27∉[133]:=bj;refine⟨RT.put h hx hj u nd' (nQ.fr hf t1 t2) (λc _ he=>?_),hf⟩;obtain⟨P,V,H,U,rfl,h1,h2,h3,h4⟩:=he;exact hn _ P V H U (h1.fr hf t1) (h2.fr hf t1) (h3.fr hf t2) (h4.fr hf t2) hf
theorem Lm{α β:Type}:∀(l:List α)(m:List β)(i:Nat)(a:α)(b:β),(l.zip m).set i (a,b)=(l.set i a).zip (m.set i b)
 |[],m,i,a,b=>al
 |x::l,[],i,a,b=>by cases i<;>simp
 |x::l,y::m,0,a,b=>al
 |x::l,y::m,i+1,a,b=>by simp[Lm l m i a b]
def yR{α:Type}{l:List α}{a:α}(h:l[i]?=some a):l.set i a=l:=by
 let⟨h1,h2⟩:=aV.1 h
 rw[<-h2,List.set_getElem_self]
def kq.cp4{g n cap:Nat}(h:kq B w (.T g n cap) ss Qs)(hx:ss[i]?=some s){Q v':Value}(hQ:Qs[i]?=some Q) (um:Ll B w1 v' q')(hg:w.grownBy w1 Q.ownBlock)(qz:∀b,v'.ownBlock=some b->Q.ownBlock=some b\/w.heap.size<=b):kq B (w1.setCell (Ad g (i*3+2)) v') (.T g n cap) (ss.set i (s.1,s.2.1,q')) (Qs.set i v')/\Fr [189,132] w (w1.setCell (Ad g (i*3+2)) v'):=by
 have hi:=(aV.1 hx).1;have f1:Fr [189] w w1:=Fr.grown hg λb hb=>by
  let⟨cur,hc⟩:=(h.Yk i s Q hx hQ).typ b hb
  exact⟨cur,_,hc,al⟩
 have r1:RT tO 132 3 B w1 (.T g n cap) (ss.zip Qs):=RT.fr h.row f1 bj (λ_ _ h=>h)
 let⟨cur,hc⟩:=r1.typ g rfl
 have f2:Fr [132] w1 (w1.setCell (Ad g (i*3+2)) v'):=Fr.set hc al;have hz:(ss.zip Qs)[i]?=some (s,Q):=by rw[Kn];exact⟨hx,hQ⟩
 have hold:∀(k:Nat)(Q':Value)(b:Nat),i≠k->Qs[k]?=some Q'->Q'.ownBlock=some b->v'.ownBlock≠some b:=λk Q' b hk hq hb e=>by rcases qz b e with e|e;{exact h.yv i k Q Q' b hk hQ hq e hb};{obtain⟨s',Ho⟩:∃s',ss[k]?=some s':=⟨_,aY (h.len▸(aV.1 hq).1)⟩;have:=((h.Yk k s' Q' Ho hq).lt b hb).2;omega}
 refine⟨⟨by rw[pR,pR];exact h.len,?_,λk s' Q' hs hq=>?_,λk j Q1 Q2 b hkj h1 h2 hb=>?_⟩,(f1.sub al).trans (f2.sub al)⟩;{
 have:=RT.put r1 hz (j:=2) af v' ((s.1,s.2.1,q'),v') (λ_ _ h=>h) (λc _ he=>by
  unfold tO at he⊢;subst he
  rfl)
 rwa [Lm]at this};{rw[vX]at hs hq;by_cases e:i=k;{subst e;rw[bO rfl,bO hi]at hs;rw[bO rfl,bO (h.len▸hi)]at hq;cases hs;cases hq;exact Ll.fr um f2};{rw[bH e]at hs hq;have hk:=h.Yk k s' Q' hs hq;refine Ll.fr (RT.keep hk (Ij.fr f1 bj) λb hb=>hg.block b (hk.lt b hb).2 (λe2=>h.yv i k Q Q' b e hQ hq e2.symm hb)) f2}};{rw[vX]at h1 h2;by_cases e:i=k;{subst e;rw[bO rfl,bO (h.len▸hi)]at h1;rw[bH hkj]at h2;cases h1;exactλe2=>hold j Q2 b hkj h2 e2 hb};{rw[bH e]at h1;by_cases e':i=j;{subst e';rw[bO rfl,bO (h.len▸hi)]at h2;cases h2;exact hold k Q1 b e h1 hb};{rw[bH e']at h2;exact h.yv k j Q1 Q2 b hkj h1 h2 hb}}}
def kq.dl{g n cap:Nat}(h:kq B w (.T g n cap) ss Qs)(hx:ss[i]?=some s)(d:Int):kq B (w.setCell (Ad g (i*3+1)) (.I d)) (.T g n cap) (ss.set i (s.1,d,s.2.2)) Qs/\Fr [132] w (w.setCell (Ad g (i*3+1)) (.I d)):=by
 let⟨cur,hc⟩:=h.row.typ g rfl
 have hf:Fr [132] w (w.setCell (Ad g (i*3+1)) (.I d)):=Fr.set hc al;have hi:=(aV.1 hx).1;obtain⟨Q,hQ⟩:∃Q,Qs[i]?=some Q:=⟨_,aY (h.len▸hi)⟩;have hz:(ss.zip Qs)[i]?=some (s,Q):=by rw[Kn];exact⟨hx,hQ⟩
 refine⟨⟨by rw[pR];exact h.len,?_,λk s' Q' hs hq=>?_,h.yv⟩,hf⟩;{
 have:=RT.put h.row hz (j:=1) af (.I d) ((s.1,d,s.2.2),Q) (λ_ _ h=>h) (λc _ he=>by
  unfold tO at he⊢;subst he
  rfl)
 rwa [Lm,yR hQ]at this};{rw[vX]at hs;by_cases e:i=k;{subst e;rw[bO rfl,bO hi]at hs;cases hs;exact Ll.fr (h.Yk i s Q' hx hq) hf};{rw[bH e]at hs;exact Ll.fr (h.Yk k s' Q' hs hq) hf}}
open Go.Proofs.Tryz
def js.rdu(h:js B w v l):oK w v l:=by
 rcases h.2 with⟨rfl,h0⟩|⟨g,cap,cur,rfl,hb,hg,hr⟩;{exact⟨none,0,by rw[h0],.inl (r8.1 h0)⟩};{refine⟨_,cap,rfl,.inr ⟨g,0,rfl,λi hi=>?_⟩⟩;have:=Gz h i af;rw[ly,this];simp[gj,hi]}
def oK.at{n c:Nat}(h:oK w (.S p n c) l)(hx:l[k]?=some x):∃b o,p=some (Ad b o)/\w.cell? (Ad b (o+k))=some (.U x):=by
 obtain⟨p',c',e,hd⟩:=h;have hk:=(aV.1 hx).1;rcases hd with h0|⟨b,o,h1,h2⟩;{rw[h0]at hk;simp at hk};{simp only[pW]at e;have:=h2 k hk;rw[gj,hx,sa]at this;exact⟨b,o,e.1.trans h1,this⟩}
def JF{x id:Int}(hx:l[k]?=some x)(h:(l.take k).contains id=false)(bS:¬x=id):(l.take (k+1)).contains id=false:=by
 rw[od,hx,List.contains_append,h];simpa using λe:id=x=>bS e.symm
def Cg{c n:Nat}(en:Le l n){id:Int}(h:oK w (.S p n c) l)(hl:Mg n){B:Bool}(eB:Hid (l.contains id=B)):Calls prog 230 #[.S p n c,.U id] w (Rb (.bool B) w):=by
 have HR:=ag λ(w':World)(hb:Bw w w')=>h.below hb
 go_in
 go_wp2
 go_loopw[5](λiv wr=>∃k:Nat,k<=n/\iv=.I k/\Hid ((l.take k).contains id=false)/\Hid (Bw w wr)) (λiv _=>n-(intOf iv).toNat)
 exact⟨0,gr _,rfl,(by show _=_;simp),cQ _ _⟩;{
 obtain⟨k,hk,rfl,hc,aM⟩:=hrel;by_cases bf:k<n;{
 have bL:=aU k n;obtain⟨x,hx⟩:∃x,l[k]?=some x:=⟨_,aY (ae en▸bf)⟩;obtain⟨b,o,rfl,Dz⟩:=(ae HR _ aM).at hx;have HX:=ag hx;by_cases he:x=id;{
 subst he;have hee:(x==x)=true:=al;go_wp2;go_ret;refine⟨?_,aM⟩;rw[<-ae eB,List.contains_iff_mem.2 (aT (ae HX))]
 rfl}
 {have db:=ag (JF HX hc he);go_wp2;go_roundw;exact⟨k+1,af,by go_num,db,aM⟩;exact cg}};{have bL:=dB k n;have rA:=ae hc;rw[lD (by rw[ae en];omega),ae eB]at rA;subst rA;go_wp2;go_ret;exact⟨rfl,aM⟩}}
def aF0{x id:Int}(hx:l[k]?=some x):qZ (l.take (k+1)) id=if x=id then qZ (l.take k) id else qZ (l.take k) id++[x]:=by
 rw[od,hx,qZ,WQ];by_cases h:x=id<;>simp[qZ,h]
def Fp{id:Int}:(qZ l id).length<=l.length:=QD _ _
def xm{c n:Nat}(en:Le l n){id:Int}(h:oK w (.S p n c) l)(hl:Mg n):Calls prog 223 #[.S p n c,.U id] w λr w'=>∃p' c',r=.returned (.S p' (qZ l id).length c')/\lp w.heap.size w' (.S p' (qZ l id).length c') (qZ l id)/\Bw w w':=by
 have HR:=ag λ(w':World)(hb:Bw w w')=>h.below hb
 go_in
 go_wp2
 go_loopw[5,6](λov iv wr=>∃(k:Nat)(L:LI),k<=n/\iv=.I k/\Hid (qZ (l.take k) id=L)/\Hid (lp w.heap.size wr ov L)/\Hid (Bw w wr)) (λ_ iv _=>n-(intOf iv).toNat)
 exact⟨0,[],gr _,rfl,(by show _=_;simp[qZ]),(lp.nil _ _),cQ _ _⟩;{
 obtain⟨k,L,hk,rfl,hL,ho,aM⟩:=hrel;obtain⟨pv,cv,rfl⟩:=ho.form;have zr:=aM.size;have Rp:L.length<4194304:=by have h1:=Fp (l:=l.take k) (id:=id);have h2:=GM k l;rw[ae hL]at h1;have:=ae en;omega
 by_cases bf:k<n;{
 have bL:=aU k n;obtain⟨x,hx⟩:∃x,l[k]?=some x:=⟨_,aY (ae en▸bf)⟩;obtain⟨b,o,rfl,Dz⟩:=(ae HR _ aM).at hx;have db:=aF0 (id:=id) hx;rw[ae hL]at db;have qV:=ag db;by_cases he:x=id;{
 subst he;have E1:Hid (qZ (l.take (k+1)) x=L):=by have:=ae qV;rwa [bO rfl]at this
 go_wp2;go_roundw;exact⟨k+1,L,af,by go_num,E1,ho,aM⟩;exact cg};{
 have E1:Hid (qZ (l.take (k+1)) id=L++[x]):=by have:=ae qV;rwa [bH he]at this
 go_wp2_with(at_builtin;refine gx rfl rfl (B:=w.heap.size) (.S pv L.length cv) (l:=L) (lm:=L++[x]) (y:=x) (ag rfl) wr.heap.size rfl rfl (lp.below (ae ho) (aA.alloc ay _)) al Rp bq ?_);intro p' c' w' o2 gI;have bA:Bw wr (wr.alloc (.cells #[.U x] 27)):=aA.alloc ay _;have b4:=ag ((aj (ae aM) bA).grown gI bq (λb' e=>(ho.lt b' e).1));have O2:=ag o2;go_wp2;go_roundw;exact⟨k+1,L++[x],af,by go_num,E1,O2,b4⟩;exact cg}};{have bL:=dB k n;have rA:=ae hL;rw[lD (by rw[ae en];omega)]at rA;subst rA;go_wp2;go_ret;exact⟨_,_,rfl,ho,aM⟩}}
def Ex(id:Int)(s:LI×Bool)(x:Int):LI×Bool:=if s.2=false/\id<=x then(if x=id then(s.1++[id],true)else(s.1++[id]++[x],true))else(if x=id then s else(s.1++[x],s.2))
def ZH(l:LI)(id:Int):LI×Bool:=l.foldl (Ex id) ([],false)
theorem yK(id:Int):∀(l acc:LI),l.foldl (Ex id) (acc,true)=(acc++qZ l id,true)
 |[],acc=>by simp[qZ]
 |x::r,acc=>by rw[ME];by_cases h:x=id;{rw[show Ex id (acc,true) x=(acc,true) by simp[Ex,h],yK id r acc];simp[qZ,h]};{rw[show Ex id (acc,true) x=(acc++[x],true) by simp[Ex,h],yK id r (acc++[x])];simp[qZ,h]}
theorem bc4(l:LI)(id:Int):(if(ZH l id).2 then(ZH l id).1 else(ZH l id).1++[id])=wG l id:=by
 have key:∀(l acc:LI),(if(l.foldl (Ex id) (acc,false)).2 then(l.foldl (Ex id) (acc,false)).1 else(l.foldl (Ex id) (acc,false)).1++[id])=acc++wG l id:=by
  intro l
  induction l with
  |nil=>intro acc;simp[wG]
  |cons x r ih=>
   intro acc;rw[ME,wG];by_cases h:id<=x;{by_cases e:x=id;{rw[show Ex id (acc,false) x=(acc++[id],true) by simp[Ex,e],yK,bO h];simp[qZ,e]};{rw[show Ex id (acc,false) x=(acc++[id]++[x],true) by simp[Ex,e,h],yK,bO h];simp[qZ,e]}};{have e:¬x=id:=af;rw[show Ex id (acc,false) x=(acc++[x],false) by simp[Ex,e,h],ih (acc++[x]),bH h];simp}
 have:=key l [];rw[D9]at this;exact this
def aF1{x id:Int}(hx:l[k]?=some x):ZH (l.take (k+1)) id=Ex id (ZH (l.take k) id) x:=by
 rw[od,hx,ZH,QK]
 rfl
def aF2{id:Int}{s:LI×Bool}:(Ex id s x).1.length<=s.1.length+2:=by
 unfold Ex;split<;>split<;>simp
theorem Wk(id:Int):∀(l:LI)(s:LI×Bool),(l.foldl (Ex id) s).1.length<=s.1.length+2*l.length
 |[],s=>al
 |x::r,s=>by have:=Wk id r (Ex id s x);have:=aF2 (id:=id) (s:=s) (x:=x);rw[ME,iS];omega
def UO{c n:Nat}(en:Le l n){id:Int}(h:oK w (.S p n c) l)(hl:Mg n):Calls prog 231 #[.S p n c,.U id] w λr w'=>∃p' c',r=.returned (.S p' (wG l id).length c')/\lp w.heap.size w' (.S p' (wG l id).length c') (wG l id)/\Bw w w':=by
 have HR:=ag λ(w':World)(hb:Bw w w')=>h.below hb
 go_in
 go_wp2
 go_loopw[5,6,7](λov dv iv wr=>∃(k:Nat)(L:LI)(d:Bool),k<=n/\iv=.I k/\dv=.bool d/\Hid (ZH (l.take k) id=(L,d))/\Hid (lp w.heap.size wr ov L)/\Hid (Bw w wr)) (λ_ _ iv _=>n-(intOf iv).toNat)
 exact⟨0,[],false,gr _,rfl,rfl,bD,(lp.nil _ _),cQ _ _⟩;{
 obtain⟨k,L,d,hk,rfl,rfl,hL,ho,aM⟩:=hrel;obtain⟨pv,cv,rfl⟩:=ho.form;have zr:=aM.size;have Rp:L.length+1<4194304:=by have h1:=Wk id (l.take k) ([],false);have h2:=GM k l;have h3:=ae hL;unfold ZH at h3;rw[h3]at h1;have:=ae en;simp only[BO]at h1;omega
 by_cases bf:k<n;{
 have bL:=aU k n;obtain⟨x,hx⟩:∃x,l[k]?=some x:=⟨_,aY (ae en▸bf)⟩;obtain⟨b,o,rfl,Dz⟩:=(ae HR _ aM).at hx;have db:=aF1 (id:=id) hx;rw[ae hL]at db;have qV:=ag db;have HX:=ag hx;have AP:∀(y:Int)(wz:World)(Lz:LI)(pz:OA)(cz:Nat),Hid (lp w.heap.size wz (.S pz Lz.length cz) Lz)->Bw w wz->Bw wz (wz.alloc (.cells #[.U y] 27)):=λy wz Lz pz cz _ _=>aA.alloc ay _;by_cases hd:d=false/\id<=x;{
 obtain⟨rfl,hix⟩:=hd;have dS2:decide (id<=x)=true:=by simpa using hix
 obtain⟨L1,eL1⟩:∃L1,Hid (L1=L++[id]):=⟨_,ag rfl⟩;have lL1:=ag (by rw[ae eL1];simp:L1.length=L.length+1);go_wp2_with(at_builtin;refine gx rfl rfl (.S pv L.length cv) eL1 wr.heap.size rfl rfl (lp.below (ae ho) (aA.alloc ay _)) al af bq ?_);intro p' c' w' o2 gI;have b4:=ag ((aj (ae aM) (AP id wr L pv cv ho (ae aM))).grown gI bq (λb' e=>(ho.lt b' e).1));have O2:=ag o2;have z4:=b4.size;have dU1:w'.cell? (Ad b (o+k))=some (.U x):=by
  let⟨b',o',e',rA⟩:=(ae HR _ b4).at HX
  obtain⟨rfl,rfl⟩:=yz e';exact rA
 by_cases he:x=id;{subst he;have E1:=ag (by have:=ae qV;rw[ae eL1];simpa[Ex]using this:ZH (l.take (k+1)) x=(L1,true));have hee:(x != x)=false:=al;go_wp2;go_roundw;exact⟨k+1,L1,true,af,by go_num,rfl,E1,O2,b4⟩;exact cg};{have E1:=ag (by have:=ae qV;rw[ae eL1];simpa[Ex,he,hix]using this:ZH (l.take (k+1)) id=(L1++[x],true));obtain⟨L2,eL2⟩:∃L2,Hid (L2=L1++[x]):=⟨_,ag rfl⟩;rw[<-ae eL2]at E1;go_wp2_with(at_builtin;refine gx rfl rfl (.S p' L1.length c') eL2 w'.heap.size rfl rfl (lp.below (ae O2) (aA.alloc ay _)) al (aI (ae lL1)) bq ?_);intro p'' c'' w'' o3 An;have b5:=ag ((aj (ae b4) (AP x w' _ p' c' O2 (ae b4))).grown An bq (λb' e=>(O2.lt b' e).1));have O3:=ag o3;go_wp2;go_roundw;exact⟨k+1,_,true,af,by go_num,rfl,E1,O3,b5⟩;exact cg}};{
 have hdd:(!d&&decide (id<=x))=false:=by cases d<;>simp_all
 have hd2:d=true\/¬id<=x:=by cases d<;>simp_all
 by_cases he:x=id;{subst he;have hdt:d=true:=hd2.resolve_right af;subst hdt;have E1:=ag (by have:=ae qV;simpa[Ex]using this:ZH (l.take (k+1)) x=(L,true));have hee:(x != x)=false:=al;go_wp2;go_roundw;exact⟨k+1,L,true,af,by go_num,rfl,E1,ho,aM⟩;exact cg};{
 have E1:=ag (by have:=ae qV;simpa[Ex,he,hd]using this:ZH (l.take (k+1)) id=(L++[x],d));obtain⟨L1,eL1⟩:∃L1,Hid (L1=L++[x]):=⟨_,ag rfl⟩;rw[<-ae eL1]at E1;have hdq:d=false->decide (id<=x)=false:=λe=>by subst e;simpa using hd
 cases d;{have hix:=hdq rfl;go_wp2_with(at_builtin;refine gx rfl rfl (.S pv L.length cv) eL1 wr.heap.size rfl rfl (lp.below (ae ho) (aA.alloc ay _)) al af bq ?_);intro p' c' w' o2 gI;have b4:=ag ((aj (ae aM) (AP x wr L pv cv ho (ae aM))).grown gI bq (λb' e=>(ho.lt b' e).1));have O2:=ag o2;go_wp2;go_roundw;exact⟨k+1,_,false,af,by go_num,rfl,E1,O2,b4⟩;exact cg};{go_wp2_with(at_builtin;refine gx rfl rfl (.S pv L.length cv) eL1 wr.heap.size rfl rfl (lp.below (ae ho) (aA.alloc ay _)) al af bq ?_);intro p' c' w' o2 gI;have b4:=ag ((aj (ae aM) (AP x wr L pv cv ho (ae aM))).grown gI bq (λb' e=>(ho.lt b' e).1));have O2:=ag o2;go_wp2;go_roundw;exact⟨k+1,_,true,af,by go_num,rfl,E1,O2,b4⟩;exact cg}}}};{have bL:=dB k n;have rA:=ae hL;rw[lD (by rw[ae en];omega)]at rA;have hwi:=bc4 l id;rw[rA]at hwi;cases d;{obtain⟨L1,eL1⟩:∃L1,Hid (L1=L++[id]):=⟨_,ag rfl⟩;have E1:=ag (by rw[ae eL1];simpa using hwi.symm:wG l id=L1);go_wp2_with(at_builtin;refine gx rfl rfl (.S pv L.length cv) eL1 wr.heap.size rfl rfl (lp.below (ae ho) (aA.alloc ay _)) al af bq ?_);intro p' c' w' o2 gI;have b4:=ag ((aj (ae aM) ((cQ wr.heap.size wr).alloc ay _)).grown gI bq (λb' e=>(ho.lt b' e).1));have O2:=ag o2;go_wp2;go_ret;rw[ae E1];exact⟨_,_,rfl,O2,b4⟩};{have E1:=ag (by simpa using hwi.symm:wG l id=L);go_wp2;go_ret;rw[ae E1];exact⟨_,_,rfl,ho,aM⟩}}}
def JC{α:Type}(f:α->α)(k:Nat)(xs:List α):List α:=(xs.take k).map f++xs.drop k
def aO3{α:Type}(f:α->α){xs:List α}{x:α}(h:xs[k]?=some x):(JC f k xs)[k]?=some x:=by
 have hk:=(aV.1 h).1;rw[JC,nF bq,fN,pT,aj9 af,MG];simpa using h
def YV{α:Type}(f:α->α){xs:List α}{x:α}(h:xs[k]?=some x):JC f (k+1) xs=(JC f k xs).set k (f x):=by
 let⟨hk,e⟩:=aV.1 h
 rw[JC,JC,od,h,QO _ _ bq,fN,pT,aj9 af,BQ,MH hk,GW,l8];simp
def au8{α:Type}(f:α->α){xs:List α}(h:xs.length<=k):JC f k xs=xs.map f:=by
 rw[JC,lD h,aj8 h,BI]
def au(w:World)(cs:Array Value)(ty:TypeId):∃W,W=w.alloc (.cells cs ty)/\Bw w W/\W.heap.size=w.heap.size+1/\ar W w.heap.size cs.toList/\W.heap[w.heap.size]?=some (.cells cs ty):=
 ⟨_,rfl,aA.alloc ay _,al,ar.alloc w cs ty,by show(w.heap.push _)[w.heap.size]?=_;simp⟩
def ar.de(h:ar w b vs)(hk:w'.heap[b]?=w.heap[b]?):ar w' b vs:=
 ⟨λi v hi=>(aF hk _).trans (h.1 i v hi),λo=>(tM hk).trans (h.2 o)⟩
def dG(w:World)(b:Nat)(v0 v1 v2 v3 v4 v5:Value):World:=(((((w.setCell (Ad b 0) v0).setCell (Ad b 1) v1).setCell (Ad b 2) v2).setCell (Ad b 3) v3).setCell (Ad b 4) v4).setCell (Ad b 5) v5
def dr(b:Nat)(v0 v1 v2 v3 v4 v5:Value):Below b w (dG w b v0 v1 v2 v3 v4 v5):=
 ((((((cQ b w).setCell (p:=(Ad b 0)) ay _).setCell (p:=(Ad b 1)) ay _).setCell (p:=(Ad b 2)) ay _).setCell (p:=(Ad b 3)) ay _).setCell (p:=(Ad b 4)) ay _).setCell (p:=(Ad b 5)) ay _
def dy(h:∃cur,w.heap[b]?=some (.cells cur ty)):(∃cur,(w.setCell (Ad b j) u).heap[b]?=some (.cells cur ty))/\Fr [ty] w (w.setCell (Ad b j) u):=by
 obtain⟨cur,hc⟩:=h;refine⟨?_,Fr.set hc al⟩;simp only[World.setCell,BS,pM,hc,Jh];exact⟨_,rfl⟩
def ju(h:w.heap[b]?=some (.cells cur ty)):Fr [ty] w (dG w b v0 v1 v2 v3 v4 v5):=by
 have a0:=dy (j:=0) (u:=v0) ⟨cur,h⟩;have a1:=dy (j:=1) (u:=v1) a0.1;have a2:=dy (j:=2) (u:=v2) a1.1;have a3:=dy (j:=3) (u:=v3) a2.1;have a4:=dy (j:=4) (u:=v4) a3.1;have a5:=dy (j:=5) (u:=v5) a4.1;exact((((a0.2.trans a1.2).trans a2.2).trans a3.2).trans a4.2).trans a5.2
def ar.d6(h:ar w b (v0::v1::v2::v3::v4::v5::vs)):w.cell? (Ad b 0)=some v0/\w.cell? (Ad b 1)=some v1/\w.cell? (Ad b 2)=some v2/\w.cell? (Ad b 3)=some v3/\w.cell? (Ad b 4)=some v4/\w.cell? (Ad b 5)=some v5/\∀o,w.frozen? (Ad b o)=false:=
 ⟨h.1 0 _ rfl,h.1 1 _ rfl,h.1 2 _ rfl,h.1 3 _ rfl,h.1 4 _ rfl,h.1 5 _ rfl,h.2⟩
def WC(h:ar w b [o0,o1,o2,o3,o4,o5]):ar (dG w b v0 v1 v2 v3 v4 v5) b [v0,v1,v2,v3,v4,v5]:=
 (((((h.dH 0 al v0).dH 1 al v1).dH 2 al v2).dH 3 al v3).dH 4 al v4).dH 5 al v5
def P8(h:ar w b' vs)(bS:b'≠b):ar (dG w b v0 v1 v2 v3 v4 v5) b' vs:=
 (((((h.yv (a:=(Ad b 0)) bS v0).yv (a:=(Ad b 1)) bS v1).yv (a:=(Ad b 2)) bS v2).yv (a:=(Ad b 3)) bS v3).yv (a:=(Ad b 4)) bS v4).yv (a:=(Ad b 5)) bS v5
def rU:(dG w b v0 v1 v2 v3 v4 v5).heap.size=w.heap.size:=by simp[dG]
def jX(bS:b'≠b):(dG w b v0 v1 v2 v3 v4 v5).heap[b']?=w.heap[b']?:=by
 unfold dG
 iterate 6 rw[ga _ _ _ _ (show b'≠_ from bS)]
def Gi(h:∃cur,w.heap[b]?=some (.cells cur ty)):∃cur,(dG w b v0 v1 v2 v3 v4 v5).heap[b]?=some (.cells cur ty):=
 (dy (dy (dy (dy (dy (dy h).1).1).1).1).1).1
def gq.at{n c:Nat}(h:gq B0 B w (.S p n c) ns)(hx:ns[i]?=some nd):∃g P V H U,p=some (Ad g 0)/\n=ns.length/\n<=c/\w.cell? (Ad g (i*8))=some P/\w.cell? (Ad g (i*8+1))=some V/\w.cell? (Ad g (i*8+2))=some (.U nd.owner)/\w.cell? (Ad g (i*8+3))=some (.I nd.mode)/\w.cell? (Ad g (i*8+4))=some H/\w.cell? (Ad g (i*8+5))=some (.U nd.aE)/\w.cell? (Ad g (i*8+6))=some (.U nd.gen)/\w.cell? (Ad g (i*8+7))=some U/\TB w P nd.path/\TB w V nd.value/\TU B0 w H nd.holders/\TU B0 w U nd.watchers/\∀o,w.frozen? (Ad g o)=false:=by
 obtain⟨p',c',e,hc,-,hp⟩:=h.form;obtain⟨rfl,rfl,rfl⟩:=ir e;obtain⟨g,rfl⟩:=hp (aI (aV.1 hx).1);obtain⟨cs,-,⟨P,V,H,U,rfl,h1,h2,h3,h4⟩,Fc,hf⟩:=RT.at h hx;exact⟨g,P,V,H,U,rfl,rfl,hc,Fc 0 _ rfl,Fc 1 _ rfl,Fc 2 _ rfl,Fc 3 _ rfl,Fc 4 _ rfl,Fc 5 _ rfl,Fc 6 _ rfl,Fc 7 _ rfl,h1,h2,h3,h4,hf⟩
def TB.gF(h:TB w v l):∃p c,v=.S p l.length c:=by
 obtain⟨⟨p,c,e,-⟩,-⟩:=h;exact⟨p,c,e⟩
def gq.rdn(h:gq B0 B w v ns):lM w v ns:=by
 obtain⟨p,c,rfl,-,-,hp⟩:=RT.form h;refine⟨p,c,rfl,?_⟩;by_cases h0:ns=[];{exact .inl h0};{obtain⟨g,rfl⟩:=hp (WR.2 h0);refine .inr ⟨g,0,rfl,λi nd hi=>?_⟩;obtain⟨g',P,V,H,U,e,-,-,c0,c1,c2,c3,c4,c5,c6,c7,tP,tV,tH,tU,-⟩:=gq.at h hi;obtain⟨rfl,-⟩:=yz e;rw[ly];exact⟨P,V,H,U,c0,c1,c2,c3,c4,c5,c6,c7,tP.1,tV.1,tH.1,tU.1,tP.2.2⟩}
def TU.gF(h:TU B w v l):∃p c,v=.S p l.length c:=by
 obtain⟨⟨p,c,e,-⟩,-⟩:=h;exact⟨p,c,e⟩
def YS(ss:List aQ)(id:Int)(ev:Ev):(La ss id ev).length=ss.length:=by simp[La]
theorem vw(ids:LI)(ev:Ev):∀ss:List aQ,(uz ss ids ev).length=ss.length:=by
 unfold uz
 induction ids with
 |nil=>intro ss;rfl
 |cons a r ih=>intro ss;rw[ME,ih,YS]
def yO(e g x t:Int){n c:Nat}(en:Le ss n)(kd:Int)(nd:aD)(hk:Hid (ns[k]?=some nd))(B:Nat)(w:World)(hS:Hid (kq B w (.S p n c) ss Qs))(hN:Hid (AI B w (.S q m d) ns))(hB:B<=w.heap.size)(hn:Mg n)(hm:Mg m)(hp:nd.path.length<=1048576)(hw:nd.watchers.length<=0):Calls prog 225 #[dZ e g x t (.S p n c) (.S q m d),.I k,.I kd] w λr w'=>r=.returned (dZ e g x t (.S p n c) (.S q m d))/\(∃Wc,kq B w' (.S p n c) (uz ss nd.watchers (kd,nd.path)) Wc)/\AI B w' (.S q m d) (ns.set k {nd with watchers:=[]})/\Fr [189,132,133] w w'/\Below B w w':=by
 obtain⟨gn,Pv,Vv,Hv,Uv,rfl,em,hmd,c0,-,-,-,-,-,-,c7,tP,-,-,tU,cfz⟩:=gq.at hN hk;have hkm:k<m:=by rw[em];exact(aV.1 (ae hk)).1
 have bi2:=aU k m;clear em;obtain⟨pe,ce,rfl⟩:=tP.gF;obtain⟨pu,cu,rfl⟩:=tU.gF
 let⟨ne,eP⟩:=bG nd.path.length
 let⟨nu,eU⟩:=bG nd.watchers.length
 rw[ae eP]at hp tP c0;rw[ae eU]at hw tU c7;obtain rfl:nu=0:=af;have ZW:gn<w.heap.size:=(hN.lt gn rfl).2
 let⟨W0,fL,b0,z0,C0,T0⟩:=au w #[.U e,.U g,.U x,.I t,.S p n c,.T gn m d] 41
 let⟨W1,mg,b1,z1,C1,T1⟩:=au W0 #[.U 0,.U 0,.U 0,.I 0,aq,aq] 41
 let⟨W2,mu,b2,z2,C2,T2⟩:=au W1 #[.I kd,.S pe ne ce] 189
 rw[z0]at C1 T1 z1;rw[z1]at C2 T2 z2;have bW:=aj (aj b0 b1) b2;have k0:=λ(ob o2:Obj)=>ah (ah c0 ((cQ _ w).alloc ay ob)) (aA.alloc ay o2);have k7:=λ(ob o2 o3:Obj)=>ah (ah (ah c7 ((cQ _ w).alloc ay ob)) (aA.alloc ay o2)) (aA.alloc ay o3);have kz:=λ(ob o2 o3:Obj)=>((((((cQ w.heap.size w).alloc ay ob).alloc al o2).alloc bq o3)).frozen (p:=(Ad gn (k*8+7))) ZW).trans (cfz _);have NW:=hN.fr (aO bW)
 let⟨NX,FX⟩:=gq.put NW hk (j:=7) af aq {nd with watchers:=[]} (λw' P V H U h1 h2 h3 h4 _=>⟨P,V,H,aq,rfl,h1,h2,h3,TU.nil _⟩)
 let⟨X,hX⟩:=aB (W2.setCell (Ad gn (k*8+7)) aq)
 rw[<-hX]at NX FX;have SX:=(hS.fr (aO bW)).fr FX;have bS:∀b,w.heap.size<=b->X.heap[b]?=W2.heap[b]?:=λb hb=>by rw[hX];exact ga _ _ _ _ (by show b≠gn;omega)
 have HX:=ag (ai NX SX);have HC:=ag (ai (((C0.below af b1).below af b2).de (bS _ ay)) (ai ((C1.below af b2).de (bS _ af)) km));have HT:=ag (ai ((bS _ ay).trans ((b2.block _ af).trans ((b1.block _ af).trans T0))) (ai ((bS _ af).trans ((b2.block _ af).trans T1)) km));have BX:Below B w X:=hX▸(bW.mono hB).setCell (hN.lt gn rfl).1 _;have FW:Fr [189,132,133] w X:=(Fr.below bW).trans (FX.sub al);have zX:X.heap.size=w.heap.size+3:=by rw[hX];simp;omega
 clear b0 b1 b2 C0 C1 C2 T0 T1 T2 NX SX NW bS c0 c7 cfz tP tU
 go_in
 go_wp2;rw[<-fL,<-mg,<-mu,<-hX];clear fL mg mu hX k0 k7 kz
 go_loopw[9](λiv wr=>iv=.I 0/\wr=X) (λ_ _=>0)
 exact⟨rfl,rfl⟩;{
 obtain⟨rfl,rfl⟩:=hrel
 let⟨k0,k1,k2,k3,k4,k5,kf⟩:=HC.1.d6
 let⟨q0,q1,q2,q3,q4,q5,rf⟩:=HC.2.1.d6
 go_wp2;have hF:=ju (v0:=.U e) (v1:=.U g) (v2:=.U x) (v3:=.I t) (v4:=.S p n c) (v5:=.T gn m d) HT.2.1;have To:Below (w.heap.size+1) wr (dG wr (w.heap.size+1) (.U e) (.U g) (.U x) (.I t) (.S p n c) (.T gn m d)):=dr _ _ _ _ _ _ _;refine dJ (v:=dZ e g x t (.S p n c) (.T gn m d)) (by simp[results,results225,go_sem,q0,q1,q2,q3,q4,q5]) rfl ?_;refine⟨rfl,⟨Qs,?_⟩,HX.1.fr hF,⟨fu FW.1 To.size,λb cur ty mm ht hb=>(To.block b (aI (iW hb))).trans (FW.2 b cur ty mm ht hb)⟩,BX.trans (To.mono af)⟩;rw[D8 (ae eU)];exact HX.2.fr hF}
def gM{Q:Exit->Act->World->Prop}(ng:o.guard=none){s x:Operand}(ho:o.op=.call {callee:=.builtin .append,args:=#[s,x],argTypes:=#[39,39]})(v:Value)(ek:Le ns k)(hs:a.eval s=v)(bR:gq B0 B w v ns)(g:Nat)(hx:a.eval x=.T g 1 1)(oz:nQ B0 w nd cs)(iU:∀j u,cs[j]?=some u->w.cell? (Ad g j)=some u)(hk:k<4194304)(hB:B<=w.heap.size)(h:∀p' c' w',gq B0 B w' (.S p' (k+1) c') (ns++[nd])->w.grownBy w' v.ownBlock->Fr [133] w w'->wpList prog ops Q rest (a.put o.dst (.S p' (k+1) c')) w'):wpList prog ops Q (o::rest) a w:=by
 let⟨i,hi,qx,jd,jJ⟩:=fD Tryz.infoNod
 have ht:=bR.typ;obtain⟨rs,h1,h2,h3,h4⟩:=bR;have Ot:cs.length=8/\∀u∈cs,u.oneCell'=true:=by obtain⟨P,V,H,U,rfl,a1,a2,a3,a4⟩:=oz;obtain⟨_,_,rfl⟩:=a1.gF;obtain⟨_,_,rfl⟩:=a2.gF;obtain⟨_,_,rfl⟩:=a3.gF;obtain⟨_,_,rfl⟩:=a4.gF;exact⟨rfl,λu hu=>by simp at hu;rcases hu with rfl|rfl|rfl|rfl|rfl|rfl|rfl|rfl<;>rfl⟩
 rw[ae ek]at h3;refine cR ng 39 ho i 8 underlying39 hi qx jd jJ rfl bj v hs h3 g 1 1 cs hx Ot.1 iU Ot.2 iB af hB ?_;intro v' w' fo hg _;have hf:Fr [133] w w':=Fr.grown hg λb hb=>by
  let⟨cur,hc⟩:=ht b hb
  exact⟨cur,_,hc,al⟩
 have sn:gq B0 B w' v' (ns++[nd]):=RT.snoc h1 h2 h4 (nQ.fr hf bj bj) oz Ot.1 (ae ek▸fo);obtain⟨p',c',rfl,-⟩:=RT.form sn;rw[gU,ae ek]at sn⊢;exact h p' c' w' sn hg hf
def aH4(h:ns[j]?=some nd):(ns.take (j+1)).eraseIdx k=if j=k then(ns.take j).eraseIdx k else(ns.take j).eraseIdx k++[nd]:=by
 have hj:=(aV.1 h).1;have hl:(ns.take j).length=j:=by rw[pT];omega
 rw[od,h,Option.toList_some];by_cases e:j=k;{subst e;rw[bO rfl,aV2 af,hl,BQ,aj6 (l:=ns.take j) af];simp};{rw[bH e];by_cases e2:k<j;{rw[List.eraseIdx_append_of_lt_length af]};{rw[aV2 af,hl,aj6 (l:=ns.take j) af,aj6 bq]}}
def Ge{n c:Nat}(em:Le ns m)(hN:Hid (AI B w (.S q m d) ns))(hm:Mg m):Calls prog 226 #[dZ e g x t (.S p n c) (.S q m d),.I k] w λr w'=>∃p' c',r=.returned (dZ e g x t (.S p n c) (.S p' (ns.eraseIdx k).length c'))/\gq B w.heap.size w' (.S p' (ns.eraseIdx k).length c') (ns.eraseIdx k)/\Bw w w':=by
 let⟨W0,fL,b0,z0,C0,T0⟩:=au w #[.U e,.U g,.U x,.I t,.S p n c,.S q m d] 41
 let⟨W1,mg,b1,z1,C1,T1⟩:=au W0 #[.U 0,.U 0,.U 0,.I 0,aq,aq] 41
 rw[z0]at C1 T1 z1;have bW:=ag (aj b0 b1);have HC:=ag (ai (C0.below af b1) C1);have HT:=ag (ai ((b1.block _ af).trans T0) T1)
 go_in
 go_wp2;rw[<-fL,<-mg]
 go_loopw[5,6](λov iv wr=>∃(j:Nat)(L:List aD)(nl:Nat)(po:OA)(co:Nat),j<=m/\iv=.I j/\ov=.S po nl co/\Le L nl/\Hid ((ns.take j).eraseIdx k=L)/\Hid (gq B (w.heap.size+2) wr (.S po nl co) L)/\Hid (Below (w.heap.size+2) W1 wr)) (λ_ iv _=>m-(intOf iv).toNat)
 exact⟨0,[],0,none,0,gr _,rfl,rfl,ag rfl,(by show _=_;simp),RT.nil _ _ _ _ _,cQ _ _⟩;{
 obtain⟨j,L,nl,po,co,hj,rfl,rfl,lK,hL,ho,aM⟩:=hrel;have zr:=aM.size;have Rp:nl<4194304:=by have h1:=(GJ (ns.take j) k).length_le;have h2:=GM j ns;rw[ae hL,ae lK]at h1;omega
 have HCr:=ag (ai (HC.1.below af (aM.mono af:Bw W1 wr)) (HC.2.below af (aM.mono af:Bw W1 wr)));have s5:=HCr.1.1 5 _ rfl;by_cases bf:j<m;{
 have bL:=aU j m;obtain⟨nd,bu⟩:∃nd,ns[j]?=some nd:=⟨_,aY (ae em▸bf)⟩;have db:=aH4 (k:=k) bu;rw[ae hL]at db;have qV:=ag db;by_cases he:j=k;{
 have E1:Hid ((ns.take (j+1)).eraseIdx k=L):=by have:=ae qV;rwa [bO he]at this
 have hee:((j:Int) != (k:Int))=false:=by simp;omega
 go_wp2;go_roundw;exact⟨j+1,L,nl,po,co,af,by go_num,rfl,lK,E1,ho,aM⟩;exact cg};{
 have E1:Hid ((ns.take (j+1)).eraseIdx k=L++[nd]):=by have:=ae qV;rwa [bH he]at this
 have hee:((j:Int) != (k:Int))=true:=by simp;omega
 have bwr:Bw w wr:=bW.trans (aM.mono af);obtain⟨gn,P,V,H,U,rfl,-,-,c0,c1,c2,c3,c4,c5,c6,c7,tP,tV,tH,tU,-⟩:=gq.at (hN.fr (aO bwr)) bu;obtain⟨pP,cP,rfl⟩:=tP.gF;obtain⟨pV,cV,rfl⟩:=tV.gF;obtain⟨pH,cH,rfl⟩:=tH.gF;obtain⟨pU,cU,rfl⟩:=tU.gF
 let⟨v3,jO⟩:=aB (wr.alloc (.cells #[.S pP nd.path.length cP,.S pV nd.value.length cV,.U nd.owner,.I nd.mode,.S pH nd.holders.length cH,.U nd.aE,.U nd.gen,.S pU nd.watchers.length cU] 133))
 have b3:=dX jO;have HX:=ag (ai (ho.fr (aO b3)) (ai (show nQ B v3 nd [.S pP nd.path.length cP,.S pV nd.value.length cV,.U nd.owner,.I nd.mode,.S pH nd.holders.length cH,.U nd.aE,.U nd.gen,.S pU nd.watchers.length cU]from⟨_,_,_,_,rfl,tP.fr (aO b3),tV.fr (aO b3),tH.fr (aO b3),tU.fr (aO b3)⟩) (show ar v3 wr.heap.size _ by rw[jO];exact ar.alloc wr _ _)));have ZR:=ag λb e=>(ho.lt b e).1;have b3':=ag b3;have z3:=b3.size;go_wp2_with(at_builtin;rw[<-jO];refine gM rfl rfl (.S po nl co) lK rfl HX.1 wr.heap.size rfl HX.2.1 HX.2.2.1 Rp af ?_);intro p' c' w' o2 gI _;rw[<-jO]at gI;have b4:=ag ((aM.trans (b3'.mono af)).grown gI af ZR);have O2:=ag o2;go_wp2;go_roundw;exact⟨j+1,L++[nd],nl+1,p',c',af,by go_num,rfl,ag (by rw[gU,ae lK];rfl),E1,O2,b4⟩;exact cg}};{
 have bL:=dB j m;have rA:=ae hL;rw[lD (by rw[ae em];omega)]at rA
 let⟨K0,kf⟩:=HCr.1
 let⟨R0,rf⟩:=HCr.2
 have k0:=K0 0 _ rfl;have k1:=K0 1 _ rfl;have k2:=K0 2 _ rfl;have k3:=K0 3 _ rfl;have k4:=K0 4 _ rfl;have q0:=R0 0 _ rfl;have q1:=R0 1 _ rfl;have q2:=R0 2 _ rfl;have q3:=R0 3 _ rfl;have q4:=R0 4 _ rfl;have q5:=R0 5 _ rfl;have HB0:=ag (ai ((aM.block _ af).trans HT.1) ((aM.block _ af).trans HT.2));go_wp2;subst rA;have en:=ae lK;subst en;have f1:=dy (j:=5) (u:=.S po (ns.eraseIdx k).length co) ⟨_,HB0.1⟩;have t1:(wr.setCell (Ad w.heap.size 5) (.S po (ns.eraseIdx k).length co)).heap[w.heap.size+1]?=_:=(ga _ _ _ _ (by show w.heap.size+1≠w.heap.size;omega)).trans HB0.2;have f2:=ju (v0:=.U e) (v1:=.U g) (v2:=.U x) (v3:=.I t) (v4:=.S p n c) (v5:=.S po (ns.eraseIdx k).length co) t1;have To:=((bW.trans (aM.mono af)).setCell (p:=(Ad w.heap.size 5)) ay (.S po (ns.eraseIdx k).length co)).trans ((dr (w.heap.size+1) (.U e) (.U g) (.U x) (.I t) (.S p n c) (.S po (ns.eraseIdx k).length co)).mono af);refine dJ (v:=dZ e g x t (.S p n c) (.S po (ns.eraseIdx k).length co)) (by simp[results,results226,go_sem,q0,q1,q2,q3,q4,q5]) rfl ?_;exact⟨po,co,rfl,((ho.fr f1.2).fr f2).mono af,To⟩}}
def kq.at{n c:Nat}(h:kq B w (.S p n c) ss Qs)(hx:ss[i]?=some s):∃g Q,p=some (Ad g 0)/\n=ss.length/\n<=c/\Qs[i]?=some Q/\w.cell? (Ad g (i*3))=some (.U s.1)/\w.cell? (Ad g (i*3+1))=some (.I s.2.1)/\w.cell? (Ad g (i*3+2))=some Q/\Ll B w Q s.2.2/\∀o,w.frozen? (Ad g o)=false:=by
 have hi:=(aV.1 hx).1;obtain⟨Q,hQ⟩:∃Q,Qs[i]?=some Q:=⟨_,aY (h.len▸hi)⟩;have hz:(ss.zip Qs)[i]?=some (s,Q):=by rw[Kn];exact⟨hx,hQ⟩
 have hl:(ss.zip Qs).length=ss.length:=by rw[QC,h.len];simp
 obtain⟨p',c',e,hc,-,hp⟩:=h.row.form;rw[hl]at e hc hp;obtain⟨rfl,rfl,rfl⟩:=ir e;obtain⟨g,rfl⟩:=hp af;obtain⟨cs,-,he,Fc,hf⟩:=RT.at h.row hz;unfold tO at he;subst he;exact⟨g,Q,rfl,rfl,hc,hQ,Fc 0 _ rfl,Fc 1 _ rfl,Fc 2 _ rfl,h.Yk i s Q hx hQ,hf⟩
def xM(ss:List aQ)(id:Int):Int:=match ss.findIdx? (λs=>s.1==id)with
 |some i=>i
 |none=>-1
def aH2{id:Int}(h:ss[j]?=some s)(hs:s.1=id)(me:∀(i:Nat)(s':aQ),i<j->ss[i]?=some s'->¬s'.1=id):xM ss id=j:=by
 have hj:=(aV.1 h);have:ss.findIdx? (λs=>s.1==id)=some j:=by rw[Di];refine⟨hj.1,by rw[hj.2];simp[hs],λi hi=>?_⟩;have:=me i _ hi (aY (aI hj.1));simpa using this
 rw[xM,this]
def ae9{id:Int}(me:∀(i:Nat)(s':aQ),ss[i]?=some s'->¬s'.1=id):xM ss id=-1:=by
 have:ss.findIdx? (λs=>s.1==id)=none:=by
  rw[WO];intro x hx
  let⟨i,hi⟩:=gH.1 hx
  simpa using me i x hi
 rw[xM,this]
def Uq{n c:Nat}(en:Le ss n){id:Int}(hS:Hid (kq B w (.S p n c) ss Qs))(hn:Mg n):Calls prog 188 #[dZ e g x t (.S p n c) (.S q m d),.U id] w (Rb (.I (xM ss id)) w):=by
 let⟨W0,fL,b0,z0,C0,T0⟩:=au w #[.U e,.U g,.U x,.I t,.S p n c,.S q m d] 41
 have bW:=ag b0;have HC:=ag C0;clear b0 C0 T0
 go_in
 go_wp2;rw[<-fL];clear fL
 go_loopw[5](λiv wr=>∃j:Nat,j<=n/\iv=.I j/\Hid (∀(i:Nat)(s':aQ),i<j->ss[i]?=some s'->¬s'.1=id)/\Hid (Bw W0 wr)) (λiv _=>n-(intOf iv).toNat)
 exact⟨0,gr _,rfl,(λi s' h=>absurd h af),cQ _ _⟩;{
 obtain⟨j,hj,rfl,me,aM⟩:=hrel;have s4:=(HC.below af aM).1 4 _ rfl;by_cases bf:j<n;{
 have bL:=aU j n;obtain⟨s,hs⟩:∃s,ss[j]?=some s:=⟨_,aY (ae en▸bf)⟩;have bwr:Bw w wr:=aj bW aM;obtain⟨gs,Q,rfl,-,-,-,c0,-⟩:=kq.at (hS.fr (aO bwr)) hs;have HB:=ag bwr;have HS:=ag hs;clear hs bwr;obtain⟨I,J,K⟩:=s;by_cases he:I=id;{
 subst he;have hee:(I==I)=true:=al;go_wp2;go_ret;refine⟨?_,HB⟩;rw[aH2 (ae HS) rfl (ae me)]
 rfl}
 {
 have ap8:Hid (∀(i:Nat)(s':aQ),i<j+1->ss[i]?=some s'->¬s'.1=id):=λi s' hi h=>by by_cases e2:i=j;{subst e2;rw[ae HS]at h;cases h;exact he};{exact me i s' af h}
 go_wp2;go_roundw;exact⟨j+1,af,by go_num,ap8,aM⟩;exact cg}};{have bL:=dB j n;have HE:=ag (ae9 (λi s' h=>ae me i s' (by have:=(aV.1 h).1;rw[ae en]at this;omega) h));have HB:Hid (Bw w wr):=aj bW aM;go_wp2;go_ret;exact⟨by rw[ae HE];rfl,ae HB⟩}}
def lp.tu(h:lp B w v l)(hB:B'<=B):TU B' w v l:=by
 refine⟨h.1.rdu,?_,h.2,?_⟩;{intro b e;rcases h.1.2 with⟨rfl,-⟩|⟨g,cap,cur,rfl,-,hg,-⟩;{simp[Value.ownBlock]at e};{simp only[Value.ownBlock,kV]at e;subst e;exact⟨cur,hg⟩}};{intro b e;rcases h.1.2 with⟨rfl,-⟩|⟨g,cap,cur,rfl,hb,-⟩;{simp[Value.ownBlock]at e};{simp only[Value.ownBlock,kV]at e;subst e;exact fu hB hb}}
def gq.UC{g n cap:Nat}{nd0:aD}(h:gq B0 B w (.T g n cap) (ns.set k nd))(hk:ns[k]?=some nd0)(hj:j<8)(u:Value)(nd':aD)(hn:∀w' P V H U,TB w' P nd.path->TB w' V nd.value->TU B0 w' H nd.holders->TU B0 w' U nd.watchers->Fr [133] w w'->nQ B0 w' nd' ([P,V,.U nd.owner,.I nd.mode,H,.U nd.aE,.U nd.gen,U].set j u)):gq B0 B (w.setCell (Ad g (k*8+j)) u) (.T g n cap) (ns.set k nd')/\Fr [133] w (w.setCell (Ad g (k*8+j)) u):=by
 have:=gq.put h (i:=k) (nd:=nd) (by rw[vX];simp[(aV.1 hk).1]) hj u nd' hn;rwa [Km]at this
def aO4{T:List TypeId}(hF:Fr T w wr)(rI:Below B w wr)(hb:w.heap.size<=b)(hB:B<=w.heap.size)(ht:wr.heap[b]?=some (.cells cur 41))(v0 v1 v2 v3 v4 v5:Value):Fr T w (dG wr b v0 v1 v2 v3 v4 v5)/\Below B w (dG wr b v0 v1 v2 v3 v4 v5)/\Fr [41] wr (dG wr b v0 v1 v2 v3 v4 v5):=by
 have To:=dr (w:=wr) b v0 v1 v2 v3 v4 v5;exact⟨⟨fu hF.1 To.size,λb' cur ty mm ht bN=>(To.block b' (aI (iW bN))).trans (hF.2 b' cur ty mm ht bN)⟩,rI.trans (To.mono af),ju ht⟩
def Im{id:Int}(hk:D.ns[k]?=some nd)(h:nd.holders.contains id=false):dS D k id=D:=by
 unfold dS;rw[hk];simp only[h,MI,Cb]
def Il{id:Int}(hk:D.ns[k]?=some nd)(h:nd.holders.contains id=true)(h2:qZ nd.holders id≠[]):dS D k id={D with ns:=D.ns.set k {nd with holders:=qZ nd.holders id}}:=by
 unfold dS;rw[hk];simp only[h,pM,bH h2]
def Io{id:Int}(hk:D.ns[k]?=some nd)(h:nd.holders.contains id=true)(h2:qZ nd.holders id=[]):dS D k id={D with ss:=uz D.ss nd.watchers (3,nd.path),ns:=D.ns.set k {nd with holders:=[],mode:=0,aE:=0,gen:=0,watchers:=[]}}:=by
 unfold dS;rw[hk];simp only[h,pM,bO h2];unfold dW;have dT:=(aV.1 hk).1;simp only[vX,dT,pM,Km]
def Sc{n c:Nat}(en:Le ss n){id:Int}(hk:Hid (ns[k]?=some nd))(hS:Hid (kq B w (.S p n c) ss Qs))(hN:Hid (AI B w (.S q m d) ns))(hB:B<=w.heap.size)(hn:Mg n)(hm:Mg m)(hp:nd.path.length<=1048576)(hw:nd.watchers.length<=0)(hh:nd.holders.length<=1048576):Calls prog 224 #[dZ e g x t (.S p n c) (.S q m d),.I k,.U id] w λr w'=>r=.returned (dZ e g x t (.S p n c) (.S q m d))/\(∃Wc,kq B w' (.S p n c) (dS ⟨e,g,x,t,ss,ns⟩ k id).ss Wc)/\AI B w' (.S q m d) (dS ⟨e,g,x,t,ss,ns⟩ k id).ns/\Fr [189,132,133] w w'/\Below B w w':=by
 obtain⟨gn,Pv,Vv,Hv,Uv,rfl,em,hmd,-,-,-,-,c4,-,-,-,-,-,tH,-,cfz⟩:=gq.at hN hk;have hkm:k<m:=by rw[em];exact(aV.1 (ae hk)).1
 have bi2:=aU k m;clear em;obtain⟨ph,ch,rfl⟩:=tH.gF
 let⟨nh,eH⟩:=bG nd.holders.length
 rw[ae eH]at hh tH c4;have ZW:gn<w.heap.size:=(hN.lt gn rfl).2;have Oq:=(hN.lt gn rfl).1
 let⟨W0,fL,b0,z0,C0,T0⟩:=au w #[.U e,.U g,.U x,.I t,.S p n c,.T gn m d] 41
 let⟨W1,mg,b1,z1,C1,T1⟩:=au W0 #[.U 0,.U 0,.U 0,.I 0,aq,aq] 41
 rw[z0]at C1 T1 z1;have bW:=ag (aj b0 b1);have k4:=λ(ob o2:Obj)=>ah (ah c4 ((cQ _ w).alloc ay ob)) (aA.alloc ay o2);have HC:=ag (ai (C0.below af b1) C1);have HT:=ag (ai ((b1.block _ af).trans T0) T1);have HN1:=ag (ai (hS.fr (aO (ae bW))) (ai (hN.fr (aO (ae bW))) (tH.fr (aO (ae bW)))));have fz:=λ(v:World)(hv:Bw W1 v)(o:Nat)=>((aj bW hv).frozen (p:=(Ad gn o)) ZW).trans (cfz o);have FZ:=ag fz;have HC4:=ag c4;clear b0 b1 C0 C1 T0 T1 c4 cfz tH fz
 go_in
 go_wp2_with fail;rw[<-fL,<-mg]
 let⟨bo,YP⟩:=bG (nd.holders.contains id)
 refine(Cg eH HN1.2.2.1 hh YP).mono ?_;rintro r w1⟨rfl,aG⟩;have z1':=aG.size;have yI:=ag (ai (HC.1.below af aG) (HC.2.below af aG));have HT1:=ag (ai ((aG.block _ af).trans HT.1) ((aG.block _ af).trans HT.2));have AZ:=ag (ai (HN1.1.fr (aO aG)) (ai (HN1.2.1.fr (aO aG)) (HN1.2.2.fr (aO aG))));have qW:=ag (aj bW aG);have c4:=ah HC4 qW;have FZ1:=ag (λ(v:World)(hv:Bw w1 v)(o:Nat)=>ae FZ v (aj aG hv) o);have s5:=yI.1.1 5 _ rfl;cases bo;{
 let⟨K0,kf⟩:=yI.1
 let⟨R0,rf⟩:=yI.2
 have k0:=K0 0 _ rfl;have k1:=K0 1 _ rfl;have k2:=K0 2 _ rfl;have k3:=K0 3 _ rfl;have k4:=K0 4 _ rfl;have q0:=R0 0 _ rfl;have q1:=R0 1 _ rfl;have q2:=R0 2 _ rfl;have q3:=R0 3 _ rfl;have q4:=R0 4 _ rfl;have q5:=R0 5 _ rfl;go_wp2;have f2:=ju (v0:=.U e) (v1:=.U g) (v2:=.U x) (v3:=.I t) (v4:=.S p n c) (v5:=.T gn m d) HT1.2;have To:=qW.trans ((dr (w:=w1) (w.heap.size+1) (.U e) (.U g) (.U x) (.I t) (.S p n c) (.T gn m d)).mono af);refine dJ (v:=dZ e g x t (.S p n c) (.T gn m d)) (by simp[results,results224,go_sem,q0,q1,q2,q3,q4,q5]) rfl ?_;rw[Im (ae hk) (ae YP)];exact⟨rfl,⟨_,AZ.1.fr f2⟩,AZ.2.1.fr f2,Fr.below To,To.mono hB⟩};{
 go_wp2_with fail;refine(xm eH AZ.2.2.1 hh).mono ?_;rintro r w2⟨pl,cl,rfl,ol,aK⟩
 let⟨L,eL⟩:=bG (qZ nd.holders id)
 rw[ae eL]at ol
 let⟨nl,lK⟩:=bG L.length
 rw[ae eL,ae lK];rw[ae lK]at ol;have z2':=aK.size;have Wh:=ag (ai (yI.1.below af aK) (yI.2.below af aK));have HT2:=ag (ai ((aK.block _ af).trans HT1.1) ((aK.block _ af).trans HT1.2));have HN3:=ag (ai (AZ.1.fr (aO aK)) (ai (AZ.2.1.fr (aO aK)) (ol.tu (B':=B) (aI qW.size))));have AO:=ag (aj qW aK);have fz:=ae FZ1 w2 aK;have s5:=Wh.1.1 5 _ rfl;have fz4:=fz (k*8+4);obtain⟨gn',P',V',H',U',e',-,-,-,-,-,d3,d4,d5,d6,-⟩:=gq.at HN3.2.1 hk;obtain⟨rfl,-⟩:=yz e';have bS:¬gn=w.heap.size:=af;have bI6:¬gn=w.heap.size+1:=af
 let⟨N4,F4⟩:=gq.put HN3.2.1 hk (j:=4) af (.S pl nl cl) {nd with holders:=L} (λw' P V H U h1 h2 h3 h4 hf=>⟨P,V,.S pl nl cl,U,rfl,h1,h2,HN3.2.2.fr hf,h4⟩)
 let⟨K0,kf⟩:=Wh.1
 let⟨R0,rf⟩:=Wh.2
 have k0:=K0 0 _ rfl;have k1:=K0 1 _ rfl;have k2:=K0 2 _ rfl;have k3:=K0 3 _ rfl;have k4:=K0 4 _ rfl;have q0:=R0 0 _ rfl;have q1:=R0 1 _ rfl;have q2:=R0 2 _ rfl;have q3:=R0 3 _ rfl;have q4:=R0 4 _ rfl;have q5:=R0 5 _ rfl;by_cases h0:nl=0;{
 subst h0;have hL0:L=[]:=r8.1 lK;subst hL0;have fz3:=fz (k*8+3);have fz5:=fz (k*8+5);have fz6:=fz (k*8+6);have NK:=hk
 let⟨N4',F4'⟩:=(⟨N4,F4⟩:_/\_)
 let⟨N3,F3⟩:=gq.UC N4 hk (j:=3) af (.I 0) {nd with holders:=[],mode:=0} (λw' P V H U h1 h2 h3 h4 hf=>⟨P,V,H,U,rfl,h1,h2,h3,h4⟩)
 let⟨N5,F5⟩:=gq.UC N3 hk (j:=5) af (.U 0) {nd with holders:=[],mode:=0,aE:=0} (λw' P V H U h1 h2 h3 h4 hf=>⟨P,V,H,U,rfl,h1,h2,h3,h4⟩)
 let⟨N6,F6⟩:=gq.UC N5 hk (j:=6) af (.U 0) {nd with holders:=[],mode:=0,aE:=0,gen:=0} (λw' P V H U h1 h2 h3 h4 hf=>⟨P,V,H,U,rfl,h1,h2,h3,h4⟩)
 let⟨X,hX⟩:=aB ((((w2.setCell (Ad gn (k*8+4)) (.S pl 0 cl)).setCell (Ad gn (k*8+3)) (.I 0)).setCell (Ad gn (k*8+5)) (.U 0)).setCell (Ad gn (k*8+6)) (.U 0))
 rw[<-hX]at N6 F6;have FX:=ag (((F4.trans F3).trans F5).trans F6);have NX:=ag N6;have SX:=ag (HN3.1.fr FX);have BX:Hid (Below B w X):=by rw[hX];exact(((((AO.mono hB).setCell (p:=(Ad gn _)) Oq _).setCell (p:=(Ad gn _)) Oq _).setCell (p:=(Ad gn _)) Oq _).setCell (p:=(Ad gn _)) Oq _)
 have FW:=ag ((Fr.below (ae AO):Fr [189,132,133] w w2).trans (FX.sub al));have zX:=FX.1;have tX0:=FX.2 _ _ _ _ bj HT2.1;have tX1:=FX.2 _ _ _ _ bj HT2.2;have Tc:=Wh.1.de (tX0.trans HT2.1.symm);have CX1:=Wh.2.de (tX1.trans HT2.2.symm);have HX:=ag (ai tX0 (ai tX1 (ai Tc CX1)));go_wp2_with fail;rw[<-hX];refine(yO e g x t (p:=p) (c:=c) (q:=some (Ad gn 0)) (m:=m) (d:=d) (Qs:=Qs) en (k:=k) 3 {nd with holders:=[],mode:=0,aE:=0,gen:=0} (ag (by rw[vX];simp[(aV.1 (ae hk)).1])) B X SX NX af hn hm hp hw).mono ?_;rintro r w3⟨rfl,⟨Q3,hS3⟩,JA,Ht,br⟩;rw[Km]at JA;have t0:=Ht.2 _ _ _ _ bj HX.1;have t1:=Ht.2 _ _ _ _ bj HX.2.1;have C0:=HX.2.2.1.de (t0.trans HX.1.symm);have C1:=HX.2.2.2.de (t1.trans HX.2.1.symm);have HE:=ag (ai hS3 (ai JA (ai (FW.trans Ht) (BX.trans br))));have HT3:=ag (ai t0 t1);have HC3:=ag C1;obtain⟨K0,kf⟩:=C0;obtain⟨R0,rf⟩:=C1;have k0:=K0 0 _ rfl;have k1:=K0 1 _ rfl;have k2:=K0 2 _ rfl;have k3:=K0 3 _ rfl;have k4:=K0 4 _ rfl;have k5:=K0 5 _ rfl;have q0:=R0 0 _ rfl;have q1:=R0 1 _ rfl;have q2:=R0 2 _ rfl;have q3:=R0 3 _ rfl;have q4:=R0 4 _ rfl;have q5:=R0 5 _ rfl;go_wp2
 let⟨fA,bA,gA⟩:=aO4 HE.2.2.1 HE.2.2.2 ay hB HT3.1 (.U e) (.U g) (.U x) (.I t) (.S p n c) (.T gn m d)
 let⟨fB,bB,gB⟩:=aO4 fA bA (Qz _) hB ((jX af).trans HT3.2) (.U e) (.U g) (.U x) (.I t) (.S p n c) (.T gn m d)
 refine dJ (v:=dZ e g x t (.S p n c) (.T gn m d)) (by simp[results,results224,go_sem,q0,q1,q2,q3,q4,q5]) rfl ?_;rw[Io (ae hk) (ae YP) (ae eL)];exact⟨rfl,⟨_,(HE.1.fr gA).fr gB⟩,(HE.2.1.fr gA).fr gB,fB,bB⟩};{
 have hnl:¬((nl:Int)=0):=af;go_wp2;have t1:=F4.2 _ _ _ _ bj HT2.2
 let⟨fB,bB,gB⟩:=aO4 ((Fr.below (ae AO):Fr [189,132,133] w w2).trans (F4.sub al)) ((AO.mono hB).setCell (p:=(Ad gn _)) Oq _) (Qz _) hB t1 (.U e) (.U g) (.U x) (.I t) (.S p n c) (.T gn m d)
 refine dJ (v:=dZ e g x t (.S p n c) (.T gn m d)) (by simp[results,results224,go_sem,q0,q1,q2,q3,q4,q5]) rfl ?_;rw[Il (ae hk) (ae YP) (by rw[ae eL];intro e;rw[e]at lK;exact h0 lK.symm)];refine⟨rfl,⟨_,(HN3.1.fr F4).fr gB⟩,?_,fB,bB⟩;simp only[ae eL];exact gq.fr N4 gB}}
def BX(w:World)(b:Nat)(vs:List Value):Prop:=ar w b vs/\∃cur,w.heap[b]?=some (.cells cur 41)
def BX.fr{T:List TypeId}(h:BX w b vs)(hf:Fr T w w')(ht:41∉T:=by decide):BX w' b vs:=by
 obtain⟨h1,cur,h2⟩:=h;have h3:=hf.2 _ _ _ _ ht h2;exact⟨h1.de (h3.trans h2.symm),cur,h3⟩
def BX.lt(h:BX w b vs):b<w.heap.size:=by
 obtain⟨h1,cur,h2⟩:=h;exact iW h2
def BX.below(h:BX w b vs)(hb:Bw w w'):BX w' b vs:=h.fr (aO hb) (by simp)
def BX.put(h:BX w b [o0,o1,o2,o3,o4,o5])(v0 v1 v2 v3 v4 v5:Value):BX (dG w b v0 v1 v2 v3 v4 v5) b [v0,v1,v2,v3,v4,v5]:=⟨WC h.1,Gi h.2⟩
def BX.yv(h:BX w b' vs)(bS:b'≠b)(v0 v1 v2 v3 v4 v5:Value):BX (dG w b v0 v1 v2 v3 v4 v5) b' vs:=⟨P8 h.1 bS,h.2.imp λcur hc=>(jX bS).trans hc⟩
def BX.fin{T:List TypeId}(h:BX wr b vs)(hF:Fr T w wr)(rI:Below B w wr)(hb:w.heap.size<=b)(hB:B<=w.heap.size)(v0 v1 v2 v3 v4 v5:Value):Fr T w (dG wr b v0 v1 v2 v3 v4 v5)/\Below B w (dG wr b v0 v1 v2 v3 v4 v5)/\Fr [41] wr (dG wr b v0 v1 v2 v3 v4 v5):=by
 obtain⟨-,cur,h2⟩:=h;exact aO4 hF rI hb hB h2 _ _ _ _ _ _
def BX.FQ(h:BX w b' vs)(bS:b'≠b):BX (w.setCell (Ad b j) u) b' vs:=⟨h.1.de (ga _ _ _ _ bS),h.2.imp λcur hc=>(ga _ _ _ _ bS).trans hc⟩
def BX.bQ8{T:List TypeId}(h:BX wr b vs)(hF:Fr T w wr)(rI:Below B w wr)(hb:w.heap.size<=b)(hB:B<=w.heap.size)(u:Value):Fr T w (wr.setCell (Ad b j) u)/\Below B w (wr.setCell (Ad b j) u)/\Fr [41] wr (wr.setCell (Ad b j) u):=by
 have To:Below b wr (wr.setCell (Ad b j) u):=aA.setCell (p:=(Ad b j)) ay _;exact⟨⟨fu hF.1 To.size,λb' cur ty mm ht bN=>(To.block b' (aI (iW bN))).trans (hF.2 b' cur ty mm ht bN)⟩,rI.trans (To.mono af),(dy h.2).2⟩
def BX.cells(h:BX w b [v0,v1,v2,v3,v4,v5]):w.cell? (Ad b 0)=some v0/\w.cell? (Ad b 1)=some v1/\w.cell? (Ad b 2)=some v2/\w.cell? (Ad b 3)=some v3/\w.cell? (Ad b 4)=some v4/\w.cell? (Ad b 5)=some v5/\∀o,w.frozen? (Ad b o)=false:=
 ⟨h.1.1 0 _ rfl,h.1.1 1 _ rfl,h.1.1 2 _ rfl,h.1.1 3 _ rfl,h.1.1 4 _ rfl,h.1.1 5 _ rfl,h.1.2⟩
def jB(w:World)(v0 v1 v2 v3 v4 v5:Value):∃W,W=w.alloc (.cells #[v0,v1,v2,v3,v4,v5] 41)/\Bw w W/\W.heap.size=w.heap.size+1/\BX W w.heap.size [v0,v1,v2,v3,v4,v5]:=by
 let⟨W,h1,h2,h3,h4,h5⟩:=au w #[v0,v1,v2,v3,v4,v5] 41
 exact⟨W,h1,h2,h3,h4,_,h5⟩
def sr(w:World):∃W,W=w.alloc (.cells #[.U 0,.U 0,.U 0,.I 0,aq,aq] 41)/\Bw w W/\W.heap.size=w.heap.size+1/\BX W w.heap.size [.U 0,.U 0,.U 0,.I 0,aq,aq]:=jB w _ _ _ _ _ _
def NBo(nd:aD):Prop:=nd.path.length<=1048576/\nd.watchers.length<=0/\nd.holders.length<=1048576
def NB(ns:List aD):Prop:=∀nd∈ns,NBo nd
def NB.set(h:NB ns)(hn:NBo nd):NB (ns.set k nd):=λx hx=>by
 rcases QE hx with hx|rfl;{exact h x hx};{exact hn}
def NB.erase(h:NB ns)(k:Nat):NB (ns.eraseIdx k):=λx hx=>h x (GI hx)
def Fz(hk:ns[k]?=some nd)(kd:Int):dW ⟨e,g,x,t,ss,ns⟩ k kd=⟨e,g,x,t,uz ss nd.watchers (kd,nd.path),ns.set k {nd with watchers:=[]}⟩:=by
 unfold dW;simp only[hk]
def bM{α:Type}{l:List α}{a:α}(hk:l[k]?=some a)(b:α):(l.set k b)[k]?=some b:=by
 rw[vX,bO rfl,bO (aV.1 hk).1]
def Sd(hk:ns[k]?=some nd)(id:Int):∃JS ns1 lr,dS ⟨e,g,x,t,ss,ns⟩ k id=⟨e,g,x,t,JS,ns1⟩/\JS.length=ss.length/\ns1.length=ns.length/\ns1[k]?=some lr/\lr.owner=nd.owner/\(NB ns->NB ns1):=by
 by_cases h:nd.holders.contains id=true;{by_cases h2:qZ nd.holders id=[];{exact⟨_,_,_,Io hk h h2,vw _ _ _,pR,bM hk _,rfl,λhb=>hb.set ⟨(hb nd (aT hk)).1,al,al⟩⟩};{exact⟨_,_,_,Il hk h h2,rfl,pR,bM hk _,rfl,λhb=>hb.set ⟨(hb nd (aT hk)).1,(hb nd (aT hk)).2.1,fu (Fp) (hb nd (aT hk)).2.2⟩⟩}};{exact⟨_,_,_,Im hk (by simpa using h),rfl,rfl,hk,rfl,λhb=>hb⟩}
def IM(id:Int)(nd:aD):aD:={nd with watchers:=qZ nd.watchers id}
def dI(id:Int):Nat->Nat->SD->SD
 |0,_,D=>D
 |f+1,k,D=>match(dS D k id).ns[k]? with
  |none=>D
  |some nd=>if nd.owner=id then dI id f k (Tf (dW (dS D k id) k 2) k)else dI id f (k+1) (dS D k id)
def Ys(id:Int)(ss:List aQ):List aQ:=ss.filter λs=>!(s.1==id)
def jA(D:SD)(id:Int):SD:={dI id D.ns.length 0 {D with ns:=D.ns.map (IM id)}with ss:=Ys id (dI id D.ns.length 0 {D with ns:=D.ns.map (IM id)}).ss}
def bn9{id:Int}(h:NBo nd):NBo (IM id nd):=⟨h.1,fu (Fp) h.2.1,h.2.2⟩
def NB.map(h:NB ns)(id:Int):NB (ns.map (IM id)):=λx hx=>by
 obtain⟨y,hy,rfl⟩:=iR.1 hx;exact bn9 (h y hy)
def rJ{Q:Exit->Act->World->Prop}(ng:o.guard=none){s x:Operand}(ho:o.op=.call {callee:=.builtin .append,args:=#[s,x],argTypes:=#[38,38]}){zs:List (aQ×Value)}{z:aQ×Value}(ek:Le zs k)(hs:a.eval s=v)(bR:RT tO 132 3 B w v zs)(g:Nat)(hx:a.eval x=.T g 1 1)(hq:z.2.oneCell'=true)(iU:∀(j:Nat)u,[.U z.1.1,.I z.1.2.1,z.2][j]?=some u->w.cell? (Ad g j)=some u)(hk:k<4194304)(hB:B<=w.heap.size)(h:∀p' c' w',RT tO 132 3 B w' (.S p' (k+1) c') (zs++[z])->w.grownBy w' v.ownBlock->Fr [132] w w'->wpList prog ops Q rest (a.put o.dst (.S p' (k+1) c')) w'):wpList prog ops Q (o::rest) a w:=by
 let⟨i,hi,qx,jd,jJ⟩:=fD Tryz.infoSes
 have ht:=bR.typ;obtain⟨rs,h1,h2,h3,h4⟩:=bR;rw[ae ek]at h3;refine cR ng 38 ho i 3 underlying38 hi qx jd jJ rfl bj v hs h3 g 1 1 _ hx rfl iU (λu hu=>by simp at hu;rcases hu with rfl|rfl|rfl;rfl;rfl;exact hq) iB af hB ?_;intro v' w' fo hg _;have hf:Fr [132] w w':=Fr.grown hg λb hb=>by
  let⟨cur,hc⟩:=ht b hb
  exact⟨cur,_,hc,al⟩
 have sn:RT tO 132 3 B w' v' (zs++[z]):=RT.snoc h1 h2 h4 (λ_ _ h=>h) rfl rfl (ae ek▸fo);obtain⟨p',c',rfl,-⟩:=RT.form sn;rw[gU,ae ek]at sn⊢;exact h p' c' w' sn hg hf
def kq.filter(h:kq B w v ss Qs)(f:aQ->Bool)(hr:RT tO 132 3 B w v' ((ss.zip Qs).filter λz=>f z.1)):kq B w v' (ss.filter f) (((ss.zip Qs).filter λz=>f z.1).map Prod.snd):=by
 have e1:ss.filter f=((ss.zip Qs).filter λz=>f z.1).map Prod.fst:=by
  have:((ss.zip Qs).map Prod.fst)=ss:=by rw[List.map_fst_zip (h.len▸iD _)]
  conv=>lhs;rw[<-this]
  rw[List.filter_map]
  rfl
 have e2:(ss.zip Qs).map Prod.snd=Qs:=by rw[List.map_snd_zip (h.len▸iD _)]
 have KM:Qs.Pairwise λQ Q'=>∀b,Q.ownBlock=some b->Q'.ownBlock≠some b:=by rw[Jf];intro i j hi hj ld b hb;exact h.yv i j _ _ b af (aY hi) (aY hj) hb
 have bh0:(((ss.zip Qs).filter λz=>f z.1).map Prod.snd).Pairwise λQ Q'=>∀b,Q.ownBlock=some b->Q'.ownBlock≠some b:=by rw[<-e2]at KM;exact KM.sublist (List.filter_sublist.map _)
 refine⟨by rw[e1];simp,?_,λi s Q hs hQ=>?_,λi j Q Q' b ld hQ hQ' hb=>?_⟩;{rw[e1,<-List.unzip_fst,<-List.unzip_snd,List.zip_unzip];exact hr};{
 rw[e1,nG]at hs;rw[nG]at hQ;obtain⟨z,hz,rfl⟩:=Dg.1 hs;rw[hz]at hQ;cases hQ
 let⟨j,hj⟩:=gH.1 (Ko.1 (aT hz)).1
 rw[Kn]at hj;exact h.Yk j _ _ hj.1 hj.2};{rw[Jf]at bh0;obtain⟨hi,rfl⟩:=aV.1 hQ;obtain⟨hj,rfl⟩:=aV.1 hQ';rcases Nat.lt_or_gt_of_ne ld with hl|hl;{exact bh0 i j hi hj hl b hb};{exactλe=>bh0 j i hj hi hl b e hb}}
def au9{zs:List (aQ×Value)}{z:aQ×Value}(h:zs[k]?=some z)(f:aQ->Bool):((zs.take (k+1)).filter λz=>f z.1)=if f z.1 then((zs.take k).filter λz=>f z.1)++[z]else(zs.take k).filter λz=>f z.1:=by
 rw[od,h,WQ];by_cases e:f z.1<;>simp[e]
def DP{id:Int}{D1:SD}(hk:k<m)(hd:dS D k id=D1)(hn:D1.ns[k]?=some nd):dI id (m-k) k D=if nd.owner=id then dI id (m-1-k) k (Tf (dW D1 k 2) k)else dI id (m-(k+1)) (k+1) D1:=by
 obtain⟨f,hf⟩:∃f,m-k=f+1:=⟨m-k-1,af⟩;rw[hf,dI,hd,hn,show m-1-k=f by omega,show m-(k+1)=f by omega]
def an1(b:Nat)(w:World):Nat:=match w.cell? (Ad b 5)with
 |some (.slice _ m _)=>m
 |_=>0
def Hd(h:BX w b [v0,v1,v2,v3,v4,.S q m d]):an1 b w=m:=by
 unfold an1;rw[h.1.1 5 _ rfl]
def Zl{n c:Nat}(en:Le ss n)(em:Le ns m){id:Int}(hS:Hid (kq B w (.S p n c) ss Qs))(hN:Hid (AI B w (.S q m d) ns))(hNB:Hid (NB ns))(hB:B<=w.heap.size)(hn:Mg n)(hm:Mg m)(eD:Hid (jA ⟨e,g,x,t,ss,ns⟩ id=D)):Calls prog 189 #[dZ e g x t (.S p n c) (.S q m d),.U id] w λr w'=>∃p' c' q' d',r=.returned (dZ e g x t (.S p' D.ss.length c') (.S q' D.ns.length d'))/\(∃Wc,kq B w' (.S p' D.ss.length c') D.ss Wc)/\AI B w' (.S q' D.ns.length d') D.ns/\Fr [189,132,133] w w'/\Below B w w':=by
 let⟨W0,fL,b0,z0,C0⟩:=jB w (.U e) (.U g) (.U x) (.I t) (.S p n c) (.S q m d)
 let⟨W1,mg,b1,z1,C1⟩:=sr W0
 rw[z0]at C1;have HC:=ag (ai (C0.below b1) C1);have bW:=ag (aj b0 b1);have zW:W1.heap.size=w.heap.size+2:=af
 go_in
 go_wp2;rw[<-fL,<-mg]
 go_loopw[5](λkv wr=>∃k:Nat,k<=m/\kv=.I k/\w.heap.size+2<=wr.heap.size/\Hid (AI B wr (.S q m d) (JC (IM id) k ns))/\Hid (kq B wr (.S p n c) ss Qs)/\Hid (BX wr w.heap.size [.U e,.U g,.U x,.I t,.S p n c,.S q m d]/\BX wr (w.heap.size+1) [.U 0,.U 0,.U 0,.I 0,aq,aq])/\Hid (Fr [189,132,133] w wr)/\Hid (Below B w wr)) (λkv _=>m-(intOf kv).toNat)
 exact⟨0,gr _,rfl,af,(by show AI _ _ _ _;simpa[JC]using hN.fr (aO (ae bW))),hS.fr (aO (ae bW)),ae HC,Fr.below (ae bW),bW.mono hB⟩;{
 obtain⟨k,hk,rfl,zr,Xs,hSk,Nk,KY,rI⟩:=hrel;have s5:=Nk.1.1.1 5 _ rfl;by_cases bf:k<m;{
 have bL:=aU k m;obtain⟨nd,bu⟩:∃nd,ns[k]?=some nd:=⟨_,aY (by rw[ae em];exact bf)⟩;have mT:=aO3 (IM id) bu;have E1:=ag (YV (IM id) bu);obtain⟨gn,P,V,H,U,rfl,-,-,-,-,-,-,-,-,-,c7,-,-,-,tU,cfz⟩:=gq.at Xs mT;obtain⟨pu,cu,rfl⟩:=tU.gF
 let⟨nu,eU⟩:=bG nd.watchers.length
 have IG:nu<=1048576:=by rw[<-ae eU];have:=(ae hNB nd (aT bu)).2.1;omega
 rw[ae eU]at tU c7;have HK:=ag mT;have Oq:B<=gn:=(Xs.lt gn rfl).1;have hgz:gn<wr.heap.size:=(Xs.lt gn rfl).2;have ZW:¬w.heap.size=gn:=λe=>by
  obtain⟨-,cur,h1⟩:=Nk.1
  let⟨aQ0,h2⟩:=Xs.typ gn rfl
  rw[e,h2]at h1;simp at h1
 let⟨vA,je⟩:=aB wr.drew
 have gL:=mX je;have zA:=gL.size;have GA:=ag (λ(v:World)(hv:Bw vA v)=>ai (ah s5 (aj gL hv)) (ai (ah c7 (aj gL hv)) (ai (λo=>((aj gL hv).frozen (p:=(Ad gn o)) hgz).trans (cfz o)) (aj gL hv))));have UA:=ag (tU.fr (aO gL));go_wp2_with fail;refine du (λw'=>w'.cell? (Ad w.heap.size 5)=some (.T gn m d)) (by rw[<-je];exact(ae GA vA aA).1) λhS=>?_;rw[<-je]at hS⊢;clear je gL s5;refine mj 0 1 2 3 4 5 6 7 hS ?_;refine tn 9 hS ?_;refine cX 8 λKK hK=>?_;have c7:=(ae GA _ aA).2.1;go_simp;refine fh hK (by exact(ae GA _ aA).1) λhS=>?_;clear hK KK c7;refine cX 10 λKK hK=>?_;refine vU (xm (p:=pu) (c:=cu) (n:=nu) (l:=nd.watchers) eU (id:=id) (w:=vA) UA.1 IG) ?_;rintro r v1⟨pl,cl,rfl,ol,aG⟩;refine⟨_,rfl,?_⟩
 let⟨nl,lK⟩:=bG (qZ nd.watchers id).length
 rw[ae lK]at ol⊢;have OL:=ag (ol.tu (B':=B) af);have qW:=ag aG;refine fh hK (by exact(ae GA v1 aG).1) λhS=>?_;clear hK KK ol aG;refine jR 11 12 hS ?_;refine cX 13 λKK hK=>?_
 let⟨s5,c7,fz,bv⟩:=ae GA v1 qW
 have fz7:=fz (k*8+7);have bv':=ag bv;clear bv;go_simp
 let⟨N2,F2⟩:=gq.put (Xs.fr (aO bv')) HK (j:=7) af (.S pl nl cl) (IM id nd) (λw' P V H U h1 h2 h3 h4 hf=>⟨P,V,H,.S pl nl cl,rfl,h1,h2,h3,OL.fr hf⟩)
 rw[<-ae E1]at N2
 let⟨Z,hZ⟩:=aB (v1.setCell (Ad gn (k*8+7)) (.S pl nl cl))
 have BZ:Below B w Z:=by rw[hZ];exact(rI.trans (bv'.mono (aI rI.size))).setCell (p:=(Ad gn _)) Oq _
 have sZ:Z.cell? (Ad w.heap.size 5)=some (.T gn m d):=by rw[hZ];exact(aF (ga _ _ _ _ ZW) _).trans s5
 rw[<-hZ]at N2 F2⊢;have RZ:=ag (ai N2 (ai F2 BZ));have zv:=bv'.size;have zZ:w.heap.size+2<=Z.heap.size:=aI F2.1;refine fh hK (by exact sZ) λhS=>?_;clear hK KK hZ N2 F2 BZ sZ s5 c7 fz fz7;refine cY ?_;clear hS;go_wp2;go_roundw;exact⟨k+1,af,by go_num,zZ,RZ.1,(hSk.fr (aO (ae bv'))).fr RZ.2.1,⟨(Nk.1.below (ae bv')).fr RZ.2.1,(Nk.2.below (ae bv')).fr RZ.2.1⟩,(KY.trans (Fr.below (ae bv'))).trans (RZ.2.1.sub al),RZ.2.2⟩;exact cg};{
 have bL:=dB k m;have Ow:=ae Xs;rw[au8 _ (by rw[ae em];omega)]at Ow;have HN1:=ag Ow;clear Ow
 let⟨DF,eF⟩:=bG (dI id m 0 ⟨e,g,x,t,ss,ns.map (IM id)⟩)
 have eD2:Hid (D={DF with ss:=Ys id DF.ss}):=by show _=_;rw[<-ae eD];unfold jA;simp only[ae em];rw[ae eF]
 go_wp2
 go_loopw[6](λkv wr=>∃(k mk dk:Nat)(qk:OA)(Ue:List aQ)(nsk:List aD)(Qk:List Value),k<=mk/\mk<=m/\kv=.I k/\w.heap.size+2<=wr.heap.size/\Le Ue n/\Le nsk mk/\Hid (NB nsk)/\Hid (dI id (mk-k) k ⟨e,g,x,t,Ue,nsk⟩=DF)/\Hid (AI B wr (.S qk mk dk) nsk)/\Hid (kq B wr (.S p n c) Ue Qk)/\Hid (BX wr w.heap.size [.U e,.U g,.U x,.I t,.S p n c,.S qk mk dk]/\BX wr (w.heap.size+1) [.U 0,.U 0,.U 0,.I 0,aq,aq])/\Hid (Fr [189,132,133] w wr)/\Hid (Below B w wr)) (λkv wr=>an1 w.heap.size wr-(intOf kv).toNat)
 exact⟨0,m,d,q,ss,_,Qs,gr _,iD _,rfl,zr,en,ag (by rw[fN];exact ae em),ag (hNB.map id),eF,HN1,hSk,Nk,KY,rI⟩;{
 clear Xs hSk Nk KY rI HN1 s5 zr hk bf bL;obtain⟨k,mk,dk,qk,Ue,nsk,Qk,hk,hmk,rfl,zr,ens,enk,bO4,eK,Xs,hSk,Nk,KY,rI⟩:=hrel;have hlen:=ag (Hd Nk.1)
 let⟨k0,k1,k2,k3,k4,k5,kf⟩:=Nk.1.cells
 by_cases bf:k<mk;{
 have bL:=aU k mk;obtain⟨nd,bu⟩:∃nd,nsk[k]?=some nd:=⟨_,aY (by rw[ae enk];exact bf)⟩;have hb:=ae bO4 nd (aT bu)
 let⟨JS,ns1,lr,hd,l1,l2,mT,ho1,bh8⟩:=Sd (e:=e) (g:=g) (x:=x) (t:=t) (ss:=Ue) bu id
 have Vy:=ae eK;rw[DP bf hd mT]at Vy;obtain⟨gn,-,-,-,-,rfl,-,-,-⟩:=gq.at Xs bu;have aG:=hb.1;have aK:=hb.2.1;have br:=hb.2.2;have HD:=ag (Sc (e:=e) (g:=g) (x:=x) (t:=t) (p:=p) (n:=n) (c:=c) (q:=some (Ad gn 0)) (m:=mk) (d:=dk) (ss:=Ue) (Qs:=Qk) (ns:=nsk) ens (k:=k) (id:=id) (nd:=nd) (ag bu) (B:=B) (w:=wr) hSk Xs af hn af aG aK br);rw[hd]at HD;have HX1:=ag (ai l1 (ai l2 (ai mT (ai (bh8 (ae bO4)) Vy))));go_wp2_with fail;refine HD.mono ?_;rintro r w1⟨rfl,⟨Q1,hS1⟩,Ow,YO,aG⟩
 let⟨l1,l2,mT,bh8,Vy⟩:=ae HX1
 have dW5:=ag hS1;have dX4:=ag Ow;obtain⟨gn',-,-,-,-,eg,-,-,-,-,c2,-⟩:=gq.at Ow mT;obtain⟨rfl,-⟩:=yz eg;have AR:=ag (ai (Nk.1.fr YO) (Nk.2.fr YO));have F1:=ag (KY.trans YO);have B1:=ag (rI.trans aG);have z1:w.heap.size+2<=w1.heap.size:=aI YO.1;have ZW:¬w.heap.size=gn:=λe=>by
  obtain⟨-,cur,h1⟩:=Nk.1
  let⟨aQ0,h2⟩:=Xs.typ gn rfl
  rw[e,h2]at h1;simp at h1
 have dT0:¬gn=w.heap.size:=λe=>ZW e.symm
 let⟨X,hX⟩:=aB (dG w1 w.heap.size (.U e) (.U g) (.U x) (.I t) (.S p n c) (.T gn mk dk))
 let⟨fX,bX,gX⟩:=AR.1.fin F1 B1 ay hB (.U e) (.U g) (.U x) (.I t) (.S p n c) (.T gn mk dk)
 have BXX:=ai (AR.1.put (.U e) (.U g) (.U x) (.I t) (.S p n c) (.T gn mk dk)) (AR.2.yv (b:=w.heap.size) af (.U e) (.U g) (.U x) (.I t) (.S p n c) (.T gn mk dk));have zX:X.heap.size=w1.heap.size:=by rw[hX];exact rU
 rw[<-hX]at fX bX gX BXX;have SX:=ag (hS1.fr gX);have NX:=ag (gq.fr Ow gX);have HXX:=ag (ai fX (ai bX BXX));unfold dG at hX
 let⟨k0,k1,k2,k3,k4,k5,kf⟩:=AR.1.cells
 have HX2:=ag (ai l1 (ai l2 bh8));have HK1:=ag mT;have EK2:=ag Vy;by_cases how:lr.owner=id;{
 have hee:(lr.owner==id)=true:=by simp[how]
 have eK3:=ae EK2;rw[bO how,Fz (ae HK1),Tf]at eK3;have EK3:=ag eK3;have hb:=HX2.2.2 lr (aT (ae HK1));have HT:=ag (yO e g x t (p:=p) (n:=n) (c:=c) (q:=some (Ad gn 0)) (m:=mk) (d:=dk) (ss:=JS) (Qs:=Q1) (ns:=ns1) (ag (HX2.1.trans ens)) (k:=k) 2 lr HK1 B X SX NX af hn af hb.1 hb.2.1);go_wp2_with fail;rw[<-hX];refine HT.mono ?_;rintro r w2⟨rfl,⟨Q2,IJ⟩,DG,Xq,aK⟩;have BX2:=ag (ai (HXX.2.2.1.fr Xq) (HXX.2.2.2.fr Xq));have F2:=ag (HXX.1.trans Xq);have B2:=ag (HXX.2.1.trans aK);have z2:w.heap.size+2<=w2.heap.size:=aI Xq.1
 let⟨Y,hY⟩:=aB (dG w2 w.heap.size (.U e) (.U g) (.U x) (.I t) (.S p n c) (.T gn mk dk))
 let⟨fY,bY,gY⟩:=BX2.1.fin F2 B2 ay hB (.U e) (.U g) (.U x) (.I t) (.S p n c) (.T gn mk dk)
 have BXY:=ai (BX2.1.put (.U e) (.U g) (.U x) (.I t) (.S p n c) (.T gn mk dk)) (BX2.2.yv (b:=w.heap.size) af (.U e) (.U g) (.U x) (.I t) (.S p n c) (.T gn mk dk));have zY:Y.heap.size=w2.heap.size:=by rw[hY];exact rU
 rw[<-hY]at fY bY gY BXY;have SY:=ag (IJ.fr gY);have NY:=ag (gq.fr DG gY);have HYY:=ag (ai fY (ai bY BXY));unfold dG at hY
 let⟨k0,k1,k2,k3,k4,k5,kf⟩:=BX2.1.cells
 have HR:=ag (Ge (e:=e) (g:=g) (x:=x) (t:=t) (p:=p) (n:=n) (c:=c) (q:=some (Ad gn 0)) (m:=mk) (d:=dk) (ag (by rw[pR];exact HX2.2.1.trans (ae enk))) (k:=k) (B:=B) (w:=Y) NY af);go_wp2_with fail;rw[<-hY];refine HR.mono ?_;rintro r w3⟨p3,c3,rfl,JA,br⟩;obtain⟨ns3,av6⟩:∃ns3,Hid ((ns1.set k {lr with watchers:=[]}).eraseIdx k=ns3):=⟨_,ag rfl⟩;have bf9:Hid (ns3.length=mk-1):=by show _=_;have h1:=HX2.2.1.trans enk;rw[<-ae av6,GK,pR,bO af];omega
 rw[ae av6,ae bf9]at JA;rw[ae av6,ae bf9];have EK4:=ae EK3;simp only[ae av6]at EK4;have BX3:=ag (ai (HYY.2.2.1.below br) (HYY.2.2.2.below br));have F3:=ag (HYY.1.trans (Fr.below br));have B3:=ag (HYY.2.1.trans (br.mono af));have z3:=br.size
 let⟨Z,hZ⟩:=aB (dG w3 w.heap.size (.U e) (.U g) (.U x) (.I t) (.S p n c) (.S p3 (mk-1) c3))
 let⟨fZ,bZ,gZ⟩:=BX3.1.fin F3 B3 ay hB (.U e) (.U g) (.U x) (.I t) (.S p n c) (.S p3 (mk-1) c3)
 have BXZ:=ai (BX3.1.put (.U e) (.U g) (.U x) (.I t) (.S p n c) (.S p3 (mk-1) c3)) (BX3.2.yv (b:=w.heap.size) af (.U e) (.U g) (.U x) (.I t) (.S p n c) (.S p3 (mk-1) c3));have zZ:Z.heap.size=w3.heap.size:=by rw[hZ];exact rU
 rw[<-hZ]at fZ bZ gZ BXZ;have SZ:=ag ((SY.fr (aO br)).fr gZ);have NZ:=ag ((gq.fr JA gZ).mono (by omega:B<=Y.heap.size));have HZZ:=ag (ai fZ (ai bZ BXZ));have ct9:=ag (Hd BXZ.1);have cz2:Hid (NB ns3):=by show NB _;rw[<-ae av6];have hb:=HX2.2.2 lr (aT (ae HK1));exact(NB.set (nd:={lr with watchers:=[]}) HX2.2.2 ⟨hb.1,gr _,hb.2.2⟩).erase k
 have EK5:=ag EK4;have cu1:Hid ((uz JS lr.watchers (2,lr.path)).length=n):=by show _=_;rw[vw];exact HX2.1.trans (ae ens)
 unfold dG at hZ
 let⟨k0,k1,k2,k3,k4,k5,kf⟩:=BX3.1.cells
 go_wp2;rw[<-hZ];go_roundw;exact⟨k,mk-1,c3,p3,_,ns3,Q2,af,af,rfl,af,cu1,bf9,cz2,EK5,NZ,SZ,ag HZZ.2.2,ag HZZ.1,ag HZZ.2.1⟩
 case measure=>(
 rw[ae ct9,ae hlen];simp[intOf];omega)}
 {
 have hee:(lr.owner==id)=false:=by simp[how]
 have eK3:=ae EK2;rw[bH how]at eK3;have EK3:=ag eK3;have cu0:=ag (Hd HXX.2.2.1);go_wp2;rw[<-hX];go_roundw;exact⟨k+1,mk,dk,_,JS,ns1,Q1,af,af,by go_num,af,ag (HX2.1.trans ens),ag (HX2.2.1.trans enk),ag (HX2.2.2),EK3,NX,SX,ag HXX.2.2,ag HXX.1,ag HXX.2.1⟩
 case measure=>(
 rw[ae cu0,ae hlen];simp[intOf];omega)}}
 {
 have bL:=dB k mk;have Vy:=ae eK;rw[show mk-k=0 by omega,dI]at Vy;have eD3:Hid (D=⟨e,g,x,t,Ys id Ue,nsk⟩):=by show _=_;rw[ae eD2,<-Vy]
 obtain⟨W5,eW5⟩:∃W5,Hid (W5=wr):=⟨_,ag rfl⟩;obtain⟨wz,ewz⟩:∃wz,Hid (wz=W5.heap.size):=⟨_,ag rfl⟩;have H5:=ai (ae hSk) (ai (ae Xs) (ai (ae Nk) (ai (ae KY) (ae rI))));have z5:=zr;rw[<-ae eW5]at H5 z5;rw[<-ae ewz]at z5;have G5:=ag H5;go_wp2
 go_loopw[7,8](λlv iv w9=>∃(j nl cl:Nat)(pl:OA)(L:List (aQ×Value)),j<=n/\iv=.I j/\lv=.S pl nl cl/\wz<=w9.heap.size/\Le L nl/\Hid ((((Ue.zip Qk).take j).filter λz=>!(z.1.1==id))=L)/\Hid (RT tO 132 3 wz w9 (.S pl nl cl) L)/\Hid (Below wz W5 w9)) (λ_ iv _=>n-(intOf iv).toNat)
 exact⟨0,0,0,none,[],gr _,rfl,rfl,by rw[ae ewz,ae eW5];exact iD _,ag rfl,ag al,RT.nil _ _ _ _ _,(by show Below _ _ _;rw[ae eW5];exact cQ _ _)⟩;{
 obtain⟨j,nl,cl,pl,L,hj,rfl,rfl,z9,lK,hL,hR,DE⟩:=hrel;have fT:Bw W5 wr:=by have:=ae DE;rwa [ae ewz]at this
 have H9:=ag (ai (G5.1.fr (aO fT)) (ai (G5.2.1.fr (aO fT)) (ai (G5.2.2.1.1.below fT) (G5.2.2.1.2.below fT))));have HF9:=ag (ai (G5.2.2.2.1.trans (Fr.below fT)) (G5.2.2.2.2.trans (fT.mono (aI G5.2.2.2.2.size))))
 let⟨k0,k1,k2,k3,k4,k5,kf⟩:=H9.2.2.1.cells
 by_cases bf:j<n;{
 have bL:=aU j n;obtain⟨s,hs⟩:∃s,Ue[j]?=some s:=⟨_,aY (by rw[ae ens];exact bf)⟩;obtain⟨gs,Q,rfl,-,-,hQ,c0,c1,c2,sq,-⟩:=kq.at H9.1 hs;obtain⟨pq,cq,rfl,-⟩:=sq.form;have hz:(Ue.zip Qk)[j]?=some (s,.S pq s.2.2.length cq):=by rw[Kn];exact⟨hs,hQ⟩
 have db:=au9 hz (λs=>!(s.1==id));rw[ae hL]at db;have qV:=ag db;have Rp:nl<4194304:=by have h1:=QD (λz:aQ×Value=>!(z.1.1==id)) ((Ue.zip Qk).take j);have h2:=GM j (Ue.zip Qk);rw[ae hL,ae lK]at h1;omega
 by_cases he:s.1=id;{
 have E1:Hid ((((Ue.zip Qk).take (j+1)).filter λz=>!(z.1.1==id))=L):=by have:=ae qV;show _=_;simpa[he]using this
 have hee:(s.1 != id)=false:=by simp[he]
 go_wp2;go_roundw;exact⟨j+1,nl,cl,pl,L,af,by go_num,rfl,z9,lK,E1,hR,DE⟩;exact cg};{
 have E1:Hid ((((Ue.zip Qk).take (j+1)).filter λz=>!(z.1.1==id))=L++[(s,.S pq s.2.2.length cq)]):=by have:=ae qV;show _=_;simpa[he]using this
 have hee:(s.1 != id)=true:=by simp[he]
 obtain⟨v3,jO,b3,z3,C3,-⟩:=au wr #[.U s.1,.I s.2.1,.S pq s.2.2.length cq] 132;have R3:=ag (RT.fr hR (aO b3) bj (λ_ _ h=>h));have B3:=ag b3;have HC3:=ag C3;have ZR:=ag λb e=>(hR.lt b e).1;go_wp2_with(at_builtin;rw[<-jO];refine rJ rfl rfl (B:=wz) (v:=.S pl nl cl) (zs:=L) (z:=(s,.S pq s.2.2.length cq)) (k:=nl) lK rfl (ae R3) wr.heap.size rfl rfl HC3.1 Rp af ?_);intro p' c' w' o2 gI _;rw[<-jO]at gI;have b4:=ag ((DE.trans (B3.mono af)).grown gI af ZR);have O2:=ag o2;have z4:=b4.size;go_wp2;go_roundw;exact⟨j+1,nl+1,c',p',_,af,by go_num,rfl,aI (ae ewz),ag (by rw[gU,ae lK];rfl),E1,O2,b4⟩;exact cg}};{
 have bL:=dB j n;have hL':=ae hL;rw[lD (by rw[QC,ae ens];omega)]at hL'
 let⟨q0,q1,q2,q3,q4,q5,qf⟩:=H9.2.2.2.cells
 have SF:=kq.filter (v':=.S pl nl cl) H9.1 (λs=>!(s.1==id)) (by rw[hL'];exact RT.mono (ae hR) af);have lF:(Ys id Ue).length=nl:=by have:=SF.len;rw[hL',fN,ae lK]at this;exact this.symm
 have HSF:=ag SF;have HLF:=ag lF;go_wp2;rw[ae eD3];simp only[ae HLF,ae enk]
 let⟨fA,bA,gA⟩:=H9.2.2.1.bQ8 (j:=4) HF9.1 HF9.2 ay hB (.S pl nl cl)
 let⟨fB,bB,gB⟩:=(H9.2.2.2.FQ (b:=w.heap.size) (j:=4) (u:=.S pl nl cl) af).fin fA bA (Qz _) hB (.U e) (.U g) (.U x) (.I t) (.S pl nl cl) (.S qk mk dk)
 refine dJ (v:=dZ e g x t (.S pl nl cl) (.S qk mk dk)) (by simp[results,results189,go_sem,q0,q1,q2,q3,q4,q5]) rfl ?_;exact⟨pl,cl,qk,dk,rfl,⟨_,(HSF.fr gA).fr gB⟩,(H9.2.1.fr gA).fr gB,fB,bB⟩}}}}}}
abbrev yC(k i e g n:Int)(D N E:Value):Value:=.agg #[.I k,.U i,.U e,.U g,.I n,D,N,E]
abbrev aS:Value:=aq
def RX(w:World)(b:Nat)(vs:List Value):Prop:=ar w b vs/\∃cur,w.heap[b]?=some (.cells cur 127)
def RX.fr{T:List TypeId}(h:RX w b vs)(hf:Fr T w w')(ht:127∉T:=by decide):RX w' b vs:=by
 obtain⟨h1,cur,h2⟩:=h;have h3:=hf.2 _ _ _ _ ht h2;exact⟨h1.de (h3.trans h2.symm),cur,h3⟩
def RX.below(h:RX w b vs)(hb:Bw w w'):RX w' b vs:=h.fr (aO hb) (by simp)
def lu(w:World)(b:Nat)(v0 v1 v2 v3 v4 v5 v6 v7:Value):World:=((dG w b v0 v1 v2 v3 v4 v5).setCell (Ad b 6) v6).setCell (Ad b 7) v7
def dm:Below b w (lu w b v0 v1 v2 v3 v4 v5 v6 v7):=((dr (w:=w) b v0 v1 v2 v3 v4 v5).setCell (p:=(Ad b 6)) ay _).setCell (p:=(Ad b 7)) ay _
def RX.put{o6 o7:Value}(h:RX w b [o0,o1,o2,o3,o4,o5,o6,o7])(v0 v1 v2 v3 v4 v5 v6 v7:Value):RX (lu w b v0 v1 v2 v3 v4 v5 v6 v7) b [v0,v1,v2,v3,v4,v5,v6,v7]/\Fr [127] w (lu w b v0 v1 v2 v3 v4 v5 v6 v7):=by
 obtain⟨hc,cur,ht⟩:=h;have t6:=Gi ⟨cur,ht⟩ (v0:=v0) (v1:=v1) (v2:=v2) (v3:=v3) (v4:=v4) (v5:=v5);have a6:=dy (j:=6) (u:=v6) t6;have a7:=dy (j:=7) (u:=v7) a6.1;exact⟨⟨(((((((hc.dH 0 al v0).dH 1 al v1).dH 2 al v2).dH 3 al v3).dH 4 al v4).dH 5 al v5).dH 6 al v6).dH 7 al v7,a7.1⟩,((ju ht).trans a6.2).trans a7.2⟩
def RX.cells(h:RX w b [v0,v1,v2,v3,v4,v5,v6,v7]):w.cell? (Ad b 0)=some v0/\w.cell? (Ad b 1)=some v1/\w.cell? (Ad b 2)=some v2/\w.cell? (Ad b 3)=some v3/\w.cell? (Ad b 4)=some v4/\w.cell? (Ad b 5)=some v5/\w.cell? (Ad b 6)=some v6/\w.cell? (Ad b 7)=some v7/\∀o,w.frozen? (Ad b o)=false:=
 ⟨h.1.1 0 _ rfl,h.1.1 1 _ rfl,h.1.1 2 _ rfl,h.1.1 3 _ rfl,h.1.1 4 _ rfl,h.1.1 5 _ rfl,h.1.1 6 _ rfl,h.1.1 7 _ rfl,h.1.2⟩
def rE(w:World)(v0 v1 v2 v3 v4 v5 v6 v7:Value):∃W,W=w.alloc (.cells #[v0,v1,v2,v3,v4,v5,v6,v7] 127)/\Bw w W/\W.heap.size=w.heap.size+1/\RX W w.heap.size [v0,v1,v2,v3,v4,v5,v6,v7]:=by
 let⟨W,h1,h2,h3,h4,h5⟩:=au w #[v0,v1,v2,v3,v4,v5,v6,v7] 127
 exact⟨W,h1,h2,h3,h4,_,h5⟩
def Hg{k:Int}:Calls prog 143 #[.I k] w (Rb (yC k 0 0 0 0 aS aS aS) w):=by
 go_in
 go_wp2;exact dJ (v:=yC k 0 0 0 0 aS aS aS) (by simp[results,results143,go_sem]) rfl ⟨rfl,aA.alloc ay _⟩
abbrev PT(t1 t2 t3 d1 d2:Nat)(ps:String)(k:Int):Array Oper:=#[{dst:=some d1,op:=Op.load 41 (Operand.tmp t1),type:=41,pos:=ps,after:=#[],guard:=none},
 {dst:=some d2,op:=Op.call {callee:=Callee.value (Operand.func 143),args:=#[Operand.const (Value.int IntKind.i64 k)],argTypes:=#[3]},type:=127,pos:=ps,after:=#[],guard:=none},
 {dst:=none,op:=Op.store 41 (Operand.tmp t2) (Operand.tmp d1),type:=0,pos:=ps,after:=#[{on:=0,ground:=Ground.data},{on:=1,ground:=Ground.chain},{on:=0,ground:=Ground.phase},{on:=1,ground:=Ground.textOnly Departure.lateStoresUnsure}],guard:=none},
 {dst:=none,op:=Op.store 127 (Operand.tmp t3) (Operand.tmp d2),type:=0,pos:=ps,after:=#[{on:=1,ground:=Ground.data},{on:=2,ground:=Ground.chain},{on:=0,ground:=Ground.phase},{on:=1,ground:=Ground.phase},{on:=2,ground:=Ground.phase}],guard:=none}]
def Gd(t1:Nat){d1 d2:Nat}{k:Int}{Q:Exit->Act->World->Prop}(b0:Nat){n c:Nat} (hf:Region.free .any (PT t1 t2 t3 d1 d2 ps k) (Array.replicate 4 false) 0=true)(e1:a.tmps[t1]?.getD undef=.pointer (some (Ad b0 0)))(e2:∀v u,((a.put (some d1) v).put (some d2) u).tmps[t2]?.getD undef=.pointer (some (Ad b1 0)))(e3:∀v u,((a.put (some d1) v).put (some d2) u).tmps[d1]?.getD undef=v)(e4:∀v u,((a.put (some d1) v).put (some d2) u).tmps[t3]?.getD undef=.pointer (some (Ad b2 0)))(e5:∀v u,((a.put (some d1) v).put (some d2) u).tmps[d2]?.getD undef=u)(h0:BX w b0 [.U e,.U g,.U x,.I t,.S p n c,.S q m d])(h1:BX w b1 [o0,o1,o2,o3,o4,o5])(h2:RX w b2 [r0,r1,r2,r3,r4,r5,r6,r7])(bS:b0≠b1)(Cl:B<=b1)(jg:B<=b2)(h:∀w',BX w' b1 [.U e,.U g,.U x,.I t,.S p n c,.S q m d]->RX w' b2 [.I k,.U 0,.U 0,.U 0,.I 0,aS,aS,aS]->Fr [41,127] w w'->Below B w w'->Q .normal ((a.put (some d1) (dZ e g x t (.S p n c) (.S q m d))).put (some d2) (yC k 0 0 0 0 aS aS aS)) w'):Code.wp prog (Code.region i (PT t1 t2 t3 d1 d2 ps k) true) Q a w:=by
 unfold PT at hf⊢;refine Qw ?_;have gL:Bw w w.drew:=aA.drew;have H0:=ag (ai (h0.below gL) (ai (h1.below gL) (h2.below gL)));refine WI (S:=λw'=>BX w' b0 [.U e,.U g,.U x,.I t,.S p n c,.S q m d]) bg H0.1 (λhS=>?_)
 let⟨vA,je⟩:=aB w.drew
 rw[<-je]at hS H0 gL⊢;clear je;refine xh (i:=0) (oi:=_) (v:=dZ e g x t (.S p n c) (.S q m d)) (by simp only[xU,BK];rfl) bg hf bg (λ_ _ _ h=>h) (Or.inl ⟨rfl,?_⟩) hS ?_;{
 intro w' hw
 let⟨k0,k1,k2,k3,k4,k5,kf⟩:=hw.cells
 go_simp};refine cX 1 λKK hK=>?_;refine iw (Hg) ?_;rintro r v1⟨rfl,aG⟩;refine⟨_,rfl,?_⟩;refine hK.out _ _ (hS.below aG) (λhS=>?_);clear hK KK;have H1:=ag (ai (H0.2.1.below aG) (H0.2.2.below aG));have B1:=ag (aj gL aG);clear H0 gL aG
 let⟨a2,Aq⟩:=aB ((a.put (some d1) (dZ e g x t (.S p n c) (.S q m d))).put (some d2) (yC k 0 0 0 0 aS aS aS))
 refine cX 2 λKK hK=>?_;have e2':=e2 (dZ e g x t (.S p n c) (.S q m d)) (yC k 0 0 0 0 aS aS aS);have e3':=e3 (dZ e g x t (.S p n c) (.S q m d)) (yC k 0 0 0 0 aS aS aS);have e4':=e4 (dZ e g x t (.S p n c) (.S q m d)) (yC k 0 0 0 0 aS aS aS);have e5':=e5 (dZ e g x t (.S p n c) (.S q m d)) (yC k 0 0 0 0 aS aS aS);have H2:=h;rw[<-Aq]at e2' e3' e4' e5'⊢;rw[show(a.put (some d1) (dZ e g x t (.S p n c) (.S q m d))).put (some d2) (yC k 0 0 0 0 aS aS aS)=a2 from Aq.symm]at H2;clear e1 e2 e3 e4 e5 h Aq
 let⟨k0,k1,k2,k3,k4,k5,kf⟩:=H1.1.cells
 go_simp
 let⟨X,hX⟩:=aB (dG v1 b1 (.U e) (.U g) (.U x) (.I t) (.S p n c) (.S q m d))
 have bX:Below b1 v1 X:=hX▸dr _ _ _ _ _ _ _;have AR:BX X b1 [.U e,.U g,.U x,.I t,.S p n c,.S q m d]:=hX▸H1.1.put _ _ _ _ _ _;have BX0:BX X b0 [.U e,.U g,.U x,.I t,.S p n c,.S q m d]:=hX▸hS.yv bS _ _ _ _ _ _;have fX:Fr [41] v1 X:=by obtain⟨-,cur,ht⟩:=H1.1;rw[hX];exact ju ht
 have RX1:=H1.2.fr fX;unfold dG at hX;rw[<-hX];refine hK.out _ _ BX0 (λhS=>?_);clear hK KK hX BX0 k0 k1 k2 k3 k4 k5 kf;refine cX 3 λKK hK=>?_
 let⟨k0,k1,k2,k3,k4,k5,k6,k7,kf⟩:=RX1.cells
 go_simp
 let⟨RXY,fY⟩:=RX1.put (.I k) (.U 0) (.U 0) (.U 0) (.I 0) aS aS aS
 have bY:=dm (w:=X) (b:=b2) (v0:=.I k) (v1:=.U 0) (v2:=.U 0) (v3:=.U 0) (v4:=.I 0) (v5:=aS) (v6:=aS) (v7:=aS)
 let⟨Y,hY⟩:=aB (lu X b2 (.I k) (.U 0) (.U 0) (.U 0) (.I 0) aS aS aS)
 rw[<-hY]at RXY fY bY;unfold lu dG at hY;rw[<-hY];refine hK.out _ _ (hS.fr fY) (λhS=>?_);clear hK KK hY;refine cY ?_;exact H2 Y (AR.fr fY) RXY ((Fr.below (ae B1)).trans ((fX.sub al).trans (fY.sub al))) ((B1.mono (aI h1.lt)).trans ((bX.mono Cl).trans (bY.mono jg)))
structure RP where
 k:Int
 i:Int
 e:Int
 g:Int
 n:Int
 Oy:LI
 nms:List LI
 Np:List Ev
def rH:RP:=⟨0,0,0,0,0,[],[],[]⟩
def AV(k:Int):RP:=⟨k,0,0,0,0,[],[],[]⟩
def pL(D:SD):SD×RP:=if 50<=D.ss.length then(D,AV 11)else if 4611686018427387904<=D.x then(D,AV 12)else({D with x:=D.x+1,ss:=D.ss++[(D.x+1,D.t+10,[])]},{rH with i:=D.x+1,n:=D.t+10})
def bS0(w:World)(l:LI)(c:List Value):Prop:=∃P,c=[P]/\TB w P l
abbrev TN(B:Nat)(w:World)(v:Value)(l:List LI):Prop:=RT bS0 22 1 B w v l
def QR(B:Nat)(w w':World)(r:Ending)(D:SD)(R:RP):Prop:=∃p c q d Dv Nv Ev Qs,r=.returned (.tuple #[dZ D.e D.g D.x D.t (.S p D.ss.length c) (.S q D.ns.length d),yC R.k R.i R.e R.g R.n Dv Nv Ev])/\kq B w' (.S p D.ss.length c) D.ss Qs/\AI B w' (.S q D.ns.length d) D.ns/\TB w' Dv R.Oy/\TN B w' Nv R.nms/\Ll B w' Ev R.Np/\Fr [189,132,133] w w'/\Below B w w'
def Fr.low{T:List TypeId}(h:Fr T w w1)(hb:Below w.heap.size w1 w'):Fr T w w':=⟨fu h.1 hb.size,λb cur ty m ht hc=>(hb.block b (iW hc)).trans (h.2 b cur ty m ht hc)⟩
def QR.num{n c m d:Nat}(en:Le ss n)(em:Le ns m)(hS:kq B w1 (.S p n c) ss Qs)(hN:AI B w1 (.S q m d) ns)(hF:Fr [189,132,133] w w1)(hB:Below B w w1)(f:Fr [41,127] w1 w')(b:Below w.heap.size w1 w')(hle:B<=w.heap.size)(k i a h s:Int):QR B w w' (.returned (.tuple #[dZ e g x t (.S p n c) (.S q m d),yC k i a h s aS aS aS])) ⟨e,g,x,t,ss,ns⟩ ⟨k,i,a,h,s,[],[],[]⟩:=by
 refine⟨p,c,q,d,aS,aS,aS,Qs,by simp only[ae en,ae em],?_,?_,TB.nil _,RT.nil _ _ _ _ _,RT.nil _ _ _ _ _,hF.low b,hB.trans (b.mono hle)⟩;{simp only[ae en];exact hS.fr f};{simp only[ae em];exact gq.fr hN f}
def kq.bC5(h:kq B w v ss Qs)(hf:Fr [132] w w')(I J:Int)(hr:RT tO 132 3 B w' v' (ss.zip Qs++[((I,J,[]),aS)])):kq B w' v' (ss++[(I,J,[])]) (Qs++[aS]):=by
 have hl:=h.len;refine⟨by simp[hl],by rw[List.zip_append hl.symm];exact hr,λi s Q hs hq=>?_,λi j Q Q' b ld hq um hb=>?_⟩;{
 by_cases hi:i<ss.length;{rw[kR hi]at hs;rw[kR af]at hq;exact(h.Yk i s Q hs hq).fr hf};{
 have ei:i=ss.length:=by have:=(aV.1 hs).1;simp at this;omega
 subst ei;rw[nF ay,BQ]at hs;rw[nF af,hl,BQ]at hq;simp at hs hq;subst hs hq;exact RT.nil _ _ _ _ _}};{
 by_cases hi:i<Qs.length;{
 rw[kR hi]at hq;by_cases hj:j<Qs.length;{rw[kR hj]at um;exact h.yv i j Q Q' b ld hq um hb};{
 rw[nF af]at um;have e:j-Qs.length=0:=by have:=(aV.1 um).1;simp at this;omega
 rw[e]at um;simp at um;subst um;simp[Value.ownBlock]}};{
 rw[nF af]at hq;have e:i-Qs.length=0:=by have:=(aV.1 hq).1;simp at this;omega
 rw[e]at hq;simp at hq;subst hq;simp[Value.ownBlock]at hb}}
def cr3{tm:Array Value}(hr:fn.results=#[.cell t2 41,.cell t3 127])(e2:tm[t2]?.getD undef=.pointer (some (Ad b1 0)))(e3:tm[t3]?.getD undef=.pointer (some (Ad b2 0)))(h1:BX w b1 [v0,v1,v2,v3,v4,v5])(h2:RX w b2 [r0,r1,r2,r3,r4,r5,r6,r7]):(results fn tm).run prog w=.ok (.tuple #[.agg #[v0,v1,v2,v3,v4,v5],.agg #[r0,r1,r2,r3,r4,r5,r6,r7]]) w:=by
 let⟨q0,q1,q2,q3,q4,q5,qf⟩:=h1.cells
 let⟨s0,s1,s2,s3,s4,s5,s6,s7,sf⟩:=h2.cells
 simp[results,hr,go_sem,e2,e3,q0,q1,q2,q3,q4,q5,s0,s1,s2,s3,s4,s5,s6,s7]
def rq(t1 t2 t3 d1 d2:Nat)(k:Int)(hrs:fn.results=#[.cell t2 41,.cell t3 127]){i:Nat}{ps:String}{Q:Exit->Act->World->Prop}{a:Act}{w0:World}{b0:Nat}{n c m d:Nat}{R:SD×RP}(h0:BX w b0 [.U e,.U g,.U x,.I t,.S p n c,.S q m d])(h1:BX w b1 [o0,o1,o2,o3,o4,o5])(h2:RX w b2 [r0,r1,r2,r3,r4,r5,r6,r7])(en:Le ss n)(em:Le ns m)(hS:kq B w (.S p n c) ss Qs)(hN:AI B w (.S q m d) ns)(hF:Fr [189,132,133] w0 w)(rI:Below B w0 w)(hB:B<=w0.heap.size)(E:Hid ((⟨e,g,x,t,ss,ns⟩,AV k)=R))(bS:b0≠b1:=by omega)(Cl:w0.heap.size<=b1:=by omega)(jg:w0.heap.size<=b2:=by omega)(hd:a.defers=[]:=by rfl)(hf:Region.free .any (PT t1 t2 t3 d1 d2 ps k) (Array.replicate 4 false) 0=true:=by kernel_rfl)(e1:a.tmps[t1]?.getD undef=.pointer (some (Ad b0 0)):=by rfl)(e2:∀v u,((a.put (some d1) v).put (some d2) u).tmps[t2]?.getD undef=.pointer (some (Ad b1 0)):=by exactλ_ _=>rfl)(e3:∀v u,((a.put (some d1) v).put (some d2) u).tmps[d1]?.getD undef=v:=by exactλ_ _=>rfl)(e4:∀v u,((a.put (some d1) v).put (some d2) u).tmps[t3]?.getD undef=.pointer (some (Ad b2 0)):=by exactλ_ _=>rfl)(e5:∀v u,((a.put (some d1) v).put (some d2) u).tmps[d2]?.getD undef=u:=by exactλ_ _=>rfl)(hQ:∀a' w',bodyPost prog fn (λr w'=>QR B w0 w' r R.1 R.2) .ret a' w'->Q .normal a' w':=by(intro _ _ h;go_wp2;exact h)):Code.wp prog (Code.region i (PT t1 t2 t3 d1 d2 ps k) true) Q a w:=by
 refine Gd t1 b0 hf e1 e2 e3 e4 e5 h0 h1 h2 bS Cl jg λw' q1 q2 f b=>hQ _ _ ?_;refine dJ (cr3 hrs (e2 _ _) (e4 _ _) q1 q2) hd ?_;rw[<-ae E];exact QR.num (e:=e) (g:=g) (x:=x) (t:=t) en em hS hN hF rI f b hB k 0 0 0 0
def WA{Q:Exit->Act->World->Prop}(i5 i6 t2 t3 d1 d2:Nat){ps':String}(KL:Region.ready md ops listed=[i5])(nO:Region.ready md ops (listed.setIfInBounds i5 true)=[i6])(KJ:Region.ready md ops ((listed.setIfInBounds i5 true).setIfInBounds i6 true)=[])(MW:ops[i5]?=some {dst:=none,op:=Op.store 41 (Operand.tmp t2) (Operand.tmp d1),type:=0,pos:=ps,after:=A5,guard:=none})(ho6:ops[i6]?=some {dst:=none,op:=Op.store 127 (Operand.tmp t3) (Operand.tmp d2),type:=0,pos:=ps',after:=A6,guard:=none})(b1 b2:Nat)(e g x t:Int)(p:OA)(n c:Nat)(q:OA)(m d:Nat)(k i h s z:Int)(dp:OA)(dn dc:Nat)(np:OA)(nn nc:Nat)(vp:OA)(vn vc:Nat) (e2:a.tmps[t2]?.getD undef=.pointer (some (Ad b1 0)))(e3:a.tmps[d1]?.getD undef=dZ e g x t (.S p n c) (.S q m d))(e4:a.tmps[t3]?.getD undef=.pointer (some (Ad b2 0)))(e5:a.tmps[d2]?.getD undef=yC k i h s z (.S dp dn dc) (.S np nn nc) (.S vp vn vc))(h1:BX w b1 [o0,o1,o2,o3,o4,o5])(h2:RX w b2 [r0,r1,r2,r3,r4,r5,r6,r7])(h12:b1<b2)(hSk:∀w',Below b1 w w'->Fr [41,127] w w'->S w')(hQ:∀w',BX w' b1 [.U e,.U g,.U x,.I t,.S p n c,.S q m d]->RX w' b2 [.I k,.U i,.U h,.U s,.I z,.S dp dn dc,.S np nn nc,.S vp vn vc]->Fr [41,127] w w'->Below b1 w w'->Q .normal a w'):wpAnyH prog md ops Q S 2 listed a w:=by
 refine wpAnyH_ready KL al ?_;refine AllReadyH.cons MW (λKK hK=>?_) eh
 let⟨k0,k1,k2,k3,k4,k5,kf⟩:=h1.cells
 go_simp
 let⟨X,hX⟩:=aB (dG w b1 (.U e) (.U g) (.U x) (.I t) (.S p n c) (.S q m d))
 have bX:Below b1 w X:=hX▸dr _ _ _ _ _ _ _;have AR:=h1.put (.U e) (.U g) (.U x) (.I t) (.S p n c) (.S q m d);have fX:Fr [41] w X:=by obtain⟨-,cur,ht⟩:=h1;rw[hX];exact ju ht
 rw[<-hX]at AR;have RX1:=h2.fr fX;unfold dG at hX;rw[<-hX];refine hK.out _ _ (hSk X bX (fX.sub al)) (λhS=>?_);clear hK KK hX k0 k1 k2 k3 k4 k5 kf;refine wpAnyH_ready nO al ?_;refine AllReadyH.cons ho6 (λKK hK=>?_) eh
 let⟨k0,k1,k2,k3,k4,k5,k6,k7,kf⟩:=RX1.cells
 go_simp
 let⟨RXY,fY⟩:=RX1.put (.I k) (.U i) (.U h) (.U s) (.I z) (.S dp dn dc) (.S np nn nc) (.S vp vn vc)
 have bY:=dm (w:=X) (b:=b2) (v0:=.I k) (v1:=.U i) (v2:=.U h) (v3:=.U s) (v4:=.I z) (v5:=.S dp dn dc) (v6:=.S np nn nc) (v7:=.S vp vn vc)
 let⟨Y,hY⟩:=aB (lu X b2 (.I k) (.U i) (.U h) (.U s) (.I z) (.S dp dn dc) (.S np nn nc) (.S vp vn vc))
 rw[<-hY]at RXY fY bY;unfold lu dG at hY;rw[<-hY];have bY':=bX.trans (bY.mono (WU h12));refine hK.out _ _ (hSk Y bY' ((fX.sub al).trans (fY.sub al))) (λhS=>?_);clear hK KK hY;refine wpAnyH_done KJ ?_ _;exact hQ Y (AR.fr fY) RXY ((fX.sub al).trans (fY.sub al)) bY'
def mV(nd:aD)(id:Int):Bool:=decide (nd.mode=0)||(decide (nd.holders.length=1)&&decide (nd.holders.headD 0=id))
def au2{P V H U:Value}{n c:Nat}(eH:Le nd.holders n){id:Int}(tH:Hid (oK w (.S p n c) nd.holders))(hP:P.oneCell'=true)(hV:V.oneCell'=true)(hU:U.oneCell'=true):Calls prog 228 #[.agg #[P,V,.U nd.owner,.I nd.mode,.S p n c,.U nd.aE,.U nd.gen,U],.U id] w (Rb (.bool (mV nd id)) w):=by
 go_in
 by_cases hm:nd.mode=0;{
 have hf:mV nd id=true:=by simp[mV,hm]
 rw[hf];have hm':(nd.mode==0)=true:=by simp[hm]
 go_wp2;go_ret;exact⟨rfl,aA.alloc ay _⟩};{
 have hm':(nd.mode==0)=false:=by simp[hm]
 by_cases hn:n=1;{
 obtain⟨x,hx⟩:∃x,nd.holders=[x]:=aV1.1 (by rw[ae eH,hn]);obtain⟨b,o,rfl,hc⟩:=tH.at (k:=0) (x:=x) (by rw[hx];rfl);rw[uP]at hc;have rA:=λob:Obj=>ah hc ((cQ _ w).alloc ay ob);have hf:Hid (mV nd id=decide (x=id)):=by show _=_;simp[mV,hm,hx]
 subst hn;have h1:((1:Int)==1)=true:=bj;by_cases hxi:x=id;{
 subst hxi;have h2:(x==x)=true:=al;go_wp2;go_ret;have Xq:mV nd x=true:=by rw[ae hf];simp
 exact⟨by rw[Xq];rfl,aA.alloc ay _⟩};{
 have h2:(x==id)=false:=by simpa using hxi
 go_wp2;go_ret;exact⟨by rw[ae hf,tW hxi];rfl,aA.alloc ay _⟩}};{
 have hf:Hid (mV nd id=false):=by show _=_;simp[mV,hm,ae eH,hn]
 have h1:((n:Int)==1)=false:=by simp;omega
 go_wp2;go_ret;exact⟨by rw[ae hf];rfl,aA.alloc ay _⟩}}
def sc(D:SD)(k:Nat)(s fl:Int):SD×RP:=match D.ns[k]? with
 |none=>(D,rH)
 |some nd=>if nd.holders.contains s then(D,AV 9)
  else if fl=2 then(if nd.mode=1 then(D,AV 9)else({D with ns:=D.ns.set k {nd with mode:=2,holders:=wG nd.holders s}},rH))
  else if nd.mode≠0 then(D,AV 9)else if 4611686018427387904<=D.g then(D,AV 12)
  else({D with g:=D.g+1,ns:=D.ns.set k {nd with mode:=1,holders:=[s],aE:=D.e,gen:=D.g+1}},{rH with e:=D.e,g:=D.g+1})
abbrev IE(K S:Int)(P:Value)(F:Int)(V:Value)(E G:Int):Value:=.agg #[.I K,.U S,P,.I F,V,.U E,.U G]
def BX.de(h:BX w b vs)(hk:w'.heap[b]?=w.heap[b]?):BX w' b vs:=⟨h.1.de hk,h.2.imp λcur hc=>hk.trans hc⟩
def RX.de(h:RX w b vs)(hk:w'.heap[b]?=w.heap[b]?):RX w' b vs:=⟨h.1.de hk,h.2.imp λcur hc=>hk.trans hc⟩
def LB(w:World)(b:Nat)(st op rs rp qw:List Value):Prop:=BX w b st/\ar w (b+1) op/\BX w (b+1+1) rs/\RX w (b+1+1+1) rp/\ar w (b+1+1+1+1) qw
def LB.keep{st op rs rp qw:List Value}(h:LB w' b st op rs rp qw)(hk:∀j,b<=j->j<b+5->w''.heap[j]?=w'.heap[j]?):LB w'' b st op rs rp qw:=
 ⟨h.1.de (hk _ af af),h.2.1.de (hk _ af af),h.2.2.1.de (hk _ af af),h.2.2.2.1.de (hk _ af af),h.2.2.2.2.de (hk _ af af)⟩
def LB.am4{s0 s1 s2 s3 s4 s5 n0 n1 n2 n3 n4:Value}{os rs rp nr:List Value}(h:LB w b [s0,s1,s2,s3,s4,s5] (o0::o1::os) rs rp (n0::n1::n2::n3::n4::nr)):w.cell? (Ad b 5)=some s5/\w.cell? (Ad (b+1) 1)=some o1/\w.cell? (Ad (b+1+1+1+1) 4)=some n4:=⟨h.1.1.1 5 _ rfl,h.2.1.1 1 _ rfl,h.2.2.2.2.1 4 _ rfl⟩
def LB.bF9{st op rs rp qw:List Value}(h:LB w' b st op rs rp qw)(hk:∀j,b<j->j<b+5->w''.heap[j]?=w'.heap[j]?):ar w'' (b+1) op/\BX w'' (b+1+1) rs/\RX w'' (b+1+1+1) rp/\ar w'' (b+1+1+1+1) qw:=
 ⟨h.2.1.de (hk _ af af),h.2.2.1.de (hk _ af af),h.2.2.2.1.de (hk _ af af),h.2.2.2.2.de (hk _ af af)⟩
def BX.six(h:BX w b [v0,v1,v2,v3,v4,v5]):w.cell? (Ad b 0)=some v0/\w.cell? (Ad b 1)=some v1/\w.cell? (Ad b 2)=some v2/\w.cell? (Ad b 3)=some v3/\w.cell? (Ad b 4)=some v4/\w.cell? (Ad b 5)=some v5:=⟨h.1.1 0 _ rfl,h.1.1 1 _ rfl,h.1.1 2 _ rfl,h.1.1 3 _ rfl,h.1.1 4 _ rfl,h.1.1 5 _ rfl⟩
def am3{n c:Nat}(en:Le ss n)(em:Le ns m)(hk:Hid (ns[k]?=some nd)){K S F E G:Int}{vp:OA}{nv cv:Nat}(hS:Hid (kq B w (.S p n c) ss Qs))(hN:Hid (AI B w (.S q m d) ns))(hB:B<=w.heap.size)(hm:Mg m)(hh:nd.holders.length<=1048576)(hg:0<=g/\g<=2^62){R:SD×RP}(eR:Hid (sc ⟨e,g,x,t,ss,ns⟩ k S F=R)):Calls prog 229 #[dZ e g x t (.S p n c) (.S q m d),.I k,IE K S (.S pp np cp) F (.S vp nv cv) E G] w λr w'=>QR B w w' r R.1 R.2:=by
 obtain⟨gn,Pv,Vv,Hv,Uv,rfl,-,-,c0,c1,c2,c3,c4,c5,c6,c7,tP,tV,tH,tU,cfz⟩:=gq.at hN hk;have hkm:k<m:=by rw[<-ae em];exact(aV.1 (ae hk)).1
 have bi2:=aU k m;obtain⟨pP,cP,rfl⟩:=tP.gF;obtain⟨pV,cV,rfl⟩:=tV.gF;obtain⟨pH,cH,rfl⟩:=tH.gF;obtain⟨pU,cU,rfl⟩:=tU.gF
 let⟨nP,hnP⟩:=aB nd.path.length
 let⟨nV,hnV⟩:=aB nd.value.length
 let⟨nU,hnU⟩:=aB nd.watchers.length
 let⟨nh,eH⟩:=bG nd.holders.length
 rw[<-hnP]at c0;rw[<-hnV]at c1;rw[<-hnU]at c7;rw[ae eH]at hh tH c4;clear hnP hnV hnU tP tV tU;obtain⟨ow,mo,ep,ge,bu⟩:∃ow mo ep ge,Hid (nd.owner=ow/\nd.mode=mo/\nd.aE=ep/\nd.gen=ge):=⟨_,_,_,_,ag ⟨rfl,rfl,rfl,rfl⟩⟩
 rw[bu.1]at c2;rw[bu.2.1]at c3;rw[bu.2.2.1]at c5;rw[bu.2.2.2]at c6;have ZW:gn<w.heap.size:=(hN.lt gn rfl).2;have Oq:=(hN.lt gn rfl).1
 let⟨W0,fL,b0,z0,C0⟩:=jB w (.U e) (.U g) (.U x) (.I t) (.S p n c) (.T gn m d)
 obtain⟨W1,mg,b1,z1,C1,-⟩:=au W0 #[.I K,.U S,.S pp np cp,.I F,.S vp nv cv,.U E,.U G] 121
 let⟨W2,mu,b2,z2,C2⟩:=sr W1
 let⟨W3,we,b3,z3,C3⟩:=rE W2 (.I 0) (.U 0) (.U 0) (.U 0) (.I 0) aS aS aS
 obtain⟨W4,hW4,b4,z4,C4,-⟩:=au W3 #[.S pP nP cP,.S pV nV cV,.U ow,.I mo,.S pH nh cH,.U ep,.U ge,.S pU nU cU] 133;rw[z0]at C1 z1;rw[z1]at C2 z2;rw[z2]at C3 z3;rw[z3]at C4 z4;have HC:=ag (ai ((((C0.below b1).below b2).below b3).below b4) (ai (((C1.below af b2).below af b3).below af b4) (ai ((C2.below b3).below b4) (ai (C3.below b4) C4))));have bW:=ag (aj (aj (aj (aj b0 b1) b2) b3) b4);have HS:=ag (ai (hS.fr (aO (ae bW))) (ai (hN.fr (aO (ae bW))) (tH.fr (aO (ae bW)))));have aW:=λ(o1 o2 o3 o4:Obj)=>((((cQ w.heap.size w).alloc ay o1).alloc al o2).alloc bq o3).alloc bq o4;have m0:=λ(o1 o2 o3 o4:Obj)=>ah c0 (aW o1 o2 o3 o4);have m1:=λ(o1 o2 o3 o4:Obj)=>ah c1 (aW o1 o2 o3 o4);have m2:=λ(o1 o2 o3 o4:Obj)=>ah c2 (aW o1 o2 o3 o4);have m3:=λ(o1 o2 o3 o4:Obj)=>ah c3 (aW o1 o2 o3 o4);have m4:=λ(o1 o2 o3 o4:Obj)=>ah c4 (aW o1 o2 o3 o4);have m5:=λ(o1 o2 o3 o4:Obj)=>ah c5 (aW o1 o2 o3 o4);have m6:=λ(o1 o2 o3 o4:Obj)=>ah c6 (aW o1 o2 o3 o4);have m7:=λ(o1 o2 o3 o4:Obj)=>ah c7 (aW o1 o2 o3 o4);have uq:=ag (ai c3 (ai c4 (ai c5 (ai c6 cfz))));clear b0 b1 b2 b3 b4 C0 C1 C2 C3 C4 c0 c1 c2 c3 c4 c5 c6 c7 cfz tH aW
 go_in
 go_wp2_with fail;rw[<-fL,<-mg,<-mu,<-we,<-hW4]
 let⟨bo,YP⟩:=bG (nd.holders.contains S)
 have hR:=ae eR;unfold sc at hR;simp only[ae hk,ae YP,bu.2.1]at hR;have HR:=ag hR;refine(Cg eH HS.2.2.1 hh YP).mono ?_;rintro r w1⟨rfl,aG⟩;have z1':=aG.size;have yI:=ag (ai (HC.1.below aG) (ai (HC.2.1.below af aG) (ai (HC.2.2.1.below aG) (ai (HC.2.2.2.1.below aG) (HC.2.2.2.2.below af aG)))));have DU:=ag (ai (HS.1.fr (aO aG)) (ai (HS.2.1.fr (aO aG)) (HS.2.2.fr (aO aG))));have qW:=ag (aj bW aG);have c3:=ah uq.1 qW;have c4:=ah uq.2.1 qW;have c5:=ah uq.2.2.1 qW;have c6:=ah uq.2.2.2.1 qW;have fz:=λo=>(qW.frozen (p:=(Ad gn o)) ZW).trans (uq.2.2.2.2 o);have o1:=yI.2.1.1 1 _ rfl;have o3:=yI.2.1.1 3 _ rfl;have n3:=yI.2.2.2.2.1 3 _ rfl;have n4:=yI.2.2.2.2.1 4 _ rfl
 let⟨k0,k1,k2,k3,k4,k5,kf⟩:=yI.1.cells
 have bS:¬gn=w.heap.size:=af;cases bo;{
 by_cases hF:F=2;{
 have hF':(F==2)=true:=by simp[hF]
 by_cases EW:mo=1;{
 have bi0:(mo==1)=true:=by simp[EW]
 have e9:=ae HR;simp only[hF,EW,MI,Cb,pM]at e9;have E9:=ag e9;go_wp2_with fail;exact rq 3 6 7 27 28 9 results229 yI.1 yI.2.2.1 yI.2.2.2.1 en em DU.1 DU.2.1 (Fr.below qW) (qW.mono hB) hB E9};{
 have bi0:(mo==1)=false:=by simp[EW]
 have e9:=ae HR;simp only[hF,EW,MI,Cb,pM]at e9;have E9:=ag e9
 let⟨N3,F3⟩:=gq.put DU.2.1 hk (j:=3) af (.I 2) {nd with mode:=2} (λw' P V H U h1 h2 h3 h4 hf=>⟨P,V,H,U,rfl,h1,h2,h3,h4⟩)
 let⟨X,hX⟩:=aB (w1.setCell (Ad gn (k*8+3)) (.I 2))
 have LX:=LB.keep (w'':=X) (ae yI) (λj h1 h2=>by rw[hX];exact ga _ _ _ _ (by show j≠gn;omega));have BX':Below B w X:=by rw[hX];exact(qW.mono hB).setCell (p:=(Ad gn _)) Oq _
 rw[<-hX]at N3 F3;have HX:=ag (ai LX (ai N3 (ai F3 BX')));have zX:=F3.1;have fz3:=fz (k*8+3);go_wp2_with fail;rw[<-hX]
 let⟨vA,je⟩:=aB X.drew
 have gL:=mX je;have HA:=ag (λ(v:World)(hv:Bw vA v)=>ai (LB.keep (w'':=v) HX.1 (λj h1 h2=>(aj gL hv).block j af)) (ai (gq.fr HX.2.1 (aO (aj gL hv))) (aj gL hv)));have TA:=ag ((DU.2.2.fr HX.2.2.1).fr (aO gL));refine du (λw'=>w'.cell? (Ad w.heap.size 5)=some (.T gn m d)/\w'.cell? (Ad (w.heap.size+1) 1)=some (.U S)/\w'.cell? (Ad (w.heap.size+1+1+1+1) 4)=some (.S pH nh cH)) (by rw[<-je];exact(ae HA vA aA).1.am4) λhS=>?_;rw[<-je]at hS⊢;refine lG 0 1 2 3 hS ?_;refine jR 4 5 hS ?_;refine tn 6 hS ?_;refine cX 7 λKK hK=>?_;refine vU (UO eH TA.1 hh) ?_;rintro r v1⟨pl,cl,rfl,ol,aK⟩;refine⟨_,rfl,?_⟩
 let⟨nl,lK⟩:=bG (wG nd.holders S).length
 rw[ae lK]at ol⊢;have OL:=ag (ol.tu (B':=B) (by have:=HX.2.2.2.size;have:=(ae HA vA aA).2.2.size;omega));have AO:=ag aK;refine fh hK (by exact(ae HA v1 aK).1.am4) λhS=>?_;refine jR 8 9 hS ?_;refine cX 10 λKK hK=>?_
 let⟨LV,NV,bV⟩:=ae HA v1 AO
 obtain⟨gn',-,-,H',-,eg,-,-,-,-,-,-,d4,-,-,-,-,-,-,-,dfz⟩:=gq.at NV (bM hk _);obtain⟨rfl,-⟩:=yz eg;have fz4:=dfz (k*8+4);have NV':=ag NV;have LV':=ag LV;have bV':=ag bV;clear NV LV bV dfz;go_simp
 let⟨N4,F4⟩:=gq.UC NV' hk (j:=4) af (.S pl nl cl) {nd with mode:=2,holders:=wG nd.holders S} (λw' P V H U h1 h2 h3 h4 hf=>⟨P,V,.S pl nl cl,U,rfl,h1,h2,OL.fr hf,h4⟩)
 let⟨Z,hZ⟩:=aB (v1.setCell (Ad gn (k*8+4)) (.S pl nl cl))
 have LZ:=LB.keep (w'':=Z) (ae LV') (λj h1 h2=>by rw[hZ];exact ga _ _ _ _ (by show j≠gn;omega));have BZ:Below B w Z:=by rw[hZ];exact(HX.2.2.2.trans (bV'.mono af)).setCell (p:=(Ad gn _)) Oq _
 rw[<-hZ]at N4 F4⊢;have HZ:=ag (ai LZ (ai N4 (ai ((((Fr.below (T:=[189,132,133]) (ae qW)).trans (HX.2.2.1.sub al)).trans (Fr.below (ae bV'))).trans (F4.sub al)) (ai BZ (((DU.1.fr HX.2.2.1).fr (aO (ae bV'))).fr F4)))));refine fh hK (by exact LZ.am4) λhS=>?_;clear hK KK hZ N4 F4 LZ BZ d4 fz4;refine cY ?_;clear hS
 let⟨k0,k1,k2,k3,k4,k5,kf⟩:=HZ.1.1.cells
 let⟨q0,q1,q2,q3,q4,q5,qf⟩:=HZ.1.2.2.1.cells
 let⟨r0,r1,r2,r3,r4,r5,r6,r7,rf⟩:=HZ.1.2.2.2.1.cells
 go_wp2
 let⟨fA,bA,gA⟩:=HZ.1.2.2.1.fin HZ.2.2.1 HZ.2.2.2.1 af hB (.U e) (.U g) (.U x) (.I t) (.S p n c) (.T gn m d)
 obtain⟨-,fB⟩:=(HZ.1.2.2.2.1.fr gA).put (.I 0) (.U 0) (.U 0) (.U 0) (.I 0) aS aS aS;have bB:=dm (w:=dG Z (w.heap.size+1+1) (.U e) (.U g) (.U x) (.I t) (.S p n c) (.T gn m d)) (b:=w.heap.size+1+1+1) (v0:=.I 0) (v1:=.U 0) (v2:=.U 0) (v3:=.U 0) (v4:=.I 0) (v5:=aS) (v6:=aS) (v7:=aS);have bC:=(dr (w:=Z) (w.heap.size+1+1) (.U e) (.U g) (.U x) (.I t) (.S p n c) (.T gn m d)).mono (show w.heap.size<=_ by omega);refine dJ (v:=.tuple #[dZ e g x t (.S p n c) (.T gn m d),yC 0 0 0 0 0 aS aS aS]) (by simp[results,results229,go_sem,q0,q1,q2,q3,q4,q5,r0,r1,r2,r3,r4,r5,r6,r7]) rfl ?_;rw[<-ae E9];exact QR.num en (ag (by rw[pR];exact ae em)) HZ.2.2.2.2 HZ.2.1 HZ.2.2.1 HZ.2.2.2.1 ((gA.sub al).trans (fB.sub al)) (bC.trans (bB.mono af)) hB 0 0 0 0 0}};{
 have hF':(F==2)=false:=by simp[hF]
 by_cases MY:mo=0;{
 have cz9:(mo != 0)=false:=by simp[MY]
 by_cases yE:4611686018427387904<=g;{
 have cC3:decide (4611686018427387904<=g)=true:=by simpa using yE
 have e9:=ae HR;simp only[hF,MY,yE,MI,Cb,pM,ne_eq,ak1]at e9;have E9:=ag e9;clear e9 hF MY;go_wp2_with fail;exact rq 3 6 7 54 55 12 results229 yI.1 yI.2.2.1 yI.2.2.2.1 en em DU.1 DU.2.1 (Fr.below qW) (qW.mono hB) hB E9};{
 have cC3:decide (4611686018427387904<=g)=false:=by simpa using yE
 have e9:=ae HR;simp only[hF,MY,yE,MI,Cb,pM,ne_eq,ak1]at e9;have E9:=ag e9;clear e9 hF MY;have wg:IntKind.u64.wrap (g+1)=g+1:=IntWalk.u64_in _ af
 let⟨Y0,hY0⟩:=aB (w1.setCell (Ad w.heap.size 1) (.U (g+1)))
 have B0:BX Y0 w.heap.size [.U e,.U (g+1),.U x,.I t,.S p n c,.T gn m d]:=by rw[hY0];exact⟨yI.1.1.dH 1 al _,(dy yI.1.2).1⟩
 have L0:LB Y0 w.heap.size [.U e,.U (g+1),.U x,.I t,.S p n c,.T gn m d] _ _ _ _:=⟨B0,LB.bF9 (w'':=Y0) (ae yI) (λj h1 h2=>by rw[hY0];exact ga _ _ _ _ (by show j≠w.heap.size;omega))⟩;have F0:Fr [41] w1 Y0:=by rw[hY0];exact(dy yI.1.2).2
 let⟨N3,F3⟩:=gq.put (DU.2.1.fr F0) hk (j:=3) af (.I 1) {nd with mode:=1} (λw' P V H U h1 h2 h3 h4 hf=>⟨P,V,H,U,rfl,h1,h2,h3,h4⟩)
 let⟨Y1,hY1⟩:=aB (Y0.setCell (Ad gn (k*8+3)) (.I 1))
 have L1:=LB.keep (w'':=Y1) L0 (λj h1 h2=>by rw[hY1];exact ga _ _ _ _ (by show j≠gn;omega));rw[<-hY1]at N3 F3;have zY:Y1.heap.size=w1.heap.size:=by rw[hY1,hY0];simp
 let⟨A,hA,bA,zA,CA,TA⟩:=au Y1 #[.U S] 27
 rw[zY]at CA TA;have L2:=LB.keep (w'':=A) L1 (λj h1 h2=>bA.block j af);have N4:=N3.fr (aO bA);have TS:TU B A (.T w1.heap.size 1 1) [S]:=by
  refine⟨⟨_,_,rfl,.inr ⟨w1.heap.size,0,rfl,?_⟩⟩,?_,⟨?_,?_⟩,?_⟩;{
 intro i hi;have e0:i=0:=by simp at hi;omega
 subst e0;exact CA.1 0 _ rfl};{intro b hb;simp only[Value.ownBlock,kV]at hb;subst hb;exact⟨_,TA⟩};{intro a n c e;simp only[pW,kV]at e;obtain⟨rfl,rfl,rfl⟩:=e;exact⟨rfl,rfl,λj h1 h2=>af⟩};{intro n c e;simp at e};{intro b hb;simp only[Value.ownBlock,kV]at hb;omega}
 obtain⟨gn',P',V',H',U',eg,-,-,-,-,-,-,d4,d5,d6,-,-,-,-,-,dfz⟩:=gq.at N4 (bM hk _);obtain⟨rfl,-⟩:=yz eg
 let⟨s0,s1,s2,s3,s4,s5,sf⟩:=L2.1.cells
 have fz4:=dfz (k*8+4);have fz5:=dfz (k*8+5);have fz6:=dfz (k*8+6);have fz3:=fz (k*8+3)
 let⟨N5,F5⟩:=gq.UC N4 hk (j:=4) af (.T w1.heap.size 1 1) {nd with mode:=1,holders:=[S]} (λw' P V H U h1 h2 h3 h4 hf=>⟨P,V,.T w1.heap.size 1 1,U,rfl,h1,h2,TS.fr hf,h4⟩)
 let⟨N6,F6⟩:=gq.UC N5 hk (j:=5) af (.U e) {nd with mode:=1,holders:=[S],aE:=e} (λw' P V H U h1 h2 h3 h4 hf=>⟨P,V,H,U,rfl,h1,h2,h3,h4⟩)
 let⟨N7,F7⟩:=gq.UC N6 hk (j:=6) af (.U (g+1)) {nd with mode:=1,holders:=[S],aE:=e,gen:=g+1} (λw' P V H U h1 h2 h3 h4 hf=>⟨P,V,H,U,rfl,h1,h2,h3,h4⟩)
 let⟨Z,hZ⟩:=aB (((A.setCell (Ad gn (k*8+4)) (.T w1.heap.size 1 1)).setCell (Ad gn (k*8+5)) (.U e)).setCell (Ad gn (k*8+6)) (.U (g+1)))
 have LZ:=LB.keep (w'':=Z) L2 (λj h1 h2=>by
  rw[hZ]
  iterate 3 rw[ga _ _ _ _ (show j≠_ by show j≠gn;omega)])
 have FA:Fr [133] A Z:=by rw[hZ];exact(F5.trans F6).trans F7
 have BZ:Below B w Z:=by rw[hZ];refine((ig (p:=(Ad gn _)) ?_ Oq _).setCell (p:=(Ad gn _)) Oq _).setCell (p:=(Ad gn _)) Oq _;refine Below.trans ?_ (bA.mono af);rw[hY1,hY0];exact((qW.mono hB).setCell (p:=(Ad w.heap.size _)) hB _).setCell (p:=(Ad gn _)) Oq _
 have FZ:Fr [189,132,133] w Z:=by
  have bY0:Below w.heap.size w1 Y0:=by rw[hY0];exact aA.setCell (p:=(Ad w.heap.size 1)) ay _
  exact(((Fr.low (Fr.below (ae qW)) bY0).trans (F3.sub al)).trans (Fr.below bA)).trans (FA.sub al)
 rw[<-hZ]at N7;have SZ:=((DU.1.fr F0).fr F3 bj |>.fr (aO bA)).fr FA;have HZ:=ag (ai LZ (ai N7 (ai FZ (ai BZ SZ))));have zZ:w1.heap.size<Z.heap.size:=aI FA.1;rw[hY0]at hY1;rw[hY1]at hA;rw[hA]at hZ s0 s1 s5 d4 d5 d6 fz4 fz5 fz6;clear B0 L0 F0 N3 F3 L1 bA zA CA TA L2 N4 TS dfz s2 s3 s4 sf N5 F5 N6 F6 N7 F7 LZ FA BZ FZ SZ hY0 hY1 hA zY;go_wp2_with fail;rw[<-hZ]
 let⟨vA,je⟩:=aB Z.drew
 have gL:=mX je;have HA:=ag (λ(v:World)(hv:Below (w.heap.size+1+1) vA v)=>HZ.1.1.de ((hv.block _ af).trans (gL.block _ af)));have LA:=ag (LB.keep (w'':=vA) HZ.1 (λj h1 h2=>gL.block j af));have BA:=ag gL;refine du (λw'=>w'.cell? (Ad w.heap.size 0)=some (.U e)/\w'.cell? (Ad w.heap.size 1)=some (.U (g+1))/\w'.cell? (Ad w.heap.size 2)=some (.U x)/\w'.cell? (Ad w.heap.size 3)=some (.I t)/\w'.cell? (Ad w.heap.size 4)=some (.S p n c)/\w'.cell? (Ad w.heap.size 5)=some (.T gn m d)) (by rw[<-je];exact(ae HA vA aA).six) λhS=>?_;rw[<-je]at hS⊢;refine lG 0 1 2 3 hS ?_;refine jR 4 5 hS ?_;refine WA 6 7 6 7 87 92 bg bg bg rfl rfl (w.heap.size+1+1) (w.heap.size+1+1+1) e (g+1) x t p n c (some (Ad gn 0)) m d 0 0 e (g+1) 0 none 0 0 none 0 0 none 0 0 rfl rfl rfl rfl LA.2.2.1 LA.2.2.2.1 af (λv hv _=>(ae HA v hv).six) ?_;intro w' aG KL f1 bl1;refine aR5 ?_;have HQ:=ag (QR.num (e:=e) (g:=g+1) (x:=x) (t:=t) en (ag (by rw[pR];exact ae em)) HZ.2.2.2.2 HZ.2.1 HZ.2.2.1 HZ.2.2.2.1 ((Fr.below (T:=[41,127]) (ae BA)).trans f1) ((BA.mono af).trans (bl1.mono af)) hB 0 0 e (g+1) 0)
 let⟨q0,q1,q2,q3,q4,q5,qf⟩:=aG.cells
 let⟨r0,r1,r2,r3,r4,r5,r6,r7,rf⟩:=KL.cells
 go_wp2;refine dJ (v:=.tuple #[dZ e (g+1) x t (.S p n c) (.T gn m d),yC 0 0 e (g+1) 0 aS aS aS]) (by simp[results,results229,go_sem,q0,q1,q2,q3,q4,q5,r0,r1,r2,r3,r4,r5,r6,r7]) rfl ?_;rw[<-ae E9];exact HQ}};{
 have cz9:(mo != 0)=true:=by simp[MY]
 have e9:=ae HR;simp only[hF,MY,MI,Cb,pM,ne_eq,not_false_eq_true]at e9;have E9:=ag e9;go_wp2_with fail;exact rq 3 6 7 49 50 9 results229 yI.1 yI.2.2.1 yI.2.2.2.1 en em DU.1 DU.2.1 (Fr.below qW) (qW.mono hB) hB E9}}};{have e9:=ae HR;simp only[pM]at e9;have E9:=ag e9;go_wp2_with fail;exact rq 3 6 7 19 20 9 results229 yI.1 yI.2.2.1 yI.2.2.2.1 en em DU.1 DU.2.1 (Fr.below qW) (qW.mono hB) hB E9}
def bo1(ns:List aD)(P:LI)(S E G:Int):Int:=match gS ns P with
 |none=>0
 |some nd=>if nd.mode=1/\nd.holders.headD 0=S/\nd.aE=E/\nd.gen=G then 1 else 0
def Ha(l:LI):LI:=l.drop (Oi l l.length+1)
variable {s:Nat}
theorem bf5(hs:s<l.length)(qF:l.getD s 0=47)(h:∀y∈l.drop (s+1),uk y=true):Oi l l.length=s:=by
 have key:∀j,s+1+j<=l.length->Oi l (s+1+j)=s:=by
  intro j
  induction j with
  |zero=>intro _;rw[uP,uQ,bO qF]
  |succ j ih=>
   intro hj;have hm:uk (l.getD (s+1+j) 0)=true:=h _ (by rw[gj,aY af,sa];refine List.mem_iff_getElem.2 ⟨j,bq,al⟩)
   rw[<-mL,uQ,bH (ah8 hm),ih af]
 have:=key (l.length-s-1) af;rwa [show s+1+(l.length-s-1)=l.length by omega]at this
def aJ5(hs:s<l.length)(qF:l.getD s 0=47)(h:∀y∈l.drop (s+1),uk y=true):Ha l=l.drop (s+1):=by rw[Ha,bf5 hs qF h]
def jH(ns:List aD)(P:LI):List LI:=(ns.filter λnd=>decide (eG nd.path=P)).map λnd=>Ha nd.path
def YA(h:ns[k]?=some nd):jH (ns.take (k+1)) P=if eG nd.path=P then jH (ns.take k) P++[Ha nd.path]else jH (ns.take k) P:=by
 rw[od,h,jH,WQ,l8];by_cases e:eG nd.path=P<;>simp[jH,e]
def an4(P:LI):(jH ns P).length<=ns.length:=by
 rw[jH,fN];exact QD _ _
def ltB(l m:LI):Bool:=!Op.bytesLess (aP m).toList (aP l).toList&&!(aP m).toList==(aP l).toList
def mQ(nd:aD):List aD->List aD
 |[]=>[nd]
 |x::r=>if ltB nd.path x.path=true then nd::x::r else x::mQ nd r
def tY(nd:aD)(s:List aD×Bool)(x:aD):List aD×Bool:=if s.2=false/\ltB nd.path x.path=true then(s.1++[nd]++[x],true)else(s.1++[x],s.2)
def Jk(ns:List aD)(nd:aD):List aD×Bool:=ns.foldl (tY nd) ([],false)
theorem KH(nd:aD):∀(l acc:List aD),l.foldl (tY nd) (acc,true)=(acc++l,true)
 |[],acc=>al
 |x::r,acc=>by rw[ME,show tY nd (acc,true) x=(acc++[x],true) by simp[tY],KH nd r];simp
theorem aL3(ns:List aD)(nd:aD):(if(Jk ns nd).2 then(Jk ns nd).1 else(Jk ns nd).1++[nd])=mQ nd ns:=by
 have key:∀(l acc:List aD),(if(l.foldl (tY nd) (acc,false)).2 then(l.foldl (tY nd) (acc,false)).1 else(l.foldl (tY nd) (acc,false)).1++[nd])=acc++mQ nd l:=by
  intro l
  induction l with
  |nil=>intro acc;simp[mQ]
  |cons x r ih=>
   intro acc;rw[ME,mQ];by_cases h:ltB nd.path x.path=true;{rw[show tY nd (acc,false) x=(acc++[nd]++[x],true) by simp[tY,h],KH,bO h];simp};{rw[show tY nd (acc,false) x=(acc++[x],false) by simp[tY,h],ih,bH h];simp}
 have:=key ns [];rwa [D9]at this
def YF{x:aD}(hx:ns[k]?=some x):Jk (ns.take (k+1)) nd=tY nd (Jk (ns.take k) nd) x:=by
 rw[od,hx,Jk,QK]
 rfl
def ao0{s:List aD×Bool}{x:aD}:(tY nd s x).1.length<=s.1.length+2:=by
 unfold tY;split<;>simp
theorem Re(nd:aD):∀(l:List aD)(s:List aD×Bool),(l.foldl (tY nd) s).1.length<=s.1.length+2*l.length
 |[],s=>al
 |x::r,s=>by have:=Re nd r (tY nd s x);have:=ao0 (nd:=nd) (s:=s) (x:=x);rw[ME,iS];omega
theorem Rf(nd:aD):∀l:List aD,(mQ nd l).length=l.length+1
 |[]=>rfl
 |x::r=>by rw[mQ];split;{simp};{simp[Rf nd r]}
def mH(P V:LI)(o:Int):aD:=⟨P,V,o,0,[],0,0,[]⟩
def my(D:SD)(P V:LI)(S F:Int):SD×RP:=
 if(gS D.ns P).isSome then(D,AV 6)else if dV D.ns (eG P)=false then(D,AV 7)else if 200<=D.ns.length then(D,AV 11)
 else({D with ns:=mQ (mH P V (if F=1 then S else 0)) D.ns},rH)
def xg(D:SD)(k:Nat)(K S F:Int)(V:LI):SD×RP:=match D.ns[k]? with
 |none=>(D,rH)
 |some nd=>
  if K=5 then(if jH D.ns nd.path≠[]then(D,AV 8)else if mV nd S=false then(D,AV 9)else(Tf (dW D k 2) k,rH))
  else if K=6 then(D,⟨0,nd.owner,nd.aE,nd.gen,nd.mode,nd.value,[],[]⟩)
  else if K=7 then(if nd.mode=1/\nd.holders.headD 0≠S then(D,AV 9)else(dW {D with ns:=D.ns.set k {nd with value:=V}} k 1,rH))
  else if K=8 then sc D k S F
  else if K=9 then(if nd.holders.contains S then(dS D k S,rH)else(D,AV 10))
  else({D with ns:=D.ns.set k {nd with watchers:=wG nd.watchers S}},rH)
def wD.last{c:Nat}(h:wD B w (.S p (j+1) c) (j+1) vs)(hv:vs.getLast?=some v):∃g,p=some (Ad g 0)/\w.cell? (Ad g j)=some v/\j<maxLen:=by
 have hl:=h.1;rcases h.2 with⟨-,h0⟩|⟨g,cap,cur,e,-,-,ha,hb,-⟩;{omega};{obtain⟨rfl,-,rfl⟩:=ir e;refine⟨g,rfl,?_,af⟩;have h':w.ownsRow B 22 1 (.T g (j+1) c) (j+1) vs:=h;rw[Gz h' j af,<-hv,WM,hl];simp}
def UP{c n:Nat}(en:Le l n)(h:Rd w (.S p n c) l)(hb:aN l)(hl:Mg n)(hv:Hid (vp l=true)):Calls prog 227 #[.S p n c] w λr w'=>∃q m d,r=.returned (.S q m d)/\Hid ((Ha l).length=m)/\m<=n/\Own w.heap.size w' (.S q m d) (Ha l)/\Bw w w':=by
 go_in
 go_wp2_with fail;refine(Ac en h hb hl hv).mono ?_;rintro r w1⟨hT,-,aG⟩;obtain⟨pv,k,cv,vs,rfl,ho,hk,s,v,hvl,hs,qF,Aj,hov⟩:=hT rfl;obtain⟨j,rfl⟩:∃j,k=j+1:=⟨k-1,af⟩;obtain⟨g,rfl,hc,hjm⟩:=ho.last hvl;have hj:j<9223372036854775807:=by unfold maxLen at hjm;omega
 have wj:wrap64 (j:Int)=(j:Int):=GN _ af;rw[<-aJ5 hs qF Aj]at hov;obtain⟨q,d,rfl⟩:=hov.form;have HO:=ag hov;have e1:(Ha l).length<=n:=by rw[Ha,r9,ae en];omega
 let⟨m,em⟩:=bG (Ha l).length
 rw[ae em]at hc HO e1;have hi:((j+1:Nat):Int)-1=(j:Int):=af;have hi2:(j:Int)<((j+1:Nat):Int):=af;go_wp2;go_ret;exact⟨_,_,_,rfl,em,e1,HO,aG⟩
def Be{Q:Exit->Act->World->Prop}(ng:o.guard=none){s x:Operand}(ho:o.op=.call {callee:=.builtin .append,args:=#[s,x],argTypes:=#[124,124]})(ek:Le ls k)(hs:a.eval s=v)(bR:TN B w v ls){g:Nat}{P:Value}(hx:a.eval x=.T g 1 1)(oz:TB w P l)(iU:w.cell? (Ad g 0)=some P)(hk:k<4194304)(hB:B<=w.heap.size)(h:∀p' c' w',TN B w' (.S p' (k+1) c') (ls++[l])->w.grownBy w' v.ownBlock->Fr [22] w w'->wpList prog ops Q rest (a.put o.dst (.S p' (k+1) c')) w'):wpList prog ops Q (o::rest) a w:=by
 let⟨i,hi,qx,jd,jJ⟩:=fD Tryz.infoSl
 have ht:=bR.typ;obtain⟨rs,h1,h2,h3,h4⟩:=bR;have cx7:P.oneCell'=true:=by
  obtain⟨_,_,rfl⟩:=oz.gF
  rfl
 rw[ae ek]at h3;refine cR ng 124 ho i 1 underlying124 hi qx jd jJ rfl bj v hs h3 g 1 1 [P] hx rfl (λj u hu=>by
  have e:j=0:=by have:=(aV.1 hu).1;simpa using this
  subst e;simp at hu;subst hu;exact iU) (λu hu=>by simp at hu;rw[hu];exact cx7) iB af hB ?_
 intro v' w' fo hg _;have hf:Fr [22] w w':=Fr.grown hg λb hb=>by
  let⟨cur,hc⟩:=ht b hb
  exact⟨cur,_,hc,al⟩
 have sn:TN B w' v' (ls++[l]):=RT.snoc h1 h2 h4 (λy c hy=>by obtain⟨P',e,h5⟩:=hy;exact⟨P',e,h5.fr hf⟩) ⟨P,rfl,oz⟩ rfl (ae ek▸fo);obtain⟨p',c',rfl,-⟩:=RT.form sn;rw[gU,ae ek]at sn⊢;exact h p' c' w' sn hg hf
def TN.fr{T:List TypeId}(h:TN B w v ls)(hf:Fr T w w')(ht:5∉T/\22∉T:=by decide):TN B w' v ls:=
 RT.fr h hf ht.2 (λy c hy=>by obtain⟨P',e,h5⟩:=hy;exact⟨P',e,h5.fr hf ht.1⟩)
def PPB(ns:List aD):Prop:=∀nd∈ns,vp nd.path=true/\aN nd.path/\nd.path.length<=1048576
def NI{n c:Nat}(em:Le ns m)(eP:Le P np)(hN:Hid (AI B w (.S q m d) ns))(hP:Hid (Rd w (.S pp np cp) P))(bP:aN P)(hPB:Hid (PPB ns))(hm:Mg m)(eL:Hid (jH ns P=L)):Calls prog 192 #[dZ e g x t (.S p n c) (.S q m d),.S pp np cp] w λr w'=>∃p' c',r=.returned (.S p' L.length c')/\TN w.heap.size w' (.S p' L.length c') L/\Bw w w':=by
 let⟨W0,fL,b0,z0,C0⟩:=jB w (.U e) (.U g) (.U x) (.I t) (.S p n c) (.S q m d)
 have HC:=ag λ(v:World)(hv:Bw W0 v)=>ai (C0.below hv) (ai (gq.fr (ae hN) (aO (aj b0 hv))) (ai (hP.below (aj b0 hv)) (aj b0 hv)));have BP:=ag bP;have Z0:=ag z0;clear b0 C0 bP z0
 go_in
 go_wp2;rw[<-fL];clear fL
 go_loopw[5,6](λov iv wr=>∃(k:Nat)(M:List LI),k<=m/\iv=.I k/\Hid (jH (ns.take k) P=M)/\Hid (TN W0.heap.size wr ov M)/\Hid (Bw W0 wr)) (λ_ iv _=>m-(intOf iv).toNat)
 exact⟨0,[],gr _,rfl,(by show _=_;simp[jH]),RT.nil _ _ _ _ _,cQ _ _⟩;{
 obtain⟨k,M,hk,rfl,hM,hT,aM⟩:=hrel;obtain⟨pv,cv,rfl,-,-,-⟩:=RT.form hT;have zr:=aM.size;have hml:M.length<=k:=by have h1:=an4 (ns:=ns.take k) P;have h2:=GM k ns;rw[ae hM]at h1;omega
 let⟨CB,HN,HP,bw⟩:=ae HC _ aM
 have k5:=CB.1.1 5 _ rfl;have BW:=ag bw;by_cases bf:k<m;{
 have bL:=aU k m;obtain⟨nd,hx⟩:∃x,ns[k]?=some x:=⟨_,aY (ae em▸bf)⟩;have qV:=ag (YA (P:=P) hx);have HX:=ag hx;obtain⟨gn,Pv,Vv,Hv,Uv,eq,-,-,c0,-,-,-,-,-,-,-,tP,-,-,-,-⟩:=gq.at HN hx;subst eq
 let⟨hv1,Xh,jO⟩:=ae hPB nd (aT hx)
 let⟨nP,eN⟩:=bG nd.path.length
 obtain⟨pP,cP,rfl⟩:=tP.gF;rw[ae eN]at c0 tP jO;have TP:=ag tP;have HV:=ag (ai hv1 Xh)
 let⟨_,_,_,ec,jt,ku⟩:=tP.2.2
 obtain⟨rfl,rfl,rfl⟩:=ir ec;go_wp2_with fail;refine(kY eN TP.1 jO jt ku).mono ?_;rintro r w1⟨qq,mm,dd,rfl,hmm,cz6,Rm,aG⟩;have B1:=ag (aj aM aG);obtain⟨-,-,HP1,-⟩:=ae HC _ B1;have T1:=ag (hT.fr (aO aG));have TP1:=ag (TP.fr (aO aG));go_wp2_with fail;refine(jS (ag hmm) eP Rm HP1 (rW HV.2) BP).mono ?_;rintro r w2⟨rfl,aK⟩;have B2:=ag (aj B1 aK);have T2:=ag (T1.fr (aO aK));have TP2:=ag (TP1.fr (aO aK));obtain⟨CB,-⟩:=ae HC _ B2;have k5:=CB.1.1 5 _ rfl;have c0':=ah c0 (aj aG aK);have z2:=B2.size;by_cases hq:eG nd.path=P;{rw[show decide (eG nd.path=P)=true by simp[hq]];have E1:=ag (by have:=ae qV;rwa [bO hq,ae hM]at this:jH (ns.take (k+1)) P=M++[Ha nd.path]);go_wp2_with fail;refine(UP eN TP2.1 HV.2 jO (ag HV.1)).mono ?_;rintro r w3⟨ql,ml,dl,rfl,eml,dQ5,hol,br⟩;go_wp2_with fail;refine(iT eml hol.rd af).mono ?_;rintro r w4⟨pc,cc,rfl,hoc,fy⟩;have B4:=ag (aj (aj B2 br) fy);have T4:=ag ((T2.fr (aO br)).fr (aO fy));have O4:=ag hoc.tb;have z4:=B4.size;go_wp2_with(at_builtin;refine Be rfl rfl (v:=.S pv M.length cv) (ag rfl) rfl (TN.fr (ae T4) (aO (aA.alloc ay _)) bj) (g:=w4.heap.size) rfl (O4.fr (aO (aA.alloc ay _))) al af bq ?_);intro p' c' w5 T5 vZ f5;have bA:Bw w4 (w4.alloc (.cells #[.S pc ml cc] 22)):=aA.alloc ay _;have B5:=ag ((aj (ae B4) bA).grown vZ bq (λb' e=>(T4.lt b' e).1));have T5':=ag T5;go_wp2;go_roundw;exact⟨k+1,_,af,by go_num,E1,T5',B5⟩;exact cg};{rw[show decide (eG nd.path=P)=false by simp[hq]];have E1:=ag (by have:=ae qV;rwa [bH hq,ae hM]at this:jH (ns.take (k+1)) P=M);go_wp2;go_roundw;exact⟨k+1,M,af,by go_num,E1,T2,B2⟩;exact cg}};{have bL:=dB k m;have e1:=ae hM;rw[lD (by rw[ae em];omega),ae eL]at e1;subst e1;go_wp2;go_ret;exact⟨_,_,rfl,RT.mono hT (aI (ae Z0)),BW⟩}}
end Go.Proofs.YtnhnbpkfpaondaaGreatDoor
