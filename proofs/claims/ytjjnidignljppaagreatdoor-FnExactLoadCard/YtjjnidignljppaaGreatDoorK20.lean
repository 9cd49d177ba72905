import Derived.Test.YtjjnidignljppaaGreatDoorK12
import Derived.Test.YtjjnidignljppaaGreatDoorK19
namespace Go.Proofs.YtjjnidignljppaaGreatDoor
set_option maxHeartbeats 12800000
set_option linter.all false
set_option maxRecDepth 100000
open Go.ChangeShapes Go.WideShapes Go.ChangeAt Go.RowKit
variable {B B' B0 b b' b1 b2 cp d i j k m np t2 t3:Nat}{D:SD}{P l:LI}{Qs vs:List Value}{a:Act}{cur:Array Value}{e g t x:Int}{fn:Func}{ls:List LI}{nd:aB}{ns:List aB}{o:Oper}{o0 o1 o2 o3 o4 o5 r0 r1 r2 r3 r4 r5 r6 r7 u v v' v0 v1 v2 v3 v4 v5:Value}{ops:Array Oper}{p pp:OA}{ps:String}{s:aR}{ss:List aR}{ty:TypeId}{w' w'':World}
def RT{α:Type}(el:World->α->List Value->Prop)(ty:TypeId)(sz B:Nat)(w:World)(v:Value)(xs:List α):Prop:=
 ∃cs:List (List Value),cs.length=xs.length/\(∀c∈cs,c.length=sz)/\w.ownsRow B ty sz v xs.length cs.flatten/\∀(i:Nat)(x:α)(c:List Value),xs[i]?=some x->cs[i]?=some c->el w x c
section
variable {α:Type}{el:World->α->List Value->Prop}{ty:TypeId}{sz B:Nat}{w w':World}{v:Value}{xs:List α}
def RT.nil(el:World->α->List Value->Prop)(ty:TypeId)(sz B:Nat)(w:World):RT el ty sz B w (.S none 0 0) []:=
 ⟨[],rfl,fun c hc=>by simp at hc,by simpa using World.ownsRow_nil w B ty sz,fun i x c hx=>by simp at hx⟩
def RT.lt(h:RT el ty sz B w v xs):∀b,v.ownBlock=some b->B<=b/\b<w.heap.size:=by
 obtain⟨cs,h1,h2,h3,h4⟩:=h;exact h3.lt
def RT.XJ(h:RT el ty sz B w v xs):∀b,v.ownBlock=some b->∃cur,w.heap[b]?=some (.cells cur ty):=fun b hb=>by
 obtain⟨cs,h1,h2,h3,h4⟩:=h;rcases h3.2 with⟨rfl,-⟩|⟨g,cap,cur,rfl,-,hg,-⟩;{simp[Value.ownBlock]at hb};{simp only[Value.ownBlock,jU]at hb;subst hb;exact⟨cur,hg⟩}
def RT.form(h:RT el ty sz B w v xs):∃p c,v=.S p xs.length c/\xs.length<=c/\c<=maxLen/\(0<xs.length->∃g,p=some ⟨g,0,none⟩):=by
 obtain⟨cs,h1,h2,h3,h4⟩:=h;rcases h3.2 with⟨rfl,e⟩|⟨g,cap,cur,rfl,-,hg,a,b,-⟩;{exact⟨none,0,by rw[e],ae,ic,fun hh=>ae⟩};{exact⟨_,cap,rfl,a,b,fun _=>⟨g,rfl⟩⟩}
def RT.keep(h:RT el ty sz B w v xs)(tL:∀x c,el w x c->el w' x c)(hr:∀b,v.ownBlock=some b->w'.heap[b]?=w.heap[b]?):RT el ty sz B w' v xs:=by
 obtain⟨cs,h1,h2,h3,h4⟩:=h;refine⟨cs,h1,h2,⟨h3.1,?_⟩,fun i x c hx hc=>tL x c (h4 i x c hx hc)⟩;rcases h3.2 with hn|⟨g,cap,cur,rfl,hb,hg,rest⟩;{exact .inl hn};{exact .inr ⟨g,cap,cur,rfl,hb,(hr g rfl).trans hg,rest⟩}
def RT.mono(h:RT el ty sz B w v xs)(hB:B'<=B):RT el ty sz B' w v xs:=by
 obtain⟨cs,h1,h2,h3,h4⟩:=h;refine⟨cs,h1,h2,⟨h3.1,?_⟩,h4⟩;rcases h3.2 with hn|⟨g,cap,cur,rfl,hb,rest⟩;{exact .inl hn};{exact .inr ⟨g,cap,cur,rfl,fW hB hb,rest⟩}
def RT.snoc{x:α}{c:List Value}{cs:List (List Value)}(h1:cs.length=xs.length)(h2:∀c∈cs,c.length=sz)(h4:∀(i:Nat)(x:α)(c:List Value),xs[i]?=some x->cs[i]?=some c->el w x c)(tL:∀x c,el w x c->el w' x c)(hx:el w x c)(hc:c.length=sz)(dh:w'.ownsRow B ty sz v' (xs.length+1) (cs.flatten++c)):RT el ty sz B w' v' (xs++[x]):=by
 refine⟨cs++[c],by simp[h1],fun c' qM=>?_,by simpa using dh,fun i y c' hy qM=>?_⟩;{rcases gR.1 qM with qM|qM;{exact h2 c' qM};{simp at qM;subst qM;exact hc}};{
 by_cases hi:i<xs.length;{rw[kT hi]at hy;rw[kT ae]at qM;exact tL _ _ (h4 i y c' hy qM)};{
 have ei:i=xs.length:=by have:=(aT.1 hy).1;simp at this;omega
 subst ei;rw[mE ao,Au]at hy;rw[mE ae,h1,Au]at qM;simp at hy qM;subst hy qM;exact tL _ _ hx}}
def RT.n{g n cap:Nat}(h:RT el ty sz B w (.T g n cap) xs):n=xs.length:=by
 obtain⟨p,c,e,-⟩:=h.form;simp only[dU]at e;exact e.2.1
def RT.at{g n cap:Nat}(h:RT el ty sz B w (.T g n cap) xs){x:α}(hx:xs[i]?=some x):∃c,c.length=sz/\el w x c/\(∀(j:Nat)(u:Value),c[j]?=some u->w.cell? ⟨g,i*sz+j,none⟩=some u)/\∀o,w.frozen? ⟨g,o,none⟩=false:=by
 have en:=h.n;subst en;obtain⟨cs,h1,h2,h3,h4⟩:=h;have hi:=(aT.1 hx).1;obtain⟨c,hc⟩:∃x,cs[i]?=some x:=⟨_,aO ae⟩;have hlen:=h2 c (aS hc);refine⟨c,hlen,h4 i x c hx hc,fun j u hu=>?_,fun o=>h3.frozenAt o⟩;have hj:j<sz:=by have:=(aT.1 hu).1;omega
 have hks:i*sz+sz<=xs.length*sz:=by rw[<-Ko];exact Um _ hi
 rw[h3.cellAt (i*sz+j) ae,yO h2 hc hj];exact hu
def RT.put{g n cap:Nat}(h:RT el ty sz B w (.T g n cap) xs){x:α}(hx:xs[i]?=some x)(hj:j<sz)(u:Value)(x':α)(tL:∀y c,el w y c->el (w.setCell ⟨g,i*sz+j,none⟩ u) y c)(hn:∀c,c.length=sz->el w x c->el (w.setCell ⟨g,i*sz+j,none⟩ u) x' (c.set j u)):RT el ty sz B (w.setCell ⟨g,i*sz+j,none⟩ u) (.T g n cap) (xs.set i x'):=by
 have en:=h.n;subst en;obtain⟨cs,h1,h2,h3,h4⟩:=h;have zy:=(aT.1 hx).1;obtain⟨c,hc⟩:∃x,cs[i]?=some x:=⟨_,aO ae⟩;have hlen:=h2 c (aS hc);refine⟨cs.set i (c.set j u),by simp[h1],fun d hd=>?_,?_,fun k y d hy hd=>?_⟩;{rcases NJ hd with hd|rfl;{exact h2 d hd};{rw[mB,hlen]}};{rw[ad1 h2 hc hj,mB];exact(h3.stored _ u).1};{rw[qH]at hy hd;by_cases e:i=k;{subst e;rw[bN rfl,bN ae]at hy hd;cases hy;cases hd;exact hn c hlen (h4 i x c hx hc)};{rw[bH e]at hy hd;exact tL _ _ (h4 k y d hy hd)}}
end
def kH{w:World}{o:Obj}(h:w.heap[b]?=some o):b<w.heap.size:=(EF.1 h).1
def Fr(T:List TypeId)(w w':World):Prop:=w.heap.size<=w'.heap.size/\∀(b:Nat)(cur:Array Value)(ty:TypeId)(m:Nat×Nat),ty∉T->w.heap[b]?=some (.cells cur ty m)->w'.heap[b]?=some (.cells cur ty m)
def Fr.below{T:List TypeId}{w w':World}(h:Bw w w'):Fr T w w':=⟨h.size,fun b cur ty m _ hb=>(h.block b (kH hb)).trans hb⟩
def aK{w w':World}(h:Bw w w'):Fr [] w w':=Fr.below h
def Fr.refl(T:List TypeId)(w:World):Fr T w w:=⟨jS _,fun _ _ _ _ _ h=>h⟩
def Fr.trans{T:List TypeId}{w w1 w2:World}(h:Fr T w w1)(h2:Fr T w1 w2):Fr T w w2:=⟨fW h.1 h2.1,fun b cur ty m ht hb=>h2.2 b cur ty m ht (h.2 b cur ty m ht hb)⟩
def Fr.sub{T T':List TypeId}{w w':World}(h:Fr T w w')(hs:∀t∈T,t∈T'):Fr T' w w':=⟨h.1,fun b cur ty m ht hb=>h.2 b cur ty m (fun e=>ht (hs _ e)) hb⟩
def Fr.set{T:List TypeId}{w:World}{g:Nat}(hg:w.heap[g]?=some (.cells cur ty))(ht:ty∈T):Fr T w (w.setCell ⟨g,j,none⟩ u):=by
 refine⟨ai,fun b ay2 ty' m hn hb=>?_⟩;have cg:b≠g:=fun e=>by subst e;rw[hg]at hb;simp at hb;exact hn (hb.2.1▸ht)
 exact(fy _ _ _ _ cg).trans hb
def Fr.grown{T:List TypeId}{w w':World}{r:Option Nat}(hg:w.grownBy w' r)(ht:∀b,r=some b->∃cur ty,w.heap[b]?=some (.cells cur ty)/\ty∈T):Fr T w w':=by
 refine⟨hg.size,fun b cur ty m hn hb=>?_⟩;refine(hg.block b (kH hb) (fun e=>?_)).trans hb;obtain⟨ay2,ty',h1,h2⟩:=ht b e.symm;rw[h1]at hb;simp at hb;exact hn (hb.2.1▸h2)
def TB(w:World)(v:Value)(l:LI):Prop:=Rd w v l/\(∀b,v.ownBlock=some b->l=[]\/∃cur m,w.heap[b]?=some (.cells cur 5 m))/\px v
def TU(B:Nat)(w:World)(v:Value)(l:LI):Prop:=qT w v l/\(∀b,v.ownBlock=some b->∃cur,w.heap[b]?=some (.cells cur 28))/\ZT w v/\∀b,v.ownBlock=some b->B<=b
def TB.fr{T:List TypeId}{w w':World}(h:TB w v l)(hf:Fr T w w')(ht:5∉T:=by decide):TB w' v l:=by
 obtain⟨⟨p,c,rfl,hd⟩,h2,hc⟩:=h;by_cases hl:l=[];{exact⟨⟨p,c,rfl,.inl hl⟩,fun b _=>.inl hl,hc⟩};rcases hd with hd|⟨b,o,rfl,hd⟩;{exact absurd hd hl};rcases h2 b rfl with e|⟨cur,m,hb⟩;{exact absurd e hl};have bL:=hf.2 b cur _ m ht hb;refine⟨⟨_,c,rfl,.inr ⟨b,o,rfl,fun i hi=>(aE (bL.trans hb.symm) _).trans (hd i hi)⟩⟩,fun b' e=>.inr ?_,hc⟩;simp only[Value.ownBlock,jU]at e;subst e;exact⟨cur,m,bL⟩
def TU.fr{T:List TypeId}{w w':World}(h:TU B w v l)(hf:Fr T w w')(ht:28∉T:=by decide):TU B w' v l:=by
 obtain⟨⟨p,c,rfl,hd⟩,h2,hz,h3⟩:=h;have hk:∀b,(Value.slice p l.length c).ownBlock=some b->w'.heap[b]?=w.heap[b]?:=fun b e=>by obtain⟨cur,hb⟩:=h2 b e;exact(hf.2 b cur _ _ ht hb).trans hb.symm
 refine⟨⟨p,c,rfl,?_⟩,fun b e=>?_,hz.keep hk,h3⟩;{rcases hd with hd|⟨b,o,rfl,hd⟩;{exact .inl hd};{exact .inr ⟨b,o,rfl,fun i hi=>(aE (hk b rfl) _).trans (hd i hi)⟩}};{obtain⟨cur,hb⟩:=h2 b e;exact⟨cur,(hk b e).trans hb⟩}
def Own.bA2{w:World}(h:Own B w v l):px v:=by
 rcases h.2 with⟨rfl,-⟩|⟨g,cap,cur,rfl,-,hg,hc,hm,-⟩;{exact⟨_,_,_,rfl,jS _,gq _⟩};{exact⟨_,_,_,rfl,hc,hm⟩}
def Own.tb{w:World}(h:Own B w v l):TB w v l:=⟨h.rd,fun b e=>.inr (by
 rcases h.2 with⟨rfl,-⟩|⟨g,cap,cur,rfl,-,hg,-⟩;{simp[Value.ownBlock]at e};{simp only[Value.ownBlock,jU]at e;subst e;exact⟨cur,_,hg⟩}),h.bA2⟩
def TB.nil(w:World):TB w (.S none 0 0) []:=⟨Rd.nil _,fun b e=>.inl rfl,_,_,_,rfl,jS _,gq _⟩
def TU.nil(w:World):TU B w (.S none 0 0) []:=⟨⟨none,0,rfl,.inl rfl⟩,fun b e=>by simp[Value.ownBlock]at e,ZT.nil w,fun b e=>by simp[Value.ownBlock]at e⟩
def TU.mono{w:World}(h:TU B w v l)(hB:B'<=B):TU B' w v l:=⟨h.1,h.2.1,h.2.2.1,fun b e=>fW hB (h.2.2.2 b e)⟩
def Gi(w:World)(e:Ev)(c:List Value):Prop:=∃P,c=[.I e.1,P]/\TB w P e.2
def sX(_:World)(x:aR×Value)(c:List Value):Prop:=c=[.U x.1.1,.I x.1.2.1,x.2]
def mT(B:Nat)(w:World)(nd:aB)(c:List Value):Prop:=∃P V H U,c=[P,V,.U nd.owner,.I nd.mode,H,.U nd.aJ,.U nd.gen,U]/\TB w P nd.path/\TB w V nd.value/\TU B w H nd.holders/\TU B w U nd.watchers
abbrev JA(B:Nat)(w:World)(v:Value)(es:List Ev):Prop:=RT Gi 165 2 B w v es
structure kL(B:Nat)(w:World)(v:Value)(ss:List aR)(Qs:List Value):Prop where
 len:Qs.length=ss.length
 row:RT sX 86 3 B w v (ss.zip Qs)
 Vr:∀(i:Nat)(s:aR)(Q:Value),ss[i]?=some s->Qs[i]?=some Q->JA B w Q s.2.2
 xk:∀(i j:Nat)(Q Q':Value)(b:Nat),i≠j->Qs[i]?=some Q->Qs[j]?=some Q'->Q.ownBlock=some b->Q'.ownBlock≠some b
abbrev gK(B0 B:Nat)(w:World)(v:Value)(ns:List aB):Prop:=RT (mT B0) 93 8 B w v ns
abbrev AW(B:Nat)(w:World)(v:Value)(ns:List aB):Prop:=gK B B w v ns
def RT.fr{α:Type}{el:World->α->List Value->Prop}{sz:Nat}{w w':World}{xs:List α}{T:List TypeId}(h:RT el ty sz B w v xs)(hf:Fr T w w')(ht:ty∉T)(tL:∀x c,el w x c->el w' x c):RT el ty sz B w' v xs:=
 h.keep tL fun b hb=>by obtain⟨cur,hc⟩:=h.XJ b hb;exact(hf.2 b cur ty _ ht hc).trans hc.symm
def Gi.fr{T:List TypeId}{w w':World}(hf:Fr T w w')(ht:5∉T)(x:Ev)(c:List Value)(h:Gi w x c):Gi w' x c:=by
 obtain⟨P,e,h1⟩:=h;exact⟨P,e,h1.fr hf ht⟩
def mT.fr{T:List TypeId}{w w':World}(hf:Fr T w w')(ht:5∉T)(hu:28∉T)(x:aB)(c:List Value)(h:mT B w x c):mT B w' x c:=by
 obtain⟨P,V,H,U,e,h1,h2,h3,h4⟩:=h;exact⟨P,V,H,U,e,h1.fr hf ht,h2.fr hf ht,h3.fr hf hu,h4.fr hf hu⟩
def gK.fr{T:List TypeId}{w w':World}(h:gK B0 B w v ns)(hf:Fr T w w')(ht:5∉T/\28∉T/\93∉T:=by decide):gK B0 B w' v ns:=
 RT.fr h hf ht.2.2 (mT.fr hf ht.1 ht.2.1)
def JA.fr{T:List TypeId}{w w':World}{es:List Ev}(h:JA B w v es)(hf:Fr T w w')(ht:5∉T/\165∉T:=by decide):JA B w' v es:=RT.fr h hf ht.2 (Gi.fr hf ht.1)
def kL.fr{T:List TypeId}{w w':World}(h:kL B w v ss Qs)(hf:Fr T w w')(ht:5∉T/\165∉T/\86∉T:=by decide):kL B w' v ss Qs:=
 ⟨h.len,RT.fr h.row hf ht.2.2 (fun _ _ h=>h),fun i s Q hs hq=>(h.Vr i s Q hs hq).fr hf ⟨ht.1,ht.2.1⟩,h.xk⟩
def kL.nil(B:Nat)(w:World):kL B w (.S none 0 0) [] []:=⟨rfl,RT.nil _ _ _ _ _,fun i s Q h=>by simp at h,fun i j Q Q' b _ h=>by simp at h⟩
def gK.put{w:World}{g n cap:Nat}(h:gK B0 B w (.T g n cap) ns)(hx:ns[i]?=some nd)(hj:j<8)(u:Value)(nd':aB)(hn:∀w' P V H U,TB w' P nd.path->TB w' V nd.value->TU B0 w' H nd.holders->TU B0 w' U nd.watchers->Fr [93] w w'->mT B0 w' nd' ([P,V,.U nd.owner,.I nd.mode,H,.U nd.aJ,.U nd.gen,U].set j u)):gK B0 B (w.setCell ⟨g,i*8+j,none⟩ u) (.T g n cap) (ns.set i nd')/\Fr [93] w (w.setCell ⟨g,i*8+j,none⟩ u):=by
 obtain⟨cur,hc⟩:=h.XJ g rfl;have hf:Fr [93] w (w.setCell ⟨g,i*8+j,none⟩ u):=Fr.set hc ai;have t1:5∉[93]:=aU;have t2:28∉[93]:=aU;refine⟨RT.put h hx hj u nd' (mT.fr hf t1 t2) (fun c _ he=>?_),hf⟩;obtain⟨P,V,H,U,rfl,h1,h2,h3,h4⟩:=he;exact hn _ P V H U (h1.fr hf t1) (h2.fr hf t1) (h3.fr hf t2) (h4.fr hf t2) hf
theorem JC{α β:Type}:∀(l:List α)(m:List β)(i:Nat)(a:α)(b:β),(l.zip m).set i (a,b)=(l.set i a).zip (m.set i b)
 |[],m,i,a,b=>ai
 |x::l,[],i,a,b=>by cases i<;>simp
 |x::l,y::m,0,a,b=>ai
 |x::l,y::m,i+1,a,b=>by simp[JC l m i a b]
def xQ{α:Type}{l:List α}{a:α}(h:l[i]?=some a):l.set i a=l:=by
 obtain⟨h1,h2⟩:=aT.1 h;rw[<-h2,List.set_getElem_self]
def kL.bS9{w w1:World}{g n cap:Nat}(h:kL B w (.T g n cap) ss Qs)(hx:ss[i]?=some s){Q v':Value}(hQ:Qs[i]?=some Q){q':List Ev}(uw:JA B w1 v' q')(hg:w.grownBy w1 Q.ownBlock)(lG:∀b,v'.ownBlock=some b->Q.ownBlock=some b\/w.heap.size<=b):kL B (w1.setCell ⟨g,i*3+2,none⟩ v') (.T g n cap) (ss.set i (s.1,s.2.1,q')) (Qs.set i v')/\Fr [165,86] w (w1.setCell ⟨g,i*3+2,none⟩ v'):=by
 have hi:=(aT.1 hx).1;have f1:Fr [165] w w1:=Fr.grown hg fun b hb=>by obtain⟨cur,hc⟩:=(h.Vr i s Q hx hQ).XJ b hb;exact⟨cur,_,hc,ai⟩
 have r1:RT sX 86 3 B w1 (.T g n cap) (ss.zip Qs):=RT.fr h.row f1 aU (fun _ _ h=>h);obtain⟨cur,hc⟩:=r1.XJ g rfl;have f2:Fr [86] w1 (w1.setCell ⟨g,i*3+2,none⟩ v'):=Fr.set hc ai;have hz:(ss.zip Qs)[i]?=some (s,Q):=by rw[I5];exact⟨hx,hQ⟩
 have hold:∀(k:Nat)(Q':Value)(b:Nat),i≠k->Qs[k]?=some Q'->Q'.ownBlock=some b->v'.ownBlock≠some b:=fun k Q' b hk hq hb e=>by rcases lG b e with e|e;{exact h.xk i k Q Q' b hk hQ hq e hb};{obtain⟨s',tv⟩:∃s',ss[k]?=some s':=⟨_,aO (by rw[<-h.len];exact(aT.1 hq).1)⟩;have:=((h.Vr k s' Q' tv hq).lt b hb).2;omega}
 refine⟨⟨by rw[mB,mB];exact h.len,?_,fun k s' Q' hs hq=>?_,fun k j Q1 Q2 b hkj h1 h2 hb=>?_⟩,(f1.sub ai).trans (f2.sub ai)⟩;{
 have:=RT.put r1 hz (j:=2) ae v' ((s.1,s.2.1,q'),v') (fun _ _ h=>h) (fun c _ he=>by
  unfold sX at he⊢;subst he
  rfl)
 rwa [JC]at this};{rw[qH]at hs hq;by_cases e:i=k;{subst e;rw[bN rfl,bN hi]at hs;rw[bN rfl,bN (by rw[h.len];exact hi)]at hq;cases hs;cases hq;exact JA.fr uw f2};{rw[bH e]at hs hq;have hk:=h.Vr k s' Q' hs hq;refine JA.fr (RT.keep hk (Gi.fr f1 aU) fun b hb=>hg.block b (hk.lt b hb).2 (fun e2=>h.xk i k Q Q' b e hQ hq e2.symm hb)) f2}};{rw[qH]at h1 h2;by_cases e:i=k;{subst e;rw[bN rfl,bN (by rw[h.len];exact hi)]at h1;rw[bH hkj]at h2;cases h1;exact fun e2=>hold j Q2 b hkj h2 e2 hb};{rw[bH e]at h1;by_cases e':i=j;{subst e';rw[bN rfl,bN (by rw[h.len];exact hi)]at h2;cases h2;exact hold k Q1 b e h1 hb};{rw[bH e']at h2;exact h.xk k j Q1 Q2 b hkj h1 h2 hb}}}
def kL.dl{w:World}{g n cap:Nat}(h:kL B w (.T g n cap) ss Qs)(hx:ss[i]?=some s)(d:Int):kL B (w.setCell ⟨g,i*3+1,none⟩ (.I d)) (.T g n cap) (ss.set i (s.1,d,s.2.2)) Qs/\Fr [86] w (w.setCell ⟨g,i*3+1,none⟩ (.I d)):=by
 obtain⟨cur,hc⟩:=h.row.XJ g rfl;have hf:Fr [86] w (w.setCell ⟨g,i*3+1,none⟩ (.I d)):=Fr.set hc ai;have hi:=(aT.1 hx).1;obtain⟨Q,hQ⟩:∃Q,Qs[i]?=some Q:=⟨_,aO (by rw[h.len];exact hi)⟩;have hz:(ss.zip Qs)[i]?=some (s,Q):=by rw[I5];exact⟨hx,hQ⟩
 refine⟨⟨by rw[mB];exact h.len,?_,fun k s' Q' hs hq=>?_,h.xk⟩,hf⟩;{
 have:=RT.put h.row hz (j:=1) ae (.I d) ((s.1,d,s.2.2),Q) (fun _ _ h=>h) (fun c _ he=>by
  unfold sX at he⊢;subst he
  rfl)
 rwa [JC,xQ hQ]at this};{rw[qH]at hs;by_cases e:i=k;{subst e;rw[bN rfl,bN hi]at hs;cases hs;exact JA.fr (h.Vr i s Q' hx hq) hf};{rw[bH e]at hs;exact JA.fr (h.Vr k s' Q' hs hq) hf}}
open Go.Proofs.Tryz
def jE.rdu{w:World}(h:jE B w v l):qT w v l:=by
 rcases h.2 with⟨rfl,h0⟩|⟨g,cap,cur,rfl,hb,hg,hr⟩;{exact⟨none,0,by rw[h0],.inl (tp.1 h0)⟩};{refine⟨_,cap,rfl,.inr ⟨g,0,rfl,fun i hi=>?_⟩⟩;have:=World.ownsRow.cellAt h i ae;rw[lu,this];simp[gj,hi]}
def qT.at{w:World}{n c:Nat}(h:qT w (.S p n c) l)(hx:l[k]?=some x):∃b o,p=some ⟨b,o,none⟩/\w.cell? ⟨b,o+k,none⟩=some (.U x):=by
 obtain⟨p',c',e,hd⟩:=h;have hk:=(aT.1 hx).1;rcases hd with h0|⟨b,o,h1,h2⟩;{rw[h0]at hk;simp at hk};{simp only[dU]at e;have:=h2 k hk;rw[gj,hx,qI]at this;exact⟨b,o,e.1.trans h1,this⟩}
def Ik{x id:Int}(hx:l[k]?=some x)(h:(l.take k).contains id=false)(cg:¬x=id):(l.take (k+1)).contains id=false:=by
 rw[ng,hx,List.contains_append,h];simpa using fun e:id=x=>cg e.symm
def Az{c n:Nat}(en:Hid (l.length=n)){id:Int}{w:World}(h:qT w (.S p n c) l)(hl:n<=1048576){B:Bool}(eB:Hid (l.contains id=B)):Cp 134 #[.S p n c,.U id] w fun r w'=>r=.returned (.bool B)/\Bw w w':=by
 have HR:=af fun(w':World)(hb:Bw w w')=>h.below hb;go_enter func134,ntmps134;go_wp2
 go_loopw[5](fun iv wr=>∃k:Nat,k<=n/\iv=.I k/\Hid ((l.take k).contains id=false)/\Hid (Bw w wr)) (fun iv _=>n-(intOf iv).toNat)
 exact⟨0,gq _,rfl,(by show _=_;simp),cW _ _⟩;{
 obtain⟨k,hk,rfl,hc,aG⟩:=hrel;by_cases aX:k<n;{
 have bu:=aP k n;obtain⟨x,hx⟩:∃x,l[k]?=some x:=⟨_,aO (by rw[aa en];exact aX)⟩;obtain⟨b,o,rfl,zE⟩:=(aa HR _ aG).at hx;have HX:=af hx;by_cases he:x=id;{
 subst he;have Xn:(x==x)=true:=ai;go_wp2;go_ret;refine⟨?_,aG⟩;rw[<-aa eB,List.contains_iff_mem.2 (aS (aa HX))]
 rfl}
 {have cR:=af (Ik HX hc he);go_wp2;go_roundw;exact⟨k+1,ae,by go_num,cR,aG⟩;exact bG}};{have bu:=du k n;have qM:=aa hc;rw[kq (by rw[aa en];omega),aa eB]at qM;subst qM;go_wp2;go_ret;exact⟨rfl,aG⟩}}
def am8{x id:Int}(hx:l[k]?=some x):qE (l.take (k+1)) id=if x=id then qE (l.take k) id else qE (l.take k) id++[x]:=by
 rw[ng,hx,qE,Ua];by_cases h:x=id<;>simp[qE,h]
def DH{id:Int}:(qE l id).length<=l.length:=NI _ _
def vy{c n:Nat}(en:Hid (l.length=n)){id:Int}{w:World}(h:qT w (.S p n c) l)(hl:n<=1048576):Cp 126 #[.S p n c,.U id] w fun r w'=>∃p' c',r=.returned (.S p' (qE l id).length c')/\kM w.heap.size w' (.S p' (qE l id).length c') (qE l id)/\Bw w w':=by
 have HR:=af fun(w':World)(hb:Bw w w')=>h.below hb;go_enter func126,ntmps126;go_wp2
 go_loopw[5,6](fun ov iv wr=>∃(k:Nat)(L:LI),k<=n/\iv=.I k/\Hid (qE (l.take k) id=L)/\Hid (kM w.heap.size wr ov L)/\Hid (Bw w wr)) (fun _ iv _=>n-(intOf iv).toNat)
 exact⟨0,[],gq _,rfl,(by show _=_;simp[qE]),(kM.nil _ _),cW _ _⟩;{
 obtain⟨k,L,hk,rfl,hL,ho,aG⟩:=hrel;obtain⟨pv,cv,rfl⟩:=ho.form;have zr:=aG.size;have AD:L.length<4194304:=by have h1:=DH (l:=l.take k) (id:=id);have h2:=EW k l;rw[aa hL]at h1;have:=aa en;omega
 by_cases aX:k<n;{
 have bu:=aP k n;obtain⟨x,hx⟩:∃x,l[k]?=some x:=⟨_,aO (by rw[aa en];exact aX)⟩;obtain⟨b,o,rfl,zE⟩:=(aa HR _ aG).at hx;have cR:=am8 (id:=id) hx;rw[aa hL]at cR;have pY:=af cR;by_cases he:x=id;{
 subst he;have E1:Hid (qE (l.take (k+1)) x=L):=by have:=aa pY;rwa [bN rfl]at this
 go_wp2;go_roundw;exact⟨k+1,L,ae,by go_num,E1,ho,aG⟩;exact bG};{
 have E1:Hid (qE (l.take (k+1)) id=L++[x]):=by have:=aa pY;rwa [bH he]at this
 go_wp2_with(at_builtin;refine gD rfl rfl (B:=w.heap.size) (.S pv L.length cv) (l:=L) (lm:=L++[x]) (y:=x) (af rfl) wr.heap.size rfl rfl (kM.below (aa ho) (ay.alloc ao _)) ai AD bj ?_);intro p' c' w' o2 ga;have bA:Bw wr (wr.alloc (.cells #[.U x] 28)):=ay.alloc ao _;have b4:=af ((aj (aa aG) bA).grown ga bj (fun b' e=>(ho.lt b' e).1));have O2:=af o2;go_wp2;go_roundw;exact⟨k+1,L++[x],ae,by go_num,E1,O2,b4⟩;exact bG}};{have bu:=du k n;have qM:=aa hL;rw[kq (by rw[aa en];omega)]at qM;subst qM;go_wp2;go_ret;exact⟨_,_,rfl,ho,aG⟩}}
def Dc(id:Int)(s:LI×Bool)(x:Int):LI×Bool:=if s.2=false/\id<=x then(if x=id then(s.1++[id],true)else(s.1++[id]++[x],true))else(if x=id then s else(s.1++[x],s.2))
def WY(l:LI)(id:Int):LI×Bool:=l.foldl (Dc id) ([],false)
theorem xG(id:Int):∀(l acc:LI),l.foldl (Dc id) (acc,true)=(acc++qE l id,true)
 |[],acc=>by simp[qE]
 |x::r,acc=>by rw[Kq];by_cases h:x=id;{rw[show Dc id (acc,true) x=(acc,true) by simp[Dc,h],xG id r acc];simp[qE,h]};{rw[show Dc id (acc,true) x=(acc++[x],true) by simp[Dc,h],xG id r (acc++[x])];simp[qE,h]}
theorem aK9(l:LI)(id:Int):(if(WY l id).2 then(WY l id).1 else(WY l id).1++[id])=vR l id:=by
 have key:∀(l acc:LI),(if(l.foldl (Dc id) (acc,false)).2 then(l.foldl (Dc id) (acc,false)).1 else(l.foldl (Dc id) (acc,false)).1++[id])=acc++vR l id:=by
  intro l
  induction l with
  |nil=>intro acc;simp[vR]
  |cons x r ih=>
   intro acc;rw[Kq,vR];by_cases h:id<=x;{by_cases e:x=id;{rw[show Dc id (acc,false) x=(acc++[id],true) by simp[Dc,e],xG,bN h];simp[qE,e]};{rw[show Dc id (acc,false) x=(acc++[id]++[x],true) by simp[Dc,e,h],xG,bN h];simp[qE,e]}};{have e:¬x=id:=ae;rw[show Dc id (acc,false) x=(acc++[x],false) by simp[Dc,e,h],ih (acc++[x]),bH h];simp}
 have:=key l [];rw[Kv]at this;exact this
def am9{x id:Int}(hx:l[k]?=some x):WY (l.take (k+1)) id=Dc id (WY (l.take k) id) x:=by
 rw[ng,hx,WY,Ul]
 rfl
def an0{id:Int}{s:LI×Bool}:(Dc id s x).1.length<=s.1.length+2:=by
 unfold Dc;split<;>split<;>simp
theorem Tr(id:Int):∀(l:LI)(s:LI×Bool),(l.foldl (Dc id) s).1.length<=s.1.length+2*l.length
 |[],s=>ai
 |x::r,s=>by have:=Tr id r (Dc id s x);have:=an0 (id:=id) (s:=s) (x:=x);rw[Kq,iU];omega
def Ro{c n:Nat}(en:Hid (l.length=n)){id:Int}{w:World}(h:qT w (.S p n c) l)(hl:n<=1048576):Cp 135 #[.S p n c,.U id] w fun r w'=>∃p' c',r=.returned (.S p' (vR l id).length c')/\kM w.heap.size w' (.S p' (vR l id).length c') (vR l id)/\Bw w w':=by
 have HR:=af fun(w':World)(hb:Bw w w')=>h.below hb;go_enter func135,ntmps135;go_wp2
 go_loopw[5,6,7](fun ov dv iv wr=>∃(k:Nat)(L:LI)(d:Bool),k<=n/\iv=.I k/\dv=.bool d/\Hid (WY (l.take k) id=(L,d))/\Hid (kM w.heap.size wr ov L)/\Hid (Bw w wr)) (fun _ _ iv _=>n-(intOf iv).toNat)
 exact⟨0,[],false,gq _,rfl,rfl,bq,(kM.nil _ _),cW _ _⟩;{
 obtain⟨k,L,d,hk,rfl,rfl,hL,ho,aG⟩:=hrel;obtain⟨pv,cv,rfl⟩:=ho.form;have zr:=aG.size;have AD:L.length+1<4194304:=by have h1:=Tr id (l.take k) ([],false);have h2:=EW k l;have h3:=aa hL;unfold WY at h3;rw[h3]at h1;have:=aa en;simp only[yr]at h1;omega
 by_cases aX:k<n;{
 have bu:=aP k n;obtain⟨x,hx⟩:∃x,l[k]?=some x:=⟨_,aO (by rw[aa en];exact aX)⟩;obtain⟨b,o,rfl,zE⟩:=(aa HR _ aG).at hx;have cR:=am9 (id:=id) hx;rw[aa hL]at cR;have pY:=af cR;have HX:=af hx;have AP:∀(y:Int)(wz:World)(Lz:LI)(pz:OA)(cz:Nat),Hid (kM w.heap.size wz (.S pz Lz.length cz) Lz)->Bw w wz->Bw wz (wz.alloc (.cells #[.U y] 28)):=fun y wz Lz pz cz _ _=>ay.alloc ao _;by_cases hd:d=false/\id<=x;{
 obtain⟨rfl,hix⟩:=hd;have dr0:decide (id<=x)=true:=by simpa using hix
 obtain⟨L1,eL1⟩:∃L1,Hid (L1=L++[id]):=⟨_,af rfl⟩;have lL1:=af (by rw[aa eL1];simp:L1.length=L.length+1);go_wp2_with(at_builtin;refine gD rfl rfl (.S pv L.length cv) eL1 wr.heap.size rfl rfl (kM.below (aa ho) (ay.alloc ao _)) ai ae bj ?_);intro p' c' w' o2 ga;have b4:=af ((aj (aa aG) (AP id wr L pv cv ho (aa aG))).grown ga bj (fun b' e=>(ho.lt b' e).1));have O2:=af o2;have z4:=b4.size;have ds6:w'.cell? ⟨b,o+k,none⟩=some (.U x):=by obtain⟨b',o',e',qM⟩:=(aa HR _ b4).at HX;obtain⟨rfl,rfl⟩:=xr e';exact qM
 by_cases he:x=id;{subst he;have E1:=af (by have:=aa pY;rw[aa eL1];simpa[Dc]using this:WY (l.take (k+1)) x=(L1,true));have Xn:(x != x)=false:=ai;go_wp2;go_roundw;exact⟨k+1,L1,true,ae,by go_num,rfl,E1,O2,b4⟩;exact bG};{have E1:=af (by have:=aa pY;rw[aa eL1];simpa[Dc,he,hix]using this:WY (l.take (k+1)) id=(L1++[x],true));obtain⟨L2,eL2⟩:∃L2,Hid (L2=L1++[x]):=⟨_,af rfl⟩;rw[<-aa eL2]at E1;go_wp2_with(at_builtin;refine gD rfl rfl (.S p' L1.length c') eL2 w'.heap.size rfl rfl (kM.below (aa O2) (ay.alloc ao _)) ai (by have:=aa lL1;omega) bj ?_);intro p'' c'' w'' o3 tz;have b5:=af ((aj (aa b4) (AP x w' _ p' c' O2 (aa b4))).grown tz bj (fun b' e=>(O2.lt b' e).1));have O3:=af o3;go_wp2;go_roundw;exact⟨k+1,_,true,ae,by go_num,rfl,E1,O3,b5⟩;exact bG}};{
 have hdd:(!d&&decide (id<=x))=false:=by cases d<;>simp_all
 have hd2:d=true\/¬id<=x:=by cases d<;>simp_all
 by_cases he:x=id;{subst he;have hdt:d=true:=hd2.resolve_right ae;subst hdt;have E1:=af (by have:=aa pY;simpa[Dc]using this:WY (l.take (k+1)) x=(L,true));have Xn:(x != x)=false:=ai;go_wp2;go_roundw;exact⟨k+1,L,true,ae,by go_num,rfl,E1,ho,aG⟩;exact bG};{
 have E1:=af (by have:=aa pY;simpa[Dc,he,hd]using this:WY (l.take (k+1)) id=(L++[x],d));obtain⟨L1,eL1⟩:∃L1,Hid (L1=L++[x]):=⟨_,af rfl⟩;rw[<-aa eL1]at E1;have hdq:d=false->decide (id<=x)=false:=fun e=>by subst e;simpa using hd
 cases d;{have hix:=hdq rfl;go_wp2_with(at_builtin;refine gD rfl rfl (.S pv L.length cv) eL1 wr.heap.size rfl rfl (kM.below (aa ho) (ay.alloc ao _)) ai ae bj ?_);intro p' c' w' o2 ga;have b4:=af ((aj (aa aG) (AP x wr L pv cv ho (aa aG))).grown ga bj (fun b' e=>(ho.lt b' e).1));have O2:=af o2;go_wp2;go_roundw;exact⟨k+1,_,false,ae,by go_num,rfl,E1,O2,b4⟩;exact bG};{go_wp2_with(at_builtin;refine gD rfl rfl (.S pv L.length cv) eL1 wr.heap.size rfl rfl (kM.below (aa ho) (ay.alloc ao _)) ai ae bj ?_);intro p' c' w' o2 ga;have b4:=af ((aj (aa aG) (AP x wr L pv cv ho (aa aG))).grown ga bj (fun b' e=>(ho.lt b' e).1));have O2:=af o2;go_wp2;go_roundw;exact⟨k+1,_,true,ae,by go_num,rfl,E1,O2,b4⟩;exact bG}}}};{have bu:=du k n;have qM:=aa hL;rw[kq (by rw[aa en];omega)]at qM;have hwi:=aK9 l id;rw[qM]at hwi;cases d;{obtain⟨L1,eL1⟩:∃L1,Hid (L1=L++[id]):=⟨_,af rfl⟩;have E1:=af (by rw[aa eL1];simpa using hwi.symm:vR l id=L1);go_wp2_with(at_builtin;refine gD rfl rfl (.S pv L.length cv) eL1 wr.heap.size rfl rfl (kM.below (aa ho) (ay.alloc ao _)) ai ae bj ?_);intro p' c' w' o2 ga;have b4:=af ((aj (aa aG) ((cW wr.heap.size wr).alloc ao _)).grown ga bj (fun b' e=>(ho.lt b' e).1));have O2:=af o2;go_wp2;go_ret;rw[aa E1];exact⟨_,_,rfl,O2,b4⟩};{have E1:=af (by simpa using hwi.symm:vR l id=L);go_wp2;go_ret;rw[aa E1];exact⟨_,_,rfl,ho,aG⟩}}}
def Ii{α:Type}(f:α->α)(k:Nat)(xs:List α):List α:=(xs.take k).map f++xs.drop k
def aw5{α:Type}(f:α->α){xs:List α}{x:α}(h:xs[k]?=some x):(Ii f k xs)[k]?=some x:=by
 have hk:=(aT.1 h).1;rw[Ii,mE bj,fe,pK,YU ae,Kt];simpa using h
def Wm{α:Type}(f:α->α){xs:List α}{x:α}(h:xs[k]?=some x):Ii f (k+1) xs=(Ii f k xs).set k (f x):=by
 obtain⟨hk,e⟩:=aT.1 h;rw[Ii,Ii,ng,h,N8 _ _ bj,fe,pK,YU ae,Au,Rm hk,Ff,ko];simp
def ad3{α:Type}(f:α->α){xs:List α}(h:xs.length<=k):Ii f k xs=xs.map f:=by
 rw[Ii,kq h,YT h,CE]
def aC(w:World)(cs:Array Value)(ty:TypeId):∃W,W=w.alloc (.cells cs ty)/\Bw w W/\W.heap.size=w.heap.size+1/\al W w.heap.size cs.toList/\W.heap[w.heap.size]?=some (.cells cs ty):=
 ⟨_,rfl,ay.alloc ao _,ai,al.alloc w cs ty,by show(w.heap.push _)[w.heap.size]?=_;simp⟩
def al.dM{w w':World}(h:al w b vs)(hk:w'.heap[b]?=w.heap[b]?):al w' b vs:=
 ⟨fun i v hi=>(aE hk _).trans (h.1 i v hi),fun o=>(World.frozen?_of_block hk).trans (h.2 o)⟩
def dX(w:World)(b:Nat)(v0 v1 v2 v3 v4 v5:Value):World:=(((((w.setCell ⟨b,0,none⟩ v0).setCell ⟨b,1,none⟩ v1).setCell ⟨b,2,none⟩ v2).setCell ⟨b,3,none⟩ v3).setCell ⟨b,4,none⟩ v4).setCell ⟨b,5,none⟩ v5
def dz{w:World}(b:Nat)(v0 v1 v2 v3 v4 v5:Value):Below b w (dX w b v0 v1 v2 v3 v4 v5):=
 ((((((cW b w).setCell (p:=⟨b,0,none⟩) ao _).setCell (p:=⟨b,1,none⟩) ao _).setCell (p:=⟨b,2,none⟩) ao _).setCell (p:=⟨b,3,none⟩) ao _).setCell (p:=⟨b,4,none⟩) ao _).setCell (p:=⟨b,5,none⟩) ao _
def dm{w:World}(h:∃cur,w.heap[b]?=some (.cells cur ty)):(∃cur,(w.setCell ⟨b,j,none⟩ u).heap[b]?=some (.cells cur ty))/\Fr [ty] w (w.setCell ⟨b,j,none⟩ u):=by
 obtain⟨cur,hc⟩:=h;refine⟨?_,Fr.set hc ai⟩;simp only[World.setCell,we,pG,hc,Cy];exact⟨_,rfl⟩
def jq{w:World}(h:w.heap[b]?=some (.cells cur ty)):Fr [ty] w (dX w b v0 v1 v2 v3 v4 v5):=by
 have a0:=dm (j:=0) (u:=v0) ⟨cur,h⟩;have a1:=dm (j:=1) (u:=v1) a0.1;have a2:=dm (j:=2) (u:=v2) a1.1;have a3:=dm (j:=3) (u:=v3) a2.1;have a4:=dm (j:=4) (u:=v4) a3.1;have a5:=dm (j:=5) (u:=v5) a4.1;exact((((a0.2.trans a1.2).trans a2.2).trans a3.2).trans a4.2).trans a5.2
def al.d6{w:World}(h:al w b (v0::v1::v2::v3::v4::v5::vs)):w.cell? ⟨b,0,none⟩=some v0/\w.cell? ⟨b,1,none⟩=some v1/\w.cell? ⟨b,2,none⟩=some v2/\w.cell? ⟨b,3,none⟩=some v3/\w.cell? ⟨b,4,none⟩=some v4/\w.cell? ⟨b,5,none⟩=some v5/\∀o,w.frozen? ⟨b,o,none⟩=false:=
 ⟨h.1 0 _ rfl,h.1 1 _ rfl,h.1 2 _ rfl,h.1 3 _ rfl,h.1 4 _ rfl,h.1 5 _ rfl,h.2⟩
def ap2{w:World}(h:al w b [o0,o1,o2,o3,o4,o5]):al (dX w b v0 v1 v2 v3 v4 v5) b [v0,v1,v2,v3,v4,v5]:=
 (((((h.fK 0 ai v0).fK 1 ai v1).fK 2 ai v2).fK 3 ai v3).fK 4 ai v4).fK 5 ai v5
def Nh{w:World}(h:al w b' vs)(cg:b'≠b):al (dX w b v0 v1 v2 v3 v4 v5) b' vs:=
 (((((h.xk (a:=⟨b,0,none⟩) cg v0).xk (a:=⟨b,1,none⟩) cg v1).xk (a:=⟨b,2,none⟩) cg v2).xk (a:=⟨b,3,none⟩) cg v3).xk (a:=⟨b,4,none⟩) cg v4).xk (a:=⟨b,5,none⟩) cg v5
def rG{w:World}:(dX w b v0 v1 v2 v3 v4 v5).heap.size=w.heap.size:=by simp[dX]
def lh{w:World}(cg:b'≠b):(dX w b v0 v1 v2 v3 v4 v5).heap[b']?=w.heap[b']?:=by
 unfold dX
 iterate 6 rw[fy _ _ _ _ (show b'≠_ from cg)]
def Ej{w:World}(h:∃cur,w.heap[b]?=some (.cells cur ty)):∃cur,(dX w b v0 v1 v2 v3 v4 v5).heap[b]?=some (.cells cur ty):=
 (dm (dm (dm (dm (dm (dm h).1).1).1).1).1).1
def gK.at{w:World}{n c:Nat}(h:gK B0 B w (.S p n c) ns)(hx:ns[i]?=some nd):∃g P V H U,p=some ⟨g,0,none⟩/\n=ns.length/\n<=c/\w.cell? ⟨g,i*8,none⟩=some P/\w.cell? ⟨g,i*8+1,none⟩=some V/\w.cell? ⟨g,i*8+2,none⟩=some (.U nd.owner)/\w.cell? ⟨g,i*8+3,none⟩=some (.I nd.mode)/\w.cell? ⟨g,i*8+4,none⟩=some H/\w.cell? ⟨g,i*8+5,none⟩=some (.U nd.aJ)/\w.cell? ⟨g,i*8+6,none⟩=some (.U nd.gen)/\w.cell? ⟨g,i*8+7,none⟩=some U/\TB w P nd.path/\TB w V nd.value/\TU B0 w H nd.holders/\TU B0 w U nd.watchers/\∀o,w.frozen? ⟨g,o,none⟩=false:=by
 obtain⟨p',c',e,hc,-,hp⟩:=h.form;simp only[dU]at e;obtain⟨rfl,rfl,rfl⟩:=e;obtain⟨g,rfl⟩:=hp (by have:=(aT.1 hx).1;omega);obtain⟨cs,-,⟨P,V,H,U,rfl,h1,h2,h3,h4⟩,Dz,hf⟩:=RT.at h hx;exact⟨g,P,V,H,U,rfl,rfl,hc,Dz 0 _ rfl,Dz 1 _ rfl,Dz 2 _ rfl,Dz 3 _ rfl,Dz 4 _ rfl,Dz 5 _ rfl,Dz 6 _ rfl,Dz 7 _ rfl,h1,h2,h3,h4,hf⟩
def TB.iB{w:World}(h:TB w v l):∃p c,v=.S p l.length c:=by
 obtain⟨⟨p,c,e,-⟩,-⟩:=h;exact⟨p,c,e⟩
def gK.rdn{w:World}(h:gK B0 B w v ns):qz w v ns:=by
 obtain⟨p,c,rfl,-,-,hp⟩:=RT.form h;refine⟨p,c,rfl,?_⟩;by_cases h0:ns=[];{exact .inl h0};{obtain⟨g,rfl⟩:=hp (Ub.2 h0);refine .inr ⟨g,0,rfl,fun i nd hi=>?_⟩;obtain⟨g',P,V,H,U,e,-,-,c0,c1,c2,c3,c4,c5,c6,c7,tP,tV,tH,tU,-⟩:=gK.at h hi;obtain⟨rfl,-⟩:=xr e;rw[lu];exact⟨P,V,H,U,c0,c1,c2,c3,c4,c5,c6,c7,tP.1,tV.1,tH.1,tU.1,tP.2.2⟩}
def TU.iB{w:World}(h:TU B w v l):∃p c,v=.S p l.length c:=by
 obtain⟨⟨p,c,e,-⟩,-⟩:=h;exact⟨p,c,e⟩
def Wj(ss:List aR)(id:Int)(ev:Ev):(FM ss id ev).length=ss.length:=by simp[FM]
theorem uM(ids:LI)(ev:Ev):∀ss:List aR,(rr ss ids ev).length=ss.length:=by
 unfold rr
 induction ids with
 |nil=>intro ss;rfl
 |cons a r ih=>intro ss;rw[Kq,ih,Wj]
def xL(e g x t:Int){n c:Nat}{q:OA}(en:Hid (ss.length=n))(kd:Int)(nd:aB)(hk:Hid (ns[k]?=some nd))(B:Nat)(w:World)(hS:Hid (kL B w (.S p n c) ss Qs))(hN:Hid (AW B w (.S q m d) ns))(hB:B<=w.heap.size)(hn:n<=1048576)(hm:m<=1048576)(hp:nd.path.length<=1048576)(hw:nd.watchers.length<=0):Cp 128 #[gh e g x t (.S p n c) (.S q m d),.I k,.I kd] w fun r w'=>r=.returned (gh e g x t (.S p n c) (.S q m d))/\(∃Tj,kL B w' (.S p n c) (rr ss nd.watchers (kd,nd.path)) Tj)/\AW B w' (.S q m d) (ns.set k {nd with watchers:=[]})/\Fr [165,86,93] w w'/\Below B w w':=by
 obtain⟨gn,Pv,Vv,Hv,Uv,rfl,em,hmd,c0,-,-,-,-,-,-,c7,tP,-,-,tU,cfz⟩:=gK.at hN hk;have hkm:k<m:=by rw[em];exact(aT.1 (aa hk)).1
 have aQ7:=aP k m;clear em;obtain⟨pe,ce,rfl⟩:=tP.iB;obtain⟨pu,cu,rfl⟩:=tU.iB;obtain⟨ne,eP⟩:=cK nd.path.length;obtain⟨nu,eU⟩:=cK nd.watchers.length;rw[aa eP]at hp tP c0;rw[aa eU]at hw tU c7;obtain rfl:nu=0:=ae;have Xm:gn<w.heap.size:=(hN.lt gn rfl).2;obtain⟨W0,dV,b0,z0,C0,T0⟩:=aC w #[.U e,.U g,.U x,.I t,.S p n c,.T gn m d] 32;obtain⟨W1,mR,b1,z1,C1,T1⟩:=aC W0 #[.U 0,.U 0,.U 0,.I 0,.S none 0 0,.S none 0 0] 32;obtain⟨W2,pR,b2,z2,C2,T2⟩:=aC W1 #[.I kd,.S pe ne ce] 165;rw[z0]at C1 T1 z1;rw[z1]at C2 T2 z2;have bW:=aj (aj b0 b1) b2;have k0:=fun(ob o2:Obj)=>ag (ag c0 ((cW _ w).alloc ao ob)) (ay.alloc ao o2);have k7:=fun(ob o2 o3:Obj)=>ag (ag (ag c7 ((cW _ w).alloc ao ob)) (ay.alloc ao o2)) (ay.alloc ao o3);have kz:=fun(ob o2 o3:Obj)=>((((((cW w.heap.size w).alloc ao ob).alloc ai o2).alloc bj o3)).frozen (p:=⟨gn,k*8+7,none⟩) Xm).trans (cfz _);have NW:=hN.fr (aK bW);obtain⟨NX,FX⟩:=gK.put NW hk (j:=7) ae (.S none 0 0) {nd with watchers:=[]} (fun w' P V H U h1 h2 h3 h4 _=>⟨P,V,H,.S none 0 0,rfl,h1,h2,h3,TU.nil _⟩);obtain⟨X,hX⟩:=au (W2.setCell ⟨gn,k*8+7,none⟩ (.S none 0 0));rw[<-hX]at NX FX;have SX:=(hS.fr (aK bW)).fr FX;have cg:∀b,w.heap.size<=b->X.heap[b]?=W2.heap[b]?:=fun b hb=>by rw[hX];exact fy _ _ _ _ (by show b≠gn;omega)
 have HX:=af (ah NX SX);have HC:=af (ah (((C0.below ae b1).below ae b2).dM (cg _ ao)) (ah ((C1.below ae b2).dM (cg _ ae)) jW));have HT:=af (ah ((cg _ ao).trans ((b2.block _ ae).trans ((b1.block _ ae).trans T0))) (ah ((cg _ ae).trans ((b2.block _ ae).trans T1)) jW));have BX:Below B w X:=by rw[hX];exact(bW.mono hB).setCell (hN.lt gn rfl).1 _
 have FW:Fr [165,86,93] w X:=(Fr.below bW).trans (FX.sub ai);have zX:X.heap.size=w.heap.size+3:=by rw[hX];simp;omega
 clear b0 b1 b2 C0 C1 C2 T0 T1 T2 NX SX NW cg c0 c7 cfz tP tU;go_enter func128,ntmps128;go_wp2;rw[<-dV,<-mR,<-pR,<-hX];clear dV mR pR hX k0 k7 kz
 go_loopw[9](fun iv wr=>iv=.I 0/\wr=X) (fun _ _=>0)
 exact⟨rfl,rfl⟩;{obtain⟨rfl,rfl⟩:=hrel;obtain⟨k0,k1,k2,k3,k4,k5,kf⟩:=HC.1.d6;obtain⟨q0,q1,q2,q3,q4,q5,rf⟩:=HC.2.1.d6;go_wp2;have hF:=jq (v0:=.U e) (v1:=.U g) (v2:=.U x) (v3:=.I t) (v4:=.S p n c) (v5:=.T gn m d) HT.2.1;have Qi:Below (w.heap.size+1) wr (dX wr (w.heap.size+1) (.U e) (.U g) (.U x) (.I t) (.S p n c) (.T gn m d)):=dz _ _ _ _ _ _ _;refine fL (v:=gh e g x t (.S p n c) (.T gn m d)) (by simp[results,results128,go_sem,q0,q1,q2,q3,q4,q5]) rfl ?_;refine⟨rfl,⟨Qs,?_⟩,HX.1.fr hF,⟨fW FW.1 Qi.size,fun b cur ty mm ht hb=>(Qi.block b (by have:=kH hb;omega)).trans (FW.2 b cur ty mm ht hb)⟩,BX.trans (Qi.mono ae)⟩;rw[Ku (aa eU)];exact HX.2.fr hF}
def gP{w:World}{rest:List Oper}{Q:Exit->Act->World->Prop}(mr:o.guard=none){s x:Operand}(ho:o.op=.call {callee:=.builtin .append,args:=#[s,x],argTypes:=#[30,30]})(v:Value)(ek:Hid (ns.length=k))(hs:a.eval s=v)(bO:gK B0 B w v ns)(g:Nat){cs:List Value}(hx:a.eval x=.T g 1 1)(tL:mT B0 w nd cs)(iW:∀j u,cs[j]?=some u->w.cell? ⟨g,j,none⟩=some u)(hk:k<4194304)(hB:B<=w.heap.size)(h:∀p' c' w',gK B0 B w' (.S p' (k+1) c') (ns++[nd])->w.grownBy w' v.ownBlock->Fr [93] w w'->wpList prog ops Q rest (a.put o.dst (.S p' (k+1) c')) w'):wpList prog ops Q (o::rest) a w:=by
 obtain⟨i,hi,nO,iL,ju⟩:=info_parts Tryz.infoNod;have ht:=bO.XJ;obtain⟨rs,h1,h2,h3,h4⟩:=bO;have Qh:cs.length=8/\∀u∈cs,u.oneCell'=true:=by obtain⟨P,V,H,U,rfl,a1,a2,a3,a4⟩:=tL;obtain⟨_,_,rfl⟩:=a1.iB;obtain⟨_,_,rfl⟩:=a2.iB;obtain⟨_,_,rfl⟩:=a3.iB;obtain⟨_,_,rfl⟩:=a4.iB;exact⟨rfl,fun u hu=>by simp at hu;rcases hu with rfl|rfl|rfl|rfl|rfl|rfl|rfl|rfl<;>rfl⟩
 rw[aa ek]at h3;refine cI mr 30 ho i 8 underlying30 hi nO iL ju rfl aU v hs h3 g 1 1 cs hx Qh.1 iW Qh.2 ic ae hB ?_;intro v' w' dh hg _;have hf:Fr [93] w w':=Fr.grown hg fun b hb=>by obtain⟨cur,hc⟩:=ht b hb;exact⟨cur,_,hc,ai⟩
 have sn:gK B0 B w' v' (ns++[nd]):=RT.snoc h1 h2 h4 (mT.fr hf aU aU) tL Qh.1 (by rw[aa ek];exact dh);obtain⟨p',c',rfl,-⟩:=RT.form sn;rw[ig,aa ek]at sn⊢;exact h p' c' w' sn hg hf
def ao8(h:ns[j]?=some nd):(ns.take (j+1)).eraseIdx k=if j=k then(ns.take j).eraseIdx k else(ns.take j).eraseIdx k++[nd]:=by
 have hj:=(aT.1 h).1;have hl:(ns.take j).length=j:=by rw[pK];omega
 rw[ng,h,Option.toList_some];by_cases e:j=k;{subst e;rw[bN rfl,aD1 ae,hl,Au,YR (l:=ns.take j) ae];simp};{rw[bH e];by_cases e2:k<j;{rw[List.eraseIdx_append_of_lt_length ae]};{rw[aD1 ae,hl,YR (l:=ns.take j) ae,YR bj]}}
def Ee{n c:Nat}{q:OA}(em:Hid (ns.length=m)){w:World}(hN:Hid (AW B w (.S q m d) ns))(hm:m<=1048576):Cp 129 #[gh e g x t (.S p n c) (.S q m d),.I k] w fun r w'=>∃p' c',r=.returned (gh e g x t (.S p n c) (.S p' (ns.eraseIdx k).length c'))/\gK B w.heap.size w' (.S p' (ns.eraseIdx k).length c') (ns.eraseIdx k)/\Bw w w':=by
 obtain⟨W0,dV,b0,z0,C0,T0⟩:=aC w #[.U e,.U g,.U x,.I t,.S p n c,.S q m d] 32;obtain⟨W1,mR,b1,z1,C1,T1⟩:=aC W0 #[.U 0,.U 0,.U 0,.I 0,.S none 0 0,.S none 0 0] 32;rw[z0]at C1 T1 z1;have bW:=af (aj b0 b1);have HC:=af (ah (C0.below ae b1) C1);have HT:=af (ah ((b1.block _ ae).trans T0) T1);go_enter func129,ntmps129;go_wp2;rw[<-dV,<-mR]
 go_loopw[5,6](fun ov iv wr=>∃(j:Nat)(L:List aB)(nl:Nat)(po:OA)(co:Nat),j<=m/\iv=.I j/\ov=.S po nl co/\Hid (L.length=nl)/\Hid ((ns.take j).eraseIdx k=L)/\Hid (gK B (w.heap.size+2) wr (.S po nl co) L)/\Hid (Below (w.heap.size+2) W1 wr)) (fun _ iv _=>m-(intOf iv).toNat)
 exact⟨0,[],0,none,0,gq _,rfl,rfl,af rfl,(by show _=_;simp),RT.nil _ _ _ _ _,cW _ _⟩;{
 obtain⟨j,L,nl,po,co,hj,rfl,rfl,jH,hL,ho,aG⟩:=hrel;have zr:=aG.size;have AD:nl<4194304:=by have h1:=(EP (ns.take j) k).length_le;have h2:=EW j ns;rw[aa hL,aa jH]at h1;omega
 have HCr:=af (ah (HC.1.below ae (aG.mono ae:Bw W1 wr)) (HC.2.below ae (aG.mono ae:Bw W1 wr)));have s5:=HCr.1.1 5 _ rfl;by_cases aX:j<m;{
 have bu:=aP j m;obtain⟨nd,br⟩:∃nd,ns[j]?=some nd:=⟨_,aO (by rw[aa em];exact aX)⟩;have cR:=ao8 (k:=k) br;rw[aa hL]at cR;have pY:=af cR;by_cases he:j=k;{
 have E1:Hid ((ns.take (j+1)).eraseIdx k=L):=by have:=aa pY;rwa [bN he]at this
 have Xn:((j:Int) != (k:Int))=false:=by simp;omega
 go_wp2;go_roundw;exact⟨j+1,L,nl,po,co,ae,by go_num,rfl,jH,E1,ho,aG⟩;exact bG};{
 have E1:Hid ((ns.take (j+1)).eraseIdx k=L++[nd]):=by have:=aa pY;rwa [bH he]at this
 have Xn:((j:Int) != (k:Int))=true:=by simp;omega
 have bwr:Bw w wr:=bW.trans (aG.mono ae);obtain⟨gn,P,V,H,U,rfl,-,-,c0,c1,c2,c3,c4,c5,c6,c7,tP,tV,tH,tU,-⟩:=gK.at (hN.fr (aK bwr)) br;obtain⟨pP,cP,rfl⟩:=tP.iB;obtain⟨pV,cV,rfl⟩:=tV.iB;obtain⟨pH,cH,rfl⟩:=tH.iB;obtain⟨pU,cU,rfl⟩:=tU.iB;obtain⟨v3,kx⟩:=au (wr.alloc (.cells #[.S pP nd.path.length cP,.S pV nd.value.length cV,.U nd.owner,.I nd.mode,.S pH nd.holders.length cH,.U nd.aJ,.U nd.gen,.S pU nd.watchers.length cU] 93));have b3:=dO kx;have HX:=af (ah (ho.fr (aK b3)) (ah (show mT B v3 nd [.S pP nd.path.length cP,.S pV nd.value.length cV,.U nd.owner,.I nd.mode,.S pH nd.holders.length cH,.U nd.aJ,.U nd.gen,.S pU nd.watchers.length cU]from⟨_,_,_,_,rfl,tP.fr (aK b3),tV.fr (aK b3),tH.fr (aK b3),tU.fr (aK b3)⟩) (show al v3 wr.heap.size _ by rw[kx];exact al.alloc wr _ _)));have UC:=af fun b e=>(ho.lt b e).1;have b3':=af b3;have z3:=b3.size;go_wp2_with(at_builtin;rw[<-kx];refine gP rfl rfl (.S po nl co) jH rfl HX.1 wr.heap.size rfl HX.2.1 HX.2.2.1 AD ae ?_);intro p' c' w' o2 ga _;rw[<-kx]at ga;have b4:=af ((aG.trans (b3'.mono ae)).grown ga ae UC);have O2:=af o2;go_wp2;go_roundw;exact⟨j+1,L++[nd],nl+1,p',c',ae,by go_num,rfl,af (by rw[ig,aa jH];rfl),E1,O2,b4⟩;exact bG}};{have bu:=du j m;have qM:=aa hL;rw[kq (by rw[aa em];omega)]at qM;obtain⟨K0,kf⟩:=HCr.1;obtain⟨R0,rf⟩:=HCr.2;have k0:=K0 0 _ rfl;have k1:=K0 1 _ rfl;have k2:=K0 2 _ rfl;have k3:=K0 3 _ rfl;have k4:=K0 4 _ rfl;have q0:=R0 0 _ rfl;have q1:=R0 1 _ rfl;have q2:=R0 2 _ rfl;have q3:=R0 3 _ rfl;have q4:=R0 4 _ rfl;have q5:=R0 5 _ rfl;have HB0:=af (ah ((aG.block _ ae).trans HT.1) ((aG.block _ ae).trans HT.2));go_wp2;subst qM;have en:=aa jH;subst en;have f1:=dm (j:=5) (u:=.S po (ns.eraseIdx k).length co) ⟨_,HB0.1⟩;have t1:(wr.setCell ⟨w.heap.size,5,none⟩ (.S po (ns.eraseIdx k).length co)).heap[w.heap.size+1]?=_:=(fy _ _ _ _ (by show w.heap.size+1≠w.heap.size;omega)).trans HB0.2;have f2:=jq (v0:=.U e) (v1:=.U g) (v2:=.U x) (v3:=.I t) (v4:=.S p n c) (v5:=.S po (ns.eraseIdx k).length co) t1;have Qi:=((bW.trans (aG.mono ae)).setCell (p:=⟨w.heap.size,5,none⟩) ao (.S po (ns.eraseIdx k).length co)).trans ((dz (w.heap.size+1) (.U e) (.U g) (.U x) (.I t) (.S p n c) (.S po (ns.eraseIdx k).length co)).mono ae);refine fL (v:=gh e g x t (.S p n c) (.S po (ns.eraseIdx k).length co)) (by simp[results,results129,go_sem,q0,q1,q2,q3,q4,q5]) rfl ?_;exact⟨po,co,rfl,((ho.fr f1.2).fr f2).mono ae,Qi⟩}}
def kL.at{w:World}{n c:Nat}(h:kL B w (.S p n c) ss Qs)(hx:ss[i]?=some s):∃g Q,p=some ⟨g,0,none⟩/\n=ss.length/\n<=c/\Qs[i]?=some Q/\w.cell? ⟨g,i*3,none⟩=some (.U s.1)/\w.cell? ⟨g,i*3+1,none⟩=some (.I s.2.1)/\w.cell? ⟨g,i*3+2,none⟩=some Q/\JA B w Q s.2.2/\∀o,w.frozen? ⟨g,o,none⟩=false:=by
 have hi:=(aT.1 hx).1;obtain⟨Q,hQ⟩:∃Q,Qs[i]?=some Q:=⟨_,aO (by rw[h.len];exact hi)⟩;have hz:(ss.zip Qs)[i]?=some (s,Q):=by rw[I5];exact⟨hx,hQ⟩
 have hl:(ss.zip Qs).length=ss.length:=by rw[NG,h.len];simp
 obtain⟨p',c',e,hc,-,hp⟩:=h.row.form;rw[hl]at e hc hp;simp only[dU]at e;obtain⟨rfl,rfl,rfl⟩:=e;obtain⟨g,rfl⟩:=hp ae;obtain⟨cs,-,he,Dz,hf⟩:=RT.at h.row hz;unfold sX at he;subst he;exact⟨g,Q,rfl,rfl,hc,hQ,Dz 0 _ rfl,Dz 1 _ rfl,Dz 2 _ rfl,h.Vr i s Q hx hQ,hf⟩
def vU(ss:List aR)(id:Int):Int:=match ss.findIdx? (fun s=>s.1==id)with
 |some i=>i
 |none=>-1
def ao6{id:Int}(h:ss[j]?=some s)(hs:s.1=id)(la:∀(i:Nat)(s':aR),i<j->ss[i]?=some s'->¬s'.1=id):vU ss id=j:=by
 have hj:=(aT.1 h);have:ss.findIdx? (fun s=>s.1==id)=some j:=by rw[Bu];refine⟨hj.1,by rw[hj.2];simp[hs],fun i hi=>?_⟩;have:=la i _ hi (aO (by have:=hj.1;omega));simpa using this
 rw[vU,this]
def Yg{id:Int}(la:∀(i:Nat)(s':aR),ss[i]?=some s'->¬s'.1=id):vU ss id=-1:=by
 have:ss.findIdx? (fun s=>s.1==id)=none:=by rw[T9];intro x hx;obtain⟨i,hi⟩:=gv.1 hx;simpa using la i x hi
 rw[vU,this]
def Q0{n c:Nat}{q:OA}(en:Hid (ss.length=n)){id:Int}{w:World}(hS:Hid (kL B w (.S p n c) ss Qs))(hn:n<=1048576):Cp 87 #[gh e g x t (.S p n c) (.S q m d),.U id] w fun r w'=>r=.returned (.I (vU ss id))/\Bw w w':=by
 obtain⟨W0,dV,b0,z0,C0,T0⟩:=aC w #[.U e,.U g,.U x,.I t,.S p n c,.S q m d] 32;have bW:=af b0;have HC:=af C0;clear b0 C0 T0;go_enter func87,ntmps87;go_wp2;rw[<-dV];clear dV
 go_loopw[5](fun iv wr=>∃j:Nat,j<=n/\iv=.I j/\Hid (∀(i:Nat)(s':aR),i<j->ss[i]?=some s'->¬s'.1=id)/\Hid (Bw W0 wr)) (fun iv _=>n-(intOf iv).toNat)
 exact⟨0,gq _,rfl,(fun i s' h=>absurd h ae),cW _ _⟩;{
 obtain⟨j,hj,rfl,la,aG⟩:=hrel;have s4:=(HC.below ae aG).1 4 _ rfl;by_cases aX:j<n;{
 have bu:=aP j n;obtain⟨s,hs⟩:∃s,ss[j]?=some s:=⟨_,aO (by rw[aa en];exact aX)⟩;have bwr:Bw w wr:=aj bW aG;obtain⟨gs,Q,rfl,-,-,-,c0,-⟩:=kL.at (hS.fr (aK bwr)) hs;have HB:=af bwr;have HS:=af hs;clear hs bwr;obtain⟨I,J,K⟩:=s;by_cases he:I=id;{
 subst he;have Xn:(I==I)=true:=ai;go_wp2;go_ret;refine⟨?_,HB⟩;rw[ao6 (aa HS) rfl (aa la)]
 rfl}
 {
 have ZN:Hid (∀(i:Nat)(s':aR),i<j+1->ss[i]?=some s'->¬s'.1=id):=fun i s' hi h=>by by_cases e2:i=j;{subst e2;rw[aa HS]at h;cases h;exact he};{exact la i s' ae h}
 go_wp2;go_roundw;exact⟨j+1,ae,by go_num,ZN,aG⟩;exact bG}};{have bu:=du j n;have HE:=af (Yg (fun i s' h=>aa la i s' (by have:=(aT.1 h).1;rw[aa en]at this;omega) h));have HB:Hid (Bw w wr):=aj bW aG;go_wp2;go_ret;exact⟨by rw[aa HE];rfl,aa HB⟩}}
def kM.tu{w:World}(h:kM B w v l)(hB:B'<=B):TU B' w v l:=by
 refine⟨h.1.rdu,?_,h.2,?_⟩;{intro b e;rcases h.1.2 with⟨rfl,-⟩|⟨g,cap,cur,rfl,-,hg,-⟩;{simp[Value.ownBlock]at e};{simp only[Value.ownBlock,jU]at e;subst e;exact⟨cur,hg⟩}};{intro b e;rcases h.1.2 with⟨rfl,-⟩|⟨g,cap,cur,rfl,hb,-⟩;{simp[Value.ownBlock]at e};{simp only[Value.ownBlock,jU]at e;subst e;exact fW hB hb}}
def gK.Rc{w:World}{g n cap:Nat}{nd0:aB}(h:gK B0 B w (.T g n cap) (ns.set k nd))(hk:ns[k]?=some nd0)(hj:j<8)(u:Value)(nd':aB)(hn:∀w' P V H U,TB w' P nd.path->TB w' V nd.value->TU B0 w' H nd.holders->TU B0 w' U nd.watchers->Fr [93] w w'->mT B0 w' nd' ([P,V,.U nd.owner,.I nd.mode,H,.U nd.aJ,.U nd.gen,U].set j u)):gK B0 B (w.setCell ⟨g,k*8+j,none⟩ u) (.T g n cap) (ns.set k nd')/\Fr [93] w (w.setCell ⟨g,k*8+j,none⟩ u):=by
 have:=gK.put h (i:=k) (nd:=nd) (by rw[qH];simp[(aT.1 hk).1]) hj u nd' hn;rwa [I0]at this
def aw6{T:List TypeId}{w wr:World}(hF:Fr T w wr)(nF:Below B w wr)(hb:w.heap.size<=b)(hB:B<=w.heap.size)(ht:wr.heap[b]?=some (.cells cur 32))(v0 v1 v2 v3 v4 v5:Value):Fr T w (dX wr b v0 v1 v2 v3 v4 v5)/\Below B w (dX wr b v0 v1 v2 v3 v4 v5)/\Fr [32] wr (dX wr b v0 v1 v2 v3 v4 v5):=by
 have Qi:=dz (w:=wr) b v0 v1 v2 v3 v4 v5;exact⟨⟨fW hF.1 Qi.size,fun b' cur ty mm ht bL=>(Qi.block b' (by have:=kH bL;omega)).trans (hF.2 b' cur ty mm ht bL)⟩,nF.trans (Qi.mono ae),jq ht⟩
def Gl{id:Int}(hk:D.ns[k]?=some nd)(h:nd.holders.contains id=false):dN D k id=D:=by
 unfold dN;rw[hk];simp only[h,Hj,wu]
def Gk{id:Int}(hk:D.ns[k]?=some nd)(h:nd.holders.contains id=true)(h2:qE nd.holders id≠[]):dN D k id={D with ns:=D.ns.set k {nd with holders:=qE nd.holders id}}:=by
 unfold dN;rw[hk];simp only[h,pG,bH h2]
def Gm{id:Int}(hk:D.ns[k]?=some nd)(h:nd.holders.contains id=true)(h2:qE nd.holders id=[]):dN D k id={D with ss:=rr D.ss nd.watchers (3,nd.path),ns:=D.ns.set k {nd with holders:=[],mode:=0,aJ:=0,gen:=0,watchers:=[]}}:=by
 unfold dN;rw[hk];simp only[h,pG,bN h2];unfold dR;have dA:=(aT.1 hk).1;simp only[qH,dA,pG,I0]
def Ps{n c:Nat}{q:OA}(en:Hid (ss.length=n)){id:Int}(hk:Hid (ns[k]?=some nd)){w:World}(hS:Hid (kL B w (.S p n c) ss Qs))(hN:Hid (AW B w (.S q m d) ns))(hB:B<=w.heap.size)(hn:n<=1048576)(hm:m<=1048576)(hp:nd.path.length<=1048576)(hw:nd.watchers.length<=0)(hh:nd.holders.length<=1048576):Cp 127 #[gh e g x t (.S p n c) (.S q m d),.I k,.U id] w fun r w'=>r=.returned (gh e g x t (.S p n c) (.S q m d))/\(∃Tj,kL B w' (.S p n c) (dN ⟨e,g,x,t,ss,ns⟩ k id).ss Tj)/\AW B w' (.S q m d) (dN ⟨e,g,x,t,ss,ns⟩ k id).ns/\Fr [165,86,93] w w'/\Below B w w':=by
 obtain⟨gn,Pv,Vv,Hv,Uv,rfl,em,hmd,-,-,-,-,c4,-,-,-,-,-,tH,-,cfz⟩:=gK.at hN hk;have hkm:k<m:=by rw[em];exact(aT.1 (aa hk)).1
 have aQ7:=aP k m;clear em;obtain⟨ph,ch,rfl⟩:=tH.iB;obtain⟨nh,eH⟩:=cK nd.holders.length;rw[aa eH]at hh tH c4;have Xm:gn<w.heap.size:=(hN.lt gn rfl).2;have La:=(hN.lt gn rfl).1;obtain⟨W0,dV,b0,z0,C0,T0⟩:=aC w #[.U e,.U g,.U x,.I t,.S p n c,.T gn m d] 32;obtain⟨W1,mR,b1,z1,C1,T1⟩:=aC W0 #[.U 0,.U 0,.U 0,.I 0,.S none 0 0,.S none 0 0] 32;rw[z0]at C1 T1 z1;have bW:=af (aj b0 b1);have k4:=fun(ob o2:Obj)=>ag (ag c4 ((cW _ w).alloc ao ob)) (ay.alloc ao o2);have HC:=af (ah (C0.below ae b1) C1);have HT:=af (ah ((b1.block _ ae).trans T0) T1);have Xx:=af (ah (hS.fr (aK (aa bW))) (ah (hN.fr (aK (aa bW))) (tH.fr (aK (aa bW)))));have fz:=fun(v:World)(hv:Bw W1 v)(o:Nat)=>((aj bW hv).frozen (p:=⟨gn,o,none⟩) Xm).trans (cfz o);have FZ:=af fz;have HC4:=af c4;clear b0 b1 C0 C1 T0 T1 c4 cfz tH fz;go_enter func127,ntmps127;go_wp2_with fail;rw[<-dV,<-mR];clear dV mR k4;obtain⟨bo,Wf⟩:=cK (nd.holders.contains id);refine(Az eH Xx.2.2.1 hh Wf).mono ?_;rintro r w1⟨rfl,aA⟩;have z1':=aA.size;have xu:=af (ah (HC.1.below ae aA) (HC.2.below ae aA));have HT1:=af (ah ((aA.block _ ae).trans HT.1) ((aA.block _ ae).trans HT.2));have xE:=af (ah (Xx.1.fr (aK aA)) (ah (Xx.2.1.fr (aK aA)) (Xx.2.2.fr (aK aA))));have mK:=af (aj bW aA);have c4:=ag HC4 mK;have FZ1:=af (fun(v:World)(hv:Bw w1 v)(o:Nat)=>aa FZ v (aj aA hv) o);clear HC HT Xx FZ HC4 bW aA;have s5:=xu.1.1 5 _ rfl;cases bo;{obtain⟨K0,kf⟩:=xu.1;obtain⟨R0,rf⟩:=xu.2;have k0:=K0 0 _ rfl;have k1:=K0 1 _ rfl;have k2:=K0 2 _ rfl;have k3:=K0 3 _ rfl;have k4:=K0 4 _ rfl;have q0:=R0 0 _ rfl;have q1:=R0 1 _ rfl;have q2:=R0 2 _ rfl;have q3:=R0 3 _ rfl;have q4:=R0 4 _ rfl;have q5:=R0 5 _ rfl;clear K0 R0 c4;go_wp2;have f2:=jq (v0:=.U e) (v1:=.U g) (v2:=.U x) (v3:=.I t) (v4:=.S p n c) (v5:=.T gn m d) HT1.2;have Qi:=mK.trans ((dz (w:=w1) (w.heap.size+1) (.U e) (.U g) (.U x) (.I t) (.S p n c) (.T gn m d)).mono ae);refine fL (v:=gh e g x t (.S p n c) (.T gn m d)) (by simp[results,results127,go_sem,q0,q1,q2,q3,q4,q5]) rfl ?_;rw[Gl (aa hk) (aa Wf)];exact⟨rfl,⟨_,xE.1.fr f2⟩,xE.2.1.fr f2,Fr.below Qi,Qi.mono hB⟩};{
 go_wp2_with fail;refine(vy eH xE.2.2.1 hh).mono ?_;rintro r w2⟨pl,cl,rfl,ol,aF⟩;obtain⟨L,eL⟩:=cK (qE nd.holders id);rw[aa eL]at ol;obtain⟨nl,jH⟩:=cK L.length;rw[aa eL,aa jH];rw[aa jH]at ol;have z2':=aF.size;have Qz:=af (ah (xu.1.below ae aF) (xu.2.below ae aF));have HT2:=af (ah ((aF.block _ ae).trans HT1.1) ((aF.block _ ae).trans HT1.2));have HN3:=af (ah (xE.1.fr (aK aF)) (ah (xE.2.1.fr (aK aF)) (ol.tu (B':=B) (by have:=mK.size;omega))));have vO:=af (aj mK aF);have fz:=aa FZ1 w2 aF;clear xu HT1 xE FZ1 mK aF ol c4 s5;have s5:=Qz.1.1 5 _ rfl;have fz4:=fz (k*8+4);obtain⟨gn',P',V',H',U',e',-,-,-,-,-,d3,d4,d5,d6,-⟩:=gK.at HN3.2.1 hk;obtain⟨rfl,-⟩:=xr e';have cg:¬gn=w.heap.size:=ae;have bo4:¬gn=w.heap.size+1:=ae;obtain⟨N4,F4⟩:=gK.put HN3.2.1 hk (j:=4) ae (.S pl nl cl) {nd with holders:=L} (fun w' P V H U h1 h2 h3 h4 hf=>⟨P,V,.S pl nl cl,U,rfl,h1,h2,HN3.2.2.fr hf,h4⟩);obtain⟨K0,kf⟩:=Qz.1;obtain⟨R0,rf⟩:=Qz.2;have k0:=K0 0 _ rfl;have k1:=K0 1 _ rfl;have k2:=K0 2 _ rfl;have k3:=K0 3 _ rfl;have k4:=K0 4 _ rfl;have q0:=R0 0 _ rfl;have q1:=R0 1 _ rfl;have q2:=R0 2 _ rfl;have q3:=R0 3 _ rfl;have q4:=R0 4 _ rfl;have q5:=R0 5 _ rfl;clear K0 R0;by_cases h0:nl=0;{
 subst h0;have hL0:L=[]:=tp.1 jH;subst hL0;have fz3:=fz (k*8+3);have fz5:=fz (k*8+5);have fz6:=fz (k*8+6);have NK:=hk;obtain⟨N4',F4'⟩:=(⟨N4,F4⟩:_/\_);obtain⟨N3,F3⟩:=gK.Rc N4 hk (j:=3) ae (.I 0) {nd with holders:=[],mode:=0} (fun w' P V H U h1 h2 h3 h4 hf=>⟨P,V,H,U,rfl,h1,h2,h3,h4⟩);obtain⟨N5,F5⟩:=gK.Rc N3 hk (j:=5) ae (.U 0) {nd with holders:=[],mode:=0,aJ:=0} (fun w' P V H U h1 h2 h3 h4 hf=>⟨P,V,H,U,rfl,h1,h2,h3,h4⟩);obtain⟨N6,F6⟩:=gK.Rc N5 hk (j:=6) ae (.U 0) {nd with holders:=[],mode:=0,aJ:=0,gen:=0} (fun w' P V H U h1 h2 h3 h4 hf=>⟨P,V,H,U,rfl,h1,h2,h3,h4⟩);obtain⟨X,hX⟩:=au ((((w2.setCell ⟨gn,k*8+4,none⟩ (.S pl 0 cl)).setCell ⟨gn,k*8+3,none⟩ (.I 0)).setCell ⟨gn,k*8+5,none⟩ (.U 0)).setCell ⟨gn,k*8+6,none⟩ (.U 0));rw[<-hX]at N6 F6;have FX:=af (((F4.trans F3).trans F5).trans F6);have NX:=af N6;have SX:=af (HN3.1.fr FX);have BX:Hid (Below B w X):=by rw[hX];exact(((((vO.mono hB).setCell (p:=⟨gn,_,none⟩) La _).setCell (p:=⟨gn,_,none⟩) La _).setCell (p:=⟨gn,_,none⟩) La _).setCell (p:=⟨gn,_,none⟩) La _)
 have FW:=af ((Fr.below (aa vO):Fr [165,86,93] w w2).trans (FX.sub ai));have zX:=FX.1;have tX0:=FX.2 _ _ _ _ aU HT2.1;have tX1:=FX.2 _ _ _ _ aU HT2.2;have Ms:=Qz.1.dM (tX0.trans HT2.1.symm);have CX1:=Qz.2.dM (tX1.trans HT2.2.symm);have HX:=af (ah tX0 (ah tX1 (ah Ms CX1)));clear N4 N3 N5 N6 F4 F3 F5 F6 N4' F4' tX0 tX1 Ms CX1;go_wp2_with fail;rw[<-hX];clear hX d3 d4 d5 d6 fz3 fz4 fz5 fz6 fz k0 k1 k2 k3 k4 s5 q0 q1 q2 q3 q4 q5 kf rf;refine(xL e g x t (p:=p) (c:=c) (q:=some ⟨gn,0,none⟩) (m:=m) (d:=d) (Qs:=Qs) en (k:=k) 3 {nd with holders:=[],mode:=0,aJ:=0,gen:=0} (af (by rw[qH];simp[(aT.1 (aa hk)).1])) B X SX NX ae hn hm hp hw).mono ?_;rintro r w3⟨rfl,⟨Q3,Sq⟩,Cd,xe,bf⟩;rw[I0]at Cd;have t0:=xe.2 _ _ _ _ aU HX.1;have t1:=xe.2 _ _ _ _ aU HX.2.1;have C0:=HX.2.2.1.dM (t0.trans HX.1.symm);have C1:=HX.2.2.2.dM (t1.trans HX.2.1.symm);have HE:=af (ah Sq (ah Cd (ah (FW.trans xe) (BX.trans bf))));have HT3:=af (ah t0 t1);have HC3:=af C1;obtain⟨K0,kf⟩:=C0;obtain⟨R0,rf⟩:=C1;have k0:=K0 0 _ rfl;have k1:=K0 1 _ rfl;have k2:=K0 2 _ rfl;have k3:=K0 3 _ rfl;have k4:=K0 4 _ rfl;have k5:=K0 5 _ rfl;have q0:=R0 0 _ rfl;have q1:=R0 1 _ rfl;have q2:=R0 2 _ rfl;have q3:=R0 3 _ rfl;have q4:=R0 4 _ rfl;have q5:=R0 5 _ rfl;clear K0 R0 t0 t1 Sq Cd xe bf;go_wp2;obtain⟨fA,bA,gA⟩:=aw6 HE.2.2.1 HE.2.2.2 ao hB HT3.1 (.U e) (.U g) (.U x) (.I t) (.S p n c) (.T gn m d);obtain⟨fB,bB,gB⟩:=aw6 fA bA (TW _) hB ((lh ae).trans HT3.2) (.U e) (.U g) (.U x) (.I t) (.S p n c) (.T gn m d);refine fL (v:=gh e g x t (.S p n c) (.T gn m d)) (by simp[results,results127,go_sem,q0,q1,q2,q3,q4,q5]) rfl ?_;rw[Gm (aa hk) (aa Wf) (aa eL)];exact⟨rfl,⟨_,(HE.1.fr gA).fr gB⟩,(HE.2.1.fr gA).fr gB,fB,bB⟩};{have hnl:¬((nl:Int)=0):=ae;go_wp2;have t1:=F4.2 _ _ _ _ aU HT2.2;obtain⟨fB,bB,gB⟩:=aw6 ((Fr.below (aa vO):Fr [165,86,93] w w2).trans (F4.sub ai)) ((vO.mono hB).setCell (p:=⟨gn,_,none⟩) La _) (TW _) hB t1 (.U e) (.U g) (.U x) (.I t) (.S p n c) (.T gn m d);refine fL (v:=gh e g x t (.S p n c) (.T gn m d)) (by simp[results,results127,go_sem,q0,q1,q2,q3,q4,q5]) rfl ?_;rw[Gk (aa hk) (aa Wf) (by rw[aa eL];intro e;rw[e]at jH;exact h0 jH.symm)];refine⟨rfl,⟨_,(HN3.1.fr F4).fr gB⟩,?_,fB,bB⟩;simp only[aa eL];exact gK.fr N4 gB}}
def BX(w:World)(b:Nat)(vs:List Value):Prop:=al w b vs/\∃cur,w.heap[b]?=some (.cells cur 32)
def BX.fr{T:List TypeId}{w w':World}(h:BX w b vs)(hf:Fr T w w')(ht:32∉T:=by decide):BX w' b vs:=by
 obtain⟨h1,cur,h2⟩:=h;have h3:=hf.2 _ _ _ _ ht h2;exact⟨h1.dM (h3.trans h2.symm),cur,h3⟩
def BX.lt{w:World}(h:BX w b vs):b<w.heap.size:=by
 obtain⟨h1,cur,h2⟩:=h;exact kH h2
def BX.below{w w':World}(h:BX w b vs)(hb:Bw w w'):BX w' b vs:=h.fr (aK hb) (by simp)
def BX.put{w:World}(h:BX w b [o0,o1,o2,o3,o4,o5])(v0 v1 v2 v3 v4 v5:Value):BX (dX w b v0 v1 v2 v3 v4 v5) b [v0,v1,v2,v3,v4,v5]:=⟨ap2 h.1,Ej h.2⟩
def BX.xk{w:World}(h:BX w b' vs)(cg:b'≠b)(v0 v1 v2 v3 v4 v5:Value):BX (dX w b v0 v1 v2 v3 v4 v5) b' vs:=⟨Nh h.1 cg,h.2.imp fun cur hc=>(lh cg).trans hc⟩
def BX.fin{T:List TypeId}{w wr:World}(h:BX wr b vs)(hF:Fr T w wr)(nF:Below B w wr)(hb:w.heap.size<=b)(hB:B<=w.heap.size)(v0 v1 v2 v3 v4 v5:Value):Fr T w (dX wr b v0 v1 v2 v3 v4 v5)/\Below B w (dX wr b v0 v1 v2 v3 v4 v5)/\Fr [32] wr (dX wr b v0 v1 v2 v3 v4 v5):=by
 obtain⟨-,cur,h2⟩:=h;exact aw6 hF nF hb hB h2 _ _ _ _ _ _
def BX.D7{w:World}(h:BX w b' vs)(cg:b'≠b):BX (w.setCell ⟨b,j,none⟩ u) b' vs:=⟨h.1.dM (fy _ _ _ _ cg),h.2.imp fun cur hc=>(fy _ _ _ _ cg).trans hc⟩
def BX.bw0{T:List TypeId}{w wr:World}(h:BX wr b vs)(hF:Fr T w wr)(nF:Below B w wr)(hb:w.heap.size<=b)(hB:B<=w.heap.size)(u:Value):Fr T w (wr.setCell ⟨b,j,none⟩ u)/\Below B w (wr.setCell ⟨b,j,none⟩ u)/\Fr [32] wr (wr.setCell ⟨b,j,none⟩ u):=by
 have Qi:Below b wr (wr.setCell ⟨b,j,none⟩ u):=ay.setCell (p:=⟨b,j,none⟩) ao _;exact⟨⟨fW hF.1 Qi.size,fun b' cur ty mm ht bL=>(Qi.block b' (by have:=kH bL;omega)).trans (hF.2 b' cur ty mm ht bL)⟩,nF.trans (Qi.mono ae),(dm h.2).2⟩
def BX.cells{w:World}(h:BX w b [v0,v1,v2,v3,v4,v5]):w.cell? ⟨b,0,none⟩=some v0/\w.cell? ⟨b,1,none⟩=some v1/\w.cell? ⟨b,2,none⟩=some v2/\w.cell? ⟨b,3,none⟩=some v3/\w.cell? ⟨b,4,none⟩=some v4/\w.cell? ⟨b,5,none⟩=some v5/\∀o,w.frozen? ⟨b,o,none⟩=false:=
 ⟨h.1.1 0 _ rfl,h.1.1 1 _ rfl,h.1.1 2 _ rfl,h.1.1 3 _ rfl,h.1.1 4 _ rfl,h.1.1 5 _ rfl,h.1.2⟩
def jL(w:World)(v0 v1 v2 v3 v4 v5:Value):∃W,W=w.alloc (.cells #[v0,v1,v2,v3,v4,v5] 32)/\Bw w W/\W.heap.size=w.heap.size+1/\BX W w.heap.size [v0,v1,v2,v3,v4,v5]:=by
 obtain⟨W,h1,h2,h3,h4,h5⟩:=aC w #[v0,v1,v2,v3,v4,v5] 32;exact⟨W,h1,h2,h3,h4,_,h5⟩
def sY(w:World):∃W,W=w.alloc (.cells #[.U 0,.U 0,.U 0,.I 0,.S none 0 0,.S none 0 0] 32)/\Bw w W/\W.heap.size=w.heap.size+1/\BX W w.heap.size [.U 0,.U 0,.U 0,.I 0,.S none 0 0,.S none 0 0]:=jL w _ _ _ _ _ _
def NBo(nd:aB):Prop:=nd.path.length<=1048576/\nd.watchers.length<=0/\nd.holders.length<=1048576
def NB(ns:List aB):Prop:=∀nd∈ns,NBo nd
def NB.set(h:NB ns)(hn:NBo nd):NB (ns.set k nd):=fun x hx=>by
 rcases NJ hx with hx|rfl;{exact h x hx};{exact hn}
def NB.erase(h:NB ns)(k:Nat):NB (ns.eraseIdx k):=fun x hx=>h x (EO hx)
def DR(hk:ns[k]?=some nd)(kd:Int):dR ⟨e,g,x,t,ss,ns⟩ k kd=⟨e,g,x,t,rr ss nd.watchers (kd,nd.path),ns.set k {nd with watchers:=[]}⟩:=by
 unfold dR;simp only[hk]
def bM{α:Type}{l:List α}{a:α}(hk:l[k]?=some a)(b:α):(l.set k b)[k]?=some b:=by
 rw[qH,bN rfl,bN (aT.1 hk).1]
def Pt(hk:ns[k]?=some nd)(id:Int):∃IF ns1 kP,dN ⟨e,g,x,t,ss,ns⟩ k id=⟨e,g,x,t,IF,ns1⟩/\IF.length=ss.length/\ns1.length=ns.length/\ns1[k]?=some kP/\kP.owner=nd.owner/\(NB ns->NB ns1):=by
 by_cases h:nd.holders.contains id=true;{by_cases h2:qE nd.holders id=[];{exact⟨_,_,_,Gm hk h h2,uM _ _ _,mB,bM hk _,rfl,fun hb=>hb.set ⟨(hb nd (aS hk)).1,ai,ai⟩⟩};{exact⟨_,_,_,Gk hk h h2,rfl,mB,bM hk _,rfl,fun hb=>hb.set ⟨(hb nd (aS hk)).1,(hb nd (aS hk)).2.1,fW (DH) (hb nd (aS hk)).2.2⟩⟩}};{exact⟨_,_,_,Gl hk (by simpa using h),rfl,rfl,hk,rfl,fun hb=>hb⟩}
def GS(id:Int)(nd:aB):aB:={nd with watchers:=qE nd.watchers id}
def dC(id:Int):Nat->Nat->SD->SD
 |0,_,D=>D
 |f+1,k,D=>match(dN D k id).ns[k]? with
  |none=>D
  |some nd=>if nd.owner=id then dC id f k (Qa (dR (dN D k id) k 2) k)else dC id f (k+1) (dN D k id)
def VA(id:Int)(ss:List aR):List aR:=ss.filter fun s=>!(s.1==id)
def jt(D:SD)(id:Int):SD:={dC id D.ns.length 0 {D with ns:=D.ns.map (GS id)}with ss:=VA id (dC id D.ns.length 0 {D with ns:=D.ns.map (GS id)}).ss}
def aX0{id:Int}(h:NBo nd):NBo (GS id nd):=⟨h.1,fW (DH) h.2.1,h.2.2⟩
def NB.map(h:NB ns)(id:Int):NB (ns.map (GS id)):=fun x hx=>by
 obtain⟨y,hy,rfl⟩:=iJ.1 hx;exact aX0 (h y hy)
def rh{w:World}{rest:List Oper}{Q:Exit->Act->World->Prop}(mr:o.guard=none){s x:Operand}(ho:o.op=.call {callee:=.builtin .append,args:=#[s,x],argTypes:=#[29,29]}){zs:List (aR×Value)}{z:aR×Value}(ek:Hid (zs.length=k))(hs:a.eval s=v)(bO:RT sX 86 3 B w v zs)(g:Nat)(hx:a.eval x=.T g 1 1)(hq:z.2.oneCell'=true)(iW:∀(j:Nat)u,[.U z.1.1,.I z.1.2.1,z.2][j]?=some u->w.cell? ⟨g,j,none⟩=some u)(hk:k<4194304)(hB:B<=w.heap.size)(h:∀p' c' w',RT sX 86 3 B w' (.S p' (k+1) c') (zs++[z])->w.grownBy w' v.ownBlock->Fr [86] w w'->wpList prog ops Q rest (a.put o.dst (.S p' (k+1) c')) w'):wpList prog ops Q (o::rest) a w:=by
 obtain⟨i,hi,nO,iL,ju⟩:=info_parts Tryz.infoSes;have ht:=bO.XJ;obtain⟨rs,h1,h2,h3,h4⟩:=bO;rw[aa ek]at h3;refine cI mr 29 ho i 3 underlying29 hi nO iL ju rfl aU v hs h3 g 1 1 _ hx rfl iW (fun u hu=>by simp at hu;rcases hu with rfl|rfl|rfl;rfl;rfl;exact hq) ic ae hB ?_;intro v' w' dh hg _;have hf:Fr [86] w w':=Fr.grown hg fun b hb=>by obtain⟨cur,hc⟩:=ht b hb;exact⟨cur,_,hc,ai⟩
 have sn:RT sX 86 3 B w' v' (zs++[z]):=RT.snoc h1 h2 h4 (fun _ _ h=>h) rfl rfl (by rw[aa ek];exact dh);obtain⟨p',c',rfl,-⟩:=RT.form sn;rw[ig,aa ek]at sn⊢;exact h p' c' w' sn hg hf
def kL.filter{w:World}(h:kL B w v ss Qs)(f:aR->Bool)(hr:RT sX 86 3 B w v' ((ss.zip Qs).filter fun z=>f z.1)):kL B w v' (ss.filter f) (((ss.zip Qs).filter fun z=>f z.1).map Prod.snd):=by
 have e1:ss.filter f=((ss.zip Qs).filter fun z=>f z.1).map Prod.fst:=by
  have:((ss.zip Qs).map Prod.fst)=ss:=by rw[List.map_fst_zip (by rw[h.len];exact jS _)]
  conv=>lhs;rw[<-this]
  rw[List.filter_map]
  rfl
 have e2:(ss.zip Qs).map Prod.snd=Qs:=by rw[List.map_snd_zip (by rw[h.len];exact jS _)]
 have Hx:Qs.Pairwise fun Q Q'=>∀b,Q.ownBlock=some b->Q'.ownBlock≠some b:=by rw[Ez];intro i j hi hj kF b hb;exact h.xk i j _ _ b ae (aO hi) (aO hj) hb
 have aP2:(((ss.zip Qs).filter fun z=>f z.1).map Prod.snd).Pairwise fun Q Q'=>∀b,Q.ownBlock=some b->Q'.ownBlock≠some b:=by rw[<-e2]at Hx;exact Hx.sublist (List.filter_sublist.map _)
 refine⟨by rw[e1];simp,?_,fun i s Q hs hQ=>?_,fun i j Q Q' b kF hQ hQ' hb=>?_⟩;{rw[e1,<-List.unzip_fst,<-List.unzip_snd,List.zip_unzip];exact hr};{rw[e1,kU]at hs;rw[kU]at hQ;obtain⟨z,hz,rfl⟩:=Bt.1 hs;rw[hz]at hQ;cases hQ;obtain⟨j,hj⟩:=gv.1 (I8.1 (aS hz)).1;rw[I5]at hj;exact h.Vr j _ _ hj.1 hj.2};{rw[Ez]at aP2;obtain⟨hi,rfl⟩:=aT.1 hQ;obtain⟨hj,rfl⟩:=aT.1 hQ';rcases Nat.lt_or_gt_of_ne kF with hl|hl;{exact aP2 i j hi hj hl b hb};{exact fun e=>aP2 j i hj hi hl b e hb}}
def ad4{zs:List (aR×Value)}{z:aR×Value}(h:zs[k]?=some z)(f:aR->Bool):((zs.take (k+1)).filter fun z=>f z.1)=if f z.1 then((zs.take k).filter fun z=>f z.1)++[z]else(zs.take k).filter fun z=>f z.1:=by
 rw[ng,h,Ua];by_cases e:f z.1<;>simp[e]
def Cl{id:Int}{D1:SD}(hk:k<m)(hd:dN D k id=D1)(hn:D1.ns[k]?=some nd):dC id (m-k) k D=if nd.owner=id then dC id (m-1-k) k (Qa (dR D1 k 2) k)else dC id (m-(k+1)) (k+1) D1:=by
 obtain⟨f,hf⟩:∃f,m-k=f+1:=⟨m-k-1,ae⟩;rw[hf,dC,hd,hn,show m-1-k=f by omega,show m-(k+1)=f by omega]
def Zt(b:Nat)(w:World):Nat:=match w.cell? ⟨b,5,none⟩with
 |some (.slice _ m _)=>m
 |_=>0
def Fj{w:World}{q:OA}(h:BX w b [v0,v1,v2,v3,v4,.S q m d]):Zt b w=m:=by
 unfold Zt;rw[h.1.1 5 _ rfl]
def WG{n c:Nat}{q:OA}(en:Hid (ss.length=n))(em:Hid (ns.length=m)){id:Int}{w:World}(hS:Hid (kL B w (.S p n c) ss Qs))(hN:Hid (AW B w (.S q m d) ns))(hNB:Hid (NB ns))(hB:B<=w.heap.size)(hn:n<=1048576)(hm:m<=1048576)(eD:Hid (jt ⟨e,g,x,t,ss,ns⟩ id=D)):Cp 88 #[gh e g x t (.S p n c) (.S q m d),.U id] w fun r w'=>∃p' c' q' d',r=.returned (gh e g x t (.S p' D.ss.length c') (.S q' D.ns.length d'))/\(∃Tj,kL B w' (.S p' D.ss.length c') D.ss Tj)/\AW B w' (.S q' D.ns.length d') D.ns/\Fr [165,86,93] w w'/\Below B w w':=by
 obtain⟨W0,dV,b0,z0,C0⟩:=jL w (.U e) (.U g) (.U x) (.I t) (.S p n c) (.S q m d);obtain⟨W1,mR,b1,z1,C1⟩:=sY W0;rw[z0]at C1;have HC:=af (ah (C0.below b1) C1);have bW:=af (aj b0 b1);have zW:W1.heap.size=w.heap.size+2:=ae;clear b0 b1 C0 C1 z0 z1;go_enter func88,ntmps88;go_wp2;rw[<-dV,<-mR];clear dV mR
 go_loopw[5](fun kv wr=>∃k:Nat,k<=m/\kv=.I k/\w.heap.size+2<=wr.heap.size/\Hid (AW B wr (.S q m d) (Ii (GS id) k ns))/\Hid (kL B wr (.S p n c) ss Qs)/\Hid (BX wr w.heap.size [.U e,.U g,.U x,.I t,.S p n c,.S q m d]/\BX wr (w.heap.size+1) [.U 0,.U 0,.U 0,.I 0,.S none 0 0,.S none 0 0])/\Hid (Fr [165,86,93] w wr)/\Hid (Below B w wr)) (fun kv _=>m-(intOf kv).toNat)
 exact⟨0,gq _,rfl,ae,(by show AW _ _ _ _;simpa[Ii]using hN.fr (aK (aa bW))),hS.fr (aK (aa bW)),aa HC,Fr.below (aa bW),bW.mono hB⟩;{
 obtain⟨k,hk,rfl,zr,Ll,hSk,Js,Ih,nF⟩:=hrel;have s5:=Js.1.1.1 5 _ rfl;by_cases aX:k<m;{
 have bu:=aP k m;obtain⟨nd,br⟩:∃nd,ns[k]?=some nd:=⟨_,aO (by rw[aa em];exact aX)⟩;have jQ:=aw5 (GS id) br;have E1:=af (Wm (GS id) br);obtain⟨gn,P,V,H,U,rfl,-,-,-,-,-,-,-,-,-,c7,-,-,-,tU,cfz⟩:=gK.at Ll jQ;obtain⟨pu,cu,rfl⟩:=tU.iB;obtain⟨nu,eU⟩:=cK nd.watchers.length;have OJ:nu<=1048576:=by rw[<-aa eU];have:=(aa hNB nd (aS br)).2.1;omega
 rw[aa eU]at tU c7;have HK:=af jQ;have La:B<=gn:=(Ll.lt gn rfl).1;have Wc:gn<wr.heap.size:=(Ll.lt gn rfl).2;have Xm:¬w.heap.size=gn:=fun e=>by obtain⟨-,cur,h1⟩:=Js.1;obtain⟨ay2,h2⟩:=Ll.XJ gn rfl;rw[e,h2]at h1;simp at h1
 obtain⟨vA,iw⟩:=au wr.drew;have gx:=mi iw;have zA:=gx.size;have GA:=af (fun(v:World)(hv:Bw vA v)=>ah (ag s5 (aj gx hv)) (ah (ag c7 (aj gx hv)) (ah (fun o=>((aj gx hv).frozen (p:=⟨gn,o,none⟩) Wc).trans (cfz o)) (aj gx hv))));have UA:=af (tU.fr (aK gx));clear br jQ tU c7 cfz;go_wp2_with fail;refine dy (fun w'=>w'.cell? ⟨w.heap.size,5,none⟩=some (.T gn m d)) (by rw[<-iw];exact(aa GA vA ay).1) fun hS=>?_;rw[<-iw]at hS⊢;clear iw gx s5;refine mn 0 1 2 3 4 5 6 7 hS ?_;refine tn 9 hS ?_;refine dE 8 fun KK hK=>?_;have c7:=(aa GA _ ay).2.1;go_simp;refine gr hK (by exact(aa GA _ ay).1) fun hS=>?_;clear hK KK c7;refine dE 10 fun KK hK=>?_;refine xR (vy (p:=pu) (c:=cu) (n:=nu) (l:=nd.watchers) eU (id:=id) (w:=vA) UA.1 OJ) ?_;rintro r v1⟨pl,cl,rfl,ol,aA⟩;refine⟨_,rfl,?_⟩;obtain⟨nl,jH⟩:=cK (qE nd.watchers id).length;rw[aa jH]at ol⊢;have OL:=af (ol.tu (B':=B) ae);have mK:=af aA;refine gr hK (by exact(aa GA v1 aA).1) fun hS=>?_;clear hK KK ol aA;refine jZ 11 12 hS ?_;refine dE 13 fun KK hK=>?_;obtain⟨s5,c7,fz,bv⟩:=aa GA v1 mK;have fz7:=fz (k*8+7);have bv':=af bv;clear bv;go_simp;obtain⟨N2,F2⟩:=gK.put (Ll.fr (aK bv')) HK (j:=7) ae (.S pl nl cl) (GS id nd) (fun w' P V H U h1 h2 h3 h4 hf=>⟨P,V,H,.S pl nl cl,rfl,h1,h2,h3,OL.fr hf⟩);rw[<-aa E1]at N2;obtain⟨Z,hZ⟩:=au (v1.setCell ⟨gn,k*8+7,none⟩ (.S pl nl cl));have BZ:Below B w Z:=by rw[hZ];exact(nF.trans (bv'.mono (by have:=nF.size;omega))).setCell (p:=⟨gn,_,none⟩) La _
 have sZ:Z.cell? ⟨w.heap.size,5,none⟩=some (.T gn m d):=by rw[hZ];exact(aE (fy _ _ _ _ Xm) _).trans s5
 rw[<-hZ]at N2 F2⊢;have RZ:=af (ah N2 (ah F2 BZ));have zv:=bv'.size;have zZ:w.heap.size+2<=Z.heap.size:=by have:=F2.1;omega
 refine gr hK (by exact sZ) fun hS=>?_;clear hK KK hZ N2 F2 BZ sZ s5 c7 fz fz7;refine di ?_;clear hS;go_wp2;go_roundw;exact⟨k+1,ae,by go_num,zZ,RZ.1,(hSk.fr (aK (aa bv'))).fr RZ.2.1,⟨(Js.1.below (aa bv')).fr RZ.2.1,(Js.2.below (aa bv')).fr RZ.2.1⟩,(Ih.trans (Fr.below (aa bv'))).trans (RZ.2.1.sub ai),RZ.2.2⟩;exact bG};{
 have bu:=du k m;have Jr:=aa Ll;rw[ad3 _ (by rw[aa em];omega)]at Jr;have Xx:=af Jr;clear Jr;obtain⟨DF,eF⟩:=cK (dC id m 0 ⟨e,g,x,t,ss,ns.map (GS id)⟩);have eD2:Hid (D={DF with ss:=VA id DF.ss}):=by show _=_;rw[<-aa eD];unfold jt;simp only[aa em];rw[aa eF]
 go_wp2
 go_loopw[6](fun kv wr=>∃(k mk dk:Nat)(qk:OA)(QN:List aR)(nsk:List aB)(Qk:List Value),k<=mk/\mk<=m/\kv=.I k/\w.heap.size+2<=wr.heap.size/\Hid (QN.length=n)/\Hid (nsk.length=mk)/\Hid (NB nsk)/\Hid (dC id (mk-k) k ⟨e,g,x,t,QN,nsk⟩=DF)/\Hid (AW B wr (.S qk mk dk) nsk)/\Hid (kL B wr (.S p n c) QN Qk)/\Hid (BX wr w.heap.size [.U e,.U g,.U x,.I t,.S p n c,.S qk mk dk]/\BX wr (w.heap.size+1) [.U 0,.U 0,.U 0,.I 0,.S none 0 0,.S none 0 0])/\Hid (Fr [165,86,93] w wr)/\Hid (Below B w wr)) (fun kv wr=>Zt w.heap.size wr-(intOf kv).toNat)
 exact⟨0,m,d,q,ss,_,Qs,gq _,jS _,rfl,zr,en,af (by rw[fe];exact aa em),af (hNB.map id),eF,Xx,hSk,Js,Ih,nF⟩;{
 clear Ll hSk Js Ih nF Xx s5 zr hk aX bu;obtain⟨k,mk,dk,qk,QN,nsk,Qk,hk,hmk,rfl,zr,ens,enk,bt7,eK,Ll,hSk,Js,Ih,nF⟩:=hrel;have hlen:=af (Fj Js.1);obtain⟨k0,k1,k2,k3,k4,k5,kf⟩:=Js.1.cells;by_cases aX:k<mk;{
 have bu:=aP k mk;obtain⟨nd,br⟩:∃nd,nsk[k]?=some nd:=⟨_,aO (by rw[aa enk];exact aX)⟩;have hb:=aa bt7 nd (aS br);obtain⟨IF,ns1,kP,hd,l1,l2,jQ,ho1,ZP⟩:=Pt (e:=e) (g:=g) (x:=x) (t:=t) (ss:=QN) br id;have Mp:=aa eK;rw[Cl aX hd jQ]at Mp;obtain⟨gn,-,-,-,-,rfl,-,-,-⟩:=gK.at Ll br;have aA:=hb.1;have aF:=hb.2.1;have bf:=hb.2.2;have HD:=af (Ps (e:=e) (g:=g) (x:=x) (t:=t) (p:=p) (n:=n) (c:=c) (q:=some ⟨gn,0,none⟩) (m:=mk) (d:=dk) (ss:=QN) (Qs:=Qk) (ns:=nsk) ens (k:=k) (id:=id) (nd:=nd) (af br) (B:=B) (w:=wr) hSk Ll ae hn ae aA aF bf);rw[hd]at HD;have HX1:=af (ah l1 (ah l2 (ah jQ (ah (ZP (aa bt7)) Mp))));clear br hb aA aF bf hd l1 l2 jQ ho1 ZP Mp;go_wp2_with fail;refine HD.mono ?_;rintro r w1⟨rfl,⟨Q1,hS1⟩,Jr,FE,aA⟩;obtain⟨l1,l2,jQ,ZP,Mp⟩:=aa HX1;have du5:=af hS1;have dv0:=af Jr;obtain⟨gn',-,-,-,-,eg,-,-,-,-,c2,-⟩:=gK.at Jr jQ;obtain⟨rfl,-⟩:=xr eg;have zk:=af (ah (Js.1.fr FE) (Js.2.fr FE));have F1:=af (Ih.trans FE);have B1:=af (nF.trans aA);have z1:w.heap.size+2<=w1.heap.size:=by have:=FE.1;omega
 have Xm:¬w.heap.size=gn:=fun e=>by obtain⟨-,cur,h1⟩:=Js.1;obtain⟨ay2,h2⟩:=Ll.XJ gn rfl;rw[e,h2]at h1;simp at h1
 have dr8:¬gn=w.heap.size:=fun e=>Xm e.symm;obtain⟨X,hX⟩:=au (dX w1 w.heap.size (.U e) (.U g) (.U x) (.I t) (.S p n c) (.T gn mk dk));obtain⟨fX,bX,gX⟩:=zk.1.fin F1 B1 ao hB (.U e) (.U g) (.U x) (.I t) (.S p n c) (.T gn mk dk);have BXX:=ah (zk.1.put (.U e) (.U g) (.U x) (.I t) (.S p n c) (.T gn mk dk)) (zk.2.xk (b:=w.heap.size) ae (.U e) (.U g) (.U x) (.I t) (.S p n c) (.T gn mk dk));have zX:X.heap.size=w1.heap.size:=by rw[hX];exact rG
 rw[<-hX]at fX bX gX BXX;have SX:=af (hS1.fr gX);have NX:=af (gK.fr Jr gX);have HXX:=af (ah fX (ah bX BXX));unfold dX at hX;clear k0 k1 k2 k3 k4 k5 kf;obtain⟨k0,k1,k2,k3,k4,k5,kf⟩:=zk.1.cells;have HX2:=af (ah l1 (ah l2 ZP));have WT:=af jQ;have EK2:=af Mp;clear hS1 Jr FE aA jQ Mp HX1 HD l1 l2 ZP fX bX gX BXX;by_cases how:kP.owner=id;{
 have Xn:(kP.owner==id)=true:=by simp[how]
 have eK3:=aa EK2;rw[bN how,DR (aa WT),Qa]at eK3;have EK3:=af eK3;have hb:=HX2.2.2 kP (aS (aa WT));have HT:=af (xL e g x t (p:=p) (n:=n) (c:=c) (q:=some ⟨gn,0,none⟩) (m:=mk) (d:=dk) (ss:=IF) (Qs:=Q1) (ns:=ns1) (af (HX2.1.trans ens)) (k:=k) 2 kP WT B X SX NX ae hn ae hb.1 hb.2.1);clear eK3 hb how;go_wp2_with fail;rw[<-hX];clear hX Xn c2 k0 k1 k2 k3 k4 k5 kf;refine HT.mono ?_;rintro r w2⟨rfl,⟨Q2,AG⟩,xi,Ld,aF⟩;have XA:=af (ah (HXX.2.2.1.fr Ld) (HXX.2.2.2.fr Ld));have F2:=af (HXX.1.trans Ld);have B2:=af (HXX.2.1.trans aF);have z2:w.heap.size+2<=w2.heap.size:=by have:=Ld.1;omega
 obtain⟨Y,hY⟩:=au (dX w2 w.heap.size (.U e) (.U g) (.U x) (.I t) (.S p n c) (.T gn mk dk));obtain⟨fY,bY,gY⟩:=XA.1.fin F2 B2 ao hB (.U e) (.U g) (.U x) (.I t) (.S p n c) (.T gn mk dk);have BXY:=ah (XA.1.put (.U e) (.U g) (.U x) (.I t) (.S p n c) (.T gn mk dk)) (XA.2.xk (b:=w.heap.size) ae (.U e) (.U g) (.U x) (.I t) (.S p n c) (.T gn mk dk));have zY:Y.heap.size=w2.heap.size:=by rw[hY];exact rG
 rw[<-hY]at fY bY gY BXY;have SY:=af (AG.fr gY);have NY:=af (gK.fr xi gY);have HYY:=af (ah fY (ah bY BXY));unfold dX at hY;obtain⟨k0,k1,k2,k3,k4,k5,kf⟩:=XA.1.cells;have HR:=af (Ee (e:=e) (g:=g) (x:=x) (t:=t) (p:=p) (n:=n) (c:=c) (q:=some ⟨gn,0,none⟩) (m:=mk) (d:=dk) (af (by rw[mB];exact HX2.2.1.trans (aa enk))) (k:=k) (B:=B) (w:=Y) NY ae);clear AG xi Ld aF fY bY gY BXY HT SX NX HXX;go_wp2_with fail;rw[<-hY];clear hY k0 k1 k2 k3 k4 k5 kf;refine HR.mono ?_;rintro r w3⟨p3,c3,rfl,Cd,bf⟩;obtain⟨ns3,ae1⟩:∃ns3,Hid ((ns1.set k {kP with watchers:=[]}).eraseIdx k=ns3):=⟨_,af rfl⟩;have aO1:Hid (ns3.length=mk-1):=by show _=_;have h1:=HX2.2.1.trans enk;rw[<-aa ae1,EU,mB,bN ae];omega
 rw[aa ae1,aa aO1]at Cd;rw[aa ae1,aa aO1];have EK4:=aa EK3;simp only[aa ae1]at EK4;have BX3:=af (ah (HYY.2.2.1.below bf) (HYY.2.2.2.below bf));have F3:=af (HYY.1.trans (Fr.below bf));have B3:=af (HYY.2.1.trans (bf.mono ae));have z3:=bf.size;obtain⟨Z,hZ⟩:=au (dX w3 w.heap.size (.U e) (.U g) (.U x) (.I t) (.S p n c) (.S p3 (mk-1) c3));obtain⟨fZ,bZ,gZ⟩:=BX3.1.fin F3 B3 ao hB (.U e) (.U g) (.U x) (.I t) (.S p n c) (.S p3 (mk-1) c3);have BXZ:=ah (BX3.1.put (.U e) (.U g) (.U x) (.I t) (.S p n c) (.S p3 (mk-1) c3)) (BX3.2.xk (b:=w.heap.size) ae (.U e) (.U g) (.U x) (.I t) (.S p n c) (.S p3 (mk-1) c3));have zZ:Z.heap.size=w3.heap.size:=by rw[hZ];exact rG
 rw[<-hZ]at fZ bZ gZ BXZ;have SZ:=af ((SY.fr (aK bf)).fr gZ);have NZ:=af ((gK.fr Cd gZ).mono (by omega:B<=Y.heap.size));have HZZ:=af (ah fZ (ah bZ BXZ));have bX5:=af (Fj BXZ.1);have cd3:Hid (NB ns3):=by show NB _;rw[<-aa ae1];have hb:=HX2.2.2 kP (aS (aa WT));exact(NB.set (nd:={kP with watchers:=[]}) HX2.2.2 ⟨hb.1,gq _,hb.2.2⟩).erase k
 have EK5:=af EK4;have bX6:Hid ((rr IF kP.watchers (2,kP.path)).length=n):=by show _=_;rw[uM];exact HX2.1.trans (aa ens)
 unfold dX at hZ;obtain⟨k0,k1,k2,k3,k4,k5,kf⟩:=BX3.1.cells;clear Cd bf fZ bZ gZ BXZ HR SY NY HYY EK4;go_wp2;rw[<-hZ];clear hZ k0 k1 k2 k3 k4 k5 kf;go_roundw;exact⟨k,mk-1,c3,p3,_,ns3,Q2,ae,ae,rfl,ae,bX6,aO1,cd3,EK5,NZ,SZ,af HZZ.2.2,af HZZ.1,af HZZ.2.1⟩
 case measure=>(
 rw[aa bX5,aa hlen];simp[intOf];omega)}
 {
 have Xn:(kP.owner==id)=false:=by simp[how]
 have eK3:=aa EK2;rw[bH how]at eK3;have EK3:=af eK3;have mG:=af (Fj HXX.2.2.1);clear eK3 how;go_wp2;rw[<-hX];clear hX Xn c2 k0 k1 k2 k3 k4 k5 kf;go_roundw;exact⟨k+1,mk,dk,_,IF,ns1,Q1,ae,ae,by go_num,ae,af (HX2.1.trans ens),af (HX2.2.1.trans enk),af (HX2.2.2),EK3,NX,SX,af HXX.2.2,af HXX.1,af HXX.2.1⟩
 case measure=>(
 rw[aa mG,aa hlen];simp[intOf];omega)}}
 {
 have bu:=du k mk;have Mp:=aa eK;rw[show mk-k=0 by omega,dC]at Mp;have eD3:Hid (D=⟨e,g,x,t,VA id QN,nsk⟩):=by show _=_;rw[aa eD2,<-Mp]
 clear Mp eD2 eK;obtain⟨W5,eW5⟩:∃W5,Hid (W5=wr):=⟨_,af rfl⟩;obtain⟨wz,ewz⟩:∃wz,Hid (wz=W5.heap.size):=⟨_,af rfl⟩;have H5:=ah (aa hSk) (ah (aa Ll) (ah (aa Js) (ah (aa Ih) (aa nF))));have z5:=zr;rw[<-aa eW5]at H5 z5;rw[<-aa ewz]at z5;have G5:=af H5;clear H5;go_wp2
 go_loopw[7,8](fun lv iv w9=>∃(j nl cl:Nat)(pl:OA)(L:List (aR×Value)),j<=n/\iv=.I j/\lv=.S pl nl cl/\wz<=w9.heap.size/\Hid (L.length=nl)/\Hid ((((QN.zip Qk).take j).filter fun z=>!(z.1.1==id))=L)/\Hid (RT sX 86 3 wz w9 (.S pl nl cl) L)/\Hid (Below wz W5 w9)) (fun _ iv _=>n-(intOf iv).toNat)
 exact⟨0,0,0,none,[],gq _,rfl,rfl,by rw[aa ewz,aa eW5];exact jS _,af rfl,af ai,RT.nil _ _ _ _ _,(by show Below _ _ _;rw[aa eW5];exact cW _ _)⟩;{
 obtain⟨j,nl,cl,pl,L,hj,rfl,rfl,z9,jH,hL,hR,vI⟩:=hrel;clear k0 k1 k2 k3 k4 k5 kf hSk Ll Js Ih nF hlen zr;have dS:Bw W5 wr:=by have:=aa vI;rwa [aa ewz]at this
 have H9:=af (ah (G5.1.fr (aK dS)) (ah (G5.2.1.fr (aK dS)) (ah (G5.2.2.1.1.below dS) (G5.2.2.1.2.below dS))));have HF9:=af (ah (G5.2.2.2.1.trans (Fr.below dS)) (G5.2.2.2.2.trans (dS.mono (by have:=G5.2.2.2.2.size;omega))));obtain⟨k0,k1,k2,k3,k4,k5,kf⟩:=H9.2.2.1.cells;clear dS;by_cases aX:j<n;{
 have bu:=aP j n;obtain⟨s,hs⟩:∃s,QN[j]?=some s:=⟨_,aO (by rw[aa ens];exact aX)⟩;obtain⟨gs,Q,rfl,-,-,hQ,c0,c1,c2,sq,-⟩:=kL.at H9.1 hs;obtain⟨pq,cq,rfl,-⟩:=sq.form;have hz:(QN.zip Qk)[j]?=some (s,.S pq s.2.2.length cq):=by rw[I5];exact⟨hs,hQ⟩
 have cR:=ad4 hz (fun s=>!(s.1==id));rw[aa hL]at cR;have pY:=af cR;have AD:nl<4194304:=by have h1:=NI (fun z:aR×Value=>!(z.1.1==id)) ((QN.zip Qk).take j);have h2:=EW j (QN.zip Qk);rw[aa hL,aa jH]at h1;omega
 clear hs hQ sq hz cR;by_cases he:s.1=id;{
 have E1:Hid ((((QN.zip Qk).take (j+1)).filter fun z=>!(z.1.1==id))=L):=by have:=aa pY;show _=_;simpa[he]using this
 have Xn:(s.1 != id)=false:=by simp[he]
 clear he;go_wp2;go_roundw;exact⟨j+1,nl,cl,pl,L,ae,by go_num,rfl,z9,jH,E1,hR,vI⟩;exact bG};{
 have E1:Hid ((((QN.zip Qk).take (j+1)).filter fun z=>!(z.1.1==id))=L++[(s,.S pq s.2.2.length cq)]):=by have:=aa pY;show _=_;simpa[he]using this
 have Xn:(s.1 != id)=true:=by simp[he]
 obtain⟨v3,kx,b3,z3,C3,-⟩:=aC wr #[.U s.1,.I s.2.1,.S pq s.2.2.length cq] 86;have R3:=af (RT.fr hR (aK b3) aU (fun _ _ h=>h));have B3:=af b3;have HC3:=af C3;have UC:=af fun b e=>(hR.lt b e).1;clear he b3 C3;go_wp2_with(at_builtin;rw[<-kx];refine rh rfl rfl (B:=wz) (v:=.S pl nl cl) (zs:=L) (z:=(s,.S pq s.2.2.length cq)) (k:=nl) jH rfl (aa R3) wr.heap.size rfl rfl HC3.1 AD ae ?_);intro p' c' w' o2 ga _;rw[<-kx]at ga;have b4:=af ((vI.trans (B3.mono ae)).grown ga ae UC);have O2:=af o2;have z4:=b4.size;clear ga o2 c0 c1 c2 kx Xn k0 k1 k2 k3 k4 k5 kf;go_wp2;go_roundw;exact⟨j+1,nl+1,c',p',_,ae,by go_num,rfl,by have:=aa ewz;omega,af (by rw[ig,aa jH];rfl),E1,O2,b4⟩;exact bG}};{
 have bu:=du j n;have hL':=aa hL;rw[kq (by rw[NG,aa ens];omega)]at hL';obtain⟨q0,q1,q2,q3,q4,q5,qf⟩:=H9.2.2.2.cells;have SF:=kL.filter (v':=.S pl nl cl) H9.1 (fun s=>!(s.1==id)) (by rw[hL'];exact RT.mono (aa hR) ae);have lF:(VA id QN).length=nl:=by have:=SF.len;rw[hL',fe,aa jH]at this;exact this.symm
 have HSF:=af SF;have HLF:=af lF;clear SF lF hL';go_wp2;rw[aa eD3];simp only[aa HLF,aa enk];obtain⟨fA,bA,gA⟩:=H9.2.2.1.bw0 (j:=4) HF9.1 HF9.2 ao hB (.S pl nl cl);obtain⟨fB,bB,gB⟩:=(H9.2.2.2.D7 (b:=w.heap.size) (j:=4) (u:=.S pl nl cl) ae).fin fA bA (TW _) hB (.U e) (.U g) (.U x) (.I t) (.S pl nl cl) (.S qk mk dk);refine fL (v:=gh e g x t (.S pl nl cl) (.S qk mk dk)) (by simp[results,results88,go_sem,q0,q1,q2,q3,q4,q5]) rfl ?_;exact⟨pl,cl,qk,dk,rfl,⟨_,(HSF.fr gA).fr gB⟩,(H9.2.1.fr gA).fr gB,fB,bB⟩}}}}}}
abbrev xw(k i e g n:Int)(D N E:Value):Value:=.agg #[.I k,.U i,.U e,.U g,.I n,D,N,E]
abbrev aQ:Value:=.S none 0 0
def RX(w:World)(b:Nat)(vs:List Value):Prop:=al w b vs/\∃cur,w.heap[b]?=some (.cells cur 62)
def RX.fr{T:List TypeId}{w w':World}(h:RX w b vs)(hf:Fr T w w')(ht:62∉T:=by decide):RX w' b vs:=by
 obtain⟨h1,cur,h2⟩:=h;have h3:=hf.2 _ _ _ _ ht h2;exact⟨h1.dM (h3.trans h2.symm),cur,h3⟩
def RX.below{w w':World}(h:RX w b vs)(hb:Bw w w'):RX w' b vs:=h.fr (aK hb) (by simp)
def kS(w:World)(b:Nat)(v0 v1 v2 v3 v4 v5 v6 v7:Value):World:=((dX w b v0 v1 v2 v3 v4 v5).setCell ⟨b,6,none⟩ v6).setCell ⟨b,7,none⟩ v7
def de{w:World}(v0 v1 v2 v3 v4 v5 v6 v7:Value):Below b w (kS w b v0 v1 v2 v3 v4 v5 v6 v7):=((dz (w:=w) b v0 v1 v2 v3 v4 v5).setCell (p:=⟨b,6,none⟩) ao _).setCell (p:=⟨b,7,none⟩) ao _
def RX.put{w:World}{o6 o7:Value}(h:RX w b [o0,o1,o2,o3,o4,o5,o6,o7])(v0 v1 v2 v3 v4 v5 v6 v7:Value):RX (kS w b v0 v1 v2 v3 v4 v5 v6 v7) b [v0,v1,v2,v3,v4,v5,v6,v7]/\Fr [62] w (kS w b v0 v1 v2 v3 v4 v5 v6 v7):=by
 obtain⟨hc,cur,ht⟩:=h;have t6:=Ej ⟨cur,ht⟩ (v0:=v0) (v1:=v1) (v2:=v2) (v3:=v3) (v4:=v4) (v5:=v5);have a6:=dm (j:=6) (u:=v6) t6;have a7:=dm (j:=7) (u:=v7) a6.1;exact⟨⟨(((((((hc.fK 0 ai v0).fK 1 ai v1).fK 2 ai v2).fK 3 ai v3).fK 4 ai v4).fK 5 ai v5).fK 6 ai v6).fK 7 ai v7,a7.1⟩,((jq ht).trans a6.2).trans a7.2⟩
def RX.cells{w:World}{v6 v7:Value}(h:RX w b [v0,v1,v2,v3,v4,v5,v6,v7]):w.cell? ⟨b,0,none⟩=some v0/\w.cell? ⟨b,1,none⟩=some v1/\w.cell? ⟨b,2,none⟩=some v2/\w.cell? ⟨b,3,none⟩=some v3/\w.cell? ⟨b,4,none⟩=some v4/\w.cell? ⟨b,5,none⟩=some v5/\w.cell? ⟨b,6,none⟩=some v6/\w.cell? ⟨b,7,none⟩=some v7/\∀o,w.frozen? ⟨b,o,none⟩=false:=
 ⟨h.1.1 0 _ rfl,h.1.1 1 _ rfl,h.1.1 2 _ rfl,h.1.1 3 _ rfl,h.1.1 4 _ rfl,h.1.1 5 _ rfl,h.1.1 6 _ rfl,h.1.1 7 _ rfl,h.1.2⟩
def qQ(w:World)(v0 v1 v2 v3 v4 v5 v6 v7:Value):∃W,W=w.alloc (.cells #[v0,v1,v2,v3,v4,v5,v6,v7] 62)/\Bw w W/\W.heap.size=w.heap.size+1/\RX W w.heap.size [v0,v1,v2,v3,v4,v5,v6,v7]:=by
 obtain⟨W,h1,h2,h3,h4,h5⟩:=aC w #[v0,v1,v2,v3,v4,v5,v6,v7] 62;exact⟨W,h1,h2,h3,h4,_,h5⟩
def Fo{k:Int}{w:World}:Cp 52 #[.I k] w fun r w'=>r=.returned (xw k 0 0 0 0 aQ aQ aQ)/\Bw w w':=by
 go_enter func52,ntmps52;go_wp2;exact fL (v:=xw k 0 0 0 0 aQ aQ aQ) (by simp[results,results52,go_sem]) rfl ⟨rfl,ay.alloc ao _⟩
abbrev Nd(t1 t2 t3 d1 d2:Nat)(ps:String)(k:Int):Array Oper:=#[{dst:=some d1,op:=Op.load 32 (Operand.tmp t1),type:=32,pos:=ps,after:=#[],guard:=none},
 {dst:=some d2,op:=Op.call {callee:=Callee.value (Operand.func 52),args:=#[Operand.const (Value.int IntKind.i64 k)],argTypes:=#[3]},type:=62,pos:=ps,after:=#[],guard:=none},
 {dst:=none,op:=Op.store 32 (Operand.tmp t2) (Operand.tmp d1),type:=0,pos:=ps,after:=#[{on:=0,ground:=Ground.data},{on:=1,ground:=Ground.chain},{on:=0,ground:=Ground.phase},{on:=1,ground:=Ground.textOnly Departure.lateStoresUnsure}],guard:=none},
 {dst:=none,op:=Op.store 62 (Operand.tmp t3) (Operand.tmp d2),type:=0,pos:=ps,after:=#[{on:=1,ground:=Ground.data},{on:=2,ground:=Ground.chain},{on:=0,ground:=Ground.phase},{on:=1,ground:=Ground.phase},{on:=2,ground:=Ground.phase}],guard:=none}]
def Ed(t1:Nat){d1 d2:Nat}{k:Int}{Q:Exit->Act->World->Prop}{w:World}(b0:Nat){n c:Nat}{q:OA} (hf:Region.free .any (Nd t1 t2 t3 d1 d2 ps k) (Array.replicate 4 false) 0=true)(e1:a.tmps[t1]?.getD undef=.pointer (some ⟨b0,0,none⟩))(e2:∀v u,((a.put (some d1) v).put (some d2) u).tmps[t2]?.getD undef=.pointer (some ⟨b1,0,none⟩))(e3:∀v u,((a.put (some d1) v).put (some d2) u).tmps[d1]?.getD undef=v)(e4:∀v u,((a.put (some d1) v).put (some d2) u).tmps[t3]?.getD undef=.pointer (some ⟨b2,0,none⟩))(e5:∀v u,((a.put (some d1) v).put (some d2) u).tmps[d2]?.getD undef=u)(h0:BX w b0 [.U e,.U g,.U x,.I t,.S p n c,.S q m d])(h1:BX w b1 [o0,o1,o2,o3,o4,o5])(h2:RX w b2 [r0,r1,r2,r3,r4,r5,r6,r7])(cg:b0≠b1)(zG:B<=b1)(jc:B<=b2)(h:∀w',BX w' b1 [.U e,.U g,.U x,.I t,.S p n c,.S q m d]->RX w' b2 [.I k,.U 0,.U 0,.U 0,.I 0,aQ,aQ,aQ]->Fr [32,62] w w'->Below B w w'->Q .normal ((a.put (some d1) (gh e g x t (.S p n c) (.S q m d))).put (some d2) (xw k 0 0 0 0 aQ aQ aQ)) w'):Code.wp prog (Code.region i (Nd t1 t2 t3 d1 d2 ps k) true) Q a w:=by
 unfold Nd at hf⊢;refine wp_region_noPanic ?_;have gx:Bw w w.drew:=ay.drew;have H0:=af (ah (h0.below gx) (ah (h1.below gx) (h2.below gx)));refine wp_region_held_drew (S:=fun w'=>BX w' b0 [.U e,.U g,.U x,.I t,.S p n c,.S q m d]) bg H0.1 (fun hS=>?_);obtain⟨vA,iw⟩:=au w.drew;rw[<-iw]at hS H0 gx⊢;clear iw;refine wpAnyH_take (i:=0) (oi:=_) (v:=gh e g x t (.S p n c) (.S q m d)) (by simp only[wC,Ar];rfl) bg hf bg (fun _ _ _ h=>h) (Or.inl ⟨rfl,?_⟩) hS ?_;{intro w' hw;obtain⟨k0,k1,k2,k3,k4,k5,kf⟩:=hw.cells;go_simp};refine dE 1 fun KK hK=>?_;refine jJ (Fo) ?_;rintro r v1⟨rfl,aA⟩;refine⟨_,rfl,?_⟩;refine hK.out _ _ (hS.below aA) (fun hS=>?_);clear hK KK;have H1:=af (ah (H0.2.1.below aA) (H0.2.2.below aA));have B1:=af (aj gx aA);clear H0 gx aA;obtain⟨a2,yN⟩:=au ((a.put (some d1) (gh e g x t (.S p n c) (.S q m d))).put (some d2) (xw k 0 0 0 0 aQ aQ aQ));refine dE 2 fun KK hK=>?_;have e2':=e2 (gh e g x t (.S p n c) (.S q m d)) (xw k 0 0 0 0 aQ aQ aQ);have e3':=e3 (gh e g x t (.S p n c) (.S q m d)) (xw k 0 0 0 0 aQ aQ aQ);have e4':=e4 (gh e g x t (.S p n c) (.S q m d)) (xw k 0 0 0 0 aQ aQ aQ);have e5':=e5 (gh e g x t (.S p n c) (.S q m d)) (xw k 0 0 0 0 aQ aQ aQ);have H2:=h;rw[<-yN]at e2' e3' e4' e5'⊢;rw[show(a.put (some d1) (gh e g x t (.S p n c) (.S q m d))).put (some d2) (xw k 0 0 0 0 aQ aQ aQ)=a2 from yN.symm]at H2;clear e1 e2 e3 e4 e5 h yN;obtain⟨k0,k1,k2,k3,k4,k5,kf⟩:=H1.1.cells;go_simp;obtain⟨X,hX⟩:=au (dX v1 b1 (.U e) (.U g) (.U x) (.I t) (.S p n c) (.S q m d));have bX:Below b1 v1 X:=by rw[hX];exact dz _ _ _ _ _ _ _
 have zk:BX X b1 [.U e,.U g,.U x,.I t,.S p n c,.S q m d]:=by rw[hX];exact H1.1.put _ _ _ _ _ _
 have BX0:BX X b0 [.U e,.U g,.U x,.I t,.S p n c,.S q m d]:=by rw[hX];exact hS.xk cg _ _ _ _ _ _
 have fX:Fr [32] v1 X:=by obtain⟨-,cur,ht⟩:=H1.1;rw[hX];exact jq ht
 have RX1:=H1.2.fr fX;unfold dX at hX;rw[<-hX];refine hK.out _ _ BX0 (fun hS=>?_);clear hK KK hX BX0 k0 k1 k2 k3 k4 k5 kf;refine dE 3 fun KK hK=>?_;obtain⟨k0,k1,k2,k3,k4,k5,k6,k7,kf⟩:=RX1.cells;go_simp;obtain⟨RXY,fY⟩:=RX1.put (.I k) (.U 0) (.U 0) (.U 0) (.I 0) aQ aQ aQ;have bY:=de (w:=X) (b:=b2) (.I k) (.U 0) (.U 0) (.U 0) (.I 0) aQ aQ aQ;obtain⟨Y,hY⟩:=au (kS X b2 (.I k) (.U 0) (.U 0) (.U 0) (.I 0) aQ aQ aQ);rw[<-hY]at RXY fY bY;unfold kS dX at hY;rw[<-hY];refine hK.out _ _ (hS.fr fY) (fun hS=>?_);clear hK KK hY;refine di ?_;exact H2 Y (zk.fr fY) RXY ((Fr.below (aa B1)).trans ((fX.sub ai).trans (fY.sub ai))) ((B1.mono (by have:=h1.lt;omega)).trans ((bX.mono zG).trans (bY.mono jc)))
structure RP where
 k:Int
 i:Int
 e:Int
 g:Int
 n:Int
 Mq:LI
 nms:List LI
 Lv:List Ev
def rB:RP:=⟨0,0,0,0,0,[],[],[]⟩
def zl(k:Int):RP:=⟨k,0,0,0,0,[],[],[]⟩
def og(D:SD):SD×RP:=if 50<=D.ss.length then(D,zl 11)else if 4611686018427387904<=D.x then(D,zl 12)else({D with x:=D.x+1,ss:=D.ss++[(D.x+1,D.t+10,[])]},{rB with i:=D.x+1,n:=D.t+10})
def by3(w:World)(l:LI)(c:List Value):Prop:=∃P,c=[P]/\TB w P l
abbrev TN(B:Nat)(w:World)(v:Value)(l:List LI):Prop:=RT by3 22 1 B w v l
def QR(B:Nat)(w w':World)(r:Ending)(D:SD)(R:RP):Prop:=∃p c q d Dv Nv Ev Qs,r=.returned (.tuple #[gh D.e D.g D.x D.t (.S p D.ss.length c) (.S q D.ns.length d),xw R.k R.i R.e R.g R.n Dv Nv Ev])/\kL B w' (.S p D.ss.length c) D.ss Qs/\AW B w' (.S q D.ns.length d) D.ns/\TB w' Dv R.Mq/\TN B w' Nv R.nms/\JA B w' Ev R.Lv/\Fr [165,86,93] w w'/\Below B w w'
def Fr.low{T:List TypeId}{w w1 w':World}(h:Fr T w w1)(hb:Below w.heap.size w1 w'):Fr T w w':=⟨fW h.1 hb.size,fun b cur ty m ht hc=>(hb.block b (kH hc)).trans (h.2 b cur ty m ht hc)⟩
def QR.num{w w1 w':World}{p q:OA}{n c m d:Nat}(en:Hid (ss.length=n))(em:Hid (ns.length=m))(hS:kL B w1 (.S p n c) ss Qs)(hN:AW B w1 (.S q m d) ns)(hF:Fr [165,86,93] w w1)(hB:Below B w w1)(f:Fr [32,62] w1 w')(b:Below w.heap.size w1 w')(hle:B<=w.heap.size)(k i a h s:Int):QR B w w' (.returned (.tuple #[gh e g x t (.S p n c) (.S q m d),xw k i a h s aQ aQ aQ])) ⟨e,g,x,t,ss,ns⟩ ⟨k,i,a,h,s,[],[],[]⟩:=by
 refine⟨p,c,q,d,aQ,aQ,aQ,Qs,by simp only[aa en,aa em],?_,?_,TB.nil _,RT.nil _ _ _ _ _,RT.nil _ _ _ _ _,hF.low b,hB.trans (b.mono hle)⟩;{simp only[aa en];exact hS.fr f};{simp only[aa em];exact gK.fr hN f}
def kL.bi9{w w':World}(h:kL B w v ss Qs)(hf:Fr [86] w w')(I J:Int)(hr:RT sX 86 3 B w' v' (ss.zip Qs++[((I,J,[]),aQ)])):kL B w' v' (ss++[(I,J,[])]) (Qs++[aQ]):=by
 have hl:=h.len;refine⟨by simp[hl],by rw[List.zip_append hl.symm];exact hr,fun i s Q hs hq=>?_,fun i j Q Q' b kF hq uw hb=>?_⟩;{
 by_cases hi:i<ss.length;{rw[kT hi]at hs;rw[kT ae]at hq;exact(h.Vr i s Q hs hq).fr hf};{
 have ei:i=ss.length:=by have:=(aT.1 hs).1;simp at this;omega
 subst ei;rw[mE ao,Au]at hs;rw[mE ae,hl,Au]at hq;simp at hs hq;subst hs hq;exact RT.nil _ _ _ _ _}};{
 by_cases hi:i<Qs.length;{
 rw[kT hi]at hq;by_cases hj:j<Qs.length;{rw[kT hj]at uw;exact h.xk i j Q Q' b kF hq uw hb};{
 rw[mE ae]at uw;have e:j-Qs.length=0:=by have:=(aT.1 uw).1;simp at this;omega
 rw[e]at uw;simp at uw;subst uw;simp[Value.ownBlock]}};{
 rw[mE ae]at hq;have e:i-Qs.length=0:=by have:=(aT.1 hq).1;simp at this;omega
 rw[e]at hq;simp at hq;subst hq;simp[Value.ownBlock]at hb}}
def bV0{tm:Array Value}{w:World}(hr:fn.results=#[.cell t2 32,.cell t3 62])(e2:tm[t2]?.getD undef=.pointer (some ⟨b1,0,none⟩))(e3:tm[t3]?.getD undef=.pointer (some ⟨b2,0,none⟩))(h1:BX w b1 [v0,v1,v2,v3,v4,v5])(h2:RX w b2 [r0,r1,r2,r3,r4,r5,r6,r7]):(results fn tm).run prog w=.ok (.tuple #[.agg #[v0,v1,v2,v3,v4,v5],.agg #[r0,r1,r2,r3,r4,r5,r6,r7]]) w:=by
 obtain⟨q0,q1,q2,q3,q4,q5,qf⟩:=h1.cells;obtain⟨s0,s1,s2,s3,s4,s5,s6,s7,sf⟩:=h2.cells;simp[results,hr,go_sem,e2,e3,q0,q1,q2,q3,q4,q5,s0,s1,s2,s3,s4,s5,s6,s7]
def rq(t1 t2 t3 d1 d2:Nat)(k:Int)(hrs:fn.results=#[.cell t2 32,.cell t3 62]){i:Nat}{ps:String}{Q:Exit->Act->World->Prop}{a:Act}{w w0:World}{b0:Nat}{p q:OA}{n c m d:Nat}{R:SD×RP}(h0:BX w b0 [.U e,.U g,.U x,.I t,.S p n c,.S q m d])(h1:BX w b1 [o0,o1,o2,o3,o4,o5])(h2:RX w b2 [r0,r1,r2,r3,r4,r5,r6,r7])(en:Hid (ss.length=n))(em:Hid (ns.length=m))(hS:kL B w (.S p n c) ss Qs)(hN:AW B w (.S q m d) ns)(hF:Fr [165,86,93] w0 w)(nF:Below B w0 w)(hB:B<=w0.heap.size)(E:Hid ((⟨e,g,x,t,ss,ns⟩,zl k)=R))(cg:b0≠b1:=by omega)(zG:w0.heap.size<=b1:=by omega)(jc:w0.heap.size<=b2:=by omega)(hd:a.defers=[]:=by rfl)(hf:Region.free .any (Nd t1 t2 t3 d1 d2 ps k) (Array.replicate 4 false) 0=true:=by kernel_rfl)(e1:a.tmps[t1]?.getD undef=.pointer (some ⟨b0,0,none⟩):=by rfl)(e2:∀v u,((a.put (some d1) v).put (some d2) u).tmps[t2]?.getD undef=.pointer (some ⟨b1,0,none⟩):=by exact fun _ _=>rfl)(e3:∀v u,((a.put (some d1) v).put (some d2) u).tmps[d1]?.getD undef=v:=by exact fun _ _=>rfl)(e4:∀v u,((a.put (some d1) v).put (some d2) u).tmps[t3]?.getD undef=.pointer (some ⟨b2,0,none⟩):=by exact fun _ _=>rfl)(e5:∀v u,((a.put (some d1) v).put (some d2) u).tmps[d2]?.getD undef=u:=by exact fun _ _=>rfl)(hQ:∀a' w',bodyPost prog fn (fun r w'=>QR B w0 w' r R.1 R.2) .ret a' w'->Q .normal a' w':=by(intro _ _ h;go_wp2;exact h)):Code.wp prog (Code.region i (Nd t1 t2 t3 d1 d2 ps k) true) Q a w:=by
 refine Ed t1 b0 hf e1 e2 e3 e4 e5 h0 h1 h2 cg zG jc fun w' q1 q2 f b=>hQ _ _ ?_;refine fL (bV0 hrs (e2 _ _) (e4 _ _) q1 q2) hd ?_;rw[<-aa E];exact QR.num (e:=e) (g:=g) (x:=x) (t:=t) en em hS hN hF nF f b hB k 0 0 0 0
def TI{md:Region.Mode}{Q:Exit->Act->World->Prop}{S:World->Prop}{listed:Array Bool}{w:World}(i5 i6 t2 t3 d1 d2:Nat){ps':String}{A5 A6:Array Edge}(Hw:Region.ready md ops listed=[i5])(kY:Region.ready md ops (listed.setIfInBounds i5 true)=[i6])(GJ:Region.ready md ops ((listed.setIfInBounds i5 true).setIfInBounds i6 true)=[])(GK:ops[i5]?=some {dst:=none,op:=Op.store 32 (Operand.tmp t2) (Operand.tmp d1),type:=0,pos:=ps,after:=A5,guard:=none})(ho6:ops[i6]?=some {dst:=none,op:=Op.store 62 (Operand.tmp t3) (Operand.tmp d2),type:=0,pos:=ps',after:=A6,guard:=none})(b1 b2:Nat)(e g x t:Int)(p:OA)(n c:Nat)(q:OA)(m d:Nat)(k i h s z:Int)(dp:OA)(dn dc:Nat)(np:OA)(nn nc:Nat)(vp:OA)(vn vc:Nat) (e2:a.tmps[t2]?.getD undef=.pointer (some ⟨b1,0,none⟩))(e3:a.tmps[d1]?.getD undef=gh e g x t (.S p n c) (.S q m d))(e4:a.tmps[t3]?.getD undef=.pointer (some ⟨b2,0,none⟩))(e5:a.tmps[d2]?.getD undef=xw k i h s z (.S dp dn dc) (.S np nn nc) (.S vp vn vc))(h1:BX w b1 [o0,o1,o2,o3,o4,o5])(h2:RX w b2 [r0,r1,r2,r3,r4,r5,r6,r7])(h12:b1<b2)(hSk:∀w',Below b1 w w'->Fr [32,62] w w'->S w')(hQ:∀w',BX w' b1 [.U e,.U g,.U x,.I t,.S p n c,.S q m d]->RX w' b2 [.I k,.U i,.U h,.U s,.I z,.S dp dn dc,.S np nn nc,.S vp vn vc]->Fr [32,62] w w'->Below b1 w w'->Q .normal a w'):wpAnyH prog md ops Q S 2 listed a w:=by
 refine wpAnyH_ready Hw ai ?_;refine AllReadyH.cons GK (fun KK hK=>?_) AllReadyH.nil;obtain⟨k0,k1,k2,k3,k4,k5,kf⟩:=h1.cells;go_simp;obtain⟨X,hX⟩:=au (dX w b1 (.U e) (.U g) (.U x) (.I t) (.S p n c) (.S q m d));have bX:Below b1 w X:=by rw[hX];exact dz _ _ _ _ _ _ _
 have zk:=h1.put (.U e) (.U g) (.U x) (.I t) (.S p n c) (.S q m d);have fX:Fr [32] w X:=by obtain⟨-,cur,ht⟩:=h1;rw[hX];exact jq ht
 rw[<-hX]at zk;have RX1:=h2.fr fX;unfold dX at hX;rw[<-hX];refine hK.out _ _ (hSk X bX (fX.sub ai)) (fun hS=>?_);clear hK KK hX k0 k1 k2 k3 k4 k5 kf;refine wpAnyH_ready kY ai ?_;refine AllReadyH.cons ho6 (fun KK hK=>?_) AllReadyH.nil;obtain⟨k0,k1,k2,k3,k4,k5,k6,k7,kf⟩:=RX1.cells;go_simp;obtain⟨RXY,fY⟩:=RX1.put (.I k) (.U i) (.U h) (.U s) (.I z) (.S dp dn dc) (.S np nn nc) (.S vp vn vc);have bY:=de (w:=X) (b:=b2) (.I k) (.U i) (.U h) (.U s) (.I z) (.S dp dn dc) (.S np nn nc) (.S vp vn vc);obtain⟨Y,hY⟩:=au (kS X b2 (.I k) (.U i) (.U h) (.U s) (.I z) (.S dp dn dc) (.S np nn nc) (.S vp vn vc));rw[<-hY]at RXY fY bY;unfold kS dX at hY;rw[<-hY];have bY':=bX.trans (bY.mono (aE0 h12));refine hK.out _ _ (hSk Y bY' ((fX.sub ai).trans (fY.sub ai))) (fun hS=>?_);clear hK KK hY;refine wpAnyH_done GJ ?_ _;exact hQ Y (zk.fr fY) RXY ((fX.sub ai).trans (fY.sub ai)) bY'
def mh(nd:aB)(id:Int):Bool:=decide (nd.mode=0)||(decide (nd.holders.length=1)&&decide (nd.holders.headD 0=id))
def ac7{P V H U:Value}{n c:Nat}(eH:Hid (nd.holders.length=n)){id:Int}{w:World}(tH:Hid (qT w (.S p n c) nd.holders))(hP:P.oneCell'=true)(hV:V.oneCell'=true)(hU:U.oneCell'=true):Cp 132 #[.agg #[P,V,.U nd.owner,.I nd.mode,.S p n c,.U nd.aJ,.U nd.gen,U],.U id] w fun r w'=>r=.returned (.bool (mh nd id))/\Bw w w':=by
 go_enter func132,ntmps132;by_cases hm:nd.mode=0;{
 have hf:mh nd id=true:=by simp[mh,hm]
 rw[hf];have hm':(nd.mode==0)=true:=by simp[hm]
 go_wp2;go_ret;exact⟨rfl,ay.alloc ao _⟩};{
 have hm':(nd.mode==0)=false:=by simp[hm]
 by_cases hn:n=1;{
 obtain⟨x,hx⟩:∃x,nd.holders=[x]:=aD0.1 (by rw[aa eH,hn]);obtain⟨b,o,rfl,hc⟩:=tH.at (k:=0) (x:=x) (by rw[hx];rfl);rw[Fe]at hc;have qM:=fun ob:Obj=>ag hc ((cW _ w).alloc ao ob);have hf:Hid (mh nd id=decide (x=id)):=by show _=_;simp[mh,hm,hx]
 subst hn;have h1:((1:Int)==1)=true:=aU;by_cases hxi:x=id;{
 subst hxi;have h2:(x==x)=true:=ai;go_wp2;go_ret;have Ld:mh nd x=true:=by rw[aa hf];simp
 exact⟨by rw[Ld];rfl,ay.alloc ao _⟩};{
 have h2:(x==id)=false:=by simpa using hxi
 go_wp2;go_ret;exact⟨by rw[aa hf,tg hxi];rfl,ay.alloc ao _⟩}};{
 have hf:Hid (mh nd id=false):=by show _=_;simp[mh,hm,aa eH,hn]
 have h1:((n:Int)==1)=false:=by simp;omega
 go_wp2;go_ret;exact⟨by rw[aa hf];rfl,ay.alloc ao _⟩}}
def rK(D:SD)(k:Nat)(s fl:Int):SD×RP:=match D.ns[k]? with
 |none=>(D,rB)
 |some nd=>if nd.holders.contains s then(D,zl 9)
  else if fl=2 then(if nd.mode=1 then(D,zl 9)else({D with ns:=D.ns.set k {nd with mode:=2,holders:=vR nd.holders s}},rB))
  else if nd.mode≠0 then(D,zl 9)else if 4611686018427387904<=D.g then(D,zl 12)
  else({D with g:=D.g+1,ns:=D.ns.set k {nd with mode:=1,holders:=[s],aJ:=D.e,gen:=D.g+1}},{rB with e:=D.e,g:=D.g+1})
abbrev GF(K S:Int)(P:Value)(F:Int)(V:Value)(E G:Int):Value:=.agg #[.I K,.U S,P,.I F,V,.U E,.U G]
def BX.dM{w w':World}(h:BX w b vs)(hk:w'.heap[b]?=w.heap[b]?):BX w' b vs:=⟨h.1.dM hk,h.2.imp fun cur hc=>hk.trans hc⟩
def RX.dM{w w':World}(h:RX w b vs)(hk:w'.heap[b]?=w.heap[b]?):RX w' b vs:=⟨h.1.dM hk,h.2.imp fun cur hc=>hk.trans hc⟩
def LB(w:World)(b:Nat)(st op rs rp gy:List Value):Prop:=BX w b st/\al w (b+1) op/\BX w (b+1+1) rs/\RX w (b+1+1+1) rp/\al w (b+1+1+1+1) gy
def LB.keep{st op rs rp gy:List Value}(h:LB w' b st op rs rp gy)(hk:∀j,b<=j->j<b+5->w''.heap[j]?=w'.heap[j]?):LB w'' b st op rs rp gy:=
 ⟨h.1.dM (hk _ ae ae),h.2.1.dM (hk _ ae ae),h.2.2.1.dM (hk _ ae ae),h.2.2.2.1.dM (hk _ ae ae),h.2.2.2.2.dM (hk _ ae ae)⟩
def LB.Zm{w:World}{s0 s1 s2 s3 s4 s5 n0 n1 n2 n3 n4:Value}{os rs rp nr:List Value}(h:LB w b [s0,s1,s2,s3,s4,s5] (o0::o1::os) rs rp (n0::n1::n2::n3::n4::nr)):w.cell? ⟨b,5,none⟩=some s5/\w.cell? ⟨b+1,1,none⟩=some o1/\w.cell? ⟨b+1+1+1+1,4,none⟩=some n4:=⟨h.1.1.1 5 _ rfl,h.2.1.1 1 _ rfl,h.2.2.2.2.1 4 _ rfl⟩
def LB.bm0{st op rs rp gy:List Value}(h:LB w' b st op rs rp gy)(hk:∀j,b<j->j<b+5->w''.heap[j]?=w'.heap[j]?):al w'' (b+1) op/\BX w'' (b+1+1) rs/\RX w'' (b+1+1+1) rp/\al w'' (b+1+1+1+1) gy:=
 ⟨h.2.1.dM (hk _ ae ae),h.2.2.1.dM (hk _ ae ae),h.2.2.2.1.dM (hk _ ae ae),h.2.2.2.2.dM (hk _ ae ae)⟩
def BX.six{w:World}(h:BX w b [v0,v1,v2,v3,v4,v5]):w.cell? ⟨b,0,none⟩=some v0/\w.cell? ⟨b,1,none⟩=some v1/\w.cell? ⟨b,2,none⟩=some v2/\w.cell? ⟨b,3,none⟩=some v3/\w.cell? ⟨b,4,none⟩=some v4/\w.cell? ⟨b,5,none⟩=some v5:=⟨h.1.1 0 _ rfl,h.1.1 1 _ rfl,h.1.1 2 _ rfl,h.1.1 3 _ rfl,h.1.1 4 _ rfl,h.1.1 5 _ rfl⟩
def Zl{n c:Nat}{q:OA}(en:Hid (ss.length=n))(em:Hid (ns.length=m))(hk:Hid (ns[k]?=some nd)){K S F E G:Int}{vp:OA}{nv cv:Nat}{w:World}(hS:Hid (kL B w (.S p n c) ss Qs))(hN:Hid (AW B w (.S q m d) ns))(hB:B<=w.heap.size)(hm:m<=1048576)(hh:nd.holders.length<=1048576)(hg:0<=g/\g<=4611686018427387904){R:SD×RP}(eR:Hid (rK ⟨e,g,x,t,ss,ns⟩ k S F=R)):Cp 133 #[gh e g x t (.S p n c) (.S q m d),.I k,GF K S (.S pp np cp) F (.S vp nv cv) E G] w fun r w'=>QR B w w' r R.1 R.2:=by
 obtain⟨gn,Pv,Vv,Hv,Uv,rfl,-,-,c0,c1,c2,c3,c4,c5,c6,c7,tP,tV,tH,tU,cfz⟩:=gK.at hN hk;have hkm:k<m:=by rw[<-aa em];exact(aT.1 (aa hk)).1
 have aQ7:=aP k m;obtain⟨pP,cP,rfl⟩:=tP.iB;obtain⟨pV,cV,rfl⟩:=tV.iB;obtain⟨pH,cH,rfl⟩:=tH.iB;obtain⟨pU,cU,rfl⟩:=tU.iB;obtain⟨nP,hnP⟩:=au nd.path.length;obtain⟨nV,hnV⟩:=au nd.value.length;obtain⟨nU,hnU⟩:=au nd.watchers.length;obtain⟨nh,eH⟩:=cK nd.holders.length;rw[<-hnP]at c0;rw[<-hnV]at c1;rw[<-hnU]at c7;rw[aa eH]at hh tH c4;clear hnP hnV hnU tP tV tU;obtain⟨ow,mo,ep,ge,br⟩:∃ow mo ep ge,Hid (nd.owner=ow/\nd.mode=mo/\nd.aJ=ep/\nd.gen=ge):=⟨_,_,_,_,af ⟨rfl,rfl,rfl,rfl⟩⟩
 rw[br.1]at c2;rw[br.2.1]at c3;rw[br.2.2.1]at c5;rw[br.2.2.2]at c6;have Xm:gn<w.heap.size:=(hN.lt gn rfl).2;have La:=(hN.lt gn rfl).1;obtain⟨W0,dV,b0,z0,C0⟩:=jL w (.U e) (.U g) (.U x) (.I t) (.S p n c) (.T gn m d);obtain⟨W1,mR,b1,z1,C1,-⟩:=aC W0 #[.I K,.U S,.S pp np cp,.I F,.S vp nv cv,.U E,.U G] 56;obtain⟨W2,pR,b2,z2,C2⟩:=sY W1;obtain⟨W3,FK,b3,z3,C3⟩:=qQ W2 (.I 0) (.U 0) (.U 0) (.U 0) (.I 0) aQ aQ aQ;obtain⟨W4,hW4,b4,z4,C4,-⟩:=aC W3 #[.S pP nP cP,.S pV nV cV,.U ow,.I mo,.S pH nh cH,.U ep,.U ge,.S pU nU cU] 93;rw[z0]at C1 z1;rw[z1]at C2 z2;rw[z2]at C3 z3;rw[z3]at C4 z4;have HC:=af (ah ((((C0.below b1).below b2).below b3).below b4) (ah (((C1.below ae b2).below ae b3).below ae b4) (ah ((C2.below b3).below b4) (ah (C3.below b4) C4))));have bW:=af (aj (aj (aj (aj b0 b1) b2) b3) b4);have HS:=af (ah (hS.fr (aK (aa bW))) (ah (hN.fr (aK (aa bW))) (tH.fr (aK (aa bW)))));have aW:=fun(o1 o2 o3 o4:Obj)=>((((cW w.heap.size w).alloc ao o1).alloc ai o2).alloc bj o3).alloc bj o4;have m0:=fun(o1 o2 o3 o4:Obj)=>ag c0 (aW o1 o2 o3 o4);have m1:=fun(o1 o2 o3 o4:Obj)=>ag c1 (aW o1 o2 o3 o4);have m2:=fun(o1 o2 o3 o4:Obj)=>ag c2 (aW o1 o2 o3 o4);have m3:=fun(o1 o2 o3 o4:Obj)=>ag c3 (aW o1 o2 o3 o4);have m4:=fun(o1 o2 o3 o4:Obj)=>ag c4 (aW o1 o2 o3 o4);have m5:=fun(o1 o2 o3 o4:Obj)=>ag c5 (aW o1 o2 o3 o4);have m6:=fun(o1 o2 o3 o4:Obj)=>ag c6 (aW o1 o2 o3 o4);have m7:=fun(o1 o2 o3 o4:Obj)=>ag c7 (aW o1 o2 o3 o4);have tF:=af (ah c3 (ah c4 (ah c5 (ah c6 cfz))));clear b0 b1 b2 b3 b4 C0 C1 C2 C3 C4 c0 c1 c2 c3 c4 c5 c6 c7 cfz tH aW;go_enter func133,ntmps133;go_wp2_with fail;rw[<-dV,<-mR,<-pR,<-FK,<-hW4];clear dV mR pR FK hW4 m0 m1 m2 m3 m4 m5 m6 m7;obtain⟨bo,Wf⟩:=cK (nd.holders.contains S);have hR:=aa eR;unfold rK at hR;simp only[aa hk,aa Wf,br.2.1]at hR;have HR:=af hR;clear hR;refine(Az eH HS.2.2.1 hh Wf).mono ?_;rintro r w1⟨rfl,aA⟩;have z1':=aA.size;have xu:=af (ah (HC.1.below aA) (ah (HC.2.1.below ae aA) (ah (HC.2.2.1.below aA) (ah (HC.2.2.2.1.below aA) (HC.2.2.2.2.below ae aA)))));have Cq:=af (ah (HS.1.fr (aK aA)) (ah (HS.2.1.fr (aK aA)) (HS.2.2.fr (aK aA))));have mK:=af (aj bW aA);have c3:=ag tF.1 mK;have c4:=ag tF.2.1 mK;have c5:=ag tF.2.2.1 mK;have c6:=ag tF.2.2.2.1 mK;have fz:=fun o=>(mK.frozen (p:=⟨gn,o,none⟩) Xm).trans (tF.2.2.2.2 o);clear HC HS bW tF aA;have o1:=xu.2.1.1 1 _ rfl;have o3:=xu.2.1.1 3 _ rfl;have n3:=xu.2.2.2.2.1 3 _ rfl;have n4:=xu.2.2.2.2.1 4 _ rfl;obtain⟨k0,k1,k2,k3,k4,k5,kf⟩:=xu.1.cells;have cg:¬gn=w.heap.size:=ae;cases bo;{
 by_cases hF:F=2;{
 have hF':(F==2)=true:=by simp[hF]
 by_cases xx:mo=1;{
 have aQ3:(mo==1)=true:=by simp[xx]
 have e9:=aa HR;simp only[hF,xx,Hj,wu,pG]at e9;have E9:=af e9;clear e9 hF xx;go_wp2_with fail;exact rq 3 6 7 27 28 9 results133 xu.1 xu.2.2.1 xu.2.2.2.1 en em Cq.1 Cq.2.1 (Fr.below mK) (mK.mono hB) hB E9};{
 have aQ3:(mo==1)=false:=by simp[xx]
 have e9:=aa HR;simp only[hF,xx,Hj,wu,pG]at e9;have E9:=af e9;clear e9 hF xx;obtain⟨N3,F3⟩:=gK.put Cq.2.1 hk (j:=3) ae (.I 2) {nd with mode:=2} (fun w' P V H U h1 h2 h3 h4 hf=>⟨P,V,H,U,rfl,h1,h2,h3,h4⟩);obtain⟨X,hX⟩:=au (w1.setCell ⟨gn,k*8+3,none⟩ (.I 2));have LX:=LB.keep (w'':=X) (aa xu) (fun j h1 h2=>by rw[hX];exact fy _ _ _ _ (by show j≠gn;omega));have BX':Below B w X:=by rw[hX];exact(mK.mono hB).setCell (p:=⟨gn,_,none⟩) La _
 rw[<-hX]at N3 F3;have HX:=af (ah LX (ah N3 (ah F3 BX')));have zX:=F3.1;have fz3:=fz (k*8+3);clear LX N3 F3 BX';go_wp2_with fail;rw[<-hX];clear hX fz3 fz c3 c4 c5 c6 o1 o3 n3 n4 k0 k1 k2 k3 k4 k5 kf;obtain⟨vA,iw⟩:=au X.drew;have gx:=mi iw;have HA:=af (fun(v:World)(hv:Bw vA v)=>ah (LB.keep (w'':=v) HX.1 (fun j h1 h2=>(aj gx hv).block j ae)) (ah (gK.fr HX.2.1 (aK (aj gx hv))) (aj gx hv)));have TA:=af ((Cq.2.2.fr HX.2.2.1).fr (aK gx));refine dy (fun w'=>w'.cell? ⟨w.heap.size,5,none⟩=some (.T gn m d)/\w'.cell? ⟨w.heap.size+1,1,none⟩=some (.U S)/\w'.cell? ⟨w.heap.size+1+1+1+1,4,none⟩=some (.S pH nh cH)) (by rw[<-iw];exact(aa HA vA ay).1.Zm) fun hS=>?_;rw[<-iw]at hS⊢;clear iw gx;refine mu 0 1 2 3 hS ?_;refine jZ 4 5 hS ?_;refine tn 6 hS ?_;refine dE 7 fun KK hK=>?_;refine xR (Ro eH TA.1 hh) ?_;rintro r v1⟨pl,cl,rfl,ol,aF⟩;refine⟨_,rfl,?_⟩;obtain⟨nl,jH⟩:=cK (vR nd.holders S).length;rw[aa jH]at ol⊢;have OL:=af (ol.tu (B':=B) (by have:=HX.2.2.2.size;have:=(aa HA vA ay).2.2.size;omega));have vO:=af aF;refine gr hK (by exact(aa HA v1 aF).1.Zm) fun hS=>?_;clear hK KK ol aF;refine jZ 8 9 hS ?_;refine dE 10 fun KK hK=>?_;obtain⟨LV,NV,bV⟩:=aa HA v1 vO;obtain⟨gn',-,-,H',-,eg,-,-,-,-,-,-,d4,-,-,-,-,-,-,-,dfz⟩:=gK.at NV (bM hk _);obtain⟨rfl,-⟩:=xr eg;have fz4:=dfz (k*8+4);have NV':=af NV;have LV':=af LV;have bV':=af bV;clear NV LV bV dfz;go_simp;obtain⟨N4,F4⟩:=gK.Rc NV' hk (j:=4) ae (.S pl nl cl) {nd with mode:=2,holders:=vR nd.holders S} (fun w' P V H U h1 h2 h3 h4 hf=>⟨P,V,.S pl nl cl,U,rfl,h1,h2,OL.fr hf,h4⟩);obtain⟨Z,hZ⟩:=au (v1.setCell ⟨gn,k*8+4,none⟩ (.S pl nl cl));have LZ:=LB.keep (w'':=Z) (aa LV') (fun j h1 h2=>by rw[hZ];exact fy _ _ _ _ (by show j≠gn;omega));have BZ:Below B w Z:=by rw[hZ];exact(HX.2.2.2.trans (bV'.mono ae)).setCell (p:=⟨gn,_,none⟩) La _
 rw[<-hZ]at N4 F4⊢;have HZ:=af (ah LZ (ah N4 (ah ((((Fr.below (T:=[165,86,93]) (aa mK)).trans (HX.2.2.1.sub ai)).trans (Fr.below (aa bV'))).trans (F4.sub ai)) (ah BZ (((Cq.1.fr HX.2.2.1).fr (aK (aa bV'))).fr F4)))));refine gr hK (by exact LZ.Zm) fun hS=>?_;clear hK KK hZ N4 F4 LZ BZ d4 fz4;refine di ?_;clear hS;obtain⟨k0,k1,k2,k3,k4,k5,kf⟩:=HZ.1.1.cells;obtain⟨q0,q1,q2,q3,q4,q5,qf⟩:=HZ.1.2.2.1.cells;obtain⟨r0,r1,r2,r3,r4,r5,r6,r7,rf⟩:=HZ.1.2.2.2.1.cells;go_wp2;obtain⟨fA,bA,gA⟩:=HZ.1.2.2.1.fin HZ.2.2.1 HZ.2.2.2.1 ae hB (.U e) (.U g) (.U x) (.I t) (.S p n c) (.T gn m d);obtain⟨-,fB⟩:=(HZ.1.2.2.2.1.fr gA).put (.I 0) (.U 0) (.U 0) (.U 0) (.I 0) aQ aQ aQ;have bB:=de (w:=dX Z (w.heap.size+1+1) (.U e) (.U g) (.U x) (.I t) (.S p n c) (.T gn m d)) (b:=w.heap.size+1+1+1) (.I 0) (.U 0) (.U 0) (.U 0) (.I 0) aQ aQ aQ;have bC:=(dz (w:=Z) (w.heap.size+1+1) (.U e) (.U g) (.U x) (.I t) (.S p n c) (.T gn m d)).mono (show w.heap.size<=_ by omega);refine fL (v:=.tuple #[gh e g x t (.S p n c) (.T gn m d),xw 0 0 0 0 0 aQ aQ aQ]) (by simp[results,results133,go_sem,q0,q1,q2,q3,q4,q5,r0,r1,r2,r3,r4,r5,r6,r7]) rfl ?_;rw[<-aa E9];exact QR.num en (af (by rw[mB];exact aa em)) HZ.2.2.2.2 HZ.2.1 HZ.2.2.1 HZ.2.2.2.1 ((gA.sub ai).trans (fB.sub ai)) (bC.trans (bB.mono ae)) hB 0 0 0 0 0}};{
 have hF':(F==2)=false:=by simp[hF]
 by_cases Jp:mo=0;{
 have cd7:(mo != 0)=false:=by simp[Jp]
 by_cases xz:4611686018427387904<=g;{
 have cf3:decide (4611686018427387904<=g)=true:=by simpa using xz
 have e9:=aa HR;simp only[hF,Jp,xz,Hj,wu,pG,ne_eq,YW]at e9;have E9:=af e9;clear e9 hF Jp;go_wp2_with fail;exact rq 3 6 7 54 55 12 results133 xu.1 xu.2.2.1 xu.2.2.2.1 en em Cq.1 Cq.2.1 (Fr.below mK) (mK.mono hB) hB E9};{
 have cf3:decide (4611686018427387904<=g)=false:=by simpa using xz
 have e9:=aa HR;simp only[hF,Jp,xz,Hj,wu,pG,ne_eq,YW]at e9;have E9:=af e9;clear e9 hF Jp;have wg:IntKind.u64.wrap (g+1)=g+1:=IntWalk.u64_in _ ae;obtain⟨Y0,hY0⟩:=au (w1.setCell ⟨w.heap.size,1,none⟩ (.U (g+1)));have B0:BX Y0 w.heap.size [.U e,.U (g+1),.U x,.I t,.S p n c,.T gn m d]:=by rw[hY0];exact⟨xu.1.1.fK 1 ai _,(dm xu.1.2).1⟩
 have L0:LB Y0 w.heap.size [.U e,.U (g+1),.U x,.I t,.S p n c,.T gn m d] _ _ _ _:=⟨B0,LB.bm0 (w'':=Y0) (aa xu) (fun j h1 h2=>by rw[hY0];exact fy _ _ _ _ (by show j≠w.heap.size;omega))⟩;have F0:Fr [32] w1 Y0:=by rw[hY0];exact(dm xu.1.2).2
 obtain⟨N3,F3⟩:=gK.put (Cq.2.1.fr F0) hk (j:=3) ae (.I 1) {nd with mode:=1} (fun w' P V H U h1 h2 h3 h4 hf=>⟨P,V,H,U,rfl,h1,h2,h3,h4⟩);obtain⟨Y1,hY1⟩:=au (Y0.setCell ⟨gn,k*8+3,none⟩ (.I 1));have L1:=LB.keep (w'':=Y1) L0 (fun j h1 h2=>by rw[hY1];exact fy _ _ _ _ (by show j≠gn;omega));rw[<-hY1]at N3 F3;have zY:Y1.heap.size=w1.heap.size:=by rw[hY1,hY0];simp
 obtain⟨A,hA,bA,zA,CA,TA⟩:=aC Y1 #[.U S] 28;rw[zY]at CA TA;have L2:=LB.keep (w'':=A) L1 (fun j h1 h2=>bA.block j ae);have N4:=N3.fr (aK bA);have TS:TU B A (.T w1.heap.size 1 1) [S]:=by
  refine⟨⟨_,_,rfl,.inr ⟨w1.heap.size,0,rfl,?_⟩⟩,?_,⟨?_,?_⟩,?_⟩;{
 intro i hi;have e0:i=0:=by simp at hi;omega
 subst e0;exact CA.1 0 _ rfl};{intro b hb;simp only[Value.ownBlock,jU]at hb;subst hb;exact⟨_,TA⟩};{intro a n c e;simp only[dU,jU]at e;obtain⟨rfl,rfl,rfl⟩:=e;exact⟨rfl,rfl,fun j h1 h2=>ae⟩};{intro n c e;simp at e};{intro b hb;simp only[Value.ownBlock,jU]at hb;omega}
 obtain⟨gn',P',V',H',U',eg,-,-,-,-,-,-,d4,d5,d6,-,-,-,-,-,dfz⟩:=gK.at N4 (bM hk _);obtain⟨rfl,-⟩:=xr eg;obtain⟨s0,s1,s2,s3,s4,s5,sf⟩:=L2.1.cells;have fz4:=dfz (k*8+4);have fz5:=dfz (k*8+5);have fz6:=dfz (k*8+6);have fz3:=fz (k*8+3);obtain⟨N5,F5⟩:=gK.Rc N4 hk (j:=4) ae (.T w1.heap.size 1 1) {nd with mode:=1,holders:=[S]} (fun w' P V H U h1 h2 h3 h4 hf=>⟨P,V,.T w1.heap.size 1 1,U,rfl,h1,h2,TS.fr hf,h4⟩);obtain⟨N6,F6⟩:=gK.Rc N5 hk (j:=5) ae (.U e) {nd with mode:=1,holders:=[S],aJ:=e} (fun w' P V H U h1 h2 h3 h4 hf=>⟨P,V,H,U,rfl,h1,h2,h3,h4⟩);obtain⟨N7,F7⟩:=gK.Rc N6 hk (j:=6) ae (.U (g+1)) {nd with mode:=1,holders:=[S],aJ:=e,gen:=g+1} (fun w' P V H U h1 h2 h3 h4 hf=>⟨P,V,H,U,rfl,h1,h2,h3,h4⟩);obtain⟨Z,hZ⟩:=au (((A.setCell ⟨gn,k*8+4,none⟩ (.T w1.heap.size 1 1)).setCell ⟨gn,k*8+5,none⟩ (.U e)).setCell ⟨gn,k*8+6,none⟩ (.U (g+1)));have LZ:=LB.keep (w'':=Z) L2 (fun j h1 h2=>by
  rw[hZ]
  iterate 3 rw[fy _ _ _ _ (show j≠_ by show j≠gn;omega)])
 have FA:Fr [93] A Z:=by rw[hZ];exact(F5.trans F6).trans F7
 have BZ:Below B w Z:=by rw[hZ];refine((Av (p:=⟨gn,_,none⟩) ?_ La _).setCell (p:=⟨gn,_,none⟩) La _).setCell (p:=⟨gn,_,none⟩) La _;refine Below.trans ?_ (bA.mono ae);rw[hY1,hY0];exact((mK.mono hB).setCell (p:=⟨w.heap.size,_,none⟩) hB _).setCell (p:=⟨gn,_,none⟩) La _
 have FZ:Fr [165,86,93] w Z:=by
  have bY0:Below w.heap.size w1 Y0:=by rw[hY0];exact ay.setCell (p:=⟨w.heap.size,1,none⟩) ao _
  exact(((Fr.low (Fr.below (aa mK)) bY0).trans (F3.sub ai)).trans (Fr.below bA)).trans (FA.sub ai)
 rw[<-hZ]at N7;have SZ:=((Cq.1.fr F0).fr F3 aU |>.fr (aK bA)).fr FA;have HZ:=af (ah LZ (ah N7 (ah FZ (ah BZ SZ))));have zZ:w1.heap.size<Z.heap.size:=by have:=FA.1;omega
 rw[hY0]at hY1;rw[hY1]at hA;rw[hA]at hZ s0 s1 s5 d4 d5 d6 fz4 fz5 fz6;clear B0 L0 F0 N3 F3 L1 bA zA CA TA L2 N4 TS dfz s2 s3 s4 sf N5 F5 N6 F6 N7 F7 LZ FA BZ FZ SZ hY0 hY1 hA zY;go_wp2_with fail;rw[<-hZ];clear hZ s0 s1 s5 d4 d5 d6 fz3 fz4 fz5 fz6 fz c3 c4 c5 c6 o1 o3 n3 n4 k0 k1 k2 k3 k4 k5 kf;obtain⟨vA,iw⟩:=au Z.drew;have gx:=mi iw;have HA:=af (fun(v:World)(hv:Below (w.heap.size+1+1) vA v)=>HZ.1.1.dM ((hv.block _ ae).trans (gx.block _ ae)));have LA:=af (LB.keep (w'':=vA) HZ.1 (fun j h1 h2=>gx.block j ae));have BA:=af gx;refine dy (fun w'=>w'.cell? ⟨w.heap.size,0,none⟩=some (.U e)/\w'.cell? ⟨w.heap.size,1,none⟩=some (.U (g+1))/\w'.cell? ⟨w.heap.size,2,none⟩=some (.U x)/\w'.cell? ⟨w.heap.size,3,none⟩=some (.I t)/\w'.cell? ⟨w.heap.size,4,none⟩=some (.S p n c)/\w'.cell? ⟨w.heap.size,5,none⟩=some (.T gn m d)) (by rw[<-iw];exact(aa HA vA ay).six) fun hS=>?_;rw[<-iw]at hS⊢;clear iw gx;refine mu 0 1 2 3 hS ?_;refine jZ 4 5 hS ?_;refine TI 6 7 6 7 87 92 bg bg bg rfl rfl (w.heap.size+1+1) (w.heap.size+1+1+1) e (g+1) x t p n c (some ⟨gn,0,none⟩) m d 0 0 e (g+1) 0 none 0 0 none 0 0 none 0 0 rfl rfl rfl rfl LA.2.2.1 LA.2.2.2.1 ae (fun v hv _=>(aa HA v hv).six) ?_;intro w' aA Hw f1 WM;refine az6 ?_;clear hS;have HQ:=af (QR.num (e:=e) (g:=g+1) (x:=x) (t:=t) en (af (by rw[mB];exact aa em)) HZ.2.2.2.2 HZ.2.1 HZ.2.2.1 HZ.2.2.2.1 ((Fr.below (T:=[32,62]) (aa BA)).trans f1) ((BA.mono ae).trans (WM.mono ae)) hB 0 0 e (g+1) 0);clear f1 WM;obtain⟨q0,q1,q2,q3,q4,q5,qf⟩:=aA.cells;obtain⟨r0,r1,r2,r3,r4,r5,r6,r7,rf⟩:=Hw.cells;go_wp2;refine fL (v:=.tuple #[gh e (g+1) x t (.S p n c) (.T gn m d),xw 0 0 e (g+1) 0 aQ aQ aQ]) (by simp[results,results133,go_sem,q0,q1,q2,q3,q4,q5,r0,r1,r2,r3,r4,r5,r6,r7]) rfl ?_;rw[<-aa E9];exact HQ}};{
 have cd7:(mo != 0)=true:=by simp[Jp]
 have e9:=aa HR;simp only[hF,Jp,Hj,wu,pG,ne_eq,not_false_eq_true]at e9;have E9:=af e9;clear e9 hF Jp;go_wp2_with fail;exact rq 3 6 7 49 50 9 results133 xu.1 xu.2.2.1 xu.2.2.2.1 en em Cq.1 Cq.2.1 (Fr.below mK) (mK.mono hB) hB E9}}};{have e9:=aa HR;simp only[pG]at e9;have E9:=af e9;clear e9;go_wp2_with fail;exact rq 3 6 7 19 20 9 results133 xu.1 xu.2.2.1 xu.2.2.2.1 en em Cq.1 Cq.2.1 (Fr.below mK) (mK.mono hB) hB E9}
def aX3(ns:List aB)(P:LI)(S E G:Int):Int:=match ia ns P with
 |none=>0
 |some nd=>if nd.mode=1/\nd.holders.headD 0=S/\nd.aJ=E/\nd.gen=G then 1 else 0
def Fg(l:LI):LI:=l.drop (Mh l l.length+1)
theorem aO0{s:Nat}(hs:s<l.length)(py:l.getD s 0=47)(h:∀y∈l.drop (s+1),tJ y=true):Mh l l.length=s:=by
 have key:∀j,s+1+j<=l.length->Mh l (s+1+j)=s:=by
  intro j
  induction j with
  |zero=>intro _;rw[Fe,um,bN py]
  |succ j ih=>
   intro hj;have hm:tJ (l.getD (s+1+j) 0)=true:=h _ (by rw[gj,aO ae,qI];refine List.mem_iff_getElem.2 ⟨j,bj,ai⟩)
   rw[<-Je,um,bH (YJ hm),ih ae]
 have:=key (l.length-s-1) ae;rwa [show s+1+(l.length-s-1)=l.length by omega]at this
def ar1{s:Nat}(hs:s<l.length)(py:l.getD s 0=47)(h:∀y∈l.drop (s+1),tJ y=true):Fg l=l.drop (s+1):=by rw[Fg,aO0 hs py h]
def jB(ns:List aB)(P:LI):List LI:=(ns.filter fun nd=>decide (dY nd.path=P)).map fun nd=>Fg nd.path
def VJ(h:ns[k]?=some nd):jB (ns.take (k+1)) P=if dY nd.path=P then jB (ns.take k) P++[Fg nd.path]else jB (ns.take k) P:=by
 rw[ng,h,jB,Ua,ko];by_cases e:dY nd.path=P<;>simp[jB,e]
def Zw:(jB ns P).length<=ns.length:=by
 rw[jB,fe];exact NI _ _
def ltB(l m:LI):Bool:=!Op.bytesLess (aN m).toList (aN l).toList&&!(aN m).toList==(aN l).toList
def mg(nd:aB):List aB->List aB
 |[]=>[nd]
 |x::r=>if ltB nd.path x.path=true then nd::x::r else x::mg nd r
def tq(nd:aB)(s:List aB×Bool)(x:aB):List aB×Bool:=if s.2=false/\ltB nd.path x.path=true then(s.1++[nd]++[x],true)else(s.1++[x],s.2)
def Ho(ns:List aB)(nd:aB):List aB×Bool:=ns.foldl (tq nd) ([],false)
theorem Jm(nd:aB):∀(l acc:List aB),l.foldl (tq nd) (acc,true)=(acc++l,true)
 |[],acc=>ai
 |x::r,acc=>by rw[Kq,show tq nd (acc,true) x=(acc++[x],true) by simp[tq],Jm nd r];simp
theorem as8(ns:List aB)(nd:aB):(if(Ho ns nd).2 then(Ho ns nd).1 else(Ho ns nd).1++[nd])=mg nd ns:=by
 have key:∀(l acc:List aB),(if(l.foldl (tq nd) (acc,false)).2 then(l.foldl (tq nd) (acc,false)).1 else(l.foldl (tq nd) (acc,false)).1++[nd])=acc++mg nd l:=by
  intro l
  induction l with
  |nil=>intro acc;simp[mg]
  |cons x r ih=>
   intro acc;rw[Kq,mg];by_cases h:ltB nd.path x.path=true;{rw[show tq nd (acc,false) x=(acc++[nd]++[x],true) by simp[tq,h],Jm,bN h];simp};{rw[show tq nd (acc,false) x=(acc++[x],false) by simp[tq,h],ih,bH h];simp}
 have:=key ns [];rwa [Kv]at this
def VO{x:aB}(hx:ns[k]?=some x):Ho (ns.take (k+1)) nd=tq nd (Ho (ns.take k) nd) x:=by
 rw[ng,hx,Ho,Ul]
 rfl
def ZB{s:List aB×Bool}{x:aB}:(tq nd s x).1.length<=s.1.length+2:=by
 unfold tq;split<;>simp
theorem Oo(nd:aB):∀(l:List aB)(s:List aB×Bool),(l.foldl (tq nd) s).1.length<=s.1.length+2*l.length
 |[],s=>ai
 |x::r,s=>by have:=Oo nd r (tq nd s x);have:=ZB (nd:=nd) (s:=s) (x:=x);rw[Kq,iU];omega
theorem Oq(nd:aB):∀l:List aB,(mg nd l).length=l.length+1
 |[]=>rfl
 |x::r=>by rw[mg];split;{simp};{simp[Oq nd r]}
def lZ(P V:LI)(o:Int):aB:=⟨P,V,o,0,[],0,0,[]⟩
def lT(D:SD)(P V:LI)(S F:Int):SD×RP:=
 if(ia D.ns P).isSome then(D,zl 6)else if dQ D.ns (dY P)=false then(D,zl 7)else if 200<=D.ns.length then(D,zl 11)
 else({D with ns:=mg (lZ P V (if F=1 then S else 0)) D.ns},rB)
def vx(D:SD)(k:Nat)(K S F:Int)(V:LI):SD×RP:=match D.ns[k]? with
 |none=>(D,rB)
 |some nd=>
  if K=5 then(if jB D.ns nd.path≠[]then(D,zl 8)else if mh nd S=false then(D,zl 9)else(Qa (dR D k 2) k,rB))
  else if K=6 then(D,⟨0,nd.owner,nd.aJ,nd.gen,nd.mode,nd.value,[],[]⟩)
  else if K=7 then(if nd.mode=1/\nd.holders.headD 0≠S then(D,zl 9)else(dR {D with ns:=D.ns.set k {nd with value:=V}} k 1,rB))
  else if K=8 then rK D k S F
  else if K=9 then(if nd.holders.contains S then(dN D k S,rB)else(D,zl 10))
  else({D with ns:=D.ns.set k {nd with watchers:=vR nd.watchers S}},rB)
def vr.last{w:World}{c:Nat}(h:vr B w (.S p (j+1) c) (j+1) vs)(hv:vs.getLast?=some v):∃g,p=some ⟨g,0,none⟩/\w.cell? ⟨g,j,none⟩=some v/\j<maxLen:=by
 have hl:=h.1;rcases h.2 with⟨-,h0⟩|⟨g,cap,cur,e,-,-,ha,hb,-⟩;{omega};{simp only[dU]at e;obtain⟨rfl,-,rfl⟩:=e;refine⟨g,rfl,?_,ae⟩;have h':w.ownsRow B 22 1 (.T g (j+1) c) (j+1) vs:=h;rw[World.ownsRow.cellAt h' j ae,<-hv,YQ,hl];simp}
def Rp{c n:Nat}(en:Hid (l.length=n)){w:World}(h:Rd w (.S p n c) l)(hb:aM l)(hl:n<=1048576)(hv:Hid (vp l=true)):Cp 131 #[.S p n c] w fun r w'=>∃q m d,r=.returned (.S q m d)/\Hid ((Fg l).length=m)/\m<=n/\Own w.heap.size w' (.S q m d) (Fg l)/\Bw w w':=by
 go_enter func131,ntmps131;go_wp2_with fail;refine(yD en h hb hl hv).mono ?_;rintro r w1⟨hT,-,aA⟩;obtain⟨pv,k,cv,vs,rfl,ho,hk,s,v,hvl,hs,py,wX,hov⟩:=hT rfl;obtain⟨j,rfl⟩:∃j,k=j+1:=⟨k-1,ae⟩;obtain⟨g,rfl,hc,hjm⟩:=ho.last hvl;have hj:j<9223372036854775807:=by unfold maxLen at hjm;omega
 have wj:wrap64 (j:Int)=(j:Int):=Fa _ ae;rw[<-ar1 hs py wX]at hov;obtain⟨q,d,rfl⟩:=hov.form;have HO:=af hov;have e1:(Fg l).length<=n:=by rw[Fg,Aw,aa en];omega
 obtain⟨m,em⟩:=cK (Fg l).length;rw[aa em]at hc HO e1;have hi:((j+1:Nat):Int)-1=(j:Int):=ae;have hi2:(j:Int)<((j+1:Nat):Int):=ae;go_wp2;go_ret;exact⟨_,_,_,rfl,em,e1,HO,aA⟩
def zO{w:World}{rest:List Oper}{Q:Exit->Act->World->Prop}(mr:o.guard=none){s x:Operand}(ho:o.op=.call {callee:=.builtin .append,args:=#[s,x],argTypes:=#[59,59]})(ek:Hid (ls.length=k))(hs:a.eval s=v)(bO:TN B w v ls){g:Nat}{P:Value}(hx:a.eval x=.T g 1 1)(tL:TB w P l)(iW:w.cell? ⟨g,0,none⟩=some P)(hk:k<4194304)(hB:B<=w.heap.size)(h:∀p' c' w',TN B w' (.S p' (k+1) c') (ls++[l])->w.grownBy w' v.ownBlock->Fr [22] w w'->wpList prog ops Q rest (a.put o.dst (.S p' (k+1) c')) w'):wpList prog ops Q (o::rest) a w:=by
 obtain⟨i,hi,nO,iL,ju⟩:=info_parts Tryz.infoSl;have ht:=bO.XJ;obtain⟨rs,h1,h2,h3,h4⟩:=bO;have cc3:P.oneCell'=true:=by
  obtain⟨_,_,rfl⟩:=tL.iB
  rfl
 rw[aa ek]at h3;refine cI mr 59 ho i 1 underlying59 hi nO iL ju rfl aU v hs h3 g 1 1 [P] hx rfl (fun j u hu=>by
  have e:j=0:=by have:=(aT.1 hu).1;simpa using this
  subst e;simp at hu;subst hu;exact iW) (fun u hu=>by simp at hu;rw[hu];exact cc3) ic ae hB ?_
 intro v' w' dh hg _;have hf:Fr [22] w w':=Fr.grown hg fun b hb=>by obtain⟨cur,hc⟩:=ht b hb;exact⟨cur,_,hc,ai⟩
 have sn:TN B w' v' (ls++[l]):=RT.snoc h1 h2 h4 (fun y c hy=>by obtain⟨P',e,h5⟩:=hy;exact⟨P',e,h5.fr hf⟩) ⟨P,rfl,tL⟩ rfl (by rw[aa ek];exact dh);obtain⟨p',c',rfl,-⟩:=RT.form sn;rw[ig,aa ek]at sn⊢;exact h p' c' w' sn hg hf
def TN.fr{T:List TypeId}{w w':World}(h:TN B w v ls)(hf:Fr T w w')(ht:5∉T/\22∉T:=by decide):TN B w' v ls:=
 RT.fr h hf ht.2 (fun y c hy=>by obtain⟨P',e,h5⟩:=hy;exact⟨P',e,h5.fr hf ht.1⟩)
def PPB(ns:List aB):Prop:=∀nd∈ns,vp nd.path=true/\aM nd.path/\nd.path.length<=1048576
def LR{n c:Nat}{q:OA}(em:Hid (ns.length=m))(eP:Hid (P.length=np)){w:World}(hN:Hid (AW B w (.S q m d) ns))(hP:Hid (Rd w (.S pp np cp) P))(bP:aM P)(hPB:Hid (PPB ns))(hm:m<=1048576){L:List LI}(eL:Hid (jB ns P=L)):Cp 93 #[gh e g x t (.S p n c) (.S q m d),.S pp np cp] w fun r w'=>∃p' c',r=.returned (.S p' L.length c')/\TN w.heap.size w' (.S p' L.length c') L/\Bw w w':=by
 obtain⟨W0,dV,b0,z0,C0⟩:=jL w (.U e) (.U g) (.U x) (.I t) (.S p n c) (.S q m d);have HC:=af fun(v:World)(hv:Bw W0 v)=>ah (C0.below hv) (ah (gK.fr (aa hN) (aK (aj b0 hv))) (ah (hP.below (aj b0 hv)) (aj b0 hv)));have BP:=af bP;have Z0:=af z0;clear b0 C0 bP z0;go_enter func93,ntmps93;go_wp2;rw[<-dV];clear dV
 go_loopw[5,6](fun ov iv wr=>∃(k:Nat)(M:List LI),k<=m/\iv=.I k/\Hid (jB (ns.take k) P=M)/\Hid (TN W0.heap.size wr ov M)/\Hid (Bw W0 wr)) (fun _ iv _=>m-(intOf iv).toNat)
 exact⟨0,[],gq _,rfl,(by show _=_;simp[jB]),RT.nil _ _ _ _ _,cW _ _⟩;{
 obtain⟨k,M,hk,rfl,hM,hT,aG⟩:=hrel;obtain⟨pv,cv,rfl,-,-,-⟩:=RT.form hT;have zr:=aG.size;have hml:M.length<=k:=by have h1:=Zw (ns:=ns.take k) (P:=P);have h2:=EW k ns;rw[aa hM]at h1;omega
 obtain⟨CB,HN,HP,bw⟩:=aa HC _ aG;have k5:=CB.1.1 5 _ rfl;have BW:=af bw;clear CB HP bw;by_cases aX:k<m;{have bu:=aP k m;obtain⟨nd,hx⟩:∃x,ns[k]?=some x:=⟨_,aO (by rw[aa em];exact aX)⟩;have pY:=af (VJ (P:=P) hx);have HX:=af hx;obtain⟨gn,Pv,Vv,Hv,Uv,eq,-,-,c0,-,-,-,-,-,-,-,tP,-,-,-,-⟩:=gK.at HN hx;subst eq;obtain⟨Xc,Rz,kx⟩:=aa hPB nd (aS hx);obtain⟨nP,eN⟩:=cK nd.path.length;obtain⟨pP,cP,rfl⟩:=tP.iB;rw[aa eN]at c0 tP kx;have TP:=af tP;have HV:=af (ah Xc Rz);obtain⟨_,_,_,ec,iD,js⟩:=tP.2.2;simp only[dU]at ec;obtain⟨rfl,rfl,rfl⟩:=ec;clear hx tP HN Xc Rz;go_wp2_with fail;refine(ku eN TP.1 kx iD js).mono ?_;rintro r w1⟨qq,mm,dd,rfl,Xi,aQ2,yI,aA⟩;have B1:=af (aj aG aA);obtain⟨-,-,HP1,-⟩:=aa HC _ B1;have T1:=af (hT.fr (aK aA));have TP1:=af (TP.fr (aK aA));clear TP k5 hT aG;go_wp2_with fail;refine(ly (af Xi) eP yI HP1 (rH HV.2) BP).mono ?_;rintro r w2⟨rfl,aF⟩;have B2:=af (aj B1 aF);have T2:=af (T1.fr (aK aF));have TP2:=af (TP1.fr (aK aF));obtain⟨CB,-⟩:=aa HC _ B2;have k5:=CB.1.1 5 _ rfl;have c0':=ag c0 (aj aA aF);have z2:=B2.size;clear CB HP1 yI Xi aQ2 aA aF T1 TP1 B1 c0;by_cases hq:dY nd.path=P;{rw[show decide (dY nd.path=P)=true by simp[hq]];have E1:=af (by have:=aa pY;rwa [bN hq,aa hM]at this:jB (ns.take (k+1)) P=M++[Fg nd.path]);clear hq;go_wp2_with fail;refine(Rp eN TP2.1 HV.2 kx (af HV.1)).mono ?_;rintro r w3⟨ql,ml,dl,rfl,eml,dp4,hol,bf⟩;go_wp2_with fail;refine(iV eml hol.rd ae).mono ?_;rintro r w4⟨pc,cc,rfl,hoc,fk⟩;have B4:=af (aj (aj B2 bf) fk);have T4:=af ((T2.fr (aK bf)).fr (aK fk));have O4:=af hoc.tb;have z4:=B4.size;clear hol bf fk hoc T2 B2 TP2 k5 c0';go_wp2_with(at_builtin;refine zO rfl rfl (v:=.S pv M.length cv) (af rfl) rfl (TN.fr (aa T4) (aK (ay.alloc ao _)) aU) (g:=w4.heap.size) rfl (O4.fr (aK (ay.alloc ao _))) ai ae bj ?_);intro p' c' w5 T5 ra f5;have bA:Bw w4 (w4.alloc (.cells #[.S pc ml cc] 22)):=ay.alloc ao _;have B5:=af ((aj (aa B4) bA).grown ra bj (fun b' e=>(T4.lt b' e).1));have T5':=af T5;clear bA ra f5 T5;go_wp2;go_roundw;exact⟨k+1,_,ae,by go_num,E1,T5',B5⟩;exact bG};{rw[show decide (dY nd.path=P)=false by simp[hq]];have E1:=af (by have:=aa pY;rwa [bH hq,aa hM]at this:jB (ns.take (k+1)) P=M);clear hq;go_wp2;go_roundw;exact⟨k+1,M,ae,by go_num,E1,T2,B2⟩;exact bG}};{have bu:=du k m;have e1:=aa hM;rw[kq (by rw[aa em];omega),aa eL]at e1;subst e1;go_wp2;go_ret;exact⟨_,_,rfl,RT.mono hT (by have:=aa Z0;omega),BW⟩}}
end Go.Proofs.YtjjnidignljppaaGreatDoor
