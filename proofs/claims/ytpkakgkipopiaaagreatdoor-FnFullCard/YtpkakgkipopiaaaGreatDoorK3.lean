import Derived.Test.YtpkakgkipopiaaaGreatDoorK2
open Array renaming setIfInBounds->jI,size->U
open Bool renaming false->dF,true->dY
open Decidable renaming decide->dD
open Go renaming undef->jQ,Calls->dQ,Value->dV,World->G
open Go.Ending renaming returned->dR
open Go.IntKind renaming u64->jU,i64->jV,wrap->jY
open Go.Obj renaming cells->dO
open Go.Proofs.Tryz renaming prog->dG
open Go.RowKit renaming Hid->O
open Go.Value renaming ownBlock->jB,slice->jC,bool->jO,agg->jP,I->dI,T->dK,S->dS,tuple->dT,U->dU
open Go.World renaming alloc->jA,frozen?->jF,grownBy->jG,heap->Q,setCell->jS,cell?->I
open Int renaming toNat->jN
open List renaming drop->jD,getD->jE,flatten->jL,take->jT,eraseIdx->jX,length->J
open Option renaming none->dN,some->Y
namespace Go.Proofs.YtpkakgkipopiaaaGreatDoor
set_option maxHeartbeats 25600000
set_option linter.all false
set_option maxRecDepth 100000
open Go.ChangeShapes Go.WideShapes Go.ChangeAt Go.RowKit
def RT{α:Type}(m:G->α->List dV->Prop)(ty:TypeId)(j B:Nat)(w:G)(v:dV)(xs:List α):Prop:=
 ∃cs:List (List dV),J cs=J xs/\(∀c∈cs,J c=j)/\w.ownsRow B ty j v (J xs) (jL cs)/\∀(i:Nat)(x:α)(c:List dV),xs[i]?=x->cs[i]?=Y c->m w x c
section
variable {α:Type}{el:World->α->List Value->Prop}{ty:TypeId}{sz B:Nat}{w w':World}{v:Value}{xs:List α}
theorem RT.nil(el:G->α->List dV->Prop)(ty:TypeId)(sz B:Nat)(w:G):RT el ty sz B w aq []:=
 ⟨[],rfl,λc hc=>by simp at hc,by simpa using nK w B ty sz,λi x c hx=>by simp at hx⟩
theorem RT.lt(h:RT el ty sz B w v xs):∀b,jB v=Y b->B<=b/\b<U (Q w):=by
 obtain⟨cs,o,m,i,j⟩:=h;exact i.lt
theorem RT.uw(h:RT el ty sz B w v xs):∀b,jB v=Y b->∃i,w.heap[b]?=dO i ty:=λb j=>by
 obtain⟨cs,u,s,o,r⟩:=h;obtain⟨rfl,-⟩|⟨g,q,i,rfl,-,m,-⟩:=o.2;{simp[jB]at j};{simp only[jB,nJ]at j;subst j;exact⟨i,m⟩}
theorem RT.form(h:RT el ty sz B w v xs):∃p c,v=.S p (J xs) c/\J xs<=c/\c<=maxLen/\(0<J xs->∃g,p=(Ad g 0)):=by
 obtain⟨cs,u,s,j,r⟩:=h;obtain⟨rfl,e⟩|⟨g,i,m,rfl,-,q,a,b,-⟩:=j.2;{exact⟨dN,0,by rw[e],ae,kL,λo=>ae⟩};{exact⟨_,i,rfl,a,b,λ_=>⟨g,rfl⟩⟩}
theorem RT.W(h:RT el ty sz B w v xs)(r:∀x c,el w x c->el w' x c)(hr:∀b,jB v=Y b->w'.heap[b]?=w.heap[b]?):RT el ty sz B w' v xs:=by
 obtain⟨cs,N,M,q,E⟩:=h;refine⟨cs,N,M,⟨q.1,?_⟩,λi x c s hc=>r x c (E i x c s hc)⟩;obtain u|⟨g,o,m,rfl,D,y,j⟩:=q.2;{exact .L u};{exact .R ⟨g,o,m,rfl,D,(hr g rfl).Z y,j⟩}
variable {B':Nat}
theorem RT.h(h:RT el ty sz B w v xs)(s:B'<=B):RT el ty sz B' w v xs:=by
 obtain⟨cs,y,x,o,u⟩:=h;refine⟨cs,y,x,⟨o.1,?_⟩,u⟩;obtain q|⟨g,m,j,rfl,r,i⟩:=o.2;{exact .L q};{exact .R ⟨g,m,j,rfl,fx s r,i⟩}
variable {v':dV}{c:List dV}{cs:List (List dV)}
theorem RT.snoc{x:α}(r:J cs=J xs)(E:∀c∈cs,J c=sz)(D:∀(i:Nat)(x:α)(c:List dV),xs[i]?=Y x->cs[i]?=Y c->el w x c)(q:∀x c,el w x c->el w' x c)(s:el w x c)(hc:J c=sz)(M:w'.ownsRow B ty sz v' (J xs+1) (jL cs++c)):RT el ty sz B w' v' (xs++[x]):=by
 refine⟨cs++[c],by simp[r],λo j=>?_,by simpa using M,λi y o m j=>?_⟩;{obtain j|j:=jg.1 j;{exact E o j};{simp at j;subst j;exact hc}};{
 by_cases u:i<J xs;{rw[qw u]at m;rw[qw ae]at j;exact q _ _ (D i y o m j)};{
 have N:i=J xs:=by have:=(bu.1 m).1;simp at this;omega
 subst N;rw[rG az,BQ]at m;rw[rG ae,r,BQ]at j;simp at m j;subst m j;exact q _ _ s}}
theorem RT.n{g n cap:Nat}(h:RT el ty sz B w (.T g n cap) xs):n=J xs:=by
 obtain⟨p,c,e,-⟩:=h.form;simp only[ti]at e;exact e.2.1
variable {i:Nat}
theorem RT.at{g n cap:Nat}(h:RT el ty sz B w (.T g n cap) xs){x:α}(r:xs[i]?=Y x):∃c,J c=sz/\el w x c/\(∀(j:Nat)(u:dV),c[j]?=Y u->I w (Ad g (i*sz+j))=Y u)/\∀o,jF w (Ad g o)=dF:=by
 obtain rfl:=h.n;obtain⟨cs,S,D,y,R⟩:=h;have N:=(bu.1 r).1;obtain⟨c,hc⟩:∃x,cs[i]?=Y x:=⟨_,bN ae⟩;have m:=D c (bq hc);refine⟨c,m,R i x c r hc,λj u s=>?_,λo=>y.frozenAt o⟩;have M:j<sz:=aM (bu.1 s).1;have E:i*sz+sz<=J xs*sz:=by rw[<-Ip];exact XG _ N
 rw[y.cellAt (i*sz+j) ae,ax1 D hc M];exact s
variable {j:Nat}
theorem RT.put{g n cap:Nat}(h:RT el ty sz B w (.T g n cap) xs){x:α}(D:xs[i]?=Y x)(R:j<sz)(u:dV)(s:α)(M:∀y c,el w y c->el (jS w (Ad g (i*sz+j)) u) y c)(N:∀c,J c=sz->el w x c->el (jS w (Ad g (i*sz+j)) u) s (c.set j u)):RT el ty sz B (jS w (Ad g (i*sz+j)) u) (.T g n cap) (xs.set i s):=by
 obtain rfl:=h.n;obtain⟨cs,V,r,S,E⟩:=h;have W:=(bu.1 D).1;obtain⟨c,hc⟩:∃x,cs[i]?=Y x:=⟨_,bN ae⟩;have o:=r c (bq hc);refine⟨cs.set i (c.set j u),by simp[V],λd m=>?_,?_,λk y d q m=>?_⟩;{obtain m|rfl:=PF m;{exact r d m};{rw[rF,o]}};{rw[ee3 r hc R,rF];exact(S.stored _ u).1};{rw[vJ]at q m;by_cases e:i=k;{subst e;rw[aK rfl,aK ae]at q m;cases q;cases m;exact N c o (E i x c D hc)};{rw[aJ e]at q m;exact M _ _ (E k y d q m)}}
end
variable {w w' w1 wr w'':G}{b j B B' B0 i k b' m d t2 t3 b1 b2 np cp nv cv:Nat}{u v v0 v1 v2 v3 v4 v5 o0 o1 o2 o3 o4 o5 v' v6 v7 r0 r1 r2 r3 r4 r5 r6 r7:dV}{cur:iA}{ty:TypeId}{r:Option Nat}{l ids P:LI}{ns:List au}{es q':List Ev}{ss:List aC}{Qs vs cs:List dV}{nd:au}{s:aC}{p q pp pq:OA}{x g f e t K F E iG:Int}{ev:Ev}{o:Oper}{ops:iQ}{rest:List Oper}{a:Act}{D:SD}{ps:String}{fn:Func}{md:Region.Mode}{S:iP}{listed:Array Bool}{A5 A6:Array Edge}{ls L:List LI}
theorem vU{o:Obj}(h:w.heap[b]?=o):b<U (Q w):=(Ke.1 h).1
def Fr(T:List TypeId)(w w':G):Prop:=U (Q w)<=U (Q w')/\∀(b:Nat)(i:iA)(j:TypeId)(m:Nat×Nat),j∉T->w.heap[b]?=dO i j m->w'.heap[b]?=dO i j m
theorem Fr.H{T:List TypeId}(h:Bw w w'):Fr T w w':=⟨h.size,λb j o m _ i=>(h.block b (vU i)).Z i⟩
theorem bH(h:Bw w w'):Fr [] w w':=Fr.H h
theorem Fr.refl(T:List TypeId)(w:G):Fr T w w:=⟨fq _,λ_ _ _ _ _ h=>h⟩
theorem Fr.Z{T:List TypeId}{j:G}(h:Fr T w w1)(r:Fr T w1 j):Fr T w j:=⟨fx h.1 r.1,λb i o m q s=>r.2 b i o m q (h.2 b i o m q s)⟩
theorem Fr.sub{T T':List TypeId}(h:Fr T w w')(q:∀t∈T,t∈T'):Fr T' w w':=⟨h.1,λb i j m o r=>h.2 b i j m (λe=>o (q _ e)) r⟩
theorem Fr.set{T:List TypeId}{g:Nat}(r:w.heap[g]?=dO cur ty)(o:ty∈T):Fr T w (jS w (Ad g j) u):=by
 refine⟨ai,λb y x m q i=>?_⟩;have s:b≠g:=λe=>by subst e;rw[r]at i;simp at i;exact q (i.2.1▸o)
 exact(fN _ _ _ _ s).Z i
theorem Fr.grown{T:List TypeId}(j:jG w w' r)(o:∀b,r=Y b->∃cur ty,w.heap[b]?=dO cur ty/\ty∈T):Fr T w w':=by
 refine⟨j.size,λb cur ty m q i=>?_⟩;refine(j.block b (vU i) (λe=>?_)).Z i;let⟨y,x,u,s⟩:=o b e.C;rw[u]at i;simp at i;exact q (i.2.1▸s)
def TB(w:G)(v:dV)(l:LI):Prop:=Rd w v l/\(∀b,jB v=Y b->l=[]\/∃i m,w.heap[b]?=dO i 5 m)/\vr v
def TU(B:Nat)(w:G)(v:dV)(l:LI):Prop:=RdU w v l/\(∀b,jB v=Y b->∃i,w.heap[b]?=dO i 24)/\ZT w v/\∀b,jB v=Y b->B<=b
theorem TB.T{T:List TypeId}(h:TB w v l)(hf:Fr T w w')(ht:5∉T:=by decide):TB w' v l:=by
 obtain⟨⟨p,c,rfl,hd⟩,h2,hc⟩:=h;by_cases hl:l=[];{exact⟨⟨p,c,rfl,.L hl⟩,λb _=>.L hl,hc⟩};obtain hd|⟨b,o,rfl,hd⟩:=hd;{exact absurd hd hl};obtain e|⟨cur,m,hb⟩:=h2 b rfl;{exact absurd e hl};have aQ:=hf.2 b cur _ m ht hb;refine⟨⟨_,c,rfl,.R ⟨b,o,rfl,λi hi=>(gF (aQ.Z hb.C) _).Z (hd i hi)⟩⟩,λb' e=>.R ?_,hc⟩;simp only[jB,nJ]at e;subst e;exact⟨cur,m,aQ⟩
theorem TU.T{T:List TypeId}(h:TU B w v l)(hf:Fr T w w')(ht:24∉T:=by decide):TU B w' v l:=by
 obtain⟨⟨p,c,rfl,hd⟩,h2,hz,h3⟩:=h;have hk:∀b,jB (Value.slice p (J l) c)=Y b->w'.heap[b]?=w.heap[b]?:=λb e=>by let⟨cur,hb⟩:=h2 b e;exact(hf.2 b cur _ _ ht hb).Z hb.C
 refine⟨⟨p,c,rfl,?_⟩,λb e=>?_,hz.W hk,h3⟩;{obtain hd|⟨b,o,rfl,hd⟩:=hd;{exact .L hd};{exact .R ⟨b,o,rfl,λi hi=>(gF (hk b rfl) _).Z (hd i hi)⟩}};{let⟨cur,hb⟩:=h2 b e;exact⟨cur,(hk b e).Z hb⟩}
theorem Own.cF3(h:Own B w v l):vr v:=by
 obtain⟨rfl,-⟩|⟨g,j,i,rfl,-,m,hc,hm,-⟩:=h.2;{exact⟨_,_,_,rfl,fq _,cT _⟩};{exact⟨_,_,_,rfl,hc,hm⟩}
theorem Own.tb(h:Own B w v l):TB w v l:=⟨h.rd,λb e=>.R (by
 obtain⟨rfl,-⟩|⟨g,m,i,rfl,-,j,-⟩:=h.2;{simp[jB]at e};{simp only[jB,nJ]at e;subst e;exact⟨i,_,j⟩}),h.cF3⟩
theorem TB.nil(w:G):TB w aq []:=⟨Rd.nil _,λb e=>.L rfl,_,_,_,rfl,fq _,cT _⟩
theorem TU.nil(w:G):TU B w aq []:=⟨⟨dN,0,rfl,.L rfl⟩,λb e=>by simp[jB]at e,ZT.nil w,λb e=>by simp[jB]at e⟩
theorem TU.h(h:TU B w v l)(i:B'<=B):TU B' w v l:=⟨h.1,h.2.1,h.2.2.1,λb e=>fx i (h.2.2.2 b e)⟩
def TC(B:Nat)(w:G)(v:dV)(l:LI):Prop:=Rd w v l/\(∀b,jB v=Y b->l=[]\/(B<=b/\∃i m,w.heap[b]?=dO i 5 m))/\vr v
theorem TC.tb(h:TC B w v l):TB w v l:=⟨h.1,λb e=>(h.2.1 b e).imp id And.right,h.2.2⟩
theorem TC.T{T:List TypeId}(h:TC B w v l)(hf:Fr T w w')(ht:5∉T:=by decide):TC B w' v l:=⟨(h.tb.T hf ht).1,λb e=>(h.2.1 b e).imp id λk=>⟨k.1,k.2.imp λcur k=>k.imp λm k=>hf.2 b cur _ m ht k⟩,h.2.2⟩
theorem TC.h(h:TC B w v l)(i:B'<=B):TC B' w v l:=⟨h.1,λb e=>(h.2.1 b e).imp id λk=>⟨fx i k.1,k.2⟩,h.2.2⟩
theorem TC.nil(w:G):TC B w aq []:=⟨Rd.nil _,λb e=>.L rfl,_,_,_,rfl,fq _,cT _⟩
theorem TC.fO(h:TC B w v l):∃p c,v=.S p (J l) c:=by
 obtain⟨⟨p,c,e,-⟩,-⟩:=h;exact⟨p,c,e⟩
theorem Own.tc(h:Own B' w v l)(i:B<=B'):TC B w v l:=⟨h.rd,λb e=>(h.tb.2.1 b e).imp id λk=>⟨fx i (h.lt b e).1,k⟩,h.cF3⟩
def Lp(B:Nat)(w:G)(e:Ev)(c:List dV):Prop:=∃P,c=[.I e.1,P]/\TC B w P e.2
def DE(_:G)(x:aC×dV)(c:List dV):Prop:=c=[.U x.1.1,.I x.1.2.1,x.2]
def yW(B:Nat)(w:G)(nd:au)(c:List dV):Prop:=∃P V H iU,c=[P,V,.U nd.D,.I nd.M,H,.U nd.P,.U nd.F,iU]/\TC B w P nd.A/\TC B w V nd.V/\TU B w H nd.y/\TU B w iU nd.X
abbrev oO(B:Nat)(w:G)(v:dV)(es:List Ev):Prop:=RT (Lp B) 114 2 B w v es
structure ew(B:Nat)(w:G)(v:dV)(ss:List aC)(Qs:List dV):Prop where
 len:J Qs=J ss
 row:RT DE 65 3 B w v (ss.zip Qs)
 uT:∀(i:Nat)(s:aC)(iZ:dV),ss[i]?=s->Qs[i]?=iZ->oO B w iZ s.2.2
 nS:∀(i j:Nat)(iZ Q':dV)(b:Nat),i≠j->Qs[i]?=iZ->Qs[j]?=Q'->jB iZ=b->jB Q'≠Y b
abbrev di(B0 B:Nat)(w:G)(v:dV)(ns:List au):Prop:=RT (yW B0) 69 8 B w v ns
abbrev kF(B:Nat)(w:G)(v:dV)(ns:List au):Prop:=di B B w v ns
theorem RT.T{α:Type}{el:G->α->List dV->Prop}{sz:Nat}{xs:List α}{T:List TypeId}(h:RT el ty sz B w v xs)(hf:Fr T w w')(ht:ty∉T)(oz:∀x c,el w x c->el w' x c):RT el ty sz B w' v xs:=
 h.W oz λb hb=>by let⟨cur,hc⟩:=h.uw b hb;exact(hf.2 b cur ty _ ht hc).Z hc.C
theorem Lp.T{T:List TypeId}(hf:Fr T w w')(ht:5∉T)(x:Ev)(c:List dV)(h:Lp B w x c):Lp B w' x c:=by
 obtain⟨P,e,h1⟩:=h;exact⟨P,e,h1.T hf ht⟩
theorem yW.T{T:List TypeId}(hf:Fr T w w')(ht:5∉T)(hu:24∉T)(x:au)(c:List dV)(h:yW B w x c):yW B w' x c:=by
 obtain⟨P,V,H,iU,e,h1,h2,h3,h4⟩:=h;exact⟨P,V,H,iU,e,h1.T hf ht,h2.T hf ht,h3.T hf hu,h4.T hf hu⟩
theorem di.T{T:List TypeId}(h:di B0 B w v ns)(hf:Fr T w w')(ht:5∉T/\24∉T/\69∉T:=by decide):di B0 B w' v ns:=
 RT.T h hf ht.2.2 (yW.T hf ht.1 ht.2.1)
theorem oO.T{T:List TypeId}(h:oO B w v es)(hf:Fr T w w')(ht:5∉T/\114∉T:=by decide):oO B w' v es:=RT.T h hf ht.2 (Lp.T hf ht.1)
theorem oO.h(h:oO B w v es)(j:B'<=B):oO B' w v es:=by
 let⟨cs,s,r,q,o⟩:=RT.h h j;exact⟨cs,s,r,q,λi x c m hc=>(o i x c m hc).imp λP k=>⟨k.1,k.2.h j⟩⟩
theorem ew.T{T:List TypeId}(h:ew B w v ss Qs)(hf:Fr T w w')(ht:5∉T/\114∉T/\65∉T:=by decide):ew B w' v ss Qs:=
 ⟨h.len,RT.T h.row hf ht.2.2 (λ_ _ h=>h),λi s iZ hs hq=>(h.uT i s iZ hs hq).T hf ⟨ht.1,ht.2.1⟩,h.nS⟩
theorem ew.nil(B:Nat)(w:G):ew B w aq [] []:=⟨rfl,RT.nil _ _ _ _ _,λi s iZ h=>by simp at h,λi j iZ Q' b _ h=>by simp at h⟩
theorem di.put{g n cap:Nat}(h:di B0 B w (.T g n cap) ns)(q:ns[i]?=nd)(s:j<8)(u:dV)(nd':au)(r:∀w' P V H iU,TC B0 w' P nd.A->TC B0 w' V nd.V->TU B0 w' H nd.y->TU B0 w' iU nd.X->Fr [69] w w'->yW B0 w' nd' ([P,V,.U nd.D,.I nd.M,H,.U nd.P,.U nd.F,iU].set j u)):di B0 B (jS w (Ad g (i*8+j)) u) (.T g n cap) (ns.set i nd')/\Fr [69] w (jS w (Ad g (i*8+j)) u):=by
 let⟨cur,hc⟩:=h.uw g rfl;have hf:Fr [69] w (jS w (Ad g (i*8+j)) u):=Fr.set hc ai;have o:5∉[69]:=aX;have m:24∉[69]:=aX;refine⟨RT.put h q s u nd' (yW.T hf o m) (λc _ he=>?_),hf⟩;obtain⟨P,V,H,iU,rfl,E,D,y,x⟩:=he;exact r _ P V H iU (E.T hf o) (D.T hf o) (y.T hf m) (x.T hf m) hf
theorem aH0{α β:Type}:∀(l:List α)(m:List β)(i:Nat)(a:α)(b:β),(l.zip m).set i (a,b)=(l.set i a).zip (m.set i b)
 |[],m,i,a,b=>ai
 |x::l,[],i,a,b=>by cases i<;>simp
 |x::l,y::m,0,a,b=>ai
 |x::l,y::m,i+1,a,b=>by simp[aH0 l m i a b]
theorem Pe{α:Type}{l:List α}{a:α}(h:l[i]?=a):l.set i a=l:=by
 let⟨m,j⟩:=bu.1 h;rw[<-j,List.set_getElem_self]
theorem ew.aJ0{g n cap:Nat}(h:ew B w (.T g n cap) ss Qs)(S:ss[i]?=s){r v':dV}(R:Qs[i]?=r) (lG:oO B w1 v' q')(hg:jG w w1 (jB r))(gR:∀b,jB v'=Y b->jB r=Y b\/U (Q w)<=b):ew B (jS w1 (Ad g (i*3+2)) v') (.T g n cap) (ss.set i (s.1,s.2.1,q')) (Qs.set i v')/\Fr [114,65] w (jS w1 (Ad g (i*3+2)) v'):=by
 have N:=(bu.1 S).1;have W:Fr [114] w w1:=Fr.grown hg λb m=>by let⟨cur,hc⟩:=(h.uT i s r S R).uw b m;exact⟨cur,_,hc,ai⟩
 have Z:RT DE 65 3 B w1 (.T g n cap) (ss.zip Qs):=RT.T h.row W aX (λ_ _ h=>h);let⟨cur,hc⟩:=Z.uw g rfl;have V:Fr [65] w1 (jS w1 (Ad g (i*3+2)) v'):=Fr.set hc ai;have hz:(ss.zip Qs)[i]?=Y (s,r):=by rw[Mr];exact⟨S,R⟩
 have o:∀(k:Nat)(q:dV)(b:Nat),i≠k->Qs[k]?=Y q->jB q=Y b->jB v'≠Y b:=λk q b M hq m e=>by obtain e|e:=gR b e;{exact h.nS i k r q b M R hq e m};{obtain⟨D,qK⟩:∃D,ss[k]?=Y D:=⟨_,bN (h.len▸(bu.1 hq).1)⟩;have:=((h.uT k D q qK hq).lt b m).2;omega}
 refine⟨⟨by rw[rF,rF];exact h.len,?_,λk D q E hq=>?_,λk j Q1 Q2 b u y x m=>?_⟩,(W.sub ai).Z (V.sub ai)⟩;{
 have:=RT.put Z hz (j:=2) ae v' ((s.1,s.2.1,q'),v') (λ_ _ h=>h) (λc _ he=>by unfold DE at he⊢;subst he;rfl)
 rwa [aH0]at this};{rw[vJ]at E hq;by_cases e:i=k;{subst e;rw[aK rfl,aK N]at E;rw[aK rfl,aK (h.len▸N)]at hq;cases E;cases hq;exact oO.T lG V};{rw[aJ e]at E hq;have M:=h.uT k D q E hq;refine oO.T (RT.W M (Lp.T W aX) λb m=>hg.block b (M.lt b m).2 (λX=>h.nS i k r q b e R hq X.C m)) V}};{rw[vJ]at y x;by_cases e:i=k;{subst e;rw[aK rfl,aK (h.len▸N)]at y;rw[aJ u]at x;cases y;exactλX=>o j Q2 b u x X m};{rw[aJ e]at y;by_cases e':i=j;{subst e';rw[aK rfl,aK (h.len▸N)]at x;cases x;exact o k Q1 b e y m};{rw[aJ e']at x;exact h.nS k j Q1 Q2 b u y x m}}}
theorem ew.dl{g n cap:Nat}(h:ew B w (.T g n cap) ss Qs)(q:ss[i]?=s)(d:Int):ew B (jS w (Ad g (i*3+1)) (.I d)) (.T g n cap) (ss.set i (s.1,d,s.2.2)) Qs/\Fr [65] w (jS w (Ad g (i*3+1)) (.I d)):=by
 let⟨cur,hc⟩:=h.row.uw g rfl;have hf:Fr [65] w (jS w (Ad g (i*3+1)) (.I d)):=Fr.set hc ai;have r:=(bu.1 q).1;obtain⟨o,u⟩:∃o,Qs[i]?=Y o:=⟨_,bN (h.len▸r)⟩;have D:(ss.zip Qs)[i]?=Y (s,o):=by rw[Mr];exact⟨q,u⟩
 refine⟨⟨by rw[rF];exact h.len,?_,λk y x m hq=>?_,h.nS⟩,hf⟩;{
 have:=RT.put h.row D (j:=1) ae (.I d) ((s.1,d,s.2.2),o) (λ_ _ h=>h) (λc _ he=>by unfold DE at he⊢;subst he;rfl)
 rwa [aH0,Pe u]at this};{rw[vJ]at m;by_cases e:i=k;{subst e;rw[aK rfl,aK r]at m;cases m;exact oO.T (h.uT i s x q hq) hf};{rw[aJ e]at m;exact oO.T (h.uT k y x m hq) hf}}
open Go.Proofs.Tryz
theorem nW.rdu(h:nW B w v l):RdU w v l:=by
 obtain⟨rfl,m⟩|⟨g,j,q,rfl,u,s,r⟩:=h.2;{exact⟨dN,0,by rw[m],.L (vI.1 m)⟩};{refine⟨_,j,rfl,.R ⟨g,0,rfl,λi o=>?_⟩⟩;have:=Py h i ae;rw[l9,this];simp[iR,o]}
theorem RdU.at{n c:Nat}(h:RdU w (.S p n c) l)(j:l[k]?=x):∃b o,p=(Ad b o)/\I w (Ad b (o+k))=dU x:=by
 obtain⟨u,y,e,m⟩:=h;have i:=(bu.1 j).1;obtain s|⟨b,o,r,q⟩:=m;{rw[s]at i;simp at i};{simp only[ti]at e;have:=q k i;rw[iR,j,ta]at this;exact⟨b,o,e.1.Z r,this⟩}
theorem eu9{x id:Int}(i:l[k]?=x)(h:(jT k l).contains id=dF)(j:¬x=id):(jT (k+1) l).contains id=dF:=by
 rw[sE,i,List.contains_append,h];simpa using λe:id=x=>j e.C
variable {B:Bool}
theorem aY0{c n:Nat}(r:Le l n){id:Int}(h:RdU w (.S p n c) l)(hl:Mg n)(s:O (l.contains id=B)):dQ dG 176 #[.S p n c,.U id] w (Rb (jO B) w):=by
 have R:=af λ(y:G)(D:Bw w y)=>h.H D;go_in;go_wp2
 go_loopw[5](λj wr=>∃k:Nat,k<=n/\j=.I k/\O ((jT k l).contains id=dF)/\O (Bw w wr)) (λj _=>n-(jN (intOf j)))
 exact⟨0,cT _,rfl,(by show _=_;simp),aR _ _⟩;{obtain⟨k,W,rfl,hc,i⟩:=hrel;by_cases N:k<n;{have E:=bR k n;obtain⟨x,m⟩:∃x,l[k]?=Y x:=⟨_,bN (aa r▸N)⟩;obtain⟨b,o,rfl,V⟩:=(aa R _ i).at m;have u:=af m;by_cases he:x=id;{subst he;have X:(x==x):=ai;go_wp2;go_ret;refine⟨?_,i⟩;rw[<-aa s,aR7.2 (bq (aa u))];rfl};{have M:=af (eu9 u hc he);go_wp2;go_roundw;exact⟨k+1,ae,by go_num,M,i⟩;exact dh}};{have E:=fG k n;have q:=aa hc;rw[od (by rw[aa r];omega),aa s]at q;subst q;go_wp2;go_ret;exact⟨rfl,i⟩}}
theorem cX2{x id:Int}(i:l[k]?=x):kG (jT (k+1) l) id=if x=id then kG (jT k l) id else kG (jT k l) id++[x]:=by
 rw[sE,i,kG,an6];by_cases h:x=id<;>simp[kG,h]
theorem Mb{id:Int}:J (kG l id)<=J l:=Ul _ _
theorem cd5{c n:Nat}(M:Le l n){id:Int}(h:RdU w (.S p n c) l)(hl:Mg n):dQ dG 168 #[.S p n c,.U id] w λr w'=>∃p' c',r=dR (.S p' (J (kG l id)) c')/\qg (U (Q w)) w' (.S p' (J (kG l id)) c') (kG l id)/\Bw w w':=by
 have HR:=af λ(w':G)(hb:Bw w w')=>h.H hb;go_in;go_wp2
 go_loopw[5,6](λov D wr=>∃(k:Nat)(L:LI),k<=n/\D=.I k/\O (kG (jT k l) id=L)/\O (qg (U (Q w)) wr ov L)/\O (Bw w wr)) (λ_ D _=>n-(jN (intOf D)))
 exact⟨0,[],cT _,rfl,(by show _=_;simp[kG]),(qg.nil _ _),aR _ _⟩;{
 obtain⟨k,L,hk,rfl,E,ho,q⟩:=hrel;obtain⟨Z,cv,rfl⟩:=ho.form;have zr:=q.size;have X:J L<2^22:=by have h1:=Mb (l:=jT k l) (id:=id);have h2:=PK k l;rw[aa E]at h1;have:=aa M;omega
 by_cases aL:k<n;{
 have cM:=bR k n;obtain⟨x,hx⟩:∃x,l[k]?=Y x:=⟨_,bN (aa M▸aL)⟩;obtain⟨b,o,rfl,sL⟩:=(aa HR _ q).at hx;have W:=cX2 (id:=id) hx;rw[aa E]at W;have R:=af W;by_cases he:x=id;{
 subst he;have N:O (kG (jT (k+1) l) x=L):=by have:=aa R;rwa [aK rfl]at this
 go_wp2;go_roundw;exact⟨k+1,L,ae,by go_num,N,ho,q⟩;exact dh};{
 have N:O (kG (jT (k+1) l) id=L++[x]):=by have:=aa R;rwa [aJ he]at this
 go_wp2_with(at_builtin;refine Tq rfl rfl (B:=U (Q w)) (.S Z (J L) cv) (l:=L) (lm:=L++[x]) (y:=x) rfl (U (Q wr)) rfl rfl (qg.H ho (aH.alloc az _)) ai X cg ?_);intro p' c' w' o2 dz;have bA:Bw wr (jA wr (dO #[.U x] 24)):=aH.alloc az _;have b4:=af ((ah (aa q) bA).grown dz cg (λb' e=>(ho.lt b' e).1));have O2:=af o2;go_wp2;go_roundw;exact⟨k+1,L++[x],ae,by go_num,N,O2,b4⟩;exact dh}};{have cM:=fG k n;have V:=aa E;rw[od (by rw[aa M];omega)]at V;subst V;go_wp2;go_ret;exact⟨_,_,rfl,ho,q⟩}}
def sr(id:Int)(s:LI×Bool)(x:Int):LI×Bool:=if s.2=dF/\id<=x then(if x=id then(s.1++[id],dY)else(s.1++[id]++[x],dY))else(if x=id then s else(s.1++[x],s.2))
def DY(l:LI)(id:Int):LI×Bool:=l.foldl (sr id) ([],dF)
theorem ag2(id:Int):∀(l acc:LI),l.foldl (sr id) (acc,dY)=(acc++kG l id,dY)
 |[],acc=>by simp[kG]
 |x::r,acc=>by rw[Kc];by_cases h:x=id;{rw[show sr id (acc,dY) x=(acc,dY) by simp[sr,h],ag2 id r acc];simp[kG,h]};{rw[show sr id (acc,dY) x=(acc++[x],dY) by simp[sr,h],ag2 id r (acc++[x])];simp[kG,h]}
theorem cX6(l:LI)(id:Int):(if(DY l id).2 then(DY l id).1 else(DY l id).1++[id])=lY l id:=by
 have key:∀(l acc:LI),(if(l.foldl (sr id) (acc,dF)).2 then(l.foldl (sr id) (acc,dF)).1 else(l.foldl (sr id) (acc,dF)).1++[id])=acc++lY l id:=by
  intro l
  induction l with
  |nil=>intro acc;simp[lY]
  |cons x r ih=>
   intro acc;rw[Kc,lY];by_cases h:id<=x;{by_cases e:x=id;{rw[show sr id (acc,dF) x=(acc++[id],dY) by simp[sr,e],ag2,aK h];simp[kG,e]};{rw[show sr id (acc,dF) x=(acc++[id]++[x],dY) by simp[sr,e,h],ag2,aK h];simp[kG,e]}};{have e:¬x=id:=ae;rw[show sr id (acc,dF) x=(acc++[x],dF) by simp[sr,e,h],ih (acc++[x]),aJ h];simp}
 have:=key l [];rw[Ef]at this;exact this
theorem cX4{x id:Int}(i:l[k]?=x):DY (jT (k+1) l) id=sr id (DY (jT k l) id) x:=by
 rw[sE,i,DY,Un];rfl
theorem cX5{id:Int}{s:LI×Bool}:(sr id s x).1.length<=J s.1+2:=by
 unfold sr;split<;>split<;>simp
theorem bJ3(id:Int):∀(l:LI)(s:LI×Bool),(l.foldl (sr id) s).1.length<=J s.1+2*J l
 |[],s=>ai
 |x::r,s=>by have:=bJ3 id r (sr id s x);have:=cX5 (id:=id) (s:=s) (x:=x);rw[Kc,ni];omega
theorem dD6{c n:Nat}(en:Le l n){id:Int}(h:RdU w (.S p n c) l)(hl:Mg n):dQ dG 177 #[.S p n c,.U id] w λr w'=>∃p' c',r=dR (.S p' (J (lY l id)) c')/\qg (U (Q w)) w' (.S p' (J (lY l id)) c') (lY l id)/\Bw w w':=by
 have HR:=af λ(w':G)(hb:Bw w w')=>h.H hb;go_in;go_wp2
 go_loopw[5,6,7](λov dv iv wr=>∃(k:Nat)(L:LI)(d:Bool),k<=n/\iv=.I k/\dv=jO d/\O (DY (jT k l) id=(L,d))/\O (qg (U (Q w)) wr ov L)/\O (Bw w wr)) (λ_ _ iv _=>n-(jN (intOf iv)))
 exact⟨0,[],dF,cT _,rfl,rfl,cO,(qg.nil _ _),aR _ _⟩;{
 obtain⟨k,L,d,hk,rfl,rfl,hL,ho,N⟩:=hrel;obtain⟨X,cv,rfl⟩:=ho.form;have zr:=N.size;have xU:J L+1<2^22:=by have h1:=bJ3 id (jT k l) ([],dF);have h2:=PK k l;have h3:=aa hL;unfold DY at h3;rw[h3]at h1;have:=aa en;simp only[xk]at h1;omega
 by_cases aL:k<n;{
 have cM:=bR k n;obtain⟨x,hx⟩:∃x,l[k]?=Y x:=⟨_,bN (aa en▸aL)⟩;obtain⟨b,o,rfl,sL⟩:=(aa HR _ N).at hx;have bD:=cX4 (id:=id) hx;rw[aa hL]at bD;have il:=af bD;have HX:=af hx;have AP:∀(y:Int)(wz:G)(Lz:LI)(pz:OA)(cz:Nat),O (qg (U (Q w)) wz (.S pz (J Lz) cz) Lz)->Bw w wz->Bw wz (jA wz (dO #[.U y] 24)):=λy wz Lz pz cz _ _=>aH.alloc az _;by_cases hd:d=dF/\id<=x;{
 obtain⟨rfl,hix⟩:=hd;have fj8:dD (id<=x):=by simpa using hix
 obtain⟨D,R⟩:∃D,O (D=L++[id]):=⟨_,rfl⟩;have lL1:=af (by rw[aa R];simp:J D=J L+1);go_wp2_with(at_builtin;refine Tq rfl rfl (.S X (J L) cv) R (U (Q wr)) rfl rfl (qg.H ho (aH.alloc az _)) ai ae cg ?_);intro p' c' w' Z dz;have M:=af ((ah (aa N) (AP id wr L X cv ho N)).grown dz cg (λV e=>(ho.lt V e).1));have W:=af Z;have z4:=M.size;have fk9:I w' (Ad b (o+k))=dU x:=by let⟨V,o',e',gq⟩:=(aa HR _ M).at HX;obtain⟨rfl,rfl⟩:=By e';exact gq
 by_cases he:x=id;{subst he;have E:=af (by have:=aa il;rw[aa R];simpa[sr]using this:DY (jT (k+1) l) x=(D,dY));have Gt:(x != x)=dF:=ai;go_wp2;go_roundw;exact⟨k+1,D,dY,ae,by go_num,rfl,E,W,M⟩;exact dh};{have E:=af (by have:=aa il;rw[aa R];simpa[sr,he,hix]using this:DY (jT (k+1) l) id=(D++[x],dY));obtain⟨L2,eL2⟩:∃L2,O (L2=D++[x]):=⟨_,rfl⟩;rw[<-aa eL2]at E;go_wp2_with(at_builtin;refine Tq rfl rfl (.S p' (J D) c') eL2 (U (Q w')) rfl rfl (qg.H W (aH.alloc az _)) ai (aM (aa lL1)) cg ?_);intro p'' c'' w'' o3 pX;have b5:=af ((ah (aa M) (AP x w' _ p' c' W M)).grown pX cg (λV e=>(W.lt V e).1));have O3:=af o3;go_wp2;go_roundw;exact⟨k+1,_,dY,ae,by go_num,rfl,E,O3,b5⟩;exact dh}};{
 have hdd:(!d&&dD (id<=x))=dF:=by cases d<;>simp_all
 have hd2:d=dY\/¬id<=x:=by cases d<;>simp_all
 by_cases he:x=id;{subst he;obtain rfl:d:=hd2.resolve_right ae;have E:=af (by have:=aa il;simpa[sr]using this:DY (jT (k+1) l) x=(L,dY));have Gt:(x != x)=dF:=ai;go_wp2;go_roundw;exact⟨k+1,L,dY,ae,by go_num,rfl,E,ho,N⟩;exact dh};{
 have E:=af (by have:=aa il;simpa[sr,he,hd]using this:DY (jT (k+1) l) id=(L++[x],d));obtain⟨D,R⟩:∃D,O (D=L++[x]):=⟨_,rfl⟩;rw[<-aa R]at E;have hdq:d=dF->dD (id<=x)=dF:=λe=>by subst e;simpa using hd
 cases d;{have hix:=hdq rfl;go_wp2_with(at_builtin;refine Tq rfl rfl (.S X (J L) cv) R (U (Q wr)) rfl rfl (qg.H ho (aH.alloc az _)) ai ae cg ?_);intro p' c' w' Z dz;have M:=af ((ah (aa N) (AP x wr L X cv ho N)).grown dz cg (λV e=>(ho.lt V e).1));have W:=af Z;go_wp2;go_roundw;exact⟨k+1,_,dF,ae,by go_num,rfl,E,W,M⟩;exact dh};{go_wp2_with(at_builtin;refine Tq rfl rfl (.S X (J L) cv) R (U (Q wr)) rfl rfl (qg.H ho (aH.alloc az _)) ai ae cg ?_);intro p' c' w' Z dz;have M:=af ((ah (aa N) (AP x wr L X cv ho N)).grown dz cg (λV e=>(ho.lt V e).1));have W:=af Z;go_wp2;go_roundw;exact⟨k+1,_,dY,ae,by go_num,rfl,E,W,M⟩;exact dh}}}};{have cM:=fG k n;have gq:=aa hL;rw[od (by rw[aa en];omega)]at gq;have hwi:=cX6 l id;rw[gq]at hwi;cases d;{obtain⟨D,R⟩:∃D,O (D=L++[id]):=⟨_,rfl⟩;have E:=af (by rw[aa R];simpa using hwi.C:lY l id=D);go_wp2_with(at_builtin;refine Tq rfl rfl (.S X (J L) cv) R (U (Q wr)) rfl rfl (qg.H ho (aH.alloc az _)) ai ae cg ?_);intro p' c' w' Z dz;have M:=af ((ah (aa N) ((aR (U (Q wr)) wr).alloc az _)).grown dz cg (λV e=>(ho.lt V e).1));have W:=af Z;go_wp2;go_ret;rw[aa E];exact⟨_,_,rfl,W,M⟩};{have E:=af (by simpa using hwi.C:lY l id=L);go_wp2;go_ret;rw[aa E];exact⟨_,_,rfl,ho,N⟩}}}
def rj{α:Type}(f:α->α)(k:Nat)(xs:List α):List α:=(jT k xs).map f++jD k xs
theorem cw0{α:Type}(f:α->α){xs:List α}{x:α}(h:xs[k]?=x):(rj f k xs)[k]?=x:=by
 have i:=(bu.1 h).1;rw[rj,rG cg,iH,te,aT6 ae,Kd];simpa using h
theorem cv9{α:Type}(f:α->α){xs:List α}{x:α}(h:xs[k]?=x):rj f (k+1) xs=(rj f k xs).set k (f x):=by
 let⟨i,e⟩:=bu.1 h;rw[rj,rj,sE,h,aV9 _ _ cg,iH,te,aT6 ae,BQ,Mm i,XL,rI];simp
theorem cw1{α:Type}(f:α->α){xs:List α}(h:J xs<=k):rj f k xs=xs.map f:=by
 rw[rj,od h,aT5 h,De]
theorem ee7{α:Type}(f:α->α)(k:Nat)(xs:List α):J (rj f k xs)=J xs:=by
 rw[rj,eG,iH,<-eG,Mw]
theorem bM(w:G)(cs:iA)(ty:TypeId):∃W,W=jA w (dO cs ty)/\Bw w W/\U (Q W)=U (Q w)+1/\aO W (U (Q w)) cs.toList/\W.heap[U (Q w)]?=dO cs ty:=
 ⟨_,rfl,aH.alloc az _,ai,aO.alloc w cs ty,by show(w.heap.push _)[U (Q w)]?=_;simp⟩
theorem aO.eh(h:aO w b vs)(j:w'.heap[b]?=w.heap[b]?):aO w' b vs:=
 ⟨λi v m=>(gF j _).Z (h.1 i v m),λo=>(Dj j).Z (h.2 o)⟩
def fv(w:G)(b:Nat)(v0 v1 v2 v3 v4 v5:dV):G:=jS (jS (jS (jS (jS (jS w (Ad b 0) v0) (Ad b 1) v1) (Ad b 2) v2) (Ad b 3) v3) (Ad b 4) v4) (Ad b 5) v5
theorem sY(b:Nat)(v0 v1 v2 v3 v4 v5:dV):Below b w (fv w b v0 v1 v2 v3 v4 v5):=
 ((((((aR b w).setCell (p:=(Ad b 0)) az _).setCell (p:=(Ad b 1)) az _).setCell (p:=(Ad b 2)) az _).setCell (p:=(Ad b 3)) az _).setCell (p:=(Ad b 4)) az _).setCell (p:=(Ad b 5)) az _
theorem qn(h:∃cur,w.heap[b]?=dO cur ty):(∃cur,(jS w (Ad b j) u).heap[b]?=dO cur ty)/\Fr [ty] w (jS w (Ad b j) u):=by
 obtain⟨cur,hc⟩:=h;refine⟨?_,Fr.set hc ai⟩;simp only[World.setCell,yD,pQ,hc,Iv];exact⟨_,rfl⟩
theorem vu(h:w.heap[b]?=dO cur ty):Fr [ty] w (fv w b v0 v1 v2 v3 v4 v5):=by
 have r:=qn (j:=0) (u:=v0) ⟨cur,h⟩;have q:=qn (j:=1) (u:=v1) r.1;have o:=qn (j:=2) (u:=v2) q.1;have m:=qn (j:=3) (u:=v3) o.1;have i:=qn (j:=4) (u:=v4) m.1;have s:=qn (j:=5) (u:=v5) i.1;exact((((r.2.Z q.2).Z o.2).Z m.2).Z i.2).Z s.2
def Sx(Qs q:List dV)(N:Nat):Prop:=∀(i:Nat)(m:dV)(b:Nat),q[i]?=m->jB m=b->(∃(j:Nat)(o:dV),Qs[j]?=o/\jB o=b)\/N<=b
def cL1(Qs:List dV)(S:dV)(w w':G):Prop:=∀b,b<U (Q w)->(∀(i:Nat)(j:dV),Qs[i]?=j->jB j≠Y b)->jB S≠Y b->w'.heap[b]?=w.heap[b]?
def vh(id:Int)(ev:Ev)(s:aC):aC:=if s.1=id then(s.1,s.2.1,uA s.2.2 ev)else s
theorem ec6(ss:List aC)(id:Int)(ev:Ev):ss.map (vh id ev)=Co ss id ev:=rfl
theorem ec4(e g x t:Int)(p:OA)(n c:Nat)(q:OA)(m d:Nat)(ss:List aC)(Qs:List dV)(en:Le ss n)(id K:Int)(pe:OA)(ne ce:Nat)(P:LI)(eP:Le P ne)(B:Nat)(w:G)(hS:O (ew B w (.S p n c) ss Qs))(hP:O (TB w (.S pe ne ce) P))(hB:B<=U (Q w))(hn:Mg n)(aN:ne<=2^20):dQ dG 208 #[bS e g x t (.S p n c) (.S q m d),.U id,jP #[.I K,.S pe ne ce]] w λr w'=>r=dR (bS e g x t (.S p n c) (.S q m d))/\(∃tJ,ew B w' (.S p n c) (Co ss id (K,P)) tJ/\Sx Qs tJ (U (Q w)))/\cL1 Qs (.S p n c) w w'/\Fr [114,65] w w'/\Below B w w':=by
 let⟨ie,UX,ki,fy,gJ⟩:=og Tryz.infoEv;let⟨W0,bG,b0,z0,C0,T0⟩:=bM w #[.U e,.U g,.U x,.I t,.S p n c,.S q m d] 34;let⟨W1,fo,b1,z1,C1,T1⟩:=bM W0 #[.I K,.S pe ne ce] 114;let⟨W,hW,b2,z2,C2,T2⟩:=bM W1 #[.U 0,.U 0,.U 0,.I 0,aq,aq] 34;rw[z0]at C1 T1 z1;rw[z1]at C2 T2 z2;have bW:=ah (ah b0 b1) b2;have Wn:=dy (((C0.H ae b1).H ae b2)) (C1.H ae b2) C2;have LO:=dy ((b2.block _ ae).Z ((b1.block _ ae).Z T0)) ((b2.block _ ae).Z T1) T2;have SW:=af (hS.T (bH bW));have PW:=af (hP.T (bH bW));have HQ0:O (∀(i:Nat)(iZ:dV),Qs[i]?=Y iZ->∀b,jB iZ=Y b->b<U (Q w)):=λi iZ hq b M=>by obtain⟨s,hs⟩:∃s,ss[i]?=Y s:=⟨_,bN (hS.len▸(bu.1 hq).1)⟩;exact((hS.uT i s iZ hs hq).lt b M).2
 have HP0:O (∀b,jB (Value.slice p n c)=Y b->b<U (Q w)):=λb M=>(hS.row.lt b M).2;go_in;go_wp2;rw[<-bG,<-fo,<-hW]
 go_loopw[7](λiv wr=>∃(k:Nat)(Qk:List dV),k<=n/\iv=.I k/\U (Q W)<=U (Q wr)/\O (ew B wr (.S p n c) (rj (vh id (K,P)) k ss) Qk)/\O (Sx Qs Qk (U (Q W)))/\O (Fr [114,65] W wr)/\O (cL1 Qs (.S p n c) W wr)/\O (Below B W wr)) (λiv _=>n-(jN (intOf iv)))
 exact⟨0,Qs,cT _,rfl,fq _,(by show ew _ _ _ _ _;rw[show rj (vh id (K,P)) 0 ss=ss by simp[rj]];exact aa SW),(λi iZ b hq e=>.L ⟨i,iZ,hq,e⟩),Fr.refl _ _,(λb _ _ _=>rfl),aR _ _⟩;{
 obtain⟨k,Qk,hk,rfl,zr,qc,uj,la,uk,ir⟩:=hrel;have hQe:O (∀(i:Nat)(iZ:dV),Qk[i]?=Y iZ->jB iZ≠Y (U (Q w)+1)):=λi iZ hq e=>by obtain⟨j,Q',hj,e'⟩|h:=aa uj i iZ _ hq e;{have:=aa HQ0 j Q' hj _ e';omega};{omega}
 have Jd:O (wr.heap[U (Q w)+1]?=W.heap[U (Q w)+1]?):=aa uk _ ae (λi iZ hq e=>aM (aa HQ0 i iZ hq _ e)) (λe=>aM (aa HP0 _ e));have wk:jY jV ((k:Int)+1)=((k+1:Nat):Int):=by rw[l8 _ ae];omega
 have D0:=af (Wn.1.eh ((la.2 _ _ _ _ aX LO.1).Z LO.1.C));have D1:=af (Wn.2.1.eh Jd);have D2:=af (Wn.2.2.eh ((la.2 _ _ _ _ aX LO.2.2).Z LO.2.2.C));have s4:=D0.1 4 _ rfl;by_cases Kz:k<n;{
 have dQ5:=bR k n;obtain⟨⟨iI,Dl,qu⟩,hs⟩:∃s,ss[k]?=Y s:=⟨_,bN (aa en▸Kz)⟩;have hf:=cw0 (vh id (K,P)) hs;have bD:=cv9 (vh id (K,P)) hs;obtain⟨iZ,hQ⟩:∃iZ,Qk[k]?=Y iZ:=⟨_,bN (by rw[qc.len,ee7,aa en];exact Kz)⟩;have hz:((rj (vh id (K,P)) k ss).zip Qk)[k]?=Y ((iI,Dl,qu),iZ):=by rw[Mr];exact⟨hf,hQ⟩
 obtain⟨y,rfl⟩:∃y,p=(Ad y 0):=by obtain⟨p',c',e',-,-,hp⟩:=qc.row.form;simp only[ti]at e';let⟨y,hg⟩:=hp (aM (bu.1 hz).1);exact⟨y,e'.1.Z hg⟩
 obtain⟨cs,-,oz,nE,QG⟩:=qc.row.at hz;unfold DE at oz;subst oz;have r0:=nE 0 _ rfl;have r2:=nE 2 _ rfl;rw[Mt]at r0;have hq:=qc.uT k _ iZ hf hQ;obtain⟨pq,cq,rfl,oU,oY,-⟩:=hq.form;let⟨nq,yb⟩:=aZ (J qu);simp only at r0 r2 hq hQ hf oU;rw[yb]at r2 oU hQ hq;have HQ:=jq hQ hf hq yb;have il:=af bD;clear nE hz bD hf hQ hq yb hs;by_cases he:iI=id;{
 subst he;have Gt:(iI != iI)=dF:=ai;by_cases h7:nq<7;{
 have h7':(nq:Int)<7:=ae;have E1:=af (by rw[aa il];simp only[vh,pQ,uA,HQ.2.2.2,h7]:rj (vh iI (K,P)) (k+1) ss=(rj (vh iI (K,P)) k ss).set k (iI,Dl,qu++[(K,P)]))
 go_wp21
 let⟨vA,de⟩:=aF wr.drew;have cQ:=mW de;have zA:=cQ.size;have V:O (∀v,Bw vA v->(I v (Aw w 4)=dK y n c/\I v (Ax w 0)=dI K/\I v (Ax w 1)=dS pe ne ce)/\I v (Ad y (k*3+2))=dS pq nq cq/\TB v (.S pe ne ce) P/\ew B v (.T y n c) (rj (vh iI (K,P)) k ss) Qk/\oO B v (.S pq nq cq) qu/\(∀o,jF v (Ad y o)=dF)/\v.heap[U (Q w)]?=wr.heap[U (Q w)]?/\v.heap[U (Q w)+1]?=wr.heap[U (Q w)+1]?/\Bw wr v):=λv hv=>by have X:Bw wr v:=ah cQ hv;have tz:y<U (Q wr):=(qc.row.lt y rfl).2;exact⟨⟨aj s4 X,aj (D1.1 0 _ rfl) X,aj (D1.1 1 _ rfl) X⟩,aj r2 X,((PW.T la).T (bH X)),qc.T (bH X),HQ.2.2.1.T (bH X),λo=>(X.frozen (p:=(Ad y o)) tz).Z (QG o),X.block _ ae,X.block _ ae,X⟩
 have Hn:O ((∃cur,wr.heap[U (Q w)]?=dO cur 34)/\∃cur,wr.heap[y]?=dO cur 65):=⟨⟨_,la.2 _ _ _ _ aX LO.1⟩,qc.row.uw y rfl⟩;refine fK (λw'=>I w' (Aw w 4)=dK y n c/\I w' (Ax w 0)=dI K/\I w' (Ax w 1)=dS pe ne ce) (de▸(aa V vA aH).1) λhS=>?_;rw[<-de]at hS⊢;clear de cQ r0 r2 s4;refine jh 0 1 2 3 4 5 6 7 hS ?_;refine iL 9 10 11 12 hS ?_;refine ry [8,13] ?_;refine cn (λD hK=>?_) ?_;rotate_left;refine cn (λD hK=>?_) ?_;rotate_left;exact fI;have cq:=(aa V _ aH).2.1;go_simp;refine bQ hK (by exact(aa V _ aH).1) λhS=>?_;clear hK D cq;refine ry [13] ?_;refine cn (λD hK=>?_) ?_;rotate_left;exact fI;rotate_right;refine js (Dp eP (aa V _ aH).2.2.1.1 ae) ?_;rintro r v1⟨p6,c6,rfl,o6,gj⟩;refine⟨_,rfl,?_⟩;have O6:=af o6;have B6:=af gj;refine bQ hK (by exact(aa V v1 gj).1) λhS=>?_;refine tn 14 hS ?_;refine ry [15] ?_;refine cn (λD hK=>?_) ?_;rotate_left;exact fI;rotate_right;go_simp;obtain⟨Z,hZ,bZ,zZ,CZ,-⟩:=bM v1 #[.I K,.S p6 ne c6] 114;rw[<-hZ];have BZ:=af (ah B6 bZ);have yi:=af CZ;have TZ:=af ((O6.tc (B:=B) ae).T (bH bZ));refine bQ hK (by exact(aa V Z BZ).1) λhS=>?_;rotate_left;refine js (Dp eP (aa V _ aH).2.2.1.1 ae) ?_;rintro r v1⟨p6,c6,rfl,o6,gj⟩;refine⟨_,rfl,?_⟩;have O6:=af o6;have B6:=af gj;refine bQ hK (by exact(aa V v1 gj).1) λhS=>?_;refine tn 14 hS ?_;refine ry [8,15] ?_;refine cn (λD hK=>?_) ?_;rotate_left;refine cn (λD hK=>?_) ?_;rotate_left;exact fI;rotate_left;have cq:=(aa V _ B6).2.1;go_simp;refine bQ hK (by exact(aa V _ B6).1) λhS=>?_;clear hK D cq;refine ry [15] ?_;refine cn (λD hK=>?_) ?_;rotate_left;exact fI;rotate_right;go_simp;obtain⟨Z,hZ,bZ,zZ,CZ,-⟩:=bM v1 #[.I K,.S p6 ne c6] 114;rw[<-hZ];have BZ:=af (ah B6 bZ);have yi:=af CZ;have TZ:=af ((O6.tc (B:=B) ae).T (bH bZ));refine bQ hK (by exact(aa V Z BZ).1) λhS=>?_;clear hK D hZ bZ CZ;rotate_left;go_simp;obtain⟨Z,hZ,bZ,zZ,CZ,-⟩:=bM v1 #[.I K,.S p6 ne c6] 114;rw[<-hZ];have BZ:=af (ah B6 bZ);have yi:=af CZ;have TZ:=af ((O6.tc (B:=B) ae).T (bH bZ));refine bQ hK (by exact(aa V Z BZ).1) λhS=>?_;clear hK D hZ bZ CZ;refine ry [8] ?_;refine cn (λD hK=>?_) ?_;rotate_left;exact fI;rotate_right;have cq:=(aa V _ BZ).2.1;go_simp;refine bQ hK (by exact(aa V _ BZ).1) λhS=>?_;clear hK D cq
 all_goals(
  obtain⟨-,r2,-,SZ,sq,fz,WJ,WI,wZ⟩:=aa V Z BZ;let⟨cs,g1,g2,g3,g4⟩:=id sq;rw[HQ.2.2.2]at g3;have zZ2:=BZ.size;refine ry [16] ?_;refine cn (λD hK=>?_) ?_;rotate_left;exact fI;rotate_right;refine TD aP aP ie 2 underlying41 UX ki fy gJ rfl aX aP g3 (g:=U (Q v1)) 1 1 [.I K,.S p6 ne c6] aP rfl (λj u hu=>yi.1 j u hu) (λu hu=>by simp at hu;obtain rfl|rfl:=hu<;>rfl) kL ae ae ?_;intro v' N gC hg gR;have f9:Fr [114] Z N:=Fr.grown hg λb M=>by let⟨cur,hc⟩:=sq.uw b M;exact⟨cur,_,hc,ai⟩
  have JU:oO B N v' (qu++[(K,P)]):=RT.snoc g1 g2 g4 (Lp.T f9 aX) ⟨_,rfl,TZ⟩ rfl (HQ.2.2.2▸gC);have Gk:∀b,jB (Value.slice pq nq cq)=Y b->b≠U (Q w)/\b≠U (Q w)+1/\b≠y:=λb M=>by let⟨cur,hc⟩:=sq.uw b M;refine⟨λe=>?_,λe=>?_,λe=>?_⟩;{let⟨Fc,gq⟩:=Hn.1;rw[e,WJ,gq]at hc;simp at hc};{exact hQe k _ HQ.1 (e▸M)};{let⟨Fc,gq⟩:=Hn.2;rw[e,(wZ.block y (vU gq)),gq]at hc;simp at hc}
  have k0:N.heap[U (Q w)]?=Z.heap[U (Q w)]?:=hg.block _ ae (λe=>(Gk _ e.C).1 rfl);have k1:N.heap[U (Q w)+1]?=Z.heap[U (Q w)+1]?:=hg.block _ ae (λe=>(Gk _ e.C).2.1 rfl);have AI:y<U (Q Z):=(SZ.row.lt y rfl).2;have kg:N.heap[y]?=Z.heap[y]?:=hg.block _ AI (λe=>(Gk _ e.C).2.2 rfl);have S9:I N (Aw w 4)=dK y n c/\I N (Ax w 0)=dI K/\I N (Ax w 1)=dS pe ne ce:=⟨(gF k0 _).Z hS.1,(gF k1 _).Z hS.2.1,(gF k1 _).Z hS.2.2⟩;obtain⟨pN,cN,rfl,-⟩:=JU.form;have lN:J (qu++[(K,P)])=nq+1:=by rw[eG,HQ.2.2.2];rfl
  rw[lN]at JU gR gC⊢;let⟨ST,FT⟩:=ew.aJ0 SZ HQ.2.1 HQ.1 JU hg gR;have TU2:=br ST FT;have r9:=(gF kg _).Z r2;have f9z:∀o,jF N (Ad y o)=dF:=λo=>(Dj kg).Z (fz o);have B9:=af ((ir.Z (wZ.h ae)).grown hg ae (λb M=>(sq.lt b M).1));have Wj:=jq gR Gk k1 WI;have pY:y≠U (Q w)/\y≠U (Q w)+1:=⟨λe=>by
   let⟨cur,hc⟩:=Hn.1;let⟨Fc,gq⟩:=Hn.2;rw[e,hc]at gq;simp at gq,λe=>by
   let⟨Fc,gq⟩:=Hn.2;rw[e,aa Jd,LO.2.1]at gq;simp at gq⟩
  have z9:=hg.size;have lg:=(SZ.row.lt y rfl).1;refine bQ hK (by exact S9) λhS=>?_;clear hK D gC gR g1 g2 g3 g4 f9 sq JU Gk k0 k1 kg ST FT SZ r2 fz WJ WI lN;refine gh 17 18 hS ?_;refine ry [19] ?_;refine cn (λD hK=>?_) ?_;rotate_left;exact fI;rotate_right;go_simp;have S10:I (jS N (Ad y (k*3+2)) (.S pN (nq+1) cN)) (Aw w 4)=dK y n c/\I (jS N (Ad y (k*3+2)) (.S pN (nq+1) cN)) (Ax w 0)=dI K/\I (jS N (Ad y (k*3+2)) (.S pN (nq+1) cN)) (Ax w 1)=dS pe ne ce:=⟨(gF (fN _ _ _ _ (El pY.1)) _).Z hS.1,(gF (fN _ _ _ _ (El pY.2)) _).Z hS.2.1,(gF (fN _ _ _ _ (El pY.2)) _).Z hS.2.2⟩;refine bQ hK (by exact S10) λhS=>?_;clear hK D r9 f9z;refine ga ?_;clear hS S9 S10;go_wp2;go_roundw
  case rel=>exact⟨k+1,Qk.set k (.S pN (nq+1) cN),ae,by go_num,cg,(by show ew _ _ _ _ _;rw[aa E1];exact TU2.1),(λi iZ b hq e=>by
   rw[vJ]at hq;split at hq;{split at hq;{cases hq;obtain e2|e2:=Wj.1 _ e;{exact uj k _ _ HQ.1 e2};{exact .R ae}};{cases hq}};{exact uj i iZ b hq e}),(la.Z (Fr.H wZ)).Z TU2.2,(λb M hq hp=>by
   have I9:b≠y:=λe=>hp (by rw[e];rfl);exact(fN _ _ _ _ I9).Z ((hg.block b ae (λe=>by obtain⟨j,Q',hj,e'⟩|h:=aa uj k _ _ HQ.1 e.C;{exact hq j Q' hj e'};{omega})).Z ((wZ.block b ae).Z (aa uk b M hq hp)))),B9.setCell lg _⟩
  case measure=>simp[intOf];omega)}
 {
 have h7':¬(nq:Int)<7:=ae;by_cases h8:nq=7;{
 have Re:((nq:Int)==7):=by simp;omega
 have E1:=af (by rw[aa il];simp[vh,uA,HQ.2.2.2,h8]:rj (vh iI (K,P)) (k+1) ss=(rj (vh iI (K,P)) k ss).set k (iI,Dl,qu++[(4,[])]));have hnq:nq<=7:=ae;clear h8
 go_wp21
 let⟨vA,de⟩:=aF wr.drew;have cQ:=mW de;have zA:=cQ.size;have V:O (∀v,Bw vA v->(I v (Aw w 4)=dK y n c/\I v (Ax w 0)=dI K/\I v (Ax w 1)=dS pe ne ce)/\I v (Ad y (k*3+2))=dS pq nq cq/\TB v (.S pe ne ce) P/\ew B v (.T y n c) (rj (vh iI (K,P)) k ss) Qk/\oO B v (.S pq nq cq) qu/\(∀o,jF v (Ad y o)=dF)/\v.heap[U (Q w)]?=wr.heap[U (Q w)]?/\v.heap[U (Q w)+1]?=wr.heap[U (Q w)+1]?/\Bw wr v):=λv hv=>by have X:Bw wr v:=ah cQ hv;have tz:y<U (Q wr):=(qc.row.lt y rfl).2;exact⟨⟨aj s4 X,aj (D1.1 0 _ rfl) X,aj (D1.1 1 _ rfl) X⟩,aj r2 X,((PW.T la).T (bH X)),qc.T (bH X),HQ.2.2.1.T (bH X),λo=>(X.frozen (p:=(Ad y o)) tz).Z (QG o),X.block _ ae,X.block _ ae,X⟩
 have Hn:O ((∃cur,wr.heap[U (Q w)]?=dO cur 34)/\∃cur,wr.heap[y]?=dO cur 65):=⟨⟨_,la.2 _ _ _ _ aX LO.1⟩,qc.row.uw y rfl⟩;refine fK (λw'=>I w' (Aw w 4)=dK y n c/\I w' (Ax w 0)=dI K/\I w' (Ax w 1)=dS pe ne ce) (de▸(aa V vA aH).1) λhS=>?_;rw[<-de]at hS⊢;clear de cQ r0 r2 s4;refine jh 0 1 2 3 4 5 6 7 hS ?_;refine tn 9 hS ?_;refine ry [8,10] ?_;refine cn (λD hK=>?_) ?_;rotate_left;refine cn (λD hK=>?_) ?_;rotate_left;exact fI;have cq:=(aa V _ aH).2.1;go_simp;refine bQ hK (by exact(aa V _ aH).1) λhS=>?_;clear hK D cq;refine ry [10] ?_;refine cn (λD hK=>?_) ?_;rotate_left;exact fI;rotate_right;go_simp;obtain⟨Z,hZ,bZ,zZ,CZ,-⟩:=bM vA #[.I 4,aq] 114;rw[<-hZ];have BZ:=af (bZ);have yi:=af CZ;have TZ:=af (TC.nil (B:=B) Z);refine bQ hK (by exact(aa V Z BZ).1) λhS=>?_;clear hK D hZ bZ CZ;rotate_left;go_simp;obtain⟨Z,hZ,bZ,zZ,CZ,-⟩:=bM vA #[.I 4,aq] 114;rw[<-hZ];have BZ:=af (bZ);have yi:=af CZ;have TZ:=af (TC.nil (B:=B) Z);refine bQ hK (by exact(aa V Z BZ).1) λhS=>?_;clear hK D hZ bZ CZ;refine ry [8] ?_;refine cn (λD hK=>?_) ?_;rotate_left;exact fI;rotate_right;have cq:=(aa V _ BZ).2.1;go_simp;refine bQ hK (by exact(aa V _ BZ).1) λhS=>?_;clear hK D cq
 all_goals(
  obtain⟨-,r2,-,SZ,sq,fz,WJ,WI,wZ⟩:=aa V Z BZ;let⟨cs,g1,g2,g3,g4⟩:=id sq;rw[HQ.2.2.2]at g3;have zZ2:=BZ.size;refine ry [11] ?_;refine cn (λD hK=>?_) ?_;rotate_left;exact fI;rotate_right;refine TD aP aP ie 2 underlying41 UX ki fy gJ rfl aX aP g3 (g:=U (Q vA)) 1 1 [.I 4,aq] aP rfl (λj u hu=>yi.1 j u hu) (λu hu=>by simp at hu;obtain rfl|rfl:=hu<;>rfl) kL ae ae ?_;intro v' N gC hg gR;have f9:Fr [114] Z N:=Fr.grown hg λb M=>by let⟨cur,hc⟩:=sq.uw b M;exact⟨cur,_,hc,ai⟩
  have JU:oO B N v' (qu++[(4,[])]):=RT.snoc g1 g2 g4 (Lp.T f9 aX) ⟨_,rfl,TZ⟩ rfl (HQ.2.2.2▸gC);have Gk:∀b,jB (Value.slice pq nq cq)=Y b->b≠U (Q w)/\b≠U (Q w)+1/\b≠y:=λb M=>by let⟨cur,hc⟩:=sq.uw b M;refine⟨λe=>?_,λe=>?_,λe=>?_⟩;{let⟨Fc,gq⟩:=Hn.1;rw[e,WJ,gq]at hc;simp at hc};{exact hQe k _ HQ.1 (e▸M)};{let⟨Fc,gq⟩:=Hn.2;rw[e,(wZ.block y (vU gq)),gq]at hc;simp at hc}
  have k0:N.heap[U (Q w)]?=Z.heap[U (Q w)]?:=hg.block _ ae (λe=>(Gk _ e.C).1 rfl);have k1:N.heap[U (Q w)+1]?=Z.heap[U (Q w)+1]?:=hg.block _ ae (λe=>(Gk _ e.C).2.1 rfl);have AI:y<U (Q Z):=(SZ.row.lt y rfl).2;have kg:N.heap[y]?=Z.heap[y]?:=hg.block _ AI (λe=>(Gk _ e.C).2.2 rfl);have S9:I N (Aw w 4)=dK y n c/\I N (Ax w 0)=dI K/\I N (Ax w 1)=dS pe ne ce:=⟨(gF k0 _).Z hS.1,(gF k1 _).Z hS.2.1,(gF k1 _).Z hS.2.2⟩;obtain⟨pN,cN,rfl,-⟩:=JU.form;have lN:J (qu++[(4,[])])=nq+1:=by rw[eG,HQ.2.2.2];rfl
  rw[lN]at JU gR gC⊢;let⟨ST,FT⟩:=ew.aJ0 SZ HQ.2.1 HQ.1 JU hg gR;have TU2:=br ST FT;have r9:=(gF kg _).Z r2;have f9z:∀o,jF N (Ad y o)=dF:=λo=>(Dj kg).Z (fz o);have B9:=af ((ir.Z (wZ.h ae)).grown hg ae (λb M=>(sq.lt b M).1));have Wj:=jq gR Gk k1 WI;have pY:y≠U (Q w)/\y≠U (Q w)+1:=⟨λe=>by
   let⟨cur,hc⟩:=Hn.1;let⟨Fc,gq⟩:=Hn.2;rw[e,hc]at gq;simp at gq,λe=>by
   let⟨Fc,gq⟩:=Hn.2;rw[e,aa Jd,LO.2.1]at gq;simp at gq⟩
  have z9:=hg.size;have lg:=(SZ.row.lt y rfl).1;refine bQ hK (by exact S9) λhS=>?_;clear hK D gC gR g1 g2 g3 g4 f9 sq JU Gk k0 k1 kg ST FT SZ r2 fz WJ WI lN;refine gh 12 13 hS ?_;refine ry [14] ?_;refine cn (λD hK=>?_) ?_;rotate_left;exact fI;rotate_right;go_simp;have S10:I (jS N (Ad y (k*3+2)) (.S pN (nq+1) cN)) (Aw w 4)=dK y n c/\I (jS N (Ad y (k*3+2)) (.S pN (nq+1) cN)) (Ax w 0)=dI K/\I (jS N (Ad y (k*3+2)) (.S pN (nq+1) cN)) (Ax w 1)=dS pe ne ce:=⟨(gF (fN _ _ _ _ (El pY.1)) _).Z hS.1,(gF (fN _ _ _ _ (El pY.2)) _).Z hS.2.1,(gF (fN _ _ _ _ (El pY.2)) _).Z hS.2.2⟩;refine bQ hK (by exact S10) λhS=>?_;clear hK D r9 f9z;refine ga ?_;clear hS S9 S10;go_wp2;go_roundw
  case rel=>exact⟨k+1,Qk.set k (.S pN (nq+1) cN),ae,by go_num,cg,(by show ew _ _ _ _ _;rw[aa E1];exact TU2.1),(λi iZ b hq e=>by
   rw[vJ]at hq;split at hq;{split at hq;{cases hq;obtain e2|e2:=Wj.1 _ e;{exact uj k _ _ HQ.1 e2};{exact .R ae}};{cases hq}};{exact uj i iZ b hq e}),(la.Z (Fr.H wZ)).Z TU2.2,(λb M hq hp=>by
   have I9:b≠y:=λe=>hp (by rw[e];rfl);exact(fN _ _ _ _ I9).Z ((hg.block b ae (λe=>by obtain⟨j,Q',hj,e'⟩|h:=aa uj k _ _ HQ.1 e.C;{exact hq j Q' hj e'};{omega})).Z ((wZ.block b ae).Z (aa uk b M hq hp)))),B9.setCell lg _⟩
  case measure=>simp[intOf];omega)}
 {
 have Re:((nq:Int)==7)=dF:=by simp;omega
 have E1:=af (by rw[aa il];simp only[vh,pQ,uA,HQ.2.2.2,h7,h8,Ap];exact Pe HQ.2.1:rj (vh iI (K,P)) (k+1) ss=rj (vh iI (K,P)) k ss);go_wp2;go_roundw;exact⟨k+1,Qk,ae,by go_num,zr,(by show ew _ _ _ _ _;rw[aa E1];exact aa qc),uj,la,uk,ir⟩;exact dh}}};{
 have Gt:(iI != id):=by simpa using he
 have E1:=af (by rw[aa il];simp only[vh,he,Ap];exact Pe HQ.2.1:rj (vh id (K,P)) (k+1) ss=rj (vh id (K,P)) k ss);go_wp2;go_roundw;exact⟨k+1,Qk,ae,by go_num,zr,(by show ew _ _ _ _ _;rw[aa E1];exact aa qc),uj,la,uk,ir⟩;exact dh}};{have dQ5:=fG k n;have SF:=aa qc;rw[cw1 _ (by rw[aa en];omega),ec6]at SF;have HSF:=af SF;clear SF;let⟨K0,kf⟩:=aa D0;let⟨R0,rf⟩:=aa D2;let⟨k0,k1,k2,k3⟩:=eE7 K0;have k5:=K0 5 _ rfl;let⟨q0,q1,q2,q3,q4,q5⟩:=Bx R0;clear K0 R0;go_wp2;have hF:=vu (v0:=.U e) (v1:=.U g) (v2:=.U x) (v3:=.I t) (v4:=.S p n c) (v5:=.S q m d) (la.2 _ _ _ _ aX LO.2.2);have uK:Below (U (Q w)+1+1) wr (fv wr (U (Q w)+1+1) (.U e) (.U g) (.U x) (.I t) (.S p n c) (.S q m d)):=sY _ _ _ _ _ _ _;refine bO (v:=bS e g x t (.S p n c) (.S q m d)) (by simp[results,results208,go_sem,q0,q1,q2,q3,q4,q5]) rfl ?_;refine⟨rfl,⟨_,HSF.T hF,(λi iZ b hq e=>by obtain h|h:=aa uj i iZ b hq e;{exact .L h};{exact .R ae})⟩,(λb M hq hp=>(uK.block b ae).Z ((aa uk b ae hq hp).Z (bW.block b M))),⟨fx ae uK.size,λb cur ty m' ht M=>(uK.block b (aM (vU M))).Z (la.2 b cur ty m' ht ((bW.block b (vU M)).Z M))⟩,((bW.h hB).Z ir).Z (uK.h ae)⟩}}
def Bf(j m:Bool)(q r vs:Int)(i:Bool)(s f:Int)(o nv:Nat)(e g:Int):Bool:=
 (j||s==0)&&((m||o==0)&&(dD (q<=f)&&(dD (f<=r)&&(dD ((nv:Int)<=vs)&&(i||(e==0&&g==0))))))
variable {k:Int}
theorem dE3(h:1<=k/\k<=13):dQ dG 108 #[.I k] w λe w'=>e=dR (jO (dD (k=2\/k=3\/k=4\/k=5\/k=7\/k=8\/k=9\/k=10\/k=11\/k=12)))/\w'=w:=by
 have:k=1\/k=2\/k=3\/k=4\/k=5\/k=6\/k=7\/k=8\/k=9\/k=10\/k=11\/k=12\/k=13:=by omega
 obtain rfl|rfl|rfl|rfl|rfl|rfl|rfl|rfl|rfl|rfl|rfl|rfl|rfl:=this
 all_goals(go_in;go_wp2;go_ret;exact⟨rfl,rfl⟩)
theorem dE4(h:1<=k/\k<=13):dQ dG 128 #[.I k] w λe w'=>e=dR (jO (dD (k=4\/k=5\/k=6\/k=7\/k=8\/k=9\/k=10\/k=11\/k=13)))/\w'=w:=by
 have:k=1\/k=2\/k=3\/k=4\/k=5\/k=6\/k=7\/k=8\/k=9\/k=10\/k=11\/k=12\/k=13:=by omega
 obtain rfl|rfl|rfl|rfl|rfl|rfl|rfl|rfl|rfl|rfl|rfl|rfl|rfl:=this
 all_goals(go_in;go_wp2;go_ret;exact⟨rfl,rfl⟩)
theorem dE2(h:1<=k/\k<=13):dQ dG 56 #[.I k] w λe w'=>e=dR (jO (dD (k=1\/k=3\/k=4\/k=5\/k=7\/k=8\/k=9)))/\w'=w:=by
 have:k=1\/k=2\/k=3\/k=4\/k=5\/k=6\/k=7\/k=8\/k=9\/k=10\/k=11\/k=12\/k=13:=by omega
 obtain rfl|rfl|rfl|rfl|rfl|rfl|rfl|rfl|rfl|rfl|rfl|rfl|rfl:=this
 all_goals(go_in;go_wp2;go_ret;exact⟨rfl,rfl⟩)
theorem z0(s:Int):s=0\/(s != 0):=(Kl (s=0)).imp id (λh=>by simp[h])
theorem zn(n:Nat):n=0\/((n:Int) != 0):=(Kl (n=0)).imp id (λh=>by simp[h])
theorem zf(a f:Int):f=a\/(f==a)=dF:=(Kl (f=a)).imp id (λh=>by simp[h])
def rowOf:Nat->Bool×Bool×Int×Int×Int×Bool×Bool
 |1=>(dF,dF,0,0,0,dF,dY)
 |2=>(dY,dF,0,0,0,dF,dF)
 |3=>(dY,dF,0,0,0,dF,dY)
 |4=>(dY,dY,0,1,40,dF,dY)
 |5=>(dY,dY,0,0,0,dF,dY)
 |6=>(dF,dY,0,0,0,dF,dF)
 |7=>(dY,dY,0,0,40,dF,dY)
 |8=>(dY,dY,1,2,0,dF,dY)
 |9=>(dY,dY,0,0,0,dF,dY)
 |10=>(dY,dY,0,0,0,dY,dF)
 |11=>(dY,dY,0,0,0,dF,dF)
 |12=>(dY,dF,0,0,0,dF,dF)
 |13=>(dF,dY,0,0,0,dF,dF)
 |_=>(dF,dF,0,0,0,dF,dF)
def oF(k:Nat)(s f:Int)(n m:Nat)(e g:Int):Bool:=Bf (rowOf k).1 (rowOf k).2.1 (rowOf k).2.2.1 (rowOf k).2.2.2.1 (rowOf k).2.2.2.2.1 (rowOf k).2.2.2.2.2.1 s f n m e g
def vL(k:Nat):Bool:=(rowOf k).2.2.2.2.2.2
theorem kinds{k:Nat}(j:1<=k)(i:k<=13):k=1\/k=2\/k=3\/k=4\/k=5\/k=6\/k=7\/k=8\/k=9\/k=10\/k=11\/k=12\/k=13:=by omega
theorem ed7(M:1<=k)(E:k<=13){s:Int}{n m c d:Nat}(u:O (oF (jN k) s f n m e g=B)):dQ dG 70 #[qF k s (.S p n c) f (.S q m d) e g] w (Rb (jO B) w):=by
 have:k=1\/k=2\/k=3\/k=4\/k=5\/k=6\/k=7\/k=8\/k=9\/k=10\/k=11\/k=12\/k=13:=by omega
 clear M E;obtain rfl|rfl|rfl|rfl|rfl|rfl|rfl|rfl|rfl|rfl|rfl|rfl|rfl:=this;obtain rfl|x:=z0 s;obtain rfl|o:=zn n;obtain rfl|he:=z0 e;obtain rfl|j:=z0 g;obtain rfl|i:=zn m;obtain rfl|hf:=zf 0 f;rotate_left 7;obtain rfl|o:=zn n;obtain rfl|he:=z0 e;obtain rfl|j:=z0 g;obtain rfl|i:=zn m;obtain rfl|hf:=zf 0 f;rotate_left 6;obtain rfl|o:=zn n;obtain rfl|he:=z0 e;obtain rfl|j:=z0 g;obtain rfl|i:=zn m;obtain rfl|hf:=zf 0 f;rotate_left 6;obtain rfl|he:=z0 e;obtain rfl|j:=z0 g;obtain i|i:=(Kl ((40:Int)<(m:Int))).C;obtain rfl|hf:=zf 0 f;rotate_left;obtain rfl|D:=zf 1 f;rotate_left 5;obtain rfl|he:=z0 e;obtain rfl|j:=z0 g;obtain rfl|i:=zn m;obtain rfl|hf:=zf 0 f;rotate_left 5;obtain rfl|x:=z0 s;obtain rfl|he:=z0 e;obtain rfl|j:=z0 g;obtain rfl|i:=zn m;obtain rfl|hf:=zf 0 f;rotate_left 6;obtain rfl|he:=z0 e;obtain rfl|j:=z0 g;obtain i|i:=(Kl ((40:Int)<(m:Int))).C;obtain rfl|hf:=zf 0 f;rotate_left 5;obtain rfl|he:=z0 e;obtain rfl|j:=z0 g;obtain rfl|i:=zn m;obtain rfl|hf:=zf 1 f;rotate_left;obtain rfl|D:=zf 2 f;rotate_left 5;obtain rfl|he:=z0 e;obtain rfl|j:=z0 g;obtain rfl|i:=zn m;obtain rfl|hf:=zf 0 f;rotate_left 5;obtain rfl|i:=zn m;obtain rfl|hf:=zf 0 f;rotate_left 3;obtain rfl|he:=z0 e;obtain rfl|j:=z0 g;obtain rfl|i:=zn m;obtain rfl|hf:=zf 0 f;rotate_left 5;obtain rfl|o:=zn n;obtain rfl|he:=z0 e;obtain rfl|j:=z0 g;obtain rfl|i:=zn m;obtain rfl|hf:=zf 0 f;rotate_left 6;obtain rfl|x:=z0 s;obtain rfl|he:=z0 e;obtain rfl|j:=z0 g;obtain rfl|i:=zn m;obtain rfl|hf:=zf 0 f;rotate_left 6
 all_goals(cases B<;>first|(exfalso;have h:=aa u;clear u;simp_all[oF,Bf,rowOf]<;>omega)|clear u)
 all_goals(go_in;go_wp21;refine(dE3 aX).h ?_;rintro r y⟨rfl,rfl⟩;(try(go_wp21;refine(dE4 aX).h ?_;rintro r y⟨rfl,rfl⟩));go_wp2;go_ret;exact⟨rfl,aH.alloc az _⟩)
theorem cu9{s:Int}{n m c d:Nat}(i:k<1\/13<k):dQ dG 70 #[qF k s (.S p n c) f (.S q m d) e g] w (Rb (jO dF) w):=by
 obtain r|o:=i;{go_in;go_wp2;go_ret;exact⟨rfl,aH.alloc az _⟩};{have j:¬k<1:=ae;go_in;go_wp2;go_ret;exact⟨rfl,aH.alloc az _⟩}
variable {k:Nat}
theorem cv0(o:1<=k)(j:k<=13){s:Int}{n m c d:Nat}(i:O (oF k s f n m e g=B)):dQ dG 70 #[qF k s (.S p n c) f (.S q m d) e g] w (Rb (jO B) w):=
 ed7 ae ae (p:=p) (q:=q) (c:=c) (d:=d) (w:=w) i
theorem cf0(j:1<=k)(i:k<=13):dQ dG 56 #[.I k] w λr w'=>r=dR (jO (vL k))/\w'=w:=by
 have h:=dE2 (k:=k) ae (w:=w);obtain rfl|rfl|rfl|rfl|rfl|rfl|rfl|rfl|rfl|rfl|rfl|rfl|rfl:=kinds j i<;>exact h
theorem Xf(h:aO w b [o0,o1,o2,o3,o4,o5]):aO (fv w b v0 v1 v2 v3 v4 v5) b [v0,v1,v2,v3,v4,v5]:=
 (((((h.dt 0 ai v0).dt 1 ai v1).dt 2 ai v2).dt 3 ai v3).dt 4 ai v4).dt 5 ai v5
theorem ak7(h:aO w b' vs)(i:b'≠b):aO (fv w b v0 v1 v2 v3 v4 v5) b' vs:=
 (((((h.nS (a:=(Ad b 0)) i v0).nS (a:=(Ad b 1)) i v1).nS (a:=(Ad b 2)) i v2).nS (a:=(Ad b 3)) i v3).nS (a:=(Ad b 4)) i v4).nS (a:=(Ad b 5)) i v5
theorem Pj:U (Q (fv w b v0 v1 v2 v3 v4 v5))=U (Q w):=by simp[fv]
theorem Da(i:b'≠b):(fv w b v0 v1 v2 v3 v4 v5).heap[b']?=w.heap[b']?:=by
 unfold fv
 iterate 6 rw[fN _ _ _ _ (show b'≠_ from i)]
theorem ak6(h:∃cur,w.heap[b]?=dO cur ty):∃cur,(fv w b v0 v1 v2 v3 v4 v5).heap[b]?=dO cur ty:=
 (qn (qn (qn (qn (qn (qn h).1).1).1).1).1).1
theorem Sx.Z{m o:List dV}{N M:Nat}(h:Sx Qs m N)(u:Sx m o M)(B:N<=M):Sx Qs o N:=λi q b hq s=>by
 obtain⟨j,y,r,x⟩|D:=u i q b hq s;{exact h j y b r x};{exact .R ae}
variable {B:Nat}
theorem di.at{n c:Nat}(h:di B0 B w (.S p n c) ns)(m:ns[i]?=nd):∃g P V H iU,p=(Ad g 0)/\n=J ns/\n<=c/\I w (Ad g (i*8))=Y P/\I w (Ad g (i*8+1))=Y V/\I w (Ad g (i*8+2))=dU nd.D/\I w (Ad g (i*8+3))=dI nd.M/\I w (Ad g (i*8+4))=Y H/\I w (Ad g (i*8+5))=dU nd.P/\I w (Ad g (i*8+6))=dU nd.F/\I w (Ad g (i*8+7))=Y iU/\TC B0 w P nd.A/\TC B0 w V nd.V/\TU B0 w H nd.y/\TU B0 w iU nd.X/\∀o,jF w (Ad g o)=dF:=by
 obtain⟨D,E,e,hc,-,r⟩:=h.form;obtain⟨rfl,rfl,rfl⟩:=mg e;obtain⟨g,rfl⟩:=r (aM (bu.1 m).1);obtain⟨cs,-,⟨P,V,H,iU,rfl,y,x,u,s⟩,j,hf⟩:=RT.at h m;exact⟨g,P,V,H,iU,rfl,rfl,hc,j 0 _ rfl,j 1 _ rfl,j 2 _ rfl,j 3 _ rfl,j 4 _ rfl,j 5 _ rfl,j 6 _ rfl,j 7 _ rfl,y,x,u,s,hf⟩
theorem TB.fO(h:TB w v l):∃p c,v=.S p (J l) c:=by
 obtain⟨⟨p,c,e,-⟩,-⟩:=h;exact⟨p,c,e⟩
theorem di.Ua(h:di B0 B w v ns):iy w v ns:=by
 obtain⟨p,c,rfl,-,-,r⟩:=RT.form h;refine⟨p,c,rfl,?_⟩;by_cases m:ns=[];{exact .L m};{obtain⟨g,rfl⟩:=r (PC.2 m);refine .R ⟨g,0,rfl,λi S s=>?_⟩;obtain⟨W,P,V,H,iU,e,-,-,R,N,M,E,D,y,x,u,j,tV,q,o,-⟩:=di.at h s;obtain⟨rfl,-⟩:=By e;rw[l9];exact⟨P,V,H,iU,R,N,M,E,D,y,x,u,j.1,tV.1,q.1,o.1,j.2.2⟩}
theorem TU.fO(h:TU B w v l):∃p c,v=.S p (J l) c:=by
 obtain⟨⟨p,c,e,-⟩,-⟩:=h;exact⟨p,c,e⟩
theorem ec5(ss:List aC)(id:Int)(ev:Ev):J (Co ss id ev)=J ss:=by simp[Co]
theorem WG(ids:LI)(ev:Ev):∀ss:List aC,J (wX ss ids ev)=J ss:=by
 unfold wX
 induction ids with
 |nil=>intro ss;rfl
 |cons a r ih=>intro ss;rw[Kc,ih,ec5]
theorem bL3{id:Int}(h:ids[k]?=id):wX ss (jT (k+1) ids) ev=Co (wX ss (jT k ids) ev) id ev:=by
 rw[wX,sE,h,Un];rfl
theorem ah1(e g x t:Int){n c:Nat}(en:Le ss n)(kd:Int)(nd:au)(hk:O (ns[k]?=nd))(B:Nat)(w:G)(hS:O (ew B w (.S p n c) ss Qs))(hN:O (kF B w (.S q m d) ns))(hB:B<=U (Q w))(hn:Mg n)(hm:Mg m)(hp:J nd.A<=2^20)(hw:J nd.X<=2^20):dQ dG 170 #[bS e g x t (.S p n c) (.S q m d),.I k,.I kd] w λr w'=>r=dR (bS e g x t (.S p n c) (.S q m d))/\(∃tJ,ew B w' (.S p n c) (wX ss nd.X (kd,nd.A)) tJ)/\kF B w' (.S q m d) (ns.set k {nd with X:=[]})/\Fr [114,65,69] w w'/\Below B w w':=by
 obtain⟨gn,Pv,Vv,Hv,Uv,rfl,em,hmd,c0,-,-,-,-,-,-,c7,tP,-,-,tU,Fe⟩:=di.at hN hk;have hkm:k<m:=by rw[em];exact(bu.1 hk).1
 have be5:=bR k m;clear em;obtain⟨pe,ce,rfl⟩:=tP.fO;obtain⟨pu,cu,rfl⟩:=tU.fO;let⟨ne,eP⟩:=bL (J nd.A);let⟨nu,eU⟩:=bL (J nd.X);rw[aa eP]at hp tP c0;rw[aa eU]at hw tU c7;have Ez:gn<U (Q w):=(hN.lt gn rfl).2;let⟨W0,bG,b0,z0,C0,T0⟩:=bM w #[.U e,.U g,.U x,.I t,.S p n c,.T gn m d] 34;let⟨W1,fo,b1,z1,C1,T1⟩:=bM W0 #[.U 0,.U 0,.U 0,.I 0,aq,aq] 34;let⟨W2,fM,b2,z2,C2,T2⟩:=bM W1 #[.I kd,.S pe ne ce] 114;rw[z0]at C1 T1 z1;rw[z1]at C2 T2 z2;have bW:=ah (ah b0 b1) b2;have k0:=λ(ob o2:Obj)=>aj (aj c0 ((aR _ w).alloc az ob)) (aH.alloc az o2);have k7:=λ(ob o2 o3:Obj)=>aj (aj (aj c7 ((aR _ w).alloc az ob)) (aH.alloc az o2)) (aH.alloc az o3);have kz:=λ(ob o2 o3:Obj)=>((((((aR (U (Q w)) w).alloc az ob).alloc ai o2).alloc cg o3)).frozen (p:=(Ad gn (k*8+7))) Ez).Z (Fe _);have NW:=hN.T (bH bW);let⟨NX,FX⟩:=di.put NW hk (j:=7) ae aq {nd with X:=[]} (λw' P V H iU h1 h2 h3 h4 _=>⟨P,V,H,aq,rfl,h1,h2,h3,TU.nil _⟩);let⟨X,hX⟩:=aF (jS W2 (Ad gn (k*8+7)) aq);rw[<-hX]at NX FX;have SX:=(hS.T (bH bW)).T FX;have aN:∀b,U (Q w)<=b->X.heap[b]?=W2.heap[b]?:=λb hb=>by rw[hX];exact fN _ _ _ _ (by show b≠gn;omega)
 have HX:=jq NX SX (tU.T (bH bW) aX |>.T FX) (tP.tb.T (bH bW) aX |>.T FX);have HC:=dy (((C0.H ae b1).H ae b2).eh (aN _ az)) ((C1.H ae b2).eh (aN _ ae)) (C2.eh (aN _ ae));have HT:=dy ((aN _ az).Z ((b2.block _ ae).Z ((b1.block _ ae).Z T0))) ((aN _ ae).Z ((b2.block _ ae).Z T1)) ((aN _ ae).Z T2);have BX:Below B w X:=hX▸(bW.h hB).setCell (hN.lt gn rfl).1 _;have FW:Fr [114,65,69] w X:=(Fr.H bW).Z (FX.sub ai);have zX:U (Q X)=U (Q w)+3:=by rw[hX];simp;omega
 have HQ0:O (∀(i:Nat)(iZ:dV),Qs[i]?=Y iZ->∀b,jB iZ=Y b->b<U (Q w)):=λi iZ hq b hb=>by obtain⟨s,hs⟩:∃s,ss[i]?=Y s:=⟨_,bN (hS.len▸(bu.1 hq).1)⟩;exact((hS.uT i s iZ hs hq).lt b hb).2
 have HP0:O (∀b,jB (Value.slice p n c)=Y b->b<U (Q w)):=λb hb=>(hS.row.lt b hb).2;clear b0 b1 b2 C0 C1 C2 T0 T1 T2 NX SX NW aN c0 c7 Fe tP tU;go_in;go_wp2;rw[<-bG,<-fo,<-fM,<-hX];clear bG fo fM hX k0 k7 kz;have kn:∀(vs:iA)(w:G),(callFunc 208 vs).run dG w=.ok (.enter 208 vs) w:=λvs w=>aU;have Hx:=af kn;clear kn
 go_loopw[9](λiv wr=>∃(i:Nat)(Qk:List dV),i<=nu/\iv=.I i/\U (Q X)<=U (Q wr)/\O (ew B wr (.S p n c) (wX ss (jT i nd.X) (kd,nd.A)) Qk)/\O (kF B wr (.T gn m d) (ns.set k {nd with X:=[]}))/\O (TU B wr (.S pu nu cu) nd.X/\TB wr (.S pe ne ce) nd.A)/\O (Sx Qs Qk (U (Q X)))∧
  O (aO wr (U (Q w)) [.U e,.U g,.U x,.I t,.S p n c,.T gn m d]/\aO wr (U (Q w)+1) [.U 0,.U 0,.U 0,.I 0,aq,aq]/\aO wr (U (Q w)+2) [.I kd,.S pe ne ce])∧
  O ((∃cur,wr.heap[U (Q w)]?=dO cur 34)/\(∃cur,wr.heap[U (Q w)+1]?=dO cur 34))/\O (Fr [114,65,69] w wr)/\O (Below B w wr)) (λiv _=>nu-(jN (intOf iv)))
 exact⟨0,Qs,cT _,rfl,fq _,(by show ew _ _ _ _ _;exact HX.2.1),HX.1,HX.2.2,(λi iZ b hq hb=>.L ⟨i,iZ,hq,hb⟩),HC,⟨⟨_,HT.1⟩,⟨_,HT.2.1⟩⟩,FW,BX⟩;{
 obtain⟨i,Qk,hi,rfl,zr,qc,AY,hU,hQO,rW,hTk,la,ir⟩:=hrel;have wi:jY jV ((i:Int)+1)=((i+1:Nat):Int):=by rw[l8 _ ae];omega
 by_cases iW:i<nu;{
 have bf7:=bR i nu;obtain⟨id,hid⟩:∃id,nd.X[i]?=Y id:=⟨_,bN (aa eU▸iW)⟩;obtain⟨bw,ow,rfl,QK⟩:=hU.1.1.at hid;have E1:=af (bL3 (ss:=ss) (ev:=(kd,nd.A)) hid);clear hid;let⟨vA,de⟩:=aF wr.drew;have cQ:=mW de;have zA:=cQ.size;have CA:=dy (rW.1.H ae cQ) (rW.2.1.H ae cQ) (rW.2.2.H ae cQ);have UA:=br (hU.1.T (bH cQ)) (hU.2.T (bH cQ));have SA:=af (qc.T (bH cQ));have NA:=af (AY.T (bH cQ));have TA:=br (hTk.1.imp λcur h=>(cQ.block _ ae).Z h) (hTk.2.imp λcur h=>(cQ.block _ ae).Z h);have FA:=af (la.Z (Fr.H cQ));have BA:=af (ir.Z (cQ.h (aM ir.size)));have hwA:=aj QK cQ;have HG:=af (ec4 e g x t p n c (Ad gn 0) m d _ Qk (af (by rw[WG,aa en])) id kd pe ne ce nd.A eP B vA SA UA.2 (aM BA.size) hn hp)
 go_wp21
 refine fK (λw'=>I w' (Aw w 0)=dU e/\I w' (Aw w 1)=dU g/\I w' (Aw w 2)=dU x/\I w' (Aw w 3)=dI t/\I w' (Aw w 4)=dS p n c/\I w' (Aw w 5)=dK gn m d/\I w' (Ad (U (Q w)+2) 0)=dI kd/\I w' (Ad (U (Q w)+2) 1)=dS pe ne ce/\I w' (Ad bw (ow+i))=dU id) (by rw[<-de];exact⟨CA.1.1 0 _ rfl,CA.1.1 1 _ rfl,CA.1.1 2 _ rfl,CA.1.1 3 _ rfl,CA.1.1 4 _ rfl,CA.1.1 5 _ rfl,CA.2.2.1 0 _ rfl,CA.2.2.1 1 _ rfl,hwA⟩) λhS=>?_;rw[<-de]at hS⊢;clear de cQ QK hwA;refine iL 0 1 2 3 hS ?_;refine gh 4 5 hS ?_;refine ft 6 λKK hK=>?_;refine dc1 aP 208 _ _ _ _ aP (bS e g x t (.S p n c) (.T gn m d)) (.U id) (jP #[.I kd,.S pe ne ce]) aP aP aP (λ_=>aa Hx _ _) HG ?_;rintro r v1⟨rfl,⟨Q1,QP,IN⟩,YJ,yN,ao⟩;refine⟨_,rfl,?_⟩;have kb:v1.heap[U (Q w)+2]?=vA.heap[U (Q w)+2]?:=YJ _ ae (λj iZ hq e=>by obtain⟨j',Q',hj,e'⟩|h:=aa hQO j iZ _ hq e;{have:=aa HQ0 j' Q' hj _ e';omega};{omega}) (λe=>aM (aa HP0 _ e))
 let⟨⟨cu0,t0⟩,⟨cu1,t1⟩⟩:=aa TA;have t0':=yN.2 _ _ _ _ aX t0;have t1':=yN.2 _ _ _ _ aX t1;have C1:=dy (CA.1.eh (t0'.Z t0.C)) (CA.2.1.eh (t1'.Z t1.C)) (CA.2.2.eh kb);have U1:=br (UA.1.T yN) (UA.2.T yN);have N1:=af (NA.T yN);have S1:=af QP;have T1:=br t0' t1';have Q1':=af (hQO.Z IN ae);have F1:=af (FA.Z (yN.sub ai));have B1:=af (BA.Z ao);have z1:=ao.size;have QK:I v1 (Ad bw (ow+i))=dU id:=by obtain⟨-,h2⟩:=U1.1;exact(gF (by let⟨cur,hc⟩:=UA.1.2.1 bw rfl;exact(yN.2 _ _ _ _ aX hc).Z hc.C) _).Z hS.2.2.2.2.2.2.2.2
 refine bQ hK (by exact⟨C1.1.1 0 _ rfl,C1.1.1 1 _ rfl,C1.1.1 2 _ rfl,C1.1.1 3 _ rfl,C1.1.1 4 _ rfl,C1.1.1 5 _ rfl,C1.2.2.1 0 _ rfl,C1.2.2.1 1 _ rfl,QK⟩) λhS=>?_;clear hK KK QP IN YJ yN ao kb t0 t1 t0' t1' QK;refine ft 7 λKK hK=>?_;have Fe:=C1.1.2;go_simp;let⟨v2,qY⟩:=aF (fv v1 (U (Q w)) (.U e) (.U g) (.U x) (.I t) (.S p n c) (.T gn m d));have F2:Fr [34] v1 v2:=qY▸vu T1.1;have B2:Below (U (Q w)) v1 v2:=qY▸sY _ _ _ _ _ _ _;have C2:aO v2 (U (Q w)) [.U e,.U g,.U x,.I t,.S p n c,.T gn m d]:=qY▸Xf C1.1;have C3:aO v2 (U (Q w)+1) [.U 0,.U 0,.U 0,.I 0,aq,aq]:=qY▸ak7 C1.2.1 ae;have C4:aO v2 (U (Q w)+2) [.I kd,.S pe ne ce]:=qY▸ak7 C1.2.2 ae;have z2:U (Q v2)=U (Q v1):=qY▸Pj;have T2:(∃cur,v2.heap[U (Q w)]?=dO cur 34)/\∃cur,v2.heap[U (Q w)+1]?=dO cur 34:=by rw[qY];exact⟨ak6 ⟨_,T1.1⟩,_,(Da ae).Z T1.2⟩
 have cn0:I v2 (Ad bw (ow+i))=dU id:=by
  have hb:bw≠U (Q w):=λe2=>by let⟨cur,hc⟩:=U1.1.2.1 bw rfl;rw[e2,T1.1]at hc;simp at hc
  rw[qY];exact(gF (Da hb) _).Z hS.2.2.2.2.2.2.2.2
 have R2:=Sh C2 C3 C4 T2 F2 B2;unfold fv at qY;rw[<-qY];refine bQ hK (by exact⟨C2.1 0 _ rfl,C2.1 1 _ rfl,C2.1 2 _ rfl,C2.1 3 _ rfl,C2.1 4 _ rfl,C2.1 5 _ rfl,C4.1 0 _ rfl,C4.1 1 _ rfl,cn0⟩) λhS=>?_;clear hK KK qY C2 C3 C4 T2 F2 B2 Fe cn0;refine ga ?_;clear hS;go_wp2;go_roundw;exact⟨i+1,Q1,ae,by go_num,ae,(by show ew _ _ _ _ _;rw[aa E1];exact S1.T R2.2.2.2.2.1),N1.T R2.2.2.2.2.1,⟨U1.1.T R2.2.2.2.2.1,U1.2.T R2.2.2.2.2.1⟩,Q1',⟨R2.1,R2.2.1,R2.2.2.1⟩,R2.2.2.2.1,⟨fx F1.1 R2.2.2.2.2.1.1,λb cur ty mm ht hb=>(R2.2.2.2.2.2.block b (vU hb)).Z (F1.2 b cur ty mm ht hb)⟩,B1.Z (R2.2.2.2.2.2.h hB)⟩;exact dh};{have bf7:=fG i nu;have SF:=aa qc;rw[od (by rw[aa eU];omega)]at SF;have HSF:=af SF;clear SF;let⟨K0,kf⟩:=rW.1;let⟨R0,rf⟩:=rW.2.1;let⟨k0,k1,k2,k3,k4,k5⟩:=Bx K0;let⟨q0,q1,q2,q3,q4,q5⟩:=Bx R0;clear K0 R0;go_wp2;let⟨cu,tq⟩:=hTk.2;have hF:=vu (v0:=.U e) (v1:=.U g) (v2:=.U x) (v3:=.I t) (v4:=.S p n c) (v5:=.T gn m d) tq;have uK:Below (U (Q w)+1) wr (fv wr (U (Q w)+1) (.U e) (.U g) (.U x) (.I t) (.S p n c) (.T gn m d)):=sY _ _ _ _ _ _ _;refine bO (v:=bS e g x t (.S p n c) (.T gn m d)) (by simp[results,results170,go_sem,q0,q1,q2,q3,q4,q5]) rfl ?_;exact⟨rfl,⟨_,HSF.T hF⟩,AY.T hF,⟨fx la.1 uK.size,λb cur ty mm ht hb=>(uK.block b (aM (vU hb))).Z (la.2 b cur ty mm ht hb)⟩,ir.Z (uK.h ae)⟩}}
theorem Wz{iZ:iE}(iq:o.guard=dN){s x:Operand}(ho:o.op=.call {callee:=.builtin .append,args:=#[s,x],argTypes:=#[32,32]})(v:dV)(ek:Le ns k)(hs:a.eval s=v)(du:di B0 B w v ns)(g:Nat)(hx:a.eval x=.T g 1 1)(oz:yW B0 w nd cs)(tv:∀j u,cs[j]?=Y u->I w (Ad g j)=Y u)(hk:k<2^22)(hB:B<=U (Q w))(h:∀p' c' w',di B0 B w' (.S p' (k+1) c') (ns++[nd])->jG w w' (jB v)->Fr [69] w w'->wpList dG ops iZ rest (a.put o.dst (.S p' (k+1) c')) w'):wpList dG ops iZ (o::rest) a w:=by
 let⟨i,hi,ki,fy,gJ⟩:=og Tryz.infoNod;have ht:=du.uw;obtain⟨rs,h1,h2,h3,h4⟩:=du;have yO:J cs=8/\∀u∈cs,u.oneCell':=by obtain⟨P,V,H,iU,rfl,a1,a2,a3,a4⟩:=oz;obtain⟨_,_,rfl⟩:=a1.fO;obtain⟨_,_,rfl⟩:=a2.fO;obtain⟨_,_,rfl⟩:=a3.fO;obtain⟨_,_,rfl⟩:=a4.fO;exact⟨rfl,λu hu=>by simp at hu;obtain rfl|rfl|rfl|rfl|rfl|rfl|rfl|rfl:=hu<;>rfl⟩
 rw[aa ek]at h3;refine Fu iq 32 ho i 8 underlying32 hi ki fy gJ rfl aX v hs h3 g 1 1 cs hx yO.1 tv yO.2 kL ae hB ?_;intro v' w' gC hg _;have hf:Fr [69] w w':=Fr.grown hg λb hb=>by let⟨cur,hc⟩:=ht b hb;exact⟨cur,_,hc,ai⟩
 have sn:di B0 B w' v' (ns++[nd]):=RT.snoc h1 h2 h4 (yW.T hf aX aX) oz yO.1 (aa ek▸gC);obtain⟨p',c',rfl,-⟩:=RT.form sn;rw[eG,aa ek]at sn⊢;exact h p' c' w' sn hg hf
theorem dk5(h:ns[j]?=nd):jX (jT (j+1) ns) k=if j=k then jX (jT j ns) k else jX (jT j ns) k++[nd]:=by
 have m:=(bu.1 h).1;have i:J (jT j ns)=j:=by rw[te];omega
 rw[sE,h,Option.toList_some];by_cases e:j=k;{subst e;rw[aK rfl,ca7 ae,i,BQ,aT3 (l:=jT j ns) ae];simp};{rw[aJ e];by_cases o:k<j;{rw[List.eraseIdx_append_of_lt_length ae]};{rw[ca7 ae,i,aT3 (l:=jT j ns) ae,aT3 cg]}}
theorem bS3{n c:Nat}(em:Le ns m)(hN:O (kF B w (.S q m d) ns))(hm:Mg m):dQ dG 171 #[bS e g x t (.S p n c) (.S q m d),.I k] w λr w'=>∃p' c',r=dR (bS e g x t (.S p n c) (.S p' (J (jX ns k)) c'))/\di B (U (Q w)) w' (.S p' (J (jX ns k)) c') (jX ns k)/\Bw w w':=by
 let⟨W0,bG,b0,z0,C0,T0⟩:=bM w #[.U e,.U g,.U x,.I t,.S p n c,.S q m d] 34;let⟨W1,fo,b1,z1,C1,T1⟩:=bM W0 #[.U 0,.U 0,.U 0,.I 0,aq,aq] 34;rw[z0]at C1 T1 z1;have bW:=af (ah b0 b1);have HC:=br (C0.H ae b1) C1;have HT:=br ((b1.block _ ae).Z T0) T1;go_in;go_wp2;rw[<-bG,<-fo]
 go_loopw[5,6](λov Z wr=>∃(j:Nat)(L:List au)(M:Nat)(y:OA)(D:Nat),j<=m/\Z=.I j/\ov=.S y M D/\Le L M/\O (jX (jT j ns) k=L)/\O (di B (U (Q w)+2) wr (.S y M D) L)/\O (Below (U (Q w)+2) W1 wr)) (λ_ Z _=>m-(jN (intOf Z)))
 exact⟨0,[],0,dN,0,cT _,rfl,rfl,rfl,(by show _=_;simp),RT.nil _ _ _ _ _,aR _ _⟩;{
 obtain⟨j,L,M,y,D,hj,rfl,rfl,W,hL,ho,E⟩:=hrel;have zr:=E.size;have xU:M<2^22:=by have h1:=(Kk (jT j ns) k).length_le;have h2:=PK j ns;rw[aa hL,aa W]at h1;omega
 have R:=br (HC.1.H ae (E.h ae:Bw W1 wr)) (HC.2.H ae (E.h ae:Bw W1 wr));have s5:=R.1.1 5 _ rfl;by_cases aL:j<m;{
 have cM:=bR j m;obtain⟨nd,aG⟩:∃nd,ns[j]?=Y nd:=⟨_,bN (aa em▸aL)⟩;have bD:=dk5 (k:=k) aG;rw[aa hL]at bD;have il:=af bD;by_cases he:j=k;{
 have E1:O (jX (jT (j+1) ns) k=L):=by have:=aa il;rwa [aK he]at this
 have Gt:((j:Int) != (k:Int))=dF:=by simp;omega
 go_wp2;go_roundw;exact⟨j+1,L,M,y,D,ae,by go_num,rfl,W,E1,ho,E⟩;exact dh};{
 have E1:O (jX (jT (j+1) ns) k=L++[nd]):=by have:=aa il;rwa [aJ he]at this
 have Gt:((j:Int) != (k:Int)):=by simp;omega
 have ZS:Bw w wr:=bW.Z (E.h ae);obtain⟨gn,P,V,H,iU,rfl,-,-,c0,c1,c2,c3,c4,c5,c6,c7,tP,tV,tH,tU,-⟩:=di.at (hN.T (bH ZS)) aG;obtain⟨pP,cP,rfl⟩:=tP.fO;obtain⟨pV,cV,rfl⟩:=tV.fO;obtain⟨pH,cH,rfl⟩:=tH.fO;obtain⟨pU,cU,rfl⟩:=tU.fO;let⟨v3,X⟩:=aF (jA wr (dO #[.S pP (J nd.A) cP,.S pV (J nd.V) cV,.U nd.D,.I nd.M,.S pH (J nd.y) cH,.U nd.P,.U nd.F,.S pU (J nd.X) cU] 69));have N:=ij X;have HX:=dy (ho.T (bH N)) (show yW B v3 nd [.S pP (J nd.A) cP,.S pV (J nd.V) cV,.U nd.D,.I nd.M,.S pH (J nd.y) cH,.U nd.P,.U nd.F,.S pU (J nd.X) cU]from⟨_,_,_,_,rfl,tP.T (bH N),tV.T (bH N),tH.T (bH N),tU.T (bH N)⟩) (show aO v3 (U (Q wr)) _ by rw[X];exact aO.alloc wr _ _);have vR:=af λb e=>(ho.lt b e).1;have b3':=af N;have z3:=N.size;go_wp2_with(at_builtin;rw[<-X];refine Wz rfl rfl (.S y M D) W rfl HX.1 (U (Q wr)) rfl HX.2.1 HX.2.2.1 xU ae ?_);intro p' c' w' o2 dz _;rw[<-X]at dz;have b4:=af ((E.Z (b3'.h ae)).grown dz ae vR);have O2:=af o2;go_wp2;go_roundw;exact⟨j+1,L++[nd],M+1,p',c',ae,by go_num,rfl,af (by rw[eG,aa W];rfl),E1,O2,b4⟩;exact dh}};{have cM:=fG j m;have gq:=aa hL;rw[od (by rw[aa em];omega)]at gq;let⟨K0,kf⟩:=R.1;let⟨R0,rf⟩:=R.2;let⟨k0,k1,k2,k3,k4⟩:=bx0 K0;let⟨q0,q1,q2,q3,q4,q5⟩:=Bx R0;have Wn:=br ((E.block _ ae).Z HT.1) ((E.block _ ae).Z HT.2);go_wp2;subst gq;obtain rfl:=aa W;have f1:=qn (j:=5) (u:=.S y (J (jX ns k)) D) ⟨_,Wn.1⟩;have t1:(jS wr (Aw w 5) (.S y (J (jX ns k)) D)).heap[U (Q w)+1]?=_:=(fN _ _ _ _ (by show U (Q w)+1≠U (Q w);omega)).Z Wn.2;have f2:=vu (v0:=.U e) (v1:=.U g) (v2:=.U x) (v3:=.I t) (v4:=.S p n c) (v5:=.S y (J (jX ns k)) D) t1;have uK:=((bW.Z (E.h ae)).setCell (p:=(Aw w 5)) az (.S y (J (jX ns k)) D)).Z ((sY (U (Q w)+1) (.U e) (.U g) (.U x) (.I t) (.S p n c) (.S y (J (jX ns k)) D)).h ae);refine bO (v:=bS e g x t (.S p n c) (.S y (J (jX ns k)) D)) (by simp[results,results171,go_sem,q0,q1,q2,q3,q4,q5]) rfl ?_;exact⟨y,D,rfl,((ho.T f1.2).T f2).h ae,uK⟩}}
theorem ew.at{n c:Nat}(h:ew B w (.S p n c) ss Qs)(q:ss[i]?=s):∃g j,p=(Ad g 0)/\n=J ss/\n<=c/\Qs[i]?=Y j/\I w (Ad g (i*3))=dU s.1/\I w (Ad g (i*3+1))=dI s.2.1/\I w (Ad g (i*3+2))=Y j/\oO B w j s.2.2/\∀o,jF w (Ad g o)=dF:=by
 have D:=(bu.1 q).1;obtain⟨j,r⟩:∃j,Qs[i]?=Y j:=⟨_,bN (h.len▸D)⟩;have x:(ss.zip Qs)[i]?=Y (s,j):=by rw[Mr];exact⟨q,r⟩
 have y:J (ss.zip Qs)=J ss:=by rw[Uk,h.len];simp
 obtain⟨E,M,e,hc,-,u⟩:=h.row.form;rw[y]at e hc u;obtain⟨rfl,rfl,rfl⟩:=mg e;obtain⟨g,rfl⟩:=u ae;obtain⟨cs,-,he,m,hf⟩:=RT.at h.row x;unfold DE at he;subst he;exact⟨g,j,rfl,rfl,hc,r,m 0 _ rfl,m 1 _ rfl,m 2 _ rfl,h.uT i s j q r,hf⟩
def mZ(ss:List aC)(id:Int):Int:=match ss.findIdx? (λs=>s.1==id)with
 |some i=>i
 |none=>-1
theorem dj3{id:Int}(h:ss[j]?=Y s)(r:s.1=id)(o:∀(i:Nat)(s':aC),i<j->ss[i]?=s'->¬s'.1=id):mZ ss id=j:=by
 have m:=(bu.1 h);have:ss.findIdx? (λs=>s.1==id)=j:=by rw[Mu];refine⟨m.1,by rw[m.2];simp[r],λi u=>?_⟩;have:=o i _ u (bN (aM m.1));simpa using this
 rw[mZ,this]
theorem dj1{id:Int}(j:∀(i:Nat)(s':aC),ss[i]?=s'->¬s'.1=id):mZ ss id=-1:=by
 have:ss.findIdx? (λs=>s.1==id)=dN:=by rw[an5];intro x m;let⟨i,o⟩:=ji.1 m;simpa using j i x o
 rw[mZ,this]
theorem dg9{n c:Nat}(R:Le ss n){id:Int}(hS:O (ew B w (.S p n c) ss Qs))(hn:Mg n):dQ dG 107 #[bS e g x t (.S p n c) (.S q m d),.U id] w (Rb (.I (mZ ss id)) w):=by
 let⟨W0,W,X,z0,C0,T0⟩:=bM w #[.U e,.U g,.U x,.I t,.S p n c,.S q m d] 34;have V:=af X;have HC:=af C0;clear X C0 T0;go_in;go_wp2;rw[<-W];clear W
 go_loopw[5](λu wr=>∃j:Nat,j<=n/\u=.I j/\O (∀(i:Nat)(o:aC),i<j->ss[i]?=Y o->¬o.1=id)/\O (Bw W0 wr)) (λu _=>n-(jN (intOf u)))
 exact⟨0,cT _,rfl,(λi o h=>absurd h ae),aR _ _⟩;{
 obtain⟨j,hj,rfl,y,r⟩:=hrel;have s4:=(HC.H ae r).1 4 _ rfl;by_cases aL:j<n;{
 have cM:=bR j n;obtain⟨s,E⟩:∃s,ss[j]?=Y s:=⟨_,bN (aa R▸aL)⟩;have M:Bw w wr:=ah V r;obtain⟨gs,iZ,rfl,-,-,-,c0,-⟩:=ew.at (hS.T (bH M)) E;have N:=af M;have Z:=af E;clear E M;obtain⟨D,iJ,K⟩:=s;by_cases he:D=id;{subst he;have Gt:(D==D):=ai;go_wp2;go_ret;refine⟨?_,N⟩;rw[dj3 (aa Z) rfl (aa y)];rfl};{
 have Yt:O (∀(i:Nat)(o:aC),i<j+1->ss[i]?=Y o->¬o.1=id):=λi o hi h=>by by_cases e2:i=j;{subst e2;rw[aa Z]at h;cases h;exact he};{exact y i o ae h}
 go_wp2;go_roundw;exact⟨j+1,ae,by go_num,Yt,r⟩;exact dh}};{have cM:=fG j n;have HE:=af (dj1 (λi o h=>aa y i o (by have:=(bu.1 h).1;rw[aa R]at this;omega) h));have N:O (Bw w wr):=ah V r;go_wp2;go_ret;exact⟨by rw[aa HE];rfl,N⟩}}
theorem qg.tu(h:qg B w v l)(q:B'<=B):TU B' w v l:=by
 refine⟨h.1.rdu,?_,h.2,?_⟩;{intro b e;obtain⟨rfl,-⟩|⟨g,j,i,rfl,-,m,-⟩:=h.1.2;{simp[jB]at e};{simp only[jB,nJ]at e;subst e;exact⟨i,m⟩}};{intro b e;obtain⟨rfl,-⟩|⟨g,j,i,rfl,o,-⟩:=h.1.2;{simp[jB]at e};{simp only[jB,nJ]at e;subst e;exact fx q o}}
theorem di.Pk{g n cap:Nat}{m:au}(h:di B0 B w (.T g n cap) (ns.set k nd))(q:ns[k]?=m)(r:j<8)(u:dV)(nd':au)(o:∀w' P V H iU,TC B0 w' P nd.A->TC B0 w' V nd.V->TU B0 w' H nd.y->TU B0 w' iU nd.X->Fr [69] w w'->yW B0 w' nd' ([P,V,.U nd.D,.I nd.M,H,.U nd.P,.U nd.F,iU].set j u)):di B0 B (jS w (Ad g (k*8+j)) u) (.T g n cap) (ns.set k nd')/\Fr [69] w (jS w (Ad g (k*8+j)) u):=by
 have:=di.put h (i:=k) (nd:=nd) (by rw[vJ];simp[(bu.1 q).1]) r u nd' o;rwa [Uo]at this
theorem ax3{T:List TypeId}(hF:Fr T w wr)(u:Below B w wr)(x:U (Q w)<=b)(y:B<=U (Q w))(j:wr.heap[b]?=dO cur 34)(v0 v1 v2 v3 v4 v5:dV):Fr T w (fv wr b v0 v1 v2 v3 v4 v5)/\Below B w (fv wr b v0 v1 v2 v3 v4 v5)/\Fr [34] wr (fv wr b v0 v1 v2 v3 v4 v5):=by
 have i:=sY (w:=wr) b v0 v1 v2 v3 v4 v5;exact⟨⟨fx hF.1 i.size,λm cur r s j o=>(i.block m (aM (vU o))).Z (hF.2 m cur r s j o)⟩,u.Z (i.h ae),vu j⟩
theorem bs6{id:Int}(i:D.N[k]?=nd)(h:nd.y.contains id=dF):ko D k id=D:=by
 unfold ko;rw[i];simp only[h,Ir,Ap]
theorem cC4{id:Int}(hk:D.N[k]?=nd)(h:nd.y.contains id)(h2:kG nd.y id≠[]):ko D k id={D with N:=D.N.set k {nd with y:=kG nd.y id}}:=by
 unfold ko;rw[hk];simp only[h,pQ,aJ h2]
theorem cC6{id:Int}(hk:D.N[k]?=nd)(h:nd.y.contains id)(h2:kG nd.y id=[]):ko D k id={D with E:=wX D.E nd.X (3,nd.A),N:=D.N.set k {nd with y:=[],M:=0,P:=0,F:=0,X:=[]}}:=by
 unfold ko;rw[hk];simp only[h,pQ,aK h2];unfold kr;have db:=(bu.1 hk).1;simp only[vJ,db,pQ,Uo]
theorem cC3{n c:Nat}(en:Le ss n){id:Int}(hk:O (ns[k]?=nd))(hS:O (ew B w (.S p n c) ss Qs))(hN:O (kF B w (.S q m d) ns))(hB:B<=U (Q w))(hn:Mg n)(hm:Mg m)(hp:J nd.A<=2^20)(hw:J nd.X<=2^20)(hh:J nd.y<=2^20):dQ dG 169 #[bS e g x t (.S p n c) (.S q m d),.I k,.U id] w λr w'=>r=dR (bS e g x t (.S p n c) (.S q m d))/\(∃tJ,ew B w' (.S p n c) (ko ⟨e,g,x,t,ss,ns⟩ k id).E tJ)/\kF B w' (.S q m d) (ko ⟨e,g,x,t,ss,ns⟩ k id).N/\Fr [114,65,69] w w'/\Below B w w':=by
 obtain⟨gn,Pv,Vv,Hv,Uv,rfl,em,hmd,-,-,-,-,c4,-,-,-,-,-,tH,-,Fe⟩:=di.at hN hk;have hkm:k<m:=by rw[em];exact(bu.1 hk).1
 have be5:=bR k m;clear em;obtain⟨ph,ch,rfl⟩:=tH.fO;let⟨nh,eH⟩:=bL (J nd.y);rw[aa eH]at hh tH c4;have Ez:gn<U (Q w):=(hN.lt gn rfl).2;have R:=(hN.lt gn rfl).1;let⟨W0,bG,b0,z0,C0,T0⟩:=bM w #[.U e,.U g,.U x,.I t,.S p n c,.T gn m d] 34;let⟨W1,fo,b1,z1,C1,T1⟩:=bM W0 #[.U 0,.U 0,.U 0,.I 0,aq,aq] 34;rw[z0]at C1 T1 z1;have bW:=af (ah b0 b1);have k4:=λ(ob o2:Obj)=>aj (aj c4 ((aR _ w).alloc az ob)) (aH.alloc az o2);have HC:=br (C0.H ae b1) C1;have HT:=br ((b1.block _ ae).Z T0) T1;have Ht:=dy (hS.T (bH bW)) (hN.T (bH bW)) (tH.T (bH bW));have E:=λ(v:G)(hv:Bw W1 v)(o:Nat)=>((ah bW hv).frozen (p:=(Ad gn o)) Ez).Z (Fe o);have FZ:=af E;have Oz:=af c4;clear b0 b1 C0 C1 T0 T1 c4 Fe tH E;go_in
 go_wp21
 rw[<-bG,<-fo];let⟨bo,DB⟩:=bL (nd.y.contains id);refine cK (aY0 eH Ht.2.2.1 hh DB) λw1 ao=>?_;have L8:=ao.size;have pL:=br (HC.1.H ae ao) (HC.2.H ae ao);have M:=br ((ao.block _ ae).Z HT.1) ((ao.block _ ae).Z HT.2);have qi:=dy (Ht.1.T (bH ao)) (Ht.2.1.T (bH ao)) (Ht.2.2.T (bH ao));have jy:=af (ah bW ao);have c4:=aj Oz jy;have FZ1:=af (λ(v:G)(hv:Bw w1 v)(o:Nat)=>aa FZ v (ah ao hv) o);have s5:=pL.1.1 5 _ rfl;cases bo;{let⟨K0,kf⟩:=pL.1;let⟨R0,rf⟩:=pL.2;let⟨k0,k1,k2,k3,k4⟩:=bx0 K0;let⟨q0,q1,q2,q3,q4,q5⟩:=Bx R0;go_wp2;have f2:=vu (v0:=.U e) (v1:=.U g) (v2:=.U x) (v3:=.I t) (v4:=.S p n c) (v5:=.T gn m d) M.2;have uK:=jy.Z ((sY (w:=w1) (U (Q w)+1) (.U e) (.U g) (.U x) (.I t) (.S p n c) (.T gn m d)).h ae);refine bO (v:=bS e g x t (.S p n c) (.T gn m d)) (by simp[results,results169,go_sem,q0,q1,q2,q3,q4,q5]) rfl ?_;rw[bs6 (aa hk) (aa DB)];exact⟨rfl,⟨_,qi.1.T f2⟩,qi.2.1.T f2,Fr.H uK,uK.h hB⟩};{
 go_wp21
 refine(cd5 eH qi.2.2.1 hh).h ?_;rintro r w2⟨pl,cl,rfl,ol,y⟩;let⟨L,eL⟩:=bL (kG nd.y id);rw[aa eL]at ol;let⟨nl,gM⟩:=bL (J L);rw[aa eL,aa gM];rw[aa gM]at ol;have To:=y.size;have N:=br (pL.1.H ae y) (pL.2.H ae y);have u:=br ((y.block _ ae).Z M.1) ((y.block _ ae).Z M.2);have Ov:=dy (qi.1.T (bH y)) (qi.2.1.T (bH y)) (ol.tu (B':=B) (aM jy.size));have mL:=af (ah jy y);have E:=aa FZ1 w2 y;have s5:=N.1.1 5 _ rfl;have Rj:=E (k*8+4);obtain⟨Vl,P',V',H',U',e',-,-,-,-,-,d3,d4,d5,d6,-⟩:=di.at Ov.2.1 hk;obtain⟨rfl,-⟩:=By e';have aN:¬gn=U (Q w):=ae;have fi7:¬gn=U (Q w)+1:=ae;let⟨N4,F4⟩:=di.put Ov.2.1 hk (j:=4) ae (.S pl nl cl) {nd with y:=L} (λw' P V H iU h1 h2 h3 h4 hf=>⟨P,V,.S pl nl cl,iU,rfl,h1,h2,Ov.2.2.T hf,h4⟩);let⟨K0,kf⟩:=N.1;let⟨R0,rf⟩:=N.2;let⟨k0,k1,k2,k3,k4⟩:=bx0 K0;let⟨q0,q1,q2,q3,q4,q5⟩:=Bx R0;by_cases h0:nl=0;{
 subst h0;obtain rfl:L=[]:=vI.1 gM;have fz3:=E (k*8+3);have fz5:=E (k*8+5);have fz6:=E (k*8+6);have NK:=hk;let⟨N4',F4'⟩:=(⟨N4,F4⟩:_/\_);let⟨N3,F3⟩:=di.Pk N4 hk (j:=3) ae (.I 0) {nd with y:=[],M:=0} (λw' P V H iU h1 h2 h3 h4 hf=>⟨P,V,H,iU,rfl,h1,h2,h3,h4⟩);let⟨N5,F5⟩:=di.Pk N3 hk (j:=5) ae (.U 0) {nd with y:=[],M:=0,P:=0} (λw' P V H iU h1 h2 h3 h4 hf=>⟨P,V,H,iU,rfl,h1,h2,h3,h4⟩);let⟨N6,F6⟩:=di.Pk N5 hk (j:=6) ae (.U 0) {nd with y:=[],M:=0,P:=0,F:=0} (λw' P V H iU h1 h2 h3 h4 hf=>⟨P,V,H,iU,rfl,h1,h2,h3,h4⟩);let⟨X,hX⟩:=aF (jS (jS (jS (jS w2 (Ad gn (k*8+4)) (.S pl 0 cl)) (Ad gn (k*8+3)) (.I 0)) (Ad gn (k*8+5)) (.U 0)) (Ad gn (k*8+6)) (.U 0));rw[<-hX]at N6 F6;have FX:=af (((F4.Z F3).Z F5).Z F6);have NX:=af N6;have SX:=af (Ov.1.T FX);have BX:O (Below B w X):=by rw[hX];exact(((((mL.h hB).setCell (p:=(Ad gn _)) R _).setCell (p:=(Ad gn _)) R _).setCell (p:=(Ad gn _)) R _).setCell (p:=(Ad gn _)) R _)
 have FW:=af ((Fr.H mL:Fr [114,65,69] w w2).Z (FX.sub ai));have zX:=FX.1;have Z:=FX.2 _ _ _ _ aX u.1;have W:=FX.2 _ _ _ _ aX u.2;have wS:=N.1.eh (Z.Z u.1.C);have Te:=N.2.eh (W.Z u.2.C);have HX:=jq Z W wS Te
 go_wp21
 rw[<-hX];refine(ah1 e g x t (p:=p) (c:=c) (q:=Y (Ad gn 0)) (m:=m) (d:=d) (Qs:=Qs) en (k:=k) 3 {nd with y:=[],M:=0,P:=0,F:=0} (af (by rw[vJ];simp[(bu.1 (aa hk)).1])) B X SX NX ae hn hm hp hw).h ?_;rintro r w3⟨rfl,⟨Q3,Ck⟩,sO,tY,aE⟩;rw[Uo]at sO;have t0:=tY.2 _ _ _ _ aX HX.1;have t1:=tY.2 _ _ _ _ aX HX.2.1;have C0:=HX.2.2.1.eh (t0.Z HX.1.C);have C1:=HX.2.2.2.eh (t1.Z HX.2.1.C);have HE:=jq Ck sO (FW.Z tY) (BX.Z aE);have HT3:=br t0 t1;have zG:=af C1;obtain⟨K0,kf⟩:=C0;obtain⟨R0,rf⟩:=C1;let⟨k0,k1,k2,k3,k4,k5⟩:=Bx K0;let⟨q0,q1,q2,q3,q4,q5⟩:=Bx R0;go_wp2;let⟨fA,bA,gA⟩:=ax3 HE.2.2.1 HE.2.2.2 az hB HT3.1 (.U e) (.U g) (.U x) (.I t) (.S p n c) (.T gn m d);let⟨fB,bB,gB⟩:=ax3 fA bA (an4 _) hB ((Da ae).Z HT3.2) (.U e) (.U g) (.U x) (.I t) (.S p n c) (.T gn m d);refine bO (v:=bS e g x t (.S p n c) (.T gn m d)) (by simp[results,results169,go_sem,q0,q1,q2,q3,q4,q5]) rfl ?_;rw[cC6 (aa hk) (aa DB) (aa eL)];exact⟨rfl,⟨_,(HE.1.T gA).T gB⟩,(HE.2.1.T gA).T gB,fB,bB⟩};{have Kv:¬((nl:Int)=0):=ae;go_wp2;have t1:=F4.2 _ _ _ _ aX u.2;let⟨fB,bB,gB⟩:=ax3 ((Fr.H mL:Fr [114,65,69] w w2).Z (F4.sub ai)) ((mL.h hB).setCell (p:=(Ad gn _)) R _) (an4 _) hB t1 (.U e) (.U g) (.U x) (.I t) (.S p n c) (.T gn m d);refine bO (v:=bS e g x t (.S p n c) (.T gn m d)) (by simp[results,results169,go_sem,q0,q1,q2,q3,q4,q5]) rfl ?_;rw[cC4 (aa hk) (aa DB) (by rw[aa eL];intro e;rw[e]at gM;exact h0 gM.C)];refine⟨rfl,⟨_,(Ov.1.T F4).T gB⟩,?_,fB,bB⟩;simp only[aa eL];exact di.T N4 gB}}
def BX(w:G)(b:Nat)(vs:List dV):Prop:=aO w b vs/\∃i,w.heap[b]?=dO i 34
theorem BX.T{T:List TypeId}(h:BX w b vs)(hf:Fr T w w')(ht:34∉T:=by decide):BX w' b vs:=by
 obtain⟨h1,cur,h2⟩:=h;have h3:=hf.2 _ _ _ _ ht h2;exact⟨h1.eh (h3.Z h2.C),cur,h3⟩
theorem BX.lt(h:BX w b vs):b<U (Q w):=by
 obtain⟨m,j,i⟩:=h;exact vU i
theorem BX.H(h:BX w b vs)(i:Bw w w'):BX w' b vs:=h.T (bH i) (by simp)
theorem BX.put(h:BX w b [o0,o1,o2,o3,o4,o5])(v0 v1 v2 v3 v4 v5:dV):BX (fv w b v0 v1 v2 v3 v4 v5) b [v0,v1,v2,v3,v4,v5]:=⟨Xf h.1,ak6 h.2⟩
theorem BX.nS(h:BX w b' vs)(i:b'≠b)(v0 v1 v2 v3 v4 v5:dV):BX (fv w b v0 v1 v2 v3 v4 v5) b' vs:=⟨ak7 h.1 i,h.2.imp λj hc=>(Da i).Z hc⟩
theorem BX.fin{T:List TypeId}(h:BX wr b vs)(hF:Fr T w wr)(i:Below B w wr)(j:U (Q w)<=b)(m:B<=U (Q w))(v0 v1 v2 v3 v4 v5:dV):Fr T w (fv wr b v0 v1 v2 v3 v4 v5)/\Below B w (fv wr b v0 v1 v2 v3 v4 v5)/\Fr [34] wr (fv wr b v0 v1 v2 v3 v4 v5):=by
 obtain⟨-,q,o⟩:=h;exact ax3 hF i j m o _ _ _ _ _ _
theorem BX.WU(h:BX w b' vs)(i:b'≠b):BX (jS w (Ad b j) u) b' vs:=⟨h.1.eh (fN _ _ _ _ i),h.2.imp λm hc=>(fN _ _ _ _ i).Z hc⟩
theorem BX.cw2{T:List TypeId}(h:BX wr b vs)(hF:Fr T w wr)(y:Below B w wr)(E:U (Q w)<=b)(M:B<=U (Q w))(u:dV):Fr T w (jS wr (Ad b j) u)/\Below B w (jS wr (Ad b j) u)/\Fr [34] wr (jS wr (Ad b j) u):=by
 have i:Below b wr (jS wr (Ad b j) u):=aH.setCell (p:=(Ad b j)) az _;exact⟨⟨fx hF.1 i.size,λo m s x D r=>(i.block o (aM (vU r))).Z (hF.2 o m s x D r)⟩,y.Z (i.h ae),(qn h.2).2⟩
theorem BX.cells(h:BX w b [v0,v1,v2,v3,v4,v5]):I w (Ad b 0)=v0/\I w (Ad b 1)=v1/\I w (Ad b 2)=v2/\I w (Ad b 3)=v3/\I w (Ad b 4)=v4/\I w (Ad b 5)=v5/\∀o,jF w (Ad b o)=dF:=
 ⟨h.1.1 0 _ rfl,h.1.1 1 _ rfl,h.1.1 2 _ rfl,h.1.1 3 _ rfl,h.1.1 4 _ rfl,h.1.1 5 _ rfl,h.1.2⟩
theorem sQ(w:G)(v0 v1 v2 v3 v4 v5:dV):∃W,W=jA w (dO #[v0,v1,v2,v3,v4,v5] 34)/\Bw w W/\U (Q W)=U (Q w)+1/\BX W (U (Q w)) [v0,v1,v2,v3,v4,v5]:=by
 let⟨W,q,o,m,j,i⟩:=bM w #[v0,v1,v2,v3,v4,v5] 34;exact⟨W,q,o,m,j,_,i⟩
theorem yY(w:G):∃W,W=jA w (dO #[.U 0,.U 0,.U 0,.I 0,aq,aq] 34)/\Bw w W/\U (Q W)=U (Q w)+1/\BX W (U (Q w)) [.U 0,.U 0,.U 0,.I 0,aq,aq]:=sQ w _ _ _ _ _ _
theorem eC1(w:G)(D:SD)(p:OA)(n c:Nat)(q:OA)(m d:Nat):∃W,W=jA w (dO #[.U D.e,.U D.g,.U D.x,.I D.t,.S p n c,.S q m d] 34)/\Bw w W/\U (Q W)=U (Q w)+1/\BX W (U (Q w)) [.U D.e,.U D.g,.U D.x,.I D.t,.S p n c,.S q m d]:=sQ w _ _ _ _ _ _
def NBo(nd:au):Prop:=J nd.A<=2^20/\J nd.X<=2^20/\J nd.y<=2^20
def NB(ns:List au):Prop:=∀i∈ns,NBo i
theorem NB.set(h:NB ns)(j:NBo nd):NB (ns.set k nd):=λx i=>by
 obtain i|rfl:=PF i;{exact h x i};{exact j}
theorem NB.erase(h:NB ns)(k:Nat):NB (jX ns k):=λx i=>h x (Ms i)
theorem aJ6(hk:ns[k]?=nd)(kd:Int):kr ⟨e,g,x,t,ss,ns⟩ k kd=⟨e,g,x,t,wX ss nd.X (kd,nd.A),ns.set k {nd with X:=[]}⟩:=by
 unfold kr;simp only[hk]
theorem uM{α:Type}{l:List α}{a:α}(i:l[k]?=a)(b:α):(l.set k b)[k]?=b:=by
 rw[vJ,aK rfl,aK (bu.1 i).1]
theorem cC5(hk:ns[k]?=nd)(id:Int):∃m j o,ko ⟨e,g,x,t,ss,ns⟩ k id=⟨e,g,x,t,m,j⟩/\J m=J ss/\J j=J ns/\j[k]?=Y o/\o.D=nd.D/\(NB ns->NB j):=by
 by_cases h:nd.y.contains id=dY;{by_cases h2:kG nd.y id=[];{exact⟨_,_,_,cC6 hk h h2,WG _ _ _,rF,uM hk _,rfl,λi=>i.set ⟨(i nd (bq hk)).1,ai,ai⟩⟩};{exact⟨_,_,_,cC4 hk h h2,rfl,rF,uM hk _,rfl,λi=>i.set ⟨(i nd (bq hk)).1,(i nd (bq hk)).2.1,fx (Mb) (i nd (bq hk)).2.2⟩⟩}};{exact⟨_,_,_,bs6 hk (by simpa using h),rfl,rfl,hk,rfl,λi=>i⟩}
def sP(id:Int)(nd:au):au:={nd with X:=kG nd.X id}
def mw(id:Int):Nat->Nat->SD->SD
 |0,_,D=>D
 |f+1,k,D=>match(ko D k id).N[k]? with
  |none=>D
  |some nd=>if nd.D=id then mw id f k (wY (kr (ko D k id) k 2) k)else mw id f (k+1) (ko D k id)
def Dc(id:Int)(ss:List aC):List aC:=ss.filter λs=>!(s.1==id)
def xz(D:SD)(id:Int):SD:={mw id (J D.N) 0 {D with N:=D.N.map (sP id)}with E:=Dc id (mw id (J D.N) 0 {D with N:=D.N.map (sP id)}).E}
theorem et0{id:Int}(h:NBo nd):NBo (sP id nd):=⟨h.1,fx (Mb) h.2.1,h.2.2⟩
theorem NB.map(h:NB ns)(id:Int):NB (ns.map (sP id)):=λx j=>by
 obtain⟨y,i,rfl⟩:=fg.1 j;exact et0 (h y i)
theorem bI7{iZ:iE}(iq:o.guard=dN){s x:Operand}(ho:o.op=.call {callee:=.builtin .append,args:=#[s,x],argTypes:=#[31,31]}){zs:List (aC×dV)}{z:aC×dV}(ek:Le zs k)(hs:a.eval s=v)(du:RT DE 65 3 B w v zs)(g:Nat)(hx:a.eval x=.T g 1 1)(hq:z.2.oneCell')(tv:∀(j:Nat)u,[.U z.1.1,.I z.1.2.1,z.2][j]?=Y u->I w (Ad g j)=Y u)(hk:k<2^22)(hB:B<=U (Q w))(h:∀p' c' w',RT DE 65 3 B w' (.S p' (k+1) c') (zs++[z])->jG w w' (jB v)->Fr [65] w w'->wpList dG ops iZ rest (a.put o.dst (.S p' (k+1) c')) w'):wpList dG ops iZ (o::rest) a w:=by
 let⟨i,hi,ki,fy,gJ⟩:=og Tryz.infoSes;have ht:=du.uw;obtain⟨rs,h1,h2,h3,h4⟩:=du;rw[aa ek]at h3;refine Fu iq 31 ho i 3 underlying31 hi ki fy gJ rfl aX v hs h3 g 1 1 _ hx rfl tv (λu hu=>by simp at hu;obtain rfl|rfl|rfl:=hu;rfl;rfl;exact hq) kL ae hB ?_;intro v' w' gC hg _;have hf:Fr [65] w w':=Fr.grown hg λb hb=>by let⟨cur,hc⟩:=ht b hb;exact⟨cur,_,hc,ai⟩
 have sn:RT DE 65 3 B w' v' (zs++[z]):=RT.snoc h1 h2 h4 (λ_ _ h=>h) rfl rfl (aa ek▸gC);obtain⟨p',c',rfl,-⟩:=RT.form sn;rw[eG,aa ek]at sn⊢;exact h p' c' w' sn hg hf
theorem ew.filter(h:ew B w v ss Qs)(f:aC->Bool)(hr:RT DE 65 3 B w v' ((ss.zip Qs).filter λz=>f z.1)):ew B w v' (ss.filter f) (((ss.zip Qs).filter λz=>f z.1).map Prod.snd):=by
 have M:ss.filter f=((ss.zip Qs).filter λz=>f z.1).map Prod.fst:=by
  have:((ss.zip Qs).map Prod.fst)=ss:=by rw[List.map_fst_zip (h.len▸fq _)]
  conv=>lhs;rw[<-this]
  rw[List.filter_map];rfl
 have W:(ss.zip Qs).map Prod.snd=Qs:=by rw[List.map_snd_zip (h.len▸fq _)]
 have N:Qs.Pairwise λq y=>∀b,jB q=Y b->jB y≠Y b:=by rw[FO];intro i j u m R b x;exact h.nS i j _ _ b ae (bN u) (bN m) x
 have o:(((ss.zip Qs).filter λz=>f z.1).map Prod.snd).Pairwise λq y=>∀b,jB q=Y b->jB y≠Y b:=by rw[<-W]at N;exact N.sublist (List.filter_sublist.map _)
 refine⟨by rw[M];simp,?_,λi s q V r=>?_,λi j q y b R r E x=>?_⟩;{rw[M,<-List.unzip_fst,<-List.unzip_snd,List.zip_unzip];exact hr};{rw[M,qI]at V;rw[qI]at r;obtain⟨z,S,rfl⟩:=IE.1 V;rw[S]at r;cases r;let⟨j,m⟩:=ji.1 (Kj.1 (bq S)).1;rw[Mr]at m;exact h.uT j _ _ m.1 m.2};{rw[FO]at o;obtain⟨u,rfl⟩:=bu.1 r;obtain⟨m,rfl⟩:=bu.1 E;obtain D|D:=Nat.lt_or_gt_of_ne R;{exact o i j u m D b x};{exactλe=>o j i m u D b e x}}
theorem ee9{zs:List (aC×dV)}{z:aC×dV}(h:zs[k]?=Y z)(f:aC->Bool):((jT (k+1) zs).filter λz=>f z.1)=if f z.1 then((jT k zs).filter λz=>f z.1)++[z]else(jT k zs).filter λz=>f z.1:=by
 rw[sE,h,an6];by_cases e:f z.1<;>simp[e]
theorem cE5{id:Int}{i:SD}(o:k<m)(hd:ko D k id=i)(j:i.N[k]?=nd):mw id (m-k) k D=if nd.D=id then mw id (m-1-k) k (wY (kr i k 2) k)else mw id (m-(k+1)) (k+1) i:=by
 obtain⟨f,hf⟩:∃f,m-k=f+1:=⟨m-k-1,ae⟩;rw[hf,mw,hd,j,show m-1-k=f by omega,show m-(k+1)=f by omega]
def aX0(b:Nat)(w:G):Nat:=match I w (Ad b 5)with
 |some (jC _ m _)=>m
 |_=>0
theorem aW9(h:BX w b [v0,v1,v2,v3,v4,.S q m d]):aX0 b w=m:=by
 unfold aX0;rw[h.1.1 5 _ rfl]
theorem ew0{n c:Nat}(en:Le ss n)(em:Le ns m){id:Int}(hS:O (ew B w (.S p n c) ss Qs))(hN:O (kF B w (.S q m d) ns))(hNB:O (NB ns))(hB:B<=U (Q w))(hn:Mg n)(hm:Mg m)(eD:O (xz ⟨e,g,x,t,ss,ns⟩ id=D)):dQ dG 109 #[bS e g x t (.S p n c) (.S q m d),.U id] w λr w'=>∃p' c' q' d',r=dR (bS e g x t (.S p' (J D.E) c') (.S q' (J D.N) d'))/\(∃tJ,ew B w' (.S p' (J D.E) c') D.E tJ)/\kF B w' (.S q' (J D.N) d') D.N/\Fr [114,65,69] w w'/\Below B w w':=by
 let⟨W0,bG,b0,z0,C0⟩:=sQ w (.U e) (.U g) (.U x) (.I t) (.S p n c) (.S q m d);let⟨W1,fo,b1,z1,C1⟩:=yY W0;rw[z0]at C1;have HC:=br (C0.H b1) C1;have bW:=af (ah b0 b1);have zW:U (Q W1)=U (Q w)+2:=ae;go_in;go_wp2;rw[<-bG,<-fo]
 go_loopw[5](λkv wr=>∃k:Nat,k<=m/\kv=.I k/\U (Q w)+2<=U (Q wr)/\O (kF B wr (.S q m d) (rj (sP id) k ns))/\O (ew B wr (.S p n c) ss Qs)/\O (BX wr (U (Q w)) [.U e,.U g,.U x,.I t,.S p n c,.S q m d]/\BX wr (U (Q w)+1) [.U 0,.U 0,.U 0,.I 0,aq,aq])/\O (Fr [114,65,69] w wr)/\O (Below B w wr)) (λkv _=>m-(jN (intOf kv)))
 exact⟨0,cT _,rfl,ae,(by show kF _ _ _ _;simpa[rj]using hN.T (bH (aa bW))),hS.T (bH (aa bW)),aa HC,Fr.H (aa bW),bW.h hB⟩;{
 obtain⟨k,hk,rfl,zr,AY,qc,rW,la,ir⟩:=hrel;have s5:=rW.1.1.1 5 _ rfl;by_cases aL:k<m;{
 have cM:=bR k m;obtain⟨nd,aG⟩:∃nd,ns[k]?=Y nd:=⟨_,bN (by rw[aa em];exact aL)⟩;have iV:=cw0 (sP id) aG;have E1:=af (cv9 (sP id) aG);obtain⟨gn,P,V,H,iU,rfl,-,-,-,-,-,-,-,-,-,c7,-,-,-,tU,Fe⟩:=di.at AY iV;obtain⟨pu,cu,rfl⟩:=tU.fO;let⟨nu,eU⟩:=bL (J nd.X);have mU:nu<=2^20:=by rw[<-aa eU];exact(aa hNB nd (bq aG)).2.1
 rw[aa eU]at tU c7;have HK:=af iV;have xu:B<=gn:=(AY.lt gn rfl).1;have AI:gn<U (Q wr):=(AY.lt gn rfl).2;have Ez:¬U (Q w)=gn:=λe=>by obtain⟨-,cur,h1⟩:=rW.1;let⟨Fc,h2⟩:=AY.uw gn rfl;rw[e,h2]at h1;simp at h1
 let⟨vA,de⟩:=aF wr.drew;have cQ:=mW de;have zA:=cQ.size;have GA:=af (λ(v:G)(hv:Bw vA v)=>aD (aj s5 (ah cQ hv)) (aD (aj c7 (ah cQ hv)) (aD (λo=>((ah cQ hv).frozen (p:=(Ad gn o)) AI).Z (Fe o)) (ah cQ hv))));have UA:=af (tU.T (bH cQ))
 go_wp21
 refine fK (λw'=>I w' (Aw w 5)=dK gn m d) (by rw[<-de];exact(aa GA vA aH).1) λhS=>?_;rw[<-de]at hS⊢;clear de cQ s5;refine jh 0 1 2 3 4 5 6 7 hS ?_;refine tn 9 hS ?_;refine ft 8 λKK hK=>?_;have c7:=(aa GA _ aH).2.1;go_simp;refine bQ hK (by exact(aa GA _ aH).1) λhS=>?_;clear hK KK c7;refine ft 10 λKK hK=>?_;refine CK (cd5 (p:=pu) (c:=cu) (n:=nu) (l:=nd.X) eU (id:=id) (w:=vA) UA.1 mU) ?_;rintro r v1⟨W,cl,rfl,ol,ao⟩;refine⟨_,rfl,?_⟩;let⟨M,gM⟩:=bL (J (kG nd.X id));rw[aa gM]at ol⊢;have OL:=af (ol.tu (B':=B) ae);have jy:=af ao;refine bQ hK (by exact(aa GA v1 ao).1) λhS=>?_;clear hK KK ol ao;refine gh 11 12 hS ?_;refine ft 13 λKK hK=>?_;let⟨s5,c7,fz,bv⟩:=aa GA v1 jy;have fz7:=fz (k*8+7);have RJ:=af bv;clear bv;go_simp;let⟨N2,F2⟩:=di.put (AY.T (bH RJ)) HK (j:=7) ae (.S W M cl) (sP id nd) (λw' P V H iU h1 h2 h3 h4 hf=>⟨P,V,H,.S W M cl,rfl,h1,h2,h3,OL.T hf⟩);rw[<-aa E1]at N2;let⟨Z,hZ⟩:=aF (jS v1 (Ad gn (k*8+7)) (.S W M cl));have BZ:Below B w Z:=by rw[hZ];exact(ir.Z (RJ.h (aM ir.size))).setCell (p:=(Ad gn _)) xu _
 have sZ:I Z (Aw w 5)=dK gn m d:=by rw[hZ];exact(gF (fN _ _ _ _ Ez) _).Z s5
 rw[<-hZ]at N2 F2⊢;have RZ:=dy N2 F2 BZ;have zv:=RJ.size;have zZ:U (Q w)+2<=U (Q Z):=aM F2.1;refine bQ hK (by exact sZ) λhS=>?_;clear hK KK hZ N2 F2 BZ sZ s5 c7 fz fz7;refine ga ?_;clear hS;go_wp2;go_roundw;exact⟨k+1,ae,by go_num,zZ,RZ.1,(qc.T (bH (aa RJ))).T RZ.2.1,⟨(rW.1.H (aa RJ)).T RZ.2.1,(rW.2.H (aa RJ)).T RZ.2.1⟩,(la.Z (Fr.H (aa RJ))).Z (RZ.2.1.sub ai),RZ.2.2⟩;exact dh};{
 have cM:=fG k m;have AZ:=aa AY;rw[cw1 _ (by rw[aa em];omega)]at AZ;have Ht:=af AZ;clear AZ;let⟨DF,eF⟩:=bL (mw id m 0 ⟨e,g,x,t,ss,ns.map (sP id)⟩);have Vw:O (D={DF with E:=Dc id DF.E}):=by show _=_;rw[<-aa eD];unfold xz;simp only[aa em];rw[aa eF]
 go_wp2
 go_loopw[6](λkv wr=>∃(k y N:Nat)(qk:OA)(Ab:List aC)(Mi:List au)(Qk:List dV),k<=y/\y<=m/\kv=.I k/\U (Q w)+2<=U (Q wr)/\Le Ab n/\Le Mi y/\O (NB Mi)/\O (mw id (y-k) k ⟨e,g,x,t,Ab,Mi⟩=DF)/\O (kF B wr (.S qk y N) Mi)/\O (ew B wr (.S p n c) Ab Qk)/\O (BX wr (U (Q w)) [.U e,.U g,.U x,.I t,.S p n c,.S qk y N]/\BX wr (U (Q w)+1) [.U 0,.U 0,.U 0,.I 0,aq,aq])/\O (Fr [114,65,69] w wr)/\O (Below B w wr)) (λkv wr=>aX0 (U (Q w)) wr-(jN (intOf kv)))
 exact⟨0,m,d,q,ss,_,Qs,cT _,fq _,rfl,zr,en,af (by rw[iH];exact aa em),af (hNB.map id),eF,Ht,qc,rW,la,ir⟩;{
 clear AY qc rW la ir Ht s5 zr hk aL cM;obtain⟨k,y,N,qk,Ab,Mi,Qk,hk,hmk,rfl,zr,Vp,Ln,cq4,eK,AY,qc,rW,la,ir⟩:=hrel;have hlen:=af (aW9 rW.1);have k0:=rW.1.cells;by_cases aL:k<y;{
 have cM:=bR k y;obtain⟨nd,aG⟩:∃nd,Mi[k]?=Y nd:=⟨_,bN (by rw[aa Ln];exact aL)⟩;have hb:=aa cq4 nd (bq aG);let⟨uR,J6,gS,hd,l1,l2,iV,UM,bd2⟩:=cC5 (e:=e) (g:=g) (x:=x) (t:=t) (ss:=Ab) aG id;have GR:=aa eK;rw[cE5 aL hd iV]at GR;obtain⟨gn,-,-,-,-,rfl,-,-,-⟩:=di.at AY aG;have ao:=hb.1;have ay:=hb.2.1;have aE:=hb.2.2;have HD:=af (cC3 (e:=e) (g:=g) (x:=x) (t:=t) (p:=p) (n:=n) (c:=c) (q:=Y (Ad gn 0)) (m:=y) (d:=N) (ss:=Ab) (Qs:=Qk) (ns:=Mi) Vp (k:=k) (id:=id) (nd:=nd) (af aG) (B:=B) (w:=wr) qc AY ae hn ae ao ay aE);rw[hd]at HD;have HX1:=nF l1 l2 iV (bd2 (aa cq4)) GR
 go_wp21
 refine HD.h ?_;rintro r w1⟨rfl,⟨Q1,QP⟩,AZ,yN,ao⟩;let⟨l1,l2,iV,bd2,GR⟩:=aa HX1;have fm6:=af QP;have fm9:=af AZ;obtain⟨Vl,-,-,-,-,eg,-,-,-,-,c2,-⟩:=di.at AZ iV;obtain⟨rfl,-⟩:=By eg;have nY:=br (rW.1.T yN) (rW.2.T yN);have F1:=af (la.Z yN);have B1:=af (ir.Z ao);have z1:U (Q w)+2<=U (Q w1):=aM yN.1;have Ez:¬U (Q w)=gn:=λe=>by obtain⟨-,cur,h1⟩:=rW.1;let⟨Fc,h2⟩:=AY.uw gn rfl;rw[e,h2]at h1;simp at h1
 have fk4:¬gn=U (Q w):=λe=>Ez e.C;let⟨X,hX⟩:=aF (fv w1 (U (Q w)) (.U e) (.U g) (.U x) (.I t) (.S p n c) (.T gn y N));let⟨fX,bX,gX⟩:=nY.1.fin F1 B1 az hB (.U e) (.U g) (.U x) (.I t) (.S p n c) (.T gn y N);have BXX:=aD (nY.1.put (.U e) (.U g) (.U x) (.I t) (.S p n c) (.T gn y N)) (nY.2.nS (b:=U (Q w)) ae (.U e) (.U g) (.U x) (.I t) (.S p n c) (.T gn y N));have zX:U (Q X)=U (Q w1):=by rw[hX];exact Pj
 rw[<-hX]at fX bX gX BXX;have SX:=af (QP.T gX);have NX:=af (di.T AZ gX);have Ot:=dy fX bX BXX;unfold fv at hX;have k0:=nY.1.cells;have JC:=dy l1 l2 bd2;have Tc:=af iV;have EK2:=af GR;by_cases how:gS.D=id;{
 have Gt:(gS.D==id):=by simp[how]
 have ZN:=aa EK2;rw[aK how,aJ6 (aa Tc),wY]at ZN;have EK3:=af ZN;have hb:=JC.2.2 gS (bq (aa Tc));have HT:=af (ah1 e g x t (p:=p) (n:=n) (c:=c) (q:=Y (Ad gn 0)) (m:=y) (d:=N) (ss:=uR) (Qs:=Q1) (ns:=J6) (af (JC.1.Z Vp)) (k:=k) 2 gS Tc B X SX NX ae hn ae hb.1 hb.2.1)
 go_wp21
 rw[<-hX];refine HT.h ?_;rintro r w2⟨rfl,⟨Q2,rR⟩,px,KG,ay⟩;have Fo:=br (Ot.2.2.1.T KG) (Ot.2.2.2.T KG);have F2:=af (Ot.1.Z KG);have B2:=af (Ot.2.1.Z ay);have z2:U (Q w)+2<=U (Q w2):=aM KG.1;let⟨iY,hY⟩:=aF (fv w2 (U (Q w)) (.U e) (.U g) (.U x) (.I t) (.S p n c) (.T gn y N));let⟨fY,bY,gY⟩:=Fo.1.fin F2 B2 az hB (.U e) (.U g) (.U x) (.I t) (.S p n c) (.T gn y N);have BXY:=aD (Fo.1.put (.U e) (.U g) (.U x) (.I t) (.S p n c) (.T gn y N)) (Fo.2.nS (b:=U (Q w)) ae (.U e) (.U g) (.U x) (.I t) (.S p n c) (.T gn y N));have zY:U (Q iY)=U (Q w2):=by rw[hY];exact Pj
 rw[<-hY]at fY bY gY BXY;have SY:=af (rR.T gY);have NY:=af (di.T px gY);have HYY:=dy fY bY BXY;unfold fv at hY;have k0:=Fo.1.cells;have HR:=af (bS3 (e:=e) (g:=g) (x:=x) (t:=t) (p:=p) (n:=n) (c:=c) (q:=Y (Ad gn 0)) (m:=y) (d:=N) (af (by rw[rF];exact JC.2.1.Z (aa Ln))) (k:=k) (B:=B) (w:=iY) NY ae)
 go_wp21
 rw[<-hY];refine HR.h ?_;rintro r w3⟨p3,c3,rfl,sO,aE⟩;obtain⟨Xl,ZF⟩:∃Xl,O (jX (J6.set k {gS with X:=[]}) k=Xl):=⟨_,af rfl⟩;have aX1:O (J Xl=y-1):=by show _=_;have h1:=JC.2.1.Z Ln;rw[<-aa ZF,PJ,rF,aK ae];omega
 rw[aa ZF,aa aX1]at sO;rw[aa ZF,aa aX1];have EK4:=aa EK3;simp only[aa ZF]at EK4;have L5:=br (HYY.2.2.1.H aE) (HYY.2.2.2.H aE);have F3:=af (HYY.1.Z (Fr.H aE));have B3:=af (HYY.2.1.Z (aE.h ae));have z3:=aE.size;let⟨Z,hZ⟩:=aF (fv w3 (U (Q w)) (.U e) (.U g) (.U x) (.I t) (.S p n c) (.S p3 (y-1) c3));let⟨fZ,bZ,gZ⟩:=L5.1.fin F3 B3 az hB (.U e) (.U g) (.U x) (.I t) (.S p n c) (.S p3 (y-1) c3);have Wq:=aD (L5.1.put (.U e) (.U g) (.U x) (.I t) (.S p n c) (.S p3 (y-1) c3)) (L5.2.nS (b:=U (Q w)) ae (.U e) (.U g) (.U x) (.I t) (.S p n c) (.S p3 (y-1) c3));have zZ:U (Q Z)=U (Q w3):=by rw[hZ];exact Pj
 rw[<-hZ]at fZ bZ gZ Wq;have SZ:=af ((SY.T (bH aE)).T gZ);have NZ:=af ((di.T sO gZ).h (by omega:B<=U (Q iY)));have LM:=dy fZ bZ Wq;have dB9:=af (aW9 Wq.1);have dO6:O (NB Xl):=by show NB _;rw[<-aa ZF];have hb:=JC.2.2 gS (bq (aa Tc));exact(NB.set (nd:={gS with X:=[]}) JC.2.2 ⟨hb.1,cT _,hb.2.2⟩).erase k
 have EK5:=af EK4;have dC1:O (J (wX uR gS.X (2,gS.A))=n):=by show _=_;rw[WG];exact JC.1.Z (aa Vp)
 unfold fv at hZ;have k0:=L5.1.cells;go_wp2;rw[<-hZ];go_roundw;exact⟨k,y-1,c3,p3,_,Xl,Q2,ae,ae,rfl,ae,dC1,aX1,dO6,EK5,NZ,SZ,af LM.2.2,af LM.1,af LM.2.1⟩
 case measure=>(
 rw[aa dB9,aa hlen];simp[intOf];omega)}
 {
 have Gt:(gS.D==id)=dF:=by simp[how]
 have ZN:=aa EK2;rw[aJ how]at ZN;have EK3:=af ZN;have dC0:=af (aW9 Ot.2.2.1);go_wp2;rw[<-hX];go_roundw;exact⟨k+1,y,N,_,uR,J6,Q1,ae,ae,by go_num,ae,af (JC.1.Z Vp),af (JC.2.1.Z Ln),af (JC.2.2),EK3,NX,SX,af Ot.2.2,af Ot.1,af Ot.2.1⟩
 case measure=>(
 rw[aa dC0,aa hlen];simp[intOf];omega)}}
 {
 have cM:=fG k y;have GR:=aa eK;rw[show y-k=0 by omega,mw]at GR;have eD3:O (D=⟨e,g,x,t,Dc id Ab,Mi⟩):=by show _=_;rw[aa Vw,<-GR]
 obtain⟨W5,eW5⟩:∃W5,O (W5=wr):=⟨_,af rfl⟩;obtain⟨wz,ewz⟩:∃wz,O (wz=U (Q W5)):=⟨_,af rfl⟩;have H5:=aD (aa qc) (aD (aa AY) (aD (aa rW) (aD (aa la) (aa ir))));have z5:=zr;rw[<-aa eW5]at H5 z5;rw[<-aa ewz]at z5;have G5:=af H5;go_wp2
 go_loopw[7,8](λlv iv w9=>∃(j M cl:Nat)(W:OA)(L:List (aC×dV)),j<=n/\iv=.I j/\lv=.S W M cl/\wz<=U (Q w9)/\Le L M/\O (((jT j (Ab.zip Qk)).filter λz=>!(z.1.1==id))=L)/\O (RT DE 65 3 wz w9 (.S W M cl) L)/\O (Below wz W5 w9)) (λ_ iv _=>n-(jN (intOf iv)))
 exact⟨0,0,0,dN,[],cT _,rfl,rfl,by rw[aa ewz,aa eW5];exact fq _,af rfl,af ai,RT.nil _ _ _ _ _,(by show Below _ _ _;rw[aa eW5];exact aR _ _)⟩;{
 obtain⟨j,M,cl,W,L,hj,rfl,rfl,z9,gM,hL,hR,me⟩:=hrel;have cR:Bw W5 wr:=by have:=aa me;rwa [aa ewz]at this
 have H9:=jq (G5.1.T (bH cR)) (G5.2.1.T (bH cR)) (G5.2.2.1.1.H cR) (G5.2.2.1.2.H cR);have Wj:=br (G5.2.2.2.1.Z (Fr.H cR)) (G5.2.2.2.2.Z (cR.h (aM G5.2.2.2.2.size)));have k0:=H9.2.2.1.cells;by_cases aL:j<n;{
 have cM:=bR j n;obtain⟨s,hs⟩:∃s,Ab[j]?=Y s:=⟨_,bN (by rw[aa Vp];exact aL)⟩;obtain⟨gs,iZ,rfl,-,-,hQ,c0,c1,c2,sq,-⟩:=ew.at H9.1 hs;obtain⟨pq,cq,rfl,-⟩:=sq.form;have hz:(Ab.zip Qk)[j]?=Y (s,.S pq (J s.2.2) cq):=by rw[Mr];exact⟨hs,hQ⟩
 have bD:=ee9 hz (λs=>!(s.1==id));rw[aa hL]at bD;have il:=af bD;have xU:M<2^22:=by have h1:=Ul (λz:aC×dV=>!(z.1.1==id)) (jT j (Ab.zip Qk));have h2:=PK j (Ab.zip Qk);rw[aa hL,aa gM]at h1;omega
 by_cases he:s.1=id;{
 have E1:O (((jT (j+1) (Ab.zip Qk)).filter λz=>!(z.1.1==id))=L):=by have:=aa il;show _=_;simpa[he]using this
 have Gt:(s.1 != id)=dF:=by simp[he]
 go_wp2;go_roundw;exact⟨j+1,M,cl,W,L,ae,by go_num,rfl,z9,gM,E1,hR,me⟩;exact dh};{
 have E1:O (((jT (j+1) (Ab.zip Qk)).filter λz=>!(z.1.1==id))=L++[(s,.S pq (J s.2.2) cq)]):=by have:=aa il;show _=_;simpa[he]using this
 have Gt:(s.1 != id):=by simp[he]
 obtain⟨v3,gx,b3,z3,C3,-⟩:=bM wr #[.U s.1,.I s.2.1,.S pq (J s.2.2) cq] 65;have R3:=af (RT.T hR (bH b3) aX (λ_ _ h=>h));have B3:=af b3;have zG:=af C3;have vR:=af λb e=>(hR.lt b e).1;go_wp2_with(at_builtin;rw[<-gx];refine bI7 rfl rfl (B:=wz) (v:=.S W M cl) (zs:=L) (z:=(s,.S pq (J s.2.2) cq)) (k:=M) gM rfl (aa R3) (U (Q wr)) rfl rfl zG.1 xU ae ?_);intro p' c' w' o2 dz _;rw[<-gx]at dz;have b4:=af ((me.Z (B3.h ae)).grown dz ae vR);have O2:=af o2;have z4:=b4.size;go_wp2;go_roundw;exact⟨j+1,M+1,c',p',_,ae,by go_num,rfl,aM (aa ewz),af (by rw[eG,aa gM];rfl),E1,O2,b4⟩;exact dh}};{
 have cM:=fG j n;have hL':=aa hL;rw[od (by rw[Uk,aa Vp];omega)]at hL';let⟨q0,q1,q2,q3,q4,q5,qf⟩:=H9.2.2.2.cells;have SF:=ew.filter (v':=.S W M cl) H9.1 (λs=>!(s.1==id)) (by rw[hL'];exact RT.h (aa hR) ae);have lF:J (Dc id Ab)=M:=by have:=SF.len;rw[hL',iH,aa gM]at this;exact this.C
 have HSF:=af SF;have HLF:=af lF;go_wp2;rw[aa eD3];simp only[aa HLF,aa Ln];let⟨fA,bA,gA⟩:=H9.2.2.1.cw2 (j:=4) Wj.1 Wj.2 az hB (.S W M cl);let⟨fB,bB,gB⟩:=(H9.2.2.2.WU (b:=U (Q w)) (j:=4) (u:=.S W M cl) ae).fin fA bA (an4 _) hB (.U e) (.U g) (.U x) (.I t) (.S W M cl) (.S qk y N);refine bO (v:=bS e g x t (.S W M cl) (.S qk y N)) (by simp[results,results109,go_sem,q0,q1,q2,q3,q4,q5]) rfl ?_;exact⟨W,cl,qk,N,rfl,⟨_,(HSF.T gA).T gB⟩,(H9.2.1.T gA).T gB,fB,bB⟩}}}}}}
abbrev mB(k i e g n:Int)(D N E:dV):dV:=jP #[.I k,.U i,.U e,.U g,.I n,D,N,E]
abbrev aV:dV:=aq
def RX(w:G)(b:Nat)(vs:List dV):Prop:=aO w b vs/\∃i,w.heap[b]?=dO i 43
theorem RX.T{T:List TypeId}(h:RX w b vs)(hf:Fr T w w')(ht:43∉T:=by decide):RX w' b vs:=by
 obtain⟨h1,cur,h2⟩:=h;have h3:=hf.2 _ _ _ _ ht h2;exact⟨h1.eh (h3.Z h2.C),cur,h3⟩
theorem RX.H(h:RX w b vs)(i:Bw w w'):RX w' b vs:=h.T (bH i) (by simp)
def oR(w:G)(b:Nat)(v0 v1 v2 v3 v4 v5 v6 v7:dV):G:=jS (jS (fv w b v0 v1 v2 v3 v4 v5) (Ad b 6) v6) (Ad b 7) v7
theorem uV:Below b w (oR w b v0 v1 v2 v3 v4 v5 v6 v7):=((sY (w:=w) b v0 v1 v2 v3 v4 v5).setCell (p:=(Ad b 6)) az _).setCell (p:=(Ad b 7)) az _
theorem RX.put{o0 o1 o2 o3 o4 o5 s o7:dV}(h:RX w b [o0,o1,o2,o3,o4,o5,s,o7])(v0 v1 v2 v3 v4 v5 v6 v7:dV):RX (oR w b v0 v1 v2 v3 v4 v5 v6 v7) b [v0,v1,v2,v3,v4,v5,v6,v7]/\Fr [43] w (oR w b v0 v1 v2 v3 v4 v5 v6 v7):=by
 obtain⟨hc,i,m⟩:=h;have r:=ak6 ⟨i,m⟩ (v0:=v0) (v1:=v1) (v2:=v2) (v3:=v3) (v4:=v4) (v5:=v5);have q:=qn (j:=6) (u:=v6) r;have o:=qn (j:=7) (u:=v7) q.1;exact⟨⟨(((((((hc.dt 0 ai v0).dt 1 ai v1).dt 2 ai v2).dt 3 ai v3).dt 4 ai v4).dt 5 ai v5).dt 6 ai v6).dt 7 ai v7,o.1⟩,((vu m).Z q.2).Z o.2⟩
theorem RX.cells(h:RX w b [v0,v1,v2,v3,v4,v5,v6,v7]):I w (Ad b 0)=v0/\I w (Ad b 1)=v1/\I w (Ad b 2)=v2/\I w (Ad b 3)=v3/\I w (Ad b 4)=v4/\I w (Ad b 5)=v5/\I w (Ad b 6)=v6/\I w (Ad b 7)=v7/\∀o,jF w (Ad b o)=dF:=
 ⟨h.1.1 0 _ rfl,h.1.1 1 _ rfl,h.1.1 2 _ rfl,h.1.1 3 _ rfl,h.1.1 4 _ rfl,h.1.1 5 _ rfl,h.1.1 6 _ rfl,h.1.1 7 _ rfl,h.1.2⟩
theorem DO(w:G)(v0 v1 v2 v3 v4 v5 v6 v7:dV):∃W,W=jA w (dO #[v0,v1,v2,v3,v4,v5,v6,v7] 43)/\Bw w W/\U (Q W)=U (Q w)+1/\RX W (U (Q w)) [v0,v1,v2,v3,v4,v5,v6,v7]:=by
 let⟨W,q,o,m,j,i⟩:=bM w #[v0,v1,v2,v3,v4,v5,v6,v7] 43;exact⟨W,q,o,m,j,_,i⟩
theorem aX7{k:Int}:dQ dG 23 #[.I k] w (Rb (mB k 0 0 0 0 aV aV aV) w):=by
 go_in;go_wp2;exact bO (v:=mB k 0 0 0 0 aV aV aV) (by simp[results,results23,go_sem]) rfl ⟨rfl,aH.alloc az _⟩
abbrev Xd(t1 t2 t3 d1 d2:Nat)(ps:String)(k:Int):iQ:=#[{dst:=Y d1,op:=Op.load 34 (Operand.tmp t1),type:=34,pos:=ps,after:=#[],guard:=dN},
 {dst:=Y d2,op:=Op.call {callee:=Callee.value (Operand.func 23),args:=#[Operand.const (Value.int jV k)],argTypes:=#[3]},type:=43,pos:=ps,after:=#[],guard:=dN},
 {dst:=dN,op:=Op.store 34 (Operand.tmp t2) (Operand.tmp d1),type:=0,pos:=ps,after:=#[{on:=0,ground:=Ground.data},{on:=1,ground:=Ground.chain},{on:=0,ground:=Ground.phase},{on:=1,ground:=Ground.textOnly Departure.lateStoresUnsure}],guard:=dN},
 {dst:=dN,op:=Op.store 43 (Operand.tmp t3) (Operand.tmp d2),type:=0,pos:=ps,after:=#[{on:=1,ground:=Ground.data},{on:=2,ground:=Ground.chain},{on:=0,ground:=Ground.phase},{on:=1,ground:=Ground.phase},{on:=2,ground:=Ground.phase}],guard:=dN}]
theorem aN6(t1:Nat){s j:Nat}{k:Int}{iZ:iE}(N:Nat){n c:Nat} (hf:Region.free .any (Xd t1 t2 t3 s j ps k) (Array.replicate 4 dF) 0)(e1:a.tmps[t1]?.getD jQ=Pz N)(e2:∀v u,((a.put s v).put j u).tmps[t2]?.getD jQ=Pz b1)(e3:∀v u,((a.put s v).put j u).tmps[s]?.getD jQ=v)(e4:∀v u,((a.put s v).put j u).tmps[t3]?.getD jQ=Pz b2)(e5:∀v u,((a.put s v).put j u).tmps[j]?.getD jQ=u)(h0:BX w N [.U e,.U g,.U x,.I t,.S p n c,.S q m d])(h1:BX w b1 [o0,o1,o2,o3,o4,o5])(h2:RX w b2 [r0,r1,r2,r3,r4,r5,r6,r7])(aN:N≠b1)(qO:B<=b1)(fw:B<=b2)(h:∀w',BX w' b1 [.U e,.U g,.U x,.I t,.S p n c,.S q m d]->RX w' b2 [.I k,.U 0,.U 0,.U 0,.I 0,aV,aV,aV]->Fr [34,43] w w'->Below B w w'->iZ .normal ((a.put s (bS e g x t (.S p n c) (.S q m d))).put j (mB k 0 0 0 0 aV aV aV)) w'):Code.wp dG (Code.region i (Xd t1 t2 t3 s j ps k) dY) iZ a w:=by
 unfold Xd at hf⊢;refine Xv ?_;have M:Bw w w.drew:=aH.drew;have Z:=dy (h0.H M) (h1.H M) (h2.H M);refine am9 (S:=λw'=>BX w' N [.U e,.U g,.U x,.I t,.S p n c,.S q m d]) aU Z.1 (λy=>?_);let⟨vA,de⟩:=aF w.drew;rw[<-de]at y Z M⊢;clear de;refine Iy (i:=0) (oi:=_) (v:=bS e g x t (.S p n c) (.S q m d)) (by simp only[uB,vE];rfl) aU hf aU (λ_ _ _ h=>h) (Or.L ⟨rfl,?_⟩) y ?_;{intro w' hw;let⟨k0,k1,k2,k3,k4,k5,kf⟩:=hw.cells;go_simp};refine ft 1 λW hK=>?_;refine js (aX7) ?_;rintro r v1⟨rfl,V⟩;refine⟨_,rfl,?_⟩;refine hK.out _ _ (y.H V) (λy=>?_);clear hK W;have H1:=br (Z.2.1.H V) (Z.2.2.H V);have B1:=af (ah M V);clear Z M V;let⟨a2,pZ⟩:=aF ((a.put s (bS e g x t (.S p n c) (.S q m d))).put j (mB k 0 0 0 0 aV aV aV));refine ft 2 λW hK=>?_;have e2':=e2 (bS e g x t (.S p n c) (.S q m d)) (mB k 0 0 0 0 aV aV aV);have e3':=e3 (bS e g x t (.S p n c) (.S q m d)) (mB k 0 0 0 0 aV aV aV);have e4':=e4 (bS e g x t (.S p n c) (.S q m d)) (mB k 0 0 0 0 aV aV aV);have e5':=e5 (bS e g x t (.S p n c) (.S q m d)) (mB k 0 0 0 0 aV aV aV);have H2:=h;rw[<-pZ]at e2' e3' e4' e5'⊢;rw[show(a.put s (bS e g x t (.S p n c) (.S q m d))).put j (mB k 0 0 0 0 aV aV aV)=a2 from pZ.C]at H2;clear e1 e2 e3 e4 e5 h pZ;let⟨k0,k1,k2,k3,k4,k5,kf⟩:=H1.1.cells;go_simp;let⟨X,D⟩:=aF (fv v1 b1 (.U e) (.U g) (.U x) (.I t) (.S p n c) (.S q m d));have bX:Below b1 v1 X:=D▸sY _ _ _ _ _ _ _;have nY:BX X b1 [.U e,.U g,.U x,.I t,.S p n c,.S q m d]:=D▸H1.1.put _ _ _ _ _ _;have BX0:BX X N [.U e,.U g,.U x,.I t,.S p n c,.S q m d]:=D▸y.nS aN _ _ _ _ _ _;have fX:Fr [34] v1 X:=by obtain⟨-,cur,ht⟩:=H1.1;rw[D];exact vu ht
 have Hk:=H1.2.T fX;unfold fv at D;rw[<-D];refine hK.out _ _ BX0 (λy=>?_);clear hK W D BX0 k0 k1 k2 k3 k4 k5 kf;refine ft 3 λW hK=>?_;let⟨k0,k1,k2,k3,k4,k5,k6,k7,kf⟩:=Hk.cells;go_simp;let⟨Fh,fY⟩:=Hk.put (.I k) (.U 0) (.U 0) (.U 0) (.I 0) aV aV aV;have bY:=uV (w:=X) (b:=b2) (v0:=.I k) (v1:=.U 0) (v2:=.U 0) (v3:=.U 0) (v4:=.I 0) (v5:=aV) (v6:=aV) (v7:=aV);let⟨iY,hY⟩:=aF (oR X b2 (.I k) (.U 0) (.U 0) (.U 0) (.I 0) aV aV aV);rw[<-hY]at Fh fY bY;unfold oR fv at hY;rw[<-hY];refine hK.out _ _ (y.T fY) (λy=>?_);clear hK W hY;refine ga ?_;exact H2 iY (nY.T fY) Fh ((Fr.H B1).Z ((fX.sub ai).Z (fY.sub ai))) ((B1.h (aM h1.lt)).Z ((bX.h qO).Z (bY.h fw)))
structure RP where
 k:Int
 i:Int
 e:Int
 g:Int
 n:Int
 qB:LI
 nms:List LI
 pG:List Ev
def ka:RP:=⟨0,0,0,0,0,[],[],[]⟩
def kP(k:Int):RP:=⟨k,0,0,0,0,[],[],[]⟩
def xJ(D:SD):SD×RP:=if 50<=J D.E then(D,kP 11)else if 4611686018427387904<=D.x then(D,kP 12)else({D with x:=D.x+1,E:=D.E++[(D.x+1,D.t+10,[])]},{ka with i:=D.x+1,n:=D.t+10})
def ek4(w:G)(l:LI)(c:List dV):Prop:=∃P,c=[P]/\TB w P l
abbrev TN(B:Nat)(w:G)(v:dV)(l:List LI):Prop:=RT ek4 22 1 B w v l
def QR(B:Nat)(w w':G)(r:Ending)(D:SD)(R:RP):Prop:=∃p c q d m j Ev o,r=dR (dT #[bS D.e D.g D.x D.t (.S p (J D.E) c) (.S q (J D.N) d),mB R.k R.i R.e R.g R.n m j Ev])/\ew B w' (.S p (J D.E) c) D.E o/\kF B w' (.S q (J D.N) d) D.N/\TB w' m R.qB/\TN B w' j R.nms/\oO B w' Ev R.pG/\Fr [114,65,69] w w'/\Below B w w'
theorem Fr.low{T:List TypeId}(h:Fr T w w1)(j:Below (U (Q w)) w1 w'):Fr T w w':=⟨fx h.1 j.size,λb i o m q hc=>(j.block b (vU hc)).Z (h.2 b i o m q hc)⟩
theorem QR.num{n c m d:Nat}(r:Le ss n)(y:Le ns m)(D:ew B w1 (.S p n c) ss Qs)(E:kF B w1 (.S q m d) ns)(hF:Fr [114,65,69] w w1)(M:Below B w w1)(f:Fr [34,43] w1 w')(b:Below (U (Q w)) w1 w')(j:B<=U (Q w))(k i a h s:Int):QR B w w' (dR (dT #[bS e g x t (.S p n c) (.S q m d),mB k i a h s aV aV aV])) ⟨e,g,x,t,ss,ns⟩ ⟨k,i,a,h,s,[],[],[]⟩:=by
 refine⟨p,c,q,d,aV,aV,aV,Qs,by simp only[aa r,aa y],?_,?_,TB.nil _,RT.nil _ _ _ _ _,RT.nil _ _ _ _ _,hF.low b,M.Z (b.h j)⟩;{simp only[aa r];exact D.T f};{simp only[aa y];exact di.T E f}
theorem ew.df5(h:ew B w v ss Qs)(hf:Fr [65] w w')(E D:Int)(hr:RT DE 65 3 B w' v' (ss.zip Qs++[((E,D,[]),aV)])):ew B w' v' (ss++[(E,D,[])]) (Qs++[aV]):=by
 have x:=h.len;refine⟨by simp[x],by rw[List.zip_append x.C];exact hr,λi s r q hq=>?_,λi j r V b N hq m M=>?_⟩;{
 by_cases y:i<J ss;{rw[qw y]at q;rw[qw ae]at hq;exact(h.uT i s r q hq).T hf};{
 have S:i=J ss:=by have:=(bu.1 q).1;simp at this;omega
 subst S;rw[rG az,BQ]at q;rw[rG ae,x,BQ]at hq;simp at q hq;subst q hq;exact RT.nil _ _ _ _ _}};{
 by_cases y:i<J Qs;{
 rw[qw y]at hq;by_cases R:j<J Qs;{rw[qw R]at m;exact h.nS i j r V b N hq m M};{
 rw[rG ae]at m;have e:j-(J Qs)=0:=by have:=(bu.1 m).1;simp at this;omega
 rw[e]at m;simp at m;subst m;simp[jB]}};{
 rw[rG ae]at hq;have e:i-(J Qs)=0:=by have:=(bu.1 hq).1;simp at this;omega
 rw[e]at hq;simp at hq;subst hq;simp[jB]at M}}
theorem dn1{tm:iA}(hr:fn.results=#[.cell t2 34,.cell t3 43])(V:tm[t2]?.getD jQ=Pz b1)(S:tm[t3]?.getD jQ=Pz b2)(R:BX w b1 [v0,v1,v2,v3,v4,v5])(N:RX w b2 [r0,r1,r2,r3,r4,r5,r6,r7]):(results fn tm).run dG w=.ok (dT #[jP #[v0,v1,v2,v3,v4,v5],jP #[r0,r1,r2,r3,r4,r5,r6,r7]]) w:=by
 let⟨M,E,D,B,y,x,X⟩:=R.cells;let⟨u,s,r,q,o,m,j,i,W⟩:=N.cells;simp[results,hr,go_sem,V,S,M,E,D,B,y,x,u,s,r,q,o,m,j,i]
theorem rq(t1 t2 t3 d1 d2:Nat)(k:Int)(hrs:fn.results=#[.cell t2 34,.cell t3 43]){i:Nat}{ps:String}{iZ:iE}{a:Act}{w0:G}{b0:Nat}{n c m d:Nat}{R:SD×RP}(h0:BX w b0 [.U e,.U g,.U x,.I t,.S p n c,.S q m d])(h1:BX w b1 [o0,o1,o2,o3,o4,o5])(h2:RX w b2 [r0,r1,r2,r3,r4,r5,r6,r7])(en:Le ss n)(em:Le ns m)(hS:ew B w (.S p n c) ss Qs)(hN:kF B w (.S q m d) ns)(hF:Fr [114,65,69] w0 w)(ir:Below B w0 w)(hB:B<=U (Q w0))(E:O ((⟨e,g,x,t,ss,ns⟩,kP k)=R))(aN:b0≠b1:=by omega)(qO:U (Q w0)<=b1:=by omega)(fw:U (Q w0)<=b2:=by omega)(hd:a.defers=[]:=by rfl)(hf:Region.free .any (Xd t1 t2 t3 d1 d2 ps k) (Array.replicate 4 dF) 0:=by kernel_rfl)(e1:a.tmps[t1]?.getD jQ=Pz b0:=by rfl)(e2:∀v u,((a.put d1 v).put d2 u).tmps[t2]?.getD jQ=Pz b1:=by exactλ_ _=>rfl)(e3:∀v u,((a.put d1 v).put d2 u).tmps[d1]?.getD jQ=v:=by exactλ_ _=>rfl)(e4:∀v u,((a.put d1 v).put d2 u).tmps[t3]?.getD jQ=Pz b2:=by exactλ_ _=>rfl)(e5:∀v u,((a.put d1 v).put d2 u).tmps[d2]?.getD jQ=u:=by exactλ_ _=>rfl)(hQ:∀a' w',bodyPost dG fn (λr w'=>QR B w0 w' r R.1 R.2) .ret a' w'->iZ .normal a' w':=by(intro _ _ h;go_wp2;exact h)):Code.wp dG (Code.region i (Xd t1 t2 t3 d1 d2 ps k) dY) iZ a w:=by
 refine aN6 t1 b0 hf e1 e2 e3 e4 e5 h0 h1 h2 aN qO fw λw' q1 q2 f b=>hQ _ _ ?_;refine bO (dn1 hrs (e2 _ _) (e4 _ _) q1 q2) hd ?_;rw[<-aa E];exact QR.num (e:=e) (g:=g) (x:=x) (t:=t) en em hS hN hF ir f b hB k 0 0 0 0
theorem bS0{iZ:iE}(i5 i6 t2 t3 d1 d2:Nat){ps':String}(pR:Region.ready md ops listed=[i5])(iC:Region.ready md ops (jI listed i5 dY)=[i6])(sH:Region.ready md ops (jI (jI listed i5 dY) i6 dY)=[])(uI:ops[i5]?=Y {dst:=dN,op:=Op.store 34 (Operand.tmp t2) (Operand.tmp d1),type:=0,pos:=ps,after:=A5,guard:=dN})(ho6:ops[i6]?=Y {dst:=dN,op:=Op.store 43 (Operand.tmp t3) (Operand.tmp d2),type:=0,pos:=ps',after:=A6,guard:=dN})(b1 b2:Nat)(e g x t:Int)(p:OA)(n c:Nat)(q:OA)(m d:Nat)(k i h s z:Int)(dp:OA)(dn dc:Nat)(np:OA)(nn nc:Nat)(vp:OA)(vn vc:Nat) (e2:a.tmps[t2]?.getD jQ=Pz b1)(e3:a.tmps[d1]?.getD jQ=bS e g x t (.S p n c) (.S q m d))(e4:a.tmps[t3]?.getD jQ=Pz b2)(e5:a.tmps[d2]?.getD jQ=mB k i h s z (.S dp dn dc) (.S np nn nc) (.S vp vn vc))(h1:BX w b1 [o0,o1,o2,o3,o4,o5])(h2:RX w b2 [r0,r1,r2,r3,r4,r5,r6,r7])(Rg:b1<b2)(qc:∀w',Below b1 w w'->Fr [34,43] w w'->S w')(hQ:∀w',BX w' b1 [.U e,.U g,.U x,.I t,.S p n c,.S q m d]->RX w' b2 [.I k,.U i,.U h,.U s,.I z,.S dp dn dc,.S np nn nc,.S vp vn vc]->Fr [34,43] w w'->Below b1 w w'->iZ .normal a w'):wpAnyH dG md ops iZ S 2 listed a w:=by
 refine Ug pR ai (Uf uI (λKK hK=>?_) fI);let⟨k0,k1,k2,k3,k4,k5,kf⟩:=h1.cells;go_simp;let⟨X,hX⟩:=aF (fv w b1 (.U e) (.U g) (.U x) (.I t) (.S p n c) (.S q m d));have bX:Below b1 w X:=hX▸sY _ _ _ _ _ _ _;have nY:=h1.put (.U e) (.U g) (.U x) (.I t) (.S p n c) (.S q m d);have fX:Fr [34] w X:=by obtain⟨-,cur,ht⟩:=h1;rw[hX];exact vu ht
 rw[<-hX]at nY;have Hk:=h2.T fX;unfold fv at hX;rw[<-hX];refine hK.out _ _ (qc X bX (fX.sub ai)) (λhS=>?_);clear hK KK hX k0 k1 k2 k3 k4 k5 kf;refine Ug iC ai (Uf ho6 (λKK hK=>?_) fI);let⟨k0,k1,k2,k3,k4,k5,k6,k7,kf⟩:=Hk.cells;go_simp;let⟨Fh,fY⟩:=Hk.put (.I k) (.U i) (.U h) (.U s) (.I z) (.S dp dn dc) (.S np nn nc) (.S vp vn vc);have bY:=uV (w:=X) (b:=b2) (v0:=.I k) (v1:=.U i) (v2:=.U h) (v3:=.U s) (v4:=.I z) (v5:=.S dp dn dc) (v6:=.S np nn nc) (v7:=.S vp vn vc);let⟨iY,hY⟩:=aF (oR X b2 (.I k) (.U i) (.U h) (.U s) (.I z) (.S dp dn dc) (.S np nn nc) (.S vp vn vc));rw[<-hY]at Fh fY bY;unfold oR fv at hY;rw[<-hY];have bY':=bX.Z (bY.h (an9 Rg));refine hK.out _ _ (qc iY bY' ((fX.sub ai).Z (fY.sub ai))) (λhS=>?_);clear hK KK hY;refine Xr sH ?_ _;exact hQ iY (nY.T fY) Fh ((fX.sub ai).Z (fY.sub ai)) bY'
def xZ(nd:au)(id:Int):Bool:=dD (nd.M=0)||(dD (J nd.y=1)&&dD (nd.y.headD 0=id))
theorem ed3{P V H iU:dV}{n c:Nat}(q:Le nd.y n){id:Int}(r:O (RdU w (.S p n c) nd.y))(N:P.oneCell')(E:V.oneCell')(M:iU.oneCell'):dQ dG 174 #[jP #[P,V,.U nd.D,.I nd.M,.S p n c,.U nd.P,.U nd.F,iU],.U id] w (Rb (jO (xZ nd id)) w):=by
 go_in;by_cases hm:nd.M=0;{
 have hf:xZ nd id:=by simp[xZ,hm]
 rw[hf];have D:(nd.M==0):=by simp[hm]
 go_wp2;go_ret;exact⟨rfl,aH.alloc az _⟩};{
 have D:(nd.M==0)=dF:=by simp[hm]
 by_cases j:n=1;{
 obtain⟨x,m⟩:∃x,nd.y=[x]:=ca6.1 (by rw[aa q,j]);obtain⟨b,o,rfl,hc⟩:=r.at (k:=0) (x:=x) (by rw[m];rfl);rw[Mt]at hc;have R:=λs:Obj=>aj hc ((aR _ w).alloc az s);have hf:O (xZ nd id=dD (x=id)):=by show _=_;simp[xZ,hm,m]
 subst j;have y:((1:Int)==1):=aX;by_cases i:x=id;{
 subst i;have u:(x==x):=ai;go_wp2;go_ret;have B:xZ nd x:=by rw[aa hf];simp
 exact⟨by rw[B];rfl,aH.alloc az _⟩};{
 have u:(x==id)=dF:=by simpa using i
 go_wp2;go_ret;exact⟨by rw[aa hf,Cb i];rfl,aH.alloc az _⟩}};{
 have hf:O (xZ nd id=dF):=by show _=_;simp[xZ,hm,aa q,j]
 have y:((n:Int)==1)=dF:=by simp;omega
 go_wp2;go_ret;exact⟨by rw[aa hf];rfl,aH.alloc az _⟩}}
def yF(D:SD)(k:Nat)(s i:Int):SD×RP:=match D.N[k]? with
 |none=>(D,ka)
 |some nd=>if nd.y.contains s then(D,kP 9)
  else if i=2 then(if nd.M=1 then(D,kP 9)else({D with N:=D.N.set k {nd with M:=2,y:=lY nd.y s}},ka))
  else if nd.M≠0 then(D,kP 9)else if 4611686018427387904<=D.g then(D,kP 12)
  else({D with g:=D.g+1,N:=D.N.set k {nd with M:=1,y:=[s],P:=D.e,F:=D.g+1}},{ka with e:=D.e,g:=D.g+1})
abbrev rD(K S:Int)(P:dV)(F:Int)(V:dV)(E iG:Int):dV:=jP #[.I K,.U S,P,.I F,V,.U E,.U iG]
theorem BX.eh(h:BX w b vs)(i:w'.heap[b]?=w.heap[b]?):BX w' b vs:=⟨h.1.eh i,h.2.imp λj hc=>i.Z hc⟩
theorem RX.eh(h:RX w b vs)(i:w'.heap[b]?=w.heap[b]?):RX w' b vs:=⟨h.1.eh i,h.2.imp λj hc=>i.Z hc⟩
def LB(w:G)(b:Nat)(st op rs i j:List dV):Prop:=BX w b st/\aO w (b+1) op/\BX w (b+1+1) rs/\RX w (b+1+1+1) i/\aO w (b+1+1+1+1) j
theorem LB.W{st op rs m o:List dV}(h:LB w' b st op rs m o)(i:∀j,b<=j->j<b+5->w''.heap[j]?=w'.heap[j]?):LB w'' b st op rs m o:=
 ⟨h.1.eh (i _ ae ae),h.2.1.eh (i _ ae ae),h.2.2.1.eh (i _ ae ae),h.2.2.2.1.eh (i _ ae ae),h.2.2.2.2.eh (i _ ae ae)⟩
theorem LB.aW1{s0 s1 s2 o m i n0 n1 n2 s j:dV}{os rs q r:List dV}(h:LB w b [s0,s1,s2,o,m,i] (o0::o1::os) rs q (n0::n1::n2::s::j::r)):I w (Ad b 5)=i/\I w (Ad (b+1) 1)=o1/\I w (Ad (b+1+1+1+1) 4)=j:=⟨h.1.1.1 5 _ rfl,h.2.1.1 1 _ rfl,h.2.2.2.2.1 4 _ rfl⟩
theorem LB.dF5{st op rs m o:List dV}(h:LB w' b st op rs m o)(i:∀j,b<j->j<b+5->w''.heap[j]?=w'.heap[j]?):aO w'' (b+1) op/\BX w'' (b+1+1) rs/\RX w'' (b+1+1+1) m/\aO w'' (b+1+1+1+1) o:=
 ⟨h.2.1.eh (i _ ae ae),h.2.2.1.eh (i _ ae ae),h.2.2.2.1.eh (i _ ae ae),h.2.2.2.2.eh (i _ ae ae)⟩
theorem BX.WT(h:BX w b [v0,v1,v2,v3,v4,v5]):I w (Ad b 0)=v0/\I w (Ad b 1)=v1/\I w (Ad b 2)=v2/\I w (Ad b 3)=v3/\I w (Ad b 4)=v4/\I w (Ad b 5)=v5:=⟨h.1.1 0 _ rfl,h.1.1 1 _ rfl,h.1.1 2 _ rfl,h.1.1 3 _ rfl,h.1.1 4 _ rfl,h.1.1 5 _ rfl⟩
theorem dz9{n c:Nat}(en:Le ss n)(em:Le ns m)(hk:O (ns[k]?=nd)){S:Int}{vp:OA}(hS:O (ew B w (.S p n c) ss Qs))(hN:O (kF B w (.S q m d) ns))(hB:B<=U (Q w))(hm:Mg m)(hh:J nd.y<=2^20)(hg:0<=g/\g<=2^62){R:SD×RP}(eR:O (yF ⟨e,g,x,t,ss,ns⟩ k S F=R)):dQ dG 175 #[bS e g x t (.S p n c) (.S q m d),.I k,rD K S (.S pp np cp) F (.S vp nv cv) E iG] w λr w'=>QR B w w' r R.1 R.2:=by
 obtain⟨y,Pv,Vv,Hv,Uv,rfl,-,-,c0,c1,c2,c3,c4,c5,c6,c7,tP,tV,tH,tU,Fe⟩:=di.at hN hk;have hkm:k<m:=by rw[<-aa em];exact(bu.1 hk).1
 have be5:=bR k m;obtain⟨pP,cP,rfl⟩:=tP.fO;obtain⟨pV,cV,rfl⟩:=tV.fO;obtain⟨pH,cH,rfl⟩:=tH.fO;obtain⟨pU,cU,rfl⟩:=tU.fO;let⟨nP,hnP⟩:=aF (J nd.A);let⟨nV,hnV⟩:=aF (J nd.V);let⟨nU,hnU⟩:=aF (J nd.X);let⟨nh,eH⟩:=bL (J nd.y);rw[<-hnP]at c0;rw[<-hnV]at c1;rw[<-hnU]at c7;rw[aa eH]at hh tH c4;clear hnP hnV hnU tP tV tU;obtain⟨ow,mo,ep,ge,aG⟩:∃ow mo ep ge,O (nd.D=ow/\nd.M=mo/\nd.P=ep/\nd.F=ge):=⟨_,_,_,_,af ⟨rfl,rfl,rfl,rfl⟩⟩
 rw[aG.1]at c2;rw[aG.2.1]at c3;rw[aG.2.2.1]at c5;rw[aG.2.2.2]at c6;have Ez:y<U (Q w):=(hN.lt y rfl).2;have xu:=(hN.lt y rfl).1;let⟨W0,bG,b0,z0,C0⟩:=sQ w (.U e) (.U g) (.U x) (.I t) (.S p n c) (.T y m d);obtain⟨W1,fo,b1,z1,C1,-⟩:=bM W0 #[.I K,.U S,.S pp np cp,.I F,.S vp nv cv,.U E,.U iG] 26;let⟨W2,fM,b2,z2,C2⟩:=yY W1;let⟨W3,kJ,b3,z3,C3⟩:=DO W2 (.I 0) (.U 0) (.U 0) (.U 0) (.I 0) aV aV aV;obtain⟨W4,hW4,b4,z4,C4,-⟩:=bM W3 #[.S pP nP cP,.S pV nV cV,.U ow,.I mo,.S pH nh cH,.U ep,.U ge,.S pU nU cU] 69;rw[z0]at C1 z1;rw[z1]at C2 z2;rw[z2]at C3 z3;rw[z3]at C4 z4;have HC:=nF ((((C0.H b1).H b2).H b3).H b4) (((C1.H ae b2).H ae b3).H ae b4) ((C2.H b3).H b4) (C3.H b4) C4;have bW:=af (ah (ah (ah (ah b0 b1) b2) b3) b4);have HS:=dy (hS.T (bH bW)) (hN.T (bH bW)) (tH.T (bH bW));have aW:=λ(o1 o2 o3 o4:Obj)=>((((aR (U (Q w)) w).alloc az o1).alloc ai o2).alloc cg o3).alloc cg o4;have m0:=λ(o1 o2 o3 o4:Obj)=>aj c0 (aW o1 o2 o3 o4);have m1:=λ(o1 o2 o3 o4:Obj)=>aj c1 (aW o1 o2 o3 o4);have m2:=λ(o1 o2 o3 o4:Obj)=>aj c2 (aW o1 o2 o3 o4);have m3:=λ(o1 o2 o3 o4:Obj)=>aj c3 (aW o1 o2 o3 o4);have m4:=λ(o1 o2 o3 o4:Obj)=>aj c4 (aW o1 o2 o3 o4);have m5:=λ(o1 o2 o3 o4:Obj)=>aj c5 (aW o1 o2 o3 o4);have m6:=λ(o1 o2 o3 o4:Obj)=>aj c6 (aW o1 o2 o3 o4);have m7:=λ(o1 o2 o3 o4:Obj)=>aj c7 (aW o1 o2 o3 o4);have ru:=nF c3 c4 c5 c6 Fe;clear b0 b1 b2 b3 b4 C0 C1 C2 C3 C4 c0 c1 c2 c3 c4 c5 c6 c7 Fe tH aW;go_in
 go_wp21
 rw[<-bG,<-fo,<-fM,<-kJ,<-hW4];let⟨bo,DB⟩:=bL (nd.y.contains S);have hR:=aa eR;unfold yF at hR;simp only[aa hk,aa DB,aG.2.1]at hR;have HR:=af hR;refine cK (aY0 eH HS.2.2.1 hh DB) λw1 ao=>?_;have L8:=ao.size;have D:=nF (HC.1.H ao) (HC.2.1.H ae ao) (HC.2.2.1.H ao) (HC.2.2.2.1.H ao) (HC.2.2.2.2.H ae ao);have qR:=dy (HS.1.T (bH ao)) (HS.2.1.T (bH ao)) (HS.2.2.T (bH ao));have W:=af (ah bW ao);have c3:=aj ru.1 W;have c4:=aj ru.2.1 W;have c5:=aj ru.2.2.1 W;have c6:=aj ru.2.2.2.1 W;have fz:=λo=>(W.frozen (p:=(Ad y o)) Ez).Z (ru.2.2.2.2 o);have o1:=D.2.1.1 1 _ rfl;have o3:=D.2.1.1 3 _ rfl;have n3:=D.2.2.2.2.1 3 _ rfl;have n4:=D.2.2.2.2.1 4 _ rfl;have k0:=D.1.cells;have aN:¬y=U (Q w):=ae;cases bo;{
 by_cases hF:F=2;{
 have hF':(F==2):=by simp[hF]
 by_cases sI:mo=1;{
 have be0:(mo==1):=by simp[sI]
 have M:=aa HR;simp only[hF,sI,Ir,Ap,pQ]at M;have E9:=af M
 go_wp21
 exact rq 3 6 7 27 28 9 results175 D.1 D.2.2.1 D.2.2.2.1 en em qR.1 qR.2.1 (Fr.H W) (W.h hB) hB E9};{
 have be0:(mo==1)=dF:=by simp[sI]
 have M:=aa HR;simp only[hF,sI,Ir,Ap,pQ]at M;have E9:=af M;let⟨N3,F3⟩:=di.put qR.2.1 hk (j:=3) ae (.I 2) {nd with M:=2} (λw' P V H iU h1 h2 h3 h4 hf=>⟨P,V,H,iU,rfl,h1,h2,h3,h4⟩);let⟨X,hX⟩:=aF (jS w1 (Ad y (k*8+3)) (.I 2));have LX:=LB.W (w'':=X) D (λj h1 h2=>by rw[hX];exact fN _ _ _ _ (by show j≠y;omega));have BX':Below B w X:=by rw[hX];exact(W.h hB).setCell (p:=(Ad y _)) xu _
 rw[<-hX]at N3 F3;have HX:=jq LX N3 F3 BX';have zX:=F3.1;have fz3:=fz (k*8+3)
 go_wp21
 rw[<-hX];let⟨vA,de⟩:=aF X.drew;have cQ:=mW de;have HA:=af (λ(v:G)(hv:Bw vA v)=>aD (LB.W (w'':=v) HX.1 (λj h1 h2=>(ah cQ hv).block j ae)) (aD (di.T HX.2.1 (bH (ah cQ hv))) (ah cQ hv)));have TA:=af ((qR.2.2.T HX.2.2.1).T (bH cQ));refine fK (λw'=>I w' (Aw w 5)=dK y m d/\I w' (Ax w 1)=dU S/\I w' (Ad (U (Q w)+1+1+1+1) 4)=dS pH nh cH) (by rw[<-de];exact(aa HA vA aH).1.aW1) λhS=>?_;rw[<-de]at hS⊢;refine iL 0 1 2 3 hS ?_;refine gh 4 5 hS ?_;refine tn 6 hS ?_;refine ft 7 λKK hK=>?_;refine CK (dD6 eH TA.1 hh) ?_;rintro r v1⟨pl,cl,rfl,ol,ay⟩;refine⟨_,rfl,?_⟩;let⟨nl,gM⟩:=bL (J (lY nd.y S));rw[aa gM]at ol⊢;have OL:=af (ol.tu (B':=B) (by have:=HX.2.2.2.size;have:=(aa HA vA aH).2.2.size;omega));have mL:=af ay;refine bQ hK (by exact(aa HA v1 ay).1.aW1) λhS=>?_;refine gh 8 9 hS ?_;refine ft 10 λKK hK=>?_;let⟨LV,NV,bV⟩:=aa HA v1 mL;obtain⟨Vl,-,-,H',-,eg,-,-,-,-,-,-,d4,-,-,-,-,-,-,-,Jn⟩:=di.at NV (uM hk _);obtain⟨rfl,-⟩:=By eg;have Rj:=Jn (k*8+4);have NV':=af NV;have LV':=af LV;have bV':=af bV;clear NV LV bV Jn;go_simp;let⟨N4,F4⟩:=di.Pk NV' hk (j:=4) ae (.S pl nl cl) {nd with M:=2,y:=lY nd.y S} (λw' P V H iU h1 h2 h3 h4 hf=>⟨P,V,.S pl nl cl,iU,rfl,h1,h2,OL.T hf,h4⟩);let⟨Z,hZ⟩:=aF (jS v1 (Ad y (k*8+4)) (.S pl nl cl));have LZ:=LB.W (w'':=Z) LV' (λj h1 h2=>by rw[hZ];exact fN _ _ _ _ (by show j≠y;omega));have BZ:Below B w Z:=by rw[hZ];exact(HX.2.2.2.Z (bV'.h ae)).setCell (p:=(Ad y _)) xu _
 rw[<-hZ]at N4 F4⊢;have N:=nF LZ N4 ((((Fr.H (T:=[114,65,69]) W).Z (HX.2.2.1.sub ai)).Z (Fr.H bV')).Z (F4.sub ai)) BZ (((qR.1.T HX.2.2.1).T (bH bV')).T F4);refine bQ hK (by exact LZ.aW1) λhS=>?_;clear hK KK hZ N4 F4 LZ BZ d4 Rj;refine ga ?_;clear hS;have k0:=N.1.1.cells;let⟨q0,q1,q2,q3,q4,q5,qf⟩:=N.1.2.2.1.cells;let⟨r0,r1,r2,r3,r4,r5,r6,r7,rf⟩:=N.1.2.2.2.1.cells;go_wp2;let⟨fA,bA,gA⟩:=N.1.2.2.1.fin N.2.2.1 N.2.2.2.1 ae hB (.U e) (.U g) (.U x) (.I t) (.S p n c) (.T y m d);obtain⟨-,fB⟩:=(N.1.2.2.2.1.T gA).put (.I 0) (.U 0) (.U 0) (.U 0) (.I 0) aV aV aV;have bB:=uV (w:=fv Z (U (Q w)+1+1) (.U e) (.U g) (.U x) (.I t) (.S p n c) (.T y m d)) (b:=U (Q w)+1+1+1) (v0:=.I 0) (v1:=.U 0) (v2:=.U 0) (v3:=.U 0) (v4:=.I 0) (v5:=aV) (v6:=aV) (v7:=aV);have bC:=(sY (w:=Z) (U (Q w)+1+1) (.U e) (.U g) (.U x) (.I t) (.S p n c) (.T y m d)).h (show U (Q w)<=_ by omega);refine bO (v:=dT #[bS e g x t (.S p n c) (.T y m d),mB 0 0 0 0 0 aV aV aV]) (by simp[results,results175,go_sem,q0,q1,q2,q3,q4,q5,r0,r1,r2,r3,r4,r5,r6,r7]) rfl ?_;rw[<-aa E9];exact QR.num en (af (by rw[rF];exact aa em)) N.2.2.2.2 N.2.1 N.2.2.1 N.2.2.2.1 ((gA.sub ai).Z (fB.sub ai)) (bC.Z (bB.h ae)) hB 0 0 0 0 0}};{
 have hF':(F==2)=dF:=by simp[hF]
 by_cases xT:mo=0;{
 have dP3:(mo != 0)=dF:=by simp[xT]
 by_cases oW:4611686018427387904<=g;{
 have dS0:dD (4611686018427387904<=g):=by simpa using oW
 have M:=aa HR;simp only[hF,xT,oW,Ir,Ap,pQ,ne_eq,aT8]at M;have E9:=af M;clear M hF xT
 go_wp21
 exact rq 3 6 7 54 55 12 results175 D.1 D.2.2.1 D.2.2.2.1 en em qR.1 qR.2.1 (Fr.H W) (W.h hB) hB E9};{
 have dS0:dD (4611686018427387904<=g)=dF:=by simpa using oW
 have M:=aa HR;simp only[hF,xT,oW,Ir,Ap,pQ,ne_eq,aT8]at M;have E9:=af M;clear M hF xT;have wg:jY jU (g+1)=g+1:=IntWalk.u64_in _ ae;let⟨Y0,Nb⟩:=aF (jS w1 (Aw w 1) (.U (g+1)));have B0:BX Y0 (U (Q w)) [.U e,.U (g+1),.U x,.I t,.S p n c,.T y m d]:=by rw[Nb];exact⟨D.1.1.dt 1 ai _,(qn D.1.2).1⟩
 have L0:LB Y0 (U (Q w)) [.U e,.U (g+1),.U x,.I t,.S p n c,.T y m d] _ _ _ _:=⟨B0,LB.dF5 (w'':=Y0) D (λj h1 h2=>by rw[Nb];exact fN _ _ _ _ (by show j≠U (Q w);omega))⟩;have F0:Fr [34] w1 Y0:=by rw[Nb];exact(qn D.1.2).2
 let⟨N3,F3⟩:=di.put (qR.2.1.T F0) hk (j:=3) ae (.I 1) {nd with M:=1} (λw' P V H iU h1 h2 h3 h4 hf=>⟨P,V,H,iU,rfl,h1,h2,h3,h4⟩);let⟨Y1,AV⟩:=aF (jS Y0 (Ad y (k*8+3)) (.I 1));have L1:=LB.W (w'':=Y1) L0 (λj h1 h2=>by rw[AV];exact fN _ _ _ _ (by show j≠y;omega));rw[<-AV]at N3 F3;have zY:U (Q Y1)=U (Q w1):=by rw[AV,Nb];simp
 let⟨A,hA,bA,zA,CA,TA⟩:=bM Y1 #[.U S] 24;rw[zY]at CA TA;have L2:=LB.W (w'':=A) L1 (λj h1 h2=>bA.block j ae);have N4:=N3.T (bH bA);have TS:TU B A (.T (U (Q w1)) 1 1) [S]:=by
  refine⟨⟨_,_,rfl,.R ⟨U (Q w1),0,rfl,?_⟩⟩,?_,⟨?_,?_⟩,?_⟩;{
 intro i hi;obtain rfl:i=0:=by simp at hi;omega
 exact CA.1 0 _ rfl};{intro b hb;simp only[jB,nJ]at hb;subst hb;exact⟨_,TA⟩};{intro a n c e;simp only[ti,nJ]at e;obtain⟨rfl,rfl,rfl⟩:=e;exact⟨rfl,rfl,λj h1 h2=>ae⟩};{intro n c e;simp at e};{intro b hb;simp only[jB,nJ]at hb;omega}
 obtain⟨Vl,P',V',H',U',eg,-,-,-,-,-,-,d4,d5,d6,-,-,-,-,-,Jn⟩:=di.at N4 (uM hk _);obtain⟨rfl,-⟩:=By eg;let⟨s0,s1,s2,s3,s4,s5,sf⟩:=L2.1.cells;have Rj:=Jn (k*8+4);have fz5:=Jn (k*8+5);have fz6:=Jn (k*8+6);have fz3:=fz (k*8+3);let⟨N5,F5⟩:=di.Pk N4 hk (j:=4) ae (.T (U (Q w1)) 1 1) {nd with M:=1,y:=[S]} (λw' P V H iU h1 h2 h3 h4 hf=>⟨P,V,.T (U (Q w1)) 1 1,iU,rfl,h1,h2,TS.T hf,h4⟩);let⟨N6,F6⟩:=di.Pk N5 hk (j:=5) ae (.U e) {nd with M:=1,y:=[S],P:=e} (λw' P V H iU h1 h2 h3 h4 hf=>⟨P,V,H,iU,rfl,h1,h2,h3,h4⟩);let⟨N7,F7⟩:=di.Pk N6 hk (j:=6) ae (.U (g+1)) {nd with M:=1,y:=[S],P:=e,F:=g+1} (λw' P V H iU h1 h2 h3 h4 hf=>⟨P,V,H,iU,rfl,h1,h2,h3,h4⟩);let⟨Z,hZ⟩:=aF (jS (jS (jS A (Ad y (k*8+4)) (.T (U (Q w1)) 1 1)) (Ad y (k*8+5)) (.U e)) (Ad y (k*8+6)) (.U (g+1)));have LZ:=LB.W (w'':=Z) L2 (λj h1 h2=>by
  rw[hZ]
  iterate 3 rw[fN _ _ _ _ (show j≠_ by show j≠y;omega)])
 have FA:Fr [69] A Z:=by rw[hZ];exact(F5.Z F6).Z F7
 have BZ:Below B w Z:=by rw[hZ];refine((kV (p:=(Ad y _)) ?_ xu _).setCell (p:=(Ad y _)) xu _).setCell (p:=(Ad y _)) xu _;refine Xs ?_ (bA.h ae);rw[AV,Nb];exact((W.h hB).setCell (p:=(Aw w _)) hB _).setCell (p:=(Ad y _)) xu _
 have FZ:Fr [114,65,69] w Z:=by
  have bY0:Below (U (Q w)) w1 Y0:=by rw[Nb];exact aH.setCell (p:=(Aw w 1)) az _
  exact(((Fr.low (Fr.H W) bY0).Z (F3.sub ai)).Z (Fr.H bA)).Z (FA.sub ai)
 rw[<-hZ]at N7;have SZ:=((qR.1.T F0).T F3 aX |>.T (bH bA)).T FA;have N:=nF LZ N7 FZ BZ SZ;have zZ:U (Q w1)<U (Q Z):=aM FA.1;rw[Nb]at AV;rw[AV]at hA;rw[hA]at hZ s0 s1 s5 d4 d5 d6 Rj fz5 fz6;clear B0 L0 F0 N3 F3 L1 bA zA CA TA L2 N4 TS Jn s2 s3 s4 sf N5 F5 N6 F6 N7 F7 LZ FA BZ FZ SZ Nb AV hA zY
 go_wp21
 rw[<-hZ];let⟨vA,de⟩:=aF Z.drew;have cQ:=mW de;have HA:=af (λ(v:G)(hv:Below (U (Q w)+1+1) vA v)=>N.1.1.eh ((hv.block _ ae).Z (cQ.block _ ae)));have LA:=af (LB.W (w'':=vA) N.1 (λj h1 h2=>cQ.block j ae));have BA:=af cQ;refine fK (λw'=>I w' (Aw w 0)=dU e/\I w' (Aw w 1)=dU (g+1)/\I w' (Aw w 2)=dU x/\I w' (Aw w 3)=dI t/\I w' (Aw w 4)=dS p n c/\I w' (Aw w 5)=dK y m d) (by rw[<-de];exact(aa HA vA aH).WT) λhS=>?_;rw[<-de]at hS⊢;refine iL 0 1 2 3 hS ?_;refine gh 4 5 hS ?_;refine bS0 6 7 6 7 87 92 aU aU aU rfl rfl (U (Q w)+1+1) (U (Q w)+1+1+1) e (g+1) x t p n c (Ad y 0) m d 0 0 e (g+1) 0 dN 0 0 dN 0 0 dN 0 0 rfl rfl rfl rfl LA.2.2.1 LA.2.2.2.1 ae (λv hv _=>(aa HA v hv).WT) ?_;intro w' ao pR f1 Jp;refine Hf ?_;have HQ:=af (QR.num (e:=e) (g:=g+1) (x:=x) (t:=t) en (af (by rw[rF];exact aa em)) N.2.2.2.2 N.2.1 N.2.2.1 N.2.2.2.1 ((Fr.H (T:=[34,43]) BA).Z f1) ((BA.h ae).Z (Jp.h ae)) hB 0 0 e (g+1) 0);let⟨q0,q1,q2,q3,q4,q5,qf⟩:=ao.cells;let⟨r0,r1,r2,r3,r4,r5,r6,r7,rf⟩:=pR.cells;go_wp2;refine bO (v:=dT #[bS e (g+1) x t (.S p n c) (.T y m d),mB 0 0 e (g+1) 0 aV aV aV]) (by simp[results,results175,go_sem,q0,q1,q2,q3,q4,q5,r0,r1,r2,r3,r4,r5,r6,r7]) rfl ?_;rw[<-aa E9];exact HQ}};{
 have dP3:(mo != 0):=by simp[xT]
 have M:=aa HR;simp only[hF,xT,Ir,Ap,pQ,ne_eq,not_false_eq_true]at M;have E9:=af M
 go_wp21
 exact rq 3 6 7 49 50 9 results175 D.1 D.2.2.1 D.2.2.2.1 en em qR.1 qR.2.1 (Fr.H W) (W.h hB) hB E9}}};{
 have M:=aa HR;simp only[pQ]at M;have E9:=af M
 go_wp21
 exact rq 3 6 7 19 20 9 results175 D.1 D.2.2.1 D.2.2.2.1 en em qR.1 qR.2.1 (Fr.H W) (W.h hB) hB E9}
def ex3(ns:List au)(P:LI)(S E iG:Int):Int:=match kU ns P with
 |none=>0
 |some nd=>if nd.M=1/\nd.y.headD 0=S/\nd.P=E/\nd.F=iG then 1 else 0
def En(l:LI):LI:=jD (xn l (J l)+1) l
variable {s:Nat}
theorem dz8(m:s<J l)(i:jE l s 0=47)(h:∀y∈jD (s+1) l,mi y):xn l (J l)=s:=by
 have key:∀j,s+1+j<=J l->xn l (s+1+j)=s:=by
  intro j
  induction j with
  |zero=>intro _;rw[Mt,XN,aK i]
  |succ j ih=>
   intro o;have hm:mi (jE l (s+1+j) 0):=h _ (by rw[iR,bN ae,ta];refine List.mem_iff_getElem.2 ⟨j,cg,ai⟩)
   rw[<-Us,XN,aJ (bX8 hm),ih ae]
 have:=key (J l-s-1) ae;rwa [show s+1+(J l-s-1)=J l by omega]at this
theorem dz7(j:s<J l)(i:jE l s 0=47)(h:∀y∈jD (s+1) l,mi y):En l=jD (s+1) l:=by rw[En,dz8 j i h]
def tS(ns:List au)(P:LI):List LI:=(ns.filter λi=>dD (im i.A=P)).map λi=>En i.A
theorem dE8(h:ns[k]?=nd):tS (jT (k+1) ns) P=if im nd.A=P then tS (jT k ns) P++[En nd.A]else tS (jT k ns) P:=by
 rw[sE,h,tS,an6,rI];by_cases e:im nd.A=P<;>simp[tS,e]
theorem ce2(P:LI):J (tS ns P)<=J ns:=by
 rw[tS,iH];exact Ul _ _
def MB(l m:LI):Bool:=!Op.bytesLess (bf m).toList (bf l).toList&&!(bf m).toList==(bf l).toList
def qJ(nd:au):List au->List au
 |[]=>[nd]
 |x::r=>if MB nd.A x.A then nd::x::r else x::qJ nd r
def xo(nd:au)(s:List au×Bool)(x:au):List au×Bool:=if s.2=dF/\MB nd.A x.A then(s.1++[nd]++[x],dY)else(s.1++[x],s.2)
def IG(ns:List au)(nd:au):List au×Bool:=ns.foldl (xo nd) ([],dF)
theorem cf5(nd:au):∀(l acc:List au),l.foldl (xo nd) (acc,dY)=(acc++l,dY)
 |[],acc=>ai
 |x::r,acc=>by rw[Kc,show xo nd (acc,dY) x=(acc++[x],dY) by simp[xo],cf5 nd r];simp
theorem dH9(ns:List au)(nd:au):(if(IG ns nd).2 then(IG ns nd).1 else(IG ns nd).1++[nd])=qJ nd ns:=by
 have key:∀(l acc:List au),(if(l.foldl (xo nd) (acc,dF)).2 then(l.foldl (xo nd) (acc,dF)).1 else(l.foldl (xo nd) (acc,dF)).1++[nd])=acc++qJ nd l:=by
  intro l
  induction l with
  |nil=>intro acc;simp[qJ]
  |cons x r ih=>
   intro acc;rw[Kc,qJ];by_cases h:MB nd.A x.A=dY;{rw[show xo nd (acc,dF) x=(acc++[nd]++[x],dY) by simp[xo,h],cf5,aK h];simp};{rw[show xo nd (acc,dF) x=(acc++[x],dF) by simp[xo,h],ih,aJ h];simp}
 have:=key ns [];rwa [Ef]at this
theorem dH8{x:au}(i:ns[k]?=x):IG (jT (k+1) ns) nd=xo nd (IG (jT k ns) nd) x:=by
 rw[sE,i,IG,Un];rfl
theorem dH7{s:List au×Bool}{x:au}:(xo nd s x).1.length<=J s.1+2:=by
 unfold xo;split<;>simp
theorem cf4(nd:au):∀(l:List au)(s:List au×Bool),(l.foldl (xo nd) s).1.length<=J s.1+2*J l
 |[],s=>ai
 |x::r,s=>by have:=cf4 nd r (xo nd s x);have:=dH7 (nd:=nd) (s:=s) (x:=x);rw[Kc,ni];omega
theorem aZ5(nd:au):∀l:List au,J (qJ nd l)=J l+1
 |[]=>rfl
 |x::r=>by rw[qJ];split;{simp};{simp[aZ5 nd r]}
def qU(P V:LI)(o:Int):au:=⟨P,V,o,0,[],0,0,[]⟩
def DL(D:SD)(P V:LI)(S F:Int):SD×RP:=
 if(kU D.N P).isSome then(D,kP 6)else if pI D.N (im P)=dF then(D,kP 7)else if 200<=J D.N then(D,kP 11)
 else({D with N:=qJ (qU P V (if F=1 then S else 0)) D.N},ka)
def Db(D:SD)(k:Nat)(K S F:Int)(V:LI):SD×RP:=match D.N[k]? with
 |none=>(D,ka)
 |some nd=>
  if K=5 then(if tS D.N nd.A≠[]then(D,kP 8)else if xZ nd S=dF then(D,kP 9)else(wY (kr D k 2) k,ka))
  else if K=6 then(D,⟨0,nd.D,nd.P,nd.F,nd.M,nd.V,[],[]⟩)
  else if K=7 then(if nd.M=1/\nd.y.headD 0≠S then(D,kP 9)else(kr {D with N:=D.N.set k {nd with V:=V}} k 1,ka))
  else if K=8 then yF D k S F
  else if K=9 then(if nd.y.contains S then(ko D k S,ka)else(D,kP 10))
  else({D with N:=D.N.set k {nd with X:=lY nd.X S}},ka)
theorem zy.last{c:Nat}(h:zy B w (.S p (j+1) c) (j+1) vs)(i:vs.getLast?=v):∃g,p=(Ad g 0)/\I w (Ad g j)=v/\j<maxLen:=by
 have m:=h.1;obtain⟨-,x⟩|⟨g,r,q,e,-,-,u,s,-⟩:=h.2;{omega};{obtain⟨rfl,-,rfl⟩:=mg e;refine⟨g,rfl,?_,ae⟩;have o:w.ownsRow B 22 1 (.T g (j+1) c) (j+1) vs:=h;rw[Py o j ae,<-i,an3,m];simp}
theorem dE1{c n:Nat}(u:Le l n)(h:Rd w (.S p n c) l)(W:aA l)(hl:Mg n)(M:O (vp l)):dQ dG 173 #[.S p n c] w λr w'=>∃q m d,r=dR (.S q m d)/\O (J (En l)=m)/\m<=n/\Own (U (Q w)) w' (.S q m d) (En l)/\Bw w w':=by
 go_in
 go_wp21
 refine(cd7 u h W hl M).h ?_;rintro r w1⟨X,-,Z⟩;obtain⟨pv,k,cv,vs,rfl,R,hk,s,v,o,N,E,D,i⟩:=X rfl;obtain⟨j,rfl⟩:∃j,k=j+1:=⟨k-1,ae⟩;obtain⟨g,rfl,hc,QC⟩:=R.last o;have hj:j<9223372036854775807:=by unfold maxLen at QC;omega
 have wj:wrap64 (j:Int)=(j:Int):=PM _ ae;rw[<-dz7 N E D]at i;obtain⟨q,d,rfl⟩:=i.form;have B:=af i;have y:J (En l)<=n:=by rw[En,uC,aa u];omega
 let⟨m,x⟩:=bL (J (En l));rw[aa x]at hc B y;have hi:((j+1:Nat):Int)-1=(j:Int):=ae;have V:(j:Int)<((j+1:Nat):Int):=ae;go_wp2;go_ret;exact⟨_,_,_,rfl,x,y,B,Z⟩
theorem cW6{iZ:iE}(iq:o.guard=dN){s x:Operand}(ho:o.op=.call {callee:=.builtin .append,args:=#[s,x],argTypes:=#[40,40]})(ek:Le ls k)(hs:a.eval s=v)(du:TN B w v ls){g:Nat}{P:dV}(hx:a.eval x=.T g 1 1)(oz:TB w P l)(tv:I w (Ad g 0)=P)(hk:k<2^22)(hB:B<=U (Q w))(h:∀p' c' w',TN B w' (.S p' (k+1) c') (ls++[l])->jG w w' (jB v)->Fr [22] w w'->wpList dG ops iZ rest (a.put o.dst (.S p' (k+1) c')) w'):wpList dG ops iZ (o::rest) a w:=by
 let⟨i,hi,ki,fy,gJ⟩:=og Tryz.infoSl;have ht:=du.uw;obtain⟨rs,h1,h2,h3,h4⟩:=du;have Ys:P.oneCell':=by obtain⟨_,_,rfl⟩:=oz.fO;rfl
 rw[aa ek]at h3;refine Fu iq 40 ho i 1 underlying40 hi ki fy gJ rfl aX v hs h3 g 1 1 [P] hx rfl (λj u hu=>by
  have e:j=0:=by have:=(bu.1 hu).1;simpa using this
  subst e;simp at hu;subst hu;exact tv) (λu hu=>by simp at hu;rw[hu];exact Ys) kL ae hB ?_
 intro v' w' gC hg _;have hf:Fr [22] w w':=Fr.grown hg λb hb=>by let⟨cur,hc⟩:=ht b hb;exact⟨cur,_,hc,ai⟩
 have sn:TN B w' v' (ls++[l]):=RT.snoc h1 h2 h4 (λy c hy=>by obtain⟨P',e,h5⟩:=hy;exact⟨P',e,h5.T hf⟩) ⟨P,rfl,oz⟩ rfl (aa ek▸gC);obtain⟨p',c',rfl,-⟩:=RT.form sn;rw[eG,aa ek]at sn⊢;exact h p' c' w' sn hg hf
theorem TN.T{T:List TypeId}(h:TN B w v ls)(hf:Fr T w w')(ht:5∉T/\22∉T:=by decide):TN B w' v ls:=
 RT.T h hf ht.2 (λy c hy=>by obtain⟨P',e,h5⟩:=hy;exact⟨P',e,h5.T hf ht.1⟩)
def PPB(ns:List au):Prop:=∀i∈ns,vp i.A/\aA i.A/\J i.A<=2^20
theorem ex0{n c:Nat}(em:Le ns m)(eP:Le P np)(hN:O (kF B w (.S q m d) ns))(hP:O (Rd w (.S pp np cp) P))(bP:aA P)(QT:O (PPB ns))(hm:Mg m)(eL:O (tS ns P=L)):dQ dG 114 #[bS e g x t (.S p n c) (.S q m d),.S pp np cp] w λr w'=>∃p' c',r=dR (.S p' (J L) c')/\TN (U (Q w)) w' (.S p' (J L) c') L/\Bw w w':=by
 let⟨W0,bG,V,z0,C0⟩:=sQ w (.U e) (.U g) (.U x) (.I t) (.S p n c) (.S q m d);have HC:=af λ(v:G)(N:Bw W0 v)=>aD (C0.H N) (aD (di.T hN (bH (ah V N))) (aD (hP.H (ah V N)) (ah V N)));have BP:=af bP;have Z0:=af z0;clear V C0 bP z0;go_in;go_wp2;rw[<-bG];clear bG
 go_loopw[5,6](λov iv wr=>∃(k:Nat)(M:List LI),k<=m/\iv=.I k/\O (tS (jT k ns) P=M)/\O (TN (U (Q W0)) wr ov M)/\O (Bw W0 wr)) (λ_ iv _=>m-(jN (intOf iv)))
 exact⟨0,[],cT _,rfl,(by show _=_;simp[tS]),RT.nil _ _ _ _ _,aR _ _⟩;{
 obtain⟨k,M,hk,rfl,R,hT,aB⟩:=hrel;obtain⟨pv,cv,rfl,-,-,-⟩:=RT.form hT;have zr:=aB.size;have IS:J M<=k:=by have h1:=ce2 (ns:=jT k ns) P;have h2:=PK k ns;rw[aa R]at h1;omega
 let⟨CB,HN,HP,bw⟩:=aa HC _ aB;have k5:=CB.1.1 5 _ rfl;have BW:=af bw;by_cases aL:k<m;{
 have cM:=bR k m;obtain⟨D,hx⟩:∃x,ns[k]?=Y x:=⟨_,bN (aa em▸aL)⟩;have il:=af (dE8 (P:=P) hx);have HX:=af hx;obtain⟨gn,Pv,Vv,Hv,Uv,eq,-,-,c0,-,-,-,-,-,-,-,E,-,-,-,-⟩:=di.at HN hx;subst eq;let⟨Gg,qY,gx⟩:=aa QT D (bq hx);let⟨nP,eN⟩:=bL (J D.A);obtain⟨pP,cP,rfl⟩:=E.fO;rw[aa eN]at c0 E gx;have TP:=af E;have HV:=br Gg qY;let⟨_,_,_,ec,gL,ju⟩:=E.2.2;obtain⟨rfl,rfl,rfl⟩:=mg ec
 go_wp21
 refine(XX eN TP.1 gx gL ju).h ?_;rintro r w1⟨qq,mm,dd,rfl,MP,dO9,AE,X⟩;have B1:=af (ah aB X);obtain⟨-,-,LU,-⟩:=aa HC _ B1;have T1:=af (hT.T (bH X));have TP1:=af (TP.T (bH X))
 go_wp21
 refine cK (Uz MP eP AE LU (Ud HV.2) BP) λw2 W=>?_;have Z:=af (ah B1 W);have T2:=af (T1.T (bH W));have TP2:=af (TP1.T (bH W));obtain⟨CB,-⟩:=aa HC _ Z;have k5:=CB.1.1 5 _ rfl;have VB:=aj c0 (ah X W);have z2:=Z.size;by_cases hq:im D.A=P;{
 rw[show dD (im D.A=P)=dY by simp[hq]];have E1:=af (by have:=aa il;rwa [aK hq,aa R]at this:tS (jT (k+1) ns) P=M++[En D.A])
 go_wp21
 refine(dE1 eN TP2.1 HV.2 gx HV.1).h ?_;rintro r w3⟨ql,ml,dl,rfl,eml,fi9,hol,aE⟩
 go_wp21
 refine(Dp eml hol.rd ae).h ?_;rintro r w4⟨pc,cc,rfl,hoc,cG⟩;have B4:=af (ah (ah Z aE) cG);have T4:=af ((T2.T (bH aE)).T (bH cG));have O4:=af hoc.tb;have z4:=B4.size;go_wp2_with(at_builtin;refine cW6 rfl rfl (v:=.S pv (J M) cv) rfl rfl (TN.T T4 (bH (aH.alloc az _)) aX) (g:=U (Q w4)) rfl (O4.T (bH (aH.alloc az _))) ai ae cg ?_);intro p' c' w5 T5 nj f5;have bA:Bw w4 (jA w4 (dO #[.S pc ml cc] 22)):=aH.alloc az _;have B5:=af ((ah (aa B4) bA).grown nj cg (λb' e=>(T4.lt b' e).1));have T5':=af T5;go_wp2;go_roundw;exact⟨k+1,_,ae,by go_num,E1,T5',B5⟩;exact dh};{rw[show dD (im D.A=P)=dF by simp[hq]];have E1:=af (by have:=aa il;rwa [aJ hq,aa R]at this:tS (jT (k+1) ns) P=M);go_wp2;go_roundw;exact⟨k+1,M,ae,by go_num,E1,T2,Z⟩;exact dh}};{have cM:=fG k m;have e1:=aa R;rw[od (by rw[aa em];omega),aa eL]at e1;subst e1;go_wp2;go_ret;exact⟨_,_,rfl,RT.h hT (aM (aa Z0)),BW⟩}}
def QB(w:G)(b:Nat)(st op rs i:List dV):Prop:=BX w b st/\aO w (b+1) op/\BX w (b+1+1) rs/\RX w (b+1+1+1) i
theorem QB.W{st op rs m:List dV}(h:QB w' b st op rs m)(i:∀j,b<=j->j<b+4->w''.heap[j]?=w'.heap[j]?):QB w'' b st op rs m:=
 ⟨h.1.eh (i _ ae ae),h.2.1.eh (i _ ae ae),h.2.2.1.eh (i _ ae ae),h.2.2.2.eh (i _ ae ae)⟩
theorem dq5{o0 o1 o2 o3 o4 o5 i o7:dV}(hc:aO w b [o0,o1,o2,o3,o4,o5,i,o7]):aO (oR w b v0 v1 v2 v3 v4 v5 v6 v7) b [v0,v1,v2,v3,v4,v5,v6,v7]:=
 (((((((hc.dt 0 ai v0).dt 1 ai v1).dt 2 ai v2).dt 3 ai v3).dt 4 ai v4).dt 5 ai v5).dt 6 ai v6).dt 7 ai v7
theorem ak5(i:b'≠b):(oR w b v0 v1 v2 v3 v4 v5 v6 v7).heap[b']?=w.heap[b']?:=by
 unfold oR;rw[fN _ _ _ _ (show b'≠_ from i),fN _ _ _ _ (show b'≠_ from i),Da i]
theorem bU2(h:∃cur,w.heap[b]?=dO cur ty):(∃cur,(oR w b v0 v1 v2 v3 v4 v5 v6 v7).heap[b]?=dO cur ty)/\Fr [ty] w (oR w b v0 v1 v2 v3 v4 v5 v6 v7):=by
 have o:=ak6 h (v0:=v0) (v1:=v1) (v2:=v2) (v3:=v3) (v4:=v4) (v5:=v5);have m:=qn (j:=6) (u:=v6) o;have i:=qn (j:=7) (u:=v7) m.1;obtain⟨cur,q⟩:=h;exact⟨i.1,((vu q).Z m.2).Z i.2⟩
theorem QB.fin{st op:List dV}{p0 W p2 V S R N M:dV}(h:QB w b st op [o0,o1,o2,o3,o4,o5] [p0,W,p2,V,S,R,N,M])(j:Nat)(u v0 v1 v2 v3 v4 v5 y x s r q o m i:dV):Fr [34,43] w (oR (fv (jS w (Ad b j) u) (b+1+1) v0 v1 v2 v3 v4 v5) (b+1+1+1) y x s r q o m i)/\Below b w (oR (fv (jS w (Ad b j) u) (b+1+1) v0 v1 v2 v3 v4 v5) (b+1+1+1) y x s r q o m i):=by
 have E:=(qn (j:=j) (u:=u) h.1.2).2;have X:BX (jS w (Ad b j) u) (b+1+1) _:=h.2.2.1.WU ae;have D:Fr [34] (jS w (Ad b j) u) (fv (jS w (Ad b j) u) (b+1+1) v0 v1 v2 v3 v4 v5):=by obtain⟨-,cur,ht⟩:=X;exact vu ht
 have Z:=(((h.2.2.2.T E).T D).put y x s r q o m i).2;exact⟨(E.sub ai).Z ((D.sub ai).Z (Z.sub ai)),(((aR b w).setCell (p:=(Ad b j)) az u).Z ((sY _ _ _ _ _ _ _).h ae)).Z ((uV).h ae)⟩
theorem et7{n c:Nat}(en:Le ss n)(em:Le ns m){S:Int}{V:LI}(eP:Le P np)(eV:Le V nv)(hS:O (ew B w (.S p n c) ss Qs))(hN:O (kF B w (.S q m d) ns))(hP:O (Rd w (.S pp np cp) P))(hV:O (Rd w (.S pq nv cv) V))(hB:B<=U (Q w))(hm:Mg m)(hp:np<=2^20)(W:nv<=2^20)(gL:np<=cp)(ju:cp<=maxLen)(cW:O (aA P/\∀nd∈ns,aA nd.A)){R:SD×RP}(eR:O (DL ⟨e,g,x,t,ss,ns⟩ P V S F=R)):dQ dG 111 #[bS e g x t (.S p n c) (.S q m d),rD K S (.S pp np cp) F (.S pq nv cv) E iG] w λr w'=>QR B w w' r R.1 R.2:=by
 let⟨W0,bG,b0,z0,C0⟩:=sQ w (.U e) (.U g) (.U x) (.I t) (.S p n c) (.S q m d);obtain⟨W1,fo,b1,z1,C1,-⟩:=bM W0 #[.I K,.U S,.S pp np cp,.I F,.S pq nv cv,.U E,.U iG] 26;let⟨W2,fM,b2,z2,C2⟩:=yY W1;let⟨W3,kJ,y,z3,C3⟩:=DO W2 (.I 0) (.U 0) (.U 0) (.U 0) (.I 0) aV aV aV;rw[z0]at C1 z1;rw[z1]at C2 z2;rw[z2]at C3 z3;have LQ:QB W3 (U (Q w)) _ _ _ _:=⟨((C0.H b1).H b2).H y,(C1.H ae b2).H ae y,C2.H y,C3⟩;have bW:=ah (ah (ah b0 b1) b2) y;have HA:=af (λ(v:G)(W:Bw W3 v)=>aD (QB.W LQ (λj h1 h2=>W.block j ae)) (aD (hS.T (bH (ah bW W))) (aD (di.T hN (bH (ah bW W))) (aD (hP.H (ah bW W)) (aD (hV.H (ah bW W)) (ah bW W))))));have hR:=aa eR;unfold DL at hR;have HR:=af hR;go_in
 go_wp21
 rw[<-bG,<-fo,<-fM,<-kJ];refine(aX9 em eP (di.Ua (aa HA W3 aH).2.2.1) (aa HA W3 aH).2.2.2.1 hm ae cW).h ?_;rintro r w1⟨hr,ao⟩;have jy:=af ao;have L8:=ao.size;obtain⟨k,nd,rfl,hkm,hk,lI⟩|⟨rfl,iT⟩:=hr;{
 have X:=aa HR;simp only[lI,Option.isSome_some,pQ]at X;have E9:=af X;have nL:=gr 0 k
 go_wp21
 obtain⟨LW,SW,NW,-,-,BW⟩:=aa HA w1 jy;exact rq 2 4 5 15 16 6 results111 LW.1 LW.2.2.1 LW.2.2.2 en em SW NW (Fr.H BW) (BW.h hB) hB E9};{
 have X:=aa HR;simp only[iT,cb6,Ir,Ap]at X;have E8:=af X;have nL:¬((0:Int)<=-1):=ae;let⟨C,eC⟩:=bL (pI ns (im P))
 go_wp21
 let⟨vA,de⟩:=aF w1.drew;have cQ:Bw W3 vA:=ah (aa jy) (by rw[de];exact aH.drew);have BA:=af cQ;have SS:=af (λ(v:G)(W:Bw W3 v)=>aD (aa HA v W).1.1.WT ((aa HA v W).1.2.1.1 2 _ rfl));refine fK (λw'=>(I w' (Aw w 0)=dU e/\I w' (Aw w 1)=dU g/\I w' (Aw w 2)=dU x/\I w' (Aw w 3)=dI t/\I w' (Aw w 4)=dS p n c/\I w' (Aw w 5)=dS q m d)/\I w' (Ax w 2)=dS pp np cp) (by rw[<-de];exact aa SS vA cQ) λhS=>?_;rw[<-de]at hS⊢;refine gh 0 1 hS ?_;refine tn 2 hS ?_;refine ft 3 λKK hK=>?_;refine js (XX eP (aa HA vA BA).2.2.2.1 hp gL ju) ?_;rintro r v1⟨qq,mm,dd,rfl,MP,dO9,AE,ay⟩;refine⟨_,rfl,?_⟩;have B1:=af (ah BA ay);refine bQ hK (by exact SS v1 B1) λhS=>?_;refine ft 4 λKK hK=>?_;refine CK (ap1 em MP (di.Ua (aa HA v1 B1).2.2.1) AE hm ae (af ⟨Ud cW.1,cW.2⟩) eC) ?_;rintro r v2⟨rfl,ay⟩;refine⟨_,rfl,?_⟩;have B2:=af (ah B1 ay);refine bQ hK (by exact SS v2 B2) λhS=>?_;refine tn 5 hS ?_;refine ga ?_;have To:=B2.size;have X:=aa E8;simp only[aa eC]at X;cases C;{
 simp only[pQ]at X;have E9:=af X
 go_wp21
 obtain⟨LW,SW,NW,-,-,BW⟩:=aa HA v2 B2;exact rq 2 4 5 23 24 7 results111 LW.1 LW.2.2.1 LW.2.2.2 en em SW NW (Fr.H BW) (BW.h hB) hB E9};{
 have Nu:=aa em;simp only[Bool.true_eq_false,Ap,Nu]at X;clear Nu;have k5:=(aa SS v2 B2).1.2.2.2.2.2;by_cases ct5:200<=m;{
 rw[aK ct5]at X;have E9:=af X;have eb3:=gr 200 m;clear X E8
 go_wp21
 obtain⟨LW,SW,NW,-,-,BW⟩:=aa HA v2 B2;exact rq 2 4 5 29 30 11 results111 LW.1 LW.2.2.1 LW.2.2.2 en em SW NW (Fr.H BW) (BW.h hB) hB E9};{
 rw[aJ ct5]at X;have E9:=af X;have eb3:¬(200:Int)<=(m:Int):=ae;clear X E8
 go_wp21
 clear k5;let⟨vA,de⟩:=aF v2.drew;have cQ:Bw W3 vA:=ah (aa B2) (by rw[de];exact aH.drew);have BA:=af cQ;have zA:=cQ.size;have BR:=af (aR (U (Q vA)) vA);have SA:=af (λ(v:G)(W:Bw vA v)=>aD ((aa HA v (ah (aa BA) W)).1.2.1.1 2 _ rfl) ((aa HA v (ah (aa BA) W)).1.2.1.1 4 _ rfl));have RW:=af (λ(v:G)(W:Bw vA v)=>aD (aa HA v (ah (aa BA) W)).2.2.2.1 (aa HA v (ah (aa BA) W)).2.2.2.2.1)
 go_cut[6](λbv wc=>∃bz pa ca pb cb,bv=Pz bz/\O (U (Q vA)<=bz)/\O (bz<U (Q wc))/\O (aO wc bz [.S pa np ca,.S pb nv cb,.U 0,.I 0,aq,.U 0,.U 0,aq])/\O (∃cur,wc.heap[bz]?=dO cur 69)/\O (TC B wc (.S pa np ca) P)/\O (TC B wc (.S pb nv cb) V)/\O (Bw vA wc))
 case first=>(
 refine fK (λw'=>I w' (Ax w 2)=dS pp np cp/\I w' (Ax w 4)=dS pq nv cv) (by rw[<-de];exact aa SA vA BR) λhS=>?_;rw[<-de]at hS⊢;clear de cQ;let⟨v,hvv⟩:=aF vA;have BV:O (Bw vA v):=by rw[hvv];exact aa BR
 rw[<-hvv]at hS⊢;clear hvv;refine iL 0 1 3 4 hS ?_
 iterate 3 (
  all_goals(first|refine uz 2 (λKK hK=>?_)|refine uz 5 (λKK hK=>?_)|refine uz 7 (λKK hK=>?_)|refine yA 2 7 (λKK hK=>?_) (λKK hK=>?_)|refine yA 5 7 (λKK hK=>?_) (λKK hK=>?_))
  all_goals(first
   |(
    refine Tag.go 2 (js (Dp eP (aa RW _ BV).1 ae) ?_);rintro r v'⟨pa,ca,rfl,o,hb⟩;refine⟨_,rfl,?_⟩;have OA:=af (o.tc (B:=B) (aM BV.size));clear o)
   |(
    refine Tag.go 5 (js (Dp eV (aa RW _ BV).2 ae) ?_);rintro r v'⟨pb,cb,rfl,o,hb⟩;refine⟨_,rfl,?_⟩;have OB:=af (o.tc (B:=B) (aM BV.size));have T6:=gQ;clear o)
   |(
    refine Tag.go 7 ?_;go_simp;let⟨v',hZ,hb,z9,CZ0,CT0⟩:=bM v #[aq,aq,.U 0,.I 0,aq,.U 0,.U 0,aq] 69;rw[<-hZ];have fy:=af (show U (Q vA)<=U v.heap from BV.size);let⟨bz,ebz⟩:=aF (U (Q v));rw[<-ebz]at CZ0 CT0 fy⊢;have D:=dy (by omega:bz<U (Q v')) CZ0 (⟨_,CT0⟩:∃cur,v'.heap[bz]?=dO cur 69);clear hZ CZ0 CT0 ebz z9))
  all_goals(
   have zb:=hb.size
   try have OA:=af (OA.T (bH hb))
   try have OB:=af (OB.T (bH hb))
   try have D:=dy (mj D.1 zb) (D.2.1.H D.1 hb) (D.2.2.imp λcur hc=>(hb.block _ D.1).Z hc)
   have BV:=af (BV.Z (hb.h BV.size));refine bQ hK (by exact SA _ BV) λhS=>?_;clear hK KK hb zb
   try(
    clear T6;refine tk 6 hS (h:=?_);simp only[Act.put,xa,xb,xc])
   rename G=>v
   skip))
 all_goals(
  refine ft 8 (λKK hK=>?_);obtain⟨c0,c1,c2,c3,c4,c5,c6,c7,cf⟩:_/\_/\_/\_/\_/\_/\_/\_/\_:=⟨D.2.1.1 0 _ rfl,D.2.1.1 1 _ rfl,D.2.1.1 2 _ rfl,D.2.1.1 3 _ rfl,D.2.1.1 4 _ rfl,D.2.1.1 5 _ rfl,D.2.1.1 6 _ rfl,D.2.1.1 7 _ rfl,D.2.1.2⟩;go_simp;let⟨iY,hY⟩:=aF (oR v bz (.S pa np ca) (.S pb nv cb) (.U 0) (.I 0) aq (.U 0) (.U 0) aq);have NY:=af (dq5 D.2.1 (v0:=.S pa np ca) (v1:=.S pb nv cb) (v2:=.U 0) (v3:=.I 0) (v4:=aq) (v5:=.U 0) (v6:=.U 0) (v7:=aq));have bY:=uV (w:=v) (b:=bz) (v0:=.S pa np ca) (v1:=.S pb nv cb) (v2:=.U 0) (v3:=.I 0) (v4:=aq) (v5:=.U 0) (v6:=.U 0) (v7:=aq);rw[<-hY]at NY bY;let⟨TY,FY⟩:=bU2 (v0:=.S pa np ca) (v1:=.S pb nv cb) (v2:=.U 0) (v3:=.I 0) (v4:=aq) (v5:=.U 0) (v6:=.U 0) (v7:=aq) D.2.2;rw[<-hY]at TY FY;unfold oR fv at hY;rw[<-hY];have BY:=af (BV.Z (bY.h fy));refine hK.out _ _ (by exact SA iY BY) (λhS=>?_);clear hK KK hY c0 c1 c2 c3 c4 c5 c6 c7 cf;refine ga ?_;clear hS
  go_wp21
  go_meet;exact⟨bz,pa,ca,pb,cb,rfl,fy,af (mj D.1 bY.size),NY,TY,af (OA.T FY),af (OB.T FY),BY⟩))
 case rest=>(
 obtain⟨bz,pa,ca,pb,cb,rfl,fy,gJ,D,CT,OA,OB,BC⟩:=hcut;have zC:=BC.size;have ba2:=aa gJ;have dK7:=aa fy;obtain⟨M,eO⟩:∃M,O ((if F=1 then S else 0)=M):=⟨_,rfl⟩;have X:=aa E9;rw[aa eO]at X;have E7:=af X;clear X E9;have o1:=(aa HA wc (ah BA BC)).1.2.1.1 1 _ rfl;have o3:=(aa HA wc (ah BA BC)).1.2.1.1 3 _ rfl;have n2:=D.1 2 _ rfl;have nf:=D.2
 go_upto_if 40 with fail
 go_cut[](λwd=>O (aO wd bz [.S pa np ca,.S pb nv cb,.U M,.I 0,aq,.U 0,.U 0,aq])/\O (∃cur,wd.heap[bz]?=dO cur 69)/\O (TC B wd (.S pa np ca) P)/\O (TC B wd (.S pb nv cb) V)/\O (Bw vA wd)/\O (bz<U (Q wd)))
 case first=>(
 by_cases hF:F=1;{
 have hF':(F==1):=by simp[hF]
 obtain rfl:M=S:=by rw[<-aa eO,aK hF]
 clear hF
 go_wp21
 go_meet;have ts:=qn (j:=2) (u:=.U M) CT;exact⟨af (D.dt 2 ai (.U M)),ts.1,af (OA.T ts.2),af (OB.T ts.2),af (BC.setCell (p:=(Ad bz 2)) dK7 _),cg⟩};{
 have hF':(F==1)=dF:=by simp[hF]
 obtain rfl:M=0:=by rw[<-aa eO,aJ hF]
 clear hF
 go_wp21
 go_meet;exact⟨D,CT,OA,OB,BC,gJ⟩})
 case rest=>(
 obtain⟨wd,rfl⟩:=aF wc;clear D CT OA OB BC gJ ba2 zC o1 o3 n2 nf;obtain⟨D,-,OA,OB,BC,gJ⟩:=hcut;have ba2:=aa gJ;have zD:=BC.size;have BD:=af (ah BA BC);have HD:=af (λ(v:G)(W:Bw wd v)=>aD (aa HA v (ah (aa BD) W)) (aD (D.H ba2 W) (aD (OA.T (bH W)) (OB.T (bH W)))));clear D OA OB BC HA SA RW
 go_wp21
 go_loopw[7,8,9](λov dv iv wr=>∃(j:Nat)(L:List au)(dn:Bool)(nl:Nat)(po:OA)(co:Nat),j<=m/\iv=.I j/\dv=jO dn/\ov=.S po nl co/\Le L nl/\O (IG (jT j ns) (qU P V M)=(L,dn))/\O (di B (U (Q wd)) wr (.S po nl co) L)/\O (Bw wd wr)) (λ_ _ iv _=>m-(jN (intOf iv)))
 exact⟨0,[],dF,0,dN,0,cT _,rfl,rfl,rfl,rfl,cO,RT.nil _ _ _ _ _,aR _ _⟩;{
 obtain⟨j,L,dn,nl,po,co,hj,rfl,rfl,rfl,gM,hL,ho,aB⟩:=hrel;have zr:=aB.size;have xU:nl<4194300:=by have h1:=cf4 (qU P V M) (jT j ns) ([],dF);have h2:=PK j ns;have h3:=aa hL;unfold IG at h3;rw[h3,aa gM]at h1;simp only[xk]at h1;omega
 have s5:=(aa HD wr aB).1.1.1.1.1 5 _ rfl;by_cases aL:j<m;{
 have cM:=bR j m;obtain⟨x0,hx⟩:∃x0,ns[j]?=Y x0:=⟨_,bN (by rw[aa em];exact aL)⟩;have bD:=dH8 (nd:=(qU P V M)) hx;rw[aa hL]at bD;have il:=af bD;obtain⟨gn,Pv,Vv,Hv,Uv,rfl,-,-,c0,c1,c2,c3,c4,c5,c6,c7,tP,tV,tH,tU,-⟩:=di.at (aa HD wr aB).1.2.2.1 hx;obtain⟨pP,cP,rfl⟩:=tP.fO;obtain⟨pV,cV,rfl⟩:=tV.fO;obtain⟨pH,cH,rfl⟩:=tH.fO;obtain⟨pU,cU,rfl⟩:=tU.fO;have TT:=jq tP tV tH tU;have CC:=br c0 (aD c1 (aD c2 (aD c3 (aD c4 (aD c5 (aD c6 c7))))));have HX0:=af hx;let⟨T,eT⟩:=bL (!dn&&MB P x0.A);clear bD hx tP tV tH tU c0 c1 c2 c3 c4 c5 c6 c7
 go_wp21
 clear s5
 go_cut[65](λrv wc=>rv=jO T/\O (Bw wr wc))
 case first=>(
 refine Xv ?_;let⟨vB,hvB⟩:=aF wr.drew;have yR:=mW hvB;have BB:=af yR;have hD:=aa HD vB (ah aB yR);refine am9 (S:=λw'=>I w' (Aw w 5)=dK gn m d/\I w' (Ad gn (j*8))=dS pP (J x0.A) cP/\I w' (Ad bz 0)=dS pa np ca/\Rd w' (.S pP (J x0.A) cP) x0.A/\Rd w' (.S pa np ca) P) aU (by rw[<-hvB];exact⟨hD.1.1.1.1.1 5 _ rfl,aj CC.1 yR,hD.2.1.1 0 _ rfl,TT.1.1.H yR,hD.2.2.1.1⟩) (λhS=>?_);rw[<-hvB]at hS⊢;clear hvB yR hD;cases dn;{
 have LY:O ((!Op.bytesLess (bf x0.A).toList (bf P).toList&&!(bf x0.A).toList==(bf P).toList)=T):=eT;refine jh 0 1 2 3 4 5 6 7 hS ?_;refine tn 8 hS ?_;refine Iy (i:=9) (oi:=_) (v:=?_) (by simp only[uB,vF,vE];rfl) aU aU aU (λ_ _ _ h=>h) (Or.L ⟨aP,?_⟩) hS ?_;rotate_left;{(intro w' nR;(try dsimp only at nR);have hcv:=uS rfl nR.2.2.2.1;go_simp;try with_reducible rfl)}
 simp only[Act.put,xa,xb,xc];refine gh 10 11 hS ?_;refine Iy (i:=12) (oi:=_) (v:=?_) (by simp only[uB,vF,vE];rfl) aU aU aU (λ_ _ _ h=>h) (Or.L ⟨aP,?_⟩) hS ?_;rotate_left;{(intro w' nR;(try dsimp only at nR);have hcv:=uS eP nR.2.2.2.2;go_simp;try with_reducible rfl)}
 simp only[Act.put,xa,xb,xc];refine Iy (i:=13) (oi:=_) (v:=?_) (by simp only[uB,vF,vE];rfl) aU aU aU (λ_ _ _ h=>h) (Or.L ⟨aP,?_⟩) hS ?_;rotate_left;{(intro w' nR;(try dsimp only at nR);have hle:=aa LY;go_simp;try with_reducible rfl)}
 simp only[Act.put,xa,xb,xc];refine tn 14 hS ?_;refine ga ?_;clear hS
 go_wp21
 go_meet;exact⟨rfl,BB⟩};{
 obtain rfl:T=dF:=eT.C;refine gh 0 1 hS ?_;refine tn 2 hS ?_;refine lT 3 4 5 6 hS ?_;refine lT 7 8 9 10 hS ?_;refine sn 11 hS ?_;refine sn 12 hS ?_;refine sn 13 hS ?_;refine tn 14 hS ?_;refine ga ?_;clear hS
 go_wp21
 go_meet;exact⟨rfl,BB⟩})
 case rest=>(
 obtain⟨wx,rfl⟩:=aF wc;obtain⟨rfl,hbx⟩:=hcut;have nY:=af (ah aB hbx);have Wf:=af (di.T ho (bH hbx));have zx:=hbx.size;clear TT CC ho;have s5:=(aa HD wx nY).1.1.1.1.1 5 _ rfl;cases T;{have E1:=af (by have:=aa il;rw[xo,aJ (λh=>by obtain⟨ha,hb⟩:=h;have h2:=aa eT;rw[show dn=dF from ha,show MB P x0.A=dY from hb]at h2;cases h2)]at this;exact this:IG (jT (j+1) ns) (qU P V M)=(L++[x0],dn));obtain⟨Vl,Pv,Vv,Hv,Uv,eg,-,-,c0,c1,c2,c3,c4,c5,c6,c7,tP,tV,tH,tU,-⟩:=di.at (aa HD wx nY).1.2.2.1 HX0;obtain⟨rfl,-⟩:=By eg;obtain⟨pP,cP,rfl⟩:=tP.fO;obtain⟨pV,cV,rfl⟩:=tV.fO;obtain⟨pH,cH,rfl⟩:=tH.fO;obtain⟨pU,cU,rfl⟩:=tU.fO;have TT:=jq tP tV tH tU;clear tP tV tH tU;let⟨v8,Z⟩:=aF (jA wx (dO #[.S pP (J x0.A) cP,.S pV (J x0.V) cV,.U x0.D,.I x0.M,.S pH (J x0.y) cH,.U x0.P,.U x0.F,.S pU (J x0.X) cU] 69));have y:=ij Z;have Cy:=dy (di.T Wf (bH y)) (show yW B v8 x0 [.S pP (J x0.A) cP,.S pV (J x0.V) cV,.U x0.D,.I x0.M,.S pH (J x0.y) cH,.U x0.P,.U x0.F,.S pU (J x0.X) cU]from⟨_,_,_,_,rfl,TC.T TT.1 (bH y),TC.T TT.2.1 (bH y),TU.T TT.2.2.1 (bH y),TU.T TT.2.2.2 (bH y)⟩) (show aO v8 (U (Q wx)) _ by rw[Z];exact aO.alloc _ _ _);have MR:=af λb e=>(Wf.lt b e).1;have Oa:=af y;have z38:=y.size;have zw8:=nY.size;clear y;go_wp2_with(at_builtin;rw[<-Z];refine Wz rfl rfl (.S po nl co) gM rfl Cy.1 (U (Q wx)) rfl Cy.2.1 Cy.2.2.1 ae ae ?_);intro p8 c8 w8 o2 dz _;rw[<-Z]at dz;have b8:=af ((ah nY Oa).grown dz ae MR);have O8:=af o2;clear dz o2 Z Cy MR Oa c0 c1 c2 c3 c4 c5 c6 c7 s5;go_wp2;go_roundw;exact⟨j+1,_,dn,nl+1,_,_,ae,by go_num,rfl,rfl,af (by rw[eG,aa gM];rfl),E1,O8,b8⟩;exact dh};{
 have hdn:dn=dF/\MB P x0.A:=by have:=aa eT;cases dn<;>simp_all
 obtain⟨rfl,Ex⟩:=hdn;have E1:=af (by have:=aa il;rw[xo,aK ⟨rfl,Ex⟩]at this;exact this:IG (jT (j+1) ns) (qU P V M)=(L++[(qU P V M)]++[x0],dY));clear Ex;have D:=af (aa HD wx nY).2.1;let⟨n0,n1,n2,n3,n4,n5,n6,n7⟩:=Sk D.1;let⟨v8,Z⟩:=aF (jA wx (dO #[.S pa np ca,.S pb nv cb,.U M,.I 0,aq,.U 0,.U 0,aq] 69));have y:=ij Z;have Cy:=dy (di.T Wf (bH y)) (show yW B v8 (qU P V M) [.S pa np ca,.S pb nv cb,.U M,.I 0,aq,.U 0,.U 0,aq]from⟨_,_,_,_,rfl,TC.T (aa HD wx nY).2.2.1 (bH y),TC.T (aa HD wx nY).2.2.2 (bH y),TU.nil _,TU.nil _⟩) (show aO v8 (U (Q wx)) _ by rw[Z];exact aO.alloc _ _ _);have MR:=af λb e=>(Wf.lt b e).1;have Oa:=af y;have z38:=y.size;have zw8:=nY.size;clear y;go_wp2_with(at_builtin;rw[<-Z];refine Wz rfl rfl (.S po nl co) gM rfl Cy.1 (U (Q wx)) rfl Cy.2.1 Cy.2.2.1 ae ae ?_);intro p8 c8 w8 o2 dz _;rw[<-Z]at dz;have b8:=af ((ah nY Oa).grown dz ae MR);have O8:=af o2;clear dz o2 Z Cy MR Oa n0 n1 n2 n3 n4 n5 n6 n7 s5 D;have cy0:=af (by rw[eG,aa gM];rfl:J (L++[(qU P V M)])=nl+1);have s5:=(aa HD w8 b8).1.1.1.1.1 5 _ rfl;obtain⟨Vl,Pv,Vv,Hv,Uv,eg,-,-,c0,c1,c2,c3,c4,c5,c6,c7,tP,tV,tH,tU,-⟩:=di.at (aa HD w8 b8).1.2.2.1 HX0;obtain⟨rfl,-⟩:=By eg;obtain⟨pP,cP,rfl⟩:=tP.fO;obtain⟨pV,cV,rfl⟩:=tV.fO;obtain⟨pH,cH,rfl⟩:=tH.fO;obtain⟨pU,cU,rfl⟩:=tU.fO;have TT:=jq tP tV tH tU;clear tP tV tH tU;let⟨v9,Yh⟩:=aF (jA w8 (dO #[.S pP (J x0.A) cP,.S pV (J x0.V) cV,.U x0.D,.I x0.M,.S pH (J x0.y) cH,.U x0.P,.U x0.F,.S pU (J x0.X) cU] 69));have y:=ij Yh;have HX9:=dy (di.T O8 (bH y)) (show yW B v9 x0 [.S pP (J x0.A) cP,.S pV (J x0.V) cV,.U x0.D,.I x0.M,.S pH (J x0.y) cH,.U x0.P,.U x0.F,.S pU (J x0.X) cU]from⟨_,_,_,_,rfl,TC.T TT.1 (bH y),TC.T TT.2.1 (bH y),TU.T TT.2.2.1 (bH y),TU.T TT.2.2.2 (bH y)⟩) (show aO v9 (U (Q w8)) _ by rw[Yh];exact aO.alloc _ _ _);have ck3:=af λb e=>(O8.lt b e).1;have b39:=af y;have z39:=y.size;have zw9:=b8.size;clear y;go_wp2_with(at_builtin;rw[<-Yh];refine Wz rfl rfl (.S p8 (nl+1) c8) cy0 rfl HX9.1 (U (Q w8)) rfl HX9.2.1 HX9.2.2.1 ae ae ?_);intro p9 c9 w9 o2 dz _;rw[<-Yh]at dz;have b9:=af ((ah b8 b39).grown dz ae ck3);have O9:=af o2;clear dz o2 Yh HX9 ck3 b39 c0 c1 c2 c3 c4 c5 c6 c7 s5;go_wp2;go_roundw;exact⟨j+1,_,dY,nl+1+1,_,_,ae,by go_num,rfl,rfl,af (by rw[eG,aa cy0];rfl),E1,af (by rw[pO];exact aa O9),b9⟩
 case measure=>simp[intOf];omega})}
 {
 have cM:=fG j m;have e1:=aa hL;rw[od (by rw[aa em];omega)]at e1;have e2:=dH9 ns (qU P V M);rw[e1]at e2;have E2:=af e2;let⟨N,eN⟩:=bL (J (qJ (qU P V M) ns));clear e1 e2
 go_upto_if 79 with fail
 clear s5
 go_cut[7](λov wc=>∃p' c',ov=.S p' N c'/\O (di B (U (Q wd)) wc (.S p' N c') (qJ (qU P V M) ns))/\O (Bw wd wc))
 case first=>(
 cases dn;{
 have e2:L++[(qU P V M)]=qJ (qU P V M) ns:=aa E2;have Fb:nl+1=N:=by rw[<-aa eN,<-e2,eG,aa gM];rfl
 have EN:=br e2 Fb;clear e2 Fb;have D:=af (aa HD wr aB).2.1;let⟨n0,n1,n2,n3,n4,n5,n6,n7⟩:=Sk D.1;let⟨v8,Z⟩:=aF (jA wr (dO #[.S pa np ca,.S pb nv cb,.U M,.I 0,aq,.U 0,.U 0,aq] 69));have y:=ij Z;have Cy:=dy (di.T ho (bH y)) (show yW B v8 (qU P V M) [.S pa np ca,.S pb nv cb,.U M,.I 0,aq,.U 0,.U 0,aq]from⟨_,_,_,_,rfl,TC.T (aa HD wr aB).2.2.1 (bH y),TC.T (aa HD wr aB).2.2.2 (bH y),TU.nil _,TU.nil _⟩) (show aO v8 (U (Q wr)) _ by rw[Z];exact aO.alloc _ _ _);have MR:=af λb e=>(ho.lt b e).1;have Oa:=af y;have z38:=y.size;have zw8:=aB.size;clear y;go_wp2_with(at_builtin;rw[<-Z];refine Wz rfl rfl (.S po nl co) gM rfl Cy.1 (U (Q wr)) rfl Cy.2.1 Cy.2.2.1 ae ae ?_);intro p8 c8 w8 o2 dz _;rw[<-Z]at dz;have b8:=af ((ah aB Oa).grown dz ae MR);have O8:=af o2;clear dz o2 Z Cy MR Oa n0 n1 n2 n3 n4 n5 n6 n7 D
 go_wp21
 go_meet;have o8:=aa O8;rw[EN.2,EN.1]at o8;exact⟨p8,c8,by rw[EN.2],o8,b8⟩};{
 have e2:L=qJ (qU P V M) ns:=aa E2;have Fb:nl=N:=by rw[<-aa eN,<-e2,aa gM]
 go_wp21
 go_meet;have o8:=aa ho;rw[Fb,e2]at o8;exact⟨po,co,rfl,o8,aB⟩})
 case rest=>(
 obtain⟨wy,rfl⟩:=aF wc;obtain⟨p',c',rfl,NY,BY⟩:=hcut;obtain⟨LW,SW,-,-,-,BW⟩:=(aa HD wy BY).1;let⟨k0,k1,k2,k3,k4,k5,kf⟩:=LW.1.cells;let⟨q0,q1,q2,q3,q4,q5,qf⟩:=LW.2.2.1.cells;let⟨r0,r1,r2,r3,r4,r5,r6,r7,rf⟩:=LW.2.2.2.cells;let⟨fF,bF⟩:=LW.fin 5 (.S p' N c') (.U e) (.U g) (.U x) (.I t) (.S p n c) (.S p' N c') (.I 0) (.U 0) (.U 0) (.U 0) (.I 0) aV aV aV;have HF:=jq fF bF SW BW;have zB:=BW.size;clear LW SW BW fF bF;go_wp2;refine bO (v:=dT #[bS e g x t (.S p n c) (.S p' N c'),mB 0 0 0 0 0 aV aV aV]) (by simp[results,results111,go_sem,k0,k1,k2,k3,k4,k5,q0,q1,q2,q3,q4,q5,r0,r1,r2,r3,r4,r5,r6,r7]) rfl ?_;rw[<-aa E7];exact QR.num en eN HF.2.2.1 (RT.h NY ae) (Fr.H HF.2.2.2) (HF.2.2.2.h hB) HF.1 HF.2.1 hB 0 0 0 0 0)}}))}}}
end Go.Proofs.YtpkakgkipopiaaaGreatDoor
