import Derived.Test.YtkakbcaiplggiaaGreatDoorK5
namespace Go.Proofs.YtkakbcaiplggiaaGreatDoor
set_option maxHeartbeats 12800000
set_option linter.all false
set_option maxRecDepth 100000
open Go.ChangeShapes Go.WideShapes Go.ChangeAt Go.RowKit
variable {A:List Lf}{B B' B0 b b' b1 b2 d i j k m t2 t3:Nat}{D:SD}{Ls:List (List Lf)}{Qs c vs:List Value}{a:Act}{cs:List (List Value)}{cur:Array Value}{e g t x:Int}{es:List Ev}{fn:Func}{l:LI}{nd:aC}{ns:List aC}{o:Oper}{o0 o1 o2 o3 o4 o5 r0 r1 r2 r3 r4 r5 r6 r7 u v v' v0 v1 v2 v3 v4 v5 v6 v7:Value}{ops:Array Oper}{p:OA}{ps:String}{s:aP}{ss xs:List aP}{ty:TypeId}
def OwnT.read{α:Type}{el:World->α->List Value->List Lf->Prop}{sz B:Nat}{w:World}{xs:List α}(h:OwnT el ty sz B w v xs Ls):∃p cap,v=.S p xs.length cap/\(xs=[]\/∃g,p=some (Ad g 0)/\∀(i:Nat)(x:α),xs[i]?=some x->∃c l,el w x c l/\∀(j:Nat)(u:Value),c[j]?=some u->w.cell? (Ad g (0+i*sz+j))=some u):=by
 obtain⟨cs,h1,h2,h3,h4,h5,h6,h7⟩:=h;rcases id h4.2 with⟨rfl,h0⟩|⟨g,cap,cur,rfl,hb,hg,-,-,-,-⟩;{exact⟨none,0,by rw[h0],.inl (sV.1 h0)⟩};{
 refine⟨_,cap,rfl,.inr ⟨g,rfl,λi x hx=>?_⟩⟩;have hi:=(bf.1 hx).1;obtain⟨c,hc⟩:∃x,cs[i]?=some x:=⟨_,bD ae⟩;obtain⟨l,hl⟩:∃x,Ls[i]?=some x:=⟨_,bD ae⟩;refine⟨c,l,h5 i x c l hx hc hl,λj u hu=>?_⟩;have hlen:c.length=sz:=h3 c (aY hc);have hj:j<sz:=aG (bf.1 hu).1;have hks:i*sz+sz<=xs.length*sz:=by rw[<-Ml];exact Qp _ hi
 rw[kS,h4.cellAt (i*sz+j) ae,AD h3 hc hj];exact hu}
def OwnT.ev{w:World}(h:OwnT bI9 190 2 B w v es Ls):rE w v es/\∃A,Ep w v es A/\nI B w A:=by
 refine⟨?_,h.lv (Vf w) λx c l b a vd hc hf cg ka bj=>?_⟩;{obtain⟨p,cap,rfl,hd⟩:=h.read;refine⟨p,cap,rfl,?_⟩;rcases hd with hd|⟨g,rfl,hd⟩;{exact .inl hd};{refine .inr ⟨g,0,rfl,λi e he=>?_⟩;obtain⟨c,l,⟨p',cc,rfl,h2,h3,h4⟩,cW⟩:=hd i e he;exact⟨cW 0 _ rfl,_,cW 1 _ rfl,h2,h3⟩}};{obtain⟨p',cc,rfl,h2,h3,h4⟩:=vd;refine⟨⟨b,a,.i64⟩::l,⟨p',cc,l,rfl,hc 1 _ rfl,h4⟩,?_,?_,λy hy=>?_⟩;{rw[iM,Ah];refine⟨λhm=>?_,bj⟩;obtain⟨y,hy,e⟩:=ji.1 hm;simp only[fQ]at e;exact cg y hy e.1};{intro y hy;rcases jG.1 hy with rfl|hy;{exact⟨⟨_,hc 0 _ rfl⟩,hf _⟩};{exact ka y hy}};{rcases jG.1 hy with rfl|hy;{exact .inr ⟨rfl,ai,ai⟩};{exact .inl hy}}}
def OwnT.se{w:World}{es:List aP}(h:OwnT lp 84 3 B w v es Ls):mg w v es/\∃A,wS w v es A/\nI B w A:=by
 refine⟨?_,h.lv (Iw w) λx c l b a vd hc hf cg ka bj=>?_⟩;{obtain⟨p,cap,rfl,hd⟩:=h.read;refine⟨p,cap,rfl,?_⟩;rcases hd with hd|⟨g,rfl,hd⟩;{exact .inl hd};{refine .inr ⟨g,0,rfl,λi e he=>?_⟩;obtain⟨c,l,⟨p',cc,rfl,h2,h3⟩,cW⟩:=hd i e he;exact⟨cW 0 _ rfl,cW 1 _ rfl,_,cW 2 _ rfl,h2⟩}};{obtain⟨p',cc,rfl,h2,h3⟩:=vd;refine⟨⟨b,a,.u64⟩::⟨b,a+1,.i64⟩::l,⟨p',cc,l,rfl,hc 2 _ rfl,h3⟩,?_,?_,λy hy=>?_⟩;{rw[iM,Ah,iM,Ah];refine⟨λhm=>?_,λhm=>?_,bj⟩;{rcases jG.1 hm with e|hm;{simp at e};{obtain⟨y,hy,e⟩:=ji.1 hm;simp only[fQ]at e;exact cg y hy e.1}};{obtain⟨y,hy,e⟩:=ji.1 hm;simp only[fQ]at e;exact cg y hy e.1}};{intro y hy;rcases jG.1 hy with rfl|hy;{exact⟨⟨_,hc 0 _ rfl⟩,hf _⟩};{rcases jG.1 hy with rfl|hy;{exact⟨⟨_,hc 1 _ rfl⟩,hf _⟩};{exact ka y hy}}};{rcases jG.1 hy with rfl|hy;{exact .inr ⟨rfl,ai,ai⟩};{rcases jG.1 hy with rfl|hy;{exact .inr ⟨rfl,ai,ai⟩};{exact .inl hy}}}}
def J1{A':List Lf}{a:Nat}{k1 k2:IntKind}(kr:i≠j)(h:((A++A').map λa=>(a.b,a.o)).Nodup)(cg:∀y∈A++A',y.b≠b\/(y.o≠a+i/\y.o≠a+j)):((A++(⟨b,a+i,k1⟩::⟨b,a+j,k2⟩::A')).map λa=>(a.b,a.o)).Nodup:=by
 rw[kT,BS]at h⊢;obtain⟨n1,n2,n3⟩:=h;refine⟨n1,?_,λx hx y hy=>?_⟩;{rw[iM,Ah,iM,Ah];refine⟨λhm=>?_,λhm=>?_,n2⟩;{rcases jG.1 hm with e|hm;{simp at e;exact kr e};{obtain⟨y,hy,e⟩:=ji.1 hm;simp only[fQ]at e;rcases cg y (by simp[hy])with h|h;{exact h e.1};{exact h.1 e.2}}};{obtain⟨y,hy,e⟩:=ji.1 hm;simp only[fQ]at e;rcases cg y (by simp[hy])with h|h;{exact h e.1};{exact h.2 e.2}}};{obtain⟨z,hz,rfl⟩:=ji.1 hx;have Od:=cg z (by simp[hz]);rw[iM,iM]at hy;rcases jG.1 hy with rfl|hy;{intro e;simp only[fQ]at e;rcases Od with h|h;{exact h e.1};{exact h.1 e.2}};{rcases jG.1 hy with rfl|hy;{intro e;simp only[fQ]at e;rcases Od with h|h;{exact h e.1};{exact h.2 e.2}};{exact n3 _ (Qn hz) _ hy}}}
def OwnT.no{w:World}{es:List aC}(h:OwnT jC 119 8 B w v es Ls):oU w v es/\∃A,xy w v es A/\nI B w A:=by
 refine⟨?_,h.lv (JD w) λx c l b a vd hc hf cg ka bj=>?_⟩;{obtain⟨p,cap,rfl,hd⟩:=h.read;refine⟨p,cap,rfl,?_⟩;rcases hd with hd|⟨g,rfl,hd⟩;{exact .inl hd};{refine .inr ⟨g,0,rfl,λi e he=>?_⟩;obtain⟨c,l,⟨p0,c0,p1,c1,p4,c4,p7,c7,l0,l1,l4,l7,-,rfl,⟨h3,h4,h5⟩,⟨h6,h7⟩,⟨h8,h9⟩,⟨h10,h11⟩⟩,cW⟩:=hd i e he;exact⟨_,_,_,_,⟨cW 0 _ rfl,cW 1 _ rfl,cW 2 _ rfl,cW 3 _ rfl,cW 4 _ rfl,cW 5 _ rfl,cW 6 _ rfl,cW 7 _ rfl,h3,h6,h8,h10,h4⟩⟩}};{
 obtain⟨p0,c0,p1,c1,p4,c4,p7,c7,l0,l1,l4,l7,rfl,rfl,⟨h3,h4,h5⟩,⟨h6,h7⟩,⟨h8,h9⟩,⟨h10,h11⟩⟩:=vd;refine⟨l0++(l1++(⟨b,a+2,.u64⟩::⟨b,a+3,.i64⟩::(l4++(⟨b,a+5,.u64⟩::⟨b,a+6,.u64⟩::l7)))),
  ⟨p0,c0,p1,c1,p4,c4,p7,c7,l0,l1,l4,l7,rfl,⟨hc 0 _ rfl,h5⟩,⟨hc 1 _ rfl,h7⟩,⟨hc 4 _ rfl,h9⟩,⟨hc 7 _ rfl,h11⟩⟩,?_,?_,λy hy=>?_⟩
 {
 have s1:(((l0++(l1++l4))++(⟨b,a+5,.u64⟩::⟨b,a+6,.u64⟩::l7)).map λa=>(a.b,a.o)).Nodup:=J1 aZ (by simpa using bj) (λy hy=>.inl (cg y (by simpa using hy)));have s2:=J1 (A:=l0++l1) (A':=l4++(⟨b,a+5,.u64⟩::⟨b,a+6,.u64⟩::l7)) (b:=b) (a:=a) (k1:=.u64) (k2:=.i64) (i:=2) (j:=3) aZ (by simpa using s1) (λy hy=>by simp only[gM,jG]at hy;rcases hy with(hy|hy)|hy|rfl|rfl|hy;{exact .inl (cg y (by simp[hy]))};{exact .inl (cg y (by simp[hy]))};{exact .inl (cg y (by simp[hy]))};{exact .inr ai};{exact .inr ai};{exact .inl (cg y (by simp[hy]))})
 simpa using s2};{intro y hy;simp only[gM,jG]at hy;rcases hy with hy|hy|rfl|rfl|hy|rfl|rfl|hy;{exact ka y (by simp[hy])};{exact ka y (by simp[hy])};{exact⟨⟨_,hc 2 _ rfl⟩,hf _⟩};{exact⟨⟨_,hc 3 _ rfl⟩,hf _⟩};{exact ka y (by simp[hy])};{exact⟨⟨_,hc 5 _ rfl⟩,hf _⟩};{exact⟨⟨_,hc 6 _ rfl⟩,hf _⟩};{exact ka y (by simp[hy])}};{simp only[gM,jG]at hy;rcases hy with hy|hy|rfl|rfl|hy|rfl|rfl|hy;{exact .inl (by simp[hy])};{exact .inl (by simp[hy])};{exact .inr ⟨rfl,ai,ai⟩};{exact .inr ⟨rfl,ai,ai⟩};{exact .inl (by simp[hy])};{exact .inr ⟨rfl,ai,ai⟩};{exact .inr ⟨rfl,ai,ai⟩};{exact .inl (by simp[hy])}}}
def wS.keep{w w':World}(h:wS w v xs A)(hk:∀a∈A,w'.heap[a.b]?=w.heap[a.b]?):wS w' v xs A:=by
 refine h.imp λx b a l hx iE hP=>?_;obtain⟨p,c,lb,h1,h2,h3⟩:=hP;refine⟨p,c,lb,h1,?_,Ep.keep h3 (λy hy=>hk y (iE y (by rw[h1];simp[hy])))⟩;have:w'.heap[b]?=w.heap[b]?:=hk ⟨b,a,.u64⟩ (iE _ (by rw[h1];simp));exact(aF this _).trans h2
def xy.keep{w w':World}{xs:List aC}(h:xy w v xs A)(hk:∀a∈A,w'.heap[a.b]?=w.heap[a.b]?):xy w' v xs A:=by
 refine h.imp λx b a l hx iE hP=>?_;obtain⟨p0,c0,p1,c1,p4,c4,p7,c7,l0,l1,l4,l7,h1,⟨h2,h3⟩,⟨h4,h5⟩,⟨h6,h7⟩,⟨h8,h9⟩⟩:=hP;have:w'.heap[b]?=w.heap[b]?:=hk ⟨b,a+2,.u64⟩ (iE _ (by rw[h1];simp));have hc:=aF this;exact⟨p0,c0,p1,c1,p4,c4,p7,c7,l0,l1,l4,l7,h1,⟨(hc _).trans h2,h3⟩,⟨(hc _).trans h4,h5⟩,⟨(hc _).trans h6,h7⟩,⟨(hc _).trans h8,h9⟩⟩
def mg.dR{w w':World}(h:mg w v xs)(hl:wS w v xs A)(hk:∀a∈A,w'.heap[a.b]?=w.heap[a.b]?):mg w' v xs:=by
 obtain⟨p,c,rfl,hd⟩:=h;refine⟨p,c,rfl,?_⟩;rcases hd with hd|⟨b,o,rfl,hd⟩;{exact .inl hd};{
 refine .inr ⟨b,o,rfl,λi e he=>?_⟩;obtain⟨Ls,en,lL,eA,fT⟩:=hl.at;obtain⟨b',o',x,l,e1,hx,EP,hP,-,iE⟩:=fT i (bf.1 he).1;obtain⟨rfl,rfl⟩:=yD e1;rw[he]at hx;cases hx;obtain⟨q,cc,lb,e2,h2,h3⟩:=hP;have hb:w'.heap[b]?=w.heap[b]?:=hk ⟨b,o+i*3,.u64⟩ (iE _ (by rw[e2];simp));obtain⟨r1,r1',u,r2,r3⟩:=hd i e he;have:u=.S q e.2.2.length cc:=by rw[h2]at r2;exact(DZ r2).symm
 subst this;exact⟨(aF hb _).trans r1,(aF hb _).trans r1',_,(aF hb _).trans r2,r3.dR h3 (λa ha=>hk a (iE a (by rw[e2];simp[ha])))⟩}
def oU.dR{w w':World}{xs:List aC}(h:oU w v xs)(hl:xy w v xs A)(hk:∀a∈A,w'.heap[a.b]?=w.heap[a.b]?):oU w' v xs:=by
 obtain⟨p,c,rfl,hd⟩:=h;refine⟨p,c,rfl,?_⟩;rcases hd with hd|⟨b,o,rfl,hd⟩;{exact .inl hd};{
 refine .inr ⟨b,o,rfl,λi e he=>?_⟩;obtain⟨Ls,en,lL,eA,fT⟩:=hl.at;obtain⟨b',o',x,l,e1,hx,EP,hP,-,iE⟩:=fT i (bf.1 he).1;obtain⟨rfl,rfl⟩:=yD e1;rw[he]at hx;cases hx;obtain⟨p0,c0,p1,c1,p4,c4,p7,c7,l0,l1,l4,l7,e2,⟨h2,h3⟩,⟨h4,h5⟩,⟨h6,h7⟩,⟨h8,h9⟩⟩:=hP;have hb:w'.heap[b]?=w.heap[b]?:=hk ⟨b,o+i*8+2,.u64⟩ (iE _ (by rw[e2];simp));have hc:=aF hb;obtain⟨P,V,H,U,na⟩:=hd i e he;have q0:P=_:=DZ (na.c0.symm.trans h2);have q1:V=_:=DZ (na.c1.symm.trans h4);have q4:H=_:=DZ (na.c4.symm.trans h6);have q7:U=_:=DZ (na.c7.symm.trans h8);subst q0 q1 q4 q7;have hs:∀y,(y∈l0\/y∈l1\/y∈l4\/y∈l7)->w'.heap[y.b]?=w.heap[y.b]?:=λy hy=>hk y (iE y (by rw[e2];rcases hy with hy|hy|hy|hy<;>simp[hy]));exact⟨_,_,_,_,⟨(hc _).trans na.c0,(hc _).trans na.c1,(hc _).trans na.c2,(hc _).trans na.c3,(hc _).trans na.c4,(hc _).trans na.c5,(hc _).trans na.c6,(hc _).trans na.c7,
  na.r0.dR h3 (λa ha=>hs a (.inl ha)),na.r1.dR h5 (λa ha=>hs a (.inr (.inl ha))),na.r4.dR h7 (λa ha=>hs a (.inr (.inr (.inl ha)))),na.r7.dR h9 (λa ha=>hs a (.inr (.inr (.inr ha)))),na.k0⟩⟩}
theorem ao6{sz:Nat}(h:∀c∈cs,c.length=sz)(hc:cs[i]?=some c)(hj:j<sz)(u:Value):(cs.set i (c.set j u)).flatten=cs.flatten.set (i*sz+j) u:=by
 induction cs generalizing i with
 |nil=>simp at hc
 | cons d cs ih=>
  cases i with
  |zero=>
   simp at hc;subst hc;rw[GM,tY,tY,List.set_append_left _ _ (by rw[h d ai];omega)];simp
  |succ i=>
   rw[ae1,tY,tY,Qw _ _ (by rw[h d ai,Ml];omega),h d ai,ih (λc hc=>h c (by simp[hc])) (by simpa using hc)]
   congr 2
   rw[Ml];omega
def OwnT.ptr{α:Type}{el:World->α->List Value->List Lf->Prop}{sz B:Nat}{w:World}{n cap:Nat}{xs:List α}(h:OwnT el ty sz B w (.S p n cap) xs Ls)(hn:xs.length=n)(h0:0<n):∃g,p=some (Ad g 0)/\B<=g/\g<w.heap.size/\n<=cap:=by
 have hl:=h.lt;obtain⟨cs,h1,h2,h3,h4,h5,h6,h7⟩:=h;rcases h4.2 with⟨h',h''⟩|⟨g,yC,cur,h',hb,hg,xq,_⟩;{omega};{simp only[qZ]at h';obtain⟨rfl,-,rfl⟩:=h';exact⟨g,rfl,hb,(hl.1 g rfl).2,ae⟩}
def OwnT.uE{M:Nat}{w:World}{es:List aP}(h:OwnT lp 84 3 B w v es Ls)(hM:∀a∈Ls.flatten,a.b<M)(hv:∀b,v.ownBlock=some b->b<M):∃A,wS w v es A/\nI B w A/\∀a∈A,a.b<M:=by
 have h':OwnT (λw x c l=>lp w x c l/\∀y∈l,y.b<M) 84 3 B w v es Ls:=by obtain⟨cs,h1,h2,h3,h4,h5,h6,h7⟩:=h;exact⟨cs,h1,h2,h3,h4,λi x c l hx hc hl=>⟨h5 i x c l hx hc hl,λy hy=>hM y (Jc.2 ⟨l,aY hl,hy⟩)⟩,h6,h7⟩
 obtain⟨A,hA,hAp⟩:=h'.lv (λx b a l=>Iw w x b a l/\∀y∈l,y.b=b\/y.b<M) λx c l b a vd hc hf cg ka bj=>by obtain⟨⟨p',cc,rfl,h2,h3⟩,hlM⟩:=vd;refine⟨⟨b,a,.u64⟩::⟨b,a+1,.i64⟩::l,⟨⟨p',cc,l,rfl,hc 2 _ rfl,h3⟩,λy hy=>?_⟩,?_,?_,λy hy=>?_⟩;{rcases jG.1 hy with rfl|hy;{exact .inl rfl};{rcases jG.1 hy with rfl|hy;{exact .inl rfl};{exact .inr (hlM y hy)}}};{rw[iM,Ah,iM,Ah];refine⟨λhm=>?_,λhm=>?_,bj⟩;{rcases jG.1 hm with e|hm;{simp at e};{obtain⟨y,hy,e⟩:=ji.1 hm;simp only[fQ]at e;exact cg y hy e.1}};{obtain⟨y,hy,e⟩:=ji.1 hm;simp only[fQ]at e;exact cg y hy e.1}};{intro y hy;rcases jG.1 hy with rfl|hy;{exact⟨⟨_,hc 0 _ rfl⟩,hf _⟩};{rcases jG.1 hy with rfl|hy;{exact⟨⟨_,hc 1 _ rfl⟩,hf _⟩};{exact ka y hy}}};{rcases jG.1 hy with rfl|hy;{exact .inr ⟨rfl,ai,ai⟩};{rcases jG.1 hy with rfl|hy;{exact .inr ⟨rfl,ai,ai⟩};{exact .inl hy}}}
 refine⟨A,hA.imp λx b a l _ _ h=>h.1,hAp,λa ha=>?_⟩;obtain⟨p,c,LL,rfl,q1,rfl,q2⟩:=hA;obtain⟨l,hl,Uw⟩:=Jc.1 ha;obtain⟨i,hi⟩:=Cc hl;have KL:=(bf.1 hi).1;obtain⟨x,hx⟩:∃x,es[i]?=some x:=⟨_,bD ae⟩;rcases q2 with q2|⟨b,o,rfl,q2⟩;{subst q2;simp at hx};{rcases(q2 i x l hx hi).2 a Uw with e|e;{rw[e];exact hv b rfl};{exact e}}
abbrev jX(B:Nat)(w:World)(v:Value)(l:LI):Prop:=w.ownsRow B 31 1 v l.length (l.map (Value.int .u64))
def jX.form{w:World}(h:jX B w v l):∃p c,v=.S p l.length c:=by
 rcases h.2 with⟨rfl,h0⟩|⟨g,cap,cur,rfl,_⟩;{exact⟨none,0,by rw[h0]⟩};{exact⟨_,_,rfl⟩}
def jX.below{w w':World}(h:jX B w v l)(hb:Bw w w'):jX B w' v l:=
 Gs (row:=none) h (UC hb) (by by_cases e:v.ownBlock=none<;>simp[e])
def ZT(w:World)(v:Value):Prop:=(∀(a:Addr)(n c:Nat),v=.S (some a) n c->a.off=0/\a.spot=none/\∀j,n<=j->j<c->w.cell? (Ad a.block j)=some (.U 0))/\∀(n c:Nat),v=.S none n c->c=0
def ZT.keep{w w':World}(h:ZT w v)(hk:∀b,v.ownBlock=some b->w'.heap[b]?=w.heap[b]?):ZT w' v:=⟨λa n c e=>by
 obtain⟨h1,h2,h3⟩:=h.1 a n c e;refine⟨h1,h2,λj hj hc=>(tJ (hk _ (by rw[e];rfl))).trans (h3 j hj hc)⟩,h.2⟩
def ZT.nil(w:World):ZT w (.S none 0 0):=⟨λa n c e=>by simp at e,λn c e=>by simp only[qZ]at e;exact e.2.2.symm⟩
def lr(B:Nat)(w:World)(v:Value)(l:LI):Prop:=jX B w v l/\ZT w v
def ay4(h:j<k):(Builtin.zeroCells (Value.cells (.U 0)) k)[j]?=some (.U 0):=by
 have e:Value.cells (.U 0)=#[.U 0]:=rfl;rw[e,Builtin.zeroCells];simp[h,Nat.mod_one]
def zk{w:World}{base:Nat}(i:TypeInfo)(hi:Tryz.prog.info? 31=some i)(hz:i.zero=some (.U 0))(hs:i.size=1)(hb:i.bytes=8){n:Nat}{xs:List Value}(bO:w.ownsRow base 31 1 v n xs)(hzt:ZT w v){a:Addr}(c:Nat){news:List Value}(hl:news.length=m*1)(jk:∀j u,news[j]?=some u->w.cell? (a.add j)=some u)(h1:∀u∈news,u.oneCell'=true)(h63:n+m<=maxLen)(rj:(n+m)*8<=140737488355328)(Aw:base<=w.heap.size):∃v' w',(Builtin.append_ #[117,117] ty #[v,.S (some a) m c]).run Tryz.prog w=.ok v' w'/\w'.ownsRow base 31 1 v' (n+m) (xs++news)/\w.grownBy w' v.ownBlock/\ZT w' v':=by
 obtain⟨v',w',hr,h2,h3,h4⟩:=ac7 (P:=Tryz.prog) w base 117 ty 31 i (.U 0) 1 8 Tryz.underlying117 hi hz hs hb rfl aZ v n xs bO a m c news hl jk h1 h63 rj Aw;refine⟨v',w',hr,h2,h3,?_⟩;have cn2:n+m<=9223372036854775807:=by simp only[maxLen]at h63;omega
 have EP:news.length=m*i.size:=hs▸hl;have tail:∀(xs:List Value)(k K:Nat),xs.length=k->∀(W:World),ZT (W.alloc (.cells (xs.toArray++Builtin.zeroCells (Value.cells (.U 0)) (K-k)) 31)) (.T W.heap.size k K):=λxs k K hk W=>by refine⟨λa n c e=>?_,λn c e=>by simp at e⟩;simp only[qZ,kU]at e;obtain⟨rfl,rfl,rfl⟩:=e;refine⟨rfl,rfl,λj hj hc=>?_⟩;rw[cell_of_row _ _ _ _ _ _ (heap_alloc_new W _),Array.getElem?_append_right (by simpa[hk]using hj)];simp only[List.size_toArray,hk];exact ay4 ae
 rcases bO.2 with⟨rfl,rfl⟩|⟨g,cap,cur,rfl,hbg,hg,xq,EU,hcs,bx9⟩;{by_cases hm:m=0;{rw[h4.2 ⟨rfl,hm⟩];exact ZT.nil _};{have lK:=run_append_nil (P:=Tryz.prog) w 117 ty 31 i (.U 0) Tryz.underlying117 hi hz a m c news EP jk ae ae (by rw[hb];omega);rw[hr]at lK;simp only[Ka]at lK;obtain⟨rfl,rfl⟩:=lK;exact tail news m _ ae w.drew}};{
 by_cases Ws:n+m<=cap;{
 have bc5:n*i.size+news.length<=cur.size:=by rw[hs,hl,hcs];omega
 have lK:=run_append_room (P:=Tryz.prog) w 117 ty 31 i Tryz.underlying117 hi g n cap cur hg a m c news EP jk h1 Ws bc5;rw[hr]at lK;simp only[Ka]at lK;obtain⟨rfl,rfl⟩:=lK;refine⟨λb n' c' e=>?_,λn c e=>by simp at e⟩;simp only[qZ,kU]at e;obtain⟨rfl,rfl,rfl⟩:=e;obtain⟨-,-,q⟩:=hzt.1 _ _ _ rfl;refine⟨rfl,rfl,λj hj hc=>?_⟩;have q1:=q j ae hc;rw[cell_of_row _ _ _ _ _ _ hg]at q1;rw[cell_of_row _ _ _ _ _ _ (setRow_heap w g cur _ _ _ hg),hs,xQ,nZ aU,Mq];rw[<-q1,<-V9]
 congr 1
 simp;omega};{have holds:∀j u,xs[j]?=some u->w.cell? (((Ad g 0):Addr).add j)=some u:=bO.cells (g:=g) rfl;have hxl:xs.length=n*i.size:=hs▸bO.1;have lK:=run_append_grow (P:=Tryz.prog) w 117 ty 31 i (.U 0) Tryz.underlying117 hi hz (Ad g 0) n cap xs hxl holds a m c news EP jk ae ae (growslice_fits ae (hb▸rj));rw[hr]at lK;simp only[Ka]at lK;obtain⟨rfl,rfl⟩:=lK;have hx1:=bO.1;have e:xs.toArray++news.toArray=(xs++news).toArray:=ai;rw[e];exact tail (xs++news) (n+m) _ (by rw[ir];omega) w.drew}}
theorem gI{w:World}{rest:List Oper}{Q:Exit->Act->World->Prop}(mW:o.guard=none){s x:Operand}(ho:o.op=.call {callee:=.builtin .append,args:=#[s,x],argTypes:=#[117,117]})(v:Value){lm:LI}{y:Int}(vr:Hid (lm=l++[y]))(g:Nat)(hs:a.eval s=v)(hx:a.eval x=.T g 1 1)(bO:lr B w v l)(hc:w.cell? (Ad g 0)=some (.U y))(hl:l.length<4194304)(hB:B<=w.heap.size)(h:∀p' c' w',lr B w' (.S p' lm.length c') lm->w.grownBy w' v.ownBlock->wpList Tryz.prog ops Q rest (a.put o.dst (.S p' lm.length c')) w'):wpList Tryz.prog ops Q (o::rest) a w:=by
 obtain⟨i,hi,qc,iU,jU⟩:=gh Tryz.infoU64;obtain⟨v',w',hr,h1,h2,h3⟩:=zk (ty:=o.type) i hi qc iU jU bO.1 bO.2 (a:=Ad g 0) (m:=1) 1 (news:=[.U y]) rfl (λj u hu=>by
  cases j with
  |zero=>simp at hu;subst hu;rw[CO];exact hc
  |succ j=>simp at hu) (λu hu=>by simp at hu;subst hu;rfl) iF ae hB
 refine Lib.wpList_append_run w mW s x _ _ ho _ _ hs hx _ _ hr ?_;have e:=aa vr;subst e;have mV:jX B w' v' (l++[y]):=by unfold jX;rw[ir,kT];exact h1
 obtain⟨p',c',rfl⟩:=mV.form;exact h p' c' w' ⟨mV,h3⟩ h2
def lr.below{w w':World}(h:lr B w v l)(hb:Bw w w'):lr B w' v l:=⟨h.1.below hb,h.2.keep λb e=>hb.block b (h.1.lt b e).2⟩
def lr.form{w:World}(h:lr B w v l):∃p c,v=.S p l.length c:=h.1.form
def lr.lt{w:World}(h:lr B w v l):∀k,v.ownBlock=some k->B<=k/\k<w.heap.size:=Gt h.1
def lr.nil(B:Nat)(w:World):lr B w (.S none 0 0) []:=⟨by simpa[jX]using gC w B 31 1,ZT.nil w⟩
def RT{α:Type}(el:World->α->List Value->Prop)(ty:TypeId)(sz B:Nat)(w:World)(v:Value)(xs:List α):Prop:=
 ∃cs:List (List Value),cs.length=xs.length/\(∀c∈cs,c.length=sz)/\w.ownsRow B ty sz v xs.length cs.flatten/\∀(i:Nat)(x:α)(c:List Value),xs[i]?=some x->cs[i]?=some c->el w x c
section
variable {α:Type}{el:World->α->List Value->Prop}{ty:TypeId}{sz B:Nat}{w w':World}{v:Value}{xs:List α}
def RT.nil(el:World->α->List Value->Prop)(ty:TypeId)(sz B:Nat)(w:World):RT el ty sz B w (.S none 0 0) []:=
 ⟨[],rfl,λc hc=>by simp at hc,by simpa using gC w B ty sz,λi x c hx=>by simp at hx⟩
def RT.lt(h:RT el ty sz B w v xs):∀b,v.ownBlock=some b->B<=b/\b<w.heap.size:=by
 obtain⟨cs,h1,h2,h3,h4⟩:=h;exact h3.lt
def RT.Zp(h:RT el ty sz B w v xs):∀b,v.ownBlock=some b->∃cur,w.heap[b]?=some (.cells cur ty):=λb hb=>by
 obtain⟨cs,h1,h2,h3,h4⟩:=h;rcases h3.2 with⟨rfl,-⟩|⟨g,cap,cur,rfl,-,hg,-⟩;{simp[Value.ownBlock]at hb};{simp only[Value.ownBlock,kU]at hb;subst hb;exact⟨cur,hg⟩}
def RT.form(h:RT el ty sz B w v xs):∃p c,v=.S p xs.length c/\xs.length<=c/\c<=maxLen/\(0<xs.length->∃g,p=some (Ad g 0)):=by
 obtain⟨cs,h1,h2,h3,h4⟩:=h;rcases h3.2 with⟨rfl,e⟩|⟨g,cap,cur,rfl,-,hg,a,b,-⟩;{exact⟨none,0,by rw[e],ae,iF,λhh=>ae⟩};{exact⟨_,cap,rfl,a,b,λ_=>⟨g,rfl⟩⟩}
def RT.keep(h:RT el ty sz B w v xs)(vd:∀x c,el w x c->el w' x c)(hr:∀b,v.ownBlock=some b->w'.heap[b]?=w.heap[b]?):RT el ty sz B w' v xs:=by
 obtain⟨cs,h1,h2,h3,h4⟩:=h;refine⟨cs,h1,h2,⟨h3.1,?_⟩,λi x c hx hc=>vd x c (h4 i x c hx hc)⟩;rcases h3.2 with hn|⟨g,cap,cur,rfl,hb,hg,rest⟩;{exact .inl hn};{exact .inr ⟨g,cap,cur,rfl,hb,(hr g rfl).trans hg,rest⟩}
def RT.mono(h:RT el ty sz B w v xs)(hB:B'<=B):RT el ty sz B' w v xs:=by
 obtain⟨cs,h1,h2,h3,h4⟩:=h;refine⟨cs,h1,h2,⟨h3.1,?_⟩,h4⟩;rcases h3.2 with hn|⟨g,cap,cur,rfl,hb,rest⟩;{exact .inl hn};{exact .inr ⟨g,cap,cur,rfl,dQ hB hb,rest⟩}
def RT.snoc{x:α}(h1:cs.length=xs.length)(h2:∀c∈cs,c.length=sz)(h4:∀(i:Nat)(x:α)(c:List Value),xs[i]?=some x->cs[i]?=some c->el w x c)(vd:∀x c,el w x c->el w' x c)(hx:el w x c)(hc:c.length=sz)(du:w'.ownsRow B ty sz v' (xs.length+1) (cs.flatten++c)):RT el ty sz B w' v' (xs++[x]):=by
 refine⟨cs++[c],by simp[h1],λc' ri=>?_,by simpa using du,λi y c' hy ri=>?_⟩;{rcases gM.1 ri with ri|ri;{exact h2 c' ri};{simp at ri;subst ri;exact hc}};{
 by_cases hi:i<xs.length;{rw[lE hi]at hy;rw[lE ae]at ri;exact vd _ _ (h4 i y c' hy ri)};{
 have ei:i=xs.length:=by have:=(bf.1 hy).1;simp at this;omega
 subst ei;rw[nZ ao,Cb]at hy;rw[nZ ae,h1,Cb]at ri;simp at hy ri;subst hy ri;exact vd _ _ hx}}
def RT.n{g n cap:Nat}(h:RT el ty sz B w (.T g n cap) xs):n=xs.length:=by
 obtain⟨p,c,e,-⟩:=h.form;simp only[qZ]at e;exact e.2.1
def RT.at{g n cap:Nat}(h:RT el ty sz B w (.T g n cap) xs){x:α}(hx:xs[i]?=some x):∃c,c.length=sz/\el w x c/\(∀(j:Nat)(u:Value),c[j]?=some u->w.cell? (Ad g (i*sz+j))=some u)/\∀o,w.frozen? (Ad g o)=false:=by
 have en:=h.n;subst en;obtain⟨cs,h1,h2,h3,h4⟩:=h;have hi:=(bf.1 hx).1;obtain⟨c,hc⟩:∃x,cs[i]?=some x:=⟨_,bD ae⟩;have hlen:=h2 c (aY hc);refine⟨c,hlen,h4 i x c hx hc,λj u hu=>?_,λo=>h3.frozenAt o⟩;have hj:j<sz:=aG (bf.1 hu).1;have hks:i*sz+sz<=xs.length*sz:=by rw[<-Ml];exact Qp _ hi
 rw[h3.cellAt (i*sz+j) ae,AD h2 hc hj];exact hu
def RT.put{g n cap:Nat}(h:RT el ty sz B w (.T g n cap) xs){x:α}(hx:xs[i]?=some x)(hj:j<sz)(u:Value)(x':α)(vd:∀y c,el w y c->el (w.setCell (Ad g (i*sz+j)) u) y c)(hn:∀c,c.length=sz->el w x c->el (w.setCell (Ad g (i*sz+j)) u) x' (c.set j u)):RT el ty sz B (w.setCell (Ad g (i*sz+j)) u) (.T g n cap) (xs.set i x'):=by
 have en:=h.n;subst en;obtain⟨cs,h1,h2,h3,h4⟩:=h;have KL:=(bf.1 hx).1;obtain⟨c,hc⟩:∃x,cs[i]?=some x:=⟨_,bD ae⟩;have hlen:=h2 c (aY hc);refine⟨cs.set i (c.set j u),by simp[h1],λd hd=>?_,?_,λk y d hy hd=>?_⟩;{rcases Qh hd with hd|rfl;{exact h2 d hd};{rw[pO,hlen]}};{rw[ao6 h2 hc hj,pO];exact(h3.stored _ u).1};{rw[vZ]at hy hd;by_cases e:i=k;{subst e;rw[bN rfl,bN ae]at hy hd;cases hy;cases hd;exact hn c hlen (h4 i x c hx hc)};{rw[bG e]at hy hd;exact vd _ _ (h4 k y d hy hd)}}
end
def jV{w:World}{o:Obj}(h:w.heap[b]?=some o):b<w.heap.size:=(Gq.1 h).1
def Fr(T:List TypeId)(w w':World):Prop:=w.heap.size<=w'.heap.size/\∀(b:Nat)(cur:Array Value)(ty:TypeId)(m:Nat×Nat),ty∉T->w.heap[b]?=some (.cells cur ty m)->w'.heap[b]?=some (.cells cur ty m)
def Fr.below{T:List TypeId}{w w':World}(h:Bw w w'):Fr T w w':=⟨h.size,λb cur ty m _ hb=>(h.block b (jV hb)).trans hb⟩
def aM{w w':World}(h:Bw w w'):Fr [] w w':=Fr.below h
def Fr.refl(T:List TypeId)(w:World):Fr T w w:=⟨iP _,λ_ _ _ _ _ h=>h⟩
def Fr.trans{T:List TypeId}{w w1 w2:World}(h:Fr T w w1)(h2:Fr T w1 w2):Fr T w w2:=⟨dQ h.1 h2.1,λb cur ty m ht hb=>h2.2 b cur ty m ht (h.2 b cur ty m ht hb)⟩
def Fr.sub{T T':List TypeId}{w w':World}(h:Fr T w w')(hs:∀t∈T,t∈T'):Fr T' w w':=⟨h.1,λb cur ty m ht hb=>h.2 b cur ty m (λe=>ht (hs _ e)) hb⟩
def Fr.set{T:List TypeId}{w:World}{g:Nat}(hg:w.heap[g]?=some (.cells cur ty))(ht:ty∈T):Fr T w (w.setCell (Ad g j) u):=by
 refine⟨ai,λb aJ2 ty' m hn hb=>?_⟩;have cg:b≠g:=λe=>by subst e;rw[hg]at hb;simp at hb;exact hn (hb.2.1▸ht)
 exact(fW _ _ _ _ cg).trans hb
def Fr.grown{T:List TypeId}{w w':World}{r:Option Nat}(hg:w.grownBy w' r)(ht:∀b,r=some b->∃cur ty,w.heap[b]?=some (.cells cur ty)/\ty∈T):Fr T w w':=by
 refine⟨hg.size,λb cur ty m hn hb=>?_⟩;refine(hg.block b (jV hb) (λe=>?_)).trans hb;obtain⟨aJ2,ty',h1,h2⟩:=ht b e.symm;rw[h1]at hb;simp at hb;exact hn (hb.2.1▸h2)
def TB(w:World)(v:Value)(l:LI):Prop:=Rd w v l/\(∀b,v.ownBlock=some b->l=[]\/∃cur m,w.heap[b]?=some (.cells cur 5 m))/\tQ v
def TU(B:Nat)(w:World)(v:Value)(l:LI):Prop:=rD w v l/\(∀b,v.ownBlock=some b->∃cur,w.heap[b]?=some (.cells cur 31))/\ZT w v/\∀b,v.ownBlock=some b->B<=b
def TB.fr{T:List TypeId}{w w':World}(h:TB w v l)(hf:Fr T w w')(ht:5∉T:=by decide):TB w' v l:=by
 obtain⟨⟨p,c,rfl,hd⟩,h2,hc⟩:=h;by_cases hl:l=[];{exact⟨⟨p,c,rfl,.inl hl⟩,λb _=>.inl hl,hc⟩};rcases hd with hd|⟨b,o,rfl,hd⟩;{exact absurd hd hl};rcases h2 b rfl with e|⟨cur,m,hb⟩;{exact absurd e hl};have bR:=hf.2 b cur _ m ht hb;refine⟨⟨_,c,rfl,.inr ⟨b,o,rfl,λi hi=>(aF (bR.trans hb.symm) _).trans (hd i hi)⟩⟩,λb' e=>.inr ?_,hc⟩;simp only[Value.ownBlock,kU]at e;subst e;exact⟨cur,m,bR⟩
def TU.fr{T:List TypeId}{w w':World}(h:TU B w v l)(hf:Fr T w w')(ht:31∉T:=by decide):TU B w' v l:=by
 obtain⟨⟨p,c,rfl,hd⟩,h2,hz,h3⟩:=h;have hk:∀b,(Value.slice p l.length c).ownBlock=some b->w'.heap[b]?=w.heap[b]?:=λb e=>by obtain⟨cur,hb⟩:=h2 b e;exact(hf.2 b cur _ _ ht hb).trans hb.symm
 refine⟨⟨p,c,rfl,?_⟩,λb e=>?_,hz.keep hk,h3⟩;{rcases hd with hd|⟨b,o,rfl,hd⟩;{exact .inl hd};{exact .inr ⟨b,o,rfl,λi hi=>(aF (hk b rfl) _).trans (hd i hi)⟩}};{obtain⟨cur,hb⟩:=h2 b e;exact⟨cur,(hk b e).trans hb⟩}
def Own.bL1{w:World}(h:Own B w v l):tQ v:=by
 rcases h.2 with⟨rfl,-⟩|⟨g,cap,cur,rfl,-,hg,hc,hm,-⟩;{exact⟨_,_,_,rfl,iP _,fN _⟩};{exact⟨_,_,_,rfl,hc,hm⟩}
def Own.tb{w:World}(h:Own B w v l):TB w v l:=⟨h.rd,λb e=>.inr (by
 rcases h.2 with⟨rfl,-⟩|⟨g,cap,cur,rfl,-,hg,-⟩;{simp[Value.ownBlock]at e};{simp only[Value.ownBlock,kU]at e;subst e;exact⟨cur,_,hg⟩}),h.bL1⟩
def TB.nil(w:World):TB w (.S none 0 0) []:=⟨Rd.nil _,λb e=>.inl rfl,_,_,_,rfl,iP _,fN _⟩
def TU.nil(w:World):TU B w (.S none 0 0) []:=⟨⟨none,0,rfl,.inl rfl⟩,λb e=>by simp[Value.ownBlock]at e,ZT.nil w,λb e=>by simp[Value.ownBlock]at e⟩
def TU.mono{w:World}(h:TU B w v l)(hB:B'<=B):TU B' w v l:=⟨h.1,h.2.1,h.2.2.1,λb e=>dQ hB (h.2.2.2 b e)⟩
def KQ(w:World)(e:Ev)(c:List Value):Prop:=∃P,c=[.I e.1,P]/\TB w P e.2
def tO(_:World)(x:aP×Value)(c:List Value):Prop:=c=[.U x.1.1,.I x.1.2.1,x.2]
def nM(B:Nat)(w:World)(nd:aC)(c:List Value):Prop:=∃P V H U,c=[P,V,.U nd.owner,.I nd.mode,H,.U nd.aJ,.U nd.gen,U]/\TB w P nd.path/\TB w V nd.value/\TU B w H nd.holders/\TU B w U nd.watchers
abbrev NJ(B:Nat)(w:World)(v:Value)(es:List Ev):Prop:=RT KQ 190 2 B w v es
structure kx(B:Nat)(w:World)(v:Value)(ss:List aP)(Qs:List Value):Prop where
 len:Qs.length=ss.length
 row:RT tO 84 3 B w v (ss.zip Qs)
 Xh:∀(i:Nat)(s:aP)(Q:Value),ss[i]?=some s->Qs[i]?=some Q->NJ B w Q s.2.2
 yv:∀(i j:Nat)(Q Q':Value)(b:Nat),i≠j->Qs[i]?=some Q->Qs[j]?=some Q'->Q.ownBlock=some b->Q'.ownBlock≠some b
abbrev gy(B0 B:Nat)(w:World)(v:Value)(ns:List aC):Prop:=RT (nM B0) 119 8 B w v ns
abbrev AK(B:Nat)(w:World)(v:Value)(ns:List aC):Prop:=gy B B w v ns
def RT.fr{α:Type}{el:World->α->List Value->Prop}{sz B:Nat}{w w':World}{xs:List α}{T:List TypeId}(h:RT el ty sz B w v xs)(hf:Fr T w w')(ht:ty∉T)(vd:∀x c,el w x c->el w' x c):RT el ty sz B w' v xs:=
 h.keep vd λb hb=>by obtain⟨cur,hc⟩:=h.Zp b hb;exact(hf.2 b cur ty _ ht hc).trans hc.symm
def KQ.fr{T:List TypeId}{w w':World}(hf:Fr T w w')(ht:5∉T)(x:Ev)(c:List Value)(h:KQ w x c):KQ w' x c:=by
 obtain⟨P,e,h1⟩:=h;exact⟨P,e,h1.fr hf ht⟩
def nM.fr{T:List TypeId}{w w':World}(hf:Fr T w w')(ht:5∉T)(hu:31∉T)(x:aC)(c:List Value)(h:nM B w x c):nM B w' x c:=by
 obtain⟨P,V,H,U,e,h1,h2,h3,h4⟩:=h;exact⟨P,V,H,U,e,h1.fr hf ht,h2.fr hf ht,h3.fr hf hu,h4.fr hf hu⟩
def gy.fr{T:List TypeId}{w w':World}(h:gy B0 B w v ns)(hf:Fr T w w')(ht:5∉T/\31∉T/\119∉T:=by decide):gy B0 B w' v ns:=
 RT.fr h hf ht.2.2 (nM.fr hf ht.1 ht.2.1)
def NJ.fr{T:List TypeId}{w w':World}(h:NJ B w v es)(hf:Fr T w w')(ht:5∉T/\190∉T:=by decide):NJ B w' v es:=RT.fr h hf ht.2 (KQ.fr hf ht.1)
def kx.fr{T:List TypeId}{w w':World}(h:kx B w v ss Qs)(hf:Fr T w w')(ht:5∉T/\190∉T/\84∉T:=by decide):kx B w' v ss Qs:=
 ⟨h.len,RT.fr h.row hf ht.2.2 (λ_ _ h=>h),λi s Q hs hq=>(h.Xh i s Q hs hq).fr hf ⟨ht.1,ht.2.1⟩,h.yv⟩
def kx.nil(B:Nat)(w:World):kx B w (.S none 0 0) [] []:=⟨rfl,RT.nil _ _ _ _ _,λi s Q h=>by simp at h,λi j Q Q' b _ h=>by simp at h⟩
def gy.put{w:World}{g n cap:Nat}(h:gy B0 B w (.T g n cap) ns)(hx:ns[i]?=some nd)(hj:j<8)(u:Value)(nd':aC)(hn:∀w' P V H U,TB w' P nd.path->TB w' V nd.value->TU B0 w' H nd.holders->TU B0 w' U nd.watchers->Fr [119] w w'->nM B0 w' nd' ([P,V,.U nd.owner,.I nd.mode,H,.U nd.aJ,.U nd.gen,U].set j u)):gy B0 B (w.setCell (Ad g (i*8+j)) u) (.T g n cap) (ns.set i nd')/\Fr [119] w (w.setCell (Ad g (i*8+j)) u):=by
 obtain⟨cur,hc⟩:=h.Zp g rfl;have hf:Fr [119] w (w.setCell (Ad g (i*8+j)) u):=Fr.set hc ai;have t1:5∉[119]:=aZ;have t2:31∉[119]:=aZ;refine⟨RT.put h hx hj u nd' (nM.fr hf t1 t2) (λc _ he=>?_),hf⟩;obtain⟨P,V,H,U,rfl,h1,h2,h3,h4⟩:=he;exact hn _ P V H U (h1.fr hf t1) (h2.fr hf t1) (h3.fr hf t2) (h4.fr hf t2) hf
theorem Lc{α β:Type}:∀(l:List α)(m:List β)(i:Nat)(a:α)(b:β),(l.zip m).set i (a,b)=(l.set i a).zip (m.set i b)
 |[],m,i,a,b=>ai
 |x::l,[],i,a,b=>by cases i<;>simp
 |x::l,y::m,0,a,b=>ai
 |x::l,y::m,i+1,a,b=>by simp[Lc l m i a b]
def yY{α:Type}{l:List α}{a:α}(h:l[i]?=some a):l.set i a=l:=by
 obtain⟨h1,h2⟩:=bf.1 h;rw[<-h2,List.set_getElem_self]
def kx.cf5{w w1:World}{g n cap:Nat}(h:kx B w (.T g n cap) ss Qs)(hx:ss[i]?=some s){Q v':Value}(hQ:Qs[i]?=some Q){q':List Ev}(wu:NJ B w1 v' q')(hg:w.grownBy w1 Q.ownBlock)(mX:∀b,v'.ownBlock=some b->Q.ownBlock=some b\/w.heap.size<=b):kx B (w1.setCell (Ad g (i*3+2)) v') (.T g n cap) (ss.set i (s.1,s.2.1,q')) (Qs.set i v')/\Fr [190,84] w (w1.setCell (Ad g (i*3+2)) v'):=by
 have hi:=(bf.1 hx).1;have f1:Fr [190] w w1:=Fr.grown hg λb hb=>by obtain⟨cur,hc⟩:=(h.Xh i s Q hx hQ).Zp b hb;exact⟨cur,_,hc,ai⟩
 have r1:RT tO 84 3 B w1 (.T g n cap) (ss.zip Qs):=RT.fr h.row f1 aZ (λ_ _ h=>h);obtain⟨cur,hc⟩:=r1.Zp g rfl;have f2:Fr [84] w1 (w1.setCell (Ad g (i*3+2)) v'):=Fr.set hc ai;have hz:(ss.zip Qs)[i]?=some (s,Q):=by rw[Kg];exact⟨hx,hQ⟩
 have hold:∀(k:Nat)(Q':Value)(b:Nat),i≠k->Qs[k]?=some Q'->Q'.ownBlock=some b->v'.ownBlock≠some b:=λk Q' b hk hq hb e=>by rcases mX b e with e|e;{exact h.yv i k Q Q' b hk hQ hq e hb};{obtain⟨s',Hg⟩:∃s',ss[k]?=some s':=⟨_,bD (h.len▸(bf.1 hq).1)⟩;have:=((h.Xh k s' Q' Hg hq).lt b hb).2;omega}
 refine⟨⟨by rw[pO,pO];exact h.len,?_,λk s' Q' hs hq=>?_,λk j Q1 Q2 b hkj h1 h2 hb=>?_⟩,(f1.sub ai).trans (f2.sub ai)⟩;{
 have:=RT.put r1 hz (j:=2) ae v' ((s.1,s.2.1,q'),v') (λ_ _ h=>h) (λc _ he=>by
  unfold tO at he⊢;subst he
  rfl)
 rwa [Lc]at this};{rw[vZ]at hs hq;by_cases e:i=k;{subst e;rw[bN rfl,bN hi]at hs;rw[bN rfl,bN (h.len▸hi)]at hq;cases hs;cases hq;exact NJ.fr wu f2};{rw[bG e]at hs hq;have hk:=h.Xh k s' Q' hs hq;refine NJ.fr (RT.keep hk (KQ.fr f1 aZ) λb hb=>hg.block b (hk.lt b hb).2 (λe2=>h.yv i k Q Q' b e hQ hq e2.symm hb)) f2}};{rw[vZ]at h1 h2;by_cases e:i=k;{subst e;rw[bN rfl,bN (h.len▸hi)]at h1;rw[bG hkj]at h2;cases h1;exactλe2=>hold j Q2 b hkj h2 e2 hb};{rw[bG e]at h1;by_cases e':i=j;{subst e';rw[bN rfl,bN (h.len▸hi)]at h2;cases h2;exact hold k Q1 b e h1 hb};{rw[bG e']at h2;exact h.yv k j Q1 Q2 b hkj h1 h2 hb}}}
def kx.dl{w:World}{g n cap:Nat}(h:kx B w (.T g n cap) ss Qs)(hx:ss[i]?=some s)(d:Int):kx B (w.setCell (Ad g (i*3+1)) (.I d)) (.T g n cap) (ss.set i (s.1,d,s.2.2)) Qs/\Fr [84] w (w.setCell (Ad g (i*3+1)) (.I d)):=by
 obtain⟨cur,hc⟩:=h.row.Zp g rfl;have hf:Fr [84] w (w.setCell (Ad g (i*3+1)) (.I d)):=Fr.set hc ai;have hi:=(bf.1 hx).1;obtain⟨Q,hQ⟩:∃Q,Qs[i]?=some Q:=⟨_,bD (h.len▸hi)⟩;have hz:(ss.zip Qs)[i]?=some (s,Q):=by rw[Kg];exact⟨hx,hQ⟩
 refine⟨⟨by rw[pO];exact h.len,?_,λk s' Q' hs hq=>?_,h.yv⟩,hf⟩;{
 have:=RT.put h.row hz (j:=1) ae (.I d) ((s.1,d,s.2.2),Q) (λ_ _ h=>h) (λc _ he=>by
  unfold tO at he⊢;subst he
  rfl)
 rwa [Lc,yY hQ]at this};{rw[vZ]at hs;by_cases e:i=k;{subst e;rw[bN rfl,bN hi]at hs;cases hs;exact NJ.fr (h.Xh i s Q' hx hq) hf};{rw[bG e]at hs;exact NJ.fr (h.Xh k s' Q' hs hq) hf}}
open Go.Proofs.Tryz
def jX.rdu{w:World}(h:jX B w v l):rD w v l:=by
 rcases h.2 with⟨rfl,h0⟩|⟨g,cap,cur,rfl,hb,hg,hr⟩;{exact⟨none,0,by rw[h0],.inl (sV.1 h0)⟩};{refine⟨_,cap,rfl,.inr ⟨g,0,rfl,λi hi=>?_⟩⟩;have:=Gu h i ae;rw[kS,this];simp[gK,hi]}
def rD.at{w:World}{n c:Nat}(h:rD w (.S p n c) l)(hx:l[k]?=some x):∃b o,p=some (Ad b o)/\w.cell? (Ad b (o+k))=some (.U x):=by
 obtain⟨p',c',e,hd⟩:=h;have hk:=(bf.1 hx).1;rcases hd with h0|⟨b,o,h1,h2⟩;{rw[h0]at hk;simp at hk};{simp only[qZ]at e;have:=h2 k hk;rw[gK,hx,si]at this;exact⟨b,o,e.1.trans h1,this⟩}
def JA{x id:Int}(hx:l[k]?=some x)(h:(l.take k).contains id=false)(cg:¬x=id):(l.take (k+1)).contains id=false:=by
 rw[ni,hx,List.contains_append,h];simpa using λe:id=x=>cg e.symm
def Ch{c n:Nat}(en:Hid (l.length=n)){id:Int}{w:World}(h:rD w (.S p n c) l)(hl:Mg n){B:Bool}(eB:Hid (l.contains id=B)):Calls prog 191 #[.S p n c,.U id] w (Rb (.bool B) w):=by
 have HR:=af λ(w':World)(hb:Bw w w')=>h.below hb
 go_in
 go_wp2
 go_loopw[5](λiv wr=>∃k:Nat,k<=n/\iv=.I k/\Hid ((l.take k).contains id=false)/\Hid (Bw w wr)) (λiv _=>n-(intOf iv).toNat)
 exact⟨0,fN _,rfl,(by show _=_;simp),cR _ _⟩;{
 obtain⟨k,hk,rfl,hc,aK⟩:=hrel;by_cases aT:k<n;{
 have bu:=aS k n;obtain⟨x,hx⟩:∃x,l[k]?=some x:=⟨_,bD (aa en▸aT)⟩;obtain⟨b,o,rfl,Dx⟩:=(aa HR _ aK).at hx;have HX:=af hx;by_cases he:x=id;{
 subst he;have hee:(x==x)=true:=ai;go_wp2;go_ret;refine⟨?_,aK⟩;rw[<-aa eB,List.contains_iff_mem.2 (aY (aa HX))]
 rfl}
 {have cX:=af (JA HX hc he);go_wp2;go_roundw;exact⟨k+1,ae,by go_num,cX,aK⟩;exact bM}};{have bu:=dm k n;have ri:=aa hc;rw[ke (by rw[aa en];omega),aa eB]at ri;subst ri;go_wp2;go_ret;exact⟨rfl,aK⟩}}
def ay5{x id:Int}(hx:l[k]?=some x):qT (l.take (k+1)) id=if x=id then qT (l.take k) id else qT (l.take k) id++[x]:=by
 rw[ni,hx,qT,VU];by_cases h:x=id<;>simp[qT,h]
def Fi{id:Int}:(qT l id).length<=l.length:=Qg _ _
def xj{c n:Nat}(en:Hid (l.length=n)){id:Int}{w:World}(h:rD w (.S p n c) l)(hl:Mg n):Calls prog 183 #[.S p n c,.U id] w λr w'=>∃p' c',r=.returned (.S p' (qT l id).length c')/\lr w.heap.size w' (.S p' (qT l id).length c') (qT l id)/\Bw w w':=by
 have HR:=af λ(w':World)(hb:Bw w w')=>h.below hb
 go_in
 go_wp2
 go_loopw[5,6](λov iv wr=>∃(k:Nat)(L:LI),k<=n/\iv=.I k/\Hid (qT (l.take k) id=L)/\Hid (lr w.heap.size wr ov L)/\Hid (Bw w wr)) (λ_ iv _=>n-(intOf iv).toNat)
 exact⟨0,[],fN _,rfl,(by show _=_;simp[qT]),(lr.nil _ _),cR _ _⟩;{
 obtain⟨k,L,hk,rfl,hL,ho,aK⟩:=hrel;obtain⟨pv,cv,rfl⟩:=ho.form;have zr:=aK.size;have Cj:L.length<4194304:=by have h1:=Fi (l:=l.take k) (id:=id);have h2:=Gz k l;rw[aa hL]at h1;have:=aa en;omega
 by_cases aT:k<n;{
 have bu:=aS k n;obtain⟨x,hx⟩:∃x,l[k]?=some x:=⟨_,bD (aa en▸aT)⟩;obtain⟨b,o,rfl,Dx⟩:=(aa HR _ aK).at hx;have cX:=ay5 (id:=id) hx;rw[aa hL]at cX;have qz:=af cX;by_cases he:x=id;{
 subst he;have E1:Hid (qT (l.take (k+1)) x=L):=by have:=aa qz;rwa [bN rfl]at this
 go_wp2;go_roundw;exact⟨k+1,L,ae,by go_num,E1,ho,aK⟩;exact bM};{
 have E1:Hid (qT (l.take (k+1)) id=L++[x]):=by have:=aa qz;rwa [bG he]at this
 go_wp2_with(at_builtin;refine gI rfl rfl (B:=w.heap.size) (.S pv L.length cv) (l:=L) (lm:=L++[x]) (y:=x) (af rfl) wr.heap.size rfl rfl (lr.below (aa ho) (au.alloc ao _)) ai Cj aU ?_);intro p' c' w' o2 gi;have bA:Bw wr (wr.alloc (.cells #[.U x] 31)):=au.alloc ao _;have b4:=af ((aj (aa aK) bA).grown gi aU (λb' e=>(ho.lt b' e).1));have O2:=af o2;go_wp2;go_roundw;exact⟨k+1,L++[x],ae,by go_num,E1,O2,b4⟩;exact bM}};{have bu:=dm k n;have ri:=aa hL;rw[ke (by rw[aa en];omega)]at ri;subst ri;go_wp2;go_ret;exact⟨_,_,rfl,ho,aK⟩}}
def Es(id:Int)(s:LI×Bool)(x:Int):LI×Bool:=if s.2=false/\id<=x then(if x=id then(s.1++[id],true)else(s.1++[id]++[x],true))else(if x=id then s else(s.1++[x],s.2))
def YJ(l:LI)(id:Int):LI×Bool:=l.foldl (Es id) ([],false)
theorem yQ(id:Int):∀(l acc:LI),l.foldl (Es id) (acc,true)=(acc++qT l id,true)
 |[],acc=>by simp[qT]
 |x::r,acc=>by rw[Mn];by_cases h:x=id;{rw[show Es id (acc,true) x=(acc,true) by simp[Es,h],yQ id r acc];simp[qT,h]};{rw[show Es id (acc,true) x=(acc++[x],true) by simp[Es,h],yQ id r (acc++[x])];simp[qT,h]}
theorem aV1(l:LI)(id:Int):(if(YJ l id).2 then(YJ l id).1 else(YJ l id).1++[id])=xA l id:=by
 have key:∀(l acc:LI),(if(l.foldl (Es id) (acc,false)).2 then(l.foldl (Es id) (acc,false)).1 else(l.foldl (Es id) (acc,false)).1++[id])=acc++xA l id:=by
  intro l
  induction l with
  |nil=>intro acc;simp[xA]
  |cons x r ih=>
   intro acc;rw[Mn,xA];by_cases h:id<=x;{by_cases e:x=id;{rw[show Es id (acc,false) x=(acc++[id],true) by simp[Es,e],yQ,bN h];simp[qT,e]};{rw[show Es id (acc,false) x=(acc++[id]++[x],true) by simp[Es,e,h],yQ,bN h];simp[qT,e]}};{have e:¬x=id:=ae;rw[show Es id (acc,false) x=(acc++[x],false) by simp[Es,e,h],ih (acc++[x]),bG h];simp}
 have:=key l [];rw[Gp]at this;exact this
def ay6{x id:Int}(hx:l[k]?=some x):YJ (l.take (k+1)) id=Es id (YJ (l.take k) id) x:=by
 rw[ni,hx,YJ,Qo]
 rfl
def ay7{id:Int}{s:LI×Bool}:(Es id s x).1.length<=s.1.length+2:=by
 unfold Es;split<;>split<;>simp
theorem Vn(id:Int):∀(l:LI)(s:LI×Bool),(l.foldl (Es id) s).1.length<=s.1.length+2*l.length
 |[],s=>ai
 |x::r,s=>by have:=Vn id r (Es id s x);have:=ay7 (id:=id) (s:=s) (x:=x);rw[Mn,iT];omega
def TV{c n:Nat}(en:Hid (l.length=n)){id:Int}{w:World}(h:rD w (.S p n c) l)(hl:Mg n):Calls prog 192 #[.S p n c,.U id] w λr w'=>∃p' c',r=.returned (.S p' (xA l id).length c')/\lr w.heap.size w' (.S p' (xA l id).length c') (xA l id)/\Bw w w':=by
 have HR:=af λ(w':World)(hb:Bw w w')=>h.below hb
 go_in
 go_wp2
 go_loopw[5,6,7](λov dv iv wr=>∃(k:Nat)(L:LI)(d:Bool),k<=n/\iv=.I k/\dv=.bool d/\Hid (YJ (l.take k) id=(L,d))/\Hid (lr w.heap.size wr ov L)/\Hid (Bw w wr)) (λ_ _ iv _=>n-(intOf iv).toNat)
 exact⟨0,[],false,fN _,rfl,rfl,bq,(lr.nil _ _),cR _ _⟩;{
 obtain⟨k,L,d,hk,rfl,rfl,hL,ho,aK⟩:=hrel;obtain⟨pv,cv,rfl⟩:=ho.form;have zr:=aK.size;have Cj:L.length+1<4194304:=by have h1:=Vn id (l.take k) ([],false);have h2:=Gz k l;have h3:=aa hL;unfold YJ at h3;rw[h3]at h1;have:=aa en;simp only[Af]at h1;omega
 by_cases aT:k<n;{
 have bu:=aS k n;obtain⟨x,hx⟩:∃x,l[k]?=some x:=⟨_,bD (aa en▸aT)⟩;obtain⟨b,o,rfl,Dx⟩:=(aa HR _ aK).at hx;have cX:=ay6 (id:=id) hx;rw[aa hL]at cX;have qz:=af cX;have HX:=af hx;have AP:∀(y:Int)(wz:World)(Lz:LI)(pz:OA)(cz:Nat),Hid (lr w.heap.size wz (.S pz Lz.length cz) Lz)->Bw w wz->Bw wz (wz.alloc (.cells #[.U y] 31)):=λy wz Lz pz cz _ _=>au.alloc ao _;by_cases hd:d=false/\id<=x;{
 obtain⟨rfl,hix⟩:=hd;have dH5:decide (id<=x)=true:=by simpa using hix
 obtain⟨L1,eL1⟩:∃L1,Hid (L1=L++[id]):=⟨_,af rfl⟩;have lL1:=af (by rw[aa eL1];simp:L1.length=L.length+1);go_wp2_with(at_builtin;refine gI rfl rfl (.S pv L.length cv) eL1 wr.heap.size rfl rfl (lr.below (aa ho) (au.alloc ao _)) ai ae aU ?_);intro p' c' w' o2 gi;have b4:=af ((aj (aa aK) (AP id wr L pv cv ho (aa aK))).grown gi aU (λb' e=>(ho.lt b' e).1));have O2:=af o2;have z4:=b4.size;have dJ2:w'.cell? (Ad b (o+k))=some (.U x):=by obtain⟨b',o',e',ri⟩:=(aa HR _ b4).at HX;obtain⟨rfl,rfl⟩:=yD e';exact ri
 by_cases he:x=id;{subst he;have E1:=af (by have:=aa qz;rw[aa eL1];simpa[Es]using this:YJ (l.take (k+1)) x=(L1,true));have hee:(x != x)=false:=ai;go_wp2;go_roundw;exact⟨k+1,L1,true,ae,by go_num,rfl,E1,O2,b4⟩;exact bM};{have E1:=af (by have:=aa qz;rw[aa eL1];simpa[Es,he,hix]using this:YJ (l.take (k+1)) id=(L1++[x],true));obtain⟨L2,eL2⟩:∃L2,Hid (L2=L1++[x]):=⟨_,af rfl⟩;rw[<-aa eL2]at E1;go_wp2_with(at_builtin;refine gI rfl rfl (.S p' L1.length c') eL2 w'.heap.size rfl rfl (lr.below (aa O2) (au.alloc ao _)) ai (aG (aa lL1)) aU ?_);intro p'' c'' w'' o3 wC;have b5:=af ((aj (aa b4) (AP x w' _ p' c' O2 (aa b4))).grown wC aU (λb' e=>(O2.lt b' e).1));have O3:=af o3;go_wp2;go_roundw;exact⟨k+1,_,true,ae,by go_num,rfl,E1,O3,b5⟩;exact bM}};{
 have hdd:(!d&&decide (id<=x))=false:=by cases d<;>simp_all
 have hd2:d=true\/¬id<=x:=by cases d<;>simp_all
 by_cases he:x=id;{subst he;have hdt:d=true:=hd2.resolve_right ae;subst hdt;have E1:=af (by have:=aa qz;simpa[Es]using this:YJ (l.take (k+1)) x=(L,true));have hee:(x != x)=false:=ai;go_wp2;go_roundw;exact⟨k+1,L,true,ae,by go_num,rfl,E1,ho,aK⟩;exact bM};{
 have E1:=af (by have:=aa qz;simpa[Es,he,hd]using this:YJ (l.take (k+1)) id=(L++[x],d));obtain⟨L1,eL1⟩:∃L1,Hid (L1=L++[x]):=⟨_,af rfl⟩;rw[<-aa eL1]at E1;have hdq:d=false->decide (id<=x)=false:=λe=>by subst e;simpa using hd
 cases d;{have hix:=hdq rfl;go_wp2_with(at_builtin;refine gI rfl rfl (.S pv L.length cv) eL1 wr.heap.size rfl rfl (lr.below (aa ho) (au.alloc ao _)) ai ae aU ?_);intro p' c' w' o2 gi;have b4:=af ((aj (aa aK) (AP x wr L pv cv ho (aa aK))).grown gi aU (λb' e=>(ho.lt b' e).1));have O2:=af o2;go_wp2;go_roundw;exact⟨k+1,_,false,ae,by go_num,rfl,E1,O2,b4⟩;exact bM};{go_wp2_with(at_builtin;refine gI rfl rfl (.S pv L.length cv) eL1 wr.heap.size rfl rfl (lr.below (aa ho) (au.alloc ao _)) ai ae aU ?_);intro p' c' w' o2 gi;have b4:=af ((aj (aa aK) (AP x wr L pv cv ho (aa aK))).grown gi aU (λb' e=>(ho.lt b' e).1));have O2:=af o2;go_wp2;go_roundw;exact⟨k+1,_,true,ae,by go_num,rfl,E1,O2,b4⟩;exact bM}}}};{have bu:=dm k n;have ri:=aa hL;rw[ke (by rw[aa en];omega)]at ri;have hwi:=aV1 l id;rw[ri]at hwi;cases d;{obtain⟨L1,eL1⟩:∃L1,Hid (L1=L++[id]):=⟨_,af rfl⟩;have E1:=af (by rw[aa eL1];simpa using hwi.symm:xA l id=L1);go_wp2_with(at_builtin;refine gI rfl rfl (.S pv L.length cv) eL1 wr.heap.size rfl rfl (lr.below (aa ho) (au.alloc ao _)) ai ae aU ?_);intro p' c' w' o2 gi;have b4:=af ((aj (aa aK) ((cR wr.heap.size wr).alloc ao _)).grown gi aU (λb' e=>(ho.lt b' e).1));have O2:=af o2;go_wp2;go_ret;rw[aa E1];exact⟨_,_,rfl,O2,b4⟩};{have E1:=af (by simpa using hwi.symm:xA l id=L);go_wp2;go_ret;rw[aa E1];exact⟨_,_,rfl,ho,aK⟩}}}
def Jy{α:Type}(f:α->α)(k:Nat)(xs:List α):List α:=(xs.take k).map f++xs.drop k
def aH7{α:Type}(f:α->α){xs:List α}{x:α}(h:xs[k]?=some x):(Jy f k xs)[k]?=some x:=by
 have hk:=(bf.1 h).1;rw[Jy,nZ aU,dZ,od,ae0 ae,Mq];simpa using h
def XW{α:Type}(f:α->α){xs:List α}{x:α}(h:xs[k]?=some x):Jy f (k+1) xs=(Jy f k xs).set k (f x):=by
 obtain⟨hk,e⟩:=bf.1 h;rw[Jy,Jy,ni,h,Qw _ _ aU,dZ,od,ae0 ae,Cb,Mr hk,GM,kT];simp
def ao8{α:Type}(f:α->α){xs:List α}(h:xs.length<=k):Jy f k xs=xs.map f:=by
 rw[Jy,ke h,ad9 h,D5]
def ar(w:World)(cs:Array Value)(ty:TypeId):∃W,W=w.alloc (.cells cs ty)/\Bw w W/\W.heap.size=w.heap.size+1/\al W w.heap.size cs.toList/\W.heap[w.heap.size]?=some (.cells cs ty):=
 ⟨_,rfl,au.alloc ao _,ai,al.alloc w cs ty,by show(w.heap.push _)[w.heap.size]?=_;simp⟩
def al.dG{w w':World}(h:al w b vs)(hk:w'.heap[b]?=w.heap[b]?):al w' b vs:=
 ⟨λi v hi=>(aF hk _).trans (h.1 i v hi),λo=>(sj hk).trans (h.2 o)⟩
def dB(w:World)(b:Nat)(v0 v1 v2 v3 v4 v5:Value):World:=(((((w.setCell (Ad b 0) v0).setCell (Ad b 1) v1).setCell (Ad b 2) v2).setCell (Ad b 3) v3).setCell (Ad b 4) v4).setCell (Ad b 5) v5
def cT{w:World}(b:Nat)(v0 v1 v2 v3 v4 v5:Value):Below b w (dB w b v0 v1 v2 v3 v4 v5):=
 ((((((cR b w).setCell (p:=(Ad b 0)) ao _).setCell (p:=(Ad b 1)) ao _).setCell (p:=(Ad b 2)) ao _).setCell (p:=(Ad b 3)) ao _).setCell (p:=(Ad b 4)) ao _).setCell (p:=(Ad b 5)) ao _
def dy{w:World}(h:∃cur,w.heap[b]?=some (.cells cur ty)):(∃cur,(w.setCell (Ad b j) u).heap[b]?=some (.cells cur ty))/\Fr [ty] w (w.setCell (Ad b j) u):=by
 obtain⟨cur,hc⟩:=h;refine⟨?_,Fr.set hc ai⟩;simp only[World.setCell,xM,qt,hc,Jg];exact⟨_,rfl⟩
def je{w:World}(h:w.heap[b]?=some (.cells cur ty)):Fr [ty] w (dB w b v0 v1 v2 v3 v4 v5):=by
 have a0:=dy (j:=0) (u:=v0) ⟨cur,h⟩;have a1:=dy (j:=1) (u:=v1) a0.1;have a2:=dy (j:=2) (u:=v2) a1.1;have a3:=dy (j:=3) (u:=v3) a2.1;have a4:=dy (j:=4) (u:=v4) a3.1;have a5:=dy (j:=5) (u:=v5) a4.1;exact((((a0.2.trans a1.2).trans a2.2).trans a3.2).trans a4.2).trans a5.2
def al.d6{w:World}(h:al w b (v0::v1::v2::v3::v4::v5::vs)):w.cell? (Ad b 0)=some v0/\w.cell? (Ad b 1)=some v1/\w.cell? (Ad b 2)=some v2/\w.cell? (Ad b 3)=some v3/\w.cell? (Ad b 4)=some v4/\w.cell? (Ad b 5)=some v5/\∀o,w.frozen? (Ad b o)=false:=
 ⟨h.1 0 _ rfl,h.1 1 _ rfl,h.1 2 _ rfl,h.1 3 _ rfl,h.1 4 _ rfl,h.1 5 _ rfl,h.2⟩
def Ez{w:World}(h:al w b [o0,o1,o2,o3,o4,o5]):al (dB w b v0 v1 v2 v3 v4 v5) b [v0,v1,v2,v3,v4,v5]:=
 (((((h.fG 0 ai v0).fG 1 ai v1).fG 2 ai v2).fG 3 ai v3).fG 4 ai v4).fG 5 ai v5
def Pr{w:World}(h:al w b' vs)(cg:b'≠b):al (dB w b v0 v1 v2 v3 v4 v5) b' vs:=
 (((((h.yv (a:=(Ad b 0)) cg v0).yv (a:=(Ad b 1)) cg v1).yv (a:=(Ad b 2)) cg v2).yv (a:=(Ad b 3)) cg v3).yv (a:=(Ad b 4)) cg v4).yv (a:=(Ad b 5)) cg v5
def oL{w:World}:(dB w b v0 v1 v2 v3 v4 v5).heap.size=w.heap.size:=by simp[dB]
def iI{w:World}(cg:b'≠b):(dB w b v0 v1 v2 v3 v4 v5).heap[b']?=w.heap[b']?:=by
 unfold dB
 iterate 6 rw[fW _ _ _ _ (show b'≠_ from cg)]
def Gb{w:World}(h:∃cur,w.heap[b]?=some (.cells cur ty)):∃cur,(dB w b v0 v1 v2 v3 v4 v5).heap[b]?=some (.cells cur ty):=
 (dy (dy (dy (dy (dy (dy h).1).1).1).1).1).1
def gy.at{w:World}{n c:Nat}(h:gy B0 B w (.S p n c) ns)(hx:ns[i]?=some nd):∃g P V H U,p=some (Ad g 0)/\n=ns.length/\n<=c/\w.cell? (Ad g (i*8))=some P/\w.cell? (Ad g (i*8+1))=some V/\w.cell? (Ad g (i*8+2))=some (.U nd.owner)/\w.cell? (Ad g (i*8+3))=some (.I nd.mode)/\w.cell? (Ad g (i*8+4))=some H/\w.cell? (Ad g (i*8+5))=some (.U nd.aJ)/\w.cell? (Ad g (i*8+6))=some (.U nd.gen)/\w.cell? (Ad g (i*8+7))=some U/\TB w P nd.path/\TB w V nd.value/\TU B0 w H nd.holders/\TU B0 w U nd.watchers/\∀o,w.frozen? (Ad g o)=false:=by
 obtain⟨p',c',e,hc,-,hp⟩:=h.form;obtain⟨rfl,rfl,rfl⟩:=js e;obtain⟨g,rfl⟩:=hp (aG (bf.1 hx).1);obtain⟨cs,-,⟨P,V,H,U,rfl,h1,h2,h3,h4⟩,EW,hf⟩:=RT.at h hx;exact⟨g,P,V,H,U,rfl,rfl,hc,EW 0 _ rfl,EW 1 _ rfl,EW 2 _ rfl,EW 3 _ rfl,EW 4 _ rfl,EW 5 _ rfl,EW 6 _ rfl,EW 7 _ rfl,h1,h2,h3,h4,hf⟩
def TB.iK{w:World}(h:TB w v l):∃p c,v=.S p l.length c:=by
 obtain⟨⟨p,c,e,-⟩,-⟩:=h;exact⟨p,c,e⟩
def gy.rdn{w:World}(h:gy B0 B w v ns):oU w v ns:=by
 obtain⟨p,c,rfl,-,-,hp⟩:=RT.form h;refine⟨p,c,rfl,?_⟩;by_cases h0:ns=[];{exact .inl h0};{obtain⟨g,rfl⟩:=hp (VW.2 h0);refine .inr ⟨g,0,rfl,λi nd hi=>?_⟩;obtain⟨g',P,V,H,U,e,-,-,c0,c1,c2,c3,c4,c5,c6,c7,tP,tV,tH,tU,-⟩:=gy.at h hi;obtain⟨rfl,-⟩:=yD e;rw[kS];exact⟨P,V,H,U,c0,c1,c2,c3,c4,c5,c6,c7,tP.1,tV.1,tH.1,tU.1,tP.2.2⟩}
def TU.iK{w:World}(h:TU B w v l):∃p c,v=.S p l.length c:=by
 obtain⟨⟨p,c,e,-⟩,-⟩:=h;exact⟨p,c,e⟩
def XT(ss:List aP)(id:Int)(ev:Ev):(KO ss id ev).length=ss.length:=by simp[KO]
theorem vG(ids:LI)(ev:Ev):∀ss:List aP,(uA ss ids ev).length=ss.length:=by
 unfold uA
 induction ids with
 |nil=>intro ss;rfl
 |cons a r ih=>intro ss;rw[Mn,ih,XT]
def yW(e g x t:Int){n c:Nat}{q:OA}(en:Hid (ss.length=n))(kd:Int)(nd:aC)(hk:Hid (ns[k]?=some nd))(B:Nat)(w:World)(hS:Hid (kx B w (.S p n c) ss Qs))(hN:Hid (AK B w (.S q m d) ns))(hB:B<=w.heap.size)(hn:Mg n)(hm:Mg m)(hp:nd.path.length<=1048576)(hw:nd.watchers.length<=0):Calls prog 185 #[ft e g x t (.S p n c) (.S q m d),.I k,.I kd] w λr w'=>r=.returned (ft e g x t (.S p n c) (.S q m d))/\(∃Ve,kx B w' (.S p n c) (uA ss nd.watchers (kd,nd.path)) Ve)/\AK B w' (.S q m d) (ns.set k {nd with watchers:=[]})/\Fr [190,84,119] w w'/\Below B w w':=by
 obtain⟨gn,Pv,Vv,Hv,Uv,rfl,em,hmd,c0,-,-,-,-,-,-,c7,tP,-,-,tU,cfz⟩:=gy.at hN hk;have hkm:k<m:=by rw[em];exact(bf.1 (aa hk)).1
 have ba6:=aS k m;clear em;obtain⟨pe,ce,rfl⟩:=tP.iK;obtain⟨pu,cu,rfl⟩:=tU.iK;obtain⟨ne,eP⟩:=bH nd.path.length;obtain⟨nu,eU⟩:=bH nd.watchers.length;rw[aa eP]at hp tP c0;rw[aa eU]at hw tU c7;obtain rfl:nu=0:=ae;have Y4:gn<w.heap.size:=(hN.lt gn rfl).2;obtain⟨W0,dP,b0,z0,C0,T0⟩:=ar w #[.U e,.U g,.U x,.I t,.S p n c,.T gn m d] 35;obtain⟨W1,lG,b1,z1,C1,T1⟩:=ar W0 #[.U 0,.U 0,.U 0,.I 0,.S none 0 0,.S none 0 0] 35;obtain⟨W2,nF,b2,z2,C2,T2⟩:=ar W1 #[.I kd,.S pe ne ce] 190;rw[z0]at C1 T1 z1;rw[z1]at C2 T2 z2;have bW:=aj (aj b0 b1) b2;have k0:=λ(ob o2:Obj)=>ag (ag c0 ((cR _ w).alloc ao ob)) (au.alloc ao o2);have k7:=λ(ob o2 o3:Obj)=>ag (ag (ag c7 ((cR _ w).alloc ao ob)) (au.alloc ao o2)) (au.alloc ao o3);have kz:=λ(ob o2 o3:Obj)=>((((((cR w.heap.size w).alloc ao ob).alloc ai o2).alloc aU o3)).frozen (p:=(Ad gn (k*8+7))) Y4).trans (cfz _);have NW:=hN.fr (aM bW);obtain⟨NX,FX⟩:=gy.put NW hk (j:=7) ae (.S none 0 0) {nd with watchers:=[]} (λw' P V H U h1 h2 h3 h4 _=>⟨P,V,H,.S none 0 0,rfl,h1,h2,h3,TU.nil _⟩);obtain⟨X,hX⟩:=az (W2.setCell (Ad gn (k*8+7)) (.S none 0 0));rw[<-hX]at NX FX;have SX:=(hS.fr (aM bW)).fr FX;have cg:∀b,w.heap.size<=b->X.heap[b]?=W2.heap[b]?:=λb hb=>by rw[hX];exact fW _ _ _ _ (by show b≠gn;omega)
 have HX:=af (ah NX SX);have HC:=af (ah (((C0.below ae b1).below ae b2).dG (cg _ ao)) (ah ((C1.below ae b2).dG (cg _ ae)) jR));have HT:=af (ah ((cg _ ao).trans ((b2.block _ ae).trans ((b1.block _ ae).trans T0))) (ah ((cg _ ae).trans ((b2.block _ ae).trans T1)) jR));have BX:Below B w X:=hX▸(bW.mono hB).setCell (hN.lt gn rfl).1 _;have FW:Fr [190,84,119] w X:=(Fr.below bW).trans (FX.sub ai);have zX:X.heap.size=w.heap.size+3:=by rw[hX];simp;omega
 clear b0 b1 b2 C0 C1 C2 T0 T1 T2 NX SX NW cg c0 c7 cfz tP tU
 go_in
 go_wp2;rw[<-dP,<-lG,<-nF,<-hX];clear dP lG nF hX k0 k7 kz
 go_loopw[9](λiv wr=>iv=.I 0/\wr=X) (λ_ _=>0)
 exact⟨rfl,rfl⟩;{obtain⟨rfl,rfl⟩:=hrel;obtain⟨k0,k1,k2,k3,k4,k5,kf⟩:=HC.1.d6;obtain⟨q0,q1,q2,q3,q4,q5,rf⟩:=HC.2.1.d6;go_wp2;have hF:=je (v0:=.U e) (v1:=.U g) (v2:=.U x) (v3:=.I t) (v4:=.S p n c) (v5:=.T gn m d) HT.2.1;have Sw:Below (w.heap.size+1) wr (dB wr (w.heap.size+1) (.U e) (.U g) (.U x) (.I t) (.S p n c) (.T gn m d)):=cT _ _ _ _ _ _ _;refine dD (v:=ft e g x t (.S p n c) (.T gn m d)) (by simp[results,results185,go_sem,q0,q1,q2,q3,q4,q5]) rfl ?_;refine⟨rfl,⟨Qs,?_⟩,HX.1.fr hF,⟨dQ FW.1 Sw.size,λb cur ty mm ht hb=>(Sw.block b (aG (jV hb))).trans (FW.2 b cur ty mm ht hb)⟩,BX.trans (Sw.mono ae)⟩;rw[Jd (aa eU)];exact HX.2.fr hF}
def gU{w:World}{rest:List Oper}{Q:Exit->Act->World->Prop}(mW:o.guard=none){s x:Operand}(ho:o.op=.call {callee:=.builtin .append,args:=#[s,x],argTypes:=#[33,33]})(v:Value)(ek:Hid (ns.length=k))(hs:a.eval s=v)(bO:gy B0 B w v ns)(g:Nat){cs:List Value}(hx:a.eval x=.T g 1 1)(vd:nM B0 w nd cs)(jk:∀j u,cs[j]?=some u->w.cell? (Ad g j)=some u)(hk:k<4194304)(hB:B<=w.heap.size)(h:∀p' c' w',gy B0 B w' (.S p' (k+1) c') (ns++[nd])->w.grownBy w' v.ownBlock->Fr [119] w w'->wpList prog ops Q rest (a.put o.dst (.S p' (k+1) c')) w'):wpList prog ops Q (o::rest) a w:=by
 obtain⟨i,hi,qc,iU,jU⟩:=gh Tryz.infoNod;have ht:=bO.Zp;obtain⟨rs,h1,h2,h3,h4⟩:=bO;have Su:cs.length=8/\∀u∈cs,u.oneCell'=true:=by obtain⟨P,V,H,U,rfl,a1,a2,a3,a4⟩:=vd;obtain⟨_,_,rfl⟩:=a1.iK;obtain⟨_,_,rfl⟩:=a2.iK;obtain⟨_,_,rfl⟩:=a3.iK;obtain⟨_,_,rfl⟩:=a4.iK;exact⟨rfl,λu hu=>by simp at hu;rcases hu with rfl|rfl|rfl|rfl|rfl|rfl|rfl|rfl<;>rfl⟩
 rw[aa ek]at h3;refine cK mW 33 ho i 8 underlying33 hi qc iU jU rfl aZ v hs h3 g 1 1 cs hx Su.1 jk Su.2 iF ae hB ?_;intro v' w' du hg _;have hf:Fr [119] w w':=Fr.grown hg λb hb=>by obtain⟨cur,hc⟩:=ht b hb;exact⟨cur,_,hc,ai⟩
 have sn:gy B0 B w' v' (ns++[nd]):=RT.snoc h1 h2 h4 (nM.fr hf aZ aZ) vd Su.1 (aa ek▸du);obtain⟨p',c',rfl,-⟩:=RT.form sn;rw[ir,aa ek]at sn⊢;exact h p' c' w' sn hg hf
def aA7(h:ns[j]?=some nd):(ns.take (j+1)).eraseIdx k=if j=k then(ns.take j).eraseIdx k else(ns.take j).eraseIdx k++[nd]:=by
 have hj:=(bf.1 h).1;have hl:(ns.take j).length=j:=by rw[od];omega
 rw[ni,h,Option.toList_some];by_cases e:j=k;{subst e;rw[bN rfl,aO6 ae,hl,Cb,ad7 (l:=ns.take j) ae];simp};{rw[bG e];by_cases e2:k<j;{rw[List.eraseIdx_append_of_lt_length ae]};{rw[aO6 ae,hl,ad7 (l:=ns.take j) ae,ad7 aU]}}
def FQ{n c:Nat}{q:OA}(em:Hid (ns.length=m)){w:World}(hN:Hid (AK B w (.S q m d) ns))(hm:Mg m):Calls prog 186 #[ft e g x t (.S p n c) (.S q m d),.I k] w λr w'=>∃p' c',r=.returned (ft e g x t (.S p n c) (.S p' (ns.eraseIdx k).length c'))/\gy B w.heap.size w' (.S p' (ns.eraseIdx k).length c') (ns.eraseIdx k)/\Bw w w':=by
 obtain⟨W0,dP,b0,z0,C0,T0⟩:=ar w #[.U e,.U g,.U x,.I t,.S p n c,.S q m d] 35;obtain⟨W1,lG,b1,z1,C1,T1⟩:=ar W0 #[.U 0,.U 0,.U 0,.I 0,.S none 0 0,.S none 0 0] 35;rw[z0]at C1 T1 z1;have bW:=af (aj b0 b1);have HC:=af (ah (C0.below ae b1) C1);have HT:=af (ah ((b1.block _ ae).trans T0) T1)
 go_in
 go_wp2;rw[<-dP,<-lG]
 go_loopw[5,6](λov iv wr=>∃(j:Nat)(L:List aC)(nl:Nat)(po:OA)(co:Nat),j<=m/\iv=.I j/\ov=.S po nl co/\Hid (L.length=nl)/\Hid ((ns.take j).eraseIdx k=L)/\Hid (gy B (w.heap.size+2) wr (.S po nl co) L)/\Hid (Below (w.heap.size+2) W1 wr)) (λ_ iv _=>m-(intOf iv).toNat)
 exact⟨0,[],0,none,0,fN _,rfl,rfl,af rfl,(by show _=_;simp),RT.nil _ _ _ _ _,cR _ _⟩;{
 obtain⟨j,L,nl,po,co,hj,rfl,rfl,jJ,hL,ho,aK⟩:=hrel;have zr:=aK.size;have Cj:nl<4194304:=by have h1:=(Gx (ns.take j) k).length_le;have h2:=Gz j ns;rw[aa hL,aa jJ]at h1;omega
 have HCr:=af (ah (HC.1.below ae (aK.mono ae:Bw W1 wr)) (HC.2.below ae (aK.mono ae:Bw W1 wr)));have s5:=HCr.1.1 5 _ rfl;by_cases aT:j<m;{
 have bu:=aS j m;obtain⟨nd,bj⟩:∃nd,ns[j]?=some nd:=⟨_,bD (aa em▸aT)⟩;have cX:=aA7 (k:=k) bj;rw[aa hL]at cX;have qz:=af cX;by_cases he:j=k;{
 have E1:Hid ((ns.take (j+1)).eraseIdx k=L):=by have:=aa qz;rwa [bN he]at this
 have hee:((j:Int) != (k:Int))=false:=by simp;omega
 go_wp2;go_roundw;exact⟨j+1,L,nl,po,co,ae,by go_num,rfl,jJ,E1,ho,aK⟩;exact bM};{
 have E1:Hid ((ns.take (j+1)).eraseIdx k=L++[nd]):=by have:=aa qz;rwa [bG he]at this
 have hee:((j:Int) != (k:Int))=true:=by simp;omega
 have bwr:Bw w wr:=bW.trans (aK.mono ae);obtain⟨gn,P,V,H,U,rfl,-,-,c0,c1,c2,c3,c4,c5,c6,c7,tP,tV,tH,tU,-⟩:=gy.at (hN.fr (aM bwr)) bj;obtain⟨pP,cP,rfl⟩:=tP.iK;obtain⟨pV,cV,rfl⟩:=tV.iK;obtain⟨pH,cH,rfl⟩:=tH.iK;obtain⟨pU,cU,rfl⟩:=tU.iK;obtain⟨v3,ly⟩:=az (wr.alloc (.cells #[.S pP nd.path.length cP,.S pV nd.value.length cV,.U nd.owner,.I nd.mode,.S pH nd.holders.length cH,.U nd.aJ,.U nd.gen,.S pU nd.watchers.length cU] 119));have b3:=ew ly;have HX:=af (ah (ho.fr (aM b3)) (ah (show nM B v3 nd [.S pP nd.path.length cP,.S pV nd.value.length cV,.U nd.owner,.I nd.mode,.S pH nd.holders.length cH,.U nd.aJ,.U nd.gen,.S pU nd.watchers.length cU]from⟨_,_,_,_,rfl,tP.fr (aM b3),tV.fr (aM b3),tH.fr (aM b3),tU.fr (aM b3)⟩) (show al v3 wr.heap.size _ by rw[ly];exact al.alloc wr _ _)));have YU:=af λb e=>(ho.lt b e).1;have b3':=af b3;have z3:=b3.size;go_wp2_with(at_builtin;rw[<-ly];refine gU rfl rfl (.S po nl co) jJ rfl HX.1 wr.heap.size rfl HX.2.1 HX.2.2.1 Cj ae ?_);intro p' c' w' o2 gi _;rw[<-ly]at gi;have b4:=af ((aK.trans (b3'.mono ae)).grown gi ae YU);have O2:=af o2;go_wp2;go_roundw;exact⟨j+1,L++[nd],nl+1,p',c',ae,by go_num,rfl,af (by rw[ir,aa jJ];rfl),E1,O2,b4⟩;exact bM}};{have bu:=dm j m;have ri:=aa hL;rw[ke (by rw[aa em];omega)]at ri;obtain⟨K0,kf⟩:=HCr.1;obtain⟨R0,rf⟩:=HCr.2;have k0:=K0 0 _ rfl;have k1:=K0 1 _ rfl;have k2:=K0 2 _ rfl;have k3:=K0 3 _ rfl;have k4:=K0 4 _ rfl;have q0:=R0 0 _ rfl;have q1:=R0 1 _ rfl;have q2:=R0 2 _ rfl;have q3:=R0 3 _ rfl;have q4:=R0 4 _ rfl;have q5:=R0 5 _ rfl;have HB0:=af (ah ((aK.block _ ae).trans HT.1) ((aK.block _ ae).trans HT.2));go_wp2;subst ri;have en:=aa jJ;subst en;have f1:=dy (j:=5) (u:=.S po (ns.eraseIdx k).length co) ⟨_,HB0.1⟩;have t1:(wr.setCell (Ad w.heap.size 5) (.S po (ns.eraseIdx k).length co)).heap[w.heap.size+1]?=_:=(fW _ _ _ _ (by show w.heap.size+1≠w.heap.size;omega)).trans HB0.2;have f2:=je (v0:=.U e) (v1:=.U g) (v2:=.U x) (v3:=.I t) (v4:=.S p n c) (v5:=.S po (ns.eraseIdx k).length co) t1;have Sw:=((bW.trans (aK.mono ae)).setCell (p:=(Ad w.heap.size 5)) ao (.S po (ns.eraseIdx k).length co)).trans ((cT (w.heap.size+1) (.U e) (.U g) (.U x) (.I t) (.S p n c) (.S po (ns.eraseIdx k).length co)).mono ae);refine dD (v:=ft e g x t (.S p n c) (.S po (ns.eraseIdx k).length co)) (by simp[results,results186,go_sem,q0,q1,q2,q3,q4,q5]) rfl ?_;exact⟨po,co,rfl,((ho.fr f1.2).fr f2).mono ae,Sw⟩}}
def kx.at{w:World}{n c:Nat}(h:kx B w (.S p n c) ss Qs)(hx:ss[i]?=some s):∃g Q,p=some (Ad g 0)/\n=ss.length/\n<=c/\Qs[i]?=some Q/\w.cell? (Ad g (i*3))=some (.U s.1)/\w.cell? (Ad g (i*3+1))=some (.I s.2.1)/\w.cell? (Ad g (i*3+2))=some Q/\NJ B w Q s.2.2/\∀o,w.frozen? (Ad g o)=false:=by
 have hi:=(bf.1 hx).1;obtain⟨Q,hQ⟩:∃Q,Qs[i]?=some Q:=⟨_,bD (h.len▸hi)⟩;have hz:(ss.zip Qs)[i]?=some (s,Q):=by rw[Kg];exact⟨hx,hQ⟩
 have hl:(ss.zip Qs).length=ss.length:=by rw[Qf,h.len];simp
 obtain⟨p',c',e,hc,-,hp⟩:=h.row.form;rw[hl]at e hc hp;obtain⟨rfl,rfl,rfl⟩:=js e;obtain⟨g,rfl⟩:=hp ae;obtain⟨cs,-,he,EW,hf⟩:=RT.at h.row hz;unfold tO at he;subst he;exact⟨g,Q,rfl,rfl,hc,hQ,EW 0 _ rfl,EW 1 _ rfl,EW 2 _ rfl,h.Xh i s Q hx hQ,hf⟩
def xF(ss:List aP)(id:Int):Int:=match ss.findIdx? (λs=>s.1==id)with
 |some i=>i
 |none=>-1
def aA5{id:Int}(h:ss[j]?=some s)(hs:s.1=id)(l9:∀(i:Nat)(s':aP),i<j->ss[i]?=some s'->¬s'.1=id):xF ss id=j:=by
 have hj:=(bf.1 h);have:ss.findIdx? (λs=>s.1==id)=some j:=by rw[Da];refine⟨hj.1,by rw[hj.2];simp[hs],λi hi=>?_⟩;have:=l9 i _ hi (bD (aG hj.1));simpa using this
 rw[xF,this]
def ZM{id:Int}(l9:∀(i:Nat)(s':aP),ss[i]?=some s'->¬s'.1=id):xF ss id=-1:=by
 have:ss.findIdx? (λs=>s.1==id)=none:=by rw[VT];intro x hx;obtain⟨i,hi⟩:=gH.1 hx;simpa using l9 i x hi
 rw[xF,this]
def Ts{n c:Nat}{q:OA}(en:Hid (ss.length=n)){id:Int}{w:World}(hS:Hid (kx B w (.S p n c) ss Qs))(hn:Mg n):Calls prog 124 #[ft e g x t (.S p n c) (.S q m d),.U id] w (Rb (.I (xF ss id)) w):=by
 obtain⟨W0,dP,b0,z0,C0,T0⟩:=ar w #[.U e,.U g,.U x,.I t,.S p n c,.S q m d] 35;have bW:=af b0;have HC:=af C0;clear b0 C0 T0
 go_in
 go_wp2;rw[<-dP];clear dP
 go_loopw[5](λiv wr=>∃j:Nat,j<=n/\iv=.I j/\Hid (∀(i:Nat)(s':aP),i<j->ss[i]?=some s'->¬s'.1=id)/\Hid (Bw W0 wr)) (λiv _=>n-(intOf iv).toNat)
 exact⟨0,fN _,rfl,(λi s' h=>absurd h ae),cR _ _⟩;{
 obtain⟨j,hj,rfl,l9,aK⟩:=hrel;have s4:=(HC.below ae aK).1 4 _ rfl;by_cases aT:j<n;{
 have bu:=aS j n;obtain⟨s,hs⟩:∃s,ss[j]?=some s:=⟨_,bD (aa en▸aT)⟩;have bwr:Bw w wr:=aj bW aK;obtain⟨gs,Q,rfl,-,-,-,c0,-⟩:=kx.at (hS.fr (aM bwr)) hs;have HB:=af bwr;have HS:=af hs;clear hs bwr;obtain⟨I,J,K⟩:=s;by_cases he:I=id;{
 subst he;have hee:(I==I)=true:=ai;go_wp2;go_ret;refine⟨?_,HB⟩;rw[aA5 (aa HS) rfl (aa l9)]
 rfl}
 {
 have aj8:Hid (∀(i:Nat)(s':aP),i<j+1->ss[i]?=some s'->¬s'.1=id):=λi s' hi h=>by by_cases e2:i=j;{subst e2;rw[aa HS]at h;cases h;exact he};{exact l9 i s' ae h}
 go_wp2;go_roundw;exact⟨j+1,ae,by go_num,aj8,aK⟩;exact bM}};{have bu:=dm j n;have HE:=af (ZM (λi s' h=>aa l9 i s' (by have:=(bf.1 h).1;rw[aa en]at this;omega) h));have HB:Hid (Bw w wr):=aj bW aK;go_wp2;go_ret;exact⟨by rw[aa HE];rfl,aa HB⟩}}
def lr.tu{w:World}(h:lr B w v l)(hB:B'<=B):TU B' w v l:=by
 refine⟨h.1.rdu,?_,h.2,?_⟩;{intro b e;rcases h.1.2 with⟨rfl,-⟩|⟨g,cap,cur,rfl,-,hg,-⟩;{simp[Value.ownBlock]at e};{simp only[Value.ownBlock,kU]at e;subst e;exact⟨cur,hg⟩}};{intro b e;rcases h.1.2 with⟨rfl,-⟩|⟨g,cap,cur,rfl,hb,-⟩;{simp[Value.ownBlock]at e};{simp only[Value.ownBlock,kU]at e;subst e;exact dQ hB hb}}
def gy.TD{w:World}{g n cap:Nat}{nd0:aC}(h:gy B0 B w (.T g n cap) (ns.set k nd))(hk:ns[k]?=some nd0)(hj:j<8)(u:Value)(nd':aC)(hn:∀w' P V H U,TB w' P nd.path->TB w' V nd.value->TU B0 w' H nd.holders->TU B0 w' U nd.watchers->Fr [119] w w'->nM B0 w' nd' ([P,V,.U nd.owner,.I nd.mode,H,.U nd.aJ,.U nd.gen,U].set j u)):gy B0 B (w.setCell (Ad g (k*8+j)) u) (.T g n cap) (ns.set k nd')/\Fr [119] w (w.setCell (Ad g (k*8+j)) u):=by
 have:=gy.put h (i:=k) (nd:=nd) (by rw[vZ];simp[(bf.1 hk).1]) hj u nd' hn;rwa [Kf]at this
def aH8{T:List TypeId}{w wr:World}(hF:Fr T w wr)(ox:Below B w wr)(hb:w.heap.size<=b)(hB:B<=w.heap.size)(ht:wr.heap[b]?=some (.cells cur 35))(v0 v1 v2 v3 v4 v5:Value):Fr T w (dB wr b v0 v1 v2 v3 v4 v5)/\Below B w (dB wr b v0 v1 v2 v3 v4 v5)/\Fr [35] wr (dB wr b v0 v1 v2 v3 v4 v5):=by
 have Sw:=cT (w:=wr) b v0 v1 v2 v3 v4 v5;exact⟨⟨dQ hF.1 Sw.size,λb' cur ty mm ht bR=>(Sw.block b' (aG (jV bR))).trans (hF.2 b' cur ty mm ht bR)⟩,ox.trans (Sw.mono ae),je ht⟩
def Ij{id:Int}(hk:D.ns[k]?=some nd)(h:nd.holders.contains id=false):dO D k id=D:=by
 unfold dO;rw[hk];simp only[h,I9,Ag]
def Ii{id:Int}(hk:D.ns[k]?=some nd)(h:nd.holders.contains id=true)(h2:qT nd.holders id≠[]):dO D k id={D with ns:=D.ns.set k {nd with holders:=qT nd.holders id}}:=by
 unfold dO;rw[hk];simp only[h,qt,bG h2]
def Ik{id:Int}(hk:D.ns[k]?=some nd)(h:nd.holders.contains id=true)(h2:qT nd.holders id=[]):dO D k id={D with ss:=uA D.ss nd.watchers (3,nd.path),ns:=D.ns.set k {nd with holders:=[],mode:=0,aJ:=0,gen:=0,watchers:=[]}}:=by
 unfold dO;rw[hk];simp only[h,qt,bN h2];unfold dV;have fh:=(bf.1 hk).1;simp only[vZ,fh,qt,Kf]
def Rj{n c:Nat}{q:OA}(en:Hid (ss.length=n)){id:Int}(hk:Hid (ns[k]?=some nd)){w:World}(hS:Hid (kx B w (.S p n c) ss Qs))(hN:Hid (AK B w (.S q m d) ns))(hB:B<=w.heap.size)(hn:Mg n)(hm:Mg m)(hp:nd.path.length<=1048576)(hw:nd.watchers.length<=0)(hh:nd.holders.length<=1048576):Calls prog 184 #[ft e g x t (.S p n c) (.S q m d),.I k,.U id] w λr w'=>r=.returned (ft e g x t (.S p n c) (.S q m d))/\(∃Ve,kx B w' (.S p n c) (dO ⟨e,g,x,t,ss,ns⟩ k id).ss Ve)/\AK B w' (.S q m d) (dO ⟨e,g,x,t,ss,ns⟩ k id).ns/\Fr [190,84,119] w w'/\Below B w w':=by
 obtain⟨gn,Pv,Vv,Hv,Uv,rfl,em,hmd,-,-,-,-,c4,-,-,-,-,-,tH,-,cfz⟩:=gy.at hN hk;have hkm:k<m:=by rw[em];exact(bf.1 (aa hk)).1
 have ba6:=aS k m;clear em;obtain⟨ph,ch,rfl⟩:=tH.iK;obtain⟨nh,eH⟩:=bH nd.holders.length;rw[aa eH]at hh tH c4;have Y4:gn<w.heap.size:=(hN.lt gn rfl).2;have MI:=(hN.lt gn rfl).1;obtain⟨W0,dP,b0,z0,C0,T0⟩:=ar w #[.U e,.U g,.U x,.I t,.S p n c,.T gn m d] 35;obtain⟨W1,lG,b1,z1,C1,T1⟩:=ar W0 #[.U 0,.U 0,.U 0,.I 0,.S none 0 0,.S none 0 0] 35;rw[z0]at C1 T1 z1;have bW:=af (aj b0 b1);have k4:=λ(ob o2:Obj)=>ag (ag c4 ((cR _ w).alloc ao ob)) (au.alloc ao o2);have HC:=af (ah (C0.below ae b1) C1);have HT:=af (ah ((b1.block _ ae).trans T0) T1);have HN1:=af (ah (hS.fr (aM (aa bW))) (ah (hN.fr (aM (aa bW))) (tH.fr (aM (aa bW)))));have fz:=λ(v:World)(hv:Bw W1 v)(o:Nat)=>((aj bW hv).frozen (p:=(Ad gn o)) Y4).trans (cfz o);have FZ:=af fz;have HC4:=af c4;clear b0 b1 C0 C1 T0 T1 c4 cfz tH fz
 go_in
 go_wp2_with fail;rw[<-dP,<-lG];obtain⟨bo,XN⟩:=bH (nd.holders.contains id);refine(Ch eH HN1.2.2.1 hh XN).mono ?_;rintro r w1⟨rfl,aA⟩;have z1':=aA.size;have yM:=af (ah (HC.1.below ae aA) (HC.2.below ae aA));have HT1:=af (ah ((aA.block _ ae).trans HT.1) ((aA.block _ ae).trans HT.2));have Be:=af (ah (HN1.1.fr (aM aA)) (ah (HN1.2.1.fr (aM aA)) (HN1.2.2.fr (aM aA))));have nO:=af (aj bW aA);have c4:=ag HC4 nO;have FZ1:=af (λ(v:World)(hv:Bw w1 v)(o:Nat)=>aa FZ v (aj aA hv) o);have s5:=yM.1.1 5 _ rfl;cases bo;{obtain⟨K0,kf⟩:=yM.1;obtain⟨R0,rf⟩:=yM.2;have k0:=K0 0 _ rfl;have k1:=K0 1 _ rfl;have k2:=K0 2 _ rfl;have k3:=K0 3 _ rfl;have k4:=K0 4 _ rfl;have q0:=R0 0 _ rfl;have q1:=R0 1 _ rfl;have q2:=R0 2 _ rfl;have q3:=R0 3 _ rfl;have q4:=R0 4 _ rfl;have q5:=R0 5 _ rfl;go_wp2;have f2:=je (v0:=.U e) (v1:=.U g) (v2:=.U x) (v3:=.I t) (v4:=.S p n c) (v5:=.T gn m d) HT1.2;have Sw:=nO.trans ((cT (w:=w1) (w.heap.size+1) (.U e) (.U g) (.U x) (.I t) (.S p n c) (.T gn m d)).mono ae);refine dD (v:=ft e g x t (.S p n c) (.T gn m d)) (by simp[results,results184,go_sem,q0,q1,q2,q3,q4,q5]) rfl ?_;rw[Ij (aa hk) (aa XN)];exact⟨rfl,⟨_,Be.1.fr f2⟩,Be.2.1.fr f2,Fr.below Sw,Sw.mono hB⟩};{
 go_wp2_with fail;refine(xj eH Be.2.2.1 hh).mono ?_;rintro r w2⟨pl,cl,rfl,ol,aD⟩;obtain⟨L,eL⟩:=bH (qT nd.holders id);rw[aa eL]at ol;obtain⟨nl,jJ⟩:=bH L.length;rw[aa eL,aa jJ];rw[aa jJ]at ol;have z2':=aD.size;have SQ:=af (ah (yM.1.below ae aD) (yM.2.below ae aD));have HT2:=af (ah ((aD.block _ ae).trans HT1.1) ((aD.block _ ae).trans HT1.2));have HN3:=af (ah (Be.1.fr (aM aD)) (ah (Be.2.1.fr (aM aD)) (ol.tu (B':=B) (aG nO.size))));have Bf:=af (aj nO aD);have fz:=aa FZ1 w2 aD;have s5:=SQ.1.1 5 _ rfl;have fz4:=fz (k*8+4);obtain⟨gn',P',V',H',U',e',-,-,-,-,-,d3,d4,d5,d6,-⟩:=gy.at HN3.2.1 hk;obtain⟨rfl,-⟩:=yD e';have cg:¬gn=w.heap.size:=ae;have bz5:¬gn=w.heap.size+1:=ae;obtain⟨N4,F4⟩:=gy.put HN3.2.1 hk (j:=4) ae (.S pl nl cl) {nd with holders:=L} (λw' P V H U h1 h2 h3 h4 hf=>⟨P,V,.S pl nl cl,U,rfl,h1,h2,HN3.2.2.fr hf,h4⟩);obtain⟨K0,kf⟩:=SQ.1;obtain⟨R0,rf⟩:=SQ.2;have k0:=K0 0 _ rfl;have k1:=K0 1 _ rfl;have k2:=K0 2 _ rfl;have k3:=K0 3 _ rfl;have k4:=K0 4 _ rfl;have q0:=R0 0 _ rfl;have q1:=R0 1 _ rfl;have q2:=R0 2 _ rfl;have q3:=R0 3 _ rfl;have q4:=R0 4 _ rfl;have q5:=R0 5 _ rfl;by_cases h0:nl=0;{
 subst h0;have hL0:L=[]:=sV.1 jJ;subst hL0;have fz3:=fz (k*8+3);have fz5:=fz (k*8+5);have fz6:=fz (k*8+6);have NK:=hk;obtain⟨N4',F4'⟩:=(⟨N4,F4⟩:_/\_);obtain⟨N3,F3⟩:=gy.TD N4 hk (j:=3) ae (.I 0) {nd with holders:=[],mode:=0} (λw' P V H U h1 h2 h3 h4 hf=>⟨P,V,H,U,rfl,h1,h2,h3,h4⟩);obtain⟨N5,F5⟩:=gy.TD N3 hk (j:=5) ae (.U 0) {nd with holders:=[],mode:=0,aJ:=0} (λw' P V H U h1 h2 h3 h4 hf=>⟨P,V,H,U,rfl,h1,h2,h3,h4⟩);obtain⟨N6,F6⟩:=gy.TD N5 hk (j:=6) ae (.U 0) {nd with holders:=[],mode:=0,aJ:=0,gen:=0} (λw' P V H U h1 h2 h3 h4 hf=>⟨P,V,H,U,rfl,h1,h2,h3,h4⟩);obtain⟨X,hX⟩:=az ((((w2.setCell (Ad gn (k*8+4)) (.S pl 0 cl)).setCell (Ad gn (k*8+3)) (.I 0)).setCell (Ad gn (k*8+5)) (.U 0)).setCell (Ad gn (k*8+6)) (.U 0));rw[<-hX]at N6 F6;have FX:=af (((F4.trans F3).trans F5).trans F6);have NX:=af N6;have SX:=af (HN3.1.fr FX);have BX:Hid (Below B w X):=by rw[hX];exact(((((Bf.mono hB).setCell (p:=(Ad gn _)) MI _).setCell (p:=(Ad gn _)) MI _).setCell (p:=(Ad gn _)) MI _).setCell (p:=(Ad gn _)) MI _)
 have FW:=af ((Fr.below (aa Bf):Fr [190,84,119] w w2).trans (FX.sub ai));have zX:=FX.1;have tX0:=FX.2 _ _ _ _ aZ HT2.1;have tX1:=FX.2 _ _ _ _ aZ HT2.2;have Sg:=SQ.1.dG (tX0.trans HT2.1.symm);have CX1:=SQ.2.dG (tX1.trans HT2.2.symm);have HX:=af (ah tX0 (ah tX1 (ah Sg CX1)));go_wp2_with fail;rw[<-hX];refine(yW e g x t (p:=p) (c:=c) (q:=some (Ad gn 0)) (m:=m) (d:=d) (Qs:=Qs) en (k:=k) 3 {nd with holders:=[],mode:=0,aJ:=0,gen:=0} (af (by rw[vZ];simp[(bf.1 (aa hk)).1])) B X SX NX ae hn hm hp hw).mono ?_;rintro r w3⟨rfl,⟨Q3,hS3⟩,Jv,Ee,aL⟩;rw[Kf]at Jv;have t0:=Ee.2 _ _ _ _ aZ HX.1;have t1:=Ee.2 _ _ _ _ aZ HX.2.1;have C0:=HX.2.2.1.dG (t0.trans HX.1.symm);have C1:=HX.2.2.2.dG (t1.trans HX.2.1.symm);have HE:=af (ah hS3 (ah Jv (ah (FW.trans Ee) (BX.trans aL))));have HT3:=af (ah t0 t1);have Sd:=af C1;obtain⟨K0,kf⟩:=C0;obtain⟨R0,rf⟩:=C1;have k0:=K0 0 _ rfl;have k1:=K0 1 _ rfl;have k2:=K0 2 _ rfl;have k3:=K0 3 _ rfl;have k4:=K0 4 _ rfl;have k5:=K0 5 _ rfl;have q0:=R0 0 _ rfl;have q1:=R0 1 _ rfl;have q2:=R0 2 _ rfl;have q3:=R0 3 _ rfl;have q4:=R0 4 _ rfl;have q5:=R0 5 _ rfl;go_wp2;obtain⟨fA,bA,gA⟩:=aH8 HE.2.2.1 HE.2.2.2 ao hB HT3.1 (.U e) (.U g) (.U x) (.I t) (.S p n c) (.T gn m d);obtain⟨fB,bB,gB⟩:=aH8 fA bA (VS _) hB ((iI ae).trans HT3.2) (.U e) (.U g) (.U x) (.I t) (.S p n c) (.T gn m d);refine dD (v:=ft e g x t (.S p n c) (.T gn m d)) (by simp[results,results184,go_sem,q0,q1,q2,q3,q4,q5]) rfl ?_;rw[Ik (aa hk) (aa XN) (aa eL)];exact⟨rfl,⟨_,(HE.1.fr gA).fr gB⟩,(HE.2.1.fr gA).fr gB,fB,bB⟩};{have hnl:¬((nl:Int)=0):=ae;go_wp2;have t1:=F4.2 _ _ _ _ aZ HT2.2;obtain⟨fB,bB,gB⟩:=aH8 ((Fr.below (aa Bf):Fr [190,84,119] w w2).trans (F4.sub ai)) ((Bf.mono hB).setCell (p:=(Ad gn _)) MI _) (VS _) hB t1 (.U e) (.U g) (.U x) (.I t) (.S p n c) (.T gn m d);refine dD (v:=ft e g x t (.S p n c) (.T gn m d)) (by simp[results,results184,go_sem,q0,q1,q2,q3,q4,q5]) rfl ?_;rw[Ii (aa hk) (aa XN) (by rw[aa eL];intro e;rw[e]at jJ;exact h0 jJ.symm)];refine⟨rfl,⟨_,(HN3.1.fr F4).fr gB⟩,?_,fB,bB⟩;simp only[aa eL];exact gy.fr N4 gB}}
def BX(w:World)(b:Nat)(vs:List Value):Prop:=al w b vs/\∃cur,w.heap[b]?=some (.cells cur 35)
def BX.fr{T:List TypeId}{w w':World}(h:BX w b vs)(hf:Fr T w w')(ht:35∉T:=by decide):BX w' b vs:=by
 obtain⟨h1,cur,h2⟩:=h;have h3:=hf.2 _ _ _ _ ht h2;exact⟨h1.dG (h3.trans h2.symm),cur,h3⟩
def BX.lt{w:World}(h:BX w b vs):b<w.heap.size:=by
 obtain⟨h1,cur,h2⟩:=h;exact jV h2
def BX.below{w w':World}(h:BX w b vs)(hb:Bw w w'):BX w' b vs:=h.fr (aM hb) (by simp)
def BX.put{w:World}(h:BX w b [o0,o1,o2,o3,o4,o5])(v0 v1 v2 v3 v4 v5:Value):BX (dB w b v0 v1 v2 v3 v4 v5) b [v0,v1,v2,v3,v4,v5]:=⟨Ez h.1,Gb h.2⟩
def BX.yv{w:World}(h:BX w b' vs)(cg:b'≠b)(v0 v1 v2 v3 v4 v5:Value):BX (dB w b v0 v1 v2 v3 v4 v5) b' vs:=⟨Pr h.1 cg,h.2.imp λcur hc=>(iI cg).trans hc⟩
def BX.fin{T:List TypeId}{w wr:World}(h:BX wr b vs)(hF:Fr T w wr)(ox:Below B w wr)(hb:w.heap.size<=b)(hB:B<=w.heap.size)(v0 v1 v2 v3 v4 v5:Value):Fr T w (dB wr b v0 v1 v2 v3 v4 v5)/\Below B w (dB wr b v0 v1 v2 v3 v4 v5)/\Fr [35] wr (dB wr b v0 v1 v2 v3 v4 v5):=by
 obtain⟨-,cur,h2⟩:=h;exact aH8 hF ox hb hB h2 _ _ _ _ _ _
def BX.FK{w:World}(h:BX w b' vs)(cg:b'≠b):BX (w.setCell (Ad b j) u) b' vs:=⟨h.1.dG (fW _ _ _ _ cg),h.2.imp λcur hc=>(fW _ _ _ _ cg).trans hc⟩
def BX.bH8{T:List TypeId}{w wr:World}(h:BX wr b vs)(hF:Fr T w wr)(ox:Below B w wr)(hb:w.heap.size<=b)(hB:B<=w.heap.size)(u:Value):Fr T w (wr.setCell (Ad b j) u)/\Below B w (wr.setCell (Ad b j) u)/\Fr [35] wr (wr.setCell (Ad b j) u):=by
 have Sw:Below b wr (wr.setCell (Ad b j) u):=au.setCell (p:=(Ad b j)) ao _;exact⟨⟨dQ hF.1 Sw.size,λb' cur ty mm ht bR=>(Sw.block b' (aG (jV bR))).trans (hF.2 b' cur ty mm ht bR)⟩,ox.trans (Sw.mono ae),(dy h.2).2⟩
def BX.cells{w:World}(h:BX w b [v0,v1,v2,v3,v4,v5]):w.cell? (Ad b 0)=some v0/\w.cell? (Ad b 1)=some v1/\w.cell? (Ad b 2)=some v2/\w.cell? (Ad b 3)=some v3/\w.cell? (Ad b 4)=some v4/\w.cell? (Ad b 5)=some v5/\∀o,w.frozen? (Ad b o)=false:=
 ⟨h.1.1 0 _ rfl,h.1.1 1 _ rfl,h.1.1 2 _ rfl,h.1.1 3 _ rfl,h.1.1 4 _ rfl,h.1.1 5 _ rfl,h.1.2⟩
def gO(w:World)(v0 v1 v2 v3 v4 v5:Value):∃W,W=w.alloc (.cells #[v0,v1,v2,v3,v4,v5] 35)/\Bw w W/\W.heap.size=w.heap.size+1/\BX W w.heap.size [v0,v1,v2,v3,v4,v5]:=by
 obtain⟨W,h1,h2,h3,h4,h5⟩:=ar w #[v0,v1,v2,v3,v4,v5] 35;exact⟨W,h1,h2,h3,h4,_,h5⟩
def qO(w:World):∃W,W=w.alloc (.cells #[.U 0,.U 0,.U 0,.I 0,.S none 0 0,.S none 0 0] 35)/\Bw w W/\W.heap.size=w.heap.size+1/\BX W w.heap.size [.U 0,.U 0,.U 0,.I 0,.S none 0 0,.S none 0 0]:=gO w _ _ _ _ _ _
def NBo(nd:aC):Prop:=nd.path.length<=1048576/\nd.watchers.length<=0/\nd.holders.length<=1048576
def NB(ns:List aC):Prop:=∀nd∈ns,NBo nd
def NB.set(h:NB ns)(hn:NBo nd):NB (ns.set k nd):=λx hx=>by
 rcases Qh hx with hx|rfl;{exact h x hx};{exact hn}
def NB.erase(h:NB ns)(k:Nat):NB (ns.eraseIdx k):=λx hx=>h x (Gw hx)
def Fu(hk:ns[k]?=some nd)(kd:Int):dV ⟨e,g,x,t,ss,ns⟩ k kd=⟨e,g,x,t,uA ss nd.watchers (kd,nd.path),ns.set k {nd with watchers:=[]}⟩:=by
 unfold dV;simp only[hk]
def bL{α:Type}{l:List α}{a:α}(hk:l[k]?=some a)(b:α):(l.set k b)[k]?=some b:=by
 rw[vZ,bN rfl,bN (bf.1 hk).1]
def Rk(hk:ns[k]?=some nd)(id:Int):∃JO ns1 lx,dO ⟨e,g,x,t,ss,ns⟩ k id=⟨e,g,x,t,JO,ns1⟩/\JO.length=ss.length/\ns1.length=ns.length/\ns1[k]?=some lx/\lx.owner=nd.owner/\(NB ns->NB ns1):=by
 by_cases h:nd.holders.contains id=true;{by_cases h2:qT nd.holders id=[];{exact⟨_,_,_,Ik hk h h2,vG _ _ _,pO,bL hk _,rfl,λhb=>hb.set ⟨(hb nd (aY hk)).1,ai,ai⟩⟩};{exact⟨_,_,_,Ii hk h h2,rfl,pO,bL hk _,rfl,λhb=>hb.set ⟨(hb nd (aY hk)).1,(hb nd (aY hk)).2.1,dQ (Fi) (hb nd (aY hk)).2.2⟩⟩}};{exact⟨_,_,_,Ij hk (by simpa using h),rfl,rfl,hk,rfl,λhb=>hb⟩}
def IM(id:Int)(nd:aC):aC:={nd with watchers:=qT nd.watchers id}
def dF(id:Int):Nat->Nat->SD->SD
 |0,_,D=>D
 |f+1,k,D=>match(dO D k id).ns[k]? with
  |none=>D
  |some nd=>if nd.owner=id then dF id f k (Sk (dV (dO D k id) k 2) k)else dF id f (k+1) (dO D k id)
def Xp(id:Int)(ss:List aP):List aP:=ss.filter λs=>!(s.1==id)
def jM(D:SD)(id:Int):SD:={dF id D.ns.length 0 {D with ns:=D.ns.map (IM id)}with ss:=Xp id (dF id D.ns.length 0 {D with ns:=D.ns.map (IM id)}).ss}
def bg4{id:Int}(h:NBo nd):NBo (IM id nd):=⟨h.1,dQ (Fi) h.2.1,h.2.2⟩
def NB.map(h:NB ns)(id:Int):NB (ns.map (IM id)):=λx hx=>by
 obtain⟨y,hy,rfl⟩:=ji.1 hx;exact bg4 (h y hy)
def rP{w:World}{rest:List Oper}{Q:Exit->Act->World->Prop}(mW:o.guard=none){s x:Operand}(ho:o.op=.call {callee:=.builtin .append,args:=#[s,x],argTypes:=#[32,32]}){zs:List (aP×Value)}{z:aP×Value}(ek:Hid (zs.length=k))(hs:a.eval s=v)(bO:RT tO 84 3 B w v zs)(g:Nat)(hx:a.eval x=.T g 1 1)(hq:z.2.oneCell'=true)(jk:∀(j:Nat)u,[.U z.1.1,.I z.1.2.1,z.2][j]?=some u->w.cell? (Ad g j)=some u)(hk:k<4194304)(hB:B<=w.heap.size)(h:∀p' c' w',RT tO 84 3 B w' (.S p' (k+1) c') (zs++[z])->w.grownBy w' v.ownBlock->Fr [84] w w'->wpList prog ops Q rest (a.put o.dst (.S p' (k+1) c')) w'):wpList prog ops Q (o::rest) a w:=by
 obtain⟨i,hi,qc,iU,jU⟩:=gh Tryz.infoSes;have ht:=bO.Zp;obtain⟨rs,h1,h2,h3,h4⟩:=bO;rw[aa ek]at h3;refine cK mW 32 ho i 3 underlying32 hi qc iU jU rfl aZ v hs h3 g 1 1 _ hx rfl jk (λu hu=>by simp at hu;rcases hu with rfl|rfl|rfl;rfl;rfl;exact hq) iF ae hB ?_;intro v' w' du hg _;have hf:Fr [84] w w':=Fr.grown hg λb hb=>by obtain⟨cur,hc⟩:=ht b hb;exact⟨cur,_,hc,ai⟩
 have sn:RT tO 84 3 B w' v' (zs++[z]):=RT.snoc h1 h2 h4 (λ_ _ h=>h) rfl rfl (aa ek▸du);obtain⟨p',c',rfl,-⟩:=RT.form sn;rw[ir,aa ek]at sn⊢;exact h p' c' w' sn hg hf
def kx.filter{w:World}(h:kx B w v ss Qs)(f:aP->Bool)(hr:RT tO 84 3 B w v' ((ss.zip Qs).filter λz=>f z.1)):kx B w v' (ss.filter f) (((ss.zip Qs).filter λz=>f z.1).map Prod.snd):=by
 have e1:ss.filter f=((ss.zip Qs).filter λz=>f z.1).map Prod.fst:=by
  have:((ss.zip Qs).map Prod.fst)=ss:=by rw[List.map_fst_zip (h.len▸iP _)]
  conv=>lhs;rw[<-this]
  rw[List.filter_map]
  rfl
 have e2:(ss.zip Qs).map Prod.snd=Qs:=by rw[List.map_snd_zip (h.len▸iP _)]
 have Oe:Qs.Pairwise λQ Q'=>∀b,Q.ownBlock=some b->Q'.ownBlock≠some b:=by rw[Jf];intro i j hi hj kr b hb;exact h.yv i j _ _ b ae (bD hi) (bD hj) hb
 have aZ3:(((ss.zip Qs).filter λz=>f z.1).map Prod.snd).Pairwise λQ Q'=>∀b,Q.ownBlock=some b->Q'.ownBlock≠some b:=by rw[<-e2]at Oe;exact Oe.sublist (List.filter_sublist.map _)
 refine⟨by rw[e1];simp,?_,λi s Q hs hQ=>?_,λi j Q Q' b kr hQ hQ' hb=>?_⟩;{rw[e1,<-List.unzip_fst,<-List.unzip_snd,List.zip_unzip];exact hr};{rw[e1,nj]at hs;rw[nj]at hQ;obtain⟨z,hz,rfl⟩:=xi.1 hs;rw[hz]at hQ;cases hQ;obtain⟨j,hj⟩:=gH.1 (Kh.1 (aY hz)).1;rw[Kg]at hj;exact h.Xh j _ _ hj.1 hj.2};{rw[Jf]at aZ3;obtain⟨hi,rfl⟩:=bf.1 hQ;obtain⟨hj,rfl⟩:=bf.1 hQ';rcases Nat.lt_or_gt_of_ne kr with hl|hl;{exact aZ3 i j hi hj hl b hb};{exactλe=>aZ3 j i hj hi hl b e hb}}
def ao9{zs:List (aP×Value)}{z:aP×Value}(h:zs[k]?=some z)(f:aP->Bool):((zs.take (k+1)).filter λz=>f z.1)=if f z.1 then((zs.take k).filter λz=>f z.1)++[z]else(zs.take k).filter λz=>f z.1:=by
 rw[ni,h,VU];by_cases e:f z.1<;>simp[e]
def DK{id:Int}{D1:SD}(hk:k<m)(hd:dO D k id=D1)(hn:D1.ns[k]?=some nd):dF id (m-k) k D=if nd.owner=id then dF id (m-1-k) k (Sk (dV D1 k 2) k)else dF id (m-(k+1)) (k+1) D1:=by
 obtain⟨f,hf⟩:∃f,m-k=f+1:=⟨m-k-1,ae⟩;rw[hf,dF,hd,hn,show m-1-k=f by omega,show m-(k+1)=f by omega]
def ah1(b:Nat)(w:World):Nat:=match w.cell? (Ad b 5)with
 |some (.slice _ m _)=>m
 |_=>0
def GS{w:World}{q:OA}(h:BX w b [v0,v1,v2,v3,v4,.S q m d]):ah1 b w=m:=by
 unfold ah1;rw[h.1.1 5 _ rfl]
def Yq{n c:Nat}{q:OA}(en:Hid (ss.length=n))(em:Hid (ns.length=m)){id:Int}{w:World}(hS:Hid (kx B w (.S p n c) ss Qs))(hN:Hid (AK B w (.S q m d) ns))(hNB:Hid (NB ns))(hB:B<=w.heap.size)(hn:Mg n)(hm:Mg m)(eD:Hid (jM ⟨e,g,x,t,ss,ns⟩ id=D)):Calls prog 125 #[ft e g x t (.S p n c) (.S q m d),.U id] w λr w'=>∃p' c' q' d',r=.returned (ft e g x t (.S p' D.ss.length c') (.S q' D.ns.length d'))/\(∃Ve,kx B w' (.S p' D.ss.length c') D.ss Ve)/\AK B w' (.S q' D.ns.length d') D.ns/\Fr [190,84,119] w w'/\Below B w w':=by
 obtain⟨W0,dP,b0,z0,C0⟩:=gO w (.U e) (.U g) (.U x) (.I t) (.S p n c) (.S q m d);obtain⟨W1,lG,b1,z1,C1⟩:=qO W0;rw[z0]at C1;have HC:=af (ah (C0.below b1) C1);have bW:=af (aj b0 b1);have zW:W1.heap.size=w.heap.size+2:=ae
 go_in
 go_wp2;rw[<-dP,<-lG]
 go_loopw[5](λkv wr=>∃k:Nat,k<=m/\kv=.I k/\w.heap.size+2<=wr.heap.size/\Hid (AK B wr (.S q m d) (Jy (IM id) k ns))/\Hid (kx B wr (.S p n c) ss Qs)/\Hid (BX wr w.heap.size [.U e,.U g,.U x,.I t,.S p n c,.S q m d]/\BX wr (w.heap.size+1) [.U 0,.U 0,.U 0,.I 0,.S none 0 0,.S none 0 0])/\Hid (Fr [190,84,119] w wr)/\Hid (Below B w wr)) (λkv _=>m-(intOf kv).toNat)
 exact⟨0,fN _,rfl,ae,(by show AK _ _ _ _;simpa[Jy]using hN.fr (aM (aa bW))),hS.fr (aM (aa bW)),aa HC,Fr.below (aa bW),bW.mono hB⟩;{
 obtain⟨k,hk,rfl,zr,Oi,hSk,MZ,EY,ox⟩:=hrel;have s5:=MZ.1.1.1 5 _ rfl;by_cases aT:k<m;{
 have bu:=aS k m;obtain⟨nd,bj⟩:∃nd,ns[k]?=some nd:=⟨_,bD (by rw[aa em];exact aT)⟩;have la:=aH7 (IM id) bj;have E1:=af (XW (IM id) bj);obtain⟨gn,P,V,H,U,rfl,-,-,-,-,-,-,-,-,-,c7,-,-,-,tU,cfz⟩:=gy.at Oi la;obtain⟨pu,cu,rfl⟩:=tU.iK;obtain⟨nu,eU⟩:=bH nd.watchers.length;have Ci:nu<=1048576:=by rw[<-aa eU];have:=(aa hNB nd (aY bj)).2.1;omega
 rw[aa eU]at tU c7;have HK:=af la;have MI:B<=gn:=(Oi.lt gn rfl).1;have hgz:gn<wr.heap.size:=(Oi.lt gn rfl).2;have Y4:¬w.heap.size=gn:=λe=>by obtain⟨-,cur,h1⟩:=MZ.1;obtain⟨aJ2,h2⟩:=Oi.Zp gn rfl;rw[e,h2]at h1;simp at h1
 obtain⟨vA,jH⟩:=az wr.drew;have gS:=nH jH;have zA:=gS.size;have GA:=af (λ(v:World)(hv:Bw vA v)=>ah (ag s5 (aj gS hv)) (ah (ag c7 (aj gS hv)) (ah (λo=>((aj gS hv).frozen (p:=(Ad gn o)) hgz).trans (cfz o)) (aj gS hv))));have UA:=af (tU.fr (aM gS));go_wp2_with fail;refine dC (λw'=>w'.cell? (Ad w.heap.size 5)=some (.T gn m d)) (by rw[<-jH];exact(aa GA vA au).1) λhS=>?_;rw[<-jH]at hS⊢;clear jH gS s5;refine nK 0 1 2 3 4 5 6 7 hS ?_;refine tn 9 hS ?_;refine dM 8 λKK hK=>?_;have c7:=(aa GA _ au).2.1;go_simp;refine gr hK (by exact(aa GA _ au).1) λhS=>?_;clear hK KK c7;refine dM 10 λKK hK=>?_;refine yZ (xj (p:=pu) (c:=cu) (n:=nu) (l:=nd.watchers) eU (id:=id) (w:=vA) UA.1 Ci) ?_;rintro r v1⟨pl,cl,rfl,ol,aA⟩;refine⟨_,rfl,?_⟩;obtain⟨nl,jJ⟩:=bH (qT nd.watchers id).length;rw[aa jJ]at ol⊢;have OL:=af (ol.tu (B':=B) ae);have nO:=af aA;refine gr hK (by exact(aa GA v1 aA).1) λhS=>?_;clear hK KK ol aA;refine kG 11 12 hS ?_;refine dM 13 λKK hK=>?_;obtain⟨s5,c7,fz,bv⟩:=aa GA v1 nO;have fz7:=fz (k*8+7);have bv':=af bv;clear bv;go_simp;obtain⟨N2,F2⟩:=gy.put (Oi.fr (aM bv')) HK (j:=7) ae (.S pl nl cl) (IM id nd) (λw' P V H U h1 h2 h3 h4 hf=>⟨P,V,H,.S pl nl cl,rfl,h1,h2,h3,OL.fr hf⟩);rw[<-aa E1]at N2;obtain⟨Z,hZ⟩:=az (v1.setCell (Ad gn (k*8+7)) (.S pl nl cl));have BZ:Below B w Z:=by rw[hZ];exact(ox.trans (bv'.mono (aG ox.size))).setCell (p:=(Ad gn _)) MI _
 have sZ:Z.cell? (Ad w.heap.size 5)=some (.T gn m d):=by rw[hZ];exact(aF (fW _ _ _ _ Y4) _).trans s5
 rw[<-hZ]at N2 F2⊢;have RZ:=af (ah N2 (ah F2 BZ));have zv:=bv'.size;have zZ:w.heap.size+2<=Z.heap.size:=aG F2.1;refine gr hK (by exact sZ) λhS=>?_;clear hK KK hZ N2 F2 BZ sZ s5 c7 fz fz7;refine dw ?_;clear hS;go_wp2;go_roundw;exact⟨k+1,ae,by go_num,zZ,RZ.1,(hSk.fr (aM (aa bv'))).fr RZ.2.1,⟨(MZ.1.below (aa bv')).fr RZ.2.1,(MZ.2.below (aa bv')).fr RZ.2.1⟩,(EY.trans (Fr.below (aa bv'))).trans (RZ.2.1.sub ai),RZ.2.2⟩;exact bM};{
 have bu:=dm k m;have IK:=aa Oi;rw[ao8 _ (by rw[aa em];omega)]at IK;have HN1:=af IK;clear IK;obtain⟨DF,eF⟩:=bH (dF id m 0 ⟨e,g,x,t,ss,ns.map (IM id)⟩);have eD2:Hid (D={DF with ss:=Xp id DF.ss}):=by show _=_;rw[<-aa eD];unfold jM;simp only[aa em];rw[aa eF]
 go_wp2
 go_loopw[6](λkv wr=>∃(k mk dk:Nat)(qk:OA)(Th:List aP)(nsk:List aC)(Qk:List Value),k<=mk/\mk<=m/\kv=.I k/\w.heap.size+2<=wr.heap.size/\Hid (Th.length=n)/\Hid (nsk.length=mk)/\Hid (NB nsk)/\Hid (dF id (mk-k) k ⟨e,g,x,t,Th,nsk⟩=DF)/\Hid (AK B wr (.S qk mk dk) nsk)/\Hid (kx B wr (.S p n c) Th Qk)/\Hid (BX wr w.heap.size [.U e,.U g,.U x,.I t,.S p n c,.S qk mk dk]/\BX wr (w.heap.size+1) [.U 0,.U 0,.U 0,.I 0,.S none 0 0,.S none 0 0])/\Hid (Fr [190,84,119] w wr)/\Hid (Below B w wr)) (λkv wr=>ah1 w.heap.size wr-(intOf kv).toNat)
 exact⟨0,m,d,q,ss,_,Qs,fN _,iP _,rfl,zr,en,af (by rw[dZ];exact aa em),af (hNB.map id),eF,HN1,hSk,MZ,EY,ox⟩;{
 clear Oi hSk MZ EY ox HN1 s5 zr hk aT bu;obtain⟨k,mk,dk,qk,Th,nsk,Qk,hk,hmk,rfl,zr,ens,enk,bF4,eK,Oi,hSk,MZ,EY,ox⟩:=hrel;have hlen:=af (GS MZ.1);obtain⟨k0,k1,k2,k3,k4,k5,kf⟩:=MZ.1.cells;by_cases aT:k<mk;{
 have bu:=aS k mk;obtain⟨nd,bj⟩:∃nd,nsk[k]?=some nd:=⟨_,bD (by rw[aa enk];exact aT)⟩;have hb:=aa bF4 nd (aY bj);obtain⟨JO,ns1,lx,hd,l1,l2,la,ho1,ba0⟩:=Rk (e:=e) (g:=g) (x:=x) (t:=t) (ss:=Th) bj id;have UJ:=aa eK;rw[DK aT hd la]at UJ;obtain⟨gn,-,-,-,-,rfl,-,-,-⟩:=gy.at Oi bj;have aA:=hb.1;have aD:=hb.2.1;have aL:=hb.2.2;have HD:=af (Rj (e:=e) (g:=g) (x:=x) (t:=t) (p:=p) (n:=n) (c:=c) (q:=some (Ad gn 0)) (m:=mk) (d:=dk) (ss:=Th) (Qs:=Qk) (ns:=nsk) ens (k:=k) (id:=id) (nd:=nd) (af bj) (B:=B) (w:=wr) hSk Oi ae hn ae aA aD aL);rw[hd]at HD;have HX1:=af (ah l1 (ah l2 (ah la (ah (ba0 (aa bF4)) UJ))));go_wp2_with fail;refine HD.mono ?_;rintro r w1⟨rfl,⟨Q1,hS1⟩,IK,Of,aA⟩;obtain⟨l1,l2,la,ba0,UJ⟩:=aa HX1;have dL1:=af hS1;have dL7:=af IK;obtain⟨gn',-,-,-,-,eg,-,-,-,-,c2,-⟩:=gy.at IK la;obtain⟨rfl,-⟩:=yD eg;have AO:=af (ah (MZ.1.fr Of) (MZ.2.fr Of));have F1:=af (EY.trans Of);have B1:=af (ox.trans aA);have z1:w.heap.size+2<=w1.heap.size:=aG Of.1;have Y4:¬w.heap.size=gn:=λe=>by obtain⟨-,cur,h1⟩:=MZ.1;obtain⟨aJ2,h2⟩:=Oi.Zp gn rfl;rw[e,h2]at h1;simp at h1
 have dI3:¬gn=w.heap.size:=λe=>Y4 e.symm;obtain⟨X,hX⟩:=az (dB w1 w.heap.size (.U e) (.U g) (.U x) (.I t) (.S p n c) (.T gn mk dk));obtain⟨fX,bX,gX⟩:=AO.1.fin F1 B1 ao hB (.U e) (.U g) (.U x) (.I t) (.S p n c) (.T gn mk dk);have BXX:=ah (AO.1.put (.U e) (.U g) (.U x) (.I t) (.S p n c) (.T gn mk dk)) (AO.2.yv (b:=w.heap.size) ae (.U e) (.U g) (.U x) (.I t) (.S p n c) (.T gn mk dk));have zX:X.heap.size=w1.heap.size:=by rw[hX];exact oL
 rw[<-hX]at fX bX gX BXX;have SX:=af (hS1.fr gX);have NX:=af (gy.fr IK gX);have HXX:=af (ah fX (ah bX BXX));unfold dB at hX;obtain⟨k0,k1,k2,k3,k4,k5,kf⟩:=AO.1.cells;have HX2:=af (ah l1 (ah l2 ba0));have YD:=af la;have EK2:=af UJ;by_cases how:lx.owner=id;{
 have hee:(lx.owner==id)=true:=by simp[how]
 have eK3:=aa EK2;rw[bN how,Fu (aa YD),Sk]at eK3;have EK3:=af eK3;have hb:=HX2.2.2 lx (aY (aa YD));have HT:=af (yW e g x t (p:=p) (n:=n) (c:=c) (q:=some (Ad gn 0)) (m:=mk) (d:=dk) (ss:=JO) (Qs:=Q1) (ns:=ns1) (af (HX2.1.trans ens)) (k:=k) 2 lx YD B X SX NX ae hn ae hb.1 hb.2.1);go_wp2_with fail;rw[<-hX];refine HT.mono ?_;rintro r w2⟨rfl,⟨Q2,Hr⟩,DB,Q4,aD⟩;have Zi:=af (ah (HXX.2.2.1.fr Q4) (HXX.2.2.2.fr Q4));have F2:=af (HXX.1.trans Q4);have B2:=af (HXX.2.1.trans aD);have z2:w.heap.size+2<=w2.heap.size:=aG Q4.1;obtain⟨Y,hY⟩:=az (dB w2 w.heap.size (.U e) (.U g) (.U x) (.I t) (.S p n c) (.T gn mk dk));obtain⟨fY,bY,gY⟩:=Zi.1.fin F2 B2 ao hB (.U e) (.U g) (.U x) (.I t) (.S p n c) (.T gn mk dk);have BXY:=ah (Zi.1.put (.U e) (.U g) (.U x) (.I t) (.S p n c) (.T gn mk dk)) (Zi.2.yv (b:=w.heap.size) ae (.U e) (.U g) (.U x) (.I t) (.S p n c) (.T gn mk dk));have zY:Y.heap.size=w2.heap.size:=by rw[hY];exact oL
 rw[<-hY]at fY bY gY BXY;have SY:=af (Hr.fr gY);have NY:=af (gy.fr DB gY);have HYY:=af (ah fY (ah bY BXY));unfold dB at hY;obtain⟨k0,k1,k2,k3,k4,k5,kf⟩:=Zi.1.cells;have HR:=af (FQ (e:=e) (g:=g) (x:=x) (t:=t) (p:=p) (n:=n) (c:=c) (q:=some (Ad gn 0)) (m:=mk) (d:=dk) (af (by rw[pO];exact HX2.2.1.trans (aa enk))) (k:=k) (B:=B) (w:=Y) NY ae);go_wp2_with fail;rw[<-hY];refine HR.mono ?_;rintro r w3⟨p3,c3,rfl,Jv,aL⟩;obtain⟨ns3,ap5⟩:∃ns3,Hid ((ns1.set k {lx with watchers:=[]}).eraseIdx k=ns3):=⟨_,af rfl⟩;have aY4:Hid (ns3.length=mk-1):=by show _=_;have h1:=HX2.2.1.trans enk;rw[<-aa ap5,Gy,pO,bN ae];omega
 rw[aa ap5,aa aY4]at Jv;rw[aa ap5,aa aY4];have EK4:=aa EK3;simp only[aa ap5]at EK4;have BX3:=af (ah (HYY.2.2.1.below aL) (HYY.2.2.2.below aL));have F3:=af (HYY.1.trans (Fr.below aL));have B3:=af (HYY.2.1.trans (aL.mono ae));have z3:=aL.size;obtain⟨Z,hZ⟩:=az (dB w3 w.heap.size (.U e) (.U g) (.U x) (.I t) (.S p n c) (.S p3 (mk-1) c3));obtain⟨fZ,bZ,gZ⟩:=BX3.1.fin F3 B3 ao hB (.U e) (.U g) (.U x) (.I t) (.S p n c) (.S p3 (mk-1) c3);have BXZ:=ah (BX3.1.put (.U e) (.U g) (.U x) (.I t) (.S p n c) (.S p3 (mk-1) c3)) (BX3.2.yv (b:=w.heap.size) ae (.U e) (.U g) (.U x) (.I t) (.S p n c) (.S p3 (mk-1) c3));have zZ:Z.heap.size=w3.heap.size:=by rw[hZ];exact oL
 rw[<-hZ]at fZ bZ gZ BXZ;have SZ:=af ((SY.fr (aM aL)).fr gZ);have NZ:=af ((gy.fr Jv gZ).mono (by omega:B<=Y.heap.size));have HZZ:=af (ah fZ (ah bZ BXZ));have cj6:=af (GS BXZ.1);have cp0:Hid (NB ns3):=by show NB _;rw[<-aa ap5];have hb:=HX2.2.2 lx (aY (aa YD));exact(NB.set (nd:={lx with watchers:=[]}) HX2.2.2 ⟨hb.1,fN _,hb.2.2⟩).erase k
 have EK5:=af EK4;have cj7:Hid ((uA JO lx.watchers (2,lx.path)).length=n):=by show _=_;rw[vG];exact HX2.1.trans (aa ens)
 unfold dB at hZ;obtain⟨k0,k1,k2,k3,k4,k5,kf⟩:=BX3.1.cells;go_wp2;rw[<-hZ];go_roundw;exact⟨k,mk-1,c3,p3,_,ns3,Q2,ae,ae,rfl,ae,cj7,aY4,cp0,EK5,NZ,SZ,af HZZ.2.2,af HZZ.1,af HZZ.2.1⟩
 case measure=>(
 rw[aa cj6,aa hlen];simp[intOf];omega)}
 {
 have hee:(lx.owner==id)=false:=by simp[how]
 have eK3:=aa EK2;rw[bG how]at eK3;have EK3:=af eK3;have nE:=af (GS HXX.2.2.1);go_wp2;rw[<-hX];go_roundw;exact⟨k+1,mk,dk,_,JO,ns1,Q1,ae,ae,by go_num,ae,af (HX2.1.trans ens),af (HX2.2.1.trans enk),af (HX2.2.2),EK3,NX,SX,af HXX.2.2,af HXX.1,af HXX.2.1⟩
 case measure=>(
 rw[aa nE,aa hlen];simp[intOf];omega)}}
 {
 have bu:=dm k mk;have UJ:=aa eK;rw[show mk-k=0 by omega,dF]at UJ;have eD3:Hid (D=⟨e,g,x,t,Xp id Th,nsk⟩):=by show _=_;rw[aa eD2,<-UJ]
 obtain⟨W5,eW5⟩:∃W5,Hid (W5=wr):=⟨_,af rfl⟩;obtain⟨wz,ewz⟩:∃wz,Hid (wz=W5.heap.size):=⟨_,af rfl⟩;have H5:=ah (aa hSk) (ah (aa Oi) (ah (aa MZ) (ah (aa EY) (aa ox))));have z5:=zr;rw[<-aa eW5]at H5 z5;rw[<-aa ewz]at z5;have G5:=af H5;go_wp2
 go_loopw[7,8](λlv iv w9=>∃(j nl cl:Nat)(pl:OA)(L:List (aP×Value)),j<=n/\iv=.I j/\lv=.S pl nl cl/\wz<=w9.heap.size/\Hid (L.length=nl)/\Hid ((((Th.zip Qk).take j).filter λz=>!(z.1.1==id))=L)/\Hid (RT tO 84 3 wz w9 (.S pl nl cl) L)/\Hid (Below wz W5 w9)) (λ_ iv _=>n-(intOf iv).toNat)
 exact⟨0,0,0,none,[],fN _,rfl,rfl,by rw[aa ewz,aa eW5];exact iP _,af rfl,af ai,RT.nil _ _ _ _ _,(by show Below _ _ _;rw[aa eW5];exact cR _ _)⟩;{
 obtain⟨j,nl,cl,pl,L,hj,rfl,rfl,z9,jJ,hL,hR,AY⟩:=hrel;have e8:Bw W5 wr:=by have:=aa AY;rwa [aa ewz]at this
 have H9:=af (ah (G5.1.fr (aM e8)) (ah (G5.2.1.fr (aM e8)) (ah (G5.2.2.1.1.below e8) (G5.2.2.1.2.below e8))));have HF9:=af (ah (G5.2.2.2.1.trans (Fr.below e8)) (G5.2.2.2.2.trans (e8.mono (aG G5.2.2.2.2.size))));obtain⟨k0,k1,k2,k3,k4,k5,kf⟩:=H9.2.2.1.cells;by_cases aT:j<n;{
 have bu:=aS j n;obtain⟨s,hs⟩:∃s,Th[j]?=some s:=⟨_,bD (by rw[aa ens];exact aT)⟩;obtain⟨gs,Q,rfl,-,-,hQ,c0,c1,c2,sq,-⟩:=kx.at H9.1 hs;obtain⟨pq,cq,rfl,-⟩:=sq.form;have hz:(Th.zip Qk)[j]?=some (s,.S pq s.2.2.length cq):=by rw[Kg];exact⟨hs,hQ⟩
 have cX:=ao9 hz (λs=>!(s.1==id));rw[aa hL]at cX;have qz:=af cX;have Cj:nl<4194304:=by have h1:=Qg (λz:aP×Value=>!(z.1.1==id)) ((Th.zip Qk).take j);have h2:=Gz j (Th.zip Qk);rw[aa hL,aa jJ]at h1;omega
 by_cases he:s.1=id;{
 have E1:Hid ((((Th.zip Qk).take (j+1)).filter λz=>!(z.1.1==id))=L):=by have:=aa qz;show _=_;simpa[he]using this
 have hee:(s.1 != id)=false:=by simp[he]
 go_wp2;go_roundw;exact⟨j+1,nl,cl,pl,L,ae,by go_num,rfl,z9,jJ,E1,hR,AY⟩;exact bM};{
 have E1:Hid ((((Th.zip Qk).take (j+1)).filter λz=>!(z.1.1==id))=L++[(s,.S pq s.2.2.length cq)]):=by have:=aa qz;show _=_;simpa[he]using this
 have hee:(s.1 != id)=true:=by simp[he]
 obtain⟨v3,ly,b3,z3,C3,-⟩:=ar wr #[.U s.1,.I s.2.1,.S pq s.2.2.length cq] 84;have R3:=af (RT.fr hR (aM b3) aZ (λ_ _ h=>h));have B3:=af b3;have Sd:=af C3;have YU:=af λb e=>(hR.lt b e).1;go_wp2_with(at_builtin;rw[<-ly];refine rP rfl rfl (B:=wz) (v:=.S pl nl cl) (zs:=L) (z:=(s,.S pq s.2.2.length cq)) (k:=nl) jJ rfl (aa R3) wr.heap.size rfl rfl Sd.1 Cj ae ?_);intro p' c' w' o2 gi _;rw[<-ly]at gi;have b4:=af ((AY.trans (B3.mono ae)).grown gi ae YU);have O2:=af o2;have z4:=b4.size;go_wp2;go_roundw;exact⟨j+1,nl+1,c',p',_,ae,by go_num,rfl,aG (aa ewz),af (by rw[ir,aa jJ];rfl),E1,O2,b4⟩;exact bM}};{
 have bu:=dm j n;have hL':=aa hL;rw[ke (by rw[Qf,aa ens];omega)]at hL';obtain⟨q0,q1,q2,q3,q4,q5,qf⟩:=H9.2.2.2.cells;have SF:=kx.filter (v':=.S pl nl cl) H9.1 (λs=>!(s.1==id)) (by rw[hL'];exact RT.mono (aa hR) ae);have lF:(Xp id Th).length=nl:=by have:=SF.len;rw[hL',dZ,aa jJ]at this;exact this.symm
 have HSF:=af SF;have HLF:=af lF;go_wp2;rw[aa eD3];simp only[aa HLF,aa enk];obtain⟨fA,bA,gA⟩:=H9.2.2.1.bH8 (j:=4) HF9.1 HF9.2 ao hB (.S pl nl cl);obtain⟨fB,bB,gB⟩:=(H9.2.2.2.FK (b:=w.heap.size) (j:=4) (u:=.S pl nl cl) ae).fin fA bA (VS _) hB (.U e) (.U g) (.U x) (.I t) (.S pl nl cl) (.S qk mk dk);refine dD (v:=ft e g x t (.S pl nl cl) (.S qk mk dk)) (by simp[results,results125,go_sem,q0,q1,q2,q3,q4,q5]) rfl ?_;exact⟨pl,cl,qk,dk,rfl,⟨_,(HSF.fr gA).fr gB⟩,(H9.2.1.fr gA).fr gB,fB,bB⟩}}}}}}
abbrev yF(k i e g n:Int)(D N E:Value):Value:=.agg #[.I k,.U i,.U e,.U g,.I n,D,N,E]
abbrev aR:Value:=.S none 0 0
def RX(w:World)(b:Nat)(vs:List Value):Prop:=al w b vs/\∃cur,w.heap[b]?=some (.cells cur 79)
def RX.fr{T:List TypeId}{w w':World}(h:RX w b vs)(hf:Fr T w w')(ht:79∉T:=by decide):RX w' b vs:=by
 obtain⟨h1,cur,h2⟩:=h;have h3:=hf.2 _ _ _ _ ht h2;exact⟨h1.dG (h3.trans h2.symm),cur,h3⟩
def RX.below{w w':World}(h:RX w b vs)(hb:Bw w w'):RX w' b vs:=h.fr (aM hb) (by simp)
def lD(w:World)(b:Nat)(v0 v1 v2 v3 v4 v5 v6 v7:Value):World:=((dB w b v0 v1 v2 v3 v4 v5).setCell (Ad b 6) v6).setCell (Ad b 7) v7
def di{w:World}:Below b w (lD w b v0 v1 v2 v3 v4 v5 v6 v7):=((cT (w:=w) b v0 v1 v2 v3 v4 v5).setCell (p:=(Ad b 6)) ao _).setCell (p:=(Ad b 7)) ao _
def RX.put{w:World}{o6 o7:Value}(h:RX w b [o0,o1,o2,o3,o4,o5,o6,o7])(v0 v1 v2 v3 v4 v5 v6 v7:Value):RX (lD w b v0 v1 v2 v3 v4 v5 v6 v7) b [v0,v1,v2,v3,v4,v5,v6,v7]/\Fr [79] w (lD w b v0 v1 v2 v3 v4 v5 v6 v7):=by
 obtain⟨hc,cur,ht⟩:=h;have t6:=Gb ⟨cur,ht⟩ (v0:=v0) (v1:=v1) (v2:=v2) (v3:=v3) (v4:=v4) (v5:=v5);have a6:=dy (j:=6) (u:=v6) t6;have a7:=dy (j:=7) (u:=v7) a6.1;exact⟨⟨(((((((hc.fG 0 ai v0).fG 1 ai v1).fG 2 ai v2).fG 3 ai v3).fG 4 ai v4).fG 5 ai v5).fG 6 ai v6).fG 7 ai v7,a7.1⟩,((je ht).trans a6.2).trans a7.2⟩
def RX.cells{w:World}(h:RX w b [v0,v1,v2,v3,v4,v5,v6,v7]):w.cell? (Ad b 0)=some v0/\w.cell? (Ad b 1)=some v1/\w.cell? (Ad b 2)=some v2/\w.cell? (Ad b 3)=some v3/\w.cell? (Ad b 4)=some v4/\w.cell? (Ad b 5)=some v5/\w.cell? (Ad b 6)=some v6/\w.cell? (Ad b 7)=some v7/\∀o,w.frozen? (Ad b o)=false:=
 ⟨h.1.1 0 _ rfl,h.1.1 1 _ rfl,h.1.1 2 _ rfl,h.1.1 3 _ rfl,h.1.1 4 _ rfl,h.1.1 5 _ rfl,h.1.1 6 _ rfl,h.1.1 7 _ rfl,h.1.2⟩
def rA(w:World)(v0 v1 v2 v3 v4 v5 v6 v7:Value):∃W,W=w.alloc (.cells #[v0,v1,v2,v3,v4,v5,v6,v7] 79)/\Bw w W/\W.heap.size=w.heap.size+1/\RX W w.heap.size [v0,v1,v2,v3,v4,v5,v6,v7]:=by
 obtain⟨W,h1,h2,h3,h4,h5⟩:=ar w #[v0,v1,v2,v3,v4,v5,v6,v7] 79;exact⟨W,h1,h2,h3,h4,_,h5⟩
def GZ{k:Int}{w:World}:Calls prog 75 #[.I k] w (Rb (yF k 0 0 0 0 aR aR aR) w):=by
 go_in
 go_wp2;exact dD (v:=yF k 0 0 0 0 aR aR aR) (by simp[results,results75,go_sem]) rfl ⟨rfl,au.alloc ao _⟩
abbrev Pp(t1 t2 t3 d1 d2:Nat)(ps:String)(k:Int):Array Oper:=#[{dst:=some d1,op:=Op.load 35 (Operand.tmp t1),type:=35,pos:=ps,after:=#[],guard:=none},
 {dst:=some d2,op:=Op.call {callee:=Callee.value (Operand.func 75),args:=#[Operand.const (Value.int IntKind.i64 k)],argTypes:=#[3]},type:=79,pos:=ps,after:=#[],guard:=none},
 {dst:=none,op:=Op.store 35 (Operand.tmp t2) (Operand.tmp d1),type:=0,pos:=ps,after:=#[{on:=0,ground:=Ground.data},{on:=1,ground:=Ground.chain},{on:=0,ground:=Ground.phase},{on:=1,ground:=Ground.textOnly Departure.lateStoresUnsure}],guard:=none},
 {dst:=none,op:=Op.store 79 (Operand.tmp t3) (Operand.tmp d2),type:=0,pos:=ps,after:=#[{on:=1,ground:=Ground.data},{on:=2,ground:=Ground.chain},{on:=0,ground:=Ground.phase},{on:=1,ground:=Ground.phase},{on:=2,ground:=Ground.phase}],guard:=none}]
def FO(t1:Nat){d1 d2:Nat}{k:Int}{Q:Exit->Act->World->Prop}{w:World}(b0:Nat){n c:Nat}{q:OA} (hf:Region.free .any (Pp t1 t2 t3 d1 d2 ps k) (Array.replicate 4 false) 0=true)(e1:a.tmps[t1]?.getD undef=.pointer (some (Ad b0 0)))(e2:∀v u,((a.put (some d1) v).put (some d2) u).tmps[t2]?.getD undef=.pointer (some (Ad b1 0)))(e3:∀v u,((a.put (some d1) v).put (some d2) u).tmps[d1]?.getD undef=v)(e4:∀v u,((a.put (some d1) v).put (some d2) u).tmps[t3]?.getD undef=.pointer (some (Ad b2 0)))(e5:∀v u,((a.put (some d1) v).put (some d2) u).tmps[d2]?.getD undef=u)(h0:BX w b0 [.U e,.U g,.U x,.I t,.S p n c,.S q m d])(h1:BX w b1 [o0,o1,o2,o3,o4,o5])(h2:RX w b2 [r0,r1,r2,r3,r4,r5,r6,r7])(cg:b0≠b1)(Cq:B<=b1)(iY:B<=b2)(h:∀w',BX w' b1 [.U e,.U g,.U x,.I t,.S p n c,.S q m d]->RX w' b2 [.I k,.U 0,.U 0,.U 0,.I 0,aR,aR,aR]->Fr [35,79] w w'->Below B w w'->Q .normal ((a.put (some d1) (ft e g x t (.S p n c) (.S q m d))).put (some d2) (yF k 0 0 0 0 aR aR aR)) w'):Code.wp prog (Code.region i (Pp t1 t2 t3 d1 d2 ps k) true) Q a w:=by
 unfold Pp at hf⊢;refine P9 ?_;have gS:Bw w w.drew:=au.drew;have H0:=af (ah (h0.below gS) (ah (h1.below gS) (h2.below gS)));refine VM (S:=λw'=>BX w' b0 [.U e,.U g,.U x,.I t,.S p n c,.S q m d]) bg H0.1 (λhS=>?_);obtain⟨vA,jH⟩:=az w.drew;rw[<-jH]at hS H0 gS⊢;clear jH;refine xh (i:=0) (oi:=_) (v:=ft e g x t (.S p n c) (.S q m d)) (by simp only[xQ,BO];rfl) bg hf bg (λ_ _ _ h=>h) (Or.inl ⟨rfl,?_⟩) hS ?_;{intro w' hw;obtain⟨k0,k1,k2,k3,k4,k5,kf⟩:=hw.cells;go_simp};refine dM 1 λKK hK=>?_;refine jv (GZ) ?_;rintro r v1⟨rfl,aA⟩;refine⟨_,rfl,?_⟩;refine hK.out _ _ (hS.below aA) (λhS=>?_);clear hK KK;have H1:=af (ah (H0.2.1.below aA) (H0.2.2.below aA));have B1:=af (aj gS aA);clear H0 gS aA;obtain⟨a2,Ax⟩:=az ((a.put (some d1) (ft e g x t (.S p n c) (.S q m d))).put (some d2) (yF k 0 0 0 0 aR aR aR));refine dM 2 λKK hK=>?_;have e2':=e2 (ft e g x t (.S p n c) (.S q m d)) (yF k 0 0 0 0 aR aR aR);have e3':=e3 (ft e g x t (.S p n c) (.S q m d)) (yF k 0 0 0 0 aR aR aR);have e4':=e4 (ft e g x t (.S p n c) (.S q m d)) (yF k 0 0 0 0 aR aR aR);have e5':=e5 (ft e g x t (.S p n c) (.S q m d)) (yF k 0 0 0 0 aR aR aR);have H2:=h;rw[<-Ax]at e2' e3' e4' e5'⊢;rw[show(a.put (some d1) (ft e g x t (.S p n c) (.S q m d))).put (some d2) (yF k 0 0 0 0 aR aR aR)=a2 from Ax.symm]at H2;clear e1 e2 e3 e4 e5 h Ax;obtain⟨k0,k1,k2,k3,k4,k5,kf⟩:=H1.1.cells;go_simp;obtain⟨X,hX⟩:=az (dB v1 b1 (.U e) (.U g) (.U x) (.I t) (.S p n c) (.S q m d));have bX:Below b1 v1 X:=hX▸cT _ _ _ _ _ _ _;have AO:BX X b1 [.U e,.U g,.U x,.I t,.S p n c,.S q m d]:=hX▸H1.1.put _ _ _ _ _ _;have BX0:BX X b0 [.U e,.U g,.U x,.I t,.S p n c,.S q m d]:=hX▸hS.yv cg _ _ _ _ _ _;have fX:Fr [35] v1 X:=by obtain⟨-,cur,ht⟩:=H1.1;rw[hX];exact je ht
 have RX1:=H1.2.fr fX;unfold dB at hX;rw[<-hX];refine hK.out _ _ BX0 (λhS=>?_);clear hK KK hX BX0 k0 k1 k2 k3 k4 k5 kf;refine dM 3 λKK hK=>?_;obtain⟨k0,k1,k2,k3,k4,k5,k6,k7,kf⟩:=RX1.cells;go_simp;obtain⟨RXY,fY⟩:=RX1.put (.I k) (.U 0) (.U 0) (.U 0) (.I 0) aR aR aR;have bY:=di (w:=X) (b:=b2) (v0:=.I k) (v1:=.U 0) (v2:=.U 0) (v3:=.U 0) (v4:=.I 0) (v5:=aR) (v6:=aR) (v7:=aR);obtain⟨Y,hY⟩:=az (lD X b2 (.I k) (.U 0) (.U 0) (.U 0) (.I 0) aR aR aR);rw[<-hY]at RXY fY bY;unfold lD dB at hY;rw[<-hY];refine hK.out _ _ (hS.fr fY) (λhS=>?_);clear hK KK hY;refine dw ?_;exact H2 Y (AO.fr fY) RXY ((Fr.below (aa B1)).trans ((fX.sub ai).trans (fY.sub ai))) ((B1.mono (aG h1.lt)).trans ((bX.mono Cq).trans (bY.mono iY)))
structure RP where
 k:Int
 i:Int
 e:Int
 g:Int
 n:Int
 Ol:LI
 nms:List LI
 Ng:List Ev
def rV:RP:=⟨0,0,0,0,0,[],[],[]⟩
def AR(k:Int):RP:=⟨k,0,0,0,0,[],[],[]⟩
def pK(D:SD):SD×RP:=if 50<=D.ss.length then(D,AR 11)else if 4611686018427387904<=D.x then(D,AR 12)else({D with x:=D.x+1,ss:=D.ss++[(D.x+1,D.t+10,[])]},{rV with i:=D.x+1,n:=D.t+10})
def bI8(w:World)(l:LI)(c:List Value):Prop:=∃P,c=[P]/\TB w P l
abbrev TN(B:Nat)(w:World)(v:Value)(l:List LI):Prop:=RT bI8 22 1 B w v l
def QR(B:Nat)(w w':World)(r:Ending)(D:SD)(R:RP):Prop:=∃p c q d Dv Nv Ev Qs,r=.returned (.tuple #[ft D.e D.g D.x D.t (.S p D.ss.length c) (.S q D.ns.length d),yF R.k R.i R.e R.g R.n Dv Nv Ev])/\kx B w' (.S p D.ss.length c) D.ss Qs/\AK B w' (.S q D.ns.length d) D.ns/\TB w' Dv R.Ol/\TN B w' Nv R.nms/\NJ B w' Ev R.Ng/\Fr [190,84,119] w w'/\Below B w w'
def Fr.low{T:List TypeId}{w w1 w':World}(h:Fr T w w1)(hb:Below w.heap.size w1 w'):Fr T w w':=⟨dQ h.1 hb.size,λb cur ty m ht hc=>(hb.block b (jV hc)).trans (h.2 b cur ty m ht hc)⟩
def QR.num{w w1 w':World}{p q:OA}{n c m d:Nat}(en:Hid (ss.length=n))(em:Hid (ns.length=m))(hS:kx B w1 (.S p n c) ss Qs)(hN:AK B w1 (.S q m d) ns)(hF:Fr [190,84,119] w w1)(hB:Below B w w1)(f:Fr [35,79] w1 w')(b:Below w.heap.size w1 w')(hle:B<=w.heap.size)(k i a h s:Int):QR B w w' (.returned (.tuple #[ft e g x t (.S p n c) (.S q m d),yF k i a h s aR aR aR])) ⟨e,g,x,t,ss,ns⟩ ⟨k,i,a,h,s,[],[],[]⟩:=by
 refine⟨p,c,q,d,aR,aR,aR,Qs,by simp only[aa en,aa em],?_,?_,TB.nil _,RT.nil _ _ _ _ _,RT.nil _ _ _ _ _,hF.low b,hB.trans (b.mono hle)⟩;{simp only[aa en];exact hS.fr f};{simp only[aa em];exact gy.fr hN f}
def kx.bs9{w w':World}(h:kx B w v ss Qs)(hf:Fr [84] w w')(I J:Int)(hr:RT tO 84 3 B w' v' (ss.zip Qs++[((I,J,[]),aR)])):kx B w' v' (ss++[(I,J,[])]) (Qs++[aR]):=by
 have hl:=h.len;refine⟨by simp[hl],by rw[List.zip_append hl.symm];exact hr,λi s Q hs hq=>?_,λi j Q Q' b kr hq wu hb=>?_⟩;{
 by_cases hi:i<ss.length;{rw[lE hi]at hs;rw[lE ae]at hq;exact(h.Xh i s Q hs hq).fr hf};{
 have ei:i=ss.length:=by have:=(bf.1 hs).1;simp at this;omega
 subst ei;rw[nZ ao,Cb]at hs;rw[nZ ae,hl,Cb]at hq;simp at hs hq;subst hs hq;exact RT.nil _ _ _ _ _}};{
 by_cases hi:i<Qs.length;{
 rw[lE hi]at hq;by_cases hj:j<Qs.length;{rw[lE hj]at wu;exact h.yv i j Q Q' b kr hq wu hb};{
 rw[nZ ae]at wu;have e:j-Qs.length=0:=by have:=(bf.1 wu).1;simp at this;omega
 rw[e]at wu;simp at wu;subst wu;simp[Value.ownBlock]}};{
 rw[nZ ae]at hq;have e:i-Qs.length=0:=by have:=(bf.1 hq).1;simp at this;omega
 rw[e]at hq;simp at hq;subst hq;simp[Value.ownBlock]at hb}}
def cg8{tm:Array Value}{w:World}(hr:fn.results=#[.cell t2 35,.cell t3 79])(e2:tm[t2]?.getD undef=.pointer (some (Ad b1 0)))(e3:tm[t3]?.getD undef=.pointer (some (Ad b2 0)))(h1:BX w b1 [v0,v1,v2,v3,v4,v5])(h2:RX w b2 [r0,r1,r2,r3,r4,r5,r6,r7]):(results fn tm).run prog w=.ok (.tuple #[.agg #[v0,v1,v2,v3,v4,v5],.agg #[r0,r1,r2,r3,r4,r5,r6,r7]]) w:=by
 obtain⟨q0,q1,q2,q3,q4,q5,qf⟩:=h1.cells;obtain⟨s0,s1,s2,s3,s4,s5,s6,s7,sf⟩:=h2.cells;simp[results,hr,go_sem,e2,e3,q0,q1,q2,q3,q4,q5,s0,s1,s2,s3,s4,s5,s6,s7]
def rq(t1 t2 t3 d1 d2:Nat)(k:Int)(hrs:fn.results=#[.cell t2 35,.cell t3 79]){i:Nat}{ps:String}{Q:Exit->Act->World->Prop}{a:Act}{w w0:World}{b0:Nat}{p q:OA}{n c m d:Nat}{R:SD×RP}(h0:BX w b0 [.U e,.U g,.U x,.I t,.S p n c,.S q m d])(h1:BX w b1 [o0,o1,o2,o3,o4,o5])(h2:RX w b2 [r0,r1,r2,r3,r4,r5,r6,r7])(en:Hid (ss.length=n))(em:Hid (ns.length=m))(hS:kx B w (.S p n c) ss Qs)(hN:AK B w (.S q m d) ns)(hF:Fr [190,84,119] w0 w)(ox:Below B w0 w)(hB:B<=w0.heap.size)(E:Hid ((⟨e,g,x,t,ss,ns⟩,AR k)=R))(cg:b0≠b1:=by omega)(Cq:w0.heap.size<=b1:=by omega)(iY:w0.heap.size<=b2:=by omega)(hd:a.defers=[]:=by rfl)(hf:Region.free .any (Pp t1 t2 t3 d1 d2 ps k) (Array.replicate 4 false) 0=true:=by kernel_rfl)(e1:a.tmps[t1]?.getD undef=.pointer (some (Ad b0 0)):=by rfl)(e2:∀v u,((a.put (some d1) v).put (some d2) u).tmps[t2]?.getD undef=.pointer (some (Ad b1 0)):=by exactλ_ _=>rfl)(e3:∀v u,((a.put (some d1) v).put (some d2) u).tmps[d1]?.getD undef=v:=by exactλ_ _=>rfl)(e4:∀v u,((a.put (some d1) v).put (some d2) u).tmps[t3]?.getD undef=.pointer (some (Ad b2 0)):=by exactλ_ _=>rfl)(e5:∀v u,((a.put (some d1) v).put (some d2) u).tmps[d2]?.getD undef=u:=by exactλ_ _=>rfl)(hQ:∀a' w',bodyPost prog fn (λr w'=>QR B w0 w' r R.1 R.2) .ret a' w'->Q .normal a' w':=by(intro _ _ h;go_wp2;exact h)):Code.wp prog (Code.region i (Pp t1 t2 t3 d1 d2 ps k) true) Q a w:=by
 refine FO t1 b0 hf e1 e2 e3 e4 e5 h0 h1 h2 cg Cq iY λw' q1 q2 f b=>hQ _ _ ?_;refine dD (cg8 hrs (e2 _ _) (e4 _ _) q1 q2) hd ?_;rw[<-aa E];exact QR.num (e:=e) (g:=g) (x:=x) (t:=t) en em hS hN hF ox f b hB k 0 0 0 0
def VE{md:Region.Mode}{Q:Exit->Act->World->Prop}{S:World->Prop}{listed:Array Bool}{w:World}(i5 i6 t2 t3 d1 d2:Nat){ps':String}{A5 A6:Array Edge}(Hi:Region.ready md ops listed=[i5])(lK:Region.ready md ops (listed.setIfInBounds i5 true)=[i6])(IJ:Region.ready md ops ((listed.setIfInBounds i5 true).setIfInBounds i6 true)=[])(MG:ops[i5]?=some {dst:=none,op:=Op.store 35 (Operand.tmp t2) (Operand.tmp d1),type:=0,pos:=ps,after:=A5,guard:=none})(ho6:ops[i6]?=some {dst:=none,op:=Op.store 79 (Operand.tmp t3) (Operand.tmp d2),type:=0,pos:=ps',after:=A6,guard:=none})(b1 b2:Nat)(e g x t:Int)(p:OA)(n c:Nat)(q:OA)(m d:Nat)(k i h s z:Int)(dp:OA)(dn dc:Nat)(np:OA)(nn nc:Nat)(vp:OA)(vn vc:Nat) (e2:a.tmps[t2]?.getD undef=.pointer (some (Ad b1 0)))(e3:a.tmps[d1]?.getD undef=ft e g x t (.S p n c) (.S q m d))(e4:a.tmps[t3]?.getD undef=.pointer (some (Ad b2 0)))(e5:a.tmps[d2]?.getD undef=yF k i h s z (.S dp dn dc) (.S np nn nc) (.S vp vn vc))(h1:BX w b1 [o0,o1,o2,o3,o4,o5])(h2:RX w b2 [r0,r1,r2,r3,r4,r5,r6,r7])(h12:b1<b2)(hSk:∀w',Below b1 w w'->Fr [35,79] w w'->S w')(hQ:∀w',BX w' b1 [.U e,.U g,.U x,.I t,.S p n c,.S q m d]->RX w' b2 [.I k,.U i,.U h,.U s,.I z,.S dp dn dc,.S np nn nc,.S vp vn vc]->Fr [35,79] w w'->Below b1 w w'->Q .normal a w'):wpAnyH prog md ops Q S 2 listed a w:=by
 refine wpAnyH_ready Hi ai ?_;refine AllReadyH.cons MG (λKK hK=>?_) eG;obtain⟨k0,k1,k2,k3,k4,k5,kf⟩:=h1.cells;go_simp;obtain⟨X,hX⟩:=az (dB w b1 (.U e) (.U g) (.U x) (.I t) (.S p n c) (.S q m d));have bX:Below b1 w X:=hX▸cT _ _ _ _ _ _ _;have AO:=h1.put (.U e) (.U g) (.U x) (.I t) (.S p n c) (.S q m d);have fX:Fr [35] w X:=by obtain⟨-,cur,ht⟩:=h1;rw[hX];exact je ht
 rw[<-hX]at AO;have RX1:=h2.fr fX;unfold dB at hX;rw[<-hX];refine hK.out _ _ (hSk X bX (fX.sub ai)) (λhS=>?_);clear hK KK hX k0 k1 k2 k3 k4 k5 kf;refine wpAnyH_ready lK ai ?_;refine AllReadyH.cons ho6 (λKK hK=>?_) eG;obtain⟨k0,k1,k2,k3,k4,k5,k6,k7,kf⟩:=RX1.cells;go_simp;obtain⟨RXY,fY⟩:=RX1.put (.I k) (.U i) (.U h) (.U s) (.I z) (.S dp dn dc) (.S np nn nc) (.S vp vn vc);have bY:=di (w:=X) (b:=b2) (v0:=.I k) (v1:=.U i) (v2:=.U h) (v3:=.U s) (v4:=.I z) (v5:=.S dp dn dc) (v6:=.S np nn nc) (v7:=.S vp vn vc);obtain⟨Y,hY⟩:=az (lD X b2 (.I k) (.U i) (.U h) (.U s) (.I z) (.S dp dn dc) (.S np nn nc) (.S vp vn vc));rw[<-hY]at RXY fY bY;unfold lD dB at hY;rw[<-hY];have bY':=bX.trans (bY.mono (V8 h12));refine hK.out _ _ (hSk Y bY' ((fX.sub ai).trans (fY.sub ai))) (λhS=>?_);clear hK KK hY;refine wpAnyH_done IJ ?_ _;exact hQ Y (AO.fr fY) RXY ((fX.sub ai).trans (fY.sub ai)) bY'
def mQ(nd:aC)(id:Int):Bool:=decide (nd.mode=0)||(decide (nd.holders.length=1)&&decide (nd.holders.headD 0=id))
def ao2{P V H U:Value}{n c:Nat}(eH:Hid (nd.holders.length=n)){id:Int}{w:World}(tH:Hid (rD w (.S p n c) nd.holders))(hP:P.oneCell'=true)(hV:V.oneCell'=true)(hU:U.oneCell'=true):Calls prog 189 #[.agg #[P,V,.U nd.owner,.I nd.mode,.S p n c,.U nd.aJ,.U nd.gen,U],.U id] w (Rb (.bool (mQ nd id)) w):=by
 go_in
 by_cases hm:nd.mode=0;{
 have hf:mQ nd id=true:=by simp[mQ,hm]
 rw[hf];have hm':(nd.mode==0)=true:=by simp[hm]
 go_wp2;go_ret;exact⟨rfl,au.alloc ao _⟩};{
 have hm':(nd.mode==0)=false:=by simp[hm]
 by_cases hn:n=1;{
 obtain⟨x,hx⟩:∃x,nd.holders=[x]:=aO5.1 (by rw[aa eH,hn]);obtain⟨b,o,rfl,hc⟩:=tH.at (k:=0) (x:=x) (by rw[hx];rfl);rw[GK]at hc;have ri:=λob:Obj=>ag hc ((cR _ w).alloc ao ob);have hf:Hid (mQ nd id=decide (x=id)):=by show _=_;simp[mQ,hm,hx]
 subst hn;have h1:((1:Int)==1)=true:=aZ;by_cases hxi:x=id;{
 subst hxi;have h2:(x==x)=true:=ai;go_wp2;go_ret;have Q4:mQ nd x=true:=by rw[aa hf];simp
 exact⟨by rw[Q4];rfl,au.alloc ao _⟩};{
 have h2:(x==id)=false:=by simpa using hxi
 go_wp2;go_ret;exact⟨by rw[aa hf,tX hxi];rfl,au.alloc ao _⟩}};{
 have hf:Hid (mQ nd id=false):=by show _=_;simp[mQ,hm,aa eH,hn]
 have h1:((n:Int)==1)=false:=by simp;omega
 go_wp2;go_ret;exact⟨by rw[aa hf];rfl,au.alloc ao _⟩}}
end Go.Proofs.YtkakbcaiplggiaaGreatDoor
