import Derived.Test.YtjjnidignljppaaGreatDoorK9
import Derived.Test.YtjjnidignljppaaGreatDoorK10
namespace Go.Proofs.YtjjnidignljppaaGreatDoor
set_option linter.all false
set_option maxRecDepth 100000
open Go.ChangeShapes Go.WideShapes Go.ChangeAt Go.RowKit
variable {A:List Lf}{B M sz:Nat}{Ls:List (List Lf)}{c:List Value}{cs:List (List Value)}{ty:TypeId}{v:Value}{xs:LI}
structure mL(B:Nat)(w:World)(A:List Lf):Prop where
 nd:(A.map fun a=>(a.b,a.o)).Nodup
 lo:∀a∈A,B<=a.b
 vj:cQ w A
def mL.nil(B:Nat)(w:World):mL B w []:=⟨by simp,fun a ha=>by simp at ha,cQ.nil w⟩
def mL.mono{B':Nat}{w:World}(h:mL B w A)(hB:B'<=B):mL B' w A:=⟨h.nd,fun a ha=>fW hB (h.lo a ha),h.vj⟩
def mL.app{w:World}{A2:List Lf}(h:mL B w A)(h2:mL M w A2)(hB:B<=M)(hM:∀a∈A,a.b<M):mL B w (A++A2):=by
 refine⟨?_,fun a ha=>?_,cQ.app.2 ⟨h.vj,h2.vj⟩⟩;{rw[ko,yk];refine⟨h.nd,h2.nd,fun x hx y hy=>?_⟩;obtain⟨a,ha,rfl⟩:=iJ.1 hx;obtain⟨a2,yN,rfl⟩:=iJ.1 hy;intro e;have:=hM a ha;have:=h2.lo a2 yN;simp only[fO]at e;omega};{rcases gR.1 ha with ha|ha;{exact h.lo a ha};{exact fW hB (h2.lo a ha)}}
def cQ.keep{w w':World}(h:cQ w A)(hk:∀a∈A,w'.heap[a.b]?=w.heap[a.b]?):cQ w' A:=fun a ha=>by
 obtain⟨⟨n,hn⟩,hf⟩:=h a ha;exact⟨⟨n,(World.cell?_of_block (w:=w) (a:=⟨a.b,a.o,none⟩) (hk a ha)).trans hn⟩,(World.frozen?_of_block (w:=w) (a:=⟨a.b,a.o,none⟩) (hk a ha)).trans hf⟩
def mL.keep{w w':World}(h:mL B w A)(hk:∀a∈A,w'.heap[a.b]?=w.heap[a.b]?):mL B w' A:=⟨h.nd,h.lo,h.vj.keep hk⟩
def OwnT{α:Type}(el:World->α->List Value->List Lf->Prop)(ty:TypeId)(sz B:Nat)(w:World)(v:Value)(xs:List α)(Ls:List (List Lf)):Prop:=
 ∃cs:List (List Value),cs.length=xs.length/\Ls.length=xs.length/\(∀c∈cs,c.length=sz)/\w.ownsRow B ty sz v xs.length cs.flatten∧
  (∀(i:Nat)(x:α)(c:List Value)(l:List Lf),xs[i]?=some x->cs[i]?=some c->Ls[i]?=some l->el w x c l)/\mL B w Ls.flatten/\∀a∈Ls.flatten,v.ownBlock≠some a.b
def OwnT.nil{α:Type}(el:World->α->List Value->List Lf->Prop)(ty:TypeId)(sz B:Nat)(w:World):OwnT el ty sz B w (.S none 0 0) [] []:=
 ⟨[],rfl,rfl,fun c hc=>by simp at hc,by simpa using World.ownsRow_nil w B ty sz,fun i x c l hx=>by simp at hx,by simpa using mL.nil B w,fun a ha=>by simp at ha⟩
def OwnT.keep{α:Type}{el:World->α->List Value->List Lf->Prop}{w w':World}{xs:List α}(h:OwnT el ty sz B w v xs Ls)(cR:∀x c l,el w x c l->(∀a∈l,w'.heap[a.b]?=w.heap[a.b]?)->el w' x c l)(hz:w.heap.size<=w'.heap.size)(hr:∀b,v.ownBlock=some b->w'.heap[b]?=w.heap[b]?)(hl:∀a∈Ls.flatten,w'.heap[a.b]?=w.heap[a.b]?):OwnT el ty sz B w' v xs Ls:=by
 obtain⟨cs,h1,h2,h3,h4,h5,h6,h7⟩:=h;refine⟨cs,h1,h2,h3,?_,fun i x c l hx hc Dx=>cR _ _ _ (h5 i x c l hx hc Dx) (fun a ha=>hl a (Hk.2 ⟨l,aS Dx,ha⟩)),h6.keep hl,h7⟩;refine⟨h4.1,?_⟩;rcases h4.2 with hn|⟨g,cap,cur,rfl,hb,hg,rest⟩;{exact .inl hn};{exact .inr ⟨g,cap,cur,rfl,hb,(hr g rfl).trans hg,rest⟩}
def OwnT.below{α:Type}{el:World->α->List Value->List Lf->Prop}{w w':World}{xs:List α}(h:OwnT el ty sz B w v xs Ls)(cR:∀w w' x c l,el w x c l->(∀a∈l,w'.heap[a.b]?=w.heap[a.b]?)->el w' x c l)(hb:Bw w w'):OwnT el ty sz B w' v xs Ls:=by
 have h':=h;obtain⟨cs,h1,h2,h3,h4,h5,h6,h7⟩:=h';exact h.keep (cR w w') hb.size (fun b hv=>hb.block b (h4.lt b hv).2) (fun a ha=>hb.block _ (h6.vj.lt ha))
def OwnT.snoc{α:Type}{el:World->α->List Value->List Lf->Prop}{w w':World}{v':Value}{xs:List α}{x:α}{l:List Lf} (h1:cs.length=xs.length)(h2:Ls.length=xs.length)(h3:∀c∈cs,c.length=sz)(h5:∀(i:Nat)(x:α)(c:List Value)(l:List Lf),xs[i]?=some x->cs[i]?=some c->Ls[i]?=some l->el w x c l)(h6:mL B w Ls.flatten)(h7:∀a∈Ls.flatten,v.ownBlock≠some a.b)(cR:∀w w' x c l,el w x c l->(∀a∈l,w'.heap[a.b]?=w.heap[a.b]?)->el w' x c l)(hx:el w x c l)(hc:c.length=sz)(hA:mL M w l)(hBM:B<=M)(hM:∀a∈Ls.flatten,a.b<M)(hvM:∀b,v.ownBlock=some b->b<M)(dh:w'.ownsRow B ty sz v' (xs.length+1) (cs.flatten++c))(hg:w.grownBy w' v.ownBlock)(lG:∀g,v'.ownBlock=some g->v.ownBlock=some g\/w.heap.size<=g):OwnT el ty sz B w' v' (xs++[x]) (Ls++[l]):=by
 have hk:∀a∈Ls.flatten++l,w'.heap[a.b]?=w.heap[a.b]?:=fun a ha=>by rcases gR.1 ha with ha|ha;{exact hg.block _ (h6.vj.lt ha) (fun e=>h7 a ha e.symm)};{exact hg.block _ (hA.vj.lt ha) (fun e=>by have:=hvM a.b e.symm;have:=hA.lo a ha;omega)}
 refine⟨cs++[c],by simp[h1],by simp[h2],fun c' qM=>?_,?_,fun i y c' l' hy qM Dx=>?_,?_,fun a ha=>?_⟩;{rcases gR.1 qM with qM|qM;{exact h3 c' qM};{simp at qM;subst qM;exact hc}};{simpa using dh};{
 by_cases hi:i<xs.length;{rw[kT hi]at hy;rw[kT ae]at qM Dx;exact cR w w' _ _ _ (h5 i y c' l' hy qM Dx) (fun a ha=>hk a (Bz _ (Hk.2 ⟨l',aS Dx,ha⟩)))};{
 have ei:i=xs.length:=by have:=(aT.1 hy).1;simp at this;omega
 subst ei;simp at hy;rw[<-h1]at qM;simp at qM;rw[<-h2]at Dx;simp at Dx;subst hy qM Dx;exact cR w w' _ _ _ hx (fun a ha=>hk a (CD _ ha))}};{
 have:(Ls++[l]).flatten=Ls.flatten++l:=by simp
 rw[this];exact(h6.app hA hBM hM).keep hk};{
 have:(Ls++[l]).flatten=Ls.flatten++l:=by simp
 rw[this]at ha;intro e;rcases lG _ e with e1|e1;{rcases gR.1 ha with ha|ha;{exact h7 a ha e1};{have:=hvM a.b e1;have:=hA.lo a ha;omega}};{
 have:a.b<w.heap.size:=by rcases gR.1 ha with ha|ha;{exact h6.vj.lt ha};{exact hA.vj.lt ha}
 omega}}
def OwnT.lt{α:Type}{el:World->α->List Value->List Lf->Prop}{w:World}{xs:List α}(h:OwnT el ty sz B w v xs Ls):(∀b,v.ownBlock=some b->B<=b/\b<w.heap.size)/\∀a∈Ls.flatten,B<=a.b/\a.b<w.heap.size:=by
 obtain⟨cs,h1,h2,h3,h4,h5,h6,h7⟩:=h;exact⟨fun b hb=>h4.lt b hb,fun a ha=>⟨h6.lo a ha,h6.vj.lt ha⟩⟩
theorem yO(h:∀c∈cs,c.length=sz){i:Nat}(hc:cs[i]?=some c){j:Nat}(hj:j<sz):cs.flatten[i*sz+j]?=c[j]?:=by
 induction cs generalizing i with
 |nil=>simp at hc
 | cons d cs ih=>
  cases i with
  |zero=>
   simp at hc;subst hc;rw[ti,kT (by rw[h d ai];omega)];simp
  |succ i=>
   rw[ti,mE (by rw[h d ai,Ko];omega),h d ai];have:=ih (fun c hc=>h c (by simp[hc])) (by simpa using hc);rw[<-this]
   congr 1
   rw[Ko];omega
theorem OwnT.lv{α:Type}{el:World->α->List Value->List Lf->Prop}{w:World}{xs:List α}(h:OwnT el ty sz B w v xs Ls)(P:α->Nat->Nat->List Lf->Prop)(tL:∀x c l b a,el w x c l->(∀j u,c[j]?=some u->w.cell? ⟨b,a+j,none⟩=some u)->(∀o,w.frozen? ⟨b,o,none⟩=false)->(∀y∈l,y.b≠b)->cQ w l->(l.map fun a=>(a.b,a.o)).Nodup→
   ∃L,P x b a L/\(L.map fun a=>(a.b,a.o)).Nodup/\cQ w L/\∀y∈L,y∈l\/y.b=b/\a<=y.o/\y.o<a+sz):∃A,Iq P sz v xs A/\mL B w A:=by
 obtain⟨cs,h1,h2,h3,h4,h5,h6,h7⟩:=h;rcases id h4.2 with⟨rfl,h0⟩|⟨g,cap,cur,rfl,hb,hg,-,-,-,-⟩;{have e0:xs=[]:=tp.1 h0;subst e0;exact⟨[],⟨none,0,[],ai,rfl,rfl,.inl rfl⟩,mL.nil _ _⟩};{
 have hfz:∀o,w.frozen? ⟨g,o,none⟩=false:=fun o=>by simp[World.frozen?,hg]
 have key:∀k,k<=xs.length->∃LL:List (List Lf),LL.length=k/\(∀(i:Nat)(x:α)(l:List Lf),i<k->xs[i]?=some x->LL[i]?=some l->P x g (0+i*sz) l)/\(LL.flatten.map fun a=>(a.b,a.o)).Nodup/\cQ w LL.flatten∧
   ∀y∈LL.flatten,y∈(Ls.take k).flatten\/y.b=g/\y.o<k*sz:=by
  intro k
  induction k with
  |zero=>intro _;exact⟨[],rfl,fun i x l hi=>ae,ai,cQ.nil w,fun y hy=>by simp at hy⟩
  | succ k ih=>
   intro hk;obtain⟨LL,q1,q2,q3,q4,q5⟩:=ih ae;obtain⟨x,hx⟩:∃x,xs[k]?=some x:=⟨_,aO ae⟩;obtain⟨c,hc⟩:∃x,cs[k]?=some x:=⟨_,aO ae⟩;obtain⟨l,hl⟩:∃x,Ls[k]?=some x:=⟨_,aO ae⟩;have hlm:∀y∈l,y∈Ls.flatten:=fun y hy=>Hk.2 ⟨l,aS hl,hy⟩;have hlen:c.length=sz:=h3 c (aS hc);have br:(Ls.take (k+1)).flatten=(Ls.take k).flatten++l:=by rw[ng,hl];simp
   have lE:(((Ls.take (k+1)).flatten.map fun a=>(a.b,a.o))).Nodup:=by
    have:=h6.nd;have e:Ls.flatten=(Ls.take (k+1)).flatten++(Ls.drop (k+1)).flatten:=by rw[<-Jf,BH]
    rw[e,ko,yk]at this;exact this.1
   rw[br,ko,yk]at lE;obtain⟨n1,n2,n3⟩:=lE;obtain⟨L,r1,r2,r3,r4⟩:=tL x c l g (0+k*sz) (h5 k x c l hx hc hl) (fun j u hu=>by
    have hj:j<sz:=by have:=(aT.1 hu).1;omega
    have hks:k*sz+sz<=xs.length*sz:=by rw[<-Ko];exact Um _ hk
    rw[lu,h4.cellAt (k*sz+j) ae,yO h3 hc hj];exact hu) hfz (fun y hy e=>h7 y (hlm y hy) (by simp[Value.ownBlock,e])) (h6.vj.sub hlm) n2
   refine⟨LL++[L],by simp[q1],fun i y m hi hy hm=>?_,?_,?_,fun y hy=>?_⟩;{
 by_cases hik:i<k;{rw[kT ae]at hm;exact q2 i y m hik hy hm};{
 have:i=k:=by omega
 subst this;rw[hx]at hy;cases hy;rw[<-q1]at hm;simp at hm;subst hm;exact r1}};{have e:(LL++[L]).flatten=LL.flatten++L:=ai;rw[e,ko,yk];refine⟨q3,r2,fun y hy z hz=>?_⟩;obtain⟨a1,m1,rfl⟩:=iJ.1 hy;obtain⟨a2,m2,rfl⟩:=iJ.1 hz;intro ee;simp only[fO]at ee;rcases q5 a1 m1 with u1|⟨u1,u2⟩;{rcases r4 a2 m2 with v1|⟨v1,v2,v3⟩;{exact n3 (a1.b,a1.o) (NS u1) (a2.b,a2.o) (NS v1) (by rw[ee.1,ee.2])};{exact h7 a1 (e8 u1) (by simp[Value.ownBlock,ee.1,v1])}};{rcases r4 a2 m2 with v1|⟨v1,v2,v3⟩;{exact h7 a2 (hlm a2 v1) (by simp[Value.ownBlock,<-ee.1,u1])};{omega}}};{have e:(LL++[L]).flatten=LL.flatten++L:=ai;rw[e];exact cQ.app.2 ⟨q4,r3⟩};{have e:(LL++[L]).flatten=LL.flatten++L:=ai;rw[e]at hy;rcases gR.1 hy with hy|hy;{rcases q5 y hy with u1|⟨u1,u2⟩;{exact .inl (by rw[br];exact Bz _ u1)};{exact .inr ⟨u1,by rw[Ko];omega⟩}};{rcases r4 y hy with v1|⟨v1,v2,v3⟩;{exact .inl (by rw[br];exact CD _ v1)};{exact .inr ⟨v1,by rw[Ko];omega⟩}}}
 obtain⟨LL,q1,q2,q3,q4,q5⟩:=key xs.length ao;refine⟨LL.flatten,⟨some ⟨g,0,none⟩,cap,LL,rfl,q1,rfl,.inr ⟨g,0,rfl,fun i x l hx hl=>q2 i x l (aT.1 hx).1 hx hl⟩⟩,q3,fun a ha=>?_,q4⟩;rcases q5 a ha with u1|⟨u1,u2⟩;{exact h6.lo a (e8 u1)};{rw[u1];exact hb}}
theorem vV{kd:IntKind}{e:TypeId}{w:World}{p:OA}{n c:Nat}{l:LI}(h:w.ownsRow B e 1 (.S p n c) l.length (l.map (Value.int kd))):∃A,Iq (LvI kd) 1 (.S p n c) l A/\mL B w A/\A.length=l.length/\∀a∈A,(Value.slice p n c).ownBlock=some a.b:=by
 rcases id h.2 with⟨ee,h0⟩|⟨g,cap,cur,ee,hb,hg,hr⟩;{simp only[dU]at ee;obtain⟨rfl,rfl,rfl⟩:=ee;have e0:=tp.1 h0;subst e0;exact⟨[],⟨none,0,[],rfl,rfl,rfl,.inl rfl⟩,mL.nil _ _,rfl,fun a ha=>by simp at ha⟩};{
 simp only[dU]at ee;obtain⟨rfl,rfl,rfl⟩:=ee;refine⟨(List.range l.length).map fun i=>⟨g,0+i,kd⟩,⟨some ⟨g,0,none⟩,c,(List.range l.length).map fun i=>[⟨g,0+i,kd⟩],rfl,ai,?_,.inr ⟨g,0,rfl,fun i x l' hx hl=>?_⟩⟩,⟨?_,fun a ha=>?_,fun a ha=>?_⟩,ai,fun a ha=>?_⟩;{
 induction(List.range l.length)with
 |nil=>rfl
 |cons i r ih=>rw[iH,iH,ti,<-ih];rfl}
 {
 obtain⟨hi,e⟩:=aT.1 hl;simp at e;rw[<-e,By,lu]
 rfl}
 {rw[uj,List.Nodup,Ap];exact Y7.imp (fun{i j}kF=>by simpa using kF)};{obtain⟨i,hi,rfl⟩:=iJ.1 ha;exact hb};{
 obtain⟨i,hi,rfl⟩:=iJ.1 ha;have Sb:i<l.length:=by simpa using hi
 refine⟨⟨l[i],?_⟩,by simp[World.frozen?,hg]⟩;have:=World.ownsRow.cellAt h i ae;simp only[lu];rw[this];simp[Sb]};{
 obtain⟨i,hi,rfl⟩:=iJ.1 ha
 rfl}}
def Rd.dH{w w':World}(h:Rd w v xs)(hl:Qw v xs A)(hk:∀a∈A,w'.heap[a.b]?=w.heap[a.b]?):Rd w' v xs:=by
 obtain⟨p,c,rfl,hd⟩:=h;refine⟨p,c,rfl,?_⟩;rcases hd with hd|⟨b,o,rfl,hd⟩;{exact .inl hd};{refine .inr ⟨b,o,rfl,fun i hi=>?_⟩;obtain⟨Ls,en,lL,eA,fD⟩:=hl.at;obtain⟨b',o',x,l,e1,-,Dx,hP,-,gG⟩:=fD i hi;obtain⟨rfl,rfl⟩:=xr e1;have:w'.heap[b]?=w.heap[b]?:=hk ⟨b,o+i*1,.u8⟩ (gG _ (by rw[show l=_ from hP];simp));exact(aE this _).trans (hd i hi)}
def qT.dH{w w':World}(h:qT w v xs)(hl:WS v xs A)(hk:∀a∈A,w'.heap[a.b]?=w.heap[a.b]?):qT w' v xs:=by
 obtain⟨p,c,rfl,hd⟩:=h;refine⟨p,c,rfl,?_⟩;rcases hd with hd|⟨b,o,rfl,hd⟩;{exact .inl hd};{refine .inr ⟨b,o,rfl,fun i hi=>?_⟩;obtain⟨Ls,en,lL,eA,fD⟩:=hl.at;obtain⟨b',o',x,l,e1,-,Dx,hP,-,gG⟩:=fD i hi;obtain⟨rfl,rfl⟩:=xr e1;have:w'.heap[b]?=w.heap[b]?:=hk ⟨b,o+i*1,.u64⟩ (gG _ (by rw[show l=_ from hP];simp));exact(aE this _).trans (hd i hi)}
def LD(w:World)(x:Ev)(c:List Value)(l:List Lf):Prop:=
 ∃p cc,c=[.I x.1,.S p x.2.length cc]/\Rd w (.S p x.2.length cc) x.2/\px (.S p x.2.length cc)/\Qw (.S p x.2.length cc) x.2 l
def LD.keep(w w':World)(x:Ev)(c:List Value)(l:List Lf)(h:LD w x c l)(hk:∀a∈l,w'.heap[a.b]?=w.heap[a.b]?):LD w' x c l:=by
 obtain⟨p,cc,h1,h2,h3,h4⟩:=h;exact⟨p,cc,h1,h2.dH h4 hk,h3,h4⟩
def Da.keep{w w':World}{xs:List Ev}(h:Da w v xs A)(hk:∀a∈A,w'.heap[a.b]?=w.heap[a.b]?):Da w' v xs A:=by
 refine h.imp fun x b a l hx gG hP=>?_;obtain⟨p,c,lb,h1,h2,h3⟩:=hP;refine⟨p,c,lb,h1,?_,h3⟩;have:w'.heap[b]?=w.heap[b]?:=hk ⟨b,a,.i64⟩ (gG _ (by rw[h1];simp));exact(aE this _).trans h2
def pX.dH{w w':World}{xs:List Ev}(h:pX w v xs)(hl:Da w v xs A)(hk:∀a∈A,w'.heap[a.b]?=w.heap[a.b]?):pX w' v xs:=by
 obtain⟨p,c,rfl,hd⟩:=h;refine⟨p,c,rfl,?_⟩;rcases hd with hd|⟨b,o,rfl,hd⟩;{exact .inl hd};{
 refine .inr ⟨b,o,rfl,fun i e he=>?_⟩;obtain⟨Ls,en,lL,eA,fD⟩:=hl.at;obtain⟨b',o',x,l,e1,hx,Dx,hP,-,gG⟩:=fD i (aT.1 he).1;obtain⟨rfl,rfl⟩:=xr e1;rw[he]at hx;cases hx;obtain⟨q,cc,lb,e2,h2,h3⟩:=hP;have hb:w'.heap[b]?=w.heap[b]?:=hk ⟨b,o+i*2,.i64⟩ (gG _ (by rw[e2];simp));obtain⟨r1,u,r2,r3,r4⟩:=hd i e he;have:u=.S q e.2.length cc:=by rw[h2]at r2;exact(Cz r2).symm
 subst this;exact⟨(aE hb _).trans r1,_,(aE hb _).trans r2,r3.dH h3 (fun a ha=>hk a (gG a (by rw[e2];simp[ha]))),r4⟩}
def kK(w:World)(x:aR)(c:List Value)(l:List Lf):Prop:=
 ∃p cc,c=[.U x.1,.I x.2.1,.S p x.2.2.length cc]/\pX w (.S p x.2.2.length cc) x.2.2/\Da w (.S p x.2.2.length cc) x.2.2 l
def kK.keep(w w':World)(x:aR)(c:List Value)(l:List Lf)(h:kK w x c l)(hk:∀a∈l,w'.heap[a.b]?=w.heap[a.b]?):kK w' x c l:=by
 obtain⟨p,cc,h1,h2,h3⟩:=h;exact⟨p,cc,h1,h2.dH h3 hk,Da.keep h3 hk⟩
def jj(w:World)(x:aB)(c:List Value)(l:List Lf):Prop:=
 ∃p0 c0 p1 c1 p4 c4 p7 c7 l0 l1 l4 l7,l=l0++(l1++(l4++l7))/\c=[.S p0 x.path.length c0,.S p1 x.value.length c1,.U x.owner,.I x.mode,.S p4 x.holders.length c4,.U x.aJ,.U x.gen,.S p7 x.watchers.length c7]∧
  (Rd w (.S p0 x.path.length c0) x.path/\px (.S p0 x.path.length c0)/\Qw (.S p0 x.path.length c0) x.path l0)/\(Rd w (.S p1 x.value.length c1) x.value/\Qw (.S p1 x.value.length c1) x.value l1)∧
  (qT w (.S p4 x.holders.length c4) x.holders/\WS (.S p4 x.holders.length c4) x.holders l4)/\(qT w (.S p7 x.watchers.length c7) x.watchers/\WS (.S p7 x.watchers.length c7) x.watchers l7)
def jj.keep(w w':World)(x:aB)(c:List Value)(l:List Lf)(h:jj w x c l)(hk:∀a∈l,w'.heap[a.b]?=w.heap[a.b]?):jj w' x c l:=by
 obtain⟨p0,c0,p1,c1,p4,c4,p7,c7,l0,l1,l4,l7,rfl,h2,⟨h3,h4,h5⟩,⟨h6,h7⟩,⟨h8,h9⟩,⟨h10,h11⟩⟩:=h;exact⟨p0,c0,p1,c1,p4,c4,p7,c7,l0,l1,l4,l7,rfl,h2,⟨h3.dH h5 (fun a ha=>hk a (by simp[ha])),h4,h5⟩,⟨h6.dH h7 (fun a ha=>hk a (by simp[ha])),h7⟩,⟨h8.dH h9 (fun a ha=>hk a (by simp[ha])),h9⟩,⟨h10.dH h11 (fun a ha=>hk a (by simp[ha])),h11⟩⟩
end Go.Proofs.YtjjnidignljppaaGreatDoor
