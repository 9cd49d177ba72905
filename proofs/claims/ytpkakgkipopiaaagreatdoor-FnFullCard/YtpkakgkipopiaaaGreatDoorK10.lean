import Derived.Test.YtpkakgkipopiaaaGreatDoorK9
open Array renaming setIfInBounds->jI,size->U
open Bool renaming false->dF,true->dY
open Decidable renaming decide->dD
open Go renaming undef->jQ,Calls->dQ,Value->dV,World->G
open Go.Ending renaming returned->dR
open Go.IntKind renaming i64->jV,wrap->jY
open Go.Obj renaming cells->dO
open Go.Proofs.Tryz renaming prog->dG
open Go.RowKit renaming Hid->O
open Go.Value renaming ownBlock->jB,string->jJ,bool->jO,agg->jP,I->dI,pointer->dP,S->dS,tuple->dT,U->dU
open Go.World renaming alloc->jA,frozen?->jF,grownBy->jG,heap->Q,setCell->jS,cell?->I
open Int renaming toNat->jN
open List renaming drop->jD,getD->jE,flatten->jL,range->jR,eraseIdx->jX,length->J
open Option renaming none->dN,some->Y
namespace Go.Proofs.YtpkakgkipopiaaaGreatDoor
set_option maxHeartbeats 12800000
set_option linter.all false
set_option maxRecDepth 100000
open Go.ChangeShapes Go.WideShapes Go.ChangeAt Go.RowKit Go.Maps
def uP(B:Nat)(w:G)(v:dV)(R:RP):Prop:=∃(o:OA)(s:Nat)(m:OA)(r:Nat)(j:OA)(q:Nat),v=mB R.k R.i R.e R.g R.n (.S o (J R.qB) s) (.S m (J R.nms) r) (.S j (J R.pG) q)
variable {B b bs bn z np cp nv cv i k n d f a a' c j sz M N X L:Nat}{w w' w0 V3 w1:G}{v v0 v1 v2 v3 v4 v5 v6:dV}{R:RP}{D:SD}{e g K S F E iG C x kd:Int}{fn:Func}{pp pq p:OA}{ty:TypeId}{ss ss':List aC}{s:aC}{ns:List au}{nd nd':au}{P V l m m' iI xs m3:LI}{t t' sh sh' s3:Bool}{ev:Ev}{y:List UInt8}{rs:List R1}{Ls:List (List Lf)}{A:List Lf}{vs:List dV}{row:Option Nat}{md:Region.Mode}{ops:iQ}{listed:Array Bool}{A5 A6:Array Edge}
theorem uP.W(h:uP B w v R)(j:∀b,B<=b->b<U (Q w)->w'.heap[b]?=w.heap[b]?)(i:U (Q w)<=U (Q w')):uP B w' v R:=h
theorem uP.h{B':Nat}(h:uP B w v R)(i:B'<=B):uP B' w v R:=h
theorem uP.num(B:Nat)(w:G)(k i e g n:Int):uP B w (rpn ⟨k,i,e,g,n,[],[],[]⟩) ⟨k,i,e,g,n,[],[],[]⟩:=⟨dN,0,dN,0,dN,0,rfl⟩
def bG2(w0 w:G)(b bs bn:Nat)(D:SD)(R:RP)(r:Ending)(w':G):Prop:=∃j NB m i v,PS w0 w' b bs bn D j NB m i/\Fr T3 w w'/\r=dR v/\uP (U (Q w)) w' v R
theorem vt.r{SB NB HB UB:iN}{k i n:Int}{r:Ending}(h:vt w0 w b bs bn D SB NB HB UB ⟨k,i,e,g,n,[],[],[]⟩ r w'):bG2 w0 w b bs bn D ⟨k,i,e,g,n,[],[],[]⟩ r w':=⟨SB,NB,HB,UB,_,h.1,h.2.1,h.2.2,uP.num _ _ _ _ _ _ _⟩
open Go.Proofs.Tryz
def Whn(C:Int)(P:Prop):Prop:=C=0->P
def cR2(w0 w:G)(b bs bn:Nat)(D o:SD)(R:RP)(C:Int)(r:Ending)(w':G):Prop:=∃j NB m i v,r=dR (dT #[v,rZ C])/\Fr T3 w w'/\PS w0 w' b bs bn (if C=0 then o else D) j NB m i/\uP (U (Q w)) w' v (if C=0 then R else ka)
variable {R:Ending->G->Prop}
theorem aN7{a:Act}{Z:G}{o0 o1 o2 o3 o4 o5 B o7:dV}(M:O (RX Z z [o0,o1,o2,o3,o4,o5,B,o7]))(hf:fn.results=#[.cell 4 43,.tmp 5])(D:a.tmps.getD 4 jQ=Pz z)(E:dV)(S:a.tmps.getD 5 jQ=E)(hd:a.defers=[]){v7:dV}(N:R (dR (dT #[jP #[v0,v1,v2,v3,v4,v5,v6,v7],E])) (oR Z z v0 v1 v2 v3 v4 v5 v6 v7)):bodyPost dG fn R .ret a (oR Z z v0 v1 v2 v3 v4 v5 v6 v7):=by
 obtain⟨y,x,u,s,r,q,o,m,-⟩:=(M.put v0 v1 v2 v3 v4 v5 v6 v7).1.cells;generalize oR Z z v0 v1 v2 v3 v4 v5 v6 v7=W at*;refine bO (v:=dT #[jP #[v0,v1,v2,v3,v4,v5,v6,v7],E]) ?_ hd N;have j:=D;have i:=S;simp only[ca5]at j i;simp[results,hf,go_sem,j,i,y,x,u,s,r,q,o,m]
theorem ey4{w0:World}{w:World}{D':SD}{SB NB HB UB:iN}(h:Hid (PS w0 w b bs bn D SB NB HB UB)){j o:Int}(eC:Hid ((if j=0 then o else j)=C)){R:RP}{v:Value}{W Z:FuncId}{vC vA:Value}(dT7:Hid (∀w',Bw w w'->Cp 181 #[Pz b,rD K S (.S pp np cp) F (.S pq nv cv) E iG] w' λr m=>r=.returned (rZ j)/\Bw w' m))(dM9:Hid (Whn j (∀w',Bw w w'->Cp 182 #[rD K S (.S pp np cp) F (.S pq nv cv) E iG] w' λr m=>r=.returned (.iface ty v)/\Bw w' m)))(hmC : ∀w,(Go.method 476 ty v "loop.example/s02132/impl.check").run prog w = .ok (W,vC) w)(hmA : ∀w,(Go.method 476 ty v "loop.example/s02132/impl.act").run prog w = .ok (Z,vA) w)(hfC:∀vs w,(callFunc W vs).run prog w=.ok (.enter W vs) w)(U4:∀vs w,(callFunc Z vs).run prog w=.ok (.enter Z vs) w)(dT9:Hid (Whn j (∀w',Bw w w'->Calls prog W #[vC,Pz b] w' λr m=>r=.returned (rZ o)/\Bw w' m)))(dW6:Hid (Whn j (Whn o (∀w',Bw w w'->Calls prog Z #[vA,Pz b] w' (bG2 w0 w' b bs bn D' R))))):Calls prog 124 #[Pz b,rD K S (.S pp np cp) F (.S pq nv cv) E iG] w (cR2 w0 w b bs bn D D' R C):=by
 let⟨X,hX,bX,zX,CX,gX⟩:=bM w #[.I K,.U S,.S pp np cp,.I F,.S pq nv cv,.U E,.U iG] 26;let⟨N,hY,bY,zY,RY⟩:=DO X (.I 0) (.U 0) (.U 0) (.U 0) (.I 0) aq aq aq;rw[zX]at RY;have bW:=ah bX bY;have HA:=af (λ(u:World)(hu:Bw N u)=>aD (ah bW hu) (aD ((CX.H ae bY).H ae hu) (RY.H hu)));have BY0:=af (aR N.heap.size N);have HC:=jq hmC hmA hfC U4;have wW:=h.be.size;have HZ:=af zY;go_in
 go_wp21
 rw[<-hX,<-hY];refine(aa dT7 N (aa HA N BY0).1).h ?_;rintro r w1⟨rfl,ao⟩;let⟨b1,q,R1⟩:=aa HA w1 ao;have o0:=q.1 0 _ rfl;have o1:=q.1 1 _ rfl;have o2:=q.1 2 _ rfl;have o3:=q.1 3 _ rfl;have o4:=q.1 4 _ rfl;have o5:=q.1 5 _ rfl;have o6:=q.1 6 _ rfl;have B1:=af ao;have M:=af b1;have wG:=af R1;by_cases y:j=0;{
 have e0:rZ j=.nilIface:=by rw[y];rfl
 rw[e0];have H0:=af y;have s:o=C:=by have:=aa eC;rwa [aK y]at this
 subst s
 go_wp21
 refine(aa dM9 H0 w1 M).h ?_;rintro r w2⟨rfl,ay⟩;have B2:=af (ah B1 ay);have mL:=af (ah M ay);have mC:=aa HC
 go_wp21
 refine(aa dT9 H0 w2 mL).h ?_;rintro r w3⟨rfl,aE⟩;have B3:=af (ah B2 aE);have x:=af (ah mL aE);by_cases Lc:o=0;{
 have e1:rZ o=.nilIface:=by rw[Lc];rfl
 rw[e1];have i:=af Lc
 go_wp21
 refine(aa dW6 H0 i w3 x).h ?_;rintro r w4⟨Oh,Ol,yr,Oc,v4,P4,F4,rfl,L4⟩;have L4':=L4;obtain⟨p1,c1,p2,c2,p3,c3,A1,A2,A3,rfl,-⟩:=L4';have R4:=(aa HA w3 B3).2.2.T F4;have r0:=R4.cells;have DS:=af R4;have V:=dy P4 F4 L4;let⟨n1,uo⟩:=aZ R.qB.length;let⟨n2,vZ⟩:=aZ R.nms.length;let⟨n3,Ns⟩:=aZ R.pG.length;rw[uo,vZ,Ns]at V⊢;go_wp2;have z3:=x.size;have z4:=V.2.1.1;have zz:=aa HZ;have zB:=B3.size;refine aN7 DS aU rfl .nilIface rfl rfl ⟨Oh,Ol,yr,Oc,_,by rw[aa i];rfl,((Fr.H (T:=T3) (aa x)).Z V.2.1).low ((uV (b:=w.heap.size+1)).h ae),?_,?_⟩;{rw[aK (aa i)];exact PS.rep V.1 DS ae _ _ _ _ _ _ _ _};{rw[aK (aa i)];exact(V.2.2.W (λz h1 _=>ak5 ae) (uV).size).h ae}};{
 have e1:rZ o=.iface 107 (.agg #[.I o]):=by rw[rZ,aJ Lc]
 rw[e1];have i:=af Lc;obtain⟨-,-,R3⟩:=aa HA w3 B3;have r0:=R3.cells;have uQ:=af R3;go_wp2;have z3:=x.size;refine aN7 uQ aU rfl (.iface 107 (.agg #[.I o])) rfl rfl ⟨SB,NB,HB,UB,_,by rw[rZ,aJ (aa i)],(Fr.H (T:=T3) (aa x)).low ((uV).h ae),?_,?_⟩;{rw[aJ (aa i)];exact PS.rep (h.H x) uQ ae _ _ _ _ _ _ _ _};{rw[aJ (aa i)];exact uP.num _ _ _ _ _ _ _}}};{
 have eV:rZ j=.iface 107 (.agg #[.I j]):=by rw[rZ,aJ y]
 rw[eV];have i:=af y;have s:j=C:=by have:=aa eC;rwa [aJ y]at this
 subst s;have r0:=wG.cells;go_wp2;have z3:=M.size;refine aN7 wG aU rfl (.iface 107 (.agg #[.I j])) rfl rfl ⟨SB,NB,HB,UB,_,by rw[rZ,aJ (aa i)],(Fr.H (T:=T3) (aa M)).low ((uV).h ae),?_,?_⟩;{rw[aJ (aa i)];exact PS.rep (h.H M) wG ae _ _ _ _ _ _ _ _};{rw[aJ (aa i)];exact uP.num _ _ _ _ _ _ _}}
theorem aM4(h:(jR (J ss)).all (xG x ss))(m:s∈ss):1<=s.1/\s.1<=x/\xI s.2.2:=by
 let⟨i,j⟩:=ji.1 m;have:=lW.1 h i (by simpa using(bu.1 j).1);unfold xG at this;rw[iR,j]at this;simp only[ta,gI,lx]at this;exact⟨this.1,this.2.1,this.2.2.2.2.2⟩
theorem sS.of(hF:zI ss ns)(h:(jR (J ss)).all (xG x ss)):sS ss:=
 ⟨hF.s1,λs i=>(hF.s2 s i).1,λs i=>by have:=(aM4 h i).2.2;unfold xI at this;simp only[gI,lx]at this;exact this.1⟩
theorem bX5(h:(jR (J ns)).all (vD e g ss ns))(j:ns[i]?=nd):vp nd.A:=by
 have:=lW.1 h i (by simpa using(bu.1 j).1);unfold vD at this;rw[iR,j]at this;simp only[ta,gI]at this;exact this.1.1
theorem WF.of{t:Int}(h:mY e g x t ss ns)(hF:zI ss ns)(R:0<=g)(B:0<=x):WF ⟨e,g,x,t,ss,ns⟩:=by
 unfold mY at h;simp only[gI,lx]at h;obtain⟨⟨Z,N,M,E,D,X,W⟩,V,u⟩:=h;refine⟨⟨R,N⟩,⟨B,M⟩,⟨E,D⟩,λo m=>?_,λo m=>?_,λo m=>(hF.n2 o m).2.2.1,λo m hm=>?_,λi j a c s hc y=>?_⟩;{obtain⟨a,b,c,d,f,-⟩:=hF.n2 o m;exact⟨b,f,d⟩};{let⟨i,r⟩:=ji.1 m;exact⟨bX5 u r,(hF.n2 o m).1,(hF.n2 o m).2.1⟩};{let⟨i,r⟩:=ji.1 m;intro S;have:=ao7 (al6 u r).1 hm;rw[S]at this;cases this};{obtain q|q|q:=Mz i j;{exact absurd y (hF.n3 i j a c s hc q)};{exact q};{exact absurd y.C (hF.n3 j i c a hc s q)}}
def qP(w:G):Prop:=∀k:Nat,1<=k->k<=13->Jw w 0 (k*7) (rowOf k).1 (rowOf k).2.1 (rowOf k).2.2.1 (rowOf k).2.2.2.1 (rowOf k).2.2.2.2.1 (rowOf k).2.2.2.2.2.1 (rowOf k).2.2.2.2.2.2
structure GD(D:SD):Prop where
 wf:WF D
 ci:CI D.E D.N
 pw:(D.N.map λnd=>jv nd.A).Pairwise (·<·)
 ho:∀nd∈D.N,(nd.M=1->J nd.y=1)/\(nd.M≠1->nd.P=0/\nd.F=0/\(nd.M=0->J nd.y=0))
 sx:∀s∈D.E,s.1<=D.x
 ql:∀s∈D.E,J s.2.2<=2^20/\∀e∈s.2.2,J e.2<=2^20
 wl:∀nd∈D.N,J nd.X<=2^20
 sl:J D.E<2^20
 nl:J D.N<2^20
theorem GD.of{t:Int}(h:mY e g x t ss ns)(hF:zI ss ns)(E:0<=g)(D:0<=x):GD ⟨e,g,x,t,ss,ns⟩:=by
 have r:=h;unfold mY at r;simp only[gI,lx]at r;obtain⟨⟨-,-,-,-,-,N,M⟩,B,y⟩:=r;refine⟨WF.of h hF E D,⟨sS.of hF B,λm j=>?_,KD.of hF⟩,hF.n1,λm j=>?_,λs o=>(aM4 B o).2.1,λs o=>(hF.s2 s o).2,λm j=>(hF.n2 m j).2.2.2.2.1,by show J ss<_;omega,by show J ns<_;omega⟩;{let⟨i,q⟩:=ji.1 j;exact⟨NT.of hF y q,(hF.n2 m j).2.2.2.2.2.1,(hF.n2 m j).2.2.2.1⟩};{let⟨i,q⟩:=ji.1 j;obtain⟨u,-⟩:=al6 y q;exact⟨λhm=>ao7 u hm,λhm=>aW2 u hm⟩}
structure wS(w0 w:G)(b bs bn:Nat)(D:SD)(SB NB HB UB:iN)(S F E iG:Int)(pp:OA)(np cp:Nat)(pq:OA)(nv cv:Nat)(P V:LI):Prop where
 ps:PS w0 w b bs bn D SB NB HB UB
 gd:GD D
 hS:0<=S/\S<2^64
 eP:J P=np
 eV:J V=nv
 hP:Rd w (.S pp np cp) P
 hV:AB w0 w (.S pq nv cv) V
 hB:aA P
 hp:np<=2^20
 gL:np<=cp
 ju:cp<=maxLen
 hm:∃m,I w (Ad 2 0)=dI m
 hT:qP w
theorem wS.H{SB NB HB UB:iN}(h:wS w0 w b bs bn D SB NB HB UB S F E iG pp np cp pq nv cv P V)(i:Bw w w'):wS w0 w' b bs bn D SB NB HB UB S F E iG pp np cp pq nv cv P V:=
 ⟨h.ps.H i,h.gd,h.hS,h.eP,h.eV,h.hP.H i,h.hV.T (bH i) ai,h.hB,h.hp,h.gL,h.ju,by obtain⟨m,hm⟩:=h.hm;exact⟨m,aj hm i⟩,λk o j=>(h.hT k o j).H i⟩
theorem bY7:yC ns P<0↔kU ns P=dN:=by
 constructor;{
 intro h;cases hn:kU ns P with
 |none=>rfl
 | some j=>
  exfalso;unfold yC at h;cases hf:ns.findIdx? (λj=>dD (j.A=P))with
  |some i=>rw[hf]at h;simp at h;omega
  |none=>
   have o:=an5.1 hf j (an7 hn);have m:=XD hn;rw[o]at m;cases m};{
 intro h;rw[bY8 h]
 decide}
theorem eD8(o:1<=k)(m:k<=13)(i:Bk D (rowOf k).1 (rowOf k).2.1 (oF k S F (J P) (J V) E iG) k S P=C)(q:C≠0):lM D k S F E iG P V=(D,kP C):=by
 have hf:Cq k S F (J P) (J V) E iG=oF k S F (J P) (J V) E iG:=by rw[Cq,aK ae,sC]
 unfold lM;rw[hf];cases hB:oF k S F (J P) (J V) E iG with
 |false=>
  rw[hB]at i;simp only[Bk,pQ]at i;rw[aK rfl,i]
 |true=>
  rw[hB]at i;rw[aJ ai];by_cases j:(rowOf k).1/\mZ D.E S<0;{
 have u:C=3:=by rw[<-i];simp[Bk,j]
 obtain rfl|rfl|rfl|rfl|rfl|rfl|rfl|rfl|rfl|rfl|rfl|rfl|rfl:=kinds o m<;>simp_all[rowOf,Et]}
  {
 have r:(if(rowOf k).2.1 then D9 D k P else 0)=C:=by rw[<-i];simp only[Bk,Bool.true_eq_false,Ap,j]
 clear i hf hB;subst r;unfold CM;obtain rfl|rfl|rfl|rfl|rfl|rfl|rfl|rfl|rfl|rfl|rfl|rfl|rfl:=kinds o m<;>simp only[rowOf,D9,Ml,Aj]at q j⊢<;>by_cases s:P=[47]<;>cases hv:vp P<;>cases hn:kU D.N P<;>simp_all[bY7,Et]<;>(intros;omega)}
theorem NJ{j m B:Bool}(h:Bk D j m B K S P=0):B/\(j->¬mZ D.E S<0)/\(m->D9 D K P=0):=by
 unfold Bk at h;cases B with
 |false=>simp at h
 |true=>
  refine⟨rfl,λe i=>?_,λe=>?_⟩;{simp[e,i]at h};{by_cases i:j/\mZ D.E S<0;{simp[i]at h};{simpa[i,e]using h}}
def JO(w0 w:G)(b bs bn:Nat)(D:SD)(A:SD×RP)(r:Ending)(w':G):Prop:=∃i R C,cR2 w0 w b bs bn D i R C r w'/\(A=if C=0 then(i,R)else(D,kP C))/\(C=0->R.k=0)
theorem GY{w0 w:World}{SB NB HB UB:iN}(cx:wS w0 w b bs bn D SB NB HB UB S F E iG pp np cp pq nv cv P V)(k:Nat)(C1:Int)(D':SD)(R:RP)(ty:TypeId)(v:Value)(fC fA:FuncId)(vC:Value)(fk:Bk D (rowOf k).1 (rowOf k).2.1 (oF k S F P.length V.length E iG) k S P=0->(∀w',wS w0 w' b bs bn D SB NB HB UB S F E iG pp np cp pq nv cv P V->Calls prog fC #[vC,Pz b] w' λr w''=>r=.returned (rZ C1)/\Bw w' w'')∧
   (C1=0->∀w',wS w0 w' b bs bn D SB NB HB UB S F E iG pp np cp pq nv cv P V->Calls prog fA #[v,Pz b] w' (bG2 w0 w' b bs bn D' R))/\lM D k S F E iG P V=if C1=0 then(D',R)else(D,kP C1))(h1:1<=k:=by decide)(h2:k<=13:=by decide)(hq:bS1 k S (bf P) F (.S pq nv cv) E iG=.iface ty v:=by rfl)(hmC : ∀w,(Go.method 476 ty v "loop.example/s02132/impl.check").run prog w = .ok (fC,vC) w:=by(intro w;kernel_rfl))(hmA : ∀w,(Go.method 476 ty v "loop.example/s02132/impl.act").run prog w = .ok (fA,v) w:=by(intro w;kernel_rfl))(hfC:∀vs w,(callFunc fC vs).run prog w=.ok (.enter fC vs) w:=by(intro vs w;kernel_rfl))(U4:∀vs w,(callFunc fA vs).run prog w=.ok (.enter fA vs) w:=by(intro vs w;kernel_rfl))(hRk:C1=0->R.k=0:=by(intro _;rfl)):Cp 124 #[Pz b,rD k S (.S pp np cp) F (.S pq nv cv) E iG] w (JO w0 w b bs bn D (lM D k S F E iG P V)):=by
 let⟨C0,eC0⟩:=aZ (Bk D (rowOf k).1 (rowOf k).2.1 (oF k S F P.length V.length E iG) k S P);rw[eC0]at fk;refine(ey4 cx.ps (af rfl) (λw' hb=>?_) (λ_ w' hb=>?_) hmC hmA hfC U4 (λhC w' hb=>(fk hC).1 w' (cx.H hb)) (λhC Lc w' hb=>(fk hC).2.1 Lc w' (cx.H hb))).h λr w' hr=>⟨D',R,_,hr,?_,λhC=>hRk (by split at hC<;>omega)⟩;{have c:=cx.H hb;exact ev7 c.ps (λnd aG=>(c.gd.wf.pb nd aG).2.1) h1 h2 c.hS c.eP c.hP c.hB c.hp c.gL c.ju c.hm (c.hT k h1 h2) (af rfl) (by show _=_;rw[<-eC0,c.eP,c.eV];rfl)};{have c:=cx.H hb;have:=dn2 h1 h2 (S:=S) (F:=F) (E:=E) (iG:=iG) (pq:=pq) (nv:=nv) (cv:=cv) c.eP c.hP;rw[hq]at this;exact this};{by_cases hC:C0=0;{rw[(fk hC).2.2,aK hC]};{rw[aJ hC,aJ hC];exact eD8 h1 h2 eC0 hC}}
variable {R:Nat}
theorem lr.ku(h:lr w b v0 v1 v2 v3 v4 v5 v6)(j:Kept [blk R] w w')(m:b<U (Q w))(o:b≠R):lr w' b v0 v1 v2 v3 v4 v5 v6:=by
 have e:=j.cellAt m (λx i e=>by simp only[td]at i;subst i;simp[jB]at e;exact o e.C);exact⟨(e 0).Z h.1,(e 1).Z h.2.1,(e 2).Z h.2.2.1,(e 3).Z h.2.2.2.1,(e 4).Z h.2.2.2.2.1,(e 5).Z h.2.2.2.2.2.1,(e 6).Z h.2.2.2.2.2.2⟩
abbrev bx9(m:LI)(n:Nat)(t:Bool)(x:Int)(m':LI)(n':Nat)(t':Bool):Prop:=
 ∀(R:Nat)(w':G),lQ w' R m n t->Cp 189 #[Pz R] w' λe w''=>e=dR (.I x)/\lQ w'' R m' n' t'/\Kept [blk R] w' w''
abbrev cL4(m:LI)(n:Nat)(t:Bool)(x:Int)(m':LI)(n':Nat)(t':Bool):Prop:=
 ∀(R:Nat)(w':G),lQ w' R m n t->Cp 131 #[Pz R] w' λe w''=>e=dR (.U x)/\lQ w'' R m' n' t'/\Kept [blk R] w' w''
abbrev bx5(m:LI)(n:Nat)(t:Bool)(x:LI)(N:Nat)(m':LI)(n':Nat)(t':Bool):Prop:=
 ∀(R:Nat)(w':G),lQ w' R m n t->R<U (Q w')->Cp 190 #[Pz R] w' λr w''=>∃p' c',r=dR (.S p' N c')/\Own (U (Q w')) w'' (.S p' N c') x/\lQ w'' R m' n' t'/\Kept [blk R] w' w''
theorem cg5(p:OA)(c n:Nat)(l:LI)(en:Le l n)(w:G)(h:Rd w (.S p n c) l)(hl:Mg n)(oU:n<=c)(hp:O ((p=dN/\c=0)\/∃b o,p=(Ad b o)))(nQ:O (∀b o,p=(Ad b o)->b<U (Q w)))(hT:qP w)(k s f:Int)(P V m1 m2 m3 m4 m5:LI)(n1 n2 n3 n4 n5 N NV:Nat)(t1 t2 t3 t4 t5:Bool)(C1:O (bx9 l n dF k m1 n1 t1))(C2:O (cL4 m1 n1 t1 s m2 n2 t2))(C3:O (bx5 m2 n2 t2 P N m3 n3 t3))(C4:O (bx9 m3 n3 t3 f m4 n4 t4))(C5:O (bx5 m4 n4 t4 V NV m5 n5 t5))(LE:LI)(NE:Nat)(eLE:Le LE NE)(BL:O (aA LE))(HB:O (aA l))(E:O (bE1 127 w k s f 0 0 N NV NE P V LE))(D:Bool)(eD:O (dD (LE=l)=D)):dQ dG 139 #[.S p n c] w λe w'=>(O (t5=dY\/D=dF)->e=dR (dT #[qF 0 0 aq 0 aq 0 0,.I 13])/\Bw w w')/\(O (t5=dF/\D)->∃p' c' q' d' B,e=dR (dT #[qF k s (.S p' N c') f (.S q' NV d') 0 0,.I 0])/\U (Q w)<=B/\Own (U (Q w)) w' (.S p' N c') P/\Btw (U (Q w)) B (.S p' N c')/\Own B w' (.S q' NV d') V/\Bw w w'):=by
 have HH:=af h;have HT:=af hT;clear h hT;go_in
 go_wp21
 let⟨W,y⟩:=aF (jA (jA w (dO #[.I 0,.U 0,aq,.I 0,aq,.U 0,.U 0] 26)) (dO #[.S p n c,jO dF] 178));have bW:Bw w W:=y▸Hc (Hc aH);let⟨m,Z⟩:=aF (U (Q w));let⟨R,eR⟩:=aF (m+1);have hR0:lr W m (.I 0) (.U 0) aq (.I 0) aq (.U 0) (.U 0):=by rw[y,Z];simp[lr,go_sem]
 have fR0:∀o,jF W (Ad m o)=dF:=λo=>by rw[y,Z];simp[go_sem]
 have zW:U (Q W)=R+1:=by rw[y,eR,Z];simp
 have Nd:lQ W R l n dF:=by refine⟨aa en,λo=>by rw[y,eR,Z];simp[go_sem],p,c,?_,?_,oU,aa hp⟩;{rw[y,eR,Z];simp[BG,go_sem]};{let⟨p',c',ev,hc⟩:=HH.H bW;obtain⟨rfl,-,-⟩:=mg ev;obtain hc|⟨b,o,rfl,hc⟩:=hc;{exact .L hc};{exact .R ⟨b,o,aM (aa nQ b o rfl),rfl,hc⟩}}
 rw[<-y,<-Z,<-eR];clear y;have HE:=br Z eR;have g1:m<R:=ae;have gR0:U (Q w)<=m:=ae;have gw:U (Q w)<=R:=ae;have zR:R<U (Q W):=ae;clear Z eR zW;refine(aa C1 R _ Nd).h ?_;rintro r w1⟨rfl,rT,K1⟩;have A1:=hR0.ku K1 ae ae;have F1:=Zz fR0 K1 ae ae;have b1:=VI bW K1 ae;have z1:=K1.size;clear hR0 fR0 bW K1 Nd
 go_wp21
 refine(aa C2 R _ rT).h ?_;rintro r w2⟨rfl,Zf,K2⟩;have A2:=A1.ku K2 ae ae;have F2:=Zz F1 K2 ae ae;have b2:=VI b1 K2 ae;have z2:=K2.size;clear A1 F1 b1 K2 rT
 go_wp21
 refine(aa C3 R _ Zf ae).h ?_;rintro r w3⟨p3,c3,rfl,o3,uL,K3⟩;have A3:=A2.ku K3 ae ae;have F3:=Zz F2 K3 ae ae;have b3:=VI b2 K3 ae;have z3:=K3.size;clear A2 F2 b2 K3 Zf
 go_wp21
 refine(aa C4 R _ uL).h ?_;rintro r w4⟨rfl,Ze,K4⟩;have A4:=A3.ku K4 ae ae;have F4:=Zz F3 K4 ae ae;have b4:=VI b3 K4 ae;have o4:=Own.ku o3 K4 ae;have tP:=o4.btw;have z4:=K4.size;clear A3 F3 b3 K4 uL o3
 go_wp21
 refine(aa C5 R _ Ze ae).h ?_;rintro r x⟨p5,c5,rfl,o5,hR5,K5⟩;have u:=A4.ku K5 ae ae;have F5:=Zz F4 K5 ae ae;have b5:=VI b4 K5 ae;have o45:=Own.ku o4 K5 ae;have z5:=K5.size;clear A4 F4 b4 K5 Ze o4;obtain⟨_,fr5,pr,cr,⟨i0,i1⟩,_⟩:=hR5;have j:∀i:Obj,Bw x (x.alloc i):=λi=>aH.alloc az _;have qs:=λi=>aj i1 (j i);have q0:=λi=>aj u.1 (j i);have q1:=λi=>aj u.2.1 (j i);have q2:=λi=>aj u.2.2.1 (j i);have q3:=λi=>aj u.2.2.2.1 (j i);have q4:=λi=>aj u.2.2.2.2.1 (j i);have q5:=λi=>aj u.2.2.2.2.2.1 (j i);have q6:=λi=>aj u.2.2.2.2.2.2 (j i);have qf:=λ(i:Obj)=>DD F5 ae (j i);let⟨X,hX⟩:=aF (jA x (dO #[.I k,.U s,.S p3 N c3,.I f,.S p5 NV c5,.U 0,.U 0] 26));have DP:Bw x X:=hX▸j _;have bX:Bw w X:=ah b5 DP;have AX:=u.H DP;have FX:=DD F5 ae DP;have OX:lr X (U (Q x)) (.I k) (.U s) (.S p3 N c3) (.I f) (.S p5 NV c5) (.U 0) (.U 0):=by rw[hX];simp[lr,go_sem]
 have zX:U (Q x)<U (Q X):=by rw[hX];simp
 have xP:=Own.H o45 DP;have xV:=Own.H o5 DP;clear u F5 i0 i1 fr5 o45 o5 DP j;cases t5 with
 |true=>
  clear hX;go_wp2;refine bO (v:=dT #[qF 0 0 aq 0 aq 0 0,.I 13]) (by simp[results,results139,go_sem,q0,q1,q2,q3,q4,q5,q6]) rfl ⟨λ_=>⟨rfl,?_⟩,λe=>absurd (aa e) ai⟩
  iterate 7 (refine kV ?_ gR0 _)
  exact Hc b5
 | false=>
  go_wp21
  rw[<-hX];clear hX q0 q1 q2 q3 q4 q5 q6 qf qs;refine(aa E p3 p5 c3 c5 _ bX xP.rd xV.rd).h ?_;rintro r x1⟨p6,c6,rfl,o6,M⟩;have Ha:=ah bX M;have A6:=AX.H M;have O6:=OX.H M;have F6:=DD FX ae M;have Wu:=M.size;have xP6:=Own.H xP M;have xV6:=Own.H xV M;clear AX FX OX xP xV bX M
  go_wp21
  refine cK (ZR eLE en o6.rd (HH.H Ha) BL HB) λx2 Ci=>?_;rw[aa eD];have NQ:=af (ah Ha Ci);have A7:=A6.H Ci;have O7:=O6.H Ci;have F7:=DD F6 ae Ci;have xP7:=af (Own.H xP6 Ci);have xV7:=af (Own.H xV6 Ci);have aN:¬m=U (Q x):=ae;have dO4:¬U (Q x)=m:=ae;have HZ:=af (show m<U (Q w2)/\m<U (Q w4)/\U (Q w)<=U (Q w2)/\U (Q w)<=U w4.heap by omega);clear A6 O6 F6 Ci Ha o6 xP6 xV6;have r0:=id A7;have j0:=id O7;clear A7 O7;cases D with
  |false=>
   go_wp2;refine bO (v:=dT #[qF 0 0 aq 0 aq 0 0,.I 13]) (by simp[results,results139,go_sem,r0]) rfl ⟨λ_=>⟨rfl,?_⟩,λe=>absurd (aa e) ai⟩
   iterate 7 (refine kV ?_ gR0 _)
   exact NQ
  |true=>
   go_wp2;let⟨fy,gJ,IJ,Ge⟩:=aa HZ;refine bO (v:=dT #[qF k s (.S p3 N c3) f (.S p5 NV c5) 0 0,.I 0]) (by simp[results,results139,go_sem,r0]) rfl ⟨λe=>absurd (aa e) ai,λ_=>⟨p3,c3,p5,c5,rfl,U (Q w4),Ge,?_,λb hb=>aM (tP b hb),?_,?_⟩⟩;{
 refine Own.h (B:=U (Q w2)) ?_ IJ
 iterate 7 (refine xj ?_ fy _)
 exact xP7};{
 iterate 7 (refine xj ?_ gJ _)
 exact xV7};{
 iterate 7 (refine kV ?_ gR0 _)
 exact NQ}
def JP(w:G)(q:OA)(d:Nat):Prop:=((q=dN/\d=0)\/∃b o,q=(Ad b o))/\∀b o,q=(Ad b o)->b<U (Q w)
theorem Own.adr{q:OA}(h:Own B w (.S q n d) l):JP w q d:=by
 refine⟨?_,λb o e=>?_⟩;{obtain⟨e,m⟩|⟨g,j,i,e,_⟩:=h.2;{simp only[ti]at e;exact .L ⟨e.1,e.2.2⟩};{simp only[ti]at e;exact .R ⟨g,0,e.1⟩}};{subst e;exact(h.lt b rfl).2}
abbrev af3(F:Nat)(w:G)(l:LI)(n:Nat)(k s f:Int)(P V:LI)(NP NV:Nat)(code:Int):Prop:=
 ∀(q:OA)(d:Nat)(w':G),Bw w w'->Rd w' (.S q n d) l->n<=d->JP w' q d->dQ dG F #[.S q n d] w' λr w''=>∃p' c' q' d' B,r=dR (dT #[qF k s (.S p' NP c') f (.S q' NV d') 0 0,.I code])/\U (Q w')<=B/\Own (U (Q w')) w'' (.S p' NP c') P/\Btw (U (Q w')) B (.S p' NP c')/\Own B w'' (.S q' NV d') V/\Bw w' w''
variable {F:Nat}
theorem cC9(h:∀(q:OA)(d:Nat)(w':G),Bw w w'->Rd w' (.S q n d) l->n<=d->JP w' q d->dQ dG F #[.S q n d] w' λe i=>e=dR (dT #[qF 0 0 aq 0 aq 0 0,.I 13])/\Bw w' i):af3 F w l n 0 0 0 [] [] 0 0 13:=
 λq d w' o j m s=>(h q d w' o j m s).h (by rintro r i⟨rfl,u⟩;exact⟨dN,0,dN,0,U (Q w'),rfl,fq _,nK _ _ _ _,(λb e=>by simp[jB]at e),nK _ _ _ _,u⟩)
theorem bV6{s:Nat}(u:k<256)(j:s<2^64)(hf:f<256)(o:aA P)(m:aA V)(r:Mg (J P))(q:Mg (J V)):aA (jr k s P f V):=
 aA.app (λz i=>by simp at i;subst i;omega) (aA.app (BH j) (aA.app (aA.app (BH ae) o) (aA.app (λz i=>by simp at i;subst i;omega) (aA.app (BH ae) m))))
theorem oQ.parts{K S:Nat}(h:oQ l K S P F V):J P<=J l/\J V<=J l:=by
 obtain⟨_,_,_,_,_,_,e⟩:=h;rw[e,jr,tx,tx];simp only[eG,ni,xk];omega
theorem dd8(N:J l=n)(M:aA l)(hl:Mg n)(B:∀K S P F V,¬oQ l K S P F V):af3 33 w l n 0 0 0 [] [] 0 0 13:=
 cC9 λq d u M8 D E ha=>by obtain⟨⟨k,o⟩,e1⟩:∃y,oB l=y:=⟨_,rfl⟩;obtain⟨⟨s,m⟩,Z⟩:∃y,oV o=y:=⟨_,rfl⟩;obtain⟨⟨P,j⟩,X⟩:∃y,oT m=y:=⟨_,rfl⟩;obtain⟨⟨f,i⟩,W⟩:∃y,oB j=y:=⟨_,rfl⟩;obtain⟨⟨V,x⟩,R⟩:∃y,oT i=y:=⟨_,rfl⟩;refine(bN7 q d n l N u D M hl E k s f P V o m j i x e1 Z X W R (J P) (J V) rfl rfl).h ?_;rintro r w2(h|⟨K,S,F,-,-,-,h,-⟩);{exact h.1};{exact absurd h (B K S P F V)}
theorem dd6(D:J l=n)(B:aA l)(hl:Mg n){K S:Nat}(h:oQ l K S P F V):af3 33 w l n K S F P V (J P) (J V) 0:=λq d i W x y N=>by
 have M:=h.parts;let⟨u,s,o,m,j⟩:=do3 (k:=K) (f:=F) (P:=P) (V:=V) h.2.2.1 ae ae;refine(bN7 q d n l D i x B hl y K S F P V _ _ _ _ _ (by show oB l=_;rw[h.2.2.2.2.2.2];exact u) s o m j (J P) (J V) rfl rfl).h ?_;rintro r E(e|⟨X,R,Z,a,b,c,-,e⟩);{exact absurd ⟨rfl,K,S,F,rfl,rfl,rfl,h⟩ e.2};{cases Uh.1 a;cases Uh.1 b;cases Uh.1 c;exact e}
theorem ai3(hm:J m=n)(i:aA m)(hl:Mg n)(e:sB m t=(x,m',t')):bx9 m n t x m' (J m') t':=λR j h=>aL8 h i hl e
theorem bW8(i:aA m)(hl:Mg n)(e:sN 10 0 0 m t=(x,m',t')):cL4 m n t x m' (J m') t':=λR j h=>FG h i hl e
theorem ag8(i:aA m)(hl:Mg n){x:LI}(e:sT m t=(x,m',t')):bx5 m n t x (J x) m' (J m') t':=λR o h j=>aJ3 h i hl j (x:=x) e (N:=J x) rfl
theorem dI3(R:J l=n)(m:aA l)(hl:Mg n)(hT:qP w){K S:Nat}(h:oQ l K S P F V):af3 139 w l n K S F P V (J P) (J V) 0:=λq d y M8 hr hn B=>by
 have hp:=h.parts;let⟨M,E,D,hF,o,hj,j⟩:=id h;have Z:aA (vi S++(tx P++([(F:Int)]++tx V))):=λz i=>m z (by rw[j,jr];exact Kf _ i);have X:aA (tx P++([(F:Int)]++tx V)):=λz i=>Z z (Kf _ i);have W:aA ([(F:Int)]++tx V):=λz i=>X z (Kf _ i);have b4:aA (tx V):=λz i=>W z (Kf _ i);have l0:J l=1+J (vi S++(tx P++([(F:Int)]++tx V))):=by rw[j,jr,eG];rfl
 have l1:J (vi S++(tx P++([(F:Int)]++tx V)))=J (vi S)+J (tx P++([(F:Int)]++tx V)):=eG;have l2:J (tx P++([(F:Int)]++tx V))=J (tx P)+J ([(F:Int)]++tx V):=eG;have l3:J ([(F:Int)]++tx V)=1+J (tx V):=eG;have Za:qP y:=λk a b=>(hT k a b).H M8;have N:=Za K M E;rw[show(rowOf K).2.2.2.2.2.2=dY from hj]at N;have e5:sT (tx V) dF=(V,[],dF):=by have:=ai7 V (rest:=[]) (sh:=dF) ae;rwa [De]at this
 refine(cg5 q d n l R y hr hl hn B.1 B.2 Za K S F P V _ _ _ _ [] _ _ _ _ _ (J P) (J V) dF dF dF dF dF
  (ai3 (m':=vi S++(tx P++([(F:Int)]++tx V))) R m hl (by rw[j];rfl)) (bW8 Z ae (aN1 (s:=S) (sh:=dF) D)) (ag8 X ae (ai7 P (sh:=dF) ae)) (ai3 (m':=tx V) rfl W ae rfl) (ag8 b4 ae e5)
  (jr K S P F V) (J (jr K S P F V)) rfl (j▸m) m ?_ dY (by show _=_;rw[<-j];simp)).h (λr x h=>h.2 (af ⟨rfl,rfl⟩))
 intro q1 q2 d1 d2 x ay g1 g2;have u:=N.H ay;exact aZ8 K M E S F D hF (e:=0) (g:=0) (p:=q1) (q:=q2) (c:=d1) (d:=d2) P V rfl rfl (w:=x) g1 g2 ae ae u o rfl
theorem ei9(M:qP w){k s f:Int}(s0:0<=s)(s1:s<2^64)(hP:aA P)(Z:aA V)(B:Mg (J P))(y:Mg (J V)):∃o:LI,aA o/\bE1 127 w k s f 0 0 (J P) (J V) (J o) P V o/\(o=[]\/∃K S F:Nat,k=K/\s=S/\f=F/\∀l,o=l->oQ l K S P F V):=by
 by_cases hk:1<=k/\k<=13;{
 obtain⟨S,rfl⟩:∃S:Nat,s=(S:Int):=⟨jN s,ae⟩;obtain⟨K,rfl⟩:∃K:Nat,k=(K:Int):=⟨jN k,ae⟩;have j:1<=K:=ae;have i:K<=13:=ae;by_cases N:(oF K S f (J P) (J V) 0 0&&vL K)=dY;{let⟨hf,D⟩:=Bool.and_eq_true_iff.1 N;let⟨f0,f2⟩:=cv8 j i hf;obtain⟨F,rfl⟩:∃F:Nat,f=(F:Int):=⟨jN f,ae⟩;refine⟨jr K S P F V,bV6 ae ae ae hP Z B y,?_,.R ⟨K,S,F,rfl,rfl,rfl,λl e=>⟨j,i,ae,ae,hf,D,e.C⟩⟩⟩;intro x u W R w2 ay g1 g2;have m:=(M K j i).H ay;rw[show(rowOf K).2.2.2.2.2.2=dY from D]at m;exact aZ8 K j i S F ae ae P V rfl rfl g1 g2 B y m hf rfl};{
 have r:(oF K S f (J P) (J V) 0 0&&vL K)=dF:=by simpa using N
 refine⟨[],λz q=>by simp at q,cz0 ?_,.L rfl⟩;intro x u W R X E;exact dJ1 j i (s:=S) (f:=f) (e:=0) (g:=0) ((M K j i).H E) rfl r}};{refine⟨[],λz q=>by simp at q,cz0 ?_,.L rfl⟩;intro x u W R X E;exact dJ0 ae}
theorem dI4(en:J l=n)(hb:aA l)(hl:Mg n)(hT:qP w)(iT:∀K S P F V,¬oQ l K S P F V):af3 139 w l n 0 0 0 [] [] 0 0 13:=
 cC9 λq d w' M8 hr hn ha=>by
  obtain⟨⟨k,M,x⟩,e1⟩:∃y,sB l dF=y:=⟨_,rfl⟩;obtain⟨⟨s,X,E⟩,e2⟩:∃y,sN 10 0 0 M x=y:=⟨_,rfl⟩;obtain⟨⟨P,W,D⟩,e3⟩:∃y,sT X E=y:=⟨_,rfl⟩;obtain⟨⟨f,R,B⟩,e4⟩:∃y,sB W D=y:=⟨_,rfl⟩;obtain⟨⟨V,m5,t5⟩,e5⟩:∃y,sT R B=y:=⟨_,rfl⟩;have u:=TK (sh:=dF) hb;rw[e1]at u;obtain⟨u,_,_,L1⟩:=u;have o:=WY 10 0 0 M x u ae;rw[e2]at o;obtain⟨o,L2,s0,s1⟩:=o;have j:=TJ (sh:=E) o;rw[e3]at j;obtain⟨BP,j,LP,L3⟩:=j;have i:=TK (sh:=D) j;rw[e4]at i;obtain⟨i,_,_,L4⟩:=i;have B5:=TJ (sh:=B) i;rw[e5]at B5;obtain⟨BV,_,LV,_⟩:=B5;dsimp only at u L1 o L2 s0 s1 BP j LP L3 i L4 BV LV;have Za:qP w':=λk a b=>(hT k a b).H M8;let⟨N,BL,hE,hLE⟩:=ei9 Za (k:=k) (f:=f) s0 s1 BP BV ae ae;refine(cg5 q d n l en w' hr hl hn ha.1 ha.2 Za k s f P V M X W R m5 _ _ _ _ _ (J P) (J V) x E D B t5
   (ai3 en hb hl e1) (bW8 u ae e2) (ag8 o ae e3) (ai3 rfl j ae e4) (ag8 i ae e5)
   N (J N) rfl BL hb hE (dD (N=l)) rfl).h (λr w2 h=>h.1 (af ?_))
  by_cases Z:N=l;{
 left;obtain h0|⟨K,S,F,_,_,_,h⟩:=hLE;{
 have qL:l=[]:=by rw[<-Z,h0]
 have h1:x:=by have:=tg (λy=>y.2.2) e1;rw[qL]at this;exact this.C
 have h2:E:=by have:=aN2 10 0 0 M x h1;rw[e2]at this;exact this
 have h3:D:=by have:=ai8 (m:=X) h2;rw[e3]at this;exact this
 have h4:B:=by have:=ai9 (m:=W) h3;rw[e4]at this;exact this
 have:=ai8 (m:=R) h4;rw[e5]at this;exact this};{exact absurd (h l Z) (iT K S P F V)}};{right;simpa using Z}
section
variable {w0 w:World}{b bs bn:Nat}{D:SD}{SB NB HB UB:iN}{S F E iG:Int}{pp:OA}{np cp:Nat}{pq:OA}{nv cv:Nat}{P V:LI}
variable {k:Nat}
theorem bn1(m:1<=k)(j:k<=13)(i:oF k S F (J P) (J V) E iG):¬Cq k S F (J P) (J V) E iG=dF:=by
 rw[Cq,aK ae,sC,i];simp
theorem dh3(h:¬mZ D.E S<0):∃(i:Nat)(s:aC),mZ D.E S=i/\D.E[i]?=Y s/\s.1=S:=by
 unfold mZ at h⊢;cases hf:D.E.findIdx? (λs=>s.1==S)with
 |none=>rw[hf]at h;simp at h
 |some i=>
  obtain⟨m,j,-⟩:=Mu.1 hf;exact⟨i,_,rfl,bN m,by simpa using j⟩
theorem dx3(h:kU D.N P≠dN):∃(i:Nat)(nd:au),yC D.N P=i/\D.N[i]?=Y nd/\nd.A=P/\kU D.N P=Y nd:=by
 have m:¬yC D.N P<0:=λe=>h (bY7.1 e);unfold yC at m⊢;cases hf:D.N.findIdx? (λnd=>dD (nd.A=P))with
 |none=>rw[hf]at m;simp at m
 |some i=>
  let⟨q,o,s⟩:=Mu.1 hf;refine⟨i,_,rfl,bN q,by simpa using o,?_⟩;rw[kU,List.find?_eq_some_iff_getElem];exact⟨by simpa using o,i,q,rfl,λj r=>by have:=s j r;simpa using this⟩
theorem ey7(cx:wS w0 w b bs bn D SB NB HB UB S F E iG pp np cp pq nv cv P V):dQ dG 124 #[Pz b,rD (1:Nat) S (.S pp np cp) F (.S pq nv cv) E iG] w (JO w0 w b bs bn D (lM D (1:Nat) S F E iG P V)):=by
 refine GY cx 1 (JZ D) _ _ 256 (jP #[]) 295 294 (jP #[]) (λy=>⟨λw' c=>du6 c.ps rfl,λhC w' c=>(du7 c.ps ⟨c.gd.wf.x.1,(bV5 hC).2.2⟩ c.gd.wf.t (λs j e=>aM (c.gd.sx s j)) c.gd.sl).h λr w''⟨gN,h⟩=>vt.r h,?_⟩);have e:lM D (1:Nat) S F E iG P V=xJ D:=by unfold lM;rw[aJ (bn1 aX aX (NJ y).1),aK aX]
 rw[e];by_cases hC:JZ D=0;{rw[aK hC,(bV5 hC).1];rfl};{rw[aJ hC,du5 hC]}
theorem Z8(r:4<=k)(j:k<=13)(s:k≠12)(m:Bk D (rowOf k).1 (rowOf k).2.1 (oF k S F (J P) (J V) E iG) k S P=0):lM D k S F E iG P V=CM D k S F E iG P V:=by
 obtain⟨i,q,-⟩:=NJ m;have o:¬((Et k&&dD (mZ D.E S<0))):=by clear m i;obtain rfl|rfl|rfl|rfl|rfl|rfl|rfl|rfl|rfl|rfl|rfl|rfl|rfl:=kinds ae j<;>simp_all[Et,rowOf]
 unfold lM;rw[aJ (bn1 ae j i),aJ ae,aJ o,aJ ae,aJ ae,aJ ae]
variable {K:Int}
theorem bU9(h:D9 D K P=0):Aj K P=dY\/(Aj K P=dF/\vp P/\(Ml K->kU D.N P≠dN)):=by
 unfold D9 at h;cases hr:Aj K P with
 |true=>exact .L rfl
 | false=>
  refine .R ⟨rfl,?_⟩;rw[hr]at h;cases hv:vp P with
  |false=>rw[hv]at h;simp at h
  |true=>
   refine⟨rfl,λj i=>?_⟩;rw[hv]at h;simp[j,i]at h
theorem aj4(h:K≠13):Aj K P=dF:=by simp[Aj,h]
theorem aj7(r:k=5\/k=6\/k=7\/k=8\/k=9\/k=11)(h:D9 D k P=0):∃(i:Nat)(nd:au),D.N[i]?=nd/\nd.A=P/\CM D k S F E iG P V=Db D i k S F V:=by
 have m:(k:Int)≠13:=ae;obtain j|⟨j,o,q⟩:=bU9 h;{rw[aj4 m]at j;cases j};{obtain⟨i,nd,x,u,s,-⟩:=dx3 (q (by obtain rfl|rfl|rfl|rfl|rfl|rfl:=r<;>rfl));refine⟨i,nd,u,s,?_⟩;unfold CM;rw[j,o,aJ ai,aJ ae,aJ ae,aJ cg,aJ m,x,sC]}
theorem ez1(cx:wS w0 w b bs bn D SB NB HB UB S F E iG pp np cp pq nv cv P V):dQ dG 124 #[Pz b,rD (3:Nat) S (.S pp np cp) F (.S pq nv cv) E iG] w (JO w0 w b bs bn D (lM D (3:Nat) S F E iG P V)):=by
 refine GY cx 3 0 (xz D S) ka 260 (jP #[.U S]) 296 298 (jP #[]) (λq=>?_);obtain⟨hB,o,-⟩:=NJ q;have m:=o rfl;let⟨i,s,y,x,u⟩:=dh3 m;refine⟨λw' c=>cZ8 rfl,λ_ w' c=>?_,?_⟩;{have j:=ew4 c.ps c.gd.ci c.gd.pw x rfl (an9 c.gd.nl);rw[u]at j;exact j.h λr w''⟨_,_,_,_,h⟩=>vt.r h};{unfold lM;rw[aJ (bn1 aX aX hB),zk,aJ (by simp;intro _;omega),zk,aK aX,aK rfl]}
end
section
variable {w0 w:World}{b bs bn:Nat}{D:SD}{SB NB HB UB:iN}{S F E iG:Int}{pp:OA}{np cp:Nat}{pq:OA}{nv cv:Nat}{P V:LI}
theorem ey9(cx:wS w0 w b bs bn D SB NB HB UB S F E iG pp np cp pq nv cv P V):Cp 124 #[Pz b,rD (5:Nat) S (.S pp np cp) F (.S pq nv cv) E iG] w (JO w0 w b bs bn D (lM D (5:Nat) S F E iG P V)):=by
 by_cases m:Bk D (rowOf 5).1 (rowOf 5).2.1 (oF 5 S F (J P) (J V) E iG) (5:Nat) S P=0;{
 let⟨hB,W,hp⟩:=NJ m;obtain⟨i,nd,j,rfl,y⟩:=aj7 (k:=5) (S:=S) (F:=F) (E:=E) (iG:=iG) (V:=V) (.L rfl) (hp rfl);have u:=bq j;have x:=(Z8 aX aX aX m).Z y;have gd:=cx.gd;let⟨q,M,B⟩:=gd.ci.nt nd u;have N:=q.pl;refine GY cx 5 (az9 D nd S) (wY (kr D i 2) i) ka 264 (jP #[.U S,jJ (bf nd.A)]) 309 308 (jP #[.U S,jJ (bf nd.A)]) (λ_=>⟨λw' c=>er9 c.ps c.gd.pw (λnd aG=>⟨(c.gd.wf.pb nd aG).2.1,(c.gd.wf.pb nd aG).2.2⟩) j c.hS rfl,λhC w' c=>(es1 c.ps j c.gd.ci.so q c.gd.ci.kd (id:=S)).h λr w'' h=>vt.r h,?_⟩);rw[x];unfold Db;simp only[j];rw[aK aX];unfold az9;by_cases o:tS D.N nd.A=[];{by_cases s:xZ nd S=dF<;>simp[o,s]}
 {simp[o]}};{exact GY cx 5 0 D ka 264 (jP #[.U S,jJ (bf P)]) 309 308 (jP #[.U S,jJ (bf P)]) (λh=>absurd h m)}
theorem ey6(cx:wS w0 w b bs bn D SB NB HB UB S F E iG pp np cp pq nv cv P V):Cp 124 #[Pz b,rD (7:Nat) S (.S pp np cp) F (.S pq nv cv) E iG] w (JO w0 w b bs bn D (lM D (7:Nat) S F E iG P V)):=by
 by_cases q:Bk D (rowOf 7).1 (rowOf 7).2.1 (oF 7 S F (J P) (J V) E iG) (7:Nat) S P=0;{
 let⟨hB,hs,hp⟩:=NJ q;obtain⟨i,nd,m,rfl,B⟩:=aj7 (k:=7) (S:=S) (F:=F) (E:=E) (iG:=iG) (V:=V) (.R (.R (.L rfl))) (hp rfl);have u:=bq m;have y:=(Z8 aX aX aX q).Z B;have gd:=cx.gd;let⟨s,N,M⟩:=gd.ci.nt nd u;have x:=s.pl;refine GY cx 7 (WV nd S) (kr {D with N:=D.N.set i {nd with V:=V}} i 1) ka 268 (jP #[.U S,jJ (bf nd.A),.S pq nv cv]) 313 312 (jP #[.U S,jJ (bf nd.A),.S pq nv cv]) (λ_=>⟨λw' c=>dg4 c.ps m x c.hS (V:=.S pq nv cv) (pv:=pq) (nv:=nv) (cv:=cv) rfl,λhC w' c=>(dg6 c.ps m c.gd.ci.so s (id:=S) c.hV).h λr w'' h=>vt.r h,?_⟩);rw[y];unfold Db;simp only[m];rw[zk,zk,aK aX,dg5 (gd.ho nd u).1];by_cases j:nd.M=1/\nd.y.headD 0≠S
 {rw[aK j,aK j];rfl};{rw[aJ j,aJ j];rfl}};{exact GY cx 7 0 D ka 268 (jP #[.U S,jJ (bf P),.S pq nv cv]) 313 312 (jP #[.U S,jJ (bf P),.S pq nv cv]) (λh=>absurd h q)}
theorem ey8(cx:wS w0 w b bs bn D SB NB HB UB S F E iG pp np cp pq nv cv P V):Cp 124 #[Pz b,rD (8:Nat) S (.S pp np cp) F (.S pq nv cv) E iG] w (JO w0 w b bs bn D (lM D (8:Nat) S F E iG P V)):=by
 by_cases m:Bk D (rowOf 8).1 (rowOf 8).2.1 (oF 8 S F (J P) (J V) E iG) (8:Nat) S P=0;{
 let⟨hB,hs,hp⟩:=NJ m;obtain⟨i,nd,e2,rfl,e4⟩:=aj7 (k:=8) (S:=S) (F:=F) (E:=E) (iG:=iG) (V:=V) (.R (.R (.R (.L rfl)))) (hp rfl);have j:=bq e2;have eA:=(Z8 aX aX aX m).Z e4;have gd:=cx.gd;let⟨N,u,q⟩:=gd.ci.nt nd j;have kx:=N.pl;have hF:F=1\/F=2:=by simp only[oF,rowOf,Bf,gI,lx]at hB;omega
 refine GY cx 8 (yG D nd S F) (yF D i S F).1 (yF D i S F).2 270 (jP #[.U S,jJ (bf nd.A),.I F]) 315 314 (jP #[.U S,jJ (bf nd.A),.I F]) (λ_=>⟨λw' c=>dA1 c.ps e2 kx c.hS hF rfl,?_,?_⟩) (hRk:=λhC=>by obtain rfl|rfl:=hF;exact tg (λz:SD×RP=>z.2.k) (cc4 e2 (λh=>vI.1 (((gd.ho nd j).2 ae).2.2 h)) hC).1;exact tg (λz:SD×RP=>z.2.k) (cc3 e2 hC));{
 intro hC w' c;obtain rfl|rfl:=hF;{let⟨q1,q2⟩:=cc4 e2 (λh=>vI.1 (((gd.ho nd j).2 ae).2.2 h)) hC;rw[q1];exact(dA3 c.ps e2 kx u q c.hS ⟨gd.wf.g.1,q2⟩).h λr w'' h=>vt.r h};{
 rw[cc3 e2 hC];have y:nd.M≠1:=λe=>by unfold yG at hC;rw[aK rfl,aK e]at hC;split at hC<;>omega
 obtain⟨q1,q2,-⟩:=(gd.ho nd j).2 y;exact(dA2 c.ps e2 kx u q c.hS ⟨q1,q2⟩).h λr w'' h=>vt.r h}};rw[eA];unfold Db;simp only[e2];rw[zk,zk,zk,aK aX];by_cases q1:yG D nd S F=0;{rw[aK q1]};{rw[aJ q1,dA0 e2 q1]}};{exact GY cx 8 0 D ka 270 (jP #[.U S,jJ (bf P),.I F]) 315 314 (jP #[.U S,jJ (bf P),.I F]) (λh=>absurd h m)}
theorem ey5(cx:wS w0 w b bs bn D SB NB HB UB S F E iG pp np cp pq nv cv P V):Cp 124 #[Pz b,rD (9:Nat) S (.S pp np cp) F (.S pq nv cv) E iG] w (JO w0 w b bs bn D (lM D (9:Nat) S F E iG P V)):=by
 by_cases o:Bk D (rowOf 9).1 (rowOf 9).2.1 (oF 9 S F (J P) (J V) E iG) (9:Nat) S P=0;{
 let⟨hB,X,hp⟩:=NJ o;obtain⟨i,nd,m,rfl,N⟩:=aj7 (k:=9) (S:=S) (F:=F) (E:=E) (iG:=iG) (V:=V) (.R (.R (.R (.R (.L rfl))))) (hp rfl);have y:=bq m;have M:=(Z8 aX aX aX o).Z N;have gd:=cx.gd;let⟨s,x,u⟩:=gd.ci.nt nd y;have B:=s.pl;refine GY cx 9 (if nd.y.contains S then 0 else 10) (ko D i S) ka 271 (jP #[.U S,jJ (bf nd.A)]) 317 316 (jP #[.U S,jJ (bf nd.A)]) (λ_=>⟨λw' c=>cZ6 c.ps m B c.hS rfl,λhC w' c=>by
   have W:nd.y.contains S:=by by_cases q:nd.y.contains S=dY;{exact q};{rw[aJ q]at hC;omega}
   exact(cZ7 c.ps m c.gd.ci.so s c.hS x u W).h λr w'' h=>vt.r h,?_⟩)
 rw[M];unfold Db;simp only[m];rw[zk,zk,zk,zk,aK aX];by_cases j:nd.y.contains S=dY;{rw[aK j,aK j];rfl};{rw[aJ j,aJ j];rfl}};{exact GY cx 9 0 D ka 271 (jP #[.U S,jJ (bf P)]) 317 316 (jP #[.U S,jJ (bf P)]) (λh=>absurd h o)}
theorem ez0(cx:wS w0 w b bs bn D SB NB HB UB S F E iG pp np cp pq nv cv P V):Cp 124 #[Pz b,rD (4:Nat) S (.S pp np cp) F (.S pq nv cv) E iG] w (JO w0 w b bs bn D (lM D (4:Nat) S F E iG P V)):=by
 let⟨j,hj,y⟩:=cf7 (qU P V (if F=1 then S else 0)) D.N;refine GY cx 4 (Ly D P) {D with N:=qJ (qU P V (if F=1 then S else 0)) D.N} ka 262 (jP #[.U S,jJ (bf P),jO (F==1),.S pq nv cv]) 307 306 (jP #[.U S,jJ (bf P),jO (F==1),.S pq nv cv]) (λs=>⟨λw' c=>et9 c.ps c.hB c.eP c.hp (λnd aG=>(c.gd.wf.pb nd aG).2.1) (id:=S) (F:=F==1) (pv:=pq) (nv:=nv) (cv:=cv) rfl,λhC w' c=>?_,?_⟩);{
 obtain⟨-,iT,-⟩:=cD5 (V:=V) (S:=S) (F:=F) hC;have x:=eu0 c.ps (P:=P) (id:=S) (F:=F==1) c.hV (by show _<=_;rw[c.eP];exact c.hp) (λnd' aG e=>by have Z:=MC (c.gd.wf.pb nd' aG).2.1 c.hB e;have:=Um.1 iT nd' aG;simp[Z]at this) c.gd.nl hj
 refine x.h λr w''⟨gN,hN,uN,h⟩=>?_;have N:(if(F==1)then S else 0)=if F=1 then S else 0:=by by_cases q:F=1<;>simp[q]
 rw[N]at h;rw[y];exact vt.r h};{
 let⟨hB,hs,hp⟩:=NJ s;rw[Z8 aX aX aX s];have B:CM D (4:Nat) S F E iG P V=DL D P V S F:=by obtain hr|⟨hr,u,-⟩:=bU9 (hp rfl);{rw[aj4 aX]at hr;cases hr};{unfold CM;rw[hr,u,aJ ai,aK aX]}
 rw[B];by_cases hC:Ly D P=0;{rw[aK hC,(cD5 hC).1]};{rw[aJ hC,et8 hC]}}
variable {K:Int}
theorem cF2(j:K=1\/K=3\/K=4\/K=5\/K=7\/K=8\/K=9)(i:wS w0 w b bs bn D SB NB HB UB S F E iG pp np cp pq nv cv P V):Cp 124 #[Pz b,rD K S (.S pp np cp) F (.S pq nv cv) E iG] w (JO w0 w b bs bn D (lM D K S F E iG P V)):=by
 obtain rfl|rfl|rfl|rfl|rfl|rfl|rfl:=j;{exact ey7 i};{exact ez1 i};{exact ez0 i};{exact ey9 i};{exact ey6 i};{exact ey8 i};{exact ey5 i}
end
def NG(a:Nat)(nd:au):Prop:=aA nd.A/\J nd.A<=136/\J nd.V<=40/\J nd.y<=a/\J nd.X<=a/\nd.y.Pairwise (·<·)/\nd.X.Pairwise (·<·)
structure Fd(a:Nat)(ss:List aC)(ns:List au):Prop where
 sl:J ss<=a
 nl:J ns<=a+150
 s1:ss.Pairwise (λs s'=>s.1<s'.1)
 n1:(ns.map λnd=>jv nd.A).Pairwise (·<·)
 s2:∀s∈ss,(0<=s.1/\s.1<2^64)/\J s.2.2<=8/\∀e∈s.2.2,J e.2<=136
 n2:∀nd∈ns,NG a nd
theorem NG.h(h:NG a nd)(i:a<=a'):NG a' nd:=⟨h.1,h.2.1,h.2.2.1,aM h.2.2.2.1,aM h.2.2.2.2.1,h.2.2.2.2.2⟩
theorem Fd.h(h:Fd a ss ns)(j:a<=a'):Fd a' ss ns:=⟨aM h.sl,aM h.nl,h.s1,h.n1,h.s2,λi m=>(h.n2 i m).h j⟩
variable {t:Int}
theorem Fd.of(h:mY e g x t ss ns)(hF:zI ss ns):Fd 50 ss ns:=by
 have o:=h;unfold mY at o;simp only[gI,lx]at o;obtain⟨⟨-,-,-,-,-,V,S⟩,a1,r⟩:=o;refine⟨V,S,hF.s1,hF.n1,λs y=>?_,λu E=>?_⟩;{obtain⟨-,-,q⟩:=aM4 a1 y;unfold xI at q;simp only[gI,lx,lW,xl]at q;refine⟨(hF.s2 s y).1,q.1,λe he=>?_⟩;let⟨i,j⟩:=ji.1 he;have m:=q.2 i (bu.1 j).1;rw[iR,j,ta]at m;unfold oG at m;split at m;{simp only[gI,Ee]at m;omega};{simp only[gI]at m;exact JR m.2.2}};{
 let⟨i,j⟩:=ji.1 E;obtain⟨-,R,N⟩:=al6 r j;let⟨f1,f2,f3,f4,f5,D,B⟩:=hF.n2 u E;have X:=bX5 r j;have key:∀ids:LI,ids.Pairwise (·<·)->rK ss ids->J ids<=50:=λids Z hk=>by
  have:=XU ids (ss.map (·.1)) (Xe Z) λi j=>by let⟨z,W,e⟩:=aq0 hk i j;exact fg.2 ⟨z,W,e⟩
  rw[iH]at this;omega
 have Er:J u.V<=40:=by have M:=(bu.1 j).1;have:=lW.1 r i (xl.2 M);unfold vD at this;rw[iR,j,ta]at this;simp only[gI,lx]at this;omega
 exact⟨f1,JR X,Er,key _ D R,key _ B N,D,B⟩}
theorem Fd.aw7(h:Fd a ss ns)(id:Int)(he:J ev.2<=136):Fd a (Co ss id ev) ns:=by
 refine⟨by unfold Co;rw[iH];exact h.sl,h.nl,?_,h.n1,λs u=>?_,h.n2⟩;{have:=h.s1;rw[<-BO (f:=λs:aC=>s.1) (R:=(·<·))]at this⊢;rw[bm6];exact this};{obtain⟨r,x,rfl⟩:=fg.1 u;let⟨q,o,m⟩:=h.s2 r x;split;{refine⟨q,bU3 o,λe j=>?_⟩;simp only[uA]at j;split at j;{obtain i|i:=jg.1 j;{exact m e i};{simp at i;rw[i];exact he}};{split at j;{obtain i|i:=jg.1 j;{exact m e i};{simp at i;rw[i];simp}};{exact m e j}}};{exact⟨q,o,m⟩}}
theorem Fd.ah0(he:J ev.2<=136):∀(ids:LI){ss:List aC},Fd a ss ns->Fd a (wX ss ids ev) ns
 |[],ss,h=>h
 |x::r,ss,h=>Fd.ah0 he r (h.aw7 x he)
theorem Fd.qT(h:Fd a ss ns)(hk:ns[k]?=Y nd)(hp:nd'.A=nd.A)(hn:NG a nd'):Fd a ss (ns.set k nd'):=by
 refine⟨h.sl,by rw[rF];exact h.nl,h.s1,?_,h.s2,λx hx=>?_⟩;{
 have e:(ns.set k nd').map (λnd=>jv nd.A)=ns.map λnd=>jv nd.A:=by have:=tg (List.map jv) (TI hk hp);rw[sA,sA]at this;exact this
 rw[e];exact h.n1};{obtain hx|rfl:=PF hx;{exact h.n2 x hx};{exact hn}}
theorem Fd.tell(h:Fd a D.E D.N)(k:Nat)(kd:Int):Fd a (kr D k kd).E (kr D k kd).N:=by
 unfold kr;cases hk:D.N[k]? with
 |none=>exact h
 |some nd=>
  have hn:=h.n2 nd (bq hk);exact Fd.ah0 hn.2.1 _ (h.qT hk rfl ⟨hn.1,hn.2.1,hn.2.2.1,hn.2.2.2.1,ai,hn.2.2.2.2.2.1,List.Pairwise.nil⟩)
theorem Fd.rm(h:Fd a D.E D.N)(k:Nat):Fd a (wY D k).E (wY D k).N:=
 ⟨h.sl,fx (bZ9 (Kk _ _)) h.nl,h.s1,h.n1.sublist ((Kk _ _).map _),h.s2,λi j=>h.n2 i (Ms j)⟩
theorem Fd.drop(h:Fd a D.E D.N)(k:Nat)(id:Int):Fd a (ko D k id).E (ko D k id).N:=by
 unfold ko;cases hk:D.N[k]? with
 |none=>exact h
 |some nd=>
  have hn:=h.n2 nd (bq hk);simp only;split;{split;{exact Fd.tell (D:={D with N:=_}) (h.qT (nd':={nd with y:=[],M:=0,P:=0,F:=0}) hk rfl ⟨hn.1,hn.2.1,hn.2.2.1,cT _,hn.2.2.2.2.1,List.Pairwise.nil,hn.2.2.2.2.2.2⟩) k 3};{exact h.qT hk rfl ⟨hn.1,hn.2.1,hn.2.2.1,fx (Mb) hn.2.2.2.1,hn.2.2.2.2.1,Ma hn.2.2.2.2.2.1,hn.2.2.2.2.2.2⟩}};{exact h}
theorem Fd.cw(h:Fd a ss ns)(id:Int):Fd a ss (ns.map (sP id)):=by
 refine⟨h.sl,by rw[iH];exact h.nl,h.s1,by rw[sA];exact h.n1,h.s2,λo m=>?_⟩;obtain⟨y,j,rfl⟩:=fg.1 m;have i:=h.n2 y j;exact⟨i.1,i.2.1,i.2.2.1,i.2.2.2.1,fx (Mb) i.2.2.2.2.1,i.2.2.2.2.2.1,Ma i.2.2.2.2.2.2⟩
theorem Fd.bt1(id:Int):∀(f k:Nat){D:SD},Fd a D.E D.N->Fd a (mw id f k D).E (mw id f k D).N
 |0,k,D,h=>by unfold mw;exact h
 |f+1,k,D,h=>by have i:=Fd.drop h k id;unfold mw;split;{exact h};{split;{exact Fd.bt1 id f k (Fd.rm (Fd.tell i k 2) k)};{exact Fd.bt1 id f (k+1) i}}
theorem Fd.close(h:Fd a D.E D.N)(id:Int):Fd a (xz D id).E (xz D id).N:=by
 have i:=Fd.bt1 id (J D.N) 0 (D:={D with N:=D.N.map (sP id)}) (h.cw id);exact⟨fx (Ul _ _) i.sl,i.nl,i.s1.filter _,i.n1,λs j=>i.s2 s (Kj.1 j).1,i.n2⟩
theorem dz5(l m:LI):MB l m=dD (¬jv m<jv l/\jv m≠jv l):=by
 unfold MB;rw[T.aA8,Cv,Cv];show(!dD (jv m<jv l)&&!(jv m==jv l))=_;by_cases j:jv m<jv l<;>by_cases i:jv m=jv l<;>simp[j,i]
theorem Yd{x:au}:∀{l:List au},x∈qJ nd l↔x=nd\/x∈l
 |[]=>by simp[qJ]
 |y::r=>by rw[qJ];split;{simp};{rw[gv,Yd,gv];constructor;{rintro(h|h|h);{exact .R (.L h)};{exact .L h};{exact .R (.R h)}};{rintro(h|h|h);{exact .R (.L h)};{exact .L h};{exact .R (.R h)}}}
theorem eB7{x:List UInt8}(j:¬y<x)(i:y≠x):x<y:=by
 obtain h|h:=Kl (x<y);{exact h};{exact absurd (List.le_antisymm j h) (λe=>i e.C)}
theorem aZ4:∀{l:List au},(l.map λnd=>jv nd.A).Pairwise (·<·)->(∀x∈l,jv x.A≠jv nd.A)->((qJ nd l).map λnd=>jv nd.A).Pairwise (·<·)
 |[],_,_=>by simp[qJ]
 |y::r,h,aN=>by rw[mR,Km]at h;obtain⟨o,q⟩:=h;have s:=aN y ai;rw[qJ,dz5];split;{rename_i hl;simp only[lx]at hl;have m:jv nd.A<jv y.A:=eB7 hl.1 hl.2;rw[mR,mR,Km,Km];refine⟨λz i=>?_,o,q⟩;obtain rfl|i:=gv.1 i;{exact m};{exact List.lt_trans m (o z i)}};{rename_i hl;simp only[lx]at hl;have m:jv y.A<jv nd.A:=cb2 λu=>hl ⟨u,s⟩;rw[mR,Km];refine⟨λz i=>?_,aZ4 q (λx j=>aN x (by simp[j]))⟩;obtain⟨x,j,rfl⟩:=fg.1 i;obtain rfl|j:=Yd.1 j;{exact m};{exact o _ (fg.2 ⟨x,j,rfl⟩)}}
def RS(R:RP):Prop:=J R.qB<=40/\(J R.nms<=201/\∀y∈R.nms,J y<=136)/\J R.pG<=8/\∀e∈R.pG,J e.2<=136
theorem RS.num(k i e g n:Int):RS ⟨k,i,e,g,n,[],[],[]⟩:=⟨cT _,⟨cT _,λy j=>by cases j⟩,cT _,λy j=>by cases j⟩
def AF(A:SD×RP):Prop:=Fd 51 A.1.E A.1.N/\RS A.2
theorem AF.same(h:Fd 50 D.E D.N)(k i e g n:Int):AF (D,⟨k,i,e,g,n,[],[],[]⟩):=⟨h.h (by omega),RS.num _ _ _ _ _⟩
theorem cF8(hl:aA l)(hm:aA m)(h:jv l=jv m):l=m:=MC hl hm (by unfold dr;exact tg Lit.string h)
variable {F:Int}
theorem AF.create(h:Fd 50 D.E D.N)(q:vp P)(j:aA P)(r:J V<=40):AF (DL D P V S F):=by
 unfold DL;split;{exact AF.same h _ _ _ _ _};{
 split;{exact AF.same h _ _ _ _ _};{
 split;{exact AF.same h _ _ _ _ _};{
 rename_i h1 _ _;have m:kU D.N P=dN:=by simpa using h1
 refine⟨⟨by have:=h.sl;show J D.E<=_;omega,by have:=h.nl;show J (qJ _ _)<=_;rw[aZ5];omega,h.s1,aZ4 h.n1 (λx i e=>?_),h.s2,λx i=>?_⟩,RS.num _ _ _ _ _⟩;{have:=Um.1 m x i;exact this (by simpa using cF8 (h.n2 x i).1 j e)};{obtain rfl|i:=Yd.1 i;{exact⟨j,JR q,r,cT _,cT _,List.Pairwise.nil,List.Pairwise.nil⟩};{exact(h.n2 x i).h ae}}}}}
theorem AF.lock(h:Fd 50 D.E D.N)(k:Nat)(s m:Int):AF (yF D k s m):=by
 unfold yF;cases hk:D.N[k]? with
 |none=>exact AF.same h _ _ _ _ _
 |some nd=>
  have hn:=h.n2 nd (bq hk);have i:=hn.h (a':=51) ae;have j:=h.h (a':=51) ae;simp only;split;{exact AF.same h _ _ _ _ _};{split;{split;{exact AF.same h _ _ _ _ _};{exact⟨j.qT hk rfl ⟨hn.1,hn.2.1,hn.2.2.1,by have:=bJ2 nd.y s;have:=hn.2.2.2.1;show J (lY _ _)<=_;omega,i.2.2.2.2.1,WB hn.2.2.2.2.2.1,hn.2.2.2.2.2.2⟩,RS.num _ _ _ _ _⟩}};{split;{exact AF.same h _ _ _ _ _};{split;{exact AF.same h _ _ _ _ _};{exact⟨j.qT hk rfl ⟨hn.1,hn.2.1,hn.2.2.1,by show[s].length<=_;simp,i.2.2.2.2.1,by show[s].Pairwise _;simp,hn.2.2.2.2.2.2⟩,RS.num _ _ _ _ _⟩}}}}
theorem AF.node(h:Fd 50 D.E D.N)(k:Nat)(m:K=7->J V<=40):AF (Db D k K S F V):=by
 unfold Db;cases hk:D.N[k]? with
 |none=>exact AF.same h _ _ _ _ _
 |some nd=>
  have hn:=h.n2 nd (bq hk);have i:=hn.h (a':=51) ae;have j:=h.h (a':=51) ae;simp only;split;{split;{exact AF.same h _ _ _ _ _};{split;{exact AF.same h _ _ _ _ _};{exact⟨Fd.rm (Fd.tell j k 2) k,RS.num _ _ _ _ _⟩}}};{split;{exact⟨j,hn.2.2.1,⟨cT _,λy hy=>by cases hy⟩,cT _,λy hy=>by cases hy⟩};{split;{split;{exact AF.same h _ _ _ _ _};{rename_i h7 _;exact⟨Fd.tell (D:={D with N:=_}) (j.qT (nd':={nd with V:=V}) hk rfl ⟨i.1,i.2.1,m h7,i.2.2.2⟩) k 1,RS.num _ _ _ _ _⟩}};{split;{exact AF.lock h k S F};{split;{split;{exact⟨Fd.drop j k S,RS.num _ _ _ _ _⟩};{exact AF.same h _ _ _ _ _}};{exact⟨j.qT hk rfl ⟨i.1,i.2.1,i.2.2.1,i.2.2.2.1,by have:=bJ2 nd.X S;have:=hn.2.2.2.2.1;show J (lY _ _)<=_;omega,i.2.2.2.2.2.1,WB hn.2.2.2.2.2.2⟩,RS.num _ _ _ _ _⟩}}}}}
theorem AF.rest(h:Fd 50 D.E D.N)(q:aA P)(j:K=4\/K=7->J V<=40):AF (CM D K S F E iG P V):=by
 unfold CM;split;{exact AF.same h _ _ _ _ _};{rename_i hp;split;{rename_i h4;have o:Aj K P=dF:=aj4 ae;rw[o]at hp;exact AF.create h (by simpa using hp) q (j (.L h4))};{split;{exact AF.same h _ _ _ _ _};{split;{exact AF.same h _ _ _ _ _};{split;{refine⟨h.h ae,cT _,⟨?_,λy i=>?_⟩,cT _,λy i=>by cases i⟩;{have:=ce2 (ns:=D.N) P;have:=h.nl;show J (tS _ _)<=_;omega};{obtain⟨m,r,rfl⟩:=fg.1 i;have:=(h.n2 m (Kj.1 r).1).2.1;rw[En,uC];omega}};{exact AF.node h _ (λe=>j (.R e))}}}}}
theorem AF.apply(h:Fd 50 D.E D.N)(o:0<=D.x/\D.x<=2^62)(r:∀s∈D.E,s.1<=D.x)(X:aA P):AF (lM D K S F E iG P V):=by
 have m:=h.h (a':=51) ae;unfold lM;split;{exact AF.same h _ _ _ _ _};{
 rename_i hf;split;{unfold xJ;split;{exact AF.same h _ _ _ _ _};{split;{exact AF.same h _ _ _ _ _};{refine⟨⟨by have:=h.sl;show J (D.E++[_])<=_;rw[eG];simp;omega,m.nl,?_,h.n1,λs j=>?_,m.n2⟩,RS.num _ _ _ _ _⟩;{show List.Pairwise _ (D.E++[_]);rw[aS0];refine⟨h.s1,ai,λa W c hc=>?_⟩;simp at hc;have:=r a W;rw[hc];show a.1<D.x+1;omega};{obtain j|j:=jg.1 j;{exact h.s2 s j};{simp at j;rw[j];exact⟨by show 0<=D.x+1/\D.x+1<_;omega,cT _,λe he=>by cases he⟩}}}}};{
 split;{exact AF.same h _ _ _ _ _};{
 have u:∀(k:Nat)(s:aC)(d:Int)(q:List Ev),D.E[k]?=Y s->J q<=8->(∀e∈q,J e.2<=136)->Fd 51 (D.E.set k (s.1,d,q)) D.N:=λk s d q i M B=>by
  refine⟨by rw[rF];exact m.sl,m.nl,?_,h.n1,λx o=>?_,m.n2⟩;{
 have e:(D.E.set k (s.1,d,q)).map (·.1)=D.E.map (·.1):=by rw[aV7];exact Pe (by rw[qI,i];rfl)
 have:=h.s1;rw[<-BO (f:=λs:aC=>s.1) (R:=(·<·))]at this⊢;rw[e];exact this};{obtain o|rfl:=PF o;{exact h.s2 x o};{exact⟨(h.s2 s (bq i)).1,M,B⟩}}
 split;{
 unfold ce8;cases i:D.E[jN (mZ D.E S)]? with
 |none=>exact AF.same h _ _ _ _ _
 |some s=>
  have q:=h.s2 s (bq i);simp only;split;{exact⟨u _ s _ _ i q.2.1 q.2.2,RS.num _ _ _ _ _⟩};{exact AF.same h _ _ _ _ _}};{
 split;{exact⟨Fd.close m S,RS.num _ _ _ _ _⟩};{
 split;{
 unfold bU6;cases i:D.E[jN (mZ D.E S)]? with
 |none=>exact AF.same h _ _ _ _ _
 |some s=>
  have q:=h.s2 s (bq i);exact⟨u _ s _ _ i (cT _) (λe he=>by cases he),cT _,⟨cT _,λy N=>by cases N⟩,q.2.1,q.2.2⟩};{refine AF.rest h X (λhK=>?_);obtain rfl|rfl:=hK<;>· simp[Cq,oF,Bf,rowOf]at hf;omega}}}}}}
def EvG(ev:Ev):Prop:=1<=ev.1/\ev.1<=3/\vp ev.2/\aA ev.2
theorem dp8{q:List Ev}(h:xI q)(he:EvG ev):xI (uA q ev):=by
 unfold xI at h⊢;simp only[gI,lx,lW,xl]at h⊢;obtain⟨r,j⟩:=h;have key:∀(x:Ev),J q<8->oG (J q) x->J (q++[x])<=8/\∀i,i<J (q++[x])->oG i (jE (q++[x]) i (0,[])):=λx s m=>by refine⟨cg,λi o=>?_⟩;simp at o;by_cases e:i<J q;{rw[iR,qw e,<-iR];exact j i e};{obtain rfl:i=J q:=ae;rw[iR,rG az,BQ];exact m}
 unfold uA;split;{refine key _ ae ?_;unfold oG;rw[aJ ae];simp[he.1,he.2.1,he.2.2.1]};{split;{rename_i e7;refine key _ ae ?_;unfold oG;rw[aK e7];rfl};{exact⟨r,j⟩}}
def SV(x:Int)(s:aC):Prop:=(1<=s.1/\s.1<=x)/\(0<=s.2.1/\s.2.1<=1000015)/\xI s.2.2/\∀e∈s.2.2,aA e.2
theorem SV.push(h:SV x s)(he:EvG ev):SV x (s.1,s.2.1,uA s.2.2 ev):=by
 refine⟨h.1,h.2.1,dp8 h.2.2.1 he,λy j=>?_⟩;simp only[uA]at j;split at j;{obtain i|i:=jg.1 j;{exact h.2.2.2 y i};{simp at i;rw[i];exact he.2.2.2}};{split at j;{obtain i|i:=jg.1 j;{exact h.2.2.2 y i};{simp at i;rw[i];intro z m;simp at m}};{exact h.2.2.2 y j}}
def iS(ss:List aC):LI:=ss.map (·.1)
def qt(ns:List au):List (LI×Int):=ns.map λi=>(i.A,i.D)
def CP(C:List (LI×Int))(l:LI):Prop:=l=[47]\/(l,0)∈C
structure NV(e g:Int)(iI:LI)(C:List (LI×Int))(nd:au):Prop where
 ep:0<=nd.P
 vp:vp nd.A=dY
 pb:aA nd.A
 cp:CP C (im nd.A)
 va:J nd.V<=40
 vb:aA nd.V
 ow:nd.D=0\/nd.D∈iI
 h1:nd.y.Pairwise (·<·)
 h2:∀i∈nd.y,i∈iI
 w1:nd.X.Pairwise (·<·)
 w2:∀i∈nd.X,i∈iI
 lk:qx e g nd.M (J nd.y) nd.P nd.F=dY
structure VD(D:SD):Prop where
 e:0<=D.e/\D.e<=2^62
 g:0<=D.g/\D.g<=2^62
 x:0<=D.x/\D.x<=2^62
 t:0<=D.t/\D.t<=1000000
 sl:J D.E<=50
 nl:J D.N<=200
 s1:(iS D.E).Pairwise (·<·)
 s2:∀s∈D.E,SV D.x s
 n1:(D.N.map λnd=>jv nd.A).Pairwise (·<·)
 n2:∀nd∈D.N,NV D.e D.g (iS D.E) (qt D.N) nd
theorem bU7(m:ns[k]?=nd)(i:nd'.A=nd.A)(j:nd'.D=nd.D):qt (ns.set k nd')=qt ns:=by
 unfold qt;rw[aV7];exact Pe (by rw[qI,m];simp[i,j])
theorem VD.qT(h:VD D)(hk:D.N[k]?=Y nd)(hp:nd'.A=nd.A)(ho:nd'.D=nd.D)(hn:NV D.e D.g (iS D.E) (qt D.N) nd'):VD {D with N:=D.N.set k nd'}:=by
 refine⟨h.e,h.g,h.x,h.t,h.sl,by show J (List.set _ _ _)<=_;rw[rF];exact h.nl,h.s1,h.s2,?_,λy hy=>?_⟩;{
 have e:(D.N.set k nd').map (λnd=>jv nd.A)=D.N.map λnd=>jv nd.A:=by have:=tg (List.map jv) (TI hk hp);rw[sA,sA]at this;exact this
 show List.Pairwise _ (List.map _ (D.N.set k nd'));rw[e];exact h.n1};{show NV _ _ _ (qt (D.N.set k nd')) y;rw[bU7 hk hp ho];obtain hy|rfl:=PF hy;{exact h.n2 y hy};{exact hn}}
theorem VD.dg3(h:VD D)(hi:iS ss'=iS D.E)(hs:∀s∈ss',SV D.x s):VD {D with E:=ss'}:=by
 have hl:J ss'=J D.E:=by have:=tg List.length hi;simpa[iS]using this
 refine⟨h.e,h.g,h.x,h.t,by show J ss'<=_;rw[hl];exact h.sl,h.nl,by show List.Pairwise _ (iS ss');rw[hi];exact h.s1,hs,h.n1,λy hy=>?_⟩;show NV _ _ (iS ss') _ y;rw[hi];exact h.n2 y hy
theorem bL2(he:EvG ev):∀(ids:LI){ss:List aC},(∀s∈ss,SV x s)->∀s∈wX ss ids ev,SV x s
 |[],ss,h=>h
 |y::r,ss,h=>bL2 he r (ss:=Co ss y ev) λs m=>by obtain⟨i,j,rfl⟩:=fg.1 m;split;{exact(h i j).push he};{exact h i j}
theorem VD.ah0(h:VD D)(he:EvG ev)(ids:LI):VD {D with E:=wX D.E ids ev}:=h.dg3 (WH ids ev D.E) (bL2 he ids h.s2)
theorem VD.tell(h:VD D)(k:Nat)(h1:1<=kd)(h3:kd<=3):VD (kr D k kd):=by
 unfold kr;cases hk:D.N[k]? with
 |none=>exact h
 |some nd=>
  have hn:=h.n2 nd (bq hk);exact VD.ah0 (D:={D with N:=D.N.set k {nd with X:=[]}}) (h.qT hk rfl rfl ⟨hn.ep,hn.vp,hn.pb,hn.cp,hn.va,hn.vb,hn.ow,hn.h1,hn.h2,List.Pairwise.nil,λi hi=>by simp at hi,hn.lk⟩) ⟨h1,h3,hn.vp,hn.pb⟩ _
theorem aJ5(hk:D.N[k]?=nd)(kd:Int):∃uR,kr D k kd={D with E:=uR,N:=D.N.set k {nd with X:=[]}}/\iS uR=iS D.E:=by
 unfold kr;rw[hk];exact⟨_,rfl,WH _ _ _⟩
theorem dq7(ns:List au)(k:Nat):qt (jX ns k)=jX (qt ns) k:=by
 unfold qt
 induction ns generalizing k with
 |nil=>rfl
 |cons a r ih=>cases k with
  |zero=>rfl
  |succ k=>simp[ih]
theorem VD.rm(h:VD D)(r:D.N[k]?=nd)(hc:nd.D≠0\/∀z∈qt D.N,im z.1≠nd.A):VD (wY D k):=by
 refine⟨h.e,h.g,h.x,h.t,h.sl,fx (bZ9 (Kk _ _)) h.nl,h.s1,h.s2,h.n1.sublist ((Kk _ _).map _),λy q=>?_⟩;have m:=Ms q;have i:=h.n2 y m;refine⟨i.ep,i.vp,i.pb,?_,i.va,i.vb,i.ow,i.h1,i.h2,i.w1,i.w2,i.lk⟩;obtain e|e:=i.cp;{exact .L e};{
 refine .R ?_;show _∈qt (jX D.N k);rw[dq7,ca8];let⟨j,o⟩:=ji.1 e;refine⟨j,λs=>?_,o⟩;subst s;have:(qt D.N)[j]?=Y (nd.A,nd.D):=by unfold qt;rw[qI,r];rfl
 rw[this]at o;simp only[nJ,jk]at o;obtain hc|hc:=hc;{exact hc o.2};{exact hc (y.A,y.D) (fg.2 ⟨y,m,rfl⟩) o.1.C}}
theorem VD.drop(h:VD D)(k:Nat)(id:Int):VD (ko D k id):=by
 unfold ko;cases hk:D.N[k]? with
 |none=>exact h
 |some nd=>
  have hn:=h.n2 nd (bq hk);simp only;split;{
 rename_i hc;split;{exact VD.tell (D:={D with N:=D.N.set k {nd with y:=[],M:=0,P:=0,F:=0}}) (h.qT hk rfl rfl ⟨tQ _,hn.vp,hn.pb,hn.cp,hn.va,hn.vb,hn.ow,List.Pairwise.nil,λi q=>by simp at q,hn.w1,hn.w2,rfl⟩) k aX aX};{
 rename_i hw;refine h.qT hk rfl rfl ⟨hn.ep,hn.vp,hn.pb,hn.cp,hn.va,hn.vb,hn.ow,Ma hn.h1,λi q=>hn.h2 i (Ia.1 q).1,hn.w1,hn.w2,?_⟩;show qx D.e D.g nd.M (J (kG nd.y id)) nd.P nd.F=dY;have j:id∈nd.y:=by simpa using hc
 have s:1<=J (kG nd.y id):=by
  cases hq:kG nd.y id with
  |nil=>exact absurd hq hw
  |cons a r=>simp
 have B:nd.M≠1:=λhm=>by have N:=ao7 hn.lk hm;let⟨a,M⟩:=ca6.1 N;rw[M]at j hw;simp at j;subst j;exact hw (by simp[kG])
 have m:=hn.lk;unfold qx at m⊢;rw[aJ B]at m⊢;by_cases E:nd.M=0;{have:=(aW2 hn.lk B).2.2 E;have:nd.y=[]:=vI.1 this;rw[this]at j;simp at j};{rw[aJ E]at m⊢;simp only[gI,lx]at m⊢;exact⟨m.1,m.2.1,m.2.2.1,s⟩}}};{exact h}
theorem eq6(hk:D.N[k]?=nd){id:Int}:∃uR gS,ko D k id={D with E:=uR,N:=D.N.set k gS}/\iS uR=iS D.E/\gS.A=nd.A/\gS.D=nd.D/\id∉gS.y/\(gS.X=nd.X\/gS.X=[]):=by
 unfold ko;rw[hk];simp only;split;{split;{have IW:(D.N.set k {nd with y:=[],M:=0,P:=0,F:=0})[k]?=Y {nd with y:=[],M:=0,P:=0,F:=0}:=uM hk _;let⟨uR,e,hi⟩:=aJ5 (D:={D with N:=D.N.set k {nd with y:=[],M:=0,P:=0,F:=0}}) IW 3;refine⟨uR,{nd with y:=[],M:=0,P:=0,F:=0,X:=[]},by rw[e];simp only[Uo],hi,rfl,rfl,ai,.R rfl⟩};{exact⟨D.E,_,rfl,rfl,rfl,rfl,λhm=>(Ia.1 hm).2 rfl,.L rfl⟩}};{rename_i hc;exact⟨D.E,nd,by rw[Pe hk],rfl,rfl,rfl,by simpa using hc,.L rfl⟩}
def bD6(id:Int)(nd:au):Prop:=nd.D≠id/\id∉nd.y
def JY(id:Int)(ns:List au):Nat:=ns.countP λi=>dD (i.D=id)
theorem VD.mw{id:Int}(h0:id≠0):∀(f k:Nat){D:SD},VD D->(∀nd∈D.N,id∉nd.X)->(∀(j:Nat)(nd:au),j<k->D.N[j]?=Y nd->bD6 id nd)->J D.N<=k+f→
  VD (Proofs.YtpkakgkipopiaaaGreatDoor.mw id f k D)/\iS (Proofs.YtpkakgkipopiaaaGreatDoor.mw id f k D).E=iS D.E/\(∀nd∈(Proofs.YtpkakgkipopiaaaGreatDoor.mw id f k D).N,bD6 id nd/\id∉nd.X)/\(Proofs.YtpkakgkipopiaaaGreatDoor.mw id f k D).N.length+JY id (D.N.drop k)=J D.N
 |0,k,D,h,hw,hg,hl=>by unfold Proofs.YtpkakgkipopiaaaGreatDoor.mw;refine⟨h,rfl,λnd u=>⟨?_,hw nd u⟩,?_⟩;{let⟨j,m⟩:=ji.1 u;have:=(bu.1 m).1;exact hg j nd ae m};{rw[Ut ae];rfl}
 | f+1,k,D,h,hw,hg,hl=>by
  unfold Proofs.YtpkakgkipopiaaaGreatDoor.mw;cases hk:D.N[k]? with
  |none=>
   have Z:J D.N<=k:=by simpa using hk
   have e:ko D k id=D:=by unfold ko;rw[hk]
   rw[e,hk];dsimp only;refine⟨h,rfl,λnd u=>⟨?_,hw nd u⟩,?_⟩;{let⟨j,m⟩:=ji.1 u;have:=(bu.1 m).1;exact hg j nd ae m};{rw[Ut Z];rfl}
  | some nd=>
   have aL:=(bu.1 hk).1;have X:=h.drop k id;let⟨uR,gS,e,hi,e1,e2,e3,B⟩:=eq6 hk (id:=id);rw[e]at X⊢;have iV:(D.N.set k gS)[k]?=gS:=uM hk _;have s:D.N.drop k=nd::D.N.drop (k+1):=(List.cD9 hk).C;have V:∀y∈D.N.set k gS,id∉y.X:=λy i=>by
    obtain i|rfl:=PF i;{exact hw y i};{
 obtain B|B:=B<;>rw[B]
 {exact hw nd (bq hk)};{simp}}
   simp only[iV];by_cases r:gS.D=id;{
 rw[aK r];let⟨M,eT,hi2⟩:=aJ5 (D:={D with E:=uR,N:=D.N.set k gS}) iV 2;have q:=VD.tell (D:={D with E:=uR,N:=D.N.set k gS}) X k (kd:=2) aX aX;rw[eT]at q⊢;simp only[Uo]at q⊢;have lI:(D.N.set k {gS with X:=[]})[k]?=Y {gS with X:=[]}:=uM hk _;have W:=VD.rm q (nd:={gS with X:=[]}) lI (.L (by show gS.D≠0;rw[r];exact h0));have E:(wY {D with E:=M,N:=D.N.set k {gS with X:=[]}} k).N=D.N.eraseIdx k:=by show(D.N.set k _).eraseIdx k=_;exact List.eraseIdx_set_eq
 have o:J (D.N.eraseIdx k)=J D.N-1:=List.length_eraseIdx_of_lt aL;let⟨S,R,N,x⟩:=VD.mw h0 f k W (λy i=>by
  rw[E]at i;exact hw y (Ms i)) (λj y m i=>by
  rw[E,List.getElem?_eraseIdx_of_lt m]at i;exact hg j y m i) (by rw[E,o];omega)
 refine⟨S,R.Z (hi2.Z hi),N,?_⟩;rw[E,o,cC2 aL]at x;rw[s,JY,List.countP_cons_of_pos (by simp[<-e2,r]),<-JY];omega};{
 rw[aJ r];let⟨S,R,N,x⟩:=VD.mw h0 f (k+1) X V (λj y m i=>by
  change(D.N.set k gS)[j]?=Y y at i
  rw[vJ]at i;by_cases ej:k=j;{subst ej;rw[aK rfl,aK aL]at i;cases i;exact⟨r,e3⟩};{rw[aJ ej]at i;exact hg j y ae i}) (by show J (List.set _ _ _)<=_;rw[rF];omega)
 refine⟨S,R.Z hi,N,?_⟩;have e5:(D.N.set k gS).drop (k+1)=D.N.drop (k+1):=by rw[List.drop_set_of_lt ae]
 simp only[e5,rF]at x;rw[s,JY,List.countP_cons_of_neg (by simp[<-e2,r]),<-JY];exact x}
theorem aQ7{id:Int}:iS (Dc id ss)=(iS ss).filter λi=>!(i==id):=by
 unfold iS Dc;rw[List.filter_map];rfl
theorem VD.close(h:VD D){id:Int}(V:id≠0):VD (xz D id)/\iS (xz D id).E=(iS D.E).filter (λi=>!(i==id))/\(∀nd∈(xz D id).N,bD6 id nd/\id∉nd.X)/\(xz D id).N.length+JY id D.N=J D.N:=by
 have QK:VD {D with N:=D.N.map (sP id)}:=by
  have ep:qt (D.N.map (sP id))=qt D.N:=by unfold qt;rw[sA];rfl
  refine⟨h.e,h.g,h.x,h.t,h.sl,by show J (List.map _ _)<=_;rw[iH];exact h.nl,h.s1,h.s2,by show List.Pairwise _ (List.map _ (D.N.map (sP id)));rw[sA];exact h.n1,λy r=>?_⟩;obtain⟨z,E,rfl⟩:=fg.1 r;have m:=h.n2 z E;show NV _ _ _ (qt (D.N.map (sP id))) _;rw[ep];exact⟨m.ep,m.vp,m.pb,m.cp,m.va,m.vb,m.ow,m.h1,m.h2,Ma m.w1,λi q=>m.w2 i (Ia.1 q).1,m.lk⟩
 let⟨o,N,B,M⟩:=VD.mw V (J D.N) 0 QK (λy r=>by obtain⟨z,E,rfl⟩:=fg.1 r;exactλhm=>(Ia.1 hm).2 rfl) (λj y hj=>ae) (by show J (List.map _ _)<=_;rw[iH];omega)
 refine⟨?_,(aQ7).Z (by rw[N]),B,?_⟩;{
 refine⟨o.e,o.g,o.x,o.t,fx (Ul _ _) o.sl,o.nl,?_,λs R=>o.s2 s (Kj.1 R).1,o.n1,λy r=>?_⟩;{show List.Pairwise _ (iS (Dc id _));rw[aQ7];exact o.s1.filter _};{
 have m:=o.n2 y r;let⟨⟨Z,X⟩,W⟩:=B y r;have key:∀i,i∈iS (Proofs.YtpkakgkipopiaaaGreatDoor.mw id (J D.N) 0 {D with N:=D.N.map (sP id)}).E->i≠id->i∈iS (Dc id (Proofs.YtpkakgkipopiaaaGreatDoor.mw id (J D.N) 0 {D with N:=D.N.map (sP id)}).E):=λi q aN=>by rw[aQ7];exact Kj.2 ⟨q,by simp[aN]⟩
 exact⟨m.ep,m.vp,m.pb,m.cp,m.va,m.vb,m.ow.imp (λh=>h) (λS=>key _ S Z),m.h1,λi q=>key i (m.h2 i q) (λe=>X (e▸q)),m.w1,λi q=>key i (m.w2 i q) (λe=>W (e▸q)),m.lk⟩}};{
 have e:JY id (List.drop 0 (D.N.map (sP id)))=JY id D.N:=by rw[vG,JY,List.countP_map];rfl
 have u:=M;simp only[iH]at u;rw[e]at u;exact u}
theorem PD.pw(h:(ns.map λnd=>jv nd.A).Pairwise (·<·)):PD ns:=λi j a b o m e=>by
 have key:∀(i j:Nat)(a b:au),ns[i]?=Y a->ns[j]?=Y b->a.A=b.A->¬i<j:=λi j a b o m e s=>by obtain⟨r,rfl⟩:=bu.1 o;obtain⟨q,rfl⟩:=bu.1 m;have:=FO.1 h i j (by simpa using r) (by simpa using q) s;simp only[aU2,e]at this;exact List.lt_irrefl _ this
 have r:=key i j a b o m e;have q:=key j i b a m o e.C;omega
theorem bt5(hd:PD ns):pI ns l=dY↔CP (qt ns) l:=by
 unfold pI CP;by_cases h:l=[47];{simp[h]};{
 rw[aJ h];constructor;{
 intro hc;cases hn:kU ns l with
 |none=>rw[hn]at hc;cases hc
 |some m=>
  rw[hn]at hc;have q:m.A=l:=by simpa using XD hn
  exact .R (fg.2 ⟨m,an7 hn,by rw[q,show m.D=0 by simpa using hc]⟩)};{
 rintro(e|e);{exact absurd e h};{
 let⟨m,hm,o⟩:=fg.1 e;simp only[jk]at o;cases hn:kU ns l with
 |none=>exact absurd (Um.1 hn m hm) (by simp[o.1])
 |some n2=>
  have q:n2.A=l:=by simpa using XD hn
  let⟨i,s⟩:=ji.1 hm;let⟨j,r⟩:=ji.1 (an7 hn);have:=hd i j m n2 s r (o.1.Z q.C);subst this;rw[s]at r;cases r;simp[o.2]}}}
theorem cH7(h:l.Pairwise (·<·))(j:i<J l):(i==0||decide (jE l (i-1) 0<jE l i 0)):=by
 cases i with
 |zero=>rfl
 |succ i=>
  have:=FO.1 h i (i+1) ae j ae;simp[iR,bN j,bN (show i<J l by omega),this]
theorem aW3{i:Int}:live ss i=dY↔i∈iS ss:=by
 unfold live iS;simp only[Ur,Ee,fg]
theorem cg6(h:l.Pairwise (·<·))(m:∀i∈l,i∈iS ss):rK ss l:=by
 unfold rK;simp only[lW,xl];intro i j;unfold II;rw[cH7 h j,Bool.and_true,aW3];refine m _ ?_;rw[iR,bN j];exact Ao j
theorem eC5:∀(a b:List UInt8),Op.bytesLess a b=dY↔a<b:=λa b=>by rw[T.aA8];simp
theorem VD.ok(h:VD D):mY D.e D.g D.x D.t D.E D.N:=by
 unfold mY;simp only[gI,lx,lW,xl];refine⟨⟨h.e.2,h.g.2,h.x.2,h.t.1,h.t.2,h.sl,h.nl⟩,λi o=>?_,λi o=>?_⟩;{
 have q:=h.s2 _ (Ao o);have r:=cH7 h.s1 (i:=i) (by unfold iS;simpa using o);have e:∀j,(jE D.E j (0,0,[])).1=jE (iS D.E) j 0:=λj=>by unfold iS;rw[iR,iR,qI];cases D.E[j]?<;>rfl
 have s:jE D.E i (0,0,[])=D.E[i]:=by rw[iR,bN o];rfl
 rw[<-e,<-e]at r;unfold xG;rw[r,s];simp only[gI,lx,xm];exact⟨q.1.1,q.1.2,q.2.1.1,q.2.1.2,q.2.2.1⟩};{
 have m:=h.n2 _ (Ao o);unfold vD;simp only[iR,bN o,ta,gI,lx,PG];refine⟨⟨m.vp,?_⟩,(bt5 (PD.pw h.n1)).2 m.cp,m.va,?_,cg6 m.h1 m.h2,cg6 m.w1 m.w2,m.lk⟩;{
 cases i with
 |zero=>exact .L rfl
 |succ i=>
  refine .R ?_;have:=FO.1 h.n1 i (i+1) cg (by simpa using o) ae;simp only[aU2]at this;simp only[Kn,bN (show i<J D.N by omega),ta];rw[J7,eC5,Cv,Cv];exact this};{obtain e|e:=m.ow;{exact .L (by simp[e])};{exact .R (aW3.2 e)}}}
theorem VD.of(h:mY e g x t ss ns)(hF:zI ss ns)(g0:0<=g)(y:0<=x)(hq:∀s∈ss,∀ev∈s.2.2,aA ev.2)(hv:∀nd∈ns,aA nd.V)(e0:0<=e)(hE:∀nd∈ns,0<=nd.P):VD ⟨e,g,x,t,ss,ns⟩:=by
 have u:=h;unfold mY at u;simp only[gI,lx]at u;obtain⟨⟨l1,l2,l3,l4,Z,X,W⟩,a1,a2⟩:=u;refine⟨⟨e0,l1⟩,⟨g0,l2⟩,⟨y,l3⟩,⟨l4,Z⟩,X,W,by unfold iS;rw[BO];exact hF.s1,λs m=>?_,hF.n1,λnd q=>?_⟩;{let⟨i,o⟩:=ji.1 m;have:=lW.1 a1 i (by simpa using(bu.1 o).1);unfold xG at this;rw[iR,o]at this;simp only[ta,gI,lx]at this;exact⟨⟨this.1,this.2.1⟩,⟨this.2.2.2.1,this.2.2.2.2.1⟩,this.2.2.2.2.2,hq s m⟩};{let⟨i,o⟩:=ji.1 q;let⟨f1,f2,f3,f4,f5,f6,f7⟩:=hF.n2 nd q;have B:=(bu.1 o).1;have:=lW.1 a2 i (by simpa using B);unfold vD at this;simp only[iR,o,ta,gI,lx,PG]at this;obtain⟨⟨V,-⟩,S,R,N,M,E,D⟩:=this;refine⟨hE nd q,V,f1,(bt5 (PD.pw hF.n1)).1 S,R,hv nd q,N.imp (λe=>by simpa using e) aW3.1,f6,λj r=>?_,f7,λj r=>?_,D⟩;{let⟨s,m,e⟩:=aq0 M j r;exact fg.2 ⟨s,m,e⟩};{let⟨s,m,e⟩:=aq0 E j r;exact fg.2 ⟨s,m,e⟩}}
theorem dj2(h:¬mZ ss S<0):S∈iS ss:=by
 unfold mZ at h;cases hf:ss.findIdx? (λs=>s.1==S)with
 |none=>rw[hf]at h;simp at h
 |some k=>
  obtain⟨j,i,-⟩:=Mu.1 hf;exact fg.2 ⟨_,Ao j,by simpa using i⟩
theorem NV.dA{j i:Int}{C:List (LI×Int)}(h:NV e g iI C nd)(he:e<=j)(m:g<=i):NV j i iI C nd:=by
 refine⟨h.ep,h.vp,h.pb,h.cp,h.va,h.vb,h.ow,h.h1,h.h2,h.w1,h.w2,?_⟩;have:=h.lk;unfold qx at this⊢;split;{rename_i hm;rw[aK hm]at this;simp only[gI,lx]at this⊢;exact⟨this.1,this.2.1,ae,ae⟩};{rename_i hm;rwa [aJ hm]at this}
theorem NV.ids{o:LI}{C:List (LI×Int)}(h:NV e g iI C nd)(j:∀i∈iI,i∈o):NV e g o C nd:=
 ⟨h.ep,h.vp,h.pb,h.cp,h.va,h.vb,h.ow.imp (λh=>h) (j _),h.h1,λi m=>j i (h.h2 i m),h.w1,λi m=>j i (h.w2 i m),h.lk⟩
theorem VD.create(h:VD D)(N:vp P)(B:aA P)(W:J V<=40)(Z:aA V)(X:S∈iS D.E):VD (DL D P V S F).1:=by
 unfold DL;split;{exact h};{
 rename_i h1;split;{exact h};{
 rename_i h2;split;{exact h};{
 rename_i h3;have E:kU D.N P=dN:=by simpa using h1
 have hc:pI D.N (im P):=by simpa using h2
 have r:=(bt5 (PD.pw h.n1)).1 hc;have hm:∀z∈qt D.N,z∈qt (qJ (qU P V (if F=1 then S else 0)) D.N):=λz M=>by obtain⟨y,m,rfl⟩:=fg.1 M;exact fg.2 ⟨y,Yd.2 (.R m),rfl⟩
 have s:∀l,CP (qt D.N) l->CP (qt (qJ (qU P V (if F=1 then S else 0)) D.N)) l:=λl R=>R.imp (λh=>h) (hm _);refine⟨h.e,h.g,h.x,h.t,h.sl,by show J (qJ _ _)<=_;rw[aZ5];omega,h.s1,h.s2,aZ4 h.n1 (λy m e=>?_),λy m=>?_⟩;{have:=Um.1 E y m;exact this (by simpa using cF8 (h.n2 y m).pb B e)};{obtain rfl|m:=Yd.1 m;{refine⟨tQ _,N,B,s _ r,W,Z,?_,List.Pairwise.nil,λi q=>by simp[qU]at q,List.Pairwise.nil,λi q=>by simp[qU]at q,rfl⟩;show(if F=1 then S else 0)=0\/_;split;{exact .R X};{exact .L rfl}};{have j:=h.n2 y m;exact⟨j.ep,j.vp,j.pb,s _ j.cp,j.va,j.vb,j.ow,j.h1,j.h2,j.w1,j.w2,j.lk⟩}}}}}
theorem VD.lock(h:VD D)(k:Nat){s:Int}(u:Int)(m:s∈iS D.E):VD (yF D k s u).1:=by
 unfold yF;cases hk:D.N[k]? with
 |none=>exact h
 |some nd=>
  have hn:=h.n2 nd (bq hk);simp only;split;{exact h};{split;{split;{exact h};{rename_i m1;refine h.qT hk rfl rfl ⟨hn.ep,hn.vp,hn.pb,hn.cp,hn.va,hn.vb,hn.ow,WB hn.h1,λi j=>?_,hn.w1,hn.w2,?_⟩;{obtain rfl|j:=Ts.1 j;{exact m};{exact hn.h2 i j}};{obtain⟨q,o,-⟩:=aW2 hn.lk m1;show qx D.e D.g 2 (J (lY nd.y s)) nd.P nd.F=dY;have:1<=J (lY nd.y s):=ca4 (Ts.2 (.L rfl));simp[qx,q,o,this]}}};{split;{exact h};{split;{exact h};{rename_i hg;have r:VD {D with g:=D.g+1}:=⟨h.e,⟨by have:=h.g;show 0<=D.g+1;omega,by show D.g+1<=_;omega⟩,h.x,h.t,h.sl,h.nl,h.s1,h.s2,h.n1,λy hy=>(h.n2 y hy).dA (tQ _) (by show D.g<=D.g+1;omega)⟩;refine VD.qT r (nd':={nd with M:=1,y:=[s],P:=D.e,F:=D.g+1}) hk rfl rfl ⟨h.e.1,hn.vp,hn.pb,hn.cp,hn.va,hn.vb,hn.ow,ai,λi j=>?_,hn.w1,hn.w2,?_⟩;{simp at j;rw[j];exact m};{have:=h.g;show qx D.e (D.g+1) 1 1 D.e (D.g+1)=dY;simp[qx];omega}}}}}
theorem VD.node(h:VD D)(k:Nat)(r:K=7->J V<=40)(u:aA V)(q:K=5\/K=7\/K=8\/K=9)(j:S∈iS D.E\/K=6):VD (Db D k K S F V).1:=by
 unfold Db;cases hk:D.N[k]? with
 |none=>exact h
 |some nd=>
  have hn:=h.n2 nd (bq hk);simp only;split;{
 split;{exact h};{
 split;{exact h};{
 rename_i i _;have i:tS D.N nd.A=[]:=by simpa using i
 obtain⟨uR,s,-⟩:=aJ5 hk 2;have o:=h.tell k (kd:=2) aX aX;rw[s]at o⊢;refine VD.rm o (nd:={nd with X:=[]}) (uM hk _) (.R λz m e=>?_);rw[show qt ({D with E:=uR,N:=D.N.set k {nd with X:=[]}}:SD).N=qt D.N from bU7 hk rfl rfl]at m;obtain⟨y,hy,rfl⟩:=fg.1 m;unfold tS at i;rw[List.map_eq_nil_iff,bZ8]at i;exact i y hy (by simpa using e)}}};{split;{exact h};{rename_i n6;have j:=j.resolve_right n6;split;{split;{exact h};{rename_i h7 _;exact VD.tell (D:={D with N:=D.N.set k {nd with V:=V}}) (h.qT hk rfl rfl ⟨hn.ep,hn.vp,hn.pb,hn.cp,r h7,u,hn.ow,hn.h1,hn.h2,hn.w1,hn.w2,hn.lk⟩) k aX aX}};{split;{exact h.lock k F j};{split;{split;{exact h.drop k S};{exact h}};{exact absurd q ae}}}}}
theorem VD.apply(h:VD D)(hB:aA P)(M:aA V)(o:K=1\/K=3\/K=4\/K=5\/K=7\/K=8\/K=9):VD (lM D K S F E iG P V).1:=by
 unfold lM;split;{exact h};{
 rename_i hf;split;{
 unfold xJ;split;{exact h};{
 split;{exact h};{
 rename_i h1 h2;have hx:=h.x;have ht:=h.t;have B:iS (D.E++[(D.x+1,D.t+10,[])])=iS D.E++[D.x+1]:=by simp[iS]
 refine⟨h.e,h.g,⟨by show 0<=D.x+1;omega,by show D.x+1<=_;omega⟩,h.t,by show J (D.E++[_])<=_;simp;omega,h.nl,?_,λs j=>?_,h.n1,λy N=>?_⟩;{show List.Pairwise _ (iS (D.E++[_]));rw[B,aS0];refine⟨h.s1,ai,λa Z c hc=>?_⟩;simp at hc;obtain⟨s,j,rfl⟩:=fg.1 Z;have:=(h.s2 s j).1.2;omega};{obtain j|j:=jg.1 j;{have q:=h.s2 s j;exact⟨⟨q.1.1,by have:=q.1.2;show s.1<=D.x+1;omega⟩,q.2⟩};{simp at j;rw[j];exact⟨⟨by show 1<=D.x+1;omega,by show D.x+1<=D.x+1;omega⟩,⟨by show 0<=D.t+10;omega,by show D.t+10<=_;omega⟩,rfl,λe he=>by simp at he⟩}};{show NV _ _ (iS (D.E++[_])) _ y;rw[B];exact(h.n2 y N).ids λi W=>Ux _ W}}}};{
 rename_i n1;split;{exact h};{
 rename_i j;have m:Et K->S∈iS D.E:=λX=>dj2 (by intro R;simp[X,R]at j);split;{exact absurd o ae};{
 split;{rename_i n2 h3;have:S∈iS D.E:=m (by rw[h3];rfl);obtain⟨s,hm,rfl⟩:=fg.1 this;exact(h.close (aM (h.s2 s hm).1.1)).1};{
 split;{exact absurd o ae};{
 rename_i n2 n3 n12;have r:K=4\/K=7->J V<=40:=λhK=>by obtain rfl|rfl:=hK<;>· simp[Cq,oF,Bf,rowOf]at hf;omega
 unfold CM;split;{exact h};{rename_i hp;split;{rename_i h4;rw[aj4 ae]at hp;exact h.create (by simpa using hp) hB (r (.L h4)) M (m (by rw[h4];rfl))};{split;{exact h};{split;{exact h};{split;{exact h};{rename_i n4 n10 _ n13;refine h.node _ (λe=>r (.R e)) M ae ?_;by_cases u:K=6;{exact .R u};{exact .L (m (by simp[Et,n1,u,n13]))}}}}}}}}}}}}
theorem VD.wf(h:VD D):WF D:=by
 have q:∀(l:LI),l.Pairwise (·<·)->(∀i∈l,i∈iS D.E)->J l<=50:=λl r hm=>by have:=XU l (iS D.E) (r.imp (λs e=>ae)) hm;have:=h.sl;unfold iS at*;rw[iH]at*;omega
 refine⟨h.g,h.x,h.t,λm o=>?_,λm o=>?_,λm o=>?_,λm o hm e=>?_,PD.pw h.n1⟩
 all_goals have j:=h.n2 m o
 {exact⟨fx (JR j.vp) aX,fx (q _ j.w1 j.w2) aX,fx (q _ j.h1 j.h2) aX⟩};{exact⟨j.vp,j.pb,fx (JR j.vp) aX⟩};{exact fx j.va aX};{have:=ao7 j.lk hm;rw[e]at this;cases this}
theorem VD.ids(h:VD D)(j:l.Pairwise (·<·))(hm:∀i∈l,i∈iS D.E):J l<=50:=by
 have:=XU l (iS D.E) (j.imp (λm e=>ae)) hm;have:=h.sl;unfold iS at*;rw[iH]at*;omega
theorem SV.q(h:SV x s):J s.2.2<=8/\∀e∈s.2.2,aA e.2/\J e.2<=136:=by
 have q:=h.2.2.1;unfold xI at q;simp only[gI,lx,lW,xl]at q;refine⟨q.1,λe he=>⟨h.2.2.2 e he,?_⟩⟩;let⟨i,m⟩:=ji.1 he;have j:=q.2 i (bu.1 m).1;rw[iR,m,ta]at j;unfold oG at j;split at j;{simp only[gI,Ee]at j;omega};{simp only[gI]at j;exact JR j.2.2}
open Go.Deep
theorem VD.idr(h:VD D){i:Int}(m:i∈iS D.E):1<=i/\i<=2^62:=by
 obtain⟨s,j,rfl⟩:=fg.1 m;have o:=(h.s2 s j).1;have q:=h.x;exact⟨o.1,ae⟩
theorem VD.gy(h:VD D):Bs D.E:=λs j=>by
 let⟨m,i⟩:=(h.s2 s j).q;exact⟨ae,λe he=>⟨(i e he).1,aM (i e he).2⟩⟩
theorem VD.cW(h:VD D):Bn D.N:=λj m=>by
 have i:=h.n2 j m;have s:=JR i.vp;have r:=i.va;have q:=h.ids i.h1 i.h2;have o:=h.ids i.w1 i.w2;exact⟨i.pb,ae,ae,ae,ae⟩
theorem VD.mU(h:VD D):Bu D.N:=λm o=>
 ⟨λi j=>aM (h.idr ((h.n2 m o).h2 i j)),λi j=>aM (h.idr ((h.n2 m o).w2 i j))⟩
theorem VD.tp(h:VD D):Bo D.N:=λi j=>by
 obtain e|e:=(h.n2 i j).ow;{omega};{have:=h.idr e;omega}
theorem VD.ap(h:VD D)(K S F E iG:Int)(P V:LI):AP D.e D.g D.x D.t D.E D.N K S F E iG P V=lM D K S F E iG P V:=by
 unfold AP;rw[aK h.ok]
theorem TB.df9(h:TB w v l):∃p c,v=.S p (J l) c:=by
 obtain⟨p,c,e,-⟩:=h.1;exact⟨p,c,e⟩
theorem dd7(hd:VD D){q:OA}{m:Nat}(i:Le D.E n)(j:Le D.N m)(eP:Le P np)(X:Le V nv)(h:mX w (.S p n c) D.E)(N:iy w (.S q m d) D.N)(M:Rd w (.S pp np cp) P)(B:Rd w (.S pq nv cv) V)(u:np<=2^20)(s:nv<=2^20)(W:np<=cp)(o:cp<=maxLen)(bP:aA P){R:SD×RP}(y:K=1\/K=3\/K=4\/K=5\/K=7\/K=8\/K=9)(Z:O (lM D K S F E iG P V=R)):dQ dG 34 #[bS D.e D.g D.x D.t (.S p n c) (.S q m d),rD K S (.S pp np cp) F (.S pq nv cv) E iG] w λr w'=>QR (U (Q w)) w w' r R.1 R.2:=by
 have hn:n<=50:=aa i▸hd.sl;have hm:m<=200:=aa j▸hd.nl;exact de1 i j eP X h N M B ae ae u s W o hd.gy hd.cW (af λ_=>hd.wf) bP y (by show _=_;rw[hd.ap];exact aa Z)
theorem nG.D8{p q:OA}{m:Nat}(h:nG B w p n c q m d ss ns):mJ w (.S p n c) ss/\iy w (.S q m d) ns:=by
 obtain⟨r,o,j,i,-⟩:=h;exact⟨j,i⟩
def VR(r:R1):Prop:=aA r.2/\J r.2<=1000/\0<=r.1/\r.1<2^64
theorem do2(i:aA l){r:R1}(h:ng l=r):VR r:=by
 obtain⟨s,b⟩:=r;obtain⟨u,q,-,m,o,-⟩:=T9 i h;have j:=FL (i.sub 2 10) (by simp[sub];omega);refine⟨?_,q,?_,?_⟩;{show aA b;rw[o];exact i.sub _ _};{show 0<=s;rw[m];exact j.1};{show s<_;rw[m];exact j.2}
theorem bH7:∀(f:Nat){l:LI},aA l->∀r:R1,Y r∈yl f l->VR r
 |0,l,hB,r,h=>by simp[yl]at h
 | f+1,l,hB,r,h=>by
  cases hr:ng l with
  |none=>rw[Ww hr]at h;simp at h
  |some x=>
   rw[JQ hr]at h;obtain h|h:=gv.1 h;{cases h;exact do2 hB hr};{exact bH7 f (hB.drop _) r h}
theorem cv2:∀(t:Option Int)(L:List (Option R1))(r:R1),r∈qd t L->Y r∈L
 |_,[],r,h=>by simp[qd]at h
 |_,dN::_,r,h=>by simp[qd]at h
 |t,Y x::L,r,h=>by rw[qd]at h;split at h;{obtain h|h:=gv.1 h;{rw[h];simp};{exact List.mem_cons_of_mem _ (cv2 _ L r h)}};{simp at h}
theorem aj5(i:aA l):∀r∈rl l,VR r:=λr h=>bH7 _ i r (cv2 _ _ r h)
abbrev Rq:=Nat×Nat×Nat×LI×LI
theorem oQ.jo{s:Nat}(h:oQ l k s P f V):(k:Int)=1\/(k:Int)=3\/(k:Int)=4\/(k:Int)=5\/(k:Int)=7\/(k:Int)=8\/(k:Int)=9:=by
 obtain⟨m,j,-,-,-,i,-⟩:=h;obtain rfl|rfl|rfl|rfl|rfl|rfl|rfl|rfl|rfl|rfl|rfl|rfl|rfl:=kinds m j<;>first|omega|cases i
def sV(l:LI):Option Rq->Prop
 |none=>∀K S P F V,¬oQ l K S P F V
 |some o=>oQ l o.1 o.2.1 o.2.2.2.1 o.2.2.1 o.2.2.2.2
theorem er5:∃i:LI->Option Rq,∀l,sV l (i l):=by
 refine Classical.axiomOfChoice (r:=λl o=>sV l o) λl=>?_;by_cases h:∃K S P F V,oQ l K S P F V;{obtain⟨K,S,P,F,V,h⟩:=h;exact⟨Y (K,S,F,P,V),h⟩};{exact⟨dN,λK S P F V j=>h ⟨K,S,P,F,V,j⟩⟩}
theorem oQ.byt{K S F:Nat}(h:oQ l K S P F V)(j:aA l):aA P/\aA V:=by
 obtain⟨_,_,_,_,_,_,e⟩:=h;rw[e,jr,tx,tx]at j;exact⟨λz i=>j z (by simp[i]),λz i=>j z (by simp[i])⟩
abbrev Sg(D:SD)(o:Rq):SD×RP:=lM D o.1 o.2.1 o.2.2.1 0 0 o.2.2.2.1 o.2.2.2.2
def yx(dop:LI->Option Rq)(D:SD)(q:Int)(r:R1):Option (SD×Int):=
 if r.1<=q then Y (D,q)
 else if r.1≠q+1\/4611686018427387904<r.1 then dN
 else match dop r.2 with
  |none=>dN
  |some o=>if(Sg D o).2.k=0 then Y ((Sg D o).1,r.1)else dN
def rC(dop:LI->Option Rq):SD->Int->List R1->SD×Int
 |D,q,[]=>(D,q)
 |D,q,r::rs=>match yx dop D q r with
  |none=>(D,q)
  |some x=>rC dop x.1 x.2 rs
theorem TL{dop:LI->Option Rq}{q:Int}{r:R1}(hr:rs[j]?=r)(h:yx dop D q r=dN):rC dop D q (jD j rs)=(D,q):=by
 let⟨i,e⟩:=bu.1 hr;rw[Mm i,e,rC,h]
theorem aj1{dop:LI->Option Rq}{q:Int}{r:R1}{x:SD×Int}(hr:rs[j]?=r)(h:yx dop D q r=x):rC dop D q (jD j rs)=rC dop x.1 x.2 (jD (j+1) rs):=by
 let⟨i,e⟩:=bu.1 hr;rw[Mm i,e,rC,h]
theorem bR4{dop:LI->Option Rq}{q:Int}:rC dop D q (jD (J rs) rs)=(D,q):=by rw[List.drop_length];rfl
def GQ(D:SD)(q:Int):Prop:=VD D/\0<=q/\q<=2^62
theorem aK5{dop:LI->Option Rq}(hd:∀l,sV l (dop l)){q:Int}{r:R1}(h:GQ D q)(hr:VR r){x:SD×Int}(e:yx dop D q r=x):GQ x.1 x.2:=by
 rw[yx]at e;split at e;{cases e;exact h};{
 split at e;{cases e};{
 next h1 h2=>
 rw[Iu]at h2;have i:=hd r.2;split at e;{cases e};{
 next o ho=>
 rw[ho]at i;split at e;{cases e;let⟨m,j⟩:=oQ.byt i hr.1;exact⟨h.1.apply m j i.jo,hr.2.2.1,ae⟩};{cases e}}}}
theorem aj2{dop:LI->Option Rq}(hd:∀l,sV l (dop l)):∀(rs:List R1){D:SD}{q:Int},GQ D q->(∀r∈rs,VR r)->GQ (rC dop D q rs).1 (rC dop D q rs).2
 |[],D,q,h,_=>h
 |r::rs,D,q,h,hr=>by
  rw[rC];cases e:yx dop D q r with
  |none=>exact h
  |some x=>exact aj2 hd rs (aK5 hd h (hr r ai) e) (λi j=>hr i (by simp[j]))
def mQ(l:LI):Option (SD×Int):=
 if J l=0 then Y (⟨0,0,0,0,[],[]⟩,0)
 else if J l<20 then dN
 else if iM (num (sub l 4 12)) (sub l 16 (J l-4))=l then
  if 4611686018427387904<num (sub l 4 12)then dN
  else(kI (sub l 16 (J l-4))).map λr=>(⟨r.1.1,r.1.2.1,r.1.2.2,0,r.2.1,r.2.2⟩,num (sub l 4 12))
 else dN
theorem VD.zero:VD ⟨0,0,0,0,[],[]⟩:=⟨by decide,by decide,by decide,by decide,by decide,by decide,List.Pairwise.nil,(λs h=>by cases h),List.Pairwise.nil,(λs h=>by cases h)⟩
theorem de4(W:aA l)(hl:Mg (J l)){r:(Int×Int×Int)×List aC×List au}(h:kI l=r):VD ⟨r.1.1,r.1.2.1,r.1.2.2,0,r.2.1,r.2.2⟩:=by
 rw[kI]at h;cases hr:BJ l with
 |none=>rw[hr]at h;cases h
 |some s=>
  rw[hr,Am]at h;split at h;{
 next hc=>
 obtain⟨⟨e,g,x⟩,D,V,o⟩:=s;simp only[nJ]at h hc;subst h;obtain⟨-,y,-⟩:=hc;rw[BJ]at hr;simp only at hr;have S:=ik.start (n:=J l) (l:=l) rfl;have R:=vz rfl S;have N:=vz rfl R;have M:=vz rfl N;have E:=vz rfl M;split at hr;{cases hr};{
 let⟨u1,u2⟩:=aP1 oV Hh (ik (J l) l) (λs m=>⟨xh,vz rfl m⟩) (oV (oV (oV (oV l).2).2).2).1.toNat _ E;split at hr;{cases hr};{
 rw[IE]at hr;obtain⟨⟨r1,r2⟩,X,u⟩:=hr;obtain⟨B,-,-⟩:=ah8 rfl W hl _ (vz rfl u2) X;simp only[jk]at u;obtain⟨⟨e1,e2,e3⟩,e4,Z,-⟩:=u;have m:∀s∈D,s.2.2=[]:=λs m=>by rw[<-e4]at m;obtain⟨i,-,rfl⟩:=fg.1 m;rfl
 have q:∀j∈V,Oi j:=λj aG=>B j (Z▸aG);refine VD.of y (Rm y (λs h=>by rw[m s h];exact⟨cT _,λe he=>by cases he⟩) (λj h=>⟨(q j h).by0,(q j h).l0,(q j h).l1,(q j h).l4,by rw[(q j h).l7];exact cT _⟩)) ?_ ?_ (λs h ev he=>by rw[m s h]at he;cases he) (λj h=>(q j h).by1) ?_ (λj h=>(q j h).ep.1);{rw[<-e2];exact xh.1};{rw[<-e3];exact xh.1};{rw[<-e1];exact xh.1}}}};{cases h}
theorem aL7(i:aA l)(hl:Mg (J l)){x:SD×Int}(h:mQ l=x):GQ x.1 x.2:=by
 rw[mQ]at h;split at h;{cases h;exact⟨VD.zero,aX,aX⟩};{
 split at h;{cases h};{
 split at h;{
 split at h;{cases h};{
 next h1 h2 h3 h4=>
 rw[IE]at h;obtain⟨r,j,rfl⟩:=h;exact⟨de4 (i.sub _ _) (by simp[sub];omega) j,(FL (i.sub 4 12) (by simp[sub];omega)).1,ae⟩}};{cases h}}}
theorem lQ.W(h:lQ w R m n sh)(q:∀b,b<=R->w'.heap[b]?=w.heap[b]?):lQ w' R m n sh:=by
 obtain⟨E,D,p,c,⟨B,y⟩,j,x⟩:=h;have e:=gF (q R az);refine⟨E,λo=>(Dj (q R az)).Z (D o),p,c,⟨(e 0).Z B,(e 1).Z y⟩,?_,x⟩;obtain j|⟨b,o,u,r,j⟩:=j;{exact .L j};{exact .R ⟨b,o,u,r,λi s=>(gF (q b ae) _).Z (j i s)⟩}
theorem lQ.H(h:lQ w R m n sh)(j:Below B w w')(o:R<B):lQ w' R m n sh:=h.W λb i=>j.block b (by omega)
theorem Kept.Sa(h:Kept [blk R] w w')(j:b<U (Q w))(m:b≠R):w'.heap[b]?=w.heap[b]?:=h.block b j λv i e=>by
 simp only[td]at i;subst i;simp[jB]at e;exact m e.C
theorem nW.ku(h:nW B w v l)(r:Kept [blk R] w w')(u:R<B):nW B w' v l:=by
 refine⟨h.1,?_⟩;obtain q|⟨g,m,j,rfl,s,o,i⟩:=h.2;{exact .L q};{exact .R ⟨g,m,j,rfl,s,(r.Sa (Ke.1 o).1 ae).Z o,i⟩}
theorem OwnT.ku{α:Type}{i:G->α->List dV->List Lf->Prop}{xs:List α}(h:OwnT i ty sz B w v xs Ls)(r:∀w w' x c l,i w x c l->(∀a∈l,w'.heap[a.b]?=w.heap[a.b]?)->i w' x c l)(j:Kept [blk R] w w')(s:R<B):OwnT i ty sz B w' v xs Ls:=
 h.W (r _ _) j.size (λb m=>j.Sa (h.lt.1 b m).2 (aM (h.lt.1 b m).1)) (λa o=>j.Sa (h.lt.2 a o).2 (aM (h.lt.2 a o).1))
theorem OwnT.eD9{α:Type}{m:G->α->List dV->List Lf->Prop}{xs:List α}{x:α}{c:List dV}{l:List Lf}(h:OwnT m ty sz B V3 v xs Ls)(bD:∀w w' x c l,m w x c l->(∀a∈l,w'.heap[a.b]?=w.heap[a.b]?)->m w' x c l)(s:m V3 x c l)(hc:J c=sz)(E:je M V3 l)(D:B<=M)(y:∀a∈jL Ls,a.b<M)(q:∀b,jB v=Y b->b<M):∃row,V3.ownsRow B ty sz v (J xs) row/\∀j o,o.ownsRow B ty sz j (J xs+1) (row++c)->jG V3 o (jB v)->(∀g,jB j=Y g->jB v=Y g\/U (Q V3)<=g)→
   OwnT m ty sz B o j (xs++[x]) (Ls++[l])/\∃p r,j=.S p (J xs+1) r:=by
 obtain⟨cs,g1,g2,g3,Z,X,W,V⟩:=h;refine⟨jL cs,Z,λj o R u N=>?_⟩;have sn:=OwnT.snoc g1 g2 g3 X W V bD s hc E D y q R u N;refine⟨sn,?_⟩;obtain⟨p,r,e,-⟩:=sn.read;rw[eG]at e;exact⟨p,r,e⟩
theorem PB.ku(h:PB w M N v xs A)(j:Kept [blk R] w w')(m:R<M):PB w' M N v xs A:=
 have k:∀a∈A,w'.heap[a.b]?=w.heap[a.b]?:=λa i=>j.Sa (h.ap.oy.lt i) (aM (h.ap.lo a i))
 ⟨h.rd.ox h.lv k,h.cap,h.lv,h.ap.W k,h.hi⟩
theorem PU.ku(h:PU w M N v xs A)(j:Kept [blk R] w w')(m:R<M):PU w' M N v xs A:=
 have k:∀a∈A,w'.heap[a.b]?=w.heap[a.b]?:=λa i=>j.Sa (h.ap.oy.lt i) (aM (h.ap.lo a i))
 ⟨h.rd.ox h.lv k,h.lv,h.ap.W k,h.hi⟩
theorem aO.ku(h:aO w b vs)(j:Kept [blk R] w w')(m:b<U (Q w))(q:b≠R):aO w' b vs:=
 ⟨λi v r=>(gF (j.Sa m q) _).Z (h.1 i v r),λo=>(Dj (j.Sa m q)).Z (h.2 o)⟩
theorem Kept.ct9{j:G}(h:Kept [blk R] w w1)(i:jG w1 j row)(hr:∀k,row=Y k->U (Q w)<=k):Kept [blk R] w j:=
 ⟨i.os.Z h.os,i.tape.Z h.tape,i.output.Z h.output,fx h.size i.size,λk m o=>(i.block k (mj m h.size) (λe=>aM (hr k e.C))).Z (h.block k m o)⟩
theorem Kept.qT(h:Kept [blk R] w w1){a:Addr}(ha:U (Q w)<=a.block)(v:dV):Kept [blk R] w (w1.setCell a v):=
 h.ct9 (iF w1 a v) λk e=>by cases e;exact ha
theorem dh0(h:lQ w R m n sh)(V:R<U (Q w))(s:aA m)(hl:Mg n)(e:O (gu (m,sh)=(x,m',sh'))):dQ dG 133 #[Pz R] w λe w'=>e=dR (jP #[.U x,.I 0,aq])/\lQ w' R m' (J m') sh'/\Kept [blk R] w w':=by
 let⟨W,i⟩:=aF (jA w (dO #[.U 0,.I 0,aq] 65));have B:=ij i;have u:aO W (U (Q w)) [.U 0,.I 0,aq]:=by rw[i];exact aO.alloc w #[.U 0,.I 0,aq] _
 have Z:U (Q W)=U (Q w)+1:=by rw[i];simp
 go_in
 go_wp21
 rw[<-i];clear i;refine(FG (h.H B V) s hl e).h ?_;rintro r w1⟨rfl,q,j⟩;have o:=u.ku j ae ae;have X:=af ((Kept.J3 (vs:=[blk R]) B).Z j);have E:=af q;let⟨S,N,M⟩:=cI6 o.1;have rf:=o.2;clear u j q o h;go_wp2;refine bO (v:=jP #[.U x,.I 0,aq]) (by simp[results,results133,go_sem,S,N,M]) rfl ⟨rfl,?_,?_⟩;{exact E.W λb s=>by iterate 3 rw[fN _ _ _ _ cg]}
 {exact((X.qT ai _).qT ai _).qT ai _}
variable {s:Rs}
theorem dD1{α:Type}{f:Rs->α×Rs}{r:List α×Rs}{t:Rs}(e:O (lF f s=r))(i:O (gu s=((X:Int),t))):O (uX f X [] t=r):=by
  have:=aa e;rw[lF,aa i]at this;exact this
theorem dB7{α:Type}{f:Rs->α×Rs}{acc:List α}{r:List α×Rs}(e:O (uX f k acc s=r)):∃d m3 s3,O (f s=(d,m3,s3)):=⟨_,_,_,(by show _=_;rfl)⟩
theorem dB5{α:Type}{f:Rs->α×Rs}{acc xs:List α}{d:α}(e:O (uX f (X-i) acc s=(xs,m',sh')))(m:O (f s=(d,m3,s3)))(h:i<X):(s3->xs=[]/\m'=m3/\sh')/\(s3=dF->O (uX f (X-(i+1)) (acc++[d]) (m3,dF)=(xs,m',sh'))):=by
  have:=aa e;rw[show X-i=X-(i+1)+1 by omega,uX,aa m]at this;refine⟨λj=>?_,λj=>?_⟩;{rw[aK j,j]at this;simp only[jk]at this;exact⟨this.1.C,this.2.1.C,this.2.2.C⟩};{rw[aJ (by rw[j];simp),j]at this;exact this}
theorem dB4{α:Type}{f:Rs->α×Rs}{acc xs:List α}{j:LI}{s2:Bool}(e:O (uX f (X-i) acc (j,s2)=(xs,m',sh')))(h:¬i<X):xs=acc/\m'=j/\sh'=s2:=by
  have:=aa e;rw[show X-i=0 by omega,uX]at this;simp only[jk]at this;exact⟨this.1.C,this.2.1.C,this.2.2.C⟩
def LfI{α:Type}(f:Rs->α×Rs)(s:G->dV->List α->Prop)(X:Nat)(xs:List α)(m':LI)(sh':Bool)(R:Nat)(w:G)(q r:dV)(wr:G):Prop:=∃(i:Nat)(acc:List α)(k:Nat)(j:LI)(o:Bool)(m:Nat)(p:OA)(c:Nat),i<=X/\q=.S p k c/\r=.U i/\k+m<=2^20/\Le acc k/\Le j m/\O (uX f (X-i) acc (j,o)=(xs,m',sh'))/\O (aA j)/\O (lQ wr R j m o)/\O (s wr (.S p k c) acc)/\O (Kept [blk R] w wr)
theorem di5{d:aC}(e:O (Ih s=(d,m3,s3))):∃y,O (gu s=(y,m3,s3))/\O (d=yI y):=by
  have:=aa e;rw[Ih]at this;simp only[jk]at this;exact⟨_,Prod.ext rfl this.2,this.1.C⟩
theorem lfW{q:Prop}(h':q:=by
    let⟨iu,hiu,uz0,uz1,uz2⟩:=og Tryz.infoU64;let⟨is,QD,WO,WN,WM⟩:=og Tryz.infoSes;let⟨iN,hiN,nz0,nz1,nz2⟩:=og Tryz.infoNod;have hmn:J m=n:=h.1;obtain⟨⟨x,m1,s1⟩,e1⟩:∃y,O (gu (m,sh)=y):=⟨_,cO⟩;have ok1:=xH (m,sh) hb (hmn▸hl);rw[aa e1]at ok1;obtain⟨hx,ao,yM,-⟩:=ok1;dsimp only at yM;obtain⟨X,rfl⟩:∃v:Nat,x=(v:Int):=⟨x.toNat,aM hx.1⟩;have hX:(X:Int)<2^64:=hx.2;have e2:=dD1 e e1;have jy:=af ao;clear hx ao;show dQ _ _ _ _ _;go_in
    go_wp21
    refine(FG h hb hl e1).h ?_;rintro r w1⟨rfl,rT,iV⟩;have wG:=af rT;have Tc:=af iV;clear rT iV h;go_wp2
    first
      |(go_loopw[5,9](LfI gu (nW (U w.heap)) X xs m' sh' R w) (λ_ iv _=>X-(intOf iv).toNat))
      |(go_loopw[5,9](LfI Ih (λwr v l=>∃Ls,OwnT qe 65 3 (U w.heap) wr v l Ls) X xs m' sh' R w) (λ_ iv _=>X-(intOf iv).toNat))
      |(go_loopw[5,9](LfI Ag (λwr v l=>∃Ls,OwnT mV 69 8 (U w.heap) wr v l Ls) X xs m' sh' R w) (λ_ iv _=>X-(intOf iv).toNat))
    {exact⟨0,[],0,m1,s1,J m1,dN,0,cT _,rfl,rfl,ae,cO,cO,e2,jy,wG,by first|exact nK _ _ _ _|exact⟨[],OwnT.nil _ _ _ _ _⟩,Tc⟩};{
 clear wG Tc jy e2;obtain⟨i,acc,k,m2,s2,n2,p,c,hi,rfl,rfl,Kz,ek,vZ,e3,ay,iC,km,lI⟩:=hrel;have Au:=lI.size;by_cases aL:i<X;{
 have cM:=bR i X;have wi:IntKind.u64.wrap ((i:Int)+1)=((i+1:Nat):Int):=by rw[uW];omega
 let⟨d,m3,s3,e4⟩:=dB7 e3;have Qw:J m2<=1048576:=by rw[aa vZ];omega
 first
   | (have ok3:=xH (m2,s2) ay Qw
      rw[aa e4]at ok3;obtain⟨-,aE,xt,xU⟩:=ok3)
   | (have ok3:=aM9 (m2,s2) ay Qw
      rw[aa e4]at ok3;obtain⟨-,aE,xt,xU⟩:=ok3)
   | (have ok3:=aN0 (m2,s2) ay Qw
      rw[aa e4]at ok3;obtain⟨-,aE,xt,xU⟩:=ok3)
 clear Qw;dsimp only at xt xU;rw[aa vZ]at xt xU;have qj:=af aE;clear aE;let⟨e6t,e6f⟩:=dB5 e3 e4 aL;have E6T:=af e6t;have E6F:=af e6f;clear e6t e6f
 first
   | (have T1:O (gu (m2,s2)=(d,m3,s3)):=e4
      go_wp21
      refine(FG iC ay ae e4).h ?_;rintro r w3⟨rfl,sH,mc⟩;have wR:=af (lI.Z mc);have uQ:=af sH;have z3:=mc.size;obtain⟨l3,f3,pr,cr,⟨g0,g1⟩,-⟩:=sH;have O3:=af (km.ku mc ae);clear mc)
   | (obtain⟨y,e4n,HD⟩:=di5 e4
      go_wp21
      refine(dh0 iC ae ay ae e4n).h ?_;rintro r w3⟨rfl,sH,mc⟩;have wR:=af (lI.Z mc);have uQ:=af sH;have z3:=mc.size;have IM:lQ (w3.alloc (dO #[.U y,.I 0,aq] 65)) R m3 (J m3) s3:=sH.H (aH.alloc az _) ae;obtain⟨l3,f3,pr,cr,⟨g0,g1⟩,-⟩:=IM;let⟨Ls,Qp⟩:=aa km;have O3:=af (Qp.ku qe.W mc ae);have LY:=af Qp.lt;clear Qp;clear sH mc)
   | (go_wp21
      refine(CN R m2 n2 s2 _ iC ae ay ae d m3 s3 e4).h ?_;rintro r w3⟨pP,NP,cP,pV,NV,cV,ow,mo,pH,NH,cH,ep,ge,Ae,rfl,GN,vk,sH,mc⟩;have EE:=dy GN gQ vk;clear GN vk;have wR:=af (lI.Z mc);have uQ:=af sH;have z3:=mc.size;have IM:lQ (w3.alloc (dO #[.S pP NP cP,.S pV NV cV,.U ow,.I mo,.S pH NH cH,.U ep,.U ge,aq] 69)) R m3 (J m3) s3:=sH.H (aH.alloc az _) ae;obtain⟨l3,f3,pr,cr,⟨g0,g1⟩,-⟩:=IM;let⟨Ls,Qp⟩:=aa km;have O3:=af (Qp.ku mV.W mc ae);have LY:=af Qp.lt;clear Qp;clear sH mc)
 cases s3 with
 | true=>
   clear xU E6F;obtain⟨rfl,rfl,rfl⟩:=aa E6T rfl;obtain rfl:N=0:=eN.C;go_wp2;go_ret
   first
     |exact⟨dN,0,rfl,nK _ _ _ _,uQ,wR⟩
     |exact⟨dN,0,rfl,⟨[],OwnT.nil _ _ _ _ _⟩,uQ.H (aH.alloc az _) ae,wR.alloc _⟩
 | false=>
   have hl5:=xU rfl;have e6:=aa E6F rfl;clear xU E6T E6F;obtain⟨n3,Ns⟩:∃k,Le m3 k:=⟨_,cO⟩;rw[aa Ns]at hl5 xt uQ l3 g0;clear l3 g0
   first
     | (obtain⟨v3,gx⟩:∃V,V=w3.alloc (dO #[.int .u64 d] 24):=⟨_,rfl⟩
        have aE:=ij gx;have rh:∀i u,([.U d]:List dV)[i]?=Y u->I v3 (Ad (U w3.heap) i)=Y u:=gx▸RG;have ru:=af rh;have z4:U v3.heap=U w3.heap+1:=by rw[gx];simp
        have Dx:O (∀b,(Value.slice p k c).ownBlock=Y b->U w.heap<=b):=λb eb=>(O3.lt b eb).1;have Cz:O (v3.ownsRow (U w.heap) 24 1 (.S p k c) k (acc.map (Value.int .u64))):=by have:=O3.H aE;unfold nW at this;rw[aa ek]at this;exact this
        have R4:=af (uQ.H aE ae);have K4:=af (wR.Z (Kept.J3 aE));clear rh;go_wp2_with(at_builtin;rw[<-gx];refine Fu rfl 67 rfl iu 1 underlying67 hiu uz0 uz1 uz2 rfl aX (.S p k c) rfl Cz (U w3.heap) 1 1 [.U d] rfl rfl ru (λu hu=>by simp at hu;subst hu;rfl) kL ae ae ?_);intro v' w9 gC hg AJ;have gR:∀g,v'.ownBlock=Y g->(Value.slice p k c).ownBlock=Y g\/U v3.heap<=g:=λg eg=>by have:=AJ g eg;rw[gx];simpa using this
        rw[<-gx]at hg;have sn:=nW.snoc ek gC;let⟨pN,cN,e9⟩:=sn.form;rw[eG,aa ek]at e9;subst e9;have SN:O (nW (U w.heap) w9 (.S pN (k+1) cN) (acc++[d])):=sn)
     | (obtain⟨v3,gx⟩:∃V,V=(w3.alloc (dO #[.int .u64 y,.int .i64 0,.slice dN 0 0] 65)).alloc (dO #[.int .u64 y,.int .i64 0,.slice dN 0 0] 65):=⟨_,rfl⟩
        have aE:Bw w3 v3:=gx▸(aH.alloc az _).alloc ai _;have rh:∀i u,([.U y,.I 0,aq]:List dV)[i]?=Y u->I v3 (Ad (U w3.heap+1) i)=Y u:=by have e0:U (w3.alloc (dO #[.U y,.I 0,aq] 65)).heap=U w3.heap+1:=ai;rw[gx,<-e0];exact RG
        have ru:=af rh;have z4:U v3.heap=U w3.heap+2:=by rw[gx];simp
        have elx:qe v3 d [.U y,.I 0,aq] []:=aa HD▸qe.id v3 y;have apx:je (U w3.heap) v3 []:=je.nil _ _;let⟨row,vP,vV⟩:=O3.app qe.W aE elx rfl apx ae;have Dx:O (∀b,(Value.slice p k c).ownBlock=Y b->U w.heap<=b):=λb eb=>(O3.lt.1 b eb).1;rw[aa ek]at vP vV;have JI:=af vV;have Cz:=af vP;clear vV vP;have R4:=af (uQ.H aE ae);have K4:=af (wR.Z (Kept.J3 aE));clear rh;go_wp2_with(at_builtin;rw[<-gx];refine Fu rfl 31 rfl is 3 underlying31 QD WO WN WM rfl aX (.S p k c) rfl Cz (U w3.heap+1) 1 1 [.U y,.I 0,aq] rfl rfl ru (λu hu=>by simp at hu;obtain rfl|rfl|rfl:=hu<;>rfl) kL ae ae ?_);intro v' w9 gC hg AJ;have gR:∀g,v'.ownBlock=Y g->(Value.slice p k c).ownBlock=Y g\/U v3.heap<=g:=λg eg=>by have:=AJ g eg;rw[gx];simpa using this
        rw[<-gx]at hg;obtain⟨sn,pN,cN,rfl⟩:=aa JI v' w9 gC hg gR;have SN:O (∃Ls,OwnT qe 65 3 (U w.heap) w9 ((.S pN (k+1) cN)) (acc++[d]) Ls):=⟨_,sn⟩)
     | (obtain⟨v3,gx⟩:∃V,V=(w3.alloc (dO #[.slice pP NP cP,.slice pV NV cV,.int .u64 ow,.int .i64 mo,.slice pH NH cH,.int .u64 ep,.int .u64 ge,.slice dN 0 0] 69)).alloc (dO #[.slice pP NP cP,.slice pV NV cV,.int .u64 ow,.int .i64 mo,.slice pH NH cH,.int .u64 ep,.int .u64 ge,.slice dN 0 0] 69):=⟨_,rfl⟩
        have aE:Bw w3 v3:=gx▸(aH.alloc az _).alloc ai _;have rh:∀i u,([.S pP NP cP,.S pV NV cV,.U ow,.I mo,.S pH NH cH,.U ep,.U ge,aq]:List dV)[i]?=Y u->I v3 (Ad (U w3.heap+1) i)=Y u:=by have e0:U (w3.alloc (dO #[.S pP NP cP,.S pV NV cV,.U ow,.I mo,.S pH NH cH,.U ep,.U ge,aq] 69)).heap=U w3.heap+1:=ai;rw[gx,<-e0];exact RG
        have ru:=af rh;have z4:U v3.heap=U w3.heap+2:=by rw[gx];simp
        have kE:∀a∈Ae,v3.heap[a.b]?=w3.heap[a.b]?:=λa ha=>aE.block _ (EE.2.2.oy.lt ha);have elx:mV v3 d [.S pP NP cP,.S pV NV cV,.U ow,.I mo,.S pH NH cH,.U ep,.U ge,aq] Ae:=mV.W _ _ _ _ _ EE.1 kE;have apx:je (U wr.heap) v3 Ae:=EE.2.2.W kE;let⟨row,vP,vV⟩:=(O3.H mV.W aE).eD9 mV.W elx rfl apx ae (λa ha=>(LY.2 a ha).2) (λb eb=>(LY.1 b eb).2);have Dx:O (∀b,(Value.slice p k c).ownBlock=Y b->U w.heap<=b):=λb eb=>(O3.lt.1 b eb).1;rw[aa ek]at vP vV;have JI:=af vV;have Cz:=af vP;clear vV vP;have R4:=af (uQ.H aE ae);have K4:=af (wR.Z (Kept.J3 aE));clear rh;go_wp2_with(at_builtin;rw[<-gx];refine Fu rfl 32 rfl iN 8 underlying32 hiN nz0 nz1 nz2 rfl aX (.S p k c) rfl Cz (U w3.heap+1) 1 1 [.S pP NP cP,.S pV NV cV,.U ow,.I mo,.S pH NH cH,.U ep,.U ge,aq] rfl rfl ru (λu hu=>by simp at hu;obtain rfl|rfl|rfl|rfl|rfl|rfl|rfl|rfl:=hu<;>rfl) kL ae ae ?_);intro v' w9 gC hg AJ;have gR:∀g,v'.ownBlock=Y g->(Value.slice p k c).ownBlock=Y g\/U v3.heap<=g:=λg eg=>by have:=AJ g eg;rw[gx];simpa using this
        rw[<-gx]at hg;obtain⟨sn,pN,cN,rfl⟩:=aa JI v' w9 gC hg gR;have SN:O (∃Ls,OwnT mV 69 8 (U w.heap) w9 ((.S pN (k+1) cN)) (acc++[d]) Ls):=⟨_,sn⟩)
   have K9:=af (K4.ct9 hg (λb eb=>aa Dx b eb));have R9:=af (R4.W λb hbR=>hg.block b ae (λeb=>aM (aa Dx b eb.C)));have EK:O (J (acc++[d])=k+1):=by show _=_;rw[eG,aa ek];rfl
   clear gC hg gR AJ sn gx aE g1 f3;go_wp2;go_roundw;{exact⟨i+1,acc++[d],k+1,m3,dF,n3,pN,cN,ae,rfl,by go_num,ae,EK,Ns,e6,qj,R9,SN,K9⟩};{simp[intOf];omega}};{have cM:=fG i X;have eiX:X=i:=ae;obtain⟨rfl,rfl,rfl⟩:=dB4 e3 aL;obtain rfl:N=k:=eN.C.Z ek;have R9:O (lQ wr R m' (J m') sh'):=aa vZ▸iC;go_wp2;go_ret;exact⟨p,c,rfl,km,R9,lI⟩}}):q:=h'
theorem dB1(h:lQ w R m n sh)(s:R<U (Q w))(hb:O (aA m))(hl:Mg n)(e:O (lF gu (m,sh)=(xs,m',sh')))(eN:Le xs N):Cp 191 #[Pz R,.func (.func 131) #[Pz R] #[]] w λr w'=>∃j o,r=dR (.S j N o)/\(nW (U (Q w)) w' ((.S j N o)) xs)/\lQ w' R m' (J m') sh'/\Kept [blk R] w w':=lfW
variable {xs:List aC}
theorem dB2(h:lQ w R m n sh)(s:R<U (Q w))(hb:O (aA m))(hl:Mg n)(e:O (lF Ih (m,sh)=(xs,m',sh')))(eN:Le xs N):Cp 132 #[Pz R,.func (.func 133) #[Pz R] #[]] w λr w'=>∃j o,r=dR (.S j N o)/\(∃Ls,OwnT qe 65 3 (U (Q w)) w' ((.S j N o)) xs Ls)/\lQ w' R m' (J m') sh'/\Kept [blk R] w w':=lfW
theorem dw9(R:Nat)(m:LI)(n:Nat)(sh:Bool)(w:G)(h:lQ w R m n sh)(hR:R<U (Q w))(hb:O (aA m))(hl:Mg n)(d:au)(m':LI)(sh':Bool)(e:O (Ag (m,sh)=(d,m',sh'))):dQ dG 135 #[Pz R] w λr w'=>∃(pP:OA)(NP cP:Nat)(pV:OA)(NV cV:Nat)(i j:Int)(pH:OA)(NH cH:Nat)(E q:Int)(Ae:List Lf),r=dR (jP #[.S pP NP cP,.S pV NV cV,.U i,.I j,.S pH NH cH,.U E,.U q,aq])/\mV w' d [.S pP NP cP,.S pV NV cV,.U i,.I j,.S pH NH cH,.U E,.U q,aq] Ae/\je (U (Q w)) w' Ae/\lQ w' R m' (J m') sh'/\Kept [blk R] w w':=by
 have hmn:J m=n:=h.1;obtain⟨⟨P,m1,s1⟩,E1⟩:∃y,O (sT m sh=y):=⟨_,cO⟩;obtain⟨⟨V,m2,s2⟩,E2⟩:∃y,O (sT m1 s1=y):=⟨_,cO⟩;obtain⟨⟨i,m3,s3⟩,E3⟩:∃y,O (gu (m2,s2)=y):=⟨_,cO⟩;obtain⟨⟨j,m4,s4⟩,E4⟩:∃y,O (sB m3 s3=y):=⟨_,cO⟩;obtain⟨⟨H,m5,s5⟩,E5⟩:∃y,O (lF gu (m4,s4)=y):=⟨_,cO⟩;obtain⟨⟨E,m6,s6⟩,E6⟩:∃y,O (gu (m5,s5)=y):=⟨_,cO⟩;obtain⟨⟨q,m7,s7⟩,E7⟩:∃y,O (gu (m6,s6)=y):=⟨_,cO⟩;have ED:O (d=⟨P,V,i,j,H,E,q,[]⟩/\m'=m7/\sh'=s7):=by have:=aa e;rw[Ag]at this;simp only[aa E1,aa E2,aa E3,aa E4,aa E5,aa E6,aa E7,jk]at this;exact⟨this.1.C,this.2.1.C,this.2.2.C⟩
 have k1:=TJ (sh:=sh) hb;rw[aa E1]at k1;obtain⟨-,c1,-,d1⟩:=k1;dsimp only at c1 d1;have k2:=TJ (sh:=s1) c1;rw[aa E2]at k2;obtain⟨-,c2,-,d2⟩:=k2;dsimp only at c2 d2;have k3:=xH (m2,s2) c2 (by dsimp only;omega);rw[aa E3]at k3;obtain⟨-,c3,d3,-⟩:=k3;dsimp only at c3 d3;have k4:=TK (sh:=s3) c3;rw[aa E4]at k4;obtain⟨c4,-,-,d4⟩:=k4;dsimp only at c4 d4;have k5:=Uy xH (s:=(m4,s4)) c4 (by dsimp only;omega);rw[aa E5]at k5;obtain⟨-,c5,d5,-⟩:=k5;dsimp only at c5 d5;have k6:=xH (m5,s5) c5 (by dsimp only;omega);rw[aa E6]at k6;obtain⟨-,c6,d6,-⟩:=k6;dsimp only at c6 d6;have B1:=af c1;have B2:=af c2;have B3:=af c3;have B4:=af c4;have B5:=af c5;have B6:=af c6;have g1:J m1<=2^20:=ae;have g2:J m2<=2^20:=ae;have g3:J m3<=2^20:=ae;have g4:J m4<=2^20:=ae;have g5:J m5<=2^20:=ae;have g6:J m6<=2^20:=ae;clear c1 c2 c3 c4 c5 c6 d1 d2 d3 d4 d5 d6 hmn;obtain⟨NP,eP⟩:∃k,Le P k:=⟨_,cO⟩;obtain⟨NV,eV⟩:∃k,Le V k:=⟨_,cO⟩;obtain⟨NH,eH⟩:∃k,Le H k:=⟨_,cO⟩;let⟨W,hW⟩:=aF (jA w (dO #[aq,aq,.U 0,.I 0,aq,.U 0,.U 0,aq] 69));have bW:=ij hW;have C0:O (aO W (U (Q w)) [aq,aq,.U 0,.I 0,aq,.U 0,.U 0,aq]):=by show aO _ _ _;rw[hW];exact aO.alloc w #[aq,aq,.U 0,.I 0,aq,.U 0,.U 0,aq] _
 have zW:U (Q W)=U (Q w)+1:=by rw[hW];simp
 have R0:=af (h.H bW hR);have K0:=af (Kept.J3 (vs:=[blk R]) bW);go_in
 go_wp21
 rw[<-hW];clear hW h bW;refine(aJ3 (R:=R) (m:=m) (n:=n) (sh:=sh) R0 hb hl ae (x:=P) (m':=m1) (sh':=s1) E1 (N:=NP) eP).h ?_;rintro z9 y1⟨pP,cP,rfl,oP,pR,iV⟩;let⟨lP,fP⟩:=Own.pb oP;have FP1:=af fP;have C1:=af (C0.ku iV ae ae);have K1:=af (K0.Z iV);have R1:=af pR;have z1:=iV.size;clear iV pR C0 K0 R0  oP fP
 go_wp21
 refine(aJ3 (R:=R) (m:=m1) (n:=J m1) (sh:=s1) R1 B1 g1 ae (x:=V) (m':=m2) (sh':=s2) E2 (N:=NV) eV).h ?_;rintro z9 y2⟨pV,cV,rfl,Xi,iC,lI⟩;let⟨lV,fV⟩:=Own.pb Xi;have FV2:=af fV;have C2:=af (C1.ku lI ae ae);have K2:=af (K1.Z lI);have R2:=af iC;have z2:=lI.size;have FP2:=af (FP1.ku lI ae);clear lI iC C1 K1 R1 FP1 Xi fV
 go_wp21
 refine(FG (R:=R) (m:=m2) (n:=J m2) (sh:=s2) R2 B2 g2 (x:=i) (m':=m3) (sh':=s3) E3).h ?_;rintro z9 y3⟨rfl,sH,mc⟩;have C3:=af (C2.ku mc ae ae);have K3:=af (K2.Z mc);have R3:=af sH;have z3:=mc.size;have FP3:=af (FP2.ku mc ae);have FV3:=af (FV2.ku mc ae);clear mc sH C2 K2 R2 FP2 FV2
 go_wp21
 refine(aL8 (R:=R) (m:=m3) (n:=J m3) (sh:=s3) R3 B3 g3 (x:=j) (m':=m4) (sh':=s4) E4).h ?_;rintro z9 y4⟨rfl,IM,IV⟩;have C4:=af (C3.ku IV ae ae);have K4:=af (K3.Z IV);have R4:=af IM;have z4:=IV.size;have FP4:=af (FP3.ku IV ae);have FV4:=af (FV3.ku IV ae);clear IV IM C3 K3 R3 FP3 FV3
 go_wp21
 refine(dB1 (R:=R) (m:=m4) (n:=J m4) (sh:=s4) R4 ae B4 g4 (xs:=H) (m':=m5) (sh':=s5) E5 (N:=NH) eH).h ?_;rintro z9 y5⟨pH,cH,rfl,oH,hr5,Gr⟩;let⟨lH,fH⟩:=nW.pu oH;have FH5:=af fH;have C5:=af (C4.ku Gr ae ae);have K5:=af (K4.Z Gr);have R5:=af hr5;have z5:=Gr.size;have FP5:=af (FP4.ku Gr ae);have FV5:=af (FV4.ku Gr ae);clear Gr hr5 C4 K4 R4 FP4 FV4 oH fH
 go_wp21
 refine(FG (R:=R) (m:=m5) (n:=J m5) (sh:=s5) R5 B5 g5 (x:=E) (m':=m6) (sh':=s6) E6).h ?_;rintro z9 y6⟨rfl,hr6,X⟩;have C6:=af (C5.ku X ae ae);have K6:=af (K5.Z X);have R6:=af hr6;have z6:=X.size;have FP6:=af (FP5.ku X ae);have FV6:=af (FV5.ku X ae);have FH6:=af (FH5.ku X ae);clear X hr6 C5 K5 R5 FP5 FV5 FH5
 go_wp21
 refine(FG (R:=R) (m:=m6) (n:=J m6) (sh:=s6) R6 B6 g6 (x:=q) (m':=m7) (sh':=s7) E7).h ?_;rintro z9 y7⟨rfl,hr7,M⟩;have C7:=af (C6.ku M ae ae);have K7:=af (K6.Z M);have R7:=af hr7;have z7:=M.size;have FP7:=af (FP6.ku M ae);have FV7:=af (FV6.ku M ae);have FH7:=af (FH6.ku M ae);clear M hr7 C6 K6 R6 FP6 FV6 FH6;let⟨r0,r1,r2,r3,r4,r5,r6,r7⟩:=Sk C7.1;have rf:=C7.2;go_wp2;let⟨Z,hZ⟩:=aF (jS (jS (jS (jS (jS (jS (jS (jS y7 (Aw w 0) (.S pP NP cP)) (Aw w 1) (.S pV NV cV)) (Aw w 2) (.U i)) (Aw w 3) (.I j)) (Aw w 4) (.S pH NH cH)) (Aw w 5) (.U E)) (Aw w 6) (.U q)) (Aw w 7) aq);have Gp:∀b,b≠U (Q w)->Z.heap[b]?=y7.heap[b]?:=λb hb=>by
  rw[hZ]
  iterate 8 rw[fN _ _ _ _ hb]
 let⟨ed,em,es⟩:=aa ED;subst em es;refine bO (v:=jP #[.S pP NP cP,.S pV NV cV,.U i,.I j,.S pH NH cH,.U E,.U q,aq]) (by simp[results,results135,go_sem,r0,r1,r2,r3,r4,r5,r6,r7]) rfl ?_;rw[<-hZ];have k0:=FP7.nS (z0:=U (Q w)) ae Gp;have k1:=FV7.nS (z0:=U (Q w)) ae Gp;have k4:=FH7.nS (z0:=U (Q w)) ae Gp;rw[<-aa eP]at k0;rw[<-aa eV]at k1;rw[<-aa eH]at k4;let⟨en,Sf⟩:=mV.mk4 (nd:=⟨P,V,i,j,H,E,q,[]⟩) (B:=U (Q w)) k0 k1 k4 (PU.nil Z (U (Q y7)) (U (Q y7))) ae ae ae ae ae ae ae ae ae ae;dsimp only at en;rw[aa eP,aa eV,aa eH]at en;rw[ed];refine⟨_,_,_,_,_,_,_,_,_,_,_,_,_,_,rfl,en,Sf,R7.W λb hb=>Gp b ae,?_⟩;rw[hZ];exact(((((((K7.qT ai _).qT ai _).qT ai _).qT ai _).qT ai _).qT ai _).qT ai _).qT ai _
variable {xs:List au}
theorem dB3(h:lQ w R m n sh)(s:R<U (Q w))(hb:O (aA m))(hl:Mg n)(e:O (lF Ag (m,sh)=(xs,m',sh')))(eN:Le xs N):dQ dG 134 #[Pz R,.func (.func 135) #[Pz R] #[]] w λr w'=>∃j o,r=dR (.S j N o)/\(∃Ls,OwnT mV 69 8 (U (Q w)) w' ((.S j N o)) xs Ls)/\lQ w' R m' (J m') sh'/\Kept [blk R] w w':=by
 have CN:=@dw9;exact lfW
theorem dA7{l:List au}(en:Le l n)(h:iy w (.S p n c) l)(m:n<=900)(hu:O (zl ss l))(eN:O (J (oq kR l)=N))(hN:N<=2^22):dQ dG 122 #[.S p n c,.func (.func 123) #[] #[]] w λe w'=>∃p' c',e=dR (.S p' N c')/\Own (U (Q w)) w' (.S p' N c') (oq kR l)/\Bw w w':=by
 have CN:=@dx5;exact liW
theorem dG7{X:G}{l0 l1 l2 r q lm:LI}(e:O (lm=cat [l0,l1,l2,r,q]))(E:Le lm N)(B:Rd X v0 l0)(y:Rd X v1 l1)(x:Rd X v2 l2)(u:Rd X v3 r)(s:Rd X v4 q)(hl:N<=2^22):Cp 81 #[.T (U (Q X)) 5 5] (jA X (dO #[v0,v1,v2,v3,v4] 22)) λe w'=>∃j m,e=dR (.S j N m)/\Own (U (Q X)) w' (.S j N m) lm/\Bw X w':=by
 have i:Bw X (jA X (dO #[v0,v1,v2,v3,v4] 22)):=aH.alloc az _;refine(Ep [l0,l1,l2,r,q] 5 rfl e E (bV0 ai ai ai ai ai (B.H i) (y.H i) (x.H i) (u.H i) (s.H i)) hl ae).h ?_;rintro e w'⟨j,m,rfl,o,D⟩;exact⟨j,m,rfl,Own.h o ai,ah i D⟩
theorem cg4{e g x:Nat}(he:e<2^64)(hg:g<2^64)(hx:x<2^64){p q:OA}{m:Nat}(en:Le ss n)(em:Le ns m)(h:mJ w (.S p n c) ss)(hN:iy w (.S q m d) ns)(hn:Mg n)(hm:Mg m)(gy:O (Bs ss))(cW:O (Bn ns))(mU:O (Bu ns))(tp:O (Bo ns))(Dz:O (∀nd∈ns,(0<=nd.P/\nd.P<2^64)/\0<=nd.F/\nd.F<2^64))(py:ML w){R:LI}(eR:O (Ct e g x t ss ns=R))(eL:Le R L):dQ dG 61 #[bS e g x t (.S p n c) (.S q m d)] w λr w'=>∃p' c',r=dR (.S p' L c')/\Own (U (Q w)) w' (.S p' L c') R/\Bw w w':=by
 have HR:=af λ(w':G)(hb:Bw w w')=>aD (h.H hb) (aD (hN.H hb) (py.H hb));obtain⟨B,eB⟩:∃B,O (mY e g x t ss ns=B):=⟨_,cO⟩;let⟨W,hW⟩:=aF (jA w (dO #[.U e,.U g,.U x,.I t,.S p n c,.S q m d] 34));have bW:=ij hW;have AL:gH W (U (Q w)) e g x t (.S p n c) (.S q m d):=by rw[hW];simp[gH]
 have Fl:=af AL;go_in
 go_wp21
 rw[<-hW];refine cK (ap8 en em (aa HR _ bW).1 (aa HR _ bW).2.1 hn hm gy cW mU tp (aa HR _ bW).2.2 eB) λw1 X=>?_;have b1:=ah bW X;have C1:=af (Fl.H X);cases B with
 |false=>
  have e1:=aa eR;have e2:=aa eL;rw[Ct,aJ (by rw[aa eB];simp)]at e1;subst e1;obtain rfl:L=0:=e2.C;go_wp2;go_ret;exact⟨dN,0,rfl,Own.nil _ _,b1⟩
 |true=>
  have i0:=aa C1;have hF:=Rm eB gy cW;have HF:=af hF;have hS:=ai2 eB mU tp Dz;have y:R=mP e g x (ss.map lZ) (ns.map lE):=by have:=aa eR;rw[Ct,aK (aa eB)]at this;rw[<-this,Pc];simp
  have rR:=hS.Ry;have j:=aK8 (e:=e) (g:=g) (x:=x) rR.w;have hn5:n<=50:=by have:=hS.n1;rw[aa en]at this;exact this
  have hm5:m<=200:=by have:=hS.n2;rw[aa em]at this;exact this
  let⟨sl,uO⟩:=aF (ss.map lZ);let⟨nl,gM⟩:=aF (ns.map lE);have vZ:Le sl n:=by show _=_;rw[uO,iH];exact aa en
  have em2:Le nl m:=by show _=_;rw[gM,iH];exact aa em
  rw[<-uO,<-gM]at rR y j;have EE:O (R=cat [vi e,vi g,vi x,oq qp sl,oq kR nl]):=y;have hL:L<=2^22:=by have h1:=j.1;rw[<-y,aa eL]at h1;omega
  obtain⟨N0,e0⟩:∃M,O (J (vi e)=M):=⟨_,cO⟩;obtain⟨N1,e1⟩:∃M,O (J (vi g)=M):=⟨_,cO⟩;obtain⟨N2,e2⟩:∃M,O (J (vi x)=M):=⟨_,cO⟩;obtain⟨N3,e3⟩:∃M,O (J (oq qp sl)=M):=⟨_,cO⟩;obtain⟨N4,e4⟩:∃M,O (J (oq kR nl)=M):=⟨_,cO⟩;have sO:N3<=2^22:=by have h1:=j.2.1;rw[aa e3]at h1;omega
  have QW:N4<=2^22:=by have h1:=j.2.2;rw[aa e4]at h1;omega
  have qR:=af rR;have lD:O (∀s∈sl,0<=s.1/\s.1<2^64):=rR.s;have ESL:=af uO;have ENL:=af gM;have fl4:∀(vs:iA)(w:G),(callFunc 81 vs).run dG w=.ok (.enter 81 vs) w:=λvs w=>aU;have fl3:∀(vs:iA)(w:G),(callFunc 119 vs).run dG w=.ok (.enter 119 vs) w:=λvs w=>aU;have fl2:∀(vs:iA)(w:G),(callFunc 120 vs).run dG w=.ok (.enter 120 vs) w:=λvs w=>aU;have fl1:∀(vs:iA)(w:G),(callFunc 122 vs).run dG w=.ok (.enter 122 vs) w:=λvs w=>aU
  go_wp21
  refine(eq4 en em (aa HR _ b1).1 (aa HR _ b1).2.1 hn hm HF cW mU).h ?_;rintro z9 w2⟨ps,cs,pn,dn,rfl,ow2,V⟩;have b2:=ah b1 V;obtain⟨A1,A2,r1,r2,-⟩:=ow2;rw[<-aa ESL]at r1;rw[<-aa ENL]at r2;have R2:=br r1 r2
  go_wp21
  let⟨W0,bG⟩:=aF (jA w2 (dO #[.U e,.U g,.U x,.I 0,.S ps n cs,.S pn m dn] 34));have Jq:=ij bG;have D:gH W0 (U (Q w2)) e g x 0 (.S ps n cs) (.S pn m dn):=by rw[bG];simp[gH]
  let⟨GB,Zo⟩:=aF (U (Q w2));rw[<-bG];rw[<-Zo]at D⊢;let⟨v0,fU⟩:=aF W0.drew;have BW0:O (Bw w v0):=fU▸(ah b2 Jq).drew;have S0:O (gH v0 GB e g x 0 (.S ps n cs) (.S pn m dn)):=fU▸D;have D0:O (mJ v0 (.S ps n cs) sl/\iy v0 (.S pn m dn) nl):=by rw[fU];exact⟨R2.1.H Jq.drew,R2.2.H Jq.drew⟩
  refine fK (λw'=>gH w' GB e g x 0 (.S ps n cs) (.S pn m dn)) (fU▸aa S0) λhS=>?_;rw[<-fU]at hS⊢;clear fU bG Jq D Zo R2 b2;refine jh 0 1 3 4 6 7 9 10 hS ?_;refine gh 12 13 hS ?_;refine ry [2] ?_;refine cn (λKK hK=>?_) ?_;{refine js (Tv he e0) ?_;rintro z9 v1⟨pA,cA,rfl,oA,X⟩;refine⟨_,rfl,?_⟩;have S1:=af (S0.H X);have BW1:=af (ah BW0 X);have D1:=br (D0.1.H X) (D0.2.H X);have RA1:=af oA.rd;refine bQ hK (by exact S1) λhS=>?_;refine ft 5 λKK hK=>?_;refine js (Tv hg e1) ?_;rintro z9 v2⟨pB,cB,rfl,oB,V⟩;refine⟨_,rfl,?_⟩;have S2:=af (S1.H V);have OM:=af (ah BW1 V);have D2:=br (D1.1.H V) (D1.2.H V);have RA2:=af (RA1.H V);have RB2:=af oB.rd;refine bQ hK (by exact S2) λhS=>?_;refine ft 8 λKK hK=>?_;refine js (Tv hx e2) ?_;rintro z9 v3⟨pC,cC,rfl,oC,aE⟩;refine⟨_,rfl,?_⟩;have S3:=af (S2.H aE);have BW3:=af (ah OM aE);have D3:=br (D2.1.H aE) (D2.2.H aE);have RA3:=af (RA2.H aE);have RB3:=af (RB2.H aE);have RC3:=af oC.rd;refine bQ hK (by exact S3) λhS=>?_;refine ft 11 λKK hK=>?_;refine CK (dA6 vZ D3.1 ae lD e3 sO) ?_;rintro z9 v4⟨pD,cD,rfl,oD,N⟩;refine⟨_,rfl,?_⟩;have S4:=af (S3.H N);have Wr:=af (ah BW3 N);have D4:=br (D3.1.H N) (D3.2.H N);have RA4:=af (RA3.H N);have RB4:=af (RB3.H N);have RC4:=af (RC3.H N);have RD4:=af oD.rd;refine bQ hK (by exact S4) λhS=>?_;refine ft 14 λKK hK=>?_;refine CK (dA7 em2 D4.2 ae qR e4 QW) ?_;rintro z9 v5⟨pE,cE,rfl,oE,cR⟩;refine⟨_,rfl,?_⟩;have S5:=af (S4.H cR);have BW5:=af (ah Wr cR);have RA5:=af (RA4.H cR);have RB5:=af (RB4.H cR);have RC5:=af (RC4.H cR);have RD5:=af (RD4.H cR);have RE5:=af oE.rd;refine bQ hK (by exact S5) λhS=>?_;refine ft 15 λKK hK=>?_;go_simp;let⟨iY,hY⟩:=aF (jA v5 (dO #[.S pA N0 cA,.S pB N1 cB,.S pC N2 cC,.S pD N3 cD,.S pE N4 cE] 22));have hbY:=ij hY;have SY:=af (S5.H hbY);have JJ:=af (dG7 EE eL RA5 RB5 RC5 RD5 RE5 hL);rw[<-hY]at JJ⊢;refine bQ hK (by exact SY) λhS=>?_;refine ft 16 λKK hK=>?_;refine js JJ ?_;rintro z9 Z⟨pj,cj,rfl,oj,ly⟩;refine⟨_,rfl,?_⟩;have FI:=br (Own.h (B':=U (Q w)) oj BW5.size) (ah (aa BW5) ly);refine bQ hK (by exact S5.H ly) λhS=>?_;refine tn 17 hS ?_;refine ga ?_;go_wp2;go_ret;exact⟨pj,cj,rfl,FI⟩};exact fI
theorem ej2{e g x:Nat}(he:e<2^64)(m:g<2^64)(j:x<2^64)(hr:∀nd∈ns,Oi nd):aA (Ct e g x t ss ns):=by
 rw[Ct];split;{next h=>exact ah7 ae ae ae (aj6 h hr) hr}
 {exactλz i=>by simp at i}
theorem dJ3(en:Le l n)(h:Rd w (.S p n c) l)(hb:O (aA l))(hl:Mg n)(oU:n<=c)(hp:O ((p=dN/\c=0)\/∃b o,p=(Ad b o)))(nQ:O (∀b o,p=(Ad b o)->b<U (Q w)))(py:ML w):dQ dG 78 #[.S p n c] w λr w'=>bx8 (U (Q w)) r w' (GW (uZ l)) (GX (uZ l))/\Bw w w':=by
 have HR:=af λ(w':G)(hb:Bw w w')=>aD (h.H hb) (py.H hb);obtain⟨⟨e,m1,s1⟩,E1⟩:∃y,O (gu (l,dF)=y):=⟨_,cO⟩;obtain⟨⟨g,m2,s2⟩,E2⟩:∃y,O (gu (m1,s1)=y):=⟨_,cO⟩;obtain⟨⟨x,m3,s3⟩,E3⟩:∃y,O (gu (m2,s2)=y):=⟨_,cO⟩;obtain⟨⟨B,m4,s4⟩,E4⟩:∃y,O (lF Ih (m3,s3)=y):=⟨_,cO⟩;obtain⟨⟨u,m5,s5⟩,E5⟩:∃y,O (lF Ag (m4,s4)=y):=⟨_,cO⟩;have EI:O (tT l=((e,g,x),B,u,m5,s5)):=by show _=_;rw[tT];simp only[aa E1,aa E2,aa E3,aa E4,aa E5]
 have k1:=xH (l,dF) hb (by dsimp only;rw[aa en];exact hl);rw[aa E1]at k1;obtain⟨ue,c1,d1,-⟩:=k1;dsimp only at ue c1 d1;rw[aa en]at d1;have k2:=xH (m1,s1) c1 (by dsimp only;omega);rw[aa E2]at k2;obtain⟨ug,c2,d2,-⟩:=k2;dsimp only at ug c2 d2;have k3:=xH (m2,s2) c2 (by dsimp only;omega);rw[aa E3]at k3;obtain⟨ux,c3,d3,-⟩:=k3;dsimp only at ux c3 d3;have k4:=Uy aM9 (s:=(m3,s3)) c3 (by dsimp only;omega);rw[aa E4]at k4;obtain⟨Yj,c4,d4,f4⟩:=k4;dsimp only at Yj c4 d4 f4;have k5:=Uy aN0 (s:=(m4,s4)) c4 (by dsimp only;omega);rw[aa E5]at k5;obtain⟨Gi,c5,d5,f5⟩:=k5;dsimp only at Gi c5 d5 f5;have B1:=af c1;have B2:=af c2;have B3:=af c3;have B4:=af c4;have g1:J m1<=2^20:=ae;have g2:J m2<=2^20:=ae;have g3:J m3<=2^20:=ae;have g4:J m4<=2^20:=ae;obtain⟨D,eKS⟩:∃k,Le B k:=⟨_,cO⟩;obtain⟨KN,eKN⟩:∃k,Le u k:=⟨_,cO⟩;have hKS:D<=2^20:=by rw[<-aa eKS];omega
 have hKN:KN<=2^20:=by rw[<-aa eKN];omega
 have JD:=af Yj;have Hr:=af Gi;have re:0<=e/\e<2^64:=ue;have rg:0<=g/\g<2^64:=ug;have rx:0<=x/\x<2^64:=ux;obtain⟨e,rfl⟩:∃v:Nat,e=(v:Int):=⟨jN e,ae⟩;obtain⟨g,rfl⟩:∃v:Nat,g=(v:Int):=⟨jN g,ae⟩;obtain⟨x,rfl⟩:∃v:Nat,x=(v:Int):=⟨jN x,ae⟩;have he:e<2^64:=ae;have hg:g<2^64:=ae;have hx:x<2^64:=ae;let⟨W1,fo⟩:=aF (jA w (dO #[.U 0,.U 0,.U 0,.I 0,aq,aq] 34));have bW1:=ij fo;have zW1:U (Q W1)=U (Q w)+1:=by rw[fo];simp
 let⟨W,hW⟩:=aF (jA W1 (dO #[.S p n c,jO dF] 178));have N8:=ij hW;have zW:U (Q W)=U (Q w)+2:=by rw[hW];simp;omega
 have bW:=ah bW1 N8;let⟨R,hR⟩:=aF (U (Q w)+1);have C0:O (aO W (U (Q w)) [.U 0,.U 0,.U 0,.I 0,aq,aq]):=by
  have:aO W1 (U (Q w)) [.U 0,.U 0,.U 0,.I 0,aq,aq]:=by rw[fo];exact aO.alloc w #[.U 0,.U 0,.U 0,.I 0,aq,aq] _
  exact this.H ae N8
 have R0:O (lQ W R l n dF):=by
  have hc:aO W R [.S p n c,jO dF]:=by rw[hW,show R=U W1.heap by omega];exact aO.alloc W1 #[.S p n c,jO dF] _
  refine⟨en,hc.2,p,c,⟨hc.1 0 _ rfl,hc.1 1 _ rfl⟩,?_,oU,hp⟩;let⟨p',c',ev,hd⟩:=h.H bW;simp only[ti]at ev;obtain h0|⟨b,o,h1,h2⟩:=hd;{exact .L h0};{refine .R ⟨b,o,?_,ev.1.Z h1,h2⟩;have:=aa nQ b o (ev.1.Z h1);omega}
 have K0:=af (Kept.refl [blk R] W);have hRW:R<U (Q W):=ae;have hwR:U (Q w)<R:=ae;go_in
 go_wp21
 rw[<-fo,<-hW,<-hR];have Wc:=af hR;clear fo hW h py bW1 N8 zW1 hR;refine(FG (R:=R) (m:=l) (n:=n) (sh:=dF) R0 hb hl (x:=e) (m':=m1) (sh':=s1) E1).h ?_;rintro z9 y1⟨rfl,pR,iV⟩;have C1:=af (C0.ku iV ae ae);have K1:=af (K0.Z iV);have R1:=af pR;have z1:=iV.size;clear iV pR C0 K0 R0
 go_wp21
 refine(FG (R:=R) (m:=m1) (n:=J m1) (sh:=s1) R1 B1 g1 (x:=g) (m':=m2) (sh':=s2) E2).h ?_;rintro z9 y2⟨rfl,iC,lI⟩;have C2:=af (C1.ku lI ae ae);have K2:=af (K1.Z lI);have R2:=af iC;have z2:=lI.size
 go_wp21
 refine(FG (R:=R) (m:=m2) (n:=J m2) (sh:=s2) R2 B2 g2 (x:=x) (m':=m3) (sh':=s3) E3).h ?_;rintro z9 y3⟨rfl,sH,mc⟩;have C3:=af (C2.ku mc ae ae);have K3:=af (K2.Z mc);have R3:=af sH;have z3:=mc.size
 go_wp21
 refine(dB2 (R:=R) (m:=m3) (n:=J m3) (sh:=s3) R3 ae B3 g3 (xs:=B) (m':=m4) (sh':=s4) E4 (N:=D) eKS).h ?_;rintro z9 y4⟨E,cS,rfl,⟨LS,oS⟩,IM,IV⟩;have hS4:=af oS.lt;have OS4:=af oS;have C4:=af (C3.ku IV ae ae);have K4:=af (K3.Z IV);have R4:=af IM;have z4:=IV.size
 go_wp21
 refine(dB3 (R:=R) (m:=m4) (n:=J m4) (sh:=s4) R4 ae B4 g4 (xs:=u) (m':=m5) (sh':=s5) E5 (N:=KN) eKN).h ?_;rintro z9 y5⟨X,cN,rfl,⟨LN,oN⟩,hr5,Gr⟩;have ON5:=af oN;have C5:=af (C4.ku Gr ae ae);have K5:=af (K4.Z Gr);have R5:=af hr5;have z5:=Gr.size;have OS5:=af (OS4.ku qe.W Gr ae);have b5:Bw w y5:=VI bW K5 ae;have FF:O (nG (U (Q W)) y5 E D cS X KN cN B u):=by let⟨A1,q1,q2,q3⟩:=OS5.qp (M:=U (Q y4)) (λa ha=>(hS4.2 a ha).2) (λb hb=>(hS4.1 b hb).2);let⟨rn,A2,q4,q5⟩:=ON5.no;exact⟨A1,A2,OS5.se.1,rn,q1,q4,(q2.h ae).app q5 ae q3⟩
 clear OS5 ON5 hS4;let⟨V,hV⟩:=aF (jA y5 (dO #[.U e,.U g,.U x,.I 0,.S E D cS,.S X KN cN] 34));have AR:=ij hV;have CV:=af (C5.H ae AR);have RV:=af (R5.H AR ae);have bV:=ah b5 AR;have FV:=af (FF.H AR);let⟨sb,AD⟩:=aF (U (Q y5));have CS:O (aO V sb [.U e,.U g,.U x,.I 0,.S E D cS,.S X KN cN]):=by show aO _ _ _;rw[hV,AD];exact aO.alloc y5 #[.U e,.U g,.U x,.I 0,.S E D cS,.S X KN cN] _
 have zV:U (Q V)=sb+1:=by rw[hV];simp;omega
 have Az:U (Q w)<sb:=ae;obtain⟨-,-,-,-,⟨-,gsh⟩,-⟩:=aa RV;rw[hV]at gsh;have HV:=af hV;have HSB:=af AD;clear hV AR C5 R5 FF AD;cases s5 with
 |true=>
  have hV:=aa HV;have Tf:=CV;have Sd:=bV;rw[hV]at Tf Sd;have hP:uZ l=dN:=by rw[uZ,aa EI];rw[aJ (λhh=>by cases hh.1)]
  have HD:O (GW (uZ l)=mO/\GX (uZ l)=13):=by rw[hP];exact⟨rfl,rfl⟩
  clear hP;let⟨r0,r1,r2,r3,r4,r5⟩:=Bx Tf.1;have rf:=Tf.2;clear hV;have BB:=Sd;go_wp2;refine bO (v:=dT #[bS 0 0 0 0 aq aq,.I 13]) (by simp[results,results78,go_sem,r0,r1,r2,r3,r4,r5]) rfl ⟨?_,?_⟩;{rw[HD.1,HD.2];exact⟨dN,0,dN,0,rfl,nG.zero _ _⟩};{exact(((((BB.setCell ai _).setCell ai _).setCell ai _).setCell ai _).setCell ai _).setCell ai _}
 |false=>
  obtain⟨RL,eRL⟩:∃L,O (Ct e g x 0 B u=L):=⟨_,cO⟩;obtain⟨L,eL⟩:∃k,Le RL k:=⟨_,cO⟩;have gy:O (Bs B):=λs hs=>by rw[(aa JD s hs).2];exact⟨cT _,λe he=>by simp at he⟩
  have cW:O (Bn u):=λj aG=>by have:=aa Hr j aG;exact⟨this.by0,this.l0,this.l1,this.l4,by rw[this.l7];exact cT _⟩
  have mU:O (Bu u):=λj aG=>⟨(aa Hr j aG).ho,λi hi=>by rw[(aa Hr j aG).l7]at hi;simp at hi⟩;have tp:O (Bo u):=λj aG=>(aa Hr j aG).ow;have Dz:O (∀j∈u,(0<=j.P/\j.P<2^64)/\0<=j.F/\j.F<2^64):=λj aG=>⟨(aa Hr j aG).ep,(aa Hr j aG).ge⟩
  go_wp21
  rw[<-aa HV];have RRV:O (mJ V (.S E D cS) B/\iy V (.S X KN cN) u):=by obtain⟨-,-,q1,q2,-⟩:=aa FV;exact⟨q1,q2⟩
  refine(cg4 (e:=e) (g:=g) (x:=x) (t:=0) he hg hx (p:=E) (q:=X) (c:=cS) (n:=D) (d:=cN) (m:=KN) (ss:=B) (ns:=u) eKS eKN RRV.1 RRV.2 hKS hKN gy cW mU tp Dz (aa HR _ bV).2 (R:=RL) eRL (L:=L) eL).h ?_;rintro z9 u1⟨pE,cE,rfl,oE,kW⟩;have b6:=ah bV kW;have C6:=af (CV.H ae kW);have S6:=af (CS.H ae kW);have F6:=af (FV.H kW);have RE:=af oE.rd;have zu1:=kW.size
  go_wp21
  refine cK (ZR (p:=pE) (q:=p) (c:=cE) (d:=c) (n:=L) (k:=n) (l:=RL) (m:=l) eL en RE (aa HR _ b6).1 (aa eRL▸ej2 he hg hx Hr) hb) λu2 Ay=>?_;have b7:=ah b6 Ay;have C7:=af (C6.H ae Ay);have S7:=af (S6.H ae Ay);have F7:=af (F6.H Ay);have zu2:=Ay.size;by_cases Jc:RL=l;{
 have hd:dD (RL=l):=by simpa using Jc
 have hP:uZ l=Y (((e:Int),(g:Int),(x:Int)),B,u):=by rw[uZ,aa EI];rw[aK ⟨rfl,eRL.Z Jc⟩]
 have HD:O (GW (uZ l)=⟨e,g,x,0,B,u⟩/\GX (uZ l)=0):=by rw[hP];exact⟨rfl,rfl⟩
 rw[hd];let⟨r0,r1,r2,r3,r4,r5⟩:=Bx C7.1;have rf:=C7.2;let⟨k0,k1,k2,k3,k4,k5⟩:=Bx S7.1;have q1:¬U (Q w)=sb:=ae;have q2:¬sb=U (Q w):=ae;rw[<-aa HSB];go_wp2;let⟨Z,hZ⟩:=aF (jS (jS (jS (jS (jS (jS u2 (Aw w 0) (.U e)) (Aw w 1) (.U g)) (Aw w 2) (.U x)) (Aw w 3) (.I 0)) (Aw w 4) (.S E D cS)) (Aw w 5) (.S X KN cN));have UW:∀z,z≠U (Q w)->Z.heap[z]?=u2.heap[z]?:=λz hz=>by
  rw[hZ]
  iterate 6 rw[fN _ _ _ _ hz]
 refine bO (v:=dT #[bS e g x 0 (.S E D cS) (.S X KN cN),.I 0]) (by simp[results,results78,go_sem,r0,r1,r2,r3,r4,r5]) rfl ⟨?_,?_⟩;{rw[<-hZ,HD.1,HD.2];have f:=(F7.W (w':=Z) (λz hz _=>UW z ae)).h (B':=U (Q w)) ae;rw[<-aa eKS,<-aa eKN]at f⊢;exact⟨E,cS,X,cN,rfl,f⟩};{exact(((((b7.setCell ai _).setCell ai _).setCell ai _).setCell ai _).setCell ai _).setCell ai _}};{
 have hd:dD (RL=l)=dF:=by simpa using Jc
 rw[hd];have hP:uZ l=dN:=by rw[uZ,aa EI];rw[aJ (λhh=>Jc (eRL.C.Z hh.2))]
 have HD:O (GW (uZ l)=mO/\GX (uZ l)=13):=by rw[hP];exact⟨rfl,rfl⟩
 let⟨r0,r1,r2,r3,r4,r5⟩:=Bx C7.1;have rf:=C7.2;have BB:=b7;go_wp2;refine bO (v:=dT #[bS 0 0 0 0 aq aq,.I 13]) (by simp[results,results78,go_sem,r0,r1,r2,r3,r4,r5]) rfl ⟨?_,?_⟩;{rw[HD.1,HD.2];exact⟨dN,0,dN,0,rfl,nG.zero _ _⟩};{exact(((((BB.setCell ai _).setCell ai _).setCell ai _).setCell ai _).setCell ai _).setCell ai _}}
def StP(w0 w:G)(b bs bn:Nat)(D:SD)(v:dV)(r:Ending)(w':G):Prop:=∃j NB m i,r=dR v/\PS w0 w' b bs bn D j NB m i/\Fr T3 w w'
def Fy(D:SD):Option Rq->Bool×SD
 |none=>(dF,D)
 |some o=>if(Sg D o).2.k=0 then(dY,(Sg D o).1)else(dF,D)
theorem VD.gd(h:VD D):GD D:=GD.of h.ok (Rm h.ok h.gy h.cW) h.g.1 h.x.1
theorem dn8{SB NB HB UB:iN}(h:O (PS w0 w b bs bn D SB NB HB UB))(hV:O (VD D))(en:Le l n)(hr:O (Rd w (.S p n c) l))(hb:O (aA l))(hn:n<=1000)(oU:n<=c)(ha:O (JP w p c))(hM:O (ML w))(hT:O (qP w)){o:Option Rq}(ho:O (sV l o)){R:Bool×SD}(eR:O (Fy D o=R)):dQ dG 83 #[Pz b,.S p n c] w (StP w0 w b bs bn R.2 (jO R.1)):=by
 go_in
 go_wp21
 cases o with
 |none=>
  refine(dI4 en hb ae hT ho p c _ aH hr oU ha).h ?_;rintro r j⟨y,N,x,M,B,rfl,-,-,-,-,X⟩;have e:=aa eR;rw[Fy]at e;subst e;have P1:=af ((h.H X).H ((aR (U (Q j)) j).alloc az (dO #[.I 0,.U 0,.S y 0 N,.I 0,.S x 0 M,.U 0,.U 0] 26)));have F1:=af (Fr.H (T:=T3) (ah X ((aR (U (Q j)) j).alloc az (dO #[.I 0,.U 0,.S y 0 N,.I 0,.S x 0 M,.U 0,.U 0] 26))));clear X;go_wp2;go_ret;exact⟨_,_,_,_,rfl,P1,F1⟩
 |some o=>
  obtain⟨K,S,F,P,V⟩:=o;have E:oQ l K S P F V:=aa ho;have HJ:=af E.jo;have ve:=E.parts;let⟨bP,bV⟩:=E.byt hb;have hS:(0:Int)<=(S:Int)/\(S:Int)<2^64:=aM E.2.2.1;have Yu:=aa en;refine(dI3 en hb ae hT E p c _ aH hr oU ha).h ?_;rintro r j⟨y,N,x,M,B,rfl,-,oP,-,oV,X⟩;let⟨np,EY⟩:=bL (J P);let⟨nv,env⟩:=bL (J V);rw[aa EY]at oP⊢;rw[aa env]at oV⊢;obtain⟨W,hW,bW,zW,u,-⟩:=bM j #[.I K,.U S,.S y np N,.I F,.S x nv M,.U 0,.U 0] 26;have b2:=ah X bW;have Dt:np<=1000:=aM (aa EY);have CX:=af (show wS w0 W b bs bn D SB NB HB UB S F 0 0 y np N x nv M P V from⟨h.H b2,hV.gd,hS,EY,env,(oP.H bW).rd,.R (oV.H bW).tb,bP,ae,oP.cap,oP.NL,hM.H b2,λk h1 h2=>(aa hT k h1 h2).H b2⟩);have F2:=af (Fr.H (T:=T3) b2);obtain⟨o0,o1,o2,o3,o4,o5,o6⟩:I W (Aw j 0)=dI K/\I W (Aw j 1)=dU S/\I W (Aw j 2)=dS y np N/\I W (Aw j 3)=dI F/\I W (Aw j 4)=dS x nv M/\I W (Aw j 5)=dU 0/\I W (Aw j 6)=dU 0:=⟨u.1 0 _ rfl,u.1 1 _ rfl,u.1 2 _ rfl,u.1 3 _ rfl,u.1 4 _ rfl,u.1 5 _ rfl,u.1 6 _ rfl⟩;clear X bW b2 oP oV u ve bP bV Yu E ho;subst hW
  go_wp21
  refine(cF2 (K:=K) HJ CX).h ?_;rintro r s⟨D',R',C,⟨Oh,Ol,yr,Oc,v3,rfl,F3,Z,L3⟩,hA,hk⟩;obtain⟨p1,c1,p2,c2,p3,c3,rfl⟩:=L3;have e:=aa eR;rw[Fy]at e;simp only[Sg]at e;rw[hA]at e;generalize(if C=0 then R' else ka)=Rx at*;have FF:=af (F2.Z F3);by_cases m:C=0;{rw[aK m]at Z;rw[aK m,aK (hk m)]at e;subst e;have P4:=af (Z.H ((aR (U (Q s)) s).alloc az (dO #[.I Rx.k,.U Rx.i,.U Rx.e,.U Rx.g,.I Rx.n,.S p1 (J Rx.qB) c1,.S p2 (J Rx.nms) c2,.S p3 (J Rx.pG) c3] 43)));have F4:=af (FF.Z (Fr.H (T:=T3) ((aR (U (Q s)) s).alloc az (dO #[.I Rx.k,.U Rx.i,.U Rx.e,.U Rx.g,.I Rx.n,.S p1 (J Rx.qB) c1,.S p2 (J Rx.nms) c2,.S p3 (J Rx.pG) c3] 43))));rw[rZ,aK m];clear hA hk F3 Z m;go_wp2;go_ret;exact⟨_,_,_,_,rfl,P4,F4⟩};{rw[aJ m]at Z;rw[aJ m,aJ (by simpa[kP]using m)]at e;subst e;have P4:=af (Z.H ((aR (U (Q s)) s).alloc az (dO #[.I Rx.k,.U Rx.i,.U Rx.e,.U Rx.g,.I Rx.n,.S p1 (J Rx.qB) c1,.S p2 (J Rx.nms) c2,.S p3 (J Rx.pG) c3] 43)));have F4:=af (FF.Z (Fr.H (T:=T3) ((aR (U (Q s)) s).alloc az (dO #[.I Rx.k,.U Rx.i,.U Rx.e,.U Rx.g,.I Rx.n,.S p1 (J Rx.qB) c1,.S p2 (J Rx.nms) c2,.S p3 (J Rx.pG) c3] 43))));rw[rZ,aJ m];clear hA hk F3 Z m;go_wp2;go_ret;exact⟨_,_,_,_,rfl,P4,F4⟩}
def Jz(w:G)(p:OA)(rs:List R1):Prop:=rs=[]\/∃b o,p=(Ad b o)/\(∃j m,w.heap[b]?=dO j 79 m)/\∀i r,rs[i]?=Y r->I w (Ad b (o+i*2))=dU r.1/\∃q d,I w (Ad b (o+i*2+1))=dS q (J r.2) d/\TB w (.S q (J r.2) d) r.2/\JP w q d/\J r.2<=d
theorem JP.size{q:OA}(h:JP w q d)(i:U (Q w)<=U (Q w')):JP w' q d:=⟨h.1,λb o e=>mj (h.2 b o e) i⟩
theorem Jz.T{T:List TypeId}(h:Jz w p rs)(hf:Fr T w w')(ht:79∉T/\5∉T:=by decide):Jz w' p rs:=by
 obtain h|⟨b,o,e,⟨cur,m,hc⟩,h⟩:=h;{exact .L h};{have hk:=(hf.2 _ _ _ _ ht.1 hc).Z hc.C;refine .R ⟨b,o,e,⟨cur,m,hk.Z hc⟩,λi r hr=>?_⟩;let⟨h1,q,d,h2,h3,h4,h5⟩:=h i r hr;exact⟨(gF hk _).Z h1,q,d,(gF hk _).Z h2,h3.T hf ht.2,h4.size hf.1,h5⟩}
theorem Jz.H(h:Jz w p rs)(i:Bw w w'):Jz w' p rs:=h.T (Fr.H (T:=[]) i) (by simp)
theorem lf.rct(h:lf B w (.S p n c) rs vs):Jz w p rs:=by
 obtain⟨e,x⟩|⟨g,M,E,e,Z,u,_,_,_,X⟩:=id h.row.2;{exact .L (Is x)};{simp only[ti]at e;refine .R ⟨g,0,e.1,⟨_,_,u⟩,λi r m=>?_⟩;have V:i<J rs:=(bu.1 m).1;have W:i<J vs:=h.len▸V;have o:vs[i]?=Y vs[i]:=bN W;let⟨D,s⟩:=aj9 rs vs i r _ m o;obtain⟨rfl,rfl,rfl⟩:=e;have R:=Py (w:=w) (base:=B) h.row (2*i) ae;have N:=Py (w:=w) (base:=B) h.row (2*i+1) ae;have j:=h.own i r _ m o;let⟨q,d,y⟩:=j.form;rw[y]at j s;rw[l9,XH i 2];exact⟨R.Z D,q,d,N.Z s,j.tb,j.adr,j.cap⟩}
theorem Jz.at(h:Jz w p rs){r:R1}(hr:rs[j]?=r):∃b o q d,p=(Ad b o)/\I w (Ad b (o+j*2))=dU r.1/\I w (Ad b (o+j*2+1))=dS q (J r.2) d/\TB w (.S q (J r.2) d) r.2/\JP w q d/\J r.2<=d:=by
 obtain h|⟨b,o,e,-,h⟩:=h;{rw[h]at hr;simp at hr};{let⟨x,q,d,u,s,m,i⟩:=h j r hr;exact⟨b,o,q,d,e,x,u,s,m,i⟩}
theorem bM5{dop:LI->Option Rq}{q:Int}{r:R1}(h:r.1<=q):yx dop D q r=Y (D,q):=by rw[yx,aK h]
theorem aK6{dop:LI->Option Rq}{q:Int}{r:R1}(h:¬r.1<=q)(i:r.1≠q+1\/4611686018427387904<r.1):yx dop D q r=dN:=by rw[yx,aJ h,aK i]
theorem bM6{dop:LI->Option Rq}{q:Int}{r:R1}(h:¬r.1<=q)(i:¬(r.1≠q+1\/4611686018427387904<r.1)):yx dop D q r=if(Fy D (dop r.2)).1 then Y ((Fy D (dop r.2)).2,r.1)else dN:=by
 rw[yx,aJ h,aJ i];cases dop r.2 with
 |none=>rfl
 |some o=>
  simp only[Fy];split<;>rfl
theorem dp4{o:Option Rq}(h:(Fy D o).1=dF):(Fy D o).2=D:=by
 cases o with
 |none=>rfl
 |some o=>
  simp only[Fy]at h⊢;split at h<;>simp_all
theorem dn3{SB NB HB UB:iN}(h:O (PS w0 w b bs bn D SB NB HB UB)){q:Int}(hG:O (GQ D q))(en:Le rs n)(hn:n<=2^21)(hR:O (Jz w p rs))(hg:O (∀r∈rs,VR r))(hM:O (ML w0))(hT:O (qP w0))(dop:LI->Option Rq)(hd:O (∀l,sV l (dop l))){R:SD×Int}(eR:O (rC dop D q rs=R)):dQ dG 44 #[Pz b,.S p n c,.U q] w (StP w0 w b bs bn R.1 (.U R.2)):=by
 go_in;go_wp2
 go_loopw[2,11](λqv iv wr=>∃(j:Nat)(q1:Int)(M:SD)(SB NB HB UB:iN),j<=n/\qv=.U q1/\iv=.I j/\O (rC dop M q1 (jD j rs)=R/\GQ M q1)/\O (PS w0 wr b bs bn M SB NB HB UB)/\O (Fr T3 w wr)) (λ_ iv _=>n-(jN (intOf iv)))
 exact⟨0,q,D,SB,NB,HB,UB,cT _,rfl,rfl,af ⟨by rw[vG];exact aa eR,hG⟩,h,af (Fr.refl _ _)⟩;{
 obtain⟨j,q1,M,SB1,NB1,jy,UB1,hj,rfl,rfl,N,HP,HF⟩:=hrel;by_cases aL:j<n;{
 have cM:=bR j n;have qM:j<J rs:=aa en▸aL;let⟨r,hr⟩:=sj qM;have gU:=aa hg r (bq hr);obtain⟨rb,ro,rq,rd,rfl,c0,c1,tb,ad,cp⟩:=(hR.T HF).at hr;obtain⟨s,y⟩:=r;simp only at c0 c1 tb cp;have s0:0<=s:=gU.2.2.1;have s1:s<2^64:=gU.2.2.2;let⟨m,em⟩:=bL (J y);rw[aa em]at c1 tb cp;have hm:m<=1000:=aa em▸gU.2.1;have q0:=N.2.2.1;have q9:=N.2.2.2;have wj:jY jV ((j:Int)+1)=((j+1:Nat):Int):=by rw[l8 _ ae];omega
 let⟨W,hW,bW,zW,CW,M6⟩:=bM wr #[.U s,.S rq m rd] 79;have HBK:=af M6;have d0:=CW.1 0 _ rfl;have d1:=CW.1 1 _ rfl;have V:=jq (HP.H bW) (HF.Z (Fr.H (T:=T3) bW)) (tb.1.H bW) (ad.size bW.size);have HS:=dy hr gU.1 gU;clear qM gU tb ad bW zW CW hr M6;subst hW;by_cases h1:s<=q1;{have Z:O (rC dop M q1 (jD (j+1) rs)=R/\GQ M q1):=⟨by rw[<-N.1,aj1 HS.1 (bM5 h1)],N.2⟩;go_wp2;go_roundw;exact⟨j+1,q1,M,_,_,_,_,ae,rfl,by go_num,Z,V.1,V.2.1⟩;exact dh};{
 have H1:O (q1<s):=by show _<_;omega
 go_wp21
 refine(cv1 s0 s1 q0 ae).h ?_;rintro z9 w2⟨rfl,rfl⟩;by_cases h2:s=q1+1;{
 have hf:sy q1 s:=by simp[sy,h2];omega
 rw[hf];have H2:=af h2;clear h2 hf;by_cases h3:4611686018427387904<s;{
 have Z:O ((M,q1)=R):=by show _=_;rw[<-N.1,TL HS.1 (aK6 (by have:=aa H1;simp only;omega) (.R h3))]
 obtain rfl:=aa Z;go_wp2;go_ret;exact⟨_,_,_,_,rfl,V.1,V.2.1⟩};{
 have rR:=bM6 (dop:=dop) (D:=M) (q:=q1) (r:=(s,y)) (by have:=aa H1;simp only;omega) (show¬((s,y).1≠q1+1\/4611686018427387904<(s,y).1)from by rw[Iu];exact⟨λh=>h H2,h3⟩);let⟨X,eX⟩:=bL (Fy M (dop y));simp only at rR;rw[aa eX]at rR;have lD:=af rR;clear rR
 go_wp21
 refine(dn8 V.1 N.2.1 em V.2.2.1 HS.2.1 hm cp V.2.2.2 (hM.H V.1.be) (af λk h1 h2=>(aa hT k h1 h2).H V.1.be) (aa hd y) eX).h ?_;rintro z9 w3⟨SB2,NB2,mL,UB2,rfl,P3,F3⟩;have We:=af P3;have HF3:=af (V.2.1.Z F3);have d3:=cX (F3.2 _ _ _ _ aX HBK) 0;clear d0 d1;clear P3 F3;obtain⟨B,D2⟩:=X;cases B with
 |false=>
  have Z:O ((M,q1)=R):=by show _=_;rw[<-N.1,TL HS.1 (by rw[aa lD];rfl)]
  obtain rfl:=aa Z;have eD:D2=M:=by have:=dp4 (D:=M) (o:=dop y) (by rw[aa eX]);rw[aa eX]at this;exact this
  rw[eD]at We;clear eD N;go_wp2;go_ret;exact⟨_,_,_,_,rfl,We,HF3⟩
 |true=>
  have bD:yx dop M q1 (s,y)=Y (D2,s):=by rw[aa lD];rfl
  have Z:O (rC dop D2 s (jD (j+1) rs)=R/\GQ D2 s):=⟨by rw[<-N.1,aj1 HS.1 bD],aK5 hd N.2 HS.2.2 bD⟩;clear bD;go_wp2;go_roundw;exact⟨j+1,s,D2,_,_,_,_,ae,rfl,by go_num,Z,We,HF3⟩;exact dh}};{
 have hf:sy q1 s=dF:=by simp[sy,h2]
 rw[hf];have Z:O ((M,q1)=R):=by show _=_;rw[<-N.1,TL HS.1 (aK6 (by have:=aa H1;simp only;omega) (.L h2))]
 obtain rfl:=aa Z;go_wp2;go_ret;exact⟨_,_,_,_,rfl,V.1,V.2.1⟩}}};{
 have cM:=fG j n;have ejn:j=n:=ae;have Z:O ((M,q1)=R):=by show _=_;rw[<-N.1,ejn,<-aa en,bR4]
 obtain rfl:=aa Z;clear N;go_wp2;go_ret;exact⟨_,_,_,_,rfl,HP,HF⟩}}
theorem VD.Bg(h:VD D):zI D.E D.N:=Rm h.ok h.gy h.cW
theorem bM7{SB NB HB UB:iN}(i:VD D)(h:PS w0 w b bs bn D SB NB HB UB):dQ dG 46 #[Pz b] w λr w'=>∃p c q d,r=dR (bS D.e D.g D.x D.t (.S p (J D.E) c) (.S q (J D.N) d))/\nG (U (Q w)) w' p (J D.E) c q (J D.N) d D.E D.N/\Bw w w':=
 (ah6 h.WQ i.Bg.s1 i.Bg.n1 (fx i.sl aX) (fx i.nl aX) i.Bg.s2 i.Bg.n2).h λr w'⟨p,c,q,d,E,B,e,y,u,s,o,m,j⟩=>⟨p,c,q,d,e,⟨E,B,y,u,s,o,m⟩,j⟩
theorem VD.re(h:VD D){d:Int}(q:D.e<=e)(N:e<=2^62)(hd:0<=d/\d<=1000015)(B:0<=t/\t<=1000000):VD ⟨e,D.g,D.x,t,D.E.map λs=>(s.1,d,[]),D.N.map lE⟩:=by
 have r:iS (D.E.map λs=>(s.1,d,[]))=iS D.E:=by unfold iS;rw[sA];rfl
 have R:qt (D.N.map lE)=qt D.N:=by unfold qt;rw[sA];rfl
 refine⟨⟨Int.le_trans h.e.1 q,N⟩,h.g,h.x,B,by show J (List.map _ _)<=_;rw[iH];exact h.sl,by show J (List.map _ _)<=_;rw[iH];exact h.nl,?_,λs E=>?_,?_,λV S=>?_⟩;{show List.Pairwise _ (iS (D.E.map _));rw[r];exact h.s1};{obtain⟨y,m,rfl⟩:=fg.1 E;exact⟨(h.s2 y m).1,hd,rfl,λe he=>by cases he⟩};{show List.Pairwise _ (List.map _ (D.N.map lE));rw[sA];exact h.n1};{obtain⟨y,m,rfl⟩:=fg.1 S;have j:=(h.n2 y m).dA q (tQ _);show NV _ _ (iS (D.E.map _)) (qt (D.N.map lE)) _;rw[r,R];exact⟨j.ep,j.vp,j.pb,j.cp,j.va,j.vb,j.ow,j.h1,j.h2,List.Pairwise.nil,(λi M=>by cases M),j.lk⟩}
variable {S:iP}
theorem dn0{iZ:iE}{a:Act}(i5 i6 t2 t3 d1 d2:Nat){ps ps':String}(pR:Region.ready md ops listed=[i5])(iC:Region.ready md ops (jI listed i5 dY)=[i6])(sH:Region.ready md ops (jI (jI listed i5 dY) i6 dY)=[])(uI:ops[i5]?=Y {dst:=dN,op:=Op.store 34 (Operand.tmp t2) (Operand.tmp d1),type:=0,pos:=ps,after:=A5,guard:=dN})(ho6:ops[i6]?=Y {dst:=dN,op:=Op.store 43 (Operand.tmp t3) (Operand.tmp d2),type:=0,pos:=ps',after:=A6,guard:=dN})(b1 b2:Nat)(e g x t:Int)(p:OA)(n c:Nat)(q:OA)(m d:Nat)(k i h s z:Int)(dp:OA)(dn dc:Nat)(np:OA)(nn nc:Nat)(vp:OA)(vn vc:Nat){o0 o1 o2 o3 o4 o5 r0 r1 r2 r3 r4 r5 r6 r7:dV}(e2:a.tmps[t2]?.getD jQ=Pz b1)(e3:a.tmps[d1]?.getD jQ=bS e g x t (.S p n c) (.S q m d))(e4:a.tmps[t3]?.getD jQ=Pz b2)(e5:a.tmps[d2]?.getD jQ=mB k i h s z (.S dp dn dc) (.S np nn nc) (.S vp vn vc))(h1:BX w b1 [o0,o1,o2,o3,o4,o5])(h2:RX w b2 [r0,r1,r2,r3,r4,r5,r6,r7])(Rg:b1≠b2)(hB:B<=b1/\B<=b2)(qc:∀w',(∀y,y≠b1->y≠b2->w'.heap[y]?=w.heap[y]?)->S w')(hQ:∀w',BX w' b1 [.U e,.U g,.U x,.I t,.S p n c,.S q m d]->RX w' b2 [.I k,.U i,.U h,.U s,.I z,.S dp dn dc,.S np nn nc,.S vp vn vc]->Below B w w'->(∀y,y≠b1->y≠b2->w'.heap[y]?=w.heap[y]?)->iZ .normal a w'):wpAnyH dG md ops iZ S 2 listed a w:=by
 refine Ug pR ai (Uf uI (λKK hK=>?_) fI);let⟨k0,k1,k2,k3,k4,k5,kf⟩:=h1.cells;go_simp;let⟨X,hX⟩:=aF (fv w b1 (.U e) (.U g) (.U x) (.I t) (.S p n c) (.S q m d));have bX:Below b1 w X:=hX▸sY _ _ _ _ _ _ _;have kX:∀y,y≠b1->X.heap[y]?=w.heap[y]?:=λy hy=>by rw[hX];exact Da hy
 have nY:=h1.put (.U e) (.U g) (.U x) (.I t) (.S p n c) (.S q m d);rw[<-hX]at nY;have Hk:=h2.eh (kX b2 (λe=>Rg e.C));unfold fv at hX;rw[<-hX];refine hK.out _ _ (qc X (λy h1 _=>kX y h1)) (λhS=>?_);clear hK KK hX k0 k1 k2 k3 k4 k5 kf;refine Ug iC ai (Uf ho6 (λKK hK=>?_) fI);let⟨k0,k1,k2,k3,k4,k5,k6,k7,kf⟩:=Hk.cells;go_simp;obtain⟨Fh,-⟩:=Hk.put (.I k) (.U i) (.U h) (.U s) (.I z) (.S dp dn dc) (.S np nn nc) (.S vp vn vc);have bY:=uV (w:=X) (b:=b2) (v0:=.I k) (v1:=.U i) (v2:=.U h) (v3:=.U s) (v4:=.I z) (v5:=.S dp dn dc) (v6:=.S np nn nc) (v7:=.S vp vn vc);let⟨iY,hY⟩:=aF (oR X b2 (.I k) (.U i) (.U h) (.U s) (.I z) (.S dp dn dc) (.S np nn nc) (.S vp vn vc));have kY:∀y,y≠b1->y≠b2->iY.heap[y]?=w.heap[y]?:=λy h1 h2=>by rw[hY,ak5 h2];exact kX y h1
 have BXY:BX iY b1 [.U e,.U g,.U x,.I t,.S p n c,.S q m d]:=nY.eh (hY▸ak5 Rg);rw[<-hY]at Fh bY;unfold oR fv at hY;rw[<-hY];refine hK.out _ _ (qc iY kY) (λhS=>?_);clear hK KK hY;refine Xr sH ?_ _;exact hQ iY BXY Fh ((bX.h hB.1).Z (bY.h hB.2)) kY
def IA(B:Nat)(w':G)(r:Ending)(D:SD)(R:RP):Prop:=∃p c q d v j i,r=dR (dT #[bS D.e D.g D.x D.t (.S p (J D.E) c) (.S q (J D.N) d),v])/\(B<=j/\B<=U (Q i))/\uP j i v R/\U (Q i)<=U (Q w')/\(∀b,j<=b->b<U (Q i)->w'.heap[b]?=i.heap[b]?)/\nG (U (Q i)) w' p (J D.E) c q (J D.N) d D.E D.N
def CT(w1 wc:G)(b bs bn u D:Nat)(A:SD×RP):Prop:=∃y NB B x o s m r j q,PS w1 wc b bs bn A.1 y NB B x/\RX wc u [.I A.2.k,.U A.2.i,.U A.2.e,.U A.2.g,.I A.2.n,.S o (J A.2.qB) s,.S m (J A.2.nms) r,.S j (J A.2.pG) q]/\uP D wc (mB A.2.k A.2.i A.2.e A.2.g A.2.n (.S o (J A.2.qB) s) (.S m (J A.2.nms) r) (.S j (J A.2.pG) q)) A.2
theorem dR6(w:G)(i:Nat)(o1 o2 o3 o4:Obj)(v:dV)(j:i<U (Q w)):Below i w (jS ((((w.alloc o1).alloc o2).alloc o3).alloc o4) (Ad i 0) v):=
 ((((((aR i w).alloc ae o1).alloc cg o2).alloc cg o3).alloc cg o4).setCell (p:=(Ad i 0)) az v)
theorem eD6(C:Int)(i:Nat)(w:G)(s:I w (Ad 1 0)=Y (.iface 279 (jP #[dP (Ad 5 168)])))(j:I w (Ad i 0)=dI 0)(u:jF w (Ad i 0)=dF)(B:Bool)(o:O (dD (C≠0)=B)):Cp 125 #[rZ C,.iface 172 (Pz i)] w λr w'=>r=dR (jO B)/\Below i w w'/\I w' (Ad i 0)=dI C:=by
 by_cases m:C=0;{
 subst m;obtain rfl:B=dF:=by rw[<-aa o];simp
 refine(eD4 _ w).h ?_;rintro r w'⟨rfl,rfl⟩;exact⟨rfl,aR _ _,j⟩};{
 obtain rfl:B:=by rw[<-aa o];simp[m]
 rw[rZ,aJ m];refine(eD5 i C _ w s j u).h ?_;rintro r w'⟨rfl,rfl⟩;have q:=nI w _ j;refine⟨rfl,dR6 w i _ _ _ _ _ q,Xt _ _ _ ?_⟩;rw[aj j ((((aR (U (Q w)) w).alloc az _).alloc ai _).alloc cg _ |>.alloc cg _)];rfl}
theorem dJ6(e g x t:Int)(p:OA)(n c:Nat)(q:OA)(m d:Nat)(ss:List aC)(ns:List au)(en:Le ss n)(em:Le ns m)(K S F E iG:Int)(pp:OA)(np cp:Nat)(pq:OA)(nv cv:Nat)(P V:LI)(eP:Le P np)(eV:Le V nv)(w:G)(h:O (mJ w (.S p n c) ss))(hN:O (iy w (.S q m d) ns))(hP:O (Rd w (.S pp np cp) P))(hV:O (Rd w (.S pq nv cv) V))(hn:Mg n)(hm:Mg m)(hp:np<=2^20)(gL:np<=cp)(ju:O (cp<=maxLen))(gy:O (Bs ss))(cW:O (Bn ns))(mU:O (Bu ns))(tp:O (Bo ns))(py:O (ML w))(bi2:O (qP w))(hEr:O (I w (Ad 1 0)=Y (.iface 279 (jP #[dP (Ad 5 168)]))))(bP:O (aA P))(hS:O (0<=S/\S<2^64))(Vk:O (0<=g/\0<=x))(R:SD×RP)(eR:O (AP e g x t ss ns K S F E iG P V=R))(dU0:O (∀(w1 M:G)(b bs bn:Nat)(SB NB HB UB:iN),wS w1 M b bs bn ⟨e,g,x,t,ss,ns⟩ SB NB HB UB S F E iG pp np cp pq nv cv P V->Cp 124 #[Pz b,rD K S (.S pp np cp) F (.S pq nv cv) E iG] M (JO w1 M b bs bn ⟨e,g,x,t,ss,ns⟩ (lM ⟨e,g,x,t,ss,ns⟩ K S F E iG P V))))(hAF:O (mY e g x t ss ns->Fd 51 (lM ⟨e,g,x,t,ss,ns⟩ K S F E iG P V).1.E (lM ⟨e,g,x,t,ss,ns⟩ K S F E iG P V).1.N)):dQ dG 63 #[bS e g x t (.S p n c) (.S q m d),rD K S (.S pp np cp) F (.S pq nv cv) E iG] w λr w'=>IA (U (Q w)) w' r R.1 R.2/\Bw w w':=by
 let⟨W0,bG,b0,z0,C0⟩:=sQ w (.U e) (.U g) (.U x) (.I t) (.S p n c) (.S q m d);obtain⟨W1,fo,b1,z1,C1,-⟩:=bM W0 #[.I K,.U S,.S pp np cp,.I F,.S pq nv cv,.U E,.U iG] 26;let⟨W2,fM,b2,z2,C2⟩:=yY W1;let⟨W3,kJ,b3,z3,C3⟩:=DO W2 (.I 0) (.U 0) (.U 0) (.U 0) (.I 0) aV aV aV;rw[z0]at C1 z1;rw[z1]at C2 z2;rw[z2]at C3 z3;have LQ:QB W3 (U (Q w)) _ _ _ _:=⟨((C0.H b1).H b2).H b3,(C1.H ae b2).H ae b3,C2.H b3,C3⟩;have bW:=ah (ah (ah b0 b1) b2) b3;have HA:=af (λ(v:G)(D:Bw W3 v)=>aD (QB.W LQ (λj h1 h2=>D.block j ae)) (aD (h.H (ah bW D)) (aD (hN.H (ah bW D)) (aD (hP.H (ah bW D)) (aD (hV.H (ah bW D)) (ah bW D))))));have BR:=af (aR (U (Q W3)) W3);have Z3:=af z3;clear b0 b1 b2 b3 C0 C1 C2 C3 LQ bW z3;have hR:=aa eR;unfold AP at hR;let⟨ok,ld⟩:=bL (mY e g x t ss ns);rw[aa ld]at hR;have HR:=af hR;clear hR;go_in
 go_wp21
 rw[<-bG,<-fo,<-fM,<-kJ];clear bG fo fM kJ;refine cK (ap8 en em (aa HA W3 BR).2.1 (aa HA W3 BR).2.2.1 hn hm gy cW mU tp (py.H (aa HA W3 BR).2.2.2.2.2) ld) λw1 ao=>?_;have B1:=af ao;have L8:=ao.size;have e9:=aa HR;clear ao HR;cases ok;{rw[aJ ai]at e9;have E9:=af e9;obtain⟨LW,-,-,-,-,bw⟩:=aa HA w1 B1;have jw:=af (show TX w1 (U (Q w)) _ _ _ from⟨LW.1,LW.2.2.1,LW.2.2.2⟩);have BW:=af bw;clear e9 LW bw;let⟨q0,q1,q2,q3,q4,q5,qf⟩:=jw.2.1.cells;let⟨r0,r1,r2,r3,r4,r5,r6,r7,rf⟩:=jw.2.2.cells;go_wp2;let⟨fF,bF⟩:=TX.fin jw (.U 0) (.U 0) (.U 0) (.I 0) aV aV (.I 1) (.U 0) (.U 0) (.U 0) (.I 0) aV aV aV;refine bO (v:=dT #[bS 0 0 0 0 aV aV,mB 1 0 0 0 0 aV aV aV]) (by simp[results,results63,go_sem,q0,q1,q2,q3,q4,q5,r0,r1,r2,r3,r4,r5,r6,r7]) rfl ⟨?_,BW.Z bF⟩;rw[<-aa E9];exact⟨dN,0,dN,0,_,U (Q w),w,rfl,⟨fq _,fq _⟩,uP.num _ _ _ _ _ _ _,(BW.Z bF).size,λb h1 h2=>ae,nG.zero _ _⟩};{
 rw[aK rfl]at e9;have E9:=af e9;have cm5:=Rm ld gy cW;have HF:=af cm5;let⟨LW,r1,r2,r3,r4,bw⟩:=aa HA w1 B1;have BW:=af bw;obtain⟨i0,i1,i2,i3,i4,i5,-⟩:=LW.1.cells;have HRW:=jq r1 r2 r3 r4;clear e9 LW bw r1 r2 r3 r4 cm5
 go_wp21
 clear i0 i1 i2 i3 i4 i5;refine(Ty en em HRW.1 HRW.2.1 hn hm (af λs hs=>(HF.s2 s hs).1) HF.s3 cW mU HF.n3).h ?_;rintro r M⟨b,bs,bn,SB,NB,HB,UB,rfl,bD,ay⟩;have PS2:=PS.of bD ay HF (aa en▸hn) (aa em▸hm);have B2:=af (ah B1 ay);obtain⟨LW,-,-,r3,r4,bw⟩:=aa HA M B2;have CX:=af (show wS w1 M b bs bn ⟨e,g,x,t,ss,ns⟩ SB NB HB UB S F E iG pp np cp pq nv cv P V from⟨PS2,GD.of ld HF Vk.1 Vk.2,hS,eP,eV,r3,.L HRW.2.2.2,bP,hp,gL,ju,py.H bw,λk h1 h2=>(aa bi2 k h1 h2).H bw⟩);let⟨o0,o1,o2,o3,o4,o5,o6⟩:=Hg LW.2.1.1;have OM:=af bw;have z12:=ay.size;clear PS2 bD ay LW r3 r4 bw
 go_wp21
 clear o0 o1 o2 o3 o4 o5 o6;refine(aa dU0 _ _ _ _ _ _ _ _ _ CX).h ?_;rintro r u⟨D',R',C,⟨Oh,Ol,yr,Oc,v3,rfl,F3,P3,L3⟩,Lh,-⟩;have F3':=af F3;have hRC:R=(if C=0 then(D',R')else(⟨e,g,x,t,ss,ns⟩,kP C)):=E9.C.Z Lh;have P3':O (PS w1 u b bs bn R.1 Oh Ol yr Oc):=by rw[hRC];by_cases N:C=0;{rw[aK N]at P3⊢;exact P3};{rw[aJ N]at P3⊢;exact P3}
 obtain⟨W,eRx⟩:∃W,(if C=0 then R' else ka)=W:=⟨_,rfl⟩;rw[eRx]at L3;have HRX:=af (show(C=0->W=R.2)/\(C≠0->kP C=R.2)from⟨λN=>by rw[<-eRx,hRC,aK N,aK N],λN=>by rw[hRC,aJ N]⟩);have L3':=af L3;obtain⟨p1,c1,p2,c2,p3,c3,A1,A2,A3,rfl,-⟩:=L3;let⟨n1,uo⟩:=bL (J W.qB);let⟨n2,vZ⟩:=bL (J W.nms);let⟨n3,Ns⟩:=bL (J W.pG);rw[aa uo,aa vZ,aa Ns]at L3'⊢;let⟨iY,hY,bY,zY,RY⟩:=DO u (.I W.k) (.U W.i) (.U W.e) (.U W.g) (.I W.n) (.S p1 n1 c1) (.S p2 n2 c2) (.S p3 n3 c3);obtain⟨Z,hZ,bZ,zZ,CZ,-⟩:=bM iY #[.I 0] 107;rw[zY]at CZ zZ;have ZU:=ah OM ((aR (U (Q M)) M));have hEw:I u (Ad 1 0)=Y (.iface 279 (jP #[dP (Ad 5 168)])):=by have h1:=aj hEr BW;exact aj h1 P3'.be
 have hEz:=aj hEw (bY.Z (bZ.h ae));have HRY:=dy RY bY bZ;have t0:=CZ.1 0 _ rfl;have tf:=CZ.2;let⟨BC,eBC⟩:=bL (dD (C≠0));have HAS:=af (eD6 C (U (Q u)+1) Z hEz t0 (tf 0) BC eBC);have LM:=br zY zZ;clear F3 hRC Lh P3 eRx RY bY bZ CZ ZU hEw hEz t0 tf zY zZ
 go_wp21
 rw[<-hY,<-hZ];clear hY hZ;refine HAS.h ?_;rintro r w4⟨rfl,cG,hf4⟩;have B4:=af cG;have F4:=af hf4;have cG1:Bw u w4:=(HRY.2.1.Z (HRY.2.2.h (aM LM.1))).Z (cG.h ae);have R4:=(HRY.1.H HRY.2.2).eh (w':=w4) (cG.block _ (aM LM.2));have Wm:=af cG1;have DS:=af R4;clear cG hf4 cG1 R4
 go_upto_if 25 with fail
 go_cut[](λwc=>O (CT w1 wc b bs bn (U (Q u)) (U (Q M)) R)/\O (Bw u wc))
 case first=>(
 cases BC;{
 go_wp21
 go_meet;have N:C=0:=by have:=aa eBC;simpa using this
 have eq:=HRX.1 N;refine⟨af ⟨Oh,Ol,yr,Oc,p1,c1,p2,c2,p3,c3,P3'.H Wm,?_,?_⟩,Wm⟩;{rw[<-eq,aa uo,aa vZ,aa Ns];exact DS};{rw[<-eq,aa uo,aa vZ,aa Ns];exact L3'.W (λz _ h2=>Wm.block z h2) Wm.size}};{
 let⟨r0,r1,r2,r3,r4,r5,r6,r7,rf⟩:=DS.cells;have f4:=aa F4
 go_wp21
 go_meet;have N:C≠0:=by have:=aa eBC;simpa using this
 have eq:=HRX.2 N;refine⟨af ⟨Oh,Ol,yr,Oc,dN,0,dN,0,dN,0,?_,?_,?_⟩,af (Wm.Z (uV))⟩;{exact(P3'.H Wm).rep DS (aM P3'.be.size) _ _ _ _ _ _ _ _};{rw[<-eq];exact(DS.put _ _ _ _ _ _ _ _).1};{rw[<-eq];exact uP.num _ _ _ _ _ _ _}})
 case rest=>(
 obtain⟨MY,pf⟩:=hcut;let⟨SB9,NB9,HB9,UB9,y1,d1,y2,d2,y3,d3,P9,R9,L9⟩:=aa MY;let⟨m1,em1⟩:=bL (J R.2.qB);let⟨m2,em2⟩:=bL (J R.2.nms);let⟨m3,em3⟩:=bL (J R.2.pG);rw[aa em1,aa em2,aa em3]at R9 L9;have hFS:=aa hAF ld;rw[aa E9]at hFS;have Ox:=af hFS;have HP9:=dy P9 R9 L9;have Hx:=af (λ(vs:iA)(w:G)=>show(callFunc 46 vs).run dG w=.ok (.enter 46 vs) w by kernel_rfl);clear P9 R9 L9 hFS MY
 go_wp21
 let⟨vA,de⟩:=aF wc.drew;have bA:=mW de;have Hy:=af bA;have SA:=af (λ(v:G)(D:RX v (U (Q u)) [.I R.2.k,.U R.2.i,.U R.2.e,.U R.2.g,.I R.2.n,.S y1 m1 d1,.S y2 m2 d2,.S y3 m3 d3])=>(aD D.cells.1 (aD D.cells.2.1 (aD D.cells.2.2.1 (aD D.cells.2.2.2.1 (aD D.cells.2.2.2.2.1 (aD D.cells.2.2.2.2.2.1 (aD D.cells.2.2.2.2.2.2.1 D.cells.2.2.2.2.2.2.2.1)))))):I v (Aw u 0)=dI R.2.k/\I v (Aw u 1)=dU R.2.i/\I v (Aw u 2)=dU R.2.e/\I v (Aw u 3)=dU R.2.g/\I v (Aw u 4)=dI R.2.n/\I v (Aw u 5)=dS y1 m1 d1/\I v (Aw u 6)=dS y2 m2 d2/\I v (Aw u 7)=dS y3 m3 d3));refine fK (λv=>I v (Aw u 0)=dI R.2.k/\I v (Aw u 1)=dU R.2.i/\I v (Aw u 2)=dU R.2.e/\I v (Aw u 3)=dU R.2.g/\I v (Aw u 4)=dI R.2.n/\I v (Aw u 5)=dS y1 m1 d1/\I v (Aw u 6)=dS y2 m2 d2/\I v (Aw u 7)=dS y3 m3 d3) (de▸aa SA vA (HP9.2.1.H bA)) λhS=>?_;rw[<-de]at hS⊢;clear de bA;refine gh 0 2 hS ?_;refine ft 1 λKK hK=>?_;refine Ic aP aP aP (λ_=>aa Hx _ _) (ah6 (HP9.1.H Hy).WQ Ox.s1 Ox.n1 (aM Ox.sl) (aM Ox.nl) (af λs hs=>⟨(Ox.s2 s hs).1,aM (Ox.s2 s hs).2.1,λe he=>aM ((Ox.s2 s hs).2.2 e he)⟩) (af λnd aG=>by let⟨f1,f2,f3,f4,f5,f6,f7⟩:=Ox.n2 nd aG;exact⟨f1,ae,ae,ae,ae,f6,f7⟩)) ?_
 rintro r v2⟨p',c',q',d',A1',A2',rfl,s1,s2,s3,s4,s5,cR⟩;refine⟨_,rfl,?_⟩;have il:=af (show nG (U (Q vA)) v2 p' (J R.1.E) c' q' (J R.1.N) d' R.1.E R.1.N from⟨A1',A2',s1,s2,s3,s4,s5⟩);have B5:=af cR;have BC5:=af (ah pf (ah Hy cR));refine bQ hK (by exact SA v2 (HP9.2.1.H (ah Hy cR))) λhS=>?_;clear hK KK s1 s2 s3 s4 s5 cR;have LQ2:=(aa HA M B2).1;have BX5:=(LQ2.2.2.1.T F3').H BC5;have RX5:=(LQ2.2.2.2.T F3').H BC5;have R5:=HP9.2.1.H (ah Hy B5);have zz1:=aa Z3;have zz2:=F3'.1;refine dn0 3 4 4 5 30 31 aU aU aU rfl rfl (U (Q w)+1+1) (U (Q w)+1+1+1) R.1.e R.1.g R.1.x R.1.t p' (J R.1.E) c' q' (J R.1.N) d' R.2.k R.2.i R.2.e R.2.g R.2.n y1 m1 d1 y2 m2 d2 y3 m3 d3 rfl rfl rfl rfl BX5 RX5 (B:=U (Q w)+1+1) ae ⟨fq _,ae⟩ (λv D=>aa SA v (R5.eh (D _ ae ae))) ?_;intro w' ao pR bl hk;refine Hf ?_;let⟨q0,q1,q2,q3,q4,q5,qf⟩:=ao.cells;let⟨r0,r1,r2,r3,r4,r5,r6,r7,rf⟩:=pR.cells;have HBL:=br bl hk;clear hS LQ2 BX5 RX5 R5 ao pR bl hk;go_wp2;refine bO (v:=dT #[bS R.1.e R.1.g R.1.x R.1.t (.S p' (J R.1.E) c') (.S q' (J R.1.N) d'),mB R.2.k R.2.i R.2.e R.2.g R.2.n (.S y1 m1 d1) (.S y2 m2 d2) (.S y3 m3 d3)]) (by simp[results,results63,go_sem,q0,q1,q2,q3,q4,q5,r0,r1,r2,r3,r4,r5,r6,r7]) rfl ⟨⟨p',c',q',d',_,U (Q M),vA,rfl,⟨OM.size,by have:=OM.size;have:=Hy.size;have:=pf.size;omega⟩,?_,?_,?_,?_⟩,?_⟩;{exact HP9.2.2.W (λz _ h2=>Hy.block z h2) Hy.size};{exact fx B5.size HBL.1.size};{intro z h1 h2;exact(HBL.2 z ae ae).Z (B5.block z h2)};{exact il.W (λz h1 h2=>HBL.2 z (by have:=Hy.size;have:=pf.size;omega) (by have:=Hy.size;have:=pf.size;omega))};{have h1:=BW.Z (P3'.be.h BW.size);have h2:=h1.Z (BC5.h h1.size);exact h2.Z (HBL.1.h ae)})}
abbrev JK(K:Int):Prop:=K=1\/K=3\/K=4\/K=5\/K=7\/K=8\/K=9
theorem dJ7(e g x t:Int)(p:OA)(n c:Nat)(q:OA)(m d:Nat)(ss:List aC)(ns:List au)(en:Le ss n)(em:Le ns m)(K S F E iG:Int)(o:OA)(i j:Nat)(pq:OA)(nv cv:Nat)(P V:LI)(eP:Le P i)(eV:Le V nv)(w:G)(h:O (mJ w (.S p n c) ss))(hN:O (iy w (.S q m d) ns))(hP:O (Rd w (.S o i j) P))(hV:O (Rd w (.S pq nv cv) V))(hn:Mg n)(hm:Mg m)(hp:i<=2^20)(gL:i<=j)(ju:O (j<=maxLen))(D:O (Bs ss))(N:O (Bn ns))(mU:O (Bu ns))(X:O (Bo ns))(Z:O (ML w))(y:O (qP w))(s:O (I w (Ad 1 0)=Y (.iface 279 (jP #[dP (Ad 5 168)]))))(W:O (aA P))(hS:O (0<=S/\S<2^64))(B:O (0<=g/\0<=x))(R:SD×RP)(eR:O (AP e g x t ss ns K S F E iG P V=R))(hj:O (JK K)):dQ dG 63 #[bS e g x t (.S p n c) (.S q m d),rD K S (.S o i j) F (.S pq nv cv) E iG] w λr w'=>IA (U (Q w)) w' r R.1 R.2/\Bw w w':=
 dJ6 e g x t p n c q m d ss ns en em K S F E iG o i j pq nv cv P V eP eV w h hN hP hV hn hm hp gL ju D N mU X Z y s W hS B R eR (af λ_ _ _ _ _ _ _ _ _ cx=>cF2 hj cx) (af λu=>by have hF:=Rm u D N;have M:=GD.of u hF B.1 B.2;exact(AF.apply (K:=K) (S:=S) (F:=F) (E:=E) (iG:=iG) (V:=V) (Fd.of u hF) M.wf.x M.sx W).1)
end Go.Proofs.YtpkakgkipopiaaaGreatDoor
