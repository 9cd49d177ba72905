import Derived.Test.YtdloolggnjjfoaaGreatDoorK10
import Derived.Test.YtdloolggnjjfoaaGreatDoorK11
open Array renaming size->U
open Bool renaming false->dF,true->dY
open Decidable renaming decide->dD
open Go renaming Calls->dQ,Value->dV,World->G
open Go.Ending renaming returned->dR
open Go.Obj renaming cells->dO
open Go.Proofs.Tryz renaming prog->dG
open Go.RowKit renaming Hid->O
open Go.Value renaming I->dI,pointer->dP,S->dS,tuple->dT,U->dU
open Go.World renaming cell?->I
open List renaming length->J
open Option renaming none->dN,some->Y
namespace Go.Proofs.YtdloolggnjjfoaaGreatDoor
set_option maxHeartbeats 25600000
set_option linter.all false
set_option maxRecDepth 100000
open Go.ChangeShapes Go.WideShapes Go.ChangeAt Go.RowKit Go.Maps
def xv(B:Nat)(w:G)(v:dV)(R:RP):Prop:=∃(o:OA)(s:Nat)(m:OA)(r:Nat)(j:OA)(q:Nat),v=gG R.k R.i R.e R.g R.n (.S o (J R.sL) s) (.S m (J R.nms) r) (.S j (J R.rZ) q)
variable {B b bs bn z np cp nv cv i k n d a' c sz M N X:Nat}{w w' V3 w1 u:G}{v o0 o1 o2 o3 o4 o5 v0 v1 v2 v3 v4 v5 v6:dV}{R:RP}{D:SD}{e g K S F E iG C x kd:Int}{fn:Func}{a:Act}{w0:World}{pp pq p:OA}{ty:TypeId}{ss ss':List aB}{s:aB}{ns:List ar}{nd nd':ar}{P V l m m' iI xs m3:LI}{t t' sh sh' s3:Bool}{y:List UInt8}{ev:Ev}{Ls:List (List Lf)}{A:List Lf}{vs:List dV}{row:Option Nat}{om:Option LI}{md:Region.Mode}{ops:iQ}{listed:Array Bool}{A5 A6:Array Edge}
def xv.W(h:xv B w v R)(j:∀b,B<=b->b<U w.heap->w'.heap[b]?=w.heap[b]?)(i:U w.heap<=U w'.heap):xv B w' v R:=h
def xv.h{B':Nat}(h:xv B w v R)(i:B'<=B):xv B' w v R:=h
def xv.num(B:Nat)(w:G)(k i e g n:Int):xv B w (rpn ⟨k,i,e,g,n,[],[],[]⟩) ⟨k,i,e,g,n,[],[],[]⟩:=⟨dN,0,dN,0,dN,0,rfl⟩
def bF6(w0 w:G)(b bs bn:Nat)(D:SD)(R:RP)(r:Ending)(w':G):Prop:=∃j NB m i v,PS w0 w' b bs bn D j NB m i/\Fr T3 w w'/\r=dR v/\xv (U w.heap) w' v R
def uq.r{w0:G}{SB NB HB UB:iN}{k i n:Int}{r:Ending}(h:uq w0 w b bs bn D SB NB HB UB ⟨k,i,e,g,n,[],[],[]⟩ r w'):bF6 w0 w b bs bn D ⟨k,i,e,g,n,[],[],[]⟩ r w':=⟨SB,NB,HB,UB,_,h.1,h.2.1,h.2.2,xv.num _ _ _ _ _ _ _⟩
open Go.Proofs.Tryz
def Whn(C:Int)(P:Prop):Prop:=C=0->P
def cQ7(w0 w:G)(b bs bn:Nat)(D o:SD)(R:RP)(C:Int)(r:Ending)(w':G):Prop:=∃j NB m i v,r=dR (dT #[v,qS C])/\Fr T3 w w'/\PS w0 w' b bs bn (if C=0 then o else D) j NB m i/\xv (U w.heap) w' v (if C=0 then R else js)
variable {R:Ending->G->Prop}
def aO9{Z:G}{D B:dV}(S:O (RX Z z [o0,o1,o2,o3,o4,o5,D,B]))(hf:fn.results=#[.cell 4 47,.tmp 5])(N:a.tmps.getD 4 undef=Pz z)(E:dV)(X:a.tmps.getD 5 undef=E)(M:a.defers=[]){v7:dV}(V:R (dR (dT #[.agg #[v0,v1,v2,v3,v4,v5,v6,v7],E])) (nw Z z v0 v1 v2 v3 v4 v5 v6 v7)):bodyPost dG fn R .ret a (nw Z z v0 v1 v2 v3 v4 v5 v6 v7):=by
 obtain⟨y,x,u,s,r,q,o,m,-⟩:=(S.put v0 v1 v2 v3 v4 v5 v6 v7).1.cells;generalize nw Z z v0 v1 v2 v3 v4 v5 v6 v7=W at*;refine cg (v:=dT #[.agg #[v0,v1,v2,v3,v4,v5,v6,v7],E]) ?_ M V;have j:=N;have i:=X;simp only[cb0]at j i;simp[results,hf,go_sem,j,i,y,x,u,s,r,q,o,m]
def eG5{w:World}{D':SD}{SB NB HB UB:iN}(h:Hid (PS w0 w b bs bn D SB NB HB UB)){j o:Int}(eC:Hid ((if j=0 then o else j)=C)){R:RP}{v:Value}{W Z:FuncId}{vC vA:Value}(dZ4:Hid (∀w',Bw w w'->Cp 227 #[Pz b,qZ K S (.S pp np cp) F (.S pq nv cv) E iG] w' λr m=>r=.returned (qS j)/\Bw w' m))(dQ6:Hid (Whn j (∀w',Bw w w'->Cp 228 #[qZ K S (.S pp np cp) F (.S pq nv cv) E iG] w' λr m=>r=.returned (.iface ty v)/\Bw w' m)))(hmC : ∀w,(Go.method 525 ty v "loop.example/s02132/impl.check").run prog w = .ok (W,vC) w)(hmA : ∀w,(Go.method 525 ty v "loop.example/s02132/impl.act").run prog w = .ok (Z,vA) w)(hfC:∀vs w,(callFunc W vs).run prog w=.ok (.enter W vs) w)(UN:∀vs w,(callFunc Z vs).run prog w=.ok (.enter Z vs) w)(dZ6:Hid (Whn j (∀w',Bw w w'->Calls prog W #[vC,Pz b] w' λr m=>r=.returned (qS o)/\Bw w' m)))(ec4:Hid (Whn j (Whn o (∀w',Bw w w'->Calls prog Z #[vA,Pz b] w' (bF6 w0 w' b bs bn D' R))))):Calls prog 194 #[Pz b,qZ K S (.S pp np cp) F (.S pq nv cv) E iG] w (cQ7 w0 w b bs bn D D' R C):=by
 let⟨X,hX,bX,zX,CX,gX⟩:=bQ w #[.I K,.U S,.S pp np cp,.I F,.S pq nv cv,.U E,.U iG] 65;let⟨N,hY,bY,zY,RY⟩:=xt X (.I 0) (.U 0) (.U 0) (.U 0) (.I 0) aq aq aq;rw[zX]at RY;have bW:=ai bX bY;have HA:=ag (λ(u:World)(hu:Bw N u)=>aF (ai bW hu) (aF ((CX.H af bY).H af hu) (RY.H hu)));have BY0:=ag (aR N.heap.size N);have HC:=gI hmC hmA hfC UN;have vY:=h.be.size;have HZ:=ag zY;go_in;go_wp2_with fail;rw[<-hX,<-hY];refine(ae dZ4 N (ae HA N BY0).1).h ?_;rintro r w1⟨rfl,au⟩;let⟨b1,s,R1⟩:=ae HA w1 au;have o0:=s.1 0 _ rfl;have o1:=s.1 1 _ rfl;have o2:=s.1 2 _ rfl;have o3:=s.1 3 _ rfl;have o4:=s.1 4 _ rfl;have o5:=s.1 5 _ rfl;have o6:=s.1 6 _ rfl;have B1:=ag au;have M:=ag b1;have sQ:=ag R1;by_cases y:j=0;{
 have e0:qS j=.nilIface:=by rw[y];rfl
 rw[e0];have H0:=ag y;have q:o=C:=by have:=ae eC;rwa [aM y]at this
 subst q;go_wp2_with fail;refine(ae dQ6 H0 w1 M).h ?_;rintro r w2⟨rfl,ay⟩;have B2:=ag (ai B1 ay);have lh:=ag (ai M ay);have mC:=ae HC;go_wp2_with fail;refine(ae dZ6 H0 w2 lh).h ?_;rintro r w3⟨rfl,aI⟩;have B3:=ag (ai B2 aI);have x:=ag (ai lh aI);by_cases Kv:o=0;{
 have e1:qS o=.nilIface:=by rw[Kv];rfl
 rw[e1];have i:=ag Kv;go_wp2_with fail;refine(ae ec4 H0 i w3 x).h ?_;rintro r w4⟨NF,NQ,xC,Ny,v4,P4,F4,rfl,L4⟩;have L4':=L4;obtain⟨p1,c1,p2,c2,p3,c3,A1,A2,A3,rfl,-⟩:=L4';have R4:=(ae HA w3 B3).2.2.T F4;have r0:=R4.cells;have Dj:=ag R4;have V:=du P4 F4 L4;let⟨n1,sK⟩:=aY R.sL.length;let⟨n2,uY⟩:=aY R.nms.length;let⟨n3,Nb⟩:=aY R.rZ.length;rw[sK,uY,Nb]at V⊢;go_wp2;have z3:=x.size;have z4:=V.2.1.1;have zz:=ae HZ;have zB:=B3.size;refine aO9 Dj aU rfl .nilIface rfl rfl ⟨NF,NQ,xC,Ny,_,by rw[ae i];rfl,((Fr.H (T:=T3) (ae x)).Z V.2.1).low ((tQ (b:=w.heap.size+1)).h af),?_,?_⟩;{rw[aM (ae i)];exact PS.rep V.1 Dj af _ _ _ _ _ _ _ _};{rw[aM (ae i)];exact(V.2.2.W (λz h1 _=>ak2 af) (tQ).size).h af}};{
 have e1:qS o=.iface 171 (.agg #[.I o]):=by rw[qS,aL Kv]
 rw[e1];have i:=ag Kv;obtain⟨-,-,R3⟩:=ae HA w3 B3;have r0:=R3.cells;have tF:=ag R3;go_wp2;have z3:=x.size;refine aO9 tF aU rfl (.iface 171 (.agg #[.I o])) rfl rfl ⟨SB,NB,HB,UB,_,by rw[qS,aL (ae i)],(Fr.H (T:=T3) (ae x)).low ((tQ).h af),?_,?_⟩;{rw[aL (ae i)];exact PS.rep (h.H x) tF af _ _ _ _ _ _ _ _};{rw[aL (ae i)];exact xv.num _ _ _ _ _ _ _}}};{
 have eV:qS j=.iface 171 (.agg #[.I j]):=by rw[qS,aL y]
 rw[eV];have i:=ag y;have q:j=C:=by have:=ae eC;rwa [aL y]at this
 subst q;have r0:=sQ.cells;go_wp2;have z3:=M.size;refine aO9 sQ aU rfl (.iface 171 (.agg #[.I j])) rfl rfl ⟨SB,NB,HB,UB,_,by rw[qS,aL (ae i)],(Fr.H (T:=T3) (ae M)).low ((tQ).h af),?_,?_⟩;{rw[aL (ae i)];exact PS.rep (h.H M) sQ af _ _ _ _ _ _ _ _};{rw[aL (ae i)];exact xv.num _ _ _ _ _ _ _}}
def aN6(h:(List.range (J ss)).all (wC x ss))(m:s∈ss):1<=s.1/\s.1<=x/\wG s.2.2:=by
 let⟨i,j⟩:=jk.1 m;have:=ky.1 h i (by simpa using(bg.1 j).1);unfold wC at this;rw[im,j]at this;simp only[rJ,gL,jX]at this;exact⟨this.1,this.2.1,this.2.2.2.2.2⟩
def rF.of(hF:yC ss ns)(h:(List.range (J ss)).all (wC x ss)):rF ss:=
 ⟨hF.s1,λs i=>(hF.s2 s i).1,λs i=>by have:=(aN6 h i).2.2;unfold wG at this;simp only[gL,jX]at this;exact this.1⟩
def bX9(h:(List.range (J ns)).all (uy e g ss ns))(j:ns[i]?=nd):vp nd.A:=by
 have:=ky.1 h i (by simpa using(bg.1 j).1);unfold uy at this;rw[im,j]at this;simp only[rJ,gL]at this;exact this.1.1
def WF.of{t:Int}(h:lr e g x t ss ns)(hF:yC ss ns)(R:0<=g)(B:0<=x):WF ⟨e,g,x,t,ss,ns⟩:=by
 unfold lr at h;simp only[gL,jX]at h;obtain⟨⟨Z,N,M,E,D,X,W⟩,V,u⟩:=h;refine⟨⟨R,N⟩,⟨B,M⟩,⟨E,D⟩,λo m=>?_,λo m=>?_,λo m=>(hF.n2 o m).2.2.1,λo m hm=>?_,λi j a c s hc y=>?_⟩;{obtain⟨a,b,c,d,f,-⟩:=hF.n2 o m;exact⟨b,f,d⟩};{let⟨i,r⟩:=jk.1 m;exact⟨bX9 u r,(hF.n2 o m).1,(hF.n2 o m).2.1⟩};{let⟨i,r⟩:=jk.1 m;intro S;have:=ao1 (al3 u r).1 hm;rw[S]at this;cases this};{obtain q|q|q:=Mh i j;{exact absurd y (hF.n3 i j a c s hc q)};{exact q};{exact absurd y.C (hF.n3 j i c a hc s q)}}
def qE(w:G):Prop:=∀k:Nat,1<=k->k<=13->Jh w 0 (k*7) (rowOf k).1 (rowOf k).2.1 (rowOf k).2.2.1 (rowOf k).2.2.2.1 (rowOf k).2.2.2.2.1 (rowOf k).2.2.2.2.2.1 (rowOf k).2.2.2.2.2.2
structure GD(D:SD):Prop where
 wf:WF D
 ci:CI D.E D.N
 pw:(D.N.map λnd=>jA nd.A).Pairwise (·<·)
 ho:∀nd∈D.N,(nd.M=1->J nd.y=1)/\(nd.M≠1->nd.P=0/\nd.F=0/\(nd.M=0->J nd.y=0))
 sx:∀s∈D.E,s.1<=D.x
 ql:∀s∈D.E,J s.2.2<=1048576/\∀e∈s.2.2,J e.2<=1048576
 wl:∀nd∈D.N,J nd.X<=1048576
 sl:J D.E<1048576
 nl:J D.N<1048576
def GD.of{t:Int}(h:lr e g x t ss ns)(hF:yC ss ns)(E:0<=g)(D:0<=x):GD ⟨e,g,x,t,ss,ns⟩:=by
 have r:=h;unfold lr at r;simp only[gL,jX]at r;obtain⟨⟨-,-,-,-,-,N,M⟩,B,y⟩:=r;refine⟨WF.of h hF E D,⟨rF.of hF B,λm j=>?_,KD.of hF⟩,hF.n1,λm j=>?_,λs o=>(aN6 B o).2.1,λs o=>(hF.s2 s o).2,λm j=>(hF.n2 m j).2.2.2.2.1,by show J ss<_;omega,by show J ns<_;omega⟩;{let⟨i,q⟩:=jk.1 j;exact⟨NT.of hF y q,(hF.n2 m j).2.2.2.2.2.1,(hF.n2 m j).2.2.2.1⟩};{let⟨i,q⟩:=jk.1 j;obtain⟨u,-⟩:=al3 y q;exact⟨λhm=>ao1 u hm,λhm=>aX2 u hm⟩}
structure vm(w0 w:G)(b bs bn:Nat)(D:SD)(SB NB HB UB:iN)(S F E iG:Int)(pp:OA)(np cp:Nat)(pq:OA)(nv cv:Nat)(P V:LI):Prop where
 ps:PS w0 w b bs bn D SB NB HB UB
 gd:GD D
 hS:0<=S/\S<2^64
 eP:J P=np
 eV:J V=nv
 hP:Rd w (.S pp np cp) P
 hV:AB w0 w (.S pq nv cv) V
 hB:aC P
 hp:np<=1048576
 fM:np<=cp
 gC:cp<=maxLen
 hm:∃m,I w (Ad 2 0)=dI m
 hT:qE w
def vm.H{w0:G}{SB NB HB UB:iN}(h:vm w0 w b bs bn D SB NB HB UB S F E iG pp np cp pq nv cv P V)(i:Bw w w'):vm w0 w' b bs bn D SB NB HB UB S F E iG pp np cp pq nv cv P V:=
 ⟨h.ps.H i,h.gd,h.hS,h.eP,h.eV,h.hP.H i,h.hV.T (bH i) aj,h.hB,h.hp,h.fM,h.gC,by obtain⟨m,hm⟩:=h.hm;exact⟨m,al hm i⟩,λk o j=>(h.hT k o j).H i⟩
theorem bZ4:xK ns P<0↔jW ns P=dN:=by
 constructor;{
 intro h;cases hn:jW ns P with
 |none=>rfl
 | some j=>
  exfalso;unfold xK at h;cases hf:ns.findIdx? (λj=>dD (j.A=P))with
  |some i=>rw[hf]at h;simp at h;omega
  |none=>
   have o:=Xk.1 hf j (an0 hn);have m:=Xp hn;rw[o]at m;cases m};{
 intro h;rw[bZ5 h]
 decide}
theorem eL6(o:1<=k)(m:k<=13)(i:Aj D (rowOf k).1 (rowOf k).2.1 (qR k S F (J P) (J V) E iG) k S P=C)(q:C≠0):mW D k S F E iG P V=(D,ni C):=by
 have hf:CD k S F (J P) (J V) E iG=qR k S F (J P) (J V) E iG:=by rw[CD,aM af,uC]
 unfold mW;rw[hf];cases hB:qR k S F (J P) (J V) E iG with
 |false=>
  rw[hB]at i;simp only[Aj,od]at i;rw[aM rfl,i]
 |true=>
  rw[hB]at i;rw[aL aj];by_cases j:(rowOf k).1/\lW D.E S<0;{
 have u:C=3:=by rw[<-i];simp[Aj,j]
 obtain rfl|rfl|rfl|rfl|rfl|rfl|rfl|rfl|rfl|rfl|rfl|rfl|rfl:=kinds o m<;>simp_all[rowOf,DT]}
  {
 have r:(if(rowOf k).2.1 then Dz D k P else 0)=C:=by rw[<-i];simp only[Aj,Bool.true_eq_false,yT,j]
 clear i hf hB;subst r;unfold JH;obtain rfl|rfl|rfl|rfl|rfl|rfl|rfl|rfl|rfl|rfl|rfl|rfl|rfl:=kinds o m<;>simp only[rowOf,Dz,LR,BQ]at q j⊢<;>by_cases s:P=[47]<;>cases hv:vp P<;>cases hn:jW D.N P<;>simp_all[bZ4,DT]<;>(intros;omega)}
theorem Nn{j m B:Bool}(h:Aj D j m B K S P=0):B/\(j->¬lW D.E S<0)/\(m->Dz D K P=0):=by
 unfold Aj at h;cases B with
 |false=>simp at h
 |true=>
  refine⟨rfl,λe i=>?_,λe=>?_⟩;{simp[e,i]at h};{by_cases i:j/\lW D.E S<0;{simp[i]at h};{simpa[i,e]using h}}
def Jy(w0 w:G)(b bs bn:Nat)(D:SD)(A:SD×RP)(r:Ending)(w':G):Prop:=∃i R C,cQ7 w0 w b bs bn D i R C r w'/\(A=if C=0 then(i,R)else(D,ni C))/\(C=0->R.k=0)
def GF{w:World}{SB NB HB UB:iN}(cx:vm w0 w b bs bn D SB NB HB UB S F E iG pp np cp pq nv cv P V)(k:Nat)(C1:Int)(D':SD)(R:RP)(ty:TypeId)(v:Value)(fC fA:FuncId)(vC:Value)(fv:Aj D (rowOf k).1 (rowOf k).2.1 (qR k S F P.length V.length E iG) k S P=0->(∀w',vm w0 w' b bs bn D SB NB HB UB S F E iG pp np cp pq nv cv P V->Calls prog fC #[vC,Pz b] w' λr w''=>r=.returned (qS C1)/\Bw w' w'')∧
   (C1=0->∀w',vm w0 w' b bs bn D SB NB HB UB S F E iG pp np cp pq nv cv P V->Calls prog fA #[v,Pz b] w' (bF6 w0 w' b bs bn D' R))/\mW D k S F E iG P V=if C1=0 then(D',R)else(D,ni C1))(h1:1<=k:=by decide)(h2:k<=13:=by decide)(hq:bR9 k S (aZ P) F (.S pq nv cv) E iG=.iface ty v:=by rfl)(hmC : ∀w,(Go.method 525 ty v "loop.example/s02132/impl.check").run prog w = .ok (fC,vC) w:=by(intro w;kernel_rfl))(hmA : ∀w,(Go.method 525 ty v "loop.example/s02132/impl.act").run prog w = .ok (fA,v) w:=by(intro w;kernel_rfl))(hfC:∀vs w,(callFunc fC vs).run prog w=.ok (.enter fC vs) w:=by(intro vs w;kernel_rfl))(UN:∀vs w,(callFunc fA vs).run prog w=.ok (.enter fA vs) w:=by(intro vs w;kernel_rfl))(hRk:C1=0->R.k=0:=by(intro _;rfl)):Cp 194 #[Pz b,qZ k S (.S pp np cp) F (.S pq nv cv) E iG] w (Jy w0 w b bs bn D (mW D k S F E iG P V)):=by
 let⟨C0,eC0⟩:=aY (Aj D (rowOf k).1 (rowOf k).2.1 (qR k S F P.length V.length E iG) k S P);rw[eC0]at fv;refine(eG5 cx.ps (ag rfl) (λw' hb=>?_) (λ_ w' hb=>?_) hmC hmA hfC UN (λhC w' hb=>(fv hC).1 w' (cx.H hb)) (λhC Kv w' hb=>(fv hC).2.1 Kv w' (cx.H hb))).h λr w' hr=>⟨D',R,_,hr,?_,λhC=>hRk (by split at hC<;>omega)⟩;{have c:=cx.H hb;exact eD4 c.ps (λnd aJ=>(c.gd.wf.pb nd aJ).2.1) h1 h2 c.hS c.eP c.hP c.hB c.hp c.fM c.gC c.hm (c.hT k h1 h2) (ag rfl) (by show _=_;rw[<-eC0,c.eP,c.eV];rfl)};{have c:=cx.H hb;have:=dq0 h1 h2 (S:=S) (F:=F) (E:=E) (iG:=iG) (pq:=pq) (nv:=nv) (cv:=cv) c.eP c.hP;rw[hq]at this;exact this};{by_cases hC:C0=0;{rw[(fv hC).2.2,aM hC]};{rw[aL hC,aL hC];exact eL6 h1 h2 eC0 hC}}
variable {R:Nat}
def lp.jD(h:lp w b v0 v1 v2 v3 v4 v5 v6)(j:Kept [blk R] w w')(m:b<U w.heap)(o:b≠R):lp w' b v0 v1 v2 v3 v4 v5 v6:=by
 have e:=j.cellAt m (λx i e=>by simp only[pY]at i;subst i;simp[Value.ownBlock]at e;exact o e.C);exact⟨(e 0).Z h.1,(e 1).Z h.2.1,(e 2).Z h.2.2.1,(e 3).Z h.2.2.2.1,(e 4).Z h.2.2.2.2.1,(e 5).Z h.2.2.2.2.2.1,(e 6).Z h.2.2.2.2.2.2⟩
abbrev bw7(m:LI)(n:Nat)(t:Bool)(x:Int)(m':LI)(n':Nat)(t':Bool):Prop:=
 ∀(R:Nat)(w':G),km w' R m n t->Cp 250 #[Pz R] w' λe w''=>e=dR (.I x)/\km w'' R m' n' t'/\Kept [blk R] w' w''
abbrev cK9(m:LI)(n:Nat)(t:Bool)(x:Int)(m':LI)(n':Nat)(t':Bool):Prop:=
 ∀(R:Nat)(w':G),km w' R m n t->Cp 220 #[Pz R] w' λe w''=>e=dR (.U x)/\km w'' R m' n' t'/\Kept [blk R] w' w''
abbrev bv5(m:LI)(n:Nat)(t:Bool)(x:LI)(N:Nat)(m':LI)(n':Nat)(t':Bool):Prop:=
 ∀(R:Nat)(w':G),km w' R m n t->R<U w'.heap->Cp 251 #[Pz R] w' λr w''=>∃p' c',r=dR (.S p' N c')/\Own (U w'.heap) w'' (.S p' N c') x/\km w'' R m' n' t'/\Kept [blk R] w' w''
theorem cg7(p:OA)(c n:Nat)(l:LI)(en:Le l n)(w:G)(h:Rd w (.S p n c) l)(hl:Mg n)(nE:n<=c)(hp:O ((p=dN/\c=0)\/∃b o,p=(Ad b o)))(mu:O (∀b o,p=(Ad b o)->b<U w.heap))(hT:qE w)(k s f:Int)(P V m1 m2 m3 m4 m5:LI)(n1 n2 n3 n4 n5 Z NV:Nat)(t1 t2 t3 t4 t5:Bool)(C1:O (bw7 l n dF k m1 n1 t1))(C2:O (cK9 m1 n1 t1 s m2 n2 t2))(C3:O (bv5 m2 n2 t2 P Z m3 n3 t3))(C4:O (bw7 m3 n3 t3 f m4 n4 t4))(C5:O (bv5 m4 n4 t4 V NV m5 n5 t5))(LE:LI)(NE:Nat)(eLE:Le LE NE)(BL:O (aC LE))(HB:O (aC l))(E:O (bD5 197 w k s f 0 0 Z NV NE P V LE))(D:Bool)(eD:O (dD (LE=l)=D)):dQ dG 225 #[.S p n c] w λe w'=>(O (t5=dY\/D=dF)->e=dR (dT #[lM 0 0 aq 0 aq 0 0,.I 13])/\Bw w w')/\(O (t5=dF/\D)->∃p' c' q' d' B,e=dR (dT #[lM k s (.S p' Z c') f (.S q' NV d') 0 0,.I 0])/\U w.heap<=B/\Own (U w.heap) w' (.S p' Z c') P/\Btw (U w.heap) B (.S p' Z c')/\Own B w' (.S q' NV d') V/\Bw w w'):=by
 have HH:=ag h;have HT:=ag hT;clear h hT;go_in;go_wp2_with fail;let⟨W,y⟩:=aG ((w.alloc (dO #[.I 0,.U 0,aq,.I 0,aq,.U 0,.U 0] 65)).alloc (dO #[.S p n c,.bool dF] 268));have bW:Bw w W:=y▸GJ (GJ aD);let⟨m,N⟩:=aG (U w.heap);let⟨R,eR⟩:=aG (m+1);have US:lp W m (.I 0) (.U 0) aq (.I 0) aq (.U 0) (.U 0):=by rw[y,N];simp[lp,go_sem]
 have fR0:∀o,W.frozen? (Ad m o)=dF:=λo=>by rw[y,N];simp[go_sem]
 have zW:U W.heap=R+1:=by rw[y,eR,N];simp
 have MP:km W R l n dF:=by refine⟨ae en,λo=>by rw[y,eR,N];simp[go_sem],p,c,?_,?_,nE,ae hp⟩;{rw[y,eR,N];simp[Au,go_sem]};{let⟨p',c',ev,hc⟩:=HH.H bW;obtain⟨rfl,-,-⟩:=jJ ev;obtain hc|⟨b,o,rfl,hc⟩:=hc;{exact .L hc};{exact .R ⟨b,o,aK (ae mu b o rfl),rfl,hc⟩}}
 rw[<-y,<-N,<-eR];clear y;have HE:=bG N eR;have g1:m<R:=af;have gR0:U w.heap<=m:=af;have gw:U w.heap<=R:=af;have zR:R<U W.heap:=af;clear N eR zW;refine(ae C1 R _ MP).h ?_;rintro r w1⟨rfl,oQ,K1⟩;have A1:=US.jD K1 af af;have F1:=Zq fR0 K1 af af;have b1:=Vt bW K1 af;have z1:=K1.size;clear US fR0 bW K1 MP;go_wp2_with fail;refine(ae C2 R _ oQ).h ?_;rintro r w2⟨rfl,Kt,K2⟩;have A2:=A1.jD K2 af af;have F2:=Zq F1 K2 af af;have b2:=Vt b1 K2 af;have z2:=K2.size;clear A1 F1 b1 K2 oQ;go_wp2_with fail;refine(ae C3 R _ Kt af).h ?_;rintro r w3⟨p3,c3,rfl,o3,sH,K3⟩;have A3:=A2.jD K3 af af;have F3:=Zq F2 K3 af af;have b3:=Vt b2 K3 af;have z3:=K3.size;clear A2 F2 b2 K3 Kt;go_wp2_with fail;refine(ae C4 R _ sH).h ?_;rintro r w4⟨rfl,QE,K4⟩;have A4:=A3.jD K4 af af;have F4:=Zq F3 K4 af af;have b4:=Vt b3 K4 af;have o4:=Own.jD o3 K4 af;have tP:=o4.btw;have z4:=K4.size;clear A3 F3 b3 K4 sH o3;go_wp2_with fail;refine(ae C5 R _ QE af).h ?_;rintro r x⟨p5,c5,rfl,o5,hR5,K5⟩;have u:=A4.jD K5 af af;have F5:=Zq F4 K5 af af;have b5:=Vt b4 K5 af;have o45:=Own.jD o4 K5 af;have z5:=K5.size;clear A4 F4 b4 K5 QE o4;obtain⟨_,fr5,pr,cr,⟨i0,i1⟩,_⟩:=hR5;have j:∀i:Obj,Bw x (x.alloc i):=λi=>aD.alloc aA _;have qs:=λi=>al i1 (j i);have q0:=λi=>al u.1 (j i);have q1:=λi=>al u.2.1 (j i);have q2:=λi=>al u.2.2.1 (j i);have q3:=λi=>al u.2.2.2.1 (j i);have q4:=λi=>al u.2.2.2.2.1 (j i);have q5:=λi=>al u.2.2.2.2.2.1 (j i);have q6:=λi=>al u.2.2.2.2.2.2 (j i);have qf:=λ(i:Obj)=>Cz F5 af (j i);let⟨X,hX⟩:=aG (x.alloc (dO #[.I k,.U s,.S p3 Z c3,.I f,.S p5 NV c5,.U 0,.U 0] 65));have Db:Bw x X:=hX▸j _;have bX:Bw w X:=ai b5 Db;have AX:=u.H Db;have FX:=Cz F5 af Db;have OX:lp X (U x.heap) (.I k) (.U s) (.S p3 Z c3) (.I f) (.S p5 NV c5) (.U 0) (.U 0):=by rw[hX];simp[lp,go_sem]
 have zX:U x.heap<U X.heap:=by rw[hX];simp
 have xP:=Own.H o45 Db;have xV:=Own.H o5 Db;clear u F5 i0 i1 fr5 o45 o5 Db j;cases t5 with
 |true=>
  clear hX;go_wp2;refine cg (v:=dT #[lM 0 0 aq 0 aq 0 0,.I 13]) (by simp[results,results225,go_sem,q0,q1,q2,q3,q4,q5,q6]) rfl ⟨λ_=>⟨rfl,?_⟩,λe=>absurd (ae e) aj⟩
  iterate 7 (refine ri ?_ gR0 _)
  exact GJ b5
 | false=>
  go_wp2_with fail;rw[<-hX];clear hX q0 q1 q2 q3 q4 q5 q6 qf qs;refine(ae E p3 p5 c3 c5 _ bX xP.rd xV.rd).h ?_;rintro r x1⟨p6,c6,rfl,o6,M⟩;have GI:=ai bX M;have A6:=AX.H M;have O6:=OX.H M;have F6:=Cz FX af M;have V8:=M.size;have xP6:=Own.H xP M;have xV6:=Own.H xV M;clear AX FX OX xP xV bX M;go_wp2_with fail;refine br (ZO eLE en o6.rd (HH.H GI) BL HB) λx2 AZ=>?_;rw[ae eD];have No:=ag (ai GI AZ);have A7:=A6.H AZ;have O7:=O6.H AZ;have F7:=Cz F6 af AZ;have xP7:=ag (Own.H xP6 AZ);have xV7:=ag (Own.H xV6 AZ);have aN:¬m=U x.heap:=af;have dS5:¬U x.heap=m:=af;have HZ:=ag (show m<U w2.heap/\m<U w4.heap/\U w.heap<=U w2.heap/\U w.heap<=U w4.heap by omega);clear A6 O6 F6 AZ GI o6 xP6 xV6;have r0:=id A7;have j0:=id O7;clear A7 O7;cases D with
  |false=>
   go_wp2;refine cg (v:=dT #[lM 0 0 aq 0 aq 0 0,.I 13]) (by simp[results,results225,go_sem,r0]) rfl ⟨λ_=>⟨rfl,?_⟩,λe=>absurd (ae e) aj⟩
   iterate 7 (refine ri ?_ gR0 _)
   exact No
  |true=>
   go_wp2;let⟨fw,fI,PK,FE⟩:=ae HZ;refine cg (v:=dT #[lM k s (.S p3 Z c3) f (.S p5 NV c5) 0 0,.I 0]) (by simp[results,results225,go_sem,r0]) rfl ⟨λe=>absurd (ae e) aj,λ_=>⟨p3,c3,p5,c5,rfl,U w4.heap,FE,?_,λb hb=>aK (tP b hb),?_,?_⟩⟩;{
 refine Own.h (B:=U w2.heap) ?_ PK
 iterate 7 (refine sy ?_ fw _)
 exact xP7};{
 iterate 7 (refine sy ?_ fI _)
 exact xV7};{
 iterate 7 (refine ri ?_ gR0 _)
 exact No}
def Jz(w:G)(q:OA)(d:Nat):Prop:=((q=dN/\d=0)\/∃b o,q=(Ad b o))/\∀b o,q=(Ad b o)->b<U w.heap
def Own.Vw{q:OA}(h:Own B w (.S q n d) l):Jz w q d:=by
 refine⟨?_,λb o e=>?_⟩;{obtain⟨e,m⟩|⟨g,j,i,e,_⟩:=h.2;{simp only[rj]at e;exact .L ⟨e.1,e.2.2⟩};{simp only[rj]at e;exact .R ⟨g,0,e.1⟩}};{subst e;exact(h.lt b rfl).2}
abbrev af0(F:Nat)(w:G)(l:LI)(n:Nat)(k s f:Int)(P V:LI)(NP NV:Nat)(code:Int):Prop:=
 ∀(q:OA)(d:Nat)(w':G),Bw w w'->Rd w' (.S q n d) l->n<=d->Jz w' q d->dQ dG F #[.S q n d] w' λr w''=>∃p' c' q' d' B,r=dR (dT #[lM k s (.S p' NP c') f (.S q' NV d') 0 0,.I code])/\U w'.heap<=B/\Own (U w'.heap) w'' (.S p' NP c') P/\Btw (U w'.heap) B (.S p' NP c')/\Own B w'' (.S q' NV d') V/\Bw w' w''
variable {F:Nat}
def cC7(h:∀(q:OA)(d:Nat)(w':G),Bw w w'->Rd w' (.S q n d) l->n<=d->Jz w' q d->dQ dG F #[.S q n d] w' λe i=>e=dR (dT #[lM 0 0 aq 0 aq 0 0,.I 13])/\Bw w' i):af0 F w l n 0 0 0 [] [] 0 0 13:=
 λq d w' o j m s=>(h q d w' o j m s).h (by rintro r i⟨rfl,u⟩;exact⟨dN,0,dN,0,U w'.heap,rfl,eG _,lZ _ _ _ _,(λb e=>by simp[Value.ownBlock]at e),lZ _ _ _ _,u⟩)
def aQ8{s f:Nat}(u:k<256)(j:s<2^64)(hf:f<256)(o:aC P)(m:aC V)(r:Mg (J P))(q:Mg (J V)):aC (lX k s P f V):=
 aC.app (λz i=>by simp at i;subst i;omega) (aC.app (Av j) (aC.app (aC.app (Av af) o) (aC.app (λz i=>by simp at i;subst i;omega) (aC.app (Av af) m))))
def qX.parts{K S:Nat}(h:qX l K S P F V):J P<=J l/\J V<=J l:=by
 obtain⟨_,_,_,_,_,_,e⟩:=h;rw[e,lX,tx,tx];simp only[dm,kJ,yS];omega
def dh4(R:J l=n)(N:aC l)(M:Mg n)(B:∀K S P F V,¬qX l K S P F V):af0 91 w l n 0 0 0 [] [] 0 0 13:=
 cC7 λq d u MJ D E ha=>by obtain⟨⟨k,o⟩,e1⟩:∃y,oB l=y:=⟨_,rfl⟩;obtain⟨⟨s,m⟩,e2⟩:∃y,oV o=y:=⟨_,rfl⟩;obtain⟨⟨P,j⟩,Z⟩:∃y,oT m=y:=⟨_,rfl⟩;obtain⟨⟨f,i⟩,X⟩:∃y,oB j=y:=⟨_,rfl⟩;obtain⟨⟨V,x⟩,W⟩:∃y,oT i=y:=⟨_,rfl⟩;refine(bN4 q d n l R u D N M E k s f P V o m j i x e1 e2 Z X W (J P) (J V) rfl rfl).h ?_;rintro r w2(h|⟨K,S,F,-,-,-,h,-⟩);{exact h.1};{exact absurd h (B K S P F V)}
def dh2(E:J l=n)(D:aC l)(B:Mg n){K S:Nat}(h:qX l K S P F V):af0 91 w l n K S F P V (J P) (J V) 0:=λq d i X x y R=>by
 have N:=h.parts;let⟨u,s,o,m,j⟩:=dq8 (k:=K) (f:=F) (P:=P) (V:=V) h.2.2.1 af af;refine(bN4 q d n l E i x D B y K S F P V _ _ _ _ _ (by show oB l=_;rw[h.2.2.2.2.2.2];exact u) s o m j (J P) (J V) rfl rfl).h ?_;rintro r M(e|⟨Z,W,F',a,b,c,-,e⟩);{exact absurd ⟨rfl,K,S,F,rfl,rfl,rfl,h⟩ e.2};{cases TL.1 a;cases TL.1 b;cases TL.1 c;exact e}
def ai2(hm:J m=n)(j:aC m)(i:Mg n)(e:sB m t=(x,m',t')):bw7 m n t x m' (J m') t':=λR o h=>aM9 h j i e
def bX2(j:aC m)(i:Mg n)(e:sN 10 0 0 m t=(x,m',t')):cK9 m n t x m' (J m') t':=λR o h=>Fk h j i e
def ag8(j:aC m)(i:Mg n){x:LI}(e:sT m t=(x,m',t')):bv5 m n t x (J x) m' (J m') t':=λR q h o=>aJ9 h j i o (x:=x) e (N:=J x) rfl
def dM4(W:J l=n)(m:aC l)(B:Mg n)(hT:qE w){K S:Nat}(h:qX l K S P F V):af0 225 w l n K S F P V (J P) (J V) 0:=λq d y MJ hr hn D=>by
 have hp:=h.parts;let⟨N,M,E,hF,o,hj,j⟩:=id h;have b1:aC (vi S++(tx P++([(F:Int)]++tx V))):=λz i=>m z (by rw[j,lX];exact Fu _ i);have Z:aC (tx P++([(F:Int)]++tx V)):=λz i=>b1 z (Fu _ i);have X:aC ([(F:Int)]++tx V):=λz i=>Z z (Fu _ i);have b4:aC (tx V):=λz i=>X z (Fu _ i);have l0:J l=1+J (vi S++(tx P++([(F:Int)]++tx V))):=by rw[j,lX,dm];rfl
 have l1:J (vi S++(tx P++([(F:Int)]++tx V)))=J (vi S)+J (tx P++([(F:Int)]++tx V)):=dm;have l2:J (tx P++([(F:Int)]++tx V))=J (tx P)+J ([(F:Int)]++tx V):=dm;have l3:J ([(F:Int)]++tx V)=1+J (tx V):=dm;have YX:qE y:=λk a b=>(hT k a b).H MJ;have R:=YX K N M;rw[show(rowOf K).2.2.2.2.2.2=dY from hj]at R;have e5:sT (tx V) dF=(V,[],dF):=by have:=ai5 V (rest:=[]) (sh:=dF) af;rwa [yQ]at this
 refine(cg7 q d n l W y hr B hn D.1 D.2 YX K S F P V _ _ _ _ [] _ _ _ _ _ (J P) (J V) dF dF dF dF dF
  (ai2 (m':=vi S++(tx P++([(F:Int)]++tx V))) W m B (by rw[j];rfl)) (bX2 b1 af (aO3 (s:=S) (sh:=dF) E)) (ag8 Z af (ai5 P (sh:=dF) af)) (ai2 (m':=tx V) rfl X af rfl) (ag8 b4 af e5)
  (lX K S P F V) (J (lX K S P F V)) rfl (j▸m) m ?_ dY (by show _=_;rw[<-j];simp)).h (λr x h=>h.2 (ag ⟨rfl,rfl⟩))
 intro q1 q2 d1 d2 x ay g1 g2;have u:=R.H ay;exact ba3 K N M S F E hF (e:=0) (g:=0) (p:=q1) (q:=q2) (c:=d1) (d:=d2) P V rfl rfl (w:=x) g1 g2 af af u o rfl
def eq9(M:qE w){k s f:Int}(s0:0<=s)(s1:s<2^64)(hP:aC P)(Z:aC V)(B:Mg (J P))(y:Mg (J V)):∃o:LI,aC o/\bD5 197 w k s f 0 0 (J P) (J V) (J o) P V o/\(o=[]\/∃K S F:Nat,k=K/\s=S/\f=F/\∀l,o=l->qX l K S P F V):=by
 by_cases hk:1<=k/\k<=13;{
 obtain⟨S,rfl⟩:∃S:Nat,s=(S:Int):=⟨s.toNat,af⟩;obtain⟨K,rfl⟩:∃K:Nat,k=(K:Int):=⟨k.toNat,af⟩;have j:1<=K:=af;have i:K<=13:=af;by_cases N:(qR K S f (J P) (J V) 0 0&&Up K)=dY;{let⟨hf,D⟩:=Bool.and_eq_true_iff.1 N;let⟨f0,f2⟩:=cw6 j i hf;obtain⟨F,rfl⟩:∃F:Nat,f=(F:Int):=⟨f.toNat,af⟩;refine⟨lX K S P F V,aQ8 af af af hP Z B y,?_,.R ⟨K,S,F,rfl,rfl,rfl,λl e=>⟨j,i,af,af,hf,D,e.C⟩⟩⟩;intro x u W R w2 ay g1 g2;have m:=(M K j i).H ay;rw[show(rowOf K).2.2.2.2.2.2=dY from D]at m;exact ba3 K j i S F af af P V rfl rfl g1 g2 B y m hf rfl};{
 have r:(qR K S f (J P) (J V) 0 0&&Up K)=dF:=by simpa using N
 refine⟨[],λz q=>by simp at q,cz3 ?_,.L rfl⟩;intro x u W R X E;exact dN2 j i (s:=S) (f:=f) (e:=0) (g:=0) ((M K j i).H E) rfl r}};{refine⟨[],λz q=>by simp at q,cz3 ?_,.L rfl⟩;intro x u W R X E;exact dN1 af}
def dM5(en:J l=n)(hb:aC l)(hl:Mg n)(hT:qE w)(ij:∀K S P F V,¬qX l K S P F V):af0 225 w l n 0 0 0 [] [] 0 0 13:=
 cC7 λq d w' MJ hr hn ha=>by
  obtain⟨⟨k,M,x⟩,e1⟩:∃y,sB l dF=y:=⟨_,rfl⟩;obtain⟨⟨s,X,E⟩,e2⟩:∃y,sN 10 0 0 M x=y:=⟨_,rfl⟩;obtain⟨⟨P,W,D⟩,e3⟩:∃y,sT X E=y:=⟨_,rfl⟩;obtain⟨⟨f,R,B⟩,e4⟩:∃y,sB W D=y:=⟨_,rfl⟩;obtain⟨⟨V,m5,t5⟩,e5⟩:∃y,sT R B=y:=⟨_,rfl⟩;have u:=Tr (sh:=dF) hb;rw[e1]at u;obtain⟨u,_,_,L1⟩:=u;have o:=WE 10 0 0 M x u af;rw[e2]at o;obtain⟨o,L2,s0,s1⟩:=o;have j:=Tq (sh:=E) o;rw[e3]at j;obtain⟨BP,j,LP,L3⟩:=j;have i:=Tr (sh:=D) j;rw[e4]at i;obtain⟨i,_,_,L4⟩:=i;have B5:=Tq (sh:=B) i;rw[e5]at B5;obtain⟨BV,_,LV,_⟩:=B5;dsimp only at u L1 o L2 s0 s1 BP j LP L3 i L4 BV LV;have YX:qE w':=λk a b=>(hT k a b).H MJ;let⟨N,BL,hE,hLE⟩:=eq9 YX (k:=k) (f:=f) s0 s1 BP BV af af;refine(cg7 q d n l en w' hr hl hn ha.1 ha.2 YX k s f P V M X W R m5 _ _ _ _ _ (J P) (J V) x E D B t5
   (ai2 en hb hl e1) (bX2 u af e2) (ag8 o af e3) (ai2 rfl j af e4) (ag8 i af e5)
   N (J N) rfl BL hb hE (dD (N=l)) rfl).h (λr w2 h=>h.1 (ag ?_))
  by_cases Z:N=l;{
 left;obtain h0|⟨K,S,F,_,_,_,h⟩:=hLE;{
 have rC:l=[]:=by rw[<-Z,h0]
 have h1:x:=by have:=vJ (λy=>y.2.2) e1;rw[rC]at this;exact this.C
 have h2:E:=by have:=aO4 10 0 0 M x h1;rw[e2]at this;exact this
 have h3:D:=by have:=ai6 (m:=X) h2;rw[e3]at this;exact this
 have h4:B:=by have:=ai7 (m:=W) h3;rw[e4]at this;exact this
 have:=ai6 (m:=R) h4;rw[e5]at this;exact this};{exact absurd (h l Z) (ij K S P F V)}};{right;simpa using Z}
section
variable {w0 w:World}{b bs bn:Nat}{D:SD}{SB NB HB UB:iN}{S F E iG:Int}{pp:OA}{np cp:Nat}{pq:OA}{nv cv:Nat}{P V:LI}
variable {k:Nat}
def bn3(m:1<=k)(j:k<=13)(i:qR k S F (J P) (J V) E iG):¬CD k S F (J P) (J V) E iG=dF:=by
 rw[CD,aM af,uC,i];simp
theorem dl0(h:¬lW D.E S<0):∃(i:Nat)(s:aB),lW D.E S=i/\D.E[i]?=Y s/\s.1=S:=by
 unfold lW at h⊢;cases hf:D.E.findIdx? (λs=>s.1==S)with
 |none=>rw[hf]at h;simp at h
 |some i=>
  obtain⟨m,j,-⟩:=Md.1 hf;exact⟨i,_,rfl,bD m,by simpa using j⟩
theorem dA2(h:jW D.N P≠dN):∃(i:Nat)(nd:ar),xK D.N P=i/\D.N[i]?=Y nd/\nd.A=P/\jW D.N P=Y nd:=by
 have m:¬xK D.N P<0:=λe=>h (bZ4.1 e);unfold xK at m⊢;cases hf:D.N.findIdx? (λnd=>dD (nd.A=P))with
 |none=>rw[hf]at m;simp at m
 |some i=>
  let⟨q,o,s⟩:=Md.1 hf;refine⟨i,_,rfl,bD q,by simpa using o,?_⟩;rw[jW,List.find?_eq_some_iff_getElem];exact⟨by simpa using o,i,q,rfl,λj r=>by have:=s j r;simpa using this⟩
def eG8(cx:vm w0 w b bs bn D SB NB HB UB S F E iG pp np cp pq nv cv P V):dQ dG 194 #[Pz b,qZ (1:Nat) S (.S pp np cp) F (.S pq nv cv) E iG] w (Jy w0 w b bs bn D (mW D (1:Nat) S F E iG P V)):=by
 refine GF cx 1 (JL D) _ _ 305 (.agg #[]) 337 336 (.agg #[]) (λy=>⟨λw' c=>dx4 c.ps rfl,λhC w' c=>(dx5 c.ps ⟨c.gd.wf.x.1,(bW3 hC).2.2⟩ c.gd.wf.t (λs j e=>aK (c.gd.sx s j)) c.gd.sl).h λr w''⟨gN,h⟩=>uq.r h,?_⟩);have e:mW D (1:Nat) S F E iG P V=yO D:=by unfold mW;rw[aL (bn3 bf bf (Nn y).1),aM bf]
 rw[e];by_cases hC:JL D=0;{rw[aM hC,(bW3 hC).1];rfl};{rw[aL hC,dx3 hC]}
def aa0(r:4<=k)(j:k<=13)(s:k≠12)(m:Aj D (rowOf k).1 (rowOf k).2.1 (qR k S F (J P) (J V) E iG) k S P=0):mW D k S F E iG P V=JH D k S F E iG P V:=by
 obtain⟨i,q,-⟩:=Nn m;have o:¬((DT k&&dD (lW D.E S<0))):=by clear m i;obtain rfl|rfl|rfl|rfl|rfl|rfl|rfl|rfl|rfl|rfl|rfl|rfl|rfl:=kinds af j<;>simp_all[DT,rowOf]
 unfold mW;rw[aL (bn3 af j i),aL af,aL o,aL af,aL af,aL af]
variable {K:Int}
theorem bV4(h:Dz D K P=0):BQ K P=dY\/(BQ K P=dF/\vp P/\(LR K->jW D.N P≠dN)):=by
 unfold Dz at h;cases hr:BQ K P with
 |true=>exact .L rfl
 | false=>
  refine .R ⟨rfl,?_⟩;rw[hr]at h;cases hv:vp P with
  |false=>rw[hv]at h;simp at h
  |true=>
   refine⟨rfl,λj i=>?_⟩;rw[hv]at h;simp[j,i]at h
def aO7(h:K≠13):BQ K P=dF:=by simp[BQ,h]
def aj5(r:k=5\/k=6\/k=7\/k=8\/k=9\/k=11)(h:Dz D k P=0):∃(i:Nat)(nd:ar),D.N[i]?=nd/\nd.A=P/\JH D k S F E iG P V=Ht D i k S F V:=by
 have m:(k:Int)≠13:=af;obtain j|⟨j,o,q⟩:=bV4 h;{rw[aO7 m]at j;cases j};{obtain⟨i,nd,x,u,s,-⟩:=dA2 (q (by obtain rfl|rfl|rfl|rfl|rfl|rfl:=r<;>rfl));refine⟨i,nd,u,s,?_⟩;unfold JH;rw[j,o,aL aj,aL af,aL af,aL bq,aL m,x,uC]}
def cF6(cx:vm w0 w b bs bn D SB NB HB UB S F E iG pp np cp pq nv cv P V):dQ dG 194 #[Pz b,qZ (3:Nat) S (.S pp np cp) F (.S pq nv cv) E iG] w (Jy w0 w b bs bn D (mW D (3:Nat) S F E iG P V)):=by
 refine GF cx 3 0 (jS D S) js 309 (.agg #[.U S]) 338 340 (.agg #[]) (λq=>?_);obtain⟨hB,o,-⟩:=Nn q;have m:=o rfl;let⟨i,s,y,x,u⟩:=dl0 m;refine⟨λw' c=>cZ8 rfl,λ_ w' c=>?_,?_⟩;{have j:=eD9 c.ps c.gd.ci c.gd.pw x rfl (an2 c.gd.nl);rw[u]at j;exact j.h λr w''⟨_,_,_,_,h⟩=>uq.r h};{unfold mW;rw[aL (bn3 bf bf hB),An,aL (by simp;intro _;omega),An,aM bf,aM rfl]}
end
section
variable {w0 w:World}{b bs bn:Nat}{D:SD}{SB NB HB UB:iN}{S F E iG:Int}{pp:OA}{np cp:Nat}{pq:OA}{nv cv:Nat}{P V:LI}
def eH1(cx:vm w0 w b bs bn D SB NB HB UB S F E iG pp np cp pq nv cv P V):Cp 194 #[Pz b,qZ (5:Nat) S (.S pp np cp) F (.S pq nv cv) E iG] w (Jy w0 w b bs bn D (mW D (5:Nat) S F E iG P V)):=by
 by_cases m:Aj D (rowOf 5).1 (rowOf 5).2.1 (qR 5 S F (J P) (J V) E iG) (5:Nat) S P=0;{
 let⟨hB,W,hp⟩:=Nn m;obtain⟨i,nd,j,rfl,y⟩:=aj5 (k:=5) (S:=S) (F:=F) (E:=E) (iG:=iG) (V:=V) (.L rfl) (hp rfl);have u:=bu j;have x:=(aa0 bf bf bf m).Z y;have gd:=cx.gd;let⟨q,M,B⟩:=gd.ci.nt nd u;have N:=q.pl;refine GF cx 5 (aA2 D nd S) (xH (jV D i 2) i) js 313 (.agg #[.U S,.string (aZ nd.A)]) 351 350 (.agg #[.U S,.string (aZ nd.A)]) (λ_=>⟨λw' c=>ey8 c.ps c.gd.pw (λnd aJ=>⟨(c.gd.wf.pb nd aJ).2.1,(c.gd.wf.pb nd aJ).2.2⟩) j c.hS rfl,λhC w' c=>(ey9 c.ps j c.gd.ci.so q c.gd.ci.kd (id:=S)).h λr w'' h=>uq.r h,?_⟩);rw[x];unfold Ht;simp only[j];rw[aM bf];unfold aA2;by_cases o:ta D.N nd.A=[];{by_cases s:xr nd S=dF<;>simp[o,s]}
 {simp[o]}};{exact GF cx 5 0 D js 313 (.agg #[.U S,.string (aZ P)]) 351 350 (.agg #[.U S,.string (aZ P)]) (λh=>absurd h m)}
def eG7(cx:vm w0 w b bs bn D SB NB HB UB S F E iG pp np cp pq nv cv P V):Cp 194 #[Pz b,qZ (7:Nat) S (.S pp np cp) F (.S pq nv cv) E iG] w (Jy w0 w b bs bn D (mW D (7:Nat) S F E iG P V)):=by
 by_cases q:Aj D (rowOf 7).1 (rowOf 7).2.1 (qR 7 S F (J P) (J V) E iG) (7:Nat) S P=0;{
 let⟨hB,hs,hp⟩:=Nn q;obtain⟨i,nd,m,rfl,B⟩:=aj5 (k:=7) (S:=S) (F:=F) (E:=E) (iG:=iG) (V:=V) (.R (.R (.L rfl))) (hp rfl);have u:=bu m;have y:=(aa0 bf bf bf q).Z B;have gd:=cx.gd;let⟨s,N,M⟩:=gd.ci.nt nd u;have x:=s.pl;refine GF cx 7 (WB nd S) (jV {D with N:=D.N.set i {nd with V:=V}} i 1) js 317 (.agg #[.U S,.string (aZ nd.A),.S pq nv cv]) 355 354 (.agg #[.U S,.string (aZ nd.A),.S pq nv cv]) (λ_=>⟨λw' c=>dk1 c.ps m x c.hS (V:=.S pq nv cv) (pv:=pq) (nv:=nv) (cv:=cv) rfl,λhC w' c=>(dk3 c.ps m c.gd.ci.so s (id:=S) c.hV).h λr w'' h=>uq.r h,?_⟩);rw[y];unfold Ht;simp only[m];rw[An,An,aM bf,dk2 (gd.ho nd u).1];by_cases j:nd.M=1/\nd.y.headD 0≠S
 {rw[aM j,aM j];rfl};{rw[aL j,aL j];rfl}};{exact GF cx 7 0 D js 317 (.agg #[.U S,.string (aZ P),.S pq nv cv]) 355 354 (.agg #[.U S,.string (aZ P),.S pq nv cv]) (λh=>absurd h q)}
def eG9(cx:vm w0 w b bs bn D SB NB HB UB S F E iG pp np cp pq nv cv P V):Cp 194 #[Pz b,qZ (8:Nat) S (.S pp np cp) F (.S pq nv cv) E iG] w (Jy w0 w b bs bn D (mW D (8:Nat) S F E iG P V)):=by
 by_cases m:Aj D (rowOf 8).1 (rowOf 8).2.1 (qR 8 S F (J P) (J V) E iG) (8:Nat) S P=0;{
 let⟨hB,hs,hp⟩:=Nn m;obtain⟨i,nd,e2,rfl,e4⟩:=aj5 (k:=8) (S:=S) (F:=F) (E:=E) (iG:=iG) (V:=V) (.R (.R (.R (.L rfl)))) (hp rfl);have j:=bu e2;have eA:=(aa0 bf bf bf m).Z e4;have gd:=cx.gd;let⟨N,u,q⟩:=gd.ci.nt nd j;have jE:=N.pl;have hF:F=1\/F=2:=by simp only[qR,rowOf,Bf,gL,jX]at hB;omega
 refine GF cx 8 (xO D nd S F) (Cg D i S F).1 (Cg D i S F).2 319 (.agg #[.U S,.string (aZ nd.A),.I F]) 357 356 (.agg #[.U S,.string (aZ nd.A),.I F]) (λ_=>⟨λw' c=>dE4 c.ps e2 jE c.hS hF rfl,?_,?_⟩) (hRk:=λhC=>by obtain rfl|rfl:=hF;exact vJ (λz:SD×RP=>z.2.k) (cc8 e2 (λh=>sX.1 (((gd.ho nd j).2 af).2.2 h)) hC).1;exact vJ (λz:SD×RP=>z.2.k) (cc7 e2 hC));{
 intro hC w' c;obtain rfl|rfl:=hF;{let⟨q1,q2⟩:=cc8 e2 (λh=>sX.1 (((gd.ho nd j).2 af).2.2 h)) hC;rw[q1];exact(dE6 c.ps e2 jE u q c.hS ⟨gd.wf.g.1,q2⟩).h λr w'' h=>uq.r h};{
 rw[cc7 e2 hC];have y:nd.M≠1:=λe=>by unfold xO at hC;rw[aM rfl,aM e]at hC;split at hC<;>omega
 obtain⟨q1,q2,-⟩:=(gd.ho nd j).2 y;exact(dE5 c.ps e2 jE u q c.hS ⟨q1,q2⟩).h λr w'' h=>uq.r h}};rw[eA];unfold Ht;simp only[e2];rw[An,An,An,aM bf];by_cases q1:xO D nd S F=0;{rw[aM q1]};{rw[aL q1,dE3 e2 q1]}};{exact GF cx 8 0 D js 319 (.agg #[.U S,.string (aZ P),.I F]) 357 356 (.agg #[.U S,.string (aZ P),.I F]) (λh=>absurd h m)}
def eG6(cx:vm w0 w b bs bn D SB NB HB UB S F E iG pp np cp pq nv cv P V):Cp 194 #[Pz b,qZ (9:Nat) S (.S pp np cp) F (.S pq nv cv) E iG] w (Jy w0 w b bs bn D (mW D (9:Nat) S F E iG P V)):=by
 by_cases o:Aj D (rowOf 9).1 (rowOf 9).2.1 (qR 9 S F (J P) (J V) E iG) (9:Nat) S P=0;{
 let⟨hB,X,hp⟩:=Nn o;obtain⟨i,nd,m,rfl,N⟩:=aj5 (k:=9) (S:=S) (F:=F) (E:=E) (iG:=iG) (V:=V) (.R (.R (.R (.R (.L rfl))))) (hp rfl);have y:=bu m;have M:=(aa0 bf bf bf o).Z N;have gd:=cx.gd;let⟨s,x,u⟩:=gd.ci.nt nd y;have B:=s.pl;refine GF cx 9 (if nd.y.contains S then 0 else 10) (jR D i S) js 320 (.agg #[.U S,.string (aZ nd.A)]) 359 358 (.agg #[.U S,.string (aZ nd.A)]) (λ_=>⟨λw' c=>cZ6 c.ps m B c.hS rfl,λhC w' c=>by
   have W:nd.y.contains S:=by by_cases q:nd.y.contains S=dY;{exact q};{rw[aL q]at hC;omega}
   exact(cZ7 c.ps m c.gd.ci.so s c.hS x u W).h λr w'' h=>uq.r h,?_⟩)
 rw[M];unfold Ht;simp only[m];rw[An,An,An,An,aM bf];by_cases j:nd.y.contains S=dY;{rw[aM j,aM j];rfl};{rw[aL j,aL j];rfl}};{exact GF cx 9 0 D js 320 (.agg #[.U S,.string (aZ P)]) 359 358 (.agg #[.U S,.string (aZ P)]) (λh=>absurd h o)}
def eH2(cx:vm w0 w b bs bn D SB NB HB UB S F E iG pp np cp pq nv cv P V):Cp 194 #[Pz b,qZ (4:Nat) S (.S pp np cp) F (.S pq nv cv) E iG] w (Jy w0 w b bs bn D (mW D (4:Nat) S F E iG P V)):=by
 let⟨j,hj,y⟩:=cg0 (qm P V (if F=1 then S else 0)) D.N;refine GF cx 4 (KU D P) {D with N:=qt (qm P V (if F=1 then S else 0)) D.N} js 311 (.agg #[.U S,.string (aZ P),.bool (F==1),.S pq nv cv]) 349 348 (.agg #[.U S,.string (aZ P),.bool (F==1),.S pq nv cv]) (λs=>⟨λw' c=>eA8 c.ps c.hB c.eP c.hp (λnd aJ=>(c.gd.wf.pb nd aJ).2.1) (id:=S) (F:=F==1) (pv:=pq) (nv:=nv) (cv:=cv) rfl,λhC w' c=>?_,?_⟩);{
 obtain⟨-,ij,-⟩:=cD3 (V:=V) (S:=S) (F:=F) hC;have x:=eA9 c.ps (P:=P) (id:=S) (F:=F==1) c.hV (by show _<=_;rw[c.eP];exact c.hp) (λnd' aJ e=>by have Z:=Ml (c.gd.wf.pb nd' aJ).2.1 c.hB e;have:=Xo.1 ij nd' aJ;simp[Z]at this) c.gd.nl hj
 refine x.h λr w''⟨gN,hN,uN,h⟩=>?_;have N:(if(F==1)then S else 0)=if F=1 then S else 0:=by by_cases q:F=1<;>simp[q]
 rw[N]at h;rw[y];exact uq.r h};{
 let⟨hB,hs,hp⟩:=Nn s;rw[aa0 bf bf bf s];have B:JH D (4:Nat) S F E iG P V=IY D P V S F:=by obtain hr|⟨hr,u,-⟩:=bV4 (hp rfl);{rw[aO7 bf]at hr;cases hr};{unfold JH;rw[hr,u,aL aj,aM bf]}
 rw[B];by_cases hC:KU D P=0;{rw[aM hC,(cD3 hC).1]};{rw[aL hC,eA7 hC]}}
variable {K:Int}
def eH3(j:K=1\/K=3\/K=4\/K=5\/K=7\/K=8\/K=9)(i:vm w0 w b bs bn D SB NB HB UB S F E iG pp np cp pq nv cv P V):Cp 194 #[Pz b,qZ K S (.S pp np cp) F (.S pq nv cv) E iG] w (Jy w0 w b bs bn D (mW D K S F E iG P V)):=by
 obtain rfl|rfl|rfl|rfl|rfl|rfl|rfl:=j;{exact eG8 i};{exact cF6 i};{exact eH2 i};{exact eH1 i};{exact eG7 i};{exact eG9 i};{exact eG6 i}
end
def NG(a:Nat)(nd:ar):Prop:=aC nd.A/\J nd.A<=136/\J nd.V<=40/\J nd.y<=a/\J nd.X<=a/\nd.y.Pairwise (·<·)/\nd.X.Pairwise (·<·)
structure Fd(a:Nat)(ss:List aB)(ns:List ar):Prop where
 sl:J ss<=a
 nl:J ns<=a+150
 s1:ss.Pairwise (λs s'=>s.1<s'.1)
 n1:(ns.map λnd=>jA nd.A).Pairwise (·<·)
 s2:∀s∈ss,(0<=s.1/\s.1<2^64)/\J s.2.2<=8/\∀e∈s.2.2,J e.2<=136
 n2:∀nd∈ns,NG a nd
def NG.h{a:Nat}(h:NG a nd)(i:a<=a'):NG a' nd:=⟨h.1,h.2.1,h.2.2.1,aK h.2.2.2.1,aK h.2.2.2.2.1,h.2.2.2.2.2⟩
def Fd.h{a:Nat}(h:Fd a ss ns)(j:a<=a'):Fd a' ss ns:=⟨aK h.sl,aK h.nl,h.s1,h.n1,h.s2,λi m=>(h.n2 i m).h j⟩
variable {t:Int}
def Fd.of(h:lr e g x t ss ns)(hF:yC ss ns):Fd 50 ss ns:=by
 have o:=h;unfold lr at o;simp only[gL,jX]at o;obtain⟨⟨-,-,-,-,-,V,S⟩,a1,r⟩:=o;refine⟨V,S,hF.s1,hF.n1,λs y=>?_,λu E=>?_⟩;{obtain⟨-,-,q⟩:=aN6 a1 y;unfold wG at q;simp only[gL,jX,ky,vH]at q;refine⟨(hF.s2 s y).1,q.1,λe he=>?_⟩;let⟨i,j⟩:=jk.1 he;have m:=q.2 i (bg.1 j).1;rw[im,j,rJ]at m;unfold mQ at m;split at m;{simp only[gL,Fo]at m;omega};{simp only[gL]at m;exact JB m.2.2}};{
 let⟨i,j⟩:=jk.1 E;obtain⟨-,R,N⟩:=al3 r j;let⟨f1,f2,f3,f4,f5,D,B⟩:=hF.n2 u E;have X:=bX9 r j;have key:∀ids:LI,ids.Pairwise (·<·)->qN ss ids->J ids<=50:=λids Z hk=>by
  have:=XH ids (ss.map (·.1)) (WN Z) λi j=>by let⟨z,W,e⟩:=ap8 hk i j;exact fe.2 ⟨z,W,e⟩
  rw[ir]at this;omega
 have DR:J u.V<=40:=by have M:=(bg.1 j).1;have:=ky.1 r i (vH.2 M);unfold uy at this;rw[im,j,rJ]at this;simp only[gL,jX]at this;omega
 exact⟨f1,JB X,DR,key _ D R,key _ B N,D,B⟩}
def dD8(l m:LI):Mj l m=dD (¬jA m<jA l/\jA m≠jA l):=by
 unfold Mj;rw[T.aB1,Bj,Bj];show(!dD (jA m<jA l)&&!(jA m==jA l))=_;by_cases j:jA m<jA l<;>by_cases i:jA m=jA l<;>simp[j,i]
theorem ap3{x:ar}:∀{l:List ar},x∈qt nd l↔x=nd\/x∈l
 |[]=>by simp[qt]
 |y::r=>by rw[qt];split;{simp};{rw[fU,ap3,fU];constructor;{rintro(h|h|h);{exact .R (.L h)};{exact .L h};{exact .R (.R h)}};{rintro(h|h|h);{exact .R (.L h)};{exact .L h};{exact .R (.R h)}}}
def eJ3{x:List UInt8}(j:¬y<x)(i:y≠x):x<y:=by
 obtain h|h:=J6 (x<y);{exact h};{exact absurd (List.le_antisymm j h) (λe=>i e.C)}
theorem cf5:∀{l:List ar},(l.map λnd=>jA nd.A).Pairwise (·<·)->(∀x∈l,jA x.A≠jA nd.A)->((qt nd l).map λnd=>jA nd.A).Pairwise (·<·)
 |[],_,_=>by simp[qt]
 |y::r,h,aN=>by rw[kI,Ie]at h;obtain⟨o,q⟩:=h;have s:=aN y aj;rw[qt,dD8];split;{rename_i hl;simp only[jX]at hl;have m:jA nd.A<jA y.A:=eJ3 hl.1 hl.2;rw[kI,kI,Ie,Ie];refine⟨λz i=>?_,o,q⟩;obtain rfl|i:=fU.1 i;{exact m};{exact List.lt_trans m (o z i)}};{rename_i hl;simp only[jX]at hl;have m:jA y.A<jA nd.A:=cb6 λu=>hl ⟨u,s⟩;rw[kI,Ie];refine⟨λz i=>?_,cf5 q (λx j=>aN x (by simp[j]))⟩;obtain⟨x,j,rfl⟩:=fe.1 i;obtain rfl|j:=ap3.1 j;{exact m};{exact o _ (fe.2 ⟨x,j,rfl⟩)}}
def eI3(i:aC l)(hm:aC m)(h:jA l=jA m):l=m:=Ml i hm (by unfold di;exact vJ Lit.string h)
def EvG(ev:Ev):Prop:=1<=ev.1/\ev.1<=3/\vp ev.2/\aC ev.2
def ds5{q:List Ev}(h:wG q)(he:EvG ev):wG (tS q ev):=by
 unfold wG at h⊢;simp only[gL,jX,ky,vH]at h⊢;obtain⟨r,j⟩:=h;have key:∀(x:Ev),J q<8->mQ (J q) x->J (q++[x])<=8/\∀i,i<J (q++[x])->mQ i ((q++[x]).getD i (0,[])):=λx s m=>by refine⟨bq,λi o=>?_⟩;simp at o;by_cases e:i<J q;{rw[im,mj e,<-im];exact j i e};{obtain rfl:i=J q:=af;rw[im,pI aA,xL];exact m}
 unfold tS;split;{refine key _ af ?_;unfold mQ;rw[aL af];simp[he.1,he.2.1,he.2.2.1]};{split;{rename_i e7;refine key _ af ?_;unfold mQ;rw[aM e7];rfl};{exact⟨r,j⟩}}
def SV(x:Int)(s:aB):Prop:=(1<=s.1/\s.1<=x)/\(0<=s.2.1/\s.2.1<=1000015)/\wG s.2.2/\∀e∈s.2.2,aC e.2
def SV.push(h:SV x s)(he:EvG ev):SV x (s.1,s.2.1,tS s.2.2 ev):=by
 refine⟨h.1,h.2.1,ds5 h.2.2.1 he,λy j=>?_⟩;simp only[tS]at j;split at j;{obtain i|i:=jd.1 j;{exact h.2.2.2 y i};{simp at i;rw[i];exact he.2.2.2}};{split at j;{obtain i|i:=jd.1 j;{exact h.2.2.2 y i};{simp at i;rw[i];intro z m;simp at m}};{exact h.2.2.2 y j}}
def gD(ss:List aB):LI:=ss.map (·.1)
def py(ns:List ar):List (LI×Int):=ns.map λi=>(i.A,i.D)
def CP(C:List (LI×Int))(l:LI):Prop:=l=[47]\/(l,0)∈C
structure NV(e g:Int)(iI:LI)(C:List (LI×Int))(nd:ar):Prop where
 ep:0<=nd.P
 vp:vp nd.A=dY
 pb:aC nd.A
 cp:CP C (ig nd.A)
 va:J nd.V<=40
 vb:aC nd.V
 ow:nd.D=0\/nd.D∈iI
 h1:nd.y.Pairwise (·<·)
 h2:∀i∈nd.y,i∈iI
 w1:nd.X.Pairwise (·<·)
 w2:∀i∈nd.X,i∈iI
 lk:pL e g nd.M (J nd.y) nd.P nd.F=dY
structure VD(D:SD):Prop where
 e:0<=D.e/\D.e<=2^62
 g:0<=D.g/\D.g<=2^62
 x:0<=D.x/\D.x<=2^62
 t:0<=D.t/\D.t<=1000000
 sl:J D.E<=50
 nl:J D.N<=200
 s1:(gD D.E).Pairwise (·<·)
 s2:∀s∈D.E,SV D.x s
 n1:(D.N.map λnd=>jA nd.A).Pairwise (·<·)
 n2:∀nd∈D.N,NV D.e D.g (gD D.E) (py D.N) nd
def bV1(m:ns[k]?=nd)(i:nd'.A=nd.A)(j:nd'.D=nd.D):py (ns.set k nd')=py ns:=by
 unfold py;rw[an7];exact Tp (by rw[qn,m];simp[i,j])
def VD.vy(h:VD D)(hk:D.N[k]?=Y nd)(hp:nd'.A=nd.A)(ho:nd'.D=nd.D)(hn:NV D.e D.g (gD D.E) (py D.N) nd'):VD {D with N:=D.N.set k nd'}:=by
 refine⟨h.e,h.g,h.x,h.t,h.sl,by show J (List.set _ _ _)<=_;rw[rK];exact h.nl,h.s1,h.s2,?_,λy hy=>?_⟩;{
 have e:(D.N.set k nd').map (λnd=>jA nd.A)=D.N.map λnd=>jA nd.A:=by have:=vJ (List.map jA) (Wx hk hp);rw[uB,uB]at this;exact this
 show List.Pairwise _ (List.map _ (D.N.set k nd'));rw[e];exact h.n1};{show NV _ _ _ (py (D.N.set k nd')) y;rw[bV1 hk hp ho];obtain hy|rfl:=Xn hy;{exact h.n2 y hy};{exact hn}}
def VD.dj9(h:VD D)(hi:gD ss'=gD D.E)(hs:∀s∈ss',SV D.x s):VD {D with E:=ss'}:=by
 have hl:J ss'=J D.E:=by have:=vJ List.length hi;simpa[gD]using this
 refine⟨h.e,h.g,h.x,h.t,by show J ss'<=_;rw[hl];exact h.sl,h.nl,by show List.Pairwise _ (gD ss');rw[hi];exact h.s1,hs,h.n1,λy hy=>?_⟩;show NV _ _ (gD ss') _ y;rw[hi];exact h.n2 y hy
theorem bK9(he:EvG ev):∀(ids:LI){ss:List aB},(∀s∈ss,SV x s)->∀s∈we ss ids ev,SV x s
 |[],ss,h=>h
 |y::r,ss,h=>bK9 he r (ss:=Ed ss y ev) λs m=>by obtain⟨i,j,rfl⟩:=fe.1 m;split;{exact(h i j).push he};{exact h i j}
def VD.db6(h:VD D)(he:EvG ev)(ids:LI):VD {D with E:=we D.E ids ev}:=h.dj9 (Wk ids ev D.E) (bK9 he ids h.s2)
theorem VD.tell(h:VD D)(k:Nat)(h1:1<=kd)(h3:kd<=3):VD (jV D k kd):=by
 unfold jV;cases hk:D.N[k]? with
 |none=>exact h
 |some nd=>
  have hn:=h.n2 nd (bu hk);exact VD.db6 (D:={D with N:=D.N.set k {nd with X:=[]}}) (h.vy hk rfl rfl ⟨hn.ep,hn.vp,hn.pb,hn.cp,hn.va,hn.vb,hn.ow,hn.h1,hn.h2,List.Pairwise.nil,λi hi=>by simp at hi,hn.lk⟩) ⟨h1,h3,hn.vp,hn.pb⟩ _
def aK1(hk:D.N[k]?=nd)(kd:Int):∃tI,jV D k kd={D with E:=tI,N:=D.N.set k {nd with X:=[]}}/\gD tI=gD D.E:=by
 unfold jV;rw[hk];exact⟨_,rfl,Wk _ _ _⟩
theorem dt6(ns:List ar)(k:Nat):py (ns.eraseIdx k)=(py ns).eraseIdx k:=by
 unfold py
 induction ns generalizing k with
 |nil=>rfl
 |cons a r ih=>cases k with
  |zero=>rfl
  |succ k=>simp[ih]
def VD.rm(h:VD D)(r:D.N[k]?=nd)(hc:nd.D≠0\/∀z∈py D.N,ig z.1≠nd.A):VD (xH D k):=by
 refine⟨h.e,h.g,h.x,h.t,h.sl,gv (dD1 (Ph _ _)) h.nl,h.s1,h.s2,h.n1.sublist ((Ph _ _).map _),λy q=>?_⟩;have m:=Pg q;have i:=h.n2 y m;refine⟨i.ep,i.vp,i.pb,?_,i.va,i.vb,i.ow,i.h1,i.h2,i.w1,i.w2,i.lk⟩;obtain e|e:=i.cp;{exact .L e};{
 refine .R ?_;show _∈py (D.N.eraseIdx k);rw[dt6,cb3];let⟨j,o⟩:=jk.1 e;refine⟨j,λs=>?_,o⟩;subst s;have:(py D.N)[j]?=Y (nd.A,nd.D):=by unfold py;rw[qn,r];rfl
 rw[this]at o;simp only[mn,jy]at o;obtain hc|hc:=hc;{exact hc o.2};{exact hc (y.A,y.D) (fe.2 ⟨y,m,rfl⟩) o.1.C}}
theorem VD.drop(h:VD D)(k:Nat)(id:Int):VD (jR D k id):=by
 unfold jR;cases hk:D.N[k]? with
 |none=>exact h
 |some nd=>
  have hn:=h.n2 nd (bu hk);simp only;split;{
 rename_i hc;split;{exact VD.tell (D:={D with N:=D.N.set k {nd with y:=[],M:=0,P:=0,F:=0}}) (h.vy hk rfl rfl ⟨DK _,hn.vp,hn.pb,hn.cp,hn.va,hn.vb,hn.ow,List.Pairwise.nil,λi q=>by simp at q,hn.w1,hn.w2,rfl⟩) k bf bf};{
 rename_i hw;refine h.vy hk rfl rfl ⟨hn.ep,hn.vp,hn.pb,hn.cp,hn.va,hn.vb,hn.ow,Td hn.h1,λi q=>hn.h2 i (Hg.1 q).1,hn.w1,hn.w2,?_⟩;show pL D.e D.g nd.M (J (jF nd.y id)) nd.P nd.F=dY;have j:id∈nd.y:=by simpa using hc
 have s:1<=J (jF nd.y id):=by
  cases hq:jF nd.y id with
  |nil=>exact absurd hq hw
  |cons a r=>simp
 have B:nd.M≠1:=λhm=>by have N:=ao1 hn.lk hm;let⟨a,M⟩:=cb1.1 N;rw[M]at j hw;simp at j;subst j;exact hw (by simp[jF])
 have m:=hn.lk;unfold pL at m⊢;rw[aL B]at m⊢;by_cases E:nd.M=0;{have:=(aX2 hn.lk B).2.2 E;have:nd.y=[]:=sX.1 this;rw[this]at j;simp at j};{rw[aL E]at m⊢;simp only[gL,jX]at m⊢;exact⟨m.1,m.2.1,m.2.2.1,s⟩}}};{exact h}
def ex6(hk:D.N[k]?=nd){id:Int}:∃tI gQ,jR D k id={D with E:=tI,N:=D.N.set k gQ}/\gD tI=gD D.E/\gQ.A=nd.A/\gQ.D=nd.D/\id∉gQ.y/\(gQ.X=nd.X\/gQ.X=[]):=by
 unfold jR;rw[hk];simp only;split;{split;{have Iu:(D.N.set k {nd with y:=[],M:=0,P:=0,F:=0})[k]?=Y {nd with y:=[],M:=0,P:=0,F:=0}:=tA hk _;let⟨tI,e,hi⟩:=aK1 (D:={D with N:=D.N.set k {nd with y:=[],M:=0,P:=0,F:=0}}) Iu 3;refine⟨tI,{nd with y:=[],M:=0,P:=0,F:=0,X:=[]},by rw[e];simp only[Uf],hi,rfl,rfl,aj,.R rfl⟩};{exact⟨D.E,_,rfl,rfl,rfl,rfl,λhm=>(Hg.1 hm).2 rfl,.L rfl⟩}};{rename_i hc;exact⟨D.E,nd,by rw[Tp hk],rfl,rfl,rfl,by simpa using hc,.L rfl⟩}
def bD0(id:Int)(nd:ar):Prop:=nd.D≠id/\id∉nd.y
def JK(id:Int)(ns:List ar):Nat:=ns.countP λi=>dD (i.D=id)
theorem VD.mB{id:Int}(h0:id≠0):∀(f k:Nat){D:SD},VD D->(∀nd∈D.N,id∉nd.X)->(∀(j:Nat)(nd:ar),j<k->D.N[j]?=Y nd->bD0 id nd)->J D.N<=k+f→
  VD (Proofs.YtdloolggnjjfoaaGreatDoor.mB id f k D)/\gD (Proofs.YtdloolggnjjfoaaGreatDoor.mB id f k D).E=gD D.E/\(∀nd∈(Proofs.YtdloolggnjjfoaaGreatDoor.mB id f k D).N,bD0 id nd/\id∉nd.X)/\(Proofs.YtdloolggnjjfoaaGreatDoor.mB id f k D).N.length+JK id (D.N.drop k)=J D.N
 |0,k,D,h,hw,hg,hl=>by unfold Proofs.YtdloolggnjjfoaaGreatDoor.mB;refine⟨h,rfl,λnd u=>⟨?_,hw nd u⟩,?_⟩;{let⟨j,m⟩:=jk.1 u;have:=(bg.1 m).1;exact hg j nd af m};{rw[Uj af];rfl}
 | f+1,k,D,h,hw,hg,hl=>by
  unfold Proofs.YtdloolggnjjfoaaGreatDoor.mB;cases hk:D.N[k]? with
  |none=>
   have Z:J D.N<=k:=by simpa using hk
   have e:jR D k id=D:=by unfold jR;rw[hk]
   rw[e,hk];dsimp only;refine⟨h,rfl,λnd u=>⟨?_,hw nd u⟩,?_⟩;{let⟨j,m⟩:=jk.1 u;have:=(bg.1 m).1;exact hg j nd af m};{rw[Uj Z];rfl}
  | some nd=>
   have aH:=(bg.1 hk).1;have X:=h.drop k id;let⟨tI,gQ,e,hi,e1,e2,e3,B⟩:=ex6 hk (id:=id);rw[e]at X⊢;have iK:(D.N.set k gQ)[k]?=gQ:=tA hk _;have s:D.N.drop k=nd::D.N.drop (k+1):=(List.cD4 hk).C;have V:∀y∈D.N.set k gQ,id∉y.X:=λy i=>by
    obtain i|rfl:=Xn i;{exact hw y i};{
 obtain B|B:=B<;>rw[B]
 {exact hw nd (bu hk)};{simp}}
   simp only[iK];by_cases r:gQ.D=id;{
 rw[aM r];let⟨M,eT,hi2⟩:=aK1 (D:={D with E:=tI,N:=D.N.set k gQ}) iK 2;have q:=VD.tell (D:={D with E:=tI,N:=D.N.set k gQ}) X k (kd:=2) bf bf;rw[eT]at q⊢;simp only[Uf]at q⊢;have lx:(D.N.set k {gQ with X:=[]})[k]?=Y {gQ with X:=[]}:=tA hk _;have W:=VD.rm q (nd:={gQ with X:=[]}) lx (.L (by show gQ.D≠0;rw[r];exact h0));have E:(xH {D with E:=M,N:=D.N.set k {gQ with X:=[]}} k).N=D.N.eraseIdx k:=by show(D.N.set k _).eraseIdx k=_;exact List.eraseIdx_set_eq
 have o:J (D.N.eraseIdx k)=J D.N-1:=List.length_eraseIdx_of_lt aH;let⟨S,R,N,x⟩:=VD.mB h0 f k W (λy i=>by
  rw[E]at i;exact hw y (Pg i)) (λj y m i=>by
  rw[E,List.getElem?_eraseIdx_of_lt m]at i;exact hg j y m i) (by rw[E,o];omega)
 refine⟨S,R.Z (hi2.Z hi),N,?_⟩;rw[E,o,cC2 aH]at x;rw[s,JK,List.countP_cons_of_pos (by simp[<-e2,r]),<-JK];omega};{
 rw[aL r];let⟨S,R,N,x⟩:=VD.mB h0 f (k+1) X V (λj y m i=>by
  change(D.N.set k gQ)[j]?=Y y at i
  rw[uE]at i;by_cases ej:k=j;{subst ej;rw[aM rfl,aM aH]at i;cases i;exact⟨r,e3⟩};{rw[aL ej]at i;exact hg j y af i}) (by show J (List.set _ _ _)<=_;rw[rK];omega)
 refine⟨S,R.Z hi,N,?_⟩;have e5:(D.N.set k gQ).drop (k+1)=D.N.drop (k+1):=by rw[List.drop_set_of_lt af]
 simp only[e5,rK]at x;rw[s,JK,List.countP_cons_of_neg (by simp[<-e2,r]),<-JK];exact x}
def aR8{id:Int}:gD (Cb id ss)=(gD ss).filter λi=>!(i==id):=by
 unfold gD Cb;rw[List.filter_map];rfl
def VD.close(h:VD D){id:Int}(V:id≠0):VD (jS D id)/\gD (jS D id).E=(gD D.E).filter (λi=>!(i==id))/\(∀nd∈(jS D id).N,bD0 id nd/\id∉nd.X)/\(jS D id).N.length+JK id D.N=J D.N:=by
 have Qv:VD {D with N:=D.N.map (sO id)}:=by
  have ep:py (D.N.map (sO id))=py D.N:=by unfold py;rw[uB];rfl
  refine⟨h.e,h.g,h.x,h.t,h.sl,by show J (List.map _ _)<=_;rw[ir];exact h.nl,h.s1,h.s2,by show List.Pairwise _ (List.map _ (D.N.map (sO id)));rw[uB];exact h.n1,λy r=>?_⟩;obtain⟨z,E,rfl⟩:=fe.1 r;have m:=h.n2 z E;show NV _ _ _ (py (D.N.map (sO id))) _;rw[ep];exact⟨m.ep,m.vp,m.pb,m.cp,m.va,m.vb,m.ow,m.h1,m.h2,Td m.w1,λi q=>m.w2 i (Hg.1 q).1,m.lk⟩
 let⟨o,N,B,M⟩:=VD.mB V (J D.N) 0 Qv (λy r=>by obtain⟨z,E,rfl⟩:=fe.1 r;exactλhm=>(Hg.1 hm).2 rfl) (λj y hj=>af) (by show J (List.map _ _)<=_;rw[ir];omega)
 refine⟨?_,(aR8).Z (by rw[N]),B,?_⟩;{
 refine⟨o.e,o.g,o.x,o.t,gv (Uc _ _) o.sl,o.nl,?_,λs R=>o.s2 s (JZ.1 R).1,o.n1,λy r=>?_⟩;{show List.Pairwise _ (gD (Cb id _));rw[aR8];exact o.s1.filter _};{
 have m:=o.n2 y r;let⟨⟨Z,X⟩,W⟩:=B y r;have key:∀i,i∈gD (Proofs.YtdloolggnjjfoaaGreatDoor.mB id (J D.N) 0 {D with N:=D.N.map (sO id)}).E->i≠id->i∈gD (Cb id (Proofs.YtdloolggnjjfoaaGreatDoor.mB id (J D.N) 0 {D with N:=D.N.map (sO id)}).E):=λi q aN=>by rw[aR8];exact JZ.2 ⟨q,by simp[aN]⟩
 exact⟨m.ep,m.vp,m.pb,m.cp,m.va,m.vb,m.ow.imp (λh=>h) (λS=>key _ S Z),m.h1,λi q=>key i (m.h2 i q) (λe=>X (e▸q)),m.w1,λi q=>key i (m.w2 i q) (λe=>W (e▸q)),m.lk⟩}};{
 have e:JK id (List.drop 0 (D.N.map (sO id)))=JK id D.N:=by rw[rI,JK,List.countP_map];rfl
 have u:=M;simp only[ir]at u;rw[e]at u;exact u}
def PD.pw(h:(ns.map λnd=>jA nd.A).Pairwise (·<·)):PD ns:=λi j a b o m e=>by
 have key:∀(i j:Nat)(a b:ar),ns[i]?=Y a->ns[j]?=Y b->a.A=b.A->¬i<j:=λi j a b o m e s=>by obtain⟨r,rfl⟩:=bg.1 o;obtain⟨q,rfl⟩:=bg.1 m;have:=Fq.1 h i j (by simpa using r) (by simpa using q) s;simp only[aV5,e]at this;exact List.lt_irrefl _ this
 have r:=key i j a b o m e;have q:=key j i b a m o e.C;omega
theorem bt1(u:PD ns):nQ ns l=dY↔CP (py ns) l:=by
 unfold nQ CP;by_cases h:l=[47];{simp[h]};{
 rw[aL h];constructor;{
 intro hc;cases hn:jW ns l with
 |none=>rw[hn]at hc;cases hc
 |some m=>
  rw[hn]at hc;have q:m.A=l:=by simpa using Xp hn
  exact .R (fe.2 ⟨m,an0 hn,by rw[q,show m.D=0 by simpa using hc]⟩)};{
 rintro(e|e);{exact absurd e h};{
 let⟨m,hm,o⟩:=fe.1 e;simp only[jy]at o;cases hn:jW ns l with
 |none=>exact absurd (Xo.1 hn m hm) (by simp[o.1])
 |some n2=>
  have q:n2.A=l:=by simpa using Xp hn
  let⟨i,s⟩:=jk.1 hm;let⟨j,r⟩:=jk.1 (an0 hn);have:=u i j m n2 s r (o.1.Z q.C);subst this;rw[s]at r;cases r;simp[o.2]}}}
theorem cH8(h:l.Pairwise (·<·))(j:i<J l):(i==0||decide (l.getD (i-1) 0<l.getD i 0)):=by
 cases i with
 |zero=>rfl
 |succ i=>
  have:=Fq.1 h i (i+1) af j af;simp[im,bD j,bD (show i<J l by omega),this]
def aX3{i:Int}:live ss i=dY↔i∈gD ss:=by
 unfold live gD;simp only[Ui,Fo,fe]
def cg8(h:l.Pairwise (·<·))(m:∀i∈l,i∈gD ss):qN ss l:=by
 unfold qN;simp only[ky,vH];intro i j;unfold Ii;rw[cH8 h j,Bool.and_true,aX3];refine m _ ?_;rw[im,bD j];exact AJ j
def eJ8:∀(a b:List UInt8),Op.bytesLess a b=dY↔a<b:=λa b=>by rw[T.aB1];simp
theorem VD.ok(h:VD D):lr D.e D.g D.x D.t D.E D.N:=by
 unfold lr;simp only[gL,jX,ky,vH];refine⟨⟨h.e.2,h.g.2,h.x.2,h.t.1,h.t.2,h.sl,h.nl⟩,λi o=>?_,λi o=>?_⟩;{
 have q:=h.s2 _ (AJ o);have r:=cH8 h.s1 (i:=i) (by unfold gD;simpa using o);have e:∀j,(D.E.getD j (0,0,[])).1=(gD D.E).getD j 0:=λj=>by unfold gD;rw[im,im,qn];cases D.E[j]?<;>rfl
 have s:D.E.getD i (0,0,[])=D.E[i]:=by rw[im,bD o];rfl
 rw[<-e,<-e]at r;unfold wC;rw[r,s];simp only[gL,jX,vI];exact⟨q.1.1,q.1.2,q.2.1.1,q.2.1.2,q.2.2.1⟩};{
 have m:=h.n2 _ (AJ o);unfold uy;simp only[im,bD o,rJ,gL,jX,Ug];refine⟨⟨m.vp,?_⟩,(bt1 (PD.pw h.n1)).2 m.cp,m.va,?_,cg8 m.h1 m.h2,cg8 m.w1 m.w2,m.lk⟩;{
 cases i with
 |zero=>exact .L rfl
 |succ i=>
  refine .R ?_;have:=Fq.1 h.n1 i (i+1) bq (by simpa using o) af;simp only[aV5]at this;simp only[Ka,bD (show i<J D.N by omega),rJ];rw[JO,eJ8,Bj,Bj];exact this};{obtain e|e:=m.ow;{exact .L (by simp[e])};{exact .R (aX3.2 e)}}}
def VD.of(h:lr e g x t ss ns)(hF:yC ss ns)(g0:0<=g)(y:0<=x)(hq:∀s∈ss,∀ev∈s.2.2,aC ev.2)(hv:∀nd∈ns,aC nd.V)(e0:0<=e)(hE:∀nd∈ns,0<=nd.P):VD ⟨e,g,x,t,ss,ns⟩:=by
 have u:=h;unfold lr at u;simp only[gL,jX]at u;obtain⟨⟨l1,l2,l3,l4,Z,X,W⟩,a1,a2⟩:=u;refine⟨⟨e0,l1⟩,⟨g0,l2⟩,⟨y,l3⟩,⟨l4,Z⟩,X,W,by unfold gD;rw[AH];exact hF.s1,λs m=>?_,hF.n1,λnd q=>?_⟩;{let⟨i,o⟩:=jk.1 m;have:=ky.1 a1 i (by simpa using(bg.1 o).1);unfold wC at this;rw[im,o]at this;simp only[rJ,gL,jX]at this;exact⟨⟨this.1,this.2.1⟩,⟨this.2.2.2.1,this.2.2.2.2.1⟩,this.2.2.2.2.2,hq s m⟩};{let⟨i,o⟩:=jk.1 q;let⟨f1,f2,f3,f4,f5,f6,f7⟩:=hF.n2 nd q;have B:=(bg.1 o).1;have:=ky.1 a2 i (by simpa using B);unfold uy at this;simp only[im,o,rJ,gL,jX,Ug]at this;obtain⟨⟨V,-⟩,S,R,N,M,E,D⟩:=this;refine⟨hE nd q,V,f1,(bt1 (PD.pw hF.n1)).1 S,R,hv nd q,N.imp (λe=>by simpa using e) aX3.1,f6,λj r=>?_,f7,λj r=>?_,D⟩;{let⟨s,m,e⟩:=ap8 M j r;exact fe.2 ⟨s,m,e⟩};{let⟨s,m,e⟩:=ap8 E j r;exact fe.2 ⟨s,m,e⟩}}
theorem dm3(h:¬lW ss S<0):S∈gD ss:=by
 unfold lW at h;cases hf:ss.findIdx? (λs=>s.1==S)with
 |none=>rw[hf]at h;simp at h
 |some k=>
  obtain⟨j,i,-⟩:=Md.1 hf;exact fe.2 ⟨_,AJ j,by simpa using i⟩
def NV.dA{j i:Int}{C:List (LI×Int)}(h:NV e g iI C nd)(he:e<=j)(m:g<=i):NV j i iI C nd:=by
 refine⟨h.ep,h.vp,h.pb,h.cp,h.va,h.vb,h.ow,h.h1,h.h2,h.w1,h.w2,?_⟩;have:=h.lk;unfold pL at this⊢;split;{rename_i hm;rw[aM hm]at this;simp only[gL,jX]at this⊢;exact⟨this.1,this.2.1,af,af⟩};{rename_i hm;rwa [aL hm]at this}
def NV.ids{o:LI}{C:List (LI×Int)}(h:NV e g iI C nd)(j:∀i∈iI,i∈o):NV e g o C nd:=
 ⟨h.ep,h.vp,h.pb,h.cp,h.va,h.vb,h.ow.imp (λh=>h) (j _),h.h1,λi m=>j i (h.h2 i m),h.w1,λi m=>j i (h.w2 i m),h.lk⟩
variable {F:Int}
def VD.create(h:VD D)(N:vp P)(B:aC P)(W:J V<=40)(Z:aC V)(X:S∈gD D.E):VD (IY D P V S F).1:=by
 unfold IY;split;{exact h};{
 rename_i h1;split;{exact h};{
 rename_i h2;split;{exact h};{
 rename_i h3;have E:jW D.N P=dN:=by simpa using h1
 have hc:nQ D.N (ig P):=by simpa using h2
 have r:=(bt1 (PD.pw h.n1)).1 hc;have hm:∀z∈py D.N,z∈py (qt (qm P V (if F=1 then S else 0)) D.N):=λz M=>by obtain⟨y,m,rfl⟩:=fe.1 M;exact fe.2 ⟨y,ap3.2 (.R m),rfl⟩
 have s:∀l,CP (py D.N) l->CP (py (qt (qm P V (if F=1 then S else 0)) D.N)) l:=λl R=>R.imp (λh=>h) (hm _);refine⟨h.e,h.g,h.x,h.t,h.sl,by show J (qt _ _)<=_;rw[cf9];omega,h.s1,h.s2,cf5 h.n1 (λy m e=>?_),λy m=>?_⟩;{have:=Xo.1 E y m;exact this (by simpa using eI3 (h.n2 y m).pb B e)};{obtain rfl|m:=ap3.1 m;{refine⟨DK _,N,B,s _ r,W,Z,?_,List.Pairwise.nil,λi q=>by simp[qm]at q,List.Pairwise.nil,λi q=>by simp[qm]at q,rfl⟩;show(if F=1 then S else 0)=0\/_;split;{exact .R X};{exact .L rfl}};{have j:=h.n2 y m;exact⟨j.ep,j.vp,j.pb,s _ j.cp,j.va,j.vb,j.ow,j.h1,j.h2,j.w1,j.w2,j.lk⟩}}}}}
theorem VD.lock(h:VD D)(k:Nat){s:Int}(u:Int)(m:s∈gD D.E):VD (Cg D k s u).1:=by
 unfold Cg;cases hk:D.N[k]? with
 |none=>exact h
 |some nd=>
  have hn:=h.n2 nd (bu hk);simp only;split;{exact h};{split;{split;{exact h};{rename_i m1;refine h.vy hk rfl rfl ⟨hn.ep,hn.vp,hn.pb,hn.cp,hn.va,hn.vb,hn.ow,aH9 hn.h1,λi j=>?_,hn.w1,hn.w2,?_⟩;{obtain rfl|j:=Tf.1 j;{exact m};{exact hn.h2 i j}};{obtain⟨q,o,-⟩:=aX2 hn.lk m1;show pL D.e D.g 2 (J (mh nd.y s)) nd.P nd.F=dY;have:1<=J (mh nd.y s):=ca9 (Tf.2 (.L rfl));simp[pL,q,o,this]}}};{split;{exact h};{split;{exact h};{rename_i hg;have r:VD {D with g:=D.g+1}:=⟨h.e,⟨by have:=h.g;show 0<=D.g+1;omega,by show D.g+1<=_;omega⟩,h.x,h.t,h.sl,h.nl,h.s1,h.s2,h.n1,λy hy=>(h.n2 y hy).dA (DK _) (by show D.g<=D.g+1;omega)⟩;refine VD.vy r (nd':={nd with M:=1,y:=[s],P:=D.e,F:=D.g+1}) hk rfl rfl ⟨h.e.1,hn.vp,hn.pb,hn.cp,hn.va,hn.vb,hn.ow,aj,λi j=>?_,hn.w1,hn.w2,?_⟩;{simp at j;rw[j];exact m};{have:=h.g;show pL D.e (D.g+1) 1 1 D.e (D.g+1)=dY;simp[pL];omega}}}}}
theorem VD.node(h:VD D)(k:Nat)(r:K=7->J V<=40)(u:aC V)(q:K=5\/K=7\/K=8\/K=9)(j:S∈gD D.E\/K=6):VD (Ht D k K S F V).1:=by
 unfold Ht;cases hk:D.N[k]? with
 |none=>exact h
 |some nd=>
  have hn:=h.n2 nd (bu hk);simp only;split;{
 split;{exact h};{
 split;{exact h};{
 rename_i i _;have i:ta D.N nd.A=[]:=by simpa using i
 obtain⟨tI,s,-⟩:=aK1 hk 2;have o:=h.tell k (kd:=2) bf bf;rw[s]at o⊢;refine VD.rm o (nd:={nd with X:=[]}) (tA hk _) (.R λz m e=>?_);rw[show py ({D with E:=tI,N:=D.N.set k {nd with X:=[]}}:SD).N=py D.N from bV1 hk rfl rfl]at m;obtain⟨y,hy,rfl⟩:=fe.1 m;unfold ta at i;rw[List.map_eq_nil_iff,ca3]at i;exact i y hy (by simpa using e)}}};{split;{exact h};{rename_i n6;have j:=j.resolve_right n6;split;{split;{exact h};{rename_i h7 _;exact VD.tell (D:={D with N:=D.N.set k {nd with V:=V}}) (h.vy hk rfl rfl ⟨hn.ep,hn.vp,hn.pb,hn.cp,r h7,u,hn.ow,hn.h1,hn.h2,hn.w1,hn.w2,hn.lk⟩) k bf bf}};{split;{exact h.lock k F j};{split;{split;{exact h.drop k S};{exact h}};{exact absurd q af}}}}}
def VD.apply(h:VD D)(hB:aC P)(M:aC V)(o:K=1\/K=3\/K=4\/K=5\/K=7\/K=8\/K=9):VD (mW D K S F E iG P V).1:=by
 unfold mW;split;{exact h};{
 rename_i hf;split;{
 unfold yO;split;{exact h};{
 split;{exact h};{
 rename_i h1 h2;have hx:=h.x;have ht:=h.t;have B:gD (D.E++[(D.x+1,D.t+10,[])])=gD D.E++[D.x+1]:=by simp[gD]
 refine⟨h.e,h.g,⟨by show 0<=D.x+1;omega,by show D.x+1<=_;omega⟩,h.t,by show J (D.E++[_])<=_;simp;omega,h.nl,?_,λs j=>?_,h.n1,λy N=>?_⟩;{show List.Pairwise _ (gD (D.E++[_]));rw[B,ca4];refine⟨h.s1,aj,λa Z c hc=>?_⟩;simp at hc;obtain⟨s,j,rfl⟩:=fe.1 Z;have:=(h.s2 s j).1.2;omega};{obtain j|j:=jd.1 j;{have q:=h.s2 s j;exact⟨⟨q.1.1,by have:=q.1.2;show s.1<=D.x+1;omega⟩,q.2⟩};{simp at j;rw[j];exact⟨⟨by show 1<=D.x+1;omega,by show D.x+1<=D.x+1;omega⟩,⟨by show 0<=D.t+10;omega,by show D.t+10<=_;omega⟩,rfl,λe he=>by simp at he⟩}};{show NV _ _ (gD (D.E++[_])) _ y;rw[B];exact(h.n2 y N).ids λi W=>Me _ W}}}};{
 rename_i n1;split;{exact h};{
 rename_i j;have m:DT K->S∈gD D.E:=λX=>dm3 (by intro R;simp[X,R]at j);split;{exact absurd o af};{
 split;{rename_i n2 h3;have:S∈gD D.E:=m (by rw[h3];rfl);obtain⟨s,hm,rfl⟩:=fe.1 this;exact(h.close (aK (h.s2 s hm).1.1)).1};{
 split;{exact absurd o af};{
 rename_i n2 n3 n12;have r:K=4\/K=7->J V<=40:=λhK=>by obtain rfl|rfl:=hK<;>· simp[CD,qR,Bf,rowOf]at hf;omega
 unfold JH;split;{exact h};{rename_i hp;split;{rename_i h4;rw[aO7 af]at hp;exact h.create (by simpa using hp) hB (r (.L h4)) M (m (by rw[h4];rfl))};{split;{exact h};{split;{exact h};{split;{exact h};{rename_i n4 n10 _ n13;refine h.node _ (λe=>r (.R e)) M af ?_;by_cases u:K=6;{exact .R u};{exact .L (m (by simp[DT,n1,u,n13]))}}}}}}}}}}}}
def VD.wf(h:VD D):WF D:=by
 have q:∀(l:LI),l.Pairwise (·<·)->(∀i∈l,i∈gD D.E)->J l<=50:=λl r hm=>by have:=XH l (gD D.E) (r.imp (λs e=>af)) hm;have:=h.sl;unfold gD at*;rw[ir]at*;omega
 refine⟨h.g,h.x,h.t,λm o=>?_,λm o=>?_,λm o=>?_,λm o hm e=>?_,PD.pw h.n1⟩
 all_goals have j:=h.n2 m o
 {exact⟨gv (JB j.vp) bf,gv (q _ j.w1 j.w2) bf,gv (q _ j.h1 j.h2) bf⟩};{exact⟨j.vp,j.pb,gv (JB j.vp) bf⟩};{exact gv j.va bf};{have:=ao1 j.lk hm;rw[e]at this;cases this}
def VD.ids(h:VD D)(j:l.Pairwise (·<·))(hm:∀i∈l,i∈gD D.E):J l<=50:=by
 have:=XH l (gD D.E) (j.imp (λm e=>af)) hm;have:=h.sl;unfold gD at*;rw[ir]at*;omega
def SV.q(h:SV x s):J s.2.2<=8/\∀e∈s.2.2,aC e.2/\J e.2<=136:=by
 have q:=h.2.2.1;unfold wG at q;simp only[gL,jX,ky,vH]at q;refine⟨q.1,λe he=>⟨h.2.2.2 e he,?_⟩⟩;let⟨i,m⟩:=jk.1 he;have j:=q.2 i (bg.1 m).1;rw[im,m,rJ]at j;unfold mQ at j;split at j;{simp only[gL,Fo]at j;omega};{simp only[gL]at j;exact JB j.2.2}
open Go.Deep
def VD.PI(h:VD D){i:Int}(m:i∈gD D.E):1<=i/\i<=2^62:=by
 obtain⟨s,j,rfl⟩:=fe.1 m;have o:=(h.s2 s j).1;have q:=h.x;exact⟨o.1,af⟩
def VD.gM(h:VD D):Bs D.E:=λs j=>by
 let⟨m,i⟩:=(h.s2 s j).q;exact⟨af,λe he=>⟨(i e he).1,aK (i e he).2⟩⟩
def VD.cQ(h:VD D):Bn D.N:=λj m=>by
 have i:=h.n2 j m;have s:=JB i.vp;have r:=i.va;have q:=h.ids i.h1 i.h2;have o:=h.ids i.w1 i.w2;exact⟨i.pb,af,af,af,af⟩
def VD.og(h:VD D):Bu D.N:=λm o=>
 ⟨λi j=>aK (h.PI ((h.n2 m o).h2 i j)),λi j=>aK (h.PI ((h.n2 m o).w2 i j))⟩
def VD.uf(h:VD D):Bo D.N:=λi j=>by
 obtain e|e:=(h.n2 i j).ow;{omega};{have:=h.PI e;omega}
def VD.ap(h:VD D)(K S F E iG:Int)(P V:LI):AP D.e D.g D.x D.t D.E D.N K S F E iG P V=mW D K S F E iG P V:=by
 unfold AP;rw[aM h.ok]
def TB.dj6(h:TB w v l):∃p c,v=.S p (J l) c:=by
 obtain⟨p,c,e,-⟩:=h.1;exact⟨p,c,e⟩
def dh3(i:VD D){q:OA}{m:Nat}(j:Le D.E n)(o:Le D.N m)(eP:Le P np)(Z:Le V nv)(h:lI w (.S p n c) D.E)(N:gJ w (.S q m d) D.N)(M:Rd w (.S pp np cp) P)(B:Rd w (.S pq nv cv) V)(u:np<=1048576)(s:nv<=1048576)(X:np<=cp)(W:cp<=maxLen)(bP:aC P){R:SD×RP}(y:K=1\/K=3\/K=4\/K=5\/K=7\/K=8\/K=9)(eR:O (mW D K S F E iG P V=R)):dQ dG 92 #[bS D.e D.g D.x D.t (.S p n c) (.S q m d),qZ K S (.S pp np cp) F (.S pq nv cv) E iG] w λr w'=>QR (U w.heap) w w' r R.1 R.2:=by
 have hn:n<=50:=ae j▸i.sl;have hm:m<=200:=ae o▸i.nl;exact dh7 j o eP Z h N M B af af u s X W i.gM i.cQ (ag λ_=>i.wf) bP y (by show _=_;rw[i.ap];exact ae eR)
def mY.Ty{p q:OA}{m:Nat}(h:mY B w p n c q m d ss ns):kV w (.S p n c) ss/\gJ w (.S q m d) ns:=by
 obtain⟨r,o,j,i,-⟩:=h;exact⟨j,i⟩
def km.W(h:km w R m n sh)(q:∀b,b<=R->w'.heap[b]?=w.heap[b]?):km w' R m n sh:=by
 obtain⟨E,D,p,c,⟨B,y⟩,j,x⟩:=h;have e:=gj (q R aA);refine⟨E,λo=>(AO (q R aA)).Z (D o),p,c,⟨(e 0).Z B,(e 1).Z y⟩,?_,x⟩;obtain j|⟨b,o,u,r,j⟩:=j;{exact .L j};{exact .R ⟨b,o,u,r,λi s=>(gj (q b af) _).Z (j i s)⟩}
def km.H(h:km w R m n sh)(j:Below B w w')(o:R<B):km w' R m n sh:=h.W λb i=>j.block b (by omega)
def Kept.Rp(h:Kept [blk R] w w')(j:b<U w.heap)(m:b≠R):w'.heap[b]?=w.heap[b]?:=h.block b j λv i e=>by
 simp only[pY]at i;subst i;simp[Value.ownBlock]at e;exact m e.C
def gK.jD(h:gK B w v l)(r:Kept [blk R] w w')(u:R<B):gK B w' v l:=by
 refine⟨h.1,?_⟩;obtain q|⟨g,m,j,rfl,s,o,i⟩:=h.2;{exact .L q};{exact .R ⟨g,m,j,rfl,s,(r.Rp (JU.1 o).1 af).Z o,i⟩}
def OwnT.jD{α:Type}{el:G->α->List dV->List Lf->Prop}{xs:List α}(h:OwnT el ty sz B w v xs Ls)(o:∀w w' x c l,el w x c l->(∀a∈l,w'.heap[a.b]?=w.heap[a.b]?)->el w' x c l)(i:Kept [blk R] w w')(r:R<B):OwnT el ty sz B w' v xs Ls:=
 h.W (o _ _) i.size (λb j=>i.Rp (h.lt.1 b j).2 (aK (h.lt.1 b j).1)) (λa m=>i.Rp (h.lt.2 a m).2 (aK (h.lt.2 a m).1))
def OwnT.eL7{α:Type}{el:G->α->List dV->List Lf->Prop}{xs:List α}{x:α}{c:List dV}{l:List Lf}(h:OwnT el ty sz B V3 v xs Ls)(bj:∀w w' x c l,el w x c l->(∀a∈l,w'.heap[a.b]?=w.heap[a.b]?)->el w' x c l)(r:el V3 x c l)(hc:J c=sz)(D:gh M V3 l)(y:B<=M)(u:∀a∈Ls.flatten,a.b<M)(o:∀b,v.ownBlock=Y b->b<M):∃row,V3.ownsRow B ty sz v (J xs) row/\∀j m,m.ownsRow B ty sz j (J xs+1) (row++c)->V3.grownBy m v.ownBlock->(∀g,j.ownBlock=Y g->v.ownBlock=Y g\/U V3.heap<=g)→
   OwnT el ty sz B m j (xs++[x]) (Ls++[l])/\∃p q,j=.S p (J xs+1) q:=by
 obtain⟨cs,g1,g2,Z,X,W,V,R⟩:=h;refine⟨cs.flatten,X,λj m E s N=>?_⟩;have sn:=OwnT.snoc g1 g2 Z W V R bj r hc D y u o E s N;refine⟨sn,?_⟩;obtain⟨p,q,e,-⟩:=sn.read;rw[dm]at e;exact⟨p,q,e⟩
def PB.jD(h:PB w M N v xs A)(j:Kept [blk R] w w')(m:R<M):PB w' M N v xs A:=
 have k:∀a∈A,w'.heap[a.b]?=w.heap[a.b]?:=λa i=>j.Rp (h.ap.jY.lt i) (aK (h.ap.lo a i))
 ⟨h.rd.kR h.lv k,h.cap,h.lv,h.ap.W k,h.hi⟩
def PU.jD(h:PU w M N v xs A)(j:Kept [blk R] w w')(m:R<M):PU w' M N v xs A:=
 have k:∀a∈A,w'.heap[a.b]?=w.heap[a.b]?:=λa i=>j.Rp (h.ap.jY.lt i) (aK (h.ap.lo a i))
 ⟨h.rd.kR h.lv k,h.lv,h.ap.W k,h.hi⟩
def aQ.jD(h:aQ w b vs)(j:Kept [blk R] w w')(m:b<U w.heap)(q:b≠R):aQ w' b vs:=
 ⟨λi v r=>(gj (j.Rp m q) _).Z (h.1 i v r),λo=>(AO (j.Rp m q)).Z (h.2 o)⟩
def Kept.cu4{j:G}(h:Kept [blk R] w w1)(i:w1.grownBy j row)(hr:∀k,row=Y k->U w.heap<=k):Kept [blk R] w j:=
 ⟨i.os.Z h.os,i.tape.Z h.tape,i.output.Z h.output,gv h.size i.size,λk m o=>(i.block k (ku m h.size) (λe=>aK (hr k e.C))).Z (h.block k m o)⟩
def Kept.vy(h:Kept [blk R] w w1){a:Addr}(ha:U w.heap<=a.block)(v:dV):Kept [blk R] w (w1.setCell a v):=
 h.cu4 (iB w1 a v) λk e=>by cases e;exact ha
def dk6(h:km w R m n sh)(X:R<U w.heap)(s:aC m)(V:Mg n)(e:O (gp (m,sh)=(x,m',sh'))):dQ dG 222 #[Pz R] w λe w'=>e=dR (.agg #[.U x,.I 0,aq])/\km w' R m' (J m') sh'/\Kept [blk R] w w':=by
 let⟨W,i⟩:=aG (w.alloc (dO #[.U 0,.I 0,aq] 97));have B:=gF i;have u:aQ W (U w.heap) [.U 0,.I 0,aq]:=by rw[i];exact aQ.alloc w #[.U 0,.I 0,aq] _
 have zW:U W.heap=U w.heap+1:=by rw[i];simp
 go_in;go_wp2_with fail;rw[<-i];clear i;refine(Fk (h.H B X) s V e).h ?_;rintro r w1⟨rfl,q,j⟩;have o:=u.jD j af af;have Z:=ag ((Kept.tT (vs:=[blk R]) B).Z j);have E:=ag q;let⟨S,N,M⟩:=aC7 o.1;have rf:=o.2;clear u j q o h;go_wp2;refine cg (v:=.agg #[.U x,.I 0,aq]) (by simp[results,results222,go_sem,S,N,M]) rfl ⟨rfl,?_,?_⟩;{exact E.W λb s=>by iterate 3 rw[fT _ _ _ _ bq]}
 {exact((Z.vy aj _).vy aj _).vy aj _}
variable {s:Rs}
def dH4{α:Type}{f:Rs->α×Rs}{r:List α×Rs}{t:Rs}(e:O (lF f s=r))(i:O (gp s=((X:Int),t))):O (tY f X [] t=r):=by
  have:=ae e;rw[lF,ae i]at this;exact this
def dG0{α:Type}{f:Rs->α×Rs}{acc:List α}{r:List α×Rs}(e:O (tY f k acc s=r)):∃d m3 s3,O (f s=(d,m3,s3)):=⟨_,_,_,(by show _=_;rfl)⟩
def dF8{α:Type}{f:Rs->α×Rs}{acc xs:List α}{d:α}(e:O (tY f (X-i) acc s=(xs,m',sh')))(m:O (f s=(d,m3,s3)))(h:i<X):(s3->xs=[]/\m'=m3/\sh')/\(s3=dF->O (tY f (X-(i+1)) (acc++[d]) (m3,dF)=(xs,m',sh'))):=by
  have:=ae e;rw[show X-i=X-(i+1)+1 by omega,tY,ae m]at this;refine⟨λj=>?_,λj=>?_⟩;{rw[aM j,j]at this;simp only[jy]at this;exact⟨this.1.C,this.2.1.C,this.2.2.C⟩};{rw[aL (by rw[j];simp),j]at this;exact this}
def dF7{α:Type}{f:Rs->α×Rs}{acc xs:List α}{j:LI}{s2:Bool}(e:O (tY f (X-i) acc (j,s2)=(xs,m',sh')))(h:¬i<X):xs=acc/\m'=j/\sh'=s2:=by
  have:=ae e;rw[show X-i=0 by omega,tY]at this;simp only[jy]at this;exact⟨this.1.C,this.2.1.C,this.2.2.C⟩
def LfI{α:Type}(f:Rs->α×Rs)(s:G->dV->List α->Prop)(X:Nat)(xs:List α)(m':LI)(sh':Bool)(R:Nat)(w:G)(q r:dV)(wr:G):Prop:=∃(i:Nat)(acc:List α)(k:Nat)(j:LI)(o:Bool)(m:Nat)(p:OA)(c:Nat),i<=X/\q=.S p k c/\r=.U i/\k+m<=1048576/\Le acc k/\Le j m/\O (tY f (X-i) acc (j,o)=(xs,m',sh'))/\O (aC j)/\O (km wr R j m o)/\O (s wr (.S p k c) acc)/\O (Kept [blk R] w wr)
def dl6{d:aB}(e:O (Hl s=(d,m3,s3))):∃y,O (gp s=(y,m3,s3))/\O (d=xQ y):=by
  have:=ae e;rw[Hl]at this;simp only[jy]at this;exact⟨_,Prod.ext rfl this.2,this.1.C⟩
theorem lfW{q:Prop}(h':q:=by
    let⟨iu,hiu,uz0,uz1,uz2⟩:=kx Tryz.infoU64;let⟨is,Qn,Wr,Wq,Wp⟩:=kx Tryz.infoSes;let⟨iN,hiN,nz0,nz1,nz2⟩:=kx Tryz.infoNod;have hmn:J m=n:=h.1;obtain⟨⟨x,m1,s1⟩,e1⟩:∃y,O (gp (m,sh)=y):=⟨_,cM⟩;have ok1:=wF (m,sh) hb (hmn▸hl);rw[ae e1]at ok1;obtain⟨hx,au,xY,-⟩:=ok1;dsimp only at xY;obtain⟨X,rfl⟩:∃v:Nat,x=(v:Int):=⟨x.toNat,aK hx.1⟩;have hX:(X:Int)<2^64:=hx.2;have e2:=dH4 e e1;have jr:=ag au;clear hx au;show dQ _ _ _ _ _;go_in;go_wp2_with fail;refine(Fk h hb hl e1).h ?_;rintro r w1⟨rfl,oQ,iK⟩;have sQ:=ag oQ;have Jq:=ag iK;clear oQ iK h;go_wp2
    first
      |(go_loopw[5,9](LfI gp (gK (U w.heap)) X xs m' sh' R w) (λ_ iv _=>X-(intOf iv).toNat))
      |(go_loopw[5,9](LfI Hl (λwr v l=>∃Ls,OwnT mg 97 3 (U w.heap) wr v l Ls) X xs m' sh' R w) (λ_ iv _=>X-(intOf iv).toNat))
      |(go_loopw[5,9](LfI yM (λwr v l=>∃Ls,OwnT kF 141 8 (U w.heap) wr v l Ls) X xs m' sh' R w) (λ_ iv _=>X-(intOf iv).toNat))
    {exact⟨0,[],0,m1,s1,J m1,dN,0,cO _,rfl,rfl,af,cM,cM,e2,jr,sQ,by first|exact lZ _ _ _ _|exact⟨[],OwnT.nil _ _ _ _ _⟩,Jq⟩};{
 clear sQ Jq jr e2;obtain⟨i,acc,k,m2,s2,n2,p,c,hi,rfl,rfl,Ki,ek,uY,e3,ay,iw,iW,lx⟩:=hrel;have vN:=lx.size;by_cases aH:i<X;{
 have cL:=bM i X;have wi:IntKind.u64.wrap ((i:Int)+1)=((i+1:Nat):Int):=by rw[uG];omega
 let⟨d,m3,s3,e4⟩:=dG0 e3;have Qf:J m2<=1048576:=by rw[ae uY];omega
 first
   | (have ok3:=wF (m2,s2) ay Qf
      rw[ae e4]at ok3;obtain⟨-,aI,vS,rQ⟩:=ok3)
   | (have ok3:=aO1 (m2,s2) ay Qf
      rw[ae e4]at ok3;obtain⟨-,aI,vS,rQ⟩:=ok3)
   | (have ok3:=aO2 (m2,s2) ay Qf
      rw[ae e4]at ok3;obtain⟨-,aI,vS,rQ⟩:=ok3)
 clear Qf;dsimp only at vS rQ;rw[ae uY]at vS rQ;have oY:=ag aI;clear aI;let⟨e6t,e6f⟩:=dF8 e3 e4 aH;have E6T:=ag e6t;have E6F:=ag e6f;clear e6t e6f
 first
   | (have T1:O (gp (m2,s2)=(d,m3,s3)):=e4
      go_wp2_with fail;refine(Fk iw ay af e4).h ?_;rintro r w3⟨rfl,rA,kK⟩;have vk:=ag (lx.Z kK);have tF:=ag rA;have z3:=kK.size;obtain⟨l3,f3,pr,cr,⟨g0,g1⟩,-⟩:=rA;have O3:=ag (iW.jD kK af);clear kK)
   | (obtain⟨y,e4n,HD⟩:=dl6 e4
      go_wp2_with fail;refine(dk6 iw af ay af e4n).h ?_;rintro r w3⟨rfl,rA,kK⟩;have vk:=ag (lx.Z kK);have tF:=ag rA;have z3:=kK.size;have Il:km (w3.alloc (dO #[.U y,.I 0,aq] 97)) R m3 (J m3) s3:=rA.H (aD.alloc aA _) af;obtain⟨l3,f3,pr,cr,⟨g0,g1⟩,-⟩:=Il;let⟨Ls,Qc⟩:=ae iW;have O3:=ag (Qc.jD mg.W kK af);have Lp:=ag Qc.lt;clear Qc;clear rA kK)
   | (go_wp2_with fail
      refine(CN R m2 n2 s2 _ iw af ay af d m3 s3 e4).h ?_;rintro r w3⟨pP,NP,cP,pV,NV,cV,ow,mo,pH,NH,cH,ep,ge,Ae,rfl,Gv,um,rA,kK⟩;have EE:=du Gv iq um;clear Gv um;have vk:=ag (lx.Z kK);have tF:=ag rA;have z3:=kK.size;have Il:km (w3.alloc (dO #[.S pP NP cP,.S pV NV cV,.U ow,.I mo,.S pH NH cH,.U ep,.U ge,aq] 141)) R m3 (J m3) s3:=rA.H (aD.alloc aA _) af;obtain⟨l3,f3,pr,cr,⟨g0,g1⟩,-⟩:=Il;let⟨Ls,Qc⟩:=ae iW;have O3:=ag (Qc.jD kF.W kK af);have Lp:=ag Qc.lt;clear Qc;clear rA kK)
 cases s3 with
 | true=>
   clear rQ E6F;obtain⟨rfl,rfl,rfl⟩:=ae E6T rfl;obtain rfl:N=0:=eN.C;go_wp2;go_ret
   first
     |exact⟨dN,0,rfl,lZ _ _ _ _,tF,vk⟩
     |exact⟨dN,0,rfl,⟨[],OwnT.nil _ _ _ _ _⟩,tF.H (aD.alloc aA _) af,vk.alloc _⟩
 | false=>
   have hl5:=rQ rfl;have e6:=ae E6F rfl;clear rQ E6T E6F;obtain⟨n3,Nb⟩:∃k,Le m3 k:=⟨_,cM⟩;rw[ae Nb]at hl5 vS tF l3 g0;clear l3 g0
   first
     | (obtain⟨v3,gq⟩:∃V,V=w3.alloc (dO #[.int .u64 d] 27):=⟨_,rfl⟩
        have aI:=gF gq;have qA:∀i u,([.U d]:List dV)[i]?=Y u->I v3 (Ad (U w3.heap) i)=Y u:=gq▸Rj;have kW:=ag qA;have z4:U v3.heap=U w3.heap+1:=by rw[gq];simp
        have Cq:O (∀b,(Value.slice p k c).ownBlock=Y b->U w.heap<=b):=λb eb=>(O3.lt b eb).1;have BG:O (v3.ownsRow (U w.heap) 27 1 (.S p k c) k (acc.map (Value.int .u64))):=by have:=O3.H aI;unfold gK at this;rw[ae ek]at this;exact this
        have R4:=ag (tF.H aI af);have K4:=ag (vk.Z (Kept.tT aI));clear qA;go_wp2_with(at_builtin;rw[<-gq];refine Dt rfl 61 rfl iu 1 underlying61 hiu uz0 uz1 uz2 rfl bf (.S p k c) rfl BG (U w3.heap) 1 1 [.U d] rfl rfl kW (λu hu=>by simp at hu;subst hu;rfl) jC af af ?_);intro v' w9 gx hg zG;have gP:∀g,v'.ownBlock=Y g->(Value.slice p k c).ownBlock=Y g\/U v3.heap<=g:=λg eg=>by have:=zG g eg;rw[gq];simpa using this
        rw[<-gq]at hg;have sn:=gK.snoc ek gx;let⟨pN,cN,e9⟩:=sn.form;rw[dm,ae ek]at e9;subst e9;have SN:O (gK (U w.heap) w9 (.S pN (k+1) cN) (acc++[d])):=sn)
     | (obtain⟨v3,gq⟩:∃V,V=(w3.alloc (dO #[.int .u64 y,.int .i64 0,.slice dN 0 0] 97)).alloc (dO #[.int .u64 y,.int .i64 0,.slice dN 0 0] 97):=⟨_,rfl⟩
        have aI:Bw w3 v3:=gq▸(aD.alloc aA _).alloc aj _;have qA:∀i u,([.U y,.I 0,aq]:List dV)[i]?=Y u->I v3 (Ad (U w3.heap+1) i)=Y u:=by have e0:U (w3.alloc (dO #[.U y,.I 0,aq] 97)).heap=U w3.heap+1:=aj;rw[gq,<-e0];exact Rj
        have kW:=ag qA;have z4:U v3.heap=U w3.heap+2:=by rw[gq];simp
        have elx:mg v3 d [.U y,.I 0,aq] []:=ae HD▸mg.id v3 y;have apx:gh (U w3.heap) v3 []:=gh.nil _ _;let⟨row,uJ,uS⟩:=O3.app mg.W aI elx rfl apx af;have Cq:O (∀b,(Value.slice p k c).ownBlock=Y b->U w.heap<=b):=λb eb=>(O3.lt.1 b eb).1;rw[ae ek]at uJ uS;have Jt:=ag uS;have BG:=ag uJ;clear uS uJ;have R4:=ag (tF.H aI af);have K4:=ag (vk.Z (Kept.tT aI));clear qA;go_wp2_with(at_builtin;rw[<-gq];refine Dt rfl 38 rfl is 3 underlying38 Qn Wr Wq Wp rfl bf (.S p k c) rfl BG (U w3.heap+1) 1 1 [.U y,.I 0,aq] rfl rfl kW (λu hu=>by simp at hu;obtain rfl|rfl|rfl:=hu<;>rfl) jC af af ?_);intro v' w9 gx hg zG;have gP:∀g,v'.ownBlock=Y g->(Value.slice p k c).ownBlock=Y g\/U v3.heap<=g:=λg eg=>by have:=zG g eg;rw[gq];simpa using this
        rw[<-gq]at hg;obtain⟨sn,pN,cN,rfl⟩:=ae Jt v' w9 gx hg gP;have SN:O (∃Ls,OwnT mg 97 3 (U w.heap) w9 ((.S pN (k+1) cN)) (acc++[d]) Ls):=⟨_,sn⟩)
     | (obtain⟨v3,gq⟩:∃V,V=(w3.alloc (dO #[.slice pP NP cP,.slice pV NV cV,.int .u64 ow,.int .i64 mo,.slice pH NH cH,.int .u64 ep,.int .u64 ge,.slice dN 0 0] 141)).alloc (dO #[.slice pP NP cP,.slice pV NV cV,.int .u64 ow,.int .i64 mo,.slice pH NH cH,.int .u64 ep,.int .u64 ge,.slice dN 0 0] 141):=⟨_,rfl⟩
        have aI:Bw w3 v3:=gq▸(aD.alloc aA _).alloc aj _;have qA:∀i u,([.S pP NP cP,.S pV NV cV,.U ow,.I mo,.S pH NH cH,.U ep,.U ge,aq]:List dV)[i]?=Y u->I v3 (Ad (U w3.heap+1) i)=Y u:=by have e0:U (w3.alloc (dO #[.S pP NP cP,.S pV NV cV,.U ow,.I mo,.S pH NH cH,.U ep,.U ge,aq] 141)).heap=U w3.heap+1:=aj;rw[gq,<-e0];exact Rj
        have kW:=ag qA;have z4:U v3.heap=U w3.heap+2:=by rw[gq];simp
        have kE:∀a∈Ae,v3.heap[a.b]?=w3.heap[a.b]?:=λa ha=>aI.block _ (EE.2.2.jY.lt ha);have elx:kF v3 d [.S pP NP cP,.S pV NV cV,.U ow,.I mo,.S pH NH cH,.U ep,.U ge,aq] Ae:=kF.W _ _ _ _ _ EE.1 kE;have apx:gh (U wr.heap) v3 Ae:=EE.2.2.W kE;let⟨row,uJ,uS⟩:=(O3.H kF.W aI).eL7 kF.W elx rfl apx af (λa ha=>(Lp.2 a ha).2) (λb eb=>(Lp.1 b eb).2);have Cq:O (∀b,(Value.slice p k c).ownBlock=Y b->U w.heap<=b):=λb eb=>(O3.lt.1 b eb).1;rw[ae ek]at uJ uS;have Jt:=ag uS;have BG:=ag uJ;clear uS uJ;have R4:=ag (tF.H aI af);have K4:=ag (vk.Z (Kept.tT aI));clear qA;go_wp2_with(at_builtin;rw[<-gq];refine Dt rfl 39 rfl iN 8 underlying39 hiN nz0 nz1 nz2 rfl bf (.S p k c) rfl BG (U w3.heap+1) 1 1 [.S pP NP cP,.S pV NV cV,.U ow,.I mo,.S pH NH cH,.U ep,.U ge,aq] rfl rfl kW (λu hu=>by simp at hu;obtain rfl|rfl|rfl|rfl|rfl|rfl|rfl|rfl:=hu<;>rfl) jC af af ?_);intro v' w9 gx hg zG;have gP:∀g,v'.ownBlock=Y g->(Value.slice p k c).ownBlock=Y g\/U v3.heap<=g:=λg eg=>by have:=zG g eg;rw[gq];simpa using this
        rw[<-gq]at hg;obtain⟨sn,pN,cN,rfl⟩:=ae Jt v' w9 gx hg gP;have SN:O (∃Ls,OwnT kF 141 8 (U w.heap) w9 ((.S pN (k+1) cN)) (acc++[d]) Ls):=⟨_,sn⟩)
   have K9:=ag (K4.cu4 hg (λb eb=>ae Cq b eb));have R9:=ag (R4.W λb hbR=>hg.block b af (λeb=>aK (ae Cq b eb.C)));have EK:O (J (acc++[d])=k+1):=by show _=_;rw[dm,ae ek];rfl
   clear gx hg gP zG sn gq aI g1 f3;go_wp2;go_roundw;{exact⟨i+1,acc++[d],k+1,m3,dF,n3,pN,cN,af,rfl,by go_num,af,EK,Nb,e6,oY,R9,SN,K9⟩};{simp[intOf];omega}};{have cL:=fq i X;have eiX:X=i:=af;obtain⟨rfl,rfl,rfl⟩:=dF7 e3 aH;obtain rfl:N=k:=eN.C.Z ek;have R9:O (km wr R m' (J m') sh'):=ae uY▸iw;go_wp2;go_ret;exact⟨p,c,rfl,iW,R9,lx⟩}}):q:=h'
def dF4(h:km w R m n sh)(s:R<U w.heap)(hb:O (aC m))(hl:Mg n)(e:O (lF gp (m,sh)=(xs,m',sh')))(eN:Le xs N):Cp 252 #[Pz R,.func (.func 220) #[Pz R] #[]] w λr w'=>∃j o,r=dR (.S j N o)/\(gK (U w.heap) w' ((.S j N o)) xs)/\km w' R m' (J m') sh'/\Kept [blk R] w w':=lfW
variable {xs:List aB}
def dF5(h:km w R m n sh)(s:R<U w.heap)(hb:O (aC m))(hl:Mg n)(e:O (lF Hl (m,sh)=(xs,m',sh')))(eN:Le xs N):Cp 221 #[Pz R,.func (.func 222) #[Pz R] #[]] w λr w'=>∃j o,r=dR (.S j N o)/\(∃Ls,OwnT mg 97 3 (U w.heap) w' ((.S j N o)) xs Ls)/\km w' R m' (J m') sh'/\Kept [blk R] w w':=lfW
def dz8(R:Nat)(m:LI)(n:Nat)(sh:Bool)(w:G)(h:km w R m n sh)(hR:R<U w.heap)(hb:O (aC m))(hl:Mg n)(d:ar)(m':LI)(sh':Bool)(e:O (yM (m,sh)=(d,m',sh'))):dQ dG 224 #[Pz R] w λr w'=>∃(pP:OA)(NP cP:Nat)(pV:OA)(NV cV:Nat)(i j:Int)(pH:OA)(NH cH:Nat)(E q:Int)(Ae:List Lf),r=dR (.agg #[.S pP NP cP,.S pV NV cV,.U i,.I j,.S pH NH cH,.U E,.U q,aq])/\kF w' d [.S pP NP cP,.S pV NV cV,.U i,.I j,.S pH NH cH,.U E,.U q,aq] Ae/\gh (U w.heap) w' Ae/\km w' R m' (J m') sh'/\Kept [blk R] w w':=by
 have hmn:J m=n:=h.1;obtain⟨⟨P,m1,s1⟩,E1⟩:∃y,O (sT m sh=y):=⟨_,cM⟩;obtain⟨⟨V,m2,s2⟩,E2⟩:∃y,O (sT m1 s1=y):=⟨_,cM⟩;obtain⟨⟨i,m3,s3⟩,E3⟩:∃y,O (gp (m2,s2)=y):=⟨_,cM⟩;obtain⟨⟨j,m4,s4⟩,E4⟩:∃y,O (sB m3 s3=y):=⟨_,cM⟩;obtain⟨⟨H,m5,s5⟩,E5⟩:∃y,O (lF gp (m4,s4)=y):=⟨_,cM⟩;obtain⟨⟨E,m6,s6⟩,E6⟩:∃y,O (gp (m5,s5)=y):=⟨_,cM⟩;obtain⟨⟨q,m7,s7⟩,E7⟩:∃y,O (gp (m6,s6)=y):=⟨_,cM⟩;have ED:O (d=⟨P,V,i,j,H,E,q,[]⟩/\m'=m7/\sh'=s7):=by have:=ae e;rw[yM]at this;simp only[ae E1,ae E2,ae E3,ae E4,ae E5,ae E6,ae E7,jy]at this;exact⟨this.1.C,this.2.1.C,this.2.2.C⟩
 have k1:=Tq (sh:=sh) hb;rw[ae E1]at k1;obtain⟨-,c1,-,d1⟩:=k1;dsimp only at c1 d1;have k2:=Tq (sh:=s1) c1;rw[ae E2]at k2;obtain⟨-,c2,-,d2⟩:=k2;dsimp only at c2 d2;have k3:=wF (m2,s2) c2 (by dsimp only;omega);rw[ae E3]at k3;obtain⟨-,c3,d3,-⟩:=k3;dsimp only at c3 d3;have k4:=Tr (sh:=s3) c3;rw[ae E4]at k4;obtain⟨c4,-,-,d4⟩:=k4;dsimp only at c4 d4;have k5:=Ul wF (s:=(m4,s4)) c4 (by dsimp only;omega);rw[ae E5]at k5;obtain⟨-,c5,d5,-⟩:=k5;dsimp only at c5 d5;have k6:=wF (m5,s5) c5 (by dsimp only;omega);rw[ae E6]at k6;obtain⟨-,c6,d6,-⟩:=k6;dsimp only at c6 d6;have B1:=ag c1;have B2:=ag c2;have B3:=ag c3;have B4:=ag c4;have B5:=ag c5;have B6:=ag c6;have g1:J m1<=1048576:=af;have g2:J m2<=1048576:=af;have g3:J m3<=1048576:=af;have g4:J m4<=1048576:=af;have g5:J m5<=1048576:=af;have g6:J m6<=1048576:=af;clear c1 c2 c3 c4 c5 c6 d1 d2 d3 d4 d5 d6 hmn;obtain⟨NP,eP⟩:∃k,Le P k:=⟨_,cM⟩;obtain⟨NV,eV⟩:∃k,Le V k:=⟨_,cM⟩;obtain⟨NH,eH⟩:∃k,Le H k:=⟨_,cM⟩;let⟨W,hW⟩:=aG (w.alloc (dO #[aq,aq,.U 0,.I 0,aq,.U 0,.U 0,aq] 141));have bW:=gF hW;have C0:O (aQ W (U w.heap) [aq,aq,.U 0,.I 0,aq,.U 0,.U 0,aq]):=by show aQ _ _ _;rw[hW];exact aQ.alloc w #[aq,aq,.U 0,.I 0,aq,.U 0,.U 0,aq] _
 have zW:U W.heap=U w.heap+1:=by rw[hW];simp
 have R0:=ag (h.H bW hR);have K0:=ag (Kept.tT (vs:=[blk R]) bW);go_in;go_wp2_with fail;rw[<-hW];clear hW h bW;refine(aJ9 (R:=R) (m:=m) (n:=n) (sh:=sh) R0 hb hl af (x:=P) (m':=m1) (sh':=s1) E1 (N:=NP) eP).h ?_;rintro z9 y1⟨pP,cP,rfl,oP,qc,iK⟩;let⟨lP,fP⟩:=Own.pb oP;have FP1:=ag fP;have C1:=ag (C0.jD iK af af);have K1:=ag (K0.Z iK);have R1:=ag qc;have z1:=iK.size;clear iK qc C0 K0 R0  oP fP;go_wp2_with fail;refine(aJ9 (R:=R) (m:=m1) (n:=J m1) (sh:=s1) R1 B1 g1 af (x:=V) (m':=m2) (sh':=s2) E2 (N:=NV) eV).h ?_;rintro z9 y2⟨pV,cV,rfl,WT,iw,lx⟩;let⟨lV,fV⟩:=Own.pb WT;have FV2:=ag fV;have C2:=ag (C1.jD lx af af);have K2:=ag (K1.Z lx);have R2:=ag iw;have z2:=lx.size;have FP2:=ag (FP1.jD lx af);clear lx iw C1 K1 R1 FP1 WT fV;go_wp2_with fail;refine(Fk (R:=R) (m:=m2) (n:=J m2) (sh:=s2) R2 B2 g2 (x:=i) (m':=m3) (sh':=s3) E3).h ?_;rintro z9 y3⟨rfl,rA,kK⟩;have C3:=ag (C2.jD kK af af);have K3:=ag (K2.Z kK);have R3:=ag rA;have z3:=kK.size;have FP3:=ag (FP2.jD kK af);have FV3:=ag (FV2.jD kK af);clear kK rA C2 K2 R2 FP2 FV2;go_wp2_with fail;refine(aM9 (R:=R) (m:=m3) (n:=J m3) (sh:=s3) R3 B3 g3 (x:=j) (m':=m4) (sh':=s4) E4).h ?_;rintro z9 y4⟨rfl,Il,Is⟩;have C4:=ag (C3.jD Is af af);have K4:=ag (K3.Z Is);have R4:=ag Il;have z4:=Is.size;have FP4:=ag (FP3.jD Is af);have FV4:=ag (FV3.jD Is af);clear Is Il C3 K3 R3 FP3 FV3;go_wp2_with fail;refine(dF4 (R:=R) (m:=m4) (n:=J m4) (sh:=s4) R4 af B4 g4 (xs:=H) (m':=m5) (sh':=s5) E5 (N:=NH) eH).h ?_;rintro z9 y5⟨pH,cH,rfl,oH,hr5,Gg⟩;let⟨lH,fH⟩:=gK.pu oH;have FH5:=ag fH;have C5:=ag (C4.jD Gg af af);have K5:=ag (K4.Z Gg);have R5:=ag hr5;have z5:=Gg.size;have FP5:=ag (FP4.jD Gg af);have FV5:=ag (FV4.jD Gg af);clear Gg hr5 C4 K4 R4 FP4 FV4 oH fH;go_wp2_with fail;refine(Fk (R:=R) (m:=m5) (n:=J m5) (sh:=s5) R5 B5 g5 (x:=E) (m':=m6) (sh':=s6) E6).h ?_;rintro z9 y6⟨rfl,hr6,M⟩;have C6:=ag (C5.jD M af af);have K6:=ag (K5.Z M);have R6:=ag hr6;have z6:=M.size;have FP6:=ag (FP5.jD M af);have FV6:=ag (FV5.jD M af);have FH6:=ag (FH5.jD M af);clear M hr6 C5 K5 R5 FP5 FV5 FH5;go_wp2_with fail;refine(Fk (R:=R) (m:=m6) (n:=J m6) (sh:=s6) R6 B6 g6 (x:=q) (m':=m7) (sh':=s7) E7).h ?_;rintro z9 y7⟨rfl,hr7,X⟩;have C7:=ag (C6.jD X af af);have K7:=ag (K6.Z X);have R7:=ag hr7;have z7:=X.size;have FP7:=ag (FP6.jD X af);have FV7:=ag (FV6.jD X af);have FH7:=ag (FH6.jD X af);clear X hr7 C6 K6 R6 FP6 FV6 FH6;let⟨r0,r1,r2,r3,r4,r5,r6,r7⟩:=Nx C7.1;have rf:=C7.2;go_wp2;let⟨Z,hZ⟩:=aG ((((((((y7.setCell (Aw w 0) (.S pP NP cP)).setCell (Aw w 1) (.S pV NV cV)).setCell (Aw w 2) (.U i)).setCell (Aw w 3) (.I j)).setCell (Aw w 4) (.S pH NH cH)).setCell (Aw w 5) (.U E)).setCell (Aw w 6) (.U q)).setCell (Aw w 7) aq);have Ge:∀b,b≠U w.heap->Z.heap[b]?=y7.heap[b]?:=λb hb=>by
  rw[hZ]
  iterate 8 rw[fT _ _ _ _ hb]
 let⟨ed,em,es⟩:=ae ED;subst em es;refine cg (v:=.agg #[.S pP NP cP,.S pV NV cV,.U i,.I j,.S pH NH cH,.U E,.U q,aq]) (by simp[results,results224,go_sem,r0,r1,r2,r3,r4,r5,r6,r7]) rfl ?_;rw[<-hZ];have k0:=FP7.my (z0:=U w.heap) af Ge;have k1:=FV7.my (z0:=U w.heap) af Ge;have k4:=FH7.my (z0:=U w.heap) af Ge;rw[<-ae eP]at k0;rw[<-ae eV]at k1;rw[<-ae eH]at k4;let⟨en,Rw⟩:=kF.mk4 (nd:=⟨P,V,i,j,H,E,q,[]⟩) (B:=U w.heap) k0 k1 k4 (PU.nil Z (U y7.heap) (U y7.heap)) af af af af af af af af af af;dsimp only at en;rw[ae eP,ae eV,ae eH]at en;rw[ed];refine⟨_,_,_,_,_,_,_,_,_,_,_,_,_,_,rfl,en,Rw,R7.W λb hb=>Ge b af,?_⟩;rw[hZ];exact(((((((K7.vy aj _).vy aj _).vy aj _).vy aj _).vy aj _).vy aj _).vy aj _).vy aj _
variable {xs:List ar}
def dF6(h:km w R m n sh)(s:R<U w.heap)(hb:O (aC m))(hl:Mg n)(e:O (lF yM (m,sh)=(xs,m',sh')))(eN:Le xs N):dQ dG 223 #[Pz R,.func (.func 224) #[Pz R] #[]] w λr w'=>∃j o,r=dR (.S j N o)/\(∃Ls,OwnT kF 141 8 (U w.heap) w' ((.S j N o)) xs Ls)/\km w' R m' (J m') sh'/\Kept [blk R] w w':=by
 have CN:=@dz8;exact lfW
def er0{e g x:Nat}(he:e<2^64)(m:g<2^64)(j:x<2^64)(hr:∀nd∈ns,NI nd):aC (CG e g x t ss ns):=by
 rw[CG];split;{next h=>exact aM2 af af af (aj4 h hr) hr}
 {exactλz i=>by simp at i}
theorem dN4(en:Le l n)(h:Rd w (.S p n c) l)(hb:O (aC l))(hl:Mg n)(nE:n<=c)(hp:O ((p=dN/\c=0)\/∃b o,p=(Ad b o)))(mu:O (∀b o,p=(Ad b o)->b<U w.heap))(pO:ML w):dQ dG 188 #[.S p n c] w λr w'=>bw3 (U w.heap) r w' (Gz (tZ l)) (GC (tZ l))/\Bw w w':=by
 have HR:=ag λ(w':G)(hb:Bw w w')=>aF (h.H hb) (pO.H hb);obtain⟨⟨e,m1,s1⟩,E1⟩:∃y,O (gp (l,dF)=y):=⟨_,cM⟩;obtain⟨⟨g,m2,s2⟩,E2⟩:∃y,O (gp (m1,s1)=y):=⟨_,cM⟩;obtain⟨⟨x,m3,s3⟩,E3⟩:∃y,O (gp (m2,s2)=y):=⟨_,cM⟩;obtain⟨⟨B,m4,s4⟩,E4⟩:∃y,O (lF Hl (m3,s3)=y):=⟨_,cM⟩;obtain⟨⟨u,m5,s5⟩,E5⟩:∃y,O (lF yM (m4,s4)=y):=⟨_,cM⟩;have EI:O (sA l=((e,g,x),B,u,m5,s5)):=by show _=_;rw[sA];simp only[ae E1,ae E2,ae E3,ae E4,ae E5]
 have k1:=wF (l,dF) hb (by dsimp only;rw[ae en];exact hl);rw[ae E1]at k1;obtain⟨ue,c1,d1,-⟩:=k1;dsimp only at ue c1 d1;rw[ae en]at d1;have k2:=wF (m1,s1) c1 (by dsimp only;omega);rw[ae E2]at k2;obtain⟨ug,c2,d2,-⟩:=k2;dsimp only at ug c2 d2;have k3:=wF (m2,s2) c2 (by dsimp only;omega);rw[ae E3]at k3;obtain⟨ux,c3,d3,-⟩:=k3;dsimp only at ux c3 d3;have k4:=Ul aO1 (s:=(m3,s3)) c3 (by dsimp only;omega);rw[ae E4]at k4;obtain⟨Yb,c4,d4,f4⟩:=k4;dsimp only at Yb c4 d4 f4;have k5:=Ul aO2 (s:=(m4,s4)) c4 (by dsimp only;omega);rw[ae E5]at k5;obtain⟨FM,c5,d5,f5⟩:=k5;dsimp only at FM c5 d5 f5;have B1:=ag c1;have B2:=ag c2;have B3:=ag c3;have B4:=ag c4;have g1:J m1<=1048576:=af;have g2:J m2<=1048576:=af;have g3:J m3<=1048576:=af;have g4:J m4<=1048576:=af;obtain⟨D,eKS⟩:∃k,Le B k:=⟨_,cM⟩;obtain⟨KN,eKN⟩:∃k,Le u k:=⟨_,cM⟩;have hKS:D<=1048576:=by rw[<-ae eKS];omega
 have hKN:KN<=1048576:=by rw[<-ae eKN];omega
 have Jn:=ag Yb;have GZ:=ag FM;have re:0<=e/\e<2^64:=ue;have rg:0<=g/\g<2^64:=ug;have rx:0<=x/\x<2^64:=ux;obtain⟨e,rfl⟩:∃v:Nat,e=(v:Int):=⟨e.toNat,af⟩;obtain⟨g,rfl⟩:∃v:Nat,g=(v:Int):=⟨g.toNat,af⟩;obtain⟨x,rfl⟩:∃v:Nat,x=(v:Int):=⟨x.toNat,af⟩;have he:e<2^64:=af;have hg:g<2^64:=af;have hx:x<2^64:=af;let⟨W1,fx⟩:=aG (w.alloc (dO #[.U 0,.U 0,.U 0,.I 0,aq,aq] 41));have bW1:=gF fx;have zW1:U W1.heap=U w.heap+1:=by rw[fx];simp
 let⟨W,hW⟩:=aG (W1.alloc (dO #[.S p n c,.bool dF] 268));have Ns:=gF hW;have zW:U W.heap=U w.heap+2:=by rw[hW];simp;omega
 have bW:=ai bW1 Ns;let⟨R,hR⟩:=aG (U w.heap+1);have C0:O (aQ W (U w.heap) [.U 0,.U 0,.U 0,.I 0,aq,aq]):=by
  have:aQ W1 (U w.heap) [.U 0,.U 0,.U 0,.I 0,aq,aq]:=by rw[fx];exact aQ.alloc w #[.U 0,.U 0,.U 0,.I 0,aq,aq] _
  exact this.H af Ns
 have R0:O (km W R l n dF):=by
  have hc:aQ W R [.S p n c,.bool dF]:=by rw[hW,show R=U W1.heap by omega];exact aQ.alloc W1 #[.S p n c,.bool dF] _
  refine⟨en,hc.2,p,c,⟨hc.1 0 _ rfl,hc.1 1 _ rfl⟩,?_,nE,hp⟩;let⟨p',c',ev,hd⟩:=h.H bW;simp only[rj]at ev;obtain h0|⟨b,o,h1,h2⟩:=hd;{exact .L h0};{refine .R ⟨b,o,?_,ev.1.Z h1,h2⟩;have:=ae mu b o (ev.1.Z h1);omega}
 have K0:=ag (Kept.refl [blk R] W);have hRW:R<U W.heap:=af;have hwR:U w.heap<R:=af;go_in;go_wp2_with fail;rw[<-fx,<-hW,<-hR];have Ln:=ag hR;clear fx hW h pO bW1 Ns zW1 hR;refine(Fk (R:=R) (m:=l) (n:=n) (sh:=dF) R0 hb hl (x:=e) (m':=m1) (sh':=s1) E1).h ?_;rintro z9 y1⟨rfl,qc,iK⟩;have C1:=ag (C0.jD iK af af);have K1:=ag (K0.Z iK);have R1:=ag qc;have z1:=iK.size;clear iK qc C0 K0 R0;go_wp2_with fail;refine(Fk (R:=R) (m:=m1) (n:=J m1) (sh:=s1) R1 B1 g1 (x:=g) (m':=m2) (sh':=s2) E2).h ?_;rintro z9 y2⟨rfl,iw,lx⟩;have C2:=ag (C1.jD lx af af);have K2:=ag (K1.Z lx);have R2:=ag iw;have z2:=lx.size;go_wp2_with fail;refine(Fk (R:=R) (m:=m2) (n:=J m2) (sh:=s2) R2 B2 g2 (x:=x) (m':=m3) (sh':=s3) E3).h ?_;rintro z9 y3⟨rfl,rA,kK⟩;have C3:=ag (C2.jD kK af af);have K3:=ag (K2.Z kK);have R3:=ag rA;have z3:=kK.size;go_wp2_with fail;refine(dF5 (R:=R) (m:=m3) (n:=J m3) (sh:=s3) R3 af B3 g3 (xs:=B) (m':=m4) (sh':=s4) E4 (N:=D) eKS).h ?_;rintro z9 y4⟨E,cS,rfl,⟨LS,oS⟩,Il,Is⟩;have hS4:=ag oS.lt;have OS4:=ag oS;have C4:=ag (C3.jD Is af af);have K4:=ag (K3.Z Is);have R4:=ag Il;have z4:=Is.size;go_wp2_with fail;refine(dF6 (R:=R) (m:=m4) (n:=J m4) (sh:=s4) R4 af B4 g4 (xs:=u) (m':=m5) (sh':=s5) E5 (N:=KN) eKN).h ?_;rintro z9 y5⟨X,cN,rfl,⟨LN,oN⟩,hr5,Gg⟩;have ON5:=ag oN;have C5:=ag (C4.jD Gg af af);have K5:=ag (K4.Z Gg);have R5:=ag hr5;have z5:=Gg.size;have OS5:=ag (OS4.jD mg.W Gg af);have b5:Bw w y5:=Vt bW K5 af;have FF:O (mY (U W.heap) y5 E D cS X KN cN B u):=by let⟨A1,q1,q2,q3⟩:=OS5.px (M:=U y4.heap) (λa ha=>(hS4.2 a ha).2) (λb hb=>(hS4.1 b hb).2);let⟨rn,A2,q4,q5⟩:=ON5.no;exact⟨A1,A2,OS5.se.1,rn,q1,q4,(q2.h af).app q5 af q3⟩
 clear OS5 ON5 hS4;let⟨V,hV⟩:=aG (y5.alloc (dO #[.U e,.U g,.U x,.I 0,.S E D cS,.S X KN cN] 41));have zL:=gF hV;have CV:=ag (C5.H af zL);have RV:=ag (R5.H zL af);have bV:=ai b5 zL;have FV:=ag (FF.H zL);let⟨sb,zl⟩:=aG (U y5.heap);have CS:O (aQ V sb [.U e,.U g,.U x,.I 0,.S E D cS,.S X KN cN]):=by show aQ _ _ _;rw[hV,zl];exact aQ.alloc y5 #[.U e,.U g,.U x,.I 0,.S E D cS,.S X KN cN] _
 have zV:U V.heap=sb+1:=by rw[hV];simp;omega
 have zh:U w.heap<sb:=af;obtain⟨-,-,-,-,⟨-,gsh⟩,-⟩:=ae RV;rw[hV]at gsh;have HV:=ag hV;have HSB:=ag zl;clear hV zL C5 R5 FF zl;cases s5 with
 |true=>
  have hV:=ae HV;have CV2:=CV;have Ru:=bV;rw[hV]at CV2 Ru;have hP:tZ l=dN:=by rw[tZ,ae EI];rw[aL (λhh=>by cases hh.1)]
  have HD:O (Gz (tZ l)=rG/\GC (tZ l)=13):=by rw[hP];exact⟨rfl,rfl⟩
  clear hP;let⟨r0,r1,r2,r3,r4,r5⟩:=yx CV2.1;have rf:=CV2.2;clear hV;have BB:=Ru;go_wp2;refine cg (v:=dT #[bS 0 0 0 0 aq aq,.I 13]) (by simp[results,results188,go_sem,r0,r1,r2,r3,r4,r5]) rfl ⟨?_,?_⟩;{rw[HD.1,HD.2];exact⟨dN,0,dN,0,rfl,mY.zero _ _⟩};{exact(((((BB.setCell aj _).setCell aj _).setCell aj _).setCell aj _).setCell aj _).setCell aj _}
 |false=>
  obtain⟨RL,eRL⟩:∃L,O (CG e g x 0 B u=L):=⟨_,cM⟩;obtain⟨L,eL⟩:∃k,Le RL k:=⟨_,cM⟩;have gM:O (Bs B):=λs hs=>by rw[(ae Jn s hs).2];exact⟨cO _,λe he=>by simp at he⟩
  have cQ:O (Bn u):=λj aJ=>by have:=ae GZ j aJ;exact⟨this.by0,this.l0,this.l1,this.l4,by rw[this.l7];exact cO _⟩
  have og:O (Bu u):=λj aJ=>⟨(ae GZ j aJ).ho,λi hi=>by rw[(ae GZ j aJ).l7]at hi;simp at hi⟩;have uf:O (Bo u):=λj aJ=>(ae GZ j aJ).ow;have Iy:O (∀j∈u,(0<=j.P/\j.P<2^64)/\0<=j.F/\j.F<2^64):=λj aJ=>⟨(ae GZ j aJ).ep,(ae GZ j aJ).ge⟩
  go_wp2_with fail;rw[<-ae HV];have RRV:O (kV V (.S E D cS) B/\gJ V (.S X KN cN) u):=by obtain⟨-,-,q1,q2,-⟩:=ae FV;exact⟨q1,q2⟩
  refine(cg6 (e:=e) (g:=g) (x:=x) (t:=0) he hg hx (p:=E) (q:=X) (c:=cS) (n:=D) (d:=cN) (m:=KN) (ss:=B) (ns:=u) eKS eKN RRV.1 RRV.2 hKS hKN gM cQ og uf Iy (ae HR _ bV).2 (R:=RL) eRL (L:=L) eL).h ?_;rintro z9 u1⟨pE,cE,rfl,oE,jP⟩;have b6:=ai bV jP;have C6:=ag (CV.H af jP);have S6:=ag (CS.H af jP);have F6:=ag (FV.H jP);have RE:=ag oE.rd;have zu1:=jP.size;go_wp2_with fail;refine br (ZO (p:=pE) (q:=p) (c:=cE) (d:=c) (n:=L) (k:=n) (l:=RL) (m:=l) eL en RE (ae HR _ b6).1 (ae eRL▸er0 he hg hx GZ) hb) λu2 yZ=>?_;have b7:=ai b6 yZ;have C7:=ag (C6.H af yZ);have S7:=ag (S6.H af yZ);have F7:=ag (F6.H yZ);have zu2:=yZ.size;by_cases IK:RL=l;{
 have hd:dD (RL=l):=by simpa using IK
 have hP:tZ l=Y (((e:Int),(g:Int),(x:Int)),B,u):=by rw[tZ,ae EI];rw[aM ⟨rfl,eRL.Z IK⟩]
 have HD:O (Gz (tZ l)=⟨e,g,x,0,B,u⟩/\GC (tZ l)=0):=by rw[hP];exact⟨rfl,rfl⟩
 rw[hd];let⟨r0,r1,r2,r3,r4,r5⟩:=yx C7.1;have rf:=C7.2;let⟨k0,k1,k2,k3,k4,k5⟩:=yx S7.1;have q1:¬U w.heap=sb:=af;have q2:¬sb=U w.heap:=af;rw[<-ae HSB];go_wp2;let⟨Z,hZ⟩:=aG ((((((u2.setCell (Aw w 0) (.U e)).setCell (Aw w 1) (.U g)).setCell (Aw w 2) (.U x)).setCell (Aw w 3) (.I 0)).setCell (Aw w 4) (.S E D cS)).setCell (Aw w 5) (.S X KN cN));have UJ:∀z,z≠U w.heap->Z.heap[z]?=u2.heap[z]?:=λz hz=>by
  rw[hZ]
  iterate 6 rw[fT _ _ _ _ hz]
 refine cg (v:=dT #[bS e g x 0 (.S E D cS) (.S X KN cN),.I 0]) (by simp[results,results188,go_sem,r0,r1,r2,r3,r4,r5]) rfl ⟨?_,?_⟩;{rw[<-hZ,HD.1,HD.2];have f:=(F7.W (w':=Z) (λz hz _=>UJ z af)).h (B':=U w.heap) af;rw[<-ae eKS,<-ae eKN]at f⊢;exact⟨E,cS,X,cN,rfl,f⟩};{exact(((((b7.setCell aj _).setCell aj _).setCell aj _).setCell aj _).setCell aj _).setCell aj _}};{
 have hd:dD (RL=l)=dF:=by simpa using IK
 rw[hd];have hP:tZ l=dN:=by rw[tZ,ae EI];rw[aL (λhh=>IK (eRL.C.Z hh.2))]
 have HD:O (Gz (tZ l)=rG/\GC (tZ l)=13):=by rw[hP];exact⟨rfl,rfl⟩
 let⟨r0,r1,r2,r3,r4,r5⟩:=yx C7.1;have rf:=C7.2;have BB:=b7;go_wp2;refine cg (v:=dT #[bS 0 0 0 0 aq aq,.I 13]) (by simp[results,results188,go_sem,r0,r1,r2,r3,r4,r5]) rfl ⟨?_,?_⟩;{rw[HD.1,HD.2];exact⟨dN,0,dN,0,rfl,mY.zero _ _⟩};{exact(((((BB.setCell aj _).setCell aj _).setCell aj _).setCell aj _).setCell aj _).setCell aj _}}
def aQ.c6(h:aQ w b (v0::v1::v2::v3::v4::v5::vs)):I w (Ad b 0)=v0/\I w (Ad b 1)=v1/\I w (Ad b 2)=v2/\I w (Ad b 3)=v3/\I w (Ad b 4)=v4/\I w (Ad b 5)=v5/\∀o,w.frozen? (Ad b o)=dF:=
 ⟨h.1 0 _ rfl,h.1 1 _ rfl,h.1 2 _ rfl,h.1 3 _ rfl,h.1 4 _ rfl,h.1 5 _ rfl,h.2⟩
def si{a0 a1 a2 a3 a4 a5:Addr}{v0 v1 v2 v3 v4 v5:dV}(h:Bw w u)(h0:U w.heap<=a0.block:=by simp)(h1:U w.heap<=a1.block:=by simp)(h2:U w.heap<=a2.block:=by simp)(h3:U w.heap<=a3.block:=by simp)(h4:U w.heap<=a4.block:=by simp)(h5:U w.heap<=a5.block:=by simp):Bw w ((((((u.setCell a0 v0).setCell a1 v1).setCell a2 v2).setCell a3 v3).setCell a4 v4).setCell a5 v5):=(((((h.setCell h0 _).setCell h1 _).setCell h2 _).setCell h3 _).setCell h4 _).setCell h5 _
def KT(h:O (jM l=dN))(i:Bw w u):bw3 (U w.heap) (dR (dT #[bS 0 0 0 0 aq aq,.I 13])) u (Gz (jM l)) (GC (jM l))/\Bw w u:=by
 rw[ae h];exact⟨⟨dN,0,dN,0,rfl,mY.zero _ _⟩,i⟩
def Fh(i:Le l n)(h:O (gU n l om)):∃e o1 a,O (oV om=(e,o1))/\O (jB n o1=a)/\O (gU n l o1):=⟨(oV om).1,(oV om).2,_,rfl,rfl,ag (uw i h)⟩
def oTs(i:Le l n)(h:O (gU n l om)):∃e o1 a,O (oT om=(e,o1))/\O (jB n o1=a)/\O (gU n l o1):=⟨(oT om).1,(oT om).2,_,rfl,rfl,ag (ak9 i h)⟩
theorem di5(D:Le l n)(h:Rd w (.S p n c) l)(hb:O (aC l))(hl:Mg n)(nE:n<=c):dQ dG 90 #[.S p n c] w λr w'=>bw3 (U w.heap) r w' (Gz (jM l)) (GC (jM l))/\Bw w w':=by
 have HR:=ag λ(w':G)(hb:Bw w w')=>h.H hb;clear h;have S0:=ag (gU.start D);have A0:O (jB n l=0):=by show _=_;rw[jB,ae D];omega
 let⟨is,Qn,Wr,Wq,Wp⟩:=kx Tryz.infoSes;let⟨io,hio,oz0,oz1,oz2⟩:=kx Tryz.infoNod;let⟨iu,hiu,uz0,uz1,uz2⟩:=kx Tryz.infoU64;let⟨e,o1,a1,E1,A1,S1⟩:=Fh D S0;let⟨g,o2,a2,E2,A2,S2⟩:=Fh D S1;let⟨x,o3,a3,E3,A3,S3⟩:=Fh D S2;let⟨k,o4,a4,E4,A4,S4⟩:=Fh D S3;let⟨W,hW⟩:=aG (w.alloc (dO #[.U 0,.U 0,.U 0,.I 0,aq,aq] 41));have bW:=gF hW;have zW:U W.heap=U w.heap+1:=by rw[hW];simp
 have RW:O (aQ W (U w.heap) [.U 0,.U 0,.U 0,.I 0,aq,aq]):=by show aQ _ _ _;rw[hW];exact aQ.alloc w #[.U 0,.U 0,.U 0,.I 0,aq,aq] _
 go_in;go_wp2_with fail;rw[<-hW];clear hW;refine(Fi D (ae HR _ bW) hb hl S0 A0 E1 A1).h ?_;rintro z9 w1⟨rfl,rfl⟩;go_wp2_with fail;refine(Fi D (ae HR _ bW) hb hl S1 A1 E2 A2).h ?_;rintro z9 w1⟨rfl,rfl⟩;go_wp2_with fail;refine(Fi D (ae HR _ bW) hb hl S2 A2 E3 A3).h ?_;rintro z9 w1⟨rfl,rfl⟩;go_wp2_with fail;refine(Fi D (ae HR _ bW) hb hl S3 A3 E4 A4).h ?_;rintro z9 w1⟨rfl,rfl⟩;have hk:0<=k/\k<2^64:=by have:=vF (om:=o3);rw[ae E4]at this;exact this
 have n4:=aC4 S4;rw[ae A4]at n4;have N4:=ag n4.1;have m4:-1<=a4/\a4<=n:=⟨n4.2.2,n4.2.1⟩;clear n4;by_cases h4:a4<0;{
 have hn:=N4.1 h4;have R:jM l=dN:=by rw[jM,AD];simp only[ae E1,ae E2,ae E3,ae E4];rw[aM (.L hn)];rfl
 have HD:=ag R;clear R;let⟨r0,r1,r2,r3,r4,r5,rf⟩:=RW.c6;have BB:=bW;go_wp2;refine cg (by simp[results,results90,go_sem,r0,r1,r2,r3,r4,r5,zW]) rfl (KT HD (aB9 (si BB)))};{
 by_cases h5:50<k;{
 skip
 have R:jM l=dN:=by rw[jM,AD];simp only[ae E1,ae E2,ae E3,ae E4];rw[aM (.R h5)];rfl
 have HD:=ag R;clear R;let⟨r0,r1,r2,r3,r4,r5,rf⟩:=RW.c6;have BB:=bW;go_wp2;refine cg (by simp[results,results90,go_sem,r0,r1,r2,r3,r4,r5,zW]) rfl (KT HD (aB9 (si BB)))};{
 skip
 obtain⟨K,rfl⟩:∃K:Nat,k=(K:Int):=⟨k.toNat,af⟩;have UD:¬o4=dN:=λhh=>h4 (N4.2 hh);have HN4:=ag UD;have wK:=il K;have fw7:K<=50:=af;let⟨V,hV⟩:=aG (w1.alloc (dO #[.U e,.U g,.U x,.I 0,aq,aq] 41));have zL:=gF hV;let⟨E,zl⟩:=aG (U w.heap+1);have CV:O (aQ V E [.U e,.U g,.U x,.I 0,aq,aq]):=by show aQ _ _ _;rw[hV,show E=U w1.heap by omega];exact aQ.alloc w1 #[.U e,.U g,.U x,.I 0,aq,aq] _
 have zV:U V.heap=E+1:=by rw[hV];simp;omega
 have zw1:U w1.heap=E:=af;clear N4 UD;go_wp2;rw[<-hV,<-zl];have hws:U w.heap<E:=af;have HSB:=ag zl;clear hV zl zW
 go_loopw[5,13](λav iv wr=>∃(j:Nat)(a:Int)(Sv:dV)(Ls:List (List Lf)),j<=K/\av=.I a/\iv=.I j/\O (jB n (rL oV j o4).2=a)/\O (gU n l (rL oV j o4).2)/\O (aQ wr E [.U e,.U g,.U x,.I 0,Sv,aq]/\OwnT mg 97 3 (E+1) wr Sv ((rL oV j o4).1.map xQ) Ls)/\O (Bw w1 wr)/\E<U wr.heap) (λ_ iv _=>K-(intOf iv).toNat)
 exact⟨0,_,_,[],cO _,rfl,rfl,A4,S4,⟨CV,OwnT.nil _ _ _ _ _⟩,zL,af⟩;{
 clear CV zL zV;obtain⟨j,a,Sv,Ls,hj,rfl,rfl,Ea,Sj,fL,Br,zr⟩:=hrel;by_cases aH:j<K;{
 have cL:=bM j K;have wj:IntKind.i64.wrap ((j:Int)+1)=((j+1:Nat):Int):=by rw[kP _ af];omega
 let⟨d,o5,a5,E5,A5,S5⟩:=Fh D Sj;have b0:=ai bW Br;go_wp2_with fail;refine(Fi D (ae HR _ b0) hb hl Sj Ea E5 A5).h ?_;rintro z9 w2⟨rfl,rfl⟩;let⟨hC,hO⟩:=ae fL;have N:J ((rL oV j o4).1.map xQ)=j:=by rw[ir,JI]
 have HC:=ag hC;have HO:=ag hO;have bB1:=ag N;clear hC hO fL N;let⟨v3,gq⟩:=aG (w2.alloc (dO #[.U d,.I 0,aq] 97));have aI:=gF gq;have qA:∀i u,([.U d,.I 0,aq]:List dV)[i]?=Y u->I v3 (Ad (U w2.heap) i)=Y u:=gq▸Rj;have kW:=ag qA;have z3:U v3.heap=U w2.heap+1:=by rw[gq];simp
 have Cq:=ag HO.lt;have C3:=ag (HC.H zr aI);have B3:=ag (ai Br aI);let⟨row,uJ,uS⟩:=HO.app mg.W aI (mg.id v3 d) rfl (gh.nil _ _) af;rw[ae bB1]at uJ uS;have Jt:=ag uS;have BG:=ag uJ;have cl:=HC.1 4 _ rfl;clear uS qA uJ;go_wp2_with(at_builtin;rw[<-gq];refine Dt rfl 38 rfl is 3 underlying38 Qn Wr Wq Wp rfl bf Sv rfl BG (U w2.heap) 1 1 [.U d,.I 0,aq] rfl rfl kW (λu hu=>by simp at hu;obtain rfl|rfl|rfl:=hu<;>rfl) jC af af ?_);intro v' w9 gx hg zG;have gP:∀g,v'.ownBlock=Y g->Sv.ownBlock=Y g\/U v3.heap<=g:=λg e=>by have:=zG g e;rw[gq];simpa using this
 rw[<-gq]at hg;obtain⟨sn,pN,cN,rfl⟩:=ae Jt v' w9 gx hg gP;have C9:=C3.grown af hg (λe=>aK (Cq.1 E e.C).1);have B9:O (Bw w1 w9):=B3.grown hg B3.size (λb e=>aK (Cq.1 b e).1);have z9:=hg.size;have CT:=ag (C9.db 4 aj (.S pN (j+1) cN));have OT:=ag (sn.bU6 mg.W (sb:=E) af 4 (.S pN (j+1) cN));have BT:O (Bw w1 (w9.setCell (Ad E 4) (.S pN (j+1) cN))):=B9.setCell bq _;have zT:E<U (w9.setCell (Ad E 4) (.S pN (j+1) cN)).heap:=by simp;omega
 have cc:=C9.1 4 _ rfl;have cf:=C9.2;have EL:O ((rL oV j o4).1.map xQ++[xQ d]=(rL oV (j+1) o4).1.map xQ/\(rL oV (j+1) o4).2=o5):=by show _/\_;rw[rL,ae E5,pK];exact⟨rfl,rfl⟩
 clear gx hg gP zG sn C9 gq aI cl;go_wp2;go_roundw;exact⟨j+1,a5,_,_,af,rfl,by go_num,(EL.2▸A5),(EL.2▸S5),(by rw[<-EL.1];exact⟨CT,OT⟩),BT,zT⟩;exact cW};{
 have cL:=fq j K
 skip
 obtain rfl:K=j:=af;let⟨hC,hO⟩:=ae fL;let⟨w3,ew3⟩:=aG wr;subst ew3;obtain⟨pS,cS,Zs,-⟩:=id hO.read;rw[ir,JI]at Zs;subst Zs;have C3:=ag hC;have O3:=ag hO;have b3:=ai bW Br;have R3:=ag (RW.H af Br);have VJ:O (J ((rL oV K o4).1.map xQ)=K):=by show _=_;rw[ir,JI]
 clear hC hO fL hj aH cL;let⟨q,o7,a7,E7,A7,S7⟩:=Fh D Sj;go_wp2_with fail;refine(Fi D (ae HR _ b3) hb hl Sj Ea E7 A7).h ?_;rintro z9 w4⟨rfl,rfl⟩;have hq:0<=q/\q<2^64:=by have:=vF (om:=(rL oV K o4).2);rw[ae E7]at this;exact this
 have n7:=aC4 S7;rw[ae A7]at n7;have N7:=ag n7.1;have m7:-1<=a7/\a7<=n:=⟨n7.2.2,n7.2.1⟩;clear n7;by_cases h7:a7<0;{
 have hn:=N7.1 h7;have R:jM l=dN:=by rw[jM,AD];simp only[ae E1,ae E2,ae E3,ae E4];rw[aL (by rw[Hw];exact⟨ae HN4,af⟩)];simp only[uC,ae E7];rw[aM (.L hn)];rfl
 have HD:=ag R;clear R;let⟨r0,r1,r2,r3,r4,r5,rf⟩:=R3.c6;have BB:=b3;go_wp2;refine cg (by simp[results,results90,go_sem,r0,r1,r2,r3,r4,r5]) rfl (KT HD (si BB))};{
 by_cases h8:200<q;{
 skip
 have R:jM l=dN:=by rw[jM,AD];simp only[ae E1,ae E2,ae E3,ae E4];rw[aL (by rw[Hw];exact⟨ae HN4,af⟩)];simp only[uC,ae E7];rw[aM (.R h8)];rfl
 have HD:=ag R;clear R;let⟨r0,r1,r2,r3,r4,r5,rf⟩:=R3.c6;have BB:=b3;go_wp2;refine cg (by simp[results,results90,go_sem,r0,r1,r2,r3,r4,r5]) rfl (KT HD (si BB))};{
 skip
 obtain⟨Q,rfl⟩:∃K:Nat,q=(K:Int):=⟨q.toNat,af⟩;have hn7:¬o7=dN:=λhh=>h7 (N7.2 hh);have HN7:=ag hn7;have wQ:=il Q;have hQ:Q<=200:=af;have SPO:O (AD l=(qI Q o7).map λr=>((e,g,x),(rL oV K o4).1.map xQ,r.1,r.2)):=by show _=_;rw[AD];simp only[ae E1,ae E2,ae E3,ae E4];rw[aL (by rw[Hw];exact⟨ae HN4,af⟩)];simp only[uC,ae E7];rw[aL (by rw[Hw];exact⟨hn7,af⟩)]
 clear N7 hn7;go_wp2
 go_loopw[5,15](λav iv wr=>∃(j:Nat)(a:Int)(Nv:dV)(Ls:List (List Lf))(ns:List ar)(om:Option LI),j<=Q/\av=.I a/\iv=.I j/\O (qI j o7=Y (ns,om))/\O (jB n om=a)/\O (gU n l om)/\O (aQ wr E [.U e,.U g,.U x,.I 0,.S pS K cS,Nv]/\OwnT kF 141 8 (U w4.heap) wr Nv ns Ls)/\O (w4.grownBy wr E)) (λ_ iv _=>Q-(intOf iv).toNat)
 exact⟨0,_,_,[],[],o7,cO _,rfl,rfl,cM,A7,S7,⟨C3,OwnT.nil _ _ _ _ _⟩,Zn⟩;{
 obtain⟨j,a,Nv,Ls,ns,om,hj,rfl,rfl,Em,Ea,Sm,fL,oz⟩:=hrel;have b5:=aB8 b3 oz af;have zg:=oz.size;by_cases aH:j<Q;{
 have cL:=bM j Q;have wj:IntKind.i64.wrap ((j:Int)+1)=((j+1:Nat):Int):=by rw[kP _ af];omega
 let⟨hC,hO⟩:=ae fL;have HC:=ag hC;have HO:=ag hO;have N:=(ai0 D hb hl j S7 Em).2.2;have bB1:=ag N;clear hC hO fL N;let⟨PP,q1,c1,F1,G1,T1⟩:=oTs D Sm;let⟨VV,q2,c2,F2,G2,T2⟩:=oTs D T1;let⟨ow,q3,c3,F3,G3,T3⟩:=Fh D T2;obtain⟨⟨mo,q4⟩,F4⟩:∃y,O (oB q3=y):=⟨_,cM⟩;obtain⟨c4,G4⟩:∃a,O (jB n q4=a):=⟨_,cM⟩;have T4:O (gU n l q4):=by have:=al0 D T3;rw[ae F4]at this;exact this
 let⟨hh,q5,c5,F5,G5,T5⟩:=Fh D T4;obtain⟨NP,eNP⟩:∃k,Le PP k:=⟨_,cM⟩;obtain⟨NV,eNV⟩:∃k,Le VV k:=⟨_,cM⟩;go_wp2_with fail;refine(bW9 D (ae HR _ b5) hb hl nE Sm Ea F1 G1 eNP).h ?_;rintro z9 y1⟨pP,cP,rfl,oP,au⟩;have b6:=ai b5 au;have z1:=au.size;go_wp2_with fail;refine(bW9 D (ae HR _ b6) hb hl nE T1 G1 F2 G2 eNV).h ?_;rintro z9 y2⟨pV,cV,rfl,WT,ay⟩;have b7:=ai b6 ay;have z2:=ay.size;let⟨lP,fP⟩:=Own.pb oP;let⟨lV,fV⟩:=Own.pb WT;have FP:=ag (fP.H ay);have FV:=ag fV;have BX:=ag (ai au ay);have C7:=ag (HC.H af BX);have R7:=ag ((R3.grown af (ae oz) bq).H af (ae BX));clear oP WT fP fV au ay;go_wp2_with fail;refine(Fi D (ae HR _ b7) hb hl T2 G2 F3 G3).h ?_;rintro z9 y3⟨rfl,rfl⟩;go_wp2_with fail;refine(dy5 D (ae HR _ b7) hb hl T3 G3 F4 G4).h ?_;rintro z9 y4⟨rfl,rfl⟩;go_wp2_with fail;refine(Fi D (ae HR _ b7) hb hl T4 G4 F5 G5).h ?_;rintro z9 X⟨rfl,rfl⟩;have hhr:0<=hh/\hh<2^64:=by have:=vF (om:=q4);rw[ae F5]at this;exact this
 have n5:=aC4 T5;rw[ae G5]at n5;have N5:=ag n5.1;have m5:-1<=c5/\c5<=n:=⟨n5.2.2,n5.2.1⟩;clear n5;by_cases h9:c5<0;{
 have hn:=N5.1 h9;have R8:=ag (R7.H af (aD.alloc aA (dO #[.S pP NP cP,.S pV NV cV,.U ow,.I mo,aq,.U 0,.U 0,aq] 141)));have R:jM l=dN:=by
  rw[jM,ae SPO,bN7 (bN5 (ae Em) (by rw[yK];simp only[ae F1,ae F2,ae F3,ae F4,ae F5];rw[aM (.L hn)])) Q af]
  rfl
 have HD:=ag R;clear R;let⟨r0,r1,r2,r3,r4,r5,rf⟩:=R8.c6;have BB:=(aB9 b7 (o:=dO #[.S pP NP cP,.S pV NV cV,.U ow,.I mo,aq,.U 0,.U 0,aq] 141));go_wp2;refine cg (by simp[results,results90,go_sem,r0,r1,r2,r3,r4,r5]) rfl (KT HD (si BB))};{
 by_cases Ec:50<hh;{
 have R8:=ag (R7.H af (aD.alloc aA (dO #[.S pP NP cP,.S pV NV cV,.U ow,.I mo,aq,.U 0,.U 0,aq] 141)));have R:jM l=dN:=by
  rw[jM,ae SPO,bN7 (bN5 (ae Em) (by rw[yK];simp only[ae F1,ae F2,ae F3,ae F4,ae F5];rw[aM (.R Ec)])) Q af]
  rfl
 have HD:=ag R;clear R;let⟨r0,r1,r2,r3,r4,r5,rf⟩:=R8.c6;have BB:=(aB9 b7 (o:=dO #[.S pP NP cP,.S pV NV cV,.U ow,.I mo,aq,.U 0,.U 0,aq] 141));go_wp2;refine cg (by simp[results,results90,go_sem,r0,r1,r2,r3,r4,r5]) rfl (KT HD (si BB))};{
 skip
 obtain⟨H,rfl⟩:∃K:Nat,hh=(K:Int):=⟨hh.toNat,af⟩;have hn5:¬q5=dN:=λhh=>h9 (N5.2 hh);have HN5:=ag hn5;have wH:=il H;have hH:H<=50:=af;let⟨nb,DV⟩:=aG (U X.heap);let⟨V5,YV⟩:=aG (X.alloc (dO #[.S pP NP cP,.S pV NV cV,.U ow,.I mo,aq,.U 0,.U 0,aq] 141));have zL:=gF YV;have CV:O (aQ V5 nb [.S pP NP cP,.S pV NV cV,.U ow,.I mo,aq,.U 0,.U 0,aq]):=by show aQ _ _ _;rw[YV,DV];exact aQ.alloc X #[.S pP NP cP,.S pV NV cV,.U ow,.I mo,aq,.U 0,.U 0,aq] _
 have zV:U V5.heap=nb+1:=by rw[YV];simp;omega
 have ZX:O (U X.heap=nb):=DV.C;have Cj:E<nb:=af;have HNB:=ag DV;clear N5 hn5 DV;go_wp2;rw[<-YV,<-ae HNB];clear YV
 go_loopw[5,27](λav kv wr=>∃(i:Nat)(a:Int)(Hv:dV),i<=H/\av=.I a/\kv=.I i/\O (jB n (rL oV i q5).2=a)/\O (gU n l (rL oV i q5).2)/\O (aQ wr nb [.S pP NP cP,.S pV NV cV,.U ow,.I mo,Hv,.U 0,.U 0,aq]/\gK (nb+1) wr Hv (rL oV i q5).1)/\O (Bw X wr)/\nb<U wr.heap) (λ_ kv _=>H-(intOf kv).toNat)
 exact⟨0,_,_,cO _,rfl,rfl,G5,T5,⟨CV,lZ _ _ _ _⟩,zL,af⟩;{
 clear CV zL zV;obtain⟨i,a',Hv,hi,rfl,rfl,Ei,Si,fL,Bi,zi⟩:=hrel;have b8:=ai b7 Bi;by_cases hlh:i<H;{
 have ck9:=bM i H;have wi:IntKind.i64.wrap ((i:Int)+1)=((i+1:Nat):Int):=by rw[kP _ af];omega
 let⟨d,q6,c6,F6,G6,T6⟩:=Fh D Si;go_wp2_with fail;refine(Fi D (ae HR _ b8) hb hl Si Ei F6 G6).h ?_;rintro z9 w2⟨rfl,rfl⟩;let⟨hC,hO⟩:=ae fL;let⟨v3,gq⟩:=aG (w2.alloc (dO #[.U d] 27));have aI:=gF gq;have qA:∀i u,([.U d]:List dV)[i]?=Y u->I v3 (Ad (U w2.heap) i)=Y u:=gq▸Rj;have kW:=ag qA;have z3:U v3.heap=U w2.heap+1:=by rw[gq];simp
 have Cq:O (∀b,Hv.ownBlock=Y b->nb+1<=b/\b<U w2.heap):=λb e=>hO.lt b e;have C3:=ag (hC.H zi aI);have B3:=ag (ai Bi aI);have BG:O (v3.ownsRow (nb+1) 27 1 Hv i ((rL oV i q5).1.map (Value.int .u64))):=by have:=hO.H aI;unfold gK at this;rw[JI]at this;exact this
 have cl:=hC.1 4 _ rfl;clear qA hC hO fL;go_wp2_with(at_builtin;rw[<-gq];refine Dt rfl 61 rfl iu 1 underlying61 hiu uz0 uz1 uz2 rfl bf Hv rfl BG (U w2.heap) 1 1 [.U d] rfl rfl kW (λu hu=>by simp at hu;subst hu;rfl) jC af af ?_);intro v' w9 gx hg gP;rw[<-gq]at hg;have sn:=gK.snoc (JI oV i q5) gx;let⟨pN,cN,e9⟩:=sn.form;rw[dm,JI]at e9;subst e9;have C9:=C3.grown af hg (λe=>aK (ae Cq nb e.C).1);have B9:O (Bw X w9):=B3.grown hg B3.size (λb e=>by have:=(ae Cq b e).1;have:=ae ZX;omega);have z9:=hg.size;have CT:=ag (C9.db 4 aj (.S pN (i+1) cN));have OT:O (gK (nb+1) (w9.setCell (Ad nb 4) (.S pN (i+1) cN)) (.S pN (i+1) cN) ((rL oV i q5).1++[d])):=Pa sn (iB w9 (Ad nb 4) _) (.R λe=>aK (sn.lt nb e).1);have BT:O (Bw X (w9.setCell (Ad nb 4) (.S pN (i+1) cN))):=B9.setCell (by have:=ae ZX;simp;omega) _;have zT:nb<U (w9.setCell (Ad nb 4) (.S pN (i+1) cN)).heap:=by simp;omega
 have cc:=C9.1 4 _ rfl;have cf:=C9.2;have EL:O ((rL oV i q5).1++[d]=(rL oV (i+1) q5).1/\(rL oV (i+1) q5).2=q6):=by show _/\_;rw[rL,ae F6];exact⟨rfl,rfl⟩
 clear gx hg gP sn C9 gq aI cl;go_wp2;go_roundw;exact⟨i+1,c6,_,af,rfl,by go_num,(EL.2▸G6),(EL.2▸T6),(by rw[<-EL.1];exact⟨CT,OT⟩),BT,zT⟩;exact cW};{
 have ck9:=fq i H
 skip
 obtain rfl:H=i:=af;let⟨hC,hO⟩:=ae fL;let⟨pH,cH,e9⟩:=hO.form;rw[JI]at e9;subst e9;obtain⟨HL,eHL⟩:∃L,O ((rL oV H q5).1=L):=⟨_,cM⟩;rw[ae eHL]at hO;have lHL:Le HL H:=by show _=_;rw[<-ae eHL];exact JI _ _ _
 have HC9:=ag hC;have HO9:=ag hO;clear hC hO fL hi hlh ck9;let⟨ep,q7,c7,F7,G7,T7⟩:=Fh D Si;let⟨ge,q8,c8,F8,G8,T8⟩:=Fh D T7;go_wp2_with fail;refine(Fi D (ae HR _ b8) hb hl Si Ei F7 G7).h ?_;rintro z9 y5⟨rfl,rfl⟩;go_wp2_with fail;refine(Fi D (ae HR _ b8) hb hl T7 G7 F8 G8).h ?_;rintro z9 y6⟨rfl,rfl⟩;obtain⟨nd,cz2⟩:∃nd:ar,O (nd=⟨PP,VV,ow,mo,HL,ep,ge,[]⟩):=⟨_,cM⟩;have ESP:O (qI (j+1) o7=Y (ns++[nd],q8)):=di8 Em (by rw[yK];simp only[ae F1,ae F2,ae F3,ae F4,ae F5];rw[aL (by rw[Hw];exact⟨ae HN5,af⟩)];simp only[uC,ae eHL,ae F7,ae F8];rw[ae cz2])
 have CA:=HC9.db 5 aj (.U ep);have CB:=CA.db 6 aj (.U ge);let⟨Z,hZ⟩:=aG ((y6.setCell (Ad nb 5) (.U ep)).setCell (Ad nb 6) (.U ge));rw[<-hZ]at CB;have BZ:Bw X Z:=by rw[hZ];exact(Bi.setCell (by have:=ae ZX;simp;omega) _).setCell (by have:=ae ZX;simp;omega) _
 have OZ:gK (nb+1) Z (.S pH H cH) HL:=by rw[hZ];have o1:=Pa HO9 (iB y6 (Ad nb 5) (.U ep)) (.R λe=>aK (HO9.lt nb e).1);exact Pa o1 (iB _ (Ad nb 6) (.U ge)) (.R λe=>aK (o1.lt nb e).1)
 have zZ:nb<U Z.heap:=by rw[hZ];simpa using zi
 have CZs:=C7.H (aK (ae ZX)) BZ;let⟨v3,gq⟩:=aG (Z.alloc (dO #[.S pP NP cP,.S pV NV cV,.U ow,.I mo,.S pH H cH,.U ep,.U ge,aq] 141));have YJ:=gF gq;have qA:∀i u,([.S pP NP cP,.S pV NV cV,.U ow,.I mo,.S pH H cH,.U ep,.U ge,aq]:List dV)[i]?=Y u->I v3 (Ad (U Z.heap) i)=Y u:=gq▸Rj;have ezz:U Z.heap=U y6.heap:=by rw[hZ];simp
 rw[ezz]at qA;have kW:=ag qA;have z3:U v3.heap=U Z.heap+1:=by rw[gq];simp
 have Lx:=ai BZ YJ;have Bw3:=ai BX Lx;let⟨lH,fH⟩:=gK.pu (OZ.H YJ);have zXn:=ae ZX;have ELN:O (kF v3 nd [.S pP NP cP,.S pV NV cV,.U ow,.I mo,.S pH H cH,.U ep,.U ge,aq] (lP++(lV++(lH++[])))/\gh (U wr.heap) v3 (lP++(lV++(lH++[])))):=by have k0:=FP.H Lx;have k1:=FV.H Lx;have k4:=fH;rw[<-ae eNP]at k0;rw[<-ae eNV]at k1;rw[<-ae lHL]at k4;have:=kF.mk4 (nd:=⟨PP,VV,ow,mo,HL,ep,ge,[]⟩) (B:=U wr.heap) k0 k1 k4 (PU.nil v3 (U v3.heap) (U v3.heap)) af af af af af af af af af af;dsimp only at this;rw[ae eNP,ae eNV,ae lHL]at this;rw[ae cz2];exact this
 let⟨row,uJ,uS⟩:=HO.app kF.W Bw3 ELN.1 rfl ELN.2 af;have Cq:=ag HO.lt;rw[ae bB1]at uJ uS;have Jt:=ag uS;have BG:=ag uJ;have C3':=ag (CZs.H af YJ);have nsb:¬E=nb:=af;have nbs:¬nb=E:=af;have d5:=HC9.1 5 _ rfl;have d6:=HC9.1 6 _ rfl;let⟨d0,d1,d2,d3,d4,d5',d6',d7⟩:=Nx CB.1;have df:=HC9.2;have s5:=CZs.1 5 _ rfl;rw[hZ]at d0 d1 d2 d3 d4 d5' d6' d7 s5;have HZ:=ag hZ;have EZZ:=ag ezz;have BW3:=ag Bw3;have HBZ:=ag YJ;clear ezz uS qA uJ CA CB BZ OZ CZs fH hZ Lx Bw3 YJ;go_wp2_with(at_builtin;rw[<-ae HZ,<-gq];refine Dt rfl 39 rfl io 8 underlying39 hio oz0 oz1 oz2 rfl bf Nv rfl BG (U y6.heap) 1 1 [.S pP NP cP,.S pV NV cV,.U ow,.I mo,.S pH H cH,.U ep,.U ge,aq] rfl rfl kW (λu hu=>by simp at hu;obtain rfl|rfl|rfl|rfl|rfl|rfl|rfl|rfl:=hu<;>rfl) jC af af ?_);intro v' w9 gx hg zG;have ezz:=ae EZZ;have gP:∀g,v'.ownBlock=Y g->Nv.ownBlock=Y g\/U v3.heap<=g:=λg e=>by have:=zG g e;rw[gq];simpa using this
 rw[<-gq]at hg;obtain⟨sn,pN,cN,rfl⟩:=ae Jt v' w9 gx hg gP;have C9:=C3'.grown af hg (λe=>aK (Cq.1 E e.C).1);have G9:w4.grownBy w9 E:=MZ (MZ oz (kU BW3 dN) (λb e=>by cases e)) hg (λb e=>.L (Cq.1 b e).1);have CT:=ag (C9.db 5 aj (.S pN (j+1) cN));have OT:=ag (sn.bU6 kF.W (sb:=E) af 5 (.S pN (j+1) cN));have GT:O (w4.grownBy (w9.setCell (Ad E 5) (.S pN (j+1) cN)) E):=KF G9 (iB w9 (Ad E 5) _);have cc:=C9.1 5 _ rfl;have cf:=C9.2;clear gx hg gP zG sn C9 G9 gq d0 d1 d2 d3 d4 d5 d6 d5' d6' d7 s5 df;go_wp2;go_roundw;exact⟨j+1,c8,_,_,_,q8,af,rfl,by go_num,ESP,G8,T8,⟨CT,OT⟩,GT⟩
 case measure=>simp[intOf];omega}}}}}
 {
 have cL:=fq j Q
 skip
 obtain rfl:Q=j:=af;let⟨hC,hO⟩:=ae fL;let⟨Ot,v2',N⟩:=ai0 D hb hl Q S7 Em;obtain⟨pN,cN,Gs,-⟩:=id hO.read;rw[N]at Gs;subst Gs;obtain⟨sl,Na⟩:∃L,O ((rL oV K o4).1.map xQ=L):=⟨_,cM⟩;have hSL:O (∀s∈sl,s.2=(0,[])):=λs hs=>by rw[<-ae Na]at hs;obtain⟨i,-,rfl⟩:=fe.1 hs;rfl
 have GZ:=ag Ot;have ES:O (AD l=Y ((e,g,x),sl,ns,om)):=by show _=_;rw[ae SPO,ae Em,ae Na];rfl
 have sK:Le sl K:=by show _=_;rw[<-ae Na];exact ae VJ
 have uY:Le ns Q:=N;obtain⟨L3,OS,sC,Qf⟩:∃L3,OwnT mg 97 3 (E+1) wr (.S pS K cS) sl L3/\(∀a∈L3.flatten,a.b<U w4.heap)/\∀b,(Value.slice pS K cS).ownBlock=Y b->b<U w4.heap:=by refine⟨_,?_,λa' ha=>(O3.lt.2 a' ha).2,λb aP=>(O3.lt.1 b aP).2⟩;rw[<-ae Na];exact O3.W (mg.W _ _) zg (λb aP=>oz.block b (O3.lt.1 b aP).2 (by have:=(O3.lt.1 b aP).1;simp;omega)) (λa' ha=>oz.block _ (O3.lt.2 a' ha).2 (by have:=(O3.lt.2 a' ha).1;simp;omega))
 obtain⟨rs,A1',lvs,aps,hi1⟩:kV wr (.S pS K cS) sl/\∃A,kG wr (.S pS K cS) sl A/\gh (E+1) wr A/\∀a∈A,a.b<U w4.heap:=by let⟨A,q1,q2,q3⟩:=OS.px (M:=U w4.heap) sC Qf;exact⟨OS.se.1,A,q1,q2,q3⟩
 let⟨rn,A2',lvn,Rw⟩:=hO.no;have FF:O (mY (E+1) wr pS K cS pN Q cN sl ns):=⟨A1',A2',rs,rn,lvs,lvn,aps.app (Rw.h af) af hi1⟩;have RR:=bG rs rn;have C9:=ag hC;have R9:=ag (R3.grown af (ae oz) bq);have na:=aC4 Sm;rw[ae Ea]at na;have NA:=ag na.1;have ma:-1<=a/\a<=n:=⟨na.2.2,na.2.1⟩;clear na hC hO fL OS sC Qf lvs aps hi1 lvn Rw rs rn Ot v2' N hj aH cL;by_cases KE:a<0;{
 have hn:=NA.1 KE;have R:jM l=dN:=by rw[jM,ae ES,AI,aL (λhh=>hh.1 hn)]
 have HD:=ag R;clear R;let⟨r0,r1,r2,r3,r4,r5,rf⟩:=R9.c6;have BB:=b5;go_wp2;refine cg (by simp[results,results90,go_sem,r0,r1,r2,r3,r4,r5]) rfl (KT HD (si BB))};{
 skip
 have ij:¬om=dN:=λhh=>KE (NA.2 hh);have HNO:=ag ij;clear ij;obtain⟨B,eB⟩:∃B,O (lr e g x 0 sl ns=B):=⟨_,cM⟩;have gM:O (Bs sl):=λs hs=>by have:=ae hSL s hs;rw[this];exact⟨cO _,λe he=>by simp at he⟩
 have cQ:O (Bn ns):=λnd aJ=>by have:=ae GZ nd aJ;exact⟨this.by0,this.l0,this.l1,this.l4,by rw[this.l7];exact cO _⟩
 obtain⟨k0,k1,k2,k3,k4,k5,-⟩:=C9.c6;go_wp2_with fail;refine br (ah9 sK uY RR.1.rd RR.2 af af gM cQ eB) λu1 jP=>?_;have b10:=ai b5 jP;have R10:=ag (R9.H af jP);have C10:=ag (C9.H af jP);have Og:=ag (FF.H jP);have cJ9:=bG (RR.1.H jP) (RR.2.H jP);have zu1:=jP.size;clear jP k0 k1 k2 k3 k4 k5;cases B with
 |false=>
  have R:jM l=dN:=by rw[jM,ae ES,AI,aL (λhh=>by have:=hh.2.1;simp only at this;rw[ae eB]at this;cases this)]
  have HD:=ag R;clear R;let⟨r0,r1,r2,r3,r4,r5,rf⟩:=R10.c6;have BB:=b10;go_wp2;refine cg (by simp[results,results90,go_sem,r0,r1,r2,r3,r4,r5]) rfl (KT HD (si BB))
 |true=>
  have re:0<=e/\e<2^64:=by have:=vF (om:=Y l);rw[ae E1]at this;exact this
  have rg:0<=g/\g<2^64:=by have:=vF (om:=o1);rw[ae E2]at this;exact this
  have rx:0<=x/\x<2^64:=by have:=vF (om:=o2);rw[ae E3]at this;exact this
  obtain⟨e',rfl⟩:∃v:Nat,e=(v:Int):=⟨e.toNat,af⟩;obtain⟨g',rfl⟩:∃v:Nat,g=(v:Int):=⟨g.toNat,af⟩;obtain⟨x',rfl⟩:∃v:Nat,x=(v:Int):=⟨x.toNat,af⟩;have HSM:=ag (aj4 eB GZ);obtain⟨M,eM⟩:∃M,O (J (qH e' g' x' sl ns)=M):=⟨_,cM⟩;obtain⟨k0,k1,k2,k3,k4,k5,-⟩:=C10.c6;go_wp2_with fail;refine(ce2 af af af sK uY cJ9.1.rd cJ9.2 HSM.w eM).h ?_;rintro z9 u2⟨pE,cE,rfl,oE,yZ⟩;have b11:=ai b10 yZ;have R11:=ag (R10.H af yZ);have C11:=ag (C10.H af yZ);have F11:=ag (Og.H yZ);have zu2:=yZ.size;have RE:=ag oE.rd;clear yZ oE k0 k1 k2 k3 k4 k5;go_wp2_with fail;refine br (Um eM D RE (ae HR _ b11) (aM2 af af af HSM GZ) hb) λu3 Ur=>?_;have b12:=ai b11 Ur;have R12:=ag (R11.H af Ur);have C12:=ag (C11.H af Ur);have F12:=ag (F11.H Ur);have zu3:=Ur.size;clear Ur;by_cases IK:qH e' g' x' sl ns=l;{
 have hd:dD (qH e' g' x' sl ns=l):=by simpa using IK
 have R:jM l=Y (((e':Int),(g':Int),(x':Int)),sl,ns):=by rw[jM,ae ES,AI,aM ⟨ae HNO,ae eB,by simpa using IK⟩]
 have HD:O (Gz (jM l)=⟨e',g',x',0,sl,ns⟩/\GC (jM l)=0):=by rw[R];exact⟨rfl,rfl⟩
 rw[hd];let⟨r0,r1,r2,r3,r4,r5,rf⟩:=R12.c6;obtain⟨k0,k1,k2,k3,k4,k5,-⟩:=C12.c6;have q1:¬U w.heap=E:=af;have q2:¬E=U w.heap:=af;clear R hd IK;go_wp2;let⟨Z,hZ⟩:=aG ((((((u3.setCell (Ad (U w.heap) 0) (.U e')).setCell (Ad (U w.heap) 1) (.U g')).setCell (Ad (U w.heap) 2) (.U x')).setCell (Ad (U w.heap) 3) (.I 0)).setCell (Ad (U w.heap) 4) (.S pS K cS)).setCell (Ad (U w.heap) 5) (.S pN Q cN));have UJ:∀z,z≠U w.heap->Z.heap[z]?=u3.heap[z]?:=λz hz=>by
  rw[hZ]
  iterate 6 rw[fT _ _ _ _ hz]
 refine cg (v:=dT #[bS e' g' x' 0 (.S pS K cS) (.S pN Q cN),.I 0]) (by simp[results,results90,go_sem,r0,r1,r2,r3,r4,r5]) rfl ⟨?_,?_⟩;{rw[<-hZ,HD.1,HD.2];have f:=(F12.W (w':=Z) (λz hz _=>UJ z af)).h (B':=U w.heap) af;rw[<-ae sK,<-ae uY]at f⊢;exact⟨pS,cS,pN,cN,rfl,f⟩};{exact(((((b12.setCell aj _).setCell aj _).setCell aj _).setCell aj _).setCell aj _).setCell aj _}};{
 have hd:dD (qH e' g' x' sl ns=l)=dF:=by simpa using IK
 rw[hd];have R:jM l=dN:=by rw[jM,ae ES,AI,aL (λhh=>IK (by simpa using hh.2.2))]
 have HD:=ag R;clear R;let⟨r0,r1,r2,r3,r4,r5,rf⟩:=R12.c6;have BB:=b12;go_wp2;refine cg (by simp[results,results90,go_sem,r0,r1,r2,r3,r4,r5]) rfl (KT HD (si BB))}}}}}}}}}}
def VD.Gr(h:VD D):yC D.E D.N:=QV h.ok h.gM h.cQ
def df5{w0:G}{SB NB HB UB:iN}(i:VD D)(h:PS w0 w b bs bn D SB NB HB UB):dQ dG 70 #[Pz b] w λr w'=>∃p c q d,r=dR (bS D.e D.g D.x D.t (.S p (J D.E) c) (.S q (J D.N) d))/\mY (U w.heap) w' p (J D.E) c q (J D.N) d D.E D.N/\Bw w w':=
 (ah8 h.Wt i.Gr.s1 i.Gr.n1 (gv i.sl bf) (gv i.nl bf) i.Gr.s2 i.Gr.n2).h λr w'⟨p,c,q,d,E,B,e,y,u,s,o,m,j⟩=>⟨p,c,q,d,e,⟨E,B,y,u,s,o,m⟩,j⟩
def VD.re(h:VD D){d:Int}(q:D.e<=e)(R:e<=2^62)(N:0<=d/\d<=1000015)(B:0<=t/\t<=1000000):VD ⟨e,D.g,D.x,t,D.E.map λs=>(s.1,d,[]),D.N.map pG⟩:=by
 have r:gD (D.E.map λs=>(s.1,d,[]))=gD D.E:=by unfold gD;rw[uB];rfl
 have S:py (D.N.map pG)=py D.N:=by unfold py;rw[uB];rfl
 refine⟨⟨Int.le_trans h.e.1 q,R⟩,h.g,h.x,B,by show J (List.map _ _)<=_;rw[ir];exact h.sl,by show J (List.map _ _)<=_;rw[ir];exact h.nl,?_,λs E=>?_,?_,λW V=>?_⟩;{show List.Pairwise _ (gD (D.E.map _));rw[r];exact h.s1};{obtain⟨y,m,rfl⟩:=fe.1 E;exact⟨(h.s2 y m).1,N,rfl,λe he=>by cases he⟩};{show List.Pairwise _ (List.map _ (D.N.map pG));rw[uB];exact h.n1};{obtain⟨y,m,rfl⟩:=fe.1 V;have j:=(h.n2 y m).dA q (DK _);show NV _ _ (gD (D.E.map _)) (py (D.N.map pG)) _;rw[r,S];exact⟨j.ep,j.vp,j.pb,j.cp,j.va,j.vb,j.ow,j.h1,j.h2,List.Pairwise.nil,(λi M=>by cases M),j.lk⟩}
variable {S:iP}
def dp8{Q:iE}(i5 i6 t2 t3 d1 d2:Nat){ps ps':String}(qc:Region.ready md ops listed=[i5])(iw:Region.ready md ops (listed.setIfInBounds i5 dY)=[i6])(rA:Region.ready md ops ((listed.setIfInBounds i5 dY).setIfInBounds i6 dY)=[])(te:ops[i5]?=Y {dst:=dN,op:=Op.store 41 (Operand.tmp t2) (Operand.tmp d1),type:=0,pos:=ps,after:=A5,guard:=dN})(ho6:ops[i6]?=Y {dst:=dN,op:=Op.store 47 (Operand.tmp t3) (Operand.tmp d2),type:=0,pos:=ps',after:=A6,guard:=dN})(b1 b2:Nat)(e g x t:Int)(p:OA)(n c:Nat)(q:OA)(m d:Nat)(k i h s z:Int)(dp:OA)(dn dc:Nat)(np:OA)(nn nc:Nat)(vp:OA)(vn vc:Nat){r0 r1 r2 r3 r4 r5 r6 r7:dV}(e2:a.tmps[t2]?.getD undef=Pz b1)(e3:a.tmps[d1]?.getD undef=bS e g x t (.S p n c) (.S q m d))(e4:a.tmps[t3]?.getD undef=Pz b2)(e5:a.tmps[d2]?.getD undef=gG k i h s z (.S dp dn dc) (.S np nn nc) (.S vp vn vc))(h1:BX w b1 [o0,o1,o2,o3,o4,o5])(h2:RX w b2 [r0,r1,r2,r3,r4,r5,r6,r7])(QP:b1≠b2)(hB:B<=b1/\B<=b2)(oO:∀w',(∀y,y≠b1->y≠b2->w'.heap[y]?=w.heap[y]?)->S w')(hQ:∀w',BX w' b1 [.U e,.U g,.U x,.I t,.S p n c,.S q m d]->RX w' b2 [.I k,.U i,.U h,.U s,.I z,.S dp dn dc,.S np nn nc,.S vp vn vc]->Below B w w'->(∀y,y≠b1->y≠b2->w'.heap[y]?=w.heap[y]?)->Q .normal a w'):wpAnyH dG md ops Q S 2 listed a w:=by
 refine TQ qc aj (TM te (λKK hK=>?_) fg);let⟨k0,k1,k2,k3,k4,k5,kf⟩:=h1.cells;go_simp;let⟨X,hX⟩:=aG (gu w b1 (.U e) (.U g) (.U x) (.I t) (.S p n c) (.S q m d));have bX:Below b1 w X:=hX▸tR _ _ _ _ _ _ _;have kX:∀y,y≠b1->X.heap[y]?=w.heap[y]?:=λy hy=>by rw[hX];exact Fg hy
 have mH:=h1.put (.U e) (.U g) (.U x) (.I t) (.S p n c) (.S q m d);rw[<-hX]at mH;have GP:=h2.de (kX b2 (λe=>QP e.C));unfold gu at hX;rw[<-hX];refine hK.out _ _ (oO X (λy h1 _=>kX y h1)) (λhS=>?_);clear hK KK hX k0 k1 k2 k3 k4 k5 kf;refine TQ iw aj (TM ho6 (λKK hK=>?_) fg);let⟨k0,k1,k2,k3,k4,k5,k6,k7,kf⟩:=GP.cells;go_simp;obtain⟨Es,-⟩:=GP.put (.I k) (.U i) (.U h) (.U s) (.I z) (.S dp dn dc) (.S np nn nc) (.S vp vn vc);have bY:=tQ (w:=X) (b:=b2) (v0:=.I k) (v1:=.U i) (v2:=.U h) (v3:=.U s) (v4:=.I z) (v5:=.S dp dn dc) (v6:=.S np nn nc) (v7:=.S vp vn vc);let⟨iY,hY⟩:=aG (nw X b2 (.I k) (.U i) (.U h) (.U s) (.I z) (.S dp dn dc) (.S np nn nc) (.S vp vn vc));have kY:∀y,y≠b1->y≠b2->iY.heap[y]?=w.heap[y]?:=λy h1 h2=>by rw[hY,ak2 h2];exact kX y h1
 have BXY:BX iY b1 [.U e,.U g,.U x,.I t,.S p n c,.S q m d]:=mH.de (hY▸ak2 QP);rw[<-hY]at Es bY;unfold nw gu at hY;rw[<-hY];refine hK.out _ _ (oO iY kY) (λhS=>?_);clear hK KK hY;refine Xd rA ?_ _;exact hQ iY BXY Es ((bX.h hB.1).Z (bY.h hB.2)) kY
def IA(B:Nat)(w':G)(r:Ending)(D:SD)(R:RP):Prop:=∃p c q d v j i,r=dR (dT #[bS D.e D.g D.x D.t (.S p (J D.E) c) (.S q (J D.N) d),v])/\(B<=j/\B<=U i.heap)/\xv j i v R/\U i.heap<=U w'.heap/\(∀b,j<=b->b<U i.heap->w'.heap[b]?=i.heap[b]?)/\mY (U i.heap) w' p (J D.E) c q (J D.N) d D.E D.N
def CT(w1 wc:G)(b bs bn u D:Nat)(A:SD×RP):Prop:=∃y NB B x o s m r j q,PS w1 wc b bs bn A.1 y NB B x/\RX wc u [.I A.2.k,.U A.2.i,.U A.2.e,.U A.2.g,.I A.2.n,.S o (J A.2.sL) s,.S m (J A.2.nms) r,.S j (J A.2.rZ) q]/\xv D wc (gG A.2.k A.2.i A.2.e A.2.g A.2.n (.S o (J A.2.sL) s) (.S m (J A.2.nms) r) (.S j (J A.2.rZ) q)) A.2
def dV9(w:G)(i:Nat)(o1 o2 m j:Obj)(v:dV)(o:i<U w.heap):Below i w (((((w.alloc o1).alloc o2).alloc m).alloc j).setCell (Ad i 0) v):=
 ((((((aR i w).alloc af o1).alloc bq o2).alloc bq m).alloc bq j).setCell (p:=(Ad i 0)) aA v)
def eK9(C:Int)(i:Nat)(w:G)(s:I w (Ad 1 0)=Y (.iface 328 (.agg #[dP (Ad 5 238)])))(j:I w (Ad i 0)=dI 0)(u:w.frozen? (Ad i 0)=dF)(B:Bool)(o:O (dD (C≠0)=B)):Cp 195 #[qS C,.iface 242 (Pz i)] w λr w'=>r=dR (.bool B)/\Below i w w'/\I w' (Ad i 0)=dI C:=by
 by_cases m:C=0;{
 subst m;obtain rfl:B=dF:=by rw[<-ae o];simp
 refine(eK7 _ w).h ?_;rintro r w'⟨rfl,rfl⟩;exact⟨rfl,aR _ _,j⟩};{
 obtain rfl:B:=by rw[<-ae o];simp[m]
 rw[qS,aL m];refine(eK8 i C _ w s j u).h ?_;rintro r w'⟨rfl,rfl⟩;have q:=jO w _ j;refine⟨rfl,dV9 w i _ _ _ _ _ q,Xe _ _ _ ?_⟩;rw[al j ((((aR (U w.heap) w).alloc aA _).alloc aj _).alloc bq _ |>.alloc bq _)];rfl}
def dN7(e g x t:Int)(p:OA)(n c:Nat)(q:OA)(m d:Nat)(ss:List aB)(ns:List ar)(en:Le ss n)(em:Le ns m)(K S F E iG:Int)(pp:OA)(np cp:Nat)(pq:OA)(nv cv:Nat)(P V:LI)(eP:Le P np)(eV:Le V nv)(w:G)(h:O (kV w (.S p n c) ss))(hN:O (gJ w (.S q m d) ns))(hP:O (Rd w (.S pp np cp) P))(hV:O (Rd w (.S pq nv cv) V))(hn:Mg n)(hm:Mg m)(hp:np<=1048576)(fM:np<=cp)(gC:O (cp<=maxLen))(gM:O (Bs ss))(cQ:O (Bn ns))(og:O (Bu ns))(uf:O (Bo ns))(pO:O (ML w))(ec9:O (qE w))(hEr:O (I w (Ad 1 0)=Y (.iface 328 (.agg #[dP (Ad 5 238)]))))(bP:O (aC P))(hS:O (0<=S/\S<2^64))(gx0:O (0<=g/\0<=x))(R:SD×RP)(eR:O (AP e g x t ss ns K S F E iG P V=R))(dZ7:O (∀(w1 M:G)(b bs bn:Nat)(SB NB HB UB:iN),vm w1 M b bs bn ⟨e,g,x,t,ss,ns⟩ SB NB HB UB S F E iG pp np cp pq nv cv P V->Cp 194 #[Pz b,qZ K S (.S pp np cp) F (.S pq nv cv) E iG] M (Jy w1 M b bs bn ⟨e,g,x,t,ss,ns⟩ (mW ⟨e,g,x,t,ss,ns⟩ K S F E iG P V))))(hAF:O (lr e g x t ss ns->Fd 51 (mW ⟨e,g,x,t,ss,ns⟩ K S F E iG P V).1.E (mW ⟨e,g,x,t,ss,ns⟩ K S F E iG P V).1.N)):dQ dG 134 #[bS e g x t (.S p n c) (.S q m d),qZ K S (.S pp np cp) F (.S pq nv cv) E iG] w λr w'=>IA (U w.heap) w' r R.1 R.2/\Bw w w':=by
 let⟨W0,cI,b0,z0,C0⟩:=xu w (.U e) (.U g) (.U x) (.I t) (.S p n c) (.S q m d);obtain⟨W1,fx,b1,z1,C1,-⟩:=bQ W0 #[.I K,.U S,.S pp np cp,.I F,.S pq nv cv,.U E,.U iG] 65;let⟨W2,fE,b2,z2,C2⟩:=Al W1;let⟨W3,jI,b3,z3,C3⟩:=xt W2 (.I 0) (.U 0) (.U 0) (.U 0) (.I 0) aO aO aO;rw[z0]at C1 z1;rw[z1]at C2 z2;rw[z2]at C3 z3;have LQ:QB W3 (U w.heap) _ _ _ _:=⟨((C0.H b1).H b2).H b3,(C1.H af b2).H af b3,C2.H b3,C3⟩;have bW:=ai (ai (ai b0 b1) b2) b3;have HA:=ag (λ(v:G)(D:Bw W3 v)=>aF (QB.W LQ (λj h1 h2=>D.block j af)) (aF (h.H (ai bW D)) (aF (hN.H (ai bW D)) (aF (hP.H (ai bW D)) (aF (hV.H (ai bW D)) (ai bW D))))));have BR:=ag (aR (U W3.heap) W3);have Z3:=ag z3;clear b0 b1 b2 b3 C0 C1 C2 C3 LQ bW z3;have hR:=ae eR;unfold AP at hR;let⟨ok,me⟩:=cG (lr e g x t ss ns);rw[ae me]at hR;have HR:=ag hR;clear hR;go_in;go_wp2_with fail;rw[<-cI,<-fx,<-fE,<-jI];clear cI fx fE jI;refine br (ap6 en em (ae HA W3 BR).2.1 (ae HA W3 BR).2.2.1 hn hm gM cQ og uf (pO.H (ae HA W3 BR).2.2.2.2.2) me) λw1 au=>?_;have B1:=ag au;have JA:=au.size;have e9:=ae HR;clear au HR;cases ok;{rw[aL aj]at e9;have E9:=ag e9;obtain⟨LW,-,-,-,-,bw⟩:=ae HA w1 B1;have jq:=ag (show TX w1 (U w.heap) _ _ _ from⟨LW.1,LW.2.2.1,LW.2.2.2⟩);have BW:=ag bw;clear e9 LW bw;let⟨q0,q1,q2,q3,q4,q5,qf⟩:=jq.2.1.cells;let⟨r0,r1,r2,r3,r4,r5,r6,r7,rf⟩:=jq.2.2.cells;go_wp2;let⟨fF,bF⟩:=TX.fin jq (.U 0) (.U 0) (.U 0) (.I 0) aO aO (.I 1) (.U 0) (.U 0) (.U 0) (.I 0) aO aO aO;refine cg (v:=dT #[bS 0 0 0 0 aO aO,gG 1 0 0 0 0 aO aO aO]) (by simp[results,results134,go_sem,q0,q1,q2,q3,q4,q5,r0,r1,r2,r3,r4,r5,r6,r7]) rfl ⟨?_,BW.Z bF⟩;rw[<-ae E9];exact⟨dN,0,dN,0,_,U w.heap,w,rfl,⟨eG _,eG _⟩,xv.num _ _ _ _ _ _ _,(BW.Z bF).size,λb h1 h2=>af,mY.zero _ _⟩};{
 rw[aM rfl]at e9;have E9:=ag e9;have cm9:=QV me gM cQ;have HF:=ag cm9;let⟨LW,r1,r2,r3,r4,bw⟩:=ae HA w1 B1;have BW:=ag bw;obtain⟨i0,i1,i2,i3,i4,i5,-⟩:=LW.1.cells;have HRW:=gI r1 r2 r3 r4;clear e9 LW bw r1 r2 r3 r4 cm9;go_wp2_with fail;clear i0 i1 i2 i3 i4 i5;refine(Ws en em HRW.1 HRW.2.1 hn hm (ag λs hs=>(HF.s2 s hs).1) HF.s3 cQ og HF.n3).h ?_;rintro r M⟨b,bs,bn,SB,NB,HB,UB,rfl,bj,ay⟩;have PS2:=PS.of bj ay HF (ae en▸hn) (ae em▸hm);have B2:=ag (ai B1 ay);obtain⟨LW,-,-,r3,r4,bw⟩:=ae HA M B2;have CX:=ag (show vm w1 M b bs bn ⟨e,g,x,t,ss,ns⟩ SB NB HB UB S F E iG pp np cp pq nv cv P V from⟨PS2,GD.of me HF gx0.1 gx0.2,hS,eP,eV,r3,.L HRW.2.2.2,bP,hp,fM,gC,pO.H bw,λk h1 h2=>(ae ec9 k h1 h2).H bw⟩);let⟨o0,o1,o2,o3,o4,o5,o6⟩:=Lg LW.2.1.1;have Om:=ag bw;have z12:=ay.size;clear PS2 bj ay LW r3 r4 bw;go_wp2_with fail;clear o0 o1 o2 o3 o4 o5 o6;refine(ae dZ7 _ _ _ _ _ _ _ _ _ CX).h ?_;rintro r u⟨D',R',C,⟨NF,NQ,xC,Ny,v3,rfl,F3,P3,L3⟩,Ky,-⟩;have F3':=ag F3;have hRC:R=(if C=0 then(D',R')else(⟨e,g,x,t,ss,ns⟩,ni C)):=E9.C.Z Ky;have P3':O (PS w1 u b bs bn R.1 NF NQ xC Ny):=by rw[hRC];by_cases N:C=0;{rw[aM N]at P3⊢;exact P3};{rw[aL N]at P3⊢;exact P3}
 obtain⟨W,eRx⟩:∃W,(if C=0 then R' else js)=W:=⟨_,rfl⟩;rw[eRx]at L3;have HRX:=ag (show(C=0->W=R.2)/\(C≠0->ni C=R.2)from⟨λN=>by rw[<-eRx,hRC,aM N,aM N],λN=>by rw[hRC,aL N]⟩);have L3':=ag L3;obtain⟨p1,c1,p2,c2,p3,c3,A1,A2,A3,rfl,-⟩:=L3;let⟨n1,sK⟩:=cG (J W.sL);let⟨n2,uY⟩:=cG (J W.nms);let⟨n3,Nb⟩:=cG (J W.rZ);rw[ae sK,ae uY,ae Nb]at L3'⊢;let⟨iY,hY,bY,zY,RY⟩:=xt u (.I W.k) (.U W.i) (.U W.e) (.U W.g) (.I W.n) (.S p1 n1 c1) (.S p2 n2 c2) (.S p3 n3 c3);obtain⟨Z,hZ,bZ,zZ,CZ,-⟩:=bQ iY #[.I 0] 171;rw[zY]at CZ zZ;have ZQ:=ai Om ((aR (U M.heap) M));have hEw:I u (Ad 1 0)=Y (.iface 328 (.agg #[dP (Ad 5 238)])):=by have h1:=al hEr BW;exact al h1 P3'.be
 have hEz:=al hEw (bY.Z (bZ.h af));have HRY:=du RY bY bZ;have t0:=CZ.1 0 _ rfl;have tf:=CZ.2;let⟨BC,eBC⟩:=cG (dD (C≠0));have HAS:=ag (eK9 C (U u.heap+1) Z hEz t0 (tf 0) BC eBC);have Lk:=bG zY zZ;clear F3 hRC Ky P3 eRx RY bY bZ CZ ZQ hEw hEz t0 tf zY zZ;go_wp2_with fail;rw[<-hY,<-hZ];clear hY hZ;refine HAS.h ?_;rintro r w4⟨rfl,cT,hf4⟩;have B4:=ag cT;have F4:=ag hf4;have cG3:Bw u w4:=(HRY.2.1.Z (HRY.2.2.h (aK Lk.1))).Z (cT.h af);have R4:=(HRY.1.H HRY.2.2).de (w':=w4) (cT.block _ (aK Lk.2));have VU:=ag cG3;have Dj:=ag R4;clear cT hf4 cG3 R4
 go_upto_if 25 with fail
 go_cut[](λwc=>O (CT w1 wc b bs bn (U u.heap) (U M.heap) R)/\O (Bw u wc))
 case first=>(
 cases BC;{
 go_wp2_with fail;go_meet;have N:C=0:=by have:=ae eBC;simpa using this
 have eq:=HRX.1 N;refine⟨ag ⟨NF,NQ,xC,Ny,p1,c1,p2,c2,p3,c3,P3'.H VU,?_,?_⟩,VU⟩;{rw[<-eq,ae sK,ae uY,ae Nb];exact Dj};{rw[<-eq,ae sK,ae uY,ae Nb];exact L3'.W (λz _ h2=>VU.block z h2) VU.size}};{
 let⟨r0,r1,r2,r3,r4,r5,r6,r7,rf⟩:=Dj.cells;have f4:=ae F4;go_wp2_with fail;go_meet;have N:C≠0:=by have:=ae eBC;simpa using this
 have eq:=HRX.2 N;refine⟨ag ⟨NF,NQ,xC,Ny,dN,0,dN,0,dN,0,?_,?_,?_⟩,ag (VU.Z (tQ))⟩;{exact(P3'.H VU).rep Dj (aK P3'.be.size) _ _ _ _ _ _ _ _};{rw[<-eq];exact(Dj.put _ _ _ _ _ _ _ _).1};{rw[<-eq];exact xv.num _ _ _ _ _ _ _}})
 case rest=>(
 obtain⟨MF,nM⟩:=hcut;let⟨SB9,NB9,HB9,UB9,y1,d1,y2,d2,y3,d3,P9,R9,L9⟩:=ae MF;let⟨m1,em1⟩:=cG (J R.2.sL);let⟨m2,em2⟩:=cG (J R.2.nms);let⟨m3,em3⟩:=cG (J R.2.rZ);rw[ae em1,ae em2,ae em3]at R9 L9;have hFS:=ae hAF me;rw[ae E9]at hFS;have Od:=ag hFS;have HP9:=du P9 R9 L9;have Lq:=ag (λ(vs:iA)(w:G)=>show(callFunc 70 vs).run dG w=.ok (.enter 70 vs) w by kernel_rfl);clear P9 R9 L9 hFS MF;go_wp2_with fail;let⟨vA,dr⟩:=aG wc.drew;have bA:=lG dr;have Lu:=ag bA;have SA:=ag (λ(v:G)(D:RX v (U u.heap) [.I R.2.k,.U R.2.i,.U R.2.e,.U R.2.g,.I R.2.n,.S y1 m1 d1,.S y2 m2 d2,.S y3 m3 d3])=>(aF D.cells.1 (aF D.cells.2.1 (aF D.cells.2.2.1 (aF D.cells.2.2.2.1 (aF D.cells.2.2.2.2.1 (aF D.cells.2.2.2.2.2.1 (aF D.cells.2.2.2.2.2.2.1 D.cells.2.2.2.2.2.2.2.1)))))):I v (Aw u 0)=dI R.2.k/\I v (Aw u 1)=dU R.2.i/\I v (Aw u 2)=dU R.2.e/\I v (Aw u 3)=dU R.2.g/\I v (Aw u 4)=dI R.2.n/\I v (Aw u 5)=dS y1 m1 d1/\I v (Aw u 6)=dS y2 m2 d2/\I v (Aw u 7)=dS y3 m3 d3));refine fk (λv=>I v (Aw u 0)=dI R.2.k/\I v (Aw u 1)=dU R.2.i/\I v (Aw u 2)=dU R.2.e/\I v (Aw u 3)=dU R.2.g/\I v (Aw u 4)=dI R.2.n/\I v (Aw u 5)=dS y1 m1 d1/\I v (Aw u 6)=dS y2 m2 d2/\I v (Aw u 7)=dS y3 m3 d3) (dr▸ae SA vA (HP9.2.1.H bA)) λhS=>?_;rw[<-dr]at hS⊢;clear dr bA;refine fO 0 2 hS ?_;refine ew 1 λKK hK=>?_;refine Hj aS aS aS (λ_=>ae Lq _ _) (ah8 (HP9.1.H Lu).Wt Od.s1 Od.n1 (aK Od.sl) (aK Od.nl) (ag λs hs=>⟨(Od.s2 s hs).1,aK (Od.s2 s hs).2.1,λe he=>aK ((Od.s2 s hs).2.2 e he)⟩) (ag λnd aJ=>by let⟨f1,f2,f3,f4,f5,f6,f7⟩:=Od.n2 nd aJ;exact⟨f1,af,af,af,af,f6,f7⟩)) ?_
 rintro r v2⟨p',c',q',d',A1',A2',rfl,s1,s2,s3,s4,s5,cY⟩;refine⟨_,rfl,?_⟩;have iM:=ag (show mY (U vA.heap) v2 p' (J R.1.E) c' q' (J R.1.N) d' R.1.E R.1.N from⟨A1',A2',s1,s2,s3,s4,s5⟩);have B5:=ag cY;have BC5:=ag (ai nM (ai Lu cY));refine bL hK (by exact SA v2 (HP9.2.1.H (ai Lu cY))) λhS=>?_;clear hK KK s1 s2 s3 s4 s5 cY;have LQ2:=(ae HA M B2).1;have BX5:=(LQ2.2.2.1.T F3').H BC5;have RX5:=(LQ2.2.2.2.T F3').H BC5;have R5:=HP9.2.1.H (ai Lu B5);have zz1:=ae Z3;have zz2:=F3'.1;refine dp8 3 4 4 5 30 31 aU aU aU rfl rfl (U w.heap+1+1) (U w.heap+1+1+1) R.1.e R.1.g R.1.x R.1.t p' (J R.1.E) c' q' (J R.1.N) d' R.2.k R.2.i R.2.e R.2.g R.2.n y1 m1 d1 y2 m2 d2 y3 m3 d3 rfl rfl rfl rfl BX5 RX5 (B:=U w.heap+1+1) af ⟨eG _,af⟩ (λv D=>ae SA v (R5.de (D _ af af))) ?_;intro w' au qc bl hk;refine Bp ?_;let⟨q0,q1,q2,q3,q4,q5,qf⟩:=au.cells;let⟨r0,r1,r2,r3,r4,r5,r6,r7,rf⟩:=qc.cells;have HBL:=bG bl hk;clear hS LQ2 BX5 RX5 R5 au qc bl hk;go_wp2;refine cg (v:=dT #[bS R.1.e R.1.g R.1.x R.1.t (.S p' (J R.1.E) c') (.S q' (J R.1.N) d'),gG R.2.k R.2.i R.2.e R.2.g R.2.n (.S y1 m1 d1) (.S y2 m2 d2) (.S y3 m3 d3)]) (by simp[results,results134,go_sem,q0,q1,q2,q3,q4,q5,r0,r1,r2,r3,r4,r5,r6,r7]) rfl ⟨⟨p',c',q',d',_,U M.heap,vA,rfl,⟨Om.size,by have:=Om.size;have:=Lu.size;have:=nM.size;omega⟩,?_,?_,?_,?_⟩,?_⟩;{exact HP9.2.2.W (λz _ h2=>Lu.block z h2) Lu.size};{exact gv B5.size HBL.1.size};{intro z h1 h2;exact(HBL.2 z af af).Z (B5.block z h2)};{exact iM.W (λz h1 h2=>HBL.2 z (by have:=Lu.size;have:=nM.size;omega) (by have:=Lu.size;have:=nM.size;omega))};{have h1:=BW.Z (P3'.be.h BW.size);have h2:=h1.Z (BC5.h h1.size);exact h2.Z (HBL.1.h af)})}
end Go.Proofs.YtdloolggnjjfoaaGreatDoor
