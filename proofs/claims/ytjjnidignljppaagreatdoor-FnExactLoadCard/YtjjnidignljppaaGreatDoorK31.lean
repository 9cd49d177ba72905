import Derived.Test.YtjjnidignljppaaGreatDoorK28
import Derived.Test.YtjjnidignljppaaGreatDoorAH2
namespace Go.Proofs.YtjjnidignljppaaGreatDoor
set_option maxHeartbeats 6400000
set_option linter.all false
set_option maxRecDepth 100000
open Go.ChangeShapes Go.WideShapes Go.ChangeAt Go.RowKit Go.Maps
variable {B b bn bs cp cv k np nv:Nat}{C K e g t x:Int}{D:SD}{P V:LI}{R:RP}{nd:aB}{ns:List aB}{pp pq:OA}{ss:List aR}{v:Value}
def WO(B:Nat)(w:World)(v:Value)(R:RP):Prop:=∃(p1:OA)(c1:Nat)(p2:OA)(c2:Nat)(p3:OA)(c3:Nat),v=xw R.k R.i R.e R.g R.n (.S p1 R.Mq.length c1) (.S p2 R.nms.length c2) (.S p3 R.Lv.length c3)
def WO.keep{w w':World}(h:WO B w v R)(hk:∀b,B<=b->b<w.heap.size->w'.heap[b]?=w.heap[b]?)(hz:w.heap.size<=w'.heap.size):WO B w' v R:=h
def WO.mono{B':Nat}{w:World}(h:WO B w v R)(hB:B'<=B):WO B' w v R:=h
def WO.num(B:Nat)(w:World)(k i e g n:Int):WO B w (rpn ⟨k,i,e,g,n,[],[],[]⟩) ⟨k,i,e,g,n,[],[],[]⟩:=⟨none,0,none,0,none,0,rfl⟩
def bb9(w0 w:World)(b bs bn:Nat)(D:SD)(R:RP)(r:Ending)(w':World):Prop:=∃SB NB HB UB v,PS w0 w' b bs bn D SB NB HB UB/\Fr T3 w w'/\r=.returned v/\WO w.heap.size w' v R
def sP.r{w0 w:World}{SB NB HB UB:List Nat}{k i e g n:Int}{r:Ending}{w':World}(h:sP w0 w b bs bn D SB NB HB UB ⟨k,i,e,g,n,[],[],[]⟩ r w'):bb9 w0 w b bs bn D ⟨k,i,e,g,n,[],[],[]⟩ r w':=⟨SB,NB,HB,UB,_,h.1,h.2.1,h.2.2,WO.num _ _ _ _ _ _ _⟩
open Go.Proofs.Tryz
def Whn(C:Int)(P:Prop):Prop:=C=0->P
def bG0(w0 w:World)(b bs bn:Nat)(D D':SD)(R:RP)(C:Int)(r:Ending)(w':World):Prop:=∃SB NB HB UB v,r=.returned (.tuple #[v,Gd C])/\Fr T3 w w'/\PS w0 w' b bs bn (if C=0 then D' else D) SB NB HB UB/\WO w.heap.size w' v (if C=0 then R else rB)
def J1{fn:Func}{R:Ending->World->Prop}{a:Act}{Z:World}{z:Nat}{o0 o1 o2 o3 o4 o5 o6 o7:Value}(hR:Hid (RX Z z [o0,o1,o2,o3,o4,o5,o6,o7]))(hf:fn.results=#[.cell 4 62,.tmp 5])(ha:a.tmps.getD 4 undef=.pointer (some ⟨z,0,none⟩))(E:Value)(hE:a.tmps.getD 5 undef=E)(hd:a.defers=[]){v0 v1 v2 v3 v4 v5 v6 v7:Value}(hQ:R (.returned (.tuple #[.agg #[v0,v1,v2,v3,v4,v5,v6,v7],E])) (kS Z z v0 v1 v2 v3 v4 v5 v6 v7)):bodyPost prog fn R .ret a (kS Z z v0 v1 v2 v3 v4 v5 v6 v7):=by
 obtain⟨q0,q1,q2,q3,q4,q5,q6,q7,-⟩:=(hR.put v0 v1 v2 v3 v4 v5 v6 v7).1.cells;generalize kS Z z v0 v1 v2 v3 v4 v5 v6 v7=W at*;refine fL (v:=.tuple #[.agg #[v0,v1,v2,v3,v4,v5,v6,v7],E]) ?_ hd hQ;have Qm:=ha;have hE':=hE;simp only[aC9]at Qm hE';simp[results,hf,go_sem,Qm,hE',q0,q1,q2,q3,q4,q5,q6,q7]
def ay8{w0:World}{w:World}{D':SD}{SB NB HB UB:List Nat}(h:Hid (PS w0 w b bs bn D SB NB HB UB)){K S F E G:Int}{C0 C1:Int}(eC:Hid ((if C0=0 then C1 else C0)=C)){ty:TypeId}{fC fA:FuncId}{vC vA:Value}(cg7:Hid (∀w',Bw w w'->Cp 153 #[.pointer (some ⟨b,0,none⟩),GF K S (.S pp np cp) F (.S pq nv cv) E G] w' fun r w''=>r=.returned (Gd C0)/\Bw w' w''))(cb5:Hid (Whn C0 (∀w',Bw w w'->Cp 154 #[GF K S (.S pp np cp) F (.S pq nv cv) E G] w' fun r w''=>r=.returned (.iface ty v)/\Bw w' w'')))(hmC : ∀w,(Go.method 429 ty v "loop.example/s02132/impl.check").run prog w = .ok (fC,vC) w)(hmA : ∀w,(Go.method 429 ty v "loop.example/s02132/impl.act").run prog w = .ok (fA,vA) w)(hfC:∀vs w,(callFunc fC vs).run prog w=.ok (.enter fC vs) w)(hfA:∀vs w,(callFunc fA vs).run prog w=.ok (.enter fA vs) w)(cg8:Hid (Whn C0 (∀w',Bw w w'->Calls prog fC #[vC,.pointer (some ⟨b,0,none⟩)] w' fun r w''=>r=.returned (Gd C1)/\Bw w' w'')))(ci6:Hid (Whn C0 (Whn C1 (∀w',Bw w w'->Calls prog fA #[vA,.pointer (some ⟨b,0,none⟩)] w' (bb9 w0 w' b bs bn D' R))))):Cp 111 #[.pointer (some ⟨b,0,none⟩),GF K S (.S pp np cp) F (.S pq nv cv) E G] w (bG0 w0 w b bs bn D D' R C):=by
 obtain⟨X,hX,bX,zX,CX,gX⟩:=aC w #[.I K,.U S,.S pp np cp,.I F,.S pq nv cv,.U E,.U G] 56;obtain⟨Y,hY,bY,zY,RY⟩:=qQ X (.I 0) (.U 0) (.U 0) (.U 0) (.I 0) (.S none 0 0) (.S none 0 0) (.S none 0 0);rw[zX]at RY;have bW:=aj bX bY;have HA:=af (fun(u:World)(hu:Bw Y u)=>ah (aj bW hu) (ah ((CX.below ae bY).below ae hu) (RY.below hu)));have BY0:=af (cW Y.heap.size Y);have HC:=af (ah hmC (ah hmA (ah hfC hfA)));have QC:=h.be.size;have HZ:=af zY;go_enter func111,ntmps111;go_wp2_with fail;rw[<-hX,<-hY];refine(aa cg7 Y (aa HA Y BY0).1).mono ?_;rintro r w1⟨rfl,aA⟩;obtain⟨b1,C1',R1⟩:=aa HA w1 aA;have o0:=C1'.1 0 _ rfl;have o1:=C1'.1 1 _ rfl;have o2:=C1'.1 2 _ rfl;have o3:=C1'.1 3 _ rfl;have o4:=C1'.1 4 _ rfl;have o5:=C1'.1 5 _ rfl;have o6:=C1'.1 6 _ rfl;have B1:=af aA;have mK:=af b1;have Cr:=af R1;by_cases hC0:C0=0;{
 have e0:Gd C0=.nilIface:=by rw[hC0];rfl
 rw[e0];have H0:=af hC0;have Wv:C1=C:=by have:=aa eC;rwa [bN hC0]at this
 subst Wv;go_wp2_with fail;refine(aa cb5 H0 w1 mK).mono ?_;rintro r w2⟨rfl,aF⟩;have B2:=af (aj B1 aF);have vO:=af (aj mK aF);obtain⟨mC,mA,qC,qA⟩:=aa HC;go_wp2_with fail;refine(aa cg8 H0 w2 vO).mono ?_;rintro r w3⟨rfl,bf⟩;have B3:=af (aj B2 bf);have tG:=af (aj vO bf);by_cases hC1:C1=0;{
 have e1:Gd C1=.nilIface:=by rw[hC1];rfl
 rw[e1];have H1:=af hC1;go_wp2_with fail;refine(aa ci6 H0 H1 w3 tG).mono ?_;rintro r w4⟨SB',NB',WW,UB',v4,P4,F4,rfl,L4⟩;have L4':=L4;obtain⟨p1,c1,p2,c2,p3,c3,A1,A2,A3,rfl,-⟩:=L4';have R4:=(aa HA w3 B3).2.2.fr F4;obtain⟨r0,r1,r2,r3,r4,r5,r6,r7,rf⟩:=R4.cells;have HR4:=af R4;have HP4:=af (ah P4 (ah F4 L4));obtain⟨n1,Mo⟩:=aI R.Mq.length;obtain⟨n2,Gg⟩:=aI R.nms.length;obtain⟨n3,en3⟩:=aI R.Lv.length;rw[Mo,Gg,en3]at HP4⊢;go_wp2;have z3:=tG.size;have z4:=HP4.2.1.1;have zz:=aa HZ;have zB:=B3.size;refine J1 HR4 bg rfl .nilIface rfl rfl ⟨SB',NB',WW,UB',_,by rw[aa H1];rfl,((Fr.below (T:=T3) (aa tG)).trans HP4.2.1).low ((de (b:=w.heap.size+1) _ _ _ _ _ _ _ _).mono ae),?_,?_⟩;{rw[bN (aa H1)];exact PS.rep HP4.1 HR4 ae _ _ _ _ _ _ _ _};{rw[bN (aa H1)];exact(HP4.2.2.keep (fun z h1 _=>IQ ae) (de _ _ _ _ _ _ _ _).size).mono ae}};{
 have e1:Gd C1=.iface 221 (.agg #[.I C1]):=by rw[Gd,bH hC1]
 rw[e1];have H1:=af hC1;obtain⟨-,-,R3⟩:=aa HA w3 B3;obtain⟨r0,r1,r2,r3,r4,r5,r6,r7,rf⟩:=R3.cells;have zI:=af R3;go_wp2;have z3:=tG.size;refine J1 zI bg rfl (.iface 221 (.agg #[.I C1])) rfl rfl ⟨SB,NB,HB,UB,_,by rw[Gd,bH (aa H1)],(Fr.below (T:=T3) (aa tG)).low ((de _ _ _ _ _ _ _ _).mono ae),?_,?_⟩;{rw[bH (aa H1)];exact PS.rep (h.below tG) zI ae _ _ _ _ _ _ _ _};{rw[bH (aa H1)];exact WO.num _ _ _ _ _ _ _}}};{
 have eV:Gd C0=.iface 221 (.agg #[.I C0]):=by rw[Gd,bH hC0]
 rw[eV];have H1:=af hC0;have Wv:C0=C:=by have:=aa eC;rwa [bH hC0]at this
 subst Wv;obtain⟨r0,r1,r2,r3,r4,r5,r6,r7,rf⟩:=Cr.cells;go_wp2;have z3:=mK.size;refine J1 Cr bg rfl (.iface 221 (.agg #[.I C0])) rfl rfl ⟨SB,NB,HB,UB,_,by rw[Gd,bH (aa H1)],(Fr.below (T:=T3) (aa mK)).low ((de _ _ _ _ _ _ _ _).mono ae),?_,?_⟩;{rw[bH (aa H1)];exact PS.rep (h.below mK) Cr ae _ _ _ _ _ _ _ _};{rw[bH (aa H1)];exact WO.num _ _ _ _ _ _ _}}
def MX(h:(List.range ss.length).all (lX x ss)=true){s:aR}(hs:s∈ss):1<=s.1/\s.1<=x/\gO s.2.2=true:=by
 obtain⟨i,hi⟩:=gv.1 hs;have:=iT.1 h i (by simpa using(aT.1 hi).1);unfold lX at this;rw[gj,hi]at this;simp only[qI,fu,jg]at this;exact⟨this.1,this.2.1,this.2.2.2.2.2⟩
def DE.of(hF:AY ss ns)(h:(List.range ss.length).all (lX x ss)=true):DE ss:=
 ⟨hF.s1,fun s hs=>(hF.s2 s hs).1,fun s hs=>by have:=(MX h hs).2.2;unfold gO at this;simp only[fu,jg]at this;exact this.1⟩
def YG(h:(List.range ns.length).all (kW e g ss ns)=true){i:Nat}(hi:ns[i]?=some nd):vp nd.path=true:=by
 have:=iT.1 h i (by simpa using(aT.1 hi).1);unfold kW at this;rw[gj,hi]at this;simp only[qI,fu]at this;exact this.1.1
def WF.of(h:mw e g x t ss ns=true)(hF:AY ss ns)(g0:0<=g)(x0:0<=x)(hw:∀nd∈ns,nd.watchers=[]):WF ⟨e,g,x,t,ss,ns⟩:=by
 unfold mw at h;simp only[fu,jg]at h;obtain⟨⟨h1,h2,h3,h4,h5,h6,h7⟩,hS,hN⟩:=h;refine⟨⟨g0,h2⟩,⟨x0,h3⟩,⟨h4,h5⟩,fun nd br=>?_,fun nd br=>?_,fun nd br=>(hF.n2 nd br).2.2.1,fun nd br hm=>?_,fun i j a c ha hc e2=>?_⟩;{obtain⟨a,b,c,d,f,-⟩:=hF.n2 nd br;exact⟨b,by rw[hw nd br];exact jS _,d⟩};{obtain⟨i,hi⟩:=gv.1 br;exact⟨YG hN hi,(hF.n2 nd br).1,(hF.n2 nd br).2.1⟩};{obtain⟨i,hi⟩:=gv.1 br;intro e0;have:=sr (Ew hN hi).1 hm;rw[e0]at this;cases this};{rcases yA i j with hh|hh|hh;{exact absurd e2 (hF.n3 i j a c ha hc hh)};{exact hh};{exact absurd e2.symm (hF.n3 j i c a hc ha hh)}}
def Qv(w:World):Prop:=∀k:Nat,1<=k->k<=13->vM w 0 (k*7) (rowOf k).1 (rowOf k).2.1 (rowOf k).2.2.1 (rowOf k).2.2.2.1 (rowOf k).2.2.2.2.1 (rowOf k).2.2.2.2.2.1 (rowOf k).2.2.2.2.2.2
structure GD(D:SD):Prop where
 wf:WF D
 ci:CI D.ss D.ns
 pw:(D.ns.map fun nd=>qw nd.path).Pairwise (·<·)
 ho:∀nd∈D.ns,(nd.mode=1->nd.holders.length=1)/\(nd.mode≠1->nd.aJ=0/\nd.gen=0/\(nd.mode=0->nd.holders.length=0))
 sx:∀s∈D.ss,s.1<=D.x
 ql:∀s∈D.ss,s.2.2.length<=1048576/\∀e∈s.2.2,e.2.length<=1048576
 wl:∀nd∈D.ns,nd.watchers.length<=1048576
 sl:D.ss.length<1048576
 nl:D.ns.length<1048576
def GD.of(h:mw e g x t ss ns=true)(hF:AY ss ns)(g0:0<=g)(x0:0<=x)(hw:∀nd∈ns,nd.watchers=[]):GD ⟨e,g,x,t,ss,ns⟩:=by
 have h':=h;unfold mw at h';simp only[fu,jg]at h';obtain⟨⟨-,-,-,-,-,l1,l2⟩,a1,a2⟩:=h';refine⟨WF.of h hF g0 x0 hw,⟨DE.of hF a1,fun nd br=>?_,KD.of hF⟩,hF.n1,fun nd br=>?_,fun s hs=>(MX a1 hs).2.1,fun s hs=>(hF.s2 s hs).2,fun nd br=>(hF.n2 nd br).2.2.2.2.1,by show ss.length<_;omega,by show ns.length<_;omega⟩;{obtain⟨i,hi⟩:=gv.1 br;exact⟨NT.of hF a2 hi (hw nd br),(hF.n2 nd br).2.2.2.2.2.1,(hF.n2 nd br).2.2.2.1⟩};{obtain⟨i,hi⟩:=gv.1 br;obtain⟨q1,-⟩:=Ew a2 hi;exact⟨fun hm=>sr q1 hm,fun hm=>uo q1 hm⟩}
structure Ms(w0 w:World)(b bs bn:Nat)(D:SD)(SB NB HB UB:List Nat)(S F E G:Int)(pp:OA)(np cp:Nat)(pq:OA)(nv cv:Nat)(P V:LI):Prop where
 ps:PS w0 w b bs bn D SB NB HB UB
 gd:GD D
 hS:0<=S/\S<18446744073709551616
 eP:P.length=np
 eV:V.length=nv
 hP:Rd w (.S pp np cp) P
 hV:AB w0 w (.S pq nv cv) V
 hB:aM P
 hp:np<=1048576
 iD:np<=cp
 js:cp<=maxLen
 hm:∃m,w.cell? ⟨1,0,none⟩=some (.I m)
 hT:Qv w
def Ms.below{w0 w w':World}{SB NB HB UB:List Nat}{S F E G:Int}(h:Ms w0 w b bs bn D SB NB HB UB S F E G pp np cp pq nv cv P V)(hb:Bw w w'):Ms w0 w' b bs bn D SB NB HB UB S F E G pp np cp pq nv cv P V:=
 ⟨h.ps.below hb,h.gd,h.hS,h.eP,h.eV,h.hP.below hb,h.hV.fr (aK hb) ai,h.hB,h.hp,h.iD,h.js,by obtain⟨m,hm⟩:=h.hm;exact⟨m,ag hm hb⟩,fun k h1 h2=>(h.hT k h1 h2).below hb⟩
theorem Nt:Qb ns P<0↔ia ns P=none:=by
 constructor;{
 intro h;cases hn:ia ns P with
 |none=>rfl
 | some nd=>
  exfalso;unfold Qb at h;cases hf:ns.findIdx? (fun nd=>decide (nd.path=P))with
  |some i=>rw[hf]at h;simp at h;omega
  |none=>
   have h1:=T9.1 hf nd (Ud hn);have h2:=NN hn;rw[h1]at h2;cases h2};{
 intro h;rw[Nu h]
 decide}
theorem az4(h1:1<=k)(h2:k<=13){S F E G:Int}(eC:xm D (rowOf k).1 (rowOf k).2.1 (DA k S F P.length V.length E G) k S P=C)(hC:C≠0):fx D k S F E G P V=(D,zl C):=by
 have hf:fmI k S F P.length V.length E G=DA k S F P.length V.length E G:=by rw[fmI,bN ae,uk]
 unfold fx;rw[hf];cases hB:DA k S F P.length V.length E G with
 |false=>
  rw[hB]at eC;simp only[xm,pG]at eC;rw[bN rfl,eC]
 |true=>
  rw[hB]at eC;rw[bH ai];by_cases hs:(rowOf k).1=true/\vU D.ss S<0;{
 have e3:C=3:=by rw[<-eC];simp[xm,hs]
 rcases kinds h1 h2 with rfl|rfl|rfl|rfl|rfl|rfl|rfl|rfl|rfl|rfl|rfl|rfl|rfl<;>simp_all[rowOf,Xe]}
  {
 have e4:(if(rowOf k).2.1=true then sQ D k P else 0)=C:=by rw[<-eC];simp only[xm,Bool.true_eq_false,wu,hs]
 clear eC hf hB;subst e4;unfold xY;rcases kinds h1 h2 with rfl|rfl|rfl|rfl|rfl|rfl|rfl|rfl|rfl|rfl|rfl|rfl|rfl<;>simp only[rowOf,sQ,ndK,rD]at hC hs⊢<;>by_cases hr:P=[47]<;>cases hv:vp P<;>cases hn:ia D.ns P<;>simp_all[Nt,Xe]<;>(intros;omega)}
theorem Px{se pa B:Bool}{K S:Int}(h:xm D se pa B K S P=0):B=true/\(se=true->¬vU D.ss S<0)/\(pa=true->sQ D K P=0):=by
 unfold xm at h;cases B with
 |false=>simp at h
 |true=>
  refine⟨rfl,fun e hs=>?_,fun e=>?_⟩;{simp[e,hs]at h};{by_cases hs:se=true/\vU D.ss S<0;{simp[hs]at h};{simpa[hs,e]using h}}
def Me(w0 w:World)(b bs bn:Nat)(D:SD)(A:SD×RP)(r:Ending)(w':World):Prop:=∃D' R C,bG0 w0 w b bs bn D D' R C r w'/\(A=if C=0 then(D',R)else(D,zl C))/\(C=0->R.k=0)
def oU{w0 w:World}{SB NB HB UB:List Nat}{S F E G:Int}(cx:Ms w0 w b bs bn D SB NB HB UB S F E G pp np cp pq nv cv P V)(k:Nat)(C1:Int)(D':SD)(R:RP)(ty:TypeId)(v:Value)(fC fA:FuncId)(vC:Value)(iC:xm D (rowOf k).1 (rowOf k).2.1 (DA k S F P.length V.length E G) k S P=0->(∀w',Ms w0 w' b bs bn D SB NB HB UB S F E G pp np cp pq nv cv P V->Calls prog fC #[vC,.pointer (some ⟨b,0,none⟩)] w' fun r w''=>r=.returned (Gd C1)/\Bw w' w'')∧
   (C1=0->∀w',Ms w0 w' b bs bn D SB NB HB UB S F E G pp np cp pq nv cv P V->Calls prog fA #[v,.pointer (some ⟨b,0,none⟩)] w' (bb9 w0 w' b bs bn D' R))/\fx D k S F E G P V=if C1=0 then(D',R)else(D,zl C1))(h1:1<=k:=by decide)(h2:k<=13:=by decide)(hq:bj4 k S (aN P) F (.S pq nv cv) E G=.iface ty v:=by rfl)(hmC : ∀w,(Go.method 429 ty v "loop.example/s02132/impl.check").run prog w = .ok (fC,vC) w:=by(intro w;kernel_rfl))(hmA : ∀w,(Go.method 429 ty v "loop.example/s02132/impl.act").run prog w = .ok (fA,v) w:=by(intro w;kernel_rfl))(hfC:∀vs w,(callFunc fC vs).run prog w=.ok (.enter fC vs) w:=by(intro vs w;kernel_rfl))(hfA:∀vs w,(callFunc fA vs).run prog w=.ok (.enter fA vs) w:=by(intro vs w;kernel_rfl))(hRk:C1=0->R.k=0:=by(intro _;rfl)):Cp 111 #[.pointer (some ⟨b,0,none⟩),GF k S (.S pp np cp) F (.S pq nv cv) E G] w (Me w0 w b bs bn D (fx D k S F E G P V)):=by
 obtain⟨C0,eC0⟩:=aI (xm D (rowOf k).1 (rowOf k).2.1 (DA k S F P.length V.length E G) k S P);rw[eC0]at iC;refine(ay8 cx.ps (af rfl) (fun w' hb=>?_) (fun _ w' hb=>?_) hmC hmA hfC hfA (fun hC w' hb=>(iC hC).1 w' (cx.below hb)) (fun hC hC1 w' hb=>(iC hC).2.1 hC1 w' (cx.below hb))).mono fun r w' hr=>⟨D',R,_,hr,?_,fun hC=>hRk (by split at hC<;>omega)⟩;{have c:=cx.below hb;exact ag1 c.ps (fun nd br=>(c.gd.wf.pb nd br).2.1) h1 h2 c.hS c.eP c.hP c.hB c.hp c.iD c.js c.hm (c.hT k h1 h2) (af rfl) (by show _=_;rw[<-eC0,c.eP,c.eV];rfl)};{have c:=cx.below hb;have:=M6 h1 h2 (S:=S) (F:=F) (E:=E) (G:=G) (pq:=pq) (nv:=nv) (cv:=cv) c.eP c.hP;rw[hq]at this;exact this};{by_cases hC:C0=0;{rw[(iC hC).2.2,bN hC]};{rw[bH hC,bH hC];exact az4 h1 h2 eC0 hC}}
section
variable {w0 w:World}{b bs bn:Nat}{D:SD}{SB NB HB UB:List Nat}{S F E G:Int}{pp:OA}{np cp:Nat}{pq:OA}{nv cv:Nat}{P V:LI}
def Lu(h1:1<=k)(h2:k<=13)(hB:DA k S F P.length V.length E G=true):¬fmI k S F P.length V.length E G=false:=by
 rw[fmI,bN ae,uk,hB];simp
theorem aM6(h:¬vU D.ss S<0):∃(i:Nat)(s:aR),vU D.ss S=i/\D.ss[i]?=some s/\s.1=S:=by
 unfold vU at h⊢;cases hf:D.ss.findIdx? (fun s=>s.1==S)with
 |none=>rw[hf]at h;simp at h
 |some i=>
  obtain⟨h1,h2,-⟩:=Bu.1 hf;exact⟨i,_,rfl,aO h1,by simpa using h2⟩
theorem aN5(h:ia D.ns P≠none):∃(i:Nat)(nd:aB),Qb D.ns P=i/\D.ns[i]?=some nd/\nd.path=P/\ia D.ns P=some nd:=by
 have hn:¬Qb D.ns P<0:=fun e=>h (Nt.1 e);unfold Qb at hn⊢;cases hf:D.ns.findIdx? (fun nd=>decide (nd.path=P))with
 |none=>rw[hf]at hn;simp at hn
 |some i=>
  obtain⟨h1,h2,h3⟩:=Bu.1 hf;refine⟨i,_,rfl,aO h1,by simpa using h2,?_⟩;rw[ia,List.find?_eq_some_iff_getElem];exact⟨by simpa using h2,i,h1,rfl,fun j hj=>by have:=h3 j hj;simpa using this⟩
def ag8(cx:Ms w0 w b bs bn D SB NB HB UB S F E G pp np cp pq nv cv P V):Calls Tryz.prog 111 #[.pointer (some ⟨b,0,none⟩),GF (1:Nat) S (.S pp np cp) F (.S pq nv cv) E G] w (Me w0 w b bs bn D (fx D (1:Nat) S F E G P V)):=by
 refine oU cx 1 (x9 D) _ _ 225 (.agg #[]) 270 269 (.agg #[]) (fun h0=>⟨fun w' c=>ap6 c.ps (af rfl),fun hC w' c=>(ap7 c.ps ⟨c.gd.wf.x.1,(IS hC).2.2⟩ c.gd.wf.t (fun s hs e=>by have:=c.gd.sx s hs;omega) c.gd.sl).mono fun r w''⟨gN,h⟩=>sP.r h,?_⟩);have e:fx D (1:Nat) S F E G P V=og D:=by unfold fx;rw[bH (Lu aU aU (Px h0).1),bN aU]
 rw[e];by_cases hC:x9 D=0;{
 rw[bN hC,(IS hC).1]
 rfl}
 {rw[bH hC,Yz hC]}
def uG(h4:4<=k)(h2:k<=13)(h12:k≠12)(h0:xm D (rowOf k).1 (rowOf k).2.1 (DA k S F P.length V.length E G) k S P=0):fx D k S F E G P V=xY D k S F E G P V:=by
 obtain⟨hB,hs,-⟩:=Px h0;have tv:¬((Xe k&&decide (vU D.ss S<0))=true):=by clear h0 hB;rcases kinds ae h2 with rfl|rfl|rfl|rfl|rfl|rfl|rfl|rfl|rfl|rfl|rfl|rfl|rfl<;>simp_all[Xe,rowOf]
 unfold fx;rw[bH (Lu ae h2 hB),bH ae,bH tv,bH ae,bH ae,bH ae]
theorem aB8(h:sQ D K P=0):rD K P=true\/(rD K P=false/\vp P=true/\(ndK K=true->ia D.ns P≠none)):=by
 unfold sQ at h;cases hr:rD K P with
 |true=>exact .inl rfl
 | false=>
  refine .inr ⟨rfl,?_⟩;rw[hr]at h;cases hv:vp P with
  |false=>rw[hv]at h;simp at h
  |true=>
   refine⟨rfl,fun e1 e2=>?_⟩;rw[hv]at h;simp[e1,e2]at h
def JY(h:K≠13):rD K P=false:=by simp[rD,h]
def uV(hk:k=5\/k=6\/k=7\/k=8\/k=9\/k=11)(h:sQ D k P=0):∃(i:Nat)(nd:aB),D.ns[i]?=some nd/\nd.path=P/\xY D k S F E G P V=vx D i k S F V:=by
 have h13:(k:Int)≠13:=ae;rcases aB8 h with hr|⟨hr,hv,hn⟩;{rw[JY h13]at hr;cases hr};{obtain⟨i,nd,e1,e2,e3,-⟩:=aN5 (hn (by rcases hk with rfl|rfl|rfl|rfl|rfl|rfl<;>rfl));refine⟨i,nd,e2,e3,?_⟩;unfold xY;rw[hr,hv,bH ai,bH ae,bH ae,bH bj,bH h13,e1,uk]}
def WI(cx:Ms w0 w b bs bn D SB NB HB UB S F E G pp np cp pq nv cv P V):Calls Tryz.prog 111 #[.pointer (some ⟨b,0,none⟩),GF (3:Nat) S (.S pp np cp) F (.S pq nv cv) E G] w (Me w0 w b bs bn D (fx D (3:Nat) S F E G P V)):=by
 refine oU cx 3 0 (jt D S) rB 229 (.agg #[.U S]) 271 273 (.agg #[]) (fun h0=>?_);obtain⟨hB,hs,-⟩:=Px h0;have tv:=hs rfl;obtain⟨i,s,e1,e2,e3⟩:=aM6 tv;refine⟨fun w' c=>XI rfl,fun _ w' c=>?_,?_⟩;{have hk:=ag5 c.ps c.gd.ci c.gd.pw e2 (af rfl) (aE0 c.gd.nl);rw[e3]at hk;exact hk.mono fun r w''⟨_,_,_,_,h⟩=>sP.r h};{unfold fx;rw[bH (Lu aU aU hB),AV,bH (by simp;intro _;omega),AV,bN aU,bN rfl]}
end
section
variable {w0 w:World}{b bs bn:Nat}{D:SD}{SB NB HB UB:List Nat}{S F E G:Int}{pp:OA}{np cp:Nat}{pq:OA}{nv cv:Nat}{P V:LI}
def Tb(cx:Ms w0 w b bs bn D SB NB HB UB S F E G pp np cp pq nv cv P V):Cp 111 #[.pointer (some ⟨b,0,none⟩),GF (5:Nat) S (.S pp np cp) F (.S pq nv cv) E G] w (Me w0 w b bs bn D (fx D (5:Nat) S F E G P V)):=by
 by_cases h0:xm D (rowOf 5).1 (rowOf 5).2.1 (DA 5 S F P.length V.length E G) (5:Nat) S P=0;{
 obtain⟨hB,hs,hp⟩:=Px h0;obtain⟨i,nd,e2,rfl,e4⟩:=uV (k:=5) (S:=S) (F:=F) (E:=E) (G:=G) (V:=V) (.inl rfl) (hp rfl);have iY:=aS e2;have eA:=(uG aU aU aU h0).trans e4;have gd:=cx.gd;obtain⟨nt,nh,nl⟩:=gd.ci.nt nd iY;have qY:=nt.pl;refine oU cx 5 (ax9 D nd S) (Qa (dR D i 2) i) rB 233 (.agg #[.U S,.string (aN nd.path)]) 284 283 (.agg #[.U S,.string (aN nd.path)]) (fun _=>⟨fun w' c=>Wz c.ps c.gd.pw (fun nd br=>⟨(c.gd.wf.pb nd br).2.1,(c.gd.wf.pb nd br).2.2⟩) e2 c.hS (af rfl),fun hC w' c=>(WA c.ps e2 c.gd.ci.so nt c.gd.ci.kd (id:=S)).mono fun r w'' h=>sP.r h,?_⟩);rw[eA];unfold vx;simp only[e2];rw[bN aU];unfold ax9;by_cases q1:jB D.ns nd.path=[];{by_cases q2:mh nd S=false<;>simp[q1,q2]}
 {simp[q1]}};{exact oU cx 5 0 D rB 233 (.agg #[.U S,.string (aN P)]) 284 283 (.agg #[.U S,.string (aN P)]) (fun h=>absurd h h0)}
def ay9(cx:Ms w0 w b bs bn D SB NB HB UB S F E G pp np cp pq nv cv P V):Cp 111 #[.pointer (some ⟨b,0,none⟩),GF (7:Nat) S (.S pp np cp) F (.S pq nv cv) E G] w (Me w0 w b bs bn D (fx D (7:Nat) S F E G P V)):=by
 by_cases h0:xm D (rowOf 7).1 (rowOf 7).2.1 (DA 7 S F P.length V.length E G) (7:Nat) S P=0;{
 obtain⟨hB,hs,hp⟩:=Px h0;obtain⟨i,nd,e2,rfl,e4⟩:=uV (k:=7) (S:=S) (F:=F) (E:=E) (G:=G) (V:=V) (.inr (.inr (.inl rfl))) (hp rfl);have iY:=aS e2;have eA:=(uG aU aU aU h0).trans e4;have gd:=cx.gd;obtain⟨nt,nh,nl⟩:=gd.ci.nt nd iY;have qY:=nt.pl;refine oU cx 7 (Yc nd S) (dR {D with ns:=D.ns.set i {nd with value:=V}} i 1) rB 237 (.agg #[.U S,.string (aN nd.path),.S pq nv cv]) 288 287 (.agg #[.U S,.string (aN nd.path),.S pq nv cv]) (fun _=>⟨fun w' c=>aM4 c.ps e2 qY c.hS (V:=.S pq nv cv) (pv:=pq) (nv:=nv) (cv:=cv) (af rfl),fun hC w' c=>(aM5 c.ps e2 c.gd.ci.so nt (id:=S) c.hV).mono fun r w'' h=>sP.r h,?_⟩);rw[eA];unfold vx;simp only[e2];rw[AV,AV,bN aU,ao2 (gd.ho nd iY).1];by_cases q1:nd.mode=1/\nd.holders.headD 0≠S
 {rw[bN q1,bN q1];rfl};{rw[bH q1,bH q1];rfl}};{exact oU cx 7 0 D rB 237 (.agg #[.U S,.string (aN P),.S pq nv cv]) 288 287 (.agg #[.U S,.string (aN P),.S pq nv cv]) (fun h=>absurd h h0)}
def ag9(cx:Ms w0 w b bs bn D SB NB HB UB S F E G pp np cp pq nv cv P V):Cp 111 #[.pointer (some ⟨b,0,none⟩),GF (8:Nat) S (.S pp np cp) F (.S pq nv cv) E G] w (Me w0 w b bs bn D (fx D (8:Nat) S F E G P V)):=by
 by_cases h0:xm D (rowOf 8).1 (rowOf 8).2.1 (DA 8 S F P.length V.length E G) (8:Nat) S P=0;{
 obtain⟨hB,hs,hp⟩:=Px h0;obtain⟨i,nd,e2,rfl,e4⟩:=uV (k:=8) (S:=S) (F:=F) (E:=E) (G:=G) (V:=V) (.inr (.inr (.inr (.inl rfl)))) (hp rfl);have iY:=aS e2;have eA:=(uG aU aU aU h0).trans e4;have gd:=cx.gd;obtain⟨nt,nh,nl⟩:=gd.ci.nt nd iY;have qY:=nt.pl;have hF:F=1\/F=2:=by simp only[DA,rowOf,fmF,fu,jg]at hB;omega
 refine oU cx 8 (mO D nd S F) (rK D i S F).1 (rK D i S F).2 239 (.agg #[.U S,.string (aN nd.path),.I F]) 290 289 (.agg #[.U S,.string (aN nd.path),.I F]) (fun _=>⟨fun w' c=>ar2 c.ps e2 qY c.hS hF (af rfl),?_,?_⟩) (hRk:=fun hC=>by rcases hF with rfl|rfl;exact wF (fun z:SD×RP=>z.2.k) (Jj e2 (fun h=>tp.1 (((gd.ho nd iY).2 ae).2.2 h)) hC).1;exact wF (fun z:SD×RP=>z.2.k) (Ji e2 hC));{
 intro hC w' c;rcases hF with rfl|rfl;{obtain⟨q1,q2⟩:=Jj e2 (fun h=>tp.1 (((gd.ho nd iY).2 ae).2.2 h)) hC;rw[q1];exact(Zp c.ps e2 qY nh nl c.hS ⟨gd.wf.g.1,q2⟩).mono fun r w'' h=>sP.r h};{
 rw[Ji e2 hC];have xx:nd.mode≠1:=fun e=>by unfold mO at hC;rw[bN rfl,bN e]at hC;split at hC<;>omega
 obtain⟨q1,q2,-⟩:=(gd.ho nd iY).2 xx;exact(Zo c.ps e2 qY nh nl c.hS ⟨q1,q2⟩).mono fun r w'' h=>sP.r h}};rw[eA];unfold vx;simp only[e2];rw[AV,AV,AV,bN aU];by_cases q1:mO D nd S F=0;{rw[bN q1]};{rw[bH q1,Zn e2 q1]}};{exact oU cx 8 0 D rB 239 (.agg #[.U S,.string (aN P),.I F]) 290 289 (.agg #[.U S,.string (aN P),.I F]) (fun h=>absurd h h0)}
def Ta(cx:Ms w0 w b bs bn D SB NB HB UB S F E G pp np cp pq nv cv P V):Cp 111 #[.pointer (some ⟨b,0,none⟩),GF (9:Nat) S (.S pp np cp) F (.S pq nv cv) E G] w (Me w0 w b bs bn D (fx D (9:Nat) S F E G P V)):=by
 by_cases h0:xm D (rowOf 9).1 (rowOf 9).2.1 (DA 9 S F P.length V.length E G) (9:Nat) S P=0;{
 obtain⟨hB,hs,hp⟩:=Px h0;obtain⟨i,nd,e2,rfl,e4⟩:=uV (k:=9) (S:=S) (F:=F) (E:=E) (G:=G) (V:=V) (.inr (.inr (.inr (.inr (.inl rfl))))) (hp rfl);have iY:=aS e2;have eA:=(uG aU aU aU h0).trans e4;have gd:=cx.gd;obtain⟨nt,nh,nl⟩:=gd.ci.nt nd iY;have qY:=nt.pl;refine oU cx 9 (if nd.holders.contains S=true then 0 else 10) (dN D i S) rB 240 (.agg #[.U S,.string (aN nd.path)]) 292 291 (.agg #[.U S,.string (aN nd.path)]) (fun _=>⟨fun w' c=>Vd c.ps e2 qY c.hS (af rfl),fun hC w' c=>by
   have BQ:nd.holders.contains S=true:=by by_cases q:nd.holders.contains S=true;{exact q};{rw[bH q]at hC;omega}
   exact(Ve c.ps e2 c.gd.ci.so nt c.hS nh nl BQ).mono fun r w'' h=>sP.r h,?_⟩)
 rw[eA];unfold vx;simp only[e2];rw[AV,AV,AV,AV,bN aU];by_cases q1:nd.holders.contains S=true;{rw[bN q1,bN q1];rfl};{rw[bH q1,bH q1];rfl}};{exact oU cx 9 0 D rB 240 (.agg #[.U S,.string (aN P)]) 292 291 (.agg #[.U S,.string (aN P)]) (fun h=>absurd h h0)}
def Tc(cx:Ms w0 w b bs bn D SB NB HB UB S F E G pp np cp pq nv cv P V):Cp 111 #[.pointer (some ⟨b,0,none⟩),GF (4:Nat) S (.S pp np cp) F (.S pq nv cv) E G] w (Me w0 w b bs bn D (fx D (4:Nat) S F E G P V)):=by
 obtain⟨j,hj,ej⟩:=Us (lZ P V (if F=1 then S else 0)) D.ns;refine oU cx 4 (LJ D P) {D with ns:=mg (lZ P V (if F=1 then S else 0)) D.ns} rB 231 (.agg #[.U S,.string (aN P),.bool (F==1),.S pq nv cv]) 282 281 (.agg #[.U S,.string (aN P),.bool (F==1),.S pq nv cv]) (fun h0=>⟨fun w' c=>WB c.ps c.hB c.eP c.hp (fun nd br=>(c.gd.wf.pb nd br).2.1) (id:=S) (F:=F==1) (pv:=pq) (nv:=nv) (cv:=cv) (af rfl),fun hC w' c=>?_,?_⟩);{
 obtain⟨-,la,-⟩:=Ck (V:=V) (S:=S) (F:=F) hC;have hA:=WC c.ps (P:=P) (id:=S) (F:=F==1) c.hV (by show _<=_;rw[c.eP];exact c.hp) (fun nd' br e=>by have e5:=l8 (c.gd.wf.pb nd' br).2.1 c.hB e;have:=NL.1 la nd' br;simp[e5]at this) c.gd.nl hj
 refine hA.mono fun r w''⟨gN,hN,uN,h⟩=>?_;have e6:(if(F==1)=true then S else 0)=if F=1 then S else 0:=by by_cases q:F=1<;>simp[q]
 rw[e6]at h;rw[ej];exact sP.r h};{
 obtain⟨hB,hs,hp⟩:=Px h0;rw[uG aU aU aU h0];have e7:xY D (4:Nat) S F E G P V=lT D P V S F:=by rcases aB8 (hp rfl)with hr|⟨hr,hv,-⟩;{rw[JY aU]at hr;cases hr};{unfold xY;rw[hr,hv,bH ai,bN aU]}
 rw[e7];by_cases hC:LJ D P=0;{rw[bN hC,(Ck hC).1]};{rw[bH hC,SI hC]}}
def az0(hj:K=1\/K=3\/K=4\/K=5\/K=7\/K=8\/K=9)(cx:Ms w0 w b bs bn D SB NB HB UB S F E G pp np cp pq nv cv P V):Cp 111 #[.pointer (some ⟨b,0,none⟩),GF K S (.S pp np cp) F (.S pq nv cv) E G] w (Me w0 w b bs bn D (fx D K S F E G P V)):=by
 rcases hj with rfl|rfl|rfl|rfl|rfl|rfl|rfl;{exact ag8 cx};{exact WI cx};{exact Tc cx};{exact Tb cx};{exact ay9 cx};{exact ag9 cx};{exact Ta cx}
end
def aN9(l m:LI):ltB l m=decide (¬qw m<qw l/\qw m≠qw l):=by
 unfold ltB;rw[T.nG,fE,fE];show(!decide (qw m<qw l)&&!(qw m==qw l))=_;by_cases h1:qw m<qw l<;>by_cases h2:qw m=qw l<;>simp[h1,h2]
theorem Dt{x:aB}:∀{l:List aB},x∈mg nd l↔x=nd\/x∈l
 |[]=>by simp[mg]
 |y::r=>by rw[mg];split;{simp};{rw[jA,Dt,jA];constructor;{rintro(h|h|h);{exact .inr (.inl h)};{exact .inl h};{exact .inr (.inr h)}};{rintro(h|h|h);{exact .inr (.inl h)};{exact .inl h};{exact .inr (.inr h)}}}
def bA9{x y:List UInt8}(h1:¬y<x)(h2:y≠x):x<y:=by
 rcases yy (x<y)with h|h;{exact h};{exact absurd (List.le_antisymm h1 h) (fun e=>h2 e.symm)}
theorem ZA:∀{l:List aB},(l.map fun nd=>qw nd.path).Pairwise (·<·)->(∀x∈l,qw x.path≠qw nd.path)->((mg nd l).map fun nd=>qw nd.path).Pairwise (·<·)
 |[],_,_=>by simp[mg]
 |y::r,h,cg=>by
  rw[iH,yB]at h;obtain⟨h1,h2⟩:=h;have hy:=cg y ai;rw[mg,aN9];split;{
 rename_i hl
 simp only[jg]at hl;have aX:qw nd.path<qw y.path:=bA9 hl.1 hl.2;rw[iH,iH,yB,yB];refine⟨fun z hz=>?_,h1,h2⟩;rcases jA.1 hz with rfl|hz;{exact aX};{exact List.lt_trans aX (h1 z hz)}};{
 rename_i hl
 simp only[jg]at hl;have aX:qw y.path<qw nd.path:=aD5 fun hh=>hl ⟨hh,hy⟩;rw[iH,yB];refine⟨fun z hz=>?_,ZA h2 (fun x hx=>cg x (by simp[hx]))⟩;obtain⟨x,hx,rfl⟩:=iJ.1 hz;rcases Dt.1 hx with rfl|hx;{exact aX};{exact h1 _ (iJ.2 ⟨x,hx,rfl⟩)}}
def az1{l m:LI}(hl:aM l)(hm:aM m)(h:qw l=qw m):l=m:=l8 hl hm (by unfold bQ;exact wF Lit.string h)
end Go.Proofs.YtjjnidignljppaaGreatDoor
