import Derived.Test.YtdloolggnjjfoaaGreatDoorK5
open Array renaming size->U
open Bool renaming false->dF,true->dY
open Decidable renaming decide->dD
open Go renaming Calls->dQ,Value->dV,World->G
open Go.Ending renaming returned->dR
open Go.Obj renaming cells->dO
open Go.Proofs.Tryz renaming prog->dG
open Go.RowKit renaming Hid->O
open Go.Value renaming I->dI,T->dK,S->dS,tuple->dT,U->dU
open Go.World renaming cell?->I
open List renaming length->J
open Option renaming none->dN,some->Y
namespace Go.Proofs.YtdloolggnjjfoaaGreatDoor
set_option maxHeartbeats 12800000
set_option linter.all false
set_option maxRecDepth 100000
open Go.ChangeShapes Go.WideShapes Go.ChangeAt Go.RowKit Go.Proofs.Tryz
variable {B n c i j m d B' k b b' t2 t3 b1 b2 np cp nv cv:Nat}{w wr w' w1 w'':G}{p q pp pq:OA}{ss:List aB}{Qs vs:List dV}{s:aB}{e g x t K F E iG:Int}{v o0 o1 o2 o3 o4 o5 u v0 v1 v2 v3 v4 v5 v' v6 v7 o6 o7 r0 r1 r2 r3 r4 r5 r6 r7:dV}{l P:LI}{ns:List ar}{nd:ar}{cur:iA}{D:SD}{ops:iQ}{rest:List Oper}{o:Oper}{a:Act}{ps:String}{fn:Func}{md:Region.Mode}{S:iP}{listed:Array Bool}{A5 A6:Array Edge}{ls L:List LI}{ty:TypeId}
def eh.at(h:eh B w (.S p n c) ss Qs)(m:ss[i]?=s):∃g Q,p=(Ad g 0)/\n=J ss/\n<=c/\Qs[i]?=Y Q/\I w (Ad g (i*3))=dU s.1/\I w (Ad g (i*3+1))=dI s.2.1/\I w (Ad g (i*3+2))=Y Q/\mZ B w Q s.2.2/\∀o,w.frozen? (Ad g o)=dF:=by
 have y:=(bg.1 m).1;obtain⟨Q,q⟩:∃Q,Qs[i]?=Y Q:=⟨_,bD (h.len▸y)⟩;have u:(ss.zip Qs)[i]?=Y (s,Q):=by rw[Ma];exact⟨m,q⟩
 have x:J (ss.zip Qs)=J ss:=by rw[Ub,h.len];simp
 obtain⟨D,E,e,hc,-,r⟩:=h.row.form;rw[x]at e hc r;obtain⟨rfl,rfl,rfl⟩:=jJ e;obtain⟨g,rfl⟩:=r af;obtain⟨cs,-,he,j,hf⟩:=RT.at h.row u;unfold CH at he;subst he;exact⟨g,Q,rfl,rfl,hc,q,j 0 _ rfl,j 1 _ rfl,j 2 _ rfl,h.tM i s Q m q,hf⟩
def lW(ss:List aB)(id:Int):Int:=match ss.findIdx? (λs=>s.1==id)with
 |some i=>i
 |none=>-1
def dm4{id:Int}(h:ss[j]?=Y s)(r:s.1=id)(o:∀(i:Nat)(s':aB),i<j->ss[i]?=s'->¬s'.1=id):lW ss id=j:=by
 have m:=(bg.1 h);have:ss.findIdx? (λs=>s.1==id)=j:=by rw[Md];refine⟨m.1,by rw[m.2];simp[r],λi u=>?_⟩;have:=o i _ u (bD (aK m.1));simpa using this
 rw[lW,this]
def dm2{id:Int}(j:∀(i:Nat)(s':aB),ss[i]?=s'->¬s'.1=id):lW ss id=-1:=by
 have:ss.findIdx? (λs=>s.1==id)=dN:=by rw[Xk];intro x m;let⟨i,o⟩:=jk.1 m;simpa using j i x o
 rw[lW,this]
def dk5(R:Le ss n){id:Int}(hS:O (eh B w (.S p n c) ss Qs))(hn:Mg n):dQ dG 101 #[bS e g x t (.S p n c) (.S q m d),.U id] w (Rb (.I (lW ss id)) w):=by
 let⟨W0,V,X,z0,C0,T0⟩:=bQ w #[.U e,.U g,.U x,.I t,.S p n c,.S q m d] 41;have W:=ag X;have HC:=ag C0;clear X C0 T0;go_in;go_wp2;rw[<-V];clear V
 go_loopw[5](λu wr=>∃j:Nat,j<=n/\u=.I j/\O (∀(i:Nat)(o:aB),i<j->ss[i]?=Y o->¬o.1=id)/\O (Bw W0 wr)) (λu _=>n-(intOf u).toNat)
 exact⟨0,cO _,rfl,(λi o h=>absurd h af),aR _ _⟩;{
 obtain⟨j,hj,rfl,y,r⟩:=hrel;have s4:=(HC.H af r).1 4 _ rfl;by_cases aH:j<n;{
 have cL:=bM j n;obtain⟨s,E⟩:∃s,ss[j]?=Y s:=⟨_,bD (ae R▸aH)⟩;have M:Bw w wr:=ai W r;obtain⟨gs,Q,rfl,-,-,-,c0,-⟩:=eh.at (hS.T (bH M)) E;have N:=ag M;have Z:=ag E;clear E M;obtain⟨D,iJ,K⟩:=s;by_cases he:D=id;{subst he;have Gi:(D==D):=aj;go_wp2;go_ret;refine⟨?_,N⟩;rw[dm4 (ae Z) rfl (ae y)];rfl};{
 have Ym:O (∀(i:Nat)(o:aB),i<j+1->ss[i]?=Y o->¬o.1=id):=λi o hi h=>by by_cases e2:i=j;{subst e2;rw[ae Z]at h;cases h;exact he};{exact y i o af h}
 go_wp2;go_roundw;exact⟨j+1,af,by go_num,Ym,r⟩;exact cW}};{have cL:=fq j n;have HE:=ag (dm2 (λi o h=>ae y i o (by have:=(bg.1 h).1;rw[ae R]at this;omega) h));have N:O (Bw w wr):=ai W r;go_wp2;go_ret;exact⟨by rw[ae HE];rfl,N⟩}}
def oU.tu(h:oU B w v l)(q:B'<=B):TU B' w v l:=by
 refine⟨h.1.rdu,?_,h.2,?_⟩;{intro b e;obtain⟨rfl,-⟩|⟨g,j,i,rfl,-,m,-⟩:=h.1.2;{simp[Value.ownBlock]at e};{simp only[Value.ownBlock,mn]at e;subst e;exact⟨i,m⟩}};{intro b e;obtain⟨rfl,-⟩|⟨g,j,i,rfl,o,-⟩:=h.1.2;{simp[Value.ownBlock]at e};{simp only[Value.ownBlock,mn]at e;subst e;exact gv q o}}
def dh.OE{m:Nat}{g cap:Nat}{o:ar}(h:dh m B w (.T g n cap) (ns.set k nd))(r:ns[k]?=o)(s:j<8)(u:dV)(nd':ar)(q:∀w' P V H iU,TC m w' P nd.A->TC m w' V nd.V->TU m w' H nd.y->TU m w' iU nd.X->Fr [141] w w'->yk m w' nd' ([P,V,.U nd.D,.I nd.M,H,.U nd.P,.U nd.F,iU].set j u)):dh m B (w.setCell (Ad g (k*8+j)) u) (.T g n cap) (ns.set k nd')/\Fr [141] w (w.setCell (Ad g (k*8+j)) u):=by
 have:=dh.put h (i:=k) (nd:=nd) (by rw[uE];simp[(bg.1 r).1]) s u nd' q;rwa [Uf]at this
def ay1{T:List TypeId}(hF:Fr T w wr)(u:Below B w wr)(x:U w.heap<=b)(y:B<=U w.heap)(j:wr.heap[b]?=dO cur 41)(v0 v1 v2 v3 v4 v5:dV):Fr T w (gu wr b v0 v1 v2 v3 v4 v5)/\Below B w (gu wr b v0 v1 v2 v3 v4 v5)/\Fr [41] wr (gu wr b v0 v1 v2 v3 v4 v5):=by
 have i:=tR (w:=wr) b v0 v1 v2 v3 v4 v5;exact⟨⟨gv hF.1 i.size,λm cur r s j o=>(i.block m (aK (sF o))).Z (hF.2 m cur r s j o)⟩,u.Z (i.h af),vx j⟩
def bs1{id:Int}(i:D.N[k]?=nd)(h:nd.y.contains id=dF):jR D k id=D:=by
 unfold jR;rw[i];simp only[h,JT,yT]
def cC4{id:Int}(hk:D.N[k]?=nd)(h:nd.y.contains id)(h2:jF nd.y id≠[]):jR D k id={D with N:=D.N.set k {nd with y:=jF nd.y id}}:=by
 unfold jR;rw[hk];simp only[h,od,aL h2]
def cC6{id:Int}(hk:D.N[k]?=nd)(h:nd.y.contains id)(h2:jF nd.y id=[]):jR D k id={D with E:=we D.E nd.X (3,nd.A),N:=D.N.set k {nd with y:=[],M:=0,P:=0,F:=0,X:=[]}}:=by
 unfold jR;rw[hk];simp only[h,od,aM h2];unfold jV;have bR:=(bg.1 hk).1;simp only[uE,bR,od,Uf]
def cC3(en:Le ss n){id:Int}(hk:O (ns[k]?=nd))(hS:O (eh B w (.S p n c) ss Qs))(hN:O (jK B w (.S q m d) ns))(hB:B<=U w.heap)(hn:Mg n)(hm:Mg m)(hp:J nd.A<=1048576)(hw:J nd.X<=1048576)(hh:J nd.y<=1048576):dQ dG 161 #[bS e g x t (.S p n c) (.S q m d),.I k,.U id] w λr w'=>r=dR (bS e g x t (.S p n c) (.S q m d))/\(∃sk,eh B w' (.S p n c) (jR ⟨e,g,x,t,ss,ns⟩ k id).E sk)/\jK B w' (.S q m d) (jR ⟨e,g,x,t,ss,ns⟩ k id).N/\Fr [119,97,141] w w'/\Below B w w':=by
 obtain⟨gn,Pv,Vv,Hv,Uv,rfl,em,hmd,-,-,-,-,c4,-,-,-,-,-,tH,-,El⟩:=dh.at hN hk;have hkm:k<m:=by rw[em];exact(bg.1 hk).1
 have be8:=bM k m;clear em;obtain⟨ph,ch,rfl⟩:=tH.dy;let⟨nh,eH⟩:=cG (J nd.y);rw[ae eH]at hh tH c4;have D5:gn<U w.heap:=(hN.lt gn rfl).2;have R:=(hN.lt gn rfl).1;let⟨W0,cI,b0,z0,C0,T0⟩:=bQ w #[.U e,.U g,.U x,.I t,.S p n c,.T gn m d] 41;let⟨W1,fx,b1,z1,C1,T1⟩:=bQ W0 #[.U 0,.U 0,.U 0,.I 0,aq,aq] 41;rw[z0]at C1 T1 z1;have bW:=ag (ai b0 b1);have k4:=λ(ob o2:Obj)=>al (al c4 ((aR _ w).alloc aA ob)) (aD.alloc aA o2);have HC:=bG (C0.H af b1) C1;have HT:=bG ((b1.block _ af).Z T0) T1;have BH:=du (hS.T (bH bW)) (hN.T (bH bW)) (tH.T (bH bW));have E:=λ(v:G)(hv:Bw W1 v)(o:Nat)=>((ai bW hv).frozen (p:=(Ad gn o)) D5).Z (El o);have FZ:=ag E;have HC4:=ag c4;clear b0 b1 C0 C1 T0 T1 c4 El tH E;go_in;go_wp2_with fail;rw[<-cI,<-fx];let⟨bo,Cv⟩:=cG (nd.y.contains id);refine br (aZ0 eH BH.2.2.1 hh Cv) λw1 au=>?_;have JA:=au.size;have la:=bG (HC.1.H af au) (HC.2.H af au);have M:=bG ((au.block _ af).Z HT.1) ((au.block _ af).Z HT.2);have pT:=du (BH.1.T (bH au)) (BH.2.1.T (bH au)) (BH.2.2.T (bH au));have jr:=ag (ai bW au);have c4:=al HC4 jr;have FZ1:=ag (λ(v:G)(hv:Bw w1 v)(o:Nat)=>ae FZ v (ai au hv) o);have s5:=la.1.1 5 _ rfl;cases bo;{let⟨K0,kf⟩:=la.1;let⟨R0,rf⟩:=la.2;let⟨k0,k1,k2,k3,k4⟩:=bv3 K0;let⟨q0,q1,q2,q3,q4,q5⟩:=yx R0;go_wp2;have f2:=vx (v0:=.U e) (v1:=.U g) (v2:=.U x) (v3:=.I t) (v4:=.S p n c) (v5:=.T gn m d) M.2;have tj:=jr.Z ((tR (w:=w1) (U w.heap+1) (.U e) (.U g) (.U x) (.I t) (.S p n c) (.T gn m d)).h af);refine cg (v:=bS e g x t (.S p n c) (.T gn m d)) (by simp[results,results161,go_sem,q0,q1,q2,q3,q4,q5]) rfl ?_;rw[bs1 (ae hk) (ae Cv)];exact⟨rfl,⟨_,pT.1.T f2⟩,pT.2.1.T f2,Fr.H tj,tj.h hB⟩};{
 go_wp2_with fail;refine(cd7 eH pT.2.2.1 hh).h ?_;rintro r w2⟨pl,cl,rfl,ol,y⟩;let⟨L,eL⟩:=cG (jF nd.y id);rw[ae eL]at ol;let⟨nl,ik⟩:=cG (J L);rw[ae eL,ae ik];rw[ae ik]at ol;have LD:=y.size;have N:=bG (la.1.H af y) (la.2.H af y);have u:=bG ((y.block _ af).Z M.1) ((y.block _ af).Z M.2);have Oc:=du (pT.1.T (bH y)) (pT.2.1.T (bH y)) (ol.tu (B':=B) (aK jr.size));have lh:=ag (ai jr y);have E:=ae FZ1 w2 y;have s5:=N.1.1 5 _ rfl;have QT:=E (k*8+4);obtain⟨U9,P',V',H',U',e',-,-,-,-,-,d3,d4,d5,d6,-⟩:=dh.at Oc.2.1 hk;obtain⟨rfl,-⟩:=Ao e';have aN:¬gn=U w.heap:=af;have ck0:¬gn=U w.heap+1:=af;let⟨N4,F4⟩:=dh.put Oc.2.1 hk (j:=4) af (.S pl nl cl) {nd with y:=L} (λw' P V H iU h1 h2 h3 h4 hf=>⟨P,V,.S pl nl cl,iU,rfl,h1,h2,Oc.2.2.T hf,h4⟩);let⟨K0,kf⟩:=N.1;let⟨R0,rf⟩:=N.2;let⟨k0,k1,k2,k3,k4⟩:=bv3 K0;let⟨q0,q1,q2,q3,q4,q5⟩:=yx R0;by_cases h0:nl=0;{
 subst h0;obtain rfl:L=[]:=sX.1 ik;have fz3:=E (k*8+3);have fz5:=E (k*8+5);have fz6:=E (k*8+6);have NK:=hk;let⟨N4',F4'⟩:=(⟨N4,F4⟩:_/\_);let⟨N3,F3⟩:=dh.OE N4 hk (j:=3) af (.I 0) {nd with y:=[],M:=0} (λw' P V H iU h1 h2 h3 h4 hf=>⟨P,V,H,iU,rfl,h1,h2,h3,h4⟩);let⟨N5,F5⟩:=dh.OE N3 hk (j:=5) af (.U 0) {nd with y:=[],M:=0,P:=0} (λw' P V H iU h1 h2 h3 h4 hf=>⟨P,V,H,iU,rfl,h1,h2,h3,h4⟩);let⟨N6,F6⟩:=dh.OE N5 hk (j:=6) af (.U 0) {nd with y:=[],M:=0,P:=0,F:=0} (λw' P V H iU h1 h2 h3 h4 hf=>⟨P,V,H,iU,rfl,h1,h2,h3,h4⟩);let⟨X,hX⟩:=aG ((((w2.setCell (Ad gn (k*8+4)) (.S pl 0 cl)).setCell (Ad gn (k*8+3)) (.I 0)).setCell (Ad gn (k*8+5)) (.U 0)).setCell (Ad gn (k*8+6)) (.U 0));rw[<-hX]at N6 F6;have FX:=ag (((F4.Z F3).Z F5).Z F6);have NX:=ag N6;have SX:=ag (Oc.1.T FX);have BX:O (Below B w X):=by rw[hX];exact(((((lh.h hB).setCell (p:=(Ad gn _)) R _).setCell (p:=(Ad gn _)) R _).setCell (p:=(Ad gn _)) R _).setCell (p:=(Ad gn _)) R _)
 have FW:=ag ((Fr.H lh:Fr [119,97,141] w w2).Z (FX.sub aj));have zX:=FX.1;have Z:=FX.2 _ _ _ _ bf u.1;have W:=FX.2 _ _ _ _ bf u.2;have vm:=N.1.de (Z.Z u.1.C);have Sx:=N.2.de (W.Z u.2.C);have HX:=gI Z W vm Sx;go_wp2_with fail;rw[<-hX];refine(ah0 e g x t (p:=p) (c:=c) (q:=Y (Ad gn 0)) (m:=m) (d:=d) (Qs:=Qs) en (k:=k) 3 {nd with y:=[],M:=0,P:=0,F:=0} (ag (by rw[uE];simp[(bg.1 (ae hk)).1])) B X SX NX af hn hm hp hw).h ?_;rintro r w3⟨rfl,⟨Q3,Gm⟩,tv,rT,aI⟩;rw[Uf]at tv;have t0:=rT.2 _ _ _ _ bf HX.1;have t1:=rT.2 _ _ _ _ bf HX.2.1;have C0:=HX.2.2.1.de (t0.Z HX.1.C);have C1:=HX.2.2.2.de (t1.Z HX.2.1.C);have HE:=gI Gm tv (FW.Z rT) (BX.Z aI);have HT3:=bG t0 t1;have Of:=ag C1;obtain⟨K0,kf⟩:=C0;obtain⟨R0,rf⟩:=C1;let⟨k0,k1,k2,k3,k4,k5⟩:=yx K0;let⟨q0,q1,q2,q3,q4,q5⟩:=yx R0;go_wp2;let⟨fA,bA,gA⟩:=ay1 HE.2.2.1 HE.2.2.2 aA hB HT3.1 (.U e) (.U g) (.U x) (.I t) (.S p n c) (.T gn m d);let⟨fB,bB,gB⟩:=ay1 fA bA (Ua _) hB ((Fg af).Z HT3.2) (.U e) (.U g) (.U x) (.I t) (.S p n c) (.T gn m d);refine cg (v:=bS e g x t (.S p n c) (.T gn m d)) (by simp[results,results161,go_sem,q0,q1,q2,q3,q4,q5]) rfl ?_;rw[cC6 (ae hk) (ae Cv) (ae eL)];exact⟨rfl,⟨_,(HE.1.T gA).T gB⟩,(HE.2.1.T gA).T gB,fB,bB⟩};{have Ip:¬((nl:Int)=0):=af;go_wp2;have t1:=F4.2 _ _ _ _ bf u.2;let⟨fB,bB,gB⟩:=ay1 ((Fr.H lh:Fr [119,97,141] w w2).Z (F4.sub aj)) ((lh.h hB).setCell (p:=(Ad gn _)) R _) (Ua _) hB t1 (.U e) (.U g) (.U x) (.I t) (.S p n c) (.T gn m d);refine cg (v:=bS e g x t (.S p n c) (.T gn m d)) (by simp[results,results161,go_sem,q0,q1,q2,q3,q4,q5]) rfl ?_;rw[cC4 (ae hk) (ae Cv) (by rw[ae eL];intro e;rw[e]at ik;exact h0 ik.C)];refine⟨rfl,⟨_,(Oc.1.T F4).T gB⟩,?_,fB,bB⟩;simp only[ae eL];exact dh.T N4 gB}}
def BX(w:G)(b:Nat)(vs:List dV):Prop:=aQ w b vs/\∃i,w.heap[b]?=dO i 41
def BX.T{T:List TypeId}(h:BX w b vs)(hf:Fr T w w')(ht:41∉T:=by decide):BX w' b vs:=by
 obtain⟨h1,cur,h2⟩:=h;have h3:=hf.2 _ _ _ _ ht h2;exact⟨h1.de (h3.Z h2.C),cur,h3⟩
def BX.lt(h:BX w b vs):b<U w.heap:=by
 obtain⟨m,j,i⟩:=h;exact sF i
def BX.H(h:BX w b vs)(i:Bw w w'):BX w' b vs:=h.T (bH i) (by simp)
def BX.put(h:BX w b [o0,o1,o2,o3,o4,o5])(v0 v1 v2 v3 v4 v5:dV):BX (gu w b v0 v1 v2 v3 v4 v5) b [v0,v1,v2,v3,v4,v5]:=⟨bU8 h.1,ak3 h.2⟩
def BX.my(h:BX w b' vs)(i:b'≠b)(v0 v1 v2 v3 v4 v5:dV):BX (gu w b v0 v1 v2 v3 v4 v5) b' vs:=⟨ak4 h.1 i,h.2.imp λj hc=>(Fg i).Z hc⟩
def BX.fin{T:List TypeId}(h:BX wr b vs)(hF:Fr T w wr)(i:Below B w wr)(j:U w.heap<=b)(m:B<=U w.heap)(v0 v1 v2 v3 v4 v5:dV):Fr T w (gu wr b v0 v1 v2 v3 v4 v5)/\Below B w (gu wr b v0 v1 v2 v3 v4 v5)/\Fr [41] wr (gu wr b v0 v1 v2 v3 v4 v5):=by
 obtain⟨-,q,o⟩:=h;exact ay1 hF i j m o _ _ _ _ _ _
def BX.WA(h:BX w b' vs)(i:b'≠b):BX (w.setCell (Ad b j) u) b' vs:=⟨h.1.de (fT _ _ _ _ i),h.2.imp λm hc=>(fT _ _ _ _ i).Z hc⟩
def BX.cx3{T:List TypeId}(h:BX wr b vs)(hF:Fr T w wr)(y:Below B w wr)(E:U w.heap<=b)(M:B<=U w.heap)(u:dV):Fr T w (wr.setCell (Ad b j) u)/\Below B w (wr.setCell (Ad b j) u)/\Fr [41] wr (wr.setCell (Ad b j) u):=by
 have i:Below b wr (wr.setCell (Ad b j) u):=aD.setCell (p:=(Ad b j)) aA _;exact⟨⟨gv hF.1 i.size,λo m s x D r=>(i.block o (aK (sF r))).Z (hF.2 o m s x D r)⟩,y.Z (i.h af),(nW h.2).2⟩
def BX.cells(h:BX w b [v0,v1,v2,v3,v4,v5]):I w (Ad b 0)=v0/\I w (Ad b 1)=v1/\I w (Ad b 2)=v2/\I w (Ad b 3)=v3/\I w (Ad b 4)=v4/\I w (Ad b 5)=v5/\∀o,w.frozen? (Ad b o)=dF:=
 ⟨h.1.1 0 _ rfl,h.1.1 1 _ rfl,h.1.1 2 _ rfl,h.1.1 3 _ rfl,h.1.1 4 _ rfl,h.1.1 5 _ rfl,h.1.2⟩
def xu(w:G)(v0 v1 v2 v3 v4 v5:dV):∃W,W=w.alloc (dO #[v0,v1,v2,v3,v4,v5] 41)/\Bw w W/\U W.heap=U w.heap+1/\BX W (U w.heap) [v0,v1,v2,v3,v4,v5]:=by
 let⟨W,q,o,m,j,i⟩:=bQ w #[v0,v1,v2,v3,v4,v5] 41;exact⟨W,q,o,m,j,_,i⟩
def Al(w:G):∃W,W=w.alloc (dO #[.U 0,.U 0,.U 0,.I 0,aq,aq] 41)/\Bw w W/\U W.heap=U w.heap+1/\BX W (U w.heap) [.U 0,.U 0,.U 0,.I 0,aq,aq]:=xu w _ _ _ _ _ _
def NBo(nd:ar):Prop:=J nd.A<=1048576/\J nd.X<=1048576/\J nd.y<=1048576
def NB(ns:List ar):Prop:=∀i∈ns,NBo i
def NB.set(h:NB ns)(j:NBo nd):NB (ns.set k nd):=λx i=>by
 obtain i|rfl:=Xn i;{exact h x i};{exact j}
def NB.erase(h:NB ns)(k:Nat):NB (ns.eraseIdx k):=λx i=>h x (Pg i)
def aK2(hk:ns[k]?=nd)(kd:Int):jV ⟨e,g,x,t,ss,ns⟩ k kd=⟨e,g,x,t,we ss nd.X (kd,nd.A),ns.set k {nd with X:=[]}⟩:=by
 unfold jV;simp only[hk]
def tA{α:Type}{l:List α}{a:α}(i:l[k]?=a)(b:α):(l.set k b)[k]?=b:=by
 rw[uE,aM rfl,aM (bg.1 i).1]
def cC5(hk:ns[k]?=nd)(id:Int):∃m j o,jR ⟨e,g,x,t,ss,ns⟩ k id=⟨e,g,x,t,m,j⟩/\J m=J ss/\J j=J ns/\j[k]?=Y o/\o.D=nd.D/\(NB ns->NB j):=by
 by_cases h:nd.y.contains id=dY;{by_cases h2:jF nd.y id=[];{exact⟨_,_,_,cC6 hk h h2,Wj _ _ _,rK,tA hk _,rfl,λi=>i.set ⟨(i nd (bu hk)).1,aj,aj⟩⟩};{exact⟨_,_,_,cC4 hk h h2,rfl,rK,tA hk _,rfl,λi=>i.set ⟨(i nd (bu hk)).1,(i nd (bu hk)).2.1,gv (We) (i nd (bu hk)).2.2⟩⟩}};{exact⟨_,_,_,bs1 hk (by simpa using h),rfl,rfl,hk,rfl,λi=>i⟩}
def sO(id:Int)(nd:ar):ar:={nd with X:=jF nd.X id}
def mB(id:Int):Nat->Nat->SD->SD
 |0,_,D=>D
 |f+1,k,D=>match(jR D k id).N[k]? with
  |none=>D
  |some nd=>if nd.D=id then mB id f k (xH (jV (jR D k id) k 2) k)else mB id f (k+1) (jR D k id)
def Cb(id:Int)(ss:List aB):List aB:=ss.filter λs=>!(s.1==id)
def jS(D:SD)(id:Int):SD:={mB id (J D.N) 0 {D with N:=D.N.map (sO id)}with E:=Cb id (mB id (J D.N) 0 {D with N:=D.N.map (sO id)}).E}
def ez3{id:Int}(h:NBo nd):NBo (sO id nd):=⟨h.1,gv (We) h.2.1,h.2.2⟩
def NB.map(h:NB ns)(id:Int):NB (ns.map (sO id)):=λx j=>by
 obtain⟨y,i,rfl⟩:=fe.1 j;exact ez3 (h y i)
def bI6{Q:iE}(gR:o.guard=dN){s x:Operand}(ho:o.op=.call {callee:=.builtin .append,args:=#[s,x],argTypes:=#[38,38]}){zs:List (aB×dV)}{z:aB×dV}(ek:Le zs k)(hs:a.eval s=v)(cX:RT CH 97 3 B w v zs)(g:Nat)(hx:a.eval x=.T g 1 1)(hq:z.2.oneCell')(rP:∀(j:Nat)u,[.U z.1.1,.I z.1.2.1,z.2][j]?=Y u->I w (Ad g j)=Y u)(hk:k<4194304)(hB:B<=U w.heap)(h:∀p' c' w',RT CH 97 3 B w' (.S p' (k+1) c') (zs++[z])->w.grownBy w' v.ownBlock->Fr [97] w w'->wpList dG ops Q rest (a.put o.dst (.S p' (k+1) c')) w'):wpList dG ops Q (o::rest) a w:=by
 let⟨i,hi,iD,fw,fI⟩:=kx Tryz.infoSes;have ht:=cX.vr;obtain⟨rs,h1,h2,h3,h4⟩:=cX;rw[ae ek]at h3;refine Dt gR 38 ho i 3 underlying38 hi iD fw fI rfl bf v hs h3 g 1 1 _ hx rfl rP (λu hu=>by simp at hu;obtain rfl|rfl|rfl:=hu;rfl;rfl;exact hq) jC af hB ?_;intro v' w' gx hg _;have hf:Fr [97] w w':=Fr.grown hg λb hb=>by let⟨cur,hc⟩:=ht b hb;exact⟨cur,_,hc,aj⟩
 have sn:RT CH 97 3 B w' v' (zs++[z]):=RT.snoc h1 h2 h4 (λ_ _ h=>h) rfl rfl (ae ek▸gx);obtain⟨p',c',rfl,-⟩:=RT.form sn;rw[dm,ae ek]at sn⊢;exact h p' c' w' sn hg hf
def eh.filter(h:eh B w v ss Qs)(f:aB->Bool)(hr:RT CH 97 3 B w v' ((ss.zip Qs).filter λz=>f z.1)):eh B w v' (ss.filter f) (((ss.zip Qs).filter λz=>f z.1).map Prod.snd):=by
 have E:ss.filter f=((ss.zip Qs).filter λz=>f z.1).map Prod.fst:=by
  have:((ss.zip Qs).map Prod.fst)=ss:=by rw[List.map_fst_zip (h.len▸eG _)]
  conv=>lhs;rw[<-this]
  rw[List.filter_map];rfl
 have V:(ss.zip Qs).map Prod.snd=Qs:=by rw[List.map_snd_zip (h.len▸eG _)]
 have M:Qs.Pairwise λQ x=>∀b,Q.ownBlock=Y b->x.ownBlock≠Y b:=by rw[Fq];intro i j r m N b u;exact h.my i j _ _ b af (bD r) (bD m) u
 have o:(((ss.zip Qs).filter λz=>f z.1).map Prod.snd).Pairwise λQ x=>∀b,Q.ownBlock=Y b->x.ownBlock≠Y b:=by rw[<-V]at M;exact M.sublist (List.filter_sublist.map _)
 refine⟨by rw[E];simp,?_,λi s Q S q=>?_,λi j Q x b N q D u=>?_⟩;{rw[E,<-List.unzip_fst,<-List.unzip_snd,List.zip_unzip];exact hr};{rw[E,qn]at S;rw[qn]at q;obtain⟨z,R,rfl⟩:=Mc.1 S;rw[R]at q;cases q;let⟨j,m⟩:=jk.1 (JZ.1 (bu R)).1;rw[Ma]at m;exact h.tM j _ _ m.1 m.2};{rw[Fq]at o;obtain⟨r,rfl⟩:=bg.1 q;obtain⟨m,rfl⟩:=bg.1 D;obtain y|y:=Nat.lt_or_gt_of_ne N;{exact o i j r m y b u};{exactλe=>o j i m r y b e u}}
def el6{zs:List (aB×dV)}{z:aB×dV}(h:zs[k]?=Y z)(f:aB->Bool):((zs.take (k+1)).filter λz=>f z.1)=if f z.1 then((zs.take k).filter λz=>f z.1)++[z]else(zs.take k).filter λz=>f z.1:=by
 rw[pZ,h,Xl];by_cases e:f z.1<;>simp[e]
def cE1{id:Int}{i:SD}(q:k<m)(o:jR D k id=i)(j:i.N[k]?=nd):mB id (m-k) k D=if nd.D=id then mB id (m-1-k) k (xH (jV i k 2) k)else mB id (m-(k+1)) (k+1) i:=by
 obtain⟨f,hf⟩:∃f,m-k=f+1:=⟨m-k-1,af⟩;rw[hf,mB,o,j,show m-1-k=f by omega,show m-(k+1)=f by omega]
def aY0(b:Nat)(w:G):Nat:=match I w (Ad b 5)with
 |some (.slice _ m _)=>m
 |_=>0
def aX9(h:BX w b [v0,v1,v2,v3,v4,.S q m d]):aY0 b w=m:=by
 unfold aY0;rw[h.1.1 5 _ rfl]
def eD7(en:Le ss n)(em:Le ns m){id:Int}(hS:O (eh B w (.S p n c) ss Qs))(hN:O (jK B w (.S q m d) ns))(hNB:O (NB ns))(hB:B<=U w.heap)(hn:Mg n)(hm:Mg m)(eD:O (jS ⟨e,g,x,t,ss,ns⟩ id=D)):dQ dG 103 #[bS e g x t (.S p n c) (.S q m d),.U id] w λr w'=>∃p' c' q' d',r=dR (bS e g x t (.S p' (J D.E) c') (.S q' (J D.N) d'))/\(∃sk,eh B w' (.S p' (J D.E) c') D.E sk)/\jK B w' (.S q' (J D.N) d') D.N/\Fr [119,97,141] w w'/\Below B w w':=by
 let⟨W0,cI,b0,z0,C0⟩:=xu w (.U e) (.U g) (.U x) (.I t) (.S p n c) (.S q m d);let⟨W1,fx,b1,z1,C1⟩:=Al W0;rw[z0]at C1;have HC:=bG (C0.H b1) C1;have bW:=ag (ai b0 b1);have zW:U W1.heap=U w.heap+2:=af;go_in;go_wp2;rw[<-cI,<-fx]
 go_loopw[5](λkv wr=>∃k:Nat,k<=m/\kv=.I k/\U w.heap+2<=U wr.heap/\O (jK B wr (.S q m d) (qD (sO id) k ns))/\O (eh B wr (.S p n c) ss Qs)/\O (BX wr (U w.heap) [.U e,.U g,.U x,.I t,.S p n c,.S q m d]/\BX wr (U w.heap+1) [.U 0,.U 0,.U 0,.I 0,aq,aq])/\O (Fr [119,97,141] w wr)/\O (Below B w wr)) (λkv _=>m-(intOf kv).toNat)
 exact⟨0,cO _,rfl,af,(by show jK _ _ _ _;simpa[qD]using hN.T (bH (ae bW))),hS.T (bH (ae bW)),ae HC,Fr.H (ae bW),bW.h hB⟩;{
 obtain⟨k,hk,rfl,zr,Ab,oO,qQ,kM,jl⟩:=hrel;have s5:=qQ.1.1.1 5 _ rfl;by_cases aH:k<m;{
 have cL:=bM k m;obtain⟨nd,aJ⟩:∃nd,ns[k]?=Y nd:=⟨_,bD (by rw[ae em];exact aH)⟩;have iK:=cx1 (sO id) aJ;have E1:=ag (cx0 (sO id) aJ);obtain⟨gn,P,V,H,iU,rfl,-,-,-,-,-,-,-,-,-,c7,-,-,-,tU,El⟩:=dh.at Ab iK;obtain⟨pu,cu,rfl⟩:=tU.dy;let⟨nu,eU⟩:=cG (J nd.X);have og:nu<=1048576:=by rw[<-ae eU];exact(ae hNB nd (bu aJ)).2.1
 rw[ae eU]at tU c7;have HK:=ag iK;have vT:B<=gn:=(Ab.lt gn rfl).1;have Cr:gn<U wr.heap:=(Ab.lt gn rfl).2;have D5:¬U w.heap=gn:=λe=>by obtain⟨-,cur,h1⟩:=qQ.1;let⟨Ek,h2⟩:=Ab.vr gn rfl;rw[e,h2]at h1;simp at h1
 let⟨vA,dr⟩:=aG wr.drew;have cR:=lG dr;have zA:=cR.size;have GA:=ag (λ(v:G)(hv:Bw vA v)=>aF (al s5 (ai cR hv)) (aF (al c7 (ai cR hv)) (aF (λo=>((ai cR hv).frozen (p:=(Ad gn o)) Cr).Z (El o)) (ai cR hv))));have UA:=ag (tU.T (bH cR));go_wp2_with fail;refine fk (λw'=>I w' (Aw w 5)=dK gn m d) (by rw[<-dr];exact(ae GA vA aD).1) λhS=>?_;rw[<-dr]at hS⊢;clear dr cR s5;refine iR 0 1 2 3 4 5 6 7 hS ?_;refine tn 9 hS ?_;refine ew 8 λKK hK=>?_;have c7:=(ae GA _ aD).2.1;go_simp;refine bL hK (by exact(ae GA _ aD).1) λhS=>?_;clear hK KK c7;refine ew 10 λKK hK=>?_;refine wD (cd7 (p:=pu) (c:=cu) (n:=nu) (l:=nd.X) eU (id:=id) (w:=vA) UA.1 og) ?_;rintro r v1⟨pl,cl,rfl,ol,au⟩;refine⟨_,rfl,?_⟩;let⟨M,ik⟩:=cG (J (jF nd.X id));rw[ae ik]at ol⊢;have OL:=ag (ol.tu (B':=B) af);have jr:=ag au;refine bL hK (by exact(ae GA v1 au).1) λhS=>?_;clear hK KK ol au;refine fO 11 12 hS ?_;refine ew 13 λKK hK=>?_;let⟨s5,c7,fz,bv⟩:=ae GA v1 jr;have fz7:=fz (k*8+7);have Rn:=ag bv;clear bv;go_simp;let⟨N2,F2⟩:=dh.put (Ab.T (bH Rn)) HK (j:=7) af (.S pl M cl) (sO id nd) (λw' P V H iU h1 h2 h3 h4 hf=>⟨P,V,H,.S pl M cl,rfl,h1,h2,h3,OL.T hf⟩);rw[<-ae E1]at N2;let⟨Z,hZ⟩:=aG (v1.setCell (Ad gn (k*8+7)) (.S pl M cl));have BZ:Below B w Z:=by rw[hZ];exact(jl.Z (Rn.h (aK jl.size))).setCell (p:=(Ad gn _)) vT _
 have sZ:I Z (Aw w 5)=dK gn m d:=by rw[hZ];exact(gj (fT _ _ _ _ D5) _).Z s5
 rw[<-hZ]at N2 F2⊢;have RZ:=du N2 F2 BZ;have zv:=Rn.size;have zZ:U w.heap+2<=U Z.heap:=aK F2.1;refine bL hK (by exact sZ) λhS=>?_;clear hK KK hZ N2 F2 BZ sZ s5 c7 fz fz7;refine fy ?_;clear hS;go_wp2;go_roundw;exact⟨k+1,af,by go_num,zZ,RZ.1,(oO.T (bH (ae Rn))).T RZ.2.1,⟨(qQ.1.H (ae Rn)).T RZ.2.1,(qQ.2.H (ae Rn)).T RZ.2.1⟩,(kM.Z (Fr.H (ae Rn))).Z (RZ.2.1.sub aj),RZ.2.2⟩;exact cW};{
 have cL:=fq k m;have D7:=ae Ab;rw[cx2 _ (by rw[ae em];omega)]at D7;have BH:=ag D7;clear D7;let⟨DF,eF⟩:=cG (mB id m 0 ⟨e,g,x,t,ss,ns.map (sO id)⟩);have Vj:O (D={DF with E:=Cb id DF.E}):=by show _=_;rw[<-ae eD];unfold jS;simp only[ae em];rw[ae eF]
 go_wp2
 go_loopw[6](λkv wr=>∃(k y N:Nat)(qk:OA)(W:List aB)(LM:List ar)(Qk:List dV),k<=y/\y<=m/\kv=.I k/\U w.heap+2<=U wr.heap/\Le W n/\Le LM y/\O (NB LM)/\O (mB id (y-k) k ⟨e,g,x,t,W,LM⟩=DF)/\O (jK B wr (.S qk y N) LM)/\O (eh B wr (.S p n c) W Qk)/\O (BX wr (U w.heap) [.U e,.U g,.U x,.I t,.S p n c,.S qk y N]/\BX wr (U w.heap+1) [.U 0,.U 0,.U 0,.I 0,aq,aq])/\O (Fr [119,97,141] w wr)/\O (Below B w wr)) (λkv wr=>aY0 (U w.heap) wr-(intOf kv).toNat)
 exact⟨0,m,d,q,ss,_,Qs,cO _,eG _,rfl,zr,en,ag (by rw[ir];exact ae em),ag (hNB.map id),eF,BH,oO,qQ,kM,jl⟩;{
 clear Ab oO qQ kM jl BH s5 zr hk aH cL;obtain⟨k,y,N,qk,W,LM,Qk,hk,hmk,rfl,zr,Ve,KM,cq2,eK,Ab,oO,qQ,kM,jl⟩:=hrel;have hlen:=ag (aX9 qQ.1);have k0:=qQ.1.cells;by_cases aH:k<y;{
 have cL:=bM k y;obtain⟨nd,aJ⟩:∃nd,LM[k]?=Y nd:=⟨_,bD (by rw[ae KM];exact aH)⟩;have hb:=ae cq2 nd (bu aJ);let⟨tI,JN,gQ,hd,l1,l2,iK,Uy,bd5⟩:=cC5 (e:=e) (g:=g) (x:=x) (t:=t) (ss:=W) aJ id;have Ah:=ae eK;rw[cE1 aH hd iK]at Ah;obtain⟨gn,-,-,-,-,rfl,-,-,-⟩:=dh.at Ab aJ;have au:=hb.1;have ay:=hb.2.1;have aI:=hb.2.2;have HD:=ag (cC3 (e:=e) (g:=g) (x:=x) (t:=t) (p:=p) (n:=n) (c:=c) (q:=Y (Ad gn 0)) (m:=y) (d:=N) (ss:=W) (Qs:=Qk) (ns:=LM) Ve (k:=k) (id:=id) (nd:=nd) (ag aJ) (B:=B) (w:=wr) oO Ab af hn af au ay aI);rw[hd]at HD;have HX1:=mX l1 l2 iK (bd5 (ae cq2)) Ah;go_wp2_with fail;refine HD.h ?_;rintro r w1⟨rfl,⟨Q1,QC⟩,D7,sE,au⟩;let⟨l1,l2,iK,bd5,Ah⟩:=ae HX1;have fv3:=ag QC;have fv6:=ag D7;obtain⟨U9,-,-,-,-,eg,-,-,-,-,c2,-⟩:=dh.at D7 iK;obtain⟨rfl,-⟩:=Ao eg;have mH:=bG (qQ.1.T sE) (qQ.2.T sE);have F1:=ag (kM.Z sE);have B1:=ag (jl.Z au);have z1:U w.heap+2<=U w1.heap:=aK sE.1;have D5:¬U w.heap=gn:=λe=>by obtain⟨-,cur,h1⟩:=qQ.1;let⟨Ek,h2⟩:=Ab.vr gn rfl;rw[e,h2]at h1;simp at h1
 have ft1:¬gn=U w.heap:=λe=>D5 e.C;let⟨X,hX⟩:=aG (gu w1 (U w.heap) (.U e) (.U g) (.U x) (.I t) (.S p n c) (.T gn y N));let⟨fX,bX,gX⟩:=mH.1.fin F1 B1 aA hB (.U e) (.U g) (.U x) (.I t) (.S p n c) (.T gn y N);have BXX:=aF (mH.1.put (.U e) (.U g) (.U x) (.I t) (.S p n c) (.T gn y N)) (mH.2.my (b:=U w.heap) af (.U e) (.U g) (.U x) (.I t) (.S p n c) (.T gn y N));have zX:U X.heap=U w1.heap:=by rw[hX];exact Tz
 rw[<-hX]at fX bX gX BXX;have SX:=ag (QC.T gX);have NX:=ag (dh.T D7 gX);have N8:=du fX bX BXX;unfold gu at hX;have k0:=mH.1.cells;have Ar:=du l1 l2 bd5;have Jq:=ag iK;have EK2:=ag Ah;by_cases how:gQ.D=id;{
 have Gi:(gQ.D==id):=by simp[how]
 have ZG:=ae EK2;rw[aM how,aK2 (ae Jq),xH]at ZG;have EK3:=ag ZG;have hb:=Ar.2.2 gQ (bu (ae Jq));have HT:=ag (ah0 e g x t (p:=p) (n:=n) (c:=c) (q:=Y (Ad gn 0)) (m:=y) (d:=N) (ss:=tI) (Qs:=Q1) (ns:=JN) (ag (Ar.1.Z Ve)) (k:=k) 2 gQ Jq B X SX NX af hn af hb.1 hb.2.1);go_wp2_with fail;rw[<-hX];refine HT.h ?_;rintro r w2⟨rfl,⟨Q2,tp⟩,qB,AW,ay⟩;have EF:=bG (N8.2.2.1.T AW) (N8.2.2.2.T AW);have F2:=ag (N8.1.Z AW);have B2:=ag (N8.2.1.Z ay);have z2:U w.heap+2<=U w2.heap:=aK AW.1;let⟨iY,hY⟩:=aG (gu w2 (U w.heap) (.U e) (.U g) (.U x) (.I t) (.S p n c) (.T gn y N));let⟨fY,bY,gY⟩:=EF.1.fin F2 B2 aA hB (.U e) (.U g) (.U x) (.I t) (.S p n c) (.T gn y N);have BXY:=aF (EF.1.put (.U e) (.U g) (.U x) (.I t) (.S p n c) (.T gn y N)) (EF.2.my (b:=U w.heap) af (.U e) (.U g) (.U x) (.I t) (.S p n c) (.T gn y N));have zY:U iY.heap=U w2.heap:=by rw[hY];exact Tz
 rw[<-hY]at fY bY gY BXY;have SY:=ag (tp.T gY);have NY:=ag (dh.T qB gY);have HYY:=du fY bY BXY;unfold gu at hY;have k0:=EF.1.cells;have HR:=ag (bS1 (e:=e) (g:=g) (x:=x) (t:=t) (p:=p) (n:=n) (c:=c) (q:=Y (Ad gn 0)) (m:=y) (d:=N) (ag (by rw[rK];exact Ar.2.1.Z (ae KM))) (k:=k) (B:=B) (w:=iY) NY af);go_wp2_with fail;rw[<-hY];refine HR.h ?_;rintro r w3⟨p3,c3,rfl,tv,aI⟩;obtain⟨WW,Zv⟩:∃WW,O ((JN.set k {gQ with X:=[]}).eraseIdx k=WW):=⟨_,ag rfl⟩;have aY1:O (J WW=y-1):=by show _=_;have h1:=Ar.2.1.Z KM;rw[<-ae Zv,Pj,rK,aM af];omega
 rw[ae Zv,ae aY1]at tv;rw[ae Zv,ae aY1];have EK4:=ae EK3;simp only[ae Zv]at EK4;have Lx:=bG (HYY.2.2.1.H aI) (HYY.2.2.2.H aI);have F3:=ag (HYY.1.Z (Fr.H aI));have B3:=ag (HYY.2.1.Z (aI.h af));have z3:=aI.size;let⟨Z,hZ⟩:=aG (gu w3 (U w.heap) (.U e) (.U g) (.U x) (.I t) (.S p n c) (.S p3 (y-1) c3));let⟨fZ,bZ,gZ⟩:=Lx.1.fin F3 B3 aA hB (.U e) (.U g) (.U x) (.I t) (.S p n c) (.S p3 (y-1) c3);have VY:=aF (Lx.1.put (.U e) (.U g) (.U x) (.I t) (.S p n c) (.S p3 (y-1) c3)) (Lx.2.my (b:=U w.heap) af (.U e) (.U g) (.U x) (.I t) (.S p n c) (.S p3 (y-1) c3));have zZ:U Z.heap=U w3.heap:=by rw[hZ];exact Tz
 rw[<-hZ]at fZ bZ gZ VY;have SZ:=ag ((SY.T (bH aI)).T gZ);have NZ:=ag ((dh.T tv gZ).h (by omega:B<=U iY.heap));have Lk:=du fZ bZ VY;have dG1:=ag (aX9 VY.1);have dS7:O (NB WW):=by show NB _;rw[<-ae Zv];have hb:=Ar.2.2 gQ (bu (ae Jq));exact(NB.set (nd:={gQ with X:=[]}) Ar.2.2 ⟨hb.1,cO _,hb.2.2⟩).erase k
 have EK5:=ag EK4;have dG3:O (J (we tI gQ.X (2,gQ.A))=n):=by show _=_;rw[Wj];exact Ar.1.Z (ae Ve)
 unfold gu at hZ;have k0:=Lx.1.cells;go_wp2;rw[<-hZ];go_roundw;exact⟨k,y-1,c3,p3,_,WW,Q2,af,af,rfl,af,dG3,aY1,dS7,EK5,NZ,SZ,ag Lk.2.2,ag Lk.1,ag Lk.2.1⟩
 case measure=>(
 rw[ae dG1,ae hlen];simp[intOf];omega)}
 {
 have Gi:(gQ.D==id)=dF:=by simp[how]
 have ZG:=ae EK2;rw[aL how]at ZG;have EK3:=ag ZG;have dG2:=ag (aX9 N8.2.2.1);go_wp2;rw[<-hX];go_roundw;exact⟨k+1,y,N,_,tI,JN,Q1,af,af,by go_num,af,ag (Ar.1.Z Ve),ag (Ar.2.1.Z KM),ag (Ar.2.2),EK3,NX,SX,ag N8.2.2,ag N8.1,ag N8.2.1⟩
 case measure=>(
 rw[ae dG2,ae hlen];simp[intOf];omega)}}
 {
 have cL:=fq k y;have Ah:=ae eK;rw[show y-k=0 by omega,mB]at Ah;have eD3:O (D=⟨e,g,x,t,Cb id W,LM⟩):=by show _=_;rw[ae Vj,<-Ah]
 obtain⟨W5,eW5⟩:∃W5,O (W5=wr):=⟨_,ag rfl⟩;obtain⟨wz,ewz⟩:∃wz,O (wz=U W5.heap):=⟨_,ag rfl⟩;have H5:=aF (ae oO) (aF (ae Ab) (aF (ae qQ) (aF (ae kM) (ae jl))));have z5:=zr;rw[<-ae eW5]at H5 z5;rw[<-ae ewz]at z5;have G5:=ag H5;go_wp2
 go_loopw[7,8](λlv iv w9=>∃(j M cl:Nat)(pl:OA)(L:List (aB×dV)),j<=n/\iv=.I j/\lv=.S pl M cl/\wz<=U w9.heap/\Le L M/\O ((((W.zip Qk).take j).filter λz=>!(z.1.1==id))=L)/\O (RT CH 97 3 wz w9 (.S pl M cl) L)/\O (Below wz W5 w9)) (λ_ iv _=>n-(intOf iv).toNat)
 exact⟨0,0,0,dN,[],cO _,rfl,rfl,by rw[ae ewz,ae eW5];exact eG _,ag rfl,ag aj,RT.nil _ _ _ _ _,(by show Below _ _ _;rw[ae eW5];exact aR _ _)⟩;{
 obtain⟨j,M,cl,pl,L,hj,rfl,rfl,z9,ik,hL,hR,ke⟩:=hrel;have cY:Bw W5 wr:=by have:=ae ke;rwa [ae ewz]at this
 have H9:=gI (G5.1.T (bH cY)) (G5.2.1.T (bH cY)) (G5.2.2.1.1.H cY) (G5.2.2.1.2.H cY);have VR:=bG (G5.2.2.2.1.Z (Fr.H cY)) (G5.2.2.2.2.Z (cY.h (aK G5.2.2.2.2.size)));have k0:=H9.2.2.1.cells;by_cases aH:j<n;{
 have cL:=bM j n;obtain⟨s,hs⟩:∃s,W[j]?=Y s:=⟨_,bD (by rw[ae Ve];exact aH)⟩;obtain⟨gs,Q,rfl,-,-,hQ,c0,c1,c2,sq,-⟩:=eh.at H9.1 hs;obtain⟨pq,cq,rfl,-⟩:=sq.form;have hz:(W.zip Qk)[j]?=Y (s,.S pq (J s.2.2) cq):=by rw[Ma];exact⟨hs,hQ⟩
 have bj:=el6 hz (λs=>!(s.1==id));rw[ae hL]at bj;have iM:=ag bj;have rQ:M<4194304:=by have h1:=Uc (λz:aB×dV=>!(z.1.1==id)) ((W.zip Qk).take j);have h2:=J3 j (W.zip Qk);rw[ae hL,ae ik]at h1;omega
 by_cases he:s.1=id;{
 have E1:O ((((W.zip Qk).take (j+1)).filter λz=>!(z.1.1==id))=L):=by have:=ae iM;show _=_;simpa[he]using this
 have Gi:(s.1 != id)=dF:=by simp[he]
 go_wp2;go_roundw;exact⟨j+1,M,cl,pl,L,af,by go_num,rfl,z9,ik,E1,hR,ke⟩;exact cW};{
 have E1:O ((((W.zip Qk).take (j+1)).filter λz=>!(z.1.1==id))=L++[(s,.S pq (J s.2.2) cq)]):=by have:=ae iM;show _=_;simpa[he]using this
 have Gi:(s.1 != id):=by simp[he]
 obtain⟨v3,gq,b3,z3,C3,-⟩:=bQ wr #[.U s.1,.I s.2.1,.S pq (J s.2.2) cq] 97;have R3:=ag (RT.T hR (bH b3) bf (λ_ _ h=>h));have B3:=ag b3;have Of:=ag C3;have uL:=ag λb e=>(hR.lt b e).1;go_wp2_with(at_builtin;rw[<-gq];refine bI6 rfl rfl (B:=wz) (v:=.S pl M cl) (zs:=L) (z:=(s,.S pq (J s.2.2) cq)) (k:=M) ik rfl (ae R3) (U wr.heap) rfl rfl Of.1 rQ af ?_);intro p' c' w' o2 dt _;rw[<-gq]at dt;have b4:=ag ((ke.Z (B3.h af)).grown dt af uL);have O2:=ag o2;have z4:=b4.size;go_wp2;go_roundw;exact⟨j+1,M+1,c',p',_,af,by go_num,rfl,aK (ae ewz),ag (by rw[dm,ae ik];rfl),E1,O2,b4⟩;exact cW}};{
 have cL:=fq j n;have hL':=ae hL;rw[lY (by rw[Ub,ae Ve];omega)]at hL';let⟨q0,q1,q2,q3,q4,q5,qf⟩:=H9.2.2.2.cells;have SF:=eh.filter (v':=.S pl M cl) H9.1 (λs=>!(s.1==id)) (by rw[hL'];exact RT.h (ae hR) af);have lF:J (Cb id W)=M:=by have:=SF.len;rw[hL',ir,ae ik]at this;exact this.C
 have HSF:=ag SF;have HLF:=ag lF;go_wp2;rw[ae eD3];simp only[ae HLF,ae KM];let⟨fA,bA,gA⟩:=H9.2.2.1.cx3 (j:=4) VR.1 VR.2 aA hB (.S pl M cl);let⟨fB,bB,gB⟩:=(H9.2.2.2.WA (b:=U w.heap) (j:=4) (u:=.S pl M cl) af).fin fA bA (Ua _) hB (.U e) (.U g) (.U x) (.I t) (.S pl M cl) (.S qk y N);refine cg (v:=bS e g x t (.S pl M cl) (.S qk y N)) (by simp[results,results103,go_sem,q0,q1,q2,q3,q4,q5]) rfl ?_;exact⟨pl,cl,qk,N,rfl,⟨_,(HSF.T gA).T gB⟩,(H9.2.1.T gA).T gB,fB,bB⟩}}}}}}
abbrev gG(k i e g n:Int)(D N E:dV):dV:=.agg #[.I k,.U i,.U e,.U g,.I n,D,N,E]
abbrev aO:dV:=aq
def RX(w:G)(b:Nat)(vs:List dV):Prop:=aQ w b vs/\∃i,w.heap[b]?=dO i 47
def RX.T{T:List TypeId}(h:RX w b vs)(hf:Fr T w w')(ht:47∉T:=by decide):RX w' b vs:=by
 obtain⟨h1,cur,h2⟩:=h;have h3:=hf.2 _ _ _ _ ht h2;exact⟨h1.de (h3.Z h2.C),cur,h3⟩
def RX.H(h:RX w b vs)(i:Bw w w'):RX w' b vs:=h.T (bH i) (by simp)
def nw(w:G)(b:Nat)(v0 v1 v2 v3 v4 v5 v6 v7:dV):G:=((gu w b v0 v1 v2 v3 v4 v5).setCell (Ad b 6) v6).setCell (Ad b 7) v7
def tQ:Below b w (nw w b v0 v1 v2 v3 v4 v5 v6 v7):=((tR (w:=w) b v0 v1 v2 v3 v4 v5).setCell (p:=(Ad b 6)) aA _).setCell (p:=(Ad b 7)) aA _
def RX.put(h:RX w b [o0,o1,o2,o3,o4,o5,o6,o7])(v0 v1 v2 v3 v4 v5 v6 v7:dV):RX (nw w b v0 v1 v2 v3 v4 v5 v6 v7) b [v0,v1,v2,v3,v4,v5,v6,v7]/\Fr [47] w (nw w b v0 v1 v2 v3 v4 v5 v6 v7):=by
 obtain⟨hc,i,m⟩:=h;have r:=ak3 ⟨i,m⟩ (v0:=v0) (v1:=v1) (v2:=v2) (v3:=v3) (v4:=v4) (v5:=v5);have q:=nW (j:=6) (u:=v6) r;have o:=nW (j:=7) (u:=v7) q.1;exact⟨⟨(((((((hc.db 0 aj v0).db 1 aj v1).db 2 aj v2).db 3 aj v3).db 4 aj v4).db 5 aj v5).db 6 aj v6).db 7 aj v7,o.1⟩,((vx m).Z q.2).Z o.2⟩
def RX.cells(h:RX w b [v0,v1,v2,v3,v4,v5,v6,v7]):I w (Ad b 0)=v0/\I w (Ad b 1)=v1/\I w (Ad b 2)=v2/\I w (Ad b 3)=v3/\I w (Ad b 4)=v4/\I w (Ad b 5)=v5/\I w (Ad b 6)=v6/\I w (Ad b 7)=v7/\∀o,w.frozen? (Ad b o)=dF:=
 ⟨h.1.1 0 _ rfl,h.1.1 1 _ rfl,h.1.1 2 _ rfl,h.1.1 3 _ rfl,h.1.1 4 _ rfl,h.1.1 5 _ rfl,h.1.1 6 _ rfl,h.1.1 7 _ rfl,h.1.2⟩
def xt(w:G)(v0 v1 v2 v3 v4 v5 v6 v7:dV):∃W,W=w.alloc (dO #[v0,v1,v2,v3,v4,v5,v6,v7] 47)/\Bw w W/\U W.heap=U w.heap+1/\RX W (U w.heap) [v0,v1,v2,v3,v4,v5,v6,v7]:=by
 let⟨W,q,o,m,j,i⟩:=bQ w #[v0,v1,v2,v3,v4,v5,v6,v7] 47;exact⟨W,q,o,m,j,_,i⟩
def XJ{k:Int}:dQ dG 17 #[.I k] w (Rb (gG k 0 0 0 0 aO aO aO) w):=by
 go_in;go_wp2;exact cg (v:=gG k 0 0 0 0 aO aO aO) (by simp[results,results17,go_sem]) rfl ⟨rfl,aD.alloc aA _⟩
abbrev WM(t1 t2 t3 d1 d2:Nat)(ps:String)(k:Int):iQ:=#[{dst:=Y d1,op:=Op.load 41 (Operand.tmp t1),type:=41,pos:=ps,after:=#[],guard:=dN},
 {dst:=Y d2,op:=Op.call {callee:=Callee.value (Operand.func 17),args:=#[Operand.const (Value.int IntKind.i64 k)],argTypes:=#[3]},type:=47,pos:=ps,after:=#[],guard:=dN},
 {dst:=dN,op:=Op.store 41 (Operand.tmp t2) (Operand.tmp d1),type:=0,pos:=ps,after:=#[{on:=0,ground:=Ground.data},{on:=1,ground:=Ground.chain},{on:=0,ground:=Ground.phase},{on:=1,ground:=Ground.textOnly Departure.lateStoresUnsure}],guard:=dN},
 {dst:=dN,op:=Op.store 47 (Operand.tmp t3) (Operand.tmp d2),type:=0,pos:=ps,after:=#[{on:=1,ground:=Ground.data},{on:=2,ground:=Ground.chain},{on:=0,ground:=Ground.phase},{on:=1,ground:=Ground.phase},{on:=2,ground:=Ground.phase}],guard:=dN}]
def aO8(t1:Nat){s j:Nat}{k:Int}{Q:iE}(N:Nat) (hf:Region.free .any (WM t1 t2 t3 s j ps k) (Array.replicate 4 dF) 0)(e1:a.tmps[t1]?.getD undef=Pz N)(e2:∀v u,((a.put s v).put j u).tmps[t2]?.getD undef=Pz b1)(e3:∀v u,((a.put s v).put j u).tmps[s]?.getD undef=v)(e4:∀v u,((a.put s v).put j u).tmps[t3]?.getD undef=Pz b2)(e5:∀v u,((a.put s v).put j u).tmps[j]?.getD undef=u)(h0:BX w N [.U e,.U g,.U x,.I t,.S p n c,.S q m d])(h1:BX w b1 [o0,o1,o2,o3,o4,o5])(h2:RX w b2 [r0,r1,r2,r3,r4,r5,r6,r7])(aN:N≠b1)(qe:B<=b1)(fN:B<=b2)(h:∀w',BX w' b1 [.U e,.U g,.U x,.I t,.S p n c,.S q m d]->RX w' b2 [.I k,.U 0,.U 0,.U 0,.I 0,aO,aO,aO]->Fr [41,47] w w'->Below B w w'->Q .normal ((a.put s (bS e g x t (.S p n c) (.S q m d))).put j (gG k 0 0 0 0 aO aO aO)) w'):Code.wp dG (Code.region i (WM t1 t2 t3 s j ps k) dY) Q a w:=by
 unfold WM at hf⊢;refine Xg ?_;have M:Bw w w.drew:=aD.drew;have Z:=du (h0.H M) (h1.H M) (h2.H M);refine am4 (S:=λw'=>BX w' N [.U e,.U g,.U x,.I t,.S p n c,.S q m d]) aU Z.1 (λy=>?_);let⟨vA,dr⟩:=aG w.drew;rw[<-dr]at y Z M⊢;clear dr;refine Hy (i:=0) (oi:=_) (v:=bS e g x t (.S p n c) (.S q m d)) (by simp only[sV,uz];rfl) aU hf aU (λ_ _ _ h=>h) (Or.L ⟨rfl,?_⟩) y ?_;{intro w' hw;let⟨k0,k1,k2,k3,k4,k5,kf⟩:=hw.cells;go_simp};refine ew 1 λW hK=>?_;refine jg (XJ) ?_;rintro r v1⟨rfl,V⟩;refine⟨_,rfl,?_⟩;refine hK.out _ _ (y.H V) (λy=>?_);clear hK W;have H1:=bG (Z.2.1.H V) (Z.2.2.H V);have B1:=ag (ai M V);clear Z M V;let⟨a2,oK⟩:=aG ((a.put s (bS e g x t (.S p n c) (.S q m d))).put j (gG k 0 0 0 0 aO aO aO));refine ew 2 λW hK=>?_;have e2':=e2 (bS e g x t (.S p n c) (.S q m d)) (gG k 0 0 0 0 aO aO aO);have e3':=e3 (bS e g x t (.S p n c) (.S q m d)) (gG k 0 0 0 0 aO aO aO);have e4':=e4 (bS e g x t (.S p n c) (.S q m d)) (gG k 0 0 0 0 aO aO aO);have e5':=e5 (bS e g x t (.S p n c) (.S q m d)) (gG k 0 0 0 0 aO aO aO);have H2:=h;rw[<-oK]at e2' e3' e4' e5'⊢;rw[show(a.put s (bS e g x t (.S p n c) (.S q m d))).put j (gG k 0 0 0 0 aO aO aO)=a2 from oK.C]at H2;clear e1 e2 e3 e4 e5 h oK;let⟨k0,k1,k2,k3,k4,k5,kf⟩:=H1.1.cells;go_simp;let⟨X,D⟩:=aG (gu v1 b1 (.U e) (.U g) (.U x) (.I t) (.S p n c) (.S q m d));have bX:Below b1 v1 X:=D▸tR _ _ _ _ _ _ _;have mH:BX X b1 [.U e,.U g,.U x,.I t,.S p n c,.S q m d]:=D▸H1.1.put _ _ _ _ _ _;have BX0:BX X N [.U e,.U g,.U x,.I t,.S p n c,.S q m d]:=D▸y.my aN _ _ _ _ _ _;have fX:Fr [41] v1 X:=by obtain⟨-,cur,ht⟩:=H1.1;rw[D];exact vx ht
 have GP:=H1.2.T fX;unfold gu at D;rw[<-D];refine hK.out _ _ BX0 (λy=>?_);clear hK W D BX0 k0 k1 k2 k3 k4 k5 kf;refine ew 3 λW hK=>?_;let⟨k0,k1,k2,k3,k4,k5,k6,k7,kf⟩:=GP.cells;go_simp;let⟨Es,fY⟩:=GP.put (.I k) (.U 0) (.U 0) (.U 0) (.I 0) aO aO aO;have bY:=tQ (w:=X) (b:=b2) (v0:=.I k) (v1:=.U 0) (v2:=.U 0) (v3:=.U 0) (v4:=.I 0) (v5:=aO) (v6:=aO) (v7:=aO);let⟨iY,hY⟩:=aG (nw X b2 (.I k) (.U 0) (.U 0) (.U 0) (.I 0) aO aO aO);rw[<-hY]at Es fY bY;unfold nw gu at hY;rw[<-hY];refine hK.out _ _ (y.T fY) (λy=>?_);clear hK W hY;refine fy ?_;exact H2 iY (mH.T fY) Es ((Fr.H B1).Z ((fX.sub aj).Z (fY.sub aj))) ((B1.h (aK h1.lt)).Z ((bX.h qe).Z (bY.h fN)))
structure RP where
 k:Int
 i:Int
 e:Int
 g:Int
 n:Int
 sL:LI
 nms:List LI
 rZ:List Ev
def js:RP:=⟨0,0,0,0,0,[],[],[]⟩
def ni(k:Int):RP:=⟨k,0,0,0,0,[],[],[]⟩
def yO(D:SD):SD×RP:=if 50<=J D.E then(D,ni 11)else if 4611686018427387904<=D.x then(D,ni 12)else({D with x:=D.x+1,E:=D.E++[(D.x+1,D.t+10,[])]},{js with i:=D.x+1,n:=D.t+10})
def et0(w:G)(l:LI)(c:List dV):Prop:=∃P,c=[P]/\TB w P l
abbrev TN(B:Nat)(w:G)(v:dV)(l:List LI):Prop:=RT et0 22 1 B w v l
def QR(B:Nat)(w w':G)(r:Ending)(D:SD)(R:RP):Prop:=∃p c q d m j Ev o,r=dR (dT #[bS D.e D.g D.x D.t (.S p (J D.E) c) (.S q (J D.N) d),gG R.k R.i R.e R.g R.n m j Ev])/\eh B w' (.S p (J D.E) c) D.E o/\jK B w' (.S q (J D.N) d) D.N/\TB w' m R.sL/\TN B w' j R.nms/\mZ B w' Ev R.rZ/\Fr [119,97,141] w w'/\Below B w w'
def Fr.low{T:List TypeId}(h:Fr T w w1)(j:Below (U w.heap) w1 w'):Fr T w w':=⟨gv h.1 j.size,λb i o m q hc=>(j.block b (sF hc)).Z (h.2 b i o m q hc)⟩
def QR.num(r:Le ss n)(y:Le ns m)(D:eh B w1 (.S p n c) ss Qs)(E:jK B w1 (.S q m d) ns)(hF:Fr [119,97,141] w w1)(M:Below B w w1)(f:Fr [41,47] w1 w')(b:Below (U w.heap) w1 w')(j:B<=U w.heap)(k i a h s:Int):QR B w w' (dR (dT #[bS e g x t (.S p n c) (.S q m d),gG k i a h s aO aO aO])) ⟨e,g,x,t,ss,ns⟩ ⟨k,i,a,h,s,[],[],[]⟩:=by
 refine⟨p,c,q,d,aO,aO,aO,Qs,by simp only[ae r,ae y],?_,?_,TB.nil _,RT.nil _ _ _ _ _,RT.nil _ _ _ _ _,hF.low b,M.Z (b.h j)⟩;{simp only[ae r];exact D.T f};{simp only[ae y];exact dh.T E f}
def eh.dj3(h:eh B w v ss Qs)(hf:Fr [97] w w')(D y:Int)(hr:RT CH 97 3 B w' v' (ss.zip Qs++[((D,y,[]),aO)])):eh B w' v' (ss++[(D,y,[])]) (Qs++[aO]):=by
 have r:=h.len;refine⟨by simp[r],by rw[List.zip_append r.C];exact hr,λi s Q q hq=>?_,λi j Q S b M hq m E=>?_⟩;{
 by_cases x:i<J ss;{rw[mj x]at q;rw[mj af]at hq;exact(h.tM i s Q q hq).T hf};{
 have R:i=J ss:=by have:=(bg.1 q).1;simp at this;omega
 subst R;rw[pI aA,xL]at q;rw[pI af,r,xL]at hq;simp at q hq;subst q hq;exact RT.nil _ _ _ _ _}};{
 by_cases x:i<J Qs;{
 rw[mj x]at hq;by_cases N:j<J Qs;{rw[mj N]at m;exact h.my i j Q S b M hq m E};{
 rw[pI af]at m;have e:j-(J Qs)=0:=by have:=(bg.1 m).1;simp at this;omega
 rw[e]at m;simp at m;subst m;simp[Value.ownBlock]}};{
 rw[pI af]at hq;have e:i-(J Qs)=0:=by have:=(bg.1 hq).1;simp at this;omega
 rw[e]at hq;simp at hq;subst hq;simp[Value.ownBlock]at E}}
def dp9{tm:iA}(hr:fn.results=#[.cell t2 41,.cell t3 47])(V:tm[t2]?.getD undef=Pz b1)(S:tm[t3]?.getD undef=Pz b2)(R:BX w b1 [v0,v1,v2,v3,v4,v5])(N:RX w b2 [r0,r1,r2,r3,r4,r5,r6,r7]):(results fn tm).run dG w=.ok (dT #[.agg #[v0,v1,v2,v3,v4,v5],.agg #[r0,r1,r2,r3,r4,r5,r6,r7]]) w:=by
 let⟨M,E,D,B,y,x,X⟩:=R.cells;let⟨u,s,r,q,o,m,j,i,W⟩:=N.cells;simp[results,hr,go_sem,V,S,M,E,D,B,y,x,u,s,r,q,o,m,j,i]
def rq(t1 t2 t3 d1 d2:Nat)(k:Int)(hrs:fn.results=#[.cell t2 41,.cell t3 47]){i:Nat}{ps:String}{Q:iE}{a:Act}{w0:G}{b0:Nat}{R:SD×RP}(h0:BX w b0 [.U e,.U g,.U x,.I t,.S p n c,.S q m d])(h1:BX w b1 [o0,o1,o2,o3,o4,o5])(h2:RX w b2 [r0,r1,r2,r3,r4,r5,r6,r7])(en:Le ss n)(em:Le ns m)(hS:eh B w (.S p n c) ss Qs)(hN:jK B w (.S q m d) ns)(hF:Fr [119,97,141] w0 w)(jl:Below B w0 w)(hB:B<=U w0.heap)(E:O ((⟨e,g,x,t,ss,ns⟩,ni k)=R))(aN:b0≠b1:=by omega)(qe:U w0.heap<=b1:=by omega)(fN:U w0.heap<=b2:=by omega)(hd:a.defers=[]:=by rfl)(hf:Region.free .any (WM t1 t2 t3 d1 d2 ps k) (Array.replicate 4 dF) 0:=by kernel_rfl)(e1:a.tmps[t1]?.getD undef=Pz b0:=by rfl)(e2:∀v u,((a.put d1 v).put d2 u).tmps[t2]?.getD undef=Pz b1:=by exactλ_ _=>rfl)(e3:∀v u,((a.put d1 v).put d2 u).tmps[d1]?.getD undef=v:=by exactλ_ _=>rfl)(e4:∀v u,((a.put d1 v).put d2 u).tmps[t3]?.getD undef=Pz b2:=by exactλ_ _=>rfl)(e5:∀v u,((a.put d1 v).put d2 u).tmps[d2]?.getD undef=u:=by exactλ_ _=>rfl)(hQ:∀a' w',bodyPost dG fn (λr w'=>QR B w0 w' r R.1 R.2) .ret a' w'->Q .normal a' w':=by(intro _ _ h;go_wp2;exact h)):Code.wp dG (Code.region i (WM t1 t2 t3 d1 d2 ps k) dY) Q a w:=by
 refine aO8 t1 b0 hf e1 e2 e3 e4 e5 h0 h1 h2 aN qe fN λw' q1 q2 f b=>hQ _ _ ?_;refine cg (dp9 hrs (e2 _ _) (e4 _ _) q1 q2) hd ?_;rw[<-ae E];exact QR.num (e:=e) (g:=g) (x:=x) (t:=t) en em hS hN hF jl f b hB k 0 0 0 0
def bR8{Q:iE}(i5 i6 t2 t3 d1 d2:Nat){ps':String}(qc:Region.ready md ops listed=[i5])(iw:Region.ready md ops (listed.setIfInBounds i5 dY)=[i6])(rA:Region.ready md ops ((listed.setIfInBounds i5 dY).setIfInBounds i6 dY)=[])(te:ops[i5]?=Y {dst:=dN,op:=Op.store 41 (Operand.tmp t2) (Operand.tmp d1),type:=0,pos:=ps,after:=A5,guard:=dN})(ho6:ops[i6]?=Y {dst:=dN,op:=Op.store 47 (Operand.tmp t3) (Operand.tmp d2),type:=0,pos:=ps',after:=A6,guard:=dN})(b1 b2:Nat)(e g x t:Int)(p:OA)(n c:Nat)(q:OA)(m d:Nat)(k i h s z:Int)(dp:OA)(dn dc:Nat)(np:OA)(nn nc:Nat)(vp:OA)(vn vc:Nat) (e2:a.tmps[t2]?.getD undef=Pz b1)(e3:a.tmps[d1]?.getD undef=bS e g x t (.S p n c) (.S q m d))(e4:a.tmps[t3]?.getD undef=Pz b2)(e5:a.tmps[d2]?.getD undef=gG k i h s z (.S dp dn dc) (.S np nn nc) (.S vp vn vc))(h1:BX w b1 [o0,o1,o2,o3,o4,o5])(h2:RX w b2 [r0,r1,r2,r3,r4,r5,r6,r7])(QP:b1<b2)(oO:∀w',Below b1 w w'->Fr [41,47] w w'->S w')(hQ:∀w',BX w' b1 [.U e,.U g,.U x,.I t,.S p n c,.S q m d]->RX w' b2 [.I k,.U i,.U h,.U s,.I z,.S dp dn dc,.S np nn nc,.S vp vn vc]->Fr [41,47] w w'->Below b1 w w'->Q .normal a w'):wpAnyH dG md ops Q S 2 listed a w:=by
 refine TQ qc aj (TM te (λKK hK=>?_) fg);let⟨k0,k1,k2,k3,k4,k5,kf⟩:=h1.cells;go_simp;let⟨X,hX⟩:=aG (gu w b1 (.U e) (.U g) (.U x) (.I t) (.S p n c) (.S q m d));have bX:Below b1 w X:=hX▸tR _ _ _ _ _ _ _;have mH:=h1.put (.U e) (.U g) (.U x) (.I t) (.S p n c) (.S q m d);have fX:Fr [41] w X:=by obtain⟨-,cur,ht⟩:=h1;rw[hX];exact vx ht
 rw[<-hX]at mH;have GP:=h2.T fX;unfold gu at hX;rw[<-hX];refine hK.out _ _ (oO X bX (fX.sub aj)) (λhS=>?_);clear hK KK hX k0 k1 k2 k3 k4 k5 kf;refine TQ iw aj (TM ho6 (λKK hK=>?_) fg);let⟨k0,k1,k2,k3,k4,k5,k6,k7,kf⟩:=GP.cells;go_simp;let⟨Es,fY⟩:=GP.put (.I k) (.U i) (.U h) (.U s) (.I z) (.S dp dn dc) (.S np nn nc) (.S vp vn vc);have bY:=tQ (w:=X) (b:=b2) (v0:=.I k) (v1:=.U i) (v2:=.U h) (v3:=.U s) (v4:=.I z) (v5:=.S dp dn dc) (v6:=.S np nn nc) (v7:=.S vp vn vc);let⟨iY,hY⟩:=aG (nw X b2 (.I k) (.U i) (.U h) (.U s) (.I z) (.S dp dn dc) (.S np nn nc) (.S vp vn vc));rw[<-hY]at Es fY bY;unfold nw gu at hY;rw[<-hY];have bY':=bX.Z (bY.h (an2 QP));refine hK.out _ _ (oO iY bY' ((fX.sub aj).Z (fY.sub aj))) (λhS=>?_);clear hK KK hY;refine Xd rA ?_ _;exact hQ iY (mH.T fY) Es ((fX.sub aj).Z (fY.sub aj)) bY'
def xr(nd:ar)(id:Int):Bool:=dD (nd.M=0)||(dD (J nd.y=1)&&dD (nd.y.headD 0=id))
def ej5{P V H iU:dV}(q:Le nd.y n){id:Int}(r:O (iZ w (.S p n c) nd.y))(N:P.oneCell')(E:V.oneCell')(M:iU.oneCell'):dQ dG 166 #[.agg #[P,V,.U nd.D,.I nd.M,.S p n c,.U nd.P,.U nd.F,iU],.U id] w (Rb (.bool (xr nd id)) w):=by
 go_in;by_cases hm:nd.M=0;{
 have hf:xr nd id:=by simp[xr,hm]
 rw[hf];have B:(nd.M==0):=by simp[hm]
 go_wp2;go_ret;exact⟨rfl,aD.alloc aA _⟩};{
 have B:(nd.M==0)=dF:=by simp[hm]
 by_cases j:n=1;{
 obtain⟨x,m⟩:∃x,nd.y=[x]:=cb1.1 (by rw[ae q,j]);obtain⟨b,o,rfl,hc⟩:=r.at (k:=0) (x:=x) (by rw[m];rfl);rw[DL]at hc;have R:=λs:Obj=>al hc ((aR _ w).alloc aA s);have hf:O (xr nd id=dD (x=id)):=by show _=_;simp[xr,hm,m]
 subst j;have y:((1:Int)==1):=bf;by_cases i:x=id;{
 subst i;have u:(x==x):=aj;go_wp2;go_ret;have D:xr nd x:=by rw[ae hf];simp
 exact⟨by rw[D];rfl,aD.alloc aA _⟩};{
 have u:(x==id)=dF:=by simpa using i
 go_wp2;go_ret;exact⟨by rw[ae hf,AM i];rfl,aD.alloc aA _⟩}};{
 have hf:O (xr nd id=dF):=by show _=_;simp[xr,hm,ae q,j]
 have y:((n:Int)==1)=dF:=by simp;omega
 go_wp2;go_ret;exact⟨by rw[ae hf];rfl,aD.alloc aA _⟩}}
def Cg(D:SD)(k:Nat)(s i:Int):SD×RP:=match D.N[k]? with
 |none=>(D,js)
 |some nd=>if nd.y.contains s then(D,ni 9)
  else if i=2 then(if nd.M=1 then(D,ni 9)else({D with N:=D.N.set k {nd with M:=2,y:=mh nd.y s}},js))
  else if nd.M≠0 then(D,ni 9)else if 4611686018427387904<=D.g then(D,ni 12)
  else({D with g:=D.g+1,N:=D.N.set k {nd with M:=1,y:=[s],P:=D.e,F:=D.g+1}},{js with e:=D.e,g:=D.g+1})
abbrev qZ(K S:Int)(P:dV)(F:Int)(V:dV)(E iG:Int):dV:=.agg #[.I K,.U S,P,.I F,V,.U E,.U iG]
def BX.de(h:BX w b vs)(i:w'.heap[b]?=w.heap[b]?):BX w' b vs:=⟨h.1.de i,h.2.imp λj hc=>i.Z hc⟩
def RX.de(h:RX w b vs)(i:w'.heap[b]?=w.heap[b]?):RX w' b vs:=⟨h.1.de i,h.2.imp λj hc=>i.Z hc⟩
def LB(w:G)(b:Nat)(st op rs i j:List dV):Prop:=BX w b st/\aQ w (b+1) op/\BX w (b+1+1) rs/\RX w (b+1+1+1) i/\aQ w (b+1+1+1+1) j
def LB.W{st op rs m o:List dV}(h:LB w' b st op rs m o)(i:∀j,b<=j->j<b+5->w''.heap[j]?=w'.heap[j]?):LB w'' b st op rs m o:=
 ⟨h.1.de (i _ af af),h.2.1.de (i _ af af),h.2.2.1.de (i _ af af),h.2.2.2.1.de (i _ af af),h.2.2.2.2.de (i _ af af)⟩
def LB.aX1{s0 s1 s2 o m i n0 n1 n2 s j:dV}{os rs q r:List dV}(h:LB w b [s0,s1,s2,o,m,i] (o0::o1::os) rs q (n0::n1::n2::s::j::r)):I w (Ad b 5)=i/\I w (Ad (b+1) 1)=o1/\I w (Ad (b+1+1+1+1) 4)=j:=⟨h.1.1.1 5 _ rfl,h.2.1.1 1 _ rfl,h.2.2.2.2.1 4 _ rfl⟩
def LB.dJ9{st op rs m o:List dV}(h:LB w' b st op rs m o)(i:∀j,b<j->j<b+5->w''.heap[j]?=w'.heap[j]?):aQ w'' (b+1) op/\BX w'' (b+1+1) rs/\RX w'' (b+1+1+1) m/\aQ w'' (b+1+1+1+1) o:=
 ⟨h.2.1.de (i _ af af),h.2.2.1.de (i _ af af),h.2.2.2.1.de (i _ af af),h.2.2.2.2.de (i _ af af)⟩
def BX.Ww(h:BX w b [v0,v1,v2,v3,v4,v5]):I w (Ad b 0)=v0/\I w (Ad b 1)=v1/\I w (Ad b 2)=v2/\I w (Ad b 3)=v3/\I w (Ad b 4)=v4/\I w (Ad b 5)=v5:=⟨h.1.1 0 _ rfl,h.1.1 1 _ rfl,h.1.1 2 _ rfl,h.1.1 3 _ rfl,h.1.1 4 _ rfl,h.1.1 5 _ rfl⟩
def dE2(en:Le ss n)(em:Le ns m)(hk:O (ns[k]?=nd)){S:Int}{vp:OA}(hS:O (eh B w (.S p n c) ss Qs))(hN:O (jK B w (.S q m d) ns))(hB:B<=U w.heap)(hm:Mg m)(hh:J nd.y<=1048576)(hg:0<=g/\g<=2^62){R:SD×RP}(eR:O (Cg ⟨e,g,x,t,ss,ns⟩ k S F=R)):dQ dG 167 #[bS e g x t (.S p n c) (.S q m d),.I k,qZ K S (.S pp np cp) F (.S vp nv cv) E iG] w λr w'=>QR B w w' r R.1 R.2:=by
 obtain⟨y,Pv,Vv,Hv,Uv,rfl,-,-,c0,c1,c2,c3,c4,c5,c6,c7,tP,tV,tH,tU,El⟩:=dh.at hN hk;have hkm:k<m:=by rw[<-ae em];exact(bg.1 hk).1
 have be8:=bM k m;obtain⟨pP,cP,rfl⟩:=tP.dy;obtain⟨pV,cV,rfl⟩:=tV.dy;obtain⟨pH,cH,rfl⟩:=tH.dy;obtain⟨pU,cU,rfl⟩:=tU.dy;let⟨nP,hnP⟩:=aG (J nd.A);let⟨nV,hnV⟩:=aG (J nd.V);let⟨nU,hnU⟩:=aG (J nd.X);let⟨nh,eH⟩:=cG (J nd.y);rw[<-hnP]at c0;rw[<-hnV]at c1;rw[<-hnU]at c7;rw[ae eH]at hh tH c4;clear hnP hnV hnU tP tV tU;obtain⟨ow,mo,ep,ge,aJ⟩:∃ow mo ep ge,O (nd.D=ow/\nd.M=mo/\nd.P=ep/\nd.F=ge):=⟨_,_,_,_,ag ⟨rfl,rfl,rfl,rfl⟩⟩
 rw[aJ.1]at c2;rw[aJ.2.1]at c3;rw[aJ.2.2.1]at c5;rw[aJ.2.2.2]at c6;have D5:y<U w.heap:=(hN.lt y rfl).2;have vT:=(hN.lt y rfl).1;let⟨W0,cI,b0,z0,C0⟩:=xu w (.U e) (.U g) (.U x) (.I t) (.S p n c) (.T y m d);obtain⟨W1,fx,b1,z1,C1,-⟩:=bQ W0 #[.I K,.U S,.S pp np cp,.I F,.S vp nv cv,.U E,.U iG] 65;let⟨W2,fE,b2,z2,C2⟩:=Al W1;let⟨W3,jI,b3,z3,C3⟩:=xt W2 (.I 0) (.U 0) (.U 0) (.U 0) (.I 0) aO aO aO;obtain⟨W4,hW4,b4,z4,C4,-⟩:=bQ W3 #[.S pP nP cP,.S pV nV cV,.U ow,.I mo,.S pH nh cH,.U ep,.U ge,.S pU nU cU] 141;rw[z0]at C1 z1;rw[z1]at C2 z2;rw[z2]at C3 z3;rw[z3]at C4 z4;have HC:=mX ((((C0.H b1).H b2).H b3).H b4) (((C1.H af b2).H af b3).H af b4) ((C2.H b3).H b4) (C3.H b4) C4;have bW:=ag (ai (ai (ai (ai b0 b1) b2) b3) b4);have HS:=du (hS.T (bH bW)) (hN.T (bH bW)) (tH.T (bH bW));have aW:=λ(o1 o2 o3 o4:Obj)=>((((aR (U w.heap) w).alloc aA o1).alloc aj o2).alloc bq o3).alloc bq o4;have m0:=λ(o1 o2 o3 o4:Obj)=>al c0 (aW o1 o2 o3 o4);have m1:=λ(o1 o2 o3 o4:Obj)=>al c1 (aW o1 o2 o3 o4);have m2:=λ(o1 o2 o3 o4:Obj)=>al c2 (aW o1 o2 o3 o4);have m3:=λ(o1 o2 o3 o4:Obj)=>al c3 (aW o1 o2 o3 o4);have m4:=λ(o1 o2 o3 o4:Obj)=>al c4 (aW o1 o2 o3 o4);have m5:=λ(o1 o2 o3 o4:Obj)=>al c5 (aW o1 o2 o3 o4);have m6:=λ(o1 o2 o3 o4:Obj)=>al c6 (aW o1 o2 o3 o4);have m7:=λ(o1 o2 o3 o4:Obj)=>al c7 (aW o1 o2 o3 o4);have kW:=mX c3 c4 c5 c6 El;clear b0 b1 b2 b3 b4 C0 C1 C2 C3 C4 c0 c1 c2 c3 c4 c5 c6 c7 El tH aW;go_in;go_wp2_with fail;rw[<-cI,<-fx,<-fE,<-jI,<-hW4];let⟨bo,Cv⟩:=cG (nd.y.contains S);have hR:=ae eR;unfold Cg at hR;simp only[ae hk,ae Cv,aJ.2.1]at hR;have HR:=ag hR;refine br (aZ0 eH HS.2.2.1 hh Cv) λw1 au=>?_;have JA:=au.size;have D:=mX (HC.1.H au) (HC.2.1.H af au) (HC.2.2.1.H au) (HC.2.2.2.1.H au) (HC.2.2.2.2.H af au);have nS:=du (HS.1.T (bH au)) (HS.2.1.T (bH au)) (HS.2.2.T (bH au));have W:=ag (ai bW au);have c3:=al kW.1 W;have c4:=al kW.2.1 W;have c5:=al kW.2.2.1 W;have c6:=al kW.2.2.2.1 W;have fz:=λo=>(W.frozen (p:=(Ad y o)) D5).Z (kW.2.2.2.2 o);have o1:=D.2.1.1 1 _ rfl;have o3:=D.2.1.1 3 _ rfl;have n3:=D.2.2.2.2.1 3 _ rfl;have n4:=D.2.2.2.2.1 4 _ rfl;have k0:=D.1.cells;have aN:¬y=U w.heap:=af;cases bo;{
 by_cases hF:F=2;{
 have hF':(F==2):=by simp[hF]
 by_cases sC:mo=1;{
 have be3:(mo==1):=by simp[sC]
 have M:=ae HR;simp only[hF,sC,JT,yT,od]at M;have E9:=ag M;go_wp2_with fail;exact rq 3 6 7 27 28 9 results167 D.1 D.2.2.1 D.2.2.2.1 en em nS.1 nS.2.1 (Fr.H W) (W.h hB) hB E9};{
 have be3:(mo==1)=dF:=by simp[sC]
 have M:=ae HR;simp only[hF,sC,JT,yT,od]at M;have E9:=ag M;let⟨N3,F3⟩:=dh.put nS.2.1 hk (j:=3) af (.I 2) {nd with M:=2} (λw' P V H iU h1 h2 h3 h4 hf=>⟨P,V,H,iU,rfl,h1,h2,h3,h4⟩);let⟨X,hX⟩:=aG (w1.setCell (Ad y (k*8+3)) (.I 2));have LX:=LB.W (w'':=X) D (λj h1 h2=>by rw[hX];exact fT _ _ _ _ (by show j≠y;omega));have BX':Below B w X:=by rw[hX];exact(W.h hB).setCell (p:=(Ad y _)) vT _
 rw[<-hX]at N3 F3;have HX:=gI LX N3 F3 BX';have zX:=F3.1;have fz3:=fz (k*8+3);go_wp2_with fail;rw[<-hX];let⟨vA,dr⟩:=aG X.drew;have cR:=lG dr;have HA:=ag (λ(v:G)(hv:Bw vA v)=>aF (LB.W (w'':=v) HX.1 (λj h1 h2=>(ai cR hv).block j af)) (aF (dh.T HX.2.1 (bH (ai cR hv))) (ai cR hv)));have TA:=ag ((nS.2.2.T HX.2.2.1).T (bH cR));refine fk (λw'=>I w' (Aw w 5)=dK y m d/\I w' (Ax w 1)=dU S/\I w' (Ad (U w.heap+1+1+1+1) 4)=dS pH nh cH) (by rw[<-dr];exact(ae HA vA aD).1.aX1) λhS=>?_;rw[<-dr]at hS⊢;refine iC 0 1 2 3 hS ?_;refine fO 4 5 hS ?_;refine tn 6 hS ?_;refine ew 7 λKK hK=>?_;refine wD (dH7 eH TA.1 hh) ?_;rintro r v1⟨pl,cl,rfl,ol,ay⟩;refine⟨_,rfl,?_⟩;let⟨nl,ik⟩:=cG (J (mh nd.y S));rw[ae ik]at ol⊢;have OL:=ag (ol.tu (B':=B) (by have:=HX.2.2.2.size;have:=(ae HA vA aD).2.2.size;omega));have lh:=ag ay;refine bL hK (by exact(ae HA v1 ay).1.aX1) λhS=>?_;refine fO 8 9 hS ?_;refine ew 10 λKK hK=>?_;let⟨LV,NV,bV⟩:=ae HA v1 lh;obtain⟨U9,-,-,H',-,eg,-,-,-,-,-,-,d4,-,-,-,-,-,-,-,IW⟩:=dh.at NV (tA hk _);obtain⟨rfl,-⟩:=Ao eg;have QT:=IW (k*8+4);have NV':=ag NV;have LV':=ag LV;have bV':=ag bV;clear NV LV bV IW;go_simp;let⟨N4,F4⟩:=dh.OE NV' hk (j:=4) af (.S pl nl cl) {nd with M:=2,y:=mh nd.y S} (λw' P V H iU h1 h2 h3 h4 hf=>⟨P,V,.S pl nl cl,iU,rfl,h1,h2,OL.T hf,h4⟩);let⟨Z,hZ⟩:=aG (v1.setCell (Ad y (k*8+4)) (.S pl nl cl));have LZ:=LB.W (w'':=Z) LV' (λj h1 h2=>by rw[hZ];exact fT _ _ _ _ (by show j≠y;omega));have BZ:Below B w Z:=by rw[hZ];exact(HX.2.2.2.Z (bV'.h af)).setCell (p:=(Ad y _)) vT _
 rw[<-hZ]at N4 F4⊢;have N:=mX LZ N4 ((((Fr.H (T:=[119,97,141]) W).Z (HX.2.2.1.sub aj)).Z (Fr.H bV')).Z (F4.sub aj)) BZ (((nS.1.T HX.2.2.1).T (bH bV')).T F4);refine bL hK (by exact LZ.aX1) λhS=>?_;clear hK KK hZ N4 F4 LZ BZ d4 QT;refine fy ?_;clear hS;have k0:=N.1.1.cells;let⟨q0,q1,q2,q3,q4,q5,qf⟩:=N.1.2.2.1.cells;let⟨r0,r1,r2,r3,r4,r5,r6,r7,rf⟩:=N.1.2.2.2.1.cells;go_wp2;let⟨fA,bA,gA⟩:=N.1.2.2.1.fin N.2.2.1 N.2.2.2.1 af hB (.U e) (.U g) (.U x) (.I t) (.S p n c) (.T y m d);obtain⟨-,fB⟩:=(N.1.2.2.2.1.T gA).put (.I 0) (.U 0) (.U 0) (.U 0) (.I 0) aO aO aO;have bB:=tQ (w:=gu Z (U w.heap+1+1) (.U e) (.U g) (.U x) (.I t) (.S p n c) (.T y m d)) (b:=U w.heap+1+1+1) (v0:=.I 0) (v1:=.U 0) (v2:=.U 0) (v3:=.U 0) (v4:=.I 0) (v5:=aO) (v6:=aO) (v7:=aO);have bC:=(tR (w:=Z) (U w.heap+1+1) (.U e) (.U g) (.U x) (.I t) (.S p n c) (.T y m d)).h (show U w.heap<=_ by omega);refine cg (v:=dT #[bS e g x t (.S p n c) (.T y m d),gG 0 0 0 0 0 aO aO aO]) (by simp[results,results167,go_sem,q0,q1,q2,q3,q4,q5,r0,r1,r2,r3,r4,r5,r6,r7]) rfl ?_;rw[<-ae E9];exact QR.num en (ag (by rw[rK];exact ae em)) N.2.2.2.2 N.2.1 N.2.2.1 N.2.2.2.1 ((gA.sub aj).Z (fB.sub aj)) (bC.Z (bB.h af)) hB 0 0 0 0 0}};{
 have hF':(F==2)=dF:=by simp[hF]
 by_cases xl:mo=0;{
 have dT6:(mo != 0)=dF:=by simp[xl]
 by_cases nH:4611686018427387904<=g;{
 have dW6:dD (4611686018427387904<=g):=by simpa using nH
 have M:=ae HR;simp only[hF,xl,nH,JT,yT,od,ne_eq,aV1]at M;have E9:=ag M;clear M hF xl;go_wp2_with fail;exact rq 3 6 7 54 55 12 results167 D.1 D.2.2.1 D.2.2.2.1 en em nS.1 nS.2.1 (Fr.H W) (W.h hB) hB E9};{
 have dW6:dD (4611686018427387904<=g)=dF:=by simpa using nH
 have M:=ae HR;simp only[hF,xl,nH,JT,yT,od,ne_eq,aV1]at M;have E9:=ag M;clear M hF xl;have wg:IntKind.u64.wrap (g+1)=g+1:=IntWalk.u64_in _ af;let⟨Y0,MM⟩:=aG (w1.setCell (Aw w 1) (.U (g+1)));have B0:BX Y0 (U w.heap) [.U e,.U (g+1),.U x,.I t,.S p n c,.T y m d]:=by rw[MM];exact⟨D.1.1.db 1 aj _,(nW D.1.2).1⟩
 have L0:LB Y0 (U w.heap) [.U e,.U (g+1),.U x,.I t,.S p n c,.T y m d] _ _ _ _:=⟨B0,LB.dJ9 (w'':=Y0) D (λj h1 h2=>by rw[MM];exact fT _ _ _ _ (by show j≠U w.heap;omega))⟩;have F0:Fr [41] w1 Y0:=by rw[MM];exact(nW D.1.2).2
 let⟨N3,F3⟩:=dh.put (nS.2.1.T F0) hk (j:=3) af (.I 1) {nd with M:=1} (λw' P V H iU h1 h2 h3 h4 hf=>⟨P,V,H,iU,rfl,h1,h2,h3,h4⟩);let⟨Y1,QA⟩:=aG (Y0.setCell (Ad y (k*8+3)) (.I 1));have L1:=LB.W (w'':=Y1) L0 (λj h1 h2=>by rw[QA];exact fT _ _ _ _ (by show j≠y;omega));rw[<-QA]at N3 F3;have zY:U Y1.heap=U w1.heap:=by rw[QA,MM];simp
 let⟨A,hA,bA,zA,CA,TA⟩:=bQ Y1 #[.U S] 27;rw[zY]at CA TA;have L2:=LB.W (w'':=A) L1 (λj h1 h2=>bA.block j af);have N4:=N3.T (bH bA);have TS:TU B A (.T (U w1.heap) 1 1) [S]:=by
  refine⟨⟨_,_,rfl,.R ⟨U w1.heap,0,rfl,?_⟩⟩,?_,⟨?_,?_⟩,?_⟩;{
 intro i hi;obtain rfl:i=0:=by simp at hi;omega
 exact CA.1 0 _ rfl};{intro b hb;simp only[Value.ownBlock,mn]at hb;subst hb;exact⟨_,TA⟩};{intro a n c e;simp only[rj,mn]at e;obtain⟨rfl,rfl,rfl⟩:=e;exact⟨rfl,rfl,λj h1 h2=>af⟩};{intro n c e;simp at e};{intro b hb;simp only[Value.ownBlock,mn]at hb;omega}
 obtain⟨U9,P',V',H',U',eg,-,-,-,-,-,-,d4,d5,d6,-,-,-,-,-,IW⟩:=dh.at N4 (tA hk _);obtain⟨rfl,-⟩:=Ao eg;let⟨s0,s1,s2,s3,s4,s5,sf⟩:=L2.1.cells;have QT:=IW (k*8+4);have fz5:=IW (k*8+5);have fz6:=IW (k*8+6);have fz3:=fz (k*8+3);let⟨N5,F5⟩:=dh.OE N4 hk (j:=4) af (.T (U w1.heap) 1 1) {nd with M:=1,y:=[S]} (λw' P V H iU h1 h2 h3 h4 hf=>⟨P,V,.T (U w1.heap) 1 1,iU,rfl,h1,h2,TS.T hf,h4⟩);let⟨N6,F6⟩:=dh.OE N5 hk (j:=5) af (.U e) {nd with M:=1,y:=[S],P:=e} (λw' P V H iU h1 h2 h3 h4 hf=>⟨P,V,H,iU,rfl,h1,h2,h3,h4⟩);let⟨N7,F7⟩:=dh.OE N6 hk (j:=6) af (.U (g+1)) {nd with M:=1,y:=[S],P:=e,F:=g+1} (λw' P V H iU h1 h2 h3 h4 hf=>⟨P,V,H,iU,rfl,h1,h2,h3,h4⟩);let⟨Z,hZ⟩:=aG (((A.setCell (Ad y (k*8+4)) (.T (U w1.heap) 1 1)).setCell (Ad y (k*8+5)) (.U e)).setCell (Ad y (k*8+6)) (.U (g+1)));have LZ:=LB.W (w'':=Z) L2 (λj h1 h2=>by
  rw[hZ]
  iterate 3 rw[fT _ _ _ _ (show j≠_ by show j≠y;omega)])
 have FA:Fr [141] A Z:=by rw[hZ];exact(F5.Z F6).Z F7
 have BZ:Below B w Z:=by rw[hZ];refine((ri (p:=(Ad y _)) ?_ vT _).setCell (p:=(Ad y _)) vT _).setCell (p:=(Ad y _)) vT _;refine Xc ?_ (bA.h af);rw[QA,MM];exact((W.h hB).setCell (p:=(Aw w _)) hB _).setCell (p:=(Ad y _)) vT _
 have FZ:Fr [119,97,141] w Z:=by
  have bY0:Below (U w.heap) w1 Y0:=by rw[MM];exact aD.setCell (p:=(Aw w 1)) aA _
  exact(((Fr.low (Fr.H W) bY0).Z (F3.sub aj)).Z (Fr.H bA)).Z (FA.sub aj)
 rw[<-hZ]at N7;have SZ:=((nS.1.T F0).T F3 bf |>.T (bH bA)).T FA;have N:=mX LZ N7 FZ BZ SZ;have zZ:U w1.heap<U Z.heap:=aK FA.1;rw[MM]at QA;rw[QA]at hA;rw[hA]at hZ s0 s1 s5 d4 d5 d6 QT fz5 fz6;clear B0 L0 F0 N3 F3 L1 bA zA CA TA L2 N4 TS IW s2 s3 s4 sf N5 F5 N6 F6 N7 F7 LZ FA BZ FZ SZ MM QA hA zY;go_wp2_with fail;rw[<-hZ];let⟨vA,dr⟩:=aG Z.drew;have cR:=lG dr;have HA:=ag (λ(v:G)(hv:Below (U w.heap+1+1) vA v)=>N.1.1.de ((hv.block _ af).Z (cR.block _ af)));have LA:=ag (LB.W (w'':=vA) N.1 (λj h1 h2=>cR.block j af));have BA:=ag cR;refine fk (λw'=>I w' (Aw w 0)=dU e/\I w' (Aw w 1)=dU (g+1)/\I w' (Aw w 2)=dU x/\I w' (Aw w 3)=dI t/\I w' (Aw w 4)=dS p n c/\I w' (Aw w 5)=dK y m d) (by rw[<-dr];exact(ae HA vA aD).Ww) λhS=>?_;rw[<-dr]at hS⊢;refine iC 0 1 2 3 hS ?_;refine fO 4 5 hS ?_;refine bR8 6 7 6 7 87 92 aU aU aU rfl rfl (U w.heap+1+1) (U w.heap+1+1+1) e (g+1) x t p n c (Ad y 0) m d 0 0 e (g+1) 0 dN 0 0 dN 0 0 dN 0 0 rfl rfl rfl rfl LA.2.2.1 LA.2.2.2.1 af (λv hv _=>(ae HA v hv).Ww) ?_;intro w' au qc f1 I0;refine Bp ?_;have HQ:=ag (QR.num (e:=e) (g:=g+1) (x:=x) (t:=t) en (ag (by rw[rK];exact ae em)) N.2.2.2.2 N.2.1 N.2.2.1 N.2.2.2.1 ((Fr.H (T:=[41,47]) BA).Z f1) ((BA.h af).Z (I0.h af)) hB 0 0 e (g+1) 0);let⟨q0,q1,q2,q3,q4,q5,qf⟩:=au.cells;let⟨r0,r1,r2,r3,r4,r5,r6,r7,rf⟩:=qc.cells;go_wp2;refine cg (v:=dT #[bS e (g+1) x t (.S p n c) (.T y m d),gG 0 0 e (g+1) 0 aO aO aO]) (by simp[results,results167,go_sem,q0,q1,q2,q3,q4,q5,r0,r1,r2,r3,r4,r5,r6,r7]) rfl ?_;rw[<-ae E9];exact HQ}};{
 have dT6:(mo != 0):=by simp[xl]
 have M:=ae HR;simp only[hF,xl,JT,yT,od,ne_eq,not_false_eq_true]at M;have E9:=ag M;go_wp2_with fail;exact rq 3 6 7 49 50 9 results167 D.1 D.2.2.1 D.2.2.2.1 en em nS.1 nS.2.1 (Fr.H W) (W.h hB) hB E9}}};{have M:=ae HR;simp only[od]at M;have E9:=ag M;go_wp2_with fail;exact rq 3 6 7 19 20 9 results167 D.1 D.2.2.1 D.2.2.2.1 en em nS.1 nS.2.1 (Fr.H W) (W.h hB) hB E9}
def eE8(ns:List ar)(P:LI)(S E iG:Int):Int:=match jW ns P with
 |none=>0
 |some nd=>if nd.M=1/\nd.y.headD 0=S/\nd.P=E/\nd.F=iG then 1 else 0
def Fz(l:LI):LI:=l.drop (vK l (J l)+1)
variable {s:Nat}
theorem dE1(m:s<J l)(i:l.getD s 0=47)(h:∀y∈l.drop (s+1),kO y):vK l (J l)=s:=by
 have key:∀j,s+1+j<=J l->vK l (s+1+j)=s:=by
  intro j
  induction j with
  |zero=>intro _;rw[DL,Xz,aM i]
  |succ j ih=>
   intro o;have hm:kO (l.getD (s+1+j) 0):=h _ (by rw[im,bD af,rJ];refine List.mem_iff_getElem.2 ⟨j,bq,aj⟩)
   rw[<-wY,Xz,aL (bY6 hm),ih af]
 have:=key (J l-s-1) af;rwa [show s+1+(J l-s-1)=J l by omega]at this
def dE0(j:s<J l)(i:l.getD s 0=47)(h:∀y∈l.drop (s+1),kO y):Fz l=l.drop (s+1):=by rw[Fz,dE1 j i h]
def ta(ns:List ar)(P:LI):List LI:=(ns.filter λi=>dD (ig i.A=P)).map λi=>Fz i.A
def dJ1(h:ns[k]?=nd):ta (ns.take (k+1)) P=if ig nd.A=P then ta (ns.take k) P++[Fz nd.A]else ta (ns.take k) P:=by
 rw[pZ,h,ta,Xl,pK];by_cases e:ig nd.A=P<;>simp[ta,e]
def dJ2(P:LI):J (ta ns P)<=J ns:=by
 rw[ta,ir];exact Uc _ _
def Mj(l m:LI):Bool:=!Op.bytesLess (aZ m).toList (aZ l).toList&&!(aZ m).toList==(aZ l).toList
def qt(nd:ar):List ar->List ar
 |[]=>[nd]
 |x::r=>if Mj nd.A x.A then nd::x::r else x::qt nd r
def vM(nd:ar)(s:List ar×Bool)(x:ar):List ar×Bool:=if s.2=dF/\Mj nd.A x.A then(s.1++[nd]++[x],dY)else(s.1++[x],s.2)
def Ih(ns:List ar)(nd:ar):List ar×Bool:=ns.foldl (vM nd) ([],dF)
theorem cf7(nd:ar):∀(l acc:List ar),l.foldl (vM nd) (acc,dY)=(acc++l,dY)
 |[],acc=>aj
 |x::r,acc=>by rw[JR,show vM nd (acc,dY) x=(acc++[x],dY) by simp[vM],cf7 nd r];simp
theorem dM0(ns:List ar)(nd:ar):(if(Ih ns nd).2 then(Ih ns nd).1 else(Ih ns nd).1++[nd])=qt nd ns:=by
 have key:∀(l acc:List ar),(if(l.foldl (vM nd) (acc,dF)).2 then(l.foldl (vM nd) (acc,dF)).1 else(l.foldl (vM nd) (acc,dF)).1++[nd])=acc++qt nd l:=by
  intro l
  induction l with
  |nil=>intro acc;simp[qt]
  |cons x r ih=>
   intro acc;rw[JR,qt];by_cases h:Mj nd.A x.A=dY;{rw[show vM nd (acc,dF) x=(acc++[nd]++[x],dY) by simp[vM,h],cf7,aM h];simp};{rw[show vM nd (acc,dF) x=(acc++[x],dF) by simp[vM,h],ih,aL h];simp}
 have:=key ns [];rwa [DE]at this
def dL9{x:ar}(i:ns[k]?=x):Ih (ns.take (k+1)) nd=vM nd (Ih (ns.take k) nd) x:=by
 rw[pZ,i,Ih,Ud];rfl
def dL8{s:List ar×Bool}{x:ar}:(vM nd s x).1.length<=J s.1+2:=by
 unfold vM;split<;>simp
theorem cf6(nd:ar):∀(l:List ar)(s:List ar×Bool),(l.foldl (vM nd) s).1.length<=J s.1+2*J l
 |[],s=>aj
 |x::r,s=>by have:=cf6 nd r (vM nd s x);have:=dL8 (nd:=nd) (s:=s) (x:=x);rw[JR,kJ];omega
theorem cf9(nd:ar):∀l:List ar,J (qt nd l)=J l+1
 |[]=>rfl
 |x::r=>by rw[qt];split;{simp};{simp[cf9 nd r]}
def qm(P V:LI)(o:Int):ar:=⟨P,V,o,0,[],0,0,[]⟩
def IY(D:SD)(P V:LI)(S F:Int):SD×RP:=
 if(jW D.N P).isSome then(D,ni 6)else if nQ D.N (ig P)=dF then(D,ni 7)else if 200<=J D.N then(D,ni 11)
 else({D with N:=qt (qm P V (if F=1 then S else 0)) D.N},js)
def Ht(D:SD)(k:Nat)(K S F:Int)(V:LI):SD×RP:=match D.N[k]? with
 |none=>(D,js)
 |some nd=>
  if K=5 then(if ta D.N nd.A≠[]then(D,ni 8)else if xr nd S=dF then(D,ni 9)else(xH (jV D k 2) k,js))
  else if K=6 then(D,⟨0,nd.D,nd.P,nd.F,nd.M,nd.V,[],[]⟩)
  else if K=7 then(if nd.M=1/\nd.y.headD 0≠S then(D,ni 9)else(jV {D with N:=D.N.set k {nd with V:=V}} k 1,js))
  else if K=8 then Cg D k S F
  else if K=9 then(if nd.y.contains S then(jR D k S,js)else(D,ni 10))
  else({D with N:=D.N.set k {nd with X:=mh nd.X S}},js)
def yz.last(h:yz B w (.S p (j+1) c) (j+1) vs)(i:vs.getLast?=v):∃g,p=(Ad g 0)/\I w (Ad g j)=v/\j<maxLen:=by
 have m:=h.1;obtain⟨-,x⟩|⟨g,r,q,e,-,-,u,s,-⟩:=h.2;{omega};{obtain⟨rfl,-,rfl⟩:=jJ e;refine⟨g,rfl,?_,af⟩;have o:w.ownsRow B 22 1 (.T g (j+1) c) (j+1) vs:=h;rw[L5 o j af,<-i,am8,m];simp}
def dI2(u:Le l n)(h:Rd w (.S p n c) l)(X:aC l)(V:Mg n)(M:O (vp l)):dQ dG 165 #[.S p n c] w λr w'=>∃q m d,r=dR (.S q m d)/\O (J (Fz l)=m)/\m<=n/\Own (U w.heap) w' (.S q m d) (Fz l)/\Bw w w':=by
 go_in;go_wp2_with fail;refine(cd9 u h X V M).h ?_;rintro r w1⟨Z,-,au⟩;obtain⟨pv,k,cv,vs,rfl,R,hk,s,v,o,N,E,D,i⟩:=Z rfl;obtain⟨j,rfl⟩:∃j,k=j+1:=⟨k-1,af⟩;obtain⟨g,rfl,hc,Qm⟩:=R.last o;have hj:j<9223372036854775807:=by unfold maxLen at Qm;omega
 have wj:wrap64 (j:Int)=(j:Int):=Pk _ af;rw[<-dE0 N E D]at i;obtain⟨q,d,rfl⟩:=i.form;have B:=ag i;have y:J (Fz l)<=n:=by rw[Fz,tX,ae u];omega
 let⟨m,x⟩:=cG (J (Fz l));rw[ae x]at hc B y;have hi:((j+1:Nat):Int)-1=(j:Int):=af;have W:(j:Int)<((j+1:Nat):Int):=af;go_wp2;go_ret;exact⟨_,_,_,rfl,x,y,B,au⟩
def cW8{Q:iE}(gR:o.guard=dN){s x:Operand}(ho:o.op=.call {callee:=.builtin .append,args:=#[s,x],argTypes:=#[44,44]})(ek:Le ls k)(hs:a.eval s=v)(cX:TN B w v ls){g:Nat}{P:dV}(hx:a.eval x=.T g 1 1)(iL:TB w P l)(rP:I w (Ad g 0)=P)(hk:k<4194304)(hB:B<=U w.heap)(h:∀p' c' w',TN B w' (.S p' (k+1) c') (ls++[l])->w.grownBy w' v.ownBlock->Fr [22] w w'->wpList dG ops Q rest (a.put o.dst (.S p' (k+1) c')) w'):wpList dG ops Q (o::rest) a w:=by
 let⟨i,hi,iD,fw,fI⟩:=kx Tryz.infoSl;have ht:=cX.vr;obtain⟨rs,h1,h2,h3,h4⟩:=cX;have Yk:P.oneCell':=by obtain⟨_,_,rfl⟩:=iL.dy;rfl
 rw[ae ek]at h3;refine Dt gR 44 ho i 1 underlying44 hi iD fw fI rfl bf v hs h3 g 1 1 [P] hx rfl (λj u hu=>by
  have e:j=0:=by have:=(bg.1 hu).1;simpa using this
  subst e;simp at hu;subst hu;exact rP) (λu hu=>by simp at hu;rw[hu];exact Yk) jC af hB ?_
 intro v' w' gx hg _;have hf:Fr [22] w w':=Fr.grown hg λb hb=>by let⟨cur,hc⟩:=ht b hb;exact⟨cur,_,hc,aj⟩
 have sn:TN B w' v' (ls++[l]):=RT.snoc h1 h2 h4 (λy c hy=>by obtain⟨P',e,h5⟩:=hy;exact⟨P',e,h5.T hf⟩) ⟨P,rfl,iL⟩ rfl (ae ek▸gx);obtain⟨p',c',rfl,-⟩:=RT.form sn;rw[dm,ae ek]at sn⊢;exact h p' c' w' sn hg hf
def TN.T{T:List TypeId}(h:TN B w v ls)(hf:Fr T w w')(ht:5∉T/\22∉T:=by decide):TN B w' v ls:=
 RT.T h hf ht.2 (λy c hy=>by obtain⟨P',e,h5⟩:=hy;exact⟨P',e,h5.T hf ht.1⟩)
def PPB(ns:List ar):Prop:=∀i∈ns,vp i.A/\aC i.A/\J i.A<=1048576
def eE5(em:Le ns m)(eP:Le P np)(hN:O (jK B w (.S q m d) ns))(hP:O (Rd w (.S pp np cp) P))(bP:aC P)(QF:O (PPB ns))(hm:Mg m)(eL:O (ta ns P=L)):dQ dG 108 #[bS e g x t (.S p n c) (.S q m d),.S pp np cp] w λr w'=>∃p' c',r=dR (.S p' (J L) c')/\TN (U w.heap) w' (.S p' (J L) c') L/\Bw w w':=by
 let⟨W0,cI,V,z0,C0⟩:=xu w (.U e) (.U g) (.U x) (.I t) (.S p n c) (.S q m d);have HC:=ag λ(v:G)(N:Bw W0 v)=>aF (C0.H N) (aF (dh.T hN (bH (ai V N))) (aF (hP.H (ai V N)) (ai V N)));have BP:=ag bP;have Z0:=ag z0;clear V C0 bP z0;go_in;go_wp2;rw[<-cI];clear cI
 go_loopw[5,6](λov iv wr=>∃(k:Nat)(M:List LI),k<=m/\iv=.I k/\O (ta (ns.take k) P=M)/\O (TN (U W0.heap) wr ov M)/\O (Bw W0 wr)) (λ_ iv _=>m-(intOf iv).toNat)
 exact⟨0,[],cO _,rfl,(by show _=_;simp[ta]),RT.nil _ _ _ _ _,aR _ _⟩;{
 obtain⟨k,M,hk,rfl,R,hT,az⟩:=hrel;obtain⟨pv,cv,rfl,-,-,-⟩:=RT.form hT;have zr:=az.size;have Ir:J M<=k:=by have h1:=dJ2 (ns:=ns.take k) P;have h2:=J3 k ns;rw[ae R]at h1;omega
 let⟨CB,HN,HP,bw⟩:=ae HC _ az;have k5:=CB.1.1 5 _ rfl;have BW:=ag bw;by_cases aH:k<m;{have cL:=bM k m;obtain⟨D,hx⟩:∃x,ns[k]?=Y x:=⟨_,bD (ae em▸aH)⟩;have iM:=ag (dJ1 (P:=P) hx);have HX:=ag hx;obtain⟨gn,Pv,Vv,Hv,Uv,eq,-,-,c0,-,-,-,-,-,-,-,E,-,-,-,-⟩:=dh.at HN hx;subst eq;let⟨FK,qx,gq⟩:=ae QF D (bu hx);let⟨nP,eN⟩:=cG (J D.A);obtain⟨pP,cP,rfl⟩:=E.dy;rw[ae eN]at c0 E gq;have TP:=ag E;have HV:=bG FK qx;let⟨_,_,_,ec,fM,gC⟩:=E.2.2;obtain⟨rfl,rfl,rfl⟩:=jJ ec;go_wp2_with fail;refine(XK eN TP.1 gq fM gC).h ?_;rintro r w1⟨qq,mm,dd,rfl,FO,dT1,xk,X⟩;have B1:=ag (ai az X);obtain⟨-,-,Lo,-⟩:=ae HC _ B1;have T1:=ag (hT.T (bH X));have TP1:=ag (TP.T (bH X));go_wp2_with fail;refine br (Um FO eP xk Lo (TG HV.2) BP) λw2 W=>?_;have Z:=ag (ai B1 W);have T2:=ag (T1.T (bH W));have TP2:=ag (TP1.T (bH W));obtain⟨CB,-⟩:=ae HC _ Z;have k5:=CB.1.1 5 _ rfl;have En:=al c0 (ai X W);have z2:=Z.size;by_cases hq:ig D.A=P;{rw[show dD (ig D.A=P)=dY by simp[hq]];have E1:=ag (by have:=ae iM;rwa [aM hq,ae R]at this:ta (ns.take (k+1)) P=M++[Fz D.A]);go_wp2_with fail;refine(dI2 eN TP2.1 HV.2 gq HV.1).h ?_;rintro r w3⟨ql,ml,dl,rfl,eml,fr4,hol,aI⟩;go_wp2_with fail;refine(Ci eml hol.rd af).h ?_;rintro r w4⟨pc,cc,rfl,hoc,cT⟩;have B4:=ag (ai (ai Z aI) cT);have T4:=ag ((T2.T (bH aI)).T (bH cT));have O4:=ag hoc.tb;have z4:=B4.size;go_wp2_with(at_builtin;refine cW8 rfl rfl (v:=.S pv (J M) cv) rfl rfl (TN.T T4 (bH (aD.alloc aA _)) bf) (g:=U w4.heap) rfl (O4.T (bH (aD.alloc aA _))) aj af bq ?_);intro p' c' w5 T5 l9 f5;have bA:Bw w4 (w4.alloc (dO #[.S pc ml cc] 22)):=aD.alloc aA _;have B5:=ag ((ai (ae B4) bA).grown l9 bq (λb' e=>(T4.lt b' e).1));have T5':=ag T5;go_wp2;go_roundw;exact⟨k+1,_,af,by go_num,E1,T5',B5⟩;exact cW};{rw[show dD (ig D.A=P)=dF by simp[hq]];have E1:=ag (by have:=ae iM;rwa [aL hq,ae R]at this:ta (ns.take (k+1)) P=M);go_wp2;go_roundw;exact⟨k+1,M,af,by go_num,E1,T2,Z⟩;exact cW}};{have cL:=fq k m;have e1:=ae R;rw[lY (by rw[ae em];omega),ae eL]at e1;subst e1;go_wp2;go_ret;exact⟨_,_,rfl,RT.h hT (aK (ae Z0)),BW⟩}}
def QB(w:G)(b:Nat)(st op rs i:List dV):Prop:=BX w b st/\aQ w (b+1) op/\BX w (b+1+1) rs/\RX w (b+1+1+1) i
def QB.W{st op rs m:List dV}(h:QB w' b st op rs m)(i:∀j,b<=j->j<b+4->w''.heap[j]?=w'.heap[j]?):QB w'' b st op rs m:=
 ⟨h.1.de (i _ af af),h.2.1.de (i _ af af),h.2.2.1.de (i _ af af),h.2.2.2.de (i _ af af)⟩
def dt2(hc:aQ w b [o0,o1,o2,o3,o4,o5,o6,o7]):aQ (nw w b v0 v1 v2 v3 v4 v5 v6 v7) b [v0,v1,v2,v3,v4,v5,v6,v7]:=
 (((((((hc.db 0 aj v0).db 1 aj v1).db 2 aj v2).db 3 aj v3).db 4 aj v4).db 5 aj v5).db 6 aj v6).db 7 aj v7
def ak2(i:b'≠b):(nw w b v0 v1 v2 v3 v4 v5 v6 v7).heap[b']?=w.heap[b']?:=by
 unfold nw;rw[fT _ _ _ _ (show b'≠_ from i),fT _ _ _ _ (show b'≠_ from i),Fg i]
def bU7(h:∃cur,w.heap[b]?=dO cur ty):(∃cur,(nw w b v0 v1 v2 v3 v4 v5 v6 v7).heap[b]?=dO cur ty)/\Fr [ty] w (nw w b v0 v1 v2 v3 v4 v5 v6 v7):=by
 have o:=ak3 h (v0:=v0) (v1:=v1) (v2:=v2) (v3:=v3) (v4:=v4) (v5:=v5);have m:=nW (j:=6) (u:=v6) o;have i:=nW (j:=7) (u:=v7) m.1;obtain⟨cur,q⟩:=h;exact⟨i.1,((vx q).Z m.2).Z i.2⟩
def QB.fin{st op:List dV}{Z X W V S R N M:dV}(h:QB w b st op [o0,o1,o2,o3,o4,o5] [Z,X,W,V,S,R,N,M])(j:Nat)(u v0 v1 v2 v3 v4 v5 y x s r q o m i:dV):Fr [41,47] w (nw (gu (w.setCell (Ad b j) u) (b+1+1) v0 v1 v2 v3 v4 v5) (b+1+1+1) y x s r q o m i)/\Below b w (nw (gu (w.setCell (Ad b j) u) (b+1+1) v0 v1 v2 v3 v4 v5) (b+1+1+1) y x s r q o m i):=by
 have E:=(nW (j:=j) (u:=u) h.1.2).2;have h2:BX (w.setCell (Ad b j) u) (b+1+1) _:=h.2.2.1.WA af;have D:Fr [41] (w.setCell (Ad b j) u) (gu (w.setCell (Ad b j) u) (b+1+1) v0 v1 v2 v3 v4 v5):=by obtain⟨-,cur,ht⟩:=h2;exact vx ht
 have f3:=(((h.2.2.2.T E).T D).put y x s r q o m i).2;exact⟨(E.sub aj).Z ((D.sub aj).Z (f3.sub aj)),(((aR b w).setCell (p:=(Ad b j)) aA u).Z ((tR _ _ _ _ _ _ _).h af)).Z ((tQ).h af)⟩
theorem eA6(en:Le ss n)(em:Le ns m){S:Int}{V:LI}(eP:Le P np)(eV:Le V nv)(hS:O (eh B w (.S p n c) ss Qs))(hN:O (jK B w (.S q m d) ns))(hP:O (Rd w (.S pp np cp) P))(hV:O (Rd w (.S pq nv cv) V))(hB:B<=U w.heap)(hm:Mg m)(hp:np<=1048576)(X:nv<=1048576)(fM:np<=cp)(gC:cp<=maxLen)(cQ:O (aC P/\∀nd∈ns,aC nd.A)){R:SD×RP}(eR:O (IY ⟨e,g,x,t,ss,ns⟩ P V S F=R)):dQ dG 105 #[bS e g x t (.S p n c) (.S q m d),qZ K S (.S pp np cp) F (.S pq nv cv) E iG] w λr w'=>QR B w w' r R.1 R.2:=by
 let⟨W0,cI,b0,z0,C0⟩:=xu w (.U e) (.U g) (.U x) (.I t) (.S p n c) (.S q m d);obtain⟨W1,fx,b1,z1,C1,-⟩:=bQ W0 #[.I K,.U S,.S pp np cp,.I F,.S pq nv cv,.U E,.U iG] 65;let⟨W2,fE,b2,z2,C2⟩:=Al W1;let⟨W3,jI,y,z3,C3⟩:=xt W2 (.I 0) (.U 0) (.U 0) (.U 0) (.I 0) aO aO aO;rw[z0]at C1 z1;rw[z1]at C2 z2;rw[z2]at C3 z3;have LQ:QB W3 (U w.heap) _ _ _ _:=⟨((C0.H b1).H b2).H y,(C1.H af b2).H af y,C2.H y,C3⟩;have bW:=ai (ai (ai b0 b1) b2) y;have HA:=ag (λ(v:G)(X:Below (U W3.heap) W3 v)=>aF (QB.W LQ (λj h1 h2=>X.block j af)) (aF (hS.T (bH (ai bW X))) (aF (dh.T hN (bH (ai bW X))) (aF (hP.H (ai bW X)) (aF (hV.H (ai bW X)) (ai bW X))))));have hR:=ae eR;unfold IY at hR;have HR:=ag hR;go_in;go_wp2_with fail;rw[<-cI,<-fx,<-fE,<-jI];refine(aY9 em eP (dh.Tx (ae HA W3 aD).2.2.1) (ae HA W3 aD).2.2.2.1 hm af cQ).h ?_;rintro r w1⟨hr,au⟩;have jr:=ag au;have JA:=au.size;obtain⟨k,nd,rfl,hkm,hk,lx⟩|⟨rfl,ij⟩:=hr;{have Z:=ae HR;simp only[lx,Option.isSome_some,od]at Z;have E9:=ag Z;have xZ:=gm 0 k;go_wp2_with fail;obtain⟨LW,SW,NW,-,-,BW⟩:=ae HA w1 jr;exact rq 2 4 5 15 16 6 results105 LW.1 LW.2.2.1 LW.2.2.2 en em SW NW (Fr.H BW) (BW.h hB) hB E9};{
 have Z:=ae HR;simp only[ij,cb9,JT,yT]at Z;have E8:=ag Z;have xZ:¬((0:Int)<=-1):=af;let⟨C,eC⟩:=cG (nQ ns (ig P));go_wp2_with fail;let⟨W,dr⟩:=aG w1.drew;have cR:Below (U W3.heap) W3 W:=ai (ae jr) (by rw[dr];exact aD.drew);have BA:=ag cR;have SS:=ag (λ(v:G)(X:Below (U W3.heap) W3 v)=>aF (ae HA v X).1.1.Ww ((ae HA v X).1.2.1.1 2 _ rfl));refine fk (λw'=>(I w' (Aw w 0)=dU e/\I w' (Aw w 1)=dU g/\I w' (Aw w 2)=dU x/\I w' (Aw w 3)=dI t/\I w' (Aw w 4)=dS p n c/\I w' (Aw w 5)=dS q m d)/\I w' (Ax w 2)=dS pp np cp) (by rw[<-dr];exact ae SS W cR) λhS=>?_;rw[<-dr]at hS⊢;refine fO 0 1 hS ?_;refine tn 2 hS ?_;refine ew 3 λKK hK=>?_;refine jg (XK eP (ae HA W BA).2.2.2.1 hp fM gC) ?_;rintro r v1⟨qq,mm,dd,rfl,FO,dT1,xk,ay⟩;refine⟨_,rfl,?_⟩;have B1:=ag (ai BA ay);refine bL hK (by exact SS v1 B1) λhS=>?_;refine ew 4 λKK hK=>?_;refine wD (ao8 em FO (dh.Tx (ae HA v1 B1).2.2.1) xk hm af (ag ⟨TG cQ.1,cQ.2⟩) eC) ?_;rintro r v2⟨rfl,ay⟩;refine⟨_,rfl,?_⟩;have B2:=ag (ai B1 ay);refine bL hK (by exact SS v2 B2) λhS=>?_;refine tn 5 hS ?_;refine fy ?_;have LD:=B2.size;have Z:=ae E8;simp only[ae eC]at Z;cases C;{simp only[od]at Z;have E9:=ag Z;go_wp2_with fail;obtain⟨LW,SW,NW,-,-,BW⟩:=ae HA v2 B2;exact rq 2 4 5 23 24 7 results105 LW.1 LW.2.2.1 LW.2.2.2 en em SW NW (Fr.H BW) (BW.h hB) hB E9};{
 have Nd:=ae em;simp only[Bool.true_eq_false,yT,Nd]at Z;clear Nd;have k5:=(ae SS v2 B2).1.2.2.2.2.2;by_cases ct7:200<=m;{rw[aM ct7]at Z;have E9:=ag Z;have eh8:=gm 200 m;clear Z E8;go_wp2_with fail;obtain⟨LW,SW,NW,-,-,BW⟩:=ae HA v2 B2;exact rq 2 4 5 29 30 11 results105 LW.1 LW.2.2.1 LW.2.2.2 en em SW NW (Fr.H BW) (BW.h hB) hB E9};{
 rw[aL ct7]at Z;have E9:=ag Z;have eh8:¬(200:Int)<=(m:Int):=af;clear Z E8;go_wp2_with fail;clear k5;let⟨W,dr⟩:=aG v2.drew;have cR:Below (U W3.heap) W3 W:=ai (ae B2) (by rw[dr];exact aD.drew);have BA:=ag cR;have zA:=cR.size;have BR:=ag (aR (U W.heap) W);have SA:=ag (λ(v:G)(X:Below (U W.heap) W v)=>aF ((ae HA v (ai (ae BA) X)).1.2.1.1 2 _ rfl) ((ae HA v (ai (ae BA) X)).1.2.1.1 4 _ rfl));have RW:=ag (λ(v:G)(X:Below (U W.heap) W v)=>aF (ae HA v (ai (ae BA) X)).2.2.2.1 (ae HA v (ai (ae BA) X)).2.2.2.2.1)
 go_cut[6](λbv wc=>∃bz pa ca pb cb,bv=Pz bz/\O (U W.heap<=bz)/\O (bz<U wc.heap)/\O (aQ wc bz [.S pa np ca,.S pb nv cb,.U 0,.I 0,aq,.U 0,.U 0,aq])/\O (∃cur,wc.heap[bz]?=dO cur 141)/\O (TC B wc (.S pa np ca) P)/\O (TC B wc (.S pb nv cb) V)/\O (Below (U W.heap) W wc))
 case first=>(
 refine fk (λw'=>I w' (Ax w 2)=dS pp np cp/\I w' (Ax w 4)=dS pq nv cv) (by rw[<-dr];exact ae SA W BR) λhS=>?_;rw[<-dr]at hS⊢;clear dr cR;let⟨v,hvv⟩:=aG W;have BV:O (Below (U W.heap) W v):=by rw[hvv];exact ae BR
 rw[<-hvv]at hS⊢;clear hvv;refine iC 0 1 3 4 hS ?_
 iterate 3 (
  all_goals(first|refine vE 2 (λKK hK=>?_)|refine vE 5 (λKK hK=>?_)|refine vE 7 (λKK hK=>?_)|refine AE 2 7 (λKK hK=>?_) (λKK hK=>?_)|refine AE 5 7 (λKK hK=>?_) (λKK hK=>?_))
  all_goals(first
   |(
    refine Tag.go 2 (jg (Ci eP (ae RW _ BV).1 af) ?_);rintro r v'⟨pa,ca,rfl,o,hb⟩;refine⟨_,rfl,?_⟩;have OA:=ag (o.tc (B:=B) (aK BV.size));clear o)
   |(
    refine Tag.go 5 (jg (Ci eV (ae RW _ BV).2 af) ?_);rintro r v'⟨pb,cb,rfl,o,hb⟩;refine⟨_,rfl,?_⟩;have OB:=ag (o.tc (B:=B) (aK BV.size));have T6:=iq;clear o)
   |(
    refine Tag.go 7 ?_;go_simp;let⟨v',hZ,hb,z9,CZ0,CT0⟩:=bQ v #[aq,aq,.U 0,.I 0,aq,.U 0,.U 0,aq] 141;rw[<-hZ];have fw:=ag (show U W.heap<=U v.heap from BV.size);let⟨bz,ebz⟩:=aG (U v.heap);rw[<-ebz]at CZ0 CT0 fw⊢;have D:=du (by omega:bz<U v'.heap) CZ0 (⟨_,CT0⟩:∃cur,v'.heap[bz]?=dO cur 141);clear hZ CZ0 CT0 ebz z9))
  all_goals(
   have zb:=hb.size
   try have OA:=ag (OA.T (bH hb))
   try have OB:=ag (OB.T (bH hb))
   try have D:=du (ku D.1 zb) (D.2.1.H D.1 hb) (D.2.2.imp λcur hc=>(hb.block _ D.1).Z hc)
   have BV:=ag (BV.Z (hb.h BV.size));refine bL hK (by exact SA _ BV) λhS=>?_;clear hK KK hb zb
   try(
    clear T6;refine tk 6 hS (h:=?_);simp only[Act.put,xa,xb,xc])
   rename G=>v
   skip))
 all_goals(
  refine ew 8 (λKK hK=>?_);obtain⟨c0,c1,c2,c3,c4,c5,c6,c7,cf⟩:_/\_/\_/\_/\_/\_/\_/\_/\_:=⟨D.2.1.1 0 _ rfl,D.2.1.1 1 _ rfl,D.2.1.1 2 _ rfl,D.2.1.1 3 _ rfl,D.2.1.1 4 _ rfl,D.2.1.1 5 _ rfl,D.2.1.1 6 _ rfl,D.2.1.1 7 _ rfl,D.2.1.2⟩;go_simp;let⟨iY,hY⟩:=aG (nw v bz (.S pa np ca) (.S pb nv cb) (.U 0) (.I 0) aq (.U 0) (.U 0) aq);have NY:=ag (dt2 D.2.1 (v0:=.S pa np ca) (v1:=.S pb nv cb) (v2:=.U 0) (v3:=.I 0) (v4:=aq) (v5:=.U 0) (v6:=.U 0) (v7:=aq));have bY:=tQ (w:=v) (b:=bz) (v0:=.S pa np ca) (v1:=.S pb nv cb) (v2:=.U 0) (v3:=.I 0) (v4:=aq) (v5:=.U 0) (v6:=.U 0) (v7:=aq);rw[<-hY]at NY bY;let⟨TY,FY⟩:=bU7 (v0:=.S pa np ca) (v1:=.S pb nv cb) (v2:=.U 0) (v3:=.I 0) (v4:=aq) (v5:=.U 0) (v6:=.U 0) (v7:=aq) D.2.2;rw[<-hY]at TY FY;unfold nw gu at hY;rw[<-hY];have BY:=ag (BV.Z (bY.h fw));refine hK.out _ _ (by exact SA iY BY) (λhS=>?_);clear hK KK hY c0 c1 c2 c3 c4 c5 c6 c7 cf;refine fy ?_;clear hS;go_wp2_with fail;go_meet;exact⟨bz,pa,ca,pb,cb,rfl,fw,ag (ku D.1 bY.size),NY,TY,ag (OA.T FY),ag (OB.T FY),BY⟩))
 case rest=>(
 obtain⟨bz,pa,ca,pb,cb,rfl,fw,fI,D,CT,OA,OB,BC⟩:=hcut;have zC:=BC.size;have ba6:=ae fI;have dO8:=ae fw;obtain⟨M,eO⟩:∃M,O ((if F=1 then S else 0)=M):=⟨_,rfl⟩;have Z:=ae E9;rw[ae eO]at Z;have E7:=ag Z;clear Z E9;have o1:=(ae HA wc (ai BA BC)).1.2.1.1 1 _ rfl;have o3:=(ae HA wc (ai BA BC)).1.2.1.1 3 _ rfl;have n2:=D.1 2 _ rfl;have nf:=D.2
 go_upto_if 40 with fail
 go_cut[](λwd=>O (aQ wd bz [.S pa np ca,.S pb nv cb,.U M,.I 0,aq,.U 0,.U 0,aq])/\O (∃cur,wd.heap[bz]?=dO cur 141)/\O (TC B wd (.S pa np ca) P)/\O (TC B wd (.S pb nv cb) V)/\O (Below (U W.heap) W wd)/\O (bz<U wd.heap))
 case first=>(
 by_cases hF:F=1;{
 have hF':(F==1):=by simp[hF]
 obtain rfl:M=S:=by rw[<-ae eO,aM hF]
 clear hF;go_wp2_with fail;go_meet;have ts:=nW (j:=2) (u:=.U M) CT;exact⟨ag (D.db 2 aj (.U M)),ts.1,ag (OA.T ts.2),ag (OB.T ts.2),ag (BC.setCell (p:=(Ad bz 2)) dO8 _),bq⟩};{
 have hF':(F==1)=dF:=by simp[hF]
 obtain rfl:M=0:=by rw[<-ae eO,aL hF]
 clear hF;go_wp2_with fail;go_meet;exact⟨D,CT,OA,OB,BC,fI⟩})
 case rest=>(
 obtain⟨wd,rfl⟩:=aG wc;clear D CT OA OB BC fI ba6 zC o1 o3 n2 nf;obtain⟨D,-,OA,OB,BC,fI⟩:=hcut;have ba6:=ae fI;have zD:=BC.size;have BD:=ag (ai BA BC);have HD:=ag (λ(v:G)(X:Below (U wd.heap) wd v)=>aF (ae HA v (ai (ae BD) X)) (aF (D.H ba6 X) (aF (OA.T (bH X)) (OB.T (bH X)))));clear D OA OB BC HA SA RW;go_wp2_with fail
 go_loopw[7,8,9](λov dv iv wr=>∃(j:Nat)(L:List ar)(dn:Bool)(nl:Nat)(po:OA)(co:Nat),j<=m/\iv=.I j/\dv=.bool dn/\ov=.S po nl co/\Le L nl/\O (Ih (ns.take j) (qm P V M)=(L,dn))/\O (dh B (U wd.heap) wr (.S po nl co) L)/\O (Below (U wd.heap) wd wr)) (λ_ _ iv _=>m-(intOf iv).toNat)
 exact⟨0,[],dF,0,dN,0,cO _,rfl,rfl,rfl,rfl,cM,RT.nil _ _ _ _ _,aR _ _⟩;{
 obtain⟨j,L,dn,nl,po,co,hj,rfl,rfl,rfl,ik,hL,ho,az⟩:=hrel;have zr:=az.size;have rQ:nl<4194300:=by have h1:=cf6 (qm P V M) (ns.take j) ([],dF);have h2:=J3 j ns;have h3:=ae hL;unfold Ih at h3;rw[h3,ae ik]at h1;simp only[yS]at h1;omega
 have s5:=(ae HD wr az).1.1.1.1.1 5 _ rfl;by_cases aH:j<m;{
 have cL:=bM j m;obtain⟨x0,hx⟩:∃x0,ns[j]?=Y x0:=⟨_,bD (by rw[ae em];exact aH)⟩;have bj:=dL9 (nd:=(qm P V M)) hx;rw[ae hL]at bj;have iM:=ag bj;obtain⟨gn,Pv,Vv,Hv,Uv,rfl,-,-,c0,c1,c2,c3,c4,c5,c6,c7,tP,tV,tH,tU,-⟩:=dh.at (ae HD wr az).1.2.2.1 hx;obtain⟨pP,cP,rfl⟩:=tP.dy;obtain⟨pV,cV,rfl⟩:=tV.dy;obtain⟨pH,cH,rfl⟩:=tH.dy;obtain⟨pU,cU,rfl⟩:=tU.dy;have TT:=gI tP tV tH tU;have CC:=bG c0 (aF c1 (aF c2 (aF c3 (aF c4 (aF c5 (aF c6 c7))))));have HX0:=ag hx;let⟨T,eT⟩:=cG (!dn&&Mj P x0.A);clear bj hx tP tV tH tU c0 c1 c2 c3 c4 c5 c6 c7;go_wp2_with fail;clear s5
 go_cut[65](λrv wc=>rv=.bool T/\O (Below (U wr.heap) wr wc))
 case first=>(
 refine Xg ?_;let⟨vB,hvB⟩:=aG wr.drew;have ya:=lG hvB;have BB:=ag ya;have hD:=ae HD vB (ai az ya);refine am4 (S:=λw'=>I w' (Aw w 5)=dK gn m d/\I w' (Ad gn (j*8))=dS pP (J x0.A) cP/\I w' (Ad bz 0)=dS pa np ca/\Rd w' (.S pP (J x0.A) cP) x0.A/\Rd w' (.S pa np ca) P) aU (by rw[<-hvB];exact⟨hD.1.1.1.1.1 5 _ rfl,al CC.1 ya,hD.2.1.1 0 _ rfl,TT.1.1.H ya,hD.2.2.1.1⟩) (λhS=>?_);rw[<-hvB]at hS⊢;clear hvB ya hD;cases dn;{
 have Lp:O ((!Op.bytesLess (aZ x0.A).toList (aZ P).toList&&!(aZ x0.A).toList==(aZ P).toList)=T):=eT;refine iR 0 1 2 3 4 5 6 7 hS ?_;refine tn 8 hS ?_;refine Hy (i:=9) (oi:=_) (v:=?_) (by simp only[sV,uA,uz];rfl) aU aU aU (λ_ _ _ h=>h) (Or.L ⟨aS,?_⟩) hS ?_;rotate_left;{(intro w' mw;(try dsimp only at mw);have hcv:=tK rfl mw.2.2.2.1;go_simp;try with_reducible rfl)}
 simp only[Act.put,xa,xb,xc];refine fO 10 11 hS ?_;refine Hy (i:=12) (oi:=_) (v:=?_) (by simp only[sV,uA,uz];rfl) aU aU aU (λ_ _ _ h=>h) (Or.L ⟨aS,?_⟩) hS ?_;rotate_left;{(intro w' mw;(try dsimp only at mw);have hcv:=tK eP mw.2.2.2.2;go_simp;try with_reducible rfl)}
 simp only[Act.put,xa,xb,xc];refine Hy (i:=13) (oi:=_) (v:=?_) (by simp only[sV,uA,uz];rfl) aU aU aU (λ_ _ _ h=>h) (Or.L ⟨aS,?_⟩) hS ?_;rotate_left;{(intro w' mw;(try dsimp only at mw);have hle:=ae Lp;go_simp;try with_reducible rfl)}
 simp only[Act.put,xa,xb,xc];refine tn 14 hS ?_;refine fy ?_;clear hS;go_wp2_with fail;go_meet;exact⟨rfl,BB⟩};{obtain rfl:T=dF:=eT.C;refine fO 0 1 hS ?_;refine tn 2 hS ?_;refine kr 3 4 5 6 hS ?_;refine kr 7 8 9 10 hS ?_;refine sn 11 hS ?_;refine sn 12 hS ?_;refine sn 13 hS ?_;refine tn 14 hS ?_;refine fy ?_;clear hS;go_wp2_with fail;go_meet;exact⟨rfl,BB⟩})
 case rest=>(
 obtain⟨wx,rfl⟩:=aG wc;obtain⟨rfl,hbx⟩:=hcut;have mH:=ag (ai az hbx);have VO:=ag (dh.T ho (bH hbx));have zx:=hbx.size;clear TT CC ho;have s5:=(ae HD wx mH).1.1.1.1.1 5 _ rfl;cases T;{have E1:=ag (by have:=ae iM;rw[vM,aL (λh=>by obtain⟨ha,hb⟩:=h;have h2:=ae eT;rw[show dn=dF from ha,show Mj P x0.A=dY from hb]at h2;cases h2)]at this;exact this:Ih (ns.take (j+1)) (qm P V M)=(L++[x0],dn));obtain⟨U9,Pv,Vv,Hv,Uv,eg,-,-,c0,c1,c2,c3,c4,c5,c6,c7,tP,tV,tH,tU,-⟩:=dh.at (ae HD wx mH).1.2.2.1 HX0;obtain⟨rfl,-⟩:=Ao eg;obtain⟨pP,cP,rfl⟩:=tP.dy;obtain⟨pV,cV,rfl⟩:=tV.dy;obtain⟨pH,cH,rfl⟩:=tH.dy;obtain⟨pU,cU,rfl⟩:=tU.dy;have TT:=gI tP tV tH tU;clear tP tV tH tU;let⟨v8,xh⟩:=aG (wx.alloc (dO #[.S pP (J x0.A) cP,.S pV (J x0.V) cV,.U x0.D,.I x0.M,.S pH (J x0.y) cH,.U x0.P,.U x0.F,.S pU (J x0.X) cU] 141));have y:=gF xh;have Bz:=du (dh.T VO (bH y)) (show yk B v8 x0 [.S pP (J x0.A) cP,.S pV (J x0.V) cV,.U x0.D,.I x0.M,.S pH (J x0.y) cH,.U x0.P,.U x0.F,.S pU (J x0.X) cU]from⟨_,_,_,_,rfl,TC.T TT.1 (bH y),TC.T TT.2.1 (bH y),TU.T TT.2.2.1 (bH y),TU.T TT.2.2.2 (bH y)⟩) (show aQ v8 (U wx.heap) _ by rw[xh];exact aQ.alloc _ _ _);have Mw:=ag λb e=>(VO.lt b e).1;have Nt:=ag y;have z38:=y.size;have zw8:=mH.size;clear y;go_wp2_with(at_builtin;rw[<-xh];refine Wc rfl rfl (.S po nl co) ik rfl Bz.1 (U wx.heap) rfl Bz.2.1 Bz.2.2.1 af af ?_);intro p8 c8 w8 o2 dt _;rw[<-xh]at dt;have b8:=ag ((ai mH Nt).grown dt af Mw);have O8:=ag o2;clear dt o2 xh Bz Mw Nt c0 c1 c2 c3 c4 c5 c6 c7 s5;go_wp2;go_roundw;exact⟨j+1,_,dn,nl+1,_,_,af,by go_num,rfl,rfl,ag (by rw[dm,ae ik];rfl),E1,O8,b8⟩;exact cW};{
 have hdn:dn=dF/\Mj P x0.A:=by have:=ae eT;cases dn<;>simp_all
 obtain⟨rfl,DY⟩:=hdn;have E1:=ag (by have:=ae iM;rw[vM,aM ⟨rfl,DY⟩]at this;exact this:Ih (ns.take (j+1)) (qm P V M)=(L++[(qm P V M)]++[x0],dY));clear DY;have D:=ag (ae HD wx mH).2.1;let⟨n0,n1,n2,n3,n4,n5,n6,n7⟩:=Nx D.1;let⟨v8,xh⟩:=aG (wx.alloc (dO #[.S pa np ca,.S pb nv cb,.U M,.I 0,aq,.U 0,.U 0,aq] 141));have y:=gF xh;have Bz:=du (dh.T VO (bH y)) (show yk B v8 (qm P V M) [.S pa np ca,.S pb nv cb,.U M,.I 0,aq,.U 0,.U 0,aq]from⟨_,_,_,_,rfl,TC.T (ae HD wx mH).2.2.1 (bH y),TC.T (ae HD wx mH).2.2.2 (bH y),TU.nil _,TU.nil _⟩) (show aQ v8 (U wx.heap) _ by rw[xh];exact aQ.alloc _ _ _);have Mw:=ag λb e=>(VO.lt b e).1;have Nt:=ag y;have z38:=y.size;have zw8:=mH.size;clear y;go_wp2_with(at_builtin;rw[<-xh];refine Wc rfl rfl (.S po nl co) ik rfl Bz.1 (U wx.heap) rfl Bz.2.1 Bz.2.2.1 af af ?_);intro p8 c8 w8 o2 dt _;rw[<-xh]at dt;have b8:=ag ((ai mH Nt).grown dt af Mw);have O8:=ag o2;clear dt o2 xh Bz Mw Nt n0 n1 n2 n3 n4 n5 n6 n7 s5 D;have cy9:=ag (by rw[dm,ae ik];rfl:J (L++[(qm P V M)])=nl+1);have s5:=(ae HD w8 b8).1.1.1.1.1 5 _ rfl;obtain⟨U9,Pv,Vv,Hv,Uv,eg,-,-,c0,c1,c2,c3,c4,c5,c6,c7,tP,tV,tH,tU,-⟩:=dh.at (ae HD w8 b8).1.2.2.1 HX0;obtain⟨rfl,-⟩:=Ao eg;obtain⟨pP,cP,rfl⟩:=tP.dy;obtain⟨pV,cV,rfl⟩:=tV.dy;obtain⟨pH,cH,rfl⟩:=tH.dy;obtain⟨pU,cU,rfl⟩:=tU.dy;have TT:=gI tP tV tH tU;clear tP tV tH tU;let⟨v9,XX⟩:=aG (w8.alloc (dO #[.S pP (J x0.A) cP,.S pV (J x0.V) cV,.U x0.D,.I x0.M,.S pH (J x0.y) cH,.U x0.P,.U x0.F,.S pU (J x0.X) cU] 141));have y:=gF XX;have HX9:=du (dh.T O8 (bH y)) (show yk B v9 x0 [.S pP (J x0.A) cP,.S pV (J x0.V) cV,.U x0.D,.I x0.M,.S pH (J x0.y) cH,.U x0.P,.U x0.F,.S pU (J x0.X) cU]from⟨_,_,_,_,rfl,TC.T TT.1 (bH y),TC.T TT.2.1 (bH y),TU.T TT.2.2.1 (bH y),TU.T TT.2.2.2 (bH y)⟩) (show aQ v9 (U w8.heap) _ by rw[XX];exact aQ.alloc _ _ _);have ck8:=ag λb e=>(O8.lt b e).1;have b39:=ag y;have z39:=y.size;have zw9:=b8.size;clear y;go_wp2_with(at_builtin;rw[<-XX];refine Wc rfl rfl (.S p8 (nl+1) c8) cy9 rfl HX9.1 (U w8.heap) rfl HX9.2.1 HX9.2.2.1 af af ?_);intro p9 c9 w9 o2 dt _;rw[<-XX]at dt;have b9:=ag ((ai b8 b39).grown dt af ck8);have O9:=ag o2;clear dt o2 XX HX9 ck8 b39 c0 c1 c2 c3 c4 c5 c6 c7 s5;go_wp2;go_roundw;exact⟨j+1,_,dY,nl+1+1,_,_,af,by go_num,rfl,rfl,ag (by rw[dm,ae cy9];rfl),E1,ag (by rw[uD];exact ae O9),b9⟩
 case measure=>simp[intOf];omega})}
 {
 have cL:=fq j m;have e1:=ae hL;rw[lY (by rw[ae em];omega)]at e1;have e2:=dM0 ns (qm P V M);rw[e1]at e2;have E2:=ag e2;let⟨N,eN⟩:=cG (J (qt (qm P V M) ns));clear e1 e2
 go_upto_if 79 with fail
 clear s5
 go_cut[7](λov wc=>∃p' c',ov=.S p' N c'/\O (dh B (U wd.heap) wc (.S p' N c') (qt (qm P V M) ns))/\O (Below (U wd.heap) wd wc))
 case first=>(
 cases dn;{
 have e2:L++[(qm P V M)]=qt (qm P V M) ns:=ae E2;have Ej:nl+1=N:=by rw[<-ae eN,<-e2,dm,ae ik];rfl
 have EN:=bG e2 Ej;clear e2 Ej;have D:=ag (ae HD wr az).2.1;let⟨n0,n1,n2,n3,n4,n5,n6,n7⟩:=Nx D.1;let⟨v8,xh⟩:=aG (wr.alloc (dO #[.S pa np ca,.S pb nv cb,.U M,.I 0,aq,.U 0,.U 0,aq] 141));have y:=gF xh;have Bz:=du (dh.T ho (bH y)) (show yk B v8 (qm P V M) [.S pa np ca,.S pb nv cb,.U M,.I 0,aq,.U 0,.U 0,aq]from⟨_,_,_,_,rfl,TC.T (ae HD wr az).2.2.1 (bH y),TC.T (ae HD wr az).2.2.2 (bH y),TU.nil _,TU.nil _⟩) (show aQ v8 (U wr.heap) _ by rw[xh];exact aQ.alloc _ _ _);have Mw:=ag λb e=>(ho.lt b e).1;have Nt:=ag y;have z38:=y.size;have zw8:=az.size;clear y;go_wp2_with(at_builtin;rw[<-xh];refine Wc rfl rfl (.S po nl co) ik rfl Bz.1 (U wr.heap) rfl Bz.2.1 Bz.2.2.1 af af ?_);intro p8 c8 w8 o2 dt _;rw[<-xh]at dt;have b8:=ag ((ai az Nt).grown dt af Mw);have O8:=ag o2;clear dt o2 xh Bz Mw Nt n0 n1 n2 n3 n4 n5 n6 n7 D;go_wp2_with fail;go_meet;have o8:=ae O8;rw[EN.2,EN.1]at o8;exact⟨p8,c8,by rw[EN.2],o8,b8⟩};{
 have e2:L=qt (qm P V M) ns:=ae E2;have Ej:nl=N:=by rw[<-ae eN,<-e2,ae ik]
 go_wp2_with fail;go_meet;have o8:=ae ho;rw[Ej,e2]at o8;exact⟨po,co,rfl,o8,az⟩})
 case rest=>(
 obtain⟨wy,rfl⟩:=aG wc;obtain⟨p',c',rfl,NY,BY⟩:=hcut;obtain⟨LW,SW,-,-,-,BW⟩:=(ae HD wy BY).1;let⟨k0,k1,k2,k3,k4,k5,kf⟩:=LW.1.cells;let⟨q0,q1,q2,q3,q4,q5,qf⟩:=LW.2.2.1.cells;let⟨r0,r1,r2,r3,r4,r5,r6,r7,rf⟩:=LW.2.2.2.cells;let⟨fF,bF⟩:=LW.fin 5 (.S p' N c') (.U e) (.U g) (.U x) (.I t) (.S p n c) (.S p' N c') (.I 0) (.U 0) (.U 0) (.U 0) (.I 0) aO aO aO;have HF:=gI fF bF SW BW;have zB:=BW.size;clear LW SW BW fF bF;go_wp2;refine cg (v:=dT #[bS e g x t (.S p n c) (.S p' N c'),gG 0 0 0 0 0 aO aO aO]) (by simp[results,results105,go_sem,k0,k1,k2,k3,k4,k5,q0,q1,q2,q3,q4,q5,r0,r1,r2,r3,r4,r5,r6,r7]) rfl ?_;rw[<-ae E7];exact QR.num en eN HF.2.2.1 (RT.h NY af) (Fr.H HF.2.2.2) (HF.2.2.2.h hB) HF.1 HF.2.1 hB 0 0 0 0 0)}}))}}}
end Go.Proofs.YtdloolggnjjfoaaGreatDoor
