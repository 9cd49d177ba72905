import Derived.Test.YthlkmijffhhimaaGreatDoorK4
open Array renaming setIfInBounds->jI,size->U
open Bool renaming false->dF,true->dY
open Decidable renaming decide->dD
open Go renaming undef->jQ,Calls->dQ,Value->dV,World->G
open Go.Ending renaming returned->dR
open Go.IntKind renaming u64->jU,i64->jV,wrap->jY
open Go.Obj renaming cells->dO
open Go.Proofs.Tryz renaming prog->dG
open Go.RowKit renaming Hid->O
open Go.Value renaming ownBlock->jB,slice->jC,bool->jO,agg->jP,I->dI,T->dK,S->dS,tuple->dT,U->dU
open Go.World renaming alloc->jA,frozen?->jF,grownBy->jG,heap->Q,setCell->jS,cell?->I
open Int renaming toNat->jN
open List renaming drop->jD,getD->jE,take->jT,eraseIdx->jX,length->J
open Option renaming none->dN,some->Y
namespace Go.Proofs.YthlkmijffhhimaaGreatDoor
set_option maxHeartbeats 25600000
set_option linter.all false
set_option maxRecDepth 100000
open Go.ChangeShapes Go.WideShapes Go.ChangeAt Go.RowKit Go.Proofs.Tryz
def Fc(j m:Bool)(o q vs:Int)(i:Bool)(s f:Int)(np nv:Nat)(e g:Int):Bool:=
 (j||s==0)&&((m||np==0)&&(dD (o<=f)&&(dD (f<=q)&&(dD ((nv:Int)<=vs)&&(i||(e==0&&g==0))))))
variable {k s f e g lo hi vs x t iG K F E:Int}{w w' wr w1 w'':G}{p q pp pq:OA}{n m c d i j B' b b' t2 t3 b1 b2 np cp nv cv:Nat}{B se pa sq jo:Bool}{ss:List aB}{Qs rs rp:List dV}{v o0 o1 o2 o3 o4 o5 u v0 v1 v2 v3 v4 v5 v' v6 v7 r0 r1 r2 r3 r4 r5 r6 r7 s0 s1 s2 s3 s4 s5 p0 p1 p2 p3 p4 p5 p6 p7:dV}{l P V:LI}{ns:List au}{nd:au}{cur:iA}{D:SD}{o:Oper}{ops:iQ}{rest:List Oper}{a:Act}{ps:String}{fn:Func}{md:Region.Mode}{S:iP}{listed:Array Bool}{A5 A6:Array Edge}{ls L:List LI}{ty:TypeId}{r:Ending}
theorem dQ9(h:1<=k/\k<=13):dQ dG 104 #[.I k] w λe w'=>e=dR (jO (dD (k=2\/k=3\/k=4\/k=5\/k=7\/k=8\/k=9\/k=10\/k=11\/k=12)))/\w'=w:=by
 have:k=1\/k=2\/k=3\/k=4\/k=5\/k=6\/k=7\/k=8\/k=9\/k=10\/k=11\/k=12\/k=13:=by omega
 obtain rfl|rfl|rfl|rfl|rfl|rfl|rfl|rfl|rfl|rfl|rfl|rfl|rfl:=this
 all_goals(go_in;go_wp2;go_ret;exact⟨rfl,rfl⟩)
theorem dR0(h:1<=k/\k<=13):dQ dG 163 #[.I k] w λe w'=>e=dR (jO (dD (k=4\/k=5\/k=6\/k=7\/k=8\/k=9\/k=10\/k=11\/k=13)))/\w'=w:=by
 have:k=1\/k=2\/k=3\/k=4\/k=5\/k=6\/k=7\/k=8\/k=9\/k=10\/k=11\/k=12\/k=13:=by omega
 obtain rfl|rfl|rfl|rfl|rfl|rfl|rfl|rfl|rfl|rfl|rfl|rfl|rfl:=this
 all_goals(go_in;go_wp2;go_ret;exact⟨rfl,rfl⟩)
theorem dQ8(h:1<=k/\k<=13):dQ dG 57 #[.I k] w λe w'=>e=dR (jO (dD (k=1\/k=3\/k=4\/k=5\/k=7\/k=8\/k=9)))/\w'=w:=by
 have:k=1\/k=2\/k=3\/k=4\/k=5\/k=6\/k=7\/k=8\/k=9\/k=10\/k=11\/k=12\/k=13:=by omega
 obtain rfl|rfl|rfl|rfl|rfl|rfl|rfl|rfl|rfl|rfl|rfl|rfl|rfl:=this
 all_goals(go_in;go_wp2;go_ret;exact⟨rfl,rfl⟩)
theorem z0(s:Int):s=0\/(s != 0):=(LR (s=0)).imp id (λh=>by simp[h])
theorem zn(n:Nat):n=0\/((n:Int) != 0):=(LR (n=0)).imp id (λh=>by simp[h])
theorem zf(a f:Int):f=a\/(f==a)=dF:=(LR (f=a)).imp id (λh=>by simp[h])
def rowOf:Nat->Bool×Bool×Int×Int×Int×Bool×Bool
 |1=>(dF,dF,0,0,0,dF,dY)
 |2=>(dY,dF,0,0,0,dF,dF)
 |3=>(dY,dF,0,0,0,dF,dY)
 |4=>(dY,dY,0,1,40,dF,dY)
 |5=>(dY,dY,0,0,0,dF,dY)
 |6=>(dF,dY,0,0,0,dF,dF)
 |7=>(dY,dY,0,0,40,dF,dY)
 |8=>(dY,dY,1,2,0,dF,dY)
 |9=>(dY,dY,0,0,0,dF,dY)
 |10=>(dY,dY,0,0,0,dY,dF)
 |11=>(dY,dY,0,0,0,dF,dF)
 |12=>(dY,dF,0,0,0,dF,dF)
 |13=>(dF,dY,0,0,0,dF,dF)
 |_=>(dF,dF,0,0,0,dF,dF)
def qt(k:Nat)(s f:Int)(n m:Nat)(e g:Int):Bool:=Fc (rowOf k).1 (rowOf k).2.1 (rowOf k).2.2.1 (rowOf k).2.2.2.1 (rowOf k).2.2.2.2.1 (rowOf k).2.2.2.2.2.1 s f n m e g
def Ah(k:Nat):Bool:=(rowOf k).2.2.2.2.2.2
theorem kinds{k:Nat}(j:1<=k)(i:k<=13):k=1\/k=2\/k=3\/k=4\/k=5\/k=6\/k=7\/k=8\/k=9\/k=10\/k=11\/k=12\/k=13:=by omega
theorem ew0(h1:1<=k)(h2:k<=13)(u:O (qt (jN k) s f n m e g=B)):dQ dG 101 #[mG k s (.S p n c) f (.S q m d) e g] w (Rb (jO B) w):=by
 have:k=1\/k=2\/k=3\/k=4\/k=5\/k=6\/k=7\/k=8\/k=9\/k=10\/k=11\/k=12\/k=13:=by omega
 clear h1 h2;obtain rfl|rfl|rfl|rfl|rfl|rfl|rfl|rfl|rfl|rfl|rfl|rfl|rfl:=this;obtain rfl|x:=z0 s;obtain rfl|o:=zn n;obtain rfl|he:=z0 e;obtain rfl|j:=z0 g;obtain rfl|i:=zn m;obtain rfl|hf:=zf 0 f;rotate_left 7;obtain rfl|o:=zn n;obtain rfl|he:=z0 e;obtain rfl|j:=z0 g;obtain rfl|i:=zn m;obtain rfl|hf:=zf 0 f;rotate_left 6;obtain rfl|o:=zn n;obtain rfl|he:=z0 e;obtain rfl|j:=z0 g;obtain rfl|i:=zn m;obtain rfl|hf:=zf 0 f;rotate_left 6;obtain rfl|he:=z0 e;obtain rfl|j:=z0 g;obtain i|i:=(LR ((40:Int)<(m:Int))).C;obtain rfl|hf:=zf 0 f;rotate_left;obtain rfl|y:=zf 1 f;rotate_left 5;obtain rfl|he:=z0 e;obtain rfl|j:=z0 g;obtain rfl|i:=zn m;obtain rfl|hf:=zf 0 f;rotate_left 5;obtain rfl|x:=z0 s;obtain rfl|he:=z0 e;obtain rfl|j:=z0 g;obtain rfl|i:=zn m;obtain rfl|hf:=zf 0 f;rotate_left 6;obtain rfl|he:=z0 e;obtain rfl|j:=z0 g;obtain i|i:=(LR ((40:Int)<(m:Int))).C;obtain rfl|hf:=zf 0 f;rotate_left 5;obtain rfl|he:=z0 e;obtain rfl|j:=z0 g;obtain rfl|i:=zn m;obtain rfl|hf:=zf 1 f;rotate_left;obtain rfl|y:=zf 2 f;rotate_left 5;obtain rfl|he:=z0 e;obtain rfl|j:=z0 g;obtain rfl|i:=zn m;obtain rfl|hf:=zf 0 f;rotate_left 5;obtain rfl|i:=zn m;obtain rfl|hf:=zf 0 f;rotate_left 3;obtain rfl|he:=z0 e;obtain rfl|j:=z0 g;obtain rfl|i:=zn m;obtain rfl|hf:=zf 0 f;rotate_left 5;obtain rfl|o:=zn n;obtain rfl|he:=z0 e;obtain rfl|j:=z0 g;obtain rfl|i:=zn m;obtain rfl|hf:=zf 0 f;rotate_left 6;obtain rfl|x:=z0 s;obtain rfl|he:=z0 e;obtain rfl|j:=z0 g;obtain rfl|i:=zn m;obtain rfl|hf:=zf 0 f;rotate_left 6
 all_goals(cases B<;>first|(exfalso;have h:=ae u;clear u;simp_all[qt,Fc,rowOf]<;>omega)|clear u)
 all_goals(go_in;go_wp21;refine(dQ9 bf).h ?_;rintro r w'⟨rfl,rfl⟩;(try(go_wp21;refine(dR0 bf).h ?_;rintro r w'⟨rfl,rfl⟩));go_wp2;go_ret;exact⟨rfl,db.alloc aU _⟩)
theorem cD5(i:k<1\/13<k):dQ dG 101 #[mG k s (.S p n c) f (.S q m d) e g] w (Rb (jO dF) w):=by
 obtain r|o:=i;{go_in;exact aV};{have j:¬k<1:=af;go_in;exact aV}
abbrev ew5(se pa:Bool)(lo hi vs:Int)(sq jo:Bool):dV:=jP #[jO se,jO pa,.I lo,.I hi,.I vs,jO sq,jO jo]
theorem zs(i:Bool)(s:Int):i=dY\/(i=dF/\s=0)\/(i=dF/\(s==0)=dF):=by
 cases i;{exact .R ((zf 0 s).imp (⟨rfl,·⟩) (⟨rfl,·⟩))};{exact .L rfl}
theorem zp(i:Bool)(n:Nat):i=dY\/(i=dF/\n=0)\/(i=dF/\((n:Int)==0)=dF):=by
 obtain h|⟨h,j⟩|h:=zs i n;{exact .L h};{exact .R (.L ⟨h,af⟩)};{exact .R (.R h)}
theorem ew8(i:O (Fc se pa lo hi vs sq s f n m e g=B)):dQ dG 243 #[ew5 se pa lo hi vs sq jo,mG k s (.S p n c) f (.S q m d) e g] w (Rb (jO B) w):=by
 obtain rfl|⟨rfl,rfl⟩|⟨rfl,dd⟩:=zs se s
 all_goals(first|(have x:=dd;clear x)|obtain rfl|⟨rfl,rfl⟩|⟨rfl,dd⟩:=zp pa n)
 all_goals(first|(have x:=dd;clear x)|obtain u|dd:=LR (lo<=f))
 all_goals(first|(have x:=dd;clear x)|obtain r|dd:=LR (f<=hi))
 all_goals(first|(have x:=dd;clear x)|obtain o|dd:=LR ((m:Int)<=vs))
 all_goals(first|(have x:=dd;clear x)|obtain rfl|⟨rfl,rfl⟩|⟨rfl,dd⟩:=zs sq e)
 all_goals(first|(have x:=dd;clear x)|obtain rfl|j:=zf 0 g)
 all_goals(cases B<;>first|(exfalso;have h:=ae i;clear i;simp_all[Fc]<;>omega)|clear i)
 all_goals(go_in;go_wp2;go_ret;exact⟨rfl,(db.alloc aU _).alloc al _⟩)
abbrev KE(w:G)(iG o:Nat)(se pa:Bool)(lo hi vs:Int)(sq jo:Bool):Prop:=I w (Ad iG o)=Y (jO se)/\I w (Ad iG (o+1))=Y (jO pa)/\I w (Ad iG (o+2))=dI lo/\I w (Ad iG (o+3))=dI hi/\I w (Ad iG (o+4))=dI vs/\I w (Ad iG (o+5))=Y (jO sq)/\I w (Ad iG (o+6))=Y (jO jo)
theorem KE.H{iG o:Nat}(h:KE w iG o se pa lo hi vs sq jo)(i:Bw w w'):KE w' iG o se pa lo hi vs sq jo:=
 ⟨aq h.1 i,aq h.2.1 i,aq h.2.2.1 i,aq h.2.2.2.1 i,aq h.2.2.2.2.1 i,aq h.2.2.2.2.2.1 i,aq h.2.2.2.2.2.2 i⟩
variable {k:Nat}
theorem aN3(X:1<=k)(V:k<=13)(E:KE w 0 (k*7) se pa lo hi vs sq jo)(R:O (Fc se pa lo hi vs sq s f n m e g=B)):dQ dG 206 #[mG k s (.S p n c) f (.S q m d) e g] w (Rb (jO B) w):=by
 have h1:=gS 1 k;let⟨h2,h3⟩:(k:Int)<=13/\(k:Int)<14:=af;have Z:=gS 0 k;go_in
 go_wp21
 let⟨W,i⟩:=aF (jA w (dO #[.I k,.U s,.S p n c,.I f,.S q m d,.U e,.U g] 54));have r:=ir i;have o:iR W (U (Q w)) (.I k) (.U s) (.S p n c) (.I f) (.S q m d) (.U e) (.U g):=by rw[i];simp[iR,go_sem]
 have x:=E.H r;rw[<-i];clear i E
 go_region_held3 (λD=>iR D (U (Q w)) (.I k) (.U s) (.S p n c) (.I f) (.S q m d) (.U e) (.U g)/\KE D 0 (k*7) se pa lo hi vs sq jo) (first|exact⟨o,x⟩|exact⟨y,M⟩)
  (first|(go_at_call 243;refine cL (ew8 R) λN u=>?_;have j:Bw W N:=(by first|exact u|exact aj (bD (U (Q W)) W).drew u);have y:=o.H j;have M:=x.H j))
 have b1:=aj r j;clear o x y M u j r;exact aV
theorem bP9{k:Int}(y:k<1\/13<k):dQ dG 206 #[mG k s (.S p n c) f (.S q m d) e g] w (Rb (jO dF) w):=by
 have i:∀o:Obj,Bw w (jA w o):=λo=>cY;by_cases B:k<1;{
 have x:¬(1:Int)<=k:=af;have u:dD ((1:Int)<=k)=dF:=by simp;omega
 go_in
 go_wp21
 go_region
 all_goals(
  go_wp2;go_ret;exact⟨rfl,by first|exact i _|exact(i _).drew⟩)}
 {
 let⟨x,r⟩:(1:Int)<=k/\¬k<=13:=af;have j:dD (k<=(13:Int))=dF:=by simp;omega
 go_in
 go_wp21
 go_region
 all_goals(
  go_wp2;go_ret;exact⟨rfl,by first|exact i _|exact(i _).drew⟩)}
variable {s:aB}{B:Nat}
theorem fh.at(h:fh B w (.S p n c) ss Qs)(q:ss[i]?=s):∃g j,p=(Ad g 0)/\n=J ss/\n<=c/\Qs[i]?=Y j/\I w (Ad g (i*3))=dU s.1/\I w (Ad g (i*3+1))=dI s.2.1/\I w (Ad g (i*3+2))=Y j/\nF B w j s.2.2/\∀o,jF w (Ad g o)=dF:=by
 have D:=(bH.1 q).1;obtain⟨j,r⟩:∃j,Qs[i]?=Y j:=⟨_,bN (h.len▸D)⟩;have x:(ss.zip Qs)[i]?=Y (s,j):=by rw[N8];exact⟨q,r⟩
 have y:J (ss.zip Qs)=J ss:=by rw[VN,h.len];simp
 obtain⟨E,M,e,hc,-,u⟩:=h.row.form;rw[y]at e hc u;obtain⟨rfl,rfl,rfl⟩:=mh e;obtain⟨g,rfl⟩:=u af;obtain⟨cs,-,he,m,hf⟩:=RT.at h.row x;unfold Fh at he;subst he;exact⟨g,j,rfl,rfl,hc,r,m 0 _ rfl,m 1 _ rfl,m 2 _ rfl,h.vD i s j q r,hf⟩
def mj(ss:List aB)(id:Int):Int:=match ss.findIdx? (λs=>s.1==id)with
 |some i=>i
 |none=>-1
theorem dv4{id:Int}(h:ss[j]?=Y s)(r:s.1=id)(o:∀(i:Nat)(s':aB),i<j->ss[i]?=s'->¬s'.1=id):mj ss id=j:=by
 have m:=(bH.1 h);have:ss.findIdx? (λs=>s.1==id)=j:=by rw[Oe];refine⟨m.1,by rw[m.2];simp[r],λi u=>?_⟩;have:=o i _ u (bN (aM m.1));simpa using this
 rw[mj,this]
theorem dv2{id:Int}(j:∀(i:Nat)(s':aB),ss[i]?=s'->¬s'.1=id):mj ss id=-1:=by
 have:ss.findIdx? (λs=>s.1==id)=dN:=by rw[av0];intro x m;let⟨i,o⟩:=lh.1 m;simpa using j i x o
 rw[mj,this]
theorem dt5(M:Le ss n){id:Int}(hS:O (fh B w (.S p n c) ss Qs))(hn:Mg n):dQ dG 103 #[cO e g x t (.S p n c) (.S q m d),.U id] w (Rb (.I (mj ss id)) w):=by
 let⟨W0,N,V,z0,X,T0⟩:=cR w #[.U e,.U g,.U x,.I t,.S p n c,.S q m d] 44;let⟨R,HC⟩:=aQ V X;clear V X T0;go_in;go_wp2;rw[<-N];clear N
 go_loopw[5](λZ wr=>∃j:Nat,j<=n/\Z=.I j/\O (∀(i:Nat)(o:aB),i<j->ss[i]?=Y o->¬o.1=id)/\O (Bw W0 wr)) (pT n)
 exact⟨0,de _,rfl,(λi o h=>absurd h af),bD _ _⟩;{
 obtain⟨j,hj,rfl,y,u⟩:=hrel;have s4:=(HC.H af u).1 4 _ rfl;by_cases aH:j<n;{
 have dm:=cM j n;obtain⟨s,D⟩:∃s,ss[j]?=Y s:=⟨_,bN (ae M▸aH)⟩;have r:Bw w wr:=aj R u;obtain⟨gs,iZ,rfl,-,-,-,c0,-⟩:=fh.at (hS.T (cG r)) D;let⟨HB,W⟩:=aQ r D;clear D r;obtain⟨iI,iJ,K⟩:=s;by_cases he:iI=id;{subst he;go_wp2;go_ret;refine⟨?_,HB⟩;rw[dv4 (ae W) rfl (ae y)];rfl};{
 have E:O (∀(i:Nat)(o:aB),i<j+1->ss[i]?=Y o->¬o.1=id):=λi o hi h=>by by_cases e2:i=j;{subst e2;rw[ae W]at h;cases h;exact he};{exact y i o af h}
 go_wp2;go_roundw;exact⟨j+1,af,by go_num,E,u⟩;exact dy}};{have dm:=ga j n;go_wp2;go_ret;exact⟨by rw[(dv2 (λi o h=>ae y i o (by have:=(bH.1 h).1;rw[ae M]at this;omega) h))];rfl,ae (aj R u)⟩}}
theorem qJ.tu(h:qJ B w v l)(q:B'<=B):TU B' w v l:=by
 refine⟨h.1.rdu,?_,h.2,?_⟩;{intro b e;obtain⟨rfl,-⟩|⟨g,j,i,rfl,-,m,-⟩:=h.1.2;{simp[jB]at e};{simp only[jB,oK]at e;subst e;exact⟨i,m⟩}};{intro b e;obtain⟨rfl,-⟩|⟨g,j,i,rfl,o,-⟩:=h.1.2;{simp[jB]at e};{simp only[jB,oK]at e;subst e;exact gq q o}}
theorem du.QW{m:Nat}{g cap:Nat}{o:au}(h:du m B w (.T g n cap) (ns.set k nd))(r:ns[k]?=o)(s:j<8)(u:dV)(nd':au)(q:∀w' P V H iU,TC m w' P nd.A->TC m w' V nd.V->TU m w' H nd.y->TU m w' iU nd.X->Fr [149] w w'->AE m w' nd' ([P,V,.U nd.D,.I nd.M,H,.U nd.P,.U nd.F,iU].set j u)):du m B (jS w (Ad g (k*8+j)) u) (.T g n cap) (ns.set k nd')/\Fr [149] w (jS w (Ad g (k*8+j)) u):=by
 have:=du.put h (i:=k) (nd:=nd) (by rw[vG];simp[(bH.1 r).1]) s u nd' q;rwa [VS]at this
theorem aD3{T:List TypeId}(hF:Fr T w wr)(u:Below B w wr)(x:U (Q w)<=b)(y:B<=U (Q w))(j:wr.heap[b]?=dO cur 44)(v0 v1 v2 v3 v4 v5:dV):Fr T w (gL wr b v0 v1 v2 v3 v4 v5)/\Below B w (gL wr b v0 v1 v2 v3 v4 v5)/\Fr [44] wr (gL wr b v0 v1 v2 v3 v4 v5):=by
 have i:=vE (w:=wr) b v0 v1 v2 v3 v4 v5;exact⟨⟨gq hF.1 i.size,λm cur r s j o=>(i.block m (aM (uS o))).Z (hF.2 m cur r s j o)⟩,u.Z (i.h af),xB j⟩
theorem bz8{id:Int}(i:D.N[k]?=nd)(h:nd.y.contains id=dF):kV D k id=D:=by
 unfold kV;rw[i];simp only[h,JB,BK]
theorem cJ9{id:Int}(hk:D.N[k]?=nd)(h:nd.y.contains id)(h2:lZ nd.y id≠[]):kV D k id={D with N:=D.N.set k {nd with y:=lZ nd.y id}}:=by
 unfold kV;rw[hk];simp only[h,qR,aJ h2]
theorem cK1{id:Int}(hk:D.N[k]?=nd)(h:nd.y.contains id)(h2:lZ nd.y id=[]):kV D k id={D with E:=yz D.E nd.X (3,nd.A),N:=D.N.set k {nd with y:=[],M:=0,P:=0,F:=0,X:=[]}}:=by
 unfold kV;rw[hk];simp only[h,qR,aK h2];unfold ly;simp only[vG,(bH.1 hk).1,qR,VS]
theorem cJ8(en:Le ss n){id:Int}(hk:O (ns[k]?=nd))(hS:O (fh B w (.S p n c) ss Qs))(hN:O (ld B w (.S q m d) ns))(hB:B<=U (Q w))(hn:Mg n)(hm:Mg m)(hp:J nd.A<=2^20)(hw:J nd.X<=2^20)(hh:J nd.y<=2^20):dQ dG 165 #[cO e g x t (.S p n c) (.S q m d),.I k,.U id] w λr w'=>r=dR (cO e g x t (.S p n c) (.S q m d))/\(∃uB,fh B w' (.S p n c) (kV ⟨e,g,x,t,ss,ns⟩ k id).E uB)/\ld B w' (.S q m d) (kV ⟨e,g,x,t,ss,ns⟩ k id).N/\Fr [125,148,149] w w'/\Below B w w':=by
 obtain⟨gn,Pv,Vv,Hv,Uv,rfl,em,hmd,-,-,-,-,c4,-,-,-,-,-,tH,-,vx⟩:=du.at hN hk;have hkm:k<m:=by rw[em];exact(bH.1 hk).1
 have ay9:=cM k m;clear em;obtain⟨ph,ch,rfl⟩:=tH.fq;let⟨nh,eH⟩:=cg (J nd.y);rw[ae eH]at hh tH c4;have Gy:gn<U (Q w):=(hN.lt gn rfl).2;have M:=(hN.lt gn rfl).1;let⟨W0,cT,b0,z0,C0,T0⟩:=cR w #[.U e,.U g,.U x,.I t,.S p n c,.T gn m d] 44;let⟨W1,fT,b1,z1,C1,T1⟩:=cR W0 #[.U 0,.U 0,.U 0,.I 0,ay,ay] 44;rw[z0]at C1 T1 z1;have bW:=ai (aj b0 b1);have k4:=λ(ob o2:Obj)=>aq (aq c4 ((bD _ w).alloc aU ob)) (db.alloc aU o2);have HC:=bG (C0.H af b1) C1;have HT:=bG ((b1.block _ af).Z T0) T1;have Fy:=eG (hS.T (cG bW)) (hN.T (cG bW)) (tH.T (cG bW));have fz:=λ(v:G)(hv:Bw W1 v)(o:Nat)=>((aj bW hv).frozen (p:=(Ad gn o)) Gy).Z (vx o);let⟨FZ,XK⟩:=aQ fz c4;clear b0 b1 C0 C1 T0 T1 c4 vx tH fz;go_in
 go_wp21
 rw[<-cT,<-fT];let⟨bo,EU⟩:=cg (nd.y.contains id);refine cL (bf6 eH Fy.2.2.1 hh EU) λw1 az=>?_;have Lb:=az.size;have Z:=bG (HC.1.H af az) (HC.2.H af az);have E:=bG ((az.block _ af).Z HT.1) ((az.block _ af).Z HT.2);have W:=eG (Fy.1.T (cG az)) (Fy.2.1.T (cG az)) (Fy.2.2.T (cG az));have mW:=ai (aj bW az);have c4:=aq XK mW;have FZ1:=ai (λ(v:G)(hv:Bw w1 v)(o:Nat)=>ae FZ v (aj az hv) o);have s5:=Z.1.1 5 _ rfl;cases bo;{let⟨K0,kf⟩:=Z.1;let⟨R0,rf⟩:=Z.2;let⟨k0,k1,k2,k3,k4⟩:=cQ9 K0;let⟨q0,q1,q2,q3,q4,q5⟩:=Cv R0;go_wp2;have f2:=xB (v0:=.U e) (v1:=.U g) (v2:=.U x) (v3:=.I t) (v4:=.S p n c) (v5:=.T gn m d) E.2;have xk:=mW.Z ((vE (w:=w1) (U (Q w)+1) (.U e) (.U g) (.U x) (.I t) (.S p n c) (.T gn m d)).h af);refine cX (v:=cO e g x t (.S p n c) (.T gn m d)) (by simp[results,results165,go_sem,q0,q1,q2,q3,q4,q5]) rfl ?_;rw[bz8 (ae hk) (ae EU)];exact⟨rfl,⟨_,W.1.T f2⟩,W.2.1.T f2,Fr.H xk,xk.h hB⟩};{
 go_wp21
 refine(cl4 eH W.2.2.1 hh).h ?_;rintro r w2⟨pl,cl,rfl,ol,y⟩;let⟨L,eL⟩:=cg (lZ nd.y id);rw[ae eL]at ol;let⟨nl,iq⟩:=cg (J L);rw[ae eL,ae iq];rw[ae iq]at ol;have Ya:=y.size;have DY:=bG (Z.1.H af y) (Z.2.H af y);have u:=bG ((y.block _ af).Z E.1) ((y.block _ af).Z E.2);have Qy:=eG (W.1.T (cG y)) (W.2.1.T (cG y)) (ol.tu (B':=B) (aM mW.size));have oF:=ai (aj mW y);have fz:=ae FZ1 w2 y;have s5:=DY.1.1 5 _ rfl;have Pw:=fz (k*8+4);obtain⟨Tv,P',V',H',U',e',-,-,-,-,-,d3,d4,d5,d6,-⟩:=du.at Qy.2.1 hk;obtain⟨rfl,-⟩:=yr e';let⟨aP,cs0⟩:¬gn=U (Q w)/\¬gn=U (Q w)+1:=af;let⟨N4,F4⟩:=du.put Qy.2.1 hk (j:=4) af (.S pl nl cl) {nd with y:=L} (λw' P V H iU h1 h2 h3 h4 hf=>⟨P,V,.S pl nl cl,iU,rfl,h1,h2,Qy.2.2.T hf,h4⟩);let⟨K0,kf⟩:=DY.1;let⟨R0,rf⟩:=DY.2;let⟨k0,k1,k2,k3,k4⟩:=cQ9 K0;let⟨q0,q1,q2,q3,q4,q5⟩:=Cv R0;by_cases h0:nl=0;{
 subst h0;obtain rfl:L=[]:=uJ.1 iq;let⟨N3,F3⟩:=du.QW N4 hk (j:=3) af (.I 0) {nd with y:=[],M:=0} (λw' P V H iU h1 h2 h3 h4 hf=>⟨P,V,H,iU,rfl,h1,h2,h3,h4⟩);let⟨N5,F5⟩:=du.QW N3 hk (j:=5) af (.U 0) {nd with y:=[],M:=0,P:=0} (λw' P V H iU h1 h2 h3 h4 hf=>⟨P,V,H,iU,rfl,h1,h2,h3,h4⟩);let⟨N6,F6⟩:=du.QW N5 hk (j:=6) af (.U 0) {nd with y:=[],M:=0,P:=0,F:=0} (λw' P V H iU h1 h2 h3 h4 hf=>⟨P,V,H,iU,rfl,h1,h2,h3,h4⟩);let⟨X,hX⟩:=aF (jS (jS (jS (jS w2 (Ad gn (k*8+4)) (.S pl 0 cl)) (Ad gn (k*8+3)) (.I 0)) (Ad gn (k*8+5)) (.U 0)) (Ad gn (k*8+6)) (.U 0));rw[<-hX]at N6 F6;have FX:=ai (((F4.Z F3).Z F5).Z F6);have BX:O (Below B w X):=by rw[hX];exact(((((oF.h hB).setCell (p:=(Ad gn _)) M _).setCell (p:=(Ad gn _)) M _).setCell (p:=(Ad gn _)) M _).setCell (p:=(Ad gn _)) M _)
 have zX:=FX.1;have R:=FX.2 _ _ _ _ bf u.1;have N:=FX.2 _ _ _ _ bf u.2;have HX:=gJ R N (DY.1.dt (R.Z u.1.C)) (DY.2.dt (N.Z u.2.C))
 go_wp21
 rw[<-hX];refine(ap4 e g x t (p:=p) (c:=c) (q:=Y (Ad gn 0)) (m:=m) (d:=d) (Qs:=Qs) en (k:=k) 3 {nd with y:=[],M:=0,P:=0,F:=0} (ai (by rw[vG];simp[(bH.1 (ae hk)).1])) B X (Qy.1.T FX) N6 af hn hm hp hw).h ?_;rintro r w3⟨rfl,⟨Q3,DD⟩,tS,sj,aL⟩;rw[VS]at tS;have t0:=sj.2 _ _ _ _ bf HX.1;have t1:=sj.2 _ _ _ _ bf HX.2.1;have HE:=gJ DD tS (((Fr.H oF:Fr [125,148,149] w w2).Z (FX.sub al)).Z sj) (BX.Z aL);have HT3:=bG t0 t1;obtain⟨K0,kf⟩:=HX.2.2.1.dt (t0.Z HX.1.C);obtain⟨R0,rf⟩:=HX.2.2.2.dt (t1.Z HX.2.1.C);let⟨k0,k1,k2,k3,k4,k5⟩:=Cv K0;let⟨q0,q1,q2,q3,q4,q5⟩:=Cv R0;go_wp2;let⟨fA,bA,gA⟩:=aD3 HE.2.2.1 HE.2.2.2 aU hB HT3.1 (.U e) (.U g) (.U x) (.I t) (.S p n c) (.T gn m d);let⟨fB,bB,gB⟩:=aD3 fA bA (VJ _) hB ((Hp af).Z HT3.2) (.U e) (.U g) (.U x) (.I t) (.S p n c) (.T gn m d);refine cX (v:=cO e g x t (.S p n c) (.T gn m d)) (by simp[results,results165,go_sem,q0,q1,q2,q3,q4,q5]) rfl ?_;rw[cK1 (ae hk) (ae EU) (ae eL)];exact⟨rfl,⟨_,(HE.1.T gA).T gB⟩,(HE.2.1.T gA).T gB,fB,bB⟩};{have Mh:¬((nl:Int)=0):=af;go_wp2;let⟨fB,bB,gB⟩:=aD3 ((Fr.H oF:Fr [125,148,149] w w2).Z (F4.sub al)) ((oF.h hB).setCell (p:=(Ad gn _)) M _) (VJ _) hB (F4.2 _ _ _ _ bf u.2) (.U e) (.U g) (.U x) (.I t) (.S p n c) (.T gn m d);refine cX (v:=cO e g x t (.S p n c) (.T gn m d)) (by simp[results,results165,go_sem,q0,q1,q2,q3,q4,q5]) rfl ?_;rw[cJ9 (ae hk) (ae EU) (by rw[ae eL];intro e;rw[e]at iq;exact h0 iq.C)];refine⟨rfl,⟨_,(Qy.1.T F4).T gB⟩,?_,fB,bB⟩;simp only[ae eL];exact du.T N4 gB}}
def BX(w:G)(b:Nat)(vs:List dV):Prop:=aT w b vs/\∃i,w.heap[b]?=dO i 44
variable {vs:List dV}
theorem BX.T{T:List TypeId}(h:BX w b vs)(hf:Fr T w w')(ht:44∉T:=by decide):BX w' b vs:=by
 obtain⟨h1,cur,h2⟩:=h;have h3:=hf.2 _ _ _ _ ht h2;exact⟨h1.dt (h3.Z h2.C),cur,h3⟩
theorem BX.lt(h:BX w b vs):b<U (Q w):=by
 obtain⟨m,j,i⟩:=h;exact uS i
theorem BX.H(h:BX w b vs)(i:Bw w w'):BX w' b vs:=h.T (cG i) (by simp)
theorem BX.put(h:BX w b [o0,o1,o2,o3,o4,o5])(v0 v1 v2 v3 v4 v5:dV):BX (gL w b v0 v1 v2 v3 v4 v5) b [v0,v1,v2,v3,v4,v5]:=⟨cc5 h.1,as2 h.2⟩
theorem BX.py(h:BX w b' vs)(i:b'≠b)(v0 v1 v2 v3 v4 v5:dV):BX (gL w b v0 v1 v2 v3 v4 v5) b' vs:=⟨as3 h.1 i,h.2.imp λj hc=>(Hp i).Z hc⟩
theorem BX.fin{T:List TypeId}(h:BX wr b vs)(hF:Fr T w wr)(i:Below B w wr)(j:U (Q w)<=b)(m:B<=U (Q w))(v0 v1 v2 v3 v4 v5:dV):Fr T w (gL wr b v0 v1 v2 v3 v4 v5)/\Below B w (gL wr b v0 v1 v2 v3 v4 v5)/\Fr [44] wr (gL wr b v0 v1 v2 v3 v4 v5):=by
 obtain⟨-,q,o⟩:=h;exact aD3 hF i j m o _ _ _ _ _ _
theorem BX.Yy(h:BX w b' vs)(i:b'≠b):BX (jS w (Ad b j) u) b' vs:=⟨h.1.dt (gh _ _ _ _ i),h.2.imp λm hc=>(gh _ _ _ _ i).Z hc⟩
theorem BX.cF3{T:List TypeId}(h:BX wr b vs)(hF:Fr T w wr)(y:Below B w wr)(E:U (Q w)<=b)(M:B<=U (Q w))(u:dV):Fr T w (jS wr (Ad b j) u)/\Below B w (jS wr (Ad b j) u)/\Fr [44] wr (jS wr (Ad b j) u):=by
 have i:Below b wr (jS wr (Ad b j) u):=db.setCell (p:=(Ad b j)) aU _;exact⟨⟨gq hF.1 i.size,λo m s x D r=>(i.block o (aM (uS r))).Z (hF.2 o m s x D r)⟩,y.Z (i.h af),(qL h.2).2⟩
theorem BX.cells(h:BX w b [v0,v1,v2,v3,v4,v5]):I w (Ad b 0)=v0/\I w (Ad b 1)=v1/\I w (Ad b 2)=v2/\I w (Ad b 3)=v3/\I w (Ad b 4)=v4/\I w (Ad b 5)=v5/\∀o,jF w (Ad b o)=dF:=
 ⟨h.1.1 0 _ rfl,h.1.1 1 _ rfl,h.1.1 2 _ rfl,h.1.1 3 _ rfl,h.1.1 4 _ rfl,h.1.1 5 _ rfl,h.1.2⟩
theorem yj(w:G)(v0 v1 v2 v3 v4 v5:dV):∃W,W=jA w (dO #[v0,v1,v2,v3,v4,v5] 44)/\Bw w W/\U (Q W)=U (Q w)+1/\BX W (U (Q w)) [v0,v1,v2,v3,v4,v5]:=by
 let⟨W,q,o,m,j,i⟩:=cR w #[v0,v1,v2,v3,v4,v5] 44;exact⟨W,q,o,m,j,_,i⟩
theorem Cr(w:G):∃W,W=jA w (dO #[.U 0,.U 0,.U 0,.I 0,ay,ay] 44)/\Bw w W/\U (Q W)=U (Q w)+1/\BX W (U (Q w)) [.U 0,.U 0,.U 0,.I 0,ay,ay]:=yj w _ _ _ _ _ _
def NBo(nd:au):Prop:=J nd.A<=2^20/\J nd.X<=2^20/\J nd.y<=2^20
def NB(ns:List au):Prop:=∀i∈ns,NBo i
theorem NB.set(h:NB ns)(j:NBo nd):NB (ns.set k nd):=λx i=>by
 obtain i|rfl:=NU i;{exact h x i};{exact j}
theorem NB.erase(h:NB ns)(k:Nat):NB (jX ns k):=λx i=>h x (N9 i)
theorem aP5(hk:ns[k]?=nd)(kd:Int):ly ⟨e,g,x,t,ss,ns⟩ k kd=⟨e,g,x,t,yz ss nd.X (kd,nd.A),ns.set k {nd with X:=[]}⟩:=by
 unfold ly;simp only[hk]
theorem uV{α:Type}{l:List α}{a:α}(i:l[k]?=a)(b:α):(l.set k b)[k]?=b:=by
 rw[vG,aK rfl,aK (bH.1 i).1]
theorem cK0(hk:ns[k]?=nd)(id:Int):∃m j o,kV ⟨e,g,x,t,ss,ns⟩ k id=⟨e,g,x,t,m,j⟩/\J m=J ss/\J j=J ns/\j[k]?=Y o/\o.D=nd.D/\(NB ns->NB j):=by
 by_cases h:nd.y.contains id=dY;{by_cases h2:lZ nd.y id=[];{exact⟨_,_,_,cK1 hk h h2,Yh _ _ _,qS,uV hk _,rfl,λi=>i.set ⟨(i nd (bq hk)).1,al,al⟩⟩};{exact⟨_,_,_,cJ9 hk h h2,rfl,qS,uV hk _,rfl,λi=>i.set ⟨(i nd (bq hk)).1,(i nd (bq hk)).2.1,gq (Nt) (i nd (bq hk)).2.2⟩⟩}};{exact⟨_,_,_,bz8 hk (by simpa using h),rfl,rfl,hk,rfl,λi=>i⟩}
def tT(id:Int)(nd:au):au:={nd with X:=lZ nd.X id}
def ng(id:Int):Nat->Nat->SD->SD
 |0,_,D=>D
 |f+1,k,D=>match(kV D k id).N[k]? with
  |none=>D
  |some nd=>if nd.D=id then ng id f k (xD (ly (kV D k id) k 2) k)else ng id f (k+1) (kV D k id)
def Ed(id:Int)(ss:List aB):List aB:=ss.filter λs=>!(s.1==id)
def yh(D:SD)(id:Int):SD:={ng id (J D.N) 0 {D with N:=D.N.map (tT id)}with E:=Ed id (ng id (J D.N) 0 {D with N:=D.N.map (tT id)}).E}
theorem eJ9{id:Int}(h:NBo nd):NBo (tT id nd):=⟨h.1,gq (Nt) h.2.1,h.2.2⟩
theorem NB.map(h:NB ns)(id:Int):NB (ns.map (tT id)):=λx j=>by
 obtain⟨y,i,rfl⟩:=fM.1 j;exact eJ9 (h y i)
theorem bP3{iZ:iE}(ik:o.guard=dN){s x:Operand}(ho:o.op=.call {callee:=.builtin .append,args:=#[s,x],argTypes:=#[41,41]}){zs:List (aB×dV)}{z:aB×dV}(ek:Le zs k)(hs:a.eval s=v)(dw:RT Fh 148 3 B w v zs)(g:Nat)(hx:a.eval x=.T g 1 1)(hq:z.2.oneCell')(sV:∀(j:Nat)u,[.U z.1.1,.I z.1.2.1,z.2][j]?=Y u->I w (Ad g j)=Y u)(hk:k<2^22)(hB:B<=U (Q w))(h:∀p' c' w',RT Fh 148 3 B w' (.S p' (k+1) c') (zs++[z])->jG w w' (jB v)->Fr [148] w w'->wpList dG ops iZ rest (a.put o.dst (.S p' (k+1) c')) w'):wpList dG ops iZ (o::rest) a w:=by
 let⟨i,hi,jk,fI,gv⟩:=mJ Tryz.infoSes;have ht:=dw.vW;obtain⟨rs,h1,h2,h3,h4⟩:=dw;rw[ae ek]at h3;refine FO ik 41 ho i 3 underlying41 hi jk fI gv rfl bf v hs h3 g 1 1 _ hx rfl sV (λu hu=>by simp at hu;obtain rfl|rfl|rfl:=hu;rfl;rfl;exact hq) kW af hB ?_;intro v' w' gF hg _;have hf:Fr [148] w w':=Fr.grown hg λb hb=>by let⟨cur,hc⟩:=ht b hb;exact⟨cur,_,hc,al⟩
 have sn:RT Fh 148 3 B w' v' (zs++[z]):=RT.snoc h1 h2 h4 (λ_ _ h=>h) rfl rfl (ae ek▸gF);obtain⟨p',c',rfl,-⟩:=RT.form sn;rw[fe,ae ek]at sn⊢;exact h p' c' w' sn hg hf
theorem fh.filter(h:fh B w v ss Qs)(f:aB->Bool)(hr:RT Fh 148 3 B w v' ((ss.zip Qs).filter λz=>f z.1)):fh B w v' (ss.filter f) (((ss.zip Qs).filter λz=>f z.1).map Prod.snd):=by
 have M:ss.filter f=((ss.zip Qs).filter λz=>f z.1).map Prod.fst:=by
  have:((ss.zip Qs).map Prod.fst)=ss:=by rw[List.map_fst_zip (h.len▸fS _)]
  conv=>lhs;rw[<-this]
  rw[List.filter_map];rfl
 have W:(ss.zip Qs).map Prod.snd=Qs:=by rw[List.map_snd_zip (h.len▸fS _)]
 have N:Qs.Pairwise λq y=>∀b,jB q=Y b->jB y≠Y b:=by rw[H6];intro i j u m R b x;exact h.py i j _ _ b af (bN u) (bN m) x
 have o:(((ss.zip Qs).filter λz=>f z.1).map Prod.snd).Pairwise λq y=>∀b,jB q=Y b->jB y≠Y b:=by rw[<-W]at N;exact N.sublist (List.filter_sublist.map _)
 refine⟨by rw[M];simp,?_,λi s q V r=>?_,λi j q y b R r E x=>?_⟩;{rw[M,<-List.unzip_fst,<-List.unzip_snd,List.zip_unzip];exact hr};{rw[M,qU]at V;rw[qU]at r;obtain⟨z,S,rfl⟩:=Oc.1 V;rw[S]at r;cases r;let⟨j,m⟩:=lh.1 (JL.1 (bq S)).1;rw[N8]at m;exact h.vD j _ _ m.1 m.2};{rw[H6]at o;obtain⟨u,rfl⟩:=bH.1 r;obtain⟨m,rfl⟩:=bH.1 E;obtain D|D:=Nat.lt_or_gt_of_ne R;{exact o i j u m D b x};{exactλe=>o j i m u D b e x}}
theorem ex5{zs:List (aB×dV)}{z:aB×dV}(h:zs[k]?=Y z)(f:aB->Bool):((jT (k+1) zs).filter λz=>f z.1)=if f z.1 then((jT k zs).filter λz=>f z.1)++[z]else(jT k zs).filter λz=>f z.1:=by
 rw[rD,h,av1];by_cases e:f z.1<;>simp[e]
theorem cL8{id:Int}{i:SD}(q:k<m)(o:kV D k id=i)(j:i.N[k]?=nd):ng id (m-k) k D=if nd.D=id then ng id (m-1-k) k (xD (ly i k 2) k)else ng id (m-(k+1)) (k+1) i:=by
 obtain⟨f,hf⟩:∃f,m-k=f+1:=⟨m-k-1,af⟩;rw[hf,ng,o,j,show m-1-k=f by omega,show m-(k+1)=f by omega]
def be7(b:Nat)(w:G):Nat:=match I w (Ad b 5)with
 |some (jC _ m _)=>m
 |_=>0
theorem be6(h:BX w b [v0,v1,v2,v3,v4,.S q m d]):be7 b w=m:=by
 unfold be7;rw[h.1.1 5 _ rfl]
theorem eN9(en:Le ss n)(em:Le ns m){id:Int}(hS:O (fh B w (.S p n c) ss Qs))(hN:O (ld B w (.S q m d) ns))(hNB:O (NB ns))(hB:B<=U (Q w))(hn:Mg n)(hm:Mg m)(eD:O (yh ⟨e,g,x,t,ss,ns⟩ id=D)):dQ dG 105 #[cO e g x t (.S p n c) (.S q m d),.U id] w λr w'=>∃p' c' q' d',r=dR (cO e g x t (.S p' (J D.E) c') (.S q' (J D.N) d'))/\(∃uB,fh B w' (.S p' (J D.E) c') D.E uB)/\ld B w' (.S q' (J D.N) d') D.N/\Fr [125,148,149] w w'/\Below B w w':=by
 let⟨W0,cT,b0,z0,C0⟩:=yj w (.U e) (.U g) (.U x) (.I t) (.S p n c) (.S q m d);let⟨W1,fT,b1,z1,C1⟩:=Cr W0;rw[z0]at C1;have bW:=ai (aj b0 b1);go_in;go_wp2;rw[<-cT,<-fT]
 go_loopw[5](λkv wr=>∃k:Nat,k<=m/\kv=.I k/\U (Q w)+2<=U (Q wr)/\O (ld B wr (.S q m d) (sA (tT id) k ns))/\O (fh B wr (.S p n c) ss Qs)/\O (BX wr (U (Q w)) [.U e,.U g,.U x,.I t,.S p n c,.S q m d]/\BX wr (U (Q w)+1) [.U 0,.U 0,.U 0,.I 0,ay,ay])/\O (Fr [125,148,149] w wr)/\O (Below B w wr)) (pT m)
 exact⟨0,de _,rfl,af,(by show ld _ _ _ _;simpa[sA]using hN.T (cG (ae bW))),hS.T (cG (ae bW)),ae (bG (C0.H b1) C1),Fr.H (ae bW),bW.h hB⟩;{
 obtain⟨k,hk,rfl,zr,Ck,qE,td,mT,ku⟩:=hrel;have s5:=td.1.1.1 5 _ rfl;by_cases aH:k<m;{
 have dm:=cM k m;obtain⟨nd,aI⟩:∃nd,ns[k]?=Y nd:=⟨_,bN (by rw[ae em];exact aH)⟩;have kh:=cF1 (tT id) aI;have E1:=ai (cF0 (tT id) aI);obtain⟨gn,P,V,H,iU,rfl,-,-,-,-,-,-,-,-,-,c7,-,-,-,tU,vx⟩:=du.at Ck kh;obtain⟨pu,cu,rfl⟩:=tU.fq;let⟨nu,eU⟩:=cg (J nd.X);rw[ae eU]at tU c7;have uo:B<=gn:=(Ck.lt gn rfl).1;have Gy:¬U (Q w)=gn:=λe=>by obtain⟨-,cur,h1⟩:=td.1;let⟨GP,h2⟩:=Ck.vW gn rfl;rw[e,h2]at h1;simp at h1
 let⟨vA,br⟩:=aF wr.drew;have bM:=kH br;have zA:=bM.size;let⟨GA,UA⟩:=aQ (λ(v:G)(hv:Bw vA v)=>aE (aq s5 (aj bM hv)) (aE (aq c7 (aj bM hv)) (aE (λo=>((aj bM hv).frozen (p:=(Ad gn o)) ((Ck.lt gn rfl).2)).Z (vx o)) (aj bM hv)))) (tU.T (cG bM))
 go_wp21
 refine fw (λw'=>I w' (Aw w 5)=dK gn m d) (by rw[<-br];exact(ae GA vA db).1) λhS=>?_;rw[<-br]at hS⊢;clear br bM s5;refine gr 0 1 2 3 4 5 6 7 hS ?_;refine tn 9 hS ?_;refine fy 8 λKK hK=>?_;have c7:=(ae GA _ db).2.1;go_simp;refine bS hK ((ae GA _ db).1) λhS=>?_;clear hK KK c7;refine fy 10 λKK hK=>?_;refine uG (cl4 (p:=pu) (c:=cu) (n:=nu) (l:=nd.X) eU (id:=id) (w:=vA) UA.1 (by rw[<-ae eU];exact(ae hNB nd (bq aI)).2.1)) ?_;rintro r v1⟨W,cl,rfl,ol,az⟩;refine fE ?_;let⟨M,iq⟩:=cg (J (lZ nd.X id));rw[ae iq]at ol⊢;let⟨OL,mW⟩:=aQ (ol.tu (B':=B) af) az;refine bS hK ((ae GA v1 az).1) λhS=>?_;clear hK KK ol az;refine fu 11 12 hS ?_;refine fy 13 λKK hK=>?_;let⟨s5,c7,fz,bv⟩:=ae GA v1 mW;have fz7:=fz (k*8+7)
 change O _ at bv
 go_simp;let⟨N2,F2⟩:=du.put (Ck.T (cG bv)) kh (j:=7) af (.S W M cl) (tT id nd) (λw' P V H iU h1 h2 h3 h4 hf=>⟨P,V,H,.S W M cl,rfl,h1,h2,h3,OL.T hf⟩);rw[<-ae E1]at N2;let⟨Z,hZ⟩:=aF (jS v1 (Ad gn (k*8+7)) (.S W M cl));have BZ:Below B w Z:=by rw[hZ];exact(ku.Z (bv.h (aM ku.size))).setCell (p:=(Ad gn _)) uo _
 rw[<-hZ]at N2 F2⊢;have RZ:=eG N2 F2 BZ;have zv:=bv.size;have zZ:U (Q w)+2<=U (Q Z):=aM F2.1;refine bS hK (by exact by rw[hZ];exact(gG (gh _ _ _ _ Gy) _).Z s5) λhS=>?_;clear hK KK hZ N2 F2 BZ s5 c7 fz fz7;refine fQ ?_;clear hS;go_wp2;go_roundw;exact⟨k+1,af,by go_num,zZ,RZ.1,(qE.T (cG (ae bv))).T RZ.2.1,⟨(td.1.H (ae bv)).T RZ.2.1,(td.2.H (ae bv)).T RZ.2.1⟩,(mT.Z (Fr.H (ae bv))).Z (RZ.2.1.sub al),RZ.2.2⟩;exact dy};{
 have dm:=ga k m;have IC:=ae Ck;rw[cF2 _ (by rw[ae em];omega)]at IC;have Fy:=ai IC;clear IC;let⟨DF,eF⟩:=cg (ng id m 0 ⟨e,g,x,t,ss,ns.map (tT id)⟩);have W8:O (D={DF with E:=Ed id DF.E}):=by show _=_;rw[<-ae eD];unfold yh;simp only[ae em];rw[ae eF]
 go_wp2
 go_loopw[6](λkv wr=>∃(k y N:Nat)(qk:OA)(Bt:List aB)(NI:List au)(Qk:List dV),k<=y/\y<=m/\kv=.I k/\U (Q w)+2<=U (Q wr)/\Le Bt n/\Le NI y/\O (NB NI)/\O (ng id (y-k) k ⟨e,g,x,t,Bt,NI⟩=DF)/\O (ld B wr (.S qk y N) NI)/\O (fh B wr (.S p n c) Bt Qk)/\O (BX wr (U (Q w)) [.U e,.U g,.U x,.I t,.S p n c,.S qk y N]/\BX wr (U (Q w)+1) [.U 0,.U 0,.U 0,.I 0,ay,ay])/\O (Fr [125,148,149] w wr)/\O (Below B w wr)) (λkv wr=>be7 (U (Q w)) wr-(jN (intOf kv)))
 exact⟨0,m,d,q,ss,_,Qs,de _,fS _,rfl,zr,en,ai (by rw[iC];exact ae em),ai (hNB.map id),eF,Fy,qE,td,mT,ku⟩;{
 clear Ck qE td mT ku Fy s5 zr hk aH dm;obtain⟨k,y,N,qk,Bt,NI,Qk,hk,hmk,rfl,zr,WT,MG,cz3,eK,Ck,qE,td,mT,ku⟩:=hrel;have hlen:=ai (be6 td.1);have k0:=td.1.cells;by_cases aH:k<y;{
 have dm:=cM k y;obtain⟨nd,aI⟩:∃nd,NI[k]?=Y nd:=⟨_,bN (by rw[ae MG];exact aH)⟩;have hb:=ae cz3 nd (bq aI);let⟨vX,Lp,jh,hd,l1,l2,kh,Wi,bk6⟩:=cK0 (e:=e) (g:=g) (x:=x) (t:=t) (ss:=Bt) aI id;have vR:=ae eK;rw[cL8 aH hd kh]at vR;obtain⟨gn,-,-,-,-,rfl,-,-,-⟩:=du.at Ck aI;have az:=hb.1;have aA:=hb.2.1;have aL:=hb.2.2;have HD:=ai (cJ8 (e:=e) (g:=g) (x:=x) (t:=t) (p:=p) (n:=n) (c:=c) (q:=Y (Ad gn 0)) (m:=y) (d:=N) (ss:=Bt) (Qs:=Qk) (ns:=NI) WT (k:=k) (id:=id) (nd:=nd) (ai aI) (B:=B) (w:=wr) qE Ck af hn af az aA aL);rw[hd]at HD
 go_wp21
 refine HD.h ?_;rintro r w1⟨rfl,⟨Q1,WC⟩,IC,uR,az⟩;let⟨l1,l2,kh,bk6,vR⟩:=ae (nK l1 l2 kh (bk6 (ae cz3)) vR);obtain⟨Tv,-,-,-,-,eg,-,-,-,-,c2,-⟩:=du.at IC kh;obtain⟨rfl,-⟩:=yr eg;have pK:=bG (td.1.T uR) (td.2.T uR);have z1:U (Q w)+2<=U (Q w1):=aM uR.1;have Gy:¬U (Q w)=gn:=λe=>by obtain⟨-,cur,h1⟩:=td.1;let⟨GP,h2⟩:=Ck.vW gn rfl;rw[e,h2]at h1;simp at h1
 have fy0:¬gn=U (Q w):=λe=>Gy e.C;let⟨X,hX⟩:=aF (gL w1 (U (Q w)) (.U e) (.U g) (.U x) (.I t) (.S p n c) (.T gn y N));let⟨fX,bX,gX⟩:=pK.1.fin (mT.Z uR) (ku.Z az) aU hB (.U e) (.U g) (.U x) (.I t) (.S p n c) (.T gn y N);have BXX:=aE (pK.1.put (.U e) (.U g) (.U x) (.I t) (.S p n c) (.T gn y N)) (pK.2.py (b:=U (Q w)) af (.U e) (.U g) (.U x) (.I t) (.S p n c) (.T gn y N));have zX:U (Q X)=U (Q w1):=by rw[hX];exact Vq
 rw[<-hX]at fX bX gX BXX;let⟨SX,NX⟩:=aQ (WC.T gX) (du.T IC gX);have Qt:=eG fX bX BXX;unfold gL at hX;have k0:=pK.1.cells;have KM:=eG l1 l2 bk6;let⟨UJ,EK2⟩:=aQ kh vR;by_cases EJ:jh.D=id;{
 have DL:=ae EK2;rw[aK EJ,aP5 (ae UJ),xD]at DL;have hb:=KM.2.2 jh (bq (ae UJ))
 go_wp21
 rw[<-hX];refine(ap4 e g x t (p:=p) (n:=n) (c:=c) (q:=Y (Ad gn 0)) (m:=y) (d:=N) (ss:=vX) (Qs:=Q1) (ns:=Lp) (ai (KM.1.Z WT)) (k:=k) 2 jh UJ B X SX NX af hn af hb.1 hb.2.1).h ?_;rintro r w2⟨rfl,⟨Q2,ur⟩,rh,Dx,aA⟩;have Hd:=bG (Qt.2.2.1.T Dx) (Qt.2.2.2.T Dx);have z2:U (Q w)+2<=U (Q w2):=aM Dx.1;let⟨iY,hY⟩:=aF (gL w2 (U (Q w)) (.U e) (.U g) (.U x) (.I t) (.S p n c) (.T gn y N));let⟨fY,bY,gY⟩:=Hd.1.fin (Qt.1.Z Dx) (Qt.2.1.Z aA) aU hB (.U e) (.U g) (.U x) (.I t) (.S p n c) (.T gn y N);have UN:=aE (Hd.1.put (.U e) (.U g) (.U x) (.I t) (.S p n c) (.T gn y N)) (Hd.2.py (b:=U (Q w)) af (.U e) (.U g) (.U x) (.I t) (.S p n c) (.T gn y N));have zY:U (Q iY)=U (Q w2):=by rw[hY];exact Vq
 rw[<-hY]at fY bY gY UN;have HYY:=eG fY bY UN;unfold gL at hY;have k0:=Hd.1.cells
 go_wp21
 rw[<-hY];refine(ca0 (e:=e) (g:=g) (x:=x) (t:=t) (p:=p) (n:=n) (c:=c) (q:=Y (Ad gn 0)) (m:=y) (d:=N) (ai (by rw[qS];exact KM.2.1.Z (ae MG))) (k:=k) (B:=B) (w:=iY) (du.T rh gY) af).h ?_;rintro r w3⟨p3,c3,rfl,tS,aL⟩;obtain⟨YW,ag8⟩:∃YW,O (jX (Lp.set k {jh with X:=[]}) k=YW):=⟨_,ai rfl⟩;have be8:O (J YW=y-1):=by show _=_;have h1:=KM.2.1.Z MG;rw[<-ae ag8,Rr,qS,aK af];omega
 rw[ae ag8,ae be8]at tS;rw[ae ag8,ae be8];have EK4:=DL;simp only[ae ag8]at EK4;have No:=bG (HYY.2.2.1.H aL) (HYY.2.2.2.H aL);have z3:=aL.size;let⟨Z,hZ⟩:=aF (gL w3 (U (Q w)) (.U e) (.U g) (.U x) (.I t) (.S p n c) (.S p3 (y-1) c3));let⟨fZ,bZ,gZ⟩:=No.1.fin (HYY.1.Z (Fr.H aL)) (HYY.2.1.Z (aL.h af)) aU hB (.U e) (.U g) (.U x) (.I t) (.S p n c) (.S p3 (y-1) c3);have BXZ:=aE (No.1.put (.U e) (.U g) (.U x) (.I t) (.S p n c) (.S p3 (y-1) c3)) (No.2.py (b:=U (Q w)) af (.U e) (.U g) (.U x) (.I t) (.S p n c) (.S p3 (y-1) c3));have zZ:U (Q Z)=U (Q w3):=by rw[hZ];exact Vq
 rw[<-hZ]at fZ bZ gZ BXZ;have Nc:=eG fZ bZ BXZ;have ea6:O (NB YW):=by show NB _;rw[<-ae ag8];have hb:=KM.2.2 jh (bq (ae UJ));exact(NB.set (nd:={jh with X:=[]}) KM.2.2 ⟨hb.1,de _,hb.2.2⟩).erase k
 unfold gL at hZ;have k0:=No.1.cells;go_wp2;rw[<-hZ];go_roundw;exact⟨k,y-1,c3,p3,_,YW,Q2,af,af,rfl,af,(ai (by rw[Yh];exact KM.1.Z (ae WT))),be8,ea6,EK4,((du.T tS gZ).h (by omega:B<=U (Q iY))),((ur.T gY).T (cG aL)).T gZ,ai Nc.2.2,ai Nc.1,ai Nc.2.1⟩
 case measure=>(
 rw[be6 BXZ.1,ae hlen];simp[intOf];omega)}
 {
 have hee:(jh.D==id)=dF:=by simp[EJ]
 have DL:=ae EK2;rw[aJ EJ]at DL;go_wp2;rw[<-hX];go_roundw;exact⟨k+1,y,N,_,vX,Lp,Q1,af,af,by go_num,af,ai (KM.1.Z WT),ai (KM.2.1.Z MG),ai (KM.2.2),DL,NX,SX,ai Qt.2.2,ai Qt.1,ai Qt.2.1⟩
 case measure=>(
 rw[be6 Qt.2.2.1,ae hlen];simp[intOf];omega)}}
 {
 have dm:=ga k y;have vR:=ae eK;rw[show y-k=0 by omega,ng]at vR;have eD3:O (D=⟨e,g,x,t,Ed id Bt,NI⟩):=by show _=_;rw[ae W8,<-vR]
 obtain⟨W5,eW5⟩:∃W5,O (W5=wr):=⟨_,ai rfl⟩;obtain⟨wz,ewz⟩:∃wz,O (wz=U (Q W5)):=⟨_,ai rfl⟩;have H5:=aE (ae qE) (aE (ae Ck) (aE (ae td) (aE (ae mT) (ae ku))));have z5:=zr;rw[<-ae eW5]at H5 z5;rw[<-ae ewz]at z5;have G5:=ai H5;go_wp2
 go_loopw[7,8](λlv iv w9=>∃(j M cl:Nat)(W:OA)(L:List (aB×dV)),j<=n/\iv=.I j/\lv=.S W M cl/\wz<=U (Q w9)/\Le L M/\O (((jT j (Bt.zip Qk)).filter λz=>!(z.1.1==id))=L)/\O (RT Fh 148 3 wz w9 (.S W M cl) L)/\O (Below wz W5 w9)) (λ_ iv _=>n-(jN (intOf iv)))
 exact⟨0,0,0,dN,[],de _,rfl,rfl,by rw[ae ewz,ae eW5];exact fS _,ai rfl,ai al,RT.nil _ _ _ _ _,(by show Below _ _ _;rw[ae eW5];exact bD _ _)⟩;{
 obtain⟨j,M,cl,W,L,hj,rfl,rfl,z9,iq,hL,hR,km⟩:=hrel;have eh:Bw W5 wr:=by have:=ae km;rwa [ae ewz]at this
 have H9:=gJ (G5.1.T (cG eh)) (G5.2.1.T (cG eh)) (G5.2.2.1.1.H eh) (G5.2.2.1.2.H eh);have XI:=bG (G5.2.2.2.1.Z (Fr.H eh)) (G5.2.2.2.2.Z (eh.h (aM G5.2.2.2.2.size)));have k0:=H9.2.2.1.cells;by_cases aH:j<n;{
 have dm:=cM j n;obtain⟨s,hs⟩:∃s,Bt[j]?=Y s:=⟨_,bN (by rw[ae WT];exact aH)⟩;obtain⟨gs,iZ,rfl,-,-,hQ,c0,c1,c2,sq,-⟩:=fh.at H9.1 hs;obtain⟨pq,cq,rfl,-⟩:=sq.form;have hz:(Bt.zip Qk)[j]?=Y (s,.S pq (J s.2.2) cq):=by rw[N8];exact⟨hs,hQ⟩
 have cK:=ex5 hz (λs=>!(s.1==id));rw[ae hL]at cK;have kJ:=ai cK;have wY:M<2^22:=by have h1:=VO (λz:aB×dV=>!(z.1.1==id)) (jT j (Bt.zip Qk));have h2:=Rt j (Bt.zip Qk);rw[ae hL,ae iq]at h1;omega
 by_cases he:s.1=id;{
 have E1:O (((jT (j+1) (Bt.zip Qk)).filter λz=>!(z.1.1==id))=L):=by have:=ae kJ;show _=_;simpa[he]using this
 go_wp2;go_roundw;exact⟨j+1,M,cl,W,L,af,by go_num,rfl,z9,iq,E1,hR,km⟩;exact dy};{
 have E1:O (((jT (j+1) (Bt.zip Qk)).filter λz=>!(z.1.1==id))=L++[(s,.S pq (J s.2.2) cq)]):=by have:=ae kJ;show _=_;simpa[he]using this
 have hee:(s.1 != id):=by simp[he]
 obtain⟨v3,gM,b3,z3,C3,-⟩:=cR wr #[.U s.1,.I s.2.1,.S pq (J s.2.2) cq] 148;go_wp2_with(at_builtin;rw[<-gM];refine bP3 rfl rfl (B:=wz) (v:=.S W M cl) (zs:=L) (z:=(s,.S pq (J s.2.2) cq)) (k:=M) iq rfl (RT.T hR (cG b3) bf (λ_ _ h=>h)) (U (Q wr)) rfl rfl C3.1 wY af ?_);intro p' c' w' o2 fx _;rw[<-gM]at fx;have b4:=ai ((km.Z (b3.h af)).grown fx af (ai λb e=>(hR.lt b e).1));have z4:=b4.size;go_wp2;go_roundw;exact⟨j+1,M+1,c',p',_,af,by go_num,rfl,aM (ae ewz),ai (by rw[fe,ae iq];rfl),E1,o2,b4⟩;exact dy}};{
 have dm:=ga j n;have hL':=ae hL;rw[nZ (by rw[VN,ae WT];omega)]at hL';let⟨q0,q1,q2,q3,q4,q5,qf⟩:=H9.2.2.2.cells;have SF:=fh.filter (v':=.S W M cl) H9.1 (λs=>!(s.1==id)) (by rw[hL'];exact RT.h (ae hR) af);have lF:J (Ed id Bt)=M:=by have:=SF.len;rw[hL',iC,ae iq]at this;exact this.C
 go_wp2;rw[ae eD3];simp only[lF,ae MG];let⟨fA,bA,gA⟩:=H9.2.2.1.cF3 (j:=4) XI.1 XI.2 aU hB (.S W M cl);let⟨fB,bB,gB⟩:=(H9.2.2.2.Yy (b:=U (Q w)) (j:=4) (u:=.S W M cl) af).fin fA bA (VJ _) hB (.U e) (.U g) (.U x) (.I t) (.S W M cl) (.S qk y N);refine cX (v:=cO e g x t (.S W M cl) (.S qk y N)) (by simp[results,results105,go_sem,q0,q1,q2,q3,q4,q5]) rfl ?_;exact⟨W,cl,qk,N,rfl,⟨_,(SF.T gA).T gB⟩,(H9.2.1.T gA).T gB,fB,bB⟩}}}}}}
abbrev ij(k i e g n:Int)(D N E:dV):dV:=jP #[.I k,.U i,.U e,.U g,.I n,D,N,E]
abbrev aN:dV:=ay
def RX(w:G)(b:Nat)(vs:List dV):Prop:=aT w b vs/\∃i,w.heap[b]?=dO i 50
theorem RX.T{T:List TypeId}(h:RX w b vs)(hf:Fr T w w')(ht:50∉T:=by decide):RX w' b vs:=by
 obtain⟨h1,cur,h2⟩:=h;have h3:=hf.2 _ _ _ _ ht h2;exact⟨h1.dt (h3.Z h2.C),cur,h3⟩
theorem RX.H(h:RX w b vs)(i:Bw w w'):RX w' b vs:=h.T (cG i) (by simp)
def nH(w:G)(b:Nat)(v0 v1 v2 v3 v4 v5 v6 v7:dV):G:=jS (jS (gL w b v0 v1 v2 v3 v4 v5) (Ad b 6) v6) (Ad b 7) v7
theorem rT:Below b w (nH w b v0 v1 v2 v3 v4 v5 v6 v7):=((vE (w:=w) b v0 v1 v2 v3 v4 v5).setCell (p:=(Ad b 6)) aU _).setCell (p:=(Ad b 7)) aU _
theorem RX.put{D B y x s o5 r o7:dV}(h:RX w b [D,B,y,x,s,o5,r,o7])(v0 v1 v2 v3 v4 v5 v6 v7:dV):RX (nH w b v0 v1 v2 v3 v4 v5 v6 v7) b [v0,v1,v2,v3,v4,v5,v6,v7]/\Fr [50] w (nH w b v0 v1 v2 v3 v4 v5 v6 v7):=by
 obtain⟨hc,i,m⟩:=h;have q:=qL (j:=6) (u:=v6) (as2 ⟨i,m⟩ (v0:=v0) (v1:=v1) (v2:=v2) (v3:=v3) (v4:=v4) (v5:=v5));have o:=qL (j:=7) (u:=v7) q.1;exact⟨⟨(((((((hc.ew 0 al v0).ew 1 al v1).ew 2 al v2).ew 3 al v3).ew 4 al v4).ew 5 al v5).ew 6 al v6).ew 7 al v7,o.1⟩,((xB m).Z q.2).Z o.2⟩
theorem RX.cells(h:RX w b [v0,v1,v2,v3,v4,v5,v6,v7]):I w (Ad b 0)=v0/\I w (Ad b 1)=v1/\I w (Ad b 2)=v2/\I w (Ad b 3)=v3/\I w (Ad b 4)=v4/\I w (Ad b 5)=v5/\I w (Ad b 6)=v6/\I w (Ad b 7)=v7/\∀o,jF w (Ad b o)=dF:=
 ⟨h.1.1 0 _ rfl,h.1.1 1 _ rfl,h.1.1 2 _ rfl,h.1.1 3 _ rfl,h.1.1 4 _ rfl,h.1.1 5 _ rfl,h.1.1 6 _ rfl,h.1.1 7 _ rfl,h.1.2⟩
theorem yi(w:G)(v0 v1 v2 v3 v4 v5 v6 v7:dV):∃W,W=jA w (dO #[v0,v1,v2,v3,v4,v5,v6,v7] 50)/\Bw w W/\U (Q W)=U (Q w)+1/\RX W (U (Q w)) [v0,v1,v2,v3,v4,v5,v6,v7]:=by
 let⟨W,q,o,m,j,i⟩:=cR w #[v0,v1,v2,v3,v4,v5,v6,v7] 50;exact⟨W,q,o,m,j,_,i⟩
theorem aw0{k:Int}:dQ dG 22 #[.I k] w (Rb (ij k 0 0 0 0 aN aN aN) w):=by
 go_in;go_wp2;exact cX (v:=ij k 0 0 0 0 aN aN aN) (by simp[results,results22,go_sem]) rfl ⟨rfl,cY⟩
abbrev YL(t1 t2 t3 d1 d2:Nat)(ps:String)(k:Int):iQ:=#[{dst:=Y d1,op:=Op.load 44 (Operand.tmp t1),type:=44,pos:=ps,after:=#[],guard:=dN},
 {dst:=Y d2,op:=Op.call {callee:=Callee.value (Operand.func 22),args:=#[Operand.const (Value.int jV k)],argTypes:=#[3]},type:=50,pos:=ps,after:=#[],guard:=dN},
 {dst:=dN,op:=Op.store 44 (Operand.tmp t2) (Operand.tmp d1),type:=0,pos:=ps,after:=#[{on:=0,ground:=Ground.data},{on:=1,ground:=Ground.chain},{on:=0,ground:=Ground.phase},{on:=1,ground:=Ground.textOnly Departure.lateStoresUnsure}],guard:=dN},
 {dst:=dN,op:=Op.store 50 (Operand.tmp t3) (Operand.tmp d2),type:=0,pos:=ps,after:=#[{on:=1,ground:=Ground.data},{on:=2,ground:=Ground.chain},{on:=0,ground:=Ground.phase},{on:=1,ground:=Ground.phase},{on:=2,ground:=Ground.phase}],guard:=dN}]
theorem aU4(t1:Nat){s j:Nat}{k:Int}{iZ:iE}(V:Nat) (hf:Region.free .any (YL t1 t2 t3 s j ps k) (Array.replicate 4 dF) 0)(e1:a.tmps[t1]?.getD jQ=Pz V)(e2:∀v u,((a.put s v).put j u).tmps[t2]?.getD jQ=Pz b1)(e3:∀v u,((a.put s v).put j u).tmps[s]?.getD jQ=v)(e4:∀v u,((a.put s v).put j u).tmps[t3]?.getD jQ=Pz b2)(e5:∀v u,((a.put s v).put j u).tmps[j]?.getD jQ=u)(h0:BX w V [.U e,.U g,.U x,.I t,.S p n c,.S q m d])(h1:BX w b1 [o0,o1,o2,o3,o4,o5])(h2:RX w b2 [r0,r1,r2,r3,r4,r5,r6,r7])(aP:V≠b1)(rJ:B<=b1)(gu:B<=b2)(h:∀w',BX w' b1 [.U e,.U g,.U x,.I t,.S p n c,.S q m d]->RX w' b2 [.I k,.U 0,.U 0,.U 0,.I 0,aN,aN,aN]->Fr [44,50] w w'->Below B w w'->iZ .normal ((a.put s (cO e g x t (.S p n c) (.S q m d))).put j (ij k 0 0 0 0 aN aN aN)) w'):Code.wp dG (Code.region i (YL t1 t2 t3 s j ps k) dY) iZ a w:=by
 unfold YL at hf⊢;refine VE ?_;have N:Bw w w.drew:=mC;have H0:=eG (h0.H N) (h1.H N) (h2.H N);refine VB (S:=λw'=>BX w' V [.U e,.U g,.U x,.I t,.S p n c,.S q m d]) aS H0.1 (λy=>?_);let⟨vA,br⟩:=aF w.drew;rw[<-br]at y H0 N⊢;clear br;refine JG (i:=0) (oi:=_) (v:=cO e g x t (.S p n c) (.S q m d)) (by simp only[rB,sQ];rfl) aS hf aS (λ_ _ _ h=>h) (Or.L ⟨rfl,?_⟩) y ?_;{intro w' hw;let⟨k0,k1,k2,k3,k4,k5,kf⟩:=hw.cells;go_simp};refine fy 1 λZ hK=>?_;refine ju (aw0) ?_;rintro r v1⟨rfl,W⟩;refine fE (hK.out _ _ (y.H W) (λy=>?_));clear hK Z;have H1:=bG (H0.2.1.H W) (H0.2.2.H W);have B1:=ai (aj N W);clear H0 N W;let⟨a2,qZ⟩:=aF ((a.put s (cO e g x t (.S p n c) (.S q m d))).put j (ij k 0 0 0 0 aN aN aN));refine fy 2 λZ hK=>?_;have e2':=e2 (cO e g x t (.S p n c) (.S q m d)) (ij k 0 0 0 0 aN aN aN);have e3':=e3 (cO e g x t (.S p n c) (.S q m d)) (ij k 0 0 0 0 aN aN aN);have e4':=e4 (cO e g x t (.S p n c) (.S q m d)) (ij k 0 0 0 0 aN aN aN);have e5':=e5 (cO e g x t (.S p n c) (.S q m d)) (ij k 0 0 0 0 aN aN aN);have H2:=h;rw[<-qZ]at e2' e3' e4' e5'⊢;rw[show(a.put s (cO e g x t (.S p n c) (.S q m d))).put j (ij k 0 0 0 0 aN aN aN)=a2 from qZ.C]at H2;clear e1 e2 e3 e4 e5 h qZ;let⟨k0,k1,k2,k3,k4,k5,kf⟩:=H1.1.cells;go_simp;let⟨X,M⟩:=aF (gL v1 b1 (.U e) (.U g) (.U x) (.I t) (.S p n c) (.S q m d));have bX:Below b1 v1 X:=M▸vE _ _ _ _ _ _ _;have pK:BX X b1 [.U e,.U g,.U x,.I t,.S p n c,.S q m d]:=M▸H1.1.put _ _ _ _ _ _;have BX0:BX X V [.U e,.U g,.U x,.I t,.S p n c,.S q m d]:=M▸y.py aP _ _ _ _ _ _;have fX:Fr [44] v1 X:=by obtain⟨-,cur,ht⟩:=H1.1;rw[M];exact xB ht
 have Ql:=H1.2.T fX;unfold gL at M;rw[<-M];refine hK.out _ _ BX0 (λy=>?_);clear hK Z M BX0 k0 k1 k2 k3 k4 k5 kf;refine fy 3 λZ hK=>?_;let⟨k0,k1,k2,k3,k4,k5,k6,k7,kf⟩:=Ql.cells;go_simp;let⟨GZ,fY⟩:=Ql.put (.I k) (.U 0) (.U 0) (.U 0) (.I 0) aN aN aN;have bY:=rT (w:=X) (b:=b2) (v0:=.I k) (v1:=.U 0) (v2:=.U 0) (v3:=.U 0) (v4:=.I 0) (v5:=aN) (v6:=aN) (v7:=aN);let⟨iY,hY⟩:=aF (nH X b2 (.I k) (.U 0) (.U 0) (.U 0) (.I 0) aN aN aN);rw[<-hY]at GZ fY bY;unfold nH gL at hY;rw[<-hY];refine hK.out _ _ (y.T fY) (λy=>?_);clear hK Z hY;refine fQ ?_;exact H2 iY (pK.T fY) GZ ((Fr.H B1).Z ((fX.sub al).Z (fY.sub al))) ((B1.h (aM h1.lt)).Z ((bX.h rJ).Z (bY.h gu)))
structure RP where
 k:Int
 i:Int
 e:Int
 g:Int
 n:Int
 lW:LI
 iB:List LI
 kF:List Ev
def iS:RP:=⟨0,0,0,0,0,[],[],[]⟩
def lD(k:Int):RP:=⟨k,0,0,0,0,[],[],[]⟩
def yE(D:SD):SD×RP:=if 50<=J D.E then(D,lD 11)else if 2^62<=D.x then(D,lD 12)else({D with x:=D.x+1,E:=D.E++[(D.x+1,D.t+10,[])]},{iS with i:=D.x+1,n:=D.t+10})
def eE2(w:G)(l:LI)(c:List dV):Prop:=∃P,c=[P]/\TB w P l
abbrev TN(B:Nat)(w:G)(v:dV)(l:List LI):Prop:=RT eE2 22 1 B w v l
def QR(B:Nat)(w w':G)(r:Ending)(D:SD)(R:RP):Prop:=∃p c q d m j Ev o,r=dR (dT #[cO D.e D.g D.x D.t (.S p (J D.E) c) (.S q (J D.N) d),ij R.k R.i R.e R.g R.n m j Ev])/\fh B w' (.S p (J D.E) c) D.E o/\ld B w' (.S q (J D.N) d) D.N/\TB w' m R.lW/\TN B w' j R.iB/\nF B w' Ev R.kF/\Fr [125,148,149] w w'/\Below B w w'
theorem Fr.low{T:List TypeId}(h:Fr T w w1)(j:Below (U (Q w)) w1 w'):Fr T w w':=⟨gq h.1 j.size,λb i o m q hc=>(j.block b (uS hc)).Z (h.2 b i o m q hc)⟩
theorem QR.num(r:Le ss n)(y:Le ns m)(D:fh B w1 (.S p n c) ss Qs)(E:ld B w1 (.S q m d) ns)(hF:Fr [125,148,149] w w1)(M:Below B w w1)(f:Fr [44,50] w1 w')(b:Below (U (Q w)) w1 w')(j:B<=U (Q w))(k i a h s:Int):QR B w w' (dR (dT #[cO e g x t (.S p n c) (.S q m d),ij k i a h s aN aN aN])) ⟨e,g,x,t,ss,ns⟩ ⟨k,i,a,h,s,[],[],[]⟩:=by
 refine⟨p,c,q,d,aN,aN,aN,Qs,by simp only[ae r,ae y],?_,?_,TB.nil _,RT.nil _ _ _ _ _,RT.nil _ _ _ _ _,hF.low b,M.Z (b.h j)⟩;{simp only[ae r];exact D.T f};{simp only[ae y];exact du.T E f}
theorem fh.ds5(h:fh B w v ss Qs)(hf:Fr [148] w w')(E D:Int)(hr:RT Fh 148 3 B w' v' (ss.zip Qs++[((E,D,[]),aN)])):fh B w' v' (ss++[(E,D,[])]) (Qs++[aN]):=by
 have x:=h.len;refine⟨by simp[x],by rw[List.zip_append x.C];exact hr,λi s r q hq=>?_,λi j r V b N hq m M=>?_⟩;{
 by_cases y:i<J ss;{rw[oI y]at q;rw[oI af]at hq;exact(h.vD i s r q hq).T hf};{
 have S:i=J ss:=by have:=(bH.1 q).1;simp at this;omega
 subst S;rw[qT aU,Ab]at q;rw[qT af,x,Ab]at hq;simp at q hq;subst q hq;exact RT.nil _ _ _ _ _}};{
 by_cases y:i<J Qs;{
 rw[oI y]at hq;by_cases R:j<J Qs;{rw[oI R]at m;exact h.py i j r V b N hq m M};{
 rw[qT af]at m;have e:j-(J Qs)=0:=by have:=(bH.1 m).1;simp at this;omega
 rw[e]at m;simp at m;subst m;simp[jB]}};{
 rw[qT af]at hq;have e:i-(J Qs)=0:=by have:=(bH.1 hq).1;simp at this;omega
 rw[e]at hq;simp at hq;subst hq;simp[jB]at M}}
theorem dy8{tm:iA}(hr:fn.results=#[.cell t2 44,.cell t3 50])(V:tm[t2]?.getD jQ=Pz b1)(S:tm[t3]?.getD jQ=Pz b2)(R:BX w b1 [v0,v1,v2,v3,v4,v5])(N:RX w b2 [r0,r1,r2,r3,r4,r5,r6,r7]):(results fn tm).run dG w=.ok (dT #[jP #[v0,v1,v2,v3,v4,v5],jP #[r0,r1,r2,r3,r4,r5,r6,r7]]) w:=by
 let⟨M,E,D,B,y,x,X⟩:=R.cells;let⟨u,s,r,q,o,m,j,i,W⟩:=N.cells;simp[results,hr,go_sem,V,S,M,E,D,B,y,x,u,s,r,q,o,m,j,i]
theorem rq(t1 t2 t3 d1 d2:Nat)(k:Int)(hrs:fn.results=#[.cell t2 44,.cell t3 50]){i:Nat}{ps:String}{iZ:iE}{a:Act}{w0:G}{b0:Nat}{R:SD×RP}(h0:BX w b0 [.U e,.U g,.U x,.I t,.S p n c,.S q m d])(h1:BX w b1 [o0,o1,o2,o3,o4,o5])(h2:RX w b2 [r0,r1,r2,r3,r4,r5,r6,r7])(en:Le ss n)(em:Le ns m)(hS:fh B w (.S p n c) ss Qs)(hN:ld B w (.S q m d) ns)(hF:Fr [125,148,149] w0 w)(ku:Below B w0 w)(hB:B<=U (Q w0))(E:O ((⟨e,g,x,t,ss,ns⟩,lD k)=R))(aP:b0≠b1:=by omega)(rJ:U (Q w0)<=b1:=by omega)(gu:U (Q w0)<=b2:=by omega)(hd:a.defers=[]:=by rfl)(hf:Region.free .any (YL t1 t2 t3 d1 d2 ps k) (Array.replicate 4 dF) 0:=by kernel_rfl)(e1:a.tmps[t1]?.getD jQ=Pz b0:=by rfl)(e2:∀v u,((a.put d1 v).put d2 u).tmps[t2]?.getD jQ=Pz b1:=by exactλ_ _=>rfl)(e3:∀v u,((a.put d1 v).put d2 u).tmps[d1]?.getD jQ=v:=by exactλ_ _=>rfl)(e4:∀v u,((a.put d1 v).put d2 u).tmps[t3]?.getD jQ=Pz b2:=by exactλ_ _=>rfl)(e5:∀v u,((a.put d1 v).put d2 u).tmps[d2]?.getD jQ=u:=by exactλ_ _=>rfl)(hQ:∀a' w',bodyPost dG fn (λr w'=>QR B w0 w' r R.1 R.2) .ret a' w'->iZ .normal a' w':=by(intro _ _ h;go_wp2;exact h)):Code.wp dG (Code.region i (YL t1 t2 t3 d1 d2 ps k) dY) iZ a w:=by
 refine aU4 t1 b0 hf e1 e2 e3 e4 e5 h0 h1 h2 aP rJ gu λw' q1 q2 f b=>hQ _ _ ?_;refine cX (dy8 hrs (e2 _ _) (e4 _ _) q1 q2) hd ?_;rw[<-ae E];exact QR.num (e:=e) (g:=g) (x:=x) (t:=t) en em hS hN hF ku f b hB k 0 0 0 0
theorem Vm{iZ:iE}(i5 i6 t2 t3 d1 d2:Nat){ps':String}(nj:Region.ready md ops listed=[i5])(iK:Region.ready md ops (jI listed i5 dY)=[i6])(tF:Region.ready md ops (jI (jI listed i5 dY) i6 dY)=[])(vo:ops[i5]?=Y {dst:=dN,op:=Op.store 44 (Operand.tmp t2) (Operand.tmp d1),type:=0,pos:=ps,after:=A5,guard:=dN})(ho6:ops[i6]?=Y {dst:=dN,op:=Op.store 50 (Operand.tmp t3) (Operand.tmp d2),type:=0,pos:=ps',after:=A6,guard:=dN})(b1 b2:Nat)(e g x t:Int)(p:OA)(n c:Nat)(q:OA)(m d:Nat)(k i h s z:Int)(dp:OA)(dn dc:Nat)(np:OA)(nn nc:Nat)(vp:OA)(vn vc:Nat) (e2:a.tmps[t2]?.getD jQ=Pz b1)(e3:a.tmps[d1]?.getD jQ=cO e g x t (.S p n c) (.S q m d))(e4:a.tmps[t3]?.getD jQ=Pz b2)(e5:a.tmps[d2]?.getD jQ=ij k i h s z (.S dp dn dc) (.S np nn nc) (.S vp vn vc))(h1:BX w b1 [o0,o1,o2,o3,o4,o5])(h2:RX w b2 [r0,r1,r2,r3,r4,r5,r6,r7])(Tu:b1<b2)(qE:∀w',Below b1 w w'->Fr [44,50] w w'->S w')(hQ:∀w',BX w' b1 [.U e,.U g,.U x,.I t,.S p n c,.S q m d]->RX w' b2 [.I k,.U i,.U h,.U s,.I z,.S dp dn dc,.S np nn nc,.S vp vn vc]->Fr [44,50] w w'->Below b1 w w'->iZ .normal a w'):wpAnyH dG md ops iZ S 2 listed a w:=by
 refine VA nj al (Vz vo (λKK hK=>?_) fN);let⟨k0,k1,k2,k3,k4,k5,kf⟩:=h1.cells;go_simp;let⟨X,hX⟩:=aF (gL w b1 (.U e) (.U g) (.U x) (.I t) (.S p n c) (.S q m d));have bX:Below b1 w X:=hX▸vE _ _ _ _ _ _ _;have pK:=h1.put (.U e) (.U g) (.U x) (.I t) (.S p n c) (.S q m d);have fX:Fr [44] w X:=by obtain⟨-,cur,ht⟩:=h1;rw[hX];exact xB ht
 rw[<-hX]at pK;have Ql:=h2.T fX;unfold gL at hX;rw[<-hX];refine hK.out _ _ (qE X bX (fX.sub al)) (λhS=>?_);clear hK KK hX k0 k1 k2 k3 k4 k5 kf;refine VA iK al (Vz ho6 (λKK hK=>?_) fN);let⟨k0,k1,k2,k3,k4,k5,k6,k7,kf⟩:=Ql.cells;go_simp;let⟨GZ,fY⟩:=Ql.put (.I k) (.U i) (.U h) (.U s) (.I z) (.S dp dn dc) (.S np nn nc) (.S vp vn vc);have bY:=rT (w:=X) (b:=b2) (v0:=.I k) (v1:=.U i) (v2:=.U h) (v3:=.U s) (v4:=.I z) (v5:=.S dp dn dc) (v6:=.S np nn nc) (v7:=.S vp vn vc);let⟨iY,hY⟩:=aF (nH X b2 (.I k) (.U i) (.U h) (.U s) (.I z) (.S dp dn dc) (.S np nn nc) (.S vp vn vc));rw[<-hY]at GZ fY bY;unfold nH gL at hY;rw[<-hY];have bY':=bX.Z (bY.h (av3 Tu));refine hK.out _ _ (qE iY bY' ((fX.sub al).Z (fY.sub al))) (λhS=>?_);clear hK KK hY;refine Zc tF ?_ _;exact hQ iY (pK.T fY) GZ ((fX.sub al).Z (fY.sub al)) bY'
def yW(nd:au)(id:Int):Bool:=dD (nd.M=0)||(dD (J nd.y=1)&&dD (nd.y.headD 0=id))
theorem ev6{P V H iU:dV}(r:Le nd.y n){id:Int}(s:O (kI w (.S p n c) nd.y))(E:P.oneCell')(B:V.oneCell')(D:iU.oneCell'):dQ dG 170 #[jP #[P,V,.U nd.D,.I nd.M,.S p n c,.U nd.P,.U nd.F,iU],.U id] w (Rb (jO (yW nd id)) w):=by
 go_in;by_cases hm:nd.M=0;{
 have hf:yW nd id:=by simp[yW,hm]
 rw[hf];exact aV};{
 have W:(nd.M==0)=dF:=by simp[hm]
 by_cases j:n=1;{
 obtain⟨x,m⟩:∃x,nd.y=[x]:=ci1.1 (by rw[ae r,j]);obtain⟨b,o,rfl,hc⟩:=s.at (k:=0) (x:=x) (by rw[m];rfl);rw[Ek]at hc;have R:=λu:Obj=>aq hc ((bD _ w).alloc aU u);have hf:O (yW nd id=dD (x=id)):=by show _=_;simp[yW,hm,m]
 subst j;by_cases i:x=id;{
 subst i;go_wp2;go_ret;have y:yW nd x:=by rw[ae hf];simp
 exact⟨by rw[y];rfl,cY⟩};{
 have M:(x==id)=dF:=by simpa using i
 go_wp2;go_ret;exact⟨by rw[ae hf,NQ i];rfl,cY⟩}};{
 have hf:O (yW nd id=dF):=by show _=_;simp[yW,hm,ae r,j]
 have N:((n:Int)==1)=dF:=by simp;omega
 go_wp2;go_ret;exact⟨by rw[ae hf];rfl,cY⟩}}
def Ag(D:SD)(k:Nat)(s i:Int):SD×RP:=match D.N[k]? with
 |none=>(D,iS)
 |some nd=>if nd.y.contains s then(D,lD 9)
  else if i=2 then(if nd.M=1 then(D,lD 9)else({D with N:=D.N.set k {nd with M:=2,y:=me nd.y s}},iS))
  else if nd.M≠0 then(D,lD 9)else if 2^62<=D.g then(D,lD 12)
  else({D with g:=D.g+1,N:=D.N.set k {nd with M:=1,y:=[s],P:=D.e,F:=D.g+1}},{iS with e:=D.e,g:=D.g+1})
abbrev nI(K S:Int)(P:dV)(F:Int)(V:dV)(E iG:Int):dV:=jP #[.I K,.U S,P,.I F,V,.U E,.U iG]
theorem BX.dt(h:BX w b vs)(i:w'.heap[b]?=w.heap[b]?):BX w' b vs:=⟨h.1.dt i,h.2.imp λj hc=>i.Z hc⟩
theorem RX.dt(h:RX w b vs)(i:w'.heap[b]?=w.heap[b]?):RX w' b vs:=⟨h.1.dt i,h.2.imp λj hc=>i.Z hc⟩
def LB(w:G)(b:Nat)(st op rs i j:List dV):Prop:=BX w b st/\aT w (b+1) op/\BX w (b+1+1) rs/\RX w (b+1+1+1) i/\aT w (b+1+1+1+1) j
theorem LB.W{st op rs m o:List dV}(h:LB w' b st op rs m o)(i:∀j,b<=j->j<b+5->w''.heap[j]?=w'.heap[j]?):LB w'' b st op rs m o:=
 ⟨h.1.dt (i _ af af),h.2.1.dt (i _ af af),h.2.2.1.dt (i _ af af),h.2.2.2.1.dt (i _ af af),h.2.2.2.2.dt (i _ af af)⟩
theorem LB.bd8{n0 n1 n2 m i:dV}{os j:List dV}(h:LB w b [s0,s1,s2,s3,s4,s5] (o0::o1::os) rs rp (n0::n1::n2::m::i::j)):I w (Ad b 5)=s5/\I w (Ad (b+1) 1)=o1/\I w (Ad (b+1+1+1+1) 4)=i:=⟨h.1.1.1 5 _ rfl,h.2.1.1 1 _ rfl,h.2.2.2.2.1 4 _ rfl⟩
theorem LB.dS1{st op rs m o:List dV}(h:LB w' b st op rs m o)(i:∀j,b<j->j<b+5->w''.heap[j]?=w'.heap[j]?):aT w'' (b+1) op/\BX w'' (b+1+1) rs/\RX w'' (b+1+1+1) m/\aT w'' (b+1+1+1+1) o:=
 ⟨h.2.1.dt (i _ af af),h.2.2.1.dt (i _ af af),h.2.2.2.1.dt (i _ af af),h.2.2.2.2.dt (i _ af af)⟩
theorem BX.D9(h:BX w b [v0,v1,v2,v3,v4,v5]):I w (Ad b 0)=v0/\I w (Ad b 1)=v1/\I w (Ad b 2)=v2/\I w (Ad b 3)=v3/\I w (Ad b 4)=v4/\I w (Ad b 5)=v5:=⟨h.1.1 0 _ rfl,h.1.1 1 _ rfl,h.1.1 2 _ rfl,h.1.1 3 _ rfl,h.1.1 4 _ rfl,h.1.1 5 _ rfl⟩
theorem dM7(en:Le ss n)(em:Le ns m)(hk:O (ns[k]?=nd)){S:Int}{vp:OA}(hS:O (fh B w (.S p n c) ss Qs))(hN:O (ld B w (.S q m d) ns))(hB:B<=U (Q w))(hm:Mg m)(hh:J nd.y<=2^20)(hg:0<=g/\g<=2^62){R:SD×RP}(eR:O (Ag ⟨e,g,x,t,ss,ns⟩ k S F=R)):dQ dG 171 #[cO e g x t (.S p n c) (.S q m d),.I k,nI K S (.S pp np cp) F (.S vp nv cv) E iG] w λr w'=>QR B w w' r R.1 R.2:=by
 obtain⟨y,Pv,Vv,Hv,Uv,rfl,-,-,c0,c1,c2,c3,c4,c5,c6,c7,tP,tV,tH,tU,vx⟩:=du.at hN hk;have hkm:k<m:=by rw[<-ae em];exact(bH.1 hk).1
 have ay9:=cM k m;obtain⟨pP,cP,rfl⟩:=tP.fq;obtain⟨pV,cV,rfl⟩:=tV.fq;obtain⟨pH,cH,rfl⟩:=tH.fq;obtain⟨pU,cU,rfl⟩:=tU.fq;let⟨nP,hnP⟩:=aF (J nd.A);let⟨nV,KT⟩:=aF (J nd.V);let⟨nU,Ud⟩:=aF (J nd.X);let⟨nh,eH⟩:=cg (J nd.y);rw[<-hnP]at c0;rw[<-KT]at c1;rw[<-Ud]at c7;rw[ae eH]at hh tH c4;clear hnP KT Ud tP tV tU;obtain⟨ow,mo,ep,ge,aI⟩:∃ow mo ep ge,O (nd.D=ow/\nd.M=mo/\nd.P=ep/\nd.F=ge):=⟨_,_,_,_,ai ⟨rfl,rfl,rfl,rfl⟩⟩
 rw[aI.1]at c2;rw[aI.2.1]at c3;rw[aI.2.2.1]at c5;rw[aI.2.2.2]at c6;have Gy:y<U (Q w):=(hN.lt y rfl).2;have uo:=(hN.lt y rfl).1;let⟨W0,cT,b0,z0,C0⟩:=yj w (.U e) (.U g) (.U x) (.I t) (.S p n c) (.T y m d);obtain⟨W1,fT,b1,z1,C1,-⟩:=cR W0 #[.I K,.U S,.S pp np cp,.I F,.S vp nv cv,.U E,.U iG] 54;let⟨W2,fW,b2,z2,C2⟩:=Cr W1;let⟨W3,ky,b3,z3,C3⟩:=yi W2 (.I 0) (.U 0) (.U 0) (.U 0) (.I 0) aN aN aN;obtain⟨W4,hW4,b4,z4,C4,-⟩:=cR W3 #[.S pP nP cP,.S pV nV cV,.U ow,.I mo,.S pH nh cH,.U ep,.U ge,.S pU nU cU] 149;rw[z0]at C1 z1;rw[z1]at C2 z2;rw[z2]at C3 z3;rw[z3]at C4 z4;have HC:=nK ((((C0.H b1).H b2).H b3).H b4) (((C1.H af b2).H af b3).H af b4) ((C2.H b3).H b4) (C3.H b4) C4;have bW:=ai (aj (aj (aj (aj b0 b1) b2) b3) b4);have HS:=eG (hS.T (cG bW)) (hN.T (cG bW)) (tH.T (cG bW));have aW:=λ(o1 o2 o3 o4:Obj)=>((((bD (U (Q w)) w).alloc aU o1).alloc al o2).alloc bL o3).alloc bL o4;have m0:=λ(o1 o2 o3 o4:Obj)=>aq c0 (aW o1 o2 o3 o4);have m1:=λ(o1 o2 o3 o4:Obj)=>aq c1 (aW o1 o2 o3 o4);have m2:=λ(o1 o2 o3 o4:Obj)=>aq c2 (aW o1 o2 o3 o4);have m3:=λ(o1 o2 o3 o4:Obj)=>aq c3 (aW o1 o2 o3 o4);have m4:=λ(o1 o2 o3 o4:Obj)=>aq c4 (aW o1 o2 o3 o4);have m5:=λ(o1 o2 o3 o4:Obj)=>aq c5 (aW o1 o2 o3 o4);have m6:=λ(o1 o2 o3 o4:Obj)=>aq c6 (aW o1 o2 o3 o4);have m7:=λ(o1 o2 o3 o4:Obj)=>aq c7 (aW o1 o2 o3 o4);have pI:=nK c3 c4 c5 c6 vx;clear b0 b1 b2 b3 b4 C0 C1 C2 C3 C4 c0 c1 c2 c3 c4 c5 c6 c7 vx tH aW;go_in
 go_wp21
 rw[<-cT,<-fT,<-fW,<-ky,<-hW4];let⟨bo,EU⟩:=cg (nd.y.contains S);have hR:=ae eR;unfold Ag at hR;simp only[ae hk,ae EU,aI.2.1]at hR;have HR:=ai hR;refine cL (bf6 eH HS.2.2.1 hh EU) λw1 az=>?_;have Lb:=az.size;have M:=nK (HC.1.H az) (HC.2.1.H af az) (HC.2.2.1.H az) (HC.2.2.2.1.H az) (HC.2.2.2.2.H af az);have pX:=eG (HS.1.T (cG az)) (HS.2.1.T (cG az)) (HS.2.2.T (cG az));have mW:=ai (aj bW az);have c3:=aq pI.1 mW;have fz:=λo=>(mW.frozen (p:=(Ad y o)) Gy).Z (pI.2.2.2.2 o);have o1:=M.2.1.1 1 _ rfl;have o3:=M.2.1.1 3 _ rfl;have n3:=M.2.2.2.2.1 3 _ rfl;have k0:=M.1.cells;cases bo;{
 by_cases hF:F=2;{
 by_cases sc:mo=1;{
 have N:=ae HR;simp only[hF,sc,JB,BK,qR]at N;have E9:=ai N
 go_wp21
 exact rq 3 6 7 27 28 9 results171 M.1 M.2.2.1 M.2.2.2.1 en em pX.1 pX.2.1 (Fr.H mW) (mW.h hB) hB E9};{
 have bl4:(mo==1)=dF:=by simp[sc]
 have N:=ae HR;simp only[hF,sc,JB,BK,qR]at N;have E9:=ai N;let⟨N3,F3⟩:=du.put pX.2.1 hk (j:=3) af (.I 2) {nd with M:=2} (λw' P V H iU h1 h2 h3 h4 hf=>⟨P,V,H,iU,rfl,h1,h2,h3,h4⟩);let⟨X,hX⟩:=aF (jS w1 (Ad y (k*8+3)) (.I 2));have BX':Below B w X:=by rw[hX];exact(mW.h hB).setCell (p:=(Ad y _)) uo _
 rw[<-hX]at N3 F3;have HX:=gJ (LB.W (w'':=X) M (λj h1 h2=>by rw[hX];exact gh _ _ _ _ (by show j≠y;omega))) N3 F3 BX';have zX:=F3.1
 go_wp21
 rw[<-hX];let⟨vA,br⟩:=aF X.drew;have bM:=kH br;let⟨HA,TA⟩:=aQ (λ(v:G)(hv:Bw vA v)=>aE (LB.W (w'':=v) HX.1 (λj h1 h2=>(aj bM hv).block j af)) (aE (du.T HX.2.1 (cG (aj bM hv))) (aj bM hv))) ((pX.2.2.T HX.2.2.1).T (cG bM));refine fw (λw'=>I w' (Aw w 5)=dK y m d/\I w' (Ax w 1)=dU S/\I w' (Ad (U (Q w)+1+1+1+1) 4)=dS pH nh cH) (by rw[<-br];exact(ae HA vA db).1.bd8) λhS=>?_;rw[<-br]at hS⊢;refine iy 0 1 2 3 hS ?_;refine fu 4 5 hS ?_;refine tn 6 hS ?_;refine fy 7 λKK hK=>?_;refine uG (cl5 eH TA.1 hh) ?_;rintro r v1⟨pl,cl,rfl,ol,aA⟩;refine fE ?_;let⟨nl,iq⟩:=cg (J (me nd.y S));rw[ae iq]at ol⊢;refine bS hK ((ae HA v1 aA).1.bd8) λhS=>?_;refine fu 8 9 hS ?_;refine fy 10 λKK hK=>?_;let⟨LV,NV,bV⟩:=ae HA v1 aA;obtain⟨Tv,-,-,H',-,eg,-,-,-,-,-,-,d4,-,-,-,-,-,-,-,Fm⟩:=du.at NV (uV hk _);obtain⟨rfl,-⟩:=yr eg;have Pw:=Fm (k*8+4);let⟨NV',LV',bV'⟩:=gC NV LV bV;clear NV LV bV Fm;go_simp;let⟨N4,F4⟩:=du.QW NV' hk (j:=4) af (.S pl nl cl) {nd with M:=2,y:=me nd.y S} (λw' P V H iU h1 h2 h3 h4 hf=>⟨P,V,.S pl nl cl,iU,rfl,h1,h2,(ol.tu (B':=B) (by have:=HX.2.2.2.size;have:=(ae HA vA db).2.2.size;omega)).T hf,h4⟩);let⟨Z,hZ⟩:=aF (jS v1 (Ad y (k*8+4)) (.S pl nl cl));have LZ:=LB.W (w'':=Z) LV' (λj h1 h2=>by rw[hZ];exact gh _ _ _ _ (by show j≠y;omega));have BZ:Below B w Z:=by rw[hZ];exact(HX.2.2.2.Z (bV'.h af)).setCell (p:=(Ad y _)) uo _
 rw[<-hZ]at N4 F4⊢;have W:=nK LZ N4 ((((Fr.H (T:=[125,148,149]) mW).Z (HX.2.2.1.sub al)).Z (Fr.H bV')).Z (F4.sub al)) BZ (((pX.1.T HX.2.2.1).T (cG bV')).T F4);refine bS hK LZ.bd8 λhS=>?_;clear hK KK hZ N4 F4 LZ BZ d4 Pw;refine fQ ?_;clear hS;have k0:=W.1.1.cells;let⟨q0,q1,q2,q3,q4,q5,qf⟩:=W.1.2.2.1.cells;let⟨r0,r1,r2,r3,r4,r5,r6,r7,rf⟩:=W.1.2.2.2.1.cells;go_wp2;let⟨fA,bA,gA⟩:=W.1.2.2.1.fin W.2.2.1 W.2.2.2.1 af hB (.U e) (.U g) (.U x) (.I t) (.S p n c) (.T y m d);obtain⟨-,fB⟩:=(W.1.2.2.2.1.T gA).put (.I 0) (.U 0) (.U 0) (.U 0) (.I 0) aN aN aN;refine cX (v:=dT #[cO e g x t (.S p n c) (.T y m d),ij 0 0 0 0 0 aN aN aN]) (by simp[results,results171,go_sem,q0,q1,q2,q3,q4,q5,r0,r1,r2,r3,r4,r5,r6,r7]) rfl ?_;rw[<-ae E9];exact QR.num en (ai (by rw[qS];exact ae em)) W.2.2.2.2 W.2.1 W.2.2.1 W.2.2.2.1 ((gA.sub al).Z (fB.sub al)) (((vE (w:=Z) (U (Q w)+1+1) (.U e) (.U g) (.U x) (.I t) (.S p n c) (.T y m d)).h (show U (Q w)<=_ by omega)).Z ((rT (w:=gL Z (U (Q w)+1+1) (.U e) (.U g) (.U x) (.I t) (.S p n c) (.T y m d)) (b:=U (Q w)+1+1+1) (v0:=.I 0) (v1:=.U 0) (v2:=.U 0) (v3:=.U 0) (v4:=.I 0) (v5:=aN) (v6:=aN) (v7:=aN)).h af)) hB 0 0 0 0 0}};{
 have hF':(F==2)=dF:=by simp[hF]
 by_cases yR:mo=0;{
 have eb5:(mo != 0)=dF:=by simp[yR]
 by_cases qC:2^62<=g;{
 have N:=ae HR;simp only[hF,yR,qC,JB,BK,qR,ne_eq,bb4]at N;have E9:=ai N;clear N hF yR
 go_wp21
 exact rq 3 6 7 54 55 12 results171 M.1 M.2.2.1 M.2.2.2.1 en em pX.1 pX.2.1 (Fr.H mW) (mW.h hB) hB E9};{
 have fx8:dD (2^62<=g)=dF:=by simpa using qC
 have N:=ae HR;simp only[hF,yR,qC,JB,BK,ne_eq,bb4]at N;have E9:=ai N;clear N hF yR;have wg:jY jU (g+1)=g+1:=IntWalk.u64_in _ af;let⟨Y0,Pd⟩:=aF (jS w1 (Aw w 1) (.U (g+1)));have F0:Fr [44] w1 Y0:=by rw[Pd];exact(qL M.1.2).2
 let⟨N3,F3⟩:=du.put (pX.2.1.T F0) hk (j:=3) af (.I 1) {nd with M:=1} (λw' P V H iU h1 h2 h3 h4 hf=>⟨P,V,H,iU,rfl,h1,h2,h3,h4⟩);let⟨Y1,Tf⟩:=aF (jS Y0 (Ad y (k*8+3)) (.I 1));rw[<-Tf]at N3 F3;have zY:U (Q Y1)=U (Q w1):=by rw[Tf,Pd];simp
 let⟨A,hA,bA,zA,CA,TA⟩:=cR Y1 #[.U S] 27;rw[zY]at CA TA;have L2:=LB.W (w'':=A) (LB.W (w'':=Y1) (⟨(by rw[Pd];exact⟨M.1.1.ew 1 al _,(qL M.1.2).1⟩),LB.dS1 (w'':=Y0) M (λj h1 h2=>by rw[Pd];exact gh _ _ _ _ (by show j≠U (Q w);omega))⟩) (λj h1 h2=>by rw[Tf];exact gh _ _ _ _ (by show j≠y;omega))) (λj h1 h2=>bA.block j af);have N4:=N3.T (cG bA);have TS:TU B A (.T (U (Q w1)) 1 1) [S]:=by refine⟨⟨_,_,rfl,.R ⟨U (Q w1),0,rfl,?_⟩⟩,?_,⟨?_,?_⟩,?_⟩;{intro i hi;cases(by simp at hi;omega:i=0);exact CA.1 0 _ rfl};{intro b hb;simp only[jB,oK]at hb;subst hb;exact⟨_,TA⟩};{intro a n c e;simp only[rE,oK]at e;obtain⟨rfl,rfl,rfl⟩:=e;exact⟨rfl,rfl,λj h1 h2=>af⟩};{intro n c e;simp at e};{intro b hb;simp only[jB,oK]at hb;omega}
 obtain⟨Tv,P',V',H',U',eg,-,-,-,-,-,-,d4,d5,d6,-,-,-,-,-,Fm⟩:=du.at N4 (uV hk _);obtain⟨rfl,-⟩:=yr eg;let⟨s0,s1,s2,s3,s4,s5,sf⟩:=L2.1.cells;have Pw:=Fm (k*8+4);have fz5:=Fm (k*8+5);have fz6:=Fm (k*8+6);have fz3:=fz (k*8+3);let⟨N5,F5⟩:=du.QW N4 hk (j:=4) af (.T (U (Q w1)) 1 1) {nd with M:=1,y:=[S]} (λw' P V H iU h1 h2 h3 h4 hf=>⟨P,V,.T (U (Q w1)) 1 1,iU,rfl,h1,h2,TS.T hf,h4⟩);let⟨N6,F6⟩:=du.QW N5 hk (j:=5) af (.U e) {nd with M:=1,y:=[S],P:=e} (λw' P V H iU h1 h2 h3 h4 hf=>⟨P,V,H,iU,rfl,h1,h2,h3,h4⟩);let⟨N7,F7⟩:=du.QW N6 hk (j:=6) af (.U (g+1)) {nd with M:=1,y:=[S],P:=e,F:=g+1} (λw' P V H iU h1 h2 h3 h4 hf=>⟨P,V,H,iU,rfl,h1,h2,h3,h4⟩);let⟨Z,hZ⟩:=aF (jS (jS (jS A (Ad y (k*8+4)) (.T (U (Q w1)) 1 1)) (Ad y (k*8+5)) (.U e)) (Ad y (k*8+6)) (.U (g+1)));have LZ:=LB.W (w'':=Z) L2 (λj h1 h2=>by
  rw[hZ]
  iterate 3 rw[gh _ _ _ _ (show j≠_ by show j≠y;omega)])
 have FA:Fr [149] A Z:=by rw[hZ];exact(F5.Z F6).Z F7
 have BZ:Below B w Z:=by rw[hZ];refine((tp (p:=(Ad y _)) ?_ uo _).setCell (p:=(Ad y _)) uo _).setCell (p:=(Ad y _)) uo _;refine Zb ?_ (bA.h af);rw[Tf,Pd];exact((mW.h hB).setCell (p:=(Aw w _)) hB _).setCell (p:=(Ad y _)) uo _
 have FZ:Fr [125,148,149] w Z:=by exact(((Fr.low (Fr.H mW) (by rw[Pd];exact db.setCell (p:=(Aw w 1)) aU _)).Z (F3.sub al)).Z (Fr.H bA)).Z (FA.sub al)
 rw[<-hZ]at N7;have W:=nK LZ N7 FZ BZ (((pX.1.T F0).T F3 bf |>.T (cG bA)).T FA);have zZ:U (Q w1)<U (Q Z):=aM FA.1;rw[Pd]at Tf;rw[Tf]at hA;rw[hA]at hZ s0 s1 s5 d4 d5 d6 Pw fz5 fz6;clear F0 N3 F3 bA zA CA TA L2 N4 TS Fm s2 s3 s4 sf N5 F5 N6 F6 N7 F7 LZ FA BZ FZ Pd Tf hA zY
 go_wp21
 rw[<-hZ];let⟨vA,br⟩:=aF Z.drew;have bM:=kH br;let⟨HA,LA,BA⟩:=gC (λ(v:G)(hv:Below (U (Q w)+1+1) vA v)=>W.1.1.dt ((hv.block _ af).Z (bM.block _ af))) (LB.W (w'':=vA) W.1 (λj h1 h2=>bM.block j af)) bM;refine fw (λw'=>I w' (Aw w 0)=dU e/\I w' (Aw w 1)=dU (g+1)/\I w' (Aw w 2)=dU x/\I w' (Aw w 3)=dI t/\I w' (Aw w 4)=dS p n c/\I w' (Aw w 5)=dK y m d) (by rw[<-br];exact(ae HA vA db).D9) λhS=>?_;rw[<-br]at hS⊢;refine iy 0 1 2 3 hS ?_;refine fu 4 5 hS ?_;refine Vm 6 7 6 7 87 92 aS aS aS rfl rfl (U (Q w)+1+1) (U (Q w)+1+1+1) e (g+1) x t p n c (Ad y 0) m d 0 0 e (g+1) 0 dN 0 0 dN 0 0 dN 0 0 rfl rfl rfl rfl LA.2.2.1 LA.2.2.2.1 af (λv hv _=>(ae HA v hv).D9) ?_;intro w' az nj f1 tW;refine AJ ?_;let⟨q0,q1,q2,q3,q4,q5,qf⟩:=az.cells;let⟨r0,r1,r2,r3,r4,r5,r6,r7,rf⟩:=nj.cells;go_wp2;refine cX (v:=dT #[cO e (g+1) x t (.S p n c) (.T y m d),ij 0 0 e (g+1) 0 aN aN aN]) (by simp[results,results171,go_sem,q0,q1,q2,q3,q4,q5,r0,r1,r2,r3,r4,r5,r6,r7]) rfl ?_;rw[<-ae E9];exact(QR.num (e:=e) (g:=g+1) (x:=x) (t:=t) en (ai (by rw[qS];exact ae em)) W.2.2.2.2 W.2.1 W.2.2.1 W.2.2.2.1 ((Fr.H (T:=[44,50]) BA).Z f1) ((BA.h af).Z (tW.h af)) hB 0 0 e (g+1) 0)}};{
 have eb5:(mo != 0):=by simp[yR]
 have N:=ae HR;simp only[hF,yR,JB,BK,qR,ne_eq,not_false_eq_true]at N
 go_wp21
 exact rq 3 6 7 49 50 9 results171 M.1 M.2.2.1 M.2.2.2.1 en em pX.1 pX.2.1 (Fr.H mW) (mW.h hB) hB N}}};{
 have N:=ae HR;simp only[qR]at N
 go_wp21
 exact rq 3 6 7 19 20 9 results171 M.1 M.2.2.1 M.2.2.2.1 en em pX.1 pX.2.1 (Fr.H mW) (mW.h hB) hB N}
def PX(ns:List au)(P:LI)(S E iG:Int):Int:=match kP ns P with
 |none=>0
 |some nd=>if nd.M=1/\nd.y.headD 0=S/\nd.P=E/\nd.F=iG then 1 else 0
theorem eO8(e g x t:Int)(p:OA)(n c:Nat)(q:OA)(m d:Nat)(ns:List au)(em:Le ns m)(K S F E iG:Int)(pp:OA)(np cp:Nat)(vp:OA)(nv cv:Nat)(P:LI)(eP:Le P np)(B:Nat)(w:G)(hN:O (ld B w (.S q m d) ns))(hP:O (Rd w (.S pp np cp) P))(hm:Mg m)(hp:np<=2^21)(dr:O (aD P/\∀nd∈ns,aD nd.A))(hex:O (∀nd∈ns,nd.M=1->nd.y≠[]))(C:Int)(eC:O (PX ns P S E iG=C)):dQ dG 108 #[cO e g x t (.S p n c) (.S q m d),nI K S (.S pp np cp) F (.S vp nv cv) E iG] w (Rb (ij 0 0 0 0 C aN aN aN) w):=by
 let⟨W0,cT,b0,z0,C0⟩:=yj w (.U e) (.U g) (.U x) (.I t) (.S p n c) (.S q m d);obtain⟨W1,fT,b1,z1,C1,-⟩:=cR W0 #[.I K,.U S,.S pp np cp,.I F,.S vp nv cv,.U E,.U iG] 54;let⟨W2,fW,b2,z2,C2⟩:=yi W1 (.I 0) (.U 0) (.U 0) (.U 0) (.I 0) aN aN aN;rw[z0]at C1 z1;rw[z1]at C2 z2;have HC:=eG ((C0.H b1).H b2) (C1.H af b2) C2;have bW:=ai (aj (aj b0 b1) b2);have HN:=ai (hN.T (cG bW));clear b0 b1 b2 C0 C1 C2;go_in
 go_wp21
 rw[<-cT,<-fT,<-fW];clear cT fT fW;refine(aw3 em eP (du.QT HN) (hP.H bW) hm hp dr).h ?_;rintro r s⟨hr,N⟩;have Lb:=N.size;have mU:=eG (HC.1.H N) (HC.2.1.H af N) (HC.2.2.H N);let⟨mW,Fy⟩:=aQ (aj bW N) (du.T HN (cG N));clear HC HN bW N;obtain⟨k,nd,rfl,hkm,hk,ct3⟩|⟨rfl,iL⟩:=hr;{
 have oR:=ai ct3;have ay9:=cM k m;have si:¬((k:Int)<0):=af;obtain⟨gn,Pv,Vv,Hv,Uv,rfl,-,-,c0,c1,c2,c3,c4,c5,c6,c7,tP,tV,tH,tU,-⟩:=du.at Fy hk;obtain⟨pP,cP,rfl⟩:=tP.fq;obtain⟨pV,cV,rfl⟩:=tV.fq;obtain⟨pH,cH,rfl⟩:=tH.fq;obtain⟨pU,cU,rfl⟩:=tU.fq;have eg3:=ai (ae hex nd (bq hk));let⟨nP,W⟩:=aF (J nd.A);let⟨nV,KT⟩:=aF (J nd.V);let⟨nU,Ud⟩:=aF (J nd.X);let⟨nh,eH⟩:=cg (J nd.y);rw[<-W]at c0;rw[<-KT]at c1;rw[<-Ud]at c7;rw[ae eH]at tH c4;clear W KT Ud tP tV tU hk ct3;let⟨ow,EJ⟩:=cg nd.D;let⟨V,hmo⟩:=cg nd.M;let⟨Z,Gz⟩:=cg nd.P;let⟨X,Wv⟩:=cg nd.F;rw[ae EJ]at c2;rw[ae hmo]at c3;rw[ae Gz]at c5;rw[ae Wv]at c6;let⟨k0,k1,k2,k3,k4,k5,kf⟩:=mU.1.cells;obtain⟨W3,ky,b3,z3,C3,-⟩:=cR s #[.S pP nP cP,.S pV nV cV,.U ow,.I V,.S pH nh cH,.U Z,.U X,.S pU nU cU] 149;have u:=λj:Obj=>(bD (U (Q s)) s).alloc aU j;have m0:=λj:Obj=>aq c0 (u j);have m1:=λj:Obj=>aq c1 (u j);have m2:=λj:Obj=>aq c2 (u j);have m3:=λj:Obj=>aq c3 (u j);have m4:=λj:Obj=>aq c4 (u j);have m5:=λj:Obj=>aq c5 (u j);have m6:=λj:Obj=>aq c6 (u j);have m7:=λj:Obj=>aq c7 (u j);have k5':=λj:Obj=>aq k5 (u j);have KQ:=eG (mU.2.1.H af b3) (mU.2.2.H b3) C3;let⟨B3,T3⟩:=aQ (aj mW b3) (tH.T (cG b3));clear b3 C3 u tH
 go_wp21
 rw[<-ky];clear ky m0 m1 m2 m3 m4 m5 m6 m7 k5' c0 c1 c2 c3 c4 c5 c6 c7 k0 k1 k2 k3 k4 k5 kf;let⟨vA,y⟩:=aF W3.drew;have M:=kH y;have o:=bG (KQ.1.H af M) (KQ.2.2.H af M);let⟨RA,BA⟩:=aQ (KQ.2.1.H M) (aj B3 M);refine VE ?_;by_cases sc:V=1;{
 let⟨R,tl,MI⟩:=ch6 (ae eg3 (hmo.Z sc));have hhd:=ai (by rw[MI];rfl:nd.y.headD 0=R);obtain⟨bh,oh,rfl,ch⟩:=(T3.T (cG M)).1.at (k:=0) (x:=R) (by rw[MI];rfl);rw[Ek]at ch;have hnh:0<nh:=by rw[<-ae eH,MI];simp
 clear MI;refine VB (S:=λw'=>I w' (Aw s 3)=dI V/\I w' (Aw s 4)=dS (Ad bh oh) nh cH/\I w' (Aw s 5)=dU Z/\I w' (Aw s 6)=dU X/\I w' (Ax w 1)=dU S/\I w' (Ax w 5)=dU E/\I w' (Ax w 6)=dU iG/\I w' (Ad bh oh)=dU R) aS (by rw[<-y];exact⟨o.2.1 3 _ rfl,o.2.1 4 _ rfl,o.2.1 5 _ rfl,o.2.1 6 _ rfl,o.1.1 1 _ rfl,o.1.1 5 _ rfl,o.1.1 6 _ rfl,ch⟩) (λhS=>?_);rw[<-y]at hS⊢;clear y M ch;by_cases hx:R=S;{
 by_cases he:Z=E;{
 by_cases hg:X=iG;{refine gr 0 1 2 3 4 5 6 7 hS ?_;refine gr 8 9 10 11 12 13 14 15 hS ?_;refine gr 16 17 18 19 20 21 22 23 hS ?_;refine fu 24 25 hS ?_;refine fQ ?_;clear hS;let⟨r0,r1,r2,r3,r4,r5,r6,r7,rf⟩:=RA.cells;go_wp2;refine cX (v:=ij 0 0 0 0 1 aN aN aN) (by simp[results,results108,go_sem,r0,r1,r2,r3,r4,r5,r6,r7]) rfl ⟨?_,BA.Z ((rT).h af)⟩;rw[<-ae eC];simp only[PX,ae oR];rw[aK ⟨hmo.Z sc,by rw[ae hhd];first|rfl|exact hx,by rw[ae Gz];first|rfl|exact he,by rw[ae Wv];first|rfl|exact hg⟩]};{
 have qY:(X==iG)=dF:=by simp[hg]
 refine gr 0 1 2 3 4 5 6 7 hS ?_;refine gr 8 9 10 11 12 13 14 15 hS ?_;refine gr 16 17 18 19 20 21 22 23 hS ?_;refine fu 24 25 hS ?_;exact zs4}};{
 have S6:(Z==E)=dF:=by simp[he]
 refine gr 0 1 2 3 4 5 6 7 hS ?_;refine gr 8 9 10 11 12 13 14 15 hS ?_;refine iy 16 17 18 19 hS ?_;refine iT 20 21 22 23 hS ?_;refine sn 24 hS ?_;refine tn 25 hS ?_;exact zs4}};{
 have Ie:(R==S)=dF:=by simp[hx]
 refine gr 0 1 2 3 4 5 6 7 hS ?_;refine iy 8 9 10 11 hS ?_;refine tn 12 hS ?_;refine iT 13 14 15 16 hS ?_;refine sn 17 hS ?_;refine fu 18 19 hS ?_;refine iT 20 21 22 23 hS ?_;refine sn 24 hS ?_;refine tn 25 hS ?_;exact zs4}};{
 have bl4:(V==1)=dF:=by simp[sc]
 let⟨R,hhd⟩:=cg (nd.y.headD 0);refine VB (S:=λw'=>I w' (Aw s 3)=dI V/\I w' (Aw s 4)=dS pH nh cH/\I w' (Aw s 5)=dU Z/\I w' (Aw s 6)=dU X/\I w' (Ax w 1)=dU S/\I w' (Ax w 5)=dU E/\I w' (Ax w 6)=dU iG) aS (by rw[<-y];exact⟨o.2.1 3 _ rfl,o.2.1 4 _ rfl,o.2.1 5 _ rfl,o.2.1 6 _ rfl,o.1.1 1 _ rfl,o.1.1 5 _ rfl,o.1.1 6 _ rfl⟩) (λhS=>?_);rw[<-y]at hS⊢;clear y M;refine iy 0 1 2 3 hS ?_;refine iT 4 5 6 7 hS ?_;refine sn 8 hS ?_;refine sn 9 hS ?_;refine sn 10 hS ?_;refine fu 11 12 hS ?_;refine iT 13 14 15 16 hS ?_;refine sn 17 hS ?_;refine fu 18 19 hS ?_;refine iT 20 21 22 23 hS ?_;refine sn 24 hS ?_;refine tn 25 hS ?_;exact zs4}};{
 let⟨r0,r1,r2,r3,r4,r5,r6,r7,rf⟩:=mU.2.2.cells
 change O _ at iL
 go_wp2;refine cX (v:=ij 0 0 0 0 0 aN aN aN) (by simp[results,results108,go_sem,r0,r1,r2,r3,r4,r5,r6,r7]) rfl ⟨?_,mW.Z ((rT).h af)⟩;rw[<-ae eC];simp only[PX,ae iL]}
def wW(l:LI):LI:=jD (xM l (J l)+1) l
variable {s:Nat}
theorem dM6(m:s<J l)(i:jE l s 0=47)(h:∀y∈jD (s+1) l,ni y):xM l (J l)=s:=by
 have key:∀j,s+1+j<=J l->xM l (s+1+j)=s:=by
  intro j
  induction j with
  |zero=>intro _;rw[Ek,Zs,aK i]
  |succ j ih=>
   intro o;have hm:ni (jE l (s+1+j) 0):=h _ (by rw[ko,bN af,tv];refine List.mem_iff_getElem.2 ⟨j,bL,al⟩)
   rw[<-yJ,Zs,aJ (cf9 hm),ih af]
 have:=key (J l-s-1) af;rwa [show s+1+(J l-s-1)=J l by omega]at this
theorem dM5(j:s<J l)(i:jE l s 0=47)(h:∀y∈jD (s+1) l,ni y):wW l=jD (s+1) l:=by rw[wW,dM6 j i h]
def um(ns:List au)(P:LI):List LI:=(ns.filter λi=>dD (iV i.A=P)).map λi=>wW i.A
theorem dR6(h:ns[k]?=nd):um (jT (k+1) ns) P=if iV nd.A=P then um (jT k ns) P++[wW nd.A]else um (jT k ns) P:=by
 rw[rD,h,um,av1,uk];by_cases e:iV nd.A=P<;>simp[um,e]
theorem cm1(P:LI):J (um ns P)<=J ns:=by
 rw[um,iC];exact VO _ _
def Oi(l m:LI):Bool:=!Op.bytesLess (bg m).toList (bg l).toList&&!(bg m).toList==(bg l).toList
def rF(nd:au):List au->List au
 |[]=>[nd]
 |x::r=>if Oi nd.A x.A then nd::x::r else x::rF nd r
def xO(nd:au)(s:List au×Bool)(x:au):List au×Bool:=if s.2=dF/\Oi nd.A x.A then(s.1++[nd]++[x],dY)else(s.1++[x],s.2)
def JP(ns:List au)(nd:au):List au×Bool:=ns.foldl (xO nd) ([],dF)
theorem cn9(nd:au):∀(l acc:List au),l.foldl (xO nd) (acc,dY)=(acc++l,dY)
 |[],acc=>al
 |x::r,acc=>by rw[Lw,show xO nd (acc,dY) x=(acc++[x],dY) by simp[xO],cn9 nd r];simp
theorem dU1(ns:List au)(nd:au):(if(JP ns nd).2 then(JP ns nd).1 else(JP ns nd).1++[nd])=rF nd ns:=by
 have key:∀(l acc:List au),(if(l.foldl (xO nd) (acc,dF)).2 then(l.foldl (xO nd) (acc,dF)).1 else(l.foldl (xO nd) (acc,dF)).1++[nd])=acc++rF nd l:=by
  intro l
  induction l with
  |nil=>intro acc;simp[rF]
  |cons x r ih=>
   intro acc;rw[Lw,rF];by_cases h:Oi nd.A x.A=dY;{rw[show xO nd (acc,dF) x=(acc++[nd]++[x],dY) by simp[xO,h],cn9,aK h];simp};{rw[show xO nd (acc,dF) x=(acc++[x],dF) by simp[xO,h],ih,aJ h];simp}
 have:=key ns [];rwa [Eh]at this
theorem dU0{x:au}(i:ns[k]?=x):JP (jT (k+1) ns) nd=xO nd (JP (jT k ns) nd) x:=by
 rw[rD,i,JP,VQ];rfl
theorem dT9{s:List au×Bool}{x:au}:(xO nd s x).1.length<=J s.1+2:=by
 unfold xO;split<;>simp
theorem cn8(nd:au):∀(l:List au)(s:List au×Bool),(l.foldl (xO nd) s).1.length<=J s.1+2*J l
 |[],s=>al
 |x::r,s=>by have:=cn8 nd r (xO nd s x);have:=dT9 (nd:=nd) (s:=s) (x:=x);rw[Lw,mO];omega
theorem bh1(nd:au):∀l:List au,J (rF nd l)=J l+1
 |[]=>rfl
 |x::r=>by rw[rF];split;{simp};{simp[bh1 nd r]}
def rU(P V:LI)(o:Int):au:=⟨P,V,o,0,[],0,0,[]⟩
def Fo(D:SD)(P V:LI)(S F:Int):SD×RP:=
 if(kP D.N P).isSome then(D,lD 6)else if qG D.N (iV P)=dF then(D,lD 7)else if 200<=J D.N then(D,lD 11)
 else({D with N:=rF (rU P V (if F=1 then S else 0)) D.N},iS)
def BI(D:SD)(k:Nat)(K S F:Int)(V:LI):SD×RP:=match D.N[k]? with
 |none=>(D,iS)
 |some nd=>
  if K=5 then(if um D.N nd.A≠[]then(D,lD 8)else if yW nd S=dF then(D,lD 9)else(xD (ly D k 2) k,iS))
  else if K=6 then(D,⟨0,nd.D,nd.P,nd.F,nd.M,nd.V,[],[]⟩)
  else if K=7 then(if nd.M=1/\nd.y.headD 0≠S then(D,lD 9)else(ly {D with N:=D.N.set k {nd with V:=V}} k 1,iS))
  else if K=8 then Ag D k S F
  else if K=9 then(if nd.y.contains S then(kV D k S,iS)else(D,lD 10))
  else({D with N:=D.N.set k {nd with X:=me nd.X S}},iS)
theorem AM.last(h:AM B w (.S p (j+1) c) (j+1) vs)(i:vs.getLast?=v):∃g,p=(Ad g 0)/\I w (Ad g j)=v/\j<maxLen:=by
 have m:=h.1;obtain⟨-,u⟩|⟨g,q,o,e,-,-,s,r,-⟩:=h.2;{omega};{obtain⟨rfl,-,rfl⟩:=mh e;refine⟨g,rfl,?_,af⟩;rw[Rk h j af,<-i,au8,m];simp}
theorem dQ7(en:Le l n)(h:Rd w (.S p n c) l)(hb:aD l)(V:Mg n)(M:O (vp l)):dQ dG 169 #[.S p n c] w λr w'=>∃q m d,r=dR (.S q m d)/\O (J (wW l)=m)/\m<=n/\Own (U (Q w)) w' (.S q m d) (wW l)/\Bw w w':=by
 go_in
 go_wp21
 refine(cl7 en h hb V M).h ?_;rintro r w1⟨W,-,X⟩;obtain⟨pv,k,cv,vs,rfl,R,hk,s,v,o,N,E,B,i⟩:=W rfl;obtain⟨j,rfl⟩:∃j,k=j+1:=⟨k-1,af⟩;obtain⟨g,rfl,hc,Z⟩:=R.last o;have hj:j<9223372036854775807:=by unfold maxLen at Z;omega
 have wj:wrap64 (j:Int)=(j:Int):=Rv _ af;rw[<-dM5 N E B]at i;obtain⟨q,d,rfl⟩:=i.form;have y:=ai i;have x:J (wW l)<=n:=by rw[wW,uK,ae en];omega
 let⟨m,u⟩:=cg (J (wW l));rw[ae u]at hc y x;go_wp2;go_ret;exact⟨_,_,_,rfl,u,x,y,X⟩
theorem df8{iZ:iE}(ik:o.guard=dN){s x:Operand}(ho:o.op=.call {callee:=.builtin .append,args:=#[s,x],argTypes:=#[47,47]})(ek:Le ls k)(hs:a.eval s=v)(dw:TN B w v ls){g:Nat}{P:dV}(hx:a.eval x=.T g 1 1)(iW:TB w P l)(sV:I w (Ad g 0)=P)(hk:k<2^22)(hB:B<=U (Q w))(h:∀p' c' w',TN B w' (.S p' (k+1) c') (ls++[l])->jG w w' (jB v)->Fr [22] w w'->wpList dG ops iZ rest (a.put o.dst (.S p' (k+1) c')) w'):wpList dG ops iZ (o::rest) a w:=by
 let⟨i,hi,jk,fI,gv⟩:=mJ Tryz.infoSl;have ht:=dw.vW;obtain⟨rs,h1,h2,h3,h4⟩:=dw;have aa2:P.oneCell':=by obtain⟨_,_,rfl⟩:=iW.fq;rfl
 rw[ae ek]at h3;refine FO ik 47 ho i 1 underlying47 hi jk fI gv rfl bf v hs h3 g 1 1 [P] hx rfl (λj u hu=>by
  have e:j=0:=by have:=(bH.1 hu).1;simpa using this
  subst e;simp at hu;subst hu;exact sV) (λu hu=>by simp at hu;rw[hu];exact aa2) kW af hB ?_
 intro v' w' gF hg _;have hf:Fr [22] w w':=Fr.grown hg λb hb=>by let⟨cur,hc⟩:=ht b hb;exact⟨cur,_,hc,al⟩
 have sn:TN B w' v' (ls++[l]):=RT.snoc h1 h2 h4 (λy c hy=>by obtain⟨P',e,h5⟩:=hy;exact⟨P',e,h5.T hf⟩) ⟨P,rfl,iW⟩ rfl (ae ek▸gF);obtain⟨p',c',rfl,-⟩:=RT.form sn;rw[fe,ae ek]at sn⊢;exact h p' c' w' sn hg hf
theorem TN.T{T:List TypeId}(h:TN B w v ls)(hf:Fr T w w')(ht:5∉T/\22∉T:=by decide):TN B w' v ls:=
 RT.T h hf ht.2 (λy c hy=>by obtain⟨P',e,h5⟩:=hy;exact⟨P',e,h5.T hf ht.1⟩)
def PPB(ns:List au):Prop:=∀i∈ns,vp i.A/\aD i.A/\J i.A<=2^20
theorem cM0(em:Le ns m)(eP:Le P np)(hN:O (ld B w (.S q m d) ns))(hP:O (Rd w (.S pp np cp) P))(bP:aD P)(Kf:O (PPB ns))(hm:Mg m)(eL:O (um ns P=L)):dQ dG 110 #[cO e g x t (.S p n c) (.S q m d),.S pp np cp] w λr w'=>∃p' c',r=dR (.S p' (J L) c')/\TN (U (Q w)) w' (.S p' (J L) c') L/\Bw w w':=by
 let⟨W0,cT,W,z0,C0⟩:=yj w (.U e) (.U g) (.U x) (.I t) (.S p n c) (.S q m d);have HC:=ai λ(v:G)(R:Bw W0 v)=>aE (C0.H R) (aE (du.T hN (cG (aj W R))) (aE (hP.H (aj W R)) (aj W R)));let⟨BP,Z0⟩:=aQ bP z0;clear W C0 bP z0;go_in;go_wp2;rw[<-cT];clear cT
 go_loopw[5,6](λov iv wr=>∃(k:Nat)(M:List LI),k<=m/\iv=.I k/\O (um (jT k ns) P=M)/\O (TN (U (Q W0)) wr ov M)/\O (Bw W0 wr)) (λ_ iv _=>m-(jN (intOf iv)))
 exact⟨0,[],de _,rfl,(ai (by simp[um])),RT.nil _ _ _ _ _,bD _ _⟩;{
 obtain⟨k,M,hk,rfl,V,hT,aC⟩:=hrel;obtain⟨pv,cv,rfl,-,-,-⟩:=RT.form hT;have JX:J M<=k:=by have h1:=cm1 (ns:=jT k ns) P;have h2:=Rt k ns;rw[ae V]at h1;omega
 let⟨CB,HN,HP,bw⟩:=ae HC _ aC;have k5:=CB.1.1 5 _ rfl;by_cases aH:k<m;{
 have dm:=cM k m;obtain⟨E,hx⟩:∃x,ns[k]?=Y x:=⟨_,bN (ae em▸aH)⟩;have kJ:=ai (dR6 (P:=P) hx);obtain⟨gn,Pv,Vv,Hv,Uv,eq,-,-,c0,-,-,-,-,-,-,-,N,-,-,-,-⟩:=du.at HN hx;subst eq;let⟨Ma,sa,gM⟩:=ae Kf E (bq hx);let⟨nP,eN⟩:=cg (J E.A);obtain⟨pP,cP,rfl⟩:=N.fq;rw[ae eN]at c0 N gM;have TP:=ai N;have HV:=bG Ma sa;let⟨_,_,_,ec,gm,im⟩:=N.2.2;obtain⟨rfl,rfl,rfl⟩:=mh ec
 go_wp21
 refine(aw2 eN TP.1 gM gm im).h ?_;rintro r w1⟨qq,mm,dd,rfl,Ik,ea9,yO,X⟩;have B1:=ai (aj aC X);obtain⟨-,-,Nk,-⟩:=ae HC _ B1
 go_wp21
 refine cL (Sc Ik eP yO Nk (Vs HV.2) BP) λw2 Z=>?_;let⟨B2,T2⟩:=aQ (aj B1 Z) ((hT.T (cG X)).T (cG Z));obtain⟨CB,-⟩:=ae HC _ B2;have k5:=CB.1.1 5 _ rfl;have GW:=aq c0 (aj X Z);by_cases hq:iV E.A=P;{
 rw[show dD (iV E.A=P)=dY by simp[hq]];have E1:=ai (by have:=ae kJ;rwa [aK hq,ae V]at this:um (jT (k+1) ns) P=M++[wW E.A])
 go_wp21
 refine(dQ7 eN ((TP.T (cG X)).T (cG Z)).1 HV.2 gM HV.1).h ?_;rintro r w3⟨ql,ml,dl,rfl,eml,fw4,hol,aL⟩
 go_wp21
 refine(Dj eml hol.rd af).h ?_;rintro r w4⟨pc,cc,rfl,hoc,dz⟩;let⟨B4,T4⟩:=aQ (aj (aj B2 aL) dz) ((T2.T (cG aL)).T (cG dz));have z4:=B4.size;go_wp2_with(at_builtin;refine df8 rfl rfl (v:=.S pv (J M) cv) rfl rfl (TN.T T4 (cG cY) bf) (g:=U (Q w4)) rfl (hoc.tb.T (cG cY)) al af bL ?_);intro p' c' w5 T5 mY f5;go_wp2;go_roundw;exact⟨k+1,_,af,by go_num,E1,T5,(aj (ae B4) cY).grown mY bL (λb' e=>(T4.lt b' e).1)⟩;exact dy};{rw[show dD (iV E.A=P)=dF by simp[hq]];go_wp2;go_roundw;exact⟨k+1,M,af,by go_num,(by have:=ae kJ;rwa [aJ hq,ae V]at this:um (jT (k+1) ns) P=M),T2,B2⟩;exact dy}};{have dm:=ga k m;have e1:=ae V;rw[nZ (by rw[ae em];omega),ae eL]at e1;subst e1;go_wp2;go_ret;exact⟨_,_,rfl,RT.h hT (aM (ae Z0)),bw⟩}}
def QB(w:G)(b:Nat)(st op rs i:List dV):Prop:=BX w b st/\aT w (b+1) op/\BX w (b+1+1) rs/\RX w (b+1+1+1) i
theorem QB.W{st op rs m:List dV}(h:QB w' b st op rs m)(i:∀j,b<=j->j<b+4->w''.heap[j]?=w'.heap[j]?):QB w'' b st op rs m:=
 ⟨h.1.dt (i _ af af),h.2.1.dt (i _ af af),h.2.2.1.dt (i _ af af),h.2.2.2.dt (i _ af af)⟩
theorem dB8{r q o m j o5 i o7:dV}(hc:aT w b [r,q,o,m,j,o5,i,o7]):aT (nH w b v0 v1 v2 v3 v4 v5 v6 v7) b [v0,v1,v2,v3,v4,v5,v6,v7]:=
 (((((((hc.ew 0 al v0).ew 1 al v1).ew 2 al v2).ew 3 al v3).ew 4 al v4).ew 5 al v5).ew 6 al v6).ew 7 al v7
theorem NC(i:b'≠b):(nH w b v0 v1 v2 v3 v4 v5 v6 v7).heap[b']?=w.heap[b']?:=by
 unfold nH;rw[gh _ _ _ _ (show b'≠_ from i),gh _ _ _ _ (show b'≠_ from i),Hp i]
theorem cc4(h:∃cur,w.heap[b]?=dO cur ty):(∃cur,(nH w b v0 v1 v2 v3 v4 v5 v6 v7).heap[b]?=dO cur ty)/\Fr [ty] w (nH w b v0 v1 v2 v3 v4 v5 v6 v7):=by
 have m:=qL (j:=6) (u:=v6) (as2 h (v0:=v0) (v1:=v1) (v2:=v2) (v3:=v3) (v4:=v4) (v5:=v5));have i:=qL (j:=7) (u:=v7) m.1;obtain⟨cur,o⟩:=h;exact⟨i.1,((xB o).Z m.2).Z i.2⟩
theorem QB.fin{st op:List dV}(h:QB w b st op [o0,o1,o2,o3,o4,o5] [p0,p1,p2,p3,p4,p5,p6,p7])(j:Nat)(u v0 v1 v2 v3 v4 v5 y x s r q o m i:dV):Fr [44,50] w (nH (gL (jS w (Ad b j) u) (b+1+1) v0 v1 v2 v3 v4 v5) (b+1+1+1) y x s r q o m i)/\Below b w (nH (gL (jS w (Ad b j) u) (b+1+1) v0 v1 v2 v3 v4 v5) (b+1+1+1) y x s r q o m i):=by
 have E:=(qL (j:=j) (u:=u) h.1.2).2;have M:BX (jS w (Ad b j) u) (b+1+1) _:=h.2.2.1.Yy af;have D:Fr [44] (jS w (Ad b j) u) (gL (jS w (Ad b j) u) (b+1+1) v0 v1 v2 v3 v4 v5):=by obtain⟨-,cur,ht⟩:=M;exact xB ht
 exact⟨(E.sub al).Z ((D.sub al).Z (((((h.2.2.2.T E).T D).put y x s r q o m i).2).sub al)),(((bD b w).setCell (p:=(Ad b j)) aU u).Z ((vE _ _ _ _ _ _ _).h af)).Z ((rT).h af)⟩
theorem eL4(en:Le ss n)(em:Le ns m){S:Int}(eP:Le P np)(eV:Le V nv)(hS:O (fh B w (.S p n c) ss Qs))(hN:O (ld B w (.S q m d) ns))(hP:O (Rd w (.S pp np cp) P))(hV:O (Rd w (.S pq nv cv) V))(hB:B<=U (Q w))(hm:Mg m)(hp:np<=2^20)(X:nv<=2^20)(gm:np<=cp)(im:cp<=maxLen)(dr:O (aD P/\∀nd∈ns,aD nd.A)){R:SD×RP}(eR:O (Fo ⟨e,g,x,t,ss,ns⟩ P V S F=R)):dQ dG 107 #[cO e g x t (.S p n c) (.S q m d),nI K S (.S pp np cp) F (.S pq nv cv) E iG] w λr w'=>QR B w w' r R.1 R.2:=by
 let⟨W0,cT,b0,z0,C0⟩:=yj w (.U e) (.U g) (.U x) (.I t) (.S p n c) (.S q m d);obtain⟨W1,fT,b1,z1,C1,-⟩:=cR W0 #[.I K,.U S,.S pp np cp,.I F,.S pq nv cv,.U E,.U iG] 54;let⟨W2,fW,b2,z2,C2⟩:=Cr W1;let⟨W3,ky,y,z3,C3⟩:=yi W2 (.I 0) (.U 0) (.U 0) (.U 0) (.I 0) aN aN aN;rw[z0]at C1 z1;rw[z1]at C2 z2;rw[z2]at C3 z3;have LQ:QB W3 (U (Q w)) _ _ _ _:=⟨((C0.H b1).H b2).H y,(C1.H af b2).H af y,C2.H y,C3⟩;have bW:=aj (aj (aj b0 b1) b2) y;have HA:=ai (λ(v:G)(X:Bw W3 v)=>aE (QB.W LQ (λj h1 h2=>X.block j af)) (aE (hS.T (cG (aj bW X))) (aE (du.T hN (cG (aj bW X))) (aE (hP.H (aj bW X)) (aE (hV.H (aj bW X)) (aj bW X))))));have hR:=ae eR;unfold Fo at hR;have HR:=ai hR;go_in
 go_wp21
 rw[<-cT,<-fT,<-fW,<-ky];refine(aw3 em eP (du.QT (ae HA W3 db).2.2.1) (ae HA W3 db).2.2.2.1 hm af dr).h ?_;rintro r w1⟨hr,az⟩;have mW:=ai az;have Lb:=az.size;obtain⟨k,nd,rfl,hkm,hk,oR⟩|⟨rfl,iL⟩:=hr;{
 have Z:=ae HR;simp only[oR,Option.isSome_some,qR]at Z;have E9:=ai Z;have si:=gS 0 k
 go_wp21
 obtain⟨LW,SW,NW,-,-,BW⟩:=ae HA w1 mW;exact rq 2 4 5 15 16 6 results107 LW.1 LW.2.2.1 LW.2.2.2 en em SW NW (Fr.H BW) (BW.h hB) hB E9};{
 have Z:=ae HR;simp only[iL,ci9,JB,BK]at Z;have E8:=ai Z;have si:¬((0:Int)<=-1):=af;let⟨C,eC⟩:=cg (qG ns (iV P))
 go_wp21
 let⟨vA,br⟩:=aF w1.drew;have bM:Bw W3 vA:=aj (ae mW) (by rw[br];exact db.drew);let⟨BA,SS⟩:=aQ bM (λ(v:G)(X:Bw W3 v)=>aE (ae HA v X).1.1.D9 ((ae HA v X).1.2.1.1 2 _ rfl));refine fw (λw'=>(I w' (Aw w 0)=dU e/\I w' (Aw w 1)=dU g/\I w' (Aw w 2)=dU x/\I w' (Aw w 3)=dI t/\I w' (Aw w 4)=dS p n c/\I w' (Aw w 5)=dS q m d)/\I w' (Ax w 2)=dS pp np cp) (by rw[<-br];exact ae SS vA bM) λhS=>?_;rw[<-br]at hS⊢;refine fu 0 1 hS ?_;refine tn 2 hS ?_;refine fy 3 λKK hK=>?_;refine ju (aw2 eP (ae HA vA BA).2.2.2.1 hp gm im) ?_;rintro r v1⟨qq,mm,dd,rfl,Ik,ea9,yO,aA⟩;refine⟨_,rfl,?_⟩;have B1:=ai (aj BA aA);refine bS hK (by exact SS v1 B1) λhS=>?_;refine fy 4 λKK hK=>?_;refine uG (bf7 em Ik (du.QT (ae HA v1 B1).2.2.1) yO hm af (ai ⟨Vs dr.1,dr.2⟩) eC) ?_;rintro r v2⟨rfl,aA⟩;refine⟨_,rfl,?_⟩;have B2:=ai (aj B1 aA);refine bS hK (by exact SS v2 B2) λhS=>?_;refine tn 5 hS ?_;refine fQ ?_;have Ya:=B2.size;have Z:=ae E8;simp only[ae eC]at Z;cases C;{
 simp only[qR]at Z;have E9:=ai Z
 go_wp21
 obtain⟨LW,SW,NW,-,-,BW⟩:=ae HA v2 B2;exact rq 2 4 5 23 24 7 results107 LW.1 LW.2.2.1 LW.2.2.2 en em SW NW (Fr.H BW) (BW.h hB) hB E9};{
 have WV:=ae em;simp only[Bool.true_eq_false,BK,WV]at Z;clear WV;have k5:=(ae SS v2 B2).1.2.2.2.2.2;by_cases cC5:200<=m;{
 rw[aK cC5]at Z;have E9:=ai Z;have es8:=gS 200 m;clear Z E8
 go_wp21
 obtain⟨LW,SW,NW,-,-,BW⟩:=ae HA v2 B2;exact rq 2 4 5 29 30 11 results107 LW.1 LW.2.2.1 LW.2.2.2 en em SW NW (Fr.H BW) (BW.h hB) hB E9};{
 rw[aJ cC5]at Z;have E9:=ai Z;have es8:¬(200:Int)<=(m:Int):=af;clear Z E8
 go_wp21
 clear k5;let⟨vA,br⟩:=aF v2.drew;have bM:Bw W3 vA:=aj (ae B2) (by rw[br];exact db.drew);have BA:=ai bM;have zA:=bM.size;let⟨BR,SA,RW⟩:=gC (bD (U (Q vA)) vA) (λ(v:G)(X:Bw vA v)=>aE ((ae HA v (aj (ae BA) X)).1.2.1.1 2 _ rfl) ((ae HA v (aj (ae BA) X)).1.2.1.1 4 _ rfl)) (λ(v:G)(X:Bw vA v)=>aE (ae HA v (aj (ae BA) X)).2.2.2.1 (ae HA v (aj (ae BA) X)).2.2.2.2.1)
 go_cut[6](λbv wc=>∃bz pa ca pb cb,bv=Pz bz/\O (U (Q vA)<=bz)/\O (bz<U (Q wc))/\O (aT wc bz [.S pa np ca,.S pb nv cb,.U 0,.I 0,ay,.U 0,.U 0,ay])/\O (∃cur,wc.heap[bz]?=dO cur 149)/\O (TC B wc (.S pa np ca) P)/\O (TC B wc (.S pb nv cb) V)/\O (Bw vA wc))
 case first=>(
 refine fw (λw'=>I w' (Ax w 2)=dS pp np cp/\I w' (Ax w 4)=dS pq nv cv) (by rw[<-br];exact ae SA vA BR) λhS=>?_;rw[<-br]at hS⊢;clear br bM;let⟨v,hvv⟩:=aF vA;have BV:O (Bw vA v):=by rw[hvv];exact ae BR
 rw[<-hvv]at hS⊢;clear hvv;refine iy 0 1 3 4 hS ?_
 iterate 3 (
  all_goals(first|refine xG 2 (λKK hK=>?_)|refine xG 5 (λKK hK=>?_)|refine xG 7 (λKK hK=>?_)|refine CL 2 7 (λKK hK=>?_) (λKK hK=>?_)|refine CL 5 7 (λKK hK=>?_) (λKK hK=>?_))
  all_goals(first
   |(
    refine Tag.go 2 (ju (Dj eP (ae RW _ BV).1 af) ?_);rintro r v'⟨pa,ca,rfl,o,hb⟩;refine⟨_,rfl,?_⟩;have OA:=ai (o.tc (B:=B) (aM BV.size));clear o)
   |(
    refine Tag.go 5 (ju (Dj eV (ae RW _ BV).2 af) ?_);rintro r v'⟨pb,cb,rfl,o,hb⟩;refine⟨_,rfl,?_⟩;have OB:=ai (o.tc (B:=B) (aM BV.size));have T6:=iH;clear o)
   |(
    refine Tag.go 7 ?_;go_simp;let⟨v',hZ,hb,z9,CZ0,CT0⟩:=cR v #[ay,ay,.U 0,.I 0,ay,.U 0,.U 0,ay] 149;rw[<-hZ];have fI:=ai (show U (Q vA)<=U v.heap from BV.size);let⟨bz,ebz⟩:=aF (U (Q v));rw[<-ebz]at CZ0 CT0 fI⊢;have M:=eG (by omega:bz<U (Q v')) CZ0 (⟨_,CT0⟩:∃cur,v'.heap[bz]?=dO cur 149);clear hZ CZ0 CT0 ebz z9))
  all_goals(
   have zb:=hb.size
   try have OA:=ai (OA.T (cG hb))
   try have OB:=ai (OB.T (cG hb))
   try have M:=eG (mH M.1 zb) (M.2.1.H M.1 hb) (M.2.2.imp λcur hc=>(hb.block _ M.1).Z hc)
   have BV:=ai (BV.Z (hb.h BV.size));refine bS hK (by exact SA _ BV) λhS=>?_;clear hK KK hb zb
   try(
    clear T6;refine tk 6 hS (h:=?_);simp only[Act.put,xa,xb,xc])
   rename G=>v
   skip))
 all_goals(
  refine fy 8 (λKK hK=>?_);obtain⟨c0,c1,c2,c3,c4,c5,c6,c7,cf⟩:_/\_/\_/\_/\_/\_/\_/\_/\_:=⟨M.2.1.1 0 _ rfl,M.2.1.1 1 _ rfl,M.2.1.1 2 _ rfl,M.2.1.1 3 _ rfl,M.2.1.1 4 _ rfl,M.2.1.1 5 _ rfl,M.2.1.1 6 _ rfl,M.2.1.1 7 _ rfl,M.2.1.2⟩;go_simp;let⟨iY,hY⟩:=aF (nH v bz (.S pa np ca) (.S pb nv cb) (.U 0) (.I 0) ay (.U 0) (.U 0) ay);have NY:=ai (dB8 M.2.1 (v0:=.S pa np ca) (v1:=.S pb nv cb) (v2:=.U 0) (v3:=.I 0) (v4:=ay) (v5:=.U 0) (v6:=.U 0) (v7:=ay));have bY:=rT (w:=v) (b:=bz) (v0:=.S pa np ca) (v1:=.S pb nv cb) (v2:=.U 0) (v3:=.I 0) (v4:=ay) (v5:=.U 0) (v6:=.U 0) (v7:=ay);rw[<-hY]at NY bY;let⟨TY,FY⟩:=cc4 (v0:=.S pa np ca) (v1:=.S pb nv cb) (v2:=.U 0) (v3:=.I 0) (v4:=ay) (v5:=.U 0) (v6:=.U 0) (v7:=ay) M.2.2;rw[<-hY]at TY FY;unfold nH gL at hY;rw[<-hY];have BY:=ai (BV.Z (bY.h fI));refine hK.out _ _ (by exact SA iY BY) (λhS=>?_);clear hK KK hY c0 c1 c2 c3 c4 c5 c6 c7 cf;refine fQ ?_;clear hS
  go_wp21
  go_meet;exact⟨bz,pa,ca,pb,cb,rfl,fI,ai (mH M.1 bY.size),NY,TY,ai (OA.T FY),ai (OB.T FY),BY⟩))
 case rest=>(
 obtain⟨bz,pa,ca,pb,cb,rfl,fI,gv,M,CT,OA,OB,BC⟩:=hcut;have zC:=BC.size;have bi0:=ae gv;have dX0:=ae fI;obtain⟨W,eO⟩:∃W,O ((if F=1 then S else 0)=W):=⟨_,rfl⟩;have Z:=ae E9;rw[ae eO]at Z;have E7:=ai Z;clear Z E9;have o1:=(ae HA wc (aj BA BC)).1.2.1.1 1 _ rfl;have o3:=(ae HA wc (aj BA BC)).1.2.1.1 3 _ rfl;have n2:=M.1 2 _ rfl;have nf:=M.2
 go_upto_if 40 with fail
 go_cut[](λwd=>O (aT wd bz [.S pa np ca,.S pb nv cb,.U W,.I 0,ay,.U 0,.U 0,ay])/\O (∃cur,wd.heap[bz]?=dO cur 149)/\O (TC B wd (.S pa np ca) P)/\O (TC B wd (.S pb nv cb) V)/\O (Bw vA wd)/\O (bz<U (Q wd)))
 case first=>(
 by_cases hF:F=1;{
 have hF':(F==1):=by simp[hF]
 obtain rfl:W=S:=by rw[<-ae eO,aK hF]
 clear hF
 go_wp21
 go_meet;have ts:=qL (j:=2) (u:=.U W) CT;exact⟨ai (M.ew 2 al (.U W)),ts.1,ai (OA.T ts.2),ai (OB.T ts.2),ai (BC.setCell (p:=(Ad bz 2)) dX0 _),bL⟩};{
 have hF':(F==1)=dF:=by simp[hF]
 obtain rfl:W=0:=by rw[<-ae eO,aJ hF]
 clear hF
 go_wp21
 go_meet;exact⟨M,CT,OA,OB,BC,gv⟩})
 case rest=>(
 obtain⟨wd,rfl⟩:=aF wc;clear M CT OA OB BC gv bi0 zC o1 o3 n2 nf;obtain⟨M,-,OA,OB,BC,gv⟩:=hcut;have bi0:=ae gv;have zD:=BC.size;have BD:=ai (aj BA BC);have HD:=ai (λ(v:G)(X:Bw wd v)=>aE (ae HA v (aj (ae BD) X)) (aE (M.H bi0 X) (aE (OA.T (cG X)) (OB.T (cG X)))));clear M OA OB BC HA SA RW
 go_wp21
 go_loopw[7,8,9](λov dv iv wr=>∃(j:Nat)(L:List au)(dn:Bool)(nl:Nat)(po:OA)(co:Nat),j<=m/\iv=.I j/\dv=jO dn/\ov=.S po nl co/\Le L nl/\O (JP (jT j ns) (rU P V W)=(L,dn))/\O (du B (U (Q wd)) wr (.S po nl co) L)/\O (Bw wd wr)) (λ_ _ iv _=>m-(jN (intOf iv)))
 exact⟨0,[],dF,0,dN,0,de _,rfl,rfl,rfl,rfl,di,RT.nil _ _ _ _ _,bD _ _⟩;{
 obtain⟨j,L,dn,nl,po,co,hj,rfl,rfl,rfl,iq,hL,ho,aC⟩:=hrel;have zr:=aC.size;have wY:nl<4194300:=by have h1:=cn8 (rU P V W) (jT j ns) ([],dF);have h2:=Rt j ns;have h3:=ae hL;unfold JP at h3;rw[h3,ae iq]at h1;simp only[BJ]at h1;omega
 have s5:=(ae HD wr aC).1.1.1.1.1 5 _ rfl;by_cases aH:j<m;{
 have dm:=cM j m;obtain⟨x0,hx⟩:∃x0,ns[j]?=Y x0:=⟨_,bN (by rw[ae em];exact aH)⟩;have cK:=dU0 (nd:=(rU P V W)) hx;rw[ae hL]at cK;obtain⟨gn,Pv,Vv,Hv,Uv,rfl,-,-,c0,c1,c2,c3,c4,c5,c6,c7,tP,tV,tH,tU,-⟩:=du.at (ae HD wr aC).1.2.2.1 hx;obtain⟨pP,cP,rfl⟩:=tP.fq;obtain⟨pV,cV,rfl⟩:=tV.fq;obtain⟨pH,cH,rfl⟩:=tH.fq;obtain⟨pU,cU,rfl⟩:=tU.fq;have TT:=gJ tP tV tH tU;have CC:=bG c0 (aE c1 (aE c2 (aE c3 (aE c4 (aE c5 (aE c6 c7))))));let⟨T,eT⟩:=cg (!dn&&Oi P x0.A)
 change O _ at hx cK
 clear tP tV tH tU c0 c1 c2 c3 c4 c5 c6 c7
 go_wp21
 clear s5
 go_cut[65](λrv wc=>rv=jO T/\O (Bw wr wc))
 case first=>(
 refine VE ?_;let⟨vB,hvB⟩:=aF wr.drew;have Dz:=kH hvB;have BB:=ai Dz;have hD:=ae HD vB (aj aC Dz);refine VB (S:=λw'=>I w' (Aw w 5)=dK gn m d/\I w' (Ad gn (j*8))=dS pP (J x0.A) cP/\I w' (Ad bz 0)=dS pa np ca/\Rd w' (.S pP (J x0.A) cP) x0.A/\Rd w' (.S pa np ca) P) aS (by rw[<-hvB];exact⟨hD.1.1.1.1.1 5 _ rfl,aq CC.1 Dz,hD.2.1.1 0 _ rfl,TT.1.1.H Dz,hD.2.2.1.1⟩) (λhS=>?_);rw[<-hvB]at hS⊢;clear hvB Dz hD;cases dn;{
 have UF:O ((!Op.bytesLess (bg x0.A).toList (bg P).toList&&!(bg x0.A).toList==(bg P).toList)=T):=eT;refine gr 0 1 2 3 4 5 6 7 hS ?_;refine tn 8 hS ?_;refine JG (i:=9) (oi:=_) (v:=?_) (by simp only[rB,sR,sQ];rfl) aS aS aS (λ_ _ _ h=>h) (Or.L ⟨aY,?_⟩) hS ?_;rotate_left;{(intro w' pf;(try dsimp only at pf);have hcv:=vz rfl pf.2.2.2.1;go_simp;try with_reducible rfl)}
 simp only[Act.put,xa,xb,xc];refine fu 10 11 hS ?_;refine JG (i:=12) (oi:=_) (v:=?_) (by simp only[rB,sR,sQ];rfl) aS aS aS (λ_ _ _ h=>h) (Or.L ⟨aY,?_⟩) hS ?_;rotate_left;{(intro w' pf;(try dsimp only at pf);have hcv:=vz eP pf.2.2.2.2;go_simp;try with_reducible rfl)}
 simp only[Act.put,xa,xb,xc];refine JG (i:=13) (oi:=_) (v:=?_) (by simp only[rB,sR,sQ];rfl) aS aS aS (λ_ _ _ h=>h) (Or.L ⟨aY,?_⟩) hS ?_;rotate_left;{(intro w' pf;(try dsimp only at pf);have hle:=ae UF;go_simp;try with_reducible rfl)}
 simp only[Act.put,xa,xb,xc];refine tn 14 hS ?_;refine fQ ?_;clear hS
 go_wp21
 go_meet;exact⟨rfl,BB⟩};{
 obtain rfl:T=dF:=eT.C;refine fu 0 1 hS ?_;refine tn 2 hS ?_;refine iT 3 4 5 6 hS ?_;refine iT 7 8 9 10 hS ?_;refine sn 11 hS ?_;refine sn 12 hS ?_;refine sn 13 hS ?_;refine tn 14 hS ?_;refine fQ ?_;clear hS
 go_wp21
 go_meet;exact⟨rfl,BB⟩})
 case rest=>(
 obtain⟨wx,rfl⟩:=aF wc;obtain⟨rfl,Tb⟩:=hcut;let⟨pK,XH⟩:=aQ (aj aC Tb) (du.T ho (cG Tb));clear TT CC ho;have s5:=(ae HD wx pK).1.1.1.1.1 5 _ rfl;cases T;{
 have E1:=ai (by have:=ae cK;rw[xO,aJ (λh=>by obtain⟨ha,hb⟩:=h;have h2:=ae eT;rw[show dn=dF from ha,show Oi P x0.A=dY from hb]at h2;cases h2)]at this;exact this:JP (jT (j+1) ns) (rU P V W)=(L++[x0],dn));obtain⟨Tv,Pv,Vv,Hv,Uv,eg,-,-,c0,c1,c2,c3,c4,c5,c6,c7,tP,tV,tH,tU,-⟩:=du.at (ae HD wx pK).1.2.2.1 hx;obtain⟨rfl,-⟩:=yr eg;obtain⟨pP,cP,rfl⟩:=tP.fq;obtain⟨pV,cV,rfl⟩:=tV.fq;obtain⟨pH,cH,rfl⟩:=tH.fq;obtain⟨pU,cU,rfl⟩:=tU.fq;have TT:=gJ tP tV tH tU;clear tP tV tH tU;let⟨v8,yM⟩:=aF (jA wx (dO #[.S pP (J x0.A) cP,.S pV (J x0.V) cV,.U x0.D,.I x0.M,.S pH (J x0.y) cH,.U x0.P,.U x0.F,.S pU (J x0.X) cU] 149));have y:=ir yM;have DV:=eG (du.T XH (cG y)) (show AE B v8 x0 [.S pP (J x0.A) cP,.S pV (J x0.V) cV,.U x0.D,.I x0.M,.S pH (J x0.y) cH,.U x0.P,.U x0.F,.S pU (J x0.X) cU]from⟨_,_,_,_,rfl,TC.T TT.1 (cG y),TC.T TT.2.1 (cG y),TU.T TT.2.2.1 (cG y),TU.T TT.2.2.2 (cG y)⟩) (show aT v8 (U (Q wx)) _ by rw[yM];exact aT.alloc _ _ _);have OE:=ai λb e=>(XH.lt b e).1;have z38:=y.size;have zw8:=pK.size
 change O _ at y
 go_wp2_with(at_builtin;rw[<-yM];refine Yc rfl rfl (.S po nl co) iq rfl DV.1 (U (Q wx)) rfl DV.2.1 DV.2.2.1 af af ?_);intro p8 c8 w8 o2 fx _;rw[<-yM]at fx;let⟨b8,O8⟩:=aQ ((aj pK y).grown fx af OE) o2;clear fx o2 yM DV OE y c0 c1 c2 c3 c4 c5 c6 c7 s5;go_wp2;go_roundw;exact⟨j+1,_,dn,nl+1,_,_,af,by go_num,rfl,rfl,ai (by rw[fe,ae iq];rfl),E1,O8,b8⟩;exact dy};{
 have hdn:dn=dF/\Oi P x0.A:=by have:=ae eT;cases dn<;>simp_all
 obtain⟨rfl,Gx⟩:=hdn;have E1:=ai (by have:=ae cK;rw[xO,aK ⟨rfl,Gx⟩]at this;exact this:JP (jT (j+1) ns) (rU P V W)=(L++[(rU P V W)]++[x0],dY));clear Gx;have M:=ai (ae HD wx pK).2.1;let⟨n0,n1,n2,n3,n4,n5,n6,n7⟩:=Qd M.1;let⟨v8,yM⟩:=aF (jA wx (dO #[.S pa np ca,.S pb nv cb,.U W,.I 0,ay,.U 0,.U 0,ay] 149));have y:=ir yM;have DV:=eG (du.T XH (cG y)) (show AE B v8 (rU P V W) [.S pa np ca,.S pb nv cb,.U W,.I 0,ay,.U 0,.U 0,ay]from⟨_,_,_,_,rfl,TC.T (ae HD wx pK).2.2.1 (cG y),TC.T (ae HD wx pK).2.2.2 (cG y),TU.nil _,TU.nil _⟩) (show aT v8 (U (Q wx)) _ by rw[yM];exact aT.alloc _ _ _);have OE:=ai λb e=>(XH.lt b e).1;have Qb:=ai y;have z38:=y.size;have zw8:=pK.size;clear y;go_wp2_with(at_builtin;rw[<-yM];refine Yc rfl rfl (.S po nl co) iq rfl DV.1 (U (Q wx)) rfl DV.2.1 DV.2.2.1 af af ?_);intro p8 c8 w8 o2 fx _;rw[<-yM]at fx;let⟨b8,O8⟩:=aQ ((aj pK Qb).grown fx af OE) o2;clear fx o2 yM DV OE Qb n0 n1 n2 n3 n4 n5 n6 n7 s5 M;have cG7:=ai (by rw[fe,ae iq];rfl:J (L++[(rU P V W)])=nl+1);have s5:=(ae HD w8 b8).1.1.1.1.1 5 _ rfl;obtain⟨Tv,Pv,Vv,Hv,Uv,eg,-,-,c0,c1,c2,c3,c4,c5,c6,c7,tP,tV,tH,tU,-⟩:=du.at (ae HD w8 b8).1.2.2.1 hx;obtain⟨rfl,-⟩:=yr eg;obtain⟨pP,cP,rfl⟩:=tP.fq;obtain⟨pV,cV,rfl⟩:=tV.fq;obtain⟨pH,cH,rfl⟩:=tH.fq;obtain⟨pU,cU,rfl⟩:=tU.fq;have TT:=gJ tP tV tH tU;clear tP tV tH tU;let⟨v9,ZM⟩:=aF (jA w8 (dO #[.S pP (J x0.A) cP,.S pV (J x0.V) cV,.U x0.D,.I x0.M,.S pH (J x0.y) cH,.U x0.P,.U x0.F,.S pU (J x0.X) cU] 149));have y:=ir ZM;have HX9:=eG (du.T O8 (cG y)) (show AE B v9 x0 [.S pP (J x0.A) cP,.S pV (J x0.V) cV,.U x0.D,.I x0.M,.S pH (J x0.y) cH,.U x0.P,.U x0.F,.S pU (J x0.X) cU]from⟨_,_,_,_,rfl,TC.T TT.1 (cG y),TC.T TT.2.1 (cG y),TU.T TT.2.2.1 (cG y),TU.T TT.2.2.2 (cG y)⟩) (show aT v9 (U (Q w8)) _ by rw[ZM];exact aT.alloc _ _ _);have cs6:=ai λb e=>(O8.lt b e).1;have z39:=y.size;have zw9:=b8.size
 change O _ at y
 go_wp2_with(at_builtin;rw[<-ZM];refine Yc rfl rfl (.S p8 (nl+1) c8) cG7 rfl HX9.1 (U (Q w8)) rfl HX9.2.1 HX9.2.2.1 af af ?_);intro p9 c9 w9 o2 fx _;rw[<-ZM]at fx;let⟨b9,O9⟩:=aQ ((aj b8 y).grown fx af cs6) o2;clear fx o2 ZM HX9 cs6 y c0 c1 c2 c3 c4 c5 c6 c7 s5;go_wp2;go_roundw;exact⟨j+1,_,dY,nl+1+1,_,_,af,by go_num,rfl,rfl,ai (by rw[fe,ae cG7];rfl),E1,ai (by rw[xL];exact ae O9),b9⟩
 case measure=>simp[intOf];omega})}
 {
 have dm:=ga j m;have e1:=ae hL;rw[nZ (by rw[ae em];omega)]at e1;have e2:=dU1 ns (rU P V W);rw[e1]at e2;have E2:=ai e2;let⟨N,eN⟩:=cg (J (rF (rU P V W) ns));clear e1 e2
 go_upto_if 79 with fail
 clear s5
 go_cut[7](λov wc=>∃p' c',ov=.S p' N c'/\O (du B (U (Q wd)) wc (.S p' N c') (rF (rU P V W) ns))/\O (Bw wd wc))
 case first=>(
 cases dn;{
 have e2:L++[(rU P V W)]=rF (rU P V W) ns:=ae E2;have GO:nl+1=N:=by rw[<-ae eN,<-e2,fe,ae iq];rfl
 have EN:=bG e2 GO;clear e2 GO;have M:=ai (ae HD wr aC).2.1;let⟨n0,n1,n2,n3,n4,n5,n6,n7⟩:=Qd M.1;let⟨v8,yM⟩:=aF (jA wr (dO #[.S pa np ca,.S pb nv cb,.U W,.I 0,ay,.U 0,.U 0,ay] 149));have y:=ir yM;have DV:=eG (du.T ho (cG y)) (show AE B v8 (rU P V W) [.S pa np ca,.S pb nv cb,.U W,.I 0,ay,.U 0,.U 0,ay]from⟨_,_,_,_,rfl,TC.T (ae HD wr aC).2.2.1 (cG y),TC.T (ae HD wr aC).2.2.2 (cG y),TU.nil _,TU.nil _⟩) (show aT v8 (U (Q wr)) _ by rw[yM];exact aT.alloc _ _ _);have OE:=ai λb e=>(ho.lt b e).1;have z38:=y.size
 change O _ at y
 go_wp2_with(at_builtin;rw[<-yM];refine Yc rfl rfl (.S po nl co) iq rfl DV.1 (U (Q wr)) rfl DV.2.1 DV.2.2.1 af af ?_);intro p8 c8 w8 o2 fx _;rw[<-yM]at fx;let⟨b8,O8⟩:=aQ ((aj aC y).grown fx af OE) o2;clear fx o2 yM DV OE y n0 n1 n2 n3 n4 n5 n6 n7 M
 go_wp21
 go_meet;have o8:=ae O8;rw[EN.2,EN.1]at o8;exact⟨p8,c8,by rw[EN.2],o8,b8⟩};{
 have e2:L=rF (rU P V W) ns:=ae E2;have GO:nl=N:=by rw[<-ae eN,<-e2,ae iq]
 go_wp21
 go_meet;have o8:=ae ho;rw[GO,e2]at o8;exact⟨po,co,rfl,o8,aC⟩})
 case rest=>(
 obtain⟨wy,rfl⟩:=aF wc;obtain⟨p',c',rfl,NY,BY⟩:=hcut;obtain⟨LW,SW,-,-,-,BW⟩:=(ae HD wy BY).1;let⟨k0,k1,k2,k3,k4,k5,kf⟩:=LW.1.cells;let⟨q0,q1,q2,q3,q4,q5,qf⟩:=LW.2.2.1.cells;let⟨r0,r1,r2,r3,r4,r5,r6,r7,rf⟩:=LW.2.2.2.cells;let⟨fF,bF⟩:=LW.fin 5 (.S p' N c') (.U e) (.U g) (.U x) (.I t) (.S p n c) (.S p' N c') (.I 0) (.U 0) (.U 0) (.U 0) (.I 0) aN aN aN;have HF:=gJ fF bF SW BW;have zB:=BW.size;clear LW SW BW fF bF;go_wp2;refine cX (v:=dT #[cO e g x t (.S p n c) (.S p' N c'),ij 0 0 0 0 0 aN aN aN]) (by simp[results,results107,go_sem,k0,k1,k2,k3,k4,k5,q0,q1,q2,q3,q4,q5,r0,r1,r2,r3,r4,r5,r6,r7]) rfl ?_;rw[<-ae E7];exact QR.num en eN HF.2.2.1 (RT.h NY af) (Fr.H HF.2.2.2) (HF.2.2.2.h hB) HF.1 HF.2.1 hB 0 0 0 0 0)}}))}}}
def TX(w:G)(b:Nat)(st rs i:List dV):Prop:=BX w b st/\BX w (b+1+1) rs/\RX w (b+1+1+1) i
theorem TX.T{T:List TypeId}{st rs rp:List dV}(h:TX w b st rs rp)(hf:Fr T w w')(ht:44∉T/\50∉T:=by decide):TX w' b st rs rp:=⟨h.1.T hf ht.1,h.2.1.T hf ht.1,h.2.2.T hf ht.2⟩
theorem TX.fin{st:List dV}(h:TX w b st [o0,o1,o2,o3,o4,o5] [p0,p1,p2,p3,p4,p5,p6,p7])(v0 v1 v2 v3 v4 v5 u s r q o m j i:dV):Fr [44,50] w (nH (gL w (b+1+1) v0 v1 v2 v3 v4 v5) (b+1+1+1) u s r q o m j i)/\Below b w (nH (gL w (b+1+1) v0 v1 v2 v3 v4 v5) (b+1+1+1) u s r q o m j i):=by
 have x:Fr [44] w (gL w (b+1+1) v0 v1 v2 v3 v4 v5):=by obtain⟨-,cur,ht⟩:=h.2.1;exact xB ht
 exact⟨(x.sub al).Z ((((h.2.2.T x).put u s r q o m j i).2).sub al),((vE _ _ _ _ _ _ _).h af).Z ((rT).h af)⟩
theorem TX.put(h:TX w b [s0,s1,s2,s3,s4,s5] rs rp)(v0 v1 v2 v3 v4 v5:dV):TX (gL w b v0 v1 v2 v3 v4 v5) b [v0,v1,v2,v3,v4,v5] rs rp/\Fr [44] w (gL w b v0 v1 v2 v3 v4 v5)/\Below b w (gL w b v0 v1 v2 v3 v4 v5):=by
 have i:Fr [44] w (gL w b v0 v1 v2 v3 v4 v5):=by obtain⟨-,cur,ht⟩:=h.1;exact xB ht
 exact⟨⟨h.1.put _ _ _ _ _ _,h.2.1.py af _ _ _ _ _ _,h.2.2.T i⟩,i,vE _ _ _ _ _ _ _⟩
theorem QR.low{j i:G}{R:RP}(h:QR B w1 j r D R)(hF:Fr [125,148,149] w w1)(M:Below B w w1)(f:Fr [44,50] j i)(b:Below (U (Q w)) j i)(m:B<=U (Q w)):QR B w i r D R:=by
 obtain⟨p,c,q,d,W,V,Ev,S,e,y,E,x,s,u,o,N⟩:=h;exact⟨p,c,q,d,W,V,Ev,S,e,y.T f,du.T E f,x.T f,TN.T s f bf,nF.T u f,(hF.Z o).low b,(M.Z N).Z (b.h m)⟩
theorem dI2(en:Le ss n)(em:Le ns m)(hk:O (ns[k]?=nd)){S:Int}(eV:Le V nv)(hS:O (fh B w (.S p n c) ss Qs))(hN:O (ld B w (.S q m d) ns))(hV:O (Rd w (.S pq nv cv) V))(hB:B<=U (Q w))(hn:Mg n)(hm:Mg m)(Dw:O (NBo nd))(hvl:O (J nd.V<=2^20))(hv:nv<=2^20)(Kf:O (PPB ns))(hg:0<=g/\g<=2^62)(hex:O (nd.M=1->nd.y≠[])){R:SD×RP}(eR:O (BI ⟨e,g,x,t,ss,ns⟩ k K S F V=R)):dQ dG 111 #[cO e g x t (.S p n c) (.S q m d),.I k,nI K S (.S pp np cp) F (.S pq nv cv) E iG] w λr w'=>QR B w w' r R.1 R.2:=by
 obtain⟨gn,Pv,Vv,Hv,Uv,rfl,-,-,c0,c1,c2,c3,c4,c5,c6,c7,tP,tV,tH,tU,-⟩:=du.at hN hk;have hkm:k<m:=by rw[<-ae em];exact(bH.1 hk).1
 have ay9:=cM k m;obtain⟨pP,cP,rfl⟩:=tP.fq;obtain⟨pV,cV,rfl⟩:=tV.fq;obtain⟨pH,cH,rfl⟩:=tH.fq;obtain⟨pU,cU,rfl⟩:=tU.fq;let⟨nP,eP⟩:=cg (J nd.A);let⟨nV,eW⟩:=cg (J nd.V);let⟨nU,eU⟩:=cg (J nd.X);let⟨nh,eH⟩:=cg (J nd.y);let⟨az,aA,aL⟩:=ae Dw;have dz:=ae hvl;rw[ae eP]at c0 tP az;rw[ae eW]at c1 tV dz;rw[ae eH]at c4 tH aL;rw[ae eU]at c7 tU aA;have Gy:gn<U (Q w):=(hN.lt gn rfl).2;have uo:=(hN.lt gn rfl).1;let⟨W0,cT,b0,z0,C0⟩:=yj w (.U e) (.U g) (.U x) (.I t) (.S p n c) (.T gn m d);obtain⟨W1,fT,b1,z1,C1,-⟩:=cR W0 #[.I K,.U S,.S pp np cp,.I F,.S pq nv cv,.U E,.U iG] 54;let⟨W2,fW,b2,z2,C2⟩:=Cr W1;let⟨W3,ky,b3,z3,C3⟩:=yi W2 (.I 0) (.U 0) (.U 0) (.U 0) (.I 0) aN aN aN;let⟨W4,hW4,b4,z4,C4,T4⟩:=cR W3 #[.S pP nP cP,.S pV nV cV,.U nd.D,.I nd.M,.S pH nh cH,.U nd.P,.U nd.F,.S pU nU cU] 149;rw[z0]at C1 z1;rw[z1]at C2 z2;rw[z2]at C3 z3;rw[z3]at C4 T4 z4;have NT4:=ai T4;have bW:=aj (aj (aj (aj b0 b1) b2) b3) b4;have W:=ai (λ(v:G)(hv:Bw W4 v)=>aE (LB.W (⟨(((C0.H b1).H b2).H b3).H b4,((C1.H af b2).H af b3).H af b4,(C2.H b3).H b4,C3.H b4,C4⟩) (λj h1 h2=>hv.block j af)) (aE (hS.T (cG (aj bW hv))) (aE (du.T hN (cG (aj bW hv))) (aE (aE (tP.T (cG (aj bW hv))) (aE (tV.T (cG (aj bW hv))) (aE (tH.T (cG (aj bW hv))) (tU.T (cG (aj bW hv)))))) (aE (hV.H (aj bW hv)) (aj bW hv))))));have aW:=λ(o1 o2 o3 o4:Obj)=>((((bD (U (Q w)) w).alloc aU o1).alloc al o2).alloc bL o3).alloc bL o4;have m0:=λ(o1 o2 o3 o4:Obj)=>aq c0 (aW o1 o2 o3 o4);have m1:=λ(o1 o2 o3 o4:Obj)=>aq c1 (aW o1 o2 o3 o4);have m2:=λ(o1 o2 o3 o4:Obj)=>aq c2 (aW o1 o2 o3 o4);have m3:=λ(o1 o2 o3 o4:Obj)=>aq c3 (aW o1 o2 o3 o4);have m4:=λ(o1 o2 o3 o4:Obj)=>aq c4 (aW o1 o2 o3 o4);have m5:=λ(o1 o2 o3 o4:Obj)=>aq c5 (aW o1 o2 o3 o4);have m6:=λ(o1 o2 o3 o4:Obj)=>aq c6 (aW o1 o2 o3 o4);have m7:=λ(o1 o2 o3 o4:Obj)=>aq c7 (aW o1 o2 o3 o4);clear b0 b1 b2 b3 b4 C0 C1 C2 C3 C4 T4 c0 c1 c2 c3 c4 c5 c6 c7 tP tV tH tU aW bW;have hR:=ae eR;unfold BI at hR;simp only[ae hk]at hR
 change O _ at hR
 go_in
 go_upto_if 16 with fail
 rw[<-cT,<-fT,<-fW,<-ky,<-hW4];clear cT fT fW ky hW4 m0 m1 m2 m3 m4 m5 m6 m7;have BR:=ai (bD (U (Q W4)) W4);obtain⟨L4,-,-,-,-,-⟩:=ae W W4 BR;let⟨o0,o1,o2,o3,o4,o5,o6⟩:=Qe L4.2.1.1;have n0:=L4.2.2.2.2.1 0 _ rfl;have n4:=L4.2.2.2.2.1 4 _ rfl;let⟨k0,k1,k2,k3,k4,k5,kf⟩:=L4.1.cells;clear L4;by_cases xm:K=5;{
 have ae5:(K==5):=by simp[xm]
 have y:=ae hR;rw[aK xm]at y;have E8:=ai y;clear y hR xm;let⟨L,eL⟩:=cg (um ns nd.A);let⟨nl,iq⟩:=cg (J L)
 go_wp21
 obtain⟨-,-,N4,T4,-,-⟩:=ae W W4 BR;refine(cM0 em eP N4 T4.1.1 (ae Kf nd (bq (ae hk))).2.1 Kf hm eL).h ?_;rintro r w1⟨p1,c1,rfl,-,az⟩;have B1:=ai az;rw[ae iq];clear N4 T4 az o0 o1 o2 o3 o4 o5 o6 n0 n4 k0 k1 k2 k3 k4 k5 kf;have y:=ae E8;by_cases sX:nl=0;{
 rw[ae eL,uJ.1 (iq.Z sX),aJ al]at y;have E7:=ai y;have ec9:¬(0:Int)<(nl:Int):=af;clear y E8 sX;obtain⟨L1,-,-,T1,-,-⟩:=ae W w1 B1;have o1:=L1.2.1.1 1 _ rfl;let⟨n0,n1,n2,n3,n4,n5,n6,n7⟩:=Qd L1.2.2.2.2.1;have HU:=ai T1.2.2.1.1;clear L1 T1
 go_wp21
 refine cL (ev6 (P:=.S pP nP cP) (V:=.S pV nV cV) (H:=.S pH nh cH) (iU:=.S pU nU cU) eH HU rfl rfl rfl) λw2 aA=>?_;have B2:=ai (aj B1 aA);let⟨fb,efb⟩:=cg (yW nd S);have y:=ae E7;rw[ae efb]at y⊢;clear aA B1 o1 n0 n1 n2 n3 n4 n5 n6 n7 E7;cases fb;{
 rw[aK rfl]at y
 change O _ at y
 go_wp21
 obtain⟨LW,SW,NW,-,-,BW⟩:=ae W w2 B2;exact rq 3 6 7 30 31 9 results111 LW.1 LW.2.2.1 LW.2.2.2.1 en em SW NW (Fr.H BW) (BW.h hB) hB y};{
 rw[aJ al]at y
 change O _ at y
 obtain⟨L2,S2,N2,-,-,IQ⟩:=ae W w2 B2;have Ya:=IQ.size;have TX2:=ai (show TX w2 (U (Q w)) _ _ _ from⟨L2.1,L2.2.2.1,L2.2.2.2.1⟩);let⟨k0,k1,k2,k3,k4,k5,kf⟩:=L2.1.cells;let⟨oF,pG,sI⟩:=gC IQ S2 N2;clear L2 S2 N2 IQ
 go_wp21
 refine(ap4 e g x t en 2 nd hk B w2 pG sI af hn hm (by rw[ae eP];exact az) (by rw[ae eU];exact aA)).h ?_;rintro r w3⟨rfl,⟨Q3,DD⟩,tS,sj,EY⟩;have TX3:=ai (TX.T TX2 sj bf);let⟨TXp,fp,bp⟩:=TX.put TX3 (.U e) (.U g) (.U x) (.I t) (.S p n c) (.T gn m d);let⟨X,hX⟩:=aF (gL w3 (U (Q w)) (.U e) (.U g) (.U x) (.I t) (.S p n c) (.T gn m d));rw[<-hX]at TXp fp bp;have zX:=bp.size;have zf:=sj.1;have HX:=nK TXp (DD.T fp) (du.T tS fp) (Fr.low ((Fr.H oF).Z sj) bp) (((oF.h hB).Z EY).Z (bp.h hB));have s0:=TX3.1.cells;have y0:=TXp.1.cells;unfold gL at hX;clear TXp fp bp DD tS sj EY TX2 pG sI oF k0 k1 k2 k3 k4 k5 kf
 go_wp21
 rw[<-hX];clear hX s0 y0 TX3;refine(ca0 (ai (by rw[qS];exact ae em)) HX.2.2.1 hm).h ?_;rintro r w4⟨p4,c4,rfl,Tj,ad2⟩;obtain⟨M,eM⟩:∃M,M=jX (ns.set k {nd with X:=[]}) k:=⟨_,rfl⟩;let⟨N,eN⟩:=cg (J M);rw[<-eM,ae eN]at Tj⊢;have mv:=ai (TX.T HX.1 (cG ad2) bf);let⟨k0,k1,k2,k3,k4,k5,kf⟩:=mv.1.cells;let⟨q0,q1,q2,q3,q4,q5,qf⟩:=mv.2.1.cells;let⟨r0,r1,r2,r3,r4,r5,r6,r7,rf⟩:=mv.2.2.cells;have HZ:=gJ (HX.2.1.T (cG ad2)) (RT.h Tj af:ld B w4 (.S p4 N c4) M) (HX.2.2.2.1.Z (Fr.H ad2)) (HX.2.2.2.2.Z (ad2.h af));have HE:=ai eM;clear Tj ad2 HX eM;go_wp2;let⟨fF,bF⟩:=TX.fin mv (.U e) (.U g) (.U x) (.I t) (.S p n c) (.S p4 N c4) (.I 0) (.U 0) (.U 0) (.U 0) (.I 0) aN aN aN;refine cX (v:=dT #[cO e g x t (.S p n c) (.S p4 N c4),ij 0 0 0 0 0 aN aN aN]) (by simp[results,results111,go_sem,q0,q1,q2,q3,q4,q5,r0,r1,r2,r3,r4,r5,r6,r7]) rfl ?_;rw[<-ae y,aP5 (ae hk)];have hQ:=QR.num (e:=e) (g:=g) (x:=x) (t:=t) ((Yh _ _ _).Z en) eN HZ.1 HZ.2.1 HZ.2.2.1 HZ.2.2.2 fF bF hB 0 0 0 0 0;rw[ae HE]at hQ;exact hQ}};{
 rw[ae eL,aK (λh=>sX (by rw[<-ae iq,h];rfl))]at y;have E9:=ai y;have ec9:=uX 0 nl;clear y E8 sX
 go_wp21
 obtain⟨LW,SW,NW,-,-,BW⟩:=ae W w1 B1;exact rq 3 6 7 23 24 8 results111 LW.1 LW.2.2.1 LW.2.2.2.1 en em SW NW (Fr.H BW) (BW.h hB) hB E9}};{
 by_cases Av:K=6;{
 skip
 have ae5:(K==5)=dF:=by simp[xm]
 have aB7:(K==6):=by simp[Av]
 have y:=ae hR;rw[aJ xm,aK Av]at y;have E8:=ai y;clear y hR xm Av
 go_wp21
 clear o0 o1 o2 o3 o4 o5 o6 n0 n4 k0 k1 k2 k3 k4 k5 kf;let⟨vA,br⟩:=aF W4.drew;have bM:=kH br;let⟨BA,SA⟩:=aQ bM (λ(v:G)(hv:Bw W4 v)=>aE (ae W v hv).1.1.D9 (aE ((ae W v hv).1.2.2.2.2.1 2 _ rfl) (aE ((ae W v hv).1.2.2.2.2.1 5 _ rfl) (aE ((ae W v hv).1.2.2.2.2.1 6 _ rfl) (aE ((ae W v hv).1.2.2.2.2.1 3 _ rfl) ((ae W v hv).1.2.2.2.2.1 1 _ rfl))))));refine fw (λw'=>(I w' (Aw w 0)=dU e/\I w' (Aw w 1)=dU g/\I w' (Aw w 2)=dU x/\I w' (Aw w 3)=dI t/\I w' (Aw w 4)=dS p n c/\I w' (Aw w 5)=dK gn m d)/\I w' (Ad (U (Q w)+1+1+1+1) 2)=dU nd.D/\I w' (Ad (U (Q w)+1+1+1+1) 5)=dU nd.P/\I w' (Ad (U (Q w)+1+1+1+1) 6)=dU nd.F/\I w' (Ad (U (Q w)+1+1+1+1) 3)=dI nd.M/\I w' (Ad (U (Q w)+1+1+1+1) 1)=dS pV nV cV) (by rw[<-br];exact ae SA vA bM) λhS=>?_;rw[<-br]at hS⊢;clear br bM;refine gr 0 1 2 3 4 5 6 7 hS ?_;refine fu 8 9 hS ?_;refine tn 10 hS ?_;refine fy 11 λKK hK=>?_;refine ju (Dj eW (ae W vA BA).2.2.2.1.2.1.1 af) ?_;rintro r v1⟨pa,ca,rfl,oa,km⟩;refine fE ?_;let⟨B1,OA⟩:=aQ (aj BA km) oa.tb;refine bS hK (SA v1 B1) λhS=>?_;clear hK KK km oa;refine tn 12 hS ?_;obtain⟨L1,S1,N1,-,-,yY⟩:=ae W v1 B1;have LN:=bG L1.1 L1.2.2.2.2;have NT:=ai ((B1.block _ af).Z NT4);refine Vm 13 14 6 7 42 54 aS aS aS rfl rfl (U (Q w)+1+1) (U (Q w)+1+1+1) e g x t p n c (Ad gn 0) m d 0 nd.D nd.P nd.F nd.M pa nV ca dN 0 0 dN 0 0 rfl rfl rfl rfl L1.2.2.1 L1.2.2.2.1 af (λv hv fv=>?_) ?_;{have hb:=LN.1.dt (hv.block _ af);have hn:=LN.2.dt (fv.2 _ _ _ _ bf NT |>.Z NT.C);exact⟨hb.D9,hn.1 2 _ rfl,hn.1 5 _ rfl,hn.1 6 _ rfl,hn.1 3 _ rfl,hn.1 1 _ rfl⟩};intro w' az nj f1 tW;refine AJ ?_;clear hS;have HQ:=nK (S1.T f1) (du.T N1 f1) (OA.T f1) (Fr.low (Fr.H (T:=[125,148,149]) yY) (tW.h af)) ((yY.h hB).Z (tW.h af));clear f1 tW L1 S1 N1 yY;let⟨q0,q1,q2,q3,q4,q5,qf⟩:=az.cells;let⟨r0,r1,r2,r3,r4,r5,r6,r7,rf⟩:=nj.cells;go_wp2;refine cX (v:=dT #[cO e g x t (.S p n c) (.T gn m d),ij 0 nd.D nd.P nd.F nd.M (.S pa nV ca) aN aN]) (by simp[results,results111,go_sem,q0,q1,q2,q3,q4,q5,r0,r1,r2,r3,r4,r5,r6,r7]) rfl ?_;rw[<-ae E8];refine⟨p,c,Y (Ad gn 0),d,.S pa nV ca,aN,aN,Qs,by simp only[ae en,ae em],?_,?_,HQ.2.2.1,RT.nil _ _ _ _ _,RT.nil _ _ _ _ _,HQ.2.2.2.1,HQ.2.2.2.2⟩;{simp only[ae en];exact HQ.1};{simp only[ae em];exact HQ.2.1}};{
 by_cases DG:K=7;{
 skip
 have ae5:(K==5)=dF:=by simp[xm]
 have aB7:(K==6)=dF:=by simp[Av]
 have br4:(K==7):=by simp[DG]
 have y:=ae hR;rw[aJ xm,aJ Av,aK DG]at y;have E8:=ai y;clear y hR xm Av DG;obtain⟨T,eT⟩:∃T,O ((dD (nd.M=1)&&!(nd.y.headD 0==S))=T):=⟨_,rfl⟩
 go_wp21
 clear o0 o1 o2 o3 o4 o5 o6 n0 n4 k0 k1 k2 k3 k4 k5 kf
 go_cut[69](λrv wc=>rv=jO T/\O (Bw W4 wc))
 case first=>(
 let⟨vA,br⟩:=aF W4.drew;have bM:=kH br;have BA:=ai bM;obtain⟨L1,-,-,T1,-,-⟩:=ae W vA bM;have N3:=eG (L1.2.2.2.2.1 3 _ rfl) (L1.2.2.2.2.1 4 _ rfl) (L1.2.1.1 1 _ rfl);have TH:=ai T1.2.2.1.1;clear L1 T1;refine VE ?_;by_cases sc:nd.M=1;{
 have bl4:(nd.M==1):=by simp[sc]
 let⟨hd,tl,MI⟩:=ch6 (ae hex sc);have hT:(!(hd==S))=T:=by rw[<-ae eT,MI];simp[sc]
 let⟨bh,oh,ebh,ch⟩:=TH.at (k:=0) (x:=hd) (by rw[MI];rfl);have hnh:0<nh:=by rw[<-ae eH,MI];simp
 have fw3:=uX 0 nh;rw[Ek]at ch;subst ebh;refine VB (S:=λw'=>I w' (Ad (U (Q w)+1+1+1+1) 3)=dI nd.M/\I w' (Ad (U (Q w)+1+1+1+1) 4)=dS (Ad bh oh) nh cH/\I w' (Ax w 1)=dU S/\I w' (Ad bh oh)=dU hd) aS (by rw[<-br];exact⟨N3.1,N3.2.1,N3.2.2,ch⟩) (λhS=>?_);rw[<-br]at hS⊢;clear br bM ch MI sc;by_cases hx:hd=S;{
 have Ie:(hd != S)=dF:=by simp[hx]
 cases(by rw[<-hT];simp[hx]:T=dF);clear hT hx;refine gr 0 1 2 3 4 5 6 7 hS ?_;refine iy 8 9 10 11 hS ?_;refine fQ ?_;clear hS;exact uy};{
 have Ie:(hd != S):=by simp[hx]
 cases(by rw[<-hT];simp[hx]:T);clear hT hx;refine gr 0 1 2 3 4 5 6 7 hS ?_;refine iy 8 9 10 11 hS ?_;refine fQ ?_;clear hS;exact uy}};{
 have bl4:(nd.M==1)=dF:=by simp[sc]
 cases(by rw[<-ae eT];simp[sc]:T=dF);refine VB (S:=λw'=>I w' (Ad (U (Q w)+1+1+1+1) 3)=dI nd.M) aS (by rw[<-br];exact N3.1) (λhS=>?_);rw[<-br]at hS⊢;clear br bM sc;refine iy 0 1 2 3 hS ?_;refine iT 4 5 6 7 hS ?_;refine sn 8 hS ?_;refine sn 9 hS ?_;refine sn 10 hS ?_;refine tn 11 hS ?_;refine fQ ?_;clear hS;exact uy})
 case rest=>(
 obtain⟨w1,rfl⟩:=aF wc;obtain⟨rfl,B1⟩:=hcut;have y:=ae E8;have Lb:=B1.size;cases T;{
 rw[aJ (λh=>by have h3:=ae eT;rw[LG h.1,yG]at h3;exact h.2 (eq_of_beq (by cases hh:(nd.y.headD 0==S)with|true=>rfl|false=>rw[hh]at h3;cases h3)))]at y;have E9:=ai y;clear y E8
 go_wp21
 let⟨vA,br⟩:=aF w1.drew;have bM:Bw W4 vA:=aj (ae B1) (by rw[br];exact mC);let⟨BA,SA⟩:=aQ bM (λ(v:G)(hL:LB v (U (Q w)) [.U e,.U g,.U x,.I t,.S p n c,.T gn m d] [.I K,.U S,.S pp np cp,.I F,.S pq nv cv,.U E,.U iG] [.U 0,.U 0,.U 0,.I 0,ay,ay] [.I 0,.U 0,.U 0,.U 0,.I 0,aN,aN,aN] [.S pP nP cP,.S pV nV cV,.U nd.D,.I nd.M,.S pH nh cH,.U nd.P,.U nd.F,.S pU nU cU])=>aE (hL.1.1.1 5 _ rfl) (hL.2.1.1 4 _ rfl));refine fw (λw'=>I w' (Aw w 5)=dK gn m d/\I w' (Ax w 4)=dS pq nv cv) (by rw[<-br];exact ae SA vA (ae W vA bM).1) λhS=>?_;rw[<-br]at hS⊢;clear br bM;refine iy 0 1 2 3 hS ?_;refine tn 4 hS ?_;refine fy 5 λKK hK=>?_;refine ju (Dj eV (ae W vA BA).2.2.2.2.1 af) ?_;rintro r v1⟨pa,ca,rfl,oa,km⟩;refine fE ?_;let⟨B2,OA⟩:=aQ (aj BA km) (oa.tc (B:=B) (aM BA.size));have Ya:=B2.size;refine bS hK (SA v1 (ae W v1 B2).1) λhS=>?_;clear hK KK km oa;refine fu 6 7 hS ?_;refine fy 8 λKK hK=>?_;obtain⟨LV,SV,NV,-,-,bV⟩:=ae W v1 B2;obtain⟨Tv,P',V',H',U',eg,-,-,-,d1,-,-,-,-,-,-,-,-,-,-,Fm⟩:=du.at NV hk;obtain⟨rfl,-⟩:=yr eg;have Pw:=Fm (k*8+1);have AR:=gJ LV SV NV bV;clear NV LV SV bV Fm;go_simp;let⟨N4,F4⟩:=du.put AR.2.2.1 hk (j:=1) af (.S pa nv ca) {nd with V:=V} (λw' P V H iU h1 h2 h3 h4 hf=>⟨P,.S pa nv ca,H,iU,rfl,h1,OA.T hf,h3,h4⟩);let⟨Z,hZ⟩:=aF (jS v1 (Ad gn (k*8+1)) (.S pa nv ca));have LZ:=LB.W (w'':=Z) AR.1 (λj h1 h2=>by rw[hZ];exact gh _ _ _ _ (by show j≠gn;omega));have BZ:Below B w Z:=by rw[hZ];exact(AR.2.2.2.h hB).setCell (p:=(Ad gn _)) uo _
 rw[<-hZ]at N4 F4⊢;have zZ:=F4.1;have HZ:=nK (show TX Z (U (Q w)) _ _ _ from⟨LZ.1,LZ.2.2.1,LZ.2.2.2.1⟩) (AR.2.1.T F4) N4 ((Fr.H (T:=[125,148,149]) AR.2.2.2).Z (F4.sub al)) BZ;refine bS hK (SA Z LZ) λhS=>?_;clear hK KK hZ N4 F4 LZ BZ d1 Pw AR;refine fQ ?_;clear hS SA;let⟨k0,k1,k2,k3,k4,k5,kf⟩:=HZ.1.1.cells;have OI:=ai (uV hk {nd with V:=V})
 go_wp21
 refine(ap4 e g x t (p:=p) (c:=c) (q:=Y (Ad gn 0)) (m:=m) (d:=d) (Qs:=Qs) (ns:=ns.set k {nd with V:=V}) en (k:=k) 1 {nd with V:=V} OI B Z HZ.2.1 HZ.2.2.1 af hn hm (by show J nd.A<=_;rw[ae eP];exact az) (by show J nd.X<=_;rw[ae eU];exact aA)).h ?_;rintro r w3⟨rfl,⟨Q3,DD⟩,tS,sj,EY⟩;have mv:=ai (TX.T HZ.1 sj bf);clear k0 k1 k2 k3 k4 k5 kf;let⟨q0,q1,q2,q3,q4,q5,qf⟩:=mv.2.1.cells;let⟨r0,r1,r2,r3,r4,r5,r6,r7,rf⟩:=mv.2.2.cells;have HY:=gJ DD tS (HZ.2.2.2.1.Z sj) (HZ.2.2.2.2.Z EY);clear DD tS sj EY;go_wp2;let⟨fF,bF⟩:=TX.fin mv (.U e) (.U g) (.U x) (.I t) (.S p n c) (.T gn m d) (.I 0) (.U 0) (.U 0) (.U 0) (.I 0) aN aN aN;refine cX (v:=dT #[cO e g x t (.S p n c) (.T gn m d),ij 0 0 0 0 0 aN aN aN]) (by simp[results,results111,go_sem,q0,q1,q2,q3,q4,q5,r0,r1,r2,r3,r4,r5,r6,r7]) rfl ?_;rw[<-ae E9,aP5 (ae OI)];exact QR.num (e:=e) (g:=g) (x:=x) (t:=t) ((Yh _ _ _).Z en) (ai (by rw[qS,qS];exact ae em)) HY.1 HY.2.1 HY.2.2.1 HY.2.2.2 fF bF hB 0 0 0 0 0};{
 rw[aK (by have h3:=ae eT;obtain⟨ha,hb⟩:=Bool.and_eq_true_iff.1 h3;exact⟨VM ha,λhc=>by rw[hc]at hb;simp at hb⟩)]at y;have E9:=ai y;clear y E8
 go_wp21
 obtain⟨LW,SW,NW,-,-,BW⟩:=ae W w1 B1;exact rq 3 6 7 70 71 9 results111 LW.1 LW.2.2.1 LW.2.2.2.1 en em SW NW (Fr.H BW) (BW.h hB) hB E9})}
 {
 by_cases Mr:K=8;{
 skip
 have ae5:(K==5)=dF:=by simp[xm]
 have aB7:(K==6)=dF:=by simp[Av]
 have br4:(K==7)=dF:=by simp[DG]
 have cA2:(K==8):=by simp[Mr]
 have y:=ae hR;rw[aJ xm,aJ Av,aJ DG,aK Mr]at y;have E8:=ai y;clear y hR xm Av DG Mr
 go_wp21
 clear o0 o1 o2 o3 o4 o5 o6 n0 n4 k0 k1 k2 k3 k4 k5 kf;obtain⟨L4,S4,N4,-,-,bw4⟩:=ae W W4 BR;refine(dM7 en em hk S4 N4 af hm (by rw[ae eH];exact aL) hg E8).h ?_;rintro r w2⟨p',c',q',d',Dv,Nv,Ev,uB,rfl,ur,rh,tD,tN,tE,hF,ku⟩;let⟨mv,HQ⟩:=aQ (TX.T (show TX W4 (U (Q w)) _ _ _ from⟨L4.1,L4.2.2.1,L4.2.2.2.1⟩) hF bf) (show QR B W4 w2 _ R.1 R.2 from⟨p',c',q',d',Dv,Nv,Ev,uB,rfl,ur,rh,tD,tN,tE,hF,ku⟩);obtain⟨dp,dc,rfl⟩:=tD.fq;obtain⟨xp,xc,rfl,-⟩:=RT.form tN;obtain⟨yp,yc,rfl,-⟩:=RT.form tE;have BW:=ai bw4;clear L4 S4 N4 bw4 ur rh tD tN tE hF ku;let⟨q0,q1,q2,q3,q4,q5,qf⟩:=mv.2.1.cells;let⟨r0,r1,r2,r3,r4,r5,r6,r7,rf⟩:=mv.2.2.cells;go_wp2;let⟨fF,bF⟩:=TX.fin mv (.U R.1.e) (.U R.1.g) (.U R.1.x) (.I R.1.t) (.S p' (J R.1.E) c') (.S q' (J R.1.N) d') (.I R.2.k) (.U R.2.i) (.U R.2.e) (.U R.2.g) (.I R.2.n) (.S dp (J R.2.lW) dc) (.S xp (J R.2.iB) xc) (.S yp (J R.2.kF) yc);refine cX (v:=dT #[cO R.1.e R.1.g R.1.x R.1.t (.S p' (J R.1.E) c') (.S q' (J R.1.N) d'),ij R.2.k R.2.i R.2.e R.2.g R.2.n (.S dp (J R.2.lW) dc) (.S xp (J R.2.iB) xc) (.S yp (J R.2.kF) yc)]) (by simp[results,results111,go_sem,q0,q1,q2,q3,q4,q5,r0,r1,r2,r3,r4,r5,r6,r7]) rfl ?_;exact QR.low HQ (Fr.H BW) (BW.h hB) fF bF hB};{
 by_cases WG:K=9;{
 skip
 have ae5:(K==5)=dF:=by simp[xm]
 have aB7:(K==6)=dF:=by simp[Av]
 have br4:(K==7)=dF:=by simp[DG]
 have cA2:(K==8)=dF:=by simp[Mr]
 have eq4:(K==9):=by simp[WG]
 have y:=ae hR;rw[aJ xm,aJ Av,aJ DG,aJ Mr,aK WG]at y;have E8:=ai y;clear y hR xm Av DG Mr WG;let⟨bo,EU⟩:=cg (nd.y.contains S)
 go_wp21
 clear o0 o1 o2 o3 o4 o5 o6 n0 n4 k0 k1 k2 k3 k4 k5 kf;refine cL (bf6 eH (ae W W4 BR).2.2.2.1.2.2.1.1 aL EU) λw1 bo7=>?_;have Lb:=bo7.size
 change O _ at bo7
 have y:=ae E8;rw[ae EU]at y;cases bo;{
 rw[aJ al]at y;have E9:=ai y;clear y E8
 go_wp21
 obtain⟨LW,SW,NW,-,-,BW⟩:=ae W w1 bo7;exact rq 3 6 7 102 103 10 results111 LW.1 LW.2.2.1 LW.2.2.2.1 en em SW NW (Fr.H BW) (BW.h hB) hB E9};{
 rw[aK rfl]at y;have E9:=ai y;clear y E8;obtain⟨L1,S1,N1,-,-,yY⟩:=ae W w1 bo7;let⟨k0,k1,k2,k3,k4,k5,kf⟩:=L1.1.cells;have o1:=L1.2.1.1 1 _ rfl;have TX1:=ai (show TX w1 (U (Q w)) _ _ _ from⟨L1.1,L1.2.2.1,L1.2.2.2.1⟩);have H1:=eG S1 N1 yY;clear L1 S1 N1 yY
 go_wp21
 refine(cJ8 en hk H1.1 H1.2.1 af hn hm (by rw[ae eP];exact az) (by rw[ae eU];exact aA) (by rw[ae eH];exact aL)).h ?_;rintro r w3⟨rfl,⟨Q3,DD⟩,tS,sj,EY⟩;obtain⟨vX,Lp,jh,eD,el1,WW,-,-,-⟩:=cK0 (e:=e) (g:=g) (x:=x) (t:=t) (ss:=ss) hk S;rw[eD]at DD tS;have mv:=ai (TX.T TX1 sj bf);clear k0 k1 k2 k3 k4 k5 kf o1;let⟨q0,q1,q2,q3,q4,q5,qf⟩:=mv.2.1.cells;let⟨r0,r1,r2,r3,r4,r5,r6,r7,rf⟩:=mv.2.2.cells;have HY:=gJ DD tS ((Fr.H H1.2.2).Z sj) ((H1.2.2.h hB).Z EY);have HE:=eG eD el1 WW;clear DD tS sj EY eD el1 WW;go_wp2;let⟨fF,bF⟩:=TX.fin mv (.U e) (.U g) (.U x) (.I t) (.S p n c) (.T gn m d) (.I 0) (.U 0) (.U 0) (.U 0) (.I 0) aN aN aN;refine cX (v:=dT #[cO e g x t (.S p n c) (.T gn m d),ij 0 0 0 0 0 aN aN aN]) (by simp[results,results111,go_sem,q0,q1,q2,q3,q4,q5,r0,r1,r2,r3,r4,r5,r6,r7]) rfl ?_;rw[<-ae E9,HE.1];exact QR.num (e:=e) (g:=g) (x:=x) (t:=t) (HE.2.1.Z en) (HE.2.2.Z em) HY.1 HY.2.1 HY.2.2.1 HY.2.2.2 fF bF hB 0 0 0 0 0}};{
 skip
 have ae5:(K==5)=dF:=by simp[xm]
 have aB7:(K==6)=dF:=by simp[Av]
 have br4:(K==7)=dF:=by simp[DG]
 have cA2:(K==8)=dF:=by simp[Mr]
 have eq4:(K==9)=dF:=by simp[WG]
 have y:=ae hR;rw[aJ xm,aJ Av,aJ DG,aJ Mr,aJ WG]at y;have E8:=ai y;clear y hR xm Av DG Mr WG
 go_wp21
 clear o0 o1 o2 o3 o4 o5 o6 n0 n4 k0 k1 k2 k3 k4 k5 kf;let⟨vA,br⟩:=aF W4.drew;have bM:=kH br;have BA:=ai bM;have zA:=bM.size;have SA:=ai (λ(v:G)(hL:LB v (U (Q w)) [.U e,.U g,.U x,.I t,.S p n c,.T gn m d] [.I K,.U S,.S pp np cp,.I F,.S pq nv cv,.U E,.U iG] [.U 0,.U 0,.U 0,.I 0,ay,ay] [.I 0,.U 0,.U 0,.U 0,.I 0,aN,aN,aN] [.S pP nP cP,.S pV nV cV,.U nd.D,.I nd.M,.S pH nh cH,.U nd.P,.U nd.F,.S pU nU cU])=>aE (hL.1.1.1 5 _ rfl) (aE (hL.2.2.2.2.1 7 _ rfl) (hL.2.1.1 1 _ rfl)));refine fw (λw'=>I w' (Aw w 5)=dK gn m d/\I w' (Ad (U (Q w)+1+1+1+1) 7)=dS pU nU cU/\I w' (Ax w 1)=dU S) (by rw[<-br];exact ae SA vA (ae W vA bM).1) λhS=>?_;rw[<-br]at hS⊢;clear br bM;refine iy 0 1 2 3 hS ?_;refine fu 4 5 hS ?_;refine tn 6 hS ?_;refine fy 7 λKK hK=>?_;refine uG (cl5 eU (ae W vA BA).2.2.2.1.2.2.2.1 aA) ?_;rintro r v1⟨pl,cl,rfl,ol,km⟩;refine fE ?_;let⟨nl,iq⟩:=cg (J (me nd.X S));rw[ae iq]at ol⊢;let⟨OL,B2⟩:=aQ (ol.tu (B':=B) (aM BA.size)) (aj BA km);refine bS hK (SA v1 (ae W v1 B2).1) λhS=>?_;clear hK KK ol km;refine fu 8 9 hS ?_;refine fy 10 λKK hK=>?_;obtain⟨LV,SV,NV,-,-,bV⟩:=ae W v1 B2;obtain⟨Tv,P',V',H',U',eg,-,-,-,-,-,-,-,-,-,d7,-,-,-,-,Fm⟩:=du.at NV hk;obtain⟨rfl,-⟩:=yr eg;have Pw:=Fm (k*8+7);have AR:=gJ LV SV NV bV;clear NV LV SV bV Fm;go_simp;let⟨N4,F4⟩:=du.put AR.2.2.1 hk (j:=7) af (.S pl nl cl) {nd with X:=me nd.X S} (λw' P V H iU h1 h2 h3 h4 hf=>⟨P,V,H,.S pl nl cl,rfl,h1,h2,h3,OL.T hf⟩);let⟨Z,hZ⟩:=aF (jS v1 (Ad gn (k*8+7)) (.S pl nl cl));have LZ:=LB.W (w'':=Z) AR.1 (λj h1 h2=>by rw[hZ];exact gh _ _ _ _ (by show j≠gn;omega));have BZ:Below B w Z:=by rw[hZ];exact(AR.2.2.2.h hB).setCell (p:=(Ad gn _)) uo _
 rw[<-hZ]at N4 F4⊢;have mv:=ai (show TX Z (U (Q w)) _ _ _ from⟨LZ.1,LZ.2.2.1,LZ.2.2.2.1⟩);have HY:=gJ (AR.2.1.T F4) N4 ((Fr.H (T:=[125,148,149]) AR.2.2.2).Z (F4.sub al)) BZ;refine bS hK (SA Z LZ) λhS=>?_;clear hK KK hZ N4 F4 LZ BZ d7 Pw AR;refine fQ ?_;clear hS SA;let⟨k0,k1,k2,k3,k4,k5,kf⟩:=mv.1.cells;let⟨q0,q1,q2,q3,q4,q5,qf⟩:=mv.2.1.cells;let⟨r0,r1,r2,r3,r4,r5,r6,r7,rf⟩:=mv.2.2.cells;go_wp2;let⟨fF,bF⟩:=TX.fin mv (.U e) (.U g) (.U x) (.I t) (.S p n c) (.T gn m d) (.I 0) (.U 0) (.U 0) (.U 0) (.I 0) aN aN aN;refine cX (v:=dT #[cO e g x t (.S p n c) (.T gn m d),ij 0 0 0 0 0 aN aN aN]) (by simp[results,results111,go_sem,q0,q1,q2,q3,q4,q5,r0,r1,r2,r3,r4,r5,r6,r7]) rfl ?_;rw[<-ae E8];exact QR.num (e:=e) (g:=g) (x:=x) (t:=t) en (ai (by rw[qS];exact ae em)) HY.1 HY.2.1 HY.2.2.1 HY.2.2.2 fF bF hB 0 0 0 0 0}}}}}
theorem cD6(o:1<=k)(j:k<=13){s:Int}{B:Bool}(i:O (qt k s f n m e g=B)):dQ dG 101 #[mG k s (.S p n c) f (.S q m d) e g] w (Rb (jO B) w):=
 ew0 af af (p:=p) (q:=q) (c:=c) (d:=d) (w:=w) i
theorem cn1(h1:1<=k)(h2:k<=13):dQ dG 57 #[.I k] w λr w'=>r=dR (jO (Ah k))/\w'=w:=by
 have h:=dQ8 (k:=k) af (w:=w);obtain rfl|rfl|rfl|rfl|rfl|rfl|rfl|rfl|rfl|rfl|rfl|rfl|rfl:=kinds h1 h2<;>exact h
end Go.Proofs.YthlkmijffhhimaaGreatDoor
