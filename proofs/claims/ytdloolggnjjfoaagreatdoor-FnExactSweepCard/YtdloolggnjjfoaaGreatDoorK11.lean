import Derived.Test.YtdloolggnjjfoaaGreatDoorK9
open Array renaming size->U
open Bool renaming false->dF,true->dY
open Decidable renaming decide->dD
open Go renaming Calls->dQ,Value->dV,World->G
open Go.Ending renaming returned->dR
open Go.Obj renaming cells->dO
open Go.Proofs.Tryz renaming prog->dG
open Go.RowKit renaming Hid->O
open Go.Value renaming I->dI,pointer->dP,S->dS,tuple->dT,U->dU
open Go.World renaming cell?->I
open List renaming length->J
open Option renaming none->dN,some->Y
namespace Go.Proofs.YtdloolggnjjfoaaGreatDoor
set_option maxHeartbeats 12800000
set_option linter.all false
set_option maxRecDepth 100000
open Go.ChangeShapes Go.WideShapes Go.ChangeAt Go.RowKit Go.Maps Go.Proofs.Tryz
variable {l P VL V ids lm l0 l1 l2 l3 l4 R r:LI}{b bs bn i np nv cv j k cp nh z m n gO c d sz M N x L' b2:Nat}{D:SD}{nd:ar}{w0 iY u X:G}{B F:Bool}{pv pp pq p q p2:OA}{C s S E iG g e mo ep ge t y a':Int}{ss:List aB}{ns:List ar}{L:iN}{PP ls xs:List LI}{left:Lit->Bool}{vs cs:List dV}{Ls:List (List Lf)}{ty t1 t2:TypeId}{v v0 v1 v2 v3 v4 v5 v6 v7:dV}{lb:List Lf}{om o o' rh:Option LI}{rest:List Oper}{ops:iQ}{a:Act}{c2 c1:iA}
def dv3:J (ig l)<=J l+1:=by
 unfold ig;split;{simp};{rw[rM];omega}
def ao9(i:J P<=1048577):keyOf dG 9 (.string (aZ P))=(di P):=by
 rw[WideMaps.keyOf_string_mk underlying9 (by rw[Da];unfold maxLen;omega),Vr]
def PS.bf8{w0 w:G}{SB NB HB UB:iN}(h:PS w0 w b bs bn D SB NB HB UB){g:Nat}(x:D.N[i]?=nd)(y:NB[i]?=Y g)(s:J nd.A<=1048577):(Instr.lookup 179 (.map bn) (.string (aZ nd.A)) dY).run dG w=.ok (dT #[Pz g,.bool dY]) w:=by
 obtain⟨M,n,o,-,m,-⟩:=h.pX;let⟨v,B,r,j⟩:=o.look_ok ru underlying179 (SR w) (zd:=.nil) (zp:=[]) rfl (ao9 s);have q:(di nd.A,g)∈List.zipWith (λ(nd:ar)g=>(di nd.A,g)) D.N NB:=bu (i:=i) (by rw[qL,x,y]);rw[m.at' _ q]at j;obtain rfl:=TF j;rw[r,(m.hs _).2 ⟨_,q,rfl⟩]
def PS.aS6{w0 w:G}{SB NB HB UB:iN}(h:PS w0 w b bs bn D SB NB HB UB)(x:jW D.N P=dN)(R:aC P)(s:∀nd∈D.N,aC nd.A)(N:J P<=1048577):(Instr.lookup 179 (.map bn) (.string (aZ P)) dY).run dG w=.ok (dT #[dP dN,.bool dF]) w:=by
 obtain⟨M,n,o,-,m,-⟩:=h.pX;let⟨v,V,B,q⟩:=o.look_ok ru underlying179 (SR w) (zd:=.nil) (zp:=[]) rfl (ao9 N);have r:Maps.has M (di P)=dF:=by rw[DH];intro e;let⟨p,E,S⟩:=(m.hs _).1 e;obtain⟨i,nd,y,j,W,rfl⟩:=yD E;exact bZ2 x nd (bu j) (Ml (s nd (bu j)) R S)
 rw[Maps.atKey_of_not_has r]at q;obtain rfl:=aQ0 q;rw[B,r]
theorem eH4{w:G}{SB NB HB UB:iN}(h:O (PS w0 w b bs bn D SB NB HB UB))(R:O (aC l))(nL:O (∀nd∈D.N,aC nd.A))(M:J l<=1048577)(S:O (nQ D.N l=B)):dQ dG 182 #[Pz b,.string (aZ l)] w (Rb (.bool B) w):=by
 obtain⟨-,-,-,-,-,oI,-⟩:=h.nJ;have o:((aZ l).toList==(aZ [47]).toList)=dD (l=[47]):=Nq R (by intro y hy;simp at hy;omega);rw[show(aZ [47]).toList=[47]from Bj [47]]at o;by_cases m:l=[47];{
 obtain rfl:B:=by rw[<-ae S,nQ,aM m]
 have q:((aZ l).toList==[47]):=by rw[o];simp[m]
 let⟨s,es⟩:=aG (aZ l);rw[<-es]at q⊢;clear o m es;go_in;go_wp2;go_ret;exact⟨rfl,aR _ _⟩};{
 have q:((aZ l).toList==[47])=dF:=by rw[o];simp[m]
 have j:(match jW D.N l with|some nd=>nd.D==0|none=>dF)=B:=by rw[<-ae S,nQ,aL m];rfl
 cases hF:jW D.N l with
 |none=>
  rw[hF]at j;obtain rfl:B=dF:=j.C;have x:=h.aS6 hF R nL M;let⟨s,es⟩:=aG (aZ l);rw[<-es]at q x⊢;clear hF j es;go_in;go_wp2;go_ret;exact⟨rfl,aR _ _⟩
 |some nd=>
  rw[hF]at j;replace j:(nd.D==0)=B:=j;obtain⟨rfl,i,r⟩:=al4 hF;let⟨g1,h1,u1,E,Z,X,N⟩:=h.nat r;have x:=h.bf8 r E M;obtain⟨V,-,-,-,u,-⟩:=N.cells;let⟨ow,W⟩:=aY nd.D;rw[W]at u j;let⟨s,es⟩:=aG (aZ nd.A);rw[<-es]at q x⊢;clear hF r E Z X N W es;go_in;go_wp2;go_ret;exact⟨by rw[<-j];rfl,aR _ _⟩}
def KU(D:SD)(P:LI):Int:=if(jW D.N P).isSome then 6 else if nQ D.N (ig P)=dF then 7 else if 200<=J D.N then 11 else 0
theorem eA8{w:G}{SB NB HB UB:iN}(h:O (PS w0 w b bs bn D SB NB HB UB))(N:O (aC P))(u:Le P np)(jE:np<=1048576)(nL:O (∀nd∈D.N,aC nd.A)){id:Int}(eC:O (KU D P=C)):dQ dG 349 #[.agg #[.U id,.string (aZ P),.bool F,.S pv nv cv],Pz b] w (Rb (qS C) w):=by
 obtain⟨X,hX,bX,zX,CX,-⟩:=bQ w #[.U id,.string (aZ P),.bool F,.S pv nv cv] 311;have e:=ae eC;unfold KU at e;go_in;go_wp2_with fail;rw[<-hX];refine LH aU (λW s=>?_);have Z:Bw w W:=s▸bX.drew;have q:=ag (h.H Z);obtain⟨-,-,-,-,-,k5,-⟩:=q.nJ;have CW:=CX.de (w':=W) (by rw[s];rfl);have c1:=CW.1 1 _ rfl;have zW:U w.heap<U W.heap:=by rw[s];show _<U X.heap;omega
 have HCW:=ag CW;clear hX s CX CW;cases hF:jW D.N P with
 |some nd=>
  rw[hF]at e;obtain⟨rfl,i,hi⟩:=al4 hF;obtain⟨g1,h1,u1,q1,-,-,hN⟩:=q.nat hi;have fS:=q.bf8 hi q1 (by rw[ae u];omega);obtain rfl:C=6:=by rw[<-e];rfl
  repeat still_step
  refine qM ?_;go_wp2;go_ret;exact⟨rfl,Z⟩
 | none=>
  rw[hF]at e;have fS:=q.aS6 hF N nL (by rw[ae u];omega);have E:=ag e
  repeat still_step
  refine qM ?_;go_wp2_with fail;refine(aQ2 (l:=P) (n:=np) u N jE (w:=W)).h ?_;rintro r w2⟨rfl,rfl⟩;let⟨B,eB⟩:=cG (nQ D.N (ig P));have V:J (ig P)<=1048577:=by have:=dv3 (l:=P);have:=ae u;omega
  go_wp2_with fail;refine br (eH4 (w:=w2) (b:=b) (bs:=bs) (bn:=bn) (D:=D) (SB:=SB) (NB:=NB) (HB:=HB) (UB:=UB) q (l:=ig P) (TG N) nL V (B:=B) eB) λw5 cY=>?_;have e:=ae E;rw[ae eB]at e;have y:=ag (ai Z cY);have P5:=ag (q.H cY);cases B with
  |false=>
   obtain rfl:C=7:=by rw[<-e];simp
   go_wp2;go_ret;exact⟨rfl,y⟩
  |true=>
   obtain⟨-,-,-,-,-,k5,-⟩:=P5.nJ;let⟨M,n,o,hn,m,hz⟩:=P5.pX;have j:=o.len underlying179 3;rw[hz]at j;let⟨x,ik⟩:=aY (J D.N);rw[ik]at j e;by_cases h2:200<=x;{
 have R:=gm 200 x;obtain rfl:C=11:=by rw[<-e];simp[h2]
 go_wp2;go_ret;exact⟨rfl,y⟩};{
 have R:¬(200:Int)<=(x:Int):=af;obtain rfl:C=0:=by rw[<-e];simp[h2]
 go_wp2;go_ret;exact⟨rfl,y⟩}
def qw{α:Type}(j:Nat)(a:α)(l:List α):List α:=l.take j++a::l.drop j
def PG{α:Type}{a:α}{l:List α}(i:j<=J l):J (qw j a l)=J l+1:=by
 unfold qw;simp;omega
def ap4{α:Type}(a:α){l:List α}:(qw j a l).Perm (a::l):=by
 unfold qw;refine aV3.Z ?_;rw[Ic]
def ap5{α:Type}{a:α}{l:List α}(q:j<=J l)(i:Nat):(qw j a l)[i]?=if i<j then l[i]? else if i=j then Y a else l[i-1]?:=by
 unfold qw;by_cases m:i<j;{rw[aM m,mj (by rw[rM];omega),Pp,aM m]};{rw[aL m,pI (by rw[rM];omega),rM,aU9 q];by_cases o:i=j;{subst o;simp};{rw[aL o];obtain⟨d,rfl⟩:∃d,i=j+d+1:=⟨i-j-1,af⟩;rw[show j+d+1-j=d+1 by omega,uA,JS];simp}}
theorem cg0(nd:ar):∀l:List ar,∃j,j<=J l/\qt nd l=qw j nd l
 |[]=>⟨0,aj,by simp[qt,qw]⟩
 |x::r=>by rw[qt];split;{exact⟨0,aj,by simp[qw]⟩};{let⟨j,i,e⟩:=cg0 nd r;refine⟨j+1,bq,?_⟩;rw[e];simp[qw]}
def dM1{α β γ:Type}(f:α->β->γ){a:α}{c:β}{l:List α}{m:List β}(i:J l=J m)(o:j<=J l):List.zipWith f (qw j a l) (qw j c m)=qw j (f a c) (List.zipWith f l m):=by
 unfold qw;rw[aV4 (by simp[i]),cb5,List.take_zipWith,List.drop_zipWith]
def PS.cI4{w0 w w':G}{SB NB HB UB:iN}(h:PS w0 w b bs bn D SB NB HB UB){gN hN uN:Nat}(hj:j<=J D.N)(hPN:PN w0 w gN hN uN nd)(hg:gN∉NB)(zy:∀z∈bs::bn::(HB++UB),z≠hN/\z≠uN)(hNu:hN≠uN)(hid:∀nd'∈D.N,di nd'.A≠di nd.A)(iO:One w0 w w' bn)(hl:J D.N<1048576)(hM:∀M,w.ownsMap dG 9 iF bn (J D.N) M->w'.ownsMap dG 9 iF bn (J D.N+1) (M.put (di nd.A) (.lit (.I gN)))):PS w0 w' b bs bn {D with N:=qw j nd D.N} SB (qw j gN NB) (qw j hN HB) (qw j uN UB):=by
 let⟨d0,d1,d2,d3,d4,d5⟩:=h.hu;let⟨M,n,o,hn,m,hz⟩:=h.pX;let⟨es0,c0,m0⟩:=ownsMap_at o;have nc:∀{y:Nat}{cs:iA}{ty:TypeId},w.heap[y]?=dO cs ty->y≠bn:=λ{y cs ty}hy e=>by rw[e,m0]at hy;cases hy
 have ij:∀p∈List.zipWith (λ(nd:ar)g=>(di nd.A,g)) D.N NB,p.1≠di nd.A:=λp hp e=>by obtain⟨i,s',y,h1,-,rfl⟩:=yD hp;exact hid s' (bu h1) e
 have o':=Hq o;rw[hz]at o';refine⟨h.be.Z iO.b,iO.obj h.hd (nc h.hd),h.ur,?_,λi s1 g1 fo dw=>?_,h.snd,?_,?_,?_,⟨_,_,hM M o',af,?_,?_⟩,λi gQ gb h1 u1 fo dw nG jP=>?_,?_,h.lo,?_⟩;{let⟨M,n,o,r⟩:=h.tJ;exact⟨M,n,iO.map o d0,r⟩};{have q:=h.vz i s1 g1 fo dw;obtain⟨-,u,h1,-⟩:=id q;exact q.W iO (nc h1)};{rw[PG (h.vG▸hj),PG hj,h.vG]};{rw[PG (h.hlen▸hj),PG hj,h.hlen]};{rw[PG (h.vZ▸hj),PG hj,h.vZ]};{rw[dM1 _ h.vG.C hj];refine(m.put o.isMap (k:=di nd.A) iq ij gN).same λp=>?_;rw[(ap4 _).mem_iff];simp[or_comm]};{
 have hh:Maps.has M (di nd.A)=dF:=by rw[DH];intro e;let⟨p,hp,e2⟩:=(m.hs _).1 e;exact ij p hp e2
 rw[size_put (ak5 o ru),hh,PG hj];simp[hz]};{
 simp only[ap5 hj]at fo;rw[ap5 (h.vG▸hj)]at dw;rw[ap5 (h.hlen▸hj)]at nG;rw[ap5 (h.vZ▸hj)]at jP;have kp:∀{i':Nat},D.N[i']?=Y gQ->NB[i']?=Y gb->HB[i']?=Y h1->UB[i']?=Y u1->PN w0 w' gb h1 u1 gQ:=λa1 a2 a3 a4=>by have q:=h.qK _ gQ gb h1 u1 a1 a2 a3 a4;obtain⟨-,⟨V,q1,-⟩,p3,p4⟩:=id q;exact q.W iO (nc q1) (d1 _ (bu a3)).2 (d2 _ (bu a4)).2
 by_cases e1:i<j;{rw[aM e1]at fo dw nG jP;exact kp fo dw nG jP};{rw[aL e1]at fo dw nG jP;by_cases e2:i=j;{rw[aM e2]at fo dw nG jP;cases fo;cases dw;cases nG;cases jP;obtain⟨-,⟨V,q1,-⟩,p3,p4⟩:=id hPN;exact hPN.W iO (nc q1) (λe=>(zy bn aj).1 e.C) (λe=>(zy bn aj).2 e.C)};{rw[aL e2]at fo dw nG jP;exact kp fo dw nG jP}}};{rw[(ap4 _).nodup_iff,AL];exact⟨hg,h.Fm⟩};{
 have pm:(bs::bn::(qw j hN HB++qw j uN UB)).Perm (hN::uN::(bs::bn::(HB++UB))):=by
  have a1:(qw j hN HB++qw j uN UB).Perm (hN::uN::(HB++UB)):=
   ((ap4 (j:=j) hN (l:=HB)).append (ap4 (j:=j) uN (l:=UB))).Z ((aV3 (a:=uN) (l₁:=HB) (l₂:=UB)).cons hN)
  have a2:=(a1.cons bn).cons bs;have mv:∀(x y:Nat)(l:iN),(x::bs::bn::y::l).Perm (x::y::bs::bn::l):=λx y l=>(((List.Perm.swap y bn l).cons bs).Z (List.Perm.swap y bs (bn::l))).cons x;have a3:(bs::bn::hN::uN::(HB++UB)).Perm (hN::bs::bn::uN::(HB++UB)):=((List.Perm.swap hN bn (uN::(HB++UB))).cons bs).Z (List.Perm.swap hN bs _);exact(a2.Z a3).Z (mv hN uN _)
 rw[pm.nodup_iff,AL,AL];refine⟨λe=>?_,λe=>(zy uN e).2 rfl,h.ve⟩;obtain e|e:=fU.1 e;{exact hNu e};{exact(zy hN e).1 rfl}}
def bZ0{s:Nat}(es:U iY.heap=s)(v0 v1 v2 v4 v5:dV):∃V,V=((iY.alloc (.map #[] 0)).alloc (.map #[] 0)).alloc (dO #[v0,v1,v2,.map s,v4,v5,.map (Y (s+1))] 186)/\Bw iY V/\U V.heap=s+3/\V.heap[s+2]?=dO #[v0,v1,v2,.map s,v4,v5,.map (Y (s+1))] 186/\SM V s []/\SM V (s+1) []:=by
 subst es;have m:U (iY.alloc (.map #[] 0)).heap=U iY.heap+1:=aj;have x:U ((iY.alloc (.map #[] 0)).alloc (.map #[] 0)).heap=U iY.heap+2:=aj;obtain⟨V,i,B,j,-,r⟩:=bQ ((iY.alloc (.map #[] 0)).alloc (.map #[] 0)) #[v0,v1,v2,.map (U iY.heap),v4,v5,.map (Y (U iY.heap+1))] 186;rw[x]at r j;have y:=World.ownsMap_made (H:=Unit) iY dG 27 unitElem;have q:=World.ownsMap_made (H:=Unit) (iY.alloc (.map #[] 0)) dG 27 unitElem;rw[m]at q;refine⟨V,i,?_,j,r,?_,?_⟩;{exact ai ((aD.alloc aA _).alloc (by rw[m];omega) _) B};{refine⟨.map [],0,?_,af,jL.nil,rfl⟩;rw[i];exact(y.alloc _).alloc _};{refine⟨.map [],0,?_,af,jL.nil,rfl⟩;rw[i];exact q.alloc _}
def eA9{w:G}{SB NB HB UB:iN}(h:O (PS w0 w b bs bn D SB NB HB UB)){id:Int}(hV:O (AB w0 w (.S pv nv cv) VL))(jE:O (Mg (J P)))(ij:O (∀nd'∈D.N,di nd'.A≠di P))(hl:O (J D.N<1048576))(hj:O (j<=J D.N)):dQ dG 348 #[.agg #[.U id,.string (aZ P),.bool F,.S pv nv cv],Pz b] w λr w'=>∃gN hN uN,uq w0 w b bs bn {D with N:=qw j (qm P VL (if F then id else 0)) D.N} SB (qw j gN NB) (qw j hN HB) (qw j uN UB) js r w':=by
 let⟨X,iY,hX,hY,bY,zX,zY,BX,RY⟩:=ZW w #[.U id,.string (aZ P),.bool F,.S pv nv cv] 311;have FO:=@am6 dG;have NJ:=ag RY;have vY:=h.be.size;go_in;cases F;{
 let⟨V,eV,bV,zV,gV,s1,s2⟩:=bZ0 zY (.S pv nv cv) (.U 0) (.I 0) (.U 0) (.U 0);have HV:=mX bV zV gV s1 s2;have Hd:=ag BX;go_wp2_with fail;rw[<-hX,<-hY,<-eV];refine yI 8 aU (λW eW=>?_);let⟨bV,zV,gV,s1,s2⟩:=ae HV;have GK:=lG eW;have vf:Bw iY W:=ai bV GK;have bW:Bw w W:=ai bY vf;have PW:=ag (h.H bW);have c1:=cK ((vf.block (U w.heap) af).Z Hd) 1;obtain⟨-,-,-,-,-,k5,-⟩:=PW.nJ;have fh:=ao9 (P:=P) (aK (ae jE));have gW:=(GK.block (U w.heap+1+1+2) af).Z gV;have PNW:PN w0 W (U w.heap+1+1+2) (U w.heap+1+1) (U w.heap+1+1+1) (qm P VL 0):=⟨⟨af,af,af⟩,⟨_,gW,hV.T (bH bW) aj⟩,s1.kept (GK.block _ af),s2.kept (GK.block _ af)⟩;let⟨M,n,o,hn,m,hz⟩:=PW.pX;have o':=Hq o;rw[hz]at o';let⟨iU,fS,ho,qd⟩:=o'.update ru underlying179 (by have:=ae hl;unfold maxLen;omega) fh (TD (U w.heap+1+1+1+1));have O2:=One.DA PW.be qd PW.lo.2.2 (ownsMap_at o');have Yz:U w.heap+1+1+2∉NB:=λe=>by let⟨i,hi⟩:=jk.1 e;let⟨nd',aJ⟩:=h.bY8 hi;let⟨g',hh',uu',a1,a2,a3,uT⟩:=h.nat aJ;rw[hi]at a1;cases a1;obtain⟨V',aP,-⟩:=uT.blk;have:=gy aP;omega
 have hold:∀z∈bs::bn::(HB++UB),z<U w.heap:=λz hz=>by
  have nb:∀i nd',D.N[i]?=Y nd'->∃hh uu,HB[i]?=Y hh/\UB[i]?=Y uu/\hh<U w.heap/\uu<U w.heap:=λi nd' aJ=>by let⟨g',hh',uu',a1,a2,a3,uT⟩:=h.nat aJ;let⟨es,c,m3⟩:=uT.AV.at;let⟨IS,c',m4⟩:=uT.yE.at;exact⟨_,_,a2,a3,gy m3,gy m4⟩
  simp only[fU,jd]at hz;obtain rfl|rfl|hz|hz:=hz;{obtain⟨M,n,o,-⟩:=h.tJ;exact o.lt};{obtain⟨M,n,o,-⟩:=h.pX;exact o.lt};{let⟨i,hi⟩:=jk.1 hz;let⟨hh,uu,a1,a2,a3,a4⟩:=nb i _ (bD (h.hlen▸(bg.1 hi).1));rw[hi]at a1;cases a1;exact a3};{let⟨i,hi⟩:=jk.1 hz;let⟨hh,uu,a1,a2,a3,a4⟩:=nb i _ (bD (h.vZ▸(bg.1 hi).1));rw[hi]at a2;cases a2;exact a4}
 have PU:=ag (PW.cI4 (j:=j) hj PNW Yz (λz hz=>aK (hold z hz)) af ij O2 hl (λM' o1=>by obtain⟨U',Ms,xT,-⟩:=o1.update ru underlying179 (by have:=ae hl;unfold maxLen;omega) fh (TD (U w.heap+1+1+1+1));rw[fS]at Ms;cases Ms;exact xT))
 have FY:=(Fr.H (T:=T3) vf).Z O2.T;have RU:=NJ.T FY;have r0:=RU.cells;have FU':=ag ((Fr.H (T:=T3) bY).Z FY);have RU':=ag RU;clear eW bV zV gV s1 s2 GK vf gW PNW o o' m hz ho qd O2 Yz hold FY RU HV;simp only[yR,sY,xM,rI]
 repeat still_step
 refine qM ?_;go_wp2;exact WJ RU' aU rfl rfl ⟨_,_,_,PS.rep PU RU' af _ _ _ _ _ _ _ _,FU'.low ((tQ).h af),rfl⟩};{
 let⟨V,eV,bV,zV,gV,s1,s2⟩:=bZ0 zY (.S pv nv cv) (.U id) (.I 0) (.U 0) (.U 0);have HV:=mX bV zV gV s1 s2;have Hd:=ag BX;go_wp2_with fail;rw[<-hX,<-hY,<-eV];refine yI 8 aU (λW eW=>?_);let⟨bV,zV,gV,s1,s2⟩:=ae HV;have GK:=lG eW;have vf:Bw iY W:=ai bV GK;have bW:Bw w W:=ai bY vf;have PW:=ag (h.H bW);have c1:=cK ((vf.block (U w.heap) af).Z Hd) 1;obtain⟨-,-,-,-,-,k5,-⟩:=PW.nJ;have fh:=ao9 (P:=P) (aK (ae jE));have gW:=(GK.block (U w.heap+1+1+2) af).Z gV;have PNW:PN w0 W (U w.heap+1+1+2) (U w.heap+1+1) (U w.heap+1+1+1) (qm P VL id):=⟨⟨af,af,af⟩,⟨_,gW,hV.T (bH bW) aj⟩,s1.kept (GK.block _ af),s2.kept (GK.block _ af)⟩;let⟨M,n,o,hn,m,hz⟩:=PW.pX;have o':=Hq o;rw[hz]at o';let⟨iU,fS,ho,qd⟩:=o'.update ru underlying179 (by have:=ae hl;unfold maxLen;omega) fh (TD (U w.heap+1+1+1+1));have O2:=One.DA PW.be qd PW.lo.2.2 (ownsMap_at o');have Yz:U w.heap+1+1+2∉NB:=λe=>by let⟨i,hi⟩:=jk.1 e;let⟨nd',aJ⟩:=h.bY8 hi;let⟨g',hh',uu',a1,a2,a3,uT⟩:=h.nat aJ;rw[hi]at a1;cases a1;obtain⟨V',aP,-⟩:=uT.blk;have:=gy aP;omega
 have hold:∀z∈bs::bn::(HB++UB),z<U w.heap:=λz hz=>by
  have nb:∀i nd',D.N[i]?=Y nd'->∃hh uu,HB[i]?=Y hh/\UB[i]?=Y uu/\hh<U w.heap/\uu<U w.heap:=λi nd' aJ=>by let⟨g',hh',uu',a1,a2,a3,uT⟩:=h.nat aJ;let⟨es,c,m3⟩:=uT.AV.at;let⟨IS,c',m4⟩:=uT.yE.at;exact⟨_,_,a2,a3,gy m3,gy m4⟩
  simp only[fU,jd]at hz;obtain rfl|rfl|hz|hz:=hz;{obtain⟨M,n,o,-⟩:=h.tJ;exact o.lt};{obtain⟨M,n,o,-⟩:=h.pX;exact o.lt};{let⟨i,hi⟩:=jk.1 hz;let⟨hh,uu,a1,a2,a3,a4⟩:=nb i _ (bD (h.hlen▸(bg.1 hi).1));rw[hi]at a1;cases a1;exact a3};{let⟨i,hi⟩:=jk.1 hz;let⟨hh,uu,a1,a2,a3,a4⟩:=nb i _ (bD (h.vZ▸(bg.1 hi).1));rw[hi]at a2;cases a2;exact a4}
 have PU:=ag (PW.cI4 (j:=j) hj PNW Yz (λz hz=>aK (hold z hz)) af ij O2 hl (λM' o1=>by obtain⟨U',Ms,xT,-⟩:=o1.update ru underlying179 (by have:=ae hl;unfold maxLen;omega) fh (TD (U w.heap+1+1+1+1));rw[fS]at Ms;cases Ms;exact xT))
 have FY:=(Fr.H (T:=T3) vf).Z O2.T;have RU:=NJ.T FY;have r0:=RU.cells;have FU':=ag ((Fr.H (T:=T3) bY).Z FY);have RU':=ag RU;clear eW bV zV gV s1 s2 GK vf gW PNW o o' m hz ho qd O2 Yz hold FY RU HV;simp only[yR,sY,xM,rI]
 repeat still_step
 refine qM ?_;go_wp2;exact WJ RU' aU rfl rfl ⟨_,_,_,PS.rep PU RU' af _ _ _ _ _ _ _ _,FU'.low ((tQ).h af),rfl⟩}
theorem dY3(h:J l=1)(s:Int):l.headD 0=s↔l.contains s:=by
 match l,h with
 |[y],_=>
  simp;exact⟨λe=>e.C,λe=>e.C⟩
def dk2(h:nd.M=1->J nd.y=1):WB nd s=if nd.M=1/\nd.y.headD 0≠s then 9 else 0:=by
 unfold WB;by_cases hm:nd.M=1;{have:=dY3 (h hm) s;by_cases hc:nd.y.contains s=dY;{rw[aL (by rw[hc];simp),aL (λe=>e.2 (this.2 hc))]};{rw[aM ⟨hm,by simpa using hc⟩,aM ⟨hm,λe=>hc (this.1 e)⟩]}};{rw[aL (λe=>hm e.1),aL (λe=>hm e.1)]}
variable {F:Int}
def dE3(o:D.N[k]?=nd)(h:xO D nd s F≠0):Cg D k s F=(D,ni (xO D nd s F)):=by
 unfold xO at h⊢;simp only[Cg,o];generalize nd.y.contains s=B at h⊢;cases B;{by_cases j:F=2;{by_cases i:nd.M=1;{simp[j,i]};{simp[j,i]at h}};{by_cases i:nd.M=0;{by_cases m:4611686018427387904<=D.g;{simp[j,i,m]};{simp[j,i,m]at h}};{simp[j,i]}}};{simp}
def cc7(hk:D.N[k]?=nd)(h:xO D nd s 2=0):Cg D k s 2=({D with N:=D.N.set k {nd with M:=2,y:=mh nd.y s}},js):=by
 unfold xO at h;simp only[Cg,hk];generalize nd.y.contains s=B at h⊢;cases B;{by_cases h3:nd.M=1;{simp[h3]at h};{simp[h3]}};{simp at h}
def cc8(hk:D.N[k]?=nd)(hh:nd.M=0->nd.y=[])(h:xO D nd s 1=0):Cg D k s 1=({D with g:=D.g+1,N:=D.N.set k {nd with M:=1,y:=mh nd.y s,P:=D.e,F:=D.g+1}},{js with e:=D.e,g:=D.g+1})/\D.g<2^62:=by
 unfold xO at h;simp only[Cg,hk];generalize nd.y.contains s=B at h⊢;cases B;{by_cases h3:nd.M=0;{by_cases h4:4611686018427387904<=D.g;{simp[h3,h4]at h};{refine⟨?_,af⟩;rw[hh h3];simp[h3,h4,mh]}};{simp[h3]at h}};{simp at h}
def eA7(h:KU D P≠0):IY D P V S F=(D,ni (KU D P)):=by
 unfold KU at h⊢;unfold IY;by_cases i:(jW D.N P).isSome=dY;{simp[i]};{by_cases j:nQ D.N (ig P)=dF;{simp[i,j]};{by_cases m:200<=J D.N;{simp[i,j,m]};{simp[i,j,m]at h}}}
def cD3(h:KU D P=0):IY D P V S F=({D with N:=qt (qm P V (if F=1 then S else 0)) D.N},js)/\jW D.N P=dN/\J D.N<200:=by
 unfold KU at h;unfold IY;by_cases h1:(jW D.N P).isSome=dY;{simp[h1]at h};{by_cases h2:nQ D.N (ig P)=dF;{simp[h1,h2]at h};{by_cases h3:200<=J D.N;{simp[h1,h2,h3]at h};{exact⟨by simp[h1,h2,h3],by simpa using h1,af⟩}}}
def dx3(h:JL D≠0):yO D=(D,ni (JL D)):=by
 unfold JL at h⊢;unfold yO;by_cases i:50<=J D.E;{simp[i]};{by_cases j:4611686018427387904<=D.x;{simp[i,j]};{simp[i,j]at h}}
def bW3(h:JL D=0):yO D=({D with x:=D.x+1,E:=D.E++[(D.x+1,D.t+10,[])]},{js with i:=D.x+1,n:=D.t+10})/\J D.E<50/\D.x<2^62:=by
 unfold JL at h;unfold yO;by_cases h1:50<=J D.E;{simp[h1]at h};{by_cases h2:4611686018427387904<=D.x;{simp[h1,h2]at h};{exact⟨by simp[h1,h2],af,af⟩}}
def LR(K:Int):Bool:=(K==5||(K==6||(K==7||(K==8||(K==9||(K==11||K==13))))))
def bZ1(m:1<=k)(j:k<=13){w:G}:dQ dG 267 #[.I (k:Int)] w λr i=>r=dR (.bool (LR k))/\i=w:=by
 have h:k=1\/k=2\/k=3\/k=4\/k=5\/k=6\/k=7\/k=8\/k=9\/k=10\/k=11\/k=12\/k=13:=af;clear m j;obtain rfl|rfl|rfl|rfl|rfl|rfl|rfl|rfl|rfl|rfl|rfl|rfl|rfl:=h
 all_goals
  go_in;go_wp2;go_ret;exact⟨rfl,rfl⟩
def Dz(D:SD)(K:Int)(P:LI):Int:=if BQ K P then 0 else if vp P=dF then 4 else if LR K/\(jW D.N P).isNone then 5 else 0
theorem eE7{w:G}{SB NB HB UB:iN}(h:O (PS w0 w b bs bn D SB NB HB UB))(nL:O (∀nd∈D.N,aC nd.A))(h1:1<=k)(h2:k<=13)(u:Le P np)(s:O (Rd w (.S pp np cp) P))(Z:O (aC P))(hp:np<=1048576)(fM:np<=cp)(gC:O (cp<=maxLen))(hm:O (∃m,I w (Ad 2 0)=dI m))(eC:O (Dz D k P=C)):dQ dG 253 #[Pz b,qZ k S (.S pp np cp) F (.S pq nv cv) E iG] w (Rb (qS C) w):=by
 obtain⟨X,hX,bX,zX,CX,-⟩:=bQ w #[.I (k:Int),.U S,.S pp np cp,.I F,.S pq nv cv,.U E,.U iG] 65;have hcv:=λ(ob:Obj)=>tK u (s.H ((aR (U w.heap) w).alloc aA ob));have q:((aZ P).toList==(aZ [47]).toList)=dD (P=[47]):=Nq Z (by intro y hy;simp at hy;omega);rw[show(aZ [47]).toList=[47]from Bj [47]]at q;have e:=ae eC;unfold Dz BQ at e;let⟨st,x⟩:=cG (aZ P);rw[ae x]at q;simp only[ae x]at hcv;by_cases j:(k:Int)=13/\P=[47];{
 have e13:((k:Int)==13):=by simp[j.1]
 have hr:(st.toList==[47]):=by rw[q];simp[j.2]
 obtain rfl:C=0:=by rw[<-e];simp[j.1,j.2]
 go_in;go_wp2;go_ret;exact⟨rfl,aD.alloc aA _⟩};{
 have e1:(if vp P=dF then 4 else if LR k/\(jW D.N P).isNone then 5 else 0)=C:=by
  rw[<-e];have:(dD ((k:Int)=13)&&dD (P=[47]))=dF:=by simpa using j
  rw[this];simp
 have E1:=ag e1;have dV3:∃t,O (((k:Int)==13)=t/\(t->(st.toList==[47])=dF)):=⟨_,ag ⟨rfl,λV=>by rw[q];simp at V;simpa using λs=>j ⟨af,s⟩⟩⟩
 obtain⟨t,V⟩:=dV3;let⟨B,eB⟩:=cG (vp P);clear e e1 j q;go_in;have STEP:True:=iq;cases t
 all_goals
  let⟨e13,bj⟩:=ae V
  try have fp8:=bj rfl
  clear bj;go_wp2_with fail;rw[<-hX];refine br (ba2 u (s.H bX) Z hp fM gC (hm.imp λm hm=>al hm bX) eB) λw2 ay=>?_;have M:=CX.de (w':=w2) (ay.block _ af);have B2:=ag (ai bX ay);have e:=ae E1;rw[ae eB]at e;cases B;{
 obtain rfl:C=4:=by rw[<-e];rfl
 go_wp2;go_ret;exact⟨rfl,B2⟩};{
 have e2:(if LR k/\(jW D.N P).isNone then 5 else 0)=C:=by simpa using e
 have E2:=ag e2;go_wp2_with fail;refine LH aU (λW eW=>?_);have o:Bw w W:=eW▸B2.drew;have R:=ag (h.H o);obtain⟨-,-,-,-,-,k5,-⟩:=R.nJ;have CW:=M.de (w':=W) (by rw[eW];rfl);have c0:=CW.1 0 _ rfl;have c2:=CW.1 2 _ rfl;have hcv:=tK u (s.H o);rw[ae x]at hcv;clear eW CW M;cases hF:jW D.N P with
 |none=>
  have fS:=R.aS6 hF Z nL (by rw[ae u];omega);rw[ae x]at fS;have e:=ae E2;rw[hF]at e;clear hF
  repeat still_step
  refine qM ?_;go_wp2_with fail;refine(bZ1 h1 h2).h ?_;rintro r w5⟨rfl,rfl⟩;let⟨T,N⟩:=aY (LR k);rw[N]at e⊢;clear N;cases T;{
 obtain rfl:C=0:=by rw[<-e];simp
 go_wp2;go_ret;exact⟨rfl,o⟩};{
 obtain rfl:C=5:=by rw[<-e];simp
 go_wp2;go_ret;exact⟨rfl,o⟩}
 |some nd=>
  obtain⟨rfl,i,hi⟩:=al4 hF;obtain⟨g1,Gq,u1,q1,-,-,hN⟩:=R.nat hi;have fS:=R.bf8 hi q1 (by rw[ae u];omega);rw[ae x]at fS;have e:=ae E2;rw[hF]at e;obtain rfl:C=0:=by rw[<-e];simp
  repeat still_step
  refine qM ?_;go_wp2_with fail;refine(bZ1 h1 h2).h ?_;rintro r w5⟨rfl,rfl⟩;let⟨T,N⟩:=aY (LR k);rw[N];cases T;{go_wp2;go_ret;exact⟨rfl,o⟩};{go_wp2;go_ret;exact⟨rfl,o⟩}}}
theorem PS.okS{w0 w:G}{SB NB HB UB:iN}(h:PS w0 w b bs bn D SB NB HB UB)(hr:0<=S/\S<2^64):∃v,(Instr.lookup 178 (.map bs) (.U S) dY).run dG w=.ok (dT #[dP v,.bool (dD (0<=lW D.E S))]) w:=by
 obtain⟨M,n,o,-,m,-⟩:=h.tJ;let⟨v,ps,j,r⟩:=o.look_ok mr underlying178 (bH0 (w:=w)) (zd:=.nil) (zp:=[]) rfl (key:=.U S) (keyOf_int_mk underlying27 (Dx hr));by_cases x:lW D.E S<0;{
 have N:Maps.has M (.U S)=dF:=by
  rw[DH];intro e;let⟨p,B,R⟩:=(m.hs _).1 e;obtain⟨i,s,y,V,hy,rfl⟩:=yD B;simp only[L6,JQ]at R;unfold lW at x;cases hf:D.E.findIdx? (λs=>s.1==S)with
  |some k=>rw[hf]at x;simp at x;omega
  |none=>
   have:=Xk.1 hf s (bu V);simp[R]at this
 rw[Maps.atKey_of_not_has N]at r;obtain rfl:=aQ0 r;refine⟨dN,?_⟩;rw[j,N,show dD (0<=lW D.E S)=dF by simp;omega]};{
 let⟨k,s,q,E⟩:=dm5 x;obtain⟨g,W,-⟩:=h.sat E;have es:s.1=S:=by
  unfold lW at q;cases hf:D.E.findIdx? (λs=>s.1==S)with
  |none=>rw[hf]at q;simp at q
  |some k'=>
   rw[hf]at q;simp at q;obtain⟨Z,X,-⟩:=Md.1 hf;obtain rfl:k'=k:=af;have:D.E[k']=s:=by rw[bD Z]at E;simpa using E
   rw[<-this];simpa using X
 subst es;have B:(Lit.U s.1,g)∈List.zipWith (λ(s:aB)g=>(Lit.U s.1,g)) D.E SB:=bu (i:=k) (by rw[qL,E,W]);rw[m.at' _ B]at r;obtain rfl:=TF r;refine⟨Y (Ad g 0),?_⟩;rw[j,(m.hs _).2 ⟨_,B,rfl⟩,show dD (0<=lW D.E s.1)=dY by simp;omega]}
def Aj(D:SD)(i j B:Bool)(K S:Int)(P:LI):Int:=if B=dF then 2 else if i/\lW D.E S<0 then 3 else if j then Dz D K P else 0
def eD4{w:G}{SB NB HB UB:iN}(h:O (PS w0 w b bs bn D SB NB HB UB))(nL:O (∀nd∈D.N,aC nd.A))(h1:1<=k)(h2:k<=13)(hS:0<=S/\S<2^64)(eP:Le P np)(hP:O (Rd w (.S pp np cp) P))(hB:O (aC P))(hp:np<=1048576)(fM:np<=cp)(gC:O (cp<=maxLen))(hm:O (∃m,I w (Ad 2 0)=dI m)){i o:Bool}{R Z vs:Int}{N jo:Bool}(hT:O (Jh w 0 (k*7) i o R Z vs N jo))(eB:O (Bf i o R Z vs N S F np nv E iG=B))(eC:O (Aj D i o B k S P=C)):dQ dG 227 #[Pz b,qZ k S (.S pp np cp) F (.S pq nv cv) E iG] w (Rb (qS C) w):=by
 obtain⟨X,hX,bX,zX,CX,-⟩:=bQ w #[.I (k:Int),.U S,.S pp np cp,.I F,.S pq nv cv,.U E,.U iG] 65;have e:=ae eC;unfold Aj at e;have i3:(k:Int)<14:=af;have i4:k<14:=af;have i5:=gm 0 k;go_in;go_wp2_with fail;rw[<-hX];refine br (aI0 h1 h2 (hT.H bX) eB) λw2 y=>?_;have s:=CX.de (w':=w2) (y.block _ af);have B2:=ag (ai bX y);clear y hX CX;cases B;{
 obtain rfl:C=2:=by rw[<-e];rfl
 clear e;go_wp2;go_ret;exact⟨rfl,B2⟩};{
 have e2:(if i/\lW D.E S<0 then 3 else if o then Dz D k P else 0)=C:=by simpa using e
 have E2:=ag e2;clear e e2;go_wp2_with fail;refine LH aU (λW x=>?_);have j:Bw w W:=x▸B2.drew;have M:=ag (h.H j);obtain⟨-,-,-,-,k4,-,-⟩:=M.nJ;have CW:=s.de (w':=W) (by rw[x];rfl);let⟨c0,c1,c2,c3,c4,c5,c6⟩:=Lg CW.1;obtain⟨t0,t1,-⟩:=hT.H j;let⟨v,fS⟩:=M.okS (S:=S) hS;obtain⟨T,eT⟩:∃T,O (dD (0<=lW D.E S)=T):=⟨_,rfl⟩;rw[ae eT]at fS;have e:=ae E2;have r:(lW D.E S<0)↔T=dF:=by rw[<-ae eT];simp
 simp only[r]at e;clear x CW s r
 repeat still_step
 refine qM ?_;clear fS k4;by_cases u:i/\T=dF;{
 obtain⟨rfl,rfl⟩:=u;obtain rfl:C=3:=by rw[<-e];simp
 clear e;go_wp2;go_ret;exact⟨rfl,j⟩};{
 have q:(if o then Dz D k P else 0)=C:=by rw[aL u]at e;exact e
 have E3:=ag q;clear e q;have yY:(i=dF/\T=dF)\/(i=dF/\T)\/(i/\T):=by cases i<;>cases T<;>simp at u⊢
 clear u;obtain⟨rfl,rfl⟩|⟨rfl,rfl⟩|⟨rfl,rfl⟩:=yY
 all_goals
  cases o;{
 obtain rfl:C=0:=by have:=ae E3;rw[<-this];rfl
 go_wp2;go_ret;exact⟨rfl,j⟩};{
 have q:Dz D k P=C:=by have:=ae E3;rw[aM rfl]at this;exact this
 have E4:=ag q;clear q;go_wp2_with fail;refine br (eE7 M nL h1 h2 eP (hP.H j) hB hp fM gC (hm.imp λm hm=>al hm j) E4) λw9 V=>?_;have B9:=ag (ai j V);clear V;go_wp2;go_ret;exact⟨rfl,B9⟩}}}
def bR9(k:Nat)(S:Int)(st:ByteArray)(F:Int)(V:dV)(E iG:Int):dV:=match k with
 |1=>.iface 305 (.agg #[])
 |2=>.iface 308 (.agg #[.int .u64 S])
 |3=>.iface 309 (.agg #[.int .u64 S])
 |4=>.iface 311 (.agg #[.int .u64 S,.string st,.bool (F==1),V])
 |5=>.iface 313 (.agg #[.int .u64 S,.string st])
 |6=>.iface 315 (.agg #[.string st])
 |7=>.iface 317 (.agg #[.int .u64 S,.string st,V])
 |8=>.iface 319 (.agg #[.int .u64 S,.string st,.int .i64 F])
 |9=>.iface 320 (.agg #[.int .u64 S,.string st])
 |10=>.iface 322 (.agg #[.int .u64 S,.string st,.int .u64 E,.int .u64 iG])
 |11=>.iface 324 (.agg #[.int .u64 S,.string st])
 |12=>.iface 325 (.agg #[.int .u64 S])
 |_=>.iface 326 (.agg #[.string st])
def dq0(u:1<=k)(s:k<=13)(o:Le P np){w:G}(m:O (Rd w (.S pp np cp) P)):dQ dG 228 #[qZ k S (.S pp np cp) F (.S pq nv cv) E iG] w (Rb (bR9 k S (aZ P) F (.S pq nv cv) E iG) w):=by
 have hcv:=λ(i r:Obj)=>tK o (m.H (((aR (U w.heap) w).alloc aA i).alloc aj r));have j:=λ(i:Obj)=>tK o (m.H ((aR (U w.heap) w).alloc aA i));let⟨st,q⟩:=aY (aZ P);simp only[q]at hcv j⊢;clear q;have h:k=1\/k=2\/k=3\/k=4\/k=5\/k=6\/k=7\/k=8\/k=9\/k=10\/k=11\/k=12\/k=13:=af;clear u s;obtain rfl|rfl|rfl|rfl|rfl|rfl|rfl|rfl|rfl|rfl|rfl|rfl|rfl:=h
 all_goals
  go_in;go_wp2;go_ret;exact⟨rfl,((aR (U w.heap) w).alloc aA _).alloc aj _⟩
def KD.of(h:yC ss ns):KD ns:=λi j a c o hc e=>by
 have q:a.A=c.A:=Ml (h.n2 a (bu o)).1 (h.n2 c (bu hc)).1 e;obtain m|m|m:=Mh i j;{exact absurd q (h.n3 i j a c o hc m)};{exact m};{exact absurd q.C (h.n3 j i c a hc o m)}
def al3(h:(List.range (J ns)).all (uy e g ss ns))(j:ns[i]?=nd):pL e g nd.M (J nd.y) nd.P nd.F/\qN ss nd.y/\qN ss nd.X:=by
 have m:=(bg.1 j).1;have:=ky.1 h i (by simpa using m);unfold uy at this;rw[im,j]at this;simp only[rJ,gL]at this;exact⟨this.2.2.2.2.2.2,this.2.2.2.2.1,this.2.2.2.2.2.1⟩
def ap8(h:qN ss ids):∀x∈ids,∃s∈ss,s.1=x:=λx m=>by
 let⟨i,j⟩:=jk.1 m;have:=ky.1 h i (by simpa using(bg.1 j).1);unfold Ii live at this;rw[im,j]at this;simp only[rJ,gL,Ui]at this;let⟨s,o,e⟩:=this.1;exact⟨s,o,by simpa using e⟩
def ao1(h:pL e g mo nh ep ge)(hm:mo=1):nh=1:=by
 unfold pL at h;rw[aM hm]at h;simp at h;exact h.1
def aX2(h:pL e g mo nh ep ge)(hm:mo≠1):ep=0/\ge=0/\(mo=0->nh=0):=by
 unfold pL at h;rw[aL hm]at h;simp only[gL,Fo]at h;refine⟨h.1,h.2.1,λi=>?_⟩;have:=h.2.2;rw[aM i]at this;simpa using this
def NT.of(hF:yC ss ns)(h:(List.range (J ns)).all (uy e g ss ns))(j:ns[i]?=nd):NT ss nd:=by
 let⟨a,b,c,d,f,k,m⟩:=hF.n2 nd (bu j);exact⟨a,b,m,f,ap8 (al3 h j).2.2⟩
def PS.blt{w0 w:G}{SB NB HB UB:iN}(h:PS w0 w b bs bn D SB NB HB UB):∀z∈PL b bs bn SB NB HB UB,z<U w.heap:=λz j=>by
 simp only[PL,fU,jd]at j;have key:∀{l:iN}{i:Nat},J l=J D.N->l[i]?=Y z->∃nd,D.N[i]?=Y nd:=λB hi=>⟨_,bD (by rw[<-B];exact(bg.1 hi).1)⟩;obtain rfl|rfl|rfl|j|j|j|j:=j;{exact gy h.hd};{obtain⟨M,n,o,-⟩:=h.tJ;exact o.lt};{obtain⟨M,n,o,-⟩:=h.pX;exact o.lt};{let⟨i,hi⟩:=jk.1 j;obtain⟨s,hs⟩:∃s,D.E[i]?=Y s:=⟨_,bD (by rw[<-h.ur];exact(bg.1 hi).1)⟩;obtain⟨-,u,hc,-⟩:=h.vz i s z hs hi;exact gy hc};{let⟨i,hi⟩:=jk.1 j;let⟨nd,q⟩:=key h.vG hi;let⟨g,hh,uu,y,x,r,m⟩:=h.nat q;rw[hi]at y;cases y;obtain⟨V,E,-⟩:=m.blk;exact gy E};{let⟨i,hi⟩:=jk.1 j;let⟨nd,q⟩:=key h.hlen hi;let⟨g,hh,uu,y,x,r,m⟩:=h.nat q;rw[hi]at x;cases x;let⟨es,c,hm⟩:=m.AV.at;exact gy hm};{let⟨i,hi⟩:=jk.1 j;let⟨nd,q⟩:=key h.vZ hi;let⟨g,hh,uu,y,x,r,m⟩:=h.nat q;rw[hi]at r;cases r;let⟨es,c,hm⟩:=m.yE.at;exact gy hm}
def One.ofI{w0 w w':G}(s:Bw w0 w)(j:w.grownBy w' z)(o:U w0.heap<=z)(r:∀i ty m,w.heap[z]?≠Y (dO i ty m)):One w0 w w' z:=
 ⟨(aR (U w0.heap) w).grown j s.size (λb e=>by cases e;exact o),λy q u=>j.block y q (λe=>u (by cases e;rfl)),λi ty m hc=>absurd hc (r i ty m)⟩
def eo8{SB NB HB UB:iN}(h:∀z∈PL b bs bn SB NB HB UB,z∈L):∀z∈PL b bs bn SB (NB.eraseIdx k) (HB.eraseIdx k) (UB.eraseIdx k),z∈L:=λz i=>h z (by
 simp only[PL,fU,jd]at i⊢;obtain h|h|h|h|h|h|h:=i;{exact .L h};{exact .R (.L h)};{exact .R (.R (.L h))};{exact .R (.R (.R (.L h)))};{exact .R (.R (.R (.R (.L (Pg h)))))};{exact .R (.R (.R (.R (.R (.L (Pg h))))))};{exact .R (.R (.R (.R (.R (.R (Pg h))))))})
theorem ca2{α β:Type}(f:α->β):∀(l:List α)(k:Nat),(l.eraseIdx k).map f=(l.map f).eraseIdx k
 |[],k=>aj
 |a::r,0=>aj
 |a::r,k+1=>by simp[ca2 f r k]
theorem du3(h:(ns.map (·.A)).drop i=PP.drop j)(o:PP[j]?=P):∃nd,ns[i]?=Y nd/\nd.A=P:=by
 have m:(PP.drop j)[0]?=P:=by rw[JS];simpa using o
 rw[<-h,JS,DL,qn]at m;cases hn:ns[i]? with
 |none=>rw[hn]at m;cases m
 |some nd=>rw[hn]at m;exact⟨nd,rfl,by simpa using m⟩
def bV3{α:Type}{l m:List α}(h:l.drop i=m.drop j):l.drop (i+1)=m.drop (j+1):=by
 have q:l.drop (i+1)=(l.drop i).drop 1:=by rw[Fs]
 have o:m.drop (j+1)=(m.drop j).drop 1:=by rw[Fs]
 rw[q,o,h]
structure CR(w0 iY w2 wr:G)(b bs bn:Nat)(SB:iN)(L:iN)(D:SD)(NB HB UB:iN):Prop where
 ps:PS w0 wr b bs bn D SB NB HB UB
 T:Fr T3 iY wr
 kb:Kb L w2 wr
 sub:∀z∈PL b bs bn SB NB HB UB,z∈L
 sz:U w2.heap<=U wr.heap
theorem eD9{w:G}{SB NB HB UB:iN}(h:O (PS w0 w b bs bn D SB NB HB UB))(hC:O (CI D.E D.N))(rO:O ((D.N.map λnd=>jA nd.A).Pairwise (·<·))){s:aB}(hk:O (D.E[k]?=s))(em:Le D.N m)(hm:Mg m):dQ dG 340 #[.agg #[.U s.1],Pz b] w λr w'=>∃NF NQ xC Ny,uq w0 w b bs bn (jS D s.1) NF NQ xC Ny js r w':=by
 let⟨X,iY,hX,hY,bY,zX,zY,BX,RY⟩:=ZW w #[.U s.1] 309;have hid:=hC.so.rg s (bu (ae hk));have fh:=keyOf_int_mk underlying27 (Dx hid);have PY:=h.H bY;obtain⟨-,-,-,-,-,h5,-⟩:=PY.nJ;let⟨M,n,oN,hn,mN,zN⟩:=PY.pX;have vY:=h.be.size;have Qz:O (∀nd∈D.N,Maps.has M (di nd.A)):=λnd aJ=>by let⟨i,hi⟩:=jk.1 aJ;let⟨gz,_,_,Cr,_,_⟩:=PY.nat hi;exact(mN.hs _).2 ⟨(di nd.A,gz),by rw[jk];exact⟨i,by rw[qL,hi,Cr]⟩,rfl⟩
 have HY:=du PY BX RY;have HBY:=ag bY;have HZY:=ag zY;have MN:=ag mN;have fv0:U w0.heap<=U iY.heap:=af;rw[hY,hX]at h5 oN;clear PY BX RY bY zX zY mN zN;go_in;go_wp2_with(first
  |(at_range;refine wpList_range_own _ rfl _ 179 rfl 9 _ ru underlying179 _ bn n _ rfl oN ?_;intro w1 xS qP zt)
  |go_in)
 go_frame
 rw[<-hX,<-hY]at xS qP⊢;let⟨r1,Bg⟩:=aG (U iY.heap);rw[<-Bg]at xS⊢;have ER:=ag Bg;have b1:Bw iY w1:=(aR (U iY.heap) iY).grown qP aA (λj hj=>by cases hj);have P1:=ag (HY.1.H b1);have F1:=ag (Fr.H (T:=T3) b1);have dQ8:U w0.heap<=r1:=af;clear Bg hX hY h5 oN qP zt b1
 go_loopw[6](λ_ wr=>∃(left:Lit->Bool)(gO:Nat),wr.ranges dG 9 iF bn r1 n M left gO/\O (PS w0 wr b bs bn {D with N:=BM (sO s.1) left D.N} SB NB HB UB)/\O (Fr T3 iY wr)) (λ_ wr=>wr.rangeLeft bn r1)
 exact⟨_,_,xS,by rw[bK3 (ae Qz)];exact P1,F1⟩;{
 obtain⟨left,gO,iH,yi,kM⟩:=hrel;go_wp2_with(first
  |(at_next;refine Ta _ rfl _ rfl 9 ru (λs:ByteArray=>.string s) ap2 bn r1 n _ _ MN _ _ rfl iH ?_ ?_)
  |go_in)
 {
 intro _ rC;have sI:=ae yi;rw[bK4 rC]at sI;have xA:=ag (hC.cw s.1);obtain⟨N,Nl⟩:∃N:SD,N={D with N:=D.N.map (sO s.1)}:=⟨_,rfl⟩;have xY:J N.N=m:=by rw[Nl,ir];exact ae em
 have hPP:N.N.map (·.A)=D.N.map (·.A):=by rw[Nl,uB];rfl
 rw[<-Nl]at sI;obtain⟨-,-,-,-,-,h5,-⟩:=sI.nJ;let⟨M2,nn,oM,hnn,mM,zM⟩:=sI.pX;have UX:=sI.Wt.jt;have E1:=ag Nl;let⟨Y2,Rf⟩:=aG wr;subst Rf;have P2:=ag sI;have HL1:=ag xY;have HPP:=ag hPP;have fo:N.E=D.E:=by rw[Nl]
 have nS:=ag fo;have dQ9:O ((N.N.map λnd=>jA nd.A).Pairwise (·<·)):=by show List.Pairwise _ _;rw[Nl,uB];exact rO
 have la:O (CI N.E N.N):=by rw[Nl];exact xA
 clear rC yi iH sI xY hPP Nl xA fo;go_wp2_with fail;refine(T.Wv bn nn M2 Y2 oM (by rw[zM,ae HL1];exact hm)).h ?_;rintro r w2⟨kv,ks,rfl,yw,vD,ay⟩;obtain rfl:=aR6 UX dQ9 mM yw;obtain⟨p,c,rfl,Qi⟩:=aP4 vD;rw[ae HL1];have HK:=ag Qi;let⟨DF,eDF⟩:=cG (mB s.1 m 0 N);have hzK:=P2.blt;have HZK:=ag hzK;have CR2:=ag (show CR w0 iY w2 w2 b bs bn SB (PL b bs bn SB NB HB UB) N NB HB UB from⟨P2.H ay,kM.Z (Fr.H ay),λz _ _=>rfl,λz hz=>hz,eG _⟩);clear Qi vD yw oM mM UX zM ay h5 hzK;go_wp2
 go_loopw[31](λiv wr=>∃(j i:Nat)(Dk:SD)(VH VS Vy:iN),j<=m/\iv=.I j/\O (mB s.1 (m-j) i Dk=DF)/\O ((Dk.N.map (·.A)).drop i=(N.N.map (·.A)).drop j)/\O (CI Dk.E Dk.N)/\O (Dk.E.map (·.1)=N.E.map (·.1))/\O (CR w0 iY w2 wr b bs bn SB (PL b bs bn SB NB HB UB) Dk VH VS Vy)) (λiv _=>m-(intOf iv).toNat)
 exact⟨0,0,N,NB,HB,UB,cO _,rfl,eDF,cM,la,cM,CR2⟩;{
 obtain⟨j,i,Dk,VH,VS,Vy,hj,rfl,hDF,cp7,qQ,cr5,E⟩:=hrel;obtain⟨-,-,-,-,h4,h5,-⟩:=E.ps.nJ;have cB:I wr (Aw w 0)=dU s.1:=cK (E.T.2 _ _ _ _ bf HY.2.1) 0;by_cases aH:j<m;{
 have cL:=bM j m;obtain⟨x,hx⟩:∃x,N.N[j]?=Y x:=⟨_,bD (by rw[ae HL1];exact aH)⟩;obtain⟨gk,rfl,Ko⟩:∃gk,p=(Ad gk 0)/\I wr (Ad gk j)=Y (.string (aZ x.A)):=by obtain h0|⟨gk,rfl,h1,h2,h3⟩:=ae HK;{rw[h0]at hx;simp at hx};{refine⟨gk,rfl,?_⟩;have h4:=h3 j x hx;rw[mO]at h4;exact(gj (E.kb gk h2 (λhm=>aK (ae HZK gk hm))) j).Z h4}
 let⟨nd,hi,hpe⟩:=du3 cp7 (P:=x.A) (by rw[qn,hx];rfl);rw[<-hpe]at Ko;let⟨hT,My,Qo⟩:=qQ.nt nd (bu hi);let⟨g,hh,uu,hg,iS,iV,hN,hlk⟩:=E.ps.XC hi hT.pl;let⟨B,eB⟩:=cG (nd.y.contains s.1);have R:=gI hi hg iS iV;have HT:=du hT My Qo;have HN:=ag hN;have HCB:=ag (λ(v:G)(hv:Fr T3 wr v)=>cK (hv.2 _ _ _ _ bf (E.T.2 _ _ _ _ bf HY.2.1)) 0);clear hx hpe hi hT My Qo hg iS iV hN;go_wp2_with fail;clear Ko hlk h5;refine br (Kl HN hid eB) λw5 cY=>?_;have B5:=ag cY;have cB5:=ae HCB w5 (Fr.H cY);let⟨D2,Vj⟩:=cG (jR Dk i s.1);clear cY cB
 go_upto_if 44 with fail
 go_cut[](λwd=>O (PS w0 wd b bs bn D2 SB VH VS Vy)/\O (Fr T3 wr wd)/\O (Kb (PL b bs bn SB VH VS Vy) wr wd))
 case first=>(
 cases B;{
 go_wp2_with fail;go_meet;have e2:D2=Dk:=by have:=bs1 R.1 eB;exact Vj.C.Z this
 rw[e2];exact⟨ag (E.ps.H B5),ag (Fr.H B5),ag (Kb.H B5)⟩};{go_wp2_with fail;refine(bS2 (E.ps.H B5) R.1 qQ.so HT.1 hid HT.2.1 HT.2.2 eB).h ?_;rintro r w6⟨P6,⟨F6,K6⟩,v6,rfl⟩;rw[ae Vj]at P6;have HP6:=ag P6;have HF6:=ag ((Fr.H B5).Z F6);have HK6:=ag ((Kb.H B5).Z K6 B5.size);clear P6 F6 K6;go_wp2_with fail;go_meet;exact⟨HP6,HF6,HK6⟩})
 case rest=>(
 obtain⟨P6,F6,K6⟩:=hcut;let⟨q1,q2,q3,gQ,q4,q5,q6⟩:=CI.drop qQ R.1 s.1;rw[ae Vj]at q1 q2 q3 q4;have N6:=P6.qK i gQ g hh uu q4 R.2.1 R.2.2.1 R.2.2.2;obtain⟨V6,-,-,-,n1,-⟩:=N6.cells;have cB6:=ae HCB wc F6;have bj:=cE1 (m:=m-j+i) (k:=i) af Vj q4;have bl4:=ae hDF;rw[show m-j+i-i=m-j by omega]at bj;rw[bj]at bl4;have cj5:(D2.N.map (·.A)).drop i=(N.N.map (·.A)).drop j:=by rw[q2];exact ae cp7
 have sz6:U w2.heap<=U wc.heap:=gv E.sz F6.1;have kb6:=E.kb.Z (K6.h E.sub) E.sz;have fr6:=E.T.Z F6;have S:=mX q1 (q3.Z cr5) q4 cj5 bl4;have Lm:=du sz6 kb6 fr6;have HQ6:=ag q6;clear N6 q1 q2 q3 q4 q6 bj bl4 cj5 sz6 kb6 fr6;go_wp2_with fail;refine LH aU (λW eW=>?_);have bW:=lG eW;have n1':=al n1 bW;have cB7:=al cB6 bW;have BW:=ag bW;clear eW n1 cB6 bW cB5 h4
 repeat still_step
 refine qM ?_;by_cases ho:gQ.D=s.1;{
 have xT:(gQ.D==s.1):=by simp[ho]
 have e7:=S.2.2.2.2;rw[aM ho,show m-j+i-1-i=m-(j+1) by omega]at e7;have E7:=ag e7;have T7:=CI.tell S.1 S.2.2.1 2;have HRM:=bS0 (P6.H BW) S.2.2.1 S.1.so (ag (S.1.nt gQ (bu S.2.2.1)).1) S.1.kd;rw[ae HQ6]at HRM;have eX7:=ag HRM;have rE:i<J D2.N:=(bg.1 S.2.2.1).1;have hp7:O (((xH (jV D2 i 2) i).N.map (·.A)).drop i=(N.N.map (·.A)).drop (j+1)):=by show List.drop i (List.map _ (List.eraseIdx _ _))=_;rw[ca2,T7.2.1,cC2 (by rw[ir];exact rE)];exact bV3 S.2.2.2.1
 have C7:=ag (CI.rm T7.1 i);have I7:O ((xH (jV D2 i 2) i).E.map (·.1)=N.E.map (·.1)):=T7.2.2.1.Z S.2.1;clear ho e7 T7 HRM rE;go_wp2_with fail;refine eX7.h ?_;rintro r w7⟨P7,⟨F7,K7⟩,v7,rfl⟩;have R7:=ag (show CR w0 iY w2 w7 b bs bn SB (PL b bs bn SB NB HB UB) (xH (jV D2 i 2) i) (VH.eraseIdx i) (VS.eraseIdx i) (Vy.eraseIdx i)from⟨P7,(Lm.2.2.Z (Fr.H BW)).Z F7,(Lm.2.1.Z (Kb.H BW) Lm.1).Z (K7.h E.sub) (by have:=BW.size;have:=Lm.1;omega),eo8 E.sub,by have:=BW.size;have:=Lm.1;have:=F7.1;omega⟩);clear P7 F7 K7 n1' cB7;go_wp2;go_roundw;exact⟨j+1,i,_,_,_,_,af,by go_num,E7,hp7,C7,I7,R7⟩;exact cW};{
 have xT:(gQ.D==s.1)=dF:=by simp[ho]
 have e7:=S.2.2.2.2;rw[aL ho,show m-j+i-(i+1)=m-(j+1) by omega]at e7;have E7:=ag e7;have hp7:=ag (bV3 S.2.2.2.1);have C7:=ag S.1;have I7:=ag S.2.1;have R7:=ag (show CR w0 iY w2 W b bs bn SB (PL b bs bn SB NB HB UB) D2 VH VS Vy from⟨P6.H BW,Lm.2.2.Z (Fr.H BW),Lm.2.1.Z (Kb.H BW) Lm.1,E.sub,by have:=BW.size;have:=Lm.1;omega⟩);clear ho e7;go_wp2;go_roundw;exact⟨j+1,i+1,_,_,_,_,af,by go_num,E7,hp7,C7,I7,R7⟩
 case measure=>simp[intOf];omega})}
 {
 have cL:=fq j m;have e7:=ae hDF;rw[show m-j=0 by omega,mB]at e7;subst e7;have hFY:=E.T;have UL:(Dk.E.map (·.1))[k]?=s.1:=by rw[ae cr5,ae nS,qn,ae hk];rfl
 obtain⟨s2,lx,es2⟩:∃s2,Dk.E[k]?=Y s2/\s2.1=s.1:=by
  rw[qn]at UL;cases hq:Dk.E[k]? with
  |none=>rw[hq]at UL;cases UL
  |some s2=>rw[hq]at UL;exact⟨s2,rfl,by simpa using UL⟩
 have Ey:=bG lx es2;clear UL lx es2;go_wp2_with fail;refine yI 6 aU (λW eW=>?_);have bW:=lG eW;have PW:=E.ps.H bW;have FW:=hFY.Z (Fr.H (T:=T3) bW);have c0:I W (Aw w 0)=dU s.1:=cK (FW.2 _ _ _ _ bf HY.2.1) 0;obtain⟨-,-,-,-,k4,-⟩:=PW.nJ;let⟨M4,n4,o4,UD,s4,z4⟩:=PW.tJ;let⟨Z,fS,ho,Ke⟩:=o4.drop mr underlying178 fh 0;have OZ:=One.DA PW.be Ke.grown PW.lo.2.1 (ownsMap_at o4);have PZ:=PW.ez0 Ey.1 OZ (λj' z' uI e'=>by
  have cj2:=Fq.1 qQ.so.pw;let⟨l1,v1⟩:=bg.1 Ey.1;let⟨l2,v2⟩:=bg.1 uI;obtain hh|hh|hh:=Mh k j';{have:=cj2 k j' l1 l2 hh;rw[v1,v2]at this;omega};{exact hh.C};{have:=cj2 j' k l2 l1 hh;rw[v1,v2]at this;omega}) (λM' n' o'=>by
  rw[Ey.2];obtain⟨w2',Ye,iW,-⟩:=o'.drop mr underlying178 fh 0;rw[fS]at Ye;cases Ye;exact iW)
 have eCl:jS D s.1={Dk with E:=Dk.E.eraseIdx k}:=by have e9:=ae eDF;rw[ae E1,<-ae em]at e9;unfold jS;rw[e9,<-dA5 qQ.so Ey.1,Ey.2]
 rw[<-eCl]at PZ;have HPZ:=ag PZ;have FZ0:=FW.Z OZ.T;have FZ:=ag ((Fr.H (T:=T3) HBY).Z FZ0);have Df:=HY.2.2.T FZ0;have r0:=Df.cells;have RZ:=ag Df;clear eW PZ OZ ho Ke o4 s4 z4 PW FW FZ0 Df eCl h4 h5 hFY;simp only[yR,sY,xM,rI]
 repeat still_step
 refine qM ?_;go_wp2;exact WJ RZ aU rfl rfl ⟨_,_,_,_,PS.rep HPZ RZ af _ _ _ _ _ _ _ _,FZ.low ((tQ).h af),rfl⟩}}};{
 intro i0 pl g1 w4 yt dV2 hp Mv xj aH dw ar1 ti;let⟨j,z,Va,hj,Iv,ee⟩:=yD hp;simp only[jy]at ee;obtain⟨rfl,rfl⟩:=ee;have nF:∀cur ty m,wr.heap[r1]?≠Y (dO cur ty m):=λcur ty m e=>by obtain⟨es,clock,since,seen,c0,-,-,-,-,hi,-⟩:=iH;rw[hi]at e;cases e
 have vR:∀es c,wr.heap[r1]?≠Y (.map es c):=λes c e=>by obtain⟨es,clock,since,seen,c0,-,-,-,-,hi,-⟩:=iH;rw[hi]at e;cases e
 have O4:=One.ofI yi.be dw dQ8 nF;have P4:=yi.iter O4 (λcs ty=>nF cs ty _) vR;have F4:=kM.Z O4.T;have fD:=bK5 (f:=sO s.1) hj Mv;let⟨g9,hh,uu,z1,z2,z3,N4⟩:=P4.nat fD;rw[Iv]at z1;cases z1;have YE:(Instr.entry (Pz r1)).run dG w4=.ok (dT #[.string i0,Pz g1]) w4:=ti;have Jo:=du P4 F4 fD;have Sn:=bG xj aH;have R:=gI hj Iv z2 z3;have HM:=bG iH.left_eq xj.left_eq;clear nF vR O4 P4 F4 fD N4 xj aH dw ar1 hp dV2 yi kM ti z2 z3 Iv hj;go_wp2_with fail;refine yI 6 aU (λW eW=>?_);have bW:=lG eW;have PW:=Jo.1.H bW;have NW:=PW.qK j z g1 hh uu Jo.2.2 R.2.1 R.2.2.1 R.2.2.2;obtain⟨V,-,-,-,-,-,-,-,-,n6,-⟩:=NW.cells;have FW:=Jo.2.1.Z (Fr.H (T:=T3) bW);have c0:I W (Aw w 0)=dU s.1:=cK (FW.2 _ _ _ _ bf HY.2.1) 0;let⟨M4,n4,o4,UD,s4,z4⟩:=NW.yE;let⟨Z,fS,ho,Ke⟩:=o4.drop mr underlying158 fh 0;have OZ:=One.DA PW.be Ke.grown NW.lo.2.2 (ownsMap_at o4);have SZ:=SM.del (w:=W) s4 (hC.nt z (bu R.1)).1.Oo UD ho;have PZ:=PW.yE Jo.2.2 R.2.1 R.2.2.1 R.2.2.2 OZ SZ;have Gt:=bK2 (f:=sO s.1) (left:=left) hC.kd R.1;have PZ':O (PS w0 Z b bs bn {D with N:=BM (sO s.1) (λz'=>left z'&&!z'.sameKey (di z.A)) D.N} SB NB HB UB):=by have:=PZ;simp only at this;rw[<-Gt];exact this
 have FZ:=ag (FW.Z OZ.T);have uK:Z.ranges dG 9 iF bn r1 n M (λz'=>left z'&&!z'.sameKey (di z.A)) yt:=by
  refine bU0 Sn.1 ?_ ?_;{obtain⟨M9,n9,o9,-⟩:=PW.pX;refine(OZ.k bn o9.lt (λe=>(PW.hu.2.2.1 _ (bu R.2.2.2)).2 e.C)).Z ?_;rw[eW];rfl};{
 have hi9:∃o:Obj,W.heap[r1]?=o/\∀es c,o≠.map es c:=by obtain⟨es,clock,since,seen,c0,-,-,-,-,hi,-⟩:=Sn.1;exact⟨_,by rw[eW];exact hi,λes c e=>by cases e⟩
 obtain⟨o,ho9,aN⟩:=hi9;refine(OZ.k r1 (gy ho9) (λe=>?_)).Z (by rw[eW];rfl);let⟨es,c,hm4⟩:=ownsMap_at o4;rw[e,hm4]at ho9;exact aN es c (AG ho9).C}
 clear eW NW SZ PZ Gt OZ ho Ke o4 s4 z4 PW FW;simp only[yR,sY,xM,rI]
 repeat still_step
 refine qM ?_;go_wp2;go_roundw;exact⟨_,_,uK,PZ',FZ⟩
 case measure=>rw[uK.left_eq,iH.left_eq];exact Sn.2}}
def SM.nil{w:G}{u:Nat}(o:w.ownsMap dG 27 (unitElem (H:=Unit)) u 0 (.map [])):SM w u []:=
 ⟨_,0,o,bf,(λk=>by simp[Maps.has]),rfl⟩
variable {P:Program}
def bU1{w:G}{k:TypeId}{R:dV->Option (DataW Unit×List MemPlace)}{r:Nat}{D:DataW Unit}(h:w.ranges P k R b r n D left gO):(∀i ty m,w.heap[r]?≠Y (dO i ty m))/\∀es c,w.heap[r]?≠Y (.map es c):=by
 obtain⟨es,o,j,q,u,-,-,-,-,s,-⟩:=h;exact⟨λi ty m e=>(by rw[s]at e;cases e),λes c e=>(by rw[s]at e;cases e)⟩
theorem cv6{w:G}{SB NB HB UB:iN}(h:O (PS w0 w b bs bn D SB NB HB UB))(hK:O (KD D.N))(oG:O (∀(i j:Nat)(s s':aB),D.E[i]?=Y s->D.E[j]?=s'->i<j->s.1≠s'.1)):dQ dG 124 #[Pz b] w λr w'=>PS w0 w' b bs bn ⟨D.e,D.g,D.x,0,D.E.map ng,D.N.map pG⟩ SB NB HB UB/\Fr T3 w w'/\∃v,r=dR v:=by
 let⟨h0,h1,h2,h3,h4,h5,hf⟩:=h.nJ;have vY:=h.be.size;let⟨Z,hZ⟩:=aG (w.setCell (Ad b 3) (.I 0));have kZ:∀y,y≠b->Z.heap[y]?=w.heap[y]?:=λy hy=>by rw[hZ];exact fT _ _ _ _ hy
 have vO:Z.heap[b]?=dO #[.U D.e,.U D.g,.U D.x,.I 0,.map bs,.map bn] 181:=by rw[hZ];simp[World.setCell,AK,h.hd]
 have OZ:One w0 w Z b:=One.JM h.be (by rw[hZ];exact aD.setCell (p:=(Ad b 3)) aA _) h.hd h.lo.1 aj (λy _ hy=>kZ y hy);have PZ:=h.aJ1 OZ D.e D.g D.x 0 vO;let⟨M,n,oS,hn,mS,zS⟩:=PZ.tJ;obtain⟨-,-,-,-,i4,-,-⟩:=PZ.nJ;have Qz:O (∀s∈D.E,Maps.has M (.U s.1)):=λs hs=>by let⟨i,hi⟩:=jk.1 hs;obtain⟨gz,Cr,-⟩:=PZ.sat (i:=i) (s:=s) hi;exact(mS.hs _).2 ⟨(.U s.1,gz),by rw[jk];exact⟨i,by rw[qL,hi,Cr]⟩,rfl⟩
 have HP:=ag PZ;have HF:=ag OZ.T;have HZs:=ag OZ.b.size;have MS:=ag mS;clear PZ OZ mS zS kZ vO h0 h1 h2 h5;go_in;subst hZ;go_wp2_with(first
  |(at_range;refine wpList_range_own _ rfl _ 178 rfl 27 _ mr underlying178 _ bs n _ rfl oS ?_;intro w1 xS qP zt)
  |go_in)
 have eZ:U (w.setCell (Ad b 3) (.I 0)).heap=U w.heap:=aj;rw[eZ]at xS HZs;let⟨Z,hZ⟩:=aG (w.setCell (Ad b 3) (.I 0));rw[<-hZ]at HP HF qP eZ;have b1:Bw Z w1:=(aR _ Z).grown qP aA (λj S=>by cases S);have P1:=ag (HP.H b1);have F1:=ag (HF.Z (Fr.H (T:=T3) b1));let⟨r1,Bg⟩:=aG (U w.heap);rw[<-Bg]at xS⊢;have qc:U w0.heap<=r1:=af;clear Bg hZ eZ b1 qP zt oS i4 h3 h4 hf HP HF HZs
 go_loopw[3](λ_ wr=>∃(left:Lit->Bool)(gO:Nat),wr.ranges dG 27 iF bs r1 n M left gO/\O (PS w0 wr b bs bn ⟨D.e,D.g,D.x,0,Ay ng left D.E,D.N⟩ SB NB HB UB)/\O (Fr T3 w wr)) (λ_ wr=>wr.rangeLeft bs r1)
 exact⟨_,_,xS,by rw[da1 (ae Qz)];exact P1,F1⟩;{
 obtain⟨left,gO,iH,N,R⟩:=hrel;go_wp2_with(first
  |(at_next;refine Ta _ rfl _ rfl 27 mr (λi:Int=>.int .u64 i) cf4 bs r1 n _ _ MS _ _ rfl iH ?_ ?_)
  |go_in)
 {
 intro _ rC;have sI:=ae N;rw[da2 rC]at sI;obtain⟨-,-,-,-,-,i5,-⟩:=sI.nJ;let⟨M2,m,oN,hm,mN,zN⟩:=sI.pX;have ec3:O (∀nd∈D.N,Maps.has M2 (di nd.A)):=λnd aJ=>by let⟨i,hi⟩:=jk.1 aJ;let⟨gz,_,_,Cr,_,_⟩:=sI.nat (i:=i) (nd:=nd) hi;exact(mN.hs _).2 ⟨(di nd.A,gz),by rw[jk];exact⟨i,by rw[qL,hi,Cr]⟩,rfl⟩
 let⟨iY,eY⟩:=aG wr;subst eY;have hYs:=R.1;have P2:=ag sI;have MN:=ag mN;go_wp2_with(first
  |(at_range;refine wpList_range_own _ rfl _ 179 rfl 9 _ ru underlying179 _ bn m _ rfl oN ?_;intro w3 DU oF hs3)
  |go_in)
 have b3:Bw iY w3:=(aR _ iY).grown oF aA (λj S=>by cases S);have P3:=ag (P2.H b3);have F3:=ag (R.Z (Fr.H (T:=T3) b3));let⟨r2,uX⟩:=aG (U iY.heap);rw[<-uX]at DU⊢;have iw:U w0.heap<=r2:=af;clear uX b3 oF hs3 oN i5 P2 R
 go_loopw[5](λ_ wr=>∃(left:Lit->Bool)(gO:Nat),wr.ranges dG 9 iF bn r2 m M2 left gO/\O (PS w0 wr b bs bn ⟨D.e,D.g,D.x,0,D.E.map ng,BM pG left D.N⟩ SB NB HB UB)/\O (Fr T3 w wr)) (λ_ wr=>wr.rangeLeft bn r2)
 exact⟨_,_,DU,by rw[bK3 (ae ec3)];exact P3,F3⟩;{
 clear DU P3 F3;obtain⟨left,gO,iH,N,R⟩:=hrel;go_wp2_with(first
  |(at_next;refine Ta _ rfl _ rfl 9 ru (λs:ByteArray=>.string s) ap2 bn r2 m _ _ MN _ _ rfl iH ?_ ?_)
  |go_in)
 {intro _ rC;have hP4:=ae N;rw[bK4 rC]at hP4;have X:=ag hP4;clear hP4 N;go_wp2;go_end0;exact⟨X,R,_,rfl⟩};{
 intro i0 pl g1 w4 yt fh hp Mv xj aH dw ar1 ti;let⟨j,z,Va,S,Iv,ee⟩:=yD hp;simp only[jy]at ee;obtain⟨rfl,rfl⟩:=ee;let⟨nF,vR⟩:=bU1 iH;have O4:=One.ofI N.be dw iw nF;have X:=N.iter O4 (λcs ty=>nF cs ty _) vR;have F4:=R.Z O4.T;have fD:=bK5 (f:=pG) S Mv;let⟨g9,hh,uu,z1,z2,z3,N4⟩:=X.nat fD;rw[Iv]at z1;cases z1;obtain⟨V,-,-,-,-,-,-,-,-,n6,-⟩:=N4.cells;let⟨M4,n4,o4,UD,s4,z4⟩:=N4.yE;let⟨v,w5,fS,te,l9,hs5⟩:=bQ8 underlying158 o4 0;have W:=One.DA X.be l9 N4.lo.2.2 (ownsMap_at o4);have P5:=X.yE fD Iv z2 z3 W (SM.nil te);have P6:O (PS w0 w5 b bs bn ⟨D.e,D.g,D.x,0,D.E.map ng,BM pG (λE=>left E&&!E.sameKey (di z.A)) D.N⟩ SB NB HB UB):=by have:=P5;simp only at this;rw[<-bK2 (f:=pG) (ae hK) S];exact this
 have F5:=ag (F4.Z W.T);have uK:w5.ranges dG 9 iF bn r2 m M2 (λE=>left E&&!E.sameKey (di z.A)) yt:=by refine bU0 xj ?_ ?_;{obtain⟨M9,n9,o9,-⟩:=X.pX;exact W.k bn o9.lt (λe=>(X.hu.2.2.1 _ (bu z3)).2 e.C)};{obtain⟨es,clock,since,seen,c0,-,-,-,-,hi,-⟩:=xj;refine W.k r2 (gy hi) (λe=>?_);let⟨IS,c',hm4⟩:=ownsMap_at o4;rw[<-e,hi]at hm4;cases hm4}
 have YE:(Instr.entry (Pz r2)).run dG w4=.ok (dT #[.string i0,Pz g1]) w4:=ti;clear dw hp fh N R O4 X F4 N4 P5 W te l9 hs5 nF vR o4 s4 z4;go_wp2;go_roundw;exact⟨_,_,uK,P6,F5⟩
 case measure=>rw[uK.left_eq,iH.left_eq];exact aH}}}
 {
 intro i0 pl g1 w2 yt fh hp Mv xj aH dw ar1 ti;let⟨j,z,Va,S,Iv,ee⟩:=yD hp;simp only[jy]at ee;obtain⟨rfl,rfl⟩:=ee;let⟨nF,vR⟩:=bU1 iH;have O2:=One.ofI N.be dw qc nF;have P2:=N.iter O2 (λcs ty=>nF cs ty _) vR;have F2:=R.Z O2.T;have fD:=da3 (f:=ng) S Mv;let⟨a1,u,a2,a3⟩:=P2.vz j z g1 fD Iv;have fM:I w2 (Ad g1 1)=dI z.2.1:=cK a2 1;have gC:I w2 (Ad g1 2)=u:=cK a2 2;have hf:∀o,w2.frozen? (Ad g1 o)=dF:=λo=>by simp[World.frozen?,a2]
 let⟨ZZ,YR⟩:=aG ((w2.setCell (Ad g1 1) (.I 0)).setCell (Ad g1 2) aq);have W:One w0 w2 ZZ g1:=One.JM P2.be (by rw[YR];exact(aD.setCell (p:=(Ad g1 1)) aA _).setCell (p:=(Ad g1 2)) aA _) a2 a1 aj (λy _ hy=>by rw[YR,fT _ _ _ _ hy,fT _ _ _ _ hy]);have P5:=P2.Ay (s':=ng z) fD Iv W rfl ⟨a1,aq,by rw[YR];simp[World.setCell,AK,a2,ng],AQ.nil _ _⟩;have P6:O (PS w0 ZZ b bs bn ⟨D.e,D.g,D.x,0,Ay ng (λE=>left E&&!E.sameKey (.U z.1)) D.E,D.N⟩ SB NB HB UB):=by have:=P5;simp only at this;rw[<-da0 (f:=ng) (ae oG) S];exact this
 have F5:=ag (F2.Z W.T);have YE:(Instr.entry (Pz r1)).run dG w2=.ok (dT #[.U i0,Pz g1]) w2:=ti;have uK:ZZ.ranges dG 27 iF bs r1 n M (λE=>left E&&!E.sameKey (.U z.1)) yt:=by rw[YR];exact xj.of_walks ((KeepsWalks.setCell _ _ _).Z (KeepsWalks.setCell _ _ _))
 clear dw hp fh N R O2 P2 F2 W P5 a1 a2 a3 nF vR;go_wp2;rw[<-YR];go_roundw;exact⟨_,_,uK,P6,F5⟩
 case measure=>rw[uK.left_eq,iH.left_eq];exact aH}}
def yC.dur(h:yC ss ns):yC (ss.map ng) (ns.map pG):=by
 refine⟨?_,?_,λs N=>?_,λS R=>?_,λi j s E o m r=>?_,λi j s E o m r=>?_⟩;{rw[AH];exact h.s1};{rw[uB];exact h.n1};{obtain⟨D,y,rfl⟩:=fe.1 N;exact⟨(h.s2 D y).1,by simp[ng],λe he=>by simp[ng]at he⟩};{obtain⟨M,B,rfl⟩:=fe.1 R;obtain⟨a,b,c,d,-,f,-⟩:=h.n2 M B;exact⟨a,b,c,d,by simp[pG],f,by simp[pG]⟩};{rw[qn]at o m;obtain⟨a,u,rfl⟩:=Mc.1 o;obtain⟨x,q,rfl⟩:=Mc.1 m;exact h.s3 i j a x u q r};{rw[qn]at o m;obtain⟨a,u,rfl⟩:=Mc.1 o;obtain⟨x,q,rfl⟩:=Mc.1 m;exact h.n3 i j a x u q r}
def ex4{x:Int}(R:Le ss n)(V:Le ns m){w:G}(h:kV w (.S p n c) ss)(hN:gJ w (.S q m d) ns)(hn:Mg n)(hm:Mg m)(D:O (yC ss ns))(cQ:O (Bn ns))(og:O (Bu ns)):dQ dG 125 #[bS e g x t (.S p n c) (.S q m d)] w λr w'=>∃p' c' q' d',r=dR (bS e g x 0 (.S p' n c') (.S q' m d'))/\mY (U w.heap) w' p' n c' q' m d' (ss.map ng) (ns.map pG)/\Bw w w':=by
 let⟨W,hW,b1,z1,C1⟩:=xu w (.U e) (.U g) (.U x) (.I t) (.S p n c) (.S q m d);let⟨W2,fE,b2,z2,C2⟩:=Al W;rw[z1]at C2 z2;have X:=ai b1 b2;have u:=mX (h.H X) (hN.H X) C2 X z2;clear h hN C1 C2 X b1 b2 z1 z2;go_in;go_wp2_with fail;rw[<-hW,<-fE];clear hW fE;refine(Ws R V u.1 u.2.1 hn hm (ag λs hs=>(D.s2 s hs).1) D.s3 cQ og D.n3).h ?_;rintro r w4⟨b,bs,bn,SB,NB,HB,UB,rfl,bj,cT⟩;have P4:=ag (PS.of bj cT D (ae R▸hn) (ae V▸hm));have C4:=ag (u.2.2.1.H cT);clear bj cT;go_wp2_with fail;refine(cv6 P4 (KD.of D) D.s3).h ?_;rintro r w5⟨P5,F5,v5,rfl⟩;have C5:=ag (C4.T F5);have ld:=ag P5.be;have j:=D.dur;have HS:=ag (ah8 P5.Wt j.s1 j.n1 (by rw[ir,ae R];exact hn) (by rw[ir,ae V];exact hm) j.s2 j.n2);rw[show J (ss.map ng)=n by rw[ir,ae R],show J (ns.map pG)=m by rw[ir,ae V]]at HS;clear P5 F5 P4 C4 j;go_wp2_with fail;refine HS.h ?_;rintro r N⟨E,cs,M,cn,A1,A2,rfl,f1,f2,f3,f4,f5,gr⟩;let⟨r0,r1,r2,r3,r4,r5,rf⟩:=(C5.H gr).cells;have Z:=gv u.2.2.2.1.size ld.size;have bb:Bw w N:=(u.2.2.2.1.Z (ld.h u.2.2.2.1.size)).Z (gr.h Z);have O6:=bG (((show mY (U w5.heap) N E n cs M m cn _ _ from⟨A1,A2,f1,f2,f3,f4,f5⟩).W (w':=gu N (U w.heap+1) (.U e) (.U g) (.U x) (.I 0) (.S E n cs) (.S M m cn)) (λy h1 h2=>Fg (by have:=ld.size;have:=u.2.2.2.2;omega))).h (B':=U w.heap) Z) (bb.Z ((tR (w:=N) (U w.heap+1) (.U e) (.U g) (.U x) (.I 0) (.S E n cs) (.S M m cn)).h af));clear f1 f2 f3 f4 f5 gr bb Z HS;go_wp2;exact cg (v:=bS e g x 0 (.S E n cs) (.S M m cn)) (by simp[results,results125,go_sem,r0,r1,r2,r3,r4,r5]) rfl ⟨E,cs,M,cn,rfl,O6.1,O6.2⟩
variable {g:Nat}
def dL0{C:Nat}(u:O (k=J ls))(e:O (lm=cat ls))(s:Le lm n){w:G}(h:vj w g vs ls)(r:n<=4194304)(N:k<=1000):dQ dG 126 #[.T g k C] w λe i=>∃j m,e=dR (.S j n m)/\Own (U w.heap) i (.S j n m) lm/\Bw w i:=by
 have B:=ae u;have y:=ae e;have x:=ae s;subst B x y;go_in;go_wp2_with fail;refine(cD6 h r af).h ?_;rintro e M⟨o,D,rfl,q,E⟩;go_wp2;go_ret;exact⟨o,D,rfl,q,E⟩
def IU(w:G)(x:LI)(c:List dV)(l:List Lf):Prop:=∃p i,c=[.S p (J x) i]/\Rd w (.S p (J x) i) x/\xw (.S p (J x) i) x l
def IU.W(w w':G)(x:LI)(c:List dV)(l:List Lf)(h:IU w x c l)(j:∀a∈l,w'.heap[a.b]?=w.heap[a.b]?):IU w' x c l:=by
 obtain⟨p,q,o,m,i⟩:=h;exact⟨p,q,o,m.kR i j,i⟩
abbrev Sc(B:Nat)(w:G)(v:dV)(xs:List LI)(Ls:List (List Lf)):Prop:=OwnT IU 22 1 B w v xs Ls
variable {B:Nat}
def Sc.one{w:G}(h:Own B w (.S p (J l) c) l)(E:B<=U w.heap):∃Ls,Sc B (w.alloc (dO #[.S p (J l) c] 22)) (.T (U w.heap) 1 1) [l] Ls:=by
 have y:Bw w (w.alloc (dO #[.S p (J l) c] 22)):=aD.alloc aA _;have o:=Own.H h y;obtain⟨A,u,s,-,r⟩:=WI (kd:=.u8) o;refine⟨[A],[[.S p (J l) c]],rfl,rfl,λc hc=>by simp at hc;subst hc;rfl,?_,λi x R N j hc m=>?_,by simpa using s,λa D=>?_⟩;{have:=aU1 (base:=B) (e:=22) (size:=1) w #[.S p (J l) c] 1 E bf rfl;simpa using this};{
 have:i=0:=by have:=(bg.1 j).1;simpa using this
 subst this;simp at j hc m;subst j hc m;exact⟨p,c,rfl,o.rd,u⟩};{
 have q:a∈A:=by simpa using D
 have e:=r a q;have:=(h.lt a.b e).2;intro M;simp only[Value.ownBlock,mn]at M;omega}
def Sc.parts{w:G}(h:Sc B w (.S p n c) xs Ls)(q:J xs=n)(E:0<n):∃g vs,p=(Ad g 0)/\vj w g vs xs:=by
 obtain⟨g,rfl,-⟩:=h.ptr q E;obtain⟨cs,Z,X,D,i,y,W,V⟩:=h;rw[q]at i;refine⟨g,cs.flatten,rfl,?_,λj v x o m=>?_⟩;{have:=i.1;omega};{have R:=(bg.1 m).1;obtain⟨M,hc⟩:∃x,cs[j]?=Y x:=⟨_,bD af⟩;obtain⟨l,u⟩:∃x,Ls[j]?=Y x:=⟨_,bD af⟩;obtain⟨N,c',rfl,s,-⟩:=y j x M l m hc u;have e:=ax9 D hc (j:=0) bf;rw[J4,DL,o]at e;simp at e;subst e;have r:=i.cellAt j af;rw[o]at r;exact⟨r,s⟩}
def OwnT.app{α:Type}{el:G->α->List dV->List Lf->Prop}{V j:G}{xs:List α}{x:α}{c:List dV}{l:List Lf}(h:OwnT el ty sz B V v xs Ls)(y:∀w s x c l,el w x c l->(∀a∈l,s.heap[a.b]?=w.heap[a.b]?)->el s x c l)(q:Bw V j)(D:el j x c l)(hc:J c=sz)(R:gh (U V.heap) j l)(N:B<=U V.heap):∃row,j.ownsRow B ty sz v (J xs) row/\∀m o,o.ownsRow B ty sz m (J xs+1) (row++c)->j.grownBy o v.ownBlock->(∀g,m.ownBlock=Y g->v.ownBlock=Y g\/U j.heap<=g)→
   OwnT el ty sz B o m (xs++[x]) (Ls++[l])/\∃p r,m=.S p (J xs+1) r:=by
 have u:=h.lt;let⟨cs,g1,g2,g3,g4,g5,g6,Z⟩:=h.H y q;refine⟨cs.flatten,g4,λm o W E X=>?_⟩;have sn:=OwnT.snoc g1 g2 g3 g5 g6 Z y D hc R N (λa M=>(u.2 a M).2) (λb q=>(u.1 b q).2) W E X;refine⟨sn,?_⟩;obtain⟨p,r,e,-⟩:=sn.read;rw[dm]at e;exact⟨p,r,e⟩
def Rj{w:G}{t:TypeId}:∀j u,cs[j]?=Y u->I (w.alloc (dO cs.toArray t)) (Aw w j)=Y u:=λj u i=>(aQ.alloc w cs.toArray t).1 j u (by simpa using i)
def IU.of{w:G}{d:LI}(e:J d=M)(r:Rd w (.S p M c) d)(q:xw (.S p M c) d lb):IU w d [.S p M c] lb:=by
 subst e;exact⟨p,c,rfl,r,q⟩
def aX5{α:Type}{F:α->LI}{l:List α}{y:α}{D:LI}(i:l[k]?=y)(j:F y=D):(vi n::(l.take k).map F)++[D]=vi n::(l.take (k+1)).map F:=by
 rw[pZ,i,pK,<-j];rfl
def dF2{α:Type}{F:α->LI}{l:List α}(h:k<=J l):J (vi n::(l.take k).map F)=k+1:=by
 rw[kJ,ir,rM];omega
def mP{α:Type}(f:α->LI)(l:List α):LI:=cat (vi (J l)::l.map f)
def ju(i:Int):LI:=vi i.toNat
def LiI{α:Type}(F:α->LI)(n:Nat)(l:List α)(w:G)(pv m:dV)(wr:G):Prop:=∃(k:Nat)(i:OA)(j:Nat)(o:List (List Lf)),k<=n/\pv=.S i (k+1) j/\m=.I k/\O (Sc (U w.heap) wr (.S i (k+1) j) (vi n::(l.take k).map F) o)/\Bw w wr
def dF3{α:Type}{F:α->LI}{l:List α}{m:Nat}{w:G}(j:J l=n)(h:Sc B w (.S p2 (n+1) m) (vi n::(l.take n).map F) Ls):∃iG vs,p2=(Ad iG 0)/\O (vj w iG vs (vi n::l.map F))/\O (n+1=J (vi n::l.map F))/\O (mP F l=cat (vi n::l.map F)):=by
  subst j;rw[wV]at h;let⟨iG,vs,e,i⟩:=h.parts aj af;exact⟨iG,vs,e,i,(by show _=_;simp),cM⟩
theorem liW{q:Prop}(h':q:=by
    let⟨ib,UM,iD,fw,fI⟩:=kx Tryz.infoSl;have HR:=ag λ(w':G)(hb:Bw w w')=>h.H hb;clear h;have wn:IntKind.u64.wrap (n:Int)=(n:Int):=by rw[uG];omega
    show dQ _ _ _ _ _;go_in;go_wp2_with fail;refine(Th af).h ?_;rintro r w1⟨p1,c1,rfl,o1,b1⟩;let⟨Ls0,hP⟩:=Sc.one o1 b1.size;let⟨v0,dz⟩:=aG (w1.alloc (dO #[.S p1 (J (vi n)) c1] 22));have hb0:Bw w v0:=dz▸b1.alloc b1.size _;rw[<-dz]at hP;have HP:=ag hP;clear hP o1;generalize J (vi n)=M at*;go_wp2;rw[<-dz];clear dz b1
    first
      |(go_loopw[5,15](LiI ju n l w) (λ_ iv _=>n-(intOf iv).toNat))
      |(go_loopw[5,15](LiI px n l w) (λ_ iv _=>n-(intOf iv).toNat))
      |(go_loopw[5,15](LiI jN n l w) (λ_ iv _=>n-(intOf iv).toNat))
    {exact⟨0,_,_,_,cO _,rfl,rfl,HP,hb0⟩};{
 obtain⟨k,p2,c2,Ls,hk,rfl,rfl,ho,az⟩:=hrel;by_cases aH:k<n;{
 have cL:=bM k n;have bR:k<J l:=ae en▸aH;let⟨y,hy⟩:=nR bR;have wk:IntKind.i64.wrap ((k:Int)+1)=((k+1:Nat):Int):=by rw[kP _ af];omega
 first
   | (have T0:LI:=l
      have hi:=ae hu y (bu hy);obtain⟨v,rfl⟩:∃v:Nat,y=(v:Int):=⟨y.toNat,af⟩;obtain⟨b,o,rfl,hc⟩:∃b o,p=(Ad b o)/\I wr (Ad b (o+k))=dU v:=by let⟨p',c',ev,hd⟩:=ae HR _ az;obtain⟨rfl,-,-⟩:=jJ ev;obtain h0|⟨b,o,h1,h2⟩:=hd;{rw[h0]at bR;simp at bR};{refine⟨b,o,h1,?_⟩;have:=h2 k bR;rw[im,hy,rJ]at this;exact this}
      have EL:=ag (aX5 (n:=n) (F:=ju) hy (D:=vi v) rfl);clear bR hy;go_wp2_with fail;have iW:=ho;have YN:=az;refine(Th af).h ?_;rintro r w3⟨p3,c3,rfl,o3,aI⟩;obtain⟨M3,Rh⟩:∃M,O (J (vi v)=M):=⟨_,rfl⟩;rw[ae Rh]at o3⊢;clear hc ho az)
   | (have T0:List aB:=l
      obtain⟨i,dl,qu⟩:=y;have hi:=ae hu _ (bu hy);dsimp only at hi;obtain⟨v,rfl⟩:∃v:Nat,i=(v:Int):=⟨i.toNat,af⟩;obtain⟨b,o,rfl,ki,fM,pq,nq,cq,gC⟩:∃b o,p=(Ad b o)/\I wr (Ad b (o+k*3))=dU v/\I wr (Ad b (o+k*3+1))=dI dl/\∃pq nq cq,I wr (Ad b (o+k*3+2))=dS pq nq cq:=by let⟨p',c',ev,hd⟩:=ae HR _ az;obtain⟨rfl,-,-⟩:=jJ ev;obtain h0|⟨b,o,h1,h2⟩:=hd;{rw[h0]at bR;simp at bR};{let⟨d1,d2,u,d3,d4⟩:=h2 k _ hy;obtain⟨pq,cq,rfl,-⟩:=d4;exact⟨b,o,h1,d1,d2,pq,_,cq,d3⟩}
      have EL:=ag (aX5 (n:=n) (F:=px) hy (D:=vi v) rfl);clear bR hy;go_wp2_with fail;let⟨X,hX⟩:=aG (wr.alloc (dO #[.U v,.I dl,.S pq nq cq] 97));have lQ:=gF hX;have iW:=ag (ho.H IU.W lQ);have YN:=ai az lQ;rw[<-hX];clear hX ho az lQ;refine(CS v dl pq nq cq X af).h ?_;rintro r w3⟨p3,c3,rfl,o3,aI⟩;obtain⟨M3,Rh⟩:∃M,O (J (vi v)=M):=⟨_,rfl⟩;rw[ae Rh]at o3⊢;clear ki fM gC)
   | (have hi:=hu.d y (bu hy)
      have hlen:=(aS0 hu.w y (bu hy)).1;obtain⟨b,o,rfl,PP,PV,PH,PU,DW⟩:∃b o,p=(Ad b o)/\∃P V H iU,Jj wr b (o+k*8) y P V H iU:=by let⟨p',c',ev,hd⟩:=ae HR _ az;obtain⟨rfl,-,-⟩:=jJ ev;obtain h0|⟨b,o,h1,h2⟩:=hd;{rw[h0]at bR;simp at bR};{exact⟨b,o,h1,h2 k _ hy⟩}
      obtain⟨pA,cA,nA,rfl,eA⟩:=DW.r0.dy;obtain⟨pB,cB,nB,rfl,eB⟩:=DW.r1.dy;obtain⟨pD,cD,nD,rfl,eD⟩:=DW.r4.dy;obtain⟨pU,cU,nU,rfl,-⟩:=DW.r7.dy;obtain⟨ki,fM,gC,nK,uR,oI,jH,hc7,q0,q1,q4,-,-⟩:=DW;have QQ:=du q0 q1 q4;obtain⟨⟨j1,j2,j3⟩,j4,j5,j6,j7,j8⟩:=hi;rw[ae eA]at j1;rw[ae eB]at j2;rw[ae eD]at j3;have J8:=ag j8;obtain⟨ow,Ef⟩:∃v:Nat,y.D=(v:Int):=⟨y.D.toNat,af⟩;obtain⟨ep,Vh⟩:∃v:Nat,y.P=(v:Int):=⟨y.P.toNat,af⟩;obtain⟨ge,Vg⟩:∃v:Nat,y.F=(v:Int):=⟨y.F.toNat,af⟩;obtain⟨mo,Vf⟩:∃v:Int,y.M=v:=⟨_,rfl⟩;rw[Ef]at gC j5;rw[Vh]at oI j6;rw[Vg]at jH j7;rw[Vf]at nK j4;obtain⟨M3,Rh⟩:∃M,O (J (jN y)=M):=⟨_,cM⟩;have eNB:O (jN y=DB y.A y.V ow mo y.y ep ge):=by show _=_;rw[jN,Ef,Vh,Vg,Vf];rfl
      have eu4:O (J (DB y.A y.V ow mo y.y ep ge)=M3):=by show _=_;rw[<-ae eNB];exact ae Rh
      rw[ae Rh]at hlen;clear q0 q1 q4 j8 Ef Vh Vg Vf;have EL:=ag (aX5 (n:=n) (F:=jN) hy (D:=jN y) rfl);clear bR hy;go_wp2_with fail;let⟨X,hX⟩:=aG (wr.alloc (dO #[.S pA nA cA,.S pB nB cB,.U ow,.I mo,.S pD nD cD,.U ep,.U ge,.S pU nU cU] 141));have lQ:=gF hX;have iW:=ag (ho.H IU.W lQ);have YN:=ai az lQ;rw[<-hX];refine(CN pA pB pD nA cA nB cB nD cD (.S pU nU cU) y.A y.V y.y ow ep ge mo eA eB eD X (QQ.1.H lQ) (QQ.2.1.H lQ) (QQ.2.2.H lQ) af af af J8 af af af j4 M3 eu4 af).h ?_;clear hX ho az lQ;rintro r w3⟨p3,c3,rfl,o3,aI⟩;rw[<-ae eNB]at o3;clear ki fM gC nK uR oI jH hc7)
 let⟨v3,gq⟩:=aG (w3.alloc (dO #[.S p3 M3 c3] 22));have hA:=gF gq;have hcZ:∀j u,([.S p3 M3 c3]:List dV)[j]?=Y u->I v3 (Aw w3 j)=Y u:=gq▸Rj;have z4:U v3.heap=U w3.heap+1:=by rw[gq];simp
 have o4:=Own.H o3 hA;obtain⟨lb,q1,q2,-,-⟩:=WI (kd:=.u8) o4;have z3:=aI.size;have zr:=YN.size;have Yp:=ag λb eb=>(iW.lt.1 b eb).1;let⟨row,uJ,uS⟩:=iW.app IU.W (ai aI hA) (IU.of Rh o4.rd q1) rfl q2 zr;rw[dF2 (by rw[ae en];omega)]at uJ uS;have Jt:=ag uS;have BG:=ag uJ;have b3:=ag (ai YN (ai aI hA));have xz:=ag hcZ;clear uS uJ o3 o4 q1 q2 iW aI hA YN hcZ;go_wp2_with(at_builtin;rw[<-gq];refine Dt rfl 44 rfl ib 1 underlying44 UM iD fw fI rfl bf (.S p2 (k+1) c2) rfl BG (U w3.heap) 1 1 [.S p3 M3 c3] rfl rfl xz (λu hu=>by simp at hu;subst hu;rfl) jC af af ?_);intro v' w9 gx hg zG;have gP:∀g,v'.ownBlock=Y g->(Value.slice p2 (k+1) c2).ownBlock=Y g\/U v3.heap<=g:=λg eg=>by have:=zG g eg;rw[gq];simpa using this
 rw[<-gq]at hg;obtain⟨sn,p9,c9,rfl⟩:=ae Jt v' w9 gx hg gP;rw[ae EL]at sn;have ke:Bw w w9:=b3.grown hg b3.size (λb hb=>ae Yp b hb);have SN:=ag sn;clear sn EL gx hg gP zG gq Jt BG b3;go_wp2;go_roundw;{exact⟨k+1,_,_,_,af,rfl,by go_num,SN,ke⟩};{simp[intOf];omega}};{have cL:=fq k n;obtain rfl:n=k:=af;obtain⟨iG,vs,rfl,hPa,LX,EE⟩:=dF3 en ho;clear ho hk aH;go_wp2_with fail;refine(dL0 LX EE eN hPa hN af).h ?_;rintro r w5⟨p5,c5,rfl,o5,cY⟩;have b5:=ai az cY;have O5:=ag (Own.h (B':=U w.heap) o5 az.size);clear o5 cY;go_wp2;go_ret;exact⟨p5,c5,rfl,O5,b5⟩}}):q:=h'
def dE8(en:Le l n){w:G}(h:iZ w (.S p n c) l)(m:n<=900)(hu:O (∀i∈l,0<=i/\i<2^64))(eN:O (J (mP ju l)=N))(hN:N<=4194304):Cp 192 #[.S p n c,.func (.func 127) #[] #[]] w λe w'=>∃p' c',e=dR (.S p' N c')/\Own (U w.heap) w' (.S p' N c') (mP ju l)/\Bw w w':=liW
abbrev vo(w:G)(b:Nat)(v0 v1 v2 v3 v4 v5 v6 v7:dV):Prop:=I w (Ad b 0)=v0/\I w (Ad b 1)=v1/\I w (Ad b 2)=v2/\I w (Ad b 3)=v3/\I w (Ad b 4)=v4/\I w (Ad b 5)=v5/\I w (Ad b 6)=v6/\I w (Ad b 7)=v7
def vo.H{w w':G}(h:vo w b v0 v1 v2 v3 v4 v5 v6 v7)(i:Bw w w'):vo w' b v0 v1 v2 v3 v4 v5 v6 v7:=
 ⟨al h.1 i,al h.2.1 i,al h.2.2.1 i,al h.2.2.2.1 i,al h.2.2.2.2.1 i,al h.2.2.2.2.2.1 i,al h.2.2.2.2.2.2.1 i,al h.2.2.2.2.2.2.2 i⟩
def dr8(h:I u (Ad b 0)=Y (.int .u8 y)):Rd u (.T b 1 1) [y]:=by
 refine⟨_,_,rfl,.R ⟨b,0,rfl,λi j=>?_⟩⟩;obtain rfl:i=0:=by simpa using j
 simpa using h
def Ti{v:Nat}{w:G}(q:v<2^64)(o:O (J (vi v)=M)):Cp 127 #[.U v] w λe i=>∃j m,e=dR (.S j M m)/\Own (U w.heap) i (.S j M m) (vi v)/\Bw w i:=by
 obtain rfl:=ae o;exact Th q
theorem dL1{B y:LI}(e:O (lm=cat [l0,l1,l2,l3,l4,B,y]))(en:Le lm N)(Z:Rd X v0 l0)(W:Rd X v1 l1)(V:Rd X v2 l2)(R:Rd X v3 l3)(M:Rd X v4 l4)(E:Rd X v5 B)(D:Rd X v6 y)(hl:N<=4194304):Cp 126 #[.T (U X.heap) 7 7] (X.alloc (dO #[v0,v1,v2,v3,v4,v5,v6] 22)) λe u=>∃r s,e=dR (.S r N s)/\Own (U X.heap) u (.S r N s) lm/\Bw X u:=by
 have q:Bw X (X.alloc (dO #[v0,v1,v2,v3,v4,v5,v6] 22)):=aD.alloc aA _;refine(DQ (vs:=[v0,v1,v2,v3,v4,v5,v6]) [l0,l1,l2,l3,l4,B,y] 7 rfl e en ⟨rfl,λj v x m i=>?_⟩ hl af).h ?_;{
 match j,m,i with
 |0,m,i=>simp at m i;subst m i;exact⟨aj,Z.H q⟩
 |1,m,i=>simp at m i;subst m i;exact⟨aj,W.H q⟩
 |2,m,i=>simp at m i;subst m i;exact⟨aj,V.H q⟩
 |3,m,i=>simp at m i;subst m i;exact⟨aj,R.H q⟩
 |4,m,i=>simp at m i;subst m i;exact⟨aj,M.H q⟩
 |5,m,i=>simp at m i;subst m i;exact⟨aj,E.H q⟩
 |6,m,i=>simp at m i;subst m i;exact⟨aj,D.H q⟩}
 {rintro e u⟨r,s,rfl,o,hb⟩;exact⟨r,s,rfl,Own.h o aj,ai q hb⟩}
def DB(P V:LI)(i:Nat)(j:Int)(H:LI)(o m:Nat):LI:=cat [tx P,tx V,vi i,[j],mP ju H,vi o,vi m]
def jN(nd:ar):LI:=DB nd.A nd.V nd.D.toNat nd.M nd.y nd.P.toNat nd.F.toNat
theorem dA4(p q r:OA)(n c m d k f:Nat)(iU:dV)(P V H:LI)(y D B:Nat)(x:Int)(eP:Le P n)(eV:Le V m)(eH:Le H k)(w:G)(hP:Rd w (.S p n c) P)(hV:Rd w (.S q m d) V)(hH:iZ w (.S r k f) H)(bn:Mg n)(bm:Mg m)(bk:k<=900)(hu:O (∀i∈H,0<=i/\i<2^64))(b1:y<2^64)(b2:D<2^64)(b3:B<2^64)(bmo:0<=x/\x<=2)(N:Nat)(eN:O (J (DB P V y x H D B)=N))(hN:N<=4194304):dQ dG 131 #[Cc (.S p n c) (.S q m d) y x (.S r k f) D B iU] w λe w'=>∃p' c',e=dR (.S p' N c')/\Own (U w.heap) w' (.S p' N c') (DB P V y x H D B)/\Bw w w':=by
 have HP:=ag λ(w':G)(u:Bw w w')=>aF (hP.H u) (aF (hV.H u) (hH.H u));clear hP hV hH;have wm:IntKind.u8.wrap x=x:=by rw[JY];omega
 obtain⟨N0,e0⟩:∃M,O (J (tx P)=M):=⟨_,cM⟩;obtain⟨N1,e1⟩:∃M,O (J (tx V)=M):=⟨_,cM⟩;obtain⟨N2,e2⟩:∃M,O (J (vi y)=M):=⟨_,cM⟩;obtain⟨N4,e4⟩:∃M,O (J (mP ju H)=M):=⟨_,cM⟩;obtain⟨N5,e5⟩:∃M,O (J (vi D)=M):=⟨_,cM⟩;obtain⟨N6,e6⟩:∃M,O (J (vi B)=M):=⟨_,cM⟩;have UY:N4<=4194304:=by have h1:=ae eN;have h2:=ae e4;simp only[DB,cat,tW,dm]at h1;omega
 have EE:O (DB P V y x H D B=cat [tx P,tx V,vi y,[x],mP ju H,vi D,vi B]):=by show _=_;rfl
 let⟨W0,cI⟩:=aG (w.alloc (dO #[.S p n c,.S q m d,.U y,.I x,.S r k f,.U D,.U B,iU] 141));have I8:=gF cI;have hA8:vo W0 (U w.heap) (.S p n c) (.S q m d) (.U y) (.I x) (.S r k f) (.U D) (.U B) iU:=by rw[cI];simp[vo,go_sem]
 go_in;go_wp2_with fail;rw[<-cI];let⟨v,dz⟩:=aG W0.drew;have X:O (Bw w v):=dz▸I8.drew;have S:O (vo v (U w.heap) (.S p n c) (.S q m d) (.U y) (.I x) (.S r k f) (.U D) (.U B) iU):=dz▸hA8;refine fk (λw'=>vo w' (U w.heap) (.S p n c) (.S q m d) (.U y) (.I x) (.S r k f) (.U D) (.U B) iU) (dz▸ae S) λhS=>?_;rw[<-dz]at hS⊢;clear dz cI I8 hA8;refine iR 0 1 3 4 6 7 9 10 hS ?_;refine iC 11 13 14 16 hS ?_;refine fO 17 19 hS ?_;refine tn 20 hS ?_
 iterate 7 (
  all_goals(first|refine vE 2 (λs hK=>?_)|refine vE 5 (λs hK=>?_)|refine vE 8 (λs hK=>?_)|refine vE 15 (λs hK=>?_)|refine vE 18 (λs hK=>?_)|refine vE 21 (λs hK=>?_)|refine vE 12 (λs hK=>?_)|refine AE 2 12 (λs hK=>?_) (λs hK=>?_)|refine AE 5 12 (λs hK=>?_) (λs hK=>?_)|refine AE 8 12 (λs hK=>?_) (λs hK=>?_)|refine AE 12 15 (λs hK=>?_) (λs hK=>?_)|refine AE 12 18 (λs hK=>?_) (λs hK=>?_)|refine AE 12 21 (λs hK=>?_) (λs hK=>?_))
  all_goals(first
   |(
    refine Tag.go 2 (jg (ag9 eP (ae HP _ X).1 bn e0) ?_);rintro z9 W⟨pA,cA,rfl,o,u⟩;refine⟨_,rfl,?_⟩;have RA:=ag o.rd;clear o)
   |(
    refine Tag.go 5 (jg (ag9 eV (ae HP _ X).2.1 bm e1) ?_);rintro z9 W⟨pB,cB,rfl,o,u⟩;refine⟨_,rfl,?_⟩;have RB:=ag o.rd;clear o)
   |(
    refine Tag.go 8 (jg (Ti b1 e2) ?_);rintro z9 W⟨pC,cC,rfl,o,u⟩;refine⟨_,rfl,?_⟩;have RC:=ag o.rd;clear o)
   |(
    refine Tag.go 15 (wD (dE8 eH (ae HP _ X).2.2 bk hu e4 UY) ?_);rintro z9 W⟨pD,cD,rfl,o,u⟩;refine⟨_,rfl,?_⟩;have RD:=ag o.rd;clear o)
   |(
    refine Tag.go 18 (jg (Ti b2 e5) ?_);rintro z9 W⟨pE,cE,rfl,o,u⟩;refine⟨_,rfl,?_⟩;have RE:=ag o.rd;clear o)
   |(
    refine Tag.go 21 (jg (Ti b3 e6) ?_);rintro z9 W⟨pF,cF,rfl,o,u⟩;refine⟨_,rfl,?_⟩;have RF:=ag o.rd;clear o)
   |(
    refine Tag.go 12 ?_;go_simp;let⟨W,hv⟩:=aG (v.alloc (dO #[.int .u8 x] 5));have u:=gF hv;have hp:I W (Ad (U v.heap) 0)=Y (.int .u8 x):=by rw[hv];simp
    rw[<-hv];let⟨GL,hGL⟩:=aG (U v.heap);rw[<-hGL]at hp⊢;have RL:=ag (dr8 hp);clear hv hp hGL))
  all_goals(
   have S:=ag (S.H u);have X:=ag (ai X u)
   try have RA:=ag (RA.H u)
   try have RB:=ag (RB.H u)
   try have RC:=ag (RC.H u)
   try have RD:=ag (RD.H u)
   try have RE:=ag (RE.H u)
   try have RF:=ag (RF.H u)
   try have RL:=ag (RL.H u)
   refine bL hK (by exact S) λhS=>?_;clear hK s u
   rename G=>v
   skip))
 all_goals(
  refine ew 22 (λs hK=>?_);go_simp;let⟨iY,hY⟩:=aG (v.alloc (dO #[.S pA N0 cA,.S pB N1 cB,.S pC N2 cC,.T GL 1 1,.S pD N4 cD,.S pE N5 cE,.S pF N6 cF] 22));have hbY:=gF hY;have SY:=ag (S.H hbY);have JJ:=ag (dL1 EE eN RA RB RC RL RD RE RF hN);rw[<-hY]at JJ⊢;refine bL hK (by exact SY) λhS=>?_;clear hK s hY hbY;refine ew 23 (λs hK=>?_);refine jg JJ ?_;rintro z9 Z⟨pj,cj,rfl,oj,jZ⟩;refine⟨_,rfl,?_⟩;have FI:=bG (Own.h (B':=U w.heap) oj X.size) (ai (ae X) jZ);refine bL hK (by exact S.H jZ) λhS=>?_;clear hK s oj jZ;refine tn 24 hS ?_;refine fy ?_;clear hS;go_wp2;go_ret;exact⟨pj,cj,rfl,FI⟩
  skip)
def px(s:aB):LI:=vi s.1.toNat
def dl3(v:Nat)(d:Int)(p:OA)(n c:Nat)(w:G)(D:v<2^64):dQ dG 129 #[.agg #[.U v,.I d,.S p n c]] w λe i=>∃j o,e=dR (.S j (J (vi v)) o)/\Own (U w.heap) i (.S j (J (vi v)) o) (vi v)/\Bw w i:=by
 go_in;go_wp2_with fail;have x:Bw w (w.alloc (dO #[.U v,.I d,.S p n c] 97)):=aD.alloc aA _;refine(Th D).h ?_;rintro r E⟨s,y,rfl,m,q⟩;have B:=ai x q;have u:=Own.h (B':=U w.heap) m aj;clear m q;go_wp2;go_ret;exact⟨s,y,rfl,u,B⟩
def dE9{l:List aB}(en:Le l n){w:G}(h:kV w (.S p n c) l)(m:n<=900)(hu:O (∀s∈l,0<=s.1/\s.1<2^64))(eN:O (J (mP px l)=N))(hN:N<=4194304):Cp 128 #[.S p n c,.func (.func 129) #[] #[]] w λe w'=>∃p' c',e=dR (.S p' N c')/\Own (U w.heap) w' (.S p' N c') (mP px l)/\Bw w w':=by
 have CS:=@dl3;exact liW
def qH(e g x:Nat)(ss:List aB)(ns:List ar):LI:=cat [vi e,vi g,vi x,mP px ss,mP jN ns]
def cc9{α:Type}(f:α->LI)(h:α->α)(hf:∀x,f (h x)=f x)(l:List α):mP f (l.map h)=mP f l:=by
 rw[mP,mP,ir,uB];congr 2;exact Px λx _=>hf x
def bM8(e g x:Nat)(ss:List aB)(ns:List ar):qH e g x (ss.map ng) (ns.map pG)=qH e g x ss ns:=by
 rw[qH,qH,cc9 px ng (λ_=>rfl),cc9 jN pG (λ_=>rfl)]
theorem aB0{α:Type}(f:α->LI)(C:Nat):∀l:List α,(∀x∈l,J (f x)<=C)->J (cat (l.map f))<=C*J l
 |[],_=>cO _
 |x::l,h=>by have j:=aB0 f C l λy i=>h y (by simp[i]);have m:=h x aj;rw[kI,cat,tW,dm,kJ,aU6];rw[cat]at j;omega
def Ig{α:Type}(f:α->LI)(l:List α):mP f l=vi (J l)++cat (l.map f):=by rw[mP,cat,tW,cat]
structure Ap(ss:List aB)(ns:List ar):Prop where
 n1:J ss<=50
 n2:J ns<=200
 s:∀s∈ss,0<=s.1/\s.1<2^64
 d:∀nd∈ns,(J nd.A<=136/\J nd.V<=40/\J nd.y<=50)/\(0<=nd.M/\nd.M<=2)/\(0<=nd.D/\nd.D<2^64)/\(0<=nd.P/\nd.P<2^64)/\(0<=nd.F/\nd.F<2^64)/\∀i∈nd.y,0<=i/\i<2^64
def Ap.w(h:Ap ss ns):SmW ss ns:=⟨gv h.n1 (by decide),gv h.n2 (by decide),h.s,λi j=>by
 let⟨⟨a,b,c⟩,d,e⟩:=h.d i j;exact⟨⟨a,af,af⟩,af,e⟩⟩
def Ap.dur(h:Ap ss ns):Ap (ss.map ng) (ns.map pG):=by
 refine⟨by rw[ir];exact h.n1,by rw[ir];exact h.n2,λs o=>?_,λr q=>?_⟩;{obtain⟨j,i,rfl⟩:=fe.1 o;exact h.s j i};{obtain⟨m,i,rfl⟩:=fe.1 q;exact h.d m i}
def aM8{g x:Int}(h:lr e g x t ss ns)(D:Bu ns)(B:Bo ns)(u:∀nd∈ns,(0<=nd.P/\nd.P<2^64)/\0<=nd.F/\nd.F<2^64):Ap ss ns:=by
 let⟨V,S,R,h4,N⟩:=(aM1 e g x t ss ns).1 h;simp only[Mm,jX]at V;refine⟨af,af,aN5 S af,λnd j=>?_⟩;have s:=R;rw[AF,gL]at s;have FK:∀y∈ns,xJ e g y:=(I9 ns jh (xJ e g)).1 λi o=>ky.1 s.1 i (vH.2 o);have r:=FK nd j;simp only[xJ,gL,jX]at r;obtain⟨Z,X,m,W,g5⟩:=r;refine⟨⟨JB Z,X,?_⟩,?_,B nd j,(u nd j).1,(u nd j).2,(D nd j).1⟩;{
 have M:=bu5 W;have q:nd.y.Nodup:=M.imp (λ{a b}yb=>af);have:=XH nd.y (ss.map (·.1)) q λi o=>by have:=N nd j i (by unfold Jk;simp[o]);obtain⟨z,E,rfl⟩:=(aX4 (ss:=ss) (i:=i)).1 this;exact fe.2 ⟨z,E,rfl⟩
 rw[ir]at this;omega};{unfold pL at m;split at m;{omega};{simp only[gL]at m;have:=m.2.2;split at this;{omega};{simp only[gL,Fo]at this;omega}}}
def aS0(h:SmW ss ns):∀nd∈ns,J (jN nd)<=800/\J (mP ju nd.y)<=520:=by
 intro nd i;obtain⟨⟨q,o,m⟩,-⟩:=h.d nd i;have E:=Hi nd.A;have D:=Hi nd.V;have B:=pf nd.D.toNat;have y:=pf nd.P.toNat;have u:=pf nd.F.toNat;have j:J (mP ju nd.y)<=520:=by have s:=pf (J nd.y);have r:=aB0 ju 10 nd.y λx _=>(pf _).2;rw[Ig,dm];omega
 refine⟨?_,j⟩;simp only[jN,DB,cat,tW,aW6,dm,kJ,yS];omega
variable {e:Nat}
def bM7(h:SmW ss ns):J (qH e g x ss ns)<=190000/\J (mP px ss)<=600/\J (mP jN ns)<=170000:=by
 have y:=pf e;have u:=pf g;have s:=pf x;have r:=pf (J ss);have q:=aB0 px 10 ss λx _=>(pf _).2;have o:=pf (J ns);have b4:=aB0 jN 800 ns λx i=>(aS0 h x i).1;have:=h.n1;have:=h.n2;have m:J (mP px ss)<=600:=by rw[Ig,dm];omega
 have j:J (mP jN ns)<=170000:=by rw[Ig,dm];omega
 refine⟨?_,m,j⟩;simp only[qH,cat,tW,aW6,dm,yS];omega
def CG(e g x t:Int)(ss:List aB)(ns:List ar):LI:=if lr e g x t ss ns then qH e.toNat g.toNat x.toNat ss ns else[]
def Own.nil(B:Nat)(w:G):Own B w aq []:=⟨rfl,.L ⟨rfl,rfl⟩⟩
def dF0{l:List ar}(en:Le l n){w:G}(h:gJ w (.S p n c) l)(m:n<=900)(hu:O (Ap ss l))(eN:O (J (mP jN l)=N))(hN:N<=4194304):dQ dG 130 #[.S p n c,.func (.func 131) #[] #[]] w λe w'=>∃p' c',e=dR (.S p' N c')/\Own (U w.heap) w' (.S p' N c') (mP jN l)/\Bw w w':=by
 have CN:=@dA4;exact liW
def dK9(e:O (lm=cat [l0,l1,l2,l3,l4]))(E:Le lm N)(y:Rd X v0 l0)(x:Rd X v1 l1)(u:Rd X v2 l2)(s:Rd X v3 l3)(r:Rd X v4 l4)(B:N<=4194304):Cp 126 #[.T (U X.heap) 5 5] (X.alloc (dO #[v0,v1,v2,v3,v4] 22)) λe q=>∃j m,e=dR (.S j N m)/\Own (U X.heap) q (.S j N m) lm/\Bw X q:=by
 have i:Bw X (X.alloc (dO #[v0,v1,v2,v3,v4] 22)):=aD.alloc aA _;refine(DQ [l0,l1,l2,l3,l4] 5 rfl e E (bV5 aj aj aj aj aj (y.H i) (x.H i) (u.H i) (s.H i) (r.H i)) B af).h ?_;rintro e q⟨j,m,rfl,o,D⟩;exact⟨j,m,rfl,Own.h o aj,ai i D⟩
variable {L:Nat}
theorem cg6(he:e<2^64)(hg:g<2^64)(hx:x<2^64)(en:Le ss n)(em:Le ns m){w:G}(h:kV w (.S p n c) ss)(hN:gJ w (.S q m d) ns)(hn:Mg n)(hm:Mg m)(gM:O (Bs ss))(cQ:O (Bn ns))(og:O (Bu ns))(uf:O (Bo ns))(Iy:O (∀nd∈ns,(0<=nd.P/\nd.P<2^64)/\0<=nd.F/\nd.F<2^64))(pO:ML w)(eR:O (CG e g x t ss ns=R))(eL:Le R L):dQ dG 64 #[bS e g x t (.S p n c) (.S q m d)] w λr w'=>∃p' c',r=dR (.S p' L c')/\Own (U w.heap) w' (.S p' L c') R/\Bw w w':=by
 have HR:=ag λ(w':G)(hb:Bw w w')=>aF (h.H hb) (aF (hN.H hb) (pO.H hb));obtain⟨B,eB⟩:∃B,O (lr e g x t ss ns=B):=⟨_,cM⟩;let⟨W,hW⟩:=aG (w.alloc (dO #[.U e,.U g,.U x,.I t,.S p n c,.S q m d] 41));have bW:=gF hW;have jH:fK W (U w.heap) e g x t (.S p n c) (.S q m d):=by rw[hW];simp[fK]
 have BI:=ag jH;go_in;go_wp2_with fail;rw[<-hW];refine br (ap6 en em (ae HR _ bW).1 (ae HR _ bW).2.1 hn hm gM cQ og uf (ae HR _ bW).2.2 eB) λw1 X=>?_;have b1:=ai bW X;have C1:=ag (BI.H X);cases B with
 |false=>
  have e1:=ae eR;have e2:=ae eL;rw[CG,aL (by rw[ae eB];simp)]at e1;subst e1;obtain rfl:L=0:=e2.C;go_wp2;go_ret;exact⟨dN,0,rfl,Own.nil _ _,b1⟩
 |true=>
  have i0:=ae C1;have hF:=QV eB gM cQ;have HF:=ag hF;have hS:=aM8 eB og uf Iy;have y:R=qH e g x (ss.map ng) (ns.map pG):=by have:=ae eR;rw[CG,aM (ae eB)]at this;rw[<-this,bM8];simp
  have tp:=hS.dur;have j:=bM7 (e:=e) (g:=g) (x:=x) tp.w;have hn5:n<=50:=by have:=hS.n1;rw[ae en]at this;exact this
  have hm5:m<=200:=by have:=hS.n2;rw[ae em]at this;exact this
  let⟨sl,Na⟩:=aG (ss.map ng);let⟨nl,ik⟩:=aG (ns.map pG);have uY:Le sl n:=by show _=_;rw[Na,ir];exact ae en
  have em2:Le nl m:=by show _=_;rw[ik,ir];exact ae em
  rw[<-Na,<-ik]at tp y j;have EE:O (R=cat [vi e,vi g,vi x,mP px sl,mP jN nl]):=y;have hL:L<=4194304:=by have h1:=j.1;rw[<-y,ae eL]at h1;omega
  obtain⟨N0,e0⟩:∃M,O (J (vi e)=M):=⟨_,cM⟩;obtain⟨N1,e1⟩:∃M,O (J (vi g)=M):=⟨_,cM⟩;obtain⟨N2,e2⟩:∃M,O (J (vi x)=M):=⟨_,cM⟩;obtain⟨N3,e3⟩:∃M,O (J (mP px sl)=M):=⟨_,cM⟩;obtain⟨N4,e4⟩:∃M,O (J (mP jN nl)=M):=⟨_,cM⟩;have tv:N3<=4194304:=by have h1:=j.2.1;rw[ae e3]at h1;omega
  have UY:N4<=4194304:=by have h1:=j.2.2;rw[ae e4]at h1;omega
  have nS:=ag tp;have kq:O (∀s∈sl,0<=s.1/\s.1<2^64):=tp.s;have ESL:=ag Na;have ENL:=ag ik;have fu0:∀(vs:iA)(w:G),(callFunc 126 vs).run dG w=.ok (.enter 126 vs) w:=λvs w=>aU;have ft9:∀(vs:iA)(w:G),(callFunc 127 vs).run dG w=.ok (.enter 127 vs) w:=λvs w=>aU;have ft8:∀(vs:iA)(w:G),(callFunc 128 vs).run dG w=.ok (.enter 128 vs) w:=λvs w=>aU;have ft7:∀(vs:iA)(w:G),(callFunc 130 vs).run dG w=.ok (.enter 130 vs) w:=λvs w=>aU;go_wp2_with fail;refine(ex4 en em (ae HR _ b1).1 (ae HR _ b1).2.1 hn hm HF cQ og).h ?_;rintro z9 w2⟨ps,cs,pn,dn,rfl,ow2,V⟩;have b2:=ai b1 V;obtain⟨A1,A2,r1,r2,-⟩:=ow2;rw[<-ae ESL]at r1;rw[<-ae ENL]at r2;have R2:=bG r1 r2;go_wp2_with fail;let⟨W0,cI⟩:=aG (w2.alloc (dO #[.U e,.U g,.U x,.I 0,.S ps n cs,.S pn m dn] 41));have I8:=gF cI;have D:fK W0 (U w2.heap) e g x 0 (.S ps n cs) (.S pn m dn):=by rw[cI];simp[fK]
  let⟨GB,Zh⟩:=aG (U w2.heap);rw[<-cI];rw[<-Zh]at D⊢;let⟨v0,dz⟩:=aG W0.drew;have BW0:O (Bw w v0):=dz▸(ai b2 I8).drew;have S0:O (fK v0 GB e g x 0 (.S ps n cs) (.S pn m dn)):=dz▸D;have D0:O (kV v0 (.S ps n cs) sl/\gJ v0 (.S pn m dn) nl):=by rw[dz];exact⟨R2.1.H I8.drew,R2.2.H I8.drew⟩
  refine fk (λw'=>fK w' GB e g x 0 (.S ps n cs) (.S pn m dn)) (dz▸ae S0) λhS=>?_;rw[<-dz]at hS⊢;clear dz cI I8 D Zh R2 b2;refine iR 0 1 3 4 6 7 9 10 hS ?_;refine fO 12 13 hS ?_;refine ry [2] ?_;refine cn (λKK hK=>?_) ?_;{refine jg (Ti he e0) ?_;rintro z9 v1⟨pA,cA,rfl,oA,X⟩;refine⟨_,rfl,?_⟩;have S1:=ag (S0.H X);have BW1:=ag (ai BW0 X);have D1:=bG (D0.1.H X) (D0.2.H X);have RA1:=ag oA.rd;refine bL hK (by exact S1) λhS=>?_;refine ew 5 λKK hK=>?_;refine jg (Ti hg e1) ?_;rintro z9 v2⟨pB,cB,rfl,oB,V⟩;refine⟨_,rfl,?_⟩;have S2:=ag (S1.H V);have Om:=ag (ai BW1 V);have D2:=bG (D1.1.H V) (D1.2.H V);have RA2:=ag (RA1.H V);have RB2:=ag oB.rd;refine bL hK (by exact S2) λhS=>?_;refine ew 8 λKK hK=>?_;refine jg (Ti hx e2) ?_;rintro z9 v3⟨pC,cC,rfl,oC,aI⟩;refine⟨_,rfl,?_⟩;have S3:=ag (S2.H aI);have BW3:=ag (ai Om aI);have D3:=bG (D2.1.H aI) (D2.2.H aI);have RA3:=ag (RA2.H aI);have RB3:=ag (RB2.H aI);have RC3:=ag oC.rd;refine bL hK (by exact S3) λhS=>?_;refine ew 11 λKK hK=>?_;refine wD (dE9 uY D3.1 af kq e3 tv) ?_;rintro z9 v4⟨pD,cD,rfl,oD,N⟩;refine⟨_,rfl,?_⟩;have S4:=ag (S3.H N);have BW4:=ag (ai BW3 N);have D4:=bG (D3.1.H N) (D3.2.H N);have RA4:=ag (RA3.H N);have RB4:=ag (RB3.H N);have RC4:=ag (RC3.H N);have RD4:=ag oD.rd;refine bL hK (by exact S4) λhS=>?_;refine ew 14 λKK hK=>?_;refine wD (dF0 em2 D4.2 af nS e4 UY) ?_;rintro z9 v5⟨pE,cE,rfl,oE,cY⟩;refine⟨_,rfl,?_⟩;have S5:=ag (S4.H cY);have BW5:=ag (ai BW4 cY);have RA5:=ag (RA4.H cY);have RB5:=ag (RB4.H cY);have RC5:=ag (RC4.H cY);have RD5:=ag (RD4.H cY);have RE5:=ag oE.rd;refine bL hK (by exact S5) λhS=>?_;refine ew 15 λKK hK=>?_;go_simp;let⟨iY,hY⟩:=aG (v5.alloc (dO #[.S pA N0 cA,.S pB N1 cB,.S pC N2 cC,.S pD N3 cD,.S pE N4 cE] 22));have hbY:=gF hY;have SY:=ag (S5.H hbY);have JJ:=ag (dK9 EE eL RA5 RB5 RC5 RD5 RE5 hL);rw[<-hY]at JJ⊢;refine bL hK (by exact SY) λhS=>?_;refine ew 16 λKK hK=>?_;refine jg JJ ?_;rintro z9 Z⟨pj,cj,rfl,oj,jZ⟩;refine⟨_,rfl,?_⟩;have FI:=bG (Own.h (B':=U w.heap) oj BW5.size) (ai (ae BW5) jZ);refine bL hK (by exact S5.H jZ) λhS=>?_;refine tn 17 hS ?_;refine fy ?_;go_wp2;go_ret;exact⟨pj,cj,rfl,FI⟩};exact fg
def rL{α σ:Type}(f:σ->α×σ):Nat->σ->List α×σ
 |0,o=>([],o)
 |k+1,o=>((rL f k o).1++[(f (rL f k o).2).1],(f (rL f k o).2).2)
theorem ds2{α σ:Type}(f:σ->α×σ)(k:Nat)(o:σ):rL f (k+1) o=((f o).1::(rL f k (f o).2).1,(rL f k (f o).2).2):=by
 induction k with
 |zero=>rfl
 |succ k ih=>rw[rL,ih];rfl
theorem JI{α σ:Type}(f:σ->α×σ)(k:Nat)(o:σ):(rL f k o).1.length=k:=by
 induction k with
 |zero=>rfl
 |succ k ih=>rw[rL,dm,ih];rfl
theorem aP8{α:Type}(f:Option LI->α×Option LI)(g:α->LI):∀(xs:List α)(rest:LI),(∀x∈xs,∀r,f (Y (g x++r))=(x,Y r))->rL f (J xs) (Y (cat (xs.map g)++rest))=(xs,Y rest)
 |[],rest,_=>rfl
 |x::xs,rest,h=>by rw[kJ,ds2,kI,cat,tW,uD,h x aj];have:=aP8 f g xs rest λy i=>h y (by simp[i]);rw[cat]at this;simp only[this]
def yK(o:Option LI):Option (ar×Option LI):=
 let a:=oT o;let b:=oT a.2;let c:=oV b.2;let d:=oB c.2;let h:=oV d.2
 if h.2=dN\/50<h.1 then dN
 else
  let l:=rL oV h.1.toNat h.2;let e:=oV l.2;let g:=oV e.2
  Y (⟨a.1,b.1,c.1,d.1,l.1,e.1,g.1,[]⟩,g.2)
def qI:Nat->Option LI->Option (List ar×Option LI)
 |0,o=>Y ([],o)
 |k+1,o=>(qI k o).bind λr=>(yK r.2).map λq=>(r.1++[q.1],q.2)
theorem di9(k:Nat)(o:Option LI):qI (k+1) o=(yK o).bind λq=>(qI k q.2).map λr=>(q.1::r.1,r.2):=by
 induction k with
 |zero=>
  simp only[qI,AI,DE];cases yK o<;>rfl
 | succ k ih=>
  rw[qI,ih];cases yK o with
  |none=>rfl
  | some q=>
   simp only[AI];rw[qI];cases qI k q.2 with
   |none=>rfl
   |some r=>
    simp only[Hx,AI];cases yK r.2<;>rfl
def xQ(i:Int):aB:=(i,0,[])
def AD(l:LI):Option ((Int×Int×Int)×List aB×List ar×Option LI):=
 let a:=oV l;let b:=oV a.2;let c:=oV b.2;let d:=oV c.2
 if d.2=dN\/50<d.1 then dN
 else
  let s:=rL oV d.1.toNat d.2;let m:=oV s.2
  if m.2=dN\/200<m.1 then dN
  else(qI m.1.toNat m.2).map λr=>((a.1,b.1,c.1),s.1.map xQ,r.1,r.2)
def jM(l:LI):Option ((Int×Int×Int)×List aB×List ar):=
 (AD l).bind λr=>if r.2.2.2≠dN/\lr r.1.1 r.1.2.1 r.1.2.2 0 r.2.1 r.2.2.1/\qH r.1.1.toNat r.1.2.1.toNat r.1.2.2.toNat r.2.1 r.2.2.1=l then Y (r.1,r.2.1,r.2.2.1)else dN
variable {s:Nat}
def OJ(h:s<2^64):oV (Y (vi s++r))=((s:Int),Y r):=by
 rw[oV,ai8 r h]
def bW8(P:LI)(h:J P<2^64):oT (Y (tx P++r))=(P,Y r):=by
 rw[oT,aO5 r h]
variable {i:Int}
def WS(h:0<=i/\i<2^64)(r:LI):oV (Y (ju i++r))=(i,Y r):=by
 rw[ju,OJ af,Mb h.1]
def dj1(h:Ap ss ns)(y:nd∈ns)(j:nd.X=[])(r:LI):yK (Y (jN nd++r))=Y (nd,Y r):=by
 let⟨⟨M,E,D⟩,B,x,u,q,o⟩:=h.d nd y;have e:jN nd++r=tx nd.A++(tx nd.V++(ju nd.D++([nd.M]++(vi (J nd.y)++(cat (nd.y.map ju)++(ju nd.P++(ju nd.F++r))))))):=by rw[jN,DB,Ig];simp[cat,ju]
 rw[e,yK];simp only[bW8 nd.A af,bW8 nd.V af,WS x,DI,DE,oB];rw[OJ (s:=J nd.y) af];simp only[uC];rw[aL bq,aP8 oV ju nd.y _ λi m r=>WS (o i m) r];simp only[WS u,WS q,mn,jy,ca6];rw[<-j]
theorem bN6(h:Ap ss ns):∀(xs:List ar)(r:LI),(∀x∈xs,x∈ns/\x.X=[])->qI (J xs) (Y (cat (xs.map jN)++r))=Y (xs,Y r)
 |[],r,_=>rfl
 |x::xs,r,hx=>by rw[kJ,di9,kI,cat,tW,uD,dj1 h (hx x aj).1 (hx x aj).2];have:=bN6 h xs r λy i=>hx y (by simp[i]);rw[cat]at this;simp only[AI,this,Hx]
def bM9(e g x:Nat)(ss:List aB)(ns:List ar):qH e g x ss ns=vi e++(vi g++(vi x++(vi (J ss)++(cat (ss.map px)++(vi (J ns)++(cat (ns.map jN)++[])))))):=by
 rw[qH,Ig,Ig];simp[cat]
def dl4:ss.map px=(ss.map (·.1)).map ju:=by
 rw[uB];rfl
def dO1(h:∀s∈ss,s.2=(0,[])):(ss.map (·.1)).map xQ=ss:=by
 rw[uB]
 conv=>rhs;rw[<-aW9 ss]
 refine Px λs i=>?_;obtain⟨a,b⟩:=s;have:=h _ i;simp only at this;simp[xQ,this]
def di7(he:e<2^64)(B:g<2^64)(m:x<2^64)(h:Ap ss ns)(E:∀s∈ss,s.2=(0,[]))(D:∀nd∈ns,nd.X=[]):AD (qH e g x ss ns)=Y (((e:Int),(g:Int),(x:Int)),ss,ns,Y []):=by
 have N:=h.n1;have M:=h.n2;rw[bM9,AD];simp only[OJ he,OJ B,OJ m,OJ (show J ss<2^64 by omega),uC];have q:rL oV (J ss) (Y (cat (ss.map px)++(vi (J ns)++(cat (ns.map jN)++[]))))=(ss.map (·.1),Y (vi (J ns)++(cat (ns.map jN)++[]))):=by
  have:=aP8 oV ju (ss.map (·.1)) (vi (J ns)++(cat (ns.map jN)++[])) λi u r=>by obtain⟨s,o,rfl⟩:=fe.1 u;exact WS (h.s s o) r
  rw[ir]at this;rw[dl4,this]
 rw[aL bq,q];simp only[OJ (show J ns<2^64 by omega),uC];rw[aL bq,bN6 h ns [] λy j=>⟨j,D y j⟩,dO1 E];rfl
abbrev Rs:Type:=LI×Bool
def gp(s:Rs):Int×Rs:=sN 10 0 0 s.1 s.2
def tY{α:Type}(f:Rs->α×Rs):Nat->List α->Rs->List α×Rs
 |0,acc,s=>(acc,s)
 |k+1,acc,s=>if(f s).2.2 then([],(f s).2)else tY f k (acc++[(f s).1]) (f s).2
def lF{α:Type}(f:Rs->α×Rs)(s:Rs):List α×Rs:=tY f (gp s).1.toNat [] (gp s).2
def Hl(s:Rs):aB×Rs:=(xQ (gp s).1,(gp s).2)
def yM(s:Rs):ar×Rs:=
 let a:=sT s.1 s.2;let b:=sT a.2.1 a.2.2;let c:=gp b.2;let d:=sB c.2.1 c.2.2;let h:=lF gp d.2;let e:=gp h.2;let g:=gp e.2
 (⟨a.1,b.1,c.1,d.1,h.1,e.1,g.1,[]⟩,g.2)
def sA(l:LI):(Int×Int×Int)×List aB×List ar×Rs:=
 let a:=gp (l,dF);let b:=gp a.2;let c:=gp b.2;let s:=lF Hl c.2;let n:=lF yM s.2
 ((a.1,b.1,c.1),s.1,n.1,n.2)
def tZ(l:LI):Option ((Int×Int×Int)×List aB×List ar):=
 let r:=sA l
 if r.2.2.2.2=dF/\CG r.1.1 r.1.2.1 r.1.2.2 0 r.2.1 r.2.2.1=l then Y (r.1,r.2.1,r.2.2.1)else dN
def WD(h:s<2^64):gp (vi s++r,dF)=((s:Int),r,dF):=aO3 (rest:=r) (sh:=dF) h
def WC(h:0<=i/\i<2^64)(r:LI):gp (ju i++r,dF)=(i,r,dF):=by
 rw[ju,WD af,Mb h.1]
theorem cd0{α:Type}(f:Rs->α×Rs)(g:α->LI):∀(xs acc:List α)(rest:LI),(∀x∈xs,∀r,f (g x++r,dF)=(x,r,dF))->tY f (J xs) acc (cat (xs.map g)++rest,dF)=(acc++xs,rest,dF)
 |[],acc,rest,_=>by simp[tY,cat]
 |x::xs,acc,rest,h=>by rw[kJ,tY,kI,cat,tW,uD,h x aj];have:=cd0 f g xs (acc++[x]) rest λy i=>h y (by simp[i]);rw[cat]at this;rw[aL aj];simp only[this,uD,DI,DE]
def aY4{α:Type}(f:Rs->α×Rs)(g:α->LI)(xs:List α){rest:LI}(i:J xs<2^64)(h:∀x∈xs,∀r,f (g x++r,dF)=(x,r,dF)):lF f (vi (J xs)++(cat (xs.map g)++rest),dF)=(xs,rest,dF):=by
 rw[lF,WD i];simp only[uC];rw[cd0 f g xs [] rest h];rfl
def dl9(h:Ap ss ns)(x:nd∈ns)(j:nd.X=[]):yM (jN nd++r,dF)=(nd,r,dF):=by
 let⟨⟨E,D,B⟩,y,u,s,q,o⟩:=h.d nd x;have e:jN nd++r=tx nd.A++(tx nd.V++(ju nd.D++(nd.M::(vi (J nd.y)++(cat (nd.y.map ju)++(ju nd.P++(ju nd.F++r))))))):=by rw[jN,DB,Ig];simp[cat,ju]
 rw[e,yM];simp only[ai5 nd.A (sh:=dF) af,ai5 nd.V (sh:=dF) af,WC u,sB];rw[aY4 gp ju nd.y af λi m r=>WC (o i m) r];simp only[WC s,WC q,jy,ca6];rw[<-j]
def dN8(he:e<2^64)(q:g<2^64)(o:x<2^64)(h:Ap ss ns)(B:∀s∈ss,s.2=(0,[]))(u:∀nd∈ns,nd.X=[]):sA (qH e g x ss ns)=(((e:Int),(g:Int),(x:Int)),ss,ns,[],dF):=by
 have E:=h.n1;have D:=h.n2;rw[bM9,sA];simp only[WD he,WD q,WD o];rw[aY4 Hl px ss af λs j r=>by have:=WC (h.s s j) r;obtain⟨a,b⟩:=s;have m:=B _ j;simp only at m;rw[Hl,px,<-ju,this];simp[xQ,m]]
 simp only;rw[aY4 yM jN ns af λy i r=>dl9 h i (u y i) (r:=r)]
def LJ{s:Rs}(h:s.2):(gp s).2.2:=aO4 10 0 0 s.1 s.2 h
theorem dF9{α:Type}(f:Rs->α×Rs)(hf:∀s:Rs,s.2->(f s).2.2):∀(k:Nat)(acc:List α)(s:Rs),s.2->(tY f k acc s).2.2=dY
 |0,_,_,h=>h
 |k+1,acc,s,h=>by rw[tY,aM (hf s h)];exact hf s h
def aY5{α:Type}(f:Rs->α×Rs)(hf:∀s:Rs,s.2->(f s).2.2){s:Rs}(h:s.2):(lF f s).2.2:=dF9 f hf _ _ _ (LJ h)
def dm0(s:Rs)(h:s.2):(yM s).2.2:=
 LJ (LJ (aY5 gp (λ_=>LJ) (ai7 (LJ (ai6 (ai6 h))))))
def dN9:(sA []).2.2.2.2:=by
 have i:(gp (([],dF):Rs)).2.2:=by unfold gp;show(sN 10 0 0 [] dF).2.2=dY;rw[sN];simp[sB]
 exact aY5 yM dm0 (aY5 Hl (λ_=>LJ) (LJ (LJ i)))
def GN(i:Int):Prop:=0<=i/\i<2^64
structure NI(nd:ar):Prop where
 by0:aC nd.A
 by1:aC nd.V
 l0:J nd.A<=1048576
 l1:J nd.V<=1048576
 l4:J nd.y<=1048576
 l7:nd.X=[]
 ow:GN nd.D
 ep:GN nd.P
 ge:GN nd.F
 ho:∀i∈nd.y,GN i
 mo:0<=nd.M/\nd.M<256
def vF:GN (oV om).1:=bW6
theorem aP9{α σ:Type}(f:σ->α×σ)(P:α->Prop)(j:σ->Prop)(hf:∀s,j s->P (f s).1/\j (f s).2)(k:Nat)(o:σ)(m:j o):(∀x∈(rL f k o).1,P x)/\j (rL f k o).2:=by
 induction k with
 |zero=>exact⟨λx i=>by simp[rL]at i,m⟩
 |succ k ih=>
  rw[rL];let⟨r,q⟩:=hf _ ih.2;refine⟨λx i=>?_,q⟩;obtain i|i:=jd.1 i;{exact ih.1 x i};{rw[pY]at i;rw[i];exact r}
def dj0(i:J l=n)(q:aC l)(V:Mg n)(m:gU n l o)(h:yK o=Y (nd,o')):NI nd/\gU n l o'/\J nd.y<=50:=by
 rw[yK]at h;have y:=ak9 i m;have E:=ak9 i y;have x:=uw i E;have D:=al0 i x;have B:=uw i D;have u:=TI q m;have r:=TI q y;have R:=dy4 q x;simp only at h;split at h;{cases h};{
 next hc=>
 simp only[mn,jy]at h;obtain⟨rfl,rfl⟩:=h;let⟨N,M⟩:=aP9 oV GN (gU n l) (λs m=>⟨vF,uw i m⟩) (oV (oB (oV (oT (oT o).2).2).2).2).1.toNat _ B;have j:=JI oV (oV (oB (oV (oT (oT o).2).2).2).2).1.toNat (oV (oB (oV (oT (oT o).2).2).2).2).2;have S:(rL oV (oV (oB (oV (oT (oT o).2).2).2).2).1.toNat (oV (oB (oV (oT (oT o).2).2).2).2).2).1.length<=50:=by rw[j];simp only[Hw,Int.not_lt]at hc;omega
 exact⟨⟨u.1,r.1,by have:=u.2;simp only;omega,by have:=r.2;simp only;omega,by simp only;omega,rfl,vF,vF,vF,N,R⟩,uw i (uw i M),S⟩}
theorem ai0(D:J l=n)(u:aC l)(s:Mg n)(k:Nat)(m:gU n l o)(h:qI k o=Y (ns,o')):(∀nd∈ns,NI nd)/\gU n l o'/\J ns=k:=by
 induction k generalizing ns o' with
 |zero=>
  simp only[qI,mn,jy]at h;obtain⟨rfl,rfl⟩:=h;exact⟨λnd i=>(by simp at i),m,rfl⟩
 | succ k ih=>
  rw[qI]at h;cases h1:qI k o with
  |none=>rw[h1]at h;cases h
  | some r=>
   obtain⟨N,j⟩:=r;rw[h1]at h;let⟨B,y,x⟩:=ih h1;simp only[AI]at h;cases h2:yK j with
   |none=>rw[h2]at h;cases h
   |some q=>
    obtain⟨S,R⟩:=q;rw[h2]at h;simp only[Hx,mn,jy]at h;obtain⟨rfl,rfl⟩:=h;obtain⟨M,E,-⟩:=dj0 D u s y h2;refine⟨λnd i=>?_,E,by rw[dm,x];rfl⟩;obtain i|i:=jd.1 i;{exact B nd i};{rw[pY]at i;rw[i];exact M}
def Okf{α:Type}(f:Rs->α×Rs)(P:α->Prop):Prop:=∀s:Rs,aC s.1->J s.1<=1048576->P (f s).1/\aC (f s).2.1/\(f s).2.1.length<=J s.1/\((f s).2.2=dF->(f s).2.1.length<J s.1)
theorem wF:Okf gp GN:=λs q E=>by
 let⟨D,B,y,x⟩:=WE 10 0 0 s.1 s.2 q af;refine⟨⟨y,x⟩,D,B,λj=>?_⟩;obtain⟨m,i⟩:=s;cases m with
 |nil=>
  have:(gp (([],i):Rs)).2.2:=by unfold gp;show(sN 10 0 0 [] i).2.2=dY;rw[sN];simp[sB]
  rw[this]at j;cases j
 |cons c t=>
  show(sN 10 0 0 (c::t) i).2.1.length<_;rw[sN];split;{simp[sB]};{have:=(WE 9 (0+1) (vU 0 0 c) t i (λz r=>q z (by simp[r])) (aC6)).2.1;simp only[sB,kJ];omega}
theorem cd1{α:Type}{f:Rs->α×Rs}{P:α->Prop}(hf:Okf f P):∀(k:Nat)(acc:List α)(s:Rs),aC s.1->J s.1<=1048576->(∀x∈acc,P x)->(∀x∈(tY f k acc s).1,P x)/\aC (tY f k acc s).2.1/\(tY f k acc s).2.1.length<=J s.1/\(tY f k acc s).1.length<=J acc+J s.1
 |0,acc,s,hb,hl,ha=>⟨ha,hb,eG _,Nat.le_add_right _ _⟩
 |k+1,acc,s,hb,hl,ha=>by
  let⟨u,j,r,q⟩:=hf s hb hl;rw[tY];split;{exact⟨λx i=>(by simp at i),j,r,cO _⟩};{
 next hs=>
 have o:(f s).2.2=dF:=by simpa using hs
 have D:=q o;let⟨B,y,E,m⟩:=cd1 hf k (acc++[(f s).1]) (f s).2 j af λx i=>by obtain i|i:=jd.1 i;{exact ha x i};{rw[pY]at i;rw[i];exact u}
 refine⟨B,y,af,?_⟩;rw[dm]at m;simp only[kJ,yS]at m;omega}
def Ul{α:Type}{f:Rs->α×Rs}{P:α->Prop}(hf:Okf f P){s:Rs}(m:aC s.1)(j:J s.1<=1048576):(∀x∈(lF f s).1,P x)/\aC (lF f s).2.1/\(lF f s).2.1.length<=J s.1/\(lF f s).1.length<=J s.1:=by
 let⟨E,q,o,D⟩:=wF s m j;let⟨B,y,u,r⟩:=cd1 hf (gp s).1.toNat [] (gp s).2 q af λx i=>(by simp at i);simp only[yS]at r;exact⟨B,y,gv u o,by unfold lF;omega⟩
def eO7(s:aB):Prop:=GN s.1/\s.2=(0,[])
def aO1:Okf Hl eO7:=λs j i=>by
 let⟨r,q,o,m⟩:=wF s j i;exact⟨⟨r,rfl⟩,q,o,m⟩
def aO2:Okf yM NI:=λs j X=>by
 let⟨W,V,a3,a4⟩:=Tq (sh:=s.2) j;let⟨S,R,b3,b4⟩:=Tq (sh:=(sT s.1 s.2).2.2) V;let⟨N,M,c3,c4⟩:=wF (sT (sT s.1 s.2).2.1 (sT s.1 s.2).2.2).2 R af;let⟨E,D,B,d4⟩:=Tr (sh:=(gp (sT (sT s.1 s.2).2.1 (sT s.1 s.2).2.2).2).2.2) M;let⟨y,x,e3,e4⟩:=Ul wF E af;let⟨u,r,f3,f4⟩:=wF (lF gp (sB (gp (sT (sT s.1 s.2).2.1 (sT s.1 s.2).2.2).2).2.1 (gp (sT (sT s.1 s.2).2.1 (sT s.1 s.2).2.2).2).2.2).2).2 x af;let⟨q,o,Z,m⟩:=wF (gp (lF gp (sB (gp (sT (sT s.1 s.2).2.1 (sT s.1 s.2).2.2).2).2.1 (gp (sT (sT s.1 s.2).2.1 (sT s.1 s.2).2.2).2).2.2).2).2).2 r af;refine⟨⟨W,S,by show _<=_;simp only[yM];omega,by show _<=_;simp only[yM];omega,by show _<=_;simp only[yM];omega,rfl,N,u,q,y,⟨D,B⟩⟩,o,?_,λi=>?_⟩;{show(gp (gp (lF gp (sB (gp (sT (sT s.1 s.2).2.1 (sT s.1 s.2).2.2).2).2.1 (gp (sT (sT s.1 s.2).2.1 (sT s.1 s.2).2.2).2).2.2).2).2).2).2.1.length<=_;omega};{have:=m i;show(gp (gp (lF gp (sB (gp (sT (sT s.1 s.2).2.1 (sT s.1 s.2).2.2).2).2.1 (gp (sT (sT s.1 s.2).2.1 (sT s.1 s.2).2.2).2).2.2).2).2).2).2.1.length<_;omega}
def aj4{e g x:Int}(h:lr e g x t ss ns)(hr:∀nd∈ns,NI nd):Ap ss ns:=
 aM8 h (λnd j=>⟨(hr nd j).ho,λi m=>by rw[(hr nd j).l7]at m;simp at m⟩) (λnd j=>(hr nd j).ow) (λnd j=>⟨(hr nd j).ep,(hr nd j).ge⟩)
theorem dh5(hb:aC l)(hl:Mg (J l)):jM l=tZ l:=by
 have tu:∀s,jM l=Y s->tZ l=Y s:=λs h=>by
  rw[jM]at h;cases hr:AD l with
  |none=>rw[hr]at h;cases h
  |some r=>
   rw[hr,AI]at h;split at h;{
 next hc=>
 obtain⟨⟨e,g,x⟩,ss,ns,o⟩:=r;simp only[mn]at h hc;obtain⟨-,m,hB⟩:=hc;have j:=hr;rw[AD]at j;simp only at j;have q1:=gU.start (n:=J l) (l:=l) rfl;have q2:=uw rfl q1;have q3:=uw rfl q2;have q4:=uw rfl q3;have q5:=uw rfl q4;split at j;{cases j};{
 let⟨u1,u2⟩:=aP9 oV GN (gU (J l) l) (λs q=>⟨vF,uw rfl q⟩) (oV (oV (oV (oV l).2).2).2).1.toNat _ q5;split at j;{cases j};{
 rw[Mc]at j;obtain⟨⟨r1,r2⟩,h3,h4⟩:=j;obtain⟨v1,-,-⟩:=ai0 rfl hb hl _ (uw rfl u2) h3;simp only[jy]at h4;obtain⟨⟨rfl,rfl,rfl⟩,rfl,rfl,rfl⟩:=h4;have R:=aj4 m v1;have M:=vF (om:=Y l);have E:=vF (om:=(oV l).2);have D:=vF (om:=(oV (oV l).2).2);have w1:∀s∈((rL oV (oV (oV (oV (oV l).2).2).2).1.toNat (oV (oV (oV (oV l).2).2).2).2).1.map xQ),s.2=(0,[]):=λs q=>by obtain⟨i,-,rfl⟩:=fe.1 q;rfl
 have u:=dN8 (e:=(oV l).1.toNat) (g:=(oV (oV l).2).1.toNat) (x:=(oV (oV (oV l).2).2).1.toNat) (by have:=M.2;have:=M.1;omega) (by have:=E.2;have:=E.1;omega) (by have:=D.2;have:=D.1;omega) R w1 (λN X=>(v1 N X).l7);rw[hB,Mb M.1,Mb E.1,Mb D.1]at u;rw[tZ];simp only[u];rw[aM ⟨iq,by rw[CG,aM m];exact hB⟩,<-h]}}};{cases h}
 have S:∀s,tZ l=Y s->jM l=Y s:=λs h=>by
  rw[tZ]at h;split at h;{
 next hc=>
 obtain⟨Uu,y⟩:=hc;have m:lr (sA l).1.1 (sA l).1.2.1 (sA l).1.2.2 0 (sA l).2.1 (sA l).2.2.1:=by by_cases hk:lr (sA l).1.1 (sA l).1.2.1 (sA l).1.2.2 0 (sA l).2.1 (sA l).2.2.1=dY;{exact hk};{rw[CG,aL hk]at y;rw[<-y,dN9]at Uu;cases Uu}
 rw[CG,aM m]at y;obtain⟨Z,a2,B,-⟩:=wF (l,dF) hb hl;obtain⟨W,b2,b3,-⟩:=wF (gp (l,dF)).2 a2 (by simp only at B;omega);obtain⟨V,c2,c3,-⟩:=wF (gp (gp (l,dF)).2).2 b2 (by simp only at B;omega);obtain⟨d1,d2,d3,-⟩:=Ul aO1 c2 (by simp only at B;omega);obtain⟨e1,-⟩:=Ul aO2 d2 (by simp only at B;omega);have R:=aj4 m e1;have FL:=di7 (e:=(sA l).1.1.toNat) (g:=(sA l).1.2.1.toNat) (x:=(sA l).1.2.2.toNat) (by have:=Z.2;have:=Z.1;show(gp (l,dF)).1.toNat<_;omega) (by have:=W.2;have:=W.1;show(gp (gp (l,dF)).2).1.toNat<_;omega) (by have:=V.2;have:=V.1;show(gp (gp (gp (l,dF)).2).2).1.toNat<_;omega) R (λs q=>(d1 s q).2) (λN X=>(e1 N X).l7);rw[y,Mb (show 0<=(sA l).1.1 from Z.1),Mb (show 0<=(sA l).1.2.1 from W.1),Mb (show 0<=(sA l).1.2.2 from V.1)]at FL;rw[jM,FL,AI,aM ⟨aj,m,y⟩];exact h};{cases h}
 cases h:jM l with
 |some s=>exact(tu s h).C
 |none=>
  cases h2:tZ l with
  |none=>rfl
  |some s=>rw[S s h2]at h;cases h
def ZM(h:∀l∈ls,aC l):aC (cat ls):=λz i=>by
 rw[cat,DD]at i;obtain⟨l,j,i⟩:=i;exact h l j z i
def Wf(h:GN i):aC (ju i):=Av (by have:=h.1;have:=h.2;omega)
def bK1(h:aC l)(i:J l<2^64):aC (tx l):=aC.app (Av i) h
def dA8(h:NI nd):aC (jN nd):=by
 rw[jN,DB];refine ZM λl j=>?_;simp only[fU,Pe,Ib]at j;obtain rfl|rfl|rfl|rfl|rfl|rfl|rfl:=j;{exact bK1 h.by0 (aK h.l0)};{exact bK1 h.by1 (aK h.l1)};{exact Wf h.ow};{intro z m;rw[pY]at m;rw[m];exact h.mo};{rw[mP];refine ZM λl j=>?_;obtain rfl|j:=fU.1 j;{exact Av (aK h.l4)};{obtain⟨i,o,rfl⟩:=fe.1 j;exact Wf (h.ho i o)}};{exact Wf h.ep};{exact Wf h.ge}
def aM2(he:e<2^64)(o:g<2^64)(j:x<2^64)(h:Ap ss ns)(hr:∀nd∈ns,NI nd):aC (qH e g x ss ns):=by
 have u:=h.n1;have r:=h.n2;rw[qH];refine ZM λl i=>?_;simp only[fU,Pe,Ib]at i;obtain rfl|rfl|rfl|rfl|rfl:=i;{exact Av he};{exact Av o};{exact Av j};{rw[mP];refine ZM λl i=>?_;obtain rfl|i:=fU.1 i;{exact Av af};{obtain⟨s,m,rfl⟩:=fe.1 i;exact Wf (h.s s m)}};{rw[mP];refine ZM λl i=>?_;obtain rfl|i:=fU.1 i;{exact Av af};{obtain⟨nd,q,rfl⟩:=fe.1 i;exact dA8 (hr nd q)}}
variable {o:Obj}
def Z6{w w':G}(h:w.heap[b]?=o)(i:Bw w w'):w'.heap[b]?=o:=(i.block b (JU.1 h).1).Z h
def cG7{w:G}:(w.alloc o).heap[U w.heap]?=o:=by unfold World.alloc;simp
def cG8{w w':G}(m:Own B w v l)(o:w.grownBy w' v.ownBlock):∀(b:Nat)(cs:iA)(t:TypeId),t≠5->w.heap[b]?=dO cs t->w'.heap[b]?=dO cs t:=λb cs t j h=>by
 refine(o.block b (JU.1 h).1 λe=>?_).Z h;obtain⟨rfl,-⟩|⟨g,r,q,rfl,-,i,-⟩:=m.2;{simp[Value.ownBlock]at e};{simp only[Value.ownBlock,mn]at e;subst e;rw[h]at i;simp only[mn,Obj.cells.injEq]at i;exact j i.2.1}
def cL6(w w':G):Prop:=∀(b:Nat)(cs:iA)(t:TypeId),t≠5->w.heap[b]?=dO cs t->w'.heap[b]?=dO cs t
variable {s x:Operand}{o:Oper}
def cX0{w0 w:G}{Q:iE}(gR:o.guard=dN) (ho:o.op=.call {callee:=.builtin .append,args:=#[s,x],argTypes:=#[22,22]})(hB:O (Bw w0 w)){m:LI}(mT:O (lm=l++m))(hk:Le m k)(eL:Le l L)(Vi:O (L'=L+k))(hs:a.eval s=v)(hx:a.eval x=.S p k c)(cX:O (Own (U w0.heap) w v l))(hr:O (Rd w (.S p k c) m))(hl:L+k<=4194304)(hK:∀p' c' w',O (Own (U w0.heap) w' (.S p' L' c') lm)->Le lm L'->O (Bw w0 w')->O (cL6 w w')->wpList dG ops Q rest (a.put o.dst (.S p' L' c')) w'):wpList dG ops Q (o::rest) a w:=by
 have e1:J lm=L':=by rw[ae mT,dm,ae eL,ae hk,ae Vi]
 refine BJ gR ho v mT p c k hk hs hx cX hr (by rw[ae eL,ae hk];exact hl) hB.size ?_;intro p' c' w' h1 h2;rw[e1]at h1⊢;exact hK p' c' w' h1 e1 (Am hB h2 cX aA hB.size) (cG8 cX h2)
def cW9{Q:iE}(gR:o.guard=dN) (ho:o.op=.call {callee:=.builtin .append,args:=#[s,x],argTypes:=#[22,22]})(hB:O (Bw w0 u))(mT:O (lm=l++[y]))(eL:Le l L)(Vi:O (L'=L+1))(hs:a.eval s=v)(hx:a.eval x=.T (U u.heap) 1 1)(cX:O (Own (U w0.heap) u v l))(hl:L<4194304)(hK:∀p' c' w',O (Own (U w0.heap) w' (.S p' L' c') lm)->Le lm L'->O (Bw w0 w')->O (cL6 u w')->wpList dG ops Q rest (a.put o.dst (.S p' L' c')) w'):wpList dG ops Q (o::rest) a (u.alloc (dO #[.int .u8 y] 5)):=by
 have e1:J lm=L':=by rw[ae mT,dm,ae eL,ae Vi];rfl
 have hb:Bw u (u.alloc (dO #[.int .u8 y] 5)):=aD.alloc aA _;have iW:=cX.H hb;have fN:=ai hB hb;refine Tc gR ho v mT (U u.heap) hs hx iW aj (ae eL▸hl) fN.size ?_;intro p' c' w' h1 h2;rw[e1]at h1⊢;exact hK p' c' w' h1 e1 (Am fN h2 iW aA fN.size) λb cs t ht h=>cG8 iW h2 b cs t ht (Z6 h hb)
def fK.mL{w:G}{e g x:Int}{S N:dV}(h:w.heap[b]?=dO #[.U e,.U g,.U x,.I t,S,N] ty):fK w b e g x t S N:=⟨cK h 0,cK h 1,cK h 2,cK h 3,cK h 4,cK h 5⟩
def vo.mL{w:G}(h:w.heap[b]?=dO #[v0,v1,v2,v3,v4,v5,v6,v7] ty):vo w b v0 v1 v2 v3 v4 v5 v6 v7:=⟨cK h 0,cK h 1,cK h 2,cK h 3,cK h 4,cK h 5,cK h 6,cK h 7⟩
def FD{v:Nat}{w:G}(q:v<2^64)(o:O (J (vi v)=M)):Cp 94 #[.U v] w λe i=>∃j m,e=dR (.S j M m)/\Own (U w.heap) i (.S j M m) (vi v)/\Bw w i:=aY8 9 v w af q af M o
def bt0{α:Type}(f:α->LI){l:List α}{y:α}(h:l[k]?=y):cat ((l.take (k+1)).map f)=cat ((l.take k).map f)++f y:=by
 rw[pZ,h,pK,cat,J1,cat];simp
def dg2(e g x:Nat)(ss:List aB)(ns:List ar):qH e g x ss ns=((((vi e++vi g)++vi x)++vi (J ss))++cat (ss.map px)++vi (J ns))++cat (ns.map jN):=by
 rw[qH,Ig,Ig];simp[cat]
def dA7(nd:ar):jN nd=((((((tx nd.A++tx nd.V)++ju nd.D)++[nd.M])++vi (J nd.y))++cat (nd.y.map ju))++ju nd.P)++ju nd.F:=by
 rw[jN,DB,Ig];simp[cat,ju]
def As(w0:G)(o:iA)(j:TypeId)(q:Nat)(m:iA)(i:TypeId)(w:G)(v:dV)(l:LI):Prop:=Own (U w0.heap) w v l/\Bw w0 w/\w.heap[U w0.heap]?=dO o j/\w.heap[q]?=dO m i
def As.yv{w0 w w':G}(h:As w0 c1 t1 b2 c2 t2 w v l)(i:Bw w w'):As w0 c1 t1 b2 c2 t2 w' v l:=⟨Own.H h.1 i,ai h.2.1 i,Z6 h.2.2.1 i,Z6 h.2.2.2 i⟩
def Dr{w0 w:G}{Q:iE}(gR:o.guard=dN)(ho:o.op=.call {callee:=.builtin .append,args:=#[s,x],argTypes:=#[22,22]}){m:LI}(hQ:O (As w0 c1 t1 b2 c2 t2 w v l))(mT:O (lm=l++m))(hk:Le m k)(eL:Le l L)(hs:a.eval s=v)(hx:a.eval x=.S p k c)(hr:O (Rd w (.S p k c) m))(hl:L+k<=4194304)(hK:∀p' c' w' L',O (As w0 c1 t1 b2 c2 t2 w' (.S p' L' c') lm)->Le lm L'->L'<=L+k->wpList dG ops Q rest (a.put o.dst (.S p' L' c')) w')(h1:t1≠5:=by decide)(h2:t2≠5:=by decide):wpList dG ops Q (o::rest) a w:=
 cX0 gR ho hQ.2.1 mT hk eL rfl hs hx hQ.1 hr hl λp' c' w' k1 k2 k3 k4=>hK p' c' w' _ (ag ⟨k1,k3,k4 _ _ _ h1 hQ.2.2.1,k4 _ _ _ h2 hQ.2.2.2⟩) k2 aA
def cX1{Q:iE}(gR:o.guard=dN)(ho:o.op=.call {callee:=.builtin .append,args:=#[s,x],argTypes:=#[22,22]})(hQ:O (As w0 c1 t1 b2 c2 t2 u v l))(mT:O (lm=l++[y]))(eL:Le l L)(hs:a.eval s=v)(hx:a.eval x=.T (U u.heap) 1 1)(hl:L<4194304)(hK:∀p' c' w' L',O (As w0 c1 t1 b2 c2 t2 w' (.S p' L' c') lm)->Le lm L'->L'<=L+1->wpList dG ops Q rest (a.put o.dst (.S p' L' c')) w')(h1:t1≠5:=by decide)(h2:t2≠5:=by decide):wpList dG ops Q (o::rest) a (u.alloc (dO #[.int .u8 y] 5)):=
 cW9 gR ho hQ.2.1 mT eL rfl hs hx hQ.1 hl λp' c' w' k1 k2 k3 k4=>hK p' c' w' _ (ag ⟨k1,k3,k4 _ _ _ h1 hQ.2.2.1,k4 _ _ _ h2 hQ.2.2.2⟩) k2 aA
def ce2{x:Nat}(he:e<2^64)(hg:g<2^64)(hx:x<2^64)(en:Le ss n)(em:Le ns m){w:G}(h:lI w (.S p n c) ss)(hN:gJ w (.S q m d) ns)(HS:O (SmW ss ns))(eN:O (J (qH e g x ss ns)=N)):dQ dG 49 #[bS e g x t (.S p n c) (.S q m d)] w λr w'=>∃p' c',r=dR (.S p' N c')/\Own (U w.heap) w' (.S p' N c') (qH e g x ss ns)/\Bw w w':=by
 have HR:=ag λ(w':G)(hb:Bw w w')=>aF (h.H hb) (hN.H hb);have hn5:n<=51:=by have:=HS.n1;rw[ae en]at this;exact this
 have hm5:m<=201:=by have:=HS.n2;rw[ae em]at this;exact this
 have wn:IntKind.u64.wrap (n:Int)=(n:Int):=by rw[uG];omega
 have wm:IntKind.u64.wrap (m:Int)=(m:Int):=by rw[uG];omega
 obtain⟨M0,f0⟩:∃M,O (J (vi e)=M):=⟨_,cM⟩;have hM0:M0<=10:=by have:=(pf e).2;rw[ae f0]at this;exact this
 obtain⟨M1,f1⟩:∃M,O (J (vi g)=M):=⟨_,cM⟩;have hM1:M1<=10:=by have:=(pf g).2;rw[ae f1]at this;exact this
 obtain⟨M2,f2⟩:∃M,O (J (vi x)=M):=⟨_,cM⟩;have hM2:M2<=10:=by have:=(pf x).2;rw[ae f2]at this;exact this
 obtain⟨M3,f3⟩:∃M,O (J (vi n)=M):=⟨_,cM⟩;have hM3:M3<=10:=by have:=(pf n).2;rw[ae f3]at this;exact this
 obtain⟨M5,f5⟩:∃M,O (J (vi m)=M):=⟨_,cM⟩;have hM5:M5<=10:=by have:=(pf m).2;rw[ae f5]at this;exact this
 obtain⟨A1,xq⟩:∃l,O (l=vi e++vi g):=⟨_,cM⟩;obtain⟨A2,Af⟩:∃l,O (l=A1++vi x):=⟨_,cM⟩;obtain⟨A3,Ky⟩:∃l,O (l=A2++vi n):=⟨_,cM⟩;let⟨W,hW⟩:=aG (w.alloc (dO #[.U e,.U g,.U x,.I t,.S p n c,.S q m d] 41));have BW:O (Bw w W):=hW▸aD.alloc aA _;have KW:O (W.heap[U w.heap]?=dO #[.U e,.U g,.U x,.I t,.S p n c,.S q m d] 41):=hW▸cG7;go_in;go_wp2_with fail;rw[<-hW];refine(FD he f0).h ?_;rintro z9 y1⟨py1,cy1,rfl,oy1,au5⟩;have By1:=ag (ai BW au5);have Ky1:=ag (Z6 KW au5);have Oy1:=ag (Own.h (B':=U w.heap) oy1 BW.size);have Qy1:O (As w #[.U e,.U g,.U x,.I t,.S p n c,.S q m d] 41 (U w.heap) #[.U e,.U g,.U x,.I t,.S p n c,.S q m d] 41 y1 (.S py1 M0 cy1) (vi e)):=⟨Oy1,By1,Ky1,Ky1⟩;have B:=fK.mL Qy1.2.2.1;go_wp2_with fail;refine(FD hg f1).h ?_;rintro z9 y2⟨py2,cy2,rfl,oy2,ea8⟩;have Qy2:=ag (Qy1.yv ea8);have Ry2:=ag oy2.rd;go_wp2_with(at_builtin;refine Dr rfl rfl Qy2 xq f1 f0 rfl rfl Ry2 af ?_);intro fn0 fD7 y3 Ly3 Qy3 eu8 fF7;have B:=fK.mL Qy3.2.2.1;go_wp2_with fail;refine(FD hx f2).h ?_;rintro z9 y4⟨py4,cy4,rfl,oy4,ea4⟩;have Qy4:=ag (Qy3.yv ea4);have Ry4:=ag oy4.rd;go_wp2_with(at_builtin;refine Dr rfl rfl Qy4 Af f2 eu8 rfl rfl Ry4 af ?_);intro fm9 fD6 y5 Ly5 Qy5 eu7 fF6;have B:=fK.mL Qy5.2.2.1;go_wp2_with fail;refine(FD af f3).h ?_;rintro z9 y6⟨py6,cy6,rfl,oy6,ea3⟩;have Qy6:=ag (Qy5.yv ea3);have Ry6:=ag oy6.rd;go_wp2_with(at_builtin;refine Dr rfl rfl Qy6 Ky f3 eu7 rfl rfl Ry6 af ?_);intro fm8 fD5 y7 Ly7 Qy7 eu6 fF5;have lA3:Le A3 Ly7:=eu6;have bA3:Ly7<=40:=af;have B:=fK.mL Qy7.2.2.1;go_wp2
 go_loopw[3,4](λov iv wr=>∃(k:Nat)(po:OA)(co L:Nat),k<=n/\ov=.S po L co/\iv=.I k/\L<=40+10*k/\O (J (A3++cat ((ss.take k).map px))=L)/\O (Own (U w.heap) wr (.S po L co) (A3++cat ((ss.take k).map px)))/\O (wr.heap[U w.heap]?=dO #[.U e,.U g,.U x,.I t,.S p n c,.S q m d] 41)/\O (Bw w wr)) (λ_ iv _=>n-(intOf iv).toNat)
 exact⟨0,_,_,_,cO _,rfl,rfl,af,(by show _=_;simp only[sY,DG,Vp,yQ];exact ae lA3),(by show Own _ _ _ _;simp only[sY,DG,Vp,yQ];exact Qy7.1),Qy7.2.2.1,Qy7.2.1⟩;{
 obtain⟨k,po,co,L,hk,rfl,rfl,hLk,eL,D,i,Z⟩:=hrel;by_cases aH:k<n;{
 have cL:=bM k n;have bR:k<J ss:=ae en▸aH;let⟨sk0,hy⟩:=nR bR;have hi:=HS.s _ (bu hy);obtain⟨v,ev⟩:∃v:Nat,sk0.1=(v:Int):=⟨sk0.1.toNat,af⟩;obtain⟨b,o,rfl,ki⟩:∃b o,p=(Ad b o)/\I wr (Ad b (o+k*3))=dU v:=by let⟨p',c',evv,hd⟩:=(ae HR _ Z).1;obtain⟨rfl,-,-⟩:=jJ evv;obtain h0|⟨b,o,h1,h2⟩:=hd;{rw[h0]at bR;simp at bR};{exact⟨b,o,h1,by rw[<-ev];exact(h2 k _ hy).1⟩}
 rw[ev]at hi;have eS:O (px sk0=vi v):=by show _=_;rw[px,ev];rfl
 obtain⟨M,eM⟩:∃M,O (J (vi v)=M):=⟨_,cM⟩;have hM:M<=10:=by have:=(pf v).2;rw[ae eM]at this;exact this
 obtain⟨A,hA⟩:∃A,O (A=A3++cat ((ss.take k).map px)):=⟨_,cM⟩;rw[<-ae hA]at eL D;obtain⟨AA,Zm⟩:∃l,O (l=A++vi v):=⟨_,cM⟩;have EA:O (A3++cat ((ss.take (k+1)).map px)=AA):=by show _=_;rw[ae Zm,ae hA,bt0 px hy,ae eS,uD]
 have wk:IntKind.i64.wrap ((k:Int)+1)=((k+1:Nat):Int):=by rw[kP _ af];omega
 have Qr:=ag (show As w _ _ (U w.heap) _ _ _ _ _ from⟨D,Z,i,i⟩);have B:=fK.mL i;go_wp2_with fail;refine(FD af eM).h ?_;rintro z9 y8⟨py8,cy8,rfl,oy8,ea2⟩;have Qy8:=ag (Qr.yv ea2);have Ry8:=ag oy8.rd;go_wp2_with(at_builtin;refine Dr rfl rfl Qy8 Zm eM eL rfl rfl Ry8 af ?_);intro fm7 fD4 y9 Ly9 Qy9 eu5 fF4;have B:=fK.mL Qy9.2.2.1;go_wp2;go_roundw;exact⟨k+1,_,_,_,af,rfl,by go_num,af,(ae EA▸eu5),(ae EA▸Qy9.1),Qy9.2.2.1,Qy9.2.1⟩;exact cW};{
 have cL:=fq k n;obtain rfl:n=k:=af;rw[lY (ae en▸eG _)]at eL D;obtain⟨A4,hA4⟩:∃A,O (A=A3++cat (ss.map px)):=⟨_,cM⟩;rw[<-ae hA4]at eL D;obtain⟨A5,hA5⟩:∃A,O (A=A4++vi m):=⟨_,cM⟩;have Qr:=ag (show As w _ _ (U w.heap) _ _ _ _ _ from⟨D,Z,i,i⟩);have B:=fK.mL i;go_wp2_with fail;refine(FD af f5).h ?_;rintro z9 y10⟨fm6,fD1,rfl,dw5,eb3⟩;have eT8:=ag (Qr.yv eb3);have eQ6:=ag dw5.rd;go_wp2_with(at_builtin;refine Dr rfl rfl eT8 hA5 f5 eL rfl rfl eQ6 af ?_);intro fn9 fE6 y11 eU9 aD7 ew0 fG6;have bA5:eU9<=600:=af;have EN:O (qH e g x ss ns=A5++cat (ns.map jN)):=by show _=_;rw[dg2,ae hA5,ae hA4,ae Ky,ae Af,ae xq,ae en,ae em]
 have B:=fK.mL aD7.2.2.1;go_wp2
 go_loopw[3,5](λov iv wr=>∃(k:Nat)(po:OA)(co L:Nat),k<=m/\ov=.S po L co/\iv=.I k/\L<=600+800*k/\O (J (A5++cat ((ns.take k).map jN))=L)/\O (Own (U w.heap) wr (.S po L co) (A5++cat ((ns.take k).map jN)))/\O (wr.heap[U w.heap]?=dO #[.U e,.U g,.U x,.I t,.S p n c,.S q m d] 41)/\O (Bw w wr)) (λ_ iv _=>m-(intOf iv).toNat)
 exact⟨0,_,_,_,cO _,rfl,rfl,af,(by show _=_;simp only[sY,DG,Vp,yQ];exact ae ew0),(by show Own _ _ _ _;simp only[sY,DG,Vp,yQ];exact aD7.1),aD7.2.2.1,aD7.2.1⟩;{
 obtain⟨k,po,co,L,hk,rfl,rfl,hLk,eL,D,i,Z⟩:=hrel;by_cases aH:k<m;{
 have cL:=bM k m;have bR:k<J ns:=ae em▸aH;let⟨R,hy⟩:=nR bR;have hi:=HS.d R (bu hy);have hlen:=(aS0 HS R (bu hy)).1;obtain⟨b,o,rfl,PP,PV,PH,PU,DW⟩:∃b o,q=(Ad b o)/\∃P V H iU,Jj w b (o+k*8) R P V H iU:=by let⟨p',c',ev,hd⟩:=(ae HR _ aD).2;obtain⟨rfl,-,-⟩:=jJ ev;obtain h0|⟨b,o,h1,h2⟩:=hd;{rw[h0]at bR;simp at bR};{exact⟨b,o,h1,h2 k _ hy⟩}
 let⟨P,eP⟩:=aY R.A;let⟨V,eV⟩:=aY R.V;let⟨H,eH⟩:=aY R.y;obtain⟨pA,cA,nA,rfl,eA⟩:=DW.r0.dy;obtain⟨pB,cB,nB,rfl,eB⟩:=DW.r1.dy;obtain⟨pD,cD,E,rfl,eD⟩:=DW.r4.dy;obtain⟨pU,cU,nU,rfl,-⟩:=DW.r7.dy;obtain⟨ki,fM,gC,nK,uR,oI,jH,hc7,-⟩:=DW.H Z;obtain⟨-,-,-,-,-,-,-,-,q0,q1,q4,-,-⟩:=DW;rw[eP]at q0;rw[eV]at q1;rw[eH]at q4;have QQ:=ag λ(w':G)(hb:Bw w w')=>aF (q0.H hb) (aF (q1.H hb) (q4.H hb));obtain⟨⟨j1,j2,j3⟩,j4,j5,j6,j7,j8⟩:=hi;rw[ae eA]at j1;rw[ae eB]at j2;rw[ae eD]at j3;have J8:=ag j8;obtain⟨ow,Ef⟩:∃v:Nat,R.D=(v:Int):=⟨R.D.toNat,af⟩;obtain⟨ep,Vh⟩:∃v:Nat,R.P=(v:Int):=⟨R.P.toNat,af⟩;obtain⟨ge,Vg⟩:∃v:Nat,R.F=(v:Int):=⟨R.F.toNat,af⟩;obtain⟨mo,Vf⟩:∃v:Int,R.M=v:=⟨_,rfl⟩;rw[Ef]at gC j5;rw[Vh]at oI j6;rw[Vg]at jH j7;rw[Vf]at nK j4;rw[eP]at eA;rw[eV]at eB;rw[eH]at eD J8;have EB:O (jN R=((((((tx P++tx V)++vi ow)++[mo])++vi E)++cat (H.map ju))++vi ep)++vi ge):=by show _=_;rw[dA7,Ef,Vh,Vg,Vf,eP,eV,eH,ju,ju,ju,ae eD];rfl
 have HY:=ag hy;have wmo:IntKind.u8.wrap mo=mo:=by rw[JY];omega
 have wh:IntKind.u64.wrap (E:Int)=(E:Int):=by rw[uG];omega
 have wk:IntKind.i64.wrap ((k:Int)+1)=((k+1:Nat):Int):=by rw[kP _ af];omega
 obtain⟨T0,t0⟩:∃M,O (J (tx P)=M):=⟨_,cM⟩;obtain⟨T1,t1⟩:∃M,O (J (tx V)=M):=⟨_,cM⟩;have bT0:T0<=146:=by have:=(Hi P).2;rw[ae t0,ae eA]at this;omega
 have bT1:T1<=51:=by have:=(Hi V).2;rw[ae t1,ae eB]at this;omega
 obtain⟨G0,g0⟩:∃M,O (J (vi ow)=M):=⟨_,cM⟩;have hG0:G0<=10:=by have:=(pf ow).2;rw[ae g0]at this;exact this
 obtain⟨G1,g1⟩:∃M,O (J (vi E)=M):=⟨_,cM⟩;have Eb:G1<=10:=by have:=(pf E).2;rw[ae g1]at this;exact this
 obtain⟨G2,g2⟩:∃M,O (J (vi ep)=M):=⟨_,cM⟩;have QK:G2<=10:=by have:=(pf ep).2;rw[ae g2]at this;exact this
 obtain⟨G3,g3⟩:∃M,O (J (vi ge)=M):=⟨_,cM⟩;have IJ:G3<=10:=by have:=(pf ge).2;rw[ae g3]at this;exact this
 obtain⟨C,hC⟩:∃A,O (A=A5++cat ((ns.take k).map jN)):=⟨_,cM⟩;rw[<-ae hC]at eL D;obtain⟨C1,Kv⟩:∃l,O (l=C++tx P):=⟨_,cM⟩;obtain⟨C2,IM⟩:∃l,O (l=C1++tx V):=⟨_,cM⟩;obtain⟨C3,hC3⟩:∃l,O (l=C2++vi ow):=⟨_,cM⟩;obtain⟨C4,hC4⟩:∃l,O (l=C3++[mo]):=⟨_,cM⟩;obtain⟨C5,hC5⟩:∃l,O (l=C4++vi E):=⟨_,cM⟩;obtain⟨C6,hC6⟩:∃l,O (l=C5++cat (H.map ju)):=⟨_,cM⟩;obtain⟨C7,hC7⟩:∃l,O (l=C6++vi ep):=⟨_,cM⟩;obtain⟨C8,hC8⟩:∃l,O (l=C7++vi ge):=⟨_,cM⟩;have EC:O (A5++cat ((ns.take (k+1)).map jN)=C8):=by show _=_;rw[bt0 jN (ae HY),ae EB,ae hC8,ae hC7,ae hC6,ae hC5,ae hC4,ae hC3,ae IM,ae Kv,ae hC];simp only[uD]
 have Qr:=ag (show As w _ _ (U w.heap) _ _ _ _ _ from⟨D,Z,i,i⟩);have B:=fK.mL i;go_wp2_with fail;let⟨X,hX⟩:=aG (wr.alloc (dO #[.S pA nA cA,.S pB nB cB,.U ow,.I mo,.S pD E cD,.U ep,.U ge,.S pU nU cU] 141));have lQ:=gF hX;let⟨nb,DV⟩:=aG (U wr.heap);have NX:O (X.heap[nb]?=dO #[.S pA nA cA,.S pB nB cB,.U ow,.I mo,.S pD E cD,.U ep,.U ge,.S pU nU cU] 141):=by rw[hX,DV];exact cG7
 have OX:=ag (Own.H D lQ);have BX:=ag (ai Z lQ);have KX:=ag (Z6 i lQ);rw[<-hX,<-DV];clear hX lQ D Z i DV;have QX:=ag (show As w _ _ nb _ _ _ _ _ from⟨OX,BX,KX,NX⟩);refine(ao6 eA (ae QQ _ BX).1 af t0).h ?_;rintro z9 y12⟨fm5,fD0,rfl,dw4,eb2⟩;have eT7:=ag (QX.yv eb2);have eQ5:=ag dw4.rd;go_wp2_with(at_builtin;refine Dr rfl rfl eT7 Kv t0 eL rfl rfl eQ5 af ?_);intro fn8 fE5 y13 fJ6 aD6 ev9 fG5;have B:=fK.mL aD6.2.2.1;have a0:=vo.mL aD6.2.2.2;go_wp2_with fail;refine(ao6 eB (ae QQ _ aD6.2.1).2.1 af t1).h ?_;rintro z9 y14⟨fm4,fC9,rfl,dw3,eb1⟩;have eT6:=ag (aD6.yv eb1);have eQ4:=ag dw3.rd;go_wp2_with(at_builtin;refine Dr rfl rfl eT6 IM t1 ev9 rfl rfl eQ4 af ?_);intro fn7 fE4 y15 fJ5 by2 ev8 fG4;have B:=fK.mL by2.2.2.1;have a0:=vo.mL by2.2.2.2;go_wp2_with fail;refine(FD af g0).h ?_;rintro z9 y16⟨fm3,fC8,rfl,dw2,eb0⟩;have eT5:=ag (by2.yv eb0);have eQ3:=ag dw2.rd;go_wp2_with(at_builtin;refine Dr rfl rfl eT5 hC3 g0 ev8 rfl rfl eQ3 af ?_);intro fn6 fE3 y17 fJ4 bx9 ev7 fG3;have B:=fK.mL bx9.2.2.1;have a0:=vo.mL bx9.2.2.2;go_wp2_with(at_builtin;refine cX1 rfl rfl bx9 hC4 ev7 rfl rfl af ?_);intro fn5 fE2 y18 fJ3 bx8 ev6 fG2;have B:=fK.mL bx8.2.2.1;have a0:=vo.mL bx8.2.2.2;go_wp2_with fail;refine(FD af g1).h ?_;rintro z9 y19⟨fm2,fC7,rfl,dw1,ea9⟩;have eT4:=ag (bx8.yv ea9);have eQ0:=ag dw1.rd;go_wp2_with(at_builtin;refine Dr rfl rfl eT4 hC5 g1 ev6 rfl rfl eQ0 af ?_);intro fn4 fE1 y20 eU8 VF ev5 fG1;have B:=fK.mL VF.2.2.1;have a0:=vo.mL VF.2.2.2;go_wp2
 go_loopw[3,7](λov kv wr=>∃(j:Nat)(po:OA)(co L:Nat),j<=E/\ov=.S po L co/\kv=.I j/\L<=eU8+10*j/\O (J (C5++cat ((H.take j).map ju))=L)/\O (Own (U w.heap) wr (.S po L co) (C5++cat ((H.take j).map ju)))/\O (wr.heap[U w.heap]?=dO #[.U e,.U g,.U x,.I t,.S p n c,.S (Ad b o) m d] 41)/\O (wr.heap[nb]?=dO #[.S pA nA cA,.S pB nB cB,.U ow,.I mo,.S pD E cD,.U ep,.U ge,.S pU nU cU] 141)/\O (Bw w wr)) (λ_ kv _=>E-(intOf kv).toNat)
 exact⟨0,_,_,_,cO _,rfl,rfl,af,(by show _=_;simp only[sY,DG,Vp,yQ];exact ae ev5),(by show Own _ _ _ _;simp only[sY,DG,Vp,yQ];exact VF.1),VF.2.2.1,VF.2.2.2,VF.2.1⟩;{
 obtain⟨j,pr,cr,Lr,hj,rfl,rfl,hLj,ZE,D,i,Nr,Z⟩:=hrel;by_cases hlj:j<E;{
 have dT9:=bM j E;have oy:j<J H:=ae eD▸hlj;let⟨iv,hy⟩:=nR oy;have hi:=ae J8 iv (bu hy);obtain⟨v,rfl⟩:∃v:Nat,iv=(v:Int):=⟨iv.toNat,af⟩;obtain⟨b',o',rfl,hc⟩:∃b o,pD=(Ad b o)/\I wr (Ad b (o+j))=dU v:=by let⟨p',c',ev,hd⟩:=(ae QQ _ Z).2.2;obtain⟨rfl,-,-⟩:=jJ ev;obtain h0|⟨b,o,h1,h2⟩:=hd;{rw[h0]at oy;simp at oy};{refine⟨b,o,h1,?_⟩;have:=h2 j oy;rw[im,hy,rJ]at this;exact this}
 obtain⟨M,eM⟩:∃M,O (J (vi v)=M):=⟨_,cM⟩;have hM:M<=10:=by have:=(pf v).2;rw[ae eM]at this;exact this
 obtain⟨A,hA⟩:∃A,O (A=C5++cat ((H.take j).map ju)):=⟨_,cM⟩;rw[<-ae hA]at ZE D;obtain⟨AA,Zm⟩:∃l,O (l=A++vi v):=⟨_,cM⟩;have EA:O (C5++cat ((H.take (j+1)).map ju)=AA):=by show _=_;rw[ae Zm,ae hA,bt0 ju hy,uD];rfl
 have wj:IntKind.i64.wrap ((j:Int)+1)=((j+1:Nat):Int):=by rw[kP _ af];omega
 have Qr:=ag (show As w _ _ nb _ _ _ _ _ from⟨D,Z,i,Nr⟩);have B:=fK.mL i;have a0:=vo.mL Nr;go_wp2_with fail;refine(FD af eM).h ?_;rintro z9 y21⟨fm0,fC5,rfl,dv9,ea7⟩;have eS9:=ag (Qr.yv ea7);have eP8:=ag dv9.rd;go_wp2_with(at_builtin;refine Dr rfl rfl eS9 Zm eM ZE rfl rfl eP8 af ?_);intro fn3 fE0 y22 fJ2 VE ev4 fG0;have B:=fK.mL VE.2.2.1;have a0:=vo.mL VE.2.2.2;go_wp2;go_roundw;exact⟨j+1,_,_,_,af,rfl,by go_num,af,(ae EA▸ev4),(ae EA▸VE.1),VE.2.2.1,VE.2.2.2,VE.2.1⟩;exact cW};{
 have dT9:=fq j E;have ejn:E=j:=af;rw[lY (by rw[ae eD];omega)]at ZE D;rw[<-ae hC6]at ZE D;have Qr:=ag (show As w _ _ nb _ _ _ _ _ from⟨D,Z,i,Nr⟩);have B:=fK.mL i;have a0:=vo.mL Nr;go_wp2_with fail;refine(FD af g2).h ?_;rintro z9 y23⟨fl9,fC4,rfl,dv8,ea6⟩;have eS8:=ag (Qr.yv ea6);have eP7:=ag dv8.rd;go_wp2_with(at_builtin;refine Dr rfl rfl eS8 hC7 g2 ZE rfl rfl eP7 af ?_);intro fn2 fD9 y24 fJ1 bx7 ev0 fF9;have B:=fK.mL bx7.2.2.1;have a0:=vo.mL bx7.2.2.2;go_wp2_with fail;refine(FD af g3).h ?_;rintro z9 y25⟨fl8,fC3,rfl,dv7,ea5⟩;have eS7:=ag (bx7.yv ea5);have eP6:=ag dv7.rd;go_wp2_with(at_builtin;refine Dr rfl rfl eS7 hC8 g3 ev0 rfl rfl eP6 af ?_);intro fn1 fD8 y26 fJ0 aa9 eu9 fF8;have B:=fK.mL aa9.2.2.1;have a0:=vo.mL aa9.2.2.2;go_wp2;go_roundw;exact⟨k+1,_,_,_,af,rfl,by go_num,af,(ae EC▸eu9),(ae EC▸aa9.1),aa9.2.2.1,aa9.2.1⟩
 case measure=>simp[intOf];omega}}}
 {have cL:=fq k m;obtain rfl:m=k:=af;rw[lY (ae em▸eG _),<-ae EN]at eL D;obtain rfl:L=N:=eL.C.Z eN;have Qr:=ag (show As w _ _ (U w.heap) _ _ _ _ _ from⟨D,Z,i,i⟩);have B:=fK.mL i;go_wp2;go_ret;exact⟨po,co,rfl,D,Z⟩}}}}
def Gz:Option ((Int×Int×Int)×List aB×List ar)->fG
 |none=>rG
 |some r=>⟨r.1.1,r.1.2.1,r.1.2.2,0,r.2.1,r.2.2⟩
def GC:Option ((Int×Int×Int)×List aB×List ar)->Int
 |none=>13
 |some _=>0
variable {x a:Int}
def Fi(q:Le l n){w:G}(h:Rd w (.S p n c) l)(o:O (aC l))(m:Mg n)(j:O (gU n l om))(r:O (jB n om=a))(e:O (oV om=(x,rh)))(y:O (jB n rh=a')):Cp 155 #[.S p n c,.I a] w λe i=>e=dR (dT #[.U x,.I a'])/\i=w:=by
 have u:=ae r;have s:=ae y;subst u s;exact bS6 q h o m j e
def dy5(q:Le l n){w:G}(h:Rd w (.S p n c) l)(o:O (aC l))(m:Mg n)(j:O (gU n l om))(r:O (jB n om=a))(e:O (oB om=(x,rh)))(y:O (jB n rh=a')):Cp 157 #[.S p n c,.I a] w λe i=>e=dR (dT #[.I x,.I a'])/\i=w:=by
 have u:=ae r;have s:=ae y;subst u s;exact aP3 q h o m j e
def bW9(u:Le l n){w:G}(h:Rd w (.S p n c) l)(s:O (aC l))(r:Mg n)(o:n<=c)(q:O (gU n l om))(y:O (jB n om=a)){x:LI}(e:O (oT om=(x,rh)))(M:O (jB n rh=a'))(B:Le x N):Cp 156 #[.S p n c,.I a] w λe i=>∃j m,e=dR (dT #[.S j N m,.I a'])/\Own (U w.heap) i (.S j N m) x/\Bw w i:=by
 have E:=ae y;have D:=ae M;subst E D;exact aP2 u h s r o q e B
theorem aC4(i:gU n l om):(jB n om<0↔om=dN)/\jB n om<=n/\-1<=jB n om:=by
 cases om with
 |none=>simp[jB]
 |some m=>
  have:=(i m rfl).1;simp only[jB];refine⟨⟨λh=>af,λh=>by cases h⟩,af,af⟩
def aB9{w u:G}(h:Bw w u){o:Obj}:Bw w (u.alloc o):=h.alloc h.size o
def OwnT.bU6{α:Type}{el:G->α->List dV->List Lf->Prop}{sb:Nat}{w:G}{xs:List α}(h:OwnT el ty sz B w v xs Ls)(q:∀w i x c l,el w x c l->(∀a∈l,i.heap[a.b]?=w.heap[a.b]?)->el i x c l)(r:sb<B)(j:Nat)(u:dV):OwnT el ty sz B (w.setCell (Ad sb j) u) v xs Ls:=
 h.W (q _ _) aj (λb m=>fT _ _ _ _ (by have:=(h.lt.1 b m).1;simp;omega)) (λa o=>fT _ _ _ _ (by have:=(h.lt.2 a o).1;simp;omega))
def mg.id(w:G)(i:Int):mg w (xQ i) [.U i,.I 0,aq] []:=⟨dN,0,rfl,⟨dN,0,rfl,.L rfl⟩,⟨dN,0,[],rfl,rfl,rfl,.L rfl⟩⟩
variable {o:Option LI}
theorem bN7(h:qI k o=dN):∀j,k<=j->qI j o=dN:=by
 intro j i
 induction j with
 |zero=>rw[show k=0 by omega]at h;exact h
 |succ j ih=>
  by_cases e:k=j+1;{rw[<-e];exact h};{rw[qI,ih af];rfl}
def di8(h:qI k o=Y (ns,om))(i:yK om=Y (nd,rh)):qI (k+1) o=Y (ns++[nd],rh):=by
 rw[qI,h];simp only[AI,i,Hx]
def bN5(h:qI k o=Y (ns,om))(i:yK om=dN):qI (k+1) o=dN:=by
 rw[qI,h];simp only[AI,i,Option.map_none]
def gK.snoc{w:G}{d:Int}(i:J l=k)(h:w.ownsRow B 27 1 v (k+1) (l.map (Value.int .u64)++[.U d])):gK B w v (l++[d]):=by
 unfold gK;rw[dm,pK,i];exact h
def PU.nil(w:G)(M N:Nat):PU w M N aq [] []:=⟨⟨dN,0,rfl,.L rfl⟩,⟨dN,0,[],rfl,rfl,rfl,.L rfl⟩,gh.nil _ _,λa ha=>by simp at ha⟩
end Go.Proofs.YtdloolggnjjfoaaGreatDoor
