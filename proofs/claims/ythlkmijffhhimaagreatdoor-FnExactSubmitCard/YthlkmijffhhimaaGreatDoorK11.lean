import Derived.Test.YthlkmijffhhimaaGreatDoorK10
import Derived.Deep.CutBlock
import Derived.Recover
import Derived.Laws.Pointers
import Derived.Lib.ItoaWalk
open Array renaming setIfInBounds->jI,size->U
open Bool renaming false->dF,true->dY
open Decidable renaming decide->dD
open Go renaming undef->jQ,Calls->dQ,Value->dV,World->G
open Go.Ending renaming returned->dR
open Go.IntKind renaming u64->jU,i64->jV,wrap->jY
open Go.Obj renaming cells->dO
open Go.Proofs.Tryz renaming prog->dG
open Go.Region renaming wanted->jW
open Go.RowKit renaming Hid->O
open Go.Value renaming ownBlock->jB,int->jK,bool->jO,agg->jP,I->dI,pointer->dP,S->dS,tuple->dT,U->dU
open Go.World renaming alloc->jA,frozen?->jF,heap->Q,setCell->jS,cell?->I
open Int renaming toNat->jN
open List renaming drop->jD,flatten->jL,range->jR,length->J
open Option renaming none->dN,some->Y
namespace Go.Proofs.YthlkmijffhhimaaGreatDoor
set_option maxHeartbeats 12800000
set_option linter.all false
set_option maxRecDepth 100000
open Go.ChangeShapes Go.WideShapes Go.ChangeAt Go.RowKit Go.Proofs.Tryz
def Um(l:LI)(r:Ending)(w':G):Prop:=∃(D:SD)(q C:Int)(p:OA)(c:Nat)(i:OA)(d:Nat),r=dR (dT #[cO D.e D.g D.x D.t (.S p (J D.E) c) (.S i (J D.N) d),.U q,.I C])/\nM w' (.S p (J D.E) c) D.E/\iw w' (.S i (J D.N) d) D.N/\((pY l=dN/\C=13)\/(pY l=Y (D,q)/\C=0))
variable {w v w':G}{l l0 l1 xs:LI}{p r p0 p1 p2 p' r':OA}{c n b sb N M b' L b0:Nat}{C q g t E F iG:Int}{dop:LI->Option Rq}{x v0 v1 v2 v3 v4 v5 v6 v7 v8 v9 va vb vc u0 u1 u2 u3 u4 u5 u6 u7:dV}{D:SD}{o:Option Rq}{S:fD}{P q':Prop}{A1 A2 A:List Lf}{a cs rO:iA}{e z:Ending}{R:Ending->G->Prop}{Ls:List (List Lf)}{y:au}{ss:List aB}{ns:List au}{K:Act->G->Prop}{us vs Qs:List dV}{md:Region.Mode}{ops:iQ}{listed:Array Bool}{ty:TypeId}{f:FuncId}{ud:Array TypeId}{rs:List R1}{ps:List MemPlace}
theorem YI:nM w ay []:=⟨dN,0,rfl,.L rfl⟩
theorem YJ:iw w ay []:=⟨dN,0,rfl,.L rfl⟩
theorem Um.no(h:O (pY l=dN))(w':G):Um l (dR (dT #[cO 0 0 0 0 ay ay,.U 0,.I 13])) w':=
 ⟨⟨0,0,0,0,[],[]⟩,0,13,dN,0,dN,0,rfl,YI,YJ,.L ⟨h,rfl⟩⟩
theorem bV7(i:¬J l=0)(h:J l<20):pY l=dN:=by rw[pY,aJ i,aK h]
theorem bV8(h:¬J l<20)(i:¬uh (num (sub l 4 12)) (sub l 16 (J l-4))=l):pY l=dN:=by rw[pY,aJ (by omega),aJ h,aJ i]
theorem bV9(h:¬J l<20)(i:4611686018427387904<num (sub l 4 12)):pY l=dN:=by
 rw[pY,aJ af,aJ h,aK (show 2^62<num (sub l 4 12) by omega)];split<;>rfl
theorem bV4(h:¬J l<20)(i:uh (num (sub l 4 12)) (sub l 16 (J l-4))=l)(hb:¬4611686018427387904<num (sub l 4 12)):pY l=(lK (sub l 16 (J l-4))).map λr=>(⟨r.1.1,r.1.2.1,r.1.2.2,0,r.2.1,r.2.2⟩,num (sub l 4 12)):=by
 rw[pY,aJ af,aJ h,aK i,aJ (show¬2^62<num (sub l 4 12) by omega)]
theorem dP3(en:Le l n)(h:Rd w (.S p n c) l)(hb:aD l)(hl:Mg n)(qi:n<=c)(qn:O (c<=maxLen))(hp:O ((p=dN/\c=0)\/∃b o,p=(Ad b o)))(rI:ML w):dQ dG 125 #[.S p n c] w λr w'=>Um l r w'/\Bw w w':=by
 obtain⟨W0,cT,b0,z0,C0,-⟩:=cR w #[.U 0,.U 0,.U 0,.I 0,ay,ay] 44;have HR:=eG (h.H b0) (rI.H b0) hb;go_in;by_cases Cd:n=0;{
 subst Cd;have W:O (pY l=Y (⟨0,0,0,0,[],[]⟩,0)):=ai (by rw[pY,aK (ae en)]);let⟨R,N,M,E,m,j,rf⟩:=C0.c6
 go_wp21
 rw[<-cT];go_wp2;exact cX (by simp[results,results125,go_sem,R,N,M,E,m,j]) rfl ⟨⟨⟨0,0,0,0,[],[]⟩,0,0,dN,0,dN,0,rfl,YI,YJ,.R ⟨W,rfl⟩⟩,b0⟩};{
 have oQ:((n:Int)==0)=dF:=by simp;omega
 go_wp21
 rw[<-cT];have jk:U (Q w)<U (Q W0):=af;by_cases Tt:n<20;{refine(dV4 Tt).h ?_;rintro r w1⟨p1,c1,rfl,-,V⟩;have W:O (pY l=dN):=bV7 (ae en▸Cd) (ae en▸Tt);let⟨R,N,M,E,m,j,rf⟩:=(C0.H jk V).c6;have BB:=aj b0 V;go_wp2;exact cX (by simp[results,results125,go_sem,R,N,M,E,m,j]) rfl ⟨Um.no W _,xv BB⟩};{
 obtain⟨pb,po,rfl⟩:∃b o,p=(Ad b o):=by obtain⟨-,h⟩|h:=ae hp;{omega};{exact h}
 have Sy:¬J l<20:=ae en▸Tt;refine(dV6 en HR.1 HR.2.2 af hl qi qn).h ?_;intro r w1 hd;unfold QG at hd;by_cases hs:uh (num (sub l 4 12)) (sub l 16 (n-4))=l;{
 rw[aK hs]at hd;obtain⟨p1,c1,rfl,o1,V⟩:=hd;let⟨q,eq⟩:=bu (num (sub l 4 12));have hq:=Hx (HR.2.2.sub 4 12) (by simp[sub];omega);let⟨B,eB⟩:=bu (sub l 16 (n-4));have yS:O (J B=n-20):=ai (by rw[<-eB,Be (by rw[ae en];omega)];omega);have Dz:O (aD B):=by show aD B;rw[<-eB];exact HR.2.2.sub _ _
 rw[eq]at hq;rw[eB]at o1;rw[eq];have BB:=aj b0 V;have C1:=C0.H jk V;have fI:U (Q w)<U (Q w1):=aM V.size;have HS:O (pY l=if 2^62<q then dN else(lK B).map λr=>(⟨r.1.1,r.1.2.1,r.1.2.2,0,r.2.1,r.2.2⟩,q)):=by show _=_;by_cases hb:2^62<q;{rw[aK hb,bV9 Sy (eq▸hb)]};{rw[aJ hb,bV4 Sy (ae en▸hs) (eq▸hb),ae en,eq,eB]}
 by_cases Tc:2^62<q;{have W:O (pY l=dN):=ai (by rw[ae HS,aK Tc]);let⟨R,N,M,E,m,j,rf⟩:=C1.c6;go_wp2;exact cX (by simp[results,results125,go_sem,R,N,M,E,m,j]) rfl ⟨Um.no W _,xv BB⟩};{
 have Al:=ae HS;rw[aJ Tc]at Al;have pG:=ai Al;have HO:=eG o1.rd o1.cap o1.Xp
 go_wp21
 refine(dV5 yS HO.1 Dz af HO.2.1 HO.2.2.1 HO.2.2.2 (HR.2.1.H V)).h ?_;rintro r w2⟨⟨ps,cs,pn,cn,rfl,Z⟩,aA⟩;rw[<-dq6 (ae Dz) (by rw[ae yS];omega)]at Z⊢;have B2:=aj BB aA;have C2:=C1.H fI aA;have gv:U (Q w)<U (Q w2):=aM aA.size;cases hP:lK B with
 |none=>
  have W:O (pY l=dN):=ai (by rw[ae pG,hP];rfl);simp only[IM,IN,uf,BJ];obtain⟨W3,ky,X,z3,C3,-⟩:=cR w2 #[.U 0,.U 0,.U 0,.I 0,.S ps 0 cs,.S pn 0 cn] 44;let⟨R,N,M,E,m,j,rf⟩:=(C2.H gv X).c6;have B3:=aj B2 X;clear hP Z C2 C3 X z3 B2 fI gv;subst ky;go_wp2;exact cX (by simp[results,results125,go_sem,R,N,M,E,m,j]) rfl ⟨Um.no W _,xv B3⟩
 |some s=>
  have W:O (pY l=Y (⟨s.1.1,s.1.2.1,s.1.2.2,0,s.2.1,s.2.2⟩,q)):=ai (by rw[ae pG,hP];rfl);rw[hP]at Z;simp only[IM,IN]at Z⊢;obtain⟨⟨e,g,x⟩,ss,ns⟩:=s;simp only at Z W⊢;let⟨n1,uW⟩:=cg (J ss);let⟨n2,xr⟩:=cg (J ns);rw[ae uW,ae xr]at Z⊢;obtain⟨W3,ky,X,z3,C3,-⟩:=cR w2 #[.U e,.U g,.U x,.I 0,.S ps n1 cs,.S pn n2 cn] 44;let⟨R,N,M,E,m,j,rf⟩:=(C2.H gv X).c6;obtain⟨k0,k1,k2,k3,k4,k5,-⟩:=C3.c6;have B3:=aj B2 X;have H3:=ai (Z.W (w':=gL W3 (U (Q w)) (.U e) (.U g) (.U x) (.I 0) (.S ps n1 cs) (.S pn n2 cn)) (λy h1 h2=>(Hp af).Z (X.block y h2))).QU;clear hP Z C2 C3 X z3 B2 fI gv;subst ky;go_wp2;refine cX (v:=dT #[cO e g x 0 (.S ps n1 cs) (.S pn n2 cn),.U q,.I 0]) (by simp[results,results125,go_sem,R,N,M,E,m,j]) rfl ⟨⟨⟨e,g,x,0,ss,ns⟩,q,0,ps,cs,pn,cn,?_,?_,?_,.R ⟨W,rfl⟩⟩,xv B3⟩;{rw[ae uW,ae xr]};{rw[ae uW];exact H3.1};{rw[ae xr];exact H3.2}}};{rw[aJ hs]at hd;obtain⟨p1,c1,rfl,-,V⟩:=hd;let⟨R,N,M,E,m,j,rf⟩:=(C0.H jk V).c6;go_wp2;exact cX (by simp[results,results125,go_sem,R,N,M,E,m,j]) rfl ⟨Um.no (bV8 Sy (ae en▸hs)) _,xv (aj b0 V)⟩}}}
def MM(D:SD):fD:=⟨D.e,D.g,D.x,0,D.E.map pZ,D.N.map qP⟩
def BN(dop:LI->Option Rq)(l0 l1:LI)(i:Bool):fD×Int×Int:=
 if i=dF then(uf,0,1)else match pY l1 with
  |none=>(uf,0,13)
  |some x=>(MM (uj dop x.1 x.2 (rl l0)).1,(uj dop x.1 x.2 (rl l0)).2,0)
def ak7(B:Nat)(r:Ending)(w:G)(R:fD×Int×Int):Prop:=∃p c q d,r=dR (dT #[cO R.1.e R.1.g R.1.x R.1.t (.S p (J R.1.E) c) (.S q (J R.1.N) d),.U R.2.1,.I R.2.2])/\pW B w p (J R.1.E) c q (J R.1.N) d R.1.E R.1.N
theorem ak7.no{B:Nat}{R:fD×Int×Int}(h:O (R=(uf,0,C))):ak7 B (dR (dT #[cO 0 0 0 0 ay ay,.U 0,.I C])) w R:=by
 rw[ae h];exact⟨dN,0,dN,0,rfl,pW.zero _ _⟩
theorem cE0:∀(t:Option Int)(L:List (Option R1)),J (rK t L)<=J L
 |_,[]=>by simp[rK]
 |_,dN::_=>by simp[rK]
 |t,Y x::L=>by rw[rK];split;{have:=cE0 x.1 L;simp only[mO];omega};{simp}
theorem bO3:∀(f:Nat)(l:LI),J (yl f l)<=f+1
 |0,l=>by simp[yl]
 |f+1,l=>by
  rw[yl];split;{simp};{
 next r _=>
 have:=bO3 f (jD (J r.2+14) l);simp only[mO];omega}
theorem bZ6:J (rl l)<=J l+2:=gq (cE0 _ _) (bO3 _ _)
theorem dP0:BN dop l0 l1 dF=(uf,0,1):=rfl
theorem Sb(h:pY l1=dN):BN dop l0 l1 dY=(uf,0,13):=by rw[BN,ri,h]
theorem av9{x:SD×Int}(h:pY l1=x){X:SD×Int}(e:uj dop x.1 x.2 (rl l0)=X):BN dop l0 l1 dY=(MM X.1,X.2,0):=by rw[BN,ri,h,<-e]
theorem dU9(p0 p1 p2:OA)(n0 c0 n1 c1 n2 c2:Nat)(s0 s1 s2:Int)(l0 l1:LI)(e0:Le l0 n0)(e1:Le l1 n1)(w:G)(h0:Rd w (.S p0 n0 c0) l0)(h1:Rd w (.S p1 n1 c1) l1)(m0:Mg n0)(m1:Mg n1)(m2:Mg n2)(k0:n0<=c0)(k1:n1<=c1)(j0:O (c0<=maxLen))(j1:O (c1<=maxLen))(a0:O ((p0=dN/\c0=0)\/∃b o,p0=(Ad b o)))(a1:O ((p1=dN/\c1=0)\/∃b o,p1=(Ad b o)))(b0:O (aD l0))(b1:O (aD l1))(hM:ML w)(hT:uz w)(dop:LI->Option Rq)(hd:O (∀l,zx l (dop l)))(ok:Bool)(ox:O (sF n0 s0 n1 s1 n2 s2=ok))(R:fD×Int×Int)(eR:O (BN dop l0 l1 ok=R)):dQ dG 66 #[pR (.S p0 n0 c0) s0 (.S p1 n1 c1) s1 (.S p2 n2 c2) s2] w λr w'=>ak7 (U (Q w)) r w' R/\Bw w w':=by
 obtain⟨W0,cT,q0,z0,C0,-⟩:=cR w #[.S p0 n0 c0,.I s0,.S p1 n1 c1,.I s1,.S p2 n2 c2,.I s2] 40;let⟨W1,fT,q1,z1,C1⟩:=Cr W0;rw[z0]at C1 z1;have bW:=aj q0 q1;have M:=ai (λ(v:G)(hv:Bw W1 v)=>aE ((C0.H af q1).H af hv).c6 (aE (h0.H (aj bW hv)) (aE (h1.H (aj bW hv)) (aE (hM.H (aj bW hv)) (aE (show uz v fromλk i1 i2=>(hT k i1 i2).H (aj bW hv)) (aj bW hv))))));go_in
 go_wp21
 rw[<-cT,<-fT];refine cL (co3 af af af) λw1 az=>?_;rw[ae ox];let⟨B1,X1⟩:=aQ az (C1.H az);have fI:=az.size;cases ok with
 |false=>
  have HD:O (R=(uf,0,1)):=ai (by rw[<-ae eR];rfl);let⟨r0,r1,r2,r3,r4,r5,rf⟩:=X1.cells;go_wp2;exact cX (by simp[results,results66,go_sem,r0,r1,r2,r3,r4,r5]) rfl ⟨ak7.no HD,xv ((ae M w1 B1).2.2.2.2.2)⟩
 |true=>
  obtain⟨⟨i0,i1,i2,i3,i4,i5,-⟩,-⟩:=ae M w1 B1
  go_wp21
  refine(dP3 e1 (ae M w1 B1).2.2.1 b1 m1 k1 j1 a1 (ae M w1 B1).2.2.2.1).h ?_;rintro r w2⟨⟨D,q,C,p,c,p',d,rfl,hS,hN,JU⟩,aA⟩;let⟨n,en⟩:=cg (J D.E);let⟨m,em⟩:=cg (J D.N);rw[ae en]at hS⊢;rw[ae em]at hN⊢;obtain⟨W3,ky,b3,z3,C3,-⟩:=cR w2 #[.U D.e,.U D.g,.U D.x,.I D.t,.S p n c,.S p' m d] 44;let⟨B3,X3⟩:=aQ (aj B1 (aj aA b3)) ((X1.H aA).H b3);have Ni:=bG (hS.H b3) (hN.H b3);let⟨KQ,HO⟩:=aQ C3 JU;have Sg:U (Q w2)<U (Q W3):=af;have Sf:U (Q w)+1<U (Q W3):=by have:=(bG z0 z1).2;have:=aA.size;omega
  obtain⟨fO,rfl⟩|⟨fO,rfl⟩:=ae HO;{have HD:O (R=(uf,0,13)):=ai (by rw[<-ae eR];exact Sb fO);let⟨r0,r1,r2,r3,r4,r5,rf⟩:=X3.cells;have BB:=(ae M W3 B3).2.2.2.2.2;subst ky;go_wp2;exact cX (by simp[results,results66,go_sem,r0,r1,r2,r3,r4,r5]) rfl ⟨ak7.no HD,xv BB⟩};{
 have E:=ai (aS1 b1 (ae e1▸m1) fO);let⟨X,eX⟩:=cg (uj dop D q (rl l0));have HD:O (R=(MM X.1,X.2,0)):=ai (by rw[<-ae eR];exact av9 fO eX);have Z:O (GQ X.1 X.2):=by show GQ X.1 X.2;rw[<-ae eX];exact ar2 hd _ E (ar4 b0)
 obtain⟨⟨i0,i1,i2,i3,i4,i5,-⟩,-⟩:=ae M W3 B3;obtain⟨k0',k1',k2',k3',k4',k5',-⟩:=KQ.c6;have V:=bG Sf Sg;subst ky
 go_wp21
 let⟨W3,ky⟩:=aF (jA w2 (dO #[.U D.e,.U D.g,.U D.x,.I D.t,.S p n c,.S p' m d] 44));rw[<-ky]at B3 X3 Ni KQ V⊢;refine(co4 (ae M W3 B3).2.1 b0 e0 m0 k0 j0 a0).h ?_;rintro r w4⟨pr,cr,vs,rfl,JU,dz⟩;let⟨nr,MF⟩:=cg (J (rl l0));obtain⟨tk,etk⟩:∃k,(mi (rl l0):Int)=k:=⟨_,rfl⟩;rw[ae MF,etk];have XF:=bG (Ni.1.H dz) (Ni.2.H dz);obtain⟨k0',k1',k2',k3',k4',k5',-⟩:=(KQ.H V.2 dz).c6
 go_wp21
 have HF:=ai E.1.IG;refine(Yr en em XF.1 XF.2 (by rw[<-ae en];have:=E.1.sl;omega) (by rw[<-ae em];have:=E.1.nl;omega) (ai λs hs=>(HF.s2 s hs).1) HF.s3 E.1.dr E.1.tG HF.n3).h ?_;rintro r w5⟨b,bs,bn,SB,NB,zt,UB,rfl,cK,eh⟩;have XE:=ai (ae M w4 (aj B3 dz))
 go_wp21
 refine(dz0 (PS.of cK eh HF (aM E.1.sl) (aM E.1.nl)) E MF (by show _<=_;rw[<-ae MF];exact gq (bZ6) (by rw[ae e0];omega)) (JU.rct.H eh) (ar4 b0) XE.2.2.2.1 XE.2.2.2.2.1 dop hd eX).h ?_;rintro r w6⟨SB6,NB6,HB6,UB6,rfl,P6,F6⟩;let⟨HF6,HFX⟩:=aQ F6 Z.1.IG
 go_wp21
 refine(cD7 P6 (KD.of HFX) HFX.s3).h ?_;rintro r w7⟨P7,F7,v7,rfl⟩;have j:=ai P7;let⟨nx,Ty⟩:=cg (MM X.1).E.length;let⟨mx,N⟩:=cg (MM X.1).N.length
 go_wp21
 have W:=ai (do7 (Z.1.re (Gp _) Z.1.e.2 (d:=0) (t:=0) ⟨Gp 0,Vx _⟩ ⟨Gp 0,Vx _⟩) j);dsimp only at W;rw[show J (List.map (λs:aB=>(s.1,(0:Int),([]:List Ev))) X.1.E)=nx from ae Ty,show J (List.map qP X.1.N)=mx from ae N]at W;refine W.h ?_;rintro r w8⟨p8,c8,q8,d8,rfl,hs8,EW⟩;let⟨r0,r1,r2,r3,r4,r5,rf⟩:=(((((X3.H dz).H eh).T F6).T F7).H EW).cells;go_wp2;refine cX (v:=dT #[cO X.1.e X.1.g X.1.x 0 (.S p8 nx c8) (.S q8 mx d8),.U X.2,.I 0]) (by simp[results,results66,go_sem,r0,r1,r2,r3,r4,r5]) rfl ⟨?_,xv ((XE.2.2.2.2.2.Z (j.be.h (aM XE.2.2.2.2.2.size))).Z (EW.h (by have:=j.be.size;have:=XE.2.2.2.2.2.size;omega)))⟩;rw[ae HD];refine⟨p8,c8,q8,d8,?_,?_⟩;{simp only[ae Ty,ae N];rfl};{simp only[ae Ty,ae N];exact((hs8.W (w':=gL w8 (U (Q w)+1) (.U X.1.e) (.U X.1.g) (.U X.1.x) (.I 0) (.S p8 nx c8) (.S q8 mx d8)) (λy h1 h2=>Hp (by have:=j.be.size;have:=(bG dz.size eh.size).1;have:=V.1;omega))).h (B':=U (Q w)) (by have:=j.be.size;have:=XE.2.2.2.2.2.size;omega))}}
abbrev Jq(v0:dV)(n0:Int)(v1:dV)(n1:Int)(v2:dV)(n2:Int)(e g x t:Int)(S N:dV)(q:Int):dV:=jP #[v0,.I n0,v1,.I n1,v2,.I n2,.U e,.U g,.U x,.I t,S,N,.U q]
def cZ6(w:G)(V:dV)(B:LI)(L:Nat):Prop:=∀v,Bw w v->dQ dG 68 #[V] v λr w'=>∃i j,r=dR (.S i L j)/\Own (U (Q v)) w' (.S i L j) B/\Bw v w'
abbrev SvS(w:G)(b:Nat)(q e g x t:Int)(S N:dV):Prop:=I w (Ad b 12)=dU q/\I w (Ad b 6)=dU e/\I w (Ad b 7)=dU g/\I w (Ad b 8)=dU x/\I w (Ad b 9)=dI t/\I w (Ad b 10)=S/\I w (Ad b 11)=N
structure Dk where
 l0:LI
 n0:Int
 l1:LI
 n1:Int
 l2:LI
 n2:Int
def Dk.ok(D:Dk):Prop:=sF (J D.l0) D.n0 (J D.l1) D.n1 (J D.l2) D.n2=dY
theorem Dk.ok.len{D:Dk}(h:D.ok):J D.l0<=200000/\J D.l1<=200000/\J D.l2<=200000:=by
 unfold Dk.ok sF at h;simp only[gP]at h;exact⟨(aC9 h.1.1).1,(aC9 h.1.2).1,(aC9 h.2).1⟩
def FG(b:Nat)(w v:G):Prop:=U (Q w)<=U (Q v)/\∀k,k<U (Q w)->k≠b->v.heap[k]?=w.heap[k]?
theorem FG.set(h:FG b w v)(o:Nat)(x:dV):FG b w (jS v (Ad b o) x):=⟨by simpa using h.1,λk j i=>(Rl _ _ _ _ i).Z (h.2 k j i)⟩
theorem FG.cell(h:FG b w v){k o:Nat}(i:k≠b)(hc:I w (Ad k o)=x):I v (Ad k o)=x:=by
 have:=h.2 k (my w _ hc) i;simp only[World.cell?]at hc⊢;rw[this];exact hc
def bD7(w:G)(V:dV)(e g x t:Int)(ss:List aB)(ns:List au):Prop:=∀v,Bw w v->Cp 74 #[V] v λz i=>∃b,z=dR (Pz b)/\Bw v i/\Cp 75 #[Pz b] i λz j=>∃p c q d,z=dR (cO e g x t (.S p (J ss) c) (.S q (J ns) d))/\pW (U (Q i)) j p (J ss) c q (J ns) d ss ns/\Bw i j
abbrev M8(w:G)(b:Nat)(v0 v1 v2 v3 v4 v5:dV)(q e g x t:Int)(S N:dV):Prop:=qz w b v0 v1 v2 v3 v4 v5/\SvS w b q e g x t S N
theorem M8.ex{K:Nat}{e x:Int}{S N:dV}(h:M8 w b v0 v1 v2 v3 v4 v5 q e g x t S N)(i:FG K w v)(j:b≠K):M8 v b v0 v1 v2 v3 v4 v5 q e g x t S N:=by
 obtain⟨⟨W,V,R,M,E,D⟩,B,y,u,s,r,o,m⟩:=h;exact⟨⟨i.cell j W,i.cell j V,i.cell j R,i.cell j M,i.cell j E,i.cell j D⟩,i.cell j B,i.cell j y,i.cell j u,i.cell j s,i.cell j r,i.cell j o,i.cell j m⟩
def CpR(w:G)(D:Dk)(e g x t:Int)(ss:List aB)(ns:List au)(q:Int)(z:Ending)(w':G):Prop:=∃m u j s i o p c r d,z=dR (Jq (.S m (J D.l0) u) D.n0 (.S j (J D.l1) s) D.n1 (.S i (J D.l2) o) D.n2 e g x t (.S p (J ss) c) (.S r (J ns) d) q)/\∃B,U (Q w)<=B/\nS (U (Q w)) w' (.S m (J D.l0) u) (.S j (J D.l1) s) (.S i (J D.l2) o) D.l0 D.l1 D.l2/\(∀b,jB (Value.slice m (J D.l0) u)=Y b\/jB (Value.slice j (J D.l1) s)=Y b\/jB (Value.slice i (J D.l2) o)=Y b->b<B)/\pW B w' p (J ss) c r (J ns) d ss ns/\Bw w w'
theorem dn2(V N M:OA)(c0 c1 Z:Nat)(D:Dk)(e g x t q:Int)(p r:OA)(n c m d:Nat)(ss:List aB)(ns:List au)(w:G)(hC:O (bD7 w (cO e g x t (.S p n c) (.S r m d)) e g x t ss ns))(h0:Rd w (.S V (J D.l0) c0) D.l0)(h1:Rd w (.S N (J D.l1) c1) D.l1)(h2:Rd w (.S M (J D.l2) Z) D.l2)(m0:J D.l0<=200000)(m1:J D.l1<=200000)(m2:J D.l2<=200000):dQ dG 29 #[Jq (.S V (J D.l0) c0) D.n0 (.S N (J D.l1) c1) D.n1 (.S M (J D.l2) Z) D.n2 e g x t (.S p n c) (.S r m d) q] w (CpR w D e g x t ss ns q):=by
 obtain⟨W,hW,b1,z1,C1,-⟩:=cR w #[.S V (J D.l0) c0,.I D.n0,.S N (J D.l1) c1,.I D.n1,.S M (J D.l2) Z,.I D.n2,.U e,.U g,.U x,.I t,.S p n c,.S r m d,.U q] 46;let⟨W2,fW,b2,z2,u,T2⟩:=cR W #[ay,.I 0,ay,.I 0,ay,.I 0,.U 0,.U 0,.U 0,.I 0,ay,ay,.U 0] 46;go_in
 go_wp21
 rw[<-hW,<-fW];clear hW fW;have bb:=aj b1 b2;rw[z1]at u;let⟨HC,HR,BV⟩:=gC (λ(v:G)(X:Bw W2 v)=>(λj=>(⟨⟨j.1 0 _ rfl,j.1 1 _ rfl,j.1 2 _ rfl,j.1 3 _ rfl,j.1 4 _ rfl,j.1 5 _ rfl⟩,j.1 12 _ rfl,j.1 6 _ rfl,j.1 7 _ rfl,j.1 8 _ rfl,j.1 9 _ rfl,j.1 10 _ rfl,j.1 11 _ rfl⟩:M8 v (U (Q w)) (.S V (J D.l0) c0) (.I D.n0) (.S N (J D.l1) c1) (.I D.n1) (.S M (J D.l2) Z) (.I D.n2) q e g x t (.S p n c) (.S r m d))) ((C1.H af b2).H af X)) (λ(v:G)(X:Bw W2 v)=>aE (h0.H (aj bb X)) (aE (h1.H (aj bb X)) (aE (h2.H (aj bb X)) (u.H af X)))) (bD (U (Q W2)) W2).drew;clear C1 u h0 h1 h2;refine fw (λv=>M8 v (U (Q w)) (.S V (J D.l0) c0) (.I D.n0) (.S N (J D.l1) c1) (.I D.n1) (.S M (J D.l2) Z) (.I D.n2) q e g x t (.S p n c) (.S r m d)) (HC _ BV) λhS=>?_;let⟨v,fK⟩:=aF W2.drew;rw[<-fK]at BV hS⊢;clear fK;refine iy 0 1 4 5 hS ?_;refine fu 8 9 hS ?_;refine fy 2 (λs hK=>?_);refine ju (bu3 V N M c0 c1 Z rfl rfl rfl) ?_;rintro z v1⟨rfl,az⟩;refine fE ?_;have y:=ai (aj BV az);refine bS hK (HC _ y) λhS=>?_;clear hK s az BV;refine fy 3 (λs hK=>?_);refine ju (cF5 (ae HR _ y).1 (ae HR _ y).2.1 (ae HR _ y).2.2.1 af af af) ?_;rintro z v2⟨P0,C0,P1,C1,P2,u,rfl,O3,aA⟩;refine fE ?_;let⟨B2,O2⟩:=aQ (aj y aA) (O3.h y.size);have L2:=ai (λb(h:jB (Value.slice P0 (J D.l0) C0)=Y b\/jB (Value.slice P1 (J D.l1) C1)=Y b\/jB (Value.slice P2 (J D.l2) u)=Y b)=>show b<U v2.heap by obtain h|h|h:=h;{exact(Own.lt O3.o0 b h).2};{exact(Own.lt O3.o1 b h).2};{exact(Own.lt O3.o2 b h).2})
 refine bS hK (HC _ B2) λhS=>?_;clear hK s aA y O3;refine fy 6 (λs hK=>?_);refine ju (ae hC _ (aj bb B2)) ?_;rintro z v3⟨sb,rfl,aL,HS⟩;refine fE ?_;let⟨B3,z23,O4,pG⟩:=zk (aj B2 aL) aL.size (O2.H aL) HS;refine bS hK (HC _ B3) λhS=>?_;clear hK s aL B2 O2 HS;refine fy 7 (λs hK=>?_);refine ju pG ?_;rintro z v4⟨Ps,Cs,Pn,Cn,rfl,SO,dz⟩;refine fE ?_;let⟨B4,O5,SO2⟩:=gC (aj B3 dz) (O4.H dz) SO;refine bS hK (HC _ B4) λhS=>?_;clear hK s dz O4 pG SO;refine tn 10 hS ?_;refine fy 11 (λs hK=>?_);have ZC:=(ae HR _ B4).2.2.2;have nf:=ZC.2;let⟨n0,n1,n2,n3,n4,n5,n6,n7,n8,n9,na,nb,nc⟩:=eX3 ZC.1;go_simp;have EX:=λ(x0 x1 x2 x3 x4 x5 x6 x7 x8 x9 xd xe xf:dV)=>((((((((((((((show FG (U (Q w)+1) v4 v4 from⟨fS _,λ_ _ _=>rfl⟩).set 0 x0).set 1 x1).set 2 x2).set 3 x3).set 4 x4).set 5 x5).set 6 x6).set 7 x7).set 8 x8).set 9 x9).set 10 xd).set 11 xe).set 12 xf);have B3s:=ai B3.size;refine bS hK (M8.ex (ae HC _ B4) (EX _ _ _ _ _ _ _ _ _ _ _ _ _) af) λhS=>?_;clear hK s hS;refine fQ ?_;go_wp2;refine cX (v:=Jq (.S P0 _ C0) _ (.S P1 _ C1) _ (.S P2 _ u) _ e g x t (.S Ps _ Cs) (.S Pn _ Cn) q) (by simp[results,results29,go_sem,n0,n1,n2,n3,n4,n5,n6,n7,n8,n9,na,nb,nc]) rfl ⟨P0,C0,P1,C1,P2,u,Ps,Cs,Pn,Cn,rfl,U (Q v3),aM (ae B3s),?_,λb h=>mH (ae L2 b h) z23,?_,?_⟩;{
 refine nS.h (B:=U (Q W2)) ?_ af
 iterate 13 refine nS.set ?_ bL _
 exact O5};{refine pW.W SO2 λb az aA=>(EX _ _ _ _ _ _ _ _ _ _ _ _ _).2 b aA (aM (ae B3s))};{
 iterate 13 refine tp ?_ al _
 exact aj bb B4}
def Qn(r:Ending)(w:G)(R:fD×Int×Int):Prop:=∃p c q d,r=dR (dT #[cO R.1.e R.1.g R.1.x R.1.t (.S p (J R.1.E) c) (.S q (J R.1.N) d),.U R.2.1,.I R.2.2])/\nO w (.S p (J R.1.E) c) R.1.E/\iw w (.S q (J R.1.N) d) R.1.N
theorem Qn.no{R:fD×Int×Int}(h:O (R=(uf,0,C))):Qn (dR (dT #[cO 0 0 0 0 ay ay,.U 0,.I C])) w R:=by
 rw[ae h];exact⟨dN,0,dN,0,rfl,(YI).rd,YJ⟩
def Uk(w:G)(sb:Nat)(D:SD):Prop:=∃p c q d,BX w sb [.U D.e,.U D.g,.U D.x,.I D.t,.S p (J D.E) c,.S q (J D.N) d]/\nO w (.S p (J D.E) c) D.E/\iw w (.S q (J D.N) d) D.N
theorem Uk.H(h:Uk w sb D)(i:Bw w w'):Uk w' sb D:=by
 obtain⟨p,c,q,d,o,m,j⟩:=h;exact⟨p,c,q,d,o.H i,m.H i,j.H i⟩
theorem dq7{q:OA}{d n:Nat}(en:J l=n)(hb:aD l)(y:Mg n)(hr:Rd w (.S q n d) l)(x:n<=d)(E:La w q d)(u:zx l o):Cp 95 #[.S q n d] w λr w'=>∃(K S F:Nat)(P V:LI)(p':OA)(i:Nat)(q':OA)(m:Nat)(C:Int),r=dR (dT #[mG K S (.S p' (J P) i) F (.S q' (J V) m) 0 0,.I C])/\(Rd w' (.S p' (J P) i) P/\Rd w' (.S q' (J V) m) V/\J P<=i/\i<=maxLen)/\Bw w w'/\((o=dN/\C=13)\/(o=Y (K,S,F,P,V)/\C=0)):=by
 cases o with
 |none=>
  refine(dq5 en hb y u q d w db hr x E).h ?_;rintro r w'⟨p',i,q',m,B,rfl,-,j,-,oV,s⟩;exact⟨0,0,0,[],[],p',i,q',m,13,rfl,⟨j.rd,oV.rd,de _,j.GR⟩,s,.L ⟨rfl,rfl⟩⟩
 |some o=>
  obtain⟨K,S,F,P,V⟩:=o;refine(dq3 en hb y u q d w db hr x E).h ?_;rintro r w'⟨p',i,q',m,B,rfl,-,j,-,oV,s⟩;exact⟨K,S,F,P,V,p',i,q',m,0,rfl,⟨j.rd,oV.rd,j.cap,j.GR⟩,s,.R ⟨rfl,rfl⟩⟩
theorem dr1(p0 p1 p2:OA)(n0 c0 n1 c1 n2 c2:Nat)(s0 s1 s2:Int)(l0 l1:LI)(e0:Le l0 n0)(e1:Le l1 n1)(w:G)(h0:Rd w (.S p0 n0 c0) l0)(h1:Rd w (.S p1 n1 c1) l1)(m0:Mg n0)(m1:Mg n1)(m2:Mg n2)(k0:n0<=c0)(k1:n1<=c1)(j0:O (c0<=maxLen))(j1:O (c1<=maxLen))(a1:O ((p1=dN/\c1=0)\/∃b o,p1=(Ad b o)))(b0:O (aD l0))(b1:O (aD l1))(dop:LI->Option Rq)(hd:O (∀l,zx l (dop l)))(ok:Bool)(ox:O (sF n0 s0 n1 s1 n2 s2=ok))(R:fD×Int×Int)(eR:O (BN dop l0 l1 ok=R)):dQ dG 51 #[pR (.S p0 n0 c0) s0 (.S p1 n1 c1) s1 (.S p2 n2 c2) s2] w λr w'=>Qn r w' R/\Bw w w':=by
 obtain⟨W0,cT,q0,z0,C0,-⟩:=cR w #[.S p0 n0 c0,.I s0,.S p1 n1 c1,.I s1,.S p2 n2 c2,.I s2] 40;let⟨W1,fT,q1,z1,C1⟩:=Cr W0;rw[z0]at C1 z1;have bW:=aj q0 q1;have HA:=ai (λ(v:G)(hv:Bw W1 v)=>aE ((C0.H af q1).H af hv).c6 (aE (h0.H (aj bW hv)) (aE (h1.H (aj bW hv)) (aE (C1.H hv) (aj bW hv)))));have HZ:=bG z0 z1;clear q0 q1 C0 C1 bW h0 h1 z0 z1;go_in
 go_wp21
 rw[<-cT,<-fT];clear cT fT;refine cL (bT9 af af af) λw1 az=>?_;rw[ae ox];have B1:=ai az;have fI:=az.size;clear az ox;cases ok with
 |false=>
  have N:O (R=(uf,0,1)):=ai (by rw[<-ae eR];rfl);let⟨r0,r1,r2,r3,r4,r5,rf⟩:=(ae HA w1 B1).2.2.2.1.cells;clear fI;go_wp2;exact cX (by simp[results,results51,go_sem,r0,r1,r2,r3,r4,r5]) rfl ⟨Qn.no N,xv ((ae HA w1 B1).2.2.2.2)⟩
 |true=>
  let⟨W2,fW,b2,z2,C2⟩:=Cr w1;have B2:=ai (aj B1 b2);let⟨sb,Dq⟩:=aF (U (Q w1));rw[<-Dq]at C2;have DY:=ai C2;have ZQ:O (U (Q w)+2<=sb/\sb<U (Q W2)):=⟨aM HZ.2,af⟩;obtain⟨⟨i0,i1,i2,i3,i4,i5,-⟩,-⟩:=ae HA W2 B2;clear fI b2 z2 C2 B1;subst fW
  go_upto_if 28 with fail
  clear i0 i1 i2 i3 i4 i5;rw[<-Dq];let⟨W2,fW⟩:=aF (jA w1 (dO #[.U 0,.U 0,.U 0,.I 0,ay,ay] 44));rw[<-fW]at B2 DY ZQ⊢;clear fW Dq
  go_cut[6](λsv wc=>∃(D:SD)(q:Int),sv=.U q/\O (pY l1=Y (D,q))/\O (Uk wc sb D)/\O (Bw W1 wc/\sb<U (Q wc)))
  case first=>(
 by_cases Cd:n1=0;{
 have oQ:¬(0:Int)<(n1:Int):=af;have N:O (pY l1=Y (⟨0,0,0,0,[],[]⟩,0)):=ai (by rw[pY,aK (ae e1▸Cd)]);clear Cd
 go_wp21
 go_meet;exact⟨⟨0,0,0,0,[],[]⟩,0,rfl,N,ai ⟨dN,0,dN,0,DY,(YI).rd,YJ⟩,ai ⟨B2,ZQ.2⟩⟩};{
 have oQ:=uX 0 n1;obtain⟨⟨i0,i1,i2,i3,i4,i5,-⟩,-⟩:=ae HA W2 B2
 go_wp21
 clear i0 i1 i2 i3 i4 i5;by_cases Tt:n1<20;{refine(dr3 Tt).h ?_;rintro r w3⟨p3,c3,rfl,-,aL⟩;have N:O (R=(uf,0,13)):=ai (by rw[<-ae eR];exact Sb (bV7 (ae e1▸Cd) (ae e1▸Tt)));let⟨r0,r1,r2,r3,r4,r5,rf⟩:=(ae HA w3 (aj B2 aL)).2.2.2.1.cells;have BB:=(ae HA w3 (aj B2 aL)).2.2.2.2;clear aL;go_wp2;exact cX (by simp[results,results51,go_sem,r0,r1,r2,r3,r4,r5]) rfl ⟨Qn.no N,xv BB⟩};{
 obtain⟨pb,po,rfl⟩:∃b o,p1=(Ad b o):=by obtain⟨-,h⟩|h:=ae a1;{omega};{exact h}
 have Sy:¬J l1<20:=ae e1▸Tt;refine(dr4 e1 (ae HA W2 B2).2.2.1 b1 af m1 k1 j1).h ?_;intro r w3 hdp;unfold QG at hdp;by_cases hs:uh (num (sub l1 4 12)) (sub l1 16 (n1-4))=l1;{
 rw[aK hs]at hdp;obtain⟨p3,c3,rfl,o3,aL⟩:=hdp;let⟨q,eq⟩:=bu (num (sub l1 4 12));have hq:=Hx (b1.sub 4 12) (by simp[sub];omega);let⟨B,eB⟩:=bu (sub l1 16 (n1-4));rw[eq]at hq;rw[eB]at o3;rw[eq];have HS:O (pY l1=if 2^62<q then dN else(lK B).map λr=>(⟨r.1.1,r.1.2.1,r.1.2.2,0,r.2.1,r.2.2⟩,q)):=by show _=_;by_cases hb:2^62<q;{rw[aK hb,bV9 Sy (eq▸hb)]};{rw[aJ hb,bV4 Sy (ae e1▸hs) (eq▸hb),ae e1,eq,eB]}
 have B3:=ai (aj B2 aL);by_cases Tc:2^62<q;{have N:O (R=(uf,0,13)):=ai (by rw[<-ae eR];exact Sb (by rw[ae HS,aK Tc]));let⟨r0,r1,r2,r3,r4,r5,rf⟩:=(ae HA w3 B3).2.2.2.1.cells;have BB:=(ae HA w3 B3).2.2.2.2;go_wp2;exact cX (by simp[results,results51,go_sem,r0,r1,r2,r3,r4,r5]) rfl ⟨Qn.no N,xv BB⟩};{
 have Al:=ae HS;rw[aJ Tc]at Al;have pG:=ai Al;have HO:=bG o3.rd o3.cap
 go_wp21
 refine(dr5 (ai (by rw[<-eB,Be (by rw[ae e1];omega)];omega)) HO.1 (by show aD B;rw[<-eB];exact b1.sub _ _) af HO.2).h ?_;rintro r w4⟨⟨ps,cs,pn,cn,rfl,Dp⟩,dz⟩;have B4:=ai (aj B3 dz);have L8:=dz.size;cases hP:lK B with
 |none=>
  have N:O (R=(uf,0,13)):=ai (by rw[<-ae eR];exact Sb (by rw[ae pG,hP];rfl));simp only[IM,IN,uf,BJ];obtain⟨W5,Iw,b5,z5,C5,-⟩:=cR w4 #[.U 0,.U 0,.U 0,.I 0,.S ps 0 cs,.S pn 0 cn] 44;let⟨r0,r1,r2,r3,r4,r5,rf⟩:=(ae HA W5 (aj B4 b5)).2.2.2.1.cells;have BB:=(ae HA W5 (aj B4 b5)).2.2.2.2;subst Iw;go_wp2;exact cX (by simp[results,results51,go_sem,r0,r1,r2,r3,r4,r5]) rfl ⟨Qn.no N,xv BB⟩
 |some s=>
  have N:O (pY l1=Y (⟨s.1.1,s.1.2.1,s.1.2.2,0,s.2.1,s.2.2⟩,q)):=ai (by rw[ae pG,hP];rfl);rw[hP]at Dp;simp only[IM,IN]at Dp⊢;obtain⟨⟨e,g,x⟩,ss,ns⟩:=s;simp only at Dp N⊢;let⟨n,en⟩:=cg (J ss);let⟨m,em⟩:=cg (J ns);rw[ae en,ae em]at Dp⊢;obtain⟨W5,Iw,b5,z5,C5,-⟩:=cR w4 #[.U e,.U g,.U x,.I 0,.S ps n cs,.S pn m cn] 44;have X5:=((DY.H aL).H dz).H b5;let⟨r0,r1,r2,r3,r4,r5,rf⟩:=X5.cells;obtain⟨t0,t1,t2,t3,t4,t5,-⟩:=C5.c6;let⟨Z,W⟩:=aF (gL W5 sb (.U e) (.U g) (.U x) (.I 0) (.S ps n cs) (.S pn m cn));have XZ:=X5.put (.U e) (.U g) (.U x) (.I 0) (.S ps n cs) (.S pn m cn);have gj:sb<U (Q w3):=mH ZQ.2 aL.size;have RZ:=(Dp.W (w':=Z) (λy h1 h2=>by rw[W];exact(Hp af).Z (b5.block y h2))).QU;have BZ:Bw W1 Z:=by rw[W];exact(aj (ae B4) b5).Z ((vE _ _ _ _ _ _ _).h (by have:=ZQ.1;have:=HZ.2;omega))
  have zZ:sb<U (Q Z):=by rw[W,Vq];omega
  rw[<-W]at XZ;have HN:=gJ XZ RZ BZ zZ;subst Iw;unfold gL at W
  go_wp21
  rw[<-W];go_meet;refine⟨⟨e,g,x,0,ss,ns⟩,q,rfl,N,ai ⟨ps,cs,pn,cn,?_,?_,?_⟩,HN.2.2⟩;{simp only[ae en,ae em];exact HN.1};{simp only[ae en];exact HN.2.1.1.rd};{simp only[ae em];exact HN.2.1.2}}};{rw[aJ hs]at hdp;obtain⟨p3,c3,rfl,-,aL⟩:=hdp;have N:O (R=(uf,0,13)):=ai (by rw[<-ae eR];exact Sb (bV8 Sy (ae e1▸hs)));let⟨r0,r1,r2,r3,r4,r5,rf⟩:=(ae HA w3 (aj B2 aL)).2.2.2.1.cells;have BB:=(ae HA w3 (aj B2 aL)).2.2.2.2;go_wp2;exact cX (by simp[results,results51,go_sem,r0,r1,r2,r3,r4,r5]) rfl ⟨Qn.no N,xv BB⟩}}})
  case rest=>(
 obtain⟨D,q,rfl,HS,HV,HW⟩:=hcut;have HG:=ai (aS1 b1 (ae e1▸m1) HS);have N:O (∀X:SD×Int,uj dop D q (rl l0)=X->R=(MM X.1,X.2,0)):=λX e=>by rw[<-ae eR];exact av9 HS e
 obtain⟨⟨i0,i1,i2,i3,i4,i5,-⟩,-⟩:=ae HA wc HW.1
 go_wp21
 refine(bU0 (ae HA wc HW.1).2.1 b0 e0 m0 k0 j0).h ?_;rintro r w4⟨pr,cr,vs,rfl,JU,dz⟩;let⟨nr,MF⟩:=cg (J (rl l0));obtain⟨tk,etk⟩:∃k,(mi (rl l0):Int)=k:=⟨_,rfl⟩;have RC:=ai JU.rct;have hnr:nr<=2^21:=by rw[<-ae MF];exact gq (bZ6) (by rw[ae e0];omega)
 rw[ae MF,etk];have HI:=bG (HV.H dz) (aj HW.1 dz);have HL:=bG dz.size HW.2;have Uz:=ai (ar4 b0);let⟨rs,GH⟩:=bu (rl l0);rw[GH]at N RC Uz MF
 go_upto_block 0 with fail
 let⟨X,eX⟩:=cg (uj dop D q rs);have HDX:=ai (ae N X eX);have HGX:O (GQ X.1 X.2):=by show GQ X.1 X.2;rw[<-ae eX];exact ar2 hd _ HG Uz
 clear N
 go_cut[6]from 61 to 106 (λqv wc=>qv=.U X.2/\O (Uk wc sb X.1)/\O (Bw W1 wc/\sb<U (Q wc)))
 case first=>(
 go_wp21
 go_loopw[6,14](λqv iv wr=>∃(j:Nat)(q1:Int)(D1:SD),j<=nr/\qv=.U q1/\iv=.I j/\O (uj dop D1 q1 (jD j rs)=X/\GQ D1 q1)/\O (Uk wr sb D1)/\O (Bw W1 wr/\Fr [44] w4 wr/\sb<U (Q wr))) (λ_ iv _=>nr-(jN (intOf iv)))
 exact⟨0,q,D,de _,rfl,rfl,ai ⟨by rw[yF];exact ae eX,HG⟩,HI.1,ai ⟨HI.2,Fr.refl _ _,mH HL.2 HL.1⟩⟩;{
 clear HI;obtain⟨j,q1,D1,hj,rfl,rfl,HE,HV,HW⟩:=hrel;by_cases aH:j<nr;{
 have dm:=cM j nr;obtain⟨⟨s,M⟩,hr⟩:∃r,rs[j]?=Y r:=⟨_,bN (ae MF▸aH)⟩;have kq:=ae Uz _ (bq hr);obtain⟨rb,ro,rq,rd,rfl,f0,f1,tb,ad,cp⟩:=(RC.T HW.2.1).at hr;simp only at f0 f1 tb cp;have s0':0<=s:=kq.2.2.1;have s1':s<2^64:=kq.2.2.2;let⟨m,em⟩:=cg (J M);rw[ae em]at f1 tb cp;have hm:m<=1000:=ae em▸kq.2.1;have q0:=HE.2.2.1;have q9:=HE.2.2.2;have wj:jY jV ((j:Int)+1)=((j+1:Nat):Int):=by rw[nW _ af];omega
 have wq:jY jU (q1+1)=q1+1:=by rw[wV];omega
 obtain⟨W5,Iw,b5,z5,C5,-⟩:=cR wr #[.U s,.S rq m rd] 92;have g0:=C5.1 0 _ rfl;have g1:=C5.1 1 _ rfl;have I5:=cQ8 (HV.H b5) (aj HW.1 b5) (HW.2.1.Z (Fr.H (T:=[44]) b5)) (tb.1.H b5) (ad.size b5.size) (C5.H af db) (mH HW.2.2 b5.size);have HS:=bG hr kq;have HZ5:=ai z5;clear hr kq tb ad b5 z5 C5;subst Iw;by_cases h1:s<=q1;{have E2:O (uj dop D1 q1 (jD (j+1) rs)=X/\GQ D1 q1):=⟨by rw[<-HE.1,ar1 HS.1 (bT2 h1)],HE.2⟩;go_wp2;go_roundw;exact⟨j+1,q1,D1,af,rfl,by go_num,E2,I5.1,ai ⟨I5.2.1,I5.2.2.1,I5.2.2.2.2.2.2⟩⟩;exact dy};{
 have H1:O (q1<s):=by show _<_;omega
 clear h1;have h1:¬s<=q1:=aM (ae H1)
 go_wp21
 refine(dq7 em HS.2.1 af I5.2.2.2.1 cp I5.2.2.2.2.1 (ae hd M)).h ?_;rintro r w6⟨K,S,F,P,V,p',c',q',d',C,rfl,vm,je,JU⟩;let⟨np,GJ⟩:=cg (J P);let⟨nv,env⟩:=cg (J V);rw[ae GJ,ae env]at vm⊢;obtain⟨W7,hW7,b7,z7,C7,-⟩:=cR w6 #[.I K,.U S,.S p' np c',.I F,.S q' nv d',.U 0,.U 0] 54;have Xm:=aj je b7;have AO:=IV (I5.1.H Xm) (aj I5.2.1 Xm) (I5.2.2.1.Z (Fr.H (T:=[44]) Xm)) (mH I5.2.2.2.2.2.2 Xm.size) (vm.1.H b7) (vm.2.1.H b7);let⟨HOP,yx,HOR⟩:=gC vm.2.2 C7 JU;have g7:=(I5.2.2.2.2.2.1.H (by rw[ae HZ5];omega) Xm).1 0 _ rfl;clear vm je JU b7 z7 C7 Xm g0 g1 f0 f1;subst hW7;by_cases Mo:s≠q1+1\/4611686018427387904<s;{
 have E2:O (X=(D1,q1)):=ai (by rw[<-HE.1,Vj HS.1 (aR3 (by have:=ae H1;simp only;omega) Mo)]);have e:=ae E2;clear HE E2;subst e;by_cases h2:s=q1+1;{
 have h3:2^62<s:=af;have e2:(s != q1+1)=dF:=by simp[h2]
 clear h2 Mo
 go_wp21
 go_meet;exact⟨rfl,AO.1,ai ⟨AO.2.1,AO.2.2.2.1⟩⟩};{
 have e2:(s != q1+1):=by simp[h2]
 clear h2 Mo
 go_wp21
 go_meet;exact⟨rfl,AO.1,ai ⟨AO.2.1,AO.2.2.2.1⟩⟩}};{
 have cK:=bT3 (dop:=dop) (D:=D1) (q:=q1) (r:=(s,M)) (by have:=ae H1;simp only;omega) Mo;simp only at cK;have kJ:=ai cK;have h3:¬2^62<s:=λh=>Mo (.R h);have e2:(s != q1+1)=dF:=by have h2:s=q1+1:=ci4 λh=>Mo (.L h);simp[h2]
 clear Mo cK;obtain⟨hN,rfl⟩|⟨hN,rfl⟩:=ae HOR;{
 have E2:O (X=(D1,q1)):=ai (by rw[<-HE.1,Vj HS.1 (by rw[ae kJ,hN];rfl)]);have e:=ae E2;clear HE E2 hN;subst e
 go_wp21
 go_meet;exact⟨rfl,AO.1,ai ⟨AO.2.1,AO.2.2.2.1⟩⟩};{
 have Wx:zx M (Y (K,S,F,P,V)):=hN▸ae hd M;obtain⟨bP,-⟩:=uZ.byt Wx HS.2.1;have xR:=uZ.parts Wx;simp only at xR;have JT:np<=1000:=by have:=ae GJ;have:=ae em;omega
 have hvn:nv<=1000:=by have:=ae env;have:=ae em;omega
 rw[hN]at kJ;let⟨A,eA⟩:=cg (kG D1 K S F 0 0 P V);have cK:=ae kJ;simp only[Hm,Xo]at cK;rw[ae eA]at cK;have cV7:=ai cK;let⟨ps,cs,pn,cn,XB,rS,rN⟩:=AO.1;let⟨n,en⟩:=cg (J D1.E);let⟨mm,emm⟩:=cg (J D1.N);rw[ae en]at XB rS;rw[ae emm]at XB rN;have HAP:=ai (dq4 HE.2.1 en emm GJ env rS rN AO.2.2.2.2.1 AO.2.2.2.2.2 af af HOP.1 HOP.2 bP eA);obtain⟨r0,r1,r2,r3,r4,r5,-⟩:=XB.cells;obtain⟨o0,o1,o2,o3,o4,o5,o6⟩:_/\_/\_/\_/\_/\_/\_:=⟨yx.1 0 _ rfl,yx.1 1 _ rfl,yx.1 2 _ rfl,yx.1 3 _ rfl,yx.1 4 _ rfl,yx.1 5 _ rfl,yx.1 6 _ rfl⟩;have HXB:=ai XB;clear hN Wx bP xR kJ cK XB rS rN
 go_wp21
 clear r0 r1 r2 r3 r4 r5 o0 o1 o2 o3 o4 o5 o6;refine HAP.h ?_;rintro r w8⟨p8,c8,q8,d8,Dv,Nv,Ev,Qs,rfl,hS8,hN8,tD,tN,tE,F8,b8⟩;obtain⟨y1,x1,rfl⟩:=tD.ds8;obtain⟨y2,x2,rfl,-⟩:=tN.form;obtain⟨y3,x3,rfl,-⟩:=RT.form tE;let⟨v1,ev1⟩:=cg (J A.2.lW);let⟨v2,ev2⟩:=cg (J A.2.iB);let⟨v3,ev3⟩:=cg (J A.2.kF);let⟨n8,en8⟩:=cg (J A.1.E);let⟨m8,em8⟩:=cg (J A.1.N);rw[ae en8]at hS8;rw[ae em8]at hN8;rw[ae ev1,ae ev2,ae ev3,ae en8,ae em8];clear tD tN tE;obtain⟨W9,hW9,b9,z9,C9,-⟩:=cR w8 #[.U A.1.e,.U A.1.g,.U A.1.x,.I A.1.t,.S p8 n8 c8,.S q8 m8 d8] 44;obtain⟨Wa,hWa,ba,za,Ca,-⟩:=cR W9 #[.I A.2.k,.U A.2.i,.U A.2.e,.U A.2.g,.I A.2.n,.S y1 v1 x1,.S y2 v2 x2,.S y3 v3 x3] 50;have b9a:=aj b9 ba;have Ui:=aj b8 b9a;have F9a:=Fr.H (T:=[44]) b9a;have Qv:=gJ (AO.1.H Ui) (aj AO.2.1 Ui) (AO.2.2.1.Z (Fr.H (T:=[44]) Ui)) (mH AO.2.2.2.1 Ui.size);have HXa:=ai (HXB.H Ui);have H9:=bG (hS8.T F9a) (du.T hN8 F9a);have u0:=Ca.1 0 _ rfl;obtain⟨t0,t1,t2,t3,t4,t5,-⟩:=(C9.H af ba).c6;have gA:I Wa (Aw wr 0)=dU s:=by have:=aq g7 Ui;exact this
 rw[z9]at u0;clear hS8 hN8 F8 b8 b9 z9 C9 ba za Ca b9a Ui F9a HXB g7;subst hWa hW9;by_cases hk:A.2.k=0;{
 have cK:CJ dop D1 q1 (s,M)=Y (A.1,s):=by rw[ae cV7,aK hk];rfl
 have E2:O (uj dop A.1 s (jD (j+1) rs)=X/\GQ A.1 s):=⟨by rw[<-HE.1,ar1 HS.1 cK],aR2 hd HE.2 HS.2 cK⟩;let⟨r0,r1,r2,r3,r4,r5,rf⟩:=HXa.cells;let⟨Wb,hWb⟩:=aF (jA (jA w8 (dO #[.U A.1.e,.U A.1.g,.U A.1.x,.I A.1.t,.S p8 n8 c8,.S q8 m8 d8] 44)) (dO #[.I A.2.k,.U A.2.i,.U A.2.e,.U A.2.g,.I A.2.n,.S y1 v1 x1,.S y2 v2 x2,.S y3 v3 x3] 50));let⟨Z,W⟩:=aF (gL Wb sb (.U A.1.e) (.U A.1.g) (.U A.1.x) (.I A.1.t) (.S p8 n8 c8) (.S q8 m8 d8));rw[<-hWb]at HXa Qv H9 gA;have XZ:=HXa.put (.U A.1.e) (.U A.1.g) (.U A.1.x) (.I A.1.t) (.S p8 n8 c8) (.S q8 m8 d8);let⟨cur,J9⟩:=HXa.2;have FZ:Fr [44] Wb Z:=W▸xB J9;have gZ:I Z (Aw wr 0)=dU s:=by rw[W];exact(gG (Hp (aM HW.2.2)) _).Z gA
 have BZ:Bw W1 Z:=by rw[W];exact Qv.2.1.Z ((vE _ _ _ _ _ _ _).h (by have:=ZQ.1;have:=HZ.2;omega))
 have zZ:sb<U (Q Z):=by rw[W,Vq];exact Qv.2.2.2
 rw[<-W]at XZ;have VZ:O (Uk Z sb A.1):=⟨p8,c8,q8,d8,by simp only[ae en8,ae em8];exact XZ,by simp only[ae en8];exact(H9.1.T FZ).rds,by simp only[ae em8];exact du.QT (du.T H9.2 FZ)⟩;have HN:=eG BZ (Qv.2.2.1.Z FZ) zZ;have ek:(A.2.k != 0)=dF:=by simp[hk]
 unfold gL at W;rw[hWb]at W;rw[W]at gZ;clear cK XZ J9 FZ BZ zZ hk HE HXa Qv H9 gA hWb;go_wp2;rw[<-W];go_roundw;exact⟨j+1,s,A.1,af,rfl,by go_num,E2,VZ,HN⟩;exact dy};{
 have E2:O (X=(D1,q1)):=ai (by rw[<-HE.1,Vj HS.1 (by rw[ae cV7,aJ hk];rfl)]);have e:=ae E2;clear HE E2;subst e;have ek:(A.2.k != 0):=by simp[hk]
 clear hk
 go_wp21
 go_meet;exact⟨rfl,Qv.1,ai ⟨Qv.2.1,Qv.2.2.2⟩⟩}}}}};{
 have dm:=ga j nr;have ejn:j=nr:=af;have E2:O (X=(D1,q1)):=ai (by rw[<-HE.1,ejn,<-ae MF,bZ0]);have e:=ae E2;clear HE E2;subst e
 go_wp21
 go_meet;exact⟨rfl,HV,ai ⟨HW.1,HW.2.2⟩⟩}})
 case rest=>(
 obtain⟨rfl,HV,HW⟩:=hcut;let⟨p9,c9,q9,d9,X9,rS,rN⟩:=ae HV;let⟨n,en⟩:=cg (J X.1.E);let⟨m,em⟩:=cg (J X.1.N);rw[ae en]at X9 rS;rw[ae em]at X9 rN;obtain⟨r0,r1,r2,r3,r4,r5,-⟩:=X9.cells;have hV:=HGX.1;have HDU:=ai (eH6 (e:=X.1.e) (g:=X.1.g) (x:=X.1.x) (t:=X.1.t) en em rS rN (by rw[<-ae en];have:=hV.sl;omega) (by rw[<-ae em];have:=hV.nl;omega) (ai λs hs=>⟨(hV.ig s hs).1,λev he=>((hV.ig s hs).2 ev he).2⟩) (ai λnd aI=>(hV.dr nd aI).2));clear X9 rS rN hV
 go_wp21
 clear r0 r1 r2 r3 r4 r5;refine HDU.h ?_;rintro r w9⟨pa,ca,qa,da,B9,Q9,rfl,-,hS9,hN9,km⟩;obtain⟨-,-,-,XR,BB⟩:=ae HA w9 (aj HW.1 km);let⟨r0,r1,r2,r3,r4,r5,rf⟩:=XR.cells;let⟨cur,J9⟩:=XR.2;have F9:=xB (v0:=.U X.1.e) (v1:=.U X.1.g) (v2:=.U X.1.x) (v3:=.I 0) (v4:=.S pa n ca) (v5:=.S qa m da) J9;have HF:=bG (hS9.T F9).rds (du.QT (du.T hN9 F9));clear hS9 hN9 F9 km XR J9;go_wp2;refine cX (v:=dT #[cO X.1.e X.1.g X.1.x 0 (.S pa n ca) (.S qa m da),.U X.2,.I 0]) (by simp[results,results51,go_sem,r0,r1,r2,r3,r4,r5]) rfl ⟨?_,xv BB⟩;rw[ae HDX];refine⟨pa,ca,qa,da,?_,?_,?_⟩;{simp only[MM,iC,ae en,ae em]};{simp only[MM,iC,ae en];exact HF.1};{simp only[MM,iC,ae em];exact HF.2}))
theorem dp5(e g x t:Int)(p q:OA)(c n d m:Nat)(ss:List aB)(ns:List au)(en:Le ss n)(V:Le ns m)(w:G)(h:nM w (.S p n c) ss)(hN:iw w (.S q m d) ns)(R:Mg n)(hm:Mg m)(o:AW ss ns)(ZP:O (∀(i j:Nat)(s s':aB),ss[i]?=Y s->ss[j]?=s'->i<j->s.1≠s'.1))(W:O (Bu ns))(aI:O (∀(i j:Nat)(z z':au),ns[i]?=z->ns[j]?=z'->i<j->z.A≠z'.A)):bD7 w (cO e g x t (.S p n c) (.S q m d)) e g x t ss ns:=λv N=>by
 refine(Yr en V (h.H N) (hN.H N) R hm (λs hs=>(o.s2 s hs).1) ZP (λy B=>⟨(o.n2 y B).1,(o.n2 y B).2.1,(o.n2 y B).2.2.1,(o.n2 y B).2.2.2.1,(o.n2 y B).2.2.2.2.1⟩) W aI).h ?_;rintro r w'⟨b,bs,bn,SB,NB,HB,UB,rfl,cK,hb⟩;have M:J ss<=2^20:=ae en▸R;have E:J ns<=2^20:=ae V▸hm;refine⟨b,rfl,hb,(ap9 (do1 cK hb M E) o.s1 o.n1 M E o.s2 o.n2).h ?_⟩;rintro z u⟨Z,c',X,d',A1,A2,rfl,a1,a2,a3,a4,a5,a6⟩;exact⟨Z,c',X,d',rfl,⟨A1,A2,a1,a2,a3,a4,a5⟩,a6⟩
theorem eC8(e g x:Nat)(t:Int)(he:e<2^64)(D:g<2^64)(y:x<2^64)(p q:OA)(c n d m:Nat)(ss:List aB)(ns:List au)(M:Le ss n)(N:Le ns m)(w:G)(h:nM w (.S p n c) ss)(E:iw w (.S q m d) ns)(B:Mg n)(hm:Mg m)(u:O (Bs ss))(X:O (Bn ns))(r:O (Bu ns))(o:O (Bo ns))(Z:O (∀i∈ns,(0<=i.P/\i.P<2^64)/\0<=i.F/\i.F<2^64))(s:ML w)(R:LI)(V:O (Fg e g x t ss ns=R))(L:Nat)(W:Le R L):cZ6 w (cO e g x t (.S p n c) (.S q m d)) R L:=λv j=>
 co6 he D y M N (h.H j) (E.H j) B hm u X r o Z (s.H j) V W
variable {C:Nat}
theorem Yq{α:Type}{F:α->Nat}(l:List α)(h:∀x∈l,F x<=C):jy F l<=C*J l:=by
 have:=aQ6 C (l.map F) λx j=>by obtain⟨y,i,rfl⟩:=fM.1 j;exact h y i
 rw[iC]at this;exact this
theorem VD.Gz(h:VD D):∀i∈D.N,(0<=i.P/\i.P<2^64)/\0<=i.F/\i.F<2^64:=λi m=>by
 have j:=h.n2 i m;have a:=j.ep;have b:=h.e;have c:=h.g;have l:=j.lk;unfold qW at l;split at l<;>simp only[gP,mn,Gi]at l<;>omega
def dk0:Dk:=⟨[],0,[],0,[],0⟩
theorem ldC(dop:LI->Option Rq):(BN dop l0 l1 dY).2.2=0\/(BN dop l0 l1 dY).2.2=13:=by
 cases hs:pY l1 with
 |none=>rw[Sb hs];exact .R rfl
 |some x=>rw[av9 hs rfl];exact .L rfl
structure LdG(R:fD×Int×Int):Prop where
 v:VD ⟨R.1.e,R.1.g,R.1.x,R.1.t,R.1.E,R.1.N⟩
 q:0<=R.2.1/\R.2.1<=2^62
theorem ldG(o:∀l,zx l (dop l))(s:aD l0)(r:aD l1)(m:Mg (J l1))(i:Bool):LdG (BN dop l0 l1 i):=by
 cases i with
 |false=>rw[dP0];exact⟨VD.zero,Gp 0,Vx _⟩
 | true=>
  cases hs:pY l1 with
  |none=>rw[Sb hs];exact⟨VD.zero,Gp 0,Vx _⟩
  |some x=>
   rw[av9 hs rfl];let⟨j,q⟩:=ar2 o (rl l0) (aS1 r m hs) (ar4 s);exact⟨j.re (Gp _) j.e.2 ⟨Gp 0,Vx _⟩ ⟨Gp 0,Vx _⟩,q⟩
structure SG(S:fD):Prop where
 e:0<=S.e/\S.e<2^64
 g:0<=S.g/\S.g<2^64
 x:0<=S.x/\S.x<2^64
 n:J S.E<=2^20
 m:J S.N<=2^20
 bs:Bs S.E
 bn:Bn S.N
 bv:∀nd∈S.N,aD nd.V
 nu:Bu S.N
 ou:Bo S.N
 ep:∀nd∈S.N,(0<=nd.P/\nd.P<2^64)/\0<=nd.F/\nd.F<2^64
def fD.ok(S:fD):Prop:=nT S.e S.g S.x S.t S.E S.N=dY
def fD.B(S:fD):LI:=sL (jN S.e) (jN S.g) (jN S.x) S.E S.N
theorem VD.sg(h:VD ⟨S.e,S.g,S.x,S.t,S.E,S.N⟩):SG S:=by
 have a:=h.e;have b:=h.g;have c:=h.x;have d:=h.sl;have f:=h.nl;simp only at a b c d f;exact⟨af,af,af,af,af,h.ig,h.dr,λi j=>(h.n2 i j).vb,h.tG,h.yQ,h.Gz⟩
theorem SG.sml(iG:SG S)(h:S.ok):Cx S.E S.N:=aS2 h iG.nu iG.ou iG.ep
theorem SG.IG(iG:SG S)(h:S.ok):AW S.E S.N:=PF h iG.bs iG.bn
theorem SG.bytes(iG:SG S)(h:S.ok):J S.B<=190000/\aD S.B:=by
 have m:=iG.sml h;refine⟨(bT5 m.w).1,?_⟩;rw[fD.B,<-bT6];refine aR5 (aM iG.e) (aM iG.g) (aM iG.x) m.dur λo j=>?_;obtain⟨y,i,rfl⟩:=fM.1 j;have a:=iG.bn y i;have e:=iG.ep y i;have b:=(m.d y i).2.1;exact⟨a.1,iG.bv y i,a.2.1,a.2.2.1,a.2.2.2.1,rfl,iG.ou y i,e.1,e.2,(iG.nu y i).1,b.1,by show y.M<256;omega⟩
theorem SG.enc(iG:SG S)(h:S.ok):Fg S.e S.g S.x S.t S.E S.N=S.B:=by rw[Fg,aK (show nT S.e S.g S.x S.t S.E S.N=dY from h)];rfl
theorem SG.cH3(iG:SG S)(h:S.ok){c d L:Nat}(h1:nM w (.S p (J S.E) c) S.E)(h2:iw w (.S r (J S.N) d) S.N)(i:ML w)(j:Le S.B L):cZ6 w (cO S.e S.g S.x S.t (.S p (J S.E) c) (.S r (J S.N) d)) S.B L:=by
 obtain⟨e,g,x,t,ss,ns⟩:=S;obtain⟨e,rfl⟩:=JK iG.e.1;obtain⟨g,rfl⟩:=JK iG.g.1;obtain⟨x,rfl⟩:=JK iG.x.1;have a:=iG.e;have b:=iG.g;have f:=iG.x;simp only at a b f;exact eC8 e g x t af af af p r c _ d _ ss ns rfl rfl w h1 h2 iG.n iG.m iG.bs iG.bn iG.nu iG.ou iG.ep i _ (iG.enc h) L j
theorem SG.dp6(iG:SG S)(h:S.ok){c d:Nat}(h1:nM w (.S p (J S.E) c) S.E)(h2:iw w (.S r (J S.N) d) S.N):bD7 w (cO S.e S.g S.x S.t (.S p (J S.E) c) (.S r (J S.N) d)) S.e S.g S.x S.t S.E S.N:=dp5 S.e S.g S.x S.t p r c _ d _ S.E S.N rfl rfl w h1 h2 iG.n iG.m (iG.IG h) (ai (iG.IG h).s3) iG.nu (ai (iG.IG h).n3)
def UM(P:Prop)(w:G)(z:Ending)(w':G):Prop:=∃b:Bool,O (b=dY↔P)/\z=dR (jO b)/\Bw w w'
theorem UM.no(h:¬P)(i:Bw w w'):UM P w (dR (jO dF)) w':=⟨dF,⟨λe=>(by cases e),λe=>absurd e h⟩,rfl,i⟩
theorem UM.yes(h:P)(i:Bw w w'):UM P w (dR (jO dY)) w':=⟨dY,⟨λ_=>h,λ_=>rfl⟩,rfl,i⟩
theorem bR5:∀(f:Nat)(t:Option Int){l:LI},aD l->mi (rK t (yl f l))<=J l
 |0,t,l,h=>by simp[yl,rK,mi]
 | f+1,t,l,h=>by
  cases hr:qc l with
  |none=>rw[ao3 hr];simp[rK,mi]
  |some r=>
   rw[U0 hr,rK];split;{have h1:=(Vp h (s:=r.1) (b:=r.2) hr).1;have h2:=bR5 f r.1 (h.drop (J r.2+14));rw[uK]at h2;rw[mi];omega};{simp[mi]}
def LgP(l:LI)(q:Int):Prop:=J l<=4000/\mi (rl l)=J l/\(rl l=[]\/tC (rl l)=q)
def Fs(dop:LI->Option Rq)(D:Dk)(S:fD)(q:Int):Prop:=D.ok/\S.ok/\LgP D.l0 q/\D.n1=J D.l1/\(BN dop D.l0 D.l1 dY).2.2=0/\(BN dop D.l0 D.l1 dY).2.1=q/\(BN dop D.l0 D.l1 dY).1.B=S.B
def IY(B:Nat)(w:G)(m:OA)(s:Nat)(j:OA)(q:Nat)(i:OA)(o:Nat)(p:OA)(c:Nat)(r:OA)(d:Nat)(D:Dk)(S:fD):Prop:=
 nS B w (.S m (J D.l0) s) (.S j (J D.l1) q) (.S i (J D.l2) o) D.l0 D.l1 D.l2/\nM w (.S p (J S.E) c) S.E/\iw w (.S r (J S.N) d) S.N
theorem IY.H{B:Nat}{m j i c d:Nat}{D:Dk}(h:IY B w p0 m p1 j p2 i p c r d D S)(hb:Bw w w'):IY B w' p0 m p1 j p2 i p c r d D S:=⟨h.1.H hb,h.2.1.H hb,h.2.2.H hb⟩
abbrev yA(p0:OA)(c0:Nat)(p1:OA)(c1:Nat)(p2:OA)(c2:Nat)(p:OA)(c:Nat)(r:OA)(d:Nat)(D:Dk)(S:fD)(q:Int):dV:=Jq (.S p0 (J D.l0) c0) D.n0 (.S p1 (J D.l1) c1) D.n1 (.S p2 (J D.l2) c2) D.n2 S.e S.g S.x S.t (.S p (J S.E) c) (.S r (J S.N) d) q
theorem aT.iD(h:aT w b [v0,v1,v2,v3,v4,v5,v6,v7,v8,v9,va,vb,vc]):I w (Ad b 0)=v0/\I w (Ad b 1)=v1/\I w (Ad b 2)=v2/\I w (Ad b 3)=v3/\I w (Ad b 4)=v4/\I w (Ad b 5)=v5/\I w (Ad b 6)=v6/\I w (Ad b 7)=v7/\I w (Ad b 8)=v8/\I w (Ad b 9)=v9/\I w (Ad b 10)=va/\I w (Ad b 11)=vb/\I w (Ad b 12)=vc:=
 ⟨h.1 0 _ rfl,h.1 1 _ rfl,h.1 2 _ rfl,h.1 3 _ rfl,h.1 4 _ rfl,h.1 5 _ rfl,h.1 6 _ rfl,h.1 7 _ rfl,h.1 8 _ rfl,h.1 9 _ rfl,h.1 10 _ rfl,h.1 11 _ rfl,h.1 12 _ rfl⟩
def M6(w:G)(m:OA)(s:Nat)(j:OA)(q:Nat)(i:OA)(o:Nat)(p:OA)(c:Nat)(r:OA)(d:Nat)(D:Dk)(S:fD):Prop:=
 Rd w (.S m (J D.l0) s) D.l0/\Rd w (.S j (J D.l1) q) D.l1/\Rd w (.S i (J D.l2) o) D.l2/\nO w (.S p (J S.E) c) S.E/\iw w (.S r (J S.N) d) S.N
theorem M6.H{m j i c d:Nat}{D:Dk}(h:M6 w p0 m p1 j p2 i p c r d D S)(hb:Bw w w'):M6 w' p0 m p1 j p2 i p c r d D S:=
 ⟨h.1.H hb,h.2.1.H hb,h.2.2.1.H hb,h.2.2.2.1.H hb,h.2.2.2.2.H hb⟩
structure Qg(D:Dk)(S:fD):Prop where
 d:J D.l0+J D.l1+J D.l2<=2^20
 s:Hi S.E S.N<=2^20
abbrev svL(p0:OA)(c0:Nat)(p1:OA)(c1:Nat)(p2:OA)(c2:Nat)(p:OA)(c:Nat)(r:OA)(d:Nat)(D:Dk)(S:fD)(q:Int):List dV:=[.S p0 (J D.l0) c0,.I D.n0,.S p1 (J D.l1) c1,.I D.n1,.S p2 (J D.l2) c2,.I D.n2,.U S.e,.U S.g,.U S.x,.I S.t,.S p (J S.E) c,.S r (J S.N) d,.U q]
theorem eA7{y B E:OA}{s o m c d N M i u j:Nat}{D:Dk}(x1:qy 30 (pR (.S p0 (J D.l0) s) D.n0 (.S p1 (J D.l1) o) D.n1 (.S p2 (J D.l2) m) D.n2) (pR (.S y (J D.l0) N) D.n0 (.S B (J D.l1) M) D.n1 (.S E (J D.l2) i) D.n2) w)(x2:qy 31 (cO S.e S.g S.x S.t (.S p (J S.E) c) (.S r (J S.N) d)) (cO S.e S.g S.x S.t (.S p' (J S.E) u) (.S r' (J S.N) j)) w):qy 10 (yA p0 s p1 o p2 m p c r d D S q) (yA y N B M E i p' u r' j D S q) w:=MA
theorem cG4(N M E p r Z YP YO u o:OA)(X W V c d GW Uc m B y:Nat)(D:Dk)(S:fD)(q:Int)(w:G)(h:M6 w N X M W E V p c r d D S)(j:M6 w Z GW YP Uc YO m u B o y D S)(R:O (Qg D S)):Cp 10 #[yA N X M W E V p c r d D S q,yA Z GW YP Uc YO m u B o y D S q] w (Rb (jO dY) w):=by
 have z:=R.d;let⟨z1,z2,z3,z4⟩:=aQ2 R.s;have k:∀{p q:OA}{c d:Nat}{l:LI},Rd w (.S p (J l) c) l->Rd w (.S q (J l) d) l->J l<=2^20->qy 32 (.S p (J l) c) (.S q (J l) d) w:=λa b hl v i=>MB rfl (a.H i) (b.H i) af;exact eA7 (eB8 (bv2 (k h.1 j.1 af)) (bv2 (k h.2.1 j.2.1 af)) (bv2 (k h.2.2.1 j.2.2.1 af))) (λv i=>ez6 S.e S.g S.x S.t p r u o c (J S.E) d (J S.N) B y S.E S.N rfl rfl v (h.2.2.2.1.H i) (h.2.2.2.2.H i) (j.2.2.2.1.H i) (j.2.2.2.2.H i) z1 z2 z3 z4) w db
theorem Own.hp{B:Nat}{z:dV}(h:Own B w z l)(o:∀b,jB z=Y b->v.heap[b]?=w.heap[b]?):Own B v z l:=by
 refine⟨h.1,?_⟩;obtain s|⟨g,m,j,rfl,r,q,i⟩:=h.2;{exact .L s};{exact .R ⟨g,m,j,rfl,r,(o g rfl).Z q,i⟩}
def uA(B M:Nat)(w:G)(u A2:List Lf)(m:OA)(s:Nat)(j:OA)(q:Nat)(i:OA)(o:Nat)(p:OA)(c:Nat)(r:OA)(d:Nat)(D:Dk)(S:fD):Prop:=
 nS B w (.S m (J D.l0) s) (.S j (J D.l1) q) (.S i (J D.l2) o) D.l0 D.l1 D.l2/\(∀b,jB (Value.slice m (J D.l0) s)=Y b\/jB (Value.slice j (J D.l1) q)=Y b\/jB (Value.slice i (J D.l2) o)=Y b->b<M)/\B<=M/\Cw M w u A2 p (J S.E) c r (J S.N) d S.E S.N
theorem uA.W{B M:Nat}{x u s c d:Nat}{D:Dk}(h:uA B M w A1 A2 p0 x p1 u p2 s p c r d D S)(i:∀b,B<=b->b<U (Q w)->w'.heap[b]?=w.heap[b]?):uA B M w' A1 A2 p0 x p1 u p2 s p c r d D S:=by
 obtain⟨⟨o,m,j,N,E,y⟩,h2,h3,h4⟩:=h;exact⟨⟨o.hp λb e=>i b (o.lt b e).1 (o.lt b e).2,m.hp λb e=>i b (m.lt b e).1 (m.lt b e).2,j.hp λb e=>i b (j.lt b e).1 (j.lt b e).2,N,E,y⟩,h2,h3,h4.W λa q=>i a.b (gq h3 (h4.2.2.2.2.lo a q)) (h4.2.2.2.2.ke.lt q)⟩
theorem uA.H{B M:Nat}{m j i c d:Nat}{D:Dk}(h:uA B M w A1 A2 p0 m p1 j p2 i p c r d D S)(hb:Bw w w'):uA B M w' A1 A2 p0 m p1 j p2 i p c r d D S:=h.W λb _ o=>hb.block b o
theorem uA.rd{B M:Nat}{m j i c d:Nat}{D:Dk}(h:uA B M w A1 A2 p0 m p1 j p2 i p c r d D S):M6 w p0 m p1 j p2 i p c r d D S:=⟨h.1.o0.rd,h.1.o1.rd,h.1.o2.rd,h.2.2.2.rd.1,h.2.2.2.rd.2⟩
theorem uA.lts{B M:Nat}{o m j c d:Nat}{D:Dk}(h:uA B M w A1 A2 p0 o p1 m p2 j p c r d D S):(∀v∈[Value.slice p0 (J D.l0) o,.S p1 (J D.l1) m,.S p2 (J D.l2) j],∀b,jB v=Y b->b<U (Q w))/\∀a∈A1++A2,a.b<U (Q w):=by
 refine⟨λv i b e=>?_,λa q=>h.2.2.2.2.2.2.2.ke.lt q⟩;simp only[gD,aY9,JM]at i;obtain rfl|rfl|rfl:=i;{exact(h.1.o0.lt b e).2};{exact(h.1.o1.lt b e).2};{exact(h.1.o2.lt b e).2}
def Ul(k:Int)(w:G)(i A2:List Lf)(o:OA)(u:Nat)(m:OA)(s:Nat)(j:OA)(q:Nat)(p:OA)(c:Nat)(r:OA)(d:Nat)(D:Dk)(S:fD):Prop:=
 Rd w (.S o (J D.l0) u) (marks k (J D.l0))/\Rd w (.S m (J D.l1) s) (marks (k+J D.l0) (J D.l1))/\Rd w (.S j (J D.l2) q) (marks (k+J D.l0+J D.l1) (J D.l2))/\mF w (.S p (J S.E) c) S.E i/\nG w (.S r (J S.N) d) S.N A2/\jt w (i++A2) (k+J D.l0+J D.l1+J D.l2)
theorem ch1(B M N:Nat)(X A2:List Lf)(o m j p r:OA)(E y u c d:Nat)(D:Dk)(S:fD)(q k:Int)(w:G)(h:uA B M w X A2 o E m y j u p c r d D S)(hz:O (Qg D S))(hA:J X+J A2<=2^22)(hN:O ((∀v∈[Value.slice o (J D.l0) E,.S m (J D.l1) y,.S j (J D.l2) u],∀b,jB v=Y b->b<N)/\∀a∈X++A2,a.b<N))(hNw:N<=U (Q w))(hB:B<=U (Q w))(k0:0<=k)(k1:k<=1000):dQ dG 13 #[yA o E m y j u p c r d D S q,.I k] w λe w'=>e=dR (.I (k+J D.l0+J D.l1+J D.l2+J X+J A2))/\Ul k w' X A2 o E m y j u p c r d D S/\Below B w w'/\∀b,b<U (Q w)->N<=b->w'.heap[b]?=w.heap[b]?:=by
 obtain⟨W,hW,b0,z0,C0,-⟩:=cR w #[.S o (J D.l0) E,.I D.n0,.S m (J D.l1) y,.I D.n1,.S j (J D.l2) u,.I D.n2,.U S.e,.U S.g,.U S.x,.I S.t,.S p (J S.E) c,.S r (J S.N) d,.U q] 46;obtain⟨o3,aH,hBM,lv⟩:=h;have i:=eG (o3.H b0) aH (lv.H b0);have hzd:=hz.d;have HB:=ai b0;go_in
 go_wp21
 rw[<-hW];refine(dL5 B o m j E y u D.n0 D.n1 D.n2 D.l0 D.l1 D.l2 k W i.1 af af af k0 af).h ?_;rintro e w1⟨rfl,o1,g1⟩;have aP:O (∀b,N<=b->∀v∈[Value.slice o (J D.l0) E,.S m (J D.l1) y,.S j (J D.l2) u],jB v≠Y b):=λb hb v R e=>aM (hN.1 v R b e);have L1:=ai (i.2.2.W (w':=w1) (λa s=>g1.block a.b (i.2.2.2.2.2.2.ke.lt s) (λv R e=>by have:=i.2.2.2.2.2.2.lo a s;have:=i.2.1 a.b (by simp only[gD,aY9,JM]at R;obtain rfl|rfl|rfl:=R<;>simp[e]);omega)))
 obtain⟨-,-,-,-,-,-,i6,i7,i8,i9,ia,ib,-⟩:=(C0.dt (g1.block (U (Q w)) af (ae aP (U (Q w)) hNw))).iD;have B1:O (Below B W w1):=g1.H af (λv R b e=>by simp only[gD,aY9,JM]at R;obtain rfl|rfl|rfl:=R;{exact(i.1.o0.lt b e).1};{exact(i.1.o1.lt b e).1};{exact(i.1.o2.lt b e).1})
 have z1:=g1.size;have O1:=ai o1;obtain⟨K,eK⟩:∃K:Int,k+J D.l0+J D.l1+J D.l2=K:=⟨_,rfl⟩;have hK:0<=K/\K<=1050000:=af;rw[eK];have EK:=ai eK
 go_wp21
 obtain⟨-,-,f3,f4,V⟩:=ae L1;refine cL (dK9 S.e S.g S.x S.t p r c (J S.E) d (J S.N) S.E S.N X A2 K w1 f3 f4 (fk.app.1 V.ke).1 (fk.app.1 V.ke).2 af af) λw2 Z=>?_;have hk:∀b:Nat,b<M->b<U (Q w1)->w2.heap[b]?=w1.heap[b]?:=λb h1 h3=>Z.blk b h3 (λa s e=>aM (V.lo a s));have H2:Ul k w2 X A2 o E m y j u p c r d D S:=by have aH:=i.2.1;refine⟨Own.rd (Own.hp O1.o0 (v:=w2) λb e=>hk b (aH b (.L e)) (O1.o0.lt b e).2),Own.rd (Own.hp O1.o1 (v:=w2) λb e=>hk b (aH b (.R (.L e))) (O1.o1.lt b e).2),Own.rd (Own.hp O1.o2 (v:=w2) λb e=>hk b (aH b (.R (.R e))) (O1.o2.lt b e).2),mF.mk f3 Z V.ke,nG.mk f4 Z V.ke,?_⟩;rw[ae EK];exact Z.held V.nd
 go_wp2;go_ret;exact⟨by rw[ae EK];rfl,ae (eG H2 ((HB.h hB).Z (B1.Z (Z.H (λa s=>aM (V.lo a s)) af))) (λb h1 h2=>(Z.blk b af (λa s e=>aM (hN.2 a s))).Z ((g1.block b af (ae aP b h2)).Z (HB.block b h1))))⟩
theorem eg6(m A2:List Lf)(u s o p r:OA)(E B y c d:Nat)(D:Dk)(S:fD)(q k:Int)(w:G)(h:Ul k w m A2 u E s B o y p c r d D S)(Z:O (Qg D S))(hA:J m+J A2<=2^22)(V:0<=k)(k1:k<=1000):dQ dG 16 #[yA u E s B o y p c r d D S q,.I k] w (Rb (.I (k+J D.l0+J D.l1+J D.l2+J m+J A2)) w):=by
 obtain⟨W,hW,i,z0,C0,-⟩:=cR w #[.S u (J D.l0) E,.I D.n0,.S s (J D.l1) B,.I D.n1,.S o (J D.l2) y,.I D.n2,.U S.e,.U S.g,.U S.x,.I S.t,.S p (J S.E) c,.S r (J S.N) d,.U q] 46;obtain⟨h0,h1,h2,h3,h4,h5⟩:=h;have M:=eG (h0.H i) (h1.H i) (h2.H i);have X:=Z.d;go_in
 go_wp21
 rw[<-hW];refine cL (eh0 u s o E B y _ _ _ D.n0 D.n1 D.n2 k W M.1 M.2.1 M.2.2 af af af V af) λN az=>?_;have H:=ai ((λ(v:G)(j:Bw W v)=>aE (C0.H af j) (aE (mF.H h3 (aj i j)) (aE (nG.H h4 (aj i j)) (aE (h5.H (aj i j)) (aj i j))))) N az);obtain⟨-,-,-,-,-,-,i6,i7,i8,i9,ia,ib,-⟩:=H.1.iD;obtain⟨K,R⟩:∃K:Int,k+J D.l0+J D.l1+J D.l2=K:=⟨_,rfl⟩;rw[R]at H⊢;let⟨Tm,hK,pM⟩:0<=K/\¬K<0/\K<=1050000:=af
 go_wp21
 refine cL (eg4 S.e S.g S.x S.t p r c (J S.E) d (J S.N) S.E S.N m A2 K N H.2.1 H.2.2.1 H.2.2.2.1 af af) λw2 aA=>?_;have Ay:¬K+J m+J A2<0:=af;go_wp2;go_ret;exact⟨by rw[R];rfl,aj H.2.2.2.2 aA⟩
theorem Yw{B g:Nat}(i:B<=g):∀(c:List dV)(x:G)(o:Nat),Below B w x->Below B w (QP g x o c)
  |[],x,o,h=>h
  |u::us,x,o,h=>Yw i us _ _ (h.setCell i u)
theorem oq{p:Prop}(h:p:=by((try have:=ae s3);(try have:=ae a0);(try have:=ae x0);(try have:=ae a1);(try have:=ae x1);(try have:=ae a2);(try have:=ae x2);(try have:=ae a3);omega)):p:=h
def ToB(n:Nat)(l:LI)(v:G)(z:Ending)(v':G):Prop:=∃p c A,z=dR (.S p n c)/\PB v' (U (Q v)) (U (Q v')) (.S p n c) l A/\Bw v v'
def ToU(n:Nat)(l:LI)(v:G)(z:Ending)(v':G):Prop:=∃p c A,z=dR (.S p n c)/\PU v' (U (Q v)) (U (Q v')) (.S p n c) l A/\Bw v v'
theorem aO9(h:Rd w (.S p n c) l)(r:J l=n)(x:Mg n)(j:Bw w v):Cp 26 #[.S p n c] v (ToB n l v):=
  (aO8 (h.H j) af).h λz u⟨i,s,e,o,m⟩=>by rw[r]at e o;let⟨A,q⟩:=o.pb;exact⟨i,s,A,e,q,m⟩
theorem PB.kp{v:dV}(h:PB w M N v xs A)(i:∀b,M<=b->w'.heap[b]?=w.heap[b]?):PB w' M N v xs A:=
  have k:∀a∈A,w'.heap[a.b]?=w.heap[a.b]?:=λa j=>i _ (h.ap.lo a j)
  ⟨h.rd.kR h.lv k,h.cap,h.lv,h.ap.W k,h.hi⟩
theorem PU.kp{v:dV}(h:PU w M N v xs A)(i:∀b,M<=b->w'.heap[b]?=w.heap[b]?):PU w' M N v xs A:=
  have k:∀a∈A,w'.heap[a.b]?=w.heap[a.b]?:=λa j=>i _ (h.ap.lo a j)
  ⟨h.rd.kR h.lv k,h.lv,h.ap.W k,h.hi⟩
theorem ZD{w Z:G}(h:∀b,M<=b->Z.heap[b]?=w.heap[b]?:=by(intro b hb;(repeat rw[Rl _ _ _ _ (by simp;omega)]))):∀b,M<=b->Z.heap[b]?=w.heap[b]?:=h
theorem Xj{B:Nat}{w Z:G}(h:Below B w Z:=by(repeat(first|refine tp ?_ (by simp<;>omega) _|assumption))):Below B w Z:=h
theorem Vw{f:Nat}{i:Ending->G->Prop}(h:∀X,X=w->dQ dG f a X i):dQ dG f a w i:=h w rfl
theorem Y6(h:∀Z,Z=w->R e Z):R e w:=h w rfl
theorem knW{w Z:G}(h:∀b,b≠C->Z.heap[b]?=w.heap[b]?:=by(intro b hb;(repeat rw[Rl _ _ _ _ (by simpa using hb)]))):∀b,b≠C->Z.heap[b]?=w.heap[b]?:=h
def EvR(v:G)(y:Ev)(z:Ending)(v':G):Prop:=∃p c l,z=dR (jP #[.I y.1,.S p (J y.2) c])/\Fi v' y [.I y.1,.S p (J y.2) c] l/\gp (U (Q v)) v' l/\Bw v v'
theorem dk8{y:Ev}(h:Rd w (.S p (J y.2) c) y.2)(hn:J y.2<=2^20)(hv:Bw w v):dQ dG 219 #[jP #[.I y.1,.S p (J y.2) c]] v (EvR v y):=by
  obtain⟨W1,fT,X,V,-,-⟩:=cR v #[.I y.1,.S p (J y.2) c] 275;obtain⟨W2,fW,W,u,R,-⟩:=cR W1 #[.I 0,ay] 125;obtain⟨W3,ky,x,s,N,-⟩:=cR W2 #[.I y.1,ay] 125;rw[V]at R u;rw[u]at N s;go_in
  go_wp21
  rw[<-fT,<-fW,<-ky];have E:=aj X (aj W x);refine(aO9 h rfl hn (aj hv E)).h ?_;rintro z w1⟨m,o,A,rfl,hB,hb⟩;have j:=(R.H af x).H af hb;have i:=N.H af hb;have n0:=j.1 0 _ rfl;have n1:=j.1 1 _ rfl;have nf:=j.2;have k0:=i.1 0 _ rfl;have k1:=i.1 1 _ rfl;have kf:=i.2;have r:=ai s;go_wp2;refine cX (v:=jP #[.I y.1,.S m (J y.2) o]) (by simp[results,results219,go_sem,n0,n1]) rfl (Y6 λZ D=>?_);have H:=hB.kp (w':=Z) (by have:=ae r;rw[D];exact ZD);exact⟨m,o,A,rfl,⟨m,o,rfl,H.rd,H.cap,H.lv⟩,H.ap.h (aM (ae r)),by have:=(aj E hb);rw[D];exact Xj⟩
def TR{α:Type}(el:G->α->List dV->List Lf->Prop)(t z n:Nat)(v:G)(l:List α)(i:dV)(wr:G):Prop:=∃k:Nat,k<=n/\i=.I k/\O (DU el t z (U (Q v)) n wr k l)/\Bw v wr
theorem toW{q:Prop}(h':q:=by
    show dQ _ _ _ _ _
    first
      | (have T:List Ev:=l
         let⟨i,hi,jk,fI,gv⟩:=mJ Tryz.infoEv)
      | (have T:List aB:=l
         let⟨i,hi,jk,fI,gv⟩:=mJ Tryz.infoSes)
      | (have T:LI:=l
         let⟨i,hi,jk,fI,gv⟩:=mJ Tryz.infoU64)
      |(obtain⟨i,hi,jk,fI,gv⟩:=mJ Tryz.infoNod)
    go_in;go_wp2_with(first|(at_make;refine wpList_make_full _ rfl _ _ _ rfl (U v.heap) _ i _ _ (by first|exact underlying48|exact underlying41|exact underlying134|exact underlying42) hi jk fI _ _ _ _ n rfl rfl rfl rfl ?b2 ?b3 ?b4 ?_))
    case b2=>rw[gv];omega
    case b3=>unfold maxLen;omega
    case b4=>exact fS _
    intro w1 dw hg;have hb:=af7 hg
    first
      |(have HP:=ai (DU.zero (el:=Fi) l dw))
      |(have HP:=ai (DU.zero (el:=oy) l dw))
      |(have HP:=ai (DU.zero (el:=Tz) l dw))
      |(have HP:=ai (DU.zero (el:=mB) l dw))
    clear hg dw
    go_wp21
    first
      |(go_loopw[4](TR Fi 125 2 n v l) (λiv _=>n-(intOf iv).toNat))
      |(go_loopw[4](TR oy 148 3 n v l) (λiv _=>n-(intOf iv).toNat))
      |(go_loopw[4](TR Tz 27 1 n v l) (λiv _=>n-(intOf iv).toNat))
      |(go_loopw[4](TR mB 149 8 n v l) (λiv _=>n-(intOf iv).toNat))
    {exact⟨0,de _,rfl,HP,hb⟩};{
 obtain⟨k,hk,rfl,HK,aC⟩:=hrel;by_cases aH:k<n;{
 have dm:=cM k n;obtain⟨y,hy⟩:∃y,l[k]?=Y y:=⟨_,bN af⟩;have hm:=bq hy;have HY:=ai hy;have hR:=h.H (aj hv aC)
 first
   | (have T:List Ev:=l
      obtain⟨b,o,iU,rfl,c0,c1,hr⟩:=hR.get hy;obtain⟨pp,pc,m,rfl,em⟩:=hr.fq;obtain rfl:=ae em;clear hy hR
      go_wp21
      refine(dk8 hr (he y hm) db).h ?_;rintro z w2⟨p',c',A,rfl,iW,hA,aA⟩;let⟨HC,kf⟩:=HK.cell aA aH;let⟨u0,k0⟩:=HC 0 af;let⟨u1,k1⟩:=HC 1 af;simp only[Ek]at k0;have HN:=ai (HK.step Fi.W aH HY aA iW rfl hA);have B2:=ai (Yw (fS (U v.heap)) [.I y.1,.S p' (J y.2) c'] w2 (k*2) (aj aC aA));clear HC HK iW hA aA)
   | (have T:List aB:=l
      obtain⟨b,o,iU,rfl,c0,c1,c2,hr⟩:=hR.get hy;obtain⟨pp,pc,rfl,-⟩:=id hr;clear hy hR
      go_wp21
      refine(dk1 hr (he y hm).1 (he y hm).2 db).h ?_;rintro z w2⟨p',c',A,rfl,iW,hA,aA⟩;let⟨HC,kf⟩:=HK.cell aA aH;let⟨u0,k0⟩:=HC 0 af;let⟨u1,k1⟩:=HC 1 af;let⟨u2,k2⟩:=HC 2 af;simp only[Ek]at k0;have HN:=ai (HK.step oy.W aH HY aA iW rfl hA);have B2:=ai (Yw (fS (U v.heap)) [.U y.1,.I y.2.1,.S p' (J y.2.2) c'] w2 (k*3) (aj aC aA));clear HC HK iW hA aA)
   | (have T:LI:=l
      obtain⟨b,o,rfl,c0⟩:=hR.at hy;clear hy hR;let⟨HC,kf⟩:=HK.cell db aH;let⟨u0,k0⟩:=HC 0 af;simp only[Ek]at k0;have HN:=ai (HK.step Tz.W aH HY db ⟨rfl,rfl⟩ rfl (gp.nil _ _));have B2:=ai (Yw (fS (U v.heap)) [.U y] wr (k*1) aC);simp only[El]at HN B2 k0;clear HC HK)
   | (obtain⟨b,o,rfl,hA⟩:=hR.at af
      obtain⟨P,V,H,iU,⟨c0,c1,c2,c3,c4,c5,c6,c7,r0,r1,r4,r7,-⟩⟩:=hA k y hy;obtain⟨p0,e0,m0,rfl,f0⟩:=r0.fq;obtain⟨p1,e1,m1,rfl,f1⟩:=r1.fq;obtain⟨p4,e4,m4,rfl,f4⟩:=r4.fq;obtain⟨p7,e7,m7,rfl,f7⟩:=r7.fq;have f0:=ae f0;have f1:=ae f1;have f4:=ae f4;have f7:=ae f7;subst f0 f1 f4 f7;clear hA;clear hy hR
      go_wp21
      refine(dk6 r0 r1 r4 r7 (he y hm) db).h ?_;rintro z w2⟨q0,d0,q1,d1,q4,d4,q7,d7,A,rfl,iW,hA,aA⟩;let⟨HC,kf⟩:=HK.cell aA aH;let⟨u0,k0⟩:=HC 0 af;let⟨u1,k1⟩:=HC 1 af;let⟨u2,k2⟩:=HC 2 af;let⟨u3,k3⟩:=HC 3 af;let⟨u4,k4⟩:=HC 4 af;let⟨u5,k5⟩:=HC 5 af;let⟨u6,k6⟩:=HC 6 af;let⟨u7,k7⟩:=HC 7 af;simp only[Ek]at k0;have HN:=ai (HK.step mB.W aH HY aA iW rfl hA);have B2:=ai (Yw (fS (U v.heap)) [.S q0 (J y.A) d0,.S q1 (J y.V) d1,.U y.D,.I y.M,.S q4 (J y.y) d4,.U y.P,.U y.F,.S q7 (J y.X) d7] w2 (k*8) (aj aC aA));clear HC HK iW hA aA)
 go_wp2;go_roundw;{exact⟨k+1,af,by go_num,HN,B2⟩};{simp[intOf];omega}};{
 have dm:=ga k n;obtain rfl:k=n:=af;let⟨Ls,ho⟩:=HK.full en;go_wp2;go_ret
 first
   |exact⟨_,_,rfl,ho.ev,aC⟩
   |exact⟨_,_,rfl,ho.se,aC⟩
   |exact⟨_,_,rfl,ho.no,aC⟩
   | (obtain⟨A,hA⟩:=ho.u.pu
      exact⟨_,_,A,rfl,hA,aC⟩)}}):q:=h'
def ToE(n:Nat)(l:List Ev)(v:G)(z:Ending)(v':G):Prop:=∃p c,z=dR (.S p n c)/\(rP v' (.S p n c) l/\∃A,lI v' (.S p n c) l A/\gp (U (Q v)) v' A)/\Bw v v'
theorem dk9{l:List Ev}(h:qI w (.S p n c) l)(en:J l=n)(j:Mg n)(he:∀y∈l,J y.2<=2^20)(hv:Bw w v):Cp 176 #[.S p n c] v (ToE n l v):=toW
def SeR(v:G)(y:aB)(z:Ending)(v':G):Prop:=∃p c l,z=dR (jP #[.U y.1,.I y.2.1,.S p (J y.2.2) c])/\oy v' y [.U y.1,.I y.2.1,.S p (J y.2.2) c] l/\gp (U (Q v)) v' l/\Bw v v'
theorem dk1{y:aB}(h:qI w (.S p (J y.2.2) c) y.2.2)(hn:J y.2.2<=2^20)(he:∀e∈y.2.2,J e.2<=2^20)(hv:Bw w v):dQ dG 116 #[jP #[.U y.1,.I y.2.1,.S p (J y.2.2) c]] v (SeR v y):=by
  obtain⟨W1,fT,q1,X,-,-⟩:=cR v #[.U y.1,.I y.2.1,.S p (J y.2.2) c] 132;obtain⟨W2,fW,q2,s,W,-⟩:=cR W1 #[.U 0,.I 0,ay] 148;obtain⟨W3,ky,E,r,V,-⟩:=cR W2 #[.U y.1,.I y.2.1,ay] 148;rw[X]at W s;rw[s]at V r;go_in
  go_wp21
  rw[<-fT,<-fW,<-ky];have R:=aj q1 (aj q2 E);refine(dk9 h rfl hn he (aj hv R)).h ?_;rintro z u⟨j,m,rfl,⟨hR,A,hL,hA⟩,hb⟩;have D:=(W.H af E).H af hb;have x:=V.H af hb;let⟨n0,n1,n2⟩:=aH4 D.1;have nf:=D.2;let⟨k0,k1,k2⟩:=aH4 x.1;have kf:=x.2;have i:=eG hR hL hA;have o:=ai r;go_wp2;refine cX (v:=jP #[.U y.1,.I y.2.1,.S j (J y.2.2) m]) (by simp[results,results116,go_sem,n0,n1,n2]) rfl (Y6 λZ N=>?_);have kk:∀b,U (Q W3)<=b->Z.heap[b]?=u.heap[b]?:=by have:=ae o;rw[N];exact ZD
  have k:∀a∈A,Z.heap[a.b]?=u.heap[a.b]?:=λa ha=>kk a.b (i.2.2.lo a ha);exact⟨j,m,A,rfl,⟨j,m,rfl,i.1.kR i.2.1 k,lI.W i.2.1 k⟩,(i.2.2.W k).h (aM (ae o)),by have:=(aj R hb);rw[N];exact Xj⟩
def ToS(n:Nat)(l:List aB)(v:G)(z:Ending)(v':G):Prop:=∃p c,z=dR (.S p n c)/\(nM v' (.S p n c) l/\∃A,mF v' (.S p n c) l A/\gp (U (Q v)) v' A)/\Bw v v'
theorem dk2{l:List aB}(h:nO w (.S p n c) l)(en:J l=n)(j:Mg n)(he:∀y∈l,J y.2.2<=2^20/\∀e∈y.2.2,J e.2<=2^20)(hv:Bw w v):Cp 61 #[.S p n c] v (ToS n l v):=toW
theorem fG.u{B:Nat}{v:dV}(h:fG Tz 27 1 B w v l Ls):nR B w v l:=by
  obtain⟨cs,y,s,r,m,j,-⟩:=h;have e:cs=l.map λx=>[Value.U x]:=Ru λi=>by rw[qU];by_cases q:i<J l;{have a:=bN q;have b:=bN (l:=cs) (i:=i) af;rw[a,b];exact vj Y (j i _ _ _ a b (bN (l:=Ls) (i:=i) af)).1};{rw[List.getElem?_eq_none af,List.getElem?_eq_none af];rfl}
  have f:jL cs=l.map (Value.int jU):=by rw[e];clear y s r m j e;induction l with|nil=>rfl|cons x l ih=>simp[ih]
  unfold nR;rw[<-f];exact m
theorem bR3(h:kI w (.S p n c) l)(en:J l=n)(j:Mg n)(hv:Bw w v):Cp 177 #[.S p n c] v (ToU n l v):=toW
theorem aT.c8(h:aT w b [v0,v1,v2,v3,v4,v5,v6,v7]):I w (Ad b 0)=v0/\I w (Ad b 1)=v1/\I w (Ad b 2)=v2/\I w (Ad b 3)=v3/\I w (Ad b 4)=v4/\I w (Ad b 5)=v5/\I w (Ad b 6)=v6/\I w (Ad b 7)=v7/\∀o,jF w (Ad b o)=dF:=
  ⟨h.1 0 _ rfl,h.1 1 _ rfl,h.1 2 _ rfl,h.1 3 _ rfl,h.1 4 _ rfl,h.1 5 _ rfl,h.1 6 _ rfl,h.1 7 _ rfl,h.2⟩
theorem bbX{X:G}(h:O (Bw v X):=by(have:=ae BB;show Below _ _ _;rw[hX];exact Xj)):O (Bw v X):=h
theorem xW{p:Prop}(h:O p:=by(show _=_;rw[hX];simp)):O p:=h
theorem ZE{p:Prop}(h:p:=by(rw[hX];exact knW)):p:=h
theorem b4{b c d:Nat}{P R iO:List dV}(hb:Bw w w')(h:O (Bw v w))(p:O (aT w b P))(r:O (aT w c R))(o:O (aT w d iO))(e:b<U (Q w))(f:c<U (Q w))(g:d<U (Q w)):O (Bw v w')/\O (aT w' b P)/\O (aT w' c R)/\O (aT w' d iO):=⟨aj h hb,p.H e hb,r.H f hb,o.H g hb⟩
def NoR(v:G)(y:au)(z:Ending)(v':G):Prop:=∃o u m s j r i q l,z=dR (jP #[.S o (J y.A) u,.S m (J y.V) s,.U y.D,.I y.M,.S j (J y.y) r,.U y.P,.U y.F,.S i (J y.X) q])/\mB v' y [.S o (J y.A) u,.S m (J y.V) s,.U y.D,.I y.M,.S j (J y.y) r,.U y.P,.U y.F,.S i (J y.X) q] l/\gp (U (Q v)) v' l/\Bw v v'
theorem dk6{p4 p7:OA}{c0 c1 c4 c7:Nat}(r0:Rd w (.S p0 (J y.A) c0) y.A)(r1:Rd w (.S p1 (J y.V) c1) y.V)(r4:kI w (.S p4 (J y.y) c4) y.y)(r7:kI w (.S p7 (J y.X) c7) y.X)(W:J y.A<=2^20/\J y.V<=2^20/\J y.y<=2^20/\J y.X<=2^20)(V:Bw w v):dQ dG 117 #[jP #[.S p0 (J y.A) c0,.S p1 (J y.V) c1,.U y.D,.I y.M,.S p4 (J y.y) c4,.U y.P,.U y.F,.S p7 (J y.X) c7]] v (NoR v y):=by
  obtain⟨W1,fT,b1,z1,m,-⟩:=cR v #[.S p0 (J y.A) c0,.S p1 (J y.V) c1,.U y.D,.I y.M,.S p4 (J y.y) c4,.U y.P,.U y.F,.S p7 (J y.X) c7] 136;obtain⟨W2,fW,b2,z2,o,-⟩:=cR W1 #[ay,ay,.U 0,.I 0,ay,.U 0,.U 0,ay] 149;obtain⟨W3,ky,b3,z3,i,-⟩:=cR W2 #[ay,ay,.U 0,.I 0,ay,.U 0,.U 0,ay] 149;rw[z1]at o z2;rw[z2]at i z3;let⟨BB,m,o,i⟩:=zk (aj b1 (aj b2 b3)) ((m.H af b2).H af b3) (o.H af b3) i;have HR:=gJ r0 r1 r4 r7;have s3:=ai (aY7 z3.C);go_in
  go_wp21
  rw[<-fT,<-fW,<-ky];refine(aO9 HR.1 rfl W.1 (aj V BB)).h ?_;rintro z w0⟨N,d0,A0,rfl,j,hb⟩;let⟨BB,m,o,i⟩:=b4 hb BB m o i oq oq oq;let⟨a0,j⟩:=aQ hb.size j;obtain⟨i0,i1,i2,i3,i4,i5,i6,i7,-⟩:=m.c8;have k0:=i.c8
  go_wp21
  refine Vw λX0 hX=>?_;have r:∀b,b≠U (Q v)+1+1->X0.heap[b]?=w0.heap[b]?:=ZE;have i:=ai (aT.ew i 0 al (.S N (J y.A) d0));rw[<-hX]at i;let⟨m,o,j⟩:=gC (m.dt (r _ af)) (o.dt (r _ af)) (j.kp λb hb=>r b oq);have BB:O (Bw v X0):=bbX;have x0:O (U (Q X0)=U (Q w0)):=xW;refine(aO9 HR.2.1 rfl W.2.1 (aj V BB)).h ?_;rintro z w1⟨E,d1,A1,rfl,q,hb⟩;have j:=ai (j.H hb);let⟨BB,m,o,i⟩:=b4 hb BB m o i oq oq oq;let⟨a1,q⟩:=aQ hb.size q;obtain⟨i0,i1,i2,i3,i4,i5,i6,i7,-⟩:=m.c8;have k0:=i.c8
  go_wp21
  refine Vw λX1 hX=>?_;have r:∀b,b≠U (Q v)+1+1->X1.heap[b]?=w1.heap[b]?:=ZE;have i:=ai (aT.ew (aT.ew (aT.ew i 1 al (.S E (J y.V) d1)) 2 al (.U y.D)) 3 al (.I y.M));rw[<-hX]at i;let⟨m,o,j,q⟩:=zk (m.dt (r _ af)) (o.dt (r _ af)) (j.kp λb hb=>r b oq) (q.kp λb hb=>r b oq);have BB:O (Bw v X1):=bbX;have x1:O (U (Q X1)=U (Q w1)):=xW;refine(bR3 HR.2.2.1 rfl W.2.2.1 (aj V BB)).h ?_;rintro z w2⟨D,d4,A4,rfl,s,hb⟩;let⟨j,q⟩:=aQ (j.H hb) (q.H hb);let⟨BB,m,o,i⟩:=b4 hb BB m o i oq oq oq;let⟨a2,s⟩:=aQ hb.size s;obtain⟨i0,i1,i2,i3,i4,i5,i6,i7,-⟩:=m.c8;have k0:=i.c8
  go_wp21
  refine Vw λX2 hX=>?_;have r:∀b,b≠U (Q v)+1+1->X2.heap[b]?=w2.heap[b]?:=ZE;have i:=ai (aT.ew (aT.ew (aT.ew i 4 al (.S D (J y.y) d4)) 5 al (.U y.P)) 6 al (.U y.F));rw[<-hX]at i;let⟨m,o,j,q,s⟩:=cQ7 (m.dt (r _ af)) (o.dt (r _ af)) (j.kp λb hb=>r b oq) (q.kp λb hb=>r b oq) (s.kp λb hb=>r b oq);have BB:O (Bw v X2):=bbX;have x2:O (U (Q X2)=U (Q w2)):=xW;refine(bR3 HR.2.2.2 rfl W.2.2.2 (aj V BB)).h ?_;rintro z w3⟨q7,d7,A7,rfl,u,hb⟩;let⟨j,q,s⟩:=gC (j.H hb) (q.H hb) (s.H hb);let⟨BB,m,o,i⟩:=b4 hb BB m o i oq oq oq;let⟨a3,u⟩:=aQ hb.size u;obtain⟨i0,i1,i2,i3,i4,i5,i6,i7,-⟩:=m.c8;have k0:=i.c8;let⟨n0,n1,n2,n3,n4,n5,n6,n7,nf⟩:=o.c8;go_wp2;refine cX (v:=jP #[.S N (J y.A) d0,.S E (J y.V) d1,.U y.D,.I y.M,.S D (J y.y) d4,.U y.P,.U y.F,.S q7 (J y.X) d7]) (by simp[results,results117,go_sem,n0,n1,n2,n3,n4,n5,n6,n7]) rfl (Y6 λZ hZ=>?_);have R:∀b,U (Q W3)<=b->Z.heap[b]?=w3.heap[b]?:=by have:=ae s3;rw[hZ];exact ZD
  have j:=j.kp λb hb=>R b oq;have q:=q.kp λb hb=>R b oq;have s:=s.kp λb hb=>R b oq;have u:=u.kp λb hb=>R b oq;refine⟨N,d0,E,d1,D,d4,q7,d7,A0++(A1++(A4++A7)),rfl,⟨N,d0,E,d1,D,d4,q7,d7,A0,A1,A4,A7,rfl,rfl,⟨j.rd,j.cap,j.lv⟩,⟨q.rd,q.lv⟩,⟨s.rd,s.lv⟩,⟨u.rd,u.lv⟩⟩,?_,by have:=ae BB;rw[hZ];exact Xj⟩;have:=ae s3;have:=ae a0;have:=ae x0;have:=ae a1;have:=ae x1;have:=ae a2;have:=ae x2;have:=ae a3;refine(gp.app j.ap (gp.app q.ap (gp.app s.ap u.ap af λa x=>?_) af λa x=>?_) af λa x=>?_).h af;{have:=s.hi a x;omega};{have:=q.hi a x;omega};{have:=j.hi a x;omega}
def ToN(n:Nat)(l:List au)(v:G)(z:Ending)(v':G):Prop:=∃p c,z=dR (.S p n c)/\(iw v' (.S p n c) l/\∃A,nG v' (.S p n c) l A/\gp (U (Q v)) v' A)/\Bw v v'
theorem dk7{l:List au}(h:iw w (.S p n c) l)(en:J l=n)(j:Mg n)(he:∀y∈l,J y.A<=2^20/\J y.V<=2^20/\J y.y<=2^20/\J y.X<=2^20)(hv:Bw w v):Cp 62 #[.S p n c] v (ToN n l v):=toW
def ToT(S:fD)(v:G)(z:Ending)(v':G):Prop:=∃p c r d j i,z=dR (cO S.e S.g S.x S.t (.S p (J S.E) c) (.S r (J S.N) d))/\Cw (U (Q v)) v' j i p (J S.E) c r (J S.N) d S.E S.N/\Bw v v'
theorem Cw.kp{B:Nat}{q:OA}{n c m d:Nat}(h:Cw B w A1 A2 p n c q m d ss ns)(i:∀b,B<=b->w'.heap[b]?=w.heap[b]?):Cw B w' A1 A2 p n c q m d ss ns:=h.W λa j=>i _ (h.2.2.2.2.lo a j)
theorem dj9{c d:Nat}(h1:nO w (.S p (J S.E) c) S.E)(h2:iw w (.S r (J S.N) d) S.N)(hz:Hi S.E S.N<=2^20)(hv:Bw w v):dQ dG 25 #[cO S.e S.g S.x S.t (.S p (J S.E) c) (.S r (J S.N) d)] v (ToT S v):=by
  let⟨m1,m2,m3,m4⟩:=aQ2 hz;obtain⟨W1,fT,b1,z1,q,-⟩:=cR v #[.U S.e,.U S.g,.U S.x,.I S.t,.S p (J S.E) c,.S r (J S.N) d] 31;obtain⟨W2,fW,b2,z2,m,-⟩:=cR W1 #[.U 0,.U 0,.U 0,.I 0,ay,ay] 44;obtain⟨W3,ky,b3,z3,j,-⟩:=cR W2 #[.U S.e,.U S.g,.U S.x,.I S.t,ay,ay] 44;rw[z1]at m z2;rw[z2]at j z3;let⟨BB,q,m,j,s3⟩:=cQ7 (aj b1 (aj b2 b3)) ((q.H af b2).H af b3) (m.H af b3) j (Nat.le_of_eq z3.C);go_in
  go_wp21
  rw[<-fT,<-fW,<-ky];refine(dk2 h1 rfl m1 m3 (aj hv BB)).h ?_;rintro z w0⟨u,y,rfl,⟨N,s,R,V⟩,hb⟩;let⟨BB,q,m,j⟩:=b4 hb BB q m j oq oq oq;have a0:=ai hb.size;have i:=eG N R V;obtain⟨i0,i1,i2,i3,i4,i5,-⟩:=q.c6;have k0:=j.c6
  go_wp21
  refine Vw λX hX=>?_;have j:=ai (aT.ew j 4 al (.S u (J S.E) y));rw[<-hX]at j;have kn:∀b,b≠U (Q v)+1+1->X.heap[b]?=w0.heap[b]?:=ZE;have m:=ai (m.dt (kn _ af));have kk:∀b,U (Q W3)<=b->X.heap[b]?=w0.heap[b]?:=λb hb=>kn b oq;have BB:O (Bw v X):=bbX;have x0:O (U (Q X)=U (Q w0)):=xW;have k:∀a∈s,X.heap[a.b]?=w0.heap[a.b]?:=λa o=>kk _ (i.2.2.lo a o);have i:=eG (i.1.kR i.2.1 k) (mF.W i.2.1 k) (aE (i.2.2.W k) λ(a:Lf)(o:a∈s)=>i.2.2.ke.lt o);refine(dk7 h2 rfl m2 m4 (aj hv BB)).h ?_;rintro z w1⟨E,W,rfl,⟨N,A2,R,V⟩,hb⟩;let⟨BB,m,j⟩:=gC (aj BB hb) (m.H oq hb) (j.H oq hb);have k:∀a∈s,w1.heap[a.b]?=X.heap[a.b]?:=λa o=>hb.block _ (i.2.2.1.ke.lt o);have iY:O (Cw (U (Q W3)) w1 s A2 u (J S.E) y E (J S.N) W S.E S.N):=⟨i.1.kR i.2.1 k,N,mF.W i.2.1 k,R,gp.app (i.2.2.1.W k) V oq λa o=>by have:=i.2.2.2 a o;have:=ae x0;omega⟩;have k0:=j.c6;let⟨n0,n1,n2,n3,n4,n5,nf⟩:=m.c6;go_wp2;refine cX (v:=cO S.e S.g S.x S.t (.S u (J S.E) y) (.S E (J S.N) W)) (by simp[results,results25,go_sem,n0,n1,n2,n3,n4,n5]) rfl (Y6 λZ hZ=>?_);have e:=iY.kp (w':=Z) (by have:=ae s3;rw[hZ];exact ZD);exact⟨u,y,E,W,s,A2,rfl,⟨e.1,e.2.1,e.2.2.1,e.2.2.2.1,e.2.2.2.2.h oq⟩,by have:=ae BB;rw[hZ];exact Xj⟩
def ToR(w:G)(D:Dk)(S:fD)(q:Int)(z:Ending)(w':G):Prop:=∃m u j s i o p c r d,z=dR (yA m u j s i o p c r d D S q)/\(∃M y x,uA (U (Q w)) M w' y x m u j s i o p c r d D S)/\Bw w w'
theorem dk3{R N E c d:Nat}{D:Dk}(h:M6 v p0 R p1 N p2 E p c r d D S)(hz:O (Qg D S)):dQ dG 7 #[yA p0 R p1 N p2 E p c r d D S q] v (ToR v D S q):=by
  obtain⟨W1,fT,b1,z1,m,-⟩:=cR v #[.S p0 (J D.l0) R,.I D.n0,.S p1 (J D.l1) N,.I D.n1,.S p2 (J D.l2) E,.I D.n2,.U S.e,.U S.g,.U S.x,.I S.t,.S p (J S.E) c,.S r (J S.N) d,.U q] 33;obtain⟨W2,fW,b2,z2,j,-⟩:=cR W1 #[ay,.I 0,ay,.I 0,ay,.I 0,.U 0,.U 0,.U 0,.I 0,ay,ay,.U 0] 46;obtain⟨u,ky,b3,z3,i,-⟩:=cR W2 #[ay,.I 0,ay,.I 0,ay,.I 0,.U 0,.U 0,.U 0,.I 0,ay,ay,.U 0] 46;rw[z1]at j z2;rw[z2]at i z3;have b:=aj b1 (aj b2 b3);let⟨BB,m,j,i⟩:=zk b ((m.H af b2).H af b3) (j.H af b3) i;have s3:=ai (aY7 z3.C);go_in
  go_wp21
  rw[<-fT,<-fW,<-ky];refine(dl0 p0 p1 p2 R N E D.n0 D.n1 D.n2 D.l0 D.l1 D.l2 u (h.1.H b) (h.2.1.H b) (h.2.2.1.H b) hz.d).h ?_;rintro z w0⟨W,d0,q1,d1,q2,d2,rfl,o,hb⟩;let⟨BB,m,j,i⟩:=b4 hb BB m j i oq oq oq;have a0:=ai hb.size;let⟨i0,i1,i2,i3,i4,i5,i6,i7,i8,i9,ia,ib,ic⟩:=m.iD;have k0:=i.iD;have kf:=i.2
  go_wp21
  refine Vw λX hX=>?_;have i:=ai (aT.ew (aT.ew (aT.ew (aT.ew (aT.ew (aT.ew i 0 al (.S W (J D.l0) d0)) 1 al (.I D.n0)) 2 al (.S q1 (J D.l1) d1)) 3 al (.I D.n1)) 4 al (.S q2 (J D.l2) d2)) 5 al (.I D.n2));rw[<-hX]at i;have kn:∀b,b≠U (Q v)+1+1->X.heap[b]?=w0.heap[b]?:=ZE;have j:=ai (j.dt (kn _ af));have y:∀b,U (Q u)<=b->X.heap[b]?=w0.heap[b]?:=λb hb=>kn b oq;have BB:O (Bw v X):=bbX;have x0:O (U (Q X)=U (Q w0)):=xW;refine(dj9 (h.2.2.2.1) (h.2.2.2.2) hz.s BB).h ?_;rintro z w1⟨p',c',r',d',A1,A2,rfl,hS,hb⟩;let⟨j,i,K1⟩:=gC (j.H oq hb) (i.H oq hb) (λ(b:Nat)(h1:U (Q u)<=b)(h2:b<U (Q w0))=>(hb.block b (aM (ae x0))).Z (y b h1));have ic:=((m.dt (kn _ af)).H oq hb).1 12 _ rfl;have k0:=i.iD;have kf:=i.2;have n0:=j.iD;have nf:=j.2;go_wp2;refine cX (v:=yA W d0 q1 d1 q2 d2 p' c' r' d' D S q) (by simp[results,results7,go_sem,n0]) rfl (Y6 λZ hZ=>?_);have y:∀b,U (Q u)<=b->Z.heap[b]?=w1.heap[b]?:=by have:=ae s3;rw[hZ];exact ZD
  have hx:=ae x0;have ha:=ae a0;let⟨⟨o0,o1,o2,e1,e2,e3⟩,t0,t1,t2⟩:=ae (gJ o o.o0.lt o.o1.lt o.o2.lt);have k:∀(V:dV),(∀b,jB V=Y b->U (Q u)<=b/\b<U (Q w0))->∀b,jB V=Y b->Z.heap[b]?=w0.heap[b]?:=λV hV b e=>(y b (hV b e).1).Z (ae K1 b (hV b e).1 (hV b e).2);refine⟨W,d0,q1,d1,q2,d2,p',c',r',d',rfl,⟨U (Q X),A1,A2,⟨Own.h (o0.hp (k _ t0)) af,Own.h (o1.hp (k _ t1)) af,Own.h (o2.hp (k _ t2)) af,e1,e2,e3⟩,?_,af,hS.kp λb h=>y b af⟩,by have:=(aj BB hb);rw[hZ];exact Xj⟩;rintro b(e|e|e);{have:=t0 b e;omega};{have:=t1 b e;omega};{have:=t2 b e;omega}
theorem taN(t:TypeId)(w:G):(Instr.typeAssert .nilIface t 107 dY).run dG w=.ok (dT #[jP #[.I 0],jO dF]) w:=by kernel_rfl
theorem taS(t:TypeId)(v:dV)(w:G):(Instr.typeAssert (.iface 107 v) t 107 dY).run dG w=.ok (dT #[v,jO dY]) w:=by kernel_rfl
theorem bS7(P:Program)(b:Nat):∀(vs us i:List dV)(w:G),aT w b (i++us)->J vs=J us->(∀v∈vs,v.oneCell')->∃X,(storeCells (Ad b 0) vs (J i)).run P w=.ok () X/\aT X b (i++vs)/\(∀c,c≠b->X.heap[c]?=w.heap[c]?)/\Below b w X
 |[],us,i,w,h,hl,_=>by
  cases us with
  |nil=>exact⟨w,rfl,h,λ_ _=>rfl,bD _ _⟩
  |cons _ _=>simp at hl
 | v::rest,us,i,w,h,hl,h1=>by
  cases us with
  |nil=>simp at hl
  |cons u us=>
   have j:((Ad b 0):Addr).add (J i)=(Ad b (J i)):=by unfold Addr.add;split<;>simp_all
   have D:(store (((Ad b 0):Addr).add (J i)) v).run P w=.ok () (jS w (Ad b (J i)) v):=by rw[j,run_store P w _ v _ (h1 v al),h.1 (J i) u al];simp[h.2]
   have q:=h.ew (J i) al v;have e:(i++u::us).set (J i) v=(i++[v])++us:=al;rw[e]at q;let⟨X,m,y,s,r⟩:=bS7 P b rest us (i++[v]) _ q (by simpa using hl) (λx B=>h1 x (by simp[B]));refine⟨X,?_,by simpa using y,λc hc=>(s c hc).Z (gh _ _ _ _ hc),Zb (db.setCell (p:=(Ad b (J i))) aU _) r⟩;simp only[fe,List.length_singleton]at m;simp only[storeCells,Ri,D,au0,m]
variable {o:Oper}{a:Act}
theorem ao7{P:Program}{ops:iQ}{iZ:iE}{E:Prop}{t:TypeId}{x y:Operand}(H:aT w b us)(h1:∀v∈vs,v.oneCell')(hl:J vs=J us)(hK:∀X,aT X b vs->(∀c,c≠b->X.heap[c]?=w.heap[c]?)->Below b w X->K (a.put o.dst jQ) X)(ik:o.guard=dN:=by rfl)(ho:o.op=.store t x y:=by rfl)(hx:a.eval x=Pz b:=by rfl)(hy:a.eval y=jP vs.toArray:=by rfl)(hs:(sizeOf t).run P w=.ok (J vs) w:=by kernel_rfl):if jW o (yielded ops a.tmps)then Oper.wp P o a w K iZ else E:=by
 have hw:jW o (yielded ops a.tmps):=by simp[jW,ik]
 let⟨X,x1,x2,x3,x4⟩:=bS7 P b vs us [] w H hl h1;rw[aK hw];have hr:(execOp a.eval o).run P w=.ok .skip X:=by simp only[BJ]at x1;simp only[execOp,ho,hx,hy];simp[Instr.storeAt,Instr.sureAddr,storeVar,hs,Value.cells,x1,go_sem]
 unfold Oper.wp;rw[hr];exact hK X (by simpa using x2) x3 x4
structure sW(P:Program)(ops:iQ)(iZ:Exit->Act->List Frame->G->Prop)(l:iN)(a:Act)(cs:List Frame)(w:G):Prop where
 go:wpOpsS P ops iZ l a cs w
section
variable {P:Program}{ops:iQ}{iZ:Exit->Act->List Frame->World->Prop}{i:Nat}{rest:iN}{a a':Act}{cs rO:List Frame}{w w':World}{o:Oper}{v:Value}
theorem du8(hc:recoverD cs=Y (v,rO))(h:sW P ops iZ rest a' rO w)(ho:ops[i]?=o:=by(simp only[rB,sR,sQ];rfl))(hg:jW o (yielded ops a.tmps):=by kernel_rfl)(hr:(execOp a.eval o).run P w=.ok .recover w:=by kernel_rfl)(ha:a.put o.dst v=a':=by(simp only[Act.put,xa,xb,xc];rfl)):sW P ops iZ (i::rest) a cs w:=by
 constructor;unfold wpOpsS;rw[ho];simp only[hg,qR,hr,hc];subst ha;exact h.go
theorem du7(hc:recoverD cs=dN)(h:sW P ops iZ rest a' cs w)(ho:ops[i]?=o:=by(simp only[rB,sR,sQ];rfl))(hg:jW o (yielded ops a.tmps):=by kernel_rfl)(hr:(execOp a.eval o).run P w=.ok .recover w:=by kernel_rfl)(ha:a.put o.dst .nilIface=a':=by(simp only[Act.put,xa,xb,xc];rfl)):sW P ops iZ (i::rest) a cs w:=by
 constructor;unfold wpOpsS;rw[ho];simp only[hg,qR,hr,hc];subst ha;exact h.go
theorem Gb(v:dV)(w':G)(h:sW P ops iZ rest a' cs w')(ho:ops[i]?=o:=by(simp only[rB,sR,sQ];rfl))(hg:jW o (yielded ops a.tmps):=by kernel_rfl)(hr:(execOp a.eval o).run P w=.ok (.value v) w':=by kernel_rfl)(ha:a.put o.dst v=a':=by(simp only[Act.put,xa,xb,xc];rfl)):sW P ops iZ (i::rest) a cs w:=by
 constructor;unfold wpOpsS;rw[ho];simp only[hg,qR,hr];subst ha;exact h.go
theorem bY3(w':G)(h:sW P ops iZ rest a' cs w')(ho:ops[i]?=o:=by(simp only[rB,sR,sQ];rfl))(hg:jW o (yielded ops a.tmps):=by kernel_rfl)(hr:(execOp a.eval o).run P w=.ok .skip w':=by kernel_rfl)(ha:a.put o.dst jQ=a':=by(simp only[Act.put,xa,xb,xc];rfl)):sW P ops iZ (i::rest) a cs w:=by
 constructor;unfold wpOpsS;rw[ho];simp only[hg,qR,hr];subst ha;exact h.go
theorem bY5(h:iZ .normal a cs w):sW P ops iZ [] a cs w:=by
 constructor;unfold wpOpsS;exact h
end
theorem eQ4(x y z:OA)(w:G):CallsD dG 69 #[dP x,dP y,dP z] .returning w λe u w'=>e=dR (dT #[])/\u=.returning/\Bw w w':=by
 refine callsD_of_wpS func69 rfl λj cs q=>?_;apply wpS_seq;apply wpS_region;rw[ntmps69];show wpOpsS _ _ _ [0,1,2,3,4,5,6,7] {tmps:=#[dP x,dP y,dP z,jQ,jQ,jQ,jQ,jQ,jQ,jQ,jQ,jQ,jQ,jQ,jQ],defers:=[]} _ _;apply sW.go;refine du7 (by simp[recoverD,q]) ?_;refine Gb (dT #[jP #[.I 0],jO dF]) w ?_ (hr:=by simp[go_sem,taN]);refine Gb (dT #[jP #[.I 0],jO dF]) w ?_;refine Gb (jP #[.I 0]) w ?_;refine Gb (jO dF) w ?_;refine Gb (Pz (U (Q w))) (jA w (dO #[.I 0] 107)) ?_;refine bY3 (jS (jA w (dO #[.I 0] 107)) (Aw w 0) (.I 0)) ?_ (hr:=by simp[go_sem]);refine Gb (jO dF) (jS (jA w (dO #[.I 0] 107)) (Aw w 0) (.I 0)) ?_;refine bY5 (wpS_of_wp ?_);have m:Bw w (jS (jA w (dO #[.I 0] 107)) (Aw w 0) (.I 0)):=cY.setCell aU _;generalize jS (jA w (dO #[.I 0] 107)) (Aw w 0) (.I 0)=v at m⊢;go_wp2;exact⟨rfl,.returning,by cases j;simp_all,dT #[],by simp[results,results69,go_sem],rfl,rfl,m⟩
theorem eQ5(B:Nat)(k:Int){u8 u9 ua ub uc r0 r1 r2 r3 r4 r5 r6 r7:dV}(hz:B+1+1+1<U (Q w))(h1:∀v∈[v0,v1,v2,v3,v4,v5,v6,v7,v8,v9,va,vb,vc],v.oneCell')(H0:aT w B [v0,v1,v2,v3,v4,v5,v6,v7,v8,v9,va,vb,vc])(H2:aT w (B+1+1) [u0,u1,u2,u3,u4,u5,u6,u7,u8,u9,ua,ub,uc])(H3:aT w (B+1+1+1) [r0,r1,r2,r3,r4,r5,r6,r7]):CallsD dG 69 #[Pz B,Pz (B+1+1),Pz (B+1+1+1)] (.panicking [{v:=.iface 107 (jP #[.I k]),recovered:=dF}]) w λe u w'=>e=dR (dT #[])/\u=.panicking [{v:=.iface 107 (jP #[.I k]),recovered:=dY}]/\aT w' (B+1+1) [v0,v1,v2,v3,v4,v5,v6,v7,v8,v9,va,vb,vc]/\aT w' (B+1+1+1) [.I k,.U 0,.U 0,.U 0,.I 0,ay,ay,ay]/\Below B w w':=by
 refine callsD_of_wpS func69 rfl λcK5 cs hu=>?_;apply wpS_seq;apply wpS_region;rw[ntmps69];show wpOpsS _ _ _ [0,1,2,3,4,5,6,7] {tmps:=#[Pz B,Pz (B+1+1),Pz (B+1+1+1),jQ,jQ,jQ,jQ,jQ,jQ,jQ,jQ,jQ,jQ,jQ,jQ],defers:=[]} _ _;apply sW.go;refine du8 (by simp only[recoverD,hu];rfl) ?_;refine Gb (dT #[jP #[.I k],jO dY]) w ?_ (hr:=by simp[go_sem,taS]);refine Gb (dT #[jP #[.I k],jO dY]) w ?_;refine Gb (jP #[.I k]) w ?_;refine Gb (jO dY) w ?_;refine Gb (Pz (U (Q w))) (jA w (dO #[.I 0] 107)) ?_;refine bY3 (jS (jA w (dO #[.I 0] 107)) (Aw w 0) (.I k)) ?_ (hr:=by simp[go_sem]);refine Gb (jO dY) (jS (jA w (dO #[.I 0] 107)) (Aw w 0) (.I k)) ?_;refine bY5 (wpS_of_wp ?_);have hb:Bw w (jS (jA w (dO #[.I 0] 107)) (Aw w 0) (.I k)):=cY.setCell aU _;have hf:I (jS (jA w (dO #[.I 0] 107)) (Aw w 0) (.I k)) (Aw w 0)=dI k:=by simp[go_sem]
 generalize jS (jA w (dO #[.I 0] 107)) (Aw w 0) (.I k)=v at hb hf⊢;replace H0:=H0.H af hb;replace H2:=H2.H af hb;replace H3:=H3.H af hb;let⟨i0,i1,i2,i3,i4,i5,i6,i7,i8,i9,ia,ib,ic⟩:=H0.iD;have bd:Bw v v.drew:=mC
 go_wp21
 refine fw (λw'=>I w' (Ad B 0)=v0/\I w' (Ad B 1)=v1/\I w' (Ad B 2)=v2/\I w' (Ad B 3)=v3/\I w' (Ad B 4)=v4/\I w' (Ad B 5)=v5/\I w' (Ad B 6)=v6/\I w' (Ad B 7)=v7/\I w' (Ad B 8)=v8/\I w' (Ad B 9)=v9/\I w' (Ad B 10)=va/\I w' (Ad B 11)=vb/\I w' (Ad B 12)=vc/\I w' (Aw w 0)=dI k) ⟨i0,i1,i2,i3,i4,i5,i6,i7,i8,i9,ia,ib,ic,hf⟩ λhS=>?_;refine iy 0 1 2 3 hS ?_;refine fy 4 λKK hK=>?_;refine ao7 (vs:=[v0,v1,v2,v3,v4,v5,v6,v7,v8,v9,va,vb,vc]) (H2.H (aM hb.size) bd) h1 rfl ?_;intro X x1 x2 x3;refine bS hK (by simp only[gG (x2 B af),gG (x2 (U (Q w)) af)];exact hS) λhS=>?_;clear hK KK;refine fy 5 λKK hK=>?_;refine ao7 (vs:=[.I k,.U 0,.U 0,.U 0,.I 0,ay,ay,ay]) ((H3.H (aM hb.size) bd).dt (x2 _ af)) (by simp[Value.oneCell']) rfl ?_;intro iY y1 y2 y3;refine bS hK (by simp only[gG (y2 B af),gG (y2 (U (Q w)) af)];exact hS) λhS=>?_;clear hK KK;refine fQ ?_;refine⟨rfl,_,rfl,dT #[],by simp[results,results69,go_sem],rfl,rfl,x1.dt (y2 _ af),y1,?_⟩;exact Zb (aY8 (aj hb bd) af) (Zb (aY8 x3 af) (aY8 y3 af))
theorem Vn{iZ:iE}{S:iP}(i j:Nat){o o':Oper}{t t':TypeId}{x y x' y':Operand}{us' vs':List dV}(H:aT w b us)(H':aT w b' us')(aP:b≠b')(hl:J vs=J us/\J vs'=J us'/\(∀v∈vs,v.oneCell')/\∀v∈vs',v.oneCell')(hS:∀w',aT w' b vs->aT w' b' us'\/aT w' b' vs'->(∀c,c≠b->c≠b'->w'.heap[c]?=w.heap[c]?)->S w')(hQ:∀w',aT w' b vs->aT w' b' vs'->(∀c,c≠b->c≠b'->w'.heap[c]?=w.heap[c]?)->(∀B,B<=b->B<=b'->Below B w w')->iZ .normal a w')(nj:Region.ready md ops listed=[i]:=by kernel_rfl)(iK:Region.ready md ops (jI listed i dY)=[j]:=by kernel_rfl)(tF:Region.ready md ops (jI (jI listed i dY) j dY)=[]:=by kernel_rfl)(ho:ops[i]?=o:=by(simp only[rB,sR,sQ];rfl))(xS:ops[j]?=o':=by(simp only[rB,sR,sQ];rfl))(g:o.guard=dN:=by rfl)(g':o'.guard=dN:=by rfl)(d:o.dst=dN:=by rfl)(d':o'.dst=dN:=by rfl)(p:o.op=.store t x y:=by rfl)(p':o'.op=.store t' x' y':=by rfl)(hx:a.eval x=Pz b:=by rfl)(Ie:a.eval x'=Pz b':=by rfl)(hy:a.eval y=jP vs.toArray:=by rfl)(hy':a.eval y'=jP vs'.toArray:=by rfl)(hs:∀w,(sizeOf t).run dG w=.ok (J vs) w:=by(intro _;kernel_rfl))(vk:∀w,(sizeOf t').run dG w=.ok (J vs') w:=by(intro _;kernel_rfl)):wpAnyH dG md ops iZ S 2 listed a w:=by
 have d0:∀v,a.put o.dst v=a:=λv=>by rw[d];rfl
 have d1:∀v,a.put o'.dst v=a:=λv=>by rw[d'];rfl
 refine VA nj al (Vz ho (λKK hK=>?_) fN);refine ao7 H hl.2.2.1 hl.1 ?_ g p hx hy (hs w);intro X x1 x2 x3;rw[d0];refine hK.out _ _ (hS X x1 (.L (H'.dt (x2 b' (JF aP)))) λc h1 _=>x2 c h1) (λ_=>?_);refine VA iK al (Vz xS (λKK hK=>?_) fN);refine ao7 (H'.dt (x2 b' (JF aP))) hl.2.2.2 hl.2.1 ?_ g' p' Ie hy' (vk X);intro iY y1 y2 y3;rw[d1];have k:∀c,c≠b->c≠b'->iY.heap[c]?=w.heap[c]?:=λc h1 h2=>(y2 c h2).Z (x2 c h1);refine hK.out _ _ (hS iY (x1.dt (y2 b aP)) (.R y1) k) (λ_=>?_);exact Zc tF (hQ iY (x1.dt (y2 b aP)) y1 k λB h1 h2=>(x3.h h1).Z (y3.h h2)) _
structure Pt where
 p0:OA
 c0:Nat
 p1:OA
 c1:Nat
 p2:OA
 c2:Nat
 p:OA
 c:Nat
 r:OA
 d:Nat
structure Dm where
 n0:Int
 l1:LI
 n1:Int
 l2:LI
 n2:Int
abbrev uY:=LI×SD×Int
abbrev zL(A:Pt)(M:Dm)(X:uY):dV:=Jq (.S A.p0 (J X.1) A.c0) M.n0 (.S A.p1 (J M.l1) A.c1) M.n1 (.S A.p2 (J M.l2) A.c2) M.n2 X.2.1.e X.2.1.g X.2.1.x X.2.1.t (.S A.p (J X.2.1.E) A.c) (.S A.r (J X.2.1.N) A.d) X.2.2
abbrev D8(A:Pt)(M:Dm)(X:uY):List dV:=[.S A.p0 (J X.1) A.c0,.I M.n0,.S A.p1 (J M.l1) A.c1,.I M.n1,.S A.p2 (J M.l2) A.c2,.I M.n2,.U X.2.1.e,.U X.2.1.g,.U X.2.1.x,.I X.2.1.t,.S A.p (J X.2.1.E) A.c,.S A.r (J X.2.1.N) A.d,.U X.2.2]
abbrev SvE(v:G)(b:Nat)(A:Pt)(M:Dm)(X:uY):Prop:=I v (Ad b 0)=dS A.p0 (J X.1) A.c0/\I v (Ad b 1)=dI M.n0/\I v (Ad b 2)=dS A.p1 (J M.l1) A.c1/\I v (Ad b 3)=dI M.n1/\I v (Ad b 4)=dS A.p2 (J M.l2) A.c2/\I v (Ad b 5)=dI M.n2/\I v (Ad b 6)=dU X.2.1.e/\I v (Ad b 7)=dU X.2.1.g/\I v (Ad b 8)=dU X.2.1.x/\I v (Ad b 9)=dI X.2.1.t/\I v (Ad b 10)=dS A.p (J X.2.1.E) A.c/\I v (Ad b 11)=dS A.r (J X.2.1.N) A.d/\I v (Ad b 12)=dU X.2.2
structure Pr where
 p1:OA
 c1:Nat
 p2:OA
 c2:Nat
 p3:OA
 c3:Nat
abbrev wC(a:Pr)(R:RP):dV:=ij R.k R.i R.e R.g R.n (.S a.p1 (J R.lW) a.c1) (.S a.p2 (J R.iB) a.c2) (.S a.p3 (J R.kF) a.c3)
abbrev Ec(a:Pr)(R:RP):List dV:=[.I R.k,.U R.i,.U R.e,.U R.g,.I R.n,.S a.p1 (J R.lW) a.c1,.S a.p2 (J R.iB) a.c2,.S a.p3 (J R.kF) a.c3]
abbrev RpE(v:G)(b:Nat)(a:Pr)(R:RP):Prop:=I v (Ad b 0)=dI R.k/\I v (Ad b 1)=dU R.i/\I v (Ad b 2)=dU R.e/\I v (Ad b 3)=dU R.g/\I v (Ad b 4)=dI R.n/\I v (Ad b 5)=dS a.p1 (J R.lW) a.c1/\I v (Ad b 6)=dS a.p2 (J R.iB) a.c2/\I v (Ad b 7)=dS a.p3 (J R.kF) a.c3
abbrev zS:List dV:=[ay,.I 0,ay,.I 0,ay,.I 0,.U 0,.U 0,.U 0,.I 0,ay,ay,.U 0]
abbrev zR:List dV:=[.I 0,.U 0,.U 0,.U 0,.I 0,ay,ay,ay]
structure rj where
 K:Int
 S:Int
 F:Int
 E:Int
 G:Int
 P:LI
 V:LI
structure Pq where
 p:OA
 c:Nat
 q:OA
 d:Nat
abbrev BH(a:Pq)(iO:rj):dV:=mG iO.K iO.S (.S a.p (J iO.P) a.c) iO.F (.S a.q (J iO.V) a.d) iO.E iO.G
abbrev NF(a:Pq)(iO:rj):List dV:=[.I iO.K,.U iO.S,.S a.p (J iO.P) a.c,.I iO.F,.S a.q (J iO.V) a.d,.U iO.E,.U iO.G]
def Cy(w:G)(a:Pq)(iO:rj):Prop:=Rd w (.S a.p (J iO.P) a.c) iO.P/\Rd w (.S a.q (J iO.V) a.d) iO.V
theorem Cy.H{a:Pq}{iO:rj}(h:Cy w a iO)(i:Bw w w'):Cy w' a iO:=⟨h.1.H i,h.2.H i⟩
structure OG(a:Pq)(iO:rj):Prop where
 s:0<=iO.S/\iO.S<2^64
 p:J iO.P<=2^20
 v:J iO.V<=2^20
 bp:aD iO.P
 bv:aD iO.V
 c1:J iO.P<=a.c
 c2:a.c<=maxLen
def KI(w:G)(A:Pt)(M:Dm)(X:uY):Prop:=Rd w (.S A.p0 (J X.1) A.c0) X.1/\Rd w (.S A.p1 (J M.l1) A.c1) M.l1/\Rd w (.S A.p2 (J M.l2) A.c2) M.l2/\nM w (.S A.p (J X.2.1.E) A.c) X.2.1.E/\iw w (.S A.r (J X.2.1.N) A.d) X.2.1.N
theorem KI.H{A:Pt}{M:Dm}{X:uY}(h:KI w A M X)(i:Bw w w'):KI w' A M X:=⟨h.1.H i,h.2.1.H i,h.2.2.1.H i,h.2.2.2.1.H i,h.2.2.2.2.H i⟩
structure DmG(M:Dm)(X:uY):Prop where
 d:sF (J X.1) M.n0 (J M.l1) M.n1 (J M.l2) M.n2=dY
 m1:J M.l1<=200000
 m2:J M.l2<=200000
 v:VD X.2.1
 q:0<=X.2.2
 n:J X.1<=4000
abbrev Gc(q:Int)(iO:rj):LI:=vf (q+1) (qd (jN iO.K) (jN iO.S) iO.P (jN iO.F) iO.V)
abbrev Cu(D:SD)(iO:rj):SD×RP:=kG D iO.K iO.S iO.F iO.E iO.G iO.P iO.V
def ui(X:uY)(iO:rj):RP×uY:=
 if(Cu X.2.1 iO).2.k=0/\Ah (jN iO.K)then
  (if 2^62<=X.2.2 then(lD 12,X)else if 4000<J X.1+J (Gc X.2.2 iO)then(lD 11,X)else((Cu X.2.1 iO).2,X.1++Gc X.2.2 iO,(Cu X.2.1 iO).1,X.2.2+1))
 else((Cu X.2.1 iO).2,X.1,(Cu X.2.1 iO).1,X.2.2)
theorem aj7{iO:rj}(h:(Cu D iO).2.k=0):∃k f:Nat,iO.K=k/\1<=k/\k<=13/\(Ah k->qt k iO.S iO.F (J iO.P) (J iO.V) iO.E iO.G/\iO.F=f/\f<=2/\J iO.P<=136/\J iO.V<=40):=by
 obtain⟨K,S,F,E,j,P,V⟩:=iO;unfold Cu kG at h;dsimp only at h⊢;split at h;{cases h};{
 rename_i hf;unfold DK at hf;split at hf;{
 rename_i hk;refine⟨jN K,jN F,af,af,af,λi=>?_⟩;have hf:qt (jN K) S F (J P) (J V) E j:=by simpa using hf
 refine⟨hf,?_⟩;have m:(K=4\/K=5\/K=7\/K=8\/K=9)->J P<=136:=λo=>by simp only[show¬K=1 by omega,show¬K=2 by omega,show¬K=3 by omega,show¬K=12 by omega,↓reduceIte]at h;split at h;{cases h};{unfold zO at h;split at h;{cases h};{rename_i hv;exact Jm (by simpa[BG,show K≠13 by omega]using hv)}}
 obtain⟨k,rfl⟩:∃k:Nat,K=k:=⟨jN K,af⟩;rw[rY]at hf i;obtain rfl|rfl|rfl|rfl|rfl|rfl|rfl|rfl|rfl|rfl|rfl|rfl|rfl:=kinds (k:=k) af af<;>first|(cases i;done)|(simp only[qt,rowOf,Fc,gP,Ro,mn,Gi,JB,false_or,true_or,Ef]at hf;exact⟨af,af,by first|exact m af|omega,af⟩)}
 {simp at hf}}
open Go.Deep
abbrev ew6(k:Int):Ending:=.panicked [{v:=.iface 107 (jP #[.I k]),recovered:=dF}]
def eZ5(w:G)(A:Pt)(M:Dm)(X:uY)(b:LI)(z:Ending)(w':G):Prop:=
 ((∃k,z=ew6 k/\(2^62<=X.2.2/\k=12\/X.2.2<2^62/\4000<J X.1+J (vf (X.2.2+1) b)/\k=11))\/(X.2.2<2^62/\J X.1+J (vf (X.2.2+1) b)<=4000/\∃m s j q i o,z=dR (zL ⟨m,s,j,q,i,o,A.p,A.c,A.r,A.d⟩ M (X.1++vf (X.2.2+1) b,X.2.1,X.2.2+1))/\nS (U (Q w)) w' (.S m (J (X.1++vf (X.2.2+1) b)) s) (.S j (J M.l1) q) (.S i (J M.l2) o) (X.1++vf (X.2.2+1) b) M.l1 M.l2))/\Bw w w'
theorem dz5{A:Pt}{M:Dm}{X:uY}{a:Pq}{iO:rj}{b:LI}(eL:Le b L)(hL:L<=1000)(HB:O (aD b))(h:KI w A M X)(s:O (DmG M X))(hE:O (∀v,Bw w v->Cp 138 #[BH a iO] v λr w'=>∃p' c',r=dR (.S p' L c')/\Own (U (Q v)) w' (.S p' L c') b/\Bw v w')):dQ dG 71 #[zL A M X,BH a iO] w (eZ5 w A M X b):=by
 obtain⟨W0,cT,b0,z0,C0,-⟩:=cR w (D8 A M X).toArray 46;obtain⟨W1,fT,b1,z1,C1,-⟩:=cR W0 (NF a iO).toArray 54;obtain⟨W2,fW,Z,z2,C2,-⟩:=cR W1 zS.toArray 46;rw[z0]at C1 z1;rw[z1]at C2 z2;have W:=aj b0 (aj b1 Z);have q0:=s.q;have m0:=s.n;by_cases hq:2^62<=X.2.2;{go_in;go_wp2;rw[<-cT,<-fT,<-fW];exact⟨rfl,.L ⟨12,rfl,.L ⟨hq,rfl⟩⟩,W⟩};{
 have mQ:X.2.2<2^62:=af;have wq:jY jU (X.2.2+1)=X.2.2+1:=by rw[wV];omega
 let⟨HE,u,HZ⟩:=gC (h.H W) (λ(v:G)(m:Bw W2 v)=>aE (((C0.H af b1).H af Z).H af m) (aE ((C1.H af Z).H af m) (aE (C2.H af m) (aj W m)))) z2;clear C0 C1 C2 b0 b1 Z z0 z1 z2 h W;go_in
 go_wp21
 rw[<-cT,<-fT,<-fW];clear cT fT fW;have HK:O (∀v,Bw W2 v->I v (Aw w 12)=dU X.2.2/\iR v (U (Q w)+1) (.I iO.K) (.U iO.S) (.S a.p (J iO.P) a.c) (.I iO.F) (.S a.q (J iO.V) a.d) (.U iO.E) (.U iO.G)):=λv m=>by have H:=ae u v m;exact⟨H.1.1 12 _ rfl,H.2.1.1 0 _ rfl,H.2.1.1 1 _ rfl,H.2.1.1 2 _ rfl,H.2.1.1 3 _ rfl,H.2.1.1 4 _ rfl,H.2.1.1 5 _ rfl,H.2.1.1 6 _ rfl⟩
 have N:Bw W2 W2.drew:=mC;refine fw (λv=>I v (Aw w 12)=dU X.2.2/\iR v (U (Q w)+1) (.I iO.K) (.U iO.S) (.S a.p (J iO.P) a.c) (.I iO.F) (.S a.q (J iO.V) a.d) (.U iO.E) (.U iO.G)) (HK _ N) λhS=>?_;refine iy 0 1 2 3 hS ?_;refine fy 4 (λKK hK=>?_);refine ju (ae hE _ (ae u _ N).2.2.2) ?_;rintro z v1⟨pa,ca,rfl,oa,az⟩;refine fE ?_;have B1:=aj N az;refine bS hK (HK v1 B1) λhS=>?_;clear hK KK;refine tn 5 hS ?_;refine fy 6 (λKK hK=>?_);refine ju (show Cp 137 #[zQ (X.2.2+1) (.S pa L ca)] v1 _ from co5 eL oa.rd HB af af af) ?_;rintro z j⟨pb,cb,rfl,ob,aA⟩;refine fE ?_;have B2:=aj B1 aA;refine bS hK (HK j B2) λhS=>?_;clear hK KK;refine tn 7 hS ?_;refine fQ ?_;let⟨y,OB⟩:=aQ B2 ob;clear hS oa az aA B1 B2 ob N HB HK;obtain⟨⟨i0,i1,i2,i3,i4,i5,i6,i7,i8,i9,ia,ib,ic⟩,-,-,x⟩:=And.imp (λh:aT j (U (Q w)) _=>h.iD) id (ae u j y);have wf:jY jV ((J X.1:Int)+((L+14:Nat):Int))=(J X.1:Int)+((L+14:Nat):Int):=nW _ af;have EC:O (L+14=J (vf (X.2.2+1) b)):=ai (by rw[ar8,ae eL]);by_cases hf:4000<J X.1+(L+14);{go_wp2;exact⟨rfl,.L ⟨11,rfl,.R ⟨mQ,by rw[<-ae EC];exact hf,rfl⟩⟩,x⟩};{
 have hf':¬(4000:Int)<(J X.1:Int)+((L+14:Nat):Int):=af
 go_wp21
 clear i0 i1 i2 i3 i4 i5 i6 i7 i8 i9 ia ib ic x;have eC:=ae EC;have hB:=OB.rd;rw[eC]at hB⊢;have XJ:=HE.H y;refine(eH8 A.p0 A.p1 A.p2 A.c0 A.c1 A.c2 M.n0 M.n1 M.n2 X.1 M.l1 M.l2 j XJ.1 XJ.2.1 XJ.2.2.1 s.d af s.m1 s.m2 pb (vf (X.2.2+1) b) (X.1++vf (X.2.2+1) b) rfl cb hB (by show _<=_;rw[fe];omega)).h ?_;rintro z v3⟨P0,d0,P1,d1,P2,d2,rfl,O3,aL⟩;obtain⟨H1,-,H2,x⟩:=ae u v3 (aj y aL);let⟨i0,i1,i2,i3,i4,i5,i6,i7,i8,i9,ia,ib,ic⟩:=H1.iD;have jf:=H1.2;have j0:=H2.iD;have kf:=H2.2;have zz:U (Q w)+1+1+1<=U (Q j):=by have:=ae HZ;have:=y.size;omega
 let⟨OO,QC,Nc⟩:=gC O3 x zz;clear O3 aL H1 H2 x XJ HE u hB OB zz;go_wp2;refine cX (v:=zL ⟨P0,d0,P1,d1,P2,d2,A.p,A.c,A.r,A.d⟩ M (X.1++vf (X.2.2+1) b,X.2.1,X.2.2+1)) (by simp[results,results71,go_sem,j0]) rfl ?_;refine⟨.R ⟨mQ,by rw[<-eC];omega,P0,d0,P1,d1,P2,d2,rfl,?_⟩,?_⟩;{
 refine nS.h (B:=U (Q j)) ?_ (aM (ae Nc))
 repeat(refine nS.set ?_ (by have:=ae Nc;simp;omega) _)
 exact OO};{
 repeat(refine tp ?_ (by simp<;>omega) _)
 exact QC}}}
theorem aT.p13{u8 u9 m j i:dV}(h:aT w b [u0,u1,u2,u3,u4,u5,u6,u7,u8,u9,m,j,i]):aT (jS (jS (jS (jS (jS (jS (jS (jS (jS (jS (jS (jS (jS w (Ad b 0) v0) (Ad b 1) v1) (Ad b 2) v2) (Ad b 3) v3) (Ad b 4) v4) (Ad b 5) v5) (Ad b 6) v6) (Ad b 7) v7) (Ad b 8) v8) (Ad b 9) v9) (Ad b 10) va) (Ad b 11) vb) (Ad b 12) vc) b [v0,v1,v2,v3,v4,v5,v6,v7,v8,v9,va,vb,vc]:=(((((((((((((h).ew 0 (by simp) v0).ew 1 (by simp) v1).ew 2 (by simp) v2).ew 3 (by simp) v3).ew 4 (by simp) v4).ew 5 (by simp) v5).ew 6 (by simp) v6).ew 7 (by simp) v7).ew 8 (by simp) v8).ew 9 (by simp) v9).ew 10 (by simp) va).ew 11 (by simp) vb).ew 12 (by simp) vc
theorem aT.p8(h:aT w b [u0,u1,u2,u3,u4,u5,u6,u7]):aT (jS (jS (jS (jS (jS (jS (jS (jS w (Ad b 0) v0) (Ad b 1) v1) (Ad b 2) v2) (Ad b 3) v3) (Ad b 4) v4) (Ad b 5) v5) (Ad b 6) v6) (Ad b 7) v7) b [v0,v1,v2,v3,v4,v5,v6,v7]:=((((((((h).ew 0 (by simp) v0).ew 1 (by simp) v1).ew 2 (by simp) v2).ew 3 (by simp) v3).ew 4 (by simp) v4).ew 5 (by simp) v5).ew 6 (by simp) v6).ew 7 (by simp) v7
theorem aT.p6{v0 v1 v2 v3 v4 v5 v6 v7 x u s r q o m j i xa xb:dV}(h:aT w b [v0,v1,v2,v3,v4,v5,v6,v7,x,u,s,r,q]):aT (jS (jS (jS (jS (jS (jS w (Ad b 6) o) (Ad b 7) m) (Ad b 8) j) (Ad b 9) i) (Ad b 10) xa) (Ad b 11) xb) b [v0,v1,v2,v3,v4,v5,o,m,j,i,xa,xb,q]:=((((((h).ew 6 (by simp) o).ew 7 (by simp) m).ew 8 (by simp) j).ew 9 (by simp) i).ew 10 (by simp) xa).ew 11 (by simp) xb
theorem aT.r8(h:aT w b [v0,v1,v2,v3,v4,v5,v6,v7]):I w (Ad b 0)=v0/\I w (Ad b 1)=v1/\I w (Ad b 2)=v2/\I w (Ad b 3)=v3/\I w (Ad b 4)=v4/\I w (Ad b 5)=v5/\I w (Ad b 6)=v6/\I w (Ad b 7)=v7:=⟨h.1 0 _ rfl,h.1 1 _ rfl,h.1 2 _ rfl,h.1 3 _ rfl,h.1 4 _ rfl,h.1 5 _ rfl,h.1 6 _ rfl,h.1 7 _ rfl⟩
def XQ(w:G):Prop:=I w (Ad 1 0)=Y (.iface 319 (jP #[dP (Ad 5 177)]))
abbrev YR(iO:rj):LI:=qd (jN iO.K) (jN iO.S) iO.P (jN iO.F) iO.V
abbrev EnC(f:Nat)(a:Pq)(iO:rj)(L:Nat)(v:G):Prop:=dQ dG f #[BH a iO] v λr w'=>∃p' c',r=dR (.S p' L c')/\Own (U (Q v)) w' (.S p' L c') (YR iO)/\Bw v w'
theorem cH1{iO:rj}{a:Pq}(M:(Cu D iO).2.k=0)(x:Ah (jN iO.K))(g:OG a iO)(L:Nat)(q:O (J (YR iO)=L)):L<=1000/\aD (YR iO)/\(∀v,uz v->Cy v a iO->EnC 138 a iO L v)/\∀v,Cy v a iO->EnC 59 a iO L v:=by
 let⟨k,f,N,r,j,h⟩:=aj7 M;obtain⟨K,S,F,E,iG,P,V⟩:=iO;obtain⟨hS,o,m,X,W,-,-⟩:=g;dsimp only at*;subst N;rw[rY]at*;let⟨hf,R,y,p1,Z⟩:=h x;subst R;obtain⟨s,rfl⟩:∃s:Nat,S=s:=⟨jN S,af⟩;refine⟨by have:=dG3 k s P f V;have:J (qd k s P f V)=L:=ae q;omega,(show aD (qd k s P f V)from cd6 af af af X W o m),λv B i=>?_,λv i=>?_⟩;{have u:=B k r j;rw[show(rowOf k).2.2.2.2.2.2=dY from x]at u;exact bh4 k r j s f af y P V rfl rfl i.1 i.2 o m u hf q};{exact cm0 j af y rfl rfl i.1 i.2 o m q}
def eY8(w:G)(M:Dm)(Z:RP×uY)(z:Ending)(w':G):Prop:=∃A a,z=dR (dT #[zL A M Z.2,wC a Z.1])/\KI w' A M Z.2/\tY (U (Q w)) w' (wC a Z.1) Z.1/\Bw w w'
def aI1(w:G)(M:Dm)(Z:RP×uY)(i:G):Prop:=∃A a,aT i (U (Q w)+1+1) (D8 A M Z.2)/\aT i (U (Q w)+1+1+1) (Ec a Z.1)/\Bw w i/\∀u,Bw w u->U (Q i)<=U (Q u)->(∀b,U (Q w)+1+1+1<b->b<U (Q i)->u.heap[b]?=i.heap[b]?)->KI u A M Z.2/\tY (U (Q w)) u (wC a Z.1) Z.1
theorem dn3{A:Pt}{M:Dm}{X:uY}{a:Pq}{iO:rj}(hG:O (DmG M X))(g:O (OG a iO))(h:KI w A M X)(hO:Cy w a iO)(hM:ML w)(hT:uz w)(hE:XQ w):Cp 28 #[zL A M X,BH a iO] w (eY8 w M (ui X iO)):=by
 let⟨Z,eZ⟩:=cg (ui X iO);rw[ae eZ];obtain⟨W0,cT,b0,z0,C0,-⟩:=cR w (D8 A M X).toArray 46;obtain⟨W1,fT,b1,z1,C1,-⟩:=cR W0 (NF a iO).toArray 54;obtain⟨W2,fW,b2,z2,C2,-⟩:=cR W1 #[ay,.I 0,ay,.I 0,ay,.I 0,.U 0,.U 0,.U 0,.I 0,ay,ay,.U 0] 46;obtain⟨W3,ky,b3,z3,C3,-⟩:=cR W2 #[.I 0,.U 0,.U 0,.U 0,.I 0,ay,ay,ay] 50;rw[z0]at C1 z1;rw[z1]at C2 z2;rw[z2]at C3 z3;have bW:=aj b0 (aj b1 (aj b2 b3));let⟨HC,HE,HZ,HW⟩:=zk (λ(v:G)(N:Bw W3 v)=>aE ((((C0.H af b1).H af b2).H af b3).H af N) (aE (((C1.H af b2).H af b3).H af N) (aE ((C2.H af b3).H af N) (aE (C3.H af N) (aj bW N))))) (λ(v:G)(N:Bw w v)=>aE (h.H N) (aE (hO.H N) (aE (hM.H N) (aE (show uz v fromλk i1 i2=>(hT k i1 i2).H N) (show XQ v from aq hE N))))) z3 bW;clear C0 C1 C2 C3 b0 b1 b2 b3 z0 z1 z2 z3 h hO hM hT hE bW;have hmf:∀(fn:Fn)(first cap:iA)(w:G),(Instr.makeFunc fn first cap).run dG w=.ok (.func fn first cap) w:=λ_ _ _ _=>rfl
 go_enter_defers func28,ntmps28
 go_wp21
 rw[<-cT,<-fT,<-fW,<-ky];clear cT fT fW ky;have E3:=ae HE W3 HW;have hV:=hG.v;obtain⟨m,eA⟩:∃m,O (Cu X.2.1 iO=m):=⟨_,di⟩;have hsl:=hV.sl;have Mh:=hV.nl;refine(dV9 X.2.1.e X.2.1.g X.2.1.x X.2.1.t A.p _ A.c A.r _ A.d X.2.1.E X.2.1.N rfl rfl iO.K iO.S iO.F iO.E iO.G a.p _ a.c a.q _ a.d iO.P iO.V rfl rfl W3 E3.1.2.2.2.1 E3.1.2.2.2.2 E3.2.1.1 E3.2.1.2 af af g.p g.c1 g.c2 hV.ig hV.dr hV.tG hV.yQ E3.2.2.1 E3.2.2.2.1 E3.2.2.2.2 g.bp g.s (ai ⟨hV.g.1,hV.x.1⟩) m ((hV.ap _ _ _ _ _ _ _).Z eA)).h ?_;clear E3 hV hsl Mh;rintro z v1⟨⟨p',c',r',d',v,B5,w6,rfl,⟨Mu,hB6⟩,hL,hz6,As,A1,A2,S1⟩,az⟩;have R1:=(hL.W As hz6).h Mu;obtain⟨q1,e1,q2,e2,q3,e3,L1,L2,L3,ev,-⟩:=id hL;subst ev;clear hL As;have S1:Cw (U (Q W3)) v1 A1 A2 p' (J m.1.E) c' r' (J m.1.N) d' m.1.E m.1.N:=⟨S1.1,S1.2.1,S1.2.2.1,S1.2.2.2.1,S1.2.2.2.2.h hB6⟩;obtain⟨V1,xY,bv,zv,CV,-⟩:=cR v1 #[.U m.1.e,.U m.1.g,.U m.1.x,.I m.1.t,.S p' (J m.1.E) c',.S r' (J m.1.N) d'] 44;have W:=aj az bv;let⟨H0,H1,H2,H3,BB⟩:=ae HC V1 W;let⟨i0,i1,i2,i3,i4,i5,i6,i7,i8,i9,ia,ib,ic⟩:=H0.iD;let⟨j0,j1,j2,j3,j4,j5,j6,j7,j8,j9,ja,jb,jc⟩:=H2.iD;have jf:=H2.2;have kf:=H3.2;have oo:=aE (H1.1 0 _ rfl) (aE (H1.1 1 _ rfl) (aE (H1.1 2 _ rfl) (aE (H1.1 3 _ rfl) (aE (H1.1 4 _ rfl) (aE (H1.1 5 _ rfl) (H1.1 6 _ rfl))))));have kk:=H3.r8;have KR:=bG (S1.H bv) (R1.W (λb _ hl=>bv.block b hl) bv.size);have KH:=gJ H0 H2 H3 CV;let⟨B1,QC⟩:=aQ az BB;have Nd:O (U (Q w)+1+1+1<U (Q v1)):=by show _<_;have:=ae HZ;have:=az.size;omega
 have ZV:=ai zv;clear H0 H1 H2 H3 BB S1 R1 az W bv CV zv HC Mu hB6 hz6;by_cases hj:m.2.k=0/\Ah (jN iO.K)=dY
 case' pos=>
  have si:(m.2.k==0):=by simp[hj.1]
  have HJ:=ai hj;obtain⟨k,f,ek,k1,k2,-⟩:=aj7 (D:=X.2.1) (iO:=iO) (ae eA▸hj.1);have t6:I V1 (Ad 0 (jN iO.K*7+6))=Y (jO dY):=(((ae HE V1 QC).2.2.2.1 (jN iO.K) af af).2.2.2.2.2.2).Z (vj (λb=>Y (Value.bool b)) hj.2);let⟨l1,l2,l3⟩:0<=iO.K/\iO.K<14/\jN iO.K<14:=af;clear ek k1 k2 hj;subst xY
  go_wp21
  refine Vw λiY hX=>?_;have F0:O (aT iY (U (Q w)) (D8 A M X)):=by
   show aT _ _ _;refine KH.1.dt ?_;rw[hX]
   iterate 21 (refine(gh _ _ _ _ (by dsimp only;omega)).Z ?_)
   rfl
  have BX:O (Bw w iY):=by
   show Below _ _ _;rw[hX]
   iterate 21 (refine Below.setCell ?_ (by dsimp only;omega) _)
   exact QC
  have F2:O (aT iY (U (Q w)+1+1) (D8 A M X)):=by
   show aT _ _ _;rw[hX];refine aT.p13 (aT.dt KH.2.1 ?_)
   iterate 8 (refine(gh _ _ _ _ (by dsimp only;omega)).Z ?_)
   rfl
  have F3:O (aT iY (U (Q w)+1+1+1) (Ec ⟨q1,e1,q2,e2,q3,e3⟩ m.2)):=by
   show aT _ _ _;rw[hX];refine aT.dt (aT.p8 KH.2.2.1) ?_
   iterate 13 (refine(gh _ _ _ _ (by dsimp only;omega)).Z ?_)
   rfl
  have FK:O (∀b,U (Q w)+1+1+1<b->iY.heap[b]?=(jA v1 (dO #[.U m.1.e,.U m.1.g,.U m.1.x,.I m.1.t,.S p' (J m.1.E) c',.S r' (J m.1.N) d'] 44)).heap[b]?):=λb hb=>by
   rw[hX]
   iterate 21 (refine(gh _ _ _ _ (by dsimp only;omega)).Z ?_)
   rfl
  have zX:U (Q iY)=U (Q (jA v1 (dO #[.U m.1.e,.U m.1.g,.U m.1.x,.I m.1.t,.S p' (J m.1.E) c',.S r' (J m.1.N) d'] 44))):=by rw[hX];simp
  have z3:=ae HZ;have fI:=ae Nd;have FV:=ai (KH.2.2.2.dt (ae FK (U (Q v1)) Nd));have SX:=bG (KR.1.kp λb hb=>ae FK b af) (KR.2.W (λb hb _=>ae FK b af) af);have ZX:O (U (Q v1)<U (Q iY)):=by show _<_;have:=ae ZV;omega
  clear fI hX KH KR QC t6 i0 i1 i2 i3 i4 i5 i6 i7 i8 i9 ia ib ic j0 j1 j2 j3 j4 j5 j6 j7 j8 j9 ja jb jc oo kk jf kf zX z3 FK ZV;have E:=ae HE iY BX;let⟨L,eL⟩:=cg (J (YR iO));obtain⟨hL,hBy,hEn,-⟩:=cH1 (D:=X.2.1) (ae eA▸HJ.1) HJ.2 g L eL;refine(dz5 eL hL hBy E.1 hG (ai λv N=>hEn v (λk i1 i2=>(E.2.2.2.1 k i1 i2).H N) (E.2.1.H N))).h ?_;clear E hBy hEn hL eL;rintro z v2⟨hR,W⟩;have zz:=ae ZX;have z3:=ae HZ;have fI:=ae Nd;have BB:=aj BX W;have G0:=F0.H af W;have G2:=F2.H af W;have G3:=F3.H af W;have GV:=FV.H af W;have GS:=aE (SX.1.H W) (SX.2.W (λb _ hl=>W.block b hl) W.size);have z2:=W.size;clear F0 F2 F3 FV SX BX ZX HW W l1 l2 l3 si;obtain⟨k,rfl,hk⟩|⟨hq,hf,P0,f0,P1,f1,P2,f2,rfl,O3⟩:=hR;{
 have HS:O (Z=(lD k,X)):=by show _=_;rw[<-ae eZ];unfold ui;rw[ae eA,aK (ae HJ)];obtain⟨h1,rfl⟩|⟨h1,h2,rfl⟩:=hk;{rw[aK h1]};{rw[aJ af,aK h2]}
 have HG:=gJ G0 G2 G3 BB;have hz:U (Q w)+1+1+1<U (Q v2):=af;clear G0 G2 G3 GV GS BB zz z3 fI hk HJ eA eZ
 go_wp21
 refine leaves_cons (f:=69) (args:=#[Pz (U (Q w)),Pz (U (Q w)+1+1),Pz (U (Q w)+1+1+1)]) al (by simp[go_sem]) ((eQ5 (U (Q w)) k hz (by simp[Value.oneCell']) HG.1 HG.2.1 HG.2.2.1).mono ?_);rintro e u w9⟨rfl,rfl,g2,g3,km⟩;let⟨i0,i1,i2,i3,i4,i5,i6,i7,i8,i9,ia,ib,ic⟩:=g2.iD;let⟨j0,j1,j2,j3,j4,j5,j6,j7⟩:=g3.r8;have B9:=HG.2.2.2.Z km;refine⟨dT #[zL A M X,wC ⟨dN,0,dN,0,dN,0⟩ (lD k)],by simp[lD,results,results28,go_sem,i0,i1,i2,i3,i4,i5,i6,i7,i8,i9,ia,ib,ic,j0,j1,j2,j3,j4,j5,j6,j7],?_⟩;rw[ae HS];exact⟨A,⟨dN,0,dN,0,dN,0⟩,rfl,(ae HE w9 B9).1,tY.num _ _ _ _ _ _ _,B9⟩};have HS:O (Z=(m.2,X.1++Gc X.2.2 iO,m.1,X.2.2+1)):=by
   show _=_;rw[<-ae eZ];unfold ui;have hf:J X.1+J (Gc X.2.2 iO)<=4000:=hf;rw[ae eA,aK (ae HJ),aJ af,aJ af]
  obtain⟨l',el⟩:∃l',O (X.1++Gc X.2.2 iO=l'):=⟨_,di⟩;rw[ae el]at O3 HS⊢;have HG:=nK G2 G3 GS BB O3;let⟨j0,j1,j2,j3,j4,j5,j6,j7,j8,j9,ja,jb,jc⟩:=G2.iD;have jf:=G2.2;have ss:=aE (GV.1 0 _ rfl) (aE (GV.1 1 _ rfl) (aE (GV.1 2 _ rfl) (aE (GV.1 3 _ rfl) (aE (GV.1 4 _ rfl) (GV.1 5 _ rfl)))));have oQ:¬U (Q v1)=U (Q w)+1+1:=af;have ZZ:=gJ zz z3 z2 fI;clear G0 G2 G3 GV GS BB zz z3 z2 fI O3
  go_wp21
  go_name_world Y2 R
  have TT:O (aI1 w M Z Y2):=by
   show aI1 _ _ _ _;rw[ae HS,<-R];have hk:∀b,U (Q w)+1+1≠b->Y2.heap[b]?=v2.heap[b]?:=λb hb=>by
    rw[<-R]
    iterate 19 (refine(gh _ _ _ _ (by dsimp only;omega)).Z ?_)
    rfl
   have hs:U (Q Y2)=U (Q v2):=by rw[<-R];simp
   rw[R];let⟨zz,z3,z2,fI⟩:=ae ZZ;refine⟨⟨P0,f0,P1,f1,P2,f2,p',c',r',d'⟩,⟨q1,e1,q2,e2,q3,e3⟩,?_,HG.2.1.dt (hk _ af),?_,λu hu hz hb=>?_⟩;{rw[<-R];exact aT.p6 (aT.p13 HG.1)};{
 rw[<-R]
 iterate 19 (refine Below.setCell ?_ (by dsimp only;omega) _)
 exact HG.2.2.2.1};{have k:∀b,U (Q w)+1+1+1<b->b<U (Q v2)->u.heap[b]?=v2.heap[b]?:=λb h1 h2=>(hb b h1 af).Z (hk b af);obtain⟨-,-,GS,-,O3⟩:=ae HG;have s':=GS.1.W (w':=u) λa ha=>k a.b (aM (GS.1.2.2.2.2.lo a ha)) (GS.1.2.2.2.2.ke.lt ha);have kO:∀{v:dV}{l:LI},Ow iY v2 v l->Rd u v l:=λo=>(o.hp λb e=>k b (aM (o.lt b e).1) (o.lt b e).2).rd;exact⟨⟨kO O3.o0,kO O3.o1,kO O3.o2,s'.1,s'.2.1⟩,(GS.2.W (λb h1 h2=>k b af h2) af).h af⟩}
  clear R j0 j1 j2 j3 j4 j5 j6 j7 j8 j9 ja jb jc jf ss oQ HG ZZ HS HJ HE eA eZ el
 case' neg=>
  have HS:O (Z=(m.2,X.1,m.1,X.2.2)):=by show _=_;rw[<-ae eZ];unfold ui;rw[ae eA,aJ hj]
  have T6:(m.2.k==0)=dF\/((m.2.k==0)/\0<=iO.K/\iO.K<14/\jN iO.K<14/\I V1 (Ad 0 (jN iO.K*7+6))=Y (jO dF)):=by by_cases h0:m.2.k=0;{obtain⟨k,f,ek,k1,k2,-⟩:=aj7 (D:=X.2.1) (iO:=iO) (ae eA▸h0);exact .R ⟨by simp[h0],af,af,af,(((ae HE V1 QC).2.2.2.1 (jN iO.K) af af).2.2.2.2.2.2).Z (vj (λb=>Y (Value.bool b)) (show Ah (jN iO.K)=dF by simpa[h0]using hj))⟩};{exact .L (by simp[h0])}
  have oQ:¬U (Q v1)=U (Q w)+1+1:=aM (ae Nd);have vK:¬U (Q v1)=U (Q w)+1+1+1:=aM (ae Nd);subst xY;clear hj;obtain si|⟨si,l1,l2,l3,t6⟩:=T6
  all_goals(
   go_wp21
   go_name_world Y2 R
   have TT:O (aI1 w M Z Y2):=by
    show aI1 _ _ _ _;have hk:∀b,U (Q w)+1+1+1<b->Y2.heap[b]?=(jA v1 (dO #[.U m.1.e,.U m.1.g,.U m.1.x,.I m.1.t,.S p' (J m.1.E) c',.S r' (J m.1.N) d'] 44)).heap[b]?:=λb hb=>by
     rw[<-R]
     iterate 27 (refine(gh _ _ _ _ (by dsimp only;omega)).Z ?_)
     rfl
    have hs:U (Q Y2)=U (Q (jA v1 (dO #[.U m.1.e,.U m.1.g,.U m.1.x,.I m.1.t,.S p' (J m.1.E) c',.S r' (J m.1.N) d'] 44))):=by rw[<-R];simp
    rw[ae HS];have z3:=ae HZ;have fI:=ae Nd;refine⟨⟨A.p0,A.c0,A.p1,A.c1,A.p2,A.c2,p',c',r',d'⟩,⟨q1,e1,q2,e2,q3,e3⟩,?_,?_,?_,λu hu hz hb=>?_⟩;{
 rw[<-R];refine aT.p6 (aT.p13 (aT.dt KH.2.1 ?_))
 iterate 8 (refine(gh _ _ _ _ (by dsimp only;omega)).Z ?_)
 rfl};{
 rw[<-R];refine aT.dt (aT.p8 KH.2.2.1) ?_
 iterate 19 (refine(gh _ _ _ _ (by dsimp only;omega)).Z ?_)
 rfl};{
 rw[<-R]
 iterate 27 (refine Below.setCell ?_ (by dsimp only;omega) _)
 exact QC};{have k:∀b,U (Q w)+1+1+1<b->b<U (Q (jA v1 (dO #[.U m.1.e,.U m.1.g,.U m.1.x,.I m.1.t,.S p' (J m.1.E) c',.S r' (J m.1.N) d'] 44)))->u.heap[b]?=(jA v1 (dO #[.U m.1.e,.U m.1.g,.U m.1.x,.I m.1.t,.S p' (J m.1.E) c',.S r' (J m.1.N) d'] 44)).heap[b]?:=λb h1 h2=>(hb b h1 af).Z (hk b h1);have GS:=ae KR;have s':=GS.1.W (w':=u) λa ha=>k a.b (aM (GS.1.2.2.2.2.lo a ha)) (GS.1.2.2.2.2.ke.lt ha);have E:=(ae HE u hu).1;exact⟨⟨E.1,E.2.1,E.2.2.1,s'.1,s'.2.1⟩,(GS.2.W (λb h1 h2=>k b af h2) af).h af⟩}
   clear R i0 i1 i2 i3 i4 i5 i6 i7 i8 i9 ia ib ic j0 j1 j2 j3 j4 j5 j6 j7 j8 j9 ja jb jc oo kk jf kf oQ vK si KR KH HS HE QC
   try clear l1 l2 l3 t6)
 all_goals(
  let⟨A9,a9,x1,x2,x3,x4⟩:=ae TT;let⟨K2,K3,KB,KU⟩:=zk x1 x2 x3 x4;clear TT x1 x2 x3 x4;have hz9:O (U (Q w)+1+1+1<U (Q Y2)):=my Y2 (Ad (U (Q w)+1+1+1) 0) (K3.1 0 _ rfl);have bd:Bw Y2 Y2.drew:=mC;refine fw (λv=>SvE v (U (Q w)+1+1) A9 M Z.2/\RpE v (U (Q w)+1+1+1) a9 Z.1) ⟨K2.iD,K3.r8⟩ λhS=>?_;refine fu 0 1 hS ?_;refine Vn 2 3 (vs:=D8 A9 M Z.2) (vs':=Ec a9 Z.1) (K2.H (aM (ae hz9)) bd) (K3.H hz9 bd) af ⟨rfl,rfl,by simp[Value.oneCell'],by simp[Value.oneCell']⟩ (λu h1 h2 _=>⟨h1.iD,(h2.elim id id).r8⟩) ?_;intro Y3 y2 y3 hk bl;refine AJ ?_;have HF:=gJ y2 y3 hk (bl 0 (de _) (de _)).size;have HB:=ai ((aj KB bd).Z (bl _ af af));clear hS y2 y3 hk bl bd
  go_wp21
  refine leaves_cons (f:=69) (args:=#[Pz (U (Q w)),Pz (U (Q w)+1+1),Pz (U (Q w)+1+1+1)]) al (by simp[go_sem]) ((eQ4 _ _ _ Y3).mono ?_);rintro e u w9⟨rfl,rfl,km⟩;have Sg:U (Q w)+1+1+1<U (Q Y3):=my Y3 (Ad (U (Q w)+1+1+1) 0) (HF.2.1.1 0 _ rfl);let⟨i0,i1,i2,i3,i4,i5,i6,i7,i8,i9,ia,ib,ic⟩:=(HF.1.H af km).iD;let⟨j0,j1,j2,j3,j4,j5,j6,j7⟩:=(HF.2.1.H Sg km).r8;have B9:=aj HB km;have zs:U (Q Y2)<=U (Q Y3):=HF.2.2.2;have KF:=ae KU w9 B9 (gq zs km.size) λb h1 h2=>(km.block b af).Z (HF.2.2.1 b af af);exact⟨dT #[zL A9 M Z.2,wC a9 Z.1],by simp[results,results28,go_sem,i0,i1,i2,i3,i4,i5,i6,i7,i8,i9,ia,ib,ic,j0,j1,j2,j3,j4,j5,j6,j7],A9,a9,rfl,KF.1,KF.2,B9⟩)
variable {v:dV}
theorem Own.T{T:List TypeId}{B:Nat}(h:Own B w v l)(hf:Fr T w w')(ht:5∉T:=by decide):Own B w' v l:=h.hp λb e=>by
 obtain⟨rfl,-⟩|⟨g,cap,cur,rfl,-,hg,-⟩:=h.2;{cases e};{simp only[jB,oK]at e;subst e;exact(hf.2 _ _ _ _ ht hg).Z hg.C}
theorem FG.T{v:G}(h:FG b w v)(hb:w.heap[b]?=dO cs ty):Fr [ty] w v:=⟨h.1,λy cur Jo m' hn hy=>by
 by_cases e:y=b;{subst e;rw[hb]at hy;cases hy;exact absurd (rC.2 rfl) hn};{exact(h.2 y (uS hy) e).Z hy}⟩
theorem TC.off{B:Nat}(h:TC B w v l)(y:∀b,B<=b->b<U (Q w)->w'.heap[b]?=w.heap[b]?):TC B w' v l:=by
 obtain⟨⟨p,c,rfl,j⟩,E,hc⟩:=h;by_cases q:l=[];{exact⟨⟨p,c,rfl,.L q⟩,λb _=>.L q,hc⟩};obtain j|⟨b,o,rfl,j⟩:=j;{exact absurd j q};let⟨u,r,m,s⟩:=(E b rfl).resolve_left q;have e:=y b u (uS s);refine⟨⟨_,c,rfl,.R ⟨b,o,rfl,λi D=>(gG e _).Z (j i D)⟩⟩,λM x=>.R ?_,hc⟩;simp only[jB,oK]at x;subst x;exact⟨u,r,m,e.Z s⟩
theorem TU.off{B:Nat}(h:TU B w v l)(hk:∀b,B<=b->b<U (Q w)->w'.heap[b]?=w.heap[b]?):TU B w' v l:=by
 obtain⟨⟨p,c,rfl,hd⟩,h2,hz,h3⟩:=h;have hk:∀b,jB (Value.slice p (J l) c)=Y b->w'.heap[b]?=w.heap[b]?:=λb e=>by let⟨cur,hb⟩:=h2 b e;exact hk b (h3 b e) (uS hb)
 exact bN1
theorem fh.off{B:Nat}(h:fh B w v ss Qs)(o:∀b,B<=b->b<U (Q w)->w'.heap[b]?=w.heap[b]?):fh B w' v ss Qs:=
 ⟨h.len,h.row.W (λ_ _ h=>h) λb e=>o b (h.row.lt b e).1 (h.row.lt b e).2,λi s j m hq=>(h.vD i s j m hq).W (λx c k=>k.imp λP k=>⟨k.1,k.2.off o⟩) λb e=>o b ((h.vD i s j m hq).lt b e).1 ((h.vD i s j m hq).lt b e).2,h.py⟩
theorem ld.off{B:Nat}(h:ld B w v ns)(i:∀b,B<=b->b<U (Q w)->w'.heap[b]?=w.heap[b]?):ld B w' v ns:=
 h.W (λx c⟨P,V,H,iU,e,q,o,m,j⟩=>⟨P,V,H,iU,e,q.off i,o.off i,m.off i,j.off i⟩) λb e=>i b (h.lt b e).1 (h.lt b e).2
def Xx(w:G)(A:Pt)(M:Dm)(X:uY):Prop:=∀v,Fr [46,50] w v->KI v A M X
theorem aV1{u B1 B2 B:Nat}{A:Pt}{M:Dm}{X:uY}{q:List dV}(o:Own u w (.S A.p0 (J X.1) A.c0) X.1)(m:Own B1 w (.S A.p1 (J M.l1) A.c1) M.l1)(j:Own B2 w (.S A.p2 (J M.l2) A.c2) M.l2)(s:fh B w (.S A.p (J X.2.1.E) A.c) X.2.1.E q)(n:ld B w (.S A.r (J X.2.1.N) A.d) X.2.1.N):Xx w A M X:=λv i=>⟨(o.T i).rd,(m.T i).rd,(j.T i).rd,(s.T i).dA5,du.QT (du.T n i)⟩
def CsS(w:G)(M:Dm)(X:uY)(z:Ending)(w':G):Prop:=∃A i,z=dR (zL A M X)/\nS (U (Q w)) w' (.S A.p0 (J X.1) A.c0) (.S A.p1 (J M.l1) A.c1) (.S A.p2 (J M.l2) A.c2) X.1 M.l1 M.l2/\fh (U (Q w)) w' (.S A.p (J X.2.1.E) A.c) X.2.1.E i/\ld (U (Q w)) w' (.S A.r (J X.2.1.N) A.d) X.2.1.N/\Bw w w'
theorem dQ1{A:Pt}{M:Dm}{X:uY}(h:KI w A M X)(Z:O (VD X.2.1))(m0:J X.1<=200000)(m1:J M.l1<=200000)(m2:J M.l2<=200000):dQ dG 54 #[zL A M X] w (CsS w M X):=by
 obtain⟨W,hW,b1,z1,C1,-⟩:=cR w (D8 A M X).toArray 46;let⟨u,fW,b2,z2,y,T2⟩:=cR W zS.toArray 46;go_in
 go_wp21
 rw[<-hW,<-fW];clear hW fW;have bb:=aj b1 b2;rw[z1]at y T2;let⟨HC,HR,N⟩:=gC (λ(v:G)(m:Bw u v)=>(λj=>(⟨⟨j.1 0 _ rfl,j.1 1 _ rfl,j.1 2 _ rfl,j.1 3 _ rfl,j.1 4 _ rfl,j.1 5 _ rfl⟩,j.1 12 _ rfl,j.1 6 _ rfl,j.1 7 _ rfl,j.1 8 _ rfl,j.1 9 _ rfl,j.1 10 _ rfl,j.1 11 _ rfl⟩:M8 v (U (Q w)) (.S A.p0 (J X.1) A.c0) (.I M.n0) (.S A.p1 (J M.l1) A.c1) (.I M.n1) (.S A.p2 (J M.l2) A.c2) (.I M.n2) X.2.2 X.2.1.e X.2.1.g X.2.1.x X.2.1.t (.S A.p (J X.2.1.E) A.c) (.S A.r (J X.2.1.N) A.d))) ((C1.H af b2).H af m)) (λ(v:G)(m:Bw u v)=>aE (h.H (aj bb m)) (aE (y.H af m) ((m.block _ af).Z T2))) (bD (U (Q u)) u).drew;clear C1 y T2 h;refine fw (λv=>M8 v (U (Q w)) (.S A.p0 (J X.1) A.c0) (.I M.n0) (.S A.p1 (J M.l1) A.c1) (.I M.n1) (.S A.p2 (J M.l2) A.c2) (.I M.n2) X.2.2 X.2.1.e X.2.1.g X.2.1.x X.2.1.t (.S A.p (J X.2.1.E) A.c) (.S A.r (J X.2.1.N) A.d)) (HC _ N) λhS=>?_;let⟨v,fK⟩:=aF u.drew;rw[<-fK]at N hS⊢;clear fK;refine iy 0 1 3 4 hS ?_;refine fu 6 7 hS ?_;refine fy 2 (λKK hK=>?_);have H:=ai (ae HR _ N).1;refine ju (dR2 A.p0 A.p1 A.p2 A.c0 A.c1 A.c2 M.n0 M.n1 M.n2 X.1 M.l1 M.l2 v H.1 H.2.1 H.2.2.1 af af af) ?_;rintro z v2⟨P0,C0,P1,C1,P2,y,rfl,o3,aA⟩;refine fE ?_;let⟨V,O3⟩:=aQ (aj N aA) (o3.h N.size);refine bS hK (HC _ V) λhS=>?_;clear hK KK aA N H o3;refine fy 5 (λKK hK=>?_);have H:=ai (ae HR _ V).1;refine ju (aF3 rfl rfl H.2.2.2.1.rd H.2.2.2.2 (aM Z.sl) (aM Z.nl) (ai λs hs=>⟨(Z.ig s hs).1,λev he=>((Z.ig s hs).2 ev he).2⟩) (ai λnd aI=>(Z.dr nd aI).2)) ?_;rintro z v4⟨Ps,Cs,Pn,Cn,rfl,⟨iZ,o4⟩,n4,dz⟩;refine fE ?_;have B4:=ai (aj V dz);have O4:=eG (O3.H dz) (o4.h (gq bb.size V.size)) (ld.h n4 (gq bb.size V.size));refine bS hK (HC _ B4) λhS=>?_;clear hK KK dz V H o4 n4 O3;refine tn 8 hS ?_;refine fy 9 (λKK hK=>?_);have ZC:=(ae HR _ B4).2.1;have hT:=(ae HR _ B4).2.2;have nf:=ZC.2;let⟨n0,n1,n2,n3,n4,n5,n6,n7,n8,n9,na,nb,nc⟩:=ZC.iD;go_simp;have EX:=λ(x0 x1 x2 x3 x4 x5 x6 x7 x8 x9 xd xe xf:dV)=>((((((((((((((show FG (U (Q w)+1) v4 v4 from⟨fS _,λ_ _ _=>rfl⟩).set 0 x0).set 1 x1).set 2 x2).set 3 x3).set 4 x4).set 5 x5).set 6 x6).set 7 x7).set 8 x8).set 9 x9).set 10 xd).set 11 xe).set 12 xf);have RR:=ai (λ(v:G)(m:FG (U (Q w)+1) v4 v)=>aE (O4.2.1.T (m.T hT)) (du.T O4.2.2 (m.T hT)));refine bS hK (M8.ex (ae HC _ B4) (EX _ _ _ _ _ _ _ _ _ _ _ _ _) af) λhS=>?_;clear hK KK hS hT ZC;refine fQ ?_;go_wp2;refine cX (v:=zL ⟨P0,C0,P1,C1,P2,y,Ps,Cs,Pn,Cn⟩ M X) (by simp[results,results54,go_sem,n0,n1,n2,n3,n4,n5,n6,n7,n8,n9,na,nb,nc]) rfl ⟨⟨P0,C0,P1,C1,P2,y,Ps,Cs,Pn,Cn⟩,iZ,rfl,?_,(ae RR _ (EX _ _ _ _ _ _ _ _ _ _ _ _ _)).1,(ae RR _ (EX _ _ _ _ _ _ _ _ _ _ _ _ _)).2,?_⟩;{
 refine nS.h (B:=U (Q u)) ?_ af
 iterate 13 refine nS.set ?_ bL _
 exact O4.1};{
 iterate 13 refine tp ?_ al _
 exact aj bb B4}
def RdP(w:G)(a:Pr)(R:RP):Prop:=Rd w (.S a.p1 (J R.lW) a.c1) R.lW/\AL w (.S a.p2 (J R.iB) a.c2) R.iB/\qI w (.S a.p3 (J R.kF) a.c3) R.kF
def IZ(w:G)(a:Pr)(R:RP):Prop:=∀v,Fr [46,50,44] w v->RdP v a R
theorem IZ.num(w:G)(k i e g n:Int):IZ w ⟨dN,0,dN,0,dN,0⟩ ⟨k,i,e,g,n,[],[],[]⟩:=λv _=>⟨Jw v,YH v,(YK v).rd⟩
def LrP(B:Nat)(v:G)(D:SD×RP)(z:Ending)(v':G):Prop:=∃p c q d a i,z=dR (dT #[cO D.1.e D.1.g D.1.x D.1.t (.S p (J D.1.E) c) (.S q (J D.1.N) d),wC a D.2])/\(fh B v' (.S p (J D.1.E) c) D.1.E i/\ld B v' (.S q (J D.1.N) d) D.1.N)/\IZ v' a D.2/\Fr [125,148,149] v v'/\Below B v v'
theorem eV8(m:VD D){iO:rj}{a:Pq}(g:OG a iO){B:Nat}{v:G}{q:OA}{c d:Nat}{iZ:List dV}(h:fh B v (.S p (J D.E) c) D.E iZ)(X:ld B v (.S q (J D.N) d) D.N)(s:Cy v a iO)(Z:B<=U (Q v)):Cp 55 #[cO D.e D.g D.x D.t (.S p (J D.E) c) (.S q (J D.N) d),BH a iO] v (LrP B v (Cu D iO)):=by
 refine(cQ2 rfl rfl rfl rfl h X s.1 s.2 Z (aM m.sl) (aM m.nl) g.p g.v g.c1 g.c2 m.wf g.bp rfl).h ?_;rintro z v'⟨V,c',E,d',Dv,Nv,Ev,Q',rfl,y,W,r,tn,o,f8,b8⟩;obtain⟨R,ca,rfl⟩:=r.fq;obtain⟨N,cb,rfl,-⟩:=tn.form;obtain⟨M,cc,rfl,-⟩:=o.form;exact⟨V,c',E,d',⟨R,ca,N,cb,M,cc⟩,Q',rfl,⟨y,W⟩,λu j=>⟨(r.T j).1,TN.rdt (TN.T tn j),nF.rde (nF.T o j)⟩,f8,b8⟩
theorem cn2{K:Int}(h1:1<=K)(h2:K<=13)(w:G):Cp 57 #[.I K] w λr w'=>r=dR (jO (Ah (jN K)))/\w'=w:=by
 obtain⟨k,rfl⟩:∃k:Nat,K=k:=⟨jN K,af⟩;rw[rY];exact cn1 af af
theorem dT4{iO:rj}(h:Ah (jN iO.K)):(Cu D iO).2.lW=[]/\(Cu D iO).2.iB=[]/\(Cu D iO).2.kF=[]:=by
 obtain⟨K,S,F,E,i,P,V⟩:=iO;have hK:K=1\/K=3\/K=4\/K=5\/K=7\/K=8\/K=9:=by dsimp only at h;unfold Ah rowOf at h;split at h<;>first|omega|(simp at h)
 let⟨A,e⟩:=bu (kG D K S F E i P V);show(kG D K S F E i P V).2.lW=[]/\(kG D K S F E i P V).2.iB=[]/\(kG D K S F E i P V).2.kF=[];rw[e];unfold kG at e
 iterate 4 (
  all_goals(repeat' split at e)
  all_goals(first|(exfalso;omega)|(subst e;exact⟨rfl,rfl,rfl⟩)|unfold yE at e|unfold zO at e|unfold Fo at e|unfold BI at e|unfold Ag at e))
theorem ck6(_:aT w b vs)(h:N<=b):N<=b:=h
theorem ag2{t q:TypeId}{v:G}(u:U (Q w)<=U (Q v))(x:∀c,c≠b->c≠b'->v.heap[c]?=w.heap[c]?)(h:∃i,w.heap[b]?=dO i t)(o:∃i,w.heap[b']?=dO i q):Fr [t,q] w v:=⟨u,λy i B m r j=>by
  by_cases e:y=b;{subst e;obtain⟨c,h⟩:=h;rw[h]at j;cases j;simp at r};{by_cases s:y=b';{subst s;obtain⟨c,o⟩:=o;rw[o]at j;cases j;simp at r};{exact(x y e s).Z j}}⟩
def fi8(V:G)(D:SD×RP)(v7 m:dV)(wc:G):Prop:=∃j i p c q d a o,v7=Pz j/\m=Pz i/\(aT wc j [.U D.1.e,.U D.1.g,.U D.1.x,.I D.1.t,.S p (J D.1.E) c,.S q (J D.1.N) d]/\aT wc i (Ec a D.2))/\(fh (U (Q V)) wc (.S p (J D.1.E) c) D.1.E o/\ld (U (Q V)) wc (.S q (J D.1.N) d) D.1.N)/\IZ wc a D.2/\Bw V wc/\U (Q V)<=j/\U (Q V)<=i
def L6R(w:G)(M:Dm)(Z:RP×uY)(z:Ending)(w':G):Prop:=∃A a,z=dR (dT #[zL A M Z.2,wC a Z.1])/\Xx w' A M Z.2/\IZ w' a Z.1/\Bw w w'
def aI0(w:G)(j m:Nat)(M:Dm)(Z:RP×uY)(i:G):Prop:=∃A a,aT i j (D8 A M Z.2)/\aT i m (Ec a Z.1)/\(aT i (U (Q w)+1+1) zS/\aT i (U (Q w)+1+1+1) zR/\i.heap[U (Q w)+1+1]?=dO zS.toArray 46/\i.heap[U (Q w)+1+1+1]?=dO zR.toArray 50)/\Xx i A M Z.2/\IZ i a Z.1/\Bw w i
theorem dQ0{A:Pt}{M:Dm}{X:uY}{a:Pq}{iO:rj}(hG:O (DmG M X))(g:O (OG a iO))(h:KI w A M X)(hO:Cy w a iO):dQ dG 23 #[zL A M X,BH a iO] w (L6R w M (ui X iO)):=by
  let⟨Z,eZ⟩:=cg (ui X iO);rw[ae eZ];obtain⟨W0,cT,b0,z0,C0,-⟩:=cR w (D8 A M X).toArray 46;obtain⟨W1,fT,b1,z1,C1,-⟩:=cR W0 (NF a iO).toArray 54;let⟨W2,fW,b2,z2,C2,T2⟩:=cR W1 zS.toArray 46;let⟨W3,ky,b3,z3,C3,T3⟩:=cR W2 zR.toArray 50;rw[z0]at C1 z1;rw[z1]at C2 T2 z2;rw[z2]at C3 T3 z3;have bW:=aj b0 (aj b1 (aj b2 b3));have HC:=ai (λ(v:G)(hv:Bw W3 v)=>aE ((((C0.H af b1).H af b2).H af b3).H af hv) (aE (((C1.H af b2).H af b3).H af hv) (aE ((C2.H af b3).H af hv) (aE (C3.H af hv) (aE (aj bW hv) (aE ((hv.block _ af).Z ((b3.block _ af).Z T2)) ((hv.block _ af).Z T3)))))));have HR:=bG (h.H bW) (hO.H bW);have HZ:=ai z3;clear C0 C1 C2 C3 T2 T3 b0 b1 b2 b3 z0 z1 z2 z3 h hO bW;go_in
  go_wp21
  rw[<-cT,<-fT,<-fW,<-ky];clear cT fT fW ky;refine(dQ1 HR.1 (ai hG.v) (aM hG.n) hG.m1 hG.m2).h ?_;rintro z v1⟨A',iZ,rfl,O3,s1,n1,az⟩;let⟨V1,xY,bv,zv,CV,TV⟩:=cR v1 (D8 A' M X).toArray 46;have H1:=ai (ae HC V1 (aj az bv));have HO:=ai (λ(v:G)(hv:Bw V1 v)=>aE ((O3.H bv).H hv) (aE ((s1.T (cG bv)).T (cG hv)) (aE (du.T (du.T n1 (cG bv)) (cG hv)) (aE (CV.H af hv) ((hv.block _ af).Z TV)))));have HG:=ai (λb e=>(O3.o0.lt b e).2);have He:=ai (aj az bv);have zv1:U (Q V1)=U (Q v1)+1:=zv;have fI:U (Q W3)<=U (Q v1):=az.size;have RV:=bG (HR.1.H (aj az bv)) (HR.2.H (aj az bv));have i0:=H1.1.iD;have pX:O (∀u,(∀y,y<U (Q V1)->u.heap[y]?=V1.heap[y]?)->SvS u (U (Q w)) X.2.2 X.2.1.e X.2.1.g X.2.1.x X.2.1.t (.S A.p (J X.2.1.E) A.c) (.S A.r (J X.2.1.N) A.d)/\iR u (U (Q w)+1) (.I iO.K) (.U iO.S) (.S a.p (J iO.P) a.c) (.I iO.F) (.S a.q (J iO.V) a.d) (.U iO.E) (.U iO.G)):=λu W=>by have k0:=H1.1.dt (W (U (Q w)) (aM (ae HZ)));have k1:=H1.2.1.dt (W (U (Q w)+1) (aM (ae HZ)));exact⟨⟨k0.1 12 _ rfl,k0.1 6 _ rfl,k0.1 7 _ rfl,k0.1 8 _ rfl,k0.1 9 _ rfl,k0.1 10 _ rfl,k0.1 11 _ rfl⟩,k1.1 0 _ rfl,k1.1 1 _ rfl,k1.1 2 _ rfl,k1.1 3 _ rfl,k1.1 4 _ rfl,k1.1 5 _ rfl,k1.1 6 _ rfl⟩
  clear O3 az bv CV TV zv s1 n1;rw[xY]at i0
  go_wp21
  rw[<-xY];clear xY i0;let⟨D',eD⟩:=cg (Cu X.2.1 iO)
  go_cut[7,8](λv7 v8 wc=>fi8 V1 D' v7 v8 wc)
  case first=>(
 let⟨v0,fK⟩:=aF V1.drew;have Q0:O (Bw V1 v0):=fK▸db.drew;have HS:O (∀v,Bw V1 v->SvS v (U (Q w)) X.2.2 X.2.1.e X.2.1.g X.2.1.x X.2.1.t (.S A.p (J X.2.1.E) A.c) (.S A.r (J X.2.1.N) A.d)/\iR v (U (Q w)+1) (.I iO.K) (.U iO.S) (.S a.p (J iO.P) a.c) (.I iO.F) (.S a.q (J iO.V) a.d) (.U iO.E) (.U iO.G)):=λv hv=>ae pX v hv.block;have DY:O (∀v,Bw V1 v->Cp 56 #[cO X.2.1.e X.2.1.g X.2.1.x X.2.1.t (.S A.p (J X.2.1.E) A.c) (.S A.r (J X.2.1.N) A.d)] v λr v'=>∃p c q d,r=dR (cO X.2.1.e X.2.1.g X.2.1.x X.2.1.t (.S p (J X.2.1.E) c) (.S q (J X.2.1.N) d))/\(∃iZ,fh (U (Q V1)) v' (.S p (J X.2.1.E) c) X.2.1.E iZ/\ld (U (Q V1)) v' (.S q (J X.2.1.N) d) X.2.1.N)/\Bw v v'):=λv hv=>by have hV:=hG.v;refine(aF3 (ai rfl) (ai rfl) (RV.1.2.2.2.1.H hv).rd (RV.1.2.2.2.2.H hv) (aM hV.sl) (aM hV.nl) (ai λs hs=>⟨(hV.ig s hs).1,λev he=>((hV.ig s hs).2 ev he).2⟩) (ai λnd aI=>(hV.dr nd aI).2)).h ?_;rintro z v'⟨p,c,q,d,rfl,⟨iZ,k1⟩,k2,hb⟩;exact⟨p,c,q,d,rfl,⟨iZ,k1.h hv.size,ld.h k2 hv.size⟩,hb⟩
 have XK:O (∀p c q d iZ v,Bw V1 v->(fh (U (Q V1)) v (.S p (J X.2.1.E) c) X.2.1.E iZ/\ld (U (Q V1)) v (.S q (J X.2.1.N) d) X.2.1.N)->Cp 55 #[cO X.2.1.e X.2.1.g X.2.1.x X.2.1.t (.S p (J X.2.1.E) c) (.S q (J X.2.1.N) d),BH a iO] v (LrP (U (Q V1)) v D')):=λp c q d iZ v hv k=>by rw[<-ae eD];exact eV8 hG.v (ae g) k.1 k.2 (RV.2.H hv) hv.size
 refine fw (λv=>SvS v (U (Q w)) X.2.2 X.2.1.e X.2.1.g X.2.1.x X.2.1.t (.S A.p (J X.2.1.E) A.c) (.S A.r (J X.2.1.N) A.d)/\iR v (U (Q w)+1) (.I iO.K) (.U iO.S) (.S a.p (J iO.P) a.c) (.I iO.F) (.S a.q (J iO.V) a.d) (.U iO.E) (.U iO.G)) (fK▸ae HS v0 (ae Q0)) λhS=>?_;rw[<-fK]at hS⊢;clear fK;refine fu 0 1 hS ?_;refine tn 3 hS ?_;have F2:O (∀u,Bw v0 u->True):=λ_ _=>trivial;have F4:O (∀u,Fr [44,50] v0 u->True):=λ_ _=>trivial;have F8:O (∀u,Fr [125,148,149] v0 u->True):=λ_ _=>trivial;have F9:O (∀u,Fr [125,148,149] v0 u->True):=λ_ _=>trivial;have HM:=ai Q0.size
 iterate 4 (
   all_goals(first|refine qN [2,8,9] (sG (λKK hK=>?_) (sG (λKK hK=>?_) (sG (λKK hK=>?_) fN)))|refine qN [2,8] (sG (λKK hK=>?_) (sG (λKK hK=>?_) fN))|refine qN [2,9] (sG (λKK hK=>?_) (sG (λKK hK=>?_) fN))|refine qN [2] (sG (λKK hK=>?_) fN)|refine qN [4,8,9] (sG (λKK hK=>?_) (sG (λKK hK=>?_) (sG (λKK hK=>?_) fN)))|refine qN [4,8] (sG (λKK hK=>?_) (sG (λKK hK=>?_) fN))|refine qN [4,9] (sG (λKK hK=>?_) (sG (λKK hK=>?_) fN))|refine qN [4] (sG (λKK hK=>?_) fN)|refine qN [8,9] (sG (λKK hK=>?_) (sG (λKK hK=>?_) fN))|refine qN [8] (sG (λKK hK=>?_) fN)|refine qN [9] (sG (λKK hK=>?_) fN))
   all_goals(first
     |(refine Tag.go 2 ?_;refine ju (ae DY v0 Q0) ?_;rintro r v0⟨p4,d4,p5,d5,rfl,⟨Q4,rd2⟩,hb⟩;refine⟨_,rfl,?_⟩;have F4:=ai λu W=>ae F4 u ((Fr.H hb).Z W);have hF:=Fr.H (T:=[125,148,149]) hb;have hQ:=hb.h Q0.size;clear hb)
     |(refine Tag.go 4 ?_;refine uG (ae XK _ _ _ _ _ v0 Q0 (ae F2 v0 db)) ?_;rintro r v0⟨p8,c8,q8,d8,a8,Q8,rfl,rd4,rp4,hF,hQ⟩;refine⟨_,rfl,?_⟩;have F2:O (∀u,Below (U (Q v0)) v0 u->True):=λ_ _=>trivial)
     |(refine Tag.go 9 ?_;go_simp;obtain⟨v0,hv,hb,hz,QH⟩:=yi v0 (jK jV 0) (jK jU 0) (jK jU 0) (jK jU 0) (jK jV 0) aN aN aN;rw[<-hv];have HM:=bG hz (ae HM);have F2:=ai λu W=>ae F2 u (aj hb W);have F4:=ai λu W=>ae F4 u ((Fr.H hb).Z W);have hF:=Fr.H (T:=[125,148,149]) hb;have hQ:=hb.h Q0.size;clear hv hz hb)
     |(refine Tag.go 8 ?_;go_simp;obtain⟨v0,hv,hb,hz,QI⟩:=Cr v0;rw[<-hv];have HM:=bG hz (ae HM);have F2:=ai λu W=>ae F2 u (aj hb W);have F4:=ai λu W=>ae F4 u ((Fr.H hb).Z W);have hF:=Fr.H (T:=[125,148,149]) hb;have hQ:=hb.h Q0.size;clear hv hz hb))
   all_goals(have Q0:=ai (Q0.Z hQ);have F8:=ai λu W=>ae F8 u (hF.Z W);have F9:=ai λu W=>ae F9 u (hF.Z W);have HM:=bG hQ.size (ae HM);refine hK.out _ _ (by exact ae HS v0 (ae Q0)) (λhS=>?_);clear hK KK hF hQ;(try simp only[Act.put,xa,xb,xc]))
   all_goals(first
     |(have F2:=ai λ(u:G)(W:Below (U (Q v0)) v0 u)=>aE (rd2.1.T (cG W)) (du.T rd2.2 (cG W));clear rd2)
     |(have F4:=ai λ(u:G)(W:Fr [44,50] v0 u)=>aE (aE (rd4.1.T W) (du.T rd4.2 W)) (show IZ u a8 _ fromλy hy=>rp4 y ((W.sub al).Z hy));clear rd4 rp4;refine tn 5 hS ?_;refine tn 6 hS ?_;refine tn 7 hS ?_)
     |(have F8:=ai λ(u:G)(W:Fr [125,148,149] v0 u)=>QI.T W;clear QI)
     |(have F9:=ai λ(u:G)(W:Fr [125,148,149] v0 u)=>QH.T W;clear QH)))
 all_goals(as_aux_lemma=>
   have Wd:=ae F8 v0 (Fr.refl _ _);have Gv:=ae F9 v0 (Fr.refl _ _);refine Vn 10 11 (vs:=[.U D'.1.e,.U D'.1.g,.U D'.1.x,.I D'.1.t,.S p8 (J D'.1.E) c8,.S q8 (J D'.1.N) d8]) (vs':=Ec a8 D'.2) Wd.1 Gv.1 (aM (ae HM)) ⟨rfl,rfl,by simp[Value.oneCell'],by simp[Value.oneCell']⟩ (λu _ _ W=>ae pX u λy hy=>(W y (aM (ae HM)) (aM (ae HM))).Z (Q0.block y hy)) ?_;intro w' c8' c9' hk bl;refine AJ ?_;clear hS;have hf:=ag2 (bl 0 (de _) (de _)).size hk Wd.2 Gv.2;have HF:=nK (aE c8' c9') (ae F4 w' hf) (Q0.Z (bl _ (aM (ae HM)) (aM (ae HM)))) (ck6 (N:=U (Q V1)) c8' (aM (ae HM))) (ck6 (N:=U (Q V1)) c9' (aM (ae HM)));clear Wd Gv c8' c9' hk bl hf F8 F9 F4 F2 HM
   go_wp21
   go_meet;exact⟨_,_,p8,c8,q8,d8,a8,Q8,rfl,rfl,HF.1,HF.2.1.1,HF.2.1.2,HF.2.2.1,HF.2.2.2.1,HF.2.2.2.2⟩))
  case rest=>(
 obtain⟨b8,b9,p8,c8,q8,d8,a8,Q8,rfl,rfl,⟨K8,K9⟩,R4,RP4,bC,EW,km⟩:=hcut;have Sg:=ae HZ;have BU:=ai bC;have KC:=ai (λ(v:G)(hv:Bw wc v)=>aE (K8.H (my wc (Ad b8 0) (K8.1 0 _ rfl)) hv) (aE (K9.H (my wc (Ad b9 0) (K9.1 0 _ rfl)) hv) (aE (aE (R4.1.T (cG hv)) (du.T R4.2 (cG hv))) (show IZ v a8 _ fromλy hy=>RP4 y ((Fr.H hv).Z hy)))));have bI4:=bG EW km;obtain⟨H0,Ho,-,-,-⟩:=ae HC wc (aj He bC);have i12:=H0.1 12 _ rfl;have o0:=Ho.1 0 _ rfl;have j0:=K9.1 0 _ rfl;clear K8 K9 R4 RP4 bC EW km H0 Ho;by_cases hj:D'.2.k=0/\Ah (jN iO.K)=dY
 case' neg=>
   have HS:O (Z=(D'.2,X.1,D'.1,X.2.2)):=by show _=_;rw[<-ae eZ];unfold ui;rw[ae eD,aJ hj]
   have T6:(D'.2.k==0)=dF\/((D'.2.k==0)/\O (1<=iO.K/\iO.K<=13)/\Ah (jN iO.K)=dF):=by by_cases h0:D'.2.k=0;{obtain⟨k,f,ek,k1,k2,-⟩:=aj7 (D:=X.2.1) (iO:=iO) (ae eD▸h0);exact .R ⟨by simp[h0],⟨af,af⟩,by simpa[h0]using hj⟩};{exact .L (by simp[h0])}
   obtain⟨-,-,-,CO,TO⟩:=ae HO wc BU;let⟨n0,n1,n2,n3,n4,n5,n6,n7,n8,n9,na,nb,nc⟩:=CO.iD;have nf:=CO.2;obtain⟨k0,k1,k2,k3,k4,k5,-⟩:=(ae KC wc db).1.c6;have cw9:=ae bI4;have Dw:¬b8=U (Q v1):=af;have bk7:¬U (Q v1)=b8:=af;have XS:=bG CO TO;clear hj CO TO i12;obtain si|⟨si,Wq,hJ⟩:=T6
   case' inl=>
     go_wp21
   case' inr=>
     go_wp21
     refine cL (cn2 Wq.1 Wq.2 wc) λx9 h9=>?_;rw[h9,hJ];clear h9 x9 hJ Wq
     go_wp21
   all_goals(
     go_name_world iY hY
     have TT:O (aI0 w (U (Q v1)) b9 M Z iY):=by
       show aI0 _ _ _ _ _ _;rw[ae HS];have KY:∀b,b≠U (Q v1)->iY.heap[b]?=wc.heap[b]?:=λb hb=>by
         rw[<-hY]
         iterate 6 (refine(gh _ _ _ _ (by dsimp only;omega)).Z ?_)
         rfl
       have BY:Below (U (Q v1)) wc iY:=by
         rw[<-hY]
         iterate 6 (refine Below.setCell ?_ (by dsimp only;omega) _)
         exact bD _ _
       have fY:Fr [46] wc iY:=FG.T (ty:=46) ⟨BY.size,λb _ hn=>KY b hn⟩ XS.2;obtain⟨-,K9,R4,RP4⟩:=ae KC wc db;obtain⟨-,-,H2,H3,HB,T2,T3⟩:=ae HC wc (aj He BU);obtain⟨O3,-⟩:=ae HO wc BU;refine⟨⟨A'.p0,A'.c0,A'.p1,A'.c1,A'.p2,A'.c2,p8,c8,q8,d8⟩,a8,?_,K9.dt (KY b9 af),⟨H2.dt (KY _ af),H3.dt (KY _ af),(KY _ af).Z T2,(KY _ af).Z T3⟩,aV1 (B:=U (Q V1)) (O3.o0.T fY) (O3.o1.T fY) (O3.o2.T fY) (R4.1.T fY) (du.T R4.2 fY),λu W=>RP4 u ((fY.sub al).Z W),HB.Z (BY.h af)⟩;rw[<-hY];exact aT.p6 XS.1
     clear hY n0 n1 n2 n3 n4 n5 n6 n7 n8 n9 na nb nc nf k0 k1 k2 k3 k4 k5 Dw bk7 si)
 case' pos=>
   have si:(D'.2.k==0):=by simp[hj.1]
   have HJ:=ai hj;obtain⟨k,f,ek,k1,k2,-⟩:=aj7 (D:=X.2.1) (iO:=iO) (ae eD▸hj.1);have Wq:=ai (show 1<=iO.K/\iO.K<=13 by omega);clear ek k1 k2 hj
   go_wp21
   refine cL (cn2 Wq.1 Wq.2 wc) λx9 h9=>?_;rw[h9,HJ.2];clear h9 x9 o0 j0 si;by_cases Oy:4611686018427387904<=X.2.2
   case' pos=>
     let kf:Int:=12;have FT:O (Z=(lD kf,X)):=by show _=_;rw[<-ae eZ];unfold ui;rw[ae eD,aK (ae HJ),aK (show 2^62<=X.2.2 by omega)]
     go_wp21
     clear i12
     go_name_world y0 hy0
     rw[hy0]at BU
   case' neg=>
     have q0:=hG.q;have m0:=hG.n;have wq:jY jU (X.2.2+1)=X.2.2+1:=by rw[wV];omega
     let⟨L,eL⟩:=cg (J (YR iO));obtain⟨hL,hBy,-,hEn⟩:=cH1 (D:=X.2.1) (ae eD▸HJ.1) HJ.2 (ae g) L eL;have HBy:=ai hBy;have HEn:=ai hEn;clear hBy hEn
     go_wp21
     clear i12;have HK:O (∀v,Bw V1 v->I v (Aw w 12)=dU X.2.2/\iR v (U (Q w)+1) (.I iO.K) (.U iO.S) (.S a.p (J iO.P) a.c) (.I iO.F) (.S a.q (J iO.V) a.d) (.U iO.E) (.U iO.G)):=λv hv=>by obtain⟨H0,Ho,-,-,-⟩:=ae HC v (aj He hv);exact⟨H0.1 12 _ rfl,Ho.1 0 _ rfl,Ho.1 1 _ rfl,Ho.1 2 _ rfl,Ho.1 3 _ rfl,Ho.1 4 _ rfl,Ho.1 5 _ rfl,Ho.1 6 _ rfl⟩
     refine fw (λv=>I v (Aw w 12)=dU X.2.2/\iR v (U (Q w)+1) (.I iO.K) (.U iO.S) (.S a.p (J iO.P) a.c) (.I iO.F) (.S a.q (J iO.V) a.d) (.U iO.E) (.U iO.G)) (by exact HK _ BU.drew) λhS=>?_;let⟨v,fK⟩:=aF wc.drew;have bd:=kH fK;rw[<-fK]at hS⊢;clear fK;refine iy 0 1 2 3 hS ?_;refine fy 4 (λKK hK=>?_);refine ju (ae HEn v (RV.2.H (aj BU bd))) ?_;rintro z y1⟨pe,ce,rfl,oe,az⟩;refine⟨_,rfl,?_⟩;have B1:=aj bd az;refine bS hK (by exact HK y1 (aj BU B1)) λhS=>?_;clear hK KK;refine tn 5 hS ?_;refine fy 6 (λKK hK=>?_);refine ju (show Cp 58 #[zQ (X.2.2+1) (.S pe L ce)] y1 _ from bU1 eL oe.rd HBy af af af) ?_;rintro z v2⟨pr,cr,rfl,or,aA⟩;refine⟨_,rfl,?_⟩;have B2:=aj B1 aA;refine bS hK (by exact HK v2 (aj BU B2)) λhS=>?_;clear hK KK;refine tn 7 hS ?_;refine fQ ?_;have KD:=ai (ae KC v2 B2);have BU:=ai (aj BU B2);have OR:=bG or.rd or;have EC:O (L+14=J (Gc X.2.2 iO)):=by show _=_;rw[ar8,ae eL]
     obtain⟨H0,-,-,-,-⟩:=ae HC v2 (aj He BU);obtain⟨-,-,-,CO,-⟩:=ae HO v2 BU;have i00:=H0.1 0 _ rfl;have i12:=H0.1 12 _ rfl;let⟨n0,n1,n2,n3,n4,n5,n6,n7,n8,n9,na,nb,nc⟩:=CO.iD;have nf:=CO.2;have wf:jY jV ((J X.1:Int)+((L+14:Nat):Int))=(J X.1:Int)+((L+14:Nat):Int):=nW _ af;clear hS oe az aA B1 B2 or bd KC HK HBy HEn H0 CO;by_cases hf:4000<J X.1+(L+14)
     case' pos=>
       have hf':(4000:Int)<(J X.1:Int)+((L+14:Nat):Int):=af;let kf:Int:=11;have FT:O (Z=(lD kf,X)):=by show _=_;rw[<-ae eZ];unfold ui;rw[ae eD,aK (ae HJ),aJ (show¬2^62<=X.2.2 by omega),aK (ae EC▸hf)]
       go_wp21
       clear i00 i12 n0 n1 n2 n3 n4 n5 n6 n7 n8 n9 na nb nc nf
       go_name_world y0 hy0
       rw[hy0]at BU
     case' neg=>
       have hf':¬(4000:Int)<(J X.1:Int)+((L+14:Nat):Int):=af;have HS:O (Z=(D'.2,X.1++Gc X.2.2 iO,D'.1,X.2.2+1)):=by show _=_;rw[<-ae eZ];unfold ui;rw[ae eD,aK (ae HJ),aJ (show¬2^62<=X.2.2 by omega),aJ (ae EC▸hf)]
       obtain⟨l',el⟩:∃l',O (l'=X.1++Gc X.2.2 iO):=⟨_,ai rfl⟩;rw[<-ae el]at HS;have hB:Rd v2 (.S pr (J (Gc X.2.2 iO)) cr) (Gc X.2.2 iO):=ae EC▸OR.1;have hlC:J (Gc X.2.2 iO)=L+14:=EC.C;obtain⟨O3,-,-,CO,TO⟩:=ae HO v2 BU;have SQ:=λb e=>aE (O3.o0.lt b e).1 (ae HG b e);have H2:=ai (ae HC v2 (aj He BU));have O2:=eG O3 CO TO;have zC:=BU.size;have oL:=O3.o0;have HGL:=ai SQ;have HLC:=ai hlC;have LB:=ai hB;rw[ae EC]at hf' wf⊢;clear O3 CO TO SQ OR EC hL hlC hB;go_wp2_with(at_builtin;refine aN0 rfl rfl (v:=.S A'.p0 (J X.1) A'.c0) (m:=Gc X.2.2 iO) el (p:=pr) (c:=cr) rfl rfl oL LB (aM (ae HLC)) af ?_);intro p' c' w3 o0 hg;have SQ:=ae HGL;have KX:O (∀b,jB (Value.slice A'.p0 (J X.1) A'.c0)≠Y b->b<U (Q v2)->w3.heap[b]?=v2.heap[b]?):=λb h1 h2=>hg.block b h2 (λe=>h1 e.C);have Ew:∀b,b<U (Q W3)->w3.heap[b]?=v2.heap[b]?:=λb hb=>ae KX b (λe=>aM (SQ b e).1) af;have xg:∀b,U (Q v1)<=b->b<U (Q v2)->w3.heap[b]?=v2.heap[b]?:=λb h1 h2=>ae KX b (λe=>aM (SQ b e).2) h2;have cw9:=ae bI4;have z8:=my v2 (Ad b8 0) (KD.1.1 0 _ rfl);have z9:=my v2 (Ad b9 0) (KD.2.1.1 0 _ rfl);have XS:=ai (O2.2.1.dt (xg _ aU af));have TO3:=ai ((xg _ aU af).Z O2.2.2);have K8:=KD.1.dt (xg b8 af z8);have K9:=ai (KD.2.1.dt (xg b9 af z9));have RW3:=nK o0 (O2.1.o1.hp (v:=w3) λb e=>ae KX b (λe'=>O2.1.Rc b e' e) (O2.1.o1.lt b e).2) (O2.1.o2.hp (v:=w3) λb e=>ae KX b (λe'=>O2.1.Ra b e' e) (O2.1.o2.lt b e).2) (KD.2.2.1.1.off (w':=w3) λb h1 h2=>xg b af h2) (ld.off (w':=w3) KD.2.2.1.2 λb h1 h2=>xg b af h2);have H3:=nK (H2.2.2.1.dt (Ew _ af)) (H2.2.2.2.1.dt (Ew _ af)) (H2.2.2.2.2.1.grown hg af (λb e=>aM (SQ b e).1)) ((Ew _ af).Z H2.2.2.2.2.2.1) ((Ew _ af).Z H2.2.2.2.2.2.2);have i12:=(H2.1.dt (Ew (U (Q w)) af)).1 12 _ rfl;let⟨n0,n1,n2,n3,n4,n5,n6,n7,n8,n9,na,nb,nc⟩:=XS.iD;have nf:=XS.2;obtain⟨k0,k1,k2,k3,k4,k5,-⟩:=K8.c6;have Dw:¬b8=U (Q v1):=af;have bk7:¬U (Q v1)=b8:=af;have hnw:¬U (Q w)=U (Q v1):=af;have dZ6:¬U (Q v1)=U (Q w):=af;have z33:=hg.size;clear o0 hg SQ KX Ew xg K8 z8 oL i00
       go_wp21
       go_name_world iY hY
       have TT:O (aI0 w (U (Q v1)) b9 M Z iY):=by
         show aI0 _ _ _ _ _ _;rw[ae HS];have KY:∀b,b≠U (Q v1)->iY.heap[b]?=w3.heap[b]?:=λb hb=>by
           rw[<-hY]
           iterate 8 (refine(gh _ _ _ _ (by dsimp only;omega)).Z ?_)
           rfl
         have BY:Below (U (Q v1)) w3 iY:=by
           rw[<-hY]
           iterate 8 (refine Below.setCell ?_ (by dsimp only;omega) _)
           exact bD _ _
         have fY:Fr [46] w3 iY:=FG.T (ty:=46) ⟨BY.size,λb _ hn=>KY b hn⟩ TO3;let⟨e1,e2,e3⟩:=dT4 (D:=X.2.1) HJ.2;rw[ae eD]at e1 e2 e3;refine⟨⟨p',c',A'.p1,A'.c1,A'.p2,A'.c2,p8,c8,q8,d8⟩,a8,?_,K9.dt (KY b9 af),⟨H3.1.dt (KY _ af),H3.2.1.dt (KY _ af),(KY _ af).Z H3.2.2.2.1,(KY _ af).Z H3.2.2.2.2⟩,aV1 (B:=U (Q V1)) (RW3.1.T fY) (RW3.2.1.T fY) (RW3.2.2.1.T fY) (RW3.2.2.2.1.T fY) (du.T RW3.2.2.2.2 fY),λu _=>⟨⟨_,_,rfl,.L e1⟩,⟨_,_,rfl,.L e2⟩,⟨_,_,rfl,.L e3⟩⟩,H3.2.2.1.Z (BY.h af)⟩;rw[<-hY];exact(((((((XS.ew 0 al _).ew 12 al _).ew 6 al _).ew 7 al _).ew 8 al _).ew 9 al _).ew 10 al _).ew 11 al _
       clear hY i12 n0 n1 n2 n3 n4 n5 n6 n7 n8 n9 na nb nc nf k0 k1 k2 k3 k4 k5 Dw hnw bk7 dZ6
 all_goals(first
   | (replace FT:=FT
      refine fw (λv=>SvE v (U (Q v1)) A' M X) (by exact(ae HO _ BU.drew).2.2.2.1.iD) λhS=>?_;let⟨v,fK⟩:=aF y0.drew;have BV:O (Bw V1 v):=fK▸BU.drew;rw[<-fK]at hS⊢;clear fK;refine tn 0 hS ?_;refine fy 1 (λKK hK=>?_);refine ju (aw0) ?_;rintro z y⟨rfl,dr⟩;refine⟨_,rfl,?_⟩;have BY:=ai (aj BV dr);refine bS hK (by exact(ae HO y BY).2.2.2.1.iD) λhS=>?_;clear hK KK dr;have HY:=ai (ae HC y (aj He BY));have HP:=ai (ae HO y BY);refine Vn 2 3 (vs:=D8 A' M X) (vs':=Ec ⟨dN,0,dN,0,dN,0⟩ (lD kf)) HY.2.2.1 HY.2.2.2.1 af ⟨rfl,rfl,by simp[Value.oneCell'],by simp[Value.oneCell']⟩ (λu _ _ W=>(HP.2.2.2.1.dt (W (U (Q v1)) af af)).iD) ?_;intro w' k1 k2 hk bl;refine AJ ?_;have hf:=ag2 (bl 0 (de _) (de _)).size hk ⟨_,HY.2.2.2.2.2.1⟩ ⟨_,HY.2.2.2.2.2.2⟩;have HF:O (Xx w' A' M X/\Bw w w'):=⟨aV1 (HP.1.o0.T hf) (HP.1.o1.T hf) (HP.1.o2.T hf) (HP.2.1.T hf) (du.T HP.2.2.1 hf),HY.2.2.2.2.1.Z (bl _ af af)⟩;have i0:=k1.iD;let⟨j0,j1,j2,j3,j4,j5,j6,j7⟩:=k2.r8;clear k1 k2 hk bl hf HP HY hS;go_wp2;refine cX (v:=dT #[zL A' M X,wC ⟨dN,0,dN,0,dN,0⟩ (lD kf)]) (by simp[results,results23,go_sem,i0,j0,j1,j2,j3,j4,j5,j6,j7]) rfl ?_;rw[ae FT];exact⟨A',⟨dN,0,dN,0,dN,0⟩,rfl,HF.1,IZ.num _ _ _ _ _ _,HF.2⟩)
   | (obtain⟨PN,a9,x1,x2,x3,x4,x5,x6⟩:=ae TT
      have K2:=ai x1;have K9:=ai x2;have H3:=ai x3;have RF:=eG x4 x5 x6;have cw9:=ae bI4;clear TT x1 x2 x3 x4 x5 x6;refine fw (λv=>SvE v (U (Q v1)) PN M Z.2/\RpE v b9 a9 Z.1) (by exact⟨K2.iD,K9.r8⟩) λhS=>?_;let⟨v,fK⟩:=aF iY.drew;have hd:∀b:Nat,v.heap[b]?=iY.heap[b]?:=λb=>by rw[fK];rfl
      have bd:=kH fK;rw[<-fK]at hS⊢;clear fK;refine fu 0 1 hS ?_;refine Vn 2 3 (vs:=D8 PN M Z.2) (vs':=Ec a9 Z.1) (H3.1.dt (hd _)) (H3.2.1.dt (hd _)) af ⟨rfl,rfl,by simp[Value.oneCell'],by simp[Value.oneCell']⟩ (λu _ _ W=>⟨(K2.dt ((W _ af af).Z (hd _))).iD,(K9.dt ((W _ af af).Z (hd _))).r8⟩) ?_;intro w' k1 k2 hk bl;refine AJ ?_;have hf:Fr [46,50] iY w':=ag2 (gq bd.size (bl 0 (de _) (de _)).size) (λc h1 h2=>(hk c h1 h2).Z (hd c)) ⟨_,H3.2.2.1⟩ ⟨_,H3.2.2.2⟩;have HF:O (Xx w' PN M Z.2/\IZ w' a9 Z.1/\Bw w w'):=⟨λu W=>RF.1 u (hf.Z W),λu W=>RF.2.1 u ((hf.sub al).Z W),RF.2.2.Z ((bd.h RF.2.2.size).Z (bl _ af af))⟩;have i0:=k1.iD;let⟨j0,j1,j2,j3,j4,j5,j6,j7⟩:=k2.r8;clear k1 k2 hk bl hS hf hd bd;go_wp2;refine cX (v:=dT #[zL PN M Z.2,wC a9 Z.1]) (by simp[results,results23,go_sem,i0,j0,j1,j2,j3,j4,j5,j6,j7]) rfl ?_;exact⟨PN,a9,rfl,HF.1,HF.2.1,HF.2.2⟩)))
variable {P:Program}{xs:Array Operand}{vs:iA}
theorem sXw{iZ:iE}{E:Prop}(hc:dQ P f vs w R)(hR:∀e w',R e w'->∃v,e=dR v/\K (a.put o.dst v) w')(hw:jW o (yielded ops a.tmps))(ho:o.op=.call {callee:=.value (.func f),args:=xs,argTypes:=ud})(h1:xs.map a.eval=vs)(lG:∀vs,(callFunc f vs).run P w=.ok (.enter f vs) w):if jW o (yielded ops a.tmps)then Oper.wp P o a w K iZ else E:=by
 rw[aK hw];have gx:(execOp a.eval o).run P w=.ok (.enter f vs) w:=by subst h1;unfold execOp;simp[go_sem,ho,resolve,invoke,lG]
 show o.upon P a K iZ _;rw[gx,VF];refine hc.h ?_;intro e w' h;obtain⟨v,rfl,hk⟩:=hR e w' h;exact hk
theorem sOw{iZ:iE}{E:Prop}{ud:Array TypeId}{x:Operand}(hc:dQ P f #[v] w R)(hR:∀e w',R e w'->∃v,e=dR v/\K (a.put o.dst v) w')(hw:jW o (yielded ops a.tmps):=by rfl)(ho:o.op=.call {callee:=.value (.func f),args:=#[x],argTypes:=ud}:=by rfl)(h1:a.eval x=v:=by rfl)(lG:∀vs,(callFunc f vs).run P w=.ok (.enter f vs) w:=by(intro _;kernel_rfl)):if jW o (yielded ops a.tmps)then Oper.wp P o a w K iZ else E:=sXw hc hR hw ho (by simp[h1]) lG
theorem sTw{iZ:iE}{E:Prop}{ud:Array TypeId}{x y:Operand}{u:dV}(hc:dQ P f #[u,v] w R)(hR:∀e w',R e w'->∃v,e=dR v/\K (a.put o.dst v) w')(hw:jW o (yielded ops a.tmps):=by rfl)(ho:o.op=.call {callee:=.value (.func f),args:=#[x,y],argTypes:=ud}:=by rfl)(h1:a.eval x=u:=by rfl)(h2:a.eval y=v:=by rfl)(lG:∀vs,(callFunc f vs).run P w=.ok (.enter f vs) w:=by(intro _;kernel_rfl)):if jW o (yielded ops a.tmps)then Oper.wp P o a w K iZ else E:=sXw hc hR hw ho (by simp[h1,h2]) lG
abbrev VaS(b z:Nat)(q:Int)(S:fD)(p:OA)(c:Nat)(r:OA)(d:Nat)(T:fD)(p':OA)(c':Nat)(r':OA)(d':Nat)(v:G):Prop:=(I v (Ad b 12)=dU q/\I v (Ad b 6)=dU S.e/\I v (Ad b 7)=dU S.g/\I v (Ad b 8)=dU S.x/\I v (Ad b 9)=dI S.t/\I v (Ad b 10)=dS p (J S.E) c/\I v (Ad b 11)=dS r (J S.N) d)/\I v (Ad z 0)=dU T.e/\I v (Ad z 1)=dU T.g/\I v (Ad z 2)=dU T.x/\I v (Ad z 3)=dI T.t/\I v (Ad z 4)=dS p' (J T.E) c'/\I v (Ad z 5)=dS r' (J T.N) d'
theorem aP0:∀rs:List R1,J rs<=mi rs
 |[]=>fS _
 |r::rs=>by have:=aP0 rs;simp only[mO,mi];omega
theorem ck9{r:R1}(h:rs[J rs-1]?=r):tC rs=r.1:=by rw[tC,au8,h];rfl
theorem di1{n s n1 c1 n2 c2 k c m d:Nat}{s0 s1 s2 e x:Int}(el:Le l n)(h:Rd w (.S p0 n s) l)(hB:O (aD l))(hn:Mg n)(hc:n<=s)(qn:O (s<=maxLen))(hp:O ((p0=dN/\s=0)\/∃b o,p0=(Ad b o))):dQ dG 65 #[Jq (.S p0 n s) s0 (.S p1 n1 c1) s1 (.S p2 n2 c2) s2 e g x t (.S p k c) (.S r m d) q] w (UM (LgP l q) w):=by
 obtain⟨W,hW,b1,z1,C1,-⟩:=cR w #[.S p0 n s,.I s0,.S p1 n1 c1,.I s1,.S p2 n2 c2,.I s2,.U e,.U g,.U x,.I t,.S p k c,.S r m d,.U q] 46;go_in
 go_wp21
 rw[<-hW];refine(co4 (h.H b1) hB el hn hc qn hp).h ?_;rintro z w1⟨P,C,vs,rfl,o,hb⟩;let⟨j,GH⟩:=cg (rl l);let⟨K,M⟩:=cg (J j);let⟨T,Z⟩:=cg (mi j);rw[ae GH,ae M]at o⊢;rw[ae Z];have hT:T<=n:=by rw[<-ae Z,<-ae GH,<-ae el];exact bR5 _ _ hB
 have hK:K<=T:=by rw[<-ae Z,<-ae M];exact aP0 j
 have nc:=(C1.H af hb).1 12 _ rfl;have V:=ai (aj b1 hb);have N:O (LgP l q↔(n<=4000/\T=n/\(K=0\/tC j=q))):=by show _↔_;rw[LgP,ae GH,ae Z,ae el,<-ae M,uJ]
 by_cases h4:n<=4000;{
 have Po:¬(4000:Int)<(n:Int):=af;by_cases X:T=n;{
 have V9:=ga T n;by_cases h0:K=0;{
 go_wp2
 go_quiet (fail)
 go_wp2;go_ret;exact .yes (by rw[ae N];simp[h4,X,h0]) (below_drewN V)};{
 have WM:((K:Int)==0)=dF:=by simp[h0]
 obtain⟨y,hy⟩:∃y,j[J j-1]?=Y y:=⟨_,bN (aM (ae M))⟩;have hl:=ai (ck9 hy);rw[ae M]at hy;obtain⟨rb,ro,rq,rd,rfl,cq,-,-,-,-⟩:=o.rct.at hy;have wk:jY jV ((K:Int)-1)=((K-1:Nat):Int):=by rw[nW _ af];omega
 by_cases hq:y.1=q;{
 go_wp2
 go_quiet (fail)
 go_wp2;go_ret;exact .yes (by rw[ae N,ae hl];simp[h4,X,hq]) (below_drewN V)};{
 have mQ:(y.1==q)=dF:=by simp[hq]
 go_wp2
 go_quiet (fail)
 go_wp2;go_ret;exact .no (by rw[ae N,ae hl];simp[h4,X,hq,h0]) (below_drewN V)}}};{have V9:=cM T n;go_wp2;go_ret;exact .no (by rw[ae N];simp[X]) V}};{have Po:=uX 4000 n;go_wp2;go_ret;exact .no (by rw[ae N];simp[h4]) V}
theorem vaW{iZ:Prop}(h':iZ:=by
 let⟨Bl,eBl⟩:=cg (⟨e,g,x,u,ss,ns⟩:fD).B;let⟨Sl,eSl⟩:=cg S.B;let⟨bn,GM⟩:=cg (J Bl);let⟨sn,esn⟩:=cg (J Sl);have E1:=ai (ae F1 _ (ae eBl▸GM));have E2:=ai (ae F2 _ (ae eSl▸esn));have Y1:=ai (HV.1.bytes HV.2).2;have Y2:=ai (hG.bytes Kn).2;rw[ae eBl]at E1 Y1 HP;rw[ae eSl]at E2 Y2 HP;clear HV HG F1 F2;let⟨⟨i0,i1,i2,i3,i4,i5,i6,i7,i8,i9,ia,ib,ic⟩,j0,j1,j2,j3,j4,j5,jf⟩:=ae HS5 W5 db
 first|have bb:=(ae HA W5 B5).2.2.2.2|have bb:=(ae HA W5 B5).2.2
 by_cases h1:cd=0;{
 by_cases h2:sq=q;{
 subst h1 h2;refine fw (λv=>VaS (U w.heap) (U v4.heap) sq S p c r d ⟨e,g,x,u,ss,ns⟩ ps cs pn cn v) (by exact⟨⟨ic,i6,i7,i8,i9,ia,ib⟩,j0,j1,j2,j3,j4,j5⟩) λhS=>?_;have Qx:=ai (λ(v:G)(hv:Bw W5 v)=>(λk=>(⟨⟨k.1.2.2.2.2.2.2.2.2.2.2.2.2,k.1.2.2.2.2.2.2.1,k.1.2.2.2.2.2.2.2.1,k.1.2.2.2.2.2.2.2.2.1,k.1.2.2.2.2.2.2.2.2.2.1,k.1.2.2.2.2.2.2.2.2.2.2.1,k.1.2.2.2.2.2.2.2.2.2.2.2.1⟩,k.2.1,k.2.2.1,k.2.2.2.1,k.2.2.2.2.1,k.2.2.2.2.2.1,k.2.2.2.2.2.2.1⟩:VaS (U w.heap) (U v4.heap) sq S p c r d ⟨e,g,x,u,ss,ns⟩ ps cs pn cn v)) (ae HS5 v hv));have BV:=ai (bD (U W5.heap) W5).drew;let⟨v,fK⟩:=aF W5.drew;rw[<-fK]at BV hS⊢;clear fK i0 i1 i2 i3 i4 i5 i6 i7 i8 i9 ia ib ic j0 j1 j2 j3 j4 j5 jf HS5 bb;refine gr 0 1 2 3 4 5 6 7 hS ?_;refine iy 8 9 11 12 hS ?_;refine fy 10 (λKK hK=>?_);refine sOw (ae E1 _ BV) ?_;rintro z v6⟨P,C,rfl,o6,je⟩;refine⟨_,rfl,?_⟩;have B6:=ai (aj BV je);have O6:=ai o6.rd;refine bS hK (by exact Qx _ B6) λhS=>?_;clear hK KK je o6 BV;refine fy 13 (λKK hK=>?_);refine sOw (ae E2 _ B6) ?_;rintro z v7⟨P2,C2,rfl,o7,Iv⟩;refine⟨_,rfl,?_⟩;have B7:=ai (aj B6 Iv);have O7:=bG (O6.H Iv) o7.rd;refine bS hK (by exact Qx _ B7) λhS=>?_;clear hK KK Iv o7 B6 O6;refine fy 14 (λKK hK=>?_)
 first|(have T0:=bv5;refine sTw (ai9 GM esn O7.1 O7.2 Y1 Y2) ?_)|refine sTw (Sc GM esn O7.1 O7.2 Y1 Y2) ?_
 rintro z v8⟨rfl,EW⟩;refine⟨_,rfl,?_⟩;have B8:=ai (aj B7 EW);refine bS hK (by exact Qx _ B8) λhS=>?_;clear hK KK EW B7 O7;refine fu 15 16 hS ?_;refine fQ ?_
 first|have bb:=(ae HA v8 (aj B5 B8)).2.2.2.2|have bb:=(ae HA v8 (aj B5 B8)).2.2
 go_wp2;go_ret;exact⟨dD (Bl=Sl),(by show _↔_;rw[ae HP];simp),rfl,bb⟩};{
 have h2':(sq==q)=dF:=by simp[h2]
 subst h1
 go_quiet (fail)
 go_wp2;go_ret;exact .no (by rw[ae HP];simp[h2]) (below_drewN bb)}};{
 have Cm:(cd==0)=dF:=by simp[h1]
 go_quiet (fail)
 go_wp2;go_ret;exact .no (by rw[ae HP];simp[h1]) (below_drewN bb)}):iZ:=h'
theorem dn0{B:Nat}{V N M c d:Nat}{D:Dk}(h:IY B w p0 V p1 N p2 M p c r d D S)(hl:J D.l0+J D.l1+J D.l2<=2^20)(hG:O (SG S))(Z:O (aD D.l0))(y1:O (aD D.l1))(hM:ML w)(hT:uz w)(dop:LI->Option Rq)(hd:O (∀l,zx l (dop l))):dQ dG 27 #[yA p0 V p1 N p2 M p c r d D S q] w (UM (Fs dop D S q) w):=by
 obtain⟨W,hW,X,z1,C1,-⟩:=cR w #[.S p0 (J D.l0) V,.I D.n0,.S p1 (J D.l1) N,.I D.n1,.S p2 (J D.l2) M,.I D.n2,.U S.e,.U S.g,.U S.x,.I S.t,.S p (J S.E) c,.S r (J S.N) d,.U q] 46;have HA:=ai (λ(v:G)(hv:Bw W v)=>aE (C1.H af hv) (aE (h.H (aj X hv)) (aE (hM.H (aj X hv)) (aE (show uz v fromλk i1 i2=>(hT k i1 i2).H (aj X hv)) (aj X hv)))));go_in
 go_wp21
 rw[<-hW];refine cL (co3 af af af) λv1 az=>?_;let⟨ok,s⟩:=cg (sF (J D.l0) D.n0 (J D.l1) D.n1 (J D.l2) D.n2);rw[ae s];have BV:=ai az;cases ok with
 |false=>
  go_wp2;go_ret;exact .no (λe=>by have:=e.1;rw[Dk.ok,ae s]at this;cases this) ((ae HA v1 BV).2.2.2.2)
 | true=>
  let⟨i0,i1,i2,i3,i4,i5,i6,i7,i8,i9,ia,ib,ic⟩:=(ae HA v1 BV).1.iD
  go_wp21
  have H:=ai (ae HA v1 BV);let⟨ok2,Kn⟩:=cg (nT S.e S.g S.x S.t S.E S.N);refine cL (bh2 rfl rfl H.2.1.2.1 H.2.1.2.2 hG.n hG.m hG.bs hG.bn hG.nu hG.ou H.2.2.1 Kn) λv2 aA=>?_;have E:=ai (aj BV aA);cases ok2 with
  |false=>
   go_wp2;go_ret;exact .no (λe=>by have:=e.2.1;rw[fD.ok,ae Kn]at this;cases this) ((ae HA v2 E).2.2.2.2)
  | true=>
   let⟨i0,i1,i2,i3,i4,i5,i6,i7,i8,i9,ia,ib,ic⟩:=(ae HA v2 E).1.iD
   go_wp21
   have H:=ai (ae HA v2 E).2.1.1;refine(di1 rfl H.o0.rd Z af H.o0.cap H.o0.GR H.o0.Xp.1).h ?_;rintro z j⟨ok3,bv5,rfl,aL⟩;have y:=ai (aj E aL);cases ok3 with
   |false=>
    go_wp2;go_ret;exact .no (λe=>by have:=bv5.2 e.2.2.1;cases this) ((ae HA j y).2.2.2.2)
   |true=>
    let⟨i0,i1,i2,i3,i4,i5,i6,i7,i8,i9,ia,ib,ic⟩:=(ae HA j y).1.iD;have hd1:D.n1<=J D.l1:=by have:=ae s;simp only[sF,gP]at this;have:=aC9 this.1.2;omega
    by_cases hn:D.n1<J D.l1;{go_wp2;go_ret;exact .no (λe=>aM e.2.2.2.1) ((ae HA j y).2.2.2.2)};{
 go_wp21
 have H:=ai (ae HA j y);let⟨R,eR⟩:=cg (BN dop D.l0 D.l1 dY);let⟨HG,HC⟩:=aQ (ldG hd Z y1 af dY) (ldC dop (l0:=D.l0) (l1:=D.l1));rw[ae eR]at HG HC;refine(dU9 p0 p1 p2 _ V _ N _ M D.n0 D.n1 D.n2 D.l0 D.l1 rfl rfl j H.2.1.1.o0.rd H.2.1.1.o1.rd af af af H.2.1.1.o0.cap H.2.1.1.o1.cap H.2.1.1.o0.GR H.2.1.1.o1.GR H.2.1.1.o0.Xp.1 H.2.1.1.o1.Xp.1 Z y1 H.2.2.1 H.2.2.2.1 dop hd dY s _ eR).h ?_;rintro z v4⟨⟨ps,cs,pn,cn,rfl,o4⟩,dz⟩;obtain⟨⟨e,g,x,u,ss,ns⟩,sq,cd⟩:=R;obtain⟨W5,Iw,b5,z5,C5,-⟩:=cR v4 #[.U e,.U g,.U x,.I u,.S ps (J ss) cs,.S pn (J ns) cn] 44
 go_wp21
 rw[<-Iw];clear Iw;have B5:=ai (aj (aj y dz) b5);have HV:=bG HG.v.sg HG.v.ok;let⟨HS5,O5⟩:=aQ (λ(v:G)(hv:Bw W5 v)=>aE (ae HA v (aj (ae B5) hv)).1.iD (C5.H af hv).c6) (o4.H b5);have HP:O (Fs dop D S q↔(cd=0/\sq=q/\(⟨e,g,x,u,ss,ns⟩:fD).B=S.B)):=by show _↔_;rw[Fs,ae eR];exact⟨λh=>h.2.2.2.2,λh=>⟨s,Kn,bv5.1 al,ae (ai (by omega)),h⟩⟩
 let⟨F1,F2⟩:=aQ (λ(L:Nat)eL=>HV.1.cH3 HV.2 O5.QU.1 O5.QU.2 (ae HA W5 B5).2.2.1 (L:=L) eL) (λ(L:Nat)eL=>hG.cH3 Kn (ae HA W5 B5).2.1.2.1 (ae HA W5 B5).2.1.2.2 (ae HA W5 B5).2.2.1 (L:=L) eL);exact vaW}
def fD.d(S:fD):SD:=⟨S.e,S.g,S.x,S.t,S.E,S.N⟩
def SD.s(D:SD):fD:=⟨D.e,D.g,D.x,D.t,D.E,D.N⟩
abbrev Dk.m(D:Dk):Dm:=⟨D.n0,D.l1,D.n1,D.l2,D.n2⟩
abbrev Dm.k(M:Dm)(l:LI):Dk:=⟨l,M.n0,M.l1,M.n1,M.l2,M.n2⟩
theorem SG.vd(iG:SG S)(h:S.ok):VD S.d:=VD.of h (iG.IG h) iG.g.1 iG.x.1 (λs j e he=>((iG.bs s j).2 e he).1) iG.bv iG.e.1 λi m=>(iG.ep i m).1.1
theorem SD.sg(h:VD D):SG D.s/\D.s.ok:=⟨VD.sg (S:=D.s) h,h.ok⟩
abbrev Xw:=Dk×fD×Int×RP
def sbR(D:Dk)(S:fD)(q:Int)(iO:rj):Xw:=(D.m.k (ui (D.l0,S.d,q) iO).2.1,(ui (D.l0,S.d,q) iO).2.2.1.s,(ui (D.l0,S.d,q) iO).2.2.2,(ui (D.l0,S.d,q) iO).1)
def SbT(dop:LI->Option Rq)(D:Dk)(S:fD)(q:Int)(iO:rj)(T:Xw):Prop:=(Fs dop D S q->T=sbR D S q iO)/\(¬Fs dop D S q->T=(dk0,uf,0,lD 1))
theorem Fs.dmg(s:∀l,zx l (dop l)){D:Dk}(h:Fs dop D S q)(iG:SG S)(o:aD D.l0)(j:aD D.l1)(r:J D.l1<=2^20):DmG D.m (D.l0,S.d,q):=by
 have hq:=(ldG s o j r dY).q;rw[h.2.2.2.2.2.1]at hq;have i:=Dk.ok.len h.1;exact⟨h.1,i.2.1,i.2.2,iG.vd h.2.1,hq.1,h.2.2.1.1⟩
theorem bX9{M:Dm}{X:uY}(h:DmG M X){iO:rj}(m:aD iO.P)(j:aD iO.V):VD (ui X iO).2.2.1/\(ui X iO).2.1.length<=4000:=by
 have i:VD (Cu X.2.1 iO).1:=h.v.apply m j;unfold ui;split;{split;{exact⟨h.v,h.n⟩};{split;{exact⟨h.v,h.n⟩};{exact⟨i,by show J (X.1++_)<=_;rw[fe];omega⟩}}};{exact⟨i,h.n⟩}
def Un(w:G)(T:Xw)(z:Ending)(w':G):Prop:=∃q x o u m s p c r d a j i,z=dR (dT #[yA q x o u m s p c r d T.1 T.2.1 T.2.2.1,wC a T.2.2.2])/\(U (Q w)<=j/\U (Q w)<=U (Q i)/\U (Q i)<=U (Q w'))/\tY j i (wC a T.2.2.2) T.2.2.2/\(∀b,j<=b->b<U (Q i)->w'.heap[b]?=i.heap[b]?)/\(∃M B y,uA (U (Q i)) M w' B y q x o u m s p c r d T.1 T.2.1)/\Bw w w'
theorem uA.zero(B:Nat)(w:G):∃M A1 A2,uA B M w A1 A2 dN 0 dN 0 dN 0 dN 0 dN 0 dk0 uf:=by
 let⟨A1,A2,i⟩:=pW.zero B w;exact⟨B,A1,A2,⟨Own.nil _ _,Own.nil _ _,Own.nil _ _,(λb e=>by cases e),(λb e=>by cases e),(λb e=>by cases e)⟩,(by rintro b(e|e|e)<;>cases e),fS _,i⟩
theorem uA.h{B B' M:Nat}{o m j c d:Nat}{D:Dk}(h:uA B M w A1 A2 p0 o p1 m p2 j p c r d D S)(i:B'<=B):uA B' M w A1 A2 p0 o p1 m p2 j p c r d D S:=⟨h.1.h i,h.2.1,gq i h.2.2.1,h.2.2.2⟩
theorem Un.zero(h:Bw w w'):Un w (dk0,uf,0,lD 1) (dR (dT #[Jq ay 0 ay 0 ay 0 0 0 0 0 ay ay 0,ij 1 0 0 0 0 aN aN aN])) w':=⟨dN,0,dN,0,dN,0,dN,0,dN,0,⟨dN,0,dN,0,dN,0⟩,_,w',rfl,⟨fS _,h.size,fS _⟩,tY.num _ _ _ _ _ _ _,λ_ _ _=>rfl,uA.zero _ _,h⟩
theorem dU7{B:Nat}(p0 p1 p2 p r:OA)(c0 c1 c2 c d:Nat)(D:Dk)(S:fD)(q:Int)(a:Pq)(iO:rj)(w:G)(h:IY B w p0 c0 p1 c1 p2 c2 p c r d D S)(hO:Cy w a iO)(hl:J D.l0+J D.l1+J D.l2<=2^20)(hG:O (SG S))(g:O (OG a iO))(y0:O (aD D.l0))(y1:O (aD D.l1))(hM:ML w)(hT:uz w)(hE:XQ w)(dop:LI->Option Rq)(hd:O (∀l,zx l (dop l)))(T:Xw)(eT:O (SbT dop D S q iO T)):dQ dG 9 #[yA p0 c0 p1 c1 p2 c2 p c r d D S q,BH a iO] w (Un w T):=by
 obtain⟨W0,cT,q0,z0,C0,-⟩:=cR w #[.S p0 (J D.l0) c0,.I D.n0,.S p1 (J D.l1) c1,.I D.n1,.S p2 (J D.l2) c2,.I D.n2,.U S.e,.U S.g,.U S.x,.I S.t,.S p (J S.E) c,.S r (J S.N) d,.U q] 46;obtain⟨W1,fT,q1,z1,C1,-⟩:=cR W0 (NF a iO).toArray 54;obtain⟨W2,fW,q2,z2,C2,-⟩:=cR W1 zS.toArray 46;obtain⟨W3,ky,q3,z3,C3,-⟩:=cR W2 zR.toArray 50;rw[z0]at C1 z1;rw[z1]at C2 z2;rw[z2]at C3 z3;have bW:=aj q0 (aj q1 (aj q2 q3));let⟨HA,HZ⟩:=aQ (λ(v:G)(N:Bw W3 v)=>aE ((((C0.H af q1).H af q2).H af q3).H af N).iD (aE (h.H (aj bW N)) (aE (hM.H (aj bW N)) (aE (show uz v fromλk i1 i2=>(hT k i1 i2).H (aj bW N)) (aE (show XQ v from aq hE (aj bW N)) (aE ((C2.H af q3).H af N) (aE (C3.H af N) (aE (aj bW N) (aE (hO.H (aj bW N)) (((C1.H af q2).H af q3).H af N)))))))))) z3;clear q0 q1 q2 q3 C0 C1 C2 C3 bW h hO hM hT hE z0 z1 z2 z3;go_in
 go_wp21
 rw[<-cT,<-fT,<-fW,<-ky];clear cT fT fW ky;have H:=ai (ae HA W3 db);refine(dn0 H.2.1 hl hG y0 y1 H.2.2.1 H.2.2.2.1 dop hd).h ?_;rintro z V⟨ok,ox,rfl,az⟩;have BV:=ai az;clear az H;cases ok with
 |true=>
  have HP:O (Fs dop D S q):=ox.1 al;have SG2:=ai (HP.dmg hd hG y0 y1 af);let⟨R,eR⟩:=cg (ui (D.l0,S.d,q) iO);have ET:O (T=(D.m.k R.2.1,R.2.2.1.s,R.2.2.2,R.1)):=ai (by rw[eT.1 (ae HP),sbR,ae eR]);have HR:=ai (bX9 SG2 g.bp g.bv);rw[ae eR]at HR;have H:=ai (ae HA V BV);let⟨i0,i1,i2,i3,i4,i5,i6,i7,i8,i9,ia,ib,ic⟩:=H.1;have oo:=H.2.2.2.2.2.2.2.2.2;have j0:=aE (oo.1 0 _ rfl) (aE (oo.1 1 _ rfl) (aE (oo.1 2 _ rfl) (aE (oo.1 3 _ rfl) (aE (oo.1 4 _ rfl) (aE (oo.1 5 _ rfl) (oo.1 6 _ rfl))))));clear ox eT oo
  go_wp21
  clear i0 i1 i2 i3 i4 i5 i6 i7 i8 i9 ia ib ic j0;have iI:=H.2.1;refine(dn3 (A:=⟨p0,c0,p1,c1,p2,c2,p,c,r,d⟩) (M:=D.m) (X:=(D.l0,S.d,q)) SG2 g ⟨iI.1.o0.rd,iI.1.o1.rd,iI.1.o2.rd,iI.2.1,iI.2.2⟩ H.2.2.2.2.2.2.2.2.1 H.2.2.1 H.2.2.2.1 H.2.2.2.2.1).h ?_;clear iI;rw[ae eR];rintro z W⟨A,a9,rfl,RI,RL,aL⟩;obtain⟨W6,hW6,b6,z6,C6,-⟩:=cR W (D8 A D.m R.2).toArray 46;obtain⟨W7,hW7,b7,z7,C7,-⟩:=cR W6 (Ec a9 R.1).toArray 50;rw[z6]at C7;let⟨B7,Z,R7⟩:=gC (aj BV (aj aL (aj b6 b7))) (λ(v:G)(N:Bw W7 v)=>aE ((C6.H af b7).H af N) (C7.H af N)) (RI.H (aj b6 b7));have RL7:=bG RL (aj b6 b7);have z3:=aL.size;let⟨i0,i1,i2,i3,i4,i5,i6,i7,i8,i9,ia,ib,ic⟩:=(ae Z W7 db).1.iD;let⟨j0,j1,j2,j3,j4,j5,j6,j7⟩:=(ae Z W7 db).2.r8;rw[hW7,hW6]at i0 i1 i2 i3 i4 i5 i6 i7 i8 i9 ia ib ic j0 j1 j2 j3 j4 j5 j6 j7;have gv:=ae HZ;have Sg:=BV.size;have hz7:U (Q W7)=U (Q W)+1+1:=af;have HZ7:=ai hz7;clear C6 C7 b6 b7 z6 z7 aL RI RL H hz7
  go_wp21
  rw[<-hW6,<-hW7];clear hW6 hW7 i0 i1 i2 i3 i4 i5 i6 i7 i8 i9 ia ib ic j0 j1 j2 j3 j4 j5 j6 j7;refine fw (λv=>SvE v (U (Q W)) A D.m R.2/\RpE v (U (Q W)+1) a9 R.1) (by exact⟨(ae Z _ mC).1.iD,(ae Z _ mC).2.r8⟩) λhS=>?_;let⟨v,fK⟩:=aF W7.drew;have Bv:O (Bw W7 v):=fK▸mC;rw[<-fK]at hS⊢;clear fK;refine fu 0 2 hS ?_;refine fy 1 (λKK hK=>?_);have RV:=ai (R7.H Bv);have iG:=SD.sg HR.1;have hm:=ae SG2;refine ju (dn2 A.p0 A.p1 A.p2 A.c0 A.c1 A.c2 (D.m.k R.2.1) R.2.2.1.e R.2.2.1.g R.2.2.1.x R.2.2.1.t R.2.2.2 A.p A.r _ A.c _ A.d R.2.2.1.E R.2.2.1.N v (SG.dp6 (S:=R.2.2.1.s) iG.1 iG.2 RV.2.2.2.1 RV.2.2.2.2) RV.1 RV.2.1 RV.2.2.1 (by have:=HR.2;show J R.2.1<=_;omega) hm.m1 hm.m2) ?_;clear iG hm;rintro z v6⟨p6,c6,p7,c7,p8,c8,p9,c9,pa,ca,rfl,Mx,hMx,O6,aH,SO,je⟩;refine⟨_,rfl,?_⟩;obtain⟨A1,A2,uP⟩:=SO;let⟨HX,B6⟩:=aQ (show uA (U (Q v)) Mx v6 A1 A2 p6 c6 p7 c7 p8 c8 p9 c9 pa ca (D.m.k R.2.1) R.2.2.1.s from⟨O6,aH,hMx,uP⟩) (aj Bv je);have zz:=B7.size;have zv:=Bv.size;have z66:=je.size;refine bS hK (by exact⟨(ae Z v6 B6).1.iD,(ae Z v6 B6).2.r8⟩) λhS=>?_;clear hK KK O6 aH hMx uP je;have H:=ai (ae HA v6 (aj B7 B6));refine Vn 3 4 (vs:=[.S p6 (J R.2.1) c6,.I D.n0,.S p7 (J D.l1) c7,.I D.n1,.S p8 (J D.l2) c8,.I D.n2,.U R.2.2.1.e,.U R.2.2.1.g,.U R.2.2.1.x,.I R.2.2.1.t,.S p9 (J R.2.2.1.E) c9,.S pa (J R.2.2.1.N) ca,.U R.2.2.2]) (vs':=Ec a9 R.1) H.2.2.2.2.2.1 H.2.2.2.2.2.2.1 af ⟨rfl,rfl,by simp[Value.oneCell'],by simp[Value.oneCell']⟩ (λu _ _ hu=>⟨((ae Z v6 B6).1.dt (hu _ af af)).iD,((ae Z v6 B6).2.dt (hu _ af af)).r8⟩) ?_;intro w' k1 k2 hk bl;refine AJ ?_;have zw:=(bl 0 (de _) (de _)).size;have HF:O (uA (U (Q v)) Mx w' A1 A2 p6 c6 p7 c7 p8 c8 p9 c9 pa ca (D.m.k R.2.1) R.2.2.1.s/\Bw w w'/\(∀b,U (Q V)<=b->b<U (Q W)->w'.heap[b]?=W.heap[b]?)):=⟨HX.W λb h1 h2=>hk b af af,H.2.2.2.2.2.2.2.1.Z (bl _ af af),λb h1 h2=>(hk b af af).Z ((B6.block b (aM (ae HZ7))).Z (RL7.2.block b h2))⟩;let⟨i0,i1,i2,i3,i4,i5,i6,i7,i8,i9,ia,ib,ic⟩:=k1.iD;let⟨j0,j1,j2,j3,j4,j5,j6,j7⟩:=k2.r8;clear k1 k2 hk bl hS H HX;go_wp2;refine cX (v:=dT #[yA p6 c6 p7 c7 p8 c8 p9 c9 pa ca (D.m.k R.2.1) R.2.2.1.s R.2.2.2,wC a9 R.1]) (by simp[SD.s,results,results9,go_sem,i0,i1,i2,i3,i4,i5,i6,i7,i8,i9,ia,ib,ic,j0,j1,j2,j3,j4,j5,j6,j7]) rfl ?_;rw[ae ET];have zf:=(show U (Q W)<=U (Q v)/\U (Q v)<=U (Q w')/\U (Q w)<=U (Q V)/\U (Q V)<=U W.heap by have:=ae HZ7;omega);exact⟨p6,c6,p7,c7,p8,c8,p9,c9,pa,ca,a9,U (Q V),W,rfl,⟨af,af,af⟩,RL7.1,HF.2.2,⟨Mx,A1,A2,HF.1.h af⟩,HF.2.1⟩
 |false=>
  have HD:O (T=(dk0,uf,0,lD 1)):=eT.2 λe=>by have:=ox.2 e;simp at this
  have n0:=(ae HA V BV).2.2.2.2.2.1.iD;have nf:=(ae HA V BV).2.2.2.2.2.1.2;have m0:=(ae HA V BV).2.2.2.2.2.2.1.r8;have mf:=(ae HA V BV).2.2.2.2.2.2.1.2;have BB:=(ae HA V BV).2.2.2.2.2.2.2.1;go_wp2;refine cX (v:=dT #[Jq ay 0 ay 0 ay 0 0 0 0 0 ay ay 0,ij 1 0 0 0 0 aN aN aN]) (by simp[results,results9,go_sem,n0,m0]) rfl ?_;rw[ae HD];refine Un.zero ?_
  iterate 21 refine Below.setCell ?_ (by dsimp only;omega) _
  exact BB
theorem SG.bX3(iG:SG S)(h:S.ok){c d L:Nat}(h1:nO w (.S p (J S.E) c) S.E)(h2:iw w (.S r (J S.N) d) S.N)(m:Le S.B L):∀v,Bw w v->Cp 53 #[cO S.e S.g S.x S.t (.S p (J S.E) c) (.S r (J S.N) d)] v λz w'=>∃p' j,z=dR (.S p' L j)/\Own (U (Q v)) w' (.S p' L j) S.B/\Bw v w':=λv i=>by
 obtain⟨e,g,x,t,ss,ns⟩:=S;obtain⟨e,rfl⟩:=JK iG.e.1;obtain⟨g,rfl⟩:=JK iG.g.1;obtain⟨x,rfl⟩:=JK iG.x.1;have a:=iG.e;have b:=iG.g;have f:=iG.x;simp only at a b f;exact cl9 af af af (ai rfl) rfl (h1.H i) (h2.H i) ((iG.sml h).w) m
theorem dP9{B:Nat}{c0 c1 c2 c d:Nat}{D:Dk}(h:IY B w p0 c0 p1 c1 p2 c2 p c r d D S)(hl:J D.l0+J D.l1+J D.l2<=2^20)(hG:O (SG S))(y0:O (aD D.l0))(y1:O (aD D.l1))(dop:LI->Option Rq)(hd:O (∀l,zx l (dop l))):dQ dG 21 #[yA p0 c0 p1 c1 p2 c2 p c r d D S q] w (UM (Fs dop D S q) w):=by
 obtain⟨W,hW,b1,z1,C1,-⟩:=cR w #[.S p0 (J D.l0) c0,.I D.n0,.S p1 (J D.l1) c1,.I D.n1,.S p2 (J D.l2) c2,.I D.n2,.U S.e,.U S.g,.U S.x,.I S.t,.S p (J S.E) c,.S r (J S.N) d,.U q] 46;have HA:=ai (λ(v:G)(hv:Bw W v)=>aE (C1.H af hv) (aE (h.H (aj b1 hv)) (aj b1 hv)));go_in
 go_wp21
 rw[<-hW];refine cL (bT9 af af af) λv1 az=>?_;let⟨ok,ox⟩:=cg (sF (J D.l0) D.n0 (J D.l1) D.n1 (J D.l2) D.n2);rw[ae ox];have BV:=ai az;cases ok with
 |false=>
  go_wp2;go_ret;exact .no (λe=>by have:=e.1;rw[Dk.ok,ae ox]at this;cases this) ((ae HA v1 BV).2.2)
 | true=>
  have i0:=(ae HA v1 BV).1.iD
  go_wp21
  have H:=ai (ae HA v1 BV);let⟨ok2,Kn⟩:=cg (nT S.e S.g S.x S.t S.E S.N);refine cL (aR8 rfl rfl H.2.1.2.1.rd H.2.1.2.2 hG.n hG.m hG.bs hG.bn Kn) λv2 aA=>?_;have s:=ai (aj BV aA);cases ok2 with
  |false=>
   go_wp2;go_ret;exact .no (λe=>by have:=e.2.1;rw[fD.ok,ae Kn]at this;cases this) ((ae HA v2 s).2.2)
  |true=>
   have i0:=(ae HA v2 s).1.iD;by_cases h4:J D.l0<=4000;{
 have Po:¬(4000:Int)<(J D.l0:Int):=af
 go_wp21
 have H:=ai (ae HA v2 s).2.1.1;refine(bU0 H.o0.rd y0 rfl af H.o0.cap H.o0.GR).h ?_;rintro z v3⟨P,C,vs,rfl,o,aL⟩;have Jg:=ai (aj s aL);let⟨rs,M⟩:=cg (rl D.l0);let⟨K,j⟩:=cg (J rs);let⟨T,eT⟩:=cg (mi rs);rw[ae M,ae j]at o⊢;rw[ae eT];have hK:K<=T:=by rw[<-ae eT,<-ae j];exact aP0 rs
 have HO:=ai o.rct;clear aL H s o;have i0:=(ae HA v3 Jg).1.iD;have bb:=(ae HA v3 Jg).2.2;by_cases ht:T=J D.l0;{
 have V9:((T:Int) != (J D.l0:Int))=dF:=by simp[ht]
 by_cases N:D.n1=J D.l1;{
 have tI:(D.n1 != (J D.l1:Int))=dF:=by simp[N]
 change O _ at N
 by_cases h0:K=0
 focus (
  have X:O (rl D.l0=[]\/tC (rl D.l0)=q):=.L (ae M▸Hz (j.Z h0));have WM:¬(0:Int)<(K:Int):=af
  go_wp21
  go_quiet (fail)
  go_wp21
  let⟨V,hV⟩:=aF (v3.drewN nq);rw[<-hV])
 rotate_left;obtain⟨y,hy⟩:∃y,rs[J rs-1]?=Y y:=⟨_,bN (aM (ae j))⟩;have hl:=ai (ck9 hy);rw[ae j]at hy;obtain⟨rb,ro,rq,rd,rfl,cq,-,-,-,-⟩:=HO.at hy;have wk:jY jV ((K:Int)-1)=((K-1:Nat):Int):=by rw[nW _ af];omega
 have WM:=uX 0 K;have fD8:0<K:=af;clear hy;by_cases hq:y.1=q
 focus (
  have X:O (rl D.l0=[]\/tC (rl D.l0)=q):=.R (by rw[ae M,ae hl,hq]);have mQ:(y.1 != q)=dF:=by simp[hq]
  go_wp21
  go_quiet (fail)
  go_wp21
  let⟨V,hV⟩:=aF (v3.drewN nq);rw[<-hV];clear hq mQ cq wk)
 rotate_left
 focus (
  have HF:O (¬(rl D.l0=[]\/tC (rl D.l0)=q)):=by show¬_;rw[ae M,ae hl];rintro(e|e);{rw[e]at j;exact h0 j.C};{simp at e;exact hq e}
  have mQ:(y.1 != q):=by simp[hq]
  go_wp21
  go_quiet (fail)
  go_wp2;go_ret;exact .no (λe=>ae HF e.2.2.1.2.2) (below_drewN bb))
 all_goals(
  have Z:O (Bw W V):=by show Below _ _ _;rw[hV];exact below_drewN Jg
  have H:=ai (ae HA V Z).2.1.1;let⟨R,eR⟩:=cg (BN dop D.l0 D.l1 dY);have HG:=ai (ldG hd y0 y1 af dY);rw[ae eR]at HG;refine(dr1 p0 p1 p2 _ c0 _ c1 _ c2 D.n0 D.n1 D.n2 D.l0 D.l1 rfl rfl V H.o0.rd H.o1.rd af af af H.o0.cap H.o1.cap H.o0.GR H.o1.GR H.o1.Xp.1 y0 y1 dop hd dY ox _ eR).h ?_;rintro z v4⟨⟨ps,cs,pn,cn,rfl,o4⟩,dz⟩;have O4:=ai o4;obtain⟨⟨e,g,x,u,ss,ns⟩,sq,cd⟩:=R;obtain⟨W5,Iw,b5,z5,C5,-⟩:=cR v4 #[.U e,.U g,.U x,.I u,.S ps (J ss) cs,.S pn (J ns) cn] 44
  go_wp21
  rw[<-Iw];clear Iw;have B5:=ai (aj (aj Z dz) b5);have HV:=bG HG.v.sg HG.v.ok;have HS5:=ai (λ(v:G)(hv:Bw W5 v)=>aE (ae HA v (aj (ae B5) hv)).1.iD (C5.H af hv).c6);have O5:=bG (O4.1.H b5) (O4.2.H b5);clear b5 C5 O4;have HP:O (Fs dop D S q↔(cd=0/\sq=q/\(⟨e,g,x,u,ss,ns⟩:fD).B=S.B)):=by show _↔_;rw[Fs,ae eR];exact⟨λh=>h.2.2.2.2,λh=>⟨ox,Kn,⟨h4,(ai (by rw[ae M,ae eT,ht])),X⟩,N,h⟩⟩
  let⟨F1,F2⟩:=aQ (λ(L:Nat)eL=>HV.1.bX3 HV.2 O5.1 O5.2 (L:=L) eL) (λ(L:Nat)eL=>hG.bX3 Kn (ae HA W5 B5).2.1.2.1.rd (ae HA W5 B5).2.1.2.2 (L:=L) eL);exact vaW)}
 {
 have tI:(D.n1 != (J D.l1:Int)):=by simp[N]
 go_wp2;go_ret;exact .no (λe=>N e.2.2.2.1) bb}};{
 have V9:((T:Int) != (J D.l0:Int)):=by simp;omega
 go_wp2;go_ret;exact .no (λe=>ht (by have:=e.2.2.1.2.1;rw[ae M,ae eT]at this;exact this)) bb}};{have Po:(4000:Int)<(J D.l0:Int):=af;go_wp2;go_ret;exact .no (λe=>h4 e.2.2.1.1) ((ae HA v2 s).2.2)}
abbrev tV(A:Pt)(D:Dk)(S:fD)(q:Int):dV:=yA A.p0 A.c0 A.p1 A.c1 A.p2 A.c2 A.p A.c A.r A.d D S q
abbrev tL(A:Pt)(D:Dk)(S:fD)(q:Int):List dV:=svL A.p0 A.c0 A.p1 A.c1 A.p2 A.c2 A.p A.c A.r A.d D S q
abbrev tR(w:G)(A:Pt)(D:Dk)(S:fD):Prop:=M6 w A.p0 A.c0 A.p1 A.c1 A.p2 A.c2 A.p A.c A.r A.d D S
def RdZ(A:Pt)(a:Pr)(E:Dk)(S:fD)(R:RP)(u:G):Prop:=tR u A E S/\RdP u a R
def Xv(w:G)(T:Xw)(z:Ending)(w':G):Prop:=∃A a,z=dR (dT #[tV A T.1 T.2.1 T.2.2.1,wC a T.2.2.2])/\(∀u,Fr [46,50] w' u->RdZ A a T.1 T.2.1 T.2.2.2 u)/\Bw w w'
theorem Xv.of{w v iU:G}{D:Dk}{R:RP×uY}{A:Pt}{a:Pr}(h:Xx v A D.m R.2)(x:IZ v a R.1)(t:v.heap[b]?=dO cs 46)(j:v.heap[b']?=dO rO 50)(o:U (Q v)<=U (Q iU))(q:∀c,c≠b->c≠b'->iU.heap[c]?=v.heap[c]?)(r:Bw w iU):Xv w (D.m.k R.2.1,R.2.2.1.s,R.2.2.2,R.1) (dR (dT #[zL A D.m R.2,wC a R.1])) iU:=by
 have hf:=ag2 o q ⟨_,t⟩ ⟨_,j⟩;exact⟨A,a,rfl,λu i=>(λk=>⟨⟨k.1,k.2.1,k.2.2.1,k.2.2.2.1.rd,k.2.2.2.2⟩,x u ((hf.Z i).sub al)⟩) (h u (hf.Z i)),r⟩
theorem dq9{B:Nat}(p0 Z W p r:OA)(c0 c1 c2 c d:Nat)(D:Dk)(S:fD)(q:Int)(a:Pq)(iO:rj)(w:G)(h:IY B w p0 c0 Z c1 W c2 p c r d D S)(hO:Cy w a iO)(hl:J D.l0+J D.l1+J D.l2<=2^20)(hG:O (SG S))(g:O (OG a iO))(y0:O (aD D.l0))(y1:O (aD D.l1))(dop:LI->Option Rq)(hd:O (∀l,zx l (dop l)))(T:Xw)(eT:O (SbT dop D S q iO T)):dQ dG 6 #[yA p0 c0 Z c1 W c2 p c r d D S q,BH a iO] w (Xv w T):=by
 obtain⟨W0,cT,q0,z0,C0,-⟩:=cR w #[.S p0 (J D.l0) c0,.I D.n0,.S Z (J D.l1) c1,.I D.n1,.S W (J D.l2) c2,.I D.n2,.U S.e,.U S.g,.U S.x,.I S.t,.S p (J S.E) c,.S r (J S.N) d,.U q] 46;obtain⟨W1,fT,q1,z1,C1,-⟩:=cR W0 (NF a iO).toArray 54;let⟨W2,fW,q2,z2,C2,V⟩:=cR W1 zS.toArray 46;let⟨W3,ky,q3,z3,C3,T3⟩:=cR W2 zR.toArray 50;rw[z0]at C1 z1;rw[z1]at C2 V z2;rw[z2]at C3 T3 z3;have bW:=aj q0 (aj q1 (aj q2 q3));let⟨HA,HZ⟩:=aQ (λ(v:G)(i:Bw W3 v)=>aE ((((C0.H af q1).H af q2).H af q3).H af i).iD (aE (h.H (aj bW i)) (aE ((C2.H af q3).H af i) (aE (C3.H af i) (aE (aj bW i) (aE ((i.block _ af).Z ((q3.block _ af).Z V)) (aE ((i.block _ af).Z T3) (aE (hO.H (aj bW i)) (((C1.H af q2).H af q3).H af i))))))))) z3;clear q0 q1 q2 q3 C0 C1 C2 C3 V T3 bW h hO z0 z1 z2 z3;go_in
 go_wp21
 rw[<-cT,<-fT,<-fW,<-ky];clear cT fT fW ky;refine(dP9 (ae HA W3 db).2.1 hl hG y0 y1 dop hd).h ?_;rintro z v2⟨ok,ox,rfl,E⟩;have zv:=gq (aY7 HZ.C) E.size
 change O _ at E
 cases ok with
 |true=>
  have HP:O (Fs dop D S q):=ox.1 al;let⟨R,eR⟩:=cg (ui (D.l0,S.d,q) iO);have ET:O (T=(D.m.k R.2.1,R.2.2.1.s,R.2.2.2,R.1)):=ai (by rw[eT.1 (ae HP),sbR,ae eR]);have H:=ai (ae HA v2 E);have i0:=H.1;have j:=H.2.2.2.2.2.2.2.2;have j0:=aE (j.1 0 _ rfl) (aE (j.1 1 _ rfl) (aE (j.1 2 _ rfl) (aE (j.1 3 _ rfl) (aE (j.1 4 _ rfl) (aE (j.1 5 _ rfl) (j.1 6 _ rfl))))));clear ox eT j
  go_wp21
  clear i0 j0;have y:=H.2.1;refine(dQ0 (A:=⟨p0,c0,Z,c1,W,c2,p,c,r,d⟩) (M:=D.m) (X:=(D.l0,S.d,q)) (HP.dmg hd hG y0 y1 af) g ⟨y.1.o0.rd,y.1.o1.rd,y.1.o2.rd,y.2.1,y.2.2⟩ H.2.2.2.2.2.2.2.1).h ?_;clear y;rw[ae eR];rintro z v3⟨A,a9,rfl,RI,RL,N⟩;have H:=ae HA v3 (aj E N);have RR:=nK RI RL H.2.2.1 H.2.2.2.1 H.2.2.2.2;have n0:=H.2.2.1.iD;have nf:=H.2.2.1.2;have m0:=H.2.2.2.1.r8;have mf:=H.2.2.2.1.2;clear H RI RL N;go_wp2;refine cX (v:=dT #[zL A D.m R.2,wC a9 R.1]) (by simp[results,results6,go_sem,n0,m0]) rfl ?_;rw[ae ET];obtain⟨RI,RL,-,-,BB,V,T3,-⟩:=ae RR;refine Xv.of RI RL V T3 al (λc h1 h2=>?_) ?_;{
 iterate 21 (refine(gh _ _ _ _ (by dsimp only;omega)).Z ?_)
 rfl};{
 iterate 21 refine Below.setCell ?_ (by dsimp only;omega) _
 exact BB}
 |false=>
  go_wp21
  refine cL (aw0) λv3 N=>?_;have H:=ae HA v3 (aj E N);have n0:=H.2.2.1.iD;have nf:=H.2.2.1.2;have m0:=H.2.2.2.1.r8;have mf:=H.2.2.2.1.2;have BB:=H.2.2.2.2.1;clear H N;go_wp2;refine cX (v:=dT #[Jq ay 0 ay 0 ay 0 0 0 0 0 ay ay 0,ij 1 0 0 0 0 aN aN aN]) (by simp[results,results6,go_sem,n0,m0]) rfl ?_;rw[ae (eT.2 λe=>by have:=ox.2 e;simp at this)];refine⟨⟨dN,0,dN,0,dN,0,dN,0,dN,0⟩,⟨dN,0,dN,0,dN,0⟩,rfl,λu _=>⟨⟨Own.rd (Own.nil 0 _),Own.rd (Own.nil 0 _),Own.rd (Own.nil 0 _),(YI).rd,YJ⟩,Jw _,YH _,(YK _).rd⟩,?_⟩
  iterate 21 refine Below.setCell ?_ (by dsimp only;omega) _
  exact BB
theorem bv4{q:OA}{c d:Nat}(a:Rd w (.S p (J l) c) l)(b:Rd w (.S q (J l) d) l)(h:Mg (J l)):qy 32 (.S p (J l) c) (.S q (J l) d) w:=λv i=>MB rfl (a.H i) (b.H i) (by omega)
theorem eA9{q q':OA}{n m c d j i:Nat}{K S:Int}(x1:qy 32 (.S p n c) (.S p' n j) w)(x2:qy 32 (.S q m d) (.S q' m i) w):qy 12 (mG K S (.S p n c) F (.S q m d) E iG) (mG K S (.S p' n j) F (.S q' m i) E iG) w:=MA
theorem eA8{q q':OA}{n m k c d e s o j:Nat}{K i N:Int}(x1:qy 32 (.S p n c) (.S p' n s) w)(x2:qy 33 (.S q m d) (.S q' m o) w)(x3:qy 34 (.S r k e) (.S r' k j) w):qy 11 (ij K i E iG N (.S p n c) (.S q m d) (.S r k e)) (ij K i E iG N (.S p' n s) (.S q' m o) (.S r' k j)) w:=MA
end Go.Proofs.YthlkmijffhhimaaGreatDoor
