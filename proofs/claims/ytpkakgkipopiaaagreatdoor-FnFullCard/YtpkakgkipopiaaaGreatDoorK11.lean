import Derived.Test.YtpkakgkipopiaaaGreatDoorK10
import Derived.Deep.CutBlock
import Derived.Recover
import Derived.Laws.Pointers
import Derived.Lib.ItoaWalk
open Array renaming setIfInBounds->jI,size->U
open Bool renaming false->dF,true->dY
open Decidable renaming decide->dD
open Go renaming undef->jQ,Calls->dQ,Value->dV,World->G
open Go.Ending renaming returned->dR
open Go.IntKind renaming u64->jU,i64->jV,wrap->jY
open Go.Obj renaming cells->dO
open Go.Proofs.Tryz renaming prog->dG
open Go.Region renaming wanted->jW
open Go.RowKit renaming Hid->O
open Go.Value renaming ownBlock->jB,slice->jC,int->jK,bool->jO,agg->jP,I->dI,pointer->dP,S->dS,tuple->dT,U->dU
open Go.World renaming alloc->jA,frozen?->jF,grownBy->jG,heap->Q,setCell->jS,cell?->I
open Int renaming toNat->jN
open List renaming drop->jD,flatten->jL,length->J
open Option renaming none->dN,some->Y
namespace Go.Proofs.YtpkakgkipopiaaaGreatDoor
set_option maxHeartbeats 25600000
set_option linter.all false
set_option maxRecDepth 100000
open Go.ChangeShapes Go.WideShapes Go.ChangeAt Go.RowKit Go.Proofs.Tryz
variable {w u v w' w0:G}{b n c K sb d g1 L c0 c1 c2 f:Nat}{v0 v1 v2 v3 v4 v5 x z V N v6 v7 v8 v9 va vb vc u0 u1 u2 u3 u4 u5 u6 u7:dV}{vs us Qs:List dV}{l l0 l1:LI}{om:Option LI}{p q r p0 p1 p2:OA}{C e g t k:Int}{dop:LI->Option Rq}{cs a:iA}{ty:TypeId}{D:SD}{o:Option Rq}{S:fu}{P:Prop}{A1 A2:List Lf}{ss:List aC}{ns:List au}{md:Region.Mode}{ops:iQ}{listed:Array Bool}
theorem aO.c6(h:aO w b (v0::v1::v2::v3::v4::v5::vs)):I w (Ad b 0)=v0/\I w (Ad b 1)=v1/\I w (Ad b 2)=v2/\I w (Ad b 3)=v3/\I w (Ad b 4)=v4/\I w (Ad b 5)=v5/\∀o,jF w (Ad b o)=dF:=
 ⟨h.1 0 _ rfl,h.1 1 _ rfl,h.1 2 _ rfl,h.1 3 _ rfl,h.1 4 _ rfl,h.1 5 _ rfl,h.2⟩
theorem sR{a0 a1 a2 a3 a4 a5:Addr}{v0 v1 v2 v3 v4 v5:dV}(h:Bw w u)(h0:U (Q w)<=a0.block:=by simp)(h1:U (Q w)<=a1.block:=by simp)(h2:U (Q w)<=a2.block:=by simp)(h3:U (Q w)<=a3.block:=by simp)(h4:U (Q w)<=a4.block:=by simp)(h5:U (Q w)<=a5.block:=by simp):Bw w ((((((u.setCell a0 v0).setCell a1 v1).setCell a2 v2).setCell a3 v3).setCell a4 v4).setCell a5 v5):=(((((h.setCell h0 _).setCell h1 _).setCell h2 _).setCell h3 _).setCell h4 _).setCell h5 _
theorem Lx(h:O (kI l=dN))(i:Bw w u):bx8 (U (Q w)) (dR (dT #[bS 0 0 0 0 aq aq,.I 13])) u (GW (kI l)) (GX (kI l))/\Bw w u:=by
 rw[aa h];exact⟨⟨dN,0,dN,0,rfl,nG.zero _ _⟩,i⟩
theorem FD(j:Le l n)(h:O (ik n l om)):∃e i a,O (oV om=(e,i))/\O (kq n i=a)/\O (ik n l i):=⟨(oV om).1,(oV om).2,_,rfl,rfl,af (vz j h)⟩
theorem oTs(j:Le l n)(h:O (ik n l om)):∃e i a,O (oT om=(e,i))/\O (kq n i=a)/\O (ik n l i):=⟨(oT om).1,(oT om).2,_,rfl,rfl,af (al2 j h)⟩
theorem de7(D:Le l n)(h:Rd w (.S p n c) l)(hb:O (aA l))(hl:Mg n)(oU:n<=c):dQ dG 31 #[.S p n c] w λr w'=>bx8 (U (Q w)) r w' (GW (kI l)) (GX (kI l))/\Bw w w':=by
 have HR:=af λ(w':G)(hb:Bw w w')=>h.H hb;clear h;have S0:=af (ik.start D);have A0:O (kq n l=0):=by show _=_;rw[kq,aa D];omega
 let⟨is,QD,WO,WN,WM⟩:=og Tryz.infoSes;let⟨io,hio,oz0,oz1,oz2⟩:=og Tryz.infoNod;let⟨iu,hiu,uz0,uz1,uz2⟩:=og Tryz.infoU64;let⟨e,o1,a1,E1,A1,S1⟩:=FD D S0;let⟨g,o2,a2,E2,A2,S2⟩:=FD D S1;let⟨x,o3,a3,E3,A3,S3⟩:=FD D S2;let⟨k,o4,a4,E4,A4,S4⟩:=FD D S3;let⟨W,hW⟩:=aF (jA w (dO #[.U 0,.U 0,.U 0,.I 0,aq,aq] 34));have bW:=ij hW;have zW:U (Q W)=U (Q w)+1:=by rw[hW];simp
 have RW:O (aO W (U (Q w)) [.U 0,.U 0,.U 0,.I 0,aq,aq]):=by show aO _ _ _;rw[hW];exact aO.alloc w #[.U 0,.U 0,.U 0,.I 0,aq,aq] _
 go_in
 go_wp21
 rw[<-hW];clear hW;refine(FE D (aa HR _ bW) hb hl S0 A0 E1 A1).h ?_;rintro z9 w1⟨rfl,rfl⟩
 go_wp21
 refine(FE D (aa HR _ bW) hb hl S1 A1 E2 A2).h ?_;rintro z9 w1⟨rfl,rfl⟩
 go_wp21
 refine(FE D (aa HR _ bW) hb hl S2 A2 E3 A3).h ?_;rintro z9 w1⟨rfl,rfl⟩
 go_wp21
 refine(FE D (aa HR _ bW) hb hl S3 A3 E4 A4).h ?_;rintro z9 w1⟨rfl,rfl⟩;have hk:0<=k/\k<2^64:=by have:=xh (om:=o3);rw[aa E4]at this;exact this
 have n4:=aB8 S4;rw[aa A4]at n4;have N4:=af n4.1;have m4:-1<=a4/\a4<=n:=⟨n4.2.2,n4.2.1⟩;clear n4;by_cases h4:a4<0;{
 have hn:=N4.1 h4;have R:kI l=dN:=by rw[kI,BJ];simp only[aa E1,aa E2,aa E3,aa E4];rw[aK (.L hn)];rfl
 have HD:=af R;clear R;let⟨r0,r1,r2,r3,r4,r5,rf⟩:=RW.c6;have BB:=bW;go_wp2;refine bO (by simp[results,results31,go_sem,r0,r1,r2,r3,r4,r5,zW]) rfl (Lx HD (aB5 (sR BB)))};{
 by_cases h5:50<k;{
 skip
 have R:kI l=dN:=by rw[kI,BJ];simp only[aa E1,aa E2,aa E3,aa E4];rw[aK (.R h5)];rfl
 have HD:=af R;clear R;let⟨r0,r1,r2,r3,r4,r5,rf⟩:=RW.c6;have BB:=bW;go_wp2;refine bO (by simp[results,results31,go_sem,r0,r1,r2,r3,r4,r5,zW]) rfl (Lx HD (aB5 (sR BB)))};{
 skip
 obtain⟨K,rfl⟩:∃K:Nat,k=(K:Int):=⟨jN k,ae⟩;have UP:¬o4=dN:=λhh=>h4 (N4.2 hh);have HN4:=af UP;have wK:=iw K;have fn9:K<=50:=ae;let⟨V,hV⟩:=aF (jA w1 (dO #[.U e,.U g,.U x,.I 0,aq,aq] 34));have AR:=ij hV;let⟨E,AD⟩:=aF (U (Q w)+1);have CV:O (aO V E [.U e,.U g,.U x,.I 0,aq,aq]):=by show aO _ _ _;rw[hV,show E=U w1.heap by omega];exact aO.alloc w1 #[.U e,.U g,.U x,.I 0,aq,aq] _
 have zV:U (Q V)=E+1:=by rw[hV];simp;omega
 have Wv:U (Q w1)=E:=ae;clear N4 UP;go_wp2;rw[<-hV,<-AD];have hws:U (Q w)<E:=ae;have HSB:=af AD;clear hV AD zW
 go_loopw[5,13](λav iv wr=>∃(j:Nat)(a:Int)(Sv:dV)(Ls:List (List Lf)),j<=K/\av=.I a/\iv=.I j/\O (kq n (rL oV j o4).2=a)/\O (ik n l (rL oV j o4).2)/\O (aO wr E [.U e,.U g,.U x,.I 0,Sv,aq]/\OwnT qe 65 3 (E+1) wr Sv ((rL oV j o4).1.map yI) Ls)/\O (Bw w1 wr)/\E<U (Q wr)) (λ_ iv _=>K-(jN (intOf iv)))
 exact⟨0,_,_,[],cT _,rfl,rfl,A4,S4,⟨CV,OwnT.nil _ _ _ _ _⟩,AR,ae⟩;{
 clear CV AR zV;obtain⟨j,a,Sv,Ls,hj,rfl,rfl,Ea,Sj,iW,Br,zr⟩:=hrel;by_cases aL:j<K;{
 have cM:=bR j K;have wj:jY jV ((j:Int)+1)=((j+1:Nat):Int):=by rw[l8 _ ae];omega
 let⟨d,o5,a5,E5,A5,S5⟩:=FD D Sj;have b0:=ah bW Br
 go_wp21
 refine(FE D (aa HR _ b0) hb hl Sj Ea E5 A5).h ?_;rintro z9 w2⟨rfl,rfl⟩;let⟨hC,hO⟩:=aa iW;have N:J ((rL oV j o4).1.map yI)=j:=by rw[iH,JX]
 have HC:=af hC;have HO:=af hO;have bB6:=af N;clear hC hO iW N;let⟨v3,gx⟩:=aF (jA w2 (dO #[.U d,.I 0,aq] 65));have aE:=ij gx;have rh:∀i u,([.U d,.I 0,aq]:List dV)[i]?=Y u->I v3 (Ad (U (Q w2)) i)=Y u:=gx▸RG;have ru:=af rh;have z3:U (Q v3)=U (Q w2)+1:=by rw[gx];simp
 have Dx:=af HO.lt;have C3:=af (HC.H zr aE);have B3:=af (ah Br aE);let⟨row,vP,vV⟩:=HO.app qe.W aE (qe.id v3 d) rfl (je.nil _ _) ae;rw[aa bB6]at vP vV;have JI:=af vV;have Cz:=af vP;have cl:=HC.1 4 _ rfl;clear vV rh vP;go_wp2_with(at_builtin;rw[<-gx];refine Fu rfl 31 rfl is 3 underlying31 QD WO WN WM rfl aX Sv rfl Cz (U (Q w2)) 1 1 [.U d,.I 0,aq] rfl rfl ru (λu hu=>by simp at hu;obtain rfl|rfl|rfl:=hu<;>rfl) kL ae ae ?_);intro v' w9 gC hg AJ;have gR:∀g,jB v'=Y g->jB Sv=Y g\/U (Q v3)<=g:=λg e=>by have:=AJ g e;rw[gx];simpa using this
 rw[<-gx]at hg;obtain⟨sn,pN,cN,rfl⟩:=aa JI v' w9 gC hg gR;have C9:=C3.grown ae hg (λe=>aM (Dx.1 E e.C).1);have B9:O (Bw w1 w9):=B3.grown hg B3.size (λb e=>aM (Dx.1 b e).1);have z9:=hg.size;have CT:=af (C9.dt 4 ai (.S pN (j+1) cN));have OT:=af (sn.bU1 qe.W (sb:=E) ae 4 (.S pN (j+1) cN));have BT:O (Bw w1 (jS w9 (Ad E 4) (.S pN (j+1) cN))):=B9.setCell cg _;have zT:E<U (Q (jS w9 (Ad E 4) (.S pN (j+1) cN))):=by simp;omega
 have cc:=C9.1 4 _ rfl;have cf:=C9.2;have EL:O ((rL oV j o4).1.map yI++[yI d]=(rL oV (j+1) o4).1.map yI/\(rL oV (j+1) o4).2=o5):=by show _/\_;rw[rL,aa E5,rI];exact⟨rfl,rfl⟩
 clear gC hg gR AJ sn C9 gx aE cl;go_wp2;go_roundw;exact⟨j+1,a5,_,_,ae,rfl,by go_num,(EL.2▸A5),(EL.2▸S5),(by rw[<-EL.1];exact⟨CT,OT⟩),BT,zT⟩;exact dh};{
 have cM:=fG j K
 skip
 obtain rfl:K=j:=ae;let⟨hC,hO⟩:=aa iW;let⟨w3,ew3⟩:=aF wr;subst ew3;obtain⟨pS,cS,ZE,-⟩:=id hO.read;rw[iH,JX]at ZE;subst ZE;have C3:=af hC;have O3:=af hO;have b3:=ah bW Br;have R3:=af (RW.H ae Br);have HSL:O (J ((rL oV K o4).1.map yI)=K):=by show _=_;rw[iH,JX]
 clear hC hO iW hj aL cM;let⟨q,o7,a7,E7,A7,S7⟩:=FD D Sj
 go_wp21
 refine(FE D (aa HR _ b3) hb hl Sj Ea E7 A7).h ?_;rintro z9 w4⟨rfl,rfl⟩;have hq:0<=q/\q<2^64:=by have:=xh (om:=(rL oV K o4).2);rw[aa E7]at this;exact this
 have n7:=aB8 S7;rw[aa A7]at n7;have N7:=af n7.1;have m7:-1<=a7/\a7<=n:=⟨n7.2.2,n7.2.1⟩;clear n7;by_cases h7:a7<0;{
 have hn:=N7.1 h7;have R:kI l=dN:=by rw[kI,BJ];simp only[aa E1,aa E2,aa E3,aa E4];rw[aJ (by rw[Iu];exact⟨aa HN4,ae⟩)];simp only[sC,aa E7];rw[aK (.L hn)];rfl
 have HD:=af R;clear R;let⟨r0,r1,r2,r3,r4,r5,rf⟩:=R3.c6;have BB:=b3;go_wp2;refine bO (by simp[results,results31,go_sem,r0,r1,r2,r3,r4,r5]) rfl (Lx HD (sR BB))};{
 by_cases h8:200<q;{
 skip
 have R:kI l=dN:=by rw[kI,BJ];simp only[aa E1,aa E2,aa E3,aa E4];rw[aJ (by rw[Iu];exact⟨aa HN4,ae⟩)];simp only[sC,aa E7];rw[aK (.R h8)];rfl
 have HD:=af R;clear R;let⟨r0,r1,r2,r3,r4,r5,rf⟩:=R3.c6;have BB:=b3;go_wp2;refine bO (by simp[results,results31,go_sem,r0,r1,r2,r3,r4,r5]) rfl (Lx HD (sR BB))};{
 skip
 obtain⟨iZ,rfl⟩:∃K:Nat,q=(K:Int):=⟨jN q,ae⟩;have hn7:¬o7=dN:=λhh=>h7 (N7.2 hh);have HN7:=af hn7;have wQ:=iw iZ;have hQ:iZ<=200:=ae;have SPO:O (BJ l=(rB iZ o7).map λr=>((e,g,x),(rL oV K o4).1.map yI,r.1,r.2)):=by show _=_;rw[BJ];simp only[aa E1,aa E2,aa E3,aa E4];rw[aJ (by rw[Iu];exact⟨aa HN4,ae⟩)];simp only[sC,aa E7];rw[aJ (by rw[Iu];exact⟨hn7,ae⟩)]
 clear N7 hn7;go_wp2
 go_loopw[5,15](λav iv wr=>∃(j:Nat)(a:Int)(Nv:dV)(Ls:List (List Lf))(ns:List au)(om:Option LI),j<=iZ/\av=.I a/\iv=.I j/\O (rB j o7=Y (ns,om))/\O (kq n om=a)/\O (ik n l om)/\O (aO wr E [.U e,.U g,.U x,.I 0,.S pS K cS,Nv]/\OwnT mV 69 8 (U (Q w4)) wr Nv ns Ls)/\O (jG w4 wr E)) (λ_ iv _=>iZ-(jN (intOf iv)))
 exact⟨0,_,_,[],[],o7,cT _,rfl,rfl,cO,A7,S7,⟨C3,OwnT.nil _ _ _ _ _⟩,aw5⟩;{
 obtain⟨j,a,Nv,Ls,ns,om,hj,rfl,rfl,Em,Ea,Sm,iW,pW⟩:=hrel;have b5:=aB4 b3 pW ae;have zg:=pW.size;by_cases aL:j<iZ;{
 have cM:=bR j iZ;have wj:jY jV ((j:Int)+1)=((j+1:Nat):Int):=by rw[l8 _ ae];omega
 let⟨hC,hO⟩:=aa iW;have HC:=af hC;have HO:=af hO;have N:=(ah8 D hb hl j S7 Em).2.2;have bB6:=af N;clear hC hO iW N;let⟨PP,q1,c1,F1,G1,T1⟩:=oTs D Sm;let⟨VV,q2,c2,F2,G2,T2⟩:=oTs D T1;let⟨ow,q3,c3,F3,G3,T3⟩:=FD D T2;obtain⟨⟨mo,q4⟩,F4⟩:∃y,O (oB q3=y):=⟨_,cO⟩;obtain⟨c4,G4⟩:∃a,O (kq n q4=a):=⟨_,cO⟩;have T4:O (ik n l q4):=by have:=al3 D T3;rw[aa F4]at this;exact this
 let⟨hh,q5,c5,F5,G5,T5⟩:=FD D T4;obtain⟨NP,eNP⟩:∃k,Le PP k:=⟨_,cO⟩;obtain⟨NV,eNV⟩:∃k,Le VV k:=⟨_,cO⟩
 go_wp21
 refine(bW5 D (aa HR _ b5) hb hl oU Sm Ea F1 G1 eNP).h ?_;rintro z9 y1⟨pP,cP,rfl,oP,ao⟩;have b6:=ah b5 ao;have z1:=ao.size
 go_wp21
 refine(bW5 D (aa HR _ b6) hb hl oU T1 G1 F2 G2 eNV).h ?_;rintro z9 y2⟨pV,cV,rfl,Xi,ay⟩;have b7:=ah b6 ay;have z2:=ay.size;let⟨lP,fP⟩:=Own.pb oP;let⟨lV,fV⟩:=Own.pb Xi;have FP:=af (fP.H ay);have FV:=af fV;have BX:=af (ah ao ay);have C7:=af (HC.H ae BX);have R7:=af ((R3.grown ae (aa pW) cg).H ae (aa BX));clear oP Xi fP fV ao ay
 go_wp21
 refine(FE D (aa HR _ b7) hb hl T2 G2 F3 G3).h ?_;rintro z9 y3⟨rfl,rfl⟩
 go_wp21
 refine(dw0 D (aa HR _ b7) hb hl T3 G3 F4 G4).h ?_;rintro z9 y4⟨rfl,rfl⟩
 go_wp21
 refine(FE D (aa HR _ b7) hb hl T4 G4 F5 G5).h ?_;rintro z9 X⟨rfl,rfl⟩;have hhr:0<=hh/\hh<2^64:=by have:=xh (om:=q4);rw[aa F5]at this;exact this
 have n5:=aB8 T5;rw[aa G5]at n5;have N5:=af n5.1;have m5:-1<=c5/\c5<=n:=⟨n5.2.2,n5.2.1⟩;clear n5;by_cases h9:c5<0;{
 have hn:=N5.1 h9;have R8:=af (R7.H ae (aH.alloc az (dO #[.S pP NP cP,.S pV NV cV,.U ow,.I mo,aq,.U 0,.U 0,aq] 69)));have R:kI l=dN:=by
  rw[kI,aa SPO,bO1 (bN9 (aa Em) (by rw[Ac];simp only[aa F1,aa F2,aa F3,aa F4,aa F5];rw[aK (.L hn)])) iZ ae]
  rfl
 have HD:=af R;clear R;let⟨r0,r1,r2,r3,r4,r5,rf⟩:=R8.c6;have BB:=(aB5 b7 (o:=dO #[.S pP NP cP,.S pV NV cV,.U ow,.I mo,aq,.U 0,.U 0,aq] 69));go_wp2;refine bO (by simp[results,results31,go_sem,r0,r1,r2,r3,r4,r5]) rfl (Lx HD (sR BB))};{
 by_cases EP:50<hh;{
 have R8:=af (R7.H ae (aH.alloc az (dO #[.S pP NP cP,.S pV NV cV,.U ow,.I mo,aq,.U 0,.U 0,aq] 69)));have R:kI l=dN:=by
  rw[kI,aa SPO,bO1 (bN9 (aa Em) (by rw[Ac];simp only[aa F1,aa F2,aa F3,aa F4,aa F5];rw[aK (.R EP)])) iZ ae]
  rfl
 have HD:=af R;clear R;let⟨r0,r1,r2,r3,r4,r5,rf⟩:=R8.c6;have BB:=(aB5 b7 (o:=dO #[.S pP NP cP,.S pV NV cV,.U ow,.I mo,aq,.U 0,.U 0,aq] 69));go_wp2;refine bO (by simp[results,results31,go_sem,r0,r1,r2,r3,r4,r5]) rfl (Lx HD (sR BB))};{
 skip
 obtain⟨H,rfl⟩:∃K:Nat,hh=(K:Int):=⟨jN hh,ae⟩;have hn5:¬q5=dN:=λhh=>h9 (N5.2 hh);have HN5:=af hn5;have wH:=iw H;have hH:H<=50:=ae;let⟨nb,Cf⟩:=aF (U (Q X));let⟨V5,Y7⟩:=aF (jA X (dO #[.S pP NP cP,.S pV NV cV,.U ow,.I mo,aq,.U 0,.U 0,aq] 69));have AR:=ij Y7;have CV:O (aO V5 nb [.S pP NP cP,.S pV NV cV,.U ow,.I mo,aq,.U 0,.U 0,aq]):=by show aO _ _ _;rw[Y7,Cf];exact aO.alloc X #[.S pP NP cP,.S pV NV cV,.U ow,.I mo,aq,.U 0,.U 0,aq] _
 have zV:U (Q V5)=nb+1:=by rw[Y7];simp;omega
 have ZX:O (U (Q X)=nb):=Cf.C;have hsn:E<nb:=ae;have HNB:=af Cf;clear N5 hn5 Cf;go_wp2;rw[<-Y7,<-aa HNB];clear Y7
 go_loopw[5,27](λav kv wr=>∃(i:Nat)(a:Int)(Hv:dV),i<=H/\av=.I a/\kv=.I i/\O (kq n (rL oV i q5).2=a)/\O (ik n l (rL oV i q5).2)/\O (aO wr nb [.S pP NP cP,.S pV NV cV,.U ow,.I mo,Hv,.U 0,.U 0,aq]/\nW (nb+1) wr Hv (rL oV i q5).1)/\O (Bw X wr)/\nb<U (Q wr)) (λ_ kv _=>H-(jN (intOf kv)))
 exact⟨0,_,_,cT _,rfl,rfl,G5,T5,⟨CV,nK _ _ _ _⟩,AR,ae⟩;{
 clear CV AR zV;obtain⟨i,a',Hv,hi,rfl,rfl,Ei,Si,iW,Bi,zi⟩:=hrel;have b8:=ah b7 Bi;by_cases hlh:i<H;{
 have ck4:=bR i H;have wi:jY jV ((i:Int)+1)=((i+1:Nat):Int):=by rw[l8 _ ae];omega
 let⟨d,q6,c6,F6,G6,T6⟩:=FD D Si
 go_wp21
 refine(FE D (aa HR _ b8) hb hl Si Ei F6 G6).h ?_;rintro z9 w2⟨rfl,rfl⟩;let⟨hC,hO⟩:=aa iW;let⟨v3,gx⟩:=aF (jA w2 (dO #[.U d] 24));have aE:=ij gx;have rh:∀i u,([.U d]:List dV)[i]?=Y u->I v3 (Ad (U (Q w2)) i)=Y u:=gx▸RG;have ru:=af rh;have z3:U (Q v3)=U (Q w2)+1:=by rw[gx];simp
 have Dx:O (∀b,jB Hv=Y b->nb+1<=b/\b<U (Q w2)):=λb e=>hO.lt b e;have C3:=af (hC.H zi aE);have B3:=af (ah Bi aE);have Cz:O (v3.ownsRow (nb+1) 24 1 Hv i ((rL oV i q5).1.map (Value.int jU))):=by have:=hO.H aE;unfold nW at this;rw[JX]at this;exact this
 have cl:=hC.1 4 _ rfl;clear rh hC hO iW;go_wp2_with(at_builtin;rw[<-gx];refine Fu rfl 67 rfl iu 1 underlying67 hiu uz0 uz1 uz2 rfl aX Hv rfl Cz (U (Q w2)) 1 1 [.U d] rfl rfl ru (λu hu=>by simp at hu;subst hu;rfl) kL ae ae ?_);intro v' w9 gC hg gR;rw[<-gx]at hg;have sn:=nW.snoc (JX oV i q5) gC;let⟨pN,cN,e9⟩:=sn.form;rw[eG,JX]at e9;subst e9;have C9:=C3.grown ae hg (λe=>aM (aa Dx nb e.C).1);have B9:O (Bw X w9):=B3.grown hg B3.size (λb e=>by have:=(aa Dx b e).1;have:=aa ZX;omega);have z9:=hg.size;have CT:=af (C9.dt 4 ai (.S pN (i+1) cN));have OT:O (nW (nb+1) (jS w9 (Ad nb 4) (.S pN (i+1) cN)) (.S pN (i+1) cN) ((rL oV i q5).1++[d])):=Px sn (iF w9 (Ad nb 4) _) (.R λe=>aM (sn.lt nb e).1);have BT:O (Bw X (jS w9 (Ad nb 4) (.S pN (i+1) cN))):=B9.setCell (by have:=aa ZX;simp;omega) _;have zT:nb<U (Q (jS w9 (Ad nb 4) (.S pN (i+1) cN))):=by simp;omega
 have cc:=C9.1 4 _ rfl;have cf:=C9.2;have EL:O ((rL oV i q5).1++[d]=(rL oV (i+1) q5).1/\(rL oV (i+1) q5).2=q6):=by show _/\_;rw[rL,aa F6];exact⟨rfl,rfl⟩
 clear gC hg gR sn C9 gx aE cl;go_wp2;go_roundw;exact⟨i+1,c6,_,ae,rfl,by go_num,(EL.2▸G6),(EL.2▸T6),(by rw[<-EL.1];exact⟨CT,OT⟩),BT,zT⟩;exact dh};{
 have ck4:=fG i H
 skip
 obtain rfl:H=i:=ae;let⟨hC,hO⟩:=aa iW;let⟨pH,cH,e9⟩:=hO.form;rw[JX]at e9;subst e9;obtain⟨HL,eHL⟩:∃L,O ((rL oV H q5).1=L):=⟨_,cO⟩;rw[aa eHL]at hO;have lHL:Le HL H:=by show _=_;rw[<-aa eHL];exact JX _ _ _
 have HC9:=af hC;have HO9:=af hO;clear hC hO iW hi hlh ck4;let⟨ep,q7,c7,F7,G7,T7⟩:=FD D Si;let⟨ge,q8,c8,F8,G8,T8⟩:=FD D T7
 go_wp21
 refine(FE D (aa HR _ b8) hb hl Si Ei F7 G7).h ?_;rintro z9 y5⟨rfl,rfl⟩
 go_wp21
 refine(FE D (aa HR _ b8) hb hl T7 G7 F8 G8).h ?_;rintro z9 y6⟨rfl,rfl⟩;obtain⟨nd,cy7⟩:∃nd:au,O (nd=⟨PP,VV,ow,mo,HL,ep,ge,[]⟩):=⟨_,cO⟩;have ESP:O (rB (j+1) o7=Y (ns++[nd],q8)):=de9 Em (by rw[Ac];simp only[aa F1,aa F2,aa F3,aa F4,aa F5];rw[aJ (by rw[Iu];exact⟨aa HN5,ae⟩)];simp only[sC,aa eHL,aa F7,aa F8];rw[aa cy7])
 have CA:=HC9.dt 5 ai (.U ep);have CB:=CA.dt 6 ai (.U ge);let⟨Z,hZ⟩:=aF (jS (jS y6 (Ad nb 5) (.U ep)) (Ad nb 6) (.U ge));rw[<-hZ]at CB;have BZ:Bw X Z:=by rw[hZ];exact(Bi.setCell (by have:=aa ZX;simp;omega) _).setCell (by have:=aa ZX;simp;omega) _
 have OZ:nW (nb+1) Z (.S pH H cH) HL:=by rw[hZ];have o1:=Px HO9 (iF y6 (Ad nb 5) (.U ep)) (.R λe=>aM (HO9.lt nb e).1);exact Px o1 (iF _ (Ad nb 6) (.U ge)) (.R λe=>aM (o1.lt nb e).1)
 have zZ:nb<U (Q Z):=by rw[hZ];simpa using zi
 have CZs:=C7.H (aM (aa ZX)) BZ;let⟨v3,gx⟩:=aF (jA Z (dO #[.S pP NP cP,.S pV NV cV,.U ow,.I mo,.S pH H cH,.U ep,.U ge,aq] 69));have QM:=ij gx;have rh:∀i u,([.S pP NP cP,.S pV NV cV,.U ow,.I mo,.S pH H cH,.U ep,.U ge,aq]:List dV)[i]?=Y u->I v3 (Ad (U (Q Z)) i)=Y u:=gx▸RG;have ezz:U (Q Z)=U (Q y6):=by rw[hZ];simp
 rw[ezz]at rh;have ru:=af rh;have z3:U (Q v3)=U (Q Z)+1:=by rw[gx];simp
 have L5:=ah BZ QM;have Bw3:=ah BX L5;let⟨lH,fH⟩:=nW.pu (OZ.H QM);have zXn:=aa ZX;have ELN:O (mV v3 nd [.S pP NP cP,.S pV NV cV,.U ow,.I mo,.S pH H cH,.U ep,.U ge,aq] (lP++(lV++(lH++[])))/\je (U (Q wr)) v3 (lP++(lV++(lH++[])))):=by have k0:=FP.H L5;have k1:=FV.H L5;have k4:=fH;rw[<-aa eNP]at k0;rw[<-aa eNV]at k1;rw[<-aa lHL]at k4;have:=mV.mk4 (nd:=⟨PP,VV,ow,mo,HL,ep,ge,[]⟩) (B:=U (Q wr)) k0 k1 k4 (PU.nil v3 (U (Q v3)) (U (Q v3))) ae ae ae ae ae ae ae ae ae ae;dsimp only at this;rw[aa eNP,aa eNV,aa lHL]at this;rw[aa cy7];exact this
 let⟨row,vP,vV⟩:=HO.app mV.W Bw3 ELN.1 rfl ELN.2 ae;have Dx:=af HO.lt;rw[aa bB6]at vP vV;have JI:=af vV;have Cz:=af vP;have C3':=af (CZs.H ae QM);have nsb:¬E=nb:=ae;have nbs:¬nb=E:=ae;have d5:=HC9.1 5 _ rfl;have d6:=HC9.1 6 _ rfl;let⟨d0,d1,d2,d3,d4,d5',d6',d7⟩:=Sk CB.1;have df:=HC9.2;have s5:=CZs.1 5 _ rfl;rw[hZ]at d0 d1 d2 d3 d4 d5' d6' d7 s5;have HZ:=af hZ;have EZZ:=af ezz;have BW3:=af Bw3;have HBZ:=af QM;clear ezz vV rh vP CA CB BZ OZ CZs fH hZ L5 Bw3 QM;go_wp2_with(at_builtin;rw[<-aa HZ,<-gx];refine Fu rfl 32 rfl io 8 underlying32 hio oz0 oz1 oz2 rfl aX Nv rfl Cz (U (Q y6)) 1 1 [.S pP NP cP,.S pV NV cV,.U ow,.I mo,.S pH H cH,.U ep,.U ge,aq] rfl rfl ru (λu hu=>by simp at hu;obtain rfl|rfl|rfl|rfl|rfl|rfl|rfl|rfl:=hu<;>rfl) kL ae ae ?_);intro v' w9 gC hg AJ;have ezz:=aa EZZ;have gR:∀g,jB v'=Y g->jB Nv=Y g\/U (Q v3)<=g:=λg e=>by have:=AJ g e;rw[gx];simpa using this
 rw[<-gx]at hg;obtain⟨sn,pN,cN,rfl⟩:=aa JI v' w9 gC hg gR;have C9:=C3'.grown ae hg (λe=>aM (Dx.1 E e.C).1);have G9:jG w4 w9 E:=No (No pW (mn BW3 dN) (λb e=>by cases e)) hg (λb e=>.L (Dx.1 b e).1);have CT:=af (C9.dt 5 ai (.S pN (j+1) cN));have OT:=af (sn.bU1 mV.W (sb:=E) ae 5 (.S pN (j+1) cN));have GT:O (jG w4 (jS w9 (Ad E 5) (.S pN (j+1) cN)) E):=Nn G9 (iF w9 (Ad E 5) _);have cc:=C9.1 5 _ rfl;have cf:=C9.2;clear gC hg gR AJ sn C9 G9 gx d0 d1 d2 d3 d4 d5 d6 d5' d6' d7 s5 df;go_wp2;go_roundw;exact⟨j+1,c8,_,_,_,q8,ae,rfl,by go_num,ESP,G8,T8,⟨CT,OT⟩,GT⟩
 case measure=>simp[intOf];omega}}}}}
 {
 have cM:=fG j iZ
 skip
 obtain rfl:iZ=j:=ae;let⟨hC,hO⟩:=aa iW;let⟨v1',v2',N⟩:=ah8 D hb hl iZ S7 Em;obtain⟨pN,cN,GJ,-⟩:=id hO.read;rw[N]at GJ;subst GJ;obtain⟨sl,uO⟩:∃L,O ((rL oV K o4).1.map yI=L):=⟨_,cO⟩;have hSL:O (∀s∈sl,s.2=(0,[])):=λs hs=>by rw[<-aa uO]at hs;obtain⟨i,-,rfl⟩:=fg.1 hs;rfl
 have Hr:=af v1';have ES:O (BJ l=Y ((e,g,x),sl,ns,om)):=by show _=_;rw[aa SPO,aa Em,aa uO];rfl
 have uo:Le sl K:=by show _=_;rw[<-aa uO];exact aa HSL
 have vZ:Le ns iZ:=N;obtain⟨L3,OS,sI,Qw⟩:∃L3,OwnT qe 65 3 (E+1) wr (.S pS K cS) sl L3/\(∀a∈jL L3,a.b<U (Q w4))/\∀b,jB (Value.slice pS K cS)=Y b->b<U (Q w4):=by refine⟨_,?_,λa' ha=>(O3.lt.2 a' ha).2,λb aQ=>(O3.lt.1 b aQ).2⟩;rw[<-aa uO];exact O3.W (qe.W _ _) zg (λb aQ=>pW.block b (O3.lt.1 b aQ).2 (by have:=(O3.lt.1 b aQ).1;simp;omega)) (λa' ha=>pW.block _ (O3.lt.2 a' ha).2 (by have:=(O3.lt.2 a' ha).1;simp;omega))
 obtain⟨rs,A1',lvs,aps,hi1⟩:mJ wr (.S pS K cS) sl/\∃A,LvS wr (.S pS K cS) sl A/\je (E+1) wr A/\∀a∈A,a.b<U (Q w4):=by let⟨A,q1,q2,q3⟩:=OS.qp (M:=U (Q w4)) sI Qw;exact⟨OS.se.1,A,q1,q2,q3⟩
 let⟨rn,A2',lvn,Sf⟩:=hO.no;have FF:O (nG (E+1) wr pS K cS pN iZ cN sl ns):=⟨A1',A2',rs,rn,lvs,lvn,aps.app (Sf.h ae) ae hi1⟩;have RR:=br rs rn;have C9:=af hC;have R9:=af (R3.grown ae (aa pW) cg);have na:=aB8 Sm;rw[aa Ea]at na;have NA:=af na.1;have ma:-1<=a/\a<=n:=⟨na.2.2,na.2.1⟩;clear na hC hO iW OS sI Qw lvs aps hi1 lvn Sf rs rn v1' v2' N hj aL cM;by_cases Lj:a<0;{
 have hn:=NA.1 Lj;have R:kI l=dN:=by rw[kI,aa ES,Am,aJ (λhh=>hh.1 hn)]
 have HD:=af R;clear R;let⟨r0,r1,r2,r3,r4,r5,rf⟩:=R9.c6;have BB:=b5;go_wp2;refine bO (by simp[results,results31,go_sem,r0,r1,r2,r3,r4,r5]) rfl (Lx HD (sR BB))};{
 skip
 have iT:¬om=dN:=λhh=>Lj (NA.2 hh);have HNO:=af iT;clear iT;obtain⟨B,eB⟩:∃B,O (mY e g x 0 sl ns=B):=⟨_,cO⟩;have gy:O (Bs sl):=λs hs=>by have:=aa hSL s hs;rw[this];exact⟨cT _,λe he=>by simp at he⟩
 have cW:O (Bn ns):=λnd aG=>by have:=aa Hr nd aG;exact⟨this.by0,this.l0,this.l1,this.l4,by rw[this.l7];exact cT _⟩
 obtain⟨k0,k1,k2,k3,k4,k5,-⟩:=C9.c6
 go_wp21
 refine cK (aL2 uo vZ RR.1.rd RR.2 ae ae gy cW eB) λu1 kW=>?_;have b10:=ah b5 kW;have R10:=af (R9.H ae kW);have C10:=af (C9.H ae kW);have OI:=af (FF.H kW);have cK2:=br (RR.1.H kW) (RR.2.H kW);have zu1:=kW.size;clear kW k0 k1 k2 k3 k4 k5;cases B with
 |false=>
  have R:kI l=dN:=by rw[kI,aa ES,Am,aJ (λhh=>by have:=hh.2.1;simp only at this;rw[aa eB]at this;cases this)]
  have HD:=af R;clear R;let⟨r0,r1,r2,r3,r4,r5,rf⟩:=R10.c6;have BB:=b10;go_wp2;refine bO (by simp[results,results31,go_sem,r0,r1,r2,r3,r4,r5]) rfl (Lx HD (sR BB))
 |true=>
  have re:0<=e/\e<2^64:=by have:=xh (om:=Y l);rw[aa E1]at this;exact this
  have rg:0<=g/\g<2^64:=by have:=xh (om:=o1);rw[aa E2]at this;exact this
  have rx:0<=x/\x<2^64:=by have:=xh (om:=o2);rw[aa E3]at this;exact this
  obtain⟨e',rfl⟩:∃v:Nat,e=(v:Int):=⟨jN e,ae⟩;obtain⟨g',rfl⟩:∃v:Nat,g=(v:Int):=⟨jN g,ae⟩;obtain⟨x',rfl⟩:∃v:Nat,x=(v:Int):=⟨jN x,ae⟩;have HSM:=af (aj6 eB Hr);obtain⟨M,eM⟩:∃M,O (J (mP e' g' x' sl ns)=M):=⟨_,cO⟩;obtain⟨k0,k1,k2,k3,k4,k5,-⟩:=C10.c6
  go_wp21
  refine(aY1 ae ae ae uo vZ cK2.1.rd cK2.2 HSM.w eM).h ?_;rintro z9 u2⟨pE,cE,rfl,oE,Ay⟩;have b11:=ah b10 Ay;have R11:=af (R10.H ae Ay);have C11:=af (C10.H ae Ay);have F11:=af (OI.H Ay);have zu2:=Ay.size;have RE:=af oE.rd;clear Ay oE k0 k1 k2 k3 k4 k5
  go_wp21
  refine cK (Uz eM D RE (aa HR _ b11) (ah7 ae ae ae HSM Hr) hb) λu3 UG=>?_;have DQ:=ah b11 UG;have R12:=af (R11.H ae UG);have C12:=af (C11.H ae UG);have F12:=af (F11.H UG);have zu3:=UG.size;clear UG;by_cases Jc:mP e' g' x' sl ns=l;{
 have hd:dD (mP e' g' x' sl ns=l):=by simpa using Jc
 have R:kI l=Y (((e':Int),(g':Int),(x':Int)),sl,ns):=by rw[kI,aa ES,Am,aK ⟨aa HNO,aa eB,by simpa using Jc⟩]
 have HD:O (GW (kI l)=⟨e',g',x',0,sl,ns⟩/\GX (kI l)=0):=by rw[R];exact⟨rfl,rfl⟩
 rw[hd];let⟨r0,r1,r2,r3,r4,r5,rf⟩:=R12.c6;obtain⟨k0,k1,k2,k3,k4,k5,-⟩:=C12.c6;have q1:¬U (Q w)=E:=ae;have q2:¬E=U (Q w):=ae;clear R hd Jc;go_wp2;let⟨Z,hZ⟩:=aF (jS (jS (jS (jS (jS (jS u3 (Ad (U (Q w)) 0) (.U e')) (Ad (U (Q w)) 1) (.U g')) (Ad (U (Q w)) 2) (.U x')) (Ad (U (Q w)) 3) (.I 0)) (Ad (U (Q w)) 4) (.S pS K cS)) (Ad (U (Q w)) 5) (.S pN iZ cN));have UW:∀z,z≠U (Q w)->Z.heap[z]?=u3.heap[z]?:=λz hz=>by
  rw[hZ]
  iterate 6 rw[fN _ _ _ _ hz]
 refine bO (v:=dT #[bS e' g' x' 0 (.S pS K cS) (.S pN iZ cN),.I 0]) (by simp[results,results31,go_sem,r0,r1,r2,r3,r4,r5]) rfl ⟨?_,?_⟩;{rw[<-hZ,HD.1,HD.2];have f:=(F12.W (w':=Z) (λz hz _=>UW z ae)).h (B':=U (Q w)) ae;rw[<-aa uo,<-aa vZ]at f⊢;exact⟨pS,cS,pN,cN,rfl,f⟩};{exact(((((DQ.setCell ai _).setCell ai _).setCell ai _).setCell ai _).setCell ai _).setCell ai _}};{
 have hd:dD (mP e' g' x' sl ns=l)=dF:=by simpa using Jc
 rw[hd];have R:kI l=dN:=by rw[kI,aa ES,Am,aJ (λhh=>Jc (by simpa using hh.2.2))]
 have HD:=af R;clear R;let⟨r0,r1,r2,r3,r4,r5,rf⟩:=R12.c6;have BB:=DQ;go_wp2;refine bO (by simp[results,results31,go_sem,r0,r1,r2,r3,r4,r5]) rfl (Lx HD (sR BB))}}}}}}}}}}
def Sr(l:LI)(r:Ending)(w':G):Prop:=∃(D:SD)(q C:Int)(p:OA)(c:Nat)(i:OA)(d:Nat),r=dR (dT #[bS D.e D.g D.x D.t (.S p (J D.E) c) (.S i (J D.N) d),.U q,.I C])/\mJ w' (.S p (J D.E) c) D.E/\iy w' (.S i (J D.N) d) D.N/\((mQ l=dN/\C=13)\/(mQ l=Y (D,q)/\C=0))
theorem ak0:mJ w aq []:=⟨dN,0,rfl,.L rfl⟩
theorem ak1:iy w aq []:=⟨dN,0,rfl,.L rfl⟩
theorem Sr.no(h:O (mQ l=dN))(w':G):Sr l (dR (dT #[bS 0 0 0 0 aq aq,.U 0,.I 13])) w':=
 ⟨⟨0,0,0,0,[],[]⟩,0,13,dN,0,dN,0,rfl,ak0,ak1,.L ⟨h,rfl⟩⟩
theorem bO8(i:¬J l=0)(h:J l<20):mQ l=dN:=by rw[mQ,aJ i,aK h]
theorem bO9(h:¬J l<20)(i:¬iM (num (sub l 4 12)) (sub l 16 (J l-4))=l):mQ l=dN:=by rw[mQ,aJ (by omega),aJ h,aJ i]
theorem bP0(h:¬J l<20)(i:4611686018427387904<num (sub l 4 12)):mQ l=dN:=by
 rw[mQ,aJ ae,aJ h,aK i];split<;>rfl
theorem aL6(h:¬J l<20)(i:iM (num (sub l 4 12)) (sub l 16 (J l-4))=l)(j:¬4611686018427387904<num (sub l 4 12)):mQ l=(kI (sub l 16 (J l-4))).map λr=>(⟨r.1.1,r.1.2.1,r.1.2.2,0,r.2.1,r.2.2⟩,num (sub l 4 12)):=by
 rw[mQ,aJ ae,aJ h,aK i,aJ j]
theorem dC6(W:Le l n)(h:Rd w (.S p n c) l)(hb:aA l)(hl:Mg n)(oU:n<=c)(oY:O (c<=maxLen))(hp:O ((p=dN/\c=0)\/∃b o,p=(Ad b o)))(py:ML w):dQ dG 41 #[.S p n c] w λr w'=>Sr l r w'/\Bw w w':=by
 obtain⟨W0,bG,b0,z0,C0,-⟩:=bM w #[.U 0,.U 0,.U 0,.I 0,aq,aq] 34;have HR:=dy (h.H b0) (py.H b0) hb;go_in;by_cases AH:n=0;{
 subst AH;have R:O (mQ l=Y (⟨0,0,0,0,[],[]⟩,0)):=by show _=_;rw[mQ,aK (aa W)]
 let⟨N,M,E,D,m,j,rf⟩:=C0.c6
 go_wp21
 rw[<-bG];go_wp2;exact bO (by simp[results,results41,go_sem,N,M,E,D,m,j]) rfl ⟨⟨⟨0,0,0,0,[],[]⟩,0,0,dN,0,dN,0,rfl,ak0,ak1,.R ⟨R,rfl⟩⟩,b0⟩};{
 have qz:((n:Int)==0)=dF:=by simp;omega
 go_wp21
 rw[<-bG];have ki:U (Q w)<U (Q W0):=ae;by_cases Rf:n<20;{refine(dJ2 Rf).h ?_;rintro r w1⟨p1,c1,rfl,-,V⟩;have R:O (mQ l=dN):=bO8 (aa W▸AH) (aa W▸Rf);let⟨N,M,E,D,m,j,rf⟩:=(C0.H ki V).c6;have BB:=ah b0 V;go_wp2;exact bO (by simp[results,results41,go_sem,N,M,E,D,m,j]) rfl ⟨Sr.no R _,sR BB⟩};{
 obtain⟨pb,po,rfl⟩:∃b o,p=(Ad b o):=by obtain⟨-,h⟩|h:=aa hp;{omega};{exact h}
 have Qx:¬J l<20:=aa W▸Rf;refine(dJ4 W HR.1 HR.2.2 ae hl oU oY).h ?_;intro r w1 hd;unfold OJ at hd;by_cases hs:iM (num (sub l 4 12)) (sub l 16 (n-4))=l;{
 rw[aK hs]at hd;obtain⟨p1,c1,rfl,o1,V⟩:=hd;let⟨q,eq⟩:=aZ (num (sub l 4 12));have hq:=FL (HR.2.2.sub 4 12) (by simp[sub];omega);let⟨B,eB⟩:=aZ (sub l 16 (n-4));have xW:O (J B=n-20):=by show _=_;rw[<-eB,zQ (by rw[aa W];omega)];omega
 have yR:O (aA B):=by show aA B;rw[<-eB];exact HR.2.2.sub _ _
 rw[eq]at hq;rw[eB]at o1;rw[eq];have BB:=ah b0 V;have C1:=C0.H ki V;have fy:U (Q w)<U (Q w1):=aM V.size;have HM:=af (HR.2.1.H V);have HS:O (mQ l=if 4611686018427387904<q then dN else(kI B).map λr=>(⟨r.1.1,r.1.2.1,r.1.2.2,0,r.2.1,r.2.2⟩,q)):=by show _=_;by_cases hb:4611686018427387904<q;{rw[aK hb,bP0 Qx (eq▸hb)]};{rw[aJ hb,aL6 Qx (aa W▸hs) (eq▸hb),aa W,eq,eB]}
 by_cases QN:4611686018427387904<q;{
 have R:O (mQ l=dN):=by show _=_;rw[aa HS,aK QN]
 let⟨N,M,E,D,m,j,rf⟩:=C1.c6;go_wp2;exact bO (by simp[results,results41,go_sem,N,M,E,D,m,j]) rfl ⟨Sr.no R _,sR BB⟩};{
 have xQ:=aa HS;rw[aJ QN]at xQ;have lD:=af xQ;have ad:=o1.adr;have HO:=dy o1.rd o1.cap ad
 go_wp21
 refine(dJ3 xW HO.1 yR ae HO.2.1 HO.2.2.1 HO.2.2.2 HM).h ?_;rintro r w2⟨⟨ps,cs,pn,cn,rfl,Z⟩,ay⟩;rw[<-dd9 (aa yR) (by rw[aa xW];omega)]at Z⊢;have B2:=ah BB ay;have C2:=C1.H fy ay;have gJ:U (Q w)<U (Q w2):=aM ay.size;let⟨N,M,E,D,m,j,rf⟩:=C2.c6;cases hP:kI B with
 |none=>
  have R:O (mQ l=dN):=by show _=_;rw[aa lD,hP];rfl
  simp only[GW,GX,mO,xk];obtain⟨W3,kJ,X,z3,C3,-⟩:=bM w2 #[.U 0,.U 0,.U 0,.I 0,.S ps 0 cs,.S pn 0 cn] 34;let⟨N,M,E,D,m,j,rf⟩:=(C2.H gJ X).c6;have B3:=ah B2 X;clear hP Z C2 C3 X z3 B2 fy gJ;subst kJ;go_wp2;exact bO (by simp[results,results41,go_sem,N,M,E,D,m,j]) rfl ⟨Sr.no R _,sR B3⟩
 |some s=>
  have R:O (mQ l=Y (⟨s.1.1,s.1.2.1,s.1.2.2,0,s.2.1,s.2.2⟩,q)):=by show _=_;rw[aa lD,hP];rfl
  rw[hP]at Z;simp only[GW,GX]at Z⊢;obtain⟨⟨e,g,x⟩,ss,ns⟩:=s;simp only at Z R⊢;let⟨n1,uo⟩:=bL (J ss);let⟨n2,vZ⟩:=bL (J ns);rw[aa uo,aa vZ]at Z⊢;obtain⟨W3,kJ,X,z3,C3,-⟩:=bM w2 #[.U e,.U g,.U x,.I 0,.S ps n1 cs,.S pn n2 cn] 34;let⟨N,M,E,D,m,j,rf⟩:=(C2.H gJ X).c6;obtain⟨k0,k1,k2,k3,k4,k5,-⟩:=C3.c6;have B3:=ah B2 X;have H3:=af (Z.W (w':=fv W3 (U (Q w)) (.U e) (.U g) (.U x) (.I 0) (.S ps n1 cs) (.S pn n2 cn)) (λy h1 h2=>(Da ae).Z (X.block y h2))).D8;clear hP Z C2 C3 X z3 B2 fy gJ;subst kJ;go_wp2;refine bO (v:=dT #[bS e g x 0 (.S ps n1 cs) (.S pn n2 cn),.U q,.I 0]) (by simp[results,results41,go_sem,N,M,E,D,m,j]) rfl ⟨⟨⟨e,g,x,0,ss,ns⟩,q,0,ps,cs,pn,cn,?_,?_,?_,.R ⟨R,rfl⟩⟩,sR B3⟩;{rw[aa uo,aa vZ]};{rw[aa uo];exact H3.1};{rw[aa vZ];exact H3.2}}};{rw[aJ hs]at hd;obtain⟨p1,c1,rfl,-,V⟩:=hd;have R:O (mQ l=dN):=bO9 Qx (aa W▸hs);let⟨N,M,E,D,m,j,rf⟩:=(C0.H ki V).c6;have BB:=ah b0 V;go_wp2;exact bO (by simp[results,results41,go_sem,N,M,E,D,m,j]) rfl ⟨Sr.no R _,sR BB⟩}}}
def Lw(D:SD):fu:=⟨D.e,D.g,D.x,0,D.E.map lZ,D.N.map lE⟩
def uY(dop:LI->Option Rq)(l0 l1:LI)(i:Bool):fu×Int×Int:=
 if i=dF then(mO,0,1)else match mQ l1 with
  |none=>(mO,0,13)
  |some x=>(Lw (rC dop x.1 x.2 (rl l0)).1,(rC dop x.1 x.2 (rl l0)).2,0)
def ab7(B:Nat)(r:Ending)(w:G)(R:fu×Int×Int):Prop:=∃p c q d,r=dR (dT #[bS R.1.e R.1.g R.1.x R.1.t (.S p (J R.1.E) c) (.S q (J R.1.N) d),.U R.2.1,.I R.2.2])/\nG B w p (J R.1.E) c q (J R.1.N) d R.1.E R.1.N
theorem ab7.no{B:Nat}{R:fu×Int×Int}(h:O (R=(mO,0,C))):ab7 B (dR (dT #[bS 0 0 0 0 aq aq,.U 0,.I C])) w R:=by
 rw[aa h];exact⟨dN,0,dN,0,rfl,nG.zero _ _⟩
theorem cv3:∀(t:Option Int)(L:List (Option R1)),J (qd t L)<=J L
 |_,[]=>by simp[qd]
 |_,dN::_=>by simp[qd]
 |t,Y x::L=>by rw[qd];split;{have:=cv3 x.1 L;simp only[ni];omega};{simp}
theorem bH6:∀(f:Nat)(l:LI),J (yl f l)<=f+1
 |0,l=>by simp[yl]
 |f+1,l=>by
  rw[yl];split;{simp};{
 next r _=>
 have:=bH6 f (jD (J r.2+14) l);simp only[ni];omega}
theorem bR9:J (rl l)<=J l+2:=fx (cv3 _ _) (bH6 _ _)
theorem dC4:uY dop l0 l1 dF=(mO,0,1):=rfl
theorem Qc(h:mQ l1=dN):uY dop l0 l1 dY=(mO,0,13):=by rw[uY,zk,h]
theorem Qb{x:SD×Int}(h:mQ l1=x){X:SD×Int}(e:rC dop x.1 x.2 (rl l0)=X):uY dop l0 l1 dY=(Lw X.1,X.2,0):=by rw[uY,zk,h,<-e]
theorem cg1(p0 p1 p2:OA)(n0 c0 n1 c1 n2 c2:Nat)(s0 s1 s2:Int)(l0 l1:LI)(e0:Le l0 n0)(e1:Le l1 n1)(w:G)(h0:Rd w (.S p0 n0 c0) l0)(h1:Rd w (.S p1 n1 c1) l1)(m0:Mg n0)(m1:Mg n1)(m2:Mg n2)(k0:n0<=c0)(k1:n1<=c1)(j0:O (c0<=maxLen))(j1:O (c1<=maxLen))(a0:O ((p0=dN/\c0=0)\/∃b o,p0=(Ad b o)))(a1:O ((p1=dN/\c1=0)\/∃b o,p1=(Ad b o)))(b0:O (aA l0))(b1:O (aA l1))(hM:ML w)(hT:qP w)(dop:LI->Option Rq)(hd:O (∀l,sV l (dop l)))(ok:Bool)(ld:O (oK n0 s0 n1 s1 n2 s2=ok))(R:fu×Int×Int)(eR:O (uY dop l0 l1 ok=R)):dQ dG 18 #[mu (.S p0 n0 c0) s0 (.S p1 n1 c1) s1 (.S p2 n2 c2) s2] w λr w'=>ab7 (U (Q w)) r w' R/\Bw w w':=by
 obtain⟨W0,bG,q0,z0,C0,-⟩:=bM w #[.S p0 n0 c0,.I s0,.S p1 n1 c1,.I s1,.S p2 n2 c2,.I s2] 30;let⟨W1,fo,q1,z1,C1⟩:=yY W0;rw[z0]at C1 z1;have bW:=ah q0 q1;have M:=af (λ(v:G)(hv:Bw W1 v)=>aD ((C0.H ae q1).H ae hv).c6 (aD (h0.H (ah bW hv)) (aD (h1.H (ah bW hv)) (aD (hM.H (ah bW hv)) (aD (show qP v fromλk i1 i2=>(hT k i1 i2).H (ah bW hv)) (ah bW hv))))));have HB:=af C1;have HZ:=br z0 z1;have BR:=af (aR (U (Q W1)) W1);go_in
 go_wp21
 rw[<-bG,<-fo];refine cK (aZ6 ae ae ae) λw1 ao=>?_;rw[aa ld];have B1:=af ao;have X1:=af (HB.H ao);have fy:=ao.size;cases ok with
 |false=>
  have HD:O (R=(mO,0,1)):=by show _=_;rw[<-aa eR];rfl
  let⟨r0,r1,r2,r3,r4,r5,rf⟩:=X1.cells;have BB:=(aa M w1 B1).2.2.2.2.2;go_wp2;exact bO (by simp[results,results18,go_sem,r0,r1,r2,r3,r4,r5]) rfl ⟨ab7.no HD,sR BB⟩
 |true=>
  obtain⟨⟨i0,i1,i2,i3,i4,i5,-⟩,-⟩:=aa M w1 B1
  go_wp21
  refine(dC6 e1 (aa M w1 B1).2.2.1 b1 m1 k1 j1 a1 (aa M w1 B1).2.2.2.1).h ?_;rintro r w2⟨⟨D,q,C,p,c,p',d,rfl,hS,hN,IP⟩,ay⟩;let⟨n,en⟩:=bL (J D.E);let⟨m,em⟩:=bL (J D.N);rw[aa en]at hS⊢;rw[aa em]at hN⊢;obtain⟨W3,kJ,b3,z3,C3,-⟩:=bM w2 #[.U D.e,.U D.g,.U D.x,.I D.t,.S p n c,.S p' m d] 34;have B3:=af (ah B1 (ah ay b3));have X3:=af ((X1.H ay).H b3);have Hq:=br (hS.H b3) (hN.H b3);have zG:=af C3;have HO:=af IP;have IJ:U (Q w2)<U (Q W3):=ae;have Qf:U (Q w)+1<U (Q W3):=by have:=HZ.2;have:=ay.size;omega
  obtain⟨fh,rfl⟩|⟨fh,rfl⟩:=aa HO;{
 have HD:O (R=(mO,0,13)):=by show _=_;rw[<-aa eR];exact Qc fh
 let⟨r0,r1,r2,r3,r4,r5,rf⟩:=X3.cells;have BB:=(aa M W3 B3).2.2.2.2.2;subst kJ;go_wp2;exact bO (by simp[results,results18,go_sem,r0,r1,r2,r3,r4,r5]) rfl ⟨ab7.no HD,sR BB⟩};{
 have E:=af (aL7 b1 (aa e1▸m1) fh);let⟨X,eX⟩:=bL (rC dop D q (rl l0));have HD:O (R=(Lw X.1,X.2,0)):=by show _=_;rw[<-aa eR];exact Qb fh eX
 have HGX:O (GQ X.1 X.2):=by show GQ X.1 X.2;rw[<-aa eX];exact aj2 hd _ E (aj5 b0)
 obtain⟨⟨i0,i1,i2,i3,i4,i5,-⟩,-⟩:=aa M W3 B3;obtain⟨k0',k1',k2',k3',k4',k5',-⟩:=zG.c6;have W:=br Qf IJ;subst kJ
 go_wp21
 let⟨W3,kJ⟩:=aF (jA w2 (dO #[.U D.e,.U D.g,.U D.x,.I D.t,.S p n c,.S p' m d] 34));rw[<-kJ]at B3 X3 Hq zG W⊢;refine(cg0 (aa M W3 B3).2.1 b0 e0 m0 k0 j0 a0).h ?_;rintro r w4⟨pr,cr,vs,rfl,IP,cG⟩;let⟨nr,Lm⟩:=bL (J (rl l0));obtain⟨tk,etk⟩:∃k,(kH (rl l0):Int)=k:=⟨_,rfl⟩;have RC4:=af IP.rct;have hnr:O (nr<=2^21):=by show _<=_;rw[<-aa Lm];exact fx (bR9) (by rw[aa e0];omega)
 rw[aa Lm,etk];have B4:=af (ah B3 cG);have X4:=af (X3.H cG);have VY:=br (Hq.1.H cG) (Hq.2.H cG);have Ge:=cG.size;obtain⟨k0',k1',k2',k3',k4',k5',-⟩:=(zG.H W.2 cG).c6
 go_wp21
 have HF:=af E.1.Bg;refine(Ty en em VY.1 VY.2 (by rw[<-aa en];have:=E.1.sl;omega) (by rw[<-aa em];have:=E.1.nl;omega) (af λs hs=>(HF.s2 s hs).1) HF.s3 E.1.cW E.1.mU HF.n3).h ?_;rintro r w5⟨b,bs,bn,SB,NB,yr,UB,rfl,bD,cR⟩;have P5:=af (PS.of bD cR HF (aM E.1.sl) (aM E.1.nl));have X5:=af (X4.H cR);have RC5:=af (RC4.H cR);have VX:=af (aa M w4 B4);have HL:=br Ge cR.size
 go_wp21
 refine(dn3 P5 E Lm hnr RC5 (aj5 b0) VX.2.2.2.1 VX.2.2.2.2.1 dop hd eX).h ?_;rintro r w6⟨SB6,NB6,HB6,UB6,rfl,P6,F6⟩;have HP6:=af P6;have X6:=af (X5.T F6);have HF6:=af F6;have HFX:=af HGX.1.Bg
 go_wp21
 refine(bn0 HP6 (KD.of HFX) HFX.s3).h ?_;rintro r w7⟨P7,F7,v7,rfl⟩;have j:=af P7;have X7:=af (X6.T F7);have HF7:=af (HF6.Z F7);let⟨nx,N⟩:=bL (Lw X.1).E.length;let⟨mx,V⟩:=bL (Lw X.1).N.length
 go_wp21
 have Z:=af (bM7 (HGX.1.re (tQ _) HGX.1.e.2 (d:=0) (t:=0) ⟨tQ 0,Kh _⟩ ⟨tQ 0,Kh _⟩) j);dsimp only at Z;rw[show J (List.map (λs:aC=>(s.1,(0:Int),([]:List Ev))) X.1.E)=nx from aa N,show J (List.map lE X.1.N)=mx from aa V]at Z;refine Z.h ?_;rintro r w8⟨p8,c8,q8,d8,rfl,hs8,Gv⟩;have X8:=X7.H Gv;let⟨r0,r1,r2,r3,r4,r5,rf⟩:=X8.cells;have BB:Bw w w8:=(VX.2.2.2.2.2.Z (j.be.h (aM VX.2.2.2.2.2.size))).Z (Gv.h (by have:=j.be.size;have:=VX.2.2.2.2.2.size;omega));have H8:=af ((hs8.W (w':=fv w8 (U (Q w)+1) (.U X.1.e) (.U X.1.g) (.U X.1.x) (.I 0) (.S p8 nx c8) (.S q8 mx d8)) (λy h1 h2=>Da (by have:=j.be.size;have:=HL.1;have:=W.1;omega))).h (B':=U (Q w)) (by have:=j.be.size;have:=VX.2.2.2.2.2.size;omega));go_wp2;refine bO (v:=dT #[bS X.1.e X.1.g X.1.x 0 (.S p8 nx c8) (.S q8 mx d8),.U X.2,.I 0]) (by simp[results,results18,go_sem,r0,r1,r2,r3,r4,r5]) rfl ⟨?_,sR BB⟩;rw[aa HD];refine⟨p8,c8,q8,d8,?_,?_⟩;{simp only[aa N,aa V];rfl};{simp only[aa N,aa V];exact aa H8}}
abbrev BI(v0:dV)(n0:Int)(v1:dV)(n1:Int)(v2:dV)(n2:Int)(e g x t:Int)(S N:dV)(q:Int):dV:=jP #[v0,.I n0,v1,.I n1,v2,.I n2,.U e,.U g,.U x,.I t,S,N,.U q]
theorem Own.dg8{B R:Nat}{v:dV}(h:Own B w v l)(q:∀b,jB v=Y b->b≠R)(o:Nat)(x:dV):Own B (jS w (Ad R o) x) v l:=by
 refine⟨h.1,?_⟩;obtain u|⟨g,m,j,rfl,s,r,i⟩:=h.2;{exact .L u};{exact .R ⟨g,m,j,rfl,s,(Xz _ _ _ _ (q g rfl)).Z r,i⟩}
def aG2(w:G)(V:dV)(B:LI)(L:Nat):Prop:=∀v,Bw w v->Cp 61 #[V] v λr i=>∃j m,r=dR (.S j L m)/\Own (U (Q v)) i (.S j L m) B/\Bw v i
abbrev ZB(k:Nat)(cs:iA):dV:=.func (.func k) #[] cs
def cJ4(w:G)(g R:Nat):Prop:=I w (Ad g 0)=(ZB 95 #[])/\I w (Ad g 1)=(ZB 97 #[Pz R])/\I w (Ad g 2)=(ZB 99 #[])/\I w (Ad g 3)=(ZB 101 #[])/\I w (Ad g 4)=(ZB 102 #[])
def eF8(w:G)(q:Int)(B:LI)(L:Nat)(z:Ending)(w':G):Prop:=∃i R j m,z=dR (.T i 5 5)/\(U (Q w)<=i/\U (Q w)<=R)/\cJ4 w' i R/\I w' (Ad R 0)=dS j (L+20) m/\Own (U (Q w)) w' (.S j (L+20) m) (iM q B)/\Bw w w'
abbrev Ju(w:G)(b:Nat)(q e g x t:Int)(S N:dV):Prop:=I w (Ad b 12)=dU q/\I w (Ad b 6)=dU e/\I w (Ad b 7)=dU g/\I w (Ad b 8)=dU x/\I w (Ad b 9)=dI t/\I w (Ad b 10)=S/\I w (Ad b 11)=N
theorem df6(p0 p1 p2:OA)(k0 c0 k1 c1 k2 c2:Nat)(n0 n1 n2:Int)(e g x t q:Int)(p r:OA)(n c m d:Nat)(w:G)(B:LI)(L:Nat)(eL:Le B L)(hL:L<=190000)(hB:O (aA B))(hq:0<=q)(yK:q<=2^62)(hE:O (aG2 w (bS e g x t (.S p n c) (.S r m d)) B L)):dQ dG 49 #[BI (.S p0 k0 c0) n0 (.S p1 k1 c1) n1 (.S p2 k2 c2) n2 e g x t (.S p n c) (.S r m d) q] w (eF8 w q B L):=by
 obtain⟨W,hW,b1,z1,C1,-⟩:=bM w #[.S p0 k0 c0,.I n0,.S p1 k1 c1,.I n1,.S p2 k2 c2,.I n2,.U e,.U g,.U x,.I t,.S p n c,.S r m d,.U q] 36;go_in
 go_wp21
 rw[<-hW];clear hW;have HC:=af (λ(v:G)(hv:Bw W v)=>(λD=>(⟨D.1 12 _ rfl,D.1 6 _ rfl,D.1 7 _ rfl,D.1 8 _ rfl,D.1 9 _ rfl,D.1 10 _ rfl,D.1 11 _ rfl⟩:Ju v (U (Q w)) q e g x t (.S p n c) (.S r m d))) (C1.H ae hv));have s:=af (aR (U (Q W)) W).drew;clear C1;refine fK (λv=>Ju v (U (Q w)) q e g x t (.S p n c) (.S r m d)) (by exact HC _ s) λhS=>?_;let⟨v,fU⟩:=aF W.drew;rw[<-fU]at s hS⊢;clear fU;refine iL 0 1 2 3 hS ?_
 iterate 3 (
  all_goals(first|refine uz 4 (λu hK=>?_)|refine uz 5 (λu hK=>?_)|refine uz 6 (λu hK=>?_)|refine yA 4 6 (λu hK=>?_) (λu hK=>?_)|refine yA 5 6 (λu hK=>?_) (λu hK=>?_))
  all_goals(first
   |(
    refine Tag.go 4 (js (aa hE _ (ah b1 s)) ?_);rintro z9 v'⟨p3,c3,rfl,o3,y⟩;refine⟨_,rfl,?_⟩;have RO:=br (Own.h o3 s.size) (λb e=>(Own.lt o3 b e).2);clear o3)
   |(
    refine Tag.go 5 (CK (cg2 eL (RO.1.rd) hB ae hq ae) ?_);rintro z9 v'⟨N,V,rfl,o4,y⟩;refine⟨_,rfl,?_⟩
    try have RN:=af (λb e=>show b≠R by have:=(Own.lt o4 b e).1;have:=M.1;omega)
    have RP:=br (Own.h o4 s.size) (λb e=>(Own.lt o4 b e).2);clear o4)
   |(
    refine Tag.go 6 ?_;go_simp;obtain⟨v',hv,y,zv,Rz,-⟩:=bM v #[aq] 22;rw[<-hv]
    try have RN:=af (λb e=>show b≠U v.heap by have:=RP.2 b e;omega)
    have RB:=af s.size;let⟨R,hR⟩:=aF (U (Q v));rw[<-hR]at Rz⊢
    try rw[<-hR]at RN
    rw[<-hR]at RB;have M:=br (by omega:R<U (Q v')) Rz;clear hv zv Rz hR))
  all_goals(
   have Z:=y.size
   try have RO:=br (Own.H RO.1 y) (λb e=>mj (RO.2 b e) Z)
   try have RP:=br (Own.H RP.1 y) (λb e=>mj (RP.2 b e) Z)
   try have M:=br (mj M.1 Z) (M.2.H M.1 y)
   have s:=af (ah s y);refine bQ hK (by exact HC _ s) λhS=>?_;clear hK u y Z
   rename G=>v))
 all_goals(
  refine ft 7 (λu hK=>?_);have n0:=M.2.1 0 _ rfl;have nf:=M.2.2;go_simp;have BX:=af (s.setCell (p:=(Ad R 0)) (by exact RB) (.S N (L+20) V));have OX:=af (Own.dg8 RP.1 RN 0 (.S N (L+20) V));have nX:I (jS v (Ad R 0) (.S N (L+20) V)) (Ad R 0)=dS N (L+20) V:=Xt v _ _ (by rw[n0];rfl);let⟨X,hX⟩:=aF (jS v (Ad R 0) (.S N (L+20) V));rw[<-hX]at BX OX nX⊢;refine bQ hK (by exact HC _ BX) λhS=>?_;clear hK u hS n0 nf hX;refine ga ?_;have bX:=ah b1 BX;go_wp2;go_ret;refine⟨U (Q X),R,N,V,rfl,⟨bX.size,aM (aa RB)⟩,⟨ai,ai,ai,ai,ai⟩,?_,Own.h (Own.H OX (aH.alloc az _)) ae,ah bX (aH.alloc az _)⟩;exact aj nX (aH.alloc az _))
structure Dk where
 l0:LI
 n0:Int
 l1:LI
 n1:Int
 l2:LI
 n2:Int
def CH(b:LI)(D:Dk):Nat->Dk
 |0=>D
 |1=>⟨D.l0,D.n0,D.l1,D.n1,[],0⟩
 |2=>⟨D.l0,D.n0,D.l1,D.n1,b,0⟩
 |3=>⟨D.l0,D.n0,D.l1,D.n1,b,J b⟩
 |4=>⟨D.l0,D.n0,b,J b,[],0⟩
 |_=>⟨[],0,b,J b,[],0⟩
def Dk.ok(D:Dk):Prop:=oK (J D.l0) D.n0 (J D.l1) D.n1 (J D.l2) D.n2=dY
theorem aL4{b:LI}{D:Dk}(h:D.ok)(s:J b<=200000):∀k,(CH b D k).ok:=by
 have q:=h;unfold Dk.ok oK at q;simp only[gI]at q;obtain⟨⟨j,o⟩,u⟩:=q;have i:mr 0 0:=Rk ae ae ae;have r:mr (J b) 0:=Rk ae ae ae;have m:mr (J b) (J b):=Rk ae ae ae;intro k
 match k with
 |0=>exact h
 |1=>exact NF j o i
 |2=>exact NF j o r
 |3=>exact NF j o m
 |4=>exact NF j m i
 |k+5=>exact NF i m i
theorem Dk.ok.len{D:Dk}(h:D.ok):J D.l0<=200000/\J D.l1<=200000/\J D.l2<=200000:=by
 unfold Dk.ok oK at h;simp only[gI]at h;exact⟨(aw9 h.1.1).1,(aw9 h.1.2).1,(aw9 h.2).1⟩
def bF1(w:G)(b:Nat)(D:Dk):Prop:=∃m r j q i o,lu w b (.S m (J D.l0) r) (.I D.n0) (.S j (J D.l1) q) (.I D.n1) (.S i (J D.l2) o) (.I D.n2)/\Rd w (.S m (J D.l0) r) D.l0/\Rd w (.S j (J D.l1) q) D.l1/\Rd w (.S i (J D.l2) o) D.l2
def eF7(w:G)(D:Dk)(e g x t:Int)(S N:dV)(q:Int)(z:Ending)(w':G):Prop:=∃m s j r i o,z=dR (BI (.S m (J D.l0) s) D.n0 (.S j (J D.l1) r) D.n1 (.S i (J D.l2) o) D.n2 e g x t S N q)/\Rd w' (.S m (J D.l0) s) D.l0/\Rd w' (.S j (J D.l1) r) D.l1/\Rd w' (.S i (J D.l2) o) D.l2/\Bw w w'
def lX(b:Nat)(w v:G):Prop:=U (Q w)<=U (Q v)/\∀k,k<U (Q w)->k≠b->v.heap[k]?=w.heap[k]?
theorem lX.H(h:lX b w v)(j:Bw v u):lX b w u:=⟨fx h.1 j.size,λk i m=>(j.block k (mj i h.1)).Z (h.2 k i m)⟩
theorem lX.set(h:lX b w v)(o:Nat)(x:dV):lX b w (jS v (Ad b o) x):=⟨by simpa using h.1,λk j i=>(Xz _ _ _ _ i).Z (h.2 k j i)⟩
theorem lX.cell(h:lX b w v){k o:Nat}(i:k≠b)(hc:I w (Ad k o)=x):I v (Ad k o)=x:=by
 have j:=nI w _ hc;have:=h.2 k j i;simp only[World.cell?]at hc⊢;rw[this];exact hc
theorem lX.own{b B:Nat}(h:lX b w v)(j:Own B w z l)(u:b<B):Own B v z l:=by
 refine⟨j.1,?_⟩;obtain s|⟨g,o,m,rfl,r,q,i⟩:=j.2;{exact .L s};{exact .R ⟨g,o,m,rfl,r,(h.2 g (j.lt g rfl).2 ae).Z q,i⟩}
theorem Rd.VK(h:Rd w V l)(hK:w.heap[K]?=dO cs ty)(s:∀x:Int,Value.int .u8 x∉cs)(r:lX K w v):Rd v V l:=by
 obtain⟨p,j,rfl,u⟩:=h;obtain B|⟨b,o,y,q⟩:=u;{exact⟨p,j,rfl,.L B⟩};{refine⟨p,j,rfl,.R ⟨b,o,y,λi m=>r.cell ?_ (q i m)⟩⟩;rintro rfl;have:=q i m;simp[World.cell?,hK]at this;exact s _ (aR8 this)}
theorem Ph{o:Nat}(i:6<=o)(h:I w (Ad b o)=x)(v0 v1 v2 v3 v4 v5:dV):I (fv w b v0 v1 v2 v3 v4 v5) (Ad b o)=x:=by
 unfold fv
 iterate 6 rw[PO _ _ _ _ (by intro e;simp at e;omega)]
 exact h
theorem df4{w1 wr s:G}{q x:Int}{S o0 o1 o2 o3 o4 o5:dV}(m:Bw wr s)(X:U (Q w)<U (Q wr))(a:lu wr (U (Q w)) o0 o1 o2 o3 o4 o5)(v:Ju wr (U (Q w)) q e g x t S N)(f:∀o,jF wr (Aw w o)=dF)(X1:lX (U (Q w)) w1 wr)(B1:Bw w wr){E:Dk}{D B y:OA}{W R M:Nat}(o:my (U (Q wr)) s (.S D (J E.l0) W) (.S B (J E.l1) R) (.S y (J E.l2) M) E.l0 E.l1 E.l2):O (bF1 (fv s (U (Q w)) (.S D (J E.l0) W) (.I E.n0) (.S B (J E.l1) R) (.I E.n1) (.S y (J E.l2) M) (.I E.n2)) (U (Q w)) E)/\O (Ju (fv s (U (Q w)) (.S D (J E.l0) W) (.I E.n0) (.S B (J E.l1) R) (.I E.n1) (.S y (J E.l2) M) (.I E.n2)) (U (Q w)) q e g x t S N)∧
   O (∀o,jF (fv s (U (Q w)) (.S D (J E.l0) W) (.I E.n0) (.S B (J E.l1) R) (.I E.n1) (.S y (J E.l2) M) (.I E.n2)) (Aw w o)=dF)/\O (lX (U (Q w)) w1 (fv s (U (Q w)) (.S D (J E.l0) W) (.I E.n0) (.S B (J E.l1) R) (.I E.n1) (.S y (J E.l2) M) (.I E.n2)))∧
   O (Bw w (fv s (U (Q w)) (.S D (J E.l0) W) (.I E.n0) (.S B (J E.l1) R) (.I E.n1) (.S y (J E.l2) M) (.I E.n2))):=by
 have Z:=a.H m;have f2:=rY f m X;have c:=Xf (w:=s) (b:=U (Q w)) (o0:=o0) (o1:=o1) (o2:=o2) (o3:=o3) (o4:=o4) (o5:=o5) ⟨λi u j=>by
  match i,j with
  |0,j=>cases j;exact Z.1
  |1,j=>cases j;exact Z.2.1
  |2,j=>cases j;exact Z.2.2.1
  |3,j=>cases j;exact Z.2.2.2.1
  |4,j=>cases j;exact Z.2.2.2.2.1
  |5,j=>cases j;exact Z.2.2.2.2.2
  |i+6,j=>simp at j,f2⟩ (v0:=jC D (J E.l0) W) (v1:=jK jV E.n0) (v2:=jC B (J E.l1) R) (v3:=jK jV E.n1) (v4:=jC y (J E.l2) M) (v5:=jK jV E.n2)
 have r:∀{V:dV}{l:LI},Ow wr s V l->Rd (fv s (U (Q w)) (.S D (J E.l0) W) (.I E.n0) (.S B (J E.l1) R) (.I E.n1) (.S y (J E.l2) M) (.I E.n2)) V l:=λh=>((((((h.set X _).set X _).set X _).set X _).set X _).set X _).rd;refine⟨⟨D,W,B,R,y,M,⟨c.1 0 _ rfl,c.1 1 _ rfl,c.1 2 _ rfl,c.1 3 _ rfl,c.1 4 _ rfl,c.1 5 _ rfl⟩,r o.o0,r o.o1,r o.o2⟩,?_,c.2,?_,B1.Z ((m.h ae).Z (sY _ _ _ _ _ _ _))⟩;{obtain⟨v0,v1,v2,v3,v4,v5,v6⟩:=v;exact⟨Ph ae (aj v0 m) _ _ _ _ _ _,Ph ae (aj v1 m) _ _ _ _ _ _,Ph ae (aj v2 m) _ _ _ _ _ _,Ph ae (aj v3 m) _ _ _ _ _ _,Ph ae (aj v4 m) _ _ _ _ _ _,Ph ae (aj v5 m) _ _ _ _ _ _,Ph ae (aj v6 m) _ _ _ _ _ _⟩};{exact((((((X1.H m).set 0 _).set 1 _).set 2 _).set 3 _).set 4 _).set 5 _}
theorem bO5(p0 p1 p2:OA)(c0 c1 c2:Nat)(D:Dk)(e g x t q:Int)(p r:OA)(n c m d:Nat)(i:Nat)(bD:i<=5)(w:G)(B:LI)(L:Nat)(eL:Le B L)(hL:L<=190000)(hB:O (aA B))(hq:0<=q)(yK:q<=2^62)(hE:O (aG2 w (bS e g x t (.S p n c) (.S r m d)) B L))(hD:O D.ok)(h0:Rd w (.S p0 (J D.l0) c0) D.l0)(h1:Rd w (.S p1 (J D.l1) c1) D.l1)(h2:Rd w (.S p2 (J D.l2) c2) D.l2):dQ dG 20 #[BI (.S p0 (J D.l0) c0) D.n0 (.S p1 (J D.l1) c1) D.n1 (.S p2 (J D.l2) c2) D.n2 e g x t (.S p n c) (.S r m d) q,.I i] w (eF7 w (CH (iM q B) D i) e g x t (.S p n c) (.S r m d) q):=by
 obtain⟨W,hW,b1,z1,V,-⟩:=bM w #[.S p0 (J D.l0) c0,.I D.n0,.S p1 (J D.l1) c1,.I D.n1,.S p2 (J D.l2) c2,.I D.n2,.U e,.U g,.U x,.I t,.S p n c,.S r m d,.U q] 36;obtain⟨W2,fM,b2,z2,X,T2⟩:=bM W #[aq,.I 0,aq,.I 0,aq,.I 0,.U 0,.U 0,.U 0,.I 0,aq,aq,.U 0] 36;go_in;let⟨o0,o1,o2,o3,o4,o5,o6,o7,o8,o9,oa,ob,oc⟩:=cI7 V.1
 go_wp21
 rw[<-hW,<-fM];clear hW fM;refine(df6 p0 p1 p2 (J D.l0) c0 (J D.l1) c1 (J D.l2) c2 D.n0 D.n1 D.n2 e g x t q p r n c m d W2 B L eL hL hB hq yK (by exactλv u=>aa hE v (ah (ah b1 b2) u))).h ?_;rintro z w1⟨iG,R,pb,cb,rfl,hGR,hS,hR,oB,ao⟩;have Hb:=ah (ah b1 b2) ao;have s:=((V.H ae b2).H ae ao);have C2':=X.H ae ao;rw[z1]at C2';have gG:U (Q w)+2<=iG/\U (Q w)+2<=R:=ae;clear hGR;have Wv:=af (show U (Q w)+2<=U w1.heap by have:=ao.size;omega);have HA:=af (λ(v:G)(u:lX (U (Q w)) w1 v)=>aD (show cJ4 v iG R from⟨u.cell ae hS.1,u.cell ae hS.2.1,u.cell ae hS.2.2.1,u.cell ae hS.2.2.2.1,u.cell ae hS.2.2.2.2⟩) (aD (u.cell ae hR) (aD (u.own oB ae).rd (λ(o:Nat)(x:dV)(hc:I w1 (Ax w o)=x)=>u.cell ae hc))));have HD:=af (show bF1 w1 (U (Q w)) (CH (iM q B) D 0)from⟨p0,c0,p1,c1,p2,c2,⟨s.1 0 _ rfl,s.1 1 _ rfl,s.1 2 _ rfl,s.1 3 _ rfl,s.1 4 _ rfl,s.1 5 _ rfl⟩,h0.H Hb,h1.H Hb,h2.H Hb⟩);have HV:=af (show Ju w1 (U (Q w)) q e g x t (.S p n c) (.S r m d)from⟨s.1 12 _ rfl,s.1 6 _ rfl,s.1 7 _ rfl,s.1 8 _ rfl,s.1 9 _ rfl,s.1 10 _ rfl,s.1 11 _ rfl⟩);have HF:=af s.2;have HT:=af ((ao.block _ ae).Z T2);rw[z1]at HT;clear T2;clear o0 o1 o2 o3 o4 o5 o6 o7 o8 o9 oa ob oc V X s C2' hS hR oB ao h0 h1 h2 b1 b2 z1 z2
 go_wp21
 have eLb:J (iM q B)=L+20:=by rw[Ie,aa eL]
 have Z:J (iM q B)<=200000:=ae;rw[<-eLb]at HA;clear eLb
 go_loopw[12](λiv wr=>∃k:Nat,k<=i/\iv=.I k/\O (bF1 wr (U (Q w)) (CH (iM q B) D k))/\O (Ju wr (U (Q w)) q e g x t (.S p n c) (.S r m d))/\O (∀o,jF wr (Aw w o)=dF)/\O (lX (U (Q w)) w1 wr)/\O (Bw w wr)) (λiv _=>i-(jN (intOf iv)))
 exact⟨0,cT _,rfl,HD,HV,HF,⟨fq _,λ_ _ _=>rfl⟩,Hb⟩;{
 obtain⟨k,hk,rfl,N,hV,hF,hX,ir⟩:=hrel;obtain⟨A1,A2,A3,A4⟩:=aa HA wr hX;by_cases aL:k<i;{
 have cM:=bR k i;have zz:=af (show U (Q w)<U wr.heap by have:=hX.1;have:=aa Wv;omega);have EK:=af (aL4 (b:=iM q B) hD Z k);obtain⟨mm0,mm1,mm2⟩:=EK.len;obtain⟨P0,C0,P1,V,P2,X,⟨a0,a1,a2,a3,a4,a5⟩,r0,r1,r2⟩:=aa N;obtain⟨s0,s1,s2,s3,s4⟩:=A1;have HS:=af (db7 P0 P1 P2 C0 V X _ _ _ _ _ _ wr r0 r1 r2 EK mm0 mm1 mm2);obtain⟨k1,ek1⟩:∃k1,O (k1=k+1):=⟨_,rfl⟩;obtain rfl|rfl|rfl|rfl|rfl:=(show k=0\/k=1\/k=2\/k=3\/k=4 by omega)
 all_goals(
  go_wp21
  first
   |(go_at_call 95;refine HS.1.h ?_)
   |(go_at_call 97;refine(HS.2.2.2 R pb cb (iM q B) (iM q B) (by show _=_;simp[CH]) (by exact A2) (by exact A3) Z Z).h ?_)
   |(go_at_call 99;refine HS.2.1.h ?_)
   |(go_at_call 102;refine HS.2.2.1.h ?_)
   |refine(cC8 P0 P1 P2 C0 V X _ _ _ _ _ _ wr r0 r1 r2 EK mm0 mm1 mm2).2.2.2.2.h ?_
  rintro z w2⟨q0,d0,q1,d1,q2,d2,rfl,o,M⟩;have e1:=aa ek1;simp only[l9,Nat.reduceAdd]at e1;have HP:=df4 (E:=CH (iM q B) D k1) M zz ⟨a0,a1,a2,a3,a4,a5⟩ hV hF hX ir (by subst e1;exact o);subst e1;have f2:=rY hF M zz;have b0:=aj a0 M;have b1:=aj a1 M;have b2:=aj a2 M;have b3:=aj a3 M;have b4:=aj a4 M;have b5:=aj a5 M;clear a0 a1 a2 a3 a4 a5 r0 r1 r2 s0 s1 s2 s3 s4 M o hV hF hX ir N A2 A3 A4 HS;go_wp2;go_roundw;exact⟨_,ae,by go_num,HP.1,HP.2.1,HP.2.2.1,HP.2.2.2.1,HP.2.2.2.2⟩
  case measure=>simp[intOf];omega)}
 {
 obtain rfl:k=i:=ae;have cM:=fG k k;obtain⟨P0,C0,P1,V,P2,X,⟨a0,a1,a2,a3,a4,a5⟩,r0,r1,r2⟩:=aa N;obtain⟨vc,v6,v7,v8,v9,va,vb⟩:=aa hV;have j:=(hX.2 _ (aM (aa Wv)) ae).Z HT;have nf:∀o,jF wr (Ax w o)=dF:=λo=>by simp[World.frozen?,j]
 have n0:=cX j 0;have n1:=cX j 1;have n2:=cX j 2;have n3:=cX j 3;have n4:=cX j 4;have n5:=cX j 5;have n6:=cX j 6;have n7:=cX j 7;have n8:=cX j 8;have n9:=cX j 9;have na:=cX j 10;have nb:=cX j 11;have nc:=cX j 12;have RR:=af (λ(v:G)(u:lX (U (Q w)+1) wr v)=>aD (r0.VK j (by intro y;simp) u) (aD (r1.VK j (by intro y;simp) u) (r2.VK j (by intro y;simp) u)));have BW:=af ir;clear r0 r1 r2 j HA N hV hF hX ir HT;simp at n0 n1 n2 n3 n4 n5 n6 n7 n8 n9 na nb nc;go_wp2;have EX:=λ(x0 x1 x2 x3 x4 x5 x6 x7 x8 x9 xd xe xf:dV)=>((((((((((((((show lX (U (Q w)+1) wr wr from⟨fq _,λ_ _ _=>rfl⟩).set 0 x0).set 1 x1).set 2 x2).set 3 x3).set 4 x4).set 5 x5).set 6 x6).set 7 x7).set 8 x8).set 9 x9).set 10 xd).set 11 xe).set 12 xf);obtain⟨R0,R1,R2⟩:=aa RR _ (EX _ _ _ _ _ _ _ _ _ _ _ _ _);refine bO (v:=BI (.S P0 _ C0) _ (.S P1 _ V) _ (.S P2 _ X) _ e g x t (.S p n c) (.S r m d) q) (by simp[results,results20,go_sem,n0,n1,n2,n3,n4,n5,n6,n7,n8,n9,na,nb,nc]) rfl ⟨P0,C0,P1,V,P2,X,rfl,R0,R1,R2,?_⟩
 iterate 13 refine kV ?_ ai _
 exact BW}}
def aa5(w:G)(V:dV)(e g x t:Int)(ss:List aC)(ns:List au):Prop:=∀v,Bw w v->Cp 43 #[V] v λz i=>∃b,z=dR (Pz b)/\Bw v i/\Cp 46 #[Pz b] i λz j=>∃p c q d,z=dR (bS e g x t (.S p (J ss) c) (.S q (J ns) d))/\nG (U (Q i)) j p (J ss) c q (J ns) d ss ns/\Bw i j
abbrev LJ(w:G)(b:Nat)(v0 v1 v2 v3 v4 v5:dV)(q e g x t:Int)(S N:dV):Prop:=lu w b v0 v1 v2 v3 v4 v5/\Ju w b q e g x t S N
theorem LJ.ex{q x:Int}{S:dV}(h:LJ w b v0 v1 v2 v3 v4 v5 q e g x t S N)(i:lX K w v)(j:b≠K):LJ v b v0 v1 v2 v3 v4 v5 q e g x t S N:=by
 obtain⟨⟨W,V,R,M,E,D⟩,B,y,u,s,r,o,m⟩:=h;exact⟨⟨i.cell j W,i.cell j V,i.cell j R,i.cell j M,i.cell j E,i.cell j D⟩,i.cell j B,i.cell j y,i.cell j u,i.cell j s,i.cell j r,i.cell j o,i.cell j m⟩
def CpR(w:G)(D:Dk)(e g x t:Int)(ss:List aC)(ns:List au)(q:Int)(z:Ending)(w':G):Prop:=∃m u j s i o p c r d,z=dR (BI (.S m (J D.l0) u) D.n0 (.S j (J D.l1) s) D.n1 (.S i (J D.l2) o) D.n2 e g x t (.S p (J ss) c) (.S r (J ns) d) q)/\∃B,U (Q w)<=B/\my (U (Q w)) w' (.S m (J D.l0) u) (.S j (J D.l1) s) (.S i (J D.l2) o) D.l0 D.l1 D.l2/\(∀b,jB (Value.slice m (J D.l0) u)=Y b\/jB (Value.slice j (J D.l1) s)=Y b\/jB (Value.slice i (J D.l2) o)=Y b->b<B)/\nG B w' p (J ss) c r (J ns) d ss ns/\Bw w w'
theorem aK2(p0 M p2:OA)(c0 V c2:Nat)(D:Dk)(e g x t q:Int)(p r:OA)(n c m d:Nat)(ss:List aC)(ns:List au)(w:G)(hC:O (aa5 w (bS e g x t (.S p n c) (.S r m d)) e g x t ss ns))(h0:Rd w (.S p0 (J D.l0) c0) D.l0)(h1:Rd w (.S M (J D.l1) V) D.l1)(h2:Rd w (.S p2 (J D.l2) c2) D.l2)(m0:J D.l0<=200000)(m1:J D.l1<=200000)(m2:J D.l2<=200000):dQ dG 21 #[BI (.S p0 (J D.l0) c0) D.n0 (.S M (J D.l1) V) D.n1 (.S p2 (J D.l2) c2) D.n2 e g x t (.S p n c) (.S r m d) q] w (CpR w D e g x t ss ns q):=by
 obtain⟨W,hW,b1,z1,C1,-⟩:=bM w #[.S p0 (J D.l0) c0,.I D.n0,.S M (J D.l1) V,.I D.n1,.S p2 (J D.l2) c2,.I D.n2,.U e,.U g,.U x,.I t,.S p n c,.S r m d,.U q] 36;let⟨X,fM,b2,z2,u,T2⟩:=bM W #[aq,.I 0,aq,.I 0,aq,.I 0,.U 0,.U 0,.U 0,.I 0,aq,aq,.U 0] 36;go_in
 go_wp21
 rw[<-hW,<-fM];clear hW fM;have bb:=ah b1 b2;rw[z1]at u;have Z:=af (λ(v:G)(N:Bw X v)=>(λj=>(⟨⟨j.1 0 _ rfl,j.1 1 _ rfl,j.1 2 _ rfl,j.1 3 _ rfl,j.1 4 _ rfl,j.1 5 _ rfl⟩,j.1 12 _ rfl,j.1 6 _ rfl,j.1 7 _ rfl,j.1 8 _ rfl,j.1 9 _ rfl,j.1 10 _ rfl,j.1 11 _ rfl⟩:LJ v (U (Q w)) (.S p0 (J D.l0) c0) (.I D.n0) (.S M (J D.l1) V) (.I D.n1) (.S p2 (J D.l2) c2) (.I D.n2) q e g x t (.S p n c) (.S r m d))) ((C1.H ae b2).H ae N));have HR:=af (λ(v:G)(N:Bw X v)=>aD (h0.H (ah bb N)) (aD (h1.H (ah bb N)) (aD (h2.H (ah bb N)) (u.H ae N))));have BV:=af (aR (U (Q X)) X).drew;clear C1 u h0 h1 h2;refine fK (λv=>LJ v (U (Q w)) (.S p0 (J D.l0) c0) (.I D.n0) (.S M (J D.l1) V) (.I D.n1) (.S p2 (J D.l2) c2) (.I D.n2) q e g x t (.S p n c) (.S r m d)) (by exact Z _ BV) λhS=>?_;let⟨v,fU⟩:=aF X.drew;rw[<-fU]at BV hS⊢;clear fU;refine iL 0 1 4 5 hS ?_;refine gh 8 9 hS ?_;refine ft 2 (λs hK=>?_);refine js (ax4 p0 M p2 c0 V c2 rfl rfl rfl) ?_;rintro z v1⟨rfl,ao⟩;refine⟨_,rfl,?_⟩;have y:=af (ah BV ao);refine bQ hK (by exact Z _ y) λhS=>?_;clear hK s ao BV;refine ft 3 (λs hK=>?_);refine js (bn8 (aa HR _ y).1 (aa HR _ y).2.1 (aa HR _ y).2.2.1 ae ae ae) ?_;rintro z v2⟨P0,C0,P1,C1,P2,u,rfl,O3,ay⟩;refine⟨_,rfl,?_⟩;have B2:=af (ah y ay);have O2:=af (O3.h y.size);have L2:=af (λb(h:jB (Value.slice P0 (J D.l0) C0)=Y b\/jB (Value.slice P1 (J D.l1) C1)=Y b\/jB (Value.slice P2 (J D.l2) u)=Y b)=>show b<U v2.heap by obtain h|h|h:=h;{exact(Own.lt O3.o0 b h).2};{exact(Own.lt O3.o1 b h).2};{exact(Own.lt O3.o2 b h).2})
 refine bQ hK (by exact Z _ B2) λhS=>?_;clear hK s ay y O3;refine ft 6 (λs hK=>?_);refine js (aa hC _ (ah bb B2)) ?_;rintro z v3⟨sb,rfl,aE,HS⟩;refine⟨_,rfl,?_⟩;have B3:=af (ah B2 aE);have z23:=af aE.size;have O4:=af (O2.H aE);have lD:=af HS;refine bQ hK (by exact Z _ B3) λhS=>?_;clear hK s aE B2 O2 HS;refine ft 7 (λs hK=>?_);refine js lD ?_;rintro z v4⟨Ps,Cs,Pn,Cn,rfl,SO,cG⟩;refine⟨_,rfl,?_⟩;have B4:=af (ah B3 cG);have O5:=af (O4.H cG);have SO2:=af SO;refine bQ hK (by exact Z _ B4) λhS=>?_;clear hK s cG O4 lD SO;refine tn 10 hS ?_;refine ft 11 (λs hK=>?_);have ZC:=(aa HR _ B4).2.2.2;have nf:=ZC.2;let⟨n0,n1,n2,n3,n4,n5,n6,n7,n8,n9,na,nb,nc⟩:=cI7 ZC.1;go_simp;have EX:=λ(x0 x1 x2 x3 x4 x5 x6 x7 x8 x9 xd xe xf:dV)=>((((((((((((((show lX (U (Q w)+1) v4 v4 from⟨fq _,λ_ _ _=>rfl⟩).set 0 x0).set 1 x1).set 2 x2).set 3 x3).set 4 x4).set 5 x5).set 6 x6).set 7 x7).set 8 x8).set 9 x9).set 10 xd).set 11 xe).set 12 xf);have B4s:=af B4.size;have B3s:=af B3.size;refine bQ hK (by exact LJ.ex (aa Z _ B4) (EX _ _ _ _ _ _ _ _ _ _ _ _ _) ae) λhS=>?_;clear hK s hS;refine ga ?_;go_wp2;refine bO (v:=BI (.S P0 _ C0) _ (.S P1 _ C1) _ (.S P2 _ u) _ e g x t (.S Ps _ Cs) (.S Pn _ Cn) q) (by simp[results,results21,go_sem,n0,n1,n2,n3,n4,n5,n6,n7,n8,n9,na,nb,nc]) rfl ⟨P0,C0,P1,C1,P2,u,Ps,Cs,Pn,Cn,rfl,U (Q v3),aM (aa B3s),?_,λb h=>mj (aa L2 b h) z23,?_,?_⟩;{
 refine my.h (B:=U (Q X)) ?_ ae
 iterate 13 refine my.set ?_ cg _
 exact O5};{refine nG.W SO2 λb ao ay=>(EX _ _ _ _ _ _ _ _ _ _ _ _ _).2 b ay (aM (aa B3s))};{
 iterate 13 refine kV ?_ ai _
 exact ah bb B4}
def Om(r:Ending)(w:G)(R:fu×Int×Int):Prop:=∃p c q d,r=dR (dT #[bS R.1.e R.1.g R.1.x R.1.t (.S p (J R.1.E) c) (.S q (J R.1.N) d),.U R.2.1,.I R.2.2])/\mX w (.S p (J R.1.E) c) R.1.E/\iy w (.S q (J R.1.N) d) R.1.N
theorem Om.no{R:fu×Int×Int}(h:O (R=(mO,0,C))):Om (dR (dT #[bS 0 0 0 0 aq aq,.U 0,.I C])) w R:=by
 rw[aa h];exact⟨dN,0,dN,0,rfl,(ak0).rd,ak1⟩
def Sn(w:G)(sb:Nat)(D:SD):Prop:=∃p c q d,BX w sb [.U D.e,.U D.g,.U D.x,.I D.t,.S p (J D.E) c,.S q (J D.N) d]/\mX w (.S p (J D.E) c) D.E/\iy w (.S q (J D.N) d) D.N
theorem Sn.H(h:Sn w sb D)(i:Bw w w'):Sn w' sb D:=by
 obtain⟨p,c,q,d,o,m,j⟩:=h;exact⟨p,c,q,d,o.H i,m.H i,j.H i⟩
theorem de0(N:J l=n)(E:aA l)(hl:Mg n)(hr:Rd w (.S q n d) l)(D:n<=d)(M:JP w q d)(y:sV l o):Cp 33 #[.S q n d] w λr w'=>∃(K S F:Nat)(P V:LI)(m:OA)(i:Nat)(j:OA)(u:Nat)(C:Int),r=dR (dT #[qF K S (.S m (J P) i) F (.S j (J V) u) 0 0,.I C])/\(Rd w' (.S m (J P) i) P/\Rd w' (.S j (J V) u) V/\J P<=i/\i<=maxLen)/\Bw w w'/\((o=dN/\C=13)\/(o=Y (K,S,F,P,V)/\C=0)):=by
 cases o with
 |none=>
  refine(dd8 N E hl y q d w aH hr D M).h ?_;rintro r w'⟨m,i,j,u,B,rfl,-,s,-,oV,x⟩;exact⟨0,0,0,[],[],m,i,j,u,13,rfl,⟨s.rd,oV.rd,cT _,s.NL⟩,x,.L ⟨rfl,rfl⟩⟩
 |some o=>
  obtain⟨K,S,F,P,V⟩:=o;refine(dd6 N E hl y q d w aH hr D M).h ?_;rintro r w'⟨m,i,j,u,B,rfl,-,s,-,oV,x⟩;exact⟨K,S,F,P,V,m,i,j,u,0,rfl,⟨s.rd,oV.rd,s.cap,s.NL⟩,x,.R ⟨rfl,rfl⟩⟩
theorem bN4(p0 p1 p2:OA)(n0 c0 n1 c1 n2 c2:Nat)(s0 s1 s2:Int)(l0 l1:LI)(e0:Le l0 n0)(e1:Le l1 n1)(w:G)(h0:Rd w (.S p0 n0 c0) l0)(h1:Rd w (.S p1 n1 c1) l1)(m0:Mg n0)(m1:Mg n1)(m2:Mg n2)(k0:n0<=c0)(k1:n1<=c1)(j0:O (c0<=maxLen))(j1:O (c1<=maxLen))(a1:O ((p1=dN/\c1=0)\/∃b o,p1=(Ad b o)))(b0:O (aA l0))(b1:O (aA l1))(dop:LI->Option Rq)(hd:O (∀l,sV l (dop l)))(ok:Bool)(ld:O (oK n0 s0 n1 s1 n2 s2=ok))(R:fu×Int×Int)(eR:O (uY dop l0 l1 ok=R)):dQ dG 13 #[mu (.S p0 n0 c0) s0 (.S p1 n1 c1) s1 (.S p2 n2 c2) s2] w λr w'=>Om r w' R/\Bw w w':=by
 obtain⟨W0,bG,q0,z0,C0,-⟩:=bM w #[.S p0 n0 c0,.I s0,.S p1 n1 c1,.I s1,.S p2 n2 c2,.I s2] 30;let⟨W1,fo,q1,z1,C1⟩:=yY W0;rw[z0]at C1 z1;have bW:=ah q0 q1;have HA:=af (λ(v:G)(hv:Bw W1 v)=>aD ((C0.H ae q1).H ae hv).c6 (aD (h0.H (ah bW hv)) (aD (h1.H (ah bW hv)) (aD (C1.H hv) (ah bW hv)))));have HZ:=br z0 z1;clear q0 q1 C0 C1 bW h0 h1 z0 z1;go_in
 go_wp21
 rw[<-bG,<-fo];clear bG fo;refine cK (aL1 ae ae ae) λw1 ao=>?_;rw[aa ld];have B1:=af ao;have fy:=ao.size;clear ao ld;cases ok with
 |false=>
  have N:O (R=(mO,0,1)):=by show _=_;rw[<-aa eR];rfl
  let⟨r0,r1,r2,r3,r4,r5,rf⟩:=(aa HA w1 B1).2.2.2.1.cells;have BB:=(aa HA w1 B1).2.2.2.2;clear fy;go_wp2;exact bO (by simp[results,results13,go_sem,r0,r1,r2,r3,r4,r5]) rfl ⟨Om.no N,sR BB⟩
 |true=>
  let⟨W2,fM,b2,z2,C2⟩:=yY w1;have B2:=af (ah B1 b2);let⟨sb,AD⟩:=aF (U (Q w1));rw[<-AD]at C2;have yj:=af C2;have Yl:O (U (Q w)+2<=sb/\sb<U (Q W2)):=⟨aM HZ.2,ae⟩;obtain⟨⟨i0,i1,i2,i3,i4,i5,-⟩,-⟩:=aa HA W2 B2;clear fy b2 z2 C2 B1;subst fM
  go_upto_if 28 with fail
  clear i0 i1 i2 i3 i4 i5;rw[<-AD];let⟨W2,fM⟩:=aF (jA w1 (dO #[.U 0,.U 0,.U 0,.I 0,aq,aq] 34));rw[<-fM]at B2 yj Yl⊢;clear fM AD
  go_cut[6](λsv wc=>∃(D:SD)(q:Int),sv=.U q/\O (mQ l1=Y (D,q))/\O (Sn wc sb D)/\O (Bw W1 wc/\sb<U (Q wc)))
  case first=>(
 by_cases AH:n1=0;{
 have qz:¬(0:Int)<(n1:Int):=ae;have N:O (mQ l1=Y (⟨0,0,0,0,[],[]⟩,0)):=by show _=_;rw[mQ,aK (aa e1▸AH)]
 clear AH
 go_wp21
 go_meet;exact⟨⟨0,0,0,0,[],[]⟩,0,rfl,N,af ⟨dN,0,dN,0,yj,(ak0).rd,ak1⟩,af ⟨B2,Yl.2⟩⟩};{
 have qz:=rr 0 n1;obtain⟨⟨i0,i1,i2,i3,i4,i5,-⟩,-⟩:=aa HA W2 B2
 go_wp21
 clear i0 i1 i2 i3 i4 i5;by_cases Rf:n1<20;{
 refine(de5 Rf).h ?_;rintro r w3⟨p3,c3,rfl,-,aE⟩;have N:O (R=(mO,0,13)):=by show _=_;rw[<-aa eR];exact Qc (bO8 (aa e1▸AH) (aa e1▸Rf))
 let⟨r0,r1,r2,r3,r4,r5,rf⟩:=(aa HA w3 (ah B2 aE)).2.2.2.1.cells;have BB:=(aa HA w3 (ah B2 aE)).2.2.2.2;clear aE;go_wp2;exact bO (by simp[results,results13,go_sem,r0,r1,r2,r3,r4,r5]) rfl ⟨Om.no N,sR BB⟩};{
 obtain⟨pb,po,rfl⟩:∃b o,p1=(Ad b o):=by obtain⟨-,h⟩|h:=aa a1;{omega};{exact h}
 have Qx:¬J l1<20:=aa e1▸Rf;refine(de6 e1 (aa HA W2 B2).2.2.1 b1 ae m1 k1 j1).h ?_;intro r w3 YL;unfold OJ at YL;by_cases hs:iM (num (sub l1 4 12)) (sub l1 16 (n1-4))=l1;{
 rw[aK hs]at YL;obtain⟨p3,c3,rfl,o3,aE⟩:=YL;let⟨q,eq⟩:=aZ (num (sub l1 4 12));have hq:=FL (b1.sub 4 12) (by simp[sub];omega);let⟨B,eB⟩:=aZ (sub l1 16 (n1-4));have xW:O (J B=n1-20):=by show _=_;rw[<-eB,zQ (by rw[aa e1];omega)];omega
 have yR:O (aA B):=by show aA B;rw[<-eB];exact b1.sub _ _
 rw[eq]at hq;rw[eB]at o3;rw[eq];have HS:O (mQ l1=if 4611686018427387904<q then dN else(kI B).map λr=>(⟨r.1.1,r.1.2.1,r.1.2.2,0,r.2.1,r.2.2⟩,q)):=by show _=_;by_cases hb:4611686018427387904<q;{rw[aK hb,bP0 Qx (eq▸hb)]};{rw[aJ hb,aL6 Qx (aa e1▸hs) (eq▸hb),aa e1,eq,eB]}
 have B3:=af (ah B2 aE);have X3:=af (yj.H aE);have IJ:=aE.size;by_cases QN:4611686018427387904<q;{
 have N:O (R=(mO,0,13)):=by show _=_;rw[<-aa eR];exact Qc (by rw[aa HS,aK QN])
 let⟨r0,r1,r2,r3,r4,r5,rf⟩:=(aa HA w3 B3).2.2.2.1.cells;have BB:=(aa HA w3 B3).2.2.2.2;go_wp2;exact bO (by simp[results,results13,go_sem,r0,r1,r2,r3,r4,r5]) rfl ⟨Om.no N,sR BB⟩};{
 have xQ:=aa HS;rw[aJ QN]at xQ;have lD:=af xQ;have HO:=br o3.rd o3.cap;have HZ3:=af IJ
 go_wp21
 refine(de7 xW HO.1 yR ae HO.2).h ?_;rintro r w4⟨⟨ps,cs,pn,cn,rfl,Cc⟩,cG⟩;have B4:=af (ah B3 cG);have X4:=af (X3.H cG);have Ge:=cG.size;cases hP:kI B with
 |none=>
  have N:O (R=(mO,0,13)):=by show _=_;rw[<-aa eR];exact Qc (by rw[aa lD,hP];rfl)
  simp only[GW,GX,mO,xk];obtain⟨W5,Gx,b5,z5,C5,-⟩:=bM w4 #[.U 0,.U 0,.U 0,.I 0,.S ps 0 cs,.S pn 0 cn] 34;let⟨r0,r1,r2,r3,r4,r5,rf⟩:=(aa HA W5 (ah B4 b5)).2.2.2.1.cells;have BB:=(aa HA W5 (ah B4 b5)).2.2.2.2;subst Gx;go_wp2;exact bO (by simp[results,results13,go_sem,r0,r1,r2,r3,r4,r5]) rfl ⟨Om.no N,sR BB⟩
 |some s=>
  have N:O (mQ l1=Y (⟨s.1.1,s.1.2.1,s.1.2.2,0,s.2.1,s.2.2⟩,q)):=by show _=_;rw[aa lD,hP];rfl
  rw[hP]at Cc;simp only[GW,GX]at Cc⊢;obtain⟨⟨e,g,x⟩,ss,ns⟩:=s;simp only at Cc N⊢;let⟨n,en⟩:=bL (J ss);let⟨m,em⟩:=bL (J ns);rw[aa en,aa em]at Cc⊢;obtain⟨W5,Gx,b5,z5,C5,-⟩:=bM w4 #[.U e,.U g,.U x,.I 0,.S ps n cs,.S pn m cn] 34;have X5:=X4.H b5;let⟨r0,r1,r2,r3,r4,r5,rf⟩:=X5.cells;obtain⟨t0,t1,t2,t3,t4,t5,-⟩:=C5.c6;let⟨Z,hZ⟩:=aF (fv W5 sb (.U e) (.U g) (.U x) (.I 0) (.S ps n cs) (.S pn m cn));have XZ:=X5.put (.U e) (.U g) (.U x) (.I 0) (.S ps n cs) (.S pn m cn);have gK:sb<U (Q w3):=mj Yl.2 HZ3;have RZ:=(Cc.W (w':=Z) (λy h1 h2=>by rw[hZ];exact(Da ae).Z (b5.block y h2))).D8;have BZ:Bw W1 Z:=by rw[hZ];exact(ah (aa B4) b5).Z ((sY _ _ _ _ _ _ _).h (by have:=Yl.1;have:=HZ.2;omega))
  have zZ:sb<U (Q Z):=by rw[hZ,Pj];omega
  rw[<-hZ]at XZ;have HN:=jq XZ RZ BZ zZ;subst Gx;unfold fv at hZ
  go_wp21
  rw[<-hZ];go_meet;refine⟨⟨e,g,x,0,ss,ns⟩,q,rfl,N,af ⟨ps,cs,pn,cn,?_,?_,?_⟩,HN.2.2⟩;{simp only[aa en,aa em];exact HN.1};{simp only[aa en];exact HN.2.1.1.rd};{simp only[aa em];exact HN.2.1.2}}};{
 rw[aJ hs]at YL;obtain⟨p3,c3,rfl,-,aE⟩:=YL;have N:O (R=(mO,0,13)):=by show _=_;rw[<-aa eR];exact Qc (bO9 Qx (aa e1▸hs))
 let⟨r0,r1,r2,r3,r4,r5,rf⟩:=(aa HA w3 (ah B2 aE)).2.2.2.1.cells;have BB:=(aa HA w3 (ah B2 aE)).2.2.2.2;go_wp2;exact bO (by simp[results,results13,go_sem,r0,r1,r2,r3,r4,r5]) rfl ⟨Om.no N,sR BB⟩}}})
  case rest=>(
 obtain⟨D,q,rfl,HS,HV,HW⟩:=hcut;have HG:=af (aL7 b1 (aa e1▸m1) HS);have N:O (∀X:SD×Int,rC dop D q (rl l0)=X->R=(Lw X.1,X.2,0)):=λX e=>by rw[<-aa eR];exact Qb HS e
 obtain⟨⟨i0,i1,i2,i3,i4,i5,-⟩,-⟩:=aa HA wc HW.1
 go_wp21
 refine(bN3 (aa HA wc HW.1).2.1 b0 e0 m0 k0 j0).h ?_;rintro r w4⟨pr,cr,vs,rfl,IP,cG⟩;let⟨nr,Lm⟩:=bL (J (rl l0));obtain⟨tk,etk⟩:∃k,(kH (rl l0):Int)=k:=⟨_,rfl⟩;have RC:=af IP.rct;have hnr:nr<=2^21:=by rw[<-aa Lm];exact fx (bR9) (by rw[aa e0];omega)
 rw[aa Lm,etk];have HI:=br (HV.H cG) (ah HW.1 cG);have HL:=br cG.size HW.2;have JE:=af (aj5 b0);let⟨rs,EU⟩:=aZ (rl l0);rw[EU]at N RC JE Lm
 go_upto_block 0 with fail
 let⟨X,eX⟩:=bL (rC dop D q rs);have HDX:=af (aa N X eX);have HGX:O (GQ X.1 X.2):=by show GQ X.1 X.2;rw[<-aa eX];exact aj2 hd _ HG JE
 clear N
 go_cut[6]from 61 to 106 (λqv wc=>qv=.U X.2/\O (Sn wc sb X.1)/\O (Bw W1 wc/\sb<U (Q wc)))
 case first=>(
 go_wp21
 go_loopw[6,14](λqv iv wr=>∃(j:Nat)(q1:Int)(D1:SD),j<=nr/\qv=.U q1/\iv=.I j/\O (rC dop D1 q1 (jD j rs)=X/\GQ D1 q1)/\O (Sn wr sb D1)/\O (Bw W1 wr/\Fr [34] w4 wr/\sb<U (Q wr))) (λ_ iv _=>nr-(jN (intOf iv)))
 exact⟨0,q,D,cT _,rfl,rfl,af ⟨by rw[vG];exact aa eX,HG⟩,HI.1,af ⟨HI.2,Fr.refl _ _,mj HL.2 HL.1⟩⟩;{
 clear HI;obtain⟨j,q1,D1,hj,rfl,rfl,HE,HV,HW⟩:=hrel;by_cases aL:j<nr;{
 have cM:=bR j nr;obtain⟨⟨s,M⟩,hr⟩:∃r,rs[j]?=Y r:=⟨_,bN (aa Lm▸aL)⟩;have gU:=aa JE _ (bq hr);obtain⟨rb,ro,rq,rd,rfl,f0,f1,tb,ad,cp⟩:=(RC.T HW.2.1).at hr;simp only at f0 f1 tb cp;have s0':0<=s:=gU.2.2.1;have s1':s<2^64:=gU.2.2.2;let⟨m,em⟩:=bL (J M);rw[aa em]at f1 tb cp;have hm:m<=1000:=aa em▸gU.2.1;have q0:=HE.2.2.1;have q9:=HE.2.2.2;have wj:jY jV ((j:Int)+1)=((j+1:Nat):Int):=by rw[l8 _ ae];omega
 have wq:jY jU (q1+1)=q1+1:=by rw[uW];omega
 obtain⟨W5,Gx,b5,z5,C5,-⟩:=bM wr #[.U s,.S rq m rd] 79;have g0:=C5.1 0 _ rfl;have g1:=C5.1 1 _ rfl;have Hm:=cI5 (HV.H b5) (ah HW.1 b5) (HW.2.1.Z (Fr.H (T:=[34]) b5)) (tb.1.H b5) (ad.size b5.size) (C5.H ae aH) (mj HW.2.2 b5.size);have HS:=br hr gU;have HZ5:=af z5;clear hr gU tb ad b5 z5 C5;subst Gx;by_cases h1:s<=q1;{have E2:O (rC dop D1 q1 (jD (j+1) rs)=X/\GQ D1 q1):=⟨by rw[<-HE.1,aj1 HS.1 (bM5 h1)],HE.2⟩;go_wp2;go_roundw;exact⟨j+1,q1,D1,ae,rfl,by go_num,E2,Hm.1,af ⟨Hm.2.1,Hm.2.2.1,Hm.2.2.2.2.2.2⟩⟩;exact dh};{
 have H1:O (q1<s):=by show _<_;omega
 clear h1;have h1:¬s<=q1:=aM (aa H1)
 go_wp21
 refine(de0 em HS.2.1 ae Hm.2.2.2.1 cp Hm.2.2.2.2.1 (aa hd M)).h ?_;rintro r w6⟨K,S,F,P,V,p',c',q',d',C,rfl,uG,gj,IP⟩;let⟨np,EY⟩:=bL (J P);let⟨nv,env⟩:=bL (J V);rw[aa EY,aa env]at uG⊢;obtain⟨W7,EG,b7,z7,C7,-⟩:=bM w6 #[.I K,.U S,.S p' np c',.I F,.S q' nv d',.U 0,.U 0] 26;have VJ:=ah gj b7;have W:=Sh (Hm.1.H VJ) (ah Hm.2.1 VJ) (Hm.2.2.1.Z (Fr.H (T:=[34]) VJ)) (mj Hm.2.2.2.2.2.2 VJ.size) (uG.1.H b7) (uG.2.1.H b7);have HOP:=af uG.2.2;have xD:=af C7;have HOR:=af IP;have g7:=(Hm.2.2.2.2.2.1.H (by rw[aa HZ5];omega) VJ).1 0 _ rfl;clear uG gj IP b7 z7 C7 VJ g0 g1 f0 f1;subst EG;by_cases KO:s≠q1+1\/4611686018427387904<s;{
 have E2:O (X=(D1,q1)):=by show _=_;rw[<-HE.1,TL HS.1 (aK6 (by have:=aa H1;simp only;omega) KO)]
 have e:=aa E2;clear HE E2;subst e;by_cases h2:s=q1+1;{
 have h3:4611686018427387904<s:=ae;have e2:(s != q1+1)=dF:=by simp[h2]
 clear h2 KO
 go_wp21
 go_meet;exact⟨rfl,W.1,af ⟨W.2.1,W.2.2.2.1⟩⟩};{
 have e2:(s != q1+1):=by simp[h2]
 clear h2 KO
 go_wp21
 go_meet;exact⟨rfl,W.1,af ⟨W.2.1,W.2.2.2.1⟩⟩}};{
 have bD:=bM6 (dop:=dop) (D:=D1) (q:=q1) (r:=(s,M)) (by have:=aa H1;simp only;omega) KO;simp only at bD;have il:=af bD;have h3:¬4611686018427387904<s:=λh=>KO (.R h);have e2:(s != q1+1)=dF:=by have h2:s=q1+1:=ca9 λh=>KO (.L h);simp[h2]
 clear KO bD;obtain⟨hN,rfl⟩|⟨hN,rfl⟩:=aa HOR;{
 have E2:O (X=(D1,q1)):=by show _=_;rw[<-HE.1,TL HS.1 (by rw[aa il,hN];rfl)]
 have e:=aa E2;clear HE E2 hN;subst e
 go_wp21
 go_meet;exact⟨rfl,W.1,af ⟨W.2.1,W.2.2.2.1⟩⟩};{
 have QI:sV M (Y (K,S,F,P,V)):=hN▸aa hd M;obtain⟨bP,-⟩:=oQ.byt QI HS.2.1;have ve:=oQ.parts QI;simp only at ve;have Dt:np<=1000:=by have:=aa EY;have:=aa em;omega
 have hvn:nv<=1000:=by have:=aa env;have:=aa em;omega
 rw[hN]at il;let⟨A,eA⟩:=bL (lM D1 K S F 0 0 P V);have bD:=aa il;simp only[Fy,Sg]at bD;rw[aa eA]at bD;have aE0:=af bD;let⟨ps,cs,pn,cn,XB,rS,rN⟩:=W.1;let⟨n,en⟩:=bL (J D1.E);let⟨mm,emm⟩:=bL (J D1.N);rw[aa en]at XB rS;rw[aa emm]at XB rN;have HAP:=af (dd7 HE.2.1 en emm EY env rS rN W.2.2.2.2.1 W.2.2.2.2.2 ae ae HOP.1 HOP.2 bP (oQ.jo QI) eA);obtain⟨r0,r1,r2,r3,r4,r5,-⟩:=XB.cells;obtain⟨o0,o1,o2,o3,o4,o5,o6⟩:_/\_/\_/\_/\_/\_/\_:=⟨xD.1 0 _ rfl,xD.1 1 _ rfl,xD.1 2 _ rfl,xD.1 3 _ rfl,xD.1 4 _ rfl,xD.1 5 _ rfl,xD.1 6 _ rfl⟩;have HXB:=af XB;clear hN QI bP ve il bD XB rS rN
 go_wp21
 clear r0 r1 r2 r3 r4 r5 o0 o1 o2 o3 o4 o5 o6;refine HAP.h ?_;rintro r w8⟨p8,c8,q8,d8,Dv,Nv,Ev,Qs,rfl,hS8,hN8,tD,tN,tE,F8,b8⟩;obtain⟨y1,x1,rfl⟩:=tD.df9;obtain⟨y2,x2,rfl,-⟩:=tN.form;obtain⟨y3,x3,rfl,-⟩:=RT.form tE;let⟨v1,ev1⟩:=bL (J A.2.qB);let⟨v2,ev2⟩:=bL (J A.2.nms);let⟨v3,ev3⟩:=bL (J A.2.pG);let⟨n8,en8⟩:=bL (J A.1.E);let⟨m8,em8⟩:=bL (J A.1.N);rw[aa en8]at hS8;rw[aa em8]at hN8;rw[aa ev1,aa ev2,aa ev3,aa en8,aa em8];clear tD tN tE;obtain⟨W9,hW9,b9,z9,C9,-⟩:=bM w8 #[.U A.1.e,.U A.1.g,.U A.1.x,.I A.1.t,.S p8 n8 c8,.S q8 m8 d8] 34;obtain⟨Wa,hWa,ba,za,Ca,-⟩:=bM W9 #[.I A.2.k,.U A.2.i,.U A.2.e,.U A.2.g,.I A.2.n,.S y1 v1 x1,.S y2 v2 x2,.S y3 v3 x3] 43;have b9a:=ah b9 ba;have Se:=ah b8 b9a;have F9a:=Fr.H (T:=[34]) b9a;have Ou:=jq (W.1.H Se) (ah W.2.1 Se) (W.2.2.1.Z (Fr.H (T:=[34]) Se)) (mj W.2.2.2.1 Se.size);have HXa:=af (HXB.H Se);have H9:=br (hS8.T F9a) (di.T hN8 F9a);have u0:=Ca.1 0 _ rfl;obtain⟨t0,t1,t2,t3,t4,t5,-⟩:=(C9.H ae ba).c6;have gA:I Wa (Aw wr 0)=dU s:=by have:=aj g7 Se;exact this
 rw[z9]at u0;clear hS8 hN8 F8 b8 b9 z9 C9 ba za Ca b9a Se F9a HXB g7;subst hWa hW9;by_cases hk:A.2.k=0;{
 have bD:yx dop D1 q1 (s,M)=Y (A.1,s):=by rw[aa aE0,aK hk];rfl
 have E2:O (rC dop A.1 s (jD (j+1) rs)=X/\GQ A.1 s):=⟨by rw[<-HE.1,aj1 HS.1 bD],aK5 hd HE.2 HS.2 bD⟩;let⟨r0,r1,r2,r3,r4,r5,rf⟩:=HXa.cells;let⟨Wb,hWb⟩:=aF (jA (jA w8 (dO #[.U A.1.e,.U A.1.g,.U A.1.x,.I A.1.t,.S p8 n8 c8,.S q8 m8 d8] 34)) (dO #[.I A.2.k,.U A.2.i,.U A.2.e,.U A.2.g,.I A.2.n,.S y1 v1 x1,.S y2 v2 x2,.S y3 v3 x3] 43));let⟨Z,hZ⟩:=aF (fv Wb sb (.U A.1.e) (.U A.1.g) (.U A.1.x) (.I A.1.t) (.S p8 n8 c8) (.S q8 m8 d8));rw[<-hWb]at HXa Ou H9 gA;have XZ:=HXa.put (.U A.1.e) (.U A.1.g) (.U A.1.x) (.I A.1.t) (.S p8 n8 c8) (.S q8 m8 d8);let⟨cur,I0⟩:=HXa.2;have FZ:Fr [34] Wb Z:=hZ▸vu I0;have gZ:I Z (Aw wr 0)=dU s:=by rw[hZ];exact(gF (Da (aM HW.2.2)) _).Z gA
 have BZ:Bw W1 Z:=by rw[hZ];exact Ou.2.1.Z ((sY _ _ _ _ _ _ _).h (by have:=Yl.1;have:=HZ.2;omega))
 have zZ:sb<U (Q Z):=by rw[hZ,Pj];exact Ou.2.2.2
 rw[<-hZ]at XZ;have VZ:O (Sn Z sb A.1):=⟨p8,c8,q8,d8,by simp only[aa en8,aa em8];exact XZ,by simp only[aa en8];exact(H9.1.T FZ).rds,by simp only[aa em8];exact di.Ua (di.T H9.2 FZ)⟩;have HN:=dy BZ (Ou.2.2.1.Z FZ) zZ;have ek:(A.2.k != 0)=dF:=by simp[hk]
 unfold fv at hZ;rw[hWb]at hZ;rw[hZ]at gZ;clear bD XZ I0 FZ BZ zZ hk HE HXa Ou H9 gA hWb;go_wp2;rw[<-hZ];go_roundw;exact⟨j+1,s,A.1,ae,rfl,by go_num,E2,VZ,HN⟩;exact dh};{
 have E2:O (X=(D1,q1)):=by show _=_;rw[<-HE.1,TL HS.1 (by rw[aa aE0,aJ hk];rfl)]
 have e:=aa E2;clear HE E2;subst e;have ek:(A.2.k != 0):=by simp[hk]
 clear hk
 go_wp21
 go_meet;exact⟨rfl,Ou.1,af ⟨Ou.2.1,Ou.2.2.2⟩⟩}}}}};{
 have cM:=fG j nr;have ejn:j=nr:=ae;have E2:O (X=(D1,q1)):=by show _=_;rw[<-HE.1,ejn,<-aa Lm,bR4]
 have e:=aa E2;clear HE E2;subst e
 go_wp21
 go_meet;exact⟨rfl,HV,af ⟨HW.1,HW.2.2⟩⟩}})
 case rest=>(
 obtain⟨rfl,HV,HW⟩:=hcut;let⟨p9,c9,q9,d9,X9,rS,rN⟩:=aa HV;let⟨n,en⟩:=bL (J X.1.E);let⟨m,em⟩:=bL (J X.1.N);rw[aa en]at X9 rS;rw[aa em]at X9 rN;obtain⟨r0,r1,r2,r3,r4,r5,-⟩:=X9.cells;have hV:=HGX.1;have HDU:=af (cC1 (e:=X.1.e) (g:=X.1.g) (x:=X.1.x) (t:=X.1.t) en em rS rN (by rw[<-aa en];have:=hV.sl;omega) (by rw[<-aa em];have:=hV.nl;omega) (af λs hs=>⟨(hV.gy s hs).1,λev he=>((hV.gy s hs).2 ev he).2⟩) (af λnd aG=>(hV.cW nd aG).2));clear X9 rS rN hV
 go_wp21
 clear r0 r1 r2 r3 r4 r5;refine HDU.h ?_;rintro r w9⟨pa,ca,qa,da,B9,Q9,rfl,-,hS9,hN9,me⟩;obtain⟨-,-,-,XR,BB⟩:=aa HA w9 (ah HW.1 me);let⟨r0,r1,r2,r3,r4,r5,rf⟩:=XR.cells;let⟨cur,I0⟩:=XR.2;have F9:=vu (v0:=.U X.1.e) (v1:=.U X.1.g) (v2:=.U X.1.x) (v3:=.I 0) (v4:=.S pa n ca) (v5:=.S qa m da) I0;have HF:=br (hS9.T F9).rds (di.Ua (di.T hN9 F9));clear hS9 hN9 F9 me XR I0;go_wp2;refine bO (v:=dT #[bS X.1.e X.1.g X.1.x 0 (.S pa n ca) (.S qa m da),.U X.2,.I 0]) (by simp[results,results13,go_sem,r0,r1,r2,r3,r4,r5]) rfl ⟨?_,sR BB⟩;rw[aa HDX];refine⟨pa,ca,qa,da,?_,?_,?_⟩;{simp only[Lw,iH,aa en,aa em]};{simp only[Lw,iH,aa en];exact HF.1};{simp only[Lw,iH,aa em];exact HF.2}))
theorem bN0(e g x t:Int)(p q:OA)(c n d m:Nat)(ss:List aC)(ns:List au)(V:Le ss n)(W:Le ns m)(w:G)(h:mJ w (.S p n c) ss)(hN:iy w (.S q m d) ns)(N:Mg n)(hm:Mg m)(o:zI ss ns)(Yk:O (∀(i j:Nat)(s s':aC),ss[i]?=Y s->ss[j]?=s'->i<j->s.1≠s'.1))(mU:O (Bu ns))(aG:O (∀(i j:Nat)(z z':au),ns[i]?=z->ns[j]?=z'->i<j->z.A≠z'.A)):aa5 w (bS e g x t (.S p n c) (.S q m d)) e g x t ss ns:=λv M=>by
 refine(Ty V W (h.H M) (hN.H M) N hm (by exactλs hs=>(o.s2 s hs).1) Yk (by exactλy B=>⟨(o.n2 y B).1,(o.n2 y B).2.1,(o.n2 y B).2.2.1,(o.n2 y B).2.2.2.1,(o.n2 y B).2.2.2.2.1⟩) mU aG).h ?_;rintro r w'⟨b,bs,bn,SB,NB,HB,UB,rfl,bD,R⟩;have E:J ss<=2^20:=aa V▸N;have D:J ns<=2^20:=aa W▸hm;refine⟨b,rfl,R,(ah6 (db6 bD R E D) o.s1 o.n1 E D o.s2 o.n2).h ?_⟩;rintro z u⟨Z,c',X,d',A1,A2,rfl,a1,a2,a3,a4,a5,a6⟩;exact⟨Z,c',X,d',rfl,⟨A1,A2,a1,a2,a3,a4,a5⟩,a6⟩
theorem cz1(e g x:Nat)(t:Int)(he:e<2^64)(B:g<2^64)(u:x<2^64)(p q:OA)(c n d m:Nat)(ss:List aC)(ns:List au)(M:Le ss n)(N:Le ns m)(w:G)(h:mJ w (.S p n c) ss)(D:iy w (.S q m d) ns)(y:Mg n)(hm:Mg m)(E:O (Bs ss))(X:O (Bn ns))(s:O (Bu ns))(o:O (Bo ns))(Z:O (∀i∈ns,(0<=i.P/\i.P<2^64)/\0<=i.F/\i.F<2^64))(r:ML w)(R:LI)(V:O (Ct e g x t ss ns=R))(L:Nat)(W:Le R L):aG2 w (bS e g x t (.S p n c) (.S q m d)) R L:=λv j=>
 cg4 he B u M N (h.H j) (D.H j) y hm E X s o Z (r.H j) V W
open Go.Maps
def Me(d:Int)(s:aC):aC:=(s.1,max s.2.1 d,s.2.2)
def JV(k:Int)(s:aC):aC:=(s.1,k+15,[])
theorem dh6(i:0<=k)(ss:List aC):(ss.map lZ).map (Me (k+15))=ss.map (JV k):=by
 rw[sA];refine My λs _=>?_;simp only[Function.comp,lZ,Me,JV];rw[show max 0 (k+15)=k+15 by omega]
theorem eh5{d:Int}(i:I w (Ad g1 1)=dI t)(hf:∀o,jF w (Ad g1 o)=dF):dQ dG 93 #[Pz g1,.I d] w λr w'=>w'=jS w (Ad g1 1) (.I (max t d))/\∃v,r=dR v:=by
 go_in;go_wp2;go_end0;exact⟨rfl,_,rfl⟩
theorem dn6(w:G)(b bs bn:Nat)(D:SD)(SB NB HB UB:iN)(k:Int)(hk:0<=k/\k<=1000000)(h:O (PS w0 w b bs bn D SB NB HB UB))(hK:O (KD D.N))(nw:O (∀(i j:Nat)(s s':aC),D.E[i]?=Y s->D.E[j]?=Y s'->i<j->s.1≠s'.1)):dQ dG 48 #[Pz b,.I k] w λr w'=>PS w0 w' b bs bn ⟨D.e,D.g,D.x,k,D.E.map (JV k),D.N.map lE⟩ SB NB HB UB/\Fr T3 w w'/\∃v,r=dR v:=by
 go_in
 go_wp21
 refine(bn0 h hK nw).h ?_;rintro r w2⟨E,F2,v,rfl⟩;let⟨sl,uO⟩:=bL (D.E.map lZ);have bg6:O (∀(i j:Nat)(s s':aC),sl[i]?=Y s->sl[j]?=Y s'->i<j->s.1≠s'.1):=λi j s s' hi R ky=>by rw[<-aa uO,qI]at hi R;obtain⟨a,ha,rfl⟩:=IE.1 hi;obtain⟨a',xw,rfl⟩:=IE.1 R;exact nw i j a a' ha xw ky
 rw[aa uO]at E;let⟨h0,h1,h2,h3,h4,h5,hf⟩:=E.nM;have wW:=E.be.size;let⟨Z,N⟩:=aF (jS w2 (Ad b 3) (.I k));have kZ:∀y,y≠b->Z.heap[y]?=w2.heap[y]?:=λy hy=>by rw[N];exact fN _ _ _ _ hy
 have uE:Z.heap[b]?=dO #[.U D.e,.U D.g,.U D.x,.I k,.map bs,.map bn] 135:=by rw[N];simp[World.setCell,yD,E.hd]
 have OZ:One w0 w2 Z b:=One.FB E.be (by rw[N];exact aH.setCell (p:=(Ad b 3)) az _) E.hd E.lo.1 ai (λy _ hy=>kZ y hy);have PZ:=E.ag7 OZ D.e D.g D.x k uE;let⟨M,n,oS,hn,mS,zS⟩:=PZ.uy;obtain⟨-,-,-,-,i4,-,-⟩:=PZ.nM;have KP:O (∀s∈sl,Maps.has M (.U s.1)):=λs hs=>by let⟨i,hi⟩:=ji.1 hs;obtain⟨gz,AI,-⟩:=PZ.sat (i:=i) (s:=s) hi;exact(mS.hs _).2 ⟨(.U s.1,gz),by rw[ji];exact⟨i,by rw[qV,hi,AI]⟩,rfl⟩
 have HP:=af PZ;have HF:=af (F2.Z OZ.T);have HZs:=af OZ.b.size;have MS:=af mS;have wa:jY jV (k+10)=k+10:=l8 _ ae;have wb:jY jV (k+10+5)=k+15:=(l8 _ ae).Z ae;clear PZ OZ mS zS kZ uE h0 h1 h2 h5 E F2 h hK nw;subst N;go_wp2_with(first
  |(at_range;refine wpList_range_own _ rfl _ 132 rfl 24 _ mT underlying132 _ bs n _ rfl oS ?_;intro w1 uF pY xR)
  |go_in)
 go_frame
 let⟨Z,N⟩:=aF (jS w2 (Ad b 3) (.I k));have eZ:U (Q Z)=U (Q w2):=by rw[N];simp
 rw[<-N]at HP HF pY uF HZs⊢;have b1:Bw Z w1:=(aR _ Z).grown pY az (λj R=>by cases R);have P1:=af (HP.H b1);have F1:=af (HF.Z (Fr.H (T:=T3) b1));let⟨W,ya⟩:=aF (U (Q Z));rw[<-ya]at uF⊢;have pR:U (Q w0)<=W:=ae;clear ya N eZ b1 pY xR oS i4 h3 h4 hf HP HF HZs
 go_loopw[5](λ_ wr=>∃(left:Lit->Bool)(kK:Nat),wr.ranges dG 24 iB bs W n M left kK/\O (PS w0 wr b bs bn ⟨D.e,D.g,D.x,k,xF (Me (k+15)) left sl,D.N.map lE⟩ SB NB HB UB)/\O (Fr T3 w wr)) (λ_ wr=>wr.rangeLeft bs W)
 exact⟨_,_,uF,by rw[bK8 (aa KP)];exact P1,F1⟩;{
 clear uF P1 F1;obtain⟨left,kK,gU,uh,la⟩:=hrel;go_wp2_with(first
  |(at_next;refine OP _ rfl _ rfl 24 mT (λi:Int=>.int jU i) aZ2 bs W n _ _ MS _ _ rfl gU ?_ ?_)
  |go_in)
 {intro _ qL;have QV:=aa uh;rw[bK9 qL,<-aa uO,dh6 hk.1]at QV;have P4:=af QV;clear QV uh gU;go_wp2;go_end0;exact⟨P4,la,_,rfl⟩};{
 intro i0 pl g1 S xy fe hp IT vQ aL dw Ym tA;let⟨j,z,Ri,R,Dy,ee⟩:=yv hp;simp only[jk]at ee;obtain⟨rfl,rfl⟩:=ee;let⟨qz,xr⟩:=aO9 gU;have O2:=One.ofI uh.be dw pR qz;have E:=uh.iter O2 (λcs ty=>qz cs ty _) xr;have F2:=la.Z O2.T;have gi:=bL0 (f:=Me (k+15)) R IT;let⟨a1,u,a2,a3⟩:=E.vx j z g1 gi Dy;have gL:I S (Ad g1 1)=dI z.2.1:=cX a2 1;have hf:∀o,jF S (Ad g1 o)=dF:=λo=>by simp[World.frozen?,a2]
 let⟨ZZ,Gw⟩:=aF (jS S (Ad g1 1) (.I (max z.2.1 (k+15))));have O5:One w0 S ZZ g1:=One.FB E.be (by rw[Gw];exact aH.setCell (p:=(Ad g1 1)) az _) a2 a1 ai (λy _ hy=>by rw[Gw,fN _ _ _ _ hy]);have P5:=E.xF (s':=Me (k+15) z) gi Dy O5 rfl ⟨a1,u,by rw[Gw];simp[World.setCell,yD,a2,Me],a3.T O5.b O5.T aX⟩;have P6:O (PS w0 ZZ b bs bn ⟨D.e,D.g,D.x,k,xF (Me (k+15)) (λX=>left X&&!X.sameKey (.U z.1)) sl,D.N.map lE⟩ SB NB HB UB):=by have:=P5;simp only at this;rw[<-bK7 (f:=Me (k+15)) (aa bg6) R];exact this
 have F5:=af (F2.Z O5.T);have U5:(Instr.entry (Pz W)).run dG S=.ok (dT #[.U i0,Pz g1]) S:=tA;have tW:ZZ.ranges dG 24 iB bs W n M (λX=>left X&&!X.sameKey (.U z.1)) xy:=by rw[Gw];exact vQ.of_walks (KeepsWalks.setCell _ _ _)
 clear dw hp fe uh la O2 E F2 O5 P5 a1 a2 a3 qz xr
 go_wp21
 refine(eh5 gL hf).h ?_;rintro r W9⟨rfl,v9,rfl⟩;go_wp2;rw[<-Gw];go_roundw;exact⟨_,_,tW,P6,F5⟩
 case measure=>rw[tW.left_eq,gU.left_eq];exact aL}}
theorem dI7(i:O (VD D))(k:Int)(hk:0<=k/\k<=1000000)(p q:OA)(c n d m:Nat)(en:Le D.E n)(em:Le D.N m)(w:G)(h:mJ w (.S p n c) D.E)(hN:iy w (.S q m d) D.N)(py:ML w)(j:List aC)(o:List au)(uO:O (D.E.map (JV k)=j))(gM:O (D.N.map lE=o)):dQ dG 19 #[bS D.e D.g D.x D.t (.S p n c) (.S q m d),.I k] w λr w'=>∃p' c' q' d',r=dR (dT #[bS D.e D.g D.x k (.S p' (J j) c') (.S q' (J o) d'),.I 0])/\nG (U (Q w)) w' p' (J j) c' q' (J o) d' j o/\Bw w w':=by
 let⟨W,hW,b1,z1,C1⟩:=sQ w (.U D.e) (.U D.g) (.U D.x) (.I D.t) (.S p n c) (.S q m d);let⟨W2,fM,b2,Z,C2⟩:=yY W;rw[z1]at C2 Z;have N:=ah b1 b2;have HA:=af (λ(v:G)(E:Bw W2 v)=>aD ((C1.H b2).H E).cells (aD (h.H (ah N E)) (aD (hN.H (ah N E)) (aD (py.H (ah N E)) (aD (C2.H E) (ah N E))))));have HZ:=af Z;have hn:n<=2^20:=aa en▸fx i.sl aX;have hm:m<=2^20:=aa em▸fx i.nl aX;have M:=af i.Bg;have R:=i.re (tQ _) i.e.2 (d:=k+15) ae hk;clear b1 b2 C1 C2 N z1 Z h hN py;have k0:¬k<0:=ae;have k1:¬1000000<k:=ae;go_in
 go_wp21
 rw[<-hW,<-fM];clear hW fM;have H:=af (aa HA W2 aH);refine cK (ap8 en em H.2.1 H.2.2.1 hn hm i.gy i.cW i.mU i.tp H.2.2.2.1 i.ok) λw3 aE=>?_;have B3:=af aE;clear aE H;have H:=af (aa HA w3 B3);obtain⟨i0,i1,i2,i3,i4,i5,-⟩:=H.1
 go_wp21
 clear i0 i1 i2 i3 i4 i5 k0 k1;refine(Ty en em H.2.1 H.2.2.1 hn hm (af λs hs=>(M.s2 s hs).1) M.s3 i.cW i.mU M.n3).h ?_;rintro r w4⟨b,bs,bn,SB,NB,HB,UB,rfl,bD,cG⟩;have P4:=af (PS.of bD cG M (aM i.sl) (aM i.nl));have C4:=af (H.2.2.2.2.1.H cG);have z3:=B3.size;clear bD cG
 go_wp21
 refine(dn6 w4 b bs bn D SB NB HB UB k hk P4 (KD.of M) M.s3).h ?_;rintro r w5⟨P5,F5,v5,rfl⟩;have C5:=af (C4.T F5);have V:=af P5.be;have X:=af (bM7 (D:=⟨D.e,D.g,D.x,k,D.E.map (JV k),D.N.map lE⟩) R P5);dsimp only at X;rw[aa uO,aa gM]at X;clear P5 F5 P4 C4 R
 go_wp21
 refine X.h ?_;rintro r w6⟨p6,c6,q6,d6,rfl,o6,gj⟩;let⟨r0,r1,r2,r3,r4,r5,rf⟩:=(C5.H gj).cells;have bb:Bw w w6:=(H.2.2.2.2.2.Z (V.h H.2.2.2.2.2.size)).Z (gj.h (fx H.2.2.2.2.2.size V.size));have O6:=br ((o6.W (w':=fv w6 (U (Q w)+1) (.U D.e) (.U D.g) (.U D.x) (.I k) (.S p6 (J j) c6) (.S q6 (J o) d6)) (λy h1 h2=>Da (by have:=V.size;have:=aa HZ;omega))).h (B':=U (Q w)) (fx H.2.2.2.2.2.size V.size)) bb;clear o6 gj bb X;go_wp2;exact bO (v:=dT #[bS D.e D.g D.x k (.S p6 (J j) c6) (.S q6 (J o) d6),.I 0]) (by simp[results,results19,go_sem,r0,r1,r2,r3,r4,r5]) rfl ⟨p6,c6,q6,d6,rfl,O6.1,sR O6.2⟩
theorem VD.Dz(h:VD D):∀i∈D.N,(0<=i.P/\i.P<2^64)/\0<=i.F/\i.F<2^64:=λi m=>by
 have j:=h.n2 i m;have a:=j.ep;have b:=h.e;have c:=h.g;have l:=j.lk;unfold qx at l;split at l<;>simp only[gI,lx,Ee]at l<;>omega
theorem VD.TF(h:VD D):zl D.E D.N:=ai2 h.ok h.mU h.tp h.Dz
def Js(S:fu)(k:Int):fu:=⟨S.e+1,S.g,S.x,k,S.E.map (JV k),S.N.map lE⟩
def DK:Dk:=⟨[],0,[],0,[],0⟩
def snS(S:fu)(q:Int):LI:=iM q (mP (jN S.e) (jN S.g) (jN S.x) S.E S.N)
def Pd(R:fu×Int×Int)(D:Dk)(i:Bool)(k s:Int):Dk×fu×Int×Int:=
 if i/\0<=k/\k<=1000000/\0<=s/\s<=5 then
  if R.2.2≠0 then(DK,mO,0,R.2.2)
  else if 4611686018427387904<=R.1.e then(DK,mO,0,12)
  else if s<5 then(CH (snS (Js R.1 k) R.2.1) D (jN s),mO,0,15)
  else(CH (snS (Js R.1 k) R.2.1) D (jN s),Js R.1 k,R.2.1,0)
 else(DK,mO,0,1)
theorem ldC(dop:LI->Option Rq):(uY dop l0 l1 dY).2.2=0\/(uY dop l0 l1 dY).2.2=13:=by
 cases hs:mQ l1 with
 |none=>rw[Qc hs];exact .R rfl
 |some x=>rw[Qb hs rfl];exact .L rfl
structure LdG(R:fu×Int×Int):Prop where
 v:VD ⟨R.1.e,R.1.g,R.1.x,R.1.t,R.1.E,R.1.N⟩
 q:0<=R.2.1/\R.2.1<=2^62
theorem XW(hd:∀l,sV l (dop l))(r:aA l0)(q:aA l1)(m:Mg (J l1))(i:Bool):LdG (uY dop l0 l1 i):=by
 cases i with
 |false=>rw[dC4];exact⟨VD.zero,tQ 0,Kh _⟩
 | true=>
  cases hs:mQ l1 with
  |none=>rw[Qc hs];exact⟨VD.zero,tQ 0,Kh _⟩
  |some x=>
   rw[Qb hs rfl];let⟨j,o⟩:=aj2 hd (rl l0) (aL7 q m hs) (aj5 r);exact⟨j.re (tQ _) j.e.2 ⟨tQ 0,Kh _⟩ ⟨tQ 0,Kh _⟩,o⟩
theorem LdG.up{R:fu×Int×Int}(h:LdG R)(he:¬4611686018427387904<=R.1.e):VD ⟨R.1.e+1,R.1.g,R.1.x,R.1.t,R.1.E,R.1.N⟩:=by
 have v:=h.v;have:=v.e;exact⟨by show 0<=R.1.e+1/\R.1.e+1<=_;simp only at this;omega,v.g,v.x,v.t,v.sl,v.nl,v.s1,v.s2,v.n1,λi j=>(v.n2 i j).dA (by show R.1.e<=R.1.e+1;omega) (tQ _)⟩
theorem LdG.aft{R:fu×Int×Int}(h:LdG R)(he:¬4611686018427387904<=R.1.e)(i:0<=k/\k<=1000000):VD ⟨(Js R.1 k).e,(Js R.1 k).g,(Js R.1 k).x,k,(Js R.1 k).E,(Js R.1 k).N⟩:=
 (h.up he).re (tQ _) (h.up he).e.2 ae i
theorem VD.bytes(h:VD D):J (mP (jN D.e) (jN D.g) (jN D.x) D.E D.N)<=190000/\aA (mP (jN D.e) (jN D.g) (jN D.x) D.E D.N):=by
 have m:=h.TF;have:=h.e;have:=h.g;have:=h.x;refine⟨(aK8 m.w).1,?_⟩;rw[<-Pc];refine ah7 ae ae ae m.Ry λo j=>?_;obtain⟨y,i,rfl⟩:=fg.1 j;have a:=h.cW y i;have e:=h.Dz y i;have b:=(m.d y i).2.1;exact⟨a.1,(h.n2 y i).vb,a.2.1,a.2.2.1,a.2.2.2.1,rfl,h.tp y i,e.1,e.2,(h.mU y i).1,b.1,by show y.M<256;omega⟩
structure SG(S:fu):Prop where
 e:0<=S.e/\S.e<2^64
 g:0<=S.g/\S.g<2^64
 x:0<=S.x/\S.x<2^64
 n:J S.E<=2^20
 m:J S.N<=2^20
 bs:Bs S.E
 bn:Bn S.N
 bv:∀nd∈S.N,aA nd.V
 nu:Bu S.N
 ou:Bo S.N
 ep:∀nd∈S.N,(0<=nd.P/\nd.P<2^64)/\0<=nd.F/\nd.F<2^64
def fu.ok(S:fu):Prop:=mY S.e S.g S.x S.t S.E S.N=dY
def fu.B(S:fu):LI:=mP (jN S.e) (jN S.g) (jN S.x) S.E S.N
theorem VD.sg(h:VD ⟨S.e,S.g,S.x,S.t,S.E,S.N⟩):SG S:=by
 have a:=h.e;have b:=h.g;have c:=h.x;have d:=h.sl;have f:=h.nl;simp only at a b c d f;exact⟨ae,ae,ae,ae,ae,h.gy,h.cW,λi j=>(h.n2 i j).vb,h.mU,h.tp,h.Dz⟩
theorem SG.TF(iG:SG S)(h:S.ok):zl S.E S.N:=ai2 h iG.nu iG.ou iG.ep
theorem SG.Bg(iG:SG S)(h:S.ok):zI S.E S.N:=Rm h iG.bs iG.bn
theorem SG.bytes(iG:SG S)(h:S.ok):J S.B<=190000/\aA S.B:=by
 have m:=iG.TF h;refine⟨(aK8 m.w).1,?_⟩;rw[fu.B,<-Pc];refine ah7 (aM iG.e) (aM iG.g) (aM iG.x) m.Ry λo j=>?_;obtain⟨y,i,rfl⟩:=fg.1 j;have a:=iG.bn y i;have e:=iG.ep y i;have b:=(m.d y i).2.1;exact⟨a.1,iG.bv y i,a.2.1,a.2.2.1,a.2.2.2.1,rfl,iG.ou y i,e.1,e.2,(iG.nu y i).1,b.1,by show y.M<256;omega⟩
theorem SG.enc(iG:SG S)(h:S.ok):Ct S.e S.g S.x S.t S.E S.N=S.B:=by rw[Ct,aK (show mY S.e S.g S.x S.t S.E S.N=dY from h)];rfl
theorem SG.bp7(iG:SG S)(h:S.ok)(o:mJ w (.S p (J S.E) c) S.E)(j:iy w (.S r (J S.N) d) S.N)(i:ML w)(q:Le S.B L):aG2 w (bS S.e S.g S.x S.t (.S p (J S.E) c) (.S r (J S.N) d)) S.B L:=by
 have k:=iG.enc h;obtain⟨e,g,x,t,ss,ns⟩:=S;obtain⟨e,rfl⟩:=ID iG.e.1;obtain⟨g,rfl⟩:=ID iG.g.1;obtain⟨x,rfl⟩:=ID iG.x.1;have a:=iG.e;have b:=iG.g;have f:=iG.x;simp only at a b f;exact cz1 e g x t ae ae ae p r c _ d _ ss ns rfl rfl w o j iG.n iG.m iG.bs iG.bn iG.nu iG.ou iG.ep i _ k L q
theorem SG.bN1(iG:SG S)(h:S.ok)(j:mJ w (.S p (J S.E) c) S.E)(i:iy w (.S r (J S.N) d) S.N):aa5 w (bS S.e S.g S.x S.t (.S p (J S.E) c) (.S r (J S.N) d)) S.e S.g S.x S.t S.E S.N:=bN0 S.e S.g S.x S.t p r c _ d _ S.E S.N rfl rfl w j i iG.n iG.m (iG.Bg h) (af (iG.Bg h).s3) iG.nu (af (iG.Bg h).n3)
def Th(P:Prop)(w:G)(z:Ending)(w':G):Prop:=∃b:Bool,O (b=dY↔P)/\z=dR (jO b)/\Bw w w'
theorem Th.no(h:¬P)(i:Bw w w'):Th P w (dR (jO dF)) w':=⟨dF,⟨λe=>(by cases e),λe=>absurd e h⟩,rfl,i⟩
theorem Th.yes(h:P)(i:Bw w w'):Th P w (dR (jO dY)) w':=⟨dY,⟨λ_=>h,λ_=>rfl⟩,rfl,i⟩
theorem bL1:∀(f:Nat)(t:Option Int){l:LI},aA l->kH (qd t (yl f l))<=J l
 |0,t,l,h=>by simp[yl,qd,kH]
 | f+1,t,l,h=>by
  cases hr:ng l with
  |none=>rw[Ww hr];simp[qd,kH]
  |some r=>
   rw[JQ hr,qd];split;{have j:=(T9 h (s:=r.1) (b:=r.2) hr).1;have i:=bL1 f r.1 (h.drop (J r.2+14));rw[uC]at i;rw[kH];omega};{simp[kH]}
def LgP(l:LI)(q:Int):Prop:=J l<=4000/\kH (rl l)=J l/\(rl l=[]\/sF (rl l)=q)
def Bz(dop:LI->Option Rq)(D:Dk)(S:fu)(q:Int):Prop:=D.ok/\S.ok/\LgP D.l0 q/\D.n1=J D.l1/\(uY dop D.l0 D.l1 dY).2.2=0/\(uY dop D.l0 D.l1 dY).2.1=q/\(uY dop D.l0 D.l1 dY).1.B=S.B
structure zJ(p:OA)(n c:Nat):Prop where
 le:n<=c
 mx:c<=maxLen
 ad:(p=dN/\c=0)\/∃b o,p=(Ad b o)
theorem Own.cp{B:Nat}(h:Own B w (.S p n c) l):zJ p n c:=⟨h.cap,h.NL,h.adr.1⟩
structure RdC(w:G)(p:OA)(c:Nat)(l:LI):Prop where
 rd:Rd w (.S p (J l) c) l
 cp:zJ p (J l) c
def Hi(B:Nat)(w:G)(p0:OA)(c0:Nat)(i:OA)(j:Nat)(p2:OA)(c2:Nat)(p:OA)(c:Nat)(r:OA)(d:Nat)(D:Dk)(S:fu):Prop:=
 (RdC w p0 c0 D.l0/\RdC w i j D.l1/\Rd w (.S p2 (J D.l2) c2) D.l2)/\mJ w (.S p (J S.E) c) S.E/\iy w (.S r (J S.N) d) S.N
theorem Hi.H{B:Nat}{D:Dk}(h:Hi B w p0 c0 p1 c1 p2 c2 p c r d D S)(i:Bw w w'):Hi B w' p0 c0 p1 c1 p2 c2 p c r d D S:=⟨⟨⟨h.1.1.1.H i,h.1.1.2⟩,⟨h.1.2.1.1.H i,h.1.2.1.2⟩,h.1.2.2.H i⟩,h.2.1.H i,h.2.2.H i⟩
abbrev D5(p0:OA)(c0:Nat)(p1:OA)(c1:Nat)(p2:OA)(c2:Nat)(p:OA)(c:Nat)(r:OA)(d:Nat)(D:Dk)(S:fu)(q:Int):dV:=BI (.S p0 (J D.l0) c0) D.n0 (.S p1 (J D.l1) c1) D.n1 (.S p2 (J D.l2) c2) D.n2 S.e S.g S.x S.t (.S p (J S.E) c) (.S r (J S.N) d) q
theorem aO.gP(h:aO w b [v0,v1,v2,v3,v4,v5,v6,v7,v8,v9,va,vb,vc]):I w (Ad b 0)=v0/\I w (Ad b 1)=v1/\I w (Ad b 2)=v2/\I w (Ad b 3)=v3/\I w (Ad b 4)=v4/\I w (Ad b 5)=v5/\I w (Ad b 6)=v6/\I w (Ad b 7)=v7/\I w (Ad b 8)=v8/\I w (Ad b 9)=v9/\I w (Ad b 10)=va/\I w (Ad b 11)=vb/\I w (Ad b 12)=vc:=
 ⟨h.1 0 _ rfl,h.1 1 _ rfl,h.1 2 _ rfl,h.1 3 _ rfl,h.1 4 _ rfl,h.1 5 _ rfl,h.1 6 _ rfl,h.1 7 _ rfl,h.1 8 _ rfl,h.1 9 _ rfl,h.1 10 _ rfl,h.1 11 _ rfl,h.1 12 _ rfl⟩
def aa4(w:G)(p0:OA)(c0:Nat)(i:OA)(j:Nat)(p2:OA)(c2:Nat)(p:OA)(c:Nat)(r:OA)(d:Nat)(D:Dk)(S:fu):Prop:=
 Rd w (.S p0 (J D.l0) c0) D.l0/\Rd w (.S i (J D.l1) j) D.l1/\Rd w (.S p2 (J D.l2) c2) D.l2/\mX w (.S p (J S.E) c) S.E/\iy w (.S r (J S.N) d) S.N
theorem aa4.H{D:Dk}(h:aa4 w p0 c0 p1 c1 p2 c2 p c r d D S)(i:Bw w w'):aa4 w' p0 c0 p1 c1 p2 c2 p c r d D S:=
 ⟨h.1.H i,h.2.1.H i,h.2.2.1.H i,h.2.2.2.1.H i,h.2.2.2.2.H i⟩
abbrev svL(p0:OA)(c0:Nat)(p1:OA)(c1:Nat)(p2:OA)(c2:Nat)(p:OA)(c:Nat)(r:OA)(d:Nat)(D:Dk)(S:fu)(q:Int):List dV:=[.S p0 (J D.l0) c0,.I D.n0,.S p1 (J D.l1) c1,.I D.n1,.S p2 (J D.l2) c2,.I D.n2,.U S.e,.U S.g,.U S.x,.I S.t,.S p (J S.E) c,.S r (J S.N) d,.U q]
theorem Own.hp{B:Nat}(h:Own B w z l)(o:∀b,jB z=Y b->v.heap[b]?=w.heap[b]?):Own B v z l:=by
 refine⟨h.1,?_⟩;obtain s|⟨g,m,j,rfl,r,q,i⟩:=h.2;{exact .L s};{exact .R ⟨g,m,j,rfl,r,(o g rfl).Z q,i⟩}
def vm(B M:Nat)(w:G)(o m:List Lf)(p0:OA)(c0:Nat)(i:OA)(j:Nat)(p2:OA)(c2:Nat)(p:OA)(c:Nat)(r:OA)(d:Nat)(D:Dk)(S:fu):Prop:=
 my B w (.S p0 (J D.l0) c0) (.S i (J D.l1) j) (.S p2 (J D.l2) c2) D.l0 D.l1 D.l2/\(∀b,jB (Value.slice p0 (J D.l0) c0)=Y b\/jB (Value.slice i (J D.l1) j)=Y b\/jB (Value.slice p2 (J D.l2) c2)=Y b->b<M)/\B<=M/\Hj M w o m p (J S.E) c r (J S.N) d S.E S.N
theorem vm.W{B M:Nat}{D:Dk}(h:vm B M w A1 A2 p0 c0 p1 c1 p2 c2 p c r d D S)(i:∀b,B<=b->b<U (Q w)->w'.heap[b]?=w.heap[b]?):vm B M w' A1 A2 p0 c0 p1 c1 p2 c2 p c r d D S:=by
 obtain⟨⟨o,m,j,E,y,x⟩,N,u,q⟩:=h;exact⟨⟨o.hp λb e=>i b (o.lt b e).1 (o.lt b e).2,m.hp λb e=>i b (m.lt b e).1 (m.lt b e).2,j.hp λb e=>i b (j.lt b e).1 (j.lt b e).2,E,y,x⟩,N,u,q.W λa s=>i a.b (fx u (q.2.2.2.2.lo a s)) (q.2.2.2.2.oy.lt s)⟩
theorem vm.H{B M:Nat}{D:Dk}(h:vm B M w A1 A2 p0 c0 p1 c1 p2 c2 p c r d D S)(j:Bw w w'):vm B M w' A1 A2 p0 c0 p1 c1 p2 c2 p c r d D S:=h.W λb _ i=>j.block b i
theorem dy4{i:Ending->G->Prop}(h:∀X,X=w->dQ dG f a X i):dQ dG f a w i:=h w rfl
theorem Hj.kp{B:Nat}{m:Nat}(h:Hj B w A1 A2 p n c q m d ss ns)(i:∀b,B<=b->w'.heap[b]?=w.heap[b]?):Hj B w' A1 A2 p n c q m d ss ns:=h.W λa j=>i _ (h.2.2.2.2.lo a j)
theorem taN(t:TypeId)(w:G):(Instr.typeAssert .nilIface t 107 dY).run dG w=.ok (dT #[jP #[.I 0],jO dF]) w:=by kernel_rfl
theorem taS(t:TypeId)(v:dV)(w:G):(Instr.typeAssert (.iface 107 v) t 107 dY).run dG w=.ok (dT #[v,jO dY]) w:=by kernel_rfl
theorem bM2(P:Program)(b:Nat):∀(vs us i:List dV)(w:G),aO w b (i++us)->J vs=J us->(∀v∈vs,v.oneCell')->∃X,(storeCells (Ad b 0) vs (J i)).run P w=.ok () X/\aO X b (i++vs)/\(∀c,c≠b->X.heap[c]?=w.heap[c]?)/\Below b w X
 |[],us,i,w,h,hl,_=>by
  cases us with
  |nil=>exact⟨w,rfl,h,λ_ _=>rfl,aR _ _⟩
  |cons _ _=>simp at hl
 | v::rest,us,i,w,h,hl,h1=>by
  cases us with
  |nil=>simp at hl
  |cons u us=>
   have j:((Ad b 0):Addr).add (J i)=(Ad b (J i)):=by unfold Addr.add;split<;>simp_all
   have B:=h.1 (J i) u ai;have E:(store (((Ad b 0):Addr).add (J i)) v).run P w=.ok () (jS w (Ad b (J i)) v):=by rw[j,run_store P w _ v _ (h1 v ai),B];simp[h.2]
   have q:=h.dt (J i) ai v;have e:(i++u::us).set (J i) v=(i++[v])++us:=ai;rw[e]at q;let⟨X,m,y,s,r⟩:=bM2 P b rest us (i++[v]) _ q (by simpa using hl) (λx D=>h1 x (by simp[D]));refine⟨X,?_,by simpa using y,λc hc=>(s c hc).Z (fN _ _ _ _ hc),Xs (aH.setCell (p:=(Ad b (J i))) az _) r⟩;simp only[eG,List.length_singleton]at m;simp only[storeCells,Mn,E,am3,m]
variable {K:Act->G->Prop}{a:Act}
theorem ag3{P:Program}{ops:iQ}{o:Oper}{iZ:iE}{E:Prop}{t:TypeId}{x y:Operand}(H:aO w b us)(h1:∀v∈vs,v.oneCell')(hl:J vs=J us)(hK:∀X,aO X b vs->(∀c,c≠b->X.heap[c]?=w.heap[c]?)->Below b w X->K (a.put o.dst jQ) X)(iq:o.guard=dN:=by rfl)(ho:o.op=.store t x y:=by rfl)(hx:a.eval x=Pz b:=by rfl)(hy:a.eval y=jP vs.toArray:=by rfl)(hs:(sizeOf t).run P w=.ok (J vs) w:=by kernel_rfl):if jW o (yielded ops a.tmps)then Oper.wp P o a w K iZ else E:=by
 have hw:jW o (yielded ops a.tmps):=by simp[jW,iq]
 let⟨X,x1,x2,x3,x4⟩:=bM2 P b vs us [] w H hl h1;rw[aK hw];have hr:(execOp a.eval o).run P w=.ok .skip X:=by simp only[xk]at x1;simp only[execOp,ho,hx,hy];simp[Instr.storeAt,Instr.sureAddr,storeVar,hs,Value.cells,x1,go_sem]
 unfold Oper.wp;rw[hr];exact hK X (by simpa using x2) x3 x4
structure sW(P:Program)(ops:iQ)(iZ:Exit->Act->List Frame->G->Prop)(l:iN)(a:Act)(cs:List Frame)(w:G):Prop where
 go:wpOpsS P ops iZ l a cs w
section
variable {P:Program}{ops:iQ}{iZ:Exit->Act->List Frame->World->Prop}{i:Nat}{rest:iN}{a a':Act}{cs NI:List Frame}{w w':World}{o:Oper}{v:Value}
theorem di7(hc:recoverD cs=Y (v,NI))(h:sW P ops iZ rest a' NI w)(ho:ops[i]?=o:=by(simp only[uB,vF,vE];rfl))(hg:jW o (yielded ops a.tmps):=by kernel_rfl)(hr:(execOp a.eval o).run P w=.ok .recover w:=by kernel_rfl)(ha:a.put o.dst v=a':=by(simp only[Act.put,xa,xb,xc];rfl)):sW P ops iZ (i::rest) a cs w:=by
 constructor;unfold wpOpsS;rw[ho];simp only[hg,pQ,hr,hc];subst ha;exact h.go
theorem di6(hc:recoverD cs=dN)(h:sW P ops iZ rest a' cs w)(ho:ops[i]?=o:=by(simp only[uB,vF,vE];rfl))(hg:jW o (yielded ops a.tmps):=by kernel_rfl)(hr:(execOp a.eval o).run P w=.ok .recover w:=by kernel_rfl)(ha:a.put o.dst .nilIface=a':=by(simp only[Act.put,xa,xb,xc];rfl)):sW P ops iZ (i::rest) a cs w:=by
 constructor;unfold wpOpsS;rw[ho];simp only[hg,pQ,hr,hc];subst ha;exact h.go
theorem D6(v:dV)(w':G)(h:sW P ops iZ rest a' cs w')(ho:ops[i]?=o:=by(simp only[uB,vF,vE];rfl))(hg:jW o (yielded ops a.tmps):=by kernel_rfl)(hr:(execOp a.eval o).run P w=.ok (.value v) w':=by kernel_rfl)(ha:a.put o.dst v=a':=by(simp only[Act.put,xa,xb,xc];rfl)):sW P ops iZ (i::rest) a cs w:=by
 constructor;unfold wpOpsS;rw[ho];simp only[hg,pQ,hr];subst ha;exact h.go
theorem bQ7(w':G)(h:sW P ops iZ rest a' cs w')(ho:ops[i]?=o:=by(simp only[uB,vF,vE];rfl))(hg:jW o (yielded ops a.tmps):=by kernel_rfl)(hr:(execOp a.eval o).run P w=.ok .skip w':=by kernel_rfl)(ha:a.put o.dst jQ=a':=by(simp only[Act.put,xa,xb,xc];rfl)):sW P ops iZ (i::rest) a cs w:=by
 constructor;unfold wpOpsS;rw[ho];simp only[hg,pQ,hr];subst ha;exact h.go
theorem bQ9(h:iZ .normal a cs w):sW P ops iZ [] a cs w:=by
 constructor;unfold wpOpsS;exact h
end
theorem ex7(x y z:OA)(w:G):CallsD dG 62 #[dP x,dP y,dP z] .returning w λe u w'=>e=dR (dT #[])/\u=.returning/\Bw w w':=by
 refine callsD_of_wpS func62 rfl λj cs q=>?_;apply wpS_seq;apply wpS_region;rw[ntmps62];show wpOpsS _ _ _ [0,1,2,3,4,5,6,7] {tmps:=#[dP x,dP y,dP z,jQ,jQ,jQ,jQ,jQ,jQ,jQ,jQ,jQ,jQ,jQ,jQ],defers:=[]} _ _;apply sW.go;refine di6 (by simp[recoverD,q]) ?_;refine D6 (dT #[jP #[.I 0],jO dF]) w ?_ (hr:=by simp[go_sem,taN]);refine D6 (dT #[jP #[.I 0],jO dF]) w ?_;refine D6 (jP #[.I 0]) w ?_;refine D6 (jO dF) w ?_;refine D6 (Pz (U (Q w))) (jA w (dO #[.I 0] 107)) ?_;refine bQ7 (jS (jA w (dO #[.I 0] 107)) (Aw w 0) (.I 0)) ?_ (hr:=by simp[go_sem]);refine D6 (jO dF) (jS (jA w (dO #[.I 0] 107)) (Aw w 0) (.I 0)) ?_;refine bQ9 (wpS_of_wp ?_);have m:Bw w (jS (jA w (dO #[.I 0] 107)) (Aw w 0) (.I 0)):=(aH.alloc az _).setCell az _;generalize jS (jA w (dO #[.I 0] 107)) (Aw w 0) (.I 0)=v at m⊢;go_wp2;exact⟨rfl,.returning,by cases j;simp_all,dT #[],by simp[results,results62,go_sem],rfl,rfl,m⟩
theorem ex8(B:Nat)(k:Int){u8 u9 ua ub uc r0 r1 r2 r3 r4 r5 r6 r7:dV}(hz:B+1+1+1<U (Q w))(h1:∀v∈[v0,v1,v2,v3,v4,v5,v6,v7,v8,v9,va,vb,vc],v.oneCell')(H0:aO w B [v0,v1,v2,v3,v4,v5,v6,v7,v8,v9,va,vb,vc])(H2:aO w (B+1+1) [u0,u1,u2,u3,u4,u5,u6,u7,u8,u9,ua,ub,uc])(H3:aO w (B+1+1+1) [r0,r1,r2,r3,r4,r5,r6,r7]):CallsD dG 62 #[Pz B,Pz (B+1+1),Pz (B+1+1+1)] (.panicking [{v:=.iface 107 (jP #[.I k]),recovered:=dF}]) w λe u w'=>e=dR (dT #[])/\u=.panicking [{v:=.iface 107 (jP #[.I k]),recovered:=dY}]/\aO w' (B+1+1) [v0,v1,v2,v3,v4,v5,v6,v7,v8,v9,va,vb,vc]/\aO w' (B+1+1+1) [.I k,.U 0,.U 0,.U 0,.I 0,aq,aq,aq]/\Below B w w':=by
 refine callsD_of_wpS func62 rfl λcD2 cs hu=>?_;apply wpS_seq;apply wpS_region;rw[ntmps62];show wpOpsS _ _ _ [0,1,2,3,4,5,6,7] {tmps:=#[Pz B,Pz (B+1+1),Pz (B+1+1+1),jQ,jQ,jQ,jQ,jQ,jQ,jQ,jQ,jQ,jQ,jQ,jQ],defers:=[]} _ _;apply sW.go;refine di7 (by simp only[recoverD,hu];rfl) ?_;refine D6 (dT #[jP #[.I k],jO dY]) w ?_ (hr:=by simp[go_sem,taS]);refine D6 (dT #[jP #[.I k],jO dY]) w ?_;refine D6 (jP #[.I k]) w ?_;refine D6 (jO dY) w ?_;refine D6 (Pz (U (Q w))) (jA w (dO #[.I 0] 107)) ?_;refine bQ7 (jS (jA w (dO #[.I 0] 107)) (Aw w 0) (.I k)) ?_ (hr:=by simp[go_sem]);refine D6 (jO dY) (jS (jA w (dO #[.I 0] 107)) (Aw w 0) (.I k)) ?_;refine bQ9 (wpS_of_wp ?_);have hb:Bw w (jS (jA w (dO #[.I 0] 107)) (Aw w 0) (.I k)):=(aH.alloc az _).setCell az _;have hf:I (jS (jA w (dO #[.I 0] 107)) (Aw w 0) (.I k)) (Aw w 0)=dI k:=by simp[go_sem]
 generalize jS (jA w (dO #[.I 0] 107)) (Aw w 0) (.I k)=v at hb hf⊢;replace H0:=H0.H ae hb;replace H2:=H2.H ae hb;replace H3:=H3.H ae hb;let⟨i0,i1,i2,i3,i4,i5,i6,i7,i8,i9,ia,ib,ic⟩:=H0.gP;have bd:Bw v v.drew:=aH.drew
 go_wp21
 refine fK (λw'=>I w' (Ad B 0)=v0/\I w' (Ad B 1)=v1/\I w' (Ad B 2)=v2/\I w' (Ad B 3)=v3/\I w' (Ad B 4)=v4/\I w' (Ad B 5)=v5/\I w' (Ad B 6)=v6/\I w' (Ad B 7)=v7/\I w' (Ad B 8)=v8/\I w' (Ad B 9)=v9/\I w' (Ad B 10)=va/\I w' (Ad B 11)=vb/\I w' (Ad B 12)=vc/\I w' (Aw w 0)=dI k) (by exact⟨i0,i1,i2,i3,i4,i5,i6,i7,i8,i9,ia,ib,ic,hf⟩) λhS=>?_;refine iL 0 1 2 3 hS ?_;refine ft 4 λKK hK=>?_;refine ag3 (vs:=[v0,v1,v2,v3,v4,v5,v6,v7,v8,v9,va,vb,vc]) (H2.H (aM hb.size) bd) h1 rfl ?_;intro X x1 x2 x3;refine bQ hK (by simp only[gF (x2 B ae),gF (x2 (U (Q w)) ae)];exact hS) λhS=>?_;clear hK KK;refine ft 5 λKK hK=>?_;refine ag3 (vs:=[.I k,.U 0,.U 0,.U 0,.I 0,aq,aq,aq]) ((H3.H (aM hb.size) bd).eh (x2 _ ae)) (by simp[Value.oneCell']) rfl ?_;intro iY y1 y2 y3;refine bQ hK (by simp only[gF (y2 B ae),gF (y2 (U (Q w)) ae)];exact hS) λhS=>?_;clear hK KK;refine ga ?_;refine⟨rfl,_,rfl,dT #[],by simp[results,results62,go_sem],rfl,rfl,x1.eh (y2 _ ae),y1,?_⟩;exact Xs (am2 (ah hb bd) ae) (Xs (am2 x3 ae) (am2 y3 ae))
variable {S:iP}
theorem Xc{iZ:iE}(i j:Nat){o o':Oper}{b':Nat}{t t':TypeId}{x y x' y':Operand}{us' vs':List dV}(H:aO w b us)(H':aO w b' us')(aN:b≠b')(hl:J vs=J us/\J vs'=J us'/\(∀v∈vs,v.oneCell')/\∀v∈vs',v.oneCell')(hS:∀w',aO w' b vs->aO w' b' us'\/aO w' b' vs'->(∀c,c≠b->c≠b'->w'.heap[c]?=w.heap[c]?)->S w')(hQ:∀w',aO w' b vs->aO w' b' vs'->(∀c,c≠b->c≠b'->w'.heap[c]?=w.heap[c]?)->(∀B,B<=b->B<=b'->Below B w w')->iZ .normal a w')(pR:Region.ready md ops listed=[i]:=by kernel_rfl)(iC:Region.ready md ops (jI listed i dY)=[j]:=by kernel_rfl)(sH:Region.ready md ops (jI (jI listed i dY) j dY)=[]:=by kernel_rfl)(ho:ops[i]?=o:=by(simp only[uB,vF,vE];rfl))(yL:ops[j]?=o':=by(simp only[uB,vF,vE];rfl))(g:o.guard=dN:=by rfl)(g':o'.guard=dN:=by rfl)(d:o.dst=dN:=by rfl)(d':o'.dst=dN:=by rfl)(p:o.op=.store t x y:=by rfl)(p':o'.op=.store t' x' y':=by rfl)(hx:a.eval x=Pz b:=by rfl)(Av:a.eval x'=Pz b':=by rfl)(hy:a.eval y=jP vs.toArray:=by rfl)(hy':a.eval y'=jP vs'.toArray:=by rfl)(hs:∀w,(sizeOf t).run dG w=.ok (J vs) w:=by(intro _;kernel_rfl))(qK:∀w,(sizeOf t').run dG w=.ok (J vs') w:=by(intro _;kernel_rfl)):wpAnyH dG md ops iZ S 2 listed a w:=by
 have d0:∀v,a.put o.dst v=a:=λv=>by rw[d];rfl
 have d1:∀v,a.put o'.dst v=a:=λv=>by rw[d'];rfl
 refine Ug pR ai (Uf ho (λKK hK=>?_) fI);refine ag3 H hl.2.2.1 hl.1 ?_ g p hx hy (hs w);intro X x1 x2 x3;rw[d0];refine hK.out _ _ (hS X x1 (.L (H'.eh (x2 b' (El aN)))) λc h1 _=>x2 c h1) (λ_=>?_);refine Ug iC ai (Uf yL (λKK hK=>?_) fI);refine ag3 (H'.eh (x2 b' (El aN))) hl.2.2.2 hl.2.1 ?_ g' p' Av hy' (qK X);intro iY y1 y2 y3;rw[d1];have k:∀c,c≠b->c≠b'->iY.heap[c]?=w.heap[c]?:=λc h1 h2=>(y2 c h2).Z (x2 c h1);refine hK.out _ _ (hS iY (x1.eh (y2 b aN)) (.R y1) k) (λ_=>?_);exact Xr sH (hQ iY (x1.eh (y2 b aN)) y1 k λB h1 h2=>(x3.h h1).Z (y3.h h2)) _
structure Pt where
 p0:OA
 c0:Nat
 p1:OA
 c1:Nat
 p2:OA
 c2:Nat
 p:OA
 c:Nat
 r:OA
 d:Nat
structure Dm where
 n0:Int
 l1:LI
 n1:Int
 l2:LI
 n2:Int
abbrev uq:=LI×SD×Int
abbrev yw(A:Pt)(M:Dm)(X:uq):dV:=BI (.S A.p0 (J X.1) A.c0) M.n0 (.S A.p1 (J M.l1) A.c1) M.n1 (.S A.p2 (J M.l2) A.c2) M.n2 X.2.1.e X.2.1.g X.2.1.x X.2.1.t (.S A.p (J X.2.1.E) A.c) (.S A.r (J X.2.1.N) A.d) X.2.2
abbrev CG(A:Pt)(M:Dm)(X:uq):List dV:=[.S A.p0 (J X.1) A.c0,.I M.n0,.S A.p1 (J M.l1) A.c1,.I M.n1,.S A.p2 (J M.l2) A.c2,.I M.n2,.U X.2.1.e,.U X.2.1.g,.U X.2.1.x,.I X.2.1.t,.S A.p (J X.2.1.E) A.c,.S A.r (J X.2.1.N) A.d,.U X.2.2]
abbrev SvE(v:G)(b:Nat)(A:Pt)(M:Dm)(X:uq):Prop:=I v (Ad b 0)=dS A.p0 (J X.1) A.c0/\I v (Ad b 1)=dI M.n0/\I v (Ad b 2)=dS A.p1 (J M.l1) A.c1/\I v (Ad b 3)=dI M.n1/\I v (Ad b 4)=dS A.p2 (J M.l2) A.c2/\I v (Ad b 5)=dI M.n2/\I v (Ad b 6)=dU X.2.1.e/\I v (Ad b 7)=dU X.2.1.g/\I v (Ad b 8)=dU X.2.1.x/\I v (Ad b 9)=dI X.2.1.t/\I v (Ad b 10)=dS A.p (J X.2.1.E) A.c/\I v (Ad b 11)=dS A.r (J X.2.1.N) A.d/\I v (Ad b 12)=dU X.2.2
structure Pr where
 p1:OA
 c1:Nat
 p2:OA
 c2:Nat
 p3:OA
 c3:Nat
abbrev Ai(a:Pr)(R:RP):dV:=mB R.k R.i R.e R.g R.n (.S a.p1 (J R.qB) a.c1) (.S a.p2 (J R.nms) a.c2) (.S a.p3 (J R.pG) a.c3)
abbrev CL(a:Pr)(R:RP):List dV:=[.I R.k,.U R.i,.U R.e,.U R.g,.I R.n,.S a.p1 (J R.qB) a.c1,.S a.p2 (J R.nms) a.c2,.S a.p3 (J R.pG) a.c3]
abbrev RpE(v:G)(b:Nat)(a:Pr)(R:RP):Prop:=I v (Ad b 0)=dI R.k/\I v (Ad b 1)=dU R.i/\I v (Ad b 2)=dU R.e/\I v (Ad b 3)=dU R.g/\I v (Ad b 4)=dI R.n/\I v (Ad b 5)=dS a.p1 (J R.qB) a.c1/\I v (Ad b 6)=dS a.p2 (J R.nms) a.c2/\I v (Ad b 7)=dS a.p3 (J R.pG) a.c3
abbrev zS:List dV:=[aq,.I 0,aq,.I 0,aq,.I 0,.U 0,.U 0,.U 0,.I 0,aq,aq,.U 0]
abbrev zR:List dV:=[.I 0,.U 0,.U 0,.U 0,.I 0,aq,aq,aq]
structure sU where
 K:Int
 S:Int
 F:Int
 E:Int
 G:Int
 P:LI
 V:LI
structure Pq where
 p:OA
 c:Nat
 q:OA
 d:Nat
abbrev J1(a:Pq)(iO:sU):dV:=qF iO.K iO.S (.S a.p (J iO.P) a.c) iO.F (.S a.q (J iO.V) a.d) iO.E iO.G
abbrev Im(a:Pq)(iO:sU):List dV:=[.I iO.K,.U iO.S,.S a.p (J iO.P) a.c,.I iO.F,.S a.q (J iO.V) a.d,.U iO.E,.U iO.G]
def Fg(w:G)(a:Pq)(iO:sU):Prop:=Rd w (.S a.p (J iO.P) a.c) iO.P/\Rd w (.S a.q (J iO.V) a.d) iO.V
theorem Fg.H{a:Pq}{iO:sU}(h:Fg w a iO)(i:Bw w w'):Fg w' a iO:=⟨h.1.H i,h.2.H i⟩
structure OG(a:Pq)(iO:sU):Prop where
 s:0<=iO.S/\iO.S<2^64
 p:J iO.P<=2^20
 v:J iO.V<=2^20
 bp:aA iO.P
 bv:aA iO.V
 c1:J iO.P<=a.c
 c2:a.c<=maxLen
def Jy(w:G)(A:Pt)(M:Dm)(X:uq):Prop:=Rd w (.S A.p0 (J X.1) A.c0) X.1/\Rd w (.S A.p1 (J M.l1) A.c1) M.l1/\Rd w (.S A.p2 (J M.l2) A.c2) M.l2/\mJ w (.S A.p (J X.2.1.E) A.c) X.2.1.E/\iy w (.S A.r (J X.2.1.N) A.d) X.2.1.N
theorem Jy.H{A:Pt}{M:Dm}{X:uq}(h:Jy w A M X)(i:Bw w w'):Jy w' A M X:=⟨h.1.H i,h.2.1.H i,h.2.2.1.H i,h.2.2.2.1.H i,h.2.2.2.2.H i⟩
structure DmG(M:Dm)(X:uq):Prop where
 d:oK (J X.1) M.n0 (J M.l1) M.n1 (J M.l2) M.n2=dY
 m1:J M.l1<=200000
 m2:J M.l2<=200000
 v:VD X.2.1
 q:0<=X.2.2
 n:J X.1<=4000
abbrev sw(q:Int)(iO:sU):LI:=nH (q+1) (jr (jN iO.K) (jN iO.S) iO.P (jN iO.F) iO.V)
abbrev pK(D:SD)(iO:sU):SD×RP:=lM D iO.K iO.S iO.F iO.E iO.G iO.P iO.V
def mh(X:uq)(iO:sU):RP×uq:=
 if(pK X.2.1 iO).2.k=0/\vL (jN iO.K)then
  (if 4611686018427387904<=X.2.2 then(kP 12,X)else if 4000<J X.1+J (sw X.2.2 iO)then(kP 11,X)else((pK X.2.1 iO).2,X.1++sw X.2.2 iO,(pK X.2.1 iO).1,X.2.2+1))
 else((pK X.2.1 iO).2,X.1,(pK X.2.1 iO).1,X.2.2)
theorem Z9{iO:sU}(h:(pK D iO).2.k=0):∃k f:Nat,iO.K=k/\1<=k/\k<=13/\(vL k->oF k iO.S iO.F (J iO.P) (J iO.V) iO.E iO.G/\iO.F=f/\f<=2/\J iO.P<=136/\J iO.V<=40):=by
 obtain⟨K,S,F,E,j,P,V⟩:=iO;unfold pK lM at h;dsimp only at h⊢;split at h;{cases h};{
 rename_i hf;unfold Cq at hf;split at hf;{
 rename_i hk;refine⟨jN K,jN F,ae,ae,ae,λi=>?_⟩;have hf:oF (jN K) S F (J P) (J V) E j:=by simpa using hf
 refine⟨hf,?_⟩;have m:(K=4\/K=5\/K=7\/K=8\/K=9)->J P<=136:=λo=>by simp only[show¬K=1 by omega,show¬K=2 by omega,show¬K=3 by omega,show¬K=12 by omega,↓reduceIte]at h;split at h;{cases h};{unfold CM at h;split at h;{cases h};{rename_i hv;exact JR (by simpa[Aj,show K≠13 by omega]using hv)}}
 obtain⟨k,rfl⟩:∃k:Nat,K=k:=⟨jN K,ae⟩;rw[sC]at hf i;obtain rfl|rfl|rfl|rfl|rfl|rfl|rfl|rfl|rfl|rfl|rfl|rfl|rfl:=kinds (k:=k) ae ae<;>first|(cases i;done)|(simp only[oF,rowOf,Bf,gI,PG,lx,Ee,Ir,false_or,true_or,Iq]at hf;exact⟨ae,ae,by first|exact m ae|omega,ae⟩)}
 {simp at hf}}
open Go.Deep
abbrev ee2(k:Int):Ending:=.panicked [{v:=.iface 107 (jP #[.I k]),recovered:=dF}]
def eH8(w:G)(A:Pt)(M:Dm)(X:uq)(b:LI)(z:Ending)(w':G):Prop:=
 ((∃k,z=ee2 k/\(4611686018427387904<=X.2.2/\k=12\/X.2.2<2^62/\4000<J X.1+J (nH (X.2.2+1) b)/\k=11))\/(X.2.2<2^62/\J X.1+J (nH (X.2.2+1) b)<=4000/\∃m s j q i o,z=dR (yw ⟨m,s,j,q,i,o,A.p,A.c,A.r,A.d⟩ M (X.1++nH (X.2.2+1) b,X.2.1,X.2.2+1))/\my (U (Q w)) w' (.S m (J (X.1++nH (X.2.2+1) b)) s) (.S j (J M.l1) q) (.S i (J M.l2) o) (X.1++nH (X.2.2+1) b) M.l1 M.l2))/\Bw w w'
theorem do0{A:Pt}{M:Dm}{X:uq}{a:Pq}{iO:sU}{b:LI}(eL:Le b L)(hL:L<=1000)(HB:O (aA b))(h:Jy w A M X)(s:O (DmG M X))(hE:O (∀v,Bw w v->Cp 127 #[J1 a iO] v λr w'=>∃p' c',r=dR (.S p' L c')/\Own (U (Q v)) w' (.S p' L c') b/\Bw v w')):dQ dG 64 #[yw A M X,J1 a iO] w (eH8 w A M X b):=by
 obtain⟨W0,bG,b0,z0,C0,-⟩:=bM w (CG A M X).toArray 36;obtain⟨W1,fo,b1,z1,C1,-⟩:=bM W0 (Im a iO).toArray 26;obtain⟨Z,fM,W,z2,C2,-⟩:=bM W1 zS.toArray 36;rw[z0]at C1 z1;rw[z1]at C2 z2;have N:=ah b0 (ah b1 W);have q0:=s.q;have m0:=s.n;by_cases hq:4611686018427387904<=X.2.2;{go_in;go_wp2;rw[<-bG,<-fo,<-fM];exact⟨rfl,.L ⟨12,rfl,.L ⟨hq,rfl⟩⟩,N⟩};{
 have lG:X.2.2<2^62:=ae;have wq:jY jU (X.2.2+1)=X.2.2+1:=by rw[uW];omega
 have HE:=af (h.H N);have u:=af (λ(v:G)(m:Bw Z v)=>aD (((C0.H ae b1).H ae W).H ae m) (aD ((C1.H ae W).H ae m) (aD (C2.H ae m) (ah N m))));have HZ:=af z2;clear C0 C1 C2 b0 b1 W z0 z1 z2 h N;go_in
 go_wp21
 rw[<-bG,<-fo,<-fM];clear bG fo fM;have HK:O (∀v,Bw Z v->I v (Aw w 12)=dU X.2.2/\lr v (U (Q w)+1) (.I iO.K) (.U iO.S) (.S a.p (J iO.P) a.c) (.I iO.F) (.S a.q (J iO.V) a.d) (.U iO.E) (.U iO.G)):=λv m=>by have H:=aa u v m;exact⟨H.1.1 12 _ rfl,H.2.1.1 0 _ rfl,H.2.1.1 1 _ rfl,H.2.1.1 2 _ rfl,H.2.1.1 3 _ rfl,H.2.1.1 4 _ rfl,H.2.1.1 5 _ rfl,H.2.1.1 6 _ rfl⟩
 have D:Bw Z Z.drew:=aH.drew;refine fK (λv=>I v (Aw w 12)=dU X.2.2/\lr v (U (Q w)+1) (.I iO.K) (.U iO.S) (.S a.p (J iO.P) a.c) (.I iO.F) (.S a.q (J iO.V) a.d) (.U iO.E) (.U iO.G)) (by exact HK _ D) λhS=>?_;refine iL 0 1 2 3 hS ?_;refine ft 4 (λKK hK=>?_);refine js (aa hE _ (aa u _ D).2.2.2) ?_;rintro z v1⟨pa,ca,rfl,oa,ao⟩;refine⟨_,rfl,?_⟩;have B1:=ah D ao;refine bQ hK (by exact HK v1 B1) λhS=>?_;clear hK KK;refine tn 5 hS ?_;refine ft 6 (λKK hK=>?_);refine js (show Cp 126 #[yy (X.2.2+1) (.S pa L ca)] v1 _ from cg3 eL oa.rd HB ae ae ae) ?_;rintro z j⟨pb,cb,rfl,ob,ay⟩;refine⟨_,rfl,?_⟩;have B2:=ah B1 ay;refine bQ hK (by exact HK j B2) λhS=>?_;clear hK KK;refine tn 7 hS ?_;refine ga ?_;have y:=af B2;have OB:=af ob;clear hS oa ao ay B1 B2 ob D HB HK;obtain⟨⟨i0,i1,i2,i3,i4,i5,i6,i7,i8,i9,ia,ib,ic⟩,-,-,x⟩:=And.imp (λh:aO j (U (Q w)) _=>h.gP) id (aa u j y);have wf:jY jV ((J X.1:Int)+((L+14:Nat):Int))=(J X.1:Int)+((L+14:Nat):Int):=l8 _ ae;have EC:O (L+14=J (nH (X.2.2+1) b)):=by show _=_;rw[D7,aa eL]
 by_cases hf:4000<J X.1+(L+14);{have hf':(4000:Int)<(J X.1:Int)+((L+14:Nat):Int):=ae;go_wp2;exact⟨rfl,.L ⟨11,rfl,.R ⟨lG,by rw[<-aa EC];exact hf,rfl⟩⟩,x⟩};{
 have hf':¬(4000:Int)<(J X.1:Int)+((L+14:Nat):Int):=ae
 go_wp21
 clear i0 i1 i2 i3 i4 i5 i6 i7 i8 i9 ia ib ic x;have eC:=aa EC;have hB:=OB.rd;rw[eC]at hB⊢;have Oy:=HE.H y;refine(eq5 A.p0 A.p1 A.p2 A.c0 A.c1 A.c2 M.n0 M.n1 M.n2 X.1 M.l1 M.l2 j Oy.1 Oy.2.1 Oy.2.2.1 s.d ae s.m1 s.m2 pb (nH (X.2.2+1) b) (X.1++nH (X.2.2+1) b) rfl cb hB (by show _<=_;rw[eG];omega)).h ?_;rintro z v3⟨P0,d0,P1,d1,P2,d2,rfl,O3,aE⟩;have B3:=ah y aE;obtain⟨H1,-,H2,x⟩:=aa u v3 B3;let⟨i0,i1,i2,i3,i4,i5,i6,i7,i8,i9,ia,ib,ic⟩:=H1.gP;have jf:=H1.2;have j0:=H2.gP;have kf:=H2.2;have zz:U (Q w)+1+1+1<=U (Q j):=by have:=aa HZ;have:=y.size;omega
 have OO:=af O3;have OE:=af x;have LM:=af zz;clear O3 aE B3 H1 H2 x Oy HE u hB OB zz;go_wp2;refine bO (v:=yw ⟨P0,d0,P1,d1,P2,d2,A.p,A.c,A.r,A.d⟩ M (X.1++nH (X.2.2+1) b,X.2.1,X.2.2+1)) (by simp[results,results64,go_sem,j0]) rfl ?_;refine⟨.R ⟨lG,by rw[<-eC];omega,P0,d0,P1,d1,P2,d2,rfl,?_⟩,?_⟩;{
 refine my.h (B:=U (Q j)) ?_ (aM (aa LM))
 repeat(refine my.set ?_ (by have:=aa LM;simp;omega) _)
 exact OO};{
 repeat(refine kV ?_ (by simp<;>omega) _)
 exact OE}}}
theorem aO.Xg{u8 u9 m j i:dV}(h:aO w b [u0,u1,u2,u3,u4,u5,u6,u7,u8,u9,m,j,i]):aO (jS (jS (jS (jS (jS (jS (jS (jS (jS (jS (jS (jS (jS w (Ad b 0) v0) (Ad b 1) v1) (Ad b 2) v2) (Ad b 3) v3) (Ad b 4) v4) (Ad b 5) v5) (Ad b 6) v6) (Ad b 7) v7) (Ad b 8) v8) (Ad b 9) v9) (Ad b 10) va) (Ad b 11) vb) (Ad b 12) vc) b [v0,v1,v2,v3,v4,v5,v6,v7,v8,v9,va,vb,vc]:=(((((((((((((h).dt 0 (by simp) v0).dt 1 (by simp) v1).dt 2 (by simp) v2).dt 3 (by simp) v3).dt 4 (by simp) v4).dt 5 (by simp) v5).dt 6 (by simp) v6).dt 7 (by simp) v7).dt 8 (by simp) v8).dt 9 (by simp) v9).dt 10 (by simp) va).dt 11 (by simp) vb).dt 12 (by simp) vc
theorem aO.p8(h:aO w b [u0,u1,u2,u3,u4,u5,u6,u7]):aO (jS (jS (jS (jS (jS (jS (jS (jS w (Ad b 0) v0) (Ad b 1) v1) (Ad b 2) v2) (Ad b 3) v3) (Ad b 4) v4) (Ad b 5) v5) (Ad b 6) v6) (Ad b 7) v7) b [v0,v1,v2,v3,v4,v5,v6,v7]:=((((((((h).dt 0 (by simp) v0).dt 1 (by simp) v1).dt 2 (by simp) v2).dt 3 (by simp) v3).dt 4 (by simp) v4).dt 5 (by simp) v5).dt 6 (by simp) v6).dt 7 (by simp) v7
theorem aO.p6{v0 v1 v2 v3 v4 v5 v6 v7 x u s r q o m j i xa xb:dV}(h:aO w b [v0,v1,v2,v3,v4,v5,v6,v7,x,u,s,r,q]):aO (jS (jS (jS (jS (jS (jS w (Ad b 6) o) (Ad b 7) m) (Ad b 8) j) (Ad b 9) i) (Ad b 10) xa) (Ad b 11) xb) b [v0,v1,v2,v3,v4,v5,o,m,j,i,xa,xb,q]:=((((((h).dt 6 (by simp) o).dt 7 (by simp) m).dt 8 (by simp) j).dt 9 (by simp) i).dt 10 (by simp) xa).dt 11 (by simp) xb
theorem aO.r8(h:aO w b [v0,v1,v2,v3,v4,v5,v6,v7]):I w (Ad b 0)=v0/\I w (Ad b 1)=v1/\I w (Ad b 2)=v2/\I w (Ad b 3)=v3/\I w (Ad b 4)=v4/\I w (Ad b 5)=v5/\I w (Ad b 6)=v6/\I w (Ad b 7)=v7:=⟨h.1 0 _ rfl,h.1 1 _ rfl,h.1 2 _ rfl,h.1 3 _ rfl,h.1 4 _ rfl,h.1 5 _ rfl,h.1 6 _ rfl,h.1 7 _ rfl⟩
def Wo(w:G):Prop:=I w (Ad 1 0)=Y (.iface 279 (jP #[dP (Ad 5 168)]))
abbrev Eb(iO:sU):LI:=jr (jN iO.K) (jN iO.S) iO.P (jN iO.F) iO.V
abbrev EnC(f:Nat)(a:Pq)(iO:sU)(L:Nat)(v:G):Prop:=dQ dG f #[J1 a iO] v λr w'=>∃p' c',r=dR (.S p' L c')/\Own (U (Q v)) w' (.S p' L c') (Eb iO)/\Bw v w'
theorem cy9{iO:sU}{a:Pq}(M:(pK D iO).2.k=0)(x:vL (jN iO.K))(g:OG a iO)(L:Nat)(q:O (J (Eb iO)=L)):L<=1000/\aA (Eb iO)/\(∀v,qP v->Fg v a iO->EnC 127 a iO L v)/\∀v,Fg v a iO->EnC 58 a iO L v:=by
 let⟨k,f,N,r,j,h⟩:=Z9 M;obtain⟨K,S,F,E,iG,P,V⟩:=iO;obtain⟨hS,o,m,X,W,-,-⟩:=g;dsimp only at*;subst N;rw[sC]at*;let⟨hf,R,y,p1,Z⟩:=h x;subst R;obtain⟨s,rfl⟩:∃s:Nat,S=s:=⟨jN S,ae⟩;refine⟨by have:=du8 k s P f V;have:J (jr k s P f V)=L:=aa q;omega,(show aA (jr k s P f V)from bV6 ae ae ae X W o m),λv B i=>?_,λv i=>?_⟩;{have u:=B k r j;rw[show(rowOf k).2.2.2.2.2.2=dY from x]at u;exact aZ8 k r j s f ae y P V rfl rfl i.1 i.2 o m u hf q};{exact ce0 j ae y rfl rfl i.1 i.2 o m q}
def eF6(w:G)(M:Dm)(Z:RP×uq)(z:Ending)(w':G):Prop:=∃A a,z=dR (dT #[yw A M Z.2,Ai a Z.1])/\Jy w' A M Z.2/\uP (U (Q w)) w' (Ai a Z.1) Z.1/\Bw w w'
def aC7(w:G)(M:Dm)(Z:RP×uq)(i:G):Prop:=∃A a,aO i (U (Q w)+1+1) (CG A M Z.2)/\aO i (U (Q w)+1+1+1) (CL a Z.1)/\Bw w i/\∀u,Bw w u->U (Q i)<=U (Q u)->(∀b,U (Q w)+1+1+1<b->b<U (Q i)->u.heap[b]?=i.heap[b]?)->Jy u A M Z.2/\uP (U (Q w)) u (Ai a Z.1) Z.1
theorem da8{A:Pt}{M:Dm}{X:uq}{a:Pq}{iO:sU}(hG:O (DmG M X))(g:O (OG a iO))(hJ:O (JK iO.K))(h:Jy w A M X)(hO:Fg w a iO)(hM:ML w)(hT:qP w)(hE:Wo w):Cp 26 #[yw A M X,J1 a iO] w (eF6 w M (mh X iO)):=by
 let⟨Z,eZ⟩:=bL (mh X iO);rw[aa eZ];obtain⟨W0,bG,b0,z0,C0,-⟩:=bM w (CG A M X).toArray 36;obtain⟨W1,fo,b1,z1,C1,-⟩:=bM W0 (Im a iO).toArray 26;obtain⟨W2,fM,b2,z2,C2,-⟩:=bM W1 #[aq,.I 0,aq,.I 0,aq,.I 0,.U 0,.U 0,.U 0,.I 0,aq,aq,.U 0] 36;obtain⟨W3,kJ,b3,z3,C3,-⟩:=bM W2 #[.I 0,.U 0,.U 0,.U 0,.I 0,aq,aq,aq] 43;rw[z0]at C1 z1;rw[z1]at C2 z2;rw[z2]at C3 z3;have bW:=ah b0 (ah b1 (ah b2 b3));have HC:=af (λ(v:G)(N:Bw W3 v)=>aD ((((C0.H ae b1).H ae b2).H ae b3).H ae N) (aD (((C1.H ae b2).H ae b3).H ae N) (aD ((C2.H ae b3).H ae N) (aD (C3.H ae N) (ah bW N)))));have HE:=af (λ(v:G)(N:Bw w v)=>aD (h.H N) (aD (hO.H N) (aD (hM.H N) (aD (show qP v fromλk i1 i2=>(hT k i1 i2).H N) (show Wo v from aj hE N)))));have HZ:=af z3;have HW:=af bW;clear C0 C1 C2 C3 b0 b1 b2 b3 z0 z1 z2 z3 h hO hM hT hE bW;have hmf:∀(fn:Fn)(first cap:iA)(w:G),(Instr.makeFunc fn first cap).run dG w=.ok (.func fn first cap) w:=λ_ _ _ _=>rfl
 go_enter_defers func26,ntmps26
 go_wp21
 rw[<-bG,<-fo,<-fM,<-kJ];clear bG fo fM kJ;have E3:=aa HE W3 HW;have hV:=hG.v;obtain⟨m,eA⟩:∃m,O (pK X.2.1 iO=m):=⟨_,cO⟩;have hsl:=hV.sl;have Kv:=hV.nl;refine(dJ7 X.2.1.e X.2.1.g X.2.1.x X.2.1.t A.p _ A.c A.r _ A.d X.2.1.E X.2.1.N rfl rfl iO.K iO.S iO.F iO.E iO.G a.p _ a.c a.q _ a.d iO.P iO.V rfl rfl W3 E3.1.2.2.2.1 E3.1.2.2.2.2 E3.2.1.1 E3.2.1.2 ae ae g.p g.c1 g.c2 hV.gy hV.cW hV.mU hV.tp E3.2.2.1 E3.2.2.2.1 E3.2.2.2.2 g.bp g.s (af ⟨hV.g.1,hV.x.1⟩) m ((hV.ap _ _ _ _ _ _ _).Z eA) hJ).h ?_;clear E3 hV hsl Kv;rintro z v1⟨⟨p',c',r',d',v,B5,w6,rfl,⟨Lg,hB6⟩,hL,hz6,IU,A1,A2,S1⟩,ao⟩;have R1:=(hL.W IU hz6).h Lg;let⟨q1,e1,q2,e2,q3,e3,ev⟩:=id hL;subst ev;clear hL IU;have S1:Hj (U (Q W3)) v1 A1 A2 p' (J m.1.E) c' r' (J m.1.N) d' m.1.E m.1.N:=⟨S1.1,S1.2.1,S1.2.2.1,S1.2.2.2.1,S1.2.2.2.2.h hB6⟩;obtain⟨V1,ud,bv,zv,CV,-⟩:=bM v1 #[.U m.1.e,.U m.1.g,.U m.1.x,.I m.1.t,.S p' (J m.1.E) c',.S r' (J m.1.N) d'] 34;have W:=ah ao bv;let⟨H0,H1,H2,H3,BB⟩:=aa HC V1 W;let⟨i0,i1,i2,i3,i4,i5,i6,i7,i8,i9,ia,ib,ic⟩:=H0.gP;let⟨j0,j1,j2,j3,j4,j5,j6,j7,j8,j9,ja,jb,jc⟩:=H2.gP;have jf:=H2.2;have kf:=H3.2;have oo:=aD (H1.1 0 _ rfl) (aD (H1.1 1 _ rfl) (aD (H1.1 2 _ rfl) (aD (H1.1 3 _ rfl) (aD (H1.1 4 _ rfl) (aD (H1.1 5 _ rfl) (H1.1 6 _ rfl))))));have kk:=H3.r8;have KR:=br (S1.H bv) (R1.W (λb _ hl=>bv.block b hl) bv.size);have KH:=jq H0 H2 H3 CV;have B1:=af ao;have OE:=af BB;have Oq:O (U (Q w)+1+1+1<U (Q v1)):=by show _<_;have:=aa HZ;have:=ao.size;omega
 have ZV:=af zv;clear H0 H1 H2 H3 BB S1 R1 ao W bv CV zv HC Lg hB6 hz6;by_cases hj:m.2.k=0/\vL (jN iO.K)=dY
 case' pos=>
  have nL:(m.2.k==0):=by simp[hj.1]
  have HJ:=af hj;obtain⟨k,f,ek,k1,k2,-⟩:=Z9 (D:=X.2.1) (iO:=iO) (aa eA▸hj.1);have t6:I V1 (Ad 0 (jN iO.K*7+6))=Y (jO dY):=(((aa HE V1 OE).2.2.2.1 (jN iO.K) ae ae).2.2.2.2.2.2).Z (tg (λb=>Y (Value.bool b)) hj.2);have l1:0<=iO.K:=ae;have l2:iO.K<14:=ae;have l3:jN iO.K<14:=ae;clear ek k1 k2 hj;subst ud
  go_wp21
  refine dy4 λiY hX=>?_;have F0:O (aO iY (U (Q w)) (CG A M X)):=by
   show aO _ _ _;refine KH.1.eh ?_;rw[hX]
   iterate 21 (refine(fN _ _ _ _ (by dsimp only;omega)).Z ?_)
   rfl
  have BX:O (Bw w iY):=by
   show Below _ _ _;rw[hX]
   iterate 21 (refine Below.setCell ?_ (by dsimp only;omega) _)
   exact OE
  have F2:O (aO iY (U (Q w)+1+1) (CG A M X)):=by
   show aO _ _ _;rw[hX];refine aO.Xg (aO.eh KH.2.1 ?_)
   iterate 8 (refine(fN _ _ _ _ (by dsimp only;omega)).Z ?_)
   rfl
  have F3:O (aO iY (U (Q w)+1+1+1) (CL ⟨q1,e1,q2,e2,q3,e3⟩ m.2)):=by
   show aO _ _ _;rw[hX];refine aO.eh (aO.p8 KH.2.2.1) ?_
   iterate 13 (refine(fN _ _ _ _ (by dsimp only;omega)).Z ?_)
   rfl
  have FK:O (∀b,U (Q w)+1+1+1<b->iY.heap[b]?=(jA v1 (dO #[.U m.1.e,.U m.1.g,.U m.1.x,.I m.1.t,.S p' (J m.1.E) c',.S r' (J m.1.N) d'] 34)).heap[b]?):=λb hb=>by
   rw[hX]
   iterate 21 (refine(fN _ _ _ _ (by dsimp only;omega)).Z ?_)
   rfl
  have zX:U (Q iY)=U (Q (jA v1 (dO #[.U m.1.e,.U m.1.g,.U m.1.x,.I m.1.t,.S p' (J m.1.E) c',.S r' (J m.1.N) d'] 34))):=by rw[hX];simp
  have z3:=aa HZ;have fy:=aa Oq;have FV:=af (KH.2.2.2.eh (aa FK (U (Q v1)) Oq));have SX:=br (KR.1.kp λb hb=>aa FK b ae) (KR.2.W (λb hb _=>aa FK b ae) ae);have ZX:O (U (Q v1)<U (Q iY)):=by show _<_;have:=aa ZV;omega
  clear fy hX KH KR OE t6 i0 i1 i2 i3 i4 i5 i6 i7 i8 i9 ia ib ic j0 j1 j2 j3 j4 j5 j6 j7 j8 j9 ja jb jc oo kk jf kf zX z3 FK ZV;have E:=aa HE iY BX;let⟨L,eL⟩:=bL (J (Eb iO));obtain⟨hL,Zt,Zr,-⟩:=cy9 (D:=X.2.1) (aa eA▸HJ.1) HJ.2 g L eL;refine(do0 eL hL Zt E.1 hG (af λv N=>Zr v (λk i1 i2=>(E.2.2.2.1 k i1 i2).H N) (E.2.1.H N))).h ?_;clear E Zt Zr hL eL;rintro z v2⟨hR,W⟩;have zz:=aa ZX;have z3:=aa HZ;have fy:=aa Oq;have BB:=ah BX W;have G0:=F0.H ae W;have G2:=F2.H ae W;have G3:=F3.H ae W;have GV:=FV.H ae W;have GS:=aD (SX.1.H W) (SX.2.W (λb _ hl=>W.block b hl) W.size);have z2:=W.size;clear F0 F2 F3 FV SX BX ZX HW W l1 l2 l3 nL;obtain⟨k,rfl,hk⟩|⟨hq,hf,P0,f0,P1,f1,P2,f2,rfl,O3⟩:=hR;{
 have HS:O (Z=(kP k,X)):=by show _=_;rw[<-aa eZ];unfold mh;rw[aa eA,aK (aa HJ)];obtain⟨h1,rfl⟩|⟨h1,h2,rfl⟩:=hk;{rw[aK h1]};{rw[aJ ae,aK h2]}
 have HG:=jq G0 G2 G3 BB;have hz:U (Q w)+1+1+1<U (Q v2):=ae;clear G0 G2 G3 GV GS BB zz z3 fy hk HJ eA eZ
 go_wp21
 refine leaves_cons (f:=62) (args:=#[Pz (U (Q w)),Pz (U (Q w)+1+1),Pz (U (Q w)+1+1+1)]) ai (by simp[go_sem]) ((ex8 (U (Q w)) k hz (by simp[Value.oneCell']) HG.1 HG.2.1 HG.2.2.1).mono ?_);rintro e u w9⟨rfl,rfl,g2,g3,me⟩;let⟨i0,i1,i2,i3,i4,i5,i6,i7,i8,i9,ia,ib,ic⟩:=g2.gP;let⟨j0,j1,j2,j3,j4,j5,j6,j7⟩:=g3.r8;have B9:=HG.2.2.2.Z me;refine⟨dT #[yw A M X,Ai ⟨dN,0,dN,0,dN,0⟩ (kP k)],by simp[kP,results,results26,go_sem,i0,i1,i2,i3,i4,i5,i6,i7,i8,i9,ia,ib,ic,j0,j1,j2,j3,j4,j5,j6,j7],?_⟩;rw[aa HS];exact⟨A,⟨dN,0,dN,0,dN,0⟩,rfl,(aa HE w9 B9).1,uP.num _ _ _ _ _ _ _,B9⟩};have HS:O (Z=(m.2,X.1++sw X.2.2 iO,m.1,X.2.2+1)):=by
   show _=_;rw[<-aa eZ];unfold mh;have hf:J X.1+J (sw X.2.2 iO)<=4000:=hf;rw[aa eA,aK (aa HJ),aJ ae,aJ ae]
  obtain⟨l',el⟩:∃l',O (X.1++sw X.2.2 iO=l'):=⟨_,cO⟩;rw[aa el]at O3 HS⊢;have HG:=nF G2 G3 GS BB O3;let⟨j0,j1,j2,j3,j4,j5,j6,j7,j8,j9,ja,jb,jc⟩:=G2.gP;have jf:=G2.2;have ss:=aD (GV.1 0 _ rfl) (aD (GV.1 1 _ rfl) (aD (GV.1 2 _ rfl) (aD (GV.1 3 _ rfl) (aD (GV.1 4 _ rfl) (GV.1 5 _ rfl)))));have qz:¬U (Q v1)=U (Q w)+1+1:=ae;have ZZ:=jq zz z3 z2 fy;clear G0 G2 G3 GV GS BB zz z3 z2 fy O3
  go_wp21
  go_name_world Y2 R
  have TT:O (aC7 w M Z Y2):=by
   show aC7 _ _ _ _;rw[aa HS,<-R];have hk:∀b,U (Q w)+1+1≠b->Y2.heap[b]?=v2.heap[b]?:=λb hb=>by
    rw[<-R]
    iterate 19 (refine(fN _ _ _ _ (by dsimp only;omega)).Z ?_)
    rfl
   have hs:U (Q Y2)=U (Q v2):=by rw[<-R];simp
   rw[R];let⟨zz,z3,z2,fy⟩:=aa ZZ;refine⟨⟨P0,f0,P1,f1,P2,f2,p',c',r',d'⟩,⟨q1,e1,q2,e2,q3,e3⟩,?_,HG.2.1.eh (hk _ ae),?_,λu hu hz hb=>?_⟩;{rw[<-R];exact aO.p6 (aO.Xg HG.1)};{
 rw[<-R]
 iterate 19 (refine Below.setCell ?_ (by dsimp only;omega) _)
 exact HG.2.2.2.1};{have k:∀b,U (Q w)+1+1+1<b->b<U (Q v2)->u.heap[b]?=v2.heap[b]?:=λb h1 h2=>(hb b h1 ae).Z (hk b ae);obtain⟨-,-,GS,-,O3⟩:=aa HG;have s':=GS.1.W (w':=u) λa ha=>k a.b (aM (GS.1.2.2.2.2.lo a ha)) (GS.1.2.2.2.2.oy.lt ha);have kO:∀{v:dV}{l:LI},Ow iY v2 v l->Rd u v l:=λo=>(o.hp λb e=>k b (aM (o.lt b e).1) (o.lt b e).2).rd;exact⟨⟨kO O3.o0,kO O3.o1,kO O3.o2,s'.1,s'.2.1⟩,(GS.2.W (λb h1 h2=>k b ae h2) ae).h ae⟩}
  clear R j0 j1 j2 j3 j4 j5 j6 j7 j8 j9 ja jb jc jf ss qz HG ZZ HS HJ HE eA eZ el
 case' neg=>
  have HS:O (Z=(m.2,X.1,m.1,X.2.2)):=by show _=_;rw[<-aa eZ];unfold mh;rw[aa eA,aJ hj]
  have T6:(m.2.k==0)=dF\/((m.2.k==0)/\0<=iO.K/\iO.K<14/\jN iO.K<14/\I V1 (Ad 0 (jN iO.K*7+6))=Y (jO dF)):=by by_cases h0:m.2.k=0;{obtain⟨k,f,ek,k1,k2,-⟩:=Z9 (D:=X.2.1) (iO:=iO) (aa eA▸h0);exact .R ⟨by simp[h0],ae,ae,ae,(((aa HE V1 OE).2.2.2.1 (jN iO.K) ae ae).2.2.2.2.2.2).Z (tg (λb=>Y (Value.bool b)) (show vL (jN iO.K)=dF by simpa[h0]using hj))⟩};{exact .L (by simp[h0])}
  have qz:¬U (Q v1)=U (Q w)+1+1:=aM (aa Oq);have xr:¬U (Q v1)=U (Q w)+1+1+1:=aM (aa Oq);subst ud;clear hj;obtain nL|⟨nL,l1,l2,l3,t6⟩:=T6
  all_goals(
   go_wp21
   go_name_world Y2 R
   have TT:O (aC7 w M Z Y2):=by
    show aC7 _ _ _ _;have hk:∀b,U (Q w)+1+1+1<b->Y2.heap[b]?=(jA v1 (dO #[.U m.1.e,.U m.1.g,.U m.1.x,.I m.1.t,.S p' (J m.1.E) c',.S r' (J m.1.N) d'] 34)).heap[b]?:=λb hb=>by
     rw[<-R]
     iterate 27 (refine(fN _ _ _ _ (by dsimp only;omega)).Z ?_)
     rfl
    have hs:U (Q Y2)=U (Q (jA v1 (dO #[.U m.1.e,.U m.1.g,.U m.1.x,.I m.1.t,.S p' (J m.1.E) c',.S r' (J m.1.N) d'] 34))):=by rw[<-R];simp
    rw[aa HS];have z3:=aa HZ;have fy:=aa Oq;refine⟨⟨A.p0,A.c0,A.p1,A.c1,A.p2,A.c2,p',c',r',d'⟩,⟨q1,e1,q2,e2,q3,e3⟩,?_,?_,?_,λu hu hz hb=>?_⟩;{
 rw[<-R];refine aO.p6 (aO.Xg (aO.eh KH.2.1 ?_))
 iterate 8 (refine(fN _ _ _ _ (by dsimp only;omega)).Z ?_)
 rfl};{
 rw[<-R];refine aO.eh (aO.p8 KH.2.2.1) ?_
 iterate 19 (refine(fN _ _ _ _ (by dsimp only;omega)).Z ?_)
 rfl};{
 rw[<-R]
 iterate 27 (refine Below.setCell ?_ (by dsimp only;omega) _)
 exact OE};{have k:∀b,U (Q w)+1+1+1<b->b<U (Q (jA v1 (dO #[.U m.1.e,.U m.1.g,.U m.1.x,.I m.1.t,.S p' (J m.1.E) c',.S r' (J m.1.N) d'] 34)))->u.heap[b]?=(jA v1 (dO #[.U m.1.e,.U m.1.g,.U m.1.x,.I m.1.t,.S p' (J m.1.E) c',.S r' (J m.1.N) d'] 34)).heap[b]?:=λb h1 h2=>(hb b h1 ae).Z (hk b h1);have GS:=aa KR;have s':=GS.1.W (w':=u) λa ha=>k a.b (aM (GS.1.2.2.2.2.lo a ha)) (GS.1.2.2.2.2.oy.lt ha);have E:=(aa HE u hu).1;exact⟨⟨E.1,E.2.1,E.2.2.1,s'.1,s'.2.1⟩,(GS.2.W (λb h1 h2=>k b ae h2) ae).h ae⟩}
   clear R i0 i1 i2 i3 i4 i5 i6 i7 i8 i9 ia ib ic j0 j1 j2 j3 j4 j5 j6 j7 j8 j9 ja jb jc oo kk jf kf qz xr nL KR KH HS HE OE
   try clear l1 l2 l3 t6)
 all_goals(
  let⟨A9,a9,x1,x2,x3,x4⟩:=aa TT;have K2:=af x1;have K3:=af x2;have KB:=af x3;have KU:=af x4;clear TT x1 x2 x3 x4;have hz9:O (U (Q w)+1+1+1<U (Q Y2)):=nI Y2 (Ad (U (Q w)+1+1+1) 0) (K3.1 0 _ rfl);have bd:Bw Y2 Y2.drew:=aH.drew;refine fK (λv=>SvE v (U (Q w)+1+1) A9 M Z.2/\RpE v (U (Q w)+1+1+1) a9 Z.1) (by exact⟨K2.gP,K3.r8⟩) λhS=>?_;refine gh 0 1 hS ?_;refine Xc 2 3 (vs:=CG A9 M Z.2) (vs':=CL a9 Z.1) (K2.H (aM (aa hz9)) bd) (K3.H hz9 bd) ae ⟨rfl,rfl,by simp[Value.oneCell'],by simp[Value.oneCell']⟩ (λu h1 h2 _=>⟨h1.gP,(h2.elim id id).r8⟩) ?_;intro Y3 y2 y3 hk bl;refine Hf ?_;have HF:=jq y2 y3 hk (bl 0 (cT _) (cT _)).size;have HB:=af ((ah KB bd).Z (bl _ ae ae));clear hS y2 y3 hk bl bd
  go_wp21
  refine leaves_cons (f:=62) (args:=#[Pz (U (Q w)),Pz (U (Q w)+1+1),Pz (U (Q w)+1+1+1)]) ai (by simp[go_sem]) ((ex7 _ _ _ Y3).mono ?_);rintro e u w9⟨rfl,rfl,me⟩;have IJ:U (Q w)+1+1+1<U (Q Y3):=nI Y3 (Ad (U (Q w)+1+1+1) 0) (HF.2.1.1 0 _ rfl);let⟨i0,i1,i2,i3,i4,i5,i6,i7,i8,i9,ia,ib,ic⟩:=(HF.1.H ae me).gP;let⟨j0,j1,j2,j3,j4,j5,j6,j7⟩:=(HF.2.1.H IJ me).r8;have B9:=ah HB me;have zs:U (Q Y2)<=U (Q Y3):=HF.2.2.2;have KF:=aa KU w9 B9 (fx zs me.size) λb h1 h2=>(me.block b ae).Z (HF.2.2.1 b ae ae);exact⟨dT #[yw A9 M Z.2,Ai a9 Z.1],by simp[results,results26,go_sem,i0,i1,i2,i3,i4,i5,i6,i7,i8,i9,ia,ib,ic,j0,j1,j2,j3,j4,j5,j6,j7],A9,a9,rfl,KF.1,KF.2,B9⟩)
variable {v:dV}
theorem Own.T{T:List TypeId}{B:Nat}(h:Own B w v l)(hf:Fr T w w')(ht:5∉T:=by decide):Own B w' v l:=h.hp λb e=>by
 obtain⟨rfl,-⟩|⟨g,cap,cur,rfl,-,hg,-⟩:=h.2;{cases e};{simp only[jB,nJ]at e;subst e;exact(hf.2 _ _ _ _ ht hg).Z hg.C}
theorem lX.T{v:G}(h:lX b w v)(hb:w.heap[b]?=dO cs ty):Fr [ty] w v:=⟨h.1,λy cur Fv m' hn hy=>by
 by_cases e:y=b;{subst e;rw[hb]at hy;cases hy;exact absurd (td.2 rfl) hn};{exact(h.2 y (vU hy) e).Z hy}⟩
theorem TC.off{B:Nat}(h:TC B w v l)(y:∀b,B<=b->b<U (Q w)->w'.heap[b]?=w.heap[b]?):TC B w' v l:=by
 obtain⟨⟨p,c,rfl,j⟩,E,hc⟩:=h;by_cases q:l=[];{exact⟨⟨p,c,rfl,.L q⟩,λb _=>.L q,hc⟩};obtain j|⟨b,o,rfl,j⟩:=j;{exact absurd j q};let⟨u,r,m,s⟩:=(E b rfl).resolve_left q;have e:=y b u (vU s);refine⟨⟨_,c,rfl,.R ⟨b,o,rfl,λi D=>(gF e _).Z (j i D)⟩⟩,λM x=>.R ?_,hc⟩;simp only[jB,nJ]at x;subst x;exact⟨u,r,m,e.Z s⟩
theorem TU.off{B:Nat}(h:TU B w v l)(j:∀b,B<=b->b<U (Q w)->w'.heap[b]?=w.heap[b]?):TU B w' v l:=by
 obtain⟨⟨p,c,rfl,m⟩,u,x,s⟩:=h;have j:∀b,jB (Value.slice p (J l) c)=Y b->w'.heap[b]?=w.heap[b]?:=λb e=>by let⟨q,r⟩:=u b e;exact j b (s b e) (vU r)
 refine⟨⟨p,c,rfl,?_⟩,λb e=>?_,x.W j,s⟩;{obtain m|⟨b,o,rfl,m⟩:=m;{exact .L m};{exact .R ⟨b,o,rfl,λi y=>(gF (j b rfl) _).Z (m i y)⟩}};{let⟨q,r⟩:=u b e;exact⟨q,(j b e).Z r⟩}
theorem ew.off{B:Nat}(h:ew B w v ss Qs)(o:∀b,B<=b->b<U (Q w)->w'.heap[b]?=w.heap[b]?):ew B w' v ss Qs:=
 ⟨h.len,h.row.W (λ_ _ h=>h) λb e=>o b (h.row.lt b e).1 (h.row.lt b e).2,λi s j m hq=>(h.uT i s j m hq).W (λx c k=>k.imp λP k=>⟨k.1,k.2.off o⟩) λb e=>o b ((h.uT i s j m hq).lt b e).1 ((h.uT i s j m hq).lt b e).2,h.nS⟩
theorem kF.off{B:Nat}(h:kF B w v ns)(i:∀b,B<=b->b<U (Q w)->w'.heap[b]?=w.heap[b]?):kF B w' v ns:=
 h.W (λx c⟨P,V,H,iU,e,q,o,m,j⟩=>⟨P,V,H,iU,e,q.off i,o.off i,m.off i,j.off i⟩) λb e=>i b (h.lt b e).1 (h.lt b e).2
def VQ(w:G)(A:Pt)(M:Dm)(X:uq):Prop:=(zJ A.p0 (J X.1) A.c0/\zJ A.p1 (J M.l1) A.c1)/\∀v,Fr [36,43] w v->Jy v A M X
theorem aO6{m B1 B2 B:Nat}{A:Pt}{M:Dm}{X:uq}{j:List dV}(o0:Own m w (.S A.p0 (J X.1) A.c0) X.1)(o1:Own B1 w (.S A.p1 (J M.l1) A.c1) M.l1)(o2:Own B2 w (.S A.p2 (J M.l2) A.c2) M.l2)(s:ew B w (.S A.p (J X.2.1.E) A.c) X.2.1.E j)(n:kF B w (.S A.r (J X.2.1.N) A.d) X.2.1.N):VQ w A M X:=⟨⟨o0.cp,o1.cp⟩,λv i=>⟨(o0.T i).rd,(o1.T i).rd,(o2.T i).rd,(s.T i).dp0,di.Ua (di.T n i)⟩⟩
def CsS(w:G)(M:Dm)(X:uq)(z:Ending)(w':G):Prop:=∃A i,z=dR (yw A M X)/\my (U (Q w)) w' (.S A.p0 (J X.1) A.c0) (.S A.p1 (J M.l1) A.c1) (.S A.p2 (J M.l2) A.c2) X.1 M.l1 M.l2/\ew (U (Q w)) w' (.S A.p (J X.2.1.E) A.c) X.2.1.E i/\kF (U (Q w)) w' (.S A.r (J X.2.1.N) A.d) X.2.1.N/\Bw w w'
theorem dD5{A:Pt}{M:Dm}{X:uq}(h:Jy w A M X)(V:O (VD X.2.1))(m0:J X.1<=200000)(m1:J M.l1<=200000)(m2:J M.l2<=200000):dQ dG 53 #[yw A M X] w (CsS w M X):=by
 obtain⟨W,hW,b1,z1,C1,-⟩:=bM w (CG A M X).toArray 36;let⟨u,fM,b2,z2,y,T2⟩:=bM W zS.toArray 36;go_in
 go_wp21
 rw[<-hW,<-fM];clear hW fM;have bb:=ah b1 b2;rw[z1]at y T2;have HC:=af (λ(v:G)(m:Bw u v)=>(λj=>(⟨⟨j.1 0 _ rfl,j.1 1 _ rfl,j.1 2 _ rfl,j.1 3 _ rfl,j.1 4 _ rfl,j.1 5 _ rfl⟩,j.1 12 _ rfl,j.1 6 _ rfl,j.1 7 _ rfl,j.1 8 _ rfl,j.1 9 _ rfl,j.1 10 _ rfl,j.1 11 _ rfl⟩:LJ v (U (Q w)) (.S A.p0 (J X.1) A.c0) (.I M.n0) (.S A.p1 (J M.l1) A.c1) (.I M.n1) (.S A.p2 (J M.l2) A.c2) (.I M.n2) X.2.2 X.2.1.e X.2.1.g X.2.1.x X.2.1.t (.S A.p (J X.2.1.E) A.c) (.S A.r (J X.2.1.N) A.d))) ((C1.H ae b2).H ae m));have HR:=af (λ(v:G)(m:Bw u v)=>aD (h.H (ah bb m)) (aD (y.H ae m) ((m.block _ ae).Z T2)));have D:=af (aR (U (Q u)) u).drew;clear C1 y T2 h;refine fK (λv=>LJ v (U (Q w)) (.S A.p0 (J X.1) A.c0) (.I M.n0) (.S A.p1 (J M.l1) A.c1) (.I M.n1) (.S A.p2 (J M.l2) A.c2) (.I M.n2) X.2.2 X.2.1.e X.2.1.g X.2.1.x X.2.1.t (.S A.p (J X.2.1.E) A.c) (.S A.r (J X.2.1.N) A.d)) (by exact HC _ D) λhS=>?_;let⟨v,fU⟩:=aF u.drew;rw[<-fU]at D hS⊢;clear fU;refine iL 0 1 3 4 hS ?_;refine gh 6 7 hS ?_;refine ft 2 (λZ hK=>?_);have H:=af (aa HR _ D).1;refine js (ce1 A.p0 A.p1 A.p2 A.c0 A.c1 A.c2 M.n0 M.n1 M.n2 X.1 M.l1 M.l2 v H.1 H.2.1 H.2.2.1 ae ae ae) ?_;rintro z v2⟨P0,C0,P1,C1,P2,y,rfl,o3,ay⟩;refine⟨_,rfl,?_⟩;have N:=af (ah D ay);have O3:=af (o3.h D.size);refine bQ hK (by exact HC _ N) λhS=>?_;clear hK Z ay D H o3;refine ft 5 (λZ hK=>?_);have H:=af (aa HR _ N).1;refine js (aA0 rfl rfl H.2.2.2.1.rd H.2.2.2.2 (aM V.sl) (aM V.nl) (af λs hs=>⟨(V.gy s hs).1,λev he=>((V.gy s hs).2 ev he).2⟩) (af λnd aG=>(V.cW nd aG).2)) ?_;rintro z v4⟨Ps,Cs,Pn,Cn,rfl,⟨iZ,o4⟩,n4,cG⟩;refine⟨_,rfl,?_⟩;have B4:=af (ah N cG);have O4:=dy (O3.H cG) (o4.h (fx bb.size N.size)) (kF.h n4 (fx bb.size N.size));refine bQ hK (by exact HC _ B4) λhS=>?_;clear hK Z cG N H o4 n4 O3;refine tn 8 hS ?_;refine ft 9 (λZ hK=>?_);have ZC:=(aa HR _ B4).2.1;have hT:=(aa HR _ B4).2.2;have nf:=ZC.2;let⟨n0,n1,n2,n3,n4,n5,n6,n7,n8,n9,na,nb,nc⟩:=ZC.gP;go_simp;have EX:=λ(x0 x1 x2 x3 x4 x5 x6 x7 x8 x9 xd xe xf:dV)=>((((((((((((((show lX (U (Q w)+1) v4 v4 from⟨fq _,λ_ _ _=>rfl⟩).set 0 x0).set 1 x1).set 2 x2).set 3 x3).set 4 x4).set 5 x5).set 6 x6).set 7 x7).set 8 x8).set 9 x9).set 10 xd).set 11 xe).set 12 xf);have RR:=af (λ(v:G)(m:lX (U (Q w)+1) v4 v)=>aD (O4.2.1.T (m.T hT)) (di.T O4.2.2 (m.T hT)));refine bQ hK (by exact LJ.ex (aa HC _ B4) (EX _ _ _ _ _ _ _ _ _ _ _ _ _) ae) λhS=>?_;clear hK Z hS hT ZC;refine ga ?_;go_wp2;refine bO (v:=yw ⟨P0,C0,P1,C1,P2,y,Ps,Cs,Pn,Cn⟩ M X) (by simp[results,results53,go_sem,n0,n1,n2,n3,n4,n5,n6,n7,n8,n9,na,nb,nc]) rfl ⟨⟨P0,C0,P1,C1,P2,y,Ps,Cs,Pn,Cn⟩,iZ,rfl,?_,(aa RR _ (EX _ _ _ _ _ _ _ _ _ _ _ _ _)).1,(aa RR _ (EX _ _ _ _ _ _ _ _ _ _ _ _ _)).2,?_⟩;{
 refine my.h (B:=U (Q u)) ?_ ae
 iterate 13 refine my.set ?_ cg _
 exact O4.1};{
 iterate 13 refine kV ?_ ai _
 exact ah bb B4}
abbrev RpF(_:G)(_:Pr)(_:RP):Prop:=True
def LrP(B:Nat)(v:G)(D:SD×RP)(z:Ending)(v':G):Prop:=∃p c q d a i,z=dR (dT #[bS D.1.e D.1.g D.1.x D.1.t (.S p (J D.1.E) c) (.S q (J D.1.N) d),Ai a D.2])/\(ew B v' (.S p (J D.1.E) c) D.1.E i/\kF B v' (.S q (J D.1.N) d) D.1.N)/\RpF v' a D.2/\Fr [114,65,69] v v'/\Below B v v'
theorem eD7(j:VD D){iO:sU}{a:Pq}(g:OG a iO)(W:O (JK iO.K)){B:Nat}{v:G}{iZ:List dV}(h:ew B v (.S p (J D.E) c) D.E iZ)(V:kF B v (.S q (J D.N) d) D.N)(m:Fg v a iO)(X:B<=U (Q v)):Cp 54 #[bS D.e D.g D.x D.t (.S p (J D.E) c) (.S q (J D.N) d),J1 a iO] v (LrP B v (pK D iO)):=by
 refine(cI0 rfl rfl rfl rfl h V m.1 m.2 X (aM j.sl) (aM j.nl) g.p g.v g.c1 g.c2 j.wf g.bp W rfl).h ?_;rintro z v'⟨N,c',u,d',Dv,Nv,Ev,Q',rfl,s,R,r,tn,o,Z,b8⟩;obtain⟨M,ca,rfl⟩:=r.fO;obtain⟨E,cb,rfl,-⟩:=tn.form;obtain⟨y,cc,rfl,-⟩:=o.form;exact⟨N,c',u,d',⟨M,ca,E,cb,y,cc⟩,Q',rfl,⟨s,R⟩,gQ,Z,b8⟩
theorem cf1{K:Int}(j:1<=K)(i:K<=13)(w:G):Cp 56 #[.I K] w λr w'=>r=dR (jO (vL (jN K)))/\w'=w:=by
 obtain⟨k,rfl⟩:∃k:Nat,K=k:=⟨jN K,ae⟩;rw[sC];exact cf0 ae ae
theorem dH2{iO:sU}(h:vL (jN iO.K)):(pK D iO).2.qB=[]/\(pK D iO).2.nms=[]/\(pK D iO).2.pG=[]:=by
 obtain⟨K,S,F,E,i,P,V⟩:=iO;have hK:K=1\/K=3\/K=4\/K=5\/K=7\/K=8\/K=9:=by dsimp only at h;unfold vL rowOf at h;split at h<;>first|omega|(simp at h)
 let⟨A,e⟩:=aZ (lM D K S F E i P V);show(lM D K S F E i P V).2.qB=[]/\(lM D K S F E i P V).2.nms=[]/\(lM D K S F E i P V).2.pG=[];rw[e];unfold lM at e
 iterate 4 (
  all_goals(repeat' split at e)
  all_goals(first|(exfalso;omega)|(subst e;exact⟨rfl,rfl,rfl⟩)|unfold xJ at e|unfold CM at e|unfold DL at e|unfold Db at e|unfold yF at e))
end Go.Proofs.YtpkakgkipopiaaaGreatDoor
