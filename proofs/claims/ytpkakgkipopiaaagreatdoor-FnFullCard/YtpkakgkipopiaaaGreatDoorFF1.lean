import Derived.Test.YtpkakgkipopiaaaGreatDoorK12
open Array renaming size->U
open Bool renaming false->dF,true->dY
open Decidable renaming decide->dD
open Go renaming Calls->dQ,Value->dV,World->G
open Go.Obj renaming cells->dO
open Go.Proofs.Tryz renaming prog->dG
open Go.RowKit renaming Hid->O
open Go.Value renaming ownBlock->jB,int->jK,bool->jO
open Go.World renaming alloc->jA,heap->Q
open Int renaming toNat->jN
open List renaming length->J
open Option renaming none->dN,some->Y
namespace Go.Proofs.YtpkakgkipopiaaaGreatDoor
set_option maxHeartbeats 12800000
set_option linter.all false
set_option maxRecDepth 100000
open Go.ChangeShapes Go.WideShapes Go.ChangeAt Go.RowKit Go.Proofs.Tryz
theorem dC5(p:OA)(c n:Nat)(code:LI)(en:Le code n)(w:G)(h:Rd w (.S p n c) code)(hb:O (aA code))(hn:Mg n)(hM:ML w)(hT:qP w)(hE:Wo w):dQ dG 3 #[.S p n c] w (Rb (jO dY) w):=by
 have tX:¬(1048576:Int)<(n:Int):=ae;obtain⟨m,em⟩:∃m:Nat,(n:Int) % 21=(m:Int):=⟨n % 21,ai⟩;have hm:m<=20:=ae;have HC:=af (λ(v:G)(N:Bw w v)=>h.H N);have HW:=af (λ(v:G)(N:Bw w v)=>aD (hM.H N) (aD (show qP v fromλk i1 i2=>(hT k i1 i2).H N) (show Wo v from aj hE N)));clear h hM hT hE;go_in
 go_wp21
 go_loopw[4,5](λlv iv wr=>∃(k:Nat)(pl:OA)(cl:Nat)(l:LI),k<=20+m/\iv=.I k/\lv=.S pl k cl/\J l=k/\O (aA l)/\Ow w wr (.S pl k cl) l/\Bw w wr) (λ_ iv _=>20+m-(jN (intOf iv)))
 exact⟨0,dN,0,[],cT _,rfl,rfl,rfl,(λz W=>by cases W),nK _ _ _ _,aR _ _⟩;{
 obtain⟨k,pl,cl,l,hk,rfl,rfl,hl,yl,ho,aB⟩:=hrel;by_cases aL:k<20+m;{
 go_wp21
 refine(da1 p c n k ae code en _ (aa HC _ aB) hb hn).h ?_;rintro e w1⟨y,hy,rfl,Z⟩;have o1:=ho.H Z;have b1:=ah aB Z;let⟨lm,Lo⟩:=aF (l++[y]);have vf:J lm=k+1:=by simp[Lo,hl]
 have ylm:O (aA lm):=by show aA _;rw[Lo];intro z W;obtain W|W:=jg.1 W;{exact yl z W};{rw[td.1 W];exact hy}
 have lK:=af Lo;have Ta:=af vf;clear ho aB Z Lo yl vf;go_wp2_with(at_builtin;refine OQ rfl rfl (.S pl k cl) lK (U (Q w1)) rfl rfl (Own.H o1 (aH.alloc az _)) ai ae (by have:=b1.size;simp;omega) ?_);intro p' c' D km dz;have b2:Bw w D:=(b1.alloc b1.size (dO #[jK .u8 y] 5)).grown dz (by have:=b1.size;simp;omega) (λk hk=>(o1.lt k hk).1);simp only[aa Ta];have Qq:Ow w D (.S p' (k+1) c') lm:=by have h2:=km;simp only[aa Ta]at h2;exact h2
 clear km dz o1 b1 hl lK hy;go_wp2;go_roundw;exact⟨k+1,p',c',lm,ae,by first|rfl|go_num,rfl,Ta,ylm,Qq,b2⟩;exact dh};{
 obtain rfl:k=20+m:=ae;obtain⟨wA,rfl⟩:=aF wr;have hcv:=λ(x:G)=>Lib.run_convert_bytes_const (P:=dG) x 22 5 #[jK .u8 47,jK .u8 97] 2 2 underlying22 underlying5;simp only[show(#[Value.int .u8 47,Value.int .u8 97]:iA).size=2 from rfl]at hcv;let⟨X,hX⟩:=aF (jA wA (dO #[jK .u8 47,jK .u8 97] 5 (2,2+1)));have rX:=bK2 hX;have bX:Bw w X:=ah aB (hX▸aH.alloc az _);have zX:U (Q X)=U (Q wA)+1:=by rw[hX];simp
 have hV:J l<=40:=ae;have Vc:20<=J l:=ae;obtain⟨V,hd⟩:=er5;have hD:=af hd;obtain⟨X2,hX2,b2,z2,C2,-⟩:=bM X #[.I 7,.U 1,.T (U (Q wA)) 2 2,.I 0,.S pl (20+m) cl,.U 0,.U 0] 26;have K2:O (aO X2 (U (Q X)) (Im ⟨Y (Aw wA 0),2,pl,cl⟩ (fQ l 2))):=by show aO _ _ [_,_,_,_,.S pl (J l) cl,_,_];rw[hl];exact C2
 have R2:=br (rX.H b2) (show Rd X2 (.S pl (J l) cl) l by rw[hl];exact(ho.rd.H (ah (hX▸aH.alloc az _) b2)));have B2:=af (ah bX b2);have RB:=af (λ(b:Nat)(e:jB (Value.slice pl (J l) cl)=Y b)=>(ho.lt b (by rw[hl]at e;exact e)).2);clear ho hd rX bX b2 C2 aB
 go_wp21
 rw[<-hX,<-hX2];clear hX hX2;refine(de3 V hD X2).h ?_;rintro z w1 h1;obtain⟨A,rfl,SP1,Z⟩:=h1.sp l;clear h1;let⟨X3,hX3,b3,z3,C3,T3⟩:=bM w1 (tL A (fD l 0) (fS l 0).s 0).toArray 36;have B3:=af (ah B2 (ah Z b3));have B23:=af (ah Z b3);have K3:=dy C3 T3 (SP1.H b3);have Wv:=Z.size;clear SP1 Z b3 C3 T3
 go_wp21
 rw[<-hX3];clear hX3;rw[zX]at K2;have K2w:=af B23;refine(dI5 (B:=0) dN dN dN 0 0 0 DK 0 5 X3 ⟨Own.nil 0 _,Own.nil 0 _,Own.nil 0 _,(λb e=>by cases e),(λb e=>by cases e),(λb e=>by cases e)⟩ (show 0<=2^20 by omega) (af λz W=>by cases W) (af λz W=>by cases W) (aa HW X3 B3).1 (aa HW X3 B3).2.1 V hD dY rfl (fD l 0,(fS l 0).s,0,0) (dd3 V l)).h ?_;rintro z D⟨p0,c0,p1,c1,p2,c2,p3,c3,p4,c4,rfl,⟨M,A1,A2,o2⟩,ay⟩;dsimp only at o2⊢;let⟨X4,hX4,b4,z4,C4,T4⟩:=bM D (tL ⟨p0,c0,p1,c1,p2,c2,p3,c3,p4,c4⟩ (fD l 0) (fS l 0).s 0).toArray 36;have B34:=af (ah ay b4);have K4:=dy C4 T4 ((vm.si (B':=0) o2).H b4);have zw2:=ay.size;have xv:=hcv X4;rw[z4]at xv;clear o2 ay b4 C4 T4 K2w hcv
 go_wp21
 rw[<-hX4];clear hX4;let⟨X5,Y6⟩:=aF (jA X4 (dO #[jK .u8 47,jK .u8 97] 5 (2,2+1)));have r5:=bK2 Y6;have b5:=ij Y6;have z5:U (Q X5)=U (Q X4)+1:=by rw[Y6];simp
 rw[z4]at r5 z5;obtain⟨X6,hX6,b6,z6,C6,-⟩:=bM X5 #[.I 1,.U 0,aq,.I 0,aq,.U 0,.U 0,.I 4,.U 1,.T (U (Q D)+1) 2 2,.I 0,aq,.U 0,.U 0] 26;rw[z5]at C6
 go_wp21
 rw[<-Y6];rw[<-hX6];clear Y6 hX6 xv;have fw:=B2.size;have zz:U (Q wA)+1<U (Q w1)/\U (Q w1)<U (Q D)/\U (Q X6)=U (Q D)+1+1+1/\U (Q w)<=U (Q w1):=ae;have B46:=ah b5 b6;have Wt:=ah B34 B46;have B26:=ah B23 Wt;have HS:O (∀u:G,(∀b,b<U (Q X6)->b≠U (Q w1)->b≠U (Q D)->u.heap[b]?=X6.heap[b]?)->(aO u (U (Q wA)+1) (Im ⟨Y (Aw wA 0),2,pl,cl⟩ (fQ l 2))/\Fg u ⟨Y (Aw wA 0),2,pl,cl⟩ (fQ l 2))/\aO u (U (Q D)+1+1) [.I 1,.U 0,aq,.I 0,aq,.U 0,.U 0,.I 4,.U 1,.T (U (Q D)+1) 2 2,.I 0,aq,.U 0,.U 0]/\Rd u (.T (U (Q D)+1) 2 2) [47,97]):=λu hu=>by refine⟨⟨(K2.H ae B26).eh (hu _ ae ae ae),(R2.1.H B26).hp λb e=>?_,(R2.2.H B26).hp λb e=>?_⟩,C6.eh (hu _ ae ae ae),(r5.H b6).hp λb e=>?_⟩;{cases e;exact hu (U (Q wA)) ae ae ae};{have:=aa RB b e;exact hu b ae ae ae};{cases e;exact hu (U (Q D)+1) ae ae ae}
 have H0:O (FI w X6 (U (Q w1)) (U (Q D)) l X6 A ⟨p0,c0,p1,c1,p2,c2,p3,c3,p4,c4⟩ 0):=⟨⟨fq _,λ_ _ _ _=>rfl⟩,⟨K3.1.H ae Wt,_,(Wt.block _ ae).Z K3.2.1⟩,⟨K4.1.H ae B46,_,(B46.block _ ae).Z K4.2.1⟩,K3.2.2.H Wt,K4.2.2.H B46,ah B3 Wt⟩;have ZZ:=af zz;clear K2 R2 K3 K4 r5 b5 b6 C6 B46 Wt B26 RB B2 B3 B23 B34 Wv zw2 z2 z3 z4 z5 z6 zz fw
 go_loopw[12](λiv u=>∃(i:Nat)(A j:Pt),iv=.I i/\i<=99/\O (J (fL l i)<=4000)/\O (FI w X6 (U (Q w1)) (U (Q D)) l u A j i)) (λiv _=>120-(jN (intOf iv)))
 exact⟨0,A,⟨p0,c0,p1,c1,p2,c2,p3,c3,p4,c4⟩,rfl,ae,(show 0<=4000 by omega),H0⟩;{
 obtain⟨i,A,j,rfl,hi,HL,HF⟩:=hrel;have fk0:i<=98:=eg5 Vc hV HL;obtain⟨kO,-⟩:=(aa HS wr HF.1.2).1;have oo:=kO.o7;obtain⟨iU,hU,bU,zU,CU,-⟩:=bM wr (Im ⟨Y (Aw wA 0),2,pl,cl⟩ (fQ l 2)).toArray 26
 go_upto_region 19 with fail
 rw[<-hU];clear hU oo kO;have Tg:=af CU;have bUh:=af bU;clear CU bU
 go_cut[68](λv wc=>v=jO (dD ((i:Int)<2))/\wc=iU)
 case first=>(
 go_wp21
 go_meet;exact⟨rfl,rfl⟩)
 obtain⟨rfl,rfl⟩:=hcut
 apply_assumption
 go_cut[69](λ_ wc=>∃a,aO wc (U (Q wr)) (Im a (fQ l i))/\Fg wc a (fQ l i)/\((fQ l i).P.length<=a.c/\a.c<=maxLen)/\Bw wr wc)
 case first=>(
 have S:=aa HS wc λb h1 h2 h3=>(bUh.block b (aM HF.1.1)).Z (HF.1.2 b h1 h2 h3);have S0:=aa HS wr HF.1.2;have ff:=S.2.1;by_cases h2:i<2;{
 obtain rfl|rfl:=(by omega:i=0\/i=1);{
 let⟨j0,j1,j2,j3,j4,j5,j6⟩:=Hg ff.1;let⟨k0,k1,k2,k3,k4,k5,k6⟩:=Hg Tg.1;have cf:=Tg.2
 go_wp21
 go_meet;have bb:=λ(x0 x1 x2 x3 x4 x5 x6:dV)=>((((((bUh.setCell az x0 (p:=(Aw wr 0))).setCell az x1 (p:=(Aw wr 1))).setCell az x2 (p:=(Aw wr 2))).setCell az x3 (p:=(Aw wr 3))).setCell az x4 (p:=(Aw wr 4))).setCell az x5 (p:=(Aw wr 5))).setCell az x6 (p:=(Aw wr 6));exact⟨⟨dN,0,dN,0⟩,aO.p7 Tg,⟨Rd.nil _,Rd.nil _⟩,⟨fq 0,by show 0<=maxLen;decide⟩,bb _ _ _ _ _ _ _⟩};{
 have j0:=ff.1 7 _ rfl;have j1:=ff.1 8 _ rfl;have j2:=ff.1 9 _ rfl;have j3:=ff.1 10 _ rfl;have j4:=ff.1 11 _ rfl;have j5:=ff.1 12 _ rfl;have j6:=ff.1 13 _ rfl;let⟨k0,k1,k2,k3,k4,k5,k6⟩:=Hg Tg.1;have cf:=Tg.2
 go_wp21
 go_meet;have bb:=λ(x0 x1 x2 x3 x4 x5 x6:dV)=>((((((bUh.setCell az x0 (p:=(Aw wr 0))).setCell az x1 (p:=(Aw wr 1))).setCell az x2 (p:=(Aw wr 2))).setCell az x3 (p:=(Aw wr 3))).setCell az x4 (p:=(Aw wr 4))).setCell az x5 (p:=(Aw wr 5))).setCell az x6 (p:=(Aw wr 6));exact⟨⟨Y (Ax D 0),2,dN,0⟩,aO.p7 Tg,⟨S0.2.2.H (bb _ _ _ _ _ _ _),Rd.nil _⟩,⟨fq 2,by show 2<=maxLen;decide⟩,bb _ _ _ _ _ _ _⟩}};{
 have Zx:¬(i:Int)<2:=ae;obtain⟨k,rfl⟩:∃k,i=k+2:=⟨i-2,ae⟩
 go_wp21
 go_meet;exact⟨_,Tg,S.1.2,⟨(by show 2<=2;omega),(by show 2<=maxLen;decide)⟩,bUh⟩})
 case rest=>(
 obtain⟨a,kO,rO,hc,bC⟩:=hcut;have BC:=af bC;have zr:U (Q X6)<=U (Q wr):=HF.1.1;have zc:U (Q wr)<U (Q wc):=nI wc (Aw wr 0) (kO.1 0 _ rfl);have HI:=af (λ(v:G)(N:Bw wr v)=>aD (HF.2.1.1.H (aM (aa ZZ)) N) (aD (HF.2.2.1.1.H (aM (aa ZZ)) N) (aD (HF.2.2.2.1.H N) (aD (HF.2.2.2.2.1.H N) (ah HF.2.2.2.2.2 N)))));have HO:=af (λ(v:G)(N:Bw wc v)=>aD (kO.H zc N) (aD (rO.H N) (ah bC N)));have hOG:=af (fOG yl hV i hc);have hP:=af (ef5 hD yl hV (by omega:i<=1000) HL);have Nc:=af (SD.sg (Bh yl i)).1;have cW:=af (cx6 yl hV i);have hlen:=fHl HL;obtain⟨⟨E,S',q',R⟩,eT⟩:∃T,O (T=JW (fD l i) (fS l i).s i (fQ l i)):=⟨_,rfl⟩;let⟨i0,i1,i2,i3,i4,i5,i6,i7,i8,i9,ia,ib,ic⟩:=(aa HI wc bC).1.gP;have oo:=kO.o7;clear kO rO bC
 go_wp21
 clear i0 i1 i2 i3 i4 i5 i6 i7 i8 i9 ia ib ic oo;refine(de2 (B:=0) A.p0 A.p1 A.p2 A.p A.r A.c0 A.c1 A.c2 A.c A.d (fD l i) (fS l i).s i a (fQ l i) wc (Oe.si (aa HI wc BC).2.2.1 (ef9 l hV i)) (aa HO wc aH).2.1 hlen Nc hOG cW bo6 V hD _ eT hP (Vo l i)).h ?_;rintro z v1⟨B,ar,rfl,cpB,rzB,Z⟩;dsimp only at cpB rzB⊢;let⟨V1,ud,bv1,zv1,CV1,TV1⟩:=bM v1 (tL B E S' q').toArray 36;let⟨V2,Va,bv2,zv2,Tf,TV2⟩:=bM V1 (CL ar R).toArray 43;rw[zv1]at Tf TV2;have DQ:=ah bv1 bv2;have qE:=af (ah Z DQ);have eX0:=af DQ;have B1:=af Z;have fy:=Z.size;have J2:=br (CV1.H ae bv2) Tf;have HRZ:=af rzB;let⟨i0,i1,i2,i3,i4,i5,i6,i7,i8,i9,ia,ib,ic⟩:=(aa HI V2 (ah BC qE)).2.1.gP;have oo:=(aa HO V2 qE).1.o7;rw[Va,ud]at i0 i1 i2 i3 i4 i5 i6 i7 i8 i9 ia ib ic oo;clear CV1 Tf TV1 TV2 Z bv1 bv2 DQ rzB
 go_wp21
 rw[<-ud,<-Va];clear ud Va i0 i1 i2 i3 i4 i5 i6 i7 i8 i9 ia ib ic oo;have H2:=af (aa HI V2 (ah BC qE));have Tt:=aa HW V2 H2.2.2.2.2;refine(cf9 (B:=0) j.p0 j.p1 j.p2 j.p j.r j.c0 j.c1 j.c2 j.c j.d (fD l i) (fS l i).s i a (fQ l i) V2 H2.2.2.2.1 (aa HO V2 qE).2.1 hlen Nc hOG cW bo6 Tt.1 Tt.2.1 Tt.2.2 V hD _ eT hP (Vo l i)).h ?_;clear Tt H2;rintro z v3⟨q0,d0,q1,d1,q2,d2,q3,d3,q4,d4,aS,B6,w7,rfl,⟨-,y2,-⟩,-,-,⟨M',D1,D2,o6⟩,aE⟩;dsimp only at o6⊢;let⟨V3,KQ,bv3,zv3,CV3,TV3⟩:=bM v3 (tL ⟨q0,d0,q1,d1,q2,d2,q3,d3,q4,d4⟩ E S' q').toArray 36;let⟨V4,Y8,bv4,zv4,CV4,TV4⟩:=bM V3 (CL aS R).toArray 43;rw[zv3]at CV4 TV4;have b34:=ah bv3 bv4;have B24:=af (ah aE b34);have IJ:=aE.size;have Y2:=af y2;have Wr:=af (ah qE B24);have B14:=af (ah eX0 B24);have J4:=dy (CV3.H ae bv4) CV4 (o6.H b34);have J24:=br (J2.1.H ae (aa B24)) (J2.2.H ae (aa B24));let⟨j0,j1,j2,j3,j4,j5,j6,j7⟩:=J24.2.r8;rw[Y8,KQ]at j0 j1 j2 j3 j4 j5 j6 j7;have zz:=aD zv1 (aD zv2 (aD zv3 zv4));clear CV3 CV4 TV3 TV4 aE bv3 bv4 b34 o6 J2 y2;by_cases U3:J (fL l i)+J (sw i (fQ l i))<=4000;{
 have eE:=af (eT.Z (fSb hV ae U3));have nL:R.k=0:=(tg (λt:Of=>t.2.2.2.k) eE).Z (ZD l hV i);have hk:(R.k==11)=dF:=by rw[nL];rfl
 clear eT nL
 go_upto_region 31 with fail
 rw[<-KQ,<-Y8];clear KQ Y8 j0 j1 j2 j3 j4 j5 j6 j7 hk;have H4:=af (aa HI V4 (ah BC Wr));let⟨n0,n1,n2,n3,n4,n5,n6,n7,n8,n9,na,nb,nc⟩:=J24.1.gP;have m0:=J4.1.gP;have s0:=H4.1.gP;have t0:=H4.2.1.gP;have nf:=H4.1.2;have mf:=H4.2.1.2;have aN:U (Q w1)<U (Q D):=ZZ.2.1;have hn3:U (Q D)<U (Q v3):=by have:=aa ZZ;have:=BC.size;omega
 go_wp21
 go_roundw
 case rel=>(
 have e:=aa eE;simp only[jk]at e;obtain⟨rfl,rfl,rfl,-⟩:=e;have z:=aa ZZ;exact⟨i+1,ae,ae,(show J (fL l (i+1))<=4000 by rw[ay0,eG];exact U3),B,⟨q0,d0,q1,d1,q2,d2,q3,d3,q4,d4⟩,FI.next HF ae ⟨ae,ae⟩ ⟨ae,ae⟩ (ah (aa BC) B1) B14 cpB HRZ (fx zr (fx (fx BC.size qE.size) Y2)) J4.2.2 rfl rfl⟩)
 case measure=>simp[intOf];omega}
 {
 have eE:=af (eT.Z (fSf hV ae ae));have nL:R.k=11:=tg (λt:Of=>t.2.2.2.k) eE;have hk:(R.k==11):=by rw[nL];rfl
 clear nL
 go_upto_region 26 with fail
 rw[<-KQ,<-Y8];clear KQ Y8 j0 j1 j2 j3 j4 j5 j6 j7 hk;have e:=aa eE;simp only[jk]at e;obtain⟨rfl,rfl,rfl,-⟩:=e;have H4:=af (aa HI V4 (ah BC Wr));have m0:=J4.1.gP;have t0:=H4.2.1.gP
 go_wp21
 clear m0 t0;have O4:=af J4.2.2;have I4:=af H4.2.2.2.1;refine cK (di2 (fS l i) q3 j.p d3 j.c _ q4 j.r d4 j.d _ rfl rfl V4 O4.2.2.2.1.rd O4.2.2.2.2.1 I4.2.1.rd I4.2.2 Nc.n Nc.m Nc.bs Nc.bn) λv5 cR=>?_;have B5:=af cR;have H5:=af (aa HI v5 (ah BC (ah Wr cR)));have m0:=(J4.1.H ae cR).gP;have t0:=H5.2.1.gP;clear cR
 go_wp21
 clear m0 t0;refine(di4 q0 j.p0 d0 j.c0 (fD l i).l0 v5 (O4.1.o0.rd.H B5) (H5.2.2.2.1.1.1.rd) (by have:=aa HL;show J (fL l i)<=_;omega)).h ?_;rintro z v6⟨rfl,gj⟩;have B6':=af (ah Wr (ah B5 gj));have H6:=af (aa HI v6 (ah BC B6'));have t0:=H6.2.1.gP;clear gj H4 H5 O4 I4
 go_wp21
 clear t0;have w6:=aa HW v6 H6.2.2.2.2;refine(dI6 (B:=0) (h:=H6.2.2.2.1) hlen Nc cW bo6 w6.1 w6.2.1 V hD (fE l i,(fS l i).s,(i:Int),0) (eT:=af rfl) hP).h ?_;clear w6;rintro z v7⟨g0,k0,g1,k1,g2,k2,g3,k3,g4,k4,rfl,⟨M7,D3,D4,o7⟩,Ci⟩;dsimp only at o7⊢;obtain⟨V7,hV7,bv7,zv7,CV7,-⟩:=bM v7 (tL ⟨g0,k0,g1,k1,g2,k2,g3,k3,g4,k4⟩ (fE l i) (fS l i).s i).toArray 36;have B7:=af (ah B6' (ah Ci bv7));have O7:=af (o7.H bv7);have oo:=(aa HO V7 B7).1.o7;have c7:=CV7.gP;rw[hV7]at oo;clear o7 Ci bv7 c7
 go_wp21
 rw[<-hV7];clear hV7 oo;let⟨T,Cu,yK,lI,rM⟩:=eh0 hV (by omega:i<=1000);obtain⟨E2,S2,q2',R2⟩:=T;dsimp only at yK lI rM;have w7':=aa HW V7 (aa HI V7 (ah BC B7)).2.2.2.2;refine(cf9 (B:=0) g0 g1 g2 g3 g4 k0 k1 k2 k3 k4 (fE l i) (fS l i).s i a (fQ l i) V7 O7.si (aa HO V7 B7).2.1 (ef2 yl i) Nc hOG (af λz W=>by cases W) (ef3 yl i) w7'.1 w7'.2.1 w7'.2.2 V hD (E2,S2,q2',R2) Cu (ef4 hD yl ae) (Vo l i)).h ?_;clear w7' Cu;rintro z v8⟨g5,k5,g6,k6,g7,k7,g8,k8,g9,k9,aT,B8,w8,rfl,-,-,-,-,Gv⟩;dsimp only;obtain⟨V8,hV8,bv8,zv8,CV8,-⟩:=bM v8 (tL ⟨g5,k5,g6,k6,g7,k7,g8,k8,g9,k9⟩ E2 S2 q2').toArray 36;obtain⟨V9,hV9,bv9,zv9,CV9,-⟩:=bM V8 (CL aT R2).toArray 43;rw[zv8]at CV9;have H9:=aa HI V9 (ah BC (ah B7 (ah Gv (ah bv8 bv9))));have bb:=af H9.2.2.2.2;have J9:=dy (CV8.H ae bv9) CV9 H9.2.1;have e1:(R2.k==0):=by rw[lI];rfl
 have e3:=af rM;have HQ:=af yK;clear H9 lI yK rM Gv bv8 bv9 CV8 CV9
 go_upto_region 30 with fail
 rw[<-hV8,<-hV9];clear hV8 hV9;have yK:q2'=(i:Int)+1:=aa HQ;have m0:=J9.1.gP;let⟨n0,n1,n2,n3,n4,n5,n6,n7⟩:=J9.2.1.r8;have t0:=J9.2.2.gP;go_wp2;go_ret;refine⟨(tg (λb=>Ending.returned (Value.bool b)) (Df e3):Ending.returned (jO (dD (0<J E2.l0)))=Ending.returned (jO dY)),?_⟩;exact bb})}}}
end Go.Proofs.YtpkakgkipopiaaaGreatDoor
