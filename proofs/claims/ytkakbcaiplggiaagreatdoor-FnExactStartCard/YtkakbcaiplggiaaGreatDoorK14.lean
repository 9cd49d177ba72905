import Derived.Test.YtkakbcaiplggiaaGreatDoorK13
namespace Go.Proofs.YtkakbcaiplggiaaGreatDoor
set_option maxHeartbeats 25600000
set_option linter.all false
set_option maxRecDepth 100000
open Go.ChangeShapes Go.WideShapes Go.ChangeAt Go.RowKit Go.Proofs.Tryz
variable {B N NE R b bn bs cp cv i k np nv:Nat}{C K e f g s t x:Int}{D:SD}{LE P V l m m' m1 m2 m3 m4 m5:LI}{nd nd':aC}{ns:List aC}{om:Option LI}{p pp pq:OA}{sh sh' t' t1 t2 t3 t4 t5:Bool}{ss:List aP}{v v0 v1 v2 v3 v4 v5 v6:Value}
def Xt{c n:Nat}{l:List aC}(en:Hid (l.length=n)){w:World}(h:oU w (.S p n c) l)(hn:n<=900)(hu:Hid (Vd ss l))(eN:Hid ((uk oO l).length=N))(hN:N<=4194304):Calls prog 169 #[.S p n c,.func (.func 170) #[] #[]] w λe w'=>∃p' c',e=.returned (.S p' N c')/\Own w.heap.size w' (.S p' N c') (uk oO l)/\Bw w w':=by
 obtain⟨ib,hib,qc,iU,jU⟩:=gh Tryz.infoSl;have HR:=af λ(w':World)(hb:Bw w w')=>h.below hb;clear h;have wn:IntKind.u64.wrap (n:Int)=(n:Int):=by rw[jj];omega
 go_in
 go_wp2_with fail;refine(jd ae).mono ?_;rintro r w1⟨p1,c1,rfl,o1,b1⟩;obtain⟨Ls0,hP⟩:=rF.one o1 b1.size;obtain⟨v0,mL⟩:=az (w1.alloc (.cells #[.S p1 (vi n).length c1] 22));have hb0:Bw w v0:=mL▸b1.alloc b1.size _;rw[<-mL]at hP;have HP:=af hP;clear hP o1;generalize(vi n).length=M at*;go_wp2;rw[<-mL];clear mL b1
 go_loopw[5,15](λpv iv wr=>∃(k:Nat)(p2:OA)(c2:Nat)(Ls:List (List Lf)),k<=n/\pv=.S p2 (k+1) c2/\iv=.I k/\Hid (rF w.heap.size wr (.S p2 (k+1) c2) (vi n::(l.take k).map oO) Ls)/\Bw w wr) (λ_ iv _=>n-(intOf iv).toNat)
 exact⟨0,_,_,_,fN _,rfl,rfl,HP,hb0⟩;{
 obtain⟨k,p2,c2,Ls,hk,rfl,rfl,ho,aK⟩:=hrel;by_cases aT:k<n;{
 have bu:=aS k n;have fh:k<l.length:=aa en▸aT;obtain⟨nd,hy⟩:=mR fh;have hi:=hu.d nd (aY hy);have hlen:=(Mh hu.w nd (aY hy)).1;obtain⟨b,o,rfl,PP,PV,PH,PU,YT⟩:∃b o,p=some (Ad b o)/\∃P V H U,rG wr b (o+k*8) nd P V H U:=by obtain⟨p',c',ev,hd⟩:=aa HR _ aK;obtain⟨rfl,-,-⟩:=js ev;rcases hd with h0|⟨b,o,h1,h2⟩;{rw[h0]at fh;simp at fh};{exact⟨b,o,h1,h2 k _ hy⟩}
 obtain⟨pA,cA,nA,rfl,eA⟩:=YT.r0.iK;obtain⟨pB,cB,nB,rfl,eB⟩:=YT.r1.iK;obtain⟨pD,cD,nD,rfl,eD⟩:=YT.r4.iK;obtain⟨pU,cU,nU,rfl,-⟩:=YT.r7.iK;obtain⟨wF,iW,ku,Ho,Og,Dz,yh,hc7,q0,q1,q4,-,-⟩:=YT;have QQ:=af (ah q0 (ah q1 q4));obtain⟨⟨j1,j2,j3⟩,j4,j5,j6,j7,j8⟩:=hi;rw[aa eA]at j1;rw[aa eB]at j2;rw[aa eD]at j3;have J8:=af j8;obtain⟨ow,Y9⟩:∃v:Nat,nd.owner=(v:Int):=⟨nd.owner.toNat,ae⟩;obtain⟨ep,eep⟩:∃v:Nat,nd.aJ=(v:Int):=⟨nd.aJ.toNat,ae⟩;obtain⟨ge,ege⟩:∃v:Nat,nd.gen=(v:Int):=⟨nd.gen.toNat,ae⟩;obtain⟨mo,emo⟩:∃v:Int,nd.mode=v:=⟨_,rfl⟩;rw[Y9]at ku j5;rw[eep]at Dz j6;rw[ege]at yh j7;rw[emo]at Ho j4;obtain⟨M3,eM3⟩:∃M,Hid ((oO nd).length=M):=⟨_,bq⟩;have eNB:Hid (oO nd=YL nd.path nd.value ow mo nd.holders ep ge):=by show _=_;rw[oO,Y9,eep,ege,emo];rfl
 have cC0:Hid ((YL nd.path nd.value ow mo nd.holders ep ge).length=M3):=by show _=_;rw[<-aa eNB];exact aa eM3
 rw[aa eM3]at hlen;clear q0 q1 q4 j8 Y9 eep ege emo;have HY:=af hy;clear fh hy;have wk:IntKind.i64.wrap ((k:Int)+1)=((k+1:Nat):Int):=by rw[jL _ ae];omega
 go_wp2_with fail;obtain⟨X,hX⟩:=az (wr.alloc (.cells #[.S pA nA cA,.S pB nB cB,.U ow,.I mo,.S pD nD cD,.U ep,.U ge,.S pU nU cU] 119));have MT:=ew hX;have mV:=af (ho.below yw.keep MT);have am4:=aj aK MT;rw[<-hX];refine(Md eA eB eD (QQ.1.below MT) (QQ.2.1.below MT) (QQ.2.2.below MT) ae ae ae J8 ae ae ae j4 cC0 ae).mono ?_;clear hX ho aK MT;rintro r w3⟨p3,c3,rfl,o3,aL⟩;rw[<-aa eNB]at o3;have b3:=aj am4 aL;have hA:Bw w3 (w3.alloc (.cells #[.S p3 M3 c3] 22)):=au.alloc ao _;have OZ:=mV.below yw.keep (aj aL hA);have Hl:=mV.lt;obtain⟨lb,q1,q2,-,q4⟩:=BI (kd:=.u8) (Own.below o3 hA);have elz:yw (w3.alloc (.cells #[.S p3 M3 c3] 22)) (oO nd) [.S p3 M3 c3] lb:=by have z1:=(Own.below o3 hA).rd;have z2:=q1;rw[<-aa eM3]at z1 z2⊢;exact⟨p3,c3,rfl,z1,z2⟩
 obtain⟨cs,g1,g2,g3,g4,g5,g6,g7⟩:=id OZ;have nE:(vi n::(l.take k).map oO).length=k+1:=by rw[iT,dZ,od,aa en];omega
 rw[nE]at g4;have z3:=aL.size;have zr:=am4.size;have EL:=af elz;have Q2:=af q2;have GG:=af (ah g1 (ah g2 (ah g3 (ah g5 (ah g6 g7)))));have NQ:=af Hl;have LX:=af nE;clear wF iW ku Ho Og Dz yh hc7 o3 OZ q1 q2 q4 elz g1 g2 g3 g5 g6 g7 Hl nE mV;have hcZ:∀j u,[Value.slice p3 M3 c3][j]?=some u->(w3.alloc (.cells #[.S p3 M3 c3] 22)).cell? (Ad w3.heap.size j)=some u:=λj u hu=>by have:=(al.alloc w3 #[.S p3 M3 c3] 22).1 j u (by simpa using hu);exact this
 go_wp2_with(at_builtin;refine cK rfl 76 rfl ib 1 underlying76 hib qc iU jU rfl aZ (.S p2 (k+1) c2) rfl g4 w3.heap.size 1 1 [.S p3 M3 c3] rfl rfl hcZ (λu hu=>by simp at hu;subst hu;rfl) iF ae aU ?_);intro v' w9 du hg mX;obtain⟨p9,c9,rfl⟩:∃p9 c9,v'=.S p9 (k+1+1) c9:=by rcases du.2 with⟨rfl,h0⟩|⟨g,cap,cur,rfl,-⟩;{omega};{exact⟨_,_,rfl⟩}
 obtain⟨g1,g2,g3,g5,g6,g7⟩:=aa GG;have Hl:=aa NQ;have Dq:w9.ownsRow w.heap.size 22 1 (.S p9 (k+1+1) c9) ((vi n::(l.take k).map oO).length+1) (cs.flatten++[.S p3 M3 c3]):=aa LX▸du;have sn:=OwnT.snoc g1 g2 g3 g5 g6 g7 yw.keep EL rfl Q2 ae (λa ha=>(Hl.2 a ha).2) (λb hb=>(Hl.1 b hb).2) Dq hg (λg yJ=>by have:=mX g yJ;simpa using this)
 have eL:(vi n::(l.take k).map oO)++[oO nd]=vi n::(l.take (k+1)).map oO:=by rw[ni,aa HY,kT];simp
 rw[eL]at sn;have AY:Bw w w9:=(b3.alloc b3.size _).grown hg aU (λb hb=>(Hl.1 b hb).1);have SN:=af sn;clear sn eL du Dq hg mX g1 g2 g3 g4 g5 g6 g7 Hl hcZ GG EL Q2;go_wp2;go_roundw;exact⟨k+1,_,_,_,ae,rfl,by go_num,SN,AY⟩;exact bM};{
 have bu:=dm k n;have yx:n=k:=ae;subst yx;have hO:=aa ho;rw[ke (aa en▸iP _)]at hO;have nE:(vi n::l.map oO).length=n+1:=by rw[iT,dZ,aa en]
 obtain⟨G,vs,rfl,hPa⟩:=hO.parts nE ae;have HPA:=af hPa;have EE:Hid (uk oO l=cat (vi n::l.map oO)):=by show _=_;rw[uk,aa en]
 have LX:=af nE.symm;clear hO hPa nE ho hk aT;go_wp2_with fail;refine(uT LX EE eN HPA hN ae).mono ?_;rintro r w5⟨p5,c5,rfl,o5,e8⟩;have b5:=aj aK e8;have O5:=af (Own.mono (B':=w.heap.size) o5 aK.size);clear o5 e8;go_wp2;go_ret;exact⟨p5,c5,rfl,O5,b5⟩}}
def aD7{X:World}{l0 l1 l2 l3 l4 lm:LI}(e:Hid (lm=cat [l0,l1,l2,l3,l4]))(en:Hid (lm.length=N))(r0:Rd X v0 l0)(r1:Rd X v1 l1)(r2:Rd X v2 l2)(r3:Rd X v3 l3)(r4:Rd X v4 l4)(hl:N<=4194304):Cp 88 #[.T X.heap.size 5 5] (X.alloc (.cells #[v0,v1,v2,v3,v4] 22)) λe w'=>∃p' c',e=.returned (.S p' N c')/\Own X.heap.size w' (.S p' N c') lm/\Bw X w':=by
 have ba:Bw X (X.alloc (.cells #[v0,v1,v2,v3,v4] 22)):=au.alloc ao _;refine(gv [l0,l1,l2,l3,l4] 5 rfl e en (aa3 ai ai ai ai ai (r0.below ba) (r1.below ba) (r2.below ba) (r3.below ba) (r4.below ba)) hl ae).mono ?_;rintro e w'⟨p',c',rfl,o,hb⟩;exact⟨p',c',rfl,Own.mono o ai,aj ba hb⟩
theorem Wp{e g x:Nat}(he:e<18446744073709551616)(hg:g<18446744073709551616)(hx:x<18446744073709551616){p q:OA}{c n d m:Nat}(en:Hid (ss.length=n))(em:Hid (ns.length=m)){w:World}(h:mg w (.S p n c) ss)(hN:oU w (.S q m d) ns)(hn:Mg n)(hm:Mg m)(mj:Hid (∀s∈ss,s.2.2.length<=0/\∀e∈s.2.2,aN e.2/\e.2.length<=1048576))(gq:Hid (∀nd∈ns,aN nd.path/\nd.path.length<=1048576/\nd.value.length<=1048576/\nd.holders.length<=1048576/\nd.watchers.length<=1048576))(Ci:Hid (∀nd∈ns,(∀i∈nd.holders,0<=i/\i<18446744073709551616)/\∀i∈nd.watchers,0<=i/\i<18446744073709551616))(QT:Hid (∀nd∈ns,0<=nd.owner/\nd.owner<18446744073709551616))(Y5:Hid (∀nd∈ns,(0<=nd.aJ/\nd.aJ<18446744073709551616)/\0<=nd.gen/\nd.gen<18446744073709551616))(Ek:ML w){R:LI}(eR:Hid (En e g x t ss ns=R)){L:Nat}(eL:Hid (R.length=L)):Calls prog 102 #[ft e g x t (.S p n c) (.S q m d)] w λr w'=>∃p' c',r=.returned (.S p' L c')/\Own w.heap.size w' (.S p' L c') R/\Bw w w':=by
 have HR:=af λ(w':World)(hb:Bw w w')=>ah (h.below hb) (ah (hN.below hb) (Ek.below hb));clear h hN Ek;obtain⟨B,eB⟩:∃B,Hid (mY e g x t ss ns=B):=⟨_,bq⟩;obtain⟨W,hW⟩:=az (w.alloc (.cells #[.U e,.U g,.U x,.I t,.S p n c,.S q m d] 35));have bW:=ew hW;have yh:jO W w.heap.size e g x t (.S p n c) (.S q m d):=by rw[hW];simp[jO]
 have YF:=af yh
 go_in
 go_wp2_with fail;rw[<-hW];clear hW yh;refine(ai2 en em (aa HR _ bW).1 (aa HR _ bW).2.1 hn hm mj gq Ci QT (aa HR _ bW).2.2 eB).mono ?_;rintro z9 w1⟨rfl,aA⟩;have b1:=aj bW aA;have C1:=af (YF.below aA);clear aA bW YF;cases B with
 |false=>
  have e1:=aa eR;have e2:=aa eL;rw[En,bG (by rw[aa eB];simp)]at e1;subst e1;have e3:L=0:=e2.symm;subst e3;clear e2;go_wp2;go_ret;exact⟨none,0,rfl,Own.nil _ _,b1⟩
 |true=>
  obtain⟨i0,i1,i2,i3,i4,i5⟩:=aa C1;have hF:=Fb eB mj gq;have HF:=af hF;have hS:=Tp eB Ci QT Y5;have hRR:R=xD e g x (ss.map jh) (ns.map iG):=by have:=aa eR;rw[En,bN (aa eB)]at this;rw[<-this,az5];simp
  have Hr:=hS.dur;have lens:=Vr (e:=e) (g:=g) (x:=x) Hr.w;have hn5:n<=50:=by have:=hS.n1;rw[aa en]at this;exact this
  have hm5:m<=200:=by have:=hS.n2;rw[aa em]at this;exact this
  obtain⟨sl,El⟩:=az (ss.map jh);obtain⟨nl,jJ⟩:=az (ns.map iG);have Ie:Hid (sl.length=n):=by show _=_;rw[El,dZ];exact aa en
  have em2:Hid (nl.length=m):=by show _=_;rw[jJ,dZ];exact aa em
  rw[<-El,<-jJ]at Hr hRR lens;have EE:Hid (R=cat [vi e,vi g,vi x,uk uE sl,uk oO nl]):=hRR;have hL:L<=4194304:=by have h1:=lens.1;rw[<-hRR,aa eL]at h1;omega
  obtain⟨N0,e0⟩:∃M,Hid ((vi e).length=M):=⟨_,bq⟩;obtain⟨N1,e1⟩:∃M,Hid ((vi g).length=M):=⟨_,bq⟩;obtain⟨N2,e2⟩:∃M,Hid ((vi x).length=M):=⟨_,bq⟩;obtain⟨N3,e3⟩:∃M,Hid ((uk uE sl).length=M):=⟨_,bq⟩;obtain⟨N4,e4⟩:∃M,Hid ((uk oO nl).length=M):=⟨_,bq⟩;have Jv:N3<=4194304:=by have h1:=lens.2.1;rw[aa e3]at h1;omega
  have hN4:N4<=4194304:=by have h1:=lens.2.2;rw[aa e4]at h1;omega
  have DP:=af Hr;have tF:Hid (∀s∈sl,0<=s.1/\s.1<18446744073709551616):=Hr.s;have ESL:=af El;have ENL:=af jJ;clear hF hS Hr lens hRR El jJ;have cs8:∀(vs:Array Value)(w:World),(callFunc 88 vs).run prog w=.ok (.enter 88 vs) w:=λvs w=>bg;have cs7:∀(vs:Array Value)(w:World),(callFunc 166 vs).run prog w=.ok (.enter 166 vs) w:=λvs w=>bg;have cs6:∀(vs:Array Value)(w:World),(callFunc 167 vs).run prog w=.ok (.enter 167 vs) w:=λvs w=>bg;have cs5:∀(vs:Array Value)(w:World),(callFunc 169 vs).run prog w=.ok (.enter 169 vs) w:=λvs w=>bg;clear cs8 cs7 cs6 cs5;go_wp2_with fail;refine(Ri en em (aa HR _ b1).1 (aa HR _ b1).2.1 hn hm HF gq Ci).mono ?_;rintro z9 w2⟨ps,cs,pn,dn,rfl,ow2,aD⟩;have b2:=aj b1 aD;obtain⟨A1,A2,r1,r2,-⟩:=ow2;rw[<-aa ESL]at r1;rw[<-aa ENL]at r2;clear aD b1 C1 i0 i1 i2 i3 i4 i5;have R2:=af (ah r1 r2);clear r1 r2;go_wp2_with fail;obtain⟨W0,dP⟩:=az (w2.alloc (.cells #[.U e,.U g,.U x,.I 0,.S ps n cs,.S pn m dn] 35));have bW0:=ew dP;have hA6:jO W0 w2.heap.size e g x 0 (.S ps n cs) (.S pn m dn):=by rw[dP];simp[jO]
  obtain⟨GB,hGB⟩:=az w2.heap.size;rw[<-dP];rw[<-hGB]at hA6⊢;obtain⟨v0,mL⟩:=az W0.drew;have BW0:Hid (Bw w v0):=mL▸(aj b2 bW0).drew;have S0:Hid (jO v0 GB e g x 0 (.S ps n cs) (.S pn m dn)):=mL▸hA6;have D0:Hid (mg v0 (.S ps n cs) sl/\oU v0 (.S pn m dn) nl):=by rw[mL];exact⟨R2.1.below bW0.drew,R2.2.below bW0.drew⟩
  refine dC (λw'=>jO w' GB e g x 0 (.S ps n cs) (.S pn m dn)) (mL▸aa S0) λhS=>?_;rw[<-mL]at hS⊢;clear mL dP bW0 hA6 hGB R2 b2;refine nK 0 1 3 4 6 7 9 10 hS ?_;refine kG 12 13 hS ?_;refine ry [2] ?_;refine cn (λKK hK=>?_) ?_;{refine jv (vF he e0) ?_;rintro z9 v1⟨pA,cA,rfl,oA,aA⟩;refine⟨_,rfl,?_⟩;have S1:=af (S0.below aA);have BW1:=af (aj BW0 aA);have D1:=af (ah (D0.1.below aA) (D0.2.below aA));have RA1:=af oA.rd;refine gr hK (by exact S1) λhS=>?_;clear hK KK oA aA;refine dM 5 λKK hK=>?_;refine jv (vF hg e1) ?_;rintro z9 v2⟨pB,cB,rfl,oB,aD⟩;refine⟨_,rfl,?_⟩;have S2:=af (S1.below aD);have BW2:=af (aj BW1 aD);have D2:=af (ah (D1.1.below aD) (D1.2.below aD));have RA2:=af (RA1.below aD);have RB2:=af oB.rd;refine gr hK (by exact S2) λhS=>?_;clear hK KK oB aD;refine dM 8 λKK hK=>?_;refine jv (vF hx e2) ?_;rintro z9 v3⟨pC,cC,rfl,oC,aL⟩;refine⟨_,rfl,?_⟩;have S3:=af (S2.below aL);have BW3:=af (aj BW2 aL);have D3:=af (ah (D2.1.below aL) (D2.2.below aL));have RA3:=af (RA2.below aL);have RB3:=af (RB2.below aL);have RC3:=af oC.rd;refine gr hK (by exact S3) λhS=>?_;clear hK KK oC aL;refine dM 11 λKK hK=>?_;refine yZ (Xs Ie D3.1 ae tF e3 Jv) ?_;rintro z9 v4⟨pD,cD,rfl,oD,dS⟩;refine⟨_,rfl,?_⟩;have S4:=af (S3.below dS);have BW4:=af (aj BW3 dS);have D4:=af (ah (D3.1.below dS) (D3.2.below dS));have RA4:=af (RA3.below dS);have RB4:=af (RB3.below dS);have RC4:=af (RC3.below dS);have RD4:=af oD.rd;refine gr hK (by exact S4) λhS=>?_;clear hK KK oD dS;refine dM 14 λKK hK=>?_;refine yZ (Xt em2 D4.2 ae DP e4 hN4) ?_;rintro z9 v5⟨pE,cE,rfl,oE,e8⟩;refine⟨_,rfl,?_⟩;have S5:=af (S4.below e8);have BW5:=af (aj BW4 e8);have RA5:=af (RA4.below e8);have RB5:=af (RB4.below e8);have RC5:=af (RC4.below e8);have RD5:=af (RD4.below e8);have RE5:=af oE.rd;refine gr hK (by exact S5) λhS=>?_;clear hK KK oE e8;refine dM 15 λKK hK=>?_;go_simp;obtain⟨Y,hY⟩:=az (v5.alloc (.cells #[.S pA N0 cA,.S pB N1 cB,.S pC N2 cC,.S pD N3 cD,.S pE N4 cE] 22));have hbY:=ew hY;have SY:=af (S5.below hbY);have JJ:=af (aD7 EE eL RA5 RB5 RC5 RD5 RE5 hL);rw[<-hY]at JJ⊢;refine gr hK (by exact SY) λhS=>?_;clear hK KK hY hbY;refine dM 16 λKK hK=>?_;refine jv JJ ?_;rintro z9 Z⟨pj,cj,rfl,oj,sC⟩;refine⟨_,rfl,?_⟩;have FI:=af (ah (Own.mono (B':=w.heap.size) oj BW5.size) (aj (aa BW5) sC));refine gr hK (by exact S5.below sC) λhS=>?_;clear hK KK oj sC;refine tn 17 hS ?_;refine dw ?_;clear hS;go_wp2;go_ret;exact⟨pj,cj,rfl,FI⟩};exact eG
open Go.Maps
def Yx(B:Nat)(w:World)(v:Value)(R:RP):Prop:=∃(p1:OA)(c1:Nat)(p2:OA)(c2:Nat)(p3:OA)(c3:Nat),v=yF R.k R.i R.e R.g R.n (.S p1 R.Ol.length c1) (.S p2 R.nms.length c2) (.S p3 R.Ng.length c3)
def Yx.keep{w w':World}{R:RP}(h:Yx B w v R)(hk:∀b,B<=b->b<w.heap.size->w'.heap[b]?=w.heap[b]?)(hz:w.heap.size<=w'.heap.size):Yx B w' v R:=h
def Yx.mono{B':Nat}{w:World}{R:RP}(h:Yx B w v R)(hB:B'<=B):Yx B' w v R:=h
def Yx.num(B:Nat)(w:World)(k i e g n:Int):Yx B w (rpn ⟨k,i,e,g,n,[],[],[]⟩) ⟨k,i,e,g,n,[],[],[]⟩:=⟨none,0,none,0,none,0,rfl⟩
def bk8(w0 w:World)(b bs bn:Nat)(D:SD)(R:RP)(r:Ending)(w':World):Prop:=∃SB NB HB UB v,PS w0 w' b bs bn D SB NB HB UB/\Fr T3 w w'/\r=.returned v/\Yx w.heap.size w' v R
def tG.r{w0 w:World}{SB NB HB UB:List Nat}{k i e g n:Int}{r:Ending}{w':World}(h:tG w0 w b bs bn D SB NB HB UB ⟨k,i,e,g,n,[],[],[]⟩ r w'):bk8 w0 w b bs bn D ⟨k,i,e,g,n,[],[],[]⟩ r w':=⟨SB,NB,HB,UB,_,h.1,h.2.1,h.2.2,Yx.num _ _ _ _ _ _ _⟩
def Whn(C:Int)(P:Prop):Prop:=C=0->P
def bQ7(w0 w:World)(b bs bn:Nat)(D D':SD)(R:RP)(C:Int)(r:Ending)(w':World):Prop:=∃SB NB HB UB v,r=.returned (.tuple #[v,H6 C])/\Fr T3 w w'/\PS w0 w' b bs bn (if C=0 then D' else D) SB NB HB UB/\Yx w.heap.size w' v (if C=0 then R else rV)
def LO{fn:Func}{R:Ending->World->Prop}{a:Act}{Z:World}{z:Nat}{o0 o1 o2 o3 o4 o5 o6 o7:Value}(hR:Hid (RX Z z [o0,o1,o2,o3,o4,o5,o6,o7]))(hf:fn.results=#[.cell 4 79,.tmp 5])(ha:a.tmps.getD 4 undef=.pointer (some (Ad z 0)))(E:Value)(hE:a.tmps.getD 5 undef=E)(hd:a.defers=[]){v7:Value}(hQ:R (.returned (.tuple #[.agg #[v0,v1,v2,v3,v4,v5,v6,v7],E])) (lD Z z v0 v1 v2 v3 v4 v5 v6 v7)):bodyPost prog fn R .ret a (lD Z z v0 v1 v2 v3 v4 v5 v6 v7):=by
 obtain⟨q0,q1,q2,q3,q4,q5,q6,q7,-⟩:=(hR.put v0 v1 v2 v3 v4 v5 v6 v7).1.cells;generalize lD Z z v0 v1 v2 v3 v4 v5 v6 v7=W at*;refine dD (v:=.tuple #[.agg #[v0,v1,v2,v3,v4,v5,v6,v7],E]) ?_ hd hQ;have Oh:=ha;have hE':=hE;simp only[aO4]at Oh hE';simp[results,hf,go_sem,Oh,hE',q0,q1,q2,q3,q4,q5,q6,q7]
def aJ7{w0:World}{w:World}{D':SD}{SB NB HB UB:List Nat}(h:Hid (PS w0 w b bs bn D SB NB HB UB)){K S F E G:Int}{C0 C1:Int}(eC:Hid ((if C0=0 then C1 else C0)=C)){R:RP}{ty:TypeId}{fC fA:FuncId}{vC vA:Value}(cs2:Hid (∀w',Bw w w'->Cp 201 #[.pointer (some (Ad b 0)),ID K S (.S pp np cp) F (.S pq nv cv) E G] w' λr w''=>r=.returned (H6 C0)/\Bw w' w''))(cn4:Hid (Whn C0 (∀w',Bw w w'->Cp 202 #[ID K S (.S pp np cp) F (.S pq nv cv) E G] w' λr w''=>r=.returned (.iface ty v)/\Bw w' w'')))(hmC : ∀w,(Go.method 450 ty v "loop.example/s02132/impl.check").run prog w = .ok (fC,vC) w)(hmA : ∀w,(Go.method 450 ty v "loop.example/s02132/impl.act").run prog w = .ok (fA,vA) w)(hfC:∀vs w,(callFunc fC vs).run prog w=.ok (.enter fC vs) w)(hfA:∀vs w,(callFunc fA vs).run prog w=.ok (.enter fA vs) w)(cs3:Hid (Whn C0 (∀w',Bw w w'->Calls prog fC #[vC,.pointer (some (Ad b 0))] w' λr w''=>r=.returned (H6 C1)/\Bw w' w'')))(cu5:Hid (Whn C0 (Whn C1 (∀w',Bw w w'->Calls prog fA #[vA,.pointer (some (Ad b 0))] w' (bk8 w0 w' b bs bn D' R))))):Calls prog 146 #[.pointer (some (Ad b 0)),ID K S (.S pp np cp) F (.S pq nv cv) E G] w (bQ7 w0 w b bs bn D D' R C):=by
 obtain⟨X,hX,bX,zX,CX,gX⟩:=ar w #[.I K,.U S,.S pp np cp,.I F,.S pq nv cv,.U E,.U G] 73;obtain⟨Y,hY,bY,zY,RY⟩:=rA X (.I 0) (.U 0) (.U 0) (.U 0) (.I 0) (.S none 0 0) (.S none 0 0) (.S none 0 0);rw[zX]at RY;have bW:=aj bX bY;have HA:=af (λ(u:World)(hu:Bw Y u)=>ah (aj bW hu) (ah ((CX.below ae bY).below ae hu) (RY.below hu)));have BY0:=af (cR Y.heap.size Y);have HC:=af (ah hmC (ah hmA (ah hfC hfA)));have Sh:=h.be.size;have HZ:=af zY
 go_in
 go_wp2_with fail;rw[<-hX,<-hY];refine(aa cs2 Y (aa HA Y BY0).1).mono ?_;rintro r w1⟨rfl,aA⟩;obtain⟨b1,IA,R1⟩:=aa HA w1 aA;have o0:=IA.1 0 _ rfl;have o1:=IA.1 1 _ rfl;have o2:=IA.1 2 _ rfl;have o3:=IA.1 3 _ rfl;have o4:=IA.1 4 _ rfl;have o5:=IA.1 5 _ rfl;have o6:=IA.1 6 _ rfl;have B1:=af aA;have nO:=af b1;have DQ:=af R1;by_cases hC0:C0=0;{
 have e0:H6 C0=.nilIface:=by rw[hC0];rfl
 rw[e0];have H0:=af hC0;have Yg:C1=C:=by have:=aa eC;rwa [bN hC0]at this
 subst Yg;go_wp2_with fail;refine(aa cn4 H0 w1 nO).mono ?_;rintro r w2⟨rfl,aD⟩;have B2:=af (aj B1 aD);have Bf:=af (aj nO aD);obtain⟨mC,mA,qC,qA⟩:=aa HC;go_wp2_with fail;refine(aa cs3 H0 w2 Bf).mono ?_;rintro r w3⟨rfl,aL⟩;have B3:=af (aj B2 aL);have vD:=af (aj Bf aL);by_cases hC1:C1=0;{
 have e1:H6 C1=.nilIface:=by rw[hC1];rfl
 rw[e1];have H1:=af hC1;go_wp2_with fail;refine(aa cu5 H0 H1 w3 vD).mono ?_;rintro r w4⟨SB',NB',YG,UB',v4,P4,F4,rfl,L4⟩;have L4':=L4;obtain⟨p1,c1,p2,c2,p3,c3,A1,A2,A3,rfl,-⟩:=L4';have R4:=(aa HA w3 B3).2.2.fr F4;obtain⟨r0,r1,r2,r3,r4,r5,r6,r7,rf⟩:=R4.cells;have HR4:=af R4;have HP4:=af (ah P4 (ah F4 L4));obtain⟨n1,Oj⟩:=aI R.Ol.length;obtain⟨n2,Ie⟩:=aI R.nms.length;obtain⟨n3,en3⟩:=aI R.Ng.length;rw[Oj,Ie,en3]at HP4⊢;go_wp2;have z3:=vD.size;have z4:=HP4.2.1.1;have zz:=aa HZ;have zB:=B3.size;refine LO HR4 bg rfl .nilIface rfl rfl ⟨SB',NB',YG,UB',_,by rw[aa H1];rfl,((Fr.below (T:=T3) (aa vD)).trans HP4.2.1).low ((di (b:=w.heap.size+1)).mono ae),?_,?_⟩;{rw[bN (aa H1)];exact PS.rep HP4.1 HR4 ae _ _ _ _ _ _ _ _};{rw[bN (aa H1)];exact(HP4.2.2.keep (λz h1 _=>JY ae) (di).size).mono ae}};{
 have e1:H6 C1=.iface 254 (.agg #[.I C1]):=by rw[H6,bG hC1]
 rw[e1];have H1:=af hC1;obtain⟨-,-,R3⟩:=aa HA w3 B3;obtain⟨r0,r1,r2,r3,r4,r5,r6,r7,rf⟩:=R3.cells;have A9:=af R3;go_wp2;have z3:=vD.size;refine LO A9 bg rfl (.iface 254 (.agg #[.I C1])) rfl rfl ⟨SB,NB,HB,UB,_,by rw[H6,bG (aa H1)],(Fr.below (T:=T3) (aa vD)).low ((di).mono ae),?_,?_⟩;{rw[bG (aa H1)];exact PS.rep (h.below vD) A9 ae _ _ _ _ _ _ _ _};{rw[bG (aa H1)];exact Yx.num _ _ _ _ _ _ _}}};{
 have eV:H6 C0=.iface 254 (.agg #[.I C0]):=by rw[H6,bG hC0]
 rw[eV];have H1:=af hC0;have Yg:C0=C:=by have:=aa eC;rwa [bG hC0]at this
 subst Yg;obtain⟨r0,r1,r2,r3,r4,r5,r6,r7,rf⟩:=DQ.cells;go_wp2;have z3:=nO.size;refine LO DQ bg rfl (.iface 254 (.agg #[.I C0])) rfl rfl ⟨SB,NB,HB,UB,_,by rw[H6,bG (aa H1)],(Fr.below (T:=T3) (aa nO)).low ((di).mono ae),?_,?_⟩;{rw[bG (aa H1)];exact PS.rep (h.below nO) DQ ae _ _ _ _ _ _ _ _};{rw[bG (aa H1)];exact Yx.num _ _ _ _ _ _ _}}
def Pf(h:(List.range ss.length).all (mB x ss)=true){s:aP}(hs:s∈ss):1<=s.1/\s.1<=x/\nR s.2.2=true:=by
 obtain⟨i,hi⟩:=gH.1 hs;have:=jy.1 h i (by simpa using(bf.1 hi).1);unfold mB at this;rw[gK,hi]at this;simp only[si,fx,jw]at this;exact⟨this.1,this.2.1,this.2.2.2.2.2⟩
def Fg.of(hF:AM ss ns)(h:(List.range ss.length).all (mB x ss)=true):Fg ss:=
 ⟨hF.s1,λs hs=>(hF.s2 s hs).1,λs hs=>by have:=(Pf h hs).2.2;unfold nR at this;simp only[fx,jw]at this;exact this.1⟩
def ab6(h:(List.range ns.length).all (lI e g ss ns)=true)(hi:ns[i]?=some nd):vp nd.path=true:=by
 have:=jy.1 h i (by simpa using(bf.1 hi).1);unfold lI at this;rw[gK,hi]at this;simp only[si,fx]at this;exact this.1.1
def WF.of(h:mY e g x t ss ns=true)(hF:AM ss ns)(g0:0<=g)(x0:0<=x)(hw:∀nd∈ns,nd.watchers=[]):WF ⟨e,g,x,t,ss,ns⟩:=by
 unfold mY at h;simp only[fx,jw]at h;obtain⟨⟨h1,h2,h3,h4,h5,h6,h7⟩,hS,hN⟩:=h;refine⟨⟨g0,h2⟩,⟨x0,h3⟩,⟨h4,h5⟩,λnd bj=>?_,λnd bj=>?_,λnd bj=>(hF.n2 nd bj).2.2.1,λnd bj hm=>?_,λi j a c ha hc e2=>?_⟩;{obtain⟨a,b,c,d,f,-⟩:=hF.n2 nd bj;exact⟨b,by rw[hw nd bj];exact iP _,d⟩};{obtain⟨i,hi⟩:=gH.1 bj;exact⟨ab6 hN hi,(hF.n2 nd bj).1,(hF.n2 nd bj).2.1⟩};{obtain⟨i,hi⟩:=gH.1 bj;intro e0;have:=sY (Gk hN hi).1 hm;rw[e0]at this;cases this};{rcases GN i j with hh|hh|hh;{exact absurd e2 (hF.n3 i j a c ha hc hh)};{exact hh};{exact absurd e2.symm (hF.n3 j i c a hc ha hh)}}
def Om(w:World):Prop:=∀k:Nat,1<=k->k<=13->xw w 0 (k*7) (rowOf k).1 (rowOf k).2.1 (rowOf k).2.2.1 (rowOf k).2.2.2.1 (rowOf k).2.2.2.2.1 (rowOf k).2.2.2.2.2.1 (rowOf k).2.2.2.2.2.2
structure GD(D:SD):Prop where
 wf:WF D
 ci:CI D.ss D.ns
 pw:(D.ns.map λnd=>rz nd.path).Pairwise (·<·)
 ho:∀nd∈D.ns,(nd.mode=1->nd.holders.length=1)/\(nd.mode≠1->nd.aJ=0/\nd.gen=0/\(nd.mode=0->nd.holders.length=0))
 sx:∀s∈D.ss,s.1<=D.x
 ql:∀s∈D.ss,s.2.2.length<=0/\∀e∈s.2.2,e.2.length<=1048576
 wl:∀nd∈D.ns,nd.watchers.length<=1048576
 sl:D.ss.length<1048576
 nl:D.ns.length<1048576
def GD.of(h:mY e g x t ss ns=true)(hF:AM ss ns)(g0:0<=g)(x0:0<=x)(hw:∀nd∈ns,nd.watchers=[]):GD ⟨e,g,x,t,ss,ns⟩:=by
 have h':=h;unfold mY at h';simp only[fx,jw]at h';obtain⟨⟨-,-,-,-,-,l1,l2⟩,a1,a2⟩:=h';refine⟨WF.of h hF g0 x0 hw,⟨Fg.of hF a1,λnd bj=>?_,KD.of hF⟩,hF.n1,λnd bj=>?_,λs hs=>(Pf a1 hs).2.1,λs hs=>(hF.s2 s hs).2,λnd bj=>(hF.n2 nd bj).2.2.2.2.1,by show ss.length<_;omega,by show ns.length<_;omega⟩;{obtain⟨i,hi⟩:=gH.1 bj;exact⟨NT.of hF a2 hi (hw nd bj),(hF.n2 nd bj).2.2.2.2.2.1,(hF.n2 nd bj).2.2.2.1⟩};{obtain⟨i,hi⟩:=gH.1 bj;obtain⟨q1,-⟩:=Gk a2 hi;exact⟨λhm=>sY q1 hm,λhm=>uR q1 hm⟩}
structure Sg(w0 w:World)(b bs bn:Nat)(D:SD)(SB NB HB UB:List Nat)(S F E G:Int)(pp:OA)(np cp:Nat)(pq:OA)(nv cv:Nat)(P V:LI):Prop where
 ps:PS w0 w b bs bn D SB NB HB UB
 gd:GD D
 hS:0<=S/\S<18446744073709551616
 eP:P.length=np
 eV:V.length=nv
 hP:Rd w (.S pp np cp) P
 hV:AB w0 w (.S pq nv cv) V
 hB:aN P
 hp:np<=1048576
 iW:np<=cp
 ku:cp<=maxLen
 hm:∃m,w.cell? (Ad 1 0)=some (.I m)
 hT:Om w
def Sg.below{w0 w w':World}{SB NB HB UB:List Nat}{S F E G:Int}(h:Sg w0 w b bs bn D SB NB HB UB S F E G pp np cp pq nv cv P V)(hb:Bw w w'):Sg w0 w' b bs bn D SB NB HB UB S F E G pp np cp pq nv cv P V:=
 ⟨h.ps.below hb,h.gd,h.hS,h.eP,h.eV,h.hP.below hb,h.hV.fr (aM hb) ai,h.hB,h.hp,h.iW,h.ku,by obtain⟨m,hm⟩:=h.hm;exact⟨m,ag hm hb⟩,λk h1 h2=>(h.hT k h1 h2).below hb⟩
theorem PI:Sn ns P<0↔iq ns P=none:=by
 constructor;{
 intro h;cases hn:iq ns P with
 |none=>rfl
 | some nd=>
  exfalso;unfold Sn at h;cases hf:ns.findIdx? (λnd=>decide (nd.path=P))with
  |some i=>rw[hf]at h;simp at h;omega
  |none=>
   have h1:=VT.1 hf nd (VX hn);have h2:=Qj hn;rw[h1]at h2;cases h2};{
 intro h;rw[PJ h]
 decide}
theorem aK5(h1:1<=k)(h2:k<=13){S F E G:Int}(eC:yz D (rowOf k).1 (rowOf k).2.1 (Fa k S F P.length V.length E G) k S P=C)(hC:C≠0):fE D k S F E G P V=(D,AR C):=by
 have hf:fmI k S F P.length V.length E G=Fa k S F P.length V.length E G:=by rw[fmI,bN ae,qY]
 unfold fE;rw[hf];cases hB:Fa k S F P.length V.length E G with
 |false=>
  rw[hB]at eC;simp only[yz,qt]at eC;rw[bN rfl,eC]
 |true=>
  rw[hB]at eC;rw[bG ai];by_cases hs:(rowOf k).1=true/\xF D.ss S<0;{
 have e3:C=3:=by rw[<-eC];simp[yz,hs]
 rcases kinds h1 h2 with rfl|rfl|rfl|rfl|rfl|rfl|rfl|rfl|rfl|rfl|rfl|rfl|rfl<;>simp_all[rowOf,YR]}
  {
 have e4:(if(rowOf k).2.1=true then tI D k P else 0)=C:=by rw[<-eC];simp only[yz,Bool.true_eq_false,Ag,hs]
 clear eC hf hB;subst e4;unfold zy;rcases kinds h1 h2 with rfl|rfl|rfl|rfl|rfl|rfl|rfl|rfl|rfl|rfl|rfl|rfl|rfl<;>simp only[rowOf,tI,ndK,rY]at hC hs⊢<;>by_cases hr:P=[47]<;>cases hv:vp P<;>cases hn:iq D.ns P<;>simp_all[PI,YR]<;>(intros;omega)}
theorem Rp{se pa B:Bool}{K S:Int}(h:yz D se pa B K S P=0):B=true/\(se=true->¬xF D.ss S<0)/\(pa=true->tI D K P=0):=by
 unfold yz at h;cases B with
 |false=>simp at h
 |true=>
  refine⟨rfl,λe hs=>?_,λe=>?_⟩;{simp[e,hs]at h};{by_cases hs:se=true/\xF D.ss S<0;{simp[hs]at h};{simpa[hs,e]using h}}
def N8(w0 w:World)(b bs bn:Nat)(D:SD)(A:SD×RP)(r:Ending)(w':World):Prop:=∃D' R C,bQ7 w0 w b bs bn D D' R C r w'/\(A=if C=0 then(D',R)else(D,AR C))/\(C=0->R.k=0)
def qg{w0 w:World}{SB NB HB UB:List Nat}{S F E G:Int}(cx:Sg w0 w b bs bn D SB NB HB UB S F E G pp np cp pq nv cv P V)(k:Nat)(C1:Int)(D':SD)(R:RP)(ty:TypeId)(v:Value)(fC fA:FuncId)(vC:Value)(iV:yz D (rowOf k).1 (rowOf k).2.1 (Fa k S F P.length V.length E G) k S P=0->(∀w',Sg w0 w' b bs bn D SB NB HB UB S F E G pp np cp pq nv cv P V->Calls prog fC #[vC,.pointer (some (Ad b 0))] w' λr w''=>r=.returned (H6 C1)/\Bw w' w'')∧
   (C1=0->∀w',Sg w0 w' b bs bn D SB NB HB UB S F E G pp np cp pq nv cv P V->Calls prog fA #[v,.pointer (some (Ad b 0))] w' (bk8 w0 w' b bs bn D' R))/\fE D k S F E G P V=if C1=0 then(D',R)else(D,AR C1))(h1:1<=k:=by decide)(h2:k<=13:=by decide)(hq:bt4 k S (aO P) F (.S pq nv cv) E G=.iface ty v:=by rfl)(hmC : ∀w,(Go.method 450 ty v "loop.example/s02132/impl.check").run prog w = .ok (fC,vC) w:=by(intro w;kernel_rfl))(hmA : ∀w,(Go.method 450 ty v "loop.example/s02132/impl.act").run prog w = .ok (fA,v) w:=by(intro w;kernel_rfl))(hfC:∀vs w,(callFunc fC vs).run prog w=.ok (.enter fC vs) w:=by(intro vs w;kernel_rfl))(hfA:∀vs w,(callFunc fA vs).run prog w=.ok (.enter fA vs) w:=by(intro vs w;kernel_rfl))(hRk:C1=0->R.k=0:=by(intro _;rfl)):Cp 146 #[.pointer (some (Ad b 0)),ID k S (.S pp np cp) F (.S pq nv cv) E G] w (N8 w0 w b bs bn D (fE D k S F E G P V)):=by
 obtain⟨C0,eC0⟩:=aI (yz D (rowOf k).1 (rowOf k).2.1 (Fa k S F P.length V.length E G) k S P);rw[eC0]at iV;refine(aJ7 cx.ps (af rfl) (λw' hb=>?_) (λ_ w' hb=>?_) hmC hmA hfC hfA (λhC w' hb=>(iV hC).1 w' (cx.below hb)) (λhC hC1 w' hb=>(iV hC).2.1 hC1 w' (cx.below hb))).mono λr w' hr=>⟨D',R,_,hr,?_,λhC=>hRk (by split at hC<;>omega)⟩;{have c:=cx.below hb;exact ar4 c.ps (λnd bj=>(c.gd.wf.pb nd bj).2.1) h1 h2 c.hS c.eP c.hP c.hB c.hp c.iW c.ku c.hm (c.hT k h1 h2) (af rfl) (by show _=_;rw[<-eC0,c.eP,c.eV];rfl)};{have c:=cx.below hb;have:=Pj h1 h2 (S:=S) (F:=F) (E:=E) (G:=G) (pq:=pq) (nv:=nv) (cv:=cv) c.eP c.hP;rw[hq]at this;exact this};{by_cases hC:C0=0;{rw[(iV hC).2.2,bN hC]};{rw[bG hC,bG hC];exact aK5 h1 h2 eC0 hC}}
section
variable {w0 w:World}{b bs bn:Nat}{D:SD}{SB NB HB UB:List Nat}{S F E G:Int}{pp:OA}{np cp:Nat}{pq:OA}{nv cv:Nat}{P V:LI}
def Nc(h1:1<=k)(h2:k<=13)(hB:Fa k S F P.length V.length E G=true):¬fmI k S F P.length V.length E G=false:=by
 rw[fmI,bN ae,qY,hB];simp
theorem aW7(h:¬xF D.ss S<0):∃(i:Nat)(s:aP),xF D.ss S=i/\D.ss[i]?=some s/\s.1=S:=by
 unfold xF at h⊢;cases hf:D.ss.findIdx? (λs=>s.1==S)with
 |none=>rw[hf]at h;simp at h
 |some i=>
  obtain⟨h1,h2,-⟩:=Da.1 hf;exact⟨i,_,rfl,bD h1,by simpa using h2⟩
theorem aX8(h:iq D.ns P≠none):∃(i:Nat)(nd:aC),Sn D.ns P=i/\D.ns[i]?=some nd/\nd.path=P/\iq D.ns P=some nd:=by
 have hn:¬Sn D.ns P<0:=λe=>h (PI.1 e);unfold Sn at hn⊢;cases hf:D.ns.findIdx? (λnd=>decide (nd.path=P))with
 |none=>rw[hf]at hn;simp at hn
 |some i=>
  obtain⟨h1,h2,h3⟩:=Da.1 hf;refine⟨i,_,rfl,bD h1,by simpa using h2,?_⟩;rw[iq,List.find?_eq_some_iff_getElem];exact⟨by simpa using h2,i,h1,rfl,λj hj=>by have:=h3 j hj;simpa using this⟩
def as0(cx:Sg w0 w b bs bn D SB NB HB UB S F E G pp np cp pq nv cv P V):Calls Tryz.prog 146 #[.pointer (some (Ad b 0)),ID (1:Nat) S (.S pp np cp) F (.S pq nv cv) E G] w (N8 w0 w b bs bn D (fE D (1:Nat) S F E G P V)):=by
 refine qg cx 1 (zG D) _ _ 258 (.agg #[]) 302 301 (.agg #[]) (λh0=>⟨λw' c=>aB4 c.ps (af rfl),λhC w' c=>(aB5 c.ps ⟨c.gd.wf.x.1,(JZ hC).2.2⟩ c.gd.wf.t (λs hs e=>aG (c.gd.sx s hs)) c.gd.sl).mono λr w''⟨gN,h⟩=>tG.r h,?_⟩);have e:fE D (1:Nat) S F E G P V=pK D:=by unfold fE;rw[bG (Nc aZ aZ (Rp h0).1),bN aZ]
 rw[e];by_cases hC:zG D=0;{
 rw[bN hC,(JZ hC).1]
 rfl}
 {rw[bG hC,aa9 hC]}
def vw(h4:4<=k)(h2:k<=13)(h12:k≠12)(h0:yz D (rowOf k).1 (rowOf k).2.1 (Fa k S F P.length V.length E G) k S P=0):fE D k S F E G P V=zy D k S F E G P V:=by
 obtain⟨hB,hs,-⟩:=Rp h0;have Hg:¬((YR k&&decide (xF D.ss S<0))=true):=by clear h0 hB;rcases kinds ae h2 with rfl|rfl|rfl|rfl|rfl|rfl|rfl|rfl|rfl|rfl|rfl|rfl|rfl<;>simp_all[YR,rowOf]
 unfold fE;rw[bG (Nc ae h2 hB),bG ae,bG Hg,bG ae,bG ae,bG ae]
theorem aM5(h:tI D K P=0):rY K P=true\/(rY K P=false/\vp P=true/\(ndK K=true->iq D.ns P≠none)):=by
 unfold tI at h;cases hr:rY K P with
 |true=>exact .inl rfl
 | false=>
  refine .inr ⟨rfl,?_⟩;rw[hr]at h;cases hv:vp P with
  |false=>rw[hv]at h;simp at h
  |true=>
   refine⟨rfl,λe1 e2=>?_⟩;rw[hv]at h;simp[e1,e2]at h
def LK(h:K≠13):rY K P=false:=by simp[rY,h]
def vN(hk:k=5\/k=6\/k=7\/k=8\/k=9\/k=11)(h:tI D k P=0):∃(i:Nat)(nd:aC),D.ns[i]?=some nd/\nd.path=P/\zy D k S F E G P V=xg D i k S F V:=by
 have h13:(k:Int)≠13:=ae;rcases aM5 h with hr|⟨hr,hv,hn⟩;{rw[LK h13]at hr;cases hr};{obtain⟨i,nd,e1,e2,e3,-⟩:=aX8 (hn (by rcases hk with rfl|rfl|rfl|rfl|rfl|rfl<;>rfl));refine⟨i,nd,e2,e3,?_⟩;unfold zy;rw[hr,hv,bG ai,bG ae,bG ae,bG aU,bG h13,e1,qY]}
def Ys(cx:Sg w0 w b bs bn D SB NB HB UB S F E G pp np cp pq nv cv P V):Calls Tryz.prog 146 #[.pointer (some (Ad b 0)),ID (3:Nat) S (.S pp np cp) F (.S pq nv cv) E G] w (N8 w0 w b bs bn D (fE D (3:Nat) S F E G P V)):=by
 refine qg cx 3 0 (jM D S) rV 262 (.agg #[.U S]) 303 305 (.agg #[]) (λh0=>?_);obtain⟨hB,hs,-⟩:=Rp h0;have Hg:=hs rfl;obtain⟨i,s,e1,e2,e3⟩:=aW7 Hg;refine⟨λw' c=>Zo rfl,λ_ w' c=>?_,?_⟩;{have hk:=ar8 c.ps c.gd.ci c.gd.pw e2 (af rfl) (V8 c.gd.nl);rw[e3]at hk;exact hk.mono λr w''⟨_,_,_,_,h⟩=>tG.r h};{unfold fE;rw[bG (Nc aZ aZ hB),Cw,bG (by simp;intro _;omega),Cw,bN aZ,bN rfl]}
end
section
variable {w0 w:World}{b bs bn:Nat}{D:SD}{SB NB HB UB:List Nat}{S F E G:Int}{pp:OA}{np cp:Nat}{pq:OA}{nv cv:Nat}{P V:LI}
def UY(cx:Sg w0 w b bs bn D SB NB HB UB S F E G pp np cp pq nv cv P V):Cp 146 #[.pointer (some (Ad b 0)),ID (5:Nat) S (.S pp np cp) F (.S pq nv cv) E G] w (N8 w0 w b bs bn D (fE D (5:Nat) S F E G P V)):=by
 by_cases h0:yz D (rowOf 5).1 (rowOf 5).2.1 (Fa 5 S F P.length V.length E G) (5:Nat) S P=0;{
 obtain⟨hB,hs,hp⟩:=Rp h0;obtain⟨i,nd,e2,rfl,e4⟩:=vN (k:=5) (S:=S) (F:=F) (E:=E) (G:=G) (V:=V) (.inl rfl) (hp rfl);have jl:=aY e2;have eA:=(vw aZ aZ aZ h0).trans e4;have gd:=cx.gd;obtain⟨nt,nh,nl⟩:=gd.ci.nt nd jl;have rK:=nt.pl;refine qg cx 5 (aI9 D nd S) (Sk (dV D i 2) i) rV 266 (.agg #[.U S,.string (aO nd.path)]) 316 315 (.agg #[.U S,.string (aO nd.path)]) (λ_=>⟨λw' c=>Yk c.ps c.gd.pw (λnd bj=>⟨(c.gd.wf.pb nd bj).2.1,(c.gd.wf.pb nd bj).2.2⟩) e2 c.hS (af rfl),λhC w' c=>(Yl c.ps e2 c.gd.ci.so nt c.gd.ci.kd (id:=S)).mono λr w'' h=>tG.r h,?_⟩);rw[eA];unfold xg;simp only[e2];rw[bN aZ];unfold aI9;by_cases q1:jT D.ns nd.path=[];{by_cases q2:mQ nd S=false<;>simp[q1,q2]}
 {simp[q1]}};{exact qg cx 5 0 D rV 266 (.agg #[.U S,.string (aO P)]) 316 315 (.agg #[.U S,.string (aO P)]) (λh=>absurd h h0)}
def aJ8(cx:Sg w0 w b bs bn D SB NB HB UB S F E G pp np cp pq nv cv P V):Cp 146 #[.pointer (some (Ad b 0)),ID (7:Nat) S (.S pp np cp) F (.S pq nv cv) E G] w (N8 w0 w b bs bn D (fE D (7:Nat) S F E G P V)):=by
 by_cases h0:yz D (rowOf 7).1 (rowOf 7).2.1 (Fa 7 S F P.length V.length E G) (7:Nat) S P=0;{
 obtain⟨hB,hs,hp⟩:=Rp h0;obtain⟨i,nd,e2,rfl,e4⟩:=vN (k:=7) (S:=S) (F:=F) (E:=E) (G:=G) (V:=V) (.inr (.inr (.inl rfl))) (hp rfl);have jl:=aY e2;have eA:=(vw aZ aZ aZ h0).trans e4;have gd:=cx.gd;obtain⟨nt,nh,nl⟩:=gd.ci.nt nd jl;have rK:=nt.pl;refine qg cx 7 (ZI nd S) (dV {D with ns:=D.ns.set i {nd with value:=V}} i 1) rV 270 (.agg #[.U S,.string (aO nd.path),.S pq nv cv]) 320 319 (.agg #[.U S,.string (aO nd.path),.S pq nv cv]) (λ_=>⟨λw' c=>aW5 c.ps e2 rK c.hS (V:=.S pq nv cv) (pv:=pq) (nv:=nv) (cv:=cv) (af rfl),λhC w' c=>(aW6 c.ps e2 c.gd.ci.so nt (id:=S) c.hV).mono λr w'' h=>tG.r h,?_⟩);rw[eA];unfold xg;simp only[e2];rw[Cw,Cw,bN aZ,az9 (gd.ho nd jl).1];by_cases q1:nd.mode=1/\nd.holders.headD 0≠S
 {rw[bN q1,bN q1];rfl};{rw[bG q1,bG q1];rfl}};{exact qg cx 7 0 D rV 270 (.agg #[.U S,.string (aO P),.S pq nv cv]) 320 319 (.agg #[.U S,.string (aO P),.S pq nv cv]) (λh=>absurd h h0)}
def as1(cx:Sg w0 w b bs bn D SB NB HB UB S F E G pp np cp pq nv cv P V):Cp 146 #[.pointer (some (Ad b 0)),ID (8:Nat) S (.S pp np cp) F (.S pq nv cv) E G] w (N8 w0 w b bs bn D (fE D (8:Nat) S F E G P V)):=by
 by_cases h0:yz D (rowOf 8).1 (rowOf 8).2.1 (Fa 8 S F P.length V.length E G) (8:Nat) S P=0;{
 obtain⟨hB,hs,hp⟩:=Rp h0;obtain⟨i,nd,e2,rfl,e4⟩:=vN (k:=8) (S:=S) (F:=F) (E:=E) (G:=G) (V:=V) (.inr (.inr (.inr (.inl rfl)))) (hp rfl);have jl:=aY e2;have eA:=(vw aZ aZ aZ h0).trans e4;have gd:=cx.gd;obtain⟨nt,nh,nl⟩:=gd.ci.nt nd jl;have rK:=nt.pl;have hF:F=1\/F=2:=by simp only[Fa,rowOf,fmF,fx,jw]at hB;omega
 refine qg cx 8 (nL D nd S F) (sr D i S F).1 (sr D i S F).2 272 (.agg #[.U S,.string (aO nd.path),.I F]) 322 321 (.agg #[.U S,.string (aO nd.path),.I F]) (λ_=>⟨λw' c=>aC8 c.ps e2 rK c.hS hF (af rfl),?_,?_⟩) (hRk:=λhC=>by rcases hF with rfl|rfl;exact uO (λz:SD×RP=>z.2.k) (Ks e2 (λh=>sV.1 (((gd.ho nd jl).2 ae).2.2 h)) hC).1;exact uO (λz:SD×RP=>z.2.k) (Kq e2 hC));{
 intro hC w' c;rcases hF with rfl|rfl;{obtain⟨q1,q2⟩:=Ks e2 (λh=>sV.1 (((gd.ho nd jl).2 ae).2.2 h)) hC;rw[q1];exact(ag7 c.ps e2 rK nh nl c.hS ⟨gd.wf.g.1,q2⟩).mono λr w'' h=>tG.r h};{
 rw[Kq e2 hC];have Dt:nd.mode≠1:=λe=>by unfold nL at hC;rw[bN rfl,bN e]at hC;split at hC<;>omega
 obtain⟨q1,q2,-⟩:=(gd.ho nd jl).2 Dt;exact(ag6 c.ps e2 rK nh nl c.hS ⟨q1,q2⟩).mono λr w'' h=>tG.r h}};rw[eA];unfold xg;simp only[e2];rw[Cw,Cw,Cw,bN aZ];by_cases q1:nL D nd S F=0;{rw[bN q1]};{rw[bG q1,ag5 e2 q1]}};{exact qg cx 8 0 D rV 272 (.agg #[.U S,.string (aO P),.I F]) 322 321 (.agg #[.U S,.string (aO P),.I F]) (λh=>absurd h h0)}
def UX(cx:Sg w0 w b bs bn D SB NB HB UB S F E G pp np cp pq nv cv P V):Cp 146 #[.pointer (some (Ad b 0)),ID (9:Nat) S (.S pp np cp) F (.S pq nv cv) E G] w (N8 w0 w b bs bn D (fE D (9:Nat) S F E G P V)):=by
 by_cases h0:yz D (rowOf 9).1 (rowOf 9).2.1 (Fa 9 S F P.length V.length E G) (9:Nat) S P=0;{
 obtain⟨hB,hs,hp⟩:=Rp h0;obtain⟨i,nd,e2,rfl,e4⟩:=vN (k:=9) (S:=S) (F:=F) (E:=E) (G:=G) (V:=V) (.inr (.inr (.inr (.inr (.inl rfl))))) (hp rfl);have jl:=aY e2;have eA:=(vw aZ aZ aZ h0).trans e4;have gd:=cx.gd;obtain⟨nt,nh,nl⟩:=gd.ci.nt nd jl;have rK:=nt.pl;refine qg cx 9 (if nd.holders.contains S=true then 0 else 10) (dO D i S) rV 273 (.agg #[.U S,.string (aO nd.path)]) 324 323 (.agg #[.U S,.string (aO nd.path)]) (λ_=>⟨λw' c=>WU c.ps e2 rK c.hS (af rfl),λhC w' c=>by
   have Dw:nd.holders.contains S=true:=by by_cases q:nd.holders.contains S=true;{exact q};{rw[bG q]at hC;omega}
   exact(WV c.ps e2 c.gd.ci.so nt c.hS nh nl Dw).mono λr w'' h=>tG.r h,?_⟩)
 rw[eA];unfold xg;simp only[e2];rw[Cw,Cw,Cw,Cw,bN aZ];by_cases q1:nd.holders.contains S=true;{rw[bN q1,bN q1];rfl};{rw[bG q1,bG q1];rfl}};{exact qg cx 9 0 D rV 273 (.agg #[.U S,.string (aO P)]) 324 323 (.agg #[.U S,.string (aO P)]) (λh=>absurd h h0)}
def UZ(cx:Sg w0 w b bs bn D SB NB HB UB S F E G pp np cp pq nv cv P V):Cp 146 #[.pointer (some (Ad b 0)),ID (4:Nat) S (.S pp np cp) F (.S pq nv cv) E G] w (N8 w0 w b bs bn D (fE D (4:Nat) S F E G P V)):=by
 obtain⟨j,hj,ej⟩:=Wo (mF P V (if F=1 then S else 0)) D.ns;refine qg cx 4 (Nq D P) {D with ns:=mK (mF P V (if F=1 then S else 0)) D.ns} rV 264 (.agg #[.U S,.string (aO P),.bool (F==1),.S pq nv cv]) 314 313 (.agg #[.U S,.string (aO P),.bool (F==1),.S pq nv cv]) (λh0=>⟨λw' c=>Ym c.ps c.hB c.eP c.hp (λnd bj=>(c.gd.wf.pb nd bj).2.1) (id:=S) (F:=F==1) (pv:=pq) (nv:=nv) (cv:=cv) (af rfl),λhC w' c=>?_,?_⟩);{
 obtain⟨-,l9,-⟩:=DJ (V:=V) (S:=S) (F:=F) hC;have hA:=Yn c.ps (P:=P) (id:=S) (F:=F==1) c.hV (by show _<=_;rw[c.eP];exact c.hp) (λnd' bj e=>by have e5:=mH (c.gd.wf.pb nd' bj).2.1 c.hB e;have:=Qi.1 l9 nd' bj;simp[e5]at this) c.gd.nl hj
 refine hA.mono λr w''⟨gN,hN,uN,h⟩=>?_;have e6:(if(F==1)=true then S else 0)=if F=1 then S else 0:=by by_cases q:F=1<;>simp[q]
 rw[e6]at h;rw[ej];exact tG.r h};{
 obtain⟨hB,hs,hp⟩:=Rp h0;rw[vw aZ aZ aZ h0];have e7:zy D (4:Nat) S F E G P V=mr D P V S F:=by rcases aM5 (hp rfl)with hr|⟨hr,hv,-⟩;{rw[LK aZ]at hr;cases hr};{unfold zy;rw[hr,hv,bG ai,bN aZ]}
 rw[e7];by_cases hC:Nq D P=0;{rw[bN hC,(DJ hC).1]};{rw[bG hC,UN hC]}}
def aJ9(hj:K=1\/K=3\/K=4\/K=5\/K=7\/K=8\/K=9)(cx:Sg w0 w b bs bn D SB NB HB UB S F E G pp np cp pq nv cv P V):Cp 146 #[.pointer (some (Ad b 0)),ID K S (.S pp np cp) F (.S pq nv cv) E G] w (N8 w0 w b bs bn D (fE D K S F E G P V)):=by
 rcases hj with rfl|rfl|rfl|rfl|rfl|rfl|rfl;{exact as0 cx};{exact Ys cx};{exact UZ cx};{exact UY cx};{exact aJ8 cx};{exact as1 cx};{exact UX cx}
end
def aY2(l m:LI):ltB l m=decide (¬rz m<rz l/\rz m≠rz l):=by
 unfold ltB;rw[T.oy,fI,fI];show(!decide (rz m<rz l)&&!(rz m==rz l))=_;by_cases h1:rz m<rz l<;>by_cases h2:rz m=rz l<;>simp[h1,h2]
theorem EH{x:aC}:∀{l:List aC},x∈mK nd l↔x=nd\/x∈l
 |[]=>by simp[mK]
 |y::r=>by rw[mK];split;{simp};{rw[jG,EH,jG];constructor;{rintro(h|h|h);{exact .inr (.inl h)};{exact .inl h};{exact .inr (.inr h)}};{rintro(h|h|h);{exact .inr (.inl h)};{exact .inl h};{exact .inr (.inr h)}}}
def bL9{x y:List UInt8}(h1:¬y<x)(h2:y≠x):x<y:=by
 rcases Aj (x<y)with h|h;{exact h};{exact absurd (List.le_antisymm h1 h) (λe=>h2 e.symm)}
theorem ah9:∀{l:List aC},(l.map λnd=>rz nd.path).Pairwise (·<·)->(∀x∈l,rz x.path≠rz nd.path)->((mK nd l).map λnd=>rz nd.path).Pairwise (·<·)
 |[],_,_=>by simp[mK]
 |y::r,h,cg=>by
  rw[iM,Al]at h;obtain⟨h1,h2⟩:=h;have hy:=cg y ai;rw[mK,aY2];split;{
 rename_i hl
 simp only[jw]at hl;have aT:rz nd.path<rz y.path:=bL9 hl.1 hl.2;rw[iM,iM,Al,Al];refine⟨λz hz=>?_,h1,h2⟩;rcases jG.1 hz with rfl|hz;{exact aT};{exact List.lt_trans aT (h1 z hz)}};{
 rename_i hl
 simp only[jw]at hl;have aT:rz y.path<rz nd.path:=aP0 λhh=>hl ⟨hh,hy⟩;rw[iM,Al];refine⟨λz hz=>?_,ah9 h2 (λx hx=>cg x (by simp[hx]))⟩;obtain⟨x,hx,rfl⟩:=ji.1 hz;rcases EH.1 hx with rfl|hx;{exact aT};{exact h1 _ (ji.2 ⟨x,hx,rfl⟩)}}
def aK0(hl:aN l)(hm:aN m)(h:rz l=rz m):l=m:=mH hl hm (by unfold cL;exact uO Lit.string h)
def SV(x:Int)(s:aP):Prop:=(1<=s.1/\s.1<=x)/\(0<=s.2.1/\s.2.1<=1000015)/\s.2.2=[]
def pZ(ss:List aP):LI:=ss.map (·.1)
def AU(ns:List aC):List (LI×Int):=ns.map λnd=>(nd.path,nd.owner)
def CP(C:List (LI×Int))(l:LI):Prop:=l=[47]\/(l,0)∈C
structure NV(e g:Int)(I:LI)(C:List (LI×Int))(nd:aC):Prop where
 ep:0<=nd.aJ
 vp:vp nd.path=true
 pb:aN nd.path
 cp:CP C (fg nd.path)
 va:nd.value.length<=40
 vb:aN nd.value
 ow:nd.owner=0\/nd.owner∈I
 h1:nd.holders.Pairwise (·<·)
 h2:∀i∈nd.holders,i∈I
 w1:nd.watchers=[]
 w2:∀i∈nd.watchers,i∈I
 lk:fe e g nd.mode nd.holders.length nd.aJ nd.gen=true
structure VD(D:SD):Prop where
 e:0<=D.e/\D.e<=4611686018427387904
 g:0<=D.g/\D.g<=4611686018427387904
 x:0<=D.x/\D.x<=4611686018427387904
 t:0<=D.t/\D.t<=1000000
 sl:D.ss.length<=50
 nl:D.ns.length<=200
 s1:(pZ D.ss).Pairwise (·<·)
 s2:∀s∈D.ss,SV D.x s
 n1:(D.ns.map λnd=>rz nd.path).Pairwise (·<·)
 n2:∀nd∈D.ns,NV D.e D.g (pZ D.ss) (AU D.ns) nd
def VG(hk:ns[k]?=some nd)(hp:nd'.path=nd.path)(ho:nd'.owner=nd.owner):AU (ns.set k nd')=AU ns:=by
 unfold AU;rw[Wh];exact yY (by rw[nj,hk];simp[hp,ho])
def VD.tS(h:VD D)(hk:D.ns[k]?=some nd)(hp:nd'.path=nd.path)(ho:nd'.owner=nd.owner)(hn:NV D.e D.g (pZ D.ss) (AU D.ns) nd'):VD {D with ns:=D.ns.set k nd'}:=by
 refine⟨h.e,h.g,h.x,h.t,h.sl,by show(List.set _ _ _).length<=_;rw[pO];exact h.nl,h.s1,h.s2,?_,λy hy=>?_⟩;{
 have e:(D.ns.set k nd').map (λnd=>rz nd.path)=D.ns.map λnd=>rz nd.path:=by have:=uO (List.map rz) (rU hk hp);rw[qX,qX]at this;exact this
 show List.Pairwise _ (List.map _ (D.ns.set k nd'));rw[e];exact h.n1};{show NV _ _ _ (AU (D.ns.set k nd')) y;rw[VG hk hp ho];rcases Qh hy with hy|rfl;{exact h.n2 y hy};{exact hn}}
theorem VD.tell(h:VD D)(k:Nat)(kd:Int):VD (dV D k kd):=by
 unfold dV;cases hk:D.ns[k]? with
 |none=>exact h
 |some nd=>
  have hn:=h.n2 nd (aY hk);simp only;rw[hn.w1];exact h.tS hk rfl rfl ⟨hn.ep,hn.vp,hn.pb,hn.cp,hn.va,hn.vb,hn.ow,hn.h1,hn.h2,rfl,λi hi=>by simp at hi,hn.lk⟩
def Bl(hk:D.ns[k]?=some nd)(kd:Int):∃JO,dV D k kd={D with ss:=JO,ns:=D.ns.set k {nd with watchers:=[]}}/\pZ JO=pZ D.ss:=by
 unfold dV;rw[hk];exact⟨_,rfl,Bo _ _ _⟩
theorem Xj(ns:List aC)(k:Nat):AU (ns.eraseIdx k)=(AU ns).eraseIdx k:=by
 unfold AU
 induction ns generalizing k with
 |nil=>rfl
 |cons a r ih=>cases k with
  |zero=>rfl
  |succ k=>simp[ih]
def VD.rm(h:VD D)(hk:D.ns[k]?=some nd)(hc:nd.owner≠0\/∀z∈AU D.ns,fg z.1≠nd.path):VD (Sk D k):=by
 refine⟨h.e,h.g,h.x,h.t,h.sl,dQ (bu7 (Gx _ _)) h.nl,h.s1,h.s2,h.n1.sublist ((Gx _ _).map _),λy hy=>?_⟩;have hy':=Gw hy;have hn:=h.n2 y hy';refine⟨hn.ep,hn.vp,hn.pb,?_,hn.va,hn.vb,hn.ow,hn.h1,hn.h2,hn.w1,hn.w2,hn.lk⟩;rcases hn.cp with e|e;{exact .inl e};{
 refine .inr ?_;show _∈AU (D.ns.eraseIdx k);rw[Xj,aO7];obtain⟨j,hj⟩:=gH.1 e;refine⟨j,λej=>?_,hj⟩;subst ej;have:(AU D.ns)[j]?=some (nd.path,nd.owner):=by unfold AU;rw[nj,hk];rfl
 rw[this]at hj;simp only[kU,fQ]at hj;rcases hc with hc|hc;{exact hc hj.2};{exact hc (y.path,y.owner) (ji.2 ⟨y,hy',rfl⟩) hj.1.symm}}
theorem VD.drop(h:VD D)(k:Nat)(id:Int):VD (dO D k id):=by
 unfold dO;cases hk:D.ns[k]? with
 |none=>exact h
 |some nd=>
  have hn:=h.n2 nd (aY hk);simp only;split;{
 rename_i hc
 split;{exact VD.tell (D:={D with ns:=D.ns.set k {nd with holders:=[],mode:=0,aJ:=0,gen:=0}}) (h.tS hk rfl rfl ⟨pQ _,hn.vp,hn.pb,hn.cp,hn.va,hn.vb,hn.ow,List.Pairwise.nil,λi hi=>by simp at hi,hn.w1,hn.w2,rfl⟩) k _};{
 rename_i hw
 refine h.tS hk rfl rfl ⟨hn.ep,hn.vp,hn.pb,hn.cp,hn.va,hn.vb,hn.ow,Ow hn.h1,λi hi=>hn.h2 i (qS.1 hi).1,hn.w1,hn.w2,?_⟩;show fe D.e D.g nd.mode (qT nd.holders id).length nd.aJ nd.gen=true;have hid:id∈nd.holders:=by simpa using hc
 have cn6:1<=(qT nd.holders id).length:=by
  cases hq:qT nd.holders id with
  |nil=>exact absurd hq hw
  |cons a r=>simp
 have m1:nd.mode≠1:=λhm=>by have h1:=sY hn.lk hm;obtain⟨a,ha⟩:=aO5.1 h1;rw[ha]at hid hw;simp at hid;subst hid;exact hw (by simp[qT])
 have hl:=hn.lk;unfold fe at hl⊢;rw[bG m1]at hl⊢;by_cases m0:nd.mode=0;{have:=(uR hn.lk m1).2.2 m0;have:nd.holders=[]:=sV.1 this;rw[this]at hid;simp at hid};{rw[bG m0]at hl⊢;simp only[fx,jw]at hl⊢;exact⟨hl.1,hl.2.1,hl.2.2.1,cn6⟩}}};{exact h}
def Yi(hk:D.ns[k]?=some nd){id:Int}:∃JO lx,dO D k id={D with ss:=JO,ns:=D.ns.set k lx}/\pZ JO=pZ D.ss/\lx.path=nd.path/\lx.owner=nd.owner/\id∉lx.holders/\(lx.watchers=nd.watchers\/lx.watchers=[]):=by
 unfold dO;rw[hk];simp only;split;{split;{have hk':(D.ns.set k {nd with holders:=[],mode:=0,aJ:=0,gen:=0})[k]?=some {nd with holders:=[],mode:=0,aJ:=0,gen:=0}:=bL hk _;obtain⟨JO,e,hi⟩:=Bl (D:={D with ns:=D.ns.set k {nd with holders:=[],mode:=0,aJ:=0,gen:=0}}) hk' 3;refine⟨JO,{nd with holders:=[],mode:=0,aJ:=0,gen:=0,watchers:=[]},by rw[e];simp only[Kf],hi,rfl,rfl,ai,.inr rfl⟩};{exact⟨D.ss,_,rfl,rfl,rfl,rfl,λhm=>(qS.1 hm).2 rfl,.inl rfl⟩}};{
 rename_i hc
 exact⟨D.ss,nd,by rw[yY hk],rfl,rfl,rfl,by simpa using hc,.inl rfl⟩}
def bk3(id:Int)(nd:aC):Prop:=nd.owner≠id/\id∉nd.holders
def Ma(id:Int)(ns:List aC):Nat:=ns.countP λnd=>decide (nd.owner=id)
theorem VD.dF{id:Int}(h0:id≠0):∀(f k:Nat){D:SD},VD D->(∀nd∈D.ns,id∉nd.watchers)->(∀(j:Nat)(nd:aC),j<k->D.ns[j]?=some nd->bk3 id nd)->D.ns.length<=k+f→
  VD (Proofs.YtkakbcaiplggiaaGreatDoor.dF id f k D)/\pZ (Proofs.YtkakbcaiplggiaaGreatDoor.dF id f k D).ss=pZ D.ss/\(∀nd∈(Proofs.YtkakbcaiplggiaaGreatDoor.dF id f k D).ns,bk3 id nd/\id∉nd.watchers)/\(Proofs.YtkakbcaiplggiaaGreatDoor.dF id f k D).ns.length+Ma id (D.ns.drop k)=D.ns.length
 |0,k,D,h,hw,hg,hl=>by
  unfold Proofs.YtkakbcaiplggiaaGreatDoor.dF;refine⟨h,rfl,λnd bj=>⟨?_,hw nd bj⟩,?_⟩;{obtain⟨j,hj⟩:=gH.1 bj;have:=(bf.1 hj).1;exact hg j nd ae hj};{
 rw[Kn ae]
 rfl}
 | f+1,k,D,h,hw,hg,hl=>by
  unfold Proofs.YtkakbcaiplggiaaGreatDoor.dF;cases hk:D.ns[k]? with
  |none=>
   have hle:D.ns.length<=k:=by simpa using hk
   have e:dO D k id=D:=by unfold dO;rw[hk]
   rw[e,hk];dsimp only;refine⟨h,rfl,λnd bj=>⟨?_,hw nd bj⟩,?_⟩;{obtain⟨j,hj⟩:=gH.1 bj;have:=(bf.1 hj).1;exact hg j nd ae hj};{
 rw[Kn hle]
 rfl}
  | some nd=>
   have aT:=(bf.1 hk).1;have hv:=h.drop k id;obtain⟨JO,lx,e,hi,e1,e2,e3,e4⟩:=Yi hk (id:=id);rw[e]at hv⊢;have la:(D.ns.set k lx)[k]?=some lx:=bL hk _;have hdr:D.ns.drop k=nd::D.ns.drop (k+1):=(List.jW hk).symm;have hw1:∀y∈D.ns.set k lx,id∉y.watchers:=λy hy=>by
    rcases Qh hy with hy|rfl;{exact hw y hy};{
 rcases e4 with e4|e4<;>rw[e4]
 {exact hw nd (aY hk)};{simp}}
   simp only[la];by_cases ho:lx.owner=id;{
 rw[bN ho];obtain⟨ss2,eT,hi2⟩:=Bl (D:={D with ss:=JO,ns:=D.ns.set k lx}) la 2;have hvT:=VD.tell (D:={D with ss:=JO,ns:=D.ns.set k lx}) hv k 2;rw[eT]at hvT⊢;simp only[Kf]at hvT⊢;have rO:(D.ns.set k {lx with watchers:=[]})[k]?=some {lx with watchers:=[]}:=bL hk _;have hvR:=VD.rm hvT (nd:={lx with watchers:=[]}) rO (.inl (by show lx.owner≠0;rw[ho];exact h0));have YS:(Sk {D with ss:=ss2,ns:=D.ns.set k {lx with watchers:=[]}} k).ns=D.ns.eraseIdx k:=by show(D.ns.set k _).eraseIdx k=_;exact List.eraseIdx_set_eq
 have hlen:(D.ns.eraseIdx k).length=D.ns.length-1:=List.length_eraseIdx_of_lt aT;obtain⟨q1,q2,q3,q4⟩:=VD.dF h0 f k hvR (λy hy=>by
  rw[YS]at hy;exact hw y (Gw hy)) (λj y hj hy=>by
  rw[YS,List.getElem?_eraseIdx_of_lt hj]at hy;exact hg j y hj hy) (by rw[YS,hlen];omega)
 refine⟨q1,q2.trans (hi2.trans hi),q3,?_⟩;rw[YS,hlen,Ih aT]at q4;rw[hdr,Ma,List.countP_cons_of_pos (by simp[<-e2,ho]),<-Ma];omega};{
 rw[bG ho];obtain⟨q1,q2,q3,q4⟩:=VD.dF h0 f (k+1) hv hw1 (λj y hj hy=>by
  change(D.ns.set k lx)[j]?=some y at hy
  rw[vZ]at hy;by_cases ej:k=j;{subst ej;rw[bN rfl,bN aT]at hy;cases hy;exact⟨ho,e3⟩};{rw[bG ej]at hy;exact hg j y ae hy}) (by show(List.set _ _ _).length<=_;rw[pO];omega)
 refine⟨q1,q2.trans hi,q3,?_⟩;have e5:(D.ns.set k lx).drop (k+1)=D.ns.drop (k+1):=by rw[List.drop_set_of_lt ae]
 simp only[e5,pO]at q4;rw[hdr,Ma,List.countP_cons_of_neg (by simp[<-e2,ho]),<-Ma];exact q4}
def Me{id:Int}:pZ (Xp id ss)=(pZ ss).filter λi=>!(i==id):=by
 unfold pZ Xp;rw[List.filter_map]
 rfl
def VD.close(h:VD D){id:Int}(h0:id≠0):VD (jM D id)/\pZ (jM D id).ss=(pZ D.ss).filter (λi=>!(i==id))/\(∀nd∈(jM D id).ns,bk3 id nd/\id∉nd.watchers)/\(jM D id).ns.length+Ma id D.ns=D.ns.length:=by
 have hcw:VD {D with ns:=D.ns.map (IM id)}:=by
  have ep:AU (D.ns.map (IM id))=AU D.ns:=by unfold AU;rw[qX];rfl
  refine⟨h.e,h.g,h.x,h.t,h.sl,by show(List.map _ _).length<=_;rw[dZ];exact h.nl,h.s1,h.s2,by show List.Pairwise _ (List.map _ (D.ns.map (IM id)));rw[qX];exact h.n1,λy hy=>?_⟩;obtain⟨z,hz,rfl⟩:=ji.1 hy;have hn:=h.n2 z hz;show NV _ _ _ (AU (D.ns.map (IM id))) _;rw[ep];exact⟨hn.ep,hn.vp,hn.pb,hn.cp,hn.va,hn.vb,hn.ow,hn.h1,hn.h2,(by show qT z.watchers id=[];rw[hn.w1];rfl),λi hi=>hn.w2 i (qS.1 hi).1,hn.lk⟩
 obtain⟨q1,q2,q3,q4⟩:=VD.dF h0 D.ns.length 0 hcw (λy hy=>by obtain⟨z,hz,rfl⟩:=ji.1 hy;exactλhm=>(qS.1 hm).2 rfl) (λj y hj=>ae) (by show(List.map _ _).length<=_;rw[dZ];omega)
 refine⟨?_,(Me).trans (by rw[q2]),q3,?_⟩;{
 refine⟨q1.e,q1.g,q1.x,q1.t,dQ (Qg _ _) q1.sl,q1.nl,?_,λs hs=>q1.s2 s (Kh.1 hs).1,q1.n1,λy hy=>?_⟩;{show List.Pairwise _ (pZ (Xp id _));rw[Me];exact q1.s1.filter _};{
 have hn:=q1.n2 y hy;obtain⟨⟨g1,g2⟩,g3⟩:=q3 y hy;have key:∀i,i∈pZ (Proofs.YtkakbcaiplggiaaGreatDoor.dF id D.ns.length 0 {D with ns:=D.ns.map (IM id)}).ss->i≠id->i∈pZ (Xp id (Proofs.YtkakbcaiplggiaaGreatDoor.dF id D.ns.length 0 {D with ns:=D.ns.map (IM id)}).ss):=λi hi cg=>by rw[Me];exact Kh.2 ⟨hi,by simp[cg]⟩
 exact⟨hn.ep,hn.vp,hn.pb,hn.cp,hn.va,hn.vb,hn.ow.imp (λh=>h) (λho=>key _ ho g1),hn.h1,λi hi=>key i (hn.h2 i hi) (λe=>g2 (e▸hi)),hn.w1,λi hi=>key i (hn.w2 i hi) (λe=>g3 (e▸hi)),hn.lk⟩}};{
 have e:Ma id (List.drop 0 (D.ns.map (IM id)))=Ma id D.ns:=by
  rw[tW,Ma,List.countP_map]
  rfl
 have q5:=q4;simp only[dZ]at q5;rw[e]at q5;exact q5}
def PD.pw(h:(ns.map λnd=>rz nd.path).Pairwise (·<·)):PD ns:=λi j a b ha hb e=>by
 have key:∀(i j:Nat)(a b:aC),ns[i]?=some a->ns[j]?=some b->a.path=b.path->¬i<j:=λi j a b ha hb e kr=>by obtain⟨h1,rfl⟩:=bf.1 ha;obtain⟨h2,rfl⟩:=bf.1 hb;have:=Jf.1 h i j (by simpa using h1) (by simpa using h2) kr;simp only[ae7,e]at this;exact List.lt_irrefl _ this
 have h1:=key i j a b ha hb e;have h2:=key j i b a hb ha e.symm;omega
theorem Cv(hd:PD ns):dU ns l=true↔CP (AU ns) l:=by
 unfold dU CP;by_cases h:l=[47];{simp[h]};{
 rw[bG h];constructor;{
 intro hc;cases hn:iq ns l with
 |none=>rw[hn]at hc;cases hc
 |some nd=>
  rw[hn]at hc;have hp:nd.path=l:=by simpa using Qj hn
  exact .inr (ji.2 ⟨nd,VX hn,by rw[hp,show nd.owner=0 by simpa using hc]⟩)};{
 rintro(e|e);{exact absurd e h};{
 obtain⟨nd,hm,e2⟩:=ji.1 e;simp only[fQ]at e2;cases hn:iq ns l with
 |none=>exact absurd (Qi.1 hn nd hm) (by simp[e2.1])
 |some n2=>
  have hp:n2.path=l:=by simpa using Qj hn
  obtain⟨i,hi⟩:=gH.1 hm;obtain⟨j,hj⟩:=gH.1 (VX hn);have:=hd i j nd n2 hi hj (e2.1.trans hp.symm);subst this;rw[hi]at hj;cases hj;simp[e2.2]}}}
theorem WK(h:l.Pairwise (·<·))(hi:i<l.length):(i==0||decide (l.getD (i-1) 0<l.getD i 0))=true:=by
 cases i with
 |zero=>rfl
 |succ i=>
  have:=Jf.1 h i (i+1) ae hi ae;simp[gK,bD hi,bD (show i<l.length by omega),this]
def GP{i:Int}:live ss i=true↔i∈pZ ss:=by
 unfold live pZ;simp only[Kl,Mo,ji]
def ai8(h:l.Pairwise (·<·))(h2:∀i∈l,i∈pZ ss):iR ss l=true:=by
 unfold iR;simp only[jy,Cd];intro i hi;unfold Jm;rw[WK h hi,Bool.and_true,GP];refine h2 _ ?_;rw[gK,bD hi];exact Ac hi
def bh1:∀(a b:List UInt8),Op.bytesLess a b=true↔a<b:=λa b=>by rw[T.oy];simp
theorem VD.ok(h:VD D):mY D.e D.g D.x D.t D.ss D.ns=true:=by
 unfold mY;simp only[fx,jw,jy,Cd];refine⟨⟨h.e.2,h.g.2,h.x.2,h.t.1,h.t.2,h.sl,h.nl⟩,λi hi=>?_,λi hi=>?_⟩;{
 have hs:=h.s2 _ (Ac hi);have ha:=WK h.s1 (i:=i) (by unfold pZ;simpa using hi);have e:∀j,(D.ss.getD j (0,0,[])).1=(pZ D.ss).getD j 0:=λj=>by unfold pZ;rw[gK,gK,nj];cases D.ss[j]?<;>rfl
 have ed:D.ss.getD i (0,0,[])=D.ss[i]:=by rw[gK,bD hi];rfl
 rw[<-e,<-e]at ha;unfold mB;rw[ha,ed];simp only[fx,jw,pM];exact⟨hs.1.1,hs.1.2,hs.2.1.1,hs.2.1.2,by rw[hs.2.2];rfl⟩};{
 have hn:=h.n2 _ (Ac hi);unfold lI;simp only[gK,bD hi,si,fx,jw,Kj];refine⟨⟨hn.vp,?_⟩,(Cv (PD.pw h.n1)).2 hn.cp,hn.va,?_,ai8 hn.h1 hn.h2,ai8 (hn.w1▸List.Pairwise.nil) hn.w2,hn.lk⟩;{
 cases i with
 |zero=>exact .inl rfl
 |succ i=>
  refine .inr ?_;have:=Jf.1 h.n1 i (i+1) aU (by simpa using hi) ae;simp only[ae7]at this;simp only[Am,bD (show i<D.ns.length by omega),si];rw[nT,bh1,fI,fI];exact this};{rcases hn.ow with e|e;{exact .inl (by simp[e])};{exact .inr (GP.2 e)}}}
def VD.of(h:mY e g x t ss ns=true)(hF:AM ss ns)(g0:0<=g)(x0:0<=x)(hq:∀s∈ss,s.2.2=[])(hv:∀nd∈ns,aN nd.value)(hw:∀nd∈ns,nd.watchers=[])(e0:0<=e)(hE:∀nd∈ns,0<=nd.aJ):VD ⟨e,g,x,t,ss,ns⟩:=by
 have h':=h;unfold mY at h';simp only[fx,jw]at h';obtain⟨⟨l1,l2,l3,l4,l5,l6,l7⟩,a1,a2⟩:=h';refine⟨⟨e0,l1⟩,⟨g0,l2⟩,⟨x0,l3⟩,⟨l4,l5⟩,l6,l7,by unfold pZ;rw[D7];exact hF.s1,λs hs=>?_,hF.n1,λnd bj=>?_⟩;{obtain⟨i,hi⟩:=gH.1 hs;have:=jy.1 a1 i (by simpa using(bf.1 hi).1);unfold mB at this;rw[gK,hi]at this;simp only[si,fx,jw]at this;exact⟨⟨this.1,this.2.1⟩,⟨this.2.2.2.1,this.2.2.2.2.1⟩,hq s hs⟩};{obtain⟨i,hi⟩:=gH.1 bj;obtain⟨f1,f2,f3,f4,f5,f6,f7⟩:=hF.n2 nd bj;have KL:=(bf.1 hi).1;have:=jy.1 a2 i (by simpa using KL);unfold lI at this;simp only[gK,hi,si,fx,jw,Kj]at this;obtain⟨⟨q1,-⟩,q2,q3,q4,q5,q6,q7⟩:=this;refine⟨hE nd bj,q1,f1,(Cv (PD.pw hF.n1)).1 q2,q3,hv nd bj,q4.imp (λe=>by simpa using e) GP.1,f6,λj hj=>?_,hw nd bj,λj hj=>?_,q7⟩;{obtain⟨s,hs,e⟩:=xX q5 j hj;exact ji.2 ⟨s,hs,e⟩};{obtain⟨s,hs,e⟩:=xX q6 j hj;exact ji.2 ⟨s,hs,e⟩}}
theorem ZN{S:Int}(h:¬xF ss S<0):S∈pZ ss:=by
 unfold xF at h;cases hf:ss.findIdx? (λs=>s.1==S)with
 |none=>rw[hf]at h;simp at h
 |some k=>
  obtain⟨h1,h2,-⟩:=Da.1 hf;exact ji.2 ⟨_,Ac h1,by simpa using h2⟩
def NV.gen{e' g':Int}{I:LI}{C:List (LI×Int)}(h:NV e g I C nd)(he:e<=e')(hg:g<=g'):NV e' g' I C nd:=by
 refine⟨h.ep,h.vp,h.pb,h.cp,h.va,h.vb,h.ow,h.h1,h.h2,h.w1,h.w2,?_⟩;have:=h.lk;unfold fe at this⊢;split;{
 rename_i hm
 rw[bN hm]at this;simp only[fx,jw]at this⊢;exact⟨this.1,this.2.1,ae,ae⟩};{
 rename_i hm
 rwa [bG hm]at this}
def NV.ids{I I':LI}{C:List (LI×Int)}(h:NV e g I C nd)(hi:∀i∈I,i∈I'):NV e g I' C nd:=
 ⟨h.ep,h.vp,h.pb,h.cp,h.va,h.vb,h.ow.imp (λh=>h) (hi _),h.h1,λi hh=>hi i (h.h2 i hh),h.w1,λi hh=>hi i (h.w2 i hh),h.lk⟩
def VD.create(h:VD D){S F:Int}(hv:vp P=true)(hB:aN P)(hV:V.length<=40)(bV:aN V)(hS:S∈pZ D.ss):VD (mr D P V S F).1:=by
 unfold mr;split;{exact h};{
 rename_i h1
 split;{exact h};{
 rename_i h2
 split;{exact h};{
 rename_i h3
 have l9:iq D.ns P=none:=by simpa using h1
 have hc:dU D.ns (fg P)=true:=by simpa using h2
 have hcp:=(Cv (PD.pw h.n1)).1 hc;have hm:∀z∈AU D.ns,z∈AU (mK (mF P V (if F=1 then S else 0)) D.ns):=λz hz=>by obtain⟨y,hy,rfl⟩:=ji.1 hz;exact ji.2 ⟨y,EH.2 (.inr hy),rfl⟩
 have EU:∀l,CP (AU D.ns) l->CP (AU (mK (mF P V (if F=1 then S else 0)) D.ns)) l:=λl hl=>hl.imp (λh=>h) (hm _);refine⟨h.e,h.g,h.x,h.t,h.sl,by show(mK _ _).length<=_;rw[QK];omega,h.s1,h.s2,ah9 h.n1 (λy hy e=>?_),λy hy=>?_⟩;{have:=Qi.1 l9 y hy;exact this (by simpa using aK0 (h.n2 y hy).pb hB e)};{rcases EH.1 hy with rfl|hy;{refine⟨pQ _,hv,hB,EU _ hcp,hV,bV,?_,List.Pairwise.nil,λi hi=>by simp[mF]at hi,rfl,λi hi=>by simp[mF]at hi,rfl⟩;show(if F=1 then S else 0)=0\/_;split;{exact .inr hS};{exact .inl rfl}};{have hn:=h.n2 y hy;exact⟨hn.ep,hn.vp,hn.pb,EU _ hn.cp,hn.va,hn.vb,hn.ow,hn.h1,hn.h2,hn.w1,hn.w2,hn.lk⟩}}}}}
theorem VD.lock(h:VD D)(k:Nat)(fl:Int)(hS:s∈pZ D.ss):VD (sr D k s fl).1:=by
 unfold sr;cases hk:D.ns[k]? with
 |none=>exact h
 |some nd=>
  have hn:=h.n2 nd (aY hk);simp only;split;{exact h};{
 split;{
 split;{exact h};{
 rename_i m1
 refine h.tS hk rfl rfl ⟨hn.ep,hn.vp,hn.pb,hn.cp,hn.va,hn.vb,hn.ow,Zl hn.h1,λi hi=>?_,hn.w1,hn.w2,?_⟩;{rcases Bj.1 hi with rfl|hi;{exact hS};{exact hn.h2 i hi}};{obtain⟨l1,l2,-⟩:=uR hn.lk m1;show fe D.e D.g 2 (xA nd.holders s).length nd.aJ nd.gen=true;have:1<=(xA nd.holders s).length:=aO3 (Bj.2 (.inl rfl));simp[fe,l1,l2,this]}}};{
 split;{exact h};{
 split;{exact h};{
 rename_i hg
 have h':VD {D with g:=D.g+1}:=⟨h.e,⟨by have:=h.g;show 0<=D.g+1;omega,by show D.g+1<=_;omega⟩,h.x,h.t,h.sl,h.nl,h.s1,h.s2,h.n1,λy hy=>(h.n2 y hy).gen (pQ _) (by show D.g<=D.g+1;omega)⟩;refine VD.tS h' (nd':={nd with mode:=1,holders:=[s],aJ:=D.e,gen:=D.g+1}) hk rfl rfl ⟨h.e.1,hn.vp,hn.pb,hn.cp,hn.va,hn.vb,hn.ow,ai,λi hi=>?_,hn.w1,hn.w2,?_⟩;{simp at hi;rw[hi];exact hS};{have:=h.g;show fe D.e (D.g+1) 1 1 D.e (D.g+1)=true;simp[fe];omega}}}}}
theorem VD.node(h:VD D)(k:Nat){K S F:Int}(hV:K=7->V.length<=40)(bV:aN V)(hj:K=5\/K=7\/K=8\/K=9)(hS:S∈pZ D.ss\/K=6):VD (xg D k K S F V).1:=by
 unfold xg;cases hk:D.ns[k]? with
 |none=>exact h
 |some nd=>
  have hn:=h.n2 nd (aY hk);simp only;split;{
 split;{exact h};{
 split;{exact h};{
 rename_i Um _
 have Um:jT D.ns nd.path=[]:=by simpa using Um
 obtain⟨JO,eT,-⟩:=Bl hk 2;have hT:=h.tell k 2;rw[eT]at hT⊢;refine VD.rm hT (nd:={nd with watchers:=[]}) (bL hk _) (.inr λz hz e=>?_);rw[show AU ({D with ss:=JO,ns:=D.ns.set k {nd with watchers:=[]}}:SD).ns=AU D.ns from VG hk rfl rfl]at hz;obtain⟨y,hy,rfl⟩:=ji.1 hz;unfold jT at Um;rw[List.map_eq_nil_iff,List.filter_eq_nil_iff]at Um;exact Um y hy (by simpa using e)}}};{
 split;{exact h};{
 rename_i n6
 have hS:=hS.resolve_right n6;split;{
 split;{exact h};{
 rename_i h7 _
 exact VD.tell (D:={D with ns:=D.ns.set k {nd with value:=V}}) (h.tS hk rfl rfl ⟨hn.ep,hn.vp,hn.pb,hn.cp,hV h7,bV,hn.ow,hn.h1,hn.h2,hn.w1,hn.w2,hn.lk⟩) k _}};{split;{exact h.lock k F hS};{split;{split;{exact h.drop k S};{exact h}};{exact absurd hj ae}}}}}
def VD.apply(h:VD D){K S F E G:Int}(hB:aN P)(bV:aN V)(hj:K=1\/K=3\/K=4\/K=5\/K=7\/K=8\/K=9):VD (fE D K S F E G P V).1:=by
 unfold fE;split;{exact h};{
 rename_i hf
 split;{
 unfold pK;split;{exact h};{
 split;{exact h};{
 rename_i h1 h2
 have hx:=h.x;have ht:=h.t;have ei:pZ (D.ss++[(D.x+1,D.t+10,[])])=pZ D.ss++[D.x+1]:=by simp[pZ]
 refine⟨h.e,h.g,⟨by show 0<=D.x+1;omega,by show D.x+1<=_;omega⟩,h.t,by show(D.ss++[_]).length<=_;simp;omega,h.nl,?_,λs hs=>?_,h.n1,λy hy=>?_⟩;{show List.Pairwise _ (pZ (D.ss++[_]));rw[ei,aN3];refine⟨h.s1,ai,λa ha c hc=>?_⟩;simp at hc;obtain⟨s,hs,rfl⟩:=ji.1 ha;have:=(h.s2 s hs).1.2;omega};{rcases gM.1 hs with hs|hs;{have q:=h.s2 s hs;exact⟨⟨q.1.1,by have:=q.1.2;show s.1<=D.x+1;omega⟩,q.2⟩};{simp at hs;rw[hs];exact⟨⟨by show 1<=D.x+1;omega,by show D.x+1<=D.x+1;omega⟩,⟨by show 0<=D.t+10;omega,by show D.t+10<=_;omega⟩,rfl⟩}};{show NV _ _ (pZ (D.ss++[_])) _ y;rw[ei];exact(h.n2 y hy).ids λi hi=>De _ hi}}}};{
 rename_i n1
 split;{exact h};{
 rename_i hs
 have ak3:YR K=true->S∈pZ D.ss:=λhh=>ZN (by intro hn;simp[hh,hn]at hs);split;{exact absurd hj ae};{
 split;{
 rename_i n2 h3
 have:S∈pZ D.ss:=ak3 (by rw[h3];rfl);obtain⟨s,hm,rfl⟩:=ji.1 this;exact(h.close (aG (h.s2 s hm).1.1)).1};{
 split;{exact absurd hj ae};{
 rename_i n2 n3 n12
 have hV:K=4\/K=7->V.length<=40:=λhK=>by rcases hK with rfl|rfl<;>· simp[fmI,Fa,fmF,rowOf]at hf;omega
 unfold zy;split;{exact h};{
 rename_i hp
 split;{
 rename_i h4
 rw[LK ae]at hp;exact h.create (by simpa using hp) hB (hV (.inl h4)) bV (ak3 (by rw[h4];rfl))};{
 split;{exact h};{
 split;{exact h};{
 split;{exact h};{
 rename_i n4 n10 _ n13
 refine h.node _ (λe=>hV (.inr e)) bV ae ?_;by_cases h6:K=6;{exact .inr h6};{exact .inl (ak3 (by simp[YR,n1,h6,n13]))}}}}}}}}}}}}
def VD.wf(h:VD D):WF D:=by
 have hl:∀(l:LI),l.Pairwise (·<·)->(∀i∈l,i∈pZ D.ss)->l.length<=50:=λl hp hm=>by have:=EG l (pZ D.ss) (hp.imp (λSy e=>ae)) hm;have:=h.sl;unfold pZ at*;rw[dZ]at*;omega
 refine⟨h.g,h.x,h.t,λnd bj=>?_,λnd bj=>?_,λnd bj=>?_,λnd bj hm e=>?_,PD.pw h.n1⟩
 all_goals have hn:=h.n2 nd bj
 {exact⟨dQ (Fl hn.vp) aZ,(hn.w1▸iP _),dQ (hl _ hn.h1 hn.h2) aZ⟩};{exact⟨hn.vp,hn.pb,dQ (Fl hn.vp) aZ⟩};{exact dQ hn.va aZ};{have:=sY hn.lk hm;rw[e]at this;cases this}
def VD.ids(h:VD D)(hp:l.Pairwise (·<·))(hm:∀i∈l,i∈pZ D.ss):l.length<=50:=by
 have:=EG l (pZ D.ss) (hp.imp (λSy e=>ae)) hm;have:=h.sl;unfold pZ at*;rw[dZ]at*;omega
def SV.q{s:aP}(h:SV x s):s.2.2.length<=8/\∀e∈s.2.2,aN e.2/\e.2.length<=136:=by
 rw[h.2.2];exact⟨aZ,λe he=>by cases he⟩
def sG.dh{w w':World}(h:sG w b v0 v1 v2 v3 v4 v5 v6)(hk:Kept [blk R] w w')(hb:b<w.heap.size)(cg:b≠R):sG w' b v0 v1 v2 v3 v4 v5 v6:=by
 have e:=hk.cellAt hb (λx hx e=>by simp only[nW]at hx;subst hx;simp[Value.ownBlock]at e;exact cg e.symm);exact⟨(e 0).trans h.1,(e 1).trans h.2.1,(e 2).trans h.2.2.1,(e 3).trans h.2.2.2.1,(e 4).trans h.2.2.2.2.1,(e 5).trans h.2.2.2.2.2.1,(e 6).trans h.2.2.2.2.2.2⟩
abbrev Iv(m:LI)(n:Nat)(t:Bool)(x:Int)(m':LI)(n':Nat)(t':Bool):Prop:=
 ∀(R:Nat)(w':World),qP w' R m n t->Cp 195 #[.pointer (some (Ad R 0))] w' λe w''=>e=.returned (.I x)/\qP w'' R m' n' t'/\Kept [blk R] w' w''
abbrev NN(m:LI)(n:Nat)(t:Bool)(x:Int)(m':LI)(n':Nat)(t':Bool):Prop:=
 ∀(R:Nat)(w':World),qP w' R m n t->Cp 137 #[.pointer (some (Ad R 0))] w' λe w''=>e=.returned (.U x)/\qP w'' R m' n' t'/\Kept [blk R] w' w''
abbrev RM(m:LI)(n:Nat)(t:Bool)(x:LI)(N:Nat)(m':LI)(n':Nat)(t':Bool):Prop:=
 ∀(R:Nat)(w':World),qP w' R m n t->R<w'.heap.size->Cp 196 #[.pointer (some (Ad R 0))] w' λr w''=>∃p' c',r=.returned (.S p' N c')/\Own w'.heap.size w'' (.S p' N c') x/\qP w'' R m' n' t'/\Kept [blk R] w' w''
theorem Uc{c n:Nat}(en:Hid (l.length=n)){w:World}(h:Rd w (.S p n c) l)(hl:Mg n)(xq:n<=c)(hp:Hid ((p=none/\c=0)\/∃b o,p=some (Ad b o)))(jB:Hid (∀b o,p=some (Ad b o)->b<w.heap.size))(hT:Om w){k:Int}{n1 n2 n3 n4 n5 NP NV:Nat}(C1:Hid (Iv l n false k m1 n1 t1))(C2:Hid (NN m1 n1 t1 s m2 n2 t2))(C3:Hid (RM m2 n2 t2 P NP m3 n3 t3))(C4:Hid (Iv m3 n3 t3 f m4 n4 t4))(C5:Hid (RM m4 n4 t4 V NV m5 n5 t5))(eLE:Hid (LE.length=NE))(BL:Hid (aN LE))(HB:Hid (aN l))(E:Hid (NS 200 w k s f 0 0 NP NV NE P V LE)){D:Bool}(eD:Hid (decide (LE=l)=D))(l9:t5=true\/D=false):Calls prog 145 #[.S p n c] w (Rb (.tuple #[zI 0 0 (.S none 0 0) 0 (.S none 0 0) 0 0,.I 13]) w):=by
 have HH:=af h;have HT:=af hT;clear h hT
 go_in
 go_wp2_with fail;obtain⟨W,hW⟩:=az ((w.alloc (.cells #[.I 0,.U 0,.S none 0 0,.I 0,.S none 0 0,.U 0,.U 0] 73)).alloc (.cells #[.S p n c,.bool false] 172));have bW:Bw w W:=hW▸gp (gp au);obtain⟨R0,Rh⟩:=az w.heap.size;obtain⟨R,eR⟩:=az (R0+1);have hR0:sG W R0 (.I 0) (.U 0) (.S none 0 0) (.I 0) (.S none 0 0) (.U 0) (.U 0):=by rw[hW,Rh];simp[sG,go_sem]
 have fR0:∀o,W.frozen? (Ad R0 o)=false:=λo=>by rw[hW,Rh];simp[go_sem]
 have zW:W.heap.size=R+1:=by rw[hW,eR,Rh];simp
 have hRd:qP W R l n false:=by refine⟨aa en,λo=>by rw[hW,eR,Rh];simp[go_sem],p,c,?_,?_,xq,aa hp⟩;{rw[hW,eR,Rh];simp[SR,go_sem]};{obtain⟨p',c',ev,hc⟩:=HH.below bW;obtain⟨rfl,-,-⟩:=js ev;rcases hc with hc|⟨b,o,rfl,hc⟩;{exact .inl hc};{exact .inr ⟨b,o,aG (aa jB b o rfl),rfl,hc⟩}}
 rw[<-hW,<-Rh,<-eR];clear hW;have HE:=af (ah Rh eR);have g1:R0<R:=ae;have gR0:w.heap.size<=R0:=ae;have gw:w.heap.size<=R:=ae;have zR:R<W.heap.size:=ae;clear Rh eR zW;refine(aa C1 R _ hRd).mono ?_;rintro r w1⟨rfl,rr,K1⟩;have A1:=hR0.dh K1 ae ae;have F1:=fw fR0 K1 ae ae;have b1:=fD bW K1 ae;have z1:=K1.size;clear hR0 fR0 bW K1 hRd;go_wp2_with fail;refine(aa C2 R _ rr).mono ?_;rintro r w2⟨rfl,Ww,K2⟩;have A2:=A1.dh K2 ae ae;have F2:=fw F1 K2 ae ae;have b2:=fD b1 K2 ae;have z2:=K2.size;clear A1 F1 b1 K2 rr;go_wp2_with fail;refine(aa C3 R _ Ww ae).mono ?_;rintro r w3⟨p3,c3,rfl,o3,tM,K3⟩;have A3:=A2.dh K3 ae ae;have F3:=fw F2 K3 ae ae;have b3:=fD b2 K3 ae;have z3:=K3.size;clear A2 F2 b2 K3 Ww;go_wp2_with fail;refine(aa C4 R _ tM).mono ?_;rintro r w4⟨rfl,hR4,K4⟩;have A4:=A3.dh K4 ae ae;have F4:=fw F3 K4 ae ae;have b4:=fD b3 K4 ae;have o4:=Own.dh o3 K4 ae;have z4:=K4.size;clear A3 F3 b3 K4 tM o3;go_wp2_with fail;refine(aa C5 R _ hR4 ae).mono ?_;rintro r w5⟨p5,c5,rfl,o5,hR5,K5⟩;have A5:=A4.dh K5 ae ae;have F5:=fw F4 K5 ae ae;have b5:=fD b4 K5 ae;have o45:=Own.dh o4 K5 ae;have z5:=K5.size;clear A4 F4 b4 K5 hR4 o4;obtain⟨_,fr5,pr,cr,⟨i0,i1⟩,_⟩:=hR5;have bo:∀ob:Obj,Bw w5 (w5.alloc ob):=λob=>au.alloc ao _;have qs:=λob=>ag i1 (bo ob);have q0:=λob=>ag A5.1 (bo ob);have q1:=λob=>ag A5.2.1 (bo ob);have q2:=λob=>ag A5.2.2.1 (bo ob);have q3:=λob=>ag A5.2.2.2.1 (bo ob);have q4:=λob=>ag A5.2.2.2.2.1 (bo ob);have q5:=λob=>ag A5.2.2.2.2.2.1 (bo ob);have q6:=λob=>ag A5.2.2.2.2.2.2 (bo ob);have qf:=λ(ob:Obj)=>cI F5 ae (bo ob);obtain⟨X,hX⟩:=az (w5.alloc (.cells #[.I k,.U s,.S p3 NP c3,.I f,.S p5 NV c5,.U 0,.U 0] 73));have Eo:Bw w5 X:=hX▸bo _;have bX:Bw w X:=aj b5 Eo;have AX:=A5.below Eo;have FX:=cI F5 ae Eo;have OX:sG X w5.heap.size (.I k) (.U s) (.S p3 NP c3) (.I f) (.S p5 NV c5) (.U 0) (.U 0):=by rw[hX];simp[sG,go_sem]
 have zX:w5.heap.size<X.heap.size:=by rw[hX];simp
 have xP:=Own.below o45 Eo;have xV:=Own.below o5 Eo;clear A5 F5 i0 i1 fr5 o45 o5 Eo bo;cases t5 with
 |true=>
  clear hX;go_wp2;refine dD (v:=.tuple #[zI 0 0 (.S none 0 0) 0 (.S none 0 0) 0 0,.I 13]) (by simp[results,results145,go_sem,q0,q1,q2,q3,q4,q5,q6]) rfl ⟨rfl,?_⟩
  iterate 7 (refine gF ?_ gR0 _)
  exact gp b5
 |false=>
  have hD:D=false:=by simpa using l9
  subst hD;go_wp2_with fail;rw[<-hX];clear hX q0 q1 q2 q3 q4 q5 q6 qf qs l9;refine(aa E p3 p5 c3 c5 _ bX xP.rd xV.rd).mono ?_;rintro r x1⟨p6,c6,rfl,o6,ky⟩;have U0:=aj bX ky;have A6:=AX.below ky;have F6:=cI FX ae ky;have zx1:=ky.size;clear AX FX OX xP xV bX ky;go_wp2_with fail;refine(jr eLE en o6.rd (HH.below U0) BL HB).mono ?_;rintro r x2⟨rfl,Ut⟩;rw[aa eD];have bx2:=aj U0 Ut;have A7:=A6.below Ut;have F7:=cI F6 ae Ut;clear A6 F6 Ut U0 o6;obtain⟨r0,r1,r2,r3,r4,r5,r6⟩:=id A7;go_wp2;refine dD (v:=.tuple #[zI 0 0 (.S none 0 0) 0 (.S none 0 0) 0 0,.I 13]) (by simp[results,results145,go_sem,r0,r1,r2,r3,r4,r5,r6]) rfl ⟨rfl,?_⟩
  iterate 7 (refine gF ?_ gR0 _)
  exact bx2
def QM{c n:Nat}(en:Hid (l.length=n)){w:World}(h:Rd w (.S p n c) l)(hl:Mg n)(xq:n<=c)(hp:Hid ((p=none/\c=0)\/∃b o,p=some (Ad b o)))(jB:Hid (∀b o,p=some (Ad b o)->b<w.heap.size))(hT:Om w){k:Int}{n1 n2 n3 n4 n5 NP NV:Nat}(C1:Hid (Iv l n false k m1 n1 t1))(C2:Hid (NN m1 n1 t1 s m2 n2 t2))(C3:Hid (RM m2 n2 t2 P NP m3 n3 t3))(C4:Hid (Iv m3 n3 t3 f m4 n4 t4))(C5:Hid (RM m4 n4 t4 V NV m5 n5 t5))(eLE:Hid (LE.length=NE))(BL:Hid (aN LE))(HB:Hid (aN l))(E:Hid (NS 200 w k s f 0 0 NP NV NE P V LE))(eD:Hid (decide (LE=l)=true))(ht5:t5=false):Calls prog 145 #[.S p n c] w λr w'=>∃p' c' q' d' B,r=.returned (.tuple #[zI k s (.S p' NP c') f (.S q' NV d') 0 0,.I 0])/\w.heap.size<=B/\Own w.heap.size w' (.S p' NP c') P/\Btw w.heap.size B (.S p' NP c')/\Own B w' (.S q' NV d') V/\Bw w w':=by
 have HH:=af h;have HT:=af hT;clear h hT
 go_in
 go_wp2_with fail;obtain⟨W,hW⟩:=az ((w.alloc (.cells #[.I 0,.U 0,.S none 0 0,.I 0,.S none 0 0,.U 0,.U 0] 73)).alloc (.cells #[.S p n c,.bool false] 172));have bW:Bw w W:=hW▸gp (gp au);obtain⟨R0,Rh⟩:=az w.heap.size;obtain⟨R,eR⟩:=az (R0+1);have hR0:sG W R0 (.I 0) (.U 0) (.S none 0 0) (.I 0) (.S none 0 0) (.U 0) (.U 0):=by rw[hW,Rh];simp[sG,go_sem]
 have fR0:∀o,W.frozen? (Ad R0 o)=false:=λo=>by rw[hW,Rh];simp[go_sem]
 have zW:W.heap.size=R+1:=by rw[hW,eR,Rh];simp
 have hRd:qP W R l n false:=by refine⟨aa en,λo=>by rw[hW,eR,Rh];simp[go_sem],p,c,?_,?_,xq,aa hp⟩;{rw[hW,eR,Rh];simp[SR,go_sem]};{obtain⟨p',c',ev,hc⟩:=HH.below bW;obtain⟨rfl,-,-⟩:=js ev;rcases hc with hc|⟨b,o,rfl,hc⟩;{exact .inl hc};{exact .inr ⟨b,o,aG (aa jB b o rfl),rfl,hc⟩}}
 rw[<-hW,<-Rh,<-eR];clear hW;have HE:=af (ah Rh eR);have g1:R0<R:=ae;have gR0:w.heap.size<=R0:=ae;have gw:w.heap.size<=R:=ae;have zR:R<W.heap.size:=ae;clear Rh eR zW;refine(aa C1 R _ hRd).mono ?_;rintro r w1⟨rfl,rr,K1⟩;have A1:=hR0.dh K1 ae ae;have F1:=fw fR0 K1 ae ae;have b1:=fD bW K1 ae;have z1:=K1.size;clear hR0 fR0 bW K1 hRd;go_wp2_with fail;refine(aa C2 R _ rr).mono ?_;rintro r w2⟨rfl,Ww,K2⟩;have A2:=A1.dh K2 ae ae;have F2:=fw F1 K2 ae ae;have b2:=fD b1 K2 ae;have z2:=K2.size;clear A1 F1 b1 K2 rr;go_wp2_with fail;refine(aa C3 R _ Ww ae).mono ?_;rintro r w3⟨p3,c3,rfl,o3,tM,K3⟩;have A3:=A2.dh K3 ae ae;have F3:=fw F2 K3 ae ae;have b3:=fD b2 K3 ae;have z3:=K3.size;clear A2 F2 b2 K3 Ww;go_wp2_with fail;refine(aa C4 R _ tM).mono ?_;rintro r w4⟨rfl,hR4,K4⟩;have A4:=A3.dh K4 ae ae;have F4:=fw F3 K4 ae ae;have b4:=fD b3 K4 ae;have o4:=Own.dh o3 K4 ae;have tP:=o4.btw;have z4:=K4.size;clear A3 F3 b3 K4 tM o3;go_wp2_with fail;refine(aa C5 R _ hR4 ae).mono ?_;rintro r w5⟨p5,c5,rfl,o5,hR5,K5⟩;have A5:=A4.dh K5 ae ae;have F5:=fw F4 K5 ae ae;have b5:=fD b4 K5 ae;have o45:=Own.dh o4 K5 ae;have z5:=K5.size;clear A4 F4 b4 K5 hR4 o4;obtain⟨_,fr5,pr,cr,⟨i0,i1⟩,_⟩:=hR5;have bo:∀ob:Obj,Bw w5 (w5.alloc ob):=λob=>au.alloc ao _;have qs:=λob=>ag i1 (bo ob);have q0:=λob=>ag A5.1 (bo ob);have q1:=λob=>ag A5.2.1 (bo ob);have q2:=λob=>ag A5.2.2.1 (bo ob);have q3:=λob=>ag A5.2.2.2.1 (bo ob);have q4:=λob=>ag A5.2.2.2.2.1 (bo ob);have q5:=λob=>ag A5.2.2.2.2.2.1 (bo ob);have q6:=λob=>ag A5.2.2.2.2.2.2 (bo ob);have qf:=λ(ob:Obj)=>cI F5 ae (bo ob);obtain⟨X,hX⟩:=az (w5.alloc (.cells #[.I k,.U s,.S p3 NP c3,.I f,.S p5 NV c5,.U 0,.U 0] 73));have Eo:Bw w5 X:=hX▸bo _;have bX:Bw w X:=aj b5 Eo;have AX:=A5.below Eo;have FX:=cI F5 ae Eo;have OX:sG X w5.heap.size (.I k) (.U s) (.S p3 NP c3) (.I f) (.S p5 NV c5) (.U 0) (.U 0):=by rw[hX];simp[sG,go_sem]
 have zX:w5.heap.size<X.heap.size:=by rw[hX];simp
 have xP:=Own.below o45 Eo;have xV:=Own.below o5 Eo;clear A5 F5 i0 i1 fr5 o45 o5 Eo bo;subst ht5;go_wp2_with fail;rw[<-hX];clear hX q0 q1 q2 q3 q4 q5 q6 qf qs;refine(aa E p3 p5 c3 c5 _ bX xP.rd xV.rd).mono ?_;rintro r x1⟨p6,c6,rfl,o6,ky⟩;have U0:=aj bX ky;have A6:=AX.below ky;have O6:=OX.below ky;have F6:=cI FX ae ky;have zx1:=ky.size;have xP6:=Own.below xP ky;have xV6:=Own.below xV ky;clear AX FX OX xP xV bX ky;go_wp2_with fail;refine(jr eLE en o6.rd (HH.below U0) BL HB).mono ?_;rintro r x2⟨rfl,Ut⟩;rw[aa eD];have bx2:=af (aj U0 Ut);have A7:=A6.below Ut;have O7:=O6.below Ut;have F7:=cI F6 ae Ut;have xP7:=af (Own.below xP6 Ut);have xV7:=af (Own.below xV6 Ut);have cg:¬R0=w5.heap.size:=ae;have co8:¬w5.heap.size=R0:=ae;have iU:R0<w2.heap.size:=ae;have jU:R0<w4.heap.size:=ae;have YO:w.heap.size<=w2.heap.size:=ae;have QN:w.heap.size<=w4.heap.size:=ae;have HZ:=af (ah iU (ah jU (ah YO QN)));clear A6 O6 F6 Ut U0 o6 xP6 xV6 iU jU YO QN;obtain⟨r0,r1,r2,r3,r4,r5,r6⟩:=id A7;obtain⟨j0,j1,j2,j3,j4,j5,j6⟩:=id O7;clear A7 O7;go_wp2;obtain⟨iU,jU,YO,QN⟩:=aa HZ;refine dD (v:=.tuple #[zI k s (.S p3 NP c3) f (.S p5 NV c5) 0 0,.I 0]) (by simp[results,results145,go_sem,r0,r1,r2,r3,r4,r5,r6]) rfl ⟨p3,c3,p5,c5,w4.heap.size,rfl,QN,?_,λb hb=>aG (tP b hb),?_,?_⟩;{
 refine Own.mono (B:=w2.heap.size) ?_ YO
 iterate 7 (refine qn ?_ iU _)
 exact xP7};{
 iterate 7 (refine qn ?_ jU _)
 exact xV7};{
 iterate 7 (refine gF ?_ gR0 _)
 exact bx2}
def Adr(w:World)(q:OA)(d:Nat):Prop:=((q=none/\d=0)\/∃b o,q=some (Ad b o))/\∀b o,q=some (Ad b o)->b<w.heap.size
def Own.adr{w:World}{q:OA}{n d:Nat}(h:Own B w (.S q n d) l):Adr w q d:=by
 refine⟨?_,λb o e=>?_⟩;{rcases h.2 with⟨e,h0⟩|⟨g,cap,cur,e,_⟩;{simp only[qZ]at e;exact .inl ⟨e.1,e.2.2⟩};{simp only[qZ]at e;exact .inr ⟨g,0,e.1⟩}};{subst e;exact(h.lt b rfl).2}
abbrev Iz(F:Nat)(w:World)(l:LI)(n:Nat)(k s f:Int)(P V:LI)(NP NV:Nat)(code:Int):Prop:=
 ∀(q:OA)(d:Nat)(w':World),Bw w w'->Rd w' (.S q n d) l->n<=d->Adr w' q d->Calls Tryz.prog F #[.S q n d] w' λr w''=>∃p' c' q' d' B,r=.returned (.tuple #[zI k s (.S p' NP c') f (.S q' NV d') 0 0,.I code])/\w'.heap.size<=B/\Own w'.heap.size w'' (.S p' NP c') P/\Btw w'.heap.size B (.S p' NP c')/\Own B w'' (.S q' NV d') V/\Bw w' w''
def aq5{F:Nat}{w:World}{n:Nat}(h:∀(q:OA)(d:Nat)(w':World),Bw w w'->Rd w' (.S q n d) l->n<=d->Adr w' q d->Calls Tryz.prog F #[.S q n d] w' λe w''=>e=.returned (.tuple #[zI 0 0 (.S none 0 0) 0 (.S none 0 0) 0 0,.I 13])/\Bw w' w''):Iz F w l n 0 0 0 [] [] 0 0 13:=
 λq d w' hb hr hn ha=>(h q d w' hb hr hn ha).mono (by rintro r w''⟨rfl,h2⟩;exact⟨none,0,none,0,w'.heap.size,rfl,iP _,gC _ _ _ _,(λb e=>by simp[Value.ownBlock]at e),gC _ _ _ _,h2⟩)
def aB6{s f:Nat}(hk:k<256)(hs:s<18446744073709551616)(hf:f<256)(hP:aN P)(hV:aN V)(lP:Mg P.length)(lV:Mg V.length):aN (DV k s P f V):=
 aN.app (λz hz=>by simp at hz;subst hz;omega) (aN.app (kF hs) (aN.app (aN.app (kF ae) hP) (aN.app (λz hz=>by simp at hz;subst hz;omega) (aN.app (kF ae) hV))))
def JG.parts{K S F:Nat}(h:JG l K S P F V):P.length<=l.length/\V.length<=l.length:=by
 obtain⟨_,_,_,_,_,_,e⟩:=h;rw[e,DV,tx,tx];simp only[ir,iT,Af];omega
def az7{w:World}{n:Nat}(en:l.length=n)(hb:aN l)(hl:Mg n)(l9:∀K S P F V,¬JG l K S P F V):Iz 36 w l n 0 0 0 [] [] 0 0 13:=
 aq5 λq d w' Q7 hr hn ha=>by obtain⟨⟨k,o1⟩,e1⟩:∃y,oB (some l)=y:=⟨_,rfl⟩;obtain⟨⟨s,o2⟩,e2⟩:∃y,oV o1=y:=⟨_,rfl⟩;obtain⟨⟨P,o3⟩,e3⟩:∃y,oT o2=y:=⟨_,rfl⟩;obtain⟨⟨f,o4⟩,e4⟩:∃y,oB o3=y:=⟨_,rfl⟩;obtain⟨⟨V,o5⟩,e5⟩:∃y,oT o4=y:=⟨_,rfl⟩;exact Tl en hr hb hl hn (P:=P) (V:=V) e1 e2 e3 e4 e5 (NP:=P.length) (NV:=V.length) rfl rfl (λK S F _ _ _=>l9 K S P F V)
def Zx{w:World}{n:Nat}(en:l.length=n)(hb:aN l)(hl:Mg n){K S F:Nat}(h:JG l K S P F V):Iz 36 w l n K S F P V P.length V.length 0:=λq d w' Q7 hr hn ha=>by
 have hp:=h.parts;obtain⟨r1,r2,r3,r4,r5⟩:=Z7 (k:=K) (f:=F) (P:=P) (V:=V) h.2.2.1 ae ae;exact OW en hr hb hl hn (k:=K) (s:=S) (f:=F) (P:=P) (V:=V) (by show oB (some l)=_;rw[h.2.2.2.2.2.2];exact r1) r2 r3 r4 r5 (NP:=P.length) (NV:=V.length) rfl rfl (K:=K) (S:=S) (F:=F) rfl rfl rfl rfl h
def Et{n:Nat}{t:Bool}(hm:m.length=n)(hb:aN m)(hl:Mg n)(e:sB m t=(x,m',t')):Iv m n t x m' m'.length t':=λR w' h=>By h hb hl e
def Px{n:Nat}{t:Bool}(hb:aN m)(hl:Mg n)(e:sN 10 0 0 m t=(x,m',t')):NN m n t x m' m'.length t':=λR w' h=>fu h hb hl e
def Lk{n:Nat}{t:Bool}(hb:aN m)(hl:Mg n){x:LI}(e:sT m t=(x,m',t')):RM m n t x x.length m' m'.length t':=λR w' h hR=>Fs h hb hl hR (x:=x) e (N:=x.length) rfl
def ai1{w:World}{n:Nat}(en:l.length=n)(hb:aN l)(hl:Mg n)(hT:Om w){K S F:Nat}(h:JG l K S P F V):Iz 145 w l n K S F P V P.length V.length 0:=λq d w' Q7 hr hn ha=>by
 have hp:=h.parts;obtain⟨h1,h2,hS,hF,hfm,hj,hdl⟩:=id h;have b1:aN (vi S++(tx P++([(F:Int)]++tx V))):=λz hz=>hb z (by rw[hdl,DV];exact Gr _ hz);have b2:aN (tx P++([(F:Int)]++tx V)):=λz hz=>b1 z (Gr _ hz);have b3:aN ([(F:Int)]++tx V):=λz hz=>b2 z (Gr _ hz);have b4:aN (tx V):=λz hz=>b3 z (Gr _ hz);have l0:l.length=1+(vi S++(tx P++([(F:Int)]++tx V))).length:=by rw[hdl,DV,ir];rfl
 have l1:(vi S++(tx P++([(F:Int)]++tx V))).length=(vi S).length+(tx P++([(F:Int)]++tx V)).length:=ir;have l2:(tx P++([(F:Int)]++tx V)).length=(tx P).length+([(F:Int)]++tx V).length:=ir;have l3:([(F:Int)]++tx V).length=1+(tx V).length:=ir;have hTw:Om w':=λk a b=>(hT k a b).below Q7;have du:=hTw K h1 h2;rw[show(rowOf K).2.2.2.2.2.2=true from hj]at du;have e5:sT (tx V) false=(V,[],false):=by have:=Vy V (rest:=[]) (sh:=false) ae;rwa [D5]at this
 refine QM (p:=q) (c:=d) (n:=n) (l:=l) en (w:=w') hr hl hn ha.1 ha.2 hTw (k:=K) (s:=S) (f:=F) (P:=P) (V:=V) (m5:=[]) (NP:=P.length) (NV:=V.length) (t1:=false) (t2:=false) (t3:=false) (t4:=false) (t5:=false)
  (Et (m':=vi S++(tx P++([(F:Int)]++tx V))) en hb hl (by rw[hdl];rfl)) (Px b1 ae (ZL (s:=S) (sh:=false) hS)) (Lk b2 ae (Vy P (sh:=false) ae)) (Et (m':=tx V) rfl b3 ae rfl) (Lk b4 ae e5) (LE:=DV K S P F V) (NE:=(DV K S P F V).length) rfl (hdl▸hb) hb ?_ (by show _=_;rw[<-hdl];simp) rfl
 intro q1 q2 d1 d2 w2 aD g1 g2;have Wr:=du.below aD;exact xn K h1 h2 S F hS hF (e:=0) (g:=0) (p:=q1) (q:=q2) (c:=d1) (d:=d2) P V rfl rfl (w:=w2) g1 g2 ae ae Wr hfm rfl
def ap7{w:World}(hT:Om w){k:Int}(s0:0<=s)(s1:s<18446744073709551616)(hP:aN P)(hV:aN V)(lP:Mg P.length)(lV:Mg V.length):∃LE:LI,aN LE/\NS 200 w k s f 0 0 P.length V.length LE.length P V LE/\(LE=[]\/∃K S F:Nat,k=K/\s=S/\f=F/\∀l,LE=l->JG l K S P F V):=by
 by_cases hk:1<=k/\k<=13;{
 obtain⟨S,rfl⟩:∃S:Nat,s=(S:Int):=⟨s.toNat,ae⟩;obtain⟨K,rfl⟩:∃K:Nat,k=(K:Int):=⟨k.toNat,ae⟩;have h1:1<=K:=ae;have h2:K<=13:=ae;by_cases hB:(Fa K S f P.length V.length 0 0&&joR K)=true;{obtain⟨hf,hj⟩:=Bool.and_eq_true_iff.1 hB;obtain⟨f0,f2⟩:=Hy h1 h2 hf;obtain⟨F,rfl⟩:∃F:Nat,f=(F:Int):=⟨f.toNat,ae⟩;refine⟨DV K S P F V,aB6 ae ae ae hP hV lP lV,?_,.inr ⟨K,S,F,rfl,rfl,rfl,λl e=>⟨h1,h2,ae,ae,hf,hj,e.symm⟩⟩⟩;intro q1 q2 d1 d2 w2 aD g1 g2;have Wr:=(hT K h1 h2).below aD;rw[show(rowOf K).2.2.2.2.2.2=true from hj]at Wr;exact xn K h1 h2 S F ae ae P V rfl rfl g1 g2 lP lV Wr hf rfl};{
 have hB':(Fa K S f P.length V.length 0 0&&joR K)=false:=by simpa using hB
 refine⟨[],λz hz=>by simp at hz,ap9 ?_,.inl rfl⟩;intro q1 q2 d1 d2 w' hb;exact MB h1 h2 (s:=S) (f:=f) (e:=0) (g:=0) ((hT K h1 h2).below hb) rfl hB'}};{refine⟨[],λz hz=>by simp at hz,ap9 ?_,.inl rfl⟩;intro q1 q2 d1 d2 w' hb;exact Jk ae}
def aE5{w:World}{n:Nat}(en:l.length=n)(hb:aN l)(hl:Mg n)(hT:Om w)(l9:∀K S P F V,¬JG l K S P F V):Iz 145 w l n 0 0 0 [] [] 0 0 13:=
 aq5 λq d w' Q7 hr hn ha=>by
  obtain⟨⟨k,m1,t1⟩,e1⟩:∃y,sB l false=y:=⟨_,rfl⟩;obtain⟨⟨s,m2,t2⟩,e2⟩:∃y,sN 10 0 0 m1 t1=y:=⟨_,rfl⟩;obtain⟨⟨P,m3,t3⟩,e3⟩:∃y,sT m2 t2=y:=⟨_,rfl⟩;obtain⟨⟨f,m4,t4⟩,e4⟩:∃y,sB m3 t3=y:=⟨_,rfl⟩;obtain⟨⟨V,m5,t5⟩,e5⟩:∃y,sT m4 t4=y:=⟨_,rfl⟩;have B1:=BH (sh:=false) hb;rw[e1]at B1;obtain⟨B1,_,_,L1⟩:=B1;have B2:=FN 10 0 0 m1 t1 B1 ae;rw[e2]at B2;obtain⟨B2,L2,s0,s1⟩:=B2;have B3:=BG (sh:=t2) B2;rw[e3]at B3;obtain⟨BP,B3,LP,L3⟩:=B3;have B4:=BH (sh:=t3) B3;rw[e4]at B4;obtain⟨B4,_,_,L4⟩:=B4;have B5:=BG (sh:=t4) B4;rw[e5]at B5;obtain⟨BV,_,LV,_⟩:=B5;dsimp only at B1 L1 B2 L2 s0 s1 BP B3 LP L3 B4 L4 BV LV;have hTw:Om w':=λk a b=>(hT k a b).below Q7;obtain⟨LE,BL,hE,hLE⟩:=ap7 hTw (k:=k) (f:=f) s0 s1 BP BV ae ae;refine Uc (l:=l) en hr hl hn ha.1 ha.2 hTw
   (Et en hb hl e1) (Px B1 ae e2) (Lk B2 ae e3) (Et rfl B3 ae e4) (Lk B4 ae e5) (LE:=LE) (NE:=LE.length) rfl BL hb hE (D:=decide (LE=l)) rfl ?_
  by_cases hd:LE=l;{
 left
 rcases hLE with h0|⟨K,S,F,_,_,_,h⟩;{
 have yb:l=[]:=by rw[<-hd,h0]
 have h1:t1=true:=by have:=uO (λy=>y.2.2) e1;rw[yb]at this;exact this.symm
 have h2:t2=true:=by have:=LH 10 0 0 m1 t1 h1;rw[e2]at this;exact this
 have h3:t3=true:=by have:=Eu (m:=m2) h2;rw[e3]at this;exact this
 have h4:t4=true:=by have:=Ew (m:=m3) h3;rw[e4]at this;exact this
 have:=Eu (m:=m4) h4;rw[e5]at this;exact this};{exact absurd (h l hd) (l9 K S P F V)}};{
 right
 simpa using hd}
theorem aC9{n:Nat}{w:World}(h:qP w R m n sh)(hR:R<w.heap.size)(hb:Hid (aN m))(hl:Mg n){xs:LI}(e:Hid (lF jF (m,sh)=(xs,m',sh')))(eN:Hid (xs.length=N)):Calls prog 197 #[.pointer (some (Ad R 0)),.func (.func 137) #[.pointer (some (Ad R 0))] #[]] w λr w'=>∃p' c',r=.returned (.S p' N c')/\(jX w.heap.size w' ((.S p' N c')) xs)/\qP w' R m' m'.length sh'/\Kept [blk R] w w':=by
 obtain⟨iu,hiu,uz0,uz1,uz2⟩:=gh Tryz.infoU64;have hmn:m.length=n:=h.1;obtain⟨⟨x,m1,s1⟩,e1⟩:∃y,Hid (jF (m,sh)=y):=⟨_,bq⟩;have ok1:=iD (m,sh) (aa hb) (hmn▸hl);rw[aa e1]at ok1;obtain⟨hx,aA,KJ,-⟩:=ok1;dsimp only at KJ;obtain⟨X,rfl⟩:∃v:Nat,x=(v:Int):=⟨x.toNat,aG hx.1⟩;have hX:(X:Int)<18446744073709551616:=hx.2;have e2:Hid (we jF X [] (m1,s1)=(xs,m',sh')):=by have:=aa e;rw[lF,aa e1]at this;exact this
 have nO:=af aA;clear hx aA
 go_in
 go_wp2_with fail;refine(fu h hb hl e1).mono ?_;rintro r w1⟨rfl,rr,la⟩;have DQ:=af rr;have YD:=af la;clear rr la h;go_wp2
 go_loopw[5,9](λlv iv wr=>∃(i:Nat)(acc:LI)(k:Nat)(m2:LI)(s2:Bool)(n2:Nat)(p:OA)(c:Nat),i<=X/\lv=.S p k c/\iv=.U i/\k+n2<=1048576/\Hid (acc.length=k)/\Hid (m2.length=n2)/\Hid (we jF (X-i) acc (m2,s2)=(xs,m',sh'))/\Hid (aN m2)/\Hid (qP wr R m2 n2 s2)/\Hid (jX w.heap.size wr ((.S p k c)) acc)/\Hid (Kept [blk R] w wr)) (λ_ iv _=>X-(intOf iv).toNat)
 exact⟨0,[],0,m1,s1,m1.length,none,0,fN _,rfl,rfl,ae,bq,bq,e2,nO,DQ,gC _ _ _ _,YD⟩;{
 clear DQ YD nO e2;obtain⟨i,acc,k,m2,s2,n2,p,c,hi,rfl,rfl,hkn,ek,Ie,e3,aD,lK,mV,rO⟩:=hrel;have Ue:=rO.size;by_cases aT:i<X;{
 have bu:=aS i X;have wi:IntKind.u64.wrap ((i:Int)+1)=((i+1:Nat):Int):=by rw[jj];omega
 obtain⟨⟨d,m3,s3⟩,e4⟩:∃y,Hid (jF (m2,s2)=y):=⟨_,bq⟩;have ok3:=iD (m2,s2) (aa aD) (by show m2.length<=_;rw[aa Ie];omega);rw[aa e4]at ok3;obtain⟨-,aL,EO,Cj⟩:=ok3;dsimp only at EO Cj;rw[aa Ie]at EO Cj;have e5:Hid (we jF (X-i-1+1) acc (m2,s2)=(xs,m',sh')):=by rw[show X-i-1+1=X-i by omega];exact e3
 have vD:=af aL;clear aL;go_wp2_with fail;refine(fu lK aD ae e4).mono ?_;rintro r w3⟨rfl,IJ,rM⟩;have Lb:=af (rO.trans rM);have A9:=af IJ;have z3:=rM.size;obtain⟨l3,f3,pr,cr,⟨g0,g1⟩,-⟩:=IJ;have O3:=af (mV.dh rM ae);clear rM;cases s3 with
 |true=>
  clear Cj;have e6:xs=[]/\m'=m3/\sh'=true:=by have:=aa e5;rw[we,aa e4,bN rfl]at this;simp only[fQ]at this;exact⟨this.1.symm,this.2.1.symm,this.2.2.symm⟩
  obtain⟨rfl,rfl,rfl⟩:=e6;have MW:N=0:=eN.symm;subst MW;go_wp2;go_ret;exact⟨none,0,rfl,gC _ _ _ _,A9,Lb⟩
 |false=>
  have hl5:=Cj rfl;clear Cj;have e6:Hid (we jF (X-(i+1)) (acc++[d]) (m3,false)=(xs,m',sh')):=by have:=aa e5;rw[we,aa e4,bG ai]at this;exact this
  obtain⟨n3,en3⟩:∃k,Hid (m3.length=k):=⟨_,bq⟩;rw[aa en3]at hl5 EO A9 l3 g0;clear l3 g0;obtain⟨v3,ly⟩:=az (w3.alloc (.cells #[.U d] 31));have aL:=ew ly;have Dy:∀i u,([.U d]:List Value)[i]?=some u->v3.cell? (Ad w3.heap.size i)=some u:=ly▸oQ;have vW:=af Dy;have z4:v3.heap.size=w3.heap.size+1:=by rw[ly];simp
  have QY:Hid (∀b,(Value.slice p k c).ownBlock=some b->w.heap.size<=b):=λb eb=>(O3.lt b eb).1;have Ix:Hid (v3.ownsRow w.heap.size 31 1 (.S p k c) k (acc.map (Value.int .u64))):=by have:=O3.below aL;unfold jX at this;rw[aa ek]at this;exact this
  have R4:=af (A9.below aL ae);have K4:=af (Lb.trans (Kept.dY aL));clear Dy;go_wp2_with(at_builtin;rw[<-ly];refine cK rfl 117 rfl iu 1 underlying117 hiu uz0 uz1 uz2 rfl aZ (.S p k c) rfl (aa Ix) (w3.heap.size) 1 1 [.U d] rfl rfl (aa vW) (λu hu=>by simp at hu;subst hu;rfl) iF ae ae ?_);intro v' w9 du hg As;have mX:∀g,v'.ownBlock=some g->(Value.slice p k c).ownBlock=some g\/v3.heap.size<=g:=λg eg=>by have:=As g eg;rw[ly];simpa using this
  rw[<-ly]at hg;have sn:=jX.snoc ek du;obtain⟨pN,cN,e9⟩:=sn.form;rw[ir,aa ek]at e9;subst e9;have SN:Hid (jX w.heap.size w9 (.S pN (k+1) cN) (acc++[d])):=sn;have K9:=af (K4.M6 hg (λb eb=>aa QY b eb));have R9:=af (R4.keep λb hbR=>hg.block b ae (λeb=>aG (aa QY b eb.symm)));have EK:Hid ((acc++[d]).length=k+1):=by show _=_;rw[ir,aa ek];rfl
  clear du hg mX As sn ly aL g1 f3;go_wp2;go_roundw;exact⟨i+1,acc++[d],k+1,m3,false,n3,pN,cN,ae,rfl,by go_num,ae,EK,en3,e6,vD,R9,SN,K9⟩;exact bM};{
 have bu:=dm i X;have eiX:X=i:=ae;have e6:xs=acc/\m'=m2/\sh'=s2:=by have:=aa e3;rw[show X-i=0 by omega,we]at this;simp only[fQ]at this;exact⟨this.1.symm,this.2.1.symm,this.2.2.symm⟩
 obtain⟨rfl,rfl,rfl⟩:=e6;have Oi:N=k:=eN.symm.trans ek;subst Oi;have R9:Hid (qP wr R m' m'.length sh'):=aa Ie▸lK;go_wp2;go_ret;exact⟨p,c,rfl,mV,R9,rO⟩}}
theorem aD0{n:Nat}{w:World}(h:qP w R m n sh)(hR:R<w.heap.size)(hb:Hid (aN m))(hl:Mg n){xs:List aP}(e:Hid (lF Vz (m,sh)=(xs,m',sh')))(eN:Hid (xs.length=N)):Calls prog 138 #[.pointer (some (Ad R 0)),.func (.func 139) #[.pointer (some (Ad R 0))] #[]] w λr w'=>∃p' c',r=.returned (.S p' N c')/\(∃Ls,OwnT lp 84 3 w.heap.size w' ((.S p' N c')) xs Ls)/\qP w' R m' m'.length sh'/\Kept [blk R] w w':=by
 obtain⟨iu,hiu,uz0,uz1,uz2⟩:=gh Tryz.infoSes;have hmn:m.length=n:=h.1;obtain⟨⟨x,m1,s1⟩,e1⟩:∃y,Hid (jF (m,sh)=y):=⟨_,bq⟩;have ok1:=iD (m,sh) (aa hb) (hmn▸hl);rw[aa e1]at ok1;obtain⟨hx,aA,KJ,-⟩:=ok1;dsimp only at KJ;obtain⟨X,rfl⟩:∃v:Nat,x=(v:Int):=⟨x.toNat,aG hx.1⟩;have hX:(X:Int)<18446744073709551616:=hx.2;have e2:Hid (we Vz X [] (m1,s1)=(xs,m',sh')):=by have:=aa e;rw[lF,aa e1]at this;exact this
 have nO:=af aA;clear hx aA
 go_in
 go_wp2_with fail;refine(fu h hb hl e1).mono ?_;rintro r w1⟨rfl,rr,la⟩;have DQ:=af rr;have YD:=af la;clear rr la h;go_wp2
 go_loopw[5,9](λlv iv wr=>∃(i:Nat)(acc:List aP)(k:Nat)(m2:LI)(s2:Bool)(n2:Nat)(p:OA)(c:Nat),i<=X/\lv=.S p k c/\iv=.U i/\k+n2<=1048576/\Hid (acc.length=k)/\Hid (m2.length=n2)/\Hid (we Vz (X-i) acc (m2,s2)=(xs,m',sh'))/\Hid (aN m2)/\Hid (qP wr R m2 n2 s2)/\Hid (∃Ls,OwnT lp 84 3 w.heap.size wr ((.S p k c)) acc Ls)/\Hid (Kept [blk R] w wr)) (λ_ iv _=>X-(intOf iv).toNat)
 exact⟨0,[],0,m1,s1,m1.length,none,0,fN _,rfl,rfl,ae,bq,bq,e2,nO,DQ,⟨[],OwnT.nil _ _ _ _ _⟩,YD⟩;{
 clear DQ YD nO e2;obtain⟨i,acc,k,m2,s2,n2,p,c,hi,rfl,rfl,hkn,ek,Ie,e3,aD,lK,mV,rO⟩:=hrel;have Ue:=rO.size;by_cases aT:i<X;{
 have bu:=aS i X;have wi:IntKind.u64.wrap ((i:Int)+1)=((i+1:Nat):Int):=by rw[jj];omega
 obtain⟨⟨d,m3,s3⟩,e4⟩:∃y,Hid (Vz (m2,s2)=y):=⟨_,bq⟩;have ok3:=Tw (m2,s2) (aa aD) (by show m2.length<=_;rw[aa Ie];omega);rw[aa e4]at ok3;obtain⟨-,aL,EO,Cj⟩:=ok3;dsimp only at EO Cj;rw[aa Ie]at EO Cj;have e5:Hid (we Vz (X-i-1+1) acc (m2,s2)=(xs,m',sh')):=by rw[show X-i-1+1=X-i by omega];exact e3
 have vD:=af aL;clear aL;have e4n:Hid (jF (m2,s2)=(d.1,m3,s3)):=by
  have:=aa e4;rw[Vz]at this;show _=_;simp only[fQ]at this;rw[<-this.1,<-this.2]
  rfl
 have hd:d=Sq d.1:=by
  have:=aa e4;rw[Vz]at this;simp only[fQ]at this;rw[<-this.1]
  rfl
 obtain⟨y,ey⟩:=aI d.1;rw[ey]at e4n hd;have HD:=af hd;clear hd ey;go_wp2_with fail;refine(Pd lK ae aD ae e4n).mono ?_;rintro r w3⟨rfl,IJ,rM⟩;have Lb:=af (rO.trans rM);have A9:=af IJ;have z3:=rM.size;have XE:qP (w3.alloc (.cells #[.U y,.I 0,.S none 0 0] 84)) R m3 m3.length s3:=IJ.below (au.alloc ao _) ae;obtain⟨l3,f3,pr,cr,⟨g0,g1⟩,-⟩:=XE;obtain⟨Ls,hoT⟩:=aa mV;have O3:=af (hoT.dh lp.keep rM ae);have HLT:=af hoT.lt;clear hoT;clear IJ rM;cases s3 with
 |true=>
  clear Cj;have e6:xs=[]/\m'=m3/\sh'=true:=by have:=aa e5;rw[we,aa e4,bN rfl]at this;simp only[fQ]at this;exact⟨this.1.symm,this.2.1.symm,this.2.2.symm⟩
  obtain⟨rfl,rfl,rfl⟩:=e6;have MW:N=0:=eN.symm;subst MW;go_wp2;go_ret;exact⟨none,0,rfl,⟨[],OwnT.nil _ _ _ _ _⟩,A9.below (au.alloc ao _) ae,Lb.alloc _⟩
 |false=>
  have hl5:=Cj rfl;clear Cj;have e6:Hid (we Vz (X-(i+1)) (acc++[d]) (m3,false)=(xs,m',sh')):=by have:=aa e5;rw[we,aa e4,bG ai]at this;exact this
  obtain⟨n3,en3⟩:∃k,Hid (m3.length=k):=⟨_,bq⟩;rw[aa en3]at hl5 EO A9 l3 g0;clear l3 g0;obtain⟨v3,ly⟩:=az ((w3.alloc (.cells #[.U y,.I 0,.S none 0 0] 84)).alloc (.cells #[.U y,.I 0,.S none 0 0] 84));have aL:Bw w3 v3:=ly▸(au.alloc ao _).alloc ai _;have Dy:∀i u,([.U y,.I 0,.S none 0 0]:List Value)[i]?=some u->v3.cell? (Ad (w3.heap.size+1) i)=some u:=by have e0:(w3.alloc (.cells #[.U y,.I 0,.S none 0 0] 84)).heap.size=w3.heap.size+1:=ai;rw[ly,<-e0];exact oQ
  have vW:=af Dy;have z4:v3.heap.size=w3.heap.size+2:=by rw[ly];simp
  have elx:lp v3 d [.U y,.I 0,.S none 0 0] []:=aa HD▸lp.id v3 y;have apx:nI w3.heap.size v3 []:=nI.nil _ _;obtain⟨row,qd,yk⟩:=O3.app lp.keep aL elx rfl apx ae;have QY:Hid (∀b,(Value.slice p k c).ownBlock=some b->w.heap.size<=b):=λb eb=>(O3.lt.1 b eb).1;rw[aa ek]at qd yk;have Vj:=af yk;have Ix:=af qd;clear yk qd;have R4:=af (A9.below aL ae);have K4:=af (Lb.trans (Kept.dY aL));clear Dy;go_wp2_with(at_builtin;rw[<-ly];refine cK rfl 32 rfl iu 3 underlying32 hiu uz0 uz1 uz2 rfl aZ (.S p k c) rfl (aa Ix) (w3.heap.size+1) 1 1 [.U y,.I 0,.S none 0 0] rfl rfl (aa vW) (λu hu=>by simp at hu;rcases hu with rfl|rfl|rfl<;>rfl) iF ae ae ?_);intro v' w9 du hg As;have mX:∀g,v'.ownBlock=some g->(Value.slice p k c).ownBlock=some g\/v3.heap.size<=g:=λg eg=>by have:=As g eg;rw[ly];simpa using this
  rw[<-ly]at hg;obtain⟨sn,pN,cN,rfl⟩:=aa Vj v' w9 du hg mX;have SN:Hid (∃Ls,OwnT lp 84 3 w.heap.size w9 ((.S pN (k+1) cN)) (acc++[d]) Ls):=⟨_,sn⟩;have K9:=af (K4.M6 hg (λb eb=>aa QY b eb));have R9:=af (R4.keep λb hbR=>hg.block b ae (λeb=>aG (aa QY b eb.symm)));have EK:Hid ((acc++[d]).length=k+1):=by show _=_;rw[ir,aa ek];rfl
  clear du hg mX As sn ly aL g1 f3;go_wp2;go_roundw;exact⟨i+1,acc++[d],k+1,m3,false,n3,pN,cN,ae,rfl,by go_num,ae,EK,en3,e6,vD,R9,SN,K9⟩;exact bM};{
 have bu:=dm i X;have eiX:X=i:=ae;have e6:xs=acc/\m'=m2/\sh'=s2:=by have:=aa e3;rw[show X-i=0 by omega,we]at this;simp only[fQ]at this;exact⟨this.1.symm,this.2.1.symm,this.2.2.symm⟩
 obtain⟨rfl,rfl,rfl⟩:=e6;have Oi:N=k:=eN.symm.trans ek;subst Oi;have R9:Hid (qP wr R m' m'.length sh'):=aa Ie▸lK;go_wp2;go_ret;exact⟨p,c,rfl,mV,R9,rO⟩}}
def Xn{n:Nat}{w:World}(h:qP w R m n sh)(hR:R<w.heap.size)(hb:Hid (aN m))(hl:Mg n){d:aC}(e:Hid (LG (m,sh)=(d,m',sh'))):Calls prog 141 #[.pointer (some (Ad R 0))] w λr w'=>∃(pP:OA)(NP cP:Nat)(pV:OA)(NV cV:Nat)(ow mo:Int)(pH:OA)(NH cH:Nat)(ep ge:Int)(Ae:List Lf),r=.returned (.agg #[.S pP NP cP,.S pV NV cV,.U ow,.I mo,.S pH NH cH,.U ep,.U ge,.S none 0 0])/\jC w' d [.S pP NP cP,.S pV NV cV,.U ow,.I mo,.S pH NH cH,.U ep,.U ge,.S none 0 0] Ae/\nI w.heap.size w' Ae/\qP w' R m' m'.length sh'/\Kept [blk R] w w':=by
 have hmn:m.length=n:=h.1;obtain⟨⟨P,m1,s1⟩,E1⟩:∃y,Hid (sT m sh=y):=⟨_,bq⟩;obtain⟨⟨V,m2,s2⟩,E2⟩:∃y,Hid (sT m1 s1=y):=⟨_,bq⟩;obtain⟨⟨ow,m3,s3⟩,E3⟩:∃y,Hid (jF (m2,s2)=y):=⟨_,bq⟩;obtain⟨⟨mo,m4,s4⟩,E4⟩:∃y,Hid (sB m3 s3=y):=⟨_,bq⟩;obtain⟨⟨H,m5,s5⟩,E5⟩:∃y,Hid (lF jF (m4,s4)=y):=⟨_,bq⟩;obtain⟨⟨ep,m6,s6⟩,E6⟩:∃y,Hid (jF (m5,s5)=y):=⟨_,bq⟩;obtain⟨⟨ge,m7,s7⟩,E7⟩:∃y,Hid (jF (m6,s6)=y):=⟨_,bq⟩;have ED:Hid (d=⟨P,V,ow,mo,H,ep,ge,[]⟩/\m'=m7/\sh'=s7):=by have:=aa e;rw[LG]at this;simp only[aa E1,aa E2,aa E3,aa E4,aa E5,aa E6,aa E7,fQ]at this;exact⟨this.1.symm,this.2.1.symm,this.2.2.symm⟩
 have k1:=BG (sh:=sh) hb;rw[aa E1]at k1;obtain⟨-,c1,-,d1⟩:=k1;dsimp only at c1 d1;have k2:=BG (sh:=s1) c1;rw[aa E2]at k2;obtain⟨-,c2,-,d2⟩:=k2;dsimp only at c2 d2;have k3:=iD (m2,s2) c2 (by dsimp only;omega);rw[aa E3]at k3;obtain⟨-,c3,d3,-⟩:=k3;dsimp only at c3 d3;have k4:=BH (sh:=s3) c3;rw[aa E4]at k4;obtain⟨c4,-,-,d4⟩:=k4;dsimp only at c4 d4;have k5:=Kt iD (s:=(m4,s4)) c4 (by dsimp only;omega);rw[aa E5]at k5;obtain⟨-,c5,d5,-⟩:=k5;dsimp only at c5 d5;have k6:=iD (m5,s5) c5 (by dsimp only;omega);rw[aa E6]at k6;obtain⟨-,c6,d6,-⟩:=k6;dsimp only at c6 d6;have B1:=af c1;have B2:=af c2;have B3:=af c3;have B4:=af c4;have B5:=af c5;have B6:=af c6;have g1:m1.length<=1048576:=ae;have g2:m2.length<=1048576:=ae;have g3:m3.length<=1048576:=ae;have g4:m4.length<=1048576:=ae;have g5:m5.length<=1048576:=ae;have g6:m6.length<=1048576:=ae;clear c1 c2 c3 c4 c5 c6 d1 d2 d3 d4 d5 d6 hmn;obtain⟨NP,eP⟩:∃k,Hid (P.length=k):=⟨_,bq⟩;obtain⟨NV,eV⟩:∃k,Hid (V.length=k):=⟨_,bq⟩;obtain⟨NH,eH⟩:∃k,Hid (H.length=k):=⟨_,bq⟩;obtain⟨W,hW⟩:=az (w.alloc (.cells #[.S none 0 0,.S none 0 0,.U 0,.I 0,.S none 0 0,.U 0,.U 0,.S none 0 0] 119));have bW:=ew hW;have C0:Hid (al W w.heap.size [.S none 0 0,.S none 0 0,.U 0,.I 0,.S none 0 0,.U 0,.U 0,.S none 0 0]):=by show al _ _ _;rw[hW];exact al.alloc w #[.S none 0 0,.S none 0 0,.U 0,.I 0,.S none 0 0,.U 0,.U 0,.S none 0 0] _
 have zW:W.heap.size=w.heap.size+1:=by rw[hW];simp
 have R0:=af (h.below bW hR);have K0:=af (Kept.dY (vs:=[blk R]) bW)
 go_in
 go_wp2_with fail;rw[<-hW];clear hW h bW;refine(Fs (R:=R) (m:=m) (n:=n) (sh:=sh) R0 hb hl ae (x:=P) (m':=m1) (sh':=s1) E1 (N:=NP) eP).mono ?_;rintro z9 y1⟨pP,cP,rfl,oP,Hi,la⟩;obtain⟨lP,fP⟩:=Own.pb oP;have FP1:=af fP;have C1:=af (C0.dh la ae ae);have K1:=af (K0.trans la);have R1:=af Hi;have z1:=la.size;clear la Hi C0 K0 R0  oP fP;go_wp2_with fail;refine(Fs (R:=R) (m:=m1) (n:=m1.length) (sh:=s1) R1 B1 g1 ae (x:=V) (m':=m2) (sh':=s2) E2 (N:=NV) eV).mono ?_;rintro z9 y2⟨pV,cV,rfl,oV',lK,rO⟩;obtain⟨lV,fV⟩:=Own.pb oV';have FV2:=af fV;have C2:=af (C1.dh rO ae ae);have K2:=af (K1.trans rO);have R2:=af lK;have z2:=rO.size;have FP2:=af (FP1.dh rO ae);clear rO lK C1 K1 R1 FP1 oV' fV;go_wp2_with fail;refine(fu (R:=R) (m:=m2) (n:=m2.length) (sh:=s2) R2 B2 g2 (x:=ow) (m':=m3) (sh':=s3) E3).mono ?_;rintro z9 y3⟨rfl,IJ,rM⟩;have C3:=af (C2.dh rM ae ae);have K3:=af (K2.trans rM);have R3:=af IJ;have z3:=rM.size;have FP3:=af (FP2.dh rM ae);have FV3:=af (FV2.dh rM ae);clear rM IJ C2 K2 R2 FP2 FV2;go_wp2_with fail;refine(By (R:=R) (m:=m3) (n:=m3.length) (sh:=s3) R3 B3 g3 (x:=mo) (m':=m4) (sh':=s4) E4).mono ?_;rintro z9 y4⟨rfl,XE,hk4⟩;have C4:=af (C3.dh hk4 ae ae);have K4:=af (K3.trans hk4);have R4:=af XE;have z4:=hk4.size;have FP4:=af (FP3.dh hk4 ae);have FV4:=af (FV3.dh hk4 ae);clear hk4 XE C3 K3 R3 FP3 FV3;go_wp2_with fail;refine(aC9 (R:=R) (m:=m4) (n:=m4.length) (sh:=s4) R4 ae B4 g4 (xs:=H) (m':=m5) (sh':=s5) E5 (N:=NH) eH).mono ?_;rintro z9 y5⟨pH,cH,rfl,oH,hr5,YW⟩;obtain⟨lH,fH⟩:=jX.pu oH;have FH5:=af fH;have C5:=af (C4.dh YW ae ae);have K5:=af (K4.trans YW);have R5:=af hr5;have z5:=YW.size;have FP5:=af (FP4.dh YW ae);have FV5:=af (FV4.dh YW ae);clear YW hr5 C4 K4 R4 FP4 FV4 oH fH;go_wp2_with fail;refine(fu (R:=R) (m:=m5) (n:=m5.length) (sh:=s5) R5 B5 g5 (x:=ep) (m':=m6) (sh':=s6) E6).mono ?_;rintro z9 y6⟨rfl,hr6,hk6⟩;have C6:=af (C5.dh hk6 ae ae);have K6:=af (K5.trans hk6);have R6:=af hr6;have z6:=hk6.size;have FP6:=af (FP5.dh hk6 ae);have FV6:=af (FV5.dh hk6 ae);have FH6:=af (FH5.dh hk6 ae);clear hk6 hr6 C5 K5 R5 FP5 FV5 FH5;go_wp2_with fail;refine(fu (R:=R) (m:=m6) (n:=m6.length) (sh:=s6) R6 B6 g6 (x:=ge) (m':=m7) (sh':=s7) E7).mono ?_;rintro z9 y7⟨rfl,hr7,hk7⟩;have C7:=af (C6.dh hk7 ae ae);have K7:=af (K6.trans hk7);have R7:=af hr7;have z7:=hk7.size;have FP7:=af (FP6.dh hk7 ae);have FV7:=af (FV6.dh hk7 ae);have FH7:=af (FH6.dh hk7 ae);clear hk7 hr7 C6 K6 R6 FP6 FV6 FH6;have r0:=C7.1 0 _ rfl;have r1:=C7.1 1 _ rfl;have r2:=C7.1 2 _ rfl;have r3:=C7.1 3 _ rfl;have r4:=C7.1 4 _ rfl;have r5:=C7.1 5 _ rfl;have r6:=C7.1 6 _ rfl;have r7:=C7.1 7 _ rfl;have rf:=C7.2;go_wp2;obtain⟨Z,hZ⟩:=az ((((((((y7.setCell (Ad w.heap.size 0) (.S pP NP cP)).setCell (Ad w.heap.size 1) (.S pV NV cV)).setCell (Ad w.heap.size 2) (.U ow)).setCell (Ad w.heap.size 3) (.I mo)).setCell (Ad w.heap.size 4) (.S pH NH cH)).setCell (Ad w.heap.size 5) (.U ep)).setCell (Ad w.heap.size 6) (.U ge)).setCell (Ad w.heap.size 7) (.S none 0 0));have YV:∀b,b≠w.heap.size->Z.heap[b]?=y7.heap[b]?:=λb hb=>by
  rw[hZ]
  iterate 8 rw[fW _ _ _ _ hb]
 obtain⟨ed,em,es⟩:=aa ED;subst em es;refine dD (v:=.agg #[.S pP NP cP,.S pV NV cV,.U ow,.I mo,.S pH NH cH,.U ep,.U ge,.S none 0 0]) (by simp[results,results141,go_sem,r0,r1,r2,r3,r4,r5,r6,r7]) rfl ?_;rw[<-hZ];have k0:=FP7.yv (z0:=w.heap.size) ae YV;have k1:=FV7.yv (z0:=w.heap.size) ae YV;have k4:=FH7.yv (z0:=w.heap.size) ae YV;rw[<-aa eP]at k0;rw[<-aa eV]at k1;rw[<-aa eH]at k4;obtain⟨en,apn⟩:=jC.mk4 (nd:=⟨P,V,ow,mo,H,ep,ge,[]⟩) (B:=w.heap.size) k0 k1 k4 (PU.nil Z y7.heap.size y7.heap.size) ae ae ae ae ae ae ae ae ae ae;dsimp only at en;rw[aa eP,aa eV,aa eH]at en;rw[ed];refine⟨_,_,_,_,_,_,_,_,_,_,_,_,_,_,rfl,en,apn,R7.keep λb hb=>YV b ae,?_⟩;rw[hZ];exact(((((((K7.tS ai _).tS ai _).tS ai _).tS ai _).tS ai _).tS ai _).tS ai _).tS ai _
theorem aD1{n:Nat}{w:World}(h:qP w R m n sh)(hR:R<w.heap.size)(hb:Hid (aN m))(hl:Mg n){xs:List aC}(e:Hid (lF LG (m,sh)=(xs,m',sh')))(eN:Hid (xs.length=N)):Calls prog 140 #[.pointer (some (Ad R 0)),.func (.func 141) #[.pointer (some (Ad R 0))] #[]] w λr w'=>∃p' c',r=.returned (.S p' N c')/\(∃Ls,OwnT jC 119 8 w.heap.size w' ((.S p' N c')) xs Ls)/\qP w' R m' m'.length sh'/\Kept [blk R] w w':=by
 obtain⟨iu,hiu,uz0,uz1,uz2⟩:=gh Tryz.infoNod;have hmn:m.length=n:=h.1;obtain⟨⟨x,m1,s1⟩,e1⟩:∃y,Hid (jF (m,sh)=y):=⟨_,bq⟩;have ok1:=iD (m,sh) (aa hb) (hmn▸hl);rw[aa e1]at ok1;obtain⟨hx,aA,KJ,-⟩:=ok1;dsimp only at KJ;obtain⟨X,rfl⟩:∃v:Nat,x=(v:Int):=⟨x.toNat,aG hx.1⟩;have hX:(X:Int)<18446744073709551616:=hx.2;have e2:Hid (we LG X [] (m1,s1)=(xs,m',sh')):=by have:=aa e;rw[lF,aa e1]at this;exact this
 have nO:=af aA;clear hx aA
 go_in
 go_wp2_with fail;refine(fu h hb hl e1).mono ?_;rintro r w1⟨rfl,rr,la⟩;have DQ:=af rr;have YD:=af la;clear rr la h;go_wp2
 go_loopw[5,9](λlv iv wr=>∃(i:Nat)(acc:List aC)(k:Nat)(m2:LI)(s2:Bool)(n2:Nat)(p:OA)(c:Nat),i<=X/\lv=.S p k c/\iv=.U i/\k+n2<=1048576/\Hid (acc.length=k)/\Hid (m2.length=n2)/\Hid (we LG (X-i) acc (m2,s2)=(xs,m',sh'))/\Hid (aN m2)/\Hid (qP wr R m2 n2 s2)/\Hid (∃Ls,OwnT jC 119 8 w.heap.size wr ((.S p k c)) acc Ls)/\Hid (Kept [blk R] w wr)) (λ_ iv _=>X-(intOf iv).toNat)
 exact⟨0,[],0,m1,s1,m1.length,none,0,fN _,rfl,rfl,ae,bq,bq,e2,nO,DQ,⟨[],OwnT.nil _ _ _ _ _⟩,YD⟩;{
 clear DQ YD nO e2;obtain⟨i,acc,k,m2,s2,n2,p,c,hi,rfl,rfl,hkn,ek,Ie,e3,aD,lK,mV,rO⟩:=hrel;have Ue:=rO.size;by_cases aT:i<X;{
 have bu:=aS i X;have wi:IntKind.u64.wrap ((i:Int)+1)=((i+1:Nat):Int):=by rw[jj];omega
 obtain⟨⟨d,m3,s3⟩,e4⟩:∃y,Hid (LG (m2,s2)=y):=⟨_,bq⟩;have ok3:=Tx (m2,s2) (aa aD) (by show m2.length<=_;rw[aa Ie];omega);rw[aa e4]at ok3;obtain⟨-,aL,EO,Cj⟩:=ok3;dsimp only at EO Cj;rw[aa Ie]at EO Cj;have e5:Hid (we LG (X-i-1+1) acc (m2,s2)=(xs,m',sh')):=by rw[show X-i-1+1=X-i by omega];exact e3
 have vD:=af aL;clear aL;go_wp2_with fail;refine(Xn lK ae aD ae e4).mono ?_;rintro r w3⟨pP,NP,cP,pV,NV,cV,ow,mo,pH,NH,cH,ep,ge,Ae,rfl,Yc,JC,IJ,rM⟩;have EE:=af (ah Yc (ah jR JC));clear Yc JC;have Lb:=af (rO.trans rM);have A9:=af IJ;have z3:=rM.size;have XE:qP (w3.alloc (.cells #[.S pP NP cP,.S pV NV cV,.U ow,.I mo,.S pH NH cH,.U ep,.U ge,.S none 0 0] 119)) R m3 m3.length s3:=IJ.below (au.alloc ao _) ae;obtain⟨l3,f3,pr,cr,⟨g0,g1⟩,-⟩:=XE;obtain⟨Ls,hoT⟩:=aa mV;have O3:=af (hoT.dh jC.keep rM ae);have HLT:=af hoT.lt;clear hoT;clear IJ rM;cases s3 with
 |true=>
  clear Cj;have e6:xs=[]/\m'=m3/\sh'=true:=by have:=aa e5;rw[we,aa e4,bN rfl]at this;simp only[fQ]at this;exact⟨this.1.symm,this.2.1.symm,this.2.2.symm⟩
  obtain⟨rfl,rfl,rfl⟩:=e6;have MW:N=0:=eN.symm;subst MW;go_wp2;go_ret;exact⟨none,0,rfl,⟨[],OwnT.nil _ _ _ _ _⟩,A9.below (au.alloc ao _) ae,Lb.alloc _⟩
 |false=>
  have hl5:=Cj rfl;clear Cj;have e6:Hid (we LG (X-(i+1)) (acc++[d]) (m3,false)=(xs,m',sh')):=by have:=aa e5;rw[we,aa e4,bG ai]at this;exact this
  obtain⟨n3,en3⟩:∃k,Hid (m3.length=k):=⟨_,bq⟩;rw[aa en3]at hl5 EO A9 l3 g0;clear l3 g0;obtain⟨v3,ly⟩:=az ((w3.alloc (.cells #[.S pP NP cP,.S pV NV cV,.U ow,.I mo,.S pH NH cH,.U ep,.U ge,.S none 0 0] 119)).alloc (.cells #[.S pP NP cP,.S pV NV cV,.U ow,.I mo,.S pH NH cH,.U ep,.U ge,.S none 0 0] 119));have aL:Bw w3 v3:=ly▸(au.alloc ao _).alloc ai _;have Dy:∀i u,([.S pP NP cP,.S pV NV cV,.U ow,.I mo,.S pH NH cH,.U ep,.U ge,.S none 0 0]:List Value)[i]?=some u->v3.cell? (Ad (w3.heap.size+1) i)=some u:=by have e0:(w3.alloc (.cells #[.S pP NP cP,.S pV NV cV,.U ow,.I mo,.S pH NH cH,.U ep,.U ge,.S none 0 0] 119)).heap.size=w3.heap.size+1:=ai;rw[ly,<-e0];exact oQ
  have vW:=af Dy;have z4:v3.heap.size=w3.heap.size+2:=by rw[ly];simp
  have kE:∀a∈Ae,v3.heap[a.b]?=w3.heap[a.b]?:=λa ha=>aL.block _ (EE.2.2.uV.lt ha);have elx:jC v3 d [.S pP NP cP,.S pV NV cV,.U ow,.I mo,.S pH NH cH,.U ep,.U ge,.S none 0 0] Ae:=jC.keep _ _ _ _ _ EE.1 kE;have apx:nI wr.heap.size v3 Ae:=EE.2.2.keep kE;obtain⟨row,qd,yk⟩:=(O3.below jC.keep aL).cF5 jC.keep elx rfl apx ae (λa ha=>(HLT.2 a ha).2) (λb eb=>(HLT.1 b eb).2);have QY:Hid (∀b,(Value.slice p k c).ownBlock=some b->w.heap.size<=b):=λb eb=>(O3.lt.1 b eb).1;rw[aa ek]at qd yk;have Vj:=af yk;have Ix:=af qd;clear yk qd;have R4:=af (A9.below aL ae);have K4:=af (Lb.trans (Kept.dY aL));clear Dy;go_wp2_with(at_builtin;rw[<-ly];refine cK rfl 33 rfl iu 8 underlying33 hiu uz0 uz1 uz2 rfl aZ (.S p k c) rfl (aa Ix) (w3.heap.size+1) 1 1 [.S pP NP cP,.S pV NV cV,.U ow,.I mo,.S pH NH cH,.U ep,.U ge,.S none 0 0] rfl rfl (aa vW) (λu hu=>by simp at hu;rcases hu with rfl|rfl|rfl|rfl|rfl|rfl|rfl|rfl<;>rfl) iF ae ae ?_);intro v' w9 du hg As;have mX:∀g,v'.ownBlock=some g->(Value.slice p k c).ownBlock=some g\/v3.heap.size<=g:=λg eg=>by have:=As g eg;rw[ly];simpa using this
  rw[<-ly]at hg;obtain⟨sn,pN,cN,rfl⟩:=aa Vj v' w9 du hg mX;have SN:Hid (∃Ls,OwnT jC 119 8 w.heap.size w9 ((.S pN (k+1) cN)) (acc++[d]) Ls):=⟨_,sn⟩;have K9:=af (K4.M6 hg (λb eb=>aa QY b eb));have R9:=af (R4.keep λb hbR=>hg.block b ae (λeb=>aG (aa QY b eb.symm)));have EK:Hid ((acc++[d]).length=k+1):=by show _=_;rw[ir,aa ek];rfl
  clear du hg mX As sn ly aL g1 f3;go_wp2;go_roundw;exact⟨i+1,acc++[d],k+1,m3,false,n3,pN,cN,ae,rfl,by go_num,ae,EK,en3,e6,vD,R9,SN,K9⟩;exact bM};{
 have bu:=dm i X;have eiX:X=i:=ae;have e6:xs=acc/\m'=m2/\sh'=s2:=by have:=aa e3;rw[show X-i=0 by omega,we]at this;simp only[fQ]at this;exact⟨this.1.symm,this.2.1.symm,this.2.2.symm⟩
 obtain⟨rfl,rfl,rfl⟩:=e6;have Oi:N=k:=eN.symm.trans ek;subst Oi;have R9:Hid (qP wr R m' m'.length sh'):=aa Ie▸lK;go_wp2;go_ret;exact⟨p,c,rfl,mV,R9,rO⟩}}
def al.c6{w:World}{vs:List Value}(h:al w b (v0::v1::v2::v3::v4::v5::vs)):w.cell? (Ad b 0)=some v0/\w.cell? (Ad b 1)=some v1/\w.cell? (Ad b 2)=some v2/\w.cell? (Ad b 3)=some v3/\w.cell? (Ad b 4)=some v4/\w.cell? (Ad b 5)=some v5/\∀o,w.frozen? (Ad b o)=false:=
 ⟨h.1 0 _ rfl,h.1 1 _ rfl,h.1 2 _ rfl,h.1 3 _ rfl,h.1 4 _ rfl,h.1 5 _ rfl,h.2⟩
def oz{w u:World}{a0 a1 a2 a3 a4 a5:Addr}{v0 v1 v2 v3 v4 v5:Value}(h:Bw w u)(h0:w.heap.size<=a0.block:=by simp)(h1:w.heap.size<=a1.block:=by simp)(h2:w.heap.size<=a2.block:=by simp)(h3:w.heap.size<=a3.block:=by simp)(h4:w.heap.size<=a4.block:=by simp)(h5:w.heap.size<=a5.block:=by simp):Bw w ((((((u.setCell a0 v0).setCell a1 v1).setCell a2 v2).setCell a3 v3).setCell a4 v4).setCell a5 v5):=(((((h.setCell h0 _).setCell h1 _).setCell h2 _).setCell h3 _).setCell h4 _).setCell h5 _
def AE{w u:World}(h:Hid (dK l=none))(hb:Bw w u):at0 w.heap.size (.returned (.tuple #[ft 0 0 0 0 (.S none 0 0) (.S none 0 0),.I 13])) u (Il (dK l)) (Im (dK l))/\Bw w u:=by
 rw[aa h];exact⟨⟨none,0,none,0,rfl,gD.zero _ _⟩,hb⟩
def oVs{n:Nat}(en:Hid (l.length=n))(h:Hid (ki n l om)):∃e o1 a,Hid (oV om=(e,o1))/\Hid (nG n o1=a)/\Hid (ki n l o1):=⟨(oV om).1,(oV om).2,_,af rfl,af rfl,af (ig en h)⟩
def oTs{n:Nat}(en:Hid (l.length=n))(h:Hid (ki n l om)):∃e o1 a,Hid (oT om=(e,o1))/\Hid (nG n o1=a)/\Hid (ki n l o1):=⟨(oT om).1,(oT om).2,_,af rfl,af rfl,af (Gh en h)⟩
theorem az8{c n:Nat}(en:Hid (l.length=n)){w:World}(h:Rd w (.S p n c) l)(hb:Hid (aN l))(hl:Mg n)(xq:n<=c):Calls prog 34 #[.S p n c] w λr w'=>at0 w.heap.size r w' (Il (dK l)) (Im (dK l))/\Bw w w':=by
 have HR:=af λ(w':World)(hb:Bw w w')=>h.below hb;clear h;have S0:=af (ki.start en);have A0:Hid (nG n (some l)=0):=by show _=_;rw[nG,aa en];omega
 obtain⟨is,his,sz0,sz1,sz2⟩:=gh Tryz.infoSes;obtain⟨io,hio,oz0,oz1,oz2⟩:=gh Tryz.infoNod;obtain⟨iu,hiu,uz0,uz1,uz2⟩:=gh Tryz.infoU64;obtain⟨e,o1,a1,E1,A1,S1⟩:=oVs en S0;obtain⟨g,o2,a2,E2,A2,S2⟩:=oVs en S1;obtain⟨x,o3,a3,E3,A3,S3⟩:=oVs en S2;obtain⟨k,o4,a4,E4,A4,S4⟩:=oVs en S3;obtain⟨W,hW⟩:=az (w.alloc (.cells #[.U 0,.U 0,.U 0,.I 0,.S none 0 0,.S none 0 0] 35));have bW:=ew hW;have zW:W.heap.size=w.heap.size+1:=by rw[hW];simp
 have RW:Hid (al W w.heap.size [.U 0,.U 0,.U 0,.I 0,.S none 0 0,.S none 0 0]):=by show al _ _ _;rw[hW];exact al.alloc w #[.U 0,.U 0,.U 0,.I 0,.S none 0 0,.S none 0 0] _
 go_in
 go_wp2_with fail;rw[<-hW];clear hW;refine(uK en (aa HR _ bW) hb hl S0 A0 E1 A1).mono ?_;rintro z9 w1⟨rfl,rfl⟩;go_wp2_with fail;refine(uK en (aa HR _ bW) hb hl S1 A1 E2 A2).mono ?_;rintro z9 w1⟨rfl,rfl⟩;go_wp2_with fail;refine(uK en (aa HR _ bW) hb hl S2 A2 E3 A3).mono ?_;rintro z9 w1⟨rfl,rfl⟩;go_wp2_with fail;refine(uK en (aa HR _ bW) hb hl S3 A3 E4 A4).mono ?_;rintro z9 w1⟨rfl,rfl⟩;have hk:0<=k/\k<18446744073709551616:=by have:=iL (om:=o3);rw[aa E4]at this;exact this
 have n4:=Ff S4;rw[aa A4]at n4;have N4:=af n4.1;have m4:-1<=a4/\a4<=n:=⟨n4.2.2,n4.2.1⟩;clear n4;by_cases h4:a4<0;{
 have hn:=N4.1 h4;have hP:dK l=none:=by
  rw[dK,yX];simp only[aa E1,aa E2,aa E3,aa E4];rw[bN (.inl hn)]
  rfl
 have HD:=af hP;clear hP;obtain⟨r0,r1,r2,r3,r4,r5,rf⟩:=RW.c6;have BB:=bW;go_wp2;refine dD (by simp[results,results34,go_sem,r0,r1,r2,r3,r4,r5,zW]) rfl (AE HD (NC (oz BB)))};{
 by_cases h5:50<k;{
 skip
 have hP:dK l=none:=by
  rw[dK,yX];simp only[aa E1,aa E2,aa E3,aa E4];rw[bN (.inr h5)]
  rfl
 have HD:=af hP;clear hP;obtain⟨r0,r1,r2,r3,r4,r5,rf⟩:=RW.c6;have BB:=bW;go_wp2;refine dD (by simp[results,results34,go_sem,r0,r1,r2,r3,r4,r5,zW]) rfl (AE HD (NC (oz BB)))};{
 skip
 obtain⟨K,rfl⟩:∃K:Nat,k=(K:Int):=⟨k.toNat,ae⟩;have hn4:¬o4=none:=λhh=>h4 (N4.2 hh);have HN4:=af hn4;have wK:=fk K;have dM6:K<=50:=ae;obtain⟨V,hV⟩:=az (w1.alloc (.cells #[.U e,.U g,.U x,.I 0,.S none 0 0,.S none 0 0] 35));have hbV:=ew hV;obtain⟨sb,Ui⟩:=az (w.heap.size+1);have CV:Hid (al V sb [.U e,.U g,.U x,.I 0,.S none 0 0,.S none 0 0]):=by show al _ _ _;rw[hV,show sb=w1.heap.size by omega];exact al.alloc w1 #[.U e,.U g,.U x,.I 0,.S none 0 0,.S none 0 0] _
 have zV:V.heap.size=sb+1:=by rw[hV];simp;omega
 have zw1:w1.heap.size=sb:=ae;clear N4 hn4;go_wp2;rw[<-hV,<-Ui];have hws:w.heap.size<sb:=ae;have HSB:=af Ui;clear hV Ui zW
 go_loopw[5,13](λav iv wr=>∃(j:Nat)(a:Int)(Sv:Value)(Ls:List (List Lf)),j<=K/\av=.I a/\iv=.I j/\Hid (nG n (rL oV j o4).2=a)/\Hid (ki n l (rL oV j o4).2)/\Hid (al wr sb [.U e,.U g,.U x,.I 0,Sv,.S none 0 0]/\OwnT lp 84 3 (sb+1) wr Sv ((rL oV j o4).1.map Sq) Ls)/\Hid (Bw w1 wr)/\sb<wr.heap.size) (λ_ iv _=>K-(intOf iv).toNat)
 exact⟨0,_,_,[],fN _,rfl,rfl,A4,S4,⟨CV,OwnT.nil _ _ _ _ _⟩,hbV,ae⟩;{
 clear CV hbV zV;obtain⟨j,a,Sv,Ls,hj,rfl,rfl,Ea,Sj,ka,Br,zr⟩:=hrel;by_cases aT:j<K;{
 have bu:=aS j K;have wj:IntKind.i64.wrap ((j:Int)+1)=((j+1:Nat):Int):=by rw[jL _ ae];omega
 obtain⟨d,o5,a5,E5,A5,S5⟩:=oVs en Sj;have b0:=aj bW Br;go_wp2_with fail;refine(uK en (aa HR _ b0) hb hl Sj Ea E5 A5).mono ?_;rintro z9 w2⟨rfl,rfl⟩;obtain⟨hC,hO⟩:=aa ka;have hlen:((rL oV j o4).1.map Sq).length=j:=by rw[dZ,sO]
 have HC:=af hC;have HO:=af hO;have bj8:=af hlen;clear hC hO ka hlen;obtain⟨v3,ly⟩:=az (w2.alloc (.cells #[.U d,.I 0,.S none 0 0] 84));have aL:=ew ly;have Dy:∀i u,([.U d,.I 0,.S none 0 0]:List Value)[i]?=some u->v3.cell? (Ad w2.heap.size i)=some u:=ly▸oQ;have vW:=af Dy;have z3:v3.heap.size=w2.heap.size+1:=by rw[ly];simp
 have QY:=af HO.lt;have C3:=af (HC.below zr aL);have B3:=af (aj Br aL);obtain⟨row,qd,yk⟩:=HO.app lp.keep aL (lp.id v3 d) rfl (nI.nil _ _) ae;rw[aa bj8]at qd yk;have Vj:=af yk;have Ix:=af qd;have cl:=HC.1 4 _ rfl;clear yk Dy qd;go_wp2_with(at_builtin;rw[<-ly];refine cK rfl 32 rfl is 3 underlying32 his sz0 sz1 sz2 rfl aZ Sv rfl (aa Ix) w2.heap.size 1 1 [.U d,.I 0,.S none 0 0] rfl rfl (aa vW) (λu hu=>by simp at hu;rcases hu with rfl|rfl|rfl<;>rfl) iF ae ae ?_);intro v' w9 du hg As;have mX:∀g,v'.ownBlock=some g->Sv.ownBlock=some g\/v3.heap.size<=g:=λg e=>by have:=As g e;rw[ly];simpa using this
 rw[<-ly]at hg;obtain⟨sn,pN,cN,rfl⟩:=aa Vj v' w9 du hg mX;have C9:=C3.grown ae hg (λe=>aG (QY.1 sb e.symm).1);have B9:Hid (Bw w1 w9):=B3.grown hg B3.size (λb e=>aG (QY.1 b e).1);have z9:=hg.size;have CT:=af (C9.fG 4 ai (.S pN (j+1) cN));have OT:=af (sn.aa0 lp.keep (sb:=sb) ae 4 (.S pN (j+1) cN));have BT:Hid (Bw w1 (w9.setCell (Ad sb 4) (.S pN (j+1) cN))):=B9.setCell aU _;have zT:sb<(w9.setCell (Ad sb 4) (.S pN (j+1) cN)).heap.size:=by simp;omega
 have cc:=C9.1 4 _ rfl;have cf:=C9.2;have EL:Hid ((rL oV j o4).1.map Sq++[Sq d]=(rL oV (j+1) o4).1.map Sq/\(rL oV (j+1) o4).2=o5):=by show _/\_;rw[rL,aa E5,kT];exact⟨rfl,rfl⟩
 clear du hg mX As sn C9 ly aL cl;go_wp2;go_roundw;exact⟨j+1,a5,_,_,ae,rfl,by go_num,(EL.2▸A5),(EL.2▸S5),(by rw[<-EL.1];exact⟨aa CT,aa OT⟩),BT,zT⟩;exact bM};{
 have bu:=dm j K
 skip
 have ekK:K=j:=ae;subst ekK;obtain⟨hC,hO⟩:=aa ka;obtain⟨w3,ew3⟩:=az wr;subst ew3;obtain⟨pS,cS,evS,-⟩:=id hO.read;rw[dZ,sO]at evS;subst evS;have C3:=af hC;have O3:=af hO;have b3:=aj bW Br;have R3:=af (RW.below ae Br);have HSL:Hid (((rL oV K o4).1.map Sq).length=K):=by show _=_;rw[dZ,sO]
 clear hC hO ka hj aT bu;obtain⟨q,o7,a7,E7,A7,S7⟩:=oVs en Sj;go_wp2_with fail;refine(uK en (aa HR _ b3) hb hl Sj Ea E7 A7).mono ?_;rintro z9 w4⟨rfl,rfl⟩;have hq:0<=q/\q<18446744073709551616:=by have:=iL (om:=(rL oV K o4).2);rw[aa E7]at this;exact this
 have n7:=Ff S7;rw[aa A7]at n7;have N7:=af n7.1;have m7:-1<=a7/\a7<=n:=⟨n7.2.2,n7.2.1⟩;clear n7;by_cases h7:a7<0;{
 have hn:=N7.1 h7;have hP:dK l=none:=by
  rw[dK,yX];simp only[aa E1,aa E2,aa E3,aa E4];rw[bG (by rw[Je];exact⟨aa HN4,ae⟩)];simp only[qY,aa E7];rw[bN (.inl hn)]
  rfl
 have HD:=af hP;clear hP;obtain⟨r0,r1,r2,r3,r4,r5,rf⟩:=R3.c6;have BB:=b3;go_wp2;refine dD (by simp[results,results34,go_sem,r0,r1,r2,r3,r4,r5]) rfl (AE HD (oz BB))};{
 by_cases h8:200<q;{
 skip
 have hP:dK l=none:=by
  rw[dK,yX];simp only[aa E1,aa E2,aa E3,aa E4];rw[bG (by rw[Je];exact⟨aa HN4,ae⟩)];simp only[qY,aa E7];rw[bN (.inr h8)]
  rfl
 have HD:=af hP;clear hP;obtain⟨r0,r1,r2,r3,r4,r5,rf⟩:=R3.c6;have BB:=b3;go_wp2;refine dD (by simp[results,results34,go_sem,r0,r1,r2,r3,r4,r5]) rfl (AE HD (oz BB))};{
 skip
 obtain⟨Q,rfl⟩:∃K:Nat,q=(K:Int):=⟨q.toNat,ae⟩;have hn7:¬o7=none:=λhh=>h7 (N7.2 hh);have HN7:=af hn7;have wQ:=fk Q;have hQ:Q<=200:=ae;have SPO:Hid (yX l=(fM Q o7).map λr=>((e,g,x),(rL oV K o4).1.map Sq,r.1,r.2)):=by show _=_;rw[yX];simp only[aa E1,aa E2,aa E3,aa E4];rw[bG (by rw[Je];exact⟨aa HN4,ae⟩)];simp only[qY,aa E7];rw[bG (by rw[Je];exact⟨hn7,ae⟩)]
 clear N7 hn7;go_wp2
 go_loopw[5,15](λav iv wr=>∃(j:Nat)(a:Int)(Nv:Value)(Ls:List (List Lf))(ns:List aC)(om:Option LI),j<=Q/\av=.I a/\iv=.I j/\Hid (fM j o7=some (ns,om))/\Hid (nG n om=a)/\Hid (ki n l om)/\Hid (al wr sb [.U e,.U g,.U x,.I 0,.S pS K cS,Nv]/\OwnT jC 119 8 w4.heap.size wr Nv ns Ls)/\Hid (w4.grownBy wr (some sb))) (λ_ iv _=>Q-(intOf iv).toNat)
 exact⟨0,_,_,[],[],o7,fN _,rfl,rfl,bq,A7,S7,⟨C3,OwnT.nil _ _ _ _ _⟩,qe⟩;{
 obtain⟨j,a,Nv,Ls,ns,om,hj,rfl,rfl,Em,Ea,Sm,ka,yI⟩:=hrel;have b5:=tz b3 yI ae;have zg:=yI.size;by_cases aT:j<Q;{
 have bu:=aS j Q;have wj:IntKind.i64.wrap ((j:Int)+1)=((j+1:Nat):Int):=by rw[jL _ ae];omega
 obtain⟨hC,hO⟩:=aa ka;have HC:=af hC;have HO:=af hO;have hlen:=(vI en hb hl j S7 Em).2.2;have bj8:=af hlen;clear hC hO ka hlen;obtain⟨PP,q1,c1,F1,G1,T1⟩:=oTs en Sm;obtain⟨VV,q2,c2,F2,G2,T2⟩:=oTs en T1;obtain⟨ow,q3,c3,F3,G3,T3⟩:=oVs en T2;obtain⟨⟨mo,q4⟩,F4⟩:∃y,Hid (oB q3=y):=⟨_,bq⟩;obtain⟨c4,G4⟩:∃a,Hid (nG n q4=a):=⟨_,bq⟩;have T4:Hid (ki n l q4):=by have:=BK (aa en) (aa T3);rw[aa F4]at this;exact this
 obtain⟨hh,q5,c5,F5,G5,T5⟩:=oVs en T4;obtain⟨NP,eNP⟩:∃k,Hid (PP.length=k):=⟨_,bq⟩;obtain⟨NV,eNV⟩:∃k,Hid (VV.length=k):=⟨_,bq⟩;go_wp2_with fail;refine(aN0 en (aa HR _ b5) hb hl xq Sm Ea F1 G1 eNP).mono ?_;rintro z9 y1⟨pP,cP,rfl,oP,aA⟩;have b6:=aj b5 aA;have z1:=aA.size;go_wp2_with fail;refine(aN0 en (aa HR _ b6) hb hl xq T1 G1 F2 G2 eNV).mono ?_;rintro z9 y2⟨pV,cV,rfl,oV',aD⟩;have b7:=aj b6 aD;have z2:=aD.size;obtain⟨lP,fP⟩:=Own.pb oP;obtain⟨lV,fV⟩:=Own.pb oV';have FP:=af (fP.below aD);have FV:=af fV;have BX:=af (aj aA aD);have C7:=af (HC.below ae BX);have R7:=af ((R3.grown ae (aa yI) aU).below ae (aa BX));clear oP oV' fP fV aA aD;go_wp2_with fail;refine(uK en (aa HR _ b7) hb hl T2 G2 F3 G3).mono ?_;rintro z9 y3⟨rfl,rfl⟩;go_wp2_with fail;refine(bu2 en (aa HR _ b7) hb hl T3 G3 F4 G4).mono ?_;rintro z9 y4⟨rfl,rfl⟩;go_wp2_with fail;refine(uK en (aa HR _ b7) hb hl T4 G4 F5 G5).mono ?_;rintro z9 X⟨rfl,rfl⟩;have hhr:0<=hh/\hh<18446744073709551616:=by have:=iL (om:=q4);rw[aa F5]at this;exact this
 have n5:=Ff T5;rw[aa G5]at n5;have N5:=af n5.1;have m5:-1<=c5/\c5<=n:=⟨n5.2.2,n5.2.1⟩;clear n5;by_cases h9:c5<0;{
 have hn:=N5.1 h9;have R8:=af (R7.below ae (au.alloc ao (.cells #[.S pP NP cP,.S pV NV cV,.U ow,.I mo,.S none 0 0,.U 0,.U 0,.S none 0 0] 119)));have hP:dK l=none:=by
  rw[dK,aa SPO,JP (CG (aa Em) (by rw[px];simp only[aa F1,aa F2,aa F3,aa F4,aa F5];rw[bN (.inl hn)])) Q ae]
  rfl
 have HD:=af hP;clear hP;obtain⟨r0,r1,r2,r3,r4,r5,rf⟩:=R8.c6;have BB:=(NC b7 (o:=.cells #[.S pP NP cP,.S pV NV cV,.U ow,.I mo,.S none 0 0,.U 0,.U 0,.S none 0 0] 119));go_wp2;refine dD (by simp[results,results34,go_sem,r0,r1,r2,r3,r4,r5]) rfl (AE HD (oz BB))};{
 by_cases h10:50<hh;{
 have R8:=af (R7.below ae (au.alloc ao (.cells #[.S pP NP cP,.S pV NV cV,.U ow,.I mo,.S none 0 0,.U 0,.U 0,.S none 0 0] 119)));have hP:dK l=none:=by
  rw[dK,aa SPO,JP (CG (aa Em) (by rw[px];simp only[aa F1,aa F2,aa F3,aa F4,aa F5];rw[bN (.inr h10)])) Q ae]
  rfl
 have HD:=af hP;clear hP;obtain⟨r0,r1,r2,r3,r4,r5,rf⟩:=R8.c6;have BB:=(NC b7 (o:=.cells #[.S pP NP cP,.S pV NV cV,.U ow,.I mo,.S none 0 0,.U 0,.U 0,.S none 0 0] 119));go_wp2;refine dD (by simp[results,results34,go_sem,r0,r1,r2,r3,r4,r5]) rfl (AE HD (oz BB))};{
 skip
 obtain⟨H,rfl⟩:∃K:Nat,hh=(K:Int):=⟨hh.toNat,ae⟩;have hn5:¬q5=none:=λhh=>h9 (N5.2 hh);have HN5:=af hn5;have wH:=fk H;have hH:H<=50:=ae;obtain⟨nb,hnb⟩:=az X.heap.size;obtain⟨V5,hV5⟩:=az (X.alloc (.cells #[.S pP NP cP,.S pV NV cV,.U ow,.I mo,.S none 0 0,.U 0,.U 0,.S none 0 0] 119));have hbV:=ew hV5;have CV:Hid (al V5 nb [.S pP NP cP,.S pV NV cV,.U ow,.I mo,.S none 0 0,.U 0,.U 0,.S none 0 0]):=by show al _ _ _;rw[hV5,hnb];exact al.alloc X #[.S pP NP cP,.S pV NV cV,.U ow,.I mo,.S none 0 0,.U 0,.U 0,.S none 0 0] _
 have zV:V5.heap.size=nb+1:=by rw[hV5];simp;omega
 have ZX:Hid (X.heap.size=nb):=hnb.symm;have hsn:sb<nb:=ae;have HNB:=af hnb;clear N5 hn5 hnb;go_wp2;rw[<-hV5,<-aa HNB];clear hV5
 go_loopw[5,27](λav kv wr=>∃(i:Nat)(a:Int)(Hv:Value),i<=H/\av=.I a/\kv=.I i/\Hid (nG n (rL oV i q5).2=a)/\Hid (ki n l (rL oV i q5).2)/\Hid (al wr nb [.S pP NP cP,.S pV NV cV,.U ow,.I mo,Hv,.U 0,.U 0,.S none 0 0]/\jX (nb+1) wr Hv (rL oV i q5).1)/\Hid (Bw X wr)/\nb<wr.heap.size) (λ_ kv _=>H-(intOf kv).toNat)
 exact⟨0,_,_,fN _,rfl,rfl,G5,T5,⟨CV,gC _ _ _ _⟩,hbV,ae⟩;{
 clear CV hbV zV;obtain⟨i,a',Hv,hi,rfl,rfl,Ei,Si,ka,Bi,zi⟩:=hrel;have b8:=aj b7 Bi;by_cases hlh:i<H;{
 have bA4:=aS i H;have wi:IntKind.i64.wrap ((i:Int)+1)=((i+1:Nat):Int):=by rw[jL _ ae];omega
 obtain⟨d,q6,c6,F6,G6,T6⟩:=oVs en Si;go_wp2_with fail;refine(uK en (aa HR _ b8) hb hl Si Ei F6 G6).mono ?_;rintro z9 w2⟨rfl,rfl⟩;obtain⟨hC,hO⟩:=aa ka;obtain⟨v3,ly⟩:=az (w2.alloc (.cells #[.U d] 31));have aL:=ew ly;have Dy:∀i u,([.U d]:List Value)[i]?=some u->v3.cell? (Ad w2.heap.size i)=some u:=ly▸oQ;have vW:=af Dy;have z3:v3.heap.size=w2.heap.size+1:=by rw[ly];simp
 have QY:Hid (∀b,Hv.ownBlock=some b->nb+1<=b/\b<w2.heap.size):=λb e=>hO.lt b e;have C3:=af (hC.below zi aL);have B3:=af (aj Bi aL);have Ix:Hid (v3.ownsRow (nb+1) 31 1 Hv i ((rL oV i q5).1.map (Value.int .u64))):=by have:=hO.below aL;unfold jX at this;rw[sO]at this;exact this
 have cl:=hC.1 4 _ rfl;clear Dy hC hO ka;go_wp2_with(at_builtin;rw[<-ly];refine cK rfl 117 rfl iu 1 underlying117 hiu uz0 uz1 uz2 rfl aZ Hv rfl (aa Ix) w2.heap.size 1 1 [.U d] rfl rfl (aa vW) (λu hu=>by simp at hu;subst hu;rfl) iF ae ae ?_);intro v' w9 du hg mX;rw[<-ly]at hg;have sn:=jX.snoc (sO oV i q5) du;obtain⟨pN,cN,e9⟩:=sn.form;rw[ir,sO]at e9;subst e9;have C9:=C3.grown ae hg (λe=>aG (aa QY nb e.symm).1);have B9:Hid (Bw X w9):=B3.grown hg B3.size (λb e=>by have:=(aa QY b e).1;have:=aa ZX;omega);have z9:=hg.size;have CT:=af (C9.fG 4 ai (.S pN (i+1) cN));have OT:Hid (jX (nb+1) (w9.setCell (Ad nb 4) (.S pN (i+1) cN)) (.S pN (i+1) cN) ((rL oV i q5).1++[d])):=Gs sn (aE w9 (Ad nb 4) _) (.inr λe=>aG (sn.lt nb e).1);have BT:Hid (Bw X (w9.setCell (Ad nb 4) (.S pN (i+1) cN))):=B9.setCell (by have:=aa ZX;simp;omega) _;have zT:nb<(w9.setCell (Ad nb 4) (.S pN (i+1) cN)).heap.size:=by simp;omega
 have cc:=C9.1 4 _ rfl;have cf:=C9.2;have EL:Hid ((rL oV i q5).1++[d]=(rL oV (i+1) q5).1/\(rL oV (i+1) q5).2=q6):=by show _/\_;rw[rL,aa F6];exact⟨rfl,rfl⟩
 clear du hg mX sn C9 ly aL cl;go_wp2;go_roundw;exact⟨i+1,c6,_,ae,rfl,by go_num,(EL.2▸G6),(EL.2▸T6),(by rw[<-EL.1];exact⟨aa CT,aa OT⟩),BT,zT⟩;exact bM};{
 have bA4:=dm i H
 skip
 have eiH:H=i:=ae;subst eiH;obtain⟨hC,hO⟩:=aa ka;obtain⟨pH,cH,e9⟩:=hO.form;rw[sO]at e9;subst e9;obtain⟨HL,eHL⟩:∃L,Hid ((rL oV H q5).1=L):=⟨_,bq⟩;rw[aa eHL]at hO;have lHL:Hid (HL.length=H):=by show _=_;rw[<-aa eHL];exact sO _ _ _
 have HC9:=af hC;have HO9:=af hO;clear hC hO ka hi hlh bA4;obtain⟨ep,q7,c7,F7,G7,T7⟩:=oVs en Si;obtain⟨ge,q8,c8,F8,G8,T8⟩:=oVs en T7;go_wp2_with fail;refine(uK en (aa HR _ b8) hb hl Si Ei F7 G7).mono ?_;rintro z9 y5⟨rfl,rfl⟩;go_wp2_with fail;refine(uK en (aa HR _ b8) hb hl T7 G7 F8 G8).mono ?_;rintro z9 y6⟨rfl,rfl⟩;obtain⟨nd,bI7⟩:∃nd:aC,Hid (nd=⟨PP,VV,ow,mo,HL,ep,ge,[]⟩):=⟨_,bq⟩;have ESP:Hid (fM (j+1) o7=some (ns++[nd],q8)):=O0 Em (by rw[px];simp only[aa F1,aa F2,aa F3,aa F4,aa F5];rw[bG (by rw[Je];exact⟨aa HN5,ae⟩)];simp only[qY,aa eHL,aa F7,aa F8];rw[aa bI7])
 have CA:=HC9.fG 5 ai (.U ep);have CB:=CA.fG 6 ai (.U ge);obtain⟨Z,hZ⟩:=az ((y6.setCell (Ad nb 5) (.U ep)).setCell (Ad nb 6) (.U ge));rw[<-hZ]at CB;have BZ:Bw X Z:=by rw[hZ];exact(Bi.setCell (by have:=aa ZX;simp;omega) _).setCell (by have:=aa ZX;simp;omega) _
 have OZ:jX (nb+1) Z (.S pH H cH) HL:=by rw[hZ];have o1:=Gs HO9 (aE y6 (Ad nb 5) (.U ep)) (.inr λe=>aG (HO9.lt nb e).1);exact Gs o1 (aE _ (Ad nb 6) (.U ge)) (.inr λe=>aG (o1.lt nb e).1)
 have zZ:nb<Z.heap.size:=by rw[hZ];simpa using zi
 have CZs:=C7.below (aG (aa ZX)) BZ;obtain⟨v3,ly⟩:=az (Z.alloc (.cells #[.S pP NP cP,.S pV NV cV,.U ow,.I mo,.S pH H cH,.U ep,.U ge,.S none 0 0] 119));have hbz:=ew ly;have Dy:∀i u,([.S pP NP cP,.S pV NV cV,.U ow,.I mo,.S pH H cH,.U ep,.U ge,.S none 0 0]:List Value)[i]?=some u->v3.cell? (Ad Z.heap.size i)=some u:=ly▸oQ;have ezz:Z.heap.size=y6.heap.size:=by rw[hZ];simp
 rw[ezz]at Dy;have vW:=af Dy;have z3:v3.heap.size=Z.heap.size+1:=by rw[ly];simp
 have BX3:=aj BZ hbz;have Bw3:=aj BX BX3;obtain⟨lH,fH⟩:=jX.pu (OZ.below hbz);have zXn:=aa ZX;have ELN:Hid (jC v3 nd [.S pP NP cP,.S pV NV cV,.U ow,.I mo,.S pH H cH,.U ep,.U ge,.S none 0 0] (lP++(lV++(lH++[])))/\nI wr.heap.size v3 (lP++(lV++(lH++[])))):=by have k0:=FP.below BX3;have k1:=FV.below BX3;have k4:=fH;rw[<-aa eNP]at k0;rw[<-aa eNV]at k1;rw[<-aa lHL]at k4;have:=jC.mk4 (nd:=⟨PP,VV,ow,mo,HL,ep,ge,[]⟩) (B:=wr.heap.size) k0 k1 k4 (PU.nil v3 v3.heap.size v3.heap.size) ae ae ae ae ae ae ae ae ae ae;dsimp only at this;rw[aa eNP,aa eNV,aa lHL]at this;rw[aa bI7];exact this
 obtain⟨row,qd,yk⟩:=HO.app jC.keep Bw3 ELN.1 rfl ELN.2 ae;have QY:=af HO.lt;rw[aa bj8]at qd yk;have Vj:=af yk;have Ix:=af qd;have C3':=af (CZs.below ae hbz);have nsb:¬sb=nb:=ae;have nbs:¬nb=sb:=ae;have d5:=HC9.1 5 _ rfl;have d6:=HC9.1 6 _ rfl;have d0:=CB.1 0 _ rfl;have d1:=CB.1 1 _ rfl;have d2:=CB.1 2 _ rfl;have d3:=CB.1 3 _ rfl;have d4:=CB.1 4 _ rfl;have d5':=CB.1 5 _ rfl;have d6':=CB.1 6 _ rfl;have d7:=CB.1 7 _ rfl;have df:=HC9.2;have s5:=CZs.1 5 _ rfl;rw[hZ]at d0 d1 d2 d3 d4 d5' d6' d7 s5;have HZ:=af hZ;have EZZ:=af ezz;have BW3:=af Bw3;have HBZ:=af hbz;clear ezz yk Dy qd CA CB BZ OZ CZs fH hZ BX3 Bw3 hbz;go_wp2_with(at_builtin;rw[<-aa HZ,<-ly];refine cK rfl 33 rfl io 8 underlying33 hio oz0 oz1 oz2 rfl aZ Nv rfl (aa Ix) y6.heap.size 1 1 [.S pP NP cP,.S pV NV cV,.U ow,.I mo,.S pH H cH,.U ep,.U ge,.S none 0 0] rfl rfl (aa vW) (λu hu=>by simp at hu;rcases hu with rfl|rfl|rfl|rfl|rfl|rfl|rfl|rfl<;>rfl) iF ae ae ?_);intro v' w9 du hg As;have ezz:=aa EZZ;have mX:∀g,v'.ownBlock=some g->Nv.ownBlock=some g\/v3.heap.size<=g:=λg e=>by have:=As g e;rw[ly];simpa using this
 rw[<-ly]at hg;obtain⟨sn,pN,cN,rfl⟩:=aa Vj v' w9 du hg mX;have C9:=C3'.grown ae hg (λe=>aG (QY.1 sb e.symm).1);have G9:w4.grownBy w9 (some sb):=jq (jq yI (aB BW3 none) (λb e=>by cases e)) hg (λb e=>.inl (QY.1 b e).1);have CT:=af (C9.fG 5 ai (.S pN (j+1) cN));have OT:=af (sn.aa0 jC.keep (sb:=sb) ae 5 (.S pN (j+1) cN));have GT:Hid (w4.grownBy (w9.setCell (Ad sb 5) (.S pN (j+1) cN)) (some sb)):=gL G9 (aE w9 (Ad sb 5) _);have cc:=C9.1 5 _ rfl;have cf:=C9.2;clear du hg mX As sn C9 G9 ly d0 d1 d2 d3 d4 d5 d6 d5' d6' d7 s5 df;go_wp2;go_roundw;exact⟨j+1,c8,_,_,_,q8,ae,rfl,by go_num,ESP,G8,T8,⟨CT,OT⟩,GT⟩
 case measure=>simp[intOf];omega}}}}}
 {
 have bu:=dm j Q
 skip
 have ejQ:Q=j:=ae;subst ejQ;obtain⟨hC,hO⟩:=aa ka;obtain⟨v1',v2',hlen⟩:=vI en hb hl Q S7 Em;obtain⟨pN,cN,evN,-⟩:=id hO.read;rw[hlen]at evN;subst evN;obtain⟨sl,El⟩:∃L,Hid ((rL oV K o4).1.map Sq=L):=⟨_,bq⟩;have hSL:Hid (∀s∈sl,s.2=(0,[])):=λs hs=>by
  rw[<-aa El]at hs;obtain⟨i,-,rfl⟩:=ji.1 hs
  rfl
 have HNS:=af v1';have ES:Hid (yX l=some ((e,g,x),sl,ns,om)):=by
  show _=_;rw[aa SPO,aa Em,aa El]
  rfl
 have Oj:Hid (sl.length=K):=by show _=_;rw[<-aa El];exact aa HSL
 have Ie:Hid (ns.length=Q):=hlen;obtain⟨L3,OS,Dt,hm2⟩:∃L3,OwnT lp 84 3 (sb+1) wr (.S pS K cS) sl L3/\(∀a∈L3.flatten,a.b<w4.heap.size)/\∀b,(Value.slice pS K cS).ownBlock=some b->b<w4.heap.size:=by refine⟨_,?_,λa' ha=>(O3.lt.2 a' ha).2,λb bR=>(O3.lt.1 b bR).2⟩;rw[<-aa El];exact O3.keep (lp.keep _ _) zg (λb bR=>yI.block b (O3.lt.1 b bR).2 (by have:=(O3.lt.1 b bR).1;simp;omega)) (λa' ha=>yI.block _ (O3.lt.2 a' ha).2 (by have:=(O3.lt.2 a' ha).1;simp;omega))
 obtain⟨rs,A1',lvs,aps,hi1⟩:mg wr (.S pS K cS) sl/\∃A,wS wr (.S pS K cS) sl A/\nI (sb+1) wr A/\∀a∈A,a.b<w4.heap.size:=by obtain⟨A,q1,q2,q3⟩:=OS.uE (M:=w4.heap.size) Dt hm2;exact⟨OS.se.1,A,q1,q2,q3⟩
 obtain⟨rn,A2',lvn,apn⟩:=hO.no;have FF:Hid (gD (sb+1) wr pS K cS pN Q cN sl ns):=⟨A1',A2',rs,rn,lvs,lvn,aps.app (apn.mono ae) ae hi1⟩;have RR:=af (ah rs rn);have C9:=af hC;have R9:=af (R3.grown ae (aa yI) aU);have na:=Ff Sm;rw[aa Ea]at na;have NA:=af na.1;have ma:-1<=a/\a<=n:=⟨na.2.2,na.2.1⟩;clear na hC hO ka OS Dt hm2 lvs aps hi1 lvn apn rs rn v1' v2' hlen hj aT bu;by_cases h11:a<0;{
 have hn:=NA.1 h11;have hP:dK l=none:=by rw[dK,aa ES,Aa,bG (λhh=>hh.1 hn)]
 have HD:=af hP;clear hP;obtain⟨r0,r1,r2,r3,r4,r5,rf⟩:=R9.c6;have BB:=b5;go_wp2;refine dD (by simp[results,results34,go_sem,r0,r1,r2,r3,r4,r5]) rfl (AE HD (oz BB))};{
 skip
 have l9:¬om=none:=λhh=>h11 (NA.2 hh);have HNO:=af l9;clear l9;obtain⟨B,eB⟩:∃B,Hid (mY e g x 0 sl ns=B):=⟨_,bq⟩;have mj:Hid (∀s∈sl,s.2.2.length<=0/\∀e∈s.2.2,aN e.2/\e.2.length<=1048576):=λs hs=>by have:=aa hSL s hs;rw[this];exact⟨fN _,λe he=>by simp at he⟩
 have gq:Hid (∀nd∈ns,aN nd.path/\nd.path.length<=1048576/\nd.value.length<=1048576/\nd.holders.length<=1048576/\nd.watchers.length<=1048576):=λnd bj=>by have:=aa HNS nd bj;exact⟨this.by0,this.l0,this.l1,this.l4,by rw[this.l7];exact fN _⟩
 obtain⟨k0,k1,k2,k3,k4,k5,-⟩:=C9.c6;go_wp2_with fail;refine(Zz Oj Ie RR.1.rd RR.2 ae ae mj gq eB).mono ?_;rintro z9 u1⟨rfl,rJ⟩;have b10:=aj b5 rJ;have R10:=af (R9.below ae rJ);have C10:=af (C9.below ae rJ);have F10:=af (FF.below rJ);have bM9:=af (ah (RR.1.below rJ) (RR.2.below rJ));have zu1:=rJ.size;clear rJ k0 k1 k2 k3 k4 k5;cases B with
 |false=>
  have hP:dK l=none:=by rw[dK,aa ES,Aa,bG (λhh=>by have:=hh.2.1;simp only at this;rw[aa eB]at this;cases this)]
  have HD:=af hP;clear hP;obtain⟨r0,r1,r2,r3,r4,r5,rf⟩:=R10.c6;have BB:=b10;go_wp2;refine dD (by simp[results,results34,go_sem,r0,r1,r2,r3,r4,r5]) rfl (AE HD (oz BB))
 |true=>
  have re:0<=e/\e<18446744073709551616:=by have:=iL (om:=some l);rw[aa E1]at this;exact this
  have rg:0<=g/\g<18446744073709551616:=by have:=iL (om:=o1);rw[aa E2]at this;exact this
  have rx:0<=x/\x<18446744073709551616:=by have:=iL (om:=o2);rw[aa E3]at this;exact this
  obtain⟨e',rfl⟩:∃v:Nat,e=(v:Int):=⟨e.toNat,ae⟩;obtain⟨g',rfl⟩:∃v:Nat,g=(v:Int):=⟨g.toNat,ae⟩;obtain⟨x',rfl⟩:∃v:Nat,x=(v:Int):=⟨x.toNat,ae⟩;have HSM:=af (LM eB HNS);obtain⟨M,eM⟩:∃M,Hid ((xD e' g' x' sl ns).length=M):=⟨_,bq⟩;obtain⟨k0,k1,k2,k3,k4,k5,-⟩:=C10.c6;go_wp2_with fail;refine(Ku ae ae ae Oj Ie bM9.1.rd bM9.2 (af HSM.w) eM).mono ?_;rintro z9 u2⟨pE,cE,rfl,oE,Sr⟩;have b11:=aj b10 Sr;have R11:=af (R10.below ae Sr);have C11:=af (C10.below ae Sr);have F11:=af (F10.below Sr);have zu2:=Sr.size;have RE:=af oE.rd;clear Sr oE k0 k1 k2 k3 k4 k5;go_wp2_with fail;refine(lZ eM en RE (aa HR _ b11) (Lu ae ae ae HSM HNS) hb).mono ?_;rintro z9 u3⟨rfl,hu3⟩;have b12:=aj b11 hu3;have R12:=af (R11.below ae hu3);have C12:=af (C11.below ae hu3);have F12:=af (F11.below hu3);have zu3:=hu3.size;clear hu3;by_cases hEq:xD e' g' x' sl ns=l;{
 have hd:decide (xD e' g' x' sl ns=l)=true:=by simpa using hEq
 have hP:dK l=some (((e':Int),(g':Int),(x':Int)),sl,ns):=by rw[dK,aa ES,Aa,bN ⟨aa HNO,aa eB,by simpa using hEq⟩]
 have HD:Hid (Il (dK l)=⟨e',g',x',0,sl,ns⟩/\Im (dK l)=0):=by rw[hP];exact⟨rfl,rfl⟩
 rw[hd];obtain⟨r0,r1,r2,r3,r4,r5,rf⟩:=R12.c6;obtain⟨k0,k1,k2,k3,k4,k5,-⟩:=C12.c6;have q1:¬w.heap.size=sb:=ae;have q2:¬sb=w.heap.size:=ae;clear hP hd hEq;go_wp2;obtain⟨Z,hZ⟩:=az ((((((u3.setCell (Ad w.heap.size 0) (.U e')).setCell (Ad w.heap.size 1) (.U g')).setCell (Ad w.heap.size 2) (.U x')).setCell (Ad w.heap.size 3) (.I 0)).setCell (Ad w.heap.size 4) (.S pS K cS)).setCell (Ad w.heap.size 5) (.S pN Q cN));have hkZ:∀z,z≠w.heap.size->Z.heap[z]?=u3.heap[z]?:=λz hz=>by
  rw[hZ]
  iterate 6 rw[fW _ _ _ _ hz]
 refine dD (v:=.tuple #[ft e' g' x' 0 (.S pS K cS) (.S pN Q cN),.I 0]) (by simp[results,results34,go_sem,r0,r1,r2,r3,r4,r5]) rfl ⟨?_,?_⟩;{rw[<-hZ,HD.1,HD.2];have f:=(F12.keep (w':=Z) (λz hz _=>hkZ z ae)).mono (B':=w.heap.size) ae;rw[<-aa Oj,<-aa Ie]at f⊢;exact⟨pS,cS,pN,cN,rfl,f⟩};{exact(((((b12.setCell ai _).setCell ai _).setCell ai _).setCell ai _).setCell ai _).setCell ai _}};{
 have hd:decide (xD e' g' x' sl ns=l)=false:=by simpa using hEq
 rw[hd];have hP:dK l=none:=by rw[dK,aa ES,Aa,bG (λhh=>hEq (by simpa using hh.2.2))]
 have HD:=af hP;clear hP;obtain⟨r0,r1,r2,r3,r4,r5,rf⟩:=R12.c6;have BB:=b12;go_wp2;refine dD (by simp[results,results34,go_sem,r0,r1,r2,r3,r4,r5]) rfl (AE HD (oz BB))}}}}}}}}}}
end Go.Proofs.YtkakbcaiplggiaaGreatDoor
