import Derived.Test.YtnhnbpkfpaondaaGreatDoorK16
import Derived.Lib.ItoaWalk
import Derived.LaidHandle
import Derived.LaidLaws
import Derived.Stop.LaidErr
namespace Go.Proofs.YtnhnbpkfpaondaaGreatDoor
set_option maxHeartbeats 0
set_option linter.all false
set_option maxRecDepth 100000
open Go.ChangeShapes Go.WideShapes Go.ChangeAt Go.RowKit Go.Proofs.Tryz
def SL(w:World)(T:Dk×iF×Int×Int)(z:Ending)(w':World):Prop:=∃p0 c0 p1 c1 p2 c2 p c r d,z=.returned (.tuple #[ID p0 c0 p1 c1 p2 c2 p c r d T.1 T.2.1 T.2.2.1,.I T.2.2.2])/\(∃M A1 A2,SK w.heap.size M w' A1 A2 p0 c0 p1 c1 p2 c2 p c r d T.1 T.2.1)/\Bw w w'
variable {w w' v Z:World}{C s q:Int}{B M c0 c1 c2 c d N b g n f m b0:Nat}{A1 A2 A:List Lf}{p0 p1 p2 p r:OA}{D:Dk}{S:iF}{cs a:Array Value}{ty:TypeId}{l xs:LI}{R:Ending->World->Prop}{e:Ending}{Ls:List (List Lf)}{y:aD}{ss:List aQ}{ns:List aD}{ps:List MemPlace}
def SL.no{T:Dk×iF×Int×Int}(h:Hid (T=(dk0,nj,0,C)))(hb:Bw w w'):SL w T (.returned (.tuple #[ZI aq 0 aq 0 aq 0 0 0 0 0 aq aq 0,.I C])) w':=by
 rw[ae h]
 let⟨A1,A2,hz⟩:=gJ.zero w.heap.size w'
 exact⟨none,0,none,0,none,0,none,0,none,0,rfl,⟨w.heap.size,A1,A2,⟨Own.nil _ _,Own.nil _ _,Own.nil _ _,(λb e=>by cases e),(λb e=>by cases e),(λb e=>by cases e)⟩,(by rintro b(e|e|e)<;>cases e),iD _,hz⟩,hb⟩
def SK.mono{B':Nat}(h:SK B M w A1 A2 p0 c0 p1 c1 p2 c2 p c r d D S)(hB:B'<=B):SK B' M w A1 A2 p0 c0 p1 c1 p2 c2 p c r d D S:=⟨h.1.mono hB,h.2.1,fu hB h.2.2.1,h.2.2.2⟩
def Fu:Calls prog 19 #[.I s] w (Rb (.bool (decide (0<=s/\s<=5))) w):=by
 by_cases h0:0<=s;{
 by_cases h1:s<=5;{
 have e:decide (0<=s/\s<=5)=true:=by simp[h0,h1]
 rw[e]
 go_in
 go_wp2;go_ret;exact⟨rfl,cQ _ _⟩};{
 have e:decide (0<=s/\s<=5)=false:=by simp[h1]
 rw[e]
 go_in
 go_wp2;go_ret;exact⟨rfl,cQ _ _⟩}};{
 have e:decide (0<=s/\s<=5)=false:=by simp[h0]
 rw[e]
 go_in
 go_wp2;go_ret;exact⟨rfl,cQ _ _⟩}
theorem Rg(h:SvI B w p0 c0 p1 c1 p2 c2 p c r d D S)(hl:D.l0.length+D.l1.length+D.l2.length<=1048576)(hG:Hid (SG S))(y0:Hid (aN D.l0))(y1:Hid (aN D.l1))(hM:ML w)(hT:N8 w)(dop:LI->Option Rq)(hd:Hid (∀l,qt l (dop l))){T:Dk×iF×Int×Int}(eT:Hid (SnT dop D S q s T)):Calls prog 7 #[ID p0 c0 p1 c1 p2 c2 p c r d D S q,.I s] w (SL w T):=by
 obtain⟨W0,fL,q0,z0,C0,-⟩:=au w #[.S p0 D.l0.length c0,.I D.n0,.S p1 D.l1.length c1,.I D.n1,.S p2 D.l2.length c2,.I D.n2,.U S.e,.U S.g,.U S.x,.I S.t,.S p S.ss.length c,.S r S.ns.length d,.U q] 43;obtain⟨W1,mg,q1,z1,C1,-⟩:=au W0 #[aq,.I 0,aq,.I 0,aq,.I 0,.U 0,.U 0,.U 0,.I 0,aq,aq,.U 0] 43;rw[z0]at C1 z1;have bW:=aj q0 q1;have HA:=ag (λ(v:World)(hv:Bw W1 v)=>ai ((C0.below af q1).below af hv).xA (ai (h.below (aj bW hv)) (ai (hM.below (aj bW hv)) (ai (C1.below af hv) (aj bW hv)))));have HT1:Hid (N8 W1):=λk i1 i2=>(hT k i1 i2).below bW;have HZ:=ag z1
 go_in
 go_wp2_with fail;rw[<-fL,<-mg];have H:=ag (ae HA W1 aA);refine(Pf H.2.1 hl hG y0 y1 H.2.2.1 HT1 dop hd).mono ?_;rintro z v2⟨ok,Eo,rfl,aG⟩;have BV:=ag aG;cases ok with
 |true=>
  have HP:Hid (SvP dop D S q):=Eo.1 al
  let⟨i0,i1,i2,i3,i4,i5,i6,i7,i8,i9,ia,ib,ic⟩:=(ae HA v2 BV).1
  go_wp2_with fail;refine(Fu).mono ?_;rintro z v3⟨rfl,aK⟩;have Td:=ag (aj BV aK);by_cases hs:0<=s/\s<=5;{
 have e5:decide (0<=s/\s<=5)=true:=by simp[hs]
 rw[e5];have ET:=ag (eT.1 HP hs);obtain⟨N,rfl⟩:∃n:Nat,s=n:=⟨s.toNat,af⟩;have hN:N<=5:=af;have HQ:=ag (ldG hd y0 y1 af true).q;rw[HP.2.2.2.2.2.1]at HQ;have hq:=ae HQ;have HK:=ag HP.1;have HS:=ag HP.2.1
 let⟨L,eL⟩:=bG S.B.length
 have hB:=hG.bytes HS;have hL:L<=190000:=ae eL▸hB.1;have HB:=ag hB.2;have H:=ag (ae HA v3 Td);have HE:=ag (hG.aw2 HS H.2.1.2.1 H.2.1.2.2 H.2.2.1 eL);have qV:=ag (hG.bC3 HS H.2.1.2.1 H.2.1.2.2)
 let⟨i0,i1,i2,i3,i4,i5,i6,i7,i8,i9,ia,ib,ic⟩:=H.1
 go_wp2_with fail;refine(Pw p0 p1 p2 c0 c1 c2 D S.e S.g S.x S.t q p r _ c _ d N hN v3 S.B L eL hL HB hq.1 hq.2 HE HK H.2.1.1.o0.rd H.2.1.1.o1.rd H.2.1.1.o2.rd).mono ?_;rintro z v5⟨P0,C0,P1,C1,P2,C2,rfl,R0,R1,R2,fT⟩;have B5:=ag (aj Td fT);have bq9:Hid (XL v5 (dZ S.e S.g S.x S.t (.S p S.ss.length c) (.S r S.ns.length d)) S.e S.g S.x S.t S.ss S.ns):=λv hv=>ae qV v (aj fT hv);have HR:=ag (ai R0 (ai R1 R2))
 let⟨E,eE⟩:=bG (vS (dD q S.B) D N)
 have hE:=(L6 (b:=dD q S.B) (ae HK) (by rw[ji,ae eL];omega) N).len;simp only[sS]at ET;rw[ae eE]at HR ET hE⊢;go_wp2_with fail;refine(LR P0 P1 P2 C0 C1 C2 E S.e S.g S.x S.t q p r _ c _ d S.ss S.ns v5 bq9 HR.1 HR.2.1 HR.2.2 hE.1 hE.2.1 hE.2.2).mono ?_;rintro z v6⟨p6,c6,p7,c7,p8,c8,p9,c9,pa,ca,rfl,M,hM,O6,bf,SO,ko⟩;obtain⟨W7,hW7,b7,z7,C7,-⟩:=au v6 #[.S p6 E.l0.length c6,.I E.n0,.S p7 E.l1.length c7,.I E.n1,.S p8 E.l2.length c8,.I E.n2,.U S.e,.U S.g,.U S.x,.I S.t,.S p9 S.ss.length c9,.S pa S.ns.length ca,.U q] 43;have H7:=ae HA W7 (aj B5 (aj ko b7))
 let⟨n0,n1,n2,n3,n4,n5,n6,n7,n8,n9,na,nb,nc⟩:=H7.2.2.2.1.xA
 have nf:=H7.2.2.2.1.2;have BB:=ag H7.2.2.2.2;have EX:=ag (λ(x0 x1 x2 x3 x4 x5 x6 x7 x8 x9 xd xe xf:Value)=>((((((((((((((show wF (w.heap.size+1) v6 W7 from⟨b7.size,λk hk _=>b7.block k hk⟩).set 0 x0).set 1 x1).set 2 x2).set 3 x3).set 4 x4).set 5 x5).set 6 x6).set 7 x7).set 8 x8).set 9 x9).set 10 xd).set 11 xe).set 12 xf));have zv:Hid (w.heap.size+1<v5.heap.size):=by have:=ae HZ;have:=B5.size;show _<_;omega
 obtain⟨A1,A2,U9⟩:=SO;have HX:=ag (show SK v5.heap.size M v6 A1 A2 p6 c6 p7 c7 p8 c8 p9 c9 pa ca E S from⟨O6,bf,hM,U9⟩);subst hW7;by_cases h5:(N:Int)<5
 all_goals(
  go_wp2;refine dJ (v:=.tuple #[ID p6 c6 p7 c7 p8 c8 p9 c9 pa ca E S q,.I (if(N:Int)<5 then 15 else 0)]) (by simp[h5,results,results7,go_sem,n0,n1,n2,n3,n4,n5,n6,n7,n8,n9,na,nb,nc]) rfl ?_;rw[ae ET];refine⟨p6,c6,p7,c7,p8,c8,p9,c9,pa,ca,rfl,⟨M,A1,A2,(HX.keep (λb h1 h2=>(ae EX _ _ _ _ _ _ _ _ _ _ _ _ _).2 b h2 (aI (ae zv)))).mono (aI (ae zv))⟩,?_⟩
  iterate 13 refine ig ?_ al _
  exact BB)}
  {
 have e5:decide (0<=s/\s<=5)=false:=by simp only[xS];exact hs
 rw[e5];have HD:Hid (T=(dk0,nj,0,1)):=eT.2 λe=>hs e.2
 let⟨n0,n1,n2,n3,n4,n5,n6,n7,n8,n9,na,nb,nc⟩:=(ae HA v3 Td).2.2.2.1.xA
 have nf:=(ae HA v3 Td).2.2.2.1.2;have BB:=(ae HA v3 Td).2.2.2.2;go_wp2;refine dJ (by simp[results,results7,go_sem,n0,n1,n2,n3,n4,n5,n6,n7,n8,n9,na,nb,nc]) rfl (SL.no HD ?_)
 iterate 13 refine ig ?_ al _
 exact BB}
 |false=>
  have HD:Hid (T=(dk0,nj,0,1)):=eT.2 λe=>by have:=Eo.2 e.1;simp at this
  let⟨n0,n1,n2,n3,n4,n5,n6,n7,n8,n9,na,nb,nc⟩:=(ae HA v2 BV).2.2.2.1.xA
  have nf:=(ae HA v2 BV).2.2.2.1.2;have BB:=(ae HA v2 BV).2.2.2.2;go_wp2;refine dJ (by simp[results,results7,go_sem,n0,n1,n2,n3,n4,n5,n6,n7,n8,n9,na,nb,nc]) rfl (SL.no HD ?_)
  iterate 13 refine ig ?_ al _
  exact BB
def SG.ae5(G:SG S)(h:S.ok){L:Nat}(h1:vk w (.S p S.ss.length c) S.ss)(h2:lM w (.S r S.ns.length d) S.ns)(eL:Le S.B L):∀v,Bw w v->Cp 36 #[dZ S.e S.g S.x S.t (.S p S.ss.length c) (.S r S.ns.length d)] v λz w'=>∃p' c',z=.returned (.S p' L c')/\Own v.heap.size w' (.S p' L c') S.B/\Bw v w':=λv hv=>by
 have k:=(G.sml h).w;obtain⟨e,g,x,t,ss,ns⟩:=S;obtain⟨e,rfl⟩:=xk G.e.1;obtain⟨g,rfl⟩:=xk G.g.1;obtain⟨x,rfl⟩:=xk G.x.1;have a:=G.e;have b:=G.g;have f:=G.x;simp only at a b f;exact KE af af af (ag rfl) (ag rfl) (h1.below hv) (h2.below hv) (ag k) eL
theorem Q6(h:SvI B w p0 c0 p1 c1 p2 c2 p c r d D S)(hl:D.l0.length+D.l1.length+D.l2.length<=1048576)(hG:Hid (SG S))(y0:Hid (aN D.l0))(y1:Hid (aN D.l1))(dop:LI->Option Rq)(hd:Hid (∀l,qt l (dop l))):Calls prog 13 #[ID p0 c0 p1 c1 p2 c2 p c r d D S q] w (BlP (SvP dop D S q) w):=by
 obtain⟨W,hW,b1,z1,C1,-⟩:=au w #[.S p0 D.l0.length c0,.I D.n0,.S p1 D.l1.length c1,.I D.n1,.S p2 D.l2.length c2,.I D.n2,.U S.e,.U S.g,.U S.x,.I S.t,.S p S.ss.length c,.S r S.ns.length d,.U q] 43;have HA:=ag (λ(v:World)(hv:Bw W v)=>ai (C1.below af hv) (ai (h.below (aj b1 hv)) (aj b1 hv)))
 go_in
 go_wp2_with fail;rw[<-hW];refine(wV af af af).mono ?_;rintro z v1⟨rfl,aG⟩
 let⟨ok,Eo⟩:=bG (Cw D.l0.length D.n0 D.l1.length D.n1 D.l2.length D.n2)
 rw[ae Eo];have BV:=ag aG;cases ok with
 |false=>
  have bb:=(ae HA v1 BV).2.2;go_wp2;go_ret;exact .no (λe=>by have:=e.1;rw[Dk.ok,ae Eo]at this;cases this) bb
 | true=>
  let⟨i0,i1,i2,i3,i4,i5,i6,i7,i8,i9,ia,ib,ic⟩:=(ae HA v1 BV).1.xA
  go_wp2_with fail;have H:=ag (ae HA v1 BV)
  let⟨ok2,Ih⟩:=bG (kG S.e S.g S.x S.t S.ss S.ns)
  refine(Ug (ag rfl) (ag rfl) H.2.1.2.1.rd H.2.1.2.2 hG.n hG.m (ag hG.bs) (ag hG.bn) Ih).mono ?_;rintro z v2⟨rfl,aK⟩;have Te:=ag (aj BV aK);cases ok2 with
  |false=>
   have bb:=(ae HA v2 Te).2.2;go_wp2;go_ret;exact .no (λe=>by have:=e.2.1;rw[iF.ok,ae Ih]at this;cases this) bb
  |true=>
   let⟨i0,i1,i2,i3,i4,i5,i6,i7,i8,i9,ia,ib,ic⟩:=(ae HA v2 Te).1.xA
   by_cases h4:D.l0.length<=4000;{
 have h4':¬(4000:Int)<(D.l0.length:Int):=af;go_wp2_with fail;have H:=ag (ae HA v2 Te).2.1.1;refine(CJ H.o0.rd y0 (ag rfl) af H.o0.cap H.o0.qm).mono ?_;rintro z v3⟨P,C,vs,rfl,o,br⟩;have Td:=ag (aj Te br)
 let⟨rs,ers⟩:=bG (rl D.l0)
 let⟨K,eK⟩:=bG rs.length
 let⟨T,eT⟩:=bG (sC rs)
 rw[ae ers,ae eK]at o⊢;rw[ae eT];have hK:K<=T:=by rw[<-ae eT,<-ae eK];exact TL rs
 have HO:=ag o.rct;clear br H Te o
 let⟨i0,i1,i2,i3,i4,i5,i6,i7,i8,i9,ia,ib,ic⟩:=(ae HA v3 Td).1.xA
 have bb:=(ae HA v3 Td).2.2;by_cases ht:T=D.l0.length;{
 have ht':((T:Int) != (D.l0.length:Int))=false:=by simp[ht]
 by_cases hn:D.n1=D.l1.length;{
 have ZQ:(D.n1 != (D.l1.length:Int))=false:=by simp[hn]
 have HT:Hid (sC (rl D.l0)=D.l0.length):=by show _=_;rw[ae ers,ae eT,ht]
 have HN:=ag hn;clear hn;by_cases h0:K=0
 focus (
  have HLs:Hid (rl D.l0=[]\/iJ (rl D.l0)=some q):=.inl (ae ers▸D8 (eK.trans h0));have h0':¬(0:Int)<(K:Int):=af;go_wp2_with fail
  go_quiet (fail)
  go_wp2_with fail
  let⟨V,hV⟩:=aB (v3.drewN nq)
  rw[<-hV])
 rotate_left;obtain⟨y,hy⟩:∃y,rs[rs.length-1]?=some y:=⟨_,aY (aI (ae eK))⟩;have hl:=ag (Q4 hy);rw[ae eK]at hy;obtain⟨rb,ro,rq,rd,rfl,cq,-,-,-,-⟩:=HO.at hy;have wk:IntKind.i64.wrap ((K:Int)-1)=((K-1:Nat):Int):=by rw[kU _ af];omega
 have h0':=mW 0 K;have dZ6:0<K:=af;clear hy;by_cases hq:y.1=q
 focus (
  have HLs:Hid (rl D.l0=[]\/iJ (rl D.l0)=some q):=.inr (by rw[ae ers,ae hl,hq]);have um:(y.1 != q)=false:=by simp[hq]
  go_wp2_with fail
  go_quiet (fail)
  go_wp2_with fail
  let⟨V,hV⟩:=aB (v3.drewN nq)
  rw[<-hV];clear hq um cq wk)
 rotate_left
 focus (
  have HF:Hid (¬(rl D.l0=[]\/iJ (rl D.l0)=some q)):=by show¬_;rw[ae ers,ae hl];rintro(e|e);{rw[e]at eK;exact h0 eK.symm};{simp at e;exact hq e}
  have um:(y.1 != q)=true:=by simp[hq]
  go_wp2_with fail
  go_quiet (fail)
  go_wp2;go_ret;exact .no (λe=>ae HF e.2.2.1.2.2) (below_drewN bb))
 all_goals(
  have BV4:Hid (Bw W V):=by show Below _ _ _;rw[hV];exact below_drewN (ae Td)
  have H:=ag (ae HA V BV4).2.1.1
  let⟨R,eR⟩:=bG (UL dop D.l0 D.l1 true)
  have HG:=ag (ldG hd y0 y1 af true);rw[ae eR]at HG;refine(ad7 p0 p1 p2 _ c0 _ c1 _ c2 D.n0 D.n1 D.n2 D.l0 D.l1 (ag rfl) (ag rfl) V H.o0.rd H.o1.rd af af af H.o0.cap H.o1.cap (ag H.o0.qm) (ag H.o1.qm) (ag H.o1.adr.1) y0 y1 dop hd true Eo _ eR).mono ?_;rintro z v4⟨⟨ps,cs,pn,cn,rfl,o4⟩,fy⟩;have BV4:=ag (aj BV4 fy);have O4:=ag o4;obtain⟨⟨e,g,x,u,ss,ns⟩,sq,cd⟩:=R;obtain⟨W5,hW5,b5,z5,C5,-⟩:=au v4 #[.U e,.U g,.U x,.I u,.S ps ss.length cs,.S pn ns.length cn] 41;go_wp2_with fail;rw[<-hW5];clear hW5;have B5:=ag (aj BV4 b5);have HV:=ag (ai HG.v.sg HG.v.ok);have HS5:=ag (λ(v:World)(hv:Bw W5 v)=>ai (ae HA v (aj (ae B5) hv)).1.xA (C5.below af hv).c6);have O5:=ag (ai (O4.1.below b5) (O4.2.below b5));clear b5 C5 O4 BV4;have HP:Hid (SvP dop D S q↔(cd=0/\sq=q/\(⟨e,g,x,u,ss,ns⟩:iF).B=S.B)):=by show _↔_;rw[SvP,ae eR];exact⟨λh=>h.2.2.2.2,λh=>⟨Eo,Ih,⟨h4,HT,HLs⟩,HN,h⟩⟩
  let⟨Bl,eBl⟩:=bG (⟨e,g,x,u,ss,ns⟩:iF).B
  let⟨Sl,eSl⟩:=bG S.B
  let⟨bn,Xz⟩:=bG Bl.length
  let⟨sn,esn⟩:=bG Sl.length
  have E1:=ag (HV.1.ae5 HV.2 O5.1 O5.2 (ae eBl▸Xz));have E2:=ag (hG.ae5 (ae Ih) (ae HA W5 (ae B5)).2.1.2.1.rd (ae HA W5 (ae B5)).2.1.2.2 (ae eSl▸esn));have Y1:=ag (HV.1.bytes HV.2).2;have Y2:=ag (hG.bytes Ih).2;rw[ae eBl]at E1 Y1 HP;rw[ae eSl]at E2 Y2 HP
  let⟨⟨i0,i1,i2,i3,i4,i5,i6,i7,i8,i9,ia,ib,ic⟩,j0,j1,j2,j3,j4,j5,jf⟩:=ae HS5 W5 aA
  have bb:=(ae HA W5 B5).2.2;by_cases h1:cd=0;{
 by_cases h2:sq=q;{
 subst h1 h2;refine du (λv=>VaS w.heap.size v4.heap.size sq S p c r d ⟨e,g,x,u,ss,ns⟩ ps cs pn cn v) (by exact⟨⟨ic,i6,i7,i8,i9,ia,ib⟩,j0,j1,j2,j3,j4,j5⟩) λhS=>?_;have XQ:=ag (λ(v:World)(hv:Bw W5 v)=>(λk=>(⟨⟨k.1.2.2.2.2.2.2.2.2.2.2.2.2,k.1.2.2.2.2.2.2.1,k.1.2.2.2.2.2.2.2.1,k.1.2.2.2.2.2.2.2.2.1,k.1.2.2.2.2.2.2.2.2.2.1,k.1.2.2.2.2.2.2.2.2.2.2.1,k.1.2.2.2.2.2.2.2.2.2.2.2.1⟩,k.2.1,k.2.2.1,k.2.2.2.1,k.2.2.2.2.1,k.2.2.2.2.2.1,k.2.2.2.2.2.2.1⟩:VaS w.heap.size v4.heap.size sq S p c r d ⟨e,g,x,u,ss,ns⟩ ps cs pn cn v)) (ae HS5 v hv));have BV:=ag (cQ W5.heap.size W5).drew
 let⟨v,mY⟩:=aB W5.drew
 rw[<-mY]at BV hS⊢;refine mj 0 1 2 3 4 5 6 7 hS ?_;refine lG 8 9 11 12 hS ?_;refine cX 10 (λKK hK=>?_);refine sOw (ae E1 _ BV) ?_;rintro z v6⟨P,C,rfl,o6,ko⟩;refine⟨_,rfl,?_⟩;have B6:=ag (aj BV ko);have O6:=ag o6.rd;refine fh hK (by exact XQ _ B6) λhS=>?_;refine cX 13 (λKK hK=>?_);refine sOw (ae E2 _ B6) ?_;rintro z v7⟨P2,C2,rfl,o7,Jy⟩;refine⟨_,rfl,?_⟩;have B7:=ag (aj B6 Jy);have O7:=ag (ai (O6.below Jy) o7.rd);refine fh hK (by exact XQ _ B7) λhS=>?_;refine cX 14 (λKK hK=>?_);refine sTw (jS Xz esn O7.1 O7.2 Y1 Y2) ?_;rintro z v8⟨rfl,Z6⟩;refine⟨_,rfl,?_⟩;have B8:=ag (aj B7 Z6);refine fh hK (by exact XQ _ B8) λhS=>?_;refine jR 15 16 hS ?_;refine cY ?_;have bb:=(ae HA v8 (aj B5 B8)).2.2;go_wp2;go_ret;exact⟨decide (Bl=Sl),(by show _↔_;rw[ae HP];simp),rfl,bb⟩};{
 have h2':(sq==q)=false:=by simp[h2]
 subst h1
 go_quiet (fail)
 go_wp2;go_ret;exact .no (by rw[ae HP];simp[h2]) (below_drewN bb)}};{
 have h1':(cd==0)=false:=by simp[h1]
 go_quiet (fail)
 go_wp2;go_ret;exact .no (by rw[ae HP];simp[h1]) (below_drewN bb)})}
 {
 have ZQ:(D.n1 != (D.l1.length:Int))=true:=by simp[hn]
 go_wp2;go_ret;exact .no (λe=>hn e.2.2.2.1) bb}};{
 have ht':((T:Int) != (D.l0.length:Int))=true:=by simp;omega
 go_wp2;go_ret;exact .no (λe=>ht (by have:=e.2.2.1.2.1;rw[ae ers,ae eT]at this;exact this)) bb}};{have h4':(4000:Int)<(D.l0.length:Int):=af;have bb:=(ae HA v2 Te).2.2;go_wp2;go_ret;exact .no (λe=>h4 e.2.2.1.1) bb}
def SpR(w:World)(E:Dk)(z:Ending)(w':World):Prop:=∃q0 d0 q1 d1 q2 d2,z=.returned (dE (.S q0 E.l0.length d0) E.n0 (.S q1 E.l1.length d1) E.n1 (.S q2 E.l2.length d2) E.n2)/\Rd w' (.S q0 E.l0.length d0) E.l0/\Rd w' (.S q1 E.l1.length d1) E.l1/\Rd w' (.S q2 E.l2.length d2) E.l2/\Bw w w'
theorem UM(hN5:N<=5)(h0:Rd w (.S p0 D.l0.length c0) D.l0)(h1:Rd w (.S p1 D.l1.length c1) D.l1)(h2:Rd w (.S p2 D.l2.length c2) D.l2)(hl:D.l0.length+D.l1.length+D.l2.length<=1048576)(h:vk w (.S p S.ss.length c) S.ss)(hN:lM w (.S r S.ns.length d) S.ns)(hG:Hid (SG S))(hO:Hid S.ok)(hq:0<=q)(hq2:q<=2^62):Calls prog 15 #[dE (.S p0 D.l0.length c0) D.n0 (.S p1 D.l1.length c1) D.n1 (.S p2 D.l2.length c2) D.n2,dZ S.e S.g S.x S.t (.S p S.ss.length c) (.S r S.ns.length d),.U q,.I N] w (SpR w (vS (dD q S.B) D N)):=by
 obtain⟨b,eb⟩:=bG S.B;have HB:=hG.bytes hO;rw[ae eb]at HB⊢;obtain⟨W0,fL,b0,z0,C0,-⟩:=au w #[.S p0 D.l0.length c0,.I D.n0,.S p1 D.l1.length c1,.I D.n1,.S p2 D.l2.length c2,.I D.n2] 37;obtain⟨W1,mg,b1,z1,C1,-⟩:=au W0 #[.U S.e,.U S.g,.U S.x,.I S.t,.S p S.ss.length c,.S r S.ns.length d] 41;obtain⟨W2,mu,b2,z2,C2,T2⟩:=au W1 #[aq,.I 0,aq,.I 0,aq,.I 0] 37;rw[z0]at C1 z1;rw[z1]at C2 T2 z2;have bW:=aj b0 (aj b1 b2);have HA:=ag (λ(v:World)(hv:Bw W2 v)=>ai ((C1.below af b2).below af hv).c6 (ai ((hv.block _ af).trans T2) (ai (h.below (aj bW hv)) (ai (hN.below (aj bW hv)) (aj bW hv)))));have HD:=ag (ai (h0.below bW) (ai (h1.below bW) (h2.below bW)));obtain⟨L,eL⟩:=bG b.length;have hL:L<=190000:=ae eL▸HB.1;have HBy:=ag HB.2;have HZ:=ag z2
 go_in
 go_wp2_with fail;rw[<-fL,<-mg,<-mu];refine(Hj p0 p1 p2 c0 c1 c2 D.n0 D.n1 D.n2 D.l0 D.l1 D.l2 W2 HD.1 HD.2.1 HD.2.2 af af af).mono ?_;rintro z w1⟨u0,a0,u1,a1,u2,a2,rfl,o1,aG⟩;have B1:=ag aG;have O1:=ag (ai o1.o0.rd (ai o1.o1.rd o1.o2.rd));have zz:Hid (w.heap.size+3<=w1.heap.size):=by have:=aG.size;have:=ae HZ;show _<=_;omega
 obtain⟨ob,U7⟩:∃o,Hid (o=w1.heap.size):=⟨_,ag rfl⟩;rcases(by omega:N=0\/N=1\/2<=N)with rfl|rfl|IJ
 focus (
  obtain⟨V,hV,b7,z7,C7,-⟩:=au w1 #[.S u0 D.l0.length a0,.I D.n0,.S u1 D.l1.length a1,.I D.n1,.S u2 D.l2.length a2,.I D.n2] 37;have H7:=ae HA V (aj B1 b7);rw[<-ae U7]at C7;have HT:=ag (ai (show ZF V ob (vS (dD q b) D 0)from⟨u0,a0,u1,a1,u2,a2,⟨C7.1 0 _ rfl,C7.1 1 _ rfl,C7.1 2 _ rfl,C7.1 3 _ rfl,C7.1 4 _ rfl,C7.1 5 _ rfl⟩,O1.1.below b7,O1.2.1.below b7,O1.2.2.below b7⟩) (ai H7.2.1 H7.2.2.2.2))
  go_upto_region 13 with fail
  rw[<-hV,<-ae U7];clear hV U7
  )
 rotate_left
 focus (
  obtain⟨V,hV,b7,z7,C7,-⟩:=au w1 #[.S u0 D.l0.length a0,.I D.n0,.S u1 D.l1.length a1,.I D.n1,aq,.I 0] 37;have H7:=ae HA V (aj B1 b7);rw[<-ae U7]at C7;have HT:=ag (ai (show ZF V ob (vS (dD q b) D 1)from⟨u0,a0,u1,a1,none,0,⟨C7.1 0 _ rfl,C7.1 1 _ rfl,C7.1 2 _ rfl,C7.1 3 _ rfl,C7.1 4 _ rfl,C7.1 5 _ rfl⟩,O1.1.below b7,O1.2.1.below b7,Own.rd (Own.nil 0 V)⟩) (ai H7.2.1 H7.2.2.2.2));clear H7 C7 b7 z7
  go_upto_region 13 with fail
  rw[<-hV,<-ae U7];clear hV U7
  )
 rotate_left
 focus (
  have U0:=mW 0 N;have ik:=mW 1 N;obtain⟨X,hX,b7,z7,C7,T7⟩:=au w1 #[.S u0 D.l0.length a0,.I D.n0,.S u1 D.l1.length a1,.I D.n1,aq,.I 0] 37;have BX:=ag (aj B1 b7);have RX:=ag (ai (O1.1.below b7) (ai (O1.2.1.below b7) (ai C7 T7)));rw[<-ae U7]at RX;have zo:Hid (ob<X.heap.size):=by show _<_;have:=ae U7;omega
  clear b7 z7 C7 T7
  go_upto_region 5 with fail
  rw[<-hX,<-ae U7];clear hX U0 ik;have HX:=ag (ae HA X BX);obtain⟨j0,j1,j2,j3,j4,j5,-⟩:=HX.1;go_wp2_with fail;refine(hG.ae5 (ae hO) HX.2.2.1 HX.2.2.2.1 (ae eb▸eL) X aA).mono ?_;rintro z w2⟨p3,c3,rfl,o3,aK⟩;rw[ae eb]at o3;have O3:=ag o3.rd;have B2:=ag (aj BX aK);have RX2:=ag (ai (RX.1.below aK) (ai (RX.2.1.below aK) (ai (RX.2.2.1.below (ae zo) aK) ((aK.block _ (ae zo)).trans RX.2.2.2))));have zo2:Hid (ob<w2.heap.size):=iq zo aK.size;go_wp2_with fail;refine(CK eL O3 HBy af hq af).mono ?_;rintro z w3⟨p4,c4,rfl,o4,br⟩;have B3:=aj B2 br;have H3:=ae HA w3 B3;have bS:w.heap.size+1+1≠ob:=by have:=ae zz;have:=ae U7;omega
  obtain⟨k0,k1,k2,k3,k4,k5,kf⟩:=(RX2.2.2.1.below zo2 br).c6;have hK:=(br.block _ zo2).trans RX2.2.2.2;have r0:=RX2.1.below br;have r1:=RX2.2.1.below br;have r4:=o4.rd;have eLb:(dD q b).length=L+20:=by rw[ji,ae eL]
  rw[<-eLb]at r4;have RR:=ag (λ(v:World)(hv:wF ob w3 v)=>ai (r0.VX hK (by intro y;simp) hv) (ai (r1.VX hK (by intro y;simp) hv) (ai (r4.VX hK (by intro y;simp) hv) (ai ((hv.2 _ (iq (aI (ae HZ)) B3.size) bS).trans H3.2.1) (λ(hb:Bw w v)=>hb)))));have BB3:=ag (ae HA w3 B3).2.2.2.2;have zob:Hid (w.heap.size<=ob):=by have:=ae zz;have:=ae U7;show _<=_;omega
  have k6:=λv=>(show(w3.setCell (Ad ob 4) v).cell? (Ad ob 5)=some (.I 0) by simp[go_sem,k5]);obtain⟨N',eS⟩:∃n,Hid (n=N):=⟨_,ag rfl⟩;rcases(by omega:N=2\/N=3\/N=4\/N=5)with rfl|rfl|rfl|rfl
  all_goals go_upto_region 13 with fail
  all_goals(
   go_name_world V hV
   have EX:wF ob w3 V:=by rw[<-hV];(repeat(first|refine wF.set ?_ _ _|exact⟨iD _,λ_ _ _=>rfl⟩))
   have BV:Bw w V:=by rw[<-hV];(repeat(first|refine ig ?_ (ae zob) _|exact ae BB3))
   obtain⟨s0,s1,s4,sT,-⟩:=ae RR V EX;have sN:Rd V aq []:=Own.rd (Own.nil 0 V);have HT:=ag (ai (show ZF V ob (vS (dD q b) D N') by rw[ae eS];first
    |exact⟨u0,a0,u1,a1,p4,c4,(by rw[<-hV];refine⟨?_,?_,?_,?_,?_,?_⟩<;>simp[go_sem,Ad,vS,eLb,k0,k1,k2,k3,k4,k5,k6]),s0,s1,s4⟩
    |exact⟨u0,a0,p4,c4,none,0,(by rw[<-hV];refine⟨?_,?_,?_,?_,?_,?_⟩<;>simp[go_sem,Ad,vS,eLb,k0,k1,k2,k3,k4,k5,k6]),s0,s4,sN⟩
    |exact⟨none,0,p4,c4,none,0,(by rw[<-hV];refine⟨?_,?_,?_,?_,?_,?_⟩<;>simp[go_sem,Ad,vS,eLb,k0,k1,k2,k3,k4,k5,k6]),sN,s4,sN⟩) (ai sT BV))
   rw[ae eS]at HT;clear EX BV s0 s1 s4 sT sN k0 k1 k2 k3 k4 k5 k6 kf hV eLb bS))
 all_goals(
  obtain⟨⟨x0,y0,x1,y1,x2,y2,⟨e0,e1,e2,e3,e4,e5⟩,r0,r1,r2⟩,TT,BB⟩:=ae HT;have n0:=ao TT 0;have n1:=ao TT 1;have n2:=ao TT 2;have n3:=ao TT 3;have n4:=ao TT 4;have n5:=ao TT 5;have nf:∀o,V.frozen? (Ad (w.heap.size+1+1) o)=false:=λo=>by simp[World.frozen?,TT]
  have RQ:=ag (λ(v:World)(hv:wF (w.heap.size+1+1) V v)=>ai (r0.VX TT (by intro y;simp) hv) (ai (r1.VX TT (by intro y;simp) hv) (r2.VX TT (by intro y;simp) hv)));have B7:=ag BB;simp at n0 n1 n2 n3 n4 n5;go_wp2;have EX:=λ(x0 x1 x2 x3 x4 x5:Value)=>(((((((show wF (w.heap.size+1+1) V V from⟨iD _,λ_ _ _=>rfl⟩).set 0 x0).set 1 x1).set 2 x2).set 3 x3).set 4 x4).set 5 x5);obtain⟨R0,R1,R2⟩:=ae RQ _ (EX _ _ _ _ _ _);refine dJ (v:=dE (.S x0 _ y0) _ (.S x1 _ y1) _ (.S x2 _ y2) _) (by simp[results,results15,go_sem,n0,n1,n2,n3,n4,n5]) rfl ⟨x0,y0,x1,y1,x2,y2,rfl,R0,R1,R2,?_⟩
  iterate 6 refine ig ?_ (by show w.heap.size<=w.heap.size+1+1;omega) _
  exact B7)
def XM(w:World)(T:Dk×iF×Int×Int)(z:Ending)(w':World):Prop:=∃p0 c0 p1 c1 p2 c2 p c r d,z=.returned (.tuple #[ID p0 c0 p1 c1 p2 c2 p c r d T.1 T.2.1 T.2.2.1,.I T.2.2.2])/\JH w' p0 c0 p1 c1 p2 c2 p c r d T.1 T.2.1/\Bw w w'
def XM.no{T:Dk×iF×Int×Int}(h:Hid (T=(dk0,nj,0,C)))(hb:Bw w w'):XM w T (.returned (.tuple #[ZI aq 0 aq 0 aq 0 0 0 0 0 aq aq 0,.I C])) w':=by
 rw[ae h];exact⟨none,0,none,0,none,0,none,0,none,0,rfl,⟨Own.rd (Own.nil 0 w'),Own.rd (Own.nil 0 w'),Own.rd (Own.nil 0 w'),(uE).rd,yZ⟩,hb⟩
def wF.fr(h:wF b w v)(hb:w.heap[b]?=some (.cells cs ty)):Fr [ty] w v:=⟨h.1,λy cur ty' m' hn hy=>by
 by_cases e:y=b;{subst e;rw[hb]at hy;cases hy;exact absurd (nE.2 rfl) hn};{exact(h.2 y (iW hy) e).trans hy}⟩
def CsR(w:World)(D:Dk)(S:iF)(q:Int)(z:Ending)(w':World):Prop:=∃p0 c0 p1 c1 p2 c2 p c r d B Q,z=.returned (ID p0 c0 p1 c1 p2 c2 p c r d D S q)/\kq B w' (.S p S.ss.length c) S.ss Q/\AI B w' (.S r S.ns.length d) S.ns/\Bw w w'
def UN(h:SvI B w p0 c0 p1 c1 p2 c2 p c r d D S)(hl:D.l0.length+D.l1.length+D.l2.length<=1048576)(hG:Hid (SG S)):Calls prog 14 #[ID p0 c0 p1 c1 p2 c2 p c r d D S q] w (CsR w D S q):=by
 obtain⟨W,hW,b1,z1,C1,-⟩:=au w #[.S p0 D.l0.length c0,.I D.n0,.S p1 D.l1.length c1,.I D.n1,.S p2 D.l2.length c2,.I D.n2,.U S.e,.U S.g,.U S.x,.I S.t,.S p S.ss.length c,.S r S.ns.length d,.U q] 43
 let⟨W2,mu,b2,z2,C2,T2⟩:=au W #[aq,.I 0,aq,.I 0,aq,.I 0,.U 0,.U 0,.U 0,.I 0,aq,aq,.U 0] 43
 go_in
 go_wp2_with fail;rw[<-hW,<-mu];have bb:=aj b1 b2;rw[z1]at C2 T2;have HC:=ag (λ(v:World)(hv:Bw W2 v)=>(λcc=>(⟨⟨cc.1 0 _ rfl,cc.1 1 _ rfl,cc.1 2 _ rfl,cc.1 3 _ rfl,cc.1 4 _ rfl,cc.1 5 _ rfl⟩,cc.1 12 _ rfl,cc.1 6 _ rfl,cc.1 7 _ rfl,cc.1 8 _ rfl,cc.1 9 _ rfl,cc.1 10 _ rfl,cc.1 11 _ rfl⟩:SvA v w.heap.size (.S p0 D.l0.length c0) (.I D.n0) (.S p1 D.l1.length c1) (.I D.n1) (.S p2 D.l2.length c2) (.I D.n2) q S.e S.g S.x S.t (.S p S.ss.length c) (.S r S.ns.length d))) ((C1.below af b2).below af hv));have HR:=ag (λ(v:World)(hv:Bw W2 v)=>ai (h.below (aj bb hv)) (ai (C2.below af hv) ((hv.block _ af).trans T2)));have BV:=ag (cQ W2.heap.size W2).drew;refine du (λv=>SvA v w.heap.size (.S p0 D.l0.length c0) (.I D.n0) (.S p1 D.l1.length c1) (.I D.n1) (.S p2 D.l2.length c2) (.I D.n2) q S.e S.g S.x S.t (.S p S.ss.length c) (.S r S.ns.length d)) (by exact HC _ BV) λhS=>?_
 let⟨v,mY⟩:=aB W2.drew
 rw[<-mY]at BV hS⊢;refine lG 0 1 3 4 hS ?_;refine jR 6 7 hS ?_;refine cX 2 (λKK hK=>?_);have H:=ag (ae HR _ BV).1;refine iw (Hj p0 p1 p2 c0 c1 c2 D.n0 D.n1 D.n2 D.l0 D.l1 D.l2 v H.1.o0.rd H.1.o1.rd H.1.o2.rd af af af) ?_;rintro z v2⟨P0,C0,P1,C1,P2,C2,rfl,-,aK⟩;refine⟨_,rfl,?_⟩;have B2:=ag (aj BV aK);refine fh hK (by exact HC _ B2) λhS=>?_;refine cX 5 (λKK hK=>?_);have H:=ag (ae HR _ B2).1;refine iw (NC (ag rfl) (ag rfl) H.2.1.rd H.2.2 hG.n hG.m (ag λs hs=>⟨(hG.bs s hs).1,λev he=>((hG.bs s hs).2 ev he).2⟩) (ag λnd bu=>(hG.bn nd bu).2)) ?_;rintro z v4⟨Ps,Cs,Pn,Cn,rfl,⟨Q,o4⟩,n4,fy⟩;refine⟨_,rfl,?_⟩;have B4:=ag (aj B2 fy);have O4:=ag (ai o4 n4);refine fh hK (by exact HC _ B4) λhS=>?_;refine tn 8 hS ?_;refine cX 9 (λKK hK=>?_);have ZC:=(ae HR _ B4).2.1;have hT:=(ae HR _ B4).2.2;have nf:=ZC.2
 let⟨n0,n1,n2,n3,n4,n5,n6,n7,n8,n9,na,nb,nc⟩:=ZC.xA
 go_simp;have EX:=λ(x0 x1 x2 x3 x4 x5 x6 x7 x8 x9 xd xe xf:Value)=>((((((((((((((show wF (w.heap.size+1) v4 v4 from⟨iD _,λ_ _ _=>rfl⟩).set 0 x0).set 1 x1).set 2 x2).set 3 x3).set 4 x4).set 5 x5).set 6 x6).set 7 x7).set 8 x8).set 9 x9).set 10 xd).set 11 xe).set 12 xf);have B4s:=ag B4.size;have RR:=ag (λ(v:World)(hv:wF (w.heap.size+1) v4 v)=>ai (O4.1.fr (hv.fr hT)) (gq.fr O4.2 (hv.fr hT)));refine fh hK (by exact SvA.ex (ae HC _ B4) (EX _ _ _ _ _ _ _ _ _ _ _ _ _) af) λhS=>?_;refine cY ?_;go_wp2;refine dJ (v:=ID P0 C0 P1 C1 P2 C2 Ps Cs Pn Cn D S q) (by simp[results,results14,go_sem,n0,n1,n2,n3,n4,n5,n6,n7,n8,n9,na,nb,nc]) rfl ⟨P0,C0,P1,C1,P2,C2,Ps,Cs,Pn,Cn,_,Q,rfl,(ae RR _ (EX _ _ _ _ _ _ _ _ _ _ _ _ _)).1,(ae RR _ (EX _ _ _ _ _ _ _ _ _ _ _ _ _)).2,?_⟩
 iterate 13 refine ig ?_ al _
 exact aj bb B4
def ad5(h:SvI B w p0 c0 p1 c1 p2 c2 p c r d D S)(hl:D.l0.length+D.l1.length+D.l2.length<=1048576)(hG:Hid (SG S))(y0:Hid (aN D.l0))(y1:Hid (aN D.l1))(dop:LI->Option Rq)(hd:Hid (∀l,qt l (dop l))){T:Dk×iF×Int×Int}(eT:Hid (SnT dop D S q s T)):Calls prog 5 #[ID p0 c0 p1 c1 p2 c2 p c r d D S q,.I s] w (XM w T):=by
 obtain⟨W0,fL,q0,z0,C0,-⟩:=au w #[.S p0 D.l0.length c0,.I D.n0,.S p1 D.l1.length c1,.I D.n1,.S p2 D.l2.length c2,.I D.n2,.U S.e,.U S.g,.U S.x,.I S.t,.S p S.ss.length c,.S r S.ns.length d,.U q] 43
 let⟨W1,mg,q1,z1,C1,T1⟩:=au W0 #[aq,.I 0,aq,.I 0,aq,.I 0,.U 0,.U 0,.U 0,.I 0,aq,aq,.U 0] 43
 rw[z0]at C1 T1 z1;have bW:=aj q0 q1;have HA:=ag (λ(v:World)(hv:Bw W1 v)=>ai ((C0.below af q1).below af hv).xA (ai (h.below (aj bW hv)) (ai (C1.below af hv) (ai ((hv.block _ af).trans T1) (aj bW hv)))));have HZ:=ag z1
 go_in
 go_wp2_with fail;rw[<-fL,<-mg];refine(Q6 (ae HA W1 aA).2.1 hl hG y0 y1 dop hd).mono ?_;rintro z v2⟨ok,Eo,rfl,aG⟩;have BV:=ag aG
 let⟨i0,i1,i2,i3,i4,i5,i6,i7,i8,i9,ia,ib,ic⟩:=(ae HA v2 BV).1
 by_cases hc:ok=true/\0<=s/\s<=5;{
 obtain⟨rfl,s0,s5⟩:=hc;have HP:Hid (SvP dop D S q):=Eo.1 rfl;have ET:=ag (eT.1 HP ⟨s0,s5⟩);have s0':¬s<0:=af;have s5':¬5<s:=af;have HQ:=ag (ldG hd y0 y1 af true).q;rw[HP.2.2.2.2.2.1]at HQ;have hq:=ae HQ;have HK:=ag HP.1;have HS:=ag HP.2.1;go_wp2_with fail;refine(UN (ae HA v2 BV).2.1 hl hG).mono ?_;rintro z v3⟨P0,C0,P1,C1,P2,C2,Ps,Cs,Pn,Cn,Bs,Q,rfl,o3,n3,br⟩
 let⟨W3,we,b3,z3,C3,T3⟩:=au v3 #[.S P0 D.l0.length C0,.I D.n0,.S P1 D.l1.length C1,.I D.n1,.S P2 D.l2.length C2,.I D.n2,.U S.e,.U S.g,.U S.x,.I S.t,.S Ps S.ss.length Cs,.S Pn S.ns.length Cn,.U q] 43
 have B3:=ag (aj BV (aj br b3));have hzz:Hid (w.heap.size+1<v3.heap.size/\v3.heap.size<W3.heap.size):=⟨by have:=ae HZ;have:=BV.size;have:=br.size;omega,af⟩;have H3:=ag (λ(v:World)(hv:Bw W3 v)=>ai (C3.below hzz.2 hv) (ai ((hv.block _ hzz.2).trans T3) (ai (o3.fr (Fr.below (T:=[43]) (aj b3 hv))) (gq.fr n3 (Fr.below (T:=[43]) (aj b3 hv))))))
 let⟨i0,i1,i2,i3,i4,i5,i6,i7,i8,i9,ia,ib,ic⟩:=(ae HA W3 B3).1
 obtain⟨N,rfl⟩:∃n:Nat,s=n:=⟨s.toNat,af⟩;simp only[sS]at ET;subst we;go_wp2_with fail
 let⟨W3,we⟩:=aB (v3.alloc (.cells #[.S P0 D.l0.length C0,.I D.n0,.S P1 D.l1.length C1,.I D.n1,.S P2 D.l2.length C2,.I D.n2,.U S.e,.U S.g,.U S.x,.I S.t,.S Ps S.ss.length Cs,.S Pn S.ns.length Cn,.U q] 43))
 rw[<-we]at B3 hzz H3⊢;have H:=ag (ae HA W3 B3).2.1;refine(UM af H.1.o0.rd H.1.o1.rd H.1.o2.rd hl H.2.1.rd H.2.2 hG HS hq.1 hq.2).mono ?_;rintro z v5⟨x0,d0,x1,d1,x2,d2,rfl,R0,R1,R2,fT⟩
 let⟨E,eE⟩:=bG (vS (dD q S.B) D N)
 rw[ae eE]at R0 R1 R2 ET⊢;have H5:=ae HA v5 (aj B3 fT)
 let⟨K3,TK,S5,N5⟩:=ae H3 v5 fT
 let⟨n0,n1,n2,n3,n4,n5,n6,n7,n8,n9,na,nb,nc⟩:=H5.2.2.1.xA
 have nf:=H5.2.2.1.2
 let⟨k0,k1,k2,k3,k4,k5,k6,k7,k8,k9,ka,kb,kc⟩:=K3.xA
 have kf:=K3.2;have bS:w.heap.size+1≠v3.heap.size:=aI (ae hzz);have cA0:w.heap.size+1<v5.heap.size:=by have:=ae hzz;have:=fT.size;omega
 have T5:=H5.2.2.2.1;have BB:=ag H5.2.2.2.2;have RR:=ag (λ(Y:World)(hY:wF v3.heap.size v5 Y)(Z:World)(hZ:wF (w.heap.size+1) Y Z)=>(λ(TY:Y.heap[w.heap.size+1]?=some _)=>ai ((R0.VX TK (by intro y;simp) hY).VX TY (by intro y;simp) hZ) (ai ((R1.VX TK (by intro y;simp) hY).VX TY (by intro y;simp) hZ) (ai ((R2.VX TK (by intro y;simp) hY).VX TY (by intro y;simp) hZ) (ai ((S5.fr (hY.fr TK)).fr (hZ.fr TY)).rds (gq.rdn (gq.fr (gq.fr N5 (hY.fr TK)) (hZ.fr TY))))))) ((hY.2 _ cA0 bS).trans T5));have EX:=ag (λ(x0 x1 x2 x3 x4 x5:Value)=>(((((((show wF v3.heap.size v5 v5 from⟨iD _,λ_ _ _=>rfl⟩).set 0 x0).set 1 x1).set 2 x2).set 3 x3).set 4 x4).set 5 x5));have EY:=ag (λ(Y:World)(x0 x1 x2 x3 x4 x5 x6 x7 x8 x9 xd xe xf:Value)=>((((((((((((((show wF (w.heap.size+1) Y Y from⟨iD _,λ_ _ _=>rfl⟩).set 0 x0).set 1 x1).set 2 x2).set 3 x3).set 4 x4).set 5 x5).set 6 x6).set 7 x7).set 8 x8).set 9 x9).set 10 xd).set 11 xe).set 12 xf));have zw:=ag hzz.1;have xw:¬w.heap.size+1=v3.heap.size:=bS;have KR:¬v3.heap.size=w.heap.size+1:=λe=>bS e.symm;by_cases h5:(N:Int)<5
 all_goals(
  go_wp2;refine dJ (v:=.tuple #[ID x0 d0 x1 d1 x2 d2 Ps Cs Pn Cn E S q,.I (if(N:Int)<5 then 15 else 0)]) (by simp[h5,xw,KR,results,results5,go_sem,n0,n1,n2,n3,n4,n5,n6,n7,n8,n9,na,nb,nc]) rfl ?_;rw[ae ET];refine⟨x0,d0,x1,d1,x2,d2,Ps,Cs,Pn,Cn,rfl,RR _ (ae EX _ _ _ _ _ _) _ (ae EY _ _ _ _ _ _ _ _ _ _ _ _ _ _),?_⟩
  iterate 19 refine ig ?_ (by have:=ae zw;first|(simp;done)|(simp;omega)) _
  exact BB)}
 {
 have HD:Hid (T=(dk0,nj,0,1)):=eT.2 λe=>hc ⟨Eo.2 e.1,e.2⟩
 let⟨n0,n1,n2,n3,n4,n5,n6,n7,n8,n9,na,nb,nc⟩:=(ae HA v2 BV).2.2.1.xA
 have nf:=(ae HA v2 BV).2.2.1.2;have BB:=(ae HA v2 BV).2.2.2.2;rcases(by cases ok<;>simp at hc⊢<;>omega:ok=false\/(ok=true/\s<0)\/(ok=true/\¬s<0/\5<s))with rfl|⟨rfl,k0⟩|⟨rfl,k0,k1⟩
 all_goals(
  go_wp2;refine dJ (by simp[results,results5,go_sem,n0,n1,n2,n3,n4,n5,n6,n7,n8,n9,na,nb,nc]) rfl (XM.no HD ?_)
  iterate 13 refine ig ?_ al _
  exact BB)}
theorem py(hg:B<=g):∀(c:List Value)(x:World)(o:Nat),Below B w x->Below B w (Up g x o c)
  |[],x,o,h=>h
  |u::us,x,o,h=>py hg us _ _ (h.setCell hg u)
def oq{p:Prop}(h:p:=by((try have:=ae s3);(try have:=ae a0);(try have:=ae x0);(try have:=ae a1);(try have:=ae x1);(try have:=ae a2);(try have:=ae x2);(try have:=ae a3);omega)):p:=h
def ToB(n:Nat)(l:LI)(v:World)(z:Ending)(v':World):Prop:=∃p c A,z=.returned (.S p n c)/\PB v' v.heap.size v'.heap.size (.S p n c) l A/\Bw v v'
def ToU(n:Nat)(l:LI)(v:World)(z:Ending)(v':World):Prop:=∃p c A,z=.returned (.S p n c)/\PU v' v.heap.size v'.heap.size (.S p n c) l A/\Bw v v'
def LG(h:Rd w (.S p n c) l)(en:l.length=n)(hn:Mg n)(hv:Bw w v):Cp 84 #[.S p n c] v (ToB n l v):=
  (CG (h.below hv) af).mono λz v'⟨p',c',e,o,hb⟩=>by
    rw[en]at e o
    let⟨A,hA⟩:=o.pb
    exact⟨p',c',A,e,hA,hb⟩
def PB.kp{v:Value}(h:PB w M N v xs A)(hk:∀b,M<=b->w'.heap[b]?=w.heap[b]?):PB w' M N v xs A:=
  have k:∀a∈A,w'.heap[a.b]?=w.heap[a.b]?:=λa ha=>hk _ (h.ap.lo a ha)
  ⟨h.rd.dw h.lv k,h.cap,h.lv,h.ap.keep k,h.hi⟩
def PU.kp{v:Value}(h:PU w M N v xs A)(hk:∀b,M<=b->w'.heap[b]?=w.heap[b]?):PU w' M N v xs A:=
  have k:∀a∈A,w'.heap[a.b]?=w.heap[a.b]?:=λa ha=>hk _ (h.ap.lo a ha)
  ⟨h.rd.dw h.lv k,h.lv,h.ap.keep k,h.hi⟩
def kpW(h:∀b,M<=b->Z.heap[b]?=w.heap[b]?:=by(intro b hb;(repeat rw[Dc _ _ _ _ (by simp;omega)]))):∀b,M<=b->Z.heap[b]?=w.heap[b]?:=h
def bsW(h:Below B w Z:=by(repeat(first|refine ig ?_ (by simp<;>omega) _|assumption))):Below B w Z:=h
def Qi{Q:Ending->World->Prop}(h:∀X,X=w->Calls prog f a X Q):Calls prog f a w Q:=h w rfl
def Qj(h:∀Z,Z=w->R e Z):R e w:=h w rfl
def knW{C:Nat}(h:∀b,b≠C->Z.heap[b]?=w.heap[b]?:=by(intro b hb;(repeat rw[Dc _ _ _ _ (by simpa using hb)]))):∀b,b≠C->Z.heap[b]?=w.heap[b]?:=h
def EvR(v:World)(y:Ev)(z:Ending)(v':World):Prop:=∃p c l,z=.returned (.agg #[.I y.1,.S p y.2.length c])/\Ct v' y [.I y.1,.S p y.2.length c] l/\jE v.heap.size v' l/\Bw v v'
def Pb{y:Ev}(h:Rd w (.S p y.2.length c) y.2)(hn:y.2.length<=1048576)(hv:Bw w v):Calls prog 194 #[.agg #[.I y.1,.S p y.2.length c]] v (EvR v y):=by
  obtain⟨W1,mg,q1,z1,-,-⟩:=au v #[.I y.1,.S p y.2.length c] 224;obtain⟨W2,mu,q2,z2,C2,-⟩:=au W1 #[.I 0,aq] 189;obtain⟨W3,we,q3,z3,C3,-⟩:=au W2 #[.I y.1,aq] 189;rw[z1]at C2 z2;rw[z2]at C3 z3
  go_in
  go_wp2_with fail;rw[<-mg,<-mu,<-we];have bW:=aj q1 (aj q2 q3);refine(LG h rfl hn (aj hv bW)).mono ?_;rintro z w1⟨p',c',A,rfl,hB,hb⟩;have r2:=(C2.below af q3).below af hb;have r3:=C3.below af hb;have n0:=r2.1 0 _ rfl;have n1:=r2.1 1 _ rfl;have nf:=r2.2;have k0:=r3.1 0 _ rfl;have k1:=r3.1 1 _ rfl;have kf:=r3.2;have HB:=ag hB;have BB:=ag (aj bW hb);have zz:=ag z3;go_wp2;refine dJ (v:=.agg #[.I y.1,.S p' y.2.length c']) (by simp[results,results194,go_sem,n0,n1]) rfl (Qj λZ hZ=>?_);have H:=HB.kp (w':=Z) (by have:=ae zz;rw[hZ];exact kpW);exact⟨p',c',A,rfl,⟨p',c',rfl,H.rd,H.cap,H.lv⟩,H.ap.mono (aI (ae zz)),by have:=ae BB;rw[hZ];exact bsW⟩
def TR{α:Type}(el:World->α->List Value->List Lf->Prop)(t z n:Nat)(v:World)(l:List α)(iv:Value)(wr:World):Prop:=∃k:Nat,k<=n/\iv=.I k/\Hid (AJ el t z v.heap.size n wr k l)/\Bw v wr
theorem toW{q:Prop}(h':q:=by
    show Calls _ _ _ _ _
    first
      | (have T:List Ev:=l
         let⟨i,hi,qx,jd,jJ⟩:=fD Tryz.infoEv)
      | (have T:List aQ:=l
         let⟨i,hi,qx,jd,jJ⟩:=fD Tryz.infoSes)
      | (have T:LI:=l
         let⟨i,hi,qx,jd,jJ⟩:=fD Tryz.infoU64)
      |(obtain⟨i,hi,qx,jd,jJ⟩:=fD Tryz.infoNod)
    go_in
    go_wp2_with(first|(at_make;refine wpList_make_full _ rfl _ _ _ rfl v.heap.size _ i _ _ (by first|exact underlying125|exact underlying38|exact underlying108|exact underlying39) hi qx jd _ _ _ _ n rfl rfl rfl rfl ?b2 ?b3 ?b4 ?_))
    case b2=>rw[jJ];omega
    case b3=>unfold maxLen;omega
    case b4=>exact iD _
    intro w1 bR hg;have hb:=mU hg
    first
      |(have HP:=ag (AJ.zero (el:=Ct) l bR))
      |(have HP:=ag (AJ.zero (el:=jy) l bR))
      |(have HP:=ag (AJ.zero (el:=elU) l bR))
      |(have HP:=ag (AJ.zero (el:=iA) l bR))
    clear hg bR;go_wp2_with fail
    first
      |(go_loopw[4](TR Ct 189 2 n v l) (λiv _=>n-(intOf iv).toNat))
      |(go_loopw[4](TR jy 132 3 n v l) (λiv _=>n-(intOf iv).toNat))
      |(go_loopw[4](TR elU 27 1 n v l) (λiv _=>n-(intOf iv).toNat))
      |(go_loopw[4](TR iA 133 8 n v l) (λiv _=>n-(intOf iv).toNat))
    {exact⟨0,gr _,rfl,HP,hb⟩};{
 obtain⟨k,hk,rfl,HK,aM⟩:=hrel;by_cases bf:k<n;{
 have bL:=aU k n;obtain⟨y,hy⟩:∃y,l[k]?=some y:=⟨_,aY af⟩;have hm:=aT hy;have HY:=ag hy;have hR:=h.below (aj hv aM)
 first
   | (have T:List Ev:=l
      obtain⟨b,o,U,rfl,c0,c1,hr⟩:=hR.get hy;obtain⟨pp,pc,m,rfl,em⟩:=hr.gF;have em:=ae em;subst em;clear hy hR;go_wp2_with fail;refine(Pb hr (he y hm) aA).mono ?_;rintro z w2⟨p',c',A,rfl,oz,hA,aK⟩
      let⟨HC,kf⟩:=HK.cell aK bf
      let⟨u0,k0⟩:=HC 0 af
      let⟨u1,k1⟩:=HC 1 af
      simp only[uP]at k0;have HN:=ag (HK.step Ct.keep bf HY aK oz rfl hA);have B2:=ag (py (iD v.heap.size) [.I y.1,.S p' y.2.length c'] w2 (k*2) (aj aM aK));clear HC HK oz hA aK)
   | (have T:List aQ:=l
      obtain⟨b,o,U,rfl,c0,c1,c2,hr⟩:=hR.get hy;obtain⟨pp,pc,rfl,-⟩:=id hr;clear hy hR;go_wp2_with fail;refine(IU hr (he y hm).1 (he y hm).2 aA).mono ?_;rintro z w2⟨p',c',A,rfl,oz,hA,aK⟩
      let⟨HC,kf⟩:=HK.cell aK bf
      let⟨u0,k0⟩:=HC 0 af
      let⟨u1,k1⟩:=HC 1 af
      let⟨u2,k2⟩:=HC 2 af
      simp only[uP]at k0;have HN:=ag (HK.step jy.keep bf HY aK oz rfl hA);have B2:=ag (py (iD v.heap.size) [.U y.1,.I y.2.1,.S p' y.2.2.length c'] w2 (k*3) (aj aM aK));clear HC HK oz hA aK)
   | (have T:LI:=l
      obtain⟨b,o,rfl,c0⟩:=hR.at hy;clear hy hR
      let⟨HC,kf⟩:=HK.cell aA bf
      let⟨u0,k0⟩:=HC 0 af
      simp only[uP]at k0;have HN:=ag (HK.step elU.keep bf HY aA ⟨rfl,rfl⟩ rfl (jE.nil _ _));have B2:=ag (py (iD v.heap.size) [.U y] wr (k*1) aM);simp only[zL]at HN B2 k0;clear HC HK)
   | (obtain⟨b,o,rfl,hA⟩:=hR.at af
      obtain⟨P,V,H,U,⟨c0,c1,c2,c3,c4,c5,c6,c7,r0,r1,r4,r7,-⟩⟩:=hA k y hy;obtain⟨p0,e0,m0,rfl,f0⟩:=r0.gF;obtain⟨p1,e1,m1,rfl,f1⟩:=r1.gF;obtain⟨p4,e4,m4,rfl,f4⟩:=r4.gF;obtain⟨p7,e7,m7,rfl,f7⟩:=r7.gF;have f0:=ae f0;have f1:=ae f1;have f4:=ae f4;have f7:=ae f7;subst f0 f1 f4 f7;clear hA;clear hy hR;go_wp2_with fail;refine(TI r0 r1 r4 r7 (he y hm) aA).mono ?_;rintro z w2⟨q0,d0,q1,d1,q4,d4,q7,d7,A,rfl,oz,hA,aK⟩
      let⟨HC,kf⟩:=HK.cell aK bf
      let⟨u0,k0⟩:=HC 0 af
      let⟨u1,k1⟩:=HC 1 af
      let⟨u2,k2⟩:=HC 2 af
      let⟨u3,k3⟩:=HC 3 af
      let⟨u4,k4⟩:=HC 4 af
      let⟨u5,k5⟩:=HC 5 af
      let⟨u6,k6⟩:=HC 6 af
      let⟨u7,k7⟩:=HC 7 af
      simp only[uP]at k0;have HN:=ag (HK.step iA.keep bf HY aK oz rfl hA);have B2:=ag (py (iD v.heap.size) [.S q0 y.path.length d0,.S q1 y.value.length d1,.U y.owner,.I y.mode,.S q4 y.holders.length d4,.U y.aE,.U y.gen,.S q7 y.watchers.length d7] w2 (k*8) (aj aM aK));clear HC HK oz hA aK)
 go_wp2;go_roundw;{exact⟨k+1,af,by go_num,HN,B2⟩};{simp[intOf];omega}};{
 have bL:=dB k n;obtain rfl:k=n:=af
 let⟨Ls,ho⟩:=HK.full en
 go_wp2;go_ret
 first
   |exact⟨_,_,rfl,ho.ev,aM⟩
   |exact⟨_,_,rfl,ho.se,aM⟩
   |exact⟨_,_,rfl,ho.no,aM⟩
   | (obtain⟨A,hA⟩:=ho.u.pu
      exact⟨_,_,A,rfl,hA,aM⟩)}}):q:=h'
def ToE(n:Nat)(l:List Ev)(v:World)(z:Ending)(v':World):Prop:=∃p c,z=.returned (.S p n c)/\(qG v' (.S p n c) l/\∃A,CD v' (.S p n c) l A/\jE v.heap.size v' A)/\Bw v v'
def LF{l:List Ev}(h:DS w (.S p n c) l)(en:l.length=n)(hn:Mg n)(he:∀y∈l,y.2.length<=1048576)(hv:Bw w v):Cp 147 #[.S p n c] v (ToE n l v):=toW
def SeR(v:World)(y:aQ)(z:Ending)(v':World):Prop:=∃p c l,z=.returned (.agg #[.U y.1,.I y.2.1,.S p y.2.2.length c])/\jy v' y [.U y.1,.I y.2.1,.S p y.2.2.length c] l/\jE v.heap.size v' l/\Bw v v'
def IU{y:aQ}(h:DS w (.S p y.2.2.length c) y.2.2)(hn:y.2.2.length<=1048576)(he:∀e∈y.2.2,e.2.length<=1048576)(hv:Bw w v):Calls prog 85 #[.agg #[.U y.1,.I y.2.1,.S p y.2.2.length c]] v (SeR v y):=by
  obtain⟨W1,mg,q1,z1,-,-⟩:=au v #[.U y.1,.I y.2.1,.S p y.2.2.length c] 106;obtain⟨W2,mu,q2,z2,C2,-⟩:=au W1 #[.U 0,.I 0,aq] 132;obtain⟨W3,we,q3,z3,C3,-⟩:=au W2 #[.U y.1,.I y.2.1,aq] 132;rw[z1]at C2 z2;rw[z2]at C3 z3
  go_in
  go_wp2_with fail;rw[<-mg,<-mu,<-we];have bW:=aj q1 (aj q2 q3);refine(LF h rfl hn he (aj hv bW)).mono ?_;rintro z w1⟨p',c',rfl,⟨hR,A,hL,hA⟩,hb⟩;have r2:=(C2.below af q3).below af hb;have r3:=C3.below af hb;have n0:=r2.1 0 _ rfl;have n1:=r2.1 1 _ rfl;have n2:=r2.1 2 _ rfl;have nf:=r2.2;have k0:=r3.1 0 _ rfl;have k1:=r3.1 1 _ rfl;have k2:=r3.1 2 _ rfl;have kf:=r3.2;have HB:=ag (ai hR (ai hL hA));have BB:=ag (aj bW hb);have zz:=ag z3;go_wp2;refine dJ (v:=.agg #[.U y.1,.I y.2.1,.S p' y.2.2.length c']) (by simp[results,results85,go_sem,n0,n1,n2]) rfl (Qj λZ hZ=>?_);have kk:∀b,W3.heap.size<=b->Z.heap[b]?=w1.heap[b]?:=by have:=ae zz;rw[hZ];exact kpW
  have k:∀a∈A,Z.heap[a.b]?=w1.heap[a.b]?:=λa ha=>kk a.b (HB.2.2.lo a ha);exact⟨p',c',A,rfl,⟨p',c',rfl,HB.1.dw HB.2.1 k,CD.keep HB.2.1 k⟩,(HB.2.2.keep k).mono (aI (ae zz)),by have:=ae BB;rw[hZ];exact bsW⟩
def ToS(n:Nat)(l:List aQ)(v:World)(z:Ending)(v':World):Prop:=∃p c,z=.returned (.S p n c)/\(kr v' (.S p n c) l/\∃A,uj v' (.S p n c) l A/\jE v.heap.size v' A)/\Bw v v'
def Fx{l:List aQ}(h:vk w (.S p n c) l)(en:l.length=n)(hn:Mg n)(he:∀y∈l,y.2.2.length<=1048576/\∀e∈y.2.2,e.2.length<=1048576)(hv:Bw w v):Cp 41 #[.S p n c] v (ToS n l v):=toW
def OwnT.u{v:Value}(h:OwnT elU 27 1 B w v l Ls):js B w v l:=by
  obtain⟨cs,h1,h2,h3,h4,h5,-⟩:=h;have e:cs=l.map λx=>[Value.U x]:=QS λi=>by
    rw[nG];by_cases hi:i<l.length;{have a:=aY hi;have b:=aY (l:=cs) (i:=i) af;have c:=aY (l:=Ls) (i:=i) af;rw[a,b];exact tX some (h5 i _ _ _ a b c).1};{
 rw[List.getElem?_eq_none af,List.getElem?_eq_none af]
 rfl}
  have f:cs.flatten=l.map (Value.int .u64):=by rw[e];clear h1 h2 h3 h4 h5 e;induction l with|nil=>rfl|cons x l ih=>simp[ih]
  unfold js;rw[<-f];exact h4
def wS(h:oK w (.S p n c) l)(en:l.length=n)(hn:Mg n)(hv:Bw w v):Cp 148 #[.S p n c] v (ToU n l v):=toW
def ar.c8{v0 v1 v2 v3 v4 v5 v6 v7:Value}(h:ar w b [v0,v1,v2,v3,v4,v5,v6,v7]):w.cell? (Ad b 0)=some v0/\w.cell? (Ad b 1)=some v1/\w.cell? (Ad b 2)=some v2/\w.cell? (Ad b 3)=some v3/\w.cell? (Ad b 4)=some v4/\w.cell? (Ad b 5)=some v5/\w.cell? (Ad b 6)=some v6/\w.cell? (Ad b 7)=some v7/\∀o,w.frozen? (Ad b o)=false:=
  ⟨h.1 0 _ rfl,h.1 1 _ rfl,h.1 2 _ rfl,h.1 3 _ rfl,h.1 4 _ rfl,h.1 5 _ rfl,h.1 6 _ rfl,h.1 7 _ rfl,h.2⟩
def bbX{X:World}(h:Hid (Bw v X):=by(have:=ae BB;show Below _ _ _;rw[hX];exact bsW)):Hid (Bw v X):=h
def xW{p:Prop}(h:Hid p:=by(show _=_;rw[hX];simp)):Hid p:=h
def knX{p:Prop}(h:p:=by(rw[hX];exact knW)):p:=h
def b4{P R O:List Value}(hb:Bw w w')(h:Hid (Bw v w))(p:Hid (ar w b P))(r:Hid (ar w c R))(o:Hid (ar w d O))(e:b<w.heap.size)(f:c<w.heap.size)(g:d<w.heap.size):Hid (Bw v w')/\Hid (ar w' b P)/\Hid (ar w' c R)/\Hid (ar w' d O):=⟨aj h hb,p.below e hb,r.below f hb,o.below g hb⟩
def NoR(v:World)(y:aD)(z:Ending)(v':World):Prop:=∃q0 d0 q1 d1 q4 d4 q7 d7 l,z=.returned (.agg #[.S q0 y.path.length d0,.S q1 y.value.length d1,.U y.owner,.I y.mode,.S q4 y.holders.length d4,.U y.aE,.U y.gen,.S q7 y.watchers.length d7])/\iA v' y [.S q0 y.path.length d0,.S q1 y.value.length d1,.U y.owner,.I y.mode,.S q4 y.holders.length d4,.U y.aE,.U y.gen,.S q7 y.watchers.length d7] l/\jE v.heap.size v' l/\Bw v v'
def TI{p4 p7:OA}{c4 c7:Nat}(r0:Rd w (.S p0 y.path.length c0) y.path)(r1:Rd w (.S p1 y.value.length c1) y.value)(r4:oK w (.S p4 y.holders.length c4) y.holders)(r7:oK w (.S p7 y.watchers.length c7) y.watchers)(hn:y.path.length<=1048576/\y.value.length<=1048576/\y.holders.length<=1048576/\y.watchers.length<=1048576)(hv:Bw w v):Calls prog 86 #[.agg #[.S p0 y.path.length c0,.S p1 y.value.length c1,.U y.owner,.I y.mode,.S p4 y.holders.length c4,.U y.aE,.U y.gen,.S p7 y.watchers.length c7]] v (NoR v y):=by
  obtain⟨W1,mg,b1,z1,PC,-⟩:=au v #[.S p0 y.path.length c0,.S p1 y.value.length c1,.U y.owner,.I y.mode,.S p4 y.holders.length c4,.U y.aE,.U y.gen,.S p7 y.watchers.length c7] 110;obtain⟨W2,mu,b2,z2,RC,-⟩:=au W1 #[aq,aq,.U 0,.I 0,aq,.U 0,.U 0,aq] 133;obtain⟨W3,we,b3,z3,OC,-⟩:=au W2 #[aq,aq,.U 0,.I 0,aq,.U 0,.U 0,aq] 133;rw[z1]at RC z2;rw[z2]at OC z3;have BB:=ag (aj b1 (aj b2 b3));have PC:=ag ((PC.below af b2).below af b3);have RC:=ag (RC.below af b3);have OC:=ag OC;have HR:=ag (ai r0 (ai r1 (ai r4 r7)));have s3:=ag (ai2 z3.symm)
  go_in
  go_wp2_with fail;rw[<-mg,<-mu,<-we];refine(LG HR.1 rfl hn.1 (aj hv BB)).mono ?_;rintro z w0⟨q0,d0,A0,rfl,Y0,hb⟩
  let⟨BB,PC,RC,OC⟩:=b4 hb BB PC RC OC oq oq oq
  have a0:=ag hb.size;have Y0:=ag Y0;obtain⟨i0,i1,i2,i3,i4,i5,i6,i7,-⟩:=PC.c8
  let⟨k0,k1,k2,k3,k4,k5,k6,k7,kf⟩:=OC.c8
  go_wp2_with fail;refine Qi λX0 hX=>?_;have kn:∀b,b≠v.heap.size+1+1->X0.heap[b]?=w0.heap[b]?:=knX;have OC:=ag (ar.dH (ae OC) 0 al (.S q0 y.path.length d0));rw[<-hX]at OC;have PC:=ag (PC.de (kn _ af));have RC:=ag (RC.de (kn _ af));have Y0:=ag (Y0.kp λb hb=>kn b oq);have BB:Hid (Bw v X0):=bbX;have x0:Hid (X0.heap.size=w0.heap.size):=xW;refine(LG HR.2.1 rfl hn.2.1 (aj hv BB)).mono ?_;rintro z w1⟨q1,d1,A1,rfl,Y1,hb⟩;have Y0:=ag (Y0.below hb)
  let⟨BB,PC,RC,OC⟩:=b4 hb BB PC RC OC oq oq oq
  have a1:=ag hb.size;have Y1:=ag Y1;obtain⟨i0,i1,i2,i3,i4,i5,i6,i7,-⟩:=PC.c8
  let⟨k0,k1,k2,k3,k4,k5,k6,k7,kf⟩:=OC.c8
  go_wp2_with fail;refine Qi λX1 hX=>?_;have kn:∀b,b≠v.heap.size+1+1->X1.heap[b]?=w1.heap[b]?:=knX;have OC:=ag (ar.dH (ar.dH (ar.dH (ae OC) 1 al (.S q1 y.value.length d1)) 2 al (.U y.owner)) 3 al (.I y.mode));rw[<-hX]at OC;have PC:=ag (PC.de (kn _ af));have RC:=ag (RC.de (kn _ af));have Y0:=ag (Y0.kp λb hb=>kn b oq);have Y1:=ag (Y1.kp λb hb=>kn b oq);have BB:Hid (Bw v X1):=bbX;have x1:Hid (X1.heap.size=w1.heap.size):=xW;refine(wS HR.2.2.1 rfl hn.2.2.1 (aj hv BB)).mono ?_;rintro z w2⟨q4,d4,A4,rfl,Y4,hb⟩;have Y0:=ag (Y0.below hb);have Y1:=ag (Y1.below hb)
  let⟨BB,PC,RC,OC⟩:=b4 hb BB PC RC OC oq oq oq
  have a2:=ag hb.size;have Y4:=ag Y4;obtain⟨i0,i1,i2,i3,i4,i5,i6,i7,-⟩:=PC.c8
  let⟨k0,k1,k2,k3,k4,k5,k6,k7,kf⟩:=OC.c8
  go_wp2_with fail;refine Qi λX2 hX=>?_;have kn:∀b,b≠v.heap.size+1+1->X2.heap[b]?=w2.heap[b]?:=knX;have OC:=ag (ar.dH (ar.dH (ar.dH (ae OC) 4 al (.S q4 y.holders.length d4)) 5 al (.U y.aE)) 6 al (.U y.gen));rw[<-hX]at OC;have PC:=ag (PC.de (kn _ af));have RC:=ag (RC.de (kn _ af));have Y0:=ag (Y0.kp λb hb=>kn b oq);have Y1:=ag (Y1.kp λb hb=>kn b oq);have Y4:=ag (Y4.kp λb hb=>kn b oq);have BB:Hid (Bw v X2):=bbX;have x2:Hid (X2.heap.size=w2.heap.size):=xW;refine(wS HR.2.2.2 rfl hn.2.2.2 (aj hv BB)).mono ?_;rintro z w3⟨q7,d7,A7,rfl,Y7,hb⟩;have Y0:=ag (Y0.below hb);have Y1:=ag (Y1.below hb);have Y4:=ag (Y4.below hb)
  let⟨BB,PC,RC,OC⟩:=b4 hb BB PC RC OC oq oq oq
  have a3:=ag hb.size;have Y7:=ag Y7;obtain⟨i0,i1,i2,i3,i4,i5,i6,i7,-⟩:=PC.c8
  let⟨k0,k1,k2,k3,k4,k5,k6,k7,kf⟩:=OC.c8
  let⟨n0,n1,n2,n3,n4,n5,n6,n7,nf⟩:=RC.c8
  go_wp2;refine dJ (v:=.agg #[.S q0 y.path.length d0,.S q1 y.value.length d1,.U y.owner,.I y.mode,.S q4 y.holders.length d4,.U y.aE,.U y.gen,.S q7 y.watchers.length d7]) (by simp[results,results86,go_sem,n0,n1,n2,n3,n4,n5,n6,n7]) rfl (Qj λZ hZ=>?_);have kk:∀b,W3.heap.size<=b->Z.heap[b]?=w3.heap[b]?:=by have:=ae s3;rw[hZ];exact kpW
  have Y0:=Y0.kp λb hb=>kk b oq;have Y1:=Y1.kp λb hb=>kk b oq;have Y4:=Y4.kp λb hb=>kk b oq;have Y7:=Y7.kp λb hb=>kk b oq;refine⟨q0,d0,q1,d1,q4,d4,q7,d7,A0++(A1++(A4++A7)),rfl,⟨q0,d0,q1,d1,q4,d4,q7,d7,A0,A1,A4,A7,rfl,rfl,⟨Y0.rd,Y0.cap,Y0.lv⟩,⟨Y1.rd,Y1.lv⟩,⟨Y4.rd,Y4.lv⟩,⟨Y7.rd,Y7.lv⟩⟩,?_,by have:=ae BB;rw[hZ];exact bsW⟩;have:=ae s3;have:=ae a0;have:=ae x0;have:=ae a1;have:=ae x1;have:=ae a2;have:=ae x2;have:=ae a3;refine(jE.app Y0.ap (jE.app Y1.ap (jE.app Y4.ap Y7.ap af λa ha=>?_) af λa ha=>?_) af λa ha=>?_).mono af;{have:=Y4.hi a ha;omega};{have:=Y1.hi a ha;omega};{have:=Y0.hi a ha;omega}
def ToN(n:Nat)(l:List aD)(v:World)(z:Ending)(v':World):Prop:=∃p c,z=.returned (.S p n c)/\(lM v' (.S p n c) l/\∃A,vQ v' (.S p n c) l A/\jE v.heap.size v' A)/\Bw v v'
variable {l:List aD}
def Pa(h:lM w (.S p n c) l)(en:l.length=n)(hn:Mg n)(he:∀y∈l,y.path.length<=1048576/\y.value.length<=1048576/\y.holders.length<=1048576/\y.watchers.length<=1048576)(hv:Bw w v):Cp 42 #[.S p n c] v (ToN n l v):=toW
def ToT(S:iF)(v:World)(z:Ending)(v':World):Prop:=∃p c r d A1 A2,z=.returned (dZ S.e S.g S.x S.t (.S p S.ss.length c) (.S r S.ns.length d))/\AH v.heap.size v' A1 A2 p S.ss.length c r S.ns.length d S.ss S.ns/\Bw v v'
def AH.kp{q:OA}(h:AH B w A1 A2 p n c q m d ss ns)(hk:∀b,B<=b->w'.heap[b]?=w.heap[b]?):AH B w' A1 A2 p n c q m d ss ns:=h.keep λa ha=>hk _ (h.2.2.2.2.lo a ha)
def O0(h1:vk w (.S p S.ss.length c) S.ss)(h2:lM w (.S r S.ns.length d) S.ns)(hz:LM S.ss S.ns<=1048576)(hv:Bw w v):Calls prog 17 #[dZ S.e S.g S.x S.t (.S p S.ss.length c) (.S r S.ns.length d)] v (ToT S v):=by
  let⟨m1,m2,m3,m4⟩:=TV hz
  obtain⟨W1,mg,b1,z1,PC,-⟩:=au v #[.U S.e,.U S.g,.U S.x,.I S.t,.S p S.ss.length c,.S r S.ns.length d] 31;obtain⟨W2,mu,b2,z2,RC,-⟩:=au W1 #[.U 0,.U 0,.U 0,.I 0,aq,aq] 41;obtain⟨W3,we,b3,z3,OC,-⟩:=au W2 #[.U S.e,.U S.g,.U S.x,.I S.t,aq,aq] 41;rw[z1]at RC z2;rw[z2]at OC z3;have BB:=ag (aj b1 (aj b2 b3));have PC:=ag ((PC.below af b2).below af b3);have RC:=ag (RC.below af b3);have OC:=ag OC;have s3:=ag (ai2 z3.symm)
  go_in
  go_wp2_with fail;rw[<-mg,<-mu,<-we];refine(Fx h1 rfl m1 m3 (aj hv BB)).mono ?_;rintro z w0⟨p',c',rfl,⟨hR,A1,hL,hA⟩,hb⟩
  let⟨BB,PC,RC,OC⟩:=b4 hb BB PC RC OC oq oq oq
  have a0:=ag hb.size;have Y0:=ag (ai hR (ai hL hA));obtain⟨i0,i1,i2,i3,i4,i5,-⟩:=PC.c6
  let⟨k0,k1,k2,k3,k4,k5,kf⟩:=OC.c6
  go_wp2_with fail;refine Qi λX hX=>?_;have OC:=ag (ar.dH (ae OC) 4 al (.S p' S.ss.length c'));rw[<-hX]at OC;have kn:∀b,b≠v.heap.size+1+1->X.heap[b]?=w0.heap[b]?:=knX;have RC:=ag (RC.de (kn _ af));have kk:∀b,W3.heap.size<=b->X.heap[b]?=w0.heap[b]?:=λb hb=>kn b oq;have BB:Hid (Bw v X):=bbX;have x0:Hid (X.heap.size=w0.heap.size):=xW;have k:∀a∈A1,X.heap[a.b]?=w0.heap[a.b]?:=λa ha=>kk _ (Y0.2.2.lo a ha);have Y0:=ag (ai (Y0.1.dw Y0.2.1 k) (ai (uj.keep Y0.2.1 k) (ai (Y0.2.2.keep k) λ(a:Lf)(ha:a∈A1)=>Y0.2.2.tf.lt ha)));refine(Pa h2 rfl m2 m4 (aj hv BB)).mono ?_;rintro z w1⟨r',d',rfl,⟨hR,A2,hL,hA⟩,hb⟩;have BB:=ag (aj BB hb);have RC:=ag (RC.below oq hb);have OC:=ag (OC.below oq hb);have k:∀a∈A1,w1.heap[a.b]?=X.heap[a.b]?:=λa ha=>hb.block _ (Y0.2.2.1.tf.lt ha);have Y:Hid (AH W3.heap.size w1 A1 A2 p' S.ss.length c' r' S.ns.length d' S.ss S.ns):=⟨Y0.1.dw Y0.2.1 k,hR,uj.keep Y0.2.1 k,hL,jE.app (Y0.2.2.1.keep k) hA oq λa ha=>by have:=Y0.2.2.2 a ha;have:=ae x0;omega⟩
  let⟨k0,k1,k2,k3,k4,k5,kf⟩:=OC.c6
  let⟨n0,n1,n2,n3,n4,n5,nf⟩:=RC.c6
  go_wp2;refine dJ (v:=dZ S.e S.g S.x S.t (.S p' S.ss.length c') (.S r' S.ns.length d')) (by simp[results,results17,go_sem,n0,n1,n2,n3,n4,n5]) rfl (Qj λZ hZ=>?_);have e:=Y.kp (w':=Z) (by have:=ae s3;rw[hZ];exact kpW);exact⟨p',c',r',d',A1,A2,rfl,⟨e.1,e.2.1,e.2.2.1,e.2.2.2.1,e.2.2.2.2.mono oq⟩,by have:=ae BB;rw[hZ];exact bsW⟩
def ToR(w:World)(D:Dk)(S:iF)(q:Int)(z:Ending)(w':World):Prop:=∃p0 c0 p1 c1 p2 c2 p c r d,z=.returned (ID p0 c0 p1 c1 p2 c2 p c r d D S q)/\(∃M A1 A2,SK w.heap.size M w' A1 A2 p0 c0 p1 c1 p2 c2 p c r d D S)/\Bw w w'
def nS(h:JH v p0 c0 p1 c1 p2 c2 p c r d D S)(hz:Hid (SvZ D S)):Calls prog 6 #[ID p0 c0 p1 c1 p2 c2 p c r d D S q] v (ToR v D S q):=by
  obtain⟨W1,mg,b1,z1,PC,-⟩:=au v #[.S p0 D.l0.length c0,.I D.n0,.S p1 D.l1.length c1,.I D.n1,.S p2 D.l2.length c2,.I D.n2,.U S.e,.U S.g,.U S.x,.I S.t,.S p S.ss.length c,.S r S.ns.length d,.U q] 33;obtain⟨W2,mu,b2,z2,RC,-⟩:=au W1 #[aq,.I 0,aq,.I 0,aq,.I 0,.U 0,.U 0,.U 0,.I 0,aq,aq,.U 0] 43;obtain⟨W3,we,b3,z3,OC,-⟩:=au W2 #[aq,.I 0,aq,.I 0,aq,.I 0,.U 0,.U 0,.U 0,.I 0,aq,aq,.U 0] 43;rw[z1]at RC z2;rw[z2]at OC z3;have b:=aj b1 (aj b2 b3);have BB:=ag b;have PC:=ag ((PC.below af b2).below af b3);have RC:=ag (RC.below af b3);have OC:=ag OC;have s3:=ag (ai2 z3.symm);have hd:=hz.d
  go_in
  go_wp2_with fail;rw[<-mg,<-mu,<-we];refine(TJ p0 p1 p2 c0 c1 c2 D.n0 D.n1 D.n2 D.l0 D.l1 D.l2 W3 (h.1.below b) (h.2.1.below b) (h.2.2.1.below b) hd).mono ?_;rintro z w0⟨q0,d0,q1,d1,q2,d2,rfl,o,hb⟩
  let⟨BB,PC,RC,OC⟩:=b4 hb BB PC RC OC oq oq oq
  have a0:=ag hb.size;have Y:=ag (ai o (ai o.o0.lt (ai o.o1.lt o.o2.lt)))
  let⟨i0,i1,i2,i3,i4,i5,i6,i7,i8,i9,ia,ib,ic⟩:=PC.xA
  let⟨k0,k1,k2,k3,k4,k5,k6,k7,k8,k9,ka,kb,kc⟩:=OC.xA
  have kf:=OC.2;go_wp2_with fail;refine Qi λX hX=>?_;have OC:=ag (ar.dH (ar.dH (ar.dH (ar.dH (ar.dH (ar.dH (ae OC) 0 al (.S q0 D.l0.length d0)) 1 al (.I D.n0)) 2 al (.S q1 D.l1.length d1)) 3 al (.I D.n1)) 4 al (.S q2 D.l2.length d2)) 5 al (.I D.n2));rw[<-hX]at OC;have kn:∀b,b≠v.heap.size+1+1->X.heap[b]?=w0.heap[b]?:=knX;have RC:=ag (RC.de (kn _ af));have PC:=ag (PC.de (kn _ af));have kk:∀b,W3.heap.size<=b->X.heap[b]?=w0.heap[b]?:=λb hb=>kn b oq;have BB:Hid (Bw v X):=bbX;have x0:Hid (X.heap.size=w0.heap.size):=xW;have HK:=ag kk;refine(O0 (h.2.2.2.1) (h.2.2.2.2) hz.s BB).mono ?_;rintro z w1⟨p',c',r',d',A1,A2,rfl,hS,hb⟩;have B1:=ag (aj BB hb);have PC:=ag (PC.below oq hb);have RC:=ag (RC.below oq hb);have OC:=ag (OC.below oq hb);have K1:=ag (λ(b:Nat)(h1:W3.heap.size<=b)(h2:b<w0.heap.size)=>(hb.block b (aI (ae x0))).trans (ae HK b h1));have HS:=ag hS;have ic:=PC.1 12 _ rfl
  let⟨k0,k1,k2,k3,k4,k5,k6,k7,k8,k9,ka,kb,kc⟩:=OC.xA
  have kf:=OC.2
  let⟨n0,n1,n2,n3,n4,n5,n6,n7,n8,n9,na,nb,nc⟩:=RC.xA
  have nf:=RC.2;go_wp2;refine dJ (v:=ID q0 d0 q1 d1 q2 d2 p' c' r' d' D S q) (by simp[results,results6,go_sem,n0,n1,n2,n3,n4,n5,n6,n7,n8,n9,na,nb,nc]) rfl (Qj λZ hZ=>?_);have kk:∀b,W3.heap.size<=b->Z.heap[b]?=w1.heap[b]?:=by have:=ae s3;rw[hZ];exact kpW
  have hx:=ae x0;have ha:=ae a0;have h3:=ae s3
  let⟨⟨o0,o1,o2,e1,e2,e3⟩,t0,t1,t2⟩:=ae Y
  have k:∀(V:Value),(∀b,V.ownBlock=some b->W3.heap.size<=b/\b<w0.heap.size)->∀b,V.ownBlock=some b->Z.heap[b]?=w0.heap[b]?:=λV hV b e=>(kk b (hV b e).1).trans (ae K1 b (hV b e).1 (hV b e).2);refine⟨q0,d0,q1,d1,q2,d2,p',c',r',d',rfl,⟨X.heap.size,A1,A2,⟨Own.mono (o0.hp (k _ t0)) af,Own.mono (o1.hp (k _ t1)) af,Own.mono (o2.hp (k _ t2)) af,e1,e2,e3⟩,?_,af,HS.kp λb h=>kk b af⟩,by have:=ae B1;rw[hZ];exact bsW⟩;rintro b(e|e|e);{have:=t0 b e;omega};{have:=t1 b e;omega};{have:=t2 b e;omega}
abbrev SvB(v:World)(b:Nat)(p0:OA)(c0:Nat)(p1:OA)(c1:Nat)(p2:OA)(c2:Nat)(p:OA)(c:Nat)(r:OA)(d:Nat)(D:Dk)(S:iF)(q:Int):Prop:=v.cell? (Ad b 0)=some (.S p0 D.l0.length c0)/\v.cell? (Ad b 1)=some (.I D.n0)/\v.cell? (Ad b 2)=some (.S p1 D.l1.length c1)/\v.cell? (Ad b 3)=some (.I D.n1)/\v.cell? (Ad b 4)=some (.S p2 D.l2.length c2)/\v.cell? (Ad b 5)=some (.I D.n2)/\v.cell? (Ad b 6)=some (.U S.e)/\v.cell? (Ad b 7)=some (.U S.g)/\v.cell? (Ad b 8)=some (.U S.x)/\v.cell? (Ad b 9)=some (.I S.t)/\v.cell? (Ad b 10)=some (.S p S.ss.length c)/\v.cell? (Ad b 11)=some (.S r S.ns.length d)/\v.cell? (Ad b 12)=some (.U q)
structure SX(S:iF):Prop where
 e:0<=S.e/\S.e<2^64
 g:0<=S.g/\S.g<2^64
 x:0<=S.x/\S.x<2^64
 l:S.ss.length<=maxLen/\S.ns.length<=maxLen
 s:∀s∈S.ss,s.2.2.length<=maxLen/\∀e∈s.2.2,e.2.length<=maxLen/\aN e.2
 n:∀nd∈S.ns,((nd.path.length<=maxLen/\nd.value.length<=maxLen/\nd.holders.length<=maxLen/\nd.watchers.length<=maxLen)/\aN nd.path/\(0<=nd.owner/\nd.owner<2^64)/\(∀i∈nd.holders,0<=i/\i<2^64)/\∀i∈nd.watchers,0<=i/\i<2^64)/\(0<=nd.aE/\nd.aE<2^64)/\(0<=nd.gen/\nd.gen<2^64)/\aN nd.value
def SX.sg(h:SX S)(hz:LM S.ss S.ns<=1048576):SG S:=by
 let⟨a,b,c,d⟩:=TV hz
 exact⟨h.e,h.g,h.x,a,b,λs hs=>⟨(c s hs).1,λe he=>⟨((h.s s hs).2 e he).2,(c s hs).2 e he⟩⟩,λnd hn=>⟨(h.n nd hn).1.2.1,d nd hn⟩,λnd hn=>(h.n nd hn).2.2.2,λnd hn=>⟨(h.n nd hn).1.2.2.2.1,(h.n nd hn).1.2.2.2.2⟩,λnd hn=>(h.n nd hn).1.2.2.1,λnd hn=>⟨(h.n nd hn).2.1,(h.n nd hn).2.2.1⟩⟩
def bd6(dop:LI->Option Rq)(hz:SvZ D S)(G:SG S):∃T,SnT dop D S q s T/\SvZ T.1 T.2.1:=by
 by_cases h:SvP dop D S q/\0<=s/\s<=5;{
 refine⟨_,⟨λ_ _=>rfl,λe=>absurd h e⟩,?_,hz.s⟩;have hb:(dD q S.B).length<=200000:=by rw[ji];have:=(G.bytes h.1.2.1).1;omega
 have:=(L6 (D:=D) h.1.1 hb s.toNat).len;dsimp only;omega};{exact⟨_,⟨λa b=>absurd ⟨a,b⟩ h,λ_=>rfl⟩,by simp[dk0],by simp[nj,LM,gD]⟩}
def LO{q s t:OA}{k e i j:Nat}{n0 n1 n2 E G X T Q:Int}(x1:xC 11 (dE (.S p n c) n0 (.S q m d) n1 (.S r k e) n2) N w)(x2:xC 12 (dZ E G X T (.S s i f) (.S t j g)) M w):xC 4 (ZI (.S p n c) n0 (.S q m d) n1 (.S r k e) n2 E G X T (.S s i f) (.S t j g) Q) (N+M) w:=szW
def aK2(h:JH w p0 c0 p1 c1 p2 c2 p c r d D S)(m0:D.l0.length<=maxLen)(m1:D.l1.length<=maxLen)(m2:D.l2.length<=maxLen)(y0:Hid (aN D.l0))(y1:Hid (aN D.l1))(hX:Hid (SX S))(hM:ML w)(hT:N8 w):Calls prog 3 #[ID p0 c0 p1 c1 p2 c2 p c r d D S q,.I s] w (Rb (.bool true) w):=by
 obtain⟨W0,fL,q0,z0,C0,-⟩:=au w #[.S p0 D.l0.length c0,.I D.n0,.S p1 D.l1.length c1,.I D.n1,.S p2 D.l2.length c2,.I D.n2,.U S.e,.U S.g,.U S.x,.I S.t,.S p S.ss.length c,.S r S.ns.length d,.U q] 33;have HA:=ag (λ(v:World)(hv:Bw W0 v)=>ai (C0.below af hv).xA (ai (h.below (aj q0 hv)) (ai (hM.below (aj q0 hv)) (ai (show N8 v fromλk i1 i2=>(hT k i1 i2).below (aj q0 hv)) (aj q0 hv)))))
 go_in
 go_wp2_with fail;rw[<-fL];have HU:=ag (ae HA W0 aA)
 let⟨p',c',e',xs⟩:=aF7 HU.2.1.2.2.2.1 hX.l.1 λy hy=>⟨(hX.s y hy).1,λe he=>((hX.s y hy).2 e he).1⟩
 let⟨r',d',f',xn⟩:=aF9 HU.2.1.2.2.2.2 hX.l.2 λy hy=>(hX.n y hy).1.1
 simp only[pW]at e' f';obtain⟨rfl,-,rfl⟩:=e';obtain⟨rfl,-,rfl⟩:=f';refine(LO (Ua (uA (vx m0)) (uA (vx m1)) (uA (vx m2))) (Pc xs xn) W0 1048576 aA af af).mono ?_;rintro z w1⟨⟨K,rfl,hK⟩,aG⟩;have B1:=ag aG;rcases hK with rfl|⟨hK,jl⟩;{have bb:=(ae HA w1 B1).2.2.2.2;go_wp2;go_ret;exact⟨rfl,bb⟩};have HZ0:Hid (SvZ D S):=⟨af,by rw[LM];omega⟩;have HG:=ag (hX.sg HZ0.s);have hl:=HZ0.d;obtain⟨dop,hd⟩:=bn7
 let⟨T,eT,hz⟩:=bd6 dop (q:=q) (s:=s) HZ0 HG
 have ET:=ag eT;have hD:=ag hd;obtain⟨E,S',q',cd⟩:=T;have HZ:Hid (SvZ E S'):=hz;have HSZ:=ag HZ.s;have hEd:=HZ.d;have bS:(cd != cd)=false:=al;have hK0:¬K<0:=af
 let⟨i0,i1,i2,i3,i4,i5,i6,i7,i8,i9,ia,ib,ic⟩:=(ae HA w1 B1).1
 go_wp2_with fail;refine(nS (ae HA w1 B1).2.1 HZ0).mono ?_;rintro z w2⟨u0,d0,u1,d1,u2,d2,u3,d3,u4,d4,rfl,⟨M2,F1,F2,o2⟩,aK⟩;have B2:=ag (aj B1 aK);have O2:=ag (show SvI w1.heap.size w2 u0 d0 u1 d1 u2 d2 u3 d3 u4 d4 D S from⟨o2.1,o2.2.2.2.1,o2.2.2.2.2.1⟩);go_wp2_with fail;refine(ad5 O2 hl HG y0 y1 dop hD ET).mono ?_;rintro z w3⟨x0,a0,x1,a1,x2,a2,x3,a3,x4,a4,rfl,o3,br⟩;dsimp only at o3⊢;obtain⟨U3,hU3,bU3,zU3,CU3,-⟩:=au w3 #[.S x0 E.l0.length a0,.I E.n0,.S x1 E.l1.length a1,.I E.n1,.S x2 E.l2.length a2,.I E.n2,.U S'.e,.U S'.g,.U S'.x,.I S'.t,.S x3 S'.ss.length a3,.S x4 S'.ns.length a4,.U q'] 43;have BU:=ag (aj (aj B2 br) bU3);have HV:=ag (λ(v:World)(hv:Bw U3 v)=>ai (CU3.below af hv).xA (ai (o3.below (aj bU3 hv)) (ae HA v (aj (ae BU) hv))))
 let⟨i0,i1,i2,i3,i4,i5,i6,i7,i8,i9,ia,ib,ic⟩:=(ae HA U3 BU).1
 rw[hU3]at i0 i1 i2 i3 i4 i5 i6 i7 i8 i9 ia ib ic;go_wp2_with fail;rw[<-hU3];refine(nS (ae HV U3 aA).2.2.2.1 HZ0).mono ?_;rintro z w4⟨u0,d0,u1,d1,u2,d2,u3,d3,u4,d4,rfl,⟨M4,F1,F2,o4⟩,fy⟩;obtain⟨U4,hU4,bU4,zU4,CU4,-⟩:=au w4 #[.S u0 D.l0.length d0,.I D.n0,.S u1 D.l1.length d1,.I D.n1,.S u2 D.l2.length d2,.I D.n2,.U S.e,.U S.g,.U S.x,.I S.t,.S u3 S.ss.length d3,.S u4 S.ns.length d4,.U q] 43;have B4:=ag (aj fy bU4);have z4:=fy.size;have NX:=ag o4.lts;have O4:=ag (o4.below bU4);have C4:=ag CU4;go_wp2_with fail;rw[<-hU4];have HU:=ag (ae HV U4 B4).2.2;refine(Rg (show SvI U3.heap.size U4 u0 d0 u1 d1 u2 d2 u3 d3 u4 d4 D S from⟨O4.1,O4.2.2.2.1,O4.2.2.2.2.1⟩) hl HG y0 y1 HU.2.2.1 HU.2.2.2.1 dop hD ET).mono ?_;rintro z w5⟨v0,e0,v1,e1,v2,e2,v3,e3,v4,e4,rfl,⟨M,D1,D2,o6⟩,fT⟩;dsimp only at o6⊢;obtain⟨U5,hU5,bU5,zU5,CU5,-⟩:=au w5 #[.S v0 E.l0.length e0,.I E.n0,.S v1 E.l1.length e1,.I E.n1,.S v2 E.l2.length e2,.I E.n2,.U S'.e,.U S'.g,.U S'.x,.I S'.t,.S v3 S'.ss.length e3,.S v4 S'.ns.length e4,.U q'] 43;have b45:=aj fT bU5;have z5:=fT.size;have B5:=ag (aj B4 b45);have O5:=ag (O4.below b45);have C5:=ag (C4.below af b45);have J5:=ag CU5;have NL:=ag o6.lts;have G5:=ag (o6.below bU5);obtain⟨⟨i0,i1,i2,i3,i4,i5,i6,i7,i8,i9,ia,ib,ic⟩,-⟩:=ae HV U5 B5;rw[hU5]at i0 i1 i2 i3 i4 i5 i6 i7 i8 i9 ia ib ic;go_wp2_with fail;rw[<-hU5];have HU:=ag (ae HV U5 B5);refine(oG v0 v1 v2 v3 v4 x0 x1 x2 x3 x4 e0 e1 e2 e3 e4 a0 a1 a2 a3 a4 E S' q' _ G5.rd HU.2.1 HZ).mono ?_;rintro z w6⟨rfl,ko⟩;have B56:=ag ko;have B6:=ag (aj B5 ko);have O6:=ag (O5.below ko);have C6:=ag (C5.below af ko);have z6:=ko.size;have HU:=ag (ae HV w6 B6);go_wp2_with fail;refine du (λv=>SvB v w4.heap.size u0 d0 u1 d1 u2 d2 u3 d3 u4 d4 D S q/\SvB v w.heap.size p0 c0 p1 c1 p2 c2 p c r d D S q) (by exact⟨C6.xA,HU.2.2.1⟩) λhS=>?_;have BV:=ag (cQ w6.heap.size w6).drew
 let⟨v,mY⟩:=aB w6.drew
 rw[<-mY]at BV hS⊢;refine jR 0 1 hS ?_;refine cX 2 (λKK hK=>?_);refine iw (nS (ae HV v (aj B6 BV)).2.2.2.1 HZ0) ?_;rintro z w7⟨x0',f0,x1',f1,x2',f2,x3',f3,x4',f4,rfl,⟨M7,F3,F4,o7⟩,Jy⟩;refine⟨_,rfl,?_⟩;have b67:=aj BV Jy;have O7:=ag (ai (O6.below b67) o7.rd);have C7:=ag (C6.below af b67);have B57:=ag (aj B56 b67);have B7:=ag (aj B6 b67);refine fh hK (by exact⟨C7.xA,(ae HV w7 B7).2.2.1⟩) λhS=>?_;refine cX 3 (λKK hK=>?_);refine vU (oG u0 u1 u2 u3 u4 x0' x1' x2' x3' x4' d0 d1 d2 d3 d4 f0 f1 f2 f3 f4 D S q w7 O7.1.rd O7.2 HZ0) ?_;rintro z w8⟨rfl,Z6⟩;refine⟨_,rfl,?_⟩;have O8:=ag (O7.1.below Z6);have C8:=ag (C7.below (aI B57.size) Z6);have B58:=ag (aj B57 Z6);have B8:=ag (aj B7 Z6);refine fh hK (by exact⟨C8.xA,(ae HV w8 B8).2.2.1⟩) λhS=>?_;refine tn 4 hS ?_;refine cY ?_
 let⟨i0,i1,i2,i3,i4,i5,i6,i7,i8,i9,ia,ib,ic⟩:=C8.xA
 have z8:=B58.size;go_wp2_with fail;have hFn:F1.length+F2.length<=4194304:=by have h1:=uj.kx O8.2.2.2.2.2.1;have h2:=vQ.kx O8.2.2.2.2.2.2.1;have h3:=ax7 S.ss S.ns;have:=HZ0.s;omega
 refine(uK U3.heap.size M4 w4.heap.size F1 F2 u0 u1 u2 u3 u4 d0 d1 d2 d3 d4 D S q 1 w8 O8 HZ0 hFn NX af af af af).mono ?_;rintro z v1'⟨rfl,-,mb,mk⟩;have BUm:Hid (Bw U3 v1'):=B8.trans mb;have KG:Hid (∀b,U4.heap.size<=b->b<U5.heap.size->v1'.heap[b]?=U5.heap[b]?):=λb h1 h2=>(mk b af af).trans (B58.block b h2);have zm:=mb.size;obtain⟨K1,eK1⟩:∃K:Int,1+(D.l0.length:Int)+(D.l1.length:Int)+(D.l2.length:Int)+(F1.length:Int)+(F2.length:Int)=K:=⟨_,rfl⟩;have Xt:¬K1<0:=af;rw[eK1];have G9:=ag (G5.keep (w':=v1') KG);have J9:=ag (J5.de (ae KG w5.heap.size af af));have HU:=ag (ae HV v1' (ae BUm))
 let⟨i0,i1,i2,i3,i4,i5,i6,i7,i8,i9,ia,ib,ic⟩:=J9.xA
 obtain⟨⟨j0,j1,j2,j3,j4,j5,j6,j7,j8,j9,ja,jb,jc⟩,-⟩:=ae HU;go_wp2_with fail;refine(oG v0 v1 v2 v3 v4 x0 x1 x2 x3 x4 e0 e1 e2 e3 e4 a0 a1 a2 a3 a4 E S' q' _ G9.rd HU.2.1 HZ).mono ?_;rintro z v2'⟨rfl,ku⟩;have BUa:=ag (aj BUm ku);have Ga:=ag (G9.below ku);have Ja:=ag (J9.below af ku);have za:=ku.size;have hDn:D1.length+D2.length<=4194304:=by have h1:=uj.kx Ga.2.2.2.2.2.1;have h2:=vQ.kx Ga.2.2.2.2.2.2.1;have h3:=ax7 S'.ss S'.ns;have:=ae HSZ;omega
 let⟨i0,i1,i2,i3,i4,i5,i6,i7,i8,i9,ia,ib,ic⟩:=Ja.xA
 go_wp2_with fail;refine(uK U4.heap.size M w5.heap.size D1 D2 v0 v1 v2 v3 v4 e0 e1 e2 e3 e4 E S' q' 1 _ Ga HZ hDn NL af af af af).mono ?_;rintro z v3'⟨rfl,HH,mb,mk3⟩;have zU:=B4.size;have BUb:Hid (Bw U3 v3'):=BUa.trans (mb.mono zU);have Jb:=ag (show ar v3' w5.heap.size _ from Ja.de (mk3 w5.heap.size af ay));have FG2:=ag HH;obtain⟨K2,Vy⟩:∃K:Int,1+(E.l0.length:Int)+(E.l1.length:Int)+(E.l2.length:Int)+(D1.length:Int)+(D2.length:Int)=K:=⟨_,rfl⟩;have hK2:¬K2<0:=af;have Z9:(K2 != K2)=false:=al;rw[Vy]
 let⟨i0,i1,i2,i3,i4,i5,i6,i7,i8,i9,ia,ib,ic⟩:=Jb.xA
 go_wp2_with fail;refine(Hu D1 D2 v0 v1 v2 v3 v4 e0 e1 e2 e3 e4 E S' q' 1 _ FG2 HZ hDn af af).mono ?_;rintro z v4'⟨rfl,Ou⟩;rw[Vy];have BUc:=ag (aj BUb Ou);have HU:=ag (ae HV v4' (ae BUc)).2.2
 let⟨i0,i1,i2,i3,i4,i5,i6,i7,i8,i9,ia,ib,ic⟩:=HU.1
 go_wp2_with fail;refine(nS HU.2.1 HZ0).mono ?_;rintro z v5'⟨u0,d0,u1,d1,u2,d2,u3,d3,u4,d4,rfl,⟨M5,F1',F2',o9⟩,DC⟩;have BUd:=ag (aj BUc DC);have O9:=ag (show SvI v4'.heap.size v5' u0 d0 u1 d1 u2 d2 u3 d3 u4 d4 D S from⟨o9.1,o9.2.2.2.1,o9.2.2.2.2.1⟩);have HU:=ag (ae HV v5' (ae BUd)).2.2;go_wp2_with fail;refine(Rg (ae O9) hl HG y0 y1 HU.2.2.1 HU.2.2.2.1 dop hD ET).mono ?_;rintro z v6'⟨g0,b0,g1,b1,g2,b2,g3,b3,g4,b4,rfl,⟨M',D1',D2',oh⟩,yF⟩;dsimp only at oh⊢;obtain⟨V7,hV7,bV7,-,-,-⟩:=au v6' #[.S g0 E.l0.length b0,.I E.n0,.S g1 E.l1.length b1,.I E.n1,.S g2 E.l2.length b2,.I E.n2,.U S'.e,.U S'.g,.U S'.x,.I S'.t,.S g3 S'.ss.length b3,.S g4 S'.ns.length b4,.U q'] 43;have BUf:=ag (aj BUd (aj yF bV7));have OH:=ag (oh.below bV7);have HU:=ag (ae HV V7 BUf);obtain⟨⟨i0,i1,i2,i3,i4,i5,i6,i7,i8,i9,ia,ib,ic⟩,-⟩:=ae HU;rw[hV7]at i0 i1 i2 i3 i4 i5 i6 i7 i8 i9 ia ib ic;go_wp2_with fail;rw[<-hV7];refine(oG g0 g1 g2 g3 g4 x0 x1 x2 x3 x4 b0 b1 b2 b3 b4 a0 a1 a2 a3 a4 E S' q' _ OH.rd HU.2.1 HZ).mono ?_;rintro z v8'⟨rfl,hc8⟩;have BF:=aj HU.2.2.2.2.2.2 hc8;go_wp2;go_ret;exact⟨rfl,BF⟩
open Go.Deep
def VM:Tryz.prog.cellsOf 24=2:=by kernel_rfl
def VN:Tryz.prog.cellsOf 26=6:=by kernel_rfl
def tB{H:Type}{enc:TypeId×Value->H}{c0 c1:Value}{x:DataW H×List MemPlace}(h:DataW.trod enc Tryz.prog w 0 (λ_=>true) true n 24 [c0,c1]=some x):∃(p:OA)(l:LI)(c:Nat)(s:Int),c0=.S p l.length c/\c1=.I s/\Rd w (.S p l.length c) l/\l.length<=maxLen/\aN l:=by
 let⟨y0,y1,m,hx,_,h0,h1⟩:=trod_struct2 Tryz.underlying24 h
 simp[St,Lg]at h0 h1;obtain⟨p,l,c,e,hr,hl,-,hB⟩:=Rd.qN h0
 let⟨s,e1,_,ws⟩:=mI Tryz.underlying3 h1
 simp at e e1;exact⟨p,l,c,s,e,e1,hr,hl,hB⟩
def Zn:Tryz.prog.cellsOf 33=13:=by kernel_rfl
theorem aR2(h:cs.size=13):∃a b c d e f g h i j k l m,cs=#[a,b,c,d,e,f,g,h,i,j,k,l,m]:=by
 obtain⟨l⟩:=cs;simp at h
 match l,h with
 |[a,b,c,d,e,f,g,h,i,j,k,l,m],_=>exact⟨a,b,c,d,e,f,g,h,i,j,k,l,m,rfl⟩
def Pp{H:Type}{enc:TypeId×Value->H}{r:Reach}{v:Value}{d:DataW H}(hv:Value.okWide Tryz.prog w r b0 33 v)(h:DataW.Trod enc Tryz.prog w 0 (λ_=>true) true 33 v d ps):∃p0 c0 p1 c1 p2 c2 p c r d D S q,v=ID p0 c0 p1 c1 p2 c2 p c r d D S q/\JH w p0 c0 p1 c1 p2 c2 p c r d D S/\(D.l0.length<=maxLen/\D.l1.length<=maxLen/\D.l2.length<=maxLen)/\aN D.l0/\aN D.l1/\SX S:=by
 obtain⟨cs,rfl,jl⟩:=okWide_struct Tryz.underlying33 hv;obtain⟨a0,a1,a2,a3,a4,a5,a6,a7,a8,a9,aa,ab,ac,rfl⟩:=aR2 (jl.trans Zn);obtain⟨fuel,hf⟩:=h
 let⟨y0,y1,y2,m,_,_,g0,g1,g2⟩:=trod_struct3 Tryz.underlying33 hf
 simp[VN,Sr,Ay,Value.cells]at g0 g1 g2
 let⟨z0,z1,z2,m',_,_,h0,h1,h2⟩:=trod_struct3 Tryz.underlying26 g0
 simp[VM]at h0 h1 h2;obtain⟨p0,l0,c0,s0,rfl,rfl,r0,m0,b0⟩:=tB h0;obtain⟨p1,l1,c1,s1,rfl,rfl,r1,m1,b1⟩:=tB h1;obtain⟨p2,l2,c2,s2,rfl,rfl,r2,m2,_⟩:=tB h2
 let⟨e,g,x,t,p,q,ss,ns,c,c',e1,k1,k2,k3,k4,k5,k6,k7,k8⟩:=Pm g1
 let⟨sq,e2,_,_⟩:=mI Tryz.underlying27 g2
 simp at e1 e2;obtain⟨rfl,rfl,rfl,rfl,rfl,rfl⟩:=e1;subst e2;exact⟨p0,c0,p1,c1,p2,c2,p,c,q,c',⟨l0,s0,l1,s1,l2,s2⟩,⟨e,g,x,t,ss,ns⟩,sq,rfl,⟨r0,r1,r2,k2,k3⟩,⟨m0,m1,m2⟩,b0,b1,⟨k6,k7,k8,k1,k4,k5⟩⟩
namespace srRow
def an2:List (String×DataW Unit):=[("unicode/utf8.acceptRanges",Rows.laid_unicode_utf8_acceptRanges),("loop.example/s02132/impl.forms",Rows.laid_loop_example_s02132_impl_forms),("unicode/utf8.first",Rows.laid_unicode_utf8_first)]
variable {k:Nat}{W:World}
def Vr(h:laidMet Tryz.prog an2 W)(hk:k<14){se pa sq jo:Bool}{lo hi vs:Int}(hd0:∀ds:List (DataW Unit),Rows.laid_loop_example_s02132_impl_forms=.agg ds->ds[k]?=some (.agg [.lit (.bool se),.lit (.bool pa),.lit (.I lo),.lit (.I hi),.lit (.I vs),.lit (.bool sq),.lit (.bool jo)])):xD W 1 (k*7) se pa lo hi vs sq jo:=by
 have h2 : laidMet Tryz.prog (("loop.example/s02132/impl.forms",Rows.laid_loop_example_s02132_impl_forms)::[("unicode/utf8.first",Rows.laid_unicode_utf8_first)]) W:=laidMet.tail h;obtain⟨ps,⟨g,t,cs,fuel,p,q,hg,ht,hv,hd,_,_⟩,_,_⟩:=h2;obtain rfl:=Ji ((show Tryz.prog.globalNamed "loop.example/s02132/impl.forms" = some 1 by kernel_rfl).symm.trans hg);obtain rfl:=Ji ((show(Tryz.prog.globals[1]?).map (·.type)=some 286 by kernel_rfl).symm.trans ht)
 let⟨xs,m,_,ex,Ot,hl,oz⟩:=DataW.trod_array Tryz.underlying286 hd
 have hE:=oz k hk;rw[Is,aY af]at hE;have e3:=hd0 _ (Prod.mk.inj ex).1;rw[nG,aY (by omega:k<xs.length)]at e3;simp only[Jh,kV]at e3;have hcs:=Nl hE e3;have cT:∀j v,[Value.bool se,.bool pa,.I lo,.I hi,.I vs,.bool sq,.bool jo][j]?=some v->j<7->W.cell? (Ad 1 (k*7+j))=some v:=λj v hj hj7=>by rw[World.var?_cell hg hv (k*7+j),<-hj,<-hcs,GP,bO hj7,MG];simp
 exact⟨by simpa using cT 0 _ rfl af,cT 1 _ rfl af,cT 2 _ rfl af,cT 3 _ rfl af,cT 4 _ rfl af,cT 5 _ rfl af,cT 6 _ rfl af⟩
def tab(h:laidMet Tryz.prog an2 W):N8 W:=by
 intro k h1 h2;rcases kinds h1 h2 with rfl|rfl|rfl|rfl|rfl|rfl|rfl|rfl|rfl|rfl|rfl|rfl|rfl<;>exact Vr h af (λds Ao=>by
  have e:=DataW.agg.inj Ao;rw[<-e]
  rfl)
def lifted(os:Os)(started:os.Started)(H:Type)(enc:TypeId×Value->H):ReturnsInHanded {} Tryz.checked os 3 .any (λw args=>(Rows.fnExactSnapSpec.pre enc Tryz.prog Tryz.f3 Rows.fnExactSnapRow.domain false w args/\laidMetH Tryz.prog Rows.fnExactSnapRow.laid w)/\sizedMet enc Tryz.prog Tryz.f3 (OpenSpec.ofChange Rows.fnExactSnapSpec) false w args)
   (Rows.fnExactSnapSpec.post enc Tryz.prog Tryz.f3 false true false false):=by
 refine Rw (C:=Tryz.checked) (X:=λw _=>laidMetH Tryz.prog Rows.fnExactSnapRow.laid w) (λ_ _ _ hh h=>h.of_heap hh) own started bg Tryz.func3
  (ChangeSpec.witness_shaped (enc:=enc) (C:=Tryz.checked) (os:=os) (X:=λw _=>laidMetH Tryz.prog Rows.fnExactSnapRow.laid w) false (World.laidAll Tryz.prog os Rows.fnExactSnapRow.laid) #[.agg #[aq,.I 0,aq,.I 0,aq,.I 0,.U 0,.U 0,.U 0,.I 0,aq,aq,.U 0],.I 0] 8 (World.laidAll_os _ _ _)
   (World.shaped_of_ZipB bg bg) bg bg bg
   (by rw[MakeChecks.laidMetH_plain _ _ _ bg];exact laidMet_laidAll _ bg bg)) ?_
 intro W base args ds gs before aW5 hW hL hsh;have Hn:∀(j:Nat)t v,Tryz.f3.params[j]?=some t->args[j]?=some v->Value.okWide Tryz.prog W .any base t v:=aW5;have hW':=hW;obtain⟨p,q,hA0,hV0,rfl,hfz,bu⟩:=hW;have hA:DataW.TrodAll enc Tryz.prog W 0 (λ_=>true) true Tryz.f3.params.toList args.toList ds p:=hA0;have hV : DataW.TrodVars enc Tryz.prog W (λ_=>true) ["loop.example/s02132/impl.forms"] gs q:=hV0;rw[Tryz.params3]at hA Hn;obtain⟨v0,vs0,d0,ds0,p0,q0,dk8,rfl,rfl,h0,r0⟩:=trodAll_cons hA;obtain⟨v1,vs1,d1,ds1,p1,q1,rfl,rfl,rfl,h1,r1⟩:=trodAll_cons r0;obtain⟨rfl,rfl,rfl⟩:=trodAll_nil r1;obtain rfl:args=#[v0,v1]:=by cases args;simp_all
 obtain⟨gg,tt,cs,fuel,dg,pg,rfl,hg,ht,dO0,hd,hq⟩:=trodVars_one hV;have k0:=h0;have lt0:∀x∈p0,x.block<W.heap.size:=by obtain⟨m,hm⟩:=k0;exact DataW.trod_lt m _ _ _ hm
 obtain⟨b0,c0,b1,c1,b2,c2,b,c,r,d,D,S,q,rfl,Rm,hm,y0,y1,hX⟩:=Pp (Hn 0 33 v0 rfl rfl) h0;obtain⟨st,rfl,rfl,rfl,ws⟩:=open_int Tryz.underlying3 (Hn 1 3 v1 rfl rfl) h1;clear hA0 aW5;have hM:laidMet Tryz.prog an2 W:=by have h:=hL;rw[MakeChecks.laidMetH_plain _ _ _ bg]at h;exact h
 refine(aK2 Rm hm.1 hm.2.1 hm.2.2 (ag y0) (ag y1) (ag hX) (Qn hsh) (tab hM)).mono λr W'⟨he,Tu⟩=>?_;subst he;exact⟨_,rfl,_,_,_,[],_,_,hW',trodAll_mk1 (shut_bool Tryz.underlying4 _),(trodAll_cons_mk (Below.trod laidOut bg (QA bg) k0 Tu lt0) (trodAll_cons_mk (shut_int Tryz.underlying3 ws) trodAll_mk0)),(Below.trodVars laidOut Tu bg hV),Tu.frame _,λh=>by cases h⟩
end srRow
end Go.Proofs.YtnhnbpkfpaondaaGreatDoor
