import Derived.Test.YtnhnbpkfpaondaaGreatDoorK12
import Derived.Test.YtnhnbpkfpaondaaGreatDoorK13
namespace Go.Proofs.YtnhnbpkfpaondaaGreatDoor
set_option maxHeartbeats 0
set_option linter.all false
set_option maxRecDepth 100000
open Go.ChangeShapes Go.WideShapes Go.ChangeAt Go.RowKit Go.Maps Go.Proofs.Tryz
variable {w0 w w' Z:World}{b bs bn z k i j kx np cp nv cv nh B B' n c d NE:Nat}{D:SD}{L:List Nat}{ns:List aD}{PP:List LI}{P l V m I m1 m2 m3 m4 m5 LE m':LI}{left:Lit->Bool}{s F S E G C e g mo ep ge K x t f:Int}{nd nd':aD}{pp pq p:OA}{se pa t1 t2 t3 t4 t5 t':Bool}{ss:List aQ}{v v0 v1 v2 v3 v4 v5 v6:Value}{R:RP}{fn:Func}{a:Act}{ty:TypeId}{y:List UInt8}
def PS.blt{SB NB HB UB:List Nat}(h:PS w0 w b bs bn D SB NB HB UB):∀z∈PL b bs bn SB NB HB UB,z<w.heap.size:=λz hz=>by
 simp only[PL,jv,gu]at hz;have key:∀{l:List Nat}{i:Nat},l.length=D.ns.length->l[i]?=some z->∃nd,D.ns[i]?=some nd:=λhl hi=>⟨_,aY (by rw[<-hl];exact(aV.1 hi).1)⟩;rcases hz with rfl|rfl|rfl|hz|hz|hz|hz;{exact aR h.hd};{obtain⟨M,n,o,-⟩:=h.sG;exact o.lt};{obtain⟨M,n,o,-⟩:=h.lY;exact o.lt};{
 let⟨i,hi⟩:=gH.1 hz
 obtain⟨s,hs⟩:∃s,D.ss[i]?=some s:=⟨_,aY (by rw[<-h.tR];exact(aV.1 hi).1)⟩;obtain⟨-,u,hc,-⟩:=h.vT i s z hs hi;exact aR hc};{
 let⟨i,hi⟩:=gH.1 hz
 let⟨nd,bu⟩:=key h.tT hi
 let⟨g,hh,uu,h1,h2,h3,hN⟩:=h.nat bu
 rw[hi]at h1;cases h1;obtain⟨V,hb,-⟩:=hN.blk;exact aR hb};{
 let⟨i,hi⟩:=gH.1 hz
 let⟨nd,bu⟩:=key h.hlen hi
 let⟨g,hh,uu,h1,h2,h3,hN⟩:=h.nat bu
 rw[hi]at h2;cases h2
 let⟨es,c,hm⟩:=hN.Xp.at
 exact aR hm};{
 let⟨i,hi⟩:=gH.1 hz
 let⟨nd,bu⟩:=key h.uw hi
 let⟨g,hh,uu,h1,h2,h3,hN⟩:=h.nat bu
 rw[hi]at h3;cases h3
 let⟨es,c,hm⟩:=hN.TF.at
 exact aR hm}
def One.ofI(be:Bw w0 w)(hg:w.grownBy w' (some z))(hz:w0.heap.size<=z)(hn:∀cur ty m,w.heap[z]?≠some (.cells cur ty m)):One w0 w w' z:=
 ⟨(cQ w0.heap.size w).grown hg be.size (λb e=>by cases e;exact hz),λy hy bS=>hg.block y hy (λe=>bS (by cases e;rfl)),λcur ty m hc=>absurd hc (hn cur ty m)⟩
def YW{SB NB HB UB:List Nat}(h:∀z∈PL b bs bn SB NB HB UB,z∈L):∀z∈PL b bs bn SB (NB.eraseIdx k) (HB.eraseIdx k) (UB.eraseIdx k),z∈L:=λz hz=>h z (by
 simp only[PL,jv,gu]at hz⊢;rcases hz with h|h|h|h|h|h|h;{exact .inl h};{exact .inr (.inl h)};{exact .inr (.inr (.inl h))};{exact .inr (.inr (.inr (.inl h)))};{exact .inr (.inr (.inr (.inr (.inl (GI h)))))};{exact .inr (.inr (.inr (.inr (.inr (.inl (GI h))))))};{exact .inr (.inr (.inr (.inr (.inr (.inr (GI h))))))})
theorem Kg{α β:Type}(f:α->β):∀(l:List α)(k:Nat),(l.eraseIdx k).map f=(l.map f).eraseIdx k
 |[],k=>al
 |a::r,0=>al
 |a::r,k+1=>by simp[Kg f r k]
theorem ag2(h:(ns.map (·.path)).drop i=PP.drop j)(hP:PP[j]?=some P):∃nd,ns[i]?=some nd/\nd.path=P:=by
 have h1:(PP.drop j)[0]?=some P:=by rw[MG];simpa using hP
 rw[<-h,MG,uP,nG]at h1;cases hn:ns[i]? with
 |none=>rw[hn]at h1;cases h1
 |some nd=>rw[hn]at h1;exact⟨nd,rfl,by simpa using h1⟩
def Gj{α:Type}{l PP:List α}(h:l.drop i=PP.drop j):l.drop (i+1)=PP.drop (j+1):=by
 have e1:l.drop (i+1)=(l.drop i).drop 1:=by rw[Gv]
 have e2:PP.drop (j+1)=(PP.drop j).drop 1:=by rw[Gv]
 rw[e1,e2,h]
structure CR(w0 Y w2 wr:World)(b bs bn:Nat)(SB:List Nat)(L:List Nat)(D:SD)(NB HB UB:List Nat):Prop where
 ps:PS w0 wr b bs bn D SB NB HB UB
 fr:Fr T3 Y wr
 kb:Kb L w2 wr
 sub:∀z∈PL b bs bn SB NB HB UB,z∈L
 sz:w2.heap.size<=wr.heap.size
theorem ay0{SB NB HB UB:List Nat}(h:Hid (PS w0 w b bs bn D SB NB HB UB))(hC:Hid (CI D.ss D.ns))(KM:Hid ((D.ns.map λnd=>rD nd.path).Pairwise (·<·))){s:aQ}(hk:Hid (D.ss[k]?=some s)){m:Nat}(em:Le D.ns m)(hm:Mg m):Calls prog 323 #[.agg #[.U s.1],.pointer (some (Ad b 0))] w λr w'=>∃SB' NB' ZE UB',sA w0 w b bs bn (jA D s.1) SB' NB' ZE UB' rH r w':=by
 let⟨X,Y,hX,hY,bY,zX,zY,BX,RY⟩:=vh w #[.U s.1] 296
 have hid:=hC.so.rg s (aT (ae hk));have cW:=keyOf_int_mk underlying27 (ni hid);have PY:=h.below bY;obtain⟨-,-,-,-,-,h5,-⟩:=PY.fq
 let⟨M,n,oN,hn,mN,zN⟩:=PY.lY
 have OE:=h.be.size;have as5:Hid (∀nd∈D.ns,Maps.has M (cL nd.path)=true):=λnd bu=>by
  let⟨i,hi⟩:=gH.1 bu
  let⟨gz,_,_,hgz,_,_⟩:=PY.nat hi
  exact(mN.hs _).2 ⟨(cL nd.path,gz),by rw[gH];exact⟨i,by rw[oe,hi,hgz]⟩,rfl⟩
 have HY:=ag (ai PY (ai BX RY));have HBY:=ag bY;have HZY:=ag zY;have MN:=ag mN;have dV5:w0.heap.size<=Y.heap.size:=af;rw[hY,hX]at h5 oN;clear PY BX RY bY zX zY mN zN
 go_in
 go_wp2_with(first
  |(at_range;refine wpList_range_own _ rfl _ 155 rfl 9 _ ox underlying155 _ bn n _ rfl oN ?_;intro w1 vY Rt U0)
  |go_in)
 go_frame
 rw[<-hX,<-hY]at vY Rt⊢
 let⟨r1,Xy⟩:=aB Y.heap.size
 rw[<-Xy]at vY⊢;have ER:=ag Xy;have b1:Bw Y w1:=(cQ Y.heap.size Y).grown Rt ay (λj hj=>by cases hj);have P1:=ag (HY.1.below b1);have F1:=ag (Fr.below (T:=T3) b1);have bH7:w0.heap.size<=r1:=af;clear Xy hX hY h5 oN Rt U0 b1
 go_loopw[6](λ_ wr=>∃(left:Lit->Bool)(kx:Nat),wr.ranges prog 9 aZ bn r1 n M left kx/\Hid (PS w0 wr b bs bn {D with ns:=rM (IM s.1) left D.ns} SB NB HB UB)/\Hid (Fr T3 Y wr)) (λ_ wr=>wr.rangeLeft bn r1)
 exact⟨_,_,vY,by rw[CF (ae as5)];exact P1,F1⟩;{
 obtain⟨left,kx,mZ,Ts,KY⟩:=hrel;go_wp2_with(first
  |(at_next;refine gv _ rfl _ rfl 9 ox (λs:ByteArray=>.string s) aL0 bn r1 n _ _ MN _ _ rfl mZ ?_ ?_)
  |go_in)
 {
 intro _ Fa;have Ov:=ae Ts;rw[JP Fa]at Ov;have Wh:=ag (hC.cw s.1);obtain⟨D1,eD1⟩:∃D1:SD,D1={D with ns:=D.ns.map (IM s.1)}:=⟨_,rfl⟩;have Tm:D1.ns.length=m:=by rw[eD1,fN];exact ae em
 have hPP:D1.ns.map (·.path)=D.ns.map (·.path):=by rw[eD1,sR];rfl
 rw[<-eD1]at Ov;obtain⟨-,-,-,-,-,h5,-⟩:=Ov.fq
 let⟨M2,nn,oM,hnn,mM,zM⟩:=Ov.lY
 have hNM:=Ov.sto.qw;have E1:=ag eD1
 let⟨Y2,eY2⟩:=aB wr
 subst eY2;have P2:=ag Ov;have HL1:=ag Tm;have HPP:=ag hPP;have ik:D1.ss=D.ss:=by rw[eD1]
 have DU:=ag ik;have cx1:Hid ((D1.ns.map λnd=>rD nd.path).Pairwise (·<·)):=by show List.Pairwise _ _;rw[eD1,sR];exact KM
 have yI:Hid (CI D1.ss D1.ns):=by rw[eD1];exact Wh
 clear Fa Ts mZ Ov Tm hPP eD1 Wh ik;go_wp2_with fail;refine(T.kH bn nn M2 Y2 oM (by rw[zM,ae HL1];exact hm)).mono ?_;rintro r w2⟨kv,ks,rfl,Tv,Oh,aK⟩;obtain rfl:=xQ hNM cx1 mM Tv;obtain⟨p,c,rfl,Hr⟩:=Mo Oh;rw[ae HL1];have HK:=ag Hr
 let⟨DF,eDF⟩:=bG (dI s.1 m 0 D1)
 have hzK:=P2.blt;have HZK:=ag hzK;have CR2:=ag (show CR w0 Y w2 w2 b bs bn SB (PL b bs bn SB NB HB UB) D1 NB HB UB from⟨P2.below aK,KY.trans (Fr.below aK),λz _ _=>rfl,λz hz=>hz,iD _⟩);clear Hr Oh Tv oM mM hNM zM aK h5 hzK;go_wp2
 go_loopw[31](λiv wr=>∃(j i:Nat)(Dk:SD)(NBk HBk UBk:List Nat),j<=m/\iv=.I j/\Hid (dI s.1 (m-j) i Dk=DF)/\Hid ((Dk.ns.map (·.path)).drop i=(D1.ns.map (·.path)).drop j)/\Hid (CI Dk.ss Dk.ns)/\Hid (Dk.ss.map (·.1)=D1.ss.map (·.1))/\Hid (CR w0 Y w2 wr b bs bn SB (PL b bs bn SB NB HB UB) Dk NBk HBk UBk)) (λiv _=>m-(intOf iv).toNat)
 exact⟨0,0,D1,NB,HB,UB,gr _,rfl,eDF,bD,yI,bD,CR2⟩;{
 obtain⟨j,i,Dk,NBk,HBk,UBk,hj,rfl,hDF,aX7,Nk,bP3,hR⟩:=hrel;obtain⟨-,-,-,-,h4,h5,-⟩:=hR.ps.fq;have cB:wr.cell? (Ad w.heap.size 0)=some (.U s.1):=ao (hR.fr.2 _ _ _ _ bj HY.2.1) 0;by_cases bf:j<m;{
 have bL:=aU j m;obtain⟨x,hx⟩:∃x,D1.ns[j]?=some x:=⟨_,aY (by rw[ae HL1];exact bf)⟩;obtain⟨gk,rfl,hck⟩:∃gk,p=some (Ad gk 0)/\wr.cell? (Ad gk j)=some (.string (aP x.path)):=by rcases ae HK with h0|⟨gk,rfl,h1,h2,h3⟩;{rw[h0]at hx;simp at hx};{refine⟨gk,rfl,?_⟩;have h4:=h3 j x hx;rw[ly]at h4;exact(aF (hR.kb gk h2 (λhm=>aI (ae HZK gk hm))) j).trans h4}
 let⟨nd,hi,hpe⟩:=ag2 (ae aX7) (P:=x.path) (by rw[nG,hx];rfl)
 rw[<-hpe]at hck
 let⟨hT,hhp,hhl⟩:=Nk.nt nd (aT hi)
 let⟨g,hh,uu,hg,nH,nM,hN,hlk⟩:=hR.ps.QU hi hT.pl
 let⟨B,eB⟩:=bG (nd.holders.contains s.1)
 have JL:=ag (ai hi (ai hg (ai nH nM)));have HT:=ag (ai hT (ai hhp hhl));have HN:=ag hN;have HCB:=ag (λ(v:World)(hv:Fr T3 wr v)=>ao (hv.2 _ _ _ _ bj (hR.fr.2 _ _ _ _ bj HY.2.1)) 0);clear hx hpe hi hT hhp hhl hg nH nM hN;go_wp2_with fail;clear hck hlk h5;refine(lg HN hid eB).mono ?_;rintro r w5⟨rfl,fT⟩;have B5:=ag fT;have cB5:=ae HCB w5 (Fr.below fT)
 let⟨D2,eD2⟩:=bG (dS Dk i s.1)
 clear fT cB
 go_upto_if 44 with fail
 go_cut[](λwd=>Hid (PS w0 wd b bs bn D2 SB NBk HBk UBk)/\Hid (Fr T3 wr wd)/\Hid (Kb (PL b bs bn SB NBk HBk UBk) wr wd))
 case first=>(
 cases B;{
 go_wp2_with fail;go_meet;have e2:D2=Dk:=by have:=Im JL.1 eB;exact eD2.symm.trans this
 rw[e2];exact⟨ag (hR.ps.below B5),ag (Fr.below B5),ag (Kb.below B5)⟩};{go_wp2_with fail;refine(J6 (ag (hR.ps.below B5)) (ag JL.1) (ag Nk.so) (ag HT.1) hid (ag HT.2.1) HT.2.2 eB).mono ?_;rintro r w6⟨P6,⟨F6,K6⟩,v6,rfl⟩;rw[ae eD2]at P6;have HP6:=ag P6;have HF6:=ag ((Fr.below B5).trans F6);have HK6:=ag ((Kb.below B5).trans K6 B5.size);clear P6 F6 K6;go_wp2_with fail;go_meet;exact⟨HP6,HF6,HK6⟩})
 case rest=>(
 obtain⟨P6,F6,K6⟩:=hcut
 let⟨q1,q2,q3,lr,q4,q5,q6⟩:=CI.drop Nk JL.1 s.1
 rw[ae eD2]at q1 q2 q3 q4;have N6:=P6.nw i lr g hh uu q4 JL.2.1 JL.2.2.1 JL.2.2.2;obtain⟨V6,-,-,-,n1,-⟩:=N6.cells;have cB6:=ae HCB wc F6;have db:=DP (m:=m-j+i) (k:=i) af eD2 q4;have bl4:=ae hDF;rw[show m-j+i-i=m-j by omega]at db;rw[db]at bl4;have ap6:(D2.ns.map (·.path)).drop i=(D1.ns.map (·.path)).drop j:=by rw[q2];exact ae aX7
 have sz6:w2.heap.size<=wc.heap.size:=fu hR.sz F6.1;have kb6:=hR.kb.trans (K6.mono hR.sub) hR.sz;have fr6:=hR.fr.trans F6;have HQ:=ag (ai q1 (ai (q3.trans (ae bP3)) (ai q4 (ai ap6 bl4))));have HS6:=ag (ai sz6 (ai kb6 fr6));have HQ6:=ag q6;clear N6 q1 q2 q3 q4 q6 db bl4 ap6 sz6 kb6 fr6;go_wp2_with fail;refine jW bg (λW eW=>?_);have bW:=mX eW;have n1':=ah n1 bW;have cB7:=ah cB6 bW;have BW:=ag bW;clear eW n1 cB6 bW cB5 h4
 repeat still_step
 refine iy ?_;by_cases ho:lr.owner=s.1;{
 have Xn:(lr.owner==s.1)=true:=by simp[ho]
 have e7:=HQ.2.2.2.2;rw[bO ho,show m-j+i-1-i=m-(j+1) by omega]at e7;have E7:=ag e7;have T7:=CI.tell HQ.1 HQ.2.2.1 2;have HRM:=PM (ag (P6.below BW)) (ag HQ.2.2.1) (ag HQ.1.so) (ag (HQ.1.nt lr (aT HQ.2.2.1)).1) (ag HQ.1.kd);rw[ae HQ6]at HRM;have cV5:=ag HRM;have KU:i<D2.ns.length:=(aV.1 HQ.2.2.1).1;have hp7:Hid (((Tf (dW D2 i 2) i).ns.map (·.path)).drop i=(D1.ns.map (·.path)).drop (j+1)):=by show List.drop i (List.map _ (List.eraseIdx _ _))=_;rw[Kg,T7.2.1,Ik (by rw[fN];exact KU)];exact Gj HQ.2.2.2.1
 have C7:=ag (CI.rm T7.1 i);have I7:Hid ((Tf (dW D2 i 2) i).ss.map (·.1)=D1.ss.map (·.1)):=T7.2.2.1.trans HQ.2.1;clear ho e7 T7 HRM KU;go_wp2_with fail;refine cV5.mono ?_;rintro r w7⟨P7,⟨F7,K7⟩,v7,rfl⟩;have R7:=ag (show CR w0 Y w2 w7 b bs bn SB (PL b bs bn SB NB HB UB) (Tf (dW D2 i 2) i) (NBk.eraseIdx i) (HBk.eraseIdx i) (UBk.eraseIdx i)from⟨P7,(HS6.2.2.trans (Fr.below BW)).trans F7,(HS6.2.1.trans (Kb.below BW) HS6.1).trans (K7.mono hR.sub) (by have:=BW.size;have:=HS6.1;omega),YW hR.sub,by have:=BW.size;have:=HS6.1;have:=F7.1;omega⟩);clear P7 F7 K7 n1' cB7;go_wp2;go_roundw;exact⟨j+1,i,_,_,_,_,af,by go_num,E7,hp7,C7,I7,R7⟩;exact cg};{
 have Xn:(lr.owner==s.1)=false:=by simp[ho]
 have e7:=HQ.2.2.2.2;rw[bH ho,show m-j+i-(i+1)=m-(j+1) by omega]at e7;have E7:=ag e7;have hp7:=ag (Gj HQ.2.2.2.1);have C7:=ag HQ.1;have I7:=ag HQ.2.1;have R7:=ag (show CR w0 Y w2 W b bs bn SB (PL b bs bn SB NB HB UB) D2 NBk HBk UBk from⟨P6.below BW,HS6.2.2.trans (Fr.below BW),HS6.2.1.trans (Kb.below BW) HS6.1,hR.sub,by have:=BW.size;have:=HS6.1;omega⟩);clear ho e7;go_wp2;go_roundw;exact⟨j+1,i+1,_,_,_,_,af,by go_num,E7,hp7,C7,I7,R7⟩
 case measure=>simp[intOf];omega})}
 {
 have bL:=dB j m;have e7:=ae hDF;rw[show m-j=0 by omega,dI]at e7;subst e7;have hFY:=hR.fr;have YN:(Dk.ss.map (·.1))[k]?=some s.1:=by rw[ae bP3,ae DU,nG,ae hk];rfl
 obtain⟨s2,uW,es2⟩:∃s2,Dk.ss[k]?=some s2/\s2.1=s.1:=by
  rw[nG]at YN;cases hq:Dk.ss[k]? with
  |none=>rw[hq]at YN;cases YN
  |some s2=>rw[hq]at YN;exact⟨s2,rfl,by simpa using YN⟩
 have HK2:=ag (ai uW es2);clear YN uW es2;go_wp2_with fail;refine dN 6 bg (λW eW=>?_);have bW:=mX eW;have PW:=hR.ps.below bW;have FW:=hFY.trans (Fr.below (T:=T3) bW);have c0:W.cell? (Ad w.heap.size 0)=some (.U s.1):=ao (FW.2 _ _ _ _ bj HY.2.1) 0;obtain⟨-,-,-,-,k4,-⟩:=PW.fq
 let⟨M4,n4,o4,hn4,s4,z4⟩:=PW.sG
 let⟨Z,dK,ho,Ag⟩:=o4.drop jI underlying154 cW 0
 have OZ:=One.ZJ PW.be Ag.grown PW.lo.2.1 (ownsMap_at o4);have PZ:=PW.cO3 HK2.1 OZ (λj' z' Ol e'=>by
  have bI0:=Jf.1 Nk.so.pw
  let⟨l1,v1⟩:=aV.1 HK2.1
  let⟨l2,v2⟩:=aV.1 Ol
  rcases GZ k j' with hh|hh|hh;{have:=bI0 k j' l1 l2 hh;rw[v1,v2]at this;omega};{exact hh.symm};{have:=bI0 j' k l2 l1 hh;rw[v1,v2]at this;omega}) (λM' n' o'=>by
  rw[HK2.2];obtain⟨w2',Rl,qy,-⟩:=o'.drop jI underlying154 cW 0;rw[dK]at Rl;cases Rl;exact qy)
 have eCl:jA D s.1={Dk with ss:=Dk.ss.eraseIdx k}:=by have e9:=ae eDF;rw[ae E1,<-ae em]at e9;unfold jA;rw[e9,<-Yr Nk.so HK2.1,HK2.2]
 rw[<-eCl]at PZ;have HPZ:=ag PZ;have FZ0:=FW.trans OZ.fr;have FZ:=ag ((Fr.below (T:=T3) HBY).trans FZ0);have Zw:=HY.2.2.fr FZ0
 let⟨r0,r1',r2,r3,r4,r5,r6,r7,rf⟩:=Zw.cells
 have RZ:=ag Zw;clear eW PZ OZ ho Ag o4 s4 z4 PW FW FZ0 Zw eCl h4 h5 hFY;simp only[xT,rj,vW,sU]
 repeat still_step
 refine iy ?_;go_wp2;exact yW RZ bg rfl rfl ⟨_,_,_,_,PS.rep HPZ RZ af _ _ _ _ _ _ _ _,FZ.low ((dm).mono af),rfl⟩}}};{
 intro i0 pl g1 w4 wu bK0 hp hlp uT bf gp aM0 Jt
 let⟨j,z,g1',hj,hgj,ee⟩:=il hp
 simp only[gy]at ee;obtain⟨rfl,rfl⟩:=ee;have xw:∀cur ty m,wr.heap[r1]?≠some (.cells cur ty m):=λcur ty m e=>by obtain⟨es,clock,since,seen,c0,-,-,-,-,hi,-⟩:=mZ;rw[hi]at e;cases e
 have KR:∀es c,wr.heap[r1]?≠some (.map es c):=λes c e=>by obtain⟨es,clock,since,seen,c0,-,-,-,-,hi,-⟩:=mZ;rw[hi]at e;cases e
 have O4:=One.ofI Ts.be gp bH7 xw;have P4:=Ts.iter O4 (λcs ty=>xw cs ty _) KR;have F4:=KY.trans O4.fr;have iM:=OR (f:=IM s.1) hj hlp
 let⟨g9,hh,uu,z1,z2,z3,N4⟩:=P4.nat iM
 rw[hgj]at z1;cases z1;have ar8:(Instr.entry (.pointer (some (Ad r1 0)))).run prog w4=.ok (.tuple #[.string i0,.pointer (some (Ad g1 0))]) w4:=Jt;have HP4:=ag (ai P4 (ai F4 iM));have HRG:=ag (ai uT bf);have JL:=ag (ai hj (ai hgj (ai z2 z3)));have HM:=ag (ai mZ.left_eq uT.left_eq);clear xw KR O4 P4 F4 iM N4 uT bf gp aM0 hp bK0 Ts KY Jt z2 z3 hgj hj;go_wp2_with fail;refine dN 6 bg (λW eW=>?_);have bW:=mX eW;have PW:=HP4.1.below bW;have NW:=PW.nw j z g1 hh uu HP4.2.2 JL.2.1 JL.2.2.1 JL.2.2.2;obtain⟨V,-,-,-,-,-,-,-,-,n6,-⟩:=NW.cells;have FW:=HP4.2.1.trans (Fr.below (T:=T3) bW);have c0:W.cell? (Ad w.heap.size 0)=some (.U s.1):=ao (FW.2 _ _ _ _ bj HY.2.1) 0
 let⟨M4,n4,o4,hn4,s4,z4⟩:=NW.TF
 let⟨Z,dK,ho,Ag⟩:=o4.drop jI underlying141 cW 0
 have OZ:=One.ZJ PW.be Ag.grown NW.lo.2.2 (ownsMap_at o4);have SZ:=SM.del (w:=W) s4 (hC.nt z (aT JL.1)).1.wpw hn4 ho;have PZ:=PW.TF HP4.2.2 JL.2.1 JL.2.2.1 JL.2.2.2 OZ SZ;have est:=Fw (f:=IM s.1) (left:=left) hC.kd JL.1;have PZ':Hid (PS w0 Z b bs bn {D with ns:=rM (IM s.1) (λz'=>left z'&&!z'.sameKey (cL z.path)) D.ns} SB NB HB UB):=by have:=PZ;simp only at this;rw[<-est];exact this
 have FZ:=ag (FW.trans OZ.fr);have tg:Z.ranges prog 9 aZ bn r1 n M (λz'=>left z'&&!z'.sameKey (cL z.path)) wu:=by
  refine Da HRG.1 ?_ ?_;{obtain⟨M9,n9,o9,-⟩:=PW.lY;refine(OZ.k bn o9.lt (λe=>(PW.hu.2.2.1 _ (aT JL.2.2.2)).2 e.symm)).trans ?_;rw[eW];rfl};{
 have hi9:∃o:Obj,W.heap[r1]?=some o/\∀es c,o≠.map es c:=by obtain⟨es,clock,since,seen,c0,-,-,-,-,hi,-⟩:=HRG.1;exact⟨_,by rw[eW];exact hi,λes c e=>by cases e⟩
 obtain⟨o,ho9,bS⟩:=hi9;refine(OZ.k r1 (aR ho9) (λe=>?_)).trans (by rw[eW];rfl)
 let⟨es,c,hm4⟩:=ownsMap_at o4
 rw[e,hm4]at ho9;exact bS es c (Ji ho9).symm}
 clear eW NW SZ PZ est OZ ho Ag o4 s4 z4 PW FW;simp only[xT,rj,vW,sU]
 repeat still_step
 refine iy ?_;go_wp2;go_roundw;exact⟨_,_,tg,PZ',FZ⟩
 case measure=>rw[tg.left_eq,mZ.left_eq];exact HRG.2}}
def SM.nil{u:Nat}(o:w.ownsMap prog 27 (unitElem (H:=Unit)) u 0 (.map [])):SM w u []:=
 ⟨_,0,o,bj,(λk=>by simp[Maps.has]),rfl⟩
def Gh{P:Program}{k:TypeId}{R:Value->Option (DataW Unit×List MemPlace)}{b r n:Nat}{D:DataW Unit}(h:w.ranges P k R b r n D left kx):(∀cur ty m,w.heap[r]?≠some (.cells cur ty m))/\∀es c,w.heap[r]?≠some (.map es c):=by
 obtain⟨es,clock,since,seen,c0,-,-,-,-,hi,-⟩:=h;exact⟨λcur ty m e=>(by rw[hi]at e;cases e),λes c e=>(by rw[hi]at e;cases e)⟩
theorem Xv{SB NB HB UB:List Nat}(h:Hid (PS w0 w b bs bn D SB NB HB UB))(hK:Hid (KD D.ns))(Ao:Hid (∀(i j:Nat)(s s':aQ),D.ss[i]?=some s->D.ss[j]?=some s'->i<j->s.1≠s'.1)):Calls prog 96 #[.pointer (some (Ad b 0))] w λr w'=>PS w0 w' b bs bn ⟨D.e,D.g,D.x,0,D.ss.map kh,D.ns.map lx⟩ SB NB HB UB/\Fr T3 w w'/\∃v,r=.returned v:=by
 let⟨h0,h1,h2,h3,h4,h5,hf⟩:=h.fq
 have OE:=h.be.size
 let⟨Z,hZ⟩:=aB (w.setCell (Ad b 3) (.I 0))
 have kZ:∀y,y≠b->Z.heap[y]?=w.heap[y]?:=λy hy=>by rw[hZ];exact ga _ _ _ _ hy
 have Oj:Z.heap[b]?=some (.cells #[.U D.e,.U D.g,.U D.x,.I 0,.map (some bs),.map (some bn)] 157):=by rw[hZ];simp[World.setCell,BS,h.hd]
 have OZ:One w0 w Z b:=One.ofC h.be (by rw[hZ];exact aA.setCell (p:=(Ad b 3)) ay _) h.hd h.lo.1 al (λy _ hy=>kZ y hy);have PZ:=h.ac6 OZ D.e D.g D.x 0 Oj
 let⟨M,n,oS,hn,mS,zS⟩:=PZ.sG
 obtain⟨-,-,-,-,i4,-,-⟩:=PZ.fq;have as5:Hid (∀s∈D.ss,Maps.has M (.U s.1)=true):=λs hs=>by
  let⟨i,hi⟩:=gH.1 hs
  obtain⟨gz,hgz,-⟩:=PZ.sat (i:=i) (s:=s) hi;exact(mS.hs _).2 ⟨(.U s.1,gz),by rw[gH];exact⟨i,by rw[oe,hi,hgz]⟩,rfl⟩
 have HP:=ag PZ;have HF:=ag OZ.fr;have HZs:=ag OZ.b.size;have MS:=ag mS;clear PZ OZ mS zS kZ Oj h0 h1 h2 h5
 go_in
 subst hZ;go_wp2_with(first
  |(at_range;refine wpList_range_own _ rfl _ 154 rfl 27 _ jI underlying154 _ bs n _ rfl oS ?_;intro w1 vY Rt U0)
  |go_in)
 have eZ:(w.setCell (Ad b 3) (.I 0)).heap.size=w.heap.size:=al;rw[eZ]at vY HZs
 let⟨Z,hZ⟩:=aB (w.setCell (Ad b 3) (.I 0))
 rw[<-hZ]at HP HF Rt eZ;have b1:Bw Z w1:=(cQ _ Z).grown Rt ay (λj hj=>by cases hj);have P1:=ag (HP.below b1);have F1:=ag (HF.trans (Fr.below (T:=T3) b1))
 let⟨r1,Xy⟩:=aB w.heap.size
 rw[<-Xy]at vY⊢;have KL:w0.heap.size<=r1:=af;clear Xy hZ eZ b1 Rt U0 oS i4 h3 h4 hf HP HF HZs
 go_loopw[3](λ_ wr=>∃(left:Lit->Bool)(kx:Nat),wr.ranges prog 27 aZ bs r1 n M left kx/\Hid (PS w0 wr b bs bn ⟨D.e,D.g,D.x,0,rO kh left D.ss,D.ns⟩ SB NB HB UB)/\Hid (Fr T3 w wr)) (λ_ wr=>wr.rangeLeft bs r1)
 exact⟨_,_,vY,by rw[OY (ae as5)];exact P1,F1⟩;{
 obtain⟨left,kx,mZ,Ts,KY⟩:=hrel;go_wp2_with(first
  |(at_next;refine gv _ rfl _ rfl 27 jI (λi:Int=>.int .u64 i) bG7 bs r1 n _ _ MS _ _ rfl mZ ?_ ?_)
  |go_in)
 {
 intro _ Fa;have Ov:=ae Ts;rw[XX Fa]at Ov;obtain⟨-,-,-,-,-,i5,-⟩:=Ov.fq
 let⟨M2,m,oN,hm,mN,zN⟩:=Ov.lY
 have bM9:Hid (∀nd∈D.ns,Maps.has M2 (cL nd.path)=true):=λnd bu=>by
  let⟨i,hi⟩:=gH.1 bu
  let⟨gz,_,_,hgz,_,_⟩:=Ov.nat (i:=i) (nd:=nd) hi
  exact(mN.hs _).2 ⟨(cL nd.path,gz),by rw[gH];exact⟨i,by rw[oe,hi,hgz]⟩,rfl⟩
 let⟨Y,eY⟩:=aB wr
 subst eY;have hYs:=KY.1;have P2:=ag Ov;have MN:=ag mN;go_wp2_with(first
  |(at_range;refine wpList_range_own _ rfl _ 155 rfl 9 _ ox underlying155 _ bn m _ rfl oN ?_;intro w3 Ek An hs3)
  |go_in)
 have b3:Bw Y w3:=(cQ _ Y).grown An ay (λj hj=>by cases hj);have P3:=ag (P2.below b3);have F3:=ag (KY.trans (Fr.below (T:=T3) b3))
 let⟨r2,Nq⟩:=aB Y.heap.size
 rw[<-Nq]at Ek⊢;have nO:w0.heap.size<=r2:=af;clear Nq b3 An hs3 oN i5 P2 KY
 go_loopw[5](λ_ wr=>∃(left:Lit->Bool)(kx:Nat),wr.ranges prog 9 aZ bn r2 m M2 left kx/\Hid (PS w0 wr b bs bn ⟨D.e,D.g,D.x,0,D.ss.map kh,rM lx left D.ns⟩ SB NB HB UB)/\Hid (Fr T3 w wr)) (λ_ wr=>wr.rangeLeft bn r2)
 exact⟨_,_,Ek,by rw[CF (ae bM9)];exact P3,F3⟩;{
 clear Ek P3 F3;obtain⟨left,kx,mZ,Ts,KY⟩:=hrel;go_wp2_with(first
  |(at_next;refine gv _ rfl _ rfl 9 ox (λs:ByteArray=>.string s) aL0 bn r2 m _ _ MN _ _ rfl mZ ?_ ?_)
  |go_in)
 {
 intro _ Fa;have hP4:=ae Ts;rw[JP Fa]at hP4;have P4:=ag hP4;clear hP4 Ts;go_wp2
 go_end0
 exact⟨P4,KY,_,rfl⟩};{
 intro i0 pl g1 w4 wu cW hp hlp uT bf gp aM0 Jt
 let⟨j,z,g1',hj,hgj,ee⟩:=il hp
 simp only[gy]at ee;obtain⟨rfl,rfl⟩:=ee
 let⟨xw,KR⟩:=Gh mZ
 have O4:=One.ofI Ts.be gp nO xw;have P4:=Ts.iter O4 (λcs ty=>xw cs ty _) KR;have F4:=KY.trans O4.fr;have iM:=OR (f:=lx) hj hlp
 let⟨g9,hh,uu,z1,z2,z3,N4⟩:=P4.nat iM
 rw[hgj]at z1;cases z1;obtain⟨V,-,-,-,-,-,-,-,-,n6,-⟩:=N4.cells
 let⟨M4,n4,o4,hn4,s4,z4⟩:=N4.TF
 let⟨v,w5,dK,MW,vZ,hs5⟩:=J3 underlying141 o4 0
 have O5:=One.ZJ P4.be vZ N4.lo.2.2 (ownsMap_at o4);have P5:=P4.TF iM hgj z2 z3 O5 (SM.nil MW);have P6:Hid (PS w0 w5 b bs bn ⟨D.e,D.g,D.x,0,D.ss.map kh,rM lx (λz'=>left z'&&!z'.sameKey (cL z.path)) D.ns⟩ SB NB HB UB):=by have:=P5;simp only at this;rw[<-Fw (f:=lx) (ae hK) hj];exact this
 have F5:=ag (F4.trans O5.fr);have tg:w5.ranges prog 9 aZ bn r2 m M2 (λz'=>left z'&&!z'.sameKey (cL z.path)) wu:=by
  refine Da uT ?_ ?_;{obtain⟨M9,n9,o9,-⟩:=P4.lY;exact O5.k bn o9.lt (λe=>(P4.hu.2.2.1 _ (aT z3)).2 e.symm)};{
 obtain⟨es,clock,since,seen,c0,-,-,-,-,hi,-⟩:=uT;refine O5.k r2 (aR hi) (λe=>?_)
 let⟨es',c',hm4⟩:=ownsMap_at o4
 rw[<-e,hi]at hm4;cases hm4}
 have ar8:(Instr.entry (.pointer (some (Ad r2 0)))).run prog w4=.ok (.tuple #[.string i0,.pointer (some (Ad g1 0))]) w4:=Jt;clear gp hp cW Ts KY O4 P4 F4 N4 P5 O5 MW vZ hs5 xw KR o4 s4 z4;go_wp2;go_roundw;exact⟨_,_,tg,P6,F5⟩
 case measure=>rw[tg.left_eq,mZ.left_eq];exact bf}}}
 {
 intro i0 pl g1 w2 wu cW hp hlp uT bf gp aM0 Jt
 let⟨j,z,g1',hj,hgj,ee⟩:=il hp
 simp only[gy]at ee;obtain⟨rfl,rfl⟩:=ee
 let⟨xw,KR⟩:=Gh mZ
 have O2:=One.ofI Ts.be gp KL xw;have P2:=Ts.iter O2 (λcs ty=>xw cs ty _) KR;have F2:=KY.trans O2.fr;have iM:=ac4 (f:=kh) hj hlp
 let⟨a1,u,a2,a3⟩:=P2.vT j z g1 iM hgj
 have jt:w2.cell? (Ad g1 1)=some (.I z.2.1):=ao a2 1;have ku:w2.cell? (Ad g1 2)=some u:=ao a2 2;have hf:∀o,w2.frozen? (Ad g1 o)=false:=λo=>by simp[World.frozen?,a2]
 let⟨ZZ,hZZ⟩:=aB ((w2.setCell (Ad g1 1) (.I 0)).setCell (Ad g1 2) aq)
 have O5:One w0 w2 ZZ g1:=One.ofC P2.be (by rw[hZZ];exact(aA.setCell (p:=(Ad g1 1)) ay _).setCell (p:=(Ad g1 2)) ay _) a2 a1 al (λy _ hy=>by rw[hZZ,ga _ _ _ _ hy,ga _ _ _ _ hy]);have P5:=P2.rO (s':=kh z) iM hgj O5 rfl ⟨a1,aq,by rw[hZZ];simp[World.setCell,BS,a2,kh],AQ.nil _ _⟩;have P6:Hid (PS w0 ZZ b bs bn ⟨D.e,D.g,D.x,0,rO kh (λz'=>left z'&&!z'.sameKey (.U z.1)) D.ss,D.ns⟩ SB NB HB UB):=by have:=P5;simp only at this;rw[<-TG (f:=kh) (ae Ao) hj];exact this
 have F5:=ag (F2.trans O5.fr);have ar8:(Instr.entry (.pointer (some (Ad r1 0)))).run prog w2=.ok (.tuple #[.U i0,.pointer (some (Ad g1 0))]) w2:=Jt;have tg:ZZ.ranges prog 27 aZ bs r1 n M (λz'=>left z'&&!z'.sameKey (.U z.1)) wu:=by rw[hZZ];exact uT.of_walks ((KeepsWalks.setCell _ _ _).trans (KeepsWalks.setCell _ _ _))
 clear gp hp cW Ts KY O2 P2 F2 O5 P5 a1 a2 a3 xw KR;go_wp2;rw[<-hZZ];go_roundw;exact⟨_,_,tg,P6,F5⟩
 case measure=>rw[tg.left_eq,mZ.left_eq];exact bf}}
theorem as0(h:l.length=1)(s:Int):l.headD 0=s↔l.contains s=true:=by
 match l,h with
 |[y],_=>
  simp;exact⟨λe=>e.symm,λe=>e.symm⟩
def aG8(h:nd.mode=1->nd.holders.length=1):ae4 nd s=if nd.mode=1/\nd.holders.headD 0≠s then 9 else 0:=by
 unfold ae4;by_cases hm:nd.mode=1;{have:=as0 (h hm) s;by_cases hc:nd.holders.contains s=true;{rw[bH (by rw[hc];simp),bH (λe=>e.2 (this.2 hc))]};{rw[bO ⟨hm,by simpa using hc⟩,bO ⟨hm,λe=>hc (this.1 e)⟩]}};{rw[bH (λe=>hm e.1),bH (λe=>hm e.1)]}
def am5(hk:D.ns[k]?=some nd)(h:nL D nd s F≠0):sc D k s F=(D,AV (nL D nd s F)):=by
 unfold nL at h⊢;simp only[sc,hk];generalize nd.holders.contains s=B at h⊢;cases B;{by_cases h2:F=2;{by_cases h3:nd.mode=1;{simp[h2,h3]};{simp[h2,h3]at h}};{by_cases h3:nd.mode=0;{by_cases h4:4611686018427387904<=D.g;{simp[h2,h3,h4]};{simp[h2,h3,h4]at h}};{simp[h2,h3]}}};{simp}
def Kv(hk:D.ns[k]?=some nd)(h:nL D nd s 2=0):sc D k s 2=({D with ns:=D.ns.set k {nd with mode:=2,holders:=wG nd.holders s}},rH):=by
 unfold nL at h;simp only[sc,hk];generalize nd.holders.contains s=B at h⊢;cases B;{by_cases h3:nd.mode=1;{simp[h3]at h};{simp[h3]}};{simp at h}
def Kw(hk:D.ns[k]?=some nd)(hh:nd.mode=0->nd.holders=[])(h:nL D nd s 1=0):sc D k s 1=({D with g:=D.g+1,ns:=D.ns.set k {nd with mode:=1,holders:=wG nd.holders s,aE:=D.e,gen:=D.g+1}},{rH with e:=D.e,g:=D.g+1})/\D.g<2^62:=by
 unfold nL at h;simp only[sc,hk];generalize nd.holders.contains s=B at h⊢;cases B;{by_cases h3:nd.mode=0;{by_cases h4:4611686018427387904<=D.g;{simp[h3,h4]at h};{refine⟨?_,af⟩;rw[hh h3];simp[h3,h4,wG]}};{simp[h3]at h}};{simp at h}
def VE(h:Nz D P≠0):my D P V S F=(D,AV (Nz D P)):=by
 unfold Nz at h⊢;unfold my;by_cases h1:(gS D.ns P).isSome=true;{simp[h1]};{by_cases h2:dV D.ns (eG P)=false;{simp[h1,h2]};{by_cases h3:200<=D.ns.length;{simp[h1,h2,h3]};{simp[h1,h2,h3]at h}}}
def DO(h:Nz D P=0):my D P V S F=({D with ns:=mQ (mH P V (if F=1 then S else 0)) D.ns},rH)/\gS D.ns P=none/\D.ns.length<200:=by
 unfold Nz at h;unfold my;by_cases h1:(gS D.ns P).isSome=true;{simp[h1]at h};{by_cases h2:dV D.ns (eG P)=false;{simp[h1,h2]at h};{by_cases h3:200<=D.ns.length;{simp[h1,h2,h3]at h};{exact⟨by simp[h1,h2,h3],by simpa using h1,af⟩}}}
def ag9(h:zk D≠0):pL D=(D,AV (zk D)):=by
 unfold zk at h⊢;unfold pL;by_cases h1:50<=D.ss.length;{simp[h1]};{by_cases h2:4611686018427387904<=D.x;{simp[h1,h2]};{simp[h1,h2]at h}}
def Kc(h:zk D=0):pL D=({D with x:=D.x+1,ss:=D.ss++[(D.x+1,D.t+10,[])]},{rH with i:=D.x+1,n:=D.t+10})/\D.ss.length<50/\D.x<2^62:=by
 unfold zk at h;unfold pL;by_cases h1:50<=D.ss.length;{simp[h1]at h};{by_cases h2:4611686018427387904<=D.x;{simp[h1,h2]at h};{exact⟨by simp[h1,h2],af,af⟩}}
def ndK(K:Int):Bool:=(K==5||(K==6||(K==7||(K==8||(K==9||(K==11||K==13))))))
def WE(h1:1<=k)(h2:k<=13):Calls prog 278 #[.I (k:Int)] w λr w'=>r=.returned (.bool (ndK k))/\w'=w:=by
 have h:k=1\/k=2\/k=3\/k=4\/k=5\/k=6\/k=7\/k=8\/k=9\/k=10\/k=11\/k=12\/k=13:=af;clear h1 h2;rcases h with rfl|rfl|rfl|rfl|rfl|rfl|rfl|rfl|rfl|rfl|rfl|rfl|rfl
 all_goals
  go_in
  go_wp2;go_ret;exact⟨rfl,rfl⟩
def tK(D:SD)(K:Int)(P:LI):Int:=if rR K P=true then 0 else if vp P=false then 4 else if ndK K=true/\(gS D.ns P).isNone=true then 5 else 0
theorem Sq{SB NB HB UB:List Nat}(h:Hid (PS w0 w b bs bn D SB NB HB UB))(yG:Hid (∀nd∈D.ns,aN nd.path))(h1:1<=k)(h2:k<=13)(eP:Le P np)(hP:Hid (Rd w (.S pp np cp) P))(hB:Hid (aN P))(hp:np<=1048576)(jt:np<=cp)(ku:Hid (cp<=maxLen))(hm:Hid (∃m,w.cell? (Ad 0 0)=some (.I m)))(eC:Hid (tK D k P=C)):Calls prog 253 #[.pointer (some (Ad b 0)),IE k S (.S pp np cp) F (.S pq nv cv) E G] w (Rb (Ic C) w):=by
 obtain⟨X,hX,bX,zX,CX,-⟩:=au w #[.I (k:Int),.U S,.S pp np cp,.I F,.S pq nv cv,.U E,.U G] 121;have hcv:=λ(ob:Obj)=>dQ eP (hP.below ((cQ w.heap.size w).alloc ay ob));have mR:((aP P).toList==(aP [47]).toList)=decide (P=[47]):=qU (ae hB) (by intro y hy;simp at hy;omega);rw[show(aP [47]).toList=[47]from fE [47]]at mR;have e:=ae eC;unfold tK rR at e
 let⟨st,est⟩:=bG (aP P)
 rw[ae est]at mR;simp only[ae est]at hcv;by_cases KI:(k:Int)=13/\P=[47];{
 have e13:((k:Int)==13)=true:=by simp[KI.1]
 have hr:(st.toList==[47])=true:=by rw[mR];simp[KI.2]
 have e':C=0:=by rw[<-e];simp[KI.1,KI.2]
 subst e'
 go_in
 go_wp2;go_ret;exact⟨rfl,aA.alloc ay _⟩};{
 have e1:(if vp P=false then 4 else if ndK k=true/\(gS D.ns P).isNone=true then 5 else 0)=C:=by
  rw[<-e];have:(decide ((k:Int)=13)&&decide (P=[47]))=false:=by simpa using KI
  rw[this];simp
 have E1:=ag e1;have cA8:∃t,Hid (((k:Int)==13)=t/\(t=true->(st.toList==[47])=false)):=⟨_,ag ⟨rfl,λht=>by rw[mR];simp at ht;simpa using λhP=>KI ⟨af,hP⟩⟩⟩
 obtain⟨t,ht⟩:=cA8
 let⟨B,eB⟩:=bG (vp P)
 clear e e1 KI mR
 go_in
 have STEP:True:=km;cases t
 all_goals
  let⟨e13,db⟩:=ae ht
  try have dO7:=db rfl
  clear db;go_wp2_with fail;rw[<-hX];refine(UR eP (hP.below bX) hB hp jt ku (hm.imp λm hm=>ah hm bX) eB).mono ?_;rintro r w2⟨rfl,aK⟩;have CW2:=CX.de (w':=w2) (aK.block _ af);have B2:=ag (aj bX aK);have e:=ae E1;rw[ae eB]at e;cases B;{
 have e':C=4:=by rw[<-e];rfl
 subst e';go_wp2;go_ret;exact⟨rfl,B2⟩};{
 have e2:(if ndK k=true/\(gS D.ns P).isNone=true then 5 else 0)=C:=by simpa using e
 have E2:=ag e2;go_wp2_with fail;refine jW bg (λW eW=>?_);have bW:Bw w W:=eW▸B2.drew;have PW:=ag (h.below bW);obtain⟨-,-,-,-,-,k5,-⟩:=PW.fq;have CW:=CW2.de (w':=W) (by rw[eW];rfl);have c0:=CW.1 0 _ rfl;have c2:=CW.1 2 _ rfl;have hcv:=dQ eP (hP.below bW);rw[ae est]at hcv;clear eW CW CW2;cases hF:gS D.ns P with
 |none=>
  have dK:=PW.ai0 hF (ae hB) (ae yG) (by rw[ae eP];omega);rw[ae est]at dK;have e:=ae E2;rw[hF]at e;clear hF
  repeat still_step
  refine iy ?_;go_wp2_with fail;refine(WE h1 h2).mono ?_;rintro r w5⟨rfl,rfl⟩
  let⟨T,eT⟩:=aL (ndK k)
  rw[eT]at e⊢;clear eT;cases T;{
 have e':C=0:=by rw[<-e];simp
 subst e';go_wp2;go_ret;exact⟨rfl,bW⟩};{
 have e':C=5:=by rw[<-e];simp
 subst e';go_wp2;go_ret;exact⟨rfl,bW⟩}
 |some nd=>
  obtain⟨rfl,i,hi⟩:=vI hF;obtain⟨g1,h1',u1,q1,-,-,hN⟩:=PW.nat hi;have dK:=PW.bi9 hi q1 (by rw[ae eP];omega);rw[ae est]at dK;have e:=ae E2;rw[hF]at e;have e':C=0:=by rw[<-e];simp
  subst e'
  repeat still_step
  refine iy ?_;go_wp2_with fail;refine(WE h1 h2).mono ?_;rintro r w5⟨rfl,rfl⟩
  let⟨T,eT⟩:=aL (ndK k)
  rw[eT];cases T;{go_wp2;go_ret;exact⟨rfl,bW⟩};{go_wp2;go_ret;exact⟨rfl,bW⟩}}}
theorem PS.okS{SB NB HB UB:List Nat}(h:PS w0 w b bs bn D SB NB HB UB)(hr:0<=S/\S<2^64):∃v,(Instr.lookup 154 (.map (some bs)) (.U S) true).run prog w=.ok (.tuple #[.pointer v,.bool (decide (0<=xM D.ss S))]) w:=by
 obtain⟨M,n,o,-,m,-⟩:=h.sG
 let⟨v,ps,hrn,hv⟩:=o.look_ok jI underlying154 (OI (w:=w)) (zd:=.nil) (zp:=[]) rfl (key:=.U S) (keyOf_int_mk underlying27 (ni hr))
 by_cases hs:xM D.ss S<0;{
 have hh:Maps.has M (.U S)=false:=by
  rw[Ec];intro e
  let⟨p,hp,e2⟩:=(m.hs _).1 e
  obtain⟨i,s,y,hx,hy,rfl⟩:=il hp;simp only[Db,MC]at e2;unfold xM at hs;cases hf:D.ss.findIdx? (λs=>s.1==S)with
  |some k=>rw[hf]at hs;simp at hs;omega
  |none=>
   have:=WO.1 hf s (aT hx);simp[e2]at this
 rw[Maps.atKey_of_not_has hh]at hv;obtain rfl:=uF hv;refine⟨none,?_⟩;rw[hrn,hh,show decide (0<=xM D.ss S)=false by simp;omega]};{
 let⟨k,s,e1,hk⟩:=aH3 hs
 obtain⟨g,hg,-⟩:=h.sat hk;have es:s.1=S:=by
  unfold xM at e1;cases hf:D.ss.findIdx? (λs=>s.1==S)with
  |none=>rw[hf]at e1;simp at e1
  |some k'=>
   rw[hf]at e1;simp at e1;obtain⟨h1,h2,-⟩:=Di.1 hf;have ek:k'=k:=af;subst ek;have:D.ss[k']=s:=by rw[aY h1]at hk;simpa using hk
   rw[<-this];simpa using h2
 subst es;have hp:(Lit.U s.1,g)∈List.zipWith (λ(s:aQ)g=>(Lit.U s.1,g)) D.ss SB:=aT (i:=k) (by rw[oe,hk,hg]);rw[m.at' _ hp]at hv;obtain rfl:=jY hv;refine⟨some (Ad g 0),?_⟩;rw[hrn,(m.hs _).2 ⟨_,hp,rfl⟩,show decide (0<=xM D.ss s.1)=true by simp;omega]}
def yx(D:SD)(se pa B:Bool)(K S:Int)(P:LI):Int:=if B=false then 2 else if se=true/\xM D.ss S<0 then 3 else if pa=true then tK D K P else 0
def ax6{SB NB HB UB:List Nat}(h:Hid (PS w0 w b bs bn D SB NB HB UB))(yG:Hid (∀nd∈D.ns,aN nd.path))(h1:1<=k)(h2:k<=13)(hS:0<=S/\S<2^64)(eP:Le P np)(hP:Hid (Rd w (.S pp np cp) P))(hB:Hid (aN P))(hp:np<=1048576)(jt:np<=cp)(ku:Hid (cp<=maxLen))(hm:Hid (∃m,w.cell? (Ad 0 0)=some (.I m))){lo hi vs:Int}{sq jo:Bool}(hT:Hid (xD w 1 (k*7) se pa lo hi vs sq jo)){B:Bool}(eB:Hid (fmF se pa lo hi vs sq S F np nv E G=B))(eC:Hid (yx D se pa B k S P=C)):Calls prog 241 #[.pointer (some (Ad b 0)),IE k S (.S pp np cp) F (.S pq nv cv) E G] w (Rb (Ic C) w):=by
 obtain⟨X,hX,bX,zX,CX,-⟩:=au w #[.I (k:Int),.U S,.S pp np cp,.I F,.S pq nv cv,.U E,.U G] 121;have e:=ae eC;unfold yx at e;have i3:(k:Int)<14:=af;have i4:k<14:=af;have i5:=dC 0 k
 go_in
 go_wp2_with fail;rw[<-hX];refine(oY h1 h2 (hT.below bX) eB).mono ?_;rintro r w2⟨rfl,aK⟩;have CW2:=CX.de (w':=w2) (aK.block _ af);have B2:=ag (aj bX aK);clear aK hX CX;cases B;{
 have e':C=2:=by rw[<-e];rfl
 subst e';clear e;go_wp2;go_ret;exact⟨rfl,B2⟩};{
 have e2:(if se=true/\xM D.ss S<0 then 3 else if pa=true then tK D k P else 0)=C:=by simpa using e
 have E2:=ag e2;clear e e2;go_wp2_with fail;refine jW bg (λW eW=>?_);have bW:Bw w W:=eW▸B2.drew;have PW:=ag (h.below bW);obtain⟨-,-,-,-,k4,-,-⟩:=PW.fq;have CW:=CW2.de (w':=W) (by rw[eW];rfl);have c0:=CW.1 0 _ rfl;have c1:=CW.1 1 _ rfl;have c2:=CW.1 2 _ rfl;have c3:=CW.1 3 _ rfl;have c4:=CW.1 4 _ rfl;have c5:=CW.1 5 _ rfl;have c6:=CW.1 6 _ rfl;obtain⟨t0,t1,-⟩:=hT.below bW
 let⟨v,dK⟩:=PW.okS (S:=S) hS
 obtain⟨T,eT⟩:∃T,Hid (decide (0<=xM D.ss S)=T):=⟨_,ag rfl⟩;rw[ae eT]at dK;have e:=ae E2;have bR8:(xM D.ss S<0)↔T=false:=by rw[<-ae eT];simp
 simp only[bR8]at e;clear eW CW CW2 bR8
 repeat still_step
 refine iy ?_;clear dK k4;by_cases hx:se=true/\T=false;{
 obtain⟨rfl,rfl⟩:=hx;have e':C=3:=by rw[<-e];simp
 subst e';clear e;go_wp2;go_ret;exact⟨rfl,bW⟩};{
 have e3:(if pa=true then tK D k P else 0)=C:=by rw[bH hx]at e;exact e
 have E3:=ag e3;clear e e3;have YI:(se=false/\T=false)\/(se=false/\T=true)\/(se=true/\T=true):=by cases se<;>cases T<;>simp at hx⊢
 clear hx;rcases YI with⟨rfl,rfl⟩|⟨rfl,rfl⟩|⟨rfl,rfl⟩
 all_goals
  cases pa;{
 have e':C=0:=by have:=ae E3;rw[<-this];rfl
 subst e';go_wp2;go_ret;exact⟨rfl,bW⟩};{
 have e3:tK D k P=C:=by have:=ae E3;rw[bO rfl]at this;exact this
 have E4:=ag e3;clear e3;go_wp2_with fail;refine(Sq PW yG h1 h2 eP (ag (hP.below bW)) hB hp jt ku (ag (hm.imp λm hm=>ah hm bW)) E4).mono ?_;rintro r w9⟨rfl,DE⟩;have B9:=ag (aj bW DE);clear DE;go_wp2;go_ret;exact⟨rfl,B9⟩}}}
def bD1(k:Nat)(S:Int)(st:ByteArray)(F:Int)(V:Value)(E G:Int):Value:=match k with
 |1=>.iface 292 (.agg #[])
 |2=>.iface 295 (.agg #[.int .u64 S])
 |3=>.iface 296 (.agg #[.int .u64 S])
 |4=>.iface 298 (.agg #[.int .u64 S,.string st,.bool (F==1),V])
 |5=>.iface 300 (.agg #[.int .u64 S,.string st])
 |6=>.iface 302 (.agg #[.string st])
 |7=>.iface 304 (.agg #[.int .u64 S,.string st,V])
 |8=>.iface 306 (.agg #[.int .u64 S,.string st,.int .i64 F])
 |9=>.iface 307 (.agg #[.int .u64 S,.string st])
 |10=>.iface 309 (.agg #[.int .u64 S,.string st,.int .u64 E,.int .u64 G])
 |11=>.iface 311 (.agg #[.int .u64 S,.string st])
 |12=>.iface 312 (.agg #[.int .u64 S])
 |_=>.iface 313 (.agg #[.string st])
def PK(h1:1<=k)(h2:k<=13)(eP:Le P np)(hP:Hid (Rd w (.S pp np cp) P)):Calls prog 242 #[IE k S (.S pp np cp) F (.S pq nv cv) E G] w (Rb (bD1 k S (aP P) F (.S pq nv cv) E G) w):=by
 have hcv:=λ(o1 o2:Obj)=>dQ (ae eP) (hP.below (((cQ w.heap.size w).alloc ay o1).alloc al o2));have cD5:=λ(o1:Obj)=>dQ eP (hP.below ((cQ w.heap.size w).alloc ay o1))
 let⟨st,est⟩:=aL (aP P)
 simp only[est]at hcv cD5⊢;clear est;have h:k=1\/k=2\/k=3\/k=4\/k=5\/k=6\/k=7\/k=8\/k=9\/k=10\/k=11\/k=12\/k=13:=af;clear h1 h2;rcases h with rfl|rfl|rfl|rfl|rfl|rfl|rfl|rfl|rfl|rfl|rfl|rfl|rfl
 all_goals
  go_in
  go_wp2;go_ret;exact⟨rfl,((cQ w.heap.size w).alloc ay _).alloc al _⟩
def KD.of(h:yB ss ns):KD ns:=λi j a c ha hc e=>by
 have e2:a.path=c.path:=mO (h.n2 a (aT ha)).1 (h.n2 c (aT hc)).1 e;rcases GZ i j with hh|hh|hh;{exact absurd e2 (h.n3 i j a c ha hc hh)};{exact hh};{exact absurd e2.symm (h.n3 j i c a hc ha hh)}
def Gs(h:(List.range ns.length).all (lI e g ss ns)=true)(hi:ns[i]?=some nd):ew e g nd.mode nd.holders.length nd.aE nd.gen=true/\iK ss nd.holders=true/\iK ss nd.watchers=true:=by
 have hl:=(aV.1 hi).1;have:=jw.1 h i (by simpa using hl);unfold lI at this;rw[gj,hi]at this;simp only[sa,fk]at this;exact⟨this.2.2.2.2.2.2,this.2.2.2.2.1,this.2.2.2.2.2.1⟩
def yb{ids:LI}(h:iK ss ids=true):∀x∈ids,∃s∈ss,s.1=x:=λx hx=>by
 let⟨i,hi⟩:=gH.1 hx
 have:=jw.1 h i (by simpa using(aV.1 hi).1);unfold Jo live at this;rw[gj,hi]at this;simp only[sa,fk,Kt]at this
 let⟨s,hs,e⟩:=this.1
 exact⟨s,hs,by simpa using e⟩
def sY(h:ew e g mo nh ep ge=true)(hm:mo=1):nh=1:=by
 unfold ew at h;rw[bO hm]at h;simp at h;exact h.1
def uR(h:ew e g mo nh ep ge=true)(hm:mo≠1):ep=0/\ge=0/\(mo=0->nh=0):=by
 unfold ew at h;rw[bH hm]at h;simp only[fk,MF]at h;refine⟨h.1,h.2.1,λh0=>?_⟩;have:=h.2.2;rw[bO h0]at this;simpa using this
def NT.of(hF:yB ss ns)(h:(List.range ns.length).all (lI e g ss ns)=true)(hi:ns[i]?=some nd)(hw:nd.watchers=[]):NT ss nd:=by
 let⟨a,b,c,d,f,k,m⟩:=hF.n2 nd (aT hi)
 exact⟨a,b,m,by rw[hw];exact iD _,yb (Gs h hi).2.2⟩
def Zv(B:Nat)(w:World)(v:Value)(R:RP):Prop:=∃(p1:OA)(c1:Nat)(p2:OA)(c2:Nat)(p3:OA)(c3:Nat),v=yC R.k R.i R.e R.g R.n (.S p1 R.Oy.length c1) (.S p2 R.nms.length c2) (.S p3 R.Np.length c3)
def Zv.keep(h:Zv B w v R)(hk:∀b,B<=b->b<w.heap.size->w'.heap[b]?=w.heap[b]?)(hz:w.heap.size<=w'.heap.size):Zv B w' v R:=h
def Zv.mono(h:Zv B w v R)(hB:B'<=B):Zv B' w v R:=h
def Zv.num(B:Nat)(w:World)(k i e g n:Int):Zv B w (rpn ⟨k,i,e,g,n,[],[],[]⟩) ⟨k,i,e,g,n,[],[],[]⟩:=⟨none,0,none,0,none,0,rfl⟩
def bs8(w0 w:World)(b bs bn:Nat)(D:SD)(R:RP)(r:Ending)(w':World):Prop:=∃SB NB HB UB v,PS w0 w' b bs bn D SB NB HB UB/\Fr T3 w w'/\r=.returned v/\Zv w.heap.size w' v R
def sA.r{SB NB HB UB:List Nat}{k i n:Int}{r:Ending}(h:sA w0 w b bs bn D SB NB HB UB ⟨k,i,e,g,n,[],[],[]⟩ r w'):bs8 w0 w b bs bn D ⟨k,i,e,g,n,[],[],[]⟩ r w':=⟨SB,NB,HB,UB,_,h.1,h.2.1,h.2.2,Zv.num _ _ _ _ _ _ _⟩
def Whn(C:Int)(P:Prop):Prop:=C=0->P
def ca6(w0 w:World)(b bs bn:Nat)(D D':SD)(R:RP)(C:Int)(r:Ending)(w':World):Prop:=∃SB NB HB UB v,r=.returned (.tuple #[v,Ic C])/\Fr T3 w w'/\PS w0 w' b bs bn (if C=0 then D' else D) SB NB HB UB/\Zv w.heap.size w' v (if C=0 then R else rH)
def Mi{R:Ending->World->Prop}{o0 o1 o2 o3 o4 o5 o6 o7:Value}(hR:Hid (RX Z z [o0,o1,o2,o3,o4,o5,o6,o7]))(hf:fn.results=#[.cell 4 127,.tmp 5])(ha:a.tmps.getD 4 undef=.pointer (some (Ad z 0)))(E:Value)(hE:a.tmps.getD 5 undef=E)(hd:a.defers=[]){v7:Value}(hQ:R (.returned (.tuple #[.agg #[v0,v1,v2,v3,v4,v5,v6,v7],E])) (lu Z z v0 v1 v2 v3 v4 v5 v6 v7)):bodyPost prog fn R .ret a (lu Z z v0 v1 v2 v3 v4 v5 v6 v7):=by
 obtain⟨q0,q1,q2,q3,q4,q5,q6,q7,-⟩:=(hR.put v0 v1 v2 v3 v4 v5 v6 v7).1.cells;generalize lu Z z v0 v1 v2 v3 v4 v5 v6 v7=W at*;refine dJ (v:=.tuple #[.agg #[v0,v1,v2,v3,v4,v5,v6,v7],E]) ?_ hd hQ;have Tr:=ha;have hE':=hE;simp only[aV0]at Tr hE';simp[results,hf,go_sem,Tr,hE',q0,q1,q2,q3,q4,q5,q6,q7]
def aQ5{D':SD}{SB NB HB UB:List Nat}(h:Hid (PS w0 w b bs bn D SB NB HB UB)){C0 C1:Int}(eC:Hid ((if C0=0 then C1 else C0)=C)){fC fA:FuncId}{vC vA:Value}(cD6:Hid (∀w',Bw w w'->Cp 241 #[.pointer (some (Ad b 0)),IE K S (.S pp np cp) F (.S pq nv cv) E G] w' λr w''=>r=.returned (Ic C0)/\Bw w' w''))(cx0:Hid (Whn C0 (∀w',Bw w w'->Cp 242 #[IE K S (.S pp np cp) F (.S pq nv cv) E G] w' λr w''=>r=.returned (.iface ty v)/\Bw w' w'')))(hmC : ∀w,(Go.method 478 ty v "loop.example/s02132/impl.check").run prog w = .ok (fC,vC) w)(hmA : ∀w,(Go.method 478 ty v "loop.example/s02132/impl.act").run prog w = .ok (fA,vA) w)(hfC:∀vs w,(callFunc fC vs).run prog w=.ok (.enter fC vs) w)(hfA:∀vs w,(callFunc fA vs).run prog w=.ok (.enter fA vs) w)(cD7:Hid (Whn C0 (∀w',Bw w w'->Calls prog fC #[vC,.pointer (some (Ad b 0))] w' λr w''=>r=.returned (Ic C1)/\Bw w' w'')))(cF7:Hid (Whn C0 (Whn C1 (∀w',Bw w w'->Calls prog fA #[vA,.pointer (some (Ad b 0))] w' (bs8 w0 w' b bs bn D' R))))):Calls prog 211 #[.pointer (some (Ad b 0)),IE K S (.S pp np cp) F (.S pq nv cv) E G] w (ca6 w0 w b bs bn D D' R C):=by
 let⟨X,hX,bX,zX,CX,gX⟩:=au w #[.I K,.U S,.S pp np cp,.I F,.S pq nv cv,.U E,.U G] 121
 let⟨Y,hY,bY,zY,RY⟩:=rE X (.I 0) (.U 0) (.U 0) (.U 0) (.I 0) aq aq aq
 rw[zX]at RY;have bW:=aj bX bY;have HA:=ag (λ(u:World)(hu:Bw Y u)=>ai (aj bW hu) (ai ((CX.below af bY).below af hu) (RY.below hu)));have BY0:=ag (cQ Y.heap.size Y);have HC:=ag (ai hmC (ai hmA (ai hfC hfA)));have OE:=h.be.size;have HZ:=ag zY
 go_in
 go_wp2_with fail;rw[<-hX,<-hY];refine(ae cD6 Y (ae HA Y BY0).1).mono ?_;rintro r w1⟨rfl,aG⟩
 let⟨b1,IA,R1⟩:=ae HA w1 aG
 have o0:=IA.1 0 _ rfl;have o1:=IA.1 1 _ rfl;have o2:=IA.1 2 _ rfl;have o3:=IA.1 3 _ rfl;have o4:=IA.1 4 _ rfl;have o5:=IA.1 5 _ rfl;have o6:=IA.1 6 _ rfl;have B1:=ag aG;have qW:=ag b1;have Ob:=ag R1;by_cases hC0:C0=0;{
 have e0:Ic C0=.nilIface:=by rw[hC0];rfl
 rw[e0];have H0:=ag hC0;have Zb:C1=C:=by have:=ae eC;rwa [bO hC0]at this
 subst Zb;go_wp2_with fail;refine(ae cx0 H0 w1 qW).mono ?_;rintro r w2⟨rfl,aK⟩;have B2:=ag (aj B1 aK);have AO:=ag (aj qW aK)
 let⟨mC,mA,qC,qA⟩:=ae HC
 go_wp2_with fail;refine(ae cD7 H0 w2 AO).mono ?_;rintro r w3⟨rfl,br⟩;have B3:=ag (aj B2 br);have AM:=ag (aj AO br);by_cases hC1:C1=0;{
 have e1:Ic C1=.nilIface:=by rw[hC1];rfl
 rw[e1];have H1:=ag hC1;go_wp2_with fail;refine(ae cF7 H0 H1 w3 AM).mono ?_;rintro r w4⟨SB',NB',ZE,UB',v4,P4,F4,rfl,L4⟩;have L4':=L4;obtain⟨p1,c1,p2,c2,p3,c3,A1,A2,A3,rfl,-⟩:=L4';have R4:=(ae HA w3 B3).2.2.fr F4
 let⟨r0,r1,r2,r3,r4,r5,r6,r7,rf⟩:=R4.cells
 have HR4:=ag R4;have HP4:=ag (ai P4 (ai F4 L4))
 let⟨n1,Ox⟩:=aL R.Oy.length
 let⟨n2,Vw⟩:=aL R.nms.length
 let⟨n3,en3⟩:=aL R.Np.length
 rw[Ox,Vw,en3]at HP4⊢;go_wp2;have z3:=AM.size;have z4:=HP4.2.1.1;have zz:=ae HZ;have zB:=B3.size;refine Mi HR4 bg rfl .nilIface rfl rfl ⟨SB',NB',ZE,UB',_,by rw[ae H1];rfl,((Fr.below (T:=T3) (ae AM)).trans HP4.2.1).low ((dm (b:=w.heap.size+1)).mono af),?_,?_⟩;{rw[bO (ae H1)];exact PS.rep HP4.1 HR4 af _ _ _ _ _ _ _ _};{rw[bO (ae H1)];exact(HP4.2.2.keep (λz h1 _=>Ka af) (dm).size).mono af}};{
 have e1:Ic C1=.iface 288 (.agg #[.I C1]):=by rw[Ic,bH hC1]
 rw[e1];have H1:=ag hC1;obtain⟨-,-,R3⟩:=ae HA w3 B3
 let⟨r0,r1,r2,r3,r4,r5,r6,r7,rf⟩:=R3.cells
 have JK:=ag R3;go_wp2;have z3:=AM.size;refine Mi JK bg rfl (.iface 288 (.agg #[.I C1])) rfl rfl ⟨SB,NB,HB,UB,_,by rw[Ic,bH (ae H1)],(Fr.below (T:=T3) (ae AM)).low ((dm).mono af),?_,?_⟩;{rw[bH (ae H1)];exact PS.rep (h.below AM) JK af _ _ _ _ _ _ _ _};{rw[bH (ae H1)];exact Zv.num _ _ _ _ _ _ _}}};{
 have eV:Ic C0=.iface 288 (.agg #[.I C0]):=by rw[Ic,bH hC0]
 rw[eV];have H1:=ag hC0;have Zb:C0=C:=by have:=ae eC;rwa [bH hC0]at this
 subst Zb
 let⟨r0,r1,r2,r3,r4,r5,r6,r7,rf⟩:=Ob.cells
 go_wp2;have z3:=qW.size;refine Mi Ob bg rfl (.iface 288 (.agg #[.I C0])) rfl rfl ⟨SB,NB,HB,UB,_,by rw[Ic,bH (ae H1)],(Fr.below (T:=T3) (ae qW)).low ((dm).mono af),?_,?_⟩;{rw[bH (ae H1)];exact PS.rep (h.below qW) Ob af _ _ _ _ _ _ _ _};{rw[bH (ae H1)];exact Zv.num _ _ _ _ _ _ _}}
def PG(h:(List.range ss.length).all (mF x ss)=true){s:aQ}(hs:s∈ss):1<=s.1/\s.1<=x/\kK s.2.2=true:=by
 let⟨i,hi⟩:=gH.1 hs
 have:=jw.1 h i (by simpa using(aV.1 hi).1);unfold mF at this;rw[gj,hi]at this;simp only[sa,fk,jj]at this;exact⟨this.1,this.2.1,this.2.2.2.2.2⟩
def Fm.of(hF:yB ss ns)(h:(List.range ss.length).all (mF x ss)=true):Fm ss:=
 ⟨hF.s1,λs hs=>(hF.s2 s hs).1,λs hs=>by have:=(PG h hs).2.2;unfold kK at this;simp only[fk,jj]at this;exact this.1⟩
def ah5(h:(List.range ns.length).all (lI e g ss ns)=true)(hi:ns[i]?=some nd):vp nd.path=true:=by
 have:=jw.1 h i (by simpa using(aV.1 hi).1);unfold lI at this;rw[gj,hi]at this;simp only[sa,fk]at this;exact this.1.1
def WF.of(h:kG e g x t ss ns=true)(hF:yB ss ns)(g0:0<=g)(x0:0<=x)(hw:∀nd∈ns,nd.watchers=[]):WF ⟨e,g,x,t,ss,ns⟩:=by
 unfold kG at h;simp only[fk,jj]at h;obtain⟨⟨h1,h2,h3,h4,h5,h6,h7⟩,hS,hN⟩:=h;refine⟨⟨g0,h2⟩,⟨x0,h3⟩,⟨h4,h5⟩,λnd bu=>?_,λnd bu=>?_,λnd bu=>(hF.n2 nd bu).2.2.1,λnd bu hm=>?_,λi j a c ha hc e2=>?_⟩;{obtain⟨a,b,c,d,f,-⟩:=hF.n2 nd bu;exact⟨b,by rw[hw nd bu];exact iD _,d⟩};{
 let⟨i,hi⟩:=gH.1 bu
 exact⟨ah5 hN hi,(hF.n2 nd bu).1,(hF.n2 nd bu).2.1⟩};{
 let⟨i,hi⟩:=gH.1 bu
 intro e0;have:=sY (Gs hN hi).1 hm;rw[e0]at this;cases this};{rcases GZ i j with hh|hh|hh;{exact absurd e2 (hF.n3 i j a c ha hc hh)};{exact hh};{exact absurd e2.symm (hF.n3 j i c a hc ha hh)}}
def N8(w:World):Prop:=∀k:Nat,1<=k->k<=13->xD w 1 (k*7) (rowOf k).1 (rowOf k).2.1 (rowOf k).2.2.1 (rowOf k).2.2.2.1 (rowOf k).2.2.2.2.1 (rowOf k).2.2.2.2.2.1 (rowOf k).2.2.2.2.2.2
structure GD(D:SD):Prop where
 wf:WF D
 ci:CI D.ss D.ns
 pw:(D.ns.map λnd=>rD nd.path).Pairwise (·<·)
 ho:∀nd∈D.ns,(nd.mode=1->nd.holders.length=1)/\(nd.mode≠1->nd.aE=0/\nd.gen=0/\(nd.mode=0->nd.holders.length=0))
 sx:∀s∈D.ss,s.1<=D.x
 ql:∀s∈D.ss,s.2.2.length<=1048576/\∀e∈s.2.2,e.2.length<=1048576
 wl:∀nd∈D.ns,nd.watchers.length<=1048576
 sl:D.ss.length<1048576
 nl:D.ns.length<1048576
def GD.of(h:kG e g x t ss ns=true)(hF:yB ss ns)(g0:0<=g)(x0:0<=x)(hw:∀nd∈ns,nd.watchers=[]):GD ⟨e,g,x,t,ss,ns⟩:=by
 have h':=h;unfold kG at h';simp only[fk,jj]at h';obtain⟨⟨-,-,-,-,-,l1,l2⟩,a1,a2⟩:=h';refine⟨WF.of h hF g0 x0 hw,⟨Fm.of hF a1,λnd bu=>?_,KD.of hF⟩,hF.n1,λnd bu=>?_,λs hs=>(PG a1 hs).2.1,λs hs=>(hF.s2 s hs).2,λnd bu=>(hF.n2 nd bu).2.2.2.2.1,by show ss.length<_;omega,by show ns.length<_;omega⟩;{
 let⟨i,hi⟩:=gH.1 bu
 exact⟨NT.of hF a2 hi (hw nd bu),(hF.n2 nd bu).2.2.2.2.2.1,(hF.n2 nd bu).2.2.2.1⟩};{
 let⟨i,hi⟩:=gH.1 bu
 obtain⟨q1,-⟩:=Gs a2 hi;exact⟨λhm=>sY q1 hm,λhm=>uR q1 hm⟩}
structure Tc(w0 w:World)(b bs bn:Nat)(D:SD)(SB NB HB UB:List Nat)(S F E G:Int)(pp:OA)(np cp:Nat)(pq:OA)(nv cv:Nat)(P V:LI):Prop where
 ps:PS w0 w b bs bn D SB NB HB UB
 gd:GD D
 hS:0<=S/\S<2^64
 eP:P.length=np
 eV:V.length=nv
 hP:Rd w (.S pp np cp) P
 hV:AB w0 w (.S pq nv cv) V
 hB:aN P
 hp:np<=1048576
 jt:np<=cp
 ku:cp<=maxLen
 hm:∃m,w.cell? (Ad 0 0)=some (.I m)
 hT:N8 w
def Tc.below{SB NB HB UB:List Nat}(h:Tc w0 w b bs bn D SB NB HB UB S F E G pp np cp pq nv cv P V)(hb:Bw w w'):Tc w0 w' b bs bn D SB NB HB UB S F E G pp np cp pq nv cv P V:=
 ⟨h.ps.below hb,h.gd,h.hS,h.eP,h.eV,h.hP.below hb,h.hV.fr (aO hb) al,h.hB,h.hp,h.jt,h.ku,by obtain⟨m,hm⟩:=h.hm;exact⟨m,ah hm hb⟩,λk h1 h2=>(h.hT k h1 h2).below hb⟩
theorem Ql:Th ns P<0↔gS ns P=none:=by
 constructor;{
 intro h;cases hn:gS ns P with
 |none=>rfl
 | some nd=>
  exfalso;unfold Th at h;cases hf:ns.findIdx? (λnd=>decide (nd.path=P))with
  |some i=>rw[hf]at h;simp at h;omega
  |none=>
   have h1:=WO.1 hf nd (WS hn);have h2:=QG hn;rw[h1]at h2;cases h2};{
 intro h;rw[Qm h]
 decide}
theorem aR3(h1:1<=k)(h2:k<=13)(eC:yx D (rowOf k).1 (rowOf k).2.1 (Fg k S F P.length V.length E G) k S P=C)(hC:C≠0):fx D k S F E G P V=(D,AV C):=by
 have hf:fmI k S F P.length V.length E G=Fg k S F P.length V.length E G:=by rw[fmI,bO af,sS]
 unfold fx;rw[hf];cases hB:Fg k S F P.length V.length E G with
 |false=>
  rw[hB]at eC;simp only[yx,pM]at eC;rw[bO rfl,eC]
 |true=>
  rw[hB]at eC;rw[bH al];by_cases hs:(rowOf k).1=true/\xM D.ss S<0;{
 have e3:C=3:=by rw[<-eC];simp[yx,hs]
 rcases kinds h1 h2 with rfl|rfl|rfl|rfl|rfl|rfl|rfl|rfl|rfl|rfl|rfl|rfl|rfl<;>simp_all[rowOf,ZO]}
  {
 have e4:(if(rowOf k).2.1=true then tK D k P else 0)=C:=by rw[<-eC];simp only[yx,Bool.true_eq_false,Cb,hs]
 clear eC hf hB;subst e4;unfold yX;rcases kinds h1 h2 with rfl|rfl|rfl|rfl|rfl|rfl|rfl|rfl|rfl|rfl|rfl|rfl|rfl<;>simp only[rowOf,tK,ndK,rR]at hC hs⊢<;>by_cases hr:P=[47]<;>cases hv:vp P<;>cases hn:gS D.ns P<;>simp_all[Ql,ZO]<;>(intros;omega)}
theorem Sk{B:Bool}(h:yx D se pa B K S P=0):B=true/\(se=true->¬xM D.ss S<0)/\(pa=true->tK D K P=0):=by
 unfold yx at h;cases B with
 |false=>simp at h
 |true=>
  refine⟨rfl,λe hs=>?_,λe=>?_⟩;{simp[e,hs]at h};{by_cases hs:se=true/\xM D.ss S<0;{simp[hs]at h};{simpa[hs,e]using h}}
def Og(w0 w:World)(b bs bn:Nat)(D:SD)(A:SD×RP)(r:Ending)(w':World):Prop:=∃D' R C,ca6 w0 w b bs bn D D' R C r w'/\(A=if C=0 then(D',R)else(D,AV C))/\(C=0->R.k=0)
def qj{SB NB HB UB:List Nat}(cx:Tc w0 w b bs bn D SB NB HB UB S F E G pp np cp pq nv cv P V)(k:Nat)(C1:Int)(D':SD)(R:RP)(ty:TypeId)(v:Value)(fC fA:FuncId)(vC:Value)(iI:yx D (rowOf k).1 (rowOf k).2.1 (Fg k S F P.length V.length E G) k S P=0->(∀w',Tc w0 w' b bs bn D SB NB HB UB S F E G pp np cp pq nv cv P V->Calls prog fC #[vC,.pointer (some (Ad b 0))] w' λr w''=>r=.returned (Ic C1)/\Bw w' w'')∧
   (C1=0->∀w',Tc w0 w' b bs bn D SB NB HB UB S F E G pp np cp pq nv cv P V->Calls prog fA #[v,.pointer (some (Ad b 0))] w' (bs8 w0 w' b bs bn D' R))/\fx D k S F E G P V=if C1=0 then(D',R)else(D,AV C1))(h1:1<=k:=by decide)(h2:k<=13:=by decide)(hq:bD1 k S (aP P) F (.S pq nv cv) E G=.iface ty v:=by rfl)(hmC : ∀w,(Go.method 478 ty v "loop.example/s02132/impl.check").run prog w = .ok (fC,vC) w:=by(intro w;kernel_rfl))(hmA : ∀w,(Go.method 478 ty v "loop.example/s02132/impl.act").run prog w = .ok (fA,v) w:=by(intro w;kernel_rfl))(hfC:∀vs w,(callFunc fC vs).run prog w=.ok (.enter fC vs) w:=by(intro vs w;kernel_rfl))(hfA:∀vs w,(callFunc fA vs).run prog w=.ok (.enter fA vs) w:=by(intro vs w;kernel_rfl))(hRk:C1=0->R.k=0:=by(intro _;rfl)):Cp 211 #[.pointer (some (Ad b 0)),IE k S (.S pp np cp) F (.S pq nv cv) E G] w (Og w0 w b bs bn D (fx D k S F E G P V)):=by
 let⟨C0,eC0⟩:=aL (yx D (rowOf k).1 (rowOf k).2.1 (Fg k S F P.length V.length E G) k S P)
 rw[eC0]at iI;refine(aQ5 cx.ps (ag rfl) (λw' hb=>?_) (λ_ w' hb=>?_) hmC hmA hfC hfA (λhC w' hb=>(iI hC).1 w' (cx.below hb)) (λhC hC1 w' hb=>(iI hC).2.1 hC1 w' (cx.below hb))).mono λr w' hr=>⟨D',R,_,hr,?_,λhC=>hRk (by split at hC<;>omega)⟩;{have c:=cx.below hb;exact ax6 c.ps (λnd bu=>(c.gd.wf.pb nd bu).2.1) h1 h2 c.hS c.eP c.hP c.hB c.hp c.jt c.ku c.hm (c.hT k h1 h2) (ag rfl) (by show _=_;rw[<-eC0,c.eP,c.eV];rfl)};{have c:=cx.below hb;have:=PK h1 h2 (S:=S) (F:=F) (E:=E) (G:=G) (pq:=pq) (nv:=nv) (cv:=cv) c.eP c.hP;rw[hq]at this;exact this};{by_cases hC:C0=0;{rw[(iI hC).2.2,bO hC]};{rw[bH hC,bH hC];exact aR3 h1 h2 eC0 hC}}
section
variable {w0 w:World}{b bs bn:Nat}{D:SD}{SB NB HB UB:List Nat}{S F E G:Int}{pp:OA}{np cp:Nat}{pq:OA}{nv cv:Nat}{P V:LI}
variable {k:Nat}
def Nn(h1:1<=k)(h2:k<=13)(hB:Fg k S F P.length V.length E G=true):¬fmI k S F P.length V.length E G=false:=by
 rw[fmI,bO af,sS,hB];simp
theorem bd9(h:¬xM D.ss S<0):∃(i:Nat)(s:aQ),xM D.ss S=i/\D.ss[i]?=some s/\s.1=S:=by
 unfold xM at h⊢;cases hf:D.ss.findIdx? (λs=>s.1==S)with
 |none=>rw[hf]at h;simp at h
 |some i=>
  obtain⟨h1,h2,-⟩:=Di.1 hf;exact⟨i,_,rfl,aY h1,by simpa using h2⟩
theorem be9(h:gS D.ns P≠none):∃(i:Nat)(nd:aD),Th D.ns P=i/\D.ns[i]?=some nd/\nd.path=P/\gS D.ns P=some nd:=by
 have hn:¬Th D.ns P<0:=λe=>h (Ql.1 e);unfold Th at hn⊢;cases hf:D.ns.findIdx? (λnd=>decide (nd.path=P))with
 |none=>rw[hf]at hn;simp at hn
 |some i=>
  let⟨h1,h2,h3⟩:=Di.1 hf
  refine⟨i,_,rfl,aY h1,by simpa using h2,?_⟩;rw[gS,List.find?_eq_some_iff_getElem];exact⟨by simpa using h2,i,h1,rfl,λj hj=>by have:=h3 j hj;simpa using this⟩
def ay3(cx:Tc w0 w b bs bn D SB NB HB UB S F E G pp np cp pq nv cv P V):Calls Tryz.prog 211 #[.pointer (some (Ad b 0)),IE (1:Nat) S (.S pp np cp) F (.S pq nv cv) E G] w (Og w0 w b bs bn D (fx D (1:Nat) S F E G P V)):=by
 refine qj cx 1 (zk D) _ _ 292 (.agg #[]) 320 319 (.agg #[]) (λh0=>⟨λw' c=>aI2 c.ps (ag rfl),λhC w' c=>(aI3 c.ps ⟨c.gd.wf.x.1,(Kc hC).2.2⟩ c.gd.wf.t (λs hs e=>aI (c.gd.sx s hs)) c.gd.sl).mono λr w''⟨gN,h⟩=>sA.r h,?_⟩);have e:fx D (1:Nat) S F E G P V=pL D:=by unfold fx;rw[bH (Nn bj bj (Sk h0).1),bO bj]
 rw[e];by_cases hC:zk D=0;{
 rw[bO hC,(Kc hC).1]
 rfl}
 {rw[bH hC,ag9 hC]}
def vj(h4:4<=k)(h2:k<=13)(h12:k≠12)(h0:yx D (rowOf k).1 (rowOf k).2.1 (Fg k S F P.length V.length E G) k S P=0):fx D k S F E G P V=yX D k S F E G P V:=by
 obtain⟨hB,hs,-⟩:=Sk h0;have Ho:¬((ZO k&&decide (xM D.ss S<0))=true):=by clear h0 hB;rcases kinds af h2 with rfl|rfl|rfl|rfl|rfl|rfl|rfl|rfl|rfl|rfl|rfl|rfl|rfl<;>simp_all[ZO,rowOf]
 unfold fx;rw[bH (Nn af h2 hB),bH af,bH Ho,bH af,bH af,bH af]
variable {K:Int}
theorem aT4(h:tK D K P=0):rR K P=true\/(rR K P=false/\vp P=true/\(ndK K=true->gS D.ns P≠none)):=by
 unfold tK at h;cases hr:rR K P with
 |true=>exact .inl rfl
 | false=>
  refine .inr ⟨rfl,?_⟩;rw[hr]at h;cases hv:vp P with
  |false=>rw[hv]at h;simp at h
  |true=>
   refine⟨rfl,λe1 e2=>?_⟩;rw[hv]at h;simp[e1,e2]at h
def Mf(h:K≠13):rR K P=false:=by simp[rR,h]
def vH(hk:k=5\/k=6\/k=7\/k=8\/k=9\/k=11)(h:tK D k P=0):∃(i:Nat)(nd:aD),D.ns[i]?=some nd/\nd.path=P/\yX D k S F E G P V=xg D i k S F V:=by
 have h13:(k:Int)≠13:=af;rcases aT4 h with hr|⟨hr,hv,hn⟩;{rw[Mf h13]at hr;cases hr};{obtain⟨i,nd,e1,e2,e3,-⟩:=be9 (hn (by rcases hk with rfl|rfl|rfl|rfl|rfl|rfl<;>rfl));refine⟨i,nd,e2,e3,?_⟩;unfold yX;rw[hr,hv,bH al,bH af,bH af,bH bq,bH h13,e1,sS]}
def Zp(cx:Tc w0 w b bs bn D SB NB HB UB S F E G pp np cp pq nv cv P V):Calls Tryz.prog 211 #[.pointer (some (Ad b 0)),IE (3:Nat) S (.S pp np cp) F (.S pq nv cv) E G] w (Og w0 w b bs bn D (fx D (3:Nat) S F E G P V)):=by
 refine qj cx 3 0 (jA D S) rH 296 (.agg #[.U S]) 321 323 (.agg #[]) (λh0=>?_);obtain⟨hB,hs,-⟩:=Sk h0;have Ho:=hs rfl
 let⟨i,s,e1,e2,e3⟩:=bd9 Ho
 refine⟨λw' c=>ac1 rfl,λ_ w' c=>?_,?_⟩;{have hk:=ay0 c.ps c.gd.ci c.gd.pw e2 (ag rfl) (WU c.gd.nl);rw[e3]at hk;exact hk.mono λr w''⟨_,_,_,_,h⟩=>sA.r h};{unfold fx;rw[bH (Nn bj bj hB),Cy,bH (by simp;intro _;omega),Cy,bO bj,bO rfl]}
end
section
variable {w0 w:World}{b bs bn:Nat}{D:SD}{SB NB HB UB:List Nat}{S F E G:Int}{pp:OA}{np cp:Nat}{pq:OA}{nv cv:Nat}{P V:LI}
def VQ(cx:Tc w0 w b bs bn D SB NB HB UB S F E G pp np cp pq nv cv P V):Cp 211 #[.pointer (some (Ad b 0)),IE (5:Nat) S (.S pp np cp) F (.S pq nv cv) E G] w (Og w0 w b bs bn D (fx D (5:Nat) S F E G P V)):=by
 by_cases h0:yx D (rowOf 5).1 (rowOf 5).2.1 (Fg 5 S F P.length V.length E G) (5:Nat) S P=0;{
 let⟨hB,hs,hp⟩:=Sk h0
 obtain⟨i,nd,e2,rfl,e4⟩:=vH (k:=5) (S:=S) (F:=F) (E:=E) (G:=G) (V:=V) (.inl rfl) (hp rfl);have iV:=aT e2;have eA:=(vj bj bj bj h0).trans e4;have gd:=cx.gd
 let⟨nt,nh,nl⟩:=gd.ci.nt nd iV
 have rz:=nt.pl;refine qj cx 5 (aP7 D nd S) (Tf (dW D i 2) i) rH 300 (.agg #[.U S,.string (aP nd.path)]) 334 333 (.agg #[.U S,.string (aP nd.path)]) (λ_=>⟨λw' c=>Zf c.ps c.gd.pw (λnd bu=>⟨(c.gd.wf.pb nd bu).2.1,(c.gd.wf.pb nd bu).2.2⟩) e2 c.hS (ag rfl),λhC w' c=>(Zg c.ps e2 c.gd.ci.so nt c.gd.ci.kd (id:=S)).mono λr w'' h=>sA.r h,?_⟩);rw[eA];unfold xg;simp only[e2];rw[bO bj];unfold aP7;by_cases q1:jH D.ns nd.path=[];{by_cases q2:mV nd S=false<;>simp[q1,q2]}
 {simp[q1]}};{exact qj cx 5 0 D rH 300 (.agg #[.U S,.string (aP P)]) 334 333 (.agg #[.U S,.string (aP P)]) (λh=>absurd h h0)}
def aQ6(cx:Tc w0 w b bs bn D SB NB HB UB S F E G pp np cp pq nv cv P V):Cp 211 #[.pointer (some (Ad b 0)),IE (7:Nat) S (.S pp np cp) F (.S pq nv cv) E G] w (Og w0 w b bs bn D (fx D (7:Nat) S F E G P V)):=by
 by_cases h0:yx D (rowOf 7).1 (rowOf 7).2.1 (Fg 7 S F P.length V.length E G) (7:Nat) S P=0;{
 let⟨hB,hs,hp⟩:=Sk h0
 obtain⟨i,nd,e2,rfl,e4⟩:=vH (k:=7) (S:=S) (F:=F) (E:=E) (G:=G) (V:=V) (.inr (.inr (.inl rfl))) (hp rfl);have iV:=aT e2;have eA:=(vj bj bj bj h0).trans e4;have gd:=cx.gd
 let⟨nt,nh,nl⟩:=gd.ci.nt nd iV
 have rz:=nt.pl;refine qj cx 7 (ae4 nd S) (dW {D with ns:=D.ns.set i {nd with value:=V}} i 1) rH 304 (.agg #[.U S,.string (aP nd.path),.S pq nv cv]) 338 337 (.agg #[.U S,.string (aP nd.path),.S pq nv cv]) (λ_=>⟨λw' c=>bd7 c.ps e2 rz c.hS (V:=.S pq nv cv) (pv:=pq) (nv:=nv) (cv:=cv) (ag rfl),λhC w' c=>(bd8 c.ps e2 c.gd.ci.so nt (id:=S) c.hV).mono λr w'' h=>sA.r h,?_⟩);rw[eA];unfold xg;simp only[e2];rw[Cy,Cy,bO bj,aG8 (gd.ho nd iV).1];by_cases q1:nd.mode=1/\nd.holders.headD 0≠S
 {rw[bO q1,bO q1];rfl};{rw[bH q1,bH q1];rfl}};{exact qj cx 7 0 D rH 304 (.agg #[.U S,.string (aP P),.S pq nv cv]) 338 337 (.agg #[.U S,.string (aP P),.S pq nv cv]) (λh=>absurd h h0)}
def ay4(cx:Tc w0 w b bs bn D SB NB HB UB S F E G pp np cp pq nv cv P V):Cp 211 #[.pointer (some (Ad b 0)),IE (8:Nat) S (.S pp np cp) F (.S pq nv cv) E G] w (Og w0 w b bs bn D (fx D (8:Nat) S F E G P V)):=by
 by_cases h0:yx D (rowOf 8).1 (rowOf 8).2.1 (Fg 8 S F P.length V.length E G) (8:Nat) S P=0;{
 let⟨hB,hs,hp⟩:=Sk h0
 obtain⟨i,nd,e2,rfl,e4⟩:=vH (k:=8) (S:=S) (F:=F) (E:=E) (G:=G) (V:=V) (.inr (.inr (.inr (.inl rfl)))) (hp rfl);have iV:=aT e2;have eA:=(vj bj bj bj h0).trans e4;have gd:=cx.gd
 let⟨nt,nh,nl⟩:=gd.ci.nt nd iV
 have rz:=nt.pl;have hF:F=1\/F=2:=by simp only[Fg,rowOf,fmF,fk,jj]at hB;omega
 refine qj cx 8 (nL D nd S F) (sc D i S F).1 (sc D i S F).2 306 (.agg #[.U S,.string (aP nd.path),.I F]) 340 339 (.agg #[.U S,.string (aP nd.path),.I F]) (λ_=>⟨λw' c=>aJ6 c.ps e2 rz c.hS hF (ag rfl),?_,?_⟩) (hRk:=λhC=>by rcases hF with rfl|rfl;exact tX (λz:SD×RP=>z.2.k) (Kw e2 (λh=>r8.1 (((gd.ho nd iV).2 af).2.2 h)) hC).1;exact tX (λz:SD×RP=>z.2.k) (Kv e2 hC));{
 intro hC w' c;rcases hF with rfl|rfl;{
 let⟨q1,q2⟩:=Kw e2 (λh=>r8.1 (((gd.ho nd iV).2 af).2.2 h)) hC
 rw[q1];exact(am7 c.ps e2 rz nh nl c.hS ⟨gd.wf.g.1,q2⟩).mono λr w'' h=>sA.r h};{
 rw[Kv e2 hC];have EW:nd.mode≠1:=λe=>by unfold nL at hC;rw[bO rfl,bO e]at hC;split at hC<;>omega
 obtain⟨q1,q2,-⟩:=(gd.ho nd iV).2 EW;exact(am6 c.ps e2 rz nh nl c.hS ⟨q1,q2⟩).mono λr w'' h=>sA.r h}};rw[eA];unfold xg;simp only[e2];rw[Cy,Cy,Cy,bO bj];by_cases q1:nL D nd S F=0;{rw[bO q1]};{rw[bH q1,am5 e2 q1]}};{exact qj cx 8 0 D rH 306 (.agg #[.U S,.string (aP P),.I F]) 340 339 (.agg #[.U S,.string (aP P),.I F]) (λh=>absurd h h0)}
def VP(cx:Tc w0 w b bs bn D SB NB HB UB S F E G pp np cp pq nv cv P V):Cp 211 #[.pointer (some (Ad b 0)),IE (9:Nat) S (.S pp np cp) F (.S pq nv cv) E G] w (Og w0 w b bs bn D (fx D (9:Nat) S F E G P V)):=by
 by_cases h0:yx D (rowOf 9).1 (rowOf 9).2.1 (Fg 9 S F P.length V.length E G) (9:Nat) S P=0;{
 let⟨hB,hs,hp⟩:=Sk h0
 obtain⟨i,nd,e2,rfl,e4⟩:=vH (k:=9) (S:=S) (F:=F) (E:=E) (G:=G) (V:=V) (.inr (.inr (.inr (.inr (.inl rfl))))) (hp rfl);have iV:=aT e2;have eA:=(vj bj bj bj h0).trans e4;have gd:=cx.gd
 let⟨nt,nh,nl⟩:=gd.ci.nt nd iV
 have rz:=nt.pl;refine qj cx 9 (if nd.holders.contains S=true then 0 else 10) (dS D i S) rH 307 (.agg #[.U S,.string (aP nd.path)]) 342 341 (.agg #[.U S,.string (aP nd.path)]) (λ_=>⟨λw' c=>XV c.ps e2 rz c.hS (ag rfl),λhC w' c=>by
   have Dy:nd.holders.contains S=true:=by by_cases q:nd.holders.contains S=true;{exact q};{rw[bH q]at hC;omega}
   exact(XW c.ps e2 c.gd.ci.so nt c.hS nh nl Dy).mono λr w'' h=>sA.r h,?_⟩)
 rw[eA];unfold xg;simp only[e2];rw[Cy,Cy,Cy,Cy,bO bj];by_cases q1:nd.holders.contains S=true;{rw[bO q1,bO q1];rfl};{rw[bH q1,bH q1];rfl}};{exact qj cx 9 0 D rH 307 (.agg #[.U S,.string (aP P)]) 342 341 (.agg #[.U S,.string (aP P)]) (λh=>absurd h h0)}
def VR(cx:Tc w0 w b bs bn D SB NB HB UB S F E G pp np cp pq nv cv P V):Cp 211 #[.pointer (some (Ad b 0)),IE (4:Nat) S (.S pp np cp) F (.S pq nv cv) E G] w (Og w0 w b bs bn D (fx D (4:Nat) S F E G P V)):=by
 let⟨j,hj,ej⟩:=Xe (mH P V (if F=1 then S else 0)) D.ns
 refine qj cx 4 (Nz D P) {D with ns:=mQ (mH P V (if F=1 then S else 0)) D.ns} rH 298 (.agg #[.U S,.string (aP P),.bool (F==1),.S pq nv cv]) 332 331 (.agg #[.U S,.string (aP P),.bool (F==1),.S pq nv cv]) (λh0=>⟨λw' c=>Zh c.ps c.hB c.eP c.hp (λnd bu=>(c.gd.wf.pb nd bu).2.1) (id:=S) (F:=F==1) (pv:=pq) (nv:=nv) (cv:=cv) (ag rfl),λhC w' c=>?_,?_⟩);{
 obtain⟨-,me,-⟩:=DO (V:=V) (S:=S) (F:=F) hC;have hA:=Zi c.ps (P:=P) (id:=S) (F:=F==1) c.hV (by show _<=_;rw[c.eP];exact c.hp) (λnd' bu e=>by have e5:=mO (c.gd.wf.pb nd' bu).2.1 c.hB e;have:=QF.1 me nd' bu;simp[e5]at this) c.gd.nl hj
 refine hA.mono λr w''⟨gN,hN,uN,h⟩=>?_;have e6:(if(F==1)=true then S else 0)=if F=1 then S else 0:=by by_cases q:F=1<;>simp[q]
 rw[e6]at h;rw[ej];exact sA.r h};{
 let⟨hB,hs,hp⟩:=Sk h0
 rw[vj bj bj bj h0];have e7:yX D (4:Nat) S F E G P V=my D P V S F:=by rcases aT4 (hp rfl)with hr|⟨hr,hv,-⟩;{rw[Mf bj]at hr;cases hr};{unfold yX;rw[hr,hv,bH al,bO bj]}
 rw[e7];by_cases hC:Nz D P=0;{rw[bO hC,(DO hC).1]};{rw[bH hC,VE hC]}}
variable {K:Int}
def aQ7(hj:K=1\/K=3\/K=4\/K=5\/K=7\/K=8\/K=9)(cx:Tc w0 w b bs bn D SB NB HB UB S F E G pp np cp pq nv cv P V):Cp 211 #[.pointer (some (Ad b 0)),IE K S (.S pp np cp) F (.S pq nv cv) E G] w (Og w0 w b bs bn D (fx D K S F E G P V)):=by
 rcases hj with rfl|rfl|rfl|rfl|rfl|rfl|rfl;{exact ay3 cx};{exact Zp cx};{exact VR cx};{exact VQ cx};{exact aQ6 cx};{exact ay4 cx};{exact VP cx}
end
def bf4(l m:LI):ltB l m=decide (¬rD m<rD l/\rD m≠rD l):=by
 unfold ltB;rw[T.oI,fE,fE];show(!decide (rD m<rD l)&&!(rD m==rD l))=_;by_cases h1:rD m<rD l<;>by_cases h2:rD m=rD l<;>simp[h1,h2]
theorem EU{x:aD}:∀{l:List aD},x∈mQ nd l↔x=nd\/x∈l
 |[]=>by simp[mQ]
 |y::r=>by rw[mQ];split;{simp};{rw[jv,EU,jv];constructor;{rintro(h|h|h);{exact .inr (.inl h)};{exact .inl h};{exact .inr (.inr h)}};{rintro(h|h|h);{exact .inr (.inl h)};{exact .inl h};{exact .inr (.inr h)}}}
def bW4{x:List UInt8}(h1:¬y<x)(h2:y≠x):x<y:=by
 rcases zO (x<y)with h|h;{exact h};{exact absurd (List.le_antisymm h1 h) (λe=>h2 e.symm)}
theorem an9:∀{l:List aD},(l.map λnd=>rD nd.path).Pairwise (·<·)->(∀x∈l,rD x.path≠rD nd.path)->((mQ nd l).map λnd=>rD nd.path).Pairwise (·<·)
 |[],_,_=>by simp[mQ]
 |y::r,h,bS=>by
  rw[iH,zQ]at h;obtain⟨h1,h2⟩:=h;have hy:=bS y al;rw[mQ,bf4];split;{
 rename_i hl
 simp only[jj]at hl;have bf:rD nd.path<rD y.path:=bW4 hl.1 hl.2;rw[iH,iH,zQ,zQ];refine⟨λz hz=>?_,h1,h2⟩;rcases jv.1 hz with rfl|hz;{exact bf};{exact List.lt_trans bf (h1 z hz)}};{
 rename_i hl
 simp only[jj]at hl;have bf:rD y.path<rD nd.path:=aV6 λhh=>hl ⟨hh,hy⟩;rw[iH,zQ];refine⟨λz hz=>?_,an9 h2 (λx hx=>bS x (by simp[hx]))⟩;obtain⟨x,hx,rfl⟩:=iR.1 hz;rcases EU.1 hx with rfl|hx;{exact bf};{exact h1 _ (iR.2 ⟨x,hx,rfl⟩)}}
def aQ8(hl:aN l)(hm:aN m)(h:rD l=rD m):l=m:=mO hl hm (by unfold cL;exact tX Lit.string h)
def SV(x:Int)(s:aQ):Prop:=(1<=s.1/\s.1<=x)/\(0<=s.2.1/\s.2.1<=1000015)/\s.2.2=[]
def qe(ss:List aQ):LI:=ss.map (·.1)
def AW(ns:List aD):List (LI×Int):=ns.map λnd=>(nd.path,nd.owner)
def CP(C:List (LI×Int))(l:LI):Prop:=l=[47]\/(l,0)∈C
structure NV(e g:Int)(I:LI)(C:List (LI×Int))(nd:aD):Prop where
 ep:0<=nd.aE
 vp:vp nd.path=true
 pb:aN nd.path
 cp:CP C (eG nd.path)
 va:nd.value.length<=40
 vb:aN nd.value
 ow:nd.owner=0\/nd.owner∈I
 h1:nd.holders.Pairwise (·<·)
 h2:∀i∈nd.holders,i∈I
 w1:nd.watchers=[]
 w2:∀i∈nd.watchers,i∈I
 lk:ew e g nd.mode nd.holders.length nd.aE nd.gen=true
structure VD(D:SD):Prop where
 e:0<=D.e/\D.e<=2^62
 g:0<=D.g/\D.g<=2^62
 x:0<=D.x/\D.x<=2^62
 t:0<=D.t/\D.t<=1000000
 sl:D.ss.length<=50
 nl:D.ns.length<=200
 s1:(qe D.ss).Pairwise (·<·)
 s2:∀s∈D.ss,SV D.x s
 n1:(D.ns.map λnd=>rD nd.path).Pairwise (·<·)
 n2:∀nd∈D.ns,NV D.e D.g (qe D.ss) (AW D.ns) nd
def WD(hk:ns[k]?=some nd)(hp:nd'.path=nd.path)(ho:nd'.owner=nd.owner):AW (ns.set k nd')=AW ns:=by
 unfold AW;rw[WZ];exact yR (by rw[nG,hk];simp[hp,ho])
def VD.tS(h:VD D)(hk:D.ns[k]?=some nd)(hp:nd'.path=nd.path)(ho:nd'.owner=nd.owner)(hn:NV D.e D.g (qe D.ss) (AW D.ns) nd'):VD {D with ns:=D.ns.set k nd'}:=by
 refine⟨h.e,h.g,h.x,h.t,h.sl,by show(List.set _ _ _).length<=_;rw[pR];exact h.nl,h.s1,h.s2,?_,λy hy=>?_⟩;{
 have e:(D.ns.set k nd').map (λnd=>rD nd.path)=D.ns.map λnd=>rD nd.path:=by have:=tX (List.map rD) (rQ hk hp);rw[sR,sR]at this;exact this
 show List.Pairwise _ (List.map _ (D.ns.set k nd'));rw[e];exact h.n1};{show NV _ _ _ (AW (D.ns.set k nd')) y;rw[WD hk hp ho];rcases QE hy with hy|rfl;{exact h.n2 y hy};{exact hn}}
theorem VD.tell(h:VD D)(k:Nat)(kd:Int):VD (dW D k kd):=by
 unfold dW;cases hk:D.ns[k]? with
 |none=>exact h
 |some nd=>
  have hn:=h.n2 nd (aT hk);simp only;rw[hn.w1];exact h.tS hk rfl rfl ⟨hn.ep,hn.vp,hn.pb,hn.cp,hn.va,hn.vb,hn.ow,hn.h1,hn.h2,rfl,λi hi=>by simp at hi,hn.lk⟩
def Bh(hk:D.ns[k]?=some nd)(kd:Int):∃JS,dW D k kd={D with ss:=JS,ns:=D.ns.set k {nd with watchers:=[]}}/\qe JS=qe D.ss:=by
 unfold dW;rw[hk];exact⟨_,rfl,Bj _ _ _⟩
theorem Ym(ns:List aD)(k:Nat):AW (ns.eraseIdx k)=(AW ns).eraseIdx k:=by
 unfold AW
 induction ns generalizing k with
 |nil=>rfl
 |cons a r ih=>cases k with
  |zero=>rfl
  |succ k=>simp[ih]
def VD.rm(h:VD D)(hk:D.ns[k]?=some nd)(hc:nd.owner≠0\/∀z∈AW D.ns,eG z.1≠nd.path):VD (Tf D k):=by
 refine⟨h.e,h.g,h.x,h.t,h.sl,fu (bE8 (GJ _ _)) h.nl,h.s1,h.s2,h.n1.sublist ((GJ _ _).map _),λy hy=>?_⟩;have hy':=GI hy;have hn:=h.n2 y hy';refine⟨hn.ep,hn.vp,hn.pb,?_,hn.va,hn.vb,hn.ow,hn.h1,hn.h2,hn.w1,hn.w2,hn.lk⟩;rcases hn.cp with e|e;{exact .inl e};{
 refine .inr ?_;show _∈AW (D.ns.eraseIdx k);rw[Ym,aV3]
 let⟨j,hj⟩:=gH.1 e
 refine⟨j,λej=>?_,hj⟩;subst ej;have:(AW D.ns)[j]?=some (nd.path,nd.owner):=by unfold AW;rw[nG,hk];rfl
 rw[this]at hj;simp only[kV,gy]at hj;rcases hc with hc|hc;{exact hc hj.2};{exact hc (y.path,y.owner) (iR.2 ⟨y,hy',rfl⟩) hj.1.symm}}
theorem VD.drop(h:VD D)(k:Nat)(id:Int):VD (dS D k id):=by
 unfold dS;cases hk:D.ns[k]? with
 |none=>exact h
 |some nd=>
  have hn:=h.n2 nd (aT hk);simp only;split;{
 rename_i hc
 split;{exact VD.tell (D:={D with ns:=D.ns.set k {nd with holders:=[],mode:=0,aE:=0,gen:=0}}) (h.tS hk rfl rfl ⟨tL _,hn.vp,hn.pb,hn.cp,hn.va,hn.vb,hn.ow,List.Pairwise.nil,λi hi=>by simp at hi,hn.w1,hn.w2,rfl⟩) k _};{
 rename_i hw
 refine h.tS hk rfl rfl ⟨hn.ep,hn.vp,hn.pb,hn.cp,hn.va,hn.vb,hn.ow,OK hn.h1,λi hi=>hn.h2 i (qY.1 hi).1,hn.w1,hn.w2,?_⟩;show ew D.e D.g nd.mode (qZ nd.holders id).length nd.aE nd.gen=true;have hid:id∈nd.holders:=by simpa using hc
 have cx2:1<=(qZ nd.holders id).length:=by
  cases hq:qZ nd.holders id with
  |nil=>exact absurd hq hw
  |cons a r=>simp
 have m1:nd.mode≠1:=λhm=>by
  have h1:=sY hn.lk hm
  let⟨a,ha⟩:=aV1.1 h1
  rw[ha]at hid hw;simp at hid;subst hid;exact hw (by simp[qZ])
 have hl:=hn.lk;unfold ew at hl⊢;rw[bH m1]at hl⊢;by_cases m0:nd.mode=0;{have:=(uR hn.lk m1).2.2 m0;have:nd.holders=[]:=r8.1 this;rw[this]at hid;simp at hid};{rw[bH m0]at hl⊢;simp only[fk,jj]at hl⊢;exact⟨hl.1,hl.2.1,hl.2.2.1,cx2⟩}}};{exact h}
def Zd(hk:D.ns[k]?=some nd){id:Int}:∃JS lr,dS D k id={D with ss:=JS,ns:=D.ns.set k lr}/\qe JS=qe D.ss/\lr.path=nd.path/\lr.owner=nd.owner/\id∉lr.holders/\(lr.watchers=nd.watchers\/lr.watchers=[]):=by
 unfold dS;rw[hk];simp only;split;{
 split;{
 have hk':(D.ns.set k {nd with holders:=[],mode:=0,aE:=0,gen:=0})[k]?=some {nd with holders:=[],mode:=0,aE:=0,gen:=0}:=bM hk _
 let⟨JS,e,hi⟩:=Bh (D:={D with ns:=D.ns.set k {nd with holders:=[],mode:=0,aE:=0,gen:=0}}) hk' 3
 refine⟨JS,{nd with holders:=[],mode:=0,aE:=0,gen:=0,watchers:=[]},by rw[e];simp only[Km],hi,rfl,rfl,al,.inr rfl⟩};{exact⟨D.ss,_,rfl,rfl,rfl,rfl,λhm=>(qY.1 hm).2 rfl,.inl rfl⟩}};{
 rename_i hc
 exact⟨D.ss,nd,by rw[yR hk],rfl,rfl,rfl,by simpa using hc,.inl rfl⟩}
def bs1(id:Int)(nd:aD):Prop:=nd.owner≠id/\id∉nd.holders
def Mr(id:Int)(ns:List aD):Nat:=ns.countP λnd=>decide (nd.owner=id)
theorem VD.bn8{id:Int}(h0:id≠0):∀(f k:Nat){D:SD},VD D->(∀nd∈D.ns,id∉nd.watchers)->(∀(j:Nat)(nd:aD),j<k->D.ns[j]?=some nd->bs1 id nd)->D.ns.length<=k+f→
  VD (dI id f k D)/\qe (dI id f k D).ss=qe D.ss/\(∀nd∈(dI id f k D).ns,bs1 id nd/\id∉nd.watchers)/\(dI id f k D).ns.length+Mr id (D.ns.drop k)=D.ns.length
 |0,k,D,h,hw,hg,hl=>by
  unfold dI;refine⟨h,rfl,λnd bu=>⟨?_,hw nd bu⟩,?_⟩;{
 let⟨j,hj⟩:=gH.1 bu
 have:=(aV.1 hj).1;exact hg j nd af hj};{
 rw[Ku af]
 rfl}
 | f+1,k,D,h,hw,hg,hl=>by
  unfold dI;cases hk:D.ns[k]? with
  |none=>
   have hle:D.ns.length<=k:=by simpa using hk
   have e:dS D k id=D:=by unfold dS;rw[hk]
   rw[e,hk];dsimp only;refine⟨h,rfl,λnd bu=>⟨?_,hw nd bu⟩,?_⟩;{
 let⟨j,hj⟩:=gH.1 bu
 have:=(aV.1 hj).1;exact hg j nd af hj};{
 rw[Ku hle]
 rfl}
  | some nd=>
   have bf:=(aV.1 hk).1;have hv:=h.drop k id
   let⟨JS,lr,e,hi,e1,e2,e3,e4⟩:=Zd hk (id:=id)
   rw[e]at hv⊢;have mT:(D.ns.set k lr)[k]?=some lr:=bM hk _;have hdr:D.ns.drop k=nd::D.ns.drop (k+1):=(List.jK hk).symm;have hw1:∀y∈D.ns.set k lr,id∉y.watchers:=λy hy=>by
    rcases QE hy with hy|rfl;{exact hw y hy};{
 rcases e4 with e4|e4<;>rw[e4]
 {exact hw nd (aT hk)};{simp}}
   simp only[mT];by_cases ho:lr.owner=id;{
 rw[bO ho]
 let⟨ss2,eT,hi2⟩:=Bh (D:={D with ss:=JS,ns:=D.ns.set k lr}) mT 2
 have hvT:=VD.tell (D:={D with ss:=JS,ns:=D.ns.set k lr}) hv k 2;rw[eT]at hvT⊢;simp only[Km]at hvT⊢;have uW:(D.ns.set k {lr with watchers:=[]})[k]?=some {lr with watchers:=[]}:=bM hk _;have hvR:=VD.rm hvT (nd:={lr with watchers:=[]}) uW (.inl (by show lr.owner≠0;rw[ho];exact h0));have hns:(Tf {D with ss:=ss2,ns:=D.ns.set k {lr with watchers:=[]}} k).ns=D.ns.eraseIdx k:=by show(D.ns.set k _).eraseIdx k=_;exact List.eraseIdx_set_eq
 have hlen:(D.ns.eraseIdx k).length=D.ns.length-1:=List.length_eraseIdx_of_lt bf
 let⟨q1,q2,q3,q4⟩:=VD.bn8 h0 f k hvR (λy hy=>by
  rw[hns]at hy;exact hw y (GI hy)) (λj y hj hy=>by
  rw[hns,List.getElem?_eraseIdx_of_lt hj]at hy;exact hg j y hj hy) (by rw[hns,hlen];omega)
 refine⟨q1,q2.trans (hi2.trans hi),q3,?_⟩;rw[hns,hlen,Ik bf]at q4;rw[hdr,Mr,List.countP_cons_of_pos (by simp[<-e2,ho]),<-Mr];omega};{
 rw[bH ho]
 let⟨q1,q2,q3,q4⟩:=VD.bn8 h0 f (k+1) hv hw1 (λj y hj hy=>by
  change(D.ns.set k lr)[j]?=some y at hy
  rw[vX]at hy;by_cases ej:k=j;{subst ej;rw[bO rfl,bO bf]at hy;cases hy;exact⟨ho,e3⟩};{rw[bH ej]at hy;exact hg j y af hy}) (by show(List.set _ _ _).length<=_;rw[pR];omega)
 refine⟨q1,q2.trans hi,q3,?_⟩;have e5:(D.ns.set k lr).drop (k+1)=D.ns.drop (k+1):=by rw[List.drop_set_of_lt af]
 simp only[e5,pR]at q4;rw[hdr,Mr,List.countP_cons_of_neg (by simp[<-e2,ho]),<-Mr];exact q4}
def Mw{id:Int}:qe (Ys id ss)=(qe ss).filter λi=>!(i==id):=by
 unfold qe Ys;rw[List.filter_map]
 rfl
def VD.close(h:VD D){id:Int}(h0:id≠0):VD (jA D id)/\qe (jA D id).ss=(qe D.ss).filter (λi=>!(i==id))/\(∀nd∈(jA D id).ns,bs1 id nd/\id∉nd.watchers)/\(jA D id).ns.length+Mr id D.ns=D.ns.length:=by
 have hcw:VD {D with ns:=D.ns.map (IM id)}:=by
  have ep:AW (D.ns.map (IM id))=AW D.ns:=by unfold AW;rw[sR];rfl
  refine⟨h.e,h.g,h.x,h.t,h.sl,by show(List.map _ _).length<=_;rw[fN];exact h.nl,h.s1,h.s2,by show List.Pairwise _ (List.map _ (D.ns.map (IM id)));rw[sR];exact h.n1,λy hy=>?_⟩;obtain⟨z,hz,rfl⟩:=iR.1 hy;have hn:=h.n2 z hz;show NV _ _ _ (AW (D.ns.map (IM id))) _;rw[ep];exact⟨hn.ep,hn.vp,hn.pb,hn.cp,hn.va,hn.vb,hn.ow,hn.h1,hn.h2,(by show qZ z.watchers id=[];rw[hn.w1];rfl),λi hi=>hn.w2 i (qY.1 hi).1,hn.lk⟩
 let⟨q1,q2,q3,q4⟩:=VD.bn8 h0 D.ns.length 0 hcw (λy hy=>by obtain⟨z,hz,rfl⟩:=iR.1 hy;exactλhm=>(qY.1 hm).2 rfl) (λj y hj=>af) (by show(List.map _ _).length<=_;rw[fN];omega)
 refine⟨?_,(Mw).trans (by rw[q2]),q3,?_⟩;{
 refine⟨q1.e,q1.g,q1.x,q1.t,fu (QD _ _) q1.sl,q1.nl,?_,λs hs=>q1.s2 s (Ko.1 hs).1,q1.n1,λy hy=>?_⟩;{show List.Pairwise _ (qe (Ys id _));rw[Mw];exact q1.s1.filter _};{
 have hn:=q1.n2 y hy
 let⟨⟨g1,g2⟩,g3⟩:=q3 y hy
 have key:∀i,i∈qe (dI id D.ns.length 0 {D with ns:=D.ns.map (IM id)}).ss->i≠id->i∈qe (Ys id (dI id D.ns.length 0 {D with ns:=D.ns.map (IM id)}).ss):=λi hi bS=>by rw[Mw];exact Ko.2 ⟨hi,by simp[bS]⟩
 exact⟨hn.ep,hn.vp,hn.pb,hn.cp,hn.va,hn.vb,hn.ow.imp (λh=>h) (λho=>key _ ho g1),hn.h1,λi hi=>key i (hn.h2 i hi) (λe=>g2 (e▸hi)),hn.w1,λi hi=>key i (hn.w2 i hi) (λe=>g3 (e▸hi)),hn.lk⟩}};{
 have e:Mr id (List.drop 0 (D.ns.map (IM id)))=Mr id D.ns:=by
  rw[sU,Mr,List.countP_map]
  rfl
 have q5:=q4;simp only[fN]at q5;rw[e]at q5;exact q5}
def PD.pw(h:(ns.map λnd=>rD nd.path).Pairwise (·<·)):PD ns:=λi j a b ha hb e=>by
 have key:∀(i j:Nat)(a b:aD),ns[i]?=some a->ns[j]?=some b->a.path=b.path->¬i<j:=λi j a b ha hb e ld=>by obtain⟨h1,rfl⟩:=aV.1 ha;obtain⟨h2,rfl⟩:=aV.1 hb;have:=Jf.1 h i j (by simpa using h1) (by simpa using h2) ld;simp only[ak5,e]at this;exact List.lt_irrefl _ this
 have h1:=key i j a b ha hb e;have h2:=key j i b a hb ha e.symm;omega
theorem Cx(hd:PD ns):dV ns l=true↔CP (AW ns) l:=by
 unfold dV CP;by_cases h:l=[47];{simp[h]};{
 rw[bH h];constructor;{
 intro hc;cases hn:gS ns l with
 |none=>rw[hn]at hc;cases hc
 |some nd=>
  rw[hn]at hc;have hp:nd.path=l:=by simpa using QG hn
  exact .inr (iR.2 ⟨nd,WS hn,by rw[hp,show nd.owner=0 by simpa using hc]⟩)};{
 rintro(e|e);{exact absurd e h};{
 let⟨nd,hm,e2⟩:=iR.1 e
 simp only[gy]at e2;cases hn:gS ns l with
 |none=>exact absurd (QF.1 hn nd hm) (by simp[e2.1])
 |some n2=>
  have hp:n2.path=l:=by simpa using QG hn
  let⟨i,hi⟩:=gH.1 hm
  let⟨j,hj⟩:=gH.1 (WS hn)
  have:=hd i j nd n2 hi hj (e2.1.trans hp.symm);subst this;rw[hi]at hj;cases hj;simp[e2.2]}}}
theorem XJ(h:l.Pairwise (·<·))(hi:i<l.length):(i==0||decide (l.getD (i-1) 0<l.getD i 0))=true:=by
 cases i with
 |zero=>rfl
 |succ i=>
  have:=Jf.1 h i (i+1) af hi af;simp[gj,aY hi,aY (show i<l.length by omega),this]
def Hb{i:Int}:live ss i=true↔i∈qe ss:=by
 unfold live qe;simp only[Kt,MF,iR]
def ao6(h:l.Pairwise (·<·))(h2:∀i∈l,i∈qe ss):iK ss l=true:=by
 unfold iK;simp only[jw,Cc];intro i hi;unfold Jo;rw[XJ h hi,Bool.and_true,Hb];refine h2 _ ?_;rw[gj,aY hi];exact zF hi
def bo6:∀(a b:List UInt8),Op.bytesLess a b=true↔a<b:=λa b=>by rw[T.oI];simp
theorem VD.ok(h:VD D):kG D.e D.g D.x D.t D.ss D.ns=true:=by
 unfold kG;simp only[fk,jj,jw,Cc];refine⟨⟨h.e.2,h.g.2,h.x.2,h.t.1,h.t.2,h.sl,h.nl⟩,λi hi=>?_,λi hi=>?_⟩;{
 have hs:=h.s2 _ (zF hi);have ha:=XJ h.s1 (i:=i) (by unfold qe;simpa using hi);have e:∀j,(D.ss.getD j (0,0,[])).1=(qe D.ss).getD j 0:=λj=>by unfold qe;rw[gj,gj,nG];cases D.ss[j]?<;>rfl
 have ed:D.ss.getD i (0,0,[])=D.ss[i]:=by rw[gj,aY hi];rfl
 rw[<-e,<-e]at ha;unfold mF;rw[ha,ed];simp only[fk,jj,pQ];exact⟨hs.1.1,hs.1.2,hs.2.1.1,hs.2.1.2,by rw[hs.2.2];rfl⟩};{
 have hn:=h.n2 _ (zF hi);unfold lI;simp only[gj,aY hi,sa,fk,jj,Kq];refine⟨⟨hn.vp,?_⟩,(Cx (PD.pw h.n1)).2 hn.cp,hn.va,?_,ao6 hn.h1 hn.h2,ao6 (hn.w1▸List.Pairwise.nil) hn.w2,hn.lk⟩;{
 cases i with
 |zero=>exact .inl rfl
 |succ i=>
  refine .inr ?_;have:=Jf.1 h.n1 i (i+1) bq (by simpa using hi) af;simp only[ak5]at this;simp only[Aa,aY (show i<D.ns.length by omega),sa];rw[nY,bo6,fE,fE];exact this};{rcases hn.ow with e|e;{exact .inl (by simp[e])};{exact .inr (Hb.2 e)}}}
def VD.of(h:kG e g x t ss ns=true)(hF:yB ss ns)(g0:0<=g)(x0:0<=x)(hq:∀s∈ss,s.2.2=[])(hv:∀nd∈ns,aN nd.value)(hw:∀nd∈ns,nd.watchers=[])(e0:0<=e)(hE:∀nd∈ns,0<=nd.aE):VD ⟨e,g,x,t,ss,ns⟩:=by
 have h':=h;unfold kG at h';simp only[fk,jj]at h';obtain⟨⟨l1,l2,l3,l4,l5,l6,l7⟩,a1,a2⟩:=h';refine⟨⟨e0,l1⟩,⟨g0,l2⟩,⟨x0,l3⟩,⟨l4,l5⟩,l6,l7,by unfold qe;rw[Ef];exact hF.s1,λs hs=>?_,hF.n1,λnd bu=>?_⟩;{
 let⟨i,hi⟩:=gH.1 hs
 have:=jw.1 a1 i (by simpa using(aV.1 hi).1);unfold mF at this;rw[gj,hi]at this;simp only[sa,fk,jj]at this;exact⟨⟨this.1,this.2.1⟩,⟨this.2.2.2.1,this.2.2.2.2.1⟩,hq s hs⟩};{
 let⟨i,hi⟩:=gH.1 bu
 let⟨f1,f2,f3,f4,f5,f6,f7⟩:=hF.n2 nd bu
 have KU:=(aV.1 hi).1;have:=jw.1 a2 i (by simpa using KU);unfold lI at this;simp only[gj,hi,sa,fk,jj,Kq]at this;obtain⟨⟨q1,-⟩,q2,q3,q4,q5,q6,q7⟩:=this;refine⟨hE nd bu,q1,f1,(Cx (PD.pw hF.n1)).1 q2,q3,hv nd bu,q4.imp (λe=>by simpa using e) Hb.1,f6,λj hj=>?_,hw nd bu,λj hj=>?_,q7⟩;{
 let⟨s,hs,e⟩:=yb q5 j hj
 exact iR.2 ⟨s,hs,e⟩};{
 let⟨s,hs,e⟩:=yb q6 j hj
 exact iR.2 ⟨s,hs,e⟩}}
theorem af0(h:¬xM ss S<0):S∈qe ss:=by
 unfold xM at h;cases hf:ss.findIdx? (λs=>s.1==S)with
 |none=>rw[hf]at h;simp at h
 |some k=>
  obtain⟨h1,h2,-⟩:=Di.1 hf;exact iR.2 ⟨_,zF h1,by simpa using h2⟩
def NV.gen{e' g':Int}{C:List (LI×Int)}(h:NV e g I C nd)(he:e<=e')(hg:g<=g'):NV e' g' I C nd:=by
 refine⟨h.ep,h.vp,h.pb,h.cp,h.va,h.vb,h.ow,h.h1,h.h2,h.w1,h.w2,?_⟩;have:=h.lk;unfold ew at this⊢;split;{
 rename_i hm
 rw[bO hm]at this;simp only[fk,jj]at this⊢;exact⟨this.1,this.2.1,af,af⟩};{
 rename_i hm
 rwa [bH hm]at this}
def NV.ids{I':LI}{C:List (LI×Int)}(h:NV e g I C nd)(hi:∀i∈I,i∈I'):NV e g I' C nd:=
 ⟨h.ep,h.vp,h.pb,h.cp,h.va,h.vb,h.ow.imp (λh=>h) (hi _),h.h1,λi hh=>hi i (h.h2 i hh),h.w1,λi hh=>hi i (h.w2 i hh),h.lk⟩
def VD.create(h:VD D)(hv:vp P=true)(hB:aN P)(hV:V.length<=40)(bV:aN V)(hS:S∈qe D.ss):VD (my D P V S F).1:=by
 unfold my;split;{exact h};{
 rename_i h1
 split;{exact h};{
 rename_i h2
 split;{exact h};{
 rename_i h3
 have me:gS D.ns P=none:=by simpa using h1
 have hc:dV D.ns (eG P)=true:=by simpa using h2
 have hcp:=(Cx (PD.pw h.n1)).1 hc;have hm:∀z∈AW D.ns,z∈AW (mQ (mH P V (if F=1 then S else 0)) D.ns):=λz hz=>by obtain⟨y,hy,rfl⟩:=iR.1 hz;exact iR.2 ⟨y,EU.2 (.inr hy),rfl⟩
 have DA:∀l,CP (AW D.ns) l->CP (AW (mQ (mH P V (if F=1 then S else 0)) D.ns)) l:=λl hl=>hl.imp (λh=>h) (hm _);refine⟨h.e,h.g,h.x,h.t,h.sl,by show(mQ _ _).length<=_;rw[Rf];omega,h.s1,h.s2,an9 h.n1 (λy hy e=>?_),λy hy=>?_⟩;{have:=QF.1 me y hy;exact this (by simpa using aQ8 (h.n2 y hy).pb hB e)};{rcases EU.1 hy with rfl|hy;{refine⟨tL _,hv,hB,DA _ hcp,hV,bV,?_,List.Pairwise.nil,λi hi=>by simp[mH]at hi,rfl,λi hi=>by simp[mH]at hi,rfl⟩;show(if F=1 then S else 0)=0\/_;split;{exact .inr hS};{exact .inl rfl}};{have hn:=h.n2 y hy;exact⟨hn.ep,hn.vp,hn.pb,DA _ hn.cp,hn.va,hn.vb,hn.ow,hn.h1,hn.h2,hn.w1,hn.w2,hn.lk⟩}}}}}
theorem VD.lock(h:VD D)(k:Nat)(fl:Int)(hS:s∈qe D.ss):VD (sc D k s fl).1:=by
 unfold sc;cases hk:D.ns[k]? with
 |none=>exact h
 |some nd=>
  have hn:=h.n2 nd (aT hk);simp only;split;{exact h};{
 split;{
 split;{exact h};{
 rename_i m1
 refine h.tS hk rfl rfl ⟨hn.ep,hn.vp,hn.pb,hn.cp,hn.va,hn.vb,hn.ow,ab8 hn.h1,λi hi=>?_,hn.w1,hn.w2,?_⟩;{rcases Bf.1 hi with rfl|hi;{exact hS};{exact hn.h2 i hi}};{obtain⟨l1,l2,-⟩:=uR hn.lk m1;show ew D.e D.g 2 (wG nd.holders s).length nd.aE nd.gen=true;have:1<=(wG nd.holders s).length:=aU9 (Bf.2 (.inl rfl));simp[ew,l1,l2,this]}}};{
 split;{exact h};{
 split;{exact h};{
 rename_i hg
 have h':VD {D with g:=D.g+1}:=⟨h.e,⟨by have:=h.g;show 0<=D.g+1;omega,by show D.g+1<=_;omega⟩,h.x,h.t,h.sl,h.nl,h.s1,h.s2,h.n1,λy hy=>(h.n2 y hy).gen (tL _) (by show D.g<=D.g+1;omega)⟩;refine VD.tS h' (nd':={nd with mode:=1,holders:=[s],aE:=D.e,gen:=D.g+1}) hk rfl rfl ⟨h.e.1,hn.vp,hn.pb,hn.cp,hn.va,hn.vb,hn.ow,al,λi hi=>?_,hn.w1,hn.w2,?_⟩;{simp at hi;rw[hi];exact hS};{have:=h.g;show ew D.e (D.g+1) 1 1 D.e (D.g+1)=true;simp[ew];omega}}}}}
theorem VD.node(h:VD D)(k:Nat)(hV:K=7->V.length<=40)(bV:aN V)(hj:K=5\/K=7\/K=8\/K=9)(hS:S∈qe D.ss\/K=6):VD (xg D k K S F V).1:=by
 unfold xg;cases hk:D.ns[k]? with
 |none=>exact h
 |some nd=>
  have hn:=h.n2 nd (aT hk);simp only;split;{
 split;{exact h};{
 split;{exact h};{
 rename_i Vd _
 have Vd:jH D.ns nd.path=[]:=by simpa using Vd
 obtain⟨JS,eT,-⟩:=Bh hk 2;have hT:=h.tell k 2;rw[eT]at hT⊢;refine VD.rm hT (nd:={nd with watchers:=[]}) (bM hk _) (.inr λz hz e=>?_);rw[show AW ({D with ss:=JS,ns:=D.ns.set k {nd with watchers:=[]}}:SD).ns=AW D.ns from WD hk rfl rfl]at hz;obtain⟨y,hy,rfl⟩:=iR.1 hz;unfold jH at Vd;rw[List.map_eq_nil_iff,List.filter_eq_nil_iff]at Vd;exact Vd y hy (by simpa using e)}}};{
 split;{exact h};{
 rename_i n6
 have hS:=hS.resolve_right n6;split;{
 split;{exact h};{
 rename_i h7 _
 exact VD.tell (D:={D with ns:=D.ns.set k {nd with value:=V}}) (h.tS hk rfl rfl ⟨hn.ep,hn.vp,hn.pb,hn.cp,hV h7,bV,hn.ow,hn.h1,hn.h2,hn.w1,hn.w2,hn.lk⟩) k _}};{split;{exact h.lock k F hS};{split;{split;{exact h.drop k S};{exact h}};{exact absurd hj af}}}}}
def VD.apply(h:VD D)(hB:aN P)(bV:aN V)(hj:K=1\/K=3\/K=4\/K=5\/K=7\/K=8\/K=9):VD (fx D K S F E G P V).1:=by
 unfold fx;split;{exact h};{
 rename_i hf
 split;{
 unfold pL;split;{exact h};{
 split;{exact h};{
 rename_i h1 h2
 have hx:=h.x;have ht:=h.t;have ei:qe (D.ss++[(D.x+1,D.t+10,[])])=qe D.ss++[D.x+1]:=by simp[qe]
 refine⟨h.e,h.g,⟨by show 0<=D.x+1;omega,by show D.x+1<=_;omega⟩,h.t,by show(D.ss++[_]).length<=_;simp;omega,h.nl,?_,λs hs=>?_,h.n1,λy hy=>?_⟩;{show List.Pairwise _ (qe (D.ss++[_]));rw[ei,aT9];refine⟨h.s1,al,λa ha c hc=>?_⟩;simp at hc;obtain⟨s,hs,rfl⟩:=iR.1 ha;have:=(h.s2 s hs).1.2;omega};{rcases gu.1 hs with hs|hs;{have q:=h.s2 s hs;exact⟨⟨q.1.1,by have:=q.1.2;show s.1<=D.x+1;omega⟩,q.2⟩};{simp at hs;rw[hs];exact⟨⟨by show 1<=D.x+1;omega,by show D.x+1<=D.x+1;omega⟩,⟨by show 0<=D.t+10;omega,by show D.t+10<=_;omega⟩,rfl⟩}};{show NV _ _ (qe (D.ss++[_])) _ y;rw[ei];exact(h.n2 y hy).ids λi hi=>Dj _ hi}}}};{
 rename_i n1
 split;{exact h};{
 rename_i hs
 have aq3:ZO K=true->S∈qe D.ss:=λhh=>af0 (by intro hn;simp[hh,hn]at hs);split;{exact absurd hj af};{
 split;{
 rename_i n2 h3
 have:S∈qe D.ss:=aq3 (by rw[h3];rfl);obtain⟨s,hm,rfl⟩:=iR.1 this;exact(h.close (aI (h.s2 s hm).1.1)).1};{
 split;{exact absurd hj af};{
 rename_i n2 n3 n12
 have hV:K=4\/K=7->V.length<=40:=λhK=>by rcases hK with rfl|rfl<;>· simp[fmI,Fg,fmF,rowOf]at hf;omega
 unfold yX;split;{exact h};{
 rename_i hp
 split;{
 rename_i h4
 rw[Mf af]at hp;exact h.create (by simpa using hp) hB (hV (.inl h4)) bV (aq3 (by rw[h4];rfl))};{
 split;{exact h};{
 split;{exact h};{
 split;{exact h};{
 rename_i n4 n10 _ n13
 refine h.node _ (λe=>hV (.inr e)) bV af ?_;by_cases h6:K=6;{exact .inr h6};{exact .inl (aq3 (by simp[ZO,n1,h6,n13]))}}}}}}}}}}}}
def VD.wf(h:VD D):WF D:=by
 have hl:∀(l:LI),l.Pairwise (·<·)->(∀i∈l,i∈qe D.ss)->l.length<=50:=λl hp hm=>by have:=EP l (qe D.ss) (hp.imp (λTq e=>af)) hm;have:=h.sl;unfold qe at*;rw[fN]at*;omega
 refine⟨h.g,h.x,h.t,λnd bu=>?_,λnd bu=>?_,λnd bu=>?_,λnd bu hm e=>?_,PD.pw h.n1⟩
 all_goals have hn:=h.n2 nd bu
 {exact⟨fu (Lp hn.vp) bj,(hn.w1▸iD _),fu (hl _ hn.h1 hn.h2) bj⟩};{exact⟨hn.vp,hn.pb,fu (Lp hn.vp) bj⟩};{exact fu hn.va bj};{have:=sY hn.lk hm;rw[e]at this;cases this}
def VD.ids(h:VD D)(hp:l.Pairwise (·<·))(hm:∀i∈l,i∈qe D.ss):l.length<=50:=by
 have:=EP l (qe D.ss) (hp.imp (λTq e=>af)) hm;have:=h.sl;unfold qe at*;rw[fN]at*;omega
def SV.q{s:aQ}(h:SV x s):s.2.2.length<=8/\∀e∈s.2.2,aN e.2/\e.2.length<=136:=by
 rw[h.2.2];exact⟨bj,λe he=>by cases he⟩
def AI.mono(h:AI B w v ns)(hB:B'<=B):AI B' w v ns:=by
 let⟨cs,h1,h2,h3,h4⟩:=RT.mono h hB
 refine⟨cs,h1,h2,h3,λi x c hx hc=>?_⟩
 let⟨P,V,H,U,e,k1,k2,k3,k4⟩:=h4 i x c hx hc
 exact⟨P,V,H,U,e,k1,k2,k3.mono hB,k4.mono hB⟩
def QR.mono{r:Ending}(h:QR B w w' r D R)(hB:B'<=B):QR B' w w' r D R:=by
 obtain⟨p,c,q,d,Dv,Nv,Ev,Qs,e,hS,hN,tD,tN,tE,hF2,jg⟩:=h;exact⟨p,c,q,d,Dv,Nv,Ev,Qs,e,hS.mono hB,AI.mono hN hB,tD,RT.mono tN hB,RT.mono tE hB,hF2,jg.mono hB⟩
def SD0:SD:=⟨0,0,0,0,[],[]⟩
def AP(e g x t:Int)(ss:List aQ)(ns:List aD)(K S F E G:Int)(P V:LI):SD×RP:=if kG e g x t ss ns=true then fx ⟨e,g,x,t,ss,ns⟩ K S F E G P V else(SD0,AV 1)
def Uf{q:OA}{m:Nat}(en:Le ss n)(em:Le ns m)(eP:Le P np)(eV:Le V nv)(h:Hid (vk w (.S p n c) ss))(hN:Hid (lM w (.S q m d) ns))(hP:Hid (Rd w (.S pp np cp) P))(hV:Hid (Rd w (.S pq nv cv) V))(hn:Mg n)(hm:Mg m)(hp:np<=1048576)(hv:nv<=1048576)(jt:np<=cp)(ku:cp<=maxLen)(qg:Hid (∀s∈ss,s.2.2.length<=1048576/\∀e∈s.2.2,aN e.2/\e.2.length<=1048576))(gh:Hid (∀nd∈ns,aN nd.path/\nd.path.length<=1048576/\nd.value.length<=1048576/\nd.holders.length<=1048576/\nd.watchers.length<=1048576))(hW:Hid (kG e g x t ss ns=true->WF ⟨e,g,x,t,ss,ns⟩))(bP:Hid (aN P)){R:SD×RP}(hj:Hid (K=1\/K=3\/K=4\/K=5\/K=7\/K=8\/K=9))(eR:Hid (AP e g x t ss ns K S F E G P V=R)):Calls prog 75 #[dZ e g x t (.S p n c) (.S q m d),IE K S (.S pp np cp) F (.S pq nv cv) E G] w λr w'=>QR w.heap.size w w' r R.1 R.2:=by
 let⟨W0,fL,b0,z0,C0⟩:=jB w (.U e) (.U g) (.U x) (.I t) (.S p n c) (.S q m d)
 obtain⟨W1,mg,b1,z1,C1,-⟩:=au W0 #[.I K,.U S,.S pp np cp,.I F,.S pq nv cv,.U E,.U G] 121
 let⟨W2,mu,b2,z2,C2⟩:=sr W1
 let⟨W3,we,b3,z3,C3⟩:=rE W2 (.I 0) (.U 0) (.U 0) (.U 0) (.I 0) aS aS aS
 rw[z0]at C1 z1;rw[z1]at C2 z2;rw[z2]at C3 z3;have LQ:QB W3 w.heap.size _ _ _ _:=⟨((C0.below b1).below b2).below b3,(C1.below af b2).below af b3,C2.below b3,C3⟩;have bW:=aj (aj (aj b0 b1) b2) b3;have HA:=ag (λ(v:World)(hv:Bw W3 v)=>ai (QB.keep LQ (λj h1 h2=>hv.block j af)) (ai (h.below (aj bW hv)) (ai (hN.below (aj bW hv)) (ai (hP.below (aj bW hv)) (ai (hV.below (aj bW hv)) (aj bW hv))))));have BR:=ag (cQ W3.heap.size W3);have hR:=ae eR;unfold AP at hR
 let⟨ok,Eo⟩:=bG (kG e g x t ss ns)
 rw[ae Eo]at hR;have HR:=ag hR
 go_in
 go_wp2_with fail;rw[<-fL,<-mg,<-mu,<-we];refine(Ug en em (ae HA W3 BR).2.1 (ae HA W3 BR).2.2.1 hn hm qg gh Eo).mono ?_;rintro r w1⟨rfl,aG⟩;have B1:=ag aG;have z1':=aG.size;have e9:=ae HR;cases ok;{
 rw[bH al]at e9;have E9:=ag e9;go_wp2_with fail;refine(Hg).mono ?_;rintro r w2⟨rfl,aK⟩;obtain⟨LW,-,-,-,-,bw⟩:=ae HA w2 (aj B1 aK);have rF:=ag (show TX w2 w.heap.size _ _ _ from⟨LW.1,LW.2.2.1,LW.2.2.2⟩);have BW:=ag bw
 let⟨q0,q1,q2,q3,q4,q5,qf⟩:=rF.2.1.cells
 let⟨r0,r1,r2,r3,r4,r5,r6,r7,rf⟩:=rF.2.2.cells
 go_wp2
 let⟨fF,bF⟩:=TX.fin rF (.U 0) (.U 0) (.U 0) (.I 0) aS aS (.I 1) (.U 0) (.U 0) (.U 0) (.I 0) aS aS aS
 refine dJ (v:=.tuple #[dZ 0 0 0 0 aS aS,yC 1 0 0 0 0 aS aS aS]) (by simp[results,results75,go_sem,q0,q1,q2,q3,q4,q5,r0,r1,r2,r3,r4,r5,r6,r7]) rfl ?_;rw[<-ae E9];exact⟨none,0,none,0,aS,aS,aS,[],rfl,kq.nil _ _,RT.nil _ _ _ _ _,TB.nil _,RT.nil _ _ _ _ _,RT.nil _ _ _ _ _,Fr.below (BW.trans bF),BW.trans bF⟩};{
 rw[bO rfl]at e9;have E9:=ag e9;go_wp2_with fail;have HCG:=ag (λ(vs:Array Value)(w:World)=>show(callFunc 144 vs).run prog w=.ok (.enter 144 vs) w by kernel_rfl)
 let⟨vA,je⟩:=aB w1.drew
 have gL:Bw W3 vA:=aj (ae B1) (je▸aA.drew);have BA:=ag gL;have zA:=gL.size;have SA:=ag (λ(v:World)(hQ:QB v w.heap.size [.U e,.U g,.U x,.I t,.S p n c,.S q m d] [.I K,.U S,.S pp np cp,.I F,.S pq nv cv,.U E,.U G] [.U 0,.U 0,.U 0,.I 0,aq,aq] [.I 0,.U 0,.U 0,.U 0,.I 0,aS,aS,aS])=>ai hQ.1.six (ai (hQ.2.1.1 0 _ rfl) (ai (hQ.2.1.1 1 _ rfl) (ai (hQ.2.1.1 2 _ rfl) (ai (hQ.2.1.1 3 _ rfl) (ai (hQ.2.1.1 4 _ rfl) (ai (hQ.2.1.1 5 _ rfl) (hQ.2.1.1 6 _ rfl))))))));refine du (λw'=>(w'.cell? (Ad w.heap.size 0)=some (.U e)/\w'.cell? (Ad w.heap.size 1)=some (.U g)/\w'.cell? (Ad w.heap.size 2)=some (.U x)/\w'.cell? (Ad w.heap.size 3)=some (.I t)/\w'.cell? (Ad w.heap.size 4)=some (.S p n c)/\w'.cell? (Ad w.heap.size 5)=some (.S q m d))/\w'.cell? (Ad (w.heap.size+1) 0)=some (.I K)/\w'.cell? (Ad (w.heap.size+1) 1)=some (.U S)/\w'.cell? (Ad (w.heap.size+1) 2)=some (.S pp np cp)/\w'.cell? (Ad (w.heap.size+1) 3)=some (.I F)/\w'.cell? (Ad (w.heap.size+1) 4)=some (.S pq nv cv)/\w'.cell? (Ad (w.heap.size+1) 5)=some (.U E)/\w'.cell? (Ad (w.heap.size+1) 6)=some (.U G)) (je▸ae SA vA (ae HA vA gL).1) λhS=>?_;rw[<-je]at hS⊢;refine jR 0 2 hS ?_;refine cX 1 λKK hK=>?_;refine iw (NC en em (ae HA vA BA).2.1 (ae HA vA BA).2.2.1 hn hm (ag λs hs=>⟨(ae qg s hs).1,λev he=>((ae qg s hs).2 ev he).2⟩) (ag λnd bu=>(ae gh nd bu).2)) ?_;rintro r v1⟨p1,c1,q1,d1,rfl,⟨Qs,hS1⟩,Ow,aK⟩;refine⟨_,rfl,?_⟩;have B2:=ag (aj BA aK);have z2':=aK.size;have H1:=ag (ai hS1 Ow);refine fh hK (by exact SA v1 (ae HA v1 B2).1) λhS=>?_;refine cX 3 λKK hK=>?_;refine lT aJ aJ aJ aJ (λ_=>ae HCG _ _) (VW en em eP eV (ag H1.1) (ag H1.2) (ag (ae HA v1 B2).2.2.2.1) (ag (ae HA v1 B2).2.2.2.2.1) z2' hn hm hp hv jt ku (ag (ae hW Eo)) bP hj E9) ?_;rintro r v2⟨p',c',q',d',Dv,Nv,Ev,Wc,rfl,IJ,DG,tD,tN,tE,hF,rI⟩;refine⟨_,rfl,?_⟩;have z3':=hF.1;have L2:=ag (QB.keep (w'':=v2) (ae HA v1 B2).1 (λj h1 h2=>rI.block j af));have HQ:=ag (show QR vA.heap.size v1 v2 _ R.1 R.2 from⟨p',c',q',d',Dv,Nv,Ev,Wc,rfl,IJ,DG,tD,tN,tE,hF,rI⟩);obtain⟨dp,dc,rfl⟩:=tD.gF;obtain⟨np9,nc9,rfl,-⟩:=RT.form tN;obtain⟨yp,yc,rfl,-⟩:=RT.form tE;refine fh hK (by exact SA v2 L2) λhS=>?_;refine jR 4 5 hS ?_;refine WA 6 7 4 5 15 16 bg bg bg rfl rfl (w.heap.size+1+1) (w.heap.size+1+1+1) R.1.e R.1.g R.1.x R.1.t p' R.1.ss.length c' q' R.1.ns.length d' R.2.k R.2.i R.2.e R.2.g R.2.n dp R.2.Oy.length dc np9 R.2.nms.length nc9 yp R.2.Np.length yc rfl rfl rfl rfl L2.2.2.1 L2.2.2.2 af (λv hv _=>?_) ?_;{have h1:=L2.1.de (hv.block _ af);have h2:=L2.2.1.de (hv.block _ af);exact⟨h1.six,h2.1 0 _ rfl,h2.1 1 _ rfl,h2.1 2 _ rfl,h2.1 3 _ rfl,h2.1 4 _ rfl,h2.1 5 _ rfl,h2.1 6 _ rfl⟩};intro w' aG KL f1 bl1;refine aR5 ?_;have hw1:=(ae HA v1 B2).2.2.2.2.2;have HF:=ag (QR.low (QR.mono HQ (by omega:w.heap.size<=vA.heap.size)) (Fr.below hw1) hw1 f1 (bl1.mono af) ay)
 let⟨q0,q1',q2,q3,q4,q5,qf⟩:=aG.cells
 let⟨r0,r1,r2,r3,r4,r5,r6,r7,rf⟩:=KL.cells
 go_wp2;refine dJ (v:=.tuple #[dZ R.1.e R.1.g R.1.x R.1.t (.S p' R.1.ss.length c') (.S q' R.1.ns.length d'),yC R.2.k R.2.i R.2.e R.2.g R.2.n (.S dp R.2.Oy.length dc) (.S np9 R.2.nms.length nc9) (.S yp R.2.Np.length yc)]) (by simp[results,results75,go_sem,q0,q1',q2,q3,q4,q5,r0,r1,r2,r3,r4,r5,r6,r7]) rfl ?_;exact HF}
def sy.di{R:Nat}(h:sy w b v0 v1 v2 v3 v4 v5 v6)(hk:Kept [blk R] w w')(hb:b<w.heap.size)(bS:b≠R):sy w' b v0 v1 v2 v3 v4 v5 v6:=by
 have e:=hk.cellAt hb (λx hx e=>by simp only[nE]at hx;subst hx;simp[Value.ownBlock]at e;exact bS e.symm);exact⟨(e 0).trans h.1,(e 1).trans h.2.1,(e 2).trans h.2.2.1,(e 3).trans h.2.2.2.1,(e 4).trans h.2.2.2.2.1,(e 5).trans h.2.2.2.2.2.1,(e 6).trans h.2.2.2.2.2.2⟩
abbrev Ix(m:LI)(n:Nat)(t:Bool)(x:Int)(m':LI)(n':Nat)(t':Bool):Prop:=
 ∀(R:Nat)(w':World),sF w' R m n t->Cp 237 #[.pointer (some (Ad R 0))] w' λe w''=>e=.returned (.I x)/\sF w'' R m' n' t'/\Kept [blk R] w' w''
abbrev Oa(m:LI)(n:Nat)(t:Bool)(x:Int)(m':LI)(n':Nat)(t':Bool):Prop:=
 ∀(R:Nat)(w':World),sF w' R m n t->Cp 205 #[.pointer (some (Ad R 0))] w' λe w''=>e=.returned (.U x)/\sF w'' R m' n' t'/\Kept [blk R] w' w''
abbrev SJ(m:LI)(n:Nat)(t:Bool)(x:LI)(N:Nat)(m':LI)(n':Nat)(t':Bool):Prop:=
 ∀(R:Nat)(w':World),sF w' R m n t->R<w'.heap.size->Cp 238 #[.pointer (some (Ad R 0))] w' λr w''=>∃p' c',r=.returned (.S p' N c')/\Own w'.heap.size w'' (.S p' N c') x/\sF w'' R m' n' t'/\Kept [blk R] w' w''
theorem UT(en:Le l n)(h:Rd w (.S p n c) l)(hl:Mg n)(xv:n<=c)(hp:Hid ((p=none/\c=0)\/∃b o,p=some (Ad b o)))(jr:Hid (∀b o,p=some (Ad b o)->b<w.heap.size))(hT:N8 w){k:Int}{n1 n2 n3 n4 n5 NP NV:Nat}(C1:Hid (Ix l n false k m1 n1 t1))(C2:Hid (Oa m1 n1 t1 s m2 n2 t2))(C3:Hid (SJ m2 n2 t2 P NP m3 n3 t3))(C4:Hid (Ix m3 n3 t3 f m4 n4 t4))(C5:Hid (SJ m4 n4 t4 V NV m5 n5 t5))(eLE:Le LE NE)(BL:Hid (aN LE))(HB:Hid (aN l))(E:Hid (Oe 240 w k s f 0 0 NP NV NE P V LE)){D:Bool}(eD:Hid (decide (LE=l)=D))(me:t5=true\/D=false):Calls prog 210 #[.S p n c] w (Rb (.tuple #[zl 0 0 aq 0 aq 0 0,.I 13]) w):=by
 have HH:=ag h;have HT:=ag hT;clear h hT
 go_in
 go_wp2_with fail
 let⟨W,hW⟩:=aB ((w.alloc (.cells #[.I 0,.U 0,aq,.I 0,aq,.U 0,.U 0] 121)).alloc (.cells #[.S p n c,.bool false] 243))
 have bW:Bw w W:=hW▸fW (fW aA)
 let⟨R0,Sa⟩:=aB w.heap.size
 let⟨R,eR⟩:=aB (R0+1)
 have hR0:sy W R0 (.I 0) (.U 0) aq (.I 0) aq (.U 0) (.U 0):=by rw[hW,Sa];simp[sy,go_sem]
 have fR0:∀o,W.frozen? (Ad R0 o)=false:=λo=>by rw[hW,Sa];simp[go_sem]
 have zW:W.heap.size=R+1:=by rw[hW,eR,Sa];simp
 have hRd:sF W R l n false:=by
  refine⟨ae en,λo=>by rw[hW,eR,Sa];simp[go_sem],p,c,?_,?_,xv,ae hp⟩;{rw[hW,eR,Sa];simp[Ty,go_sem]};{
 let⟨p',c',ev,hc⟩:=HH.below bW
 obtain⟨rfl,-,-⟩:=ir ev;rcases hc with hc|⟨b,o,rfl,hc⟩;{exact .inl hc};{exact .inr ⟨b,o,aI (ae jr b o rfl),rfl,hc⟩}}
 rw[<-hW,<-Sa,<-eR];clear hW;have HE:=ag (ai Sa eR);have g1:R0<R:=af;have gR0:w.heap.size<=R0:=af;have gw:w.heap.size<=R:=af;have zR:R<W.heap.size:=af;clear Sa eR zW;refine(ae C1 R _ hRd).mono ?_;rintro r w1⟨rfl,vd,K1⟩;have A1:=hR0.di K1 af af;have F1:=fv fR0 K1 af af;have b1:=fw bW K1 af;have z1:=K1.size;clear hR0 fR0 bW K1 hRd;go_wp2_with fail;refine(ae C2 R _ vd).mono ?_;rintro r w2⟨rfl,Z8,K2⟩;have A2:=A1.di K2 af af;have F2:=fv F1 K2 af af;have b2:=fw b1 K2 af;have z2:=K2.size;clear A1 F1 b1 K2 vd;go_wp2_with fail;refine(ae C3 R _ Z8 af).mono ?_;rintro r w3⟨p3,c3,rfl,o3,uf,K3⟩;have A3:=A2.di K3 af af;have F3:=fv F2 K3 af af;have b3:=fw b2 K3 af;have z3:=K3.size;clear A2 F2 b2 K3 Z8;go_wp2_with fail;refine(ae C4 R _ uf).mono ?_;rintro r w4⟨rfl,hR4,K4⟩;have A4:=A3.di K4 af af;have F4:=fv F3 K4 af af;have b4:=fw b3 K4 af;have o4:=Own.di o3 K4 af;have z4:=K4.size;clear A3 F3 b3 K4 uf o3;go_wp2_with fail;refine(ae C5 R _ hR4 af).mono ?_;rintro r w5⟨p5,c5,rfl,o5,hR5,K5⟩;have A5:=A4.di K5 af af;have F5:=fv F4 K5 af af;have b5:=fw b4 K5 af;have o45:=Own.di o4 K5 af;have z5:=K5.size;clear A4 F4 b4 K5 hR4 o4;obtain⟨_,fr5,pr,cr,⟨i0,i1⟩,_⟩:=hR5;have bo:∀ob:Obj,Bw w5 (w5.alloc ob):=λob=>aA.alloc ay _;have qs:=λob=>ah i1 (bo ob);have q0:=λob=>ah A5.1 (bo ob);have q1:=λob=>ah A5.2.1 (bo ob);have q2:=λob=>ah A5.2.2.1 (bo ob);have q3:=λob=>ah A5.2.2.2.1 (bo ob);have q4:=λob=>ah A5.2.2.2.2.1 (bo ob);have q5:=λob=>ah A5.2.2.2.2.2.1 (bo ob);have q6:=λob=>ah A5.2.2.2.2.2.2 (bo ob);have qf:=λ(ob:Obj)=>cI F5 af (bo ob)
 let⟨X,hX⟩:=aB (w5.alloc (.cells #[.I k,.U s,.S p3 NP c3,.I f,.S p5 NV c5,.U 0,.U 0] 121))
 have Ep:Bw w5 X:=hX▸bo _;have bX:Bw w X:=aj b5 Ep;have AX:=A5.below Ep;have FX:=cI F5 af Ep;have OX:sy X w5.heap.size (.I k) (.U s) (.S p3 NP c3) (.I f) (.S p5 NV c5) (.U 0) (.U 0):=by rw[hX];simp[sy,go_sem]
 have zX:w5.heap.size<X.heap.size:=by rw[hX];simp
 have xP:=Own.below o45 Ep;have xV:=Own.below o5 Ep;clear A5 F5 i0 i1 fr5 o45 o5 Ep bo;cases t5 with
 |true=>
  clear hX;go_wp2;refine dJ (v:=.tuple #[zl 0 0 aq 0 aq 0 0,.I 13]) (by simp[results,results210,go_sem,q0,q1,q2,q3,q4,q5,q6]) rfl ⟨rfl,?_⟩
  iterate 7 (refine ig ?_ gR0 _)
  exact fW b5
 |false=>
  have hD:D=false:=by simpa using me
  subst hD;go_wp2_with fail;rw[<-hX];clear hX q0 q1 q2 q3 q4 q5 q6 qf qs me;refine(ae E p3 p5 c3 c5 _ bX xP.rd xV.rd).mono ?_;rintro r x1⟨p6,c6,rfl,o6,ko⟩;have VS:=aj bX ko;have A6:=AX.below ko;have F6:=cI FX af ko;have zx1:=ko.size;clear AX FX OX xP xV bX ko;go_wp2_with fail;refine(gP eLE en o6.rd (HH.below VS) BL HB).mono ?_;rintro r x2⟨rfl,Jy⟩;rw[ae eD];have bx2:=aj VS Jy;have A7:=A6.below Jy;have F7:=cI F6 af Jy;clear A6 F6 Jy VS o6
  let⟨r0,r1,r2,r3,r4,r5,r6⟩:=id A7
  go_wp2;refine dJ (v:=.tuple #[zl 0 0 aq 0 aq 0 0,.I 13]) (by simp[results,results210,go_sem,r0,r1,r2,r3,r4,r5,r6]) rfl ⟨rfl,?_⟩
  iterate 7 (refine ig ?_ gR0 _)
  exact bx2
def Rh(en:Le l n)(h:Rd w (.S p n c) l)(hl:Mg n)(xv:n<=c)(hp:Hid ((p=none/\c=0)\/∃b o,p=some (Ad b o)))(jr:Hid (∀b o,p=some (Ad b o)->b<w.heap.size))(hT:N8 w){k:Int}{n1 n2 n3 n4 n5 NP NV:Nat}(C1:Hid (Ix l n false k m1 n1 t1))(C2:Hid (Oa m1 n1 t1 s m2 n2 t2))(C3:Hid (SJ m2 n2 t2 P NP m3 n3 t3))(C4:Hid (Ix m3 n3 t3 f m4 n4 t4))(C5:Hid (SJ m4 n4 t4 V NV m5 n5 t5))(eLE:Le LE NE)(BL:Hid (aN LE))(HB:Hid (aN l))(E:Hid (Oe 240 w k s f 0 0 NP NV NE P V LE))(eD:Hid (decide (LE=l)=true))(ht5:t5=false):Calls prog 210 #[.S p n c] w λr w'=>∃p' c' q' d' B,r=.returned (.tuple #[zl k s (.S p' NP c') f (.S q' NV d') 0 0,.I 0])/\w.heap.size<=B/\Own w.heap.size w' (.S p' NP c') P/\Btw w.heap.size B (.S p' NP c')/\Own B w' (.S q' NV d') V/\Bw w w':=by
 have HH:=ag h;have HT:=ag hT;clear h hT
 go_in
 go_wp2_with fail
 let⟨W,hW⟩:=aB ((w.alloc (.cells #[.I 0,.U 0,aq,.I 0,aq,.U 0,.U 0] 121)).alloc (.cells #[.S p n c,.bool false] 243))
 have bW:Bw w W:=hW▸fW (fW aA)
 let⟨R0,Sa⟩:=aB w.heap.size
 let⟨R,eR⟩:=aB (R0+1)
 have hR0:sy W R0 (.I 0) (.U 0) aq (.I 0) aq (.U 0) (.U 0):=by rw[hW,Sa];simp[sy,go_sem]
 have fR0:∀o,W.frozen? (Ad R0 o)=false:=λo=>by rw[hW,Sa];simp[go_sem]
 have zW:W.heap.size=R+1:=by rw[hW,eR,Sa];simp
 have hRd:sF W R l n false:=by
  refine⟨ae en,λo=>by rw[hW,eR,Sa];simp[go_sem],p,c,?_,?_,xv,ae hp⟩;{rw[hW,eR,Sa];simp[Ty,go_sem]};{
 let⟨p',c',ev,hc⟩:=HH.below bW
 obtain⟨rfl,-,-⟩:=ir ev;rcases hc with hc|⟨b,o,rfl,hc⟩;{exact .inl hc};{exact .inr ⟨b,o,aI (ae jr b o rfl),rfl,hc⟩}}
 rw[<-hW,<-Sa,<-eR];clear hW;have HE:=ag (ai Sa eR);have g1:R0<R:=af;have gR0:w.heap.size<=R0:=af;have gw:w.heap.size<=R:=af;have zR:R<W.heap.size:=af;clear Sa eR zW;refine(ae C1 R _ hRd).mono ?_;rintro r w1⟨rfl,vd,K1⟩;have A1:=hR0.di K1 af af;have F1:=fv fR0 K1 af af;have b1:=fw bW K1 af;have z1:=K1.size;clear hR0 fR0 bW K1 hRd;go_wp2_with fail;refine(ae C2 R _ vd).mono ?_;rintro r w2⟨rfl,Z8,K2⟩;have A2:=A1.di K2 af af;have F2:=fv F1 K2 af af;have b2:=fw b1 K2 af;have z2:=K2.size;clear A1 F1 b1 K2 vd;go_wp2_with fail;refine(ae C3 R _ Z8 af).mono ?_;rintro r w3⟨p3,c3,rfl,o3,uf,K3⟩;have A3:=A2.di K3 af af;have F3:=fv F2 K3 af af;have b3:=fw b2 K3 af;have z3:=K3.size;clear A2 F2 b2 K3 Z8;go_wp2_with fail;refine(ae C4 R _ uf).mono ?_;rintro r w4⟨rfl,hR4,K4⟩;have A4:=A3.di K4 af af;have F4:=fv F3 K4 af af;have b4:=fw b3 K4 af;have o4:=Own.di o3 K4 af;have tP:=o4.btw;have z4:=K4.size;clear A3 F3 b3 K4 uf o3;go_wp2_with fail;refine(ae C5 R _ hR4 af).mono ?_;rintro r w5⟨p5,c5,rfl,o5,hR5,K5⟩;have A5:=A4.di K5 af af;have F5:=fv F4 K5 af af;have b5:=fw b4 K5 af;have o45:=Own.di o4 K5 af;have z5:=K5.size;clear A4 F4 b4 K5 hR4 o4;obtain⟨_,fr5,pr,cr,⟨i0,i1⟩,_⟩:=hR5;have bo:∀ob:Obj,Bw w5 (w5.alloc ob):=λob=>aA.alloc ay _;have qs:=λob=>ah i1 (bo ob);have q0:=λob=>ah A5.1 (bo ob);have q1:=λob=>ah A5.2.1 (bo ob);have q2:=λob=>ah A5.2.2.1 (bo ob);have q3:=λob=>ah A5.2.2.2.1 (bo ob);have q4:=λob=>ah A5.2.2.2.2.1 (bo ob);have q5:=λob=>ah A5.2.2.2.2.2.1 (bo ob);have q6:=λob=>ah A5.2.2.2.2.2.2 (bo ob);have qf:=λ(ob:Obj)=>cI F5 af (bo ob)
 let⟨X,hX⟩:=aB (w5.alloc (.cells #[.I k,.U s,.S p3 NP c3,.I f,.S p5 NV c5,.U 0,.U 0] 121))
 have Ep:Bw w5 X:=hX▸bo _;have bX:Bw w X:=aj b5 Ep;have AX:=A5.below Ep;have FX:=cI F5 af Ep;have OX:sy X w5.heap.size (.I k) (.U s) (.S p3 NP c3) (.I f) (.S p5 NV c5) (.U 0) (.U 0):=by rw[hX];simp[sy,go_sem]
 have zX:w5.heap.size<X.heap.size:=by rw[hX];simp
 have xP:=Own.below o45 Ep;have xV:=Own.below o5 Ep;clear A5 F5 i0 i1 fr5 o45 o5 Ep bo;subst ht5;go_wp2_with fail;rw[<-hX];clear hX q0 q1 q2 q3 q4 q5 q6 qf qs;refine(ae E p3 p5 c3 c5 _ bX xP.rd xV.rd).mono ?_;rintro r x1⟨p6,c6,rfl,o6,ko⟩;have VS:=aj bX ko;have A6:=AX.below ko;have O6:=OX.below ko;have F6:=cI FX af ko;have zx1:=ko.size;have xP6:=Own.below xP ko;have xV6:=Own.below xV ko;clear AX FX OX xP xV bX ko;go_wp2_with fail;refine(gP eLE en o6.rd (HH.below VS) BL HB).mono ?_;rintro r x2⟨rfl,Jy⟩;rw[ae eD];have bx2:=ag (aj VS Jy);have A7:=A6.below Jy;have O7:=O6.below Jy;have F7:=cI F6 af Jy;have xP7:=ag (Own.below xP6 Jy);have xV7:=ag (Own.below xV6 Jy);have bS:¬R0=w5.heap.size:=af;have cz0:¬w5.heap.size=R0:=af;have jd:R0<w2.heap.size:=af;have jJ:R0<w4.heap.size:=af;have hz3:w.heap.size<=w2.heap.size:=af;have Xg:w.heap.size<=w4.heap.size:=af;have HZ:=ag (ai jd (ai jJ (ai hz3 Xg)));clear A6 O6 F6 Jy VS o6 xP6 xV6 jd jJ hz3 Xg
 let⟨r0,r1,r2,r3,r4,r5,r6⟩:=id A7
 let⟨j0,j1,j2,j3,j4,j5,j6⟩:=id O7
 clear A7 O7;go_wp2
 let⟨jd,jJ,hz3,Xg⟩:=ae HZ
 refine dJ (v:=.tuple #[zl k s (.S p3 NP c3) f (.S p5 NV c5) 0 0,.I 0]) (by simp[results,results210,go_sem,r0,r1,r2,r3,r4,r5,r6]) rfl ⟨p3,c3,p5,c5,w4.heap.size,rfl,Xg,?_,λb hb=>aI (tP b hb),?_,?_⟩;{
 refine Own.mono (B:=w2.heap.size) ?_ hz3
 iterate 7 (refine qD ?_ jd _)
 exact xP7};{
 iterate 7 (refine qD ?_ jJ _)
 exact xV7};{
 iterate 7 (refine ig ?_ gR0 _)
 exact bx2}
def Adr(w:World)(q:OA)(d:Nat):Prop:=((q=none/\d=0)\/∃b o,q=some (Ad b o))/\∀b o,q=some (Ad b o)->b<w.heap.size
def Own.adr{q:OA}(h:Own B w (.S q n d) l):Adr w q d:=by
 refine⟨?_,λb o e=>?_⟩;{rcases h.2 with⟨e,h0⟩|⟨g,cap,cur,e,_⟩;{simp only[pW]at e;exact .inl ⟨e.1,e.2.2⟩};{simp only[pW]at e;exact .inr ⟨g,0,e.1⟩}};{subst e;exact(h.lt b rfl).2}
abbrev Iz(F:Nat)(w:World)(l:LI)(n:Nat)(k s f:Int)(P V:LI)(NP NV:Nat)(code:Int):Prop:=
 ∀(q:OA)(d:Nat)(w':World),Bw w w'->Rd w' (.S q n d) l->n<=d->Adr w' q d->Calls Tryz.prog F #[.S q n d] w' λr w''=>∃p' c' q' d' B,r=.returned (.tuple #[zl k s (.S p' NP c') f (.S q' NV d') 0 0,.I code])/\w'.heap.size<=B/\Own w'.heap.size w'' (.S p' NP c') P/\Btw w'.heap.size B (.S p' NP c')/\Own B w'' (.S q' NV d') V/\Bw w' w''
variable {F:Nat}
def aw7(h:∀(q:OA)(d:Nat)(w':World),Bw w w'->Rd w' (.S q n d) l->n<=d->Adr w' q d->Calls Tryz.prog F #[.S q n d] w' λe w''=>e=.returned (.tuple #[zl 0 0 aq 0 aq 0 0,.I 13])/\Bw w' w''):Iz F w l n 0 0 0 [] [] 0 0 13:=
 λq d w' hb hr hn ha=>(h q d w' hb hr hn ha).mono (by rintro r w''⟨rfl,h2⟩;exact⟨none,0,none,0,w'.heap.size,rfl,iD _,gm _ _ _ _,(λb e=>by simp[Value.ownBlock]at e),gm _ _ _ _,h2⟩)
def aI4{s f:Nat}(hk:k<256)(hs:s<2^64)(hf:f<256)(hP:aN P)(hV:aN V)(lP:Mg P.length)(lV:Mg V.length):aN (D5 k s P f V):=
 aN.app (λz hz=>by simp at hz;subst hz;omega) (aN.app (ky hs) (aN.app (aN.app (ky af) hP) (aN.app (λz hz=>by simp at hz;subst hz;omega) (aN.app (ky af) hV))))
variable {S K:Nat}
def JN.parts(h:JN l K S P F V):P.length<=l.length/\V.length<=l.length:=by
 obtain⟨_,_,_,_,_,_,e⟩:=h;rw[e,D5,tx,tx];simp only[gU,iS,BO];omega
def aG6(en:l.length=n)(hb:aN l)(hl:Mg n)(me:∀K S P F V,¬JN l K S P F V):Iz 74 w l n 0 0 0 [] [] 0 0 13:=
 aw7 λq d w' Rv hr hn ha=>by obtain⟨⟨k,o1⟩,e1⟩:∃y,oB (some l)=y:=⟨_,rfl⟩;obtain⟨⟨s,o2⟩,e2⟩:∃y,oV o1=y:=⟨_,rfl⟩;obtain⟨⟨P,o3⟩,e3⟩:∃y,oT o2=y:=⟨_,rfl⟩;obtain⟨⟨f,o4⟩,e4⟩:∃y,oB o3=y:=⟨_,rfl⟩;obtain⟨⟨V,o5⟩,e5⟩:∃y,oT o4=y:=⟨_,rfl⟩;exact Ui en hr hb hl hn (P:=P) (V:=V) e1 e2 e3 e4 e5 (NP:=P.length) (NV:=V.length) rfl rfl (λK S F _ _ _=>me K S P F V)
def ad3(en:l.length=n)(hb:aN l)(hl:Mg n)(h:JN l K S P F V):Iz 74 w l n K S F P V P.length V.length 0:=λq d w' Rv hr hn ha=>by
 have hp:=h.parts
 let⟨r1,r2,r3,r4,r5⟩:=af8 (k:=K) (f:=F) (P:=P) (V:=V) h.2.2.1 af af
 exact Pq en hr hb hl hn (k:=K) (s:=S) (f:=F) (P:=P) (V:=V) (by show oB (some l)=_;rw[h.2.2.2.2.2.2];exact r1) r2 r3 r4 r5 (NP:=P.length) (NV:=V.length) rfl rfl (K:=K) (S:=S) (F:=F) rfl rfl rfl rfl h
variable {t:Bool}
def Ey(hm:m.length=n)(hb:aN m)(hl:Mg n)(e:sB m t=(x,m',t')):Ix m n t x m' m'.length t':=λR w' h=>Bu h hb hl e
def Qb(hb:aN m)(hl:Mg n)(e:sN 10 0 0 m t=(x,m',t')):Oa m n t x m' m'.length t':=λR w' h=>gi h hb hl e
def LH(hb:aN m)(hl:Mg n){x:LI}(e:sT m t=(x,m',t')):SJ m n t x x.length m' m'.length t':=λR w' h hR=>Fy h hb hl hR (x:=x) e (N:=x.length) rfl
def ao1(en:l.length=n)(hb:aN l)(hl:Mg n)(hT:N8 w)(h:JN l K S P F V):Iz 210 w l n K S F P V P.length V.length 0:=λq d w' Rv hr hn ha=>by
 have hp:=h.parts
 let⟨h1,h2,hS,hF,hfm,hj,hdl⟩:=id h
 have b1:aN (vi S++(tx P++([(F:Int)]++tx V))):=λz hz=>hb z (by rw[hdl,D5];exact Gw _ hz);have b2:aN (tx P++([(F:Int)]++tx V)):=λz hz=>b1 z (Gw _ hz);have b3:aN ([(F:Int)]++tx V):=λz hz=>b2 z (Gw _ hz);have b4:aN (tx V):=λz hz=>b3 z (Gw _ hz);have l0:l.length=1+(vi S++(tx P++([(F:Int)]++tx V))).length:=by rw[hdl,D5,gU];rfl
 have l1:(vi S++(tx P++([(F:Int)]++tx V))).length=(vi S).length+(tx P++([(F:Int)]++tx V)).length:=gU;have l2:(tx P++([(F:Int)]++tx V)).length=(tx P).length+([(F:Int)]++tx V).length:=gU;have l3:([(F:Int)]++tx V).length=1+(tx V).length:=gU;have hTw:N8 w':=λk a b=>(hT k a b).below Rv;have fo:=hTw K h1 h2;rw[show(rowOf K).2.2.2.2.2.2=true from hj]at fo;have e5:sT (tx V) false=(V,[],false):=by have:=Ww V (rest:=[]) (sh:=false) af;rwa [BI]at this
 refine Rh (p:=q) (c:=d) (n:=n) (l:=l) en (w:=w') hr hl hn ha.1 ha.2 hTw (k:=K) (s:=S) (f:=F) (P:=P) (V:=V) (m5:=[]) (NP:=P.length) (NV:=V.length) (t1:=false) (t2:=false) (t3:=false) (t4:=false) (t5:=false)
  (Ey (m':=vi S++(tx P++([(F:Int)]++tx V))) en hb hl (by rw[hdl];rfl)) (Qb b1 af (ae8 (s:=S) (sh:=false) hS)) (LH b2 af (Ww P (sh:=false) af)) (Ey (m':=tx V) rfl b3 af rfl) (LH b4 af e5) (LE:=D5 K S P F V) (NE:=(D5 K S P F V).length) rfl (hdl▸hb) hb ?_ (by show _=_;rw[<-hdl];simp) rfl
 intro q1 q2 d1 d2 w2 aK g1 g2;have Xk:=fo.below aK;exact xt K h1 h2 S F hS hF (e:=0) (g:=0) (p:=q1) (q:=q2) (c:=d1) (d:=d2) P V rfl rfl (w:=w2) g1 g2 af af Xk hfm rfl
def av8(hT:N8 w){k:Int}(s0:0<=s)(s1:s<2^64)(hP:aN P)(hV:aN V)(lP:Mg P.length)(lV:Mg V.length):∃LE:LI,aN LE/\Oe 240 w k s f 0 0 P.length V.length LE.length P V LE/\(LE=[]\/∃K S F:Nat,k=K/\s=S/\f=F/\∀l,LE=l->JN l K S P F V):=by
 by_cases hk:1<=k/\k<=13;{
 obtain⟨S,rfl⟩:∃S:Nat,s=(S:Int):=⟨s.toNat,af⟩;obtain⟨K,rfl⟩:∃K:Nat,k=(K:Int):=⟨k.toNat,af⟩;have h1:1<=K:=af;have h2:K<=13:=af;by_cases hB:(Fg K S f P.length V.length 0 0&&joR K)=true;{
 let⟨hf,hj⟩:=Bool.and_eq_true_iff.1 hB
 let⟨f0,f2⟩:=H6 h1 h2 hf
 obtain⟨F,rfl⟩:∃F:Nat,f=(F:Int):=⟨f.toNat,af⟩;refine⟨D5 K S P F V,aI4 af af af hP hV lP lV,?_,.inr ⟨K,S,F,rfl,rfl,rfl,λl e=>⟨h1,h2,af,af,hf,hj,e.symm⟩⟩⟩;intro q1 q2 d1 d2 w2 aK g1 g2;have Xk:=(hT K h1 h2).below aK;rw[show(rowOf K).2.2.2.2.2.2=true from hj]at Xk;exact xt K h1 h2 S F af af P V rfl rfl g1 g2 lP lV Xk hf rfl};{
 have hB':(Fg K S f P.length V.length 0 0&&joR K)=false:=by simpa using hB
 refine⟨[],λz hz=>by simp at hz,aw0 ?_,.inl rfl⟩;intro q1 q2 d1 d2 w' hb;exact MU h1 h2 (s:=S) (f:=f) (e:=0) (g:=0) ((hT K h1 h2).below hb) rfl hB'}};{refine⟨[],λz hz=>by simp at hz,aw0 ?_,.inl rfl⟩;intro q1 q2 d1 d2 w' hb;exact Jm af}
def aL4(en:l.length=n)(hb:aN l)(hl:Mg n)(hT:N8 w)(me:∀K S P F V,¬JN l K S P F V):Iz 210 w l n 0 0 0 [] [] 0 0 13:=
 aw7 λq d w' Rv hr hn ha=>by
  obtain⟨⟨k,m1,t1⟩,e1⟩:∃y,sB l false=y:=⟨_,rfl⟩;obtain⟨⟨s,m2,t2⟩,e2⟩:∃y,sN 10 0 0 m1 t1=y:=⟨_,rfl⟩;obtain⟨⟨P,m3,t3⟩,e3⟩:∃y,sT m2 t2=y:=⟨_,rfl⟩;obtain⟨⟨f,m4,t4⟩,e4⟩:∃y,sB m3 t3=y:=⟨_,rfl⟩;obtain⟨⟨V,m5,t5⟩,e5⟩:∃y,sT m4 t4=y:=⟨_,rfl⟩;have B1:=Bz (sh:=false) hb;rw[e1]at B1;obtain⟨B1,_,_,L1⟩:=B1;have B2:=Gb 10 0 0 m1 t1 B1 af;rw[e2]at B2;obtain⟨B2,L2,s0,s1⟩:=B2;have B3:=By (sh:=t2) B2;rw[e3]at B3;obtain⟨BP,B3,LP,L3⟩:=B3;have B4:=Bz (sh:=t3) B3;rw[e4]at B4;obtain⟨B4,_,_,L4⟩:=B4;have B5:=By (sh:=t4) B4;rw[e5]at B5;obtain⟨BV,_,LV,_⟩:=B5;dsimp only at B1 L1 B2 L2 s0 s1 BP B3 LP L3 B4 L4 BV LV;have hTw:N8 w':=λk a b=>(hT k a b).below Rv
  let⟨LE,BL,hE,hLE⟩:=av8 hTw (k:=k) (f:=f) s0 s1 BP BV af af
  refine UT (l:=l) en hr hl hn ha.1 ha.2 hTw
   (Ey en hb hl e1) (Qb B1 af e2) (LH B2 af e3) (Ey rfl B3 af e4) (LH B4 af e5) (LE:=LE) (NE:=LE.length) rfl BL hb hE (D:=decide (LE=l)) rfl ?_
  by_cases hd:LE=l;{
 left
 rcases hLE with h0|⟨K,S,F,_,_,_,h⟩;{
 have Fa:l=[]:=by rw[<-hd,h0]
 have h1:t1=true:=by have:=tX (λy=>y.2.2) e1;rw[Fa]at this;exact this.symm
 have h2:t2=true:=by have:=Md 10 0 0 m1 t1 h1;rw[e2]at this;exact this
 have h3:t3=true:=by have:=Ez (m:=m2) h2;rw[e3]at this;exact this
 have h4:t4=true:=by have:=EF (m:=m3) h3;rw[e4]at this;exact this
 have:=Ez (m:=m4) h4;rw[e5]at this;exact this};{exact absurd (h l hd) (me K S P F V)}};{
 right
 simpa using hd}
end Go.Proofs.YtnhnbpkfpaondaaGreatDoor
