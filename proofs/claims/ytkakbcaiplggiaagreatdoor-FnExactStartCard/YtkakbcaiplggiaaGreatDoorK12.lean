import Derived.Test.YtkakbcaiplggiaaGreatDoorK11
namespace Go.Proofs.YtkakbcaiplggiaaGreatDoor
set_option maxHeartbeats 12800000
set_option linter.all false
set_option maxRecDepth 100000
open Go.ChangeShapes Go.WideShapes Go.ChangeAt Go.RowKit Go.Maps Go.Proofs.Tryz
variable {B B' b bn bs cp cv d gN i j k m nh np nv:Nat}{C e g t x:Int}{D:SD}{F:Bool}{P V l:LI}{Qs:List Value}{nd:aC}{ns:List aC}{p pp pq pv:OA}{s:aP}{ss:List aP}{v:Value}{w0:World}
def PS.blt{w0 w:World}{SB NB HB UB:List Nat}(h:PS w0 w b bs bn D SB NB HB UB):∀z∈PL b bs bn SB NB HB UB,z<w.heap.size:=λz hz=>by
 simp only[PL,jG,gM]at hz;have key:∀{l:List Nat}{i:Nat},l.length=D.ns.length->l[i]?=some z->∃nd,D.ns[i]?=some nd:=λhl hi=>⟨_,bD (by rw[<-hl];exact(bf.1 hi).1)⟩;rcases hz with rfl|rfl|rfl|hz|hz|hz|hz;{exact aQ h.hd};{obtain⟨M,n,o,-⟩:=h.rT;exact o.lt};{obtain⟨M,n,o,-⟩:=h.lY;exact o.lt};{obtain⟨i,hi⟩:=gH.1 hz;obtain⟨s,hs⟩:∃s,D.ss[i]?=some s:=⟨_,bD (by rw[<-h.tR];exact(bf.1 hi).1)⟩;obtain⟨-,u,hc,-⟩:=h.uF i s z hs hi;exact aQ hc};{obtain⟨i,hi⟩:=gH.1 hz;obtain⟨nd,bj⟩:=key h.tT hi;obtain⟨g,hh,uu,h1,h2,h3,hN⟩:=h.nat bj;rw[hi]at h1;cases h1;obtain⟨V,hb,-⟩:=hN.blk;exact aQ hb};{obtain⟨i,hi⟩:=gH.1 hz;obtain⟨nd,bj⟩:=key h.hlen hi;obtain⟨g,hh,uu,h1,h2,h3,hN⟩:=h.nat bj;rw[hi]at h2;cases h2;obtain⟨es,c,hm⟩:=hN.Wv.at;exact aQ hm};{obtain⟨i,hi⟩:=gH.1 hz;obtain⟨nd,bj⟩:=key h.uy hi;obtain⟨g,hh,uu,h1,h2,h3,hN⟩:=h.nat bj;rw[hi]at h3;cases h3;obtain⟨es,c,hm⟩:=hN.WT.at;exact aQ hm}
def One.ofI{w0 w w':World}{z:Nat}(be:Bw w0 w)(hg:w.grownBy w' (some z))(hz:w0.heap.size<=z)(hn:∀cur ty m,w.heap[z]?≠some (.cells cur ty m)):One w0 w w' z:=
 ⟨(cR w0.heap.size w).grown hg be.size (λb e=>by cases e;exact hz),λy hy cg=>hg.block y hy (λe=>cg (by cases e;rfl)),λcur ty m hc=>absurd hc (hn cur ty m)⟩
def XX{SB NB HB UB:List Nat}{L:List Nat}(h:∀z∈PL b bs bn SB NB HB UB,z∈L):∀z∈PL b bs bn SB (NB.eraseIdx k) (HB.eraseIdx k) (UB.eraseIdx k),z∈L:=λz hz=>h z (by
 simp only[PL,jG,gM]at hz⊢;rcases hz with h|h|h|h|h|h|h;{exact .inl h};{exact .inr (.inl h)};{exact .inr (.inr (.inl h))};{exact .inr (.inr (.inr (.inl h)))};{exact .inr (.inr (.inr (.inr (.inl (Gw h)))))};{exact .inr (.inr (.inr (.inr (.inr (.inl (Gw h))))))};{exact .inr (.inr (.inr (.inr (.inr (.inr (Gw h))))))})
theorem J6{α β:Type}(f:α->β):∀(l:List α)(k:Nat),(l.eraseIdx k).map f=(l.map f).eraseIdx k
 |[],k=>ai
 |a::r,0=>ai
 |a::r,k+1=>by simp[J6 f r k]
theorem aa2{PP:List LI}(h:(ns.map (·.path)).drop i=PP.drop j)(hP:PP[j]?=some P):∃nd,ns[i]?=some nd/\nd.path=P:=by
 have h1:(PP.drop j)[0]?=some P:=by rw[Mq];simpa using hP
 rw[<-h,Mq,GK,nj]at h1;cases hn:ns[i]? with
 |none=>rw[hn]at h1;cases h1
 |some nd=>rw[hn]at h1;exact⟨nd,rfl,by simpa using h1⟩
def Gc{α:Type}{l PP:List α}(h:l.drop i=PP.drop j):l.drop (i+1)=PP.drop (j+1):=by
 have e1:l.drop (i+1)=(l.drop i).drop 1:=by rw[Gn]
 have e2:PP.drop (j+1)=(PP.drop j).drop 1:=by rw[Gn]
 rw[e1,e2,h]
structure CR(w0 Y w2 wr:World)(b bs bn:Nat)(SB:List Nat)(L:List Nat)(D:SD)(NB HB UB:List Nat):Prop where
 ps:PS w0 wr b bs bn D SB NB HB UB
 fr:Fr T3 Y wr
 kb:Kb L w2 wr
 sub:∀z∈PL b bs bn SB NB HB UB,z∈L
 sz:w2.heap.size<=wr.heap.size
theorem ar8{w:World}{SB NB HB UB:List Nat}(h:Hid (PS w0 w b bs bn D SB NB HB UB))(hC:Hid (CI D.ss D.ns))(Oe:Hid ((D.ns.map λnd=>rz nd.path).Pairwise (·<·)))(hk:Hid (D.ss[k]?=some s))(em:Hid (D.ns.length=m))(hm:Mg m):Calls prog 305 #[.agg #[.U s.1],.pointer (some (Ad b 0))] w λr w'=>∃SB' NB' YG UB',tG w0 w b bs bn (jM D s.1) SB' NB' YG UB' rV r w':=by
 obtain⟨X,Y,hX,hY,bY,zX,zY,BX,RY⟩:=vu w #[.U s.1] 262;have hid:=hC.so.rg s (aY (aa hk));have cQ:=keyOf_int_mk underlying31 (oY hid);have PY:=h.below bY;obtain⟨-,-,-,-,-,h5,-⟩:=PY.eh;obtain⟨M,n,oN,hn,mN,zN⟩:=PY.lY;have Sh:=h.be.size;have MU:Hid (∀nd∈D.ns,Maps.has M (cL nd.path)=true):=λnd bj=>by obtain⟨i,hi⟩:=gH.1 bj;obtain⟨gz,_,_,hgz,_,_⟩:=PY.nat hi;exact(mN.hs _).2 ⟨(cL nd.path,gz),by rw[gH];exact⟨i,by rw[nw,hi,hgz]⟩,rfl⟩
 have HY:=af (ah PY (ah BX RY));have HBY:=af bY;have HZY:=af zY;have MN:=af mN;have dK2:w0.heap.size<=Y.heap.size:=ae;rw[hY,hX]at h5 oN;clear PY BX RY bY zX zY mN zN
 go_in
 go_wp2_with(first
  |(at_range;refine wpList_range_own _ rfl _ 133 rfl 9 _ oe underlying133 _ bn n _ rfl oN ?_;intro w1 mP Ed Kz)
  |go_in)
 go_frame
 rw[<-hX,<-hY]at mP Ed⊢;obtain⟨r1,Rf⟩:=az Y.heap.size;rw[<-Rf]at mP⊢;have ER:=af Rf;have b1:Bw Y w1:=(cR Y.heap.size Y).grown Ed ao (λj hj=>by cases hj);have P1:=af (HY.1.below b1);have F1:=af (Fr.below (T:=T3) b1);have by5:w0.heap.size<=r1:=ae;clear Rf hX hY h5 oN Ed Kz b1
 go_loopw[6](λ_ wr=>∃(left:Lit->Bool)(jD:Nat),wr.ranges prog 9 aV bn r1 n M left jD/\Hid (PS w0 wr b bs bn {D with ns:=rR (IM s.1) left D.ns} SB NB HB UB)/\Hid (Fr T3 Y wr)) (λ_ wr=>wr.rangeLeft bn r1)
 exact⟨_,_,mP,by rw[Cy (aa MU)];exact P1,F1⟩;{
 obtain⟨left,jD,jN,Hs,EY⟩:=hrel;go_wp2_with(first
  |(at_next;refine fK _ rfl _ rfl 9 oe (λs:ByteArray=>.string s) aE1 bn r1 n _ _ MN _ _ rfl jN ?_ ?_)
  |go_in)
 {
 intro _ yb;have MV:=aa Hs;rw[JI yb]at MV;have SQ:=af (hC.cw s.1);obtain⟨D1,eD1⟩:∃D1:SD,D1={D with ns:=D.ns.map (IM s.1)}:=⟨_,rfl⟩;have KJ:D1.ns.length=m:=by rw[eD1,dZ];exact aa em
 have hPP:D1.ns.map (·.path)=D.ns.map (·.path):=by rw[eD1,qX];rfl
 rw[<-eD1]at MV;obtain⟨-,-,-,-,-,h5,-⟩:=MV.eh;obtain⟨M2,nn,oM,hnn,mM,zM⟩:=MV.lY;have hNM:=MV.sto.qj;have E1:=af eD1;obtain⟨Y2,eY2⟩:=az wr;subst eY2;have P2:=af MV;have HL1:=af KJ;have HPP:=af hPP;have ij:D1.ss=D.ss:=by rw[eD1]
 have DP:=af ij;have cn5:Hid ((D1.ns.map λnd=>rz nd.path).Pairwise (·<·)):=by show List.Pairwise _ _;rw[eD1,qX];exact Oe
 have yM:Hid (CI D1.ss D1.ns):=by rw[eD1];exact SQ
 clear yb Hs jN MV KJ hPP eD1 SQ ij;go_wp2_with fail;refine(T.kH bn nn M2 Y2 oM (by rw[zM,aa HL1];exact hm)).mono ?_;rintro r w2⟨kv,ks,rfl,SJ,Oa,aD⟩;obtain rfl:=xJ hNM cn5 mM SJ;obtain⟨p,c,rfl,Hm⟩:=L6 Oa;rw[aa HL1];have HK:=af Hm;obtain⟨DF,eDF⟩:=bH (dF s.1 m 0 D1);have hzK:=P2.blt;have HZK:=af hzK;have CR2:=af (show CR w0 Y w2 w2 b bs bn SB (PL b bs bn SB NB HB UB) D1 NB HB UB from⟨P2.below aD,EY.trans (Fr.below aD),λz _ _=>rfl,λz hz=>hz,iP _⟩);clear Hm Oa SJ oM mM hNM zM aD h5 hzK;go_wp2
 go_loopw[31](λiv wr=>∃(j i:Nat)(Dk:SD)(NBk HBk UBk:List Nat),j<=m/\iv=.I j/\Hid (dF s.1 (m-j) i Dk=DF)/\Hid ((Dk.ns.map (·.path)).drop i=(D1.ns.map (·.path)).drop j)/\Hid (CI Dk.ss Dk.ns)/\Hid (Dk.ss.map (·.1)=D1.ss.map (·.1))/\Hid (CR w0 Y w2 wr b bs bn SB (PL b bs bn SB NB HB UB) Dk NBk HBk UBk)) (λiv _=>m-(intOf iv).toNat)
 exact⟨0,0,D1,NB,HB,UB,fN _,rfl,eDF,bq,yM,bq,CR2⟩;{
 obtain⟨j,i,Dk,NBk,HBk,UBk,hj,rfl,hDF,aQ9,MZ,bG3,hR⟩:=hrel;obtain⟨-,-,-,-,h4,h5,-⟩:=hR.ps.eh;have cB:wr.cell? (Ad w.heap.size 0)=some (.U s.1):=aq (hR.fr.2 _ _ _ _ aZ HY.2.1) 0;by_cases aT:j<m;{
 have bu:=aS j m;obtain⟨x,hx⟩:∃x,D1.ns[j]?=some x:=⟨_,bD (by rw[aa HL1];exact aT)⟩;obtain⟨gk,rfl,hck⟩:∃gk,p=some (Ad gk 0)/\wr.cell? (Ad gk j)=some (.string (aO x.path)):=by rcases aa HK with h0|⟨gk,rfl,h1,h2,h3⟩;{rw[h0]at hx;simp at hx};{refine⟨gk,rfl,?_⟩;have h4:=h3 j x hx;rw[kS]at h4;exact(aF (hR.kb gk h2 (λhm=>aG (aa HZK gk hm))) j).trans h4}
 obtain⟨nd,hi,hpe⟩:=aa2 (aa aQ9) (P:=x.path) (by rw[nj,hx];rfl);rw[<-hpe]at hck;obtain⟨hT,hhp,hhl⟩:=MZ.nt nd (aY hi);obtain⟨g,hh,uu,hg,og,mO,hN,hlk⟩:=hR.ps.Qz hi hT.pl;obtain⟨B,eB⟩:=bH (nd.holders.contains s.1);have JF:=af (ah hi (ah hg (ah og mO)));have HT:=af (ah hT (ah hhp hhl));have HN:=af hN;have HCB:=af (λ(v:World)(hv:Fr T3 wr v)=>aq (hv.2 _ _ _ _ aZ (hR.fr.2 _ _ _ _ aZ HY.2.1)) 0);clear hx hpe hi hT hhp hhl hg og mO hN;go_wp2_with fail;clear hck hlk h5;refine(ld HN hid eB).mono ?_;rintro r w5⟨rfl,e8⟩;have B5:=af e8;have cB5:=aa HCB w5 (Fr.below e8);obtain⟨D2,eD2⟩:=bH (dO Dk i s.1);clear e8 cB
 go_upto_if 44 with fail
 go_cut[](λwd=>Hid (PS w0 wd b bs bn D2 SB NBk HBk UBk)/\Hid (Fr T3 wr wd)/\Hid (Kb (PL b bs bn SB NBk HBk UBk) wr wd))
 case first=>(
 cases B;{
 go_wp2_with fail;go_meet;have e2:D2=Dk:=by have:=Ij JF.1 eB;exact eD2.symm.trans this
 rw[e2];exact⟨af (hR.ps.below B5),af (Fr.below B5),af (Kb.below B5)⟩};{go_wp2_with fail;refine(JW (af (hR.ps.below B5)) (af JF.1) (af MZ.so) (af HT.1) hid (af HT.2.1) HT.2.2 eB).mono ?_;rintro r w6⟨P6,⟨F6,K6⟩,v6,rfl⟩;rw[aa eD2]at P6;have HP6:=af P6;have HF6:=af ((Fr.below B5).trans F6);have HK6:=af ((Kb.below B5).trans K6 B5.size);clear P6 F6 K6;go_wp2_with fail;go_meet;exact⟨HP6,HF6,HK6⟩})
 case rest=>(
 obtain⟨P6,F6,K6⟩:=hcut;obtain⟨q1,q2,q3,lx,q4,q5,q6⟩:=CI.drop MZ JF.1 s.1;rw[aa eD2]at q1 q2 q3 q4;have N6:=P6.mZ i lx g hh uu q4 JF.2.1 JF.2.2.1 JF.2.2.2;obtain⟨V6,-,-,-,n1,-⟩:=N6.cells;have cB6:=aa HCB wc F6;have cX:=DK (m:=m-j+i) (k:=i) ae eD2 q4;have be5:=aa hDF;rw[show m-j+i-i=m-j by omega]at cX;rw[cX]at be5;have aj7:(D2.ns.map (·.path)).drop i=(D1.ns.map (·.path)).drop j:=by rw[q2];exact aa aQ9
 have sz6:w2.heap.size<=wc.heap.size:=dQ hR.sz F6.1;have kb6:=hR.kb.trans (K6.mono hR.sub) hR.sz;have fr6:=hR.fr.trans F6;have HQ:=af (ah q1 (ah (q3.trans (aa bG3)) (ah q4 (ah aj7 be5))));have HS6:=af (ah sz6 (ah kb6 fr6));have HQ6:=af q6;clear N6 q1 q2 q3 q4 q6 cX be5 aj7 sz6 kb6 fr6;go_wp2_with fail;refine km bg (λW eW=>?_);have bW:=nH eW;have n1':=ag n1 bW;have cB7:=ag cB6 bW;have BW:=af bW;clear eW n1 cB6 bW cB5 h4
 repeat still_step
 refine iQ ?_;by_cases ho:lx.owner=s.1;{
 have Wt:(lx.owner==s.1)=true:=by simp[ho]
 have e7:=HQ.2.2.2.2;rw[bN ho,show m-j+i-1-i=m-(j+1) by omega]at e7;have E7:=af e7;have T7:=CI.tell HQ.1 HQ.2.2.1 2;have HRM:=Pk (af (P6.below BW)) (af HQ.2.2.1) (af HQ.1.so) (af (HQ.1.nt lx (aY HQ.2.2.1)).1) (af HQ.1.kd);rw[aa HQ6]at HRM;have cK3:=af HRM;have KL:i<D2.ns.length:=(bf.1 HQ.2.2.1).1;have hp7:Hid (((Sk (dV D2 i 2) i).ns.map (·.path)).drop i=(D1.ns.map (·.path)).drop (j+1)):=by show List.drop i (List.map _ (List.eraseIdx _ _))=_;rw[J6,T7.2.1,Ih (by rw[dZ];exact KL)];exact Gc HQ.2.2.2.1
 have C7:=af (CI.rm T7.1 i);have I7:Hid ((Sk (dV D2 i 2) i).ss.map (·.1)=D1.ss.map (·.1)):=T7.2.2.1.trans HQ.2.1;clear ho e7 T7 HRM KL;go_wp2_with fail;refine cK3.mono ?_;rintro r w7⟨P7,⟨F7,K7⟩,v7,rfl⟩;have R7:=af (show CR w0 Y w2 w7 b bs bn SB (PL b bs bn SB NB HB UB) (Sk (dV D2 i 2) i) (NBk.eraseIdx i) (HBk.eraseIdx i) (UBk.eraseIdx i)from⟨P7,(HS6.2.2.trans (Fr.below BW)).trans F7,(HS6.2.1.trans (Kb.below BW) HS6.1).trans (K7.mono hR.sub) (by have:=BW.size;have:=HS6.1;omega),XX hR.sub,by have:=BW.size;have:=HS6.1;have:=F7.1;omega⟩);clear P7 F7 K7 n1' cB7;go_wp2;go_roundw;exact⟨j+1,i,_,_,_,_,ae,by go_num,E7,hp7,C7,I7,R7⟩;exact bM};{
 have Wt:(lx.owner==s.1)=false:=by simp[ho]
 have e7:=HQ.2.2.2.2;rw[bG ho,show m-j+i-(i+1)=m-(j+1) by omega]at e7;have E7:=af e7;have hp7:=af (Gc HQ.2.2.2.1);have C7:=af HQ.1;have I7:=af HQ.2.1;have R7:=af (show CR w0 Y w2 W b bs bn SB (PL b bs bn SB NB HB UB) D2 NBk HBk UBk from⟨P6.below BW,HS6.2.2.trans (Fr.below BW),HS6.2.1.trans (Kb.below BW) HS6.1,hR.sub,by have:=BW.size;have:=HS6.1;omega⟩);clear ho e7;go_wp2;go_roundw;exact⟨j+1,i+1,_,_,_,_,ae,by go_num,E7,hp7,C7,I7,R7⟩
 case measure=>simp[intOf];omega})}
 {
 have bu:=dm j m;have e7:=aa hDF;rw[show m-j=0 by omega,dF]at e7;subst e7;have hFY:=hR.fr;have XJ:(Dk.ss.map (·.1))[k]?=some s.1:=by rw[aa bG3,aa DP,nj,aa hk];rfl
 obtain⟨s2,rO,es2⟩:∃s2,Dk.ss[k]?=some s2/\s2.1=s.1:=by
  rw[nj]at XJ;cases hq:Dk.ss[k]? with
  |none=>rw[hq]at XJ;cases XJ
  |some s2=>rw[hq]at XJ;exact⟨s2,rfl,by simpa using XJ⟩
 have Zh:=af (ah rO es2);clear XJ rO es2;go_wp2_with fail;refine dW 6 bg (λW eW=>?_);have bW:=nH eW;have PW:=hR.ps.below bW;have FW:=hFY.trans (Fr.below (T:=T3) bW);have c0:W.cell? (Ad w.heap.size 0)=some (.U s.1):=aq (FW.2 _ _ _ _ aZ HY.2.1) 0;obtain⟨-,-,-,-,k4,-⟩:=PW.eh;obtain⟨M4,n4,o4,hn4,s4,z4⟩:=PW.rT;obtain⟨Z,dN,ho,Aq⟩:=o4.drop iO underlying132 cQ 0;have OZ:=One.ofG PW.be Aq.grown PW.lo.2.1 (ownsMap_at o4);have PZ:=PW.cD7 Zh.1 OZ (λj' z' Od e'=>by
  have by8:=Jf.1 MZ.so.pw;obtain⟨l1,v1⟩:=bf.1 Zh.1;obtain⟨l2,v2⟩:=bf.1 Od;rcases GN k j' with hh|hh|hh;{have:=by8 k j' l1 l2 hh;rw[v1,v2]at this;omega};{exact hh.symm};{have:=by8 j' k l2 l1 hh;rw[v1,v2]at this;omega}) (λM' n' o'=>by
  rw[Zh.2];obtain⟨w2',QP,mV,-⟩:=o'.drop iO underlying132 cQ 0;rw[dN]at QP;cases QP;exact mV)
 have eCl:jM D s.1={Dk with ss:=Dk.ss.eraseIdx k}:=by have e9:=aa eDF;rw[aa E1,<-aa em]at e9;unfold jM;rw[e9,<-Xo MZ.so Zh.1,Zh.2]
 rw[<-eCl]at PZ;have HPZ:=af PZ;have FZ0:=FW.trans OZ.fr;have FZ:=af ((Fr.below (T:=T3) HBY).trans FZ0);have RZ0:=HY.2.2.fr FZ0;obtain⟨r0,r1',r2,r3,r4,r5,r6,r7,rf⟩:=RZ0.cells;have RZ:=af RZ0;clear eW PZ OZ ho Aq o4 s4 z4 PW FW FZ0 RZ0 eCl h4 h5 hFY;simp only[Ab,sg,xO,tW]
 repeat still_step
 refine iQ ?_;go_wp2;exact zt RZ bg rfl rfl ⟨_,_,_,_,PS.rep HPZ RZ ae _ _ _ _ _ _ _ _,FZ.low ((di).mono ae),rfl⟩}}};{
 intro i0 pl g1 w4 ud bB0 hp hlp tf aT gx aj5 Ef;obtain⟨j,z,g1',hj,XK,ee⟩:=gR hp;simp only[fQ]at ee;obtain⟨rfl,rfl⟩:=ee;have um:∀cur ty m,wr.heap[r1]?≠some (.cells cur ty m):=λcur ty m e=>by obtain⟨es,clock,since,seen,c0,-,-,-,-,hi,-⟩:=jN;rw[hi]at e;cases e
 have Jq:∀es c,wr.heap[r1]?≠some (.map es c):=λes c e=>by obtain⟨es,clock,since,seen,c0,-,-,-,-,hi,-⟩:=jN;rw[hi]at e;cases e
 have O4:=One.ofI Hs.be gx by5 um;have P4:=Hs.iter O4 (λcs ty=>um cs ty _) Jq;have F4:=EY.trans O4.fr;have fT:=OE (f:=IM s.1) hj hlp;obtain⟨g9,hh,uu,z1,z2,z3,N4⟩:=P4.nat fT;rw[XK]at z1;cases z1;have XL:(Instr.entry (.pointer (some (Ad r1 0)))).run prog w4=.ok (.tuple #[.string i0,.pointer (some (Ad g1 0))]) w4:=Ef;have HP4:=af (ah P4 (ah F4 fT));have HRG:=af (ah tf aT);have JF:=af (ah hj (ah XK (ah z2 z3)));have HM:=af (ah jN.left_eq tf.left_eq);clear um Jq O4 P4 F4 fT N4 tf aT gx aj5 hp bB0 Hs EY Ef z2 z3 XK hj;go_wp2_with fail;refine dW 6 bg (λW eW=>?_);have bW:=nH eW;have PW:=HP4.1.below bW;have NW:=PW.mZ j z g1 hh uu HP4.2.2 JF.2.1 JF.2.2.1 JF.2.2.2;obtain⟨V,-,-,-,-,-,-,-,-,n6,-⟩:=NW.cells;have FW:=HP4.2.1.trans (Fr.below (T:=T3) bW);have c0:W.cell? (Ad w.heap.size 0)=some (.U s.1):=aq (FW.2 _ _ _ _ aZ HY.2.1) 0;obtain⟨M4,n4,o4,hn4,s4,z4⟩:=NW.WT;obtain⟨Z,dN,ho,Aq⟩:=o4.drop iO underlying139 cQ 0;have OZ:=One.ofG PW.be Aq.grown NW.lo.2.2 (ownsMap_at o4);have SZ:=SM.del (w:=W) s4 (hC.nt z (aY JF.1)).1.wpw hn4 ho;have PZ:=PW.WT HP4.2.2 JF.2.1 JF.2.2.1 JF.2.2.2 OZ SZ;have est:=Fp (f:=IM s.1) (left:=left) hC.kd JF.1;have PZ':Hid (PS w0 Z b bs bn {D with ns:=rR (IM s.1) (λz'=>left z'&&!z'.sameKey (cL z.path)) D.ns} SB NB HB UB):=by have:=PZ;simp only at this;rw[<-est];exact this
 have FZ:=af (FW.trans OZ.fr);have qx:Z.ranges prog 9 aV bn r1 n M (λz'=>left z'&&!z'.sameKey (cL z.path)) ud:=by
  refine CM HRG.1 ?_ ?_;{obtain⟨M9,n9,o9,-⟩:=PW.lY;refine(OZ.k bn o9.lt (λe=>(PW.hu.2.2.1 _ (aY JF.2.2.2)).2 e.symm)).trans ?_;rw[eW];rfl};{
 have hi9:∃o:Obj,W.heap[r1]?=some o/\∀es c,o≠.map es c:=by obtain⟨es,clock,since,seen,c0,-,-,-,-,hi,-⟩:=HRG.1;exact⟨_,by rw[eW];exact hi,λes c e=>by cases e⟩
 obtain⟨o,ho9,cg⟩:=hi9;refine(OZ.k r1 (aQ ho9) (λe=>?_)).trans (by rw[eW];rfl);obtain⟨es,c,hm4⟩:=ownsMap_at o4;rw[e,hm4]at ho9;exact cg es c (DZ ho9).symm}
 clear eW NW SZ PZ est OZ ho Aq o4 s4 z4 PW FW;simp only[Ab,sg,xO,tW]
 repeat still_step
 refine iQ ?_;go_wp2;go_roundw;exact⟨_,_,qx,PZ',FZ⟩
 case measure=>rw[qx.left_eq,jN.left_eq];exact HRG.2}}
def SM.nil{w:World}{u:Nat}(o:w.ownsMap prog 31 (unitElem (H:=Unit)) u 0 (.map [])):SM w u []:=
 ⟨_,0,o,aZ,(λk=>by simp[Maps.has]),rfl⟩
def xG{w:World}{P:Program}{k:TypeId}{R:Value->Option (DataW Unit×List MemPlace)}{b r n:Nat}{D:DataW Unit}{left:Lit->Bool}{jD:Nat}(h:w.ranges P k R b r n D left jD):(∀cur ty m,w.heap[r]?≠some (.cells cur ty m))/\∀es c,w.heap[r]?≠some (.map es c):=by
 obtain⟨es,clock,since,seen,c0,-,-,-,-,hi,-⟩:=h;exact⟨λcur ty m e=>(by rw[hi]at e;cases e),λes c e=>(by rw[hi]at e;cases e)⟩
theorem Na{w:World}{SB NB HB UB:List Nat}(h:Hid (PS w0 w b bs bn D SB NB HB UB))(hK:Hid (KD D.ns))(wD:Hid (∀(i j:Nat)(s s':aP),D.ss[i]?=some s->D.ss[j]?=some s'->i<j->s.1≠s'.1)):Calls prog 49 #[.pointer (some (Ad b 0))] w λr w'=>PS w0 w' b bs bn ⟨D.e,D.g,D.x,0,D.ss.map jh,D.ns.map iG⟩ SB NB HB UB/\Fr T3 w w'/\∃v,r=.returned v:=by
 obtain⟨h0,h1,h2,h3,h4,h5,hf⟩:=h.eh;have Sh:=h.be.size;obtain⟨Z,hZ⟩:=az (w.setCell (Ad b 3) (.I 0));have kZ:∀y,y≠b->Z.heap[y]?=w.heap[y]?:=λy hy=>by rw[hZ];exact fW _ _ _ _ hy
 have IF:Z.heap[b]?=some (.cells #[.U D.e,.U D.g,.U D.x,.I 0,.map (some bs),.map (some bn)] 135):=by rw[hZ];simp[World.setCell,xM,h.hd]
 have OZ:One w0 w Z b:=One.ofC h.be (by rw[hZ];exact au.setCell (p:=(Ad b 3)) ao _) h.hd h.lo.1 ai (λy _ hy=>kZ y hy);have PZ:=h.Vp OZ D.e D.g D.x 0 IF;obtain⟨M,n,oS,hn,mS,zS⟩:=PZ.rT;obtain⟨-,-,-,-,i4,-,-⟩:=PZ.eh;have MU:Hid (∀s∈D.ss,Maps.has M (.U s.1)=true):=λs hs=>by obtain⟨i,hi⟩:=gH.1 hs;obtain⟨gz,hgz,-⟩:=PZ.sat (i:=i) (s:=s) hi;exact(mS.hs _).2 ⟨(.U s.1,gz),by rw[gH];exact⟨i,by rw[nw,hi,hgz]⟩,rfl⟩
 have HP:=af PZ;have HF:=af OZ.fr;have HZs:=af OZ.b.size;have MS:=af mS;clear PZ OZ mS zS kZ IF h0 h1 h2 h5
 go_in
 subst hZ;go_wp2_with(first
  |(at_range;refine wpList_range_own _ rfl _ 132 rfl 31 _ iO underlying132 _ bs n _ rfl oS ?_;intro w1 mP Ed Kz)
  |go_in)
 have eZ:(w.setCell (Ad b 3) (.I 0)).heap.size=w.heap.size:=ai;rw[eZ]at mP HZs;obtain⟨Z,hZ⟩:=az (w.setCell (Ad b 3) (.I 0));rw[<-hZ]at HP HF Ed eZ;have b1:Bw Z w1:=(cR _ Z).grown Ed ao (λj hj=>by cases hj);have P1:=af (HP.below b1);have F1:=af (HF.trans (Fr.below (T:=T3) b1));obtain⟨r1,Rf⟩:=az w.heap.size;rw[<-Rf]at mP⊢;have Hi:w0.heap.size<=r1:=ae;clear Rf hZ eZ b1 Ed Kz oS i4 h3 h4 hf HP HF HZs
 go_loopw[3](λ_ wr=>∃(left:Lit->Bool)(jD:Nat),wr.ranges prog 31 aV bs r1 n M left jD/\Hid (PS w0 wr b bs bn ⟨D.e,D.g,D.x,0,nJ jh left D.ss,D.ns⟩ SB NB HB UB)/\Hid (Fr T3 w wr)) (λ_ wr=>wr.rangeLeft bs r1)
 exact⟨_,_,mP,by rw[Cz (aa MU)];exact P1,F1⟩;{
 clear mP P1 F1;obtain⟨left,jD,jN,Hs,EY⟩:=hrel;go_wp2_with(first
  |(at_next;refine fK _ rfl _ rfl 31 iO (λi:Int=>.int .u64 i) aY7 bs r1 n _ _ MS _ _ rfl jN ?_ ?_)
  |go_in)
 {
 intro _ yb;have MV:=aa Hs;rw[JK yb]at MV;obtain⟨-,-,-,-,-,i5,-⟩:=MV.eh;obtain⟨M2,m,oN,hm,mN,zN⟩:=MV.lY;have bE0:Hid (∀nd∈D.ns,Maps.has M2 (cL nd.path)=true):=λnd bj=>by obtain⟨i,hi⟩:=gH.1 bj;obtain⟨gz,_,_,hgz,_,_⟩:=MV.nat (i:=i) (nd:=nd) hi;exact(mN.hs _).2 ⟨(cL nd.path,gz),by rw[gH];exact⟨i,by rw[nw,hi,hgz]⟩,rfl⟩
 obtain⟨Y,eY⟩:=az wr;subst eY;have hYs:=EY.1;have P2:=af MV;have MN:=af mN;clear MV Hs mN zN jN yb;go_wp2_with(first
  |(at_range;refine wpList_range_own _ rfl _ 133 rfl 9 _ oe underlying133 _ bn m _ rfl oN ?_;intro w3 ua wC hs3)
  |go_in)
 have b3:Bw Y w3:=(cR _ Y).grown wC ao (λj hj=>by cases hj);have P3:=af (P2.below b3);have F3:=af (EY.trans (Fr.below (T:=T3) b3));obtain⟨r2,Nh⟩:=az Y.heap.size;rw[<-Nh]at ua⊢;have lK:w0.heap.size<=r2:=ae;clear Nh b3 wC hs3 oN i5 P2 EY
 go_loopw[5](λ_ wr=>∃(left:Lit->Bool)(jD:Nat),wr.ranges prog 9 aV bn r2 m M2 left jD/\Hid (PS w0 wr b bs bn ⟨D.e,D.g,D.x,0,D.ss.map jh,rR iG left D.ns⟩ SB NB HB UB)/\Hid (Fr T3 w wr)) (λ_ wr=>wr.rangeLeft bn r2)
 exact⟨_,_,ua,by rw[Cy (aa bE0)];exact P3,F3⟩;{
 clear ua P3 F3;obtain⟨left,jD,jN,Hs,EY⟩:=hrel;go_wp2_with(first
  |(at_next;refine fK _ rfl _ rfl 9 oe (λs:ByteArray=>.string s) aE1 bn r2 m _ _ MN _ _ rfl jN ?_ ?_)
  |go_in)
 {
 intro _ yb;have hP4:=aa Hs;rw[JI yb]at hP4;have P4:=af hP4;clear hP4 Hs;go_wp2
 go_end0
 exact⟨P4,EY,_,rfl⟩};{
 intro i0 pl g1 w4 ud cQ hp hlp tf aT gx aj5 Ef;obtain⟨j,z,g1',hj,XK,ee⟩:=gR hp;simp only[fQ]at ee;obtain⟨rfl,rfl⟩:=ee;obtain⟨um,Jq⟩:=xG jN;have O4:=One.ofI Hs.be gx lK um;have P4:=Hs.iter O4 (λcs ty=>um cs ty _) Jq;have F4:=EY.trans O4.fr;have fT:=OE (f:=iG) hj hlp;obtain⟨g9,hh,uu,z1,z2,z3,N4⟩:=P4.nat fT;rw[XK]at z1;cases z1;obtain⟨V,-,-,-,-,-,-,-,-,n6,-⟩:=N4.cells;obtain⟨M4,n4,o4,hn4,s4,z4⟩:=N4.WT;obtain⟨v,w5,dN,MG,uo,hs5⟩:=JV underlying139 o4 0;have O5:=One.ofG P4.be uo N4.lo.2.2 (ownsMap_at o4);have P5:=P4.WT fT XK z2 z3 O5 (SM.nil MG);have P6:Hid (PS w0 w5 b bs bn ⟨D.e,D.g,D.x,0,D.ss.map jh,rR iG (λz'=>left z'&&!z'.sameKey (cL z.path)) D.ns⟩ SB NB HB UB):=by have:=P5;simp only at this;rw[<-Fp (f:=iG) (aa hK) hj];exact this
 have F5:=af (F4.trans O5.fr);have qx:w5.ranges prog 9 aV bn r2 m M2 (λz'=>left z'&&!z'.sameKey (cL z.path)) ud:=by refine CM tf ?_ ?_;{obtain⟨M9,n9,o9,-⟩:=P4.lY;exact O5.k bn o9.lt (λe=>(P4.hu.2.2.1 _ (aY z3)).2 e.symm)};{obtain⟨es,clock,since,seen,c0,-,-,-,-,hi,-⟩:=tf;refine O5.k r2 (aQ hi) (λe=>?_);obtain⟨es',c',hm4⟩:=ownsMap_at o4;rw[<-e,hi]at hm4;cases hm4}
 have XL:(Instr.entry (.pointer (some (Ad r2 0)))).run prog w4=.ok (.tuple #[.string i0,.pointer (some (Ad g1 0))]) w4:=Ef;clear gx hp cQ Hs EY O4 P4 F4 N4 P5 O5 MG uo hs5 um Jq o4 s4 z4;go_wp2;go_roundw;exact⟨_,_,qx,P6,F5⟩
 case measure=>rw[qx.left_eq,jN.left_eq];exact aT}}}
 {
 intro i0 pl g1 w2 ud cQ hp hlp tf aT gx aj5 Ef;obtain⟨j,z,g1',hj,XK,ee⟩:=gR hp;simp only[fQ]at ee;obtain⟨rfl,rfl⟩:=ee;obtain⟨um,Jq⟩:=xG jN;have O2:=One.ofI Hs.be gx Hi um;have P2:=Hs.iter O2 (λcs ty=>um cs ty _) Jq;have F2:=EY.trans O2.fr;have fT:=OG (f:=jh) hj hlp;obtain⟨a1,u,a2,a3⟩:=P2.uF j z g1 fT XK;have iW:w2.cell? (Ad g1 1)=some (.I z.2.1):=aq a2 1;have ku:w2.cell? (Ad g1 2)=some u:=aq a2 2;have hf:∀o,w2.frozen? (Ad g1 o)=false:=λo=>by simp[World.frozen?,a2]
 obtain⟨ZZ,hZZ⟩:=az ((w2.setCell (Ad g1 1) (.I 0)).setCell (Ad g1 2) (.S none 0 0));have O5:One w0 w2 ZZ g1:=One.ofC P2.be (by rw[hZZ];exact(au.setCell (p:=(Ad g1 1)) ao _).setCell (p:=(Ad g1 2)) ao _) a2 a1 ai (λy _ hy=>by rw[hZZ,fW _ _ _ _ hy,fW _ _ _ _ hy]);have P5:=P2.nJ (s':=jh z) fT XK O5 rfl ⟨a1,.S none 0 0,by rw[hZZ];simp[World.setCell,xM,a2,jh],AQ.nil _ _⟩;have P6:Hid (PS w0 ZZ b bs bn ⟨D.e,D.g,D.x,0,nJ jh (λz'=>left z'&&!z'.sameKey (.U z.1)) D.ss,D.ns⟩ SB NB HB UB):=by have:=P5;simp only at this;rw[<-Fq (f:=jh) (aa wD) hj];exact this
 have F5:=af (F2.trans O5.fr);have XL:(Instr.entry (.pointer (some (Ad r1 0)))).run prog w2=.ok (.tuple #[.U i0,.pointer (some (Ad g1 0))]) w2:=Ef;have qx:ZZ.ranges prog 31 aV bs r1 n M (λz'=>left z'&&!z'.sameKey (.U z.1)) ud:=by rw[hZZ];exact tf.of_walks ((KeepsWalks.setCell _ _ _).trans (KeepsWalks.setCell _ _ _))
 clear gx hp cQ Hs EY O2 P2 F2 O5 P5 a1 a2 a3 um Jq;go_wp2;rw[<-hZZ];go_roundw;exact⟨_,_,qx,P6,F5⟩
 case measure=>rw[qx.left_eq,jN.left_eq];exact aT}}
def PS.cF7{w0 w w':World}{SB NB HB UB:List Nat}(h:PS w0 w b bs bn D SB NB HB UB)(hE:PE w0 w gN s)(ya:gN∉SB)(hid:∀s'∈D.ss,s'.1≠s.1)(O:One w0 w w' bs)(hl:D.ss.length<1048576)(hM:∀M,w.ownsMap prog 31 aV bs D.ss.length M->w'.ownsMap prog 31 aV bs (D.ss.length+1) (M.put (.U s.1) (.lit (.I gN)))):PS w0 w' b bs bn {D with ss:=D.ss++[s]} (SB++[gN]) NB HB UB:=by
 obtain⟨d0,d1,d2,d3,d4,d5⟩:=h.hu;obtain⟨M,n,o,hn,m,hz⟩:=h.rT;obtain⟨es0,c0,m0⟩:=ownsMap_at o;have nc:∀{y:Nat}{cs:Array Value}{ty:TypeId},w.heap[y]?=some (.cells cs ty)->y≠bs:=λ{y cs ty}hy e=>by rw[e,m0]at hy;cases hy
 have l9:∀p∈List.zipWith (λ(s:aP)g=>(Lit.U s.1,g)) D.ss SB,p.1≠.U s.1:=λp hp e=>by obtain⟨i,s',y,h1,-,rfl⟩:=gR hp;exact hid s' (aY h1) (by simpa using e)
 have o':=fv o;rw[hz]at o';refine⟨h.be.trans O.b,O.obj h.hd (nc h.hd),by simp[h.tR],⟨_,_,hM M o',ae,?_,?_⟩,λj s1 g1 ij gx=>?_,?_,h.tT,h.hlen,h.uy,?_,λj lx gb h1 u1 ij gx AV rJ=>?_,h.nnd,h.lo,h.Np⟩;{rw[ae6 h.tR.symm];exact m.put o.isMap (k:=.U s.1) jR l9 gN};{
 have hh:Maps.has M (.U s.1)=false:=by rw[DY];intro e;obtain⟨p,hp,e2⟩:=(m.hs _).1 e;exact l9 p hp e2
 rw[size_put (nS o iO),hh];simp[hz]};{
 have aT:j<D.ss.length\/j=D.ss.length:=by have:=(bf.1 ij).1;simp at this;omega
 rcases aT with aT|rfl;{simp only[lE aT]at ij;rw[lE (h.tR▸aT)]at gx;have q:=h.uF j s1 g1 ij gx;obtain⟨-,u,h1,-⟩:=id q;exact q.keep O (nc h1)};{simp at ij;rw[<-h.tR]at gx;simp at gx;subst ij;subst gx;obtain⟨-,u,h1,-⟩:=id hE;exact hE.keep O (nc h1)}};{rw[BS];refine⟨h.snd,ai,λa ha c hc=>?_⟩;simp at hc;subst hc;exactλe=>ya (e▸ha)};{obtain⟨M,n,o,r⟩:=h.lY;exact⟨M,n,O.map o (λe=>d0 e.symm),r⟩};{have q:=h.mZ j lx gb h1 u1 ij gx AV rJ;obtain⟨-,⟨V,q1,-⟩,p3,p4⟩:=id q;exact q.keep O (nc q1) (d1 _ (aY AV)).1 (d2 _ (aY rJ)).1}
def aB5{w:World}{SB NB HB UB:List Nat}(h:Hid (PS w0 w b bs bn D SB NB HB UB))(hx:0<=D.x/\D.x<4611686018427387904)(ht:0<=D.t/\D.t<=1000000)(ya:Hid (∀s'∈D.ss,s'.1≠D.x+1))(hl:Hid (D.ss.length<1048576)):Calls prog 301 #[.agg #[],.pointer (some (Ad b 0))] w λr w'=>∃gN,tG w0 w b bs bn {D with x:=D.x+1,ss:=D.ss++[(D.x+1,D.t+10,[])]} (SB++[gN]) NB HB UB {rV with i:=D.x+1,n:=D.t+10} r w':=by
 obtain⟨X,Y,hX,hY,bY,zX,zY,BX,RY⟩:=vu w #[] 258;have RYH:=af RY;have Sh:=h.be.size;obtain⟨-,-,h2,-,-,-,hf⟩:=h.eh;have bl:b<w.heap.size:=aQ h.hd;have k2:=λ(o1 o2:Obj)=>ag h2 (((cR w.heap.size w).alloc ao o1).alloc ai o2);have kf:=λ(o1 o2:Obj)(o:Nat)=>((((cR w.heap.size w).alloc ao o1).alloc ai o2).frozen (p:=(Ad b o)) bl).trans (hf o);clear RY BX h2 hf bl
 go_in
 go_wp2_with fail;rw[<-hX,<-hY];clear k2 kf;have PY:=af (h.below bY);obtain⟨Z,hZ⟩:=az (Y.setCell (Ad b 2) (.U (D.x+1)));rw[<-hZ];have IF:Z.heap[b]?=some (.cells #[.U D.e,.U D.g,.U (D.x+1),.I D.t,.map (some bs),.map (some bn)] 135):=by rw[hZ];simp[World.setCell,xM,PY.hd]
 have O:=One.ofC PY.be (by rw[hZ];exact au.setCell (p:=(Ad b 2)) ao _:Below b Y Z) PY.hd PY.lo.1 ai (λz _ cg=>by rw[hZ];exact fW _ _ _ _ (show z≠_ from cg));have PZ:=af (PY.Vp O D.e D.g (D.x+1) D.t IF);have FZ:=af O.fr;clear IF O hZ PY hX hY;refine dW 10 bg (λW eW=>?_);have bW:=nH eW;have PW:=af (PZ.below bW);have FW:=af (FZ.trans (Fr.below (T:=T3) bW));obtain⟨-,-,q2,q3,-⟩:=PW.eh;clear eW bW PZ FZ;simp only[Ab,sg,xO,tW]
 repeat still_step
 refine iQ ?_;obtain⟨V,hV,bV,zV,-,gV⟩:=ar W #[.U (D.x+1),.I (D.t+10),.S none 0 0] 84;go_wp2_with fail;rw[<-hV];clear hV q2 q3;have PV:=af (PW.below bV);have FV:=af (FW.trans (Fr.below (T:=T3) bV));obtain⟨gN,eN⟩:=az W.heap.size;rw[<-eN]at gV⊢;have hnS:gN∉SB:=λe=>by obtain⟨i,hi⟩:=gH.1 e;obtain⟨s',Hg⟩:∃s',D.ss[i]?=some s':=⟨_,bD (by have:=PW.tR;simp only at this;rw[<-this];exact(bf.1 hi).1)⟩;obtain⟨-,u,hu,-⟩:=PW.uF i s' gN Hg hi;have:=aQ hu;omega
 have glo:w0.heap.size<=gN:=aG PW.be.size;have HN:=af (ah hnS glo);have GV:=af gV;clear hnS eN PW FW gV;refine dW 9 bg (λW2 eW2=>?_);have bV2:=nH eW2;have Zf:=af (PV.below bV2);have FW2:=af (FV.trans (Fr.below (T:=T3) bV2));obtain⟨-,-,-,-,q4,-⟩:=Zf.eh;have gW2:=(bV2.block gN (aQ GV)).trans GV;have g0:=aq gW2 0;have cQ:=keyOf_int_mk underlying31 (oY (i:=D.x+1) ae);obtain⟨M,n,o,hn,m,hz⟩:=Zf.rT;have o':=fv o;rw[hz]at o';obtain⟨U,dN,ho,yJ⟩:=o'.update iO underlying132 (by have:=aa hl;show D.ss.length<_;unfold maxLen;omega) cQ (lX gN);have O2:=One.ofG Zf.be yJ Zf.lo.2.1 (ownsMap_at o');have PU:=af (Zf.cF7 (s:=(D.x+1,D.t+10,[])) (gN:=gN) ⟨HN.2,_,gW2,AQ.nil _ _⟩ HN.1 ya O2 hl (λM' o1=>by obtain⟨U',Dp,Wt,-⟩:=o1.update iO underlying132 (by have:=aa hl;show D.ss.length<_;unfold maxLen;omega) cQ (lX gN);rw[dN]at Dp;cases Dp;exact Wt))
 have FU:=af (FW2.trans O2.fr);have cg:gN≠bs:=λe=>by obtain⟨es,c,hm⟩:=ownsMap_at o;rw[<-e,gW2]at hm;cases hm
 have GU:=af (O2.obj gW2 cg);clear eW2 bV2 gW2 o o' m hz ho yJ O2 PV FV cg;simp only[Ab,sg,xO,tW]
 repeat still_step
 refine iQ ?_;go_wp2_with fail;clear dN g0 q4 Zf FW2;refine dW 9 bg (λW3 eW3=>?_);have bU:=nH eW3;have P3:=af (PU.below bU);have F3:=FU.trans (Fr.below (T:=T3) bU);have gW3:=(bU.block gN (aQ GU)).trans GU;have g0:=aq gW3 0;have g1:=aq gW3 1;have R3:=RYH.fr F3;obtain⟨r0,r1,r2,r3,r4,r5,r6,r7,rf⟩:=R3.cells;have F3':=af ((Fr.below (T:=T3) bY).trans F3);have R3':=af R3;clear eW3 bU gW3 R3 F3;simp only[Ab,sg,xO,tW]
 repeat still_step
 refine iQ ?_;go_wp2;exact zt R3' bg rfl rfl ⟨gN,PS.rep P3 R3' ae _ _ _ _ _ _ _ _,F3'.low ((di).mono ae),rfl⟩
def aa7:(fg l).length<=l.length+1:=by
 unfold fg;split;{simp};{rw[od];omega}
def aD6(hl:P.length<=1048577):keyOf prog 9 (.string (aO P))=some (cL P):=by
 rw[WideMaps.keyOf_string_mk underlying9 (by rw[ik];unfold maxLen;omega),oR]
def PS.bb9{w0 w:World}{SB NB HB UB:List Nat}(h:PS w0 w b bs bn D SB NB HB UB){g:Nat}(hi:D.ns[i]?=some nd)(hg:NB[i]?=some g)(hl:nd.path.length<=1048577):(Instr.lookup 133 (.map (some bn)) (.string (aO nd.path)) true).run prog w=.ok (.tuple #[.pointer (some (Ad g 0)),.bool true]) w:=by
 obtain⟨M,n,o,-,m,-⟩:=h.lY;obtain⟨v,ps,hr,hv⟩:=o.look_ok oe underlying133 (oG w) (zd:=.nil) (zp:=[]) rfl (aD6 hl);have hp:(cL nd.path,g)∈List.zipWith (λ(nd:aC)g=>(cL nd.path,g)) D.ns NB:=aY (i:=i) (by rw[nw,hi,hg]);rw[m.at' _ hp]at hv;obtain rfl:=kn hv;rw[hr,(m.hs _).2 ⟨_,hp,rfl⟩]
def PS.ac2{w0 w:World}{SB NB HB UB:List Nat}(h:PS w0 w b bs bn D SB NB HB UB)(l9:iq D.ns P=none)(hB:aN P)(xr:∀nd∈D.ns,aN nd.path)(hl:P.length<=1048577):(Instr.lookup 133 (.map (some bn)) (.string (aO P)) true).run prog w=.ok (.tuple #[.pointer none,.bool false]) w:=by
 obtain⟨M,n,o,-,m,-⟩:=h.lY;obtain⟨v,ps,hr,hv⟩:=o.look_ok oe underlying133 (oG w) (zd:=.nil) (zp:=[]) rfl (aD6 hl);have hh:Maps.has M (cL P)=false:=by rw[DY];intro e;obtain⟨p,hp,e2⟩:=(m.hs _).1 e;obtain⟨i,nd,y,hx,hy,rfl⟩:=gR hp;exact J4 l9 nd (aY hx) (mH (xr nd (aY hx)) hB e2)
 rw[Maps.atKey_of_not_has hh]at hv;obtain rfl:=uI hv;rw[hr,hh]
theorem Yt{w:World}{SB NB HB UB:List Nat}(h:Hid (PS w0 w b bs bn D SB NB HB UB))(hB:Hid (aN l))(xr:Hid (∀nd∈D.ns,aN nd.path))(hl:l.length<=1048577){B:Bool}(eB:Hid (dU D.ns l=B)):Calls prog 160 #[.pointer (some (Ad b 0)),.string (aO l)] w (Rb (.bool B) w):=by
 obtain⟨-,-,-,-,-,Dz,-⟩:=h.eh;have kY:((aO l).toList==(aO [47]).toList)=decide (l=[47]):=qN (aa hB) (by intro y hy;simp at hy;omega);rw[show(aO [47]).toList=[47]from fI [47]]at kY;by_cases qm:l=[47];{
 have eT:B=true:=by rw[<-aa eB,dU,bN qm]
 subst eT;have hr:((aO l).toList==[47])=true:=by rw[kY];simp[qm]
 obtain⟨s,es⟩:=az (aO l);rw[<-es]at hr⊢;clear kY qm es
 go_in
 go_wp2;go_ret;exact⟨rfl,cR _ _⟩};{
 have hr:((aO l).toList==[47])=false:=by rw[kY];simp[qm]
 have iY:(match iq D.ns l with|some nd=>nd.owner==0|none=>false)=B:=by rw[<-aa eB,dU,bG qm];rfl
 clear kY qm;cases hF:iq D.ns l with
 |none=>
  rw[hF]at iY;have eF:B=false:=iY.symm;subst eF;have dN:=h.ac2 hF hB xr hl;obtain⟨s,es⟩:=az (aO l);rw[<-es]at hr dN⊢;clear hF iY es
  go_in
  go_wp2;go_ret;exact⟨rfl,cR _ _⟩
 |some nd=>
  rw[hF]at iY;replace iY:(nd.owner==0)=B:=iY;obtain⟨rfl,i,hi⟩:=vP hF;obtain⟨g1,h1,u1,q1,q2,q3,hN⟩:=h.nat hi;have dN:=h.bb9 hi q1 hl;obtain⟨V,-,-,-,hcO,-⟩:=hN.cells;obtain⟨ow,Y9⟩:=aI nd.owner;rw[Y9]at hcO iY;obtain⟨s,es⟩:=az (aO nd.path);rw[<-es]at hr dN⊢;clear hF hi q1 q2 q3 hN Y9 es
  go_in
  go_wp2;go_ret;exact⟨by rw[<-iY];rfl,cR _ _⟩}
def Nq(D:SD)(P:LI):Int:=if(iq D.ns P).isSome then 6 else if dU D.ns (fg P)=false then 7 else if 200<=D.ns.length then 11 else 0
theorem Ym{w:World}{SB NB HB UB:List Nat}(h:Hid (PS w0 w b bs bn D SB NB HB UB))(hB:Hid (aN P))(Za:Hid (P.length=np))(rK:np<=1048576)(xr:Hid (∀nd∈D.ns,aN nd.path)){id:Int}(eC:Hid (Nq D P=C)):Calls prog 314 #[.agg #[.U id,.string (aO P),.bool F,.S pv nv cv],.pointer (some (Ad b 0))] w (Rb (H6 C) w):=by
 obtain⟨X,hX,bX,zX,CX,-⟩:=ar w #[.U id,.string (aO P),.bool F,.S pv nv cv] 264;have e:=aa eC;unfold Nq at e
 go_in
 go_wp2_with fail;rw[<-hX];refine km bg (λW eW=>?_);have bW:Bw w W:=eW▸bX.drew;have PW:=af (h.below bW);obtain⟨-,-,-,-,-,k5,-⟩:=PW.eh;have CW:=CX.dG (w':=W) (by rw[eW];rfl);have c1:=CW.1 1 _ rfl;have zW:w.heap.size<W.heap.size:=by rw[eW];show _<X.heap.size;omega
 have HCW:=af CW;clear hX eW CX CW;cases hF:iq D.ns P with
 |some nd=>
  rw[hF]at e;obtain⟨rfl,i,hi⟩:=vP hF;obtain⟨g1,h1,u1,q1,-,-,hN⟩:=PW.nat hi;have dN:=PW.bb9 hi q1 (by rw[aa Za];omega);have e':C=6:=by rw[<-e];rfl
  subst e';clear e hF hi q1 hN
  repeat still_step
  refine iQ ?_;go_wp2;go_ret;exact⟨rfl,bW⟩
 | none=>
  rw[hF]at e;have dN:=PW.ac2 hF (aa hB) (aa xr) (by rw[aa Za];omega);have E:=af e;clear e hF
  repeat still_step
  refine iQ ?_;go_wp2_with fail;refine(sQ (l:=P) (n:=np) Za hB rK (w:=W)).mono ?_;rintro r w2⟨rfl,rfl⟩;obtain⟨B,eB⟩:=bH (dU D.ns (fg P));have bz0:(fg P).length<=1048577:=by have:=aa7 (l:=P);have:=aa Za;omega
  go_wp2_with fail;refine(Yt (w:=w2) (b:=b) (bs:=bs) (bn:=bn) (D:=D) (SB:=SB) (NB:=NB) (HB:=HB) (UB:=UB) PW (l:=fg P) (af (sa hB)) xr bz0 (B:=B) eB).mono ?_;rintro r w5⟨rfl,e8⟩;have e:=aa E;rw[aa eB]at e;have ui:=af (aj bW e8);have P5:=af (PW.below e8);clear dN c1 k5 bz0 e8;cases B with
  |false=>
   have e':C=7:=by rw[<-e];simp
   subst e';clear e;go_wp2;go_ret;exact⟨rfl,ui⟩
  |true=>
   obtain⟨-,-,-,-,-,k5,-⟩:=P5.eh;obtain⟨M,n,o,hn,m,hz⟩:=P5.lY;have hlen:=o.len underlying133 3;rw[hz]at hlen;obtain⟨nl,jJ⟩:=aI D.ns.length;rw[jJ]at hlen e;clear o m hz jJ;by_cases h2:200<=nl;{
 have h2':=dA 200 nl;have e':C=11:=by rw[<-e];simp[h2]
 subst e';clear e;go_wp2;go_ret;exact⟨rfl,ui⟩};{
 have h2':¬(200:Int)<=(nl:Int):=ae;have e':C=0:=by rw[<-e];simp[h2]
 subst e';clear e;go_wp2;go_ret;exact⟨rfl,ui⟩}
def iw{α:Type}(j:Nat)(a:α)(l:List α):List α:=l.take j++a::l.drop j
def l8{α:Type}{a:α}{l:List α}(hj:j<=l.length):(iw j a l).length=l.length+1:=by
 unfold iw;simp;omega
def te{α:Type}(a:α){l:List α}:(iw j a l).Perm (a::l):=by
 unfold iw;refine ae5.trans ?_;rw[Dg]
def vQ{α:Type}{a:α}{l:List α}(hj:j<=l.length)(i:Nat):(iw j a l)[i]?=if i<j then l[i]? else if i=j then some a else l[i-1]?:=by
 unfold iw;by_cases h1:i<j;{rw[bN h1,lE (by rw[od];omega),GH,bN h1]};{rw[bG h1,nZ (by rw[od];omega),od,ae0 hj];by_cases h2:i=j;{subst h2;simp};{rw[bG h2];obtain⟨d,rfl⟩:∃d,i=j+d+1:=⟨i-j-1,ae⟩;rw[show j+d+1-j=d+1 by omega,BQ,Mq];simp}}
theorem Wo(nd:aC):∀l:List aC,∃j,j<=l.length/\mK nd l=iw j nd l
 |[]=>⟨0,ai,by simp[mK,iw]⟩
 |x::r=>by rw[mK];split;{exact⟨0,ai,by simp[iw]⟩};{obtain⟨j,hj,e⟩:=Wo nd r;refine⟨j+1,aU,?_⟩;rw[e];simp[iw]}
def Xz{α β γ:Type}(f:α->β->γ){a:α}{c:β}{l:List α}{m:List β}(hl:l.length=m.length)(hj:j<=l.length):List.zipWith f (iw j a l) (iw j c m)=iw j (f a c) (List.zipWith f l m):=by
 unfold iw;rw[ae6 (by simp[hl]),aO9,List.take_zipWith,List.drop_zipWith]
def PS.bM4{w0 w w':World}{SB NB HB UB:List Nat}(h:PS w0 w b bs bn D SB NB HB UB){hN uN:Nat}(hj:j<=D.ns.length)(hPN:PN w0 w gN hN uN nd)(hg:gN∉NB)(ya:∀z∈bs::bn::(HB++UB),z≠hN/\z≠uN)(hNu:hN≠uN)(hid:∀nd'∈D.ns,cL nd'.path≠cL nd.path)(O:One w0 w w' bn)(hl:D.ns.length<1048576)(hM:∀M,w.ownsMap Tryz.prog 9 aV bn D.ns.length M->w'.ownsMap Tryz.prog 9 aV bn (D.ns.length+1) (M.put (cL nd.path) (.lit (.I gN)))):PS w0 w' b bs bn {D with ns:=iw j nd D.ns} SB (iw j gN NB) (iw j hN HB) (iw j uN UB):=by
 obtain⟨d0,d1,d2,d3,d4,d5⟩:=h.hu;obtain⟨M,n,o,hn,m,hz⟩:=h.lY;obtain⟨es0,c0,m0⟩:=ownsMap_at o;have nc:∀{y:Nat}{cs:Array Value}{ty:TypeId},w.heap[y]?=some (.cells cs ty)->y≠bn:=λ{y cs ty}hy e=>by rw[e,m0]at hy;cases hy
 have l9:∀p∈List.zipWith (λ(nd:aC)g=>(cL nd.path,g)) D.ns NB,p.1≠cL nd.path:=λp hp e=>by obtain⟨i,s',y,h1,-,rfl⟩:=gR hp;exact hid s' (aY h1) e
 have o':=fv o;rw[hz]at o';refine⟨h.be.trans O.b,O.obj h.hd (nc h.hd),h.tR,?_,λi s1 g1 ij gx=>?_,h.snd,?_,?_,?_,⟨_,_,hM M o',ae,?_,?_⟩,λi lx gb h1 u1 ij gx AV rJ=>?_,?_,h.lo,?_⟩;{obtain⟨M,n,o,r⟩:=h.rT;exact⟨M,n,O.map o d0,r⟩};{have q:=h.uF i s1 g1 ij gx;obtain⟨-,u,h1,-⟩:=id q;exact q.keep O (nc h1)};{rw[l8 (h.tT▸hj),l8 hj,h.tT]};{rw[l8 (h.hlen▸hj),l8 hj,h.hlen]};{rw[l8 (h.uy▸hj),l8 hj,h.uy]};{rw[Xz _ h.tT.symm hj];refine(m.put o.isMap (k:=cL nd.path) jR l9 gN).same λp=>?_;rw[(te _).mem_iff];simp[or_comm]};{
 have hh:Maps.has M (cL nd.path)=false:=by rw[DY];intro e;obtain⟨p,hp,e2⟩:=(m.hs _).1 e;exact l9 p hp e2
 rw[size_put (nS o oe),hh,l8 hj];simp[hz]};{
 simp only[vQ hj]at ij;rw[vQ (h.tT▸hj)]at gx;rw[vQ (h.hlen▸hj)]at AV;rw[vQ (h.uy▸hj)]at rJ;have kp:∀{i':Nat},D.ns[i']?=some lx->NB[i']?=some gb->HB[i']?=some h1->UB[i']?=some u1->PN w0 w' gb h1 u1 lx:=λa1 a2 a3 a4=>by have q:=h.mZ _ lx gb h1 u1 a1 a2 a3 a4;obtain⟨-,⟨V,q1,-⟩,p3,p4⟩:=id q;exact q.keep O (nc q1) (d1 _ (aY a3)).2 (d2 _ (aY a4)).2
 by_cases e1:i<j;{rw[bN e1]at ij gx AV rJ;exact kp ij gx AV rJ};{rw[bG e1]at ij gx AV rJ;by_cases e2:i=j;{rw[bN e2]at ij gx AV rJ;cases ij;cases gx;cases AV;cases rJ;obtain⟨-,⟨V,q1,-⟩,p3,p4⟩:=id hPN;exact hPN.keep O (nc q1) (λe=>(ya bn ai).1 e.symm) (λe=>(ya bn ai).2 e.symm)};{rw[bG e2]at ij gx AV rJ;exact kp ij gx AV rJ}}};{rw[(te _).nodup_iff,Ah];exact⟨hg,h.nnd⟩};{
 have pm:(bs::bn::(iw j hN HB++iw j uN UB)).Perm (hN::uN::(bs::bn::(HB++UB))):=by
  have a1:(iw j hN HB++iw j uN UB).Perm (hN::uN::(HB++UB)):=
   ((te (j:=j) hN (l:=HB)).append (te (j:=j) uN (l:=UB))).trans ((ae5 (a:=uN) (l₁:=HB) (l₂:=UB)).cons hN)
  have a2:=(a1.cons bn).cons bs;have mv:∀(x y:Nat)(l:List Nat),(x::bs::bn::y::l).Perm (x::y::bs::bn::l):=λx y l=>(((List.Perm.swap y bn l).cons bs).trans (List.Perm.swap y bs (bn::l))).cons x;have a3:(bs::bn::hN::uN::(HB++UB)).Perm (hN::bs::bn::uN::(HB++UB)):=((List.Perm.swap hN bn (uN::(HB++UB))).cons bs).trans (List.Perm.swap hN bs _);exact(a2.trans a3).trans (mv hN uN _)
 rw[pm.nodup_iff,Ah,Ah];refine⟨λe=>?_,λe=>(ya uN e).2 rfl,h.Np⟩;rcases jG.1 e with e|e;{exact hNu e};{exact(ya hN e).1 rfl}}
def PG{Y:World}{s:Nat}(es:Y.heap.size=s)(v0 v1 v2 v4 v5:Value):∃V,V=((Y.alloc (.map #[] 0)).alloc (.map #[] 0)).alloc (.cells #[v0,v1,v2,.map (some s),v4,v5,.map (some (s+1))] 142)/\Bw Y V/\V.heap.size=s+3/\V.heap[s+2]?=some (.cells #[v0,v1,v2,.map (some s),v4,v5,.map (some (s+1))] 142)/\SM V s []/\SM V (s+1) []:=by
 subst es;have z1:(Y.alloc (.map #[] 0)).heap.size=Y.heap.size+1:=ai;have z2:((Y.alloc (.map #[] 0)).alloc (.map #[] 0)).heap.size=Y.heap.size+2:=ai;obtain⟨V,hV,bV,zV,-,gV⟩:=ar ((Y.alloc (.map #[] 0)).alloc (.map #[] 0)) #[v0,v1,v2,.map (some Y.heap.size),v4,v5,.map (some (Y.heap.size+1))] 142;rw[z2]at gV zV;have o1:=World.ownsMap_made (H:=Unit) Y prog 31 unitElem;have o2:=World.ownsMap_made (H:=Unit) (Y.alloc (.map #[] 0)) prog 31 unitElem;rw[z1]at o2;refine⟨V,hV,?_,zV,gV,?_,?_⟩;{exact aj ((au.alloc ao _).alloc (by rw[z1];omega) _) bV};{refine⟨.map [],0,?_,ae,dH.nil,rfl⟩;rw[hV];exact(o1.alloc _).alloc _};{refine⟨.map [],0,?_,ae,dH.nil,rfl⟩;rw[hV];exact o2.alloc _}
def Yn{w:World}{SB NB HB UB:List Nat}(h:Hid (PS w0 w b bs bn D SB NB HB UB)){id:Int}{VL:LI}(hV:Hid (AB w0 w (.S pv nv cv) VL))(rK:Hid (Mg P.length))(l9:Hid (∀nd'∈D.ns,cL nd'.path≠cL P))(hl:Hid (D.ns.length<1048576))(hj:Hid (j<=D.ns.length)):Calls prog 313 #[.agg #[.U id,.string (aO P),.bool F,.S pv nv cv],.pointer (some (Ad b 0))] w λr w'=>∃gN hN uN,tG w0 w b bs bn {D with ns:=iw j (mF P VL (if F then id else 0)) D.ns} SB (iw j gN NB) (iw j hN HB) (iw j uN UB) rV r w':=by
 obtain⟨X,Y,hX,hY,bY,zX,zY,BX,RY⟩:=vu w #[.U id,.string (aO P),.bool F,.S pv nv cv] 264;have hmm:=@VO prog;have RYH:=af RY;have Sh:=h.be.size;clear RY
 go_in
 cases F;{
 obtain⟨V,eV,bV,zV,gV,s1,s2⟩:=PG zY (.S pv nv cv) (.U 0) (.I 0) (.U 0) (.U 0);have HV:=af (ah bV (ah zV (ah gV (ah s1 s2))));have BXH:=af BX;clear bV zV gV s1 s2 BX;go_wp2_with fail;rw[<-hX,<-hY,<-eV];clear hX hY eV hmm;refine dW 8 bg (λW eW=>?_);obtain⟨bV,zV,gV,s1,s2⟩:=aa HV;have bVW:=nH eW;have ND:Bw Y W:=aj bV bVW;have bW:Bw w W:=aj bY ND;have PW:=af (h.below bW);have c1:=aq ((ND.block w.heap.size ae).trans BXH) 1;obtain⟨-,-,-,-,-,k5,-⟩:=PW.eh;have cQ:=aD6 (P:=P) (aG (aa rK));have gW:=(bVW.block (w.heap.size+1+1+2) ae).trans gV;have PNW:PN w0 W (w.heap.size+1+1+2) (w.heap.size+1+1) (w.heap.size+1+1+1) (mF P VL 0):=⟨⟨ae,ae,ae⟩,⟨_,gW,hV.fr (aM bW) ai⟩,s1.kept (bVW.block _ ae),s2.kept (bVW.block _ ae)⟩;obtain⟨M,n,o,hn,m,hz⟩:=PW.lY;have o':=fv o;rw[hz]at o';obtain⟨U,dN,ho,yJ⟩:=o'.update oe underlying133 (by have:=aa hl;unfold maxLen;omega) cQ (lX (w.heap.size+1+1+1+1));have O2:=One.ofG PW.be yJ PW.lo.2.2 (ownsMap_at o');have hgN:w.heap.size+1+1+2∉NB:=λe=>by obtain⟨i,hi⟩:=gH.1 e;obtain⟨nd',bj⟩:=h.bu5 hi;obtain⟨g',hh',uu',a1,a2,a3,MX⟩:=h.nat bj;rw[hi]at a1;cases a1;obtain⟨V',bR,-⟩:=MX.blk;have:=aQ bR;omega
 have hold:∀z∈bs::bn::(HB++UB),z<w.heap.size:=λz hz=>by
  have nb:∀i nd',D.ns[i]?=some nd'->∃hh uu,HB[i]?=some hh/\UB[i]?=some uu/\hh<w.heap.size/\uu<w.heap.size:=λi nd' bj=>by obtain⟨g',hh',uu',a1,a2,a3,MX⟩:=h.nat bj;obtain⟨es,c,m3⟩:=MX.Wv.at;obtain⟨es',c',m4⟩:=MX.WT.at;exact⟨_,_,a2,a3,aQ m3,aQ m4⟩
  simp only[jG,gM]at hz;rcases hz with rfl|rfl|hz|hz;{obtain⟨M,n,o,-⟩:=h.rT;exact o.lt};{obtain⟨M,n,o,-⟩:=h.lY;exact o.lt};{obtain⟨i,hi⟩:=gH.1 hz;obtain⟨hh,uu,a1,a2,a3,a4⟩:=nb i _ (bD (h.hlen▸(bf.1 hi).1));rw[hi]at a1;cases a1;exact a3};{obtain⟨i,hi⟩:=gH.1 hz;obtain⟨hh,uu,a1,a2,a3,a4⟩:=nb i _ (bD (h.uy▸(bf.1 hi).1));rw[hi]at a2;cases a2;exact a4}
 have PU:=af (PW.bM4 (j:=j) hj PNW hgN (λz hz=>aG (hold z hz)) ae l9 O2 hl (λM' o1=>by obtain⟨U',Dp,Wt,-⟩:=o1.update oe underlying133 (by have:=aa hl;unfold maxLen;omega) cQ (lX (w.heap.size+1+1+1+1));rw[dN]at Dp;cases Dp;exact Wt))
 have FY:=(Fr.below (T:=T3) ND).trans O2.fr;have RU:=RYH.fr FY;obtain⟨r0,r1,r2,r3,r4,r5,r6,r7,rf⟩:=RU.cells;have FU':=af ((Fr.below (T:=T3) bY).trans FY);have RU':=af RU;clear eW bV zV gV s1 s2 bVW ND gW PNW o o' m hz ho yJ O2 hgN hold FY RU HV;simp only[Ab,sg,xO,tW]
 repeat still_step
 refine iQ ?_;go_wp2;exact zt RU' bg rfl rfl ⟨_,_,_,PS.rep PU RU' ae _ _ _ _ _ _ _ _,FU'.low ((di).mono ae),rfl⟩};{
 obtain⟨V,eV,bV,zV,gV,s1,s2⟩:=PG zY (.S pv nv cv) (.U id) (.I 0) (.U 0) (.U 0);have HV:=af (ah bV (ah zV (ah gV (ah s1 s2))));have BXH:=af BX;clear bV zV gV s1 s2 BX;go_wp2_with fail;rw[<-hX,<-hY,<-eV];clear hX hY eV hmm;refine dW 8 bg (λW eW=>?_);obtain⟨bV,zV,gV,s1,s2⟩:=aa HV;have bVW:=nH eW;have ND:Bw Y W:=aj bV bVW;have bW:Bw w W:=aj bY ND;have PW:=af (h.below bW);have c1:=aq ((ND.block w.heap.size ae).trans BXH) 1;obtain⟨-,-,-,-,-,k5,-⟩:=PW.eh;have cQ:=aD6 (P:=P) (aG (aa rK));have gW:=(bVW.block (w.heap.size+1+1+2) ae).trans gV;have PNW:PN w0 W (w.heap.size+1+1+2) (w.heap.size+1+1) (w.heap.size+1+1+1) (mF P VL id):=⟨⟨ae,ae,ae⟩,⟨_,gW,hV.fr (aM bW) ai⟩,s1.kept (bVW.block _ ae),s2.kept (bVW.block _ ae)⟩;obtain⟨M,n,o,hn,m,hz⟩:=PW.lY;have o':=fv o;rw[hz]at o';obtain⟨U,dN,ho,yJ⟩:=o'.update oe underlying133 (by have:=aa hl;unfold maxLen;omega) cQ (lX (w.heap.size+1+1+1+1));have O2:=One.ofG PW.be yJ PW.lo.2.2 (ownsMap_at o');have hgN:w.heap.size+1+1+2∉NB:=λe=>by obtain⟨i,hi⟩:=gH.1 e;obtain⟨nd',bj⟩:=h.bu5 hi;obtain⟨g',hh',uu',a1,a2,a3,MX⟩:=h.nat bj;rw[hi]at a1;cases a1;obtain⟨V',bR,-⟩:=MX.blk;have:=aQ bR;omega
 have hold:∀z∈bs::bn::(HB++UB),z<w.heap.size:=λz hz=>by
  have nb:∀i nd',D.ns[i]?=some nd'->∃hh uu,HB[i]?=some hh/\UB[i]?=some uu/\hh<w.heap.size/\uu<w.heap.size:=λi nd' bj=>by obtain⟨g',hh',uu',a1,a2,a3,MX⟩:=h.nat bj;obtain⟨es,c,m3⟩:=MX.Wv.at;obtain⟨es',c',m4⟩:=MX.WT.at;exact⟨_,_,a2,a3,aQ m3,aQ m4⟩
  simp only[jG,gM]at hz;rcases hz with rfl|rfl|hz|hz;{obtain⟨M,n,o,-⟩:=h.rT;exact o.lt};{obtain⟨M,n,o,-⟩:=h.lY;exact o.lt};{obtain⟨i,hi⟩:=gH.1 hz;obtain⟨hh,uu,a1,a2,a3,a4⟩:=nb i _ (bD (h.hlen▸(bf.1 hi).1));rw[hi]at a1;cases a1;exact a3};{obtain⟨i,hi⟩:=gH.1 hz;obtain⟨hh,uu,a1,a2,a3,a4⟩:=nb i _ (bD (h.uy▸(bf.1 hi).1));rw[hi]at a2;cases a2;exact a4}
 have PU:=af (PW.bM4 (j:=j) hj PNW hgN (λz hz=>aG (hold z hz)) ae l9 O2 hl (λM' o1=>by obtain⟨U',Dp,Wt,-⟩:=o1.update oe underlying133 (by have:=aa hl;unfold maxLen;omega) cQ (lX (w.heap.size+1+1+1+1));rw[dN]at Dp;cases Dp;exact Wt))
 have FY:=(Fr.below (T:=T3) ND).trans O2.fr;have RU:=RYH.fr FY;obtain⟨r0,r1,r2,r3,r4,r5,r6,r7,rf⟩:=RU.cells;have FU':=af ((Fr.below (T:=T3) bY).trans FY);have RU':=af RU;clear eW bV zV gV s1 s2 bVW ND gW PNW o o' m hz ho yJ O2 hgN hold FY RU HV;simp only[Ab,sg,xO,tW]
 repeat still_step
 refine iQ ?_;go_wp2;exact zt RU' bg rfl rfl ⟨_,_,_,PS.rep PU RU' ae _ _ _ _ _ _ _ _,FU'.low ((di).mono ae),rfl⟩}
theorem am0(h:l.length=1)(s:Int):l.headD 0=s↔l.contains s=true:=by
 match l,h with
 |[y],_=>
  simp;exact⟨λe=>e.symm,λe=>e.symm⟩
def az9{s:Int}(h:nd.mode=1->nd.holders.length=1):ZI nd s=if nd.mode=1/\nd.holders.headD 0≠s then 9 else 0:=by
 unfold ZI;by_cases hm:nd.mode=1;{have:=am0 (h hm) s;by_cases hc:nd.holders.contains s=true;{rw[bG (by rw[hc];simp),bG (λe=>e.2 (this.2 hc))]};{rw[bN ⟨hm,by simpa using hc⟩,bN ⟨hm,λe=>hc (this.1 e)⟩]}};{rw[bG (λe=>hm e.1),bG (λe=>hm e.1)]}
def ag5{s F:Int}(hk:D.ns[k]?=some nd)(h:nL D nd s F≠0):sr D k s F=(D,AR (nL D nd s F)):=by
 unfold nL at h⊢;simp only[sr,hk];generalize nd.holders.contains s=B at h⊢;cases B;{by_cases h2:F=2;{by_cases h3:nd.mode=1;{simp[h2,h3]};{simp[h2,h3]at h}};{by_cases h3:nd.mode=0;{by_cases h4:4611686018427387904<=D.g;{simp[h2,h3,h4]};{simp[h2,h3,h4]at h}};{simp[h2,h3]}}};{simp}
def Kq{s:Int}(hk:D.ns[k]?=some nd)(h:nL D nd s 2=0):sr D k s 2=({D with ns:=D.ns.set k {nd with mode:=2,holders:=xA nd.holders s}},rV):=by
 unfold nL at h;simp only[sr,hk];generalize nd.holders.contains s=B at h⊢;cases B;{by_cases h3:nd.mode=1;{simp[h3]at h};{simp[h3]}};{simp at h}
def Ks{s:Int}(hk:D.ns[k]?=some nd)(hh:nd.mode=0->nd.holders=[])(h:nL D nd s 1=0):sr D k s 1=({D with g:=D.g+1,ns:=D.ns.set k {nd with mode:=1,holders:=xA nd.holders s,aJ:=D.e,gen:=D.g+1}},{rV with e:=D.e,g:=D.g+1})/\D.g<4611686018427387904:=by
 unfold nL at h;simp only[sr,hk];generalize nd.holders.contains s=B at h⊢;cases B;{by_cases h3:nd.mode=0;{by_cases h4:4611686018427387904<=D.g;{simp[h3,h4]at h};{refine⟨?_,ae⟩;rw[hh h3];simp[h3,h4,xA]}};{simp[h3]at h}};{simp at h}
def UN{S F:Int}(h:Nq D P≠0):mr D P V S F=(D,AR (Nq D P)):=by
 unfold Nq at h⊢;unfold mr;by_cases h1:(iq D.ns P).isSome=true;{simp[h1]};{by_cases h2:dU D.ns (fg P)=false;{simp[h1,h2]};{by_cases h3:200<=D.ns.length;{simp[h1,h2,h3]};{simp[h1,h2,h3]at h}}}
def DJ{S F:Int}(h:Nq D P=0):mr D P V S F=({D with ns:=mK (mF P V (if F=1 then S else 0)) D.ns},rV)/\iq D.ns P=none/\D.ns.length<200:=by
 unfold Nq at h;unfold mr;by_cases h1:(iq D.ns P).isSome=true;{simp[h1]at h};{by_cases h2:dU D.ns (fg P)=false;{simp[h1,h2]at h};{by_cases h3:200<=D.ns.length;{simp[h1,h2,h3]at h};{exact⟨by simp[h1,h2,h3],by simpa using h1,ae⟩}}}
def aa9(h:zG D≠0):pK D=(D,AR (zG D)):=by
 unfold zG at h⊢;unfold pK;by_cases h1:50<=D.ss.length;{simp[h1]};{by_cases h2:4611686018427387904<=D.x;{simp[h1,h2]};{simp[h1,h2]at h}}
def JZ(h:zG D=0):pK D=({D with x:=D.x+1,ss:=D.ss++[(D.x+1,D.t+10,[])]},{rV with i:=D.x+1,n:=D.t+10})/\D.ss.length<50/\D.x<4611686018427387904:=by
 unfold zG at h;unfold pK;by_cases h1:50<=D.ss.length;{simp[h1]at h};{by_cases h2:4611686018427387904<=D.x;{simp[h1,h2]at h};{exact⟨by simp[h1,h2],ae,ae⟩}}
def ndK(K:Int):Bool:=(K==5||(K==6||(K==7||(K==8||(K==9||(K==11||K==13))))))
def VH(h1:1<=k)(h2:k<=13){w:World}:Calls prog 236 #[.I (k:Int)] w λr w'=>r=.returned (.bool (ndK k))/\w'=w:=by
 have h:k=1\/k=2\/k=3\/k=4\/k=5\/k=6\/k=7\/k=8\/k=9\/k=10\/k=11\/k=12\/k=13:=ae;clear h1 h2;rcases h with rfl|rfl|rfl|rfl|rfl|rfl|rfl|rfl|rfl|rfl|rfl|rfl|rfl
 all_goals
  go_in
  go_wp2;go_ret;exact⟨rfl,rfl⟩
def tI(D:SD)(K:Int)(P:LI):Int:=if rY K P=true then 0 else if vp P=false then 4 else if ndK K=true/\(iq D.ns P).isNone=true then 5 else 0
theorem Rt{w:World}{SB NB HB UB:List Nat}(h:Hid (PS w0 w b bs bn D SB NB HB UB))(xr:Hid (∀nd∈D.ns,aN nd.path))(h1:1<=k)(h2:k<=13){S F E G:Int}(eP:Hid (P.length=np))(hP:Hid (Rd w (.S pp np cp) P))(hB:Hid (aN P))(hp:np<=1048576)(iW:np<=cp)(ku:Hid (cp<=maxLen))(hm:Hid (∃m,w.cell? (Ad 1 0)=some (.I m)))(eC:Hid (tI D k P=C)):Calls prog 225 #[.pointer (some (Ad b 0)),ID k S (.S pp np cp) F (.S pq nv cv) E G] w (Rb (H6 C) w):=by
 obtain⟨X,hX,bX,zX,CX,-⟩:=ar w #[.I (k:Int),.U S,.S pp np cp,.I F,.S pq nv cv,.U E,.U G] 73;have hcv:=λ(ob:Obj)=>dL eP (hP.below ((cR w.heap.size w).alloc ao ob));have kY:((aO P).toList==(aO [47]).toList)=decide (P=[47]):=qN (aa hB) (by intro y hy;simp at hy;omega);rw[show(aO [47]).toList=[47]from fI [47]]at kY;have e:=aa eC;unfold tI rY at e;obtain⟨st,est⟩:=bH (aO P);rw[aa est]at kY;simp only[aa est]at hcv;by_cases IG:(k:Int)=13/\P=[47];{
 have e13:((k:Int)==13)=true:=by simp[IG.1]
 have hr:(st.toList==[47])=true:=by rw[kY];simp[IG.2]
 have e':C=0:=by rw[<-e];simp[IG.1,IG.2]
 subst e';clear e IG kY
 go_in
 go_wp2;go_ret;exact⟨rfl,au.alloc ao _⟩};{
 have e1:(if vp P=false then 4 else if ndK k=true/\(iq D.ns P).isNone=true then 5 else 0)=C:=by
  rw[<-e];have:(decide ((k:Int)=13)&&decide (P=[47]))=false:=by simpa using IG
  rw[this];simp
 have E1:=af e1;have cq1:∃t,Hid (((k:Int)==13)=t/\(t=true->(st.toList==[47])=false)):=⟨_,af ⟨rfl,λht=>by rw[kY];simp at ht;simpa using λhP=>IG ⟨ae,hP⟩⟩⟩
 obtain⟨t,ht⟩:=cq1;obtain⟨B,eB⟩:=bH (vp P);clear e e1 IG kY
 go_in
 have STEP:True:=jR;cases t
 all_goals
  obtain⟨e13,cX⟩:=aa ht
  try have dE3:=cX rfl
  clear cX;go_wp2_with fail;rw[<-hX];refine(ai3 eP (hP.below bX) hB hp iW ku (hm.imp λm hm=>ag hm bX) eB).mono ?_;rintro r w2⟨rfl,aD⟩;have CW2:=CX.dG (w':=w2) (aD.block _ ae);have B2:=af (aj bX aD);have e:=aa E1;rw[aa eB]at e;clear aD hcv e13;cases B;{
 have e':C=4:=by rw[<-e];rfl
 subst e';clear e;go_wp2;go_ret;exact⟨rfl,B2⟩};{
 have e2:(if ndK k=true/\(iq D.ns P).isNone=true then 5 else 0)=C:=by simpa using e
 have E2:=af e2;clear e e2;go_wp2_with fail;refine km bg (λW eW=>?_);have bW:Bw w W:=eW▸B2.drew;have PW:=af (h.below bW);obtain⟨-,-,-,-,-,k5,-⟩:=PW.eh;have CW:=CW2.dG (w':=W) (by rw[eW];rfl);have c0:=CW.1 0 _ rfl;have c2:=CW.1 2 _ rfl;have hcv:=dL eP (hP.below bW);rw[aa est]at hcv;clear eW CW CW2;cases hF:iq D.ns P with
 |none=>
  have dN:=PW.ac2 hF (aa hB) (aa xr) (by rw[aa eP];omega);rw[aa est]at dN;have e:=aa E2;rw[hF]at e;clear hF
  repeat still_step
  refine iQ ?_;go_wp2_with fail;refine(VH h1 h2).mono ?_;rintro r w5⟨rfl,rfl⟩;obtain⟨T,eT⟩:=aI (ndK k);rw[eT]at e⊢;clear eT;cases T;{
 have e':C=0:=by rw[<-e];simp
 subst e';clear e;go_wp2;go_ret;exact⟨rfl,bW⟩};{
 have e':C=5:=by rw[<-e];simp
 subst e';clear e;go_wp2;go_ret;exact⟨rfl,bW⟩}
 |some nd=>
  obtain⟨rfl,i,hi⟩:=vP hF;obtain⟨g1,h1',u1,q1,-,-,hN⟩:=PW.nat hi;have dN:=PW.bb9 hi q1 (by rw[aa eP];omega);rw[aa est]at dN;have e:=aa E2;rw[hF]at e;have e':C=0:=by rw[<-e];simp
  subst e';clear hF hi q1 hN e
  repeat still_step
  refine iQ ?_;go_wp2_with fail;refine(VH h1 h2).mono ?_;rintro r w5⟨rfl,rfl⟩;obtain⟨T,eT⟩:=aI (ndK k);rw[eT];clear eT;cases T;{go_wp2;go_ret;exact⟨rfl,bW⟩};{go_wp2;go_ret;exact⟨rfl,bW⟩}}}
theorem PS.okS{w0 w:World}{SB NB HB UB:List Nat}(h:PS w0 w b bs bn D SB NB HB UB){S:Int}(hr:0<=S/\S<18446744073709551616):∃v,(Instr.lookup 132 (.map (some bs)) (.U S) true).run prog w=.ok (.tuple #[.pointer v,.bool (decide (0<=xF D.ss S))]) w:=by
 obtain⟨M,n,o,-,m,-⟩:=h.rT;obtain⟨v,ps,hrn,hv⟩:=o.look_ok iO underlying132 (Ou (w:=w)) (zd:=.nil) (zp:=[]) rfl (key:=.U S) (keyOf_int_mk underlying31 (oY hr));by_cases hs:xF D.ss S<0;{
 have hh:Maps.has M (.U S)=false:=by
  rw[DY];intro e;obtain⟨p,hp,e2⟩:=(m.hs _).1 e;obtain⟨i,s,y,hx,hy,rfl⟩:=gR hp;simp only[CN,Mm]at e2;unfold xF at hs;cases hf:D.ss.findIdx? (λs=>s.1==S)with
  |some k=>rw[hf]at hs;simp at hs;omega
  |none=>
   have:=VT.1 hf s (aY hx);simp[e2]at this
 rw[Maps.atKey_of_not_has hh]at hv;obtain rfl:=uI hv;refine⟨none,?_⟩;rw[hrn,hh,show decide (0<=xF D.ss S)=false by simp;omega]};{
 obtain⟨k,s,e1,hk⟩:=aA6 hs;obtain⟨g,hg,-⟩:=h.sat hk;have es:s.1=S:=by
  unfold xF at e1;cases hf:D.ss.findIdx? (λs=>s.1==S)with
  |none=>rw[hf]at e1;simp at e1
  |some k'=>
   rw[hf]at e1;simp at e1;obtain⟨h1,h2,-⟩:=Da.1 hf;have ek:k'=k:=ae;subst ek;have:D.ss[k']=s:=by rw[bD h1]at hk;simpa using hk
   rw[<-this];simpa using h2
 subst es;have hp:(Lit.U s.1,g)∈List.zipWith (λ(s:aP)g=>(Lit.U s.1,g)) D.ss SB:=aY (i:=k) (by rw[nw,hk,hg]);rw[m.at' _ hp]at hv;obtain rfl:=kn hv;refine⟨some (Ad g 0),?_⟩;rw[hrn,(m.hs _).2 ⟨_,hp,rfl⟩,show decide (0<=xF D.ss s.1)=true by simp;omega]}
def yz(D:SD)(se pa B:Bool)(K S:Int)(P:LI):Int:=if B=false then 2 else if se=true/\xF D.ss S<0 then 3 else if pa=true then tI D K P else 0
def ar4{w:World}{SB NB HB UB:List Nat}(h:Hid (PS w0 w b bs bn D SB NB HB UB))(xr:Hid (∀nd∈D.ns,aN nd.path))(h1:1<=k)(h2:k<=13){S F E G:Int}(hS:0<=S/\S<18446744073709551616)(eP:Hid (P.length=np))(hP:Hid (Rd w (.S pp np cp) P))(hB:Hid (aN P))(hp:np<=1048576)(iW:np<=cp)(ku:Hid (cp<=maxLen))(hm:Hid (∃m,w.cell? (Ad 1 0)=some (.I m))){se pa:Bool}{lo hi vs:Int}{sq jo:Bool}(hT:Hid (xw w 0 (k*7) se pa lo hi vs sq jo)){B:Bool}(eB:Hid (fmF se pa lo hi vs sq S F np nv E G=B))(eC:Hid (yz D se pa B k S P=C)):Calls prog 201 #[.pointer (some (Ad b 0)),ID k S (.S pp np cp) F (.S pq nv cv) E G] w (Rb (H6 C) w):=by
 obtain⟨X,hX,bX,zX,CX,-⟩:=ar w #[.I (k:Int),.U S,.S pp np cp,.I F,.S pq nv cv,.U E,.U G] 73;have e:=aa eC;unfold yz at e;have i3:(k:Int)<14:=ae;have i4:k<14:=ae;have i5:=dA 0 k
 go_in
 go_wp2_with fail;rw[<-hX];refine(oW h1 h2 (hT.below bX) eB).mono ?_;rintro r w2⟨rfl,aD⟩;have CW2:=CX.dG (w':=w2) (aD.block _ ae);have B2:=af (aj bX aD);clear aD hX CX;cases B;{
 have e':C=2:=by rw[<-e];rfl
 subst e';clear e;go_wp2;go_ret;exact⟨rfl,B2⟩};{
 have e2:(if se=true/\xF D.ss S<0 then 3 else if pa=true then tI D k P else 0)=C:=by simpa using e
 have E2:=af e2;clear e e2;go_wp2_with fail;refine km bg (λW eW=>?_);have bW:Bw w W:=eW▸B2.drew;have PW:=af (h.below bW);obtain⟨-,-,-,-,k4,-,-⟩:=PW.eh;have CW:=CW2.dG (w':=W) (by rw[eW];rfl);have c0:=CW.1 0 _ rfl;have c1:=CW.1 1 _ rfl;have c2:=CW.1 2 _ rfl;have c3:=CW.1 3 _ rfl;have c4:=CW.1 4 _ rfl;have c5:=CW.1 5 _ rfl;have c6:=CW.1 6 _ rfl;obtain⟨t0,t1,-⟩:=hT.below bW;obtain⟨v,dN⟩:=PW.okS (S:=S) hS;obtain⟨T,eT⟩:∃T,Hid (decide (0<=xF D.ss S)=T):=⟨_,af rfl⟩;rw[aa eT]at dN;have e:=aa E2;have bI6:(xF D.ss S<0)↔T=false:=by rw[<-aa eT];simp
 simp only[bI6]at e;clear eW CW CW2 bI6
 repeat still_step
 refine iQ ?_;clear dN k4;by_cases hx:se=true/\T=false;{
 obtain⟨rfl,rfl⟩:=hx;have e':C=3:=by rw[<-e];simp
 subst e';clear e;go_wp2;go_ret;exact⟨rfl,bW⟩};{
 have e3:(if pa=true then tI D k P else 0)=C:=by rw[bG hx]at e;exact e
 have E3:=af e3;clear e e3;have XC:(se=false/\T=false)\/(se=false/\T=true)\/(se=true/\T=true):=by cases se<;>cases T<;>simp at hx⊢
 clear hx;rcases XC with⟨rfl,rfl⟩|⟨rfl,rfl⟩|⟨rfl,rfl⟩
 all_goals
  cases pa;{
 have e':C=0:=by have:=aa E3;rw[<-this];rfl
 subst e';go_wp2;go_ret;exact⟨rfl,bW⟩};{
 have e3:tI D k P=C:=by have:=aa E3;rw[bN rfl]at this;exact this
 have E4:=af e3;clear e3;go_wp2_with fail;refine(Rt PW xr h1 h2 eP (af (hP.below bW)) hB hp iW ku (af (hm.imp λm hm=>ag hm bW)) E4).mono ?_;rintro r w9⟨rfl,AY⟩;have B9:=af (aj bW AY);clear AY;go_wp2;go_ret;exact⟨rfl,B9⟩}}}
def bt4(k:Nat)(S:Int)(st:ByteArray)(F:Int)(V:Value)(E G:Int):Value:=match k with
 |1=>.iface 258 (.agg #[])
 |2=>.iface 261 (.agg #[.int .u64 S])
 |3=>.iface 262 (.agg #[.int .u64 S])
 |4=>.iface 264 (.agg #[.int .u64 S,.string st,.bool (F==1),V])
 |5=>.iface 266 (.agg #[.int .u64 S,.string st])
 |6=>.iface 268 (.agg #[.string st])
 |7=>.iface 270 (.agg #[.int .u64 S,.string st,V])
 |8=>.iface 272 (.agg #[.int .u64 S,.string st,.int .i64 F])
 |9=>.iface 273 (.agg #[.int .u64 S,.string st])
 |10=>.iface 275 (.agg #[.int .u64 S,.string st,.int .u64 E,.int .u64 G])
 |11=>.iface 277 (.agg #[.int .u64 S,.string st])
 |12=>.iface 278 (.agg #[.int .u64 S])
 |_=>.iface 279 (.agg #[.string st])
def Pj(h1:1<=k)(h2:k<=13){S F E G:Int}(eP:Hid (P.length=np)){w:World}(hP:Hid (Rd w (.S pp np cp) P)):Calls prog 202 #[ID k S (.S pp np cp) F (.S pq nv cv) E G] w (Rb (bt4 k S (aO P) F (.S pq nv cv) E G) w):=by
 have hcv:=λ(o1 o2:Obj)=>dL (aa eP) (hP.below (((cR w.heap.size w).alloc ao o1).alloc ai o2));have cs1:=λ(o1:Obj)=>dL eP (hP.below ((cR w.heap.size w).alloc ao o1));obtain⟨st,est⟩:=aI (aO P);simp only[est]at hcv cs1⊢;clear est;have h:k=1\/k=2\/k=3\/k=4\/k=5\/k=6\/k=7\/k=8\/k=9\/k=10\/k=11\/k=12\/k=13:=ae;clear h1 h2;rcases h with rfl|rfl|rfl|rfl|rfl|rfl|rfl|rfl|rfl|rfl|rfl|rfl|rfl
 all_goals
  go_in
  go_wp2;go_ret;exact⟨rfl,((cR w.heap.size w).alloc ao _).alloc ai _⟩
def KD.of(h:AM ss ns):KD ns:=λi j a c ha hc e=>by
 have e2:a.path=c.path:=mH (h.n2 a (aY ha)).1 (h.n2 c (aY hc)).1 e;rcases GN i j with hh|hh|hh;{exact absurd e2 (h.n3 i j a c ha hc hh)};{exact hh};{exact absurd e2.symm (h.n3 j i c a hc ha hh)}
def Gk(h:(List.range ns.length).all (lI e g ss ns)=true)(hi:ns[i]?=some nd):fe e g nd.mode nd.holders.length nd.aJ nd.gen=true/\iR ss nd.holders=true/\iR ss nd.watchers=true:=by
 have hl:=(bf.1 hi).1;have:=jy.1 h i (by simpa using hl);unfold lI at this;rw[gK,hi]at this;simp only[si,fx]at this;exact⟨this.2.2.2.2.2.2,this.2.2.2.2.1,this.2.2.2.2.2.1⟩
def xX{ids:LI}(h:iR ss ids=true):∀x∈ids,∃s∈ss,s.1=x:=λx hx=>by
 obtain⟨i,hi⟩:=gH.1 hx;have:=jy.1 h i (by simpa using(bf.1 hi).1);unfold Jm live at this;rw[gK,hi]at this;simp only[si,fx,Kl]at this;obtain⟨s,hs,e⟩:=this.1;exact⟨s,hs,by simpa using e⟩
def sY{e g mo ep ge:Int}(h:fe e g mo nh ep ge=true)(hm:mo=1):nh=1:=by
 unfold fe at h;rw[bN hm]at h;simp at h;exact h.1
def uR{e g mo ep ge:Int}(h:fe e g mo nh ep ge=true)(hm:mo≠1):ep=0/\ge=0/\(mo=0->nh=0):=by
 unfold fe at h;rw[bG hm]at h;simp only[fx,Mo]at h;refine⟨h.1,h.2.1,λh0=>?_⟩;have:=h.2.2;rw[bN h0]at this;simpa using this
def NT.of(hF:AM ss ns)(h:(List.range ns.length).all (lI e g ss ns)=true)(hi:ns[i]?=some nd)(hw:nd.watchers=[]):NT ss nd:=by
 obtain⟨a,b,c,d,f,k,m⟩:=hF.n2 nd (aY hi);exact⟨a,b,m,by rw[hw];exact iP _,xX (Gk h hi).2.2⟩
def U8{n c:Nat}{q:OA}(en:Hid (ss.length=n))(em:Hid (ns.length=m)){K S F E G:Int}(eP:Hid (P.length=np))(eV:Hid (V.length=nv)){w:World}(hS:Hid (kx B w (.S p n c) ss Qs))(hN:Hid (AK B w (.S q m d) ns))(hP:Hid (Rd w (.S pp np cp) P))(hV:Hid (Rd w (.S pq nv cv) V))(hB:B<=w.heap.size)(hn:Mg n)(hm:Mg m)(hp:np<=1048576)(hv:nv<=1048576)(iW:np<=cp)(ku:cp<=maxLen)(hW:Hid (WF ⟨e,g,x,t,ss,ns⟩))(bP:Hid (aN P)){R:SD×RP}(hj:Hid (K=1\/K=3\/K=4\/K=5\/K=7\/K=8\/K=9))(eR:Hid (fE ⟨e,g,x,t,ss,ns⟩ K S F E G P V=R)):Calls prog 76 #[ft e g x t (.S p n c) (.S q m d),ID K S (.S pp np cp) F (.S pq nv cv) E G] w λr w'=>QR B w w' r R.1 R.2:=by
 obtain⟨W0,dP,b0,z0,C0⟩:=gO w (.U e) (.U g) (.U x) (.I t) (.S p n c) (.S q m d);obtain⟨W1,lG,b1,z1,C1,-⟩:=ar W0 #[.I K,.U S,.S pp np cp,.I F,.S pq nv cv,.U E,.U G] 73;obtain⟨W2,nF,b2,z2,C2⟩:=qO W1;obtain⟨W3,Ay,b3,z3,C3⟩:=rA W2 (.I 0) (.U 0) (.U 0) (.U 0) (.I 0) aR aR aR;rw[z0]at C1 z1;rw[z1]at C2 z2;rw[z2]at C3 z3;have LQ:QB W3 w.heap.size _ _ _ _:=⟨((C0.below b1).below b2).below b3,(C1.below ae b2).below ae b3,C2.below b3,C3⟩;have bW:=aj (aj (aj b0 b1) b2) b3;have HA:=af (λ(v:World)(hv:Bw W3 v)=>ah (QB.keep LQ (λj h1 h2=>hv.block j ae)) (ah (hS.fr (aM (aj bW hv))) (ah (gy.fr (aa hN) (aM (aj bW hv))) (ah (hP.below (aj bW hv)) (ah (hV.below (aj bW hv)) (aj bW hv))))));have gq:=af (ah (aa bP) (λnd bj=>(hW.pb nd bj).2.1));have hR:=aa eR;unfold fE at hR;rw[aa eP,aa eV]at hR;have HR:=af hR;obtain⟨fb,efb⟩:=bH (fmI K S F np nv E G)
 go_in
 go_wp2_with fail;rw[<-dP,<-lG,<-nF,<-Ay];refine(ao4 efb).mono ?_;rintro r w1⟨rfl,aA⟩;have B1:=af aA;have z1':=aA.size;have e9:=aa HR;rw[aa efb]at e9;cases fb;{rw[bN rfl]at e9;have E9:=af e9;go_wp2_with fail;obtain⟨LW,SW,NW,-,-,BW⟩:=aa HA w1 B1;exact rq 2 4 5 13 14 2 results76 LW.1 LW.2.2.1 LW.2.2.2 en em SW NW (Fr.below BW) (BW.mono hB) hB E9};rw[bG ai]at e9;obtain⟨LC,-,-,-,-,-⟩:=aa HA w1 B1;have o0:=LC.2.1.1 0 _ rfl;have o1:=LC.2.1.1 1 _ rfl;have o2:=LC.2.1.1 2 _ rfl;have o3:=LC.2.1.1 3 _ rfl;have o4:=LC.2.1.1 4 _ rfl;have o5:=LC.2.1.1 5 _ rfl;have o6:=LC.2.1.1 6 _ rfl;obtain⟨k0,k1,k2,k3,k4,k5,kf⟩:=LC.1.cells;by_cases Uy:K=1;{
 rw[bN Uy]at e9;have cw8:(K==1)=true:=by simp[Uy]
 have E9:=af e9;go_wp2_with fail;obtain⟨-,S1,N1,-,-,bw1⟩:=aa HA w1 B1;refine(aa8 en em (af S1) (af N1) (aG bw1.size) hn hW.x hW.t).mono ?_;rw[aa E9];rintro r w9⟨p',c',q',d',Dv,Nv,Ev,Ve,rfl,Hr,DB,tD,tN,tE,hF,ox⟩;obtain⟨LW,-,-,-,-,bw9⟩:=aa HA w1 B1;have rC:=af (TX.fr (show TX w1 w.heap.size _ _ _ from⟨LW.1,LW.2.2.1,LW.2.2.2⟩) hF aZ);have HQ:=af (show QR B w1 w9 _ R.1 R.2 from⟨p',c',q',d',Dv,Nv,Ev,Ve,rfl,Hr,DB,tD,tN,tE,hF,ox⟩);obtain⟨dp,dc,rfl⟩:=tD.iK;obtain⟨xp,xc,rfl,-⟩:=RT.form tN;obtain⟨yp,yc,rfl,-⟩:=RT.form tE;have BW9:=af bw9;obtain⟨k0,k1,k2,k3,k4,k5,kf⟩:=rC.1.cells;obtain⟨q0,q1,q2,q3,q4,q5,qf⟩:=rC.2.1.cells;obtain⟨r0,r1,r2,r3,r4,r5,r6,r7,rf⟩:=rC.2.2.cells;go_wp2;obtain⟨fF,bF⟩:=TX.fin rC (.U R.1.e) (.U R.1.g) (.U R.1.x) (.I R.1.t) (.S p' R.1.ss.length c') (.S q' R.1.ns.length d') (.I R.2.k) (.U R.2.i) (.U R.2.e) (.U R.2.g) (.I R.2.n) (.S dp R.2.Ol.length dc) (.S xp R.2.nms.length xc) (.S yp R.2.Ng.length yc);refine dD (v:=.tuple #[ft R.1.e R.1.g R.1.x R.1.t (.S p' R.1.ss.length c') (.S q' R.1.ns.length d'),yF R.2.k R.2.i R.2.e R.2.g R.2.n (.S dp R.2.Ol.length dc) (.S xp R.2.nms.length xc) (.S yp R.2.Ng.length yc)]) (by simp[results,results76,go_sem,q0,q1,q2,q3,q4,q5,r0,r1,r2,r3,r4,r5,r6,r7]) rfl ?_;exact QR.low HQ (Fr.below BW9) (BW9.mono hB) fF bF hB};rw[bG Uy]at e9;have JK1:=af Uy;have cw8:(K==1)=false:=by simp[Uy]
 have E8:=af e9;go_wp2_with fail;refine(Ts en (af (aa HA w1 B1).2.1) hn).mono ?_;rintro r w2⟨rfl,aD⟩;have B2:=af (aj B1 aD);obtain⟨ix,eix⟩:=bH (xF ss S);obtain⟨T,eT⟩:=bH (YR K&&decide (ix<0));have e9:=aa E8;rw[aa eix,aa eT]at e9;rw[aa eix];have E7:=af e9;have z2':=B2.size;obtain⟨LC,-,-,-,-,-⟩:=aa HA w2 B2;have o0:=LC.2.1.1 0 _ rfl;have o1:=LC.2.1.1 1 _ rfl;have o2:=LC.2.1.1 2 _ rfl;have o3:=LC.2.1.1 3 _ rfl;have o4:=LC.2.1.1 4 _ rfl;have o5:=LC.2.1.1 5 _ rfl;have o6:=LC.2.1.1 6 _ rfl;obtain⟨k0,k1,k2,k3,k4,k5,kf⟩:=LC.1.cells
 go_upto_region 6 with fail
 go_cut[32](λrv wc=>rv=.bool T/\w2=wc)
 case first=>(
 go_wp2_with fail;refine(aZ0).mono ?_;rintro r w3⟨rfl,rfl⟩;obtain⟨hs,ehs⟩:=aI (YR K);have h9:=aa eT;rw[ehs]at h9⊢;cases hs;{have Yf:T=false:=h9.symm;subst Yf;go_wp2_with fail;go_meet;exact⟨rfl,rfl⟩};{
 by_cases hx:ix<0;{
 have Yf:T=true:=by rw[<-h9];simp[hx]
 subst Yf;go_wp2_with fail;go_meet
 first|exact⟨rfl,rfl⟩|exact⟨by simp[hx],rfl⟩}
 {
 have Yf:T=false:=by rw[<-h9];simp[hx]
 subst Yf;go_wp2_with fail;go_meet
 first|exact⟨rfl,rfl⟩|exact⟨by simp[hx],rfl⟩}})
 case rest=>(
 obtain⟨rfl,rfl⟩:=hcut;have e9:=aa E7;cases T;rotate_left;{rw[bN rfl]at e9;have E9:=af e9;go_wp2_with fail;obtain⟨LW,SW,NW,-,-,BW⟩:=aa HA w2 B2;exact rq 2 4 5 33 34 3 results76 LW.1 LW.2.2.1 LW.2.2.2 en em SW NW (Fr.below BW) (BW.mono hB) hB E9};rw[bG ai]at e9;have tw:IntKind.i64.wrap (t+10)=t+10:=jL _ (by have:=hW.t;simp only at this;omega);by_cases XP:K=2;{have h9:=aa hj;omega};rw[bG XP]at e9;have dM7:(K==2)=false:=by simp[XP]
 by_cases XO:K=3;{
 have cw7:(K==3)=true:=by simp[XO]
 rw[bN XO]at e9;obtain⟨D,eD⟩:=bH (jM ⟨e,g,x,t,ss,ns⟩ S);have bz3:=UR (D:=⟨e,g,x,t,ss,ns⟩) (id:=S);rw[aa eD]at e9 bz3;have HD:=af (ah e9 bz3);go_wp2_with fail;obtain⟨L2,S2,N2,-,-,bw2⟩:=aa HA w2 B2;have TX2:=af (show TX w2 w.heap.size _ _ _ from⟨L2.1,L2.2.2.1,L2.2.2.2⟩);have BW2:=af bw2;refine(Yq en em (af S2) (af N2) (af hW.nb) (aG bw2.size) hn hm eD).mono ?_;rintro r w3⟨p',c',q',d',rfl,⟨Q3,hS3⟩,Jv,Ee,Hp⟩;have rC:=af (TX.fr TX2 Ee aZ);obtain⟨k0,k1,k2,k3,k4,k5,kf⟩:=rC.1.cells;obtain⟨q0,q1,q2,q3,q4,q5,qf⟩:=rC.2.1.cells;obtain⟨r0,r1,r2,r3,r4,r5,r6,r7,rf⟩:=rC.2.2.cells;have HY:=af (ah hS3 (ah Jv (ah ((Fr.below (aa BW2)).trans Ee) ((BW2.mono hB).trans Hp))));go_wp2;obtain⟨fF,bF⟩:=TX.fin rC (.U e) (.U g) (.U x) (.I t) (.S p' D.ss.length c') (.S q' D.ns.length d') (.I 0) (.U 0) (.U 0) (.U 0) (.I 0) aR aR aR;refine dD (v:=.tuple #[ft e g x t (.S p' D.ss.length c') (.S q' D.ns.length d'),yF 0 0 0 0 0 aR aR aR]) (by simp[results,results76,go_sem,q0,q1,q2,q3,q4,q5,r0,r1,r2,r3,r4,r5,r6,r7]) rfl ?_;rw[<-HD.1];have hQ:=QR.num (e:=e) (g:=g) (x:=x) (t:=t) (ss:=D.ss) (ns:=D.ns) (af rfl) (af rfl) HY.1 HY.2.1 HY.2.2.1 HY.2.2.2 fF bF hB 0 0 0 0 0;have eq:(⟨e,g,x,t,D.ss,D.ns⟩:SD)=D:=by obtain⟨h1,h2,h3,h4⟩:D.e=e/\D.g=g/\D.x=x/\D.t=t:=HD.2;rw[<-h1,<-h2,<-h3,<-h4]
 rw[eq]at hQ;exact hQ};rw[bG XO]at e9;have JK3:=af XO;have cw7:(K==3)=false:=by simp[XO]
 by_cases bG0:K=12;{have h9:=aa hj;omega};rw[bG bG0]at e9;have db5:(K==12)=false:=by simp[bG0]
 obtain⟨rt,ert⟩:=bH (rY K P);unfold zy at e9;rw[aa ert]at e9;have E8:=af e9
 go_upto_region 18 with fail
 go_cut[8](λrv wc=>rv=.bool rt/\Hid (Bw W3 wc))
 case first=>(
 by_cases XQ:K=13;{have h9:=aa hj;omega};{
 have bF9:(K==13)=false:=by simp[XQ]
 have IG:rt=false:=by rw[<-aa ert,rY];simp[XQ]
 subst IG;go_wp2_with fail;go_meet;exact⟨rfl,B2⟩})
 case rest=>(
 obtain⟨w3,rfl⟩:=az wc;obtain⟨rfl,B3⟩:=hcut;obtain⟨LC,-,-,-,-,-⟩:=aa HA w3 B3;have o0:=LC.2.1.1 0 _ rfl;have o1:=LC.2.1.1 1 _ rfl;have o2:=LC.2.1.1 2 _ rfl;have o3:=LC.2.1.1 3 _ rfl;have o4:=LC.2.1.1 4 _ rfl;have o5:=LC.2.1.1 5 _ rfl;have o6:=LC.2.1.1 6 _ rfl;obtain⟨k0,k1,k2,k3,k4,k5,kf⟩:=LC.1.cells;obtain⟨T2,eT2⟩:=bH (!rt&&!vp P);have z3':=B3.size
 go_upto_region 19 with fail
 go_cut[106](λrv wc=>rv=.bool T2/\Hid (Bw W3 wc))
 case first=>(
 cases rt;{go_wp2_with fail;obtain⟨vb,evb⟩:=bH (vp P);refine(Lv eP (aa HA w3 B3).2.2.2.1 bP hp evb).mono ?_;rintro r w4⟨rfl,dS⟩;have h9:=aa eT2;rw[aa evb]at h9;have B4:=af (aj B3 dS);cases vb;{have h8:T2=true:=h9.symm;subst h8;go_wp2_with fail;go_meet;exact⟨rfl,B4⟩};{have h8:T2=false:=h9.symm;subst h8;go_wp2_with fail;go_meet;exact⟨rfl,B4⟩}};{have h8:T2=false:=eT2.symm;subst h8;go_wp2_with fail;go_meet;exact⟨rfl,B3⟩})
 case rest=>(
 obtain⟨w4,rfl⟩:=az wc;obtain⟨rfl,B4⟩:=hcut;have z4':=B4.size;have e9:=aa E8;rw[aa eT2]at e9;cases T2;rotate_left;{rw[bN rfl]at e9;have E9:=af e9;go_wp2_with fail;obtain⟨LW,SW,NW,-,-,BW⟩:=aa HA w4 B4;exact rq 2 4 5 107 108 4 results76 LW.1 LW.2.2.1 LW.2.2.2 en em SW NW (Fr.below BW) (BW.mono hB) hB E9};rw[bG ai]at e9;obtain⟨LC,-,-,-,-,-⟩:=aa HA w4 B4;have o0:=LC.2.1.1 0 _ rfl;have o1:=LC.2.1.1 1 _ rfl;have o2:=LC.2.1.1 2 _ rfl;have o3:=LC.2.1.1 3 _ rfl;have o4:=LC.2.1.1 4 _ rfl;have o5:=LC.2.1.1 5 _ rfl;have o6:=LC.2.1.1 6 _ rfl;obtain⟨k0,k1,k2,k3,k4,k5,kf⟩:=LC.1.cells;by_cases hK4:K=4;{
 have cw6:(K==4)=true:=by simp[hK4]
 rw[bN hK4]at e9;have E9:=af e9;go_wp2_with fail;obtain⟨-,S4,N4,P4,V4,bw4⟩:=aa HA w4 B4;refine(UM en em eP eV (af S4) (af N4) (af P4) (af V4) (aG bw4.size) hm hp hv iW ku gq E9).mono ?_;rintro r w9⟨p',c',q',d',Dv,Nv,Ev,Ve,rfl,Hr,DB,tD,tN,tE,hF,ox⟩;obtain⟨LW,-,-,-,-,bw9⟩:=aa HA w4 B4;have rC:=af (TX.fr (show TX w4 w.heap.size _ _ _ from⟨LW.1,LW.2.2.1,LW.2.2.2⟩) hF aZ);have HQ:=af (show QR B w4 w9 _ R.1 R.2 from⟨p',c',q',d',Dv,Nv,Ev,Ve,rfl,Hr,DB,tD,tN,tE,hF,ox⟩);obtain⟨dp,dc,rfl⟩:=tD.iK;obtain⟨xp,xc,rfl,-⟩:=RT.form tN;obtain⟨yp,yc,rfl,-⟩:=RT.form tE;have BW9:=af bw9;obtain⟨k0,k1,k2,k3,k4,k5,kf⟩:=rC.1.cells;obtain⟨q0,q1,q2,q3,q4,q5,qf⟩:=rC.2.1.cells;obtain⟨r0,r1,r2,r3,r4,r5,r6,r7,rf⟩:=rC.2.2.cells;go_wp2;obtain⟨fF,bF⟩:=TX.fin rC (.U R.1.e) (.U R.1.g) (.U R.1.x) (.I R.1.t) (.S p' R.1.ss.length c') (.S q' R.1.ns.length d') (.I R.2.k) (.U R.2.i) (.U R.2.e) (.U R.2.g) (.I R.2.n) (.S dp R.2.Ol.length dc) (.S xp R.2.nms.length xc) (.S yp R.2.Ng.length yc);refine dD (v:=.tuple #[ft R.1.e R.1.g R.1.x R.1.t (.S p' R.1.ss.length c') (.S q' R.1.ns.length d'),yF R.2.k R.2.i R.2.e R.2.g R.2.n (.S dp R.2.Ol.length dc) (.S xp R.2.nms.length xc) (.S yp R.2.Ng.length yc)]) (by simp[results,results76,go_sem,q0,q1,q2,q3,q4,q5,r0,r1,r2,r3,r4,r5,r6,r7]) rfl ?_;exact QR.low HQ (Fr.below BW9) (BW9.mono hB) fF bF hB};rw[bG hK4]at e9;have JK4:=af hK4;have cw6:(K==4)=false:=by simp[hK4]
 by_cases bG1:K=10;{have h9:=aa hj;omega};rw[bG bG1]at e9;have db6:(K==10)=false:=by simp[bG1]
 obtain⟨jx,ejx⟩:=bH (Sn ns P);simp only[aa ejx]at e9;have E7:=af e9;go_wp2_with fail;refine(TK em eP (gy.rdn (aa HA w4 B4).2.2.1) (aa HA w4 B4).2.2.2.1 hm ae gq hW.pd).mono ?_;rintro r w5⟨rfl,e8⟩;rw[aa ejx];have B5:=af (aj B4 e8);have z5':=B5.size;obtain⟨T3,eT3⟩:=bH (!rt&&decide (jx<0))
 go_upto_region 26 with fail
 go_cut[133](λrv wc=>rv=.bool T3/\w5=wc)
 case first=>(
 have h9:=aa eT3;cases rt;{
 by_cases hx:jx<0;{
 have h8:T3=true:=by rw[<-h9];simp[hx]
 subst h8;go_wp2_with fail;go_meet
 first|exact⟨rfl,rfl⟩|exact⟨by simp[hx],rfl⟩}
 {
 have h8:T3=false:=by rw[<-h9];simp[hx]
 subst h8;go_wp2_with fail;go_meet
 first|exact⟨rfl,rfl⟩|exact⟨by simp[hx],rfl⟩}}
 {have h8:T3=false:=h9.symm;subst h8;go_wp2_with fail;go_meet;exact⟨rfl,rfl⟩})
 case rest=>(
 obtain⟨rfl,rfl⟩:=hcut;have e9:=aa E7;rw[aa eT3]at e9;cases T3;rotate_left;{rw[bN rfl]at e9;have E9:=af e9;go_wp2_with fail;obtain⟨LW,SW,NW,-,-,BW⟩:=aa HA w5 B5;exact rq 2 4 5 134 135 5 results76 LW.1 LW.2.2.1 LW.2.2.2 en em SW NW (Fr.below BW) (BW.mono hB) hB E9};rw[bG ai]at e9;obtain⟨LC,-,-,-,-,-⟩:=aa HA w5 B5;have o0:=LC.2.1.1 0 _ rfl;have o1:=LC.2.1.1 1 _ rfl;have o2:=LC.2.1.1 2 _ rfl;have o3:=LC.2.1.1 3 _ rfl;have o4:=LC.2.1.1 4 _ rfl;have o5:=LC.2.1.1 5 _ rfl;have o6:=LC.2.1.1 6 _ rfl;obtain⟨k0,k1,k2,k3,k4,k5,kf⟩:=LC.1.cells;by_cases XQ:K=13;{have h9:=aa hj;omega};{
 have bF9:(K==13)=false:=by simp[XQ]
 rw[bG XQ]at e9;have IG:rt=false:=by rw[<-aa ert,rY];simp[XQ]
 have hx:¬jx<0:=λhx=>by have h:=aa eT3;rw[IG]at h;simp[hx]at h
 obtain⟨k,nd,ek,hk⟩:=aC4 (ns:=ns) (P:=P) (aa ejx▸hx);rw[aa ejx]at ek;subst ek;rw[qY]at e9;have E9:=af e9;have jl:=aY hk;have HK:=af hk;go_wp2_with fail;obtain⟨-,S5,N5,-,V5,bw5⟩:=aa HA w5 B5;refine(TJ en em HK eV (af S5) (af N5) (af V5) (aG bw5.size) hn hm (af (hW.nb nd jl)) (af (hW.vl nd jl)) hv (af hW.pb) hW.g (af (hW.ex nd jl)) (af (by have:=aa hj;have:=aa JK1;have:=aa JK3;have:=aa JK4;omega)) E9).mono ?_;rintro r w9⟨p',c',q',d',Dv,Nv,Ev,Ve,rfl,Hr,DB,tD,tN,tE,hF,ox⟩;obtain⟨LW,-,-,-,-,bw9⟩:=aa HA w5 B5;have rC:=af (TX.fr (show TX w5 w.heap.size _ _ _ from⟨LW.1,LW.2.2.1,LW.2.2.2⟩) hF aZ);have HQ:=af (show QR B w5 w9 _ R.1 R.2 from⟨p',c',q',d',Dv,Nv,Ev,Ve,rfl,Hr,DB,tD,tN,tE,hF,ox⟩);obtain⟨dp,dc,rfl⟩:=tD.iK;obtain⟨xp,xc,rfl,-⟩:=RT.form tN;obtain⟨yp,yc,rfl,-⟩:=RT.form tE;have BW9:=af bw9;obtain⟨k0,k1,k2,k3,k4,k5,kf⟩:=rC.1.cells;obtain⟨q0,q1,q2,q3,q4,q5,qf⟩:=rC.2.1.cells;obtain⟨r0,r1,r2,r3,r4,r5,r6,r7,rf⟩:=rC.2.2.cells;go_wp2;obtain⟨fF,bF⟩:=TX.fin rC (.U R.1.e) (.U R.1.g) (.U R.1.x) (.I R.1.t) (.S p' R.1.ss.length c') (.S q' R.1.ns.length d') (.I R.2.k) (.U R.2.i) (.U R.2.e) (.U R.2.g) (.I R.2.n) (.S dp R.2.Ol.length dc) (.S xp R.2.nms.length xc) (.S yp R.2.Ng.length yc);refine dD (v:=.tuple #[ft R.1.e R.1.g R.1.x R.1.t (.S p' R.1.ss.length c') (.S q' R.1.ns.length d'),yF R.2.k R.2.i R.2.e R.2.g R.2.n (.S dp R.2.Ol.length dc) (.S xp R.2.nms.length xc) (.S yp R.2.Ng.length yc)]) (by simp[results,results76,go_sem,q0,q1,q2,q3,q4,q5,r0,r1,r2,r3,r4,r5,r6,r7]) rfl ?_;exact QR.low HQ (Fr.below BW9) (BW9.mono hB) fF bF hB}))))
def uD{α:Type}{el:World->α->List Value->Prop}{P:Program}{w:World}{ops:Array Oper}{o:Oper}{a:Act}{K:Act->World->Prop}{Q:Exit->Act->World->Prop}{E:Prop}(mW:o.guard=none){s x:Operand}{t:TypeId}(ho:o.op=.call {callee:=.builtin .append,args:=#[s,x],argTypes:=#[t,t]}){e:TypeId}(i:TypeInfo){z:Value}(size:Nat){bytes:Nat}(ht:P.underlying t=some (.slice e))(hi:P.info? e=some i)(hz:i.zero=some z)(Ar:i.size=size)(gq:i.bytes=bytes)(hzs:z.cells.size=size)(jI:0<size){xs:List α}(ek:Hid (xs.length=k))(hs:a.eval s=v)(bO:RT el e size B w v xs)(g:Nat)(y:α){cs:List Value}(hx:a.eval x=.T g 1 1)(vd:el w y cs)(Su:cs.length=size)(jk:∀j u,cs[j]?=some u->w.cell? (Ad g j)=some u)(h1:∀u∈cs,u.oneCell'=true)(mX:∀w',Fr [e] w w'->∀x c,el w x c->el w' x c)(hk:k<4194304)(hbt:bytes<=256)(hB:B<=w.heap.size)(h:∀p' c' w',RT el e size B w' (.S p' (k+1) c') (xs++[y])->w.grownBy w' v.ownBlock->Fr [e] w w'->(∀g,(Value.slice p' (k+1) c').ownBlock=some g->v.ownBlock=some g\/w.heap.size<=g)->K (a.put o.dst (.S p' (k+1) c')) w'):if Region.wanted o (yielded ops a.tmps)=true then Oper.wp P o a w K Q else E:=by
 have htt:=bO.Zp;obtain⟨rs,g1,g2,g3,g4⟩:=bO;rw[aa ek]at g3;refine pf mW ho i size ht hi hz Ar gq hzs jI hs g3 1 1 cs hx (by rw[Su,Nat.one_mul]) jk h1 iF (by have:=Nat.mul_le_mul (show k+1<=4194304 by omega) hbt;omega) hB ?_
 intro v' w' du hg ya;have hf:Fr [e] w w':=Fr.grown hg λb hb=>by obtain⟨cur,hc⟩:=htt b hb;exact⟨cur,_,hc,ai⟩
 have sn:RT el e size B w' v' (xs++[y]):=RT.snoc g1 g2 g4 (mX w' hf) vd Su (aa ek▸du);obtain⟨p',c',rfl,-⟩:=RT.form sn;rw[ir,aa ek]at sn ya⊢;exact h p' c' w' sn hg hf ya
def UP{p0 p1 p4 p7:OA}{c0 c1 c4 c7 n0 n1 n4 n7:Nat}(e0:Hid (nd.path.length=n0))(e1:Hid (nd.value.length=n1))(e4:Hid (nd.holders.length=n4))(e7:Hid (nd.watchers.length=n7)){w:World}(h0:Rd w (.S p0 n0 c0) nd.path)(h1:Rd w (.S p1 n1 c1) nd.value)(h4:rD w (.S p4 n4 c4) nd.holders)(h7:rD w (.S p7 n7 c7) nd.watchers)(l0:Mg n0)(l1:Mg n1)(l4:Mg n4)(l7:Mg n7):Calls prog 133 #[ndV (.S p0 n0 c0) (.S p1 n1 c1) nd.owner nd.mode (.S p4 n4 c4) nd.aJ nd.gen (.S p7 n7 c7)] w λr w'=>∃q0 d0 q1 d1 q4 d4 q7 d7,r=.returned (ndV (.S q0 n0 d0) (.S q1 n1 d1) nd.owner nd.mode (.S q4 n4 d4) nd.aJ nd.gen (.S q7 n7 d7))/\TB w' (.S q0 n0 d0) nd.path/\TB w' (.S q1 n1 d1) nd.value/\TU w.heap.size w' (.S q4 n4 d4) nd.holders/\TU w.heap.size w' (.S q7 n7 d7) nd.watchers/\Bw w w':=by
 have HR:=af λ(w':World)(hb:Bw w w')=>ah (h0.below hb) (ah (h1.below hb) (ah (h4.below hb) (h7.below hb)));obtain⟨W0,dP,b0,z0,C0,T0⟩:=ar w #[.S p0 n0 c0,.S p1 n1 c1,.U nd.owner,.I nd.mode,.S p4 n4 c4,.U nd.aJ,.U nd.gen,.S p7 n7 c7] 119;obtain⟨W1,lG,b1,z1,C1,T1⟩:=ar W0 #[.S none 0 0,.S none 0 0,.U 0,.I 0,.S none 0 0,.U 0,.U 0,.S none 0 0] 119;rw[z0]at C1 T1 z1;have B0:=af (aj b0 b1);have C0:=af (C0.below ae b1);have T0:Hid (∃cur,W1.heap[w.heap.size]?=some (.cells cur 119)):=⟨_,(b1.block _ ae).trans T0⟩;have R0:=af C1;have TR:Hid (∃cur,W1.heap[w.heap.size+1]?=some (.cells cur 119)):=⟨_,T1⟩;have Z0:=z1
 go_in
 have k0:=C0.1 0 _ rfl;go_wp2_with fail;rw[<-dP,<-lG];refine(jS e0 (aa HR W1 B0).1 ae).mono ?_;rintro r w1⟨q0,d0,rfl,oj,sC⟩;have CY:=C0.below ae sC;have TY:∃cur,w1.heap[w.heap.size]?=some (.cells cur 119):=T0.imp λcur hc=>(sC.block _ ae).trans hc;have RY:=R0.below ae sC;obtain⟨X,hX⟩:=az (w1.setCell (Ad w.heap.size 0) (.S q0 n0 d0));have TR':∃cur,w1.heap[w.heap.size+1]?=some (.cells cur 119):=TR.imp λcur hc=>(sC.block _ ae).trans hc;have TR:Hid (∃cur,X.heap[w.heap.size+1]?=some (.cells cur 119)):=by rw[hX];exact af (TR'.imp λcur hc=>(fW _ _ _ _ (by show w.heap.size+1≠w.heap.size;omega)).trans hc)
 have ts:=dy (j:=0) (u:=.S q0 n0 d0) TY;rw[<-hX]at ts;have kj:=CY.1 0 _ rfl;have kf:=CY.2 0;have zj:=sC.size;have Z1:w.heap.size+1+1<=X.heap.size:=by rw[hX];simp;omega
 have C1:Hid (al X w.heap.size [.S q0 n0 d0,.S p1 n1 c1,.U nd.owner,.I nd.mode,.S p4 n4 c4,.U nd.aJ,.U nd.gen,.S p7 n7 c7]):=hX▸af (CY.fG 0 ai _);have T1:=af ts.1;have R1:Hid (al X (w.heap.size+1) [.S none 0 0,.S none 0 0,.U 0,.I 0,.S none 0 0,.U 0,.U 0,.S none 0 0]):=by rw[hX];exact af (RY.yv (a:=(Ad w.heap.size 0)) (by show w.heap.size+1≠w.heap.size;omega) _)
 have B1:Hid (Bw w X):=by rw[hX];exact af ((aj (aa B0) sC).setCell (p:=(Ad w.heap.size 0)) ao _)
 have t0:=af (oj.tb.fr ts.2);obtain⟨X1,hN⟩:=az X;rw[<-hN]at C1 T1 R1 B1 Z1 TR hX t0;have k1:=C1.1 1 _ rfl;rw[hX]at k1;go_wp2_with fail;rw[<-hX];refine(jS e1 (aa HR X1 B1).2.1 ae).mono ?_;rintro r w2⟨q1,d1,rfl,oj,sC⟩;have CY:=C1.below ae sC;have TY:∃cur,w2.heap[w.heap.size]?=some (.cells cur 119):=T1.imp λcur hc=>(sC.block _ ae).trans hc;have RY:=R1.below ae sC;obtain⟨X,hX⟩:=az (w2.setCell (Ad w.heap.size 1) (.S q1 n1 d1));have TR':∃cur,w2.heap[w.heap.size+1]?=some (.cells cur 119):=TR.imp λcur hc=>(sC.block _ ae).trans hc;have TR:Hid (∃cur,X.heap[w.heap.size+1]?=some (.cells cur 119)):=by rw[hX];exact af (TR'.imp λcur hc=>(fW _ _ _ _ (by show w.heap.size+1≠w.heap.size;omega)).trans hc)
 have ts:=dy (j:=1) (u:=.S q1 n1 d1) TY;rw[<-hX]at ts;have kj:=CY.1 1 _ rfl;have kf:=CY.2 1;have zj:=sC.size;have Z2:w.heap.size+1+1<=X.heap.size:=by rw[hX];simp;omega
 have C2:Hid (al X w.heap.size [.S q0 n0 d0,.S q1 n1 d1,.U nd.owner,.I nd.mode,.S p4 n4 c4,.U nd.aJ,.U nd.gen,.S p7 n7 c7]):=hX▸af (CY.fG 1 ai _);have T2:=af ts.1;have R2:Hid (al X (w.heap.size+1) [.S none 0 0,.S none 0 0,.U 0,.I 0,.S none 0 0,.U 0,.U 0,.S none 0 0]):=by rw[hX];exact af (RY.yv (a:=(Ad w.heap.size 1)) (by show w.heap.size+1≠w.heap.size;omega) _)
 have B2:Hid (Bw w X):=by rw[hX];exact af ((aj (aa B1) sC).setCell (p:=(Ad w.heap.size 1)) ao _)
 have t0:=af (((t0.fr (aM sC)).fr ts.2));have t1:=af (oj.tb.fr ts.2);obtain⟨X2,hN⟩:=az X;rw[<-hN]at C2 T2 R2 B2 Z2 TR hX t0 t1;have k4:=C2.1 4 _ rfl;rw[hX]at k4;go_wp2_with fail;rw[<-hX];refine(Wl e4 (aa HR X2 B2).2.2.1 ae).mono ?_;rintro r w3⟨q4,d4,rfl,oj,sC⟩;have CY:=C2.below ae sC;have TY:∃cur,w3.heap[w.heap.size]?=some (.cells cur 119):=T2.imp λcur hc=>(sC.block _ ae).trans hc;have RY:=R2.below ae sC;obtain⟨X,hX⟩:=az (w3.setCell (Ad w.heap.size 4) (.S q4 n4 d4));have TR':∃cur,w3.heap[w.heap.size+1]?=some (.cells cur 119):=TR.imp λcur hc=>(sC.block _ ae).trans hc;have TR:Hid (∃cur,X.heap[w.heap.size+1]?=some (.cells cur 119)):=by rw[hX];exact af (TR'.imp λcur hc=>(fW _ _ _ _ (by show w.heap.size+1≠w.heap.size;omega)).trans hc)
 have ts:=dy (j:=4) (u:=.S q4 n4 d4) TY;rw[<-hX]at ts;have kj:=CY.1 4 _ rfl;have kf:=CY.2 4;have zj:=sC.size;have Z3:w.heap.size+1+1<=X.heap.size:=by rw[hX];simp;omega
 have C3:Hid (al X w.heap.size [.S q0 n0 d0,.S q1 n1 d1,.U nd.owner,.I nd.mode,.S q4 n4 d4,.U nd.aJ,.U nd.gen,.S p7 n7 c7]):=hX▸af (CY.fG 4 ai _);have T3:=af ts.1;have R3:Hid (al X (w.heap.size+1) [.S none 0 0,.S none 0 0,.U 0,.I 0,.S none 0 0,.U 0,.U 0,.S none 0 0]):=by rw[hX];exact af (RY.yv (a:=(Ad w.heap.size 4)) (by show w.heap.size+1≠w.heap.size;omega) _)
 have B3:Hid (Bw w X):=by rw[hX];exact af ((aj (aa B2) sC).setCell (p:=(Ad w.heap.size 4)) ao _)
 have t0:=af (((t0.fr (aM sC)).fr ts.2));have t1:=af (((t1.fr (aM sC)).fr ts.2));have t4:=af ((oj.tu (B':=w.heap.size) ae).fr ts.2);obtain⟨X3,hN⟩:=az X;rw[<-hN]at C3 T3 R3 B3 Z3 TR hX t0 t1 t4;have k7:=C3.1 7 _ rfl;rw[hX]at k7;go_wp2_with fail;rw[<-hX];refine(Wl e7 (aa HR X3 B3).2.2.2 ae).mono ?_;rintro r w4⟨q7,d7,rfl,oj,sC⟩;have CY:=C3.below ae sC;have TY:∃cur,w4.heap[w.heap.size]?=some (.cells cur 119):=T3.imp λcur hc=>(sC.block _ ae).trans hc;have RY:=R3.below ae sC;obtain⟨X,hX⟩:=az (w4.setCell (Ad w.heap.size 7) (.S q7 n7 d7));have TR':∃cur,w4.heap[w.heap.size+1]?=some (.cells cur 119):=TR.imp λcur hc=>(sC.block _ ae).trans hc;have TR:Hid (∃cur,X.heap[w.heap.size+1]?=some (.cells cur 119)):=by rw[hX];exact af (TR'.imp λcur hc=>(fW _ _ _ _ (by show w.heap.size+1≠w.heap.size;omega)).trans hc)
 have ts:=dy (j:=7) (u:=.S q7 n7 d7) TY;rw[<-hX]at ts;have kj:=CY.1 7 _ rfl;have kf:=CY.2 7;have zj:=sC.size;have Z4:w.heap.size+1+1<=X.heap.size:=by rw[hX];simp;omega
 have C4:Hid (al X w.heap.size [.S q0 n0 d0,.S q1 n1 d1,.U nd.owner,.I nd.mode,.S q4 n4 d4,.U nd.aJ,.U nd.gen,.S q7 n7 d7]):=hX▸af (CY.fG 7 ai _);have T4:=af ts.1;have R4:Hid (al X (w.heap.size+1) [.S none 0 0,.S none 0 0,.U 0,.I 0,.S none 0 0,.U 0,.U 0,.S none 0 0]):=by rw[hX];exact af (RY.yv (a:=(Ad w.heap.size 7)) (by show w.heap.size+1≠w.heap.size;omega) _)
 have B4:Hid (Bw w X):=by rw[hX];exact af ((aj (aa B3) sC).setCell (p:=(Ad w.heap.size 7)) ao _)
 have t0:=af (((t0.fr (aM sC)).fr ts.2));have t1:=af (((t1.fr (aM sC)).fr ts.2));have t4:=af (((t4.fr (aM sC)).fr ts.2));have t7:=af ((oj.tu (B':=w.heap.size) ae).fr ts.2);obtain⟨X4,hN⟩:=az X;rw[<-hN]at C4 T4 R4 B4 Z4 TR hX t0 t1 t4 t7;obtain⟨s0,s1,s2,s3,s4,s5,s6,s7,sf⟩:_/\_/\_/\_/\_/\_/\_/\_/\_:=⟨C4.1 0 _ rfl,C4.1 1 _ rfl,C4.1 2 _ rfl,C4.1 3 _ rfl,C4.1 4 _ rfl,C4.1 5 _ rfl,C4.1 6 _ rfl,C4.1 7 _ rfl,C4.2⟩;obtain⟨r0,r1,r2,r3,r4,r5,r6,r7,rf⟩:_/\_/\_/\_/\_/\_/\_/\_/\_:=⟨R4.1 0 _ rfl,R4.1 1 _ rfl,R4.1 2 _ rfl,R4.1 3 _ rfl,R4.1 4 _ rfl,R4.1 5 _ rfl,R4.1 6 _ rfl,R4.1 7 _ rfl,R4.2⟩;rw[hX]at s0 s1 s2 s3 s4 s5 s6 s7 sf r0 r1 r2 r3 r4 r5 r6 r7 rf;go_wp2;rw[<-hX]at*;have bF:=di (w:=X4) (b:=w.heap.size+1) (v0:=.S q0 n0 d0) (v1:=.S q1 n1 d1) (v2:=.U nd.owner) (v3:=.I nd.mode) (v4:=.S q4 n4 d4) (v5:=.U nd.aJ) (v6:=.U nd.gen) (v7:=.S q7 n7 d7);obtain⟨-,fF⟩:=Pq (v0:=.S q0 n0 d0) (v1:=.S q1 n1 d1) (v2:=.U nd.owner) (v3:=.I nd.mode) (v4:=.S q4 n4 d4) (v5:=.U nd.aJ) (v6:=.U nd.gen) (v7:=.S q7 n7 d7) TR;refine dD (v:=ndV (.S q0 n0 d0) (.S q1 n1 d1) nd.owner nd.mode (.S q4 n4 d4) nd.aJ nd.gen (.S q7 n7 d7)) (by simp[results,results133,go_sem,r0,r1,r2,r3,r4,r5,r6,r7]) rfl ?_;exact⟨q0,d0,q1,d1,q4,d4,q7,d7,rfl,t0.fr fF,t1.fr fF,t4.fr fF,t7.fr fF,B4.trans (bF.mono ae)⟩
def ap0{c n:Nat}{Q:List Ev}(en:Hid (Q.length=n)){w:World}(h:Oo w (.S p n c) Q)(hn:n<=0)(hbq:Hid (∀e∈Q,e.2.length<=1048576)):Calls prog 132 #[.S p n c] w λr w'=>∃p' c',r=.returned (.S p' n c')/\NJ w.heap.size w' (.S p' n c') Q/\Bw w w':=by
 obtain⟨ie,hie,qc,iU,jU⟩:=gh Tryz.infoEv;have HI:=af (ah hie (ah qc (ah iU jU)));have HR:=af λ(w':World)(hb:Bw w w')=>h.below hb
 go_in
 go_wp2
 go_loopw[3,4](λov iv wr=>∃(k:Nat)(M:List Ev)(po:OA)(co:Nat),k<=n/\iv=.I k/\ov=.S po k co/\Hid (M.length=k)/\Hid (Q.take k=M)/\Hid (NJ w.heap.size wr (.S po k co) M)/\Hid (Bw w wr)) (λ_ iv _=>n-(intOf iv).toNat)
 exact⟨0,[],none,0,fN _,rfl,rfl,af rfl,(by show _=_;simp),RT.nil _ _ _ _ _,cR _ _⟩;{obtain⟨k,M,po,co,hk,rfl,rfl,eM,hM,hQ,aK⟩:=hrel;have zr:=aK.size;by_cases aT:k<n;{exact absurd aT ae};{have bu:=dm k n;have ek:k=n:=ae;subst ek;have e1:=aa hM;rw[ke (by rw[aa en];omega)]at e1;subst e1;go_wp2;go_ret;exact⟨_,_,rfl,hQ,aK⟩}}
def kx.snoc{w w':World}{v':Value}{Q:Value}(h:kx B w v ss Qs)(hf:Fr [84] w w')(hQ:NJ B w Q s.2.2)(bC0:∀(j:Nat)(Q':Value)(b:Nat),Qs[j]?=some Q'->Q'.ownBlock=some b->Q.ownBlock≠some b)(hr:RT tO 84 3 B w' v' (ss.zip Qs++[(s,Q)])):kx B w' v' (ss++[s]) (Qs++[Q]):=by
 have hl:=h.len;refine⟨by simp[hl],by rw[List.zip_append hl.symm];exact hr,λi s' Q' hs hq=>?_,λi j Q1 Q2 b kr hq wu hb=>?_⟩;{
 by_cases hi:i<ss.length;{rw[lE hi]at hs;rw[lE ae]at hq;exact(h.Xh i s' Q' hs hq).fr hf};{
 have ei:i=ss.length:=by have:=(bf.1 hs).1;simp at this;omega
 subst ei;rw[nZ ao,Cb]at hs;rw[nZ ae,hl,Cb]at hq;simp at hs hq;subst hs hq;exact hQ.fr hf}};{
 by_cases hi:i<Qs.length;{
 rw[lE hi]at hq;by_cases hj:j<Qs.length;{rw[lE hj]at wu;exact h.yv i j Q1 Q2 b kr hq wu hb};{
 rw[nZ ae]at wu;have e:j-Qs.length=0:=by have:=(bf.1 wu).1;simp at this;omega
 rw[e]at wu;simp at wu;subst wu;exact bC0 i Q1 b hq hb}};{
 rw[nZ ae]at hq;have e:i-Qs.length=0:=by have:=(bf.1 hq).1;simp at this;omega
 rw[e]at hq;simp at hq;subst hq;have hj:j<Qs.length:=by have:=(bf.1 wu).1;simp at this;omega
 rw[lE hj]at wu;exactλe2=>bC0 j Q2 b wu e2 hb}}
def kx.mono{w:World}(h:kx B w v ss Qs)(hB:B'<=B):kx B' w v ss Qs:=⟨h.len,RT.mono h.row hB,λi s Q hs hq=>RT.mono (h.Xh i s Q hs hq) hB,h.yv⟩
def yL.get{w:World}{n c:Nat}(h:yL w (.slice p n c) ss)(hi:ss[i]?=some s):∃b o u,p=some ⟨b,o,none⟩/\w.cell? ⟨b,o+i*3,none⟩=some (.int .u64 s.1)/\w.cell? ⟨b,o+i*3+1,none⟩=some (.int .i64 s.2.1)/\w.cell? ⟨b,o+i*3+2,none⟩=some u/\Oo w u s.2.2:=by
 obtain⟨p',c',e',hd⟩:=h;simp only[qZ]at e';obtain⟨rfl,-,rfl⟩:=e';rcases hd with h0|⟨b,o,rfl,hA⟩;{rw[h0]at hi;simp at hi};{obtain⟨h1,h2,u,h3,h4⟩:=hA i s hi;exact⟨b,o,u,rfl,h1,h2,h3,h4⟩}
def YB(w:World)(b:Nat)(st out:List Value):Prop:=BX w b st/\BX w (b+1) [.int .u64 0,.int .u64 0,.int .u64 0,.int .i64 0,.slice none 0 0,.slice none 0 0]/\BX w (b+1+1) out
def YB.fr{T:List TypeId}{w w':World}{st out:List Value}(h:YB w b st out)(hf:Fr T w w')(ht:35∉T:=by decide):YB w' b st out:=⟨h.1.fr hf ht,h.2.1.fr hf ht,h.2.2.fr hf ht⟩
def YB.set{w:World}{st out:List Value}(h:YB w b st out)(j:Nat)(hj:j<out.length)(u:Value):YB (w.setCell ⟨b+1+1,j,none⟩ u) b st (out.set j u)/\Fr [35] w (w.setCell ⟨b+1+1,j,none⟩ u):=
 ⟨⟨h.1.FK ae,h.2.1.FK ae,h.2.2.1.fG j hj u,(dy h.2.2.2).1⟩,(dy h.2.2.2).2⟩
def WD{p q:OA}{c n d m:Nat}(en:Hid (ss.length=n))(em:Hid (ns.length=m)){w:World}(h:yL w (.slice p n c) ss)(hN:oU w (.slice q m d) ns)(hn:Mg n)(hm:Mg m)(mj:Hid (∀s∈ss,s.2.2.length<=0/\∀ev∈s.2.2,ev.2.length<=1048576))(xr:Hid (∀nd∈ns,nd.path.length<=1048576/\nd.value.length<=1048576/\nd.holders.length<=1048576/\nd.watchers.length<=1048576)):Calls prog 77 #[ft e g x t (.slice p n c) (.slice q m d)] w λr w'=>∃p' c' q' d',r=.returned (ft e g x t (.slice p' n c') (.slice q' m d'))/\(∃Qs,kx w.heap.size w' (.slice p' n c') ss Qs)/\AK w.heap.size w' (.slice q' m d') ns/\Below w.heap.size w w':=by
 obtain⟨is,his,Kz,ij,Hf⟩:=gh Tryz.infoSes;obtain⟨iN,hiN,KH,um,Jq⟩:=gh Tryz.infoNod;have HI:=af (ah (ah his (ah Kz (ah ij Hf))) (ah hiN (ah KH (ah um Jq))));clear his Kz ij Hf hiN KH um Jq;have HR:=af (ah h hN);clear h hN;have HCG:=af (λ(vs:Array Value)(w:World)=>show(callFunc 133 vs).run prog w=.ok (.enter 133 vs) w by kernel_rfl);obtain⟨W0,dP,b0,z0,C0⟩:=gO w (.int .u64 e) (.int .u64 g) (.int .u64 x) (.int .i64 t) (.slice p n c) (.slice q m d);obtain⟨W1,lG,b1,z1,C1⟩:=qO W0;obtain⟨W2,nF,b2,z2,C2⟩:=gO W1 (.int .u64 e) (.int .u64 g) (.int .u64 x) (.int .i64 t) (.slice none 0 0) (.slice none 0 0);rw[z0]at C1 z1;rw[z1]at C2 z2;have Y2:=af (show YB W2 w.heap.size [.int .u64 e,.int .u64 g,.int .u64 x,.int .i64 t,.slice p n c,.slice q m d] [.int .u64 e,.int .u64 g,.int .u64 x,.int .i64 t,.slice none 0 0,.slice none 0 0]from⟨(C0.below b1).below b2,C1.below b2,C2⟩);have B2:=af (aj (aj b0 b1) b2);clear b0 b1 b2 C0 C1 C2
 go_in
 go_wp2_with fail;rw[<-dP,<-lG,<-nF];clear dP lG nF
 go_loopw[4](λiv wr=>∃(k:Nat)(M:List aP)(Qk:List Value)(po:OA)(co:Nat),k<=n/\iv=.int .i64 k/\Hid (M.length=k)/\Hid (ss.take k=M)/\Hid (YB wr w.heap.size [.int .u64 e,.int .u64 g,.int .u64 x,.int .i64 t,.slice p n c,.slice q m d] [.int .u64 e,.int .u64 g,.int .u64 x,.int .i64 t,.slice po k co,.slice none 0 0])/\Hid (kx (w.heap.size+1+1+1) wr (.slice po k co) M Qk)/\Hid (Below w.heap.size w wr)/\Hid (w.heap.size+1+1+1<=wr.heap.size)) (λiv _=>n-(intOf iv).toNat)
 exact⟨0,[],[],none,0,fN _,rfl,af rfl,(by show _=_;simp),Y2,kx.nil _ _,B2,(by show _<=_;omega)⟩;{
 obtain⟨k,M,Qk,po,co,hk,rfl,eM,hM,hY,Sz,aK,Ue⟩:=hrel;have zr:=aa Ue;obtain⟨k0,k1,k2,k3,k4,k5,kf⟩:=hY.1.cells;by_cases aT:k<n;{
 have bu:=aS k n;obtain⟨s,hs⟩:∃s,ss[k]?=some s:=⟨_,bD (aa en▸aT)⟩;have E1:=af (by rw[ni,hs,aa hM];rfl:ss.take (k+1)=M++[s]);obtain⟨hq1,hq2⟩:=aa mj s (aY hs);have HQ2:=af hq2;obtain⟨b,o,u,rfl,c0,c1,c2,hu⟩:=yL.get HR.1 hs;obtain⟨pu,cu,rfl,hu'⟩:=hu;have RU:=af (show Oo w (.slice pu s.2.2.length cu) s.2.2 from⟨pu,cu,rfl,hu'⟩);obtain⟨nu,enu⟩:=bH s.2.2.length;rw[aa enu]at c2 RU hq1;have d0:=λ(ob:Obj)=>ag (ag c0 aK) ((cR wr.heap.size wr).alloc ao ob);have d1:=λ(ob:Obj)=>ag (ag c1 aK) ((cR wr.heap.size wr).alloc ao ob);have d2:=λ(ob:Obj)=>ag (ag c2 aK) ((cR wr.heap.size wr).alloc ao ob);obtain⟨V1,Y7,bv1,zv1,CV,-⟩:=ar wr #[.int .u64 s.1,.int .i64 s.2.1,.slice pu nu cu] 84;have VC:=af CV;have BV:=af bv1;have i0:=ag c0 aK;have i1:=ag c1 aK;have i2:=ag c2 aK;clear hs hu' c0 c1 c2 hq2 CV bv1;go_wp2_with fail;rw[<-Y7];clear Y7 d0 d1 d2 i0 i1 i2 k0 k1 k2 k3 k4 k5 kf;obtain⟨vA,jH⟩:=az V1.drew;have gS:=nH jH;have BA:=af (cR vA.heap.size vA);have HC:=af (λ(v:World)(hv:Below vA.heap.size vA v)=>ah (ah (ag (VC.1 0 _ rfl) (aj gS hv)) (ah (ag (VC.1 1 _ rfl) (aj gS hv)) (ag (VC.1 2 _ rfl) (aj gS hv)))) (ah (YB.fr (aa hY) (aM (aj (aj (aa BV) gS) hv)) ai) (ah (kx.fr (aa Sz) (aM (aj (aj (aa BV) gS) hv))) (ah (aj (aa aK) (aj (aj (aa BV) gS) hv)) (aj (aj (aa BV) gS) hv)))));have zA:=gS.size;refine P9 ?_;refine Cx 13 (S:=λw'=>(w'.cell? ⟨wr.heap.size,0,none⟩=some (.int .u64 s.1)/\w'.cell? ⟨wr.heap.size,1,none⟩=some (.int .i64 s.2.1)/\w'.cell? ⟨wr.heap.size,2,none⟩=some (.slice pu nu cu))/\w'.cell? ⟨w.heap.size+1+1,4,none⟩=some (.slice po k co)) (by rw[<-jH];exact⟨(aa HC vA au).1,(aa HC vA au).2.1.2.2.1.1 4 _ rfl⟩) (λhS=>?_);rw[<-jH]at hS⊢;clear jH gS;refine tED 0 1 2 3 hS ?_;refine tED 4 5 6 7 hS ?_;refine jt 8 (λKK hK=>?_);refine jv (ap0 enu (RU.below (aa HC vA BA).2.2.2.1) hq1 HQ2) ?_;rintro r v1⟨pa,ca,rfl,oa,AY⟩;refine⟨_,rfl,?_⟩;have B1:=af AY;have OA:=af oa;have z1a:=AY.size;refine oGS hK ⟨(aa HC v1 B1).1,(aa HC v1 B1).2.1.2.2.1.1 4 _ rfl⟩ λhS=>?_;clear hK KK AY oa;refine tEo 9 hS ?_;refine jt 10 (λKK hK=>?_);go_simp;obtain⟨Z,hZ,bZ,zZ,CZ,-⟩:=ar v1 #[.int .u64 s.1,.int .i64 s.2.1,.slice pa nu ca] 84;rw[<-hZ];have B2:=af (aj B1 bZ);have HCZ:=af CZ;have TZ:=af (NJ.fr OA (aM bZ));refine oGS hK ⟨(aa HC Z B2).1,(aa HC Z B2).2.1.2.2.1.1 4 _ rfl⟩ λhS=>?_;clear hK KK hZ bZ CZ;obtain⟨-,YZ,SZ,bwZ,brZ⟩:=aa HC Z B2;have zZ2:=B2.size;have hlz:(M.zip Qk).length=k:=by rw[Qf,SZ.len,aa eM];simp
 have H4:=af (ah YZ (ah SZ (ah bwZ brZ)));refine jt 11 (λKK hK=>?_);refine uD aH aH is 3 underlying32 HI.1.1 HI.1.2.1 HI.1.2.2.1 HI.1.2.2.2 rfl aZ (af hlz) aH SZ.row v1.heap.size (s,.slice pa nu ca) (cs:=[.int .u64 s.1,.int .i64 s.2.1,.slice pa nu ca]) aH rfl rfl (λj u hu=>HCZ.1 j u hu) (λu hu=>by simp at hu;rcases hu with rfl|rfl|rfl<;>rfl) (λw' hf x c hx=>hx) ae ae ae ?_;intro p' c' w9 hq9 AW f9 _;have YB9:=af (YB.fr H4.1 f9 aZ);have S9:=af (kx.snoc H4.2.1 f9 (RT.mono TZ ae:NJ (w.heap.size+1+1+1) Z _ _) (λj Q' b' hq hb e2=>by have h1:=(TZ.lt b' e2).1;obtain⟨s',Hg⟩:∃s',M[j]?=some s':=⟨_,bD (Sz.len▸(bf.1 hq).1)⟩;have h2:=((Sz.Xh j s' Q' Hg hq).lt b' hb).2;omega) hq9)
 have B9:=af (H4.2.2.1.grown AW ae (λb' e=>aG (H4.2.1.row.lt b' e).1));have yI:∀b',(Value.slice po k co).ownBlock=some b'->b'≠wr.heap.size:=λb' e=>by have:=(Sz.row.lt b' e).2;omega
 have kX:=AW.block wr.heap.size ae (λe=>yI _ e.symm rfl);have z9:=AW.size;refine oGS hK ⟨⟨(aF kX _).trans hS.1.1,(aF kX _).trans hS.1.2.1,(aF kX _).trans hS.1.2.2⟩,YB9.2.2.1.1 4 _ rfl⟩ λhS=>?_;clear hK KK hq9 AW f9 yI kX YZ SZ bwZ brZ;refine tEo 12 hS ?_;refine jt 13 (λKK hK=>?_);have y4:=YB9.2.2.1.1 4 _ rfl;have yf:=YB9.2.2.1.2;go_simp;obtain⟨Y10,F10⟩:=YB.set (aa YB9) 4 ai (.slice p' (k+1) c');refine oGX hK ?_;clear hK KK y4 yf;refine Fh ?_;refine aK7 ?_;clear hS;have H10:=af (ah Y10 (ah (S9.fr F10) (ah (B9.setCell (p:=⟨w.heap.size+1+1,4,none⟩) (by show w.heap.size<=w.heap.size+1+1;omega) (.slice p' (k+1) c')) F10.1)));clear Y10 F10;go_wp2;go_roundw;exact⟨k+1,_,_,p',c',ae,by go_num,af (by rw[ir,aa eM];rfl),E1,H10.1,H10.2.1,H10.2.2.1,af (aG H10.2.2.2)⟩;exact bM};{
 have bu:=dm k n;have ek:k=n:=ae;subst ek;have e1:=aa hM;rw[ke (by rw[aa en];omega)]at e1;subst e1;go_wp2_with fail;clear k0 k1 k2 k3 k4 k5 kf
 go_loopw[6](λiv wr2=>∃(j:Nat)(N:List aC)(qo:OA)(dx:Nat),j<=m/\iv=.int .i64 j/\Hid (N.length=j)/\Hid (ns.take j=N)/\Hid (YB wr2 w.heap.size [.int .u64 e,.int .u64 g,.int .u64 x,.int .i64 t,.slice p k c,.slice q m d] [.int .u64 e,.int .u64 g,.int .u64 x,.int .i64 t,.slice po k co,.slice qo j dx])/\Hid (kx (w.heap.size+1+1+1) wr2 (.slice po k co) ss Qk)/\Hid (gy w.heap.size (w.heap.size+1+1+1) wr2 (.slice qo j dx) N)/\Hid (Below w.heap.size w wr2)/\Hid (w.heap.size+1+1+1<=wr2.heap.size)) (λiv _=>m-(intOf iv).toNat)
 exact⟨0,[],none,0,fN _,rfl,af rfl,(by show _=_;simp),hY,Sz,RT.nil _ _ _ _ _,aK,Ue⟩;{
 clear Sz hY aK Ue zr;obtain⟨j,N,qo,dx,hj,rfl,eN,hNt,hY,Sz,MX,aK,Ue⟩:=hrel;have zr:=aa Ue;obtain⟨k0,k1,k2,k3,k4,k5,kf⟩:=hY.1.cells;by_cases MH:j<m;{have bA0:=aS j m;obtain⟨nd,hx⟩:∃nd,ns[j]?=some nd:=⟨_,bD (aa em▸MH)⟩;have E1:=af (by rw[ni,hx,aa hNt];rfl:ns.take (j+1)=N++[nd]);obtain⟨l0,l1,l4,l7⟩:=aa xr nd (aY hx);obtain⟨b,o,rfl,hA⟩:=HR.2.at (by rw[aa em];omega);obtain⟨P0,P1,P4,P7,hA⟩:=hA j nd hx;obtain⟨p0,Zc,en0,-⟩:=id hA.r0;obtain⟨p1,c1',Oj,-⟩:=id hA.r1;obtain⟨p4,c4',en4,-⟩:=id hA.r4;obtain⟨p7,c7',en7,-⟩:=id hA.r7;subst en0 Oj en4 en7;obtain⟨n0,f0⟩:=bH nd.path.length;obtain⟨n1,f1⟩:=bH nd.value.length;obtain⟨n4,f4⟩:=bH nd.holders.length;obtain⟨n7,f7⟩:=bH nd.watchers.length;rw[aa f0,aa f1,aa f4,aa f7]at hA;rw[aa f0]at l0;rw[aa f1]at l1;rw[aa f4]at l4;rw[aa f7]at l7;have SS:=af (λ(v:World)(out:List Value)(hy:YB v w.heap.size [.int .u64 e,.int .u64 g,.int .u64 x,.int .i64 t,.slice p k c,.slice (some ⟨b,o,none⟩) m d] out)(hv:Below w.heap.size w v)=>ah (hy.1.1.1 5 _ rfl) (ah (ag hA.c0 hv) (ah (ag hA.c1 hv) (ah (ag hA.c2 hv) (ah (ag hA.c3 hv) (ah (ag hA.c4 hv) (ah (ag hA.c5 hv) (ah (ag hA.c6 hv) (ag hA.c7 hv)))))))));have HRd:=af (λ(v:World)(hv:Below w.heap.size w v)=>ah (hA.r0.below hv) (ah (hA.r1.below hv) (ah (hA.r4.below hv) (hA.r7.below hv))));clear hx hA;go_wp2_with fail;clear k0 k1 k2 k3 k4 k5 kf;obtain⟨vA,jH⟩:=az wr.drew;have gS:=nH jH;have BA:=af (cR vA.heap.size vA);have HC:=af (λ(v:World)(hv:Below vA.heap.size vA v)=>ah (aa SS v _ (YB.fr (aa hY) (aM (aj gS hv)) ai) (aj (aa aK) (aj gS hv))) (ah (YB.fr (aa hY) (aM (aj gS hv)) ai) (ah (kx.fr (aa Sz) (aM (aj gS hv))) (ah (gy.fr (aa MX) (aM (aj gS hv))) (aj (aa aK) (aj gS hv))))));have zA:=gS.size;refine P9 ?_;refine Cx 11 (S:=λw'=>(w'.cell? ⟨w.heap.size,5,none⟩=some (.slice (some ⟨b,o,none⟩) m d)/\w'.cell? ⟨b,o+j*8,none⟩=some (.slice p0 n0 Zc)/\w'.cell? ⟨b,o+j*8+1,none⟩=some (.slice p1 n1 c1')/\w'.cell? ⟨b,o+j*8+2,none⟩=some (.int .u64 nd.owner)/\w'.cell? ⟨b,o+j*8+3,none⟩=some (.int .i64 nd.mode)/\w'.cell? ⟨b,o+j*8+4,none⟩=some (.slice p4 n4 c4')/\w'.cell? ⟨b,o+j*8+5,none⟩=some (.int .u64 nd.aJ)/\w'.cell? ⟨b,o+j*8+6,none⟩=some (.int .u64 nd.gen)/\w'.cell? ⟨b,o+j*8+7,none⟩=some (.slice p7 n7 c7'))/\w'.cell? ⟨w.heap.size+1+1,5,none⟩=some (.slice qo j dx)) (by rw[<-jH];exact⟨(aa HC vA au).1,(aa HC vA au).2.1.2.2.1.1 5 _ rfl⟩) (λhS=>?_);rw[<-jH]at hS⊢;clear jH gS;refine tED 0 1 2 3 hS ?_;refine tEn 4 hS ?_;refine tEn 5 hS ?_;refine tEn 6 hS ?_;refine jt 7 (λKK hK=>?_);refine iC aH aH aH (λ_=>aa HCG _ _) (UP f0 f1 f4 f7 (aa HRd vA (aa HC vA BA).2.2.2.2).1 (aa HRd vA (aa HC vA BA).2.2.2.2).2.1 (aa HRd vA (aa HC vA BA).2.2.2.2).2.2.1 (aa HRd vA (aa HC vA BA).2.2.2.2).2.2.2 l0 l1 l4 l7) ?_;rintro r v1⟨q0,d0,q1,d1,q4,d4,q7,d7,rfl,t0,t1,t4,t7,AY⟩;refine⟨_,rfl,?_⟩;have B1:=af AY;have OA:=af (ah t0 (ah t1 (ah (t4.mono (B':=w.heap.size) (by have:=aK.size;have:=BA.size;omega)) (t7.mono (B':=w.heap.size) (by have:=aK.size;have:=BA.size;omega)))));have z1a:=AY.size;refine oGS hK ⟨(aa HC v1 B1).1,(aa HC v1 B1).2.1.2.2.1.1 5 _ rfl⟩ λhS=>?_;clear hK KK AY t0 t1 t4 t7;refine jt 8 (λKK hK=>?_);go_simp;obtain⟨Z,hZ,bZ,zZ,CZ,-⟩:=ar v1 #[.slice q0 n0 d0,.slice q1 n1 d1,.int .u64 nd.owner,.int .i64 nd.mode,.slice q4 n4 d4,.int .u64 nd.aJ,.int .u64 nd.gen,.slice q7 n7 d7] 119;rw[<-hZ];have B2:=af (aj B1 bZ);have HCZ:=af CZ;have TZ:=af (ah (OA.1.fr (aM bZ)) (ah (OA.2.1.fr (aM bZ)) (ah (OA.2.2.1.fr (aM bZ)) (OA.2.2.2.fr (aM bZ)))));refine oGS hK ⟨(aa HC Z B2).1,(aa HC Z B2).2.1.2.2.1.1 5 _ rfl⟩ λhS=>?_;clear hK KK hZ bZ CZ;obtain⟨-,YZ,SZ,NZ,bwZ⟩:=aa HC Z B2;have zZ2:=B2.size;have H4:=af (ah YZ (ah SZ (ah NZ bwZ)));refine jt 9 (λKK hK=>?_);refine uD aH aH iN 8 underlying33 HI.2.1 HI.2.2.1 HI.2.2.2.1 HI.2.2.2.2 rfl aZ eN aH NZ v1.heap.size nd (cs:=[.slice q0 n0 d0,.slice q1 n1 d1,.int .u64 nd.owner,.int .i64 nd.mode,.slice q4 n4 d4,.int .u64 nd.aJ,.int .u64 nd.gen,.slice q7 n7 d7]) aH ⟨_,_,_,_,rfl,TZ.1,TZ.2.1,TZ.2.2.1,TZ.2.2.2⟩ rfl (λj u hu=>HCZ.1 j u hu) (λu hu=>by simp at hu;rcases hu with rfl|rfl|rfl|rfl|rfl|rfl|rfl|rfl<;>rfl) (λw' hf=>nM.fr hf aZ aZ) ae ae ae ?_;intro p' c' w9 hq9 AW f9 _;have YB9:=af (YB.fr H4.1 f9 aZ);have S9:=af (ah (H4.2.1.fr f9) hq9);have B9:=af (H4.2.2.2.grown AW ae (λb' e=>aG (H4.2.2.1.lt b' e).1));have z9:=AW.size;refine oGS hK ⟨SS w9 _ YB9 B9,YB9.2.2.1.1 5 _ rfl⟩ λhS=>?_;clear hK KK hq9 AW f9 YZ SZ NZ bwZ;refine tEo 10 hS ?_;refine jt 11 (λKK hK=>?_);have y4:=YB9.2.2.1.1 5 _ rfl;have yf:=YB9.2.2.1.2;go_simp;obtain⟨Y10,F10⟩:=YB.set (aa YB9) 5 ai (.slice p' (j+1) c');have H10:=af (ah Y10 (ah (S9.1.fr F10) (ah (gy.fr S9.2 F10) (ah (B9.setCell (p:=⟨w.heap.size+1+1,5,none⟩) (by show w.heap.size<=w.heap.size+1+1;omega) (.slice p' (j+1) c')) F10.1))));refine oGX hK ?_;clear hK KK y4 yf Y10 F10;refine Fh ?_;refine aK7 ?_;clear hS;go_wp2;go_roundw;exact⟨j+1,_,p',c',ae,by go_num,af (by rw[ir,aa eN];rfl),E1,H10.1,H10.2.1,H10.2.2.1,H10.2.2.2.1,af (aG H10.2.2.2.2)⟩;exact bM};{
 have bA0:=dm j m;have ej:j=m:=ae;subst ej;have e2:=aa hNt;rw[ke (by rw[aa em];omega)]at e2;subst e2;obtain⟨y0,y1,y2,y3,y4,y5,yf⟩:=hY.2.2.cells;obtain⟨r0,r1,r2,r3,r4,r5,rf⟩:=hY.2.1.cells;have hb:=cT (w:=wr) (w.heap.size+1) (.int .u64 e) (.int .u64 g) (.int .u64 x) (.int .i64 t) (.slice po k co) (.slice qo j dx);have hf:Fr [35] wr (dB wr (w.heap.size+1) (.int .u64 e) (.int .u64 g) (.int .u64 x) (.int .i64 t) (.slice po k co) (.slice qo j dx)):=by obtain⟨-,cur,ht⟩:=hY.2.1;exact je ht
 have HF:=af (ah hb hf);clear hb hf;go_wp2;refine dD (v:=ft e g x t (.slice po k co) (.slice qo j dx)) (by simp[results,results77,go_sem,r0,r1,r2,r3,r4,r5]) rfl ?_;exact⟨po,co,qo,dx,rfl,⟨Qk,(Sz.fr HF.2).mono ae⟩,RT.mono (gy.fr MX HF.2) ae,aK.trans (HF.1.mono ae)⟩}}}}
def AK.mono{w:World}(h:AK B w v ns)(hB:B'<=B):AK B' w v ns:=by
 obtain⟨cs,h1,h2,h3,h4⟩:=RT.mono h hB;refine⟨cs,h1,h2,h3,λi x c hx hc=>?_⟩;obtain⟨P,V,H,U,e,k1,k2,k3,k4⟩:=h4 i x c hx hc;exact⟨P,V,H,U,e,k1,k2,k3.mono hB,k4.mono hB⟩
def QR.mono{w w':World}{r:Ending}{R:RP}(h:QR B w w' r D R)(hB:B'<=B):QR B' w w' r D R:=by
 obtain⟨p,c,q,d,Dv,Nv,Ev,Qs,e,hS,hN,tD,tN,tE,hF2,iY⟩:=h;exact⟨p,c,q,d,Dv,Nv,Ev,Qs,e,hS.mono hB,AK.mono hN hB,tD,RT.mono tN hB,RT.mono tE hB,hF2,iY.mono hB⟩
def SD0:SD:=⟨0,0,0,0,[],[]⟩
def AP(e g x t:Int)(ss:List aP)(ns:List aC)(K S F E G:Int)(P V:LI):SD×RP:=if mY e g x t ss ns=true then fE ⟨e,g,x,t,ss,ns⟩ K S F E G P V else(SD0,AR 1)
def Ti{n c:Nat}{q:OA}(en:Hid (ss.length=n))(em:Hid (ns.length=m)){K S F E G:Int}(eP:Hid (P.length=np))(eV:Hid (V.length=nv)){w:World}(h:Hid (yL w (.S p n c) ss))(hN:Hid (oU w (.S q m d) ns))(hP:Hid (Rd w (.S pp np cp) P))(hV:Hid (Rd w (.S pq nv cv) V))(hn:Mg n)(hm:Mg m)(hp:np<=1048576)(hv:nv<=1048576)(iW:np<=cp)(ku:cp<=maxLen)(mj:Hid (∀s∈ss,s.2.2.length<=0/\∀e∈s.2.2,aN e.2/\e.2.length<=1048576))(gq:Hid (∀nd∈ns,aN nd.path/\nd.path.length<=1048576/\nd.value.length<=1048576/\nd.holders.length<=1048576/\nd.watchers.length<=1048576))(hW:Hid (mY e g x t ss ns=true->WF ⟨e,g,x,t,ss,ns⟩))(bP:Hid (aN P)){R:SD×RP}(hj:Hid (K=1\/K=3\/K=4\/K=5\/K=7\/K=8\/K=9))(eR:Hid (AP e g x t ss ns K S F E G P V=R)):Calls prog 37 #[ft e g x t (.S p n c) (.S q m d),ID K S (.S pp np cp) F (.S pq nv cv) E G] w λr w'=>QR w.heap.size w w' r R.1 R.2:=by
 obtain⟨W0,dP,b0,z0,C0⟩:=gO w (.U e) (.U g) (.U x) (.I t) (.S p n c) (.S q m d);obtain⟨W1,lG,b1,z1,C1,-⟩:=ar W0 #[.I K,.U S,.S pp np cp,.I F,.S pq nv cv,.U E,.U G] 73;obtain⟨W2,nF,b2,z2,C2⟩:=qO W1;obtain⟨W3,Ay,b3,z3,C3⟩:=rA W2 (.I 0) (.U 0) (.U 0) (.U 0) (.I 0) aR aR aR;rw[z0]at C1 z1;rw[z1]at C2 z2;rw[z2]at C3 z3;have LQ:QB W3 w.heap.size _ _ _ _:=⟨((C0.below b1).below b2).below b3,(C1.below ae b2).below ae b3,C2.below b3,C3⟩;have bW:=aj (aj (aj b0 b1) b2) b3;have HA:=af (λ(v:World)(hv:Bw W3 v)=>ah (QB.keep LQ (λj h1 h2=>hv.block j ae)) (ah (h.below (aj bW hv)) (ah (hN.below (aj bW hv)) (ah (hP.below (aj bW hv)) (ah (hV.below (aj bW hv)) (aj bW hv))))));have BR:=af (cR W3.heap.size W3);have hR:=aa eR;unfold AP at hR;obtain⟨ok,Ic⟩:=bH (mY e g x t ss ns);rw[aa Ic]at hR;have HR:=af hR
 go_in
 go_wp2_with fail;rw[<-dP,<-lG,<-nF,<-Ay];refine(Zz en em (aa HA W3 BR).2.1 (aa HA W3 BR).2.2.1 hn hm mj gq Ic).mono ?_;rintro r w1⟨rfl,aA⟩;have B1:=af aA;have z1':=aA.size;have e9:=aa HR;cases ok;{rw[bG ai]at e9;have E9:=af e9;go_wp2_with fail;refine(GZ).mono ?_;rintro r w2⟨rfl,aD⟩;obtain⟨LW,-,-,-,-,bw⟩:=aa HA w2 (aj B1 aD);have rC:=af (show TX w2 w.heap.size _ _ _ from⟨LW.1,LW.2.2.1,LW.2.2.2⟩);have BW:=af bw;obtain⟨q0,q1,q2,q3,q4,q5,qf⟩:=rC.2.1.cells;obtain⟨r0,r1,r2,r3,r4,r5,r6,r7,rf⟩:=rC.2.2.cells;go_wp2;obtain⟨fF,bF⟩:=TX.fin rC (.U 0) (.U 0) (.U 0) (.I 0) aR aR (.I 1) (.U 0) (.U 0) (.U 0) (.I 0) aR aR aR;refine dD (v:=.tuple #[ft 0 0 0 0 aR aR,yF 1 0 0 0 0 aR aR aR]) (by simp[results,results37,go_sem,q0,q1,q2,q3,q4,q5,r0,r1,r2,r3,r4,r5,r6,r7]) rfl ?_;rw[<-aa E9];exact⟨none,0,none,0,aR,aR,aR,[],rfl,kx.nil _ _,RT.nil _ _ _ _ _,TB.nil _,RT.nil _ _ _ _ _,RT.nil _ _ _ _ _,Fr.below (BW.trans bF),BW.trans bF⟩};{rw[bN rfl]at e9;have E9:=af e9;go_wp2_with fail;have HCG:=af (λ(vs:Array Value)(w:World)=>show(callFunc 76 vs).run prog w=.ok (.enter 76 vs) w by kernel_rfl);obtain⟨vA,jH⟩:=az w1.drew;have gS:Bw W3 vA:=aj (aa B1) (jH▸au.drew);have BA:=af gS;have zA:=gS.size;have SA:=af (λ(v:World)(hQ:QB v w.heap.size [.U e,.U g,.U x,.I t,.S p n c,.S q m d] [.I K,.U S,.S pp np cp,.I F,.S pq nv cv,.U E,.U G] [.U 0,.U 0,.U 0,.I 0,.S none 0 0,.S none 0 0] [.I 0,.U 0,.U 0,.U 0,.I 0,aR,aR,aR])=>ah hQ.1.six (ah (hQ.2.1.1 0 _ rfl) (ah (hQ.2.1.1 1 _ rfl) (ah (hQ.2.1.1 2 _ rfl) (ah (hQ.2.1.1 3 _ rfl) (ah (hQ.2.1.1 4 _ rfl) (ah (hQ.2.1.1 5 _ rfl) (hQ.2.1.1 6 _ rfl))))))));refine dC (λw'=>(w'.cell? (Ad w.heap.size 0)=some (.U e)/\w'.cell? (Ad w.heap.size 1)=some (.U g)/\w'.cell? (Ad w.heap.size 2)=some (.U x)/\w'.cell? (Ad w.heap.size 3)=some (.I t)/\w'.cell? (Ad w.heap.size 4)=some (.S p n c)/\w'.cell? (Ad w.heap.size 5)=some (.S q m d))/\w'.cell? (Ad (w.heap.size+1) 0)=some (.I K)/\w'.cell? (Ad (w.heap.size+1) 1)=some (.U S)/\w'.cell? (Ad (w.heap.size+1) 2)=some (.S pp np cp)/\w'.cell? (Ad (w.heap.size+1) 3)=some (.I F)/\w'.cell? (Ad (w.heap.size+1) 4)=some (.S pq nv cv)/\w'.cell? (Ad (w.heap.size+1) 5)=some (.U E)/\w'.cell? (Ad (w.heap.size+1) 6)=some (.U G)) (jH▸aa SA vA (aa HA vA gS).1) λhS=>?_;rw[<-jH]at hS⊢;refine kG 0 2 hS ?_;refine dM 1 λKK hK=>?_;refine jv (WD en em (aa HA vA BA).2.1 (aa HA vA BA).2.2.1 hn hm (af λs hs=>⟨(aa mj s hs).1,λev he=>((aa mj s hs).2 ev he).2⟩) (af λnd bj=>(aa gq nd bj).2)) ?_;rintro r v1⟨p1,c1,q1,d1,rfl,⟨Qs,hS1⟩,IK,aD⟩;refine⟨_,rfl,?_⟩;have B2:=af (aj BA aD);have z2':=aD.size;have H1:=af (ah hS1 IK);refine gr hK (by exact SA v1 (aa HA v1 B2).1) λhS=>?_;refine dM 3 λKK hK=>?_;refine kc aH aH aH aH (λ_=>aa HCG _ _) (U8 en em eP eV (af H1.1) (af H1.2) (af (aa HA v1 B2).2.2.2.1) (af (aa HA v1 B2).2.2.2.2.1) z2' hn hm hp hv iW ku (af (aa hW Ic)) bP hj E9) ?_;rintro r v2⟨p',c',q',d',Dv,Nv,Ev,Ve,rfl,Hr,DB,tD,tN,tE,hF,ox⟩;refine⟨_,rfl,?_⟩;have z3':=hF.1;have L2:=af (QB.keep (w'':=v2) (aa HA v1 B2).1 (λj h1 h2=>ox.block j ae));have HQ:=af (show QR vA.heap.size v1 v2 _ R.1 R.2 from⟨p',c',q',d',Dv,Nv,Ev,Ve,rfl,Hr,DB,tD,tN,tE,hF,ox⟩);obtain⟨dp,dc,rfl⟩:=tD.iK;obtain⟨np9,nc9,rfl,-⟩:=RT.form tN;obtain⟨yp,yc,rfl,-⟩:=RT.form tE;refine gr hK (by exact SA v2 L2) λhS=>?_;refine kG 4 5 hS ?_;refine VE 6 7 4 5 15 16 bg bg bg rfl rfl (w.heap.size+1+1) (w.heap.size+1+1+1) R.1.e R.1.g R.1.x R.1.t p' R.1.ss.length c' q' R.1.ns.length d' R.2.k R.2.i R.2.e R.2.g R.2.n dp R.2.Ol.length dc np9 R.2.nms.length nc9 yp R.2.Ng.length yc rfl rfl rfl rfl L2.2.2.1 L2.2.2.2 ae (λv hv _=>?_) ?_;{have h1:=L2.1.dG (hv.block _ ae);have h2:=L2.2.1.dG (hv.block _ ae);exact⟨h1.six,h2.1 0 _ rfl,h2.1 1 _ rfl,h2.1 2 _ rfl,h2.1 3 _ rfl,h2.1 4 _ rfl,h2.1 5 _ rfl,h2.1 6 _ rfl⟩};intro w' aA Hi f1 bl1;refine aK7 ?_;have hw1:=(aa HA v1 B2).2.2.2.2.2;have HF:=af (QR.low (QR.mono HQ (by omega:w.heap.size<=vA.heap.size)) (Fr.below hw1) hw1 f1 (bl1.mono ae) ao);obtain⟨q0,q1',q2,q3,q4,q5,qf⟩:=aA.cells;obtain⟨r0,r1,r2,r3,r4,r5,r6,r7,rf⟩:=Hi.cells;go_wp2;refine dD (v:=.tuple #[ft R.1.e R.1.g R.1.x R.1.t (.S p' R.1.ss.length c') (.S q' R.1.ns.length d'),yF R.2.k R.2.i R.2.e R.2.g R.2.n (.S dp R.2.Ol.length dc) (.S np9 R.2.nms.length nc9) (.S yp R.2.Ng.length yc)]) (by simp[results,results37,go_sem,q0,q1',q2,q3,q4,q5,r0,r1,r2,r3,r4,r5,r6,r7]) rfl ?_;exact HF}
def kx.ge{w:World}{g n c:Nat}(h:kx B w (.T g n c) ss Qs):B<=g:=(h.row.lt g rfl).1
def DuR(w:World)(e g x t:Int)(n m:Nat)(ss:List aP)(ns:List aC)(r:Ending)(w':World):Prop:=∃p' c' q' d' B Qs,r=.returned (ft e g x t (.S p' n c') (.S q' m d'))/\w.heap.size<=B/\kx B w' (.S p' n c') ss Qs/\AK B w' (.S q' m d') ns/\Bw w w'
def aT4{p q:OA}{c n d m:Nat}(en:Hid (ss.length=n))(em:Hid (ns.length=m)){w:World}(h:yL w (.S p n c) ss)(hN:oU w (.S q m d) ns)(hn:Mg n)(hm:Mg m)(mj:Hid (∀s∈ss,s.2.2.length<=0/\∀ev∈s.2.2,ev.2.length<=1048576))(xr:Hid (∀nd∈ns,nd.path.length<=1048576/\nd.value.length<=1048576/\nd.holders.length<=1048576/\nd.watchers.length<=1048576)):Calls prog 38 #[ft e g x t (.S p n c) (.S q m d)] w (DuR w e g x 0 n m (ss.map jh) (ns.map iG)):=by
 obtain⟨W0,dP,b0,z0,C0⟩:=gO w (.U e) (.U g) (.U x) (.I t) (.S p n c) (.S q m d);obtain⟨W1,lG,b1,z1,C1⟩:=gO W0 (.U 0) (.U 0) (.U 0) (.I 0) (.S none 0 0) (.S none 0 0);rw[z0]at C1 z1;have bW:=aj b0 b1;have HC:=af (WD (e:=e) (g:=g) (x:=x) (t:=t) en em (h.below bW) (hN.below bW) hn hm mj xr);have HB:=af (ah C1 (ah bW z1));clear C0 C1 b0 b1 z0 z1 bW h hN
 go_in
 go_wp2_with fail;rw[<-dP,<-lG];clear dP lG;refine HC.mono ?_;rintro r w1⟨p',c',q',d',rfl,⟨Qs,hS⟩,IK,aA⟩;obtain⟨W2,nF,b2,z2,C2⟩:=gO w1 (.U e) (.U g) (.U x) (.I 0) (.S p' n c') (.S q' m d');obtain⟨ob,MF⟩:=az w1.heap.size;rw[<-MF]at C2;have F2:=Fr.below (T:=[35]) b2;have HI:=af (ah (hS.fr F2) (ah (gy.fr IK F2) (ah C2 (ah ((HB.1.below aA).below b2) ((HB.2.1.trans (aA.mono (aG HB.2.2))).trans (b2.mono (by have:=HB.2.2;have:=aA.size;omega)))))));obtain⟨B,hB⟩:=az W1.heap.size;rw[<-hB]at HI;have iY:w.heap.size<=B:=aG HB.2.2;clear hS IK aA b2 z2 C2 F2 HC HB hB;go_wp2;rw[<-MF,<-nF];clear nF MF
 go_loopw[4](λiv wr=>∃(k:Nat)(Qs:List Value),k<=n/\iv=.I k/\Hid (kx B wr (.S p' n c') (lh jh k ss) Qs/\AK B wr (.S q' m d') ns/\BX wr ob [.U e,.U g,.U x,.I 0,.S p' n c',.S q' m d']/\BX wr (w.heap.size+1) [.U 0,.U 0,.U 0,.I 0,.S none 0 0,.S none 0 0]/\Bw w wr)) (λiv _=>n-(intOf iv).toNat)
 exact⟨0,Qs,fN _,rfl,by rw[vh];exact HI⟩;{
 clear HI;obtain⟨k,Qs,hk,rfl,HI⟩:=hrel;obtain⟨i0,i1,i2,i3,i4,i5,if'⟩:=HI.2.2.1.cells;by_cases aT:k<n;{
 have bu:=aS k n;obtain⟨s,hs⟩:∃s,ss[k]?=some s:=⟨_,bD (aa en▸aT)⟩;obtain⟨gs,Q,rfl,-,-,hQ,j0,j1,j2,hq,jf⟩:=HI.1.at (mc jh hs);have hge:=HI.1.ge;have wk:IntKind.i64.wrap ((k:Int)+1)=((k+1:Nat):Int):=by rw[jL _ ae];omega
 obtain⟨S1,F1⟩:=HI.1.dl (mc jh hs) 0;have fh:k<(lh jh k ss).length:=(bf.1 (mc jh hs)).1;obtain⟨-,-,-,-,y4,-,-⟩:=(HI.2.2.1.fr F1).cells;obtain⟨gs',Q',eg,-,-,-,-,-,yq,-,yf⟩:=S1.at (i:=k) (s:=(s.1,0,s.2.2)) (by rw[ae9 fh]);obtain⟨rfl,-⟩:=yD eg;obtain⟨Y,hY⟩:=az (wr.setCell (Ad gs (k*3+1)) (.I 0));rw[<-hY]at S1 F1;obtain⟨S2,F2⟩:=S1.cf5 (i:=k) (s:=(s.1,0,s.2.2)) (by rw[ae9 fh]) hQ (w1:=Y) (v':=.S none 0 0) (q':=[]) (RT.nil _ _ _ _ _) (qe) (λb e=>by simp[Value.ownBlock]at e);rw[Kf,show((s.1,0,[]):aP)=jh s from rfl,vj jh hs]at S2;obtain⟨V,hV⟩:=az (Y.setCell (Ad gs (k*3+2)) (.S none 0 0));rw[<-hV]at S2 F2;have F3:=F1.sub (T':=[190,84]) ai;have FF:=F3.trans F2;have BV:Bw w V:=by rw[hV,hY];exact(HI.2.2.2.2.setCell (p:=(Ad gs _)) (dQ iY hge) _).setCell (p:=(Ad gs _)) (dQ iY hge) _
 have HN:=af (ah S2 (ah (gy.fr HI.2.1 FF) (ah (HI.2.2.1.fr FF) (ah (HI.2.2.2.1.fr FF) BV))));clear S1 F1 S2 F2 F3 FF BV hq hQ fh;rw[hY]at hV;go_wp2;rw[<-hV];go_roundw;exact⟨k+1,_,ae,by go_num,HN⟩;exact bM};{
 have bu:=dm k n;have ek:k=n:=ae;have H2:=aa HI;rw[yr jh (by rw[aa en];omega)]at H2;have HI:=af H2;clear H2 ek hk aT;go_wp2;clear i0 i1 i2 i3 i4 i5 if' bu
 go_loopw[5](λiv wr=>∃(k:Nat),k<=m/\iv=.I k/\Hid (kx B wr (.S p' n c') (ss.map jh) Qs/\AK B wr (.S q' m d') (lh iG k ns)/\BX wr ob [.U e,.U g,.U x,.I 0,.S p' n c',.S q' m d']/\BX wr (w.heap.size+1) [.U 0,.U 0,.U 0,.I 0,.S none 0 0,.S none 0 0]/\Bw w wr)) (λiv _=>m-(intOf iv).toNat)
 exact⟨0,fN _,rfl,by rw[vh];exact HI⟩;{
 clear HI;obtain⟨k,hk,rfl,HI⟩:=hrel;obtain⟨i0,i1,i2,i3,i4,i5,if'⟩:=HI.2.2.1.cells;by_cases aT:k<m;{
 have bu:=aS k m;obtain⟨nd,hs⟩:∃s,ns[k]?=some s:=⟨_,bD (aa em▸aT)⟩;obtain⟨gn,P,V,H,U,rfl,-,-,-,-,-,-,-,-,-,j7,-,-,-,-,jf⟩:=HI.2.1.at (mc iG hs);have hge:=(RT.lt HI.2.1 gn rfl).1;have wk:IntKind.i64.wrap ((k:Int)+1)=((k+1:Nat):Int):=by rw[jL _ ae];omega
 obtain⟨S1,F1⟩:=gy.put HI.2.1 (mc iG hs) (j:=7) aZ (.S none 0 0) (iG nd) (λw' P V H U h1 h2 h3 h4 _=>⟨P,V,H,.S none 0 0,rfl,h1,h2,h3,TU.nil _⟩);rw[vj iG hs]at S1;obtain⟨Y,hY⟩:=az (wr.setCell (Ad gn (k*8+7)) (.S none 0 0));rw[<-hY]at S1 F1;have BV:Bw w Y:=by rw[hY];exact HI.2.2.2.2.setCell (p:=(Ad gn _)) (dQ iY hge) _
 have HN:=af (ah (HI.1.fr F1) (ah S1 (ah (HI.2.2.1.fr F1) (ah (HI.2.2.2.1.fr F1) BV))));clear S1 F1 BV;go_wp2;rw[<-hY];go_roundw;exact⟨k+1,ae,by go_num,HN⟩;exact bM};{have bu:=dm k m;have H2:=aa HI;rw[yr iG (by rw[aa em];omega)]at H2;obtain⟨r0,r1,r2,r3,r4,r5,rf⟩:=H2.2.2.2.1.cells;obtain⟨cur,Av⟩:=H2.2.2.2.1.2;have F1:Fr [35] wr (dB wr (w.heap.size+1) (.U e) (.U g) (.U x) (.I 0) (.S p' n c') (.S q' m d')):=je Av;have HN:=af (ah (H2.1.fr F1) (ah (gy.fr H2.2.1 F1) (H2.2.2.2.2.trans ((cT (w:=wr) (w.heap.size+1) (.U e) (.U g) (.U x) (.I 0) (.S p' n c') (.S q' m d')).mono ae))));clear H2 Av F1 HI;go_wp2;exact dD (v:=ft e g x 0 (.S p' n c') (.S q' m d')) (by simp[results,results38,go_sem,r0,r1,r2,r3,r4,r5]) rfl ⟨_,_,_,_,B,_,rfl,iY,HN.1,HN.2.1,HN.2.2⟩}}}}
end Go.Proofs.YtkakbcaiplggiaaGreatDoor
