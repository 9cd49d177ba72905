import Derived.Test.YtjjnidignljppaaGreatDoorK29
import Derived.Test.YtjjnidignljppaaGreatDoorK25
namespace Go.Proofs.YtjjnidignljppaaGreatDoor
set_option maxHeartbeats 6400000
set_option linter.all false
set_option maxRecDepth 100000
open Go.ChangeShapes Go.WideShapes Go.ChangeAt Go.RowKit Go.Maps Go.Proofs.Tryz
variable {D:SD}{b bn bs i j k:Nat}
def PS.blt{w0 w:World}{SB NB HB UB:List Nat}(h:PS w0 w b bs bn D SB NB HB UB):∀z∈PL b bs bn SB NB HB UB,z<w.heap.size:=fun z hz=>by
 simp only[PL,jA,gR]at hz;have key:∀{l:List Nat}{i:Nat},l.length=D.ns.length->l[i]?=some z->∃nd,D.ns[i]?=some nd:=fun hl hi=>⟨_,aO (by rw[<-hl];exact(aT.1 hi).1)⟩;rcases hz with rfl|rfl|rfl|hz|hz|hz|hz;{exact aL h.hd};{obtain⟨M,n,o,-⟩:=h.rZ;exact o.lt};{obtain⟨M,n,o,-⟩:=h.lr;exact o.lt};{obtain⟨i,hi⟩:=gv.1 hz;obtain⟨s,hs⟩:∃s,D.ss[i]?=some s:=⟨_,aO (by rw[<-h.tc];exact(aT.1 hi).1)⟩;obtain⟨-,u,hc,-⟩:=h.ve i s z hs hi;exact aL hc};{obtain⟨i,hi⟩:=gv.1 hz;obtain⟨nd,br⟩:=key h.te hi;obtain⟨g,hh,uu,h1,h2,h3,hN⟩:=h.nat br;rw[hi]at h1;cases h1;obtain⟨V,hb,-⟩:=hN.blk;exact aL hb};{obtain⟨i,hi⟩:=gv.1 hz;obtain⟨nd,br⟩:=key h.hlen hi;obtain⟨g,hh,uu,h1,h2,h3,hN⟩:=h.nat br;rw[hi]at h2;cases h2;obtain⟨es,c,hm⟩:=hN.UD.at;exact aL hm};{obtain⟨i,hi⟩:=gv.1 hz;obtain⟨nd,br⟩:=key h.tR hi;obtain⟨g,hh,uu,h1,h2,h3,hN⟩:=h.nat br;rw[hi]at h3;cases h3;obtain⟨es,c,hm⟩:=hN.Vc.at;exact aL hm}
def One.ofI{w0 w w':World}{z:Nat}(be:Bw w0 w)(hg:w.grownBy w' (some z))(hz:w0.heap.size<=z)(hn:∀cur ty m,w.heap[z]?≠some (.cells cur ty m)):One w0 w w' z:=
 ⟨(cW w0.heap.size w).grown hg be.size (fun b e=>by cases e;exact hz),fun y hy cg=>hg.block y hy (fun e=>cg (by cases e;rfl)),fun cur ty m hc=>absurd hc (hn cur ty m)⟩
def Wo{SB NB HB UB:List Nat}{L:List Nat}(h:∀z∈PL b bs bn SB NB HB UB,z∈L):∀z∈PL b bs bn SB (NB.eraseIdx k) (HB.eraseIdx k) (UB.eraseIdx k),z∈L:=fun z hz=>h z (by
 simp only[PL,jA,gR]at hz⊢;rcases hz with h|h|h|h|h|h|h;{exact .inl h};{exact .inr (.inl h)};{exact .inr (.inr (.inl h))};{exact .inr (.inr (.inr (.inl h)))};{exact .inr (.inr (.inr (.inr (.inl (EO h)))))};{exact .inr (.inr (.inr (.inr (.inr (.inl (EO h))))))};{exact .inr (.inr (.inr (.inr (.inr (.inr (EO h))))))})
theorem IY{α β:Type}(f:α->β):∀(l:List α)(k:Nat),(l.eraseIdx k).map f=(l.map f).eraseIdx k
 |[],k=>ai
 |a::r,0=>ai
 |a::r,k+1=>by simp[IY f r k]
theorem Ys{ns:List aB}{PP:List LI}{P:LI}(h:(ns.map (·.path)).drop i=PP.drop j)(hP:PP[j]?=some P):∃nd,ns[i]?=some nd/\nd.path=P:=by
 have h1:(PP.drop j)[0]?=some P:=by rw[Kt];simpa using hP
 rw[<-h,Kt,Fe,kU]at h1;cases hn:ns[i]? with
 |none=>rw[hn]at h1;cases h1
 |some nd=>rw[hn]at h1;exact⟨nd,rfl,by simpa using h1⟩
def El{α:Type}{l PP:List α}(h:l.drop i=PP.drop j):l.drop (i+1)=PP.drop (j+1):=by
 have e1:l.drop (i+1)=(l.drop i).drop 1:=by rw[ND]
 have e2:PP.drop (j+1)=(PP.drop j).drop 1:=by rw[ND]
 rw[e1,e2,h]
structure CR(w0 Y w2 wr:World)(b bs bn:Nat)(SB:List Nat)(L:List Nat)(D:SD)(NB HB UB:List Nat):Prop where
 ps:PS w0 wr b bs bn D SB NB HB UB
 fr:Fr T3 Y wr
 kb:Kb L w2 wr
 sub:∀z∈PL b bs bn SB NB HB UB,z∈L
 sz:w2.heap.size<=wr.heap.size
theorem ag5{w0:World}{w:World}{SB NB HB UB:List Nat}(h:Hid (PS w0 w b bs bn D SB NB HB UB))(hC:Hid (CI D.ss D.ns))(Hx:Hid ((D.ns.map fun nd=>qw nd.path).Pairwise (·<·))){s:aR}(hk:Hid (D.ss[k]?=some s)){m:Nat}(em:Hid (D.ns.length=m))(hm:m<=1048576):Cp 273 #[.agg #[.U s.1],.pointer (some ⟨b,0,none⟩)] w fun r w'=>∃SB' NB' WW UB',sP w0 w b bs bn (jt D s.1) SB' NB' WW UB' rB r w':=by
 obtain⟨X,Y,hX,hY,bY,zX,zY,BX,RY⟩:=uF w #[.U s.1] 229;have hid:=hC.so.rg s (aS (aa hk));have cL:=keyOf_int_mk underlying28 (nT hid);have PY:=h.below bY;obtain⟨-,-,-,-,-,h5,-⟩:=PY.fh;obtain⟨M,n,oN,hn,mN,zN⟩:=PY.lr;have QC:=h.be.size;have Lj:Hid (∀nd∈D.ns,Maps.has M (bQ nd.path)=true):=fun nd br=>by obtain⟨i,hi⟩:=gv.1 br;obtain⟨gz,_,_,Wc,_,_⟩:=PY.nat hi;exact(mN.hs _).2 ⟨(bQ nd.path,gz),by rw[gv];exact⟨i,by rw[jT,hi,Wc]⟩,rfl⟩
 have HY:=af (ah PY (ah BX RY));have HBY:=af bY;have HZY:=af zY;have MN:=af mN;have dt5:w0.heap.size<=Y.heap.size:=ae;rw[hY,hX]at h5 oN;clear PY BX RY bY zX zY mN zN;go_enter func273,ntmps273;go_wp2_with(first
  |(at_range;refine wpList_range_own _ rfl _ 112 rfl 9 _ me underlying112 _ bn n _ rfl oN ?_;intro w1 nw CN Ml)
  |go_in)
 go_frame
 rw[<-hX,<-hY]at nw CN⊢;obtain⟨r1,Pn⟩:=au Y.heap.size;rw[<-Pn]at nw⊢;have ER:=af Pn;have b1:Bw Y w1:=(cW Y.heap.size Y).grown CN ao (fun j hj=>by cases hj);have P1:=af (HY.1.below b1);have F1:=af (Fr.below (T:=T3) b1);have bn7:w0.heap.size<=r1:=ae;clear Pn hX hY h5 oN CN Ml b1
 go_loopw[6](fun _ wr=>∃(left:Lit->Bool)(iM:Nat),wr.ranges prog 9 aV bn r1 n M left iM/\Hid (PS w0 wr b bs bn {D with ns:=rj (GS s.1) left D.ns} SB NB HB UB)/\Hid (Fr T3 Y wr)) (fun _ wr=>wr.rangeLeft bn r1)
 exact⟨_,_,nw,by rw[A9 (aa Lj)];exact P1,F1⟩;{
 obtain⟨left,iM,jb,Pf,Ih⟩:=hrel;go_wp2_with(first
  |(at_next;refine dW _ rfl _ rfl 9 me (fun s:ByteArray=>.string s) Zz bn r1 n _ _ MN _ _ rfl jb ?_ ?_)
  |go_in)
 {
 intro _ uz;have Lk:=aa Pf;rw[Ix uz]at Lk;have Qz:=af (hC.cw s.1);obtain⟨D1,eD1⟩:∃D1:SD,D1={D with ns:=D.ns.map (GS s.1)}:=⟨_,rfl⟩;have Jq:D1.ns.length=m:=by rw[eD1,fe];exact aa em
 have hPP:D1.ns.map (·.path)=D.ns.map (·.path):=by rw[eD1,uj];rfl
 rw[<-eD1]at Lk;obtain⟨-,-,-,-,-,h5,-⟩:=Lk.fh;obtain⟨M2,nn,oM,hnn,mM,zM⟩:=Lk.lr;have hNM:=Lk.sto.gy;have E1:=af eD1;obtain⟨Y2,eY2⟩:=au wr;subst eY2;have P2:=af Lk;have HL1:=af Jq;have HPP:=af hPP;have ik:D1.ss=D.ss:=by rw[eD1]
 have Cq:=af ik;have cb6:Hid ((D1.ns.map fun nd=>qw nd.path).Pairwise (·<·)):=by show List.Pairwise _ _;rw[eD1,uj];exact Hx
 have xu:Hid (CI D1.ss D1.ns):=by rw[eD1];exact Qz
 clear uz Pf jb Lk Jq hPP eD1 Qz ik;go_wp2_with fail;refine(T.ka bn nn M2 Y2 oM (by rw[zM,aa HL1];exact hm)).mono ?_;rintro r w2⟨kv,ks,rfl,Qt,Mf,aF⟩;obtain rfl:=vY hNM cb6 mM Qt;obtain⟨p,c,rfl,FD⟩:=Ka Mf;rw[aa HL1];have HK:=af FD;obtain⟨DF,eDF⟩:=cK (dC s.1 m 0 D1);have hzK:=P2.blt;have HZK:=af hzK;have CR2:=af (show CR w0 Y w2 w2 b bs bn SB (PL b bs bn SB NB HB UB) D1 NB HB UB from⟨P2.below aF,Ih.trans (Fr.below aF),fun z _ _=>rfl,fun z hz=>hz,jS _⟩);clear FD Mf Qt oM mM hNM zM aF h5 hzK;go_wp2
 go_loopw[31](fun iv wr=>∃(j i:Nat)(Dk:SD)(NBk HBk UBk:List Nat),j<=m/\iv=.I j/\Hid (dC s.1 (m-j) i Dk=DF)/\Hid ((Dk.ns.map (·.path)).drop i=(D1.ns.map (·.path)).drop j)/\Hid (CI Dk.ss Dk.ns)/\Hid (Dk.ss.map (·.1)=D1.ss.map (·.1))/\Hid (CR w0 Y w2 wr b bs bn SB (PL b bs bn SB NB HB UB) Dk NBk HBk UBk)) (fun iv _=>m-(intOf iv).toNat)
 exact⟨0,0,D1,NB,HB,UB,gq _,rfl,eDF,bq,xu,bq,CR2⟩;{
 obtain⟨j,i,Dk,NBk,HBk,UBk,hj,rfl,hDF,aG9,Js,bu4,hR⟩:=hrel;obtain⟨-,-,-,-,h4,h5,-⟩:=hR.ps.fh;have cB:wr.cell? ⟨w.heap.size,0,none⟩=some (.U s.1):=aq (hR.fr.2 _ _ _ _ aU HY.2.1) 0;by_cases aX:j<m;{
 have bu:=aP j m;obtain⟨x,hx⟩:∃x,D1.ns[j]?=some x:=⟨_,aO (by rw[aa HL1];exact aX)⟩;obtain⟨gk,rfl,hck⟩:∃gk,p=some ⟨gk,0,none⟩/\wr.cell? ⟨gk,j,none⟩=some (.string (aN x.path)):=by rcases aa HK with h0|⟨gk,rfl,h1,h2,h3⟩;{rw[h0]at hx;simp at hx};{refine⟨gk,rfl,?_⟩;have h4:=h3 j x hx;rw[lu]at h4;exact(aE (hR.kb gk h2 (fun hm=>by have:=aa HZK gk hm;omega)) j).trans h4}
 obtain⟨nd,hi,hpe⟩:=Ys (aa aG9) (P:=x.path) (by rw[kU,hx];rfl);rw[<-hpe]at hck;obtain⟨hT,hhp,hhl⟩:=Js.nt nd (aS hi);obtain⟨g,hh,uu,hg,mQ,nj,hN,hlk⟩:=hR.ps.Oe hi hT.pl;obtain⟨B,eB⟩:=cK (nd.holders.contains s.1);have Is:=af (ah hi (ah hg (ah mQ nj)));have HT:=af (ah hT (ah hhp hhl));have HN:=af hN;have HCB:=af (fun(v:World)(hv:Fr T3 wr v)=>aq (hv.2 _ _ _ _ aU (hR.fr.2 _ _ _ _ aU HY.2.1)) 0);clear hx hpe hi hT hhp hhl hg mQ nj hN;go_wp2_with fail;clear hck hlk h5;refine(kG HN hid eB).mono ?_;rintro r w5⟨rfl,dS⟩;have B5:=af dS;have cB5:=aa HCB w5 (Fr.below dS);obtain⟨D2,eD2⟩:=cK (dN Dk i s.1);clear dS cB
 go_upto_if 44 with fail
 go_cut[](fun wd=>Hid (PS w0 wd b bs bn D2 SB NBk HBk UBk)/\Hid (Fr T3 wr wd)/\Hid (Kb (PL b bs bn SB NBk HBk UBk) wr wd))
 case first=>(
 cases B;{
 go_wp2_with fail;go_meet;have e2:D2=Dk:=by have:=Gl Is.1 eB;exact eD2.symm.trans this
 rw[e2];exact⟨af (hR.ps.below B5),af (Fr.below B5),af (Kb.below B5)⟩};{go_wp2_with fail;refine(IN (af (hR.ps.below B5)) (af Is.1) (af Js.so) (af HT.1) hid (af HT.2.1) HT.2.2 eB).mono ?_;rintro r w6⟨P6,⟨F6,K6⟩,v6,rfl⟩;rw[aa eD2]at P6;have HP6:=af P6;have HF6:=af ((Fr.below B5).trans F6);have HK6:=af ((Kb.below B5).trans K6 B5.size);clear P6 F6 K6;go_wp2_with fail;go_meet;exact⟨HP6,HF6,HK6⟩})
 case rest=>(
 obtain⟨P6,F6,K6⟩:=hcut;obtain⟨q1,q2,q3,kP,q4,q5,q6⟩:=CI.drop Js Is.1 s.1;rw[aa eD2]at q1 q2 q3 q4;have N6:=P6.my i kP g hh uu q4 Is.2.1 Is.2.2.1 Is.2.2.2;obtain⟨V6,-,-,-,n1,-⟩:=N6.cells;have cB6:=aa HCB wc F6;have cR:=Cl (m:=m-j+i) (k:=i) ae eD2 q4;have aU1:=aa hDF;rw[show m-j+i-i=m-j by omega]at cR;rw[cR]at aU1;have ZM:(D2.ns.map (·.path)).drop i=(D1.ns.map (·.path)).drop j:=by rw[q2];exact aa aG9
 have sz6:w2.heap.size<=wc.heap.size:=fW hR.sz F6.1;have kb6:=hR.kb.trans (K6.mono hR.sub) hR.sz;have fr6:=hR.fr.trans F6;have HQ:=af (ah q1 (ah (q3.trans (aa bu4)) (ah q4 (ah ZM aU1))));have HS6:=af (ah sz6 (ah kb6 fr6));have HQ6:=af q6;clear N6 q1 q2 q3 q4 q6 cR aU1 ZM sz6 kb6 fr6;go_wp2_with fail;refine jN bg (fun W eW=>?_);have bW:=mi eW;have n1':=ag n1 bW;have cB7:=ag cB6 bW;have BW:=af bW;clear eW n1 cB6 bW cB5 h4
 repeat still_step
 refine wpStill_nil ?_;by_cases ho:kP.owner=s.1;{
 have Uy:(kP.owner==s.1)=true:=by simp[ho]
 have e7:=HQ.2.2.2.2;rw[bN ho,show m-j+i-1-i=m-(j+1) by omega]at e7;have E7:=af e7;have T7:=CI.tell HQ.1 HQ.2.2.1 2;have HRM:=M8 (af (P6.below BW)) (af HQ.2.2.1) (af HQ.1.so) (af (HQ.1.nt kP (aS HQ.2.2.1)).1) (af HQ.1.kd);rw[aa HQ6]at HRM;have cw5:=af HRM;have zy:i<D2.ns.length:=(aT.1 HQ.2.2.1).1;have hp7:Hid (((Qa (dR D2 i 2) i).ns.map (·.path)).drop i=(D1.ns.map (·.path)).drop (j+1)):=by show List.drop i (List.map _ (List.eraseIdx _ _))=_;rw[IY,T7.2.1,Gj (by rw[fe];exact zy)];exact El HQ.2.2.2.1
 have C7:=af (CI.rm T7.1 i);have I7:Hid ((Qa (dR D2 i 2) i).ss.map (·.1)=D1.ss.map (·.1)):=T7.2.2.1.trans HQ.2.1;clear ho e7 T7 HRM zy;go_wp2_with fail;refine cw5.mono ?_;rintro r w7⟨P7,⟨F7,K7⟩,v7,rfl⟩;have R7:=af (show CR w0 Y w2 w7 b bs bn SB (PL b bs bn SB NB HB UB) (Qa (dR D2 i 2) i) (NBk.eraseIdx i) (HBk.eraseIdx i) (UBk.eraseIdx i)from⟨P7,(HS6.2.2.trans (Fr.below BW)).trans F7,(HS6.2.1.trans (Kb.below BW) HS6.1).trans (K7.mono hR.sub) (by have:=BW.size;have:=HS6.1;omega),Wo hR.sub,by have:=BW.size;have:=HS6.1;have:=F7.1;omega⟩);clear P7 F7 K7 n1' cB7;go_wp2;go_roundw;exact⟨j+1,i,_,_,_,_,ae,by go_num,E7,hp7,C7,I7,R7⟩;exact bG};{
 have Uy:(kP.owner==s.1)=false:=by simp[ho]
 have e7:=HQ.2.2.2.2;rw[bH ho,show m-j+i-(i+1)=m-(j+1) by omega]at e7;have E7:=af e7;have hp7:=af (El HQ.2.2.2.1);have C7:=af HQ.1;have I7:=af HQ.2.1;have R7:=af (show CR w0 Y w2 W b bs bn SB (PL b bs bn SB NB HB UB) D2 NBk HBk UBk from⟨P6.below BW,HS6.2.2.trans (Fr.below BW),HS6.2.1.trans (Kb.below BW) HS6.1,hR.sub,by have:=BW.size;have:=HS6.1;omega⟩);clear ho e7;go_wp2;go_roundw;exact⟨j+1,i+1,_,_,_,_,ae,by go_num,E7,hp7,C7,I7,R7⟩
 case measure=>simp[intOf];omega})}
 {
 have bu:=du j m;have e7:=aa hDF;rw[show m-j=0 by omega,dC]at e7;subst e7;have hFY:=hR.fr;have V9:(Dk.ss.map (·.1))[k]?=some s.1:=by rw[aa bu4,aa Cq,kU,aa hk];rfl
 obtain⟨s2,qK,es2⟩:∃s2,Dk.ss[k]?=some s2/\s2.1=s.1:=by
  rw[kU]at V9;cases hq:Dk.ss[k]? with
  |none=>rw[hq]at V9;cases V9
  |some s2=>rw[hq]at V9;exact⟨s2,rfl,by simpa using V9⟩
 have Xy:=af (ah qK es2);clear V9 qK es2;go_wp2_with fail;refine dT 6 bg (fun W eW=>?_);have bW:=mi eW;have PW:=hR.ps.below bW;have FW:=hFY.trans (Fr.below (T:=T3) bW);have c0:W.cell? ⟨w.heap.size,0,none⟩=some (.U s.1):=aq (FW.2 _ _ _ _ aU HY.2.1) 0;obtain⟨-,-,-,-,k4,-⟩:=PW.fh;obtain⟨M4,n4,o4,hn4,s4,z4⟩:=PW.rZ;obtain⟨Z,dI,ho,yF⟩:=o4.drop iI underlying111 cL 0;have OZ:=One.YA PW.be yF.grown PW.lo.2.1 (ownsMap_at o4);have PZ:=PW.cq7 Xy.1 OZ (fun j' z' Mi e'=>by
  have bn9:=Ez.1 Js.so.pw;obtain⟨l1,v1⟩:=aT.1 Xy.1;obtain⟨l2,v2⟩:=aT.1 Mi;rcases yA k j' with hh|hh|hh;{have:=bn9 k j' l1 l2 hh;rw[v1,v2]at this;omega};{exact hh.symm};{have:=bn9 j' k l2 l1 hh;rw[v1,v2]at this;omega}) (fun M' n' o'=>by
  rw[Xy.2];obtain⟨w2',OG,mP,-⟩:=o'.drop iI underlying111 cL 0;rw[dI]at OG;cases OG;exact mP)
 have eCl:jt D s.1={Dk with ss:=Dk.ss.eraseIdx k}:=by have e9:=aa eDF;rw[aa E1,<-aa em]at e9;unfold jt;rw[e9,<-Vz Js.so Xy.1,Xy.2]
 rw[<-eCl]at PZ;have HPZ:=af PZ;have FZ0:=FW.trans OZ.fr;have FZ:=af ((Fr.below (T:=T3) HBY).trans FZ0);have RZ0:=HY.2.2.fr FZ0;obtain⟨r0,r1',r2,r3,r4,r5,r6,r7,rf⟩:=RZ0.cells;have RZ:=af RZ0;clear eW PZ OZ ho yF o4 s4 z4 PW FW FZ0 RZ0 eCl h4 h5 hFY;simp only[yj,rJ,yt,tf]
 repeat still_step
 refine wpStill_nil ?_;go_wp2;exact xW RZ bg rfl rfl ⟨_,_,_,_,PS.rep HPZ RZ ae _ _ _ _ _ _ _ _,FZ.low ((de _ _ _ _ _ _ _ _).mono ae),rfl⟩}}};{
 intro i0 pl g1 w4 rT bp7 hp RM pM aX fU VU AF;obtain⟨j,z,g1',hj,Qg,ee⟩:=gF hp;simp only[fO]at ee;obtain⟨rfl,rfl⟩:=ee;have vH:∀cur ty m,wr.heap[r1]?≠some (.cells cur ty m):=fun cur ty m e=>by obtain⟨es,clock,since,seen,c0,-,-,-,-,hi,-⟩:=jb;rw[hi]at e;cases e
 have Mm:∀es c,wr.heap[r1]?≠some (.map es c):=fun es c e=>by obtain⟨es,clock,since,seen,c0,-,-,-,-,hi,-⟩:=jb;rw[hi]at e;cases e
 have O4:=One.ofI Pf.be fU bn7 vH;have P4:=Pf.iter O4 (fun cs ty=>vH cs ty _) Mm;have F4:=Ih.trans O4.fr;have fD:=MB (f:=GS s.1) hj RM;obtain⟨g9,hh,uu,z1,z2,z3,N4⟩:=P4.nat fD;rw[Qg]at z1;cases z1;have Sd:(Instr.entry (.pointer (some ⟨r1,0,none⟩))).run prog w4=.ok (.tuple #[.string i0,.pointer (some ⟨g1,0,none⟩)]) w4:=AF;have HP4:=af (ah P4 (ah F4 fD));have HRG:=af (ah pM aX);have Is:=af (ah hj (ah Qg (ah z2 z3)));have HM:=af (ah jb.left_eq pM.left_eq);clear vH Mm O4 P4 F4 fD N4 pM aX fU VU hp bp7 Pf Ih AF z2 z3 Qg hj;go_wp2_with fail;refine dT 6 bg (fun W eW=>?_);have bW:=mi eW;have PW:=HP4.1.below bW;have NW:=PW.my j z g1 hh uu HP4.2.2 Is.2.1 Is.2.2.1 Is.2.2.2;obtain⟨V,-,-,-,-,-,-,-,-,n6,-⟩:=NW.cells;have FW:=HP4.2.1.trans (Fr.below (T:=T3) bW);have c0:W.cell? ⟨w.heap.size,0,none⟩=some (.U s.1):=aq (FW.2 _ _ _ _ aU HY.2.1) 0;obtain⟨M4,n4,o4,hn4,s4,z4⟩:=NW.Vc;obtain⟨Z,dI,ho,yF⟩:=o4.drop iI underlying118 cL 0;have OZ:=One.YA PW.be yF.grown NW.lo.2.2 (ownsMap_at o4);have SZ:=SM.del (w:=W) s4 (hC.nt z (aS Is.1)).1.wpw hn4 ho;have PZ:=PW.Vc HP4.2.2 Is.2.1 Is.2.2.1 Is.2.2.2 OZ SZ;have est:=DL (f:=GS s.1) (left:=left) hC.kd Is.1;have PZ':Hid (PS w0 Z b bs bn {D with ns:=rj (GS s.1) (fun z'=>left z'&&!z'.sameKey (bQ z.path)) D.ns} SB NB HB UB):=by have:=PZ;simp only at this;rw[<-est];exact this
 have FZ:=af (FW.trans OZ.fr);have mH:Z.ranges prog 9 aV bn r1 n M (fun z'=>left z'&&!z'.sameKey (bQ z.path)) rT:=by
  refine ua HRG.1 ?_ ?_;{obtain⟨M9,n9,o9,-⟩:=PW.lr;refine(OZ.k bn o9.lt (fun e=>(PW.hu.2.2.1 _ (aS Is.2.2.2)).2 e.symm)).trans ?_;rw[eW];rfl};{
 have hi9:∃o:Obj,W.heap[r1]?=some o/\∀es c,o≠.map es c:=by obtain⟨es,clock,since,seen,c0,-,-,-,-,hi,-⟩:=HRG.1;exact⟨_,by rw[eW];exact hi,fun es c e=>by cases e⟩
 obtain⟨o,ho9,cg⟩:=hi9;refine(OZ.k r1 (aL ho9) (fun e=>?_)).trans (by rw[eW];rfl);obtain⟨es,c,hm4⟩:=ownsMap_at o4;rw[e,hm4]at ho9;exact cg es c (Cz ho9).symm}
 clear eW NW SZ PZ est OZ ho yF o4 s4 z4 PW FW;simp only[yj,rJ,yt,tf]
 repeat still_step
 refine wpStill_nil ?_;go_wp2;go_roundw;exact⟨_,_,mH,PZ',FZ⟩
 case measure=>rw[mH.left_eq,jb.left_eq];exact HRG.2}}
end Go.Proofs.YtjjnidignljppaaGreatDoor
