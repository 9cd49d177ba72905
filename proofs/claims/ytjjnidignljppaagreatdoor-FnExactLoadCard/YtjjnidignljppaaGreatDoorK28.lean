import Derived.Test.YtjjnidignljppaaGreatDoorK25
import Derived.Test.YtjjnidignljppaaGreatDoorK26
namespace Go.Proofs.YtjjnidignljppaaGreatDoor
set_option maxHeartbeats 6400000
set_option linter.all false
set_option maxRecDepth 100000
open Go.ChangeShapes Go.WideShapes Go.ChangeAt Go.RowKit Go.Maps Go.Proofs.Tryz
variable {B F:Bool}{C e g s:Int}{D:SD}{P V l:LI}{b bn bs cp cv gN i j k nh np nv:Nat}{nd:aB}{ns:List aB}{pp pq pv:OA}{ss:List aR}{w0:World}
def PS.cs6{w0 w w':World}{SB NB HB UB:List Nat}(h:PS w0 w b bs bn D SB NB HB UB){s:aR}(hE:PE w0 w gN s)(wY:gN∉SB)(hid:∀s'∈D.ss,s'.1≠s.1)(O:One w0 w w' bs)(hl:D.ss.length<1048576)(hM:∀M,w.ownsMap prog 28 aV bs D.ss.length M->w'.ownsMap prog 28 aV bs (D.ss.length+1) (M.put (.U s.1) (.lit (.I gN)))):PS w0 w' b bs bn {D with ss:=D.ss++[s]} (SB++[gN]) NB HB UB:=by
 obtain⟨d0,d1,d2,d3,d4,d5⟩:=h.hu;obtain⟨M,n,o,hn,m,hz⟩:=h.rZ;obtain⟨es0,c0,m0⟩:=ownsMap_at o;have nc:∀{y:Nat}{cs:Array Value}{ty:TypeId},w.heap[y]?=some (.cells cs ty)->y≠bs:=fun{y cs ty}hy e=>by rw[e,m0]at hy;cases hy
 have la:∀p∈List.zipWith (fun(s:aR)g=>(Lit.U s.1,g)) D.ss SB,p.1≠.U s.1:=fun p hp e=>by obtain⟨i,s',y,h1,-,rfl⟩:=gF hp;exact hid s' (aS h1) (by simpa using e)
 have o':=fq o;rw[hz]at o';refine⟨h.be.trans O.b,O.obj h.hd (nc h.hd),by simp[h.tc],⟨_,_,hM M o',ae,?_,?_⟩,fun j s1 g1 ik fU=>?_,?_,h.te,h.hlen,h.tR,?_,fun j kP gb h1 u1 ik fU xy qX=>?_,h.YI,h.lo,h.yQ⟩;{rw[Y5 h.tc.symm];exact m.put o.isMap (k:=.U s.1) jW la gN};{
 have hh:Maps.has M (.U s.1)=false:=by rw[EG];intro e;obtain⟨p,hp,e2⟩:=(m.hs _).1 e;exact la p hp e2
 rw[size_put (mX o iI),hh];simp[hz]};{
 have aX:j<D.ss.length\/j=D.ss.length:=by have:=(aT.1 ik).1;simp at this;omega
 rcases aX with aX|rfl;{simp only[kT aX]at ik;rw[kT (by rw[h.tc];exact aX)]at fU;have q:=h.ve j s1 g1 ik fU;obtain⟨-,u,h1,-⟩:=id q;exact q.keep O (nc h1)};{simp at ik;rw[<-h.tc]at fU;simp at fU;subst ik;subst fU;obtain⟨-,u,h1,-⟩:=id hE;exact hE.keep O (nc h1)}};{rw[yk];refine⟨h.snd,ai,fun a ha c hc=>?_⟩;simp at hc;subst hc;exact fun e=>wY (e▸ha)};{obtain⟨M,n,o,r⟩:=h.lr;exact⟨M,n,O.map o (fun e=>d0 e.symm),r⟩};{have q:=h.my j kP gb h1 u1 ik fU xy qX;obtain⟨-,⟨V,q1,-⟩,p3,p4⟩:=id q;exact q.keep O (nc q1) (d1 _ (aS xy)).1 (d2 _ (aS qX)).1}
def ap7{w:World}{SB NB HB UB:List Nat}(h:Hid (PS w0 w b bs bn D SB NB HB UB))(hx:0<=D.x/\D.x<4611686018427387904)(ht:0<=D.t/\D.t<=1000000)(wY:Hid (∀s'∈D.ss,s'.1≠D.x+1))(hl:Hid (D.ss.length<1048576)):Cp 269 #[.agg #[],.pointer (some ⟨b,0,none⟩)] w fun r w'=>∃gN,sP w0 w b bs bn {D with x:=D.x+1,ss:=D.ss++[(D.x+1,D.t+10,[])]} (SB++[gN]) NB HB UB {rB with i:=D.x+1,n:=D.t+10} r w':=by
 obtain⟨X,Y,hX,hY,bY,zX,zY,BX,RY⟩:=uF w #[] 225;have RYH:=af RY;have QC:=h.be.size;obtain⟨-,-,h2,-,-,-,hf⟩:=h.fh;have bl:b<w.heap.size:=aL h.hd;have k2:=fun(o1 o2:Obj)=>ag h2 (((cW w.heap.size w).alloc ao o1).alloc ai o2);have kf:=fun(o1 o2:Obj)(o:Nat)=>((((cW w.heap.size w).alloc ao o1).alloc ai o2).frozen (p:=⟨b,o,none⟩) bl).trans (hf o);clear RY BX h2 hf bl;go_enter func269,ntmps269;go_wp2_with fail;rw[<-hX,<-hY];clear k2 kf;have PY:=af (h.below bY);obtain⟨Z,hZ⟩:=au (Y.setCell ⟨b,2,none⟩ (.U (D.x+1)));rw[<-hZ];have KQ:Z.heap[b]?=some (.cells #[.U D.e,.U D.g,.U (D.x+1),.I D.t,.map (some bs),.map (some bn)] 114):=by rw[hZ];simp[World.setCell,we,PY.hd]
 have O:=One.ofC PY.be (by rw[hZ];exact ay.setCell (p:=⟨b,2,none⟩) ao _:Below b Y Z) PY.hd PY.lo.1 ai (fun z _ cg=>by rw[hZ];exact fy _ _ _ _ (show z≠_ from cg));have PZ:=af (PY.XL O D.e D.g (D.x+1) D.t KQ);have FZ:=af O.fr;clear KQ O hZ PY hX hY;refine dT 10 bg (fun W eW=>?_);have bW:=mi eW;have PW:=af (PZ.below bW);have FW:=af (FZ.trans (Fr.below (T:=T3) bW));obtain⟨-,-,q2,q3,-⟩:=PW.fh;clear eW bW PZ FZ;simp only[yj,rJ,yt,tf]
 repeat still_step
 refine wpStill_nil ?_;obtain⟨V,hV,bV,zV,-,gV⟩:=aC W #[.U (D.x+1),.I (D.t+10),.S none 0 0] 86;go_wp2_with fail;rw[<-hV];clear hV q2 q3;have PV:=af (PW.below bV);have FV:=af (FW.trans (Fr.below (T:=T3) bV));obtain⟨gN,eN⟩:=au W.heap.size;rw[<-eN]at gV⊢;have hnS:gN∉SB:=fun e=>by obtain⟨i,hi⟩:=gv.1 e;obtain⟨s',tv⟩:∃s',D.ss[i]?=some s':=⟨_,aO (by have:=PW.tc;simp only at this;rw[<-this];exact(aT.1 hi).1)⟩;obtain⟨-,u,hu,-⟩:=PW.ve i s' gN tv hi;have:=aL hu;omega
 have glo:w0.heap.size<=gN:=by have:=PW.be.size;omega
 have HN:=af (ah hnS glo);have GV:=af gV;clear hnS eN PW FW gV;refine dT 9 bg (fun W2 eW2=>?_);have bV2:=mi eW2;have Xv:=af (PV.below bV2);have FW2:=af (FV.trans (Fr.below (T:=T3) bV2));obtain⟨-,-,-,-,q4,-⟩:=Xv.fh;have gW2:=(bV2.block gN (aL GV)).trans GV;have g0:=aq gW2 0;have cL:=keyOf_int_mk underlying28 (nT (i:=D.x+1) ae);obtain⟨M,n,o,hn,m,hz⟩:=Xv.rZ;have o':=fq o;rw[hz]at o';obtain⟨U,dI,ho,sU⟩:=o'.update iI underlying111 (by have:=aa hl;show D.ss.length<_;unfold maxLen;omega) cL (lp gN);have O2:=One.YA Xv.be sU Xv.lo.2.1 (ownsMap_at o');have PU:=af (Xv.cs6 (s:=(D.x+1,D.t+10,[])) (gN:=gN) ⟨HN.2,_,gW2,AQ.nil _ _⟩ HN.1 wY O2 hl (fun M' o1=>by obtain⟨U',BK,Uy,-⟩:=o1.update iI underlying111 (by have:=aa hl;show D.ss.length<_;unfold maxLen;omega) cL (lp gN);rw[dI]at BK;cases BK;exact Uy))
 have FU:=af (FW2.trans O2.fr);have cg:gN≠bs:=fun e=>by obtain⟨es,c,hm⟩:=ownsMap_at o;rw[<-e,gW2]at hm;cases hm
 have GU:=af (O2.obj gW2 cg);clear eW2 bV2 gW2 o o' m hz ho sU O2 PV FV cg;simp only[yj,rJ,yt,tf]
 repeat still_step
 refine wpStill_nil ?_;go_wp2_with fail;clear dI g0 q4 Xv FW2;refine dT 9 bg (fun W3 eW3=>?_);have bU:=mi eW3;have P3:=af (PU.below bU);have F3:=FU.trans (Fr.below (T:=T3) bU);have gW3:=(bU.block gN (aL GU)).trans GU;have g0:=aq gW3 0;have g1:=aq gW3 1;have R3:=RYH.fr F3;obtain⟨r0,r1,r2,r3,r4,r5,r6,r7,rf⟩:=R3.cells;have F3':=af ((Fr.below (T:=T3) bY).trans F3);have R3':=af R3;clear eW3 bU gW3 R3 F3;simp only[yj,rJ,yt,tf]
 repeat still_step
 refine wpStill_nil ?_;go_wp2;exact xW R3' bg rfl rfl ⟨gN,PS.rep P3 R3' ae _ _ _ _ _ _ _ _,F3'.low ((de _ _ _ _ _ _ _ _).mono ae),rfl⟩
def Yx:(dY l).length<=l.length+1:=by
 unfold dY;split;{simp};{rw[pK];omega}
def as1(hl:P.length<=1048577):keyOf prog 9 (.string (aN P))=some (bQ P):=by
 rw[WideMaps.keyOf_string_mk underlying9 (by rw[gS];unfold maxLen;omega),nR]
def PS.aR6{w0 w:World}{SB NB HB UB:List Nat}(h:PS w0 w b bs bn D SB NB HB UB){g:Nat}(hi:D.ns[i]?=some nd)(hg:NB[i]?=some g)(hl:nd.path.length<=1048577):(Instr.lookup 112 (.map (some bn)) (.string (aN nd.path)) true).run prog w=.ok (.tuple #[.pointer (some ⟨g,0,none⟩),.bool true]) w:=by
 obtain⟨M,n,o,-,m,-⟩:=h.lr;obtain⟨v,ps,hr,hv⟩:=o.look_ok me underlying112 (nJ w) (zd:=.nil) (zp:=[]) rfl (as1 hl);have hp:(bQ nd.path,g)∈List.zipWith (fun(nd:aB)g=>(bQ nd.path,g)) D.ns NB:=aS (i:=i) (by rw[jT,hi,hg]);rw[m.at' _ hp]at hv;obtain rfl:=jO hv;rw[hr,(m.hs _).2 ⟨_,hp,rfl⟩]
def PS.YM{w0 w:World}{SB NB HB UB:List Nat}(h:PS w0 w b bs bn D SB NB HB UB)(la:ia D.ns P=none)(hB:aM P)(xC:∀nd∈D.ns,aM nd.path)(hl:P.length<=1048577):(Instr.lookup 112 (.map (some bn)) (.string (aN P)) true).run prog w=.ok (.tuple #[.pointer none,.bool false]) w:=by
 obtain⟨M,n,o,-,m,-⟩:=h.lr;obtain⟨v,ps,hr,hv⟩:=o.look_ok me underlying112 (nJ w) (zd:=.nil) (zp:=[]) rfl (as1 hl);have hh:Maps.has M (bQ P)=false:=by rw[EG];intro e;obtain⟨p,hp,e2⟩:=(m.hs _).1 e;obtain⟨i,nd,y,hx,hy,rfl⟩:=gF hp;exact IW la nd (aS hx) (l8 (xC nd (aS hx)) hB e2)
 rw[Maps.atKey_of_not_has hh]at hv;obtain rfl:=ud hv;rw[hr,hh]
theorem WJ{w:World}{SB NB HB UB:List Nat}(h:Hid (PS w0 w b bs bn D SB NB HB UB))(hB:Hid (aM l))(xC:Hid (∀nd∈D.ns,aM nd.path))(hl:l.length<=1048577)(eB:Hid (dQ D.ns l=B)):Cp 190 #[.pointer (some ⟨b,0,none⟩),.string (aN l)] w fun r w'=>r=.returned (.bool B)/\Bw w w':=by
 obtain⟨-,-,-,-,-,yK,-⟩:=h.fh;have ky:((aN l).toList==(aN [47]).toList)=decide (l=[47]):=qx (aa hB) (by intro y hy;simp at hy;omega);rw[show(aN [47]).toList=[47]from fE [47]]at ky;by_cases py:l=[47];{
 have eT:B=true:=by rw[<-aa eB,dQ,bN py]
 subst eT;have hr:((aN l).toList==[47])=true:=by rw[ky];simp[py]
 obtain⟨s,es⟩:=au (aN l);rw[<-es]at hr⊢;clear ky py es;go_enter func190,ntmps190;go_wp2;go_ret;exact⟨rfl,cW _ _⟩};{
 have hr:((aN l).toList==[47])=false:=by rw[ky];simp[py]
 have jc:(match ia D.ns l with|some nd=>nd.owner==0|none=>false)=B:=by rw[<-aa eB,dQ,bH py];rfl
 clear ky py;cases hF:ia D.ns l with
 |none=>
  rw[hF]at jc;have eF:B=false:=jc.symm;subst eF;have dI:=h.YM hF hB xC hl;obtain⟨s,es⟩:=au (aN l);rw[<-es]at hr dI⊢;clear hF jc es;go_enter func190,ntmps190;go_wp2;go_ret;exact⟨rfl,cW _ _⟩
 |some nd=>
  rw[hF]at jc;replace jc:(nd.owner==0)=B:=jc;obtain⟨rfl,i,hi⟩:=uW hF;obtain⟨g1,h1,u1,q1,q2,q3,hN⟩:=h.nat hi;have dI:=h.aR6 hi q1 hl;obtain⟨V,-,-,-,hcO,-⟩:=hN.cells;obtain⟨ow,Wr⟩:=aI nd.owner;rw[Wr]at hcO jc;obtain⟨s,es⟩:=au (aN nd.path);rw[<-es]at hr dI⊢;clear hF hi q1 q2 q3 hN Wr es;go_enter func190,ntmps190;go_wp2;go_ret;exact⟨by rw[<-jc];rfl,cW _ _⟩}
def LJ(D:SD)(P:LI):Int:=if(ia D.ns P).isSome then 6 else if dQ D.ns (dY P)=false then 7 else if 200<=D.ns.length then 11 else 0
theorem WB{w:World}{SB NB HB UB:List Nat}(h:Hid (PS w0 w b bs bn D SB NB HB UB))(hB:Hid (aM P))(Xr:Hid (P.length=np))(qY:np<=1048576)(xC:Hid (∀nd∈D.ns,aM nd.path)){id:Int}(eC:Hid (LJ D P=C)):Cp 282 #[.agg #[.U id,.string (aN P),.bool F,.S pv nv cv],.pointer (some ⟨b,0,none⟩)] w fun r w'=>r=.returned (Gd C)/\Bw w w':=by
 obtain⟨X,hX,bX,zX,CX,-⟩:=aC w #[.U id,.string (aN P),.bool F,.S pv nv cv] 231;have e:=aa eC;unfold LJ at e;go_enter func282,ntmps282;go_wp2_with fail;rw[<-hX];refine jN bg (fun W eW=>?_);have bW:Bw w W:=by rw[eW];exact bX.drew
 have PW:=af (h.below bW);obtain⟨-,-,-,-,-,k5,-⟩:=PW.fh;have CW:=CX.dM (w':=W) (by rw[eW];rfl);have c1:=CW.1 1 _ rfl;have zW:w.heap.size<W.heap.size:=by rw[eW];show _<X.heap.size;omega
 have HCW:=af CW;clear hX eW CX CW;cases hF:ia D.ns P with
 |some nd=>
  rw[hF]at e;obtain⟨rfl,i,hi⟩:=uW hF;obtain⟨g1,h1,u1,q1,-,-,hN⟩:=PW.nat hi;have dI:=PW.aR6 hi q1 (by rw[aa Xr];omega);have e':C=6:=by rw[<-e];rfl
  subst e';clear e hF hi q1 hN
  repeat still_step
  refine wpStill_nil ?_;go_wp2;go_ret;exact⟨rfl,bW⟩
 | none=>
  rw[hF]at e;have dI:=PW.YM hF (aa hB) (aa xC) (by rw[aa Xr];omega);have E:=af e;clear e hF
  repeat still_step
  refine wpStill_nil ?_;go_wp2_with fail;refine(sg (l:=P) (n:=np) Xr hB qY (w:=W)).mono ?_;rintro r w2⟨rfl,rfl⟩;obtain⟨B,eB⟩:=cK (dQ D.ns (dY P));have bo0:(dY P).length<=1048577:=by have:=Yx (l:=P);have:=aa Xr;omega
  go_wp2_with fail;refine(WJ (w:=w2) (b:=b) (bs:=bs) (bn:=bn) (D:=D) (SB:=SB) (NB:=NB) (HB:=HB) (UB:=UB) PW (l:=dY P) (af (rH hB)) xC bo0 (B:=B) eB).mono ?_;rintro r w5⟨rfl,dS⟩;have e:=aa E;rw[aa eB]at e;have zJ:=af (aj bW dS);have P5:=af (PW.below dS);clear dI c1 k5 bo0 dS;cases B with
  |false=>
   have e':C=7:=by rw[<-e];simp
   subst e';clear e;go_wp2;go_ret;exact⟨rfl,zJ⟩
  |true=>
   obtain⟨-,-,-,-,-,k5,-⟩:=P5.fh;obtain⟨M,n,o,hn,m,hz⟩:=P5.lr;have hlen:=o.len underlying112 3;rw[hz]at hlen;obtain⟨nl,jH⟩:=aI D.ns.length;rw[jH]at hlen e;clear o m hz jH;by_cases h2:200<=nl;{
 have h2':=dw 200 nl;have e':C=11:=by rw[<-e];simp[h2]
 subst e';clear e;go_wp2;go_ret;exact⟨rfl,zJ⟩};{
 have h2':¬(200:Int)<=(nl:Int):=ae;have e':C=0:=by rw[<-e];simp[h2]
 subst e';clear e;go_wp2;go_ret;exact⟨rfl,zJ⟩}
def ij{α:Type}(j:Nat)(a:α)(l:List α):List α:=l.take j++a::l.drop j
def lD{α:Type}{a:α}{l:List α}(hj:j<=l.length):(ij j a l).length=l.length+1:=by
 unfold ij;simp;omega
def sC{α:Type}(a:α){l:List α}:(ij j a l).Perm (a::l):=by
 unfold ij;refine Y4.trans ?_;rw[BH]
def uX{α:Type}{a:α}{l:List α}(hj:j<=l.length)(i:Nat):(ij j a l)[i]?=if i<j then l[i]? else if i=j then some a else l[i-1]?:=by
 unfold ij;by_cases h1:i<j;{rw[bN h1,kT (by rw[pK];omega),Fc,bN h1]};{rw[bH h1,mE (by rw[pK];omega),pK,YU hj];by_cases h2:i=j;{subst h2;simp};{rw[bH h2];obtain⟨d,rfl⟩:∃d,i=j+d+1:=⟨i-j-1,ae⟩;rw[show j+d+1-j=d+1 by omega,As,Kt];simp}}
theorem Us(nd:aB):∀l:List aB,∃j,j<=l.length/\mg nd l=ij j nd l
 |[]=>⟨0,ai,by simp[mg,ij]⟩
 |x::r=>by rw[mg];split;{exact⟨0,ai,by simp[ij]⟩};{obtain⟨j,hj,e⟩:=Us nd r;refine⟨j+1,bj,?_⟩;rw[e];simp[ij]}
def VP{α β γ:Type}(f:α->β->γ){a:α}{c:β}{l:List α}{m:List β}(hl:l.length=m.length)(hj:j<=l.length):List.zipWith f (ij j a l) (ij j c m)=ij j (f a c) (List.zipWith f l m):=by
 unfold ij;rw[Y5 (by simp[hl]),aD4,List.take_zipWith,List.drop_zipWith]
def PS.bB2{w0 w w':World}{SB NB HB UB:List Nat}(h:PS w0 w b bs bn D SB NB HB UB){hN uN:Nat}(hj:j<=D.ns.length)(hPN:PN w0 w gN hN uN nd)(hg:gN∉NB)(wY:∀z∈bs::bn::(HB++UB),z≠hN/\z≠uN)(hNu:hN≠uN)(hid:∀nd'∈D.ns,bQ nd'.path≠bQ nd.path)(O:One w0 w w' bn)(hl:D.ns.length<1048576)(hM:∀M,w.ownsMap Tryz.prog 9 aV bn D.ns.length M->w'.ownsMap Tryz.prog 9 aV bn (D.ns.length+1) (M.put (bQ nd.path) (.lit (.I gN)))):PS w0 w' b bs bn {D with ns:=ij j nd D.ns} SB (ij j gN NB) (ij j hN HB) (ij j uN UB):=by
 obtain⟨d0,d1,d2,d3,d4,d5⟩:=h.hu;obtain⟨M,n,o,hn,m,hz⟩:=h.lr;obtain⟨es0,c0,m0⟩:=ownsMap_at o;have nc:∀{y:Nat}{cs:Array Value}{ty:TypeId},w.heap[y]?=some (.cells cs ty)->y≠bn:=fun{y cs ty}hy e=>by rw[e,m0]at hy;cases hy
 have la:∀p∈List.zipWith (fun(nd:aB)g=>(bQ nd.path,g)) D.ns NB,p.1≠bQ nd.path:=fun p hp e=>by obtain⟨i,s',y,h1,-,rfl⟩:=gF hp;exact hid s' (aS h1) e
 have o':=fq o;rw[hz]at o';refine⟨h.be.trans O.b,O.obj h.hd (nc h.hd),h.tc,?_,fun i s1 g1 ik fU=>?_,h.snd,?_,?_,?_,⟨_,_,hM M o',ae,?_,?_⟩,fun i kP gb h1 u1 ik fU xy qX=>?_,?_,h.lo,?_⟩;{obtain⟨M,n,o,r⟩:=h.rZ;exact⟨M,n,O.map o d0,r⟩};{have q:=h.ve i s1 g1 ik fU;obtain⟨-,u,h1,-⟩:=id q;exact q.keep O (nc h1)};{rw[lD (by rw[h.te];exact hj),lD hj,h.te]};{rw[lD (by rw[h.hlen];exact hj),lD hj,h.hlen]};{rw[lD (by rw[h.tR];exact hj),lD hj,h.tR]};{rw[VP _ h.te.symm hj];refine(m.put o.isMap (k:=bQ nd.path) jW la gN).same fun p=>?_;rw[(sC _).mem_iff];simp[or_comm]};{
 have hh:Maps.has M (bQ nd.path)=false:=by rw[EG];intro e;obtain⟨p,hp,e2⟩:=(m.hs _).1 e;exact la p hp e2
 rw[size_put (mX o me),hh,lD hj];simp[hz]};{
 simp only[uX hj]at ik;rw[uX (by rw[h.te];exact hj)]at fU;rw[uX (by rw[h.hlen];exact hj)]at xy;rw[uX (by rw[h.tR];exact hj)]at qX;have kp:∀{i':Nat},D.ns[i']?=some kP->NB[i']?=some gb->HB[i']?=some h1->UB[i']?=some u1->PN w0 w' gb h1 u1 kP:=fun a1 a2 a3 a4=>by have q:=h.my _ kP gb h1 u1 a1 a2 a3 a4;obtain⟨-,⟨V,q1,-⟩,p3,p4⟩:=id q;exact q.keep O (nc q1) (d1 _ (aS a3)).2 (d2 _ (aS a4)).2
 by_cases e1:i<j;{rw[bN e1]at ik fU xy qX;exact kp ik fU xy qX};{rw[bH e1]at ik fU xy qX;by_cases e2:i=j;{rw[bN e2]at ik fU xy qX;cases ik;cases fU;cases xy;cases qX;obtain⟨-,⟨V,q1,-⟩,p3,p4⟩:=id hPN;exact hPN.keep O (nc q1) (fun e=>(wY bn ai).1 e.symm) (fun e=>(wY bn ai).2 e.symm)};{rw[bH e2]at ik fU xy qX;exact kp ik fU xy qX}}};{rw[(sC _).nodup_iff,vg];exact⟨hg,h.YI⟩};{
 have pm:(bs::bn::(ij j hN HB++ij j uN UB)).Perm (hN::uN::(bs::bn::(HB++UB))):=by
  have a1:(ij j hN HB++ij j uN UB).Perm (hN::uN::(HB++UB)):=
   ((sC (j:=j) hN (l:=HB)).append (sC (j:=j) uN (l:=UB))).trans ((Y4 (a:=uN) (l₁:=HB) (l₂:=UB)).cons hN)
  have a2:=(a1.cons bn).cons bs;have mv:∀(x y:Nat)(l:List Nat),(x::bs::bn::y::l).Perm (x::y::bs::bn::l):=fun x y l=>(((List.Perm.swap y bn l).cons bs).trans (List.Perm.swap y bs (bn::l))).cons x;have a3:(bs::bn::hN::uN::(HB++UB)).Perm (hN::bs::bn::uN::(HB++UB)):=((List.Perm.swap hN bn (uN::(HB++UB))).cons bs).trans (List.Perm.swap hN bs _);exact(a2.trans a3).trans (mv hN uN _)
 rw[pm.nodup_iff,vg,vg];refine⟨fun e=>?_,fun e=>(wY uN e).2 rfl,h.yQ⟩;rcases jA.1 e with e|e;{exact hNu e};{exact(wY hN e).1 rfl}}
def Ns{Y:World}{s:Nat}(es:Y.heap.size=s)(v0 v1 v2 v4 v5:Value):∃V,V=((Y.alloc (.map #[] 0)).alloc (.map #[] 0)).alloc (.cells #[v0,v1,v2,.map (some s),v4,v5,.map (some (s+1))] 121)/\Bw Y V/\V.heap.size=s+3/\V.heap[s+2]?=some (.cells #[v0,v1,v2,.map (some s),v4,v5,.map (some (s+1))] 121)/\SM V s []/\SM V (s+1) []:=by
 subst es;have z1:(Y.alloc (.map #[] 0)).heap.size=Y.heap.size+1:=ai;have z2:((Y.alloc (.map #[] 0)).alloc (.map #[] 0)).heap.size=Y.heap.size+2:=ai;obtain⟨V,hV,bV,zV,-,gV⟩:=aC ((Y.alloc (.map #[] 0)).alloc (.map #[] 0)) #[v0,v1,v2,.map (some Y.heap.size),v4,v5,.map (some (Y.heap.size+1))] 121;rw[z2]at gV zV;have o1:=World.ownsMap_made (H:=Unit) Y prog 28 unitElem;have o2:=World.ownsMap_made (H:=Unit) (Y.alloc (.map #[] 0)) prog 28 unitElem;rw[z1]at o2;refine⟨V,hV,?_,zV,gV,?_,?_⟩;{exact aj ((ay.alloc ao _).alloc (by rw[z1];omega) _) bV};{refine⟨.map [],0,?_,ae,dD.nil,rfl⟩;rw[hV];exact(o1.alloc _).alloc _};{refine⟨.map [],0,?_,ae,dD.nil,rfl⟩;rw[hV];exact o2.alloc _}
def WC{w:World}{SB NB HB UB:List Nat}(h:Hid (PS w0 w b bs bn D SB NB HB UB)){id:Int}{VL:LI}(hV:Hid (AB w0 w (.S pv nv cv) VL))(qY:Hid (P.length<=1048576))(la:Hid (∀nd'∈D.ns,bQ nd'.path≠bQ P))(hl:Hid (D.ns.length<1048576))(hj:Hid (j<=D.ns.length)):Cp 281 #[.agg #[.U id,.string (aN P),.bool F,.S pv nv cv],.pointer (some ⟨b,0,none⟩)] w fun r w'=>∃gN hN uN,sP w0 w b bs bn {D with ns:=ij j (lZ P VL (if F then id else 0)) D.ns} SB (ij j gN NB) (ij j hN HB) (ij j uN UB) rB r w':=by
 obtain⟨X,Y,hX,hY,bY,zX,zY,BX,RY⟩:=uF w #[.U id,.string (aN P),.bool F,.S pv nv cv] 231;have Xi:=@run_makeMap prog;have RYH:=af RY;have QC:=h.be.size;clear RY;go_enter func281,ntmps281;cases F;{
 obtain⟨V,eV,bV,zV,gV,s1,s2⟩:=Ns zY (.S pv nv cv) (.U 0) (.I 0) (.U 0) (.U 0);have HV:=af (ah bV (ah zV (ah gV (ah s1 s2))));have BXH:=af BX;clear bV zV gV s1 s2 BX;go_wp2_with fail;rw[<-hX,<-hY,<-eV];clear hX hY eV Xi;refine dT 8 bg (fun W eW=>?_);obtain⟨bV,zV,gV,s1,s2⟩:=aa HV;have bVW:=mi eW;have L6:Bw Y W:=aj bV bVW;have bW:Bw w W:=aj bY L6;have PW:=af (h.below bW);have c1:=aq ((L6.block w.heap.size ae).trans BXH) 1;obtain⟨-,-,-,-,-,k5,-⟩:=PW.fh;have cL:=as1 (P:=P) (by have:=aa qY;omega);have gW:=(bVW.block (w.heap.size+1+1+2) ae).trans gV;have PNW:PN w0 W (w.heap.size+1+1+2) (w.heap.size+1+1) (w.heap.size+1+1+1) (lZ P VL 0):=⟨⟨ae,ae,ae⟩,⟨_,gW,hV.fr (aK bW) ai⟩,s1.kept (bVW.block _ ae),s2.kept (bVW.block _ ae)⟩;obtain⟨M,n,o,hn,m,hz⟩:=PW.lr;have o':=fq o;rw[hz]at o';obtain⟨U,dI,ho,sU⟩:=o'.update me underlying112 (by have:=aa hl;unfold maxLen;omega) cL (lp (w.heap.size+1+1+1+1));have O2:=One.YA PW.be sU PW.lo.2.2 (ownsMap_at o');have hgN:w.heap.size+1+1+2∉NB:=fun e=>by obtain⟨i,hi⟩:=gv.1 e;obtain⟨nd',br⟩:=h.bl5 hi;obtain⟨g',hh',uu',a1,a2,a3,Ln⟩:=h.nat br;rw[hi]at a1;cases a1;obtain⟨V',bL,-⟩:=Ln.blk;have:=aL bL;omega
 have hold:∀z∈bs::bn::(HB++UB),z<w.heap.size:=fun z hz=>by
  have nb:∀i nd',D.ns[i]?=some nd'->∃hh uu,HB[i]?=some hh/\UB[i]?=some uu/\hh<w.heap.size/\uu<w.heap.size:=fun i nd' br=>by obtain⟨g',hh',uu',a1,a2,a3,Ln⟩:=h.nat br;obtain⟨es,c,m3⟩:=Ln.UD.at;obtain⟨es',c',m4⟩:=Ln.Vc.at;exact⟨_,_,a2,a3,aL m3,aL m4⟩
  simp only[jA,gR]at hz;rcases hz with rfl|rfl|hz|hz;{obtain⟨M,n,o,-⟩:=h.rZ;exact o.lt};{obtain⟨M,n,o,-⟩:=h.lr;exact o.lt};{obtain⟨i,hi⟩:=gv.1 hz;obtain⟨hh,uu,a1,a2,a3,a4⟩:=nb i _ (aO (by rw[<-h.hlen];exact(aT.1 hi).1));rw[hi]at a1;cases a1;exact a3};{obtain⟨i,hi⟩:=gv.1 hz;obtain⟨hh,uu,a1,a2,a3,a4⟩:=nb i _ (aO (by rw[<-h.tR];exact(aT.1 hi).1));rw[hi]at a2;cases a2;exact a4}
 have PU:=af (PW.bB2 (j:=j) hj PNW hgN (fun z hz=>by have:=hold z hz;omega) ae la O2 hl (fun M' o1=>by obtain⟨U',BK,Uy,-⟩:=o1.update me underlying112 (by have:=aa hl;unfold maxLen;omega) cL (lp (w.heap.size+1+1+1+1));rw[dI]at BK;cases BK;exact Uy))
 have FY:=(Fr.below (T:=T3) L6).trans O2.fr;have RU:=RYH.fr FY;obtain⟨r0,r1,r2,r3,r4,r5,r6,r7,rf⟩:=RU.cells;have FU':=af ((Fr.below (T:=T3) bY).trans FY);have RU':=af RU;clear eW bV zV gV s1 s2 bVW L6 gW PNW o o' m hz ho sU O2 hgN hold FY RU HV;simp only[yj,rJ,yt,tf]
 repeat still_step
 refine wpStill_nil ?_;go_wp2;exact xW RU' bg rfl rfl ⟨_,_,_,PS.rep PU RU' ae _ _ _ _ _ _ _ _,FU'.low ((de _ _ _ _ _ _ _ _).mono ae),rfl⟩};{
 obtain⟨V,eV,bV,zV,gV,s1,s2⟩:=Ns zY (.S pv nv cv) (.U id) (.I 0) (.U 0) (.U 0);have HV:=af (ah bV (ah zV (ah gV (ah s1 s2))));have BXH:=af BX;clear bV zV gV s1 s2 BX;go_wp2_with fail;rw[<-hX,<-hY,<-eV];clear hX hY eV Xi;refine dT 8 bg (fun W eW=>?_);obtain⟨bV,zV,gV,s1,s2⟩:=aa HV;have bVW:=mi eW;have L6:Bw Y W:=aj bV bVW;have bW:Bw w W:=aj bY L6;have PW:=af (h.below bW);have c1:=aq ((L6.block w.heap.size ae).trans BXH) 1;obtain⟨-,-,-,-,-,k5,-⟩:=PW.fh;have cL:=as1 (P:=P) (by have:=aa qY;omega);have gW:=(bVW.block (w.heap.size+1+1+2) ae).trans gV;have PNW:PN w0 W (w.heap.size+1+1+2) (w.heap.size+1+1) (w.heap.size+1+1+1) (lZ P VL id):=⟨⟨ae,ae,ae⟩,⟨_,gW,hV.fr (aK bW) ai⟩,s1.kept (bVW.block _ ae),s2.kept (bVW.block _ ae)⟩;obtain⟨M,n,o,hn,m,hz⟩:=PW.lr;have o':=fq o;rw[hz]at o';obtain⟨U,dI,ho,sU⟩:=o'.update me underlying112 (by have:=aa hl;unfold maxLen;omega) cL (lp (w.heap.size+1+1+1+1));have O2:=One.YA PW.be sU PW.lo.2.2 (ownsMap_at o');have hgN:w.heap.size+1+1+2∉NB:=fun e=>by obtain⟨i,hi⟩:=gv.1 e;obtain⟨nd',br⟩:=h.bl5 hi;obtain⟨g',hh',uu',a1,a2,a3,Ln⟩:=h.nat br;rw[hi]at a1;cases a1;obtain⟨V',bL,-⟩:=Ln.blk;have:=aL bL;omega
 have hold:∀z∈bs::bn::(HB++UB),z<w.heap.size:=fun z hz=>by
  have nb:∀i nd',D.ns[i]?=some nd'->∃hh uu,HB[i]?=some hh/\UB[i]?=some uu/\hh<w.heap.size/\uu<w.heap.size:=fun i nd' br=>by obtain⟨g',hh',uu',a1,a2,a3,Ln⟩:=h.nat br;obtain⟨es,c,m3⟩:=Ln.UD.at;obtain⟨es',c',m4⟩:=Ln.Vc.at;exact⟨_,_,a2,a3,aL m3,aL m4⟩
  simp only[jA,gR]at hz;rcases hz with rfl|rfl|hz|hz;{obtain⟨M,n,o,-⟩:=h.rZ;exact o.lt};{obtain⟨M,n,o,-⟩:=h.lr;exact o.lt};{obtain⟨i,hi⟩:=gv.1 hz;obtain⟨hh,uu,a1,a2,a3,a4⟩:=nb i _ (aO (by rw[<-h.hlen];exact(aT.1 hi).1));rw[hi]at a1;cases a1;exact a3};{obtain⟨i,hi⟩:=gv.1 hz;obtain⟨hh,uu,a1,a2,a3,a4⟩:=nb i _ (aO (by rw[<-h.tR];exact(aT.1 hi).1));rw[hi]at a2;cases a2;exact a4}
 have PU:=af (PW.bB2 (j:=j) hj PNW hgN (fun z hz=>by have:=hold z hz;omega) ae la O2 hl (fun M' o1=>by obtain⟨U',BK,Uy,-⟩:=o1.update me underlying112 (by have:=aa hl;unfold maxLen;omega) cL (lp (w.heap.size+1+1+1+1));rw[dI]at BK;cases BK;exact Uy))
 have FY:=(Fr.below (T:=T3) L6).trans O2.fr;have RU:=RYH.fr FY;obtain⟨r0,r1,r2,r3,r4,r5,r6,r7,rf⟩:=RU.cells;have FU':=af ((Fr.below (T:=T3) bY).trans FY);have RU':=af RU;clear eW bV zV gV s1 s2 bVW L6 gW PNW o o' m hz ho sU O2 hgN hold FY RU HV;simp only[yj,rJ,yt,tf]
 repeat still_step
 refine wpStill_nil ?_;go_wp2;exact xW RU' bg rfl rfl ⟨_,_,_,PS.rep PU RU' ae _ _ _ _ _ _ _ _,FU'.low ((de _ _ _ _ _ _ _ _).mono ae),rfl⟩}
theorem aa6(h:l.length=1):l.headD 0=s↔l.contains s=true:=by
 match l,h with
 |[y],_=>
  simp;exact⟨fun e=>e.symm,fun e=>e.symm⟩
def ao2(h:nd.mode=1->nd.holders.length=1):Yc nd s=if nd.mode=1/\nd.holders.headD 0≠s then 9 else 0:=by
 unfold Yc;by_cases hm:nd.mode=1;{have:=aa6 (h hm) (s:=s);by_cases hc:nd.holders.contains s=true;{rw[bH (by rw[hc];simp),bH (fun e=>e.2 (this.2 hc))]};{rw[bN ⟨hm,by simpa using hc⟩,bN ⟨hm,fun e=>hc (this.1 e)⟩]}};{rw[bH (fun e=>hm e.1),bH (fun e=>hm e.1)]}
def Zn{F:Int}(hk:D.ns[k]?=some nd)(h:mO D nd s F≠0):rK D k s F=(D,zl (mO D nd s F)):=by
 unfold mO at h⊢;simp only[rK,hk];generalize nd.holders.contains s=B at h⊢;cases B;{by_cases h2:F=2;{by_cases h3:nd.mode=1;{simp[h2,h3]};{simp[h2,h3]at h}};{by_cases h3:nd.mode=0;{by_cases h4:4611686018427387904<=D.g;{simp[h2,h3,h4]};{simp[h2,h3,h4]at h}};{simp[h2,h3]}}};{simp}
def Ji(hk:D.ns[k]?=some nd)(h:mO D nd s 2=0):rK D k s 2=({D with ns:=D.ns.set k {nd with mode:=2,holders:=vR nd.holders s}},rB):=by
 unfold mO at h;simp only[rK,hk];generalize nd.holders.contains s=B at h⊢;cases B;{by_cases h3:nd.mode=1;{simp[h3]at h};{simp[h3]}};{simp at h}
def Jj(hk:D.ns[k]?=some nd)(hh:nd.mode=0->nd.holders=[])(h:mO D nd s 1=0):rK D k s 1=({D with g:=D.g+1,ns:=D.ns.set k {nd with mode:=1,holders:=vR nd.holders s,aJ:=D.e,gen:=D.g+1}},{rB with e:=D.e,g:=D.g+1})/\D.g<4611686018427387904:=by
 unfold mO at h;simp only[rK,hk];generalize nd.holders.contains s=B at h⊢;cases B;{by_cases h3:nd.mode=0;{by_cases h4:4611686018427387904<=D.g;{simp[h3,h4]at h};{refine⟨?_,ae⟩;rw[hh h3];simp[h3,h4,vR]}};{simp[h3]at h}};{simp at h}
def SI{S F:Int}(h:LJ D P≠0):lT D P V S F=(D,zl (LJ D P)):=by
 unfold LJ at h⊢;unfold lT;by_cases h1:(ia D.ns P).isSome=true;{simp[h1]};{by_cases h2:dQ D.ns (dY P)=false;{simp[h1,h2]};{by_cases h3:200<=D.ns.length;{simp[h1,h2,h3]};{simp[h1,h2,h3]at h}}}
def Ck{S F:Int}(h:LJ D P=0):lT D P V S F=({D with ns:=mg (lZ P V (if F=1 then S else 0)) D.ns},rB)/\ia D.ns P=none/\D.ns.length<200:=by
 unfold LJ at h;unfold lT;by_cases h1:(ia D.ns P).isSome=true;{simp[h1]at h};{by_cases h2:dQ D.ns (dY P)=false;{simp[h1,h2]at h};{by_cases h3:200<=D.ns.length;{simp[h1,h2,h3]at h};{exact⟨by simp[h1,h2,h3],by simpa using h1,ae⟩}}}
def Yz(h:x9 D≠0):og D=(D,zl (x9 D)):=by
 unfold x9 at h⊢;unfold og;by_cases h1:50<=D.ss.length;{simp[h1]};{by_cases h2:4611686018427387904<=D.x;{simp[h1,h2]};{simp[h1,h2]at h}}
def IS(h:x9 D=0):og D=({D with x:=D.x+1,ss:=D.ss++[(D.x+1,D.t+10,[])]},{rB with i:=D.x+1,n:=D.t+10})/\D.ss.length<50/\D.x<4611686018427387904:=by
 unfold x9 at h;unfold og;by_cases h1:50<=D.ss.length;{simp[h1]at h};{by_cases h2:4611686018427387904<=D.x;{simp[h1,h2]at h};{exact⟨by simp[h1,h2],ae,ae⟩}}
def ndK(K:Int):Bool:=(K==5||(K==6||(K==7||(K==8||(K==9||(K==11||K==13))))))
def TM(h1:1<=k)(h2:k<=13){w:World}:Cp 195 #[.I (k:Int)] w fun r w'=>r=.returned (.bool (ndK k))/\w'=w:=by
 have h:k=1\/k=2\/k=3\/k=4\/k=5\/k=6\/k=7\/k=8\/k=9\/k=10\/k=11\/k=12\/k=13:=ae;clear h1 h2;rcases h with rfl|rfl|rfl|rfl|rfl|rfl|rfl|rfl|rfl|rfl|rfl|rfl|rfl
 all_goals
  go_enter func195,ntmps195;go_wp2;go_ret;exact⟨rfl,rfl⟩
def sQ(D:SD)(K:Int)(P:LI):Int:=if rD K P=true then 0 else if vp P=false then 4 else if ndK K=true/\(ia D.ns P).isNone=true then 5 else 0
theorem Pz{w:World}{SB NB HB UB:List Nat}(h:Hid (PS w0 w b bs bn D SB NB HB UB))(xC:Hid (∀nd∈D.ns,aM nd.path))(h1:1<=k)(h2:k<=13){S F E G:Int}(eP:Hid (P.length=np))(hP:Hid (Rd w (.S pp np cp) P))(hB:Hid (aM P))(hp:np<=1048576)(iD:np<=cp)(js:Hid (cp<=maxLen))(hm:Hid (∃m,w.cell? ⟨1,0,none⟩=some (.I m)))(eC:Hid (sQ D k P=C)):Cp 175 #[.pointer (some ⟨b,0,none⟩),GF k S (.S pp np cp) F (.S pq nv cv) E G] w fun r w'=>r=.returned (Gd C)/\Bw w w':=by
 obtain⟨X,hX,bX,zX,CX,-⟩:=aC w #[.I (k:Int),.U S,.S pp np cp,.I F,.S pq nv cv,.U E,.U G] 56;have hcv:=fun(ob:Obj)=>dK eP (hP.below ((cW w.heap.size w).alloc ao ob));have ky:((aN P).toList==(aN [47]).toList)=decide (P=[47]):=qx (aa hB) (by intro y hy;simp at hy;omega);rw[show(aN [47]).toList=[47]from fE [47]]at ky;have e:=aa eC;unfold sQ rD at e;obtain⟨st,est⟩:=cK (aN P);rw[aa est]at ky;simp only[aa est]at hcv;by_cases Fx:(k:Int)=13/\P=[47];{
 have e13:((k:Int)==13)=true:=by simp[Fx.1]
 have hr:(st.toList==[47])=true:=by rw[ky];simp[Fx.2]
 have e':C=0:=by rw[<-e];simp[Fx.1,Fx.2]
 subst e';clear e Fx ky;go_enter func175,ntmps175;go_wp2;go_ret;exact⟨rfl,ay.alloc ao _⟩};{
 have e1:(if vp P=false then 4 else if ndK k=true/\(ia D.ns P).isNone=true then 5 else 0)=C:=by
  rw[<-e];have:(decide ((k:Int)=13)&&decide (P=[47]))=false:=by simpa using Fx
  rw[this];simp
 have E1:=af e1;have ce3:∃t,Hid (((k:Int)==13)=t/\(t=true->(st.toList==[47])=false)):=⟨_,af ⟨rfl,fun ht=>by rw[ky];simp at ht;simpa using fun hP=>Fx ⟨ae,hP⟩⟩⟩
 obtain⟨t,ht⟩:=ce3;obtain⟨B,eB⟩:=cK (vp P);clear e e1 Fx ky;go_enter func175,ntmps175;have STEP:True:=jW;cases t
 all_goals
  obtain⟨e13,cR⟩:=aa ht
  try have do0:=cR rfl
  clear cR;go_wp2_with fail;rw[<-hX];refine(Rt eP (hP.below bX) hB hp iD js (hm.imp fun m hm=>ag hm bX) eB).mono ?_;rintro r w2⟨rfl,aF⟩;have CW2:=CX.dM (w':=w2) (aF.block _ ae);have B2:=af (aj bX aF);have e:=aa E1;rw[aa eB]at e;clear aF hcv e13;cases B;{
 have e':C=4:=by rw[<-e];rfl
 subst e';clear e;go_wp2;go_ret;exact⟨rfl,B2⟩};{
 have e2:(if ndK k=true/\(ia D.ns P).isNone=true then 5 else 0)=C:=by simpa using e
 have E2:=af e2;clear e e2;go_wp2_with fail;refine jN bg (fun W eW=>?_);have bW:Bw w W:=by rw[eW];exact B2.drew
 have PW:=af (h.below bW);obtain⟨-,-,-,-,-,k5,-⟩:=PW.fh;have CW:=CW2.dM (w':=W) (by rw[eW];rfl);have c0:=CW.1 0 _ rfl;have c2:=CW.1 2 _ rfl;have hcv:=dK eP (hP.below bW);rw[aa est]at hcv;clear eW CW CW2;cases hF:ia D.ns P with
 |none=>
  have dI:=PW.YM hF (aa hB) (aa xC) (by rw[aa eP];omega);rw[aa est]at dI;have e:=aa E2;rw[hF]at e;clear hF
  repeat still_step
  refine wpStill_nil ?_;go_wp2_with fail;refine(TM h1 h2).mono ?_;rintro r w5⟨rfl,rfl⟩;obtain⟨T,eT⟩:=aI (ndK k);rw[eT]at e⊢;clear eT;cases T;{
 have e':C=0:=by rw[<-e];simp
 subst e';clear e;go_wp2;go_ret;exact⟨rfl,bW⟩};{
 have e':C=5:=by rw[<-e];simp
 subst e';clear e;go_wp2;go_ret;exact⟨rfl,bW⟩}
 |some nd=>
  obtain⟨rfl,i,hi⟩:=uW hF;obtain⟨g1,h1',u1,q1,-,-,hN⟩:=PW.nat hi;have dI:=PW.aR6 hi q1 (by rw[aa eP];omega);rw[aa est]at dI;have e:=aa E2;rw[hF]at e;have e':C=0:=by rw[<-e];simp
  subst e';clear hF hi q1 hN e
  repeat still_step
  refine wpStill_nil ?_;go_wp2_with fail;refine(TM h1 h2).mono ?_;rintro r w5⟨rfl,rfl⟩;obtain⟨T,eT⟩:=aI (ndK k);rw[eT];clear eT;cases T;{go_wp2;go_ret;exact⟨rfl,bW⟩};{go_wp2;go_ret;exact⟨rfl,bW⟩}}}
theorem PS.okS{w0 w:World}{SB NB HB UB:List Nat}(h:PS w0 w b bs bn D SB NB HB UB){S:Int}(hr:0<=S/\S<18446744073709551616):∃v,(Instr.lookup 111 (.map (some bs)) (.U S) true).run prog w=.ok (.tuple #[.pointer v,.bool (decide (0<=vU D.ss S))]) w:=by
 obtain⟨M,n,o,-,m,-⟩:=h.rZ;obtain⟨v,ps,hrn,hv⟩:=o.look_ok iI underlying111 (Mu (w:=w)) (zd:=.nil) (zp:=[]) rfl (key:=.U S) (keyOf_int_mk underlying28 (nT hr));by_cases hs:vU D.ss S<0;{
 have hh:Maps.has M (.U S)=false:=by
  rw[EG];intro e;obtain⟨p,hp,e2⟩:=(m.hs _).1 e;obtain⟨i,s,y,hx,hy,rfl⟩:=gF hp;simp only[Lit.int.injEq,Rl]at e2;unfold vU at hs;cases hf:D.ss.findIdx? (fun s=>s.1==S)with
  |some k=>rw[hf]at hs;simp at hs;omega
  |none=>
   have:=T9.1 hf s (aS hx);simp[e2]at this
 rw[Maps.atKey_of_not_has hh]at hv;obtain rfl:=ud hv;refine⟨none,?_⟩;rw[hrn,hh,show decide (0<=vU D.ss S)=false by simp;omega]};{
 obtain⟨k,s,e1,hk⟩:=ao7 hs;obtain⟨g,hg,-⟩:=h.sat hk;have es:s.1=S:=by
  unfold vU at e1;cases hf:D.ss.findIdx? (fun s=>s.1==S)with
  |none=>rw[hf]at e1;simp at e1
  |some k'=>
   rw[hf]at e1;simp at e1;obtain⟨h1,h2,-⟩:=Bu.1 hf;have ek:k'=k:=ae;subst ek;have:D.ss[k']=s:=by rw[aO h1]at hk;simpa using hk
   rw[<-this];simpa using h2
 subst es;have hp:(Lit.U s.1,g)∈List.zipWith (fun(s:aR)g=>(Lit.U s.1,g)) D.ss SB:=aS (i:=k) (by rw[jT,hk,hg]);rw[m.at' _ hp]at hv;obtain rfl:=jO hv;refine⟨some ⟨g,0,none⟩,?_⟩;rw[hrn,(m.hs _).2 ⟨_,hp,rfl⟩,show decide (0<=vU D.ss s.1)=true by simp;omega]}
def xm(D:SD)(se pa B:Bool)(K S:Int)(P:LI):Int:=if B=false then 2 else if se=true/\vU D.ss S<0 then 3 else if pa=true then sQ D K P else 0
def ag1{w:World}{SB NB HB UB:List Nat}(h:Hid (PS w0 w b bs bn D SB NB HB UB))(xC:Hid (∀nd∈D.ns,aM nd.path))(h1:1<=k)(h2:k<=13){S F E G:Int}(hS:0<=S/\S<18446744073709551616)(eP:Hid (P.length=np))(hP:Hid (Rd w (.S pp np cp) P))(hB:Hid (aM P))(hp:np<=1048576)(iD:np<=cp)(js:Hid (cp<=maxLen))(hm:Hid (∃m,w.cell? ⟨1,0,none⟩=some (.I m))){se pa:Bool}{lo hi vs:Int}{sq jo:Bool}(hT:Hid (vM w 0 (k*7) se pa lo hi vs sq jo))(eB:Hid (fmF se pa lo hi vs sq S F np nv E G=B))(eC:Hid (xm D se pa B k S P=C)):Cp 153 #[.pointer (some ⟨b,0,none⟩),GF k S (.S pp np cp) F (.S pq nv cv) E G] w fun r w'=>r=.returned (Gd C)/\Bw w w':=by
 obtain⟨X,hX,bX,zX,CX,-⟩:=aC w #[.I (k:Int),.U S,.S pp np cp,.I F,.S pq nv cv,.U E,.U G] 56;have e:=aa eC;unfold xm at e;have i3:(k:Int)<14:=ae;have i4:k<14:=ae;have i5:=dw 0 k;go_enter func153,ntmps153;go_wp2_with fail;rw[<-hX];refine(nS h1 h2 (hT.below bX) eB).mono ?_;rintro r w2⟨rfl,aF⟩;have CW2:=CX.dM (w':=w2) (aF.block _ ae);have B2:=af (aj bX aF);clear aF hX CX;cases B;{
 have e':C=2:=by rw[<-e];rfl
 subst e';clear e;go_wp2;go_ret;exact⟨rfl,B2⟩};{
 have e2:(if se=true/\vU D.ss S<0 then 3 else if pa=true then sQ D k P else 0)=C:=by simpa using e
 have E2:=af e2;clear e e2;go_wp2_with fail;refine jN bg (fun W eW=>?_);have bW:Bw w W:=by rw[eW];exact B2.drew
 have PW:=af (h.below bW);obtain⟨-,-,-,-,k4,-,-⟩:=PW.fh;have CW:=CW2.dM (w':=W) (by rw[eW];rfl);have c0:=CW.1 0 _ rfl;have c1:=CW.1 1 _ rfl;have c2:=CW.1 2 _ rfl;have c3:=CW.1 3 _ rfl;have c4:=CW.1 4 _ rfl;have c5:=CW.1 5 _ rfl;have c6:=CW.1 6 _ rfl;obtain⟨t0,t1,-⟩:=hT.below bW;obtain⟨v,dI⟩:=PW.okS (S:=S) hS;obtain⟨T,eT⟩:∃T,Hid (decide (0<=vU D.ss S)=T):=⟨_,af rfl⟩;rw[aa eT]at dI;have e:=aa E2;have bx9:(vU D.ss S<0)↔T=false:=by rw[<-aa eT];simp
 simp only[bx9]at e;clear eW CW CW2 bx9
 repeat still_step
 refine wpStill_nil ?_;clear dI k4;by_cases hx:se=true/\T=false;{
 obtain⟨rfl,rfl⟩:=hx;have e':C=3:=by rw[<-e];simp
 subst e';clear e;go_wp2;go_ret;exact⟨rfl,bW⟩};{
 have e3:(if pa=true then sQ D k P else 0)=C:=by rw[bH hx]at e;exact e
 have E3:=af e3;clear e e3;have VR:(se=false/\T=false)\/(se=false/\T=true)\/(se=true/\T=true):=by cases se<;>cases T<;>simp at hx⊢
 clear hx;rcases VR with⟨rfl,rfl⟩|⟨rfl,rfl⟩|⟨rfl,rfl⟩
 all_goals
  cases pa;{
 have e':C=0:=by have:=aa E3;rw[<-this];rfl
 subst e';go_wp2;go_ret;exact⟨rfl,bW⟩};{
 have e3:sQ D k P=C:=by have:=aa E3;rw[bN rfl]at this;exact this
 have E4:=af e3;clear e3;go_wp2_with fail;refine(Pz PW xC h1 h2 eP (af (hP.below bW)) hB hp iD js (af (hm.imp fun m hm=>ag hm bW)) E4).mono ?_;rintro r w9⟨rfl,vI⟩;have B9:=af (aj bW vI);clear vI;go_wp2;go_ret;exact⟨rfl,B9⟩}}}
def bj4(k:Nat)(S:Int)(st:ByteArray)(F:Int)(V:Value)(E G:Int):Value:=match k with
 |1=>.iface 225 (.agg #[])
 |2=>.iface 228 (.agg #[.int .u64 S])
 |3=>.iface 229 (.agg #[.int .u64 S])
 |4=>.iface 231 (.agg #[.int .u64 S,.string st,.bool (F==1),V])
 |5=>.iface 233 (.agg #[.int .u64 S,.string st])
 |6=>.iface 235 (.agg #[.string st])
 |7=>.iface 237 (.agg #[.int .u64 S,.string st,V])
 |8=>.iface 239 (.agg #[.int .u64 S,.string st,.int .i64 F])
 |9=>.iface 240 (.agg #[.int .u64 S,.string st])
 |10=>.iface 242 (.agg #[.int .u64 S,.string st,.int .u64 E,.int .u64 G])
 |11=>.iface 244 (.agg #[.int .u64 S,.string st])
 |12=>.iface 245 (.agg #[.int .u64 S])
 |_=>.iface 246 (.agg #[.string st])
def M6(h1:1<=k)(h2:k<=13){S F E G:Int}(eP:Hid (P.length=np)){w:World}(hP:Hid (Rd w (.S pp np cp) P)):Cp 154 #[GF k S (.S pp np cp) F (.S pq nv cv) E G] w fun r w'=>r=.returned (bj4 k S (aN P) F (.S pq nv cv) E G)/\Bw w w':=by
 have hcv:=fun(o1 o2:Obj)=>dK (aa eP) (hP.below (((cW w.heap.size w).alloc ao o1).alloc ai o2));have cg6:=fun(o1:Obj)=>dK eP (hP.below ((cW w.heap.size w).alloc ao o1));obtain⟨st,est⟩:=aI (aN P);simp only[est]at hcv cg6⊢;clear est;have h:k=1\/k=2\/k=3\/k=4\/k=5\/k=6\/k=7\/k=8\/k=9\/k=10\/k=11\/k=12\/k=13:=ae;clear h1 h2;rcases h with rfl|rfl|rfl|rfl|rfl|rfl|rfl|rfl|rfl|rfl|rfl|rfl|rfl
 all_goals
  go_enter func154,ntmps154;go_wp2;go_ret;exact⟨rfl,((cW w.heap.size w).alloc ao _).alloc ai _⟩
def KD.of(h:AY ss ns):KD ns:=fun i j a c ha hc e=>by
 have e2:a.path=c.path:=l8 (h.n2 a (aS ha)).1 (h.n2 c (aS hc)).1 e;rcases yA i j with hh|hh|hh;{exact absurd e2 (h.n3 i j a c ha hc hh)};{exact hh};{exact absurd e2.symm (h.n3 j i c a hc ha hh)}
def Ew(h:(List.range ns.length).all (kW e g ss ns)=true)(hi:ns[i]?=some nd):fg e g nd.mode nd.holders.length nd.aJ nd.gen=true/\iK ss nd.holders=true/\iK ss nd.watchers=true:=by
 have hl:=(aT.1 hi).1;have:=iT.1 h i (by simpa using hl);unfold kW at this;rw[gj,hi]at this;simp only[qI,fu]at this;exact⟨this.2.2.2.2.2.2,this.2.2.2.2.1,this.2.2.2.2.2.1⟩
def wV{ids:LI}(h:iK ss ids=true):∀x∈ids,∃s∈ss,s.1=x:=fun x hx=>by
 obtain⟨i,hi⟩:=gv.1 hx;have:=iT.1 h i (by simpa using(aT.1 hi).1);unfold Ht live at this;rw[gj,hi]at this;simp only[qI,fu,Ob]at this;obtain⟨s,hs,e⟩:=this.1;exact⟨s,hs,by simpa using e⟩
def sr{e g mo ep ge:Int}(h:fg e g mo nh ep ge=true)(hm:mo=1):nh=1:=by
 unfold fg at h;rw[bN hm]at h;simp at h;exact h.1
def uo{e g mo ep ge:Int}(h:fg e g mo nh ep ge=true)(hm:mo≠1):ep=0/\ge=0/\(mo=0->nh=0):=by
 unfold fg at h;rw[bH hm]at h;simp only[fu,NC]at h;refine⟨h.1,h.2.1,fun h0=>?_⟩;have:=h.2.2;rw[bN h0]at this;simpa using this
def NT.of(hF:AY ss ns)(h:(List.range ns.length).all (kW e g ss ns)=true)(hi:ns[i]?=some nd)(hw:nd.watchers=[]):NT ss nd:=by
 obtain⟨a,b,c,d,f,k,m⟩:=hF.n2 nd (aS hi);exact⟨a,b,m,by rw[hw];exact jS _,wV (Ew h hi).2.2⟩
end Go.Proofs.YtjjnidignljppaaGreatDoor
