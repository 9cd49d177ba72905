import Derived.Test.YtdloolggnjjfoaaGreatDoorK5
import Derived.Test.YtdloolggnjjfoaaGreatDoorK6
import Derived.Lib.ConvBytes
open Array renaming size->U
open Bool renaming false->dF,true->dY
open Go renaming Calls->dQ,Value->dV,World->G
open Go.Ending renaming returned->dR
open Go.Obj renaming cells->dO
open Go.Proofs.Tryz renaming prog->dG
open Go.RowKit renaming Hid->O
open Go.Value renaming I->dI,T->dK,pointer->dP,S->dS,U->dU
open Go.World renaming cell?->I
open List renaming length->J
open Option renaming none->dN,some->Y
namespace Go.Proofs.YtdloolggnjjfoaaGreatDoor
set_option maxHeartbeats 6400000
set_option linter.all false
set_option maxRecDepth 100000
open Go.ChangeShapes Go.WideShapes Go.ChangeAt Go.RowKit Go.Proofs.Tryz
variable {X w w' w1 w2 w0:G}{v0 v V u v' Pv:dV}{l0 ss s xs l ids P:LI}{N B M n j bs bn b i g sb z gb:Nat}{D:DataW Unit}{A A2:List Lf}{p:OA}{ops:iQ}{o:Oper}{a:Act}{K:Act->G->Prop}{E:Prop}{x:Operand}{nd:ar}{SB:iN}{ns:List ar}{e t iI:Int}{ks:List (List UInt8)}{row:Option Nat}{k ty:TypeId}{vs:List dV}{c:iA}{es q':List Ev}{L:List Lit}{ls cs:List (List dV)}{ev:Ev}
theorem dK8(D:Le l0 N)(u:Rd X v0 l0)(y:N<=4194304):Cp 126 #[.T (U X.heap) 1 1] (X.alloc (dO #[v0] 22)) λe w'=>∃i r,e=dR (.S i N r)/\Own (U X.heap) w' (.S i N r) l0/\Bw X w':=by
 have s:Bw X (X.alloc (dO #[v0] 22)):=aD.alloc aA _;refine(DQ (vs:=[v0]) [l0] 1 rfl (by show _=_;simp[cat]) D ⟨rfl,λj v x q m=>?_⟩ y af).h ?_;{
 match j,q,m with
 |0,q,m=>simp at q m;subst q m;exact⟨aj,u.H s⟩}
 {rintro e w'⟨i,r,rfl,o,B⟩;exact⟨i,r,rfl,Own.h o aj,ai s B⟩}
def eB9(iI D:Int)(p:OA)(c n:Nat)(Q:List Ev)(en:Le Q n)(w:G)(h:sj w (.S p n c) Q)(hn:Mg n)(hbq:O (∀e∈Q,J e.2<=1048576)):dQ dG 139 #[.agg #[.U iI,.I D,.S p n c]] w λr w'=>∃p' c' A,r=dR (.agg #[.U iI,.I D,.S p' n c'])/\sj w' (.S p' n c') Q/\qi w' (.S p' n c') Q A/\gh (U w.heap) w' A/\Bw w w':=by
 let⟨ie,UK,iD,fw,fI⟩:=kx Tryz.infoEv;have HR:=ag λ(w':G)(M:Bw w w')=>h.H M;let⟨W,hW⟩:=aG (w.alloc (dO #[.U iI,.I D,.S p n c] 97));have bW:=gF hW;have zW:U W.heap=U w.heap+1:=by rw[hW];simp
 have k0:I W (Aw w 0)=dU iI:=by rw[hW];simp
 have k1:I W (Aw w 1)=dI D:=by rw[hW];simp
 have k2:I W (Aw w 2)=dS p n c:=by rw[hW];simp
 go_in;go_wp2_with fail;let⟨W2,fE⟩:=aG (W.alloc (dO #[.U 0,.I 0,aq] 97));have Ns:=gF fE;have zW2:U W2.heap=U w.heap+2:=by rw[fE];simp;omega
 have sH:aQ W2 (U w.heap+1) [.U 0,.I 0,aq]:=by rw[fE,show U w.heap+1=U W.heap by omega];exact aQ.alloc W #[.U 0,.I 0,aq] _
 rw[<-hW,<-fE];have b2:=ai bW Ns;have HK:=du (al k0 Ns) (al k1 Ns) (al k2 Ns);have tF:=ag sH
 go_loopw[3,9](λov iv wr=>∃(k:Nat)(Ls:List (List Lf)),k<=n/\iv=.I k/\O (OwnT CJ 119 2 (U W2.heap) wr ov (Q.take k) Ls)/\Bw W2 wr) (λ_ iv _=>n-(intOf iv).toNat)
 exact⟨0,[],cO _,rfl,OwnT.nil _ _ _ _ _,aR _ _⟩;{
 obtain⟨k,Ls,hk,rfl,ho,az⟩:=hrel;have BB:=ai b2 az;by_cases aH:k<n;{
 have cL:=bM k n;have bR:k<J Q:=ae en▸aH;let⟨⟨K,P⟩,hy⟩:=nR bR;obtain⟨b,o,rfl,YI,u,Qw,Cl,ui⟩:∃b o,p=(Ad b o)/\I wr (Ad b (o+k*2))=dI K/\∃u,I wr (Ad b (o+k*2+1))=Y u/\Rd wr u P/\tG u:=by let⟨p',c',ev,hd⟩:=ae HR _ BB;obtain⟨rfl,-,-⟩:=jJ ev;obtain h0|⟨b,o,h1,h2⟩:=hd;{rw[h0]at bR;simp at bR};{exact⟨b,o,h1,h2 k _ hy⟩}
 obtain⟨pp,pc,m,rfl,em⟩:=Cl.dy;have hm:m<=1048576:=ae em▸ae hbq _ (bu hy);have Sk:=ag Cl;have HY:=ag hy;go_wp2_with fail;let⟨X,hX⟩:=aG (wr.alloc (dO #[.I K,.S pp m pc] 119));have lQ:=gF hX;have e0:I X (Aw wr 0)=dI K:=by rw[hX];simp
 have e1:I X (Aw wr 1)=dS pp m pc:=by rw[hX];simp
 let⟨V,hV⟩:=aG X.drew;have zL:Bw wr V:=hV▸lQ.drew;rw[<-hX];refine fk (λw'=>I w' (Aw wr 0)=dI K/\I w' (Aw wr 1)=dS pp m pc) (by exact⟨e0,e1⟩) λhS=>?_;rw[<-hV]at hS⊢;have KV:=ag hS;have zV:U wr.heap<U V.heap:=jO V _ hS.1;have z2r:=az.size;clear hX lQ e0 e1 hV YI Qw;have OV:=ag (ho.H CJ.W zL);have HU3:=ag λb M=>(ho.lt.1 b M).2;have rV:=ag (Sk.H zL);refine iC 0 1 2 3 hS ?_;refine tn 4 hS ?_;refine ew 5 λKK hK=>?_;go_simp;have S5:=(aR (U V.heap) V).alloc aA (dO #[.S pp m pc] 22);refine bL hK (by exact⟨al KV.1 S5,al KV.2 S5⟩) λhS=>?_;refine ew 6 λKK hK=>?_;refine jg (dK8 em rV af) ?_;rintro r v1⟨B,N,rfl,o6,gr⟩;refine⟨_,rfl,?_⟩;have K6:=bG (al KV.1 gr) (al KV.2 gr);refine bL hK (by exact K6) λhS=>?_;have O6:=ag o6;have B6:=ag gr;refine tn 7 hS ?_;refine ew 8 λKK hK=>?_;go_simp;have y:=(aR (U v1.heap) v1).alloc aA (dO #[.I K,.S B m N] 119);refine hK.out _ _ (by exact⟨al K6.1 y,al K6.2 y⟩) (λhS=>?_);let⟨Z,hZ⟩:=aG (v1.alloc (dO #[.I K,.S B m N] 119));have hcZ:∀j u,[Value.I K,.S B m N][j]?=Y u->I Z (Aw v1 j)=Y u:=λj u hu=>by have:=(aQ.alloc v1 #[.I K,.S B m N] 119).1 j u (by simpa using hu);rw[hZ];exact this
 rw[<-hZ]at y hS⊢;have bVZ:Bw V Z:=ai B6 y;have OZ:=OV.H CJ.W bVZ;let⟨lb,q1,q2,q3,q4⟩:=WI (kd:=.u8) (Own.H O6 y);have elz:CJ Z (K,P) [.I K,.S B m N] lb:=⟨B,N,by rw[ae em],by rw[ae em];exact(Own.H O6 y).rd,by rw[ae em];exact⟨_,_,_,rfl,(Own.H O6 y).cap,(Own.H O6 y).GG⟩,by rw[ae em];exact q1⟩;let⟨cs,g1,g2,g3,g4,g5,g6,g7⟩:=id OZ;have Yp:=OV.lt;have hle:J (Q.take k)<=1048576:=by rw[rM];omega
 have z9:U W2.heap<=U Z.heap:=aK bVZ.size
 (try simp only[Act.put,xa,xb,xc])
 refine ew 9 λKK hK=>?_;refine Tn aS aS ie 2 underlying45 UK iD fw fI rfl bf aS g4 1 1 [.I K,.S B m N] aS rfl hcZ (λu hu=>by simp at hu;obtain rfl|rfl:=hu<;>rfl) jC af z9 ?_;intro v' w9 gx hg gP;have sn:=OwnT.snoc g1 g2 g3 g5 g6 g7 CJ.W elz rfl q2 af (λa ha=>(Yp.2 a ha).2) (λb M=>(Yp.1 b M).2) gx hg gP;rw[<-Wn (ae HY)]at sn;have ke:Bw W2 w9:=(ai (ai az zL) bVZ).grown hg z9 (λb M=>(Yp.1 b M).1);have K9:I w9 (Aw wr 0)=dI K/\I w9 (Aw wr 1)=dS pp m pc:=by
  have aN:Y (U wr.heap)≠u3.ownBlock:=λe=>by have:=ae HU3 _ e.C;omega
  exact⟨hg.cell hS.1 aN,hg.cell hS.2 aN⟩
 refine bL hK (by exact K9) λhS=>?_;refine tn 10 hS ?_;refine fy ?_;have SN:=ag sn;go_wp2;go_roundw;exact⟨k+1,_,af,by go_num,SN,ke⟩;exact cW};{
 have cL:=fq k n;obtain rfl:k=n:=af;have o2:=ae ho;rw[lY (ae en▸eG _)]at o2;let⟨Hn,A,Fy,um⟩:=o2.ev;obtain⟨pv,cv,rfl,-⟩:=id Hn;rw[ae en]at Hn Fy⊢;let⟨q0,q1,q2⟩:=ae HK;have c0:=al q0 az;have c1:=al q1 az;have sH:=tF.H af az;let⟨r0,r1,r2⟩:=aC7 sH.1;have rf:=sH.2;have aN:¬U w.heap+1=U w.heap:=af;have RD:=du Hn Fy um;have vN:=az.size;go_wp2;let⟨Hn,Fy,um⟩:=ae RD;let⟨Z,hZ⟩:=aG (((wr.setCell (Ax w 0) (.U iI)).setCell (Ax w 1) (.I D)).setCell (Ax w 2) (.S pv k cv));have hk:∀a∈A,Z.heap[a.b]?=wr.heap[a.b]?:=λa ha=>by have:=um.lo a ha;rw[hZ];rw[fT _ _ _ _ bq,fT _ _ _ _ bq,fT _ _ _ _ bq]
 have YQ:Bw w Z:=by rw[hZ];exact((BB.setCell aj _).setCell aj _).setCell aj _
 refine cg (v:=.agg #[.U iI,.I D,.S pv k cv]) (by simp[results,results139,go_sem,r0,r1,r2]) rfl ⟨pv,cv,rfl,?_⟩;rw[<-hZ];exact⟨Hn.kR Fy hk,A,qi.W Fy hk,(um.W hk).h af,YQ⟩}}
theorem aP5(h:Q.Aq B w v ss):∃p c A,v=.S p (J ss) c/\iZ w (.S p (J ss) c) ss/\Dg (.S p (J ss) c) ss A/\gh B w A:=by
 obtain⟨rfl,rfl⟩|⟨g,q,rfl,E,y,M⟩:=h;{exact⟨dN,0,[],rfl,⟨dN,0,rfl,.L rfl⟩,⟨dN,0,[],rfl,rfl,rfl,.L rfl⟩,gh.nil _ _⟩};{
 have hc:∀i,i<J ss->I w (Ad g (0+i))=dU (ss.getD i 0)/\w.frozen? (Ad g (0+i))=dF:=λi m=>by
  have:=M i (by simpa using m);simp only[List.getElem!_toArray]at this;rw[im,bD m];have e:ss[i]! = ss[i]:=by simp[m]
  first|(rw[e]at this;exact this)|simpa[m]using this
 refine⟨Y (Ad g 0),q,(List.range (J ss)).map λi=>⟨g,0+i,.u64⟩,rfl,⟨_,_,rfl,.R ⟨g,0,rfl,λi m=>(hc i m).1⟩⟩,⟨Y (Ad g 0),q,(List.range (J ss)).map λi=>[⟨g,0+i,.u64⟩],rfl,aj,?_,.R ⟨g,0,rfl,λi x V W y=>?_⟩⟩,⟨?_,λa s=>?_,λa s=>?_⟩⟩;{
 induction(List.range (J ss))with
 |nil=>rfl
 |cons i r ih=>rw[kI,kI,tW,<-ih];rfl}
 {let⟨m,e⟩:=bg.1 y;simp at e;rw[<-e,J4,mO];rfl};{rw[uB,List.Nodup,AH];exact aV6.imp (λ{i j}D=>by simpa using D)};{obtain⟨i,m,rfl⟩:=fe.1 s;exact E};{obtain⟨i,m,rfl⟩:=fe.1 s;let⟨R,N⟩:=hc i (by simpa using m);exact⟨⟨_,R⟩,N⟩}}
theorem aC5:∀{l m:LI},l.Pairwise (·<·)->m.Pairwise (·<·)->(∀x,x∈l↔x∈m)->l=m
 |[],[],_,_,_=>rfl
 |[],b::m,_,_,h=>absurd ((h b).2 aj) aj
 |a::l,[],_,_,h=>absurd ((h a).1 aj) aj
 |a::l,b::m,h1,h2,h=>by
  rw[Ie]at h1 h2;have o:a=b:=by obtain e|e:=fU.1 ((h a).1 aj);{exact e};{obtain j|j:=fU.1 ((h b).2 aj);{exact j.C};{have:=h2.1 a e;have:=h1.1 b j;omega}}
  subst o;rw[aC5 h1.2 h2.2 (λx=>?_)];constructor;{intro i;obtain e|e:=fU.1 ((h x).1 (by simp[i]));{have:=h1.1 x i;omega};{exact e}};{intro i;obtain e|e:=fU.1 ((h x).2 (by simp[i]));{have:=h2.1 x i;omega};{exact e}}
def bP2(h:jL D s)(o:s.Pairwise (·<·))(j:Q.Ly D ss):ss=s:=by
 refine aC5 j.lt o λx=>?_;rw[j.mem x,h];constructor;{rintro⟨i,q,e⟩;simp only[L6,JQ]at e;rw[e];exact q};{intro m;exact⟨x,m,rfl⟩}
structure KN(w:G)(g h u:Nat)(V:dV)(nd:ar):Prop where
 blk:w.heap[g]?=dO #[V,.U nd.D,.I nd.M,.map h,.U nd.P,.U nd.F,.map u] 186
 val:Rd w V nd.V
 AV:∃D,w.ownsMap dG 27 unitElem h (J nd.y) D/\jL D nd.y
 yE:∃D,w.ownsMap dG 27 unitElem u (J nd.X) D/\jL D nd.X
structure PB(w:G)(M N:Nat)(v:dV)(xs:LI)(A:List Lf):Prop where
 rd:Rd w v xs
 cap:tG v
 lv:xw v xs A
 ap:gh M w A
 hi:∀a∈A,a.b<N
structure PU(w:G)(M N:Nat)(v:dV)(xs:LI)(A:List Lf):Prop where
 rd:iZ w v xs
 lv:Dg v xs A
 ap:gh M w A
 hi:∀a∈A,a.b<N
def PB.H(h:PB w M N v xs A)(i:Bw w w'):PB w' M N v xs A:=
 ⟨h.rd.H i,h.cap,h.lv,h.ap.W (λa j=>i.block _ (h.ap.jY.lt j)),h.hi⟩
def PU.H(h:PU w M N v xs A)(i:Bw w w'):PU w' M N v xs A:=
 ⟨h.rd.H i,h.lv,h.ap.W (λa j=>i.block _ (h.ap.jY.lt j)),h.hi⟩
def Own.pb{c:Nat}(h:Own B w (.S p n c) l):∃A,PB w B (U w.heap) (.S p n c) l A:=by
 let⟨A,j,i,q,o⟩:=WI (kd:=.u8) h;exact⟨A,h.rd,⟨_,_,_,rfl,h.cap,h.GG⟩,j,i,λa m=>i.jY.lt m⟩
def gh.bu8(h:gh B w A)(j:gh B w A2)(s:∀a∈A,∀m∈A2,a.b≠m.b):gh B w (A++A2):=by
 refine⟨?_,λa i=>?_,ft.app.2 ⟨h.jY,j.jY⟩⟩;{rw[pK,Cd];refine⟨h.nd,j.nd,λx r y q=>?_⟩;obtain⟨a,i,rfl⟩:=fe.1 r;obtain⟨m,o,rfl⟩:=fe.1 q;intro e;simp only[jy]at e;exact s a i m o e.1};{obtain i|i:=jd.1 i;{exact h.lo a i};{exact j.lo a i}}
def cG4(q:aC l)(m:j<J l):(((aZ l).data.toList.getD j 0).toNat:Int)=l.getD j 0:=by
 have i:j<(aZ l).size:=by rw[Da];exact m
 have h:=cG5 q i;rw[<-h];have o:j<(aZ l).data.toList.length:=by rw[Ro];simpa using m
 rw[im,bD o];rfl
theorem eC4(w:G)(hB:aC l)(E:Mg (J l)):∃D N W A,(convert 9 22 (.string (aZ l))).run dG w=.ok (.S D (J l) N) W/\PB W (U w.heap) (U W.heap) (.S D (J l) N) l A/\Bw w W:=by
 have B:=Lib.run_convert_string_bytes (P:=dG) w 9 22 5 (aZ l) underlying9 underlying22 underlying5;rw[Da]at B;let⟨W,m⟩:=aG (Lib.bytesWorld w 5 (aZ l));have fQ:U W.heap=U w.heap+1:=by rw[m];exact Lib.bytesWorld_size _ _ _
 have M:∀j,j<J l->I W (Aw w (0+j))=Y (.int .u8 (l.getD j 0)):=λj y=>by rw[m,mO,Lib.bytesWorld_cell _ _ _ _ (by rw[Da];exact y),cG4 hB y]
 have Kk:∀j,j<J l->W.frozen? (Aw w (0+j))=dF:=λj y=>by
  have X:=Lib.bytesWorld_at_new w 5 (aZ l);have hs:j<(Lib.bytesCells w 5 (aZ l)).size:=by simp only[Lib.bytesCells,aT5,Array.size_map];have:(aZ l).data.size=J l:=Da (l:=l);omega
  rw[m,mO];simp only[World.frozen?,X];simp;omega
 have hb:Bw w W:=by refine⟨by rw[m];rfl,by rw[m];rfl,by rw[m];rfl,af,λk Z=>by rw[m];exact Lib.bytesWorld_at_old _ _ _ _ Z⟩
 have R:tG (.T (U w.heap) (J l) (grownCap w (J l) 0 5)):=⟨_,_,_,rfl,am2 _ _ _ _,am1 _ _ _ _ jC⟩;rw[<-m]at B;refine⟨_,_,_,(List.range (J l)).map λi=>⟨U w.heap,0+i,.u8⟩,B,⟨⟨_,_,rfl,.R ⟨U w.heap,0,rfl,M⟩⟩,R,⟨Y (Aw w 0),_,(List.range (J l)).map λi=>[⟨U w.heap,0+i,.u8⟩],rfl,aj,?_,.R ⟨U w.heap,0,rfl,λi x l' hx E=>?_⟩⟩,⟨?_,λa s=>?_,λa s=>?_⟩,λa s=>?_⟩,hb⟩;{
 induction(List.range (J l))with
 |nil=>rfl
 |cons i r ih=>rw[kI,kI,tW,<-ih];rfl}
 {let⟨q,e⟩:=bg.1 E;simp at e;rw[<-e,J4,mO];rfl};{rw[uB,List.Nodup,AH];exact aV6.imp (λ{i j}V=>by simpa using V)};{obtain⟨i,q,rfl⟩:=fe.1 s;exact eG _};{obtain⟨i,q,rfl⟩:=fe.1 s;exact⟨⟨_,M i (by simpa using q)⟩,Kk i (by simpa using q)⟩};{obtain⟨i,q,rfl⟩:=fe.1 s;simp only;omega}
def df0{Q:iE}(D:o.guard=dN)(m:o.op=Op.convert 9 22 x)(q:a.eval x=.string (aZ l))(B:aC l)(s:Mg (J l))(hK:∀i j w' A,PB w' (U w.heap) (U w'.heap) (.S i (J l) j) l A->Bw w w'->K (a.put o.dst (.S i (J l) j)) w'):if Region.wanted o (yielded ops a.tmps)then Oper.wp dG o a w K Q else E:=by
 have r:Region.wanted o (yielded ops a.tmps):=by simp[Region.wanted,D]
 rw[aM r];let⟨i,j,W,A,M,y,u⟩:=eC4 w B s;unfold Oper.wp;simp only[execOp,m,q,LU,Xi,al9,M,Result.andThen];exact hK _ _ _ _ y u
def kF.mk4{X W V R:OA}{c0 c1 c4 Z x M M1 E N N4 u N7:Nat}{l0 l1 D y:List Lf}(o:PB w x M (.S X (J nd.A) c0) nd.A l0)(s:PB w M1 E (.S W (J nd.V) c1) nd.V l1)(r:PU w N N4 (.S V (J nd.y) c4) nd.y D)(q:PU w u N7 (.S R (J nd.X) Z) nd.X y)(b0:B<=x)(b1:B<=M1)(b4:B<=N)(b7:B<=u)(d01:M<=M1\/E<=x)(d04:M<=N\/N4<=x)(d07:M<=u\/N7<=x)(d14:E<=N)(d17:E<=u)(d47:N4<=u):kF w nd [.S X (J nd.A) c0,.S W (J nd.V) c1,.U nd.D,.I nd.M,.S V (J nd.y) c4,.U nd.P,.U nd.F,.S R (J nd.X) Z] (l0++(l1++(D++y)))/\gh B w (l0++(l1++(D++y))):=by
 refine⟨⟨X,c0,W,c1,V,c4,R,Z,l0,l1,D,y,rfl,rfl,⟨o.rd,o.cap,o.lv⟩,⟨s.rd,s.lv⟩,⟨r.rd,r.lv⟩,⟨q.rd,q.lv⟩⟩,?_⟩;refine(o.ap.h b0).bu8 ((s.ap.h b1).bu8 ((r.ap.h b4).bu8 (q.ap.h b7) λa j m i e=>?_) λa j m i e=>?_) λa j m i e=>?_;{have:=r.hi a j;have:=q.ap.lo m i;omega};{obtain i|i:=jd.1 i;{have:=s.hi a j;have:=r.ap.lo m i;omega};{have:=s.hi a j;have:=q.ap.lo m i;omega}};{obtain i|i:=jd.1 i;{have:=o.hi a j;have:=o.ap.lo a j;have:=s.hi m i;have:=s.ap.lo m i;omega};{obtain i|i:=jd.1 i;{have:=o.hi a j;have:=o.ap.lo a j;have:=r.hi m i;have:=r.ap.lo m i;omega};{have:=o.hi a j;have:=o.ap.lo a j;have:=q.hi m i;have:=q.ap.lo m i;omega}}}
theorem dz9{g h u:Nat}(hk:KN w g h u V nd)(hh:nd.y.Pairwise (·<·))(hu:nd.X.Pairwise (·<·))(l1:J nd.A<=1048576)(l2:J nd.V<=1048576)(l3:J nd.y<=1048576)(l4:J nd.X<=1048576)(cQ:aC nd.A):dQ dG 141 #[Pz g,.string (aZ nd.A)] w λr w'=>∃c l,r=dR (.agg c)/\kF w' nd c.toList l/\gh (U w.heap) w' l/\Bw w w':=by
 obtain⟨W,DR,⟨D1,o1,s1⟩,⟨D2,o2,s2⟩⟩:=hk;obtain⟨pv,cv,nv,rfl,ev⟩:=DR.dy;have hA7:lp w g (.S pv nv cv) (.U nd.D) (.I nd.M) (.map h) (.U nd.P) (.U nd.F) (.map u):=⟨cK W 0,cK W 1,cK W 2,cK W 3,cK W 4,cK W 5,cK W 6⟩;let⟨W0,cI⟩:=aG (w.alloc (dO #[aq,aq,.U 0,.I 0,aq,.U 0,.U 0,aq] 141));have b0:=gF cI;have z0:U W0.heap=U w.heap+1:=by rw[cI];simp
 have r0:aQ W0 (U w.heap) [aq,aq,.U 0,.I 0,aq,.U 0,.U 0,aq]:=by rw[cI];exact aQ.alloc w #[aq,aq,.U 0,.I 0,aq,.U 0,.U 0,aq] _
 have SZ1:=ag (gv o1.size_le l3);have SZ2:=ag (gv o2.size_le l4);obtain⟨ow,mo,ep,ge,e1,e2,e3,e4⟩:∃a b c d,nd.D=a/\nd.M=b/\nd.P=c/\nd.F=d:=⟨_,_,_,_,rfl,rfl,rfl,rfl⟩
 rw[e1,e2,e3,e4]at hA7;have HE:=gI e1 e2 e3 e4;go_in;go_wp2_with fail;rw[<-cI];let⟨v,dz⟩:=aG W0.drew;have bv:Bw w v:=by rw[dz];exact b0.drew
 have zv:U w.heap<U v.heap:=by rw[dz];show U w.heap<U W0.heap;omega
 have R:O (aQ v (U w.heap) [aq,aq,.U 0,.I 0,aq,.U 0,.U 0,aq]):=by rw[dz];exact r0
 have S:=ag (hA7.H bv);refine fk (λw'=>lp w' g (.S pv nv cv) (.U ow) (.I mo) (.map h) (.U ep) (.U ge) (.map u)) (by rw[<-dz];exact ae S) λhS=>?_;rw[<-dz]at hS⊢;have BW:=ag bv;have OH:=ag (o1.kept (kU bv dN) aj);have OU:=ag (o2.kept (kU bv dN) aj);have RV:=ag (DR.H bv);have T1:=ag s1;have T2:=ag s2;have HH:=ag hh;have HU:=ag hu;have HBY:=ag cQ;clear dz cI b0 z0 r0 W DR o1 o2 hA7 s1 s2 hh hu cQ bv;refine iR 0 2 3 4 5 8 9 10 hS ?_;refine iR 11 12 13 14 15 16 17 18 hS ?_;refine iR 19 20 21 22 23 24 25 26 hS ?_;refine iC 27 29 30 31 hS ?_;refine tn 32 hS ?_
 iterate 5 (
  all_goals(first|refine vE 1 (λs hK=>?_)|refine AE 1 6 (λs hK=>?_) (λs hK=>?_)|refine vE 6 (λs hK=>?_)|refine AE 1 7 (λs hK=>?_) (λs hK=>?_)|refine vE 7 (λs hK=>?_)|refine AE 1 28 (λs hK=>?_) (λs hK=>?_)|refine vE 28 (λs hK=>?_)|refine AE 1 33 (λs hK=>?_) (λs hK=>?_)|refine vE 33 (λs hK=>?_))
  all_goals(first
   |(
    refine Tag.go 1 (df0 aS aS (l:=nd.A) aS HBY l1 ?_);intro pC cC D lC fC m;have FC:=ag fC;clear fC)
   | (
    refine Tag.go 6 ?_;go_simp;let⟨D,hv⟩:=aG (v.alloc (dO #[.S pv nv cv] 22));have m:=gF hv;have HP:O (vj D (U v.heap) [.S pv nv cv] [nd.V]):=⟨rfl,λj y x N M=>by
     match j,N,M with
     |0,N,M=>simp at N M;subst N M;exact⟨by rw[hv];simp,RV.H m⟩⟩
    rw[<-hv];let⟨GB,Zh⟩:=aG (U v.heap);rw[<-Zh]at HP⊢;clear hv Zh)
   |(
    refine Tag.go 7 (jg (DQ (g:=GB) (vs:=[.S pv nv cv]) [nd.V] (lm:=nd.V) (n:=J nd.V) 1 rfl (by show _=_;simp[cat]) cM (ae HP) af af) ?_);rintro r D⟨pJ,cJ,rfl,oJ,m⟩;refine⟨_,rfl,?_⟩;let⟨lJ,fJ⟩:=Own.pb oJ;have FJ:=ag fJ;clear fJ oJ HP)
   |(
    refine Tag.go 28 (jg (Q.aM5 h _ D1 _ OH SZ1) ?_);rintro r D⟨y,ss,rfl,yw,X,m⟩;refine⟨_,rfl,?_⟩;rw[bP2 (ae T1) (ae HH) yw]at X;obtain⟨pH,cH,lH,rfl,N,M,q3⟩:=aP5 X;have FH:O (PU D (U v.heap) (U D.heap) (.S pH (J nd.y) cH) nd.y lH):=⟨N,M,q3,λa ha=>q3.jY.lt ha⟩;clear yw X N M q3)
   |(
    refine Tag.go 33 (jg (Q.aM5 u _ D2 _ OU SZ2) ?_);rintro r D⟨y,ss,rfl,yw,X,m⟩;refine⟨_,rfl,?_⟩;rw[bP2 (ae T2) (ae HU) yw]at X;obtain⟨pU,cU,lU,rfl,N,M,q3⟩:=aP5 X;have FU:O (PU D (U v.heap) (U D.heap) (.S pU (J nd.X) cU) nd.X lU):=⟨N,M,q3,λa ha=>q3.jY.lt ha⟩;clear yw X N M q3))
  all_goals(
   have S:=ag (S.H m);have BW:=ag (ai BW m);have OH:=ag (OH.kept (kU m dN) aj);have OU:=ag (OU.kept (kU m dN) aj);have RV:=ag (RV.H m);have R:=ag (R.H af m);have z:U v.heap<=U D.heap:=m.size
   try have HP:=ag (HP.H m)
   try have FC:=ag (FC.H m)
   try have FJ:=ag (FJ.H m)
   try have FH:=ag (FH.H m)
   try have FU:=ag (FU.H m)
   refine bL hK (by exact S) λhS=>?_
   rename G=>v
   skip))
 all_goals(
  refine tn 34 hS ?_;let⟨rc0,rc1,rc2,rc3,rc4,rc5,rc6,rc7⟩:=Nx R.1;have rf:=R.2;refine ry [35] (cn (λs hK=>?_) fg);go_simp;let⟨Z,hZ⟩:=aG ((((((((v.setCell (Aw w 0) (.S pC (J nd.A) cC)).setCell (Aw w 1) (.S pJ (J nd.V) cJ)).setCell (Aw w 2) (.U ow)).setCell (Aw w 3) (.I mo)).setCell (Aw w 4) (.S pH (J nd.y) cH)).setCell (Aw w 5) (.U ep)).setCell (Aw w 6) (.U ge)).setCell (Aw w 7) (.S pU (J nd.X) cU));have Ge:∀b,b≠U w.heap->Z.heap[b]?=v.heap[b]?:=λb m=>by
   rw[hZ]
   iterate 8 rw[fT _ _ _ _ m]
  have cZ:=(aQ.db (aQ.db (aQ.db (aQ.db (aQ.db (aQ.db (aQ.db (aQ.db R 0 aj (.S pC (J nd.A) cC)) 1 aj (.S pJ (J nd.V) cJ)) 2 aj (.U ow)) 3 aj (.I mo)) 4 aj (.S pH (J nd.y) cH)) 5 aj (.U ep)) 6 aj (.U ge)) 7 aj (.S pU (J nd.X) cU));rw[<-hZ]at cZ;have YQ:Bw w Z:=by rw[hZ];exact((((((((BW.setCell aA _).setCell aA _).setCell aA _).setCell aA _).setCell aA _).setCell aA _).setCell aA _).setCell aA _)
  let⟨en,Rw⟩:=kF.mk4 (B:=U w.heap+1) FC FJ FH FU af af af af af af af af af af;have bR:∀y∈lC++(lJ++(lH++lU)),Z.heap[y.b]?=v.heap[y.b]?:=λy hy=>Ge _ (aK (Rw.lo y hy));have EN:=du (kF.W _ Z _ _ _ en bR) ((Rw.W bR).h (B':=U w.heap) af) YQ;have SZg:lp Z g (.S pv nv cv) (.U ow) (.I mo) (.map h) (.U ep) (.U ge) (.map u):=by
   have aN:g≠U w.heap:=λe=>by have h1:=R.1 0 _ rfl;have h2:=S.2.1;rw[e]at h2;have h3:=R.1 1 _ rfl;rw[h2]at h3;simp at h3
   let⟨s0,s1,s2,s3,s4,s5,s6⟩:=ae S;have hz:=gj (Ge g aN);exact⟨(hz _).Z s0,(hz _).Z s1,(hz _).Z s2,(hz _).Z s3,(hz _).Z s4,(hz _).Z s5,(hz _).Z s6⟩
  rw[<-hZ];refine bL hK (by exact SZg) λhS=>?_;let⟨zc0,zc1,zc2,zc3,zc4,zc5,zc6,zc7⟩:=Nx cZ.1;refine fy ?_;let⟨e1,e2,e3,e4⟩:=ae HE;go_wp2;refine cg (v:=.agg #[.S pC (J nd.A) cC,.S pJ (J nd.V) cJ,.U ow,.I mo,.S pH (J nd.y) cH,.U ep,.U ge,.S pU (J nd.X) cU]) (by simp[results,results141,go_sem,zc0,zc1,zc2,zc3,zc4,zc5,zc6,zc7]) rfl ⟨_,lC++(lJ++(lH++lU)),rfl,?_,EN.2.1,EN.2.2⟩;have ti:=EN.1;rw[e1,e2,e3,e4]at ti;exact ti
  skip)
open Go.Maps
structure VA(w:G)(bs:Nat)(ss:List aB)(SB:iN):Prop where
 len:J SB=J ss
 own:∃D n,w.ownsMap dG 27 iF bs n D/\n<=1048576/\pR D (List.zipWith (λ(s:aB)g=>(Lit.U s.1,g)) ss SB)
 blk:∀(i:Nat)(s:aB)(g:Nat),ss[i]?=s->SB[i]?=Y g->∃u,w.heap[g]?=dO #[.U s.1,.I s.2.1,u] 97/\sj w u s.2.2
structure VG(w:G)(bn:Nat)(ns:List ar)(NB:iN):Prop where
 len:J NB=J ns
 own:∃D n,w.ownsMap dG 9 iF bn n D/\n<=1048576/\pR D (List.zipWith (λ(nd:ar)g=>(di nd.A,g)) ns NB)
 blk:∀(i:Nat)(nd:ar)(g:Nat),ns[i]?=nd->NB[i]?=Y g->∃V h u,KN w g h u V nd
def KN.H{g h u:Nat}(k:KN w g h u V nd)(i:Bw w w'):KN w' g h u V nd:=by
 obtain⟨j,s,⟨y,r,o⟩,⟨x,q,m⟩⟩:=k;exact⟨(i.block g (gy j)).Z j,s.H i,⟨y,r.kept (kU i dN) aj,o⟩,⟨x,q.kept (kU i dN) aj,m⟩⟩
variable {ss:List aB}
def VA.H(h:VA w bs ss SB)(j:Bw w w'):VA w' bs ss SB:=by
 obtain⟨M,⟨D,n,o,y,m⟩,E⟩:=h;refine⟨M,⟨D,n,o.kept (kU j dN) aj,y,m⟩,λi s g x B=>?_⟩;let⟨u,q,r⟩:=E i s g x B;exact⟨u,(j.block g (gy q)).Z q,r.H j⟩
def VG.H{NB:iN}(h:VG w bn ns NB)(j:Bw w w'):VG w' bn ns NB:=by
 obtain⟨E,⟨D,n,o,x,m⟩,B⟩:=h;refine⟨E,⟨D,n,o.kept (kU j dN) aj,x,m⟩,λi s g r y=>?_⟩;let⟨V,h,u,q⟩:=B i s g r y;exact⟨V,h,u,q.H j⟩
structure Vz(w:G)(b bs bn:Nat)(e g x t:Int)(ss:List aB)(ns:List ar)(SB NB:iN):Prop where
 hd:w.heap[b]?=dO #[.U e,.U g,.U x,.I t,.map bs,.map bn] 181
 yL:VA w bs ss SB
 jt:VG w bn ns NB
variable {x:Int}
def Vz.H{g:Int}{SB NB:iN}(h:Vz w b bs bn e g x t ss ns SB NB)(i:Bw w w'):Vz w' b bs bn e g x t ss ns SB NB:=
 ⟨(i.block b (gy h.hd)).Z h.hd,h.yL.H i,h.jt.H i⟩
def ce6(h:VA w bs ss SB){s:aB}(j:ss[i]?=s):∃g,SB[i]?=Y g/\(Lit.U s.1,g)∈List.zipWith (λ(s:aB)g=>(Lit.U s.1,g)) ss SB:=by
 have o:=(bg.1 j).1;obtain⟨g,m⟩:∃g,SB[i]?=Y g:=⟨_,bD (h.len▸o)⟩;refine⟨g,m,bu (i:=i) ?_⟩;rw[qL,j,m]
def ce7{NB:iN}(h:VG w bn ns NB)(j:ns[i]?=nd):∃g,NB[i]?=Y g/\(di nd.A,g)∈List.zipWith (λ(nd:ar)g=>(di nd.A,g)) ns NB:=by
 have o:=(bg.1 j).1;obtain⟨g,m⟩:∃g,NB[i]?=Y g:=⟨_,bD (h.len▸o)⟩;refine⟨g,m,bu (i:=i) ?_⟩;rw[qL,j,m]
theorem bZ6{α β γ:Type}{f:α->β->γ}{l:List α}{m:List β}{z:γ}(h:z∈List.zipWith f l m):∃a∈l,∃b,z=f a b:=by
 induction l generalizing m with
 |nil=>simp at h
 | cons a l ih=>
  cases m with
  |nil=>simp at h
  |cons b m=>
   simp only[cb5,fU]at h;obtain rfl|h:=h;{exact⟨a,aj,b,rfl⟩};{let⟨q,i,j,e⟩:=ih h;exact⟨q,by simp[i],j,e⟩}
def dk8(h:VA w bs ss SB)(u:ss.Pairwise (λs q=>s.1<q.1))(m:pR D (List.zipWith (λ(s:aB)g=>(Lit.U s.1,g)) ss SB))(o:Q.Ly D ids):ids=ss.map (·.1):=by
 refine aC5 o.lt (AH.2 u) λx=>?_;rw[o.mem x,m.hs];constructor;{rintro⟨p,y,e⟩;obtain⟨s,j,g,rfl⟩:=bZ6 y;simp only[L6,JQ]at e;exact fe.2 ⟨s,j,e⟩};{intro r;obtain⟨s,j,rfl⟩:=fe.1 r;let⟨i,B,e⟩:=Mf j;let⟨g,E,hm⟩:=ce6 h (i:=i) (s:=s) (by rw[bD B,e]);exact⟨_,hm,rfl⟩}
def jA(l:LI):List UInt8:=l.map λn=>UInt8.ofNat n.toNat
theorem bU2{α:Type}[LT α](i:∀a:α,¬a<a)(q:∀a b c:α,a<b->b<c->a<c):∀{l m:List α},l.Pairwise (·<·)->m.Pairwise (·<·)->(∀x,x∈l↔x∈m)->l=m
 |[],[],_,_,_=>rfl
 |[],b::m,_,_,h=>absurd ((h b).2 aj) aj
 |a::l,[],_,_,h=>absurd ((h a).1 aj) aj
 |a::l,b::m,h1,h2,h=>by
  rw[Ie]at h1 h2;have r:a=b:=by obtain e|e:=fU.1 ((h a).1 aj);{exact e};{obtain o|o:=fU.1 ((h b).2 aj);{exact o.C};{exact absurd (q _ _ _ (h2.1 a e) (h1.1 b o)) (i _)}}
  subst r;rw[bU2 i q h1.2 h2.2 (λx=>?_)];constructor;{intro j;obtain e|e:=fU.1 ((h x).1 (by simp[j]));{subst e;exact absurd (h1.1 _ j) (i _)};{exact e}};{intro j;obtain e|e:=fU.1 ((h x).2 (by simp[j]));{subst e;exact absurd (h2.1 _ j) (i _)};{exact e}}
def aR6{NB:iN}(h:VG w bn ns NB)(r:(ns.map λnd=>jA nd.A).Pairwise (·<·))(m:pR D (List.zipWith (λ(nd:ar)g=>(di nd.A,g)) ns NB))(o:T.Ly D ks):ks=ns.map λnd=>jA nd.A:=by
 refine bU2 (λa=>List.lt_irrefl a) (λa b c=>List.lt_trans) o.lt r λx=>?_;rw[o.mem x,m.hs];constructor;{rintro⟨p,u,e⟩;obtain⟨s,j,g,rfl⟩:=bZ6 u;simp only[di,aT9]at e;exact fe.2 ⟨s,j,e⟩};{intro q;obtain⟨s,j,rfl⟩:=fe.1 q;let⟨i,y,e⟩:=Mf j;let⟨g,B,hm⟩:=ce7 h (i:=i) (nd:=s) (by rw[bD y,e]);exact⟨_,hm,rfl⟩}
def bH0:(zeroValue 182).run dG w=.ok (dP dN) w:=by kernel_rfl
def cc5{l:List (Lit×Nat)}(o:w.ownsMap dG 27 iF bs n D)(m:pR D l)(q:(Lit.U iI,g)∈l)(r:0<=iI/\iI<2^64):(Instr.lookup 178 (.map bs) (.U iI) dF).run dG w=.ok (Pz g) w:=by
 let⟨v,s,j,i⟩:=o.lookup mr underlying178 (bH0 (w:=w)) (zd:=.nil) (zp:=[]) rfl (key:=.U iI) (keyOf_int_mk underlying27 (Dx r));rw[m.at' _ q]at i;obtain rfl:=TF i;exact j
def cc6{l:List (Lit×Nat)}(o:w.ownsMap dG 9 iF bn n D)(m:pR D l)(q:(di P,g)∈l)(s:Mg (J P)):(Instr.lookup 179 (.map bn) (.string (aZ P)) dF).run dG w=.ok (Pz g) w:=by
 let⟨v,r,j,i⟩:=o.lookup ru underlying179 (SR w) (zd:=.nil) (zp:=[]) rfl (key:=.string (aZ P)) (kl:=di P) (by rw[WideMaps.keyOf_string_mk underlying9 (by rw[Da];unfold maxLen;omega),Vr])
 rw[m.at' _ q]at i;obtain rfl:=TF i;exact j
def MZ(h:w.grownBy w1 sb)(k:w1.grownBy w2 row)(hr:∀b,row=Y b->U w.heap<=b\/b=sb):w.grownBy w2 sb:=
 ⟨k.os.Z h.os,k.tape.Z h.tape,k.output.Z h.output,gv h.size k.size,λi j o=>(k.block i (ku j h.size) (λe=>by obtain m|m:=hr i e.C;{omega};{exact o (by rw[m])})).Z (h.block i j o)⟩
def iB(w:G)(a:Addr)(v:dV):w.grownBy (w.setCell a v) a.block:=
 ⟨rfl,rfl,rfl,aj,λk _ i=>fT _ _ _ _ (λe=>i (by rw[e]))⟩
def aB8(h:Bw w w1)(k:w1.grownBy w2 sb)(i:U w.heap<=sb):Bw w w2:=h.grown k h.size (λb e=>by cases e;exact i)
def bV9{R:dV->Option (DataW Unit×List MemPlace)}(h:w.ownsMap dG k R b n D)(j:w'.heap[b]?=w.heap[b]?):w'.ownsMap dG k R b n D:=by
 obtain⟨es,i,o,m⟩:=h;exact⟨es,i,j.Z o,m⟩
def aQ.grown(h:aQ w b vs)(r:b<U w.heap)(q:w.grownBy w' row)(s:Y b≠row):aQ w' b vs:=by
 have j:=q.block b r s;refine⟨λi v m=>(gj j _).Z (h.1 i v m),λo=>?_⟩;have:w'.frozen? (Ad b o)=w.frozen? (Ad b o):=AO j;rw[this];exact h.2 o
theorem eJ1(l:LI):(⟨(jA l).toArray⟩:ByteArray)=aZ l:=by
 have h:(aZ l).data=(jA l).toArray:=by rw[<-an3];simpa[jA]using Ro (l:=l)
 cases hb:aZ l with
 |mk d=>rw[hb]at h;simp only at h;rw[h]
def aP4(h:T.Aq B w v (ns.map λnd=>jA nd.A)):∃p c,v=.S p (J ns) c/\(ns=[]\/∃g,p=(Ad g 0)/\B<=g/\g<U w.heap/\∀(j:Nat)(nd:ar),ns[j]?=Y nd->I w (Ad g (0+j))=Y (.string (aZ nd.A))):=by
 obtain⟨rfl,u⟩|⟨g,i,rfl,r,q,s⟩:=h;{
 have:ns=[]:=by simpa using u
 subst this;exact⟨dN,0,rfl,.L rfl⟩};{
 refine⟨Y (Ad g 0),i,by rw[ir],.R ⟨g,rfl,r,q,λj nd o=>?_⟩⟩;have m:=(bg.1 o).1;have:=(s j (by simpa using m)).1;rw[this,<-eJ1];have e:(ns.map λnd=>jA nd.A).toArray[j]! = jA nd.A:=by have x:ns[j]=nd:=(bg.1 o).2;simp[m,x]
 rw[e]}
def kF.cells{l:List Lf}(h:kF w nd c.toList l):∃x s r q o m j i,c=#[x,s,r,q,o,m,j,i]/\∀u∈[x,s,r,q,o,m,j,i],u.oneCell':=by
 obtain⟨N,c0,M,c1,E,Z,D,X,W,V,S,R,-,B,-⟩:=h;refine⟨_,_,_,_,_,_,_,_,by rw[<-an3,B],λu y=>?_⟩;simp only[fU,Pe,Ib]at y;obtain rfl|rfl|rfl|rfl|rfl|rfl|rfl|rfl:=y<;>rfl
variable {g:Int}
def ah8{SB NB:iN}(h:Vz w b bs bn e g x t ss ns SB NB)(hs:O (ss.Pairwise (λs s'=>s.1<s'.1)))(hn:O ((ns.map λnd=>jA nd.A).Pairwise (·<·)))(ls:Mg (J ss))(ln:Mg (J ns))(UE:O (∀s∈ss,(0<=s.1/\s.1<2^64)/\J s.2.2<=1048576/\∀e∈s.2.2,J e.2<=1048576))(UF:O (∀nd∈ns,aC nd.A/\J nd.A<=1048576/\J nd.V<=1048576/\J nd.y<=1048576/\J nd.X<=1048576/\nd.y.Pairwise (·<·)/\nd.X.Pairwise (·<·))):dQ dG 70 #[Pz b] w λr w'=>∃p c q d A1 A2,r=dR (bS e g x t (.S p (J ss) c) (.S q (J ns) d))/\kV w' (.S p (J ss) c) ss/\gJ w' (.S q (J ns) d) ns/\kG w' (.S p (J ss) c) ss A1/\lK w' (.S q (J ns) d) ns A2/\gh (U w.heap) w' (A1++A2)/\Bw w w':=by
 have k0:I w (Ad b 0)=dU e:=cK h.hd 0;have k1:I w (Ad b 1)=dU g:=cK h.hd 1;have k2:I w (Ad b 2)=dU x:=cK h.hd 2;have k3:I w (Ad b 3)=dI t:=cK h.hd 3;let⟨is,Qn,Wr,Wq,Wp⟩:=kx Tryz.infoSes;let⟨io,hio,oz0,oz1,oz2⟩:=kx Tryz.infoNod;let⟨W0,cI⟩:=aG (w.alloc (dO #[.U 0,.U 0,.U 0,.I 0,aq,aq] 41));have b0:=gF cI;have z0:U W0.heap=U w.heap+1:=by rw[cI];simp
 have r0:aQ W0 (U w.heap) [.U 0,.U 0,.U 0,.I 0,aq,aq]:=by rw[cI];exact aQ.alloc w #[.U 0,.U 0,.U 0,.I 0,aq,aq] _
 go_in;go_wp2_with fail;rw[<-cI];let⟨v0,dz⟩:=aG W0.drew;have bv:Bw w v0:=dz▸b0.drew;have zv:U v0.heap=U w.heap+1:=dz▸z0;have R0:O (aQ v0 (U w.heap) [.U 0,.U 0,.U 0,.I 0,aq,aq]):=dz▸r0;have S0:=gI (al k0 bv) (al k1 bv) (al k2 bv) (al k3 bv);have H0:=ag (h.H bv);have ZV:=ag zv;refine fk (λw'=>I w' (Ad b 0)=dU e/\I w' (Ad b 1)=dU g/\I w' (Ad b 2)=dU x/\I w' (Ad b 3)=dI t) (dz▸ae S0) λhS=>?_;rw[<-dz]at hS⊢;clear dz cI b0 z0 r0 k0 k1 k2 k3 zv;refine iR 0 1 2 3 4 5 6 7 hS ?_;refine iR 8 9 10 11 12 13 14 15 hS ?_;refine tn 16 hS ?_;refine ew 17 λM hK=>?_;go_simp;let⟨v1,FK⟩:=aG (v0.alloc (dO #[.U 0,.U 0,.U 0,.I 0,aq,aq] 41));have V:=gF FK;have c1:aQ v1 (U v0.heap) [.U 0,.U 0,.U 0,.I 0,aq,aq]:=by rw[FK];exact aQ.alloc v0 #[.U 0,.U 0,.U 0,.I 0,aq,aq] _
 have z1:U v1.heap=U v0.heap+1:=by rw[FK];simp
 rw[<-FK];let⟨B,zl⟩:=aG (U v0.heap);rw[<-zl]at c1⊢;have S1:=gI (al S0.1 V) (al S0.2.1 V) (al S0.2.2.1 V) (al S0.2.2.2 V);have H1:=ag (H0.H V);have R1:=ag (R0.H (aK (ae ZV)) V);have b1:=ai bv V;have HZ:=du (ae ZV) zl z1;refine bL hK (by exact S1) λhS=>?_;let⟨rc0,rc1,rc2,rc3,rc4,rc5⟩:=yx c1.1;have rf:=c1.2;clear hK M FK V zl z1;refine ew 18 λM hK=>?_;go_simp;let⟨Z,hZ⟩:=aG ((((((v1.setCell (Ad B 0) (.U e)).setCell (Ad B 1) (.U g)).setCell (Ad B 2) (.U x)).setCell (Ad B 3) (.I t)).setCell (Ad B 4) aq).setCell (Ad B 5) aq);let⟨zz0,zz1,zz2⟩:=ae HZ;have CZ:aQ Z B [.U e,.U g,.U x,.I t,aq,aq]:=by rw[hZ];exact((((((c1.db 0 aj _).db 1 aj _).db 2 aj _).db 3 aj _).db 4 aj _).db 5 aj _)
 have hgZ:v1.grownBy Z B:=by rw[hZ];exact KF (KF (KF (KF (KF (iB _ _ _) (iB _ _ _)) (iB _ _ _)) (iB _ _ _)) (iB _ _ _)) (iB _ _ _)
 have bZ:Bw w Z:=aB8 b1 hgZ af;have RZ:=R1.grown af hgZ bq;have SZ:I Z (Ad b 0)=dU e/\I Z (Ad b 1)=dU g/\I Z (Ad b 2)=dU x/\I Z (Ad b 3)=dI t:=⟨cK (h.H bZ).hd 0,cK (h.H bZ).hd 1,cK (h.H bZ).hd 2,cK (h.H bZ).hd 3⟩;have zZ:B<U Z.heap:=aK hgZ.size;rw[<-hZ];refine bL hK (by exact SZ) λhS=>?_;clear hK M hZ hgZ SZ c1 rc0 rc1 rc2 rc3 rc4 rc5 rf S1 H1 R1 S0 H0 R0;refine fy ?_;have zh:U w.heap<B:=af;have CZ':=ag CZ;have RZ':=ag RZ;have HS:=ag λ(w':G)(hb:Bw w w')=>h.H hb;have HLW:O (∀k s N,ss[k]?=Y s->SB[k]?=Y N->b<U w.heap/\bs<U w.heap/\N<U w.heap):=λk s N W rR=>by let⟨_,_,o,_,_⟩:=h.yL.own;let⟨_,y3,_⟩:=h.yL.blk k _ N W rR;exact⟨gy h.hd,o.lt,gy y3⟩
 have HLN:O (∀k s N,ns[k]?=Y s->NB[k]?=Y N->b<U w.heap/\bn<U w.heap/\N<U w.heap):=λk s N W rR=>by let⟨_,_,o,_,_⟩:=h.jt.own;let⟨_,_,_,y3⟩:=h.jt.blk k _ N W rR;exact⟨gy h.hd,o.lt,gy y3.blk⟩
 have BZ:=ag bZ;clear hS CZ RZ h bv b1 zz0 zz1 zz2 HZ ZV;let⟨Zg,bj3,Zb⟩:=ae HS _ BZ;let⟨D,nD,oD,hnD,mD⟩:=id bj3.own;have k4:I Z (Ad b 4)=Y (.map bs):=cK Zg 4;have MD:=ag mD;have OD:=ag oD;clear Zg Zb mD;go_wp2_with fail;refine(Q.Wv bs nD D _ oD (gv oD.size_le hnD)).h ?_;rintro r w1⟨kv,ids,rfl,yw,vD,V⟩;obtain rfl:=dk8 bj3 hs MD yw;obtain⟨pk,ck,Ak,rfl,rk,lk,ak⟩:=aP5 vD;have AU:J (ss.map (·.1))=J ss:=ir _;let⟨nk,KM⟩:=aG (J (ss.map (·.1)));rw[<-KM]at rk lk⊢;have cz0:nk=J ss:=by rw[KM,AU]
 have ENK:=ag cz0;have fr0:nk<=1048576:=af;have HKV:=du rk lk ak;have b1:=ai BZ V;have z1:=V.size;have C1:=ag (CZ'.H zZ V);have R1:=ag (RZ'.H af V);clear rk lk ak vD yw V k4 bj3 oD KM cz0 AU CZ' RZ';go_wp2_with fail
 go_loopw[31](λiv wr=>∃(k:Nat)(Sv:dV)(Ls:List (List Lf)),k<=nk/\iv=.I k/\O (aQ wr B [.U e,.U g,.U x,.I t,Sv,aq]/\OwnT mg 97 3 (U w1.heap) wr Sv (ss.take k) Ls)/\O (w1.grownBy wr B)) (λiv _=>nk-(intOf iv).toNat)
 exact⟨0,_,[],cO _,rfl,⟨C1,OwnT.nil _ _ _ _ _⟩,Zn⟩;{
 obtain⟨k,Sv,Ls,hk,rfl,fL,oz⟩:=hrel;have BB:=aB8 b1 oz af;by_cases aH:k<nk;{
 have cL:=bM k nk;have bR:k<J ss:=ae ENK▸aH;let⟨⟨iI,Dl,Qu⟩,W⟩:=nR bR;obtain⟨hH,hSe,-⟩:=ae HS _ BB;let⟨N,rR,lu⟩:=ce6 hSe W;let⟨u,UR,Yf⟩:=hSe.blk k _ N W rR;dsimp only at UR Yf lu;obtain⟨pq,cq,rfl,-⟩:=id Yf;let⟨nq,CF⟩:=aY (J Qu);rw[CF]at Yf UR;have ENQ:=ag CF;let⟨hI,Im,Mt⟩:=ae UE _ (bu W);dsimp only at hI Im Mt;have hnq:nq<=1048576:=CF▸Im;have Ss:O (∀e∈Qu,J e.2<=1048576):=Mt;obtain⟨gk,ok,rfl,Ko⟩:∃gk ok,pk=(Ad gk ok)/\I wr (Ad gk (ok+k))=dU iI:=by let⟨rk,lk,ak⟩:=ae HKV;have rk':=rk.kR lk (w':=wr) (λa ha=>oz.block a.b (ak.jY.lt ha) (by have:=ak.lo a ha;simp;omega));obtain⟨p',c',ee,hd⟩:=rk';obtain⟨rfl,-,-⟩:=jJ ee;obtain hd|⟨b',o',rfl,hd⟩:=hd;{have:=vJ List.length hd;simp at this;rw[this]at bR;simp at bR};{refine⟨b',o',rfl,?_⟩;rw[hd k (by simpa using bR)];simp[im,W]}
 have HY:=ag W;let⟨hC,hO⟩:=ae fL;have cS4:=hC.1 4 _ rfl;have XO:I wr (Ad b 4)=Y (.map bs):=cK hH 4;let⟨D',n',WU,DX,Xa⟩:=hSe.own;have Su:=du Xa lu hI;have Zd:b<U w1.heap/\bs<U w1.heap/\N<U w1.heap:=by obtain⟨y1,y2,-⟩:=ae HS _ b1;let⟨_,_,o,_,_⟩:=y2.own;let⟨_,y3,_⟩:=y2.blk k _ N W rR;exact⟨gy y1,o.lt,gy y3⟩
 have Lp:=ag Zd;have hLW:b<U w.heap/\bs<U w.heap/\N<U w.heap:=ae HLW k _ N W rR;have t3b:b≠B:=af;have t4b:bs≠B:=af;have t5b:N≠B:=af;let⟨vA,dr⟩:=aG wr.drew;have cR:=lG dr;have RJ:=mX (al XO cR) (WU.kept (kU cR dN) aj) (al (cK UR 0) cR) (al (cK UR 1) cR) (al (cK UR 2) cR);have RQ:=ag (Yf.H cR);have OA:=ag (hO.H mg.W cR);have CXA:=ag (hC.H (aK oz.size) cR);have gA:O (w1.grownBy vA B):=MZ oz (kU cR dN) (λb e=>by cases e);have SC:=ag (aR (U vA.heap) vA);have zxA:B<U vA.heap:=aK gA.size;clear CF Im Mt bR rR Zd hLW cS4;go_wp2_with fail;clear Ko;refine fk (λw'=>I w' (Ad b 4)=Y (.map bs)/\w'.ownsMap dG 27 iF bs n' D'/\I w' (Ad N 0)=dU iI/\I w' (Ad N 1)=dI Dl/\I w' (Ad N 2)=dS pq nq cq) (dr▸ae RJ) λhS=>?_;rw[<-dr]at hS⊢;clear dr cR UR Yf lu hI WU Xa hC hO XO hH hSe;refine iC 0 2 3 4 hS ?_;refine fO 5 6 hS ?_;refine Hy (i:=7) (oi:=_) (v:=?_) (by simp only[sV,uA,uz];rfl) aU aU aU (λ_ _ _ h=>h) (Or.L ⟨aS,?_⟩) hS ?_;rotate_left;{(intro w' mw;(try dsimp only at mw);(have hlk:=cc5 mw.2.1 Su.1 Su.2.1 Su.2.2);go_simp;try with_reducible rfl)}
 simp only[Act.put,xa,xb,xc];refine fO 8 9 hS ?_;refine ry [1,10] (cn (λM hK=>?_) (cn (λM hK=>?_) fg));have cl:=CXA.1 4 _ rfl;go_simp;refine bL hK (by exact RJ) λhS=>?_;refine ry [10] (cn (λM hK=>?_) fg)
 all_goals(
  refine jg (eB9 iI Dl pq cq nq Qu ENQ _ (RQ.H SC) hnq Ss) ?_;rintro r v1⟨pe,ce,Ae,rfl,Hn,Fy,um,V⟩;refine⟨_,rfl,?_⟩;have HE1:=du Hn Fy (um.h (B':=U vA.heap) SC.size);let⟨s1,X,s3,s4,s5⟩:=ae RJ;have RS:=mX (al s1 V) (X.kept (kU V dN) aj) (al s3 V) (al s4 V) (al s5 V);have Sx:=ag (CXA.H af V);have mH:=ag (ai SC V);have V8:U vA.heap<=U v1.heap:=mH.size;refine bL hK (by exact RS) λhS=>?_
  skip)
 refine ry [11] (cn (λM hK=>?_) fg);rotate_left;refine ry [1,11] (cn (λM hK=>?_) (cn (λM hK=>?_) fg));have cl:=Sx.1 4 _ rfl;go_simp;refine bL hK (by exact RS) λhS=>?_;refine ry [11] (cn (λM hK=>?_) fg)
 all_goals(
  go_simp;let⟨v2,qx⟩:=aG (v1.alloc (dO #[.U iI,.I Dl,.S pe nq ce] 97));have ay:=gF qx;have qA:∀j u,([.U iI,.I Dl,.S pe nq ce]:List dV)[j]?=Y u->I v2 (Ad (U v1.heap) j)=Y u:=λj u hu=>by rw[qx];exact(aQ.alloc v1 #[.U iI,.I Dl,.S pe nq ce] 97).1 j u (by simpa using hu)
  rw[<-qx];let⟨gE,YA⟩:=aG (U v1.heap);rw[<-YA]at qA⊢;let⟨Hn,Fy,um⟩:=ae HE1;have kE:∀a∈Ae,v2.heap[a.b]?=v1.heap[a.b]?:=λa ha=>ay.block _ (um.jY.lt ha);have Lw:O (mg v2 (iI,Dl,Qu) [.U iI,.I Dl,.S pe nq ce] Ae/\gh (U vA.heap) v2 Ae):=⟨⟨pe,ce,by rw[ae ENQ],by rw[ae ENQ];exact Hn.kR Fy kE,by rw[ae ENQ];exact qi.W Fy kE⟩,um.W kE⟩;have kW:=ag qA;let⟨s1,X,s3,s4,s5⟩:=ae RS;have RM:=mX (al s1 ay) (X.kept (kU ay dN) aj) (al s3 ay) (al s4 ay) (al s5 ay);have CX2:=ag (Sx.H af ay);have EF:=ag (ai mH ay);have zx2:U vA.heap<=U v2.heap:=EF.size;refine bL hK (by exact RM) λhS=>?_;clear hK M qx ay qA YA Hn Fy um kE
  skip)
 rotate_left;refine ry [1] (cn (λM hK=>?_) fg);have cl:=CX2.1 4 _ rfl;go_simp;refine bL hK (by exact RM) λhS=>?_;clear hK M cl
 all_goals(
  have OC:=OA.H mg.W EF;let⟨Zw,apC⟩:=ae Lw;let⟨cs,g1,g2,g3,g4,g5,g6,g7⟩:=id OC;have Gd:=OA.lt;have hle:J (ss.take k)<=1048576:=by rw[rM];omega
  have zA1:=gA.size;have zA:U w1.heap<=U v2.heap:=af;refine ry [12] ?_;refine cn (λM hK=>?_) ?_;{
 refine Tn aS aS is 3 underlying38 Qn Wr Wq Wp rfl bf aS g4 1 1 [.U iI,.I Dl,.S pe nq ce] aS rfl kW (λu hu=>by simp at hu;obtain rfl|rfl|rfl:=hu<;>rfl) jC af zA ?_;intro v' w9 gx hg gP;have sn:=OwnT.snoc g1 g2 g3 g5 g6 g7 mg.W Zw rfl apC zA1 (λa ha=>(Gd.2 a ha).2) (λb hb=>(Gd.1 b hb).2) gx hg gP;rw[<-Wn (ae HY)]at sn;obtain⟨pN,cN,Gs,-⟩:=id sn.read;let⟨lN,Kh⟩:=aG (J (ss.take (k+1)));rw[<-Kh]at Gs;subst Gs;clear Kh;have Iq:∀z,z<U w1.heap->Y z≠Sv.ownBlock:=λz hz e=>by have:=(Gd.1 z e.C).1;omega
 have pM:w1.grownBy w9 B:=MZ (MZ gA (kU EF dN) (λb e=>by cases e)) hg (λb e=>.L (Gd.1 b e).1);have C9:=CX2.grown af hg (Iq B af);let⟨t1,t2,t3⟩:=ae Lp;let⟨s1,X,s3,s4,s5⟩:=ae RM;have S9:=mX (hg.cell s1 (Iq (b) t1)) (X.kept hg (Iq (bs) t2)) (hg.cell s3 (Iq (N) t3)) (hg.cell s4 (Iq (N) t3)) (hg.cell s5 (Iq (N) t3));refine bL hK (by exact S9) λhS=>?_;have SN:=ag sn;have cc:=C9.1 4 _ rfl;have cf:=C9.2;have Gc:=sn.lt;clear hK M sn gx gP g1 g2 g3 g4 g5 g6 g7 Zw apC OC s1 X s3 s4 s5;refine tn 13 hS ?_;refine ew 14 λM hK=>?_;go_simp;let⟨wT,FG⟩:=aG (w9.setCell (Ad B 4) (.S pN lN cN));have CT:=C9.db 4 aj (.S pN lN cN);have Gf:∀z,z≠B->wT.heap[z]?=w9.heap[z]?:=λz hz=>by rw[FG];exact fT _ _ _ _ hz
 have gT:O (w1.grownBy wT B):=by show World.grownBy _ _ _;rw[FG];exact KF pM (iB _ _ _)
 have zT:U w9.heap<=U wT.heap:=by rw[FG];simp
 have OT:O (OwnT mg 97 3 (U w1.heap) wT (.S pN lN cN) (ss.take (k+1)) (Ls++[Ae])):=SN.W (mg.W _ _) zT (λz hz=>Gf z (aK (Gc.1 z hz).1)) (λy W=>Gf _ (aK (Gc.2 y W).1));rw[<-FG]at CT⊢;have MG:=λz(hz:z≠B)o=>gj (Gf z hz) o;let⟨s1,X,s3,s4,s5⟩:=ae S9;have ST:=aF ((MG _ t3b _).Z s1) (aF (bV9 X (Gf _ t4b)) (aF ((MG _ t5b _).Z s3) (aF ((MG _ t5b _).Z s4) ((MG _ t5b _).Z s5))));refine bL hK (by exact ST) λhS=>?_;have CT2:=ag CT;clear hK M FG Gf MG C9 cc cf CT hg pM zT ST s1 X s3 s4 s5;refine fy ?_;clear hS Gc Gd;go_wp2;go_roundw;exact⟨k+1,_,_,af,by go_num,⟨CT2,OT⟩,gT⟩;exact cW};exact fg
  skip)}
 {
 have cL:=fq k nk;obtain rfl:k=nk:=af;let⟨hC,hO⟩:=ae fL;rw[lY (ae ENK▸eG _)]at hO;let⟨w2,ew2⟩:=aG wr;subst ew2;have R2:=ag (R1.grown af (ae oz) bq);obtain⟨pS,cS,Zs,-⟩:=id hO.read;let⟨lS,Gc⟩:=aG (J ss);rw[<-Gc]at Zs;subst Zs;have HLS:=ag Gc;let⟨Oz,A1,Mi,Ld⟩:=hO.se;have HA1:=ag λa ha=>Ld.jY.lt (a:=a) ha;have OS:=du Oz Mi Ld;clear Oz Mi Ld;have CS:=ag hC;have z12:=oz.size;obtain⟨Zg,-,Zb⟩:=ae HS _ BB;let⟨DN,nN,oN,hnN,mN⟩:=id Zb.own;have k5:I w2 (Ad b 5)=Y (.map bn):=cK Zg 5;have MN:=ag mN;clear hO hC Gc Zg mN fL hk aH cL R1 C1 HKV oz;go_wp2_with fail;refine(T.Wv bn nN DN _ oN (gv oN.size_le hnN)).h ?_;rintro r w3⟨kv,ks,rfl,yw,vD,aI⟩;obtain rfl:=aR6 Zb hn MN yw;obtain⟨pk2,ck2,rfl,Qi⟩:=aP4 vD;let⟨OM,bp0⟩:=aG (J ns);rw[<-bp0];have cQ2:=ag bp0;have fq9:OM<=1048576:=af;have HKN:=ag Qi;have b3:=ai BB aI;have z3:=aI.size;have C3:=ag (CS.H af aI);have R3:=ag (R2.H af aI);have kS3:∀a∈A1,w3.heap[a.b]?=w2.heap[a.b]?:=λa ha=>aI.block _ (ae HA1 a ha);have O3:=du (OS.1.kR OS.2.1 kS3) (kG.W OS.2.1 kS3) (OS.2.2.W kS3);clear Qi vD yw aI k5 Zb oN bp0 CS R2 OS BB kS3;go_wp2_with fail
 go_loopw[56](λiv wr=>∃(k:Nat)(Sv:dV)(Ls:List (List Lf)),k<=OM/\iv=.I k/\O (aQ wr B [.U e,.U g,.U x,.I t,.S pS lS cS,Sv]/\OwnT kF 141 8 (U w3.heap) wr Sv (ns.take k) Ls)/\O (w3.grownBy wr B)) (λiv _=>OM-(intOf iv).toNat)
 exact⟨0,_,[],cO _,rfl,⟨C3,OwnT.nil _ _ _ _ _⟩,Zn⟩;{
 obtain⟨k,Sv,Ls,hk,rfl,fL,oz⟩:=hrel;have BB:=aB8 b3 oz af;by_cases aH:k<OM;{
 have cL:=bM k OM;have bR:k<J ns:=ae cQ2▸aH;let⟨nd,W⟩:=nR bR;obtain⟨hH,-,hNo⟩:=ae HS _ BB;let⟨N,rR,lu⟩:=ce7 hNo W;let⟨Vb,hb,ub,Ki⟩:=hNo.blk k _ N W rR;let⟨xY,uh,vS,rQ,hl5,hl6,hl7⟩:=ae UF _ (bu W);obtain⟨gk,rfl,Ko⟩:∃gk,pk2=(Ad gk 0)/\I wr (Ad gk k)=Y (.string (aZ nd.A)):=by obtain h0|⟨gk,rfl,h1,h2,h3⟩:=ae HKN;{rw[h0]at bR;simp at bR};{exact⟨gk,rfl,(gj (oz.block gk h2 bq) _).Z (by have:=h3 k nd W;rwa [mO]at this)⟩}
 have HY:=ag W;let⟨hC,hO⟩:=ae fL;have XO:I wr (Ad b 5)=Y (.map bn):=cK hH 5;let⟨D',n',WU,DX,Xa⟩:=hNo.own;have Su:=du Xa lu uh;have hLW:b<U w.heap/\bn<U w.heap/\N<U w.heap:=ae HLN k _ N W rR;have Zd:b<U w3.heap/\bn<U w3.heap/\N<U w3.heap:=aK b3.size;have Lp:=ag Zd;have t3b:b≠B:=af;have t4b:bn≠B:=af;have t5b:N≠B:=af;let⟨vA,dr⟩:=aG wr.drew;have cR:=lG dr;have RJ:=bG (al XO cR) (WU.kept (kU cR dN) aj);have RQ:=ag (Ki.H cR);have OA:=ag (hO.H kF.W cR);have CXA:=ag (hC.H (aK oz.size) cR);have gA:O (w3.grownBy vA B):=MZ oz (kU cR dN) (λb e=>by cases e);have SC:=ag (aR (U vA.heap) vA);have zxA:B<U vA.heap:=aK gA.size;clear bR rR Zd hLW;go_wp2_with fail;clear Ko;refine fk (λw'=>I w' (Ad b 5)=Y (.map bn)/\w'.ownsMap dG 9 iF bn n' D') (dr▸ae RJ) λhS=>?_;rw[<-dr]at hS⊢;clear dr cR Ki lu WU Xa hC hO XO hH hNo;refine iC 0 2 3 4 hS ?_;refine fO 5 6 hS ?_;refine Hy (i:=7) (oi:=_) (v:=?_) (by simp only[sV,uA,uz];rfl) aU aU aU (λ_ _ _ h=>h) (Or.L ⟨aS,?_⟩) hS ?_;rotate_left;{(intro w' mw;(try dsimp only at mw);(have hlk:=cc6 mw.2 Su.1 Su.2.1 Su.2.2);go_simp;try with_reducible rfl)}
 simp only[Act.put,xa,xb,xc];refine tn 8 hS ?_;refine ry [1,9] (cn (λM hK=>?_) (cn (λM hK=>?_) fg));have cl:=CXA.1 5 _ rfl;go_simp;refine bL hK (by exact RJ) λhS=>?_;clear hK M cl;refine ry [9] (cn (λM hK=>?_) fg)
 all_goals(
  refine wD (dz9 (RQ.H SC) hl6 hl7 uh vS rQ hl5 xY) ?_;rintro r v1⟨cn,Ae,rfl,Gv,um,V⟩;let⟨q0,q1,q2,q3,q4,q5,q6,q7,ecn,one⟩:=Gv.cells;subst ecn;refine⟨_,rfl,?_⟩;have HE1:=du Gv one (um.h (B':=U vA.heap) SC.size);let⟨s1,X⟩:=ae RJ;have RS:=bG (al s1 V) (X.kept (kU V dN) aj);have Sx:=ag (CXA.H af V);have mH:=ag (ai SC V);have V8:U vA.heap<=U v1.heap:=mH.size;clear s1 X;refine bL hK (by exact RS) λhS=>?_;clear hK M V Gv um one
  skip)
 refine ry [10] (cn (λM hK=>?_) fg);rotate_left;refine ry [1,10] (cn (λM hK=>?_) (cn (λM hK=>?_) fg));have cl:=Sx.1 5 _ rfl;go_simp;refine bL hK (by exact RS) λhS=>?_;clear hK M cl;refine ry [10] (cn (λM hK=>?_) fg)
 all_goals(
  go_simp;let⟨v2,qx⟩:=aG (v1.alloc (dO #[q0,q1,q2,q3,q4,q5,q6,q7] 141));have ay:=gF qx;have qA:∀j u,([q0,q1,q2,q3,q4,q5,q6,q7]:List dV)[j]?=Y u->I v2 (Ad (U v1.heap) j)=Y u:=λj u hu=>by rw[qx];exact(aQ.alloc v1 #[q0,q1,q2,q3,q4,q5,q6,q7] 141).1 j u (by simpa using hu)
  rw[<-qx];let⟨gE,YA⟩:=aG (U v1.heap);rw[<-YA]at qA⊢;let⟨Gv,one,um⟩:=ae HE1;have kE:∀a∈Ae,v2.heap[a.b]?=v1.heap[a.b]?:=λa ha=>ay.block _ (um.jY.lt ha);have Lw:O (kF v2 nd [q0,q1,q2,q3,q4,q5,q6,q7] Ae/\gh (U vA.heap) v2 Ae):=⟨kF.W _ _ _ _ _ Gv kE,um.W kE⟩;have ONE:=ag one;have kW:=ag qA;let⟨s1,X⟩:=ae RS;have RM:=bG (al s1 ay) (X.kept (kU ay dN) aj);have CX2:=ag (Sx.H af ay);have EF:=ag (ai mH ay);have zx2:U vA.heap<=U v2.heap:=EF.size;clear s1 X;refine bL hK (by exact RM) λhS=>?_;clear hK M qx ay qA YA Gv um kE one
  skip)
 rotate_left;refine ry [1] (cn (λM hK=>?_) fg);have cl:=CX2.1 5 _ rfl;go_simp;refine bL hK (by exact RM) λhS=>?_;clear hK M cl
 all_goals(
  have OC:=OA.H kF.W EF;let⟨Zw,apC⟩:=ae Lw;let⟨cs,g1,g2,g3,g4,g5,g6,g7⟩:=id OC;have Gd:=OA.lt;have hle:J (ns.take k)<=1048576:=by rw[rM];omega
  have zA1:=gA.size;have zA:U w3.heap<=U v2.heap:=af;refine ry [11] ?_;refine cn (λM hK=>?_) ?_;{
 refine Tn aS aS io 8 underlying39 hio oz0 oz1 oz2 rfl bf aS g4 1 1 [q0,q1,q2,q3,q4,q5,q6,q7] aS rfl kW ONE jC af zA ?_;intro v' w9 gx hg gP;have sn:=OwnT.snoc g1 g2 g3 g5 g6 g7 kF.W Zw rfl apC zA1 (λa ha=>(Gd.2 a ha).2) (λb hb=>(Gd.1 b hb).2) gx hg gP;rw[<-Wn (ae HY)]at sn;obtain⟨pN,cN,Gs,-⟩:=id sn.read;let⟨lN,Kh⟩:=aG (J (ns.take (k+1)));rw[<-Kh]at Gs;subst Gs;clear Kh;have Iq:∀z,z<U w3.heap->Y z≠Sv.ownBlock:=λz hz e=>by have:=(Gd.1 z e.C).1;omega
 have pM:w3.grownBy w9 B:=MZ (MZ gA (kU EF dN) (λb e=>by cases e)) hg (λb e=>.L (Gd.1 b e).1);have C9:=CX2.grown af hg (Iq B af);let⟨t1,t2,t3⟩:=ae Lp;let⟨s1,X⟩:=ae RM;have S9:=bG (hg.cell s1 (Iq (b) t1)) (X.kept hg (Iq (bn) t2));refine bL hK (by exact S9) λhS=>?_;have SN:=ag sn;have cc:=C9.1 5 _ rfl;have cf:=C9.2;have Gc:=sn.lt;clear hK M sn gx gP g1 g2 g3 g4 g5 g6 g7 Zw apC OC s1 X;refine tn 12 hS ?_;refine ew 13 λM hK=>?_;go_simp;let⟨wT,FG⟩:=aG (w9.setCell (Ad B 5) (.S pN lN cN));have CT:=C9.db 5 aj (.S pN lN cN);have Gf:∀z,z≠B->wT.heap[z]?=w9.heap[z]?:=λz hz=>by rw[FG];exact fT _ _ _ _ hz
 have gT:O (w3.grownBy wT B):=by show World.grownBy _ _ _;rw[FG];exact KF pM (iB _ _ _)
 have zT:U w9.heap<=U wT.heap:=by rw[FG];simp
 have OT:O (OwnT kF 141 8 (U w3.heap) wT (.S pN lN cN) (ns.take (k+1)) (Ls++[Ae])):=SN.W (kF.W _ _) zT (λz hz=>Gf z (aK (Gc.1 z hz).1)) (λy W=>Gf _ (aK (Gc.2 y W).1));rw[<-FG]at CT⊢;have MG:=λz(hz:z≠B)o=>gj (Gf z hz) o;let⟨s1,X⟩:=ae S9;have ST:=aF ((MG _ t3b _).Z s1) (bV9 X (Gf _ t4b));refine bL hK (by exact ST) λhS=>?_;have CT2:=ag CT;clear hK M FG Gf MG C9 cc cf CT hg pM zT ST s1 X;refine fy ?_;clear hS Gc Gd;go_wp2;go_roundw;exact⟨k+1,_,_,af,by go_num,⟨CT2,OT⟩,gT⟩;exact cW};exact fg
  skip)}
 {
 have cL:=fq k OM;obtain rfl:k=OM:=af;let⟨hC,hO⟩:=ae fL;rw[lY (ae cQ2▸eG _)]at hO;obtain⟨pN,cN,Gs,-⟩:=id hO.read;let⟨lN,Kh⟩:=aG (J ns);rw[<-Kh]at Gs;subst Gs;let⟨rdN,A2,Xy,apN⟩:=hO.no;let⟨Oz,Mi,Ld⟩:=ae O3;have R4:=R3.grown af (ae oz) bq;let⟨c0,c1,c2,c3,c4,c5⟩:=yx hC.1;let⟨r0,r1,r2,r3,r4,r5⟩:=yx R4.1;have rf:=R4.2;have FM:¬U w.heap=B:=af;have Cj:¬B=U w.heap:=af;have Jw:=du rdN Xy apN;have FIS:=du Oz Mi Ld;have eZ2:=ag Kh;have z3r:=oz.size;clear rdN Xy apN Oz Mi Ld hO hC R4 fL Kh;go_wp2;let⟨rdN,Xy,apN⟩:=ae Jw;let⟨Oz,Mi,Ld⟩:=ae FIS;let⟨Z,hZ⟩:=aG ((((((wr.setCell (Ad (U w.heap) 0) (.U e)).setCell (Ad (U w.heap) 1) (.U g)).setCell (Ad (U w.heap) 2) (.U x)).setCell (Ad (U w.heap) 3) (.I t)).setCell (Ad (U w.heap) 4) (.S pS lS cS)).setCell (Ad (U w.heap) 5) (.S pN lN cN));have UJ:∀z,z≠U w.heap->Z.heap[z]?=wr.heap[z]?:=λz hz=>by
  rw[hZ]
  iterate 6 rw[fT _ _ _ _ hz]
 have k1:∀a∈A1,Z.heap[a.b]?=w3.heap[a.b]?:=λa ha=>by have h1:=ae HA1 a ha;have h2:=Ld.lo a ha;rw[UJ _ af];exact oz.block _ af bq
 have k2:∀a∈A2,Z.heap[a.b]?=wr.heap[a.b]?:=λa ha=>by have h2:=apN.lo a ha;exact UJ _ (aK b3.size)
 have YQ:Bw w Z:=by rw[hZ];exact(((((BB.setCell aA _).setCell aA _).setCell aA _).setCell aA _).setCell aA _).setCell aA _
 have eS:=ae HLS;have eN:=ae eZ2;refine cg (v:=bS e g x t (.S pS lS cS) (.S pN lN cN)) (by simp[results,results70,go_sem,r0,r1,r2,r3,r4,r5,c0,c1,c2,c3,c4,c5]) rfl ?_;rw[<-hZ];subst eS eN;refine⟨pS,cS,pN,cN,rfl,Oz.kR Mi k1,rdN.kR Xy k2,A1,kG.W Mi k1,A2,lK.W Xy k2,?_,YQ⟩;exact((Ld.W k1).app (apN.W k2) af (λa ha=>aK (ae HA1 a ha))).h af}}}}
def ak1{α:Type}{R:α->α->Prop}{l:List α}(h:∀(i j:Nat)(a b:α),l[i]?=a->l[j]?=b->i<j->R a b):l.Pairwise R:=by
 rw[Fq];intro i j q o m;exact h i j _ _ (bD q) (bD o) m
def dl1(h:BO x ss):ss.Pairwise (λs m=>s.1<m.1):=by
 refine ak1 λi j s m r o q=>?_;rw[BO,gL]at h;have:=Z9 h.2 (λi j k y u=>by simp at y u⊢;omega) j i (bg.1 o).1 q;simpa only[im,r,o,rJ,jX]using this
def dA3(h:AF e g ns):(ns.map λnd=>jA nd.A).Pairwise (·<·):=by
 rw[AH];refine ak1 λi j s x q m o=>?_;rw[AF,gL]at h;have:=Z9 h.2 (λi j k u r=>JO.2 (aB6 (JO.1 u) (JO.1 r))) j i (bg.1 m).1 o;simp only[im,q,m,rJ]at this;rw[JO,T.aB1,jX,Bj,Bj]at this;exact this
def bu5(h:Nu l):l.Pairwise (·<·):=by
 refine ak1 λi j s x q m o=>?_;rw[Nu]at h;have:=Z9 h (λi j k u r=>by simp at u r⊢;omega) j i (bg.1 m).1 o;simpa only[im,q,m,rJ,jX]using this
def bX7(h:AF e g ns):∀nd∈ns,nd.y.Pairwise (·<·)/\nd.X.Pairwise (·<·):=by
 intro nd o;rw[AF,gL]at h;have m:∀y∈ns,xJ e g y:=(I9 ns jh (xJ e g)).1 λi j=>ky.1 h.1 i (vH.2 j);have:=m nd o;simp only[xJ,gL]at this;exact⟨bu5 this.2.2.2.1,bu5 this.2.2.2.2⟩
structure yC(ss:List aB)(ns:List ar):Prop where
 s1:ss.Pairwise (λs s'=>s.1<s'.1)
 n1:(ns.map λnd=>jA nd.A).Pairwise (·<·)
 s2:∀s∈ss,(0<=s.1/\s.1<2^64)/\J s.2.2<=1048576/\∀e∈s.2.2,J e.2<=1048576
 n2:∀nd∈ns,aC nd.A/\J nd.A<=1048576/\J nd.V<=1048576/\J nd.y<=1048576/\J nd.X<=1048576/\nd.y.Pairwise (·<·)/\nd.X.Pairwise (·<·)
 s3:∀(i j:Nat)(s s':aB),ss[i]?=Y s->ss[j]?=Y s'->i<j->s.1≠s'.1
 n3:∀(i j:Nat)(z z':ar),ns[i]?=z->ns[j]?=z'->i<j->z.A≠z'.A
def QV(h:lr e g x t ss ns)(u:Bs ss)(B:Bn ns):yC ss ns:=by
 let⟨r,o,i,E,D⟩:=(aM1 e g x t ss ns).1 h;have y:x<=2^62:=by simp only[Mm,jX]at r;exact r.2.2.1
 refine⟨dl1 o,dA3 i,λs m=>⟨aN5 o y s m,(u s m).1,λe he=>((u s m).2 e he).2⟩,λj q=>?_,bP6 o,bX8 i⟩;let⟨a,b,c,d,f⟩:=B j q;exact⟨a,b,c,d,f,(bX7 i j q).1,(bX7 i j q).2⟩
def de9{SB NB HB UB:iN}(h:Jg w0 w b bs bn e g x t ss ns SB NB HB UB)(S:Bw w0 w)(l1:Mg (J ss))(l2:Mg (J ns)):Vz w b bs bn e g x t ss ns SB NB:=by
 refine⟨h.hd,⟨h.yL.len,?_,λi s E j B=>?_⟩,⟨h.jt.len,?_,λi Z E j B=>?_⟩⟩;{let⟨D,o,m⟩:=h.yL.own;exact⟨D,_,o,l1,m⟩};{obtain⟨-,u,r,q⟩:=h.yL.blk i s E j B;exact⟨u,r,q.H S⟩};{let⟨D,o,m⟩:=h.jt.own;exact⟨D,_,o,l2,m⟩};{have N:=(bg.1 j).1;obtain⟨R,iS⟩:∃y,HB[i]?=Y y:=⟨_,bD (h.jt.Mo▸N)⟩;obtain⟨M,iV⟩:∃y,UB[i]?=Y y:=⟨_,bD (h.jt.Mn▸N)⟩;obtain⟨-,-,-,⟨V,r,q⟩,X,W⟩:=h.jt.blk i Z E R M j B iS iV;exact⟨V,R,M,r,q.H S,X,W⟩}
def AB(w0 w:G)(v:dV)(l:LI):Prop:=Rd w0 v l\/TB w v l
def AB.rd(h:AB w0 w v l)(i:Bw w0 w):Rd w v l:=by
 obtain h|h:=h;{exact h.H i};{exact h.1}
def AB.T{T:List TypeId}(h:AB w0 w v l)(hf:Fr T w w')(ht:5∉T:=by decide):AB w0 w' v l:=by
 obtain h|h:=h;{exact .L h};{exact .R (h.T hf ht)}
def AQ(w0 w:G)(u:dV)(es:List Ev):Prop:=
 ∃(p:OA)(c:Nat),u=.S p (J es) c/\(es=[]\/∃b o,p=(Ad b o)/\(b<U w0.heap\/∃j m,w.heap[b]?=dO j 119 m)/\∀i e,es[i]?=Y e->I w (Ad b (o+i*2))=dI e.1/\∃u,I w (Ad b (o+i*2+1))=Y u/\AB w0 w u e.2/\tG u)
def AQ.Ty(h:AQ w0 w u es)(s:Bw w0 w):sj w u es:=by
 obtain⟨p,c,rfl,h⟩:=h;refine⟨p,c,rfl,?_⟩;obtain h|⟨b,o,rfl,-,h⟩:=h;{exact .L h};{refine .R ⟨b,o,rfl,λi e he=>?_⟩;let⟨r,u,q,m,j⟩:=h i e he;exact⟨r,u,q,m.rd s,j⟩}
def AQ.of(h:sj w0 u es)(r:Bw w0 w):AQ w0 w u es:=by
 obtain⟨p,c,rfl,h⟩:=h;refine⟨p,c,rfl,?_⟩;obtain h|⟨b,o,rfl,h⟩:=h;{exact .L h};{by_cases q:es=[];{exact .L q};{obtain⟨m,j⟩:∃m,es[0]?=Y m:=⟨_,bD (Pb.2 q)⟩;refine .R ⟨b,o,rfl,.L (jO w0 _ (h 0 m j).1),λi e he=>?_⟩;let⟨B,u,y,x,s⟩:=h i e he;exact⟨al B r,u,al y r,.L x,s⟩}}
def AQ.T{T:List TypeId}(h:AQ w0 w u es)(hb:Below (U w0.heap) w w')(hf:Fr T w w')(ht:5∉T/\119∉T:=by decide):AQ w0 w' u es:=by
 obtain⟨p,c,rfl,h⟩:=h;refine⟨p,c,rfl,?_⟩;obtain h|⟨b,o,rfl,hd,h⟩:=h;{exact .L h};{
 have hk:w'.heap[b]?=w.heap[b]?:=by obtain hd|⟨cur,m,hd⟩:=hd;{exact hb.block b hd};{exact(hf.2 _ _ _ _ ht.2 hd).Z hd.C}
 refine .R ⟨b,o,rfl,hd.imp id (λ⟨cur,m,hd⟩=>⟨cur,m,hk.Z hd⟩),λi e he=>?_⟩;let⟨h1,u,h2,h3,h4⟩:=h i e he;exact⟨(gj hk _).Z h1,u,(gj hk _).Z h2,h3.T hf ht.1,h4⟩}
def AQ.nil(w0 w:G):AQ w0 w aq []:=⟨dN,0,rfl,.L rfl⟩
def Hq{R:dV->Option (DataW Unit×List MemPlace)}(h:w.ownsMap dG k R b n D):w.ownsMap dG k R b (Maps.size D) D:=by
 obtain⟨es,i,j,F,m,rfl⟩:=h;refine⟨es,i,j,F,?_,rfl⟩;rw[Maps.size_eq,length_sorted];simp
def ak5{R:dV->Option (DataW Unit×List MemPlace)}(h:w.ownsMap dG k R b n D)(K:Keyed dG k):Tidy D:=by
 obtain⟨es,e,i,-⟩:=h.entries K;exact⟨es,e,i⟩
def aN1{R:dV->Option (DataW Unit×List MemPlace)}(h:w.ownsMap dG k R b n D)(K:Keyed dG k)(o:L.Nodup)(r:∀x,Maps.has D x=dY↔x∈L):Maps.size D=J L:=by
 obtain⟨es,rfl,m,q⟩:=h.entries K;rw[Maps.size_eq,<-ir (f:=Prod.fst)];refine List.Perm.length_eq ((List.perm_ext_iff_of_nodup (AH.2 m) o).2 λx=>?_);rw[<-r x,Maps.has_eq,Ui,fe];constructor;{rintro⟨p,i,rfl⟩;exact⟨p,i,am7 (q p i)⟩};{rintro⟨p,i,j⟩;refine⟨p,i,cb4 λs=>?_⟩;rw[sameKey_ne s]at j;cases j}
def SM(w:G)(h:Nat)(s:LI):Prop:=∃D n,w.ownsMap dG 27 unitElem h n D/\n<=2097152/\jL D s/\Maps.size D=J s
structure PN(w0 w:G)(g h u:Nat)(nd:ar):Prop where
 lo:U w0.heap<=g/\U w0.heap<=h/\U w0.heap<=u
 blk:∃V,w.heap[g]?=dO #[V,.U nd.D,.I nd.M,.map h,.U nd.P,.U nd.F,.map u] 186/\AB w0 w V nd.V
 AV:SM w h nd.y
 yE:SM w u nd.X
def PE(w0 w:G)(g:Nat)(s:aB):Prop:=U w0.heap<=g/\∃u,w.heap[g]?=dO #[.U s.1,.I s.2.1,u] 97/\AQ w0 w u s.2.2
structure PS(w0 w:G)(b bs bn:Nat)(D:SD)(SB NB HB UB:iN):Prop where
 be:Bw w0 w
 hd:w.heap[b]?=dO #[.U D.e,.U D.g,.U D.x,.I D.t,.map bs,.map bn] 181
 ur:J SB=J D.E
 tJ:∃M n,w.ownsMap dG 27 iF bs n M/\n<=1048576/\pR M (List.zipWith (λ(s:aB)g=>(Lit.U s.1,g)) D.E SB)/\Maps.size M=J D.E
 vz:∀(i:Nat)(s:aB)(g:Nat),D.E[i]?=s->SB[i]?=Y g->PE w0 w g s
 snd:SB.Nodup
 vG:J NB=J D.N
 hlen:J HB=J D.N
 vZ:J UB=J D.N
 pX:∃M n,w.ownsMap dG 9 iF bn n M/\n<=1048576/\pR M (List.zipWith (λ(nd:ar)g=>(di nd.A,g)) D.N NB)/\Maps.size M=J D.N
 qK:∀(i:Nat)(nd:ar)(g h u:Nat),D.N[i]?=nd->NB[i]?=Y g->HB[i]?=h->UB[i]?=u->PN w0 w g h u nd
 Fm:NB.Nodup
 lo:U w0.heap<=b/\U w0.heap<=bs/\U w0.heap<=bn
 ve:(bs::bn::(HB++UB)).Nodup
def SM.of{h n:Nat}(o:w.ownsMap dG 27 unitElem h n D)(q:n<=2097152)(m:jL D s)(u:s.Nodup):SM w h s:=by
 refine⟨D,n,o,q,m,?_⟩;have r:J (s.map λi:Int=>Lit.U i)=J s:=ir _;rw[<-r];refine aN1 o mr (AH.2 (u.imp λy e=>y (by simpa using e))) λx=>?_;rw[m x,fe];constructor;{rintro⟨i,j,rfl⟩;exact⟨i,j,rfl⟩};{rintro⟨i,j,rfl⟩;exact⟨i,j,rfl⟩}
def SM.kept{h:Nat}(k:SM w h s)(i:w'.heap[h]?=w.heap[h]?):SM w' h s:=by
 obtain⟨D,n,o,r,q,m⟩:=k;exact⟨D,n,aQ6 o (λes c j=>i.Z j),r,q,m⟩
def WN(h:s.Pairwise (·<·)):s.Nodup:=h.imp λi e=>by omega
def PS.of{SB NB HB UB:iN}(h:Jg w0 w b bs bn e g x t ss ns SB NB HB UB)(be:Bw w0 w)(hF:yC ss ns)(ls:Mg (J ss))(ln:Mg (J ns)):PS w0 w b bs bn ⟨e,g,x,t,ss,ns⟩ SB NB HB UB:=by
 refine⟨be,h.hd,h.yL.len,?_,λi s gb q Z=>?_,h.yL.jt,h.jt.len,h.jt.Mo,h.jt.Mn,?_,λi E gb hh uu q Z B h2=>?_,h.jt.jt,h.lo,h.ve⟩;{let⟨D,o,m⟩:=h.yL.own;refine⟨D,_,o,ls,m,?_⟩;have X:J (ss.map λs=>Lit.U s.1)=J ss:=ir _;rw[<-X];refine aN1 o mr (AH.2 (hF.s1.imp λaH e=>by simp at e;omega)) λk=>?_;rw[m.hs k,fe];constructor;{rintro⟨p,W,rfl⟩;obtain⟨i,s,y,B,-,rfl⟩:=yD W;exact⟨s,bu B,rfl⟩};{rintro⟨s,q,rfl⟩;let⟨i,r⟩:=jk.1 q;obtain⟨y,S⟩:∃y,SB[i]?=Y y:=⟨_,bD (h.yL.len▸(bg.1 r).1)⟩;exact⟨_,bu (i:=i) (by rw[qL,r,S]),rfl⟩}};{let⟨R,u,N,M⟩:=h.yL.blk i s gb q Z;exact⟨R,u,N,AQ.of M be⟩};{let⟨D,o,m⟩:=h.jt.own;refine⟨D,_,o,ln,m,?_⟩;have X:J (ns.map λE=>di E.A)=J ns:=ir _;rw[<-X];refine aN1 o ru (AH.2 (ak1 λi j a c ha hc jQ e=>hF.n3 i j a c ha hc jQ (Ml (hF.n2 a (bu ha)).1 (hF.n2 c (bu hc)).1 e))) λk=>?_;rw[m.hs k,fe];constructor;{rintro⟨p,W,rfl⟩;obtain⟨i,s,y,B,-,rfl⟩:=yD W;exact⟨s,bu B,rfl⟩};{rintro⟨s,q,rfl⟩;let⟨i,r⟩:=jk.1 q;obtain⟨y,S⟩:∃y,NB[i]?=Y y:=⟨_,bD (h.jt.len▸(bg.1 r).1)⟩;exact⟨_,bu (i:=i) (by rw[qL,r,S]),rfl⟩}};{let⟨R,N,M,⟨V,q3,q4⟩,⟨D1,o1,m1⟩,⟨D2,o2,m2⟩⟩:=h.jt.blk i E gb hh uu q Z B h2;obtain⟨-,-,-,l1,l2,n1,n2⟩:=hF.n2 E (bu q);exact⟨⟨R,N,M⟩,⟨V,q3,.L q4⟩,SM.of o1 af m1 (WN n1),SM.of o2 af m2 (WN n2)⟩}
def PS.Wt{D:SD}{SB NB HB UB:iN}(h:PS w0 w b bs bn D SB NB HB UB):Vz w b bs bn D.e D.g D.x D.t D.E D.N SB NB:=by
 refine⟨h.hd,⟨h.ur,?_,λi s N j E=>?_⟩,⟨h.vG,?_,λi nd N j E=>?_⟩⟩;{obtain⟨M,n,o,B,m,-⟩:=h.tJ;exact⟨M,n,o,B,m⟩};{obtain⟨-,u,r,q⟩:=h.vz i s N j E;exact⟨u,r,q.Ty h.be⟩};{obtain⟨M,n,o,B,m,-⟩:=h.pX;exact⟨M,n,o,B,m⟩};{have S:=(bg.1 j).1;obtain⟨W,iS⟩:∃y,HB[i]?=Y y:=⟨_,bD (h.hlen▸S)⟩;obtain⟨R,iV⟩:∃y,UB[i]?=Y y:=⟨_,bD (h.vZ▸S)⟩;obtain⟨-,⟨V,r,q⟩,⟨D1,n1,o1,-,s1,Z⟩,⟨D2,n2,o2,-,s2,X⟩⟩:=h.qK i nd N W R j E iS iV;exact⟨V,W,R,r,q.rd h.be,⟨D1,Z▸Hq o1,s1⟩,⟨D2,X▸Hq o2,s2⟩⟩}
structure One(w0 w w':G)(g:Nat):Prop where
 b:Below (U w0.heap) w w'
 k:∀z,z<U w.heap->z≠g->w'.heap[z]?=w.heap[z]?
 t:∀cur ty m,w.heap[g]?=dO cur ty m->ty∈[97,186,181]
variable {g:Nat}
def One.T(h:One w0 w w' g):Fr [97,186,181] w w':=by
 refine⟨h.b.size,λb cur ty m hn hb=>?_⟩;by_cases e:b=g;{subst e;exact absurd (h.t _ _ _ hb) hn};{exact(h.k b (gy hb) e).Z hb}
def One.obj{o:Obj}(h:One w0 w w' g)(i:w.heap[z]?=o)(j:z≠g):w'.heap[z]?=o:=(h.k z (gy i) j).Z i
def ownsMap_at{R:dV->Option (DataW Unit×List MemPlace)}(h:w.ownsMap dG k R b n D):∃es c,w.heap[b]?=Y (.map es c):=by
 obtain⟨es,c,i,-⟩:=h;exact⟨es,c,i⟩
def One.map{R:dV->Option (DataW Unit×List MemPlace)}(h:One w0 w w' g)(i:w.ownsMap dG k R z n D)(m:z≠g):w'.ownsMap dG k R z n D:=
 aQ6 i (λes c j=>h.obj j m)
def SM.W{g h:Nat}(k:SM w h s)(i:One w0 w w' g)(r:h≠g):SM w' h s:=by
 obtain⟨D,n,o,q,m,j⟩:=k;exact⟨D,n,i.map o r,q,m,j⟩
def SM.at{h:Nat}(k:SM w h s):∃es c,w.heap[h]?=Y (.map es c):=by
 obtain⟨D,n,o,-⟩:=k;exact ownsMap_at o
variable {s:aB}
def PE.W(h:PE w0 w gb s)(i:One w0 w w' g)(q:gb≠g):PE w0 w' gb s:=by
 obtain⟨o,u,m,j⟩:=h;exact⟨o,u,i.obj m q,j.T i.b i.T bf⟩
def PN.W{m j:Nat}(h:PN w0 w gb m j nd)(i:One w0 w w' g)(y:gb≠g)(x:m≠g)(u:j≠g):PN w0 w' gb m j nd:=by
 obtain⟨D,⟨V,s,r⟩,q,o⟩:=h;exact⟨D,⟨V,i.obj s y,r.T i.T⟩,q.W i x,o.W i u⟩
section
variable {w0 w w':World}{b bs bn:Nat}{D:SD}{SB NB HB UB:iN}
variable {nd:ar}{i:Nat}
def PS.nat(h:PS w0 w b bs bn D SB NB HB UB)(s:D.N[i]?=nd):∃g m j,NB[i]?=Y g/\HB[i]?=Y m/\UB[i]?=Y j/\PN w0 w g m j nd:=by
 have o:=(bg.1 s).1;obtain⟨g,u⟩:∃y,NB[i]?=Y y:=⟨_,bD (h.vG▸o)⟩;obtain⟨m,r⟩:∃y,HB[i]?=Y y:=⟨_,bD (h.hlen▸o)⟩;obtain⟨j,q⟩:∃y,UB[i]?=Y y:=⟨_,bD (h.vZ▸o)⟩;exact⟨g,m,j,u,r,q,h.qK i nd g m j s u r q⟩
variable {s:aB}
def PS.sat(h:PS w0 w b bs bn D SB NB HB UB)(j:D.E[i]?=s):∃g,SB[i]?=Y g/\PE w0 w g s:=by
 have o:=(bg.1 j).1;obtain⟨g,m⟩:∃y,SB[i]?=Y y:=⟨_,bD (h.ur▸o)⟩;exact⟨g,m,h.vz i s g j m⟩
variable {g:Nat}
def PS.bY8(h:PS w0 w b bs bn D SB NB HB UB)(j:NB[i]?=g):∃nd,D.N[i]?=Y nd:=⟨_,bD (h.vG▸(bg.1 j).1)⟩
def PS.H(h:PS w0 w b bs bn D SB NB HB UB)(N:Bw w w'):PS w0 w' b bs bn D SB NB HB UB:=by
 have x:One w0 w w' (U w.heap):=⟨N.h h.be.size,λz y _=>N.block z y,λcur ty m hc=>absurd (gy hc) (Nat.lt_irrefl _)⟩;have j:∀{z:Nat}{o:Obj},w.heap[z]?=o->z≠U w.heap:=λy e=>aK (gy y);refine⟨h.be.Z (N.h h.be.size),x.obj h.hd (j h.hd),h.ur,?_,λi s g B E=>?_,h.snd,h.vG,h.hlen,h.vZ,?_,λi nd g hh S B E R h2=>?_,h.Fm,h.lo,h.ve⟩;{let⟨M,n,o,r⟩:=h.tJ;let⟨es,c,hm⟩:=ownsMap_at o;exact⟨M,n,x.map o (j hm),r⟩};{have q:=h.vz i s g B E;obtain⟨-,u,R,-⟩:=id q;exact q.W x (j R)};{let⟨M,n,o,r⟩:=h.pX;let⟨es,c,hm⟩:=ownsMap_at o;exact⟨M,n,x.map o (j hm),r⟩};{have q:=h.qK i nd g hh S B E R h2;obtain⟨-,⟨V,Z,-⟩,X,W⟩:=id q;let⟨es,c,m3⟩:=X.at;let⟨IS,c',m4⟩:=W.at;exact q.W x (j Z) (j m3) (j m4)}
variable {l:iN}
def ap7(o:l.Nodup){a c:Nat}(r:l[i]?=a)(q:l[j]?=c)(m:i≠j):a≠c:=λe=>m (dz5 o r (e▸q))
def PS.hu(h:PS w0 w b bs bn D SB NB HB UB):bs≠bn/\(∀z∈HB,z≠bs/\z≠bn)/\(∀z∈UB,z≠bs/\z≠bn)/\HB.Nodup/\UB.Nodup/\∀y∈HB,∀z∈UB,y≠z:=by
 have m:=h.ve;simp only[AL,fU,jd,Hw]at m;obtain⟨⟨x,u,s⟩,⟨r,q⟩,j⟩:=m;rw[Cd]at j;exact⟨x,λz i=>⟨λe=>u (e▸i),λe=>r (e▸i)⟩,λz i=>⟨λe=>s (e▸i),λe=>q (e▸i)⟩,j.1,j.2.1,λy o z i=>j.2.2 y o z i⟩
def PS.Ay(h:PS w0 w b bs bn D SB NB HB UB){s':aB}(hs:D.E[i]?=s)(hg:SB[i]?=Y g)(iO:One w0 w w' g)(hid:s'.1=s.1)(hE:PE w0 w' g s'):PS w0 w' b bs bn {D with E:=D.E.set i s'} SB NB HB UB:=by
 obtain⟨g0,u0,gc,-⟩:=h.vz i s g hs hg;have rE:=(bg.1 hs).1;have nc:∀{z:Nat}{cs:iA}{ty:TypeId},w.heap[z]?=dO cs ty->ty≠97->z≠g:=λhz ht e=>by rw[e,gc]at hz;simp at hz;exact ht hz.2.C
 have nm:∀{z:Nat}{es:Array MapEntry}{c:Nat},w.heap[z]?=Y (.map es c)->z≠g:=λhz e=>by rw[e,gc]at hz;cases hz
 refine⟨h.be.Z iO.b,iO.obj h.hd (nc h.hd bf),by rw[rK];exact h.ur,?_,λj s1 g1 fo dw=>?_,h.snd,h.vG,h.hlen,h.vZ,?_,λj nd gb hh uu fo dw h1 h2=>?_,h.Fm,h.lo,h.ve⟩;{
 let⟨M,n,o,hn,m,hz⟩:=h.tJ;let⟨es,c,hm⟩:=ownsMap_at o;refine⟨M,n,iO.map o (nm hm),hn,?_,by simp only[rK];exact hz⟩;have e:List.zipWith (λ(s:aB)g=>(Lit.U s.1,g)) (D.E.set i s') SB=List.zipWith (λ(s:aB)g=>(Lit.U s.1,g)) D.E SB:=by refine Uk λj=>?_;rw[qL,qL,uE];by_cases ej:i=j;{subst ej;rw[aM rfl,aM rE,hs,hg];simp[hid]};{simp[ej]}
 rw[e];exact m};{simp only[uE]at fo;by_cases ej:i=j;{subst ej;rw[hg]at dw;cases dw;simp[rE]at fo;subst fo;exact hE};{simp[ej]at fo;exact(h.vz j s1 g1 fo dw).W iO (ap7 h.snd dw hg (λe=>ej e.C))}};{let⟨M,n,o,r⟩:=h.pX;let⟨es,c,hm⟩:=ownsMap_at o;exact⟨M,n,iO.map o (nm hm),r⟩};{have q:=h.qK j nd gb hh uu fo dw h1 h2;obtain⟨-,⟨V,q1,-⟩,q3,q4⟩:=id q;let⟨es,c,m3⟩:=q3.at;let⟨IS,c',m4⟩:=q4.at;exact q.W iO (nc q1 bf) (nm m3) (nm m4)}
end
def ei5(E:n<=2097152):dQ dG 347 #[aq,.I n] w λe w'=>∃j o,e=dR (.S j 0 o)/\w'.ownsRow (U w.heap) 119 2 (.S j 0 o) 0 []/\Bw w w':=by
 let⟨i,y,s,M,B⟩:=kx Tryz.infoEv;by_cases h:n=0;{subst h;go_in;go_wp2;go_ret;exact⟨dN,0,rfl,lZ _ _ _ _,aR _ _⟩};{
 have D:=qV 0 n;have x:=Lib.run_append_nil_zeros (P:=dG) w 45 3 45 119 i (.agg #[.I 0,aq]) .i64 .i64 underlying45 underlying3 y s n af af af (by rw[B];omega);have q:=ag x;have r:=am2 w n 0 119;have m:=am1 w n 0 119 jC;generalize grownCap w n 0 119=cc at q r m;go_in;go_wp2_with(at_builtin;refine Lib.wpList_append_run _ rfl _ _ _ _ rfl _ _ rfl rfl _ _ (by exact q) ?_);unfold maxLen at m;go_wp2;go_ret;have u:(Builtin.zeroCells #[Value.int IntKind.i64 0,Value.slice dN 0 0] n++Builtin.zeroCells #[Value.int IntKind.i64 0,Value.slice dN 0 0] (cc-n)).size=cc*2:=by rw[aT5,am0,am0];simp;omega
 exact⟨_,cc,rfl,World.ownsRow_made (base:=U w.heap) (e:=119) (size:=2) w _ cc aA jC u,(aD.alloc aA _).drew⟩}
def cL3(ls:List (List dV))(N:Nat):Prop:=J ls.flatten=N*2
def ab0(w:G)(g:Nat)(vs:List dV)(ls:List (List dV)):Prop:=J vs=J ls/\∀j v l,vs[j]?=Y v->ls[j]?=Y l->I w (Ad g j)=Y v/\(∀u∈l,u.oneCell')/\∃n p c,J l=n*2/\v=.S p n c/\(l=[]\/∃a,p=Y a/\∀i u,l[i]?=Y u->I w (a.add i)=Y u)
def ab0.H(h:ab0 w g vs ls)(m:Bw w w'):ab0 w' g vs ls:=by
 refine⟨h.1,λj v l M E=>?_⟩;let⟨B,y,n,p,c,x,s,r⟩:=h.2 j v l M E;refine⟨al B m,y,n,p,c,x,s,r.imp id λ⟨a,D,q⟩=>⟨a,D,λi u o=>?_⟩⟩;have hc:=q i u o;exact(m.cell (p:=a.add i) (jO w _ hc)).Z hc
variable {l:List dV}
def cw4{k:Nat}(h:ls[k]?=l):(ls.take (k+1)).flatten=(ls.take k).flatten++l:=by
 rw[pZ,h,J1];simp
def ay0(k:Nat):(ls.take k).flatten.length<=J ls.flatten:=by
 have e:ls.flatten=(ls.take k).flatten++(ls.drop k).flatten:=by rw[<-J1,Ic]
 rw[e,dm];omega
theorem eC7(h:ab0 w g vs ls)(hl:J ls.flatten<=2097152)(hk:J ls<=1000):dQ dG 346 #[.T g (J ls) (J ls)] w λe w'=>∃N q r,e=dR (.S q N r)/\cL3 ls N/\w'.ownsRow (U w.heap) 119 2 (.S q N r) N ls.flatten/\Bw w w':=by
 let⟨i,hi,iD,fw,fI⟩:=kx Tryz.infoEv;have V:=gI hi iD fw fI;have HH:=ag λ(w':G)(hb:Bw w w')=>h.H hb;let⟨B,m⟩:=cG (J ls);rw[ae m]at hk⊢;go_in;go_wp2
 go_loopw[3,11](λs i wr=>∃k N:Nat,k<=B/\i=.I k/\s=.I N/\O ((ls.take k).flatten.length=N*2)/\wr=w) (λ_ i _=>B-(intOf i).toNat)
 exact⟨0,0,cO _,rfl,rfl,(by show _=_;simp),rfl⟩;{
 obtain⟨k,N,iK,rfl,rfl,hN,rfl⟩:=hrel;have uP:=ay0 (ls:=ls) k;rw[ae hN]at uP;by_cases aH:k<B;{have cL:=bM k B;obtain⟨l,E⟩:∃l,ls[k]?=Y l:=⟨_,bD (ae m▸aH)⟩;let⟨II,sI⟩:=ae HH _ aD;obtain⟨v,e2⟩:∃v,vs[k]?=Y v:=⟨_,bD (by rw[II,ae m];exact aH)⟩;obtain⟨c1,-,n,p,c,W,rfl,-⟩:=sI k v l e2 E;have X:=cw4 E;have x:=ag (by rw[X,dm,ae hN,W];omega:(ls.take (k+1)).flatten.length=(N+n)*2);have YC:=ay0 (ls:=ls) (k+1);rw[ae x]at YC;go_wp2;go_roundw;exact⟨k+1,N+n,af,by go_num,by go_num,x,by first|rfl|trivial⟩;exact cW};{
 obtain rfl:k=B:=af;have cL:=fq k k;have e9:=ae hN;rw[lY (by rw[ae m];omega)]at e9;have E9:=ag e9;go_wp2_with fail;obtain⟨Z,rfl⟩:=aG wr;refine(ei5 af).h ?_;rintro e w1⟨p1,c1,rfl,o1,au⟩;have O1:=ag o1;have B1:=ag au;go_wp2
 go_loopw[6,27](λv i w2=>∃(j M:Nat)(y:OA)(R:Nat),j<=k/\i=.I j/\v=.S y M R/\O ((ls.take j).flatten.length=M*2)/\O (w2.ownsRow (U Z.heap) 119 2 (.S y M R) M (ls.take j).flatten)/\O (Bw Z w2)) (λ_ i _=>k-(intOf i).toNat)
 exact⟨0,0,p1,c1,cO _,rfl,rfl,(by show _=_;simp),by simpa using O1,B1⟩;{
 obtain⟨j,M,y,R,hj,rfl,rfl,hM,D,o⟩:=hrel;have dX3:=ay0 (ls:=ls) j;rw[ae hM]at dX3;have z2:=o.size;by_cases DY:j<k;{
 have be4:=bM j k;obtain⟨l,E⟩:∃l,ls[j]?=Y l:=⟨_,bD (ae m▸DY)⟩;let⟨II,sI⟩:=ae HH _ o;obtain⟨v,e2⟩:∃v,vs[j]?=Y v:=⟨_,bD (by rw[II,ae m];exact DY)⟩;obtain⟨c2,Yk,n,p,c,W,rfl,nJ⟩:=sI j v l e2 E;have X:=cw4 E;have x:=ag (by rw[X,dm,ae hM,W];omega:(ls.take (j+1)).flatten.length=(M+n)*2);have YC:=ay0 (ls:=ls) (j+1);rw[ae x]at YC;have HS:=ag X;have H3:=ag W;have HO:=ag Yk;cases p with
 |none=>
  obtain rfl:l=[]:=nJ.resolve_right (λ⟨a,ea,_⟩=>by cases ea);obtain rfl:n=0:=by have:=ae H3;simp at this;omega
  have HA:=ag (WH (P:=dG) 45 i underlying45 V.1 c D);go_wp2_with(at_builtin;refine Lib.wpList_append_run _ rfl _ _ _ _ rfl _ _ rfl rfl _ _ (by exact HA) ?_);go_roundw;exact⟨j+1,M,y,R,af,by go_num,rfl,by simpa using x,(by show World.ownsRow _ _ _ _ _ _ _;rw[ae HS];simpa using ae D),o⟩;exact cW
 |some ad=>
  have sG:∀(jj:Nat)(u:dV),l[jj]?=u->I wr (ad.add jj)=u:=by obtain rfl|⟨a,ea,ha⟩:=nJ;{intro jj u hu;simp at hu};{cases ea;exact ha}
  go_wp2_with(at_builtin;refine T9 _ rfl _ _ 45 rfl (U Z.heap) 119 i _ 2 32 underlying45 V.1 V.2.1 V.2.2.1 V.2.2.2 rfl bf _ _ _ rfl D ad n c l rfl H3 sG HO jC af o.size ?_);intro v' w3 cX hg _;have b3:=ag (o.grown hg o.size (λk hk=>(LY D k hk).1));obtain⟨q,r,rfl⟩:∃q r,v'=.S q (M+n) r:=by obtain⟨rfl,h0⟩|⟨g',cap,cur,rfl,-⟩:=cX.2;{exact⟨dN,0,by rw[h0]⟩};{exact⟨_,_,rfl⟩}
  have HW:=ag cX;go_wp2;go_roundw;exact⟨j+1,M+n,q,r,af,by go_num,rfl,x,(by show World.ownsRow _ _ _ _ _ _ _;rw[ae HS];exact ae HW),b3⟩;exact cW};{obtain rfl:j=k:=af;have be4:=fq j j;have e8:=ae D;have e7:=ae hM;rw[lY (by rw[ae m];omega)]at e8 e7;have HE:=bG e8 e7;go_wp2;go_ret;exact⟨M,y,R,rfl,HE.2,HE.1,o⟩}}}}
def Ra(w0 w:G)(e:Ev)(c:List dV):Prop:=∃P,c=[.I e.1,P]/\AB w0 w P e.2/\tG P
def Ra.T{T:List TypeId}(hf:Fr T w w')(ht:5∉T)(e:Ev)(c:List dV)(h:Ra w0 w e c):Ra w0 w' e c:=by
 obtain⟨P,h1,h2,h3⟩:=h;exact⟨P,h1,h2.T hf ht,h3⟩
theorem cw5(i:∀c∈cs,J c=2):J cs.flatten=J cs*2:=by
 induction cs with
 |nil=>rfl
 |cons c r ih=>rw[tW,dm,i c aj,ih (λd j=>i d (by simp[j])),kJ];omega
theorem AQ.cells{c:Nat}(h:AQ w0 w (.S p n c) es):n=J es/\∃cs:List (List dV),J cs=J es/\(∀c∈cs,J c=2)/\(∀(i:Nat)(e:Ev)(c:List dV),es[i]?=Y e->cs[i]?=Y c->Ra w0 w e c)/\(cs.flatten=[]\/∃a,p=Y a/\∀i u,cs.flatten[i]?=Y u->I w (a.add i)=Y u):=by
 obtain⟨V,W,e,h⟩:=h;obtain⟨rfl,N,rfl⟩:=jJ e;refine⟨N,?_⟩;obtain rfl|⟨b,o,rfl,-,h⟩:=h;{exact⟨[],rfl,λc hc=>by simp at hc,λi e c he=>by simp at he,.L rfl⟩};{
 have key:∀(es:List Ev)(o:Nat),(∀i e,es[i]?=Y e->I w (Ad b (o+i*2))=dI e.1/\∃u,I w (Ad b (o+i*2+1))=Y u/\AB w0 w u e.2/\tG u)->∃cs:List (List dV),J cs=J es/\(∀c∈cs,J c=2)/\(∀(i:Nat)(e:Ev)(c:List dV),es[i]?=Y e->cs[i]?=Y c->Ra w0 w e c)/\∀i u,cs.flatten[i]?=Y u->I w (Ad b (o+i))=Y u:=by
  intro es
  induction es with
  |nil=>intro o h;exact⟨[],rfl,λc hc=>by simp at hc,λi e c he=>by simp at he,λi u m=>by simp at m⟩
  |cons e r ih=>
   intro o h;let⟨cs,y,x,s,q⟩:=ih (o+2) (λi e he=>by have:=h (i+1) e (by simpa using he);rw[show o+(i+1)*2=o+2+i*2 by omega]at this;exact this)
   let⟨M,u,E,D,B⟩:=h 0 e rfl;refine⟨[.I e.1,u]::cs,by simp[y],λc hc=>?_,λi R c he hc=>?_,λi v j=>?_⟩;{obtain rfl|hc:=fU.1 hc;{rfl};{exact x c hc}};{
 cases i with
 |zero=>simp at he hc;subst he hc;exact⟨u,rfl,D,B⟩
 | succ i=>exact s i R c (by simpa using he) (by simpa using hc)}
   {
 match i,j with
 |0,j=>simp at j;subst j;simpa using M
 |1,j=>simp at j;subst j;simpa using E
 |i+2,j=>
  have:=q i v (by simpa using j);rw[show o+(i+2)=o+2+i by omega];exact this}
 let⟨cs,y,x,s,q⟩:=key es o h;exact⟨cs,y,x,s,.R ⟨_,rfl,λi u m=>by rw[Fx];exact q i u m⟩⟩}
def AQ.dx9(h:RT (Ra w0) 119 2 B w v es):AQ w0 w v es:=by
 obtain⟨p,c,rfl,-,-,q⟩:=RT.form h;refine⟨p,c,rfl,?_⟩;by_cases o:es=[];{exact .L o};{obtain⟨g,rfl⟩:=q (Pb.2 o);let⟨j,hc⟩:=h.vr g rfl;refine .R ⟨g,0,rfl,.R ⟨j,_,hc⟩,λi e he=>?_⟩;obtain⟨cs,-,⟨P,rfl,s,r⟩,m,-⟩:=RT.at h he;rw[mO];exact⟨m 0 _ rfl,P,m 1 _ rfl,s,r⟩}
def du0(h:PE w0 w g s):∃i q,w.heap[g]?=dO #[.U s.1,.I s.2.1,.S i (J s.2.2) q] 97/\AQ w0 w (.S i (J s.2.2) q) s.2.2/\(∀o,w.frozen? (Ad g o)=dF):=by
 obtain⟨-,u,m,j⟩:=h;obtain⟨p,c,rfl,r⟩:=id j;exact⟨p,c,m,j,λo=>by simp[World.frozen?,m]⟩
def cu5{i:G}(E:Bw w0 w)(D:PE w0 w g s)(j:Bw w i)(hq:AQ w0 i v' q'):One w0 w (i.setCell (Ad g 2) v') g/\PE w0 (i.setCell (Ad g 2) v') g (s.1,s.2.1,q'):=by
 obtain⟨r,u,o,R⟩:=D;have q:=(j.block g (gy o)).Z o;have f:Fr [97] i (i.setCell (Ad g 2) v'):=Fr.set q aj;have x:Below (U w0.heap) i (i.setCell (Ad g 2) v'):=aD.setCell (p:=(Ad g 2)) r _;refine⟨⟨(j.h E.size).Z x,λz y M=>(fT _ _ _ _ M).Z (j.block z y),λcur N m hc=>?_⟩,r,v',by simp[World.setCell,AK,q],hq.T x f bf⟩;rw[o]at hc;simp at hc;simp[<-hc.2.1]
theorem cD5{pq pe:OA}{nq X M:Nat}(hQ:AQ w0 w (.S pq nq X) es)(hv:AB w0 w Pv ev.2)(hc:tG Pv)(hn:nq<=1000)(h0:I w (Ad z 0)=dS pq nq X)(h1:I w (Ad z 1)=dK M 1 1)(k0:I w (Ad M 0)=dI ev.1)(k1:I w (Ad M 1)=Pv):Cp 346 #[.T z 2 2] w λr w'=>∃V Z,r=dR (.S V (nq+1) Z)/\AQ w0 w' (.S V (nq+1) Z) (es++[ev])/\Bw w w':=by
 let⟨en,cs,R,g2,g3,g4⟩:=hQ.cells;have Yk:Pv.oneCell':=by obtain⟨_,_,_,rfl,-⟩:=hc;rfl
 have hf:=cw5 g2;have hPE:ab0 w z [.S pq nq X,.T M 1 1] [cs.flatten,[.I ev.1,Pv]]:=by
  refine⟨rfl,λj v l s q=>?_⟩
  match j,s,q with
  |0,s,q=>
   simp at s q;subst s q;refine⟨h0,λu m=>?_,nq,pq,X,by rw[hf,R,en],rfl,g4⟩;let⟨l,hl,E⟩:=DD.1 m;let⟨i,W⟩:=jk.1 hl;obtain⟨e,he⟩:∃e,es[i]?=Y e:=⟨_,bD (R▸(bg.1 W).1)⟩;obtain⟨P,rfl,-,⟨_,_,_,rfl,-⟩⟩:=g3 i e l he W;simp at E;obtain rfl|rfl:=E<;>rfl
  |1,s,q=>
   simp at s q;subst s q;refine⟨h1,λu m=>?_,1,Y (Ad M 0),1,rfl,rfl,.R ⟨_,rfl,λi u m=>?_⟩⟩;{simp at m;obtain rfl|rfl:=m;{rfl};{exact Yk}};{
 rw[Fx,mO]
 match i,m with
 |0,m=>simp at m;subst m;exact k0
 |1,m=>simp at m;subst m;exact k1}
 have uP:([cs.flatten,[.I ev.1,Pv]]:List (List dV)).flatten=(cs++[[.I ev.1,Pv]]).flatten:=aj;have o:([cs.flatten,[.I ev.1,Pv]]:List (List dV)).flatten.length=(nq+1)*2:=by
  rw[uP,cw5 (λc hc=>by obtain hc|hc:=jd.1 hc;{exact g2 c hc};{simp at hc;subst hc;rfl}),dm,R,<-en]
  rfl
 refine(eC7 hPE (by rw[o];omega) aj).h ?_;rintro r w'⟨N,V,Z,rfl,hN,ho,hb⟩;have eN:N=nq+1:=by unfold cL3 at hN;rw[o]at hN;omega
 subst eN;refine⟨V,Z,rfl,AQ.dx9 (B:=U w.heap) ⟨cs++[[.I ev.1,Pv]],by simp[R],λc hc=>?_,?_,λi y c x D=>?_⟩,hb⟩;{obtain hc|hc:=jd.1 hc;{exact g2 c hc};{simp at hc;subst hc;rfl}};{rw[<-uP,dm,<-en];exact ho};{
 have gP:Fr [] w w':=Fr.H hb;by_cases W:i<J es;{rw[mj W]at x;rw[mj af]at D;exact Ra.T gP aj _ _ (g3 i y c x D)};{
 have ei:i=J es:=by have:=(bg.1 x).1;simp at this;omega
 subst ei;rw[pI aA,xL]at x;rw[pI af,R,xL]at D;simp at x D;subst x D;exact⟨Pv,rfl,hv.T gP aj,hc⟩}}
variable {cs:iA}
def One.ofB(s:Bw w0 w)(i:Bw w w')(q:w.heap[g]?=dO cs ty)(o:ty∈[97,186,181]):One w0 w w' g:=by
 refine⟨i.h s.size,λz j _=>i.block z j,λr u m hc=>?_⟩;rw[q]at hc;simp at hc;rw[<-hc.2.1];exact o
def PE.H(h:PE w0 w g s)(q:Bw w0 w)(i:Bw w w'):PE w0 w' g s:=by
 obtain⟨o,u,j,m⟩:=h;exact⟨o,u,(i.block g (gy j)).Z j,m.T (i.h q.size) (bH i) aj⟩
def ei6(w:G)(y:Nat)(s:aB)(K:Int)(P:LI)(pe:OA)(X ce:Nat)(be:O (Bw w0 w))(hE:O (PE w0 w y s))(hP:O (AB w0 w (.S pe X ce) P))(hc:O (tG (.S pe X ce)))(hq:J s.2.2<=1000):dQ dG 345 #[Pz y,.agg #[.I K,.S pe X ce]] w λr w'=>One w0 w w' y/\PE w0 w' y (s.1,s.2.1,tS s.2.2 (K,P))/\∃v,r=dR v:=by
 let⟨pq,cq,gc,hQ,gf⟩:=du0 hE;let⟨nq,CF⟩:=cG (J s.2.2);rw[ae CF]at gc hQ hq;have c2:I w (Ad y 2)=dS pq nq cq:=cK gc 2;have rR:y<U w.heap:=gy gc;let⟨W0,M,b0,z0,C0,T0⟩:=bQ w #[.I K,.S pe X ce] 119;have HC0:=ag C0;have B0:=ag b0;have HQ:=ag (hQ.T (b0.h be.size) (bH b0) aj);have HP0:=ag (hP.T (bH b0) aj);have c2a:=λ(ob:Obj)=>al c2 ((aR (U w.heap) w).alloc aA ob);have c2w:=ag c2;have gfw:=ag gf;clear C0 b0 T0 hQ gf;go_in;have HGC:=ag gc;clear gc;by_cases h7:nq<7;{
 have h7':(nq:Int)<7:=af;have PX:tS s.2.2 (K,P)=s.2.2++[(K,P)]:=by rw[tS,ae CF,aM h7]
 rw[PX];go_wp2_with fail;rw[<-M];clear M c2a PX;let⟨vA,dr⟩:=aG W0.drew;have cR:=lG dr;have BA:=ag cR;have m:=ag (λ(v:G)(hv:Bw W0 v)=>aF (aF (al (HC0.1 0 _ rfl) hv) (al (HC0.1 1 _ rfl) hv)) (aF (al c2w (ai (ae B0) hv)) (aF (HQ.T ((al8 hv (by have:=B0.size;have:=be.size;omega))) (bH hv) aj) (aF (HP0.T (bH hv) aj) (ai (ae B0) hv)))));refine fk (λw'=>I w' (Aw w 0)=dI K/\I w' (Aw w 1)=dS pe X ce) (dr▸(ae m vA cR).1) λhS=>?_;rw[<-dr]at hS⊢;clear dr cR;refine iC 0 1 2 3 hS ?_;refine tn 5 hS ?_;refine ry [4,6] ?_;refine cn (λj hK=>?_) ?_;rotate_left;refine cn (λj hK=>?_) ?_;rotate_left;exact fg;have cq:=(ae m vA BA).2.1;go_simp;refine bL hK (by exact(ae m vA BA).1) λhS=>?_;clear hK j cq;refine ry [6] ?_;refine cn (λj hK=>?_) ?_;rotate_left;exact fg;rotate_right;go_simp;obtain⟨Z,q,N,zZ,V,-⟩:=bQ vA #[.I K,.S pe X ce] 119;rw[<-q];have B1:=ag (ai BA N);have xz:=ag V;refine bL hK (by exact(ae m Z B1).1) λhS=>?_;clear hK j q N V;rotate_left;go_simp;obtain⟨Z,q,N,zZ,V,-⟩:=bQ vA #[.I K,.S pe X ce] 119;rw[<-q];have B1:=ag (ai BA N);have xz:=ag V;refine bL hK (by exact(ae m Z B1).1) λhS=>?_;clear hK j q N V;refine ry [4] ?_;refine cn (λj hK=>?_) ?_;rotate_left;exact fg;rotate_right;have cq:=(ae m Z B1).2.1;go_simp;refine bL hK (by exact(ae m Z B1).1) λhS=>?_;clear hK j cq
 all_goals(
  refine ry [7] ?_;refine cn (λj hK=>?_) ?_;rotate_left;exact fg;rotate_right;go_simp;obtain⟨iY,D,bY,zY,W,-⟩:=bQ Z #[.S pq nq cq,.T (U vA.heap) 1 1] 45;rw[<-D];rw[zZ]at W;have B2:=ag (ai B1 bY);have x:=bG W (xz.H af bY);refine bL hK (by exact(ae m iY B2).1) λhS=>?_;clear hK j D bY W;refine ry [8] ?_;refine cn (λj hK=>?_) ?_;rotate_left;exact fg;rotate_right;refine jg (cD5 (ev:=(K,P)) (pe:=pe) (ae m iY B2).2.2.1 (ae m iY B2).2.2.2.1 hc hq (x.1.1 0 _ rfl) (x.1.1 1 _ rfl) (x.2.1 0 _ rfl) (x.2.1 1 _ rfl)) ?_;rintro r w5⟨p',c',rfl,Yi,cY⟩;refine⟨_,rfl,?_⟩;have B5:=ag (ai B2 cY);have Sr:=ag Yi;refine bL hK (by exact(ae m w5 B5).1) λhS=>?_;clear hK j Yi cY;refine fO 9 10 hS ?_;refine ry [11] ?_;refine cn (λj hK=>?_) ?_;rotate_left;exact fg;rotate_right;obtain⟨-,c25,-,-,ZS⟩:=ae m w5 B5;have f25:=(ZS.frozen (p:=(Ad y 2)) rR).Z (ae gfw 2);have BW5:=ag ZS;clear ZS;go_simp;have iG:=ag (cu5 be hE BW5 Sr);have kS:∀o,I (w5.setCell (Ad y 2) (.S p' (nq+1) c')) (Aw w o)=I w5 (Aw w o):=λo=>gj (fT _ _ _ _ (by show U w.heap≠y;omega)) _;refine bL hK (by exact⟨(kS 0).Z hS.1,(kS 1).Z hS.2⟩) λhS=>?_;clear hK j c25 f25 kS;refine fy ?_;clear hS;go_wp2;go_end0;exact⟨iG.1,iG.2,_,rfl⟩)}
 {
 have h7':¬(nq:Int)<7:=af;by_cases h8:nq=7;{
 have PX:tS s.2.2 (K,P)=s.2.2++[(4,[])]:=by rw[tS,ae CF,aL h7,aM h8]
 rw[PX];have QN:((nq:Int)==7):=by simp;omega
 obtain⟨Z,q,N,zZ,V,-⟩:=bQ W0 #[.I 4,aq] 119;obtain⟨iY,D,bY,zY,W,-⟩:=bQ Z #[.S pq nq cq,.T (U W0.heap) 1 1] 45;have BY:=ag (ai N bY);have x:=bG W (V.H af bY);have QY:=ag (HQ.T (BY.h (by have:=B0.size;have:=be.size;omega)) (bH BY) aj);have c2b:=λ(ob oc:Obj)=>al (c2a ob) (aD.alloc aA oc);rw[zZ]at W x;have HW:=du M q D;rw[z0]at x zZ W;clear W V M q D N bY PX h7 h8;go_wp2_with fail;let⟨M,q,D⟩:=ae HW;rw[z0]at D;rw[<-M,<-q,<-D];clear M q D HW c2a c2b;refine(cD5 (w:=iY) (ev:=(4,[])) (pe:=dN) QY (.R (TB.nil _)) ⟨dN,0,0,rfl,eG _,cO _⟩ hq (x.1.1 0 _ rfl) (x.1.1 1 _ rfl) (x.2.1 0 _ rfl) (x.2.1 1 _ rfl)).h ?_;rintro r w5⟨p',c',rfl,Yi,cY⟩;have ld:=ag (ai (ai B0 BY) cY);have c25:=al c2w ld;have f25:=(ld.frozen (p:=(Ad y 2)) rR).Z (ae gfw 2);have iG:=ag (cu5 be hE ld Yi);clear Yi cY;go_wp2;go_end0;exact⟨iG.1,iG.2,_,rfl⟩};{
 have PX:tS s.2.2 (K,P)=s.2.2:=by rw[tS,ae CF,aL h7,aL h8]
 rw[PX];have QN:((nq:Int)==7)=dF:=by simp;omega
 go_wp2;go_end0;rw[<-M];exact⟨One.ofB be B0 HGC aj,hE.H be B0,_,rfl⟩}}
def pR.same{l o:List (Lit×Nat)}(h:pR D l)(j:∀p,p∈o↔p∈l):pR D o:=by
 refine⟨λk=>?_,λp i z=>h.at' p ((j p).1 i) z⟩;rw[h.hs k];exact⟨λ⟨p,i,m⟩=>⟨p,(j p).2 i,m⟩,λ⟨p,i,m⟩=>⟨p,(j p).1 i,m⟩⟩
def pR.del{l:List (Lit×Nat)}(h:pR D l){k:Lit}(u:l[i]?=Y (k,g))(y:∀(j:Nat)(p:Lit×Nat),l[j]?=Y p->p.1=k->j=i):pR (D.del k) (l.eraseIdx i):=by
 have q:∀p,p∈l.eraseIdx i↔p∈l/\p.1≠k:=λp=>by rw[cb3];constructor;{rintro⟨j,o,e⟩;exact⟨bu e,λr=>o (y j p e r)⟩};{rintro⟨m,M⟩;let⟨j,o⟩:=jk.1 m;refine⟨j,λe=>M ?_,o⟩;subst e;rw[u]at o;cases o;rfl}
 refine⟨λs=>?_,λp m z=>?_⟩;{by_cases e:s=k;{subst e;rw[has_del_same];constructor;{intro x;cases x};{rintro⟨p,m,r⟩;exact absurd r ((q p).1 m).2}};{rw[has_del_other e,h.hs s];constructor;{rintro⟨p,m,rfl⟩;exact⟨p,(q p).2 ⟨m,e⟩,rfl⟩};{rintro⟨p,m,rfl⟩;exact⟨p,((q p).1 m).1,rfl⟩}}};{let⟨E,B⟩:=(q p).1 m;rw[atKey_del_other B];exact h.at' p E z}
theorem aG9{α β γ:Type}(f:α->β->γ):∀(l:List α)(m:List β)(i:Nat),J l=J m->List.zipWith f (l.eraseIdx i) (m.eraseIdx i)=(List.zipWith f l m).eraseIdx i
 |[],[],i,_=>aj
 |a::l,c::m,0,_=>aj
 |a::l,c::m,i+1,h=>by simp[aG9 f l m i (by simpa using h)]
section
variable {w0 w w':World}{b bs bn:Nat}{D:SD}{SB NB HB UB:iN}
variable {nd:ar}{i:Nat}
def PS.aJ0(h:PS w0 w b bs bn D SB NB HB UB){hh uu:Nat}{nd':ar}(hi:D.N[i]?=nd)(hg:NB[i]?=Y g)(iS:HB[i]?=hh)(iV:UB[i]?=uu)(hz:z=g\/z=hh\/z=uu)(iO:One w0 w w' z)(hp:nd'.A=nd.A)(hN:PN w0 w' g hh uu nd'):PS w0 w' b bs bn {D with N:=D.N.set i nd'} SB NB HB UB:=by
 obtain⟨-,⟨V0,gc,-⟩,q3,q4⟩:=h.qK i nd g hh uu hi hg iS iV;let⟨es3,c3,m3⟩:=q3.at;let⟨es4,c4,m4⟩:=q4.at;let⟨d0,d1,d2,d3,d4,d5⟩:=h.hu;have rE:=(bg.1 hi).1;have hhm:=bu iS;have hum:=bu iV;have nc:∀{y:Nat}{cs:iA}{ty:TypeId},w.heap[y]?=dO cs ty->(ty≠186\/y≠g)->y≠z:=λ{y cs ty}hy ht e=>by obtain rfl|rfl|rfl:=hz;{obtain ht|ht:=ht;{rw[e,gc]at hy;simp at hy;exact ht hy.2.C};{exact ht e}};{rw[e,m3]at hy;cases hy};{rw[e,m4]at hy;cases hy}
 have nm:∀{y:Nat}{es:Array MapEntry}{c:Nat},w.heap[y]?=Y (.map es c)->y≠hh->y≠uu->y≠z:=λ{y es c}hy h1 h2 e=>by obtain rfl|rfl|rfl:=hz;{rw[e,gc]at hy;cases hy};{exact h1 e};{exact h2 e}
 refine⟨h.be.Z iO.b,iO.obj h.hd (nc h.hd (.L bf)),h.ur,?_,λj s1 g1 fo dw=>?_,h.snd,by rw[rK];exact h.vG,by rw[rK];exact h.hlen,by rw[rK];exact h.vZ,?_,λj gQ gb h1 u1 fo dw nG jP=>?_,h.Fm,h.lo,h.ve⟩;{let⟨M,n,o,r⟩:=h.tJ;let⟨es,c,hm⟩:=ownsMap_at o;exact⟨M,n,iO.map o (nm hm (λe=>(d1 _ hhm).1 e.C) (λe=>(d2 _ hum).1 e.C)),r⟩};{have q:=h.vz j s1 g1 fo dw;obtain⟨-,u,h1,-⟩:=id q;exact q.W iO (nc h1 (.L bf))};{
 let⟨M,n,o,hn,m,hs⟩:=h.pX;let⟨es,c,hm⟩:=ownsMap_at o;refine⟨M,n,iO.map o (nm hm (λe=>(d1 _ hhm).2 e.C) (λe=>(d2 _ hum).2 e.C)),hn,?_,by simp only[rK];exact hs⟩;have e:List.zipWith (λ(nd:ar)g=>(di nd.A,g)) (D.N.set i nd') NB=List.zipWith (λ(nd:ar)g=>(di nd.A,g)) D.N NB:=by refine Uk λj=>?_;rw[qL,qL,uE];by_cases ej:i=j;{subst ej;rw[aM rfl,aM rE,hi,hg];simp[hp]};{simp[ej]}
 rw[e];exact m};{simp only[uE]at fo;by_cases ej:i=j;{subst ej;rw[hg]at dw;rw[iS]at nG;rw[iV]at jP;cases dw;cases nG;cases jP;simp[rE]at fo;subst fo;exact hN};{simp[ej]at fo;have q:=h.qK j gQ gb h1 u1 fo dw nG jP;obtain⟨-,⟨V,q1,-⟩,p3,p4⟩:=id q;let⟨es,c,m5⟩:=p3.at;let⟨IS,c',m6⟩:=p4.at;have ej':¬j=i:=λe=>ej e.C;exact q.W iO (nc q1 (.R (ap7 h.Fm dw hg ej'))) (nm m5 (ap7 d3 nG iS ej') (d5 _ (bu nG) _ hum)) (nm m6 (λe=>d5 _ hhm _ (bu jP) e.C) (ap7 d4 jP iV ej'))}}
def PS.aJ1(h:PS w0 w b bs bn D SB NB HB UB)(m:One w0 w w' b)(e g x t:Int)(hd:w'.heap[b]?=dO #[.U e,.U g,.U x,.I t,.map bs,.map bn] 181):PS w0 w' b bs bn ⟨e,g,x,t,D.E,D.N⟩ SB NB HB UB:=by
 have S:∀{y:Nat}{cs:iA}{B:TypeId},w.heap[y]?=dO cs B->B≠181->y≠b:=λ{y cs B}i ht e=>by rw[e,h.hd]at i;simp at i;exact ht i.2.C
 have s:∀{y:Nat}{es:Array MapEntry}{c:Nat},w.heap[y]?=Y (.map es c)->y≠b:=λ{y es c}i e=>by rw[e,h.hd]at i;cases i
 refine⟨h.be.Z m.b,hd,h.ur,?_,λj X g1 N R=>?_,h.snd,h.vG,h.hlen,h.vZ,?_,λj nd gb hh W N R E h2=>?_,h.Fm,h.lo,h.ve⟩;{let⟨M,n,o,r⟩:=h.tJ;let⟨es,c,hm⟩:=ownsMap_at o;exact⟨M,n,m.map o (s hm),r⟩};{have q:=h.vz j X g1 N R;obtain⟨-,u,E,-⟩:=id q;exact q.W m (S E bf)};{let⟨M,n,o,r⟩:=h.pX;let⟨es,c,hm⟩:=ownsMap_at o;exact⟨M,n,m.map o (s hm),r⟩};{have q:=h.qK j nd gb hh W N R E h2;obtain⟨-,⟨V,q1,-⟩,q3,Z⟩:=id q;let⟨es,c,m3⟩:=q3.at;let⟨IS,c',m4⟩:=Z.at;exact q.W m (S q1 bf) (s m3) (s m4)}
theorem PS.ez1(h:PS w0 w b bs bn D SB NB HB UB)(hi:D.N[i]?=nd)(iO:One w0 w w' bn)(hd:∀(j:Nat)(z:ar),D.N[j]?=z->di z.A=di nd.A->j=i)(hM:∀M n,w.ownsMap dG 9 iF bn n M->w'.ownsMap dG 9 iF bn n (M.del (di nd.A))):PS w0 w' b bs bn {D with N:=D.N.eraseIdx i} SB (NB.eraseIdx i) (HB.eraseIdx i) (UB.eraseIdx i):=by
 obtain⟨g,hh,uu,hg,iS,iV,-⟩:=h.nat hi;let⟨d0,d1,d2,d3,d4,d5⟩:=h.hu;let⟨M,n,o,hn,m,hs⟩:=h.pX;let⟨es0,c0,m0⟩:=ownsMap_at o;have rE:=(bg.1 hi).1;have nc:∀{y:Nat}{cs:iA}{ty:TypeId},w.heap[y]?=dO cs ty->y≠bn:=λ{y cs ty}hy e=>by rw[e,m0]at hy;cases hy
 have hz:(List.zipWith (λ(nd:ar)g=>(di nd.A,g)) D.N NB)[i]?=Y (di nd.A,g):=by rw[qL,hi,hg]
 have hdz:∀(j:Nat)(p:Lit×Nat),(List.zipWith (λ(nd:ar)g=>(di nd.A,g)) D.N NB)[j]?=Y p->p.1=di nd.A->j=i:=λj p hj e=>by
  rw[qL]at hj;cases ha:D.N[j]? with
  |none=>rw[ha]at hj;cases hj
  | some a=>
   cases hc:NB[j]? with
   |none=>rw[ha,hc]at hj;cases hj
   |some c=>
    rw[ha,hc]at hj;cases hj;exact hd j a ha e
 have el:∀{l:iN},J l=J D.N->J (l.eraseIdx i)=J (D.N.eraseIdx i):=λhl=>by rw[Pj,Pj,hl]
 refine⟨h.be.Z iO.b,iO.obj h.hd (nc h.hd),h.ur,?_,λj s1 g1 fo dw=>?_,h.snd,el h.vG,el h.hlen,el h.vZ,⟨_,n,hM M n o,hn,?_,?_⟩,λj gQ gb h1 u1 fo dw nG jP=>?_,h.Fm.sublist (Ph _ _),h.lo,?_⟩;{let⟨M,n,o,r⟩:=h.tJ;exact⟨M,n,iO.map o d0,r⟩};{have q:=h.vz j s1 g1 fo dw;obtain⟨-,u,h1,-⟩:=id q;exact q.W iO (nc h1)};{rw[aG9 _ _ _ _ h.vG.C];exact m.del hz hdz};{have Qp:Maps.has M (di nd.A):=(m.hs _).2 ⟨_,bu hz,rfl⟩;have:=size_del (k:=di nd.A) (ak5 o ru);rw[Qp]at this;simp only[od]at this;simp only[Pj,rE,od];omega};{
 rw[aU8]at fo dw nG jP;obtain⟨j',vP,dt,hh2,yZ⟩:∃j',D.N[j']?=Y gQ/\NB[j']?=Y gb/\HB[j']?=Y h1/\UB[j']?=Y u1:=by by_cases hj:j<i;{rw[aM hj]at fo dw nG jP;exact⟨j,fo,dw,nG,jP⟩};{rw[aL hj]at fo dw nG jP;exact⟨j+1,fo,dw,nG,jP⟩}
 have q:=h.qK j' gQ gb h1 u1 vP dt hh2 yZ;obtain⟨-,⟨V,q1,-⟩,p3,p4⟩:=id q;exact q.W iO (nc q1) (d1 _ (bu hh2)).2 (d2 _ (bu yZ)).2};{exact h.ve.sublist (((Ph HB i).append (Ph UB i)).cons_cons bn |>.cons_cons bs)}
variable {s:aB}
theorem PS.ez0(h:PS w0 w b bs bn D SB NB HB UB)(hi:D.E[i]?=s)(iO:One w0 w w' bs)(hd:∀(j:Nat)(z:aB),D.E[j]?=z->z.1=s.1->j=i)(hM:∀M n,w.ownsMap dG 27 iF bs n M->w'.ownsMap dG 27 iF bs n (M.del (.U s.1))):PS w0 w' b bs bn {D with E:=D.E.eraseIdx i} (SB.eraseIdx i) NB HB UB:=by
 obtain⟨g,hg,-⟩:=h.sat hi;let⟨d0,d1,d2,d3,d4,d5⟩:=h.hu;let⟨M,n,o,hn,m,hs⟩:=h.tJ;let⟨es0,c0,m0⟩:=ownsMap_at o;have rE:=(bg.1 hi).1;have nc:∀{y:Nat}{cs:iA}{ty:TypeId},w.heap[y]?=Y (dO cs ty)->y≠bs:=λ{y cs ty}hy e=>by rw[e,m0]at hy;cases hy
 have hz:(List.zipWith (λ(s:aB)g=>(Lit.U s.1,g)) D.E SB)[i]?=Y (.U s.1,g):=by rw[qL,hi,hg]
 have hdz:∀(j:Nat)(p:Lit×Nat),(List.zipWith (λ(s:aB)g=>(Lit.U s.1,g)) D.E SB)[j]?=Y p->p.1=.U s.1->j=i:=λj p hj e=>by
  rw[qL]at hj;cases ha:D.E[j]? with
  |none=>rw[ha]at hj;cases hj
  | some a=>
   cases hc:SB[j]? with
   |none=>rw[ha,hc]at hj;cases hj
   |some c=>
    rw[ha,hc]at hj;cases hj;exact hd j a ha (by simpa using e)
 refine⟨h.be.Z iO.b,iO.obj h.hd (nc h.hd),by rw[Pj,Pj,h.ur],⟨_,n,hM M n o,hn,?_,?_⟩,λj s1 g1 fo dw=>?_,h.snd.sublist (Ph _ _),h.vG,h.hlen,h.vZ,?_,λj gQ gb h1 u1 fo dw nG jP=>?_,h.Fm,h.lo,h.ve⟩;{rw[aG9 _ _ _ _ h.ur.C];exact m.del hz hdz};{have Qp:Maps.has M (.U s.1):=(m.hs _).2 ⟨_,bu hz,rfl⟩;have:=size_del (k:=.U s.1) (ak5 o mr);rw[Qp]at this;simp only[od]at this;simp only[Pj,rE,od];omega};{
 rw[aU8]at fo dw;obtain⟨j',vP,dt⟩:∃j',D.E[j']?=Y s1/\SB[j']?=Y g1:=by by_cases hj:j<i;{rw[aM hj]at fo dw;exact⟨j,fo,dw⟩};{rw[aL hj]at fo dw;exact⟨j+1,fo,dw⟩}
 have q:=h.vz j' s1 g1 vP dt;obtain⟨-,u,h1,-⟩:=id q;exact q.W iO (nc h1)};{let⟨M,n,o,r⟩:=h.pX;exact⟨M,n,iO.map o (λe=>d0 e.C),r⟩};{have q:=h.qK j gQ gb h1 u1 fo dw nG jP;obtain⟨-,⟨V,q1,-⟩,p3,p4⟩:=id q;exact q.W iO (nc q1) (d1 _ (bu nG)).1 (d2 _ (bu jP)).1}
end
end Go.Proofs.YtdloolggnjjfoaaGreatDoor
