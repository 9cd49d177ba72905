import Derived.Test.YthlkmijffhhimaaGreatDoorK8
open Array renaming size->U
open Bool renaming false->dF,true->dY
open Decidable renaming decide->dD
open Go renaming undef->jQ,Calls->dQ,Value->dV,World->G
open Go.Ending renaming returned->dR
open Go.IntKind renaming u64->jU,i64->jV,wrap->jY
open Go.Obj renaming cells->dO
open Go.Proofs.Tryz renaming prog->dG
open Go.RowKit renaming Hid->O
open Go.Value renaming ownBlock->jB,string->jJ,int->jK,bool->jO,agg->jP,I->dI,T->dK,S->dS,tuple->dT,U->dU
open Go.World renaming alloc->jA,frozen?->jF,grownBy->jG,heap->Q,setCell->jS,cell?->I
open Int renaming toNat->jN
open List renaming drop->jD,getD->jE,flatten->jL,range->jR,take->jT,length->J
open Option renaming none->dN,some->Y
namespace Go.Proofs.YthlkmijffhhimaaGreatDoor
set_option maxHeartbeats 25600000
set_option linter.all false
set_option maxRecDepth 100000
open Go.ChangeShapes Go.WideShapes Go.ChangeAt Go.RowKit Go.Maps Go.Proofs.Tryz
variable {l V P lm l0 l1 l2 l3 l4 m':LI}{ops:iQ}{rest:List Oper}{a:Act}{B M N nl k c sz B' b bs bn n z np cp nv cv m d s L' b2:Nat}{v v0 v1 v2 v3 v4 v5 v6 v7:dV}{ls xs L:List LI}{Ls:List (List Lf)}{A lb A1 A2:List Lf}{p pp pq q p2:OA}{ty t1 t2:TypeId}{w0 w' u X:G}{R:RP}{g i e K S F E iG C x t y a':Int}{D:SD}{es:List Ev}{fn:Func}{ss:List aB}{ns:List au}{nd:au}{vs cs Qs row:List dV}{t':Bool}{om o o' vh:Option LI}{c2 c1:iA}
theorem dh6(h:vp l):0<J l/\jE l 0 0=47:=by
 cases l with
 |nil=>simp[vp,st]at h
 |cons c t=>
  rw[vp,st,gP]at h;exact⟨al,by simpa using h.1⟩
def GK(w:G)(x:LI)(c:List dV)(l:List Lf):Prop:=∃p i,c=[.S p (J x) i]/\Rd w (.S p (J x) i) x/\oz (.S p (J x) i) x l
theorem GK.W(w w':G)(x:LI)(c:List dV)(l:List Lf)(h:GK w x c l)(j:∀a∈l,w'.heap[a.b]?=w.heap[a.b]?):GK w' x c l:=by
 obtain⟨p,q,o,m,i⟩:=h;exact⟨p,q,o,m.kR i j,i⟩
theorem df7{w:G}{o:Oper}{iZ:iE}(ik:o.guard=dN){s x:Operand}(ho:o.op=.call {callee:=.builtin .append,args:=#[s,x],argTypes:=#[47,47]})(el:Le l nl)(ek:Le ls k)(hs:a.eval s=v)(dw:fG GK 22 1 B w v ls Ls){g:Nat}(hx:a.eval x=.T g 1 1)(hP:PB w M N (.S p nl c) l A)(sV:I w (Ad g 0)=dS p nl c)(hBM:B<=M)(hM:(∀b,jB v=Y b->b<M)/\∀a∈jL Ls,a.b<M)(hk:k<2^22)(hB:B<=U (Q w))(h:∀p' c' w',fG GK 22 1 B w' (.S p' (k+1) c') (ls++[l]) (Ls++[A])->jG w w' (jB v)->wpList dG ops iZ rest (a.put o.dst (.S p' (k+1) c')) w'):wpList dG ops iZ (o::rest) a w:=by
 let⟨i,hi,jk,fI,gv⟩:=mJ Tryz.infoSl;obtain⟨cs,h1,h2,h3,h4,h5,h6,h7⟩:=dw;have Po:=h4;rw[ae ek]at Po;refine FO ik 47 ho i 1 underlying47 hi jk fI gv rfl bf v hs Po g 1 1 [.S p nl c] hx rfl (λj u hu=>by
  have e:j=0:=by have:=(bH.1 hu).1;simpa using this
  subst e;simp at hu;subst hu;exact sV) (λu hu=>by simp at hu;rw[hu];rfl) kW af hB ?_
 intro v' w' gF hg il;have sn:fG GK 22 1 B w' v' (ls++[l]) (Ls++[A]):=fG.snoc h1 h2 h3 h5 h6 h7 GK.W (c:=[.S p nl c]) ⟨p,c,by rw[ae el],by rw[ae el];exact hP.rd,by rw[ae el];exact hP.lv⟩ rfl hP.ap hBM hM.2 hM.1 (by rw[ae ek];exact gF) hg il;obtain⟨p',c',rfl⟩:∃p' c',v'=.S p' (k+1) c':=by obtain⟨e,h0⟩|⟨g',cap,cur,e,-⟩:=gF.2;{omega};{exact⟨_,_,e⟩}
 exact h p' c' w' sn hg
theorem fG.iB{w:G}(h:fG GK 22 1 B w v xs Ls):AL w v xs/\rQ w v xs (jL Ls)/\gp B w (jL Ls)/\∀b,jB v=Y b->B<=b/\b<U (Q w):=by
 have y:=h.lt;obtain⟨cs,h1,u,N,s,M,r,h7⟩:=h;have key:∀(i:Nat)(x:LI)(l:List Lf),xs[i]?=Y x->Ls[i]?=Y l->∀g j,v=.T g (J xs) j->∃p c,I w (Ad g i)=dS p (J x) c/\Rd w (.S p (J x) c) x/\oz (.S p (J x) c) x l:=λi x l m o g j ev=>by have hi:=(bH.1 m).1;obtain⟨c,hc⟩:∃c,cs[i]?=Y c:=⟨_,bN af⟩;let⟨p,cc,X,W,V⟩:=M i x c l m hc o;subst ev;refine⟨p,cc,?_,W,V⟩;have:=s.cellAt (i*1+0) af;rw[ag4 N hc af,X]at this;simpa using this
 obtain⟨rfl,R⟩|⟨g,j,Z,rfl,hb,hg,-⟩:=id s.2;{cases uJ.1 R;cases uJ.1 u;exact⟨⟨dN,0,rfl,.L rfl⟩,⟨dN,0,[],rfl,rfl,rfl,.L rfl⟩,r,y.1⟩};{refine⟨⟨_,j,rfl,.R ⟨g,0,rfl,λi x m=>?_⟩⟩,⟨_,j,Ls,rfl,u,rfl,.R ⟨g,0,rfl,λi x l m o=>?_⟩⟩,r,y.1⟩;{obtain⟨l,o⟩:∃l,Ls[i]?=Y l:=⟨_,bN (by have:=(bH.1 m).1;omega)⟩;obtain⟨p,c,q,E,-⟩:=key i x l m o g j rfl;exact⟨_,by rw[nY];exact q,E⟩};{obtain⟨p,c,q,-,D⟩:=key i x l m o g j rfl;exact⟨p,c,by rw[nY,El];exact q,D⟩}}
theorem fG.h{α:Type}{el:G->α->List dV->List Lf->Prop}{w:G}{xs:List α}(h:fG el ty sz B w v xs Ls)(r:B'<=B):fG el ty sz B' w v xs Ls:=by
 obtain⟨cs,E,D,y,o,x,u,s⟩:=h;refine⟨cs,E,D,y,⟨o.1,?_⟩,x,u.h r,s⟩;obtain q|⟨g,m,j,rfl,M,i⟩:=o.2;{exact .L q};{exact .R ⟨g,m,j,rfl,af,i⟩}
def Q6(L:List LI)(j:Nat):List LI:=(jT j L).map wW
def aJ4(w0 w:G)(b bs bn:Nat)(D:SD)(SB NB HB UB:iN)(n:Nat)(L:List LI)(r:Ending)(w':G):Prop:=∃p c Ls,PS w0 w' b bs bn D SB NB HB UB/\Fr T3 w w'/\r=dR (ij 0 0 0 0 0 ay (.S p n c) ay)/\fG GK 22 1 (U (Q w)+2) w' (.S p n c) (L.map wW) Ls
theorem ey1:(bg l).extract k (bg l).size=bg (jD k l):=by
 apply aZ1;apply Zh.1;rw[MV,List.map_drop,<-MV];simp;rw[nZ (by have:(bg l).size=(bg l).data.size:=rfl;simp)]
theorem dN7(w:G)(b bs bn:Nat)(D:SD)(SB NB HB UB:iN)(h:O (PS w0 w b bs bn D SB NB HB UB))(sU:O ((D.N.map λnd=>kK nd.A).Pairwise (·<·)))(Z7:O (PPB D.N))(P:LI)(bP:O (aD P))(L:List LI)(eL:O (yK D.N P=L))(n:Nat)(en:Le L n)(hn:Mg n):dQ dG 362 #[jP #[jJ (bg P)],Pz b] w (aJ4 w0 w b bs bn D SB NB HB UB n L):=by
 let⟨X,iY,hX,hY,bY,zX,zY,BX,RY⟩:=MW w #[jJ (bg P)] 317;have DZ:=h.be.size;have mX:O (∀x∈L,vp x/\aD x/\J x<=2^20):=λx hx=>by rw[<-ae eL]at hx;obtain⟨nd,aI,rfl⟩:=fM.1 hx;exact Z7 nd (JL.1 aI).1
 go_in
 go_wp21
 rw[<-hX,<-hY];refine(cM1 (h.H bY) sU (λnd aI=>⟨(ae Z7 nd aI).2.1,(ae Z7 nd aI).2.2⟩) bP eL).h ?_;rintro r w1⟨p,c,rfl,hT,az⟩;rw[ae en]at hT⊢;have z1:=az.size;go_wp2
 go_loopw[5,14](λov iv wr=>∃(j:Nat)(Ls:List (List Lf)),j<=n/\iv=.I j/\O (fG GK 22 1 (U (Q w1)) wr ov (Q6 L j) Ls)/\O (Bw w1 wr)) (λ_ iv _=>n-(jN (intOf iv)))
 exact⟨0,[],de _,rfl,fG.nil _ _ _ _ _,bD _ _⟩;{
 obtain⟨j,Ls,hj,rfl,hO,aC⟩:=hrel;have zr:=aC.size;by_cases aH:j<n;{
 have dm:=cM j n;obtain⟨x,hx⟩:∃x,L[j]?=Y x:=⟨_,bN (by rw[ae en];exact aH)⟩;have Z:=RT.cP1 hT aC;obtain⟨p0,c9,e9,-,-,qm⟩:=RT.form Z;simp only[rE]at e9;obtain⟨rfl,-,rfl⟩:=e9;obtain⟨gk,rfl⟩:=qm (by rw[ae en];omega);obtain⟨cc,-,OY,Is,-⟩:=Z.at hx;have ei4:I wr (Ad gk j)=Y (jJ (bg x)):=by have:=Is 0 _ (by rw[show cc=_ from OY];rfl);simpa using this
 let⟨v1,v2,v3⟩:=ae mX x (bq hx);obtain⟨s,es⟩:∃s,O (s=bg x):=⟨_,rfl⟩;let⟨nx,Ty⟩:=bu (J x);rw[<-ae es]at ei4;have Ou:s.size=nx:=by rw[ae es,DQ];exact Ty
 rw[Ty]at v3;have R:=eG v1 v2 Ty
 go_wp21
 refine(cl0 es Ou R.2.1 af).h ?_;rintro r w2⟨hr,rfl⟩;obtain⟨k,rfl,JY,hl⟩|⟨rfl,-,iL⟩:=hr;{
 have e1:wW x=jD (k+1) x:=by rw[wW,R.2.2,hl]
 let⟨p',c',W,A,hcv,Kf,Ke⟩:=cL0 w2 (l:=jD (k+1) x) (λy hy=>R.2.1 y (Oa hy)) (by rw[uK,R.2.2];omega);let⟨nq,vQ⟩:=cg (J (jD (k+1) x));have eS:bg (jD (k+1) x)=s.extract (k+1) nx:=by rw[<-Ou,ae es];exact(ey1 (l:=x) (k:=k+1)).C
 rw[eS,ae vQ]at hcv;rw[ae vQ]at Kf;obtain⟨W2,fW,IT,zW2,UK,-⟩:=cR W #[.S p' nq c'] 22;have BW:=ai (aj Ke IT);have OW:=hO.H GK.W BW;have PW:=Kf.H IT;have cW:=UK.1 0 _ rfl;have zW:=Ke.size;have ek:O (J (Q6 L j)=j):=by show _=_;rw[Q6,iC,tz,ae en];omega
 have UI:=ai hO.lt;rw[fW]at OW PW cW;go_wp2_with(at_builtin;refine df7 rfl rfl vQ ek rfl OW (g:=U (Q W)) rfl PW cW af ⟨λb hb=>(UI.1 b hb).2,λa ha=>(UI.2 a ha).2⟩ af bL ?_);intro p2 c2 w5 O5 mY;rw[<-fW]at mY;have e6:Q6 L (j+1)=Q6 L j++[jD (k+1) x]:=by unfold Q6;rw[rD,hx,uk,<-e1];rfl
 rw[<-e6]at O5;go_wp2;go_roundw;exact⟨j+1,_,af,by go_num,O5,((aj aC BW).grown mY (by have:=BW.size;omega) (λb' e=>(UI.1 b' e).1))⟩;exact dy};{exfalso;let⟨q1,q2⟩:=dh6 R.1;rw[R.2.2]at q1;exact iL 0 q1 q2}};{
 have dm:=ga j n;have q:=ae hO;rw[Q6,nZ (by rw[ae en];omega)]at q;have E:=aj az aC;obtain⟨pn,m,rfl⟩:∃pn m,u5=.S pn n m:=by obtain⟨cs,h1,h2,h3,h4,-⟩:=id q;rw[iC,ae en]at h4;obtain⟨e,h0⟩|⟨g',cap,cur,e,-⟩:=h4.2;{exact⟨dN,0,by rw[e,h0]⟩};{exact⟨_,_,e⟩}
 have R9:=RY.H E;have r0:=R9.cells;let⟨HR9,HO9⟩:=aQ R9 q;go_wp2;have Ip:∀(z:Nat),U (Q w1)<=z->(nH wr (U (Q w)+1) (.I 0) (.U 0) (.U 0) (.U 0) (.I 0) ay (.S pn n m) ay).heap[z]?=wr.heap[z]?:=λz hz=>NC af;have V:=HO9.lt;exact QS HR9 aS rfl rfl ⟨pn,m,Ls,PS.rep (h.H (aj bY E)) HR9 af _ _ _ _ _ _ _ _,((Fr.H (T:=T3) bY).Z (Fr.H E)).low ((rT).h af),rfl,(HO9.W (λx c l=>GK.W _ _ x c l) (rT).size (λb hb=>Ip b (V.1 b hb).1) (λa ha=>Ip a.b (V.2 a ha).1)).h af⟩}}
theorem rQ.cn0{w w':G}(h:rQ w v xs A)(hr:∀b,jB v=Y b->w'.heap[b]?=w.heap[b]?):rQ w' v xs A:=by
 obtain⟨p,c,M,rfl,D,B,j⟩:=h;refine⟨p,c,M,rfl,D,B,?_⟩;obtain j|⟨b,o,rfl,y⟩:=j;{exact .L j};{refine .R ⟨b,o,rfl,λi x l s u=>?_⟩;let⟨r,E,q,m⟩:=y i x l s u;exact⟨r,E,(gG (hr b rfl) _).Z q,m⟩}
theorem AL.kR{w w':G}(h:AL w v xs)(m:rQ w v xs A)(hr:∀b,jB v=Y b->w'.heap[b]?=w.heap[b]?)(E:∀a∈A,w'.heap[a.b]?=w.heap[a.b]?):AL w' v xs:=by
 obtain⟨p,c,rfl,h⟩:=h;obtain⟨Z,c2,X,y,h2,S,R⟩:=m;simp only[rE,Ef]at y;obtain⟨rfl,rfl⟩:=y;refine⟨p,c,rfl,?_⟩;obtain h|⟨b,o,rfl,h⟩:=h;{exact .L h};{refine .R ⟨b,o,rfl,λi x j=>?_⟩;let⟨u,s,D⟩:=h i x j;obtain V|⟨b',o',W,N⟩:=R;{rw[V]at j;simp at j};{obtain⟨rfl,rfl⟩:=yr W;obtain⟨l,m⟩:∃l,X[i]?=Y l:=⟨_,bN (aM (bH.1 j).1)⟩;let⟨p',c',r,B⟩:=N i x l j m;rw[El,s]at r;cases r;exact⟨_,(gG (hr b rfl) _).Z s,D.kR B (λa M=>E a (by rw[S];exact Eg.2 ⟨l,bq m,M⟩))⟩}}
def tY(B:Nat)(w:G)(v:dV)(R:RP):Prop:=∃(q:OA)(s:Nat)(j:OA)(m:Nat)(o:OA)(r:Nat)(y x u:List Lf),v=ij R.k R.i R.e R.g R.n (.S q (J R.lW) s) (.S j (J R.iB) m) (.S o (J R.kF) r)∧
 (Rd w (.S q (J R.lW) s) R.lW/\oz (.S q (J R.lW) s) R.lW y)/\(AL w (.S j (J R.iB) m) R.iB/\rQ w (.S j (J R.iB) m) R.iB x/\∀b,jB (Value.slice j (J R.iB) m)=Y b->B<=b/\b<U (Q w))∧
 (rP w (.S o (J R.kF) r) R.kF/\lI w (.S o (J R.kF) r) R.kF u)/\gp B w (y++(x++u))
theorem tY.W{w w':G}(h:tY B w v R)(y:∀b,B<=b->b<U (Q w)->w'.heap[b]?=w.heap[b]?)(Z:U (Q w)<=U (Q w')):tY B w' v R:=by
 obtain⟨X,c1,s,N,W,c3,V,S,r,e,⟨h1,M⟩,⟨h3,E,o⟩,⟨h6,D⟩,q⟩:=h;have m:∀a∈V++(S++r),w'.heap[a.b]?=w.heap[a.b]?:=λa i=>y a.b (q.lo a i) (q.ke.lt i);have x:∀a∈r,w'.heap[a.b]?=w.heap[a.b]?:=λa i=>m a (by simp[i]);have u:∀b,jB (Value.slice s (J R.iB) N)=Y b->w'.heap[b]?=w.heap[b]?:=λb j=>y b (o b j).1 (o b j).2;exact⟨X,c1,s,N,W,c3,V,S,r,e,⟨h1.kR M (λa i=>m a (by simp[i])),M⟩,⟨h3.kR E u (λa i=>m a (by simp[i])),E.cn0 u,λb j=>⟨(o b j).1,mH (o b j).2 Z⟩⟩,⟨h6.kR D x,lI.W D x⟩,q.W m⟩
theorem tY.h{w:G}(h:tY B w v R)(j:B'<=B):tY B' w v R:=by
 obtain⟨r,N,q,M,o,E,W,V,S,e,D,⟨y,x,m⟩,u,s⟩:=h;exact⟨r,N,q,M,o,E,W,V,S,e,D,⟨y,x,λb i=>⟨gq j (m b i).1,(m b i).2⟩⟩,u,s.h j⟩
theorem Jw(w:G):Rd w ay []:=⟨dN,0,rfl,.L rfl⟩
theorem bd7:oz ay [] []:=⟨dN,0,[],rfl,rfl,rfl,.L rfl⟩
theorem YH(w:G):AL w ay []:=⟨dN,0,rfl,.L rfl⟩
theorem bd5(w:G):rQ w ay [] []:=⟨dN,0,[],rfl,rfl,rfl,.L rfl⟩
theorem YK(w:G):rP w ay []:=⟨dN,0,rfl,.L rfl⟩
theorem bd6(w:G):lI w ay [] []:=⟨dN,0,[],rfl,rfl,rfl,.L rfl⟩
theorem tY.num(B:Nat)(w:G)(k i e g n:Int):tY B w (rpn ⟨k,i,e,g,n,[],[],[]⟩) ⟨k,i,e,g,n,[],[],[]⟩:=
 ⟨dN,0,dN,0,dN,0,[],[],[],rfl,⟨Jw w,bd7⟩,⟨YH w,bd5 w,λb j=>by cases j⟩,⟨YK w,bd6 w⟩,gp.nil _ _⟩
def XX(w0 w:G)(b bs bn:Nat)(D:SD)(R:RP)(r:Ending)(w':G):Prop:=∃SB NB HB UB v,PS w0 w' b bs bn D SB NB HB UB/\Fr T3 w w'/\r=dR v/\tY (U (Q w)) w' v R
theorem tg.r{w0 w:G}{SB NB HB UB:iN}{k n:Int}{r:Ending}(h:tg w0 w b bs bn D SB NB HB UB ⟨k,i,e,g,n,[],[],[]⟩ r w'):XX w0 w b bs bn D ⟨k,i,e,g,n,[],[],[]⟩ r w':=⟨SB,NB,HB,UB,_,h.1,h.2.1,h.2.2,tY.num _ _ _ _ _ _ _⟩
theorem aJ4.r{w0 w:G}{SB NB HB UB:iN}(en:J L=n){r:Ending}(h:aJ4 w0 w b bs bn D SB NB HB UB n L r w'):XX w0 w b bs bn D {iS with iB:=L.map wW} r w':=by
 obtain⟨p,c,Ls,h1,h2,h3,h4⟩:=h;let⟨q1,q2,q3,q4⟩:=h4.iB;have el:J (L.map wW)=n:=by simpa using en
 refine⟨SB,NB,HB,UB,_,h1,h2,h3,dN,0,p,c,dN,0,[],_,[],by simp only[el];rfl,⟨Jw _,bd7⟩,⟨by rw[el];exact q1,by rw[el];exact q2,by rw[el];exactλb hb=>⟨aM (q4 b hb).1,(q4 b hb).2⟩⟩,⟨YK _,bd6 _⟩,by rw[Da,Eh];exact q3.h af⟩
theorem dC0{w0 w w':G}{SB NB HB UB:iN}(en:J es=n){r:Ending}(h1:PS w0 w' b bs bn D SB NB HB UB)(h2:Fr T3 w w')(h3:r=dR (ij 0 0 0 0 0 ay ay (.S p n c)))(h4:rP w' (.S p n c) es)(h5:lI w' (.S p n c) es A)(h6:gp (U (Q w)) w' A):XX w0 w b bs bn D {iS with kF:=es} r w':=by
 subst en;exact⟨SB,NB,HB,UB,_,h1,h2,h3,dN,0,dN,0,p,c,[],[],A,rfl,⟨Jw _,bd7⟩,⟨YH _,bd5 _,λb hb=>by cases hb⟩,⟨h4,h5⟩,by simpa using h6⟩
theorem eu4{w0 w w' j:G}{SB NB HB UB:iN}{o m:Int}(en:J V=n){r:Ending}(h1:PS w0 w' b bs bn D SB NB HB UB)(h2:Fr T3 w w')(h3:r=dR (ij 0 o e g m (.S p n c) ay ay))(h4:Own (U (Q w)+2) j (.S p n c) V)(x:∀z,z≠U (Q w)+1->w'.heap[z]?=j.heap[z]?):XX w0 w b bs bn D ⟨0,o,e,g,m,V,[],[]⟩ r w':=by
 subst en;let⟨A,i⟩:=h4.pb;have s:∀a∈A,w'.heap[a.b]?=j.heap[a.b]?:=λa u=>x a.b (aM (i.ap.lo a u));exact⟨SB,NB,HB,UB,_,h1,h2,h3,p,c,dN,0,dN,0,A,[],[],rfl,⟨i.rd.kR i.lv s,i.lv⟩,⟨YH _,bd5 _,λb hb=>by cases hb⟩,⟨YK _,bd6 _⟩,by simpa using(i.ap.W s).h af⟩
def Whn(C:Int)(P:Prop):Prop:=C=0->P
def da6(w0 w:G)(b bs bn:Nat)(D D':SD)(R:RP)(C:Int)(r:Ending)(w':G):Prop:=∃SB NB HB UB v,r=dR (dT #[v,sC C])/\Fr T3 w w'/\PS w0 w' b bs bn (if C=0 then D' else D) SB NB HB UB/\tY (U (Q w)) w' v (if C=0 then R else iS)
theorem aU5{R:Ending->G->Prop}{Z:G}{V S N M D o5 B o7:dV}(hR:O (RX Z z [V,S,N,M,D,o5,B,o7]))(hf:fn.results=#[.cell 4 50,.tmp 5])(ha:a.tmps.getD 4 jQ=Pz z)(E:dV)(hE:a.tmps.getD 5 jQ=E)(X:a.defers=[])(hQ:R (dR (dT #[jP #[v0,v1,v2,v3,v4,v5,v6,v7],E])) (nH Z z v0 v1 v2 v3 v4 v5 v6 v7)):bodyPost dG fn R .ret a (nH Z z v0 v1 v2 v3 v4 v5 v6 v7):=by
 obtain⟨y,x,u,s,r,q,o,m,-⟩:=(hR.put v0 v1 v2 v3 v4 v5 v6 v7).1.cells;generalize nH Z z v0 v1 v2 v3 v4 v5 v6 v7=W at*;refine cX (v:=dT #[jP #[v0,v1,v2,v3,v4,v5,v6,v7],E]) ?_ X hQ;have j:=ha;have i:=hE;simp only[ci0]at j i;simp[results,hf,go_sem,j,i,y,x,u,s,r,q,o,m]
theorem cN3{w0:World}{w:World}{D':SD}{SB NB HB UB:iN}(h:Hid (PS w0 w b bs bn D SB NB HB UB)){C0 C1:Int}(eC:Hid ((if C0=0 then C1 else C0)=C)){v:Value}{fC fA:FuncId}{vC vA:Value}(ei2:Hid (∀w',Bw w w'->Cp 198 #[Pz b,nI K S (.S pp np cp) F (.S pq nv cv) E iG] w' λr j=>r=.returned (sC C0)/\Bw w' j))(dY7:Hid (Whn C0 (∀w',Bw w w'->Cp 199 #[nI K S (.S pp np cp) F (.S pq nv cv) E iG] w' λr j=>r=.returned (.iface ty v)/\Bw w' j)))(hmC : ∀w,(Go.method 525 ty v "loop.example/s02132/impl.check").run prog w = .ok (fC,vC) w)(hmA : ∀w,(Go.method 525 ty v "loop.example/s02132/impl.act").run prog w = .ok (fA,vA) w)(hfC:∀vs w,(callFunc fC vs).run prog w=.ok (.enter fC vs) w)(Ww:∀vs w,(callFunc fA vs).run prog w=.ok (.enter fA vs) w)(ei5:Hid (Whn C0 (∀w',Bw w w'->Calls prog fC #[vC,Pz b] w' λr j=>r=.returned (sC C1)/\Bw w' j)))(el7:Hid (Whn C0 (Whn C1 (∀w',Bw w w'->Calls prog fA #[vA,Pz b] w' (XX w0 w' b bs bn D' R))))):Calls prog 135 #[Pz b,nI K S (.S pp np cp) F (.S pq nv cv) E iG] w (da6 w0 w b bs bn D D' R C):=by
 let⟨X,hX,bX,zX,CX,gX⟩:=cR w #[.I K,.U S,.S pp np cp,.I F,.S pq nv cv,.U E,.U iG] 54;let⟨x,hY,bY,zY,RY⟩:=yi X (.I 0) (.U 0) (.U 0) (.U 0) (.I 0) ay ay ay;rw[zX]at RY;have bW:=aj bX bY;let⟨V,BY0⟩:=aQ (λ(u:World)(hu:Bw x u)=>aE (aj bW hu) (aE ((CX.H af bY).H af hu) (RY.H hu))) (bD x.heap.size x);have HC:=gJ hmC hmA hfC Ww;have DZ:=h.be.size;have HZ:=ai zY;go_in
 go_wp21
 rw[<-hX,<-hY];refine(ae ei2 x (ae V x BY0).1).h ?_;rintro r w1⟨rfl,az⟩;let⟨b1,o,R1⟩:=ae V w1 az;have o0:=o.1 0 _ rfl;have o1:=o.1 1 _ rfl;have o2:=o.1 2 _ rfl;have o3:=o.1 3 _ rfl;have o4:=o.1 4 _ rfl;have o5:=o.1 5 _ rfl;have o6:=o.1 6 _ rfl;let⟨B1,y,W⟩:=gC az b1 R1;by_cases q:C0=0;{
 have e0:sC C0=.nilIface:=by rw[q];rfl
 rw[e0];have H0:=ai q;have m:C1=C:=by have:=ae eC;rwa [aK q]at this
 subst m
 go_wp21
 refine(ae dY7 H0 w1 y).h ?_;rintro r w2⟨rfl,aA⟩;let⟨B2,oF⟩:=aQ (aj B1 aA) (aj y aA)
 go_wp21
 refine(ae ei5 H0 w2 oF).h ?_;rintro r Z⟨rfl,aL⟩;let⟨B3,s⟩:=aQ (aj B2 aL) (aj oF aL);by_cases N:C1=0;{
 have e1:sC C1=.nilIface:=by rw[N];rfl
 rw[e1];have i:=ai N
 go_wp21
 refine(ae el7 H0 i Z s).h ?_;rintro r w4⟨Qi,Qm,zt,Qf,v4,P4,F4,rfl,L4⟩;have L4':=L4;obtain⟨p1,c1,p2,c2,p3,c3,A1,A2,A3,rfl,-⟩:=L4';have R4:=(ae V Z B3).2.2.T F4;have r0:=R4.cells;have Fw:=ai R4;have M:=eG P4 F4 L4;let⟨n1,uW⟩:=bu R.lW.length;let⟨n2,xr⟩:=bu R.iB.length;let⟨n3,PK⟩:=bu R.kF.length;rw[uW,xr,PK]at M⊢;go_wp2;have z3:=s.size;have zB:=B3.size;refine aU5 Fw aS rfl .nilIface rfl rfl ⟨Qi,Qm,zt,Qf,_,by rw[ae i];rfl,((Fr.H (T:=T3) (ae s)).Z M.2.1).low ((rT (b:=w.heap.size+1)).h af),?_,?_⟩;{rw[aK (ae i)];exact PS.rep M.1 Fw af _ _ _ _ _ _ _ _};{rw[aK (ae i)];exact(M.2.2.W (λz h1 _=>NC af) (rT).size).h af}};{
 have e1:sC C1=.iface 107 (.agg #[.I C1]):=by rw[sC,aJ N]
 rw[e1];have i:=ai N;obtain⟨-,-,R3⟩:=ae V Z B3;have r0:=R3.cells;have xy:=ai R3;go_wp2;refine aU5 xy aS rfl (.iface 107 (.agg #[.I C1])) rfl rfl ⟨SB,NB,HB,UB,_,by rw[sC,aJ (ae i)],(Fr.H (T:=T3) (ae s)).low ((rT).h af),?_,?_⟩;{rw[aJ (ae i)];exact PS.rep (h.H s) xy af _ _ _ _ _ _ _ _};{rw[aJ (ae i)];exact tY.num _ _ _ _ _ _ _}}};{
 have eV:sC C0=.iface 107 (.agg #[.I C0]):=by rw[sC,aJ q]
 rw[eV];have i:=ai q;have m:C0=C:=by have:=ae eC;rwa [aJ q]at this
 subst m;have r0:=W.cells;go_wp2;refine aU5 W aS rfl (.iface 107 (.agg #[.I C0])) rfl rfl ⟨SB,NB,HB,UB,_,by rw[sC,aJ (ae i)],(Fr.H (T:=T3) (ae y)).low ((rT).h af),?_,?_⟩;{rw[aJ (ae i)];exact PS.rep (h.H y) W af _ _ _ _ _ _ _ _};{rw[aJ (ae i)];exact tY.num _ _ _ _ _ _ _}}
theorem aT1(h:(jR (J ss)).all (yB x ss)){s:aB}(m:s∈ss):1<=s.1/\s.1<=x/\yD s.2.2:=by
 let⟨i,j⟩:=lh.1 m;have:=mL.1 h i (by simpa using(bH.1 j).1);unfold yB at this;rw[ko,j]at this;simp only[tv,gP,mn]at this;exact⟨this.1,this.2.1,this.2.2.2.2.2⟩
theorem tX.of(hF:AW ss ns)(h:(jR (J ss)).all (yB x ss)):tX ss:=
 ⟨hF.s1,λs i=>(hF.s2 s i).1,λs i=>by have:=(aT1 h i).2.2;unfold yD at this;simp only[gP,mn]at this;exact this.1⟩
theorem cf6(h:(jR (J ns)).all (wF e g ss ns)){i:Nat}(j:ns[i]?=nd):vp nd.A:=by
 have:=mL.1 h i (by simpa using(bH.1 j).1);unfold wF at this;rw[ko,j]at this;simp only[tv,gP]at this;exact this.1.1
theorem WF.of(h:nT e g x t ss ns)(hF:AW ss ns)(R:0<=g)(B:0<=x):WF ⟨e,g,x,t,ss,ns⟩:=by
 unfold nT at h;simp only[gP,mn]at h;obtain⟨⟨Z,N,M,E,D,X,W⟩,V,u⟩:=h;refine⟨⟨R,N⟩,⟨B,M⟩,⟨E,D⟩,λo m=>?_,λo m=>?_,λo m=>(hF.n2 o m).2.2.1,λo m hm=>?_,λi j a c s hc y=>?_⟩;{obtain⟨a,b,c,d,f,-⟩:=hF.n2 o m;exact⟨b,f,d⟩};{let⟨i,r⟩:=lh.1 m;exact⟨cf6 u r,(hF.n2 o m).1,(hF.n2 o m).2.1⟩};{let⟨i,r⟩:=lh.1 m;intro S;have:=av7 (at3 u r).1 hm;rw[S]at this;cases this};{obtain q|q|q:=Og i j;{exact absurd y (hF.n3 i j a c s hc q)};{exact q};{exact absurd y.C (hF.n3 j i c a hc s q)}}
def uz(w:G):Prop:=∀k:Nat,1<=k->k<=13->KE w 0 (k*7) (rowOf k).1 (rowOf k).2.1 (rowOf k).2.2.1 (rowOf k).2.2.2.1 (rowOf k).2.2.2.2.1 (rowOf k).2.2.2.2.2.1 (rowOf k).2.2.2.2.2.2
structure GD(D:SD):Prop where
 wf:WF D
 ci:CI D.E D.N
 pw:(D.N.map λnd=>kK nd.A).Pairwise (·<·)
 ho:∀nd∈D.N,(nd.M=1->J nd.y=1)/\(nd.M≠1->nd.P=0/\nd.F=0/\(nd.M=0->J nd.y=0))
 sx:∀s∈D.E,s.1<=D.x
 ql:∀s∈D.E,J s.2.2<=2^20/\∀e∈s.2.2,J e.2<=2^20
 wl:∀nd∈D.N,J nd.X<=2^20
 sl:J D.E<2^20
 nl:J D.N<2^20
theorem GD.of(h:nT e g x t ss ns)(hF:AW ss ns)(E:0<=g)(D:0<=x):GD ⟨e,g,x,t,ss,ns⟩:=by
 have r:=h;unfold nT at r;simp only[gP,mn]at r;obtain⟨⟨-,-,-,-,-,N,M⟩,B,y⟩:=r;refine⟨WF.of h hF E D,⟨tX.of hF B,λm j=>?_,KD.of hF⟩,hF.n1,λm j=>?_,λs o=>(aT1 B o).2.1,λs o=>(hF.s2 s o).2,λm j=>(hF.n2 m j).2.2.2.2.1,by show J ss<_;omega,by show J ns<_;omega⟩;{let⟨i,q⟩:=lh.1 j;exact⟨NT.of hF y q,(hF.n2 m j).2.2.2.2.2.1,(hF.n2 m j).2.2.2.1⟩};{let⟨i,q⟩:=lh.1 j;obtain⟨u,-⟩:=at3 y q;exact⟨λhm=>av7 u hm,λhm=>bd9 u hm⟩}
structure tZ(w0 w:G)(b bs bn:Nat)(D:SD)(SB NB HB UB:iN)(S F E iG:Int)(pp:OA)(np cp:Nat)(pq:OA)(nv cv:Nat)(P V:LI):Prop where
 ps:PS w0 w b bs bn D SB NB HB UB
 gd:GD D
 hS:0<=S/\S<2^64
 eP:J P=np
 eV:J V=nv
 hP:Rd w (.S pp np cp) P
 hV:AB w0 w (.S pq nv cv) V
 hB:aD P
 hp:np<=2^20
 gm:np<=cp
 im:cp<=maxLen
 hm:∃m,I w (Ad 2 0)=dI m
 hT:uz w
theorem tZ.H{w0 w w':G}{SB NB HB UB:iN}(h:tZ w0 w b bs bn D SB NB HB UB S F E iG pp np cp pq nv cv P V)(i:Bw w w'):tZ w0 w' b bs bn D SB NB HB UB S F E iG pp np cp pq nv cv P V:=
 ⟨h.ps.H i,h.gd,h.hS,h.eP,h.eV,h.hP.H i,h.hV.T (cG i) al,h.hB,h.hp,h.gm,h.im,by obtain⟨m,hm⟩:=h.hm;exact⟨m,aq hm i⟩,λk o j=>(h.hT k o j).H i⟩
theorem cg5:Aa ns P<0↔kP ns P=dN:=by
 constructor;{
 intro h;cases hn:kP ns P with
 |none=>rfl
 | some j=>
  exfalso;unfold Aa at h;cases hf:ns.findIdx? (λj=>dD (j.A=P))with
  |some i=>rw[hf]at h;simp at h;omega
  |none=>
   have m:=Zi hn;rw[av0.1 hf j (Zg hn)]at m;cases m};{
 intro h;rw[cg6 h]
 decide}
theorem eV9(o:1<=k)(m:k<=13)(i:yX D (rowOf k).1 (rowOf k).2.1 (qt k S F (J P) (J V) E iG) k S P=C)(q:C≠0):kG D k S F E iG P V=(D,lD C):=by
 have hf:DK k S F (J P) (J V) E iG=qt k S F (J P) (J V) E iG:=by rw[DK,aK af,rY]
 unfold kG;rw[hf];cases hB:qt k S F (J P) (J V) E iG with
 |false=>
  rw[hB]at i;simp only[yX,qR]at i;rw[aK rfl,i]
 |true=>
  rw[hB]at i;rw[aJ al];by_cases j:(rowOf k).1/\mj D.E S<0;{
 have u:C=3:=by rw[<-i];simp[yX,j]
 obtain rfl|rfl|rfl|rfl|rfl|rfl|rfl|rfl|rfl|rfl|rfl|rfl|rfl:=kinds o m<;>simp_all[rowOf,Dr]}
  {
 have r:(if(rowOf k).2.1 then Gd D k P else 0)=C:=by rw[<-i];simp only[yX,Bool.true_eq_false,BK,j]
 clear i hf hB;subst r;unfold zO;obtain rfl|rfl|rfl|rfl|rfl|rfl|rfl|rfl|rfl|rfl|rfl|rfl|rfl:=kinds o m<;>simp only[rowOf,Gd,NJ,BG]at q j⊢<;>by_cases s:P=[47]<;>cases hv:vp P<;>cases hn:kP D.N P<;>simp_all[cg5,Dr]<;>(intros;omega)}
theorem DO{j m B:Bool}(h:yX D j m B K S P=0):B/\(j->¬mj D.E S<0)/\(m->Gd D K P=0):=by
 unfold yX at h;cases B with
 |false=>simp at h
 |true=>
  refine⟨rfl,λe i=>?_,λe=>?_⟩;{simp[e,i]at h};{by_cases i:j/\mj D.E S<0;{simp[i]at h};{simpa[i,e]using h}}
def zG(w0 w:G)(b bs bn:Nat)(D:SD)(A:SD×RP)(r:Ending)(w':G):Prop:=∃i R C,da6 w0 w b bs bn D i R C r w'/\(A=if C=0 then(i,R)else(D,lD C))/\(C=0->R.k=0)
theorem xu{w0 w:World}{SB NB HB UB:iN}(cx:tZ w0 w b bs bn D SB NB HB UB S F E iG pp np cp pq nv cv P V)(k:Nat)(C1:Int)(D':SD)(R:RP)(ty:TypeId)(v:Value)(fC fA:FuncId)(vC:Value)(fU:yX D (rowOf k).1 (rowOf k).2.1 (qt k S F P.length V.length E iG) k S P=0->(∀w',tZ w0 w' b bs bn D SB NB HB UB S F E iG pp np cp pq nv cv P V->Calls prog fC #[vC,Pz b] w' λr w''=>r=.returned (sC C1)/\Bw w' w'')∧
   (C1=0->∀w',tZ w0 w' b bs bn D SB NB HB UB S F E iG pp np cp pq nv cv P V->Calls prog fA #[v,Pz b] w' (XX w0 w' b bs bn D' R))/\kG D k S F E iG P V=if C1=0 then(D',R)else(D,lD C1))(h1:1<=k:=by decide)(h2:k<=13:=by decide)(hq:bZ8 k S (bg P) F (.S pq nv cv) E iG=.iface ty v:=by rfl)(hmC : ∀w,(Go.method 525 ty v "loop.example/s02132/impl.check").run prog w = .ok (fC,vC) w:=by(intro w;kernel_rfl))(hmA : ∀w,(Go.method 525 ty v "loop.example/s02132/impl.act").run prog w = .ok (fA,v) w:=by(intro w;kernel_rfl))(hfC:∀vs w,(callFunc fC vs).run prog w=.ok (.enter fC vs) w:=by(intro vs w;kernel_rfl))(Ww:∀vs w,(callFunc fA vs).run prog w=.ok (.enter fA vs) w:=by(intro vs w;kernel_rfl))(hRk:C1=0->R.k=0:=by(intro _;rfl)):Cp 135 #[Pz b,nI k S (.S pp np cp) F (.S pq nv cv) E iG] w (zG w0 w b bs bn D (kG D k S F E iG P V)):=by
 let⟨C0,eC0⟩:=bu (yX D (rowOf k).1 (rowOf k).2.1 (qt k S F P.length V.length E iG) k S P);rw[eC0]at fU;refine(cN3 cx.ps (ai rfl) (λw' hb=>?_) (λ_ w' hb=>?_) hmC hmA hfC Ww (λhC w' hb=>(fU hC).1 w' (cx.H hb)) (λhC IE w' hb=>(fU hC).2.1 IE w' (cx.H hb))).h λr w' hr=>⟨D',R,_,hr,?_,λhC=>hRk (by split at hC<;>omega)⟩;{have c:=cx.H hb;exact eN5 c.ps (λnd aI=>(c.gd.wf.pb nd aI).2.1) h1 h2 c.hS c.eP c.hP c.hB c.hp c.gm c.im c.hm (c.hT k h1 h2) (ai rfl) (by show _=_;rw[<-eC0,c.eP,c.eV];rfl)};{have c:=cx.H hb;have:=dy9 h1 h2 (S:=S) (F:=F) (E:=E) (iG:=iG) (pq:=pq) (nv:=nv) (cv:=cv) c.eP c.hP;rw[hq]at this;exact this};{by_cases hC:C0=0;{rw[(fU hC).2.2,aK hC]};{rw[aJ hC,aJ hC];exact eV9 h1 h2 eC0 hC}}
theorem eR5{w0 w:G}{SB NB HB UB:iN}(m:tZ w0 w b bs bn D SB NB HB UB S F E iG pp np cp pq nv cv P V)(hK:K<1\/13<K):Cp 135 #[Pz b,nI K S (.S pp np cp) F (.S pq nv cv) E iG] w (zG w0 w b bs bn D (kG D K S F E iG P V)):=by
 refine(cN3 (w:=w) (b:=b) (bs:=bs) (bn:=bn) (D:=D) (D':=D) (SB:=SB) (NB:=NB) (HB:=HB) (UB:=UB) m.ps (K:=K) (S:=S) (F:=F) (E:=E) (iG:=iG) (pp:=pp) (np:=np) (cp:=cp) (pq:=pq) (nv:=nv) (cv:=cv) (C0:=2) (C1:=2) (C:=2) rfl (R:=iS) (ty:=296) (v:=jP #[]) (fC:=336) (fA:=335) (vC:=jP #[]) (vA:=jP #[]) (λw' hb=>eN6 (w:=w') (b:=b) (K:=K) (S:=S) (F:=F) (E:=E) (iG:=iG) hK (pp:=pp) (np:=np) (cp:=cp) (pq:=pq) (nv:=nv) (cv:=cv)) (λh=>bD0 h) (λw=>aS) (λw=>aS) (λi w=>aS) (λi w=>aS) (λh=>bD0 h) (λh=>bD0 h)).h λr w' j=>⟨D,iS,2,j,?_,λo=>rfl⟩;have hf:DK K S F (J P) (J V) E iG=dF:=by rw[DK,aJ af]
 unfold kG;rw[aK hf];rfl
theorem AW.dur(h:AW ss ns):AW (ss.map pZ) (ns.map qP):=by
 refine⟨?_,?_,λs E=>?_,λS M=>?_,λi j s B o m q=>?_,λi j s B o m q=>?_⟩;{rw[Db];exact h.s1};{rw[uI];exact h.n1};{obtain⟨y,R,rfl⟩:=fM.1 E;exact⟨(h.s2 y R).1,by simp[pZ],λe he=>by simp[pZ]at he⟩};{obtain⟨D,N,rfl⟩:=fM.1 M;obtain⟨a,b,c,d,-,f,-⟩:=h.n2 D N;exact⟨a,b,c,d,by simp[qP],f,by simp[qP]⟩};{rw[qU]at o m;obtain⟨a,r,rfl⟩:=Oc.1 o;obtain⟨u,x,rfl⟩:=Oc.1 m;exact h.s3 i j a u r x q};{rw[qU]at o m;obtain⟨a,r,rfl⟩:=Oc.1 o;obtain⟨u,x,rfl⟩:=Oc.1 m;exact h.n3 i j a u r x q}
theorem eH7(en:Le ss n)(R:Le ns m){w:G}(h:nM w (.S p n c) ss)(hN:iw w (.S q m d) ns)(hn:Mg n)(hm:Mg m)(E:O (AW ss ns))(dr:O (Bn ns))(tG:O (Bu ns)):dQ dG 128 #[cO e g x t (.S p n c) (.S q m d)] w λr w'=>∃p' c' q' d',r=dR (cO e g x 0 (.S p' n c') (.S q' m d'))/\pW (U (Q w)) w' p' n c' q' m d' (ss.map pZ) (ns.map qP)/\Bw w w':=by
 let⟨W,hW,b1,z1,C1⟩:=yj w (.U e) (.U g) (.U x) (.I t) (.S p n c) (.S q m d);let⟨W2,fW,b2,Z,C2⟩:=Cr W;rw[z1]at C2 Z;have V:=aj b1 b2;have u:=nK (h.H V) (hN.H V) C2 V Z;clear h hN C1 C2 V b1 b2 z1 Z;go_in
 go_wp21
 rw[<-hW,<-fW];clear hW fW;refine(Yr en R u.1 u.2.1 hn hm (ai λs hs=>(E.s2 s hs).1) E.s3 dr tG E.n3).h ?_;rintro r w4⟨b,bs,bn,SB,NB,HB,UB,rfl,cK,dz⟩;let⟨P4,C4⟩:=aQ (PS.of cK dz E (ae en▸hn) (ae R▸hm)) (u.2.2.1.H dz);clear cK dz
 go_wp21
 refine(cD7 P4 (KD.of E) E.s3).h ?_;rintro r w5⟨P5,F5,v5,rfl⟩;let⟨C5,AU⟩:=aQ (C4.T F5) P5.be;have j:=E.dur;have HS:=ai (ap9 P5.Ys j.s1 j.n1 (by rw[iC,ae en];exact hn) (by rw[iC,ae R];exact hm) j.s2 j.n2);rw[show J (ss.map pZ)=n by rw[iC,ae en],show J (ns.map qP)=m by rw[iC,ae R]]at HS;clear P5 F5 P4 C4 j
 go_wp21
 refine HS.h ?_;rintro r w6⟨M,cs,N,cn,A1,A2,rfl,f1,f2,f3,f4,f5,je⟩;let⟨r0,r1,r2,r3,r4,r5,rf⟩:=(C5.H je).cells;have X:=gq u.2.2.2.1.size AU.size;have O6:=bG (((show pW (U (Q w5)) w6 M n cs N m cn _ _ from⟨A1,A2,f1,f2,f3,f4,f5⟩).W (w':=gL w6 (U (Q w)+1) (.U e) (.U g) (.U x) (.I 0) (.S M n cs) (.S N m cn)) (λy h1 h2=>Hp (by have:=AU.size;have:=u.2.2.2.2;omega))).h (B':=U (Q w)) X) (((u.2.2.2.1.Z (AU.h u.2.2.2.1.size)).Z (je.h X)).Z ((vE (w:=w6) (U (Q w)+1) (.U e) (.U g) (.U x) (.I 0) (.S M n cs) (.S N m cn)).h af));clear f1 f2 f3 f4 f5 je X HS;go_wp2;exact cX (v:=cO e g x 0 (.S M n cs) (.S N m cn)) (by simp[results,results128,go_sem,r0,r1,r2,r3,r4,r5]) rfl ⟨M,cs,N,cn,rfl,O6.1,O6.2⟩
variable {g:Nat}
theorem dT0{C:Nat}(s:O (k=J ls))(e:O (lm=cat ls))(r:Le lm n){w:G}(h:xx w g vs ls)(q:n<=2^22)(M:k<=1000):dQ dG 129 #[.T g k C] w λe w'=>∃i j,e=dR (.S i n j)/\Own (U (Q w)) w' (.S i n j) lm/\Bw w w':=by
 have y:=ae s;have x:=ae e;have u:=ae r;subst y u x;go_in
 go_wp21
 refine(cL3 h q af).h ?_;rintro e E⟨m,B,rfl,o,D⟩;go_wp2;go_ret;exact⟨m,B,rfl,o,D⟩
def Kq(w:G)(x:LI)(c:List dV)(l:List Lf):Prop:=∃p i,c=[.S p (J x) i]/\Rd w (.S p (J x) i) x/\oz (.S p (J x) i) x l
theorem Kq.W(w w':G)(x:LI)(c:List dV)(l:List Lf)(h:Kq w x c l)(j:∀a∈l,w'.heap[a.b]?=w.heap[a.b]?):Kq w' x c l:=by
 obtain⟨p,q,o,m,i⟩:=h;exact⟨p,q,o,m.kR i j,i⟩
abbrev Uu(B:Nat)(w:G)(v:dV)(xs:List LI)(Ls:List (List Lf)):Prop:=fG Kq 22 1 B w v xs Ls
theorem Uu.one{w:G}(h:Own B w (.S p (J l) c) l)(D:B<=U (Q w)):∃Ls,Uu B (jA w (dO #[.S p (J l) c] 22)) (.T (U (Q w)) 1 1) [l] Ls:=by
 have u:Bw w (jA w (dO #[.S p (J l) c] 22)):=db.alloc aU _;have o:=Own.H h u;obtain⟨A,s,r,-,q⟩:=YF (kd:=.u8) o;refine⟨[A],[[.S p (J l) c]],rfl,rfl,λc hc=>by simp at hc;subst hc;rfl,?_,λi x R N j hc m=>?_,by simpa using r,λa y=>?_⟩;{have:=aZ9 (base:=B) (e:=22) (size:=1) w #[.S p (J l) c] 1 D bf rfl;simpa using this};{
 have:i=0:=by have:=(bH.1 j).1;simpa using this
 subst this;simp at j hc m;subst j hc m;exact⟨p,c,rfl,o.rd,s⟩};{
 have M:a∈A:=by simpa using y
 have e:=q a M;have:=(h.lt a.b e).2;intro E;simp only[jB,oK]at E;omega}
theorem Uu.parts{w:G}(h:Uu B w (.S p n c) xs Ls)(q:J xs=n)(E:0<n):∃g vs,p=(Ad g 0)/\xx w g vs xs:=by
 obtain⟨g,rfl,-⟩:=h.ptr q E;obtain⟨cs,Z,X,D,i,y,W,V⟩:=h;rw[q]at i;refine⟨g,jL cs,rfl,?_,λj v x o m=>?_⟩;{have:=i.1;omega};{have R:=(bH.1 m).1;obtain⟨M,hc⟩:∃x,cs[j]?=Y x:=⟨_,bN af⟩;obtain⟨l,u⟩:∃x,Ls[j]?=Y x:=⟨_,bN af⟩;obtain⟨N,c',rfl,s,-⟩:=y j x M l m hc u;have e:=ag4 D hc (j:=0) bf;rw[El,Ek,o]at e;simp at e;subst e;have r:=i.cellAt j af;rw[o]at r;exact⟨r,s⟩}
theorem fG.app{α:Type}{el:G->α->List dV->List Lf->Prop}{V j:G}{xs:List α}{x:α}{c:List dV}{l:List Lf}(h:fG el ty sz B V v xs Ls)(u:∀w w' x c l,el w x c l->(∀a∈l,w'.heap[a.b]?=w.heap[a.b]?)->el w' x c l)(q:Bw V j)(D:el j x c l)(hc:J c=sz)(R:gp (U (Q V)) j l)(N:B<=U (Q V)):∃row,j.ownsRow B ty sz v (J xs) row/\∀m o,o.ownsRow B ty sz m (J xs+1) (row++c)->jG j o (jB v)->(∀g,jB m=Y g->jB v=Y g\/U (Q j)<=g)→
   fG el ty sz B o m (xs++[x]) (Ls++[l])/\∃p r,m=.S p (J xs+1) r:=by
 have s:=h.lt;let⟨cs,g1,g2,g3,g4,g5,Z,X⟩:=h.H u q;refine⟨jL cs,g4,λm o W E y=>?_⟩;have sn:=fG.snoc g1 g2 g3 g5 Z X u D hc R N (λa M=>(s.2 a M).2) (λb q=>(s.1 b q).2) W E y;refine⟨sn,?_⟩;obtain⟨p,r,e,-⟩:=sn.read;rw[fe]at e;exact⟨p,r,e⟩
theorem Ub{w:G}{t:TypeId}:∀j u,cs[j]?=Y u->I (jA w (dO cs.toArray t)) (Aw w j)=Y u:=λj u i=>(aT.alloc w cs.toArray t).1 j u (by simpa using i)
theorem Kq.of{w:G}{d:LI}(e:J d=M)(r:Rd w (.S p M c) d)(q:oz (.S p M c) d lb):Kq w d [.S p M c] lb:=by
 subst e;exact⟨p,c,rfl,r,q⟩
theorem be2{α:Type}{F:α->LI}{l:List α}{y:α}{D:LI}(i:l[k]?=y)(j:F y=D):(vi n::(jT k l).map F)++[D]=vi n::(jT (k+1) l).map F:=by
 rw[rD,i,uk,<-j];rfl
theorem dN9{α:Type}{F:α->LI}{l:List α}(h:k<=J l):J (vi n::(jT k l).map F)=k+1:=by
 rw[mO,iC,tz];omega
def pL{α:Type}(f:α->LI)(l:List α):LI:=cat (vi (J l)::l.map f)
def kL(i:Int):LI:=vi (jN i)
def LiI{α:Type}(F:α->LI)(n:Nat)(l:List α)(w:G)(pv m:dV)(wr:G):Prop:=∃(k:Nat)(i:OA)(j:Nat)(o:List (List Lf)),k<=n/\pv=.S i (k+1) j/\m=.I k/\O (Uu (U (Q w)) wr (.S i (k+1) j) (vi n::(jT k l).map F) o)/\Bw w wr
theorem dO0{α:Type}{F:α->LI}{l:List α}{m:Nat}{w:G}(j:J l=n)(h:Uu B w (.S p2 (n+1) m) (vi n::(jT n l).map F) Ls):∃iG vs,p2=(Ad iG 0)/\O (xx w iG vs (vi n::l.map F))/\O (n+1=J (vi n::l.map F))/\O (pL F l=cat (vi n::l.map F)):=by
  subst j;rw[wS]at h;let⟨iG,vs,e,i⟩:=h.parts al af;exact⟨iG,vs,e,i,(ai (by simp)),di⟩
theorem liW{q:Prop}(h':q:=by
    let⟨ib,Wu,jk,fI,gv⟩:=mJ Tryz.infoSl;have HR:=ai λ(w':G)(hb:Bw w w')=>h.H hb;clear h;have wn:IntKind.u64.wrap (n:Int)=(n:Int):=by rw[wV];omega
    show dQ _ _ _ _ _;go_in
    go_wp21
    refine(Va af).h ?_;rintro r w1⟨p1,c1,rfl,o1,b1⟩;let⟨Ls0,hP⟩:=Uu.one o1 b1.size;let⟨v0,fK⟩:=aF (w1.alloc (dO #[.S p1 (J (vi n)) c1] 22));have hb0:Bw w v0:=fK▸b1.alloc b1.size _;rw[<-fK]at hP;have HP:=ai hP;clear hP o1;generalize J (vi n)=M at*;go_wp2;rw[<-fK];clear fK b1
    first
      |(go_loopw[5,15](LiI kL n l w) (λ_ iv _=>n-(intOf iv).toNat))
      |(go_loopw[5,15](LiI qM n l w) (λ_ iv _=>n-(intOf iv).toNat))
      |(go_loopw[5,15](LiI lM n l w) (λ_ iv _=>n-(intOf iv).toNat))
    {exact⟨0,_,_,_,de _,rfl,rfl,HP,hb0⟩};{
 obtain⟨k,p2,c2,Ls,hk,rfl,rfl,ho,aC⟩:=hrel;by_cases aH:k<n;{
 have dm:=cM k n;have fg:k<J l:=ae en▸aH;let⟨y,hy⟩:=qH fg;have wk:IntKind.i64.wrap ((k:Int)+1)=((k+1:Nat):Int):=by rw[nW _ af];omega
 first
   | (have T0:LI:=l
      have hi:=ae hu y (bq hy);obtain⟨v,rfl⟩:∃v:Nat,y=(v:Int):=⟨y.toNat,af⟩;obtain⟨b,o,rfl,hc⟩:∃b o,p=(Ad b o)/\I wr (Ad b (o+k))=dU v:=by let⟨p',c',ev,hd⟩:=ae HR _ aC;obtain⟨rfl,-,-⟩:=mh ev;obtain h0|⟨b,o,h1,h2⟩:=hd;{rw[h0]at fg;simp at fg};{refine⟨b,o,h1,?_⟩;have:=h2 k fg;rw[ko,hy,tv]at this;exact this}
      have EL:=ai (be2 (n:=n) (F:=kL) hy (D:=vi v) rfl);clear fg hy
      go_wp21
      have kU:=ho;have ad0:=aC;refine(Va af).h ?_;rintro r w3⟨p3,c3,rfl,o3,aL⟩;obtain⟨M3,TW⟩:∃M,O (J (vi v)=M):=⟨_,rfl⟩;rw[ae TW]at o3⊢;clear hc ho aC)
   | (have T0:List aB:=l
      obtain⟨i,dl,qu⟩:=y;have hi:=ae hu _ (bq hy);dsimp only at hi;obtain⟨v,rfl⟩:∃v:Nat,i=(v:Int):=⟨i.toNat,af⟩;obtain⟨b,o,rfl,mu,gm,pq,nq,cq,im⟩:∃b o,p=(Ad b o)/\I wr (Ad b (o+k*3))=dU v/\I wr (Ad b (o+k*3+1))=dI dl/\∃pq nq cq,I wr (Ad b (o+k*3+2))=dS pq nq cq:=by let⟨p',c',ev,hd⟩:=ae HR _ aC;obtain⟨rfl,-,-⟩:=mh ev;obtain h0|⟨b,o,h1,h2⟩:=hd;{rw[h0]at fg;simp at fg};{let⟨d1,d2,u,d3,d4⟩:=h2 k _ hy;obtain⟨pq,cq,rfl,-⟩:=d4;exact⟨b,o,h1,d1,d2,pq,_,cq,d3⟩}
      have EL:=ai (be2 (n:=n) (F:=qM) hy (D:=vi v) rfl);clear fg hy
      go_wp21
      let⟨X,hX⟩:=aF (wr.alloc (dO #[.U v,.I dl,.S pq nq cq] 148));have xj:=ir hX;have kU:=ai (ho.H Kq.W xj);have ad0:=aj aC xj;rw[<-hX];clear hX ho aC xj;refine(CS v dl pq nq cq X af).h ?_;rintro r w3⟨p3,c3,rfl,o3,aL⟩;obtain⟨M3,TW⟩:∃M,O (J (vi v)=M):=⟨_,rfl⟩;rw[ae TW]at o3⊢;clear mu gm im)
   | (have hi:=hu.d y (bq hy)
      have hlen:=(aX6 hu.w y (bq hy)).1;obtain⟨b,o,rfl,PP,PV,PH,PU,Gw⟩:∃b o,p=(Ad b o)/\∃P V H iU,KL wr b (o+k*8) y P V H iU:=by let⟨p',c',ev,hd⟩:=ae HR _ aC;obtain⟨rfl,-,-⟩:=mh ev;obtain h0|⟨b,o,h1,h2⟩:=hd;{rw[h0]at fg;simp at fg};{exact⟨b,o,h1,h2 k _ hy⟩}
      obtain⟨pA,cA,nA,rfl,eA⟩:=Gw.r0.fq;obtain⟨pB,cB,nB,rfl,eB⟩:=Gw.r1.fq;obtain⟨pD,cD,nD,rfl,eD⟩:=Gw.r4.fq;obtain⟨pU,cU,nU,rfl,-⟩:=Gw.r7.fq;obtain⟨mu,gm,im,vu,EO,uq,rH,hc7,q0,q1,q4,-,-⟩:=Gw;have QQ:=eG q0 q1 q4;obtain⟨⟨j1,j2,j3⟩,j4,j5,j6,j7,j8⟩:=hi;rw[ae eA]at j1;rw[ae eB]at j2;rw[ae eD]at j3;have J8:=ai j8;obtain⟨ow,GI⟩:∃v:Nat,y.D=(v:Int):=⟨y.D.toNat,af⟩;obtain⟨ep,WY⟩:∃v:Nat,y.P=(v:Int):=⟨y.P.toNat,af⟩;obtain⟨ge,WX⟩:∃v:Nat,y.F=(v:Int):=⟨y.F.toNat,af⟩;obtain⟨mo,WU⟩:∃v:Int,y.M=v:=⟨_,rfl⟩;rw[GI]at im j5;rw[WY]at uq j6;rw[WX]at rH j7;rw[WU]at vu j4;obtain⟨M3,TW⟩:∃M,O (J (lM y)=M):=⟨_,di⟩;have eNB:O (lM y=Ge y.A y.V ow mo y.y ep ge):=by show _=_;rw[lM,GI,WY,WX,WU];rfl
      have eF2:O (J (Ge y.A y.V ow mo y.y ep ge)=M3):=by show _=_;rw[<-ae eNB];exact ae TW
      rw[ae TW]at hlen;clear q0 q1 q4 j8 GI WY WX WU;have EL:=ai (be2 (n:=n) (F:=lM) hy (D:=lM y) rfl);clear fg hy
      go_wp21
      let⟨X,hX⟩:=aF (wr.alloc (dO #[.S pA nA cA,.S pB nB cB,.U ow,.I mo,.S pD nD cD,.U ep,.U ge,.S pU nU cU] 149));have xj:=ir hX;have kU:=ai (ho.H Kq.W xj);have ad0:=aj aC xj;rw[<-hX];refine(CN pA pB pD nA cA nB cB nD cD (.S pU nU cU) y.A y.V y.y ow ep ge mo eA eB eD X (QQ.1.H xj) (QQ.2.1.H xj) (QQ.2.2.H xj) af af af J8 af af af j4 M3 eF2 af).h ?_;clear hX ho aC xj;rintro r w3⟨p3,c3,rfl,o3,aL⟩;rw[<-ae eNB]at o3;clear mu gm im vu EO uq rH hc7)
 let⟨v3,gM⟩:=aF (w3.alloc (dO #[.S p3 M3 c3] 22));have hA:=ir gM;have hcZ:∀j u,([.S p3 M3 c3]:List dV)[j]?=Y u->I v3 (Aw w3 j)=Y u:=gM▸Ub;have z4:U v3.heap=U w3.heap+1:=by rw[gM];simp
 have o4:=Own.H o3 hA;obtain⟨lb,q1,q2,-,-⟩:=YF (kd:=.u8) o4;have z3:=aL.size;have zr:=ad0.size;have hlV:=ai λb eb=>(kU.lt.1 b eb).1;let⟨row,wX,xl⟩:=kU.app Kq.W (aj aL hA) (Kq.of TW o4.rd q1) rfl q2 zr;rw[dN9 (by rw[ae en];omega)]at wX xl;have aa1:=ai xl;have DW:=ai wX;have b3:=ai (aj ad0 (aj aL hA));have FB:=ai hcZ;clear xl wX o3 o4 q1 q2 kU aL hA ad0 hcZ;go_wp2_with(at_builtin;rw[<-gM];refine FO rfl 47 rfl ib 1 underlying47 Wu jk fI gv rfl bf (.S p2 (k+1) c2) rfl DW (U w3.heap) 1 1 [.S p3 M3 c3] rfl rfl FB (λu hu=>by simp at hu;subst hu;rfl) kW af af ?_);intro v' w9 gF hg Cf;have il:∀g,v'.ownBlock=Y g->(Value.slice p2 (k+1) c2).ownBlock=Y g\/U v3.heap<=g:=λg eg=>by have:=Cf g eg;rw[gM];simpa using this
 rw[<-gM]at hg;obtain⟨sn,p9,c9,rfl⟩:=ae aa1 v' w9 gF hg il;rw[ae EL]at sn;have km:Bw w w9:=b3.grown hg b3.size (λb hb=>ae hlV b hb);have SN:=ai sn;clear sn EL gF hg il Cf gM aa1 DW b3;go_wp2;go_roundw;{exact⟨k+1,_,_,_,af,rfl,by go_num,SN,km⟩};{simp[intOf];omega}};{
 have dm:=ga k n;obtain rfl:n=k:=af;obtain⟨iG,vs,rfl,hPa,LX,EE⟩:=dO0 en ho;clear ho hk aH
 go_wp21
 refine(dT0 LX EE eN hPa hN af).h ?_;rintro r w5⟨p5,c5,rfl,o5,eh⟩;have b5:=aj aC eh;have O5:=ai (Own.h (B':=U w.heap) o5 aC.size);clear o5 eh;go_wp2;go_ret;exact⟨p5,c5,rfl,O5,b5⟩}}):q:=h'
theorem dN4(en:Le l n){w:G}(h:kI w (.S p n c) l)(m:n<=900)(hu:O (∀i∈l,0<=i/\i<2^64))(eN:O (J (pL kL l)=N))(hN:N<=2^22):Cp 197 #[.S p n c,.func (.func 130) #[] #[]] w λe w'=>∃p' c',e=dR (.S p' N c')/\Own (U (Q w)) w' (.S p' N c') (pL kL l)/\Bw w w':=liW
abbrev zF(w:G)(b:Nat)(v0 v1 v2 v3 v4 v5 v6 v7:dV):Prop:=I w (Ad b 0)=v0/\I w (Ad b 1)=v1/\I w (Ad b 2)=v2/\I w (Ad b 3)=v3/\I w (Ad b 4)=v4/\I w (Ad b 5)=v5/\I w (Ad b 6)=v6/\I w (Ad b 7)=v7
theorem zF.H{w w':G}(h:zF w b v0 v1 v2 v3 v4 v5 v6 v7)(i:Bw w w'):zF w' b v0 v1 v2 v3 v4 v5 v6 v7:=
 ⟨aq h.1 i,aq h.2.1 i,aq h.2.2.1 i,aq h.2.2.2.1 i,aq h.2.2.2.2.1 i,aq h.2.2.2.2.2.1 i,aq h.2.2.2.2.2.2.1 i,aq h.2.2.2.2.2.2.2 i⟩
theorem dA7(h:I u (Ad b 0)=Y (jK .u8 y)):Rd u (.T b 1 1) [y]:=by
 refine⟨_,_,rfl,.R ⟨b,0,rfl,λi j=>?_⟩⟩;cases(by simpa using j:i=0);simpa using h
theorem Vc{v:Nat}{w:G}(o:v<2^64)(m:O (J (vi v)=M)):Cp 130 #[.U v] w λe w'=>∃i j,e=dR (.S i M j)/\Own (U (Q w)) w' (.S i M j) (vi v)/\Bw w w':=by
 cases ae m;exact Va o
theorem dT1{y u:LI}(e:O (lm=cat [l0,l1,l2,l3,l4,y,u]))(en:Le lm N)(W:Rd X v0 l0)(V:Rd X v1 l1)(R:Rd X v2 l2)(M:Rd X v3 l3)(E:Rd X v4 l4)(D:Rd X v5 y)(B:Rd X v6 u)(Z:N<=2^22):Cp 129 #[.T (U (Q X)) 7 7] (jA X (dO #[v0,v1,v2,v3,v4,v5,v6] 22)) λe w'=>∃r s,e=dR (.S r N s)/\Own (U (Q X)) w' (.S r N s) lm/\Bw X w':=by
 have q:Bw X (jA X (dO #[v0,v1,v2,v3,v4,v5,v6] 22)):=cY;refine(Gt (vs:=[v0,v1,v2,v3,v4,v5,v6]) [l0,l1,l2,l3,l4,y,u] 7 rfl e en ⟨rfl,λj v x m i=>?_⟩ Z af).h ?_;{
 match j,m,i with
 |0,m,i=>simp at m i;subst m i;exact⟨al,W.H q⟩
 |1,m,i=>simp at m i;subst m i;exact⟨al,V.H q⟩
 |2,m,i=>simp at m i;subst m i;exact⟨al,R.H q⟩
 |3,m,i=>simp at m i;subst m i;exact⟨al,M.H q⟩
 |4,m,i=>simp at m i;subst m i;exact⟨al,E.H q⟩
 |5,m,i=>simp at m i;subst m i;exact⟨al,D.H q⟩
 |6,m,i=>simp at m i;subst m i;exact⟨al,B.H q⟩}
 {rintro e w'⟨r,s,rfl,o,hb⟩;exact⟨r,s,rfl,Own.h o al,aj q hb⟩}
def Ge(P V:LI)(i:Nat)(j:Int)(H:LI)(o m:Nat):LI:=cat [tx P,tx V,vi i,[j],pL kL H,vi o,vi m]
def lM(nd:au):LI:=Ge nd.A nd.V (jN nd.D) nd.M nd.y (jN nd.P) (jN nd.F)
theorem dI8(p q r:OA)(n c m d k f:Nat)(iU:dV)(P V H:LI)(x B y:Nat)(u:Int)(eP:Le P n)(eV:Le V m)(eH:Le H k)(w:G)(hP:Rd w (.S p n c) P)(hV:Rd w (.S q m d) V)(hH:kI w (.S r k f) H)(bn:Mg n)(bm:Mg m)(bk:k<=900)(hu:O (∀i∈H,0<=i/\i<2^64))(b1:x<2^64)(b2:B<2^64)(b3:y<2^64)(bmo:0<=u/\u<=2)(N:Nat)(eN:O (J (Ge P V x u H B y)=N))(hN:N<=2^22):dQ dG 134 #[Ee (.S p n c) (.S q m d) x u (.S r k f) B y iU] w λe w'=>∃p' c',e=dR (.S p' N c')/\Own (U (Q w)) w' (.S p' N c') (Ge P V x u H B y)/\Bw w w':=by
 have HP:=ai λ(w':G)(hb:Bw w w')=>aE (hP.H hb) (aE (hV.H hb) (hH.H hb));clear hP hV hH;have wm:IntKind.u8.wrap u=u:=by rw[LK];omega
 obtain⟨N0,e0⟩:∃M,O (J (tx P)=M):=⟨_,di⟩;obtain⟨N1,e1⟩:∃M,O (J (tx V)=M):=⟨_,di⟩;obtain⟨N2,e2⟩:∃M,O (J (vi x)=M):=⟨_,di⟩;obtain⟨N4,e4⟩:∃M,O (J (pL kL H)=M):=⟨_,di⟩;obtain⟨N5,e5⟩:∃M,O (J (vi B)=M):=⟨_,di⟩;obtain⟨N6,e6⟩:∃M,O (J (vi y)=M):=⟨_,di⟩;have Tj:N4<=2^22:=by have h1:=ae eN;have h2:=ae e4;simp only[Ge,cat,vF,fe]at h1;omega
 have EE:O (Ge P V x u H B y=cat [tx P,tx V,vi x,[u],pL kL H,vi B,vi y]):=ai (by rfl);let⟨W0,cT⟩:=aF (jA w (dO #[.S p n c,.S q m d,.U x,.I u,.S r k f,.U B,.U y,iU] 149));have hA8:zF W0 (U (Q w)) (.S p n c) (.S q m d) (.U x) (.I u) (.S r k f) (.U B) (.U y) iU:=by rw[cT];simp[zF,go_sem]
 go_in
 go_wp21
 rw[<-cT];let⟨v,fK⟩:=aF W0.drew;have X:O (Bw w v):=fK▸(ir cT).drew;have S:O (zF v (U (Q w)) (.S p n c) (.S q m d) (.U x) (.I u) (.S r k f) (.U B) (.U y) iU):=fK▸hA8;refine fw (λw'=>zF w' (U (Q w)) (.S p n c) (.S q m d) (.U x) (.I u) (.S r k f) (.U B) (.U y) iU) (fK▸ae S) λhS=>?_;rw[<-fK]at hS⊢;clear fK cT hA8;refine gr 0 1 3 4 6 7 9 10 hS ?_;refine iy 11 13 14 16 hS ?_;refine fu 17 19 hS ?_;refine tn 20 hS ?_
 iterate 7 (
  all_goals(first|refine xG 2 (λs hK=>?_)|refine xG 5 (λs hK=>?_)|refine xG 8 (λs hK=>?_)|refine xG 15 (λs hK=>?_)|refine xG 18 (λs hK=>?_)|refine xG 21 (λs hK=>?_)|refine xG 12 (λs hK=>?_)|refine CL 2 12 (λs hK=>?_) (λs hK=>?_)|refine CL 5 12 (λs hK=>?_) (λs hK=>?_)|refine CL 8 12 (λs hK=>?_) (λs hK=>?_)|refine CL 12 15 (λs hK=>?_) (λs hK=>?_)|refine CL 12 18 (λs hK=>?_) (λs hK=>?_)|refine CL 12 21 (λs hK=>?_) (λs hK=>?_))
  all_goals(first
   |(
    refine Tag.go 2 (ju (ap2 eP (ae HP _ X).1 bn e0) ?_);rintro z9 W⟨pA,cA,rfl,o,hb⟩;refine fE ?_;have RA:=ai o.rd;clear o)
   |(
    refine Tag.go 5 (ju (ap2 eV (ae HP _ X).2.1 bm e1) ?_);rintro z9 W⟨pB,cB,rfl,o,hb⟩;refine fE ?_;have RB:=ai o.rd;clear o)
   |(
    refine Tag.go 8 (ju (Vc b1 e2) ?_);rintro z9 W⟨pC,cC,rfl,o,hb⟩;refine fE ?_;have RC:=ai o.rd;clear o)
   |(
    refine Tag.go 15 (uG (dN4 eH (ae HP _ X).2.2 bk hu e4 Tj) ?_);rintro z9 W⟨pD,cD,rfl,o,hb⟩;refine fE ?_;have RD:=ai o.rd;clear o)
   |(
    refine Tag.go 18 (ju (Vc b2 e5) ?_);rintro z9 W⟨pE,cE,rfl,o,hb⟩;refine fE ?_;have RE:=ai o.rd;clear o)
   |(
    refine Tag.go 21 (ju (Vc b3 e6) ?_);rintro z9 W⟨pF,cF,rfl,o,hb⟩;refine fE ?_;have RF:=ai o.rd;clear o)
   |(
    refine Tag.go 12 ?_;go_simp;let⟨W,hv⟩:=aF (jA v (dO #[jK .u8 u] 5));have hb:=ir hv;have hp:I W (Ad (U (Q v)) 0)=Y (jK .u8 u):=by rw[hv];simp
    rw[<-hv];let⟨GL,hGL⟩:=aF (U (Q v));rw[<-hGL]at hp⊢;have RL:=ai (dA7 hp);clear hv hp hGL))
  all_goals(
   let⟨S,X⟩:=aQ (S.H hb) (aj X hb)
   try have RA:=ai (RA.H hb)
   try have RB:=ai (RB.H hb)
   try have RC:=ai (RC.H hb)
   try have RD:=ai (RD.H hb)
   try have RE:=ai (RE.H hb)
   try have RF:=ai (RF.H hb)
   try have RL:=ai (RL.H hb)
   refine bS hK (by exact S) λhS=>?_;clear hK s hb
   rename G=>v
   skip))
 all_goals(
  refine fy 22 (λs hK=>?_);go_simp;let⟨iY,hY⟩:=aF (jA v (dO #[.S pA N0 cA,.S pB N1 cB,.S pC N2 cC,.T GL 1 1,.S pD N4 cD,.S pE N5 cE,.S pF N6 cF] 22));have hbY:=ir hY;let⟨SY,JJ⟩:=aQ (S.H hbY) (dT1 EE eN RA RB RC RL RD RE RF hN);rw[<-hY]at JJ⊢;refine bS hK (by exact SY) λhS=>?_;clear hK s hY hbY;refine fy 23 (λs hK=>?_);refine ju JJ ?_;rintro z9 Z⟨pj,cj,rfl,oj,mg⟩;refine fE ?_;have FI:=bG (Own.h (B':=U (Q w)) oj X.size) (aj (ae X) mg);refine bS hK (by exact S.H mg) λhS=>?_;clear hK s oj mg;refine tn 24 hS ?_;refine fQ ?_;clear hS;go_wp2;go_ret;exact⟨pj,cj,rfl,FI⟩
  skip)
def qM(s:aB):LI:=vi (jN s.1)
theorem du2(v:Nat)(d:Int)(p:OA)(n c:Nat)(w:G)(y:v<2^64):dQ dG 132 #[jP #[.U v,.I d,.S p n c]] w λe w'=>∃i m,e=dR (.S i (J (vi v)) m)/\Own (U (Q w)) w' (.S i (J (vi v)) m) (vi v)/\Bw w w':=by
 go_in
 go_wp21
 refine(Va y).h ?_;rintro r B⟨q,u,rfl,j,o⟩;have x:=aj cY o;have s:=Own.h (B':=U (Q w)) j al;clear j o;go_wp2;go_ret;exact⟨q,u,rfl,s,x⟩
theorem dN5{l:List aB}(en:Le l n){w:G}(h:nM w (.S p n c) l)(m:n<=900)(hu:O (∀s∈l,0<=s.1/\s.1<2^64))(eN:O (J (pL qM l)=N))(hN:N<=2^22):Cp 131 #[.S p n c,.func (.func 132) #[] #[]] w λe w'=>∃p' c',e=dR (.S p' N c')/\Own (U (Q w)) w' (.S p' N c') (pL qM l)/\Bw w w':=by
 have CS:=@du2;exact liW
def sL(e g x:Nat)(ss:List aB)(ns:List au):LI:=cat [vi e,vi g,vi x,pL qM ss,pL lM ns]
theorem ck0{α:Type}(f:α->LI)(h:α->α)(hf:∀x,f (h x)=f x)(l:List α):pL f (l.map h)=pL f l:=by
 rw[pL,pL,iC,uI];congr 2;exact RM λx _=>hf x
theorem bT6(e g x:Nat)(ss:List aB)(ns:List au):sL e g x (ss.map pZ) (ns.map qP)=sL e g x ss ns:=by
 rw[sL,sL,ck0 qM pZ (λ_=>rfl),ck0 lM qP (λ_=>rfl)]
theorem aG1{α:Type}(f:α->LI)(C:Nat):∀l:List α,(∀x∈l,J (f x)<=C)->J (cat (l.map f))<=C*J l
 |[],_=>de _
 |x::l,h=>by have j:=aG1 f C l λy i=>h y (by simp[i]);have m:=h x al;rw[od,cat,vF,fe,mO,ba4];rw[cat]at j;omega
theorem JO{α:Type}(f:α->LI)(l:List α):pL f l=vi (J l)++cat (l.map f):=by rw[pL,cat,vF,cat]
structure Cx(ss:List aB)(ns:List au):Prop where
 n1:J ss<=50
 n2:J ns<=200
 s:∀s∈ss,0<=s.1/\s.1<2^64
 d:∀nd∈ns,(J nd.A<=136/\J nd.V<=40/\J nd.y<=50)/\(0<=nd.M/\nd.M<=2)/\(0<=nd.D/\nd.D<2^64)/\(0<=nd.P/\nd.P<2^64)/\(0<=nd.F/\nd.F<2^64)/\∀i∈nd.y,0<=i/\i<2^64
theorem Cx.w(h:Cx ss ns):SmW ss ns:=⟨gq h.n1 (by decide),gq h.n2 (by decide),h.s,λi j=>by
 let⟨⟨a,b,c⟩,d,e⟩:=h.d i j;exact⟨⟨a,af,af⟩,af,e⟩⟩
theorem Cx.dur(h:Cx ss ns):Cx (ss.map pZ) (ns.map qP):=by
 refine⟨by rw[iC];exact h.n1,by rw[iC];exact h.n2,λs o=>?_,λr q=>?_⟩;{obtain⟨j,i,rfl⟩:=fM.1 o;exact h.s j i};{obtain⟨m,i,rfl⟩:=fM.1 q;exact h.d m i}
theorem aS2{g:Int}(h:nT e g x t ss ns)(y:Bu ns)(u:Bo ns)(s:∀nd∈ns,(0<=nd.P/\nd.P<2^64)/\0<=nd.F/\nd.F<2^64):Cx ss ns:=by
 let⟨N,M,E,W,D⟩:=(aR4 e g x t ss ns).1 h;simp only[Ol,mn]at N;refine⟨af,af,aS9 M af,λnd j=>?_⟩;have r:=E;rw[CQ,gP]at r;have q:=((Ky ns kx (CM e g)).1 λi o=>mL.1 r.1 i (xK.2 o)) nd j;simp only[CM,gP,mn]at q;obtain⟨V,S,m,R,X⟩:=q;refine⟨⟨Jm V,S,?_⟩,?_,u nd j,(s nd j).1,(s nd j).2,(y nd j).1⟩;{
 have:=Zz nd.y (ss.map (·.1)) ((bC4 R).imp (λ{a b}Z=>af)) λi o=>by have:=D nd j i (by unfold Nb;simp[o]);obtain⟨z,B,rfl⟩:=(be1 (ss:=ss) (i:=i)).1 this;exact fM.2 ⟨z,B,rfl⟩
 rw[iC]at this;omega};{unfold qW at m;split at m;{omega};{simp only[gP]at m;have:=m.2.2;split at this;{omega};{simp only[gP,Gi]at this;omega}}}
theorem aX6(h:SmW ss ns):∀nd∈ns,J (lM nd)<=800/\J (pL kL nd.y)<=520:=by
 intro nd i;obtain⟨⟨q,o,m⟩,-⟩:=h.d nd i;have E:=Jp nd.A;have D:=Jp nd.V;have B:=qK (jN nd.D);have y:=qK (jN nd.P);have u:=qK (jN nd.F);have j:J (pL kL nd.y)<=520:=by have s:=qK (J nd.y);have r:=aG1 kL 10 nd.y λx _=>(qK _).2;rw[JO,fe];omega
 refine⟨?_,j⟩;simp only[lM,Ge,cat,vF,bc8,fe,mO,BJ];omega
theorem bT5{e x:Nat}(h:SmW ss ns):J (sL e g x ss ns)<=190000/\J (pL qM ss)<=600/\J (pL lM ns)<=170000:=by
 have y:=qK e;have u:=qK g;have s:=qK x;have r:=qK (J ss);have q:=aG1 qM 10 ss λx _=>(qK _).2;have o:=qK (J ns);have b4:=aG1 lM 800 ns λx i=>(aX6 h x i).1;have:=h.n1;have:=h.n2;have m:J (pL qM ss)<=600:=by rw[JO,fe];omega
 have j:J (pL lM ns)<=170000:=by rw[JO,fe];omega
 refine⟨?_,m,j⟩;simp only[sL,cat,vF,bc8,fe,BJ];omega
def Fg(e g x t:Int)(ss:List aB)(ns:List au):LI:=if nT e g x t ss ns then sL (jN e) (jN g) (jN x) ss ns else[]
theorem Own.nil(B:Nat)(w:G):Own B w ay []:=⟨rfl,.L ⟨rfl,rfl⟩⟩
theorem dN6{l:List au}(en:Le l n){w:G}(h:iw w (.S p n c) l)(m:n<=900)(hu:O (Cx ss l))(eN:O (J (pL lM l)=N))(hN:N<=2^22):dQ dG 133 #[.S p n c,.func (.func 134) #[] #[]] w λe w'=>∃p' c',e=dR (.S p' N c')/\Own (U (Q w)) w' (.S p' N c') (pL lM l)/\Bw w w':=by
 have CN:=@dI8;exact liW
theorem dS9(e:O (lm=cat [l0,l1,l2,l3,l4]))(D:Le lm N)(x:Rd X v0 l0)(u:Rd X v1 l1)(s:Rd X v2 l2)(r:Rd X v3 l3)(q:Rd X v4 l4)(y:N<=2^22):Cp 129 #[.T (U (Q X)) 5 5] (jA X (dO #[v0,v1,v2,v3,v4] 22)) λe w'=>∃j m,e=dR (.S j N m)/\Own (U (Q X)) w' (.S j N m) lm/\Bw X w':=by
 have i:Bw X (jA X (dO #[v0,v1,v2,v3,v4] 22)):=cY;refine(Gt [l0,l1,l2,l3,l4] 5 rfl e D (cd1 al al al al al (x.H i) (u.H i) (s.H i) (r.H i) (q.H i)) y af).h ?_;rintro e w'⟨j,m,rfl,o,B⟩;exact⟨j,m,rfl,Own.h o al,aj i B⟩
variable {L:Nat}
theorem co6{e x:Nat}(he:e<2^64)(hg:g<2^64)(hx:x<2^64)(en:Le ss n)(em:Le ns m){w:G}(h:nM w (.S p n c) ss)(hN:iw w (.S q m d) ns)(hn:Mg n)(hm:Mg m)(ig:O (Bs ss))(dr:O (Bn ns))(tG:O (Bu ns))(yQ:O (Bo ns))(Gz:O (∀nd∈ns,(0<=nd.P/\nd.P<2^64)/\0<=nd.F/\nd.F<2^64))(rI:ML w){R:LI}(eR:O (Fg e g x t ss ns=R))(eL:Le R L):dQ dG 68 #[cO e g x t (.S p n c) (.S q m d)] w λr w'=>∃p' c',r=dR (.S p' L c')/\Own (U (Q w)) w' (.S p' L c') R/\Bw w w':=by
 have HR:=ai λ(w':G)(hb:Bw w w')=>aE (h.H hb) (aE (hN.H hb) (rI.H hb));obtain⟨B,eB⟩:∃B,O (nT e g x t ss ns=B):=⟨_,di⟩;let⟨W,hW⟩:=aF (jA w (dO #[.U e,.U g,.U x,.I t,.S p n c,.S q m d] 44));have bW:=ir hW;have rH:jg W (U (Q w)) e g x t (.S p n c) (.S q m d):=by rw[hW];simp[jg]
 go_in
 go_wp21
 rw[<-hW];refine cL (bh2 en em (ae HR _ bW).1 (ae HR _ bW).2.1 hn hm ig dr tG yQ (ae HR _ bW).2.2 eB) λw1 V=>?_;have b1:=aj bW V;cases B with
 |false=>
  have e1:=ae eR;rw[Fg,aJ (by rw[ae eB];simp)]at e1;subst e1;cases eL.C;go_wp2;go_ret;exact⟨dN,0,rfl,Own.nil _ _,b1⟩
 |true=>
  have i0:=rH.H V;have hS:=aS2 eB tG yQ Gz;have WD:R=sL e g x (ss.map pZ) (ns.map qP):=by have:=ae eR;rw[Fg,aK (ae eB)]at this;rw[<-this,bT6];simp
  have ur:=hS.dur;have j:=bT5 (e:=e) (g:=g) (x:=x) ur.w;have hn5:n<=50:=by have:=hS.n1;rw[ae en]at this;exact this
  have hm5:m<=200:=by have:=hS.n2;rw[ae em]at this;exact this
  let⟨sl,PJ⟩:=aF (ss.map pZ);let⟨nl,iq⟩:=aF (ns.map qP);have xr:Le sl n:=ai (by rw[PJ,iC];exact ae en);have em2:Le nl m:=ai (by rw[iq,iC];exact ae em);rw[<-PJ,<-iq]at ur WD j;have EE:O (R=cat [vi e,vi g,vi x,pL qM sl,pL lM nl]):=WD;have hL:L<=2^22:=by have h1:=j.1;rw[<-WD,ae eL]at h1;omega
  obtain⟨N0,e0⟩:∃M,O (J (vi e)=M):=⟨_,di⟩;obtain⟨N1,e1⟩:∃M,O (J (vi g)=M):=⟨_,di⟩;obtain⟨N2,e2⟩:∃M,O (J (vi x)=M):=⟨_,di⟩;obtain⟨N3,e3⟩:∃M,O (J (pL qM sl)=M):=⟨_,di⟩;obtain⟨N4,e4⟩:∃M,O (J (pL lM nl)=M):=⟨_,di⟩;have tS:N3<=2^22:=by have h1:=j.2.1;rw[ae e3]at h1;omega
  have Tj:N4<=2^22:=by have h1:=j.2.2;rw[ae e4]at h1;omega
  have pX:=ai ur;have pG:O (∀s∈sl,0<=s.1/\s.1<2^64):=ur.s
  go_wp21
  refine(eH7 en em (ae HR _ b1).1 (ae HR _ b1).2.1 hn hm (PF eB ig dr) dr tG).h ?_;rintro z9 w2⟨ps,cs,pn,dn,rfl,ow2,X⟩;have b2:=aj b1 X;obtain⟨A1,A2,r1,r2,-⟩:=ow2;rw[<-PJ]at r1;rw[<-iq]at r2;have R2:=bG r1 r2
  go_wp21
  let⟨W0,cT⟩:=aF (jA w2 (dO #[.U e,.U g,.U x,.I 0,.S ps n cs,.S pn m dn] 44));have Ug:=ir cT;have y:jg W0 (U (Q w2)) e g x 0 (.S ps n cs) (.S pn m dn):=by rw[cT];simp[jg]
  let⟨GB,hGB⟩:=aF (U (Q w2));rw[<-cT];rw[<-hGB]at y⊢;let⟨v0,fK⟩:=aF W0.drew;have BW0:O (Bw w v0):=fK▸(aj b2 Ug).drew;have S0:O (jg v0 GB e g x 0 (.S ps n cs) (.S pn m dn)):=fK▸y;have D0:O (nM v0 (.S ps n cs) sl/\iw v0 (.S pn m dn) nl):=by rw[fK];exact⟨R2.1.H Ug.drew,R2.2.H Ug.drew⟩
  refine fw (λw'=>jg w' GB e g x 0 (.S ps n cs) (.S pn m dn)) (fK▸ae S0) λhS=>?_;rw[<-fK]at hS⊢;clear fK cT Ug y hGB R2 b2;refine gr 0 1 3 4 6 7 9 10 hS ?_;refine fu 12 13 hS ?_;refine ry [2] ?_;refine cn (λKK hK=>?_) ?_;{refine ju (Vc he e0) ?_;rintro z9 v1⟨pA,cA,rfl,oA,V⟩;refine⟨_,rfl,?_⟩;have S1:=ai (S0.H V);have D1:=bG (D0.1.H V) (D0.2.H V);refine bS hK S1 λhS=>?_;refine fy 5 λKK hK=>?_;refine ju (Vc hg e1) ?_;rintro z9 v2⟨pB,cB,rfl,oB,X⟩;refine fE ?_;have S2:=ai (S1.H X);have D2:=bG (D1.1.H X) (D1.2.H X);refine bS hK S2 λhS=>?_;refine fy 8 λKK hK=>?_;refine ju (Vc hx e2) ?_;rintro z9 v3⟨pC,cC,rfl,oC,aL⟩;refine fE ?_;have S3:=ai (S2.H aL);have D3:=bG (D2.1.H aL) (D2.2.H aL);refine bS hK S3 λhS=>?_;refine fy 11 λKK hK=>?_;refine uG (dN5 xr D3.1 af pG e3 tS) ?_;rintro z9 v4⟨pD,cD,rfl,oD,N⟩;refine fE ?_;have S4:=ai (S3.H N);refine bS hK S4 λhS=>?_;refine fy 14 λKK hK=>?_;refine uG (dN6 em2 (bG (D3.1.H N) (D3.2.H N)).2 af pX e4 Tj) ?_;rintro z9 v5⟨pE,cE,rfl,oE,eh⟩;refine fE ?_;let⟨S5,BW5⟩:=aQ (S4.H eh) (aj (aj (aj (aj (aj BW0 V) X) aL) N) eh);refine bS hK S5 λhS=>?_;refine fy 15 λKK hK=>?_;go_simp;let⟨iY,hY⟩:=aF (jA v5 (dO #[.S pA N0 cA,.S pB N1 cB,.S pC N2 cC,.S pD N3 cD,.S pE N4 cE] 22));have JJ:=ai (dS9 EE eL ((((oA.rd.H X).H aL).H N).H eh) (((oB.rd.H aL).H N).H eh) ((oC.rd.H N).H eh) (oD.rd.H eh) oE.rd hL);rw[<-hY]at JJ⊢;refine bS hK (S5.H (ir hY)) λhS=>?_;refine fy 16 λKK hK=>?_;refine ju JJ ?_;rintro z9 Z⟨pj,cj,rfl,oj,mg⟩;refine fE (bS hK (S5.H mg) λhS=>?_);refine tn 17 hS ?_;refine fQ ?_;go_wp2;go_ret;exact⟨pj,cj,rfl,bG (Own.h (B':=U (Q w)) oj BW5.size) (aj (ae BW5) mg)⟩};exact fN
section
variable {w0 w:World}{b bs bn:Nat}{D:SD}{SB NB HB UB:iN}{S F E iG:Int}{pp:OA}{np cp:Nat}{pq:OA}{nv cv:Nat}{P V:LI}
variable {k:Nat}
theorem ag3(m:1<=k)(j:k<=13)(i:qt k S F (J P) (J V) E iG):¬DK k S F (J P) (J V) E iG=dF:=by
 rw[DK,aK af,rY,i];simp
theorem aT0(h:¬mj D.E S<0):∃(i:Nat)(s:aB),mj D.E S=i/\D.E[i]?=Y s/\s.1=S:=by
 unfold mj at h⊢;cases hf:D.E.findIdx? (λs=>s.1==S)with
 |none=>rw[hf]at h;simp at h
 |some i=>
  obtain⟨m,j,-⟩:=Oe.1 hf;exact⟨i,_,rfl,bN m,by simpa using j⟩
theorem cf4(h:kP D.N P≠dN):∃(i:Nat)(nd:au),Aa D.N P=i/\D.N[i]?=Y nd/\nd.A=P/\kP D.N P=Y nd:=by
 have m:¬Aa D.N P<0:=λe=>h (cg5.1 e);unfold Aa at m⊢;cases hf:D.N.findIdx? (λnd=>dD (nd.A=P))with
 |none=>rw[hf]at m;simp at m
 |some i=>
  let⟨q,o,s⟩:=Oe.1 hf;refine⟨i,_,rfl,bN q,by simpa using o,?_⟩;rw[kP,List.find?_eq_some_iff_getElem];exact⟨by simpa using o,i,q,rfl,λj r=>by have:=s j r;simpa using this⟩
theorem eR6(cx:tZ w0 w b bs bn D SB NB HB UB S F E iG pp np cp pq nv cv P V):Cp 135 #[Pz b,nI (1:Nat) S (.S pp np cp) F (.S pq nv cv) E iG] w (zG w0 w b bs bn D (kG D (1:Nat) S F E iG P V)):=by
 refine xu cx 1 (Ln D) _ _ 296 (jP #[]) 336 335 (jP #[]) (λy=>⟨λw' c=>dG0 c.ps rfl,λhC w' c=>(dG1 c.ps ⟨c.gd.wf.x.1,(cd5 hC).2.2⟩ c.gd.wf.t (λs j e=>aM (c.gd.sx s j)) c.gd.sl).h λr w''⟨gN,h⟩=>tg.r h,?_⟩);have e:kG D (1:Nat) S F E iG P V=yE D:=by unfold kG;rw[aJ (ag3 bf bf (DO y).1),aK bf]
 rw[e];by_cases hC:Ln D=0;{rw[aK hC,(cd5 hC).1];rfl};{rw[aJ hC,dF9 hC]}
theorem eR9(cx:tZ w0 w b bs bn D SB NB HB UB S F E iG pp np cp pq nv cv P V):Cp 135 #[Pz b,nI (2:Nat) S (.S pp np cp) F (.S pq nv cv) E iG] w (zG w0 w b bs bn D (kG D (2:Nat) S F E iG P V)):=by
 refine xu cx 2 0 (Gs D (jN (mj D.E S))).1 (Gs D (jN (mj D.E S))).2 299 (jP #[.U S]) 337 338 (jP #[]) (λq=>?_) (hRk:=λ_=>by unfold Gs;split<;>(try split)<;>rfl);obtain⟨hB,o,-⟩:=DO q;let⟨i,s,u,m,j⟩:=aT0 (o rfl);refine⟨λw' c=>QL rfl,λ_ w' c=>?_,?_⟩;{have hk:=dS3 w' b bs bn D SB NB HB UB c.ps i s m (j▸c.hS) D.t rfl c.gd.wf.t;rw[j]at hk;rw[u,rY];refine hk.h λr w'' h=>?_;rw[cm9 m]at h⊢;exact tg.r h};{unfold kG;rw[aJ (ag3 bf bf hB),ri,aJ (by simp;intro _;omega),aK bf,aK rfl]}
theorem MX(r:4<=k)(j:k<=13)(s:k≠12)(m:yX D (rowOf k).1 (rowOf k).2.1 (qt k S F (J P) (J V) E iG) k S P=0):kG D k S F E iG P V=zO D k S F E iG P V:=by
 obtain⟨i,q,-⟩:=DO m;have o:¬((Dr k&&dD (mj D.E S<0))):=by clear m i;obtain rfl|rfl|rfl|rfl|rfl|rfl|rfl|rfl|rfl|rfl|rfl|rfl|rfl:=kinds af j<;>simp_all[Dr,rowOf]
 unfold kG;rw[aJ (ag3 af j i),aJ af,aJ o,aJ af,aJ af,aJ af]
variable {K:Int}
theorem as5(h:Gd D K P=0):BG K P=dY\/(BG K P=dF/\vp P/\(NJ K->kP D.N P≠dN)):=by
 unfold Gd at h;cases hr:BG K P with
 |true=>exact .L rfl
 | false=>
  refine .R ⟨rfl,?_⟩;rw[hr]at h;cases hv:vp P with
  |false=>rw[hv]at h;simp at h
  |true=>
   refine⟨rfl,λj i=>?_⟩;rw[hv]at h;simp[j,i]at h
theorem YG(h:K≠13):BG K P=dF:=by simp[BG,h]
theorem Vo(r:k=5\/k=6\/k=7\/k=8\/k=9\/k=11)(h:Gd D k P=0):∃(i:Nat)(nd:au),D.N[i]?=nd/\nd.A=P/\zO D k S F E iG P V=BI D i k S F V:=by
 have m:(k:Int)≠13:=af;obtain j|⟨j,o,q⟩:=as5 h;{rw[YG m]at j;cases j};{obtain⟨i,nd,x,u,s,-⟩:=cf4 (q (by obtain rfl|rfl|rfl|rfl|rfl|rfl:=r<;>rfl));refine⟨i,nd,u,s,?_⟩;unfold zO;rw[j,o,aJ al,aJ af,aJ af,aJ bL,aJ m,x,rY]}
theorem eS3(cx:tZ w0 w b bs bn D SB NB HB UB S F E iG pp np cp pq nv cv P V):Cp 135 #[Pz b,nI (3:Nat) S (.S pp np cp) F (.S pq nv cv) E iG] w (zG w0 w b bs bn D (kG D (3:Nat) S F E iG P V)):=by
 refine xu cx 3 0 (yh D S) iS 300 (jP #[.U S]) 337 339 (jP #[]) (λo=>?_);obtain⟨hB,m,-⟩:=DO o;let⟨i,s,x,u,q⟩:=aT0 (m rfl);refine⟨λw' c=>QL rfl,λ_ w' c=>?_,?_⟩;{have j:=eO1 c.ps c.gd.ci c.gd.pw u rfl (av3 c.gd.nl);rw[q]at j;exact j.h λr w''⟨_,_,_,_,h⟩=>tg.r h};{unfold kG;rw[aJ (ag3 bf bf hB),ri,aJ (by simp;intro _;omega),ri,aK bf,aK rfl]}
theorem eR4(cx:tZ w0 w b bs bn D SB NB HB UB S F E iG pp np cp pq nv cv P V):Cp 135 #[Pz b,nI (12:Nat) S (.S pp np cp) F (.S pq nv cv) E iG] w (zG w0 w b bs bn D (kG D (12:Nat) S F E iG P V)):=by
 let⟨s,es⟩:=bu ((D.E[jN (mj D.E S)]?).getD (0,0,[]));refine xu cx 12 0 {D with E:=D.E.set (jN (mj D.E S)) (s.1,s.2.1,[])} {iS with kF:=s.2.2} 316 (jP #[.U S]) 337 361 (jP #[]) (λB=>?_);obtain⟨hB,y,-⟩:=DO B;let⟨i,s',j,e2,m⟩:=aT0 (y rfl);rw[j,rY,e2,tv]at es;subst es;have hm:=bq e2;refine⟨λw' c=>QL rfl,λ_ w' c=>?_,?_⟩;{have hk:=dC1 w' b bs bn D SB NB HB UB c.ps i s' e2 (m▸c.hS) _ rfl (c.gd.ql s' hm).1 (c.gd.ql s' hm).2;rw[m]at hk⊢;rw[j,rY];exact hk.h λr w''⟨p,c,A,q1,q2,q3,q4,x,q⟩=>dC0 rfl q1 q2 q3 q4 x q};{unfold kG;rw[aJ (ag3 bf bf hB),ri,aJ (by simp;intro _;omega),ri,ri,aK bf,aK rfl,j,rY];unfold YN;rw[e2]}
end
theorem cQ2{g:Int}(en:Le ss n)(em:Le ns m)(eP:Le P np)(eV:Le V nv){w:G}(hS:O (fh B w (.S p n c) ss Qs))(hN:O (ld B w (.S q m d) ns))(hP:O (Rd w (.S pp np cp) P))(hV:O (Rd w (.S pq nv cv) V))(hB:B<=U (Q w))(hn:Mg n)(hm:Mg m)(hp:np<=2^20)(N:nv<=2^20)(gm:np<=cp)(im:cp<=maxLen)(hW:O (WF ⟨e,g,x,t,ss,ns⟩))(bP:O (aD P)){R:SD×RP}(eR:O (kG ⟨e,g,x,t,ss,ns⟩ K S F E iG P V=R)):dQ dG 55 #[cO e g x t (.S p n c) (.S q m d),nI K S (.S pp np cp) F (.S pq nv cv) E iG] w λr w'=>QR B w w' r R.1 R.2:=by
 let⟨W0,cT,b0,z0,C0⟩:=yj w (.U e) (.U g) (.U x) (.I t) (.S p n c) (.S q m d);obtain⟨W1,fT,b1,z1,C1,-⟩:=cR W0 #[.I K,.U S,.S pp np cp,.I F,.S pq nv cv,.U E,.U iG] 54;let⟨W2,fW,b2,z2,C2⟩:=Cr W1;let⟨W3,ky,b3,z3,C3⟩:=yi W2 (.I 0) (.U 0) (.U 0) (.U 0) (.I 0) aN aN aN;rw[z0]at C1 z1;rw[z1]at C2 z2;rw[z2]at C3 z3;have bW:=aj (aj (aj b0 b1) b2) b3;have M:=ai (λ(v:G)(N:Bw W3 v)=>aE (QB.W (⟨((C0.H b1).H b2).H b3,(C1.H af b2).H af b3,C2.H b3,C3⟩) (λj h1 h2=>N.block j af)) (aE (hS.T (cG (aj bW N))) (aE (du.T hN (cG (aj bW N))) (aE (hP.H (aj bW N)) (aE (hV.H (aj bW N)) (aj bW N))))));clear b0 b1 b2 b3 C0 C1 C2 C3 bW;have dr:=bG (ae bP) (λnd aI=>(hW.pb nd aI).2.1);have hR:=ae eR;unfold kG at hR;rw[ae eP,ae eV]at hR
 change O _ at hR
 let⟨fb,efb⟩:=cg (DK K S F np nv E iG);go_in
 go_wp21
 rw[<-cT,<-fT,<-fW,<-ky];clear cT fT fW ky;refine cL (ew1 efb) λw1 az=>?_;have B1:=ai az;have Lb:=az.size;have y:=ae hR;rw[ae efb]at y;clear az hR;cases fb;{
 rw[aK rfl]at y
 change O _ at y
 go_wp21
 obtain⟨LW,SW,NW,-,-,BW⟩:=ae M w1 B1;exact rq 2 4 5 13 14 2 results55 LW.1 LW.2.2.1 LW.2.2.2 en em SW NW (Fr.H BW) (BW.h hB) hB y};rw[aJ al]at y;obtain⟨LC,-,-,-,-,-⟩:=ae M w1 B1;let⟨o0,o1,o2,o3,o4,o5,o6⟩:=Qe LC.2.1.1;have k0:=LC.1.cells;clear LC;by_cases qF:K=1;{
 rw[aK qF]at y;have cA3:(K==1):=by simp[qF]
 have E9:=ai y;clear y qF
 go_wp21
 clear o0 o1 o2 o3 o4 o5 o6 k0;obtain⟨-,S1,N1,-,-,yY⟩:=ae M w1 B1;refine(dF8 en em S1 N1 (aM yY.size) hn hW.x hW.t).h ?_;rw[ae E9];clear S1 N1 yY;rintro r w9⟨p',c',q',d',Dv,Nv,Ev,uB,rfl,ur,rh,tD,tN,tE,hF,ku⟩;obtain⟨LW,-,-,-,-,bw9⟩:=ae M w1 B1;let⟨mv,HQ⟩:=aQ (TX.T (show TX w1 (U (Q w)) _ _ _ from⟨LW.1,LW.2.2.1,LW.2.2.2⟩) hF bf) (show QR B w1 w9 _ R.1 R.2 from⟨p',c',q',d',Dv,Nv,Ev,uB,rfl,ur,rh,tD,tN,tE,hF,ku⟩);exact zs1};rw[aJ qF]at y;have cA3:(K==1)=dF:=by simp[qF]
 have E8:=ai y;clear y qF
 go_wp21
 clear o0 o1 o2 o3 o4 o5 o6 k0;refine cL (dt5 en (ai (ae M w1 B1).2.1) hn) λw2 aA=>?_;have B2:=ai (aj B1 aA);clear aA cA3;let⟨ix,TI⟩:=cg (mj ss S);let⟨T,eT⟩:=cg (Dr K&&dD (ix<0));have y:=ae E8;rw[ae TI,ae eT]at y;rw[ae TI];have E7:=ai y;have Ya:=B2.size;clear y E8 B1 Lb;obtain⟨LC,-,-,-,-,-⟩:=ae M w2 B2;let⟨o0,o1,o2,o3,o4,o5,o6⟩:=Qe LC.2.1.1;have k0:=LC.1.cells;clear LC
 go_upto_region 6 with fail
 go_cut[32](λrv wc=>rv=jO T/\w2=wc)
 case first=>(
 go_wp21
 refine(dY4).h ?_;rintro r w3⟨rfl,rfl⟩;let⟨hs,ehs⟩:=bu (Dr K);have h9:=ae eT;rw[ehs]at h9⊢;clear ehs;cases hs;{cases h9.C;clear h9;exact uy};{by_cases hx:ix<0;{cases(by rw[<-h9];simp[hx]:T);exact ao1};{cases(by rw[<-h9];simp[hx]:T=dF);exact ao1}})
 case rest=>(
 obtain⟨rfl,rfl⟩:=hcut;have y:=ae E7;cases T;rotate_left;{
 rw[aK rfl]at y;have E9:=ai y;clear y E7 o0 o1 o2 o3 o4 o5 o6 k0
 go_wp21
 obtain⟨LW,SW,NW,-,-,BW⟩:=ae M w2 B2;exact rq 2 4 5 33 34 3 results55 LW.1 LW.2.2.1 LW.2.2.2 en em SW NW (Fr.H BW) (BW.h hB) hB E9};rw[aJ al]at y;have tw:jY jV (t+10)=t+10:=nW _ (by have:=hW.t;simp only at this;omega);by_cases pM:K=2;{
 have br5:(K==2):=by simp[pM]
 rw[aK pM]at y;have hx:¬ix<0:=λhx=>by have h:=ae eT;rw[pM]at h;simp[Dr,hx]at h
 let⟨i,s,ei,hi⟩:=aU1 (ss:=ss) (S:=S) (ae TI▸hx);rw[ae TI]at ei;subst ei;let⟨dd,edd⟩:=cg (if s.2.1<t+10 then t+10 else s.2.1);rw[rY,dS2 hi (ae edd)]at y;let⟨E9,HI⟩:=aQ y hi;have gi:i<n:=ae en▸(bH.1 hi).1;have ab6:=cM i n;obtain⟨W,iZ,rfl,-,-,-,-,cd,-,-,vx⟩:=fh.at (ae M w2 B2).2.1 hi;have hgw:=(hS.row.lt W rfl).2;have uo:=(hS.row.lt W rfl).1;have CD:=bG cd vx;clear y E7 pM hx hi cd vx
 go_wp21
 clear o0 o1 o2 o3 o4 o5 o6 k0
 go_cut[47](λrv wc=>rv=jO (dD (s.2.1<t+10))/\O (Bw w2 wc))
 case first=>(
 let⟨vA,br⟩:=aF w2.drew;have bM:=kH br;have BA:=ai bM;obtain⟨LC,-⟩:=ae M vA (aj B2 bM);refine fw (λw'=>I w' (Aw w 3)=dI t/\I w' (Aw w 4)=dK W n c/\I w' (Ad W (i*3+1))=dI s.2.1) (by rw[<-br];exact⟨LC.1.1.1 3 _ rfl,LC.1.1.1 4 _ rfl,aq CD.1 bM⟩) λhS=>?_;rw[<-br]at hS⊢;clear br bM LC;refine gr 0 1 2 3 4 5 6 7 hS ?_;refine fu 8 9 hS ?_;refine fQ ?_;clear hS;exact uy)
 case rest=>(
 obtain⟨w3,rfl⟩:=aF wc;obtain⟨rfl,aL⟩:=hcut;have B3:=ai (aj B2 aL);have cd:=aq CD.1 aL;have vx:=λo=>(aL.frozen (p:=(Ad W o)) (by show W<U (Q w2);omega)).Z (CD.2 o);have cf1:=vx (i*3+1);obtain⟨L3,S3,N3,-,-,bw3⟩:=ae M w3 B3;have k0:=L3.1.cells;have H3:=gJ L3 S3 N3 bw3;have z3a:=B3.size;clear L3 S3 N3 bw3 vx
 go_upto_if 47 with fail
 go_cut[](λwd=>O (QB wd (U (Q w)) [.U e,.U g,.U x,.I t,.T W n c,.S q m d] [.I K,.U S,.S pp np cp,.I F,.S pq nv cv,.U E,.U iG] [.U 0,.U 0,.U 0,.I 0,ay,ay] [.I 0,.U 0,.U 0,.U 0,.I 0,aN,aN,aN])/\O (fh B wd (.T W n c) (ss.set i (s.1,dd,s.2.2)) Qs)/\O (ld B wd (.S q m d) ns)/\O (Fr [125,148,149] w wd)/\O (Below B w wd)/\O (U (Q w3)<=U (Q wd)))
 case first=>(
 by_cases hd:s.2.1<t+10;{
 cases(by rw[<-ae edd,aK hd]:dd=t+10);let⟨S4,F4⟩:=fh.dl H3.2.1 HI (t+10);let⟨Z,hZ⟩:=aF (jS w3 (Ad W (i*3+1)) (.I (t+10)));have LZ:=QB.W (w'':=Z) H3.1 (λj h1 h2=>by rw[hZ];exact gh _ _ _ _ (by show j≠W;omega));have BZ:Below B w Z:=by rw[hZ];exact(H3.2.2.2.h hB).setCell (p:=(Ad W _)) uo _
 rw[<-hZ]at S4 F4;have HZ:=IV LZ S4 (du.T H3.2.2.1 F4) ((Fr.H (T:=[125,148,149]) H3.2.2.2).Z (F4.sub al)) BZ F4.1;clear LZ S4 F4 BZ
 go_wp21
 rw[<-hZ];go_meet;exact⟨HZ.1,HZ.2.1,HZ.2.2.1,HZ.2.2.2.1,HZ.2.2.2.2.1,HZ.2.2.2.2.2⟩};{
 cases(by rw[<-ae edd,aJ hd]:dd=s.2.1)
 go_wp21
 go_meet;exact⟨H3.1,by rw[Js (ae HI)];exact H3.2.1,H3.2.2.1,Fr.H H3.2.2.2,H3.2.2.2.h hB,fS _⟩})
 case rest=>(
 obtain⟨wd,rfl⟩:=aF wc;obtain⟨LD,SD',ND,FD,BD,zD⟩:=hcut;have zD':=ae zD;clear k0 cd cf1 H3 CD
 go_wp21
 obtain⟨gs',Q',eg,-,-,-,-,cd,-,-,-⟩:=fh.at SD' (uV HI _);obtain⟨rfl,-⟩:=yr eg;let⟨vA,br⟩:=aF wd.drew;have bM:=kH br;let⟨BA,LA,CA⟩:=gC bM (QB.W (w'':=vA) LD (λj h1 h2=>bM.block j af)) (aq cd bM);clear cd;refine fw (λw'=>(I w' (Aw w 0)=dU e/\I w' (Aw w 1)=dU g/\I w' (Aw w 2)=dU x/\I w' (Aw w 3)=dI t/\I w' (Aw w 4)=dK W n c/\I w' (Aw w 5)=dS q m d)/\I w' (Ad W (i*3+1))=dI dd) (by rw[<-br];exact⟨LA.1.D9,CA⟩) λhS=>?_;rw[<-br]at hS⊢;clear br bM;refine gr 0 1 2 3 4 5 6 7 hS ?_;refine Vm 8 9 4 5 56 63 aS aS aS rfl rfl (U (Q w)+1+1) (U (Q w)+1+1+1) e g x t (Ad W 0) n c q m d 0 0 0 0 dd dN 0 0 dN 0 0 dN 0 0 rfl rfl rfl rfl LA.2.2.1 LA.2.2.2 af (λv N _=>⟨(LA.1.dt (N.block _ af)).D9,((gG (N.block W af) _).Z CA)⟩) ?_;intro w' az nj f1 tW;refine AJ ?_;clear hS;have HQ:=ai (QR.num (e:=e) (g:=g) (x:=x) (t:=t) (ai (by simpa using ae en)) em SD' ND FD BD ((Fr.H (T:=[44,50]) BA).Z f1) ((BA.h af).Z (tW.h af)) hB 0 0 0 0 dd);clear f1 tW;let⟨q0,q1,q2,q3,q4,q5,qf⟩:=az.cells;let⟨r0,r1,r2,r3,r4,r5,r6,r7,rf⟩:=nj.cells;go_wp2;refine cX (v:=dT #[cO e g x t (.T W n c) (.S q m d),ij 0 0 0 0 dd aN aN aN]) (by simp[results,results55,go_sem,q0,q1,q2,q3,q4,q5,r0,r1,r2,r3,r4,r5,r6,r7]) rfl ?_;rw[<-ae E9];exact HQ))}
 rw[aJ pM]at y;have br5:(K==2)=dF:=by simp[pM]
 by_cases Ay:K=3;{
 have eq9:(K==3):=by simp[Ay]
 rw[aK Ay]at y;let⟨D,eD⟩:=cg (yh ⟨e,g,x,t,ss,ns⟩ S);have bk5:=eO0 (D:=⟨e,g,x,t,ss,ns⟩) (id:=S);rw[ae eD]at y bk5;have HD:=bG y bk5;clear y E7 Ay pM bk5
 go_wp21
 clear o0 o1 o2 o3 o4 o5 o6 k0;obtain⟨L2,S2,N2,-,-,IQ⟩:=ae M w2 B2;have XU:=ai IQ;refine(eN9 en em S2 N2 hW.nb (aM IQ.size) hn hm eD).h ?_;rintro r w3⟨p',c',q',d',rfl,⟨Q3,DD⟩,tS,sj,EY⟩;have mv:=ai (TX.T (show TX w2 (U (Q w)) _ _ _ from⟨L2.1,L2.2.2.1,L2.2.2.2⟩) sj bf);let⟨q0,q1,q2,q3,q4,q5,qf⟩:=mv.2.1.cells;let⟨r0,r1,r2,r3,r4,r5,r6,r7,rf⟩:=mv.2.2.cells;have HY:=gJ DD tS ((Fr.H XU).Z sj) ((XU.h hB).Z EY);clear DD tS sj EY L2 S2 N2 IQ;go_wp2;let⟨fF,bF⟩:=TX.fin mv (.U e) (.U g) (.U x) (.I t) (.S p' (J D.E) c') (.S q' (J D.N) d') (.I 0) (.U 0) (.U 0) (.U 0) (.I 0) aN aN aN;refine cX (v:=dT #[cO e g x t (.S p' (J D.E) c') (.S q' (J D.N) d'),ij 0 0 0 0 0 aN aN aN]) (by simp[results,results55,go_sem,q0,q1,q2,q3,q4,q5,r0,r1,r2,r3,r4,r5,r6,r7]) rfl ?_;rw[<-HD.1];have hQ:=QR.num (e:=e) (g:=g) (x:=x) (t:=t) (ss:=D.E) (ns:=D.N) rfl rfl HY.1 HY.2.1 HY.2.2.1 HY.2.2.2 fF bF hB 0 0 0 0 0;have eq:(⟨e,g,x,t,D.E,D.N⟩:SD)=D:=by obtain⟨h1,h2,h3,h4⟩:D.e=e/\D.g=g/\D.x=x/\D.t=t:=HD.2;rw[<-h1,<-h2,<-h3,<-h4]
 rw[eq]at hQ;exact hQ};rw[aJ Ay]at y;have eq9:(K==3)=dF:=by simp[Ay]
 by_cases Tl:K=12;{
 have er0:(K==12):=by simp[Tl]
 rw[aK Tl]at y;have hx:¬ix<0:=λhx=>by have h:=ae eT;rw[Tl]at h;simp[Dr,hx]at h
 let⟨i,s,ei,hi⟩:=aU1 (ss:=ss) (S:=S) (ae TI▸hx);rw[ae TI]at ei;subst ei;rw[rY]at y;unfold YN at y;simp only[hi]at y;have E9:=ai y;have gi:i<n:=ae en▸(bH.1 hi).1;have ab6:=cM i n;obtain⟨L2,S2,N2,-,-,IQ⟩:=ae M w2 B2;obtain⟨W,iZ,rfl,-,-,hQ,-,-,cq,sq,vx⟩:=fh.at S2 hi;have hgw:=(hS.row.lt W rfl).2;have uo:=(hS.row.lt W rfl).1;obtain⟨pQ,cQ,rfl,-⟩:=RT.form sq;let⟨nQ,enQ⟩:=cg (J s.2.2);rw[ae enQ]at cq sq hQ;obtain⟨S4,-⟩:=fh.ao9 (w1:=w2) (v':=aN) (q':=[]) S2 hi hQ (RT.nil _ _ _ _ _) (WO) (λb hb=>by simp[jB]at hb);let⟨cur,J9⟩:=S2.row.vW W rfl;have F4:Fr [148] w2 (jS w2 (Ad W (i*3+2)) aN):=Fr.set J9 al;let⟨Z,hZ⟩:=aF (jS w2 (Ad W (i*3+2)) aN);have LZ:=QB.W (w'':=Z) L2 (λj h1 h2=>by rw[hZ];exact gh _ _ _ _ (by show j≠W;omega));have BZ:Below B w Z:=by rw[hZ];exact(IQ.h hB).setCell (p:=(Ad W _)) uo _
 rw[<-hZ]at S4 F4;have HZ:=IV (show TX Z (U (Q w)) _ _ _ from⟨LZ.1,LZ.2.2.1,LZ.2.2.2⟩) S4 (du.T N2 F4) (nF.T sq F4) ((Fr.H (T:=[125,148,149]) IQ).Z (F4.sub al)) BZ;have y0:=LZ.1.cells;let⟨q0,q1,q2,q3,q4,q5,qf⟩:=LZ.2.2.1.cells;let⟨r0,r1,r2,r3,r4,r5,r6,r7,rf⟩:=LZ.2.2.2.cells;have fz2:=vx (i*3+2);have aP:¬W=U (Q w):=af;rw[hZ]at y0 q0 q1 q2 q3 q4 q5 qf r0 r1 r2 r3 r4 r5 r6 r7 rf;clear y E7 Tl Ay pM hx hi LZ BZ S4 F4 J9 L2 S2 N2 IQ sq hQ vx;go_wp2;rw[<-hZ]at*;let⟨fF,bF⟩:=TX.fin HZ.1 (.U e) (.U g) (.U x) (.I t) (.T W n c) (.S q m d) (.I 0) (.U 0) (.U 0) (.U 0) (.I 0) aN aN (.S pQ nQ cQ);refine cX (v:=dT #[cO e g x t (.T W n c) (.S q m d),ij 0 0 0 0 0 aN aN (.S pQ nQ cQ)]) (by simp[results,results55,go_sem,q0,q1,q2,q3,q4,q5,r0,r1,r2,r3,r4,r5,r6,r7]) rfl ?_;rw[<-ae E9];refine⟨Y (Ad W 0),c,q,d,aN,aN,.S pQ nQ cQ,Qs.set i aN,(by simp only[qS,ae en,ae em];rfl),?_,?_,TB.nil _,RT.nil _ _ _ _ _,nF.T HZ.2.2.2.1 fF,Fr.low HZ.2.2.2.2.1 bF,HZ.2.2.2.2.2.Z (bF.h hB)⟩;{simp only[qS,ae en];exact HZ.2.1.T fF};{simp only[ae em];exact du.T HZ.2.2.1 fF}};rw[aJ Tl]at y;have er0:(K==12)=dF:=by simp[Tl]
 let⟨rt,ert⟩:=cg (BG K P);unfold zO at y;rw[ae ert]at y;have E8:=ai y;clear y E7 pM Ay Tl eT TI
 go_upto_region 18 with fail
 go_cut[8](λrv wc=>rv=jO rt/\O (Bw W3 wc))
 case first=>(
 by_cases DH:K=13;{
 have br6:(K==13):=by simp[DH]
 have hcv:=Lib.run_convert_bytes_const (P:=dG) w2 22 5 #[jK .u8 47] 1 1 underlying22 underlying5;simp only[show(#[Value.int .u8 47]:iA).size=1 from rfl]at hcv;let⟨X,hX⟩:=aF (jA w2 (dO #[jK .u8 47] 5 (1,1+1)));have rX:Rd X (.T (U (Q w2)) 1 1) [47]:=by
  rw[hX];refine⟨_,_,rfl,.R ⟨U (Q w2),0,rfl,λi hi=>?_⟩⟩
  match i,hi with
  |0,_=>(rw[nY,bB0];rfl)
 rw[<-hX]at hcv;have RX':=bG rX (aj (ae B2) (hX▸cY));have HRT:=ai (by rw[<-ae ert,BG,DH];simp:dD (P=[47])=rt);clear rX hX DH
 go_wp21
 refine(Sc eP di (ae M X RX'.2).2.2.2.1 RX'.1 bP (by intro x hx;simp at hx;omega)).h ?_;rintro r w4⟨rfl,dz⟩;rw[ae HRT];have B4:=ai (aj RX'.2 dz);clear hcv dz;exact uy};{
 have br6:(K==13)=dF:=by simp[DH]
 cases(by rw[<-ae ert,BG];simp[DH]:rt=dF);clear DH;exact uy})
 case rest=>(
 obtain⟨w3,rfl⟩:=aF wc;obtain⟨rfl,B3⟩:=hcut;clear o0 o1 o2 o3 o4 o5 o6 k0;obtain⟨LC,-,-,-,-,-⟩:=ae M w3 B3;let⟨o0,o1,o2,o3,o4,o5,o6⟩:=Qe LC.2.1.1;have k0:=LC.1.cells;clear LC;let⟨T2,IL⟩:=cg (!rt&&!vp P);have z3':=B3.size
 go_upto_region 19 with fail
 go_cut[106](λrv wc=>rv=jO T2/\O (Bw W3 wc))
 case first=>(
 cases rt;{
 go_wp21
 let⟨vb,evb⟩:=cg (vp P);refine cL (Yu eP (ae M w3 B3).2.2.2.1 bP hp evb) λw4 dz=>?_;have h9:=ae IL;rw[ae evb]at h9;have B4:=ai (aj B3 dz);clear dz;cases vb;{cases h9.C;clear h9;exact uy};{cases h9.C;clear h9;exact uy}};{cases IL.C;exact uy})
 case rest=>(
 obtain⟨w4,rfl⟩:=aF wc;obtain⟨rfl,B4⟩:=hcut;have z4':=B4.size;clear o0 o1 o2 o3 o4 o5 o6 k0 z3' B3;have y:=ae E8;rw[ae IL]at y;cases T2;rotate_left;{
 rw[aK rfl]at y;have E9:=ai y;clear y E8
 go_wp21
 obtain⟨LW,SW,NW,-,-,BW⟩:=ae M w4 B4;exact rq 2 4 5 107 108 4 results55 LW.1 LW.2.2.1 LW.2.2.2 en em SW NW (Fr.H BW) (BW.h hB) hB E9};rw[aJ al]at y;obtain⟨LC,-,-,-,-,-⟩:=ae M w4 B4;let⟨o0,o1,o2,o3,o4,o5,o6⟩:=Qe LC.2.1.1;have k0:=LC.1.cells;clear LC;by_cases Ms:K=4;{
 have eq7:(K==4):=by simp[Ms]
 rw[aK Ms]at y;have E9:=ai y;clear y E8 Ms
 go_wp21
 clear o0 o1 o2 o3 o4 o5 o6 k0;obtain⟨-,S4,N4,P4,V4,bw4⟩:=ae M w4 B4;refine(eL4 en em eP eV S4 N4 P4 V4 (aM bw4.size) hm hp N gm im dr E9).h ?_;clear S4 N4 P4 V4 bw4;rintro r w9⟨p',c',q',d',Dv,Nv,Ev,uB,rfl,ur,rh,tD,tN,tE,hF,ku⟩;obtain⟨LW,-,-,-,-,bw9⟩:=ae M w4 B4;let⟨mv,HQ⟩:=aQ (TX.T (show TX w4 (U (Q w)) _ _ _ from⟨LW.1,LW.2.2.1,LW.2.2.2⟩) hF bf) (show QR B w4 w9 _ R.1 R.2 from⟨p',c',q',d',Dv,Nv,Ev,uB,rfl,ur,rh,tD,tN,tE,hF,ku⟩);exact zs1};rw[aJ Ms]at y;have eq7:(K==4)=dF:=by simp[Ms]
 by_cases WH:K=10;{
 have er4:(K==10):=by simp[WH]
 rw[aK WH]at y;let⟨C,eC⟩:=cg (PX ns P S E iG);simp only[ae eC]at y;have E9:=ai y;clear y E8 Ms WH
 go_wp21
 clear o0 o1 o2 o3 o4 o5 o6 k0;let⟨vA,br⟩:=aF w4.drew;have bM:Bw W3 vA:=aj (ae B4) (br▸mC);let⟨BA,SA⟩:=aQ bM (λ(v:G)(N:Bw W3 v)=>aE (ae M v N).1.1.D9 (aE ((ae M v N).1.2.1.1 0 _ rfl) (aE ((ae M v N).1.2.1.1 1 _ rfl) (aE ((ae M v N).1.2.1.1 2 _ rfl) (aE ((ae M v N).1.2.1.1 3 _ rfl) (aE ((ae M v N).1.2.1.1 4 _ rfl) (aE ((ae M v N).1.2.1.1 5 _ rfl) ((ae M v N).1.2.1.1 6 _ rfl))))))));refine fw (λw'=>(I w' (Aw w 0)=dU e/\I w' (Aw w 1)=dU g/\I w' (Aw w 2)=dU x/\I w' (Aw w 3)=dI t/\I w' (Aw w 4)=dS p n c/\I w' (Aw w 5)=dS q m d)/\I w' (Ax w 0)=dI K/\I w' (Ax w 1)=dU S/\I w' (Ax w 2)=dS pp np cp/\I w' (Ax w 3)=dI F/\I w' (Ax w 4)=dS pq nv cv/\I w' (Ax w 5)=dU E/\I w' (Ax w 6)=dU iG) (br▸ae SA vA bM) λhS=>?_;rw[<-br]at hS⊢;clear br bM;refine fu 0 1 hS ?_;refine tn 2 hS ?_;refine fy 3 λKK hK=>?_;refine uG (eO8 e g x t p n c q m d ns em K S F E iG pp np cp pq nv cv P eP B vA (ai (ae M vA BA).2.2.1) (ai (ae M vA BA).2.2.2.1) hm af dr hW.ex C eC) ?_;rintro r v1⟨rfl,km⟩;refine fE ?_;have B1:=ai (aj BA km);refine bS hK (SA v1 B1) λhS=>?_;clear hK KK km;obtain⟨L1,S1,N1,-,-,yY⟩:=ae M v1 B1;have LL:=ai L1;refine Vm 4 5 4 5 120 123 aS aS aS rfl rfl (U (Q w)+1+1) (U (Q w)+1+1+1) e g x t p n c q m d 0 0 0 0 C dN 0 0 dN 0 0 dN 0 0 rfl rfl rfl rfl L1.2.2.1 L1.2.2.2 af (λv N _=>?_) ?_;{have h2:=LL.2.1.dt (N.block _ af);exact⟨(LL.1.dt (N.block _ af)).D9,h2.1 0 _ rfl,h2.1 1 _ rfl,h2.1 2 _ rfl,h2.1 3 _ rfl,h2.1 4 _ rfl,h2.1 5 _ rfl,h2.1 6 _ rfl⟩};intro w' az nj f1 tW;refine AJ ?_;clear hS;have HQ:=ai (QR.num (e:=e) (g:=g) (x:=x) (t:=t) en em S1 N1 (Fr.H yY) (yY.h hB) f1 (tW.h af) hB 0 0 0 0 C);clear f1 tW L1 S1 N1 yY;let⟨q0,q1,q2,q3,q4,q5,qf⟩:=az.cells;let⟨r0,r1,r2,r3,r4,r5,r6,r7,rf⟩:=nj.cells;go_wp2;refine cX (v:=dT #[cO e g x t (.S p n c) (.S q m d),ij 0 0 0 0 C aN aN aN]) (by simp[results,results55,go_sem,q0,q1,q2,q3,q4,q5,r0,r1,r2,r3,r4,r5,r6,r7]) rfl ?_;rw[<-ae E9];exact HQ};rw[aJ WH]at y;have er4:(K==10)=dF:=by simp[WH]
 let⟨jx,ejx⟩:=cg (Aa ns P);simp only[ae ejx]at y;have E7:=ai y;clear y E8 Ms WH
 go_wp21
 clear o0 o1 o2 o3 o4 o5 o6 k0;refine cL (dI5 em eP (du.QT (ae M w4 B4).2.2.1) (ae M w4 B4).2.2.2.1 hm af dr hW.pd) λw5 eh=>?_;rw[ae ejx];have B5:=ai (aj B4 eh);have z5':=B5.size;clear eh z4' B4;let⟨T3,IK⟩:=cg (!rt&&dD (jx<0))
 go_upto_region 26 with fail
 go_cut[133](λrv wc=>rv=jO T3/\w5=wc)
 case first=>(
 have h9:=ae IK;cases rt;{by_cases hx:jx<0;{cases(by rw[<-h9];simp[hx]:T3);exact ao1};{cases(by rw[<-h9];simp[hx]:T3=dF);exact ao1}};{cases h9.C;clear h9;exact uy})
 case rest=>(
 obtain⟨rfl,rfl⟩:=hcut;have y:=ae E7;rw[ae IK]at y;cases T3;rotate_left;{
 rw[aK rfl]at y;have E9:=ai y;clear y E7
 go_wp21
 obtain⟨LW,SW,NW,-,-,BW⟩:=ae M w5 B5;exact rq 2 4 5 134 135 5 results55 LW.1 LW.2.2.1 LW.2.2.2 en em SW NW (Fr.H BW) (BW.h hB) hB E9};rw[aJ al]at y;obtain⟨LC,-,-,-,-,-⟩:=ae M w5 B5;let⟨o0,o1,o2,o3,o4,o5,o6⟩:=Qe LC.2.1.1;have k0:=LC.1.cells;clear LC;by_cases DH:K=13;{
 have br6:(K==13):=by simp[DH]
 rw[aK DH]at y;let⟨L,eL⟩:=cg (um ns P);simp only[ae eL]at y;let⟨nL,enL⟩:=cg (J L);have E9:=ai y;clear y E7 DH
 go_wp21
 clear o0 o1 o2 o3 o4 o5 o6 k0;let⟨vA,br⟩:=aF w5.drew;have bM:Bw W3 vA:=aj (ae B5) (br▸mC);let⟨BA,SA⟩:=aQ bM (λ(v:G)(N:Bw W3 v)=>aE (ae M v N).1.1.D9 ((ae M v N).1.2.1.1 2 _ rfl));refine fw (λw'=>(I w' (Aw w 0)=dU e/\I w' (Aw w 1)=dU g/\I w' (Aw w 2)=dU x/\I w' (Aw w 3)=dI t/\I w' (Aw w 4)=dS p n c/\I w' (Aw w 5)=dS q m d)/\I w' (Ax w 2)=dS pp np cp) (br▸ae SA vA bM) λhS=>?_;rw[<-br]at hS⊢;clear br bM;refine iy 0 1 2 3 hS ?_;refine fy 4 λKK hK=>?_;refine uG (cM0 em eP (ai (ae M vA BA).2.2.1) (ai (ae M vA BA).2.2.2.1) bP hW.pb hm eL) ?_;rintro r v1⟨px,cx,rfl,tx,km⟩;rw[ae enL]at tx⊢;refine fE ?_;let⟨B1,HTX⟩:=aQ (aj BA km) (RT.h tx (aM BA.size):TN B v1 (.S px nL cx) L);refine bS hK (SA v1 B1) λhS=>?_;clear hK KK km tx;refine tn 5 hS ?_;obtain⟨L1,S1,N1,-,-,yY⟩:=ae M v1 B1;have LL:=ai L1;refine Vm 6 7 4 5 139 144 aS aS aS rfl rfl (U (Q w)+1+1) (U (Q w)+1+1+1) e g x t p n c q m d 0 0 0 0 0 dN 0 0 px nL cx dN 0 0 rfl rfl rfl rfl L1.2.2.1 L1.2.2.2 af (λv N _=>?_) ?_;{exact⟨(LL.1.dt (N.block _ af)).D9,(LL.2.1.dt (N.block _ af)).1 2 _ rfl⟩};intro w' az nj f1 tW;refine AJ ?_;clear hS;have HQ:=nK (S1.T f1) (du.T N1 f1) (TN.T HTX f1 bf) (Fr.low (Fr.H (T:=[125,148,149]) yY) (tW.h af)) ((yY.h hB).Z (tW.h af));clear f1 tW L1 S1 N1 yY;let⟨q0,q1,q2,q3,q4,q5,qf⟩:=az.cells;let⟨r0,r1,r2,r3,r4,r5,r6,r7,rf⟩:=nj.cells;go_wp2;refine cX (v:=dT #[cO e g x t (.S p n c) (.S q m d),ij 0 0 0 0 0 aN (.S px nL cx) aN]) (by simp[results,results55,go_sem,q0,q1,q2,q3,q4,q5,r0,r1,r2,r3,r4,r5,r6,r7]) rfl ?_;rw[<-ae E9];refine⟨p,c,q,d,aN,.S px nL cx,aN,Qs,(by simp only[ae en,ae em];rfl),?_,?_,TB.nil _,HQ.2.2.1,RT.nil _ _ _ _ _,HQ.2.2.2.1,HQ.2.2.2.2⟩;{simp only[ae en];exact HQ.1};{simp only[ae em];exact HQ.2.1}};{
 have br6:(K==13)=dF:=by simp[DH]
 rw[aJ DH]at y;have yN:rt=dF:=by rw[<-ae ert,BG];simp[DH]
 let⟨k,nd,ek,hk⟩:=dJ9 (ns:=ns) (P:=P) (ae ejx▸(λhx=>by have h:=ae IK;rw[yN]at h;simp[hx]at h));rw[ae ejx]at ek;subst ek;rw[rY]at y;have mX:=bq hk
 change O _ at hk y
 clear E7 DH yN
 go_wp21
 clear o0 o1 o2 o3 o4 o5 o6 k0;obtain⟨-,S5,N5,-,V5,Xh⟩:=ae M w5 B5;refine(dI2 en em hk eV S5 N5 V5 (aM Xh.size) hn hm (hW.nb nd mX) (hW.vl nd mX) N hW.pb hW.g (hW.ex nd mX) y).h ?_;clear S5 N5 V5 Xh;rintro r w9⟨p',c',q',d',Dv,Nv,Ev,uB,rfl,ur,rh,tD,tN,tE,hF,ku⟩;obtain⟨LW,-,-,-,-,bw9⟩:=ae M w5 B5;let⟨mv,HQ⟩:=aQ (TX.T (show TX w5 (U (Q w)) _ _ _ from⟨LW.1,LW.2.2.1,LW.2.2.2⟩) hF bf) (show QR B w5 w9 _ R.1 R.2 from⟨p',c',q',d',Dv,Nv,Ev,uB,rfl,ur,rh,tD,tN,tE,hF,ku⟩);exact zs1}))))
theorem ld.h{w:G}(h:ld B w v ns)(j:B'<=B):ld B' w v ns:=by
 let⟨cs,E,D,y,u⟩:=RT.h h j;refine⟨cs,E,D,y,λi x c s hc=>?_⟩;let⟨P,V,H,iU,e,r,q,o,m⟩:=u i x c s hc;exact⟨P,V,H,iU,e,r.h j,q.h j,o.h j,m.h j⟩
theorem QR.h{w w':G}{r:Ending}(h:QR B w w' r D R)(i:B'<=B):QR B' w w' r D R:=by
 obtain⟨p,c,q,d,N,M,Ev,E,e,u,x,s,m,o,j,y⟩:=h;exact⟨p,c,q,d,N,M,Ev,E,e,u.h i,ld.h x i,s,RT.h m i,nF.h o i,j,y.h i⟩
def SD0:SD:=⟨0,0,0,0,[],[]⟩
def AP(e g x t:Int)(ss:List aB)(ns:List au)(K S F E iG:Int)(P V:LI):SD×RP:=if nT e g x t ss ns then kG ⟨e,g,x,t,ss,ns⟩ K S F E iG P V else(SD0,lD 1)
theorem dq8{g:Int}(en:Le ss n)(em:Le ns m)(eP:Le P np)(eV:Le V nv){w:G}(h:O (nO w (.S p n c) ss))(hN:O (iw w (.S q m d) ns))(hP:O (Rd w (.S pp np cp) P))(hV:O (Rd w (.S pq nv cv) V))(hn:Mg n)(hm:Mg m)(hp:np<=2^20)(y:nv<=2^20)(gm:np<=cp)(im:cp<=maxLen)(ig:O (Bs ss))(dr:O (Bn ns))(hW:O (nT e g x t ss ns->WF ⟨e,g,x,t,ss,ns⟩))(bP:O (aD P)){R:SD×RP}(eR:O (AP e g x t ss ns K S F E iG P V=R)):dQ dG 96 #[cO e g x t (.S p n c) (.S q m d),nI K S (.S pp np cp) F (.S pq nv cv) E iG] w λr w'=>QR (U (Q w)) w w' r R.1 R.2:=by
 let⟨W0,cT,b0,z0,C0⟩:=yj w (.U e) (.U g) (.U x) (.I t) (.S p n c) (.S q m d);obtain⟨W1,fT,b1,z1,C1,-⟩:=cR W0 #[.I K,.U S,.S pp np cp,.I F,.S pq nv cv,.U E,.U iG] 54;let⟨W2,fW,b2,z2,C2⟩:=Cr W1;let⟨N,ky,b3,z3,C3⟩:=yi W2 (.I 0) (.U 0) (.U 0) (.U 0) (.I 0) aN aN aN;rw[z0]at C1 z1;rw[z1]at C2 z2;rw[z2]at C3 z3;have bW:=aj (aj (aj b0 b1) b2) b3;let⟨B,BR⟩:=aQ (λ(v:G)(y:Bw N v)=>aE (QB.W (⟨((C0.H b1).H b2).H b3,(C1.H af b2).H af b3,C2.H b3,C3⟩) (λj h1 h2=>y.block j af)) (aE (h.H (aj bW y)) (aE (hN.H (aj bW y)) (aE (hP.H (aj bW y)) (aE (hV.H (aj bW y)) (aj bW y)))))) (bD (U (Q N)) N);have hR:=ae eR;unfold AP at hR;let⟨ok,ox⟩:=cg (nT e g x t ss ns);rw[ae ox]at hR;go_in
 go_wp21
 rw[<-cT,<-fT,<-fW,<-ky];refine cL (aR8 en em (ae B N BR).2.1 (ae B N BR).2.2.1 hn hm ig dr ox) λw1 az=>?_;have B1:=ai az;have e9:=hR;cases ok;{
 rw[aJ al]at e9
 go_wp21
 refine cL (aw0) λw2 aA=>?_;obtain⟨LW,-,-,-,-,bw⟩:=ae B w2 (aj B1 aA);let⟨mv,BW⟩:=aQ (show TX w2 (U (Q w)) _ _ _ from⟨LW.1,LW.2.2.1,LW.2.2.2⟩) bw;let⟨q0,q1,q2,q3,q4,q5,qf⟩:=mv.2.1.cells;let⟨r0,r1,r2,r3,r4,r5,r6,r7,rf⟩:=mv.2.2.cells;go_wp2;let⟨fF,bF⟩:=TX.fin mv (.U 0) (.U 0) (.U 0) (.I 0) aN aN (.I 1) (.U 0) (.U 0) (.U 0) (.I 0) aN aN aN;refine cX (v:=dT #[cO 0 0 0 0 aN aN,ij 1 0 0 0 0 aN aN aN]) (by simp[results,results96,go_sem,q0,q1,q2,q3,q4,q5,r0,r1,r2,r3,r4,r5,r6,r7]) rfl ?_;rw[<-e9];exact⟨dN,0,dN,0,aN,aN,aN,[],rfl,fh.nil _ _,RT.nil _ _ _ _ _,TB.nil _,RT.nil _ _ _ _ _,RT.nil _ _ _ _ _,Fr.H (BW.Z bF),BW.Z bF⟩};{
 rw[aK rfl]at e9
 go_wp21
 let⟨M,br⟩:=aF w1.drew;have bM:Bw N M:=aj (ae B1) (br▸mC);have BA:=ai bM;have zA:=bM.size;have SA:=ai (λ(v:G)(hQ:QB v (U (Q w)) [.U e,.U g,.U x,.I t,.S p n c,.S q m d] [.I K,.U S,.S pp np cp,.I F,.S pq nv cv,.U E,.U iG] [.U 0,.U 0,.U 0,.I 0,ay,ay] [.I 0,.U 0,.U 0,.U 0,.I 0,aN,aN,aN])=>aE hQ.1.D9 (aE (hQ.2.1.1 0 _ rfl) (aE (hQ.2.1.1 1 _ rfl) (aE (hQ.2.1.1 2 _ rfl) (aE (hQ.2.1.1 3 _ rfl) (aE (hQ.2.1.1 4 _ rfl) (aE (hQ.2.1.1 5 _ rfl) (hQ.2.1.1 6 _ rfl))))))));refine fw (λw'=>(I w' (Aw w 0)=dU e/\I w' (Aw w 1)=dU g/\I w' (Aw w 2)=dU x/\I w' (Aw w 3)=dI t/\I w' (Aw w 4)=dS p n c/\I w' (Aw w 5)=dS q m d)/\I w' (Ax w 0)=dI K/\I w' (Ax w 1)=dU S/\I w' (Ax w 2)=dS pp np cp/\I w' (Ax w 3)=dI F/\I w' (Ax w 4)=dS pq nv cv/\I w' (Ax w 5)=dU E/\I w' (Ax w 6)=dU iG) (br▸ae SA M (ae B M bM).1) λhS=>?_;rw[<-br]at hS⊢;refine fu 0 2 hS ?_;refine fy 1 λKK hK=>?_;refine ju (aF3 en em (ae B M BA).2.1 (ae B M BA).2.2.1 hn hm (ai λs hs=>⟨(ae ig s hs).1,λev he=>((ae ig s hs).2 ev he).2⟩) (ai λnd aI=>(ae dr nd aI).2)) ?_;rintro r v1⟨p1,c1,q1,d1,rfl,⟨Qs,WC⟩,IC,aA⟩;refine fE ?_;have B2:=ai (aj BA aA);have H1:=bG WC IC;refine bS hK (SA v1 (ae B v1 B2).1) λhS=>?_;refine fy 3 λKK hK=>?_;refine Yt aY aY aY aY (λ_=>(λ(vs:iA)(w:G)=>show(callFunc 55 vs).run dG w=.ok (.enter 55 vs) w by kernel_rfl) _ _) (cQ2 en em eP eV H1.1 H1.2 (ai (ae B v1 B2).2.2.2.1) (ai (ae B v1 B2).2.2.2.2.1) aA.size hn hm hp y gm im (ae hW ox) bP e9) ?_;rintro r v2⟨p',c',q',d',Dv,Nv,Ev,uB,rfl,ur,rh,tD,tN,tE,hF,ku⟩;refine fE ?_;let⟨L2,HQ⟩:=aQ (QB.W (w'':=v2) (ae B v1 B2).1 (λj h1 h2=>ku.block j af)) (show QR (U (Q M)) v1 v2 _ R.1 R.2 from⟨p',c',q',d',Dv,Nv,Ev,uB,rfl,ur,rh,tD,tN,tE,hF,ku⟩);obtain⟨dp,dc,rfl⟩:=tD.fq;obtain⟨W,Z,rfl,-⟩:=RT.form tN;obtain⟨yp,yc,rfl,-⟩:=RT.form tE;refine bS hK (SA v2 L2) λhS=>?_;refine fu 4 5 hS ?_;refine Vm 6 7 4 5 15 16 aS aS aS rfl rfl (U (Q w)+1+1) (U (Q w)+1+1+1) R.1.e R.1.g R.1.x R.1.t p' (J R.1.E) c' q' (J R.1.N) d' R.2.k R.2.i R.2.e R.2.g R.2.n dp (J R.2.lW) dc W (J R.2.iB) Z yp (J R.2.kF) yc rfl rfl rfl rfl L2.2.2.1 L2.2.2.2 af (λv y _=>?_) ?_;{have h2:=L2.2.1.dt (y.block _ af);exact⟨(L2.1.dt (y.block _ af)).D9,h2.1 0 _ rfl,h2.1 1 _ rfl,h2.1 2 _ rfl,h2.1 3 _ rfl,h2.1 4 _ rfl,h2.1 5 _ rfl,h2.1 6 _ rfl⟩};intro w' az nj f1 tW;refine AJ ?_;have hw1:=(ae B v1 B2).2.2.2.2.2;let⟨q0,q1',q2,q3,q4,q5,qf⟩:=az.cells;let⟨r0,r1,r2,r3,r4,r5,r6,r7,rf⟩:=nj.cells;go_wp2;refine cX (v:=dT #[cO R.1.e R.1.g R.1.x R.1.t (.S p' (J R.1.E) c') (.S q' (J R.1.N) d'),ij R.2.k R.2.i R.2.e R.2.g R.2.n (.S dp (J R.2.lW) dc) (.S W (J R.2.iB) Z) (.S yp (J R.2.kF) yc)]) (by simp[results,results96,go_sem,q0,q1',q2,q3,q4,q5,r0,r1,r2,r3,r4,r5,r6,r7]) rfl ?_;exact(QR.low (QR.h HQ (by omega:U (Q w)<=U (Q M))) (Fr.H hw1) hw1 f1 (tW.h af) aU)}
theorem iR.lp{R:Nat}{w w':G}(h:iR w b v0 v1 v2 v3 v4 v5 v6)(j:Kept [blk R] w w')(m:b<U (Q w))(o:b≠R):iR w' b v0 v1 v2 v3 v4 v5 v6:=by
 have e:=j.cellAt m (λx i e=>by simp only[rC]at i;subst i;simp[jB]at e;exact o e.C);exact⟨(e 0).Z h.1,(e 1).Z h.2.1,(e 2).Z h.2.2.1,(e 3).Z h.2.2.2.1,(e 4).Z h.2.2.2.2.1,(e 5).Z h.2.2.2.2.2.1,(e 6).Z h.2.2.2.2.2.2⟩
abbrev bD8(m:LI)(n:Nat)(t:Bool)(x:Int)(m':LI)(n':Nat)(t':Bool):Prop:=
 ∀(R:Nat)(w':G),mw w' R m n t->Cp 255 #[Pz R] w' λe w''=>e=dR (.I x)/\mw w'' R m' n' t'/\Kept [blk R] w' w''
abbrev cU0(m:LI)(n:Nat)(t:Bool)(x:Int)(m':LI)(n':Nat)(t':Bool):Prop:=
 ∀(R:Nat)(w':G),mw w' R m n t->Cp 231 #[Pz R] w' λe w''=>e=dR (.U x)/\mw w'' R m' n' t'/\Kept [blk R] w' w''
abbrev bD2(m:LI)(n:Nat)(t:Bool)(x:LI)(N:Nat)(m':LI)(n':Nat)(t':Bool):Prop:=
 ∀(R:Nat)(w':G),mw w' R m n t->R<U (Q w')->Cp 256 #[Pz R] w' λr w''=>∃p' c',r=dR (.S p' N c')/\Own (U (Q w')) w'' (.S p' N c') x/\mw w'' R m' n' t'/\Kept [blk R] w' w''
theorem co7(p:OA)(c n:Nat)(l:LI)(en:Le l n)(w:G)(h:Rd w (.S p n c) l)(hl:Mg n)(qi:n<=c)(hp:O ((p=dN/\c=0)\/∃b o,p=(Ad b o)))(oY:O (∀b o,p=(Ad b o)->b<U (Q w)))(hT:uz w)(k s f:Int)(P V m1 m2 m3 m4 m5:LI)(n1 n2 n3 n4 n5 y NV:Nat)(t1 t2 t3 t4 t5:Bool)(C1:O (bD8 l n dF k m1 n1 t1))(C2:O (cU0 m1 n1 t1 s m2 n2 t2))(C3:O (bD2 m2 n2 t2 P y m3 n3 t3))(C4:O (bD8 m3 n3 t3 f m4 n4 t4))(C5:O (bD2 m4 n4 t4 V NV m5 n5 t5))(LE:LI)(NE:Nat)(eLE:Le LE NE)(BL:O (aD LE))(HB:O (aD l))(E:O (bI9 138 w k s f 0 0 y NV NE P V LE))(D:Bool)(eD:O (dD (LE=l)=D)):dQ dG 236 #[.S p n c] w λe w'=>(O (t5=dY\/D=dF)->e=dR (dT #[mG 0 0 ay 0 ay 0 0,.I 13])/\Bw w w')/\(O (t5=dF/\D)->∃p' c' q' d' B,e=dR (dT #[mG k s (.S p' y c') f (.S q' NV d') 0 0,.I 0])/\U (Q w)<=B/\Own (U (Q w)) w' (.S p' y c') P/\XT (U (Q w)) B (.S p' y c')/\Own B w' (.S q' NV d') V/\Bw w w'):=by
 have HH:=ai h;clear h hT;go_in
 go_wp21
 let⟨W,x⟩:=aF (jA (jA w (dO #[.I 0,.U 0,ay,.I 0,ay,.U 0,.U 0] 54)) (dO #[.S p n c,jO dF] 287));have bW:Bw w W:=x▸IS (IS db);let⟨Z,N⟩:=aF (U (Q w));let⟨R,eR⟩:=aF (Z+1);have hR0:iR W Z (.I 0) (.U 0) ay (.I 0) ay (.U 0) (.U 0):=by rw[x,N];simp[iR,go_sem]
 have fR0:∀o,jF W (Ad Z o)=dF:=λo=>by rw[x,N];simp[go_sem]
 have zW:U (Q W)=R+1:=by rw[x,eR,N];simp
 have Iz:mw W R l n dF:=by refine⟨ae en,λo=>by rw[x,eR,N];simp[go_sem],p,c,?_,?_,qi,ae hp⟩;{rw[x,eR,N];simp[CF,go_sem]};{let⟨p',c',ev,hc⟩:=HH.H bW;obtain⟨rfl,-,-⟩:=mh ev;obtain hc|⟨b,o,rfl,hc⟩:=hc;{exact .L hc};{exact .R ⟨b,o,aM (ae oY b o rfl),rfl,hc⟩}}
 rw[<-x,<-N,<-eR];clear x;let⟨g1,M,gw,zR⟩:Z<R/\U (Q w)<=Z/\U (Q w)<=R/\R<U (Q W):=af;clear N eR zW;refine(ae C1 R _ Iz).h ?_;rintro r w1⟨rfl,ta,K1⟩;have A1:=hR0.lp K1 af af;have F1:=ag1 fR0 K1 af af;have b1:=Xk bW K1 af;have z1:=K1.size;clear hR0 fR0 bW K1 Iz
 go_wp21
 refine(ae C2 R _ ta).h ?_;rintro r w2⟨rfl,Pg,K2⟩;have A2:=A1.lp K2 af af;have F2:=ag1 F1 K2 af af;have b2:=Xk b1 K2 af;have z2:=K2.size;clear A1 F1 b1 K2 ta
 go_wp21
 refine(ae C3 R _ Pg af).h ?_;rintro r w3⟨p3,c3,rfl,o3,tQ,K3⟩;have A3:=A2.lp K3 af af;have F3:=ag1 F2 K3 af af;have b3:=Xk b2 K3 af;have z3:=K3.size;clear A2 F2 b2 K3 Pg
 go_wp21
 refine(ae C4 R _ tQ).h ?_;rintro r w4⟨rfl,Th,K4⟩;have A4:=A3.lp K4 af af;have F4:=ag1 F3 K4 af af;have b4:=Xk b3 K4 af;have o4:=Own.lp o3 K4 af;have tP:=o4.btw;have z4:=K4.size;clear A3 F3 b3 K4 tQ o3
 go_wp21
 refine(ae C5 R _ Th af).h ?_;rintro r w5⟨p5,c5,rfl,o5,hR5,K5⟩;have m:=A4.lp K5 af af;have F5:=ag1 F4 K5 af af;have b5:=Xk b4 K5 af;have o45:=Own.lp o4 K5 af;have z5:=K5.size;clear A4 F4 b4 K5 Th o4;obtain⟨_,fr5,pr,cr,⟨i0,i1⟩,_⟩:=hR5;have j:∀i:Obj,Bw w5 (w5.alloc i):=λi=>cY;have qs:=λi=>aq i1 (j i);have q0:=λi=>aq m.1 (j i);have q1:=λi=>aq m.2.1 (j i);have q2:=λi=>aq m.2.2.1 (j i);have q3:=λi=>aq m.2.2.2.1 (j i);have q4:=λi=>aq m.2.2.2.2.1 (j i);have q5:=λi=>aq m.2.2.2.2.2.1 (j i);have q6:=λi=>aq m.2.2.2.2.2.2 (j i);have qf:=λ(i:Obj)=>yT F5 af (j i);let⟨X,hX⟩:=aF (jA w5 (dO #[.I k,.U s,.S p3 y c3,.I f,.S p5 NV c5,.U 0,.U 0] 54));have Fq:Bw w5 X:=hX▸j _;have bX:Bw w X:=aj b5 Fq;have AX:=m.H Fq;have FX:=yT F5 af Fq;have OX:iR X (U (Q w5)) (.I k) (.U s) (.S p3 y c3) (.I f) (.S p5 NV c5) (.U 0) (.U 0):=by rw[hX];simp[iR,go_sem]
 have zX:U (Q w5)<U (Q X):=by rw[hX];simp
 have xP:=Own.H o45 Fq;have xV:=Own.H o5 Fq;clear m F5 i0 i1 fr5 o45 o5 Fq j;cases t5 with
 |true=>
  clear hX;go_wp2;refine cX (v:=dT #[mG 0 0 ay 0 ay 0 0,.I 13]) (by simp[results,results236,go_sem,q0,q1,q2,q3,q4,q5,q6]) rfl ⟨λ_=>⟨rfl,?_⟩,λe=>absurd (ae e) al⟩
  iterate 7 (refine tp ?_ M _)
  exact IS b5
 | false=>
  go_wp21
  rw[<-hX];clear hX q0 q1 q2 q3 q4 q5 q6 qf qs;refine(ae E p3 p5 c3 c5 _ bX xP.rd xV.rd).h ?_;rintro r x1⟨p6,c6,rfl,o6,u⟩;have IP:=aj bX u;have A6:=AX.H u;have O6:=OX.H u;have F6:=yT FX af u;have XY:=u.size;have xP6:=Own.H xP u;have xV6:=Own.H xV u;clear AX FX OX xP xV bX u
  go_wp21
  refine cL (ai9 eLE en o6.rd (HH.H IP) BL HB) λx2 Iv=>?_;rw[ae eD];have bx2:=ai (aj IP Iv);have A7:=A6.H Iv;have O7:=O6.H Iv;have F7:=yT F6 af Iv;let⟨xP7,xV7⟩:=aQ (Own.H xP6 Iv) (Own.H xV6 Iv);clear A6 O6 F6 Iv IP o6 xP6 xV6;have r0:=id A7;have j0:=id O7;clear A7 O7;cases D with
  |false=>
   go_wp2;refine cX (v:=dT #[mG 0 0 ay 0 ay 0 0,.I 13]) (by simp[results,results236,go_sem,r0]) rfl ⟨λ_=>⟨rfl,?_⟩,λe=>absurd (ae e) al⟩
   iterate 7 (refine tp ?_ M _)
   exact bx2
  |true=>
   go_wp2;let⟨fI,gv,Sg,L8⟩:=(show Z<U (Q w2)/\Z<U (Q w4)/\U (Q w)<=U (Q w2)/\U (Q w)<=U w4.heap by omega);refine cX (v:=dT #[mG k s (.S p3 y c3) f (.S p5 NV c5) 0 0,.I 0]) (by simp[results,results236,go_sem,r0]) rfl ⟨λe=>absurd (ae e) al,λ_=>⟨p3,c3,p5,c5,rfl,U (Q w4),L8,?_,λb hb=>aM (tP b hb),?_,?_⟩⟩;{
 refine Own.h (B:=U (Q w2)) ?_ Sg
 iterate 7 (refine rW ?_ fI _)
 exact xP7};{
 iterate 7 (refine rW ?_ gv _)
 exact xV7};{
 iterate 7 (refine tp ?_ M _)
 exact bx2}
def La(w:G)(q:OA)(d:Nat):Prop:=((q=dN/\d=0)\/∃b o,q=(Ad b o))/\∀b o,q=(Ad b o)->b<U (Q w)
theorem Own.Xp{w:G}(h:Own B w (.S q n d) l):La w q d:=by
 refine⟨?_,λb o e=>?_⟩;{obtain⟨e,m⟩|⟨g,j,i,e,_⟩:=h.2;{simp only[rE]at e;exact .L ⟨e.1,e.2.2⟩};{simp only[rE]at e;exact .R ⟨g,0,e.1⟩}};{subst e;exact(h.lt b rfl).2}
abbrev an4(F:Nat)(w:G)(l:LI)(n:Nat)(k s f:Int)(P V:LI)(NP NV:Nat)(code:Int):Prop:=
 ∀(q:OA)(d:Nat)(w':G),Bw w w'->Rd w' (.S q n d) l->n<=d->La w' q d->dQ dG F #[.S q n d] w' λr w''=>∃p' c' q' d' B,r=dR (dT #[mG k s (.S p' NP c') f (.S q' NV d') 0 0,.I code])/\U (Q w')<=B/\Own (U (Q w')) w'' (.S p' NP c') P/\XT (U (Q w')) B (.S p' NP c')/\Own B w'' (.S q' NV d') V/\Bw w' w''
variable {F:Nat}
theorem cK2{w:G}(h:∀(q:OA)(d:Nat)(w':G),Bw w w'->Rd w' (.S q n d) l->n<=d->La w' q d->dQ dG F #[.S q n d] w' λe i=>e=dR (dT #[mG 0 0 ay 0 ay 0 0,.I 13])/\Bw w' i):an4 F w l n 0 0 0 [] [] 0 0 13:=
 λq d w' hb j m o=>(h q d w' hb j m o).h (by rintro r i⟨rfl,h2⟩;exact⟨dN,0,dN,0,U (Q w'),rfl,fS _,qe _ _ _ _,(λb e=>by simp[jB]at e),qe _ _ _ _,h2⟩)
theorem cd6{f:Nat}(u:k<256)(j:s<2^64)(hf:f<256)(o:aD P)(m:aD V)(r:Mg (J P))(q:Mg (J V)):aD (qd k s P f V):=
 aD.app (λz i=>by simp at i;subst i;omega) (aD.app (CH j) (aD.app (aD.app (CH af) o) (aD.app (λz i=>by simp at i;subst i;omega) (aD.app (CH af) m))))
variable {K S:Nat}
theorem uZ.parts(h:uZ l K S P F V):J P<=J l/\J V<=J l:=by
 obtain⟨_,_,_,_,_,_,e⟩:=h;rw[e,qd,tx,tx];simp only[fe,mO,BJ];omega
theorem dq5{w:G}(en:J l=n)(hb:aD l)(M:Mg n)(x:∀K S P F V,¬uZ l K S P F V):an4 95 w l n 0 0 0 [] [] 0 0 13:=
 cK2 λq d w' Pa B E ha=>by obtain⟨⟨k,o⟩,Z⟩:∃y,oB l=y:=⟨_,rfl⟩;obtain⟨⟨s,m⟩,X⟩:∃y,oV o=y:=⟨_,rfl⟩;obtain⟨⟨P,j⟩,W⟩:∃y,oT m=y:=⟨_,rfl⟩;obtain⟨⟨f,i⟩,R⟩:∃y,oB j=y:=⟨_,rfl⟩;obtain⟨⟨V,u⟩,N⟩:∃y,oT i=y:=⟨_,rfl⟩;refine(bU2 q d n l en w' B hb M E k s f P V o m j i u Z X W R N (J P) (J V) rfl rfl).h ?_;rintro r w2(h|⟨K,S,F,-,-,-,h,-⟩);{exact h.1};{exact absurd h (x K S P F V)}
theorem dq3{w:G}(en:J l=n)(hb:aD l)(y:Mg n)(h:uZ l K S P F V):an4 95 w l n K S F P V (J P) (J V) 0:=λq d w' R u x M=>by
 have E:=h.parts;let⟨s,o,m,j,i⟩:=dz7 (k:=K) (f:=F) (P:=P) (V:=V) h.2.2.1 af af;refine(bU2 q d n l en w' u hb y x K S F P V _ _ _ _ _ (by show oB l=_;rw[h.2.2.2.2.2.2];exact s) o m j i (J P) (J V) rfl rfl).h ?_;rintro r B(e|⟨W,N,X,a,b,c,-,e⟩);{exact absurd ⟨rfl,K,S,F,rfl,rfl,rfl,h⟩ e.2};{cases Vy.1 a;cases Vy.1 b;cases Vy.1 c;exact e}
variable {m:LI}{t:Bool}
theorem aq2(hm:J m=n)(j:aD m)(i:Mg n)(e:sB m t=(x,m',t')):bD8 m n t x m' (J m') t':=λR o h=>aS3 h j i e
theorem ce4(j:aD m)(i:Mg n)(e:sN 10 0 0 m t=(x,m',t')):cU0 m n t x m' (J m') t':=λR o h=>Hw h j i e
theorem ap1(j:aD m)(i:Mg n){x:LI}(e:sT m t=(x,m',t')):bD2 m n t x (J x) m' (J m') t':=λR q h o=>aP2 h j i o (x:=x) e (N:=J x) rfl
theorem dU5{w:G}(en:J l=n)(hb:aD l)(x:Mg n)(hT:uz w)(h:uZ l K S P F V):an4 236 w l n K S F P V (J P) (J V) 0:=λq d w' Pa W X y=>by
 have hp:=h.parts;let⟨h1,h2,B,hF,o,Z,i⟩:=id h;have R:aD (vi S++(tx P++([(F:Int)]++tx V))):=λz j=>hb z (by rw[i,qd];exact H7 _ j);have N:aD (tx P++([(F:Int)]++tx V)):=λz j=>R z (H7 _ j);have M:aD ([(F:Int)]++tx V):=λz j=>N z (H7 _ j);have l0:J l=1+J (vi S++(tx P++([(F:Int)]++tx V))):=by rw[i,qd,fe];rfl
 have l1:J (vi S++(tx P++([(F:Int)]++tx V)))=J (vi S)+J (tx P++([(F:Int)]++tx V)):=fe;have l2:J (tx P++([(F:Int)]++tx V))=J (tx P)+J ([(F:Int)]++tx V):=fe;have l3:J ([(F:Int)]++tx V)=1+J (tx V):=fe;have m:uz w':=λk a b=>(hT k a b).H Pa;have E:=m K h1 h2;rw[show(rowOf K).2.2.2.2.2.2=dY from Z]at E;refine(co7 q d n l en w' W x X y.1 y.2 m K S F P V _ _ _ _ [] _ _ _ _ _ (J P) (J V) dF dF dF dF dF
  (aq2 (m':=vi S++(tx P++([(F:Int)]++tx V))) en hb x (by rw[i];rfl)) (ce4 R af (aT9 (s:=S) (sh:=dF) B)) (ap1 N af (aq5 P (sh:=dF) af)) (aq2 (m':=tx V) rfl M af rfl) (ap1 (λz j=>M z (H7 _ j)) af (by have:=aq5 V (rest:=[]) (sh:=dF) af;rwa [Da]at this))
  (qd K S P F V) (J (qd K S P F V)) rfl (i▸hb) hb ?_ dY (ai (by rw[<-i];simp))).h (λr u h=>h.2 (ai ⟨rfl,rfl⟩))
 intro q1 q2 d1 d2 u aA g1 g2;exact bh4 K h1 h2 S F B hF (e:=0) (g:=0) (p:=q1) (q:=q2) (c:=d1) (d:=d2) P V rfl rfl (w:=u) g1 g2 af af (E.H aA) o rfl
theorem eC4{w:G}(M:uz w){k s f:Int}(s0:0<=s)(s1:s<2^64)(hP:aD P)(Z:aD V)(B:Mg (J P))(y:Mg (J V)):∃o:LI,aD o/\bI9 138 w k s f 0 0 (J P) (J V) (J o) P V o/\(o=[]\/∃K S F:Nat,k=K/\s=S/\f=F/\∀l,o=l->uZ l K S P F V):=by
 by_cases hk:1<=k/\k<=13;{
 obtain⟨S,rfl⟩:∃S:Nat,s=(S:Int):=⟨jN s,af⟩;obtain⟨K,rfl⟩:∃K:Nat,k=(K:Int):=⟨jN k,af⟩;let⟨j,i⟩:1<=K/\K<=13:=af;by_cases N:(qt K S f (J P) (J V) 0 0&&Ah K)=dY;{let⟨hf,D⟩:=Bool.and_eq_true_iff.1 N;let⟨f0,f2⟩:=cE6 j i hf;obtain⟨F,rfl⟩:∃F:Nat,f=(F:Int):=⟨jN f,af⟩;refine⟨qd K S P F V,cd6 af af af hP Z B y,?_,.R ⟨K,S,F,rfl,rfl,rfl,λl e=>⟨j,i,af,af,hf,D,e.C⟩⟩⟩;intro x u W R w2 aA g1 g2;have m:=(M K j i).H aA;rw[show(rowOf K).2.2.2.2.2.2=dY from D]at m;exact bh4 K j i S F af af P V rfl rfl g1 g2 B y m hf rfl};{
 have r:(qt K S f (J P) (J V) 0 0&&Ah K)=dF:=by simpa using N
 refine⟨[],λz q=>by simp at q,cH2 ?_,.L rfl⟩;intro x u W R X E;exact dV3 j i (s:=S) (f:=f) (e:=0) (g:=0) ((M K j i).H E) rfl r}};{refine⟨[],λz q=>by simp at q,cH2 ?_,.L rfl⟩;intro x u W R X E;exact dV2 af}
theorem dU6{w:G}(en:J l=n)(hb:aD l)(hl:Mg n)(hT:uz w)(iL:∀K S P F V,¬uZ l K S P F V):an4 236 w l n 0 0 0 [] [] 0 0 13:=
 cK2 λq d w' Pa hr hn ha=>by
  obtain⟨⟨k,R,N⟩,e1⟩:∃y,sB l dF=y:=⟨_,rfl⟩;obtain⟨⟨s,m2,M⟩,e2⟩:∃y,sN 10 0 0 R N=y:=⟨_,rfl⟩;obtain⟨⟨P,Z,E⟩,e3⟩:∃y,sT m2 M=y:=⟨_,rfl⟩;obtain⟨⟨f,X,B⟩,e4⟩:∃y,sB Z E=y:=⟨_,rfl⟩;obtain⟨⟨V,m5,t5⟩,e5⟩:∃y,sT X B=y:=⟨_,rfl⟩;have u:=Vi (sh:=dF) hb;rw[e1]at u;obtain⟨u,_,_,L1⟩:=u;have o:=YD 10 0 0 R N u af;rw[e2]at o;obtain⟨o,L2,s0,s1⟩:=o;have j:=Vh (sh:=M) o;rw[e3]at j;obtain⟨BP,j,LP,L3⟩:=j;have i:=Vi (sh:=E) j;rw[e4]at i;obtain⟨i,_,_,L4⟩:=i;have B5:=Vh (sh:=B) i;rw[e5]at B5;obtain⟨BV,_,LV,_⟩:=B5;dsimp only at u L1 o L2 s0 s1 BP j LP L3 i L4 BV LV;have x:uz w':=λk a b=>(hT k a b).H Pa;let⟨W,BL,hE,hLE⟩:=eC4 x (k:=k) (f:=f) s0 s1 BP BV af af;refine(co7 q d n l en w' hr hl hn ha.1 ha.2 x k s f P V R m2 Z X m5 _ _ _ _ _ (J P) (J V) N M E B t5
   (aq2 en hb hl e1) (ce4 u af e2) (ap1 o af e3) (aq2 rfl j af e4) (ap1 i af e5)
   W (J W) rfl BL hb hE (dD (W=l)) rfl).h (λr w2 h=>h.1 (ai ?_))
  by_cases hd:W=l;{
 left;obtain h0|⟨K,S,F,_,_,_,h⟩:=hLE;{
 have sX:l=[]:=by rw[<-hd,h0]
 have h2:M:=by have:=aU0 10 0 0 R N (by have:=vj (λy=>y.2.2) e1;rw[sX]at this;exact this.C);rw[e2]at this;exact this
 have h3:E:=by have:=aq6 (m:=m2) h2;rw[e3]at this;exact this
 have h4:B:=by have:=aq7 (m:=Z) h3;rw[e4]at this;exact this
 have:=aq6 (m:=X) h4;rw[e5]at this;exact this};{exact absurd (h l hd) (iL K S P F V)}};{right;simpa using hd}
def rL{α σ:Type}(f:σ->α×σ):Nat->σ->List α×σ
 |0,o=>([],o)
 |k+1,o=>((rL f k o).1++[(f (rL f k o).2).1],(f (rL f k o).2).2)
theorem dA9{α σ:Type}(f:σ->α×σ)(k:Nat)(o:σ):rL f (k+1) o=((f o).1::(rL f k (f o).2).1,(rL f k (f o).2).2):=by
 induction k with
 |zero=>rfl
 |succ k ih=>rw[rL,ih];rfl
theorem Lk{α σ:Type}(f:σ->α×σ)(k:Nat)(o:σ):(rL f k o).1.length=k:=by
 induction k with
 |zero=>rfl
 |succ k ih=>rw[rL,fe,ih];rfl
theorem aV4{α:Type}(f:Option LI->α×Option LI)(g:α->LI):∀(xs:List α)(rest:LI),(∀x∈xs,∀r,f (Y (g x++r))=(x,Y r))->rL f (J xs) (Y (cat (xs.map g)++rest))=(xs,Y rest)
 |[],rest,_=>rfl
 |x::xs,rest,h=>by rw[mO,dA9,od,cat,vF,xL,h x al];have:=aV4 f g xs rest λy i=>h y (by simp[i]);rw[cat]at this;simp only[this]
def Bx(o:Option LI):Option (au×Option LI):=
 let a:=oT o;let b:=oT a.2;let c:=oV b.2;let d:=oB c.2;let h:=oV d.2
 if h.2=dN\/50<h.1 then dN
 else
  let l:=rL oV (jN h.1) h.2;let e:=oV l.2;let g:=oV e.2
  Y (⟨a.1,b.1,c.1,d.1,l.1,e.1,g.1,[]⟩,g.2)
def sO:Nat->Option LI->Option (List au×Option LI)
 |0,o=>Y ([],o)
 |k+1,o=>(sO k o).bind λr=>(Bx r.2).map λq=>(r.1++[q.1],q.2)
theorem dr9(k:Nat)(o:Option LI):sO (k+1) o=(Bx o).bind λq=>(sO k q.2).map λr=>(q.1::r.1,r.2):=by
 induction k with
 |zero=>
  simp only[sO,Dc,Eh];cases Bx o<;>rfl
 | succ k ih=>
  rw[sO,ih];cases Bx o with
  |none=>rfl
  | some q=>
   simp only[Dc];rw[sO];cases sO k q.2 with
   |none=>rfl
   |some r=>
    simp only[JE,Dc];cases Bx r.2<;>rfl
def Ai(i:Int):aB:=(i,0,[])
def CK(l:LI):Option ((Int×Int×Int)×List aB×List au×Option LI):=
 let a:=oV l;let b:=oV a.2;let c:=oV b.2;let d:=oV c.2
 if d.2=dN\/50<d.1 then dN
 else
  let s:=rL oV (jN d.1) d.2;let m:=oV s.2
  if m.2=dN\/200<m.1 then dN
  else(sO (jN m.1) m.2).map λr=>((a.1,b.1,c.1),s.1.map Ai,r.1,r.2)
def lK(l:LI):Option ((Int×Int×Int)×List aB×List au):=
 (CK l).bind λr=>if r.2.2.2≠dN/\nT r.1.1 r.1.2.1 r.1.2.2 0 r.2.1 r.2.2.1/\sL (jN r.1.1) (jN r.1.2.1) (jN r.1.2.2) r.2.1 r.2.2.1=l then Y (r.1,r.2.1,r.2.2.1)else dN
theorem QY{r:LI}(h:s<2^64):oV (Y (vi s++r))=((s:Int),Y r):=by
 rw[oV,aq8 r h]
theorem ce0(P:LI){r:LI}(h:J P<2^64):oT (Y (tx P++r))=(P,Y r):=by
 rw[oT,aU2 r h]
theorem YS(h:0<=i/\i<2^64)(r:LI):oV (Y (kL i++r))=(i,Y r):=by
 rw[kL,QY af,Ob h.1]
theorem ds3(h:Cx ss ns)(y:nd∈ns)(j:nd.X=[])(r:LI):Bx (Y (lM nd++r))=Y (nd,Y r):=by
 let⟨⟨h1,h2,h3⟩,h4,x,u,q,o⟩:=h.d nd y;have e:lM nd++r=tx nd.A++(tx nd.V++(kL nd.D++([nd.M]++(vi (J nd.y)++(cat (nd.y.map kL)++(kL nd.P++(kL nd.F++r))))))):=by rw[lM,Ge,JO];simp[cat,kL]
 rw[e,Bx];simp only[ce0 nd.A af,ce0 nd.V af,YS x,Gk,Eh,oB];rw[QY (s:=J nd.y) af];simp only[rY];rw[aJ bL,aV4 oV kL nd.y _ λi m r=>YS (o i m) r];simp only[YS u,YS q,oK,lE,aZ3];rw[<-j]
theorem bU6(h:Cx ss ns):∀(xs:List au)(r:LI),(∀x∈xs,x∈ns/\x.X=[])->sO (J xs) (Y (cat (xs.map lM)++r))=Y (xs,Y r)
 |[],r,_=>rfl
 |x::xs,r,hx=>by rw[mO,dr9,od,cat,vF,xL,ds3 h (hx x al).1 (hx x al).2];have:=bU6 h xs r λy i=>hx y (by simp[i]);rw[cat]at this;simp only[Dc,this,JE]
theorem bT7(e g x:Nat)(ss:List aB)(ns:List au):sL e g x ss ns=vi e++(vi g++(vi x++(vi (J ss)++(cat (ss.map qM)++(vi (J ns)++(cat (ns.map lM)++[])))))):=by
 rw[sL,JO,JO];simp[cat]
theorem du3:ss.map qM=(ss.map (·.1)).map kL:=by
 rw[uI];rfl
theorem dW3(h:∀s∈ss,s.2=(0,[])):(ss.map (·.1)).map Ai=ss:=by
 rw[uI]
 conv=>rhs;rw[<-bd1 ss]
 refine RM λs i=>?_;obtain⟨a,b⟩:=s;have:=h _ i;simp only at this;simp[Ai,this]
theorem dr7{e x:Nat}(he:e<2^64)(B:g<2^64)(m:x<2^64)(h:Cx ss ns)(h1:∀s∈ss,s.2=(0,[]))(h2:∀nd∈ns,nd.X=[]):CK (sL e g x ss ns)=Y (((e:Int),(g:Int),(x:Int)),ss,ns,Y []):=by
 have M:=h.n1;have E:=h.n2;rw[bT7,CK];simp only[QY he,QY B,QY m,QY (show J ss<2^64 by omega),rY];have q:rL oV (J ss) (Y (cat (ss.map qM)++(vi (J ns)++(cat (ns.map lM)++[]))))=(ss.map (·.1),Y (vi (J ns)++(cat (ns.map lM)++[]))):=by
  have:=aV4 oV kL (ss.map (·.1)) (vi (J ns)++(cat (ns.map lM)++[])) λi u r=>by obtain⟨s,o,rfl⟩:=fM.1 u;exact YS (h.s s o) r
  rw[iC]at this;rw[du3,this]
 rw[aJ bL,q];simp only[QY (show J ns<2^64 by omega),rY];rw[aJ bL,bU6 h ns [] λy j=>⟨j,h2 y j⟩,dW3 h1];rfl
abbrev Rs:Type:=LI×Bool
def gK(s:Rs):Int×Rs:=sN 10 0 0 s.1 s.2
def vH{α:Type}(f:Rs->α×Rs):Nat->List α->Rs->List α×Rs
 |0,acc,s=>(acc,s)
 |k+1,acc,s=>if(f s).2.2 then([],(f s).2)else vH f k (acc++[(f s).1]) (f s).2
def lF{α:Type}(f:Rs->α×Rs)(s:Rs):List α×Rs:=vH f (gK s).1.toNat [] (gK s).2
def Jt(s:Rs):aB×Rs:=(Ai (gK s).1,(gK s).2)
def By(s:Rs):au×Rs:=
 let a:=sT s.1 s.2;let b:=sT a.2.1 a.2.2;let c:=gK b.2;let d:=sB c.2.1 c.2.2;let h:=lF gK d.2;let e:=gK h.2;let g:=gK e.2
 (⟨a.1,b.1,c.1,d.1,h.1,e.1,g.1,[]⟩,g.2)
def uO(l:LI):(Int×Int×Int)×List aB×List au×Rs:=
 let a:=gK (l,dF);let b:=gK a.2;let c:=gK b.2;let s:=lF Jt c.2;let n:=lF By s.2
 ((a.1,b.1,c.1),s.1,n.1,n.2)
def vI(l:LI):Option ((Int×Int×Int)×List aB×List au):=
 let r:=uO l
 if r.2.2.2.2=dF/\Fg r.1.1 r.1.2.1 r.1.2.2 0 r.2.1 r.2.2.1=l then Y (r.1,r.2.1,r.2.2.1)else dN
theorem YC{r:LI}(h:s<2^64):gK (vi s++r,dF)=((s:Int),r,dF):=aT9 (rest:=r) (sh:=dF) h
theorem YA(h:0<=i/\i<2^64)(r:LI):gK (kL i++r,dF)=(i,r,dF):=by
 rw[kL,YC af,Ob h.1]
theorem ck3{α:Type}(f:Rs->α×Rs)(g:α->LI):∀(xs acc:List α)(rest:LI),(∀x∈xs,∀r,f (g x++r,dF)=(x,r,dF))->vH f (J xs) acc (cat (xs.map g)++rest,dF)=(acc++xs,rest,dF)
 |[],acc,rest,_=>by simp[vH,cat]
 |x::xs,acc,rest,h=>by rw[mO,vH,od,cat,vF,xL,h x al];have:=ck3 f g xs (acc++[x]) rest λy i=>h y (by simp[i]);rw[cat]at this;rw[aJ al];simp only[this,xL,Gk,Eh]
theorem bf0{α:Type}(f:Rs->α×Rs)(g:α->LI)(xs:List α){rest:LI}(i:J xs<2^64)(h:∀x∈xs,∀r,f (g x++r,dF)=(x,r,dF)):lF f (vi (J xs)++(cat (xs.map g)++rest),dF)=(xs,rest,dF):=by
 rw[lF,YC i];simp only[rY];rw[ck3 f g xs [] rest h];rfl
theorem du9(h:Cx ss ns)(x:nd∈ns)(j:nd.X=[]){r:LI}:By (lM nd++r,dF)=(nd,r,dF):=by
 let⟨⟨h1,h2,h3⟩,h4,u,s,q,o⟩:=h.d nd x;have e:lM nd++r=tx nd.A++(tx nd.V++(kL nd.D++(nd.M::(vi (J nd.y)++(cat (nd.y.map kL)++(kL nd.P++(kL nd.F++r))))))):=by rw[lM,Ge,JO];simp[cat,kL]
 rw[e,By];simp only[aq5 nd.A (sh:=dF) af,aq5 nd.V (sh:=dF) af,YA u,sB];rw[bf0 gK kL nd.y af λi m r=>YA (o i m) r];simp only[YA s,YA q,lE,aZ3];rw[<-j]
theorem dW0{e x:Nat}(he:e<2^64)(o:g<2^64)(m:x<2^64)(h:Cx ss ns)(h1:∀s∈ss,s.2=(0,[]))(h2:∀nd∈ns,nd.X=[]):uO (sL e g x ss ns)=(((e:Int),(g:Int),(x:Int)),ss,ns,[],dF):=by
 have u:=h.n1;have q:=h.n2;rw[bT7,uO];simp only[YC he,YC o,YC m];rw[bf0 Jt qM ss af λs j r=>by have:=YA (h.s s j) r;obtain⟨a,b⟩:=s;have hb:=h1 _ j;simp only at hb;rw[Jt,qM,<-kL,this];simp[Ai,hb]]
 simp only;rw[bf0 By lM ns af λy i r=>du9 h i (h2 y i) (r:=r)]
theorem Nz{s:Rs}(h:s.2):(gK s).2.2:=aU0 10 0 0 s.1 s.2 h
theorem dO6{α:Type}(f:Rs->α×Rs)(hf:∀s:Rs,s.2->(f s).2.2):∀(k:Nat)(acc:List α)(s:Rs),s.2->(vH f k acc s).2.2=dY
 |0,_,_,h=>h
 |k+1,acc,s,h=>by rw[vH,aK (hf s h)];exact hf s h
theorem bf1{α:Type}(f:Rs->α×Rs)(hf:∀s:Rs,s.2->(f s).2.2){s:Rs}(h:s.2):(lF f s).2.2:=dO6 f hf _ _ _ (Nz h)
theorem dv0(s:Rs)(h:s.2):(By s).2.2:=
 Nz (Nz (bf1 gK (λ_=>Nz) (aq7 (Nz (aq6 (aq6 h))))))
theorem dW1:(uO []).2.2.2.2:=by
 have i:(gK (([],dF):Rs)).2.2:=by unfold gK;show(sN 10 0 0 [] dF).2.2=dY;rw[sN];simp[sB]
 exact bf1 By dv0 (bf1 Jt (λ_=>Nz) (Nz (Nz i)))
def IW(i:Int):Prop:=0<=i/\i<2^64
structure Qj(nd:au):Prop where
 by0:aD nd.A
 by1:aD nd.V
 l0:J nd.A<=2^20
 l1:J nd.V<=2^20
 l4:J nd.y<=2^20
 l7:nd.X=[]
 ow:IW nd.D
 ep:IW nd.P
 ge:IW nd.F
 ho:∀i∈nd.y,IW i
 mo:0<=nd.M/\nd.M<256
theorem xI:IW (oV om).1:=cd8
theorem aV5{α σ:Type}(f:σ->α×σ)(P:α->Prop)(j:σ->Prop)(hf:∀s,j s->P (f s).1/\j (f s).2)(k:Nat)(o:σ)(m:j o):(∀x∈(rL f k o).1,P x)/\j (rL f k o).2:=by
 induction k with
 |zero=>exact⟨λx i=>by simp[rL]at i,m⟩
 |succ k ih=>
  rw[rL];let⟨r,q⟩:=hf _ ih.2;refine⟨λx i=>?_,q⟩;obtain i|i:=jl.1 i;{exact ih.1 x i};{rw[rC]at i;rw[i];exact r}
theorem ds2(i:J l=n)(m:aD l)(M:Mg n)(j:iF n l o)(h:Bx o=Y (nd,o')):Qj nd/\iF n l o'/\J nd.y<=50:=by
 rw[Bx]at h;have x:=as9 i j;have u:=wD i (as9 i x);have r:=Vu m j;have q:=Vu m x;have D:=dH0 m u;simp only at h;split at h;{cases h};{
 next hc=>
 simp only[oK,lE]at h;obtain⟨rfl,rfl⟩:=h;let⟨B,y⟩:=aV5 oV IW (iF n l) (λs j=>⟨xI,wD i j⟩) (oV (oB (oV (oT (oT o).2).2).2).2).1.toNat _ (wD i (at0 i u));have E:(rL oV (oV (oB (oV (oT (oT o).2).2).2).2).1.toNat (oV (oB (oV (oT (oT o).2).2).2).2).2).1.length<=50:=by rw[Lk oV (oV (oB (oV (oT (oT o).2).2).2).2).1.toNat (oV (oB (oV (oT (oT o).2).2).2).2).2];simp only[JC,Int.not_lt]at hc;omega
 exact⟨⟨r.1,q.1,by have:=r.2;simp only;omega,by have:=q.2;simp only;omega,by simp only;omega,rfl,xI,xI,xI,B,D⟩,wD i (wD i y),E⟩}
theorem aq0(en:J l=n)(hb:aD l)(s:Mg n)(k:Nat)(m:iF n l o)(h:sO k o=Y (ns,o')):(∀nd∈ns,Qj nd)/\iF n l o'/\J ns=k:=by
 induction k generalizing ns o' with
 |zero=>
  simp only[sO,oK,lE]at h;obtain⟨rfl,rfl⟩:=h;exact⟨λnd i=>(by simp at i),m,rfl⟩
 | succ k ih=>
  rw[sO]at h;cases h1:sO k o with
  |none=>rw[h1]at h;cases h
  | some r=>
   obtain⟨M,j⟩:=r;rw[h1]at h;let⟨y,x,u⟩:=ih h1;simp only[Dc]at h;cases h2:Bx j with
   |none=>rw[h2]at h;cases h
   |some q=>
    obtain⟨q1,q2⟩:=q;rw[h2]at h;simp only[JE,oK,lE]at h;obtain⟨rfl,rfl⟩:=h;obtain⟨E,B,-⟩:=ds2 en hb s x h2;refine⟨λnd i=>?_,B,by rw[fe,u];rfl⟩;obtain i|i:=jl.1 i;{exact y nd i};{rw[rC]at i;rw[i];exact E}
def Okf{α:Type}(f:Rs->α×Rs)(P:α->Prop):Prop:=∀s:Rs,aD s.1->J s.1<=2^20->P (f s).1/\aD (f s).2.1/\(f s).2.1.length<=J s.1/\((f s).2.2=dF->(f s).2.1.length<J s.1)
theorem yC:Okf gK IW:=λs q E=>by
 let⟨D,B,y,x⟩:=YD 10 0 0 s.1 s.2 q af;refine⟨⟨y,x⟩,D,B,λj=>?_⟩;obtain⟨m,i⟩:=s;cases m with
 |nil=>
  have:(gK (([],i):Rs)).2.2:=by unfold gK;show(sN 10 0 0 [] i).2.2=dY;rw[sN];simp[sB]
  rw[this]at j;cases j
 |cons c t=>
  show(sN 10 0 0 (c::t) i).2.1.length<_;rw[sN];split;{simp[sB]};{have:=(YD 9 (0+1) (yk 0 0 c) t i (λz r=>q z (by simp[r])) (aH2)).2.1;simp only[sB,mO];omega}
theorem ck4{α:Type}{f:Rs->α×Rs}{P:α->Prop}(hf:Okf f P):∀(k:Nat)(acc:List α)(s:Rs),aD s.1->J s.1<=2^20->(∀x∈acc,P x)->(∀x∈(vH f k acc s).1,P x)/\aD (vH f k acc s).2.1/\(vH f k acc s).2.1.length<=J s.1/\(vH f k acc s).1.length<=J acc+J s.1
 |0,acc,s,hb,hl,ha=>⟨ha,hb,fS _,Nat.le_add_right _ _⟩
 |k+1,acc,s,hb,hl,ha=>by
  let⟨r,j,q,o⟩:=hf s hb hl;rw[vH];split;{exact⟨λx i=>(by simp at i),j,q,de _⟩};{
 next hs=>
 have B:=o (by simpa using hs);let⟨y,u,D,m⟩:=ck4 hf k (acc++[(f s).1]) (f s).2 j af λx i=>by obtain i|i:=jl.1 i;{exact ha x i};{rw[rC]at i;rw[i];exact r}
 refine⟨y,u,af,?_⟩;rw[fe]at m;simp only[mO,BJ]at m;omega}
theorem VX{α:Type}{f:Rs->α×Rs}{P:α->Prop}(hf:Okf f P){s:Rs}(m:aD s.1)(j:J s.1<=2^20):(∀x∈(lF f s).1,P x)/\aD (lF f s).2.1/\(lF f s).2.1.length<=J s.1/\(lF f s).1.length<=J s.1:=by
 let⟨E,q,o,D⟩:=yC s m j;let⟨B,y,u,r⟩:=ck4 hf (gK s).1.toNat [] (gK s).2 q af λx i=>(by simp at i);simp only[BJ]at r;exact⟨B,y,gq u o,by unfold lF;omega⟩
def eY9(s:aB):Prop:=IW s.1/\s.2=(0,[])
theorem aT7:Okf Jt eY9:=λs j i=>by
 let⟨r,q,o,m⟩:=yC s j i;exact⟨⟨r,rfl⟩,q,o,m⟩
theorem aT8:Okf By Qj:=λs j X=>by
 let⟨W,V,a3,a4⟩:=Vh (sh:=s.2) j;let⟨S,R,b3,b4⟩:=Vh (sh:=(sT s.1 s.2).2.2) V;let⟨N,M,c3,c4⟩:=yC (sT (sT s.1 s.2).2.1 (sT s.1 s.2).2.2).2 R af;let⟨E,D,B,d4⟩:=Vi (sh:=(gK (sT (sT s.1 s.2).2.1 (sT s.1 s.2).2.2).2).2.2) M;let⟨y,x,e3,e4⟩:=VX yC E af;let⟨u,r,f3,f4⟩:=yC (lF gK (sB (gK (sT (sT s.1 s.2).2.1 (sT s.1 s.2).2.2).2).2.1 (gK (sT (sT s.1 s.2).2.1 (sT s.1 s.2).2.2).2).2.2).2).2 x af;let⟨q,o,Z,m⟩:=yC (gK (lF gK (sB (gK (sT (sT s.1 s.2).2.1 (sT s.1 s.2).2.2).2).2.1 (gK (sT (sT s.1 s.2).2.1 (sT s.1 s.2).2.2).2).2.2).2).2).2 r af;refine⟨⟨W,S,by show _<=_;simp only[By];omega,by show _<=_;simp only[By];omega,by show _<=_;simp only[By];omega,rfl,N,u,q,y,⟨D,B⟩⟩,o,?_,λi=>?_⟩;{show(gK (gK (lF gK (sB (gK (sT (sT s.1 s.2).2.1 (sT s.1 s.2).2.2).2).2.1 (gK (sT (sT s.1 s.2).2.1 (sT s.1 s.2).2.2).2).2.2).2).2).2).2.1.length<=_;omega};{have:=m i;show(gK (gK (lF gK (sB (gK (sT (sT s.1 s.2).2.1 (sT s.1 s.2).2.2).2).2.1 (gK (sT (sT s.1 s.2).2.1 (sT s.1 s.2).2.2).2).2.2).2).2).2).2.1.length<_;omega}
variable {t:Int}
theorem ar5{g:Int}(h:nT e g x t ss ns)(hr:∀nd∈ns,Qj nd):Cx ss ns:=
 aS2 h (λnd j=>⟨(hr nd j).ho,λi m=>by rw[(hr nd j).l7]at m;simp at m⟩) (λnd j=>(hr nd j).ow) (λnd j=>⟨(hr nd j).ep,(hr nd j).ge⟩)
theorem dq6(hb:aD l)(hl:Mg (J l)):lK l=vI l:=by
 have tu:∀s,lK l=Y s->vI l=Y s:=λs h=>by
  rw[lK]at h;cases hr:CK l with
  |none=>rw[hr]at h;cases h
  |some r=>
   rw[hr,Dc]at h;split at h;{
 next hc=>
 obtain⟨⟨e,g,x⟩,ss,ns,o⟩:=r;simp only[oK]at h hc;obtain⟨-,m,hB⟩:=hc;have j:=hr;rw[CK]at j;simp only at j;split at j;{cases j};{
 let⟨u1,u2⟩:=aV5 oV IW (iF (J l) l) (λs q=>⟨xI,wD rfl q⟩) (oV (oV (oV (oV l).2).2).2).1.toNat _ (wD rfl (wD rfl (wD rfl (wD rfl (iF.start (n:=J l) (l:=l) rfl)))));split at j;{cases j};{
 rw[Oc]at j;obtain⟨⟨r1,r2⟩,h3,h4⟩:=j;obtain⟨v1,-,-⟩:=aq0 rfl hb hl _ (wD rfl u2) h3;simp only[lE]at h4;obtain⟨⟨rfl,rfl,rfl⟩,rfl,rfl,rfl⟩:=h4;have N:=xI (om:=Y l);have M:=xI (om:=(oV l).2);have E:=xI (om:=(oV (oV l).2).2);have w1:∀s∈((rL oV (oV (oV (oV (oV l).2).2).2).1.toNat (oV (oV (oV (oV l).2).2).2).2).1.map Ai),s.2=(0,[]):=λs q=>by obtain⟨i,-,rfl⟩:=fM.1 q;rfl
 have u:=dW0 (e:=(oV l).1.toNat) (g:=(oV (oV l).2).1.toNat) (x:=(oV (oV (oV l).2).2).1.toNat) (by have:=N.2;have:=N.1;omega) (by have:=M.2;have:=M.1;omega) (by have:=E.2;have:=E.1;omega) (ar5 m v1) w1 (λR X=>(v1 R X).l7);rw[hB,Ob N.1,Ob M.1,Ob E.1]at u;rw[vI];simp only[u];rw[aK ⟨iH,by rw[Fg,aK m];exact hB⟩,<-h]}}};{cases h}
 have S:∀s,vI l=Y s->lK l=Y s:=λs h=>by
  rw[vI]at h;split at h;{
 next hc=>
 obtain⟨Wc,y⟩:=hc;have m:nT (uO l).1.1 (uO l).1.2.1 (uO l).1.2.2 0 (uO l).2.1 (uO l).2.2.1:=by by_cases hk:nT (uO l).1.1 (uO l).1.2.1 (uO l).1.2.2 0 (uO l).2.1 (uO l).2.2.1=dY;{exact hk};{rw[Fg,aJ hk]at y;rw[<-y,dW1]at Wc;cases Wc}
 rw[Fg,aK m]at y;obtain⟨Z,a2,B,-⟩:=yC (l,dF) hb hl;obtain⟨W,b2,b3,-⟩:=yC (gK (l,dF)).2 a2 (by simp only at B;omega);obtain⟨V,c2,c3,-⟩:=yC (gK (gK (l,dF)).2).2 b2 (by simp only at B;omega);obtain⟨d1,d2,d3,-⟩:=VX aT7 c2 (by simp only at B;omega);obtain⟨e1,-⟩:=VX aT8 d2 (by simp only at B;omega);have Ii:=dr7 (e:=(uO l).1.1.toNat) (g:=(uO l).1.2.1.toNat) (x:=(uO l).1.2.2.toNat) (by have:=Z.2;have:=Z.1;show(gK (l,dF)).1.toNat<_;omega) (by have:=W.2;have:=W.1;show(gK (gK (l,dF)).2).1.toNat<_;omega) (by have:=V.2;have:=V.1;show(gK (gK (gK (l,dF)).2).2).1.toNat<_;omega) (ar5 m e1) (λs q=>(d1 s q).2) (λR X=>(e1 R X).l7);rw[y,Ob (show 0<=(uO l).1.1 from Z.1),Ob (show 0<=(uO l).1.2.1 from W.1),Ob (show 0<=(uO l).1.2.2 from V.1)]at Ii;rw[lK,Ii,Dc,aK ⟨al,m,y⟩];exact h};{cases h}
 cases h:lK l with
 |some s=>exact(tu s h).C
 |none=>
  cases h2:vI l with
  |none=>rfl
  |some s=>rw[S s h2]at h;cases h
theorem ai5(h:∀l∈ls,aD l):aD (cat ls):=λz i=>by
 rw[cat,Eg]at i;obtain⟨l,j,i⟩:=i;exact h l j z i
theorem Ye(h:IW i):aD (kL i):=CH (by have:=h.1;have:=h.2;omega)
theorem bQ7(h:aD l)(i:J l<2^64):aD (tx l):=aD.app (CH i) h
theorem dJ2(h:Qj nd):aD (lM nd):=by
 rw[lM,Ge];refine ai5 λl j=>?_;simp only[gD,Rn,JM]at j;obtain rfl|rfl|rfl|rfl|rfl|rfl|rfl:=j;{exact bQ7 h.by0 (aM h.l0)};{exact bQ7 h.by1 (aM h.l1)};{exact Ye h.ow};{intro z m;rw[rC]at m;rw[m];exact h.mo};{rw[pL];refine ai5 λl j=>?_;obtain rfl|j:=gD.1 j;{exact CH (aM h.l4)};{obtain⟨i,o,rfl⟩:=fM.1 j;exact Ye (h.ho i o)}};{exact Ye h.ep};{exact Ye h.ge}
theorem aR5{e x:Nat}(he:e<2^64)(o:g<2^64)(j:x<2^64)(h:Cx ss ns)(hr:∀nd∈ns,Qj nd):aD (sL e g x ss ns):=by
 have u:=h.n1;have r:=h.n2;rw[sL];refine ai5 λl i=>?_;simp only[gD,Rn,JM]at i;obtain rfl|rfl|rfl|rfl|rfl:=i;{exact CH he};{exact CH o};{exact CH j};{rw[pL];refine ai5 λl i=>?_;obtain rfl|i:=gD.1 i;{exact CH af};{obtain⟨s,m,rfl⟩:=fM.1 i;exact Ye (h.s s m)}};{rw[pL];refine ai5 λl i=>?_;obtain rfl|i:=gD.1 i;{exact CH af};{obtain⟨nd,q,rfl⟩:=fM.1 i;exact dJ2 (hr nd q)}}
variable {o:Obj}
theorem aj4{w w':G}(h:w.heap[b]?=o)(i:Bw w w'):w'.heap[b]?=o:=(i.block b (LF.1 h).1).Z h
theorem cO8{w:G}:(jA w o).heap[U (Q w)]?=o:=by unfold World.alloc;simp
theorem cO9{w w':G}(m:Own B w v l)(o:jG w w' (jB v)):∀(b:Nat)(cs:iA)(t:TypeId),t≠5->w.heap[b]?=dO cs t->w'.heap[b]?=dO cs t:=λb cs t j h=>by
 refine(o.block b (LF.1 h).1 λe=>?_).Z h;obtain⟨rfl,-⟩|⟨g,r,q,rfl,-,i,-⟩:=m.2;{simp[jB]at e};{simp only[jB,oK]at e;subst e;rw[h]at i;simp only[oK,Obj.cells.injEq]at i;exact j i.2.1}
def cU6(w w':G):Prop:=∀(b:Nat)(cs:iA)(t:TypeId),t≠5->w.heap[b]?=dO cs t->w'.heap[b]?=dO cs t
variable {o:Oper}{s x:Operand}
theorem dg1{w0 w:G}{iZ:iE}(ik:o.guard=dN) (ho:o.op=.call {callee:=.builtin .append,args:=#[s,x],argTypes:=#[22,22]})(hB:O (Bw w0 w))(sE:O (lm=l++m))(hk:Le m k)(eL:Le l L)(WZ:O (L'=L+k))(hs:a.eval s=v)(hx:a.eval x=.S p k c)(dw:O (Own (U (Q w0)) w v l))(hr:O (Rd w (.S p k c) m))(hl:L+k<=2^22)(hK:∀p' c' w',O (Own (U (Q w0)) w' (.S p' L' c') lm)->Le lm L'->O (Bw w0 w')->O (cU6 w w')->wpList dG ops iZ rest (a.put o.dst (.S p' L' c')) w'):wpList dG ops iZ (o::rest) a w:=by
 have e1:J lm=L':=by rw[ae sE,fe,ae eL,ae hk,ae WZ]
 refine D4 ik ho v sE p c k hk hs hx dw hr (by rw[ae eL,ae hk];exact hl) hB.size ?_;intro p' c' w' h1 h2;rw[e1]at h1⊢;exact hK p' c' w' h1 e1 (Ct hB h2 dw aU hB.size) (cO9 dw h2)
theorem dg0{iZ:iE}(ik:o.guard=dN) (ho:o.op=.call {callee:=.builtin .append,args:=#[s,x],argTypes:=#[22,22]})(hB:O (Bw w0 u))(sE:O (lm=l++[y]))(eL:Le l L)(WZ:O (L'=L+1))(hs:a.eval s=v)(hx:a.eval x=.T (U (Q u)) 1 1)(dw:O (Own (U (Q w0)) u v l))(hl:L<2^22)(hK:∀p' c' w',O (Own (U (Q w0)) w' (.S p' L' c') lm)->Le lm L'->O (Bw w0 w')->O (cU6 u w')->wpList dG ops iZ rest (a.put o.dst (.S p' L' c')) w'):wpList dG ops iZ (o::rest) a (jA u (dO #[jK .u8 y] 5)):=by
 have e1:J lm=L':=by rw[ae sE,fe,ae eL,ae WZ];rfl
 have hb:Bw u (jA u (dO #[jK .u8 y] 5)):=cY;have kU:=dw.H hb;have gu:=aj hB hb;refine U7 ik ho v sE (U (Q u)) hs hx kU al (ae eL▸hl) gu.size ?_;intro p' c' w' h1 h2;rw[e1]at h1⊢;exact hK p' c' w' h1 e1 (Ct gu h2 kU aU gu.size) λb cs t ht h=>cO9 kU h2 b cs t ht (aj4 h hb)
theorem jg.xH{w:G}{g x:Int}{S N:dV}(h:w.heap[b]?=dO #[.U e,.U g,.U x,.I t,S,N] ty):jg w b e g x t S N:=⟨cI h 0,cI h 1,cI h 2,cI h 3,cI h 4,cI h 5⟩
theorem zF.xH{w:G}(h:w.heap[b]?=dO #[v0,v1,v2,v3,v4,v5,v6,v7] ty):zF w b v0 v1 v2 v3 v4 v5 v6 v7:=⟨cI h 0,cI h 1,cI h 2,cI h 3,cI h 4,cI h 5,cI h 6,cI h 7⟩
theorem Ic{v:Nat}{w:G}(o:v<2^64)(m:O (J (vi v)=M)):Cp 98 #[.U v] w λe w'=>∃i j,e=dR (.S i M j)/\Own (U (Q w)) w' (.S i M j) (vi v)/\Bw w w':=bf4 9 v w af o af M m
theorem bB2{α:Type}(f:α->LI){l:List α}{y:α}(h:l[k]?=y):cat ((jT (k+1) l).map f)=cat ((jT k l).map f)++f y:=by
 rw[rD,h,uk,cat,LM,cat];simp
theorem dp4(e g x:Nat)(ss:List aB)(ns:List au):sL e g x ss ns=((((vi e++vi g)++vi x)++vi (J ss))++cat (ss.map qM)++vi (J ns))++cat (ns.map lM):=by
 rw[sL,JO,JO];simp[cat]
theorem dJ1(nd:au):lM nd=((((((tx nd.A++tx nd.V)++kL nd.D)++[nd.M])++vi (J nd.y))++cat (nd.y.map kL))++kL nd.P)++kL nd.F:=by
 rw[lM,Ge,JO];simp[cat,kL]
def FM(w0:G)(o:iA)(j:TypeId)(q:Nat)(m:iA)(i:TypeId)(w:G)(v:dV)(l:LI):Prop:=Own (U (Q w0)) w v l/\Bw w0 w/\w.heap[U (Q w0)]?=dO o j/\w.heap[q]?=dO m i
theorem FM.yZ{w0 w w':G}(h:FM w0 c1 t1 b2 c2 t2 w v l)(i:Bw w w'):FM w0 c1 t1 b2 c2 t2 w' v l:=⟨Own.H h.1 i,aj h.2.1 i,aj4 h.2.2.1 i,aj4 h.2.2.2 i⟩
theorem FN{w0 w:G}{iZ:iE}(ik:o.guard=dN)(ho:o.op=.call {callee:=.builtin .append,args:=#[s,x],argTypes:=#[22,22]})(hQ:O (FM w0 c1 t1 b2 c2 t2 w v l))(sE:O (lm=l++m))(hk:Le m k)(eL:Le l L)(hs:a.eval s=v)(hx:a.eval x=.S p k c)(hr:O (Rd w (.S p k c) m))(hl:L+k<=2^22)(hK:∀p' c' w' L',O (FM w0 c1 t1 b2 c2 t2 w' (.S p' L' c') lm)->Le lm L'->L'<=L+k->wpList dG ops iZ rest (a.put o.dst (.S p' L' c')) w')(h1:t1≠5:=by decide)(h2:t2≠5:=by decide):wpList dG ops iZ (o::rest) a w:=
 dg1 ik ho hQ.2.1 sE hk eL rfl hs hx hQ.1 hr hl λp' c' w' k1 k2 k3 k4=>hK p' c' w' _ (ai ⟨k1,k3,k4 _ _ _ h1 hQ.2.2.1,k4 _ _ _ h2 hQ.2.2.2⟩) k2 aU
theorem dg2{iZ:iE}(ik:o.guard=dN)(ho:o.op=.call {callee:=.builtin .append,args:=#[s,x],argTypes:=#[22,22]})(hQ:O (FM w0 c1 t1 b2 c2 t2 u v l))(sE:O (lm=l++[y]))(eL:Le l L)(hs:a.eval s=v)(hx:a.eval x=.T (U (Q u)) 1 1)(hl:L<2^22)(hK:∀p' c' w' L',O (FM w0 c1 t1 b2 c2 t2 w' (.S p' L' c') lm)->Le lm L'->L'<=L+1->wpList dG ops iZ rest (a.put o.dst (.S p' L' c')) w')(h1:t1≠5:=by decide)(h2:t2≠5:=by decide):wpList dG ops iZ (o::rest) a (jA u (dO #[jK .u8 y] 5)):=
 dg0 ik ho hQ.2.1 sE eL rfl hs hx hQ.1 hl λp' c' w' k1 k2 k3 k4=>hK p' c' w' _ (ai ⟨k1,k3,k4 _ _ _ h1 hQ.2.2.1,k4 _ _ _ h2 hQ.2.2.2⟩) k2 aU
variable {m:Nat}
theorem cl9{e x:Nat}(he:e<2^64)(hg:g<2^64)(hx:x<2^64)(en:Le ss n)(em:Le ns m){w:G}(h:nO w (.S p n c) ss)(hN:iw w (.S q m d) ns)(HS:O (SmW ss ns))(eN:O (J (sL e g x ss ns)=N)):dQ dG 53 #[cO e g x t (.S p n c) (.S q m d)] w λr w'=>∃p' c',r=dR (.S p' N c')/\Own (U (Q w)) w' (.S p' N c') (sL e g x ss ns)/\Bw w w':=by
 have HR:=ai λ(w':G)(hb:Bw w w')=>aE (h.H hb) (hN.H hb);have hn5:n<=51:=by have:=HS.n1;rw[ae en]at this;exact this
 have hm5:m<=201:=by have:=HS.n2;rw[ae em]at this;exact this
 have wn:jY jU (n:Int)=(n:Int):=by rw[wV];omega
 have wm:jY jU (m:Int)=(m:Int):=by rw[wV];omega
 obtain⟨M0,f0⟩:∃M,O (J (vi e)=M):=⟨_,di⟩;have hM0:M0<=10:=by have:=(qK e).2;rw[ae f0]at this;exact this
 obtain⟨M1,f1⟩:∃M,O (J (vi g)=M):=⟨_,di⟩;have hM1:M1<=10:=by have:=(qK g).2;rw[ae f1]at this;exact this
 obtain⟨M2,f2⟩:∃M,O (J (vi x)=M):=⟨_,di⟩;have hM2:M2<=10:=by have:=(qK x).2;rw[ae f2]at this;exact this
 obtain⟨M3,f3⟩:∃M,O (J (vi n)=M):=⟨_,di⟩;have hM3:M3<=10:=by have:=(qK n).2;rw[ae f3]at this;exact this
 obtain⟨M5,f5⟩:∃M,O (J (vi m)=M):=⟨_,di⟩;have hM5:M5<=10:=by have:=(qK m).2;rw[ae f5]at this;exact this
 obtain⟨A1,ya⟩:∃l,O (l=vi e++vi g):=⟨_,di⟩;obtain⟨A2,xZ⟩:∃l,O (l=A1++vi x):=⟨_,di⟩;obtain⟨A3,Kl⟩:∃l,O (l=A2++vi n):=⟨_,di⟩;let⟨W,hW⟩:=aF (jA w (dO #[.U e,.U g,.U x,.I t,.S p n c,.S q m d] 44));have BW:O (Bw w W):=hW▸cY;go_in
 go_wp21
 rw[<-hW];refine(Ic he f0).h ?_;rintro Z y1⟨py1,cy1,rfl,oy1,aA1⟩;have Ky1:=ai (aj4 (hW▸cO8) aA1);have Qy1:O (FM w #[.U e,.U g,.U x,.I t,.S p n c,.S q m d] 44 (U (Q w)) #[.U e,.U g,.U x,.I t,.S p n c,.S q m d] 44 y1 (.S py1 M0 cy1) (vi e)):=⟨(Own.h (B':=U (Q w)) oy1 BW.size),aj BW aA1,Ky1,Ky1⟩;have i0:=jg.xH Qy1.2.2.1
 go_wp21
 refine(Ic hg f1).h ?_;rintro Z y2⟨py2,cy2,rfl,oy2,ej9⟩;go_wp2_with(at_builtin;refine FN rfl rfl (Qy1.yZ ej9) ya f1 f0 rfl rfl oy2.rd af ?_);intro fr8 fJ1 y3 Ly3 Qy3 eF6 fL1;have i0:=jg.xH Qy3.2.2.1
 go_wp21
 refine(Ic hx f2).h ?_;rintro Z y4⟨py4,cy4,rfl,oy4,ej5⟩;go_wp2_with(at_builtin;refine FN rfl rfl (Qy3.yZ ej5) xZ f2 eF6 rfl rfl oy4.rd af ?_);intro fr7 fJ0 y5 Ly5 Qy5 eF5 fL0;have i0:=jg.xH Qy5.2.2.1
 go_wp21
 refine(Ic af f3).h ?_;rintro Z y6⟨py6,cy6,rfl,oy6,ej4⟩;go_wp2_with(at_builtin;refine FN rfl rfl (Qy5.yZ ej4) Kl f3 eF5 rfl rfl oy6.rd af ?_);intro fr6 fI9 y7 Ly7 Qy7 eF4 fK9;have bA3:Ly7<=40:=af;have i0:=jg.xH Qy7.2.2.1;go_wp2
 go_loopw[3,4](λov iv wr=>∃(k:Nat)(po:OA)(co L:Nat),k<=n/\ov=.S po L co/\iv=.I k/\L<=40+10*k/\O (J (A3++cat ((jT k ss).map qM))=L)/\O (Ow w wr (.S po L co) (A3++cat ((jT k ss).map qM)))/\O (wr.heap[U (Q w)]?=dO #[.U e,.U g,.U x,.I t,.S p n c,.S q m d] 44)/\O (Bw w wr)) (λ_ iv _=>n-(jN (intOf iv)))
 exact⟨0,_,_,_,de _,rfl,rfl,af,(ai (by simp only[wG,JD,Xf,Da];exact ae eF4)),(by show Own _ _ _ _;simp only[wG,JD,Xf,Da];exact Qy7.1),Qy7.2.2.1,Qy7.2.1⟩;{
 obtain⟨k,po,co,L,hk,rfl,rfl,hLk,eL,i,R,Br⟩:=hrel;by_cases aH:k<n;{
 have dm:=cM k n;have fg:k<J ss:=ae en▸aH;let⟨sk0,hy⟩:=qH fg;have hi:=HS.s _ (bq hy);obtain⟨v,ev⟩:∃v:Nat,sk0.1=(v:Int):=⟨jN sk0.1,af⟩;obtain⟨b,o,rfl,mu⟩:∃b o,p=(Ad b o)/\I wr (Ad b (o+k*3))=dU v:=by let⟨p',c',evv,hd⟩:=(ae HR _ Br).1;obtain⟨rfl,-,-⟩:=mh evv;obtain h0|⟨b,o,h1,h2⟩:=hd;{exact yy};{exact⟨b,o,h1,by rw[<-ev];exact(h2 k _ hy).1⟩}
 rw[ev]at hi;have eS:O (qM sk0=vi v):=ai (by rw[qM,ev];rfl);obtain⟨M,eM⟩:∃M,O (J (vi v)=M):=⟨_,di⟩;have hM:M<=10:=by have:=(qK v).2;rw[ae eM]at this;exact this
 obtain⟨A,hA⟩:∃A,O (A=A3++cat ((jT k ss).map qM)):=⟨_,di⟩;rw[<-ae hA]at eL i;obtain⟨AA,hAA⟩:∃l,O (l=A++vi v):=⟨_,di⟩;have EA:O (A3++cat ((jT (k+1) ss).map qM)=AA):=ai (by rw[ae hAA,ae hA,bB2 qM hy,ae eS,xL]);have wk:jY jV ((k:Int)+1)=((k+1:Nat):Int):=by rw[nW _ af];omega
 have Qr:=ai (show FM w _ _ (U (Q w)) _ _ _ _ _ from⟨i,Br,R,R⟩);have i0:=jg.xH R
 go_wp21
 refine(Ic af eM).h ?_;rintro Z y8⟨py8,cy8,rfl,oy8,ej3⟩;go_wp2_with(at_builtin;refine FN rfl rfl (Qr.yZ ej3) hAA eM eL rfl rfl oy8.rd af ?_);intro fr4 fI8 y9 Ly9 Qy9 eF3 fK8;go_wp2;go_roundw;exact⟨k+1,_,_,_,af,rfl,by go_num,af,(ae EA▸eF3),(ae EA▸Qy9.1),Qy9.2.2.1,Qy9.2.1⟩;exact dy};{
 have dm:=ga k n;cases(af:n=k);rw[nZ (ae en▸fS _)]at eL i;obtain⟨A4,hA4⟩:∃A,O (A=A3++cat (ss.map qM)):=⟨_,di⟩;rw[<-ae hA4]at eL i;obtain⟨A5,hA5⟩:∃A,O (A=A4++vi m):=⟨_,di⟩;have Qr:=ai (show FM w _ _ (U (Q w)) _ _ _ _ _ from⟨i,Br,R,R⟩);have i0:=jg.xH R
 go_wp21
 refine(Ic af f5).h ?_;rintro Z y10⟨fr3,fI5,rfl,dF1,ek4⟩;go_wp2_with(at_builtin;refine FN rfl rfl (Qr.yZ ek4) hA5 f5 eL rfl rfl dF1.rd af ?_);intro fs7 fK0 y11 fa9 aJ2 eG5 fM0;have bA5:fa9<=600:=af;have EN:O (sL e g x ss ns=A5++cat (ns.map lM)):=ai (by rw[dp4,ae hA5,ae hA4,ae Kl,ae xZ,ae ya,ae en,ae em]);have i0:=jg.xH aJ2.2.2.1;go_wp2
 go_loopw[3,5](λov iv wr=>∃(k:Nat)(po:OA)(co L:Nat),k<=m/\ov=.S po L co/\iv=.I k/\L<=600+800*k/\O (J (A5++cat ((jT k ns).map lM))=L)/\O (Ow w wr (.S po L co) (A5++cat ((jT k ns).map lM)))/\O (wr.heap[U (Q w)]?=dO #[.U e,.U g,.U x,.I t,.S p n c,.S q m d] 44)/\O (Bw w wr)) (λ_ iv _=>m-(jN (intOf iv)))
 exact⟨0,_,_,_,de _,rfl,rfl,af,(ai (by simp only[wG,JD,Xf,Da];exact ae eG5)),(by show Own _ _ _ _;simp only[wG,JD,Xf,Da];exact aJ2.1),aJ2.2.2.1,aJ2.2.1⟩;{
 obtain⟨k,po,co,L,hk,rfl,rfl,hLk,eL,i,R,Br⟩:=hrel;by_cases aH:k<m;{
 have dm:=cM k m;have fg:k<J ns:=ae em▸aH;let⟨E,hy⟩:=qH fg;have hi:=HS.d E (bq hy);have hlen:=(aX6 HS E (bq hy)).1;obtain⟨b,o,rfl,PP,PV,PH,PU,Gw⟩:∃b o,q=(Ad b o)/\∃P V H iU,KL w b (o+k*8) E P V H iU:=by let⟨p',c',ev,hd⟩:=(ae HR _ db).2;obtain⟨rfl,-,-⟩:=mh ev;obtain h0|⟨b,o,h1,h2⟩:=hd;{exact yy};{exact⟨b,o,h1,h2 k _ hy⟩}
 let⟨P,eP⟩:=bu E.A;let⟨V,eV⟩:=bu E.V;let⟨H,eH⟩:=bu E.y;obtain⟨pA,cA,nA,rfl,eA⟩:=Gw.r0.fq;obtain⟨pB,cB,nB,rfl,eB⟩:=Gw.r1.fq;obtain⟨pD,cD,B,rfl,eD⟩:=Gw.r4.fq;obtain⟨pU,cU,nU,rfl,-⟩:=Gw.r7.fq;obtain⟨mu,gm,im,vu,EO,uq,rH,hc7,-⟩:=Gw.H Br;obtain⟨-,-,-,-,-,-,-,-,q0,q1,q4,-,-⟩:=Gw;rw[eP]at q0;rw[eV]at q1;rw[eH]at q4;have QQ:=ai λ(w':G)(hb:Bw w w')=>aE (q0.H hb) (aE (q1.H hb) (q4.H hb));obtain⟨⟨j1,j2,j3⟩,j4,j5,j6,j7,j8⟩:=hi;rw[ae eA]at j1;rw[ae eB]at j2;rw[ae eD]at j3;have J8:=ai j8;obtain⟨ow,GI⟩:∃v:Nat,E.D=(v:Int):=⟨jN E.D,af⟩;obtain⟨ep,WY⟩:∃v:Nat,E.P=(v:Int):=⟨jN E.P,af⟩;obtain⟨ge,WX⟩:∃v:Nat,E.F=(v:Int):=⟨jN E.F,af⟩;obtain⟨mo,WU⟩:∃v:Int,E.M=v:=⟨_,rfl⟩;rw[GI]at im j5;rw[WY]at uq j6;rw[WX]at rH j7;rw[WU]at vu j4;rw[eP]at eA;rw[eV]at eB;rw[eH]at eD J8;have EB:O (lM E=((((((tx P++tx V)++vi ow)++[mo])++vi B)++cat (H.map kL))++vi ep)++vi ge):=ai (by rw[dJ1,GI,WY,WX,WU,eP,eV,eH,kL,kL,kL,ae eD];rfl);have wmo:IntKind.u8.wrap mo=mo:=by rw[LK];omega
 have wh:jY jU (B:Int)=(B:Int):=by rw[wV];omega
 have wk:jY jV ((k:Int)+1)=((k+1:Nat):Int):=by rw[nW _ af];omega
 obtain⟨T0,t0⟩:∃M,O (J (tx P)=M):=⟨_,di⟩;obtain⟨T1,t1⟩:∃M,O (J (tx V)=M):=⟨_,di⟩;have bT0:T0<=146:=by have:=(Jp P).2;rw[ae t0,ae eA]at this;omega
 have bT1:T1<=51:=by have:=(Jp V).2;rw[ae t1,ae eB]at this;omega
 obtain⟨G0,g0⟩:∃M,O (J (vi ow)=M):=⟨_,di⟩;have hG0:G0<=10:=by have:=(qK ow).2;rw[ae g0]at this;exact this
 obtain⟨G1,g1⟩:∃M,O (J (vi B)=M):=⟨_,di⟩;have ID:G1<=10:=by have:=(qK B).2;rw[ae g1]at this;exact this
 obtain⟨G2,g2⟩:∃M,O (J (vi ep)=M):=⟨_,di⟩;have Tp:G2<=10:=by have:=(qK ep).2;rw[ae g2]at this;exact this
 obtain⟨G3,g3⟩:∃M,O (J (vi ge)=M):=⟨_,di⟩;have Kh:G3<=10:=by have:=(qK ge).2;rw[ae g3]at this;exact this
 obtain⟨C,hC⟩:∃A,O (A=A5++cat ((jT k ns).map lM)):=⟨_,di⟩;rw[<-ae hC]at eL i;obtain⟨C1,IE⟩:∃l,O (l=C++tx P):=⟨_,di⟩;obtain⟨C2,Fb⟩:∃l,O (l=C1++tx V):=⟨_,di⟩;obtain⟨C3,hC3⟩:∃l,O (l=C2++vi ow):=⟨_,di⟩;obtain⟨C4,hC4⟩:∃l,O (l=C3++[mo]):=⟨_,di⟩;obtain⟨C5,hC5⟩:∃l,O (l=C4++vi B):=⟨_,di⟩;obtain⟨C6,hC6⟩:∃l,O (l=C5++cat (H.map kL)):=⟨_,di⟩;obtain⟨C7,hC7⟩:∃l,O (l=C6++vi ep):=⟨_,di⟩;obtain⟨C8,hC8⟩:∃l,O (l=C7++vi ge):=⟨_,di⟩;have EC:O (A5++cat ((jT (k+1) ns).map lM)=C8):=ai (by rw[bB2 lM (hy),ae EB,ae hC8,ae hC7,ae hC6,ae hC5,ae hC4,ae hC3,ae Fb,ae IE,ae hC];simp only[xL]);have i0:=jg.xH R
 go_wp21
 let⟨X,hX⟩:=aF (jA wr (dO #[.S pA nA cA,.S pB nB cB,.U ow,.I mo,.S pD B cD,.U ep,.U ge,.S pU nU cU] 149));have xj:=ir hX;let⟨nb,Dw⟩:=aF (U (Q wr));have NX:O (X.heap[nb]?=dO #[.S pA nA cA,.S pB nB cB,.U ow,.I mo,.S pD B cD,.U ep,.U ge,.S pU nU cU] 149):=by rw[hX,Dw];exact cO8
 let⟨OX,BX,KX⟩:=gC (Own.H i xj) (aj Br xj) (aj4 R xj);rw[<-hX,<-Dw];clear hX xj i Br R Dw;refine(aw1 eA (ae QQ _ BX).1 af t0).h ?_;rintro Z y12⟨fr2,fI4,rfl,dF0,ek3⟩;go_wp2_with(at_builtin;refine FN rfl rfl ((show FM w _ _ nb _ _ _ _ _ from⟨OX,BX,KX,NX⟩).yZ ek3) IE t0 eL rfl rfl dF0.rd af ?_);intro fs6 fJ9 y13 fO9 bE9 eG4 fL9;have a0:=zF.xH bE9.2.2.2
 go_wp21
 refine(aw1 eB (ae QQ _ bE9.2.1).2.1 af t1).h ?_;rintro Z y14⟨fr1,fI3,rfl,dE9,ek2⟩;go_wp2_with(at_builtin;refine FN rfl rfl (bE9.yZ ek2) Fb t1 eG4 rfl rfl dE9.rd af ?_);intro fs5 fJ8 y15 fO8 cT6 eG3 fL8;have a0:=zF.xH cT6.2.2.2
 go_wp21
 refine(Ic af g0).h ?_;rintro Z y16⟨fr0,fI2,rfl,dE8,ek1⟩;go_wp2_with(at_builtin;refine FN rfl rfl (cT6.yZ ek1) hC3 g0 eG3 rfl rfl dE8.rd af ?_);intro fs4 fJ7 y17 fO7 cT5 eG2 fL7;have a0:=zF.xH cT5.2.2.2;go_wp2_with(at_builtin;refine dg2 rfl rfl cT5 hC4 eG2 rfl rfl af ?_);intro fs3 fJ6 y18 fO6 cT4 eG1 fL6;have a0:=zF.xH cT4.2.2.2
 go_wp21
 refine(Ic af g1).h ?_;rintro Z y19⟨fq9,fI1,rfl,dE7,ek0⟩;go_wp2_with(at_builtin;refine FN rfl rfl (cT4.yZ ek0) hC5 g1 eG1 rfl rfl dE7.rd af ?_);intro fs2 fJ5 y20 fa8 ak2 eG0 fL5;have a0:=zF.xH ak2.2.2.2;go_wp2
 go_loopw[3,7](λov kv wr=>∃(j:Nat)(po:OA)(co L:Nat),j<=B/\ov=.S po L co/\kv=.I j/\L<=fa8+10*j/\O (J (C5++cat ((jT j H).map kL))=L)/\O (Ow w wr (.S po L co) (C5++cat ((jT j H).map kL)))/\O (wr.heap[U (Q w)]?=dO #[.U e,.U g,.U x,.I t,.S p n c,.S (Ad b o) m d] 44)/\O (wr.heap[nb]?=dO #[.S pA nA cA,.S pB nB cB,.U ow,.I mo,.S pD B cD,.U ep,.U ge,.S pU nU cU] 149)/\O (Bw w wr)) (λ_ kv _=>B-(jN (intOf kv)))
 exact⟨0,_,_,_,de _,rfl,rfl,af,(ai (by simp only[wG,JD,Xf,Da];exact ae eG0)),(by show Own _ _ _ _;simp only[wG,JD,Xf,Da];exact ak2.1),ak2.2.2.1,ak2.2.2.2,ak2.2.1⟩;{
 obtain⟨j,pr,cr,Lr,hj,rfl,rfl,hLj,eLr,i,R,Nr,Br⟩:=hrel;by_cases hlj:j<B;{
 have eb8:=cM j B;have tK:j<J H:=ae eD▸hlj;let⟨iv,hy⟩:=qH tK;have hi:=ae J8 iv (bq hy);obtain⟨v,rfl⟩:∃v:Nat,iv=(v:Int):=⟨jN iv,af⟩;obtain⟨b',o',rfl,hc⟩:∃b o,pD=(Ad b o)/\I wr (Ad b (o+j))=dU v:=by let⟨p',c',ev,hd⟩:=(ae QQ _ Br).2.2;obtain⟨rfl,-,-⟩:=mh ev;obtain h0|⟨b,o,h1,h2⟩:=hd;{rw[h0]at tK;simp at tK};{refine⟨b,o,h1,?_⟩;have:=h2 j tK;rw[ko,hy,tv]at this;exact this}
 obtain⟨M,eM⟩:∃M,O (J (vi v)=M):=⟨_,di⟩;have hM:M<=10:=by have:=(qK v).2;rw[ae eM]at this;exact this
 obtain⟨A,hA⟩:∃A,O (A=C5++cat ((jT j H).map kL)):=⟨_,di⟩;rw[<-ae hA]at eLr i;obtain⟨AA,hAA⟩:∃l,O (l=A++vi v):=⟨_,di⟩;have EA:O (C5++cat ((jT (j+1) H).map kL)=AA):=ai (by rw[ae hAA,ae hA,bB2 kL hy,xL];rfl);have wj:jY jV ((j:Int)+1)=((j+1:Nat):Int):=by rw[nW _ af];omega
 have Qr:=ai (show FM w _ _ nb _ _ _ _ _ from⟨i,Br,R,Nr⟩);have a0:=zF.xH Nr
 go_wp21
 refine(Ic af eM).h ?_;rintro Z y21⟨fq7,fH9,rfl,dE5,ej8⟩;go_wp2_with(at_builtin;refine FN rfl rfl (Qr.yZ ej8) hAA eM eLr rfl rfl dE5.rd af ?_);intro fs1 fJ4 y22 fO5 aJ1 eF9 fL4;go_wp2;go_roundw;exact⟨j+1,_,_,_,af,rfl,by go_num,af,(ae EA▸eF9),(ae EA▸aJ1.1),aJ1.2.2.1,aJ1.2.2.2,aJ1.2.1⟩;exact dy};{
 have eb8:=ga j B;have ejn:B=j:=af;rw[nZ (by rw[ae eD];omega)]at eLr i;rw[<-ae hC6]at eLr i;have a0:=zF.xH Nr
 go_wp21
 refine(Ic af g2).h ?_;rintro Z y23⟨fq6,fH8,rfl,dE4,ej7⟩;go_wp2_with(at_builtin;refine FN rfl rfl ((show FM w _ _ nb _ _ _ _ _ from⟨i,Br,R,Nr⟩).yZ ej7) hC7 g2 eLr rfl rfl dE4.rd af ?_);intro fs0 fJ3 y24 fO4 cT0 eF8 fL3;have a0:=zF.xH cT0.2.2.2
 go_wp21
 refine(Ic af g3).h ?_;rintro Z y25⟨fq5,fH7,rfl,dE3,ej6⟩;go_wp2_with(at_builtin;refine FN rfl rfl (cT0.yZ ej6) hC8 g3 eF8 rfl rfl dE3.rd af ?_);intro fr9 fJ2 y26 fO3 bE8 eF7 fL2;go_wp2;go_roundw;exact⟨k+1,_,_,_,af,rfl,by go_num,af,(ae EC▸eF7),(ae EC▸bE8.1),bE8.2.2.1,bE8.2.1⟩
 case measure=>simp[intOf];omega}}}
 {have dm:=ga k m;cases(af:m=k);rw[nZ (ae em▸fS _),<-ae EN]at eL i;cases eL.C.Z eN;have i0:=jg.xH R;go_wp2;go_ret;exact⟨po,co,rfl,i,Br⟩}}}}
def IM:Option ((Int×Int×Int)×List aB×List au)->fD
 |none=>uf
 |some r=>⟨r.1.1,r.1.2.1,r.1.2.2,0,r.2.1,r.2.2⟩
def IN:Option ((Int×Int×Int)×List aB×List au)->Int
 |none=>13
 |some _=>0
variable {a x:Int}
theorem Hu(q:Le l n){w:G}(h:Rd w (.S p n c) l)(o:O (aD l))(m:Mg n)(j:O (iF n l om))(r:O (lx n om=a))(e:O (oV om=(x,vh)))(i:O (lx n vh=a')):Cp 159 #[.S p n c,.I a] w λe w'=>e=dR (dT #[.U x,.I a'])/\w'=w:=by
 have u:=ae r;have s:=ae i;subst u s;exact ca5 q h o m j e
theorem dH1(q:Le l n){w:G}(h:Rd w (.S p n c) l)(o:O (aD l))(m:Mg n)(j:O (iF n l om))(r:O (lx n om=a))(e:O (oB om=(x,vh)))(i:O (lx n vh=a')):Cp 161 #[.S p n c,.I a] w λe w'=>e=dR (dT #[.I x,.I a'])/\w'=w:=by
 have u:=ae r;have s:=ae i;subst u s;exact aU8 q h o m j e
theorem ce1(u:Le l n){w:G}(h:Rd w (.S p n c) l)(s:O (aD l))(r:Mg n)(o:n<=c)(q:O (iF n l om))(y:O (lx n om=a)){x:LI}(e:O (oT om=(x,vh)))(i:O (lx n vh=a'))(B:Le x N):Cp 160 #[.S p n c,.I a] w λe w'=>∃j m,e=dR (dT #[.S j N m,.I a'])/\Own (U (Q w)) w' (.S j N m) x/\Bw w w':=by
 have E:=ae y;have D:=ae i;subst E D;exact aU7 u h s r o q e B
theorem aH0(i:iF n l om):(lx n om<0↔om=dN)/\lx n om<=n/\-1<=lx n om:=by
 cases om with
 |none=>simp[lx]
 |some m=>
  have:=(i m rfl).1;simp only[lx];refine⟨⟨λh=>af,λh=>by cases h⟩,af,af⟩
theorem aG8{w u:G}(h:Bw w u){o:Obj}:Bw w (jA u o):=h.alloc h.size o
theorem fG.cc3{α:Type}{el:G->α->List dV->List Lf->Prop}{sb:Nat}{w:G}{xs:List α}(h:fG el ty sz B w v xs Ls)(o:∀w w' x c l,el w x c l->(∀a∈l,w'.heap[a.b]?=w.heap[a.b]?)->el w' x c l)(q:sb<B)(j:Nat)(u:dV):fG el ty sz B (jS w (Ad sb j) u) v xs Ls:=
 h.W (o _ _) al (λb i=>gh _ _ _ _ (by have:=(h.lt.1 b i).1;simp;omega)) (λa m=>gh _ _ _ _ (by have:=(h.lt.2 a m).1;simp;omega))
theorem oy.id(w:G)(i:Int):oy w (Ai i) [.U i,.I 0,ay] []:=⟨dN,0,rfl,⟨dN,0,rfl,.L rfl⟩,⟨dN,0,[],rfl,rfl,rfl,.L rfl⟩⟩
variable {o:Option LI}
theorem bU7(h:sO k o=dN):∀j,k<=j->sO j o=dN:=by
 intro j i
 induction j with
 |zero=>rw[show k=0 by omega]at h;exact h
 |succ j ih=>
  by_cases e:k=j+1;{rw[<-e];exact h};{rw[sO,ih af];rfl}
theorem dr8(h:sO k o=Y (ns,om))(i:Bx om=Y (nd,vh)):sO (k+1) o=Y (ns++[nd],vh):=by
 rw[sO,h];simp only[Dc,i,JE]
theorem bU3(h:sO k o=Y (ns,om))(i:Bx om=dN):sO (k+1) o=dN:=by
 rw[sO,h];simp only[Dc,i,Option.map_none]
theorem nR.snoc{w:G}{d:Int}(i:J l=k)(h:w.ownsRow B 27 1 v (k+1) (l.map (Value.int jU)++[.U d])):nR B w v (l++[d]):=by
 unfold nR;rw[fe,uk,i];exact h
theorem PU.nil(w:G)(M N:Nat):PU w M N ay [] []:=⟨⟨dN,0,rfl,.L rfl⟩,⟨dN,0,[],rfl,rfl,rfl,.L rfl⟩,gp.nil _ _,λa ha=>by simp at ha⟩
theorem aT.c6{w:G}(h:aT w b (v0::v1::v2::v3::v4::v5::vs)):I w (Ad b 0)=v0/\I w (Ad b 1)=v1/\I w (Ad b 2)=v2/\I w (Ad b 3)=v3/\I w (Ad b 4)=v4/\I w (Ad b 5)=v5/\∀o,jF w (Ad b o)=dF:=
 ⟨h.1 0 _ rfl,h.1 1 _ rfl,h.1 2 _ rfl,h.1 3 _ rfl,h.1 4 _ rfl,h.1 5 _ rfl,h.2⟩
theorem xv{w u:G}{a0 a1 a2 a3 a4 a5:Addr}{v0 v1 v2 v3 v4 v5:dV}(h:Bw w u)(h0:U (Q w)<=a0.block:=by simp)(h1:U (Q w)<=a1.block:=by simp)(h2:U (Q w)<=a2.block:=by simp)(h3:U (Q w)<=a3.block:=by simp)(h4:U (Q w)<=a4.block:=by simp)(h5:U (Q w)<=a5.block:=by simp):Bw w ((((((u.setCell a0 v0).setCell a1 v1).setCell a2 v2).setCell a3 v3).setCell a4 v4).setCell a5 v5):=(((((h.setCell h0 _).setCell h1 _).setCell h2 _).setCell h3 _).setCell h4 _).setCell h5 _
theorem ai1{w u:G}(h:O (lK l=dN))(i:Bw w u):bD6 (U (Q w)) (dR (dT #[cO 0 0 0 0 ay ay,.I 13])) u (IM (lK l)) (IN (lK l))/\Bw w u:=by
 rw[ae h];exact⟨⟨dN,0,dN,0,rfl,pW.zero _ _⟩,i⟩
theorem Ht(j:Le l n)(h:O (iF n l om)):∃e i a,O (oV om=(e,i))/\O (lx n i=a)/\O (iF n l i):=⟨(oV om).1,(oV om).2,_,rfl,rfl,ai (wD j h)⟩
theorem oTs(j:Le l n)(h:O (iF n l om)):∃e i a,O (oT om=(e,i))/\O (lx n i=a)/\O (iF n l i):=⟨(oT om).1,(oT om).2,_,rfl,rfl,ai (as9 j h)⟩
theorem dr5(en:Le l n){w:G}(h:Rd w (.S p n c) l)(hb:O (aD l))(hl:Mg n)(qi:n<=c):dQ dG 94 #[.S p n c] w λr w'=>bD6 (U (Q w)) r w' (IM (lK l)) (IN (lK l))/\Bw w w':=by
 have HR:=ai λ(w':G)(hb:Bw w w')=>h.H hb;clear h;have S0:=ai (iF.start en);let⟨is,SK,Yp,Yo,Yn⟩:=mJ Tryz.infoSes;let⟨io,hio,oz0,oz1,oz2⟩:=mJ Tryz.infoNod;let⟨iu,hiu,uz0,uz1,uz2⟩:=mJ Tryz.infoU64;let⟨e,o1,a1,E1,A1,S1⟩:=Ht en S0;let⟨g,o2,a2,E2,A2,S2⟩:=Ht en S1;let⟨x,o3,a3,E3,A3,S3⟩:=Ht en S2;let⟨k,o4,a4,E4,A4,S4⟩:=Ht en S3;let⟨W,hW⟩:=aF (jA w (dO #[.U 0,.U 0,.U 0,.I 0,ay,ay] 44));have bW:=ir hW;have zW:U (Q W)=U (Q w)+1:=by rw[hW];simp
 have RW:O (aT W (U (Q w)) [.U 0,.U 0,.U 0,.I 0,ay,ay]):=by show aT _ _ _;rw[hW];exact aT.alloc w #[.U 0,.U 0,.U 0,.I 0,ay,ay] _
 go_in
 go_wp21
 rw[<-hW];clear hW;refine(Hu en (ae HR _ bW) hb hl S0 (ai (by rw[lx,ae en];omega)) E1 A1).h ?_;rintro z9 w1⟨rfl,rfl⟩
 go_wp21
 refine(Hu en (ae HR _ bW) hb hl S1 A1 E2 A2).h ?_;rintro z9 w1⟨rfl,rfl⟩
 go_wp21
 refine(Hu en (ae HR _ bW) hb hl S2 A2 E3 A3).h ?_;rintro z9 w1⟨rfl,rfl⟩
 go_wp21
 refine(Hu en (ae HR _ bW) hb hl S3 A3 E4 A4).h ?_;rintro z9 w1⟨rfl,rfl⟩;have hk:0<=k/\k<2^64:=by have:=xI (om:=o3);rw[ae E4]at this;exact this
 have n4:=aH0 S4;rw[ae A4]at n4;have N4:=ai n4.1;clear n4;by_cases h4:a4<0;{
 have hn:=N4.1 h4;have N:lK l=dN:=by rw[lK,CK];simp only[ae E1,ae E2,ae E3,ae E4];rw[aK (.L hn)];rfl
 have HD:=ai N;clear N;let⟨r0,r1,r2,r3,r4,r5,rf⟩:=RW.c6;have BB:=bW;go_wp2;refine cX (by simp[results,results94,go_sem,r0,r1,r2,r3,r4,r5,zW]) rfl (ai1 HD (aG8 (xv BB)))};{
 by_cases h5:50<k;{
 skip
 have N:lK l=dN:=by rw[lK,CK];simp only[ae E1,ae E2,ae E3,ae E4];rw[aK (.R h5)];rfl
 have HD:=ai N;clear N;let⟨r0,r1,r2,r3,r4,r5,rf⟩:=RW.c6;have BB:=bW;go_wp2;refine cX (by simp[results,results94,go_sem,r0,r1,r2,r3,r4,r5,zW]) rfl (ai1 HD (aG8 (xv BB)))};{
 skip
 obtain⟨K,rfl⟩:∃K:Nat,k=(K:Int):=⟨jN k,af⟩;have HN4:=ai (λhh=>h4 (N4.2 hh));have wK:=iM K;have fB5:K<=50:=af;let⟨V,hV⟩:=aF (jA w1 (dO #[.U e,.U g,.U x,.I 0,ay,ay] 44));have Ch:=ir hV;let⟨sb,Dq⟩:=aF (U (Q w)+1);have CV:O (aT V sb [.U e,.U g,.U x,.I 0,ay,ay]):=by show aT _ _ _;rw[hV,show sb=U w1.heap by omega];exact aT.alloc w1 #[.U e,.U g,.U x,.I 0,ay,ay] _
 have zV:U (Q V)=sb+1:=by rw[hV];simp;omega
 have zw1:U (Q w1)=sb:=af;clear N4;go_wp2;rw[<-hV,<-Dq];have hws:U (Q w)<sb:=af;clear hV Dq zW
 go_loopw[5,13](λav iv wr=>∃(j:Nat)(a:Int)(Sv:dV)(Ls:List (List Lf)),j<=K/\av=.I a/\iv=.I j/\O (lx n (rL oV j o4).2=a)/\O (iF n l (rL oV j o4).2)/\O (aT wr sb [.U e,.U g,.U x,.I 0,Sv,ay]/\fG oy 148 3 (sb+1) wr Sv ((rL oV j o4).1.map Ai) Ls)/\O (Bw w1 wr)/\sb<U (Q wr)) (λ_ iv _=>K-(jN (intOf iv)))
 exact⟨0,_,_,[],de _,rfl,rfl,A4,S4,⟨CV,fG.nil _ _ _ _ _⟩,Ch,af⟩;{
 clear CV Ch zV;obtain⟨j,a,Sv,Ls,hj,rfl,rfl,Ea,Sj,gi,Br,zr⟩:=hrel;by_cases aH:j<K;{
 have dm:=cM j K;have wj:jY jV ((j:Int)+1)=((j+1:Nat):Int):=by rw[nW _ af];omega
 let⟨d,o5,a5,E5,A5,S5⟩:=Ht en Sj
 go_wp21
 refine(Hu en (ae HR _ (aj bW Br)) hb hl Sj Ea E5 A5).h ?_;rintro z9 w2⟨rfl,rfl⟩;let⟨hC,hO⟩:=ae gi;have E:J ((rL oV j o4).1.map Ai)=j:=by rw[iC,Lk]
 let⟨HC,HO,bH2⟩:=gC hC hO E;clear hC hO gi E;let⟨v3,gM⟩:=aF (jA w2 (dO #[.U d,.I 0,ay] 148));have aL:=ir gM;have sr:∀i u,([.U d,.I 0,ay]:List dV)[i]?=Y u->I v3 (Ad (U (Q w2)) i)=Y u:=gM▸Ub;have z3:U (Q v3)=U (Q w2)+1:=by rw[gM];simp
 let⟨Ez,C3,B3⟩:=gC HO.lt (HC.H zr aL) (aj Br aL);let⟨row,wX,xl⟩:=HO.app oy.W aL (oy.id v3 d) rfl (gp.nil _ _) af;rw[ae bH2]at wX xl;have cl:=HC.1 4 _ rfl
 change O _ at xl wX sr
 go_wp2_with(at_builtin;rw[<-gM];refine FO rfl 41 rfl is 3 underlying41 SK Yp Yo Yn rfl bf Sv rfl wX (U (Q w2)) 1 1 [.U d,.I 0,ay] rfl rfl sr (λu hu=>by simp at hu;obtain rfl|rfl|rfl:=hu<;>rfl) kW af af ?_);intro v' w9 gF hg Cf;have il:∀g,jB v'=Y g->jB Sv=Y g\/U (Q v3)<=g:=λg e=>by have:=Cf g e;rw[gM];simpa using this
 rw[<-gM]at hg;obtain⟨sn,pN,cN,rfl⟩:=ae xl v' w9 gF hg il;have C9:=C3.grown af hg (λe=>aM (Ez.1 sb e.C).1);have z9:=hg.size;let⟨CT,OT⟩:=aQ (C9.ew 4 al (.S pN (j+1) cN)) (sn.cc3 oy.W (sb:=sb) af 4 (.S pN (j+1) cN));have BT:O (Bw w1 (jS w9 (Ad sb 4) (.S pN (j+1) cN))):=(B3.grown hg B3.size (λb e=>aM (Ez.1 b e).1)).setCell bL _;have zT:sb<U (Q (jS w9 (Ad sb 4) (.S pN (j+1) cN))):=by simp;omega
 have cc:=C9.1 4 _ rfl;have cf:=C9.2;have EL:O ((rL oV j o4).1.map Ai++[Ai d]=(rL oV (j+1) o4).1.map Ai/\(rL oV (j+1) o4).2=o5):=by show _/\_;rw[rL,ae E5,uk];exact⟨rfl,rfl⟩
 clear gF hg il Cf sn C9 gM aL cl;go_wp2;go_roundw;exact⟨j+1,a5,_,_,af,rfl,by go_num,(EL.2▸A5),(EL.2▸S5),(by rw[<-EL.1];exact⟨CT,OT⟩),BT,zT⟩;exact dy};{
 have dm:=ga j K
 skip
 cases(af:K=j);let⟨hC,hO⟩:=ae gi;let⟨w3,ew3⟩:=aF wr;subst ew3;obtain⟨pS,cS,evS,-⟩:=id hO.read;rw[iC,Lk]at evS;subst evS;let⟨C3,O3⟩:=aQ hC hO;have b3:=aj bW Br;have R3:=ai (RW.H af Br);have HSL:O (J ((rL oV K o4).1.map Ai)=K):=ai (by rw[iC,Lk]);clear hC hO gi hj aH dm;let⟨q,o7,a7,E7,A7,S7⟩:=Ht en Sj
 go_wp21
 refine(Hu en (ae HR _ b3) hb hl Sj Ea E7 A7).h ?_;rintro z9 w4⟨rfl,rfl⟩;have hq:0<=q/\q<2^64:=by have:=xI (om:=(rL oV K o4).2);rw[ae E7]at this;exact this
 have n7:=aH0 S7;rw[ae A7]at n7;have N7:=ai n7.1;clear n7;by_cases h7:a7<0;{
 have hn:=N7.1 h7;have N:lK l=dN:=by rw[lK,CK];simp only[ae E1,ae E2,ae E3,ae E4];rw[aJ (by rw[JC];exact⟨ae HN4,af⟩)];simp only[rY,ae E7];rw[aK (.L hn)];rfl
 have HD:=ai N;clear N;let⟨r0,r1,r2,r3,r4,r5,rf⟩:=R3.c6;have BB:=b3;exact X8};{
 by_cases h8:200<q;{
 skip
 have N:lK l=dN:=by rw[lK,CK];simp only[ae E1,ae E2,ae E3,ae E4];rw[aJ (by rw[JC];exact⟨ae HN4,af⟩)];simp only[rY,ae E7];rw[aK (.R h8)];rfl
 have HD:=ai N;clear N;let⟨r0,r1,r2,r3,r4,r5,rf⟩:=R3.c6;have BB:=b3;exact X8};{
 skip
 obtain⟨iZ,rfl⟩:∃K:Nat,q=(K:Int):=⟨jN q,af⟩;have wQ:=iM iZ;have hQ:iZ<=200:=af;have SPO:O (CK l=(sO iZ o7).map λr=>((e,g,x),(rL oV K o4).1.map Ai,r.1,r.2)):=by show _=_;rw[CK];simp only[ae E1,ae E2,ae E3,ae E4];rw[aJ (by rw[JC];exact⟨ae HN4,af⟩)];simp only[rY,ae E7];rw[aJ (by rw[JC];exact⟨(λhh=>h7 (N7.2 hh)),af⟩)]
 clear N7;go_wp2
 go_loopw[5,15](λav iv wr=>∃(j:Nat)(a:Int)(Nv:dV)(Ls:List (List Lf))(ns:List au)(om:Option LI),j<=iZ/\av=.I a/\iv=.I j/\O (sO j o7=Y (ns,om))/\O (lx n om=a)/\O (iF n l om)/\O (aT wr sb [.U e,.U g,.U x,.I 0,.S pS K cS,Nv]/\fG mB 149 8 (U (Q w4)) wr Nv ns Ls)/\O (jG w4 wr sb)) (λ_ iv _=>iZ-(jN (intOf iv)))
 exact⟨0,_,_,[],[],o7,de _,rfl,rfl,di,A7,S7,⟨C3,fG.nil _ _ _ _ _⟩,WO⟩;{
 obtain⟨j,a,Nv,Ls,ns,om,hj,rfl,rfl,Em,Ea,Sm,gi,qX⟩:=hrel;have b5:=aG7 b3 qX af;have zg:=qX.size;by_cases aH:j<iZ;{
 have dm:=cM j iZ;have wj:jY jV ((j:Int)+1)=((j+1:Nat):Int):=by rw[nW _ af];omega
 let⟨hC,hO⟩:=ae gi;let⟨HC,HO⟩:=aQ hC hO;have E:=(aq0 en hb hl j S7 Em).2.2;have bH2:=ai E;clear hC hO gi E;let⟨PP,q1,c1,F1,G1,T1⟩:=oTs en Sm;let⟨VV,q2,c2,F2,G2,T2⟩:=oTs en T1;let⟨ow,q3,c3,F3,G3,T3⟩:=Ht en T2;obtain⟨⟨mo,q4⟩,F4⟩:∃y,O (oB q3=y):=⟨_,di⟩;obtain⟨c4,G4⟩:∃a,O (lx n q4=a):=⟨_,di⟩;have T4:O (iF n l q4):=by have:=at0 en T3;rw[ae F4]at this;exact this
 let⟨hh,q5,c5,F5,G5,T5⟩:=Ht en T4;obtain⟨NP,eNP⟩:∃k,Le PP k:=⟨_,di⟩;obtain⟨NV,eNV⟩:∃k,Le VV k:=⟨_,di⟩
 go_wp21
 refine(ce1 en (ae HR _ b5) hb hl qi Sm Ea F1 G1 eNP).h ?_;rintro z9 y1⟨pP,cP,rfl,oP,az⟩;have b6:=aj b5 az;have z1:=az.size
 go_wp21
 refine(ce1 en (ae HR _ b6) hb hl qi T1 G1 F2 G2 eNV).h ?_;rintro z9 y2⟨pV,cV,rfl,YT,aA⟩;have b7:=aj b6 aA;have z2:=aA.size;let⟨lP,fP⟩:=Own.pb oP;let⟨lV,fV⟩:=Own.pb YT;let⟨FP,FV,BX⟩:=gC (fP.H aA) fV (aj az aA);let⟨C7,R7⟩:=aQ (HC.H af BX) ((R3.grown af (ae qX) bL).H af (ae BX));clear oP YT fP fV az aA
 go_wp21
 refine(Hu en (ae HR _ b7) hb hl T2 G2 F3 G3).h ?_;rintro z9 y3⟨rfl,rfl⟩
 go_wp21
 refine(dH1 en (ae HR _ b7) hb hl T3 G3 F4 G4).h ?_;rintro z9 y4⟨rfl,rfl⟩
 go_wp21
 refine(Hu en (ae HR _ b7) hb hl T4 G4 F5 G5).h ?_;rintro z9 X⟨rfl,rfl⟩;have hhr:0<=hh/\hh<2^64:=by have:=xI (om:=q4);rw[ae F5]at this;exact this
 have n5:=aH0 T5;rw[ae G5]at n5;have N5:=ai n5.1;have m5:-1<=c5/\c5<=n:=⟨n5.2.2,n5.2.1⟩;clear n5;by_cases h9:c5<0;{
 have hn:=N5.1 h9;have R8:=ai (R7.H af (db.alloc aU (dO #[.S pP NP cP,.S pV NV cV,.U ow,.I mo,ay,.U 0,.U 0,ay] 149)));have N:lK l=dN:=by
  rw[lK,ae SPO,bU7 (bU3 (ae Em) (by rw[Bx];simp only[ae F1,ae F2,ae F3,ae F4,ae F5];rw[aK (.L hn)])) iZ af]
  rfl
 have HD:=ai N;clear N;let⟨r0,r1,r2,r3,r4,r5,rf⟩:=R8.c6;have BB:=(aG8 b7 (o:=dO #[.S pP NP cP,.S pV NV cV,.U ow,.I mo,ay,.U 0,.U 0,ay] 149));exact X8};{
 by_cases GG:50<hh;{
 have R8:=ai (R7.H af (db.alloc aU (dO #[.S pP NP cP,.S pV NV cV,.U ow,.I mo,ay,.U 0,.U 0,ay] 149)));have N:lK l=dN:=by
  rw[lK,ae SPO,bU7 (bU3 (ae Em) (by rw[Bx];simp only[ae F1,ae F2,ae F3,ae F4,ae F5];rw[aK (.R GG)])) iZ af]
  rfl
 have HD:=ai N;clear N;let⟨r0,r1,r2,r3,r4,r5,rf⟩:=R8.c6;have BB:=(aG8 b7 (o:=dO #[.S pP NP cP,.S pV NV cV,.U ow,.I mo,ay,.U 0,.U 0,ay] 149));exact X8};{
 skip
 obtain⟨H,rfl⟩:∃K:Nat,hh=(K:Int):=⟨jN hh,af⟩;have hn5:¬q5=dN:=λhh=>h9 (N5.2 hh);have wH:=iM H;have hH:H<=50:=af;let⟨R,Dw⟩:=aF (U (Q X));let⟨V5,Mp⟩:=aF (jA X (dO #[.S pP NP cP,.S pV NV cV,.U ow,.I mo,ay,.U 0,.U 0,ay] 149));have Ch:=ir Mp;have CV:O (aT V5 R [.S pP NP cP,.S pV NV cV,.U ow,.I mo,ay,.U 0,.U 0,ay]):=by show aT _ _ _;rw[Mp,Dw];exact aT.alloc X #[.S pP NP cP,.S pV NV cV,.U ow,.I mo,ay,.U 0,.U 0,ay] _
 have zV:U (Q V5)=R+1:=by rw[Mp];simp;omega
 have ZX:O (U (Q X)=R):=Dw.C;have hsn:sb<R:=af
 change O _ at Dw hn5
 clear N5;go_wp2;rw[<-Mp,<-ae Dw];clear Mp
 go_loopw[5,27](λav kv wr=>∃(i:Nat)(a:Int)(Hv:dV),i<=H/\av=.I a/\kv=.I i/\O (lx n (rL oV i q5).2=a)/\O (iF n l (rL oV i q5).2)/\O (aT wr R [.S pP NP cP,.S pV NV cV,.U ow,.I mo,Hv,.U 0,.U 0,ay]/\nR (R+1) wr Hv (rL oV i q5).1)/\O (Bw X wr)/\R<U (Q wr)) (λ_ kv _=>H-(jN (intOf kv)))
 exact⟨0,_,_,de _,rfl,rfl,G5,T5,⟨CV,qe _ _ _ _⟩,Ch,af⟩;{
 clear CV Ch zV;obtain⟨i,a',Hv,hi,rfl,rfl,Ei,Si,gi,Bi,zi⟩:=hrel;have b8:=aj b7 Bi;by_cases hlh:i<H;{
 have cs7:=cM i H;have wi:jY jV ((i:Int)+1)=((i+1:Nat):Int):=by rw[nW _ af];omega
 let⟨d,q6,c6,F6,G6,T6⟩:=Ht en Si
 go_wp21
 refine(Hu en (ae HR _ b8) hb hl Si Ei F6 G6).h ?_;rintro z9 w2⟨rfl,rfl⟩;let⟨hC,hO⟩:=ae gi;let⟨v3,gM⟩:=aF (jA w2 (dO #[.U d] 27));have aL:=ir gM;have sr:∀i u,([.U d]:List dV)[i]?=Y u->I v3 (Ad (U (Q w2)) i)=Y u:=gM▸Ub;have pI:=ai sr;have z3:U (Q v3)=U (Q w2)+1:=by rw[gM];simp
 have Ez:O (∀b,jB Hv=Y b->R+1<=b/\b<U (Q w2)):=λb e=>hO.lt b e;let⟨C3,B3⟩:=aQ (hC.H zi aL) (aj Bi aL);have DW:O (v3.ownsRow (R+1) 27 1 Hv i ((rL oV i q5).1.map (Value.int jU))):=by have:=hO.H aL;unfold nR at this;rw[Lk]at this;exact this
 have cl:=hC.1 4 _ rfl;clear sr hC hO gi;go_wp2_with(at_builtin;rw[<-gM];refine FO rfl 134 rfl iu 1 underlying134 hiu uz0 uz1 uz2 rfl bf Hv rfl DW (U (Q w2)) 1 1 [.U d] rfl rfl pI (λu hu=>by simp at hu;subst hu;rfl) kW af af ?_);intro v' w9 gF hg il;rw[<-gM]at hg;have sn:=nR.snoc (Lk oV i q5) gF;let⟨pN,cN,e9⟩:=sn.form;rw[fe,Lk]at e9;subst e9;have C9:=C3.grown af hg (λe=>aM (ae Ez R e.C).1);have z9:=hg.size;have CT:=ai (C9.ew 4 al (.S pN (i+1) cN));have OT:O (nR (R+1) (jS w9 (Ad R 4) (.S pN (i+1) cN)) (.S pN (i+1) cN) ((rL oV i q5).1++[d])):=Rj sn (js w9 (Ad R 4) _) (.R λe=>aM (sn.lt R e).1);have BT:O (Bw X (jS w9 (Ad R 4) (.S pN (i+1) cN))):=(B3.grown hg B3.size (λb e=>by have:=(ae Ez b e).1;have:=ae ZX;omega)).setCell (by have:=ae ZX;simp;omega) _;have zT:R<U (Q (jS w9 (Ad R 4) (.S pN (i+1) cN))):=by simp;omega
 have cc:=C9.1 4 _ rfl;have cf:=C9.2;have EL:O ((rL oV i q5).1++[d]=(rL oV (i+1) q5).1/\(rL oV (i+1) q5).2=q6):=by show _/\_;rw[rL,ae F6];exact⟨rfl,rfl⟩
 clear gF hg il sn C9 gM aL cl;go_wp2;go_roundw;exact⟨i+1,c6,_,af,rfl,by go_num,(EL.2▸G6),(EL.2▸T6),(by rw[<-EL.1];exact⟨CT,OT⟩),BT,zT⟩;exact dy};{
 have cs7:=ga i H
 skip
 obtain rfl:H=i:=af;let⟨hC,hO⟩:=ae gi;let⟨pH,cH,e9⟩:=hO.form;rw[Lk]at e9;subst e9;obtain⟨HL,eHL⟩:∃L,O ((rL oV H q5).1=L):=⟨_,di⟩;rw[ae eHL]at hO;have lHL:Le HL H:=by show _=_;rw[<-ae eHL];exact Lk _ _ _
 let⟨HC9,HO9⟩:=aQ hC hO;clear hC hO gi hi hlh cs7;let⟨ep,q7,c7,F7,G7,T7⟩:=Ht en Si;let⟨ge,q8,c8,F8,G8,T8⟩:=Ht en T7
 go_wp21
 refine(Hu en (ae HR _ b8) hb hl Si Ei F7 G7).h ?_;rintro z9 y5⟨rfl,rfl⟩
 go_wp21
 refine(Hu en (ae HR _ b8) hb hl T7 G7 F8 G8).h ?_;rintro z9 y6⟨rfl,rfl⟩;obtain⟨nd,cH0⟩:∃nd:au,O (nd=⟨PP,VV,ow,mo,HL,ep,ge,[]⟩):=⟨_,di⟩;have ESP:O (sO (j+1) o7=Y (ns++[nd],q8)):=dr8 Em (by rw[Bx];simp only[ae F1,ae F2,ae F3,ae F4,ae F5];rw[aJ (by rw[JC];exact⟨ae hn5,af⟩)];simp only[rY,ae eHL,ae F7,ae F8];rw[ae cH0])
 have CA:=HC9.ew 5 al (.U ep);have CB:=CA.ew 6 al (.U ge);let⟨Z,hZ⟩:=aF (jS (jS y6 (Ad R 5) (.U ep)) (Ad R 6) (.U ge));rw[<-hZ]at CB;have BZ:Bw X Z:=by rw[hZ];exact(Bi.setCell (by have:=ae ZX;simp;omega) _).setCell (by have:=ae ZX;simp;omega) _
 have OZ:nR (R+1) Z (.S pH H cH) HL:=by rw[hZ];have o1:=Rj HO9 (js y6 (Ad R 5) (.U ep)) (.R λe=>aM (HO9.lt R e).1);exact Rj o1 (js _ (Ad R 6) (.U ge)) (.R λe=>aM (o1.lt R e).1)
 have zZ:R<U (Q Z):=by rw[hZ];simpa using zi
 have CZs:=C7.H (aM (ae ZX)) BZ;let⟨v3,gM⟩:=aF (jA Z (dO #[.S pP NP cP,.S pV NV cV,.U ow,.I mo,.S pH H cH,.U ep,.U ge,ay] 149));have hbz:=ir gM;have sr:∀i u,([.S pP NP cP,.S pV NV cV,.U ow,.I mo,.S pH H cH,.U ep,.U ge,ay]:List dV)[i]?=Y u->I v3 (Ad (U (Q Z)) i)=Y u:=gM▸Ub;have ezz:U (Q Z)=U (Q y6):=by rw[hZ];simp
 rw[ezz]at sr;have z3:U (Q v3)=U (Q Z)+1:=by rw[gM];simp
 have No:=aj BZ hbz;have Bw3:=aj BX No;let⟨lH,fH⟩:=nR.pu (OZ.H hbz);have zXn:=ae ZX;have ELN:O (mB v3 nd [.S pP NP cP,.S pV NV cV,.U ow,.I mo,.S pH H cH,.U ep,.U ge,ay] (lP++(lV++(lH++[])))/\gp (U (Q wr)) v3 (lP++(lV++(lH++[])))):=by have k0:=FP.H No;have k1:=FV.H No;have k4:=fH;rw[<-ae eNP]at k0;rw[<-ae eNV]at k1;rw[<-ae lHL]at k4;have:=mB.mk4 (nd:=⟨PP,VV,ow,mo,HL,ep,ge,[]⟩) (B:=U (Q wr)) k0 k1 k4 (PU.nil v3 (U (Q v3)) (U (Q v3))) af af af af af af af af af af;dsimp only at this;rw[ae eNP,ae eNV,ae lHL]at this;rw[ae cH0];exact this
 let⟨row,wX,xl⟩:=HO.app mB.W Bw3 ELN.1 rfl ELN.2 af;have Ez:=ai HO.lt;rw[ae bH2]at wX xl;have C3':=ai (CZs.H af hbz);have d5:=HC9.1 5 _ rfl;have d6:=HC9.1 6 _ rfl;let⟨d0,d1,d2,d3,d4,d5',d6',d7⟩:=Qd CB.1;have df:=HC9.2;have s5:=CZs.1 5 _ rfl;rw[hZ]at d0 d1 d2 d3 d4 d5' d6' d7 s5;have EZZ:=ai ezz
 change O _ at hZ Bw3 hbz xl wX sr
 clear ezz CA CB BZ OZ CZs fH No;go_wp2_with(at_builtin;rw[<-ae hZ,<-gM];refine FO rfl 42 rfl io 8 underlying42 hio oz0 oz1 oz2 rfl bf Nv rfl wX (U (Q y6)) 1 1 [.S pP NP cP,.S pV NV cV,.U ow,.I mo,.S pH H cH,.U ep,.U ge,ay] rfl rfl sr (λu hu=>by simp at hu;obtain rfl|rfl|rfl|rfl|rfl|rfl|rfl|rfl:=hu<;>rfl) kW af af ?_);intro v' w9 gF hg Cf;have ezz:=ae EZZ;rw[<-gM]at hg;obtain⟨sn,pN,cN,rfl⟩:=ae xl v' w9 gF hg (λg e=>by have:=Cf g e;rw[gM];simpa using this);have C9:=C3'.grown af hg (λe=>aM (Ez.1 sb e.C).1);let⟨CT,OT⟩:=aQ (C9.ew 5 al (.S pN (j+1) cN)) (sn.cc3 mB.W (sb:=sb) af 5 (.S pN (j+1) cN));have GT:O (jG w4 (jS w9 (Ad sb 5) (.S pN (j+1) cN)) sb):=My (Pp (Pp qX (mZ Bw3 dN) (λb e=>by cases e)) hg (λb e=>.L (Ez.1 b e).1)) (js w9 (Ad sb 5) _);have cc:=C9.1 5 _ rfl;have cf:=C9.2;clear gF hg Cf sn C9 gM d0 d1 d2 d3 d4 d5 d6 d5' d6' d7 s5 df;go_wp2;go_roundw;exact⟨j+1,c8,_,_,_,q8,af,rfl,by go_num,ESP,G8,T8,⟨CT,OT⟩,GT⟩
 case measure=>simp[intOf];omega}}}}}
 {
 have dm:=ga j iZ
 skip
 obtain rfl:iZ=j:=af;let⟨hC,hO⟩:=ae gi;let⟨v1',v2',E⟩:=aq0 en hb hl iZ S7 Em;obtain⟨pN,cN,II,-⟩:=id hO.read;rw[E]at II;subst II;obtain⟨sl,PJ⟩:∃L,O ((rL oV K o4).1.map Ai=L):=⟨_,di⟩;have hSL:O (∀s∈sl,s.2=(0,[])):=λs hs=>by rw[<-ae PJ]at hs;obtain⟨i,-,rfl⟩:=fM.1 hs;rfl
 have Ja:=ai v1';have ES:O (CK l=Y ((e,g,x),sl,ns,om)):=by show _=_;rw[ae SPO,ae Em,ae PJ];rfl
 have uW:Le sl K:=by show _=_;rw[<-ae PJ];exact ae HSL
 have xr:Le ns iZ:=E;obtain⟨L3,OS,sc,Sw⟩:∃L3,fG oy 148 3 (sb+1) wr (.S pS K cS) sl L3/\(∀a∈jL L3,a.b<U (Q w4))/\∀b,jB (Value.slice pS K cS)=Y b->b<U (Q w4):=by refine⟨_,?_,λa' ha=>(O3.lt.2 a' ha).2,λb aR=>(O3.lt.1 b aR).2⟩;rw[<-ae PJ];exact O3.W (oy.W _ _) zg (λb aR=>qX.block b (O3.lt.1 b aR).2 (by have:=(O3.lt.1 b aR).1;simp;omega)) (λa' ha=>qX.block _ (O3.lt.2 a' ha).2 (by have:=(O3.lt.2 a' ha).1;simp;omega))
 obtain⟨rs,A1',lvs,aps,hi1⟩:nM wr (.S pS K cS) sl/\∃A,mF wr (.S pS K cS) sl A/\gp (sb+1) wr A/\∀a∈A,a.b<U (Q w4):=by let⟨A,q1,q2,q3⟩:=OS.qM (M:=U (Q w4)) sc Sw;exact⟨OS.se.1,A,q1,q2,q3⟩
 let⟨rn,A2',lvn,Uj⟩:=hO.no;have FF:O (pW (sb+1) wr pS K cS pN iZ cN sl ns):=⟨A1',A2',rs,rn,lvs,lvn,aps.app (Uj.h af) af hi1⟩;have RR:=bG rs rn;let⟨C9,R9⟩:=aQ hC (R3.grown af (ae qX) bL);have na:=aH0 Sm;rw[ae Ea]at na;have NA:=ai na.1;have ma:-1<=a/\a<=n:=⟨na.2.2,na.2.1⟩;clear na hC hO gi OS sc Sw lvs aps hi1 lvn Uj rs rn v1' v2' E hj aH dm;by_cases Mw:a<0;{
 have hn:=NA.1 Mw;have N:lK l=dN:=by rw[lK,ae ES,Dc,aJ (λhh=>hh.1 hn)]
 have HD:=ai N;clear N;let⟨r0,r1,r2,r3,r4,r5,rf⟩:=R9.c6;have BB:=b5;exact X8};{
 skip
 have iL:¬om=dN:=λhh=>Mw (NA.2 hh)
 change O _ at iL
 obtain⟨B,eB⟩:∃B,O (nT e g x 0 sl ns=B):=⟨_,di⟩;have ig:O (Bs sl):=λs hs=>by have:=ae hSL s hs;rw[this];exact⟨de _,λe he=>by simp at he⟩
 have dr:O (Bn ns):=λnd aI=>by have:=ae Ja nd aI;exact⟨this.by0,this.l0,this.l1,this.l4,by rw[this.l7];exact de _⟩
 obtain⟨k0,k1,k2,k3,k4,k5,-⟩:=C9.c6
 go_wp21
 refine cL (aR8 uW xr RR.1.rd RR.2 af af ig dr eB) λu1 lQ=>?_;have b10:=aj b5 lQ;let⟨R10,C10,QF⟩:=gC (R9.H af lQ) (C9.H af lQ) (FF.H lQ);have cS1:=bG (RR.1.H lQ) (RR.2.H lQ);have zu1:=lQ.size;clear lQ k0 k1 k2 k3 k4 k5;cases B with
 |false=>
  have N:lK l=dN:=by rw[lK,ae ES,Dc,aJ (λhh=>by have:=hh.2.1;simp only at this;rw[ae eB]at this;cases this)]
  have HD:=ai N;clear N;let⟨r0,r1,r2,r3,r4,r5,rf⟩:=R10.c6;have BB:=b10;go_wp2;refine cX (by simp[results,results94,go_sem,r0,r1,r2,r3,r4,r5]) rfl (ai1 HD (xv BB))
 |true=>
  have re:0<=e/\e<2^64:=by have:=xI (om:=Y l);rw[ae E1]at this;exact this
  have rg:0<=g/\g<2^64:=by have:=xI (om:=o1);rw[ae E2]at this;exact this
  have rx:0<=x/\x<2^64:=by have:=xI (om:=o2);rw[ae E3]at this;exact this
  obtain⟨e',rfl⟩:∃v:Nat,e=(v:Int):=⟨jN e,af⟩;obtain⟨g',rfl⟩:∃v:Nat,g=(v:Int):=⟨jN g,af⟩;obtain⟨x',rfl⟩:∃v:Nat,x=(v:Int):=⟨jN x,af⟩;have HSM:=ai (ar5 eB Ja);obtain⟨M,eM⟩:∃M,O (J (sL e' g' x' sl ns)=M):=⟨_,di⟩;obtain⟨k0,k1,k2,k3,k4,k5,-⟩:=C10.c6
  go_wp21
  refine(cl9 af af af uW xr cS1.1.rd cS1.2 HSM.w eM).h ?_;rintro z9 u2⟨pE,cE,rfl,oE,Dn⟩;have b11:=aj b10 Dn;let⟨R11,C11,F11⟩:=gC (R10.H af Dn) (C10.H af Dn) (QF.H Dn);have zu2:=Dn.size;have RE:=ai oE.rd;clear Dn oE k0 k1 k2 k3 k4 k5
  go_wp21
  refine cL (Sc eM en RE (ae HR _ b11) (aR5 af af af HSM Ja) hb) λu3 ZN=>?_;have b12:=aj b11 ZN;let⟨R12,C12,F12⟩:=gC (R11.H af ZN) (C11.H af ZN) (F11.H ZN);clear ZN;by_cases Ki:sL e' g' x' sl ns=l;{
 have hd:dD (sL e' g' x' sl ns=l):=by simpa using Ki
 have N:lK l=Y (((e':Int),(g':Int),(x':Int)),sl,ns):=by rw[lK,ae ES,Dc,aK ⟨ae iL,ae eB,by simpa using Ki⟩]
 have HD:O (IM (lK l)=⟨e',g',x',0,sl,ns⟩/\IN (lK l)=0):=by rw[N];exact⟨rfl,rfl⟩
 rw[hd];let⟨r0,r1,r2,r3,r4,r5,rf⟩:=R12.c6;obtain⟨k0,k1,k2,k3,k4,k5,-⟩:=C12.c6;clear N hd Ki;go_wp2;let⟨Z,hZ⟩:=aF (jS (jS (jS (jS (jS (jS u3 (Ad (U (Q w)) 0) (.U e')) (Ad (U (Q w)) 1) (.U g')) (Ad (U (Q w)) 2) (.U x')) (Ad (U (Q w)) 3) (.I 0)) (Ad (U (Q w)) 4) (.S pS K cS)) (Ad (U (Q w)) 5) (.S pN iZ cN));have Wr:∀z,z≠U (Q w)->Z.heap[z]?=u3.heap[z]?:=λz hz=>by
  rw[hZ]
  iterate 6 rw[gh _ _ _ _ hz]
 refine cX (v:=dT #[cO e' g' x' 0 (.S pS K cS) (.S pN iZ cN),.I 0]) (by simp[results,results94,go_sem,r0,r1,r2,r3,r4,r5]) rfl ⟨?_,?_⟩;{rw[<-hZ,HD.1,HD.2];have f:=(F12.W (w':=Z) (λz hz _=>Wr z af)).h (B':=U (Q w)) af;rw[<-ae uW,<-ae xr]at f⊢;exact⟨pS,cS,pN,cN,rfl,f⟩};{exact(((((b12.setCell al _).setCell al _).setCell al _).setCell al _).setCell al _).setCell al _}};{
 have hd:dD (sL e' g' x' sl ns=l)=dF:=by simpa using Ki
 rw[hd];have N:lK l=dN:=by rw[lK,ae ES,Dc,aJ (λhh=>Ki (by simpa using hh.2.2))]
 have HD:=ai N;clear N;let⟨r0,r1,r2,r3,r4,r5,rf⟩:=R12.c6;go_wp2;refine cX (by simp[results,results94,go_sem,r0,r1,r2,r3,r4,r5]) rfl (ai1 HD (xv b12))}}}}}}}}}}
theorem fh.ge{w:G}(h:fh B w (.T g n c) ss Qs):B<=g:=(h.row.lt g rfl).1
def DuR(w:G)(e g x t:Int)(n m:Nat)(ss:List aB)(ns:List au)(r:Ending)(w':G):Prop:=∃j q i o B s,r=dR (cO e g x t (.S j n q) (.S i m o))/\U (Q w)<=B/\fh B w' (.S j n q) ss s/\ld B w' (.S i m o) ns/\Bw w w'
theorem eH6{g:Int}(en:Le ss n)(em:Le ns m){w:G}(h:nO w (.S p n c) ss)(hN:iw w (.S q m d) ns)(hn:Mg n)(hm:Mg m)(ig:O (∀s∈ss,J s.2.2<=2^20/\∀ev∈s.2.2,J ev.2<=2^20))(oW:O (∀nd∈ns,J nd.A<=2^20/\J nd.V<=2^20/\J nd.y<=2^20/\J nd.X<=2^20)):dQ dG 97 #[cO e g x t (.S p n c) (.S q m d)] w (DuR w e g x 0 n m (ss.map pZ) (ns.map qP)):=by
 let⟨W0,cT,b0,z0,C0⟩:=yj w (.U e) (.U g) (.U x) (.I t) (.S p n c) (.S q m d);let⟨W1,fT,b1,z1,C1⟩:=yj W0 (.U 0) (.U 0) (.U 0) (.I 0) ay ay;rw[z0]at C1 z1;have bW:=aj b0 b1;have HB:=eG C1 bW z1;go_in
 go_wp21
 rw[<-cT,<-fT];refine(aF3 (e:=e) (g:=g) (x:=x) (t:=t) en em (h.H bW) (hN.H bW) hn hm ig oW).h ?_;rintro r w1⟨R,Z,N,X,rfl,⟨Qs,hS⟩,IC,az⟩;let⟨W2,fW,b2,z2,C2⟩:=yj w1 (.U e) (.U g) (.U x) (.I 0) (.S R n Z) (.S N m X);let⟨ob,hob⟩:=aF (U (Q w1));rw[<-hob]at C2;have F2:=Fr.H (T:=[44]) b2;have y:=nK (hS.T F2) (du.T IC F2) C2 ((HB.1.H az).H b2) ((HB.2.1.Z (az.h (aM HB.2.2))).Z (b2.h (by have:=HB.2.2;have:=az.size;omega)));let⟨B,hB⟩:=aF (U (Q W1));rw[<-hB]at y;have gu:U (Q w)<=B:=aM HB.2.2;go_wp2;rw[<-hob,<-fW];clear fW hob
 go_loopw[4](λiv wr=>∃(k:Nat)(Qs:List dV),k<=n/\iv=.I k/\O (fh B wr (.S R n Z) (Fe pZ k ss) Qs/\ld B wr (.S N m X) ns/\BX wr ob [.U e,.U g,.U x,.I 0,.S R n Z,.S N m X]/\BX wr (U (Q w)+1) [.U 0,.U 0,.U 0,.I 0,ay,ay]/\Bw w wr)) (pT n)
 exact⟨0,Qs,de _,rfl,by rw[cE7];exact y⟩;{
 obtain⟨k,Qs,hk,rfl,y⟩:=hrel;have i0:=y.2.2.1.cells;by_cases aH:k<n;{
 have dm:=cM k n;obtain⟨s,W⟩:∃s,ss[k]?=Y s:=⟨_,bN (ae en▸aH)⟩;obtain⟨gs,iZ,rfl,-,-,hQ,j0,j1,j2,hq,jf⟩:=y.1.at (ag5 pZ W);have Wv:=y.1.ge;have wk:jY jV ((k:Int)+1)=((k+1:Nat):Int):=by rw[nW _ af];omega
 let⟨S1,E⟩:=y.1.dl (ag5 pZ W) 0;have fg:k<J (Fe pZ k ss):=(bH.1 (ag5 pZ W)).1;obtain⟨-,-,-,-,y4,-,-⟩:=(y.2.2.1.T E).cells;obtain⟨gs',Q',eg,-,-,-,-,-,yq,-,yf⟩:=S1.at (i:=k) (s:=(s.1,0,s.2.2)) (by rw[bc1 fg]);obtain⟨rfl,-⟩:=yr eg;let⟨iY,hY⟩:=aF (jS wr (Ad gs (k*3+1)) (.I 0));rw[<-hY]at S1 E;let⟨S2,F2⟩:=S1.ao9 (i:=k) (s:=(s.1,0,s.2.2)) (by rw[bc1 fg]) hQ (w1:=iY) (v':=ay) (q':=[]) (RT.nil _ _ _ _ _) (WO) (λb e=>by simp[jB]at e);rw[VS,show((s.1,0,[]):aB)=pZ s from rfl,cE8 pZ W]at S2;let⟨V,hV⟩:=aF (jS iY (Ad gs (k*3+2)) ay);rw[<-hV]at S2 F2;have FF:=(E.sub (T':=[125,148]) al).Z F2;have BV:Bw w V:=by rw[hV,hY];exact(y.2.2.2.2.setCell (p:=(Ad gs _)) (gq gu Wv) _).setCell (p:=(Ad gs _)) (gq gu Wv) _
 have HN:=nK S2 (du.T y.2.1 FF) (y.2.2.1.T FF) (y.2.2.2.1.T FF) BV;rw[hY]at hV;go_wp2;rw[<-hV];go_roundw;exact⟨k+1,_,af,by go_num,HN⟩;exact dy};{
 have dm:=ga k n;have ek:k=n:=af;have M:=ae y;rw[cE9 pZ (by rw[ae en];omega)]at M;have y:=ai M;go_wp2
 go_loopw[5](λiv wr=>∃(k:Nat),k<=m/\iv=.I k/\O (fh B wr (.S R n Z) (ss.map pZ) Qs/\ld B wr (.S N m X) (Fe qP k ns)/\BX wr ob [.U e,.U g,.U x,.I 0,.S R n Z,.S N m X]/\BX wr (U (Q w)+1) [.U 0,.U 0,.U 0,.I 0,ay,ay]/\Bw w wr)) (pT m)
 exact⟨0,de _,rfl,by rw[cE7];exact y⟩;{
 obtain⟨k,hk,rfl,y⟩:=hrel;have i0:=y.2.2.1.cells;by_cases aH:k<m;{
 have dm:=cM k m;obtain⟨nd,W⟩:∃s,ns[k]?=Y s:=⟨_,bN (ae em▸aH)⟩;obtain⟨gn,P,V,H,iU,rfl,-,-,-,-,-,-,-,-,-,j7,-,-,-,-,jf⟩:=y.2.1.at (ag5 qP W);have wk:jY jV ((k:Int)+1)=((k+1:Nat):Int):=by rw[nW _ af];omega
 let⟨S1,E⟩:=du.put y.2.1 (ag5 qP W) (j:=7) bf ay (qP nd) (λw' P V H iU h1 h2 h3 h4 _=>⟨P,V,H,ay,rfl,h1,h2,h3,TU.nil _⟩);rw[cE8 qP W]at S1;let⟨iY,hY⟩:=aF (jS wr (Ad gn (k*8+7)) ay);rw[<-hY]at S1 E;have BV:Bw w iY:=by rw[hY];exact y.2.2.2.2.setCell (p:=(Ad gn _)) (gq gu ((RT.lt y.2.1 gn rfl).1)) _
 have HN:=nK (y.1.T E) S1 (y.2.2.1.T E) (y.2.2.2.1.T E) BV;go_wp2;rw[<-hY];go_roundw;exact⟨k+1,af,by go_num,HN⟩;exact dy};{have dm:=ga k m;have M:=ae y;rw[cE9 qP (by rw[ae em];omega)]at M;let⟨r0,r1,r2,r3,r4,r5,rf⟩:=M.2.2.2.1.cells;let⟨cur,J9⟩:=M.2.2.2.1.2;have E:Fr [44] wr (gL wr (U (Q w)+1) (.U e) (.U g) (.U x) (.I 0) (.S R n Z) (.S N m X)):=xB J9;have HN:=eG (M.1.T E) (du.T M.2.1 E) (M.2.2.2.2.Z ((vE (w:=wr) (U (Q w)+1) (.U e) (.U g) (.U x) (.I 0) (.S R n Z) (.S N m X)).h af));go_wp2;exact cX (v:=cO e g x 0 (.S R n Z) (.S N m X)) (by simp[results,results97,go_sem,r0,r1,r2,r3,r4,r5]) rfl ⟨_,_,_,_,B,_,rfl,gu,HN.1,HN.2.1,HN.2.2⟩}}}}
theorem dK9(e g x t:Int)(p q:OA)(c n d m:Nat)(ss:List aB)(ns:List au)(i A2:List Lf)(k:Int)(w:G)(h1:mF w (.S p n c) ss i)(h2:nG w (.S q m d) ns A2)(N:fk w i)(M:fk w A2)(Z:0<=k)(k1:k+J i+J A2<=10^8):dQ dG 36 #[cO e g x t (.S p n c) (.S q m d),.I k] w λr w'=>r=dR (.I (k+J i+J A2))/\Mk w w' (i++A2) k:=by
 let⟨W,E⟩:=aF (jA w (dO #[.U e,.U g,.U x,.I t,.S p n c,.S q m d] 44));have j:=ir E;have V:jg W (U (Q w)) e g x t (.S p n c) (.S q m d):=by rw[E];simp[jg]
 have y:=ai (N.H j);have B:=bG N M;go_in
 go_wp21
 rw[<-E];refine cL (dL0 p c n ss i k _ (mF.H h1 j) y Z af) λR s=>?_;let⟨j0,j1,j2,j3,j4,j5⟩:=V;have c5:I R (Aw w 5)=dS q m d:=s.head y j5
 go_wp21
 refine cL (dL3 q d m ns A2 (k+J i) _ (nG.mk (nG.H h2 j) s y) ((M.H j).mk s y) af af) λw2 X=>?_;go_wp2;go_ret;exact⟨rfl,by simpa using(((Mk.tj j k).trans' s al (fk.nil _) B.1).trans' X al (by simpa using B.1) B.2)⟩
theorem eg4(e g x t:Int)(p q:OA)(c n d m:Nat)(ss:List aB)(ns:List au)(i A2:List Lf)(k:Int)(w:G)(M:mF w (.S p n c) ss i)(E:nG w (.S q m d) ns A2)(s:jt w (i++A2) k)(B:0<=k)(k1:k+J i+J A2<=10^8):dQ dG 41 #[cO e g x t (.S p n c) (.S q m d),.I k] w (Rb (.I (k+J i+J A2)) w):=by
 let⟨W,r⟩:=aF (jA w (dO #[.U e,.U g,.U x,.I t,.S p n c,.S q m d] 44));have j:=ir r;have u:jg W (U (Q w)) e g x t (.S p n c) (.S q m d):=by rw[r];simp[jg]
 go_in
 go_wp21
 rw[<-r];refine cL (eg5 p c n ss i k _ (mF.H M j) (s.app.1.H j) B af) λR o=>?_;have V:=u.H o;have Z:¬k+(J i:Int)<0:=af
 go_wp21
 refine cL (eg8 q d m ns A2 (k+J i) _ (nG.H (nG.H E j) o) ((s.app.2.H j).H o) af af) λN y=>?_;have X:=aj (aj j o) y;have D:¬k+(J i:Int)+(J A2:Int)<0:=af;exact aV
def Ua(e:Ev):Nat:=1+J e.2
def Xd(s:aB):Nat:=2+jy Ua s.2.2
def Xe(nd:au):Nat:=J nd.A+(J nd.V+(2+(J nd.y+(2+J nd.X))))
theorem bS4{α:Type}{F iG:α->Nat}(l:List α)(h:∀x∈l,F x<=iG x):jy F l<=jy iG l:=by
 induction l with
 |nil=>exact fS _
 |cons x l ih=>
  have:=ih λy i=>h y (by simp[i]);have:=h x al;simp only[jy,od,VR]at*;omega
theorem bS5{α:Type}(F:α->Nat)(k:Nat)(l:List α):jy (λx=>k+F x) l=k*J l+jy F l:=by
 induction l with
 |nil=>rfl
 |cons x l ih=>
  simp only[jy,od,VR,mO]at*;rw[ih,ba4];omega
theorem cL6(ss:List aB)(ns:List au):jy Xd ss+jy Xe ns<=4*Hi ss ns:=by
 have j:jy Xd ss<=jy (λs=>2+Ld s) ss:=bS4 ss λs _=>by have:=bS5 (λe:Ev=>J e.2) 1 s.2.2;have e:jy Ua s.2.2=jy (λe:Ev=>1+J e.2) s.2.2:=rfl;simp only[Xd,Ld];omega
 have i:jy Xe ns<=jy (λs=>4+Lg s) ns:=bS4 ns λs _=>by simp only[Xe,Lg];omega
 rw[bS5]at j i;simp only[Hi];omega
def Cw(B:Nat)(w:G)(i A2:List Lf)(p:OA)(n c:Nat)(q:OA)(m d:Nat)(ss:List aB)(ns:List au):Prop:=
 nM w (.S p n c) ss/\iw w (.S q m d) ns/\mF w (.S p n c) ss i/\nG w (.S q m d) ns A2/\gp B w (i++A2)
theorem Cw.W{w w':G}(h:Cw B w A1 A2 p n c q m d ss ns)(i:∀a∈A1++A2,w'.heap[a.b]?=w.heap[a.b]?):Cw B w' A1 A2 p n c q m d ss ns:=by
 obtain⟨D,y,u,s,x⟩:=h;have r:∀a∈A1,w'.heap[a.b]?=w.heap[a.b]?:=λa j=>i a (Of _ j);have o:∀a∈A2,w'.heap[a.b]?=w.heap[a.b]?:=λa j=>i a (H7 _ j);exact⟨D.kR u r,y.kR s o,mF.W u r,nG.W s o,x.W i⟩
theorem Cw.H{w w':G}(h:Cw B w A1 A2 p n c q m d ss ns)(i:Bw w w'):Cw B w' A1 A2 p n c q m d ss ns:=h.W λa j=>i.block _ (h.2.2.2.2.ke.lt j)
theorem Cw.rd{w:G}(h:Cw B w A1 A2 p n c q m d ss ns):nO w (.S p n c) ss/\iw w (.S q m d) ns:=⟨h.1.rd,h.2.1⟩
theorem uC.gy{α:Type}{P:α->Nat->Nat->List Lf->Prop}{xs:List α}(F:α->Nat)(h:uC P sz v xs A)(r:∀x b a l,P x b a l->J l=F x):J A=jy F xs:=by
 obtain⟨p,c,i,D,q,rfl,u⟩:=h;obtain y|⟨b,o,-,s⟩:=u;{subst y;have:i=[]:=uJ.1 q;subst this;rfl};{
 have key:∀k,k<=J xs->(jT k i).flatten.length=jy F (jT k xs):=by
  intro k
  induction k with
  |zero=>intro _;rfl
  |succ k ih=>
   intro B;obtain⟨x,j⟩:∃x,xs[k]?=Y x:=⟨_,bN af⟩;obtain⟨l,m⟩:∃l,i[k]?=Y l:=⟨_,bN af⟩;rw[rD,m,ap8 F j,<-ih af,<-r _ _ _ _ (s k x l j m)];simp
 have:=key (J xs) aU;rw[wS,<-q,wS]at this;exact this}
theorem bS3{α:Type}(l:List α):jy (λ_=>1) l=J l:=by
 induction l with
 |nil=>rfl
 |cons x l ih=>simp only[jy,od,VR,mO]at*;omega
variable {xs:LI}
theorem oz.gy(h:oz v xs A):J A=J xs:=by
 rw[uC.gy (λ_=>1) h (λx b a l i=>by rw[show l=_ from i];rfl)];exact bS3 xs
theorem Fu.gy(h:Fu v xs A):J A=J xs:=by
 rw[uC.gy (λ_=>1) h (λx b a l i=>by rw[show l=_ from i];rfl)];exact bS3 xs
variable {xs:List Ev}
theorem lI.gy{w:G}(h:lI w v xs A):J A=jy Ua xs:=uC.gy Ua h λx b a l i=>by
 obtain⟨p,c,m,rfl,-,j⟩:=i;simp[Ua,oz.gy j];omega
variable {xs:List aB}
theorem mF.gy{w:G}(h:mF w v xs A):J A=jy Xd xs:=uC.gy Xd h λx b a l i=>by
 obtain⟨p,c,m,rfl,-,j⟩:=i;simp[Xd,lI.gy j];omega
variable {xs:List au}
theorem nG.gy{w:G}(h:nG w v xs A):J A=jy Xe xs:=uC.gy Xe h λx b a l i=>by
 obtain⟨y,V,u,S,s,R,r,N,M,E,D,B,rfl,⟨-,q⟩,⟨-,o⟩,⟨-,m⟩,⟨-,j⟩⟩:=i;simp[Xe,oz.gy q,oz.gy o,Fu.gy m,Fu.gy j];omega
def QP(g:Nat):G->Nat->List dV->G
 |w,_,[]=>w
 |w,o,u::us=>QP g (jS w ⟨g,o,dN⟩ u) (o+1) us
def Yx:List dV->Nat->List dV->List dV
 |r,_,[]=>r
 |r,o,u::us=>Yx (r.set o u) (o+1) us
theorem aS8(h:b≠g):∀(c:List dV)(w:G)(o:Nat),(QP g w o c).heap[b]?=w.heap[b]?
 |[],w,o=>rfl
 |u::us,w,o=>(aS8 h us _ _).Z (Rl _ _ _ _ h)
theorem bW9{cap:Nat}:∀(c:List dV)(w:G)(o:Nat)(row:List dV),w.ownsRow B ty sz (.T g n cap) n row->(QP g w o c).ownsRow B ty sz (.T g n cap) n (Yx row o c)
 |[],w,o,row,h=>h
 |u::us,w,o,row,h=>bW9 us _ _ _ (h.stored o u).1
theorem bX1:∀(c A rest:List dV),J c<=J rest->Yx (A++rest) (J A) c=A++(c++jD (J c) rest)
 |[],A,rest,_=>by simp[Yx]
 |u::us,A,r::rs,h=>by have:=bX1 us (A++[u]) rs (by simpa using h);rw[Yx,show(A++r::rs).set (J A) u=(A++[u])++rs by simp,show J A+1=J (A++[u]) by simp,this];simp
variable {cs:List (List dV)}
theorem cE3(h:∀c∈cs,J c=sz):J (jL cs)=J cs*sz:=by
 induction cs with
 |nil=>simp
 |cons c cs ih=>
  rw[vF,fe,h c al,ih λd i=>h d (by simp[i]),mO,Gg];omega
def DU{α:Type}(el:G->α->List dV->List Lf->Prop)(ty:TypeId)(o iG n:Nat)(w:G)(k:Nat)(xs:List α):Prop:=
 ∃(cs:List (List dV))(m:List (List Lf))(j:List dV),J cs=k/\J m=k/\(∀c∈cs,J c=o)/\w.ownsRow iG ty o (.T iG n n) n (jL cs++j)/\(∀(i:Nat)(x:α)(c:List dV)(l:List Lf),xs[i]?=x->cs[i]?=Y c->m[i]?=l->el w x c l)/\gp (iG+1) w (jL m)
variable {iG:Nat}
theorem DU.zero{α:Type}{el:G->α->List dV->List Lf->Prop}{w:G}(xs:List α)(h:w.ownsRow iG ty sz (.T iG n n) n row):DU el ty sz iG n w 0 xs:=
 ⟨[],[],row,rfl,rfl,λc hc=>(by cases hc),h,λi x c l _ hc=>(by simp at hc),gp.nil _ _⟩
theorem DU.cell{α:Type}{el:G->α->List dV->List Lf->Prop}{w m:G}{xs:List α}(h:DU el ty sz iG n w k xs)(x:Bw w m)(s:k<n):(∀j,j<sz->∃u,I m (Ad iG (k*sz+j))=Y u)/\∀o,jF m (Ad iG o)=dF:=by
 obtain⟨cs,S,q,R,N,M,i,E,D⟩:=h;have r:=x.block iG (i.lt iG rfl).2;have y:=Rm sz (show k+1<=n from s);rw[Gg]at y;refine⟨λj B=>?_,λo=>(Dg r).Z (i.frozenAt o)⟩;rw[gG r,i.cellAt _ af];exact⟨_,bN (by rw[i.1];omega)⟩
variable {l:List Lf}{c:List dV}
theorem DU.step{α:Type}{el:G->α->List dV->List Lf->Prop}{w o:G}{xs:List α}{x:α}(h:DU el ty sz iG n w k xs)(Z:∀w w' x c l,el w x c l->(∀a∈l,w'.heap[a.b]?=w.heap[a.b]?)->el w' x c l)(hk:k<n)(hx:xs[k]?=Y x)(hb:Bw w o)(iW:el o x c l)(hc:J c=sz)(X:gp (U (Q w)) o l):DU el ty sz iG n (QP iG o (k*sz) c) (k+1) xs:=by
 obtain⟨cs,Ls,s,h1,h2,h3,h4,h5,B⟩:=h;have W:=(h4.lt iG rfl).2;have S:∀a∈l,(QP iG o (k*sz) c).heap[a.b]?=o.heap[a.b]?:=λa u=>aS8 (aM (X.lo a u)) _ _ _;have V:∀a∈jL Ls,(QP iG o (k*sz) c).heap[a.b]?=w.heap[a.b]?:=λa u=>(aS8 (aM (B.lo a u)) _ _ _).Z (hb.block _ (B.ke.lt u));have N:J (jL cs)=k*sz:=by rw[cE3 h3,h1]
 have h7:=Rm sz (show k+1<=n from hk);rw[Gg]at h7;have h8:=h4.1;rw[fe,N]at h8;have h9:o.ownsRow iG ty sz (.T iG n n) n (jL cs++s):=by refine⟨h4.1,?_⟩;obtain hn|⟨g,cap,R,e,aR,hg,r⟩:=h4.2;{exact .L hn};{cases e;exact .R ⟨iG,n,R,rfl,aR,(hb.block iG W).Z hg,r⟩}
 refine⟨cs++[c],Ls++[l],jD sz s,by simp[h1],by simp[h2],λd j=>?_,?_,λi y d m E j hm=>?_,?_⟩;{obtain j|j:=jl.1 j;{exact h3 d j};{rw[rC.1 j];exact hc}};{have:=bW9 c o (k*sz) _ h9;rw[<-N,bX1 _ _ _ af,hc]at this;rw[<-N];simpa using this};{by_cases e:i<k;{rw[oI af]at j hm;exact Z _ _ _ _ _ (h5 i y d m E j hm) λa u=>V a (Eg.2 ⟨m,bq hm,u⟩)};{cases(by have:=(bH.1 j).1;simp at this;omega:i=k);rw[qT af]at j hm;simp[h1,h2]at j hm;subst j hm;rw[hx]at E;cases E;exact Z _ _ _ _ _ iW S}};{rw[LM];refine gp.app (M:=U (Q w)) (B.W V) ?_ W λa u=>B.ke.lt u;simpa using X.W S}
theorem DU.full{α:Type}{el:G->α->List dV->List Lf->Prop}{w:G}{xs:List α}(h:DU el ty sz iG n w n xs)(r:J xs=n):∃Ls,fG el ty sz iG w (.T iG n n) xs Ls:=by
 obtain⟨cs,Ls,i,q,y,o,j,x,m⟩:=h;have u:=j.1;rw[fe,cE3 o,q]at u;have:i=[]:=Hz af;subst this r;rw[Da]at j;exact⟨Ls,cs,q,y,o,j,x,m.h (VJ _),λa s e=>by have:=m.lo a s;simp[jB]at e;omega⟩
theorem fF4(k i e g s:Int)(p1 q1 R N p3 q3:OA)(c1 d1 Z W c3 d3 n1 n2 j:Nat)(lW:LI)(B:List LI)(V:List Ev)(e1:Le lW n1)(e2:Le B n2)(e3:Le V j)(w:G)(a1:Rd w (.S p1 n1 c1) lW)(a2:AL w (.S R n2 Z) B)(a3:qI w (.S p3 j c3) V)(b1:Rd w (.S q1 n1 d1) lW)(b2:AL w (.S N n2 W) B)(b3:qI w (.S q3 j d3) V)(h1:Mg n1)(h2:Mg n2)(h3:Mg j)(l2:O (∀y∈B,Mg (J y)))(l3:O (∀y∈V,J y.2<=2^20)):dQ dG 11 #[ij k i e g s (.S p1 n1 c1) (.S R n2 Z) (.S p3 j c3),ij k i e g s (.S q1 n1 d1) (.S N n2 W) (.S q3 j d3)] w (Rb (jO dY) w):=by
 have r:=ai λ(w':G)(o:Bw w w')=>aE (aE (a1.H o) (aE (a2.H o) (a3.H o))) (aE (b1.H o) (aE (b2.H o) (b3.H o)));let⟨X,hX,bX,zX,CX⟩:=yi w (.I k) (.U i) (.U e) (.U g) (.I s) (.S p1 n1 c1) (.S R n2 Z) (.S p3 j c3);let⟨x,hY,bY,zY,CY⟩:=yi X (.I k) (.U i) (.U e) (.U g) (.I s) (.S q1 n1 d1) (.S N n2 W) (.S q3 j d3);rw[zX]at CY;have m:=aj bX bY;have u:=ai λ(v:G)(hv:Bw x v)=>aE ((CX.H bY).H hv) (CY.H hv);go_in;obtain⟨⟨x0,x1,x2,x3,x4,x5,x6,x7,-⟩,⟨y0,y1,y2,y3,y4,y5,y6,y7,-⟩⟩:=aE (ae u x db).1.cells (ae u x db).2.cells;rw[hY,hX]at x0 x1 x2 x3 x4 x5 x6 x7 y0 y1 y2 y3 y4 y5 y6 y7
 go_wp21
 rw[<-hX,<-hY];refine cL (MB e1 (ae r x m).1.1 (ae r x m).2.1 af) λM az=>?_;obtain⟨⟨x0,x1,x2,x3,x4,x5,x6,x7,-⟩,⟨y0,y1,y2,y3,y4,y5,y6,y7,-⟩⟩:=aE (ae u M az).1.cells (ae u M az).2.cells;have B1:=ai az
 go_wp21
 refine cL (cG5 R N Z W n2 B e2 _ (ae r M (aj m B1)).1.2.1 (ae r M (aj m B1)).2.2.1 h2 l2) λE aA=>?_;have D:=ai (aj B1 aA);obtain⟨⟨x0,x1,x2,x3,x4,x5,x6,x7,-⟩,⟨y0,y1,y2,y3,y4,y5,y6,y7,-⟩⟩:=aE (ae u E D).1.cells (ae u E D).2.cells
 go_wp21
 refine cL (bv3 e3 (ae r E (aj m D)).1.2.2 (ae r E (aj m D)).2.2.2 h3 l3) λw3 aL=>?_;have B3:=ai (aj m (aj D aL));exact aV
theorem dL1(k i e g s:Int)(Z B W:OA)(c1 E c3 n1 n2 n3:Nat)(lW:LI)(iB:List LI)(kF:List Ev)(m A2 q:List Lf)(K:Int)(w:G)(h1:oz (.S Z n1 c1) lW m)(h2:rQ w (.S B n2 E) iB A2)(h3:lI w (.S W n3 c3) kF q)(hA:fk w (m++(A2++q)))(K0:0<=K)(K1:K+(J m+(J A2+J q):Nat)<=10^8)(hn:n2<=10^8):dQ dG 15 #[ij k i e g s (.S Z n1 c1) (.S B n2 E) (.S W n3 c3),.I K] w λr w'=>r=dR (.I (K+(J m+(J A2+J q):Nat)))/\Mk w w' (m++(A2++q)) K:=by
 let⟨L1,x⟩:=cg (J m);let⟨L2,V⟩:=cg (J A2);let⟨L3,T9⟩:=cg (J q);rw[ae x,ae V,ae T9]at K1⊢;have j:=bG (fk.app.1 hA).1 (fk.app.1 (fk.app.1 hA).2);let⟨X,hX,M,zX,CX⟩:=yi w (.I k) (.U i) (.U e) (.U g) (.I s) (.S Z n1 c1) (.S B n2 E) (.S W n3 c3);let⟨x0,x1,x2,x3,x4,x5,x6,x7,xf⟩:=CX.cells;have y:=bG x6 x7;rw[hX]at x5;go_in
 go_wp21
 rw[<-hX];refine(Rf (h1) (j.1.H M) K0 (by rw[ae x];omega)).h ?_;rintro r w1⟨rfl,m1⟩;have N:=ai (by have:=(Mk.tj M K).Z (by simpa using m1) (fk.nil _) j.1;simpa using this:Mk w w1 m K);have y6:=m1.head (j.1.H M) y.1;have y7:=m1.head (j.1.H M) y.2;rw[ae x];obtain⟨R,vR⟩:∃R:Int,K+(L1:Int)=R:=⟨_,rfl⟩;rw[vR]
 go_wp21
 refine(dL4 B E n2 iB A2 R w1 (rQ.mk (h2) N j.1) (j.2.1.mk N j.1) af (by rw[ae V];omega) hn).h ?_;rintro r w2⟨rfl,m2⟩;have M2:=ai (N.trans' m2 (by rw[ae x,vR]) j.1 j.2.1);have y7:=m2.head (j.2.1.mk N j.1) y7;rw[ae V];obtain⟨K3,DL⟩:∃K3:Int,R+(L2:Int)=K3:=⟨_,rfl⟩;rw[DL];have HI:=ai (fk.app.2 ⟨j.1,j.2.1⟩)
 go_wp21
 refine(ch2 (lI.mk (h3) M2 HI) (j.2.2.mk M2 HI) af (by rw[ae T9];omega)).h ?_;rintro r w3⟨rfl,m3⟩;rw[ae T9];have eF:K3+(L3:Int)=K+((L1+(L2+L3):Nat):Int):=by push_cast;omega
 rw[eF];go_wp2;go_ret;exact⟨rfl,by have:=(M2.trans' m3 (by rw[fe,ae x,ae V];push_cast;omega) HI j.2.2);rwa [xL]at this⟩
theorem eg7(k i e g s:Int)(W E V:OA)(c1 M c3 n1 n2 Z:Nat)(lW:LI)(iB:List LI)(kF:List Ev)(y A2 x:List Lf)(K:Int)(w:G)(h1:oz (.S W n1 c1) lW y)(h2:rQ w (.S E n2 M) iB A2)(h3:lI w (.S V Z c3) kF x)(hA:jt w (y++(A2++x)) K)(K0:0<=K)(K1:K+(J y+(J A2+J x):Nat)<=10^8)(hn:n2<=10^8):dQ dG 17 #[ij k i e g s (.S W n1 c1) (.S E n2 M) (.S V Z c3),.I K] w (Rb (.I (K+(J y+(J A2+J x):Nat))) w):=by
 let⟨L1,B⟩:=cg (J y);let⟨L2,R⟩:=cg (J A2);let⟨L3,T9⟩:=cg (J x);have u:=eG hA.app.1 hA.app.2.app.1 hA.app.2.app.2;rw[ae B,ae R]at u;rw[ae B,ae R,ae T9]at K1⊢;let⟨X,hX,bX,zX,CX⟩:=yi w (.I k) (.U i) (.U e) (.U g) (.I s) (.S W n1 c1) (.S E n2 M) (.S V Z c3);let⟨x0,x1,x2,x3,x4,x5,x6,x7,xf⟩:=CX.cells;have o:=bG x6 x7;rw[hX]at x5;obtain⟨j,vR⟩:∃j:Int,K+(L1:Int)=j:=⟨_,rfl⟩;obtain⟨m,DL⟩:∃m:Int,j+(L2:Int)=m:=⟨_,rfl⟩;obtain⟨N,eK4⟩:∃N:Int,m+(L3:Int)=N:=⟨_,rfl⟩;let⟨g2,g3,g4⟩:¬j<0/\¬m<0/\¬N<0:=af;rw[vR,DL]at u;have eF:K+((L1+(L2+L3):Nat):Int)=N:=by push_cast;omega
 rw[eF]at K1⊢;let⟨q2,q1,q3⟩:j+L2<=10^8/\K+L1<=10^8/\m+L3<=10^8:=af;go_in
 go_wp21
 rw[<-hX];refine(ac2 (h1) (u.1.H bX) K0 (by rw[ae B];omega)).h ?_;rintro r w1⟨rfl,m1⟩;have y6:=aq o.1 m1;have B1:=ai (aj bX m1);rw[ae B,vR]
 go_wp21
 refine(eg9 E M n2 iB A2 j w1 (rQ.H (h2) B1) (u.2.1.H B1) af (by rw[ae R];omega) hn).h ?_;rintro r w2⟨rfl,m2⟩;have B2:=ai (aj B1 m2);have y7:=aq (aq o.2 m1) m2;rw[ae R,DL]
 go_wp21
 refine(cv5 (lI.H (h3) B2) (u.2.2.H B2) af (by rw[ae T9];omega)).h ?_;rintro r w3⟨rfl,m3⟩;have B3:=ai (aj B2 m3);rw[ae T9,eK4];exact aV
end Go.Proofs.YthlkmijffhhimaaGreatDoor
