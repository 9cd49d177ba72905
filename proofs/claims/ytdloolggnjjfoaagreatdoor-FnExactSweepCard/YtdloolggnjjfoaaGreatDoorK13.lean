import Derived.Test.YtdloolggnjjfoaaGreatDoorK12
import Derived.Deep.CutBlock
import Derived.Recover
import Derived.Laws.Pointers
import Derived.Lib.ItoaWalk
open Array renaming size->U
open Bool renaming false->dF,true->dY
open Go renaming Calls->dQ,Value->dV,World->G
open Go.Ending renaming returned->dR
open Go.Obj renaming cells->dO
open Go.Proofs.Tryz renaming prog->dG
open Go.RowKit renaming Hid->O
open Go.Value renaming I->dI,pointer->dP,S->dS,tuple->dT,U->dU
open Go.World renaming cell?->I
open List renaming length->J
open Option renaming none->dN,some->Y
namespace Go.Proofs.YtdloolggnjjfoaaGreatDoor
set_option maxHeartbeats 12800000
set_option linter.all false
set_option maxRecDepth 100000
open Go.ChangeShapes Go.WideShapes Go.ChangeAt Go.RowKit
def VB(r:R1):Prop:=aC r.2/\J r.2<=1000/\0<=r.1/\r.1<2^64
variable {l P V l0 l1 xs l2 L:LI}{r:R1}{k s f j c n b bs bn d sb c0 c1 c2 N M m n1 n2 b':Nat}{D:SD}{q C t i s0 s1 s2:Int}{rs:List R1}{w w0 w' v:G}{p p0 p1 p2:OA}{vs us Qs:List dV}{x v0 v1 v2 v3 v4 v5 v6 v7 v8 v9 va vb vc z u0 u1 u2 u3 u4 u5 u6 u7:dV}{S:fG}{A1 A2 A:List Lf}{a cs:iA}{e:Ending}{R:Ending->G->Prop}{Ls:List (List Lf)}{y:ar}{ss:List aB}{ns:List ar}{K:Act->G->Prop}{o:Oper}{md:Region.Mode}{ops:iQ}{listed:Array Bool}{ty:TypeId}
def dq7(i:aC l)(h:nj l=r):VB r:=by
 obtain⟨s,b⟩:=r;obtain⟨u,q,-,m,o,-⟩:=Tw i h;have j:=Fl (i.sub 2 10) (by simp[sub];omega);refine⟨?_,q,?_,?_⟩;{show aC b;rw[o];exact i.sub _ _};{show 0<=s;rw[m];exact j.1};{show s<_;rw[m];exact j.2}
theorem bH5:∀(f:Nat){l:LI},aC l->∀r:R1,Y r∈yl f l->VB r
 |0,l,hB,r,h=>by simp[yl]at h
 | f+1,l,hB,r,h=>by
  cases hr:nj l with
  |none=>rw[af8 hr]at h;simp at h
  |some x=>
   rw[LF hr]at h;obtain h|h:=fU.1 h;{cases h;exact dq7 hB hr};{exact bH5 f (hB.drop _) r h}
theorem cv8:∀(t:Option Int)(L:List (Option R1))(r:R1),r∈qg t L->Y r∈L
 |_,[],r,h=>by simp[qg]at h
 |_,dN::_,r,h=>by simp[qg]at h
 |t,Y x::L,r,h=>by rw[qg]at h;split at h;{obtain h|h:=fU.1 h;{rw[h];simp};{exact List.mem_cons_of_mem _ (cv8 _ L r h)}};{simp at h}
def aj3(i:aC l):∀r∈rl l,VB r:=λr h=>bH5 _ i r (cv8 _ _ r h)
abbrev Rq:=Nat×Nat×Nat×LI×LI
def qX.jo(h:qX l k s P f V):(k:Int)=1\/(k:Int)=3\/(k:Int)=4\/(k:Int)=5\/(k:Int)=7\/(k:Int)=8\/(k:Int)=9:=by
 obtain⟨m,j,-,-,-,i,-⟩:=h;obtain rfl|rfl|rfl|rfl|rfl|rfl|rfl|rfl|rfl|rfl|rfl|rfl|rfl:=kinds m j<;>first|omega|cases i
def xD(l:LI):Option Rq->Prop
 |none=>∀K S P F V,¬qX l K S P F V
 |some o=>qX l o.1 o.2.1 o.2.2.2.1 o.2.2.1 o.2.2.2.2
def ey1:∃i:LI->Option Rq,∀l,xD l (i l):=by
 refine Classical.axiomOfChoice (r:=λl o=>xD l o) λl=>?_;by_cases h:∃K S P F V,qX l K S P F V;{obtain⟨K,S,P,F,V,h⟩:=h;exact⟨Y (K,S,F,P,V),h⟩};{exact⟨dN,λK S P F V j=>h ⟨K,S,P,F,V,j⟩⟩}
def qX.byt{K S F:Nat}(h:qX l K S P F V)(j:aC l):aC P/\aC V:=by
 obtain⟨_,_,_,_,_,_,e⟩:=h;rw[e,lX,tx,tx]at j;exact⟨λz i=>j z (by simp[i]),λz i=>j z (by simp[i])⟩
abbrev Vu(D:SD)(o:Rq):SD×RP:=mW D o.1 o.2.1 o.2.2.1 0 0 o.2.2.2.1 o.2.2.2.2
def Az(dop:LI->Option Rq)(D:SD)(q:Int)(r:R1):Option (SD×Int):=
 if r.1<=q then Y (D,q)
 else if r.1≠q+1\/4611686018427387904<r.1 then dN
 else match dop r.2 with
  |none=>dN
  |some o=>if(Vu D o).2.k=0 then Y ((Vu D o).1,r.1)else dN
def rH(dop:LI->Option Rq):SD->Int->List R1->SD×Int
 |D,q,[]=>(D,q)
 |D,q,r::rs=>match Az dop D q r with
  |none=>(D,q)
  |some x=>rH dop x.1 x.2 rs
def Ts{dop:LI->Option Rq}(hr:rs[j]?=r)(h:Az dop D q r=dN):rH dop D q (rs.drop j)=(D,q):=by
 let⟨i,e⟩:=bg.1 hr;rw[Hu i,e,rH,h]
def aj0{dop:LI->Option Rq}{x:SD×Int}(hr:rs[j]?=r)(h:Az dop D q r=x):rH dop D q (rs.drop j)=rH dop x.1 x.2 (rs.drop (j+1)):=by
 let⟨i,e⟩:=bg.1 hr;rw[Hu i,e,rH,h]
def bR2{dop:LI->Option Rq}:rH dop D q (rs.drop (J rs))=(D,q):=by rw[List.drop_length];rfl
def GQ(D:SD)(q:Int):Prop:=VD D/\0<=q/\q<=2^62
def aL8{dop:LI->Option Rq}(j:∀l,xD l (dop l))(h:GQ D q)(hr:VB r){x:SD×Int}(e:Az dop D q r=x):GQ x.1 x.2:=by
 rw[Az]at e;split at e;{cases e;exact h};{
 split at e;{cases e};{
 next h1 h2=>
 rw[Hw]at h2;have i:=j r.2;split at e;{cases e};{
 next o ho=>
 rw[ho]at i;split at e;{cases e;let⟨s,m⟩:=qX.byt i hr.1;exact⟨h.1.apply s m i.jo,hr.2.2.1,af⟩};{cases e}}}}
theorem aj1{dop:LI->Option Rq}(i:∀l,xD l (dop l)):∀(rs:List R1){D:SD}{q:Int},GQ D q->(∀r∈rs,VB r)->GQ (rH dop D q rs).1 (rH dop D q rs).2
 |[],D,q,h,_=>h
 |r::rs,D,q,h,hr=>by
  rw[rH];cases e:Az dop D q r with
  |none=>exact h
  |some x=>exact aj1 i rs (aL8 i h (hr r aj) e) (λj m=>hr j (by simp[m]))
def mJ(l:LI):Option (SD×Int):=
 if J l=0 then Y (⟨0,0,0,0,[],[]⟩,0)
 else if J l<20 then dN
 else if qJ (num (sub l 4 12)) (sub l 16 (J l-4))=l then
  if 4611686018427387904<num (sub l 4 12)then dN
  else(jM (sub l 16 (J l-4))).map λr=>(⟨r.1.1,r.1.2.1,r.1.2.2,0,r.2.1,r.2.2⟩,num (sub l 4 12))
 else dN
def VD.zero:VD ⟨0,0,0,0,[],[]⟩:=⟨by decide,by decide,by decide,by decide,by decide,by decide,List.Pairwise.nil,(λs h=>by cases h),List.Pairwise.nil,(λs h=>by cases h)⟩
theorem dh9(X:aC l)(W:Mg (J l)){r:(Int×Int×Int)×List aB×List ar}(h:jM l=r):VD ⟨r.1.1,r.1.2.1,r.1.2.2,0,r.2.1,r.2.2⟩:=by
 rw[jM]at h;cases hr:AD l with
 |none=>rw[hr]at h;cases h
 |some s=>
  rw[hr,AI]at h;split at h;{
 next hc=>
 obtain⟨⟨e,g,x⟩,D,V,o⟩:=s;simp only[mn]at h hc;subst h;obtain⟨-,y,-⟩:=hc;rw[AD]at hr;simp only at hr;have S:=gU.start (n:=J l) (l:=l) rfl;have R:=uw rfl S;have N:=uw rfl R;have M:=uw rfl N;have E:=uw rfl M;split at hr;{cases hr};{
 let⟨u1,u2⟩:=aP9 oV GN (gU (J l) l) (λs m=>⟨vF,uw rfl m⟩) (oV (oV (oV (oV l).2).2).2).1.toNat _ E;split at hr;{cases hr};{
 rw[Mc]at hr;obtain⟨⟨r1,r2⟩,Z,u⟩:=hr;obtain⟨B,-,-⟩:=ai0 rfl X W _ (uw rfl u2) Z;simp only[jy]at u;obtain⟨⟨e1,e2,e3⟩,e4,e5,-⟩:=u;have m:∀s∈D,s.2.2=[]:=λs m=>by rw[<-e4]at m;obtain⟨i,-,rfl⟩:=fe.1 m;rfl
 have q:∀j∈V,NI j:=λj aJ=>B j (e5▸aJ);refine VD.of y (QV y (λs h=>by rw[m s h];exact⟨cO _,λe he=>by cases he⟩) (λj h=>⟨(q j h).by0,(q j h).l0,(q j h).l1,(q j h).l4,by rw[(q j h).l7];exact cO _⟩)) ?_ ?_ (λs h ev he=>by rw[m s h]at he;cases he) (λj h=>(q j h).by1) ?_ (λj h=>(q j h).ep.1);{rw[<-e2];exact vF.1};{rw[<-e3];exact vF.1};{rw[<-e1];exact vF.1}}}};{cases h}
def aM7(i:aC l)(m:Mg (J l)){x:SD×Int}(h:mJ l=x):GQ x.1 x.2:=by
 rw[mJ]at h;split at h;{cases h;exact⟨VD.zero,bf,bf⟩};{
 split at h;{cases h};{
 split at h;{
 split at h;{cases h};{
 next h1 h2 h3 h4=>
 rw[Mc]at h;obtain⟨r,j,rfl⟩:=h;exact⟨dh9 (i.sub _ _) (by simp[sub];omega) j,(Fl (i.sub 4 12) (by simp[sub];omega)).1,af⟩}};{cases h}}}
open Go.Proofs.Tryz
def RH(l:LI)(r:Ending)(w':G):Prop:=∃(D:SD)(q C:Int)(p:OA)(c:Nat)(i:OA)(d:Nat),r=dR (dT #[bS D.e D.g D.x D.t (.S p (J D.E) c) (.S i (J D.N) d),.U q,.I C])/\kV w' (.S p (J D.E) c) D.E/\gJ w' (.S i (J D.N) d) D.N/\((mJ l=dN/\C=13)\/(mJ l=Y (D,q)/\C=0))
def WK:kV w aq []:=⟨dN,0,rfl,.L rfl⟩
def WL:gJ w aq []:=⟨dN,0,rfl,.L rfl⟩
def RH.no(h:O (mJ l=dN))(w':G):RH l (dR (dT #[bS 0 0 0 0 aq aq,.U 0,.I 13])) w':=
 ⟨⟨0,0,0,0,[],[]⟩,0,13,dN,0,dN,0,rfl,WK,WL,.L ⟨h,rfl⟩⟩
def bO4(i:¬J l=0)(h:J l<20):mJ l=dN:=by rw[mJ,aL i,aM h]
def bO5(h:¬J l<20)(i:¬qJ (num (sub l 4 12)) (sub l 16 (J l-4))=l):mJ l=dN:=by rw[mJ,aL (by omega),aL h,aL i]
def bO6(h:¬J l<20)(i:4611686018427387904<num (sub l 4 12)):mJ l=dN:=by
 rw[mJ,aL af,aL h,aM i];split<;>rfl
def bO3(h:¬J l<20)(i:qJ (num (sub l 4 12)) (sub l 16 (J l-4))=l)(j:¬4611686018427387904<num (sub l 4 12)):mJ l=(jM (sub l 16 (J l-4))).map λr=>(⟨r.1.1,r.1.2.1,r.1.2.2,0,r.2.1,r.2.2⟩,num (sub l 4 12)):=by
 rw[mJ,aL af,aL h,aM i,aL j]
theorem dG9(W:Le l n)(h:Rd w (.S p n c) l)(hb:aC l)(hl:Mg n)(nE:n<=c)(nI:O (c<=maxLen))(hp:O ((p=dN/\c=0)\/∃b o,p=(Ad b o)))(pO:ML w):dQ dG 122 #[.S p n c] w λr w'=>RH l r w'/\Bw w w':=by
 obtain⟨W0,cI,b0,z0,C0,-⟩:=bQ w #[.U 0,.U 0,.U 0,.I 0,aq,aq] 41;have HR:=du (h.H b0) (pO.H b0) hb;go_in;by_cases zF:n=0;{
 subst zF;have R:O (mJ l=Y (⟨0,0,0,0,[],[]⟩,0)):=by show _=_;rw[mJ,aM (ae W)]
 let⟨N,M,E,D,m,j,rf⟩:=C0.c6;go_wp2_with fail;rw[<-cI];go_wp2;exact cg (by simp[results,results122,go_sem,N,M,E,D,m,j]) rfl ⟨⟨⟨0,0,0,0,[],[]⟩,0,0,dN,0,dN,0,rfl,WK,WL,.R ⟨R,rfl⟩⟩,b0⟩};{
 have nF:((n:Int)==0)=dF:=by simp;omega
 go_wp2_with fail;rw[<-cI];have iD:U w.heap<U W0.heap:=af;by_cases QO:n<20;{refine(dN3 QO).h ?_;rintro r w1⟨p1,c1,rfl,-,V⟩;have R:O (mJ l=dN):=bO4 (ae W▸zF) (ae W▸QO);let⟨N,M,E,D,m,j,rf⟩:=(C0.H iD V).c6;have BB:=ai b0 V;go_wp2;exact cg (by simp[results,results122,go_sem,N,M,E,D,m,j]) rfl ⟨RH.no R _,si BB⟩};{
 obtain⟨pb,po,rfl⟩:∃b o,p=(Ad b o):=by obtain⟨-,h⟩|h:=ae hp;{omega};{exact h}
 have Qg:¬J l<20:=ae W▸QO;refine(dN5 W HR.1 HR.2.2 af hl nE nI).h ?_;intro r w1 hd;unfold Oh at hd;by_cases hs:qJ (num (sub l 4 12)) (sub l 16 (n-4))=l;{
 rw[aM hs]at hd;obtain⟨p1,c1,rfl,o1,V⟩:=hd;let⟨q,eq⟩:=aY (num (sub l 4 12));have hq:=Fl (HR.2.2.sub 4 12) (by simp[sub];omega);let⟨B,eB⟩:=aY (sub l 16 (n-4));have xm:O (J B=n-20):=by show _=_;rw[<-eB,yG (by rw[ae W];omega)];omega
 have ya:O (aC B):=by show aC B;rw[<-eB];exact HR.2.2.sub _ _
 rw[eq]at hq;rw[eB]at o1;rw[eq];have BB:=ai b0 V;have C1:=C0.H iD V;have fw:U w.heap<U w1.heap:=aK V.size;have HM:=ag (HR.2.1.H V);have HS:O (mJ l=if 4611686018427387904<q then dN else(jM B).map λr=>(⟨r.1.1,r.1.2.1,r.1.2.2,0,r.2.1,r.2.2⟩,q)):=by show _=_;by_cases hb:4611686018427387904<q;{rw[aM hb,bO6 Qg (eq▸hb)]};{rw[aL hb,bO3 Qg (ae W▸hs) (eq▸hb),ae W,eq,eB]}
 by_cases Qx:4611686018427387904<q;{
 have R:O (mJ l=dN):=by show _=_;rw[ae HS,aM Qx]
 let⟨N,M,E,D,m,j,rf⟩:=C1.c6;go_wp2;exact cg (by simp[results,results122,go_sem,N,M,E,D,m,j]) rfl ⟨RH.no R _,si BB⟩};{
 have vP:=ae HS;rw[aL Qx]at vP;have kq:=ag vP;have ad:=o1.Vw;have HO:=du o1.rd o1.cap ad;go_wp2_with fail;refine(dN4 xm HO.1 ya af HO.2.1 HO.2.2.1 HO.2.2.2 HM).h ?_;rintro r w2⟨⟨ps,cs,pn,cn,rfl,Z⟩,ay⟩;rw[<-dh5 (ae ya) (by rw[ae xm];omega)]at Z⊢;have B2:=ai BB ay;have C2:=C1.H fw ay;have fI:U w.heap<U w2.heap:=aK ay.size;let⟨N,M,E,D,m,j,rf⟩:=C2.c6;cases hP:jM B with
 |none=>
  have R:O (mJ l=dN):=by show _=_;rw[ae kq,hP];rfl
  simp only[Gz,GC,rG,yS];obtain⟨W3,jI,X,z3,C3,-⟩:=bQ w2 #[.U 0,.U 0,.U 0,.I 0,.S ps 0 cs,.S pn 0 cn] 41;let⟨N,M,E,D,m,j,rf⟩:=(C2.H fI X).c6;have B3:=ai B2 X;clear hP Z C2 C3 X z3 B2 fw fI;subst jI;go_wp2;exact cg (by simp[results,results122,go_sem,N,M,E,D,m,j]) rfl ⟨RH.no R _,si B3⟩
 |some s=>
  have R:O (mJ l=Y (⟨s.1.1,s.1.2.1,s.1.2.2,0,s.2.1,s.2.2⟩,q)):=by show _=_;rw[ae kq,hP];rfl
  rw[hP]at Z;simp only[Gz,GC]at Z⊢;obtain⟨⟨e,g,x⟩,ss,ns⟩:=s;simp only at Z R⊢;let⟨n1,sK⟩:=cG (J ss);let⟨n2,uY⟩:=cG (J ns);rw[ae sK,ae uY]at Z⊢;obtain⟨W3,jI,X,z3,C3,-⟩:=bQ w2 #[.U e,.U g,.U x,.I 0,.S ps n1 cs,.S pn n2 cn] 41;let⟨N,M,E,D,m,j,rf⟩:=(C2.H fI X).c6;obtain⟨k0,k1,k2,k3,k4,k5,-⟩:=C3.c6;have B3:=ai B2 X;have H3:=ag (Z.W (w':=gu W3 (U w.heap) (.U e) (.U g) (.U x) (.I 0) (.S ps n1 cs) (.S pn n2 cn)) (λy h1 h2=>(Fg af).Z (X.block y h2))).Ty;clear hP Z C2 C3 X z3 B2 fw fI;subst jI;go_wp2;refine cg (v:=dT #[bS e g x 0 (.S ps n1 cs) (.S pn n2 cn),.U q,.I 0]) (by simp[results,results122,go_sem,N,M,E,D,m,j]) rfl ⟨⟨⟨e,g,x,0,ss,ns⟩,q,0,ps,cs,pn,cn,?_,?_,?_,.R ⟨R,rfl⟩⟩,si B3⟩;{rw[ae sK,ae uY]};{rw[ae sK];exact H3.1};{rw[ae uY];exact H3.2}}};{rw[aL hs]at hd;obtain⟨p1,c1,rfl,-,V⟩:=hd;have R:O (mJ l=dN):=bO5 Qg (ae W▸hs);let⟨N,M,E,D,m,j,rf⟩:=(C0.H iD V).c6;have BB:=ai b0 V;go_wp2;exact cg (by simp[results,results122,go_sem,N,M,E,D,m,j]) rfl ⟨RH.no R _,si BB⟩}}}
def StP(w0 w:G)(b bs bn:Nat)(D:SD)(v:dV)(r:Ending)(w':G):Prop:=∃j NB m i,r=dR v/\PS w0 w' b bs bn D j NB m i/\Fr T3 w w'
def Fe(D:SD):Option Rq->Bool×SD
 |none=>(dF,D)
 |some o=>if(Vu D o).2.k=0 then(dY,(Vu D o).1)else(dF,D)
def VD.gd(h:VD D):GD D:=GD.of h.ok (QV h.ok h.gM h.cQ) h.g.1 h.x.1
theorem dq4{SB NB HB UB:iN}(h:O (PS w0 w b bs bn D SB NB HB UB))(hV:O (VD D))(en:Le l n)(hr:O (Rd w (.S p n c) l))(hb:O (aC l))(hn:n<=1000)(nE:n<=c)(ha:O (Jz w p c))(hM:O (ML w))(hT:O (qE w)){o:Option Rq}(ho:O (xD l o)){R:Bool×SD}(eR:O (Fe D o=R)):dQ dG 189 #[Pz b,.S p n c] w (StP w0 w b bs bn R.2 (.bool R.1)):=by
 go_in;go_wp2_with fail;cases o with
 |none=>
  refine(dM5 en hb af hT ho p c _ aD hr nE ha).h ?_;rintro r j⟨y,N,x,M,B,rfl,-,-,-,-,X⟩;have e:=ae eR;rw[Fe]at e;subst e;have P1:=ag ((h.H X).H ((aR (U j.heap) j).alloc aA (dO #[.I 0,.U 0,.S y 0 N,.I 0,.S x 0 M,.U 0,.U 0] 65)));have F1:=ag (Fr.H (T:=T3) (ai X ((aR (U j.heap) j).alloc aA (dO #[.I 0,.U 0,.S y 0 N,.I 0,.S x 0 M,.U 0,.U 0] 65))));clear X;go_wp2;go_ret;exact⟨_,_,_,_,rfl,P1,F1⟩
 |some o=>
  obtain⟨K,S,F,P,V⟩:=o;have E:qX l K S P F V:=ae ho;have HJ:=ag E.jo;have ud:=E.parts;let⟨bP,bV⟩:=E.byt hb;have hS:(0:Int)<=(S:Int)/\(S:Int)<2^64:=aK E.2.2.1;have UF:=ae en;refine(dM4 en hb af hT E p c _ aD hr nE ha).h ?_;rintro r j⟨y,N,x,M,B,rfl,-,oP,-,oV,X⟩;let⟨np,Eg⟩:=cG (J P);let⟨nv,env⟩:=cG (J V);rw[ae Eg]at oP⊢;rw[ae env]at oV⊢;obtain⟨W,hW,bW,zW,u,-⟩:=bQ j #[.I K,.U S,.S y np N,.I F,.S x nv M,.U 0,.U 0] 65;have b2:=ai X bW;have Co:np<=1000:=aK (ae Eg);have CX:=ag (show vm w0 W b bs bn D SB NB HB UB S F 0 0 y np N x nv M P V from⟨h.H b2,hV.gd,hS,Eg,env,(oP.H bW).rd,.R (oV.H bW).tb,bP,af,oP.cap,oP.GG,hM.H b2,λk h1 h2=>(ae hT k h1 h2).H b2⟩);have F2:=ag (Fr.H (T:=T3) b2);obtain⟨o0,o1,o2,o3,o4,o5,o6⟩:I W (Aw j 0)=dI K/\I W (Aw j 1)=dU S/\I W (Aw j 2)=dS y np N/\I W (Aw j 3)=dI F/\I W (Aw j 4)=dS x nv M/\I W (Aw j 5)=dU 0/\I W (Aw j 6)=dU 0:=⟨u.1 0 _ rfl,u.1 1 _ rfl,u.1 2 _ rfl,u.1 3 _ rfl,u.1 4 _ rfl,u.1 5 _ rfl,u.1 6 _ rfl⟩;clear X bW b2 oP oV u ud bP bV UF E ho;subst hW;go_wp2_with fail;refine(eH3 (K:=K) HJ CX).h ?_;rintro r s⟨D',R',C,⟨NF,NQ,xC,Ny,v3,rfl,F3,Z,L3⟩,hA,hk⟩;obtain⟨p1,c1,p2,c2,p3,c3,rfl⟩:=L3;have e:=ae eR;rw[Fe]at e;simp only[Vu]at e;rw[hA]at e;generalize(if C=0 then R' else js)=Rx at*;have FF:=ag (F2.Z F3);by_cases m:C=0;{rw[aM m]at Z;rw[aM m,aM (hk m)]at e;subst e;have P4:=ag (Z.H ((aR (U s.heap) s).alloc aA (dO #[.I Rx.k,.U Rx.i,.U Rx.e,.U Rx.g,.I Rx.n,.S p1 (J Rx.sL) c1,.S p2 (J Rx.nms) c2,.S p3 (J Rx.rZ) c3] 47)));have F4:=ag (FF.Z (Fr.H (T:=T3) ((aR (U s.heap) s).alloc aA (dO #[.I Rx.k,.U Rx.i,.U Rx.e,.U Rx.g,.I Rx.n,.S p1 (J Rx.sL) c1,.S p2 (J Rx.nms) c2,.S p3 (J Rx.rZ) c3] 47))));rw[qS,aM m];clear hA hk F3 Z m;go_wp2;go_ret;exact⟨_,_,_,_,rfl,P4,F4⟩};{rw[aL m]at Z;rw[aL m,aL (by simpa[ni]using m)]at e;subst e;have P4:=ag (Z.H ((aR (U s.heap) s).alloc aA (dO #[.I Rx.k,.U Rx.i,.U Rx.e,.U Rx.g,.I Rx.n,.S p1 (J Rx.sL) c1,.S p2 (J Rx.nms) c2,.S p3 (J Rx.rZ) c3] 47)));have F4:=ag (FF.Z (Fr.H (T:=T3) ((aR (U s.heap) s).alloc aA (dO #[.I Rx.k,.U Rx.i,.U Rx.e,.U Rx.g,.I Rx.n,.S p1 (J Rx.sL) c1,.S p2 (J Rx.nms) c2,.S p3 (J Rx.rZ) c3] 47))));rw[qS,aL m];clear hA hk F3 Z m;go_wp2;go_ret;exact⟨_,_,_,_,rfl,P4,F4⟩}
def Ji(w:G)(p:OA)(rs:List R1):Prop:=rs=[]\/∃b o,p=(Ad b o)/\(∃j m,w.heap[b]?=dO j 90 m)/\∀i r,rs[i]?=Y r->I w (Ad b (o+i*2))=dU r.1/\∃q d,I w (Ad b (o+i*2+1))=dS q (J r.2) d/\TB w (.S q (J r.2) d) r.2/\Jz w q d/\J r.2<=d
def Jz.size{q:OA}(h:Jz w q d)(i:U w.heap<=U w'.heap):Jz w' q d:=⟨h.1,λb o e=>ku (h.2 b o e) i⟩
def Ji.T{T:List TypeId}(h:Ji w p rs)(hf:Fr T w w')(ht:90∉T/\5∉T:=by decide):Ji w' p rs:=by
 obtain h|⟨b,o,e,⟨cur,m,hc⟩,h⟩:=h;{exact .L h};{have hk:=(hf.2 _ _ _ _ ht.1 hc).Z hc.C;refine .R ⟨b,o,e,⟨cur,m,hk.Z hc⟩,λi r hr=>?_⟩;let⟨h1,q,d,h2,h3,h4,h5⟩:=h i r hr;exact⟨(gj hk _).Z h1,q,d,(gj hk _).Z h2,h3.T hf ht.2,h4.size hf.1,h5⟩}
def Ji.H(h:Ji w p rs)(i:Bw w w'):Ji w' p rs:=h.T (Fr.H (T:=[]) i) (by simp)
def jT.rct{B:Nat}(h:jT B w (.S p n c) rs vs):Ji w p rs:=by
 obtain⟨e,y⟩|⟨g,N,M,e,Z,x,_,_,_,X⟩:=id h.row.2;{exact .L (Fp y)};{simp only[rj]at e;refine .R ⟨g,0,e.1,⟨_,_,x⟩,λi r m=>?_⟩;have W:i<J rs:=(bg.1 m).1;have u:i<J vs:=h.len▸W;have o:vs[i]?=Y vs[i]:=bD u;let⟨E,s⟩:=aj7 rs vs i r _ m o;obtain⟨rfl,rfl,rfl⟩:=e;have V:=L5 (w:=w) (base:=B) h.row (2*i) af;have R:=L5 (w:=w) (base:=B) h.row (2*i+1) af;have j:=h.own i r _ m o;let⟨q,d,D⟩:=j.form;rw[D]at j s;rw[mO,Xt i 2];exact⟨V.Z E,q,d,R.Z s,j.tb,j.Vw,j.cap⟩}
def Ji.at(h:Ji w p rs)(hr:rs[j]?=r):∃b o q d,p=(Ad b o)/\I w (Ad b (o+j*2))=dU r.1/\I w (Ad b (o+j*2+1))=dS q (J r.2) d/\TB w (.S q (J r.2) d) r.2/\Jz w q d/\J r.2<=d:=by
 obtain h|⟨b,o,e,-,h⟩:=h;{rw[h]at hr;simp at hr};{let⟨x,q,d,u,s,m,i⟩:=h j r hr;exact⟨b,o,q,d,e,x,u,s,m,i⟩}
def bM4{dop:LI->Option Rq}(h:r.1<=q):Az dop D q r=Y (D,q):=by rw[Az,aM h]
def aL9{dop:LI->Option Rq}(h:¬r.1<=q)(i:r.1≠q+1\/4611686018427387904<r.1):Az dop D q r=dN:=by rw[Az,aL h,aM i]
theorem bM5{dop:LI->Option Rq}(h:¬r.1<=q)(i:¬(r.1≠q+1\/4611686018427387904<r.1)):Az dop D q r=if(Fe D (dop r.2)).1 then Y ((Fe D (dop r.2)).2,r.1)else dN:=by
 rw[Az,aL h,aL i];cases dop r.2 with
 |none=>rfl
 |some o=>
  simp only[Fe];split<;>rfl
theorem dr9{o:Option Rq}(h:(Fe D o).1=dF):(Fe D o).2=D:=by
 cases o with
 |none=>rfl
 |some o=>
  simp only[Fe]at h⊢;split at h<;>simp_all
theorem dq1{SB NB HB UB:iN}(h:O (PS w0 w b bs bn D SB NB HB UB))(hG:O (GQ D q))(en:Le rs n)(hn:n<=2097152)(hR:O (Ji w p rs))(hg:O (∀r∈rs,VB r))(hM:O (ML w0))(hT:O (qE w0))(dop:LI->Option Rq)(hd:O (∀l,xD l (dop l))){R:SD×Int}(eR:O (rH dop D q rs=R)):dQ dG 123 #[Pz b,.S p n c,.U q] w (StP w0 w b bs bn R.1 (.U R.2)):=by
 go_in;go_wp2
 go_loopw[2,11](λqv iv wr=>∃(j:Nat)(q1:Int)(M:SD)(SB NB HB UB:iN),j<=n/\qv=.U q1/\iv=.I j/\O (rH dop M q1 (rs.drop j)=R/\GQ M q1)/\O (PS w0 wr b bs bn M SB NB HB UB)/\O (Fr T3 w wr)) (λ_ iv _=>n-(intOf iv).toNat)
 exact⟨0,q,D,SB,NB,HB,UB,cO _,rfl,rfl,ag ⟨by rw[rI];exact ae eR,hG⟩,h,ag (Fr.refl _ _)⟩;{
 obtain⟨j,q1,M,SB1,NB1,jr,UB1,hj,rfl,rfl,N,HP,HF⟩:=hrel;by_cases aH:j<n;{
 have cL:=bM j n;have oy:j<J rs:=ae en▸aH;let⟨r,hr⟩:=nR oy;have iH:=ae hg r (bu hr);obtain⟨rb,ro,rq,rd,rfl,c0,c1,tb,ad,cp⟩:=(hR.T HF).at hr;obtain⟨s,y⟩:=r;simp only at c0 c1 tb cp;have s0:0<=s:=iH.2.2.1;have s1:s<2^64:=iH.2.2.2;let⟨m,em⟩:=cG (J y);rw[ae em]at c1 tb cp;have hm:m<=1000:=ae em▸iH.2.1;have q0:=N.2.2.1;have q9:=N.2.2.2;have wj:IntKind.i64.wrap ((j:Int)+1)=((j+1:Nat):Int):=by rw[kP _ af];omega
 let⟨W,hW,bW,zW,CW,MI⟩:=bQ wr #[.U s,.S rq m rd] 90;have HBK:=ag MI;have d0:=CW.1 0 _ rfl;have d1:=CW.1 1 _ rfl;have V:=gI (HP.H bW) (HF.Z (Fr.H (T:=T3) bW)) (tb.1.H bW) (ad.size bW.size);have HS:=du hr iH.1 iH;clear oy iH tb ad bW zW CW hr MI;subst hW;by_cases h1:s<=q1;{have Z:O (rH dop M q1 (rs.drop (j+1))=R/\GQ M q1):=⟨by rw[<-N.1,aj0 HS.1 (bM4 h1)],N.2⟩;go_wp2;go_roundw;exact⟨j+1,q1,M,_,_,_,_,af,rfl,by go_num,Z,V.1,V.2.1⟩;exact cW};{
 have H1:O (q1<s):=by show _<_;omega
 go_wp2_with fail;refine(cv7 s0 s1 q0 af).h ?_;rintro z9 w2⟨rfl,rfl⟩;by_cases h2:s=q1+1;{
 have hf:sw q1 s:=by simp[sw,h2];omega
 rw[hf];have H2:=ag h2;clear h2 hf;by_cases h3:4611686018427387904<s;{
 have Z:O ((M,q1)=R):=by show _=_;rw[<-N.1,Ts HS.1 (aL9 (by have:=ae H1;simp only;omega) (.R h3))]
 obtain rfl:=ae Z;go_wp2;go_ret;exact⟨_,_,_,_,rfl,V.1,V.2.1⟩};{
 have tp:=bM5 (dop:=dop) (D:=M) (q:=q1) (r:=(s,y)) (by have:=ae H1;simp only;omega) (show¬((s,y).1≠q1+1\/4611686018427387904<(s,y).1)from by rw[Hw];exact⟨λh=>h H2,h3⟩);let⟨X,eX⟩:=cG (Fe M (dop y));simp only at tp;rw[ae eX]at tp;have kq:=ag tp;clear tp;go_wp2_with fail;refine(dq4 V.1 N.2.1 em V.2.2.1 HS.2.1 hm cp V.2.2.2 (hM.H V.1.be) (ag λk h1 h2=>(ae hT k h1 h2).H V.1.be) (ae hd y) eX).h ?_;rintro z9 w3⟨SB2,NB2,lh,UB2,rfl,P3,F3⟩;have VN:=ag P3;have HF3:=ag (V.2.1.Z F3);have d3:=cK (F3.2 _ _ _ _ bf HBK) 0;clear d0 d1;clear P3 F3;obtain⟨B,D2⟩:=X;cases B with
 |false=>
  have Z:O ((M,q1)=R):=by show _=_;rw[<-N.1,Ts HS.1 (by rw[ae kq];rfl)]
  obtain rfl:=ae Z;have eD:D2=M:=by have:=dr9 (D:=M) (o:=dop y) (by rw[ae eX]);rw[ae eX]at this;exact this
  rw[eD]at VN;clear eD N;go_wp2;go_ret;exact⟨_,_,_,_,rfl,VN,HF3⟩
 |true=>
  have bj:Az dop M q1 (s,y)=Y (D2,s):=by rw[ae kq];rfl
  have Z:O (rH dop D2 s (rs.drop (j+1))=R/\GQ D2 s):=⟨by rw[<-N.1,aj0 HS.1 bj],aL8 hd N.2 HS.2.2 bj⟩;clear bj;go_wp2;go_roundw;exact⟨j+1,s,D2,_,_,_,_,af,rfl,by go_num,Z,VN,HF3⟩;exact cW}};{
 have hf:sw q1 s=dF:=by simp[sw,h2]
 rw[hf];have Z:O ((M,q1)=R):=by show _=_;rw[<-N.1,Ts HS.1 (aL9 (by have:=ae H1;simp only;omega) (.L h2))]
 obtain rfl:=ae Z;go_wp2;go_ret;exact⟨_,_,_,_,rfl,V.1,V.2.1⟩}}};{
 have cL:=fq j n;have ejn:j=n:=af;have Z:O ((M,q1)=R):=by show _=_;rw[<-N.1,ejn,<-ae en,bR2]
 obtain rfl:=ae Z;clear N;go_wp2;go_ret;exact⟨_,_,_,_,rfl,HP,HF⟩}}
def KR(D:SD):fG:=⟨D.e,D.g,D.x,0,D.E.map ng,D.N.map pG⟩
def yW(dop:LI->Option Rq)(l0 l1:LI)(i:Bool):fG×Int×Int:=
 if i=dF then(rG,0,1)else match mJ l1 with
  |none=>(rG,0,13)
  |some x=>(KR (rH dop x.1 x.2 (rl l0)).1,(rH dop x.1 x.2 (rl l0)).2,0)
def ab5(B:Nat)(r:Ending)(w:G)(R:fG×Int×Int):Prop:=∃p c q d,r=dR (dT #[bS R.1.e R.1.g R.1.x R.1.t (.S p (J R.1.E) c) (.S q (J R.1.N) d),.U R.2.1,.I R.2.2])/\mY B w p (J R.1.E) c q (J R.1.N) d R.1.E R.1.N
def ab5.no{B:Nat}{R:fG×Int×Int}(h:O (R=(rG,0,C))):ab5 B (dR (dT #[bS 0 0 0 0 aq aq,.U 0,.I C])) w R:=by
 rw[ae h];exact⟨dN,0,dN,0,rfl,mY.zero _ _⟩
theorem cv9:∀(t:Option Int)(L:List (Option R1)),J (qg t L)<=J L
 |_,[]=>by simp[qg]
 |_,dN::_=>by simp[qg]
 |t,Y x::L=>by rw[qg];split;{have:=cv9 x.1 L;simp only[kJ];omega};{simp}
theorem bH4:∀(f:Nat)(l:LI),J (yl f l)<=f+1
 |0,l=>by simp[yl]
 |f+1,l=>by
  rw[yl];split;{simp};{
 next r _=>
 have:=bH4 f (l.drop (J r.2+14));simp only[kJ];omega}
def bR7:J (rl l)<=J l+2:=gv (cv9 _ _) (bH4 _ _)
def dG6{dop:LI->Option Rq}:yW dop l0 l1 dF=(rG,0,1):=rfl
def Py{dop:LI->Option Rq}(h:mJ l1=dN):yW dop l0 l1 dY=(rG,0,13):=by rw[yW,An,h]
def ao4{dop:LI->Option Rq}{x:SD×Int}(h:mJ l1=x){X:SD×Int}(e:rH dop x.1 x.2 (rl l0)=X):yW dop l0 l1 dY=(KR X.1,X.2,0):=by rw[yW,An,h,<-e]
theorem dM7(p0 p1 p2:OA)(n0 c0 n1 c1 n2 c2:Nat)(s0 s1 s2:Int)(l0 l1:LI)(e0:Le l0 n0)(e1:Le l1 n1)(w:G)(h0:Rd w (.S p0 n0 c0) l0)(h1:Rd w (.S p1 n1 c1) l1)(m0:Mg n0)(m1:Mg n1)(m2:Mg n2)(k0:n0<=c0)(k1:n1<=c1)(j0:O (c0<=maxLen))(j1:O (c1<=maxLen))(a0:O ((p0=dN/\c0=0)\/∃b o,p0=(Ad b o)))(a1:O ((p1=dN/\c1=0)\/∃b o,p1=(Ad b o)))(b0:O (aC l0))(b1:O (aC l1))(hM:ML w)(hT:qE w)(dop:LI->Option Rq)(hd:O (∀l,xD l (dop l)))(ok:Bool)(me:O (mU n0 s0 n1 s1 n2 s2=ok))(R:fG×Int×Int)(eR:O (yW dop l0 l1 ok=R)):dQ dG 62 #[mV (.S p0 n0 c0) s0 (.S p1 n1 c1) s1 (.S p2 n2 c2) s2] w λr w'=>ab5 (U w.heap) r w' R/\Bw w w':=by
 obtain⟨W0,cI,q0,z0,C0,-⟩:=bQ w #[.S p0 n0 c0,.I s0,.S p1 n1 c1,.I s1,.S p2 n2 c2,.I s2] 37;let⟨W1,fx,q1,z1,C1⟩:=Al W0;rw[z0]at C1 z1;have bW:=ai q0 q1;have M:=ag (λ(v:G)(hv:Bw W1 v)=>aF ((C0.H af q1).H af hv).c6 (aF (h0.H (ai bW hv)) (aF (h1.H (ai bW hv)) (aF (hM.H (ai bW hv)) (aF (show qE v fromλk i1 i2=>(hT k i1 i2).H (ai bW hv)) (ai bW hv))))));have HB:=ag C1;have HZ:=bG z0 z1;have BR:=ag (aR (U W1.heap) W1);go_in;go_wp2_with fail;rw[<-cI,<-fx];refine br (cg2 af af af) λw1 au=>?_;rw[ae me];have B1:=ag au;have X1:=ag (HB.H au);have fw:=au.size;cases ok with
 |false=>
  have HD:O (R=(rG,0,1)):=by show _=_;rw[<-ae eR];rfl
  let⟨r0,r1,r2,r3,r4,r5,rf⟩:=X1.cells;have BB:=(ae M w1 B1).2.2.2.2.2;go_wp2;exact cg (by simp[results,results62,go_sem,r0,r1,r2,r3,r4,r5]) rfl ⟨ab5.no HD,si BB⟩
 |true=>
  obtain⟨⟨i0,i1,i2,i3,i4,i5,-⟩,-⟩:=ae M w1 B1;go_wp2_with fail;refine(dG9 e1 (ae M w1 B1).2.2.1 b1 m1 k1 j1 a1 (ae M w1 B1).2.2.2.1).h ?_;rintro r w2⟨⟨D,q,C,p,c,p',d,rfl,hS,hN,Io⟩,ay⟩;let⟨n,en⟩:=cG (J D.E);let⟨m,em⟩:=cG (J D.N);rw[ae en]at hS⊢;rw[ae em]at hN⊢;obtain⟨W3,jI,b3,z3,C3,-⟩:=bQ w2 #[.U D.e,.U D.g,.U D.x,.I D.t,.S p n c,.S p' m d] 41;have B3:=ag (ai B1 (ai ay b3));have X3:=ag ((X1.H ay).H b3);have GY:=bG (hS.H b3) (hN.H b3);have Of:=ag C3;have HO:=ag Io;have PK:U w2.heap<U W3.heap:=af;have PJ:U w.heap+1<U W3.heap:=by have:=HZ.2;have:=ay.size;omega
  obtain⟨fo,rfl⟩|⟨fo,rfl⟩:=ae HO;{
 have HD:O (R=(rG,0,13)):=by show _=_;rw[<-ae eR];exact Py fo
 let⟨r0,r1,r2,r3,r4,r5,rf⟩:=X3.cells;have BB:=(ae M W3 B3).2.2.2.2.2;subst jI;go_wp2;exact cg (by simp[results,results62,go_sem,r0,r1,r2,r3,r4,r5]) rfl ⟨ab5.no HD,si BB⟩};{
 have E:=ag (aM7 b1 (ae e1▸m1) fo);let⟨X,eX⟩:=cG (rH dop D q (rl l0));have HD:O (R=(KR X.1,X.2,0)):=by show _=_;rw[<-ae eR];exact ao4 fo eX
 have HGX:O (GQ X.1 X.2):=by show GQ X.1 X.2;rw[<-ae eX];exact aj1 hd _ E (aj3 b0)
 obtain⟨⟨i0,i1,i2,i3,i4,i5,-⟩,-⟩:=ae M W3 B3;obtain⟨k0',k1',k2',k3',k4',k5',-⟩:=Of.c6;have W:=bG PJ PK;subst jI;go_wp2_with fail;let⟨W3,jI⟩:=aG (w2.alloc (dO #[.U D.e,.U D.g,.U D.x,.I D.t,.S p n c,.S p' m d] 41));rw[<-jI]at B3 X3 GY Of W⊢;refine(cg4 (ae M W3 B3).2.1 b0 e0 m0 k0 j0 a0).h ?_;rintro r w4⟨pr,cr,vs,rfl,Io,cT⟩;let⟨nr,KL⟩:=cG (J (rl l0));obtain⟨tk,etk⟩:∃k,(jU (rl l0):Int)=k:=⟨_,rfl⟩;have RC4:=ag Io.rct;have hnr:O (nr<=2097152):=by show _<=_;rw[<-ae KL];exact gv (bR7) (by rw[ae e0];omega)
 rw[ae KL,etk];have B4:=ag (ai B3 cT);have X4:=ag (X3.H cT);have VK:=bG (GY.1.H cT) (GY.2.H cT);have FE:=cT.size;obtain⟨k0',k1',k2',k3',k4',k5',-⟩:=(Of.H W.2 cT).c6;go_wp2_with fail;have HF:=ag E.1.Gr;refine(Ws en em VK.1 VK.2 (by rw[<-ae en];have:=E.1.sl;omega) (by rw[<-ae em];have:=E.1.nl;omega) (ag λs hs=>(HF.s2 s hs).1) HF.s3 E.1.cQ E.1.og HF.n3).h ?_;rintro r w5⟨b,bs,bn,SB,NB,xC,UB,rfl,bj,cY⟩;have P5:=ag (PS.of bj cY HF (aK E.1.sl) (aK E.1.nl));have X5:=ag (X4.H cY);have RC5:=ag (RC4.H cY);have VI:=ag (ae M w4 B4);have HL:=bG FE cY.size;go_wp2_with fail;refine(dq1 P5 E KL hnr RC5 (aj3 b0) VI.2.2.2.1 VI.2.2.2.2.1 dop hd eX).h ?_;rintro r w6⟨SB6,NB6,HB6,UB6,rfl,P6,F6⟩;have HP6:=ag P6;have X6:=ag (X5.T F6);have HF6:=ag F6;have HFX:=ag HGX.1.Gr;go_wp2_with fail;refine(cv6 HP6 (KD.of HFX) HFX.s3).h ?_;rintro r w7⟨P7,F7,v7,rfl⟩;have j:=ag P7;have X7:=ag (X6.T F7);have HF7:=ag (HF6.Z F7);let⟨nx,N⟩:=cG (KR X.1).E.length;let⟨mx,V⟩:=cG (KR X.1).N.length;go_wp2_with fail;have Z:=ag (df5 (HGX.1.re (DK _) HGX.1.e.2 (d:=0) (t:=0) ⟨DK 0,TK _⟩ ⟨DK 0,TK _⟩) j);dsimp only at Z;rw[show J (List.map (λs:aB=>(s.1,(0:Int),([]:List Ev))) X.1.E)=nx from ae N,show J (List.map pG X.1.N)=mx from ae V]at Z;refine Z.h ?_;rintro r w8⟨p8,c8,q8,d8,rfl,hs8,zO⟩;have X8:=X7.H zO;let⟨r0,r1,r2,r3,r4,r5,rf⟩:=X8.cells;have BB:Bw w w8:=(VI.2.2.2.2.2.Z (j.be.h (aK VI.2.2.2.2.2.size))).Z (zO.h (by have:=j.be.size;have:=VI.2.2.2.2.2.size;omega));have H8:=ag ((hs8.W (w':=gu w8 (U w.heap+1) (.U X.1.e) (.U X.1.g) (.U X.1.x) (.I 0) (.S p8 nx c8) (.S q8 mx d8)) (λy h1 h2=>Fg (by have:=j.be.size;have:=HL.1;have:=W.1;omega))).h (B':=U w.heap) (by have:=j.be.size;have:=VI.2.2.2.2.2.size;omega));go_wp2;refine cg (v:=dT #[bS X.1.e X.1.g X.1.x 0 (.S p8 nx c8) (.S q8 mx d8),.U X.2,.I 0]) (by simp[results,results62,go_sem,r0,r1,r2,r3,r4,r5]) rfl ⟨?_,si BB⟩;rw[ae HD];refine⟨p8,c8,q8,d8,?_,?_⟩;{simp only[ae N,ae V];rfl};{simp only[ae N,ae V];exact ae H8}}
abbrev vt(v0:dV)(n0:Int)(v1:dV)(n1:Int)(v2:dV)(n2:Int)(e g x t:Int)(S N:dV)(q:Int):dV:=.agg #[v0,.I n0,v1,.I n1,v2,.I n2,.U e,.U g,.U x,.I t,S,N,.U q]
def cQ1(w:G)(V:dV)(B:LI)(L:Nat):Prop:=∀v,Bw w v->dQ dG 64 #[V] v λr i=>∃j m,r=dR (.S j L m)/\Own (U v.heap) i (.S j L m) B/\Bw v i
abbrev SvS(w:G)(b:Nat)(q e g x t:Int)(S N:dV):Prop:=I w (Ad b 12)=dU q/\I w (Ad b 6)=dU e/\I w (Ad b 7)=dU g/\I w (Ad b 8)=dU x/\I w (Ad b 9)=dI t/\I w (Ad b 10)=S/\I w (Ad b 11)=N
structure Dk where
 l0:LI
 n0:Int
 l1:LI
 n1:Int
 l2:LI
 n2:Int
def Dk.ok(D:Dk):Prop:=mU (J D.l0) D.n0 (J D.l1) D.n1 (J D.l2) D.n2=dY
def Dk.ok.len{D:Dk}(h:D.ok):J D.l0<=200000/\J D.l1<=200000/\J D.l2<=200000:=by
 unfold Dk.ok mU at h;simp only[gL]at h;exact⟨(ax6 h.1.1).1,(ax6 h.1.2).1,(ax6 h.2).1⟩
def uo(b:Nat)(w v:G):Prop:=U w.heap<=U v.heap/\∀k,k<U w.heap->k≠b->v.heap[k]?=w.heap[k]?
def uo.H{w v u:G}(h:uo b w v)(j:Bw v u):uo b w u:=⟨gv h.1 j.size,λk i m=>(j.block k (ku i h.1)).Z (h.2 k i m)⟩
def uo.set(h:uo b w v)(o:Nat)(x:dV):uo b w (v.setCell (Ad b o) x):=⟨by simpa using h.1,λk j i=>(Pc _ _ _ _ i).Z (h.2 k j i)⟩
def uo.cell(h:uo b w v){o:Nat}(i:k≠b)(hc:I w (Ad k o)=x):I v (Ad k o)=x:=by
 have j:=jO w _ hc;have:=h.2 k j i;simp only[World.cell?]at hc⊢;rw[this];exact hc
def bw6(w:G)(V:dV)(e g x t:Int)(ss:List aB)(ns:List ar):Prop:=∀v,Bw w v->Cp 69 #[V] v λz i=>∃b,z=dR (Pz b)/\Bw v i/\Cp 70 #[Pz b] i λz j=>∃p c q d,z=dR (bS e g x t (.S p (J ss) c) (.S q (J ns) d))/\mY (U i.heap) j p (J ss) c q (J ns) d ss ns/\Bw i j
abbrev Lj(w:G)(b:Nat)(v0 v1 v2 v3 v4 v5:dV)(q e g x t:Int)(S N:dV):Prop:=nT w b v0 v1 v2 v3 v4 v5/\SvS w b q e g x t S N
def Lj.ex{K:Nat}{e g x:Int}{S N:dV}(h:Lj w b v0 v1 v2 v3 v4 v5 q e g x t S N)(i:uo K w v)(j:b≠K):Lj v b v0 v1 v2 v3 v4 v5 q e g x t S N:=by
 obtain⟨⟨W,V,R,M,E,D⟩,B,y,u,s,r,o,m⟩:=h;exact⟨⟨i.cell j W,i.cell j V,i.cell j R,i.cell j M,i.cell j E,i.cell j D⟩,i.cell j B,i.cell j y,i.cell j u,i.cell j s,i.cell j r,i.cell j o,i.cell j m⟩
def CpR(w:G)(D:Dk)(e g x t:Int)(ss:List aB)(ns:List ar)(q:Int)(z:Ending)(w':G):Prop:=∃m u j s i o p c r d,z=dR (vt (.S m (J D.l0) u) D.n0 (.S j (J D.l1) s) D.n1 (.S i (J D.l2) o) D.n2 e g x t (.S p (J ss) c) (.S r (J ns) d) q)/\∃B,U w.heap<=B/\ko (U w.heap) w' (.S m (J D.l0) u) (.S j (J D.l1) s) (.S i (J D.l2) o) D.l0 D.l1 D.l2/\(∀b,(Value.slice m (J D.l0) u).ownBlock=Y b\/(Value.slice j (J D.l1) s).ownBlock=Y b\/(Value.slice i (J D.l2) o).ownBlock=Y b->b<B)/\mY B w' p (J ss) c r (J ns) d ss ns/\Bw w w'
def dd9(V N M:OA)(c0 c1 Z:Nat)(D:Dk)(e g x t q:Int)(p r:OA)(n c m d:Nat)(ss:List aB)(ns:List ar)(w:G)(hC:O (bw6 w (bS e g x t (.S p n c) (.S r m d)) e g x t ss ns))(h0:Rd w (.S V (J D.l0) c0) D.l0)(h1:Rd w (.S N (J D.l1) c1) D.l1)(h2:Rd w (.S M (J D.l2) Z) D.l2)(m0:J D.l0<=200000)(m1:J D.l1<=200000)(m2:J D.l2<=200000):dQ dG 25 #[vt (.S V (J D.l0) c0) D.n0 (.S N (J D.l1) c1) D.n1 (.S M (J D.l2) Z) D.n2 e g x t (.S p n c) (.S r m d) q] w (CpR w D e g x t ss ns q):=by
 obtain⟨W,hW,b1,z1,C1,-⟩:=bQ w #[.S V (J D.l0) c0,.I D.n0,.S N (J D.l1) c1,.I D.n1,.S M (J D.l2) Z,.I D.n2,.U e,.U g,.U x,.I t,.S p n c,.S r m d,.U q] 43;let⟨W2,fE,b2,z2,u,T2⟩:=bQ W #[aq,.I 0,aq,.I 0,aq,.I 0,.U 0,.U 0,.U 0,.I 0,aq,aq,.U 0] 43;go_in;go_wp2_with fail;rw[<-hW,<-fE];clear hW fE;have bb:=ai b1 b2;rw[z1]at u;have HC:=ag (λ(v:G)(X:Bw W2 v)=>(λj=>(⟨⟨j.1 0 _ rfl,j.1 1 _ rfl,j.1 2 _ rfl,j.1 3 _ rfl,j.1 4 _ rfl,j.1 5 _ rfl⟩,j.1 12 _ rfl,j.1 6 _ rfl,j.1 7 _ rfl,j.1 8 _ rfl,j.1 9 _ rfl,j.1 10 _ rfl,j.1 11 _ rfl⟩:Lj v (U w.heap) (.S V (J D.l0) c0) (.I D.n0) (.S N (J D.l1) c1) (.I D.n1) (.S M (J D.l2) Z) (.I D.n2) q e g x t (.S p n c) (.S r m d))) ((C1.H af b2).H af X));have HR:=ag (λ(v:G)(X:Bw W2 v)=>aF (h0.H (ai bb X)) (aF (h1.H (ai bb X)) (aF (h2.H (ai bb X)) (u.H af X))));have BV:=ag (aR (U W2.heap) W2).drew;clear C1 u h0 h1 h2;refine fk (λv=>Lj v (U w.heap) (.S V (J D.l0) c0) (.I D.n0) (.S N (J D.l1) c1) (.I D.n1) (.S M (J D.l2) Z) (.I D.n2) q e g x t (.S p n c) (.S r m d)) (by exact HC _ BV) λhS=>?_;let⟨v,dz⟩:=aG W2.drew;rw[<-dz]at BV hS⊢;clear dz;refine iC 0 1 4 5 hS ?_;refine fO 8 9 hS ?_;refine ew 2 (λs hK=>?_);refine jg (bn5 V N M c0 c1 Z rfl rfl rfl) ?_;rintro z v1⟨rfl,au⟩;refine⟨_,rfl,?_⟩;have y:=ag (ai BV au);refine bL hK (by exact HC _ y) λhS=>?_;clear hK s au BV;refine ew 3 (λs hK=>?_);refine jg (cx5 (ae HR _ y).1 (ae HR _ y).2.1 (ae HR _ y).2.2.1 af af af) ?_;rintro z v2⟨P0,C0,P1,C1,P2,u,rfl,O3,ay⟩;refine⟨_,rfl,?_⟩;have B2:=ag (ai y ay);have O2:=ag (O3.h y.size);have L2:=ag (λb(h:(Value.slice P0 (J D.l0) C0).ownBlock=Y b\/(Value.slice P1 (J D.l1) C1).ownBlock=Y b\/(Value.slice P2 (J D.l2) u).ownBlock=Y b)=>show b<U v2.heap by obtain h|h|h:=h;{exact(Own.lt O3.o0 b h).2};{exact(Own.lt O3.o1 b h).2};{exact(Own.lt O3.o2 b h).2})
 refine bL hK (by exact HC _ B2) λhS=>?_;clear hK s ay y O3;refine ew 6 (λs hK=>?_);refine jg (ae hC _ (ai bb B2)) ?_;rintro z v3⟨sb,rfl,aI,HS⟩;refine⟨_,rfl,?_⟩;have B3:=ag (ai B2 aI);have z23:=ag aI.size;have O4:=ag (O2.H aI);have kq:=ag HS;refine bL hK (by exact HC _ B3) λhS=>?_;clear hK s aI B2 O2 HS;refine ew 7 (λs hK=>?_);refine jg kq ?_;rintro z v4⟨Ps,Cs,Pn,Cn,rfl,SO,cT⟩;refine⟨_,rfl,?_⟩;have B4:=ag (ai B3 cT);have O5:=ag (O4.H cT);have SO2:=ag SO;refine bL hK (by exact HC _ B4) λhS=>?_;clear hK s cT O4 kq SO;refine tn 10 hS ?_;refine ew 11 (λs hK=>?_);have ZC:=(ae HR _ B4).2.2.2;have nf:=ZC.2;let⟨n0,n1,n2,n3,n4,n5,n6,n7,n8,n9,na,nb,nc⟩:=eM6 ZC.1;go_simp;have EX:=λ(x0 x1 x2 x3 x4 x5 x6 x7 x8 x9 xd xe xf:dV)=>((((((((((((((show uo (U w.heap+1) v4 v4 from⟨eG _,λ_ _ _=>rfl⟩).set 0 x0).set 1 x1).set 2 x2).set 3 x3).set 4 x4).set 5 x5).set 6 x6).set 7 x7).set 8 x8).set 9 x9).set 10 xd).set 11 xe).set 12 xf);have B4s:=ag B4.size;have B3s:=ag B3.size;refine bL hK (by exact Lj.ex (ae HC _ B4) (EX _ _ _ _ _ _ _ _ _ _ _ _ _) af) λhS=>?_;clear hK s hS;refine fy ?_;go_wp2;refine cg (v:=vt (.S P0 _ C0) _ (.S P1 _ C1) _ (.S P2 _ u) _ e g x t (.S Ps _ Cs) (.S Pn _ Cn) q) (by simp[results,results25,go_sem,n0,n1,n2,n3,n4,n5,n6,n7,n8,n9,na,nb,nc]) rfl ⟨P0,C0,P1,C1,P2,u,Ps,Cs,Pn,Cn,rfl,U v3.heap,aK (ae B3s),?_,λb h=>ku (ae L2 b h) z23,?_,?_⟩;{
 refine ko.h (B:=U W2.heap) ?_ af
 iterate 13 refine ko.set ?_ bq _
 exact O5};{refine mY.W SO2 λb au ay=>(EX _ _ _ _ _ _ _ _ _ _ _ _ _).2 b ay (aK (ae B3s))};{
 iterate 13 refine ri ?_ aj _
 exact ai bb B4}
def NR(r:Ending)(w:G)(R:fG×Int×Int):Prop:=∃p c q d,r=dR (dT #[bS R.1.e R.1.g R.1.x R.1.t (.S p (J R.1.E) c) (.S q (J R.1.N) d),.U R.2.1,.I R.2.2])/\lI w (.S p (J R.1.E) c) R.1.E/\gJ w (.S q (J R.1.N) d) R.1.N
def NR.no{R:fG×Int×Int}(h:O (R=(rG,0,C))):NR (dR (dT #[bS 0 0 0 0 aq aq,.U 0,.I C])) w R:=by
 rw[ae h];exact⟨dN,0,dN,0,rfl,(WK).rd,WL⟩
def Ry(w:G)(sb:Nat)(D:SD):Prop:=∃p c q d,BX w sb [.U D.e,.U D.g,.U D.x,.I D.t,.S p (J D.E) c,.S q (J D.N) d]/\lI w (.S p (J D.E) c) D.E/\gJ w (.S q (J D.N) d) D.N
def Ry.H(h:Ry w sb D)(i:Bw w w'):Ry w' sb D:=by
 obtain⟨p,c,q,d,o,m,j⟩:=h;exact⟨p,c,q,d,o.H i,m.H i,j.H i⟩
theorem dh6{q:OA}(R:J l=n)(M:aC l)(E:Mg n)(hr:Rd w (.S q n d) l)(D:n<=d)(N:Jz w q d){o:Option Rq}(y:xD l o):Cp 91 #[.S q n d] w λr w'=>∃(K S F:Nat)(P V:LI)(m:OA)(i:Nat)(j:OA)(u:Nat)(C:Int),r=dR (dT #[lM K S (.S m (J P) i) F (.S j (J V) u) 0 0,.I C])/\(Rd w' (.S m (J P) i) P/\Rd w' (.S j (J V) u) V/\J P<=i/\i<=maxLen)/\Bw w w'/\((o=dN/\C=13)\/(o=Y (K,S,F,P,V)/\C=0)):=by
 cases o with
 |none=>
  refine(dh4 R M E y q d w aD hr D N).h ?_;rintro r w'⟨m,i,j,u,B,rfl,-,s,-,oV,x⟩;exact⟨0,0,0,[],[],m,i,j,u,13,rfl,⟨s.rd,oV.rd,cO _,s.GG⟩,x,.L ⟨rfl,rfl⟩⟩
 |some o=>
  obtain⟨K,S,F,P,V⟩:=o;refine(dh2 R M E y q d w aD hr D N).h ?_;rintro r w'⟨m,i,j,u,B,rfl,-,s,-,oV,x⟩;exact⟨K,S,F,P,V,m,i,j,u,0,rfl,⟨s.rd,oV.rd,s.cap,s.GG⟩,x,.R ⟨rfl,rfl⟩⟩
theorem di0(p0 p1 p2:OA)(n0 c0 n1 c1 n2 c2:Nat)(s0 s1 s2:Int)(l0 l1:LI)(e0:Le l0 n0)(e1:Le l1 n1)(w:G)(h0:Rd w (.S p0 n0 c0) l0)(h1:Rd w (.S p1 n1 c1) l1)(m0:Mg n0)(m1:Mg n1)(m2:Mg n2)(k0:n0<=c0)(k1:n1<=c1)(j0:O (c0<=maxLen))(j1:O (c1<=maxLen))(a1:O ((p1=dN/\c1=0)\/∃b o,p1=(Ad b o)))(b0:O (aC l0))(b1:O (aC l1))(dop:LI->Option Rq)(hd:O (∀l,xD l (dop l)))(ok:Bool)(me:O (mU n0 s0 n1 s1 n2 s2=ok))(R:fG×Int×Int)(eR:O (yW dop l0 l1 ok=R)):dQ dG 47 #[mV (.S p0 n0 c0) s0 (.S p1 n1 c1) s1 (.S p2 n2 c2) s2] w λr w'=>NR r w' R/\Bw w w':=by
 obtain⟨W0,cI,q0,z0,C0,-⟩:=bQ w #[.S p0 n0 c0,.I s0,.S p1 n1 c1,.I s1,.S p2 n2 c2,.I s2] 37;let⟨W1,fx,q1,z1,C1⟩:=Al W0;rw[z0]at C1 z1;have bW:=ai q0 q1;have HA:=ag (λ(v:G)(hv:Bw W1 v)=>aF ((C0.H af q1).H af hv).c6 (aF (h0.H (ai bW hv)) (aF (h1.H (ai bW hv)) (aF (C1.H hv) (ai bW hv)))));have HZ:=bG z0 z1;clear q0 q1 C0 C1 bW h0 h1 z0 z1;go_in;go_wp2_with fail;rw[<-cI,<-fx];clear cI fx;refine br (bN1 af af af) λw1 au=>?_;rw[ae me];have B1:=ag au;have fw:=au.size;clear au me;cases ok with
 |false=>
  have N:O (R=(rG,0,1)):=by show _=_;rw[<-ae eR];rfl
  let⟨r0,r1,r2,r3,r4,r5,rf⟩:=(ae HA w1 B1).2.2.2.1.cells;have BB:=(ae HA w1 B1).2.2.2.2;clear fw;go_wp2;exact cg (by simp[results,results47,go_sem,r0,r1,r2,r3,r4,r5]) rfl ⟨NR.no N,si BB⟩
 |true=>
  let⟨W2,fE,b2,z2,C2⟩:=Al w1;have B2:=ag (ai B1 b2);let⟨sb,zl⟩:=aG (U w1.heap);rw[<-zl]at C2;have xA:=ag C2;have Yd:O (U w.heap+2<=sb/\sb<U W2.heap):=⟨aK HZ.2,af⟩;obtain⟨⟨i0,i1,i2,i3,i4,i5,-⟩,-⟩:=ae HA W2 B2;clear fw b2 z2 C2 B1;subst fE
  go_upto_if 28 with fail
  clear i0 i1 i2 i3 i4 i5;rw[<-zl];let⟨W2,fE⟩:=aG (w1.alloc (dO #[.U 0,.U 0,.U 0,.I 0,aq,aq] 41));rw[<-fE]at B2 xA Yd⊢;clear fE zl
  go_cut[6](λsv wc=>∃(D:SD)(q:Int),sv=.U q/\O (mJ l1=Y (D,q))/\O (Ry wc sb D)/\O (Bw W1 wc/\sb<U wc.heap))
  case first=>(
 by_cases zF:n1=0;{
 have nF:¬(0:Int)<(n1:Int):=af;have N:O (mJ l1=Y (⟨0,0,0,0,[],[]⟩,0)):=by show _=_;rw[mJ,aM (ae e1▸zF)]
 clear zF;go_wp2_with fail;go_meet;exact⟨⟨0,0,0,0,[],[]⟩,0,rfl,N,ag ⟨dN,0,dN,0,xA,(WK).rd,WL⟩,ag ⟨B2,Yd.2⟩⟩};{
 have nF:=qV 0 n1;obtain⟨⟨i0,i1,i2,i3,i4,i5,-⟩,-⟩:=ae HA W2 B2;go_wp2_with fail;clear i0 i1 i2 i3 i4 i5;by_cases QO:n1<20;{
 refine(di3 QO).h ?_;rintro r w3⟨p3,c3,rfl,-,aI⟩;have N:O (R=(rG,0,13)):=by show _=_;rw[<-ae eR];exact Py (bO4 (ae e1▸zF) (ae e1▸QO))
 let⟨r0,r1,r2,r3,r4,r5,rf⟩:=(ae HA w3 (ai B2 aI)).2.2.2.1.cells;have BB:=(ae HA w3 (ai B2 aI)).2.2.2.2;clear aI;go_wp2;exact cg (by simp[results,results47,go_sem,r0,r1,r2,r3,r4,r5]) rfl ⟨NR.no N,si BB⟩};{
 obtain⟨pb,po,rfl⟩:∃b o,p1=(Ad b o):=by obtain⟨-,h⟩|h:=ae a1;{omega};{exact h}
 have Qg:¬J l1<20:=ae e1▸QO;refine(di4 e1 (ae HA W2 B2).2.2.1 b1 af m1 k1 j1).h ?_;intro r w3 YG;unfold Oh at YG;by_cases hs:qJ (num (sub l1 4 12)) (sub l1 16 (n1-4))=l1;{
 rw[aM hs]at YG;obtain⟨p3,c3,rfl,o3,aI⟩:=YG;let⟨q,eq⟩:=aY (num (sub l1 4 12));have hq:=Fl (b1.sub 4 12) (by simp[sub];omega);let⟨B,eB⟩:=aY (sub l1 16 (n1-4));have xm:O (J B=n1-20):=by show _=_;rw[<-eB,yG (by rw[ae e1];omega)];omega
 have ya:O (aC B):=by show aC B;rw[<-eB];exact b1.sub _ _
 rw[eq]at hq;rw[eB]at o3;rw[eq];have HS:O (mJ l1=if 4611686018427387904<q then dN else(jM B).map λr=>(⟨r.1.1,r.1.2.1,r.1.2.2,0,r.2.1,r.2.2⟩,q)):=by show _=_;by_cases hb:4611686018427387904<q;{rw[aM hb,bO6 Qg (eq▸hb)]};{rw[aL hb,bO3 Qg (ae e1▸hs) (eq▸hb),ae e1,eq,eB]}
 have B3:=ag (ai B2 aI);have X3:=ag (xA.H aI);have PK:=aI.size;by_cases Qx:4611686018427387904<q;{
 have N:O (R=(rG,0,13)):=by show _=_;rw[<-ae eR];exact Py (by rw[ae HS,aM Qx])
 let⟨r0,r1,r2,r3,r4,r5,rf⟩:=(ae HA w3 B3).2.2.2.1.cells;have BB:=(ae HA w3 B3).2.2.2.2;go_wp2;exact cg (by simp[results,results47,go_sem,r0,r1,r2,r3,r4,r5]) rfl ⟨NR.no N,si BB⟩};{
 have vP:=ae HS;rw[aL Qx]at vP;have kq:=ag vP;have HO:=bG o3.rd o3.cap;have HZ3:=ag PK;go_wp2_with fail;refine(di5 xm HO.1 ya af HO.2).h ?_;rintro r w4⟨⟨ps,cs,pn,cn,rfl,AR⟩,cT⟩;have B4:=ag (ai B3 cT);have X4:=ag (X3.H cT);have FE:=cT.size;cases hP:jM B with
 |none=>
  have N:O (R=(rG,0,13)):=by show _=_;rw[<-ae eR];exact Py (by rw[ae kq,hP];rfl)
  simp only[Gz,GC,rG,yS];obtain⟨W5,Gk,b5,z5,C5,-⟩:=bQ w4 #[.U 0,.U 0,.U 0,.I 0,.S ps 0 cs,.S pn 0 cn] 41;let⟨r0,r1,r2,r3,r4,r5,rf⟩:=(ae HA W5 (ai B4 b5)).2.2.2.1.cells;have BB:=(ae HA W5 (ai B4 b5)).2.2.2.2;subst Gk;go_wp2;exact cg (by simp[results,results47,go_sem,r0,r1,r2,r3,r4,r5]) rfl ⟨NR.no N,si BB⟩
 |some s=>
  have N:O (mJ l1=Y (⟨s.1.1,s.1.2.1,s.1.2.2,0,s.2.1,s.2.2⟩,q)):=by show _=_;rw[ae kq,hP];rfl
  rw[hP]at AR;simp only[Gz,GC]at AR⊢;obtain⟨⟨e,g,x⟩,ss,ns⟩:=s;simp only at AR N⊢;let⟨n,en⟩:=cG (J ss);let⟨m,em⟩:=cG (J ns);rw[ae en,ae em]at AR⊢;obtain⟨W5,Gk,b5,z5,C5,-⟩:=bQ w4 #[.U e,.U g,.U x,.I 0,.S ps n cs,.S pn m cn] 41;have X5:=X4.H b5;let⟨r0,r1,r2,r3,r4,r5,rf⟩:=X5.cells;obtain⟨t0,t1,t2,t3,t4,t5,-⟩:=C5.c6;let⟨Z,hZ⟩:=aG (gu W5 sb (.U e) (.U g) (.U x) (.I 0) (.S ps n cs) (.S pn m cn));have XZ:=X5.put (.U e) (.U g) (.U x) (.I 0) (.S ps n cs) (.S pn m cn);have fQ:sb<U w3.heap:=ku Yd.2 HZ3;have RZ:=(AR.W (w':=Z) (λy h1 h2=>by rw[hZ];exact(Fg af).Z (b5.block y h2))).Ty;have BZ:Bw W1 Z:=by rw[hZ];exact(ai (ae B4) b5).Z ((tR _ _ _ _ _ _ _).h (by have:=Yd.1;have:=HZ.2;omega))
  have zZ:sb<U Z.heap:=by rw[hZ,Tz];omega
  rw[<-hZ]at XZ;have HN:=gI XZ RZ BZ zZ;subst Gk;unfold gu at hZ;go_wp2_with fail;rw[<-hZ];go_meet;refine⟨⟨e,g,x,0,ss,ns⟩,q,rfl,N,ag ⟨ps,cs,pn,cn,?_,?_,?_⟩,HN.2.2⟩;{simp only[ae en,ae em];exact HN.1};{simp only[ae en];exact HN.2.1.1.rd};{simp only[ae em];exact HN.2.1.2}}};{
 rw[aL hs]at YG;obtain⟨p3,c3,rfl,-,aI⟩:=YG;have N:O (R=(rG,0,13)):=by show _=_;rw[<-ae eR];exact Py (bO5 Qg (ae e1▸hs))
 let⟨r0,r1,r2,r3,r4,r5,rf⟩:=(ae HA w3 (ai B2 aI)).2.2.2.1.cells;have BB:=(ae HA w3 (ai B2 aI)).2.2.2.2;go_wp2;exact cg (by simp[results,results47,go_sem,r0,r1,r2,r3,r4,r5]) rfl ⟨NR.no N,si BB⟩}}})
  case rest=>(
 obtain⟨D,q,rfl,HS,HV,HW⟩:=hcut;have HG:=ag (aM7 b1 (ae e1▸m1) HS);have N:O (∀X:SD×Int,rH dop D q (rl l0)=X->R=(KR X.1,X.2,0)):=λX e=>by rw[<-ae eR];exact ao4 HS e
 obtain⟨⟨i0,i1,i2,i3,i4,i5,-⟩,-⟩:=ae HA wc HW.1;go_wp2_with fail;refine(bN2 (ae HA wc HW.1).2.1 b0 e0 m0 k0 j0).h ?_;rintro r w4⟨pr,cr,vs,rfl,Io,cT⟩;let⟨nr,KL⟩:=cG (J (rl l0));obtain⟨tk,etk⟩:∃k,(jU (rl l0):Int)=k:=⟨_,rfl⟩;have RC:=ag Io.rct;have hnr:nr<=2097152:=by rw[<-ae KL];exact gv (bR7) (by rw[ae e0];omega)
 rw[ae KL,etk];have HI:=bG (HV.H cT) (ai HW.1 cT);have HL:=bG cT.size HW.2;have Sn:=ag (aj3 b0);let⟨rs,Ee⟩:=aY (rl l0);rw[Ee]at N RC Sn KL
 go_upto_block 0 with fail
 let⟨X,eX⟩:=cG (rH dop D q rs);have HDX:=ag (ae N X eX);have HGX:O (GQ X.1 X.2):=by show GQ X.1 X.2;rw[<-ae eX];exact aj1 hd _ HG Sn
 clear N
 go_cut[6]from 61 to 106 (λqv wc=>qv=.U X.2/\O (Ry wc sb X.1)/\O (Bw W1 wc/\sb<U wc.heap))
 case first=>(
 go_wp2_with fail
 go_loopw[6,14](λqv iv wr=>∃(j:Nat)(q1:Int)(D1:SD),j<=nr/\qv=.U q1/\iv=.I j/\O (rH dop D1 q1 (rs.drop j)=X/\GQ D1 q1)/\O (Ry wr sb D1)/\O (Bw W1 wr/\Fr [41] w4 wr/\sb<U wr.heap)) (λ_ iv _=>nr-(intOf iv).toNat)
 exact⟨0,q,D,cO _,rfl,rfl,ag ⟨by rw[rI];exact ae eX,HG⟩,HI.1,ag ⟨HI.2,Fr.refl _ _,ku HL.2 HL.1⟩⟩;{
 clear HI;obtain⟨j,q1,D1,hj,rfl,rfl,HE,HV,HW⟩:=hrel;by_cases aH:j<nr;{
 have cL:=bM j nr;obtain⟨⟨s,M⟩,hr⟩:∃r,rs[j]?=Y r:=⟨_,bD (ae KL▸aH)⟩;have iH:=ae Sn _ (bu hr);obtain⟨rb,ro,rq,rd,rfl,f0,f1,tb,ad,cp⟩:=(RC.T HW.2.1).at hr;simp only at f0 f1 tb cp;have s0':0<=s:=iH.2.2.1;have s1':s<2^64:=iH.2.2.2;let⟨m,em⟩:=cG (J M);rw[ae em]at f1 tb cp;have hm:m<=1000:=ae em▸iH.2.1;have q0:=HE.2.2.1;have q9:=HE.2.2.2;have wj:IntKind.i64.wrap ((j:Int)+1)=((j+1:Nat):Int):=by rw[kP _ af];omega
 have wq:IntKind.u64.wrap (q1+1)=q1+1:=by rw[uG];omega
 obtain⟨W5,Gk,b5,z5,C5,-⟩:=bQ wr #[.U s,.S rq m rd] 90;have g0:=C5.1 0 _ rfl;have g1:=C5.1 1 _ rfl;have GR:=cI6 (HV.H b5) (ai HW.1 b5) (HW.2.1.Z (Fr.H (T:=[41]) b5)) (tb.1.H b5) (ad.size b5.size) (C5.H af aD) (ku HW.2.2 b5.size);have HS:=bG hr iH;have HZ5:=ag z5;clear hr iH tb ad b5 z5 C5;subst Gk;by_cases h1:s<=q1;{have E2:O (rH dop D1 q1 (rs.drop (j+1))=X/\GQ D1 q1):=⟨by rw[<-HE.1,aj0 HS.1 (bM4 h1)],HE.2⟩;go_wp2;go_roundw;exact⟨j+1,q1,D1,af,rfl,by go_num,E2,GR.1,ag ⟨GR.2.1,GR.2.2.1,GR.2.2.2.2.2.2⟩⟩;exact cW};{
 have H1:O (q1<s):=by show _<_;omega
 clear h1;have h1:¬s<=q1:=aK (ae H1);go_wp2_with fail;refine(dh6 em HS.2.1 af GR.2.2.2.1 cp GR.2.2.2.2.1 (ae hd M)).h ?_;rintro r w6⟨K,S,F,P,V,p',c',q',d',C,rfl,td,gr,Io⟩;let⟨np,Eg⟩:=cG (J P);let⟨nv,env⟩:=cG (J V);rw[ae Eg,ae env]at td⊢;obtain⟨W7,Cw,b7,z7,C7,-⟩:=bQ w6 #[.I K,.U S,.S p' np c',.I F,.S q' nv d',.U 0,.U 0] 65;have Eo:=ai gr b7;have W:=Nw (GR.1.H Eo) (ai GR.2.1 Eo) (GR.2.2.1.Z (Fr.H (T:=[41]) Eo)) (ku GR.2.2.2.2.2.2 Eo.size) (td.1.H b7) (td.2.1.H b7);have HOP:=ag td.2.2;have vX:=ag C7;have HOR:=ag Io;have g7:=(GR.2.2.2.2.2.1.H (by rw[ae HZ5];omega) Eo).1 0 _ rfl;clear td gr Io b7 z7 C7 Eo g0 g1 f0 f1;subst Cw;by_cases Ks:s≠q1+1\/4611686018427387904<s;{
 have E2:O (X=(D1,q1)):=by show _=_;rw[<-HE.1,Ts HS.1 (aL9 (by have:=ae H1;simp only;omega) Ks)]
 have e:=ae E2;clear HE E2;subst e;by_cases h2:s=q1+1;{
 have h3:4611686018427387904<s:=af;have e2:(s != q1+1)=dF:=by simp[h2]
 clear h2 Ks;go_wp2_with fail;go_meet;exact⟨rfl,W.1,ag ⟨W.2.1,W.2.2.2.1⟩⟩};{
 have e2:(s != q1+1):=by simp[h2]
 clear h2 Ks;go_wp2_with fail;go_meet;exact⟨rfl,W.1,ag ⟨W.2.1,W.2.2.2.1⟩⟩}};{
 have bj:=bM5 (dop:=dop) (D:=D1) (q:=q1) (r:=(s,M)) (by have:=ae H1;simp only;omega) Ks;simp only at bj;have iM:=ag bj;have h3:¬4611686018427387904<s:=λh=>Ks (.R h);have e2:(s != q1+1)=dF:=by have h2:s=q1+1:=cb4 λh=>Ks (.L h);simp[h2]
 clear Ks bj;obtain⟨hN,rfl⟩|⟨hN,rfl⟩:=ae HOR;{
 have E2:O (X=(D1,q1)):=by show _=_;rw[<-HE.1,Ts HS.1 (by rw[ae iM,hN];rfl)]
 have e:=ae E2;clear HE E2 hN;subst e;go_wp2_with fail;go_meet;exact⟨rfl,W.1,ag ⟨W.2.1,W.2.2.2.1⟩⟩};{
 have Qq:xD M (Y (K,S,F,P,V)):=hN▸ae hd M;obtain⟨bP,-⟩:=qX.byt Qq HS.2.1;have ud:=qX.parts Qq;simp only at ud;have Co:np<=1000:=by have:=ae Eg;have:=ae em;omega
 have hvn:nv<=1000:=by have:=ae env;have:=ae em;omega
 rw[hN]at iM;let⟨A,eA⟩:=cG (mW D1 K S F 0 0 P V);have bj:=ae iM;simp only[Fe,Vu]at bj;rw[ae eA]at bj;have aE3:=ag bj;let⟨ps,cs,pn,cn,XB,rS,rN⟩:=W.1;let⟨n,en⟩:=cG (J D1.E);let⟨mm,emm⟩:=cG (J D1.N);rw[ae en]at XB rS;rw[ae emm]at XB rN;have HAP:=ag (dh3 HE.2.1 en emm Eg env rS rN W.2.2.2.2.1 W.2.2.2.2.2 af af HOP.1 HOP.2 bP (qX.jo Qq) eA);obtain⟨r0,r1,r2,r3,r4,r5,-⟩:=XB.cells;obtain⟨o0,o1,o2,o3,o4,o5,o6⟩:_/\_/\_/\_/\_/\_/\_:=⟨vX.1 0 _ rfl,vX.1 1 _ rfl,vX.1 2 _ rfl,vX.1 3 _ rfl,vX.1 4 _ rfl,vX.1 5 _ rfl,vX.1 6 _ rfl⟩;have HXB:=ag XB;clear hN Qq bP ud iM bj XB rS rN;go_wp2_with fail;clear r0 r1 r2 r3 r4 r5 o0 o1 o2 o3 o4 o5 o6;refine HAP.h ?_;rintro r w8⟨p8,c8,q8,d8,Dv,Nv,Ev,Qs,rfl,hS8,hN8,tD,tN,tE,F8,b8⟩;obtain⟨y1,x1,rfl⟩:=tD.dj6;obtain⟨y2,x2,rfl,-⟩:=tN.form;obtain⟨y3,x3,rfl,-⟩:=RT.form tE;let⟨v1,ev1⟩:=cG (J A.2.sL);let⟨v2,ev2⟩:=cG (J A.2.nms);let⟨v3,ev3⟩:=cG (J A.2.rZ);let⟨n8,en8⟩:=cG (J A.1.E);let⟨m8,em8⟩:=cG (J A.1.N);rw[ae en8]at hS8;rw[ae em8]at hN8;rw[ae ev1,ae ev2,ae ev3,ae en8,ae em8];clear tD tN tE;obtain⟨W9,hW9,b9,z9,C9,-⟩:=bQ w8 #[.U A.1.e,.U A.1.g,.U A.1.x,.I A.1.t,.S p8 n8 c8,.S q8 m8 d8] 41;obtain⟨Wa,hWa,ba,za,Ca,-⟩:=bQ W9 #[.I A.2.k,.U A.2.i,.U A.2.e,.U A.2.g,.I A.2.n,.S y1 v1 x1,.S y2 v2 x2,.S y3 v3 x3] 47;have b9a:=ai b9 ba;have Rv:=ai b8 b9a;have F9a:=Fr.H (T:=[41]) b9a;have Oa:=gI (W.1.H Rv) (ai W.2.1 Rv) (W.2.2.1.Z (Fr.H (T:=[41]) Rv)) (ku W.2.2.2.1 Rv.size);have HXa:=ag (HXB.H Rv);have H9:=bG (hS8.T F9a) (dh.T hN8 F9a);have u0:=Ca.1 0 _ rfl;obtain⟨t0,t1,t2,t3,t4,t5,-⟩:=(C9.H af ba).c6;have gA:I Wa (Aw wr 0)=dU s:=by have:=al g7 Rv;exact this
 rw[z9]at u0;clear hS8 hN8 F8 b8 b9 z9 C9 ba za Ca b9a Rv F9a HXB g7;subst hWa hW9;by_cases hk:A.2.k=0;{
 have bj:Az dop D1 q1 (s,M)=Y (A.1,s):=by rw[ae aE3,aM hk];rfl
 have E2:O (rH dop A.1 s (rs.drop (j+1))=X/\GQ A.1 s):=⟨by rw[<-HE.1,aj0 HS.1 bj],aL8 hd HE.2 HS.2 bj⟩;let⟨r0,r1,r2,r3,r4,r5,rf⟩:=HXa.cells;let⟨Wb,hWb⟩:=aG ((w8.alloc (dO #[.U A.1.e,.U A.1.g,.U A.1.x,.I A.1.t,.S p8 n8 c8,.S q8 m8 d8] 41)).alloc (dO #[.I A.2.k,.U A.2.i,.U A.2.e,.U A.2.g,.I A.2.n,.S y1 v1 x1,.S y2 v2 x2,.S y3 v3 x3] 47));let⟨Z,hZ⟩:=aG (gu Wb sb (.U A.1.e) (.U A.1.g) (.U A.1.x) (.I A.1.t) (.S p8 n8 c8) (.S q8 m8 d8));rw[<-hWb]at HXa Oa H9 gA;have XZ:=HXa.put (.U A.1.e) (.U A.1.g) (.U A.1.x) (.I A.1.t) (.S p8 n8 c8) (.S q8 m8 d8);let⟨cur,Iz⟩:=HXa.2;have FZ:Fr [41] Wb Z:=hZ▸vx Iz;have gZ:I Z (Aw wr 0)=dU s:=by rw[hZ];exact(gj (Fg (aK HW.2.2)) _).Z gA
 have BZ:Bw W1 Z:=by rw[hZ];exact Oa.2.1.Z ((tR _ _ _ _ _ _ _).h (by have:=Yd.1;have:=HZ.2;omega))
 have zZ:sb<U Z.heap:=by rw[hZ,Tz];exact Oa.2.2.2
 rw[<-hZ]at XZ;have VZ:O (Ry Z sb A.1):=⟨p8,c8,q8,d8,by simp only[ae en8,ae em8];exact XZ,by simp only[ae en8];exact(H9.1.T FZ).rds,by simp only[ae em8];exact dh.Tx (dh.T H9.2 FZ)⟩;have HN:=du BZ (Oa.2.2.1.Z FZ) zZ;have ek:(A.2.k != 0)=dF:=by simp[hk]
 unfold gu at hZ;rw[hWb]at hZ;rw[hZ]at gZ;clear bj XZ Iz FZ BZ zZ hk HE HXa Oa H9 gA hWb;go_wp2;rw[<-hZ];go_roundw;exact⟨j+1,s,A.1,af,rfl,by go_num,E2,VZ,HN⟩;exact cW};{
 have E2:O (X=(D1,q1)):=by show _=_;rw[<-HE.1,Ts HS.1 (by rw[ae aE3,aL hk];rfl)]
 have e:=ae E2;clear HE E2;subst e;have ek:(A.2.k != 0):=by simp[hk]
 clear hk;go_wp2_with fail;go_meet;exact⟨rfl,Oa.1,ag ⟨Oa.2.1,Oa.2.2.2⟩⟩}}}}};{
 have cL:=fq j nr;have ejn:j=nr:=af;have E2:O (X=(D1,q1)):=by show _=_;rw[<-HE.1,ejn,<-ae KL,bR2]
 have e:=ae E2;clear HE E2;subst e;go_wp2_with fail;go_meet;exact⟨rfl,HV,ag ⟨HW.1,HW.2.2⟩⟩}})
 case rest=>(
 obtain⟨rfl,HV,HW⟩:=hcut;let⟨p9,c9,q9,d9,X9,rS,rN⟩:=ae HV;let⟨n,en⟩:=cG (J X.1.E);let⟨m,em⟩:=cG (J X.1.N);rw[ae en]at X9 rS;rw[ae em]at X9 rN;obtain⟨r0,r1,r2,r3,r4,r5,-⟩:=X9.cells;have hV:=HGX.1;have HDU:=ag (ex3 (e:=X.1.e) (g:=X.1.g) (x:=X.1.x) (t:=X.1.t) en em rS rN (by rw[<-ae en];have:=hV.sl;omega) (by rw[<-ae em];have:=hV.nl;omega) (ag λs hs=>⟨(hV.gM s hs).1,λev he=>((hV.gM s hs).2 ev he).2⟩) (ag λnd aJ=>(hV.cQ nd aJ).2));clear X9 rS rN hV;go_wp2_with fail;clear r0 r1 r2 r3 r4 r5;refine HDU.h ?_;rintro r w9⟨pa,ca,qa,da,B9,Q9,rfl,-,hS9,hN9,ke⟩;obtain⟨-,-,-,XR,BB⟩:=ae HA w9 (ai HW.1 ke);let⟨r0,r1,r2,r3,r4,r5,rf⟩:=XR.cells;let⟨cur,Iz⟩:=XR.2;have F9:=vx (v0:=.U X.1.e) (v1:=.U X.1.g) (v2:=.U X.1.x) (v3:=.I 0) (v4:=.S pa n ca) (v5:=.S qa m da) Iz;have HF:=bG (hS9.T F9).rds (dh.Tx (dh.T hN9 F9));clear hS9 hN9 F9 ke XR Iz;go_wp2;refine cg (v:=dT #[bS X.1.e X.1.g X.1.x 0 (.S pa n ca) (.S qa m da),.U X.2,.I 0]) (by simp[results,results47,go_sem,r0,r1,r2,r3,r4,r5]) rfl ⟨?_,si BB⟩;rw[ae HDX];refine⟨pa,ca,qa,da,?_,?_,?_⟩;{simp only[KR,ir,ae en,ae em]};{simp only[KR,ir,ae en];exact HF.1};{simp only[KR,ir,ae em];exact HF.2}))
def dg3(e g x t:Int)(p q:OA)(c n d m:Nat)(ss:List aB)(ns:List ar)(V:Le ss n)(W:Le ns m)(w:G)(h:kV w (.S p n c) ss)(hN:gJ w (.S q m d) ns)(N:Mg n)(hm:Mg m)(o:yC ss ns)(Yc:O (∀(i j:Nat)(s s':aB),ss[i]?=Y s->ss[j]?=s'->i<j->s.1≠s'.1))(og:O (Bu ns))(aJ:O (∀(i j:Nat)(z z':ar),ns[i]?=z->ns[j]?=z'->i<j->z.A≠z'.A)):bw6 w (bS e g x t (.S p n c) (.S q m d)) e g x t ss ns:=λv M=>by
 refine(Ws V W (h.H M) (hN.H M) N hm (by exactλs hs=>(o.s2 s hs).1) Yc (by exactλy B=>⟨(o.n2 y B).1,(o.n2 y B).2.1,(o.n2 y B).2.2.1,(o.n2 y B).2.2.2.1,(o.n2 y B).2.2.2.2.1⟩) og aJ).h ?_;rintro r w'⟨b,bs,bn,SB,NB,HB,UB,rfl,bj,R⟩;have E:J ss<=1048576:=ae V▸N;have D:J ns<=1048576:=ae W▸hm;refine⟨b,rfl,R,(ah8 (de9 bj R E D) o.s1 o.n1 E D o.s2 o.n2).h ?_⟩;rintro z u⟨Z,c',X,d',A1,A2,rfl,a1,a2,a3,a4,a5,a6⟩;exact⟨Z,c',X,d',rfl,⟨A1,A2,a1,a2,a3,a4,a5⟩,a6⟩
def er5(e g x:Nat)(t:Int)(he:e<2^64)(B:g<2^64)(u:x<2^64)(p q:OA)(c n d m:Nat)(ss:List aB)(ns:List ar)(M:Le ss n)(N:Le ns m)(w:G)(h:kV w (.S p n c) ss)(D:gJ w (.S q m d) ns)(y:Mg n)(hm:Mg m)(E:O (Bs ss))(X:O (Bn ns))(s:O (Bu ns))(o:O (Bo ns))(Z:O (∀i∈ns,(0<=i.P/\i.P<2^64)/\0<=i.F/\i.F<2^64))(r:ML w)(R:LI)(V:O (CG e g x t ss ns=R))(L:Nat)(W:Le R L):cQ1 w (bS e g x t (.S p n c) (.S q m d)) R L:=λv j=>
 cg6 he B u M N (h.H j) (D.H j) y hm E X s o Z (r.H j) V W
variable {C:Nat}
def aL5{α:Type}{F:α->Nat}(l:List α)(h:∀x∈l,F x<=C):ji F l<=C*J l:=by
 have:=aL2 C (l.map F) λx j=>by obtain⟨y,i,rfl⟩:=fe.1 j;exact h y i
 rw[ir]at this;exact this
def VD.Iy(h:VD D):∀i∈D.N,(0<=i.P/\i.P<2^64)/\0<=i.F/\i.F<2^64:=λi m=>by
 have j:=h.n2 i m;have a:=j.ep;have b:=h.e;have c:=h.g;have l:=j.lk;unfold pL at l;split at l<;>simp only[gL,jX,Fo]at l<;>omega
def ZI:Dk:=⟨[],0,[],0,[],0⟩
theorem ldC(dop:LI->Option Rq):(yW dop l0 l1 dY).2.2=0\/(yW dop l0 l1 dY).2.2=13:=by
 cases hs:mJ l1 with
 |none=>rw[Py hs];exact .R rfl
 |some x=>rw[ao4 hs rfl];exact .L rfl
structure LdG(R:fG×Int×Int):Prop where
 v:VD ⟨R.1.e,R.1.g,R.1.x,R.1.t,R.1.E,R.1.N⟩
 q:0<=R.2.1/\R.2.1<=2^62
theorem ldG{dop:LI->Option Rq}(o:∀l,xD l (dop l))(s:aC l0)(r:aC l1)(m:Mg (J l1))(i:Bool):LdG (yW dop l0 l1 i):=by
 cases i with
 |false=>rw[dG6];exact⟨VD.zero,DK 0,TK _⟩
 | true=>
  cases hs:mJ l1 with
  |none=>rw[Py hs];exact⟨VD.zero,DK 0,TK _⟩
  |some x=>
   rw[ao4 hs rfl];let⟨j,q⟩:=aj1 o (rl l0) (aM7 r m hs) (aj3 s);exact⟨j.re (DK _) j.e.2 ⟨DK 0,TK _⟩ ⟨DK 0,TK _⟩,q⟩
structure SG(S:fG):Prop where
 e:0<=S.e/\S.e<2^64
 g:0<=S.g/\S.g<2^64
 x:0<=S.x/\S.x<2^64
 n:J S.E<=1048576
 m:J S.N<=1048576
 bs:Bs S.E
 bn:Bn S.N
 bv:∀nd∈S.N,aC nd.V
 nu:Bu S.N
 ou:Bo S.N
 ep:∀nd∈S.N,(0<=nd.P/\nd.P<2^64)/\0<=nd.F/\nd.F<2^64
def fG.ok(S:fG):Prop:=lr S.e S.g S.x S.t S.E S.N=dY
def fG.B(S:fG):LI:=qH S.e.toNat S.g.toNat S.x.toNat S.E S.N
def VD.sg(h:VD ⟨S.e,S.g,S.x,S.t,S.E,S.N⟩):SG S:=by
 have a:=h.e;have b:=h.g;have c:=h.x;have d:=h.sl;have f:=h.nl;simp only at a b c d f;exact⟨af,af,af,af,af,h.gM,h.cQ,λi j=>(h.n2 i j).vb,h.og,h.uf,h.Iy⟩
def SG.sml(iG:SG S)(h:S.ok):Ap S.E S.N:=aM8 h iG.nu iG.ou iG.ep
def SG.Gr(iG:SG S)(h:S.ok):yC S.E S.N:=QV h iG.bs iG.bn
def SG.bytes(iG:SG S)(h:S.ok):J S.B<=190000/\aC S.B:=by
 have m:=iG.sml h;refine⟨(bM7 m.w).1,?_⟩;rw[fG.B,<-bM8];refine aM2 (aK iG.e) (aK iG.g) (aK iG.x) m.dur λo j=>?_;obtain⟨y,i,rfl⟩:=fe.1 j;have a:=iG.bn y i;have e:=iG.ep y i;have b:=(m.d y i).2.1;exact⟨a.1,iG.bv y i,a.2.1,a.2.2.1,a.2.2.2.1,rfl,iG.ou y i,e.1,e.2,(iG.nu y i).1,b.1,by show y.M<256;omega⟩
def SG.enc(iG:SG S)(h:S.ok):CG S.e S.g S.x S.t S.E S.N=S.B:=by rw[CG,aM (show lr S.e S.g S.x S.t S.E S.N=dY from h)];rfl
variable {r:OA}
def SG.cz4(iG:SG S)(h:S.ok){L:Nat}(o:kV w (.S p (J S.E) c) S.E)(j:gJ w (.S r (J S.N) d) S.N)(i:ML w)(q:Le S.B L):cQ1 w (bS S.e S.g S.x S.t (.S p (J S.E) c) (.S r (J S.N) d)) S.B L:=by
 have k:=iG.enc h;obtain⟨e,g,x,t,ss,ns⟩:=S;obtain⟨e,rfl⟩:=Ia iG.e.1;obtain⟨g,rfl⟩:=Ia iG.g.1;obtain⟨x,rfl⟩:=Ia iG.x.1;have a:=iG.e;have b:=iG.g;have f:=iG.x;simp only at a b f;exact er5 e g x t af af af p r c _ d _ ss ns rfl rfl w o j iG.n iG.m iG.bs iG.bn iG.nu iG.ou iG.ep i _ k L q
def SG.dg4(iG:SG S)(h:S.ok)(j:kV w (.S p (J S.E) c) S.E)(i:gJ w (.S r (J S.N) d) S.N):bw6 w (bS S.e S.g S.x S.t (.S p (J S.E) c) (.S r (J S.N) d)) S.e S.g S.x S.t S.E S.N:=dg3 S.e S.g S.x S.t p r c _ d _ S.E S.N rfl rfl w j i iG.n iG.m (iG.Gr h) (ag (iG.Gr h).s3) iG.nu (ag (iG.Gr h).n3)
def Sz(P:Prop)(w:G)(z:Ending)(w':G):Prop:=∃b:Bool,O (b=dY↔P)/\z=dR (.bool b)/\Bw w w'
variable {P:Prop}
def Sz.no(h:¬P)(i:Bw w w'):Sz P w (dR (.bool dF)) w':=⟨dF,⟨λe=>(by cases e),λe=>absurd e h⟩,rfl,i⟩
def Sz.yes(h:P)(i:Bw w w'):Sz P w (dR (.bool dY)) w':=⟨dY,⟨λ_=>h,λ_=>rfl⟩,rfl,i⟩
theorem bK8:∀(f:Nat)(t:Option Int){l:LI},aC l->jU (qg t (yl f l))<=J l
 |0,t,l,h=>by simp[yl,qg,jU]
 | f+1,t,l,h=>by
  cases hr:nj l with
  |none=>rw[af8 hr];simp[qg,jU]
  |some r=>
   rw[LF hr,qg];split;{have j:=(Tw h (s:=r.1) (b:=r.2) hr).1;have i:=bK8 f r.1 (h.drop (J r.2+14));rw[tX]at i;rw[jU];omega};{simp[jU]}
def LgP(l:LI)(q:Int):Prop:=J l<=4000/\jU (rl l)=J l/\(rl l=[]\/rr (rl l)=q)
def Dc(dop:LI->Option Rq)(D:Dk)(S:fG)(q:Int):Prop:=D.ok/\S.ok/\LgP D.l0 q/\D.n1=J D.l1/\(yW dop D.l0 D.l1 dY).2.2=0/\(yW dop D.l0 D.l1 dY).2.1=q/\(yW dop D.l0 D.l1 dY).1.B=S.B
def Jf(B:Nat)(w:G)(m:OA)(s:Nat)(j:OA)(q:Nat)(i:OA)(o:Nat)(p:OA)(c:Nat)(r:OA)(d:Nat)(D:Dk)(S:fG):Prop:=
 ko B w (.S m (J D.l0) s) (.S j (J D.l1) q) (.S i (J D.l2) o) D.l0 D.l1 D.l2/\kV w (.S p (J S.E) c) S.E/\gJ w (.S r (J S.N) d) S.N
def Jf.H{B:Nat}{D:Dk}(h:Jf B w p0 c0 p1 c1 p2 c2 p c r d D S)(i:Bw w w'):Jf B w' p0 c0 p1 c1 p2 c2 p c r d D S:=⟨h.1.H i,h.2.1.H i,h.2.2.H i⟩
abbrev vu(p0:OA)(c0:Nat)(p1:OA)(c1:Nat)(p2:OA)(c2:Nat)(p:OA)(c:Nat)(r:OA)(d:Nat)(D:Dk)(S:fG)(q:Int):dV:=vt (.S p0 (J D.l0) c0) D.n0 (.S p1 (J D.l1) c1) D.n1 (.S p2 (J D.l2) c2) D.n2 S.e S.g S.x S.t (.S p (J S.E) c) (.S r (J S.N) d) q
def aQ.fu(h:aQ w b [v0,v1,v2,v3,v4,v5,v6,v7,v8,v9,va,vb,vc]):I w (Ad b 0)=v0/\I w (Ad b 1)=v1/\I w (Ad b 2)=v2/\I w (Ad b 3)=v3/\I w (Ad b 4)=v4/\I w (Ad b 5)=v5/\I w (Ad b 6)=v6/\I w (Ad b 7)=v7/\I w (Ad b 8)=v8/\I w (Ad b 9)=v9/\I w (Ad b 10)=va/\I w (Ad b 11)=vb/\I w (Ad b 12)=vc:=
 ⟨h.1 0 _ rfl,h.1 1 _ rfl,h.1 2 _ rfl,h.1 3 _ rfl,h.1 4 _ rfl,h.1 5 _ rfl,h.1 6 _ rfl,h.1 7 _ rfl,h.1 8 _ rfl,h.1 9 _ rfl,h.1 10 _ rfl,h.1 11 _ rfl,h.1 12 _ rfl⟩
open Go.Deep
abbrev cw1(k:Int):Ending:=.panicked [{v:=.iface 171 (.agg #[.I k]),recovered:=dF}]
def nO(q:Int)(s:Nat):LI:=BS (q+1) (lX 3 s [] 0 [])
def eQ7(w:G)(n0 n1 n2 e g x t q:Int)(l0 l1 i:LI)(S N:dV)(s:Nat)(z:Ending)(w':G):Prop:=
 ((4611686018427387904<=q/\z=cw1 12)\/(q<2^62/\4000<J l0+J (nO q s)/\z=cw1 11)\/(q<2^62/\J l0+J (nO q s)<=4000/\∃o y m u j r,z=dR (vt (.S o (J (l0++nO q s)) y) n0 (.S m (J l1) u) n1 (.S j (J i) r) n2 e g x t S N (q+1))/\ko (U w.heap) w' (.S o (J (l0++nO q s)) y) (.S m (J l1) u) (.S j (J i) r) (l0++nO q s) l1 i))/\Bw w w'
def bs8(q:Int)(s:Nat):J (nO q s)=J (lX 3 s [] 0 [])+14:=by rw[nO,aP1]
def dq6(p0 p1 p2:OA)(c0 c1 c2:Nat)(n0 n1 n2 e g x t q:Int)(l0 l1 M:LI)(ps:OA)(ns cs:Nat)(pn:OA)(nn cn:Nat)(s:Nat)(hs:s<2^64)(w:G)(h0:Rd w (.S p0 (J l0) c0) l0)(h1:Rd w (.S p1 (J l1) c1) l1)(h2:Rd w (.S p2 (J M) c2) M)(hd:O (mU (J l0) n0 (J l1) n1 (J M) n2))(m0:J l0<=4000)(m1:J l1<=200000)(m2:J M<=200000)(q0:0<=q)(hT:O (qE w)):dQ dG 135 #[vt (.S p0 (J l0) c0) n0 (.S p1 (J l1) c1) n1 (.S p2 (J M) c2) n2 e g x t (.S ps ns cs) (.S pn nn cn) q,lM 3 s aq 0 aq 0 0] w (eQ7 w n0 n1 n2 e g x t q l0 l1 M (.S ps ns cs) (.S pn nn cn) s):=by
 obtain⟨W0,cI,b0,z0,C0,-⟩:=bQ w #[.S p0 (J l0) c0,.I n0,.S p1 (J l1) c1,.I n1,.S p2 (J M) c2,.I n2,.U e,.U g,.U x,.I t,.S ps ns cs,.S pn nn cn,.U q] 43;obtain⟨W1,fx,b1,z1,C1,-⟩:=bQ W0 #[.I 3,.U s,aq,.I 0,aq,.U 0,.U 0] 65;obtain⟨j,fE,b2,z2,C2,-⟩:=bQ W1 #[aq,.I 0,aq,.I 0,aq,.I 0,.U 0,.U 0,.U 0,.I 0,aq,aq,.U 0] 43;rw[z0]at C1 z1;rw[z1]at C2 z2;have N:=ai b0 (ai b1 b2);by_cases hq:4611686018427387904<=q;{go_in;go_wp2;rw[<-cI,<-fx,<-fE];exact⟨rfl,.L ⟨hq,rfl⟩,N⟩};{
 have kh:q<2^62:=af;have wq:IntKind.u64.wrap (q+1)=q+1:=by rw[uG];omega
 have HE:=du (h0.H N) (h1.H N) (h2.H N);have HTb:O (qE j):=λk i1 i2=>(ae hT k i1 i2).H N;have HC:=ag (λ(v:G)(hv:Bw j v)=>aF (((C0.H af b1).H af b2).H af hv) (aF ((C1.H af b2).H af hv) (aF (C2.H af hv) (ai N hv))));have HZ:=ag z2;obtain⟨L,Z⟩:∃L,O (J (lX 3 s [] 0 [])=L):=⟨_,cM⟩;clear C0 C1 C2 b0 b1 b2 z0 z1 z2 h0 h1 h2 hT N;go_in;go_wp2_with fail;rw[<-cI,<-fx,<-fE];clear cI fx fE;have hL:L<=32:=by rw[<-ae Z];have:=bW4 3 s [] 0 [];simpa using this
 have HB:=ag (aQ8 (k:=3) (s:=s) (f:=0) (P:=[]) (V:=[]) af hs af (by intro z hz;cases hz) (by intro z hz;cases hz) aj aj);have r:I j (Aw w 12)=dU q/\I j (Ax w 0)=dI 3/\I j (Ax w 1)=dU s/\I j (Ax w 2)=aq/\I j (Ax w 3)=dI 0/\I j (Ax w 4)=aq/\I j (Ax w 5)=dU 0/\I j (Ax w 6)=dU 0:=by have H:=ae HC j aD;exact⟨H.1.1 12 _ rfl,H.2.1.1 0 _ rfl,H.2.1.1 1 _ rfl,H.2.1.1 2 _ rfl,H.2.1.1 3 _ rfl,H.2.1.1 4 _ rfl,H.2.1.1 5 _ rfl,H.2.1.1 6 _ rfl⟩
 have bd:Bw j j.drew:=aD.drew;have RT3:=ag ((ae HTb 3 af af).H bd);have eF:O (Bf (rowOf 3).1 (rowOf 3).2.1 (rowOf 3).2.2.1 (rowOf 3).2.2.2.1 (rowOf 3).2.2.2.2.1 (rowOf 3).2.2.2.2.2.1 s ((0:Nat):Int) 0 0 0 0):=by show _=_;simp[Bf,rowOf]
 refine fk (λw'=>I w' (Aw w 12)=dU q/\I w' (Ax w 0)=dI 3/\I w' (Ax w 1)=dU s/\I w' (Ax w 2)=aq/\I w' (Ax w 3)=dI 0/\I w' (Ax w 4)=aq/\I w' (Ax w 5)=dU 0/\I w' (Ax w 6)=dU 0) (by exact r) λhS=>?_;refine iC 0 1 2 3 hS ?_;refine ew 4 λKK hK=>?_;refine jg (ba3 3 af af s 0 hs af [] [] rfl rfl (Rd.nil _) (Rd.nil _) aj aj (ae RT3) eF Z) ?_;rintro z v1⟨pa,ca,rfl,oa,au⟩;refine⟨_,rfl,?_⟩;have D:=ai bd au;have m:=aF (al r.1 D) (aF (al r.2.1 D) (aF (al r.2.2.1 D) (aF (al r.2.2.2.1 D) (aF (al r.2.2.2.2.1 D) (aF (al r.2.2.2.2.2.1 D) (aF (al r.2.2.2.2.2.2.1 D) (al r.2.2.2.2.2.2.2 D)))))));refine bL hK (by exact m) λhS=>?_;clear hK KK;refine tn 5 hS ?_;refine ew 6 λKK hK=>?_;refine jg (show Cp 196 #[xI (q+1) (.S pa L ca)] v1 _ from cg5 Z oa.rd HB af af af) ?_;rintro z X⟨pb,cb,rfl,ob,y⟩;refine⟨_,rfl,?_⟩;have B2:=ai D y;have k2:=aF (al m.1 y) (aF (al m.2.1 y) (aF (al m.2.2.1 y) (aF (al m.2.2.2.1 y) (aF (al m.2.2.2.2.1 y) (aF (al m.2.2.2.2.2.1 y) (aF (al m.2.2.2.2.2.2.1 y) (al m.2.2.2.2.2.2.2 y)))))));refine bL hK (by exact k2) λhS=>?_;clear hK KK;refine tn 7 hS ?_;refine fy ?_;have W:=ag B2;have OB:=ag ob;clear r m k2 hS oa au y D B2 ob bd RT3 eF HB;obtain⟨⟨i0,i1,i2,i3,i4,i5,i6,i7,i8,i9,ia,ib,ic⟩,-,-,BB⟩:=And.imp (λh:aQ X (U w.heap) _=>h.fu) id (ae HC X W);by_cases hf:4000<J l0+(L+14);{have hf':(4000:Int)<(J l0:Int)+((L+14:Nat):Int):=af;have wf:IntKind.i64.wrap ((J l0:Int)+((L+14:Nat):Int))=(J l0:Int)+((L+14:Nat):Int):=kP _ af;go_wp2;exact⟨rfl,.R (.L ⟨kh,by rw[bs8,ae Z];exact hf,rfl⟩),BB⟩};{
 have hf':¬(4000:Int)<(J l0:Int)+((L+14:Nat):Int):=af;have wf:IntKind.i64.wrap ((J l0:Int)+((L+14:Nat):Int))=(J l0:Int)+((L+14:Nat):Int):=kP _ af;go_wp2_with fail;clear i0 i1 i2 i3 i4 i5 i6 i7 i8 i9 ia ib ic BB;have eC:L+14=J (nO q s):=by rw[bs8,ae Z]
 have hB:=OB.rd;rw[eC]at hB⊢;have Oe:=ae HE;refine(ex5 p0 p1 p2 c0 c1 c2 n0 n1 n2 l0 l1 M X (Oe.1.H W) (Oe.2.1.H W) (Oe.2.2.H W) hd af m1 m2 pb (nO q s) (l0++nO q s) rfl cb hB (by show _<=_;rw[dm];omega)).h ?_;rintro z v3⟨P0,d0,P1,d1,P2,d2,rfl,O3,aI⟩;have B3:=ai W aI;obtain⟨H1,-,H2,BB⟩:=ae HC v3 B3;let⟨i0,i1,i2,i3,i4,i5,i6,i7,i8,i9,ia,ib,ic⟩:=H1.fu;have jf:=H1.2;have j0:=H2.fu;have kf:=H2.2;have zz:U w.heap+1+1+1<=U X.heap:=by have:=ae HZ;have:=W.size;omega
 have OO:=ag O3;have HBB:=ag BB;have Lk:=ag zz;clear O3 aI B3 H1 H2 BB Oe HE HC hB OB zz;go_wp2;refine cg (v:=vt (.S P0 (J (l0++nO q s)) d0) n0 (.S P1 (J l1) d1) n1 (.S P2 (J M) d2) n2 e g x t (.S ps ns cs) (.S pn nn cn) (q+1)) (by simp[results,results135,go_sem,j0]) rfl ⟨.R (.R ⟨kh,by rw[<-eC];omega,P0,d0,P1,d1,P2,d2,rfl,?_⟩),?_⟩;{
 refine ko.h (B:=U X.heap) ?_ (aK (ae Lk))
 repeat(refine ko.set ?_ (by have:=ae Lk;simp;omega) _)
 exact OO};{
 repeat(refine ri ?_ (by simp<;>omega) _)
 exact HBB}}}
def Je(w:G)(m:OA)(s:Nat)(j:OA)(q:Nat)(i:OA)(o:Nat)(p:OA)(c:Nat)(r:OA)(d:Nat)(D:Dk)(S:fG):Prop:=
 Rd w (.S m (J D.l0) s) D.l0/\Rd w (.S j (J D.l1) q) D.l1/\Rd w (.S i (J D.l2) o) D.l2/\lI w (.S p (J S.E) c) S.E/\gJ w (.S r (J S.N) d) S.N
def Je.H{D:Dk}(h:Je w p0 c0 p1 c1 p2 c2 p c r d D S)(i:Bw w w'):Je w' p0 c0 p1 c1 p2 c2 p c r d D S:=
 ⟨h.1.H i,h.2.1.H i,h.2.2.1.H i,h.2.2.2.1.H i,h.2.2.2.2.H i⟩
structure NC(D:Dk)(S:fG):Prop where
 d:J D.l0+J D.l1+J D.l2<=1048576
 s:EU S.E S.N<=1048576
def ep7{u y B j i:OA}{M E s o m:Nat}{D:Dk}(x1:sR 26 (mV (.S p0 (J D.l0) c0) D.n0 (.S p1 (J D.l1) c1) D.n1 (.S p2 (J D.l2) c2) D.n2) (mV (.S u (J D.l0) M) D.n0 (.S y (J D.l1) E) D.n1 (.S B (J D.l2) s) D.n2) w)(x2:sR 27 (bS S.e S.g S.x S.t (.S p (J S.E) c) (.S r (J S.N) d)) (bS S.e S.g S.x S.t (.S j (J S.E) o) (.S i (J S.N) m)) w):sR 8 (vu p0 c0 p1 c1 p2 c2 p c r d D S q) (vu u M y E B s j o i m D S q) w:=Q5
def ay7(M E B p r Z WQ WO o m:OA)(W V R c d En Rm X y u:Nat)(D:Dk)(S:fG)(q:Int)(w:G)(h:Je w M W E V B R p c r d D S)(j:Je w Z En WQ Rm WO X o y m u D S)(N:O (NC D S)):Cp 8 #[vu M W E V B R p c r d D S q,vu Z En WQ Rm WO X o y m u D S q] w (Rb (.bool dY) w):=by
 have z:=N.d;let⟨z1,z2,z3,z4⟩:=aK8 N.s;have k:∀{p q:OA}{c d:Nat}{l:LI},Rd w (.S p (J l) c) l->Rd w (.S q (J l) d) l->J l<=1048576->sR 28 (.S p (J l) c) (.S q (J l) d) w:=λa b hl v i=>Zt rfl (a.H i) (b.H i) af;exact ep7 (eq6 (bo5 (k h.1 j.1 af)) (bo5 (k h.2.1 j.2.1 af)) (bo5 (k h.2.2.1 j.2.2.1 af))) (λv i=>eo9 S.e S.g S.x S.t p r o m c (J S.E) d (J S.N) y u S.E S.N rfl rfl v (h.2.2.2.1.H i) (h.2.2.2.2.H i) (j.2.2.2.1.H i) (j.2.2.2.2.H i) z1 z2 z3 z4) w aD
def Own.hp{B:Nat}(h:Own B w z l)(o:∀b,z.ownBlock=Y b->v.heap[b]?=w.heap[b]?):Own B v z l:=by
 refine⟨h.1,?_⟩;obtain s|⟨g,m,j,rfl,r,q,i⟩:=h.2;{exact .L s};{exact .R ⟨g,m,j,rfl,r,(o g rfl).Z q,i⟩}
def tC(B M:Nat)(w:G)(u A2:List Lf)(m:OA)(s:Nat)(j:OA)(q:Nat)(i:OA)(o:Nat)(p:OA)(c:Nat)(r:OA)(d:Nat)(D:Dk)(S:fG):Prop:=
 ko B w (.S m (J D.l0) s) (.S j (J D.l1) q) (.S i (J D.l2) o) D.l0 D.l1 D.l2/\(∀b,(Value.slice m (J D.l0) s).ownBlock=Y b\/(Value.slice j (J D.l1) q).ownBlock=Y b\/(Value.slice i (J D.l2) o).ownBlock=Y b->b<M)/\B<=M/\vh M w u A2 p (J S.E) c r (J S.N) d S.E S.N
def tC.W{B M:Nat}{D:Dk}(h:tC B M w A1 A2 p0 c0 p1 c1 p2 c2 p c r d D S)(i:∀b,B<=b->b<U w.heap->w'.heap[b]?=w.heap[b]?):tC B M w' A1 A2 p0 c0 p1 c1 p2 c2 p c r d D S:=by
 obtain⟨⟨o,m,j,E,y,x⟩,N,u,q⟩:=h;exact⟨⟨o.hp λb e=>i b (o.lt b e).1 (o.lt b e).2,m.hp λb e=>i b (m.lt b e).1 (m.lt b e).2,j.hp λb e=>i b (j.lt b e).1 (j.lt b e).2,E,y,x⟩,N,u,q.W λa s=>i a.b (gv u (q.2.2.2.2.lo a s)) (q.2.2.2.2.jY.lt s)⟩
def tC.H{B M:Nat}{D:Dk}(h:tC B M w A1 A2 p0 c0 p1 c1 p2 c2 p c r d D S)(j:Bw w w'):tC B M w' A1 A2 p0 c0 p1 c1 p2 c2 p c r d D S:=h.W λb _ i=>j.block b i
def tC.rd{B M:Nat}{D:Dk}(h:tC B M w A1 A2 p0 c0 p1 c1 p2 c2 p c r d D S):Je w p0 c0 p1 c1 p2 c2 p c r d D S:=⟨h.1.o0.rd,h.1.o1.rd,h.1.o2.rd,h.2.2.2.rd.1,h.2.2.2.rd.2⟩
def tC.lts{B M:Nat}{D:Dk}(h:tC B M w A1 A2 p0 c0 p1 c1 p2 c2 p c r d D S):(∀v∈[Value.slice p0 (J D.l0) c0,.S p1 (J D.l1) c1,.S p2 (J D.l2) c2],∀b,v.ownBlock=Y b->b<U w.heap)/\∀a∈A1++A2,a.b<U w.heap:=by
 refine⟨λv i b e=>?_,λa j=>h.2.2.2.2.2.2.2.jY.lt j⟩;simp only[fU,aT4,Ib]at i;obtain rfl|rfl|rfl:=i;{exact(h.1.o0.lt b e).2};{exact(h.1.o1.lt b e).2};{exact(h.1.o2.lt b e).2}
def RG(k:Int)(w:G)(i A2:List Lf)(o:OA)(u:Nat)(m:OA)(s:Nat)(j:OA)(q:Nat)(p:OA)(c:Nat)(r:OA)(d:Nat)(D:Dk)(S:fG):Prop:=
 Rd w (.S o (J D.l0) u) (marks k (J D.l0))/\Rd w (.S m (J D.l1) s) (marks (k+J D.l0) (J D.l1))/\Rd w (.S j (J D.l2) q) (marks (k+J D.l0+J D.l1) (J D.l2))/\kG w (.S p (J S.E) c) S.E i/\lK w (.S r (J S.N) d) S.N A2/\je w (i++A2) (k+J D.l0+J D.l1+J D.l2)
def ca0(B M N:Nat)(Z A2:List Lf)(o m j p r:OA)(E y u c d:Nat)(D:Dk)(S:fG)(q k:Int)(w:G)(h:tC B M w Z A2 o E m y j u p c r d D S)(hz:O (NC D S))(hA:J Z+J A2<=4194304)(hN:O ((∀v∈[Value.slice o (J D.l0) E,.S m (J D.l1) y,.S j (J D.l2) u],∀b,v.ownBlock=Y b->b<N)/\∀a∈Z++A2,a.b<N))(hNw:N<=U w.heap)(hB:B<=U w.heap)(k0:0<=k)(k1:k<=1000):dQ dG 10 #[vu o E m y j u p c r d D S q,.I k] w λe w'=>e=dR (.I (k+J D.l0+J D.l1+J D.l2+J Z+J A2))/\RG k w' Z A2 o E m y j u p c r d D S/\Below B w w'/\∀b,b<U w.heap->N<=b->w'.heap[b]?=w.heap[b]?:=by
 obtain⟨W,hW,b0,z0,C0,-⟩:=bQ w #[.S o (J D.l0) E,.I D.n0,.S m (J D.l1) y,.I D.n1,.S j (J D.l2) u,.I D.n2,.U S.e,.U S.g,.U S.x,.I S.t,.S p (J S.E) c,.S r (J S.N) d,.U q] 43;obtain⟨o3,aH,hBM,lv⟩:=h;have i:=du (o3.H b0) aH (lv.H b0);have HC:=ag C0;have hzd:=hz.d;have HB:=ag b0;go_in;go_wp2_with fail;rw[<-hW];refine(dC9 B o m j E y u D.n0 D.n1 D.n2 D.l0 D.l1 D.l2 k W i.1 af af af k0 af).h ?_;rintro e w1⟨rfl,o1,g1⟩;have aN:O (∀b,N<=b->∀v∈[Value.slice o (J D.l0) E,.S m (J D.l1) y,.S j (J D.l2) u],v.ownBlock≠Y b):=λb hb v V e=>aK (hN.1 v V b e);have L1:=ag (i.2.2.W (w':=w1) (λa s=>g1.block a.b (i.2.2.2.2.2.2.jY.lt s) (λv V e=>by have:=i.2.2.2.2.2.2.lo a s;have:=i.2.1 a.b (by simp only[fU,aT4,Ib]at V;obtain rfl|rfl|rfl:=V<;>simp[e]);omega)))
 obtain⟨-,-,-,-,-,-,i6,i7,i8,i9,ia,ib,-⟩:=(HC.de (g1.block (U w.heap) af (ae aN (U w.heap) hNw))).fu;have B1:O (Below B W w1):=g1.H af (λv V b e=>by simp only[fU,aT4,Ib]at V;obtain rfl|rfl|rfl:=V;{exact(i.1.o0.lt b e).1};{exact(i.1.o1.lt b e).1};{exact(i.1.o2.lt b e).1})
 have G1:=ag g1.block;have z1:=g1.size;have O1:=ag o1;obtain⟨K,eK⟩:∃K:Int,k+J D.l0+J D.l1+J D.l2=K:=⟨_,rfl⟩;have hK:0<=K/\K<=1050000:=af;rw[eK];have EK:=ag eK;go_wp2_with fail;obtain⟨-,-,f3,f4,X⟩:=ae L1;refine br (dC4 S.e S.g S.x S.t p r c (J S.E) d (J S.N) S.E S.N Z A2 K w1 f3 f4 (ft.app.1 X.jY).1 (ft.app.1 X.jY).2 af af) λR mk=>?_;have hk:∀b:Nat,b<M->b<U w1.heap->R.heap[b]?=w1.heap[b]?:=λb h1 h3=>mk.blk b h3 (λa s e=>aK (X.lo a s));have H2:RG k R Z A2 o E m y j u p c r d D S:=by have aH:=i.2.1;refine⟨Own.rd (Own.hp O1.o0 (v:=R) λb e=>hk b (aH b (.L e)) (O1.o0.lt b e).2),Own.rd (Own.hp O1.o1 (v:=R) λb e=>hk b (aH b (.R (.L e))) (O1.o1.lt b e).2),Own.rd (Own.hp O1.o2 (v:=R) λb e=>hk b (aH b (.R (.R e))) (O1.o2.lt b e).2),kG.mk f3 mk X.jY,lK.mk f4 mk X.jY,?_⟩;rw[ae EK];exact mk.held X.nd
 have B2:Below B w R:=(HB.h hB).Z (B1.Z (mk.H (λa s=>aK (X.lo a s)) af));have G2:∀b,b<U w.heap->N<=b->R.heap[b]?=w.heap[b]?:=λb h1 h2=>(mk.blk b af (λa s e=>aK (hN.2 a s))).Z ((ae G1 b af (ae aN b h2)).Z (HB.block b h1));have HH:=du H2 B2 G2;go_wp2;go_ret;exact⟨by rw[ae EK];rfl,HH⟩
def dX6(m A2:List Lf)(u s o p r:OA)(E B y c d:Nat)(D:Dk)(S:fG)(q k:Int)(w:G)(h:RG k w m A2 u E s B o y p c r d D S)(hz:O (NC D S))(hA:J m+J A2<=4194304)(X:0<=k)(k1:k<=1000):dQ dG 12 #[vu u E s B o y p c r d D S q,.I k] w (Rb (.I (k+J D.l0+J D.l1+J D.l2+J m+J A2)) w):=by
 obtain⟨W,hW,i,z0,C0,-⟩:=bQ w #[.S u (J D.l0) E,.I D.n0,.S s (J D.l1) B,.I D.n1,.S o (J D.l2) y,.I D.n2,.U S.e,.U S.g,.U S.x,.I S.t,.S p (J S.E) c,.S r (J S.N) d,.U q] 43;obtain⟨h0,h1,h2,h3,h4,h5⟩:=h;have M:=du (h0.H i) (h1.H i) (h2.H i);have HS:=ag (λ(v:G)(j:Bw W v)=>aF (C0.H af j) (aF (kG.H h3 (ai i j)) (aF (lK.H h4 (ai i j)) (aF (h5.H (ai i j)) (ai i j)))));have Z:=hz.d;go_in;go_wp2_with fail;rw[<-hW];refine br (dY0 u s o E B y _ _ _ D.n0 D.n1 D.n2 k W M.1 M.2.1 M.2.2 af af af X af) λN V=>?_;have H:=ag (ae HS N V);have B1:=ag V;obtain⟨-,-,-,-,-,-,i6,i7,i8,i9,ia,ib,-⟩:=H.1.fu;obtain⟨K,R⟩:∃K:Int,k+J D.l0+J D.l1+J D.l2=K:=⟨_,rfl⟩;rw[R]at H⊢;have QH:0<=K:=af;have hK:¬K<0:=af;have rU:K<=1050000:=af;have EK:=ag R;go_wp2_with fail;refine br (dX4 S.e S.g S.x S.t p r c (J S.E) d (J S.N) S.E S.N m A2 K N H.2.1 H.2.2.1 H.2.2.2.1 af af) λw2 ay=>?_;have bb:=ai H.2.2.2.2 ay;have D8:¬K+J m+J A2<0:=af;go_wp2;go_ret;exact⟨by rw[ae EK];rfl,bb⟩
theorem Wy{B g:Nat}(i:B<=g):∀(c:List dV)(x:G)(o:Nat),Below B w x->Below B w (Oy g x o c)
  |[],x,o,h=>h
  |u::us,x,o,h=>Wy i us _ _ (h.setCell i u)
def oq{p:Prop}(h:p:=by((try have:=ae s3);(try have:=ae a0);(try have:=ae x0);(try have:=ae a1);(try have:=ae x1);(try have:=ae a2);(try have:=ae x2);(try have:=ae a3);omega)):p:=h
def ToB(n:Nat)(l:LI)(v:G)(z:Ending)(v':G):Prop:=∃p c A,z=dR (.S p n c)/\PB v' (U v.heap) (U v'.heap) (.S p n c) l A/\Bw v v'
def ToU(n:Nat)(l:LI)(v:G)(z:Ending)(v':G):Prop:=∃p c A,z=dR (.S p n c)/\PU v' (U v.heap) (U v'.heap) (.S p n c) l A/\Bw v v'
def aJ6(h:Rd w (.S p n c) l)(r:J l=n)(x:Mg n)(j:Bw w v):Cp 112 #[.S p n c] v (ToB n l v):=
  (bK7 (h.H j) af).h λz u⟨i,s,e,o,m⟩=>by rw[r]at e o;let⟨A,q⟩:=o.pb;exact⟨i,s,A,e,q,m⟩
def PB.kp{v:dV}(h:PB w M N v xs A)(i:∀b,M<=b->w'.heap[b]?=w.heap[b]?):PB w' M N v xs A:=
  have k:∀a∈A,w'.heap[a.b]?=w.heap[a.b]?:=λa j=>i _ (h.ap.lo a j)
  ⟨h.rd.kR h.lv k,h.cap,h.lv,h.ap.W k,h.hi⟩
def PU.kp{v:dV}(h:PU w M N v xs A)(i:∀b,M<=b->w'.heap[b]?=w.heap[b]?):PU w' M N v xs A:=
  have k:∀a∈A,w'.heap[a.b]?=w.heap[a.b]?:=λa j=>i _ (h.ap.lo a j)
  ⟨h.rd.kR h.lv k,h.lv,h.ap.W k,h.hi⟩
def XM{w Z:G}(h:∀b,M<=b->Z.heap[b]?=w.heap[b]?:=by(intro b hb;(repeat rw[Pc _ _ _ _ (by simp;omega)]))):∀b,M<=b->Z.heap[b]?=w.heap[b]?:=h
def Vs{B:Nat}{w Z:G}(h:Below B w Z:=by(repeat(first|refine ri ?_ (by simp<;>omega) _|assumption))):Below B w Z:=h
def TJ{Q:Ending->G->Prop}(h:∀X,X=w->dQ dG f a X Q):dQ dG f a w Q:=h w rfl
def WZ(h:∀Z,Z=w->R e Z):R e w:=h w rfl
def knW{w Z:G}(h:∀b,b≠C->Z.heap[b]?=w.heap[b]?:=by(intro b hb;(repeat rw[Pc _ _ _ _ (by simpa using hb)]))):∀b,b≠C->Z.heap[b]?=w.heap[b]?:=h
def EvR(v:G)(y:Ev)(z:Ending)(v':G):Prop:=∃p c l,z=dR (.agg #[.I y.1,.S p (J y.2) c])/\CJ v' y [.I y.1,.S p (J y.2) c] l/\gh (U v.heap) v' l/\Bw v v'
def db3{y:Ev}(h:Rd w (.S p (J y.2) c) y.2)(hn:J y.2<=1048576)(hv:Bw w v):dQ dG 208 #[.agg #[.I y.1,.S p (J y.2) c]] v (EvR v y):=by
  obtain⟨W1,fx,X,V,-,-⟩:=bQ v #[.I y.1,.S p (J y.2) c] 256;obtain⟨W2,fE,W,u,R,-⟩:=bQ W1 #[.I 0,aq] 119;obtain⟨W3,jI,x,s,N,-⟩:=bQ W2 #[.I y.1,aq] 119;rw[V]at R u;rw[u]at N s;go_in;go_wp2_with fail;rw[<-fx,<-fE,<-jI];have E:=ai X (ai W x);refine(aJ6 h rfl hn (ai hv E)).h ?_;rintro z w1⟨m,o,A,rfl,hB,hb⟩;have j:=(R.H af x).H af hb;have i:=N.H af hb;have n0:=j.1 0 _ rfl;have n1:=j.1 1 _ rfl;have nf:=j.2;have k0:=i.1 0 _ rfl;have k1:=i.1 1 _ rfl;have kf:=i.2;have HB:=ag hB;have BB:=ag (ai E hb);have r:=ag s;go_wp2;refine cg (v:=.agg #[.I y.1,.S m (J y.2) o]) (by simp[results,results208,go_sem,n0,n1]) rfl (WZ λZ D=>?_);have H:=HB.kp (w':=Z) (by have:=ae r;rw[D];exact XM);exact⟨m,o,A,rfl,⟨m,o,rfl,H.rd,H.cap,H.lv⟩,H.ap.h (aK (ae r)),by have:=ae BB;rw[D];exact Vs⟩
def TR{α:Type}(el:G->α->List dV->List Lf->Prop)(t z n:Nat)(v:G)(l:List α)(i:dV)(wr:G):Prop:=∃k:Nat,k<=n/\i=.I k/\O (By el t z (U v.heap) n wr k l)/\Bw v wr
theorem toW{q:Prop}(h':q:=by
    show dQ _ _ _ _ _
    first
      | (have T:List Ev:=l
         let⟨i,hi,iD,fw,fI⟩:=kx Tryz.infoEv)
      | (have T:List aB:=l
         let⟨i,hi,iD,fw,fI⟩:=kx Tryz.infoSes)
      | (have T:LI:=l
         let⟨i,hi,iD,fw,fI⟩:=kx Tryz.infoU64)
      |(obtain⟨i,hi,iD,fw,fI⟩:=kx Tryz.infoNod)
    go_in;go_wp2_with(first|(at_make;refine wpList_make_full _ rfl _ _ _ rfl (U v.heap) _ i _ _ (by first|exact underlying45|exact underlying38|exact underlying61|exact underlying39) hi iD fw _ _ _ _ n rfl rfl rfl rfl ?b2 ?b3 ?b4 ?_))
    case b2=>rw[fI];omega
    case b3=>unfold maxLen;omega
    case b4=>exact eG _
    intro w1 cX hg;have hb:=Zo hg
    first
      |(have HP:=ag (By.zero (el:=CJ) l cX))
      |(have HP:=ag (By.zero (el:=mg) l cX))
      |(have HP:=ag (By.zero (el:=Q6) l cX))
      |(have HP:=ag (By.zero (el:=kF) l cX))
    clear hg cX;go_wp2_with fail
    first
      |(go_loopw[4](TR CJ 119 2 n v l) (λiv _=>n-(intOf iv).toNat))
      |(go_loopw[4](TR mg 97 3 n v l) (λiv _=>n-(intOf iv).toNat))
      |(go_loopw[4](TR Q6 27 1 n v l) (λiv _=>n-(intOf iv).toNat))
      |(go_loopw[4](TR kF 141 8 n v l) (λiv _=>n-(intOf iv).toNat))
    {exact⟨0,cO _,rfl,HP,hb⟩};{
 obtain⟨k,hk,rfl,HK,az⟩:=hrel;by_cases aH:k<n;{
 have cL:=bM k n;obtain⟨y,hy⟩:∃y,l[k]?=Y y:=⟨_,bD af⟩;have hm:=bu hy;have HY:=ag hy;have hR:=h.H (ai hv az)
 first
   | (have T:List Ev:=l
      obtain⟨b,o,iU,rfl,c0,c1,hr⟩:=hR.get hy;obtain⟨pp,pc,m,rfl,em⟩:=hr.dy;obtain rfl:=ae em;clear hy hR;go_wp2_with fail;refine(db3 hr (he y hm) aD).h ?_;rintro z w2⟨p',c',A,rfl,iL,hA,ay⟩;let⟨HC,kf⟩:=HK.cell ay aH;let⟨u0,k0⟩:=HC 0 af;let⟨u1,k1⟩:=HC 1 af;simp only[DL]at k0;have HN:=ag (HK.step CJ.W aH HY ay iL rfl hA);have B2:=ag (Wy (eG (U v.heap)) [.I y.1,.S p' (J y.2) c'] w2 (k*2) (ai az ay));clear HC HK iL hA ay)
   | (have T:List aB:=l
      obtain⟨b,o,iU,rfl,c0,c1,c2,hr⟩:=hR.get hy;obtain⟨pp,pc,rfl,-⟩:=id hr;clear hy hR;go_wp2_with fail;refine(da9 hr (he y hm).1 (he y hm).2 aD).h ?_;rintro z w2⟨p',c',A,rfl,iL,hA,ay⟩;let⟨HC,kf⟩:=HK.cell ay aH;let⟨u0,k0⟩:=HC 0 af;let⟨u1,k1⟩:=HC 1 af;let⟨u2,k2⟩:=HC 2 af;simp only[DL]at k0;have HN:=ag (HK.step mg.W aH HY ay iL rfl hA);have B2:=ag (Wy (eG (U v.heap)) [.U y.1,.I y.2.1,.S p' (J y.2.2) c'] w2 (k*3) (ai az ay));clear HC HK iL hA ay)
   | (have T:LI:=l
      obtain⟨b,o,rfl,c0⟩:=hR.at hy;clear hy hR;let⟨HC,kf⟩:=HK.cell aD aH;let⟨u0,k0⟩:=HC 0 af;simp only[DL]at k0;have HN:=ag (HK.step Q6.W aH HY aD ⟨rfl,rfl⟩ rfl (gh.nil _ _));have B2:=ag (Wy (eG (U v.heap)) [.U y] wr (k*1) az);simp only[J4]at HN B2 k0;clear HC HK)
   | (obtain⟨b,o,rfl,hA⟩:=hR.at af
      obtain⟨P,V,H,iU,⟨c0,c1,c2,c3,c4,c5,c6,c7,r0,r1,r4,r7,-⟩⟩:=hA k y hy;obtain⟨p0,e0,m0,rfl,f0⟩:=r0.dy;obtain⟨p1,e1,m1,rfl,f1⟩:=r1.dy;obtain⟨p4,e4,m4,rfl,f4⟩:=r4.dy;obtain⟨p7,e7,m7,rfl,f7⟩:=r7.dy;have f0:=ae f0;have f1:=ae f1;have f4:=ae f4;have f7:=ae f7;subst f0 f1 f4 f7;clear hA;clear hy hR;go_wp2_with fail;refine(db1 r0 r1 r4 r7 (he y hm) aD).h ?_;rintro z w2⟨q0,d0,q1,d1,q4,d4,q7,d7,A,rfl,iL,hA,ay⟩;let⟨HC,kf⟩:=HK.cell ay aH;let⟨u0,k0⟩:=HC 0 af;let⟨u1,k1⟩:=HC 1 af;let⟨u2,k2⟩:=HC 2 af;let⟨u3,k3⟩:=HC 3 af;let⟨u4,k4⟩:=HC 4 af;let⟨u5,k5⟩:=HC 5 af;let⟨u6,k6⟩:=HC 6 af;let⟨u7,k7⟩:=HC 7 af;simp only[DL]at k0;have HN:=ag (HK.step kF.W aH HY ay iL rfl hA);have B2:=ag (Wy (eG (U v.heap)) [.S q0 (J y.A) d0,.S q1 (J y.V) d1,.U y.D,.I y.M,.S q4 (J y.y) d4,.U y.P,.U y.F,.S q7 (J y.X) d7] w2 (k*8) (ai az ay));clear HC HK iL hA ay)
 go_wp2;go_roundw;{exact⟨k+1,af,by go_num,HN,B2⟩};{simp[intOf];omega}};{
 have cL:=fq k n;obtain rfl:k=n:=af;let⟨Ls,ho⟩:=HK.full en;go_wp2;go_ret
 first
   |exact⟨_,_,rfl,ho.ev,az⟩
   |exact⟨_,_,rfl,ho.se,az⟩
   |exact⟨_,_,rfl,ho.no,az⟩
   | (obtain⟨A,hA⟩:=ho.u.pu
      exact⟨_,_,A,rfl,hA,az⟩)}}):q:=h'
def ToE(n:Nat)(l:List Ev)(v:G)(z:Ending)(v':G):Prop:=∃p c,z=dR (.S p n c)/\(sj v' (.S p n c) l/\∃A,qi v' (.S p n c) l A/\gh (U v.heap) v' A)/\Bw v v'
def db4{l:List Ev}(h:qF w (.S p n c) l)(en:J l=n)(j:Mg n)(he:∀y∈l,J y.2<=1048576)(hv:Bw w v):Cp 171 #[.S p n c] v (ToE n l v):=toW
def SeR(v:G)(y:aB)(z:Ending)(v':G):Prop:=∃p c l,z=dR (.agg #[.U y.1,.I y.2.1,.S p (J y.2.2) c])/\mg v' y [.U y.1,.I y.2.1,.S p (J y.2.2) c] l/\gh (U v.heap) v' l/\Bw v v'
def da9{y:aB}(h:qF w (.S p (J y.2.2) c) y.2.2)(hn:J y.2.2<=1048576)(he:∀e∈y.2.2,J e.2<=1048576)(hv:Bw w v):dQ dG 113 #[.agg #[.U y.1,.I y.2.1,.S p (J y.2.2) c]] v (SeR v y):=by
  obtain⟨W1,fx,q1,X,-,-⟩:=bQ v #[.U y.1,.I y.2.1,.S p (J y.2.2) c] 126;obtain⟨W2,fE,q2,s,W,-⟩:=bQ W1 #[.U 0,.I 0,aq] 97;obtain⟨W3,jI,E,r,V,-⟩:=bQ W2 #[.U y.1,.I y.2.1,aq] 97;rw[X]at W s;rw[s]at V r;go_in;go_wp2_with fail;rw[<-fx,<-fE,<-jI];have R:=ai q1 (ai q2 E);refine(db4 h rfl hn he (ai hv R)).h ?_;rintro z u⟨j,m,rfl,⟨hR,A,hL,hA⟩,hb⟩;have D:=(W.H af E).H af hb;have x:=V.H af hb;let⟨n0,n1,n2⟩:=aC7 D.1;have nf:=D.2;let⟨k0,k1,k2⟩:=aC7 x.1;have kf:=x.2;have i:=du hR hL hA;have BB:=ag (ai R hb);have o:=ag r;go_wp2;refine cg (v:=.agg #[.U y.1,.I y.2.1,.S j (J y.2.2) m]) (by simp[results,results113,go_sem,n0,n1,n2]) rfl (WZ λZ N=>?_);have kk:∀b,U W3.heap<=b->Z.heap[b]?=u.heap[b]?:=by have:=ae o;rw[N];exact XM
  have k:∀a∈A,Z.heap[a.b]?=u.heap[a.b]?:=λa ha=>kk a.b (i.2.2.lo a ha);exact⟨j,m,A,rfl,⟨j,m,rfl,i.1.kR i.2.1 k,qi.W i.2.1 k⟩,(i.2.2.W k).h (aK (ae o)),by have:=ae BB;rw[N];exact Vs⟩
def ToS(n:Nat)(l:List aB)(v:G)(z:Ending)(v':G):Prop:=∃p c,z=dR (.S p n c)/\(kV v' (.S p n c) l/\∃A,kG v' (.S p n c) l A/\gh (U v.heap) v' A)/\Bw v v'
def db0{l:List aB}(h:lI w (.S p n c) l)(en:J l=n)(j:Mg n)(he:∀y∈l,J y.2.2<=1048576/\∀e∈y.2.2,J e.2<=1048576)(hv:Bw w v):Cp 57 #[.S p n c] v (ToS n l v):=toW
def OwnT.u{B:Nat}{v:dV}(h:OwnT Q6 27 1 B w v l Ls):gK B w v l:=by
  obtain⟨cs,y,s,r,m,j,-⟩:=h;have e:cs=l.map λx=>[Value.U x]:=Uk λi=>by rw[qn];by_cases q:i<J l;{have a:=bD q;have b:=bD (l:=cs) (i:=i) af;have c:=bD (l:=Ls) (i:=i) af;rw[a,b];exact vJ Y (j i _ _ _ a b c).1};{rw[List.getElem?_eq_none af,List.getElem?_eq_none af];rfl}
  have f:cs.flatten=l.map (Value.int .u64):=by rw[e];clear y s r m j e;induction l with|nil=>rfl|cons x l ih=>simp[ih]
  unfold gK;rw[<-f];exact m
def bK6(h:iZ w (.S p n c) l)(en:J l=n)(j:Mg n)(hv:Bw w v):Cp 172 #[.S p n c] v (ToU n l v):=toW
def aQ.c8(h:aQ w b [v0,v1,v2,v3,v4,v5,v6,v7]):I w (Ad b 0)=v0/\I w (Ad b 1)=v1/\I w (Ad b 2)=v2/\I w (Ad b 3)=v3/\I w (Ad b 4)=v4/\I w (Ad b 5)=v5/\I w (Ad b 6)=v6/\I w (Ad b 7)=v7/\∀o,w.frozen? (Ad b o)=dF:=
  ⟨h.1 0 _ rfl,h.1 1 _ rfl,h.1 2 _ rfl,h.1 3 _ rfl,h.1 4 _ rfl,h.1 5 _ rfl,h.1 6 _ rfl,h.1 7 _ rfl,h.2⟩
def Z7{X:G}(h:O (Bw v X):=by(have:=ae BB;show Below _ _ _;rw[hX];exact Vs)):O (Bw v X):=h
def xW{p:Prop}(h:O p:=by(show _=_;rw[hX];simp)):O p:=h
def XN{p:Prop}(h:p:=by(rw[hX];exact knW)):p:=h
def b4{P R j:List dV}(i:Bw w w')(h:O (Bw v w))(p:O (aQ w b P))(r:O (aQ w c R))(o:O (aQ w d j))(e:b<U w.heap)(f:c<U w.heap)(g:d<U w.heap):O (Bw v w')/\O (aQ w' b P)/\O (aQ w' c R)/\O (aQ w' d j):=⟨ai h i,p.H e i,r.H f i,o.H g i⟩
def NoR(v:G)(y:ar)(z:Ending)(v':G):Prop:=∃o u m s j r i q l,z=dR (.agg #[.S o (J y.A) u,.S m (J y.V) s,.U y.D,.I y.M,.S j (J y.y) r,.U y.P,.U y.F,.S i (J y.X) q])/\kF v' y [.S o (J y.A) u,.S m (J y.V) s,.U y.D,.I y.M,.S j (J y.y) r,.U y.P,.U y.F,.S i (J y.X) q] l/\gh (U v.heap) v' l/\Bw v v'
def db1{p4 p7:OA}{c4 c7:Nat}(r0:Rd w (.S p0 (J y.A) c0) y.A)(r1:Rd w (.S p1 (J y.V) c1) y.V)(r4:iZ w (.S p4 (J y.y) c4) y.y)(r7:iZ w (.S p7 (J y.X) c7) y.X)(W:J y.A<=1048576/\J y.V<=1048576/\J y.y<=1048576/\J y.X<=1048576)(V:Bw w v):dQ dG 114 #[.agg #[.S p0 (J y.A) c0,.S p1 (J y.V) c1,.U y.D,.I y.M,.S p4 (J y.y) c4,.U y.P,.U y.F,.S p7 (J y.X) c7]] v (NoR v y):=by
  obtain⟨W1,fx,b1,z1,m,-⟩:=bQ v #[.S p0 (J y.A) c0,.S p1 (J y.V) c1,.U y.D,.I y.M,.S p4 (J y.y) c4,.U y.P,.U y.F,.S p7 (J y.X) c7] 129;obtain⟨W2,fE,b2,z2,o,-⟩:=bQ W1 #[aq,aq,.U 0,.I 0,aq,.U 0,.U 0,aq] 141;obtain⟨W3,jI,b3,z3,i,-⟩:=bQ W2 #[aq,aq,.U 0,.I 0,aq,.U 0,.U 0,aq] 141;rw[z1]at o z2;rw[z2]at i z3;have BB:=ag (ai b1 (ai b2 b3));have m:=ag ((m.H af b2).H af b3);have o:=ag (o.H af b3);have i:=ag i;have HR:=gI r0 r1 r4 r7;have s3:=ag (aT2 z3.C);go_in;go_wp2_with fail;rw[<-fx,<-fE,<-jI];refine(aJ6 HR.1 rfl W.1 (ai V BB)).h ?_;rintro z w0⟨N,d0,A0,rfl,j,hb⟩;let⟨BB,m,o,i⟩:=b4 hb BB m o i oq oq oq;have a0:=ag hb.size;have j:=ag j;obtain⟨i0,i1,i2,i3,i4,i5,i6,i7,-⟩:=m.c8;have k0:=i.c8;go_wp2_with fail;refine TJ λX0 hX=>?_;have r:∀b,b≠U v.heap+1+1->X0.heap[b]?=w0.heap[b]?:=XN;have i:=ag (aQ.db i 0 aj (.S N (J y.A) d0));rw[<-hX]at i;have m:=ag (m.de (r _ af));have o:=ag (o.de (r _ af));have j:=ag (j.kp λb hb=>r b oq);have BB:O (Bw v X0):=Z7;have x0:O (U X0.heap=U w0.heap):=xW;refine(aJ6 HR.2.1 rfl W.2.1 (ai V BB)).h ?_;rintro z w1⟨E,d1,A1,rfl,q,hb⟩;have j:=ag (j.H hb);let⟨BB,m,o,i⟩:=b4 hb BB m o i oq oq oq;have a1:=ag hb.size;have q:=ag q;obtain⟨i0,i1,i2,i3,i4,i5,i6,i7,-⟩:=m.c8;have k0:=i.c8;go_wp2_with fail;refine TJ λX1 hX=>?_;have r:∀b,b≠U v.heap+1+1->X1.heap[b]?=w1.heap[b]?:=XN;have i:=ag (aQ.db (aQ.db (aQ.db i 1 aj (.S E (J y.V) d1)) 2 aj (.U y.D)) 3 aj (.I y.M));rw[<-hX]at i;have m:=ag (m.de (r _ af));have o:=ag (o.de (r _ af));have j:=ag (j.kp λb hb=>r b oq);have q:=ag (q.kp λb hb=>r b oq);have BB:O (Bw v X1):=Z7;have x1:O (U X1.heap=U w1.heap):=xW;refine(bK6 HR.2.2.1 rfl W.2.2.1 (ai V BB)).h ?_;rintro z w2⟨D,d4,A4,rfl,s,hb⟩;have j:=ag (j.H hb);have q:=ag (q.H hb);let⟨BB,m,o,i⟩:=b4 hb BB m o i oq oq oq;have a2:=ag hb.size;have s:=ag s;obtain⟨i0,i1,i2,i3,i4,i5,i6,i7,-⟩:=m.c8;have k0:=i.c8;go_wp2_with fail;refine TJ λX2 hX=>?_;have r:∀b,b≠U v.heap+1+1->X2.heap[b]?=w2.heap[b]?:=XN;have i:=ag (aQ.db (aQ.db (aQ.db i 4 aj (.S D (J y.y) d4)) 5 aj (.U y.P)) 6 aj (.U y.F));rw[<-hX]at i;have m:=ag (m.de (r _ af));have o:=ag (o.de (r _ af));have j:=ag (j.kp λb hb=>r b oq);have q:=ag (q.kp λb hb=>r b oq);have s:=ag (s.kp λb hb=>r b oq);have BB:O (Bw v X2):=Z7;have x2:O (U X2.heap=U w2.heap):=xW;refine(bK6 HR.2.2.2 rfl W.2.2.2 (ai V BB)).h ?_;rintro z w3⟨q7,d7,A7,rfl,u,hb⟩;have j:=ag (j.H hb);have q:=ag (q.H hb);have s:=ag (s.H hb);let⟨BB,m,o,i⟩:=b4 hb BB m o i oq oq oq;have a3:=ag hb.size;have u:=ag u;obtain⟨i0,i1,i2,i3,i4,i5,i6,i7,-⟩:=m.c8;have k0:=i.c8;let⟨n0,n1,n2,n3,n4,n5,n6,n7,nf⟩:=o.c8;go_wp2;refine cg (v:=.agg #[.S N (J y.A) d0,.S E (J y.V) d1,.U y.D,.I y.M,.S D (J y.y) d4,.U y.P,.U y.F,.S q7 (J y.X) d7]) (by simp[results,results114,go_sem,n0,n1,n2,n3,n4,n5,n6,n7]) rfl (WZ λZ hZ=>?_);have R:∀b,U W3.heap<=b->Z.heap[b]?=w3.heap[b]?:=by have:=ae s3;rw[hZ];exact XM
  have j:=j.kp λb hb=>R b oq;have q:=q.kp λb hb=>R b oq;have s:=s.kp λb hb=>R b oq;have u:=u.kp λb hb=>R b oq;refine⟨N,d0,E,d1,D,d4,q7,d7,A0++(A1++(A4++A7)),rfl,⟨N,d0,E,d1,D,d4,q7,d7,A0,A1,A4,A7,rfl,rfl,⟨j.rd,j.cap,j.lv⟩,⟨q.rd,q.lv⟩,⟨s.rd,s.lv⟩,⟨u.rd,u.lv⟩⟩,?_,by have:=ae BB;rw[hZ];exact Vs⟩;have:=ae s3;have:=ae a0;have:=ae x0;have:=ae a1;have:=ae x1;have:=ae a2;have:=ae x2;have:=ae a3;refine(gh.app j.ap (gh.app q.ap (gh.app s.ap u.ap af λa x=>?_) af λa x=>?_) af λa x=>?_).h af;{have:=s.hi a x;omega};{have:=q.hi a x;omega};{have:=j.hi a x;omega}
def ToN(n:Nat)(l:List ar)(v:G)(z:Ending)(v':G):Prop:=∃p c,z=dR (.S p n c)/\(gJ v' (.S p n c) l/\∃A,lK v' (.S p n c) l A/\gh (U v.heap) v' A)/\Bw v v'
def db2{l:List ar}(h:gJ w (.S p n c) l)(en:J l=n)(j:Mg n)(he:∀y∈l,J y.A<=1048576/\J y.V<=1048576/\J y.y<=1048576/\J y.X<=1048576)(hv:Bw w v):Cp 58 #[.S p n c] v (ToN n l v):=toW
def ToT(S:fG)(v:G)(z:Ending)(v':G):Prop:=∃p c r d j i,z=dR (bS S.e S.g S.x S.t (.S p (J S.E) c) (.S r (J S.N) d))/\vh (U v.heap) v' j i p (J S.E) c r (J S.N) d S.E S.N/\Bw v v'
def vh.kp{B:Nat}{q:OA}(h:vh B w A1 A2 p n c q m d ss ns)(i:∀b,B<=b->w'.heap[b]?=w.heap[b]?):vh B w' A1 A2 p n c q m d ss ns:=h.W λa j=>i _ (h.2.2.2.2.lo a j)
def da8(h1:lI w (.S p (J S.E) c) S.E)(h2:gJ w (.S r (J S.N) d) S.N)(hz:EU S.E S.N<=1048576)(hv:Bw w v):dQ dG 22 #[bS S.e S.g S.x S.t (.S p (J S.E) c) (.S r (J S.N) d)] v (ToT S v):=by
  let⟨m1,m2,m3,m4⟩:=aK8 hz;obtain⟨W1,fx,b1,z1,q,-⟩:=bQ v #[.U S.e,.U S.g,.U S.x,.I S.t,.S p (J S.E) c,.S r (J S.N) d] 31;obtain⟨W2,fE,b2,z2,m,-⟩:=bQ W1 #[.U 0,.U 0,.U 0,.I 0,aq,aq] 41;obtain⟨W3,jI,b3,z3,j,-⟩:=bQ W2 #[.U S.e,.U S.g,.U S.x,.I S.t,aq,aq] 41;rw[z1]at m z2;rw[z2]at j z3;have BB:=ag (ai b1 (ai b2 b3));have q:=ag ((q.H af b2).H af b3);have m:=ag (m.H af b3);have j:=ag j;have s3:=ag (aT2 z3.C);go_in;go_wp2_with fail;rw[<-fx,<-fE,<-jI];refine(db0 h1 rfl m1 m3 (ai hv BB)).h ?_;rintro z u⟨y,D,rfl,⟨N,s,R,V⟩,hb⟩;let⟨BB,q,m,j⟩:=b4 hb BB q m j oq oq oq;have a0:=ag hb.size;have i:=du N R V;obtain⟨i0,i1,i2,i3,i4,i5,-⟩:=q.c6;have k0:=j.c6;go_wp2_with fail;refine TJ λX hX=>?_;have j:=ag (aQ.db j 4 aj (.S y (J S.E) D));rw[<-hX]at j;have kn:∀b,b≠U v.heap+1+1->X.heap[b]?=u.heap[b]?:=XN;have m:=ag (m.de (kn _ af));have kk:∀b,U W3.heap<=b->X.heap[b]?=u.heap[b]?:=λb hb=>kn b oq;have BB:O (Bw v X):=Z7;have x0:O (U X.heap=U u.heap):=xW;have k:∀a∈s,X.heap[a.b]?=u.heap[a.b]?:=λa o=>kk _ (i.2.2.lo a o);have i:=du (i.1.kR i.2.1 k) (kG.W i.2.1 k) (aF (i.2.2.W k) λ(a:Lf)(o:a∈s)=>i.2.2.jY.lt o);refine(db2 h2 rfl m2 m4 (ai hv BB)).h ?_;rintro z w1⟨E,W,rfl,⟨N,A2,R,V⟩,hb⟩;have BB:=ag (ai BB hb);have m:=ag (m.H oq hb);have j:=ag (j.H oq hb);have k:∀a∈s,w1.heap[a.b]?=X.heap[a.b]?:=λa o=>hb.block _ (i.2.2.1.jY.lt o);have iY:O (vh (U W3.heap) w1 s A2 y (J S.E) D E (J S.N) W S.E S.N):=⟨i.1.kR i.2.1 k,N,kG.W i.2.1 k,R,gh.app (i.2.2.1.W k) V oq λa o=>by have:=i.2.2.2 a o;have:=ae x0;omega⟩;have k0:=j.c6;let⟨n0,n1,n2,n3,n4,n5,nf⟩:=m.c6;go_wp2;refine cg (v:=bS S.e S.g S.x S.t (.S y (J S.E) D) (.S E (J S.N) W)) (by simp[results,results22,go_sem,n0,n1,n2,n3,n4,n5]) rfl (WZ λZ hZ=>?_);have e:=iY.kp (w':=Z) (by have:=ae s3;rw[hZ];exact XM);exact⟨y,D,E,W,s,A2,rfl,⟨e.1,e.2.1,e.2.2.1,e.2.2.2.1,e.2.2.2.2.h oq⟩,by have:=ae BB;rw[hZ];exact Vs⟩
def ToR(w:G)(D:Dk)(S:fG)(q:Int)(z:Ending)(w':G):Prop:=∃m u j s i o p c r d,z=dR (vu m u j s i o p c r d D S q)/\(∃M y x,tC (U w.heap) M w' y x m u j s i o p c r d D S)/\Bw w w'
def ag7{D:Dk}(h:Je v p0 c0 p1 c1 p2 c2 p c r d D S)(hz:O (NC D S)):dQ dG 6 #[vu p0 c0 p1 c1 p2 c2 p c r d D S q] v (ToR v D S q):=by
  obtain⟨W1,fx,b1,z1,m,-⟩:=bQ v #[.S p0 (J D.l0) c0,.I D.n0,.S p1 (J D.l1) c1,.I D.n1,.S p2 (J D.l2) c2,.I D.n2,.U S.e,.U S.g,.U S.x,.I S.t,.S p (J S.E) c,.S r (J S.N) d,.U q] 33;obtain⟨W2,fE,b2,z2,j,-⟩:=bQ W1 #[aq,.I 0,aq,.I 0,aq,.I 0,.U 0,.U 0,.U 0,.I 0,aq,aq,.U 0] 43;obtain⟨y,jI,b3,z3,i,-⟩:=bQ W2 #[aq,.I 0,aq,.I 0,aq,.I 0,.U 0,.U 0,.U 0,.I 0,aq,aq,.U 0] 43;rw[z1]at j z2;rw[z2]at i z3;have b:=ai b1 (ai b2 b3);have BB:=ag b;have m:=ag ((m.H af b2).H af b3);have j:=ag (j.H af b3);have i:=ag i;have s3:=ag (aT2 z3.C);have hd:=hz.d;go_in;go_wp2_with fail;rw[<-fx,<-fE,<-jI];refine(db5 p0 p1 p2 c0 c1 c2 D.n0 D.n1 D.n2 D.l0 D.l1 D.l2 y (h.1.H b) (h.2.1.H b) (h.2.2.1.H b) hd).h ?_;rintro z u⟨W,d0,R,d1,N,d2,rfl,o,hb⟩;let⟨BB,m,j,i⟩:=b4 hb BB m j i oq oq oq;have a0:=ag hb.size;have iY:=gI o o.o0.lt o.o1.lt o.o2.lt;let⟨i0,i1,i2,i3,i4,i5,i6,i7,i8,i9,ia,ib,ic⟩:=m.fu;have k0:=i.fu;have kf:=i.2;go_wp2_with fail;refine TJ λX hX=>?_;have i:=ag (aQ.db (aQ.db (aQ.db (aQ.db (aQ.db (aQ.db i 0 aj (.S W (J D.l0) d0)) 1 aj (.I D.n0)) 2 aj (.S R (J D.l1) d1)) 3 aj (.I D.n1)) 4 aj (.S N (J D.l2) d2)) 5 aj (.I D.n2));rw[<-hX]at i;have kn:∀b,b≠U v.heap+1+1->X.heap[b]?=u.heap[b]?:=XN;have j:=ag (j.de (kn _ af));have m:=ag (m.de (kn _ af));have E:∀b,U y.heap<=b->X.heap[b]?=u.heap[b]?:=λb hb=>kn b oq;have BB:O (Bw v X):=Z7;have x0:O (U X.heap=U u.heap):=xW;have HK:=ag E;refine(da8 (h.2.2.2.1) (h.2.2.2.2) hz.s BB).h ?_;rintro z w1⟨p',c',r',d',A1,A2,rfl,hS,hb⟩;have B1:=ag (ai BB hb);have m:=ag (m.H oq hb);have j:=ag (j.H oq hb);have i:=ag (i.H oq hb);have K1:=ag (λ(b:Nat)(h1:U y.heap<=b)(h2:b<U u.heap)=>(hb.block b (aK (ae x0))).Z (ae HK b h1));have HS:=ag hS;have ic:=m.1 12 _ rfl;have k0:=i.fu;have kf:=i.2;have n0:=j.fu;have nf:=j.2;go_wp2;refine cg (v:=vu W d0 R d1 N d2 p' c' r' d' D S q) (by simp[results,results6,go_sem,n0]) rfl (WZ λZ hZ=>?_);have E:∀b,U y.heap<=b->Z.heap[b]?=w1.heap[b]?:=by have:=ae s3;rw[hZ];exact XM
  have hx:=ae x0;have ha:=ae a0;have h3:=ae s3;let⟨⟨o0,o1,o2,e1,e2,e3⟩,t0,t1,t2⟩:=ae iY;have k:∀(V:dV),(∀b,V.ownBlock=Y b->U y.heap<=b/\b<U u.heap)->∀b,V.ownBlock=Y b->Z.heap[b]?=u.heap[b]?:=λV hV b e=>(E b (hV b e).1).Z (ae K1 b (hV b e).1 (hV b e).2);refine⟨W,d0,R,d1,N,d2,p',c',r',d',rfl,⟨U X.heap,A1,A2,⟨Own.h (o0.hp (k _ t0)) af,Own.h (o1.hp (k _ t1)) af,Own.h (o2.hp (k _ t2)) af,e1,e2,e3⟩,?_,af,HS.kp λb h=>E b af⟩,by have:=ae B1;rw[hZ];exact Vs⟩;rintro b(e|e|e);{have:=t0 b e;omega};{have:=t1 b e;omega};{have:=t2 b e;omega}
def taN(t:TypeId)(w:G):(Instr.typeAssert .nilIface t 171 dY).run dG w=.ok (dT #[.agg #[.I 0],.bool dF]) w:=by kernel_rfl
def taS(t:TypeId)(v:dV)(w:G):(Instr.typeAssert (.iface 171 v) t 171 dY).run dG w=.ok (dT #[v,.bool dY]) w:=by kernel_rfl
theorem bM1(P:Program)(b:Nat):∀(vs us i:List dV)(w:G),aQ w b (i++us)->J vs=J us->(∀v∈vs,v.oneCell')->∃X,(storeCells (Ad b 0) vs (J i)).run P w=.ok () X/\aQ X b (i++vs)/\(∀c,c≠b->X.heap[c]?=w.heap[c]?)/\Below b w X
 |[],us,i,w,h,hl,_=>by
  cases us with
  |nil=>exact⟨w,rfl,h,λ_ _=>rfl,aR _ _⟩
  |cons _ _=>simp at hl
 | v::rest,us,i,w,h,hl,h1=>by
  cases us with
  |nil=>simp at hl
  |cons u us=>
   have j:((Ad b 0):Addr).add (J i)=(Ad b (J i)):=by unfold Addr.add;split<;>simp_all
   have D:=h.1 (J i) u aj;have E:(store (((Ad b 0):Addr).add (J i)) v).run P w=.ok () (w.setCell (Ad b (J i)) v):=by rw[j,run_store P w _ v _ (h1 v aj),D];simp[h.2]
   have q:=h.db (J i) aj v;have e:(i++u::us).set (J i) v=(i++[v])++us:=aj;rw[e]at q;let⟨X,m,y,s,r⟩:=bM1 P b rest us (i++[v]) _ q (by simpa using hl) (λx B=>h1 x (by simp[B]));refine⟨X,?_,by simpa using y,λc hc=>(s c hc).Z (fT _ _ _ _ hc),Xc (aD.setCell (p:=(Ad b (J i))) aA _) r⟩;simp only[dm,List.length_singleton]at m;simp only[storeCells,LU,E,al9,m]
variable {a:Act}
def Tg{P:Program}{ops:iQ}{Q:iE}{E:Prop}{t:TypeId}{x y:Operand}(H:aQ w b us)(h1:∀v∈vs,v.oneCell')(hl:J vs=J us)(hK:∀X,aQ X b vs->(∀c,c≠b->X.heap[c]?=w.heap[c]?)->Below b w X->K (a.put o.dst undef) X)(gR:o.guard=dN:=by rfl)(ho:o.op=.store t x y:=by rfl)(hx:a.eval x=Pz b:=by rfl)(hy:a.eval y=.agg vs.toArray:=by rfl)(hs:(sizeOf t).run P w=.ok (J vs) w:=by kernel_rfl):if Region.wanted o (yielded ops a.tmps)then Oper.wp P o a w K Q else E:=by
 have hw:Region.wanted o (yielded ops a.tmps):=by simp[Region.wanted,gR]
 let⟨X,x1,x2,x3,x4⟩:=bM1 P b vs us [] w H hl h1;rw[aM hw];have hr:(execOp a.eval o).run P w=.ok .skip X:=by simp only[yS]at x1;simp only[execOp,ho,hx,hy];simp[Instr.storeAt,Instr.sureAddr,storeVar,hs,Value.cells,x1,go_sem]
 unfold Oper.wp;rw[hr];exact hK X (by simpa using x2) x3 x4
structure sW(P:Program)(ops:iQ)(Q:Exit->Act->List Frame->G->Prop)(l:iN)(a:Act)(cs:List Frame)(w:G):Prop where
 go:wpOpsS P ops Q l a cs w
section
variable {P:Program}{ops:iQ}{Q:Exit->Act->List Frame->World->Prop}{i:Nat}{rest:iN}{a a':Act}{cs qT:List Frame}{w w':World}{o:Oper}{v:Value}
def dl8(hc:recoverD cs=Y (v,qT))(h:sW P ops Q rest a' qT w)(ho:ops[i]?=o:=by(simp only[sV,uA,uz];rfl))(hg:Region.wanted o (yielded ops a.tmps):=by kernel_rfl)(hr:(execOp a.eval o).run P w=.ok .recover w:=by kernel_rfl)(ha:a.put o.dst v=a':=by(simp only[Act.put,xa,xb,xc];rfl)):sW P ops Q (i::rest) a cs w:=by
 constructor;unfold wpOpsS;rw[ho];simp only[hg,od,hr,hc];subst ha;exact h.go
def dl7(hc:recoverD cs=dN)(h:sW P ops Q rest a' cs w)(ho:ops[i]?=o:=by(simp only[sV,uA,uz];rfl))(hg:Region.wanted o (yielded ops a.tmps):=by kernel_rfl)(hr:(execOp a.eval o).run P w=.ok .recover w:=by kernel_rfl)(ha:a.put o.dst .nilIface=a':=by(simp only[Act.put,xa,xb,xc];rfl)):sW P ops Q (i::rest) a cs w:=by
 constructor;unfold wpOpsS;rw[ho];simp only[hg,od,hr,hc];subst ha;exact h.go
def Dy(v:dV)(w':G)(h:sW P ops Q rest a' cs w')(ho:ops[i]?=o:=by(simp only[sV,uA,uz];rfl))(hg:Region.wanted o (yielded ops a.tmps):=by kernel_rfl)(hr:(execOp a.eval o).run P w=.ok (.value v) w':=by kernel_rfl)(ha:a.put o.dst v=a':=by(simp only[Act.put,xa,xb,xc];rfl)):sW P ops Q (i::rest) a cs w:=by
 constructor;unfold wpOpsS;rw[ho];simp only[hg,od,hr];subst ha;exact h.go
def bQ5(w':G)(h:sW P ops Q rest a' cs w')(ho:ops[i]?=o:=by(simp only[sV,uA,uz];rfl))(hg:Region.wanted o (yielded ops a.tmps):=by kernel_rfl)(hr:(execOp a.eval o).run P w=.ok .skip w':=by kernel_rfl)(ha:a.put o.dst undef=a':=by(simp only[Act.put,xa,xb,xc];rfl)):sW P ops Q (i::rest) a cs w:=by
 constructor;unfold wpOpsS;rw[ho];simp only[hg,od,hr];subst ha;exact h.go
def bQ7(h:Q .normal a cs w):sW P ops Q [] a cs w:=by
 constructor;unfold wpOpsS;exact h
end
def eF9(x y z:OA)(w:G):CallsD dG 133 #[dP x,dP y,dP z] .returning w λe u w'=>e=dR (dT #[])/\u=.returning/\Bw w w':=by
 refine callsD_of_wpS func133 rfl λj cs q=>?_;apply wpS_seq;apply wpS_region;rw[ntmps133];show wpOpsS _ _ _ [0,1,2,3,4,5,6,7] {tmps:=#[dP x,dP y,dP z,undef,undef,undef,undef,undef,undef,undef,undef,undef,undef,undef,undef],defers:=[]} _ _;apply sW.go;refine dl7 (by simp[recoverD,q]) ?_;refine Dy (dT #[.agg #[.I 0],.bool dF]) w ?_ (hr:=by simp[go_sem,taN]);refine Dy (dT #[.agg #[.I 0],.bool dF]) w ?_;refine Dy (.agg #[.I 0]) w ?_;refine Dy (.bool dF) w ?_;refine Dy (Pz (U w.heap)) (w.alloc (dO #[.I 0] 171)) ?_;refine bQ5 ((w.alloc (dO #[.I 0] 171)).setCell (Aw w 0) (.I 0)) ?_ (hr:=by simp[go_sem]);refine Dy (.bool dF) ((w.alloc (dO #[.I 0] 171)).setCell (Aw w 0) (.I 0)) ?_;refine bQ7 (wpS_of_wp ?_);have m:Bw w ((w.alloc (dO #[.I 0] 171)).setCell (Aw w 0) (.I 0)):=(aD.alloc aA _).setCell aA _;generalize(w.alloc (dO #[.I 0] 171)).setCell (Aw w 0) (.I 0)=v at m⊢;go_wp2;exact⟨rfl,.returning,by cases j;simp_all,dT #[],by simp[results,results133,go_sem],rfl,rfl,m⟩
def cF5(B:Nat)(k:Int){u8 u9 ua ub uc r0 r1 r2 r3 r4 r5 r6 r7:dV}(hz:B+1+1+1<U w.heap)(h1:∀v∈[v0,v1,v2,v3,v4,v5,v6,v7,v8,v9,va,vb,vc],v.oneCell')(H0:aQ w B [v0,v1,v2,v3,v4,v5,v6,v7,v8,v9,va,vb,vc])(H2:aQ w (B+1+1) [u0,u1,u2,u3,u4,u5,u6,u7,u8,u9,ua,ub,uc])(H3:aQ w (B+1+1+1) [r0,r1,r2,r3,r4,r5,r6,r7]):CallsD dG 133 #[Pz B,Pz (B+1+1),Pz (B+1+1+1)] (.panicking [{v:=.iface 171 (.agg #[.I k]),recovered:=dF}]) w λe u w'=>e=dR (dT #[])/\u=.panicking [{v:=.iface 171 (.agg #[.I k]),recovered:=dY}]/\aQ w' (B+1+1) [v0,v1,v2,v3,v4,v5,v6,v7,v8,v9,va,vb,vc]/\aQ w' (B+1+1+1) [.I k,.U 0,.U 0,.U 0,.I 0,aq,aq,aq]/\Below B w w':=by
 refine callsD_of_wpS func133 rfl λcD0 cs hu=>?_;apply wpS_seq;apply wpS_region;rw[ntmps133];show wpOpsS _ _ _ [0,1,2,3,4,5,6,7] {tmps:=#[Pz B,Pz (B+1+1),Pz (B+1+1+1),undef,undef,undef,undef,undef,undef,undef,undef,undef,undef,undef,undef],defers:=[]} _ _;apply sW.go;refine dl8 (by simp only[recoverD,hu];rfl) ?_;refine Dy (dT #[.agg #[.I k],.bool dY]) w ?_ (hr:=by simp[go_sem,taS]);refine Dy (dT #[.agg #[.I k],.bool dY]) w ?_;refine Dy (.agg #[.I k]) w ?_;refine Dy (.bool dY) w ?_;refine Dy (Pz (U w.heap)) (w.alloc (dO #[.I 0] 171)) ?_;refine bQ5 ((w.alloc (dO #[.I 0] 171)).setCell (Aw w 0) (.I k)) ?_ (hr:=by simp[go_sem]);refine Dy (.bool dY) ((w.alloc (dO #[.I 0] 171)).setCell (Aw w 0) (.I k)) ?_;refine bQ7 (wpS_of_wp ?_);have hb:Bw w ((w.alloc (dO #[.I 0] 171)).setCell (Aw w 0) (.I k)):=(aD.alloc aA _).setCell aA _;have hf:I ((w.alloc (dO #[.I 0] 171)).setCell (Aw w 0) (.I k)) (Aw w 0)=dI k:=by simp[go_sem]
 generalize(w.alloc (dO #[.I 0] 171)).setCell (Aw w 0) (.I k)=v at hb hf⊢;replace H0:=H0.H af hb;replace H2:=H2.H af hb;replace H3:=H3.H af hb;let⟨i0,i1,i2,i3,i4,i5,i6,i7,i8,i9,ia,ib,ic⟩:=H0.fu;have bd:Bw v v.drew:=aD.drew;go_wp2_with fail;refine fk (λw'=>I w' (Ad B 0)=v0/\I w' (Ad B 1)=v1/\I w' (Ad B 2)=v2/\I w' (Ad B 3)=v3/\I w' (Ad B 4)=v4/\I w' (Ad B 5)=v5/\I w' (Ad B 6)=v6/\I w' (Ad B 7)=v7/\I w' (Ad B 8)=v8/\I w' (Ad B 9)=v9/\I w' (Ad B 10)=va/\I w' (Ad B 11)=vb/\I w' (Ad B 12)=vc/\I w' (Aw w 0)=dI k) (by exact⟨i0,i1,i2,i3,i4,i5,i6,i7,i8,i9,ia,ib,ic,hf⟩) λhS=>?_;refine iC 0 1 2 3 hS ?_;refine ew 4 λKK hK=>?_;refine Tg (vs:=[v0,v1,v2,v3,v4,v5,v6,v7,v8,v9,va,vb,vc]) (H2.H (aK hb.size) bd) h1 rfl ?_;intro X x1 x2 x3;refine bL hK (by simp only[gj (x2 B af),gj (x2 (U w.heap) af)];exact hS) λhS=>?_;clear hK KK;refine ew 5 λKK hK=>?_;refine Tg (vs:=[.I k,.U 0,.U 0,.U 0,.I 0,aq,aq,aq]) ((H3.H (aK hb.size) bd).de (x2 _ af)) (by simp[Value.oneCell']) rfl ?_;intro iY y1 y2 y3;refine bL hK (by simp only[gj (y2 B af),gj (y2 (U w.heap) af)];exact hS) λhS=>?_;clear hK KK;refine fy ?_;refine⟨rfl,_,rfl,dT #[],by simp[results,results133,go_sem],rfl,rfl,x1.de (y2 _ af),y1,?_⟩;exact Xc (al8 (ai hb bd) af) (Xc (al8 x3 af) (al8 y3 af))
def nY(X:LI×SD×Int)(s:Nat):Int×LI×SD×Int:=
 if 4611686018427387904<=X.2.2 then(12,X)else if 4000<J X.1+J (nO X.2.2 s)then(11,X)else(0,X.1++nO X.2.2 s,jS X.2.1 s,X.2.2+1)
def EW:LI->Nat->LI×SD×Int->(LI×SD×Int)×Int×Nat
 |[],k,X=>(X,0,k)
 |i::l,k,X=>if(nY X i.toNat).1=0 then EW l (k+1) (nY X i.toNat).2 else(X,(nY X i.toNat).1,k)
structure Nz(X:LI×SD×Int)(l:LI):Prop where
 v:VD X.2.1
 q:0<=X.2.2
 n:J X.1<=4000
 m:∀i∈l,i∈gD X.2.1.E
 p:l.Pairwise (·<·)
def Nz.step{X:LI×SD×Int}(h:Nz X (i::l)):Nz (nY X i.toNat).2 l:=by
 have o:=Ie.1 h.p;have y:=h.v.PI (h.m i aj);have s:((i.toNat:Nat):Int)=i:=af;have hm:∀j∈l,j∈gD X.2.1.E:=λj r=>h.m j (by simp[r]);unfold nY;split;{exact⟨h.v,h.q,h.n,hm,o.2⟩};{split;{exact⟨h.v,h.q,h.n,hm,o.2⟩};{rename_i h1 h2;rw[s];obtain⟨x,u,-,-⟩:=h.v.close (id:=i) af;refine⟨x,(by have:=h.q;show 0<=X.2.2+1;omega),(by show J (X.1++_)<=4000;rw[dm];omega),λj r=>?_,o.2⟩;show j∈gD (jS X.2.1 i).E;rw[u];exact JZ.2 ⟨hm j r,by have:=o.1 j r;simp;omega⟩}}
theorem ah6:∀(l:LI)(k:Nat){X:LI×SD×Int},Nz X l->VD (EW l k X).1.2.1/\(EW l k X).1.1.length<=4000
 |[],k,X,h=>⟨h.v,h.n⟩
 |i::l,k,X,h=>by rw[EW];split;{exact ah6 l (k+1) h.step};{exact⟨h.v,h.n⟩}
def em7(h:i∈oR t ss):i∈gD ss:=by
 obtain⟨s,j,rfl⟩:=fe.1 h;exact fe.2 ⟨s,(JZ.1 j).1,rfl⟩
def VD.swG(h:VD D)(hq:0<=q)(j:J l<=4000):Nz (l,D,q) (oR D.t D.E):=by
 refine⟨h,hq,j,λi m=>em7 m,?_⟩;have:=h.s1;unfold gD at this;unfold oR;exact AH.2 ((AH.1 this).filter _)
def aQ.OG{u8 u9 m j i:dV}(h:aQ w b [u0,u1,u2,u3,u4,u5,u6,u7,u8,u9,m,j,i]):aQ (((((((((((((w.setCell (Ad b 0) v0).setCell (Ad b 1) v1).setCell (Ad b 2) v2).setCell (Ad b 3) v3).setCell (Ad b 4) v4).setCell (Ad b 5) v5).setCell (Ad b 6) v6).setCell (Ad b 7) v7).setCell (Ad b 8) v8).setCell (Ad b 9) v9).setCell (Ad b 10) va).setCell (Ad b 11) vb).setCell (Ad b 12) vc) b [v0,v1,v2,v3,v4,v5,v6,v7,v8,v9,va,vb,vc]:=(((((((((((((h).db 0 (by simp) v0).db 1 (by simp) v1).db 2 (by simp) v2).db 3 (by simp) v3).db 4 (by simp) v4).db 5 (by simp) v5).db 6 (by simp) v6).db 7 (by simp) v7).db 8 (by simp) v8).db 9 (by simp) v9).db 10 (by simp) va).db 11 (by simp) vb).db 12 (by simp) vc
def aQ.p8(h:aQ w b [u0,u1,u2,u3,u4,u5,u6,u7]):aQ ((((((((w.setCell (Ad b 0) v0).setCell (Ad b 1) v1).setCell (Ad b 2) v2).setCell (Ad b 3) v3).setCell (Ad b 4) v4).setCell (Ad b 5) v5).setCell (Ad b 6) v6).setCell (Ad b 7) v7) b [v0,v1,v2,v3,v4,v5,v6,v7]:=((((((((h).db 0 (by simp) v0).db 1 (by simp) v1).db 2 (by simp) v2).db 3 (by simp) v3).db 4 (by simp) v4).db 5 (by simp) v5).db 6 (by simp) v6).db 7 (by simp) v7
def aQ.p6{v0 v1 v2 v3 v4 v5 v6 v7 x u s r q o m j i xa xb:dV}(h:aQ w b [v0,v1,v2,v3,v4,v5,v6,v7,x,u,s,r,q]):aQ ((((((w.setCell (Ad b 6) o).setCell (Ad b 7) m).setCell (Ad b 8) j).setCell (Ad b 9) i).setCell (Ad b 10) xa).setCell (Ad b 11) xb) b [v0,v1,v2,v3,v4,v5,o,m,j,i,xa,xb,q]:=((((((h).db 6 (by simp) o).db 7 (by simp) m).db 8 (by simp) j).db 9 (by simp) i).db 10 (by simp) xa).db 11 (by simp) xb
def aQ.r8(h:aQ w b [v0,v1,v2,v3,v4,v5,v6,v7]):I w (Ad b 0)=v0/\I w (Ad b 1)=v1/\I w (Ad b 2)=v2/\I w (Ad b 3)=v3/\I w (Ad b 4)=v4/\I w (Ad b 5)=v5/\I w (Ad b 6)=v6/\I w (Ad b 7)=v7:=⟨h.1 0 _ rfl,h.1 1 _ rfl,h.1 2 _ rfl,h.1 3 _ rfl,h.1 4 _ rfl,h.1 5 _ rfl,h.1 6 _ rfl,h.1 7 _ rfl⟩
variable {v:dV}
def Own.kp{B:Nat}(o:Own B w v l)(r:∀b,B<=b->w'.heap[b]?=w.heap[b]?):Own B w' v l:=by
 refine⟨o.1,?_⟩;obtain u|⟨g,m,j,rfl,q,s,i⟩:=o.2;{exact .L u};{exact .R ⟨g,m,j,rfl,q,(r g q).Z s,i⟩}
def ko.kp{B:Nat}(h:ko B w v0 v1 v2 l0 l1 l2)(i:∀b,B<=b->w'.heap[b]?=w.heap[b]?):ko B w' v0 v1 v2 l0 l1 l2:={h with o0:=h.o0.kp i,o1:=h.o1.kp i,o2:=h.o2.kp i}
def eO5(w:G)(V:dV)(n0 n1 n2:Int)(l1 i:LI)(X:LI×SD×Int)(s:Nat)(z:Ending)(w':G):Prop:=
 ((∃k,k≠0/\nY X s=(k,X)/\z=dR (dT #[V,gG k 0 0 0 0 aO aO aO]))\/(nY X s=(0,X.1++nO X.2.2 s,jS X.2.1 s,X.2.2+1)/\∃o y m u j q p c r d E R D N B M,z=dR (dT #[vt (.S o (J (X.1++nO X.2.2 s)) y) n0 (.S m (J l1) u) n1 (.S j (J i) q) n2 (jS X.2.1 s).e (jS X.2.1 s).g (jS X.2.1 s).x (jS X.2.1 s).t (.S p (jS X.2.1 s).E.length c) (.S r (jS X.2.1 s).N.length d) (X.2.2+1),gG 0 0 0 0 0 (.S E 0 R) (.S D 0 N) (.S B 0 M)])∧
  ko (U w.heap) w' (.S o (J (X.1++nO X.2.2 s)) y) (.S m (J l1) u) (.S j (J i) q) (X.1++nO X.2.2 s) l1 i/\∃Z W,vh (U w.heap) w' Z W p (jS X.2.1 s).E.length c r (jS X.2.1 s).N.length d (jS X.2.1 s).E (jS X.2.1 s).N))/\Bw w w'
def VD.fs(h:VD D):Fd 51 D.E D.N:=by
 have u:Bs D.E:=λs r=>by let⟨y,j⟩:=(h.s2 s r).q;exact⟨af,λe he=>⟨(j e he).1,aK (j e he).2⟩⟩
 have o:Bn D.N:=λm x=>by have i:=h.n2 m x;have N:=JB i.vp;have M:=i.va;have E:=h.ids i.h1 i.h2;have B:=h.ids i.w1 i.w2;exact⟨i.pb,af,af,af,af⟩
 exact(Fd.of h.ok (QV h.ok u o)).h af
theorem bu7{s:aB}(j:s∈D.E):mW D 3 s.1 0 0 0 [] []=(jS D s.1,js):=by
 have hf:CD 3 s.1 0 0 0 0 0:=by simp[CD,qR,rowOf,Bf]
 have m:¬lW D.E s.1<0:=by
  unfold lW;cases hf:D.E.findIdx? (λy=>y.1==s.1)with
  |some i=>simp
  |none=>
   have:=Xk.1 hf s j;simp at this
 unfold mW;rw[aL (by show¬CD 3 s.1 0 0 0 0 0=dF;rw[hf];simp),An,aL (by simp[m]),An,aM rfl]
def eL8(h:VD D){s:aB}(i:s∈D.E):AP D.e D.g D.x D.t D.E D.N 3 s.1 0 0 0 [] []=(jS D s.1,js):=by
 unfold AP;rw[aM h.ok];exact bu7 i
def Lv(w:G):Prop:=I w (Ad 1 0)=Y (.iface 328 (.agg #[dP (Ad 5 238)]))
def ApC(D:SD)(w:G)(r:Ending)(w':G):Prop:=∃p c q d m u j s i o,r=dR (dT #[bS D.e D.g D.x D.t (.S p (J D.E) c) (.S q (J D.N) d),gG 0 0 0 0 0 (.S m 0 u) (.S j 0 s) (.S i 0 o)])/\(∃B y,vh (U w.heap) w' B y p (J D.E) c q (J D.N) d D.E D.N)/\Bw w w'
def eL4(i:VD D){id:Int}(hm:id∈gD D.E){q:OA}(h1:kV w (.S p (J D.E) c) D.E)(h2:gJ w (.S q (J D.N) d) D.N)(hM:ML w)(hT:qE w)(hE:Lv w):Cp 134 #[bS D.e D.g D.x D.t (.S p (J D.E) c) (.S q (J D.N) d),lM 3 id aq 0 aq 0 0] w (ApC (jS D id) w):=by
 obtain⟨s,m,rfl⟩:=fe.1 hm;have hi:=i.PI hm;have y:=i.close (id:=s.1) af;have hsl:=i.sl;have Ip:=i.nl;refine(dN7 D.e D.g D.x D.t p _ c q _ d D.E D.N rfl rfl 3 s.1 0 0 0 dN 0 0 dN 0 0 [] [] rfl rfl w h1 h2 (Rd.nil _) (Rd.nil _) af af aj aj (ag (cO _)) i.gM i.cQ i.og i.uf hM hT hE (ag λz hz=>by simp at hz) (ag ⟨af,af⟩) (ag ⟨i.g.1,i.x.1⟩) (jS D s.1,js) (eL8 i m) (ag λ_ _ _ _ _ _ _ _ _ cx=>cF6 cx) (ag λ_=>by rw[bu7 m];exact y.1.fs)).h ?_;rintro r w8⟨⟨M,c8,E,d8,v8,B5,w6,rfl,Z8,L8,-,-,j⟩,b8⟩;obtain⟨V,c1,R,c2,N,c3,rfl⟩:=L8;obtain⟨A1,A2,B,W,Z,X,a8⟩:=j;exact⟨M,c8,E,d8,V,c1,R,c2,N,c3,rfl,⟨A1,A2,B,W,Z,X,a8.h Z8.2⟩,b8⟩
def de0{n0 n1 n2:Int}(hV:O (VD D))(hm:O ((s:Int)∈gD D.E))(h0:Rd w (.S p0 (J l0) c0) l0)(h1:Rd w (.S p1 (J l1) c1) l1)(h2:Rd w (.S p2 (J l2) c2) l2)(hS:kV w (.S p (J D.E) c) D.E)(hN:gJ w (.S r (J D.N) d) D.N)(hd:O (mU (J l0) n0 (J l1) n1 (J l2) n2))(m0:J l0<=4000)(m1:J l1<=200000)(m2:J l2<=200000)(q0:0<=q)(hM:ML w)(hT:qE w)(hE:Lv w):Cp 66 #[vt (.S p0 (J l0) c0) n0 (.S p1 (J l1) c1) n1 (.S p2 (J l2) c2) n2 D.e D.g D.x D.t (.S p (J D.E) c) (.S r (J D.N) d) q,lM 3 s aq 0 aq 0 0] w (eO5 w (vt (.S p0 (J l0) c0) n0 (.S p1 (J l1) c1) n1 (.S p2 (J l2) c2) n2 D.e D.g D.x D.t (.S p (J D.E) c) (.S r (J D.N) d) q) n0 n1 n2 l1 l2 (l0,D,q) s):=by
 obtain⟨W0,cI,b0,z0,C0,-⟩:=bQ w #[.S p0 (J l0) c0,.I n0,.S p1 (J l1) c1,.I n1,.S p2 (J l2) c2,.I n2,.U D.e,.U D.g,.U D.x,.I D.t,.S p (J D.E) c,.S r (J D.N) d,.U q] 43;obtain⟨W1,fx,b1,z1,C1,-⟩:=bQ W0 #[.I 3,.U s,aq,.I 0,aq,.U 0,.U 0] 65;obtain⟨W2,fE,b2,z2,C2,-⟩:=bQ W1 #[aq,.I 0,aq,.I 0,aq,.I 0,.U 0,.U 0,.U 0,.I 0,aq,aq,.U 0] 43;obtain⟨W3,jI,b3,z3,C3,-⟩:=bQ W2 #[.I 0,.U 0,.U 0,.U 0,.I 0,aq,aq,aq] 47;rw[z0]at C1 z1;rw[z1]at C2 z2;rw[z2]at C3 z3;have bW:=ai b0 (ai b1 (ai b2 b3));have HC:=ag (λ(v:G)(M:Bw W3 v)=>aF ((((C0.H af b1).H af b2).H af b3).H af M) (aF (((C1.H af b2).H af b3).H af M) (aF ((C2.H af b3).H af M) (aF (C3.H af M) (ai bW M)))));have HE:=ag (λ(v:G)(M:Bw w v)=>aF (h0.H M) (aF (h1.H M) (aF (h2.H M) (aF (hS.H M) (aF (hN.H M) (aF (hM.H M) (aF (show qE v fromλk i1 i2=>(hT k i1 i2).H M) (show Lv v from al hE M))))))));have HZ:=ag z3;have HW:=ag bW;clear C0 C1 C2 C3 b0 b1 b2 b3 z0 z1 z2 z3 h0 h1 h2 hS hN hM hT hE bW;have hmf:∀(fn:Fn)(first cap:iA)(w:G),(Instr.makeFunc fn first cap).run dG w=.ok (.func fn first cap) w:=λ_ _ _ _=>rfl
 go_enter_defers func66,ntmps66
 go_wp2_with fail;rw[<-cI,<-fx,<-fE,<-jI];clear cI fx fE jI;have E3:=ae HE W3 HW;refine(eL4 hV hm E3.2.2.2.1 E3.2.2.2.2.1 E3.2.2.2.2.2.1 E3.2.2.2.2.2.2.1 E3.2.2.2.2.2.2.2).h ?_;rintro z v1⟨p',c',r',d',pa,ca,pb,cb,pc,cc,rfl,⟨A1,A2,S1⟩,au⟩;clear E3;obtain⟨A,eA⟩:∃A,O (jS D s=A):=⟨_,cM⟩;rw[ae eA]at S1⊢;obtain⟨V1,xo,bv,zv,CV,-⟩:=bQ v1 #[.U A.e,.U A.g,.U A.x,.I A.t,.S p' (J A.E) c',.S r' (J A.N) d'] 41;have N:=ai au bv;let⟨H0,H1,H2,H3,BB⟩:=ae HC V1 N;let⟨i0,i1,i2,i3,i4,i5,i6,i7,i8,i9,ia,ib,ic⟩:=H0.fu;let⟨j0,j1,j2,j3,j4,Z,W,V,j8,j9,ja,jb,jc⟩:=H2.fu;have jf:=H2.2;have kf:=H3.2;let⟨o0,o1,o2,o3,o4,o5,o6⟩:=Lg H1.1;let⟨k0,k1,k2,k3,k4,k5,k6,k7⟩:=Nx H3.1;have SN1:=ag (S1.H bv);have KH:=gI H0 H2 H3 CV;have ZV:=ag zv;have B1:=ag au;have B2:=ag N;have HBB:=ag BB;have HCV:=ag CV;clear H0 H1 H2 H3 BB S1 au N bv CV zv;have t6:I V1 (Ad 0 27)=Y (.bool dY):=((ae HE V1 HBB).2.2.2.2.2.2.1 3 af af).2.2.2.2.2.2;subst xo;go_wp2_with fail;refine TJ λX hX=>?_;have F0:O (aQ X (U w.heap) [.S p0 (J l0) c0,.I n0,.S p1 (J l1) c1,.I n1,.S p2 (J l2) c2,.I n2,.U D.e,.U D.g,.U D.x,.I D.t,.S p (J D.E) c,.S r (J D.N) d,.U q]):=by
  show aQ _ _ _;refine KH.1.de ?_;rw[hX]
  iterate 21 (refine(fT _ _ _ _ (by dsimp only;omega)).Z ?_)
  rfl
 have BX:O (Bw w X):=by
  show Below _ _ _;rw[hX]
  iterate 21 (refine Below.setCell ?_ (by dsimp only;omega) _)
  exact HBB
 have F2:O (aQ X (U w.heap+1+1) [.S p0 (J l0) c0,.I n0,.S p1 (J l1) c1,.I n1,.S p2 (J l2) c2,.I n2,.U D.e,.U D.g,.U D.x,.I D.t,.S p (J D.E) c,.S r (J D.N) d,.U q]):=by
  show aQ _ _ _;rw[hX];refine aQ.OG (aQ.de KH.2.1 ?_)
  iterate 8 (refine(fT _ _ _ _ (by dsimp only;omega)).Z ?_)
  rfl
 have F3:O (aQ X (U w.heap+1+1+1) [.I 0,.U 0,.U 0,.U 0,.I 0,.S pa 0 ca,.S pb 0 cb,.S pc 0 cc]):=by
  show aQ _ _ _;rw[hX];refine aQ.de (aQ.p8 KH.2.2.1) ?_
  iterate 13 (refine(fT _ _ _ _ (by dsimp only;omega)).Z ?_)
  rfl
 have FV:O (aQ X (U v1.heap) [.U A.e,.U A.g,.U A.x,.I A.t,.S p' (J A.E) c',.S r' (J A.N) d']):=by
  show aQ _ _ _;refine KH.2.2.2.de ?_;rw[hX]
  iterate 21 (refine(fT _ _ _ _ (by have:=ae HZ;have:=B1.size;dsimp only;omega)).Z ?_)
  rfl
 have SX:O (vh (U W3.heap) X A1 A2 p' (J A.E) c' r' (J A.N) d' A.E A.N):=by
  show vh _ _ _ _ _ _ _ _ _ _ _ _;refine SN1.kp λb hb=>?_;rw[hX]
  iterate 21 (refine(fT _ _ _ _ (by have:=ae HZ;dsimp only;omega)).Z ?_)
  rfl
 have ZX:O (U v1.heap<U X.heap/\U W3.heap<=U v1.heap):=⟨jO X (Aw v1 0) (FV.1 0 _ rfl),B1.size⟩;clear hX KH SN1 B2 HBB HCV t6 i0 i1 i2 i3 i4 i5 i6 i7 i8 i9 ia ib ic j0 j1 j2 j3 j4 Z W V j8 j9 ja jb jc o0 o1 o2 o3 o4 o5 o6 k0 k1 k2 k3 k4 k5 k6 k7 jf kf;have E:=ae HE X BX;refine(dq6 p0 p1 p2 c0 c1 c2 n0 n1 n2 D.e D.g D.x D.t q l0 l1 l2 p (J D.E) c r (J D.N) d s (aK (hV.PI hm)) X E.1 E.2.1 E.2.2.1 hd m0 m1 m2 q0 E.2.2.2.2.2.2.1).h ?_;clear E;rintro z v2⟨hR,N⟩;have zz:=ae ZX;have z3:=ae HZ;have BB:=ai BX N;have G0:=F0.H af N;have G2:=F2.H af N;have G3:=F3.H af N;have GV:=FV.H af N;have GS:=SX.H N;have z2:=N.size;clear F0 F2 F3 FV SX BX ZX HE HW HC N;obtain⟨hq,rfl⟩|⟨hq,hf,rfl⟩|⟨hq,hf,P0,e0,P1,e1,P2,e2,rfl,O3⟩:=hR;{
 have hs:nY (l0,D,q) s=(12,(l0,D,q)):=by unfold nY;rw[aM hq]
 have HS:=ag hs;have m:=gI G0 G2 G3 BB;have hz:U w.heap+1+1+1<U v2.heap:=af;clear G0 G2 G3 GV GS BB zz z3 hs;go_wp2_with fail;refine leaves_cons (f:=133) (args:=#[Pz (U w.heap),Pz (U w.heap+1+1),Pz (U w.heap+1+1+1)]) aj (by simp[go_sem]) ((cF5 (U w.heap) 12 hz (by simp[Value.oneCell']) m.1 m.2.1 m.2.2.1).mono ?_);rintro e u w9⟨rfl,rfl,g2,g3,R⟩;let⟨i0,i1,i2,i3,i4,i5,i6,i7,i8,i9,ia,ib,ic⟩:=g2.fu;let⟨j0,j1,j2,j3,j4,Z,W,V⟩:=g3.c8;exact⟨dT #[vt (.S p0 (J l0) c0) n0 (.S p1 (J l1) c1) n1 (.S p2 (J l2) c2) n2 D.e D.g D.x D.t (.S p (J D.E) c) (.S r (J D.N) d) q,gG 12 0 0 0 0 aO aO aO],by simp[results,results66,go_sem,i0,i1,i2,i3,i4,i5,i6,i7,i8,i9,ia,ib,ic,j0,j1,j2,j3,j4,Z,W,V],.L ⟨12,bf,HS,rfl⟩,m.2.2.2.Z R⟩};{
 have hs:nY (l0,D,q) s=(11,(l0,D,q)):=by unfold nY;rw[if_neg (by dsimp only;omega),if_pos hf]
 have HS:=ag hs;have m:=gI G0 G2 G3 BB;have hz:U w.heap+1+1+1<U v2.heap:=af;clear G0 G2 G3 GV GS BB zz z3 hs;go_wp2_with fail;refine leaves_cons (f:=133) (args:=#[Pz (U w.heap),Pz (U w.heap+1+1),Pz (U w.heap+1+1+1)]) aj (by simp[go_sem]) ((cF5 (U w.heap) 11 hz (by simp[Value.oneCell']) m.1 m.2.1 m.2.2.1).mono ?_);rintro e u w9⟨rfl,rfl,g2,g3,R⟩;let⟨i0,i1,i2,i3,i4,i5,i6,i7,i8,i9,ia,ib,ic⟩:=g2.fu;let⟨j0,j1,j2,j3,j4,Z,W,V⟩:=g3.c8;exact⟨dT #[vt (.S p0 (J l0) c0) n0 (.S p1 (J l1) c1) n1 (.S p2 (J l2) c2) n2 D.e D.g D.x D.t (.S p (J D.E) c) (.S r (J D.N) d) q,gG 11 0 0 0 0 aO aO aO],by simp[results,results66,go_sem,i0,i1,i2,i3,i4,i5,i6,i7,i8,i9,ia,ib,ic,j0,j1,j2,j3,j4,Z,W,V],.L ⟨11,bf,HS,rfl⟩,m.2.2.2.Z R⟩};{
 have hs:nY (l0,D,q) s=(0,l0++nO q s,jS D s,q+1):=by unfold nY;rw[if_neg (by dsimp only;omega),if_neg (by dsimp only;omega)]
 have HS:=ag hs;obtain⟨L,eL⟩:∃L,O (l0++nO q s=L):=⟨_,cM⟩;rw[ae eL]at O3⊢;have m:=mX G2 G3 GS BB O3;let⟨j0,j1,j2,j3,j4,Z,W,V,j8,j9,ja,jb,jc⟩:=G2.fu;have jf:=G2.2;let⟨s0,s1,s2,s3,s4,s5⟩:=yx GV.1;have nF:¬U v1.heap=U w.heap+1+1:=af;have ZZ:=du zz z3 z2;clear G0 G2 G3 GV GS BB zz z3 z2 O3 hs;go_wp2_with fail
 go_name_world iY hY
 have K2:O (aQ iY (U w.heap+1+1) [.S P0 (J L) e0,.I n0,.S P1 (J l1) e1,.I n1,.S P2 (J l2) e2,.I n2,.U A.e,.U A.g,.U A.x,.I A.t,.S p' (J A.E) c',.S r' (J A.N) d',.U (q+1)]):=by show aQ _ _ _;rw[<-hY];exact aQ.p6 (aQ.OG m.1)
 have KX:O (∀b,U w.heap+1+1≠b->iY.heap[b]?=v2.heap[b]?):=λb hb=>by
  rw[<-hY]
  iterate 19 (refine(fT _ _ _ _ (by dsimp only;omega)).Z ?_)
  rfl
 have KB:O (Bw w iY):=by
  show Below _ _ _;rw[<-hY]
  iterate 19 (refine Below.setCell ?_ (by dsimp only;omega) _)
  exact m.2.2.2.1
 have K3:=ag (m.2.1.de (ae KX (U w.heap+1+1+1) af));clear hY j0 j1 j2 j3 j4 Z W V j8 j9 ja jb jc jf s0 s1 s2 s3 s4 s5 nF;have hzY:O (U w.heap+1+1+1<U iY.heap):=jO iY (Ad (U w.heap+1+1+1) 0) (K3.1 0 _ rfl);have bd:Bw iY iY.drew:=aD.drew;refine fk (λj=>(I j (Ad (U w.heap+1+1) 0)=dS P0 (J L) e0/\I j (Ad (U w.heap+1+1) 1)=dI n0/\I j (Ad (U w.heap+1+1) 2)=dS P1 (J l1) e1/\I j (Ad (U w.heap+1+1) 3)=dI n1/\I j (Ad (U w.heap+1+1) 4)=dS P2 (J l2) e2/\I j (Ad (U w.heap+1+1) 5)=dI n2/\I j (Ad (U w.heap+1+1) 6)=dU A.e/\I j (Ad (U w.heap+1+1) 7)=dU A.g/\I j (Ad (U w.heap+1+1) 8)=dU A.x/\I j (Ad (U w.heap+1+1) 9)=dI A.t/\I j (Ad (U w.heap+1+1) 10)=dS p' (J A.E) c'/\I j (Ad (U w.heap+1+1) 11)=dS r' (J A.N) d'/\I j (Ad (U w.heap+1+1) 12)=dU (q+1))/\I j (Ad (U w.heap+1+1+1) 0)=dI 0/\I j (Ad (U w.heap+1+1+1) 1)=dU 0/\I j (Ad (U w.heap+1+1+1) 2)=dU 0/\I j (Ad (U w.heap+1+1+1) 3)=dU 0/\I j (Ad (U w.heap+1+1+1) 4)=dI 0/\I j (Ad (U w.heap+1+1+1) 5)=dS pa 0 ca/\I j (Ad (U w.heap+1+1+1) 6)=dS pb 0 cb/\I j (Ad (U w.heap+1+1+1) 7)=dS pc 0 cc) (by exact⟨K2.fu,K3.r8⟩) λhS=>?_;refine fO 0 1 hS ?_;refine ew 2 λKK hK=>?_;refine Tg (vs:=[Value.slice P0 (J L) e0,.I n0,.S P1 (J l1) e1,.I n1,.S P2 (J l2) e2,.I n2,.U A.e,.U A.g,.U A.x,.I A.t,.S p' (J A.E) c',.S r' (J A.N) d',.U (q+1)]) (K2.H (aK (ae hzY)) bd) (by simp[Value.oneCell']) rfl ?_;intro Y1 y1 y2 y3;have q3:=((K3.H hzY bd).de (y2 (U w.heap+1+1+1) af));refine bL hK (by exact⟨y1.fu,q3.r8⟩) λhS=>?_;clear hK KK;refine ew 3 λKK hK=>?_;refine Tg (vs:=[Value.I 0,.U 0,.U 0,.U 0,.I 0,.S pa 0 ca,.S pb 0 cb,.S pc 0 cc]) q3 (by simp[Value.oneCell']) rfl ?_;intro Y2 u1 u2 u3;have q2:=y1.de (u2 (U w.heap+1+1) af);refine bL hK (by exact⟨q2.fu,u1.r8⟩) λhS=>?_;clear hK KK;refine fy ?_;have HF:=du q2 u1 (λ(b:Nat)(h1:U w.heap+1+1≠b)(h2:U w.heap+1+1+1≠b)=>(u2 b (Fw h2)).Z ((y2 b (Fw h1)).Z (ae KX b h1)));have HB:=ag ((ai KB bd).Z ((y3.h af).Z (u3.h af)));clear hS q2 q3 u1 u2 u3 y1 y2 y3 bd K2 K3 KB;go_wp2_with fail;refine leaves_cons (f:=133) (args:=#[Pz (U w.heap),Pz (U w.heap+1+1),Pz (U w.heap+1+1+1)]) aj (by simp[go_sem]) ((eF9 _ _ _ Y2).mono ?_);rintro e u w9⟨rfl,rfl,R⟩;have fI:U w.heap+1+1+1<U Y2.heap:=jO Y2 (Ad (U w.heap+1+1+1) 0) (HF.2.1.1 0 _ rfl);let⟨i0,i1,i2,i3,i4,i5,i6,i7,i8,i9,ia,ib,ic⟩:=(HF.1.H af R).fu;let⟨j0,j1,j2,j3,j4,Z,W,V⟩:=(HF.2.1.H fI R).r8;refine⟨dT #[vt (.S P0 (J L) e0) n0 (.S P1 (J l1) e1) n1 (.S P2 (J l2) e2) n2 A.e A.g A.x A.t (.S p' (J A.E) c') (.S r' (J A.N) d') (q+1),gG 0 0 0 0 0 (.S pa 0 ca) (.S pb 0 cb) (.S pc 0 cc)],by simp[results,results66,go_sem,i0,i1,i2,i3,i4,i5,i6,i7,i8,i9,ia,ib,ic,j0,j1,j2,j3,j4,Z,W,V],.R ⟨HS,?_⟩,ai (ae HB) R⟩;dsimp only;rw[ae eL,ae eA];have zz:=ae ZZ;have hk:∀b,U w.heap+1+1+1<b->Y2.heap[b]?=v2.heap[b]?:=λb hb=>HF.2.2 b af af;have S9:=(m.2.2.1.kp λb hb=>hk b af).H R;exact⟨P0,e0,P1,e1,P2,e2,p',c',r',d',pa,ca,pb,cb,pc,cc,rfl,((m.2.2.2.2.kp λb hb=>hk b af).H R).h af,A1,A2,S9.1,S9.2.1,S9.2.2.1,S9.2.2.2.1,S9.2.2.2.2.h af⟩}
structure Bx(B:Nat)(w v:G):Prop where
 b:Below B w v
 k:∀b,B+2<b->b<U w.heap->v.heap[b]?=w.heap[b]?
def Bx.refl(B:Nat)(w:G):Bx B w w:=⟨aR _ _,λ_ _ _=>rfl⟩
def Bx.Z{B:Nat}{u v w:G}(h:Bx B u v)(k:Bx B v w):Bx B u w:=⟨h.b.Z k.b,λb j i=>(k.k b j (ku i h.b.size)).Z (h.k b j i)⟩
def Bx.of{B:Nat}{v:G}(h:Bw v w)(i:B<=U v.heap):Bx B v w:=⟨h.h i,λb _ j=>h.block b j⟩
def YF{B b:Nat}(h:b≠B):(((((((((((((w.setCell (Ad B 0) v0).setCell (Ad B 1) v1).setCell (Ad B 2) v2).setCell (Ad B 3) v3).setCell (Ad B 4) v4).setCell (Ad B 5) v5).setCell (Ad B 6) v6).setCell (Ad B 7) v7).setCell (Ad B 8) v8).setCell (Ad B 9) v9).setCell (Ad B 10) va).setCell (Ad B 11) vb).setCell (Ad B 12) vc).heap[b]?=w.heap[b]?:=by
 iterate 13 (refine(fT _ _ _ _ (by exact h)).Z ?_)
 rfl
def aC0{B:Nat}{u w:G}(h:Below B u w):Below B u (((((((((((((w.setCell (Ad B 0) v0).setCell (Ad B 1) v1).setCell (Ad B 2) v2).setCell (Ad B 3) v3).setCell (Ad B 4) v4).setCell (Ad B 5) v5).setCell (Ad B 6) v6).setCell (Ad B 7) v7).setCell (Ad B 8) v8).setCell (Ad B 9) v9).setCell (Ad B 10) va).setCell (Ad B 11) vb).setCell (Ad B 12) vc):=by
 iterate 13 (refine Below.setCell ?_ (by dsimp only;omega) _)
 exact h
def Bx.OG{B:Nat}{u w:G}(h:Bx B u w):Bx B u (((((((((((((w.setCell (Ad B 0) v0).setCell (Ad B 1) v1).setCell (Ad B 2) v2).setCell (Ad B 3) v3).setCell (Ad B 4) v4).setCell (Ad B 5) v5).setCell (Ad B 6) v6).setCell (Ad B 7) v7).setCell (Ad B 8) v8).setCell (Ad B 9) v9).setCell (Ad B 10) va).setCell (Ad B 11) vb).setCell (Ad B 12) vc):=⟨aC0 h.b,λb j i=>(YF (by omega)).Z (h.k b j i)⟩
variable {t:TypeId}
def cZ9{B:Nat}(h:∃i,w.heap[B]?=dO i t):∃i,(((((((((((((w.setCell (Ad B 0) v0).setCell (Ad B 1) v1).setCell (Ad B 2) v2).setCell (Ad B 3) v3).setCell (Ad B 4) v4).setCell (Ad B 5) v5).setCell (Ad B 6) v6).setCell (Ad B 7) v7).setCell (Ad B 8) v8).setCell (Ad B 9) v9).setCell (Ad B 10) va).setCell (Ad B 11) vb).setCell (Ad B 12) vc).heap[B]?=dO i t:=by
 iterate 13 (refine(nW ?_).1)
 exact h
def ey7(h:mU n s0 n1 s1 n2 s2)(j:n<=m)(i:m<=200000):mU m s0 n1 s1 n2 s2:=by
 unfold mU lT at h⊢;simp only[gL,jX]at h⊢;omega
structure Pt where
 p0:OA
 c0:Nat
 p1:OA
 c1:Nat
 p2:OA
 c2:Nat
 p:OA
 c:Nat
 r:OA
 d:Nat
structure Dm where
 n0:Int
 l1:LI
 n1:Int
 l2:LI
 n2:Int
abbrev pQ:=LI×SD×Int
abbrev wu(A:Pt)(M:Dm)(X:pQ):dV:=vt (.S A.p0 (J X.1) A.c0) M.n0 (.S A.p1 (J M.l1) A.c1) M.n1 (.S A.p2 (J M.l2) A.c2) M.n2 X.2.1.e X.2.1.g X.2.1.x X.2.1.t (.S A.p (J X.2.1.E) A.c) (.S A.r (J X.2.1.N) A.d) X.2.2
abbrev vw(A:Pt)(M:Dm)(X:pQ):List dV:=[.S A.p0 (J X.1) A.c0,.I M.n0,.S A.p1 (J M.l1) A.c1,.I M.n1,.S A.p2 (J M.l2) A.c2,.I M.n2,.U X.2.1.e,.U X.2.1.g,.U X.2.1.x,.I X.2.1.t,.S A.p (J X.2.1.E) A.c,.S A.r (J X.2.1.N) A.d,.U X.2.2]
abbrev Li(v:G)(b:Nat)(A:Pt)(M:Dm)(X:pQ):Prop:=I v (Ad b 0)=dS A.p0 (J X.1) A.c0/\I v (Ad b 1)=dI M.n0/\I v (Ad b 2)=dS A.p1 (J M.l1) A.c1/\I v (Ad b 3)=dI M.n1/\I v (Ad b 4)=dS A.p2 (J M.l2) A.c2/\I v (Ad b 5)=dI M.n2/\I v (Ad b 6)=dU X.2.1.e/\I v (Ad b 7)=dU X.2.1.g/\I v (Ad b 8)=dU X.2.1.x/\I v (Ad b 9)=dI X.2.1.t/\I v (Ad b 10)=dS A.p (J X.2.1.E) A.c/\I v (Ad b 11)=dS A.r (J X.2.1.N) A.d/\I v (Ad b 12)=dU X.2.2
abbrev zS:List dV:=[aq,.I 0,aq,.I 0,aq,.I 0,.U 0,.U 0,.U 0,.I 0,aq,aq,.U 0]
abbrev zR:List dV:=[.I 0,.U 0,.U 0,.U 0,.I 0,aq,aq,aq]
def Er(w:G)(A:Pt)(M:Dm)(X:pQ):Prop:=Rd w (.S A.p0 (J X.1) A.c0) X.1/\Rd w (.S A.p1 (J M.l1) A.c1) M.l1/\Rd w (.S A.p2 (J M.l2) A.c2) M.l2/\kV w (.S A.p (J X.2.1.E) A.c) X.2.1.E/\gJ w (.S A.r (J X.2.1.N) A.d) X.2.1.N
def Er.H{A:Pt}{M:Dm}{X:pQ}(h:Er w A M X)(i:Bw w w'):Er w' A M X:=⟨h.1.H i,h.2.1.H i,h.2.2.1.H i,h.2.2.2.1.H i,h.2.2.2.2.H i⟩
def Aq(B:Nat)(w:G)(A:Pt)(M:Dm)(X:pQ):Prop:=∀v,Bx B w v->Er v A M X
def ds1{B S:Nat}{A:Pt}{M:Dm}{X:pQ}(o:ko S w (.S A.p0 (J X.1) A.c0) (.S A.p1 (J M.l1) A.c1) (.S A.p2 (J M.l2) A.c2) X.1 M.l1 M.l2)(s:vh S w A1 A2 A.p (J X.2.1.E) A.c A.r (J X.2.1.N) A.d X.2.1.E X.2.1.N)(u:B+2<S):Aq B w A M X:=λv m=>by
 have k:∀b,S<=b->b<U w.heap->v.heap[b]?=w.heap[b]?:=λb x q=>m.k b af q;have i:=s.W (w':=v) λa j=>k a.b (s.2.2.2.2.lo a j) (s.2.2.2.2.jY.lt j);exact⟨(o.o0.hp λb e=>k b (o.o0.lt b e).1 (o.o0.lt b e).2).rd,(o.o1.hp λb e=>k b (o.o1.lt b e).1 (o.o1.lt b e).2).rd,(o.o2.hp λb e=>k b (o.o2.lt b e).1 (o.o2.lt b e).2).rd,i.1,i.2.1⟩
structure VX(M:Dm)(X:pQ):Prop where
 d:mU (J X.1) M.n0 (J M.l1) M.n1 (J M.l2) M.n2=dY
 m1:J M.l1<=200000
 m2:J M.l2<=200000
def VX.grow{M:Dm}{X i:pQ}(h:VX M X)(j:J X.1<=J i.1)(m:J i.1<=4000):VX M i:=⟨ey7 h.d j (by omega),h.m1,h.m2⟩
def de1(X:pQ)(s:Nat):J X.1<=(nY X s).2.1.length:=by
 unfold nY;split;{exact eG _};{split;{exact eG _};{show _<=J (X.1++_);rw[dm];omega}}
def Lh(L:LI)(M:Dm)(T:pQ×Int×Nat)(k:Nat)(X:pQ):Prop:=EW (L.drop k) k X=T/\Nz X (L.drop k)/\VX M X
def Lh.next{M:Dm}{T:pQ×Int×Nat}{X:pQ}(h:Lh L M T k X)(x:L[k]?=i):∃s:Nat,i=s/\s<2^64/\VD X.2.1/\(s:Int)∈gD X.2.1.E/\((nY X s).1≠0->(X,(nY X s).1,k)=T)/\((nY X s).1=0->Lh L M T (k+1) (nY X s).2):=by
 have q:L.drop k=i::L.drop (k+1):=by obtain⟨u,rfl⟩:=bg.1 x;exact Hu u
 obtain⟨j,o,y⟩:=h;rw[q]at j o;have hm:=o.m i aj;have B:=o.v.PI hm;have r:=o.step;obtain⟨s,rfl⟩:∃s:Nat,i=s:=⟨i.toNat,af⟩;rw[EW,uC]at j;rw[uC]at r;refine⟨s,rfl,af,o.v,hm,λe=>?_,λe=>⟨?_,r,y.grow (de1 X s) r.n⟩⟩;{rw[aL e]at j;exact j};{rw[aM e]at j;exact j}
def SwR(w:G)(M:Dm)(T:pQ×Int×Nat)(z:Ending)(w':G):Prop:=∃A,z=dR (dT #[wu A M T.1,gG T.2.1 0 0 0 T.2.2 aO aO aO])/\Er w' A M T.1/\Bw w w'
def cg9{B:Nat}{w u:G}(h:gK B w (.S p n c) L)(m:∀b,B<=b->b<U w.heap->u.heap[b]?=w.heap[b]?)(r:L[k]?=i):∃g o,p=(Ad g o)/\I u (Ad g (o+k))=dU i:=by
 let⟨q,d,e,s⟩:=(h.W (w':=u) λb e=>m b (h.lt b e).1 (h.lt b e).2).rd;obtain⟨rfl,-,-⟩:=jJ e;obtain⟨j,rfl⟩:=bg.1 r;obtain D|⟨b,o,y,x⟩:=s;{subst D;simp at j};{refine⟨b,o,y,(x k j).Z ?_⟩;simp[im,j]}
variable {S:iP}
def LK{Q:iE}(i j:Nat){o o':Oper}{t t':TypeId}{x y x' y':Operand}{us' vs':List dV}(H:aQ w b us)(H':aQ w b' us')(aN:b≠b')(hl:J vs=J us/\J vs'=J us'/\(∀v∈vs,v.oneCell')/\∀v∈vs',v.oneCell')(hS:∀w',(∀c,c≠b->c≠b'->w'.heap[c]?=w.heap[c]?)->S w')(hQ:∀w',aQ w' b vs->aQ w' b' vs'->(∀c,c≠b->c≠b'->w'.heap[c]?=w.heap[c]?)->(∀B,B<=b->B<=b'->Below B w w')->Q .normal a w')(qc:Region.ready md ops listed=[i]:=by kernel_rfl)(iw:Region.ready md ops (listed.setIfInBounds i dY)=[j]:=by kernel_rfl)(rA:Region.ready md ops ((listed.setIfInBounds i dY).setIfInBounds j dY)=[]:=by kernel_rfl)(ho:ops[i]?=o:=by(simp only[sV,uA,uz];rfl))(xT:ops[j]?=o':=by(simp only[sV,uA,uz];rfl))(g:o.guard=dN:=by rfl)(g':o'.guard=dN:=by rfl)(d:o.dst=dN:=by rfl)(d':o'.dst=dN:=by rfl)(p:o.op=.store t x y:=by rfl)(p':o'.op=.store t' x' y':=by rfl)(hx:a.eval x=Pz b:=by rfl)(yY:a.eval x'=Pz b':=by rfl)(hy:a.eval y=.agg vs.toArray:=by rfl)(hy':a.eval y'=.agg vs'.toArray:=by rfl)(hs:∀w,(sizeOf t).run dG w=.ok (J vs) w:=by(intro _;kernel_rfl))(qO:∀w,(sizeOf t').run dG w=.ok (J vs') w:=by(intro _;kernel_rfl)):wpAnyH dG md ops Q S 2 listed a w:=by
 have d0:∀v,a.put o.dst v=a:=λv=>by rw[d];rfl
 have d1:∀v,a.put o'.dst v=a:=λv=>by rw[d'];rfl
 refine TQ qc aj (TM ho (λKK hK=>?_) fg);refine Tg H hl.2.2.1 hl.1 ?_ g p hx hy (hs w);intro X x1 x2 x3;rw[d0];refine hK.out _ _ (hS X λc h1 _=>x2 c h1) (λ_=>?_);refine TQ iw aj (TM xT (λKK hK=>?_) fg);refine Tg (H'.de (x2 b' (Fw aN))) hl.2.2.2 hl.2.1 ?_ g' p' yY hy' (qO X);intro iY y1 y2 y3;rw[d1];have k:∀c,c≠b->c≠b'->iY.heap[c]?=w.heap[c]?:=λc h1 h2=>(y2 c h2).Z (x2 c h1);refine hK.out _ _ (hS iY k) (λ_=>?_);exact Xd rA (hQ iY (x1.de (y2 b aN)) y1 k λB h1 h2=>(x3.h h1).Z (y3.h h2)) _
def Own.T{T:List TypeId}{B:Nat}(h:Own B w v l)(hf:Fr T w w')(ht:5∉T:=by decide):Own B w' v l:=h.hp λb e=>by
 obtain⟨rfl,-⟩|⟨g,cap,cur,rfl,-,hg,-⟩:=h.2;{cases e};{simp only[Value.ownBlock,mn]at e;subst e;exact(hf.2 _ _ _ _ ht hg).Z hg.C}
def uo.T{v:G}(h:uo b w v)(hb:w.heap[b]?=dO cs ty):Fr [ty] w v:=⟨h.1,λy cur Hh m' hn hy=>by
 by_cases e:y=b;{subst e;rw[hb]at hy;cases hy;exact absurd (pY.2 rfl) hn};{exact(h.2 y (sF hy) e).Z hy}⟩
def TC.off{B:Nat}(h:TC B w v l)(y:∀b,B<=b->b<U w.heap->w'.heap[b]?=w.heap[b]?):TC B w' v l:=by
 obtain⟨⟨p,c,rfl,j⟩,E,hc⟩:=h;by_cases q:l=[];{exact⟨⟨p,c,rfl,.L q⟩,λb _=>.L q,hc⟩};obtain j|⟨b,o,rfl,j⟩:=j;{exact absurd j q};let⟨u,r,m,s⟩:=(E b rfl).resolve_left q;have e:=y b u (sF s);refine⟨⟨_,c,rfl,.R ⟨b,o,rfl,λi D=>(gj e _).Z (j i D)⟩⟩,λM x=>.R ?_,hc⟩;simp only[Value.ownBlock,mn]at x;subst x;exact⟨u,r,m,e.Z s⟩
def TU.off{B:Nat}(h:TU B w v l)(j:∀b,B<=b->b<U w.heap->w'.heap[b]?=w.heap[b]?):TU B w' v l:=by
 obtain⟨⟨p,c,rfl,m⟩,u,x,s⟩:=h;have j:∀b,(Value.slice p (J l) c).ownBlock=Y b->w'.heap[b]?=w.heap[b]?:=λb e=>by let⟨q,r⟩:=u b e;exact j b (s b e) (sF r)
 refine⟨⟨p,c,rfl,?_⟩,λb e=>?_,x.W j,s⟩;{obtain m|⟨b,o,rfl,m⟩:=m;{exact .L m};{exact .R ⟨b,o,rfl,λi y=>(gj (j b rfl) _).Z (m i y)⟩}};{let⟨q,r⟩:=u b e;exact⟨q,(j b e).Z r⟩}
def eh.off{B:Nat}(h:eh B w v ss Qs)(m:∀b,B<=b->b<U w.heap->w'.heap[b]?=w.heap[b]?):eh B w' v ss Qs:=
 ⟨h.len,h.row.W (λ_ _ h=>h) λb e=>m b (h.row.lt b e).1 (h.row.lt b e).2,λi s Q j hq=>(h.tM i s Q j hq).W (λx c k=>k.imp λP k=>⟨k.1,k.2.off m⟩) λb e=>m b ((h.tM i s Q j hq).lt b e).1 ((h.tM i s Q j hq).lt b e).2,h.my⟩
def jK.off{B:Nat}(h:jK B w v ns)(i:∀b,B<=b->b<U w.heap->w'.heap[b]?=w.heap[b]?):jK B w' v ns:=
 h.W (λx c⟨P,V,H,iU,e,q,o,m,j⟩=>⟨P,V,H,iU,e,q.off i,o.off i,m.off i,j.off i⟩) λb e=>i b (h.lt b e).1 (h.lt b e).2
def GO(w:G)(A:Pt)(M:Dm)(X:pQ):Prop:=∀v,Fr [43,47] w v->Er v A M X
def aj9{m B1 B2 B:Nat}{A:Pt}{M:Dm}{X:pQ}{Q:List dV}(j:Own m w (.S A.p0 (J X.1) A.c0) X.1)(o1:Own B1 w (.S A.p1 (J M.l1) A.c1) M.l1)(o2:Own B2 w (.S A.p2 (J M.l2) A.c2) M.l2)(s:eh B w (.S A.p (J X.2.1.E) A.c) X.2.1.E Q)(n:jK B w (.S A.r (J X.2.1.N) A.d) X.2.1.N):GO w A M X:=λv i=>⟨(j.T i).rd,(o1.T i).rd,(o2.T i).rd,(s.T i).dr5,dh.Tx (dh.T n i)⟩
def CsS(w:G)(M:Dm)(X:pQ)(z:Ending)(w':G):Prop:=∃A Q,z=dR (wu A M X)/\ko (U w.heap) w' (.S A.p0 (J X.1) A.c0) (.S A.p1 (J M.l1) A.c1) (.S A.p2 (J M.l2) A.c2) X.1 M.l1 M.l2/\eh (U w.heap) w' (.S A.p (J X.2.1.E) A.c) X.2.1.E Q/\jK (U w.heap) w' (.S A.r (J X.2.1.N) A.d) X.2.1.N/\Bw w w'
def cd6{A:Pt}{M:Dm}{X:pQ}(h:Er w A M X)(V:O (VD X.2.1))(m0:J X.1<=200000)(m1:J M.l1<=200000)(m2:J M.l2<=200000):dQ dG 18 #[wu A M X] w (CsS w M X):=by
 obtain⟨W,hW,b1,z1,C1,-⟩:=bQ w (vw A M X).toArray 43;let⟨u,fE,b2,z2,y,T2⟩:=bQ W zS.toArray 43;go_in;go_wp2_with fail;rw[<-hW,<-fE];clear hW fE;have bb:=ai b1 b2;rw[z1]at y T2;have HC:=ag (λ(v:G)(m:Bw u v)=>(λj=>(⟨⟨j.1 0 _ rfl,j.1 1 _ rfl,j.1 2 _ rfl,j.1 3 _ rfl,j.1 4 _ rfl,j.1 5 _ rfl⟩,j.1 12 _ rfl,j.1 6 _ rfl,j.1 7 _ rfl,j.1 8 _ rfl,j.1 9 _ rfl,j.1 10 _ rfl,j.1 11 _ rfl⟩:Lj v (U w.heap) (.S A.p0 (J X.1) A.c0) (.I M.n0) (.S A.p1 (J M.l1) A.c1) (.I M.n1) (.S A.p2 (J M.l2) A.c2) (.I M.n2) X.2.2 X.2.1.e X.2.1.g X.2.1.x X.2.1.t (.S A.p (J X.2.1.E) A.c) (.S A.r (J X.2.1.N) A.d))) ((C1.H af b2).H af m));have HR:=ag (λ(v:G)(m:Bw u v)=>aF (h.H (ai bb m)) (aF (y.H af m) ((m.block _ af).Z T2)));have D:=ag (aR (U u.heap) u).drew;clear C1 y T2 h;refine fk (λv=>Lj v (U w.heap) (.S A.p0 (J X.1) A.c0) (.I M.n0) (.S A.p1 (J M.l1) A.c1) (.I M.n1) (.S A.p2 (J M.l2) A.c2) (.I M.n2) X.2.2 X.2.1.e X.2.1.g X.2.1.x X.2.1.t (.S A.p (J X.2.1.E) A.c) (.S A.r (J X.2.1.N) A.d)) (by exact HC _ D) λhS=>?_;let⟨v,dz⟩:=aG u.drew;rw[<-dz]at D hS⊢;clear dz;refine iC 0 1 3 4 hS ?_;refine fO 6 7 hS ?_;refine ew 2 (λZ hK=>?_);have H:=ag (ae HR _ D).1;refine jg (dI7 A.p0 A.p1 A.p2 A.c0 A.c1 A.c2 M.n0 M.n1 M.n2 X.1 M.l1 M.l2 v H.1 H.2.1 H.2.2.1 af af af) ?_;rintro z v2⟨P0,C0,P1,C1,P2,y,rfl,o3,ay⟩;refine⟨_,rfl,?_⟩;have N:=ag (ai D ay);have O3:=ag (o3.h D.size);refine bL hK (by exact HC _ N) λhS=>?_;clear hK Z ay D H o3;refine ew 5 (λZ hK=>?_);have H:=ag (ae HR _ N).1;refine jg (aA3 rfl rfl H.2.2.2.1.rd H.2.2.2.2 (aK V.sl) (aK V.nl) (ag λs hs=>⟨(V.gM s hs).1,λev he=>((V.gM s hs).2 ev he).2⟩) (ag λnd aJ=>(V.cQ nd aJ).2)) ?_;rintro z v4⟨Ps,Cs,Pn,Cn,rfl,⟨Q,o4⟩,n4,cT⟩;refine⟨_,rfl,?_⟩;have B4:=ag (ai N cT);have O4:=du (O3.H cT) (o4.h (gv bb.size N.size)) (jK.h n4 (gv bb.size N.size));refine bL hK (by exact HC _ B4) λhS=>?_;clear hK Z cT N H o4 n4 O3;refine tn 8 hS ?_;refine ew 9 (λZ hK=>?_);have ZC:=(ae HR _ B4).2.1;have hT:=(ae HR _ B4).2.2;have nf:=ZC.2;let⟨n0,n1,n2,n3,n4,n5,n6,n7,n8,n9,na,nb,nc⟩:=ZC.fu;go_simp;have EX:=λ(x0 x1 x2 x3 x4 x5 x6 x7 x8 x9 xd xe xf:dV)=>((((((((((((((show uo (U w.heap+1) v4 v4 from⟨eG _,λ_ _ _=>rfl⟩).set 0 x0).set 1 x1).set 2 x2).set 3 x3).set 4 x4).set 5 x5).set 6 x6).set 7 x7).set 8 x8).set 9 x9).set 10 xd).set 11 xe).set 12 xf);have RR:=ag (λ(v:G)(m:uo (U w.heap+1) v4 v)=>aF (O4.2.1.T (m.T hT)) (dh.T O4.2.2 (m.T hT)));refine bL hK (by exact Lj.ex (ae HC _ B4) (EX _ _ _ _ _ _ _ _ _ _ _ _ _) af) λhS=>?_;clear hK Z hS hT ZC;refine fy ?_;go_wp2;refine cg (v:=wu ⟨P0,C0,P1,C1,P2,y,Ps,Cs,Pn,Cn⟩ M X) (by simp[results,results18,go_sem,n0,n1,n2,n3,n4,n5,n6,n7,n8,n9,na,nb,nc]) rfl ⟨⟨P0,C0,P1,C1,P2,y,Ps,Cs,Pn,Cn⟩,Q,rfl,?_,(ae RR _ (EX _ _ _ _ _ _ _ _ _ _ _ _ _)).1,(ae RR _ (EX _ _ _ _ _ _ _ _ _ _ _ _ _)).2,?_⟩;{
 refine ko.h (B:=U u.heap) ?_ af
 iterate 13 refine ko.set ?_ bq _
 exact O4.1};{
 iterate 13 refine ri ?_ aj _
 exact ai bb B4}
def LrP(B:Nat)(v:G)(D:SD)(z:Ending)(v':G):Prop:=∃p c q d m s j r i o Q,z=dR (dT #[bS D.e D.g D.x D.t (.S p (J D.E) c) (.S q (J D.N) d),gG 0 0 0 0 0 (.S m 0 s) (.S j 0 r) (.S i 0 o)])/\(eh B v' (.S p (J D.E) c) D.E Q/\jK B v' (.S q (J D.N) d) D.N)/\Fr [119,97,141] v v'/\Below B v v'
variable {v:G}
def eL5(j:VD D)(hm:(s:Int)∈gD D.E){B:Nat}{q:OA}{Q:List dV}(h:eh B v (.S p (J D.E) c) D.E Q)(hN:jK B v (.S q (J D.N) d) D.N)(hB:B<=U v.heap):Cp 52 #[bS D.e D.g D.x D.t (.S p (J D.E) c) (.S q (J D.N) d),lM 3 s aq 0 aq 0 0] v (LrP B v (jS D s)):=by
 let⟨y,hy,e⟩:=fe.1 hm;have m:=bu7 hy;rw[e]at m;refine(cI1 (ag rfl) (ag rfl) (ag rfl) (ag rfl) (ag h) (ag hN) (ag (Rd.nil _)) (ag (Rd.nil _)) hB (aK j.sl) (aK j.nl) (cO _) (cO _) (cO _) (cO _) (ag j.wf) (ag λz hz=>by cases hz) (ag (.R (.L rfl))) (ag m)).h ?_;rintro z v'⟨X,c',N,d',Dv,Nv,Ev,Q',rfl,M,Z,E,tn,r,f8,b8⟩;obtain⟨W,ca,rfl⟩:=E.dy;obtain⟨V,cb,rfl,-⟩:=tn.form;obtain⟨R,cc,rfl,-⟩:=r.form;exact⟨X,c',N,d',W,ca,V,cb,R,cc,Q',rfl,⟨M,Z⟩,f8,b8⟩
def dK7(w:G):Cp 53 #[.I 3] w λr w'=>r=dR (.bool dY)/\w'=w:=cf0 (k:=3) (by omega) (by omega) (w:=w)
def er4{L:Nat}(x:s<2^64)(y:O (J (lX 3 s [] 0 [])=L))(v:G):Cp 55 #[lM 3 s aq 0 aq 0 0] v λr w'=>∃i j,r=dR (.S i L j)/\Own (U v.heap) w' (.S i L j) (lX 3 s [] 0 [])/\Bw v w':=ce3 (k:=3) (by omega) (s:=s) (f:=0) x (by omega) (e:=0) (g:=0) (p:=dN) (q:=dN) (n:=0) (m:=0) (c:=0) (d:=0) (P:=[]) (V:=[]) rfl rfl (w:=v) (Rd.nil _) (Rd.nil _) (by omega) (by omega) (N:=L) y
def ao3(_:aQ w b vs)(h:N<=b):N<=b:=h
def QU{q:TypeId}(u:U w.heap<=U v.heap)(x:∀c,c≠b->c≠b'->v.heap[c]?=w.heap[c]?)(h:∃i,w.heap[b]?=dO i t)(o:∃i,w.heap[b']?=dO i q):Fr [t,q] w v:=⟨u,λy i B m r j=>by
 by_cases e:y=b;{subst e;obtain⟨c,h⟩:=h;rw[h]at j;cases j;simp at r};{by_cases s:y=b';{subst s;obtain⟨c,o⟩:=o;rw[o]at j;cases j;simp at r};{exact(x y e s).Z j}}⟩
def fe0(V:G)(D:SD)(v7 m:dV)(wc:G):Prop:=∃j i p c q d s B r y o u Q,v7=Pz j/\m=Pz i/\(aQ wc j [.U D.e,.U D.g,.U D.x,.I D.t,.S p (J D.E) c,.S q (J D.N) d]/\aQ wc i [.I 0,.U 0,.U 0,.U 0,.I 0,.S s 0 B,.S r 0 y,.S o 0 u])/\(eh (U V.heap) wc (.S p (J D.E) c) D.E Q/\jK (U V.heap) wc (.S q (J D.N) d) D.N)/\Bw V wc/\U V.heap<=j/\U V.heap<=i
def L6R(w:G)(M:Dm)(X:pQ)(s:Nat)(z:Ending)(w':G):Prop:=∃A m r j q i o,z=dR (dT #[wu A M (nY X s).2,gG (nY X s).1 0 0 0 0 (.S m 0 r) (.S j 0 q) (.S i 0 o)])/\GO w' A M (nY X s).2/\Bw w w'
theorem dH6{A:Pt}{M:Dm}{X:pQ}(hV:O (VD X.2.1))(hm:O ((s:Int)∈gD X.2.1.E))(hs:s<2^64)(hn:J X.1<=4000)(hq:0<=X.2.2)(m1:J M.l1<=200000)(m2:J M.l2<=200000)(h:Er w A M X):dQ dG 20 #[wu A M X,lM 3 s aq 0 aq 0 0] w (L6R w M X s):=by
 obtain⟨W0,cI,b0,z0,C0,-⟩:=bQ w (vw A M X).toArray 43;obtain⟨W1,fx,b1,z1,C1,-⟩:=bQ W0 #[.I 3,.U s,aq,.I 0,aq,.U 0,.U 0] 65;let⟨W2,fE,b2,z2,C2,T2⟩:=bQ W1 zS.toArray 43;let⟨W3,jI,b3,z3,C3,T3⟩:=bQ W2 zR.toArray 47;rw[z0]at C1 z1;rw[z1]at C2 T2 z2;rw[z2]at C3 T3 z3;have bW:=ai b0 (ai b1 (ai b2 b3));have HC:=ag (λ(v:G)(D:Bw W3 v)=>aF ((((C0.H af b1).H af b2).H af b3).H af D) (aF (((C1.H af b2).H af b3).H af D) (aF ((C2.H af b3).H af D) (aF (C3.H af D) (aF (ai bW D) (aF ((D.block _ af).Z ((b3.block _ af).Z T2)) ((D.block _ af).Z T3)))))));have HR:=ag (h.H bW);have HZ:=ag z3;clear C0 C1 C2 C3 T2 T3 b0 b1 b2 b3 z0 z1 z2 z3 h bW;go_in;go_wp2_with fail;rw[<-cI,<-fx,<-fE,<-jI];clear cI fx fE jI;refine(cd6 HR hV af m1 m2).h ?_;rintro z v1⟨A',Q,rfl,O3,s1,n1,au⟩;let⟨V1,xo,bv,zv,CV,TV⟩:=bQ v1 (vw A' M X).toArray 43;have H1:=ag (ae HC V1 (ai au bv));have HO:=ag (λ(v:G)(D:Bw V1 v)=>aF ((O3.H bv).H D) (aF ((s1.T (bH bv)).T (bH D)) (aF (dh.T (dh.T n1 (bH bv)) (bH D)) (aF (CV.H af D) ((D.block _ af).Z TV)))));have HG:=ag (λb e=>(O3.o0.lt b e).2);have EG:=ag (ai au bv);have zv1:U V1.heap=U v1.heap+1:=zv;have fw:U W3.heap<=U v1.heap:=au.size;have RV:=ag (HR.H (ai au bv));have i0:=H1.1.fu;have nS:O (∀u,(∀y,y<U V1.heap->u.heap[y]?=V1.heap[y]?)->SvS u (U w.heap) X.2.2 X.2.1.e X.2.1.g X.2.1.x X.2.1.t (.S A.p (J X.2.1.E) A.c) (.S A.r (J X.2.1.N) A.d)/\lp u (U w.heap+1) (.I 3) (.U s) aq (.I 0) aq (.U 0) (.U 0)):=λu W=>by have k0:=H1.1.de (W (U w.heap) (aK (ae HZ)));have k1:=H1.2.1.de (W (U w.heap+1) (aK (ae HZ)));exact⟨⟨k0.1 12 _ rfl,k0.1 6 _ rfl,k0.1 7 _ rfl,k0.1 8 _ rfl,k0.1 9 _ rfl,k0.1 10 _ rfl,k0.1 11 _ rfl⟩,k1.1 0 _ rfl,k1.1 1 _ rfl,k1.1 2 _ rfl,k1.1 3 _ rfl,k1.1 4 _ rfl,k1.1 5 _ rfl,k1.1 6 _ rfl⟩
 clear O3 au bv CV TV zv s1 n1;rw[xo]at i0;go_wp2_with fail;rw[<-xo];clear xo i0;let⟨D',eD⟩:=cG (jS X.2.1 s)
 go_cut[7,8](λv7 v8 wc=>fe0 V1 D' v7 v8 wc)
 case first=>(
 let⟨Z,dz⟩:=aG V1.drew;have Q0:O (Bw V1 Z):=dz▸aD.drew;have HS:O (∀v,Bw V1 v->SvS v (U w.heap) X.2.2 X.2.1.e X.2.1.g X.2.1.x X.2.1.t (.S A.p (J X.2.1.E) A.c) (.S A.r (J X.2.1.N) A.d)/\lp v (U w.heap+1) (.I 3) (.U s) aq (.I 0) aq (.U 0) (.U 0)):=λv D=>ae nS v D.block;have xA:O (∀v,Bw V1 v->Cp 51 #[bS X.2.1.e X.2.1.g X.2.1.x X.2.1.t (.S A.p (J X.2.1.E) A.c) (.S A.r (J X.2.1.N) A.d)] v λr v'=>∃p c q d,r=dR (bS X.2.1.e X.2.1.g X.2.1.x X.2.1.t (.S p (J X.2.1.E) c) (.S q (J X.2.1.N) d))/\(∃Q,eh (U V1.heap) v' (.S p (J X.2.1.E) c) X.2.1.E Q/\jK (U V1.heap) v' (.S q (J X.2.1.N) d) X.2.1.N)/\Bw v v'):=λv D=>by refine(aA3 (ag rfl) (ag rfl) (RV.2.2.2.1.H D).rd (RV.2.2.2.2.H D) (aK hV.sl) (aK hV.nl) (ag λs hs=>⟨(hV.gM s hs).1,λev he=>((hV.gM s hs).2 ev he).2⟩) (ag λnd aJ=>(hV.cQ nd aJ).2)).h ?_;rintro z v'⟨p,c,q,d,rfl,⟨Q,k1⟩,k2,hb⟩;exact⟨p,c,q,d,rfl,⟨Q,k1.h D.size,jK.h k2 D.size⟩,hb⟩
 have HC4:O (∀p c q d Q v,U V1.heap<=U v.heap->(eh (U V1.heap) v (.S p (J X.2.1.E) c) X.2.1.E Q/\jK (U V1.heap) v (.S q (J X.2.1.N) d) X.2.1.N)->Cp 52 #[bS X.2.1.e X.2.1.g X.2.1.x X.2.1.t (.S p (J X.2.1.E) c) (.S q (J X.2.1.N) d),lM 3 s aq 0 aq 0 0] v (LrP (U V1.heap) v D')):=λp c q d Q v D k=>by rw[<-ae eD];exact eL5 (ae hV) (ae hm) k.1 k.2 D
 refine fk (λv=>SvS v (U w.heap) X.2.2 X.2.1.e X.2.1.g X.2.1.x X.2.1.t (.S A.p (J X.2.1.E) A.c) (.S A.r (J X.2.1.N) A.d)/\lp v (U w.heap+1) (.I 3) (.U s) aq (.I 0) aq (.U 0) (.U 0)) (dz▸ae HS Z (ae Q0)) λhS=>?_;rw[<-dz]at hS⊢;clear dz;refine fO 0 1 hS ?_;refine tn 3 hS ?_;have F2:O (∀u,Bw Z u->True):=λ_ _=>trivial;have F4:O (∀u,Fr [41,47] Z u->True):=λ_ _=>trivial;have F8:O (∀u,Fr [119,97,141] Z u->True):=λ_ _=>trivial;have F9:O (∀u,Fr [119,97,141] Z u->True):=λ_ _=>trivial;have HM:=ag Q0.size
 iterate 4 (
  all_goals(first|refine tL [2,8,9] (lE (λKK hK=>?_) (lE (λKK hK=>?_) (lE (λKK hK=>?_) fg)))|refine tL [2,8] (lE (λKK hK=>?_) (lE (λKK hK=>?_) fg))|refine tL [2,9] (lE (λKK hK=>?_) (lE (λKK hK=>?_) fg))|refine tL [2] (lE (λKK hK=>?_) fg)|refine tL [4,8,9] (lE (λKK hK=>?_) (lE (λKK hK=>?_) (lE (λKK hK=>?_) fg)))|refine tL [4,8] (lE (λKK hK=>?_) (lE (λKK hK=>?_) fg))|refine tL [4,9] (lE (λKK hK=>?_) (lE (λKK hK=>?_) fg))|refine tL [4] (lE (λKK hK=>?_) fg)|refine tL [8,9] (lE (λKK hK=>?_) (lE (λKK hK=>?_) fg))|refine tL [8] (lE (λKK hK=>?_) fg)|refine tL [9] (lE (λKK hK=>?_) fg))
  all_goals(first
   |(refine Tag.go 2 ?_;refine jg (ae xA Z Q0) ?_;rintro r Z⟨p4,d4,p5,d5,rfl,⟨Q4,rd2⟩,hb⟩;refine⟨_,rfl,?_⟩;have F4:=ag λu W=>ae F4 u ((Fr.H hb).Z W);have hF:=Fr.H (T:=[119,97,141]) hb;have hQ:=hb.h Q0.size;clear hb)
   |(refine Tag.go 4 ?_;refine wD (ae HC4 _ _ _ _ _ Z Q0.size (ae F2 Z aD)) ?_;rintro r Z⟨p8,c8,q8,d8,pa,ca,pb,cb,pc,cc,Q8,rfl,rd4,hF,hQ⟩;refine⟨_,rfl,?_⟩;have F2:O (∀u,Below (U Z.heap) Z u->True):=λ_ _=>trivial)
   |(refine Tag.go 9 ?_;go_simp;obtain⟨Z,D,hb,hz,Oi⟩:=xt Z (.int .i64 0) (.int .u64 0) (.int .u64 0) (.int .u64 0) (.int .i64 0) aO aO aO;rw[<-D];have HM:=bG hz (ae HM);have F2:=ag λu W=>ae F2 u (ai hb W);have F4:=ag λu W=>ae F4 u ((Fr.H hb).Z W);have hF:=Fr.H (T:=[119,97,141]) hb;have hQ:=hb.h Q0.size;clear D hz hb)
   |(refine Tag.go 8 ?_;go_simp;obtain⟨Z,D,hb,hz,Oj⟩:=Al Z;rw[<-D];have HM:=bG hz (ae HM);have F2:=ag λu W=>ae F2 u (ai hb W);have F4:=ag λu W=>ae F4 u ((Fr.H hb).Z W);have hF:=Fr.H (T:=[119,97,141]) hb;have hQ:=hb.h Q0.size;clear D hz hb))
  all_goals(have Q0:=ag (Q0.Z hQ);have F8:=ag λu W=>ae F8 u (hF.Z W);have F9:=ag λu W=>ae F9 u (hF.Z W);have HM:=bG hQ.size (ae HM);refine hK.out _ _ (by exact ae HS Z (ae Q0)) (λhS=>?_);clear hK KK hF hQ;(try simp only[Act.put,xa,xb,xc]))
  all_goals(first
   |(have F2:=ag λ(u:G)(W:Below (U Z.heap) Z u)=>aF (rd2.1.T (bH W)) (dh.T rd2.2 (bH W));clear rd2)
   |(have F4:=ag λ(u:G)(W:Fr [41,47] Z u)=>aF (rd4.1.T W) (dh.T rd4.2 W);clear rd4;refine tn 5 hS ?_;refine tn 6 hS ?_;refine tn 7 hS ?_)
   |(have F8:=ag λ(u:G)(W:Fr [119,97,141] Z u)=>Oj.T W;clear Oj)
   |(have F9:=ag λ(u:G)(W:Fr [119,97,141] Z u)=>Oi.T W;clear Oi)))
 all_goals(as_aux_lemma=>
  have PT:=ae F8 Z (Fr.refl _ _);have Cm:=ae F9 Z (Fr.refl _ _);refine LK 10 11 (vs:=[.U D'.e,.U D'.g,.U D'.x,.I D'.t,.S p8 (J D'.E) c8,.S q8 (J D'.N) d8]) (vs':=[.I 0,.U 0,.U 0,.U 0,.I 0,.S pa 0 ca,.S pb 0 cb,.S pc 0 cc]) PT.1 Cm.1 (aK (ae HM)) ⟨rfl,rfl,by simp[Value.oneCell'],by simp[Value.oneCell']⟩ (λu W=>ae nS u λy hy=>(W y (aK (ae HM)) (aK (ae HM))).Z (Q0.block y hy)) ?_;intro w' Rl Rk hk bl;refine Bp ?_;clear hS;have hf:=QU (bl 0 (cO _) (cO _)).size hk PT.2 Cm.2;have HF:=mX (aF Rl Rk) (ae F4 w' hf) (Q0.Z (bl _ (aK (ae HM)) (aK (ae HM)))) (ao3 (N:=U V1.heap) Rl (aK (ae HM))) (ao3 (N:=U V1.heap) Rk (aK (ae HM)));clear PT Cm Rl Rk hk bl hf F8 F9 F4 F2 HM;go_wp2_with fail;go_meet;exact⟨_,_,p8,c8,q8,d8,pa,ca,pb,cb,pc,cc,Q8,rfl,rfl,HF.1,HF.2.1,HF.2.2.1,HF.2.2.2.1,HF.2.2.2.2⟩))
 case rest=>(
 obtain⟨b8,b9,p8,c8,q8,d8,pa,ca,pb,cb,pc,cc,Q8,rfl,rfl,⟨K8,K9⟩,R4,bC,zO,ke⟩:=hcut;have PK:=ae HZ;have BU:=ag bC;have KC:=ag (λ(v:G)(D:Bw wc v)=>aF (K8.H (jO wc (Ad b8 0) (K8.1 0 _ rfl)) D) (aF (K9.H (jO wc (Ad b9 0) (K9.1 0 _ rfl)) D) (aF (R4.1.T (bH D)) (dh.T R4.2 (bH D)))));have fb8:=bG zO ke;obtain⟨H0,Ho,-,-,-⟩:=ae HC wc (ai EG bC);have i12:=H0.1 12 _ rfl;have o0:=Ho.1 0 _ rfl;have j0:=K9.1 0 _ rfl;clear K8 K9 R4 bC zO ke H0 Ho;go_wp2_with fail;refine br (dK7 wc) λx9 h9=>?_;rw[h9];clear h9 x9;clear o0 j0;by_cases Mt:4611686018427387904<=X.2.2;{
 have HS:O (nY X s=(12,X)):=by show _=_;unfold nY;rw[aM Mt]
 go_wp2_with fail;clear i12;refine fk (λv=>Li v (U v1.heap) A' M X) (by exact(ae HO _ BU.drew).2.2.2.1.fu) λhS=>?_;let⟨v,dz⟩:=aG wc.drew;have BV:O (Bw V1 v):=dz▸BU.drew;rw[<-dz]at hS⊢;clear dz;refine tn 0 hS ?_;refine ew 1 (λKK hK=>?_);refine jg (XJ) ?_;rintro z y⟨rfl,cQ⟩;refine⟨_,rfl,?_⟩;have BY:=ag (ai BV cQ);refine bL hK (by exact(ae HO y BY).2.2.2.1.fu) λhS=>?_;clear hK KK cQ;have HY:=ag (ae HC y (ai EG BY));have HP:=ag (ae HO y BY);refine LK 2 3 (vs:=vw A' M X) (vs':=[.I 12,.U 0,.U 0,.U 0,.I 0,aq,aq,aq]) HY.2.2.1 HY.2.2.2.1 af ⟨rfl,rfl,by simp[Value.oneCell'],by simp[Value.oneCell']⟩ (λu W=>(HP.2.2.2.1.de (W (U v1.heap) af af)).fu) ?_;intro w' k1 k2 hk bl;refine Bp ?_;have hf:=QU (bl 0 (cO _) (cO _)).size hk ⟨_,HY.2.2.2.2.2.1⟩ ⟨_,HY.2.2.2.2.2.2⟩;have HF:O (GO w' A' M X/\Bw w w'):=⟨aj9 (HP.1.o0.T hf) (HP.1.o1.T hf) (HP.1.o2.T hf) (HP.2.1.T hf) (dh.T HP.2.2.1 hf),HY.2.2.2.2.1.Z (bl _ af af)⟩;have i0:=k1.fu;let⟨j0,j1,j2,j3,j4,j5,j6,j7⟩:=k2.r8;clear k1 k2 hk bl hf HP HY hS;go_wp2;refine cg (v:=dT #[wu A' M X,gG 12 0 0 0 0 aO aO aO]) (by simp[results,results20,go_sem,i0,j0,j1,j2,j3,j4,j5,j6,j7]) rfl ?_;rw[L6R,ae HS];exact⟨A',dN,0,dN,0,dN,0,rfl,HF.1,HF.2⟩};{
 have wq:IntKind.u64.wrap (X.2.2+1)=X.2.2+1:=by rw[uG];omega
 let⟨L,eL⟩:=cG (J (lX 3 s [] 0 []));have hL:L<=32:=by rw[<-ae eL];have:=bW4 3 s [] 0 [];simpa using this
 have HBy:=ag (aQ8 (k:=3) (s:=s) (f:=0) (P:=[]) (V:=[]) af hs af (by intro z hz;cases hz) (by intro z hz;cases hz) aj aj);go_wp2_with fail;clear i12;have HK:O (∀v,Bw V1 v->I v (Aw w 12)=dU X.2.2/\I v (Ax w 0)=dI 3/\I v (Ax w 1)=dU s/\I v (Ax w 2)=aq/\I v (Ax w 3)=dI 0/\I v (Ax w 4)=aq/\I v (Ax w 5)=dU 0/\I v (Ax w 6)=dU 0):=λv D=>by obtain⟨H0,Ho,-,-,-⟩:=ae HC v (ai EG D);exact⟨H0.1 12 _ rfl,Ho.1 0 _ rfl,Ho.1 1 _ rfl,Ho.1 2 _ rfl,Ho.1 3 _ rfl,Ho.1 4 _ rfl,Ho.1 5 _ rfl,Ho.1 6 _ rfl⟩
 refine fk (λv=>I v (Aw w 12)=dU X.2.2/\I v (Ax w 0)=dI 3/\I v (Ax w 1)=dU s/\I v (Ax w 2)=aq/\I v (Ax w 3)=dI 0/\I v (Ax w 4)=aq/\I v (Ax w 5)=dU 0/\I v (Ax w 6)=dU 0) (by exact HK _ BU.drew) λhS=>?_;let⟨v,dz⟩:=aG wc.drew;have bd:=lG dz;rw[<-dz]at hS⊢;clear dz;refine iC 0 1 2 3 hS ?_;refine ew 4 (λKK hK=>?_);refine jg (er4 hs eL v) ?_;rintro z y1⟨pe,ce,rfl,oe,au⟩;refine⟨_,rfl,?_⟩;have B1:=ai bd au;refine bL hK (by exact HK y1 (ai BU B1)) λhS=>?_;clear hK KK;refine tn 5 hS ?_;refine ew 6 (λKK hK=>?_);refine jg (show Cp 54 #[xI (X.2.2+1) (.S pe L ce)] y1 _ from bN3 eL oe.rd HBy af af af) ?_;rintro z v2⟨pr,cr,rfl,or,ay⟩;refine⟨_,rfl,?_⟩;have B2:=ai B1 ay;refine bL hK (by exact HK v2 (ai BU B2)) λhS=>?_;clear hK KK;refine tn 7 hS ?_;refine fy ?_;have KD:=ag (ae KC v2 B2);have BU:=ag (ai BU B2);have OR:=bG or.rd or;have eC:L+14=J (nO X.2.2 s):=by rw[bs8,ae eL]
 have EC:=ag eC;obtain⟨H0,-,-,-,-⟩:=ae HC v2 (ai EG BU);obtain⟨-,-,-,CO,-⟩:=ae HO v2 BU;have i00:=H0.1 0 _ rfl;have i12:=H0.1 12 _ rfl;let⟨n0,n1,n2,n3,n4,n5,n6,n7,n8,n9,na,nb,nc⟩:=CO.fu;have nf:=CO.2;clear hS oe au ay B1 B2 or bd KC HK HBy H0 CO;by_cases hf:4000<J X.1+(L+14);{
 have hf':(4000:Int)<(J X.1:Int)+((L+14:Nat):Int):=af;have wf:IntKind.i64.wrap ((J X.1:Int)+((L+14:Nat):Int))=(J X.1:Int)+((L+14:Nat):Int):=kP _ af;have HS:O (nY X s=(11,X)):=by show _=_;unfold nY;rw[aL af,aM (eC▸hf)]
 clear eC;go_wp2_with fail;clear i00 i12 n0 n1 n2 n3 n4 n5 n6 n7 n8 n9 na nb nc nf;refine fk (λv=>Li v (U v1.heap) A' M X) (by exact(ae HO _ BU.drew).2.2.2.1.fu) λhS=>?_;let⟨v,dz⟩:=aG v2.drew;have BV:O (Bw V1 v):=dz▸BU.drew;rw[<-dz]at hS⊢;clear dz;refine tn 0 hS ?_;refine ew 1 (λKK hK=>?_);refine jg (XJ) ?_;rintro z y⟨rfl,cQ⟩;refine⟨_,rfl,?_⟩;have BY:=ag (ai BV cQ);refine bL hK (by exact(ae HO y BY).2.2.2.1.fu) λhS=>?_;clear hK KK cQ;have HY:=ag (ae HC y (ai EG BY));have HP:=ag (ae HO y BY);refine LK 2 3 (vs:=vw A' M X) (vs':=[.I 11,.U 0,.U 0,.U 0,.I 0,aq,aq,aq]) HY.2.2.1 HY.2.2.2.1 af ⟨rfl,rfl,by simp[Value.oneCell'],by simp[Value.oneCell']⟩ (λu W=>(HP.2.2.2.1.de (W (U v1.heap) af af)).fu) ?_;intro w' k1 k2 hk bl;refine Bp ?_;have hf:=QU (bl 0 (cO _) (cO _)).size hk ⟨_,HY.2.2.2.2.2.1⟩ ⟨_,HY.2.2.2.2.2.2⟩;have HF:O (GO w' A' M X/\Bw w w'):=⟨aj9 (HP.1.o0.T hf) (HP.1.o1.T hf) (HP.1.o2.T hf) (HP.2.1.T hf) (dh.T HP.2.2.1 hf),HY.2.2.2.2.1.Z (bl _ af af)⟩;have i0:=k1.fu;let⟨j0,j1,j2,j3,j4,j5,j6,j7⟩:=k2.r8;clear k1 k2 hk bl hf HP HY hS;go_wp2;refine cg (v:=dT #[wu A' M X,gG 11 0 0 0 0 aO aO aO]) (by simp[results,results20,go_sem,i0,j0,j1,j2,j3,j4,j5,j6,j7]) rfl ?_;rw[L6R,ae HS];exact⟨A',dN,0,dN,0,dN,0,rfl,HF.1,HF.2⟩};{
 have hf':¬(4000:Int)<(J X.1:Int)+((L+14:Nat):Int):=af;have wf:IntKind.i64.wrap ((J X.1:Int)+((L+14:Nat):Int))=(J X.1:Int)+((L+14:Nat):Int):=kP _ af;have HS:O (nY X s=(0,X.1++nO X.2.2 s,D',X.2.2+1)):=by show _=_;unfold nY;rw[aL af,aL (by rw[<-eC];omega),ae eD]
 clear eC;obtain⟨l',el⟩:∃l',O (l'=X.1++nO X.2.2 s):=⟨_,ag rfl⟩;rw[<-ae el]at HS;have hB:Rd v2 (.S pr (J (nO X.2.2 s)) cr) (nO X.2.2 s):=ae EC▸OR.1;have hlC:J (nO X.2.2 s)=L+14:=EC.C;obtain⟨O3,-,-,CO,TO⟩:=ae HO v2 BU;have MA:=λb e=>aF (O3.o0.lt b e).1 (ae HG b e);have H2:=ag (ae HC v2 (ai EG BU));have O2:=du O3 CO TO;have zC:=BU.size;have oL:=O3.o0;have HGL:=ag MA;have HLC:=ag hlC;have LB:=ag hB;rw[ae EC]at hf' wf⊢;clear O3 CO TO MA OR EC hL hlC hB;go_wp2_with(at_builtin;refine aH6 rfl rfl (v:=.S A'.p0 (J X.1) A'.c0) (m:=nO X.2.2 s) el (p:=pr) (c:=cr) rfl rfl oL LB (aK (ae HLC)) af ?_);intro p' c' w3 o0 hg;have MA:=ae HGL;have KX:O (∀b,(Value.slice A'.p0 (J X.1) A'.c0).ownBlock≠Y b->b<U v2.heap->w3.heap[b]?=v2.heap[b]?):=λb h1 h2=>hg.block b h2 (λe=>h1 e.C);have uL:∀b,b<U W3.heap->w3.heap[b]?=v2.heap[b]?:=λb hb=>ae KX b (λe=>aK (MA b e).1) af;have uO:∀b,U v1.heap<=b->b<U v2.heap->w3.heap[b]?=v2.heap[b]?:=λb h1 h2=>ae KX b (λe=>aK (MA b e).2) h2;have fu5:=ae fb8;have z8:=jO v2 (Ad b8 0) (KD.1.1 0 _ rfl);have z9:=jO v2 (Ad b9 0) (KD.2.1.1 0 _ rfl);have CO3:=ag (O2.2.1.de (uO _ aA af));have TO3:=ag ((uO _ aA af).Z O2.2.2);have K8:=KD.1.de (uO b8 af z8);have K9:=ag (KD.2.1.de (uO b9 af z9));have RW3:=mX o0 (O2.1.o1.hp (v:=w3) λb e=>ae KX b (λe'=>O2.1.OP b e' e) (O2.1.o1.lt b e).2) (O2.1.o2.hp (v:=w3) λb e=>ae KX b (λe'=>O2.1.ON b e' e) (O2.1.o2.lt b e).2) (KD.2.2.1.off (w':=w3) λb h1 h2=>uO b af h2) (jK.off (w':=w3) KD.2.2.2 λb h1 h2=>uO b af h2);have H3:=mX (H2.2.2.1.de (uL _ af)) (H2.2.2.2.1.de (uL _ af)) (H2.2.2.2.2.1.grown hg af (λb e=>aK (MA b e).1)) ((uL _ af).Z H2.2.2.2.2.2.1) ((uL _ af).Z H2.2.2.2.2.2.2);have i12:=(H2.1.de (uL (U w.heap) af)).1 12 _ rfl;let⟨n0,n1,n2,n3,n4,n5,n6,n7,n8,n9,na,nb,nc⟩:=CO3.fu;have nf:=CO3.2;obtain⟨k0,k1,k2,k3,k4,k5,-⟩:=K8.c6;have DV:¬b8=U v1.heap:=af;have dS8:¬U v1.heap=b8:=af;have hnw:¬U w.heap=U v1.heap:=af;have dR6:¬U v1.heap=U w.heap:=af;have z33:=hg.size;clear o0 hg MA KX uL uO K8 z8 oL i00;go_wp2_with fail;let PN:Pt:=⟨p',c',A'.p1,A'.c1,A'.p2,A'.c2,p8,c8,q8,d8⟩
 go_name_world iY hY
 have K2:O (aQ iY (U v1.heap) (vw PN M (l',D',X.2.2+1))):=by show aQ _ _ _;rw[<-hY];exact(((((((CO3.db 0 aj _).db 12 aj _).db 6 aj _).db 7 aj _).db 8 aj _).db 9 aj _).db 10 aj _).db 11 aj _
 have KY:O (∀b,b≠U v1.heap->iY.heap[b]?=w3.heap[b]?):=λb hb=>by
  rw[<-hY]
  iterate 8 (refine(fT _ _ _ _ (by dsimp only;omega)).Z ?_)
  rfl
 have BY:O (Below (U v1.heap) w3 iY):=by
  show Below _ _ _;rw[<-hY]
  iterate 8 (refine Below.setCell ?_ (by dsimp only;omega) _)
  exact aR _ _
 clear hY i12 n0 n1 n2 n3 n4 n5 n6 n7 n8 n9 na nb nc nf k0 k1 k2 k3 k4 k5 DV hnw dS8 dR6;have K9Y:=ag (K9.de (ae KY b9 af));refine fk (λv=>(Li v (U v1.heap) PN M (l',D',X.2.2+1))/\I v (Ad b9 0)=dI 0/\I v (Ad b9 1)=dU 0/\I v (Ad b9 2)=dU 0/\I v (Ad b9 3)=dU 0/\I v (Ad b9 4)=dI 0/\I v (Ad b9 5)=dS pa 0 ca/\I v (Ad b9 6)=dS pb 0 cb/\I v (Ad b9 7)=dS pc 0 cc) (by exact⟨K2.fu,K9Y.r8⟩) λhS=>?_;let⟨v,dz⟩:=aG iY.drew;have hd:∀b:Nat,v.heap[b]?=iY.heap[b]?:=λb=>by rw[dz];rfl
 have bd:=lG dz;rw[<-dz]at hS⊢;clear dz;refine fO 0 1 hS ?_;refine LK 2 3 (vs:=(vw PN M (l',D',X.2.2+1))) (vs':=[.I 0,.U 0,.U 0,.U 0,.I 0,.S pa 0 ca,.S pb 0 cb,.S pc 0 cc]) (H3.1.de ((hd _).Z (ae KY _ af))) (H3.2.1.de ((hd _).Z (ae KY _ af))) af ⟨rfl,rfl,by simp[Value.oneCell'],by simp[Value.oneCell']⟩ (λu W=>⟨(K2.de ((W _ af af).Z (hd _))).fu,(K9Y.de ((W _ af af).Z (hd _))).r8⟩) ?_;intro w' k1 k2 hk bl;refine Bp ?_;have fY:Fr [43,47] w3 iY:=(uo.T (ty:=43) ⟨BY.size,λb _ hn=>ae KY b hn⟩ (ae TO3)).sub aj;have fW:Fr [43,47] iY w':=QU (gv bd.size (bl 0 (cO _) (cO _)).size) (λc h1 h2=>(hk c h1 h2).Z (hd c)) ⟨_,(ae KY _ af).Z H3.2.2.2.1⟩ ⟨_,(ae KY _ af).Z H3.2.2.2.2⟩;have hf:=fY.Z fW;have HF:O (GO w' PN M (l',D',X.2.2+1)/\Bw w w'):=⟨aj9 (A:=PN) (X:=(l',D',X.2.2+1)) (RW3.1.T hf) (RW3.2.1.T hf) (RW3.2.2.1.T hf) (RW3.2.2.2.1.T hf) (dh.T RW3.2.2.2.2 hf),(H3.2.2.1.Z (BY.h af)).Z ((bd.h (aK BY.size)).Z (bl _ af af))⟩;have i0:=k1.fu;let⟨j0,j1,j2,j3,j4,j5,j6,j7⟩:=k2.r8;clear k1 k2 hk bl hS fY fW hf hd bd;go_wp2;refine cg (v:=dT #[wu PN M (l',D',X.2.2+1),gG 0 0 0 0 0 (.S pa 0 ca) (.S pb 0 cb) (.S pc 0 cc)]) (by simp[results,results20,go_sem,i0,j0,j1,j2,j3,j4,j5,j6,j7]) rfl ?_;rw[L6R,ae HS];exact⟨_,pa,ca,pb,cb,pc,cc,rfl,HF.1,HF.2⟩}})
end Go.Proofs.YtdloolggnjjfoaaGreatDoor
