import Derived.Test.YthlkmijffhhimaaGreatDoorK11
import Derived.LaidHandle
import Derived.LaidLaws
import Derived.Stop.LaidErr
open Array renaming size->U
open Go renaming Value->dV,World->G
open Go.Ending renaming returned->dR
open Go.Proofs.Tryz renaming prog->dG
open Go.RowKit renaming Hid->O
open Go.Value renaming ownBlock->jB,bool->jO,agg->jP,I->dI,pointer->dP,S->dS,tuple->dT,U->dU
open Go.World renaming heap->Q,cell?->I
open List renaming length->J
open Option renaming none->dN,some->Y
namespace Go.Proofs.YthlkmijffhhimaaGreatDoor
set_option maxHeartbeats 12800000
set_option linter.all false
set_option maxRecDepth 100000
open Go.ChangeShapes Go.WideShapes Go.ChangeAt Go.RowKit Go.Proofs.Tryz Go.Deep Go.Maps
variable {w w':G}{l:LI}{p r p0 p1 p2:OA}{n b b0:Nat}{q E F iG:Int}{v:dV}{D:SD}{S:fD}{q':Prop}{A1 A2:List Lf}{cs:iA}{z:Ending}{ps:List MemPlace}
abbrev SvB(v:G)(b:Nat)(p0:OA)(c0:Nat)(p1:OA)(c1:Nat)(p2:OA)(c2:Nat)(p:OA)(c:Nat)(r:OA)(d:Nat)(D:Dk)(S:fD)(q:Int):Prop:=I v (Ad b 0)=dS p0 (J D.l0) c0/\I v (Ad b 1)=dI D.n0/\I v (Ad b 2)=dS p1 (J D.l1) c1/\I v (Ad b 3)=dI D.n1/\I v (Ad b 4)=dS p2 (J D.l2) c2/\I v (Ad b 5)=dI D.n2/\I v (Ad b 6)=dU S.e/\I v (Ad b 7)=dU S.g/\I v (Ad b 8)=dU S.x/\I v (Ad b 9)=dI S.t/\I v (Ad b 10)=dS p (J S.E) c/\I v (Ad b 11)=dS r (J S.N) d/\I v (Ad b 12)=dU q
structure SX(S:fD):Prop where
 e:0<=S.e/\S.e<2^64
 g:0<=S.g/\S.g<2^64
 x:0<=S.x/\S.x<2^64
 l:J S.E<=maxLen/\J S.N<=maxLen
 s:∀s∈S.E,J s.2.2<=maxLen/\∀e∈s.2.2,J e.2<=maxLen/\aD e.2
 n:∀nd∈S.N,((J nd.A<=maxLen/\J nd.V<=maxLen/\J nd.y<=maxLen/\J nd.X<=maxLen)/\aD nd.A/\(0<=nd.D/\nd.D<2^64)/\(∀i∈nd.y,0<=i/\i<2^64)/\∀i∈nd.X,0<=i/\i<2^64)/\(0<=nd.P/\nd.P<2^64)/\(0<=nd.F/\nd.F<2^64)/\aD nd.V
theorem SX.sg(h:SX S)(o:Hi S.E S.N<=2^20):SG S:=by
 let⟨a,b,c,d⟩:=aQ2 o;exact⟨h.e,h.g,h.x,a,b,λs m=>⟨(c s m).1,λe he=>⟨((h.s s m).2 e he).2,(c s m).2 e he⟩⟩,λi j=>⟨(h.n i j).1.2.1,d i j⟩,λi j=>(h.n i j).2.2.2,λi j=>⟨(h.n i j).1.2.2.2.1,(h.n i j).1.2.2.2.2⟩,λi j=>(h.n i j).1.2.2.1,λi j=>⟨(h.n i j).2.1,(h.n i j).2.2.1⟩⟩
theorem VD.sz(h:VD D):Hi D.E D.N<=2^20:=by
 have B:jy Ld D.E<=5000*J D.E:=Yq _ λs m=>by let⟨u,i⟩:=(h.s2 s m).q;have o:jy (λe:Ev=>J e.2) s.2.2<=136*J s.2.2:=Yq _ λe he=>(i e he).2;simp only[Ld];omega
 have y:jy Lg D.N<=300*J D.N:=Yq _ λj r=>by have a:=h.n2 j r;have R:=Jm a.vp;have N:=a.va;have M:=h.ids a.h1 a.h2;have E:=h.ids a.w1 a.w2;simp only[Lg];omega
 have o:=h.sl;have x:=h.nl;rw[Hi];omega
theorem du5(dop:LI->Option Rq)(s:∀l,zx l (dop l))(D:Dk)(S:fD)(q:Int)(iO:rj)(r:Qg D S)(iG:SG S)(o:aD D.l0)(m:aD D.l1)(j:aD iO.P)(y:aD iO.V):∃T,SbT dop D S q iO T/\Qg T.1 T.2.1/\RS T.2.2.2:=by
 by_cases h:Fs dop D S q;{have g:=h.dmg s iG o m (aM r.d);let⟨u,M⟩:=bX9 g j y;have B:=Dk.ok.len h.1;refine⟨_,⟨λ_=>rfl,λe=>absurd h e⟩,⟨?_,VD.sz u⟩,?_⟩;{show(ui _ _).2.1.length+J D.l1+J D.l2<=_;omega};{have hf:=PF g.v.ok g.v.ig g.v.dr;have i:=(AF.apply (K:=iO.K) (S:=iO.S) (F:=iO.F) (E:=iO.E) (iG:=iO.G) (V:=iO.V) (Fd.of g.v.ok hf) g.v.wf.x (GD.of g.v.ok hf g.v.g.1 g.v.x.1).sx j).2;show RS (ui _ _).1;unfold ui;split;{split;{exact RS.num _ _ _ _ _};{split;{exact RS.num _ _ _ _ _};{exact i}}};{exact i}}};{exact⟨_,⟨λa=>absurd a h,λ_=>rfl⟩,⟨by simp[dk0],by simp[uf,Hi,jy]⟩,RS.num _ _ _ _ _⟩}
theorem dm0{q s t:OA}{n c m d k e i f j g N M:Nat}{n0 n1 n2 E iG X T o:Int}(x1:nE 18 (pR (.S p n c) n0 (.S q m d) n1 (.S r k e) n2) N w)(x2:nE 19 (cO E iG X T (.S s i f) (.S t j g)) M w):nE 4 (Jq (.S p n c) n0 (.S q m d) n1 (.S r k e) n2 E iG X T (.S s i f) (.S t j g) o) (N+M) w:=Nw
theorem dm2{q:OA}{n c m d:Nat}{K S:Int}(x1:nE 20 (.S p n c) n w)(x2:nE 20 (.S q m d) m w):nE 5 (mG K S (.S p n c) F (.S q m d) E iG) (n+m) w:=Nw
abbrev tB(v:G)(b:Nat)(A:Pt)(D:Dk)(S:fD)(q:Int):Prop:=SvB v b A.p0 A.c0 A.p1 A.c1 A.p2 A.c2 A.p A.c A.r A.d D S q
abbrev tO(B M:Nat)(w:G)(A1 A2:List Lf)(A:Pt)(D:Dk)(S:fD):Prop:=uA B M w A1 A2 A.p0 A.c0 A.p1 A.c1 A.p2 A.c2 A.p A.c A.r A.d D S
abbrev o7(v:G)(b:Nat)(a:Pq)(iO:rj):Prop:=iR v b (.I iO.K) (.U iO.S) (.S a.p (J iO.P) a.c) (.I iO.F) (.S a.q (J iO.V) a.d) (.U iO.E) (.U iO.G)
theorem aT.o7{a:Pq}{iO:rj}(h:aT w b (NF a iO)):o7 w b a iO:=⟨h.1 0 _ rfl,h.1 1 _ rfl,h.1 2 _ rfl,h.1 3 _ rfl,h.1 4 _ rfl,h.1 5 _ rfl,h.1 6 _ rfl⟩
def eZ9(B:Nat)(v':G)(F:iP):Prop:=∀u,Bw v' u->∀(o:G)(m j:Nat),(∃i,u.heap[m]?=Obj.cells i 46)->(∃i,u.heap[j]?=Obj.cells i 50)->(m<B\/U (Q v')<=m)->(j<B\/U (Q v')<=j)->(∀y,y≠m->y≠j->o.heap[y]?=u.heap[y]?)->U (Q u)<=U (Q o)->F o
def bE3(B:Nat)(E:Dk)(S:fD)(q:Int)(R:RP)(z:Ending)(v':G):Prop:=∃A a,z=dR (dT #[tV A E S q,wC a R])/\eZ9 B v' (RdZ A a E S R)
def da5(W:G)(E:Dk)(S:fD)(q:Int)(R:RP)(v6 v7:dV)(wc:G):Prop:=∃j i A a,v6=Pz j/\v7=Pz i/\aT wc j (tL A E S q)/\aT wc i (Ec a R)/\RdZ A a E S R wc/\Bw W wc
variable {R:RP}
theorem Xv.per{E:Dk}(h:Xv w (E,S,q,R) z w'):bE3 (U (Q w)) E S q R z w'/\Bw w w':=by
 obtain⟨A,a,e,k,r⟩:=h;exact⟨⟨A,a,e,λu m i B y x s _ _ o j=>k i ((Fr.H m).Z (ag2 j o x s))⟩,r⟩
theorem tY.rdp{B:Nat}{a:Pr}(h:tY B w (wC a R) R):RdP w a R/\∃A1 A2 i,oz (.S a.p1 (J R.lW) a.c1) R.lW A1/\rQ w (.S a.p2 (J R.iB) a.c2) R.iB A2/\lI w (.S a.p3 (J R.kF) a.c3) R.kF i/\(∀b,jB (Value.slice a.p2 (J R.iB) a.c2)=Y b->B<=b/\b<U (Q w))/\gp B w (A1++(A2++i)):=by
 obtain⟨p1,x,p2,u,r,s,A1,A2,i,e,o,j,m,q⟩:=h;simp only[ij,Value.agg.injEq,Array.mk.injEq,aY6,rE,Ef,aZ3]at e;obtain⟨⟨rfl,rfl⟩,⟨rfl,rfl⟩,rfl,rfl⟩:=e;exact⟨⟨o.1,j.1,m.1.rd⟩,A1,A2,i,o.2,j.2.1,m.2,j.2.2,q⟩
theorem Un.per{E:Dk}(h:Un w (E,S,q,R) z w'):bE3 (U (Q w)) E S q R z w'/\Bw w w':=by
 obtain⟨y,X,x,W,s,V,p,c,r,d,a,B5,w6,e,⟨z1,z2,z3⟩,N,Z,⟨M,A1,A2,o⟩,hb⟩:=h;refine⟨⟨⟨y,X,x,W,s,V,p,c,r,d⟩,a,e,λu j m b8 b9 _ _ p8 p9 B i=>?_⟩,hb⟩;have k:∀b,U (Q w)<=b->b<U (Q w')->m.heap[b]?=w'.heap[b]?:=λb h1 h2=>(B b af af).Z (j.block b h2);have i:=gq j.size i;exact⟨(o.W λb h1 h2=>k b af h2).rd,(N.W (λb h1 h2=>(k b af af).Z (Z b h1 h2)) af).rdp.1⟩
def ToO(iO:rj)(v:G)(r:Ending)(v':G):Prop:=∃a j i,r=dR (BH a iO)/\Cy v' a iO/\(J iO.P<=a.c/\a.c<=maxLen)/\(oz (.S a.p (J iO.P) a.c) iO.P j/\oz (.S a.q (J iO.V) a.d) iO.V i)/\(∀x∈j++i,U (Q v)<=x.b/\x.b<U (Q v'))/\fk v' (j++i)/\Bw v v'
theorem dk5{v:G}{a:Pq}{iO:rj}(h:Cy v a iO)(N:J iO.P<=2^20)(M:J iO.V<=2^20):Cp 8 #[BH a iO] v (ToO iO v):=by
 refine(dk4 iO.K iO.S iO.F iO.E iO.G a.p a.q _ _ a.c a.d iO.P iO.V rfl rfl v h.1 h.2 N M).h ?_;rintro r v'⟨y,X,u,W,B,rfl,R,j,tb,s,hb⟩;let⟨C1,o⟩:=j.pb;let⟨Z,m⟩:=s.pb;refine⟨⟨y,X,u,W⟩,C1,Z,rfl,⟨j.rd,s.rd⟩,⟨j.cap,j.GR⟩,⟨o.lv,m.lv⟩,λx i=>?_,fk.app.2 ⟨o.ap.ke,m.ap.ke⟩,hb⟩;obtain i|i:=jl.1 i;{exact⟨o.ap.lo x i,o.hi x i⟩};{exact⟨gq R (m.ap.lo x i),m.hi x i⟩}
theorem Rd.hp(h:Rd w v l)(j:∀b,jB v=Y b->w'.heap[b]?=w.heap[b]?):Rd w' v l:=by
 obtain⟨p,c,rfl,h⟩:=h;refine⟨p,c,rfl,?_⟩;obtain h|⟨b,o,rfl,h⟩:=h;{exact .L h};{exact .R ⟨b,o,rfl,λi m=>(gG (j b rfl) _).Z (h i m)⟩}
theorem Ul.kp{k:Int}{B M:Nat}{w0:G}{x u s c d:Nat}{D:Dk}(o:uA B M w0 A1 A2 p0 x p1 u p2 s p c r d D S)(h:Ul k w A1 A2 p0 x p1 u p2 s p c r d D S)(q:∀b,B<=b->b<U (Q w0)->w'.heap[b]?=w.heap[b]?):Ul k w' A1 A2 p0 x p1 u p2 s p c r d D S:=by
 obtain⟨m,-,E,y⟩:=o;have l:∀a∈A1++A2,w'.heap[a.b]?=w.heap[a.b]?:=λa j=>q a.b (gq E (y.2.2.2.2.lo a j)) (y.2.2.2.2.ke.lt j);exact⟨h.1.hp λb e=>q b (m.o0.lt b e).1 (m.o0.lt b e).2,h.2.1.hp λb e=>q b (m.o1.lt b e).1 (m.o1.lt b e).2,h.2.2.1.hp λb e=>q b (m.o2.lt b e).1 (m.o2.lt b e).2,mF.W h.2.2.2.1 λa j=>l a (by simp[j]),nG.W h.2.2.2.2.1 λa j=>l a (by simp[j]),λi a j=>(gG (l a (bq j)) _).Z (h.2.2.2.2.2 i a j)⟩
section
variable {P:Program}{md:Region.Mode}{ops:iQ}{iZ:Exit->Act->World->Prop}{S:World->Prop}{fuel:Nat}{listed:Array Bool}{a:Act}{w:World}{i j k:Nat}{o o' o2:Oper}
abbrev Xs(P:Program)(md:Region.Mode)(ops:iQ)(iZ:iE)(S:iP)(fuel:Nat)(listed:Array Bool)(a:Act)(w:G)(i:Nat)(o:Oper):Prop:=∀K':Act->G->Prop,Shut (∀a w,S w->(S w->wpAnyH P md ops iZ S fuel (Array.setIfInBounds listed i true) a w)->K' a w)->Tag i (if Region.wanted o (yielded ops a.tmps)then Oper.wp P o a w K' iZ else K' (a.put o.dst undef) w)
theorem cT1(h:Xs P md ops iZ S fuel listed a w i o)(ho:ops[i]?=o:=by(simp only[rB,sR,sQ];rfl)):AllReadyH P md ops iZ S fuel listed a w [i]:=sG h fN ho
theorem cT2(h:Xs P md ops iZ S fuel listed a w i o)(h':Xs P md ops iZ S fuel listed a w j o')(ho:ops[i]?=o:=by(simp only[rB,sR,sQ];rfl))(xS:ops[j]?=o':=by(simp only[rB,sR,sQ];rfl)):AllReadyH P md ops iZ S fuel listed a w [i,j]:=sG h (cT1 h' xS) ho
theorem cT3(h:Xs P md ops iZ S fuel listed a w i o)(h':Xs P md ops iZ S fuel listed a w j o')(h2:Xs P md ops iZ S fuel listed a w k o2)(ho:ops[i]?=o:=by(simp only[rB,sR,sQ];rfl))(xS:ops[j]?=o':=by(simp only[rB,sR,sQ];rfl))(kU:ops[k]?=o2:=by(simp only[rB,sR,sQ];rfl)):AllReadyH P md ops iZ S fuel listed a w [i,j,k]:=sG h (cT2 h' h2 xS kU) ho
end
theorem rgZ(h':q':=by
  let⟨v0,fK⟩:=aF Wz.drew;have Q0:O (Bw Wz v0):=fK▸db.drew;have HS:=ai (λ(v:G)(hv:Bw Wz v)=>ae pX v hv.block);refine fw (λv=>tB v (U w.heap) A D S q/\o7 v (U w.heap+1) a iO) (fK▸ae HS v0 (ae Q0)) λhS=>?_;rw[<-fK]at hS⊢;clear fK;refine fu 0 2 hS ?_;have F1:O (∀u,Bw v0 u->True):=λ_ _=>trivial;have F3:O (∀u,Bw v0 u->True):=λ_ _=>trivial;have F4:O (∀u,Bw v0 u->True):=λ_ _=>trivial;have F8:O (∀u,Bw v0 u->True):=λ_ _=>trivial;have F9:O (∀u,Bw v0 u->True):=λ_ _=>trivial;have HM:=ai Q0.size
  iterate 5 (
   all_goals(first
    |((first|refine qN [4] ?_|refine qN [3] ?_|refine qN [9] ?_|refine qN [8] ?_|refine qN [1] ?_);refine cT1 (λKK hK=>?_))
    |((first|refine qN [4,9] ?_|refine qN [4,8] ?_|refine qN [3,9] ?_|refine qN [3,8] ?_|refine qN [1,9] ?_|refine qN [1,8] ?_|refine qN [8,9] ?_);refine cT2 (λKK hK=>?_) (λKK hK=>?_))
    |((first|refine qN [1,8,9] ?_|refine qN [3,8,9] ?_|refine qN [4,8,9] ?_);refine cT3 (λKK hK=>?_) (λKK hK=>?_) (λKK hK=>?_)))
   all_goals(first
    |(apply Tag.go 1;refine ju (ae mU v0 Q0) ?_;rintro r v0⟨A4,rfl,nq1,hb⟩;refine⟨_,rfl,?_⟩)
    |(apply Tag.go 3;refine ju (ae KQ v0 Q0) ?_;rintro r v0⟨a4,C1,C2,rfl,nq3,g4,-,-,-,hb⟩;refine⟨_,rfl,?_⟩)
    |(apply Tag.go 4;refine uG (ae XK A4 a4 v0 Q0 g4 (ae F1 v0 db) (ae F3 v0 db)) ?_;rintro r v0⟨⟨A8,a8,rfl,nq4⟩,hb⟩;refine⟨_,rfl,?_⟩)
    |(apply Tag.go 8;go_simp;obtain⟨v0,hv,hb,hz,QI⟩:=cR v0 zS.toArray 46;rw[<-hv];have HM:=bG hz (ae HM);clear hv hz)
    |(apply Tag.go 9;go_simp;obtain⟨v0,hv,hb,hz,QH⟩:=cR v0 zR.toArray 50;rw[<-hv];have HM:=bG hz (ae HM);clear hv hz))
   all_goals(have Q0:=ai (aj (ae Q0) hb);have F1:=ai λu hu=>ae F1 u (aj hb hu);have F3:=ai λu hu=>ae F3 u (aj hb hu);have F4:=ai λu hu=>ae F4 u (aj hb hu);have F8:=ai λu hu=>ae F8 u (aj hb hu);have F9:=ai λu hu=>ae F9 u (aj hb hu);have HM:=bG hb.size (ae HM);refine hK.out _ _ (by exact ae HS v0 (ae Q0)) (λhS=>?_);clear hK KK hb;(try simp only[Act.put,xa,xb,xc]))
   all_goals(first
    |(have F1:=ai nq1;clear nq1)
    |(have F3:=ai λ(u:G)(hu:Below (U v0.heap) v0 u)=>nq3.H hu;clear nq3)
    |(have F4:=ai nq4;clear nq4;refine tn 5 hS ?_;refine tn 6 hS ?_;refine tn 7 hS ?_)
    |(have F8:=ai λ(u:G)(hu:Below (U v0.heap) v0 u)=>aE (QI.1.H (uS QI.2) hu) ((hu.block _ (uS QI.2)).Z QI.2);clear QI)
    |(have F9:=ai λ(u:G)(hu:Below (U v0.heap) v0 u)=>aE (QH.1.H (uS QH.2) hu) ((hu.block _ (uS QH.2)).Z QH.2);clear QH)))
  all_goals(as_aux_lemma=>
   have Wd:=ae F8 v0 db;have Gv:=ae F9 v0 db;refine Vn 10 11 (vs:=tL A8 E S' q1) (vs':=Ec a8 R) Wd.1 Gv.1 (aM (ae HM)) ⟨rfl,rfl,by simp[Value.oneCell'],by simp[Value.oneCell']⟩ (λu _ _ hu=>ae pX u λy hy=>(hu y (aM (ae HM)) (aM (ae HM))).Z (Q0.block y hy)) ?_;intro w' c8' c9' hk bl;refine AJ ?_;clear hS
   go_wp21
   go_meet;exact⟨_,_,A8,a8,rfl,rfl,c8',c9',F4 v0 db w' _ _ ⟨_,Wd.2⟩ ⟨_,Gv.2⟩ (aM (ae HM)) (aM (ae HM)) hk (bl 0 (de _) (de _)).size,Q0.Z (bl _ (aM (ae HM)) (aM (ae HM)))⟩)):q':=h'
theorem dP2(A:Pt)(D:Dk)(S:fD)(q:Int)(a:Pq)(iO:rj)(w:G)(h:tR w A D S)(hO:Cy w a iO)(m0:J D.l0<=maxLen)(m1:J D.l1<=maxLen)(m2:J D.l2<=maxLen)(mP:J iO.P<=maxLen)(mV:J iO.V<=maxLen)(y0:O (aD D.l0))(y1:O (aD D.l1))(bO:O (aD iO.P/\aD iO.V/\0<=iO.S/\iO.S<2^64))(hX:O (SX S))(hM:ML w)(hT:uz w)(hE:XQ w):Calls dG 3 #[tV A D S q,BH a iO] w (Rb (jO true) w):=by
 obtain⟨W0,cT,q0,z0,C0,-⟩:=cR w (tL A D S q).toArray 33;obtain⟨W1,fT,q1,z1,C1,-⟩:=cR W0 (NF a iO).toArray 35;rw[z0]at C1 z1;have HA:=ai (λ(v:G)(hv:Bw W1 v)=>aE ((C0.H af q1).H af hv).iD (aE (h.H (aj (aj q0 q1) hv)) (aE (hM.H (aj (aj q0 q1) hv)) (aE (show uz v fromλk i1 W=>(hT k i1 W).H (aj (aj q0 q1) hv)) (aE (aj (aj q0 q1) hv) (aE (show XQ v from aq hE (aj (aj q0 q1) hv)) (aE (C1.H af hv).o7 (hO.H (aj (aj q0 q1) hv)))))))));have KO:O (∀u,(∀y,y<U (Q W1)->u.heap[y]?=W1.heap[y]?)->tB u (U (Q w)) A D S q/\o7 u (U (Q w)+1) a iO):=λu hu=>⟨((C0.H af q1).dt (hu _ af)).iD,(C1.dt (hu _ af)).o7⟩;clear q0 q1 C0 C1 h hM hT hE hO;go_in
 go_wp21
 rw[<-cT,<-fT];clear cT fT;have HU:=ai (ae HA W1 db);let⟨p',c',e',xs⟩:=dm1 HU.2.1.2.2.2.1 hX.l.1 λy hy=>⟨(hX.s y hy).1,λe he=>((hX.s y hy).2 e he).1⟩;let⟨r',d',f',xn⟩:=dm5 HU.2.1.2.2.2.2 hX.l.2 λy hy=>(hX.n y hy).1.1;simp only[rE]at e' f';obtain⟨rfl,-,rfl⟩:=e';obtain⟨rfl,-,rfl⟩:=f';refine(dm0 (dm9 (aQ4 (Nx m0)) (aQ4 (Nx m1)) (aQ4 (Nx m2))) (dl7 xs xn) W1 1048576 db af af).h ?_;rintro z w1⟨⟨K,rfl,hK⟩,az⟩;have B1:=ai az;clear az HU xs xn;obtain rfl|⟨hK,gj⟩:=hK;{have bb:=(ae HA w1 B1).2.2.2.2.1;exact aV};have Ux:O (Qg D S):=⟨af,by rw[Hi];omega⟩;have Tm:¬K<0:=af;have qF:0<=K/\K<=2^20:=af;have oo:=(ae HA w1 B1).2.2.2.2.2.2.1;clear gj hK
 go_wp21
 clear oo;refine(dm2 (Nx mP) (Nx mV) w1 K db qF.1 qF.2).h ?_;rintro z w2⟨⟨K',rfl,hK'⟩,aA⟩;have B2:=ai (aj B1 aA);clear aA B1;obtain rfl|⟨hK',gj⟩:=hK';{have bb:=(ae HA w2 B2).2.2.2.2.1;exact aV};have hp:J iO.P<=2^20:=af;have hv:J iO.V<=2^20:=af;have pM:¬K'<0:=af;have HG:=ai (hX.sg Ux.s);have hl:=Ux.d;obtain⟨dop,hd⟩:=eI6;let⟨T,eT,hz,hR⟩:=du5 dop hd D S q iO Ux HG y0 y1 bO.1 bO.2.1;have ET:=ai eT;have hD:=ai hd;obtain⟨E,S',q1,R⟩:=T;have HZ:O (Qg E S'):=hz;have HRS:O (RS R):=hR;have OGo:=ai (λ(b:Pq)(hc:J iO.P<=b.c/\b.c<=maxLen)=>(⟨bO.2.2,hp,hv,bO.1,bO.2.1,hc.1,hc.2⟩:OG b iO));obtain⟨Wz,rfl⟩:=aF w2;have HCT:O (∀v,Bw Wz v->Cp 7 #[tV A D S q] v λz N=>∃A4 M A1 A2,z=dR (tV A4 D S q)/\tO (U (Q v)) M N A1 A2 A4 D S/\Bw v N):=λv hv=>by refine(dk3 (ae HA v (aj B2 hv)).2.1 Ux).h ?_;rintro z N⟨u0,d0,u1,d1,u2,d2,u3,d3,u4,d4,rfl,⟨M2,F1,F2,o2⟩,aA⟩;exact⟨⟨u0,d0,u1,d1,u2,d2,u3,d3,u4,d4⟩,M2,F1,F2,rfl,o2,aA⟩
 have HCS:O (∀v,Bw Wz v->Cp 7 #[tV A D S q] v λz N=>∃A4,z=dR (tV A4 D S q)/\(∀u,Bw N u->∃B,IY B u A4.p0 A4.c0 A4.p1 A4.c1 A4.p2 A4.c2 A4.p A4.c A4.r A4.d D S)/\Bw v N):=λv hv=>(ae HCT v hv).h λz N⟨A4,M,A1,A2,e,o,hb⟩=>⟨A4,e,λu hu=>⟨_,IY.H ⟨o.1,o.2.2.2.1,o.2.2.2.2.1⟩ hu⟩,hb⟩;have HCO:O (∀v,Bw Wz v->Cp 8 #[BH a iO] v (ToO iO v)):=λv qg=>dk5 (ae HA v (aj B2 qg)).2.2.2.2.2.2.2 hp hv;have HCI:O (∀A4 a4 v,Bw Wz v->(J iO.P<=a4.c/\a4.c<=maxLen)->(∃B,IY B v A4.p0 A4.c0 A4.p1 A4.c1 A4.p2 A4.c2 A4.p A4.c A4.r A4.d D S)->Cy v a4 iO->Cp 9 #[tV A4 D S q,BH a4 iO] v (Un v (E,S',q1,R))):=λA4 a4 v hv hc hI hO=>by obtain⟨B,hI⟩:=hI;have H:=ae HA v (aj B2 hv);exact dU7 _ _ _ _ _ _ _ _ _ _ D S q a4 iO v hI hO hl HG (ae OGo a4 hc) y0 y1 H.2.2.1 H.2.2.2.1 H.2.2.2.2.2.1 dop hD _ ET
 clear eT hd hz hR Tm qF
 go_wp21
 clear pM
 go_cut[6,7](λv6 v7 wc=>da5 Wz E S' q1 R v6 v7 wc)
 case first=>(
 have pX:O (∀u,(∀y,y<U (Q Wz)->u.heap[y]?=Wz.heap[y]?)->tB u (U (Q w)) A D S q/\o7 u (U (Q w)+1) a iO):=λu hu=>ae KO u λy hy=>(hu y (mH hy B2.size)).Z (B2.block y hy);have mU:=HCS;have KQ:=HCO;have XK:O (∀A4 a4 v,Bw Wz v->(J iO.P<=a4.c/\a4.c<=maxLen)->(∃B,IY B v A4.p0 A4.c0 A4.p1 A4.c1 A4.p2 A4.c2 A4.p A4.c A4.r A4.d D S)->Cy v a4 iO->Cp 6 #[tV A4 D S q,BH a4 iO] v λz N=>bE3 (U (Q v)) E S' q1 R z N/\Bw v N):=λA4 a4 v hv hc hI hO=>by obtain⟨B,hI⟩:=hI;exact(dq9 _ _ _ _ _ _ _ _ _ _ D S q a4 iO v hI hO hl HG (ae OGo a4 hc) y0 y1 dop hD _ ET).h λz N k=>k.per
 exact rgZ)
 case rest=>(
 obtain⟨b8,b9,x,ax,rfl,rfl,k8,k9,rz,bC⟩:=hcut;have BC:=ai bC;have z8:=my wc (Ad b8 0) (k8.1 0 _ rfl);have m:=ai (λ(v:G)(hv:Bw wc v)=>aE (k8.H z8 hv).iD (aE (k9.H (my wc (Ad b9 0) (k9.1 0 _ rfl)) hv).r8 (aE (aE (rz.1.H hv) (aE (rz.2.1.H hv) (aE (rz.2.2.1.H hv) (rz.2.2.2.H hv)))) (aE (ae HA v (aj (ae B2) (aj bC hv))) (aj bC hv)))));have hEd:=HZ.d;have QE:O (∀(v:G)(g:Pt),Bw wc v->tR v g E S'->Cp 10 #[tV g E S' q1,tV x E S' q1] v λz N=>z=dR (jO true)/\Bw v N):=λv g hv hg=>cG4 _ _ _ _ _ _ _ _ _ _ _ _ _ _ _ _ _ _ _ _ E S' q1 v hg (ae m v hv).2.2.1.1 HZ;have QR':O (∀(v:G)(g:Pr),Bw wc v->RdP v g R->Cp 11 #[wC g R,wC ax R] v λz N=>z=dR (jO true)/\Bw v N):=λv g hv hg=>by have hr:=ae HRS;have j:=(ae m v hv).2.2.1.2;exact eA8 (bv4 hg.1 j.1 (aM hr.1)) (λu hu=>cG5 _ _ _ _ _ _ rfl u (hg.2.1.H hu) (j.2.1.H hu) (aM hr.2.1.1) (ai λy hy=>aM (hr.2.1.2 y hy))) (λu hu=>bv3 rfl (hg.2.2.H hu) (j.2.2.H hu) (aM hr.2.2.1) (ai λy hy=>aM (hr.2.2.2 y hy))) v db
 let⟨i0,i1,W,i3,i4,i5,i6,i7,i8,i9,ia,ib,Z⟩:=(ae HA wc (aj B2 bC)).1;clear k8 k9 rz bC z8
 go_wp21
 clear i0 i1 W i3 i4 i5 i6 i7 i8 i9 ia ib Z;refine(ae HCT wc BC).h ?_;rintro z w4⟨u,M4,F1,F2,rfl,o4,dz⟩;obtain⟨U4,hU4,bU4,zU4,CU4,-⟩:=cR w4 (tL u D S q).toArray 46;have B4:=ai (aj dz bU4);have z4:=dz.size;have NX:=ai o4.lts;have O4:=ai (o4.H bU4);have C4:=ai CU4;have oo:=(ae m U4 B4).2.2.2.1.2.2.2.2.2.2.1;rw[hU4]at oo;clear o4 dz bU4 CU4
 go_wp21
 rw[<-hU4];clear hU4 oo;refine(ae HCO U4 (ae m U4 B4).2.2.2.2).h ?_;rintro z w5⟨b,C1,C2,rfl,r5,uq,lv5,lb5,li5,eh⟩;obtain⟨U5,hU5,bU5,zU5,CU5,-⟩:=cR w5 (NF b iO).toArray 54;have B45:=ai (aj eh bU5);have B5:=ai (aj B4 B45);have z5:=eh.size;have Qo:=bG lv5 lb5;have C45:=ai (C4.H af B45);have O45:=ai (O4.H B45);have X5:=eG (r5.H bU5) (li5.H bU5) CU5;let⟨i0,i1,W,i3,i4,i5,i6,i7,i8,i9,ia,ib,Z⟩:=C45.iD;have oo:=CU5.o7;rw[hU5]at i0 i1 W i3 i4 i5 i6 i7 i8 i9 ia ib Z oo;clear r5 lv5 lb5 li5 eh bU5 CU5 O4 C4
 go_wp21
 rw[<-hU5];clear hU5 i0 i1 W i3 i4 i5 i6 i7 i8 i9 ia ib Z oo;have o5:=ae O45;refine(ae HCI u b U5 (ae m U5 B5).2.2.2.2 uq ⟨_,⟨o5.1,o5.2.2.2.1,o5.2.2.2.2.1⟩⟩ X5.1).h ?_;clear o5;rintro z w6⟨v0,e0,v1,e1,v2,e2,v3,e3,v4,e4,X,B6,w7,rfl,⟨y1',y2',y3'⟩,hL,As,⟨M,D1,D2,o6⟩,je⟩;obtain⟨V5,Mp,bV5,zV5,CV5,-⟩:=cR w6 (tL ⟨v0,e0,v1,e1,v2,e2,v3,e3,v4,e4⟩ E S' q1).toArray 46;obtain⟨V6,hV6,bV6,zV6,CV6,-⟩:=cR V5 (Ec X R).toArray 50;rw[zV5]at CV6;have Xn:=aj bV5 bV6;have UR:=ai (aj je Xn);have UQ:=ai (aj B5 UR);have zV:U (Q V6)=U (Q w6)+1+1:=af;have G6:=bG (o6.H Xn) ((hL.W As y3').W (λc _ hc=>Xn.block c hc) Xn.size);have J6:=bG (CV5.H af bV6) CV6;have NL:=ai o6.lts;let⟨l0,l1,l2,l3,l4,l5,l6,l7,l8,l9,la,lb,lc⟩:=(ae m V6 UQ).1;rw[hV6,Mp]at l0 l1 l2 l3 l4 l5 l6 l7 l8 l9 la lb lc;have R7:=ai hL;have L7:O (∀c,B6<=c->c<U (Q w7)->V6.heap[c]?=w7.heap[c]?):=λc h1 h2=>(Xn.block c af).Z (As c h1 h2);clear hL As o6 je bV5 bV6 CV5 CV6 Xn zV5 zV6
 go_wp21
 rw[<-Mp,<-hV6];clear Mp hV6 l0 l1 l2 l3 l4 l5 l6 l7 l8 l9 la lb lc;refine cL (ae QE V6 ⟨v0,e0,v1,e1,v2,e2,v3,e3,v4,e4⟩ UQ G6.1.rd) λw8 EW=>?_;have B8:=ai EW;have j0:=(J6.2.H af EW).r8;let⟨m0,m1,m2,m3,m4,m5,m6,m7⟩:=(ae m w8 (aj UQ EW)).2.1;clear EW
 go_wp21
 clear j0 m0 m1 m2 m3 m4 m5 m6 m7;refine cL (ae QR' w8 X (aj UQ B8) (G6.2.W (λc _ hc=>B8.block c hc) B8.size).rdp.1) λw9 km=>?_;have XW:=ai (aj B8 km);have B9:=ai (aj UQ XW);have fk7:=UR.size;have z69:=XW.size;clear km B8
 go_wp21
 have S14:O (∀v,Bw w9 v->tB v (U (Q w4)) u D S q/\tB v (U (Q w)) A D S q):=λv hv=>⟨(C45.H af (aj UR (aj XW hv))).iD,(ae m v (aj B9 hv)).2.2.2.1.1⟩;refine fw (λv=>tB v (U (Q w4)) u D S q/\tB v (U (Q w)) A D S q) (by exact S14 _ mC) λhS=>?_;have BV:=ai (bD (U (Q w9)) w9).drew;let⟨v,fK⟩:=aF w9.drew;rw[<-fK]at BV hS⊢;clear fK;refine fu 0 1 hS ?_;refine fy 2 (λKK hK=>?_);refine ju (ae HCT v (ae m v (aj B9 BV)).2.2.2.2) ?_;rintro z wa⟨u',M',G1,G2,rfl,oa,sw⟩;refine fE ?_;have BA:=ai (aj BV sw);have OA:=ai oa.rd;refine bS hK (S14 wa BA) λhS=>?_;clear hK KK oa sw BV;refine fy 3 (λKK hK=>?_);refine uG (cG4 _ _ _ _ _ _ _ _ _ _ _ _ _ _ _ _ _ _ _ _ D S q wa (O45.H (aj UR (aj XW BA))).rd OA Ux) ?_;rintro z wb⟨rfl,oZ⟩;refine fE ?_;have XV:=ai (aj XW (aj BA oZ));refine bS hK (S14 wb (aj BA oZ)) λhS=>?_;clear hK KK oZ BA OA XW;refine tn 4 hS ?_;refine fQ ?_;have Bb:=ai (aj UQ XV);have z6b:=XV.size;clear hS S14 z69 B9
 go_wp21
 have S16:O (∀v,Bw wb v->o7 v (U (Q w5)) b iO/\o7 v (U (Q w)+1) a iO):=λv hv=>⟨(X5.2.2.H af (aj UR (aj XV hv))).o7,(ae m v (aj Bb hv)).2.2.2.1.2.2.2.2.2.2.1⟩;refine fw (λv=>o7 v (U (Q w5)) b iO/\o7 v (U (Q w)+1) a iO) (by exact S16 _ mC) λhS=>?_;have BV:=ai (bD (U (Q wb)) wb).drew;let⟨v,fK⟩:=aF wb.drew;rw[<-fK]at BV hS⊢;clear fK;refine fu 0 1 hS ?_;refine fy 2 (λKK hK=>?_);refine ju (ae HCO v (ae m v (aj Bb BV)).2.2.2.2) ?_;rintro z wa⟨b',C3,C4,rfl,ra,-,-,-,-,sw⟩;refine fE ?_;have BA:=ai (aj BV sw);have RA:=ai ra;refine bS hK (S16 wa BA) λhS=>?_;clear hK KK ra sw BV;refine fy 3 (λKK hK=>?_);have R5:=X5.1.H (aj UR (aj XV BA));refine uG (eA9 (bv4 R5.1 RA.1 hp) (bv4 R5.2 RA.2 hv) wa db) ?_;clear R5;rintro z wd⟨rfl,Pb⟩;refine fE ?_;have B6d:=ai (aj XV (aj BA Pb));refine bS hK (S16 wd (aj BA Pb)) λhS=>?_;clear hK KK Pb BA RA XV;refine tn 4 hS ?_;refine fQ ?_;have B5d:=ai (aj UR B6d);have Bd:=ai (aj UQ B6d);have z6d:=B6d.size;have Od:=ai (O45.H B5d);let⟨i0,i1,W,i3,i4,i5,i6,i7,i8,i9,ia,ib,Z⟩:=(C45.H af B5d).iD;clear hS S16 z6b Bb
 go_wp21
 clear i0 i1 W i3 i4 i5 i6 i7 i8 i9 ia ib Z;have hFn:J F1+J F2<=2^22:=by have h1:=mF.gy Od.2.2.2.2.2.1;have h2:=nG.gy Od.2.2.2.2.2.2.1;have h3:=cL6 S.E S.N;have:=Ux.s;omega
 refine(ch1 (U (Q wc)) M4 (U (Q w4)) F1 F2 _ _ _ _ _ _ _ _ _ _ D S q 1 wd Od Ux hFn NX af af af af).h ?_;rintro z we⟨rfl,-,mb,mk⟩;obtain⟨K1,Ks⟩:∃K:Int,1+(J D.l0:Int)+(J D.l1:Int)+(J D.l2:Int)+(J F1:Int)+(J F2:Int)=K:=⟨_,rfl⟩;have qF:0<=K1/\K1<=10000000:=af;rw[Ks];have HM:=bG mb mk;have oo:=((X5.2.2.H af B5d).dt (mk (U (Q w5)) af af)).o7;have hC:J C1+J C2<=2^22:=by have h1:=oz.gy Qo.1.1;have h2:=oz.gy Qo.1.2;omega
 clear mb mk Ks hFn Od
 go_wp21
 clear oo;refine cL (dL2 iO.K iO.S iO.F iO.E iO.G b.p b.q _ _ b.c b.d iO.P iO.V C1 C2 K1 we Qo.1.1 Qo.1.2 ((X5.2.1.H B5d).W λx j=>HM.2 x.b (aM (Qo.2 x j)) (aM (Qo.2 x j))) qF.1 af) λwf mo=>?_;have HK:O (∀c,c<U (Q wd)->(c<U (Q wc)\/U (Q U5)<=c)->wf.heap[c]?=wd.heap[c]?):=λc h1 h2=>(mo.blk c (mH h1 HM.1.size) λx j e=>aM (Qo.2 x j)).Z (h2.elim (λh2=>HM.1.block c h2) λh2=>HM.2 c h1 af);have Bf:O (Bw wc wf):=(Bd.Z HM.1).Z (mo.H (λx j=>aM (Qo.2 x j)) (aM HM.1.size));have zf:U (Q wd)<=U (Q wf):=gq HM.1.size mo.size;obtain⟨K2,vR⟩:∃K:Int,K1+((J C1+J C2:Nat):Int)=K:=⟨_,rfl⟩;have pM:¬K2<0:=af;have br5:decide (K2<0)=false:=by simp;omega
 rw[vR];have KG:O (∀c,U (Q U5)<=c->c<U (Q V6)->wf.heap[c]?=V6.heap[c]?):=λc h1 h2=>(ae HK c af (.R h1)).Z (B6d.block c h2);have Gf:=bG (G6.1.W λc h1 h2=>ae KG c af h2) (G6.2.W (λc h1 h2=>ae KG c af h2) af);have Jf:=bG (J6.1.dt (ae KG (U (Q w6)) af af)) (J6.2.dt (ae KG (U (Q w6)+1) af af));let⟨i0,i1,W,i3,i4,i5,i6,i7,i8,i9,ia,ib,Z⟩:=Jf.1.iD;let⟨l0,l1,l2,l3,l4,l5,l6,l7,l8,l9,la,lb,lc⟩:=(ae m wf Bf).1;clear mo vR HM qF hC B5d Bd
 go_wp21
 clear i0 i1 W i3 i4 i5 i6 i7 i8 i9 ia ib Z l0 l1 l2 l3 l4 l5 l6 l7 l8 l9 la lb lc pM br5;refine cL (ae QE wf ⟨v0,e0,v1,e1,v2,e2,v3,e3,v4,e4⟩ Bf Gf.1.rd) λwg Iu=>?_;have Bg:=ai Iu;have j0:=(Jf.2.H af Iu).r8;let⟨m0,m1,m2,m3,m4,m5,m6,m7⟩:=(ae m wg (aj Bf Iu)).2.1;clear Iu
 go_wp21
 clear j0 m0 m1 m2 m3 m4 m5 m6 m7;refine cL (ae QR' wg X (aj Bf Bg) (Gf.2.W (λc _ hc=>Bg.block c hc) Bg.size).rdp.1) λwh hbh=>?_;have Bh:=ai (aj Bg hbh);have zh:=Bh.size;have Gh:=ai (Gf.1.H Bh);have Jh:=bG (Jf.1.H af (ae Bh)) (Jf.2.H af (ae Bh));have KR:O (∀c,B6<=c->c<U (Q w7)->wh.heap[c]?=w7.heap[c]?):=λc h1 h2=>(Bh.block c af).Z ((ae KG c af af).Z (ae L7 c h1 h2));let⟨i0,i1,W,i3,i4,i5,i6,i7,i8,i9,ia,ib,Z⟩:=Jh.1.iD;clear hbh Bg Gf Jf
 go_wp21
 clear i0 i1 W i3 i4 i5 i6 i7 i8 i9 ia ib Z;have hDn:J D1+J D2<=2^22:=by have h1:=mF.gy Gh.2.2.2.2.2.1;have h2:=nG.gy Gh.2.2.2.2.2.2.1;have h3:=cL6 S'.E S'.N;have:=HZ.s;omega
 refine(ch1 (U (Q w7)) M (U (Q w6)) D1 D2 v0 v1 v2 v3 v4 e0 e1 e2 e3 e4 E S' q1 1 wh Gh HZ hDn NL af af af af).h ?_;rintro z wi⟨rfl,HH,mb,mk⟩;have FH:=ai HH;have HM:=bG mb mk;have zi:=mb.size;have Bci:O (Bw wc wi):=(aj Bf Bh).Z (mb.h af);have Ji:=bG (Jh.1.dt (mk _ af aU)) (Jh.2.dt (mk _ af (VJ _)));let⟨E1,E2,E3,l1,l2,l3,l4,ap⟩:=R7.rdp.2;have hE3:J E1+(J E2+J E3)<=2^22:=by
  have h1:=oz.gy l1;have h2:=rQ.gy l2;have h3:=lI.gy l3;have hr:=ae HRS;have g1:=hr.1;have g2:jy (λx:List Int=>J x) R.iB<=136*J R.iB:=Yq _ hr.2.1.2;have g3:=hr.2.1.1;have g4:jy Ua R.kF<=137*J R.kF:=Yq _ λe he=>by have:=hr.2.2.2 e he;unfold Ua;omega
  have g5:=hr.2.2.1;omega
 have qB:J R.iB<=10^8:=aM HRS.2.1.1;have ki:∀c,B6<=c->c<U (Q w7)->wi.heap[c]?=w7.heap[c]?:=λc h1 h2=>(mb.block c h2).Z (ae KR c h1 h2);have ka:∀x∈E1++(E2++E3),wi.heap[x.b]?=w7.heap[x.b]?:=λx j=>ki x.b (ap.lo x j) (ap.ke.lt j);have AP:=nK (ap.W ka) (show rQ wi _ _ E2 from l2.cn0 λc hc=>ki c (l4 c hc).1 (l4 c hc).2) (show lI wi _ _ E3 from lI.W l3 λx j=>ka x (by simp[j])) l1 (λx j=>aE (ap.lo x j) (ap.ke.lt j));obtain⟨K3,DL⟩:∃K:Int,1+(J E.l0:Int)+(J E.l1:Int)+(J E.l2:Int)+(J D1:Int)+(J D2:Int)=K:=⟨_,rfl⟩;have Ay:0<=K3/\K3<=10000000:=af;have eq8:¬K3<0:=af;rw[DL];have EK3:=ai DL;have j0:=Ji.2.r8;clear HH mb mk l1 l2 l3 l4 ap ki ka DL
 go_wp21
 clear j0;refine cL (dL1 R.k R.i R.e R.g R.n X.p1 X.p2 X.p3 X.c1 X.c2 X.c3 _ _ _ R.lW R.iB R.kF E1 E2 E3 K3 wi AP.2.2.2.1 AP.2.1 AP.2.2.1 AP.1.ke Ay.1 af qB) λwj mr=>?_;have MR:=ai mr;have zj:=mr.size;have kb:∀c,U (Q w7)<=c->c<U (Q wi)->wj.heap[c]?=wi.heap[c]?:=λc h1 h2=>mr.blk c h2 λx j e=>aM (AP.2.2.2.2 x j);have FJ:=ai (Ul.kp Gh FH λc h1 h2=>kb c h1 af);have Jj:=bG (Ji.1.dt (kb _ af af)) (Ji.2.dt (kb _ af af));have Bcj:O (Bw wc wj):=Bci.Z (mr.H (λx j=>aM (AP.2.2.2.2 x j)) af);obtain⟨K4,eK4⟩:∃K:Int,K3+((J E1+(J E2+J E3):Nat):Int)=K:=⟨_,rfl⟩;have eq5:¬K4<0:=af;have eq6:(K4 != K4)=false:=al;rw[eK4];have EK4:=ai eK4;let⟨i0,i1,W,i3,i4,i5,i6,i7,i8,i9,ia,ib,Z⟩:=Jj.1.iD;clear mr kb eK4 FH Ji HM Jh
 go_wp21
 clear i0 i1 W i3 i4 i5 i6 i7 i8 i9 ia ib Z;refine cL (eg6 D1 D2 v0 v1 v2 v3 v4 e0 e1 e2 e3 e4 E S' q1 1 wj FJ HZ hDn af af) λwk GC=>?_;rw[ae EK3];have Bk:=ai GC;have j0:=(Jj.2.H af GC).r8;clear GC
 go_wp21
 clear j0;refine cL (eg7 R.k R.i R.e R.g R.n X.p1 X.p2 X.p3 X.c1 X.c2 X.c3 _ _ _ R.lW R.iB R.kF E1 E2 E3 K3 wk AP.2.2.2.1 (rQ.H (rQ.mk AP.2.1 MR AP.1.ke) Bk) (lI.H (lI.mk AP.2.2.1 MR AP.1.ke) Bk) ((MR.held AP.1.nd).H Bk) Ay.1 af qB) λwl yS=>?_;rw[ae EK4];have Bl:=ai (aj Bcj (aj Bk yS));clear yS FJ Jj Bcj Bk MR AP KG KR HK Gh
 go_wp21
 clear Ay eq8 eq5 eq6;obtain⟨Wo,rfl⟩:=aF Wz;obtain⟨Wz,rfl⟩:=aF wl;have BO:=ai (λ(v:G)(hv:Bw Wz v)=>(ae m v (aj Bl hv)).2.2.2.2)
 go_cut[15,16](λv6 v7 wc=>da5 Wz E S' q1 R v6 v7 wc)
 case first=>(
 have pX:O (∀u,(∀y,y<U (Q Wz)->u.heap[y]?=Wz.heap[y]?)->tB u (U (Q w)) A D S q/\o7 u (U (Q w)+1) a iO):=λu hu=>by have b:=aj B2 (ae BO Wz db);exact KO u λy hy=>(hu y (mH hy b.size)).Z (b.block y hy)
 have mU:=ai (λ(v:G)(hv:Bw Wz v)=>ae HCS v (ae BO v hv));have KQ:=ai (λ(v:G)(hv:Bw Wz v)=>ae HCO v (ae BO v hv));have XK:=ai (λ(A4:Pt)(a4:Pq)(v:G)(hv:Bw Wz v)hc hI hO=>(ae HCI A4 a4 v (ae BO v hv) hc hI hO).h λz N k=>k.per);exact rgZ)
 case rest=>(
 obtain⟨b15,b16,g,ag,rfl,rfl,k8,k9,rz,bK⟩:=hcut;have z8:=my wc (Ad b15 0) (k8.1 0 _ rfl);have Bp:=ai (aj Bl bK);have KP:=eG k9 rz (my wc (Ad b16 0) (k9.1 0 _ rfl));let⟨i0,i1,W,i3,i4,i5,i6,i7,i8,i9,ia,ib,Z⟩:=k8.iD;let⟨l0,l1,l2,l3,l4,l5,l6,l7,l8,l9,la,lb,lc⟩:=(ae m wc Bp).1;clear k8 k9 rz bK z8
 go_wp21
 clear i0 i1 W i3 i4 i5 i6 i7 i8 i9 ia ib Z l0 l1 l2 l3 l4 l5 l6 l7 l8 l9 la lb lc;refine cL (ae QE wc g Bp KP.2.1.1) λwq Kd=>?_;have Bq:=ai Kd;have j0:=(KP.1.H KP.2.2 Kd).r8;let⟨m0,m1,m2,m3,m4,m5,m6,m7⟩:=(ae m wq (aj Bp Kd)).2.1;clear Kd
 go_wp21
 clear j0 m0 m1 m2 m3 m4 m5 m6 m7;have rp:=KP.2.1.2;refine(ae QR' wq ag (aj Bp Bq) ⟨rp.1.H Bq,rp.2.1.H Bq,rp.2.2.H Bq⟩).h ?_;clear rp;rintro z wr⟨rfl,aC⟩;have BF:=(ae m wr (aj Bp (aj Bq aC))).2.2.2.1.2.2.2.2.1;clear aC Bq Bp KP;exact aV))
theorem eP8:dG.cellsOf 24=2:=by kernel_rfl
theorem eQ0:dG.cellsOf 26=6:=by kernel_rfl
theorem bu4{H:Type}{enc:TypeId×dV->H}{r q:dV}{x:DataW H×List MemPlace}(h:DataW.trod enc dG w 0 (λ_=>true) true n 24 [r,q]=x):∃(p:OA)(l:LI)(c:Nat)(s:Int),r=.S p (J l) c/\q=.I s/\Rd w (.S p (J l) c) l/\J l<=maxLen/\aD l:=by
 let⟨E,D,m,N,_,j,i⟩:=trod_struct2 underlying24 h;simp[cM7,bA9]at j i;obtain⟨p,l,c,e,u,y,-,B⟩:=Rd.Vt j;let⟨s,o,_,M⟩:=uL underlying3 i;simp at e o;exact⟨p,l,c,s,e,o,u,y,B⟩
theorem eP6:dG.cellsOf 35=7:=by kernel_rfl
variable {r:Reach}
theorem dG2{H:Type}{enc:TypeId×dV->H}{d:DataW H}(hv:Value.okWide dG w r b0 35 v)(h:DataW.Trod enc dG w 0 (λ_=>true) true 35 v d ps):∃(k s f e g:Int)(p q:OA)(P V:LI)(c i:Nat),v=mG k s (.S p (J P) c) f (.S q (J V) i) e g/\Rd w (.S p (J P) c) P/\Rd w (.S q (J V) i) V/\J P<=maxLen/\J V<=maxLen/\(∀z∈P,0<=z/\z<256)/\(∀z∈V,0<=z/\z<256)/\0<=s/\s<2^64:=by
 obtain⟨cs,rfl,gj⟩:=okWide_struct underlying35 hv;obtain⟨x0,x1,x2,x3,x4,x5,x6,rfl⟩:=eV6 (gj.Z eP6);obtain⟨fuel,hf⟩:=h;let⟨y0,y1,y2,y3,y4,y5,y6,m,_,_,u,h1,h2,h3,h4,o,j⟩:=bR2 underlying35 hf;simp[cM7,eP3,bA9,Value.cells]at u h1 h2 h3 h4 o j;let⟨k,R,_,_⟩:=uL underlying3 u;let⟨s,N,_,W⟩:=uL underlying27 h1;let⟨p,P,c,M,iK,Z,_,gu⟩:=Rd.Vt h2;let⟨f,E,_,_⟩:=uL underlying3 h3;let⟨q,V,i,B,Gu,X,_,Kk⟩:=Rd.Vt h4;let⟨e,y,_,_⟩:=uL underlying27 o;let⟨g,x,_,_⟩:=uL underlying27 j;simp at R N M E B y x;subst R N M E B y x;let⟨s0,s1⟩:=dj1 W;exact⟨k,s,f,e,g,p,q,P,V,c,i,rfl,iK,Gu,Z,X,gu,Kk,s0,s1⟩
theorem eP4:dG.cellsOf 33=13:=by kernel_rfl
theorem eV7(h:cs.size=13):∃a b c d e f g h i j k l m,cs=#[a,b,c,d,e,f,g,h,i,j,k,l,m]:=by
 obtain⟨l⟩:=cs;simp at h
 match l,h with
 |[a,b,c,d,e,f,g,h,i,j,k,l,m],_=>exact⟨a,b,c,d,e,f,g,h,i,j,k,l,m,rfl⟩
theorem dq0{H:Type}{enc:TypeId×dV->H}{d:DataW H}(hv:Value.okWide dG w r b0 33 v)(h:DataW.Trod enc dG w 0 (λ_=>true) true 33 v d ps):∃p0 o p1 j p2 i p c r d D S q,v=yA p0 o p1 j p2 i p c r d D S q/\M6 w p0 o p1 j p2 i p c r d D S/\(J D.l0<=maxLen/\J D.l1<=maxLen/\J D.l2<=maxLen)/\aD D.l0/\aD D.l1/\SX S:=by
 obtain⟨cs,rfl,gj⟩:=okWide_struct underlying33 hv;obtain⟨a0,a1,a2,a3,a4,a5,a6,a7,a8,a9,aa,ab,ac,rfl⟩:=eV7 (gj.Z eP4);obtain⟨fuel,hf⟩:=h;let⟨y0,y1,y2,m,_,_,B,y,u⟩:=trod_struct3 underlying33 hf;simp[eQ0,cM2,ai4,Value.cells]at B y u;let⟨z0,z1,z2,m',_,_,s,h1,h2⟩:=trod_struct3 underlying26 B;simp[eP8]at s h1 h2;obtain⟨p0,l0,o,X,rfl,rfl,r0,m0,b0⟩:=bu4 s;obtain⟨p1,l1,j,W,rfl,rfl,r1,m1,b1⟩:=bu4 h1;obtain⟨p2,l2,i,V,rfl,rfl,Z,m2,_⟩:=bu4 h2;let⟨e,g,x,t,p,q,N,ns,c,c',M,k1,k2,k3,k4,k5,k6,k7,k8⟩:=dp0 y;let⟨R,E,_,_⟩:=uL underlying27 u;simp at M E;obtain⟨rfl,rfl,rfl,rfl,rfl,rfl⟩:=M;subst E;exact⟨p0,o,p1,j,p2,i,p,c,q,c',⟨l0,X,l1,W,l2,V⟩,⟨e,g,x,t,N,ns⟩,R,rfl,⟨r0,r1,Z,k2,k3⟩,⟨m0,m1,m2⟩,b0,b1,⟨k6,k7,k8,k1,k4,k5⟩⟩
namespace sR
open Rows
open Rows renaming fnExactSubmitRow->Px,fnExactSubmitSpec->aD0
def Eo:List (String×DataW Unit):=[("unicode/utf8.acceptRanges",laid_unicode_utf8_acceptRanges),("loop.example/s02132/impl.forms",laid_loop_example_s02132_impl_forms),("unicode/utf8.first",laid_unicode_utf8_first)]
theorem et:dG.globalNamed "errors.errorType"=some 1:=by kernel_rfl
theorem rt:(dG.cutTypes.find? (·.1== "internal/reflectlite.rtype")).map (·.2)=some 319:=by kernel_rfl
theorem dG4:((List.range 425).filter λt=>dG.rowNamed t [101,114,114,111,114])=[177]:=by kernel_rfl
theorem size:dG.types.size=425:=by kernel_rfl
theorem parts{W:G}(h:laidMetH dG Px.laid W):laidMet dG Eo W∧handlesMet dG [("errors.errorType",laid_errors_errorType)] W:=h
theorem er{W:G}(h:laidMetH dG Px.laid W):I W (Ad 1 0)=Y (.iface 319 (jP #[dP (Ad 5 177)])):=by
 let⟨name,u,j,s,r,q,o,i⟩:=(parts h).2 _ (rC.2 rfl);cases(CU s).C;obtain rfl:=CU (rt.C.Z r);have hm:j∈(List.range 425).filter λt=>dG.rowNamed t [101,114,114,111,114]:=JL.2 ⟨xK.2 (size▸q),o⟩;rw[dG4]at hm;cases rC.1 hm;have m:typeHandle dG 177=dP (Ad 5 177):=aS;rw[m]at i;simpa using World.var?_cell et i 0
theorem ev9{W:World}(h:laidMet dG Eo W){k:Nat}(hk:k<14){r s o x:Bool}{u B vs:Int}(D:∀R:List (DataW Unit),laid_loop_example_s02132_impl_forms=.agg R->R[k]?=some (.agg [.lit (.bool r),.lit (.bool s),.lit (.I u),.lit (.I B),.lit (.I vs),.lit (.bool o),.lit (.bool x)])):KE W 0 (k*7) r s u B vs o x:=by
 obtain⟨ps,⟨g,t,cs,fuel,p,q,M,Z,X,hd,_,_⟩,_,_⟩:=laidMet.tail h;obtain rfl:=CU ((show dG.globalNamed "loop.example/s02132/impl.forms"=some 0 by kernel_rfl).C.Z M);obtain rfl:=CU ((show(dG.globals[0]?).map (·.type)=some 111 by kernel_rfl).C.Z Z);let⟨S,m,_,ex,vM,hl,V⟩:=DataW.trod_array underlying111 hd;have N:=V k hk;rw[cM5,bN af]at N;have E:=D _ (Prod.mk.inj ex).1;rw[qU,bN (by omega:k<S.length)]at E;simp only[JE,oK]at E;have OY:=ew4 N E;have i:∀j v,[Value.bool r,.bool s,.I u,.I B,.I vs,.bool o,.bool x][j]?=some v->j<7->W.cell? (Ad 0 (k*7+j))=some v:=λj v hj y=>by rw[World.var?_cell M X (k*7+j),<-hj,<-OY,bd4,aK y,NK];simp
 exact⟨by simpa using i 0 _ rfl af,i 1 _ rfl af,i 2 _ rfl af,i 3 _ rfl af,i 4 _ rfl af,i 5 _ rfl af,i 6 _ rfl af⟩
theorem tab{W:G}(h:laidMet dG Eo W):uz W:=by
 intro k m j;obtain rfl|rfl|rfl|rfl|rfl|rfl|rfl|rfl|rfl|rfl|rfl|rfl|rfl:=kinds m j<;>exact ev9 h af (λo i=>by rw[<-(DataW.agg.inj i)];rfl)
def bu1(w:G):G:=
 { w with heap:=w.heap.modify 1 λ
   |Obj.cells _ t frozen=>.cells #[.iface 319 (jP #[dP (Y ⟨5,177,dN⟩)])] t frozen
   |o=>o}
theorem dP6(os:Os)(args:iA):laidMetH dG Px.laid (((bu1 (World.holding dG os ⟨#[],#[],[]⟩)).layVars dG Eo).forCall (λ_ _=>0) ⟨#[],args,[]⟩).memory:=by
 refine laidMetH_of_parts ?_ aS;have j:(Eo.filter λx=>(Eo.map (·.1)).contains x.1)=Eo:=List.filter_eq_self.2 λx i=>aY5.2 (fM.2 ⟨x,i,rfl⟩);have m:(Eo.filter λx=>!(Eo.map (·.1)).contains x.1)=[]:=ch4.2 λx i=>by rw[aY5.2 (fM.2 ⟨x,i,rfl⟩)];simp
 have h:laidMet dG Eo _:=laidMet_layVars (w0:=bu1 (World.holding dG os ⟨#[],#[],[]⟩)) (Eo.map (·.1)) [] (by rw[j]) (by rw[j];kernel_rfl) (by rw[j];kernel_rfl) (m▸LaidIn.none);exact(show laidMet dG Eo _ from h.of_heap (by simp[World.memory,World.forCall,Input.heap]))
theorem lifted(os:Os)(i:os.Started)(H:Type)(enc:TypeId×Value->H):ReturnsInHanded {} Tryz.checked os 3 .any (λw args=>(aD0.pre enc dG f3 Px.domain false w args/\laidMetH dG Px.laid w)/\sizedMet enc dG f3 (OpenSpec.ofChange aD0) false w args)
   (aD0.post enc dG f3 false true false false):=by
 refine el5 (C:=Tryz.checked) (X:=λw _=>laidMetH dG Px.laid w) (λ_ _ _ hh h=>h.of_heap hh) own i aS func3
  (ChangeSpec.witness_shaped (enc:=enc) (C:=Tryz.checked) (os:=os) (X:=λw _=>laidMetH dG Px.laid w) false ((bu1 (World.holding dG os ⟨#[],#[],[]⟩)).layVars dG Eo) #[.agg #[ay,.I 0,ay,.I 0,ay,.I 0,.U 0,.U 0,.U 0,.I 0,ay,ay,.U 0],.agg #[.I 0,.U 0,ay,.I 0,ay,.U 0,.U 0]] 8 (World.layVars_os _ _ _)
   (World.shaped_of_ZipB aS aS) aS aS aS
   (dP6 os _)) ?_
 intro W base args ds gs y s hW hL Wc;have Ep:∀(j:Nat)t v,f3.params[j]?=some t->args[j]?=some v->Value.okWide dG W .any base t v:=s;have R:=hW;obtain⟨p,q,o,Z,rfl,SR,aI⟩:=hW;have hA:DataW.TrodAll enc dG W 0 (λ_=>true) true f3.params.toList args.toList ds p:=o;have hV:DataW.TrodVars enc dG W (λ_=>true) ["loop.example/s02132/impl.forms"] gs q:=Z;rw[params3]at hA Ep;obtain⟨v0,vs0,d0,ds0,p0,q0,fz1,rfl,rfl,h0,r0⟩:=trodAll_cons hA;obtain⟨v1,vs1,d1,ds1,p1,q1,rfl,rfl,rfl,h1,B⟩:=trodAll_cons r0;obtain⟨rfl,rfl,rfl⟩:=trodAll_nil B;obtain rfl:args=#[v0,v1]:=by cases args;simp_all
 obtain⟨gg,tt,cs,fuel,dg,pg,rfl,hg,ht,fu6,hd,hq⟩:=trodVars_one hV;have k0:=h0;have k1:=h1;have N:∀x∈p0,x.block<W.heap.size:=by obtain⟨m,hm⟩:=k0;exact DataW.trod_lt m _ _ _ hm
 have M:∀x∈p1,x.block<W.heap.size:=by obtain⟨m,hm⟩:=k1;exact DataW.trod_lt m _ _ _ hm
 obtain⟨b0,c0,b1,c1,b2,c2,b,c,r,d,D,S,q,rfl,yO,hm,y0,y1,hX⟩:=dq0 (Ep 0 33 v0 rfl rfl) h0;obtain⟨K,S',F,E,iG,po,pv,P,V,co,cv,rfl,u1,u2,m1,m2,bP,bV,s0,s1⟩:=dG2 (Ep 1 35 v1 rfl rfl) h1;clear o s;refine(dP2 ⟨b0,c0,b1,c1,b2,c2,b,c,r,d⟩ D S q ⟨po,co,pv,cv⟩ ⟨K,S',F,E,iG,P,V⟩ W yO ⟨u1,u2⟩ hm.1 hm.2.1 hm.2.2 m1 m2 (ai y0) (ai y1) (ai ⟨bP,bV,s0,s1⟩) (ai hX) (dK3 Wc) (tab (parts hL).1) (er hL)).h λr W'⟨he,u⟩=>?_;subst he;exact⟨_,rfl,_,_,_,[],_,_,R,trodAll_mk1 (shut_bool underlying4 _),(trodAll_cons_mk (Below.trod laidOut aS (VM aS) k0 u N) (trodAll_cons_mk (Below.trod laidOut aS (VM aS) k1 u M) trodAll_mk0)),(Below.trodVars laidOut u aS hV),u.frame _,λh=>by cases h⟩
end sR
end Go.Proofs.YthlkmijffhhimaaGreatDoor
