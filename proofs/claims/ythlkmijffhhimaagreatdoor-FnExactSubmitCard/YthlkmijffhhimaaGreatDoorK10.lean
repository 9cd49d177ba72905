import Derived.Test.YthlkmijffhhimaaGreatDoorK9
open Array renaming setIfInBounds->jI,size->U
open Bool renaming false->dF,true->dY
open Decidable renaming decide->dD
open Go renaming undef->jQ,Calls->dQ,Value->dV,World->G
open Go.Ending renaming returned->dR
open Go.IntKind renaming i64->jV,wrap->jY
open Go.Obj renaming cells->dO
open Go.Proofs.Tryz renaming prog->dG
open Go.RowKit renaming Hid->O
open Go.Value renaming ownBlock->jB,string->jJ,bool->jO,agg->jP,I->dI,pointer->dP,S->dS,tuple->dT,U->dU
open Go.World renaming alloc->jA,frozen?->jF,grownBy->jG,heap->Q,setCell->jS,cell?->I
open Int renaming toNat->jN
open List renaming drop->jD,getD->jE,flatten->jL,eraseIdx->jX,length->J
open Option renaming none->dN,some->Y
namespace Go.Proofs.YthlkmijffhhimaaGreatDoor
set_option maxHeartbeats 12800000
set_option linter.all false
set_option maxRecDepth 100000
open Go.ChangeShapes Go.WideShapes Go.ChangeAt Go.RowKit Go.Maps Go.Proofs.Tryz
section
variable {w0 w:World}{b bs bn:Nat}{D:SD}{SB NB HB UB:iN}{S F E iG:Int}{pp:OA}{np cp:Nat}{pq:OA}{nv cv:Nat}{P V:LI}
theorem eS1(cx:tZ w0 w b bs bn D SB NB HB UB S F E iG pp np cp pq nv cv P V):Cp 135 #[Pz b,nI (5:Nat) S (.S pp np cp) F (.S pq nv cv) E iG] w (zG w0 w b bs bn D (kG D (5:Nat) S F E iG P V)):=by
 by_cases m:yX D (rowOf 5).1 (rowOf 5).2.1 (qt 5 S F (J P) (J V) E iG) (5:Nat) S P=0;{
 let⟨hB,x,hp⟩:=DO m;obtain⟨i,nd,j,rfl,q⟩:=Vo (k:=5) (S:=S) (F:=F) (E:=E) (iG:=iG) (V:=V) (.L rfl) (hp rfl);let⟨o,u,s⟩:=cx.gd.ci.nt nd (bq j);refine xu cx 5 (aF2 D nd S) (xD (ly D i 2) i) iS 304 (jP #[.U S,jJ (bg nd.A)]) 350 349 (jP #[.U S,jJ (bg nd.A)]) (λ_=>⟨λw' c=>eJ3 c.ps c.gd.pw (λnd aI=>⟨(c.gd.wf.pb nd aI).2.1,(c.gd.wf.pb nd aI).2.2⟩) j c.hS rfl,λhC w' c=>(eJ4 c.ps j c.gd.ci.so o c.gd.ci.kd (id:=S)).h λr w'' h=>tg.r h,?_⟩);rw[(MX bf bf bf m).Z q];unfold BI;simp only[j];rw[aK bf];unfold aF2;by_cases q1:um D.N nd.A=[];{by_cases q2:yW nd S=dF<;>simp[q1,q2]}
 {simp[q1]}};{exact xu cx 5 0 D iS 304 (jP #[.U S,jJ (bg P)]) 350 349 (jP #[.U S,jJ (bg P)]) (λh=>absurd h m)}
theorem eS0(cx:tZ w0 w b bs bn D SB NB HB UB S F E iG pp np cp pq nv cv P V):Cp 135 #[Pz b,nI (6:Nat) S (.S pp np cp) F (.S pq nv cv) E iG] w (zG w0 w b bs bn D (kG D (6:Nat) S F E iG P V)):=by
 by_cases j:yX D (rowOf 6).1 (rowOf 6).2.1 (qt 6 S F (J P) (J V) E iG) (6:Nat) S P=0;{let⟨hB,M,hp⟩:=DO j;obtain⟨i,nd,m,rfl,u⟩:=Vo (k:=6) (S:=S) (F:=F) (E:=E) (iG:=iG) (V:=V) (.R (.L rfl)) (hp rfl);have o:=bq m;let⟨s,B,y⟩:=cx.gd.ci.nt nd o;refine xu cx 6 0 D ⟨0,nd.D,nd.P,nd.F,nd.M,nd.V,[],[]⟩ 306 (jP #[jJ (bg nd.A)]) 337 352 (jP #[]) (λ_=>⟨λw' c=>QL rfl,λhC w' c=>(eu5 w' b bs bn D SB NB HB UB c.ps i nd m s.pl _ rfl (c.gd.wf.vl nd o)).h λr w''⟨p,c,x,q1,q2,q3,q4,q⟩=>eu4 rfl q1 q2 q3 q4 q,?_⟩);rw[(MX bf bf bf j).Z u];unfold BI;simp only[m];rw[ri,aK bf,aK iH]};{exact xu cx 6 0 D iS 306 (jP #[jJ (bg P)]) 337 352 (jP #[]) (λh=>absurd h j)}
theorem eR3(cx:tZ w0 w b bs bn D SB NB HB UB S F E iG pp np cp pq nv cv P V):Cp 135 #[Pz b,nI (7:Nat) S (.S pp np cp) F (.S pq nv cv) E iG] w (zG w0 w b bs bn D (kG D (7:Nat) S F E iG P V)):=by
 by_cases m:yX D (rowOf 7).1 (rowOf 7).2.1 (qt 7 S F (J P) (J V) E iG) (7:Nat) S P=0;{
 let⟨hB,B,hp⟩:=DO m;obtain⟨i,nd,j,rfl,u⟩:=Vo (k:=7) (S:=S) (F:=F) (E:=E) (iG:=iG) (V:=V) (.R (.R (.L rfl))) (hp rfl);have s:=bq j;have gd:=cx.gd;let⟨q,y,x⟩:=gd.ci.nt nd s;refine xu cx 7 (Yz nd S) (ly {D with N:=D.N.set i {nd with V:=V}} i 1) iS 308 (jP #[.U S,jJ (bg nd.A),.S pq nv cv]) 354 353 (jP #[.U S,jJ (bg nd.A),.S pq nv cv]) (λ_=>⟨λw' c=>dt1 c.ps j q.pl c.hS (V:=.S pq nv cv) (pv:=pq) (nv:=nv) (cv:=cv) rfl,λhC w' c=>(dt3 c.ps j c.gd.ci.so q (id:=S) c.hV).h λr w'' h=>tg.r h,?_⟩);rw[(MX bf bf bf m).Z u];unfold BI;simp only[j];rw[ri,ri,aK bf,dt2 (gd.ho nd s).1];by_cases q1:nd.M=1/\nd.y.headD 0≠S
 {rw[aK q1,aK q1];rfl};{rw[aJ q1,aJ q1];rfl}};{exact xu cx 7 0 D iS 308 (jP #[.U S,jJ (bg P),.S pq nv cv]) 354 353 (jP #[.U S,jJ (bg P),.S pq nv cv]) (λh=>absurd h m)}
theorem eR7(cx:tZ w0 w b bs bn D SB NB HB UB S F E iG pp np cp pq nv cv P V):Cp 135 #[Pz b,nI (8:Nat) S (.S pp np cp) F (.S pq nv cv) E iG] w (zG w0 w b bs bn D (kG D (8:Nat) S F E iG P V)):=by
 by_cases m:yX D (rowOf 8).1 (rowOf 8).2.1 (qt 8 S F (J P) (J V) E iG) (8:Nat) S P=0;{
 let⟨hB,hs,hp⟩:=DO m;obtain⟨i,nd,e2,rfl,e4⟩:=Vo (k:=8) (S:=S) (F:=F) (E:=E) (iG:=iG) (V:=V) (.R (.R (.R (.L rfl)))) (hp rfl);have j:=bq e2;have gd:=cx.gd;let⟨N,u,q⟩:=gd.ci.nt nd j;have lr:=N.pl;have hF:F=1\/F=2:=by simp only[qt,rowOf,Fc,gP,mn]at hB;omega
 refine xu cx 8 (Di D nd S F) (Ag D i S F).1 (Ag D i S F).2 310 (jP #[.U S,jJ (bg nd.A),.I F]) 356 355 (jP #[.U S,jJ (bg nd.A),.I F]) (λ_=>⟨λw' c=>dM9 c.ps e2 lr c.hS hF rfl,?_,?_⟩) (hRk:=λhC=>by obtain rfl|rfl:=hF;exact vj (λz:SD×RP=>z.2.k) (cj9 e2 (λh=>uJ.1 (((gd.ho nd j).2 af).2.2 h)) hC).1;exact vj (λz:SD×RP=>z.2.k) (cj8 e2 hC));{
 intro hC w' c;obtain rfl|rfl:=hF;{let⟨q1,q2⟩:=cj9 e2 (λh=>uJ.1 (((gd.ho nd j).2 af).2.2 h)) hC;rw[q1];exact(dN1 c.ps e2 lr u q c.hS ⟨gd.wf.g.1,q2⟩).h λr w'' h=>tg.r h};{
 rw[cj8 e2 hC];have y:nd.M≠1:=λe=>by unfold Di at hC;rw[aK rfl,aK e]at hC;split at hC<;>omega
 obtain⟨q1,q2,-⟩:=(gd.ho nd j).2 y;exact(dN0 c.ps e2 lr u q c.hS ⟨q1,q2⟩).h λr w'' h=>tg.r h}};rw[(MX bf bf bf m).Z e4];unfold BI;simp only[e2];rw[ri,ri,ri,aK bf];by_cases q1:Di D nd S F=0;{rw[aK q1]};{rw[aJ q1,dM8 e2 q1]}};{exact xu cx 8 0 D iS 310 (jP #[.U S,jJ (bg P),.I F]) 356 355 (jP #[.U S,jJ (bg P),.I F]) (λh=>absurd h m)}
theorem eR2(cx:tZ w0 w b bs bn D SB NB HB UB S F E iG pp np cp pq nv cv P V):Cp 135 #[Pz b,nI (9:Nat) S (.S pp np cp) F (.S pq nv cv) E iG] w (zG w0 w b bs bn D (kG D (9:Nat) S F E iG P V)):=by
 by_cases m:yX D (rowOf 9).1 (rowOf 9).2.1 (qt 9 S F (J P) (J V) E iG) (9:Nat) S P=0;{
 let⟨hB,B,hp⟩:=DO m;obtain⟨i,nd,j,rfl,x⟩:=Vo (k:=9) (S:=S) (F:=F) (E:=E) (iG:=iG) (V:=V) (.R (.R (.R (.R (.L rfl))))) (hp rfl);let⟨o,u,s⟩:=cx.gd.ci.nt nd (bq j);refine xu cx 9 (if nd.y.contains S then 0 else 10) (kV D i S) iS 311 (jP #[.U S,jJ (bg nd.A)]) 358 357 (jP #[.U S,jJ (bg nd.A)]) (λ_=>⟨λw' c=>di9 c.ps j o.pl c.hS rfl,λhC w' c=>by
   have y:nd.y.contains S:=by by_cases q:nd.y.contains S=dY;{exact q};{rw[aJ q]at hC;omega}
   exact(dj0 c.ps j c.gd.ci.so o c.hS u s y).h λr w'' h=>tg.r h,?_⟩)
 rw[(MX bf bf bf m).Z x];unfold BI;simp only[j];rw[ri,ri,ri,ri,aK bf];by_cases q1:nd.y.contains S=dY;{rw[aK q1,aK q1];rfl};{rw[aJ q1,aJ q1];rfl}};{exact xu cx 9 0 D iS 311 (jP #[.U S,jJ (bg P)]) 358 357 (jP #[.U S,jJ (bg P)]) (λh=>absurd h m)}
theorem eR1(cx:tZ w0 w b bs bn D SB NB HB UB S F E iG pp np cp pq nv cv P V):Cp 135 #[Pz b,nI (11:Nat) S (.S pp np cp) F (.S pq nv cv) E iG] w (zG w0 w b bs bn D (kG D (11:Nat) S F E iG P V)):=by
 by_cases m:yX D (rowOf 11).1 (rowOf 11).2.1 (qt 11 S F (J P) (J V) E iG) (11:Nat) S P=0;{let⟨hB,hs,hp⟩:=DO m;obtain⟨i,nd,q,rfl,s⟩:=Vo (k:=11) (S:=S) (F:=F) (E:=E) (iG:=iG) (V:=V) (.R (.R (.R (.R (.R rfl))))) (hp rfl);let⟨j,x,u⟩:=cx.gd.ci.nt nd (bq q);refine xu cx 11 0 {D with N:=D.N.set i {nd with X:=me nd.X S}} iS 315 (jP #[.U S,jJ (bg nd.A)]) 337 360 (jP #[]) (λ_=>⟨λw' c=>QL rfl (w:=w'),λhC w' c=>(dh0 w' b bs bn D SB NB HB UB c.ps i nd q j.pl j.Nq j.Nu S c.hS).h λr w'' h=>tg.r h,?_⟩);rw[(MX bf bf bf m).Z s];unfold BI;simp only[q];rw[ri,ri,ri,ri,ri,aK iH]};{exact xu cx 11 0 D iS 315 (jP #[.U S,jJ (bg P)]) 337 360 (jP #[]) (λh=>absurd h m)}
theorem eS4(cx:tZ w0 w b bs bn D SB NB HB UB S F E iG pp np cp pq nv cv P V):Cp 135 #[Pz b,nI (10:Nat) S (.S pp np cp) F (.S pq nv cv) E iG] w (zG w0 w b bs bn D (kG D (10:Nat) S F E iG P V)):=by
 refine xu cx 10 0 D {iS with n:=ai3 D.N P S E iG} 313 (jP #[.U S,jJ (bg P),.U E,.U iG]) 337 359 (jP #[]) (λj=>⟨λw' c=>QL rfl (w:=w'),λ_ w' c=>(eP0 w' b bs bn D SB NB HB UB c.ps P c.hB (by show _<=_;rw[c.eP];exact c.hp) (λnd aI=>(c.gd.wf.pb nd aI).2.1) S c.hS E iG _ rfl).h λr w'' h=>tg.r h,?_⟩);let⟨hB,m,hp⟩:=DO j;rw[MX bf bf bf j,aK rfl,eO7 (λnd aI=>(cx.gd.ho nd aI).1)];obtain hr|⟨hr,hv,-⟩:=as5 (hp rfl);{rw[YG bf]at hr;cases hr};{unfold zO;rw[hr,hv,aJ al,ri,aK bf]}
theorem eR8(cx:tZ w0 w b bs bn D SB NB HB UB S F E iG pp np cp pq nv cv P V):Cp 135 #[Pz b,nI (13:Nat) S (.S pp np cp) F (.S pq nv cv) E iG] w (zG w0 w b bs bn D (kG D (13:Nat) S F E iG P V)):=by
 refine xu cx 13 0 D {iS with iB:=(yK D.N P).map wW} 317 (jP #[jJ (bg P)]) 337 362 (jP #[]) (λj=>⟨λw' c=>QL rfl (w:=w'),λ_ w' c=>(dN7 w' b bs bn D SB NB HB UB c.ps c.gd.pw c.gd.wf.pb P c.hB _ rfl _ rfl (by have:=cm2 (ns:=D.N) (P:=P);have:=c.gd.nl;omega)).h λr w'' h=>aJ4.r rfl h,?_⟩);let⟨hB,q,hp⟩:=DO j;rw[MX bf bf bf j,aK rfl,<-cm3];obtain hr|⟨hr,m,o⟩:=as5 (hp rfl);{unfold zO;rw[hr,aJ al,ri,ri,aJ al,aK bf]};{obtain⟨i,nd,x,u,s,-⟩:=cf4 (o rfl);unfold zO;rw[hr,m,aJ al,ri,ri,aJ bL,aK bf]}
theorem eS2(cx:tZ w0 w b bs bn D SB NB HB UB S F E iG pp np cp pq nv cv P V):Cp 135 #[Pz b,nI (4:Nat) S (.S pp np cp) F (.S pq nv cv) E iG] w (zG w0 w b bs bn D (kG D (4:Nat) S F E iG P V)):=by
 let⟨j,hj,s⟩:=co1 (rU P V (if F=1 then S else 0)) D.N;refine xu cx 4 (MO D P) {D with N:=rF (rU P V (if F=1 then S else 0)) D.N} iS 302 (jP #[.U S,jJ (bg P),jO (F==1),.S pq nv cv]) 348 347 (jP #[.U S,jJ (bg P),jO (F==1),.S pq nv cv]) (λi=>⟨λw' c=>eL6 c.ps c.hB c.eP c.hp (λnd aI=>(c.gd.wf.pb nd aI).2.1) (id:=S) (F:=F==1) (pv:=pq) (nv:=nv) (cv:=cv) rfl,λhC w' c=>?_,?_⟩);{
 obtain⟨-,iL,-⟩:=cK8 (V:=V) (S:=S) (F:=F) hC;have o:=eL7 c.ps (P:=P) (id:=S) (F:=F==1) c.hV (by show _<=_;rw[c.eP];exact c.hp) (λnd' aI e=>by have:=VP.1 iL nd' aI;simp[Oj (c.gd.wf.pb nd' aI).2.1 c.hB e]at this) c.gd.nl hj
 refine o.h λr w''⟨gN,hN,uN,h⟩=>?_;have x:(if(F==1)then S else 0)=if F=1 then S else 0:=by by_cases q:F=1<;>simp[q]
 rw[x]at h;rw[s];exact tg.r h};{
 let⟨hB,y,hp⟩:=DO i;rw[MX bf bf bf i];have u:zO D (4:Nat) S F E iG P V=Fo D P V S F:=by obtain hr|⟨hr,m,-⟩:=as5 (hp rfl);{rw[YG bf]at hr;cases hr};{unfold zO;rw[hr,m,aJ al,aK bf]}
 rw[u];by_cases hC:MO D P=0;{rw[aK hC,(cK8 hC).1]};{rw[aJ hC,eL5 hC]}}
variable {K:Int}
theorem cN4(i:tZ w0 w b bs bn D SB NB HB UB S F E iG pp np cp pq nv cv P V):Cp 135 #[Pz b,nI K S (.S pp np cp) F (.S pq nv cv) E iG] w (zG w0 w b bs bn D (kG D K S F E iG P V)):=by
 by_cases h:1<=K/\K<=13;{obtain⟨k,rfl⟩:∃k:Nat,K=(k:Int):=⟨jN K,af⟩;obtain rfl|rfl|rfl|rfl|rfl|rfl|rfl|rfl|rfl|rfl|rfl|rfl|rfl:=kinds (k:=k) af af;{exact eR6 i};{exact eR9 i};{exact eS3 i};{exact eS2 i};{exact eS1 i};{exact eS0 i};{exact eR3 i};{exact eR7 i};{exact eR2 i};{exact eS4 i};{exact eR1 i};{exact eR4 i};{exact eR8 i}};{exact eR5 i af}
end
def NG(a:Nat)(nd:au):Prop:=aD nd.A/\J nd.A<=136/\J nd.V<=40/\J nd.y<=a/\J nd.X<=a/\nd.y.Pairwise (·<·)/\nd.X.Pairwise (·<·)
structure Fd(a:Nat)(ss:List aB)(ns:List au):Prop where
 sl:J ss<=a
 nl:J ns<=a+150
 s1:ss.Pairwise (λs s'=>s.1<s'.1)
 n1:(ns.map λnd=>kK nd.A).Pairwise (·<·)
 s2:∀s∈ss,(0<=s.1/\s.1<2^64)/\J s.2.2<=8/\∀e∈s.2.2,J e.2<=136
 n2:∀nd∈ns,NG a nd
variable {a a' k i d n c B j R b sz M N X bs bn:Nat}{nd nd':au}{ss ss':List aB}{ns:List au}{e g x t S F K E iG kd:Int}{ev:Ev}{D:SD}{y:List UInt8}{l m P V iI xs m' m3:LI}{s:aB}{w w' V3 w1 w0:G}{v:dV}{p pp pq:OA}{r:R1}{rs:List R1}{sh sh' s3:Bool}{ty:TypeId}{Ls:List (List Lf)}{A:List Lf}{vs:List dV}{row:Option Nat}{md:Region.Mode}{ops:iQ}{listed:Array Bool}{A5 A6:Array Edge}
theorem NG.h(h:NG a nd)(i:a<=a'):NG a' nd:=⟨h.1,h.2.1,h.2.2.1,aM h.2.2.2.1,aM h.2.2.2.2.1,h.2.2.2.2.2⟩
theorem Fd.h(h:Fd a ss ns)(j:a<=a'):Fd a' ss ns:=⟨aM h.sl,aM h.nl,h.s1,h.n1,h.s2,λi m=>(h.n2 i m).h j⟩
theorem Fd.of(h:nT e g x t ss ns)(hF:AW ss ns):Fd 50 ss ns:=by
 have o:=h;unfold nT at o;simp only[gP,mn]at o;obtain⟨⟨-,-,-,-,-,S,R⟩,a1,r⟩:=o;refine⟨S,R,hF.s1,hF.n1,λs y=>?_,λu E=>?_⟩;{obtain⟨-,-,q⟩:=aT1 a1 y;unfold yD at q;simp only[gP,mn,mL,xK]at q;refine⟨(hF.s2 s y).1,q.1,λe he=>?_⟩;let⟨i,j⟩:=lh.1 he;have m:=q.2 i (bH.1 j).1;rw[ko,j,tv]at m;unfold qw at m;split at m;{simp only[gP,Gi]at m;omega};{simp only[gP]at m;exact Jm m.2.2}};{
 let⟨i,j⟩:=lh.1 E;obtain⟨-,N,M⟩:=at3 r j;let⟨Z,f2,f3,f4,f5,D,B⟩:=hF.n2 u E;have key:∀ids:LI,ids.Pairwise (·<·)->sS ss ids->J ids<=50:=λids W X=>by
  have:=Zz ids (ss.map (·.1)) (YM W) λi j=>by let⟨z,V,e⟩:=ax1 X i j;exact fM.2 ⟨z,V,e⟩
  rw[iC]at this;omega
 have Ep:J u.V<=40:=by have:=mL.1 r i (xK.2 ((bH.1 j).1));unfold wF at this;rw[ko,j,tv]at this;simp only[gP,mn]at this;omega
 exact⟨Z,Jm (cf6 r j),Ep,key _ D N,key _ B M,D,B⟩}
theorem Fd.aC7(h:Fd a ss ns)(id:Int)(he:J ev.2<=136):Fd a (DJ ss id ev) ns:=by
 refine⟨by unfold DJ;rw[iC];exact h.sl,h.nl,?_,h.n1,λs u=>?_,h.n2⟩;{have:=h.s1;rw[<-Db (f:=λs:aB=>s.1) (R:=(·<·))]at this⊢;rw[bt8];exact this};{obtain⟨r,x,rfl⟩:=fM.1 u;let⟨q,o,m⟩:=h.s2 r x;split;{refine⟨q,cc6 o,λe j=>?_⟩;simp only[vg]at j;split at j;{obtain i|i:=jl.1 j;{exact m e i};{simp at i;rw[i];exact he}};{split at j;{obtain i|i:=jl.1 j;{exact m e i};{simp at i;rw[i];simp}};{exact m e j}}};{exact⟨q,o,m⟩}}
theorem Fd.ap3(he:J ev.2<=136):∀(ids:LI){ss:List aB},Fd a ss ns->Fd a (yz ss ids ev) ns
 |[],ss,h=>h
 |x::r,ss,h=>Fd.ap3 he r (h.aC7 x he)
theorem Fd.rA(h:Fd a ss ns)(hk:ns[k]?=Y nd)(hp:nd'.A=nd.A)(hn:NG a nd'):Fd a ss (ns.set k nd'):=by
 refine⟨h.sl,by rw[qS];exact h.nl,h.s1,?_,h.s2,λx hx=>?_⟩;{
 have e:(ns.set k nd').map (λnd=>kK nd.A)=ns.map λnd=>kK nd.A:=by have:=vj (List.map kK) (Vg hk hp);rw[uI,uI]at this;exact this
 rw[e];exact h.n1};{obtain hx|rfl:=NU hx;{exact h.n2 x hx};{exact hn}}
theorem Fd.tell(h:Fd a D.E D.N)(k:Nat)(kd:Int):Fd a (ly D k kd).E (ly D k kd).N:=by
 unfold ly;cases hk:D.N[k]? with
 |none=>exact h
 |some nd=>
  have hn:=h.n2 nd (bq hk);exact Fd.ap3 hn.2.1 _ (h.rA hk rfl ⟨hn.1,hn.2.1,hn.2.2.1,hn.2.2.2.1,al,hn.2.2.2.2.2.1,List.Pairwise.nil⟩)
theorem Fd.rm(h:Fd a D.E D.N)(k:Nat):Fd a (xD D k).E (xD D k).N:=
 ⟨h.sl,gq (ch5 (LO _ _)) h.nl,h.s1,h.n1.sublist ((LO _ _).map _),h.s2,λi j=>h.n2 i (N9 j)⟩
theorem Fd.drop(h:Fd a D.E D.N)(k:Nat)(id:Int):Fd a (kV D k id).E (kV D k id).N:=by
 unfold kV;cases hk:D.N[k]? with
 |none=>exact h
 |some nd=>
  have hn:=h.n2 nd (bq hk);simp only;split;{split;{exact Fd.tell (D:={D with N:=_}) (h.rA (nd':={nd with y:=[],M:=0,P:=0,F:=0}) hk rfl ⟨hn.1,hn.2.1,hn.2.2.1,de _,hn.2.2.2.2.1,List.Pairwise.nil,hn.2.2.2.2.2.2⟩) k 3};{exact h.rA hk rfl ⟨hn.1,hn.2.1,hn.2.2.1,gq (Nt) hn.2.2.2.1,hn.2.2.2.2.1,Ns hn.2.2.2.2.2.1,hn.2.2.2.2.2.2⟩}};{exact h}
theorem Fd.cw(h:Fd a ss ns)(id:Int):Fd a ss (ns.map (tT id)):=by
 refine⟨h.sl,by rw[iC];exact h.nl,h.s1,by rw[uI];exact h.n1,h.s2,λo m=>?_⟩;obtain⟨y,j,rfl⟩:=fM.1 m;have i:=h.n2 y j;exact⟨i.1,i.2.1,i.2.2.1,i.2.2.2.1,gq (Nt) i.2.2.2.2.1,i.2.2.2.2.2.1,Ns i.2.2.2.2.2.2⟩
theorem Fd.bA7(id:Int):∀(f k:Nat){D:SD},Fd a D.E D.N->Fd a (ng id f k D).E (ng id f k D).N
 |0,k,D,h=>by unfold ng;exact h
 |f+1,k,D,h=>by have i:=Fd.drop h k id;unfold ng;split;{exact h};{split;{exact Fd.bA7 id f k (Fd.rm (Fd.tell i k 2) k)};{exact Fd.bA7 id f (k+1) i}}
theorem Fd.close(h:Fd a D.E D.N)(id:Int):Fd a (yh D id).E (yh D id).N:=by
 have i:=Fd.bA7 id (J D.N) 0 (D:={D with N:=D.N.map (tT id)}) (h.cw id);exact⟨gq (VO _ _) i.sl,i.nl,i.s1.filter _,i.n1,λs j=>i.s2 s (JL.1 j).1,i.n2⟩
theorem dM2(l m:LI):Oi l m=dD (¬kK m<kK l/\kK m≠kK l):=by
 unfold Oi;rw[T.aG2,DR,DR];show(!dD (kK m<kK l)&&!(kK m==kK l))=_;by_cases j:kK m<kK l<;>by_cases i:kK m=kK l<;>simp[j,i]
theorem ZJ{x:au}:∀{l:List au},x∈rF nd l↔x=nd\/x∈l
 |[]=>by simp[rF]
 |y::r=>by rw[rF];split;{simp};{rw[gD,ZJ,gD];constructor;{exact ao0};{exact ao0}}
theorem eU3{x:List UInt8}(j:¬y<x)(i:y≠x):x<y:=by
 obtain h|h:=LR (x<y);{exact h};{exact absurd (List.le_antisymm j h) (λe=>i e.C)}
theorem bh0:∀{l:List au},(l.map λnd=>kK nd.A).Pairwise (·<·)->(∀x∈l,kK x.A≠kK nd.A)->((rF nd l).map λnd=>kK nd.A).Pairwise (·<·)
 |[],_,_=>by simp[rF]
 |y::r,h,aP=>by rw[od,LU]at h;obtain⟨h1,h2⟩:=h;have o:=aP y al;rw[rF,dM2];split;{rename_i hl;simp only[mn]at hl;have m:kK nd.A<kK y.A:=eU3 hl.1 hl.2;rw[od,od,LU,LU];refine⟨λz i=>?_,h1,h2⟩;obtain rfl|i:=gD.1 i;{exact m};{exact List.lt_trans m (h1 z i)}};{rename_i hl;simp only[mn]at hl;rw[od,LU];refine⟨λz i=>?_,bh0 h2 (λx j=>aP x (by simp[j]))⟩;obtain⟨x,j,rfl⟩:=fM.1 i;obtain rfl|j:=ZJ.1 j;{exact ci6 λq=>hl ⟨q,o⟩};{exact h1 _ (fM.2 ⟨x,j,rfl⟩)}}
def RS(R:RP):Prop:=J R.lW<=40/\(J R.iB<=201/\∀y∈R.iB,J y<=136)/\J R.kF<=8/\∀e∈R.kF,J e.2<=136
theorem RS.num(k i e g n:Int):RS ⟨k,i,e,g,n,[],[],[]⟩:=⟨de _,⟨de _,λy j=>by cases j⟩,de _,λy j=>by cases j⟩
def AF(A:SD×RP):Prop:=Fd 51 A.1.E A.1.N/\RS A.2
theorem AF.same(h:Fd 50 D.E D.N)(k i e g n:Int):AF (D,⟨k,i,e,g,n,[],[],[]⟩):=⟨h.h (by omega),RS.num _ _ _ _ _⟩
theorem cO1(i:aD l)(hm:aD m)(h:kK l=kK m):l=m:=Oj i hm (by unfold ft;exact vj Lit.string h)
theorem AF.create(h:Fd 50 D.E D.N)(r:vp P)(j:aD P)(s:J V<=40):AF (Fo D P V S F):=by
 unfold Fo;split;{exact vV};{
 split;{exact vV};{
 split;{exact vV};{
 rename_i h1 _ _;have m:kP D.N P=dN:=by simpa using h1
 refine⟨⟨by have:=h.sl;show J D.E<=_;omega,by have:=h.nl;show J (rF _ _)<=_;rw[bh1];omega,h.s1,bh0 h.n1 (λx i e=>?_),h.s2,λx i=>?_⟩,RS.num _ _ _ _ _⟩;{have:=VP.1 m x i;exact this (by simpa using cO1 (h.n2 x i).1 j e)};{obtain rfl|i:=ZJ.1 i;{exact⟨j,Jm r,s,de _,de _,List.Pairwise.nil,List.Pairwise.nil⟩};{exact(h.n2 x i).h af}}}}}
theorem AF.lock(h:Fd 50 D.E D.N)(k:Nat)(s m:Int):AF (Ag D k s m):=by
 unfold Ag;cases hk:D.N[k]? with
 |none=>exact AF.same h _ _ _ _ _
 |some nd=>
  have hn:=h.n2 nd (bq hk);have i:=hn.h (a':=51) af;have j:=h.h (a':=51) af;simp only;split;{exact vV};{split;{split;{exact vV};{exact⟨j.rA hk rfl ⟨hn.1,hn.2.1,hn.2.2.1,by have:=bP7 nd.y s;have:=hn.2.2.2.1;show J (me _ _)<=_;omega,i.2.2.2.2.1,U9 hn.2.2.2.2.2.1,hn.2.2.2.2.2.2⟩,RS.num _ _ _ _ _⟩}};{split;{exact vV};{split;{exact vV};{exact⟨j.rA hk rfl ⟨hn.1,hn.2.1,hn.2.2.1,by show[s].length<=_;simp,i.2.2.2.2.1,by show[s].Pairwise _;simp,hn.2.2.2.2.2.2⟩,RS.num _ _ _ _ _⟩}}}}
theorem AF.node(h:Fd 50 D.E D.N)(k:Nat)(m:K=7->J V<=40):AF (BI D k K S F V):=by
 unfold BI;cases hk:D.N[k]? with
 |none=>exact AF.same h _ _ _ _ _
 |some nd=>
  have hn:=h.n2 nd (bq hk);have i:=hn.h (a':=51) af;have j:=h.h (a':=51) af;simp only;split;{split;{exact vV};{split;{exact vV};{exact⟨Fd.rm (Fd.tell j k 2) k,RS.num _ _ _ _ _⟩}}};{split;{exact⟨j,hn.2.2.1,⟨de _,λy hy=>by cases hy⟩,de _,λy hy=>by cases hy⟩};{split;{split;{exact vV};{rename_i h7 _;exact⟨Fd.tell (D:={D with N:=_}) (j.rA (nd':={nd with V:=V}) hk rfl ⟨i.1,i.2.1,m h7,i.2.2.2⟩) k 1,RS.num _ _ _ _ _⟩}};{split;{exact AF.lock h k S F};{split;{split;{exact⟨Fd.drop j k S,RS.num _ _ _ _ _⟩};{exact vV}};{exact⟨j.rA hk rfl ⟨i.1,i.2.1,i.2.2.1,i.2.2.2.1,by have:=bP7 nd.X S;have:=hn.2.2.2.2.1;show J (me _ _)<=_;omega,i.2.2.2.2.2.1,U9 hn.2.2.2.2.2.2⟩,RS.num _ _ _ _ _⟩}}}}}
theorem AF.rest(h:Fd 50 D.E D.N)(o:aD P)(j:K=4\/K=7->J V<=40):AF (zO D K S F E iG P V):=by
 unfold zO;split;{exact vV};{rename_i hp;split;{rename_i h4;rw[YG af]at hp;exact AF.create h (by simpa using hp) o (j (.L h4))};{split;{exact vV};{split;{exact vV};{split;{refine⟨h.h af,de _,⟨?_,λy i=>?_⟩,de _,λy i=>by cases i⟩;{have:=cm1 (ns:=D.N) P;have:=h.nl;show J (um _ _)<=_;omega};{obtain⟨m,r,rfl⟩:=fM.1 i;have:=(h.n2 m (JL.1 r).1).2.1;rw[wW,uK];omega}};{exact AF.node h _ (λe=>j (.R e))}}}}}
theorem AF.apply(h:Fd 50 D.E D.N)(o:0<=D.x/\D.x<=2^62)(r:∀s∈D.E,s.1<=D.x)(X:aD P):AF (kG D K S F E iG P V):=by
 have m:=h.h (a':=51) af;unfold kG;split;{exact vV};{
 rename_i hf;split;{unfold yE;split;{exact vV};{split;{exact vV};{refine⟨⟨by have:=h.sl;show J (D.E++[_])<=_;rw[fe];simp;omega,m.nl,?_,h.n1,λs j=>?_,m.n2⟩,RS.num _ _ _ _ _⟩;{show List.Pairwise _ (D.E++[_]);rw[aZ0];refine⟨h.s1,al,λa W c hc=>?_⟩;simp at hc;have:=r a W;rw[hc];show a.1<D.x+1;omega};{obtain j|j:=jl.1 j;{exact h.s2 s j};{simp at j;rw[j];exact⟨by show 0<=D.x+1/\D.x+1<_;omega,de _,λe he=>by cases he⟩}}}}};{
 split;{exact vV};{
 have u:∀(k:Nat)(s:aB)(d:Int)(q:List Ev),D.E[k]?=Y s->J q<=8->(∀e∈q,J e.2<=136)->Fd 51 (D.E.set k (s.1,d,q)) D.N:=λk s d q i M B=>by
  refine⟨by rw[qS];exact m.sl,m.nl,?_,h.n1,λx o=>?_,m.n2⟩;{
 have e:(D.E.set k (s.1,d,q)).map (·.1)=D.E.map (·.1):=by rw[VK];exact Js (by rw[qU,i];rfl)
 have:=h.s1;rw[<-Db (f:=λs:aB=>s.1) (R:=(·<·))]at this⊢;rw[e];exact this};{obtain o|rfl:=NU o;{exact h.s2 x o};{exact⟨(h.s2 s (bq i)).1,M,B⟩}}
 split;{
 unfold Gs;cases i:D.E[jN (mj D.E S)]? with
 |none=>exact AF.same h _ _ _ _ _
 |some s=>
  have q:=h.s2 s (bq i);simp only;split;{exact⟨u _ s _ _ i q.2.1 q.2.2,RS.num _ _ _ _ _⟩};{exact vV}};{
 split;{exact⟨Fd.close m S,RS.num _ _ _ _ _⟩};{
 split;{
 unfold YN;cases i:D.E[jN (mj D.E S)]? with
 |none=>exact AF.same h _ _ _ _ _
 |some s=>
  have q:=h.s2 s (bq i);exact⟨u _ s _ _ i (de _) (λe he=>by cases he),de _,⟨de _,λy N=>by cases N⟩,q.2.1,q.2.2⟩};{refine AF.rest h X (λhK=>?_);obtain rfl|rfl:=hK<;>· simp[DK,qt,Fc,rowOf]at hf;omega}}}}}}
def EvG(ev:Ev):Prop:=1<=ev.1/\ev.1<=3/\vp ev.2/\aD ev.2
theorem dB1{q:List Ev}(h:yD q)(he:EvG ev):yD (vg q ev):=by
 unfold yD at h⊢;simp only[gP,mn,mL,xK]at h⊢;obtain⟨r,j⟩:=h;have key:∀(x:Ev),J q<8->qw (J q) x->J (q++[x])<=8/\∀i,i<J (q++[x])->qw i (jE (q++[x]) i (0,[])):=λx s m=>by refine⟨bL,λi o=>?_⟩;simp at o;by_cases e:i<J q;{rw[ko,oI e,<-ko];exact j i e};{cases(af:i=J q);rw[ko,qT aU,Ab];exact m}
 unfold vg;split;{refine key _ af ?_;unfold qw;rw[aJ af];simp[he.1,he.2.1,he.2.2.1]};{split;{rename_i e7;refine key _ af ?_;unfold qw;rw[aK e7];rfl};{exact⟨r,j⟩}}
def SV(x:Int)(s:aB):Prop:=(1<=s.1/\s.1<=x)/\(0<=s.2.1/\s.2.1<=1000015)/\yD s.2.2/\∀e∈s.2.2,aD e.2
theorem SV.push(h:SV x s)(he:EvG ev):SV x (s.1,s.2.1,vg s.2.2 ev):=by
 refine⟨h.1,h.2.1,dB1 h.2.2.1 he,λy j=>?_⟩;simp only[vg]at j;split at j;{obtain i|i:=jl.1 j;{exact h.2.2.2 y i};{simp at i;rw[i];exact he.2.2.2}};{split at j;{obtain i|i:=jl.1 j;{exact h.2.2.2 y i};{simp at i;rw[i];intro z m;simp at m}};{exact h.2.2.2 y j}}
def ji(ss:List aB):LI:=ss.map (·.1)
def qO(ns:List au):List (LI×Int):=ns.map λi=>(i.A,i.D)
def CP(C:List (LI×Int))(l:LI):Prop:=l=[47]\/(l,0)∈C
structure NV(e g:Int)(iI:LI)(C:List (LI×Int))(nd:au):Prop where
 ep:0<=nd.P
 vp:vp nd.A=dY
 pb:aD nd.A
 cp:CP C (iV nd.A)
 va:J nd.V<=40
 vb:aD nd.V
 ow:nd.D=0\/nd.D∈iI
 h1:nd.y.Pairwise (·<·)
 h2:∀i∈nd.y,i∈iI
 w1:nd.X.Pairwise (·<·)
 w2:∀i∈nd.X,i∈iI
 lk:qW e g nd.M (J nd.y) nd.P nd.F=dY
structure VD(D:SD):Prop where
 e:0<=D.e/\D.e<=2^62
 g:0<=D.g/\D.g<=2^62
 x:0<=D.x/\D.x<=2^62
 t:0<=D.t/\D.t<=1000000
 sl:J D.E<=50
 nl:J D.N<=200
 s1:(ji D.E).Pairwise (·<·)
 s2:∀s∈D.E,SV D.x s
 n1:(D.N.map λnd=>kK nd.A).Pairwise (·<·)
 n2:∀nd∈D.N,NV D.e D.g (ji D.E) (qO D.N) nd
theorem cc9(m:ns[k]?=nd)(i:nd'.A=nd.A)(j:nd'.D=nd.D):qO (ns.set k nd')=qO ns:=by
 unfold qO;rw[VK];exact Js (by rw[qU,m];simp[i,j])
theorem VD.rA(h:VD D)(hk:D.N[k]?=Y nd)(hp:nd'.A=nd.A)(ho:nd'.D=nd.D)(hn:NV D.e D.g (ji D.E) (qO D.N) nd'):VD {D with N:=D.N.set k nd'}:=by
 refine⟨h.e,h.g,h.x,h.t,h.sl,by show J (List.set _ _ _)<=_;rw[qS];exact h.nl,h.s1,h.s2,?_,λy hy=>?_⟩;{
 have e:(D.N.set k nd').map (λnd=>kK nd.A)=D.N.map λnd=>kK nd.A:=by have:=vj (List.map kK) (Vg hk hp);rw[uI,uI]at this;exact this
 show List.Pairwise _ (List.map _ (D.N.set k nd'));rw[e];exact h.n1};{show NV _ _ _ (qO (D.N.set k nd')) y;rw[cc9 hk hp ho];obtain hy|rfl:=NU hy;{exact h.n2 y hy};{exact hn}}
theorem VD.bW8(h:VD D)(hi:ji ss'=ji D.E)(hs:∀s∈ss',SV D.x s):VD {D with E:=ss'}:=by
 have hl:J ss'=J D.E:=by have:=vj List.length hi;simpa[ji]using this
 refine⟨h.e,h.g,h.x,h.t,by show J ss'<=_;rw[hl];exact h.sl,h.nl,by show List.Pairwise _ (ji ss');rw[hi];exact h.s1,hs,h.n1,λy hy=>?_⟩;show NV _ _ (ji ss') _ y;rw[hi];exact h.n2 y hy
theorem bR6(he:EvG ev):∀(ids:LI){ss:List aB},(∀s∈ss,SV x s)->∀s∈yz ss ids ev,SV x s
 |[],ss,h=>h
 |y::r,ss,h=>bR6 he r (ss:=DJ ss y ev) λs m=>by obtain⟨i,j,rfl⟩:=fM.1 m;split;{exact(h i j).push he};{exact h i j}
theorem VD.ap3(h:VD D)(he:EvG ev)(ids:LI):VD {D with E:=yz D.E ids ev}:=h.bW8 (Yi ids ev D.E) (bR6 he ids h.s2)
theorem VD.tell(h:VD D)(k:Nat)(h1:1<=kd)(h3:kd<=3):VD (ly D k kd):=by
 unfold ly;cases hk:D.N[k]? with
 |none=>exact h
 |some nd=>
  have hn:=h.n2 nd (bq hk);exact VD.ap3 (D:={D with N:=D.N.set k {nd with X:=[]}}) (h.rA hk rfl rfl ⟨hn.ep,hn.vp,hn.pb,hn.cp,hn.va,hn.vb,hn.ow,hn.h1,hn.h2,List.Pairwise.nil,λi hi=>by simp at hi,hn.lk⟩) ⟨h1,h3,hn.vp,hn.pb⟩ _
theorem aP4(hk:D.N[k]?=nd)(kd:Int):∃vX,ly D k kd={D with E:=vX,N:=D.N.set k {nd with X:=[]}}/\ji vX=ji D.E:=by
 unfold ly;rw[hk];exact⟨_,rfl,Yi _ _ _⟩
theorem dC2(ns:List au)(k:Nat):qO (jX ns k)=jX (qO ns) k:=by
 unfold qO
 induction ns generalizing k with
 |nil=>rfl
 |cons a r ih=>cases k with
  |zero=>rfl
  |succ k=>simp[ih]
theorem VD.rm(h:VD D)(r:D.N[k]?=nd)(hc:nd.D≠0\/∀z∈qO D.N,iV z.1≠nd.A):VD (xD D k):=by
 refine⟨h.e,h.g,h.x,h.t,h.sl,gq (ch5 (LO _ _)) h.nl,h.s1,h.s2,h.n1.sublist ((LO _ _).map _),λy q=>?_⟩;have m:=N9 q;have i:=h.n2 y m;refine⟨i.ep,i.vp,i.pb,?_,i.va,i.vb,i.ow,i.h1,i.h2,i.w1,i.w2,i.lk⟩;obtain e|e:=i.cp;{exact .L e};{
 refine .R ?_;show _∈qO (jX D.N k);rw[dC2,ci3];let⟨j,o⟩:=lh.1 e;refine⟨j,λs=>?_,o⟩;subst s;have:(qO D.N)[j]?=Y (nd.A,nd.D):=by unfold qO;rw[qU,r];rfl
 rw[this]at o;simp only[oK,lE]at o;obtain hc|hc:=hc;{exact hc o.2};{exact hc (y.A,y.D) (fM.2 ⟨y,m,rfl⟩) o.1.C}}
theorem VD.drop(h:VD D)(k:Nat)(id:Int):VD (kV D k id):=by
 unfold kV;cases hk:D.N[k]? with
 |none=>exact h
 |some nd=>
  have hn:=h.n2 nd (bq hk);simp only;split;{
 rename_i hc;split;{exact VD.tell (D:={D with N:=D.N.set k {nd with y:=[],M:=0,P:=0,F:=0}}) (h.rA hk rfl rfl ⟨Gp _,hn.vp,hn.pb,hn.cp,hn.va,hn.vb,hn.ow,List.Pairwise.nil,λi q=>by simp at q,hn.w1,hn.w2,rfl⟩) k bf bf};{
 rename_i hw;refine h.rA hk rfl rfl ⟨hn.ep,hn.vp,hn.pb,hn.cp,hn.va,hn.vb,hn.ow,Ns hn.h1,λi q=>hn.h2 i (Jl.1 q).1,hn.w1,hn.w2,?_⟩;show qW D.e D.g nd.M (J (lZ nd.y id)) nd.P nd.F=dY;have j:id∈nd.y:=by simpa using hc
 have s:1<=J (lZ nd.y id):=by
  cases hq:lZ nd.y id with
  |nil=>exact absurd hq hw
  |cons a r=>simp
 have B:nd.M≠1:=λhm=>by let⟨a,M⟩:=ci1.1 (av7 hn.lk hm);rw[M]at j hw;simp at j;subst j;exact hw (by simp[lZ])
 have m:=hn.lk;unfold qW at m⊢;rw[aJ B]at m⊢;by_cases E:nd.M=0;{have:=(bd9 hn.lk B).2.2 E;have:nd.y=[]:=uJ.1 this;rw[this]at j;simp at j};{rw[aJ E]at m⊢;simp only[gP,mn]at m⊢;exact⟨m.1,m.2.1,m.2.2.1,s⟩}}};{exact h}
theorem eH9(hk:D.N[k]?=nd){id:Int}:∃vX jh,kV D k id={D with E:=vX,N:=D.N.set k jh}/\ji vX=ji D.E/\jh.A=nd.A/\jh.D=nd.D/\id∉jh.y/\(jh.X=nd.X\/jh.X=[]):=by
 unfold kV;rw[hk];simp only;split;{split;{let⟨vX,e,hi⟩:=aP4 (D:={D with N:=D.N.set k {nd with y:=[],M:=0,P:=0,F:=0}}) (uV hk _) 3;refine⟨vX,{nd with y:=[],M:=0,P:=0,F:=0,X:=[]},by rw[e];simp only[VS],hi,rfl,rfl,al,.R rfl⟩};{exact⟨D.E,_,rfl,rfl,rfl,rfl,λhm=>(Jl.1 hm).2 rfl,.L rfl⟩}};{rename_i hc;exact⟨D.E,nd,by rw[Js hk],rfl,rfl,rfl,by simpa using hc,.L rfl⟩}
def bI6(id:Int)(nd:au):Prop:=nd.D≠id/\id∉nd.y
def Lm(id:Int)(ns:List au):Nat:=ns.countP λi=>dD (i.D=id)
theorem VD.ng{id:Int}(h0:id≠0):∀(f k:Nat){D:SD},VD D->(∀nd∈D.N,id∉nd.X)->(∀(j:Nat)(nd:au),j<k->D.N[j]?=Y nd->bI6 id nd)->J D.N<=k+f→
  VD (Proofs.YthlkmijffhhimaaGreatDoor.ng id f k D)/\ji (Proofs.YthlkmijffhhimaaGreatDoor.ng id f k D).E=ji D.E/\(∀nd∈(Proofs.YthlkmijffhhimaaGreatDoor.ng id f k D).N,bI6 id nd/\id∉nd.X)/\(Proofs.YthlkmijffhhimaaGreatDoor.ng id f k D).N.length+Lm id (D.N.drop k)=J D.N
 |0,k,D,h,hw,hg,hl=>by unfold Proofs.YthlkmijffhhimaaGreatDoor.ng;refine⟨h,rfl,λnd u=>⟨?_,hw nd u⟩,?_⟩;{let⟨j,m⟩:=lh.1 u;have:=(bH.1 m).1;exact hg j nd af m};{rw[VW af];rfl}
 | f+1,k,D,h,hw,hg,hl=>by
  unfold Proofs.YthlkmijffhhimaaGreatDoor.ng;cases hk:D.N[k]? with
  |none=>
   have X:J D.N<=k:=by simpa using hk
   have e:kV D k id=D:=by unfold kV;rw[hk]
   rw[e,hk];dsimp only;refine⟨h,rfl,λnd u=>⟨?_,hw nd u⟩,?_⟩;{let⟨j,m⟩:=lh.1 u;have:=(bH.1 m).1;exact hg j nd af m};{rw[VW X];rfl}
  | some nd=>
   have aH:=(bH.1 hk).1;have W:=h.drop k id;let⟨vX,jh,e,hi,e1,e2,e3,B⟩:=eH9 hk (id:=id);rw[e]at W⊢;have kh:(D.N.set k jh)[k]?=jh:=uV hk _;have s:D.N.drop k=nd::D.N.drop (k+1):=(List.cL1 hk).C;have V:∀y∈D.N.set k jh,id∉y.X:=λy i=>by
    obtain i|rfl:=NU i;{exact hw y i};{
 obtain B|B:=B<;>rw[B]
 {exact hw nd (bq hk)};{simp}}
   simp only[kh];by_cases r:jh.D=id;{
 rw[aK r];let⟨M,eT,Z⟩:=aP4 (D:={D with E:=vX,N:=D.N.set k jh}) kh 2;have q:=VD.tell (D:={D with E:=vX,N:=D.N.set k jh}) W k (kd:=2) bf bf;rw[eT]at q⊢;simp only[VS]at q⊢;have E:(xD {D with E:=M,N:=D.N.set k {jh with X:=[]}} k).N=D.N.eraseIdx k:=by show(D.N.set k _).eraseIdx k=_;exact List.eraseIdx_set_eq
 have o:J (D.N.eraseIdx k)=J D.N-1:=List.length_eraseIdx_of_lt aH;let⟨S,R,N,x⟩:=VD.ng h0 f k (VD.rm q (nd:={jh with X:=[]}) (uV hk _) (.L (by show jh.D≠0;rw[r];exact h0))) (λy i=>by
  rw[E]at i;exact hw y (N9 i)) (λj y m i=>by
  rw[E,List.getElem?_eraseIdx_of_lt m]at i;exact hg j y m i) (by rw[E,o];omega)
 refine⟨S,R.Z (Z.Z hi),N,?_⟩;rw[E,o,cJ7 aH]at x;rw[s,Lm,List.countP_cons_of_pos (by simp[<-e2,r]),<-Lm];omega};{
 rw[aJ r];let⟨S,R,N,x⟩:=VD.ng h0 f (k+1) W V (λj y m i=>by
  change(D.N.set k jh)[j]?=Y y at i
  rw[vG]at i;by_cases ej:k=j;{subst ej;rw[aK rfl,aK aH]at i;cases i;exact⟨r,e3⟩};{rw[aJ ej]at i;exact hg j y af i}) (by show J (List.set _ _ _)<=_;rw[qS];omega)
 refine⟨S,R.Z hi,N,?_⟩;have e5:(D.N.set k jh).drop (k+1)=D.N.drop (k+1):=by rw[List.drop_set_of_lt af]
 simp only[e5,qS]at x;rw[s,Lm,List.countP_cons_of_neg (by simp[<-e2,r]),<-Lm];exact x}
theorem aX4{id:Int}:ji (Ed id ss)=(ji ss).filter λi=>!(i==id):=by
 unfold ji Ed;rw[List.filter_map];rfl
theorem VD.close(h:VD D){id:Int}(V:id≠0):VD (yh D id)/\ji (yh D id).E=(ji D.E).filter (λi=>!(i==id))/\(∀nd∈(yh D id).N,bI6 id nd/\id∉nd.X)/\(yh D id).N.length+Lm id D.N=J D.N:=by
 have Ta:VD {D with N:=D.N.map (tT id)}:=by
  have ep:qO (D.N.map (tT id))=qO D.N:=by unfold qO;rw[uI];rfl
  refine⟨h.e,h.g,h.x,h.t,h.sl,by show J (List.map _ _)<=_;rw[iC];exact h.nl,h.s1,h.s2,by show List.Pairwise _ (List.map _ (D.N.map (tT id)));rw[uI];exact h.n1,λy r=>?_⟩;obtain⟨z,E,rfl⟩:=fM.1 r;have m:=h.n2 z E;show NV _ _ _ (qO (D.N.map (tT id))) _;rw[ep];exact⟨m.ep,m.vp,m.pb,m.cp,m.va,m.vb,m.ow,m.h1,m.h2,Ns m.w1,λi q=>m.w2 i (Jl.1 q).1,m.lk⟩
 let⟨o,N,B,M⟩:=VD.ng V (J D.N) 0 Ta (λy r=>by obtain⟨z,E,rfl⟩:=fM.1 r;exactλhm=>(Jl.1 hm).2 rfl) (λj y hj=>af) (by show J (List.map _ _)<=_;rw[iC];omega)
 refine⟨?_,(aX4).Z (by rw[N]),B,?_⟩;{
 refine⟨o.e,o.g,o.x,o.t,gq (VO _ _) o.sl,o.nl,?_,λs R=>o.s2 s (JL.1 R).1,o.n1,λy r=>?_⟩;{show List.Pairwise _ (ji (Ed id _));rw[aX4];exact o.s1.filter _};{
 have m:=o.n2 y r;let⟨⟨Z,X⟩,W⟩:=B y r;have key:∀i,i∈ji (Proofs.YthlkmijffhhimaaGreatDoor.ng id (J D.N) 0 {D with N:=D.N.map (tT id)}).E->i≠id->i∈ji (Ed id (Proofs.YthlkmijffhhimaaGreatDoor.ng id (J D.N) 0 {D with N:=D.N.map (tT id)}).E):=λi q aP=>by rw[aX4];exact JL.2 ⟨q,by simp[aP]⟩
 exact⟨m.ep,m.vp,m.pb,m.cp,m.va,m.vb,m.ow.imp (λh=>h) (λS=>key _ S Z),m.h1,λi q=>key i (m.h2 i q) (λe=>X (e▸q)),m.w1,λi q=>key i (m.w2 i q) (λe=>W (e▸q)),m.lk⟩}};{
 have e:Lm id (List.drop 0 (D.N.map (tT id)))=Lm id D.N:=by rw[yF,Lm,List.countP_map];rfl
 have u:=M;simp only[iC]at u;rw[e]at u;exact u}
theorem PD.pw(h:(ns.map λnd=>kK nd.A).Pairwise (·<·)):PD ns:=λi j a b o m e=>by
 have key:∀(i j:Nat)(a b:au),ns[i]?=Y a->ns[j]?=Y b->a.A=b.A->¬i<j:=λi j a b o m e s=>by obtain⟨r,rfl⟩:=bH.1 o;obtain⟨q,rfl⟩:=bH.1 m;have:=H6.1 h i j (by simpa using r) (by simpa using q) s;simp only[bb8,e]at this;exact List.lt_irrefl _ this
 have r:=key i j a b o m e;have q:=key j i b a m o e.C;omega
theorem bB3(u:PD ns):qG ns l=dY↔CP (qO ns) l:=by
 unfold qG CP;by_cases h:l=[47];{simp[h]};{
 rw[aJ h];constructor;{
 intro hc;cases hn:kP ns l with
 |none=>rw[hn]at hc;cases hc
 |some m=>
  rw[hn]at hc;have q:m.A=l:=by simpa using Zi hn
  exact .R (fM.2 ⟨m,Zg hn,by rw[q,show m.D=0 by simpa using hc]⟩)};{
 rintro(e|e);{exact absurd e h};{
 let⟨m,hm,o⟩:=fM.1 e;simp only[lE]at o;cases hn:kP ns l with
 |none=>exact absurd (VP.1 hn m hm) (by simp[o.1])
 |some n2=>
  have q:n2.A=l:=by simpa using Zi hn
  let⟨i,s⟩:=lh.1 hm;let⟨j,r⟩:=lh.1 (Zg hn);have:=u i j m n2 s r (o.1.Z q.C);subst this;rw[s]at r;cases r;simp[o.2]}}}
theorem cP9(h:l.Pairwise (·<·))(j:i<J l):(i==0||decide (jE l (i-1) 0<jE l i 0)):=by
 cases i with
 |zero=>rfl
 |succ i=>
  have:=H6.1 h i (i+1) af j af;simp[bN j,bN (show i<J l by omega),this]
theorem be0{i:Int}:live ss i=dY↔i∈ji ss:=by
 unfold live ji;simp only[VU,Gi,fM]
theorem co8(h:l.Pairwise (·<·))(m:∀i∈l,i∈ji ss):sS ss l:=by
 unfold sS;simp only[mL,xK];intro i j;unfold L6;rw[cP9 h j,Bool.and_true,be0];refine m _ ?_;rw[ko,bN j];exact De j
theorem eU7:∀(a b:List UInt8),Op.bytesLess a b=dY↔a<b:=λa b=>by rw[T.aG2];simp
theorem VD.ok(h:VD D):nT D.e D.g D.x D.t D.E D.N:=by
 unfold nT;simp only[gP,mn,mL,xK];refine⟨⟨h.e.2,h.g.2,h.x.2,h.t.1,h.t.2,h.sl,h.nl⟩,λi o=>?_,λi o=>?_⟩;{
 have q:=h.s2 _ (De o);have r:=cP9 h.s1 (i:=i) (by unfold ji;simpa using o);have e:∀j,(jE D.E j (0,0,[])).1=jE (ji D.E) j 0:=λj=>by unfold ji;rw[ko,ko,qU];cases D.E[j]?<;>rfl
 have s:jE D.E i (0,0,[])=D.E[i]:=by rw[ko,bN o];rfl
 rw[<-e,<-e]at r;unfold yB;rw[r,s];simp only[gP,mn,yG];exact⟨q.1.1,q.1.2,q.2.1.1,q.2.1.2,q.2.2.1⟩};{
 have m:=h.n2 _ (De o);unfold wF;simp only[ko,bN o,tv,gP,mn,Ro];refine⟨⟨m.vp,?_⟩,(bB3 (PD.pw h.n1)).2 m.cp,m.va,?_,co8 m.h1 m.h2,co8 m.w1 m.w2,m.lk⟩;{
 cases i with
 |zero=>exact .L rfl
 |succ i=>
  refine .R ?_;have:=H6.1 h.n1 i (i+1) bL (by simpa using o) af;simp only[bb8]at this;simp only[Sa,bN (show i<J D.N by omega),tv];rw[Lq,eU7,DR,DR];exact this};{obtain e|e:=m.ow;{exact .L (by simp[e])};{exact .R (be0.2 e)}}}
theorem VD.of(h:nT e g x t ss ns)(hF:AW ss ns)(g0:0<=g)(y:0<=x)(hq:∀s∈ss,∀ev∈s.2.2,aD ev.2)(hv:∀nd∈ns,aD nd.V)(e0:0<=e)(hE:∀nd∈ns,0<=nd.P):VD ⟨e,g,x,t,ss,ns⟩:=by
 have u:=h;unfold nT at u;simp only[gP,mn]at u;obtain⟨⟨l1,l2,l3,Z,X,W,V⟩,a1,a2⟩:=u;refine⟨⟨e0,l1⟩,⟨g0,l2⟩,⟨y,l3⟩,⟨Z,X⟩,W,V,by unfold ji;rw[Db];exact hF.s1,λs m=>?_,hF.n1,λnd q=>?_⟩;{let⟨i,o⟩:=lh.1 m;have:=mL.1 a1 i (by simpa using(bH.1 o).1);unfold yB at this;rw[ko,o]at this;simp only[tv,gP,mn]at this;exact⟨⟨this.1,this.2.1⟩,⟨this.2.2.2.1,this.2.2.2.2.1⟩,this.2.2.2.2.2,hq s m⟩};{let⟨i,o⟩:=lh.1 q;let⟨f1,f2,f3,f4,f5,f6,f7⟩:=hF.n2 nd q;have:=mL.1 a2 i (by simpa using((bH.1 o).1));unfold wF at this;simp only[ko,o,tv,gP,mn,Ro]at this;obtain⟨⟨S,-⟩,R,N,M,E,D,B⟩:=this;refine⟨hE nd q,S,f1,(bB3 (PD.pw hF.n1)).1 R,N,hv nd q,M.imp (λe=>by simpa using e) be0.1,f6,λj r=>?_,f7,λj r=>?_,B⟩;{let⟨s,m,e⟩:=ax1 E j r;exact fM.2 ⟨s,m,e⟩};{let⟨s,m,e⟩:=ax1 D j r;exact fM.2 ⟨s,m,e⟩}}
theorem dv3(h:¬mj ss S<0):S∈ji ss:=by
 unfold mj at h;cases hf:ss.findIdx? (λs=>s.1==S)with
 |none=>rw[hf]at h;simp at h
 |some k=>
  obtain⟨j,i,-⟩:=Oe.1 hf;exact fM.2 ⟨_,De j,by simpa using i⟩
theorem NV.dA{j i:Int}{C:List (LI×Int)}(h:NV e g iI C nd)(he:e<=j)(m:g<=i):NV j i iI C nd:=by
 refine⟨h.ep,h.vp,h.pb,h.cp,h.va,h.vb,h.ow,h.h1,h.h2,h.w1,h.w2,?_⟩;have:=h.lk;unfold qW at this⊢;split;{rename_i hm;rw[aK hm]at this;simp only[gP,mn]at this⊢;exact⟨this.1,this.2.1,af,af⟩};{rename_i hm;rwa [aJ hm]at this}
theorem NV.ids{o:LI}{C:List (LI×Int)}(h:NV e g iI C nd)(j:∀i∈iI,i∈o):NV e g o C nd:=
 ⟨h.ep,h.vp,h.pb,h.cp,h.va,h.vb,h.ow.imp (λh=>h) (j _),h.h1,λi m=>j i (h.h2 i m),h.w1,λi m=>j i (h.w2 i m),h.lk⟩
theorem VD.create(h:VD D)(N:vp P)(B:aD P)(W:J V<=40)(Z:aD V)(X:S∈ji D.E):VD (Fo D P V S F).1:=by
 unfold Fo;split;{exact h};{
 rename_i h1;split;{exact h};{
 rename_i h2;split;{exact h};{
 rename_i h3;have E:kP D.N P=dN:=by simpa using h1
 have r:=(bB3 (PD.pw h.n1)).1 (by simpa using h2);have hm:∀z∈qO D.N,z∈qO (rF (rU P V (if F=1 then S else 0)) D.N):=λz M=>by obtain⟨y,m,rfl⟩:=fM.1 M;exact fM.2 ⟨y,ZJ.2 (.R m),rfl⟩
 have s:∀l,CP (qO D.N) l->CP (qO (rF (rU P V (if F=1 then S else 0)) D.N)) l:=λl R=>R.imp (λh=>h) (hm _);refine⟨h.e,h.g,h.x,h.t,h.sl,by show J (rF _ _)<=_;rw[bh1];omega,h.s1,h.s2,bh0 h.n1 (λy m e=>?_),λy m=>?_⟩;{have:=VP.1 E y m;exact this (by simpa using cO1 (h.n2 y m).pb B e)};{obtain rfl|m:=ZJ.1 m;{refine⟨Gp _,N,B,s _ r,W,Z,?_,List.Pairwise.nil,λi q=>by simp[rU]at q,List.Pairwise.nil,λi q=>by simp[rU]at q,rfl⟩;show(if F=1 then S else 0)=0\/_;split;{exact .R X};{exact .L rfl}};{have j:=h.n2 y m;exact⟨j.ep,j.vp,j.pb,s _ j.cp,j.va,j.vb,j.ow,j.h1,j.h2,j.w1,j.w2,j.lk⟩}}}}}
theorem VD.lock(h:VD D)(k:Nat){s:Int}(u:Int)(m:s∈ji D.E):VD (Ag D k s u).1:=by
 unfold Ag;cases hk:D.N[k]? with
 |none=>exact h
 |some nd=>
  have hn:=h.n2 nd (bq hk);simp only;split;{exact h};{split;{split;{exact h};{rename_i m1;refine h.rA hk rfl rfl ⟨hn.ep,hn.vp,hn.pb,hn.cp,hn.va,hn.vb,hn.ow,U9 hn.h1,λi j=>?_,hn.w1,hn.w2,?_⟩;{obtain rfl|j:=QK.1 j;{exact m};{exact hn.h2 i j}};{obtain⟨q,o,-⟩:=bd9 hn.lk m1;show qW D.e D.g 2 (J (me nd.y s)) nd.P nd.F=dY;have:1<=J (me nd.y s):=ch9 (QK.2 (.L rfl));simp[qW,q,o,this]}}};{split;{exact h};{split;{exact h};{rename_i hg;have r:VD {D with g:=D.g+1}:=⟨h.e,⟨by have:=h.g;show 0<=D.g+1;omega,by show D.g+1<=_;omega⟩,h.x,h.t,h.sl,h.nl,h.s1,h.s2,h.n1,λy hy=>(h.n2 y hy).dA (Gp _) (by show D.g<=D.g+1;omega)⟩;refine VD.rA r (nd':={nd with M:=1,y:=[s],P:=D.e,F:=D.g+1}) hk rfl rfl ⟨h.e.1,hn.vp,hn.pb,hn.cp,hn.va,hn.vb,hn.ow,al,λi j=>?_,hn.w1,hn.w2,?_⟩;{simp at j;rw[j];exact m};{have:=h.g;show qW D.e (D.g+1) 1 1 D.e (D.g+1)=dY;simp[qW];omega}}}}}
theorem VD.node(h:VD D)(k:Nat)(s:K=7->J V<=40)(B:aD V)(m:S∈ji D.E\/K=6):VD (BI D k K S F V).1:=by
 unfold BI;cases hk:D.N[k]? with
 |none=>exact h
 |some nd=>
  have hn:=h.n2 nd (bq hk);simp only;split;{
 split;{exact h};{
 split;{exact h};{
 rename_i j _;have j:um D.N nd.A=[]:=by simpa using j
 obtain⟨vX,u,-⟩:=aP4 hk 2;have r:=h.tell k (kd:=2) bf bf;rw[u]at r⊢;refine VD.rm r (nd:={nd with X:=[]}) (uV hk _) (.R λz q e=>?_);rw[show qO ({D with E:=vX,N:=D.N.set k {nd with X:=[]}}:SD).N=qO D.N from cc9 hk rfl rfl]at q;obtain⟨y,hy,rfl⟩:=fM.1 q;unfold um at j;rw[List.map_eq_nil_iff,ch4]at j;exact j y hy (by simpa using e)}}};{split;{exact h};{rename_i n6;have m:=m.resolve_right n6;split;{split;{exact h};{rename_i h7 _;exact VD.tell (D:={D with N:=D.N.set k {nd with V:=V}}) (h.rA hk rfl rfl ⟨hn.ep,hn.vp,hn.pb,hn.cp,s h7,B,hn.ow,hn.h1,hn.h2,hn.w1,hn.w2,hn.lk⟩) k bf bf}};{split;{exact h.lock k F m};{split;{split;{exact h.drop k S};{exact h}};{refine h.rA hk rfl rfl ⟨hn.ep,hn.vp,hn.pb,hn.cp,hn.va,hn.vb,hn.ow,hn.h1,hn.h2,U9 hn.w1,λi o=>?_,hn.lk⟩;obtain rfl|o:=QK.1 o;{exact m};{exact hn.w2 i o}}}}}}
theorem VD.cc2(h:VD D)(hk:D.E[k]?=s){d:Int}{q:List Ev}(hs:SV D.x (s.1,d,q)):VD {D with E:=D.E.set k (s.1,d,q)}:=by
 refine h.bW8 ?_ λy hy=>?_;{unfold ji;rw[VK];exact Js (by rw[qU,hk];rfl)};{obtain hy|rfl:=NU hy;{exact h.s2 y hy};{exact hs}}
theorem VD.apply(h:VD D)(X:aD P)(u:aD V):VD (kG D K S F E iG P V).1:=by
 unfold kG;split;{exact h};{
 rename_i hf;split;{
 unfold yE;split;{exact h};{
 split;{exact h};{
 rename_i h1 h2;have Z:=h.x;have B:=h.t;have r:ji (D.E++[(D.x+1,D.t+10,[])])=ji D.E++[D.x+1]:=by simp[ji]
 refine⟨h.e,h.g,⟨by show 0<=D.x+1;omega,by show D.x+1<=_;omega⟩,h.t,by show J (D.E++[_])<=_;simp;omega,h.nl,?_,λs hs=>?_,h.n1,λy hy=>?_⟩;{show List.Pairwise _ (ji (D.E++[_]));rw[r,aZ0];refine⟨h.s1,al,λa W c hc=>?_⟩;simp at hc;obtain⟨s,hs,rfl⟩:=fM.1 W;have:=(h.s2 s hs).1.2;omega};{obtain hs|hs:=jl.1 hs;{have q:=h.s2 s hs;exact⟨⟨q.1.1,by have:=q.1.2;show s.1<=D.x+1;omega⟩,q.2⟩};{simp at hs;rw[hs];exact⟨⟨by show 1<=D.x+1;omega,by show D.x+1<=D.x+1;omega⟩,⟨by show 0<=D.t+10;omega,by show D.t+10<=_;omega⟩,rfl,λe he=>by simp at he⟩}};{show NV _ _ (ji (D.E++[_])) _ y;rw[r];exact(h.n2 y hy).ids λi N=>Of _ N}}}};{
 rename_i n1;split;{exact h};{
 rename_i hs;have j:Dr K->S∈ji D.E:=λR=>dv3 (by intro M;simp[R,M]at hs);split;{
 unfold Gs;cases hk:D.E[jN (mj D.E S)]? with
 |none=>exact h
 |some s=>
  have q:=h.s2 s (bq hk);have B:=h.t;simp only;split;{exact h.cc2 hk ⟨q.1,⟨by show 0<=D.t+10;omega,by show D.t+10<=_;omega⟩,q.2.2⟩};{exact h}};{
 split;{rename_i n2 h3;have:S∈ji D.E:=j (by rw[h3];rfl);obtain⟨s,hm,rfl⟩:=fM.1 this;exact(h.close (aM (h.s2 s hm).1.1)).1};{
 split;{
 unfold YN;cases hk:D.E[jN (mj D.E S)]? with
 |none=>exact h
 |some s=>
  have q:=h.s2 s (bq hk);exact h.cc2 hk ⟨q.1,q.2.1,rfl,λe he=>by simp at he⟩};{
 rename_i n2 n3 n12;have m:K=4\/K=7->J V<=40:=λhK=>by obtain rfl|rfl:=hK<;>· simp[DK,qt,Fc,rowOf]at hf;omega
 unfold zO;split;{exact h};{rename_i hp;split;{rename_i h4;rw[YG af]at hp;exact h.create (by simpa using hp) X (m (.L h4)) u (j (by rw[h4];rfl))};{split;{exact h};{split;{exact h};{split;{exact h};{rename_i n4 n10 _ n13;refine h.node _ (λe=>m (.R e)) u ?_;by_cases o:K=6;{exact .R o};{exact .L (j (by simp[Dr,n1,o,n13]))}}}}}}}}}}}}
theorem VD.wf(h:VD D):WF D:=by
 have q:∀(l:LI),l.Pairwise (·<·)->(∀i∈l,i∈ji D.E)->J l<=50:=λl r hm=>by have:=Zz l (ji D.E) (r.imp (λs e=>af)) hm;have:=h.sl;unfold ji at*;rw[iC]at*;omega
 refine⟨h.g,h.x,h.t,λm o=>?_,λm o=>?_,λm o=>?_,λm o hm e=>?_,PD.pw h.n1⟩
 all_goals have j:=h.n2 m o
 {exact⟨gq (Jm j.vp) bf,gq (q _ j.w1 j.w2) bf,gq (q _ j.h1 j.h2) bf⟩};{exact⟨j.vp,j.pb,gq (Jm j.vp) bf⟩};{exact gq j.va bf};{have:=av7 j.lk hm;rw[e]at this;cases this}
theorem VD.ids(h:VD D)(j:l.Pairwise (·<·))(hm:∀i∈l,i∈ji D.E):J l<=50:=by
 have:=Zz l (ji D.E) (j.imp (λm e=>af)) hm;have:=h.sl;unfold ji at*;rw[iC]at*;omega
theorem SV.q(h:SV x s):J s.2.2<=8/\∀e∈s.2.2,aD e.2/\J e.2<=136:=by
 have q:=h.2.2.1;unfold yD at q;simp only[gP,mn,mL,xK]at q;refine⟨q.1,λe he=>⟨h.2.2.2 e he,?_⟩⟩;let⟨i,m⟩:=lh.1 he;have j:=q.2 i (bH.1 m).1;rw[ko,m,tv]at j;unfold qw at j;split at j;{simp only[gP,Gi]at j;omega};{simp only[gP]at j;exact Jm j.2.2}
open Go.Deep
theorem VD.idr(h:VD D){i:Int}(m:i∈ji D.E):1<=i/\i<=2^62:=by
 obtain⟨s,j,rfl⟩:=fM.1 m;have o:=(h.s2 s j).1;have q:=h.x;exact⟨o.1,af⟩
theorem VD.ig(h:VD D):Bs D.E:=λs j=>by
 let⟨m,i⟩:=(h.s2 s j).q;exact⟨af,λe he=>⟨(i e he).1,aM (i e he).2⟩⟩
theorem VD.dr(h:VD D):Bn D.N:=λj m=>by
 have i:=h.n2 j m;have s:=Jm i.vp;have r:=i.va;have q:=h.ids i.h1 i.h2;have o:=h.ids i.w1 i.w2;exact⟨i.pb,af,af,af,af⟩
theorem VD.tG(h:VD D):Bu D.N:=λm o=>
 ⟨λi j=>aM (h.idr ((h.n2 m o).h2 i j)),λi j=>aM (h.idr ((h.n2 m o).w2 i j))⟩
theorem VD.yQ(h:VD D):Bo D.N:=λi j=>by
 obtain e|e:=(h.n2 i j).ow;{omega};{have:=h.idr e;omega}
theorem VD.ap(h:VD D)(K S F E iG:Int)(P V:LI):AP D.e D.g D.x D.t D.E D.N K S F E iG P V=kG D K S F E iG P V:=by
 unfold AP;rw[aK h.ok]
theorem TB.ds8(h:TB w v l):∃p c,v=.S p (J l) c:=by
 obtain⟨p,c,e,-⟩:=h.1;exact⟨p,c,e⟩
theorem dq4(i:VD D){q:OA}{m:Nat}(en:Le D.E n)(j:Le D.N m){np cp:Nat}{nv cv:Nat}(Z:Le P np)(W:Le V nv)(h:nO w (.S p n c) D.E)(M:iw w (.S q m d) D.N)(B:Rd w (.S pp np cp) P)(y:Rd w (.S pq nv cv) V)(u:np<=2^20)(s:nv<=2^20)(N:np<=cp)(o:cp<=maxLen)(bP:aD P){R:SD×RP}(X:O (kG D K S F E iG P V=R)):dQ dG 96 #[cO D.e D.g D.x D.t (.S p n c) (.S q m d),nI K S (.S pp np cp) F (.S pq nv cv) E iG] w λr w'=>QR (U (Q w)) w w' r R.1 R.2:=by
 have hn:n<=50:=ae en▸i.sl;have hm:m<=200:=ae j▸i.nl;exact dq8 en j Z W h M B y af af u s N o i.ig i.dr (ai λ_=>i.wf) bP (ai (by rw[i.ap];exact ae X))
theorem pW.QU{p q:OA}{m:Nat}(h:pW B w p n c q m d ss ns):nM w (.S p n c) ss/\iw w (.S q m d) ns:=by
 obtain⟨r,o,j,i,-⟩:=h;exact⟨j,i⟩
def Xy(r:R1):Prop:=aD r.2/\J r.2<=1000/\0<=r.1/\r.1<2^64
theorem dz6(i:aD l)(h:qc l=r):Xy r:=by
 obtain⟨s,b⟩:=r;obtain⟨h1,h2,-,h4,m,-⟩:=Vp i h;have j:=Hx (i.sub 2 10) (by simp[sub];omega);refine⟨?_,h2,?_,?_⟩;{show aD b;rw[m];exact i.sub _ _};{show 0<=s;rw[h4];exact j.1};{show s<_;rw[h4];exact j.2}
theorem bO4:∀(f:Nat){l:LI},aD l->∀r:R1,Y r∈yl f l->Xy r
 |0,l,hB,r,h=>by simp[yl]at h
 | f+1,l,hB,r,h=>by
  cases hr:qc l with
  |none=>rw[ao3 hr]at h;simp at h
  |some x=>
   rw[U0 hr]at h;obtain h|h:=gD.1 h;{cases h;exact dz6 hB hr};{exact bO4 f (hB.drop _) r h}
theorem cD9:∀(t:Option Int)(L:List (Option R1))(r:R1),r∈rK t L->Y r∈L
 |_,[],r,h=>by simp[rK]at h
 |_,dN::_,r,h=>by simp[rK]at h
 |t,Y x::L,r,h=>by rw[rK]at h;split at h;{obtain h|h:=gD.1 h;{rw[h];simp};{exact List.mem_cons_of_mem _ (cD9 _ L r h)}};{simp at h}
theorem ar4(i:aD l):∀r∈rl l,Xy r:=λr h=>bO4 _ i r (cD9 _ _ r h)
abbrev Rq:=Nat×Nat×Nat×LI×LI
def zx(l:LI):Option Rq->Prop
 |none=>∀K S P F V,¬uZ l K S P F V
 |some o=>uZ l o.1 o.2.1 o.2.2.2.1 o.2.2.1 o.2.2.2.2
theorem eI6:∃i:LI->Option Rq,∀l,zx l (i l):=by
 refine Classical.axiomOfChoice (r:=λl o=>zx l o) λl=>?_;by_cases h:∃K S P F V,uZ l K S P F V;{obtain⟨K,S,P,F,V,h⟩:=h;exact⟨Y (K,S,F,P,V),h⟩};{exact⟨dN,λK S P F V j=>h ⟨K,S,P,F,V,j⟩⟩}
theorem uZ.byt{K S F:Nat}(h:uZ l K S P F V)(j:aD l):aD P/\aD V:=by
 obtain⟨_,_,_,_,_,_,e⟩:=h;rw[e,qd,tx,tx]at j;exact⟨λz i=>j z (by simp[i]),λz i=>j z (by simp[i])⟩
abbrev Xo(D:SD)(o:Rq):SD×RP:=kG D o.1 o.2.1 o.2.2.1 0 0 o.2.2.2.1 o.2.2.2.2
def CJ(dop:LI->Option Rq)(D:SD)(q:Int)(r:R1):Option (SD×Int):=
 if r.1<=q then Y (D,q)
 else if r.1≠q+1\/4611686018427387904<r.1 then dN
 else match dop r.2 with
  |none=>dN
  |some o=>if(Xo D o).2.k=0 then Y ((Xo D o).1,r.1)else dN
def uj(dop:LI->Option Rq):SD->Int->List R1->SD×Int
 |D,q,[]=>(D,q)
 |D,q,r::rs=>match CJ dop D q r with
  |none=>(D,q)
  |some x=>uj dop x.1 x.2 rs
theorem Vj{dop:LI->Option Rq}{q:Int}(hr:rs[j]?=r)(h:CJ dop D q r=dN):uj dop D q (jD j rs)=(D,q):=by
 let⟨i,e⟩:=bH.1 hr;rw[Lx i,e,uj,h]
theorem ar1{dop:LI->Option Rq}{q:Int}{x:SD×Int}(hr:rs[j]?=r)(h:CJ dop D q r=x):uj dop D q (jD j rs)=uj dop x.1 x.2 (jD (j+1) rs):=by
 let⟨i,e⟩:=bH.1 hr;rw[Lx i,e,uj,h]
theorem bZ0{dop:LI->Option Rq}{q:Int}:uj dop D q (jD (J rs) rs)=(D,q):=by rw[List.drop_length];rfl
def GQ(D:SD)(q:Int):Prop:=VD D/\0<=q/\q<=2^62
theorem aR2{dop:LI->Option Rq}(j:∀l,zx l (dop l)){q:Int}(h:GQ D q)(hr:Xy r){x:SD×Int}(e:CJ dop D q r=x):GQ x.1 x.2:=by
 rw[CJ]at e;split at e;{cases e;exact h};{
 split at e;{cases e};{
 next h1 h2=>
 rw[JC]at h2;have i:=j r.2;split at e;{cases e};{
 next o ho=>
 rw[ho]at i;split at e;{cases e;let⟨s,m⟩:=uZ.byt i hr.1;exact⟨h.1.apply s m,hr.2.2.1,af⟩};{cases e}}}}
theorem ar2{dop:LI->Option Rq}(i:∀l,zx l (dop l)):∀(rs:List R1){D:SD}{q:Int},GQ D q->(∀r∈rs,Xy r)->GQ (uj dop D q rs).1 (uj dop D q rs).2
 |[],D,q,h,_=>h
 |r::rs,D,q,h,hr=>by
  rw[uj];cases e:CJ dop D q r with
  |none=>exact h
  |some x=>exact ar2 i rs (aR2 i h (hr r al) e) (λj m=>hr j (by simp[m]))
def pY(l:LI):Option (SD×Int):=
 if J l=0 then Y (⟨0,0,0,0,[],[]⟩,0)
 else if J l<20 then dN
 else if uh (num (sub l 4 12)) (sub l 16 (J l-4))=l then
  if 2^62<num (sub l 4 12)then dN
  else(lK (sub l 16 (J l-4))).map λr=>(⟨r.1.1,r.1.2.1,r.1.2.2,0,r.2.1,r.2.2⟩,num (sub l 4 12))
 else dN
theorem VD.zero:VD ⟨0,0,0,0,[],[]⟩:=⟨by decide,by decide,by decide,by decide,by decide,by decide,List.Pairwise.nil,(λs h=>by cases h),List.Pairwise.nil,(λs h=>by cases h)⟩
theorem dr0(hb:aD l)(M:Mg (J l)){r:(Int×Int×Int)×List aB×List au}(h:lK l=r):VD ⟨r.1.1,r.1.2.1,r.1.2.2,0,r.2.1,r.2.2⟩:=by
 rw[lK]at h;cases hr:CK l with
 |none=>rw[hr]at h;cases h
 |some s=>
  rw[hr,Dc]at h;split at h;{
 next hc=>
 obtain⟨⟨e,g,x⟩,B,E,o⟩:=s;simp only[oK]at h hc;subst h;obtain⟨-,u,-⟩:=hc;rw[CK]at hr;simp only at hr;split at hr;{cases hr};{
 let⟨u1,u2⟩:=aV5 oV IW (iF (J l) l) (λs m=>⟨xI,wD rfl m⟩) (oV (oV (oV (oV l).2).2).2).1.toNat _ (wD rfl (wD rfl (wD rfl (wD rfl (iF.start (n:=J l) (l:=l) rfl)))));split at hr;{cases hr};{
 rw[Oc]at hr;obtain⟨⟨r1,Z⟩,h3,h4⟩:=hr;obtain⟨y,-,-⟩:=aq0 rfl hb M _ (wD rfl u2) h3;simp only[lE]at h4;obtain⟨⟨W,V,S⟩,R,N,-⟩:=h4;have m:∀s∈B,s.2.2=[]:=λs m=>by rw[<-R]at m;obtain⟨i,-,rfl⟩:=fM.1 m;rfl
 have q:∀j∈E,Qj j:=λj X=>y j (N▸X);refine VD.of u (PF u (λs h=>by rw[m s h];exact⟨de _,λe he=>by cases he⟩) (λj h=>⟨(q j h).by0,(q j h).l0,(q j h).l1,(q j h).l4,by rw[(q j h).l7];exact de _⟩)) ?_ ?_ (λs h ev he=>by rw[m s h]at he;cases he) (λj h=>(q j h).by1) ?_ (λj h=>(q j h).ep.1);{rw[<-V];exact xI.1};{rw[<-S];exact xI.1};{rw[<-W];exact xI.1}}}};{cases h}
theorem aS1(hb:aD l)(j:Mg (J l)){x:SD×Int}(h:pY l=x):GQ x.1 x.2:=by
 rw[pY]at h;split at h;{cases h;exact⟨VD.zero,bf,bf⟩};{
 split at h;{cases h};{
 split at h;{
 split at h;{cases h};{
 next h1 h2 h3 h4=>
 rw[Oc]at h;obtain⟨r,i,rfl⟩:=h;exact⟨dr0 (hb.sub _ _) (by simp[sub];omega) i,(Hx (hb.sub 4 12) (by simp[sub];omega)).1,af⟩}};{cases h}}}
theorem mw.W(h:mw w R m n sh)(q:∀b,b<=R->w'.heap[b]?=w.heap[b]?):mw w' R m n sh:=by
 obtain⟨E,D,p,c,⟨B,y⟩,j,x⟩:=h;have e:=gG (q R aU);refine⟨E,λo=>(Dg (q R aU)).Z (D o),p,c,⟨(e 0).Z B,(e 1).Z y⟩,?_,x⟩;obtain j|⟨b,o,u,r,j⟩:=j;{exact .L j};{exact .R ⟨b,o,u,r,λi s=>(gG (q b af) _).Z (j i s)⟩}
theorem mw.H(h:mw w R m n sh)(j:Below B w w')(o:R<B):mw w' R m n sh:=h.W λb i=>j.block b (by omega)
theorem Kept.Ue(h:Kept [blk R] w w')(j:b<U (Q w))(m:b≠R):w'.heap[b]?=w.heap[b]?:=h.block b j λv i e=>by
 simp only[rC]at i;subst i;simp[jB]at e;exact m e.C
theorem nR.lp(h:nR B w v l)(r:Kept [blk R] w w')(u:R<B):nR B w' v l:=by
 refine⟨h.1,?_⟩;obtain q|⟨g,m,j,rfl,s,o,i⟩:=h.2;{exact .L q};{exact .R ⟨g,m,j,rfl,s,(r.Ue (LF.1 o).1 af).Z o,i⟩}
theorem fG.lp{α:Type}{el:G->α->List dV->List Lf->Prop}{xs:List α}(h:fG el ty sz B w v xs Ls)(o:∀w w' x c l,el w x c l->(∀a∈l,w'.heap[a.b]?=w.heap[a.b]?)->el w' x c l)(i:Kept [blk R] w w')(r:R<B):fG el ty sz B w' v xs Ls:=
 h.W (o _ _) i.size (λb j=>i.Ue (h.lt.1 b j).2 (aM (h.lt.1 b j).1)) (λa m=>i.Ue (h.lt.2 a m).2 (aM (h.lt.2 a m).1))
theorem fG.eW0{α:Type}{el:G->α->List dV->List Lf->Prop}{xs:List α}{x:α}{c:List dV}{l:List Lf}(h:fG el ty sz B V3 v xs Ls)(cK:∀w w' x c l,el w x c l->(∀a∈l,w'.heap[a.b]?=w.heap[a.b]?)->el w' x c l)(s:el V3 x c l)(hc:J c=sz)(E:gp M V3 l)(D:B<=M)(y:∀a∈jL Ls,a.b<M)(o:∀b,jB v=Y b->b<M):∃row,V3.ownsRow B ty sz v (J xs) row/\∀j m,m.ownsRow B ty sz j (J xs+1) (row++c)->jG V3 m (jB v)->(∀g,jB j=Y g->jB v=Y g\/U (Q V3)<=g)→
   fG el ty sz B m j (xs++[x]) (Ls++[l])/\∃p q,j=.S p (J xs+1) q:=by
 obtain⟨cs,g1,g2,Z,X,W,V,R⟩:=h;refine⟨jL cs,X,λj m N u r=>?_⟩;have sn:=fG.snoc g1 g2 Z W V R cK s hc E D y o N u r;refine⟨sn,?_⟩;obtain⟨p,q,e,-⟩:=sn.read;rw[fe]at e;exact⟨p,q,e⟩
theorem PB.lp(h:PB w M N v xs A)(j:Kept [blk R] w w')(m:R<M):PB w' M N v xs A:=
 have k:∀a∈A,w'.heap[a.b]?=w.heap[a.b]?:=λa i=>j.Ue (h.ap.ke.lt i) (aM (h.ap.lo a i))
 ⟨h.rd.kR h.lv k,h.cap,h.lv,h.ap.W k,h.hi⟩
theorem PU.lp(h:PU w M N v xs A)(j:Kept [blk R] w w')(m:R<M):PU w' M N v xs A:=
 have k:∀a∈A,w'.heap[a.b]?=w.heap[a.b]?:=λa i=>j.Ue (h.ap.ke.lt i) (aM (h.ap.lo a i))
 ⟨h.rd.kR h.lv k,h.lv,h.ap.W k,h.hi⟩
theorem aT.lp(h:aT w b vs)(j:Kept [blk R] w w')(m:b<U (Q w))(q:b≠R):aT w' b vs:=
 ⟨λi v r=>(gG (j.Ue m q) _).Z (h.1 i v r),λo=>(Dg (j.Ue m q)).Z (h.2 o)⟩
theorem Kept.cC9{j:G}(h:Kept [blk R] w w1)(i:jG w1 j row)(hr:∀k,row=Y k->U (Q w)<=k):Kept [blk R] w j:=
 ⟨i.os.Z h.os,i.tape.Z h.tape,i.output.Z h.output,gq h.size i.size,λk m o=>(i.block k (mH m h.size) (λe=>aM (hr k e.C))).Z (h.block k m o)⟩
theorem Kept.rA(h:Kept [blk R] w w1){a:Addr}(ha:U (Q w)<=a.block)(v:dV):Kept [blk R] w (w1.setCell a v):=
 h.cC9 (js w1 a v) λk e=>by cases e;exact ha
theorem dt6(h:mw w R m n sh)(V:R<U (Q w))(hb:aD m)(S:Mg n)(e:O (gK (m,sh)=(x,m',sh'))):dQ dG 233 #[Pz R] w λe w'=>e=dR (jP #[.U x,.I 0,ay])/\mw w' R m' (J m') sh'/\Kept [blk R] w w':=by
 let⟨W,i⟩:=aF (jA w (dO #[.U 0,.I 0,ay] 148));have u:=ir i;have s:aT W (U (Q w)) [.U 0,.I 0,ay]:=by rw[i];exact aT.alloc w #[.U 0,.I 0,ay] _
 have Z:U (Q W)=U (Q w)+1:=by rw[i];simp
 go_in
 go_wp21
 rw[<-i];clear i;refine(Hw (h.H u V) hb S e).h ?_;rintro r w1⟨rfl,q,j⟩;have o:=s.lp j af af;let⟨X,B⟩:=aQ ((Kept.tj (vs:=[blk R]) u).Z j) q;let⟨N,M,E⟩:=aH4 o.1;have rf:=o.2;clear s j q o h;go_wp2;refine cX (v:=jP #[.U x,.I 0,ay]) (by simp[results,results233,go_sem,N,M,E]) rfl ⟨rfl,?_,?_⟩;{exact B.W λb hb=>by iterate 3 rw[gh _ _ _ _ bL]}
 {exact((X.rA al _).rA al _).rA al _}
variable {s:Rs}
theorem dP8{α:Type}{f:Rs->α×Rs}{r:List α×Rs}{t:Rs}(e:O (lF f s=r))(i:O (gK s=((X:Int),t))):O (vH f X [] t=r):=by
  have:=ae e;rw[lF,ae i]at this;exact this
theorem dO7{α:Type}{f:Rs->α×Rs}{acc:List α}{r:List α×Rs}(e:O (vH f k acc s=r)):∃d m3 s3,O (f s=(d,m3,s3)):=⟨_,_,_,(ai (by rfl))⟩
theorem dO5{α:Type}{f:Rs->α×Rs}{acc xs:List α}{d:α}(e:O (vH f (X-i) acc s=(xs,m',sh')))(m:O (f s=(d,m3,s3)))(h:i<X):(s3->xs=[]/\m'=m3/\sh')/\(s3=dF->O (vH f (X-(i+1)) (acc++[d]) (m3,dF)=(xs,m',sh'))):=by
  have:=ae e;rw[show X-i=X-(i+1)+1 by omega,vH,ae m]at this;refine⟨λj=>?_,λj=>?_⟩;{rw[aK j,j]at this;simp only[lE]at this;exact⟨this.1.C,this.2.1.C,this.2.2.C⟩};{rw[aJ (by rw[j];simp),j]at this;exact this}
theorem dO4{α:Type}{f:Rs->α×Rs}{acc xs:List α}{j:LI}{s2:Bool}(e:O (vH f (X-i) acc (j,s2)=(xs,m',sh')))(h:¬i<X):xs=acc/\m'=j/\sh'=s2:=by
  have:=ae e;rw[show X-i=0 by omega,vH]at this;simp only[lE]at this;exact⟨this.1.C,this.2.1.C,this.2.2.C⟩
def LfI{α:Type}(f:Rs->α×Rs)(s:G->dV->List α->Prop)(X:Nat)(xs:List α)(m':LI)(sh':Bool)(R:Nat)(w:G)(q r:dV)(wr:G):Prop:=∃(i:Nat)(acc:List α)(k:Nat)(j:LI)(o:Bool)(m:Nat)(p:OA)(c:Nat),i<=X/\q=.S p k c/\r=.U i/\k+m<=2^20/\Le acc k/\Le j m/\O (vH f (X-i) acc (j,o)=(xs,m',sh'))/\O (aD j)/\O (mw wr R j m o)/\O (s wr (.S p k c) acc)/\O (Kept [blk R] w wr)
theorem du6{d:aB}(e:O (Jt s=(d,m3,s3))):∃y,O (gK s=(y,m3,s3))/\O (d=Ai y):=by
  have:=ae e;rw[Jt]at this;simp only[lE]at this;exact⟨_,Prod.ext rfl this.2,this.1.C⟩
theorem lfW{q:Prop}(h':q:=by
    let⟨iu,hiu,uz0,uz1,uz2⟩:=mJ Tryz.infoU64;let⟨is,SK,Yp,Yo,Yn⟩:=mJ Tryz.infoSes;let⟨iN,hiN,nz0,nz1,nz2⟩:=mJ Tryz.infoNod;have hmn:J m=n:=h.1;obtain⟨⟨x,m1,s1⟩,e1⟩:∃y,O (gK (m,sh)=y):=⟨_,di⟩;have ok1:=yC (m,sh) hb (hmn▸hl);rw[ae e1]at ok1;obtain⟨hx,az,Ar,-⟩:=ok1;dsimp only at Ar;obtain⟨X,rfl⟩:∃v:Nat,x=(v:Int):=⟨x.toNat,aM hx.1⟩;have hX:(X:Int)<2^64:=hx.2;have e2:=dP8 e e1;have mW:=ai az;clear hx az;show dQ _ _ _ _ _;go_in
    go_wp21
    refine(Hw h hb hl e1).h ?_;rintro r w1⟨rfl,ta,kh⟩;have xz:=ai ta;have UJ:=ai kh;clear ta kh h;go_wp2
    first
      |(go_loopw[5,9](LfI gK (nR (U w.heap)) X xs m' sh' R w) (λ_ iv _=>X-(intOf iv).toNat))
      |(go_loopw[5,9](LfI Jt (λwr v l=>∃Ls,fG oy 148 3 (U w.heap) wr v l Ls) X xs m' sh' R w) (λ_ iv _=>X-(intOf iv).toNat))
      |(go_loopw[5,9](LfI By (λwr v l=>∃Ls,fG mB 149 8 (U w.heap) wr v l Ls) X xs m' sh' R w) (λ_ iv _=>X-(intOf iv).toNat))
    {exact⟨0,[],0,m1,s1,J m1,dN,0,de _,rfl,rfl,af,di,di,e2,mW,xz,by first|exact qe _ _ _ _|exact⟨[],fG.nil _ _ _ _ _⟩,UJ⟩};{
 clear xz UJ mW e2;obtain⟨i,acc,k,m2,s2,n2,p,c,hi,rfl,rfl,JY,ek,xr,e3,aA,iK,kU,oR⟩:=hrel;have BQ:=oR.size;by_cases aH:i<X;{
 have dm:=cM i X;have wi:IntKind.u64.wrap ((i:Int)+1)=((i+1:Nat):Int):=by rw[wV];omega
 let⟨d,m3,s3,e4⟩:=dO7 e3;have Sw:J m2<=1048576:=by rw[ae xr];omega
 first
   | (have ok3:=yC (m2,s2) aA Sw
      rw[ae e4]at ok3;obtain⟨-,aL,xT,wY⟩:=ok3)
   | (have ok3:=aT7 (m2,s2) aA Sw
      rw[ae e4]at ok3;obtain⟨-,aL,xT,wY⟩:=ok3)
   | (have ok3:=aT8 (m2,s2) aA Sw
      rw[ae e4]at ok3;obtain⟨-,aL,xT,wY⟩:=ok3)
 clear Sw;dsimp only at xT wY;rw[ae xr]at xT wY;have sJ:=ai aL;clear aL;let⟨e6t,e6f⟩:=dO5 e3 e4 aH;have E6T:=ai e6t;have E6F:=ai e6f;clear e6t e6f
 first
   | (have T1:O (gK (m2,s2)=(d,m3,s3)):=e4
      go_wp21
      refine(Hw iK aA af e4).h ?_;rintro r w3⟨rfl,tF,nw⟩;have xA:=ai (oR.Z nw);have xy:=ai tF;have z3:=nw.size;obtain⟨l3,f3,pr,cr,⟨g0,g1⟩,-⟩:=tF;have O3:=ai (kU.lp nw af);clear nw)
   | (obtain⟨y,e4n,HD⟩:=du6 e4
      go_wp21
      refine(dt6 iK af aA af e4n).h ?_;rintro r w3⟨rfl,tF,nw⟩;have xA:=ai (oR.Z nw);have xy:=ai tF;have z3:=nw.size;have Gu:mw (w3.alloc (dO #[.U y,.I 0,ay] 148)) R m3 (J m3) s3:=tF.H (db.alloc aU _) af;obtain⟨l3,f3,pr,cr,⟨g0,g1⟩,-⟩:=Gu;let⟨Ls,Ss⟩:=ae kU;have O3:=ai (Ss.lp oy.W nw af);have UF:=ai Ss.lt;clear Ss;clear tF nw)
   | (go_wp21
      refine(CN R m2 n2 s2 _ iK af aA af d m3 s3 e4).h ?_;rintro r w3⟨pP,NP,cP,pV,NV,cV,ow,mo,pH,NH,cH,ep,ge,Ae,rfl,IJ,vT,tF,nw⟩;have EE:=eG IJ iH vT;clear IJ vT;have xA:=ai (oR.Z nw);have xy:=ai tF;have z3:=nw.size;have Gu:mw (w3.alloc (dO #[.S pP NP cP,.S pV NV cV,.U ow,.I mo,.S pH NH cH,.U ep,.U ge,ay] 149)) R m3 (J m3) s3:=tF.H (db.alloc aU _) af;obtain⟨l3,f3,pr,cr,⟨g0,g1⟩,-⟩:=Gu;let⟨Ls,Ss⟩:=ae kU;have O3:=ai (Ss.lp mB.W nw af);have UF:=ai Ss.lt;clear Ss;clear tF nw)
 cases s3 with
 | true=>
   clear wY E6F;obtain⟨rfl,rfl,rfl⟩:=ae E6T rfl;obtain rfl:N=0:=eN.C;go_wp2;go_ret
   first
     |exact⟨dN,0,rfl,qe _ _ _ _,xy,xA⟩
     |exact⟨dN,0,rfl,⟨[],fG.nil _ _ _ _ _⟩,xy.H (db.alloc aU _) af,xA.alloc _⟩
 | false=>
   have hl5:=wY rfl;have e6:=ae E6F rfl;clear wY E6T E6F;obtain⟨n3,PK⟩:∃k,Le m3 k:=⟨_,di⟩;rw[ae PK]at hl5 xT xy l3 g0;clear l3 g0
   first
     | (obtain⟨v3,gM⟩:∃V,V=w3.alloc (dO #[.int .u64 d] 27):=⟨_,rfl⟩
        have aL:=ir gM;have sr:∀i u,([.U d]:List dV)[i]?=Y u->I v3 (Ad (U w3.heap) i)=Y u:=gM▸Ub;have pI:=ai sr;have z4:U v3.heap=U w3.heap+1:=by rw[gM];simp
        have Ez:O (∀b,(Value.slice p k c).ownBlock=Y b->U w.heap<=b):=λb eb=>(O3.lt b eb).1;have DW:O (v3.ownsRow (U w.heap) 27 1 (.S p k c) k (acc.map (Value.int .u64))):=by have:=O3.H aL;unfold nR at this;rw[ae ek]at this;exact this
        have R4:=ai (xy.H aL af);have K4:=ai (xA.Z (Kept.tj aL));clear sr;go_wp2_with(at_builtin;rw[<-gM];refine FO rfl 134 rfl iu 1 underlying134 hiu uz0 uz1 uz2 rfl bf (.S p k c) rfl DW (U w3.heap) 1 1 [.U d] rfl rfl pI (λu hu=>by simp at hu;subst hu;rfl) kW af af ?_);intro v' w9 gF hg Cf;have il:∀g,v'.ownBlock=Y g->(Value.slice p k c).ownBlock=Y g\/U v3.heap<=g:=λg eg=>by have:=Cf g eg;rw[gM];simpa using this
        rw[<-gM]at hg;have sn:=nR.snoc ek gF;let⟨pN,cN,e9⟩:=sn.form;rw[fe,ae ek]at e9;subst e9;have SN:O (nR (U w.heap) w9 (.S pN (k+1) cN) (acc++[d])):=sn)
     | (obtain⟨v3,gM⟩:∃V,V=(w3.alloc (dO #[.int .u64 y,.int .i64 0,.slice dN 0 0] 148)).alloc (dO #[.int .u64 y,.int .i64 0,.slice dN 0 0] 148):=⟨_,rfl⟩
        have aL:Bw w3 v3:=gM▸(db.alloc aU _).alloc al _;have sr:∀i u,([.U y,.I 0,ay]:List dV)[i]?=Y u->I v3 (Ad (U w3.heap+1) i)=Y u:=by have e0:U (w3.alloc (dO #[.U y,.I 0,ay] 148)).heap=U w3.heap+1:=al;rw[gM,<-e0];exact Ub
        have pI:=ai sr;have z4:U v3.heap=U w3.heap+2:=by rw[gM];simp
        have elx:oy v3 d [.U y,.I 0,ay] []:=ae HD▸oy.id v3 y;have apx:gp (U w3.heap) v3 []:=gp.nil _ _;let⟨row,wX,xl⟩:=O3.app oy.W aL elx rfl apx af;have Ez:O (∀b,(Value.slice p k c).ownBlock=Y b->U w.heap<=b):=λb eb=>(O3.lt.1 b eb).1;rw[ae ek]at wX xl;have aa1:=ai xl;have DW:=ai wX;clear xl wX;have R4:=ai (xy.H aL af);have K4:=ai (xA.Z (Kept.tj aL));clear sr;go_wp2_with(at_builtin;rw[<-gM];refine FO rfl 41 rfl is 3 underlying41 SK Yp Yo Yn rfl bf (.S p k c) rfl DW (U w3.heap+1) 1 1 [.U y,.I 0,ay] rfl rfl pI (λu hu=>by simp at hu;obtain rfl|rfl|rfl:=hu<;>rfl) kW af af ?_);intro v' w9 gF hg Cf;have il:∀g,v'.ownBlock=Y g->(Value.slice p k c).ownBlock=Y g\/U v3.heap<=g:=λg eg=>by have:=Cf g eg;rw[gM];simpa using this
        rw[<-gM]at hg;obtain⟨sn,pN,cN,rfl⟩:=ae aa1 v' w9 gF hg il;have SN:O (∃Ls,fG oy 148 3 (U w.heap) w9 ((.S pN (k+1) cN)) (acc++[d]) Ls):=⟨_,sn⟩)
     | (obtain⟨v3,gM⟩:∃V,V=(w3.alloc (dO #[.slice pP NP cP,.slice pV NV cV,.int .u64 ow,.int .i64 mo,.slice pH NH cH,.int .u64 ep,.int .u64 ge,.slice dN 0 0] 149)).alloc (dO #[.slice pP NP cP,.slice pV NV cV,.int .u64 ow,.int .i64 mo,.slice pH NH cH,.int .u64 ep,.int .u64 ge,.slice dN 0 0] 149):=⟨_,rfl⟩
        have aL:Bw w3 v3:=gM▸(db.alloc aU _).alloc al _;have sr:∀i u,([.S pP NP cP,.S pV NV cV,.U ow,.I mo,.S pH NH cH,.U ep,.U ge,ay]:List dV)[i]?=Y u->I v3 (Ad (U w3.heap+1) i)=Y u:=by have e0:U (w3.alloc (dO #[.S pP NP cP,.S pV NV cV,.U ow,.I mo,.S pH NH cH,.U ep,.U ge,ay] 149)).heap=U w3.heap+1:=al;rw[gM,<-e0];exact Ub
        have pI:=ai sr;have z4:U v3.heap=U w3.heap+2:=by rw[gM];simp
        have kE:∀a∈Ae,v3.heap[a.b]?=w3.heap[a.b]?:=λa ha=>aL.block _ (EE.2.2.ke.lt ha);have elx:mB v3 d [.S pP NP cP,.S pV NV cV,.U ow,.I mo,.S pH NH cH,.U ep,.U ge,ay] Ae:=mB.W _ _ _ _ _ EE.1 kE;have apx:gp (U wr.heap) v3 Ae:=EE.2.2.W kE;let⟨row,wX,xl⟩:=(O3.H mB.W aL).eW0 mB.W elx rfl apx af (λa ha=>(UF.2 a ha).2) (λb eb=>(UF.1 b eb).2);have Ez:O (∀b,(Value.slice p k c).ownBlock=Y b->U w.heap<=b):=λb eb=>(O3.lt.1 b eb).1;rw[ae ek]at wX xl;have aa1:=ai xl;have DW:=ai wX;clear xl wX;have R4:=ai (xy.H aL af);have K4:=ai (xA.Z (Kept.tj aL));clear sr;go_wp2_with(at_builtin;rw[<-gM];refine FO rfl 42 rfl iN 8 underlying42 hiN nz0 nz1 nz2 rfl bf (.S p k c) rfl DW (U w3.heap+1) 1 1 [.S pP NP cP,.S pV NV cV,.U ow,.I mo,.S pH NH cH,.U ep,.U ge,ay] rfl rfl pI (λu hu=>by simp at hu;obtain rfl|rfl|rfl|rfl|rfl|rfl|rfl|rfl:=hu<;>rfl) kW af af ?_);intro v' w9 gF hg Cf;have il:∀g,v'.ownBlock=Y g->(Value.slice p k c).ownBlock=Y g\/U v3.heap<=g:=λg eg=>by have:=Cf g eg;rw[gM];simpa using this
        rw[<-gM]at hg;obtain⟨sn,pN,cN,rfl⟩:=ae aa1 v' w9 gF hg il;have SN:O (∃Ls,fG mB 149 8 (U w.heap) w9 ((.S pN (k+1) cN)) (acc++[d]) Ls):=⟨_,sn⟩)
   have K9:=ai (K4.cC9 hg (λb eb=>ae Ez b eb));have R9:=ai (R4.W λb hbR=>hg.block b af (λeb=>aM (ae Ez b eb.C)));have EK:O (J (acc++[d])=k+1):=by show _=_;rw[fe,ae ek];rfl
   clear gF hg il Cf sn gM aL g1 f3;go_wp2;go_roundw;{exact⟨i+1,acc++[d],k+1,m3,dF,n3,pN,cN,af,rfl,by go_num,af,EK,PK,e6,sJ,R9,SN,K9⟩};{simp[intOf];omega}};{have dm:=ga i X;have eiX:X=i:=af;obtain⟨rfl,rfl,rfl⟩:=dO4 e3 aH;obtain rfl:N=k:=eN.C.Z ek;have R9:O (mw wr R m' (J m') sh'):=ae xr▸iK;go_wp2;go_ret;exact⟨p,c,rfl,kU,R9,oR⟩}}):q:=h'
theorem dO1(h:mw w R m n sh)(s:R<U (Q w))(hb:O (aD m))(hl:Mg n)(e:O (lF gK (m,sh)=(xs,m',sh')))(eN:Le xs N):Cp 257 #[Pz R,.func (.func 231) #[Pz R] #[]] w λr w'=>∃j o,r=dR (.S j N o)/\(nR (U (Q w)) w' ((.S j N o)) xs)/\mw w' R m' (J m') sh'/\Kept [blk R] w w':=lfW
variable {xs:List aB}
theorem dO2(h:mw w R m n sh)(s:R<U (Q w))(hb:O (aD m))(hl:Mg n)(e:O (lF Jt (m,sh)=(xs,m',sh')))(eN:Le xs N):Cp 232 #[Pz R,.func (.func 233) #[Pz R] #[]] w λr w'=>∃j o,r=dR (.S j N o)/\(∃Ls,fG oy 148 3 (U (Q w)) w' ((.S j N o)) xs Ls)/\mw w' R m' (J m') sh'/\Kept [blk R] w w':=lfW
theorem dI3(R:Nat)(m:LI)(n:Nat)(sh:Bool)(w:G)(h:mw w R m n sh)(hR:R<U (Q w))(hb:O (aD m))(hl:Mg n)(d:au)(m':LI)(sh':Bool)(e:O (By (m,sh)=(d,m',sh'))):dQ dG 235 #[Pz R] w λr w'=>∃(pP:OA)(NP cP:Nat)(pV:OA)(NV cV:Nat)(i j:Int)(pH:OA)(NH cH:Nat)(E q:Int)(Ae:List Lf),r=dR (jP #[.S pP NP cP,.S pV NV cV,.U i,.I j,.S pH NH cH,.U E,.U q,ay])/\mB w' d [.S pP NP cP,.S pV NV cV,.U i,.I j,.S pH NH cH,.U E,.U q,ay] Ae/\gp (U (Q w)) w' Ae/\mw w' R m' (J m') sh'/\Kept [blk R] w w':=by
 have hmn:J m=n:=h.1;obtain⟨⟨P,m1,s1⟩,E1⟩:∃y,O (sT m sh=y):=⟨_,di⟩;obtain⟨⟨V,m2,s2⟩,E2⟩:∃y,O (sT m1 s1=y):=⟨_,di⟩;obtain⟨⟨i,m3,s3⟩,E3⟩:∃y,O (gK (m2,s2)=y):=⟨_,di⟩;obtain⟨⟨j,m4,s4⟩,E4⟩:∃y,O (sB m3 s3=y):=⟨_,di⟩;obtain⟨⟨H,m5,s5⟩,E5⟩:∃y,O (lF gK (m4,s4)=y):=⟨_,di⟩;obtain⟨⟨E,m6,s6⟩,E6⟩:∃y,O (gK (m5,s5)=y):=⟨_,di⟩;obtain⟨⟨q,m7,s7⟩,E7⟩:∃y,O (gK (m6,s6)=y):=⟨_,di⟩;have ED:O (d=⟨P,V,i,j,H,E,q,[]⟩/\m'=m7/\sh'=s7):=by have:=ae e;rw[By]at this;simp only[ae E1,ae E2,ae E3,ae E4,ae E5,ae E6,ae E7,lE]at this;exact⟨this.1.C,this.2.1.C,this.2.2.C⟩
 have k1:=Vh (sh:=sh) hb;rw[ae E1]at k1;obtain⟨-,c1,-,d1⟩:=k1;dsimp only at c1 d1;have k2:=Vh (sh:=s1) c1;rw[ae E2]at k2;obtain⟨-,c2,-,d2⟩:=k2;dsimp only at c2 d2;have k3:=yC (m2,s2) c2 (by dsimp only;omega);rw[ae E3]at k3;obtain⟨-,c3,d3,-⟩:=k3;dsimp only at c3 d3;have k4:=Vi (sh:=s3) c3;rw[ae E4]at k4;obtain⟨c4,-,-,d4⟩:=k4;dsimp only at c4 d4;have k5:=VX yC (s:=(m4,s4)) c4 (by dsimp only;omega);rw[ae E5]at k5;obtain⟨-,c5,d5,-⟩:=k5;dsimp only at c5 d5;have k6:=yC (m5,s5) c5 (by dsimp only;omega);rw[ae E6]at k6;obtain⟨-,c6,d6,-⟩:=k6;dsimp only at c6 d6;let⟨g1,g2,g3,g4,g5,g6⟩:J m1<=2^20/\J m2<=2^20/\J m3<=2^20/\J m4<=2^20/\J m5<=2^20/\J m6<=2^20:=af
 change O _ at c1 c2 c3 c4 c5 c6
 clear d1 d2 d3 d4 d5 d6 hmn;obtain⟨NP,eP⟩:∃k,Le P k:=⟨_,di⟩;obtain⟨NV,eV⟩:∃k,Le V k:=⟨_,di⟩;obtain⟨NH,eH⟩:∃k,Le H k:=⟨_,di⟩;let⟨W,hW⟩:=aF (jA w (dO #[ay,ay,.U 0,.I 0,ay,.U 0,.U 0,ay] 149));have bW:=ir hW;have C0:O (aT W (U (Q w)) [ay,ay,.U 0,.I 0,ay,.U 0,.U 0,ay]):=by show aT _ _ _;rw[hW];exact aT.alloc w #[ay,ay,.U 0,.I 0,ay,.U 0,.U 0,ay] _
 have zW:U (Q W)=U (Q w)+1:=by rw[hW];simp
 let⟨R0,K0⟩:=aQ (h.H bW hR) (Kept.tj (vs:=[blk R]) bW);go_in
 go_wp21
 rw[<-hW];clear hW h bW;refine(aP2 (R:=R) (m:=m) (n:=n) (sh:=sh) R0 hb hl af (x:=P) (m':=m1) (sh':=s1) E1 (N:=NP) eP).h ?_;rintro z9 y1⟨pP,cP,rfl,oP,nj,kh⟩;let⟨lP,fP⟩:=Own.pb oP;let⟨FP1,C1,K1,R1⟩:=zk fP (C0.lp kh af af) (K0.Z kh) nj;have z1:=kh.size;clear kh nj C0 K0 R0  oP fP
 go_wp21
 refine(aP2 (R:=R) (m:=m1) (n:=J m1) (sh:=s1) R1 c1 g1 af (x:=V) (m':=m2) (sh':=s2) E2 (N:=NV) eV).h ?_;rintro z9 y2⟨pV,cV,rfl,YT,iK,oR⟩;let⟨lV,fV⟩:=Own.pb YT;let⟨FV2,C2,K2,R2⟩:=zk fV (C1.lp oR af af) (K1.Z oR) iK;have z2:=oR.size;have FP2:=ai (FP1.lp oR af);clear oR iK C1 K1 R1 FP1 YT fV
 go_wp21
 refine(Hw (R:=R) (m:=m2) (n:=J m2) (sh:=s2) R2 c2 g2 (x:=i) (m':=m3) (sh':=s3) E3).h ?_;rintro z9 y3⟨rfl,tF,nw⟩;let⟨C3,K3,R3⟩:=gC (C2.lp nw af af) (K2.Z nw) tF;have z3:=nw.size;let⟨FP3,FV3⟩:=aQ (FP2.lp nw af) (FV2.lp nw af);clear nw tF C2 K2 R2 FP2 FV2
 go_wp21
 refine(aS3 (R:=R) (m:=m3) (n:=J m3) (sh:=s3) R3 c3 g3 (x:=j) (m':=m4) (sh':=s4) E4).h ?_;rintro z9 y4⟨rfl,Gu,JZ⟩;let⟨C4,K4,R4⟩:=gC (C3.lp JZ af af) (K3.Z JZ) Gu;have z4:=JZ.size;let⟨FP4,FV4⟩:=aQ (FP3.lp JZ af) (FV3.lp JZ af);clear JZ Gu C3 K3 R3 FP3 FV3
 go_wp21
 refine(dO1 (R:=R) (m:=m4) (n:=J m4) (sh:=s4) R4 af c4 g4 (xs:=H) (m':=m5) (sh':=s5) E5 (N:=NH) eH).h ?_;rintro z9 y5⟨pH,cH,rfl,oH,hr5,Iq⟩;let⟨lH,fH⟩:=nR.pu oH;let⟨FH5,C5,K5,R5⟩:=zk fH (C4.lp Iq af af) (K4.Z Iq) hr5;have z5:=Iq.size;let⟨FP5,FV5⟩:=aQ (FP4.lp Iq af) (FV4.lp Iq af);clear Iq hr5 C4 K4 R4 FP4 FV4 oH fH
 go_wp21
 refine(Hw (R:=R) (m:=m5) (n:=J m5) (sh:=s5) R5 c5 g5 (x:=E) (m':=m6) (sh':=s6) E6).h ?_;rintro z9 y6⟨rfl,hr6,X⟩;let⟨C6,K6,R6⟩:=gC (C5.lp X af af) (K5.Z X) hr6;have z6:=X.size;let⟨FP6,FV6,FH6⟩:=gC (FP5.lp X af) (FV5.lp X af) (FH5.lp X af);clear X hr6 C5 K5 R5 FP5 FV5 FH5
 go_wp21
 refine(Hw (R:=R) (m:=m6) (n:=J m6) (sh:=s6) R6 c6 g6 (x:=q) (m':=m7) (sh':=s7) E7).h ?_;rintro z9 y7⟨rfl,hr7,M⟩;let⟨C7,K7,R7⟩:=gC (C6.lp M af af) (K6.Z M) hr7;have z7:=M.size;let⟨FP7,FV7,FH7⟩:=gC (FP6.lp M af) (FV6.lp M af) (FH6.lp M af);clear M hr7 C6 K6 R6 FP6 FV6 FH6;let⟨r0,r1,r2,r3,r4,r5,r6,r7⟩:=Qd C7.1;have rf:=C7.2;go_wp2;let⟨Z,hZ⟩:=aF (jS (jS (jS (jS (jS (jS (jS (jS y7 (Aw w 0) (.S pP NP cP)) (Aw w 1) (.S pV NV cV)) (Aw w 2) (.U i)) (Aw w 3) (.I j)) (Aw w 4) (.S pH NH cH)) (Aw w 5) (.U E)) (Aw w 6) (.U q)) (Aw w 7) ay);have Sz:∀b,b≠U (Q w)->Z.heap[b]?=y7.heap[b]?:=λb hb=>by
  rw[hZ]
  iterate 8 rw[gh _ _ _ _ hb]
 let⟨ed,em,es⟩:=ae ED;subst em es;refine cX (v:=jP #[.S pP NP cP,.S pV NV cV,.U i,.I j,.S pH NH cH,.U E,.U q,ay]) (by simp[results,results235,go_sem,r0,r1,r2,r3,r4,r5,r6,r7]) rfl ?_;rw[<-hZ];have k0:=FP7.py (z0:=U (Q w)) af Sz;have k1:=FV7.py (z0:=U (Q w)) af Sz;have k4:=FH7.py (z0:=U (Q w)) af Sz;rw[<-ae eP]at k0;rw[<-ae eV]at k1;rw[<-ae eH]at k4;let⟨en,Uj⟩:=mB.mk4 (nd:=⟨P,V,i,j,H,E,q,[]⟩) (B:=U (Q w)) k0 k1 k4 (PU.nil Z (U (Q y7)) (U (Q y7))) af af af af af af af af af af;dsimp only at en;rw[ae eP,ae eV,ae eH]at en;rw[ed];refine⟨_,_,_,_,_,_,_,_,_,_,_,_,_,_,rfl,en,Uj,R7.W λb hb=>Sz b af,?_⟩;rw[hZ];exact(((((((K7.rA al _).rA al _).rA al _).rA al _).rA al _).rA al _).rA al _).rA al _
variable {xs:List au}
theorem dO3(h:mw w R m n sh)(s:R<U (Q w))(hb:O (aD m))(hl:Mg n)(e:O (lF By (m,sh)=(xs,m',sh')))(eN:Le xs N):dQ dG 234 #[Pz R,.func (.func 235) #[Pz R] #[]] w λr w'=>∃j o,r=dR (.S j N o)/\(∃Ls,fG mB 149 8 (U (Q w)) w' ((.S j N o)) xs Ls)/\mw w' R m' (J m') sh'/\Kept [blk R] w w':=by
 have CN:=@dI3;exact lfW
theorem eC5{e g x:Nat}(he:e<2^64)(m:g<2^64)(j:x<2^64)(hr:∀nd∈ns,Qj nd):aD (Fg e g x t ss ns):=by
 rw[Fg];split;{next h=>exact aR5 af af af (ar5 h hr) hr}
 {exactλz i=>by simp at i}
theorem dV5(en:Le l n)(h:Rd w (.S p n c) l)(hb:O (aD l))(hl:Mg n)(qi:n<=c)(hp:O ((p=dN/\c=0)\/∃b o,p=(Ad b o)))(oY:O (∀b o,p=(Ad b o)->b<U (Q w)))(rI:ML w):dQ dG 193 #[.S p n c] w λr w'=>bD6 (U (Q w)) r w' (IM (vI l)) (IN (vI l))/\Bw w w':=by
 have HR:=ai λ(w':G)(hb:Bw w w')=>aE (h.H hb) (rI.H hb);obtain⟨⟨e,m1,s1⟩,E1⟩:∃y,O (gK (l,dF)=y):=⟨_,di⟩;obtain⟨⟨g,m2,s2⟩,E2⟩:∃y,O (gK (m1,s1)=y):=⟨_,di⟩;obtain⟨⟨x,m3,s3⟩,E3⟩:∃y,O (gK (m2,s2)=y):=⟨_,di⟩;obtain⟨⟨j,m4,s4⟩,E4⟩:∃y,O (lF Jt (m3,s3)=y):=⟨_,di⟩;obtain⟨⟨u,m5,s5⟩,E5⟩:∃y,O (lF By (m4,s4)=y):=⟨_,di⟩;have EI:O (uO l=((e,g,x),j,u,m5,s5)):=by show _=_;rw[uO];simp only[ae E1,ae E2,ae E3,ae E4,ae E5]
 have k1:=yC (l,dF) hb (by dsimp only;rw[ae en];exact hl);rw[ae E1]at k1;obtain⟨ue,c1,d1,-⟩:=k1;dsimp only at ue c1 d1;rw[ae en]at d1;have k2:=yC (m1,s1) c1 (by dsimp only;omega);rw[ae E2]at k2;obtain⟨ug,c2,d2,-⟩:=k2;dsimp only at ug c2 d2;have k3:=yC (m2,s2) c2 (by dsimp only;omega);rw[ae E3]at k3;obtain⟨ux,c3,d3,-⟩:=k3;dsimp only at ux c3 d3;have k4:=VX aT7 (s:=(m3,s3)) c3 (by dsimp only;omega);rw[ae E4]at k4;obtain⟨Ou,c4,d4,f4⟩:=k4;dsimp only at Ou c4 d4 f4;have k5:=VX aT8 (s:=(m4,s4)) c4 (by dsimp only;omega);rw[ae E5]at k5;obtain⟨JV,c5,d5,f5⟩:=k5;dsimp only at JV c5 d5 f5;obtain⟨KS,eKS⟩:∃k,Le j k:=⟨_,di⟩;obtain⟨KN,eKN⟩:∃k,Le u k:=⟨_,di⟩;have Ja:=ai JV;have re:0<=e/\e<2^64:=ue;have rg:0<=g/\g<2^64:=ug;have rx:0<=x/\x<2^64:=ux;obtain⟨e,rfl⟩:∃v:Nat,e=(v:Int):=⟨jN e,af⟩;obtain⟨g,rfl⟩:∃v:Nat,g=(v:Int):=⟨jN g,af⟩;obtain⟨x,rfl⟩:∃v:Nat,x=(v:Int):=⟨jN x,af⟩;let⟨he,hg,hx⟩:e<2^64/\g<2^64/\x<2^64:=af;let⟨W1,fT⟩:=aF (jA w (dO #[.U 0,.U 0,.U 0,.I 0,ay,ay] 44));have zW1:U (Q W1)=U (Q w)+1:=by rw[fT];simp
 let⟨W,hW⟩:=aF (jA W1 (dO #[.S p n c,jO dF] 287));have IT:=ir hW;have zW:U (Q W)=U (Q w)+2:=by rw[hW];simp;omega
 have bW:=aj (ir fT) IT;let⟨R,hR⟩:=aF (U (Q w)+1);have C0:O (aT W (U (Q w)) [.U 0,.U 0,.U 0,.I 0,ay,ay]):=by
  have:aT W1 (U (Q w)) [.U 0,.U 0,.U 0,.I 0,ay,ay]:=by rw[fT];exact aT.alloc w #[.U 0,.U 0,.U 0,.I 0,ay,ay] _
  exact this.H af IT
 have R0:O (mw W R l n dF):=by
  have hc:aT W R [.S p n c,jO dF]:=by rw[hW,show R=U W1.heap by omega];exact aT.alloc W1 #[.S p n c,jO dF] _
  refine⟨en,hc.2,p,c,⟨hc.1 0 _ rfl,hc.1 1 _ rfl⟩,?_,qi,hp⟩;let⟨p',c',ev,hd⟩:=h.H bW;simp only[rE]at ev;obtain h0|⟨b,o,h1,h2⟩:=hd;{exact .L h0};{refine .R ⟨b,o,?_,ev.1.Z h1,h2⟩;have:=ae oY b o (ev.1.Z h1);omega}
 let⟨hRW,hwR⟩:R<U (Q W)/\U (Q w)<R:=af;go_in
 go_wp21
 rw[<-fT,<-hW,<-hR];clear fT hW h rI IT zW1 hR;refine(Hw (R:=R) (m:=l) (n:=n) (sh:=dF) R0 hb hl (x:=e) (m':=m1) (sh':=s1) E1).h ?_;rintro z9 y1⟨rfl,nj,kh⟩;let⟨C1,K1,R1⟩:=gC (C0.lp kh af af) ((Kept.refl [blk R] W).Z kh) nj;have z1:=kh.size;clear kh nj C0 R0
 go_wp21
 refine(Hw (R:=R) (m:=m1) (n:=J m1) (sh:=s1) R1 c1 af (x:=g) (m':=m2) (sh':=s2) E2).h ?_;rintro z9 y2⟨rfl,iK,oR⟩;have z2:=oR.size
 go_wp21
 refine(Hw (R:=R) (m:=m2) (n:=J m2) (sh:=s2) iK c2 af (x:=x) (m':=m3) (sh':=s3) E3).h ?_;rintro z9 y3⟨rfl,tF,nw⟩;have z3:=nw.size
 go_wp21
 refine(dO2 (R:=R) (m:=m3) (n:=J m3) (sh:=s3) tF af c3 af (xs:=j) (m':=m4) (sh':=s4) E4 (N:=KS) eKS).h ?_;rintro z9 y4⟨B,cS,rfl,⟨LS,oS⟩,Gu,JZ⟩;have hS4:=ai oS.lt;have z4:=JZ.size
 go_wp21
 refine(dO3 (R:=R) (m:=m4) (n:=J m4) (sh:=s4) Gu af c4 af (xs:=u) (m':=m5) (sh':=s5) E5 (N:=KN) eKN).h ?_;rintro z9 y5⟨E,cN,rfl,⟨LN,oN⟩,hr5,Iq⟩;have z5:=Iq.size;have OS5:=ai (oS.lp oy.W Iq af);have FF:O (pW (U (Q W)) y5 B KS cS E KN cN j u):=by let⟨A1,q1,q2,q3⟩:=OS5.qM (M:=U (Q y4)) (λa ha=>(hS4.2 a ha).2) (λb hb=>(hS4.1 b hb).2);let⟨rn,A2,q4,q5⟩:=oN.no;exact⟨A1,A2,OS5.se.1,rn,q1,q4,(q2.h af).app q5 af q3⟩
 clear OS5 hS4;let⟨V,hV⟩:=aF (jA y5 (dO #[.U e,.U g,.U x,.I 0,.S B KS cS,.S E KN cN] 44));have Ch:=ir hV;have CV:=ai (((((C1.lp oR af af).lp nw af af).lp JZ af af).lp Iq af af).H af Ch);have bV:=aj (Xk bW ((((K1.Z oR).Z nw).Z JZ).Z Iq) af) Ch;have FV:=ai (FF.H Ch);let⟨sb,Dq⟩:=aF (U (Q y5));have CS:O (aT V sb [.U e,.U g,.U x,.I 0,.S B KS cS,.S E KN cN]):=by show aT _ _ _;rw[hV,Dq];exact aT.alloc y5 #[.U e,.U g,.U x,.I 0,.S B KS cS,.S E KN cN] _
 have zV:U (Q V)=sb+1:=by rw[hV];simp;omega
 have Ih:U (Q w)<sb:=af;obtain⟨-,-,-,-,⟨-,gsh⟩,-⟩:=hr5.H Ch af;rw[hV]at gsh;let⟨HV,HSB⟩:=aQ hV Dq;clear hV Ch FF Dq;cases s5 with
 |true=>
  have CV2:=CV;have Uh:=bV;rw[ae HV]at CV2 Uh;have hP:vI l=dN:=by rw[vI,ae EI];rw[aJ (λhh=>by cases hh.1)]
  have HD:O (IM (vI l)=uf/\IN (vI l)=13):=by rw[hP];exact⟨rfl,rfl⟩
  clear hP;let⟨r0,r1,r2,r3,r4,r5⟩:=Cv CV2.1;have rf:=CV2.2;have BB:=Uh;go_wp2;refine cX (v:=dT #[cO 0 0 0 0 ay ay,.I 13]) (by simp[results,results193,go_sem,r0,r1,r2,r3,r4,r5]) rfl ⟨?_,?_⟩;{rw[HD.1,HD.2];exact⟨dN,0,dN,0,rfl,pW.zero _ _⟩};{exact(((((BB.setCell al _).setCell al _).setCell al _).setCell al _).setCell al _).setCell al _}
 |false=>
  obtain⟨RL,eRL⟩:∃L,O (Fg e g x 0 j u=L):=⟨_,di⟩;obtain⟨L,eL⟩:∃k,Le RL k:=⟨_,di⟩;have ig:O (Bs j):=λs hs=>by rw[(Ou s hs).2];exact⟨de _,λe he=>by simp at he⟩
  have dr:O (Bn u):=λX aI=>by have:=ae Ja X aI;exact⟨this.by0,this.l0,this.l1,this.l4,by rw[this.l7];exact de _⟩
  go_wp21
  rw[<-ae HV];have RRV:O (nM V (.S B KS cS) j/\iw V (.S E KN cN) u):=by obtain⟨-,-,q1,q2,-⟩:=ae FV;exact⟨q1,q2⟩
  refine(co6 (e:=e) (g:=g) (x:=x) (t:=0) he hg hx (p:=B) (q:=E) (c:=cS) (n:=KS) (d:=cN) (m:=KN) (ss:=j) (ns:=u) eKS eKN RRV.1 RRV.2 (by rw[<-ae eKS];omega) (by rw[<-ae eKN];omega) ig dr (λX aI=>⟨(ae Ja X aI).ho,λi hi=>by rw[(ae Ja X aI).l7]at hi;simp at hi⟩) (λX aI=>(ae Ja X aI).ow) (λX aI=>⟨(ae Ja X aI).ep,(ae Ja X aI).ge⟩) (ae HR _ bV).2 (R:=RL) eRL (L:=L) eL).h ?_;rintro z9 u1⟨pE,cE,rfl,oE,lQ⟩;have b6:=aj bV lQ;have zu1:=lQ.size
  go_wp21
  refine cL (ai9 (p:=pE) (q:=p) (c:=cE) (d:=c) (n:=L) (k:=n) (l:=RL) (m:=l) eL en (oE.rd) (ae HR _ b6).1 (ae eRL▸eC5 he hg hx Ja) hb) λu2 Dn=>?_;have b7:=aj b6 Dn;let⟨C7,S7,F7⟩:=gC ((CV.H af lQ).H af Dn) ((CS.H af lQ).H af Dn) ((FV.H lQ).H Dn);by_cases Ki:RL=l;{
 have hd:dD (RL=l):=by simpa using Ki
 have hP:vI l=Y (((e:Int),(g:Int),(x:Int)),j,u):=by rw[vI,ae EI];rw[aK ⟨rfl,eRL.Z Ki⟩]
 have HD:O (IM (vI l)=⟨e,g,x,0,j,u⟩/\IN (vI l)=0):=by rw[hP];exact⟨rfl,rfl⟩
 rw[hd];let⟨r0,r1,r2,r3,r4,r5⟩:=Cv C7.1;have rf:=C7.2;let⟨k0,k1,k2,k3,k4,k5⟩:=Cv S7.1;rw[<-ae HSB];go_wp2;let⟨Z,hZ⟩:=aF (jS (jS (jS (jS (jS (jS u2 (Aw w 0) (.U e)) (Aw w 1) (.U g)) (Aw w 2) (.U x)) (Aw w 3) (.I 0)) (Aw w 4) (.S B KS cS)) (Aw w 5) (.S E KN cN));have Wr:∀z,z≠U (Q w)->Z.heap[z]?=u2.heap[z]?:=λz hz=>by
  rw[hZ]
  iterate 6 rw[gh _ _ _ _ hz]
 refine cX (v:=dT #[cO e g x 0 (.S B KS cS) (.S E KN cN),.I 0]) (by simp[results,results193,go_sem,r0,r1,r2,r3,r4,r5]) rfl ⟨?_,?_⟩;{rw[<-hZ,HD.1,HD.2];have f:=(F7.W (w':=Z) (λz hz _=>Wr z af)).h (B':=U (Q w)) af;rw[<-ae eKS,<-ae eKN]at f⊢;exact⟨B,cS,E,cN,rfl,f⟩};{exact(((((b7.setCell al _).setCell al _).setCell al _).setCell al _).setCell al _).setCell al _}};{
 have hd:dD (RL=l)=dF:=by simpa using Ki
 rw[hd];have hP:vI l=dN:=by rw[vI,ae EI];rw[aJ (λhh=>Ki (eRL.C.Z hh.2))]
 have HD:O (IM (vI l)=uf/\IN (vI l)=13):=by rw[hP];exact⟨rfl,rfl⟩
 let⟨r0,r1,r2,r3,r4,r5⟩:=Cv C7.1;have rf:=C7.2;go_wp2;refine cX (v:=dT #[cO 0 0 0 0 ay ay,.I 13]) (by simp[results,results193,go_sem,r0,r1,r2,r3,r4,r5]) rfl ⟨?_,?_⟩;{rw[HD.1,HD.2];exact⟨dN,0,dN,0,rfl,pW.zero _ _⟩};{exact(((((b7.setCell al _).setCell al _).setCell al _).setCell al _).setCell al _).setCell al _}}
def StP(w0 w:G)(b bs bn:Nat)(D:SD)(v:dV)(r:Ending)(w':G):Prop:=∃SB NB HB UB,r=dR v/\PS w0 w' b bs bn D SB NB HB UB/\Fr T3 w w'
def Hm(D:SD):Option Rq->Bool×SD
 |none=>(dF,D)
 |some o=>if(Xo D o).2.k=0 then(dY,(Xo D o).1)else(dF,D)
theorem VD.gd(h:VD D):GD D:=GD.of h.ok (PF h.ok h.ig h.dr) h.g.1 h.x.1
theorem dz3{SB NB HB UB:iN}(h:O (PS w0 w b bs bn D SB NB HB UB))(hV:O (VD D))(en:Le l n)(hr:O (Rd w (.S p n c) l))(hb:O (aD l))(hn:n<=1000)(qi:n<=c)(ha:O (La w p c))(hM:O (ML w))(hT:O (uz w)){o:Option Rq}(ho:O (zx l o)){R:Bool×SD}(eR:O (Hm D o=R)):dQ dG 194 #[Pz b,.S p n c] w (StP w0 w b bs bn R.2 (jO R.1)):=by
 go_in
 go_wp21
 cases o with
 |none=>
  refine(dU6 en hb af hT ho p c _ db hr qi ha).h ?_;rintro r j⟨u,y,s,x,B,rfl,-,-,-,-,E⟩;have e:=ae eR;rw[Hm]at e;subst e;let⟨P1,F1⟩:=aQ ((h.H E).H ((bD (U (Q j)) j).alloc aU (dO #[.I 0,.U 0,.S u 0 y,.I 0,.S s 0 x,.U 0,.U 0] 54))) (Fr.H (T:=T3) (aj E ((bD (U (Q j)) j).alloc aU (dO #[.I 0,.U 0,.S u 0 y,.I 0,.S s 0 x,.U 0,.U 0] 54))));clear E;go_wp2;go_ret;exact⟨_,_,_,_,rfl,P1,F1⟩
 |some o=>
  obtain⟨K,S,F,P,V⟩:=o;have N:uZ l K S P F V:=ae ho;have xR:=N.parts;let⟨bP,bV⟩:=N.byt hb;have Wm:=ae en;refine(dU5 en hb af hT N p c _ db hr qi ha).h ?_;rintro r j⟨u,y,s,x,B,rfl,-,M,-,oV,E⟩;let⟨np,GJ⟩:=cg (J P);let⟨nv,X⟩:=cg (J V);rw[ae GJ]at M⊢;rw[ae X]at oV⊢;obtain⟨W,hW,bW,zW,m,-⟩:=cR j #[.I K,.U S,.S u np y,.I F,.S s nv x,.U 0,.U 0] 54;have Z:=aj E bW;have JT:np<=1000:=aM (ae GJ);let⟨CX,F2⟩:=aQ (show tZ w0 W b bs bn D SB NB HB UB S F 0 0 u np y s nv x P V from⟨h.H Z,hV.gd,aM N.2.2.1,GJ,X,(M.H bW).rd,.R (oV.H bW).tb,bP,af,M.cap,M.GR,hM.H Z,λk h1 h2=>(ae hT k h1 h2).H Z⟩) (Fr.H (T:=T3) Z);obtain⟨o0,o1,o2,o3,o4,o5,o6⟩:I W (Aw j 0)=dI K/\I W (Aw j 1)=dU S/\I W (Aw j 2)=dS u np y/\I W (Aw j 3)=dI F/\I W (Aw j 4)=dS s nv x/\I W (Aw j 5)=dU 0/\I W (Aw j 6)=dU 0:=⟨m.1 0 _ rfl,m.1 1 _ rfl,m.1 2 _ rfl,m.1 3 _ rfl,m.1 4 _ rfl,m.1 5 _ rfl,m.1 6 _ rfl⟩;clear E bW Z M oV m xR bP bV Wm N ho;subst hW
  go_wp21
  refine(cN4 (K:=K) CX).h ?_;rintro r w3⟨D',R',C,⟨Qi,Qm,zt,Qf,v3,rfl,F3,P3,L3⟩,hA,hk⟩;obtain⟨p1,c1,p2,c2,p3,c3,A1,A2,A3,rfl,-⟩:=L3;have e:=ae eR;rw[Hm]at e;simp only[Xo]at e;rw[hA]at e;generalize(if C=0 then R' else iS)=Rx at*;have FF:=ai (F2.Z F3);by_cases hC:C=0;{rw[aK hC]at P3;rw[aK hC,aK (hk hC)]at e;subst e;have P4:=ai (P3.H ((bD (U (Q w3)) w3).alloc aU (dO #[.I Rx.k,.U Rx.i,.U Rx.e,.U Rx.g,.I Rx.n,.S p1 (J Rx.lW) c1,.S p2 (J Rx.iB) c2,.S p3 (J Rx.kF) c3] 50)));rw[sC,aK hC];exact bM8};{rw[aJ hC]at P3;rw[aJ hC,aJ (by simpa[lD]using hC)]at e;subst e;have P4:=ai (P3.H ((bD (U (Q w3)) w3).alloc aU (dO #[.I Rx.k,.U Rx.i,.U Rx.e,.U Rx.g,.I Rx.n,.S p1 (J Rx.lW) c1,.S p2 (J Rx.iB) c2,.S p3 (J Rx.kF) c3] 50)));rw[sC,aJ hC];exact bM8}
def KJ(w:G)(p:OA)(rs:List R1):Prop:=rs=[]\/∃b o,p=(Ad b o)/\(∃j m,w.heap[b]?=dO j 92 m)/\∀i r,rs[i]?=Y r->I w (Ad b (o+i*2))=dU r.1/\∃q d,I w (Ad b (o+i*2+1))=dS q (J r.2) d/\TB w (.S q (J r.2) d) r.2/\La w q d/\J r.2<=d
theorem La.size{q:OA}(h:La w q d)(i:U (Q w)<=U (Q w')):La w' q d:=⟨h.1,λb o e=>mH (h.2 b o e) i⟩
theorem KJ.T{T:List TypeId}(h:KJ w p rs)(hf:Fr T w w')(ht:92∉T/\5∉T:=by decide):KJ w' p rs:=by
 obtain h|⟨b,o,e,⟨cur,m,hc⟩,h⟩:=h;{exact .L h};{have hk:=(hf.2 _ _ _ _ ht.1 hc).Z hc.C;refine .R ⟨b,o,e,⟨cur,m,hk.Z hc⟩,λi r hr=>?_⟩;let⟨h1,q,d,h2,h3,h4,h5⟩:=h i r hr;exact⟨(gG hk _).Z h1,q,d,(gG hk _).Z h2,h3.T hf ht.2,h4.size hf.1,h5⟩}
theorem KJ.H(h:KJ w p rs)(i:Bw w w'):KJ w' p rs:=h.T (Fr.H (T:=[]) i) (by simp)
theorem lY.rct(h:lY B w (.S p n c) rs vs):KJ w p rs:=by
 obtain⟨e,y⟩|⟨g,R,N,e,hb,x,_,_,_,Z⟩:=id h.row.2;{exact .L (Hz y)};{simp only[rE]at e;refine .R ⟨g,0,e.1,⟨_,_,x⟩,λi r m=>?_⟩;have X:i<J rs:=(bH.1 m).1;have u:i<J vs:=h.len▸X;have o:vs[i]?=Y vs[i]:=bN u;let⟨M,s⟩:=ar7 rs vs i r _ m o;obtain⟨rfl,rfl,rfl⟩:=e;have W:=Rk (w:=w) (base:=B) h.row (2*i) af;have V:=Rk (w:=w) (base:=B) h.row (2*i+1) af;have j:=h.own i r _ m o;let⟨q,d,E⟩:=j.form;rw[E]at j s;rw[nY,Zm i 2];exact⟨W.Z M,q,d,V.Z s,j.tb,j.Xp,j.cap⟩}
theorem KJ.at(h:KJ w p rs)(hr:rs[j]?=r):∃b o q d,p=(Ad b o)/\I w (Ad b (o+j*2))=dU r.1/\I w (Ad b (o+j*2+1))=dS q (J r.2) d/\TB w (.S q (J r.2) d) r.2/\La w q d/\J r.2<=d:=by
 obtain h|⟨b,o,e,-,h⟩:=h;{rw[h]at hr;simp at hr};{let⟨h1,q,d,h2,h3,h4,i⟩:=h j r hr;exact⟨b,o,q,d,e,h1,h2,h3,h4,i⟩}
theorem bT2{dop:LI->Option Rq}{q:Int}(h:r.1<=q):CJ dop D q r=Y (D,q):=by rw[CJ,aK h]
theorem aR3{dop:LI->Option Rq}{q:Int}(h:¬r.1<=q)(h2:r.1≠q+1\/4611686018427387904<r.1):CJ dop D q r=dN:=by rw[CJ,aJ h,aK h2]
theorem bT3{dop:LI->Option Rq}{q:Int}(h:¬r.1<=q)(h2:¬(r.1≠q+1\/4611686018427387904<r.1)):CJ dop D q r=if(Hm D (dop r.2)).1 then Y ((Hm D (dop r.2)).2,r.1)else dN:=by
 rw[CJ,aJ h,aJ h2];cases dop r.2 with
 |none=>rfl
 |some o=>
  simp only[Hm];split<;>rfl
theorem dA8{o:Option Rq}(h:(Hm D o).1=dF):(Hm D o).2=D:=by
 cases o with
 |none=>rfl
 |some o=>
  simp only[Hm]at h⊢;split at h<;>simp_all
theorem dz0{SB NB HB UB:iN}(h:O (PS w0 w b bs bn D SB NB HB UB)){q:Int}(hG:O (GQ D q))(en:Le rs n)(hn:n<=2^21)(hR:O (KJ w p rs))(hg:O (∀r∈rs,Xy r))(hM:O (ML w0))(hT:O (uz w0))(dop:LI->Option Rq)(hd:O (∀l,zx l (dop l))){R:SD×Int}(eR:O (uj dop D q rs=R)):dQ dG 126 #[Pz b,.S p n c,.U q] w (StP w0 w b bs bn R.1 (.U R.2)):=by
 go_in;go_wp2
 go_loopw[2,11](λqv iv wr=>∃(j:Nat)(q1:Int)(M:SD)(SB NB HB UB:iN),j<=n/\qv=.U q1/\iv=.I j/\O (uj dop M q1 (jD j rs)=R/\GQ M q1)/\O (PS w0 wr b bs bn M SB NB HB UB)/\O (Fr T3 w wr)) (λ_ iv _=>n-(jN (intOf iv)))
 exact⟨0,q,D,SB,NB,HB,UB,de _,rfl,rfl,ai ⟨by rw[yF];exact ae eR,hG⟩,h,ai (Fr.refl _ _)⟩;{
 obtain⟨j,q1,M,SB1,NB1,mW,UB1,hj,rfl,rfl,N,HP,HF⟩:=hrel;by_cases aH:j<n;{
 have dm:=cM j n;let⟨r,hr⟩:=qH (ae en▸aH);have kq:=ae hg r (bq hr);obtain⟨rb,ro,rq,rd,rfl,c0,c1,tb,ad,cp⟩:=(hR.T HF).at hr;obtain⟨s,y⟩:=r;simp only at c0 c1 tb cp;have s0:0<=s:=kq.2.2.1;have s1:s<2^64:=kq.2.2.2;let⟨m,em⟩:=cg (J y);rw[ae em]at c1 tb cp;have hm:m<=1000:=ae em▸kq.2.1;have q9:=N.2.2.2;have wj:jY jV ((j:Int)+1)=((j+1:Nat):Int):=by rw[nW _ af];omega
 let⟨W,hW,bW,zW,CW,GC⟩:=cR wr #[.U s,.S rq m rd] 92;have HBK:=ai GC;have d0:=CW.1 0 _ rfl;have d1:=CW.1 1 _ rfl;have V:=gJ (HP.H bW) (HF.Z (Fr.H (T:=T3) bW)) (tb.1.H bW) (ad.size bW.size);have HS:=eG hr kq.1 kq;clear kq tb ad bW zW CW hr GC;subst hW;by_cases h1:s<=q1;{have Z:O (uj dop M q1 (jD (j+1) rs)=R/\GQ M q1):=⟨by rw[<-N.1,ar1 HS.1 (bT2 h1)],N.2⟩;go_wp2;go_roundw;exact⟨j+1,q1,M,_,_,_,_,af,rfl,by go_num,Z,V.1,V.2.1⟩;exact dy};{
 have H1:O (q1<s):=by show _<_;omega
 go_wp21
 refine(cD8 s0 s1 N.2.2.1 af).h ?_;rintro z9 w2⟨rfl,rfl⟩;by_cases h2:s=q1+1;{
 have hf:uH q1 s:=by simp[uH,h2];omega
 rw[hf];have H2:=ai h2;clear h2 hf;by_cases h3:2^62<s;{have Z:O ((M,q1)=R):=ai (by rw[<-N.1,Vj HS.1 (aR3 (by have:=ae H1;simp only;omega) (.R h3))]);cases ae Z;go_wp2;go_ret;exact⟨_,_,_,_,rfl,V.1,V.2.1⟩};{
 have ur:=bT3 (dop:=dop) (D:=M) (q:=q1) (r:=(s,y)) (by have:=ae H1;simp only;omega) (show¬((s,y).1≠q1+1\/4611686018427387904<(s,y).1)from by rw[JC];exact⟨λh=>h H2,h3⟩);let⟨X,eX⟩:=cg (Hm M (dop y));simp only at ur;rw[ae eX]at ur
 change O _ at ur
 go_wp21
 refine(dz3 V.1 N.2.1 em V.2.2.1 HS.2.1 hm cp V.2.2.2 (hM.H V.1.be) (ai λk h1 h2=>(ae hT k h1 h2).H V.1.be) (ae hd y) eX).h ?_;rintro z9 w3⟨SB2,NB2,oF,UB2,rfl,P3,F3⟩;let⟨XG,HF3⟩:=aQ P3 (V.2.1.Z F3);have d3:=cI (F3.2 _ _ _ _ bf HBK) 0;clear d0 d1;clear P3 F3;obtain⟨B,D2⟩:=X;cases B with
 |false=>
  have Z:O ((M,q1)=R):=ai (by rw[<-N.1,Vj HS.1 (by rw[ae ur];rfl)]);cases ae Z;have eD:D2=M:=by have:=dA8 (D:=M) (o:=dop y) (by rw[ae eX]);rw[ae eX]at this;exact this
  rw[eD]at XG;clear eD N;go_wp2;go_ret;exact⟨_,_,_,_,rfl,XG,HF3⟩
 |true=>
  have cK:CJ dop M q1 (s,y)=Y (D2,s):=by rw[ae ur];rfl
  have Z:O (uj dop D2 s (jD (j+1) rs)=R/\GQ D2 s):=⟨by rw[<-N.1,ar1 HS.1 cK],aR2 hd N.2 HS.2.2 cK⟩;clear cK;go_wp2;go_roundw;exact⟨j+1,s,D2,_,_,_,_,af,rfl,by go_num,Z,XG,HF3⟩;exact dy}};{
 have hf:uH q1 s=dF:=by simp[uH,h2]
 rw[hf];have Z:O ((M,q1)=R):=ai (by rw[<-N.1,Vj HS.1 (aR3 (by have:=ae H1;simp only;omega) (.L h2))]);cases ae Z;go_wp2;go_ret;exact⟨_,_,_,_,rfl,V.1,V.2.1⟩}}};{have dm:=ga j n;have ejn:j=n:=af;have Z:O ((M,q1)=R):=ai (by rw[<-N.1,ejn,<-ae en,bZ0]);cases ae Z;clear N;go_wp2;go_ret;exact⟨_,_,_,_,rfl,HP,HF⟩}}
theorem VD.IG(h:VD D):AW D.E D.N:=PF h.ok h.ig h.dr
theorem do7{SB NB HB UB:iN}(i:VD D)(h:PS w0 w b bs bn D SB NB HB UB):dQ dG 75 #[Pz b] w λr w'=>∃p c q d,r=dR (cO D.e D.g D.x D.t (.S p (J D.E) c) (.S q (J D.N) d))/\pW (U (Q w)) w' p (J D.E) c q (J D.N) d D.E D.N/\Bw w w':=
 (ap9 h.Ys i.IG.s1 i.IG.n1 (gq i.sl bf) (gq i.nl bf) i.IG.s2 i.IG.n2).h λr w'⟨p,c,q,d,s,o,e,q1,q2,q3,q4,m,j⟩=>⟨p,c,q,d,e,⟨s,o,q1,q2,q3,q4,m⟩,j⟩
theorem VD.re(h:VD D){d:Int}(q:D.e<=e)(R:e<=2^62)(N:0<=d/\d<=1000015)(B:0<=t/\t<=1000000):VD ⟨e,D.g,D.x,t,D.E.map λs=>(s.1,d,[]),D.N.map qP⟩:=by
 have r:ji (D.E.map λs=>(s.1,d,[]))=ji D.E:=by unfold ji;rw[uI];rfl
 have S:qO (D.N.map qP)=qO D.N:=by unfold qO;rw[uI];rfl
 refine⟨⟨Int.le_trans h.e.1 q,R⟩,h.g,h.x,B,by show J (List.map _ _)<=_;rw[iC];exact h.sl,by show J (List.map _ _)<=_;rw[iC];exact h.nl,?_,λs E=>?_,?_,λW V=>?_⟩;{show List.Pairwise _ (ji (D.E.map _));rw[r];exact h.s1};{obtain⟨y,m,rfl⟩:=fM.1 E;exact⟨(h.s2 y m).1,N,rfl,λe he=>by cases he⟩};{show List.Pairwise _ (List.map _ (D.N.map qP));rw[uI];exact h.n1};{obtain⟨y,m,rfl⟩:=fM.1 V;have j:=(h.n2 y m).dA q (Gp _);show NV _ _ (ji (D.E.map _)) (qO (D.N.map qP)) _;rw[r,S];exact⟨j.ep,j.vp,j.pb,j.cp,j.va,j.vb,j.ow,j.h1,j.h2,List.Pairwise.nil,(λi M=>by cases M),j.lk⟩}
variable {S:iP}
theorem dy7{iZ:iE}{a:Act}(i5 i6 t2 t3 d1 d2:Nat){ps ps':String}(nj:Region.ready md ops listed=[i5])(iK:Region.ready md ops (jI listed i5 dY)=[i6])(tF:Region.ready md ops (jI (jI listed i5 dY) i6 dY)=[])(vo:ops[i5]?=Y {dst:=dN,op:=Op.store 44 (Operand.tmp t2) (Operand.tmp d1),type:=0,pos:=ps,after:=A5,guard:=dN})(ho6:ops[i6]?=Y {dst:=dN,op:=Op.store 50 (Operand.tmp t3) (Operand.tmp d2),type:=0,pos:=ps',after:=A6,guard:=dN})(b1 b2:Nat)(e g x t:Int)(p:OA)(n c:Nat)(q:OA)(m d:Nat)(k i h s z:Int)(dp:OA)(dn dc:Nat)(np:OA)(nn nc:Nat)(vp:OA)(vn vc:Nat){o0 o1 o2 o3 o4 o5 r0 r1 r2 r3 r4 r5 r6 r7:dV}(e2:a.tmps[t2]?.getD jQ=Pz b1)(e3:a.tmps[d1]?.getD jQ=cO e g x t (.S p n c) (.S q m d))(e4:a.tmps[t3]?.getD jQ=Pz b2)(e5:a.tmps[d2]?.getD jQ=ij k i h s z (.S dp dn dc) (.S np nn nc) (.S vp vn vc))(h1:BX w b1 [o0,o1,o2,o3,o4,o5])(h2:RX w b2 [r0,r1,r2,r3,r4,r5,r6,r7])(Tu:b1≠b2)(hB:B<=b1/\B<=b2)(qE:∀w',(∀y,y≠b1->y≠b2->w'.heap[y]?=w.heap[y]?)->S w')(hQ:∀w',BX w' b1 [.U e,.U g,.U x,.I t,.S p n c,.S q m d]->RX w' b2 [.I k,.U i,.U h,.U s,.I z,.S dp dn dc,.S np nn nc,.S vp vn vc]->Below B w w'->(∀y,y≠b1->y≠b2->w'.heap[y]?=w.heap[y]?)->iZ .normal a w'):wpAnyH dG md ops iZ S 2 listed a w:=by
 refine VA nj al (Vz vo (λKK hK=>?_) fN);let⟨k0,k1,k2,k3,k4,k5,kf⟩:=h1.cells;go_simp;let⟨X,hX⟩:=aF (gL w b1 (.U e) (.U g) (.U x) (.I t) (.S p n c) (.S q m d));have bX:Below b1 w X:=hX▸vE _ _ _ _ _ _ _;have kX:∀y,y≠b1->X.heap[y]?=w.heap[y]?:=λy hy=>by rw[hX];exact Hp hy
 have pK:=h1.put (.U e) (.U g) (.U x) (.I t) (.S p n c) (.S q m d);rw[<-hX]at pK;have Ql:=h2.dt (kX b2 (λe=>Tu e.C));unfold gL at hX;rw[<-hX];refine hK.out _ _ (qE X (λy h1 _=>kX y h1)) (λhS=>?_);clear hK KK hX k0 k1 k2 k3 k4 k5 kf;refine VA iK al (Vz ho6 (λKK hK=>?_) fN);let⟨k0,k1,k2,k3,k4,k5,k6,k7,kf⟩:=Ql.cells;go_simp;obtain⟨GZ,-⟩:=Ql.put (.I k) (.U i) (.U h) (.U s) (.I z) (.S dp dn dc) (.S np nn nc) (.S vp vn vc);have bY:=rT (w:=X) (b:=b2) (v0:=.I k) (v1:=.U i) (v2:=.U h) (v3:=.U s) (v4:=.I z) (v5:=.S dp dn dc) (v6:=.S np nn nc) (v7:=.S vp vn vc);let⟨iY,hY⟩:=aF (nH X b2 (.I k) (.U i) (.U h) (.U s) (.I z) (.S dp dn dc) (.S np nn nc) (.S vp vn vc));have kY:∀y,y≠b1->y≠b2->iY.heap[y]?=w.heap[y]?:=λy h1 h2=>by rw[hY,NC h2];exact kX y h1
 have UN:BX iY b1 [.U e,.U g,.U x,.I t,.S p n c,.S q m d]:=pK.dt (hY▸NC Tu);rw[<-hY]at GZ bY;unfold nH gL at hY;rw[<-hY];refine hK.out _ _ (qE iY kY) (λhS=>?_);clear hK KK hY;refine Zc tF ?_ _;exact hQ iY UN GZ ((bX.h hB.1).Z (bY.h hB.2)) kY
def IA(B:Nat)(w':G)(r:Ending)(D:SD)(R:RP):Prop:=∃p c q d v j i,r=dR (dT #[cO D.e D.g D.x D.t (.S p (J D.E) c) (.S q (J D.N) d),v])/\(B<=j/\B<=U (Q i))/\tY j i v R/\U (Q i)<=U (Q w')/\(∀b,j<=b->b<U (Q i)->w'.heap[b]?=i.heap[b]?)/\pW (U (Q i)) w' p (J D.E) c q (J D.N) d D.E D.N
def CT(w1 wc:G)(b bs bn u D:Nat)(A:SD×RP):Prop:=∃y NB B x o s m r j q,PS w1 wc b bs bn A.1 y NB B x/\RX wc u [.I A.2.k,.U A.2.i,.U A.2.e,.U A.2.g,.I A.2.n,.S o (J A.2.lW) s,.S m (J A.2.iB) r,.S j (J A.2.kF) q]/\tY D wc (ij A.2.k A.2.i A.2.e A.2.g A.2.n (.S o (J A.2.lW) s) (.S m (J A.2.iB) r) (.S j (J A.2.kF) q)) A.2
theorem ee5(w:G)(i:Nat)(q o m j:Obj)(v:dV)(r:i<U (Q w)):Below i w (jS ((((w.alloc q).alloc o).alloc m).alloc j) (Ad i 0) v):=
 ((((((bD i w).alloc af q).alloc bL o).alloc bL m).alloc bL j).setCell (p:=(Ad i 0)) aU v)
theorem eV5(C:Int)(i:Nat)(w:G)(q:I w (Ad 1 0)=Y (.iface 319 (jP #[dP (Ad 5 177)])))(j:I w (Ad i 0)=dI 0)(s:jF w (Ad i 0)=dF)(B:Bool)(o:O (dD (C≠0)=B)):Cp 136 #[sC C,.iface 181 (Pz i)] w λr w'=>r=dR (jO B)/\Below i w w'/\I w' (Ad i 0)=dI C:=by
 by_cases m:C=0;{subst m;cases(by rw[<-ae o];simp:B=dF);refine(eV3 _ w).h ?_;rintro r w'⟨rfl,rfl⟩;exact⟨rfl,bD _ _,j⟩};{cases(by rw[<-ae o];simp[m]:B);rw[sC,aJ m];refine(eV4 i C _ w q j s).h ?_;rintro r w'⟨rfl,rfl⟩;refine⟨rfl,ee5 w i _ _ _ _ _ (my w _ j),Zd _ _ _ ?_⟩;rw[aq j ((((bD (U (Q w)) w).alloc aU _).alloc al _).alloc bL _ |>.alloc bL _)];rfl}
theorem dV8(e g x t:Int)(p:OA)(n c:Nat)(q:OA)(m d:Nat)(ss:List aB)(ns:List au)(en:Le ss n)(em:Le ns m)(K S F E iG:Int)(pp:OA)(np cp:Nat)(pq:OA)(nv cv:Nat)(P V:LI)(eP:Le P np)(eV:Le V nv)(w:G)(h:O (nM w (.S p n c) ss))(hN:O (iw w (.S q m d) ns))(hP:O (Rd w (.S pp np cp) P))(hV:O (Rd w (.S pq nv cv) V))(hn:Mg n)(hm:Mg m)(hp:np<=2^20)(gm:np<=cp)(im:O (cp<=maxLen))(ig:O (Bs ss))(dr:O (Bn ns))(tG:O (Bu ns))(yQ:O (Bo ns))(rI:O (ML w))(bp5:O (uz w))(hEr:O (I w (Ad 1 0)=Y (.iface 319 (jP #[dP (Ad 5 177)]))))(bP:O (aD P))(hS:O (0<=S/\S<2^64))(WN:O (0<=g/\0<=x))(R:SD×RP)(eR:O (AP e g x t ss ns K S F E iG P V=R))(ei6:O (∀(w1 N:G)(b bs bn:Nat)(SB NB HB UB:iN),tZ w1 N b bs bn ⟨e,g,x,t,ss,ns⟩ SB NB HB UB S F E iG pp np cp pq nv cv P V->Cp 135 #[Pz b,nI K S (.S pp np cp) F (.S pq nv cv) E iG] N (zG w1 N b bs bn ⟨e,g,x,t,ss,ns⟩ (kG ⟨e,g,x,t,ss,ns⟩ K S F E iG P V))))(hAF:O (nT e g x t ss ns->Fd 51 (kG ⟨e,g,x,t,ss,ns⟩ K S F E iG P V).1.E (kG ⟨e,g,x,t,ss,ns⟩ K S F E iG P V).1.N)):dQ dG 70 #[cO e g x t (.S p n c) (.S q m d),nI K S (.S pp np cp) F (.S pq nv cv) E iG] w λr w'=>IA (U (Q w)) w' r R.1 R.2/\Bw w w':=by
 let⟨W0,cT,b0,z0,C0⟩:=yj w (.U e) (.U g) (.U x) (.I t) (.S p n c) (.S q m d);obtain⟨W1,fT,b1,z1,C1,-⟩:=cR W0 #[.I K,.U S,.S pp np cp,.I F,.S pq nv cv,.U E,.U iG] 54;let⟨W2,fW,b2,z2,C2⟩:=Cr W1;let⟨W3,ky,b3,z3,C3⟩:=yi W2 (.I 0) (.U 0) (.U 0) (.U 0) (.I 0) aN aN aN;rw[z0]at C1 z1;rw[z1]at C2 z2;rw[z2]at C3 z3;have bW:=aj (aj (aj b0 b1) b2) b3;let⟨HA,BR,Z3⟩:=gC (λ(v:G)(M:Bw W3 v)=>aE (QB.W (⟨((C0.H b1).H b2).H b3,(C1.H af b2).H af b3,C2.H b3,C3⟩) (λj h1 h2=>M.block j af)) (aE (h.H (aj bW M)) (aE (hN.H (aj bW M)) (aE (hP.H (aj bW M)) (aE (hV.H (aj bW M)) (aj bW M)))))) (bD (U (Q W3)) W3) z3;clear b0 b1 b2 b3 C0 C1 C2 C3 bW z3;have hR:=ae eR;unfold AP at hR;let⟨ok,ox⟩:=cg (nT e g x t ss ns);rw[ae ox]at hR
 change O _ at hR
 go_in
 go_wp21
 rw[<-cT,<-fT,<-fW,<-ky];clear cT fT fW ky;refine cL (bh2 en em (ae HA W3 BR).2.1 (ae HA W3 BR).2.2.1 hn hm ig dr tG yQ (rI.H (ae HA W3 BR).2.2.2.2.2) ox) λw1 az=>?_;have B1:=ai az;have Lb:=az.size;have e9:=ae hR;clear az hR;cases ok;{rw[aJ al]at e9;have E9:=ai e9;obtain⟨LW,-,-,-,-,bw⟩:=ae HA w1 B1;let⟨mv,BW⟩:=aQ (show TX w1 (U (Q w)) _ _ _ from⟨LW.1,LW.2.2.1,LW.2.2.2⟩) bw;clear e9 LW bw;let⟨q0,q1,q2,q3,q4,q5,qf⟩:=mv.2.1.cells;let⟨r0,r1,r2,r3,r4,r5,r6,r7,rf⟩:=mv.2.2.cells;go_wp2;let⟨fF,bF⟩:=TX.fin mv (.U 0) (.U 0) (.U 0) (.I 0) aN aN (.I 1) (.U 0) (.U 0) (.U 0) (.I 0) aN aN aN;refine cX (v:=dT #[cO 0 0 0 0 aN aN,ij 1 0 0 0 0 aN aN aN]) (by simp[results,results70,go_sem,q0,q1,q2,q3,q4,q5,r0,r1,r2,r3,r4,r5,r6,r7]) rfl ⟨?_,BW.Z bF⟩;rw[<-ae E9];exact⟨dN,0,dN,0,_,U (Q w),w,rfl,⟨fS _,fS _⟩,tY.num _ _ _ _ _ _ _,(BW.Z bF).size,λb h1 h2=>af,pW.zero _ _⟩};{
 rw[aK rfl]at e9;let⟨E9,HF⟩:=aQ e9 (PF ox ig dr);let⟨LW,r1,r2,r3,r4,bw⟩:=ae HA w1 B1;have BW:=ai bw;obtain⟨i0,i1,i2,i3,i4,i5,-⟩:=LW.1.cells;have HRW:=gJ r1 r2 r3 r4;clear e9 LW bw r1 r2 r3 r4
 go_wp21
 clear i0 i1 i2 i3 i4 i5;refine(Yr en em HRW.1 HRW.2.1 hn hm (ai λs hs=>(HF.s2 s hs).1) HF.s3 dr tG HF.n3).h ?_;rintro r N⟨b,bs,bn,SB,NB,HB,UB,rfl,cK,aA⟩;have B2:=ai (aj B1 aA);obtain⟨LW,-,-,r3,r4,bw⟩:=ae HA N B2;have CX:=ai (show tZ w1 N b bs bn ⟨e,g,x,t,ss,ns⟩ SB NB HB UB S F E iG pp np cp pq nv cv P V from⟨PS.of cK aA HF (ae en▸hn) (ae em▸hm),GD.of ox HF WN.1 WN.2,hS,eP,eV,r3,.L HRW.2.2.2,bP,hp,gm,im,rI.H bw,λk h1 h2=>(ae bp5 k h1 h2).H bw⟩);let⟨o0,o1,o2,o3,o4,o5,o6⟩:=Qe LW.2.1.1;have XU:=ai bw;have z12:=aA.size;clear cK aA LW r3 r4 bw
 go_wp21
 clear o0 o1 o2 o3 o4 o5 o6;refine(ae ei6 _ _ _ _ _ _ _ _ _ CX).h ?_;rintro r u⟨D',R',C,⟨Qi,Qm,zt,Qf,v3,rfl,F3,P3,L3⟩,Kl,-⟩;have F3':=ai F3;have Pf:R=(if C=0 then(D',R')else(⟨e,g,x,t,ss,ns⟩,lD C)):=E9.C.Z Kl;have P3':O (PS w1 u b bs bn R.1 Qi Qm zt Qf):=by rw[Pf];by_cases hC:C=0;{rw[aK hC]at P3⊢;exact P3};{rw[aJ hC]at P3⊢;exact P3}
 obtain⟨W,eRx⟩:∃W,(if C=0 then R' else iS)=W:=⟨_,rfl⟩;rw[eRx]at L3;let⟨HRX,L3'⟩:=aQ (show(C=0->W=R.2)/\(C≠0->lD C=R.2)from⟨λhC=>by rw[<-eRx,Pf,aK hC,aK hC],λhC=>by rw[Pf,aJ hC]⟩) L3;obtain⟨p1,c1,p2,c2,p3,c3,A1,A2,A3,rfl,-⟩:=L3;let⟨n1,uW⟩:=cg (J W.lW);let⟨n2,xr⟩:=cg (J W.iB);let⟨n3,PK⟩:=cg (J W.kF);rw[ae uW,ae xr,ae PK]at L3'⊢;let⟨iY,hY,bY,zY,RY⟩:=yi u (.I W.k) (.U W.i) (.U W.e) (.U W.g) (.I W.n) (.S p1 n1 c1) (.S p2 n2 c2) (.S p3 n3 c3);obtain⟨Z,hZ,bZ,zZ,CZ,-⟩:=cR iY #[.I 0] 107;rw[zY]at CZ zZ;have bwZ:=aj XU ((bD (U (Q N)) N));have hEw:I u (Ad 1 0)=Y (.iface 319 (jP #[dP (Ad 5 177)])):=by exact aq (aq hEr BW) P3'.be
 have HRY:=eG RY bY bZ;have t0:=CZ.1 0 _ rfl;let⟨BC,eBC⟩:=cg (dD (C≠0));have HAS:=ai (eV5 C (U (Q u)+1) Z (aq hEw (bY.Z (bZ.h af))) t0 (CZ.2 0) BC eBC);have Nc:=bG zY zZ;clear F3 Pf Kl P3 eRx RY bY bZ CZ bwZ hEw t0 zY zZ
 go_wp21
 rw[<-hY,<-hZ];clear hY hZ;refine HAS.h ?_;rintro r w4⟨rfl,dz,hf4⟩;let⟨F4,XO,Fw⟩:=gC hf4 ((HRY.2.1.Z (HRY.2.2.h (aM Nc.1))).Z (dz.h af)) ((HRY.1.H HRY.2.2).dt (w':=w4) (dz.block _ (aM Nc.2)));clear dz hf4
 go_upto_if 25 with fail
 go_cut[](λwc=>O (CT w1 wc b bs bn (U (Q u)) (U (Q N)) R)/\O (Bw u wc))
 case first=>(
 cases BC;{
 go_wp21
 go_meet;have eq:=HRX.1 (by have:=ae eBC;simpa using this);refine⟨ai ⟨Qi,Qm,zt,Qf,p1,c1,p2,c2,p3,c3,P3'.H XO,?_,?_⟩,XO⟩;{rw[<-eq,ae uW,ae xr,ae PK];exact Fw};{rw[<-eq,ae uW,ae xr,ae PK];exact L3'.W (λz _ h2=>XO.block z h2) XO.size}};{
 let⟨r0,r1,r2,r3,r4,r5,r6,r7,rf⟩:=Fw.cells;have f4:=ae F4
 go_wp21
 go_meet;have eq:=HRX.2 (by have:=ae eBC;simpa using this);refine⟨ai ⟨Qi,Qm,zt,Qf,dN,0,dN,0,dN,0,?_,?_,?_⟩,ai (XO.Z (rT))⟩;{exact(P3'.H XO).rep Fw (aM P3'.be.size) _ _ _ _ _ _ _ _};{rw[<-eq];exact(Fw.put _ _ _ _ _ _ _ _).1};{rw[<-eq];exact tY.num _ _ _ _ _ _ _}})
 case rest=>(
 obtain⟨OQ,tM⟩:=hcut;let⟨SB9,NB9,HB9,UB9,y1,d1,y2,d2,y3,d3,P9,R9,L9⟩:=ae OQ;let⟨m1,em1⟩:=cg (J R.2.lW);let⟨m2,em2⟩:=cg (J R.2.iB);let⟨m3,em3⟩:=cg (J R.2.kF);rw[ae em1,ae em2,ae em3]at R9 L9;have hFS:=ae hAF ox;rw[ae E9]at hFS;have Qz:=ai hFS;have HP9:=eG P9 R9 L9;clear P9 R9 L9 hFS OQ
 go_wp21
 let⟨vA,br⟩:=aF wc.drew;have bA:=kH br;let⟨uF,SA⟩:=aQ bA (λ(v:G)(M:RX v (U (Q u)) [.I R.2.k,.U R.2.i,.U R.2.e,.U R.2.g,.I R.2.n,.S y1 m1 d1,.S y2 m2 d2,.S y3 m3 d3])=>(aE M.cells.1 (aE M.cells.2.1 (aE M.cells.2.2.1 (aE M.cells.2.2.2.1 (aE M.cells.2.2.2.2.1 (aE M.cells.2.2.2.2.2.1 (aE M.cells.2.2.2.2.2.2.1 M.cells.2.2.2.2.2.2.2.1)))))):I v (Aw u 0)=dI R.2.k/\I v (Aw u 1)=dU R.2.i/\I v (Aw u 2)=dU R.2.e/\I v (Aw u 3)=dU R.2.g/\I v (Aw u 4)=dI R.2.n/\I v (Aw u 5)=dS y1 m1 d1/\I v (Aw u 6)=dS y2 m2 d2/\I v (Aw u 7)=dS y3 m3 d3));refine fw (λv=>I v (Aw u 0)=dI R.2.k/\I v (Aw u 1)=dU R.2.i/\I v (Aw u 2)=dU R.2.e/\I v (Aw u 3)=dU R.2.g/\I v (Aw u 4)=dI R.2.n/\I v (Aw u 5)=dS y1 m1 d1/\I v (Aw u 6)=dS y2 m2 d2/\I v (Aw u 7)=dS y3 m3 d3) (br▸ae SA vA (HP9.2.1.H bA)) λhS=>?_;rw[<-br]at hS⊢;clear br bA;refine fu 0 2 hS ?_;refine fy 1 λKK hK=>?_;refine Jr aY aY aY (λ_=>(λ(vs:iA)(w:G)=>show(callFunc 75 vs).run dG w=.ok (.enter 75 vs) w by kernel_rfl) _ _) (ap9 (HP9.1.H uF).Ys Qz.s1 Qz.n1 (aM Qz.sl) (aM Qz.nl) (ai λs hs=>⟨(Qz.s2 s hs).1,aM (Qz.s2 s hs).2.1,λe he=>aM ((Qz.s2 s hs).2.2 e he)⟩) (ai λnd aI=>by let⟨f1,f2,f3,f4,f5,f6,f7⟩:=Qz.n2 nd aI;exact⟨f1,af,af,af,af,f6,f7⟩)) ?_
 rintro r v2⟨p',c',q',d',A1',A2',rfl,s1,s2,s3,s4,s5,eh⟩;refine fE ?_;let⟨kJ,B5,BC5⟩:=gC (show pW (U (Q vA)) v2 p' (J R.1.E) c' q' (J R.1.N) d' R.1.E R.1.N from⟨A1',A2',s1,s2,s3,s4,s5⟩) eh (aj tM (aj uF eh));refine bS hK (SA v2 (HP9.2.1.H (aj uF eh))) λhS=>?_;clear hK KK s1 s2 s3 s4 s5 eh;have LQ2:=(ae HA N B2).1;have zz1:=ae Z3;have zz2:=F3'.1;refine dy7 3 4 4 5 30 31 aS aS aS rfl rfl (U (Q w)+1+1) (U (Q w)+1+1+1) R.1.e R.1.g R.1.x R.1.t p' (J R.1.E) c' q' (J R.1.N) d' R.2.k R.2.i R.2.e R.2.g R.2.n y1 m1 d1 y2 m2 d2 y3 m3 d3 rfl rfl rfl rfl ((LQ2.2.2.1.T F3').H BC5) ((LQ2.2.2.2.T F3').H BC5) (B:=U (Q w)+1+1) af ⟨fS _,af⟩ (λv M=>ae SA v ((HP9.2.1.H (aj uF B5)).dt (M _ af af))) ?_;intro w' az nj bl hk;refine AJ ?_;let⟨q0,q1,q2,q3,q4,q5,qf⟩:=az.cells;let⟨r0,r1,r2,r3,r4,r5,r6,r7,rf⟩:=nj.cells;have HBL:=bG bl hk;clear hS LQ2 az nj bl hk;go_wp2;refine cX (v:=dT #[cO R.1.e R.1.g R.1.x R.1.t (.S p' (J R.1.E) c') (.S q' (J R.1.N) d'),ij R.2.k R.2.i R.2.e R.2.g R.2.n (.S y1 m1 d1) (.S y2 m2 d2) (.S y3 m3 d3)]) (by simp[results,results70,go_sem,q0,q1,q2,q3,q4,q5,r0,r1,r2,r3,r4,r5,r6,r7]) rfl ⟨⟨p',c',q',d',_,U (Q N),vA,rfl,⟨XU.size,by have:=XU.size;have:=uF.size;have:=tM.size;omega⟩,?_,?_,?_,?_⟩,?_⟩;{exact HP9.2.2.W (λz _ h2=>uF.block z h2) uF.size};{exact gq B5.size HBL.1.size};{intro z h1 h2;exact(HBL.2 z af af).Z (B5.block z h2)};{exact kJ.W (λz h1 h2=>HBL.2 z (by have:=uF.size;have:=tM.size;omega) (by have:=uF.size;have:=tM.size;omega))};{have h1:=BW.Z (P3'.be.h BW.size);exact(h1.Z (BC5.h h1.size)).Z (HBL.1.h af)})}
theorem dV9(e g x t:Int)(p:OA)(n c:Nat)(q:OA)(m d:Nat)(ss:List aB)(ns:List au)(en:Le ss n)(em:Le ns m)(K S F E iG:Int)(pp:OA)(np cp:Nat)(pq:OA)(nv cv:Nat)(P V:LI)(eP:Le P np)(eV:Le V nv)(w:G)(h:O (nM w (.S p n c) ss))(hN:O (iw w (.S q m d) ns))(hP:O (Rd w (.S pp np cp) P))(hV:O (Rd w (.S pq nv cv) V))(hn:Mg n)(hm:Mg m)(hp:np<=2^20)(gm:np<=cp)(Z:O (cp<=maxLen))(u:O (Bs ss))(B:O (Bn ns))(W:O (Bu ns))(N:O (Bo ns))(X:O (ML w))(o:O (uz w))(i:O (I w (Ad 1 0)=Y (.iface 319 (jP #[dP (Ad 5 177)]))))(M:O (aD P))(hS:O (0<=S/\S<2^64))(s:O (0<=g/\0<=x))(R:SD×RP)(eR:O (AP e g x t ss ns K S F E iG P V=R)):Cp 70 #[cO e g x t (.S p n c) (.S q m d),nI K S (.S pp np cp) F (.S pq nv cv) E iG] w λr w'=>IA (U (Q w)) w' r R.1 R.2/\Bw w w':=
 dV8 e g x t p n c q m d ss ns en em K S F E iG pp np cp pq nv cv P V eP eV w h hN hP hV hn hm hp gm Z u B W N X o i M hS s R eR (ai λ_ _ _ _ _ _ _ _ _ cx=>cN4 cx) (ai λj=>by have hF:=PF j u B;have y:=GD.of j hF s.1 s.2;exact(AF.apply (K:=K) (S:=S) (F:=F) (E:=E) (iG:=iG) (V:=V) (Fd.of j hF) y.wf.x y.sx M).1)
variable {xs:List LI}
theorem TN.rdt(h:TN B w v xs):AL w v xs:=by
 obtain⟨p,c,rfl,-,-,o⟩:=RT.form h;refine⟨p,c,rfl,?_⟩;by_cases j:xs=[];{exact .L j};{obtain⟨g,rfl⟩:=o (NS.2 j);refine .R ⟨g,0,rfl,λi x q=>?_⟩;obtain⟨s,-,⟨P,r,m⟩,hc,-⟩:=RT.at h q;subst r;exact⟨P,by have:=hc 0 _ rfl;simpa using this,m.1⟩}
theorem dL2(k s f e g:Int)(p q:OA)(n m c d:Nat)(P V:LI)(j A2:List Lf)(K:Int)(w:G)(h1:oz (.S p n c) P j)(h2:oz (.S q m d) V A2)(hA:fk w (j++A2))(K0:0<=K)(hn:K+((J j+J A2:Nat):Int)<=10^8):dQ dG 14 #[mG k s (.S p n c) f (.S q m d) e g,.I K] w λr w'=>r=dR (.I (K+((J j+J A2:Nat):Int)))/\Mk w w' (j++A2) K:=by
 let⟨L1,x⟩:=cg (J j);let⟨N,X⟩:=cg (J A2);rw[ae x,ae X]at hn⊢;obtain⟨y,Ks⟩:∃y:Int,K+(L1:Int)=y:=⟨_,rfl⟩;have i:=ai (fk.app.1 hA);have EF:O (K+((L1+N:Nat):Int)=y+N):=ai (by push_cast;omega);have qF:y+N<=10^8:=aM (ae EF);rw[ae EF];have H1:=bG h1 h2;obtain⟨W,E,M,zW,R,-⟩:=cR w #[.I k,.U s,.S p n c,.I f,.S q m d,.U e,.U g] 54;have HC:=ai (R.1 4 _ rfl);have c2:=R.1 2 _ rfl;rw[E]at c2;clear hA h1 h2 R;go_in
 go_wp21
 rw[<-E];clear E c2;refine(Rf H1.1 (i.1.H M) K0 (by rw[ae x];omega)).h ?_;rintro r w1⟨rfl,B⟩;have y4:=B.head (i.1.H M) HC;have M1:=ai (by have:=(Mk.tj M K).Z (by simpa using B) (fk.nil _) i.1;simpa using this:Mk w w1 j K);rw[ae x,Ks];clear B
 go_wp21
 clear y4;refine(Rf H1.2 (i.2.mk M1 i.1) af (by rw[ae X];omega)).h ?_;rintro r w2⟨rfl,Z⟩;have M2:=ai (M1.trans' Z (by rw[ae x,Ks]) i.1 i.2);rw[ae X];clear Z;exact aV
theorem rQ.gy(h:rQ w v xs A):J A=jy (λx=>J x) xs:=uC.gy (λx:LI=>J x) h λx b a l i=>by
 obtain⟨p,c,-,j⟩:=i;exact oz.gy j
end Go.Proofs.YthlkmijffhhimaaGreatDoor
