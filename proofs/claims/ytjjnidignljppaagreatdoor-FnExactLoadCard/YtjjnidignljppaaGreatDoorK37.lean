import Derived.Test.YtjjnidignljppaaGreatDoorK32
import Derived.Test.YtjjnidignljppaaGreatDoorK34
import Derived.Test.YtjjnidignljppaaGreatDoorK36
import Derived.Test.YtjjnidignljppaaGreatDoorK35
namespace Go.Proofs.YtjjnidignljppaaGreatDoor
set_option maxHeartbeats 3200000
set_option linter.all false
set_option maxRecDepth 100000
open Go.ChangeShapes Go.WideShapes Go.ChangeAt Go.RowKit Go.Deep
variable {B b bn bs d j:Nat}{D:SD}{P V l:LI}{p:OA}{rs:List R1}{w0:World}
def VD.idr(h:VD D){i:Int}(hi:i∈oI D.ss):1<=i/\i<=4611686018427387904:=by
 obtain⟨s,hs,rfl⟩:=iJ.1 hi;have h1:=(h.s2 s hs).1;have h2:=h.x;exact⟨h1.1,ae⟩
def VD.qi(h:VD D):∀s∈D.ss,s.2.2.length<=1048576/\∀e∈s.2.2,aM e.2/\e.2.length<=1048576:=fun s hs=>by
 obtain⟨q1,q2⟩:=(h.s2 s hs).q;exact⟨ae,fun e he=>⟨(q2 e he).1,by have:=(q2 e he).2;omega⟩⟩
def VD.fS(h:VD D):∀nd∈D.ns,aM nd.path/\nd.path.length<=1048576/\nd.value.length<=1048576/\nd.holders.length<=1048576/\nd.watchers.length<=1048576:=fun nd br=>by
 have hn:=h.n2 nd br;have a1:=Aa hn.vp;have a2:=hn.va;have a3:=h.ids hn.h1 hn.h2;have a4:nd.watchers.length=0:=by rw[hn.w1];rfl
 exact⟨hn.pb,ae,ae,ae,ae⟩
def VD.OJ(h:VD D):∀nd∈D.ns,(∀i∈nd.holders,0<=i/\i<18446744073709551616)/\∀i∈nd.watchers,0<=i/\i<18446744073709551616:=fun nd br=>
 ⟨fun i hi=>by have:=h.idr ((h.n2 nd br).h2 i hi);omega,fun i hi=>by have:=h.idr ((h.n2 nd br).w2 i hi);omega⟩
def VD.ap(h:VD D)(K S F E G:Int)(P V:LI):AP D.e D.g D.x D.t D.ss D.ns K S F E G P V=fx D K S F E G P V:=by
 unfold AP;rw[bN h.ok]
def TB.bU2{w:World}{v:Value}(h:TB w v l):∃p c,v=.S p l.length c:=by
 obtain⟨p,c,e,-⟩:=h.1;exact⟨p,c,e⟩
def aM1(hd:VD D){n c:Nat}{q:OA}{m:Nat}(en:Hid (D.ss.length=n))(em:Hid (D.ns.length=m)){K S F E G:Int}{pp:OA}{np cp:Nat}{pq:OA}{nv cv:Nat}(eP:Hid (P.length=np))(eV:Hid (V.length=nv)){w:World}(h:yZ w (.S p n c) D.ss)(hN:qz w (.S q m d) D.ns)(hP:Rd w (.S pp np cp) P)(hV:Rd w (.S pq nv cv) V)(hp:np<=1048576)(hv:nv<=1048576)(iD:np<=cp)(js:cp<=maxLen)(bP:aM P){R:SD×RP}(hj:K=1\/K=3\/K=4\/K=5\/K=7\/K=8\/K=9)(eR:Hid (fx D K S F E G P V=R)):Calls Tryz.prog 19 #[gh D.e D.g D.x D.t (.S p n c) (.S q m d),GF K S (.S pp np cp) F (.S pq nv cv) E G] w fun r w'=>QR w.heap.size w w' r R.1 R.2:=by
 have hn:n<=50:=by rw[<-aa en];exact hd.sl
 have hm:m<=200:=by rw[<-aa em];exact hd.nl
 exact QO en em eP eV (af h) (af hN) (af hP) (af hV) ae ae hp hv iD js (af hd.qi) (af hd.fS) (af fun _=>hd.wf) (af bP) hj (by show _=_;rw[hd.ap];exact aa eR)
def il.rdc{w:World}{p q:OA}{n c m d:Nat}{ss:List aR}{ns:List aB}(h:il B w p n c q m d ss ns):nI w (.S p n c) ss/\qz w (.S q m d) ns:=by
 obtain⟨A1,A2,h1,h2,-⟩:=h;exact⟨h1,h2⟩
def R1G(r:R1):Prop:=aM r.2/\r.2.length<=1000/\0<=r.1/\r.1<18446744073709551616
def Vq(hB:aM l){r:R1}(h:ke l=some r):R1G r:=by
 obtain⟨s,b⟩:=r;obtain⟨h1,h2,-,h4,h5,-⟩:=rF hB h;have hn:=ki (hB.sub 2 10) (by simp[sub];omega);refine⟨?_,h2,?_,?_⟩;{show aM b;rw[h5];exact hB.sub _ _};{show 0<=s;rw[h4];exact hn.1};{show s<_;rw[h4];exact hn.2}
theorem Tp:∀(f:Nat){l:LI},aM l->∀r:R1,some r∈yl f l->R1G r
 |0,l,hB,r,h=>by simp[yl]at h
 | f+1,l,hB,r,h=>by
  cases hr:ke l with
  |none=>rw[JD hr]at h;simp at h
  |some x=>
   rw[rY hr]at h;rcases jA.1 h with h|h;{cases h;exact Vq hB hr};{exact Tp f (hB.drop _) r h}
theorem UK:∀(t:Option Int)(L:List (Option R1))(r:R1),r∈FQ t L->some r∈L
 |_,[],r,h=>by simp[FQ]at h
 |_,none::_,r,h=>by simp[FQ]at h
 |t,some x::L,r,h=>by rw[FQ]at h;split at h;{rcases jA.1 h with h|h;{rw[h];simp};{exact List.mem_cons_of_mem _ (UK _ L r h)}};{simp at h}
def Dm(hB:aM l):∀r∈rl l,R1G r:=fun r h=>Tp _ hB r (UK _ _ r h)
abbrev Rq:=Nat×Nat×Nat×LI×LI
def Iv.jo{k s:Nat}{f:Nat}(h:Iv l k s P f V):(k:Int)=1\/(k:Int)=3\/(k:Int)=4\/(k:Int)=5\/(k:Int)=7\/(k:Int)=8\/(k:Int)=9:=by
 obtain⟨h1,h2,-,-,-,h6,-⟩:=h;rcases kinds h1 h2 with rfl|rfl|rfl|rfl|rfl|rfl|rfl|rfl|rfl|rfl|rfl|rfl|rfl<;>first|omega|cases h6
def uK(l:LI):Option Rq->Prop
 |none=>∀K S P F V,¬Iv l K S P F V
 |some o=>Iv l o.1 o.2.1 o.2.2.2.1 o.2.2.1 o.2.2.2.2
def aW9:∃dop:LI->Option Rq,∀l,uK l (dop l):=by
 refine Classical.axiomOfChoice (r:=fun l o=>uK l o) fun l=>?_;by_cases h:∃K S P F V,Iv l K S P F V;{obtain⟨K,S,P,F,V,h⟩:=h;exact⟨some (K,S,F,P,V),h⟩};{exact⟨none,fun K S P F V hd=>h ⟨K,S,P,F,V,hd⟩⟩}
def Iv.byt{K S F:Nat}(h:Iv l K S P F V)(hb:aM l):aM P/\aM V:=by
 obtain⟨_,_,_,_,_,_,e⟩:=h;rw[e,Dq,tx,tx]at hb;exact⟨fun z hz=>hb z (by simp[hz]),fun z hz=>hb z (by simp[hz])⟩
abbrev apL(D:SD)(o:Rq):SD×RP:=fx D o.1 o.2.1 o.2.2.1 0 0 o.2.2.2.1 o.2.2.2.2
def qd(dop:LI->Option Rq)(D:SD)(q:Int)(r:R1):Option (SD×Int):=
 if r.1<=q then some (D,q)
 else if r.1≠q+1\/4611686018427387904<r.1 then none
 else match dop r.2 with
  |none=>none
  |some o=>if(apL D o).2.k=0 then some ((apL D o).1,r.1)else none
def mV(dop:LI->Option Rq):SD->Int->List R1->SD×Int
 |D,q,[]=>(D,q)
 |D,q,r::rs=>match qd dop D q r with
  |none=>(D,q)
  |some x=>mV dop x.1 x.2 rs
def nL{dop:LI->Option Rq}{q:Int}{r:R1}(hr:rs[j]?=some r)(h:qd dop D q r=none):mV dop D q (rs.drop j)=(D,q):=by
 obtain⟨hj,e⟩:=aT.1 hr;rw[Rm hj,e,mV,h]
def uT{dop:LI->Option Rq}{q:Int}{r:R1}{x:SD×Int}(hr:rs[j]?=some r)(h:qd dop D q r=some x):mV dop D q (rs.drop j)=mV dop x.1 x.2 (rs.drop (j+1)):=by
 obtain⟨hj,e⟩:=aT.1 hr;rw[Rm hj,e,mV,h]
def MZ{dop:LI->Option Rq}{q:Int}:mV dop D q (rs.drop rs.length)=(D,q):=by rw[List.drop_length];rfl
def GQ(D:SD)(q:Int):Prop:=VD D/\0<=q/\q<=4611686018427387904
def DV{dop:LI->Option Rq}(hd:∀l,uK l (dop l)){q:Int}{r:R1}(h:GQ D q)(hr:R1G r){x:SD×Int}(e:qd dop D q r=some x):GQ x.1 x.2:=by
 rw[qd]at e;split at e;{cases e;exact h};{
 split at e;{cases e};{
 next h1 h2=>
 rw[Ey]at h2;have hk:=hd r.2;split at e;{cases e};{
 next o ho=>
 rw[ho]at hk;split at e;{cases e;obtain⟨bP,bV⟩:=Iv.byt hk hr.1;exact⟨h.1.apply bP bV hk.jo,hr.2.2.1,ae⟩};{cases e}}}}
theorem Dj{dop:LI->Option Rq}(hd:∀l,uK l (dop l)):∀(rs:List R1){D:SD}{q:Int},GQ D q->(∀r∈rs,R1G r)->GQ (mV dop D q rs).1 (mV dop D q rs).2
 |[],D,q,h,_=>h
 |r::rs,D,q,h,hr=>by
  rw[mV];cases e:qd dop D q r with
  |none=>exact h
  |some x=>exact Dj hd rs (DV hd h (hr r ai) e) (fun r' h'=>hr r' (by simp[h']))
def xv(l:LI):Option (SD×Int):=
 if l.length=0 then some (⟨0,0,0,0,[],[]⟩,0)
 else if l.length<20 then none
 else if iA (num (sub l 4 12)) (sub l 16 (l.length-4))=l then
  if 4611686018427387904<num (sub l 4 12)then none
  else(dJ (sub l 16 (l.length-4))).map fun r=>(⟨r.1.1,r.1.2.1,r.1.2.2,0,r.2.1,r.2.2⟩,num (sub l 4 12))
 else none
def VD.zero:VD ⟨0,0,0,0,[],[]⟩:=⟨by decide,by decide,by decide,by decide,by decide,by decide,List.Pairwise.nil,(fun s h=>by cases h),List.Pairwise.nil,(fun s h=>by cases h)⟩
theorem XS(hb:aM l)(hl:l.length<=1048576){r:(Int×Int×Int)×List aR×List aB}(h:dJ l=some r):VD ⟨r.1.1,r.1.2.1,r.1.2.2,0,r.2.1,r.2.2⟩:=by
 rw[dJ]at h;cases hr:xM l with
 |none=>rw[hr]at h;cases h
 |some s=>
  rw[hr,yi]at h;split at h;{
 next hc=>
 obtain⟨⟨e,g,x⟩,ss,ns,o⟩:=s;simp only[jU]at h hc;subst h;obtain⟨-,iC,-⟩:=hc;rw[xM]at hr;simp only at hr;have q1:=jM.start (n:=l.length) (l:=l) rfl;have q2:=gQ rfl q1;have q3:=gQ rfl q2;have q4:=gQ rfl q3;have q5:=gQ rfl q4;split at hr;{cases hr};{
 obtain⟨u1,u2⟩:=Ra oV U64 (jM l.length l) (fun s hs=>⟨iS,gQ rfl hs⟩) (oV (oV (oV (oV (some l)).2).2).2).1.toNat _ q5;split at hr;{cases hr};{
 rw[Bt]at hr;obtain⟨⟨r1,r2⟩,h3,h4⟩:=hr;obtain⟨v1,-,-⟩:=uP rfl hb hl _ (gQ rfl u2) h3;simp only[fO]at h4;obtain⟨⟨e1,e2,e3⟩,e4,e5,-⟩:=h4;have hs:∀s∈ss,s.2.2=[]:=fun s hs=>by
  rw[<-e4]at hs;obtain⟨i,-,rfl⟩:=iJ.1 hs
  rfl
 have hn:∀nd∈ns,RgN nd:=fun nd br=>v1 nd (by rw[e5];exact br);refine VD.of iC (DB iC (fun s h=>by rw[hs s h];exact⟨gq _,fun e he=>by cases he⟩) (fun nd h=>⟨(hn nd h).by0,(hn nd h).l0,(hn nd h).l1,(hn nd h).l4,by rw[(hn nd h).l7];exact gq _⟩)) ?_ ?_ (fun s h ev he=>by rw[hs s h]at he;cases he) (fun nd h=>(hn nd h).by1) (fun nd h=>(hn nd h).l7);{rw[<-e2];exact iS.1};{rw[<-e3];exact iS.1}}}};{cases h}
def QV(hb:aM l)(hl:l.length<=1048576){x:SD×Int}(h:xv l=some x):GQ x.1 x.2:=by
 rw[xv]at h;split at h;{cases h;exact⟨VD.zero,aU,aU⟩};{
 split at h;{cases h};{
 split at h;{
 split at h;{cases h};{
 next h1 h2 h3 h4=>
 rw[Bt]at h;obtain⟨r,h5,rfl⟩:=h;exact⟨XS (hb.sub _ _) (by simp[sub];omega) h5,(ki (hb.sub 4 12) (by simp[sub];omega)).1,ae⟩}};{cases h}}}
open Go.Proofs.Tryz
def SnR(l:LI)(r:Ending)(w':World):Prop:=∃(D:SD)(q C:Int)(p:OA)(c:Nat)(p':OA)(d:Nat),r=.returned (.tuple #[gh D.e D.g D.x D.t (.S p D.ss.length c) (.S p' D.ns.length d),.U q,.I C])/\nI w' (.S p D.ss.length c) D.ss/\qz w' (.S p' D.ns.length d) D.ns/\((xv l=none/\C=13)\/(xv l=some (D,q)/\C=0))
def x8{w:World}:nI w (.S none 0 0) []:=⟨none,0,rfl,.inl rfl⟩
def Dn{w:World}:qz w (.S none 0 0) []:=⟨none,0,rfl,.inl rfl⟩
def SnR.no(h:Hid (xv l=none))(w':World):SnR l (.returned (.tuple #[gh 0 0 0 0 (.S none 0 0) (.S none 0 0),.U 0,.I 13])) w':=
 ⟨⟨0,0,0,0,[],[]⟩,0,13,none,0,none,0,rfl,x8,Dn,.inl ⟨h,rfl⟩⟩
def IJ(h0:¬l.length=0)(h:l.length<20):xv l=none:=by rw[xv,bH h0,bN h]
def XW(h:¬l.length<20)(hs:¬iA (num (sub l 4 12)) (sub l 16 (l.length-4))=l):xv l=none:=by rw[xv,bH (by omega),bH h,bH hs]
def Tx(h:¬l.length<20)(hb:4611686018427387904<num (sub l 4 12)):xv l=none:=by
 rw[xv,bH ae,bH h,bN hb];split<;>rfl
def Tw(h:¬l.length<20)(hs:iA (num (sub l 4 12)) (sub l 16 (l.length-4))=l)(hb:¬4611686018427387904<num (sub l 4 12)):xv l=(dJ (sub l 16 (l.length-4))).map fun r=>(⟨r.1.1,r.1.2.1,r.1.2.2,0,r.2.1,r.2.2⟩,num (sub l 4 12)):=by
 rw[xv,bH ae,bH h,bN hs,bH hb]
theorem KE{c n:Nat}(en:Hid (l.length=n)){w:World}(h:Rd w (.S p n c) l)(hb:aM l)(hl:n<=1048576)(vG:n<=c)(Dy:Hid (c<=maxLen))(hp:Hid ((p=none/\c=0)\/∃b o,p=some ⟨b,o,none⟩))(GO:ML w):Cp 23 #[.S p n c] w fun r w'=>SnR l r w'/\Bw w w':=by
 obtain⟨W0,dV,b0,z0,C0,-⟩:=aC w #[.U 0,.U 0,.U 0,.I 0,.S none 0 0,.S none 0 0] 32;have HR:=af (ah (h.below b0) (ah (GO.below b0) hb));clear h GO hb;go_enter func23,ntmps23;by_cases Jo:n=0;{
 subst Jo;have HD:Hid (xv l=some (⟨0,0,0,0,[],[]⟩,0)):=by show _=_;rw[xv,bN (aa en)]
 obtain⟨r0,r1,r2,r3,r4,r5,rf⟩:=C0.c6;go_wp2_with fail;rw[<-dV];go_wp2;exact fL (by simp[results,results23,go_sem,r0,r1,r2,r3,r4,r5]) rfl ⟨⟨⟨0,0,0,0,[],[]⟩,0,0,none,0,none,0,rfl,x8,Dn,.inr ⟨aa HD,rfl⟩⟩,b0⟩};{
 have vH:((n:Int)==0)=false:=by simp;omega
 go_wp2_with fail;rw[<-dV];clear vH dV;have nO:w.heap.size<W0.heap.size:=ae;by_cases h20:n<20;{refine(Hs h20).mono ?_;rintro r w1⟨p1,c1,rfl,-,aA⟩;have HD:Hid (xv l=none):=IJ (by rw[aa en];exact Jo) (by rw[aa en];exact h20);obtain⟨r0,r1,r2,r3,r4,r5,rf⟩:=(C0.below nO aA).c6;have BB:=aj b0 aA;clear aA C0 b0;go_wp2;exact fL (by simp[results,results23,go_sem,r0,r1,r2,r3,r4,r5]) rfl ⟨SnR.no HD _,oY BB⟩};{
 obtain⟨pb,po,rfl⟩:∃b o,p=some ⟨b,o,none⟩:=by rcases aa hp with⟨-,h⟩|h;{omega};{exact h}
 have RS:¬l.length<20:=by rw[aa en];exact h20
 refine(at1 en HR.1 HR.2.2 ae hl vG Dy).mono ?_;intro r w1 hd;unfold qB at hd;by_cases hs:iA (num (sub l 4 12)) (sub l 16 (n-4))=l;{
 rw[bN hs]at hd;obtain⟨p1,c1,rfl,o1,aA⟩:=hd;obtain⟨q,eq⟩:=aI (num (sub l 4 12));have hq:=ki (HR.2.2.sub 4 12) (by simp[sub];omega);obtain⟨B,eB⟩:=aI (sub l 16 (n-4));have CQ:Hid (B.length=n-20):=by show _=_;rw[<-eB,dF (by rw[aa en];omega)];omega
 have Qj:Hid (aM B):=by show aM B;rw[<-eB];exact HR.2.2.sub _ _
 rw[eq]at hq;rw[eB]at o1;rw[eq];have BB:=aj b0 aA;have C1:=C0.below nO aA;have iL:w.heap.size<w1.heap.size:=by have:=aA.size;omega
 have HM:=af (HR.2.1.below aA);have HS:Hid (xv l=if 4611686018427387904<q then none else(dJ B).map fun r=>(⟨r.1.1,r.1.2.1,r.1.2.2,0,r.2.1,r.2.2⟩,q)):=by show _=_;by_cases hb:4611686018427387904<q;{rw[bN hb,Tx RS (by rw[eq];exact hb)]};{rw[bH hb,Tw RS (by rw[aa en];exact hs) (by rw[eq];exact hb),aa en,eq,eB]}
 clear hs eq eB aA C0 b0 nO HR;by_cases Sg:4611686018427387904<q;{
 have HD:Hid (xv l=none):=by show _=_;rw[aa HS,bN Sg]
 obtain⟨r0,r1,r2,r3,r4,r5,rf⟩:=C1.c6;clear o1;go_wp2;exact fL (by simp[results,results23,go_sem,r0,r1,r2,r3,r4,r5]) rfl ⟨SnR.no HD _,oY BB⟩};{
 have GI:=aa HS;rw[bH Sg]at GI;have tC:=af GI;have ad:=o1.adr;have HO:=af (ah o1.rd (ah o1.cap ad));clear GI HS o1 ad;go_wp2_with fail;refine(ZD CQ HO.1 Qj ae HO.2.1 (af HO.2.2.1) (af HO.2.2.2) HM).mono ?_;rintro r w2⟨⟨ps,cs,pn,cn,rfl,Qf⟩,aF⟩;rw[<-Vl (aa Qj) (by rw[aa CQ];omega)]at Qf⊢;have B2:=aj BB aF;have C2:=C1.below iL aF;have ju:w.heap.size<w2.heap.size:=by have:=aF.size;omega
 obtain⟨r0,r1,r2,r3,r4,r5,rf⟩:=C2.c6;clear aF C1 BB HO HM;clear r0 r1 r2 r3 r4 r5 rf;cases hP:dJ B with
 |none=>
  have HD:Hid (xv l=none):=by show _=_;rw[aa tC,hP];rfl
  simp only[Gn,Gp,rz,yr];obtain⟨W3,FK,b3,z3,C3,-⟩:=aC w2 #[.U 0,.U 0,.U 0,.I 0,.S ps 0 cs,.S pn 0 cn] 32;obtain⟨r0,r1,r2,r3,r4,r5,rf⟩:=(C2.below ju b3).c6;have B3:=aj B2 b3;clear hP Qf C2 C3 b3 z3 B2 iL ju;subst FK;go_wp2;exact fL (by simp[results,results23,go_sem,r0,r1,r2,r3,r4,r5]) rfl ⟨SnR.no HD _,oY B3⟩
 |some s=>
  have HD:Hid (xv l=some (⟨s.1.1,s.1.2.1,s.1.2.2,0,s.2.1,s.2.2⟩,q)):=by show _=_;rw[aa tC,hP];rfl
  rw[hP]at Qf;simp only[Gn,Gp]at Qf⊢;obtain⟨⟨e,g,x⟩,ss,ns⟩:=s;simp only at Qf HD⊢;obtain⟨n1,Mo⟩:=cK ss.length;obtain⟨n2,Gg⟩:=cK ns.length;rw[aa Mo,aa Gg]at Qf⊢;obtain⟨W3,FK,b3,z3,C3,-⟩:=aC w2 #[.U e,.U g,.U x,.I 0,.S ps n1 cs,.S pn n2 cn] 32;obtain⟨r0,r1,r2,r3,r4,r5,rf⟩:=(C2.below ju b3).c6;obtain⟨k0,k1,k2,k3,k4,k5,-⟩:=C3.c6;have B3:=aj B2 b3;have H3:=af (Qf.keep (w':=dX W3 w.heap.size (.U e) (.U g) (.U x) (.I 0) (.S ps n1 cs) (.S pn n2 cn)) (fun y h1 h2=>(lh ae).trans (b3.block y h2))).rdc;clear hP Qf C2 C3 b3 z3 B2 iL ju;subst FK;go_wp2;refine fL (v:=.tuple #[gh e g x 0 (.S ps n1 cs) (.S pn n2 cn),.U q,.I 0]) (by simp[results,results23,go_sem,r0,r1,r2,r3,r4,r5]) rfl ⟨⟨⟨e,g,x,0,ss,ns⟩,q,0,ps,cs,pn,cn,?_,?_,?_,.inr ⟨aa HD,rfl⟩⟩,oY B3⟩;{rw[aa Mo,aa Gg]};{rw[aa Mo];exact H3.1};{rw[aa Gg];exact H3.2}}};{rw[bH hs]at hd;obtain⟨p1,c1,rfl,-,aA⟩:=hd;have HD:Hid (xv l=none):=XW RS (by rw[aa en];exact hs);obtain⟨r0,r1,r2,r3,r4,r5,rf⟩:=(C0.below nO aA).c6;have BB:=aj b0 aA;clear aA C0 b0 hs;go_wp2;exact fL (by simp[results,results23,go_sem,r0,r1,r2,r3,r4,r5]) rfl ⟨SnR.no HD _,oY BB⟩}}}
def StP(w0 w:World)(b bs bn:Nat)(D:SD)(v:Value)(r:Ending)(w':World):Prop:=∃SB NB HB UB,r=.returned v/\PS w0 w' b bs bn D SB NB HB UB/\Fr T3 w w'
def Yq(D:SD):Option Rq->Bool×SD
 |none=>(false,D)
 |some o=>if(apL D o).2.k=0 then(true,(apL D o).1)else(false,D)
def VD.gd(h:VD D):GD D:=GD.of h.ok (DB h.ok h.qi h.fS) h.g.1 h.x.1 fun nd br=>(h.n2 nd br).w1
theorem aM8{w:World}{SB NB HB UB:List Nat}(h:Hid (PS w0 w b bs bn D SB NB HB UB))(hV:Hid (VD D)){c n:Nat}(en:Hid (l.length=n))(hr:Hid (Rd w (.S p n c) l))(hb:Hid (aM l))(hn:n<=1000)(vG:n<=c)(ha:Hid (Adr w p c))(hM:Hid (ML w))(hT:Hid (Qv w)){o:Option Rq}(ho:Hid (uK l o)){R:Bool×SD}(eR:Hid (Yq D o=R)):Cp 64 #[.pointer (some ⟨b,0,none⟩),.S p n c] w (StP w0 w b bs bn R.2 (.bool R.1)):=by
 go_enter func64,ntmps64;go_wp2_with fail;cases o with
 |none=>
  refine(as9 en hb ae hT ho p c _ ay hr vG ha).mono ?_;rintro r w1⟨p',c',q',d',B,rfl,-,-,-,-,aA⟩;have e:=aa eR;rw[Yq]at e;subst e;have P1:=af ((h.below aA).below ((cW w1.heap.size w1).alloc ao (.cells #[.I 0,.U 0,.S p' 0 c',.I 0,.S q' 0 d',.U 0,.U 0] 56)));have F1:=af (Fr.below (T:=T3) (aj aA ((cW w1.heap.size w1).alloc ao (.cells #[.I 0,.U 0,.S p' 0 c',.I 0,.S q' 0 d',.U 0,.U 0] 56))));clear aA;go_wp2;go_ret;exact⟨_,_,_,_,rfl,P1,F1⟩
 |some o=>
  obtain⟨K,S,F,P,V⟩:=o;have hd:Iv l K S P F V:=aa ho;have HJ:=af hd.jo;have BN:=hd.parts;obtain⟨bP,bV⟩:=hd.byt hb;have hS:(0:Int)<=(S:Int)/\(S:Int)<18446744073709551616:=by have:=hd.2.2.1;omega
  have hln:=aa en;refine(ZC en hb ae hT hd p c _ ay hr vG ha).mono ?_;rintro r w1⟨p',c',q',d',B,rfl,-,oP,-,oV,aA⟩;obtain⟨np,Xr⟩:=cK P.length;obtain⟨nv,env⟩:=cK V.length;rw[aa Xr]at oP⊢;rw[aa env]at oV⊢;obtain⟨W,hW,bW,zW,CW,-⟩:=aC w1 #[.I K,.U S,.S p' np c',.I F,.S q' nv d',.U 0,.U 0] 56;have b2:=aj aA bW;have VX:np<=1000:=by have:=aa Xr;omega
  have CX:=af (show Ms w0 W b bs bn D SB NB HB UB S F 0 0 p' np c' q' nv d' P V from⟨h.below b2,hV.gd,hS,Xr,env,(oP.below bW).rd,.inr (oV.below bW).tb,bP,ae,oP.cap,oP.oW,hM.below b2,fun k h1 h2=>(aa hT k h1 h2).below b2⟩);have F2:=af (Fr.below (T:=T3) b2);obtain⟨o0,o1,o2,o3,o4,o5,o6⟩:W.cell? ⟨w1.heap.size,0,none⟩=some (.I K)/\W.cell? ⟨w1.heap.size,1,none⟩=some (.U S)/\W.cell? ⟨w1.heap.size,2,none⟩=some (.S p' np c')/\W.cell? ⟨w1.heap.size,3,none⟩=some (.I F)/\W.cell? ⟨w1.heap.size,4,none⟩=some (.S q' nv d')/\W.cell? ⟨w1.heap.size,5,none⟩=some (.U 0)/\W.cell? ⟨w1.heap.size,6,none⟩=some (.U 0):=⟨CW.1 0 _ rfl,CW.1 1 _ rfl,CW.1 2 _ rfl,CW.1 3 _ rfl,CW.1 4 _ rfl,CW.1 5 _ rfl,CW.1 6 _ rfl⟩;clear aA bW b2 oP oV CW BN bP bV hln hd ho;subst hW;go_wp2_with fail;refine(az0 (K:=K) HJ CX).mono ?_;rintro r w3⟨D',R',C,⟨SB',NB',WW,UB',v3,rfl,F3,P3,L3⟩,hA,hk⟩;obtain⟨p1,c1,p2,c2,p3,c3,rfl⟩:=L3;have e:=aa eR;rw[Yq]at e;simp only[apL]at e;rw[hA]at e;generalize(if C=0 then R' else rB)=Rx at*;have FF:=af (F2.trans F3);by_cases hC:C=0;{rw[bN hC]at P3;rw[bN hC,bN (hk hC)]at e;subst e;have P4:=af (P3.below ((cW w3.heap.size w3).alloc ao (.cells #[.I Rx.k,.U Rx.i,.U Rx.e,.U Rx.g,.I Rx.n,.S p1 Rx.Mq.length c1,.S p2 Rx.nms.length c2,.S p3 Rx.Lv.length c3] 62)));have F4:=af (FF.trans (Fr.below (T:=T3) ((cW w3.heap.size w3).alloc ao (.cells #[.I Rx.k,.U Rx.i,.U Rx.e,.U Rx.g,.I Rx.n,.S p1 Rx.Mq.length c1,.S p2 Rx.nms.length c2,.S p3 Rx.Lv.length c3] 62))));rw[Gd,bN hC];clear hA hk F3 P3 hC;go_wp2;go_ret;exact⟨_,_,_,_,rfl,P4,F4⟩};{rw[bH hC]at P3;rw[bH hC,bH (by simpa[zl]using hC)]at e;subst e;have P4:=af (P3.below ((cW w3.heap.size w3).alloc ao (.cells #[.I Rx.k,.U Rx.i,.U Rx.e,.U Rx.g,.I Rx.n,.S p1 Rx.Mq.length c1,.S p2 Rx.nms.length c2,.S p3 Rx.Lv.length c3] 62)));have F4:=af (FF.trans (Fr.below (T:=T3) ((cW w3.heap.size w3).alloc ao (.cells #[.I Rx.k,.U Rx.i,.U Rx.e,.U Rx.g,.I Rx.n,.S p1 Rx.Mq.length c1,.S p2 Rx.nms.length c2,.S p3 Rx.Lv.length c3] 62))));rw[Gd,bH hC];clear hA hk F3 P3 hC;go_wp2;go_ret;exact⟨_,_,_,_,rfl,P4,F4⟩}
def RcT(w:World)(p:OA)(rs:List R1):Prop:=rs=[]\/∃b o,p=some ⟨b,o,none⟩/\(∃cur m,w.heap[b]?=some (.cells cur 54 m))/\∀i r,rs[i]?=some r->w.cell? ⟨b,o+i*2,none⟩=some (.U r.1)/\∃q d,w.cell? ⟨b,o+i*2+1,none⟩=some (.S q r.2.length d)/\TB w (.S q r.2.length d) r.2/\Adr w q d/\r.2.length<=d
def Adr.size{w w':World}{q:OA}(h:Adr w q d)(hs:w.heap.size<=w'.heap.size):Adr w' q d:=⟨h.1,fun b o e=>kV (h.2 b o e) hs⟩
def RcT.fr{T:List TypeId}{w w':World}(h:RcT w p rs)(hf:Fr T w w')(ht:54∉T/\5∉T:=by decide):RcT w' p rs:=by
 rcases h with h|⟨b,o,e,⟨cur,m,hc⟩,h⟩;{exact .inl h};{have hk:=(hf.2 _ _ _ _ ht.1 hc).trans hc.symm;refine .inr ⟨b,o,e,⟨cur,m,hk.trans hc⟩,fun i r hr=>?_⟩;obtain⟨h1,q,d,h2,h3,h4,h5⟩:=h i r hr;exact⟨(aE hk _).trans h1,q,d,(aE hk _).trans h2,h3.fr hf ht.2,h4.size hf.1,h5⟩}
def RcT.below{w w':World}(h:RcT w p rs)(hb:Bw w w'):RcT w' p rs:=h.fr (Fr.below (T:=[]) hb) (by simp)
def gU.rct{w:World}{n c:Nat}{vs:List Value}(h:gU B w (.S p n c) rs vs):RcT w p rs:=by
 rcases id h.row.2 with⟨e,h0⟩|⟨g,cap,cur,e,hb,hg,_,_,_,ht⟩;{exact .inl (Ku h0)};{
 simp only[dU]at e;refine .inr ⟨g,0,e.1,⟨_,_,hg⟩,fun i r hi=>?_⟩;have aX:i<rs.length:=(aT.1 hi).1;have V8:i<vs.length:=by rw[h.len];exact aX
 have hv:vs[i]?=some vs[i]:=aO V8;obtain⟨e1,e2⟩:=mW rs vs i r _ hi hv;obtain⟨rfl,rfl,rfl⟩:=e;have c1:=World.ownsRow.cellAt (w:=w) (base:=B) h.row (2*i) ae;have c2:=World.ownsRow.cellAt (w:=w) (base:=B) h.row (2*i+1) ae;have ho:=h.own i r _ hi hv;obtain⟨q,d,eq⟩:=ho.form;rw[eq]at ho e2;rw[lu,Zj i 2];exact⟨c1.trans e1,q,d,c2.trans e2,ho.tb,ho.adr,ho.cap⟩}
def RcT.at{w:World}(h:RcT w p rs){r:R1}(hr:rs[j]?=some r):∃b o q d,p=some ⟨b,o,none⟩/\w.cell? ⟨b,o+j*2,none⟩=some (.U r.1)/\w.cell? ⟨b,o+j*2+1,none⟩=some (.S q r.2.length d)/\TB w (.S q r.2.length d) r.2/\Adr w q d/\r.2.length<=d:=by
 rcases h with h|⟨b,o,e,-,h⟩;{rw[h]at hr;simp at hr};{obtain⟨h1,q,d,h2,h3,h4,h5⟩:=h j r hr;exact⟨b,o,q,d,e,h1,h2,h3,h4,h5⟩}
def MK{dop:LI->Option Rq}{q:Int}{r:R1}(h:r.1<=q):qd dop D q r=some (D,q):=by rw[qd,bN h]
def Af{dop:LI->Option Rq}{q:Int}{r:R1}(h:¬r.1<=q)(h2:r.1≠q+1\/4611686018427387904<r.1):qd dop D q r=none:=by rw[qd,bH h,bN h2]
theorem MM{dop:LI->Option Rq}{q:Int}{r:R1}(h:¬r.1<=q)(h2:¬(r.1≠q+1\/4611686018427387904<r.1)):qd dop D q r=if(Yq D (dop r.2)).1=true then some ((Yq D (dop r.2)).2,r.1)else none:=by
 rw[qd,bH h,bH h2];cases dop r.2 with
 |none=>rfl
 |some o=>
  simp only[Yq];split<;>rfl
theorem aN0{o:Option Rq}(h:(Yq D o).1=false):(Yq D o).2=D:=by
 cases o with
 |none=>rfl
 |some o=>
  simp only[Yq]at h⊢;split at h<;>simp_all
theorem Yn{w:World}{SB NB HB UB:List Nat}(h:Hid (PS w0 w b bs bn D SB NB HB UB)){q:Int}(hG:Hid (GQ D q)){c n:Nat}(en:Hid (rs.length=n))(hn:n<=2097152)(hR:Hid (RcT w p rs))(hg:Hid (∀r∈rs,R1G r))(hM:Hid (ML w0))(hT:Hid (Qv w0))(dop:LI->Option Rq)(hd:Hid (∀l,uK l (dop l))){R:SD×Int}(eR:Hid (mV dop D q rs=R)):Cp 26 #[.pointer (some ⟨b,0,none⟩),.S p n c,.U q] w (StP w0 w b bs bn R.1 (.U R.2)):=by
 go_enter func26,ntmps26;go_wp2
 go_loopw[2,11](fun qv iv wr=>∃(j:Nat)(q1:Int)(D1:SD)(SB NB HB UB:List Nat),j<=n/\qv=.U q1/\iv=.I j/\Hid (mV dop D1 q1 (rs.drop j)=R/\GQ D1 q1)/\Hid (PS w0 wr b bs bn D1 SB NB HB UB)/\Hid (Fr T3 w wr)) (fun _ iv _=>n-(intOf iv).toNat)
 exact⟨0,q,D,SB,NB,HB,UB,gq _,rfl,rfl,af ⟨by rw[tf];exact aa eR,aa hG⟩,h,af (Fr.refl _ _)⟩;{
 obtain⟨j,q1,D1,SB1,NB1,mK,UB1,hj,rfl,rfl,HE,HP,HF⟩:=hrel;by_cases aX:j<n;{
 have bu:=aP j n;have zw:j<rs.length:=by rw[aa en];exact aX
 obtain⟨r,hr⟩:∃r,rs[j]?=some r:=⟨_,aO zw⟩;have jb:=aa hg r (aS hr);obtain⟨rb,ro,rq,rd,rfl,c0,c1,tb,ad,cp⟩:=(hR.fr HF).at hr;obtain⟨s,body⟩:=r;simp only at c0 c1 tb cp;have s0:0<=s:=jb.2.2.1;have s1:s<18446744073709551616:=jb.2.2.2;obtain⟨m,em⟩:=cK body.length;rw[aa em]at c1 tb cp;have hm:m<=1000:=by rw[<-aa em];exact jb.2.1
 have q0:=HE.2.2.1;have q9:=HE.2.2.2;have wj:IntKind.i64.wrap ((j:Int)+1)=((j+1:Nat):Int):=by rw[ni _ ae];omega
 obtain⟨W,hW,bW,zW,CW,hbk⟩:=aC wr #[.U s,.S rq m rd] 54;have HBK:=af hbk;have d0:=CW.1 0 _ rfl;have d1:=CW.1 1 _ rfl;have HW:=af (ah (HP.below bW) (ah (HF.trans (Fr.below (T:=T3) bW)) (ah (tb.1.below bW) (ad.size bW.size))));have HS:=af (ah hr (ah jb.1 jb));clear zw jb tb ad bW zW CW hr hbk;subst hW;by_cases h1:s<=q1;{have E2:Hid (mV dop D1 q1 (rs.drop (j+1))=R/\GQ D1 q1):=⟨by rw[<-HE.1,uT HS.1 (MK h1)],HE.2⟩;go_wp2;go_roundw;exact⟨j+1,q1,D1,_,_,_,_,ae,rfl,by go_num,E2,af HW.1,af HW.2.1⟩;exact bG};{
 have H1:Hid (q1<s):=by show _<_;omega
 go_wp2_with fail;refine(Cf s0 s1 q0 ae).mono ?_;rintro z9 w2⟨rfl,rfl⟩;by_cases h2:s=q1+1;{
 have hf:GH (some q1) s=true:=by simp[GH,h2];omega
 rw[hf];have H2:=af h2;clear h2 hf;by_cases h3:4611686018427387904<s;{
 have E2:Hid ((D1,q1)=R):=by show _=_;rw[<-HE.1,nL HS.1 (Af (by have:=aa H1;simp only;omega) (.inr h3))]
 have e:=aa E2;subst e;go_wp2;go_ret;exact⟨_,_,_,_,rfl,HW.1,HW.2.1⟩};{
 have AG:=MM (dop:=dop) (D:=D1) (q:=q1) (r:=(s,body)) (by have:=aa H1;simp only;omega) (show¬((s,body).1≠q1+1\/4611686018427387904<(s,body).1)from by rw[Ey];exact⟨fun h=>h (aa H2),h3⟩);obtain⟨X,eX⟩:=cK (Yq D1 (dop body));simp only at AG;rw[aa eX]at AG;have tC:=af AG;clear AG;go_wp2_with fail;refine(aM8 (af HW.1) (af HE.2.1) em (af HW.2.2.1) (af HS.2.1) hm cp (af HW.2.2.2) (af (hM.below HW.1.be)) (af fun k h1 h2=>(aa hT k h1 h2).below HW.1.be) (af (aa hd body)) eX).mono ?_;rintro z9 w3⟨SB2,NB2,vO,UB2,rfl,P3,F3⟩;have HP3:=af P3;have HF3:=af (HW.2.1.trans F3);have d3:=aq (F3.2 _ _ _ _ aU HBK) 0;clear d0 d1;clear P3 F3;obtain⟨B,D2⟩:=X;cases B with
 |false=>
  have E2:Hid ((D1,q1)=R):=by show _=_;rw[<-HE.1,nL HS.1 (by rw[aa tC];rfl)]
  have e:=aa E2;subst e;have eD:D2=D1:=by have:=aN0 (D:=D1) (o:=dop body) (by rw[aa eX]);rw[aa eX]at this;exact this
  rw[eD]at HP3;clear eD HE;go_wp2;go_ret;exact⟨_,_,_,_,rfl,HP3,HF3⟩
 |true=>
  have cR:qd dop D1 q1 (s,body)=some (D2,s):=by rw[aa tC];rfl
  have E2:Hid (mV dop D2 s (rs.drop (j+1))=R/\GQ D2 s):=⟨by rw[<-HE.1,uT HS.1 cR],DV (aa hd) HE.2 HS.2.2 cR⟩;clear cR;go_wp2;go_roundw;exact⟨j+1,s,D2,_,_,_,_,ae,rfl,by go_num,E2,HP3,HF3⟩;exact bG}};{
 have hf:GH (some q1) s=false:=by simp[GH,h2]
 rw[hf];have E2:Hid ((D1,q1)=R):=by show _=_;rw[<-HE.1,nL HS.1 (Af (by have:=aa H1;simp only;omega) (.inl h2))]
 have e:=aa E2;subst e;go_wp2;go_ret;exact⟨_,_,_,_,rfl,HW.1,HW.2.1⟩}}};{
 have bu:=du j n;have ejn:j=n:=ae;have E2:Hid ((D1,q1)=R):=by show _=_;rw[<-HE.1,ejn,<-aa en,MZ]
 have e:=aa E2;subst e;clear HE;go_wp2;go_ret;exact⟨_,_,_,_,rfl,HP,HF⟩}}
end Go.Proofs.YtjjnidignljppaaGreatDoor
