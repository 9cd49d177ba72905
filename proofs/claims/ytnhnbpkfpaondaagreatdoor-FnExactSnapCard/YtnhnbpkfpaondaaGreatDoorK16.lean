import Derived.Test.YtnhnbpkfpaondaaGreatDoorK15
import Derived.Deep.CutBlock
namespace Go.Proofs.YtnhnbpkfpaondaaGreatDoor
set_option maxHeartbeats 0
set_option linter.all false
set_option maxRecDepth 100000
open Go.ChangeShapes Go.WideShapes Go.ChangeAt Go.RowKit Go.Deep
variable {D:SD}{i t e C g:Int}{w w0 w':World}{v x z N v0 v1 v2 v3 v4 v5:Value}{l P V l0 l1:LI}{p q pp pq p0 p1 p2:OA}{n c m d k K j b bs bn sb c0 c1 c2:Nat}{ss:List aQ}{ns:List aD}{r:R1}{rs:List R1}{vs:List Value}{cs:Array Value}{ty:TypeId}{S:iF}{E:Prop}{f:FuncId}{o:Oper}{ops:Array Oper}{a:Act}{R:Ending->World->Prop}{Lw:Array TypeId}{xs:Array Operand}{A1 A2:List Lf}
def VD.idr(h:VD D)(hi:i∈qe D.ss):1<=i/\i<=2^62:=by
 obtain⟨s,hs,rfl⟩:=iR.1 hi;have h1:=(h.s2 s hs).1;have h2:=h.x;exact⟨h1.1,af⟩
def VD.qg(h:VD D):∀s∈D.ss,s.2.2.length<=1048576/\∀e∈s.2.2,aN e.2/\e.2.length<=1048576:=λs hs=>by
 let⟨q1,q2⟩:=(h.s2 s hs).q
 exact⟨af,λe he=>⟨(q2 e he).1,aI (q2 e he).2⟩⟩
def VD.gh(h:VD D):∀nd∈D.ns,aN nd.path/\nd.path.length<=1048576/\nd.value.length<=1048576/\nd.holders.length<=1048576/\nd.watchers.length<=1048576:=λnd bu=>by
 have hn:=h.n2 nd bu;have a1:=Lp hn.vp;have a2:=hn.va;have a3:=h.ids hn.h1 hn.h2;have a4:nd.watchers.length=0:=by rw[hn.w1];rfl
 exact⟨hn.pb,af,af,af,af⟩
def VD.IG(h:VD D):∀nd∈D.ns,(∀i∈nd.holders,0<=i/\i<2^64)/\∀i∈nd.watchers,0<=i/\i<2^64:=λnd bu=>
 ⟨λi hi=>aI (h.idr ((h.n2 nd bu).h2 i hi)),λi hi=>aI (h.idr ((h.n2 nd bu).w2 i hi))⟩
def VD.Xm(h:VD D):∀nd∈D.ns,0<=nd.owner/\nd.owner<2^64:=λnd bu=>by
 rcases(h.n2 nd bu).ow with e|e;{omega};{have:=h.idr e;omega}
def VD.ap(h:VD D)(K S F E G:Int)(P V:LI):AP D.e D.g D.x D.t D.ss D.ns K S F E G P V=fx D K S F E G P V:=by
 unfold AP;rw[bO h.ok]
def TB.cq4(h:TB w v l):∃p c,v=.S p l.length c:=by
 obtain⟨p,c,e,-⟩:=h.1;exact⟨p,c,e⟩
def bd4(hd:VD D)(en:Le D.ss n)(em:Le D.ns m){K S F E G:Int}{np cp:Nat}{nv cv:Nat}(eP:Le P np)(eV:Le V nv)(h:vk w (.S p n c) D.ss)(hN:lM w (.S q m d) D.ns)(hP:Rd w (.S pp np cp) P)(hV:Rd w (.S pq nv cv) V)(hp:np<=1048576)(hv:nv<=1048576)(jt:np<=cp)(ku:cp<=maxLen)(bP:aN P){R:SD×RP}(hj:K=1\/K=3\/K=4\/K=5\/K=7\/K=8\/K=9)(eR:Hid (fx D K S F E G P V=R)):Calls Tryz.prog 75 #[dZ D.e D.g D.x D.t (.S p n c) (.S q m d),IE K S (.S pp np cp) F (.S pq nv cv) E G] w λr w'=>QR w.heap.size w w' r R.1 R.2:=by
 have hn:n<=50:=ae en▸hd.sl;have hm:m<=200:=ae em▸hd.nl;exact Uf en em eP eV (ag h) (ag hN) (ag hP) (ag hV) af af hp hv jt ku (ag hd.qg) (ag hd.gh) (ag λ_=>hd.wf) (ag bP) hj (by show _=_;rw[hd.ap];exact ae eR)
def gJ.rdc{B:Nat}(h:gJ B w p n c q m d ss ns):kr w (.S p n c) ss/\lM w (.S q m d) ns:=by
 obtain⟨A1,A2,h1,h2,-⟩:=h;exact⟨h1,h2⟩
def R1G(r:R1):Prop:=aN r.2/\r.2.length<=1000/\0<=r.1/\r.1<2^64
def Yj(hB:aN l)(h:ki l=some r):R1G r:=by
 obtain⟨s,b⟩:=r;obtain⟨h1,h2,-,h4,h5,-⟩:=oU hB h;have hn:=kM (hB.sub 2 10) (by simp[sub];omega);refine⟨?_,h2,?_,?_⟩;{show aN b;rw[h5];exact hB.sub _ _};{show 0<=s;rw[h4];exact hn.1};{show s<_;rw[h4];exact hn.2}
theorem Wi:∀(f:Nat){l:LI},aN l->∀r:R1,some r∈yl f l->R1G r
 |0,l,hB,r,h=>by simp[yl]at h
 | f+1,l,hB,r,h=>by
  cases hr:ki l with
  |none=>rw[Ew hr]at h;simp at h
  |some x=>
   rw[qH hr]at h;rcases jv.1 h with h|h;{cases h;exact Yj hB hr};{exact Wi f (hB.drop _) r h}
theorem Xw:∀(t:Option Int)(L:List (Option R1))(r:R1),r∈Co t L->some r∈L
 |_,[],r,h=>by simp[Co]at h
 |_,none::_,r,h=>by simp[Co]at h
 |t,some x::L,r,h=>by rw[Co]at h;split at h;{rcases jv.1 h with h|h;{rw[h];simp};{exact List.mem_cons_of_mem _ (Xw _ L r h)}};{simp at h}
def EH(hB:aN l):∀r∈rl l,R1G r:=λr h=>Wi _ hB r (Xw _ _ r h)
abbrev Rq:=Nat×Nat×Nat×LI×LI
def JN.jo{s:Nat}{f:Nat}(h:JN l k s P f V):(k:Int)=1\/(k:Int)=3\/(k:Int)=4\/(k:Int)=5\/(k:Int)=7\/(k:Int)=8\/(k:Int)=9:=by
 obtain⟨h1,h2,-,-,-,h6,-⟩:=h;rcases kinds h1 h2 with rfl|rfl|rfl|rfl|rfl|rfl|rfl|rfl|rfl|rfl|rfl|rfl|rfl<;>first|omega|cases h6
def qt(l:LI):Option Rq->Prop
 |none=>∀K S P F V,¬JN l K S P F V
 |some o=>JN l o.1 o.2.1 o.2.2.2.1 o.2.2.1 o.2.2.2.2
def bn7:∃dop:LI->Option Rq,∀l,qt l (dop l):=by
 refine Classical.axiomOfChoice (r:=λl o=>qt l o) λl=>?_;by_cases h:∃K S P F V,JN l K S P F V;{obtain⟨K,S,P,F,V,h⟩:=h;exact⟨some (K,S,F,P,V),h⟩};{exact⟨none,λK S P F V hd=>h ⟨K,S,P,F,V,hd⟩⟩}
def JN.byt{S F:Nat}(h:JN l K S P F V)(hb:aN l):aN P/\aN V:=by
 obtain⟨_,_,_,_,_,_,e⟩:=h;rw[e,D5,tx,tx]at hb;exact⟨λz hz=>hb z (by simp[hz]),λz hz=>hb z (by simp[hz])⟩
abbrev apL(D:SD)(o:Rq):SD×RP:=fx D o.1 o.2.1 o.2.2.1 0 0 o.2.2.2.1 o.2.2.2.2
def qL(dop:LI->Option Rq)(D:SD)(q:Int)(r:R1):Option (SD×Int):=
 if r.1<=q then some (D,q)
 else if r.1≠q+1\/4611686018427387904<r.1 then none
 else match dop r.2 with
  |none=>none
  |some o=>if(apL D o).2.k=0 then some ((apL D o).1,r.1)else none
def pG(dop:LI->Option Rq):SD->Int->List R1->SD×Int
 |D,q,[]=>(D,q)
 |D,q,r::rs=>match qL dop D q r with
  |none=>(D,q)
  |some x=>pG dop x.1 x.2 rs
variable {q:Int}
def oR{dop:LI->Option Rq}(hr:rs[j]?=some r)(h:qL dop D q r=none):pG dop D q (rs.drop j)=(D,q):=by
 let⟨hj,e⟩:=aV.1 hr
 rw[MH hj,e,pG,h]
def vF{dop:LI->Option Rq}{x:SD×Int}(hr:rs[j]?=some r)(h:qL dop D q r=some x):pG dop D q (rs.drop j)=pG dop x.1 x.2 (rs.drop (j+1)):=by
 let⟨hj,e⟩:=aV.1 hr
 rw[MH hj,e,pG,h]
def PJ{dop:LI->Option Rq}:pG dop D q (rs.drop rs.length)=(D,q):=by rw[List.drop_length];rfl
def GQ(D:SD)(q:Int):Prop:=VD D/\0<=q/\q<=2^62
def FK{dop:LI->Option Rq}(hd:∀l,qt l (dop l))(h:GQ D q)(hr:R1G r){x:SD×Int}(e:qL dop D q r=some x):GQ x.1 x.2:=by
 rw[qL]at e;split at e;{cases e;exact h};{
 split at e;{cases e};{
 next h1 h2=>
 rw[Je]at h2;have hk:=hd r.2;split at e;{cases e};{
 next o ho=>
 rw[ho]at hk;split at e;{
 cases e
 let⟨bP,bV⟩:=JN.byt hk hr.1
 exact⟨h.1.apply bP bV hk.jo,hr.2.2.1,af⟩};{cases e}}}}
theorem EG{dop:LI->Option Rq}(hd:∀l,qt l (dop l)):∀(rs:List R1){D:SD}{q:Int},GQ D q->(∀r∈rs,R1G r)->GQ (pG dop D q rs).1 (pG dop D q rs).2
 |[],D,q,h,_=>h
 |r::rs,D,q,h,hr=>by
  rw[pG];cases e:qL dop D q r with
  |none=>exact h
  |some x=>exact EG hd rs (FK hd h (hr r al) e) (λr' h'=>hr r' (by simp[h']))
def xL(l:LI):Option (SD×Int):=
 if l.length=0 then some (⟨0,0,0,0,[],[]⟩,0)
 else if l.length<20 then none
 else if dD (num (sub l 4 12)) (sub l 16 (l.length-4))=l then
  if 4611686018427387904<num (sub l 4 12)then none
  else(dP (sub l 16 (l.length-4))).map λr=>(⟨r.1.1,r.1.2.1,r.1.2.2,0,r.2.1,r.2.2⟩,num (sub l 4 12))
 else none
def VD.zero:VD ⟨0,0,0,0,[],[]⟩:=⟨by decide,by decide,by decide,by decide,by decide,by decide,List.Pairwise.nil,(λs h=>by cases h),List.Pairwise.nil,(λs h=>by cases h)⟩
theorem ad6(hb:aN l)(hl:Mg l.length){r:(Int×Int×Int)×List aQ×List aD}(h:dP l=some r):VD ⟨r.1.1,r.1.2.1,r.1.2.2,0,r.2.1,r.2.2⟩:=by
 rw[dP]at h;cases hr:yQ l with
 |none=>rw[hr]at h;cases h
 |some s=>
  rw[hr,zE]at h;split at h;{
 next hc=>
 obtain⟨⟨e,g,x⟩,ss,ns,o⟩:=s;simp only[kV]at h hc;subst h;obtain⟨-,iI,-⟩:=hc;rw[yQ]at hr;simp only at hr;have q1:=jV.start (n:=l.length) (l:=l) rfl;have q2:=gO rfl q1;have q3:=gO rfl q2;have q4:=gO rfl q3;have q5:=gO rfl q4;split at hr;{cases hr};{
 let⟨u1,u2⟩:=Uz oV U64 (jV l.length l) (λs hs=>⟨iG,gO rfl hs⟩) (oV (oV (oV (oV (some l)).2).2).2).1.toNat _ q5
 split at hr;{cases hr};{
 rw[Dg]at hr;obtain⟨⟨r1,r2⟩,h3,h4⟩:=hr;obtain⟨v1,-,-⟩:=vz rfl hb hl _ (gO rfl u2) h3;simp only[gy]at h4;obtain⟨⟨e1,e2,e3⟩,e4,e5,-⟩:=h4;have hs:∀s∈ss,s.2.2=[]:=λs hs=>by
  rw[<-e4]at hs;obtain⟨i,-,rfl⟩:=iR.1 hs
  rfl
 have hn:∀nd∈ns,RgN nd:=λnd bu=>v1 nd (e5▸bu);refine VD.of iI (Av iI (λs h=>by rw[hs s h];exact⟨gr _,λe he=>by cases he⟩) (λnd h=>⟨(hn nd h).by0,(hn nd h).l0,(hn nd h).l1,(hn nd h).l4,by rw[(hn nd h).l7];exact gr _⟩)) ?_ ?_ hs (λnd h=>(hn nd h).by1) (λnd h=>(hn nd h).l7) ?_ (λnd h=>(hn nd h).ep.1);{rw[<-e2];exact iG.1};{rw[<-e3];exact iG.1};{rw[<-e1];exact iG.1}}}};{cases h}
def Ul(hb:aN l)(hl:Mg l.length){x:SD×Int}(h:xL l=some x):GQ x.1 x.2:=by
 rw[xL]at h;split at h;{cases h;exact⟨VD.zero,bj,bj⟩};{
 split at h;{cases h};{
 split at h;{
 split at h;{cases h};{
 next h1 h2 h3 h4=>
 rw[Dg]at h;obtain⟨r,h5,rfl⟩:=h;exact⟨ad6 (hb.sub _ _) (by simp[sub];omega) h5,(kM (hb.sub 4 12) (by simp[sub];omega)).1,af⟩}};{cases h}}}
open Go.Proofs.Tryz
def av9{e g x:Nat}(he:e<2^64)(hg:g<2^64)(hx:x<2^64)(hr:∀nd∈ns,RgN nd):aN (Cr e g x t ss ns):=by
 rw[Cr];split;{next h=>exact L5 af af af (Mh h hr) hr}
 {exactλz hz=>by simp at hz}
theorem ao4(en:Le l n)(h:Rd w (.S p n c) l)(hb:Hid (aN l))(hl:Mg n)(xv:n<=c)(hp:Hid ((p=none/\c=0)\/∃b o,p=some (Ad b o)))(jr:Hid (∀b o,p=some (Ad b o)->b<w.heap.size))(IK:ML w):Calls prog 164 #[.S p n c] w λr w'=>az5 w.heap.size r w' (Ip (jZ l)) (Iq (jZ l))/\Bw w w':=by
 have HR:=ag λ(w':World)(hb:Bw w w')=>ai (h.below hb) (IK.below hb);obtain⟨⟨e,m1,s1⟩,E1⟩:∃y,Hid (jM (l,false)=y):=⟨_,bD⟩;obtain⟨⟨g,m2,s2⟩,E2⟩:∃y,Hid (jM (m1,s1)=y):=⟨_,bD⟩;obtain⟨⟨x,m3,s3⟩,E3⟩:∃y,Hid (jM (m2,s2)=y):=⟨_,bD⟩;obtain⟨⟨ss,m4,s4⟩,E4⟩:∃y,Hid (lF sSe (m3,s3)=y):=⟨_,bD⟩;obtain⟨⟨ns,m5,s5⟩,E5⟩:∃y,Hid (lF Ux (m4,s4)=y):=⟨_,bD⟩;have EI:Hid (qE l=((e,g,x),ss,ns,m5,s5)):=by show _=_;rw[qE];simp only[ae E1,ae E2,ae E3,ae E4,ae E5]
 have k1:=iQ (l,false) (ae hb) (by dsimp only;rw[ae en];exact hl);rw[ae E1]at k1;obtain⟨ue,c1,d1,-⟩:=k1;dsimp only at ue c1 d1;rw[ae en]at d1;have k2:=iQ (m1,s1) c1 (by dsimp only;omega);rw[ae E2]at k2;obtain⟨ug,c2,d2,-⟩:=k2;dsimp only at ug c2 d2;have k3:=iQ (m2,s2) c2 (by dsimp only;omega);rw[ae E3]at k3;obtain⟨ux,c3,d3,-⟩:=k3;dsimp only at ux c3 d3;have k4:=Kz Uu (s:=(m3,s3)) c3 (by dsimp only;omega);rw[ae E4]at k4;obtain⟨hss,c4,d4,f4⟩:=k4;dsimp only at hss c4 d4 f4;have k5:=Kz Uw (s:=(m4,s4)) c4 (by dsimp only;omega);rw[ae E5]at k5;obtain⟨hns,c5,d5,f5⟩:=k5;dsimp only at hns c5 d5 f5;have B1:=ag c1;have B2:=ag c2;have B3:=ag c3;have B4:=ag c4;have g1:m1.length<=1048576:=af;have g2:m2.length<=1048576:=af;have g3:m3.length<=1048576:=af;have g4:m4.length<=1048576:=af;obtain⟨KS,eKS⟩:∃k,Le ss k:=⟨_,bD⟩;obtain⟨KN,eKN⟩:∃k,Le ns k:=⟨_,bD⟩;have hKS:KS<=1048576:=by rw[<-ae eKS];omega
 have hKN:KN<=1048576:=by rw[<-ae eKN];omega
 have XQ:=ag hss;have HNS:=ag hns;have re:0<=e/\e<2^64:=ue;have rg:0<=g/\g<2^64:=ug;have rx:0<=x/\x<2^64:=ux;obtain⟨e,rfl⟩:∃v:Nat,e=(v:Int):=⟨e.toNat,af⟩;obtain⟨g,rfl⟩:∃v:Nat,g=(v:Int):=⟨g.toNat,af⟩;obtain⟨x,rfl⟩:∃v:Nat,x=(v:Int):=⟨x.toNat,af⟩;have he:e<2^64:=af;have hg:g<2^64:=af;have hx:x<2^64:=af
 let⟨W1,mg⟩:=aB (w.alloc (.cells #[.U 0,.U 0,.U 0,.I 0,aq,aq] 41))
 have bW1:=dX mg;have zW1:W1.heap.size=w.heap.size+1:=by rw[mg];simp
 let⟨W,hW⟩:=aB (W1.alloc (.cells #[.S p n c,.bool false] 243))
 have bW2:=dX hW;have zW:W.heap.size=w.heap.size+2:=by rw[hW];simp;omega
 have bW:=aj bW1 bW2
 let⟨R,hR⟩:=aB (w.heap.size+1)
 have C0:Hid (ar W w.heap.size [.U 0,.U 0,.U 0,.I 0,aq,aq]):=by
  have:ar W1 w.heap.size [.U 0,.U 0,.U 0,.I 0,aq,aq]:=by rw[mg];exact ar.alloc w #[.U 0,.U 0,.U 0,.I 0,aq,aq] _
  exact this.below af bW2
 have R0:Hid (sF W R l n false):=by
  have hc:ar W R [.S p n c,.bool false]:=by rw[hW,show R=W1.heap.size by omega];exact ar.alloc W1 #[.S p n c,.bool false] _
  refine⟨en,hc.2,p,c,⟨hc.1 0 _ rfl,hc.1 1 _ rfl⟩,?_,xv,hp⟩
  let⟨p',c',ev,hd⟩:=h.below bW
  simp only[pW]at ev;rcases hd with h0|⟨b,o,h1,h2⟩;{exact .inl h0};{refine .inr ⟨b,o,?_,ev.1.trans h1,h2⟩;have:=ae jr b o (ev.1.trans h1);omega}
 have K0:=ag (Kept.refl [blk R] W);have hRW:R<W.heap.size:=af;have hwR:w.heap.size<R:=af
 go_in
 go_wp2_with fail;rw[<-mg,<-hW,<-hR];have HRR:=ag hR;clear mg hW h IK bW1 bW2 zW1 hR;refine(gi (R:=R) (m:=l) (n:=n) (sh:=false) R0 hb hl (x:=e) (m':=m1) (sh':=s1) E1).mono ?_;rintro z9 y1⟨rfl,KL,mT⟩;have C1:=ag (C0.di mT af af);have K1:=ag (K0.trans mT);have R1:=ag KL;have z1:=mT.size;clear mT KL C0 K0 R0;go_wp2_with fail;refine(gi (R:=R) (m:=m1) (n:=m1.length) (sh:=s1) R1 B1 g1 (x:=g) (m':=m2) (sh':=s2) E2).mono ?_;rintro z9 y2⟨rfl,nO,uW⟩;have C2:=ag (C1.di uW af af);have K2:=ag (K1.trans uW);have R2:=ag nO;have z2:=uW.size;go_wp2_with fail;refine(gi (R:=R) (m:=m2) (n:=m2.length) (sh:=s2) R2 B2 g2 (x:=x) (m':=m3) (sh':=s3) E3).mono ?_;rintro z9 y3⟨rfl,KJ,tZ⟩;have C3:=ag (C2.di tZ af af);have K3:=ag (K2.trans tZ);have R3:=ag KJ;have z3:=tZ.size;go_wp2_with fail;refine(aJ8 (R:=R) (m:=m3) (n:=m3.length) (sh:=s3) R3 af B3 g3 (xs:=ss) (m':=m4) (sh':=s4) E4 (N:=KS) eKS).mono ?_;rintro z9 y4⟨pS,cS,rfl,⟨LS,oS⟩,hr4,hk4⟩;have hS4:=ag oS.lt;have OS4:=ag oS;have C4:=ag (C3.di hk4 af af);have K4:=ag (K3.trans hk4);have R4:=ag hr4;have z4:=hk4.size;go_wp2_with fail;refine(aJ9 (R:=R) (m:=m4) (n:=m4.length) (sh:=s4) R4 af B4 g4 (xs:=ns) (m':=m5) (sh':=s5) E5 (N:=KN) eKN).mono ?_;rintro z9 y5⟨pN,cN,rfl,⟨LN,oN⟩,hr5,hk5⟩;have ON5:=ag oN;have C5:=ag (C4.di hk5 af af);have K5:=ag (K4.trans hk5);have R5:=ag hr5;have z5:=hk5.size;have OS5:=ag (OS4.di jy.keep hk5 af);have b5:Bw w y5:=fw bW K5 af;have FF:Hid (gJ W.heap.size y5 pS KS cS pN KN cN ss ns):=by
  let⟨A1,q1,q2,q3⟩:=OS5.AU (M:=y4.heap.size) (λa ha=>(hS4.2 a ha).2) (λb hb=>(hS4.1 b hb).2)
  let⟨rn,A2,q4,q5⟩:=ON5.no
  exact⟨A1,A2,OS5.se.1,rn,q1,q4,(q2.mono af).app q5 af q3⟩
 clear OS5 ON5 hS4
 let⟨V,hV⟩:=aB (y5.alloc (.cells #[.U e,.U g,.U x,.I 0,.S pS KS cS,.S pN KN cN] 41))
 have Vk:=dX hV;have CV:=ag (C5.below af Vk);have RV:=ag (R5.below Vk af);have bV:=aj b5 Vk;have FV:=ag (FF.below Vk)
 let⟨sb,UZ⟩:=aB y5.heap.size
 have CS:Hid (ar V sb [.U e,.U g,.U x,.I 0,.S pS KS cS,.S pN KN cN]):=by show ar _ _ _;rw[hV,UZ];exact ar.alloc y5 #[.U e,.U g,.U x,.I 0,.S pS KS cS,.S pN KN cN] _
 have zV:V.heap.size=sb+1:=by rw[hV];simp;omega
 have UY:w.heap.size<sb:=af;obtain⟨-,-,-,-,⟨-,gsh⟩,-⟩:=ae RV;rw[hV]at gsh;have HV:=ag hV;have HSB:=ag UZ;clear hV Vk C5 R5 FF UZ;cases s5 with
 |true=>
  have hV:=ae HV;have CV2:=CV;have bV2:=bV;rw[hV]at CV2 bV2;have hP:jZ l=none:=by rw[jZ,ae EI];rw[bH (λhh=>by cases hh.1)]
  have HD:Hid (Ip (jZ l)=nj/\Iq (jZ l)=13):=by rw[hP];exact⟨rfl,rfl⟩
  clear hP;have r0:=CV2.1 0 _ rfl;have r1:=CV2.1 1 _ rfl;have r2:=CV2.1 2 _ rfl;have r3:=CV2.1 3 _ rfl;have r4:=CV2.1 4 _ rfl;have r5:=CV2.1 5 _ rfl;have rf:=CV2.2;clear hV;have BB:=bV2;go_wp2;refine dJ (v:=.tuple #[dZ 0 0 0 0 aq aq,.I 13]) (by simp[results,results164,go_sem,r0,r1,r2,r3,r4,r5]) rfl ⟨?_,?_⟩;{rw[HD.1,HD.2];exact⟨none,0,none,0,rfl,gJ.zero _ _⟩};{exact(((((BB.setCell al _).setCell al _).setCell al _).setCell al _).setCell al _).setCell al _}
 |false=>
  obtain⟨RL,eRL⟩:∃L,Hid (Cr e g x 0 ss ns=L):=⟨_,bD⟩;obtain⟨L,eL⟩:∃k,Le RL k:=⟨_,bD⟩;have qg:Hid (∀s∈ss,s.2.2.length<=1048576/\∀e∈s.2.2,aN e.2/\e.2.length<=1048576):=λs hs=>by rw[(ae XQ s hs).2];exact⟨gr _,λe he=>by simp at he⟩
  have gh:Hid (∀nd∈ns,aN nd.path/\nd.path.length<=1048576/\nd.value.length<=1048576/\nd.holders.length<=1048576/\nd.watchers.length<=1048576):=λnd bu=>by have:=ae HNS nd bu;exact⟨this.by0,this.l0,this.l1,this.l4,by rw[this.l7];exact gr _⟩
  have IG:Hid (∀nd∈ns,(∀i∈nd.holders,0<=i/\i<2^64)/\∀i∈nd.watchers,0<=i/\i<2^64):=λnd bu=>⟨(ae HNS nd bu).ho,λi hi=>by rw[(ae HNS nd bu).l7]at hi;simp at hi⟩;have Xm:Hid (∀nd∈ns,0<=nd.owner/\nd.owner<2^64):=λnd bu=>(ae HNS nd bu).ow
  have hep:Hid (∀nd∈ns,(0<=nd.aE/\nd.aE<2^64)/\0<=nd.gen/\nd.gen<2^64):=λnd bu=>⟨(ae HNS nd bu).ep,(ae HNS nd bu).ge⟩
  go_wp2_with fail;rw[<-ae HV];have RRV:Hid (kr V (.S pS KS cS) ss/\lM V (.S pN KN cN) ns):=by obtain⟨-,-,q1,q2,-⟩:=ae FV;exact⟨q1,q2⟩
  refine(Xf (e:=e) (g:=g) (x:=x) (t:=0) he hg hx (p:=pS) (q:=pN) (c:=cS) (n:=KS) (d:=cN) (m:=KN) (ss:=ss) (ns:=ns) eKS eKN RRV.1 RRV.2 hKS hKN qg gh IG Xm hep (ae HR _ bV).2 (R:=RL) eRL (L:=L) eL).mono ?_;rintro z9 u1⟨pE,cE,rfl,oE,sj⟩;have b6:=aj bV sj;have C6:=ag (CV.below af sj);have S6:=ag (CS.below af sj);have F6:=ag (FV.below sj);have RE:=ag oE.rd;have zu1:=sj.size;go_wp2_with fail;refine(gP (p:=pE) (q:=p) (c:=cE) (d:=c) (n:=L) (k:=n) (l:=RL) (m:=l) eL en (ae RE) (ae HR _ b6).1 (ae eRL▸av9 he hg hx (ae HNS)) (ae hb)).mono ?_;rintro z9 u2⟨rfl,UX⟩;have b7:=aj b6 UX;have C7:=ag (C6.below af UX);have S7:=ag (S6.below af UX);have F7:=ag (F6.below UX);have zu2:=UX.size;by_cases hEq:RL=l;{
 have hd:decide (RL=l)=true:=by simpa using hEq
 have hP:jZ l=some (((e:Int),(g:Int),(x:Int)),ss,ns):=by rw[jZ,ae EI];rw[bO ⟨rfl,eRL.trans hEq⟩]
 have HD:Hid (Ip (jZ l)=⟨e,g,x,0,ss,ns⟩/\Iq (jZ l)=0):=by rw[hP];exact⟨rfl,rfl⟩
 rw[hd];have r0:=C7.1 0 _ rfl;have r1:=C7.1 1 _ rfl;have r2:=C7.1 2 _ rfl;have r3:=C7.1 3 _ rfl;have r4:=C7.1 4 _ rfl;have r5:=C7.1 5 _ rfl;have rf:=C7.2;have k0:=S7.1 0 _ rfl;have k1:=S7.1 1 _ rfl;have k2:=S7.1 2 _ rfl;have k3:=S7.1 3 _ rfl;have k4:=S7.1 4 _ rfl;have k5:=S7.1 5 _ rfl;have q1:¬w.heap.size=sb:=af;have q2:¬sb=w.heap.size:=af;rw[<-ae HSB];go_wp2
 let⟨Z,hZ⟩:=aB ((((((u2.setCell (Ad w.heap.size 0) (.U e)).setCell (Ad w.heap.size 1) (.U g)).setCell (Ad w.heap.size 2) (.U x)).setCell (Ad w.heap.size 3) (.I 0)).setCell (Ad w.heap.size 4) (.S pS KS cS)).setCell (Ad w.heap.size 5) (.S pN KN cN))
 have hkZ:∀z,z≠w.heap.size->Z.heap[z]?=u2.heap[z]?:=λz hz=>by
  rw[hZ]
  iterate 6 rw[ga _ _ _ _ hz]
 refine dJ (v:=.tuple #[dZ e g x 0 (.S pS KS cS) (.S pN KN cN),.I 0]) (by simp[results,results164,go_sem,r0,r1,r2,r3,r4,r5]) rfl ⟨?_,?_⟩;{rw[<-hZ,HD.1,HD.2];have f:=(F7.keep (w':=Z) (λz hz _=>hkZ z af)).mono (B':=w.heap.size) af;rw[<-ae eKS,<-ae eKN]at f⊢;exact⟨pS,cS,pN,cN,rfl,f⟩};{exact(((((b7.setCell al _).setCell al _).setCell al _).setCell al _).setCell al _).setCell al _}};{
 have hd:decide (RL=l)=false:=by simpa using hEq
 rw[hd];have hP:jZ l=none:=by rw[jZ,ae EI];rw[bH (λhh=>hEq (eRL.symm.trans hh.2))]
 have HD:Hid (Ip (jZ l)=nj/\Iq (jZ l)=13):=by rw[hP];exact⟨rfl,rfl⟩
 have r0:=C7.1 0 _ rfl;have r1:=C7.1 1 _ rfl;have r2:=C7.1 2 _ rfl;have r3:=C7.1 3 _ rfl;have r4:=C7.1 4 _ rfl;have r5:=C7.1 5 _ rfl;have rf:=C7.2;have BB:=b7;go_wp2;refine dJ (v:=.tuple #[dZ 0 0 0 0 aq aq,.I 13]) (by simp[results,results164,go_sem,r0,r1,r2,r3,r4,r5]) rfl ⟨?_,?_⟩;{rw[HD.1,HD.2];exact⟨none,0,none,0,rfl,gJ.zero _ _⟩};{exact(((((BB.setCell al _).setCell al _).setCell al _).setCell al _).setCell al _).setCell al _}}
def SnR(l:LI)(r:Ending)(w':World):Prop:=∃(D:SD)(q C:Int)(p:OA)(c:Nat)(p':OA)(d:Nat),r=.returned (.tuple #[dZ D.e D.g D.x D.t (.S p D.ss.length c) (.S p' D.ns.length d),.U q,.I C])/\kr w' (.S p D.ss.length c) D.ss/\lM w' (.S p' D.ns.length d) D.ns/\((xL l=none/\C=13)\/(xL l=some (D,q)/\C=0))
def uE:kr w aq []:=⟨none,0,rfl,.inl rfl⟩
def yZ:lM w aq []:=⟨none,0,rfl,.inl rfl⟩
def SnR.no(h:Hid (xL l=none))(w':World):SnR l (.returned (.tuple #[dZ 0 0 0 0 aq aq,.U 0,.I 13])) w':=
 ⟨⟨0,0,0,0,[],[]⟩,0,13,none,0,none,0,rfl,uE,yZ,.inl ⟨h,rfl⟩⟩
def JX(h0:¬l.length=0)(h:l.length<20):xL l=none:=by rw[xL,bH h0,bO h]
def ae0(h:¬l.length<20)(hs:¬dD (num (sub l 4 12)) (sub l 16 (l.length-4))=l):xL l=none:=by rw[xL,bH (by omega),bH h,bH hs]
def Wt(h:¬l.length<20)(hb:4611686018427387904<num (sub l 4 12)):xL l=none:=by
 rw[xL,bH af,bH h,bO hb];split<;>rfl
def Ws(h:¬l.length<20)(hs:dD (num (sub l 4 12)) (sub l 16 (l.length-4))=l)(hb:¬4611686018427387904<num (sub l 4 12)):xL l=(dP (sub l 16 (l.length-4))).map λr=>(⟨r.1.1,r.1.2.1,r.1.2.2,0,r.2.1,r.2.2⟩,num (sub l 4 12)):=by
 rw[xL,bH af,bH h,bO hs,bH hb]
theorem MM(en:Le l n)(h:Rd w (.S p n c) l)(hb:aN l)(hl:Mg n)(xv:n<=c)(DA:Hid (c<=maxLen))(hp:Hid ((p=none/\c=0)\/∃b o,p=some (Ad b o)))(IK:ML w):Calls prog 94 #[.S p n c] w λr w'=>SnR l r w'/\Bw w w':=by
 obtain⟨W0,fL,b0,z0,C0,-⟩:=au w #[.U 0,.U 0,.U 0,.I 0,aq,aq] 41;have HR:=ag (ai (h.below b0) (ai (IK.below b0) hb))
 go_in
 by_cases MX:n=0;{
 subst MX;have HD:Hid (xL l=some (⟨0,0,0,0,[],[]⟩,0)):=by show _=_;rw[xL,bO (ae en)]
 let⟨r0,r1,r2,r3,r4,r5,rf⟩:=C0.c6
 go_wp2_with fail;rw[<-fL];go_wp2;exact dJ (by simp[results,results94,go_sem,r0,r1,r2,r3,r4,r5]) rfl ⟨⟨⟨0,0,0,0,[],[]⟩,0,0,none,0,none,0,rfl,uE,yZ,.inr ⟨ae HD,rfl⟩⟩,b0⟩};{
 have xw:((n:Int)==0)=false:=by simp;omega
 go_wp2_with fail;rw[<-fL];have qx:w.heap.size<W0.heap.size:=af;by_cases h20:n<20;{
 refine(Jn h20).mono ?_;rintro r w1⟨p1,c1,rfl,-,aG⟩;have HD:Hid (xL l=none):=JX (ae en▸MX) (ae en▸h20)
 let⟨r0,r1,r2,r3,r4,r5,rf⟩:=(C0.below qx aG).c6
 have BB:=aj b0 aG;go_wp2;exact dJ (by simp[results,results94,go_sem,r0,r1,r2,r3,r4,r5]) rfl ⟨SnR.no HD _,qn BB⟩};{
 obtain⟨pb,po,rfl⟩:∃b o,p=some (Ad b o):=by rcases ae hp with⟨-,h⟩|h;{omega};{exact h}
 have Vc:¬l.length<20:=ae en▸h20;refine(aL5 en HR.1 HR.2.2 af hl xv DA).mono ?_;intro r w1 hd;unfold qX at hd;by_cases hs:dD (num (sub l 4 12)) (sub l 16 (n-4))=l;{
 rw[bO hs]at hd;obtain⟨p1,c1,rfl,o1,aG⟩:=hd
 let⟨q,eq⟩:=aL (num (sub l 4 12))
 have hq:=kM (HR.2.2.sub 4 12) (by simp[sub];omega)
 let⟨B,eB⟩:=aL (sub l 16 (n-4))
 have Ru:Hid (B.length=n-20):=by show _=_;rw[<-eB,dM (by rw[ae en];omega)];omega
 have Tp:Hid (aN B):=by show aN B;rw[<-eB];exact HR.2.2.sub _ _
 rw[eq]at hq;rw[eB]at o1;rw[eq];have BB:=aj b0 aG;have C1:=C0.below qx aG;have jd:w.heap.size<w1.heap.size:=aI aG.size;have HM:=ag (HR.2.1.below aG);have HS:Hid (xL l=if 4611686018427387904<q then none else(dP B).map λr=>(⟨r.1.1,r.1.2.1,r.1.2.2,0,r.2.1,r.2.2⟩,q)):=by show _=_;by_cases hb:4611686018427387904<q;{rw[bO hb,Wt Vc (eq▸hb)]};{rw[bH hb,Ws Vc (ae en▸hs) (eq▸hb),ae en,eq,eB]}
 by_cases Vj:4611686018427387904<q;{
 have HD:Hid (xL l=none):=by show _=_;rw[ae HS,bO Vj]
 let⟨r0,r1,r2,r3,r4,r5,rf⟩:=C1.c6
 go_wp2;exact dJ (by simp[results,results94,go_sem,r0,r1,r2,r3,r4,r5]) rfl ⟨SnR.no HD _,qn BB⟩};{
 have Om:=ae HS;rw[bH Vj]at Om;have tJ:=ag Om;have ad:=o1.adr;have HO:=ag (ai o1.rd (ai o1.cap ad));go_wp2_with fail;refine(ao4 Ru HO.1 Tp af HO.2.1 (ag HO.2.2.1) (ag HO.2.2.2) HM).mono ?_;rintro r w2⟨⟨ps,cs,pn,cn,rfl,Xi⟩,aK⟩;rw[<-Yd (ae Tp) (by rw[ae Ru];omega)]at Xi⊢;have B2:=aj BB aK;have C2:=C1.below jd aK;have jJ:w.heap.size<w2.heap.size:=aI aK.size
 let⟨r0,r1,r2,r3,r4,r5,rf⟩:=C2.c6
 cases hP:dP B with
 |none=>
  have HD:Hid (xL l=none):=by show _=_;rw[ae tJ,hP];rfl
  simp only[Ip,Iq,nj,BO];obtain⟨W3,we,b3,z3,C3,-⟩:=au w2 #[.U 0,.U 0,.U 0,.I 0,.S ps 0 cs,.S pn 0 cn] 41
  let⟨r0,r1,r2,r3,r4,r5,rf⟩:=(C2.below jJ b3).c6
  have B3:=aj B2 b3;clear hP Xi C2 C3 b3 z3 B2 jd jJ;subst we;go_wp2;exact dJ (by simp[results,results94,go_sem,r0,r1,r2,r3,r4,r5]) rfl ⟨SnR.no HD _,qn B3⟩
 |some s=>
  have HD:Hid (xL l=some (⟨s.1.1,s.1.2.1,s.1.2.2,0,s.2.1,s.2.2⟩,q)):=by show _=_;rw[ae tJ,hP];rfl
  rw[hP]at Xi;simp only[Ip,Iq]at Xi⊢;obtain⟨⟨e,g,x⟩,ss,ns⟩:=s;simp only at Xi HD⊢
  let⟨n1,Ox⟩:=bG ss.length
  let⟨n2,Vw⟩:=bG ns.length
  rw[ae Ox,ae Vw]at Xi⊢;obtain⟨W3,we,b3,z3,C3,-⟩:=au w2 #[.U e,.U g,.U x,.I 0,.S ps n1 cs,.S pn n2 cn] 41
  let⟨r0,r1,r2,r3,r4,r5,rf⟩:=(C2.below jJ b3).c6
  obtain⟨k0,k1,k2,k3,k4,k5,-⟩:=C3.c6;have B3:=aj B2 b3;have H3:=ag (Xi.keep (w':=dG W3 w.heap.size (.U e) (.U g) (.U x) (.I 0) (.S ps n1 cs) (.S pn n2 cn)) (λy h1 h2=>(jX af).trans (b3.block y h2))).rdc;clear hP Xi C2 C3 b3 z3 B2 jd jJ;subst we;go_wp2;refine dJ (v:=.tuple #[dZ e g x 0 (.S ps n1 cs) (.S pn n2 cn),.U q,.I 0]) (by simp[results,results94,go_sem,r0,r1,r2,r3,r4,r5]) rfl ⟨⟨⟨e,g,x,0,ss,ns⟩,q,0,ps,cs,pn,cn,?_,?_,?_,.inr ⟨ae HD,rfl⟩⟩,qn B3⟩;{rw[ae Ox,ae Vw]};{rw[ae Ox];exact H3.1};{rw[ae Vw];exact H3.2}}};{
 rw[bH hs]at hd;obtain⟨p1,c1,rfl,-,aG⟩:=hd;have HD:Hid (xL l=none):=ae0 Vc (ae en▸hs)
 let⟨r0,r1,r2,r3,r4,r5,rf⟩:=(C0.below qx aG).c6
 have BB:=aj b0 aG;go_wp2;exact dJ (by simp[results,results94,go_sem,r0,r1,r2,r3,r4,r5]) rfl ⟨SnR.no HD _,qn BB⟩}}}
def StP(w0 w:World)(b bs bn:Nat)(D:SD)(v:Value)(r:Ending)(w':World):Prop:=∃SB NB HB UB,r=.returned v/\PS w0 w' b bs bn D SB NB HB UB/\Fr T3 w w'
def rdL(D:SD):Option Rq->Bool×SD
 |none=>(false,D)
 |some o=>if(apL D o).2.k=0 then(true,(apL D o).1)else(false,D)
def VD.gd(h:VD D):GD D:=GD.of h.ok (Av h.ok h.qg h.gh) h.g.1 h.x.1 λnd bu=>(h.n2 nd bu).w1
theorem be1{SB NB HB UB:List Nat}(h:Hid (PS w0 w b bs bn D SB NB HB UB))(hV:Hid (VD D))(en:Le l n)(hr:Hid (Rd w (.S p n c) l))(hb:Hid (aN l))(hn:n<=1000)(xv:n<=c)(ha:Hid (Adr w p c))(hM:Hid (ML w))(hT:Hid (N8 w)){o:Option Rq}(ho:Hid (qt l o)){R:Bool×SD}(eR:Hid (rdL D o=R)):Calls prog 165 #[.pointer (some (Ad b 0)),.S p n c] w (StP w0 w b bs bn R.2 (.bool R.1)):=by
 go_in
 go_wp2_with fail;cases o with
 |none=>
  refine(aL4 en hb af hT ho p c _ aA hr xv ha).mono ?_;rintro r w1⟨p',c',q',d',B,rfl,-,-,-,-,aG⟩;have e:=ae eR;rw[rdL]at e;subst e;have P1:=ag ((h.below aG).below ((cQ w1.heap.size w1).alloc ay (.cells #[.I 0,.U 0,.S p' 0 c',.I 0,.S q' 0 d',.U 0,.U 0] 121)));have F1:=ag (Fr.below (T:=T3) (aj aG ((cQ w1.heap.size w1).alloc ay (.cells #[.I 0,.U 0,.S p' 0 c',.I 0,.S q' 0 d',.U 0,.U 0] 121))));clear aG;go_wp2;go_ret;exact⟨_,_,_,_,rfl,P1,F1⟩
 |some o=>
  obtain⟨K,S,F,P,V⟩:=o;have hd:JN l K S P F V:=ae ho;have HJ:=ag hd.jo;have KO:=hd.parts
  let⟨bP,bV⟩:=hd.byt hb
  have hS:(0:Int)<=(S:Int)/\(S:Int)<2^64:=aI hd.2.2.1;have hln:=ae en;refine(ao1 en hb af hT hd p c _ aA hr xv ha).mono ?_;rintro r w1⟨p',c',q',d',B,rfl,-,oP,-,oV,aG⟩
  let⟨np,enp⟩:=bG P.length
  let⟨nv,env⟩:=bG V.length
  rw[ae enp]at oP⊢;rw[ae env]at oV⊢;obtain⟨W,hW,bW,zW,CW,-⟩:=au w1 #[.I K,.U S,.S p' np c',.I F,.S q' nv d',.U 0,.U 0] 121;have b2:=aj aG bW;have YK:np<=1000:=aI (ae enp);have CX:=ag (show Tc w0 W b bs bn D SB NB HB UB S F 0 0 p' np c' q' nv d' P V from⟨h.below b2,hV.gd,hS,enp,env,(oP.below bW).rd,.inr (oV.below bW).tb,bP,af,oP.cap,oP.qm,hM.below b2,λk h1 h2=>(ae hT k h1 h2).below b2⟩);have F2:=ag (Fr.below (T:=T3) b2);obtain⟨o0,o1,o2,o3,o4,o5,o6⟩:W.cell? (Ad w1.heap.size 0)=some (.I K)/\W.cell? (Ad w1.heap.size 1)=some (.U S)/\W.cell? (Ad w1.heap.size 2)=some (.S p' np c')/\W.cell? (Ad w1.heap.size 3)=some (.I F)/\W.cell? (Ad w1.heap.size 4)=some (.S q' nv d')/\W.cell? (Ad w1.heap.size 5)=some (.U 0)/\W.cell? (Ad w1.heap.size 6)=some (.U 0):=⟨CW.1 0 _ rfl,CW.1 1 _ rfl,CW.1 2 _ rfl,CW.1 3 _ rfl,CW.1 4 _ rfl,CW.1 5 _ rfl,CW.1 6 _ rfl⟩;clear aG bW b2 oP oV CW KO bP bV hln hd ho;subst hW;go_wp2_with fail;refine(aQ7 (K:=K) HJ CX).mono ?_;rintro r w3⟨D',R',C,⟨SB',NB',ZE,UB',v3,rfl,F3,P3,L3⟩,hA,hk⟩;obtain⟨p1,c1,p2,c2,p3,c3,rfl⟩:=L3;have e:=ae eR;rw[rdL]at e;simp only[apL]at e;rw[hA]at e;generalize(if C=0 then R' else rH)=Rx at*;have FF:=ag (F2.trans F3);by_cases hC:C=0;{rw[bO hC]at P3;rw[bO hC,bO (hk hC)]at e;subst e;have P4:=ag (P3.below ((cQ w3.heap.size w3).alloc ay (.cells #[.I Rx.k,.U Rx.i,.U Rx.e,.U Rx.g,.I Rx.n,.S p1 Rx.Oy.length c1,.S p2 Rx.nms.length c2,.S p3 Rx.Np.length c3] 127)));have F4:=ag (FF.trans (Fr.below (T:=T3) ((cQ w3.heap.size w3).alloc ay (.cells #[.I Rx.k,.U Rx.i,.U Rx.e,.U Rx.g,.I Rx.n,.S p1 Rx.Oy.length c1,.S p2 Rx.nms.length c2,.S p3 Rx.Np.length c3] 127))));rw[Ic,bO hC];clear hA hk F3 P3 hC;go_wp2;go_ret;exact⟨_,_,_,_,rfl,P4,F4⟩};{rw[bH hC]at P3;rw[bH hC,bH (by simpa[AV]using hC)]at e;subst e;have P4:=ag (P3.below ((cQ w3.heap.size w3).alloc ay (.cells #[.I Rx.k,.U Rx.i,.U Rx.e,.U Rx.g,.I Rx.n,.S p1 Rx.Oy.length c1,.S p2 Rx.nms.length c2,.S p3 Rx.Np.length c3] 127)));have F4:=ag (FF.trans (Fr.below (T:=T3) ((cQ w3.heap.size w3).alloc ay (.cells #[.I Rx.k,.U Rx.i,.U Rx.e,.U Rx.g,.I Rx.n,.S p1 Rx.Oy.length c1,.S p2 Rx.nms.length c2,.S p3 Rx.Np.length c3] 127))));rw[Ic,bH hC];clear hA hk F3 P3 hC;go_wp2;go_ret;exact⟨_,_,_,_,rfl,P4,F4⟩}
def RcT(w:World)(p:OA)(rs:List R1):Prop:=rs=[]\/∃b o,p=some (Ad b o)/\(∃cur m,w.heap[b]?=some (.cells cur 74 m))/\∀i r,rs[i]?=some r->w.cell? (Ad b (o+i*2))=some (.U r.1)/\∃q d,w.cell? (Ad b (o+i*2+1))=some (.S q r.2.length d)/\TB w (.S q r.2.length d) r.2/\Adr w q d/\r.2.length<=d
def Adr.size{q:OA}(h:Adr w q d)(hs:w.heap.size<=w'.heap.size):Adr w' q d:=⟨h.1,λb o e=>iq (h.2 b o e) hs⟩
def RcT.fr{T:List TypeId}(h:RcT w p rs)(hf:Fr T w w')(ht:74∉T/\5∉T:=by decide):RcT w' p rs:=by
 rcases h with h|⟨b,o,e,⟨cur,m,hc⟩,h⟩;{exact .inl h};{
 have hk:=(hf.2 _ _ _ _ ht.1 hc).trans hc.symm;refine .inr ⟨b,o,e,⟨cur,m,hk.trans hc⟩,λi r hr=>?_⟩
 let⟨h1,q,d,h2,h3,h4,h5⟩:=h i r hr
 exact⟨(aF hk _).trans h1,q,d,(aF hk _).trans h2,h3.fr hf ht.2,h4.size hf.1,h5⟩}
def RcT.below(h:RcT w p rs)(hb:Bw w w'):RcT w' p rs:=h.fr (Fr.below (T:=[]) hb) (by simp)
def gR.rct{B:Nat}(h:gR B w (.S p n c) rs vs):RcT w p rs:=by
 rcases id h.row.2 with⟨e,h0⟩|⟨g,cap,cur,e,hb,hg,_,_,_,ht⟩;{exact .inl (D8 h0)};{
 simp only[pW]at e;refine .inr ⟨g,0,e.1,⟨_,_,hg⟩,λi r hi=>?_⟩;have bf:i<rs.length:=(aV.1 hi).1;have U9:i<vs.length:=h.len▸bf;have hv:vs[i]?=some vs[i]:=aY U9
 let⟨e1,e2⟩:=nT rs vs i r _ hi hv
 obtain⟨rfl,rfl,rfl⟩:=e;have c1:=Gz (w:=w) (base:=B) h.row (2*i) af;have c2:=Gz (w:=w) (base:=B) h.row (2*i+1) af;have ho:=h.own i r _ hi hv
 let⟨q,d,eq⟩:=ho.form
 rw[eq]at ho e2;rw[ly,QL i 2];exact⟨c1.trans e1,q,d,c2.trans e2,ho.tb,ho.adr,ho.cap⟩}
def RcT.at(h:RcT w p rs)(hr:rs[j]?=some r):∃b o q d,p=some (Ad b o)/\w.cell? (Ad b (o+j*2))=some (.U r.1)/\w.cell? (Ad b (o+j*2+1))=some (.S q r.2.length d)/\TB w (.S q r.2.length d) r.2/\Adr w q d/\r.2.length<=d:=by
 rcases h with h|⟨b,o,e,-,h⟩;{rw[h]at hr;simp at hr};{
 let⟨h1,q,d,h2,h3,h4,h5⟩:=h j r hr
 exact⟨b,o,q,d,e,h1,h2,h3,h4,h5⟩}
def Pj{dop:LI->Option Rq}(h:r.1<=q):qL dop D q r=some (D,q):=by rw[qL,bO h]
def Bp{dop:LI->Option Rq}(h:¬r.1<=q)(h2:r.1≠q+1\/4611686018427387904<r.1):qL dop D q r=none:=by rw[qL,bH h,bO h2]
theorem Pk{dop:LI->Option Rq}(h:¬r.1<=q)(h2:¬(r.1≠q+1\/4611686018427387904<r.1)):qL dop D q r=if(rdL D (dop r.2)).1=true then some ((rdL D (dop r.2)).2,r.1)else none:=by
 rw[qL,bH h,bH h2];cases dop r.2 with
 |none=>rfl
 |some o=>
  simp only[rdL];split<;>rfl
theorem be3{o:Option Rq}(h:(rdL D o).1=false):(rdL D o).2=D:=by
 cases o with
 |none=>rfl
 |some o=>
  simp only[rdL]at h⊢;split at h<;>simp_all
theorem af6{SB NB HB UB:List Nat}(h:Hid (PS w0 w b bs bn D SB NB HB UB))(hG:Hid (GQ D q))(en:Le rs n)(hn:n<=2097152)(hR:Hid (RcT w p rs))(hg:Hid (∀r∈rs,R1G r))(hM:Hid (ML w0))(hT:Hid (N8 w0))(dop:LI->Option Rq)(hd:Hid (∀l,qt l (dop l))){R:SD×Int}(eR:Hid (pG dop D q rs=R)):Calls prog 95 #[.pointer (some (Ad b 0)),.S p n c,.U q] w (StP w0 w b bs bn R.1 (.U R.2)):=by
 go_in
 go_wp2
 go_loopw[2,11](λqv iv wr=>∃(j:Nat)(q1:Int)(D1:SD)(SB NB HB UB:List Nat),j<=n/\qv=.U q1/\iv=.I j/\Hid (pG dop D1 q1 (rs.drop j)=R/\GQ D1 q1)/\Hid (PS w0 wr b bs bn D1 SB NB HB UB)/\Hid (Fr T3 w wr)) (λ_ iv _=>n-(intOf iv).toNat)
 exact⟨0,q,D,SB,NB,HB,UB,gr _,rfl,rfl,ag ⟨by rw[sU];exact ae eR,ae hG⟩,h,ag (Fr.refl _ _)⟩;{
 obtain⟨j,q1,D1,SB1,NB1,qW,UB1,hj,rfl,rfl,HE,HP,HF⟩:=hrel;by_cases bf:j<n;{
 have bL:=aU j n;have Al:j<rs.length:=ae en▸bf
 let⟨r,hr⟩:=lE Al
 have mZ:=ae hg r (aT hr);obtain⟨rb,ro,rq,rd,rfl,c0,c1,tb,ad,cp⟩:=(hR.fr HF).at hr;obtain⟨s,body⟩:=r;simp only at c0 c1 tb cp;have s0:0<=s:=mZ.2.2.1;have s1:s<2^64:=mZ.2.2.2
 let⟨m,em⟩:=bG body.length
 rw[ae em]at c1 tb cp;have hm:m<=1000:=ae em▸mZ.2.1;have q0:=HE.2.2.1;have q9:=HE.2.2.2;have wj:IntKind.i64.wrap ((j:Int)+1)=((j+1:Nat):Int):=by rw[kU _ af];omega
 let⟨W,hW,bW,zW,CW,hbk⟩:=au wr #[.U s,.S rq m rd] 74
 have HBK:=ag hbk;have d0:=CW.1 0 _ rfl;have d1:=CW.1 1 _ rfl;have HW:=ag (ai (HP.below bW) (ai (HF.trans (Fr.below (T:=T3) bW)) (ai (tb.1.below bW) (ad.size bW.size))));have HS:=ag (ai hr (ai mZ.1 mZ));clear Al mZ tb ad bW zW CW hr hbk;subst hW;by_cases h1:s<=q1;{have E2:Hid (pG dop D1 q1 (rs.drop (j+1))=R/\GQ D1 q1):=⟨by rw[<-HE.1,vF HS.1 (Pj h1)],HE.2⟩;go_wp2;go_roundw;exact⟨j+1,q1,D1,_,_,_,_,af,rfl,by go_num,E2,ag HW.1,ag HW.2.1⟩;exact cg};{
 have H1:Hid (q1<s):=by show _<_;omega
 go_wp2_with fail;refine(DI s0 s1 q0 af).mono ?_;rintro z9 w2⟨rfl,rfl⟩;by_cases h2:s=q1+1;{
 have hf:IF (some q1) s=true:=by simp[IF,h2];omega
 rw[hf];have H2:=ag h2;clear h2 hf;by_cases h3:4611686018427387904<s;{
 have E2:Hid ((D1,q1)=R):=by show _=_;rw[<-HE.1,oR HS.1 (Bp (by have:=ae H1;simp only;omega) (.inr h3))]
 have e:=ae E2;subst e;go_wp2;go_ret;exact⟨_,_,_,_,rfl,HW.1,HW.2.1⟩};{
 have IJ:=Pk (dop:=dop) (D:=D1) (q:=q1) (r:=(s,body)) (by have:=ae H1;simp only;omega) (show¬((s,body).1≠q1+1\/4611686018427387904<(s,body).1)from by rw[Je];exact⟨λh=>h (ae H2),h3⟩)
 let⟨X,eX⟩:=bG (rdL D1 (dop body))
 simp only at IJ;rw[ae eX]at IJ;have tJ:=ag IJ;clear IJ;go_wp2_with fail;refine(be1 (ag HW.1) (ag HE.2.1) em (ag HW.2.2.1) (ag HS.2.1) hm cp (ag HW.2.2.2) (ag (hM.below HW.1.be)) (ag λk h1 h2=>(ae hT k h1 h2).below HW.1.be) (ag (ae hd body)) eX).mono ?_;rintro z9 w3⟨SB2,NB2,AO,UB2,rfl,P3,F3⟩;have HP3:=ag P3;have HF3:=ag (HW.2.1.trans F3);have d3:=ao (F3.2 _ _ _ _ bj HBK) 0;clear d0 d1;clear P3 F3;obtain⟨B,D2⟩:=X;cases B with
 |false=>
  have E2:Hid ((D1,q1)=R):=by show _=_;rw[<-HE.1,oR HS.1 (by rw[ae tJ];rfl)]
  have e:=ae E2;subst e;have eD:D2=D1:=by have:=be3 (D:=D1) (o:=dop body) (by rw[ae eX]);rw[ae eX]at this;exact this
  rw[eD]at HP3;clear eD HE;go_wp2;go_ret;exact⟨_,_,_,_,rfl,HP3,HF3⟩
 |true=>
  have db:qL dop D1 q1 (s,body)=some (D2,s):=by rw[ae tJ];rfl
  have E2:Hid (pG dop D2 s (rs.drop (j+1))=R/\GQ D2 s):=⟨by rw[<-HE.1,vF HS.1 db],FK (ae hd) HE.2 HS.2.2 db⟩;clear db;go_wp2;go_roundw;exact⟨j+1,s,D2,_,_,_,_,af,rfl,by go_num,E2,HP3,HF3⟩;exact cg}};{
 have hf:IF (some q1) s=false:=by simp[IF,h2]
 rw[hf];have E2:Hid ((D1,q1)=R):=by show _=_;rw[<-HE.1,oR HS.1 (Bp (by have:=ae H1;simp only;omega) (.inl h2))]
 have e:=ae E2;subst e;go_wp2;go_ret;exact⟨_,_,_,_,rfl,HW.1,HW.2.1⟩}}};{
 have bL:=dB j n;have ejn:j=n:=af;have E2:Hid ((D1,q1)=R):=by show _=_;rw[<-HE.1,ejn,<-ae en,PJ]
 have e:=ae E2;subst e;clear HE;go_wp2;go_ret;exact⟨_,_,_,_,rfl,HP,HF⟩}}
def VD.JD(h:VD D):yB D.ss D.ns:=Av h.ok h.qg h.gh
def bd0{SB NB HB UB:List Nat}(hV:VD D)(h:PS w0 w b bs bn D SB NB HB UB):Calls Tryz.prog 53 #[.pointer (some (Ad b 0))] w λr w'=>∃p c q d,r=.returned (dZ D.e D.g D.x D.t (.S p D.ss.length c) (.S q D.ns.length d))/\gJ w.heap.size w' p D.ss.length c q D.ns.length d D.ss D.ns/\Bw w w':=
 (Bt h.sto hV.JD.s1 hV.JD.n1 (fu hV.sl bj) (fu hV.nl bj) hV.JD.s2 hV.JD.n2).mono λr w'⟨p,c,q,d,A1,A2,e,q1,q2,q3,q4,q5,q6⟩=>⟨p,c,q,d,e,⟨A1,A2,q1,q2,q3,q4,q5⟩,q6⟩
def VD.re(h:VD D){d:Int}(h1:D.e<=e)(h2:e<=2^62)(hd:0<=d/\d<=1000015)(ht:0<=t/\t<=1000000):VD ⟨e,D.g,D.x,t,D.ss.map λs=>(s.1,d,[]),D.ns.map lx⟩:=by
 have e1:qe (D.ss.map λs=>(s.1,d,[]))=qe D.ss:=by unfold qe;rw[sR];rfl
 have e2:AW (D.ns.map lx)=AW D.ns:=by unfold AW;rw[sR];rfl
 refine⟨⟨Int.le_trans h.e.1 h1,h2⟩,h.g,h.x,ht,by show(List.map _ _).length<=_;rw[fN];exact h.sl,by show(List.map _ _).length<=_;rw[fN];exact h.nl,?_,λs hs=>?_,?_,λnd bu=>?_⟩;{show List.Pairwise _ (qe (D.ss.map _));rw[e1];exact h.s1};{obtain⟨y,hy,rfl⟩:=iR.1 hs;exact⟨(h.s2 y hy).1,hd,rfl⟩};{show List.Pairwise _ (List.map _ (D.ns.map lx));rw[sR];exact h.n1};{obtain⟨y,hy,rfl⟩:=iR.1 bu;have hn:=(h.n2 y hy).gen h1 (tL _);show NV _ _ (qe (D.ss.map _)) (AW (D.ns.map lx)) _;rw[e1,e2];exact⟨hn.ep,hn.vp,hn.pb,hn.cp,hn.va,hn.vb,hn.ow,hn.h1,hn.h2,rfl,(λi hi=>by cases hi),hn.lk⟩}
def Nw(D:SD):iF:=⟨D.e,D.g,D.x,0,D.ss.map kh,D.ns.map lx⟩
def UL(dop:LI->Option Rq)(l0 l1:LI)(ok:Bool):iF×Int×Int:=
 if ok=false then(nj,0,1)else match xL l1 with
  |none=>(nj,0,13)
  |some x=>(Nw (pG dop x.1 x.2 (rl l0)).1,(pG dop x.1 x.2 (rl l0)).2,0)
def SR(B:Nat)(r:Ending)(w:World)(R:iF×Int×Int):Prop:=∃p c q d,r=.returned (.tuple #[dZ R.1.e R.1.g R.1.x R.1.t (.S p R.1.ss.length c) (.S q R.1.ns.length d),.U R.2.1,.I R.2.2])/\gJ B w p R.1.ss.length c q R.1.ns.length d R.1.ss R.1.ns
def SR.no{B:Nat}{R:iF×Int×Int}(h:Hid (R=(nj,0,C))):SR B (.returned (.tuple #[dZ 0 0 0 0 aq aq,.U 0,.I C])) w R:=by
 rw[ae h];exact⟨none,0,none,0,rfl,gJ.zero _ _⟩
theorem Xx:∀(t:Option Int)(L:List (Option R1)),(Co t L).length<=L.length
 |_,[]=>by simp[Co]
 |_,none::_=>by simp[Co]
 |t,some x::L=>by rw[Co];split;{have:=Xx (some x.1) L;simp only[iS];omega};{simp}
theorem ab7:∀(f:Nat)(l:LI),(yl f l).length<=f+1
 |0,l=>by simp[yl]
 |f+1,l=>by
  rw[yl];split;{simp};{
 next r _=>
 have:=ab7 f (l.drop (r.2.length+14));simp only[iS];omega}
def af5:(rl l).length<=l.length+2:=fu (Xx _ _) (ab7 _ _)
def aK1{dop:LI->Option Rq}:UL dop l0 l1 false=(nj,0,1):=rfl
def pY{dop:LI->Option Rq}(h:xL l1=none):UL dop l0 l1 true=(nj,0,13):=by rw[UL,Cy,h]
def Ab{dop:LI->Option Rq}{x:SD×Int}(h:xL l1=some x){X:SD×Int}(e:pG dop x.1 x.2 (rl l0)=X):UL dop l0 l1 true=(Nw X.1,X.2,0):=by rw[UL,Cy,h,<-e]
theorem ao3(p0 p1 p2:OA)(n0 c0 n1 c1 n2 c2:Nat)(s0 s1 s2:Int)(l0 l1:LI)(e0:Le l0 n0)(e1:Le l1 n1)(w:World)(h0:Rd w (.S p0 n0 c0) l0)(h1:Rd w (.S p1 n1 c1) l1)(m0:Mg n0)(m1:Mg n1)(m2:Mg n2)(k0:n0<=c0)(k1:n1<=c1)(j0:Hid (c0<=maxLen))(j1:Hid (c1<=maxLen))(a0:Hid ((p0=none/\c0=0)\/∃b o,p0=some (Ad b o)))(a1:Hid ((p1=none/\c1=0)\/∃b o,p1=some (Ad b o)))(b0:Hid (aN l0))(b1:Hid (aN l1))(hM:ML w)(hT:N8 w)(dop:LI->Option Rq)(hd:Hid (∀l,qt l (dop l)))(ok:Bool)(Eo:Hid (Cw n0 s0 n1 s1 n2 s2=ok))(R:iF×Int×Int)(eR:Hid (UL dop l0 l1 ok=R)):Calls prog 46 #[dE (.S p0 n0 c0) s0 (.S p1 n1 c1) s1 (.S p2 n2 c2) s2] w λr w'=>SR w.heap.size r w' R/\Bw w w':=by
 obtain⟨W0,fL,q0,z0,C0,-⟩:=au w #[.S p0 n0 c0,.I s0,.S p1 n1 c1,.I s1,.S p2 n2 c2,.I s2] 37
 let⟨W1,mg,q1,z1,C1⟩:=sr W0
 rw[z0]at C1 z1;have bW:=aj q0 q1;have HA:=ag (λ(v:World)(hv:Bw W1 v)=>ai ((C0.below af q1).below af hv).c6 (ai (h0.below (aj bW hv)) (ai (h1.below (aj bW hv)) (ai (hM.below (aj bW hv)) (ai (show N8 v fromλk i1 i2=>(hT k i1 i2).below (aj bW hv)) (aj bW hv))))));have HB:=ag C1;have HZ:=ag (ai z0 z1);have BR:=ag (cQ W1.heap.size W1)
 go_in
 go_wp2_with fail;rw[<-fL,<-mg];refine(xr af af af).mono ?_;rintro r w1⟨rfl,aG⟩;rw[ae Eo];have B1:=ag aG;have X1:=ag (HB.below aG);have jd:=aG.size;cases ok with
 |false=>
  have HD:Hid (R=(nj,0,1)):=by show _=_;rw[<-ae eR];rfl
  let⟨r0,r1,r2,r3,r4,r5,rf⟩:=X1.cells
  have BB:=(ae HA w1 B1).2.2.2.2.2;go_wp2;exact dJ (by simp[results,results46,go_sem,r0,r1,r2,r3,r4,r5]) rfl ⟨SR.no HD,qn BB⟩
 |true=>
  obtain⟨⟨i0,i1,i2,i3,i4,i5,-⟩,-⟩:=ae HA w1 B1;go_wp2_with fail;refine(MM e1 (ae HA w1 B1).2.2.1 b1 m1 k1 j1 a1 (ae HA w1 B1).2.2.2.1).mono ?_;rintro r w2⟨⟨D,q,C,p,c,p',d,rfl,hS,hN,hor⟩,aK⟩
  let⟨n,en⟩:=bG D.ss.length
  let⟨m,em⟩:=bG D.ns.length
  rw[ae en]at hS⊢;rw[ae em]at hN⊢;obtain⟨W3,we,b3,z3,C3,-⟩:=au w2 #[.U D.e,.U D.g,.U D.x,.I D.t,.S p n c,.S p' m d] 41;have B3:=ag (aj B1 (aj aK b3));have X3:=ag ((X1.below aK).below b3);have HS3:=ag (ai (hS.below b3) (hN.below b3));have HC3:=ag C3;have HO:=ag hor;have hz3:w2.heap.size<W3.heap.size:=af;have hzw:w.heap.size+1<W3.heap.size:=by have:=HZ.2;have:=aK.size;omega
  rcases ae HO with⟨ik,rfl⟩|⟨ik,rfl⟩;{
 have HD:Hid (R=(nj,0,13)):=by show _=_;rw[<-ae eR];exact pY ik
 let⟨r0,r1,r2,r3,r4,r5,rf⟩:=X3.cells
 have BB:=(ae HA W3 B3).2.2.2.2.2;subst we;go_wp2;exact dJ (by simp[results,results46,go_sem,r0,r1,r2,r3,r4,r5]) rfl ⟨SR.no HD,qn BB⟩};{
 have HG:=ag (Ul (ae b1) (ae e1▸m1) ik)
 let⟨X,eX⟩:=bG (pG dop D q (rl l0))
 have HD:Hid (R=(Nw X.1,X.2,0)):=by show _=_;rw[<-ae eR];exact Ab ik (ae eX)
 have HGX:Hid (GQ X.1 X.2):=by show GQ X.1 X.2;rw[<-ae eX];exact EG hd _ HG (EH b0)
 obtain⟨⟨i0,i1,i2,i3,i4,i5,-⟩,-⟩:=ae HA W3 B3;obtain⟨k0',k1',k2',k3',k4',k5',-⟩:=HC3.c6;have HZW:=ag (ai hzw hz3);subst we;go_wp2_with fail
 let⟨W3,we⟩:=aB (w2.alloc (.cells #[.U D.e,.U D.g,.U D.x,.I D.t,.S p n c,.S p' m d] 41))
 rw[<-we]at B3 X3 HS3 HC3 HZW⊢;refine(Dr (ae HA W3 B3).2.1 b0 e0 m0 k0 j0 a0).mono ?_;rintro r w4⟨pr,cr,vs,rfl,hor,fy⟩
 let⟨nr,enr⟩:=bG (rl l0).length
 obtain⟨tk,etk⟩:∃k,(sC (rl l0):Int)=k:=⟨_,rfl⟩;have RC4:=ag hor.rct;have hnr:Hid (nr<=2097152):=by show _<=_;rw[<-ae enr];exact fu (af5) (by rw[ae e0];omega)
 rw[ae enr,etk];have B4:=ag (aj B3 fy);have X4:=ag (X3.below fy);have HS4:=ag (ai (HS3.1.below fy) (HS3.2.below fy));have Xg:=fy.size;obtain⟨k0',k1',k2',k3',k4',k5',-⟩:=(HC3.below HZW.2 fy).c6;go_wp2_with fail;have HF:=ag HG.1.JD;refine(qK en em HS4.1 HS4.2 (by rw[<-ae en];have:=HG.1.sl;omega) (by rw[<-ae em];have:=HG.1.nl;omega) (ag λs hs=>(HF.s2 s hs).1) (ag HF.s3) (ag HG.1.gh) (ag HG.1.IG) (ag HF.n3)).mono ?_;rintro r w5⟨b,bs,bn,SB,NB,ZE,UB,rfl,db,fT⟩;have P5:=ag (PS.of db fT HF (aI HG.1.sl) (aI HG.1.nl));have X5:=ag (X4.below fT);have RC5:=ag (RC4.below fT);have HW4:=ag (ae HA w4 B4);have HL:=ag (ai Xg fT.size);go_wp2_with fail;refine(af6 P5 HG enr hnr RC5 (ag (EH b0)) (ag HW4.2.2.2.1) (ag HW4.2.2.2.2.1) dop hd eX).mono ?_;rintro r w6⟨SB6,NB6,HB6,UB6,rfl,P6,F6⟩;have HP6:=ag P6;have X6:=ag (X5.fr F6);have HF6:=ag F6;have HFX:=ag HGX.1.JD;go_wp2_with fail;refine(Xv HP6 (ag (KD.of HFX)) (ag HFX.s3)).mono ?_;rintro r w7⟨P7,F7,v7,rfl⟩;have HP7:=ag P7;have X7:=ag (X6.fr F7);have HF7:=ag (HF6.trans F7)
 let⟨nx,enx⟩:=bG (Nw X.1).ss.length
 let⟨mx,emx⟩:=bG (Nw X.1).ns.length
 go_wp2_with fail;have HS7:=ag (bd0 (HGX.1.re (tL _) HGX.1.e.2 (d:=0) (t:=0) ⟨tL 0,Kh _⟩ ⟨tL 0,Kh _⟩) HP7);dsimp only at HS7;rw[show(List.map (λs:aQ=>(s.1,(0:Int),([]:List Ev))) X.1.ss).length=nx from ae enx,show(List.map lx X.1.ns).length=mx from ae emx]at HS7;refine HS7.mono ?_;rintro r w8⟨p8,c8,q8,d8,rfl,hs8,Z6⟩;have X8:=X7.below Z6
 let⟨r0,r1,r2,r3,r4,r5,rf⟩:=X8.cells
 have BB:Bw w w8:=(HW4.2.2.2.2.2.trans (HP7.be.mono (aI HW4.2.2.2.2.2.size))).trans (Z6.mono (by have:=HP7.be.size;have:=HW4.2.2.2.2.2.size;omega));have H8:=ag ((hs8.keep (w':=dG w8 (w.heap.size+1) (.U X.1.e) (.U X.1.g) (.U X.1.x) (.I 0) (.S p8 nx c8) (.S q8 mx d8)) (λy h1 h2=>jX (by have:=HP7.be.size;have:=HL.1;have:=HZW.1;omega))).mono (B':=w.heap.size) (by have:=HP7.be.size;have:=HW4.2.2.2.2.2.size;omega));go_wp2;refine dJ (v:=.tuple #[dZ X.1.e X.1.g X.1.x 0 (.S p8 nx c8) (.S q8 mx d8),.U X.2,.I 0]) (by simp[results,results46,go_sem,r0,r1,r2,r3,r4,r5]) rfl ⟨?_,qn BB⟩;rw[ae HD];refine⟨p8,c8,q8,d8,?_,?_⟩;{simp only[ae enx,ae emx];rfl};{simp only[ae enx,ae emx];exact ae H8}}
abbrev ZI(v0:Value)(n0:Int)(v1:Value)(n1:Int)(v2:Value)(n2:Int)(e g x t:Int)(S N:Value)(q:Int):Value:=.agg #[v0,.I n0,v1,.I n1,v2,.I n2,.U e,.U g,.U x,.I t,S,N,.U q]
def Own.cq7{B R:Nat}(h:Own B w v l)(hn:∀b,v.ownBlock=some b->b≠R)(o:Nat)(x:Value):Own B (w.setCell (Ad R o) x) v l:=by
 refine⟨h.1,?_⟩;rcases h.2 with h0|⟨g,cap,cur,rfl,hb,hg,rest⟩;{exact .inl h0};{exact .inr ⟨g,cap,cur,rfl,hb,(Dc _ _ _ _ (hn g rfl)).trans hg,rest⟩}
def XS(w:World)(V:Value)(B:LI)(L:Nat):Prop:=∀v,Bw w v->Cp 48 #[V] v λr w'=>∃p' c',r=.returned (.S p' L c')/\Own v.heap.size w' (.S p' L c') B/\Bw v w'
abbrev fnV(k:Nat)(cs:Array Value):Value:=.func (.func k) #[] cs
def XK(w:World)(g R:Nat):Prop:=w.cell? (Ad g 0)=some (fnV 105 #[])/\w.cell? (Ad g 1)=some (fnV 107 #[.pointer (some (Ad R 0))])/\w.cell? (Ad g 2)=some (fnV 109 #[])/\w.cell? (Ad g 3)=some (fnV 111 #[])/\w.cell? (Ad g 4)=some (fnV 112 #[])
def cR5(w:World)(q:Int)(B:LI)(L:Nat)(z:Ending)(w':World):Prop:=∃G R pb cb,z=.returned (.T G 5 5)/\(w.heap.size<=G/\w.heap.size<=R)/\XK w' G R/\w'.cell? (Ad R 0)=some (.S pb (L+20) cb)/\Own w.heap.size w' (.S pb (L+20) cb) (dD q B)/\Bw w w'
abbrev SvS(w:World)(b:Nat)(q e g x t:Int)(S N:Value):Prop:=w.cell? (Ad b 12)=some (.U q)/\w.cell? (Ad b 6)=some (.U e)/\w.cell? (Ad b 7)=some (.U g)/\w.cell? (Ad b 8)=some (.U x)/\w.cell? (Ad b 9)=some (.I t)/\w.cell? (Ad b 10)=some S/\w.cell? (Ad b 11)=some N
theorem IZ(p0 p1 p2:OA)(k0 c0 k1 c1 k2 c2:Nat)(n0 n1 n2:Int)(e g x t q:Int)(p r:OA)(n c m d:Nat)(w:World)(B:LI)(L:Nat)(eL:Le B L)(hL:L<=190000)(hB:Hid (aN B))(hq:0<=q)(hq2:q<=2^62)(hE:Hid (XS w (dZ e g x t (.S p n c) (.S r m d)) B L)):Calls prog 49 #[ZI (.S p0 k0 c0) n0 (.S p1 k1 c1) n1 (.S p2 k2 c2) n2 e g x t (.S p n c) (.S r m d) q] w (cR5 w q B L):=by
 obtain⟨W,hW,b1,z1,C1,-⟩:=au w #[.S p0 k0 c0,.I n0,.S p1 k1 c1,.I n1,.S p2 k2 c2,.I n2,.U e,.U g,.U x,.I t,.S p n c,.S r m d,.U q] 43
 go_in
 go_wp2_with fail;rw[<-hW];clear hW;have HC:=ag (λ(v:World)(hv:Bw W v)=>(λcc=>(⟨cc.1 12 _ rfl,cc.1 6 _ rfl,cc.1 7 _ rfl,cc.1 8 _ rfl,cc.1 9 _ rfl,cc.1 10 _ rfl,cc.1 11 _ rfl⟩:SvS v w.heap.size q e g x t (.S p n c) (.S r m d))) (C1.below af hv));have BV:=ag (cQ W.heap.size W).drew;clear C1;refine du (λv=>SvS v w.heap.size q e g x t (.S p n c) (.S r m d)) (by exact HC _ BV) λhS=>?_
 let⟨v,mY⟩:=aB W.drew
 rw[<-mY]at BV hS⊢;clear mY;refine lG 0 1 2 3 hS ?_
 iterate 3 (
  all_goals(first|refine I0 4 (λKK hK=>?_)|refine I0 5 (λKK hK=>?_)|refine I0 6 (λKK hK=>?_)|refine Tg 4 6 (λKK hK=>?_) (λKK hK=>?_)|refine Tg 5 6 (λKK hK=>?_) (λKK hK=>?_))
  all_goals(first
   |(
    refine Tag.go 4 ?_;refine iw (ae hE _ (aj b1 BV)) ?_;rintro z9 v'⟨p3,c3,rfl,o3,hb⟩;refine⟨_,rfl,?_⟩;have RO:=ag (ai (Own.mono o3 BV.size) (λb e=>(Own.lt o3 b e).2));clear o3)
   |(
    refine Tag.go 5 ?_;refine vU (Dt eL (RO.1.rd) hB af hq af) ?_;rintro z9 v'⟨p4,c4,rfl,o4,hb⟩;refine⟨_,rfl,?_⟩
    try have RN:=ag (λb e=>show b≠R by have:=(Own.lt o4 b e).1;have:=RC.1;omega)
    have RP:=ag (ai (Own.mono o4 BV.size) (λb e=>(Own.lt o4 b e).2));clear o4)
   |(
    refine Tag.go 6 ?_;go_simp;obtain⟨v',hv,hb,zv,cv',-⟩:=au v #[aq] 22;rw[<-hv]
    try have RN:=ag (λb e=>show b≠v.heap.size by have:=RP.2 b e;omega)
    have RB:=ag BV.size
    let⟨R,hR⟩:=aB v.heap.size
    rw[<-hR]at cv'⊢
    try rw[<-hR]at RN
    rw[<-hR]at RB;have RC:=ag (ai (by omega:R<v'.heap.size) cv');clear hv zv cv' hR))
  all_goals(
   have zb:=hb.size
   try have RO:=ag (ai (Own.below RO.1 hb) (λb e=>iq (RO.2 b e) zb))
   try have RP:=ag (ai (Own.below RP.1 hb) (λb e=>iq (RP.2 b e) zb))
   try have RC:=ag (ai (iq RC.1 zb) (RC.2.below RC.1 hb))
   have BV:=ag (aj BV hb);refine fh hK (by exact HC _ BV) λhS=>?_;clear hK KK hb zb
   rename World=>v))
 all_goals(
  refine cX 7 (λKK hK=>?_);have n0:=RC.2.1 0 _ rfl;have nf:=RC.2.2;go_simp;have BX:=ag (BV.setCell (p:=(Ad R 0)) (by exact RB) (.S p4 (L+20) c4));have OX:=ag (Own.cq7 RP.1 RN 0 (.S p4 (L+20) c4));have nX:(v.setCell (Ad R 0) (.S p4 (L+20) c4)).cell? (Ad R 0)=some (.S p4 (L+20) c4):=Qt v _ _ (by rw[n0];rfl)
  let⟨X,hX⟩:=aB (v.setCell (Ad R 0) (.S p4 (L+20) c4))
  rw[<-hX]at BX OX nX⊢;refine fh hK (by exact HC _ BX) λhS=>?_;clear hK KK hS n0 nf hX;refine cY ?_;have bX:=aj b1 BX;go_wp2;go_ret;refine⟨X.heap.size,R,p4,c4,rfl,⟨bX.size,aI (ae RB)⟩,⟨al,al,al,al,al⟩,?_,Own.mono (Own.below (ae OX) (aA.alloc ay _)) af,aj bX (aA.alloc ay _)⟩;exact ah nX (aA.alloc ay _))
structure Dk where
 l0:LI
 n0:Int
 l1:LI
 n1:Int
 l2:LI
 n2:Int
def vS(b:LI)(D:Dk):Nat->Dk
 |0=>D
 |1=>⟨D.l0,D.n0,D.l1,D.n1,[],0⟩
 |2=>⟨D.l0,D.n0,D.l1,D.n1,b,0⟩
 |3=>⟨D.l0,D.n0,D.l1,D.n1,b,b.length⟩
 |4=>⟨D.l0,D.n0,b,b.length,[],0⟩
 |_=>⟨[],0,b,b.length,[],0⟩
def Dk.ok(D:Dk):Prop:=Cw D.l0.length D.n0 D.l1.length D.n1 D.l2.length D.n2=true
theorem L6{b:LI}{D:Dk}(h:D.ok)(hb:b.length<=200000):∀k,(vS b D k).ok:=by
 have h':=h;unfold Dk.ok Cw at h';simp only[fk]at h';obtain⟨⟨h0,h1⟩,h2⟩:=h';have hz:uo 0 0=true:=As af af af;have hbz:uo b.length 0=true:=As af af af;have oF:uo b.length b.length=true:=As af af af;intro k
 match k with
 |0=>exact h
 |1=>exact vM h0 h1 hz
 |2=>exact vM h0 h1 hbz
 |3=>exact vM h0 h1 oF
 |4=>exact vM h0 oF hz
 |k+5=>exact vM hz oF hz
def Dk.ok.len{D:Dk}(h:D.ok):D.l0.length<=200000/\D.l1.length<=200000/\D.l2.length<=200000:=by
 unfold Dk.ok Cw at h;simp only[fk]at h;exact⟨(Ff h.1.1).1,(Ff h.1.2).1,(Ff h.2).1⟩
def ZF(w:World)(b:Nat)(D:Dk):Prop:=∃p0 c0 p1 c1 p2 c2,vt w b (.S p0 D.l0.length c0) (.I D.n0) (.S p1 D.l1.length c1) (.I D.n1) (.S p2 D.l2.length c2) (.I D.n2)/\Rd w (.S p0 D.l0.length c0) D.l0/\Rd w (.S p1 D.l1.length c1) D.l1/\Rd w (.S p2 D.l2.length c2) D.l2
def cR3(w:World)(D:Dk)(e g x t:Int)(S N:Value)(q:Int)(z:Ending)(w':World):Prop:=∃p0 c0 p1 c1 p2 c2,z=.returned (ZI (.S p0 D.l0.length c0) D.n0 (.S p1 D.l1.length c1) D.n1 (.S p2 D.l2.length c2) D.n2 e g x t S N q)/\Rd w' (.S p0 D.l0.length c0) D.l0/\Rd w' (.S p1 D.l1.length c1) D.l1/\Rd w' (.S p2 D.l2.length c2) D.l2/\Bw w w'
def wF(b:Nat)(w v:World):Prop:=w.heap.size<=v.heap.size/\∀k,k<w.heap.size->k≠b->v.heap[k]?=w.heap[k]?
variable {v:World}
def wF.below{u:World}(h:wF b w v)(hb:Bw v u):wF b w u:=⟨fu h.1 hb.size,λk hk hn=>(hb.block k (iq hk h.1)).trans (h.2 k hk hn)⟩
def wF.set(h:wF b w v)(o:Nat)(x:Value):wF b w (v.setCell (Ad b o) x):=⟨by simpa using h.1,λk hk hn=>(Dc _ _ _ _ hn).trans (h.2 k hk hn)⟩
def wF.cell(h:wF b w v){o:Nat}(hn:k≠b)(hc:w.cell? (Ad k o)=some x):v.cell? (Ad k o)=some x:=by
 have hl:=nZ w _ hc;have:=h.2 k hl hn;simp only[World.cell?]at hc⊢;rw[this];exact hc
def wF.own{b B:Nat}(h:wF b w v)(ho:Own B w z l)(hn:b<B):Own B v z l:=by
 refine⟨ho.1,?_⟩;rcases ho.2 with h0|⟨g,cap,cur,rfl,hb,hg,rest⟩;{exact .inl h0};{exact .inr ⟨g,cap,cur,rfl,hb,(h.2 g (ho.lt g rfl).2 af).trans hg,rest⟩}
def Rd.VX{V:Value}(h:Rd w V l)(hK:w.heap[K]?=some (.cells cs ty))(hn:∀x:Int,Value.int .u8 x∉cs)(hv:wF K w v):Rd v V l:=by
 obtain⟨p,cap,rfl,hd⟩:=h;rcases hd with h0|⟨b,o,h1,h2⟩;{exact⟨p,cap,rfl,.inl h0⟩};{refine⟨p,cap,rfl,.inr ⟨b,o,h1,λi hi=>hv.cell ?_ (h2 i hi)⟩⟩;rintro rfl;have:=h2 i hi;simp[World.cell?,hK]at this;exact hn _ (Array.mem_of_getElem? this)}
def sL{o:Nat}(ho:6<=o)(h:w.cell? (Ad b o)=some x)(v0 v1 v2 v3 v4 v5:Value):(dG w b v0 v1 v2 v3 v4 v5).cell? (Ad b o)=some x:=by
 unfold dG
 iterate 6 rw[De _ _ _ _ (by intro e;simp at e;omega)]
 exact h
theorem bd5{w1 wr w2:World}{x:Int}{S o0 o1 o2 o3 o4 o5:Value}(hb:Bw wr w2)(bl:w.heap.size<wr.heap.size)(a:vt wr w.heap.size o0 o1 o2 o3 o4 o5)(v:SvS wr w.heap.size q e g x t S N)(f:∀o,wr.frozen? (Ad w.heap.size o)=false)(X1:wF w.heap.size w1 wr)(B1:Bw w wr){E:Dk}{q0 q1 q2:OA}{d0 d1 d2:Nat}(o:jC wr.heap.size w2 (.S q0 E.l0.length d0) (.S q1 E.l1.length d1) (.S q2 E.l2.length d2) E.l0 E.l1 E.l2):Hid (ZF (dG w2 w.heap.size (.S q0 E.l0.length d0) (.I E.n0) (.S q1 E.l1.length d1) (.I E.n1) (.S q2 E.l2.length d2) (.I E.n2)) w.heap.size E)/\Hid (SvS (dG w2 w.heap.size (.S q0 E.l0.length d0) (.I E.n0) (.S q1 E.l1.length d1) (.I E.n1) (.S q2 E.l2.length d2) (.I E.n2)) w.heap.size q e g x t S N)∧
   Hid (∀o,(dG w2 w.heap.size (.S q0 E.l0.length d0) (.I E.n0) (.S q1 E.l1.length d1) (.I E.n1) (.S q2 E.l2.length d2) (.I E.n2)).frozen? (Ad w.heap.size o)=false)/\Hid (wF w.heap.size w1 (dG w2 w.heap.size (.S q0 E.l0.length d0) (.I E.n0) (.S q1 E.l1.length d1) (.I E.n1) (.S q2 E.l2.length d2) (.I E.n2)))∧
   Hid (Bw w (dG w2 w.heap.size (.S q0 E.l0.length d0) (.I E.n0) (.S q1 E.l1.length d1) (.I E.n1) (.S q2 E.l2.length d2) (.I E.n2))):=by
 have a2:=a.below hb;have f2:=cG f hb bl;have c:=WC (w:=w2) (b:=w.heap.size) (o0:=o0) (o1:=o1) (o2:=o2) (o3:=o3) (o4:=o4) (o5:=o5) ⟨λi u hu=>by
  match i,hu with
  |0,hu=>cases hu;exact a2.1
  |1,hu=>cases hu;exact a2.2.1
  |2,hu=>cases hu;exact a2.2.2.1
  |3,hu=>cases hu;exact a2.2.2.2.1
  |4,hu=>cases hu;exact a2.2.2.2.2.1
  |5,hu=>cases hu;exact a2.2.2.2.2.2
  |i+6,hu=>simp at hu,f2⟩ (v0:=.slice q0 E.l0.length d0) (v1:=.int .i64 E.n0) (v2:=.slice q1 E.l1.length d1) (v3:=.int .i64 E.n1) (v4:=.slice q2 E.l2.length d2) (v5:=.int .i64 E.n2)
 have r:∀{V:Value}{l:LI},Own wr.heap.size w2 V l->Rd (dG w2 w.heap.size (.S q0 E.l0.length d0) (.I E.n0) (.S q1 E.l1.length d1) (.I E.n1) (.S q2 E.l2.length d2) (.I E.n2)) V l:=λh=>((((((h.set bl _).set bl _).set bl _).set bl _).set bl _).set bl _).rd;refine⟨⟨q0,d0,q1,d1,q2,d2,⟨c.1 0 _ rfl,c.1 1 _ rfl,c.1 2 _ rfl,c.1 3 _ rfl,c.1 4 _ rfl,c.1 5 _ rfl⟩,r o.o0,r o.o1,r o.o2⟩,?_,c.2,?_,B1.trans ((hb.mono af).trans (dr _ _ _ _ _ _ _))⟩;{obtain⟨v0,v1,v2,v3,v4,v5,v6⟩:=v;exact⟨sL af (ah v0 hb) _ _ _ _ _ _,sL af (ah v1 hb) _ _ _ _ _ _,sL af (ah v2 hb) _ _ _ _ _ _,sL af (ah v3 hb) _ _ _ _ _ _,sL af (ah v4 hb) _ _ _ _ _ _,sL af (ah v5 hb) _ _ _ _ _ _,sL af (ah v6 hb) _ _ _ _ _ _⟩};{exact((((((X1.below hb).set 0 _).set 1 _).set 2 _).set 3 _).set 4 _).set 5 _}
theorem Pw(p0 p1 p2:OA)(c0 c1 c2:Nat)(D:Dk)(e g x t q:Int)(p r:OA)(n c m d:Nat)(steps:Nat)(db:steps<=5)(w:World)(B:LI)(L:Nat)(eL:Le B L)(hL:L<=190000)(hB:Hid (aN B))(hq:0<=q)(hq2:q<=2^62)(hE:Hid (XS w (dZ e g x t (.S p n c) (.S r m d)) B L))(hD:Hid D.ok)(h0:Rd w (.S p0 D.l0.length c0) D.l0)(h1:Rd w (.S p1 D.l1.length c1) D.l1)(h2:Rd w (.S p2 D.l2.length c2) D.l2):Calls prog 20 #[ZI (.S p0 D.l0.length c0) D.n0 (.S p1 D.l1.length c1) D.n1 (.S p2 D.l2.length c2) D.n2 e g x t (.S p n c) (.S r m d) q,.I steps] w (cR3 w (vS (dD q B) D steps) e g x t (.S p n c) (.S r m d) q):=by
 obtain⟨W,hW,b1,z1,C1,-⟩:=au w #[.S p0 D.l0.length c0,.I D.n0,.S p1 D.l1.length c1,.I D.n1,.S p2 D.l2.length c2,.I D.n2,.U e,.U g,.U x,.I t,.S p n c,.S r m d,.U q] 43;obtain⟨W2,mu,b2,z2,C2,T2⟩:=au W #[aq,.I 0,aq,.I 0,aq,.I 0,.U 0,.U 0,.U 0,.I 0,aq,aq,.U 0] 43
 go_in
 have o0:=C1.1 0 _ rfl;have o1:=C1.1 1 _ rfl;have o2:=C1.1 2 _ rfl;have o3:=C1.1 3 _ rfl;have o4:=C1.1 4 _ rfl;have o5:=C1.1 5 _ rfl;have o6:=C1.1 6 _ rfl;have o7:=C1.1 7 _ rfl;have o8:=C1.1 8 _ rfl;have o9:=C1.1 9 _ rfl;have oa:=C1.1 10 _ rfl;have ob:=C1.1 11 _ rfl;have oc:=C1.1 12 _ rfl;go_wp2_with fail;rw[<-hW,<-mu];clear hW mu;refine(IZ p0 p1 p2 D.l0.length c0 D.l1.length c1 D.l2.length c2 D.n0 D.n1 D.n2 e g x t q p r n c m d W2 B L eL hL hB hq hq2 (by exactλv hv=>ae hE v (aj (aj b1 b2) hv))).mono ?_;rintro z w1⟨G,R,pb,cb,rfl,hGR,hS,hR,oB,aG⟩;have bw1:=aj (aj b1 b2) aG;have IA:=((C1.below af b2).below af aG);have C2':=C2.below af aG;rw[z1]at C2';have gG:w.heap.size+2<=G/\w.heap.size+2<=R:=af;clear hGR;have zw1:=ag (show w.heap.size+2<=w1.heap.size by have:=aG.size;omega);have HA:=ag (λ(v:World)(hv:wF w.heap.size w1 v)=>ai (show XK v G R from⟨hv.cell af hS.1,hv.cell af hS.2.1,hv.cell af hS.2.2.1,hv.cell af hS.2.2.2.1,hv.cell af hS.2.2.2.2⟩) (ai (hv.cell af hR) (ai (hv.own oB af).rd (λ(o:Nat)(x:Value)(hc:w1.cell? (Ad (w.heap.size+1) o)=some x)=>hv.cell af hc))));have HD:=ag (show ZF w1 w.heap.size (vS (dD q B) D 0)from⟨p0,c0,p1,c1,p2,c2,⟨IA.1 0 _ rfl,IA.1 1 _ rfl,IA.1 2 _ rfl,IA.1 3 _ rfl,IA.1 4 _ rfl,IA.1 5 _ rfl⟩,h0.below bw1,h1.below bw1,h2.below bw1⟩);have HV:=ag (show SvS w1 w.heap.size q e g x t (.S p n c) (.S r m d)from⟨IA.1 12 _ rfl,IA.1 6 _ rfl,IA.1 7 _ rfl,IA.1 8 _ rfl,IA.1 9 _ rfl,IA.1 10 _ rfl,IA.1 11 _ rfl⟩);have HF:=ag IA.2;have HT:=ag ((aG.block _ af).trans T2);rw[z1]at HT;clear T2;clear o0 o1 o2 o3 o4 o5 o6 o7 o8 o9 oa ob oc C1 C2 IA C2' hS hR oB aG h0 h1 h2 b1 b2 z1 z2;go_wp2_with fail;have eLb:(dD q B).length=L+20:=by rw[ji,ae eL]
 have hLb:(dD q B).length<=200000:=af;rw[<-eLb]at HA;clear eLb
 go_loopw[12](λiv wr=>∃k:Nat,k<=steps/\iv=.I k/\Hid (ZF wr w.heap.size (vS (dD q B) D k))/\Hid (SvS wr w.heap.size q e g x t (.S p n c) (.S r m d))/\Hid (∀o,wr.frozen? (Ad w.heap.size o)=false)/\Hid (wF w.heap.size w1 wr)/\Hid (Bw w wr)) (λiv _=>steps-(intOf iv).toNat)
 exact⟨0,gr _,rfl,HD,HV,HF,⟨iD _,λ_ _ _=>rfl⟩,bw1⟩;{
 obtain⟨k,hk,rfl,hDk,hV,hF,hX,rI⟩:=hrel;obtain⟨A1,A2,A3,A4⟩:=ae HA wr hX;by_cases bf:k<steps;{
 have bL:=aU k steps;have zz:=ag (show w.heap.size<wr.heap.size by have:=hX.1;have:=ae zw1;omega);have EK:=ag (L6 (b:=dD q B) hD hLb k);obtain⟨mm0,mm1,mm2⟩:=EK.len;obtain⟨P0,C0,P1,C1,P2,C2,⟨a0,a1,a2,a3,a4,a5⟩,r0,r1,r2⟩:=ae hDk;obtain⟨s0,s1,s2,s3,s4⟩:=A1;have HS:=ag (Ya P0 P1 P2 C0 C1 C2 _ _ _ _ _ _ wr r0 r1 r2 EK mm0 mm1 mm2);obtain⟨k1,ek1⟩:∃k1,Hid (k1=k+1):=⟨_,ag rfl⟩;rcases(show k=0\/k=1\/k=2\/k=3\/k=4 by omega)with rfl|rfl|rfl|rfl|rfl
 all_goals(
  go_wp2_with fail
  first
   |(go_at_call 105;refine HS.1.mono ?_)
   |(go_at_call 107;refine(HS.2.2.2 R pb cb (dD q B) (dD q B) (by show _=_;simp[vS]) (by exact A2) (by exact A3) hLb hLb).mono ?_)
   |(go_at_call 109;refine HS.2.1.mono ?_)
   |(go_at_call 112;refine HS.2.2.1.mono ?_)
   |refine(Lb P0 P1 P2 C0 C1 C2 _ _ _ _ _ _ wr r0 r1 r2 EK mm0 mm1 mm2).2.2.2.2.mono ?_
  rintro z w2⟨q0,d0,q1,d1,q2,d2,rfl,o,hb⟩;have e1:=ae ek1;simp only[ly,Nat.reduceAdd]at e1;have HP:=bd5 (E:=vS (dD q B) D k1) hb zz ⟨a0,a1,a2,a3,a4,a5⟩ hV hF hX rI (by subst e1;exact o);subst e1;have f2:=cG hF hb zz;have b0:=ah a0 hb;have b1:=ah a1 hb;have b2:=ah a2 hb;have b3:=ah a3 hb;have b4:=ah a4 hb;have b5:=ah a5 hb;clear a0 a1 a2 a3 a4 a5 r0 r1 r2 s0 s1 s2 s3 s4 hb o hV hF hX rI hDk A2 A3 A4 HS;go_wp2;go_roundw;exact⟨_,af,by go_num,HP.1,HP.2.1,HP.2.2.1,HP.2.2.2.1,HP.2.2.2.2⟩
  case measure=>simp[intOf];omega)}
 {
 have hks:k=steps:=af;subst hks;have bL:=dB k k;obtain⟨P0,C0,P1,C1,P2,C2,⟨a0,a1,a2,a3,a4,a5⟩,r0,r1,r2⟩:=ae hDk;obtain⟨vc,v6,v7,v8,v9,va,vb⟩:=ae hV;have TT:=(hX.2 _ (aI (ae zw1)) af).trans HT;have nf:∀o,wr.frozen? (Ad (w.heap.size+1) o)=false:=λo=>by simp[World.frozen?,TT]
 have n0:=ao TT 0;have n1:=ao TT 1;have n2:=ao TT 2;have n3:=ao TT 3;have n4:=ao TT 4;have n5:=ao TT 5;have n6:=ao TT 6;have n7:=ao TT 7;have n8:=ao TT 8;have n9:=ao TT 9;have na:=ao TT 10;have nb:=ao TT 11;have nc:=ao TT 12;have RR:=ag (λ(v:World)(hv:wF (w.heap.size+1) wr v)=>ai (r0.VX TT (by intro y;simp) hv) (ai (r1.VX TT (by intro y;simp) hv) (r2.VX TT (by intro y;simp) hv)));have BW:=ag rI;clear r0 r1 r2 TT HA hDk hV hF hX rI HT;simp at n0 n1 n2 n3 n4 n5 n6 n7 n8 n9 na nb nc;go_wp2;have EX:=λ(x0 x1 x2 x3 x4 x5 x6 x7 x8 x9 xd xe xf:Value)=>((((((((((((((show wF (w.heap.size+1) wr wr from⟨iD _,λ_ _ _=>rfl⟩).set 0 x0).set 1 x1).set 2 x2).set 3 x3).set 4 x4).set 5 x5).set 6 x6).set 7 x7).set 8 x8).set 9 x9).set 10 xd).set 11 xe).set 12 xf);obtain⟨R0,R1,R2⟩:=ae RR _ (EX _ _ _ _ _ _ _ _ _ _ _ _ _);refine dJ (v:=ZI (.S P0 _ C0) _ (.S P1 _ C1) _ (.S P2 _ C2) _ e g x t (.S p n c) (.S r m d) q) (by simp[results,results20,go_sem,n0,n1,n2,n3,n4,n5,n6,n7,n8,n9,na,nb,nc]) rfl ⟨P0,C0,P1,C1,P2,C2,rfl,R0,R1,R2,?_⟩
 iterate 13 refine ig ?_ al _
 exact BW}}
def XL(w:World)(V:Value)(e g x t:Int)(ss:List aQ)(ns:List aD):Prop:=∀v,Bw w v->Cp 52 #[V] v λz v'=>∃b,z=.returned (.pointer (some (Ad b 0)))/\Bw v v'/\Cp 53 #[.pointer (some (Ad b 0))] v' λz u'=>∃p c q d,z=.returned (dZ e g x t (.S p ss.length c) (.S q ns.length d))/\gJ v'.heap.size u' p ss.length c q ns.length d ss ns/\Bw v' u'
abbrev SvA(w:World)(b:Nat)(v0 v1 v2 v3 v4 v5:Value)(q e g x t:Int)(S N:Value):Prop:=vt w b v0 v1 v2 v3 v4 v5/\SvS w b q e g x t S N
def SvA.ex{x:Int}{S:Value}(h:SvA w b v0 v1 v2 v3 v4 v5 q e g x t S N)(hv:wF K w v)(hn:b≠K):SvA v b v0 v1 v2 v3 v4 v5 q e g x t S N:=by
 obtain⟨⟨a0,a1,a2,a3,a4,a5⟩,c0,c1,c2,c3,c4,c5,c6⟩:=h;exact⟨⟨hv.cell hn a0,hv.cell hn a1,hv.cell hn a2,hv.cell hn a3,hv.cell hn a4,hv.cell hn a5⟩,hv.cell hn c0,hv.cell hn c1,hv.cell hn c2,hv.cell hn c3,hv.cell hn c4,hv.cell hn c5,hv.cell hn c6⟩
def CpR(w:World)(D:Dk)(e g x t:Int)(ss:List aQ)(ns:List aD)(q:Int)(z:Ending)(w':World):Prop:=∃p0 c0 p1 c1 p2 c2 p c r d,z=.returned (ZI (.S p0 D.l0.length c0) D.n0 (.S p1 D.l1.length c1) D.n1 (.S p2 D.l2.length c2) D.n2 e g x t (.S p ss.length c) (.S r ns.length d) q)/\∃B,w.heap.size<=B/\jC w.heap.size w' (.S p0 D.l0.length c0) (.S p1 D.l1.length c1) (.S p2 D.l2.length c2) D.l0 D.l1 D.l2/\(∀b,(Value.slice p0 D.l0.length c0).ownBlock=some b\/(Value.slice p1 D.l1.length c1).ownBlock=some b\/(Value.slice p2 D.l2.length c2).ownBlock=some b->b<B)/\gJ B w' p ss.length c r ns.length d ss ns/\Bw w w'
def LR(p0 p1 p2:OA)(c0 c1 c2:Nat)(D:Dk)(e g x t q:Int)(p r:OA)(n c m d:Nat)(ss:List aQ)(ns:List aD)(w:World)(hC:Hid (XL w (dZ e g x t (.S p n c) (.S r m d)) e g x t ss ns))(h0:Rd w (.S p0 D.l0.length c0) D.l0)(h1:Rd w (.S p1 D.l1.length c1) D.l1)(h2:Rd w (.S p2 D.l2.length c2) D.l2)(m0:D.l0.length<=200000)(m1:D.l1.length<=200000)(m2:D.l2.length<=200000):Calls prog 21 #[ZI (.S p0 D.l0.length c0) D.n0 (.S p1 D.l1.length c1) D.n1 (.S p2 D.l2.length c2) D.n2 e g x t (.S p n c) (.S r m d) q] w (CpR w D e g x t ss ns q):=by
 obtain⟨W,hW,b1,z1,C1,-⟩:=au w #[.S p0 D.l0.length c0,.I D.n0,.S p1 D.l1.length c1,.I D.n1,.S p2 D.l2.length c2,.I D.n2,.U e,.U g,.U x,.I t,.S p n c,.S r m d,.U q] 43
 let⟨W2,mu,b2,z2,C2,T2⟩:=au W #[aq,.I 0,aq,.I 0,aq,.I 0,.U 0,.U 0,.U 0,.I 0,aq,aq,.U 0] 43
 go_in
 go_wp2_with fail;rw[<-hW,<-mu];clear hW mu;have bb:=aj b1 b2;rw[z1]at C2;have HC:=ag (λ(v:World)(hv:Bw W2 v)=>(λcc=>(⟨⟨cc.1 0 _ rfl,cc.1 1 _ rfl,cc.1 2 _ rfl,cc.1 3 _ rfl,cc.1 4 _ rfl,cc.1 5 _ rfl⟩,cc.1 12 _ rfl,cc.1 6 _ rfl,cc.1 7 _ rfl,cc.1 8 _ rfl,cc.1 9 _ rfl,cc.1 10 _ rfl,cc.1 11 _ rfl⟩:SvA v w.heap.size (.S p0 D.l0.length c0) (.I D.n0) (.S p1 D.l1.length c1) (.I D.n1) (.S p2 D.l2.length c2) (.I D.n2) q e g x t (.S p n c) (.S r m d))) ((C1.below af b2).below af hv));have HR:=ag (λ(v:World)(hv:Bw W2 v)=>ai (h0.below (aj bb hv)) (ai (h1.below (aj bb hv)) (ai (h2.below (aj bb hv)) (C2.below af hv))));have BV:=ag (cQ W2.heap.size W2).drew;clear C1 C2 h0 h1 h2;refine du (λv=>SvA v w.heap.size (.S p0 D.l0.length c0) (.I D.n0) (.S p1 D.l1.length c1) (.I D.n1) (.S p2 D.l2.length c2) (.I D.n2) q e g x t (.S p n c) (.S r m d)) (by exact HC _ BV) λhS=>?_
 let⟨v,mY⟩:=aB W2.drew
 rw[<-mY]at BV hS⊢;clear mY;refine lG 0 1 4 5 hS ?_;refine jR 8 9 hS ?_;refine cX 2 (λKK hK=>?_);refine iw (vg p0 p1 p2 c0 c1 c2 rfl rfl rfl) ?_;rintro z v1⟨rfl,aG⟩;refine⟨_,rfl,?_⟩;have B1:=ag (aj BV aG);refine fh hK (by exact HC _ B1) λhS=>?_;clear hK KK aG BV;refine cX 3 (λKK hK=>?_);refine iw (xz (ae HR _ B1).1 (ae HR _ B1).2.1 (ae HR _ B1).2.2.1 af af af) ?_;rintro z v2⟨P0,C0,P1,C1,P2,C2,rfl,O3,aK⟩;refine⟨_,rfl,?_⟩;have B2:=ag (aj B1 aK);have O2:=ag (O3.mono B1.size);have L2:=ag (λb(h:(Value.slice P0 D.l0.length C0).ownBlock=some b\/(Value.slice P1 D.l1.length C1).ownBlock=some b\/(Value.slice P2 D.l2.length C2).ownBlock=some b)=>show b<v2.heap.size by rcases h with h|h|h;{exact(Own.lt O3.o0 b h).2};{exact(Own.lt O3.o1 b h).2};{exact(Own.lt O3.o2 b h).2})
 refine fh hK (by exact HC _ B2) λhS=>?_;clear hK KK aK B1 O3;refine cX 6 (λKK hK=>?_);refine iw (ae hC _ (aj bb B2)) ?_;rintro z v3⟨sb,rfl,br,HS⟩;refine⟨_,rfl,?_⟩;have B3:=ag (aj B2 br);have z23:=ag br.size;have O4:=ag (O2.below br);have tJ:=ag HS;refine fh hK (by exact HC _ B3) λhS=>?_;clear hK KK br B2 O2 HS;refine cX 7 (λKK hK=>?_);refine iw tJ ?_;rintro z v4⟨Ps,Cs,Pn,Cn,rfl,SO,fy⟩;refine⟨_,rfl,?_⟩;have B4:=ag (aj B3 fy);have O5:=ag (O4.below fy);have SO2:=ag SO;refine fh hK (by exact HC _ B4) λhS=>?_;clear hK KK fy O4 tJ SO;refine tn 10 hS ?_;refine cX 11 (λKK hK=>?_);have ZC:=(ae HR _ B4).2.2.2;have nf:=ZC.2;have n0:=ZC.1 0 _ rfl;have n1:=ZC.1 1 _ rfl;have n2:=ZC.1 2 _ rfl;have n3:=ZC.1 3 _ rfl;have n4:=ZC.1 4 _ rfl;have n5:=ZC.1 5 _ rfl;have n6:=ZC.1 6 _ rfl;have n7:=ZC.1 7 _ rfl;have n8:=ZC.1 8 _ rfl;have n9:=ZC.1 9 _ rfl;have na:=ZC.1 10 _ rfl;have nb:=ZC.1 11 _ rfl;have nc:=ZC.1 12 _ rfl;go_simp;have EX:=λ(x0 x1 x2 x3 x4 x5 x6 x7 x8 x9 xd xe xf:Value)=>((((((((((((((show wF (w.heap.size+1) v4 v4 from⟨iD _,λ_ _ _=>rfl⟩).set 0 x0).set 1 x1).set 2 x2).set 3 x3).set 4 x4).set 5 x5).set 6 x6).set 7 x7).set 8 x8).set 9 x9).set 10 xd).set 11 xe).set 12 xf);have B4s:=ag B4.size;have B3s:=ag B3.size;refine fh hK (by exact SvA.ex (ae HC _ B4) (EX _ _ _ _ _ _ _ _ _ _ _ _ _) af) λhS=>?_;clear hK KK hS;refine cY ?_;go_wp2;refine dJ (v:=ZI (.S P0 _ C0) _ (.S P1 _ C1) _ (.S P2 _ C2) _ e g x t (.S Ps _ Cs) (.S Pn _ Cn) q) (by simp[results,results21,go_sem,n0,n1,n2,n3,n4,n5,n6,n7,n8,n9,na,nb,nc]) rfl ⟨P0,C0,P1,C1,P2,C2,Ps,Cs,Pn,Cn,rfl,v3.heap.size,aI (ae B3s),?_,λb h=>iq (ae L2 b h) (ae z23),?_,?_⟩;{
 refine jC.mono (B:=W2.heap.size) ?_ af
 iterate 13 refine jC.set ?_ bq _
 exact O5};{refine gJ.keep SO2 λb aG aK=>(EX _ _ _ _ _ _ _ _ _ _ _ _ _).2 b aK (aI (ae B3s))};{
 iterate 13 refine ig ?_ al _
 exact aj bb (ae B4)}
def DT(r:Ending)(w:World)(R:iF×Int×Int):Prop:=∃p c q d,r=.returned (.tuple #[dZ R.1.e R.1.g R.1.x R.1.t (.S p R.1.ss.length c) (.S q R.1.ns.length d),.U R.2.1,.I R.2.2])/\vk w (.S p R.1.ss.length c) R.1.ss/\lM w (.S q R.1.ns.length d) R.1.ns
def DT.no{R:iF×Int×Int}(h:Hid (R=(nj,0,C))):DT (.returned (.tuple #[dZ 0 0 0 0 aq aq,.U 0,.I C])) w R:=by
 rw[ae h];exact⟨none,0,none,0,rfl,(uE).rd,yZ⟩
def V8(w:World)(sb:Nat)(D:SD):Prop:=∃p c q d,BX w sb [.U D.e,.U D.g,.U D.x,.I D.t,.S p D.ss.length c,.S q D.ns.length d]/\vk w (.S p D.ss.length c) D.ss/\lM w (.S q D.ns.length d) D.ns
def V8.below(h:V8 w sb D)(hb:Bw w w'):V8 w' sb D:=by
 obtain⟨p,c,q,d,h1,h2,h3⟩:=h;exact⟨p,c,q,d,h1.below hb,h2.below hb,h3.below hb⟩
theorem ad4{q:OA}(en:l.length=n)(hb:aN l)(hl:Mg n)(hr:Rd w (.S q n d) l)(hn:n<=d)(ha:Adr w q d){o:Option Rq}(ho:qt l o):Cp 74 #[.S q n d] w λr w'=>∃(K S F:Nat)(P V:LI)(p':OA)(c':Nat)(q':OA)(d':Nat)(C:Int),r=.returned (.tuple #[zl K S (.S p' P.length c') F (.S q' V.length d') 0 0,.I C])/\(Rd w' (.S p' P.length c') P/\Rd w' (.S q' V.length d') V/\P.length<=c'/\c'<=maxLen)/\Bw w w'/\((o=none/\C=13)\/(o=some (K,S,F,P,V)/\C=0)):=by
 cases o with
 |none=>
  refine(aG6 en hb hl ho q d w aA hr hn ha).mono ?_;rintro r w'⟨p',c',q',d',B,rfl,-,oP,-,oV,aG⟩;exact⟨0,0,0,[],[],p',c',q',d',13,rfl,⟨oP.rd,oV.rd,gr _,oP.qm⟩,aG,.inl ⟨rfl,rfl⟩⟩
 |some o=>
  obtain⟨K,S,F,P,V⟩:=o;refine(ad3 en hb hl ho q d w aA hr hn ha).mono ?_;rintro r w'⟨p',c',q',d',B,rfl,-,oP,-,oV,aG⟩;exact⟨K,S,F,P,V,p',c',q',d',0,rfl,⟨oP.rd,oV.rd,oP.cap,oP.qm⟩,aG,.inr ⟨rfl,rfl⟩⟩
theorem ad7(p0 p1 p2:OA)(n0 c0 n1 c1 n2 c2:Nat)(s0 s1 s2:Int)(l0 l1:LI)(e0:Le l0 n0)(e1:Le l1 n1)(w:World)(h0:Rd w (.S p0 n0 c0) l0)(h1:Rd w (.S p1 n1 c1) l1)(m0:Mg n0)(m1:Mg n1)(m2:Mg n2)(k0:n0<=c0)(k1:n1<=c1)(j0:Hid (c0<=maxLen))(j1:Hid (c1<=maxLen))(a1:Hid ((p1=none/\c1=0)\/∃b o,p1=some (Ad b o)))(b0:Hid (aN l0))(b1:Hid (aN l1))(dop:LI->Option Rq)(hd:Hid (∀l,qt l (dop l)))(ok:Bool)(Eo:Hid (Cw n0 s0 n1 s1 n2 s2=ok))(R:iF×Int×Int)(eR:Hid (UL dop l0 l1 ok=R)):Calls prog 34 #[dE (.S p0 n0 c0) s0 (.S p1 n1 c1) s1 (.S p2 n2 c2) s2] w λr w'=>DT r w' R/\Bw w w':=by
 obtain⟨W0,fL,q0,z0,C0,-⟩:=au w #[.S p0 n0 c0,.I s0,.S p1 n1 c1,.I s1,.S p2 n2 c2,.I s2] 37
 let⟨W1,mg,q1,z1,C1⟩:=sr W0
 rw[z0]at C1 z1;have bW:=aj q0 q1;have HA:=ag (λ(v:World)(hv:Bw W1 v)=>ai ((C0.below af q1).below af hv).c6 (ai (h0.below (aj bW hv)) (ai (h1.below (aj bW hv)) (ai (C1.below hv) (aj bW hv)))));have HZ:=ag (ai z0 z1);clear q0 q1 C0 C1 bW h0 h1 z0 z1
 go_in
 go_wp2_with fail;rw[<-fL,<-mg];clear fL mg;refine(wV af af af).mono ?_;rintro r w1⟨rfl,aG⟩;rw[ae Eo];have B1:=ag aG;have jd:=aG.size;clear aG Eo;cases ok with
 |false=>
  have HD:Hid (R=(nj,0,1)):=by show _=_;rw[<-ae eR];rfl
  let⟨r0,r1,r2,r3,r4,r5,rf⟩:=(ae HA w1 B1).2.2.2.1.cells
  have BB:=(ae HA w1 B1).2.2.2.2;clear jd;go_wp2;exact dJ (by simp[results,results34,go_sem,r0,r1,r2,r3,r4,r5]) rfl ⟨DT.no HD,qn BB⟩
 |true=>
  let⟨W2,mu,b2,z2,C2⟩:=sr w1
  have B2:=ag (aj B1 b2)
  let⟨sb,UZ⟩:=aB w1.heap.size
  rw[<-UZ]at C2;have Wh:=ag C2;have ap4:Hid (w.heap.size+2<=sb/\sb<W2.heap.size):=⟨aI HZ.2,af⟩;obtain⟨⟨i0,i1,i2,i3,i4,i5,-⟩,-⟩:=ae HA W2 B2;clear jd b2 z2 C2 B1;subst mu
  go_upto_if 28 with fail
  clear i0 i1 i2 i3 i4 i5;rw[<-UZ]
  let⟨W2,mu⟩:=aB (w1.alloc (.cells #[.U 0,.U 0,.U 0,.I 0,aq,aq] 41))
  rw[<-mu]at B2 Wh ap4⊢;clear mu UZ
  go_cut[6](λsv wc=>∃(D:SD)(q:Int),sv=.U q/\Hid (xL l1=some (D,q))/\Hid (V8 wc sb D)/\Hid (Bw W1 wc/\sb<wc.heap.size))
  case first=>(
 by_cases MX:n1=0;{
 have xw:¬(0:Int)<(n1:Int):=af;have HD:Hid (xL l1=some (⟨0,0,0,0,[],[]⟩,0)):=by show _=_;rw[xL,bO (ae e1▸MX)]
 clear MX;go_wp2_with fail;go_meet;exact⟨⟨0,0,0,0,[],[]⟩,0,rfl,HD,ag ⟨none,0,none,0,Wh,(uE).rd,yZ⟩,ag ⟨B2,ap4.2⟩⟩};{
 have xw:=mW 0 n1;obtain⟨⟨i0,i1,i2,i3,i4,i5,-⟩,-⟩:=ae HA W2 B2;go_wp2_with fail;clear i0 i1 i2 i3 i4 i5;by_cases h20:n1<20;{
 refine(IY h20).mono ?_;rintro r w3⟨p3,c3,rfl,-,br⟩;have HD:Hid (R=(nj,0,13)):=by show _=_;rw[<-ae eR];exact pY (JX (ae e1▸MX) (ae e1▸h20))
 let⟨r0,r1,r2,r3,r4,r5,rf⟩:=(ae HA w3 (aj B2 br)).2.2.2.1.cells
 have BB:=(ae HA w3 (aj B2 br)).2.2.2.2;clear br;go_wp2;exact dJ (by simp[results,results34,go_sem,r0,r1,r2,r3,r4,r5]) rfl ⟨DT.no HD,qn BB⟩};{
 obtain⟨pb,po,rfl⟩:∃b o,p1=some (Ad b o):=by rcases ae a1 with⟨-,h⟩|h;{omega};{exact h}
 have Vc:¬l1.length<20:=ae e1▸h20;refine(Ye e1 (ae HA W2 B2).2.2.1 b1 af m1 k1 j1).mono ?_;intro r w3 hdp;unfold qX at hdp;by_cases hs:dD (num (sub l1 4 12)) (sub l1 16 (n1-4))=l1;{
 rw[bO hs]at hdp;obtain⟨p3,c3,rfl,o3,br⟩:=hdp
 let⟨q,eq⟩:=aL (num (sub l1 4 12))
 have hq:=kM (b1.sub 4 12) (by simp[sub];omega)
 let⟨B,eB⟩:=aL (sub l1 16 (n1-4))
 have Ru:Hid (B.length=n1-20):=by show _=_;rw[<-eB,dM (by rw[ae e1];omega)];omega
 have Tp:Hid (aN B):=by show aN B;rw[<-eB];exact b1.sub _ _
 rw[eq]at hq;rw[eB]at o3;rw[eq];have HS:Hid (xL l1=if 4611686018427387904<q then none else(dP B).map λr=>(⟨r.1.1,r.1.2.1,r.1.2.2,0,r.2.1,r.2.2⟩,q)):=by show _=_;by_cases hb:4611686018427387904<q;{rw[bO hb,Wt Vc (eq▸hb)]};{rw[bH hb,Ws Vc (ae e1▸hs) (eq▸hb),ae e1,eq,eB]}
 have B3:=ag (aj B2 br);have X3:=ag (Wh.below br);have hz3:=br.size;by_cases Vj:4611686018427387904<q;{
 have HD:Hid (R=(nj,0,13)):=by show _=_;rw[<-ae eR];exact pY (by rw[ae HS,bO Vj])
 let⟨r0,r1,r2,r3,r4,r5,rf⟩:=(ae HA w3 B3).2.2.2.1.cells
 have BB:=(ae HA w3 B3).2.2.2.2;go_wp2;exact dJ (by simp[results,results34,go_sem,r0,r1,r2,r3,r4,r5]) rfl ⟨DT.no HD,qn BB⟩};{
 have Om:=ae HS;rw[bH Vj]at Om;have tJ:=ag Om;have HO:=ag (ai o3.rd o3.cap);have HZ3:=ag hz3;go_wp2_with fail;refine(aG7 Ru HO.1 Tp af HO.2).mono ?_;rintro r w4⟨⟨ps,cs,pn,cn,rfl,Xi⟩,fy⟩;have B4:=ag (aj B3 fy);have X4:=ag (X3.below fy);have Xg:=fy.size;cases hP:dP B with
 |none=>
  have HD:Hid (R=(nj,0,13)):=by show _=_;rw[<-ae eR];exact pY (by rw[ae tJ,hP];rfl)
  simp only[Ip,Iq,nj,BO];obtain⟨W5,hW5,b5,z5,C5,-⟩:=au w4 #[.U 0,.U 0,.U 0,.I 0,.S ps 0 cs,.S pn 0 cn] 41
  let⟨r0,r1,r2,r3,r4,r5,rf⟩:=(ae HA W5 (aj B4 b5)).2.2.2.1.cells
  have BB:=(ae HA W5 (aj B4 b5)).2.2.2.2;subst hW5;go_wp2;exact dJ (by simp[results,results34,go_sem,r0,r1,r2,r3,r4,r5]) rfl ⟨DT.no HD,qn BB⟩
 |some s=>
  have HD:Hid (xL l1=some (⟨s.1.1,s.1.2.1,s.1.2.2,0,s.2.1,s.2.2⟩,q)):=by show _=_;rw[ae tJ,hP];rfl
  rw[hP]at Xi;simp only[Ip,Iq]at Xi⊢;obtain⟨⟨e,g,x⟩,ss,ns⟩:=s;simp only at Xi HD⊢
  let⟨n,en⟩:=bG ss.length
  let⟨m,em⟩:=bG ns.length
  rw[ae en,ae em]at Xi⊢;obtain⟨W5,hW5,b5,z5,C5,-⟩:=au w4 #[.U e,.U g,.U x,.I 0,.S ps n cs,.S pn m cn] 41;have X5:=X4.below b5
  let⟨r0,r1,r2,r3,r4,r5,rf⟩:=X5.cells
  obtain⟨t0,t1,t2,t3,t4,t5,-⟩:=C5.c6
  let⟨Z,hZ⟩:=aB (dG W5 sb (.U e) (.U g) (.U x) (.I 0) (.S ps n cs) (.S pn m cn))
  have XZ:=X5.put (.U e) (.U g) (.U x) (.I 0) (.S ps n cs) (.S pn m cn);have jl:sb<w3.heap.size:=iq ap4.2 HZ3;have RZ:=(Xi.keep (w':=Z) (λy h1 h2=>by rw[hZ];exact(jX af).trans (b5.block y h2))).rdc;have BZ:Bw W1 Z:=by rw[hZ];exact(aj (ae B4) b5).trans ((dr _ _ _ _ _ _ _).mono (by have:=ap4.1;have:=HZ.2;omega))
  have zZ:sb<Z.heap.size:=by rw[hZ,rU];omega
  rw[<-hZ]at XZ;have HN:=ag (ai XZ (ai RZ (ai BZ zZ)));subst hW5;unfold dG at hZ;go_wp2_with fail;rw[<-hZ];go_meet;refine⟨⟨e,g,x,0,ss,ns⟩,q,rfl,HD,ag ⟨ps,cs,pn,cn,?_,?_,?_⟩,ag HN.2.2⟩;{simp only[ae en,ae em];exact HN.1};{simp only[ae en];exact HN.2.1.1.rd};{simp only[ae em];exact HN.2.1.2}}};{
 rw[bH hs]at hdp;obtain⟨p3,c3,rfl,-,br⟩:=hdp;have HD:Hid (R=(nj,0,13)):=by show _=_;rw[<-ae eR];exact pY (ae0 Vc (ae e1▸hs))
 let⟨r0,r1,r2,r3,r4,r5,rf⟩:=(ae HA w3 (aj B2 br)).2.2.2.1.cells
 have BB:=(ae HA w3 (aj B2 br)).2.2.2.2;go_wp2;exact dJ (by simp[results,results34,go_sem,r0,r1,r2,r3,r4,r5]) rfl ⟨DT.no HD,qn BB⟩}}})
  case rest=>(
 obtain⟨D,q,rfl,HS,HV,HW⟩:=hcut;have HG:=ag (Ul (ae b1) (ae e1▸m1) (ae HS));have HD:Hid (∀X:SD×Int,pG dop D q (rl l0)=X->R=(Nw X.1,X.2,0)):=λX e=>by rw[<-ae eR];exact Ab (ae HS) e
 obtain⟨⟨i0,i1,i2,i3,i4,i5,-⟩,-⟩:=ae HA wc HW.1;go_wp2_with fail;refine(CJ (ae HA wc HW.1).2.1 b0 e0 m0 k0 j0).mono ?_;rintro r w4⟨pr,cr,vs,rfl,hor,fy⟩
 let⟨nr,enr⟩:=bG (rl l0).length
 obtain⟨tk,etk⟩:∃k,(sC (rl l0):Int)=k:=⟨_,rfl⟩;have RC:=ag hor.rct;have hnr:nr<=2097152:=by rw[<-ae enr];exact fu (af5) (by rw[ae e0];omega)
 rw[ae enr,etk];have HI:=ag (ai (HV.below fy) (aj HW.1 fy));have HL:=ag (ai fy.size HW.2);have HRG:=ag (EH b0)
 let⟨rs,ers⟩:=aL (rl l0)
 rw[ers]at HD RC HRG enr
 go_upto_block 0 with fail
 let⟨X,eX⟩:=bG (pG dop D q rs)
 have HDX:=ag (ae HD X eX);have HGX:Hid (GQ X.1 X.2):=by show GQ X.1 X.2;rw[<-ae eX];exact EG (ae hd) _ (ae HG) (ae HRG)
 clear HD
 go_cut[6]from 61 to 106 (λqv wc=>qv=.U X.2/\Hid (V8 wc sb X.1)/\Hid (Bw W1 wc/\sb<wc.heap.size))
 case first=>(
 go_wp2_with fail
 go_loopw[6,14](λqv iv wr=>∃(j:Nat)(q1:Int)(D1:SD),j<=nr/\qv=.U q1/\iv=.I j/\Hid (pG dop D1 q1 (rs.drop j)=X/\GQ D1 q1)/\Hid (V8 wr sb D1)/\Hid (Bw W1 wr/\Fr [41] w4 wr/\sb<wr.heap.size)) (λ_ iv _=>nr-(intOf iv).toNat)
 exact⟨0,q,D,gr _,rfl,rfl,ag ⟨by rw[sU];exact ae eX,ae HG⟩,ag HI.1,ag ⟨HI.2,Fr.refl _ _,iq HL.2 HL.1⟩⟩;{
 clear HI;obtain⟨j,q1,D1,hj,rfl,rfl,HE,HV,HW⟩:=hrel;by_cases bf:j<nr;{
 have bL:=aU j nr;obtain⟨⟨s,body⟩,hr⟩:∃r,rs[j]?=some r:=⟨_,aY (ae enr▸bf)⟩;have mZ:=ae HRG _ (aT hr);obtain⟨rb,ro,rq,rd,rfl,f0,f1,tb,ad,cp⟩:=(RC.fr HW.2.1).at hr;simp only at f0 f1 tb cp;have s0':0<=s:=mZ.2.2.1;have s1':s<2^64:=mZ.2.2.2
 let⟨m,em⟩:=bG body.length
 rw[ae em]at f1 tb cp;have hm:m<=1000:=ae em▸mZ.2.1;have q0:=HE.2.2.1;have q9:=HE.2.2.2;have wj:IntKind.i64.wrap ((j:Int)+1)=((j+1:Nat):Int):=by rw[kU _ af];omega
 have wq:IntKind.u64.wrap (q1+1)=q1+1:=by rw[mK];omega
 obtain⟨W5,hW5,b5,z5,C5,-⟩:=au wr #[.U s,.S rq m rd] 74;have g0:=C5.1 0 _ rfl;have g1:=C5.1 1 _ rfl;have HW5:=ag (ai (HV.below b5) (ai (aj HW.1 b5) (ai (HW.2.1.trans (Fr.below (T:=[41]) b5)) (ai (tb.1.below b5) (ai (ad.size b5.size) (ai (C5.below af aA) (iq HW.2.2 b5.size)))))));have HS:=ag (ai hr mZ);have HZ5:=ag z5;clear hr mZ tb ad b5 z5 C5;subst hW5;by_cases h1:s<=q1;{have E2:Hid (pG dop D1 q1 (rs.drop (j+1))=X/\GQ D1 q1):=⟨by rw[<-HE.1,vF HS.1 (Pj h1)],HE.2⟩;go_wp2;go_roundw;exact⟨j+1,q1,D1,af,rfl,by go_num,E2,ag HW5.1,ag ⟨HW5.2.1,HW5.2.2.1,HW5.2.2.2.2.2.2⟩⟩;exact cg};{
 have H1:Hid (q1<s):=by show _<_;omega
 clear h1;have h1:¬s<=q1:=aI (ae H1);go_wp2_with fail;refine(ad4 em HS.2.1 af HW5.2.2.2.1 cp HW5.2.2.2.2.1 (ae hd body)).mono ?_;rintro r w6⟨K,S,F,P,V,p',c',q',d',C,rfl,Jp,ko,hor⟩
 let⟨np,enp⟩:=bG P.length
 let⟨nv,env⟩:=bG V.length
 rw[ae enp,ae env]at Jp⊢;obtain⟨W7,hW7,b7,z7,C7,-⟩:=au w6 #[.I K,.U S,.S p' np c',.I F,.S q' nv d',.U 0,.U 0] 121;have b67:=aj ko b7;have Tw:=ag (ai (HW5.1.below b67) (ai (aj HW5.2.1 b67) (ai (HW5.2.2.1.trans (Fr.below (T:=[41]) b67)) (ai (iq HW5.2.2.2.2.2.2 b67.size) (ai (Jp.1.below b7) (Jp.2.1.below b7))))));have HOP:=ag Jp.2.2;have HC7:=ag C7;have HOR:=ag hor;have g7:=(HW5.2.2.2.2.2.1.below (by rw[ae HZ5];omega) b67).1 0 _ rfl;clear Jp ko hor b7 z7 C7 b67 g0 g1 f0 f1;subst hW7;by_cases Ng:s≠q1+1\/4611686018427387904<s;{
 have E2:Hid (X=(D1,q1)):=by show _=_;rw[<-HE.1,oR HS.1 (Bp (by have:=ae H1;simp only;omega) Ng)]
 have e:=ae E2;clear HE E2;subst e;by_cases h2:s=q1+1;{
 have h3:4611686018427387904<s:=af;have e2:(s != q1+1)=false:=by simp[h2]
 clear h2 Ng;go_wp2_with fail;go_meet;exact⟨rfl,ag Tw.1,ag ⟨Tw.2.1,Tw.2.2.2.1⟩⟩};{
 have e2:(s != q1+1)=true:=by simp[h2]
 clear h2 Ng;go_wp2_with fail;go_meet;exact⟨rfl,ag Tw.1,ag ⟨Tw.2.1,Tw.2.2.2.1⟩⟩}};{
 have db:=Pk (dop:=dop) (D:=D1) (q:=q1) (r:=(s,body)) (by have:=ae H1;simp only;omega) Ng;simp only at db;have qV:=ag db;have h3:¬4611686018427387904<s:=λh=>Ng (.inr h);have e2:(s != q1+1)=false:=by have h2:s=q1+1:=aV4 λh=>Ng (.inl h);simp[h2]
 clear Ng db;rcases ae HOR with⟨hN,rfl⟩|⟨hN,rfl⟩;{
 have E2:Hid (X=(D1,q1)):=by show _=_;rw[<-HE.1,oR HS.1 (by rw[ae qV,hN];rfl)]
 have e:=ae E2;clear HE E2 hN;subst e;go_wp2_with fail;go_meet;exact⟨rfl,ag Tw.1,ag ⟨Tw.2.1,Tw.2.2.2.1⟩⟩};{
 have hdk:qt body (some (K,S,F,P,V)):=hN▸ae hd body;obtain⟨bP,-⟩:=JN.byt hdk HS.2.1;have KO:=JN.parts hdk;simp only at KO;have YK:np<=1000:=by have:=ae enp;have:=ae em;omega
 have hvn:nv<=1000:=by have:=ae env;have:=ae em;omega
 rw[hN]at qV
 let⟨A,eA⟩:=bG (fx D1 K S F 0 0 P V)
 have db:=ae qV;simp only[rdL,apL]at db;rw[ae eA]at db;have aS3:=ag db
 let⟨ps,cs,pn,cn,XB,rS,rN⟩:=Tw.1
 let⟨n,en⟩:=bG D1.ss.length
 let⟨mm,emm⟩:=bG D1.ns.length
 rw[ae en]at XB rS;rw[ae emm]at XB rN;have HAP:=ag (bd4 HE.2.1 en emm enp env rS rN Tw.2.2.2.2.1 Tw.2.2.2.2.2 af af HOP.1 HOP.2 bP (JN.jo hdk) eA);obtain⟨r0,r1,r2,r3,r4,r5,-⟩:=XB.cells;obtain⟨o0,o1,o2,o3,o4,o5,o6⟩:_/\_/\_/\_/\_/\_/\_:=⟨HC7.1 0 _ rfl,HC7.1 1 _ rfl,HC7.1 2 _ rfl,HC7.1 3 _ rfl,HC7.1 4 _ rfl,HC7.1 5 _ rfl,HC7.1 6 _ rfl⟩;have HXB:=ag XB;clear hN hdk bP KO qV db XB rS rN;go_wp2_with fail;clear r0 r1 r2 r3 r4 r5 o0 o1 o2 o3 o4 o5 o6;refine HAP.mono ?_;rintro r w8⟨p8,c8,q8,d8,Dv,Nv,Ev,Qs,rfl,hS8,hN8,tD,tN,tE,F8,b8⟩;obtain⟨y1,x1,rfl⟩:=tD.cq4;obtain⟨y2,x2,rfl,-⟩:=tN.form;obtain⟨y3,x3,rfl,-⟩:=RT.form tE
 let⟨v1,ev1⟩:=bG A.2.Oy.length
 let⟨v2,ev2⟩:=bG A.2.nms.length
 let⟨v3,ev3⟩:=bG A.2.Np.length
 let⟨n8,en8⟩:=bG A.1.ss.length
 let⟨m8,em8⟩:=bG A.1.ns.length
 rw[ae en8]at hS8;rw[ae em8]at hN8;rw[ae ev1,ae ev2,ae ev3,ae en8,ae em8];clear tD tN tE;obtain⟨W9,hW9,b9,z9,C9,-⟩:=au w8 #[.U A.1.e,.U A.1.g,.U A.1.x,.I A.1.t,.S p8 n8 c8,.S q8 m8 d8] 41;obtain⟨Wa,hWa,ba,za,Ca,-⟩:=au W9 #[.I A.2.k,.U A.2.i,.U A.2.e,.U A.2.g,.I A.2.n,.S y1 v1 x1,.S y2 v2 x2,.S y3 v3 x3] 127;have b9a:=aj b9 ba;have b8a:=aj b8 b9a;have F9a:=Fr.below (T:=[41]) b9a;have HWa:=ag (ai (Tw.1.below b8a) (ai (aj Tw.2.1 b8a) (ai (Tw.2.2.1.trans (Fr.below (T:=[41]) b8a)) (iq Tw.2.2.2.1 b8a.size))));have HXa:=ag (HXB.below b8a);have H9:=ag (ai (hS8.fr F9a) (gq.fr hN8 F9a));have u0:=Ca.1 0 _ rfl;obtain⟨t0,t1,t2,t3,t4,t5,-⟩:=(C9.below af ba).c6;have gA:Wa.cell? (Ad wr.heap.size 0)=some (.U s):=by have:=ah g7 b8a;exact this
 rw[z9]at u0;clear hS8 hN8 F8 b8 b9 z9 C9 ba za Ca b9a b8a F9a HXB g7;subst hWa hW9;by_cases hk:A.2.k=0;{
 have db:qL dop D1 q1 (s,body)=some (A.1,s):=by rw[ae aS3,bO hk];rfl
 have E2:Hid (pG dop A.1 s (rs.drop (j+1))=X/\GQ A.1 s):=⟨by rw[<-HE.1,vF HS.1 db],FK (ae hd) HE.2 HS.2 db⟩
 let⟨r0,r1,r2,r3,r4,r5,rf⟩:=HXa.cells
 let⟨Wb,hWb⟩:=aB ((w8.alloc (.cells #[.U A.1.e,.U A.1.g,.U A.1.x,.I A.1.t,.S p8 n8 c8,.S q8 m8 d8] 41)).alloc (.cells #[.I A.2.k,.U A.2.i,.U A.2.e,.U A.2.g,.I A.2.n,.S y1 v1 x1,.S y2 v2 x2,.S y3 v3 x3] 127))
 let⟨Z,hZ⟩:=aB (dG Wb sb (.U A.1.e) (.U A.1.g) (.U A.1.x) (.I A.1.t) (.S p8 n8 c8) (.S q8 m8 d8))
 rw[<-hWb]at HXa HWa H9 gA;have XZ:=HXa.put (.U A.1.e) (.U A.1.g) (.U A.1.x) (.I A.1.t) (.S p8 n8 c8) (.S q8 m8 d8)
 let⟨cur,Vh⟩:=HXa.2
 have FZ:Fr [41] Wb Z:=hZ▸ju Vh;have gZ:Z.cell? (Ad wr.heap.size 0)=some (.U s):=by rw[hZ];exact(aF (jX (aI HW.2.2)) _).trans gA
 have BZ:Bw W1 Z:=by rw[hZ];exact HWa.2.1.trans ((dr _ _ _ _ _ _ _).mono (by have:=ap4.1;have:=HZ.2;omega))
 have zZ:sb<Z.heap.size:=by rw[hZ,rU];exact HWa.2.2.2
 rw[<-hZ]at XZ;have VZ:Hid (V8 Z sb A.1):=⟨p8,c8,q8,d8,by simp only[ae en8,ae em8];exact XZ,by simp only[ae en8];exact(H9.1.fr FZ).rds,by simp only[ae em8];exact gq.rdn (gq.fr H9.2 FZ)⟩;have HN:=ag (ai BZ (ai (HWa.2.2.1.trans FZ) zZ));have ek:(A.2.k != 0)=false:=by simp[hk]
 unfold dG at hZ;rw[hWb]at hZ;rw[hZ]at gZ;clear db XZ Vh FZ BZ zZ hk HE HXa HWa H9 gA hWb;go_wp2;rw[<-hZ];go_roundw;exact⟨j+1,s,A.1,af,rfl,by go_num,E2,VZ,HN⟩;exact cg};{
 have E2:Hid (X=(D1,q1)):=by show _=_;rw[<-HE.1,oR HS.1 (by rw[ae aS3,bH hk];rfl)]
 have e:=ae E2;clear HE E2;subst e;have ek:(A.2.k != 0)=true:=by simp[hk]
 clear hk;go_wp2_with fail;go_meet;exact⟨rfl,ag HWa.1,ag ⟨HWa.2.1,HWa.2.2.2⟩⟩}}}}};{
 have bL:=dB j nr;have ejn:j=nr:=af;have E2:Hid (X=(D1,q1)):=by show _=_;rw[<-HE.1,ejn,<-ae enr,PJ]
 have e:=ae E2;clear HE E2;subst e;go_wp2_with fail;go_meet;exact⟨rfl,HV,ag ⟨HW.1,HW.2.2⟩⟩}})
 case rest=>(
 obtain⟨rfl,HV,HW⟩:=hcut
 let⟨p9,c9,q9,d9,X9,rS,rN⟩:=ae HV
 let⟨n,en⟩:=bG X.1.ss.length
 let⟨m,em⟩:=bG X.1.ns.length
 rw[ae en]at X9 rS;rw[ae em]at X9 rN;obtain⟨r0,r1,r2,r3,r4,r5,-⟩:=X9.cells;have hV:=HGX.1;have HDU:=ag (bU8 (e:=X.1.e) (g:=X.1.g) (x:=X.1.x) (t:=X.1.t) en em rS rN (by rw[<-ae en];have:=hV.sl;omega) (by rw[<-ae em];have:=hV.nl;omega) (ag λs hs=>⟨(hV.qg s hs).1,λev he=>((hV.qg s hs).2 ev he).2⟩) (ag λnd bu=>(hV.gh nd bu).2));clear X9 rS rN hV;go_wp2_with fail;clear r0 r1 r2 r3 r4 r5;refine HDU.mono ?_;rintro r w9⟨pa,ca,qa,da,B9,Q9,rfl,-,hS9,hN9,DE⟩;obtain⟨-,-,-,XR,BB⟩:=ae HA w9 (aj HW.1 DE)
 let⟨r0,r1,r2,r3,r4,r5,rf⟩:=XR.cells
 let⟨cur,Vh⟩:=XR.2
 have F9:=ju (v0:=.U X.1.e) (v1:=.U X.1.g) (v2:=.U X.1.x) (v3:=.I 0) (v4:=.S pa n ca) (v5:=.S qa m da) Vh;have HF:=ag (ai (hS9.fr F9).rds (gq.rdn (gq.fr hN9 F9)));clear hS9 hN9 F9 DE XR Vh;go_wp2;refine dJ (v:=.tuple #[dZ X.1.e X.1.g X.1.x 0 (.S pa n ca) (.S qa m da),.U X.2,.I 0]) (by simp[results,results34,go_sem,r0,r1,r2,r3,r4,r5]) rfl ⟨?_,qn BB⟩;rw[ae HDX];refine⟨pa,ca,qa,da,?_,?_,?_⟩;{simp only[Nw,fN,ae en,ae em]};{simp only[Nw,fN,ae en];exact HF.1};{simp only[Nw,fN,ae em];exact HF.2}))
def ad2(e g x t:Int)(p q:OA)(c n d m:Nat)(ss:List aQ)(ns:List aD)(en:Le ss n)(em:Le ns m)(w:World)(h:kr w (.S p n c) ss)(hN:lM w (.S q m d) ns)(hn:Mg n)(hm:Mg m)(HF:yB ss ns)(hsd:Hid (∀(i j:Nat)(s s':aQ),ss[i]?=some s->ss[j]?=some s'->i<j->s.1≠s'.1))(IG:Hid (∀nd∈ns,(∀i∈nd.holders,0<=i/\i<2^64)/\∀i∈nd.watchers,0<=i/\i<2^64))(bu:Hid (∀(i j:Nat)(z z':aD),ns[i]?=some z->ns[j]?=some z'->i<j->z.path≠z'.path)):XL w (dZ e g x t (.S p n c) (.S q m d)) e g x t ss ns:=λv hv=>by
 refine(qK en em (h.below hv) (hN.below hv) hn hm (by exactλs hs=>(HF.s2 s hs).1) hsd (by exactλnd hd=>⟨(HF.n2 nd hd).1,(HF.n2 nd hd).2.1,(HF.n2 nd hd).2.2.1,(HF.n2 nd hd).2.2.2.1,(HF.n2 nd hd).2.2.2.2.1⟩) IG bu).mono ?_;rintro r w'⟨b,bs,bn,SB,NB,HB,UB,rfl,db,hb⟩;have l1:ss.length<=1048576:=ae en▸hn;have l2:ns.length<=1048576:=ae em▸hm;refine⟨b,rfl,hb,(Bt (bc9 db hb l1 l2) HF.s1 HF.n1 l1 l2 HF.s2 HF.n2).mono ?_⟩;rintro z u⟨p',c',q',d',A1,A2,rfl,a1,a2,a3,a4,a5,a6⟩;exact⟨p',c',q',d',rfl,⟨A1,A2,a1,a2,a3,a4,a5⟩,a6⟩
def aw1(e g x:Nat)(t:Int)(he:e<2^64)(hg:g<2^64)(hx:x<2^64)(p q:OA)(c n d m:Nat)(ss:List aQ)(ns:List aD)(en:Le ss n)(em:Le ns m)(w:World)(h:kr w (.S p n c) ss)(hN:lM w (.S q m d) ns)(hn:Mg n)(hm:Mg m)(qg:Hid (∀s∈ss,s.2.2.length<=1048576/\∀e∈s.2.2,aN e.2/\e.2.length<=1048576))(gh:Hid (∀nd∈ns,aN nd.path/\nd.path.length<=1048576/\nd.value.length<=1048576/\nd.holders.length<=1048576/\nd.watchers.length<=1048576))(IG:Hid (∀nd∈ns,(∀i∈nd.holders,0<=i/\i<2^64)/\∀i∈nd.watchers,0<=i/\i<2^64))(Xm:Hid (∀nd∈ns,0<=nd.owner/\nd.owner<2^64))(hep:Hid (∀nd∈ns,(0<=nd.aE/\nd.aE<2^64)/\0<=nd.gen/\nd.gen<2^64))(IK:ML w)(R:LI)(eR:Hid (Cr e g x t ss ns=R))(L:Nat)(eL:Le R L):XS w (dZ e g x t (.S p n c) (.S q m d)) R L:=λv hv=>
 Xf he hg hx en em (h.below hv) (hN.below hv) hn hm qg gh IG Xm hep (IK.below hv) eR eL
def VD.hep(h:VD D):∀nd∈D.ns,(0<=nd.aE/\nd.aE<2^64)/\0<=nd.gen/\nd.gen<2^64:=λnd bu=>by
 have hn:=h.n2 nd bu;have a:=hn.ep;have b:=h.e;have c:=h.g;have l:=hn.lk;unfold ew at l;split at l<;>simp only[fk,jj,MF]at l<;>omega
def dk0:Dk:=⟨[],0,[],0,[],0⟩
theorem ldC(dop:LI->Option Rq):(UL dop l0 l1 true).2.2=0\/(UL dop l0 l1 true).2.2=13:=by
 cases hs:xL l1 with
 |none=>rw[pY hs];exact .inr rfl
 |some x=>rw[Ab hs rfl];exact .inl rfl
structure LdG(R:iF×Int×Int):Prop where
 v:VD ⟨R.1.e,R.1.g,R.1.x,R.1.t,R.1.ss,R.1.ns⟩
 q:0<=R.2.1/\R.2.1<=2^62
theorem ldG{dop:LI->Option Rq}(hd:∀l,qt l (dop l))(b0:aN l0)(b1:aN l1)(m1:Mg l1.length)(ok:Bool):LdG (UL dop l0 l1 ok):=by
 cases ok with
 |false=>rw[aK1];exact⟨VD.zero,tL 0,Kh _⟩
 | true=>
  cases hs:xL l1 with
  |none=>rw[pY hs];exact⟨VD.zero,tL 0,Kh _⟩
  |some x=>
   rw[Ab hs rfl]
   let⟨h1,h2⟩:=EG hd (rl l0) (Ul b1 m1 hs) (EH b0)
   exact⟨h1.re (tL _) h1.e.2 ⟨tL 0,Kh _⟩ ⟨tL 0,Kh _⟩,h2⟩
structure SG(S:iF):Prop where
 e:0<=S.e/\S.e<2^64
 g:0<=S.g/\S.g<2^64
 x:0<=S.x/\S.x<2^64
 n:S.ss.length<=1048576
 m:S.ns.length<=1048576
 bs:∀s∈S.ss,s.2.2.length<=1048576/\∀e∈s.2.2,aN e.2/\e.2.length<=1048576
 bn:∀nd∈S.ns,aN nd.path/\nd.path.length<=1048576/\nd.value.length<=1048576/\nd.holders.length<=1048576/\nd.watchers.length<=1048576
 bv:∀nd∈S.ns,aN nd.value
 nu:∀nd∈S.ns,(∀i∈nd.holders,0<=i/\i<2^64)/\∀i∈nd.watchers,0<=i/\i<2^64
 ou:∀nd∈S.ns,0<=nd.owner/\nd.owner<2^64
 ep:∀nd∈S.ns,(0<=nd.aE/\nd.aE<2^64)/\0<=nd.gen/\nd.gen<2^64
def iF.ok(S:iF):Prop:=kG S.e S.g S.x S.t S.ss S.ns=true
def iF.B(S:iF):LI:=DX S.e.toNat S.g.toNat S.x.toNat S.ss S.ns
def VD.sg(h:VD ⟨S.e,S.g,S.x,S.t,S.ss,S.ns⟩):SG S:=by
 have a:=h.e;have b:=h.g;have c:=h.x;have d:=h.sl;have f:=h.nl;simp only at a b c d f;exact⟨af,af,af,af,af,h.qg,h.gh,λnd hn=>(h.n2 nd hn).vb,h.IG,h.Xm,h.hep⟩
def SG.sml(G:SG S)(h:S.ok):V9 S.ss S.ns:=Um h G.nu G.ou G.ep
def SG.JD(G:SG S)(h:S.ok):yB S.ss S.ns:=Av h G.bs G.bn
def SG.bytes(G:SG S)(h:S.ok):S.B.length<=190000/\aN S.B:=by
 have m:=G.sml h;refine⟨(Wp m.w).1,?_⟩;rw[iF.B,<-Wq];refine L5 (aI G.e) (aI G.g) (aI G.x) m.dur λnd bu=>?_;obtain⟨y,hy,rfl⟩:=iR.1 bu;have a:=G.bn y hy;have e:=G.ep y hy;have b:=(m.d y hy).2.1;exact⟨a.1,G.bv y hy,a.2.1,a.2.2.1,a.2.2.2.1,rfl,G.ou y hy,e.1,e.2,(G.nu y hy).1,b.1,by show y.mode<256;omega⟩
def SG.enc(G:SG S)(h:S.ok):Cr S.e S.g S.x S.t S.ss S.ns=S.B:=by rw[Cr,bO (show kG S.e S.g S.x S.t S.ss S.ns=true from h)];rfl
variable {r:OA}
def SG.aw2(G:SG S)(h:S.ok){L:Nat}(h1:kr w (.S p S.ss.length c) S.ss)(h2:lM w (.S r S.ns.length d) S.ns)(hM:ML w)(eL:Le S.B L):XS w (dZ S.e S.g S.x S.t (.S p S.ss.length c) (.S r S.ns.length d)) S.B L:=by
 have k:=G.enc h;obtain⟨e,g,x,t,ss,ns⟩:=S;obtain⟨e,rfl⟩:=xk G.e.1;obtain⟨g,rfl⟩:=xk G.g.1;obtain⟨x,rfl⟩:=xk G.x.1;have a:=G.e;have b:=G.g;have f:=G.x;simp only at a b f;exact aw1 e g x t af af af p r c _ d _ ss ns (ag rfl) (ag rfl) w h1 h2 G.n G.m (ag G.bs) (ag G.bn) (ag G.nu) (ag G.ou) (ag G.ep) hM _ (ag k) L eL
def SG.bC3(G:SG S)(h:S.ok)(h1:kr w (.S p S.ss.length c) S.ss)(h2:lM w (.S r S.ns.length d) S.ns):XL w (dZ S.e S.g S.x S.t (.S p S.ss.length c) (.S r S.ns.length d)) S.e S.g S.x S.t S.ss S.ns:=ad2 S.e S.g S.x S.t p r c _ d _ S.ss S.ns (ag rfl) (ag rfl) w h1 h2 G.n G.m (G.JD h) (ag (G.JD h).s3) (ag G.nu) (ag (G.JD h).n3)
def BlP(P:Prop)(w:World)(z:Ending)(w':World):Prop:=∃b:Bool,Hid (b=true↔P)/\z=.returned (.bool b)/\Bw w w'
variable {P:Prop}
def BlP.no(h:¬P)(hb:Bw w w'):BlP P w (.returned (.bool false)) w':=⟨false,⟨λe=>(by cases e),λe=>absurd e h⟩,rfl,hb⟩
def BlP.yes(h:P)(hb:Bw w w'):BlP P w (.returned (.bool true)) w':=⟨true,⟨λ_=>h,λ_=>rfl⟩,rfl,hb⟩
theorem ac7:∀(f:Nat)(t:Option Int){l:LI},aN l->sC (Co t (yl f l))<=l.length
 |0,t,l,h=>by simp[yl,Co,sC]
 | f+1,t,l,h=>by
  cases hr:ki l with
  |none=>rw[Ew hr];simp[Co,sC]
  |some r=>
   rw[qH hr,Co];split;{have h1:=(oU h (s:=r.1) (b:=r.2) hr).1;have h2:=ac7 f (some r.1) (h.drop (r.2.length+14));rw[r9]at h2;rw[sC];omega};{simp[sC]}
def LgP(l:LI)(q:Int):Prop:=l.length<=4000/\sC (rl l)=l.length/\(rl l=[]\/iJ (rl l)=some q)
def SvP(dop:LI->Option Rq)(D:Dk)(S:iF)(q:Int):Prop:=D.ok/\S.ok/\LgP D.l0 q/\D.n1=D.l1.length/\(UL dop D.l0 D.l1 true).2.2=0/\(UL dop D.l0 D.l1 true).2.1=q/\(UL dop D.l0 D.l1 true).1.B=S.B
def SnT(dop:LI->Option Rq)(D:Dk)(S:iF)(q s:Int)(T:Dk×iF×Int×Int):Prop:=(SvP dop D S q->0<=s/\s<=5->T=(vS (dD q S.B) D s.toNat,S,q,if s<5 then 15 else 0))/\(¬(SvP dop D S q/\0<=s/\s<=5)->T=(dk0,nj,0,1))
def SvI(B:Nat)(w:World)(p0:OA)(c0:Nat)(p1:OA)(c1:Nat)(p2:OA)(c2:Nat)(p:OA)(c:Nat)(r:OA)(d:Nat)(D:Dk)(S:iF):Prop:=
 jC B w (.S p0 D.l0.length c0) (.S p1 D.l1.length c1) (.S p2 D.l2.length c2) D.l0 D.l1 D.l2/\kr w (.S p S.ss.length c) S.ss/\lM w (.S r S.ns.length d) S.ns
def SvI.below{B:Nat}{D:Dk}(h:SvI B w p0 c0 p1 c1 p2 c2 p c r d D S)(hb:Bw w w'):SvI B w' p0 c0 p1 c1 p2 c2 p c r d D S:=⟨h.1.below hb,h.2.1.below hb,h.2.2.below hb⟩
abbrev ID(p0:OA)(c0:Nat)(p1:OA)(c1:Nat)(p2:OA)(c2:Nat)(p:OA)(c:Nat)(r:OA)(d:Nat)(D:Dk)(S:iF)(q:Int):Value:=ZI (.S p0 D.l0.length c0) D.n0 (.S p1 D.l1.length c1) D.n1 (.S p2 D.l2.length c2) D.n2 S.e S.g S.x S.t (.S p S.ss.length c) (.S r S.ns.length d) q
def ar.xA{v6 v7 v8 v9 va vb vc:Value}(h:ar w b [v0,v1,v2,v3,v4,v5,v6,v7,v8,v9,va,vb,vc]):w.cell? (Ad b 0)=some v0/\w.cell? (Ad b 1)=some v1/\w.cell? (Ad b 2)=some v2/\w.cell? (Ad b 3)=some v3/\w.cell? (Ad b 4)=some v4/\w.cell? (Ad b 5)=some v5/\w.cell? (Ad b 6)=some v6/\w.cell? (Ad b 7)=some v7/\w.cell? (Ad b 8)=some v8/\w.cell? (Ad b 9)=some v9/\w.cell? (Ad b 10)=some va/\w.cell? (Ad b 11)=some vb/\w.cell? (Ad b 12)=some vc:=
 ⟨h.1 0 _ rfl,h.1 1 _ rfl,h.1 2 _ rfl,h.1 3 _ rfl,h.1 4 _ rfl,h.1 5 _ rfl,h.1 6 _ rfl,h.1 7 _ rfl,h.1 8 _ rfl,h.1 9 _ rfl,h.1 10 _ rfl,h.1 11 _ rfl,h.1 12 _ rfl⟩
variable {K:Act->World->Prop}{P:Program}{vs:Array Value}
def sXw{Q:Exit->Act->World->Prop}(hc:Calls P f vs w R)(hR:∀e w',R e w'->∃v,e=.returned v/\K (a.put o.dst v) w')(hw:Region.wanted o (yielded ops a.tmps)=true)(ho:o.op=.call {callee:=.value (.func f),args:=xs,argTypes:=Lw})(h1:xs.map a.eval=vs)(ua:∀vs,(callFunc f vs).run P w=.ok (.enter f vs) w):if Region.wanted o (yielded ops a.tmps)=true then Oper.wp P o a w K Q else E:=by
 rw[bO hw];have dK:(execOp a.eval o).run P w=.ok (.enter f vs) w:=by subst h1;unfold execOp;simp[go_sem,ho,resolve,invoke,ua]
 show o.upon P a K Q _;rw[dK,Ki];refine hc.mono ?_;intro e w' h;obtain⟨v,rfl,hk⟩:=hR e w' h;exact hk
def sOw{Q:Exit->Act->World->Prop}{E:Prop}{Lw:Array TypeId}{x:Operand}{v:Value}(hc:Calls P f #[v] w R)(hR:∀e w',R e w'->∃v,e=.returned v/\K (a.put o.dst v) w')(hw:Region.wanted o (yielded ops a.tmps)=true:=by rfl)(ho:o.op=.call {callee:=.value (.func f),args:=#[x],argTypes:=Lw}:=by rfl)(h1:a.eval x=v:=by rfl)(ua:∀vs,(callFunc f vs).run P w=.ok (.enter f vs) w:=by(intro _;kernel_rfl)):if Region.wanted o (yielded ops a.tmps)=true then Oper.wp P o a w K Q else E:=sXw hc hR hw ho (by simp[h1]) ua
def sTw{Q:Exit->Act->World->Prop}{E:Prop}{Lw:Array TypeId}{x y:Operand}{u v:Value}(hc:Calls P f #[u,v] w R)(hR:∀e w',R e w'->∃v,e=.returned v/\K (a.put o.dst v) w')(hw:Region.wanted o (yielded ops a.tmps)=true:=by rfl)(ho:o.op=.call {callee:=.value (.func f),args:=#[x,y],argTypes:=Lw}:=by rfl)(h1:a.eval x=u:=by rfl)(h2:a.eval y=v:=by rfl)(ua:∀vs,(callFunc f vs).run P w=.ok (.enter f vs) w:=by(intro _;kernel_rfl)):if Region.wanted o (yielded ops a.tmps)=true then Oper.wp P o a w K Q else E:=sXw hc hR hw ho (by simp[h1,h2]) ua
abbrev VaS(b z:Nat)(q:Int)(S:iF)(p:OA)(c:Nat)(r:OA)(d:Nat)(T:iF)(p':OA)(c':Nat)(r':OA)(d':Nat)(v:World):Prop:=(v.cell? (Ad b 12)=some (.U q)/\v.cell? (Ad b 6)=some (.U S.e)/\v.cell? (Ad b 7)=some (.U S.g)/\v.cell? (Ad b 8)=some (.U S.x)/\v.cell? (Ad b 9)=some (.I S.t)/\v.cell? (Ad b 10)=some (.S p S.ss.length c)/\v.cell? (Ad b 11)=some (.S r S.ns.length d))/\v.cell? (Ad z 0)=some (.U T.e)/\v.cell? (Ad z 1)=some (.U T.g)/\v.cell? (Ad z 2)=some (.U T.x)/\v.cell? (Ad z 3)=some (.I T.t)/\v.cell? (Ad z 4)=some (.S p' T.ss.length c')/\v.cell? (Ad z 5)=some (.S r' T.ns.length d')
theorem TL:∀rs:List R1,rs.length<=sC rs
 |[]=>iD _
 |r::rs=>by have:=TL rs;simp only[iS,sC];omega
def Q4{r:R1}(h:rs[rs.length-1]?=some r):iJ rs=some r.1:=by rw[iJ,WM,h];rfl
def Lu{n1 n2:Nat}{s0 s1 s2 x:Int}(el:Le l n)(h:Rd w (.S p0 n c0) l)(hB:Hid (aN l))(hn:Mg n)(hc:n<=c0)(DA:Hid (c0<=maxLen))(hp:Hid ((p0=none/\c0=0)\/∃b o,p0=some (Ad b o))):Calls prog 45 #[ZI (.S p0 n c0) s0 (.S p1 n1 c1) s1 (.S p2 n2 c2) s2 e g x t (.S p k c) (.S r m d) q] w (BlP (LgP l q) w):=by
 obtain⟨W,hW,b1,z1,C1,-⟩:=au w #[.S p0 n c0,.I s0,.S p1 n1 c1,.I s1,.S p2 n2 c2,.I s2,.U e,.U g,.U x,.I t,.S p k c,.S r m d,.U q] 43
 go_in
 go_wp2_with fail;rw[<-hW];refine(Dr (h.below b1) hB el hn hc DA hp).mono ?_;rintro z w1⟨P,C,vs,rfl,o,hb⟩
 let⟨rs,ers⟩:=bG (rl l)
 let⟨K,eK⟩:=bG rs.length
 let⟨T,eT⟩:=bG (sC rs)
 rw[ae ers,ae eK]at o⊢;rw[ae eT];have hT:T<=n:=by rw[<-ae eT,<-ae ers,<-ae el];exact ac7 _ _ (ae hB)
 have hK:K<=T:=by rw[<-ae eT,<-ae eK];exact TL rs
 have nc:=(C1.below af hb).1 12 _ rfl;have B1:=ag (aj b1 hb);have HL:Hid (LgP l q↔(n<=4000/\T=n/\(K=0\/iJ rs=some q))):=by show _↔_;rw[LgP,ae ers,ae eT,ae el,<-ae eK,r8]
 have HO:=ag o.rct;by_cases h4:n<=4000;{
 have h4':¬(4000:Int)<(n:Int):=af;by_cases ht:T=n;{
 have ht':=dB T n;by_cases h0:K=0;{
 have h0':((K:Int)==0)=true:=by simp[h0]
 go_wp2
 go_quiet (fail)
 go_wp2;go_ret;exact .yes (by rw[ae HL];simp[h4,ht,h0]) (below_drewN (ae B1))};{
 have h0':((K:Int)==0)=false:=by simp[h0]
 obtain⟨y,hy⟩:∃y,rs[rs.length-1]?=some y:=⟨_,aY (aI (ae eK))⟩;have hl:=ag (Q4 hy);rw[ae eK]at hy;obtain⟨rb,ro,rq,rd,rfl,cq,-,-,-,-⟩:=HO.at hy;have wk:IntKind.i64.wrap ((K:Int)-1)=((K-1:Nat):Int):=by rw[kU _ af];omega
 by_cases hq:y.1=q;{
 have um:(y.1==q)=true:=by simp[hq]
 go_wp2
 go_quiet (fail)
 go_wp2;go_ret;exact .yes (by rw[ae HL,ae hl];simp[h4,ht,hq]) (below_drewN (ae B1))};{
 have um:(y.1==q)=false:=by simp[hq]
 go_wp2
 go_quiet (fail)
 go_wp2;go_ret;exact .no (by rw[ae HL,ae hl];simp[h4,ht,hq,h0]) (below_drewN (ae B1))}}};{have ht':=aU T n;go_wp2;go_ret;exact .no (by rw[ae HL];simp[ht]) (ae B1)}};{have h4':=mW 4000 n;go_wp2;go_ret;exact .no (by rw[ae HL];simp[h4]) (ae B1)}
theorem Pf{B:Nat}{D:Dk}(h:SvI B w p0 c0 p1 c1 p2 c2 p c r d D S)(hl:D.l0.length+D.l1.length+D.l2.length<=1048576)(hG:Hid (SG S))(y0:Hid (aN D.l0))(y1:Hid (aN D.l1))(hM:ML w)(hT:N8 w)(dop:LI->Option Rq)(hd:Hid (∀l,qt l (dop l))):Calls prog 18 #[ID p0 c0 p1 c1 p2 c2 p c r d D S q] w (BlP (SvP dop D S q) w):=by
 obtain⟨W,hW,b1,z1,C1,-⟩:=au w #[.S p0 D.l0.length c0,.I D.n0,.S p1 D.l1.length c1,.I D.n1,.S p2 D.l2.length c2,.I D.n2,.U S.e,.U S.g,.U S.x,.I S.t,.S p S.ss.length c,.S r S.ns.length d,.U q] 43;have HA:=ag (λ(v:World)(hv:Bw W v)=>ai (C1.below af hv) (ai (h.below (aj b1 hv)) (ai (hM.below (aj b1 hv)) (ai (show N8 v fromλk i1 i2=>(hT k i1 i2).below (aj b1 hv)) (aj b1 hv)))))
 go_in
 go_wp2_with fail;rw[<-hW];refine(xr af af af).mono ?_;rintro z v1⟨rfl,aG⟩
 let⟨ok,Eo⟩:=bG (Cw D.l0.length D.n0 D.l1.length D.n1 D.l2.length D.n2)
 rw[ae Eo];have BV:=ag aG;cases ok with
 |false=>
  have bb:=(ae HA v1 BV).2.2.2.2;go_wp2;go_ret;exact .no (λe=>by have:=e.1;rw[Dk.ok,ae Eo]at this;cases this) bb
 | true=>
  let⟨i0,i1,i2,i3,i4,i5,i6,i7,i8,i9,ia,ib,ic⟩:=(ae HA v1 BV).1.xA
  go_wp2_with fail;have H:=ag (ae HA v1 BV)
  let⟨ok2,Ih⟩:=bG (kG S.e S.g S.x S.t S.ss S.ns)
  refine(ao2 (ag rfl) (ag rfl) H.2.1.2.1 H.2.1.2.2 hG.n hG.m (ag hG.bs) (ag hG.bn) (ag hG.nu) (ag hG.ou) H.2.2.1 Ih).mono ?_;rintro z v2⟨rfl,aK⟩;have Te:=ag (aj BV aK);cases ok2 with
  |false=>
   have bb:=(ae HA v2 Te).2.2.2.2;go_wp2;go_ret;exact .no (λe=>by have:=e.2.1;rw[iF.ok,ae Ih]at this;cases this) bb
  | true=>
   let⟨i0,i1,i2,i3,i4,i5,i6,i7,i8,i9,ia,ib,ic⟩:=(ae HA v2 Te).1.xA
   go_wp2_with fail;have H:=ag (ae HA v2 Te).2.1.1;refine(Lu (ag rfl) H.o0.rd y0 af H.o0.cap (ag H.o0.qm) (ag H.o0.adr.1)).mono ?_;rintro z v3⟨ok3,bR3,rfl,br⟩;have Td:=ag (aj Te br);cases ok3 with
   |false=>
    have bb:=(ae HA v3 Td).2.2.2.2;go_wp2;go_ret;exact .no (λe=>by have:=bR3.2 e.2.2.1;cases this) bb
   |true=>
    let⟨i0,i1,i2,i3,i4,i5,i6,i7,i8,i9,ia,ib,ic⟩:=(ae HA v3 Td).1.xA
    have hd1:D.n1<=D.l1.length:=by have:=ae Eo;simp only[Cw,fk]at this;have:=Ff this.1.2;omega
    by_cases hn:D.n1<D.l1.length;{have bb:=(ae HA v3 Td).2.2.2.2;go_wp2;go_ret;exact .no (λe=>aI e.2.2.2.1) bb};{
 have HN:Hid (D.n1=D.l1.length):=by show _=_;omega
 go_wp2_with fail;have H:=ag (ae HA v3 Td)
 let⟨R,eR⟩:=bG (UL dop D.l0 D.l1 true)
 have HG:=ag (ldG hd y0 y1 af true);have HC:=ag (ldC dop (l0:=D.l0) (l1:=D.l1));rw[ae eR]at HG HC;refine(ao3 p0 p1 p2 _ c0 _ c1 _ c2 D.n0 D.n1 D.n2 D.l0 D.l1 (ag rfl) (ag rfl) v3 H.2.1.1.o0.rd H.2.1.1.o1.rd af af af H.2.1.1.o0.cap H.2.1.1.o1.cap (ag H.2.1.1.o0.qm) (ag H.2.1.1.o1.qm) (ag H.2.1.1.o0.adr.1) (ag H.2.1.1.o1.adr.1) y0 y1 H.2.2.1 H.2.2.2.1 dop hd true Eo _ eR).mono ?_;rintro z v4⟨⟨ps,cs,pn,cn,rfl,o4⟩,fy⟩;have BV4:=ag (aj Td fy);have O4:=ag o4;obtain⟨⟨e,g,x,u,ss,ns⟩,sq,cd⟩:=R;obtain⟨W5,hW5,b5,z5,C5,-⟩:=au v4 #[.U e,.U g,.U x,.I u,.S ps ss.length cs,.S pn ns.length cn] 41;go_wp2_with fail;rw[<-hW5];clear hW5;have B5:=ag (aj BV4 b5);have HV:=ag (ai HG.v.sg HG.v.ok);have HS5:=ag (λ(v:World)(hv:Bw W5 v)=>ai (ae HA v (aj (ae B5) hv)).1.xA (C5.below af hv).c6);have O5:=ag (O4.below b5);have HP:Hid (SvP dop D S q↔(cd=0/\sq=q/\(⟨e,g,x,u,ss,ns⟩:iF).B=S.B)):=by show _↔_;rw[SvP,ae eR];exact⟨λh=>h.2.2.2.2,λh=>⟨ae Eo,ae Ih,bR3.1 al,ae HN,h⟩⟩
 let⟨Bl,eBl⟩:=bG (⟨e,g,x,u,ss,ns⟩:iF).B
 let⟨Sl,eSl⟩:=bG S.B
 let⟨bn,Xz⟩:=bG Bl.length
 let⟨sn,esn⟩:=bG Sl.length
 have E1:=ag (HV.1.aw2 HV.2 O5.rdc.1 O5.rdc.2 (ae HA W5 (ae B5)).2.2.1 (ae eBl▸Xz));have E2:=ag (hG.aw2 (ae Ih) (ae HA W5 (ae B5)).2.1.2.1 (ae HA W5 (ae B5)).2.1.2.2 (ae HA W5 (ae B5)).2.2.1 (ae eSl▸esn));have Y1:=ag (HV.1.bytes HV.2).2;have Y2:=ag (hG.bytes Ih).2;rw[ae eBl]at E1 Y1 HP;rw[ae eSl]at E2 Y2 HP
 let⟨⟨i0,i1,i2,i3,i4,i5,i6,i7,i8,i9,ia,ib,ic⟩,j0,j1,j2,j3,j4,j5,jf⟩:=ae HS5 W5 aA
 have bb:=(ae HA W5 B5).2.2.2.2;by_cases h1:cd=0;{
 by_cases h2:sq=q;{
 subst h1 h2;refine du (λv=>VaS w.heap.size v4.heap.size sq S p c r d ⟨e,g,x,u,ss,ns⟩ ps cs pn cn v) (by exact⟨⟨ic,i6,i7,i8,i9,ia,ib⟩,j0,j1,j2,j3,j4,j5⟩) λhS=>?_;have XQ:=ag (λ(v:World)(hv:Bw W5 v)=>(λk=>(⟨⟨k.1.2.2.2.2.2.2.2.2.2.2.2.2,k.1.2.2.2.2.2.2.1,k.1.2.2.2.2.2.2.2.1,k.1.2.2.2.2.2.2.2.2.1,k.1.2.2.2.2.2.2.2.2.2.1,k.1.2.2.2.2.2.2.2.2.2.2.1,k.1.2.2.2.2.2.2.2.2.2.2.2.1⟩,k.2.1,k.2.2.1,k.2.2.2.1,k.2.2.2.2.1,k.2.2.2.2.2.1,k.2.2.2.2.2.2.1⟩:VaS w.heap.size v4.heap.size sq S p c r d ⟨e,g,x,u,ss,ns⟩ ps cs pn cn v)) (ae HS5 v hv));have BV:=ag (cQ W5.heap.size W5).drew
 let⟨v,mY⟩:=aB W5.drew
 rw[<-mY]at BV hS⊢;refine mj 0 1 2 3 4 5 6 7 hS ?_;refine lG 8 9 11 12 hS ?_;refine cX 10 (λKK hK=>?_);refine sOw (ae E1 _ BV) ?_;rintro z v6⟨P,C,rfl,o6,ko⟩;refine⟨_,rfl,?_⟩;have B6:=ag (aj BV ko);have O6:=ag o6.rd;refine fh hK (by exact XQ _ B6) λhS=>?_;refine cX 13 (λKK hK=>?_);refine sOw (ae E2 _ B6) ?_;rintro z v7⟨P2,C2,rfl,o7,Jy⟩;refine⟨_,rfl,?_⟩;have B7:=ag (aj B6 Jy);have O7:=ag (ai (O6.below Jy) o7.rd);refine fh hK (by exact XQ _ B7) λhS=>?_;refine cX 14 (λKK hK=>?_);refine sTw (gP Xz esn O7.1 O7.2 Y1 Y2) ?_;rintro z v8⟨rfl,Z6⟩;refine⟨_,rfl,?_⟩;have B8:=ag (aj B7 Z6);refine fh hK (by exact XQ _ B8) λhS=>?_;refine jR 15 16 hS ?_;refine cY ?_;have bb:=(ae HA v8 (aj B5 B8)).2.2.2.2;go_wp2;go_ret;exact⟨decide (Bl=Sl),(by show _↔_;rw[ae HP];simp),rfl,bb⟩};{
 have h2':(sq==q)=false:=by simp[h2]
 subst h1
 go_quiet (fail)
 go_wp2;go_ret;exact .no (by rw[ae HP];simp[h2]) (below_drewN bb)}};{
 have h1':(cd==0)=false:=by simp[h1]
 go_quiet (fail)
 go_wp2;go_ret;exact .no (by rw[ae HP];simp[h1]) (below_drewN bb)}}
def JH(w:World)(p0:OA)(c0:Nat)(p1:OA)(c1:Nat)(p2:OA)(c2:Nat)(p:OA)(c:Nat)(r:OA)(d:Nat)(D:Dk)(S:iF):Prop:=
 Rd w (.S p0 D.l0.length c0) D.l0/\Rd w (.S p1 D.l1.length c1) D.l1/\Rd w (.S p2 D.l2.length c2) D.l2/\vk w (.S p S.ss.length c) S.ss/\lM w (.S r S.ns.length d) S.ns
def JH.below{D:Dk}(h:JH w p0 c0 p1 c1 p2 c2 p c r d D S)(hb:Bw w w'):JH w' p0 c0 p1 c1 p2 c2 p c r d D S:=
 ⟨h.1.below hb,h.2.1.below hb,h.2.2.1.below hb,h.2.2.2.1.below hb,h.2.2.2.2.below hb⟩
structure SvZ(D:Dk)(S:iF):Prop where
 d:D.l0.length+D.l1.length+D.l2.length<=1048576
 s:LM S.ss S.ns<=1048576
def YY{p0' p1' p2' p' r':OA}{c0' c1' c2' c' d':Nat}{D:Dk}(x1:IP 22 (dE (.S p0 D.l0.length c0) D.n0 (.S p1 D.l1.length c1) D.n1 (.S p2 D.l2.length c2) D.n2) (dE (.S p0' D.l0.length c0') D.n0 (.S p1' D.l1.length c1') D.n1 (.S p2' D.l2.length c2') D.n2) w)(x2:IP 23 (dZ S.e S.g S.x S.t (.S p S.ss.length c) (.S r S.ns.length d)) (dZ S.e S.g S.x S.t (.S p' S.ss.length c') (.S r' S.ns.length d')) w):IP 8 (ID p0 c0 p1 c1 p2 c2 p c r d D S q) (ID p0' c0' p1' c1' p2' c2' p' c' r' d' D S q) w:=eqW
def oG(p0 p1 p2 p r p0' p1' p2' p' r':OA)(c0 c1 c2 c d c0' c1' c2' c' d':Nat)(D:Dk)(S:iF)(q:Int)(w:World)(h:JH w p0 c0 p1 c1 p2 c2 p c r d D S)(h':JH w p0' c0' p1' c1' p2' c2' p' c' r' d' D S)(hz:Hid (SvZ D S)):Cp 8 #[ID p0 c0 p1 c1 p2 c2 p c r d D S q,ID p0' c0' p1' c1' p2' c2' p' c' r' d' D S q] w (Rb (.bool true) w):=by
 have z:=hz.d
 let⟨z1,z2,z3,z4⟩:=TV hz.s
 have k:∀{p q:OA}{c d:Nat}{l:LI},Rd w (.S p l.length c) l->Rd w (.S q l.length d) l->l.length<=1048576->IP 119 (.S p l.length c) (.S q l.length d) w:=λa b hl v hv=>vL (ag rfl) (a.below hv) (b.below hv) af;exact YY (aO6 (Nt (k h.1 h'.1 af)) (Nt (k h.2.1 h'.2.1 af)) (Nt (k h.2.2.1 h'.2.2.1 af))) (λv hv=>YX S.e S.g S.x S.t p r p' r' c S.ss.length d S.ns.length c' d' S.ss S.ns (ag rfl) (ag rfl) v (h.2.2.2.1.below hv) (h.2.2.2.2.below hv) (h'.2.2.2.1.below hv) (h'.2.2.2.2.below hv) z1 z2 (ag z3) (ag z4)) w aA
def Own.hp{B:Nat}(h:Own B w z l)(hk:∀b,z.ownBlock=some b->v.heap[b]?=w.heap[b]?):Own B v z l:=by
 refine⟨h.1,?_⟩;rcases h.2 with h0|⟨g,cap,cur,rfl,hb,hg,rest⟩;{exact .inl h0};{exact .inr ⟨g,cap,cur,rfl,hb,(hk g rfl).trans hg,rest⟩}
def SK(B M:Nat)(w:World)(A1 A2:List Lf)(p0:OA)(c0:Nat)(p1:OA)(c1:Nat)(p2:OA)(c2:Nat)(p:OA)(c:Nat)(r:OA)(d:Nat)(D:Dk)(S:iF):Prop:=
 jC B w (.S p0 D.l0.length c0) (.S p1 D.l1.length c1) (.S p2 D.l2.length c2) D.l0 D.l1 D.l2/\(∀b,(Value.slice p0 D.l0.length c0).ownBlock=some b\/(Value.slice p1 D.l1.length c1).ownBlock=some b\/(Value.slice p2 D.l2.length c2).ownBlock=some b->b<M)/\B<=M/\AH M w A1 A2 p S.ss.length c r S.ns.length d S.ss S.ns
def SK.keep{B M:Nat}{D:Dk}(h:SK B M w A1 A2 p0 c0 p1 c1 p2 c2 p c r d D S)(hk:∀b,B<=b->b<w.heap.size->w'.heap[b]?=w.heap[b]?):SK B M w' A1 A2 p0 c0 p1 c1 p2 c2 p c r d D S:=by
 obtain⟨⟨o0,o1,o2,n1,n2,n3⟩,h2,h3,h4⟩:=h;exact⟨⟨o0.hp λb e=>hk b (o0.lt b e).1 (o0.lt b e).2,o1.hp λb e=>hk b (o1.lt b e).1 (o1.lt b e).2,o2.hp λb e=>hk b (o2.lt b e).1 (o2.lt b e).2,n1,n2,n3⟩,h2,h3,h4.keep λa ha=>hk a.b (fu h3 (h4.2.2.2.2.lo a ha)) (h4.2.2.2.2.tf.lt ha)⟩
def SK.below{B M:Nat}{D:Dk}(h:SK B M w A1 A2 p0 c0 p1 c1 p2 c2 p c r d D S)(hb:Bw w w'):SK B M w' A1 A2 p0 c0 p1 c1 p2 c2 p c r d D S:=h.keep λb _ hl=>hb.block b hl
def SK.rd{B M:Nat}{D:Dk}(h:SK B M w A1 A2 p0 c0 p1 c1 p2 c2 p c r d D S):JH w p0 c0 p1 c1 p2 c2 p c r d D S:=⟨h.1.o0.rd,h.1.o1.rd,h.1.o2.rd,h.2.2.2.rd.1,h.2.2.2.rd.2⟩
def SK.lts{B M:Nat}{D:Dk}(h:SK B M w A1 A2 p0 c0 p1 c1 p2 c2 p c r d D S):(∀v∈[Value.slice p0 D.l0.length c0,.S p1 D.l1.length c1,.S p2 D.l2.length c2],∀b,v.ownBlock=some b->b<w.heap.size)/\∀a∈A1++A2,a.b<w.heap.size:=by
 refine⟨λv hv b e=>?_,λa ha=>h.2.2.2.2.2.2.2.tf.lt ha⟩;simp only[jv,ai3,xl]at hv;rcases hv with rfl|rfl|rfl;{exact(h.1.o0.lt b e).2};{exact(h.1.o1.lt b e).2};{exact(h.1.o2.lt b e).2}
def SvH(k:Int)(w:World)(A1 A2:List Lf)(p0:OA)(c0:Nat)(p1:OA)(c1:Nat)(p2:OA)(c2:Nat)(p:OA)(c:Nat)(r:OA)(d:Nat)(D:Dk)(S:iF):Prop:=
 Rd w (.S p0 D.l0.length c0) (marks k D.l0.length)/\Rd w (.S p1 D.l1.length c1) (marks (k+D.l0.length) D.l1.length)/\Rd w (.S p2 D.l2.length c2) (marks (k+D.l0.length+D.l1.length) D.l2.length)/\uj w (.S p S.ss.length c) S.ss A1/\vQ w (.S r S.ns.length d) S.ns A2/\cK w (A1++A2) (k+D.l0.length+D.l1.length+D.l2.length)
def uK(B M N:Nat)(A1 A2:List Lf)(p0 p1 p2 p r:OA)(c0 c1 c2 c d:Nat)(D:Dk)(S:iF)(q k:Int)(w:World)(h:SK B M w A1 A2 p0 c0 p1 c1 p2 c2 p c r d D S)(hz:Hid (SvZ D S))(hA:A1.length+A2.length<=4194304)(hN:Hid ((∀v∈[Value.slice p0 D.l0.length c0,.S p1 D.l1.length c1,.S p2 D.l2.length c2],∀b,v.ownBlock=some b->b<N)/\∀a∈A1++A2,a.b<N))(hNw:N<=w.heap.size)(hB:B<=w.heap.size)(k0:0<=k)(k1:k<=1000):Calls prog 9 #[ID p0 c0 p1 c1 p2 c2 p c r d D S q,.I k] w λe w'=>e=.returned (.I (k+D.l0.length+D.l1.length+D.l2.length+A1.length+A2.length))/\SvH k w' A1 A2 p0 c0 p1 c1 p2 c2 p c r d D S/\Below B w w'/\∀b,b<w.heap.size->N<=b->w'.heap[b]?=w.heap[b]?:=by
 obtain⟨W,hW,b0,z0,C0,-⟩:=au w #[.S p0 D.l0.length c0,.I D.n0,.S p1 D.l1.length c1,.I D.n1,.S p2 D.l2.length c2,.I D.n2,.U S.e,.U S.g,.U S.x,.I S.t,.S p S.ss.length c,.S r S.ns.length d,.U q] 43;obtain⟨o3,bf,hBM,lv⟩:=h;have HO:=ag (ai (o3.below b0) (ai bf (lv.below b0)));have HC:=ag C0;have hzd:=hz.d;have HB:=ag b0
 go_in
 go_wp2_with fail;rw[<-hW];refine(MB B p0 p1 p2 c0 c1 c2 D.n0 D.n1 D.n2 D.l0 D.l1 D.l2 k W HO.1 af af af k0 af).mono ?_;rintro e w1⟨rfl,o1,g1⟩;have bS:Hid (∀b,N<=b->∀v∈[Value.slice p0 D.l0.length c0,.S p1 D.l1.length c1,.S p2 D.l2.length c2],v.ownBlock≠some b):=λb hb v hv e=>aI (hN.1 v hv b e);have L1:=ag (HO.2.2.keep (w':=w1) (λa ha=>g1.block a.b (HO.2.2.2.2.2.2.tf.lt ha) (λv hv e=>by have:=HO.2.2.2.2.2.2.lo a ha;have:=HO.2.1 a.b (by simp only[jv,ai3,xl]at hv;rcases hv with rfl|rfl|rfl<;>simp[e]);omega)))
 obtain⟨-,-,-,-,-,-,i6,i7,i8,i9,ia,ib,-⟩:=(HC.de (g1.block w.heap.size af (ae bS w.heap.size hNw))).xA;have B1:Hid (Below B W w1):=g1.below af (λv hv b e=>by simp only[jv,ai3,xl]at hv;rcases hv with rfl|rfl|rfl;{exact(HO.1.o0.lt b e).1};{exact(HO.1.o1.lt b e).1};{exact(HO.1.o2.lt b e).1})
 have G1:=ag g1.block;have z1:=g1.size;have O1:=ag o1;obtain⟨K,eK⟩:∃K:Int,k+D.l0.length+D.l1.length+D.l2.length=K:=⟨_,rfl⟩;have hK:0<=K/\K<=1050000:=af;rw[eK];have EK:=ag eK;go_wp2_with fail;obtain⟨-,-,f3,f4,f5⟩:=ae L1;refine(Mz S.e S.g S.x S.t p r c S.ss.length d S.ns.length S.ss S.ns A1 A2 K w1 f3 f4 (dt.app.1 f5.tf).1 (dt.app.1 f5.tf).2 af af).mono ?_;rintro e w2⟨rfl,mk⟩;have hk:∀b:Nat,b<M->b<w1.heap.size->w2.heap[b]?=w1.heap[b]?:=λb h1 h3=>mk.blk b h3 (λa ha e=>aI (f5.lo a ha));have H2:SvH k w2 A1 A2 p0 c0 p1 c1 p2 c2 p c r d D S:=by have bf:=HO.2.1;refine⟨Own.rd (Own.hp O1.o0 (v:=w2) λb e=>hk b (bf b (.inl e)) (O1.o0.lt b e).2),Own.rd (Own.hp O1.o1 (v:=w2) λb e=>hk b (bf b (.inr (.inl e))) (O1.o1.lt b e).2),Own.rd (Own.hp O1.o2 (v:=w2) λb e=>hk b (bf b (.inr (.inr e))) (O1.o2.lt b e).2),uj.mk f3 mk f5.tf,vQ.mk f4 mk f5.tf,?_⟩;rw[ae EK];exact mk.held f5.nd
 have B2:Below B w w2:=(HB.mono hB).trans (B1.trans (mk.below (λa ha=>aI (f5.lo a ha)) af));have G2:∀b,b<w.heap.size->N<=b->w2.heap[b]?=w.heap[b]?:=λb h1 h2=>(mk.blk b af (λa ha e=>aI (hN.2 a ha))).trans ((ae G1 b af (ae bS b h2)).trans (HB.block b h1));have HH:=ag (ai H2 (ai B2 G2));go_wp2;go_ret;exact⟨by rw[ae EK];rfl,ae HH⟩
def Hu(A1 A2:List Lf)(p0 p1 p2 p r:OA)(c0 c1 c2 c d:Nat)(D:Dk)(S:iF)(q k:Int)(w:World)(h:SvH k w A1 A2 p0 c0 p1 c1 p2 c2 p c r d D S)(hz:Hid (SvZ D S))(hA:A1.length+A2.length<=4194304)(k0:0<=k)(k1:k<=1000):Calls prog 10 #[ID p0 c0 p1 c1 p2 c2 p c r d D S q,.I k] w (Rb (.I (k+D.l0.length+D.l1.length+D.l2.length+A1.length+A2.length)) w):=by
 obtain⟨W,hW,b0,z0,C0,-⟩:=au w #[.S p0 D.l0.length c0,.I D.n0,.S p1 D.l1.length c1,.I D.n1,.S p2 D.l2.length c2,.I D.n2,.U S.e,.U S.g,.U S.x,.I S.t,.S p S.ss.length c,.S r S.ns.length d,.U q] 43;obtain⟨h0,h1,h2,h3,h4,h5⟩:=h;have HA:=ag (ai (h0.below b0) (ai (h1.below b0) (h2.below b0)));have HS:=ag (λ(v:World)(hv:Bw W v)=>ai (C0.below af hv) (ai (uj.below h3 (aj b0 hv)) (ai (vQ.below h4 (aj b0 hv)) (ai (h5.below (aj b0 hv)) (aj b0 hv)))));have hzd:=hz.d
 go_in
 go_wp2_with fail;rw[<-hW];refine(Nc p0 p1 p2 c0 c1 c2 _ _ _ D.n0 D.n1 D.n2 k W HA.1 HA.2.1 HA.2.2 af af af k0 af).mono ?_;rintro e w1⟨rfl,aG⟩;have H:=ag (ae HS w1 aG);have B1:=ag aG;obtain⟨-,-,-,-,-,-,i6,i7,i8,i9,ia,ib,-⟩:=H.1.xA;obtain⟨K,eK⟩:∃K:Int,k+D.l0.length+D.l1.length+D.l2.length=K:=⟨_,rfl⟩;rw[eK]at H⊢;have hK0:0<=K:=af;have hK:¬K<0:=af;have hK2:K<=1050000:=af;have EK:=ag eK;go_wp2_with fail;refine(Na S.e S.g S.x S.t p r c S.ss.length d S.ns.length S.ss S.ns A1 A2 K w1 H.2.1 H.2.2.1 H.2.2.2.1 af af).mono ?_;rintro e w2⟨rfl,aK⟩;have bb:=aj H.2.2.2.2 aK;have Z9:¬K+A1.length+A2.length<0:=af;go_wp2;go_ret;exact⟨by rw[ae EK];rfl,bb⟩
end Go.Proofs.YtnhnbpkfpaondaaGreatDoor
