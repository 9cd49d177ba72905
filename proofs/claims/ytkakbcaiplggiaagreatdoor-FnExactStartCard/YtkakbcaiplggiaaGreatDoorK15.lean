import Derived.Test.YtkakbcaiplggiaaGreatDoorK14
import Derived.Deep.CutBlock
namespace Go.Proofs.YtkakbcaiplggiaaGreatDoor
set_option maxHeartbeats 12800000
set_option linter.all false
set_option maxRecDepth 100000
open Go.ChangeShapes Go.WideShapes Go.ChangeAt Go.RowKit Go.Deep
variable {B b bn bs d j k o:Nat}{C t:Int}{D:SD}{P V l l0 l1:LI}{ns:List aC}{p:OA}{rs:List R1}{ss:List aP}{v x:Value}{w0:World}
def VD.idr(h:VD D){i:Int}(hi:i∈pZ D.ss):1<=i/\i<=4611686018427387904:=by
 obtain⟨s,hs,rfl⟩:=ji.1 hi;have h1:=(h.s2 s hs).1;have h2:=h.x;exact⟨h1.1,ae⟩
def VD.mj(h:VD D):∀s∈D.ss,s.2.2.length<=0/\∀e∈s.2.2,aN e.2/\e.2.length<=1048576:=λs hs=>by
 obtain⟨q1,q2⟩:=(h.s2 s hs).q;exact⟨by rw[(h.s2 s hs).2.2];exact iP _,λe he=>⟨(q2 e he).1,aG (q2 e he).2⟩⟩
def VD.gq(h:VD D):∀nd∈D.ns,aN nd.path/\nd.path.length<=1048576/\nd.value.length<=1048576/\nd.holders.length<=1048576/\nd.watchers.length<=1048576:=λnd bj=>by
 have hn:=h.n2 nd bj;have a1:=Fl hn.vp;have a2:=hn.va;have a3:=h.ids hn.h1 hn.h2;have a4:nd.watchers.length=0:=by rw[hn.w1];rfl
 exact⟨hn.pb,ae,ae,ae,ae⟩
def VD.Ci(h:VD D):∀nd∈D.ns,(∀i∈nd.holders,0<=i/\i<18446744073709551616)/\∀i∈nd.watchers,0<=i/\i<18446744073709551616:=λnd bj=>
 ⟨λi hi=>aG (h.idr ((h.n2 nd bj).h2 i hi)),λi hi=>aG (h.idr ((h.n2 nd bj).w2 i hi))⟩
def VD.QT(h:VD D):∀nd∈D.ns,0<=nd.owner/\nd.owner<18446744073709551616:=λnd bj=>by
 rcases(h.n2 nd bj).ow with e|e;{omega};{have:=h.idr e;omega}
def VD.ap(h:VD D)(K S F E G:Int)(P V:LI):AP D.e D.g D.x D.t D.ss D.ns K S F E G P V=fE D K S F E G P V:=by
 unfold AP;rw[bN h.ok]
def TB.cg3{w:World}(h:TB w v l):∃p c,v=.S p l.length c:=by
 obtain⟨p,c,e,-⟩:=h.1;exact⟨p,c,e⟩
def aW3(hd:VD D){n c:Nat}{q:OA}{m:Nat}(en:Hid (D.ss.length=n))(em:Hid (D.ns.length=m)){K S F E G:Int}{pp:OA}{np cp:Nat}{pq:OA}{nv cv:Nat}(eP:Hid (P.length=np))(eV:Hid (V.length=nv)){w:World}(h:yL w (.S p n c) D.ss)(hN:oU w (.S q m d) D.ns)(hP:Rd w (.S pp np cp) P)(hV:Rd w (.S pq nv cv) V)(hp:np<=1048576)(hv:nv<=1048576)(iW:np<=cp)(ku:cp<=maxLen)(bP:aN P){R:SD×RP}(hj:K=1\/K=3\/K=4\/K=5\/K=7\/K=8\/K=9)(eR:Hid (fE D K S F E G P V=R)):Calls Tryz.prog 37 #[ft D.e D.g D.x D.t (.S p n c) (.S q m d),ID K S (.S pp np cp) F (.S pq nv cv) E G] w λr w'=>QR w.heap.size w w' r R.1 R.2:=by
 have hn:n<=50:=aa en▸hd.sl;have hm:m<=200:=aa em▸hd.nl;exact Ti en em eP eV (af h) (af hN) (af hP) (af hV) ae ae hp hv iW ku (af hd.mj) (af hd.gq) (af λ_=>hd.wf) (af bP) hj (by show _=_;rw[hd.ap];exact aa eR)
def gD.rdc{w:World}{p q:OA}{n c m d:Nat}(h:gD B w p n c q m d ss ns):mg w (.S p n c) ss/\oU w (.S q m d) ns:=by
 obtain⟨A1,A2,h1,h2,-⟩:=h;exact⟨h1,h2⟩
def R1G(r:R1):Prop:=aN r.2/\r.2.length<=1000/\0<=r.1/\r.1<18446744073709551616
def Xg(hB:aN l){r:R1}(h:kK l=some r):R1G r:=by
 obtain⟨s,b⟩:=r;obtain⟨h1,h2,-,h4,h5,-⟩:=r8 hB h;have hn:=kM (hB.sub 2 10) (by simp[sub];omega);refine⟨?_,h2,?_,?_⟩;{show aN b;rw[h5];exact hB.sub _ _};{show 0<=s;rw[h4];exact hn.1};{show s<_;rw[h4];exact hn.2}
theorem Vl:∀(f:Nat){l:LI},aN l->∀r:R1,some r∈yl f l->R1G r
 |0,l,hB,r,h=>by simp[yl]at h
 | f+1,l,hB,r,h=>by
  cases hr:kK l with
  |none=>rw[Ld hr]at h;simp at h
  |some x=>
   rw[sH hr]at h;rcases jG.1 h with h|h;{cases h;exact Xg hB hr};{exact Vl f (hB.drop _) r h}
theorem Wy:∀(t:Option Int)(L:List (Option R1))(r:R1),r∈Hx t L->some r∈L
 |_,[],r,h=>by simp[Hx]at h
 |_,none::_,r,h=>by simp[Hx]at h
 |t,some x::L,r,h=>by rw[Hx]at h;split at h;{rcases jG.1 h with h|h;{rw[h];simp};{exact List.mem_cons_of_mem _ (Wy _ L r h)}};{simp at h}
def Ey(hB:aN l):∀r∈rl l,R1G r:=λr h=>Vl _ hB r (Wy _ _ r h)
abbrev Rq:=Nat×Nat×Nat×LI×LI
def JG.jo{s:Nat}{f:Nat}(h:JG l k s P f V):(k:Int)=1\/(k:Int)=3\/(k:Int)=4\/(k:Int)=5\/(k:Int)=7\/(k:Int)=8\/(k:Int)=9:=by
 obtain⟨h1,h2,-,-,-,h6,-⟩:=h;rcases kinds h1 h2 with rfl|rfl|rfl|rfl|rfl|rfl|rfl|rfl|rfl|rfl|rfl|rfl|rfl<;>first|omega|cases h6
def qQ(l:LI):Option Rq->Prop
 |none=>∀K S P F V,¬JG l K S P F V
 |some o=>JG l o.1 o.2.1 o.2.2.2.1 o.2.2.1 o.2.2.2.2
def bg3:∃dop:LI->Option Rq,∀l,qQ l (dop l):=by
 refine Classical.axiomOfChoice (r:=λl o=>qQ l o) λl=>?_;by_cases h:∃K S P F V,JG l K S P F V;{obtain⟨K,S,P,F,V,h⟩:=h;exact⟨some (K,S,F,P,V),h⟩};{exact⟨none,λK S P F V hd=>h ⟨K,S,P,F,V,hd⟩⟩}
def JG.byt{K S F:Nat}(h:JG l K S P F V)(hb:aN l):aN P/\aN V:=by
 obtain⟨_,_,_,_,_,_,e⟩:=h;rw[e,DV,tx,tx]at hb;exact⟨λz hz=>hb z (by simp[hz]),λz hz=>hb z (by simp[hz])⟩
abbrev apL(D:SD)(o:Rq):SD×RP:=fE D o.1 o.2.1 o.2.2.1 0 0 o.2.2.2.1 o.2.2.2.2
def qE(dop:LI->Option Rq)(D:SD)(q:Int)(r:R1):Option (SD×Int):=
 if r.1<=q then some (D,q)
 else if r.1≠q+1\/4611686018427387904<r.1 then none
 else match dop r.2 with
  |none=>none
  |some o=>if(apL D o).2.k=0 then some ((apL D o).1,r.1)else none
def py(dop:LI->Option Rq):SD->Int->List R1->SD×Int
 |D,q,[]=>(D,q)
 |D,q,r::rs=>match qE dop D q r with
  |none=>(D,q)
  |some x=>py dop x.1 x.2 rs
def oK{dop:LI->Option Rq}{q:Int}{r:R1}(hr:rs[j]?=some r)(h:qE dop D q r=none):py dop D q (rs.drop j)=(D,q):=by
 obtain⟨hj,e⟩:=bf.1 hr;rw[Mr hj,e,py,h]
def vM{dop:LI->Option Rq}{q:Int}{r:R1}{x:SD×Int}(hr:rs[j]?=some r)(h:qE dop D q r=some x):py dop D q (rs.drop j)=py dop x.1 x.2 (rs.drop (j+1)):=by
 obtain⟨hj,e⟩:=bf.1 hr;rw[Mr hj,e,py,h]
def Ph{dop:LI->Option Rq}{q:Int}:py dop D q (rs.drop rs.length)=(D,q):=by rw[List.drop_length];rfl
def GQ(D:SD)(q:Int):Prop:=VD D/\0<=q/\q<=4611686018427387904
def Fz{dop:LI->Option Rq}(hd:∀l,qQ l (dop l)){q:Int}{r:R1}(h:GQ D q)(hr:R1G r){x:SD×Int}(e:qE dop D q r=some x):GQ x.1 x.2:=by
 rw[qE]at e;split at e;{cases e;exact h};{
 split at e;{cases e};{
 next h1 h2=>
 rw[Je]at h2;have hk:=hd r.2;split at e;{cases e};{
 next o ho=>
 rw[ho]at hk;split at e;{cases e;obtain⟨bP,bV⟩:=JG.byt hk hr.1;exact⟨h.1.apply bP bV hk.jo,hr.2.2.1,ae⟩};{cases e}}}}
theorem Ex{dop:LI->Option Rq}(hd:∀l,qQ l (dop l)):∀(rs:List R1){D:SD}{q:Int},GQ D q->(∀r∈rs,R1G r)->GQ (py dop D q rs).1 (py dop D q rs).2
 |[],D,q,h,_=>h
 |r::rs,D,q,h,hr=>by
  rw[py];cases e:qE dop D q r with
  |none=>exact h
  |some x=>exact Ex hd rs (Fz hd h (hr r ai) e) (λr' h'=>hr r' (by simp[h']))
def xE(l:LI):Option (SD×Int):=
 if l.length=0 then some (⟨0,0,0,0,[],[]⟩,0)
 else if l.length<20 then none
 else if dr (num (sub l 4 12)) (sub l 16 (l.length-4))=l then
  if 4611686018427387904<num (sub l 4 12)then none
  else(dK (sub l 16 (l.length-4))).map λr=>(⟨r.1.1,r.1.2.1,r.1.2.2,0,r.2.1,r.2.2⟩,num (sub l 4 12))
 else none
def VD.zero:VD ⟨0,0,0,0,[],[]⟩:=⟨by decide,by decide,by decide,by decide,by decide,by decide,List.Pairwise.nil,(λs h=>by cases h),List.Pairwise.nil,(λs h=>by cases h)⟩
theorem ZA(hb:aN l)(hl:Mg l.length){r:(Int×Int×Int)×List aP×List aC}(h:dK l=some r):VD ⟨r.1.1,r.1.2.1,r.1.2.2,0,r.2.1,r.2.2⟩:=by
 rw[dK]at h;cases hr:yX l with
 |none=>rw[hr]at h;cases h
 |some s=>
  rw[hr,Aa]at h;split at h;{
 next hc=>
 obtain⟨⟨e,g,x⟩,ss,ns,o⟩:=s;simp only[kU]at h hc;subst h;obtain⟨-,iV,-⟩:=hc;rw[yX]at hr;simp only at hr;have q1:=ki.start (n:=l.length) (l:=l) rfl;have q2:=ig rfl q1;have q3:=ig rfl q2;have q4:=ig rfl q3;have q5:=ig rfl q4;split at hr;{cases hr};{
 obtain⟨u1,u2⟩:=TC oV U64 (ki l.length l) (λs hs=>⟨iL,ig rfl hs⟩) (oV (oV (oV (oV (some l)).2).2).2).1.toNat _ q5;split at hr;{cases hr};{
 rw[xi]at hr;obtain⟨⟨r1,r2⟩,h3,h4⟩:=hr;obtain⟨v1,-,-⟩:=vI rfl hb hl _ (ig rfl u2) h3;simp only[fQ]at h4;obtain⟨⟨e1,e2,e3⟩,e4,e5,-⟩:=h4;have hs:∀s∈ss,s.2.2=[]:=λs hs=>by
  rw[<-e4]at hs;obtain⟨i,-,rfl⟩:=ji.1 hs
  rfl
 have hn:∀nd∈ns,RgN nd:=λnd bj=>v1 nd (e5▸bj);refine VD.of iV (Fb iV (λs h=>by rw[hs s h];exact⟨fN _,λe he=>by cases he⟩) (λnd h=>⟨(hn nd h).by0,(hn nd h).l0,(hn nd h).l1,(hn nd h).l4,by rw[(hn nd h).l7];exact fN _⟩)) ?_ ?_ hs (λnd h=>(hn nd h).by1) (λnd h=>(hn nd h).l7) ?_ (λnd h=>(hn nd h).ep.1);{rw[<-e2];exact iL.1};{rw[<-e3];exact iL.1};{rw[<-e1];exact iL.1}}}};{cases h}
def To(hb:aN l)(hl:Mg l.length){x:SD×Int}(h:xE l=some x):GQ x.1 x.2:=by
 rw[xE]at h;split at h;{cases h;exact⟨VD.zero,aZ,aZ⟩};{
 split at h;{cases h};{
 split at h;{
 split at h;{cases h};{
 next h1 h2 h3 h4=>
 rw[xi]at h;obtain⟨r,h5,rfl⟩:=h;exact⟨ZA (hb.sub _ _) (by simp[sub];omega) h5,(kM (hb.sub 4 12) (by simp[sub];omega)).1,ae⟩}};{cases h}}}
open Go.Proofs.Tryz
def ap8{e g x:Nat}(he:e<18446744073709551616)(hg:g<18446744073709551616)(hx:x<18446744073709551616)(hr:∀nd∈ns,RgN nd):aN (En e g x t ss ns):=by
 rw[En];split;{next h=>exact Lu ae ae ae (LM h hr) hr}
 {exactλz hz=>by simp at hz}
theorem ai6{c n:Nat}(en:Hid (l.length=n)){w:World}(h:Rd w (.S p n c) l)(hb:Hid (aN l))(hl:Mg n)(xq:n<=c)(hp:Hid ((p=none/\c=0)\/∃b o,p=some (Ad b o)))(jB:Hid (∀b o,p=some (Ad b o)->b<w.heap.size))(Ek:ML w):Calls prog 85 #[.S p n c] w λr w'=>at0 w.heap.size r w' (Il (ko l)) (Im (ko l))/\Bw w w':=by
 have HR:=af λ(w':World)(hb:Bw w w')=>ah (h.below hb) (Ek.below hb);obtain⟨⟨e,m1,s1⟩,E1⟩:∃y,Hid (jF (l,false)=y):=⟨_,bq⟩;obtain⟨⟨g,m2,s2⟩,E2⟩:∃y,Hid (jF (m1,s1)=y):=⟨_,bq⟩;obtain⟨⟨x,m3,s3⟩,E3⟩:∃y,Hid (jF (m2,s2)=y):=⟨_,bq⟩;obtain⟨⟨ss,m4,s4⟩,E4⟩:∃y,Hid (lF Vz (m3,s3)=y):=⟨_,bq⟩;obtain⟨⟨ns,m5,s5⟩,E5⟩:∃y,Hid (lF LG (m4,s4)=y):=⟨_,bq⟩;have EI:Hid (qw l=((e,g,x),ss,ns,m5,s5)):=by show _=_;rw[qw];simp only[aa E1,aa E2,aa E3,aa E4,aa E5]
 have k1:=iD (l,false) (aa hb) (by dsimp only;rw[aa en];exact hl);rw[aa E1]at k1;obtain⟨ue,c1,d1,-⟩:=k1;dsimp only at ue c1 d1;rw[aa en]at d1;have k2:=iD (m1,s1) c1 (by dsimp only;omega);rw[aa E2]at k2;obtain⟨ug,c2,d2,-⟩:=k2;dsimp only at ug c2 d2;have k3:=iD (m2,s2) c2 (by dsimp only;omega);rw[aa E3]at k3;obtain⟨ux,c3,d3,-⟩:=k3;dsimp only at ux c3 d3;have k4:=Kt Tw (s:=(m3,s3)) c3 (by dsimp only;omega);rw[aa E4]at k4;obtain⟨hss,c4,d4,f4⟩:=k4;dsimp only at hss c4 d4 f4;have k5:=Kt Tx (s:=(m4,s4)) c4 (by dsimp only;omega);rw[aa E5]at k5;obtain⟨YS,c5,d5,f5⟩:=k5;dsimp only at YS c5 d5 f5;have B1:=af c1;have B2:=af c2;have B3:=af c3;have B4:=af c4;have g1:m1.length<=1048576:=ae;have g2:m2.length<=1048576:=ae;have g3:m3.length<=1048576:=ae;have g4:m4.length<=1048576:=ae;obtain⟨KS,eKS⟩:∃k,Hid (ss.length=k):=⟨_,bq⟩;obtain⟨KN,eKN⟩:∃k,Hid (ns.length=k):=⟨_,bq⟩;have hKS:KS<=1048576:=by rw[<-aa eKS];omega
 have hKN:KN<=1048576:=by rw[<-aa eKN];omega
 have HSS:=af hss;have HNS:=af YS;have re:0<=e/\e<18446744073709551616:=ue;have rg:0<=g/\g<18446744073709551616:=ug;have rx:0<=x/\x<18446744073709551616:=ux;obtain⟨e,rfl⟩:∃v:Nat,e=(v:Int):=⟨e.toNat,ae⟩;obtain⟨g,rfl⟩:∃v:Nat,g=(v:Int):=⟨g.toNat,ae⟩;obtain⟨x,rfl⟩:∃v:Nat,x=(v:Int):=⟨x.toNat,ae⟩;have he:e<18446744073709551616:=ae;have hg:g<18446744073709551616:=ae;have hx:x<18446744073709551616:=ae;clear c1 c2 c3 c4 c5 d1 d2 d3 d4 d5 f4 f5 ue ug ux hss YS re rg rx;obtain⟨W1,lG⟩:=az (w.alloc (.cells #[.U 0,.U 0,.U 0,.I 0,.S none 0 0,.S none 0 0] 35));have bW1:=ew lG;have zW1:W1.heap.size=w.heap.size+1:=by rw[lG];simp
 obtain⟨W,hW⟩:=az (W1.alloc (.cells #[.S p n c,.bool false] 172));have bW2:=ew hW;have zW:W.heap.size=w.heap.size+2:=by rw[hW];simp;omega
 have bW:=aj bW1 bW2;obtain⟨R,hR⟩:=az (w.heap.size+1);have C0:Hid (al W w.heap.size [.U 0,.U 0,.U 0,.I 0,.S none 0 0,.S none 0 0]):=by
  have:al W1 w.heap.size [.U 0,.U 0,.U 0,.I 0,.S none 0 0,.S none 0 0]:=by rw[lG];exact al.alloc w #[.U 0,.U 0,.U 0,.I 0,.S none 0 0,.S none 0 0] _
  exact this.below ae bW2
 have R0:Hid (qP W R l n false):=by
  have hc:al W R [.S p n c,.bool false]:=by rw[hW,show R=W1.heap.size by omega];exact al.alloc W1 #[.S p n c,.bool false] _
  refine⟨en,hc.2,p,c,⟨hc.1 0 _ rfl,hc.1 1 _ rfl⟩,?_,xq,hp⟩;obtain⟨p',c',ev,hd⟩:=h.below bW;simp only[qZ]at ev;rcases hd with h0|⟨b,o,h1,h2⟩;{exact .inl h0};{refine .inr ⟨b,o,?_,ev.1.trans h1,h2⟩;have:=aa jB b o (ev.1.trans h1);omega}
 have K0:=af (Kept.refl [blk R] W);have hRW:R<W.heap.size:=ae;have hwR:w.heap.size<R:=ae
 go_in
 go_wp2_with fail;rw[<-lG,<-hW,<-hR];have HRR:=af hR;clear lG hW h Ek bW1 bW2 zW1 hR;refine(fu (R:=R) (m:=l) (n:=n) (sh:=false) R0 hb hl (x:=e) (m':=m1) (sh':=s1) E1).mono ?_;rintro z9 y1⟨rfl,Hi,la⟩;have C1:=af (C0.dh la ae ae);have K1:=af (K0.trans la);have R1:=af Hi;have z1:=la.size;clear la Hi C0 K0 R0;go_wp2_with fail;refine(fu (R:=R) (m:=m1) (n:=m1.length) (sh:=s1) R1 B1 g1 (x:=g) (m':=m2) (sh':=s2) E2).mono ?_;rintro z9 y2⟨rfl,lK,rO⟩;have C2:=af (C1.dh rO ae ae);have K2:=af (K1.trans rO);have R2:=af lK;have z2:=rO.size;clear rO lK C1 K1 R1;go_wp2_with fail;refine(fu (R:=R) (m:=m2) (n:=m2.length) (sh:=s2) R2 B2 g2 (x:=x) (m':=m3) (sh':=s3) E3).mono ?_;rintro z9 y3⟨rfl,IJ,rM⟩;have C3:=af (C2.dh rM ae ae);have K3:=af (K2.trans rM);have R3:=af IJ;have z3:=rM.size;clear rM IJ C2 K2 R2;go_wp2_with fail;refine(aD0 (R:=R) (m:=m3) (n:=m3.length) (sh:=s3) R3 ae B3 g3 (xs:=ss) (m':=m4) (sh':=s4) E4 (N:=KS) eKS).mono ?_;rintro z9 y4⟨pS,cS,rfl,⟨LS,oS⟩,XE,hk4⟩;have hS4:=af oS.lt;have OS4:=af oS;have C4:=af (C3.dh hk4 ae ae);have K4:=af (K3.trans hk4);have R4:=af XE;have z4:=hk4.size;clear hk4 XE C3 K3 R3 oS;go_wp2_with fail;refine(aD1 (R:=R) (m:=m4) (n:=m4.length) (sh:=s4) R4 ae B4 g4 (xs:=ns) (m':=m5) (sh':=s5) E5 (N:=KN) eKN).mono ?_;rintro z9 y5⟨pN,cN,rfl,⟨LN,oN⟩,hr5,YW⟩;have ON5:=af oN;have C5:=af (C4.dh YW ae ae);have K5:=af (K4.trans YW);have R5:=af hr5;have z5:=YW.size;have OS5:=af (OS4.dh lp.keep YW ae);clear YW hr5 C4 K4 R4 oN OS4;have b5:Bw w y5:=fD bW K5 ae;have FF:Hid (gD W.heap.size y5 pS KS cS pN KN cN ss ns):=by obtain⟨A1,q1,q2,q3⟩:=OS5.uE (M:=y4.heap.size) (λa ha=>(hS4.2 a ha).2) (λb hb=>(hS4.1 b hb).2);obtain⟨rn,A2,q4,q5⟩:=ON5.no;exact⟨A1,A2,OS5.se.1,rn,q1,q4,(q2.mono ae).app q5 ae q3⟩
 clear OS5 ON5 hS4;obtain⟨V,hV⟩:=az (y5.alloc (.cells #[.U e,.U g,.U x,.I 0,.S pS KS cS,.S pN KN cN] 35));have hbV:=ew hV;have CV:=af (C5.below ae hbV);have RV:=af (R5.below hbV ae);have bV:=aj b5 hbV;have FV:=af (FF.below hbV);obtain⟨sb,Ui⟩:=az y5.heap.size;have CS:Hid (al V sb [.U e,.U g,.U x,.I 0,.S pS KS cS,.S pN KN cN]):=by show al _ _ _;rw[hV,Ui];exact al.alloc y5 #[.U e,.U g,.U x,.I 0,.S pS KS cS,.S pN KN cN] _
 have zV:V.heap.size=sb+1:=by rw[hV];simp;omega
 have Uh:w.heap.size<sb:=ae;obtain⟨-,-,-,-,⟨-,gsh⟩,-⟩:=aa RV;rw[hV]at gsh;have HV:=af hV;have HSB:=af Ui;clear hV hbV C5 R5 FF Ui;cases s5 with
 |true=>
  have hV:=aa HV;have CV2:=CV;have bV2:=bV;rw[hV]at CV2 bV2;have hP:ko l=none:=by rw[ko,aa EI];rw[bG (λhh=>by cases hh.1)]
  have HD:Hid (Il (ko l)=im/\Im (ko l)=13):=by rw[hP];exact⟨rfl,rfl⟩
  clear hP;have r0:=CV2.1 0 _ rfl;have r1:=CV2.1 1 _ rfl;have r2:=CV2.1 2 _ rfl;have r3:=CV2.1 3 _ rfl;have r4:=CV2.1 4 _ rfl;have r5:=CV2.1 5 _ rfl;have rf:=CV2.2;clear hV;have BB:=bV2;go_wp2;refine dD (v:=.tuple #[ft 0 0 0 0 (.S none 0 0) (.S none 0 0),.I 13]) (by simp[results,results85,go_sem,r0,r1,r2,r3,r4,r5]) rfl ⟨?_,?_⟩;{rw[HD.1,HD.2];exact⟨none,0,none,0,rfl,gD.zero _ _⟩};{exact(((((BB.setCell ai _).setCell ai _).setCell ai _).setCell ai _).setCell ai _).setCell ai _}
 |false=>
  obtain⟨RL,eRL⟩:∃L,Hid (En e g x 0 ss ns=L):=⟨_,bq⟩;obtain⟨L,eL⟩:∃k,Hid (RL.length=k):=⟨_,bq⟩;have mj:Hid (∀s∈ss,s.2.2.length<=0/\∀e∈s.2.2,aN e.2/\e.2.length<=1048576):=λs hs=>by rw[(aa HSS s hs).2];exact⟨fN _,λe he=>by simp at he⟩
  have gq:Hid (∀nd∈ns,aN nd.path/\nd.path.length<=1048576/\nd.value.length<=1048576/\nd.holders.length<=1048576/\nd.watchers.length<=1048576):=λnd bj=>by have:=aa HNS nd bj;exact⟨this.by0,this.l0,this.l1,this.l4,by rw[this.l7];exact fN _⟩
  have Ci:Hid (∀nd∈ns,(∀i∈nd.holders,0<=i/\i<18446744073709551616)/\∀i∈nd.watchers,0<=i/\i<18446744073709551616):=λnd bj=>⟨(aa HNS nd bj).ho,λi hi=>by rw[(aa HNS nd bj).l7]at hi;simp at hi⟩;have QT:Hid (∀nd∈ns,0<=nd.owner/\nd.owner<18446744073709551616):=λnd bj=>(aa HNS nd bj).ow
  have Y5:Hid (∀nd∈ns,(0<=nd.aJ/\nd.aJ<18446744073709551616)/\0<=nd.gen/\nd.gen<18446744073709551616):=λnd bj=>⟨(aa HNS nd bj).ep,(aa HNS nd bj).ge⟩
  go_wp2_with fail;rw[<-aa HV];have RRV:Hid (mg V (.S pS KS cS) ss/\oU V (.S pN KN cN) ns):=by obtain⟨-,-,q1,q2,-⟩:=aa FV;exact⟨q1,q2⟩
  refine(Wp (e:=e) (g:=g) (x:=x) (t:=0) he hg hx (p:=pS) (q:=pN) (c:=cS) (n:=KS) (d:=cN) (m:=KN) (ss:=ss) (ns:=ns) eKS eKN RRV.1 RRV.2 hKS hKN mj gq Ci QT Y5 (aa HR _ bV).2 (R:=RL) eRL (L:=L) eL).mono ?_;rintro z9 u1⟨pE,cE,rfl,oE,rJ⟩;have b6:=aj bV rJ;have C6:=af (CV.below ae rJ);have S6:=af (CS.below ae rJ);have F6:=af (FV.below rJ);have RE:=af oE.rd;have zu1:=rJ.size;clear oE rJ gsh;go_wp2_with fail;refine(jr (p:=pE) (q:=p) (c:=cE) (d:=c) (n:=L) (k:=n) (l:=RL) (m:=l) eL en (aa RE) (aa HR _ b6).1 (aa eRL▸ap8 he hg hx (aa HNS)) (aa hb)).mono ?_;rintro z9 u2⟨rfl,Sr⟩;have b7:=aj b6 Sr;have C7:=af (C6.below ae Sr);have S7:=af (S6.below ae Sr);have F7:=af (F6.below Sr);have zu2:=Sr.size;clear Sr;by_cases hEq:RL=l;{
 have hd:decide (RL=l)=true:=by simpa using hEq
 have hP:ko l=some (((e:Int),(g:Int),(x:Int)),ss,ns):=by rw[ko,aa EI];rw[bN ⟨rfl,eRL.trans hEq⟩]
 have HD:Hid (Il (ko l)=⟨e,g,x,0,ss,ns⟩/\Im (ko l)=0):=by rw[hP];exact⟨rfl,rfl⟩
 rw[hd];have r0:=C7.1 0 _ rfl;have r1:=C7.1 1 _ rfl;have r2:=C7.1 2 _ rfl;have r3:=C7.1 3 _ rfl;have r4:=C7.1 4 _ rfl;have r5:=C7.1 5 _ rfl;have rf:=C7.2;have k0:=S7.1 0 _ rfl;have k1:=S7.1 1 _ rfl;have k2:=S7.1 2 _ rfl;have k3:=S7.1 3 _ rfl;have k4:=S7.1 4 _ rfl;have k5:=S7.1 5 _ rfl;have q1:¬w.heap.size=sb:=ae;have q2:¬sb=w.heap.size:=ae;clear hP hd hEq;rw[<-aa HSB];go_wp2;obtain⟨Z,hZ⟩:=az ((((((u2.setCell (Ad w.heap.size 0) (.U e)).setCell (Ad w.heap.size 1) (.U g)).setCell (Ad w.heap.size 2) (.U x)).setCell (Ad w.heap.size 3) (.I 0)).setCell (Ad w.heap.size 4) (.S pS KS cS)).setCell (Ad w.heap.size 5) (.S pN KN cN));have hkZ:∀z,z≠w.heap.size->Z.heap[z]?=u2.heap[z]?:=λz hz=>by
  rw[hZ]
  iterate 6 rw[fW _ _ _ _ hz]
 refine dD (v:=.tuple #[ft e g x 0 (.S pS KS cS) (.S pN KN cN),.I 0]) (by simp[results,results85,go_sem,r0,r1,r2,r3,r4,r5]) rfl ⟨?_,?_⟩;{rw[<-hZ,HD.1,HD.2];have f:=(F7.keep (w':=Z) (λz hz _=>hkZ z ae)).mono (B':=w.heap.size) ae;rw[<-aa eKS,<-aa eKN]at f⊢;exact⟨pS,cS,pN,cN,rfl,f⟩};{exact(((((b7.setCell ai _).setCell ai _).setCell ai _).setCell ai _).setCell ai _).setCell ai _}};{
 have hd:decide (RL=l)=false:=by simpa using hEq
 rw[hd];have hP:ko l=none:=by rw[ko,aa EI];rw[bG (λhh=>hEq (eRL.symm.trans hh.2))]
 have HD:Hid (Il (ko l)=im/\Im (ko l)=13):=by rw[hP];exact⟨rfl,rfl⟩
 clear hP;have r0:=C7.1 0 _ rfl;have r1:=C7.1 1 _ rfl;have r2:=C7.1 2 _ rfl;have r3:=C7.1 3 _ rfl;have r4:=C7.1 4 _ rfl;have r5:=C7.1 5 _ rfl;have rf:=C7.2;have BB:=b7;go_wp2;refine dD (v:=.tuple #[ft 0 0 0 0 (.S none 0 0) (.S none 0 0),.I 13]) (by simp[results,results85,go_sem,r0,r1,r2,r3,r4,r5]) rfl ⟨?_,?_⟩;{rw[HD.1,HD.2];exact⟨none,0,none,0,rfl,gD.zero _ _⟩};{exact(((((BB.setCell ai _).setCell ai _).setCell ai _).setCell ai _).setCell ai _).setCell ai _}}
def SnR(l:LI)(r:Ending)(w':World):Prop:=∃(D:SD)(q C:Int)(p:OA)(c:Nat)(p':OA)(d:Nat),r=.returned (.tuple #[ft D.e D.g D.x D.t (.S p D.ss.length c) (.S p' D.ns.length d),.U q,.I C])/\mg w' (.S p D.ss.length c) D.ss/\oU w' (.S p' D.ns.length d) D.ns/\((xE l=none/\C=13)\/(xE l=some (D,q)/\C=0))
def r9{w:World}:mg w (.S none 0 0) []:=⟨none,0,rfl,.inl rfl⟩
def vO{w:World}:oU w (.S none 0 0) []:=⟨none,0,rfl,.inl rfl⟩
def SnR.no(h:Hid (xE l=none))(w':World):SnR l (.returned (.tuple #[ft 0 0 0 0 (.S none 0 0) (.S none 0 0),.U 0,.I 13])) w':=
 ⟨⟨0,0,0,0,[],[]⟩,0,13,none,0,none,0,rfl,r9,vO,.inl ⟨h,rfl⟩⟩
def JR(h0:¬l.length=0)(h:l.length<20):xE l=none:=by rw[xE,bG h0,bN h]
def ZF(h:¬l.length<20)(hs:¬dr (num (sub l 4 12)) (sub l 16 (l.length-4))=l):xE l=none:=by rw[xE,bG (by omega),bG h,bG hs]
def Vu(h:¬l.length<20)(hb:4611686018427387904<num (sub l 4 12)):xE l=none:=by
 rw[xE,bG ae,bG h,bN hb];split<;>rfl
def Vt(h:¬l.length<20)(hs:dr (num (sub l 4 12)) (sub l 16 (l.length-4))=l)(hb:¬4611686018427387904<num (sub l 4 12)):xE l=(dK (sub l 16 (l.length-4))).map λr=>(⟨r.1.1,r.1.2.1,r.1.2.2,0,r.2.1,r.2.2⟩,num (sub l 4 12)):=by
 rw[xE,bG ae,bG h,bN hs,bG hb]
theorem Mu{c n:Nat}(en:Hid (l.length=n)){w:World}(h:Rd w (.S p n c) l)(hb:aN l)(hl:Mg n)(xq:n<=c)(EU:Hid (c<=maxLen))(hp:Hid ((p=none/\c=0)\/∃b o,p=some (Ad b o)))(Ek:ML w):Calls prog 45 #[.S p n c] w λr w'=>SnR l r w'/\Bw w w':=by
 obtain⟨W0,dP,b0,z0,C0,-⟩:=ar w #[.U 0,.U 0,.U 0,.I 0,.S none 0 0,.S none 0 0] 35;have HR:=af (ah (h.below b0) (ah (Ek.below b0) hb));clear h Ek hb
 go_in
 by_cases KH:n=0;{
 subst KH;have HD:Hid (xE l=some (⟨0,0,0,0,[],[]⟩,0)):=by show _=_;rw[xE,bN (aa en)]
 obtain⟨r0,r1,r2,r3,r4,r5,rf⟩:=C0.c6;go_wp2_with fail;rw[<-dP];go_wp2;exact dD (by simp[results,results45,go_sem,r0,r1,r2,r3,r4,r5]) rfl ⟨⟨⟨0,0,0,0,[],[]⟩,0,0,none,0,none,0,rfl,r9,vO,.inr ⟨aa HD,rfl⟩⟩,b0⟩};{
 have um:((n:Int)==0)=false:=by simp;omega
 go_wp2_with fail;rw[<-dP];clear um dP;have qc:w.heap.size<W0.heap.size:=ae;by_cases h20:n<20;{refine(Jl h20).mono ?_;rintro r w1⟨p1,c1,rfl,-,aA⟩;have HD:Hid (xE l=none):=JR (aa en▸KH) (aa en▸h20);obtain⟨r0,r1,r2,r3,r4,r5,rf⟩:=(C0.below qc aA).c6;have BB:=aj b0 aA;clear aA C0 b0;go_wp2;exact dD (by simp[results,results45,go_sem,r0,r1,r2,r3,r4,r5]) rfl ⟨SnR.no HD _,oz BB⟩};{
 obtain⟨pb,po,rfl⟩:∃b o,p=some (Ad b o):=by rcases aa hp with⟨-,h⟩|h;{omega};{exact h}
 have Ul:¬l.length<20:=aa en▸h20;refine(aE6 en HR.1 HR.2.2 ae hl xq EU).mono ?_;intro r w1 hd;unfold qR at hd;by_cases hs:dr (num (sub l 4 12)) (sub l 16 (n-4))=l;{
 rw[bN hs]at hd;obtain⟨p1,c1,rfl,o1,aA⟩:=hd;obtain⟨q,eq⟩:=aI (num (sub l 4 12));have hq:=kM (HR.2.2.sub 4 12) (by simp[sub];omega);obtain⟨B,eB⟩:=aI (sub l 16 (n-4));have Ej:Hid (B.length=n-20):=by show _=_;rw[<-eB,dI (by rw[aa en];omega)];omega
 have Sx:Hid (aN B):=by show aN B;rw[<-eB];exact HR.2.2.sub _ _
 rw[eq]at hq;rw[eB]at o1;rw[eq];have BB:=aj b0 aA;have C1:=C0.below qc aA;have iU:w.heap.size<w1.heap.size:=aG aA.size;have HM:=af (HR.2.1.below aA);have HS:Hid (xE l=if 4611686018427387904<q then none else(dK B).map λr=>(⟨r.1.1,r.1.2.1,r.1.2.2,0,r.2.1,r.2.2⟩,q)):=by show _=_;by_cases hb:4611686018427387904<q;{rw[bN hb,Vu Ul (eq▸hb)]};{rw[bG hb,Vt Ul (aa en▸hs) (eq▸hb),aa en,eq,eB]}
 clear hs eq eB aA C0 b0 qc HR;by_cases Us:4611686018427387904<q;{
 have HD:Hid (xE l=none):=by show _=_;rw[aa HS,bN Us]
 obtain⟨r0,r1,r2,r3,r4,r5,rf⟩:=C1.c6;clear o1;go_wp2;exact dD (by simp[results,results45,go_sem,r0,r1,r2,r3,r4,r5]) rfl ⟨SnR.no HD _,oz BB⟩};{
 have Hf:=aa HS;rw[bG Us]at Hf;have tF:=af Hf;have ad:=o1.adr;have HO:=af (ah o1.rd (ah o1.cap ad));clear Hf HS o1 ad;go_wp2_with fail;refine(ai6 Ej HO.1 Sx ae HO.2.1 (af HO.2.2.1) (af HO.2.2.2) HM).mono ?_;rintro r w2⟨⟨ps,cs,pn,cn,rfl,St⟩,aD⟩;rw[<-Xa (aa Sx) (by rw[aa Ej];omega)]at St⊢;have B2:=aj BB aD;have C2:=C1.below iU aD;have jU:w.heap.size<w2.heap.size:=aG aD.size;obtain⟨r0,r1,r2,r3,r4,r5,rf⟩:=C2.c6;clear aD C1 BB HO HM;clear r0 r1 r2 r3 r4 r5 rf;cases hP:dK B with
 |none=>
  have HD:Hid (xE l=none):=by show _=_;rw[aa tF,hP];rfl
  simp only[Il,Im,im,Af];obtain⟨W3,Ay,b3,z3,C3,-⟩:=ar w2 #[.U 0,.U 0,.U 0,.I 0,.S ps 0 cs,.S pn 0 cn] 35;obtain⟨r0,r1,r2,r3,r4,r5,rf⟩:=(C2.below jU b3).c6;have B3:=aj B2 b3;clear hP St C2 C3 b3 z3 B2 iU jU;subst Ay;go_wp2;exact dD (by simp[results,results45,go_sem,r0,r1,r2,r3,r4,r5]) rfl ⟨SnR.no HD _,oz B3⟩
 |some s=>
  have HD:Hid (xE l=some (⟨s.1.1,s.1.2.1,s.1.2.2,0,s.2.1,s.2.2⟩,q)):=by show _=_;rw[aa tF,hP];rfl
  rw[hP]at St;simp only[Il,Im]at St⊢;obtain⟨⟨e,g,x⟩,ss,ns⟩:=s;simp only at St HD⊢;obtain⟨n1,Oj⟩:=bH ss.length;obtain⟨n2,Ie⟩:=bH ns.length;rw[aa Oj,aa Ie]at St⊢;obtain⟨W3,Ay,b3,z3,C3,-⟩:=ar w2 #[.U e,.U g,.U x,.I 0,.S ps n1 cs,.S pn n2 cn] 35;obtain⟨r0,r1,r2,r3,r4,r5,rf⟩:=(C2.below jU b3).c6;obtain⟨k0,k1,k2,k3,k4,k5,-⟩:=C3.c6;have B3:=aj B2 b3;have H3:=af (St.keep (w':=dB W3 w.heap.size (.U e) (.U g) (.U x) (.I 0) (.S ps n1 cs) (.S pn n2 cn)) (λy h1 h2=>(iI ae).trans (b3.block y h2))).rdc;clear hP St C2 C3 b3 z3 B2 iU jU;subst Ay;go_wp2;refine dD (v:=.tuple #[ft e g x 0 (.S ps n1 cs) (.S pn n2 cn),.U q,.I 0]) (by simp[results,results45,go_sem,r0,r1,r2,r3,r4,r5]) rfl ⟨⟨⟨e,g,x,0,ss,ns⟩,q,0,ps,cs,pn,cn,?_,?_,?_,.inr ⟨aa HD,rfl⟩⟩,oz B3⟩;{rw[aa Oj,aa Ie]};{rw[aa Oj];exact H3.1};{rw[aa Ie];exact H3.2}}};{rw[bG hs]at hd;obtain⟨p1,c1,rfl,-,aA⟩:=hd;have HD:Hid (xE l=none):=ZF Ul (aa en▸hs);obtain⟨r0,r1,r2,r3,r4,r5,rf⟩:=(C0.below qc aA).c6;have BB:=aj b0 aA;clear aA C0 b0 hs;go_wp2;exact dD (by simp[results,results45,go_sem,r0,r1,r2,r3,r4,r5]) rfl ⟨SnR.no HD _,oz BB⟩}}}
def StP(w0 w:World)(b bs bn:Nat)(D:SD)(v:Value)(r:Ending)(w':World):Prop:=∃SB NB HB UB,r=.returned v/\PS w0 w' b bs bn D SB NB HB UB/\Fr T3 w w'
def Z8(D:SD):Option Rq->Bool×SD
 |none=>(false,D)
 |some o=>if(apL D o).2.k=0 then(true,(apL D o).1)else(false,D)
def VD.gd(h:VD D):GD D:=GD.of h.ok (Fb h.ok h.mj h.gq) h.g.1 h.x.1 λnd bj=>(h.n2 nd bj).w1
theorem aX0{w:World}{SB NB HB UB:List Nat}(h:Hid (PS w0 w b bs bn D SB NB HB UB))(hV:Hid (VD D)){c n:Nat}(en:Hid (l.length=n))(hr:Hid (Rd w (.S p n c) l))(hb:Hid (aN l))(hn:n<=1000)(xq:n<=c)(ha:Hid (Adr w p c))(hM:Hid (ML w))(hT:Hid (Om w)){o:Option Rq}(ho:Hid (qQ l o)){R:Bool×SD}(eR:Hid (Z8 D o=R)):Calls prog 90 #[.pointer (some (Ad b 0)),.S p n c] w (StP w0 w b bs bn R.2 (.bool R.1)):=by
 go_in
 go_wp2_with fail;cases o with
 |none=>
  refine(aE5 en hb ae hT ho p c _ au hr xq ha).mono ?_;rintro r w1⟨p',c',q',d',B,rfl,-,-,-,-,aA⟩;have e:=aa eR;rw[Z8]at e;subst e;have P1:=af ((h.below aA).below ((cR w1.heap.size w1).alloc ao (.cells #[.I 0,.U 0,.S p' 0 c',.I 0,.S q' 0 d',.U 0,.U 0] 73)));have F1:=af (Fr.below (T:=T3) (aj aA ((cR w1.heap.size w1).alloc ao (.cells #[.I 0,.U 0,.S p' 0 c',.I 0,.S q' 0 d',.U 0,.U 0] 73))));clear aA;go_wp2;go_ret;exact⟨_,_,_,_,rfl,P1,F1⟩
 |some o=>
  obtain⟨K,S,F,P,V⟩:=o;have hd:JG l K S P F V:=aa ho;have HJ:=af hd.jo;have KE:=hd.parts;obtain⟨bP,bV⟩:=hd.byt hb;have hS:(0:Int)<=(S:Int)/\(S:Int)<18446744073709551616:=aG hd.2.2.1;have hln:=aa en;refine(ai1 en hb ae hT hd p c _ au hr xq ha).mono ?_;rintro r w1⟨p',c',q',d',B,rfl,-,oP,-,oV,aA⟩;obtain⟨np,Za⟩:=bH P.length;obtain⟨nv,env⟩:=bH V.length;rw[aa Za]at oP⊢;rw[aa env]at oV⊢;obtain⟨W,hW,bW,zW,CW,-⟩:=ar w1 #[.I K,.U S,.S p' np c',.I F,.S q' nv d',.U 0,.U 0] 73;have b2:=aj aA bW;have XF:np<=1000:=aG (aa Za);have CX:=af (show Sg w0 W b bs bn D SB NB HB UB S F 0 0 p' np c' q' nv d' P V from⟨h.below b2,hV.gd,hS,Za,env,(oP.below bW).rd,.inr (oV.below bW).tb,bP,ae,oP.cap,oP.vt,hM.below b2,λk h1 h2=>(aa hT k h1 h2).below b2⟩);have F2:=af (Fr.below (T:=T3) b2);obtain⟨o0,o1,o2,o3,o4,o5,o6⟩:W.cell? (Ad w1.heap.size 0)=some (.I K)/\W.cell? (Ad w1.heap.size 1)=some (.U S)/\W.cell? (Ad w1.heap.size 2)=some (.S p' np c')/\W.cell? (Ad w1.heap.size 3)=some (.I F)/\W.cell? (Ad w1.heap.size 4)=some (.S q' nv d')/\W.cell? (Ad w1.heap.size 5)=some (.U 0)/\W.cell? (Ad w1.heap.size 6)=some (.U 0):=⟨CW.1 0 _ rfl,CW.1 1 _ rfl,CW.1 2 _ rfl,CW.1 3 _ rfl,CW.1 4 _ rfl,CW.1 5 _ rfl,CW.1 6 _ rfl⟩;clear aA bW b2 oP oV CW KE bP bV hln hd ho;subst hW;go_wp2_with fail;refine(aJ9 (K:=K) HJ CX).mono ?_;rintro r w3⟨D',R',C,⟨SB',NB',YG,UB',v3,rfl,F3,P3,L3⟩,hA,hk⟩;obtain⟨p1,c1,p2,c2,p3,c3,rfl⟩:=L3;have e:=aa eR;rw[Z8]at e;simp only[apL]at e;rw[hA]at e;generalize(if C=0 then R' else rV)=Rx at*;have FF:=af (F2.trans F3);by_cases hC:C=0;{rw[bN hC]at P3;rw[bN hC,bN (hk hC)]at e;subst e;have P4:=af (P3.below ((cR w3.heap.size w3).alloc ao (.cells #[.I Rx.k,.U Rx.i,.U Rx.e,.U Rx.g,.I Rx.n,.S p1 Rx.Ol.length c1,.S p2 Rx.nms.length c2,.S p3 Rx.Ng.length c3] 79)));have F4:=af (FF.trans (Fr.below (T:=T3) ((cR w3.heap.size w3).alloc ao (.cells #[.I Rx.k,.U Rx.i,.U Rx.e,.U Rx.g,.I Rx.n,.S p1 Rx.Ol.length c1,.S p2 Rx.nms.length c2,.S p3 Rx.Ng.length c3] 79))));rw[H6,bN hC];clear hA hk F3 P3 hC;go_wp2;go_ret;exact⟨_,_,_,_,rfl,P4,F4⟩};{rw[bG hC]at P3;rw[bG hC,bG (by simpa[AR]using hC)]at e;subst e;have P4:=af (P3.below ((cR w3.heap.size w3).alloc ao (.cells #[.I Rx.k,.U Rx.i,.U Rx.e,.U Rx.g,.I Rx.n,.S p1 Rx.Ol.length c1,.S p2 Rx.nms.length c2,.S p3 Rx.Ng.length c3] 79)));have F4:=af (FF.trans (Fr.below (T:=T3) ((cR w3.heap.size w3).alloc ao (.cells #[.I Rx.k,.U Rx.i,.U Rx.e,.U Rx.g,.I Rx.n,.S p1 Rx.Ol.length c1,.S p2 Rx.nms.length c2,.S p3 Rx.Ng.length c3] 79))));rw[H6,bG hC];clear hA hk F3 P3 hC;go_wp2;go_ret;exact⟨_,_,_,_,rfl,P4,F4⟩}
def RcT(w:World)(p:OA)(rs:List R1):Prop:=rs=[]\/∃b o,p=some (Ad b o)/\(∃cur m,w.heap[b]?=some (.cells cur 71 m))/\∀i r,rs[i]?=some r->w.cell? (Ad b (o+i*2))=some (.U r.1)/\∃q d,w.cell? (Ad b (o+i*2+1))=some (.S q r.2.length d)/\TB w (.S q r.2.length d) r.2/\Adr w q d/\r.2.length<=d
def Adr.size{w w':World}{q:OA}(h:Adr w q d)(hs:w.heap.size<=w'.heap.size):Adr w' q d:=⟨h.1,λb o e=>gQ (h.2 b o e) hs⟩
def RcT.fr{T:List TypeId}{w w':World}(h:RcT w p rs)(hf:Fr T w w')(ht:71∉T/\5∉T:=by decide):RcT w' p rs:=by
 rcases h with h|⟨b,o,e,⟨cur,m,hc⟩,h⟩;{exact .inl h};{have hk:=(hf.2 _ _ _ _ ht.1 hc).trans hc.symm;refine .inr ⟨b,o,e,⟨cur,m,hk.trans hc⟩,λi r hr=>?_⟩;obtain⟨h1,q,d,h2,h3,h4,h5⟩:=h i r hr;exact⟨(aF hk _).trans h1,q,d,(aF hk _).trans h2,h3.fr hf ht.2,h4.size hf.1,h5⟩}
def RcT.below{w w':World}(h:RcT w p rs)(hb:Bw w w'):RcT w' p rs:=h.fr (Fr.below (T:=[]) hb) (by simp)
def il.rct{w:World}{n c:Nat}{vs:List Value}(h:il B w (.S p n c) rs vs):RcT w p rs:=by
 rcases id h.row.2 with⟨e,h0⟩|⟨g,cap,cur,e,hb,hg,_,_,_,ht⟩;{exact .inl (Jd h0)};{simp only[qZ]at e;refine .inr ⟨g,0,e.1,⟨_,_,hg⟩,λi r hi=>?_⟩;have aT:i<rs.length:=(bf.1 hi).1;have hlv:i<vs.length:=h.len▸aT;have hv:vs[i]?=some vs[i]:=bD hlv;obtain⟨e1,e2⟩:=nQ rs vs i r _ hi hv;obtain⟨rfl,rfl,rfl⟩:=e;have c1:=Gu (w:=w) (base:=B) h.row (2*i) ae;have c2:=Gu (w:=w) (base:=B) h.row (2*i+1) ae;have ho:=h.own i r _ hi hv;obtain⟨q,d,eq⟩:=ho.form;rw[eq]at ho e2;rw[kS,Qq i 2];exact⟨c1.trans e1,q,d,c2.trans e2,ho.tb,ho.adr,ho.cap⟩}
def RcT.at{w:World}(h:RcT w p rs){r:R1}(hr:rs[j]?=some r):∃b o q d,p=some (Ad b o)/\w.cell? (Ad b (o+j*2))=some (.U r.1)/\w.cell? (Ad b (o+j*2+1))=some (.S q r.2.length d)/\TB w (.S q r.2.length d) r.2/\Adr w q d/\r.2.length<=d:=by
 rcases h with h|⟨b,o,e,-,h⟩;{rw[h]at hr;simp at hr};{obtain⟨h1,q,d,h2,h3,h4,h5⟩:=h j r hr;exact⟨b,o,q,d,e,h1,h2,h3,h4,h5⟩}
def OP{dop:LI->Option Rq}{q:Int}{r:R1}(h:r.1<=q):qE dop D q r=some (D,q):=by rw[qE,bN h]
def Bu{dop:LI->Option Rq}{q:Int}{r:R1}(h:¬r.1<=q)(h2:r.1≠q+1\/4611686018427387904<r.1):qE dop D q r=none:=by rw[qE,bG h,bN h2]
theorem OQ{dop:LI->Option Rq}{q:Int}{r:R1}(h:¬r.1<=q)(h2:¬(r.1≠q+1\/4611686018427387904<r.1)):qE dop D q r=if(Z8 D (dop r.2)).1=true then some ((Z8 D (dop r.2)).2,r.1)else none:=by
 rw[qE,bG h,bG h2];cases dop r.2 with
 |none=>rfl
 |some o=>
  simp only[Z8];split<;>rfl
theorem aX3{o:Option Rq}(h:(Z8 D o).1=false):(Z8 D o).2=D:=by
 cases o with
 |none=>rfl
 |some o=>
  simp only[Z8]at h⊢;split at h<;>simp_all
theorem ZU{w:World}{SB NB HB UB:List Nat}(h:Hid (PS w0 w b bs bn D SB NB HB UB)){q:Int}(hG:Hid (GQ D q)){c n:Nat}(en:Hid (rs.length=n))(hn:n<=2097152)(hR:Hid (RcT w p rs))(hg:Hid (∀r∈rs,R1G r))(hM:Hid (ML w0))(hT:Hid (Om w0))(dop:LI->Option Rq)(hd:Hid (∀l,qQ l (dop l))){R:SD×Int}(eR:Hid (py dop D q rs=R)):Calls prog 48 #[.pointer (some (Ad b 0)),.S p n c,.U q] w (StP w0 w b bs bn R.1 (.U R.2)):=by
 go_in
 go_wp2
 go_loopw[2,11](λqv iv wr=>∃(j:Nat)(q1:Int)(D1:SD)(SB NB HB UB:List Nat),j<=n/\qv=.U q1/\iv=.I j/\Hid (py dop D1 q1 (rs.drop j)=R/\GQ D1 q1)/\Hid (PS w0 wr b bs bn D1 SB NB HB UB)/\Hid (Fr T3 w wr)) (λ_ iv _=>n-(intOf iv).toNat)
 exact⟨0,q,D,SB,NB,HB,UB,fN _,rfl,rfl,af ⟨by rw[tW];exact aa eR,aa hG⟩,h,af (Fr.refl _ _)⟩;{
 obtain⟨j,q1,D1,SB1,NB1,nO,UB1,hj,rfl,rfl,HE,HP,HF⟩:=hrel;by_cases aT:j<n;{
 have bu:=aS j n;have Ck:j<rs.length:=aa en▸aT;obtain⟨r,hr⟩:=mR Ck;have jN:=aa hg r (aY hr);obtain⟨rb,ro,rq,rd,rfl,c0,c1,tb,ad,cp⟩:=(hR.fr HF).at hr;obtain⟨s,body⟩:=r;simp only at c0 c1 tb cp;have s0:0<=s:=jN.2.2.1;have s1:s<18446744073709551616:=jN.2.2.2;obtain⟨m,em⟩:=bH body.length;rw[aa em]at c1 tb cp;have hm:m<=1000:=aa em▸jN.2.1;have q0:=HE.2.2.1;have q9:=HE.2.2.2;have wj:IntKind.i64.wrap ((j:Int)+1)=((j+1:Nat):Int):=by rw[jL _ ae];omega
 obtain⟨W,hW,bW,zW,CW,hbk⟩:=ar wr #[.U s,.S rq m rd] 71;have HBK:=af hbk;have d0:=CW.1 0 _ rfl;have d1:=CW.1 1 _ rfl;have HW:=af (ah (HP.below bW) (ah (HF.trans (Fr.below (T:=T3) bW)) (ah (tb.1.below bW) (ad.size bW.size))));have HS:=af (ah hr (ah jN.1 jN));clear Ck jN tb ad bW zW CW hr hbk;subst hW;by_cases h1:s<=q1;{have E2:Hid (py dop D1 q1 (rs.drop (j+1))=R/\GQ D1 q1):=⟨by rw[<-HE.1,vM HS.1 (OP h1)],HE.2⟩;go_wp2;go_roundw;exact⟨j+1,q1,D1,_,_,_,_,ae,rfl,by go_num,E2,af HW.1,af HW.2.1⟩;exact bM};{
 have H1:Hid (q1<s):=by show _<_;omega
 go_wp2_with fail;refine(DD s0 s1 q0 ae).mono ?_;rintro z9 w2⟨rfl,rfl⟩;by_cases h2:s=q1+1;{
 have hf:IE (some q1) s=true:=by simp[IE,h2];omega
 rw[hf];have H2:=af h2;clear h2 hf;by_cases h3:4611686018427387904<s;{
 have E2:Hid ((D1,q1)=R):=by show _=_;rw[<-HE.1,oK HS.1 (Bu (by have:=aa H1;simp only;omega) (.inr h3))]
 have e:=aa E2;subst e;go_wp2;go_ret;exact⟨_,_,_,_,rfl,HW.1,HW.2.1⟩};{
 have Hr:=OQ (dop:=dop) (D:=D1) (q:=q1) (r:=(s,body)) (by have:=aa H1;simp only;omega) (show¬((s,body).1≠q1+1\/4611686018427387904<(s,body).1)from by rw[Je];exact⟨λh=>h (aa H2),h3⟩);obtain⟨X,eX⟩:=bH (Z8 D1 (dop body));simp only at Hr;rw[aa eX]at Hr;have tF:=af Hr;clear Hr;go_wp2_with fail;refine(aX0 (af HW.1) (af HE.2.1) em (af HW.2.2.1) (af HS.2.1) hm cp (af HW.2.2.2) (af (hM.below HW.1.be)) (af λk h1 h2=>(aa hT k h1 h2).below HW.1.be) (af (aa hd body)) eX).mono ?_;rintro z9 w3⟨SB2,NB2,Bf,UB2,rfl,P3,F3⟩;have HP3:=af P3;have HF3:=af (HW.2.1.trans F3);have d3:=aq (F3.2 _ _ _ _ aZ HBK) 0;clear d0 d1;clear P3 F3;obtain⟨B,D2⟩:=X;cases B with
 |false=>
  have E2:Hid ((D1,q1)=R):=by show _=_;rw[<-HE.1,oK HS.1 (by rw[aa tF];rfl)]
  have e:=aa E2;subst e;have eD:D2=D1:=by have:=aX3 (D:=D1) (o:=dop body) (by rw[aa eX]);rw[aa eX]at this;exact this
  rw[eD]at HP3;clear eD HE;go_wp2;go_ret;exact⟨_,_,_,_,rfl,HP3,HF3⟩
 |true=>
  have cX:qE dop D1 q1 (s,body)=some (D2,s):=by rw[aa tF];rfl
  have E2:Hid (py dop D2 s (rs.drop (j+1))=R/\GQ D2 s):=⟨by rw[<-HE.1,vM HS.1 cX],Fz (aa hd) HE.2 HS.2.2 cX⟩;clear cX;go_wp2;go_roundw;exact⟨j+1,s,D2,_,_,_,_,ae,rfl,by go_num,E2,HP3,HF3⟩;exact bM}};{
 have hf:IE (some q1) s=false:=by simp[IE,h2]
 rw[hf];have E2:Hid ((D1,q1)=R):=by show _=_;rw[<-HE.1,oK HS.1 (Bu (by have:=aa H1;simp only;omega) (.inl h2))]
 have e:=aa E2;subst e;go_wp2;go_ret;exact⟨_,_,_,_,rfl,HW.1,HW.2.1⟩}}};{
 have bu:=dm j n;have ejn:j=n:=ae;have E2:Hid ((D1,q1)=R):=by show _=_;rw[<-HE.1,ejn,<-aa en,Ph]
 have e:=aa E2;subst e;clear HE;go_wp2;go_ret;exact⟨_,_,_,_,rfl,HP,HF⟩}}
def VD.Jz(h:VD D):AM D.ss D.ns:=Fb h.ok h.mj h.gq
def Zt{w0 w:World}{SB NB HB UB:List Nat}(hV:VD D)(h:PS w0 w b bs bn D SB NB HB UB):Calls Tryz.prog 50 #[.pointer (some (Ad b 0))] w λr w'=>∃p c q d,r=.returned (ft D.e D.g D.x D.t (.S p D.ss.length c) (.S q D.ns.length d))/\gD w.heap.size w' p D.ss.length c q D.ns.length d D.ss D.ns/\Bw w w':=
 (Bv h.sto hV.Jz.s1 hV.Jz.n1 (dQ hV.sl aZ) (dQ hV.nl aZ) hV.Jz.s2 hV.Jz.n2).mono λr w'⟨p,c,q,d,A1,A2,e,q1,q2,q3,q4,q5,q6⟩=>⟨p,c,q,d,e,⟨A1,A2,q1,q2,q3,q4,q5⟩,q6⟩
def VD.re(h:VD D){e d:Int}(h1:D.e<=e)(h2:e<=4611686018427387904)(hd:0<=d/\d<=1000015)(ht:0<=t/\t<=1000000):VD ⟨e,D.g,D.x,t,D.ss.map λs=>(s.1,d,[]),D.ns.map iG⟩:=by
 have e1:pZ (D.ss.map λs=>(s.1,d,[]))=pZ D.ss:=by unfold pZ;rw[qX];rfl
 have e2:AU (D.ns.map iG)=AU D.ns:=by unfold AU;rw[qX];rfl
 refine⟨⟨Int.le_trans h.e.1 h1,h2⟩,h.g,h.x,ht,by show(List.map _ _).length<=_;rw[dZ];exact h.sl,by show(List.map _ _).length<=_;rw[dZ];exact h.nl,?_,λs hs=>?_,?_,λnd bj=>?_⟩;{show List.Pairwise _ (pZ (D.ss.map _));rw[e1];exact h.s1};{obtain⟨y,hy,rfl⟩:=ji.1 hs;exact⟨(h.s2 y hy).1,hd,rfl⟩};{show List.Pairwise _ (List.map _ (D.ns.map iG));rw[qX];exact h.n1};{obtain⟨y,hy,rfl⟩:=ji.1 bj;have hn:=(h.n2 y hy).gen h1 (pQ _);show NV _ _ (pZ (D.ss.map _)) (AU (D.ns.map iG)) _;rw[e1,e2];exact⟨hn.ep,hn.vp,hn.pb,hn.cp,hn.va,hn.vb,hn.ow,hn.h1,hn.h2,rfl,(λi hi=>by cases hi),hn.lk⟩}
def Nl(D:SD):sF:=⟨D.e,D.g,D.x,0,D.ss.map jh,D.ns.map iG⟩
def Oc(dop:LI->Option Rq)(l0 l1:LI)(ok:Bool):sF×Int×Int:=
 if ok=false then(im,0,1)else match xE l1 with
  |none=>(im,0,13)
  |some x=>(Nl (py dop x.1 x.2 (rl l0)).1,(py dop x.1 x.2 (rl l0)).2,0)
def Sb(B:Nat)(r:Ending)(w:World)(R:sF×Int×Int):Prop:=∃p c q d,r=.returned (.tuple #[ft R.1.e R.1.g R.1.x R.1.t (.S p R.1.ss.length c) (.S q R.1.ns.length d),.U R.2.1,.I R.2.2])/\gD B w p R.1.ss.length c q R.1.ns.length d R.1.ss R.1.ns
def Sb.no{w:World}{R:sF×Int×Int}(h:Hid (R=(im,0,C))):Sb B (.returned (.tuple #[ft 0 0 0 0 (.S none 0 0) (.S none 0 0),.U 0,.I C])) w R:=by
 rw[aa h];exact⟨none,0,none,0,rfl,gD.zero _ _⟩
theorem Wz:∀(t:Option Int)(L:List (Option R1)),(Hx t L).length<=L.length
 |_,[]=>by simp[Hx]
 |_,none::_=>by simp[Hx]
 |t,some x::L=>by rw[Hx];split;{have:=Wz (some x.1) L;simp only[iT];omega};{simp}
theorem Zk:∀(f:Nat)(l:LI),(yl f l).length<=f+1
 |0,l=>by simp[yl]
 |f+1,l=>by
  rw[yl];split;{simp};{
 next r _=>
 have:=Zk f (l.drop (r.2.length+14));simp only[iT];omega}
def ZS:(rl l).length<=l.length+2:=dQ (Wz _ _) (Zk _ _)
def aD3{dop:LI->Option Rq}:Oc dop l0 l1 false=(im,0,1):=rfl
def pT{dop:LI->Option Rq}(h:xE l1=none):Oc dop l0 l1 true=(im,0,13):=by rw[Oc,Cw,h]
def An{dop:LI->Option Rq}{x:SD×Int}(h:xE l1=some x){X:SD×Int}(e:py dop x.1 x.2 (rl l0)=X):Oc dop l0 l1 true=(Nl X.1,X.2,0):=by rw[Oc,Cw,h,<-e]
theorem ai5(p0 p1 p2:OA)(n0 c0 n1 c1 n2 c2:Nat)(s0 s1 s2:Int)(l0 l1:LI)(e0:Hid (l0.length=n0))(e1:Hid (l1.length=n1))(w:World)(h0:Rd w (.S p0 n0 c0) l0)(h1:Rd w (.S p1 n1 c1) l1)(m0:Mg n0)(m1:Mg n1)(m2:Mg n2)(k0:n0<=c0)(k1:n1<=c1)(j0:Hid (c0<=maxLen))(j1:Hid (c1<=maxLen))(a0:Hid ((p0=none/\c0=0)\/∃b o,p0=some (Ad b o)))(a1:Hid ((p1=none/\c1=0)\/∃b o,p1=some (Ad b o)))(b0:Hid (aN l0))(b1:Hid (aN l1))(hM:ML w)(hT:Om w)(dop:LI->Option Rq)(hd:Hid (∀l,qQ l (dop l)))(ok:Bool)(Ic:Hid (A8 n0 s0 n1 s1 n2 s2=ok))(R:sF×Int×Int)(eR:Hid (Oc dop l0 l1 ok=R)):Calls prog 21 #[dt (.S p0 n0 c0) s0 (.S p1 n1 c1) s1 (.S p2 n2 c2) s2] w λr w'=>Sb w.heap.size r w' R/\Bw w w':=by
 obtain⟨W0,dP,q0,z0,C0,-⟩:=ar w #[.S p0 n0 c0,.I s0,.S p1 n1 c1,.I s1,.S p2 n2 c2,.I s2] 30;obtain⟨W1,lG,q1,z1,C1⟩:=qO W0;rw[z0]at C1 z1;have bW:=aj q0 q1;have HA:=af (λ(v:World)(hv:Bw W1 v)=>ah ((C0.below ae q1).below ae hv).c6 (ah (h0.below (aj bW hv)) (ah (h1.below (aj bW hv)) (ah (hM.below (aj bW hv)) (ah (show Om v fromλk i1 i2=>(hT k i1 i2).below (aj bW hv)) (aj bW hv))))));have HB:=af C1;have HZ:=af (ah z0 z1);have BR:=af (cR W1.heap.size W1);clear q0 q1 C0 C1 bW h0 h1 hM hT z0 z1
 go_in
 go_wp2_with fail;rw[<-dP,<-lG];clear dP lG;refine(xm ae ae ae).mono ?_;rintro r w1⟨rfl,aA⟩;rw[aa Ic];have B1:=af aA;have X1:=af (HB.below aA);have iU:=aA.size;clear aA Ic;cases ok with
 |false=>
  have HD:Hid (R=(im,0,1)):=by show _=_;rw[<-aa eR];rfl
  obtain⟨r0,r1,r2,r3,r4,r5,rf⟩:=X1.cells;have BB:=(aa HA w1 B1).2.2.2.2.2;clear iU;go_wp2;exact dD (by simp[results,results21,go_sem,r0,r1,r2,r3,r4,r5]) rfl ⟨Sb.no HD,oz BB⟩
 |true=>
  obtain⟨⟨i0,i1,i2,i3,i4,i5,-⟩,-⟩:=aa HA w1 B1;go_wp2_with fail;refine(Mu e1 (aa HA w1 B1).2.2.1 b1 m1 k1 j1 a1 (aa HA w1 B1).2.2.2.1).mono ?_;rintro r w2⟨⟨D,q,C,p,c,p',d,rfl,hS,hN,XG⟩,aD⟩;obtain⟨n,en⟩:=bH D.ss.length;obtain⟨m,em⟩:=bH D.ns.length;rw[aa en]at hS⊢;rw[aa em]at hN⊢;obtain⟨W3,Ay,b3,z3,C3,-⟩:=ar w2 #[.U D.e,.U D.g,.U D.x,.I D.t,.S p n c,.S p' m d] 35;have B3:=af (aj B1 (aj aD b3));have X3:=af ((X1.below aD).below b3);have HS3:=af (ah (hS.below b3) (hN.below b3));have Sd:=af C3;have HO:=af XG;have YO:w2.heap.size<W3.heap.size:=ae;have hzw:w.heap.size+1<W3.heap.size:=by have:=HZ.2;have:=aD.size;omega
  clear hS hN aD b3 C3 i0 i1 i2 i3 i4 i5 X1 B1 XG;rcases aa HO with⟨ij,rfl⟩|⟨ij,rfl⟩;{
 have HD:Hid (R=(im,0,13)):=by show _=_;rw[<-aa eR];exact pT ij
 obtain⟨r0,r1,r2,r3,r4,r5,rf⟩:=X3.cells;have BB:=(aa HA W3 B3).2.2.2.2.2;clear ij iU YO hzw z3;subst Ay;go_wp2;exact dD (by simp[results,results21,go_sem,r0,r1,r2,r3,r4,r5]) rfl ⟨Sb.no HD,oz BB⟩};{
 have HG:=af (To (aa b1) (aa e1▸m1) ij);obtain⟨X,eX⟩:=bH (py dop D q (rl l0));have HD:Hid (R=(Nl X.1,X.2,0)):=by show _=_;rw[<-aa eR];exact An ij (aa eX)
 have HGX:Hid (GQ X.1 X.2):=by show GQ X.1 X.2;rw[<-aa eX];exact Ex hd _ HG (Ey b0)
 clear ij HO;obtain⟨⟨i0,i1,i2,i3,i4,i5,-⟩,-⟩:=aa HA W3 B3;obtain⟨k0',k1',k2',k3',k4',k5',-⟩:=Sd.c6;have HZW:=af (ah hzw YO);clear iU YO hzw z3;subst Ay;go_wp2_with fail;clear i0 i1 i2 i3 i4 i5 k0' k1' k2' k3' k4' k5';obtain⟨W3,Ay⟩:=az (w2.alloc (.cells #[.U D.e,.U D.g,.U D.x,.I D.t,.S p n c,.S p' m d] 35));rw[<-Ay]at B3 X3 HS3 Sd HZW⊢;clear Ay;refine(QL (aa HA W3 B3).2.1 b0 e0 m0 k0 j0 a0).mono ?_;rintro r w4⟨pr,cr,vs,rfl,XG,dS⟩;obtain⟨nr,enr⟩:=bH (rl l0).length;obtain⟨tk,etk⟩:∃k,(yT (rl l0):Int)=k:=⟨_,rfl⟩;have RC4:=af XG.rct;have hnr:Hid (nr<=2097152):=by show _<=_;rw[<-aa enr];exact dQ (ZS) (by rw[aa e0];omega)
 rw[aa enr,etk];have B4:=af (aj B3 dS);have X4:=af (X3.below dS);have HS4:=af (ah (HS3.1.below dS) (HS3.2.below dS));have QN:=dS.size;obtain⟨k0',k1',k2',k3',k4',k5',-⟩:=(Sd.below HZW.2 dS).c6;clear XG dS etk;go_wp2_with fail;clear k0' k1' k2' k3' k4' k5';have HF:=af HG.1.Jz;refine(my en em HS4.1 HS4.2 (by rw[<-aa en];have:=HG.1.sl;omega) (by rw[<-aa em];have:=HG.1.nl;omega) (af λs hs=>(HF.s2 s hs).1) (af HF.s3) (af HG.1.gq) (af HG.1.Ci) (af HF.n3)).mono ?_;rintro r w5⟨b,bs,bn,SB,NB,YG,UB,rfl,cX,e8⟩;have P5:=af (PS.of cX e8 HF (aG HG.1.sl) (aG HG.1.nl));have X5:=af (X4.below e8);have RC5:=af (RC4.below e8);have HW4:=af (aa HA w4 B4);have HL:=af (ah QN e8.size);clear cX e8 QN;go_wp2_with fail;refine(ZU P5 HG enr hnr RC5 (af (Ey b0)) (af HW4.2.2.2.1) (af HW4.2.2.2.2.1) dop hd eX).mono ?_;rintro r w6⟨SB6,NB6,HB6,UB6,rfl,P6,F6⟩;have HP6:=af P6;have X6:=af (X5.fr F6);have HF6:=af F6;clear P6 F6;have HFX:=af HGX.1.Jz;go_wp2_with fail;refine(Na HP6 (af (KD.of HFX)) (af HFX.s3)).mono ?_;rintro r w7⟨P7,F7,v7,rfl⟩;have HP7:=af P7;have X7:=af (X6.fr F7);have HF7:=af (HF6.trans F7);clear P7 F7;obtain⟨nx,enx⟩:=bH (Nl X.1).ss.length;obtain⟨mx,emx⟩:=bH (Nl X.1).ns.length;go_wp2_with fail;have HS7:=af (Zt (HGX.1.re (pQ _) HGX.1.e.2 (d:=0) (t:=0) ⟨pQ 0,J7 _⟩ ⟨pQ 0,J7 _⟩) HP7);dsimp only at HS7;rw[show(List.map (λs:aP=>(s.1,(0:Int),([]:List Ev))) X.1.ss).length=nx from aa enx,show(List.map iG X.1.ns).length=mx from aa emx]at HS7;refine HS7.mono ?_;rintro r w8⟨p8,c8,q8,d8,rfl,hs8,hb8⟩;have X8:=X7.below hb8;obtain⟨r0,r1,r2,r3,r4,r5,rf⟩:=X8.cells;have BB:Bw w w8:=(HW4.2.2.2.2.2.trans (HP7.be.mono (aG HW4.2.2.2.2.2.size))).trans (hb8.mono (by have:=HP7.be.size;have:=HW4.2.2.2.2.2.size;omega));have H8:=af ((hs8.keep (w':=dB w8 (w.heap.size+1) (.U X.1.e) (.U X.1.g) (.U X.1.x) (.I 0) (.S p8 nx c8) (.S q8 mx d8)) (λy h1 h2=>iI (by have:=HP7.be.size;have:=HL.1;have:=HZW.1;omega))).mono (B':=w.heap.size) (by have:=HP7.be.size;have:=HW4.2.2.2.2.2.size;omega));clear hs8 hb8 X8;go_wp2;refine dD (v:=.tuple #[ft X.1.e X.1.g X.1.x 0 (.S p8 nx c8) (.S q8 mx d8),.U X.2,.I 0]) (by simp[results,results21,go_sem,r0,r1,r2,r3,r4,r5]) rfl ⟨?_,oz BB⟩;rw[aa HD];refine⟨p8,c8,q8,d8,?_,?_⟩;{simp only[aa enx,aa emx];rfl};{simp only[aa enx,aa emx];exact aa H8}}
abbrev svV(v0:Value)(n0:Int)(v1:Value)(n1:Int)(v2:Value)(n2:Int)(e g x t:Int)(S N:Value)(q:Int):Value:=.agg #[v0,.I n0,v1,.I n1,v2,.I n2,.U e,.U g,.U x,.I t,S,N,.U q]
def Own.cg6{R:Nat}{w:World}(h:Own B w v l)(hn:∀b,v.ownBlock=some b->b≠R)(o:Nat)(x:Value):Own B (w.setCell (Ad R o) x) v l:=by
 refine⟨h.1,?_⟩;rcases h.2 with h0|⟨g,cap,cur,rfl,hb,hg,rest⟩;{exact .inl h0};{exact .inr ⟨g,cap,cur,rfl,hb,(Kd _ _ _ _ (hn g rfl)).trans hg,rest⟩}
def au3(w:World)(V:Value)(B:LI)(L:Nat):Prop:=∀v,Bw w v->Cp 102 #[V] v λr w'=>∃p' c',r=.returned (.S p' L c')/\Own v.heap.size w' (.S p' L c') B/\Bw v w'
abbrev fnV(k:Nat)(cs:Array Value):Value:=.func (.func k) #[] cs
def WL(w:World)(g R:Nat):Prop:=w.cell? (Ad g 0)=some (fnV 103 #[])/\w.cell? (Ad g 1)=some (fnV 105 #[.pointer (some (Ad R 0))])/\w.cell? (Ad g 2)=some (fnV 107 #[])/\w.cell? (Ad g 3)=some (fnV 109 #[])/\w.cell? (Ad g 4)=some (fnV 110 #[])
def cG5(w:World)(q:Int)(B:LI)(L:Nat)(z:Ending)(w':World):Prop:=∃G R pb cb,z=.returned (.T G 5 5)/\(w.heap.size<=G/\w.heap.size<=R)/\WL w' G R/\w'.cell? (Ad R 0)=some (.S pb (L+20) cb)/\Own w.heap.size w' (.S pb (L+20) cb) (dr q B)/\Bw w w'
abbrev SvS(w:World)(b:Nat)(q e g x t:Int)(S N:Value):Prop:=w.cell? (Ad b 12)=some (.U q)/\w.cell? (Ad b 6)=some (.U e)/\w.cell? (Ad b 7)=some (.U g)/\w.cell? (Ad b 8)=some (.U x)/\w.cell? (Ad b 9)=some (.I t)/\w.cell? (Ad b 10)=some S/\w.cell? (Ad b 11)=some N
theorem IU(p0 p1 p2:OA)(k0 c0 k1 c1 k2 c2:Nat)(n0 n1 n2:Int)(e g x t q:Int)(p r:OA)(n c m d:Nat)(w:World)(B:LI)(L:Nat)(eL:Hid (B.length=L))(hL:L<=190000)(hB:Hid (aN B))(hq:0<=q)(hq2:q<=4611686018427387904)(hE:Hid (au3 w (ft e g x t (.S p n c) (.S r m d)) B L)):Calls prog 53 #[svV (.S p0 k0 c0) n0 (.S p1 k1 c1) n1 (.S p2 k2 c2) n2 e g x t (.S p n c) (.S r m d) q] w (cG5 w q B L):=by
 obtain⟨W,hW,b1,z1,C1,-⟩:=ar w #[.S p0 k0 c0,.I n0,.S p1 k1 c1,.I n1,.S p2 k2 c2,.I n2,.U e,.U g,.U x,.I t,.S p n c,.S r m d,.U q] 37
 go_in
 go_wp2_with fail;rw[<-hW];clear hW;have HC:=af (λ(v:World)(hv:Bw W v)=>(λcc=>(⟨cc.1 12 _ rfl,cc.1 6 _ rfl,cc.1 7 _ rfl,cc.1 8 _ rfl,cc.1 9 _ rfl,cc.1 10 _ rfl,cc.1 11 _ rfl⟩:SvS v w.heap.size q e g x t (.S p n c) (.S r m d))) (C1.below ae hv));have BV:=af (cR W.heap.size W).drew;clear C1;refine dC (λv=>SvS v w.heap.size q e g x t (.S p n c) (.S r m d)) (by exact HC _ BV) λhS=>?_;obtain⟨v,mL⟩:=az W.drew;rw[<-mL]at BV hS⊢;clear mL;refine mU 0 1 2 3 hS ?_
 iterate 3 (
  all_goals(first|refine IW 4 (λKK hK=>?_)|refine IW 5 (λKK hK=>?_)|refine IW 6 (λKK hK=>?_)|refine Sl 4 6 (λKK hK=>?_) (λKK hK=>?_)|refine Sl 5 6 (λKK hK=>?_) (λKK hK=>?_))
  all_goals(first
   |(
    refine Tag.go 4 ?_;refine jv (aa hE _ (aj b1 BV)) ?_;rintro z9 v'⟨p3,c3,rfl,o3,hb⟩;refine⟨_,rfl,?_⟩;have RO:=af (ah (Own.mono o3 BV.size) (λb e=>(Own.lt o3 b e).2));clear o3)
   |(
    refine Tag.go 5 ?_;refine yZ (Dn eL (RO.1.rd) hB ae hq ae) ?_;rintro z9 v'⟨p4,c4,rfl,o4,hb⟩;refine⟨_,rfl,?_⟩
    try have RN:=af (λb e=>show b≠R by have:=(Own.lt o4 b e).1;have:=RC.1;omega)
    have RP:=af (ah (Own.mono o4 BV.size) (λb e=>(Own.lt o4 b e).2));clear o4)
   |(
    refine Tag.go 6 ?_;go_simp;obtain⟨v',hv,hb,zv,cv',-⟩:=ar v #[.S none 0 0] 22;rw[<-hv]
    try have RN:=af (λb e=>show b≠v.heap.size by have:=RP.2 b e;omega)
    have RB:=af BV.size;obtain⟨R,hR⟩:=az v.heap.size;rw[<-hR]at cv'⊢
    try rw[<-hR]at RN
    rw[<-hR]at RB;have RC:=af (ah (by omega:R<v'.heap.size) cv');clear hv zv cv' hR))
  all_goals(
   have zb:=hb.size
   try have RO:=af (ah (Own.below RO.1 hb) (λb e=>gQ (RO.2 b e) zb))
   try have RP:=af (ah (Own.below RP.1 hb) (λb e=>gQ (RP.2 b e) zb))
   try have RC:=af (ah (gQ RC.1 zb) (RC.2.below RC.1 hb))
   have BV:=af (aj BV hb);refine gr hK (by exact HC _ BV) λhS=>?_;clear hK KK hb zb
   rename World=>v))
 all_goals(
  refine dM 7 (λKK hK=>?_);have n0:=RC.2.1 0 _ rfl;have nf:=RC.2.2;go_simp;have BX:=af (BV.setCell (p:=(Ad R 0)) (by exact RB) (.S p4 (L+20) c4));have OX:=af (Own.cg6 RP.1 RN 0 (.S p4 (L+20) c4));have nX:(v.setCell (Ad R 0) (.S p4 (L+20) c4)).cell? (Ad R 0)=some (.S p4 (L+20) c4):=PX v _ _ (by rw[n0];rfl);obtain⟨X,hX⟩:=az (v.setCell (Ad R 0) (.S p4 (L+20) c4));rw[<-hX]at BX OX nX⊢;refine gr hK (by exact HC _ BX) λhS=>?_;clear hK KK hS n0 nf hX;refine dw ?_;have bX:=aj b1 BX;go_wp2;go_ret;refine⟨X.heap.size,R,p4,c4,rfl,⟨bX.size,aG (aa RB)⟩,⟨ai,ai,ai,ai,ai⟩,?_,Own.mono (Own.below (aa OX) (au.alloc ao _)) ae,aj bX (au.alloc ao _)⟩;exact ag nX (au.alloc ao _))
structure Dk where
 l0:LI
 n0:Int
 l1:LI
 n1:Int
 l2:LI
 n2:Int
def qU(b:LI)(D:Dk):Nat->Dk
 |0=>D
 |1=>⟨D.l0,D.n0,D.l1,D.n1,[],0⟩
 |2=>⟨D.l0,D.n0,D.l1,D.n1,b,0⟩
 |3=>⟨D.l0,D.n0,D.l1,D.n1,b,b.length⟩
 |4=>⟨D.l0,D.n0,b,b.length,[],0⟩
 |_=>⟨[],0,b,b.length,[],0⟩
def Dk.ok(D:Dk):Prop:=A8 D.l0.length D.n0 D.l1.length D.n1 D.l2.length D.n2=true
theorem Lw{b:LI}{D:Dk}(h:D.ok)(hb:b.length<=200000):∀k,(qU b D k).ok:=by
 have h':=h;unfold Dk.ok A8 at h';simp only[fx]at h';obtain⟨⟨h0,h1⟩,h2⟩:=h';have hz:uq 0 0=true:=Az ae ae ae;have hbz:uq b.length 0=true:=Az ae ae ae;have oq:uq b.length b.length=true:=Az ae ae ae;intro k
 match k with
 |0=>exact h
 |1=>exact vS h0 h1 hz
 |2=>exact vS h0 h1 hbz
 |3=>exact vS h0 h1 oq
 |4=>exact vS h0 oq hz
 |k+5=>exact vS hz oq hz
def Dk.ok.len{D:Dk}(h:D.ok):D.l0.length<=200000/\D.l1.length<=200000/\D.l2.length<=200000:=by
 unfold Dk.ok A8 at h;simp only[fx]at h;exact⟨(Nb h.1.1).1,(Nb h.1.2).1,(Nb h.2).1⟩
def YH(w:World)(b:Nat)(D:Dk):Prop:=∃p0 c0 p1 c1 p2 c2,vE w b (.S p0 D.l0.length c0) (.I D.n0) (.S p1 D.l1.length c1) (.I D.n1) (.S p2 D.l2.length c2) (.I D.n2)/\Rd w (.S p0 D.l0.length c0) D.l0/\Rd w (.S p1 D.l1.length c1) D.l1/\Rd w (.S p2 D.l2.length c2) D.l2
def cG4(w:World)(D:Dk)(e g x t:Int)(S N:Value)(q:Int)(z:Ending)(w':World):Prop:=∃p0 c0 p1 c1 p2 c2,z=.returned (svV (.S p0 D.l0.length c0) D.n0 (.S p1 D.l1.length c1) D.n1 (.S p2 D.l2.length c2) D.n2 e g x t S N q)/\Rd w' (.S p0 D.l0.length c0) D.l0/\Rd w' (.S p1 D.l1.length c1) D.l1/\Rd w' (.S p2 D.l2.length c2) D.l2/\Bw w w'
def yE(b:Nat)(w v:World):Prop:=w.heap.size<=v.heap.size/\∀k,k<w.heap.size->k≠b->v.heap[k]?=w.heap[k]?
def yE.below{w v u:World}(h:yE b w v)(hb:Bw v u):yE b w u:=⟨dQ h.1 hb.size,λk hk hn=>(hb.block k (gQ hk h.1)).trans (h.2 k hk hn)⟩
def yE.set{w v:World}(h:yE b w v)(o:Nat)(x:Value):yE b w (v.setCell (Ad b o) x):=⟨by simpa using h.1,λk hk hn=>(Kd _ _ _ _ hn).trans (h.2 k hk hn)⟩
def yE.cell{w v:World}(h:yE b w v)(hn:k≠b)(hc:w.cell? (Ad k o)=some x):v.cell? (Ad k o)=some x:=by
 have hl:=nY w _ hc;have:=h.2 k hl hn;simp only[World.cell?]at hc⊢;rw[this];exact hc
def yE.own{w v:World}(h:yE b w v){z:Value}(ho:Own B w z l)(hn:b<B):Own B v z l:=by
 refine⟨ho.1,?_⟩;rcases ho.2 with h0|⟨g,cap,cur,rfl,hb,hg,rest⟩;{exact .inl h0};{exact .inr ⟨g,cap,cur,rfl,hb,(h.2 g (ho.lt g rfl).2 ae).trans hg,rest⟩}
def Rd.Ze{w:World}{V:Value}(h:Rd w V l){K:Nat}{cs:Array Value}{ty:TypeId}(hK:w.heap[K]?=some (.cells cs ty))(hn:∀x:Int,Value.int .u8 x∉cs){v:World}(hv:yE K w v):Rd v V l:=by
 obtain⟨p,cap,rfl,hd⟩:=h;rcases hd with h0|⟨b,o,h1,h2⟩;{exact⟨p,cap,rfl,.inl h0⟩};{refine⟨p,cap,rfl,.inr ⟨b,o,h1,λi hi=>hv.cell ?_ (h2 i hi)⟩⟩;rintro rfl;have:=h2 i hi;simp[World.cell?,hK]at this;exact hn _ (ac4 this)}
def sP{w:World}(ho:6<=o)(h:w.cell? (Ad b o)=some x)(v0 v1 v2 v3 v4 v5:Value):(dB w b v0 v1 v2 v3 v4 v5).cell? (Ad b o)=some x:=by
 unfold dB
 iterate 6 rw[CQ _ _ _ _ (by intro e;simp at e;omega)]
 exact h
theorem aW4{w w1 wr w2:World}{q e g x t:Int}{S N o0 o1 o2 o3 o4 o5:Value}(hb:Bw wr w2)(bl:w.heap.size<wr.heap.size)(a:vE wr w.heap.size o0 o1 o2 o3 o4 o5)(v:SvS wr w.heap.size q e g x t S N)(f:∀o,wr.frozen? (Ad w.heap.size o)=false)(X1:yE w.heap.size w1 wr)(B1:Bw w wr){E:Dk}{q0 q1 q2:OA}{d0 d1 d2:Nat}(o:jE wr.heap.size w2 (.S q0 E.l0.length d0) (.S q1 E.l1.length d1) (.S q2 E.l2.length d2) E.l0 E.l1 E.l2):Hid (YH (dB w2 w.heap.size (.S q0 E.l0.length d0) (.I E.n0) (.S q1 E.l1.length d1) (.I E.n1) (.S q2 E.l2.length d2) (.I E.n2)) w.heap.size E)/\Hid (SvS (dB w2 w.heap.size (.S q0 E.l0.length d0) (.I E.n0) (.S q1 E.l1.length d1) (.I E.n1) (.S q2 E.l2.length d2) (.I E.n2)) w.heap.size q e g x t S N)∧
   Hid (∀o,(dB w2 w.heap.size (.S q0 E.l0.length d0) (.I E.n0) (.S q1 E.l1.length d1) (.I E.n1) (.S q2 E.l2.length d2) (.I E.n2)).frozen? (Ad w.heap.size o)=false)/\Hid (yE w.heap.size w1 (dB w2 w.heap.size (.S q0 E.l0.length d0) (.I E.n0) (.S q1 E.l1.length d1) (.I E.n1) (.S q2 E.l2.length d2) (.I E.n2)))∧
   Hid (Bw w (dB w2 w.heap.size (.S q0 E.l0.length d0) (.I E.n0) (.S q1 E.l1.length d1) (.I E.n1) (.S q2 E.l2.length d2) (.I E.n2))):=by
 have a2:=a.below hb;have f2:=cG f hb bl;have c:=Ez (w:=w2) (b:=w.heap.size) (o0:=o0) (o1:=o1) (o2:=o2) (o3:=o3) (o4:=o4) (o5:=o5) ⟨λi u hu=>by
  match i,hu with
  |0,hu=>cases hu;exact a2.1
  |1,hu=>cases hu;exact a2.2.1
  |2,hu=>cases hu;exact a2.2.2.1
  |3,hu=>cases hu;exact a2.2.2.2.1
  |4,hu=>cases hu;exact a2.2.2.2.2.1
  |5,hu=>cases hu;exact a2.2.2.2.2.2
  |i+6,hu=>simp at hu,f2⟩ (v0:=.slice q0 E.l0.length d0) (v1:=.int .i64 E.n0) (v2:=.slice q1 E.l1.length d1) (v3:=.int .i64 E.n1) (v4:=.slice q2 E.l2.length d2) (v5:=.int .i64 E.n2)
 have r:∀{V:Value}{l:LI},Own wr.heap.size w2 V l->Rd (dB w2 w.heap.size (.S q0 E.l0.length d0) (.I E.n0) (.S q1 E.l1.length d1) (.I E.n1) (.S q2 E.l2.length d2) (.I E.n2)) V l:=λh=>((((((h.set bl _).set bl _).set bl _).set bl _).set bl _).set bl _).rd;refine⟨⟨q0,d0,q1,d1,q2,d2,⟨c.1 0 _ rfl,c.1 1 _ rfl,c.1 2 _ rfl,c.1 3 _ rfl,c.1 4 _ rfl,c.1 5 _ rfl⟩,r o.o0,r o.o1,r o.o2⟩,?_,c.2,?_,B1.trans ((hb.mono ae).trans (cT _ _ _ _ _ _ _))⟩;{obtain⟨v0,v1,v2,v3,v4,v5,v6⟩:=v;exact⟨sP ae (ag v0 hb) _ _ _ _ _ _,sP ae (ag v1 hb) _ _ _ _ _ _,sP ae (ag v2 hb) _ _ _ _ _ _,sP ae (ag v3 hb) _ _ _ _ _ _,sP ae (ag v4 hb) _ _ _ _ _ _,sP ae (ag v5 hb) _ _ _ _ _ _,sP ae (ag v6 hb) _ _ _ _ _ _⟩};{exact((((((X1.below hb).set 0 _).set 1 _).set 2 _).set 3 _).set 4 _).set 5 _}
theorem Pb(p0 p1 p2:OA)(c0 c1 c2:Nat)(D:Dk)(e g x t q:Int)(p r:OA)(n c m d:Nat)(steps:Nat)(cX:steps<=5)(w:World)(B:LI)(L:Nat)(eL:Hid (B.length=L))(hL:L<=190000)(hB:Hid (aN B))(hq:0<=q)(hq2:q<=4611686018427387904)(hE:Hid (au3 w (ft e g x t (.S p n c) (.S r m d)) B L))(hD:Hid D.ok)(h0:Rd w (.S p0 D.l0.length c0) D.l0)(h1:Rd w (.S p1 D.l1.length c1) D.l1)(h2:Rd w (.S p2 D.l2.length c2) D.l2):Calls prog 23 #[svV (.S p0 D.l0.length c0) D.n0 (.S p1 D.l1.length c1) D.n1 (.S p2 D.l2.length c2) D.n2 e g x t (.S p n c) (.S r m d) q,.I steps] w (cG4 w (qU (dr q B) D steps) e g x t (.S p n c) (.S r m d) q):=by
 obtain⟨W,hW,b1,z1,C1,-⟩:=ar w #[.S p0 D.l0.length c0,.I D.n0,.S p1 D.l1.length c1,.I D.n1,.S p2 D.l2.length c2,.I D.n2,.U e,.U g,.U x,.I t,.S p n c,.S r m d,.U q] 37;obtain⟨W2,nF,b2,z2,C2,T2⟩:=ar W #[.S none 0 0,.I 0,.S none 0 0,.I 0,.S none 0 0,.I 0,.U 0,.U 0,.U 0,.I 0,.S none 0 0,.S none 0 0,.U 0] 37
 go_in
 have o0:=C1.1 0 _ rfl;have o1:=C1.1 1 _ rfl;have o2:=C1.1 2 _ rfl;have o3:=C1.1 3 _ rfl;have o4:=C1.1 4 _ rfl;have o5:=C1.1 5 _ rfl;have o6:=C1.1 6 _ rfl;have o7:=C1.1 7 _ rfl;have o8:=C1.1 8 _ rfl;have o9:=C1.1 9 _ rfl;have oa:=C1.1 10 _ rfl;have ob:=C1.1 11 _ rfl;have oc:=C1.1 12 _ rfl;go_wp2_with fail;rw[<-hW,<-nF];clear hW nF;refine(IU p0 p1 p2 D.l0.length c0 D.l1.length c1 D.l2.length c2 D.n0 D.n1 D.n2 e g x t q p r n c m d W2 B L eL hL hB hq hq2 (by exactλv hv=>aa hE v (aj (aj b1 b2) hv))).mono ?_;rintro z w1⟨G,R,pb,cb,rfl,hGR,hS,hR,oB,aA⟩;have bw1:=aj (aj b1 b2) aA;have IA:=((C1.below ae b2).below ae aA);have C2':=C2.below ae aA;rw[z1]at C2';have gG:w.heap.size+2<=G/\w.heap.size+2<=R:=ae;clear hGR;have zw1:=af (show w.heap.size+2<=w1.heap.size by have:=aA.size;omega);have HA:=af (λ(v:World)(hv:yE w.heap.size w1 v)=>ah (show WL v G R from⟨hv.cell ae hS.1,hv.cell ae hS.2.1,hv.cell ae hS.2.2.1,hv.cell ae hS.2.2.2.1,hv.cell ae hS.2.2.2.2⟩) (ah (hv.cell ae hR) (ah (hv.own oB ae).rd (λ(o:Nat)(x:Value)(hc:w1.cell? (Ad (w.heap.size+1) o)=some x)=>hv.cell ae hc))));have HD:=af (show YH w1 w.heap.size (qU (dr q B) D 0)from⟨p0,c0,p1,c1,p2,c2,⟨IA.1 0 _ rfl,IA.1 1 _ rfl,IA.1 2 _ rfl,IA.1 3 _ rfl,IA.1 4 _ rfl,IA.1 5 _ rfl⟩,h0.below bw1,h1.below bw1,h2.below bw1⟩);have HV:=af (show SvS w1 w.heap.size q e g x t (.S p n c) (.S r m d)from⟨IA.1 12 _ rfl,IA.1 6 _ rfl,IA.1 7 _ rfl,IA.1 8 _ rfl,IA.1 9 _ rfl,IA.1 10 _ rfl,IA.1 11 _ rfl⟩);have HF:=af IA.2;have HT:=af ((aA.block _ ae).trans T2);rw[z1]at HT;clear T2;clear o0 o1 o2 o3 o4 o5 o6 o7 o8 o9 oa ob oc C1 C2 IA C2' hS hR oB aA h0 h1 h2 b1 b2 z1 z2;go_wp2_with fail;have eLb:(dr q B).length=L+20:=by rw[ju,aa eL]
 have hLb:(dr q B).length<=200000:=ae;rw[<-eLb]at HA;clear eLb
 go_loopw[12](λiv wr=>∃k:Nat,k<=steps/\iv=.I k/\Hid (YH wr w.heap.size (qU (dr q B) D k))/\Hid (SvS wr w.heap.size q e g x t (.S p n c) (.S r m d))/\Hid (∀o,wr.frozen? (Ad w.heap.size o)=false)/\Hid (yE w.heap.size w1 wr)/\Hid (Bw w wr)) (λiv _=>steps-(intOf iv).toNat)
 exact⟨0,fN _,rfl,HD,HV,HF,⟨iP _,λ_ _ _=>rfl⟩,bw1⟩;{
 obtain⟨k,hk,rfl,hDk,hV,hF,hX,ox⟩:=hrel;obtain⟨A1,A2,A3,A4⟩:=aa HA wr hX;by_cases aT:k<steps;{
 have bu:=aS k steps;have zz:=af (show w.heap.size<wr.heap.size by have:=hX.1;have:=aa zw1;omega);have EK:=af (Lw (b:=dr q B) hD hLb k);obtain⟨mm0,mm1,mm2⟩:=EK.len;obtain⟨P0,C0,P1,C1,P2,C2,⟨a0,a1,a2,a3,a4,a5⟩,r0,r1,r2⟩:=aa hDk;obtain⟨s0,s1,s2,s3,s4⟩:=A1;have HS:=af (WZ P0 P1 P2 C0 C1 C2 _ _ _ _ _ _ wr r0 r1 r2 EK mm0 mm1 mm2);obtain⟨k1,ek1⟩:∃k1,Hid (k1=k+1):=⟨_,af rfl⟩;rcases(show k=0\/k=1\/k=2\/k=3\/k=4 by omega)with rfl|rfl|rfl|rfl|rfl
 all_goals(
  go_wp2_with fail
  first
   |(go_at_call 103;refine HS.1.mono ?_)
   |(go_at_call 105;refine(HS.2.2.2 R pb cb (dr q B) (dr q B) (by show _=_;simp[qU]) (by exact A2) (by exact A3) hLb hLb).mono ?_)
   |(go_at_call 107;refine HS.2.1.mono ?_)
   |(go_at_call 110;refine HS.2.2.1.mono ?_)
   |refine(KR P0 P1 P2 C0 C1 C2 _ _ _ _ _ _ wr r0 r1 r2 EK mm0 mm1 mm2).2.2.2.2.mono ?_
  rintro z w2⟨q0,d0,q1,d1,q2,d2,rfl,o,hb⟩;have e1:=aa ek1;simp only[kS,Nat.reduceAdd]at e1;have HP:=aW4 (E:=qU (dr q B) D k1) hb zz ⟨a0,a1,a2,a3,a4,a5⟩ hV hF hX ox (by subst e1;exact o);subst e1;have f2:=cG hF hb zz;have b0:=ag a0 hb;have b1:=ag a1 hb;have b2:=ag a2 hb;have b3:=ag a3 hb;have b4:=ag a4 hb;have b5:=ag a5 hb;clear a0 a1 a2 a3 a4 a5 r0 r1 r2 s0 s1 s2 s3 s4 hb o hV hF hX ox hDk A2 A3 A4 HS;go_wp2;go_roundw;exact⟨_,ae,by go_num,HP.1,HP.2.1,HP.2.2.1,HP.2.2.2.1,HP.2.2.2.2⟩
  case measure=>simp[intOf];omega)}
 {
 have hks:k=steps:=ae;subst hks;have bu:=dm k k;obtain⟨P0,C0,P1,C1,P2,C2,⟨a0,a1,a2,a3,a4,a5⟩,r0,r1,r2⟩:=aa hDk;obtain⟨vc,v6,v7,v8,v9,va,vb⟩:=aa hV;have TT:=(hX.2 _ (aG (aa zw1)) ae).trans HT;have nf:∀o,wr.frozen? (Ad (w.heap.size+1) o)=false:=λo=>by simp[World.frozen?,TT]
 have n0:=aq TT 0;have n1:=aq TT 1;have n2:=aq TT 2;have n3:=aq TT 3;have n4:=aq TT 4;have n5:=aq TT 5;have n6:=aq TT 6;have n7:=aq TT 7;have n8:=aq TT 8;have n9:=aq TT 9;have na:=aq TT 10;have nb:=aq TT 11;have nc:=aq TT 12;have RR:=af (λ(v:World)(hv:yE (w.heap.size+1) wr v)=>ah (r0.Ze TT (by intro y;simp) hv) (ah (r1.Ze TT (by intro y;simp) hv) (r2.Ze TT (by intro y;simp) hv)));have BW:=af ox;clear r0 r1 r2 TT HA hDk hV hF hX ox HT;simp at n0 n1 n2 n3 n4 n5 n6 n7 n8 n9 na nb nc;go_wp2;have EX:=λ(x0 x1 x2 x3 x4 x5 x6 x7 x8 x9 xd xe xf:Value)=>((((((((((((((show yE (w.heap.size+1) wr wr from⟨iP _,λ_ _ _=>rfl⟩).set 0 x0).set 1 x1).set 2 x2).set 3 x3).set 4 x4).set 5 x5).set 6 x6).set 7 x7).set 8 x8).set 9 x9).set 10 xd).set 11 xe).set 12 xf);obtain⟨R0,R1,R2⟩:=aa RR _ (EX _ _ _ _ _ _ _ _ _ _ _ _ _);refine dD (v:=svV (.S P0 _ C0) _ (.S P1 _ C1) _ (.S P2 _ C2) _ e g x t (.S p n c) (.S r m d) q) (by simp[results,results23,go_sem,n0,n1,n2,n3,n4,n5,n6,n7,n8,n9,na,nb,nc]) rfl ⟨P0,C0,P1,C1,P2,C2,rfl,R0,R1,R2,?_⟩
 iterate 13 refine gF ?_ ai _
 exact BW}}
def DO(r:Ending)(w:World)(R:sF×Int×Int):Prop:=∃p c q d,r=.returned (.tuple #[ft R.1.e R.1.g R.1.x R.1.t (.S p R.1.ss.length c) (.S q R.1.ns.length d),.U R.2.1,.I R.2.2])/\yL w (.S p R.1.ss.length c) R.1.ss/\oU w (.S q R.1.ns.length d) R.1.ns
def DO.no{w:World}{R:sF×Int×Int}(h:Hid (R=(im,0,C))):DO (.returned (.tuple #[ft 0 0 0 0 (.S none 0 0) (.S none 0 0),.U 0,.I C])) w R:=by
 rw[aa h];exact⟨none,0,none,0,rfl,(r9).rd,vO⟩
def Va(w:World)(sb:Nat)(D:SD):Prop:=∃p c q d,BX w sb [.U D.e,.U D.g,.U D.x,.I D.t,.S p D.ss.length c,.S q D.ns.length d]/\yL w (.S p D.ss.length c) D.ss/\oU w (.S q D.ns.length d) D.ns
def Va.below{w w':World}{sb:Nat}(h:Va w sb D)(hb:Bw w w'):Va w' sb D:=by
 obtain⟨p,c,q,d,h1,h2,h3⟩:=h;exact⟨p,c,q,d,h1.below hb,h2.below hb,h3.below hb⟩
theorem Zy{q:OA}{d n:Nat}(en:l.length=n)(hb:aN l)(hl:Mg n){w:World}(hr:Rd w (.S q n d) l)(hn:n<=d)(ha:Adr w q d){o:Option Rq}(ho:qQ l o):Cp 36 #[.S q n d] w λr w'=>∃(K S F:Nat)(P V:LI)(p':OA)(c':Nat)(q':OA)(d':Nat)(C:Int),r=.returned (.tuple #[zI K S (.S p' P.length c') F (.S q' V.length d') 0 0,.I C])/\(Rd w' (.S p' P.length c') P/\Rd w' (.S q' V.length d') V/\P.length<=c'/\c'<=maxLen)/\Bw w w'/\((o=none/\C=13)\/(o=some (K,S,F,P,V)/\C=0)):=by
 cases o with
 |none=>
  refine(az7 en hb hl ho q d w au hr hn ha).mono ?_;rintro r w'⟨p',c',q',d',B,rfl,-,oP,-,oV,aA⟩;exact⟨0,0,0,[],[],p',c',q',d',13,rfl,⟨oP.rd,oV.rd,fN _,oP.vt⟩,aA,.inl ⟨rfl,rfl⟩⟩
 |some o=>
  obtain⟨K,S,F,P,V⟩:=o;refine(Zx en hb hl ho q d w au hr hn ha).mono ?_;rintro r w'⟨p',c',q',d',B,rfl,-,oP,-,oV,aA⟩;exact⟨K,S,F,P,V,p',c',q',d',0,rfl,⟨oP.rd,oV.rd,oP.cap,oP.vt⟩,aA,.inr ⟨rfl,rfl⟩⟩
theorem ZB(p0 p1 p2:OA)(n0 c0 n1 c1 n2 c2:Nat)(s0 s1 s2:Int)(l0 l1:LI)(e0:Hid (l0.length=n0))(e1:Hid (l1.length=n1))(w:World)(h0:Rd w (.S p0 n0 c0) l0)(h1:Rd w (.S p1 n1 c1) l1)(m0:Mg n0)(m1:Mg n1)(m2:Mg n2)(k0:n0<=c0)(k1:n1<=c1)(j0:Hid (c0<=maxLen))(j1:Hid (c1<=maxLen))(a1:Hid ((p1=none/\c1=0)\/∃b o,p1=some (Ad b o)))(b0:Hid (aN l0))(b1:Hid (aN l1))(dop:LI->Option Rq)(hd:Hid (∀l,qQ l (dop l)))(ok:Bool)(Ic:Hid (A8 n0 s0 n1 s1 n2 s2=ok))(R:sF×Int×Int)(eR:Hid (Oc dop l0 l1 ok=R)):Calls prog 15 #[dt (.S p0 n0 c0) s0 (.S p1 n1 c1) s1 (.S p2 n2 c2) s2] w λr w'=>DO r w' R/\Bw w w':=by
 obtain⟨W0,dP,q0,z0,C0,-⟩:=ar w #[.S p0 n0 c0,.I s0,.S p1 n1 c1,.I s1,.S p2 n2 c2,.I s2] 30;obtain⟨W1,lG,q1,z1,C1⟩:=qO W0;rw[z0]at C1 z1;have bW:=aj q0 q1;have HA:=af (λ(v:World)(hv:Bw W1 v)=>ah ((C0.below ae q1).below ae hv).c6 (ah (h0.below (aj bW hv)) (ah (h1.below (aj bW hv)) (ah (C1.below hv) (aj bW hv)))));have HZ:=af (ah z0 z1);clear q0 q1 C0 C1 bW h0 h1 z0 z1
 go_in
 go_wp2_with fail;rw[<-dP,<-lG];clear dP lG;refine(wW ae ae ae).mono ?_;rintro r w1⟨rfl,aA⟩;rw[aa Ic];have B1:=af aA;have iU:=aA.size;clear aA Ic;cases ok with
 |false=>
  have HD:Hid (R=(im,0,1)):=by show _=_;rw[<-aa eR];rfl
  obtain⟨r0,r1,r2,r3,r4,r5,rf⟩:=(aa HA w1 B1).2.2.2.1.cells;have BB:=(aa HA w1 B1).2.2.2.2;clear iU;go_wp2;exact dD (by simp[results,results15,go_sem,r0,r1,r2,r3,r4,r5]) rfl ⟨DO.no HD,oz BB⟩
 |true=>
  obtain⟨W2,nF,b2,z2,C2⟩:=qO w1;have B2:=af (aj B1 b2);obtain⟨sb,Ui⟩:=az w1.heap.size;rw[<-Ui]at C2;have SQ:=af C2;have aj4:Hid (w.heap.size+2<=sb/\sb<W2.heap.size):=⟨aG HZ.2,ae⟩;obtain⟨⟨i0,i1,i2,i3,i4,i5,-⟩,-⟩:=aa HA W2 B2;clear iU b2 z2 C2 B1;subst nF
  go_upto_if 28 with fail
  clear i0 i1 i2 i3 i4 i5;rw[<-Ui];obtain⟨W2,nF⟩:=az (w1.alloc (.cells #[.U 0,.U 0,.U 0,.I 0,.S none 0 0,.S none 0 0] 35));rw[<-nF]at B2 SQ aj4⊢;clear nF Ui
  go_cut[6](λsv wc=>∃(D:SD)(q:Int),sv=.U q/\Hid (xE l1=some (D,q))/\Hid (Va wc sb D)/\Hid (Bw W1 wc/\sb<wc.heap.size))
  case first=>(
 by_cases KH:n1=0;{
 have um:¬(0:Int)<(n1:Int):=ae;have HD:Hid (xE l1=some (⟨0,0,0,0,[],[]⟩,0)):=by show _=_;rw[xE,bN (aa e1▸KH)]
 clear KH;go_wp2_with fail;go_meet;exact⟨⟨0,0,0,0,[],[]⟩,0,rfl,HD,af ⟨none,0,none,0,SQ,(r9).rd,vO⟩,af ⟨B2,aj4.2⟩⟩};{
 have um:=qi 0 n1;obtain⟨⟨i0,i1,i2,i3,i4,i5,-⟩,-⟩:=aa HA W2 B2;go_wp2_with fail;clear i0 i1 i2 i3 i4 i5;by_cases h20:n1<20;{
 refine(IT h20).mono ?_;rintro r w3⟨p3,c3,rfl,-,aL⟩;have HD:Hid (R=(im,0,13)):=by show _=_;rw[<-aa eR];exact pT (JR (aa e1▸KH) (aa e1▸h20))
 obtain⟨r0,r1,r2,r3,r4,r5,rf⟩:=(aa HA w3 (aj B2 aL)).2.2.2.1.cells;have BB:=(aa HA w3 (aj B2 aL)).2.2.2.2;clear aL;go_wp2;exact dD (by simp[results,results15,go_sem,r0,r1,r2,r3,r4,r5]) rfl ⟨DO.no HD,oz BB⟩};{
 obtain⟨pb,po,rfl⟩:∃b o,p1=some (Ad b o):=by rcases aa a1 with⟨-,h⟩|h;{omega};{exact h}
 have Ul:¬l1.length<20:=aa e1▸h20;refine(Xc e1 (aa HA W2 B2).2.2.1 b1 ae m1 k1 j1).mono ?_;intro r w3 hdp;unfold qR at hdp;by_cases hs:dr (num (sub l1 4 12)) (sub l1 16 (n1-4))=l1;{
 rw[bN hs]at hdp;obtain⟨p3,c3,rfl,o3,aL⟩:=hdp;obtain⟨q,eq⟩:=aI (num (sub l1 4 12));have hq:=kM (b1.sub 4 12) (by simp[sub];omega);obtain⟨B,eB⟩:=aI (sub l1 16 (n1-4));have Ej:Hid (B.length=n1-20):=by show _=_;rw[<-eB,dI (by rw[aa e1];omega)];omega
 have Sx:Hid (aN B):=by show aN B;rw[<-eB];exact b1.sub _ _
 rw[eq]at hq;rw[eB]at o3;rw[eq];have HS:Hid (xE l1=if 4611686018427387904<q then none else(dK B).map λr=>(⟨r.1.1,r.1.2.1,r.1.2.2,0,r.2.1,r.2.2⟩,q)):=by show _=_;by_cases hb:4611686018427387904<q;{rw[bN hb,Vu Ul (eq▸hb)]};{rw[bG hb,Vt Ul (aa e1▸hs) (eq▸hb),aa e1,eq,eB]}
 have B3:=af (aj B2 aL);have X3:=af (SQ.below aL);have YO:=aL.size;clear hs eq eB aL;by_cases Us:4611686018427387904<q;{
 have HD:Hid (R=(im,0,13)):=by show _=_;rw[<-aa eR];exact pT (by rw[aa HS,bN Us])
 obtain⟨r0,r1,r2,r3,r4,r5,rf⟩:=(aa HA w3 B3).2.2.2.1.cells;have BB:=(aa HA w3 B3).2.2.2.2;clear o3 YO;go_wp2;exact dD (by simp[results,results15,go_sem,r0,r1,r2,r3,r4,r5]) rfl ⟨DO.no HD,oz BB⟩};{
 have Hf:=aa HS;rw[bG Us]at Hf;have tF:=af Hf;have HO:=af (ah o3.rd o3.cap);have HZ3:=af YO;clear Hf HS o3 YO;go_wp2_with fail;refine(az8 Ej HO.1 Sx ae HO.2).mono ?_;rintro r w4⟨⟨ps,cs,pn,cn,rfl,St⟩,dS⟩;have B4:=af (aj B3 dS);have X4:=af (X3.below dS);have QN:=dS.size;clear dS;cases hP:dK B with
 |none=>
  have HD:Hid (R=(im,0,13)):=by show _=_;rw[<-aa eR];exact pT (by rw[aa tF,hP];rfl)
  simp only[Il,Im,im,Af];obtain⟨W5,hW5,b5,z5,C5,-⟩:=ar w4 #[.U 0,.U 0,.U 0,.I 0,.S ps 0 cs,.S pn 0 cn] 35;obtain⟨r0,r1,r2,r3,r4,r5,rf⟩:=(aa HA W5 (aj B4 b5)).2.2.2.1.cells;have BB:=(aa HA W5 (aj B4 b5)).2.2.2.2;clear hP St C5 b5 z5 QN;subst hW5;go_wp2;exact dD (by simp[results,results15,go_sem,r0,r1,r2,r3,r4,r5]) rfl ⟨DO.no HD,oz BB⟩
 |some s=>
  have HD:Hid (xE l1=some (⟨s.1.1,s.1.2.1,s.1.2.2,0,s.2.1,s.2.2⟩,q)):=by show _=_;rw[aa tF,hP];rfl
  rw[hP]at St;simp only[Il,Im]at St⊢;obtain⟨⟨e,g,x⟩,ss,ns⟩:=s;simp only at St HD⊢;obtain⟨n,en⟩:=bH ss.length;obtain⟨m,em⟩:=bH ns.length;rw[aa en,aa em]at St⊢;obtain⟨W5,hW5,b5,z5,C5,-⟩:=ar w4 #[.U e,.U g,.U x,.I 0,.S ps n cs,.S pn m cn] 35;have X5:=X4.below b5;obtain⟨r0,r1,r2,r3,r4,r5,rf⟩:=X5.cells;obtain⟨t0,t1,t2,t3,t4,t5,-⟩:=C5.c6;obtain⟨Z,hZ⟩:=az (dB W5 sb (.U e) (.U g) (.U x) (.I 0) (.S ps n cs) (.S pn m cn));have XZ:=X5.put (.U e) (.U g) (.U x) (.I 0) (.S ps n cs) (.S pn m cn);have jI:sb<w3.heap.size:=gQ aj4.2 HZ3;have RZ:=(St.keep (w':=Z) (λy h1 h2=>by rw[hZ];exact(iI ae).trans (b5.block y h2))).rdc;have BZ:Bw W1 Z:=by rw[hZ];exact(aj (aa B4) b5).trans ((cT _ _ _ _ _ _ _).mono (by have:=aj4.1;have:=HZ.2;omega))
  have zZ:sb<Z.heap.size:=by rw[hZ,oL];omega
  rw[<-hZ]at XZ;have HN:=af (ah XZ (ah RZ (ah BZ zZ)));clear hP St C5 b5 z5 QN X5 XZ RZ BZ zZ jI;subst hW5;unfold dB at hZ;go_wp2_with fail;rw[<-hZ];go_meet;refine⟨⟨e,g,x,0,ss,ns⟩,q,rfl,HD,af ⟨ps,cs,pn,cn,?_,?_,?_⟩,af HN.2.2⟩;{simp only[aa en,aa em];exact HN.1};{simp only[aa en];exact HN.2.1.1.rd};{simp only[aa em];exact HN.2.1.2}}};{
 rw[bG hs]at hdp;obtain⟨p3,c3,rfl,-,aL⟩:=hdp;have HD:Hid (R=(im,0,13)):=by show _=_;rw[<-aa eR];exact pT (ZF Ul (aa e1▸hs))
 obtain⟨r0,r1,r2,r3,r4,r5,rf⟩:=(aa HA w3 (aj B2 aL)).2.2.2.1.cells;have BB:=(aa HA w3 (aj B2 aL)).2.2.2.2;clear aL hs;go_wp2;exact dD (by simp[results,results15,go_sem,r0,r1,r2,r3,r4,r5]) rfl ⟨DO.no HD,oz BB⟩}}})
  case rest=>(
 clear B2 SQ;obtain⟨D,q,rfl,HS,HV,HW⟩:=hcut;have HG:=af (To (aa b1) (aa e1▸m1) (aa HS));have HD:Hid (∀X:SD×Int,py dop D q (rl l0)=X->R=(Nl X.1,X.2,0)):=λX e=>by rw[<-aa eR];exact An (aa HS) e
 obtain⟨⟨i0,i1,i2,i3,i4,i5,-⟩,-⟩:=aa HA wc HW.1;clear HS eR;go_wp2_with fail;clear i0 i1 i2 i3 i4 i5;refine(OV (aa HA wc HW.1).2.1 b0 e0 m0 k0 j0).mono ?_;rintro r w4⟨pr,cr,vs,rfl,XG,dS⟩;obtain⟨nr,enr⟩:=bH (rl l0).length;obtain⟨tk,etk⟩:∃k,(yT (rl l0):Int)=k:=⟨_,rfl⟩;have RC:=af XG.rct;have hnr:nr<=2097152:=by rw[<-aa enr];exact dQ (ZS) (by rw[aa e0];omega)
 rw[aa enr,etk];have HI:=af (ah (HV.below dS) (aj HW.1 dS));have HL:=af (ah dS.size HW.2);have HRG:=af (Ey b0);obtain⟨rs,ers⟩:=aI (rl l0);rw[ers]at HD RC HRG enr;clear XG dS etk ers HV HW
 go_upto_block 0 with fail
 obtain⟨X,eX⟩:=bH (py dop D q rs);have HDX:=af (aa HD X eX);have HGX:Hid (GQ X.1 X.2):=by show GQ X.1 X.2;rw[<-aa eX];exact Ex (aa hd) _ (aa HG) (aa HRG)
 clear HD
 go_cut[6]from 61 to 106 (λqv wc=>qv=.U X.2/\Hid (Va wc sb X.1)/\Hid (Bw W1 wc/\sb<wc.heap.size))
 case first=>(
 go_wp2_with fail
 go_loopw[6,14](λqv iv wr=>∃(j:Nat)(q1:Int)(D1:SD),j<=nr/\qv=.U q1/\iv=.I j/\Hid (py dop D1 q1 (rs.drop j)=X/\GQ D1 q1)/\Hid (Va wr sb D1)/\Hid (Bw W1 wr/\Fr [35] w4 wr/\sb<wr.heap.size)) (λ_ iv _=>nr-(intOf iv).toNat)
 exact⟨0,q,D,fN _,rfl,rfl,af ⟨by rw[tW];exact aa eX,aa HG⟩,af HI.1,af ⟨HI.2,Fr.refl _ _,gQ HL.2 HL.1⟩⟩;{
 clear HI;obtain⟨j,q1,D1,hj,rfl,rfl,HE,HV,HW⟩:=hrel;by_cases aT:j<nr;{
 have bu:=aS j nr;obtain⟨⟨s,body⟩,hr⟩:∃r,rs[j]?=some r:=⟨_,bD (aa enr▸aT)⟩;have jN:=aa HRG _ (aY hr);obtain⟨rb,ro,rq,rd,rfl,f0,f1,tb,ad,cp⟩:=(RC.fr HW.2.1).at hr;simp only at f0 f1 tb cp;have s0':0<=s:=jN.2.2.1;have s1':s<18446744073709551616:=jN.2.2.2;obtain⟨m,em⟩:=bH body.length;rw[aa em]at f1 tb cp;have hm:m<=1000:=aa em▸jN.2.1;have q0:=HE.2.2.1;have q9:=HE.2.2.2;have wj:IntKind.i64.wrap ((j:Int)+1)=((j+1:Nat):Int):=by rw[jL _ ae];omega
 have wq:IntKind.u64.wrap (q1+1)=q1+1:=by rw[jj];omega
 obtain⟨W5,hW5,b5,z5,C5,-⟩:=ar wr #[.U s,.S rq m rd] 71;have g0:=C5.1 0 _ rfl;have g1:=C5.1 1 _ rfl;have HW5:=af (ah (HV.below b5) (ah (aj HW.1 b5) (ah (HW.2.1.trans (Fr.below (T:=[35]) b5)) (ah (tb.1.below b5) (ah (ad.size b5.size) (ah (C5.below ae au) (gQ HW.2.2 b5.size)))))));have HS:=af (ah hr jN);have HZ5:=af z5;clear hr jN tb ad b5 z5 C5;subst hW5;by_cases h1:s<=q1;{have E2:Hid (py dop D1 q1 (rs.drop (j+1))=X/\GQ D1 q1):=⟨by rw[<-HE.1,vM HS.1 (OP h1)],HE.2⟩;go_wp2;go_roundw;exact⟨j+1,q1,D1,ae,rfl,by go_num,E2,af HW5.1,af ⟨HW5.2.1,HW5.2.2.1,HW5.2.2.2.2.2.2⟩⟩;exact bM};{
 have H1:Hid (q1<s):=by show _<_;omega
 clear h1;have h1:¬s<=q1:=aG (aa H1);go_wp2_with fail;refine(Zy em HS.2.1 ae HW5.2.2.2.1 cp HW5.2.2.2.2.1 (aa hd body)).mono ?_;rintro r w6⟨K,S,F,P,V,p',c',q',d',C,rfl,Jn,ky,XG⟩;obtain⟨np,Za⟩:=bH P.length;obtain⟨nv,env⟩:=bH V.length;rw[aa Za,aa env]at Jn⊢;obtain⟨W7,hW7,b7,z7,C7,-⟩:=ar w6 #[.I K,.U S,.S p' np c',.I F,.S q' nv d',.U 0,.U 0] 73;have Zd:=aj ky b7;have SL:=af (ah (HW5.1.below Zd) (ah (aj HW5.2.1 Zd) (ah (HW5.2.2.1.trans (Fr.below (T:=[35]) Zd)) (ah (gQ HW5.2.2.2.2.2.2 Zd.size) (ah (Jn.1.below b7) (Jn.2.1.below b7))))));have HOP:=af Jn.2.2;have HC7:=af C7;have HOR:=af XG;have g7:=(HW5.2.2.2.2.2.1.below (by rw[aa HZ5];omega) Zd).1 0 _ rfl;clear Jn ky XG b7 z7 C7 Zd g0 g1 f0 f1;subst hW7;by_cases MR:s≠q1+1\/4611686018427387904<s;{
 have E2:Hid (X=(D1,q1)):=by show _=_;rw[<-HE.1,oK HS.1 (Bu (by have:=aa H1;simp only;omega) MR)]
 have e:=aa E2;clear HE E2;subst e;by_cases h2:s=q1+1;{
 have h3:4611686018427387904<s:=ae;have e2:(s != q1+1)=false:=by simp[h2]
 clear h2 MR;go_wp2_with fail;go_meet;exact⟨rfl,af SL.1,af ⟨SL.2.1,SL.2.2.2.1⟩⟩};{
 have e2:(s != q1+1)=true:=by simp[h2]
 clear h2 MR;go_wp2_with fail;go_meet;exact⟨rfl,af SL.1,af ⟨SL.2.1,SL.2.2.2.1⟩⟩}};{
 have cX:=OQ (dop:=dop) (D:=D1) (q:=q1) (r:=(s,body)) (by have:=aa H1;simp only;omega) MR;simp only at cX;have qz:=af cX;have h3:¬4611686018427387904<s:=λh=>MR (.inr h);have e2:(s != q1+1)=false:=by have h2:s=q1+1:=aO8 λh=>MR (.inl h);simp[h2]
 clear MR cX;rcases aa HOR with⟨hN,rfl⟩|⟨hN,rfl⟩;{
 have E2:Hid (X=(D1,q1)):=by show _=_;rw[<-HE.1,oK HS.1 (by rw[aa qz,hN];rfl)]
 have e:=aa E2;clear HE E2 hN;subst e;go_wp2_with fail;go_meet;exact⟨rfl,af SL.1,af ⟨SL.2.1,SL.2.2.2.1⟩⟩};{
 have hdk:qQ body (some (K,S,F,P,V)):=hN▸aa hd body;obtain⟨bP,-⟩:=JG.byt hdk HS.2.1;have KE:=JG.parts hdk;simp only at KE;have XF:np<=1000:=by have:=aa Za;have:=aa em;omega
 have hvn:nv<=1000:=by have:=aa env;have:=aa em;omega
 rw[hN]at qz;obtain⟨A,eA⟩:=bH (fE D1 K S F 0 0 P V);have cX:=aa qz;simp only[Z8,apL]at cX;rw[aa eA]at cX;have aL6:=af cX;obtain⟨ps,cs,pn,cn,XB,rS,rN⟩:=SL.1;obtain⟨n,en⟩:=bH D1.ss.length;obtain⟨mm,emm⟩:=bH D1.ns.length;rw[aa en]at XB rS;rw[aa emm]at XB rN;have HAP:=af (aW3 HE.2.1 en emm Za env rS rN SL.2.2.2.2.1 SL.2.2.2.2.2 ae ae HOP.1 HOP.2 bP (JG.jo hdk) eA);obtain⟨r0,r1,r2,r3,r4,r5,-⟩:=XB.cells;obtain⟨o0,o1,o2,o3,o4,o5,o6⟩:_/\_/\_/\_/\_/\_/\_:=⟨HC7.1 0 _ rfl,HC7.1 1 _ rfl,HC7.1 2 _ rfl,HC7.1 3 _ rfl,HC7.1 4 _ rfl,HC7.1 5 _ rfl,HC7.1 6 _ rfl⟩;have HXB:=af XB;clear hN hdk bP KE qz cX XB rS rN;go_wp2_with fail;clear r0 r1 r2 r3 r4 r5 o0 o1 o2 o3 o4 o5 o6;refine HAP.mono ?_;rintro r w8⟨p8,c8,q8,d8,Dv,Nv,Ev,Qs,rfl,hS8,hN8,tD,tN,tE,F8,b8⟩;obtain⟨y1,x1,rfl⟩:=tD.cg3;obtain⟨y2,x2,rfl,-⟩:=tN.form;obtain⟨y3,x3,rfl,-⟩:=RT.form tE;obtain⟨v1,ev1⟩:=bH A.2.Ol.length;obtain⟨v2,ev2⟩:=bH A.2.nms.length;obtain⟨v3,ev3⟩:=bH A.2.Ng.length;obtain⟨n8,en8⟩:=bH A.1.ss.length;obtain⟨m8,em8⟩:=bH A.1.ns.length;rw[aa en8]at hS8;rw[aa em8]at hN8;rw[aa ev1,aa ev2,aa ev3,aa en8,aa em8];clear tD tN tE;obtain⟨W9,hW9,b9,z9,C9,-⟩:=ar w8 #[.U A.1.e,.U A.1.g,.U A.1.x,.I A.1.t,.S p8 n8 c8,.S q8 m8 d8] 35;obtain⟨Wa,hWa,ba,za,Ca,-⟩:=ar W9 #[.I A.2.k,.U A.2.i,.U A.2.e,.U A.2.g,.I A.2.n,.S y1 v1 x1,.S y2 v2 x2,.S y3 v3 x3] 79;have b9a:=aj b9 ba;have b8a:=aj b8 b9a;have F9a:=Fr.below (T:=[35]) b9a;have HWa:=af (ah (SL.1.below b8a) (ah (aj SL.2.1 b8a) (ah (SL.2.2.1.trans (Fr.below (T:=[35]) b8a)) (gQ SL.2.2.2.1 b8a.size))));have HXa:=af (HXB.below b8a);have H9:=af (ah (hS8.fr F9a) (gy.fr hN8 F9a));have u0:=Ca.1 0 _ rfl;obtain⟨t0,t1,t2,t3,t4,t5,-⟩:=(C9.below ae ba).c6;have gA:Wa.cell? (Ad wr.heap.size 0)=some (.U s):=by have:=ag g7 b8a;exact this
 rw[z9]at u0;clear hS8 hN8 F8 b8 b9 z9 C9 ba za Ca b9a b8a F9a HXB g7;subst hWa hW9;by_cases hk:A.2.k=0;{
 have cX:qE dop D1 q1 (s,body)=some (A.1,s):=by rw[aa aL6,bN hk];rfl
 have E2:Hid (py dop A.1 s (rs.drop (j+1))=X/\GQ A.1 s):=⟨by rw[<-HE.1,vM HS.1 cX],Fz (aa hd) HE.2 HS.2 cX⟩;obtain⟨r0,r1,r2,r3,r4,r5,rf⟩:=HXa.cells;obtain⟨Wb,hWb⟩:=az ((w8.alloc (.cells #[.U A.1.e,.U A.1.g,.U A.1.x,.I A.1.t,.S p8 n8 c8,.S q8 m8 d8] 35)).alloc (.cells #[.I A.2.k,.U A.2.i,.U A.2.e,.U A.2.g,.I A.2.n,.S y1 v1 x1,.S y2 v2 x2,.S y3 v3 x3] 79));obtain⟨Z,hZ⟩:=az (dB Wb sb (.U A.1.e) (.U A.1.g) (.U A.1.x) (.I A.1.t) (.S p8 n8 c8) (.S q8 m8 d8));rw[<-hWb]at HXa HWa H9 gA;have XZ:=HXa.put (.U A.1.e) (.U A.1.g) (.U A.1.x) (.I A.1.t) (.S p8 n8 c8) (.S q8 m8 d8);obtain⟨cur,Av⟩:=HXa.2;have FZ:Fr [35] Wb Z:=hZ▸je Av;have gZ:Z.cell? (Ad wr.heap.size 0)=some (.U s):=by rw[hZ];exact(aF (iI (aG HW.2.2)) _).trans gA
 have BZ:Bw W1 Z:=by rw[hZ];exact HWa.2.1.trans ((cT _ _ _ _ _ _ _).mono (by have:=aj4.1;have:=HZ.2;omega))
 have zZ:sb<Z.heap.size:=by rw[hZ,oL];exact HWa.2.2.2
 rw[<-hZ]at XZ;have VZ:Hid (Va Z sb A.1):=⟨p8,c8,q8,d8,by simp only[aa en8,aa em8];exact XZ,by simp only[aa en8];exact(H9.1.fr FZ).rds,by simp only[aa em8];exact gy.rdn (gy.fr H9.2 FZ)⟩;have HN:=af (ah BZ (ah (HWa.2.2.1.trans FZ) zZ));have ek:(A.2.k != 0)=false:=by simp[hk]
 unfold dB at hZ;rw[hWb]at hZ;rw[hZ]at gZ;clear cX XZ Av FZ BZ zZ hk HE HXa HWa H9 gA hWb;go_wp2;rw[<-hZ];go_roundw;exact⟨j+1,s,A.1,ae,rfl,by go_num,E2,VZ,HN⟩;exact bM};{
 have E2:Hid (X=(D1,q1)):=by show _=_;rw[<-HE.1,oK HS.1 (by rw[aa aL6,bG hk];rfl)]
 have e:=aa E2;clear HE E2;subst e;have ek:(A.2.k != 0)=true:=by simp[hk]
 clear hk;go_wp2_with fail;go_meet;exact⟨rfl,af HWa.1,af ⟨HWa.2.1,HWa.2.2.2⟩⟩}}}}};{
 have bu:=dm j nr;have ejn:j=nr:=ae;have E2:Hid (X=(D1,q1)):=by show _=_;rw[<-HE.1,ejn,<-aa enr,Ph]
 have e:=aa E2;clear HE E2;subst e;go_wp2_with fail;go_meet;exact⟨rfl,HV,af ⟨HW.1,HW.2.2⟩⟩}})
 case rest=>(
 obtain⟨rfl,HV,HW⟩:=hcut;obtain⟨p9,c9,q9,d9,X9,rS,rN⟩:=aa HV;obtain⟨n,en⟩:=bH X.1.ss.length;obtain⟨m,em⟩:=bH X.1.ns.length;rw[aa en]at X9 rS;rw[aa em]at X9 rN;obtain⟨r0,r1,r2,r3,r4,r5,-⟩:=X9.cells;have hV:=HGX.1;have HDU:=af (aT4 (e:=X.1.e) (g:=X.1.g) (x:=X.1.x) (t:=X.1.t) en em rS rN (by rw[<-aa en];have:=hV.sl;omega) (by rw[<-aa em];have:=hV.nl;omega) (af λs hs=>⟨(hV.mj s hs).1,λev he=>((hV.mj s hs).2 ev he).2⟩) (af λnd bj=>(hV.gq nd bj).2));clear X9 rS rN hV;go_wp2_with fail;clear r0 r1 r2 r3 r4 r5;refine HDU.mono ?_;rintro r w9⟨pa,ca,qa,da,B9,Q9,rfl,-,hS9,hN9,AY⟩;obtain⟨-,-,-,XR,BB⟩:=aa HA w9 (aj HW.1 AY);obtain⟨r0,r1,r2,r3,r4,r5,rf⟩:=XR.cells;obtain⟨cur,Av⟩:=XR.2;have F9:=je (v0:=.U X.1.e) (v1:=.U X.1.g) (v2:=.U X.1.x) (v3:=.I 0) (v4:=.S pa n ca) (v5:=.S qa m da) Av;have HF:=af (ah (hS9.fr F9).rds (gy.rdn (gy.fr hN9 F9)));clear hS9 hN9 F9 AY XR Av;go_wp2;refine dD (v:=.tuple #[ft X.1.e X.1.g X.1.x 0 (.S pa n ca) (.S qa m da),.U X.2,.I 0]) (by simp[results,results15,go_sem,r0,r1,r2,r3,r4,r5]) rfl ⟨?_,oz BB⟩;rw[aa HDX];refine⟨pa,ca,qa,da,?_,?_,?_⟩;{simp only[Nl,dZ,aa en,aa em]};{simp only[Nl,dZ,aa en];exact HF.1};{simp only[Nl,dZ,aa em];exact HF.2}))
open Go.Maps
def Pe(d:Int)(s:aP):aP:=(s.1,max s.2.1 d,s.2.2)
def IV(k:Int)(s:aP):aP:=(s.1,k+15,[])
def aA2{k:Int}(hk:0<=k)(ss:List aP):(ss.map jh).map (Pe (k+15))=ss.map (IV k):=by
 rw[qX];refine Di λs _=>?_;simp only[Function.comp,jh,Pe,IV];rw[show max 0 (k+15)=k+15 by omega]
def UF{w:World}{g1:Nat}{d:Int}(h1:w.cell? (Ad g1 1)=some (.I t))(hf:∀o,w.frozen? (Ad g1 o)=false):Calls prog 100 #[.pointer (some (Ad g1 0)),.I d] w λr w'=>w'=w.setCell (Ad g1 1) (.I (max t d))/\∃v,r=.returned v:=by
 go_in
 go_wp2
 go_end0
 exact⟨rfl,_,rfl⟩
theorem Z6(w:World)(b bs bn:Nat)(D:SD)(SB NB HB UB:List Nat)(k:Int)(hk:0<=k/\k<=1000000)(h:Hid (PS w0 w b bs bn D SB NB HB UB))(hK:Hid (KD D.ns))(wD:Hid (∀(i j:Nat)(s s':aP),D.ss[i]?=some s->D.ss[j]?=some s'->i<j->s.1≠s'.1)):Calls prog 52 #[.pointer (some (Ad b 0)),.I k] w λr w'=>PS w0 w' b bs bn ⟨D.e,D.g,D.x,k,D.ss.map (IV k),D.ns.map iG⟩ SB NB HB UB/\Fr T3 w w'/\∃v,r=.returned v:=by
 go_in
 go_wp2_with fail;refine(Na h hK wD).mono ?_;rintro r w2⟨P2,F2,v,rfl⟩;obtain⟨sl,El⟩:=bH (D.ss.map jh);have bc6:Hid (∀(i j:Nat)(s s':aP),sl[i]?=some s->sl[j]?=some s'->i<j->s.1≠s'.1):=λi j s s' hi hj kr=>by rw[<-aa El,nj]at hi hj;obtain⟨a,ha,rfl⟩:=xi.1 hi;obtain⟨a',Oh,rfl⟩:=xi.1 hj;exact wD i j a a' ha Oh kr
 rw[aa El]at P2;obtain⟨h0,h1,h2,h3,h4,h5,hf⟩:=P2.eh;have Sh:=P2.be.size;obtain⟨Z,hZ⟩:=az (w2.setCell (Ad b 3) (.I k));have kZ:∀y,y≠b->Z.heap[y]?=w2.heap[y]?:=λy hy=>by rw[hZ];exact fW _ _ _ _ hy
 have IF:Z.heap[b]?=some (.cells #[.U D.e,.U D.g,.U D.x,.I k,.map (some bs),.map (some bn)] 135):=by rw[hZ];simp[World.setCell,xM,P2.hd]
 have OZ:One w0 w2 Z b:=One.ofC P2.be (by rw[hZ];exact au.setCell (p:=(Ad b 3)) ao _) P2.hd P2.lo.1 ai (λy _ hy=>kZ y hy);have PZ:=P2.Vp OZ D.e D.g D.x k IF;obtain⟨M,n,oS,hn,mS,zS⟩:=PZ.rT;obtain⟨-,-,-,-,i4,-,-⟩:=PZ.eh;have MU:Hid (∀s∈sl,Maps.has M (.U s.1)=true):=λs hs=>by obtain⟨i,hi⟩:=gH.1 hs;obtain⟨gz,hgz,-⟩:=PZ.sat (i:=i) (s:=s) hi;exact(mS.hs _).2 ⟨(.U s.1,gz),by rw[gH];exact⟨i,by rw[nw,hi,hgz]⟩,rfl⟩
 have HP:=af PZ;have HF:=af (F2.trans OZ.fr);have HZs:=af OZ.b.size;have MS:=af mS;have wa:IntKind.i64.wrap (k+10)=k+10:=jL _ ae;have wb:IntKind.i64.wrap (k+10+5)=k+15:=(jL _ ae).trans ae;clear PZ OZ mS zS kZ IF h0 h1 h2 h5 P2 F2 h hK wD;subst hZ;go_wp2_with(first
  |(at_range;refine wpList_range_own _ rfl _ 132 rfl 31 _ iO underlying132 _ bs n _ rfl oS ?_;intro w1 mP Ed Kz)
  |go_in)
 go_frame
 obtain⟨Z,hZ⟩:=az (w2.setCell (Ad b 3) (.I k));have eZ:Z.heap.size=w2.heap.size:=by rw[hZ];simp
 rw[<-hZ]at HP HF Ed mP HZs⊢;have b1:Bw Z w1:=(cR _ Z).grown Ed ao (λj hj=>by cases hj);have P1:=af (HP.below b1);have F1:=af (HF.trans (Fr.below (T:=T3) b1));obtain⟨r1,Rf⟩:=az Z.heap.size;rw[<-Rf]at mP⊢;have Hi:w0.heap.size<=r1:=ae;clear Rf hZ eZ b1 Ed Kz oS i4 h3 h4 hf HP HF HZs
 go_loopw[5](λ_ wr=>∃(left:Lit->Bool)(jD:Nat),wr.ranges prog 31 aV bs r1 n M left jD/\Hid (PS w0 wr b bs bn ⟨D.e,D.g,D.x,k,nJ (Pe (k+15)) left sl,D.ns.map iG⟩ SB NB HB UB)/\Hid (Fr T3 w wr)) (λ_ wr=>wr.rangeLeft bs r1)
 exact⟨_,_,mP,by rw[Cz (aa MU)];exact P1,F1⟩;{
 clear mP P1 F1;obtain⟨left,jD,jN,Hs,EY⟩:=hrel;go_wp2_with(first
  |(at_next;refine fK _ rfl _ rfl 31 iO (λi:Int=>.int .u64 i) aY7 bs r1 n _ _ MS _ _ rfl jN ?_ ?_)
  |go_in)
 {
 intro _ yb;have hP4:=aa Hs;rw[JK yb,<-aa El,aA2 hk.1]at hP4;have P4:=af hP4;clear hP4 Hs jN;go_wp2
 go_end0
 exact⟨P4,EY,_,rfl⟩};{
 intro i0 pl g1 w3 ud cQ hp hlp tf aT gx aj5 Ef;obtain⟨j,z,g1',hj,XK,ee⟩:=gR hp;simp only[fQ]at ee;obtain⟨rfl,rfl⟩:=ee;obtain⟨um,Jq⟩:=xG jN;have O2:=One.ofI Hs.be gx Hi um;have P2:=Hs.iter O2 (λcs ty=>um cs ty _) Jq;have F2:=EY.trans O2.fr;have fT:=OG (f:=Pe (k+15)) hj hlp;obtain⟨a1,u,a2,a3⟩:=P2.uF j z g1 fT XK;have iW:w3.cell? (Ad g1 1)=some (.I z.2.1):=aq a2 1;have hf:∀o,w3.frozen? (Ad g1 o)=false:=λo=>by simp[World.frozen?,a2]
 obtain⟨ZZ,hZZ⟩:=az (w3.setCell (Ad g1 1) (.I (max z.2.1 (k+15))));have O5:One w0 w3 ZZ g1:=One.ofC P2.be (by rw[hZZ];exact au.setCell (p:=(Ad g1 1)) ao _) a2 a1 ai (λy _ hy=>by rw[hZZ,fW _ _ _ _ hy]);have P5:=P2.nJ (s':=Pe (k+15) z) fT XK O5 rfl ⟨a1,u,by rw[hZZ];simp[World.setCell,xM,a2,Pe],a3.fr O5.b O5.fr aZ⟩;have P6:Hid (PS w0 ZZ b bs bn ⟨D.e,D.g,D.x,k,nJ (Pe (k+15)) (λz'=>left z'&&!z'.sameKey (.U z.1)) sl,D.ns.map iG⟩ SB NB HB UB):=by have:=P5;simp only at this;rw[<-Fq (f:=Pe (k+15)) (aa bc6) hj];exact this
 have F5:=af (F2.trans O5.fr);have XL:(Instr.entry (.pointer (some (Ad r1 0)))).run prog w3=.ok (.tuple #[.U i0,.pointer (some (Ad g1 0))]) w3:=Ef;have qx:ZZ.ranges prog 31 aV bs r1 n M (λz'=>left z'&&!z'.sameKey (.U z.1)) ud:=by rw[hZZ];exact tf.of_walks (KeepsWalks.setCell _ _ _)
 clear gx hp cQ Hs EY O2 P2 F2 O5 P5 a1 a2 a3 um Jq;go_wp2_with fail;refine(UF iW hf).mono ?_;rintro r W9⟨rfl,v9,rfl⟩;go_wp2;rw[<-hZZ];go_roundw;exact⟨_,_,qx,P6,F5⟩
 case measure=>rw[qx.left_eq,jN.left_eq];exact aT}}
def ai4(hV:Hid (VD D))(k:Int)(hk:0<=k/\k<=1000000)(p q:OA)(c n d m:Nat)(en:Hid (D.ss.length=n))(em:Hid (D.ns.length=m))(w:World)(h:mg w (.S p n c) D.ss)(hN:oU w (.S q m d) D.ns)(Ek:ML w)(sl:List aP)(nl:List aC)(El:Hid (D.ss.map (IV k)=sl))(jJ:Hid (D.ns.map iG=nl)):Calls prog 22 #[ft D.e D.g D.x D.t (.S p n c) (.S q m d),.I k] w λr w'=>∃p' c' q' d',r=.returned (.tuple #[ft D.e D.g D.x k (.S p' sl.length c') (.S q' nl.length d'),.I 0])/\gD w.heap.size w' p' sl.length c' q' nl.length d' sl nl/\Bw w w':=by
 obtain⟨W,hW,b1,z1,C1⟩:=gO w (.U D.e) (.U D.g) (.U D.x) (.I D.t) (.S p n c) (.S q m d);obtain⟨W2,nF,b2,z2,C2⟩:=qO W;rw[z1]at C2 z2;have bW:=aj b1 b2;have HA:=af (λ(v:World)(hv:Bw W2 v)=>ah ((C1.below b2).below hv).cells (ah (h.below (aj bW hv)) (ah (hN.below (aj bW hv)) (ah (Ek.below (aj bW hv)) (ah (C2.below hv) (aj bW hv))))));have HZ:=af z2;have hn:n<=1048576:=aa en▸dQ hV.sl aZ;have hm:m<=1048576:=aa em▸dQ hV.nl aZ;have HF:=af hV.Jz;have HV2:=hV.re (pQ _) hV.e.2 (d:=k+15) ae hk;clear b1 b2 C1 C2 bW z1 z2 h hN Ek;have k0:¬k<0:=ae;have k1:¬1000000<k:=ae
 go_in
 go_wp2_with fail;rw[<-hW,<-nF];clear hW nF;have H:=af (aa HA W2 au);refine(ai2 en em H.2.1 H.2.2.1 hn hm (af hV.mj) (af hV.gq) (af hV.Ci) (af hV.QT) H.2.2.2.1 (af hV.ok)).mono ?_;rintro r w3⟨rfl,aL⟩;have B3:=af aL;clear aL H;have H:=af (aa HA w3 B3);obtain⟨i0,i1,i2,i3,i4,i5,-⟩:=H.1;go_wp2_with fail;clear i0 i1 i2 i3 i4 i5 k0 k1;refine(my en em H.2.1 H.2.2.1 hn hm (af λs hs=>(HF.s2 s hs).1) (af HF.s3) (af hV.gq) (af hV.Ci) (af HF.n3)).mono ?_;rintro r w4⟨b,bs,bn,SB,NB,HB,UB,rfl,cX,dS⟩;have P4:=af (PS.of cX dS HF (aG hV.sl) (aG hV.nl));have C4:=af (H.2.2.2.2.1.below dS);have z3:=B3.size;clear cX dS;go_wp2_with fail;refine(Z6 w4 b bs bn D SB NB HB UB k hk P4 (af (KD.of HF)) (af HF.s3)).mono ?_;rintro r w5⟨P5,F5,v5,rfl⟩;have C5:=af (C4.fr F5);have ui:=af P5.be;have HS:=af (Zt (D:=⟨D.e,D.g,D.x,k,D.ss.map (IV k),D.ns.map iG⟩) HV2 P5);dsimp only at HS;rw[aa El,aa jJ]at HS;clear P5 F5 P4 C4 HV2;go_wp2_with fail;refine HS.mono ?_;rintro r w6⟨p6,c6,q6,d6,rfl,o6,ky⟩;obtain⟨r0,r1,r2,r3,r4,r5,rf⟩:=(C5.below ky).cells;have bb:Bw w w6:=(H.2.2.2.2.2.trans (ui.mono H.2.2.2.2.2.size)).trans (ky.mono (dQ H.2.2.2.2.2.size ui.size));have O6:=af (ah ((o6.keep (w':=dB w6 (w.heap.size+1) (.U D.e) (.U D.g) (.U D.x) (.I k) (.S p6 sl.length c6) (.S q6 nl.length d6)) (λy h1 h2=>iI (by have:=ui.size;have:=aa HZ;omega))).mono (B':=w.heap.size) (dQ H.2.2.2.2.2.size ui.size)) bb);clear o6 ky bb HS;go_wp2;exact dD (v:=.tuple #[ft D.e D.g D.x k (.S p6 sl.length c6) (.S q6 nl.length d6),.I 0]) (by simp[results,results22,go_sem,r0,r1,r2,r3,r4,r5]) rfl ⟨p6,c6,q6,d6,rfl,O6.1,oz O6.2⟩
def Tu(k:Int)(s:aP):aP:=(s.1,k,s.2.2)
def aA3(k:Int)(ss:List aP):(ss.map jh).map (Tu (k+15))=ss.map (IV k):=by
 rw[qX]
 rfl
def aW9(e g x t K:Int)(hK:0<=K/\K<=1000000)(p q:OA)(c n d m:Nat)(ss:List aP)(ns:List aC)(en:Hid (ss.length=n))(em:Hid (ns.length=m))(w:World)(h:yL w (.S p n c) ss)(hN:oU w (.S q m d) ns)(hn:Mg n)(hm:Mg m)(mj:Hid (∀s∈ss,s.2.2.length<=0/\∀ev∈s.2.2,ev.2.length<=1048576))(xr:Hid (∀nd∈ns,nd.path.length<=1048576/\nd.value.length<=1048576/\nd.holders.length<=1048576/\nd.watchers.length<=1048576)):Calls prog 16 #[ft e g x t (.S p n c) (.S q m d),.I K] w (DuR w e g x K n m (ss.map (IV K)) (ns.map iG)):=by
 obtain⟨W0,dP,b0,z0,C0⟩:=gO w (.U e) (.U g) (.U x) (.I t) (.S p n c) (.S q m d);obtain⟨W1,lG,b1,z1,C1⟩:=gO W0 (.U 0) (.U 0) (.U 0) (.I 0) (.S none 0 0) (.S none 0 0);rw[z0]at C1 z1;have bW:=aj b0 b1;have HC:=af (aT4 (e:=e) (g:=g) (x:=x) (t:=t) en em (h.below bW) (hN.below bW) hn hm mj xr);have HB:=af (ah C1 (ah bW z1));clear C0 C1 b0 b1 z0 z1 bW h hN
 go_in
 go_wp2_with fail;rw[<-dP,<-lG];clear dP lG;refine HC.mono ?_;rintro r w1⟨p',c',q',d',B,Qs,rfl,XS,hS,IK,aA⟩;obtain⟨W2,nF,b2,z2,C2⟩:=gO w1 (.U e) (.U g) (.U x) (.I K) (.S p' n c') (.S q' m d');obtain⟨ob,MF⟩:=az w1.heap.size;rw[<-MF]at C2;have F2:=Fr.below (T:=[35]) b2;have HI:=af (ah (hS.fr F2) (ah (gy.fr IK F2) (ah C2 (ah ((HB.1.below aA).below b2) ((HB.2.1.trans (aA.mono (aG HB.2.2))).trans (b2.mono (by have:=HB.2.2;have:=aA.size;omega)))))));have iY:w.heap.size<=B:=aG HB.2.2;have wa:IntKind.i64.wrap (K+10)=K+10:=jL _ ae;have wb:IntKind.i64.wrap (K+10+5)=K+15:=(jL _ ae).trans ae;obtain⟨sl,El⟩:=bH (ss.map jh);have len:Hid (sl.length=n):=by show sl.length=n;rw[<-aa El,dZ];exact aa en
 rw[aa El]at HI;clear hS IK aA b2 z2 C2 F2 HC HB XS;go_wp2;rw[<-MF,<-nF];clear nF MF
 go_loopw[6](λiv wr=>∃k:Nat,k<=n/\iv=.I k/\Hid (kx B wr (.S p' n c') (lh (Tu (K+15)) k sl) Qs/\AK B wr (.S q' m d') (ns.map iG)/\BX wr ob [.U e,.U g,.U x,.I K,.S p' n c',.S q' m d']/\BX wr (w.heap.size+1) [.U 0,.U 0,.U 0,.I 0,.S none 0 0,.S none 0 0]/\Bw w wr)) (λiv _=>n-(intOf iv).toNat)
 exact⟨0,fN _,rfl,by rw[vh];exact HI⟩;{
 clear HI;obtain⟨k,hk,rfl,HI⟩:=hrel;obtain⟨i0,i1,i2,i3,i4,i5,if'⟩:=HI.2.2.1.cells;by_cases aT:k<n;{
 have bu:=aS k n;obtain⟨s,hs⟩:∃s,sl[k]?=some s:=⟨_,bD (aa len▸aT)⟩;obtain⟨gs,Q,rfl,-,-,hQ,j0,j1,j2,hq,jf⟩:=HI.1.at (mc (Tu (K+15)) hs);have hge:=HI.1.ge;have wk:IntKind.i64.wrap ((k:Int)+1)=((k+1:Nat):Int):=by rw[jL _ ae];omega
 obtain⟨S1,F1⟩:=HI.1.dl (mc (Tu (K+15)) hs) (K+15);rw[show((s.1,K+15,s.2.2):aP)=Tu (K+15) s from rfl,vj (Tu (K+15)) hs]at S1;obtain⟨Y,hY⟩:=az (wr.setCell (Ad gs (k*3+1)) (.I (K+15)));rw[<-hY]at S1 F1;have BV:Bw w Y:=by rw[hY];exact HI.2.2.2.2.setCell (p:=(Ad gs _)) (dQ iY hge) _
 have HN:=af (ah S1 (ah (gy.fr HI.2.1 F1) (ah (HI.2.2.1.fr F1) (ah (HI.2.2.2.1.fr F1) BV))));clear S1 F1 BV hq hQ;go_wp2;rw[<-hY];go_roundw;exact⟨k+1,ae,by go_num,HN⟩;exact bM};{have bu:=dm k n;have H2:=aa HI;rw[yr (Tu (K+15)) (by rw[aa len];omega),<-aa El,aA3]at H2;obtain⟨r0,r1,r2,r3,r4,r5,rf⟩:=H2.2.2.2.1.cells;obtain⟨cur,Av⟩:=H2.2.2.2.1.2;have F1:Fr [35] wr (dB wr (w.heap.size+1) (.U e) (.U g) (.U x) (.I K) (.S p' n c') (.S q' m d')):=je Av;have HN:=af (ah (H2.1.fr F1) (ah (gy.fr H2.2.1 F1) (H2.2.2.2.2.trans ((cT (w:=wr) (w.heap.size+1) (.U e) (.U g) (.U x) (.I K) (.S p' n c') (.S q' m d')).mono ae))));clear H2 Av F1 HI wa wb;go_wp2;exact dD (v:=ft e g x K (.S p' n c') (.S q' m d')) (by simp[results,results16,go_sem,r0,r1,r2,r3,r4,r5]) rfl ⟨_,_,_,_,B,_,rfl,iY,HN.1,HN.2.1,HN.2.2⟩}}
def JN{α:Type}{F:α->Nat}{C:Nat}(l:List α)(h:∀x∈l,F x<=C):iB F l<=C*l.length:=by
 have:=Tf C (l.map F) λx hx=>by obtain⟨y,hy,rfl⟩:=ji.1 hx;exact h y hy
 rw[dZ]at this;exact this
end Go.Proofs.YtkakbcaiplggiaaGreatDoor
