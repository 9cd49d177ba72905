import Derived.Test.YtnhnbpkfpaondaaGreatDoorK8
import Derived.Test.YtnhnbpkfpaondaaGreatDoorK9
namespace Go.Proofs.YtnhnbpkfpaondaaGreatDoor
set_option maxHeartbeats 0
set_option linter.all false
set_option maxRecDepth 100000
open Go.ChangeShapes Go.WideShapes Go.ChangeAt Go.RowKit Go.Maps Go.Proofs.Tryz
structure Zu(w:World)(bs:Nat)(ss:List aQ)(SB:List Nat):Prop where
 len:SB.length=ss.length
 own:∃D n,w.ownsMap prog 27 aZ bs n D/\n<=1048576/\gK D (List.zipWith (λ(s:aQ)g=>(Lit.U s.1,g)) ss SB)
 blk:∀(i:Nat)(s:aQ)(g:Nat),ss[i]?=some s->SB[i]?=some g->∃u,w.heap[g]?=some (.cells #[.U s.1,.I s.2.1,u] 132)/\qG w u s.2.2
structure Zz(w:World)(bn:Nat)(ns:List aD)(NB:List Nat):Prop where
 len:NB.length=ns.length
 own:∃D n,w.ownsMap prog 9 aZ bn n D/\n<=1048576/\gK D (List.zipWith (λ(nd:aD)g=>(cL nd.path,g)) ns NB)
 blk:∀(i:Nat)(nd:aD)(g:Nat),ns[i]?=some nd->NB[i]?=some g->∃V h u,KN w g h u V nd
variable {w w' w1 w2 w0:World}{g h bs bn b i n sb B z gb hh uu m np cp nv cv:Nat}{nd:aD}{ss ss':List aQ}{SB L':List Nat}{ns:List aD}{e x t I K S F E G:Int}{D d:DataW Unit}{ids P s V:LI}{ks:List (List UInt8)}{row:Option Nat}{k ty:TypeId}{vs Qs rs rp:List Value}{v u o0 o1 o2 o3 o4 o5 v0 v1 v2 v3 v4 v5 v6 v7:Value}{c cs:Array Value}{l:List Lf}{es q:List Ev}{L:List Lit}{ev:Ev}{o:Oper}{a:Act}{ops:Array Oper}{rest:List Oper}{ls:List LI}{p pp pq:OA}{r:Ending}{R:RP}
def KN.below{u:Nat}{V:Value}(k:KN w g h u V nd)(hb:Bw w w'):KN w' g h u V nd:=by
 obtain⟨h1,h2,⟨D1,o1,s1⟩,⟨D2,o2,s2⟩⟩:=k;exact⟨(hb.block g (aR h1)).trans h1,h2.below hb,⟨D1,o1.kept (aC hb none) al,s1⟩,⟨D2,o2.kept (aC hb none) al,s2⟩⟩
def Zu.below(h:Zu w bs ss SB)(hb:Bw w w'):Zu w' bs ss SB:=by
 obtain⟨h1,⟨D,n,o,hn,m⟩,h3⟩:=h;refine⟨h1,⟨D,n,o.kept (aC hb none) al,hn,m⟩,λi s g hs hg=>?_⟩
 let⟨u,q1,q2⟩:=h3 i s g hs hg
 exact⟨u,(hb.block g (aR q1)).trans q1,q2.below hb⟩
def Zz.below{NB:List Nat}(h:Zz w bn ns NB)(hb:Bw w w'):Zz w' bn ns NB:=by
 obtain⟨h1,⟨D,n,o,hn,m⟩,h3⟩:=h;refine⟨h1,⟨D,n,o.kept (aC hb none) al,hn,m⟩,λi s g hs hg=>?_⟩
 let⟨V,h,u,q⟩:=h3 i s g hs hg
 exact⟨V,h,u,q.below hb⟩
structure Sto(w:World)(b bs bn:Nat)(e g x t:Int)(ss:List aQ)(ns:List aD)(SB NB:List Nat):Prop where
 hd:w.heap[b]?=some (.cells #[.U e,.U g,.U x,.I t,.map (some bs),.map (some bn)] 157)
 Ut:Zu w bs ss SB
 qw:Zz w bn ns NB
def Sto.below{g:Int}{SB NB:List Nat}(h:Sto w b bs bn e g x t ss ns SB NB)(hb:Bw w w'):Sto w' b bs bn e g x t ss ns SB NB:=
 ⟨(hb.block b (aR h.hd)).trans h.hd,h.Ut.below hb,h.qw.below hb⟩
def Hk(h:Zu w bs ss SB){s:aQ}(hs:ss[i]?=some s):∃g,SB[i]?=some g/\(Lit.U s.1,g)∈List.zipWith (λ(s:aQ)g=>(Lit.U s.1,g)) ss SB:=by
 have hi:=(aV.1 hs).1;obtain⟨g,hg⟩:∃g,SB[i]?=some g:=⟨_,aY (h.len▸hi)⟩;refine⟨g,hg,aT (i:=i) ?_⟩;rw[oe,hs,hg]
def Hl{NB:List Nat}(h:Zz w bn ns NB)(hs:ns[i]?=some nd):∃g,NB[i]?=some g/\(cL nd.path,g)∈List.zipWith (λ(nd:aD)g=>(cL nd.path,g)) ns NB:=by
 have hi:=(aV.1 hs).1;obtain⟨g,hg⟩:∃g,NB[i]?=some g:=⟨_,aY (h.len▸hi)⟩;refine⟨g,hg,aT (i:=i) ?_⟩;rw[oe,hs,hg]
theorem WG{α β γ:Type}{f:α->β->γ}{l:List α}{m:List β}{z:γ}(h:z∈List.zipWith f l m):∃a∈l,∃b,z=f a b:=by
 induction l generalizing m with
 |nil=>simp at h
 | cons a l ih=>
  cases m with
  |nil=>simp at h
  |cons b m=>
   simp only[aV5,jv]at h;rcases h with rfl|h;{exact⟨a,al,b,rfl⟩};{
 let⟨a',ha,b',e⟩:=ih h
 exact⟨a',by simp[ha],b',e⟩}
def Ur(h:Zu w bs ss SB)(hs:ss.Pairwise (λs s'=>s.1<s'.1))(m:gK D (List.zipWith (λ(s:aQ)g=>(Lit.U s.1,g)) ss SB))(ha:Q.Asc D ids):ids=ss.map (·.1):=by
 refine tG ha.lt (Ef.2 hs) λx=>?_;rw[ha.mem x,m.hs];constructor;{rintro⟨p,hp,e⟩;obtain⟨s,Ho,g,rfl⟩:=WG hp;simp only[Db,MC]at e;exact iR.2 ⟨s,Ho,e⟩};{
 intro hx;obtain⟨s,Ho,rfl⟩:=iR.1 hx
 let⟨i,hi,e⟩:=Dm Ho
 let⟨g,hg,hm⟩:=Hk h (i:=i) (s:=s) (by rw[aY hi,e])
 exact⟨_,hm,rfl⟩}
def rD(l:LI):List UInt8:=l.map λn=>UInt8.ofNat n.toNat
theorem J7{α:Type}[LT α](irr:∀a:α,¬a<a)(tr:∀a b c:α,a<b->b<c->a<c):∀{l m:List α},l.Pairwise (·<·)->m.Pairwise (·<·)->(∀x,x∈l↔x∈m)->l=m
 |[],[],_,_,_=>rfl
 |[],b::m,_,_,h=>absurd ((h b).2 al) al
 |a::l,[],_,_,h=>absurd ((h a).1 al) al
 |a::l,b::m,h1,h2,h=>by
  rw[zQ]at h1 h2;have Tq:a=b:=by rcases jv.1 ((h a).1 al)with e|e;{exact e};{rcases jv.1 ((h b).2 al)with e'|e';{exact e'.symm};{exact absurd (tr _ _ _ (h2.1 a e) (h1.1 b e')) (irr _)}}
  subst Tq;rw[J7 irr tr h1.2 h2.2 (λx=>?_)];constructor;{intro hx;rcases jv.1 ((h x).1 (by simp[hx]))with e|e;{subst e;exact absurd (h1.1 _ hx) (irr _)};{exact e}};{intro hx;rcases jv.1 ((h x).2 (by simp[hx]))with e|e;{subst e;exact absurd (h2.1 _ hx) (irr _)};{exact e}}
def xQ{NB:List Nat}(h:Zz w bn ns NB)(hs:(ns.map λnd=>rD nd.path).Pairwise (·<·))(m:gK D (List.zipWith (λ(nd:aD)g=>(cL nd.path,g)) ns NB))(ha:T.Asc D ks):ks=ns.map λnd=>rD nd.path:=by
 refine J7 (λa=>List.lt_irrefl a) (λa b c=>List.lt_trans) ha.lt hs λx=>?_;rw[ha.mem x,m.hs];constructor;{rintro⟨p,hp,e⟩;obtain⟨s,Ho,g,rfl⟩:=WG hp;simp only[cL,ai8]at e;exact iR.2 ⟨s,Ho,e⟩};{
 intro hx;obtain⟨s,Ho,rfl⟩:=iR.1 hx
 let⟨i,hi,e⟩:=Dm Ho
 let⟨g,hg,hm⟩:=Hl h (i:=i) (nd:=s) (by rw[aY hi,e])
 exact⟨_,hm,rfl⟩}
def OI:(zeroValue 158).run prog w=.ok (.pointer none) w:=by kernel_rfl
def am2{l:List (Lit×Nat)}(o:w.ownsMap prog 27 aZ bs n D)(m:gK D l)(hp:(Lit.U I,g)∈l)(hI:0<=I/\I<2^64):(Instr.lookup 154 (.map (some bs)) (.U I) false).run prog w=.ok (.pointer (some (Ad g 0))) w:=by
 let⟨v,ps,hr,hv⟩:=o.lookup jI underlying154 (OI (w:=w)) (zd:=.nil) (zp:=[]) rfl (key:=.U I) (keyOf_int_mk underlying27 (ni hI))
 rw[m.at' _ hp]at hv;obtain rfl:=jY hv;exact hr
def QT{l:List (Lit×Nat)}(o:w.ownsMap prog 9 aZ bn n D)(m:gK D l)(hp:(cL P,g)∈l)(hP:Mg P.length):(Instr.lookup 155 (.map (some bn)) (.string (aP P)) false).run prog w=.ok (.pointer (some (Ad g 0))) w:=by
 let⟨v,ps,hr,hv⟩:=o.lookup ox underlying155 (oO w) (zd:=.nil) (zp:=[]) rfl (key:=.string (aP P)) (kl:=cL P) (by rw[WideMaps.keyOf_string_mk underlying9 (by rw[gQ];unfold maxLen;omega),oW])
 rw[m.at' _ hp]at hv;obtain rfl:=jY hv;exact hr
def iY(h:w.grownBy w1 (some sb))(k:w1.grownBy w2 row)(hr:∀b,row=some b->w.heap.size<=b\/b=sb):w.grownBy w2 (some sb):=
 ⟨k.os.trans h.os,k.tape.trans h.tape,k.output.trans h.output,fu h.size k.size,λi hi bS=>(k.block i (iq hi h.size) (λe=>by rcases hr i e.symm with h'|h';{omega};{exact bS (by rw[h'])})).trans (h.block i hi bS)⟩
def aH(w:World)(a:Addr)(v:Value):w.grownBy (w.setCell a v) (some a.block):=
 ⟨rfl,rfl,rfl,al,λk _ hk=>ga _ _ _ _ (λe=>hk (by rw[e]))⟩
def tF(h:Bw w w1)(k:w1.grownBy w2 (some sb))(hs:w.heap.size<=sb):Bw w w2:=h.grown k h.size (λb e=>by cases e;exact hs)
def zh{R:Value->Option (DataW Unit×List MemPlace)}(h:w.ownsMap prog k R b n D)(hh:w'.heap[b]?=w.heap[b]?):w'.ownsMap prog k R b n D:=by
 obtain⟨es,clock,h1,h2⟩:=h;exact⟨es,clock,hh.trans h1,h2⟩
def ar.grown(h:ar w b vs)(hb:b<w.heap.size)(hg:w.grownBy w' row)(bS:some b≠row):ar w' b vs:=by
 have hh:=hg.block b hb bS;refine⟨λi v hi=>(aF hh _).trans (h.1 i v hi),λo=>?_⟩;have:w'.frozen? (Ad b o)=w.frozen? (Ad b o):=tM hh;rw[this];exact h.2 o
theorem ay6(l:LI):(⟨(rD l).toArray⟩:ByteArray)=aP l:=by
 have h:(aP l).data=(rD l).toArray:=by rw[<-WV];simpa[rD]using jU (l:=l)
 cases hb:aP l with
 |mk d=>rw[hb]at h;simp only at h;rw[h]
def Mo(h:T.RdK B w v (ns.map λnd=>rD nd.path)):∃p c,v=.S p ns.length c/\(ns=[]\/∃g,p=some (Ad g 0)/\B<=g/\g<w.heap.size/\∀(j:Nat)(nd:aD),ns[j]?=some nd->w.cell? (Ad g (0+j))=some (.string (aP nd.path))):=by
 rcases h with⟨rfl,h0⟩|⟨g,cap,rfl,hb,hl,hH⟩;{
 have:ns=[]:=by simpa using h0
 subst this;exact⟨none,0,rfl,.inl rfl⟩};{
 refine⟨some (Ad g 0),cap,by rw[fN],.inr ⟨g,rfl,hb,hl,λj nd hj=>?_⟩⟩;have Al:=(aV.1 hj).1;have:=(hH j (by simpa using Al)).1;rw[this,<-ay6];have e:(ns.map λnd=>rD nd.path).toArray[j]! = rD nd.path:=by have e2:ns[j]=nd:=(aV.1 hj).2;simp[Al,e2]
 rw[e]}
def iA.cells(h:iA w nd c.toList l):∃q0 q1 q2 q3 q4 q5 q6 q7,c=#[q0,q1,q2,q3,q4,q5,q6,q7]/\∀u∈[q0,q1,q2,q3,q4,q5,q6,q7],u.oneCell'=true:=by
 obtain⟨p0,c0,p1,c1,p4,c4,p7,c7,l0,l1,l4,l7,-,h2,-⟩:=h;refine⟨_,_,_,_,_,_,_,_,by rw[<-WV,h2],λu hu=>?_⟩;simp only[jv,GF,xl]at hu;rcases hu with rfl|rfl|rfl|rfl|rfl|rfl|rfl|rfl<;>rfl
variable {g:Int}
def Bt{SB NB:List Nat}(h:Sto w b bs bn e g x t ss ns SB NB)(hs:Hid (ss.Pairwise (λs s'=>s.1<s'.1)))(hn:Hid ((ns.map λnd=>rD nd.path).Pairwise (·<·)))(ls:Mg ss.length)(ln:Mg ns.length)(hls:Hid (∀s∈ss,(0<=s.1/\s.1<2^64)/\s.2.2.length<=1048576/\∀e∈s.2.2,e.2.length<=1048576))(hln:Hid (∀nd∈ns,aN nd.path/\nd.path.length<=1048576/\nd.value.length<=1048576/\nd.holders.length<=1048576/\nd.watchers.length<=1048576/\nd.holders.Pairwise (·<·)/\nd.watchers.Pairwise (·<·))):Calls prog 53 #[.pointer (some (Ad b 0))] w λr w'=>∃p c q d A1 A2,r=.returned (dZ e g x t (.S p ss.length c) (.S q ns.length d))/\kr w' (.S p ss.length c) ss/\lM w' (.S q ns.length d) ns/\uj w' (.S p ss.length c) ss A1/\vQ w' (.S q ns.length d) ns A2/\jE w.heap.size w' (A1++A2)/\Bw w w':=by
 have k0:w.cell? (Ad b 0)=some (.U e):=ao h.hd 0;have k1:w.cell? (Ad b 1)=some (.U g):=ao h.hd 1;have k2:w.cell? (Ad b 2)=some (.U x):=ao h.hd 2;have k3:w.cell? (Ad b 3)=some (.I t):=ao h.hd 3
 let⟨is,his,sz0,sz1,sz2⟩:=fD Tryz.infoSes
 let⟨io,hio,oz0,oz1,oz2⟩:=fD Tryz.infoNod
 let⟨W0,fL⟩:=aB (w.alloc (.cells #[.U 0,.U 0,.U 0,.I 0,aq,aq] 41))
 have b0:=dX fL;have z0:W0.heap.size=w.heap.size+1:=by rw[fL];simp
 have r0:ar W0 w.heap.size [.U 0,.U 0,.U 0,.I 0,aq,aq]:=by rw[fL];exact ar.alloc w #[.U 0,.U 0,.U 0,.I 0,aq,aq] _
 go_in
 go_wp2_with fail;rw[<-fL]
 let⟨v0,mY⟩:=aB W0.drew
 have bv:Bw w v0:=mY▸b0.drew;have zv:v0.heap.size=w.heap.size+1:=mY▸z0;have R0:Hid (ar v0 w.heap.size [.U 0,.U 0,.U 0,.I 0,aq,aq]):=mY▸r0;have S0:=ag (ai (ah k0 bv) (ai (ah k1 bv) (ai (ah k2 bv) (ah k3 bv))));have H0:=ag (h.below bv);have ZV:=ag zv;refine du (λw'=>w'.cell? (Ad b 0)=some (.U e)/\w'.cell? (Ad b 1)=some (.U g)/\w'.cell? (Ad b 2)=some (.U x)/\w'.cell? (Ad b 3)=some (.I t)) (mY▸ae S0) λhS=>?_;rw[<-mY]at hS⊢;clear mY fL b0 z0 r0 k0 k1 k2 k3 zv;refine mj 0 1 2 3 4 5 6 7 hS ?_;refine mj 8 9 10 11 12 13 14 15 hS ?_;refine tn 16 hS ?_;refine cX 17 λKK hK=>?_;go_simp
 let⟨v1,hv1⟩:=aB (v0.alloc (.cells #[.U 0,.U 0,.U 0,.I 0,aq,aq] 41))
 have aG:=dX hv1;have c1:ar v1 v0.heap.size [.U 0,.U 0,.U 0,.I 0,aq,aq]:=by rw[hv1];exact ar.alloc v0 #[.U 0,.U 0,.U 0,.I 0,aq,aq] _
 have z1:v1.heap.size=v0.heap.size+1:=by rw[hv1];simp
 rw[<-hv1]
 let⟨sb,UZ⟩:=aB v0.heap.size
 rw[<-UZ]at c1⊢;have S1:=ag (ai (ah S0.1 aG) (ai (ah S0.2.1 aG) (ai (ah S0.2.2.1 aG) (ah S0.2.2.2 aG))));have H1:=ag (H0.below aG);have R1:=ag (R0.below (aI (ae ZV)) aG);have b1:=aj bv aG;have HZ:=ag (ai (ae ZV) (ai UZ z1));refine fh hK (by exact S1) λhS=>?_;have rc0:=c1.1 0 _ rfl;have rc1:=c1.1 1 _ rfl;have rc2:=c1.1 2 _ rfl;have rc3:=c1.1 3 _ rfl;have rc4:=c1.1 4 _ rfl;have rc5:=c1.1 5 _ rfl;have rf:=c1.2;clear hK KK hv1 aG UZ z1;refine cX 18 λKK hK=>?_;go_simp
 let⟨Z,hZ⟩:=aB ((((((v1.setCell (Ad sb 0) (.U e)).setCell (Ad sb 1) (.U g)).setCell (Ad sb 2) (.U x)).setCell (Ad sb 3) (.I t)).setCell (Ad sb 4) aq).setCell (Ad sb 5) aq)
 let⟨zz0,zz1,zz2⟩:=ae HZ
 have CZ:ar Z sb [.U e,.U g,.U x,.I t,aq,aq]:=by rw[hZ];exact((((((c1.dH 0 al _).dH 1 al _).dH 2 al _).dH 3 al _).dH 4 al _).dH 5 al _)
 have hgZ:v1.grownBy Z (some sb):=by rw[hZ];exact gC (gC (gC (gC (gC (aH _ _ _) (aH _ _ _)) (aH _ _ _)) (aH _ _ _)) (aH _ _ _)) (aH _ _ _)
 have bZ:Bw w Z:=tF b1 hgZ af;have RZ:=R1.grown af hgZ bq;have SZ:Z.cell? (Ad b 0)=some (.U e)/\Z.cell? (Ad b 1)=some (.U g)/\Z.cell? (Ad b 2)=some (.U x)/\Z.cell? (Ad b 3)=some (.I t):=⟨ao (h.below bZ).hd 0,ao (h.below bZ).hd 1,ao (h.below bZ).hd 2,ao (h.below bZ).hd 3⟩;have zZ:sb<Z.heap.size:=aI hgZ.size;rw[<-hZ];refine fh hK (by exact SZ) λhS=>?_;clear hK KK hZ hgZ SZ c1 rc0 rc1 rc2 rc3 rc4 rc5 rf S1 H1 R1 S0 H0 R0;refine cY ?_;have UY:w.heap.size<sb:=af;have CZ':=ag CZ;have RZ':=ag RZ;have HS:=ag λ(w':World)(hb:Bw w w')=>h.below hb;have HLW:Hid (∀k s gs,ss[k]?=some s->SB[k]?=some gs->b<w.heap.size/\bs<w.heap.size/\gs<w.heap.size):=λk s gs hy ZU=>by
  let⟨_,_,o,_,_⟩:=h.Ut.own
  let⟨_,y3,_⟩:=h.Ut.blk k _ gs hy ZU
  exact⟨aR h.hd,o.lt,aR y3⟩
 have HLN:Hid (∀k s gs,ns[k]?=some s->NB[k]?=some gs->b<w.heap.size/\bn<w.heap.size/\gs<w.heap.size):=λk s gs hy ZU=>by
  let⟨_,_,o,_,_⟩:=h.qw.own
  let⟨_,_,_,y3⟩:=h.qw.blk k _ gs hy ZU
  exact⟨aR h.hd,o.lt,aR y3.blk⟩
 have BZ:=ag bZ;clear hS CZ RZ h bv b1 zz0 zz1 zz2 HZ ZV
 let⟨hHd,bk4,at2⟩:=ae HS _ BZ
 let⟨D,nD,oD,hnD,mD⟩:=id bk4.own
 have k4:Z.cell? (Ad b 4)=some (.map (some bs)):=ao hHd 4;have MD:=ag mD;have OD:=ag oD;clear hHd at2 mD;go_wp2_with fail;refine(Q.kH bs nD D _ oD (fu oD.size_le hnD)).mono ?_;rintro r w1⟨kv,ids,rfl,Tv,Oh,aG⟩;obtain rfl:=Ur bk4 hs MD Tv;obtain⟨pk,ck,Ak,rfl,rk,lk,ak⟩:=Mp Oh;have Xo:(ss.map (·.1)).length=ss.length:=fN _
 let⟨nk,enk⟩:=aB ((ss.map (·.1)).length)
 rw[<-enk]at rk lk⊢;have bR7:nk=ss.length:=by rw[enk,Xo]
 have ENK:=ag bR7;have dQ1:nk<=1048576:=af;have HKV:=ag (ai rk (ai lk ak));have b1:=aj BZ aG;have z1:=aG.size;have C1:=ag (CZ'.below zZ aG);have R1:=ag (RZ'.below af aG);clear rk lk ak Oh Tv aG k4 bk4 oD enk bR7 Xo CZ' RZ';go_wp2_with fail
 go_loopw[31](λiv wr=>∃(k:Nat)(Sv:Value)(Ls:List (List Lf)),k<=nk/\iv=.I k/\Hid (ar wr sb [.U e,.U g,.U x,.I t,Sv,aq]/\OwnT jy 132 3 w1.heap.size wr Sv (ss.take k) Ls)/\Hid (w1.grownBy wr (some sb))) (λiv _=>nk-(intOf iv).toNat)
 exact⟨0,_,[],gr _,rfl,⟨C1,OwnT.nil _ _ _ _ _⟩,qi⟩;{
 obtain⟨k,Sv,Ls,hk,rfl,jq,Am⟩:=hrel;have BB:=tF b1 Am af;by_cases bf:k<nk;{
 have bL:=aU k nk;have dT:k<ss.length:=ae ENK▸bf
 let⟨⟨I,Dl,Qu⟩,hy⟩:=lE dT
 obtain⟨hH,hSe,-⟩:=ae HS _ BB
 let⟨gs,ZU,iV⟩:=Hk hSe hy
 let⟨u,hbu,hru⟩:=hSe.blk k _ gs hy ZU
 dsimp only at hbu hru iV;obtain⟨pq,cq,rfl,-⟩:=id hru
 let⟨nq,enq⟩:=aL Qu.length
 rw[enq]at hru hbu;have ENQ:=ag enq
 let⟨hI,hq1,hq2⟩:=ae hls _ (aT hy)
 dsimp only at hI hq1 hq2;have hnq:nq<=1048576:=enq▸hq1;have HQ2:Hid (∀e∈Qu,e.2.length<=1048576):=hq2;obtain⟨gk,ok,rfl,hck⟩:∃gk ok,pk=some (Ad gk ok)/\wr.cell? (Ad gk (ok+k))=some (.U I):=by
  let⟨rk,lk,ak⟩:=ae HKV
  have rk':=rk.dw lk (w':=wr) (λa ha=>Am.block a.b (ak.tf.lt ha) (by have:=ak.lo a ha;simp;omega));obtain⟨p',c',ee,hd⟩:=rk';obtain⟨rfl,-,-⟩:=ir ee;rcases hd with hd|⟨b',o',rfl,hd⟩;{have:=tX List.length hd;simp at this;rw[this]at dT;simp at dT};{refine⟨b',o',rfl,?_⟩;rw[hd k (by simpa using dT)];simp[gj,hy]}
 have HY:=ag hy
 let⟨hC,hO⟩:=ae jq
 have cS4:=hC.1 4 _ rfl;have kb4:wr.cell? (Ad b 4)=some (.map (some bs)):=ao hH 4
 let⟨D',n',oD',ZQ,mD'⟩:=hSe.own
 have HLK:=ag (ai mD' (ai iV hI));have hLT:b<w1.heap.size/\bs<w1.heap.size/\gs<w1.heap.size:=by
  obtain⟨y1,y2,-⟩:=ae HS _ b1
  let⟨_,_,o,_,_⟩:=y2.own
  let⟨_,y3,_⟩:=y2.blk k _ gs hy ZU
  exact⟨aR y1,o.lt,aR y3⟩
 have HLT:=ag hLT;have hLW:b<w.heap.size/\bs<w.heap.size/\gs<w.heap.size:=ae HLW k _ gs hy ZU;have t3b:b≠sb:=af;have t4b:bs≠sb:=af;have t5b:gs≠sb:=af
 let⟨vA,je⟩:=aB wr.drew
 have gL:=mX je;have SXA:=ag (ai (ah kb4 gL) (ai (oD'.kept (aC gL none) al) (ai (ah (ao hbu 0) gL) (ai (ah (ao hbu 1) gL) (ah (ao hbu 2) gL)))));have RQ:=ag (hru.below gL);have OA:=ag (hO.below jy.keep gL);have CXA:=ag (hC.below (aI Am.size) gL);have gA:Hid (w1.grownBy vA (some sb)):=iY Am (aC gL none) (λb e=>by cases e);have BXA:=ag (cQ vA.heap.size vA);have zxA:sb<vA.heap.size:=aI gA.size;clear enq hq1 hq2 dT ZU hLT hLW cS4;go_wp2_with fail;clear hck;refine du (λw'=>w'.cell? (Ad b 4)=some (.map (some bs))/\w'.ownsMap prog 27 aZ bs n' D'/\w'.cell? (Ad gs 0)=some (.U I)/\w'.cell? (Ad gs 1)=some (.I Dl)/\w'.cell? (Ad gs 2)=some (.S pq nq cq)) (je▸ae SXA) λhS=>?_;rw[<-je]at hS⊢;clear je gL hbu hru iV hI oD' mD' hC hO kb4 hH hSe;refine lG 0 2 3 4 hS ?_;refine jR 5 6 hS ?_;refine xh (i:=7) (oi:=_) (v:=?_) (by simp only[xU,BM,BK];rfl) bg bg bg (λ_ _ _ h=>h) (Or.inl ⟨aJ,?_⟩) hS ?_;rotate_left;{(intro w' xx;(try dsimp only at xx);(have hlk:=am2 xx.2.1 HLK.1 HLK.2.1 HLK.2.2);go_simp;try with_reducible rfl)}
 simp only[Act.put,xa,xb,xc];refine jR 8 9 hS ?_;refine ry [1,10] (cn (λKK hK=>?_) (cn (λKK hK=>?_) eh));have cl:=CXA.1 4 _ rfl;go_simp;refine fh hK (by exact SXA) λhS=>?_;refine ry [10] (cn (λKK hK=>?_) eh)
 all_goals(
  refine iw (VH I Dl pq cq nq Qu ENQ _ (RQ.below BXA) hnq HQ2) ?_;rintro r v1⟨pe,ce,Ae,rfl,rdE,lvE,Lk,aG⟩;refine⟨_,rfl,?_⟩;have HE1:=ag (ai rdE (ai lvE (Lk.mono (B':=vA.heap.size) BXA.size)))
  let⟨s1,s2,s3,s4,s5⟩:=ae SXA
  have SX1:=ag (ai (ah s1 aG) (ai (s2.kept (aC aG none) al) (ai (ah s3 aG) (ai (ah s4 aG) (ah s5 aG)))));have CX1:=ag (CXA.below af aG);have AR:=ag (aj BXA aG);have zx1:vA.heap.size<=v1.heap.size:=AR.size;refine fh hK (by exact SX1) λhS=>?_
  skip)
 refine ry [11] (cn (λKK hK=>?_) eh);rotate_left;refine ry [1,11] (cn (λKK hK=>?_) (cn (λKK hK=>?_) eh));have cl:=CX1.1 4 _ rfl;go_simp;refine fh hK (by exact SX1) λhS=>?_;refine ry [11] (cn (λKK hK=>?_) eh)
 all_goals(
  go_simp
  let⟨v2,Xh⟩:=aB (v1.alloc (.cells #[.U I,.I Dl,.S pe nq ce] 132))
  have aK:=dX Xh;have DB:∀j u,([.U I,.I Dl,.S pe nq ce]:List Value)[j]?=some u->v2.cell? (Ad v1.heap.size j)=some u:=λj u hu=>by rw[Xh];exact(ar.alloc v1 #[.U I,.I Dl,.S pe nq ce] 132).1 j u (by simpa using hu)
  rw[<-Xh]
  let⟨gE,hgE⟩:=aB v1.heap.size
  rw[<-hgE]at DB⊢
  let⟨rdE,lvE,Lk⟩:=ae HE1
  have kE:∀a∈Ae,v2.heap[a.b]?=v1.heap[a.b]?:=λa ha=>aK.block _ (Lk.tf.lt ha);have EL2:Hid (jy v2 (I,Dl,Qu) [.U I,.I Dl,.S pe nq ce] Ae/\jE vA.heap.size v2 Ae):=⟨⟨pe,ce,by rw[ae ENQ],by rw[ae ENQ];exact rdE.dw lvE kE,by rw[ae ENQ];exact CD.keep lvE kE⟩,Lk.keep kE⟩;have uq:=ag DB
  let⟨s1,s2,s3,s4,s5⟩:=ae SX1
  have SX2:=ag (ai (ah s1 aK) (ai (s2.kept (aC aK none) al) (ai (ah s3 aK) (ai (ah s4 aK) (ah s5 aK)))));have CX2:=ag (CX1.below af aK);have BX2:=ag (aj AR aK);have zx2:vA.heap.size<=v2.heap.size:=BX2.size;refine fh hK (by exact SX2) λhS=>?_;clear hK KK Xh aK DB hgE rdE lvE Lk kE
  skip)
 rotate_left;refine ry [1] (cn (λKK hK=>?_) eh);have cl:=CX2.1 4 _ rfl;go_simp;refine fh hK (by exact SX2) λhS=>?_;clear hK KK cl
 all_goals(
  have OC:=OA.below jy.keep BX2
  let⟨elC,apC⟩:=ae EL2
  let⟨cs,g1,g2,g3,g4,g5,g6,g7⟩:=id OC
  have hlA:=OA.lt;have hle:(ss.take k).length<=1048576:=by rw[pT];omega
  have zA1:=gA.size;have zA:w1.heap.size<=v2.heap.size:=af;refine ry [12] ?_;refine cn (λKK hK=>?_) ?_;{
 refine kF aJ aJ is 3 underlying38 his sz0 sz1 sz2 rfl bj aJ g4 1 1 [.U I,.I Dl,.S pe nq ce] aJ rfl (ae uq) (λu hu=>by simp at hu;rcases hu with rfl|rfl|rfl<;>rfl) iB af zA ?_;intro v' w9 fo hg qz;have sn:=OwnT.snoc g1 g2 g3 g5 g6 g7 jy.keep elC rfl apC zA1 (λa ha=>(hlA.2 a ha).2) (λb hb=>(hlA.1 b hb).2) fo hg qz;rw[<-rP (ae HY)]at sn;obtain⟨pN,cN,evN,-⟩:=id sn.read
 let⟨lN,hlN⟩:=aB ((ss.take (k+1)).length)
 rw[<-hlN]at evN;subst evN;clear hlN;have Jq:∀z,z<w1.heap.size->some z≠Sv.ownBlock:=λz hz e=>by have:=(hlA.1 z e.symm).1;omega
 have AY:w1.grownBy w9 (some sb):=iY (iY gA (aC BX2 none) (λb e=>by cases e)) hg (λb e=>.inl (hlA.1 b e).1);have C9:=CX2.grown af hg (Jq sb af)
 let⟨t1,t2,t3⟩:=ae HLT
 let⟨s1,s2,s3,s4,s5⟩:=ae SX2
 have S9:=ag (ai (hg.cell s1 (Jq (b) t1)) (ai (s2.kept hg (Jq (bs) t2)) (ai (hg.cell s3 (Jq (gs) t3)) (ai (hg.cell s4 (Jq (gs) t3)) (hg.cell s5 (Jq (gs) t3))))));refine fh hK (by exact S9) λhS=>?_;have SN:=ag sn;have cc:=C9.1 4 _ rfl;have cf:=C9.2;have hlS:=sn.lt;clear hK KK sn fo qz g1 g2 g3 g4 g5 g6 g7 elC apC OC s1 s2 s3 s4 s5;refine tn 13 hS ?_;refine cX 14 λKK hK=>?_;go_simp
 let⟨wT,hwT⟩:=aB (w9.setCell (Ad sb 4) (.S pN lN cN))
 have CT:=C9.dH 4 al (.S pN lN cN);have hkT:∀z,z≠sb->wT.heap[z]?=w9.heap[z]?:=λz hz=>by rw[hwT];exact ga _ _ _ _ hz
 have gT:Hid (w1.grownBy wT (some sb)):=by show World.grownBy _ _ _;rw[hwT];exact gC AY (aH _ _ _)
 have zT:w9.heap.size<=wT.heap.size:=by rw[hwT];simp
 have OT:Hid (OwnT jy 132 3 w1.heap.size wT (.S pN lN cN) (ss.take (k+1)) (Ls++[Ae])):=SN.keep (jy.keep _ _) zT (λz hz=>hkT z (aI (hlS.1 z hz).1)) (λy hy=>hkT _ (aI (hlS.2 y hy).1));rw[<-hwT]at CT⊢;have hcT:=λz(hz:z≠sb)o=>aF (hkT z hz) o
 let⟨s1,s2,s3,s4,s5⟩:=ae S9
 have ST:=ai ((hcT _ t3b _).trans s1) (ai (zh s2 (hkT _ t4b)) (ai ((hcT _ t5b _).trans s3) (ai ((hcT _ t5b _).trans s4) ((hcT _ t5b _).trans s5))));refine fh hK (by exact ST) λhS=>?_;have CT2:=ag CT;clear hK KK hwT hkT hcT C9 cc cf CT hg AY zT ST s1 s2 s3 s4 s5;refine cY ?_;clear hS hlS hlA;go_wp2;go_roundw;exact⟨k+1,_,_,af,by go_num,⟨CT2,OT⟩,gT⟩;exact cg};exact eh
  skip)}
 {
 have bL:=dB k nk;have Cu:k=nk:=af;subst Cu
 let⟨hC,hO⟩:=ae jq
 rw[lD (ae ENK▸iD _)]at hO
 let⟨w2,ew2⟩:=aB wr
 subst ew2;have R2:=ag (R1.grown af (ae Am) bq);obtain⟨pS,cS,evS,-⟩:=id hO.read
 let⟨lS,hlS⟩:=aB ss.length
 rw[<-hlS]at evS;subst evS;have HLS:=ag hlS
 let⟨rdS,A1,lvS,apS⟩:=hO.se
 have HA1:=ag λa ha=>apS.tf.lt (a:=a) ha;have OS:=ag (ai rdS (ai lvS apS));clear rdS lvS apS;have CS:=ag hC;have z12:=Am.size;obtain⟨hHd,-,at2⟩:=ae HS _ BB
 let⟨DN,nN,oN,hnN,mN⟩:=id at2.own
 have k5:w2.cell? (Ad b 5)=some (.map (some bn)):=ao hHd 5;have MN:=ag mN;clear hO hC hlS hHd mN jq hk bf bL R1 C1 HKV Am;go_wp2_with fail;refine(T.kH bn nN DN _ oN (fu oN.size_le hnN)).mono ?_;rintro r w3⟨kv,ks,rfl,Tv,Oh,br⟩;obtain rfl:=xQ at2 hn MN Tv;obtain⟨pk2,ck2,rfl,Hr⟩:=Mo Oh
 let⟨nk2,bm7⟩:=aB ns.length
 rw[<-bm7];have ca2:=ag bm7;have di3:nk2<=1048576:=af;have HKN:=ag Hr;have b3:=aj BB br;have z3:=br.size;have C3:=ag (CS.below af br);have R3:=ag (R2.below af br);have kS3:∀a∈A1,w3.heap[a.b]?=w2.heap[a.b]?:=λa ha=>br.block _ (ae HA1 a ha);have O3:=ag (ai (OS.1.dw OS.2.1 kS3) (ai (uj.keep OS.2.1 kS3) (OS.2.2.keep kS3)));clear Hr Oh Tv br k5 at2 oN bm7 CS R2 OS BB kS3;go_wp2_with fail
 go_loopw[56](λiv wr=>∃(k:Nat)(Sv:Value)(Ls:List (List Lf)),k<=nk2/\iv=.I k/\Hid (ar wr sb [.U e,.U g,.U x,.I t,.S pS lS cS,Sv]/\OwnT iA 133 8 w3.heap.size wr Sv (ns.take k) Ls)/\Hid (w3.grownBy wr (some sb))) (λiv _=>nk2-(intOf iv).toNat)
 exact⟨0,_,[],gr _,rfl,⟨C3,OwnT.nil _ _ _ _ _⟩,qi⟩;{
 obtain⟨k,Sv,Ls,hk,rfl,jq,Am⟩:=hrel;have BB:=tF b3 Am af;by_cases bf:k<nk2;{
 have bL:=aU k nk2;have dT:k<ns.length:=ae ca2▸bf
 let⟨nd,hy⟩:=lE dT
 obtain⟨hH,-,hNo⟩:=ae HS _ BB
 let⟨gs,ZU,iV⟩:=Hl hNo hy
 let⟨Vb,hb,ub,hkn⟩:=hNo.blk k _ gs hy ZU
 let⟨Tm,KT,Oo,Rp,hl5,hl6,hl7⟩:=ae hln _ (aT hy)
 obtain⟨gk,rfl,hck⟩:∃gk,pk2=some (Ad gk 0)/\wr.cell? (Ad gk k)=some (.string (aP nd.path)):=by rcases ae HKN with h0|⟨gk,rfl,h1,h2,h3⟩;{rw[h0]at dT;simp at dT};{exact⟨gk,rfl,(aF (Am.block gk h2 bq) _).trans (by have:=h3 k nd hy;rwa [ly]at this)⟩}
 have HY:=ag hy
 let⟨hC,hO⟩:=ae jq
 have kb4:wr.cell? (Ad b 5)=some (.map (some bn)):=ao hH 5
 let⟨D',n',oD',ZQ,mD'⟩:=hNo.own
 have HLK:=ag (ai mD' (ai iV KT));have hLW:b<w.heap.size/\bn<w.heap.size/\gs<w.heap.size:=ae HLN k _ gs hy ZU;have hLT:b<w3.heap.size/\bn<w3.heap.size/\gs<w3.heap.size:=aI b3.size;have HLT:=ag hLT;have t3b:b≠sb:=af;have t4b:bn≠sb:=af;have t5b:gs≠sb:=af
 let⟨vA,je⟩:=aB wr.drew
 have gL:=mX je;have SXA:=ag (ai (ah kb4 gL) (oD'.kept (aC gL none) al));have RQ:=ag (hkn.below gL);have OA:=ag (hO.below iA.keep gL);have CXA:=ag (hC.below (aI Am.size) gL);have gA:Hid (w3.grownBy vA (some sb)):=iY Am (aC gL none) (λb e=>by cases e);have BXA:=ag (cQ vA.heap.size vA);have zxA:sb<vA.heap.size:=aI gA.size;clear dT ZU hLT hLW;go_wp2_with fail;clear hck;refine du (λw'=>w'.cell? (Ad b 5)=some (.map (some bn))/\w'.ownsMap prog 9 aZ bn n' D') (je▸ae SXA) λhS=>?_;rw[<-je]at hS⊢;clear je gL hkn iV oD' mD' hC hO kb4 hH hNo;refine lG 0 2 3 4 hS ?_;refine jR 5 6 hS ?_;refine xh (i:=7) (oi:=_) (v:=?_) (by simp only[xU,BM,BK];rfl) bg bg bg (λ_ _ _ h=>h) (Or.inl ⟨aJ,?_⟩) hS ?_;rotate_left;{(intro w' xx;(try dsimp only at xx);(have hlk:=QT xx.2 HLK.1 HLK.2.1 HLK.2.2);go_simp;try with_reducible rfl)}
 simp only[Act.put,xa,xb,xc];refine tn 8 hS ?_;refine ry [1,9] (cn (λKK hK=>?_) (cn (λKK hK=>?_) eh));have cl:=CXA.1 5 _ rfl;go_simp;refine fh hK (by exact SXA) λhS=>?_;clear hK KK cl;refine ry [9] (cn (λKK hK=>?_) eh)
 all_goals(
  refine vU (ah4 (RQ.below BXA) hl6 hl7 KT Oo Rp hl5 Tm) ?_;rintro r v1⟨cn,Ae,rfl,eln,Lk,aG⟩
  let⟨q0,q1,q2,q3,q4,q5,q6,q7,ecn,one⟩:=eln.cells
  subst ecn;refine⟨_,rfl,?_⟩;have HE1:=ag (ai eln (ai one (Lk.mono (B':=vA.heap.size) BXA.size)))
  let⟨s1,s2⟩:=ae SXA
  have SX1:=ag (ai (ah s1 aG) (s2.kept (aC aG none) al));have CX1:=ag (CXA.below af aG);have AR:=ag (aj BXA aG);have zx1:vA.heap.size<=v1.heap.size:=AR.size;clear s1 s2;refine fh hK (by exact SX1) λhS=>?_;clear hK KK aG eln Lk one
  skip)
 refine ry [10] (cn (λKK hK=>?_) eh);rotate_left;refine ry [1,10] (cn (λKK hK=>?_) (cn (λKK hK=>?_) eh));have cl:=CX1.1 5 _ rfl;go_simp;refine fh hK (by exact SX1) λhS=>?_;clear hK KK cl;refine ry [10] (cn (λKK hK=>?_) eh)
 all_goals(
  go_simp
  let⟨v2,Xh⟩:=aB (v1.alloc (.cells #[q0,q1,q2,q3,q4,q5,q6,q7] 133))
  have aK:=dX Xh;have DB:∀j u,([q0,q1,q2,q3,q4,q5,q6,q7]:List Value)[j]?=some u->v2.cell? (Ad v1.heap.size j)=some u:=λj u hu=>by rw[Xh];exact(ar.alloc v1 #[q0,q1,q2,q3,q4,q5,q6,q7] 133).1 j u (by simpa using hu)
  rw[<-Xh]
  let⟨gE,hgE⟩:=aB v1.heap.size
  rw[<-hgE]at DB⊢
  let⟨eln,one,Lk⟩:=ae HE1
  have kE:∀a∈Ae,v2.heap[a.b]?=v1.heap[a.b]?:=λa ha=>aK.block _ (Lk.tf.lt ha);have EL2:Hid (iA v2 nd [q0,q1,q2,q3,q4,q5,q6,q7] Ae/\jE vA.heap.size v2 Ae):=⟨iA.keep _ _ _ _ _ eln kE,Lk.keep kE⟩;have ONE:=ag one;have uq:=ag DB
  let⟨s1,s2⟩:=ae SX1
  have SX2:=ag (ai (ah s1 aK) (s2.kept (aC aK none) al));have CX2:=ag (CX1.below af aK);have BX2:=ag (aj AR aK);have zx2:vA.heap.size<=v2.heap.size:=BX2.size;clear s1 s2;refine fh hK (by exact SX2) λhS=>?_;clear hK KK Xh aK DB hgE eln Lk kE one
  skip)
 rotate_left;refine ry [1] (cn (λKK hK=>?_) eh);have cl:=CX2.1 5 _ rfl;go_simp;refine fh hK (by exact SX2) λhS=>?_;clear hK KK cl
 all_goals(
  have OC:=OA.below iA.keep BX2
  let⟨elC,apC⟩:=ae EL2
  let⟨cs,g1,g2,g3,g4,g5,g6,g7⟩:=id OC
  have hlA:=OA.lt;have hle:(ns.take k).length<=1048576:=by rw[pT];omega
  have zA1:=gA.size;have zA:w3.heap.size<=v2.heap.size:=af;refine ry [11] ?_;refine cn (λKK hK=>?_) ?_;{
 refine kF aJ aJ io 8 underlying39 hio oz0 oz1 oz2 rfl bj aJ g4 1 1 [q0,q1,q2,q3,q4,q5,q6,q7] aJ rfl uq ONE iB af zA ?_;intro v' w9 fo hg qz;have sn:=OwnT.snoc g1 g2 g3 g5 g6 g7 iA.keep elC rfl apC zA1 (λa ha=>(hlA.2 a ha).2) (λb hb=>(hlA.1 b hb).2) fo hg qz;rw[<-rP (ae HY)]at sn;obtain⟨pN,cN,evN,-⟩:=id sn.read
 let⟨lN,hlN⟩:=aB ((ns.take (k+1)).length)
 rw[<-hlN]at evN;subst evN;clear hlN;have Jq:∀z,z<w3.heap.size->some z≠Sv.ownBlock:=λz hz e=>by have:=(hlA.1 z e.symm).1;omega
 have AY:w3.grownBy w9 (some sb):=iY (iY gA (aC BX2 none) (λb e=>by cases e)) hg (λb e=>.inl (hlA.1 b e).1);have C9:=CX2.grown af hg (Jq sb af)
 let⟨t1,t2,t3⟩:=ae HLT
 let⟨s1,s2⟩:=ae SX2
 have S9:=ag (ai (hg.cell s1 (Jq (b) t1)) (s2.kept hg (Jq (bn) t2)));refine fh hK (by exact S9) λhS=>?_;have SN:=ag sn;have cc:=C9.1 5 _ rfl;have cf:=C9.2;have hlS:=sn.lt;clear hK KK sn fo qz g1 g2 g3 g4 g5 g6 g7 elC apC OC s1 s2;refine tn 12 hS ?_;refine cX 13 λKK hK=>?_;go_simp
 let⟨wT,hwT⟩:=aB (w9.setCell (Ad sb 5) (.S pN lN cN))
 have CT:=C9.dH 5 al (.S pN lN cN);have hkT:∀z,z≠sb->wT.heap[z]?=w9.heap[z]?:=λz hz=>by rw[hwT];exact ga _ _ _ _ hz
 have gT:Hid (w3.grownBy wT (some sb)):=by show World.grownBy _ _ _;rw[hwT];exact gC AY (aH _ _ _)
 have zT:w9.heap.size<=wT.heap.size:=by rw[hwT];simp
 have OT:Hid (OwnT iA 133 8 w3.heap.size wT (.S pN lN cN) (ns.take (k+1)) (Ls++[Ae])):=SN.keep (iA.keep _ _) zT (λz hz=>hkT z (aI (hlS.1 z hz).1)) (λy hy=>hkT _ (aI (hlS.2 y hy).1));rw[<-hwT]at CT⊢;have hcT:=λz(hz:z≠sb)o=>aF (hkT z hz) o
 let⟨s1,s2⟩:=ae S9
 have ST:=ai ((hcT _ t3b _).trans s1) (zh s2 (hkT _ t4b));refine fh hK (by exact ST) λhS=>?_;have CT2:=ag CT;clear hK KK hwT hkT hcT C9 cc cf CT hg AY zT ST s1 s2;refine cY ?_;clear hS hlS hlA;go_wp2;go_roundw;exact⟨k+1,_,_,af,by go_num,⟨CT2,OT⟩,gT⟩;exact cg};exact eh
  skip)}
 {
 have bL:=dB k nk2;have Cu:k=nk2:=af;subst Cu
 let⟨hC,hO⟩:=ae jq
 rw[lD (ae ca2▸iD _)]at hO;obtain⟨pN,cN,evN,-⟩:=id hO.read
 let⟨lN,hlN⟩:=aB ns.length
 rw[<-hlN]at evN;subst evN
 let⟨rdN,A2,lvN,apN⟩:=hO.no
 let⟨rdS,lvS,apS⟩:=ae O3
 have R4:=R3.grown af (ae Am) bq;have c0:=hC.1 0 _ rfl;have c1:=hC.1 1 _ rfl;have c2:=hC.1 2 _ rfl;have c3:=hC.1 3 _ rfl;have c4:=hC.1 4 _ rfl;have c5:=hC.1 5 _ rfl;have r0:=R4.1 0 _ rfl;have r1:=R4.1 1 _ rfl;have r2:=R4.1 2 _ rfl;have r3:=R4.1 3 _ rfl;have r4:=R4.1 4 _ rfl;have r5:=R4.1 5 _ rfl;have rf:=R4.2;have hns:¬w.heap.size=sb:=af;have hsn:¬sb=w.heap.size:=af;have FIN:=ag (ai rdN (ai lvN apN));have FIS:=ag (ai rdS (ai lvS apS));have cW4:=ag hlN;have z3r:=Am.size;clear rdN lvN apN rdS lvS apS hO hC R4 jq hlN;go_wp2
 let⟨rdN,lvN,apN⟩:=ae FIN
 let⟨rdS,lvS,apS⟩:=ae FIS
 let⟨Z,hZ⟩:=aB ((((((wr.setCell (Ad w.heap.size 0) (.U e)).setCell (Ad w.heap.size 1) (.U g)).setCell (Ad w.heap.size 2) (.U x)).setCell (Ad w.heap.size 3) (.I t)).setCell (Ad w.heap.size 4) (.S pS lS cS)).setCell (Ad w.heap.size 5) (.S pN lN cN))
 have hkZ:∀z,z≠w.heap.size->Z.heap[z]?=wr.heap[z]?:=λz hz=>by
  rw[hZ]
  iterate 6 rw[ga _ _ _ _ hz]
 have k1:∀a∈A1,Z.heap[a.b]?=w3.heap[a.b]?:=λa ha=>by have h1:=ae HA1 a ha;have h2:=apS.lo a ha;rw[hkZ _ af];exact Am.block _ af bq
 have k2:∀a∈A2,Z.heap[a.b]?=wr.heap[a.b]?:=λa ha=>by have h2:=apN.lo a ha;exact hkZ _ (aI b3.size)
 have hbZ:Bw w Z:=by rw[hZ];exact(((((BB.setCell ay _).setCell ay _).setCell ay _).setCell ay _).setCell ay _).setCell ay _
 have eS:=ae HLS;have eN:=ae cW4;refine dJ (v:=dZ e g x t (.S pS lS cS) (.S pN lN cN)) (by simp[results,results53,go_sem,r0,r1,r2,r3,r4,r5,c0,c1,c2,c3,c4,c5]) rfl ?_;rw[<-hZ];subst eS eN;refine⟨pS,cS,pN,cN,rfl,rdS.dw lvS k1,rdN.dw lvN k2,A1,uj.keep lvS k1,A2,vQ.keep lvN k2,?_,hbZ⟩;exact((apS.keep k1).app (apN.keep k2) af (λa ha=>aI (ae HA1 a ha))).mono af}}}}
def WB{α:Type}{R:α->α->Prop}{l:List α}(h:∀(i j:Nat)(a b:α),l[i]?=some a->l[j]?=some b->i<j->R a b):l.Pairwise R:=by
 rw[Jf];intro i j hi hj ld;exact h i j _ _ (aY hi) (aY hj) ld
def aH0(h:lW x ss=true):ss.Pairwise (λs s'=>s.1<s'.1):=by
 refine WB λi j s s' hi hj ld=>?_;rw[lW,fk]at h;have:=AF h.2 (λi j k h1 h2=>by simp at h1 h2⊢;omega) j i (aV.1 hj).1 ld;simpa only[gj,hi,hj,sa,jj]using this
def aI9(h:kO e g ns=true):(ns.map λnd=>rD nd.path).Pairwise (·<·):=by
 rw[Ef];refine WB λi j s s' hi hj ld=>?_;rw[kO,fk]at h;have:=AF h.2 (λi j k h1 h2=>nY.2 (AE (nY.1 h1) (nY.1 h2))) j i (aV.1 hj).1 ld;simp only[gj,hi,hj,sa]at this;rw[nY,T.oI,jj,fE,fE]at this;exact this
variable {l:LI}
def Iu(h:SC l=true):l.Pairwise (·<·):=by
 refine WB λi j s s' hi hj ld=>?_;rw[SC]at h;have:=AF h (λi j k h1 h2=>by simp at h1 h2⊢;omega) j i (aV.1 hj).1 ld;simpa only[gj,hi,hj,sa,jj]using this
def Qd(h:kO e g ns=true):∀nd∈ns,nd.holders.Pairwise (·<·)/\nd.watchers.Pairwise (·<·):=by
 intro nd bu;rw[kO,fk]at h;have h1:∀y∈ns,vV e g y=true:=(mB ns fU (vV e g)).1 λi hi=>jw.1 h.1 i (Cc.2 hi);have:=h1 nd bu;simp only[vV,fk]at this;exact⟨Iu this.2.2.2.1,Iu this.2.2.2.2⟩
structure yB(ss:List aQ)(ns:List aD):Prop where
 s1:ss.Pairwise (λs s'=>s.1<s'.1)
 n1:(ns.map λnd=>rD nd.path).Pairwise (·<·)
 s2:∀s∈ss,(0<=s.1/\s.1<2^64)/\s.2.2.length<=1048576/\∀e∈s.2.2,e.2.length<=1048576
 n2:∀nd∈ns,aN nd.path/\nd.path.length<=1048576/\nd.value.length<=1048576/\nd.holders.length<=1048576/\nd.watchers.length<=1048576/\nd.holders.Pairwise (·<·)/\nd.watchers.Pairwise (·<·)
 s3:∀(i j:Nat)(s s':aQ),ss[i]?=some s->ss[j]?=some s'->i<j->s.1≠s'.1
 n3:∀(i j:Nat)(z z':aD),ns[i]?=some z->ns[j]?=some z'->i<j->z.path≠z'.path
def Av(h:kG e g x t ss ns=true)(qg:∀s∈ss,s.2.2.length<=1048576/\∀e∈s.2.2,aN e.2/\e.2.length<=1048576)(gh:∀nd∈ns,aN nd.path/\nd.path.length<=1048576/\nd.value.length<=1048576/\nd.holders.length<=1048576/\nd.watchers.length<=1048576):yB ss ns:=by
 let⟨h1,h2,h3,h4,h5⟩:=(FL e g x t ss ns).1 h
 have hx:x<=2^62:=by simp only[Dp,jj]at h1;exact h1.2.2.1
 refine⟨aH0 h2,aI9 h3,λs hs=>⟨Ma h2 hx s hs,(qg s hs).1,λe he=>((qg s hs).2 e he).2⟩,λnd bu=>?_,J1 h2,Ke h3⟩
 let⟨a,b,c,d,f⟩:=gh nd bu
 exact⟨a,b,c,d,f,(Qd h3 nd bu).1,(Qd h3 nd bu).2⟩
def bc9{SB NB HB UB:List Nat}(h:mE w0 w b bs bn e g x t ss ns SB NB HB UB)(hb:Bw w0 w)(l1:Mg ss.length)(l2:Mg ns.length):Sto w b bs bn e g x t ss ns SB NB:=by
 refine⟨h.hd,⟨h.Ut.len,?_,λi s gb hs hg=>?_⟩,⟨h.qw.len,?_,λi nd gb hs hg=>?_⟩⟩;{
 let⟨D,o,m⟩:=h.Ut.own
 exact⟨D,_,o,l1,m⟩};{obtain⟨-,u,q1,q2⟩:=h.Ut.blk i s gb hs hg;exact⟨u,q1,q2.below hb⟩};{
 let⟨D,o,m⟩:=h.qw.own
 exact⟨D,_,o,l2,m⟩};{have hi:=(aV.1 hs).1;obtain⟨hh,nH⟩:∃y,HB[i]?=some y:=⟨_,aY (h.qw.Q0▸hi)⟩;obtain⟨uu,nM⟩:∃y,UB[i]?=some y:=⟨_,aY (h.qw.QY▸hi)⟩;obtain⟨-,-,-,⟨V,q1,q2⟩,q3,q4⟩:=h.qw.blk i nd gb hh uu hs hg nH nM;exact⟨V,hh,uu,q1,q2.below hb,q3,q4⟩}
def AB(w0 w:World)(v:Value)(l:LI):Prop:=Rd w0 v l\/TB w v l
def AB.rd(h:AB w0 w v l)(be:Bw w0 w):Rd w v l:=by
 rcases h with h|h;{exact h.below be};{exact h.1}
def AB.fr{T:List TypeId}(h:AB w0 w v l)(hf:Fr T w w')(ht:5∉T:=by decide):AB w0 w' v l:=by
 rcases h with h|h;{exact .inl h};{exact .inr (h.fr hf ht)}
def AQ(w0 w:World)(u:Value)(es:List Ev):Prop:=
 ∃(p:OA)(c:Nat),u=.S p es.length c/\(es=[]\/∃b o,p=some (Ad b o)/\(b<w0.heap.size\/∃cur m,w.heap[b]?=some (.cells cur 189 m))/\∀i e,es[i]?=some e->w.cell? (Ad b (o+i*2))=some (.I e.1)/\∃u,w.cell? (Ad b (o+i*2+1))=some u/\AB w0 w u e.2/\nR u)
def AQ.rdc(h:AQ w0 w u es)(be:Bw w0 w):qG w u es:=by
 obtain⟨p,c,rfl,h⟩:=h;refine⟨p,c,rfl,?_⟩;rcases h with h|⟨b,o,rfl,-,h⟩;{exact .inl h};{
 refine .inr ⟨b,o,rfl,λi e he=>?_⟩
 let⟨h1,u,h2,h3,h4⟩:=h i e he
 exact⟨h1,u,h2,h3.rd be,h4⟩}
def AQ.of(h:qG w0 u es)(be:Bw w0 w):AQ w0 w u es:=by
 obtain⟨p,c,rfl,h⟩:=h;refine⟨p,c,rfl,?_⟩;rcases h with h|⟨b,o,rfl,h⟩;{exact .inl h};{
 by_cases h0:es=[];{exact .inl h0};{
 obtain⟨e0,he0⟩:∃e0,es[0]?=some e0:=⟨_,aY (WR.2 h0)⟩;refine .inr ⟨b,o,rfl,.inl (nZ w0 _ (h 0 e0 he0).1),λi e he=>?_⟩
 let⟨h1,u,h2,h3,h4⟩:=h i e he
 exact⟨ah h1 be,u,ah h2 be,.inl h3,h4⟩}}
def AQ.fr{T:List TypeId}(h:AQ w0 w u es)(hb:Below w0.heap.size w w')(hf:Fr T w w')(ht:5∉T/\189∉T:=by decide):AQ w0 w' u es:=by
 obtain⟨p,c,rfl,h⟩:=h;refine⟨p,c,rfl,?_⟩;rcases h with h|⟨b,o,rfl,hd,h⟩;{exact .inl h};{
 have hk:w'.heap[b]?=w.heap[b]?:=by rcases hd with hd|⟨cur,m,hd⟩;{exact hb.block b hd};{exact(hf.2 _ _ _ _ ht.2 hd).trans hd.symm}
 refine .inr ⟨b,o,rfl,hd.imp id (λ⟨cur,m,hd⟩=>⟨cur,m,hk.trans hd⟩),λi e he=>?_⟩
 let⟨h1,u,h2,h3,h4⟩:=h i e he
 exact⟨(aF hk _).trans h1,u,(aF hk _).trans h2,h3.fr hf ht.1,h4⟩}
def AQ.nil(w0 w:World):AQ w0 w aq []:=⟨none,0,rfl,.inl rfl⟩
def dY{R:Value->Option (DataW Unit×List MemPlace)}(h:w.ownsMap prog k R b n D):w.ownsMap prog k R b (Maps.size D) D:=by
 obtain⟨es,clock,hb,F,hs,rfl⟩:=h;refine⟨es,clock,hb,F,?_,rfl⟩;rw[Maps.size_eq,length_sorted];simp
def nW{R:Value->Option (DataW Unit×List MemPlace)}(h:w.ownsMap prog k R b n D)(K:Keyed prog k):Tidy D:=by
 obtain⟨es,e,hp,-⟩:=h.entries K;exact⟨es,e,hp⟩
def sJ{R:Value->Option (DataW Unit×List MemPlace)}(h:w.ownsMap prog k R b n D)(K:Keyed prog k)(hn:L.Nodup)(hh:∀x,Maps.has D x=true↔x∈L):Maps.size D=L.length:=by
 obtain⟨es,rfl,hp,hk⟩:=h.entries K;rw[Maps.size_eq,<-fN (f:=Prod.fst)];refine List.Perm.length_eq ((List.perm_ext_iff_of_nodup (Ef.2 hp) hn).2 λx=>?_);rw[<-hh x,Maps.has_eq,Kt,iR];constructor;{rintro⟨p,hp1,rfl⟩;exact⟨p,hp1,WL (hk p hp1)⟩};{rintro⟨p,hp1,hs⟩;refine⟨p,hp1,aV4 λbS=>?_⟩;rw[sameKey_ne bS]at hs;cases hs}
def SM(w:World)(h:Nat)(s:LI):Prop:=∃D n,w.ownsMap prog 27 unitElem h n D/\n<=2097152/\dL D s/\Maps.size D=s.length
structure PN(w0 w:World)(g h u:Nat)(nd:aD):Prop where
 lo:w0.heap.size<=g/\w0.heap.size<=h/\w0.heap.size<=u
 blk:∃V,w.heap[g]?=some (.cells #[V,.U nd.owner,.I nd.mode,.map (some h),.U nd.aE,.U nd.gen,.map (some u)] 162)/\AB w0 w V nd.value
 Xp:SM w h nd.holders
 TF:SM w u nd.watchers
def PE(w0 w:World)(g:Nat)(s:aQ):Prop:=w0.heap.size<=g/\∃u,w.heap[g]?=some (.cells #[.U s.1,.I s.2.1,u] 132)/\AQ w0 w u s.2.2
structure PS(w0 w:World)(b bs bn:Nat)(D:SD)(SB NB HB UB:List Nat):Prop where
 be:Bw w0 w
 hd:w.heap[b]?=some (.cells #[.U D.e,.U D.g,.U D.x,.I D.t,.map (some bs),.map (some bn)] 157)
 tR:SB.length=D.ss.length
 sG:∃M n,w.ownsMap prog 27 aZ bs n M/\n<=1048576/\gK M (List.zipWith (λ(s:aQ)g=>(Lit.U s.1,g)) D.ss SB)/\Maps.size M=D.ss.length
 vT:∀(i:Nat)(s:aQ)(g:Nat),D.ss[i]?=some s->SB[i]?=some g->PE w0 w g s
 snd:SB.Nodup
 tT:NB.length=D.ns.length
 hlen:HB.length=D.ns.length
 uw:UB.length=D.ns.length
 lY:∃M n,w.ownsMap prog 9 aZ bn n M/\n<=1048576/\gK M (List.zipWith (λ(nd:aD)g=>(cL nd.path,g)) D.ns NB)/\Maps.size M=D.ns.length
 nw:∀(i:Nat)(nd:aD)(g h u:Nat),D.ns[i]?=some nd->NB[i]?=some g->HB[i]?=some h->UB[i]?=some u->PN w0 w g h u nd
 nnd:NB.Nodup
 lo:w0.heap.size<=b/\w0.heap.size<=bs/\w0.heap.size<=bn
 Ny:(bs::bn::(HB++UB)).Nodup
def SM.of(o:w.ownsMap prog 27 unitElem h n D)(hn:n<=2097152)(hs:dL D s)(hd:s.Nodup):SM w h s:=by
 refine⟨D,n,o,hn,hs,?_⟩;have hl:(s.map λi:Int=>Lit.U i).length=s.length:=fN _;rw[<-hl];refine sJ o jI (Ef.2 (hd.imp λbS e=>bS (by simpa using e))) λx=>?_;rw[hs x,iR];constructor;{rintro⟨i,hi,rfl⟩;exact⟨i,hi,rfl⟩};{rintro⟨i,hi,rfl⟩;exact⟨i,hi,rfl⟩}
def SM.kept(k:SM w h s)(hk:w'.heap[h]?=w.heap[h]?):SM w' h s:=by
 obtain⟨D,n,o,h1,h2,h3⟩:=k;exact⟨D,n,uG o (λes c hh=>hk.trans hh),h1,h2,h3⟩
def qM(h:s.Pairwise (·<·)):s.Nodup:=h.imp λhl e=>by omega
def PS.of{SB NB HB UB:List Nat}(h:mE w0 w b bs bn e g x t ss ns SB NB HB UB)(be:Bw w0 w)(hF:yB ss ns)(ls:Mg ss.length)(ln:Mg ns.length):PS w0 w b bs bn ⟨e,g,x,t,ss,ns⟩ SB NB HB UB:=by
 refine⟨be,h.hd,h.Ut.len,?_,λi s gb hs hg=>?_,h.Ut.qw,h.qw.len,h.qw.Q0,h.qw.QY,?_,λi nd gb hh uu hs hg h1 h2=>?_,h.qw.qw,h.lo,h.Ny⟩;{
 let⟨D,o,m⟩:=h.Ut.own
 refine⟨D,_,o,ls,m,?_⟩;have hl:(ss.map λs=>Lit.U s.1).length=ss.length:=fN _;rw[<-hl];refine sJ o jI (Ef.2 (hF.s1.imp λbf e=>by simp at e;omega)) λk=>?_;rw[m.hs k,iR];constructor;{rintro⟨p,hp,rfl⟩;obtain⟨i,s,y,h1,-,rfl⟩:=il hp;exact⟨s,aT h1,rfl⟩};{
 rintro⟨s,hs,rfl⟩
 let⟨i,hi⟩:=gH.1 hs
 obtain⟨y,hy⟩:∃y,SB[i]?=some y:=⟨_,aY (h.Ut.len▸(aV.1 hi).1)⟩;exact⟨_,aT (i:=i) (by rw[oe,hi,hy]),rfl⟩}};{
 let⟨q0,u,q1,q2⟩:=h.Ut.blk i s gb hs hg
 exact⟨q0,u,q1,AQ.of q2 be⟩};{
 let⟨D,o,m⟩:=h.qw.own
 refine⟨D,_,o,ln,m,?_⟩;have hl:(ns.map λnd=>cL nd.path).length=ns.length:=fN _;rw[<-hl];refine sJ o ox (Ef.2 (WB λi j a c ha hc ld e=>hF.n3 i j a c ha hc ld (mO (hF.n2 a (aT ha)).1 (hF.n2 c (aT hc)).1 e))) λk=>?_;rw[m.hs k,iR];constructor;{rintro⟨p,hp,rfl⟩;obtain⟨i,s,y,h1,-,rfl⟩:=il hp;exact⟨s,aT h1,rfl⟩};{
 rintro⟨s,hs,rfl⟩
 let⟨i,hi⟩:=gH.1 hs
 obtain⟨y,hy⟩:∃y,NB[i]?=some y:=⟨_,aY (h.qw.len▸(aV.1 hi).1)⟩;exact⟨_,aT (i:=i) (by rw[oe,hi,hy]),rfl⟩}};{
 let⟨q0,q1,q2,⟨V,q3,q4⟩,⟨D1,o1,m1⟩,⟨D2,o2,m2⟩⟩:=h.qw.blk i nd gb hh uu hs hg h1 h2
 obtain⟨-,-,-,l1,l2,n1,n2⟩:=hF.n2 nd (aT hs);exact⟨⟨q0,q1,q2⟩,⟨V,q3,.inl q4⟩,SM.of o1 af m1 (qM n1),SM.of o2 af m2 (qM n2)⟩}
def PS.sto{D:SD}{SB NB HB UB:List Nat}(h:PS w0 w b bs bn D SB NB HB UB):Sto w b bs bn D.e D.g D.x D.t D.ss D.ns SB NB:=by
 refine⟨h.hd,⟨h.tR,?_,λi s gb hs hg=>?_⟩,⟨h.tT,?_,λi nd gb hs hg=>?_⟩⟩;{obtain⟨M,n,o,hn,m,-⟩:=h.sG;exact⟨M,n,o,hn,m⟩};{obtain⟨-,u,q1,q2⟩:=h.vT i s gb hs hg;exact⟨u,q1,q2.rdc h.be⟩};{obtain⟨M,n,o,hn,m,-⟩:=h.lY;exact⟨M,n,o,hn,m⟩};{have hi:=(aV.1 hs).1;obtain⟨hh,nH⟩:∃y,HB[i]?=some y:=⟨_,aY (h.hlen▸hi)⟩;obtain⟨uu,nM⟩:∃y,UB[i]?=some y:=⟨_,aY (h.uw▸hi)⟩;obtain⟨-,⟨V,q1,q2⟩,⟨D1,n1,o1,-,s1,z1⟩,⟨D2,n2,o2,-,s2,z2⟩⟩:=h.nw i nd gb hh uu hs hg nH nM;exact⟨V,hh,uu,q1,q2.rd h.be,⟨D1,z1▸dY o1,s1⟩,⟨D2,z2▸dY o2,s2⟩⟩}
structure One(w0 w w':World)(g:Nat):Prop where
 b:Below w0.heap.size w w'
 k:∀z,z<w.heap.size->z≠g->w'.heap[z]?=w.heap[z]?
 t:∀cur ty m,w.heap[g]?=some (.cells cur ty m)->ty∈[132,162,157]
variable {g:Nat}
def One.fr(h:One w0 w w' g):Fr [132,162,157] w w':=by
 refine⟨h.b.size,λb cur ty m hn hb=>?_⟩;by_cases e:b=g;{subst e;exact absurd (h.t _ _ _ hb) hn};{exact(h.k b (aR hb) e).trans hb}
def One.obj{o:Obj}(h:One w0 w w' g)(hz:w.heap[z]?=some o)(bS:z≠g):w'.heap[z]?=some o:=(h.k z (aR hz) bS).trans hz
def ownsMap_at{R:Value->Option (DataW Unit×List MemPlace)}(h:w.ownsMap prog k R b n D):∃es c,w.heap[b]?=some (.map es c):=by
 obtain⟨es,c,h1,-⟩:=h;exact⟨es,c,h1⟩
def One.map{R:Value->Option (DataW Unit×List MemPlace)}(h:One w0 w w' g)(hz:w.ownsMap prog k R z n D)(bS:z≠g):w'.ownsMap prog k R z n D:=
 uG hz (λes c hh=>h.obj hh bS)
def SM.keep(k:SM w h s)(O:One w0 w w' g)(bS:h≠g):SM w' h s:=by
 obtain⟨D,n,o,h1,h2,h3⟩:=k;exact⟨D,n,O.map o bS,h1,h2,h3⟩
def SM.at(k:SM w h s):∃es c,w.heap[h]?=some (.map es c):=by
 obtain⟨D,n,o,-⟩:=k;exact ownsMap_at o
def PE.keep{s:aQ}(h:PE w0 w gb s)(O:One w0 w w' g)(bS:gb≠g):PE w0 w' gb s:=by
 obtain⟨h0,u,h1,h2⟩:=h;exact⟨h0,u,O.obj h1 bS,h2.fr O.b O.fr bj⟩
def PN.keep(h:PN w0 w gb hh uu nd)(O:One w0 w w' g)(h1:gb≠g)(h2:hh≠g)(h3:uu≠g):PN w0 w' gb hh uu nd:=by
 obtain⟨h0,⟨V,q1,q2⟩,q3,q4⟩:=h;exact⟨h0,⟨V,O.obj q1 h1,q2.fr O.fr⟩,q3.keep O h2,q4.keep O h3⟩
section
variable {w0 w w':World}{b bs bn:Nat}{D:SD}{SB NB HB UB:List Nat}
variable {nd:aD}{i:Nat}
def PS.nat(h:PS w0 w b bs bn D SB NB HB UB)(hi:D.ns[i]?=some nd):∃g hh uu,NB[i]?=some g/\HB[i]?=some hh/\UB[i]?=some uu/\PN w0 w g hh uu nd:=by
 have hl:=(aV.1 hi).1;obtain⟨g,hg⟩:∃y,NB[i]?=some y:=⟨_,aY (h.tT▸hl)⟩;obtain⟨hh,nH⟩:∃y,HB[i]?=some y:=⟨_,aY (h.hlen▸hl)⟩;obtain⟨uu,nM⟩:∃y,UB[i]?=some y:=⟨_,aY (h.uw▸hl)⟩;exact⟨g,hh,uu,hg,nH,nM,h.nw i nd g hh uu hi hg nH nM⟩
variable {s:aQ}
def PS.sat(h:PS w0 w b bs bn D SB NB HB UB)(hi:D.ss[i]?=some s):∃g,SB[i]?=some g/\PE w0 w g s:=by
 have hl:=(aV.1 hi).1;obtain⟨g,hg⟩:∃y,SB[i]?=some y:=⟨_,aY (h.tR▸hl)⟩;exact⟨g,hg,h.vT i s g hi hg⟩
variable {g:Nat}
def PS.bE5(h:PS w0 w b bs bn D SB NB HB UB)(hg:NB[i]?=some g):∃nd,D.ns[i]?=some nd:=⟨_,aY (h.tT▸(aV.1 hg).1)⟩
def PS.below(h:PS w0 w b bs bn D SB NB HB UB)(hb:Bw w w'):PS w0 w' b bs bn D SB NB HB UB:=by
 have O:One w0 w w' w.heap.size:=⟨hb.mono h.be.size,λz hz _=>hb.block z hz,λcur ty m hc=>absurd (aR hc) (Nat.lt_irrefl _)⟩;have hn:∀{z:Nat}{o:Obj},w.heap[z]?=some o->z≠w.heap.size:=λhz e=>aI (aR hz);refine⟨h.be.trans (hb.mono h.be.size),O.obj h.hd (hn h.hd),h.tR,?_,λi s g hs hg=>?_,h.snd,h.tT,h.hlen,h.uw,?_,λi nd g hh uu hs hg h1 h2=>?_,h.nnd,h.lo,h.Ny⟩;{
 let⟨M,n,o,r⟩:=h.sG
 let⟨es,c,hm⟩:=ownsMap_at o
 exact⟨M,n,O.map o (hn hm),r⟩};{have q:=h.vT i s g hs hg;obtain⟨-,u,h1,-⟩:=id q;exact q.keep O (hn h1)};{
 let⟨M,n,o,r⟩:=h.lY
 let⟨es,c,hm⟩:=ownsMap_at o
 exact⟨M,n,O.map o (hn hm),r⟩};{
 have q:=h.nw i nd g hh uu hs hg h1 h2;obtain⟨-,⟨V,q1,-⟩,q3,q4⟩:=id q
 let⟨es,c,m3⟩:=q3.at
 let⟨es',c',m4⟩:=q4.at
 exact q.keep O (hn q1) (hn m3) (hn m4)}
variable {l:List Nat}
def MV(hn:l.Nodup){j a c:Nat}(hi:l[i]?=some a)(hj:l[j]?=some c)(ld:i≠j):a≠c:=λe=>ld (Yp hn hi (e▸hj))
def PS.hu(h:PS w0 w b bs bn D SB NB HB UB):bs≠bn/\(∀z∈HB,z≠bs/\z≠bn)/\(∀z∈UB,z≠bs/\z≠bn)/\HB.Nodup/\UB.Nodup/\∀y∈HB,∀z∈UB,y≠z:=by
 have hd:=h.Ny;simp only[zG,jv,gu,Je]at hd;obtain⟨⟨d0,d1,d2⟩,⟨d3,d4⟩,d5⟩:=hd;rw[BN]at d5;exact⟨d0,λz hz=>⟨λe=>d1 (e▸hz),λe=>d3 (e▸hz)⟩,λz hz=>⟨λe=>d2 (e▸hz),λe=>d4 (e▸hz)⟩,d5.1,d5.2.1,λy hy z hz=>d5.2.2 y hy z hz⟩
def PS.rO(h:PS w0 w b bs bn D SB NB HB UB){s':aQ}(hs:D.ss[i]?=some s)(hg:SB[i]?=some g)(O:One w0 w w' g)(hid:s'.1=s.1)(hE:PE w0 w' g s'):PS w0 w' b bs bn {D with ss:=D.ss.set i s'} SB NB HB UB:=by
 obtain⟨g0,u0,gc,-⟩:=h.vT i s g hs hg;have KU:=(aV.1 hs).1;have nc:∀{z:Nat}{cs:Array Value}{ty:TypeId},w.heap[z]?=some (.cells cs ty)->ty≠132->z≠g:=λhz ht e=>by rw[e,gc]at hz;simp at hz;exact ht hz.2.symm
 have nm:∀{z:Nat}{es:Array MapEntry}{c:Nat},w.heap[z]?=some (.map es c)->z≠g:=λhz e=>by rw[e,gc]at hz;cases hz
 refine⟨h.be.trans O.b,O.obj h.hd (nc h.hd bj),by rw[pR];exact h.tR,?_,λj s1 g1 ik gp=>?_,h.snd,h.tT,h.hlen,h.uw,?_,λj nd gb hh uu ik gp h1 h2=>?_,h.nnd,h.lo,h.Ny⟩;{
 let⟨M,n,o,hn,m,hz⟩:=h.sG
 let⟨es,c,hm⟩:=ownsMap_at o
 refine⟨M,n,O.map o (nm hm),hn,?_,by simp only[pR];exact hz⟩;have e:List.zipWith (λ(s:aQ)g=>(Lit.U s.1,g)) (D.ss.set i s') SB=List.zipWith (λ(s:aQ)g=>(Lit.U s.1,g)) D.ss SB:=by refine QS λj=>?_;rw[oe,oe,vX];by_cases ej:i=j;{subst ej;rw[bO rfl,bO KU,hs,hg];simp[hid]};{simp[ej]}
 rw[e];exact m};{simp only[vX]at ik;by_cases ej:i=j;{subst ej;rw[hg]at gp;cases gp;simp[KU]at ik;subst ik;exact hE};{simp[ej]at ik;exact(h.vT j s1 g1 ik gp).keep O (MV h.snd gp hg (λe=>ej e.symm))}};{
 let⟨M,n,o,r⟩:=h.lY
 let⟨es,c,hm⟩:=ownsMap_at o
 exact⟨M,n,O.map o (nm hm),r⟩};{
 have q:=h.nw j nd gb hh uu ik gp h1 h2;obtain⟨-,⟨V,q1,-⟩,q3,q4⟩:=id q
 let⟨es,c,m3⟩:=q3.at
 let⟨es',c',m4⟩:=q4.at
 exact q.keep O (nc q1 bj) (nm m3) (nm m4)}
end
def gK.same{l l':List (Lit×Nat)}(h:gK D l)(hp:∀p,p∈l'↔p∈l):gK D l':=by
 refine⟨λk=>?_,λp h1 z=>h.at' p ((hp p).1 h1) z⟩;rw[h.hs k];exact⟨λ⟨p,h1,h2⟩=>⟨p,(hp p).2 h1,h2⟩,λ⟨p,h1,h2⟩=>⟨p,(hp p).1 h1,h2⟩⟩
def gK.del{l:List (Lit×Nat)}(h:gK D l){k:Lit}(hi:l[i]?=some (k,g))(hd:∀(j:Nat)(p:Lit×Nat),l[j]?=some p->p.1=k->j=i):gK (D.del k) (l.eraseIdx i):=by
 have iV:∀p,p∈l.eraseIdx i↔p∈l/\p.1≠k:=λp=>by
  rw[aV3];constructor;{rintro⟨j,hj,e⟩;exact⟨aT e,λe2=>hj (hd j p e e2)⟩};{
 rintro⟨hp,bS⟩
 let⟨j,hj⟩:=gH.1 hp
 refine⟨j,λe=>bS ?_,hj⟩;subst e;rw[hi]at hj;cases hj
 rfl}
 refine⟨λk'=>?_,λp hp z=>?_⟩;{by_cases e:k'=k;{subst e;rw[has_del_same];constructor;{intro hh;cases hh};{rintro⟨p,hp,e2⟩;exact absurd e2 ((iV p).1 hp).2}};{rw[has_del_other e,h.hs k'];constructor;{rintro⟨p,hp,rfl⟩;exact⟨p,(iV p).2 ⟨hp,e⟩,rfl⟩};{rintro⟨p,hp,rfl⟩;exact⟨p,((iV p).1 hp).1,rfl⟩}}};{
 let⟨h1,h2⟩:=(iV p).1 hp
 rw[atKey_del_other h2];exact h.at' p h1 z}
theorem A9{α β γ:Type}(f:α->β->γ):∀(l:List α)(m:List β)(i:Nat),l.length=m.length->List.zipWith f (l.eraseIdx i) (m.eraseIdx i)=(List.zipWith f l m).eraseIdx i
 |[],[],i,_=>al
 |a::l,c::m,0,_=>al
 |a::l,c::m,i+1,h=>by simp[A9 f l m i (by simpa using h)]
section
variable {w0 w w':World}{b bs bn:Nat}{D:SD}{SB NB HB UB:List Nat}
variable {nd:aD}{i:Nat}
def PS.ac5(h:PS w0 w b bs bn D SB NB HB UB){nd':aD}(hi:D.ns[i]?=some nd)(hg:NB[i]?=some g)(nH:HB[i]?=some hh)(nM:UB[i]?=some uu)(hz:z=g\/z=hh\/z=uu)(O:One w0 w w' z)(hp:nd'.path=nd.path)(hN:PN w0 w' g hh uu nd'):PS w0 w' b bs bn {D with ns:=D.ns.set i nd'} SB NB HB UB:=by
 obtain⟨-,⟨V0,gc,-⟩,q3,q4⟩:=h.nw i nd g hh uu hi hg nH nM
 let⟨es3,c3,m3⟩:=q3.at
 let⟨es4,c4,m4⟩:=q4.at
 let⟨d0,d1,d2,d3,d4,d5⟩:=h.hu
 have KU:=(aV.1 hi).1;have hhm:=aT nH;have hum:=aT nM;have nc:∀{y:Nat}{cs:Array Value}{ty:TypeId},w.heap[y]?=some (.cells cs ty)->(ty≠162\/y≠g)->y≠z:=λ{y cs ty}hy ht e=>by rcases hz with rfl|rfl|rfl;{rcases ht with ht|ht;{rw[e,gc]at hy;simp at hy;exact ht hy.2.symm};{exact ht e}};{rw[e,m3]at hy;cases hy};{rw[e,m4]at hy;cases hy}
 have nm:∀{y:Nat}{es:Array MapEntry}{c:Nat},w.heap[y]?=some (.map es c)->y≠hh->y≠uu->y≠z:=λ{y es c}hy h1 h2 e=>by rcases hz with rfl|rfl|rfl;{rw[e,gc]at hy;cases hy};{exact h1 e};{exact h2 e}
 refine⟨h.be.trans O.b,O.obj h.hd (nc h.hd (.inl bj)),h.tR,?_,λj s1 g1 ik gp=>?_,h.snd,by rw[pR];exact h.tT,by rw[pR];exact h.hlen,by rw[pR];exact h.uw,?_,λj lr gb h1 u1 ik gp yD sj=>?_,h.nnd,h.lo,h.Ny⟩;{
 let⟨M,n,o,r⟩:=h.sG
 let⟨es,c,hm⟩:=ownsMap_at o
 exact⟨M,n,O.map o (nm hm (λe=>(d1 _ hhm).1 e.symm) (λe=>(d2 _ hum).1 e.symm)),r⟩};{have q:=h.vT j s1 g1 ik gp;obtain⟨-,u,h1,-⟩:=id q;exact q.keep O (nc h1 (.inl bj))};{
 let⟨M,n,o,hn,m,hs⟩:=h.lY
 let⟨es,c,hm⟩:=ownsMap_at o
 refine⟨M,n,O.map o (nm hm (λe=>(d1 _ hhm).2 e.symm) (λe=>(d2 _ hum).2 e.symm)),hn,?_,by simp only[pR];exact hs⟩;have e:List.zipWith (λ(nd:aD)g=>(cL nd.path,g)) (D.ns.set i nd') NB=List.zipWith (λ(nd:aD)g=>(cL nd.path,g)) D.ns NB:=by refine QS λj=>?_;rw[oe,oe,vX];by_cases ej:i=j;{subst ej;rw[bO rfl,bO KU,hi,hg];simp[hp]};{simp[ej]}
 rw[e];exact m};{
 simp only[vX]at ik;by_cases ej:i=j;{subst ej;rw[hg]at gp;rw[nH]at yD;rw[nM]at sj;cases gp;cases yD;cases sj;simp[KU]at ik;subst ik;exact hN};{
 simp[ej]at ik;have q:=h.nw j lr gb h1 u1 ik gp yD sj;obtain⟨-,⟨V,q1,-⟩,p3,p4⟩:=id q
 let⟨es,c,m5⟩:=p3.at
 let⟨es',c',m6⟩:=p4.at
 have ej':¬j=i:=λe=>ej e.symm;exact q.keep O (nc q1 (.inr (MV h.nnd gp hg ej'))) (nm m5 (MV d3 yD nH ej') (d5 _ (aT yD) _ hum)) (nm m6 (λe=>d5 _ hhm _ (aT sj) e.symm) (MV d4 sj nM ej'))}}
def PS.ac6(h:PS w0 w b bs bn D SB NB HB UB)(O:One w0 w w' b)(e g x t:Int)(hd:w'.heap[b]?=some (.cells #[.U e,.U g,.U x,.I t,.map (some bs),.map (some bn)] 157)):PS w0 w' b bs bn ⟨e,g,x,t,D.ss,D.ns⟩ SB NB HB UB:=by
 have nc:∀{y:Nat}{cs:Array Value}{ty:TypeId},w.heap[y]?=some (.cells cs ty)->ty≠157->y≠b:=λ{y cs ty}hy ht e=>by rw[e,h.hd]at hy;simp at hy;exact ht hy.2.symm
 have nm:∀{y:Nat}{es:Array MapEntry}{c:Nat},w.heap[y]?=some (.map es c)->y≠b:=λ{y es c}hy e=>by rw[e,h.hd]at hy;cases hy
 refine⟨h.be.trans O.b,hd,h.tR,?_,λj s1 g1 ik gp=>?_,h.snd,h.tT,h.hlen,h.uw,?_,λj nd gb hh uu ik gp h1 h2=>?_,h.nnd,h.lo,h.Ny⟩;{
 let⟨M,n,o,r⟩:=h.sG
 let⟨es,c,hm⟩:=ownsMap_at o
 exact⟨M,n,O.map o (nm hm),r⟩};{have q:=h.vT j s1 g1 ik gp;obtain⟨-,u,h1,-⟩:=id q;exact q.keep O (nc h1 bj)};{
 let⟨M,n,o,r⟩:=h.lY
 let⟨es,c,hm⟩:=ownsMap_at o
 exact⟨M,n,O.map o (nm hm),r⟩};{
 have q:=h.nw j nd gb hh uu ik gp h1 h2;obtain⟨-,⟨V,q1,-⟩,q3,q4⟩:=id q
 let⟨es,c,m3⟩:=q3.at
 let⟨es',c',m4⟩:=q4.at
 exact q.keep O (nc q1 bj) (nm m3) (nm m4)}
theorem PS.cO4(h:PS w0 w b bs bn D SB NB HB UB)(hi:D.ns[i]?=some nd)(O:One w0 w w' bn)(hd:∀(j:Nat)(z:aD),D.ns[j]?=some z->cL z.path=cL nd.path->j=i)(hM:∀M n,w.ownsMap prog 9 aZ bn n M->w'.ownsMap prog 9 aZ bn n (M.del (cL nd.path))):PS w0 w' b bs bn {D with ns:=D.ns.eraseIdx i} SB (NB.eraseIdx i) (HB.eraseIdx i) (UB.eraseIdx i):=by
 obtain⟨g,hh,uu,hg,nH,nM,-⟩:=h.nat hi
 let⟨d0,d1,d2,d3,d4,d5⟩:=h.hu
 let⟨M,n,o,hn,m,hs⟩:=h.lY
 let⟨es0,c0,m0⟩:=ownsMap_at o
 have KU:=(aV.1 hi).1;have nc:∀{y:Nat}{cs:Array Value}{ty:TypeId},w.heap[y]?=some (.cells cs ty)->y≠bn:=λ{y cs ty}hy e=>by rw[e,m0]at hy;cases hy
 have hz:(List.zipWith (λ(nd:aD)g=>(cL nd.path,g)) D.ns NB)[i]?=some (cL nd.path,g):=by rw[oe,hi,hg]
 have hdz:∀(j:Nat)(p:Lit×Nat),(List.zipWith (λ(nd:aD)g=>(cL nd.path,g)) D.ns NB)[j]?=some p->p.1=cL nd.path->j=i:=λj p hj e=>by
  rw[oe]at hj;cases ha:D.ns[j]? with
  |none=>rw[ha]at hj;cases hj
  | some a=>
   cases hc:NB[j]? with
   |none=>rw[ha,hc]at hj;cases hj
   |some c=>
    rw[ha,hc]at hj;cases hj;exact hd j a ha e
 have el:∀{l:List Nat},l.length=D.ns.length->(l.eraseIdx i).length=(D.ns.eraseIdx i).length:=λhl=>by rw[GK,GK,hl]
 refine⟨h.be.trans O.b,O.obj h.hd (nc h.hd),h.tR,?_,λj s1 g1 ik gp=>?_,h.snd,el h.tT,el h.hlen,el h.uw,⟨_,n,hM M n o,hn,?_,?_⟩,λj lr gb h1 u1 ik gp yD sj=>?_,h.nnd.sublist (GJ _ _),h.lo,?_⟩;{
 let⟨M,n,o,r⟩:=h.sG
 exact⟨M,n,O.map o d0,r⟩};{have q:=h.vT j s1 g1 ik gp;obtain⟨-,u,h1,-⟩:=id q;exact q.keep O (nc h1)};{rw[A9 _ _ _ _ h.tT.symm];exact m.del hz hdz};{have Ve:Maps.has M (cL nd.path)=true:=(m.hs _).2 ⟨_,aT hz,rfl⟩;have:=size_del (k:=cL nd.path) (nW o ox);rw[Ve]at this;simp only[pM]at this;simp only[GK,KU,pM];omega};{
 rw[aj7]at ik gp yD sj;obtain⟨j',Om,gI,hh2,UX⟩:∃j',D.ns[j']?=some lr/\NB[j']?=some gb/\HB[j']?=some h1/\UB[j']?=some u1:=by by_cases hj:j<i;{rw[bO hj]at ik gp yD sj;exact⟨j,ik,gp,yD,sj⟩};{rw[bH hj]at ik gp yD sj;exact⟨j+1,ik,gp,yD,sj⟩}
 have q:=h.nw j' lr gb h1 u1 Om gI hh2 UX;obtain⟨-,⟨V,q1,-⟩,p3,p4⟩:=id q;exact q.keep O (nc q1) (d1 _ (aT hh2)).2 (d2 _ (aT UX)).2};{exact h.Ny.sublist (((GJ HB i).append (GJ UB i)).cons_cons bn |>.cons_cons bs)}
variable {s:aQ}
theorem PS.cO3(h:PS w0 w b bs bn D SB NB HB UB)(hi:D.ss[i]?=some s)(O:One w0 w w' bs)(hd:∀(j:Nat)(z:aQ),D.ss[j]?=some z->z.1=s.1->j=i)(hM:∀M n,w.ownsMap prog 27 aZ bs n M->w'.ownsMap prog 27 aZ bs n (M.del (.U s.1))):PS w0 w' b bs bn {D with ss:=D.ss.eraseIdx i} (SB.eraseIdx i) NB HB UB:=by
 obtain⟨g,hg,-⟩:=h.sat hi
 let⟨d0,d1,d2,d3,d4,d5⟩:=h.hu
 let⟨M,n,o,hn,m,hs⟩:=h.sG
 let⟨es0,c0,m0⟩:=ownsMap_at o
 have KU:=(aV.1 hi).1;have nc:∀{y:Nat}{cs:Array Value}{ty:TypeId},w.heap[y]?=some (.cells cs ty)->y≠bs:=λ{y cs ty}hy e=>by rw[e,m0]at hy;cases hy
 have hz:(List.zipWith (λ(s:aQ)g=>(Lit.U s.1,g)) D.ss SB)[i]?=some (.U s.1,g):=by rw[oe,hi,hg]
 have hdz:∀(j:Nat)(p:Lit×Nat),(List.zipWith (λ(s:aQ)g=>(Lit.U s.1,g)) D.ss SB)[j]?=some p->p.1=.U s.1->j=i:=λj p hj e=>by
  rw[oe]at hj;cases ha:D.ss[j]? with
  |none=>rw[ha]at hj;cases hj
  | some a=>
   cases hc:SB[j]? with
   |none=>rw[ha,hc]at hj;cases hj
   |some c=>
    rw[ha,hc]at hj;cases hj;exact hd j a ha (by simpa using e)
 refine⟨h.be.trans O.b,O.obj h.hd (nc h.hd),by rw[GK,GK,h.tR],⟨_,n,hM M n o,hn,?_,?_⟩,λj s1 g1 ik gp=>?_,h.snd.sublist (GJ _ _),h.tT,h.hlen,h.uw,?_,λj lr gb h1 u1 ik gp yD sj=>?_,h.nnd,h.lo,h.Ny⟩;{rw[A9 _ _ _ _ h.tR.symm];exact m.del hz hdz};{have Ve:Maps.has M (.U s.1)=true:=(m.hs _).2 ⟨_,aT hz,rfl⟩;have:=size_del (k:=.U s.1) (nW o jI);rw[Ve]at this;simp only[pM]at this;simp only[GK,KU,pM];omega};{
 rw[aj7]at ik gp;obtain⟨j',Om,gI⟩:∃j',D.ss[j']?=some s1/\SB[j']?=some g1:=by by_cases hj:j<i;{rw[bO hj]at ik gp;exact⟨j,ik,gp⟩};{rw[bH hj]at ik gp;exact⟨j+1,ik,gp⟩}
 have q:=h.vT j' s1 g1 Om gI;obtain⟨-,u,h1,-⟩:=id q;exact q.keep O (nc h1)};{
 let⟨M,n,o,r⟩:=h.lY
 exact⟨M,n,O.map o (λe=>d0 e.symm),r⟩};{have q:=h.nw j lr gb h1 u1 ik gp yD sj;obtain⟨-,⟨V,q1,-⟩,p3,p4⟩:=id q;exact q.keep O (nc q1) (d1 _ (aT yD)).1 (d2 _ (aT sj)).1}
end
structure Fm(ss:List aQ):Prop where
 pw:ss.Pairwise (λs s'=>s.1<s'.1)
 rg:∀s∈ss,0<=s.1/\s.1<2^64
 ql:∀s∈ss,s.2.2.length<=8
def Yl(h:q.length<=8):(ag1 q ev).length<=8:=by
 unfold ag1;split;{simp;omega};{split;{simp;omega};{exact h}}
def K8(ss:List aQ)(id:Int)(ev:Ev):(La ss id ev).map (·.1)=ss.map (·.1):=by
 unfold La;rw[sR];refine GY λs _=>?_;simp only[Function.comp];split<;>rfl
def Fm.cK3(h:Fm ss)(id:Int)(ev:Ev):Fm (La ss id ev):=by
 refine⟨?_,λs hs=>?_,λs hs=>?_⟩;{have:=h.pw;rw[<-Ef (f:=λs:aQ=>s.1) (R:=(·<·))]at this⊢;rw[K8];exact this};{obtain⟨s0,h0,rfl⟩:=iR.1 hs;split<;>exact h.rg s0 h0}
 {obtain⟨s0,h0,rfl⟩:=iR.1 hs;split;{exact Yl (h.ql s0 h0)};{exact h.ql s0 h0}}
theorem Bj(ids:LI)(ev:Ev):∀ss:List aQ,(uz ss ids ev).map (·.1)=ss.map (·.1):=by
 unfold uz
 induction ids with
 |nil=>intro ss;rfl
 |cons a r ih=>intro ss;rw[ME,ih,K8]
variable {D:SD}
def PS.QU{SB NB HB UB:List Nat}(h:PS w0 w b bs bn D SB NB HB UB)(hi:D.ns[i]?=some nd)(hl:nd.path.length<=1048576):∃g hh uu,NB[i]?=some g/\HB[i]?=some hh/\UB[i]?=some uu/\PN w0 w g hh uu nd/\(Instr.lookup 155 (.map (some bn)) (.string (aP nd.path)) false).run Tryz.prog w=.ok (.pointer (some (Ad g 0))) w:=by
 let⟨g,hh,uu,hg,nH,nM,hN⟩:=h.nat hi
 obtain⟨M,n,o,-,m,-⟩:=h.lY;exact⟨g,hh,uu,hg,nH,nM,hN,QT o m (aT (i:=i) (by rw[oe,hi,hg])) hl⟩
def PN.cells{u:Nat}(k:PN w0 w g h u nd):∃V,AB w0 w V nd.value/\w.heap[g]?=some (.cells #[V,.U nd.owner,.I nd.mode,.map (some h),.U nd.aE,.U nd.gen,.map (some u)] 162)/\w.cell? (Ad g 0)=some V/\w.cell? (Ad g 1)=some (.U nd.owner)/\w.cell? (Ad g 2)=some (.I nd.mode)/\w.cell? (Ad g 3)=some (.map (some h))/\w.cell? (Ad g 4)=some (.U nd.aE)/\w.cell? (Ad g 5)=some (.U nd.gen)/\w.cell? (Ad g 6)=some (.map (some u))/\∀o,w.frozen? (Ad g o)=false:=by
 let⟨V,h1,h2⟩:=k.blk
 exact⟨V,h2,h1,ao h1 0,ao h1 1,ao h1 2,ao h1 3,ao h1 4,ao h1 5,ao h1 6,λo=>by simp[World.frozen?,h1]⟩
def PS.fq{SB NB HB UB:List Nat}(h:PS w0 w b bs bn D SB NB HB UB):w.cell? (Ad b 0)=some (.U D.e)/\w.cell? (Ad b 1)=some (.U D.g)/\w.cell? (Ad b 2)=some (.U D.x)/\w.cell? (Ad b 3)=some (.I D.t)/\w.cell? (Ad b 4)=some (.map (some bs))/\w.cell? (Ad b 5)=some (.map (some bn))/\∀o,w.frozen? (Ad b o)=false:=
 ⟨ao h.hd 0,ao h.hd 1,ao h.hd 2,ao h.hd 3,ao h.hd 4,ao h.hd 5,λo=>by simp[World.frozen?,h.hd]⟩
structure NT(ss:List aQ)(nd:aD):Prop where
 by':aN nd.path
 pl:nd.path.length<=1048576
 wpw:nd.watchers.Pairwise (·<·)
 TD:nd.watchers.length<=0
 OM:∀i∈nd.watchers,∃s∈ss,s.1=i
def aJ4(h:ss'.map (·.1)=ss.map (·.1)){i:Int}(hi:∃s∈ss,s.1=i):∃(j:Nat)(s:aQ),ss'[j]?=some s/\s.1=i:=by
 obtain⟨s,hs,rfl⟩:=hi;have:s.1∈ss'.map (·.1):=by rw[h];exact iR.2 ⟨s,hs,rfl⟩
 let⟨s',Ho,e⟩:=iR.1 this
 let⟨j,hj⟩:=gH.1 Ho
 exact⟨j,s',hj,e⟩
def aK3{ss:LI}(h:Q.RdK B w v ss):∃p c gk,v=.S p ss.length c/\B<=gk/\∀(j:Nat)(x:Int),ss[j]?=some x->p=some (Ad gk 0)/\gk<w.heap.size/\w.cell? (Ad gk j)=some (.U x):=by
 rcases h with⟨rfl,rfl⟩|⟨g,cap,rfl,hB,bf,hu⟩;{exact⟨none,0,B,rfl,iD _,λj x hx=>by simp at hx⟩};{refine⟨_,cap,g,rfl,hB,λj x hx=>⟨rfl,bf,?_⟩⟩;have:=hu j (by simpa using(aV.1 hx).1);have h2:=this.1;simpa[hx]using h2}
def One.ZJ(be:Bw w0 w)(hg:w.grownBy w' (some z))(hz:w0.heap.size<=z)(hm:∃es c,w.heap[z]?=some (.map es c)):One w0 w w' z:=by
 refine⟨(cQ w0.heap.size w).grown hg be.size (λb e=>by cases e;exact hz),λy hy bS=>hg.block y hy (λe=>bS (by cases e;rfl)),λcur ty m hc=>?_⟩;obtain⟨es,c,hm⟩:=hm;rw[hm]at hc;cases hc
def PS.TF{SB NB HB UB:List Nat}(h:PS w0 w b bs bn D SB NB HB UB)(hi:D.ns[i]?=some nd)(hg:NB[i]?=some g)(nH:HB[i]?=some hh)(nM:UB[i]?=some uu)(O:One w0 w w' uu)(hs:SM w' uu s):PS w0 w' b bs bn {D with ns:=D.ns.set i {nd with watchers:=s}} SB NB HB UB:=by
 let⟨lo,⟨V,q1,q2⟩,q3,q4⟩:=h.nw i nd g hh uu hi hg nH nM
 let⟨es,c,m4⟩:=q4.at
 refine h.ac5 hi hg nH nM (.inr (.inr rfl)) O rfl ⟨lo,⟨V,O.obj q1 (λe=>?_),q2.fr O.fr⟩,q3.keep O (h.hu.2.2.2.2.2 _ (aT nH) _ (aT nM)),hs⟩;rw[e,m4]at q1;cases q1
def PS.Xp{SB NB HB UB:List Nat}(h:PS w0 w b bs bn D SB NB HB UB)(hi:D.ns[i]?=some nd)(hg:NB[i]?=some g)(nH:HB[i]?=some hh)(nM:UB[i]?=some uu)(O:One w0 w w' hh)(hs:SM w' hh s):PS w0 w' b bs bn {D with ns:=D.ns.set i {nd with holders:=s}} SB NB HB UB:=by
 let⟨lo,⟨V,q1,q2⟩,q3,q4⟩:=h.nw i nd g hh uu hi hg nH nM
 let⟨es,c,m3⟩:=q3.at
 refine h.ac5 hi hg nH nM (.inr (.inl rfl)) O rfl ⟨lo,⟨V,O.obj q1 (λe=>?_),q2.fr O.fr⟩,hs,q4.keep O (λe=>h.hu.2.2.2.2.2 _ (aT nH) _ (aT nM) e.symm)⟩;rw[e,m3]at q1;cases q1
abbrev T3:List TypeId:=[132,162,157]
def PL(b bs bn:Nat)(SB NB HB UB:List Nat):List Nat:=b::bs::bn::(SB++(NB++(HB++UB)))
def Kb(L:List Nat)(w w':World):Prop:=∀z,z<w.heap.size->z∉L->w'.heap[z]?=w.heap[z]?
variable {L:List Nat}
def Kb.below(h:Bw w w'):Kb L w w':=λz hz _=>h.block z hz
def Kb.trans(h:Kb L w w1)(h2:Kb L w1 w2)(hs:w.heap.size<=w1.heap.size):Kb L w w2:=λz hz hn=>(h2 z (by omega) hn).trans (h z hz hn)
def Kb.mono(h:Kb L w w')(hs:∀z∈L,z∈L'):Kb L' w w':=λz hz hn=>h z hz (λhm=>hn (hs z hm))
def One.kb(O:One w0 w w' g)(hg:g∈L):Kb L w w':=λz hz hn=>O.k z hz (λe=>hn (e▸hg))
variable {k:Nat}
def TQ{SB NB HB UB:List Nat}(h:Hid (PS w0 w b bs bn D SB NB HB UB))(nd:aD)(hk:Hid (D.ns[k]?=some nd))(kd:Int)(hS:Hid (Fm D.ss))(hT:Hid (NT D.ss nd)):Calls prog 327 #[.pointer (some (Ad b 0)),.I kd,.string (aP nd.path)] w λr w'=>PS w0 w' b bs bn (dW D k kd) SB NB HB UB/\(Fr T3 w w'/\Kb (PL b bs bn SB NB HB UB) w w')/\∃v,r=.returned v:=by
 let⟨g,hh,uu,hg,nH,nM,hN,hlk⟩:=h.QU hk hT.pl
 obtain⟨V,-,-,-,-,-,-,-,-,n6,-⟩:=hN.cells;obtain⟨-,-,-,-,-,h5,-⟩:=h.fq
 let⟨M,nn,oM,hnn,sM,zM⟩:=hN.TF
 have ZE:=ag (ai hg (ai nH nM));have hgl:g<w.heap.size:=by obtain⟨V,hb,-⟩:=hN.blk;exact aR hb
 go_in
 go_wp2_with fail;refine(Q.sH uu nn M w oM (by rw[zM];have:=hT.TD;omega)).mono ?_;rintro r w1⟨v,ws,rfl,hA,hK,aG⟩;have ews:ws=nd.watchers:=tG hA.lt hT.wpw λx=>by rw[hA.mem x,sM];simp
 subst ews;obtain⟨p,c,gk,rfl,hgk,cW⟩:=aK3 hK
 let⟨m,em⟩:=bG nd.watchers.length
 rw[ae em];have Oc:=ag cW;have P1:=ag (h.below aG);have F1:=ag (Fr.below (T:=T3) aG);have K1:=ag (Kb.below (L:=PL b bs bn SB NB HB UB) aG);have z1:=aG.size;have hm:m<=0:=ae em▸hT.TD;go_wp2
 go_loopw[21](λiv wr=>∃(j:Nat)(SS:List aQ),j<=m/\iv=.I j/\Hid (uz D.ss (nd.watchers.take j) (kd,nd.path)=SS)/\Hid (PS w0 wr b bs bn {D with ss:=SS} SB NB HB UB)/\Hid (Fm SS)/\Hid (Fr T3 w wr)/\Hid (wr.heap[gk]?=w1.heap[gk]?)/\Hid (w1.heap.size<=wr.heap.size)/\Hid (Kb (PL b bs bn SB NB HB UB) w wr)) (λiv _=>m-(intOf iv).toNat)
 exact⟨0,D.ss,gr _,rfl,bD,P1,hS,F1,bD,iD _,K1⟩;{
 obtain⟨j,SS,hj,rfl,hSS,hP,hSO,hFR,hGK,ZM,hKB⟩:=hrel;obtain⟨-,-,-,-,h4,h5,-⟩:=hP.fq;by_cases bf:j<m;{omega};{
 have bL:=dB j m;have e1:=ae hSS;rw[lD (by rw[ae em];omega)]at e1;have hN5:=hP.nw k nd g hh uu hk ZE.1 ZE.2.1 ZE.2.2;obtain⟨V,-,-,-,-,-,-,-,-,n6,-⟩:=hN5.cells;obtain⟨M5,n5,o5,-,-,-⟩:=hN5.TF
 let⟨vv,w5,dK,MW,vZ,hs5⟩:=J3 underlying141 o5 0
 have HN5:=ag hN5;have HO5:=ag (ai MW (ai vZ hs5));have H5:=ag o5;go_wp2
 go_end0
 have O:=One.ZJ hP.be HO5.2.1 HN5.lo.2.2 (ownsMap_at H5);have hQ:=PS.TF (s:=[]) hP hk ZE.1 ZE.2.1 ZE.2.2 O ⟨_,0,HO5.1,af,dL.nil,rfl⟩;refine⟨?_,⟨hFR.trans O.fr,hKB.trans (O.kb (by simp[PL,aT ZE.2.2])) hFR.1⟩,_,rfl⟩;unfold dW;rw[ae hk];simp only[e1];exact hQ}}
def bc6{SB NB HB UB:List Nat}(h:Hid (PS w0 w b bs bn D SB NB HB UB))(nd:aD)(hk:Hid (D.ns[k]?=some nd))(kd:Int)(hS:Hid (Fm D.ss))(hT:Hid (NT D.ss nd)):Cp 327 #[.pointer (some (Ad b 0)),.I kd,.string (aP nd.path)] w λr w'=>PS w0 w' b bs bn (dW D k kd) SB NB HB UB/\Fr T3 w w'/\∃v,r=.returned v:=(TQ h nd hk kd hS hT).mono λr w'⟨h1,h2,h3⟩=>⟨h1,h2.1,h3⟩
variable {D:DataW Unit}
def dL.has(h:dL D s)(id:Int):Maps.has D (.U id)=s.contains id:=by
 rw[GO,h];simp
def qY{id x:Int}:x∈qZ s id↔x∈s/\x≠id:=by
 unfold qZ;simp
def OK{id:Int}(h:s.Pairwise (·<·)):(qZ s id).Pairwise (·<·):=h.filter _
theorem Bf:∀{s:LI}{id x:Int},x∈wG s id↔x=id\/x∈s
 |[],id,x=>by simp[wG]
 |y::r,id,x=>by
  unfold wG;split;{rw[jv,qY];by_cases e:x=id<;>simp[e]}
  {rw[jv,Bf,jv];constructor;{rintro(h|h|h);{exact .inr (.inl h)};{exact .inl h};{exact .inr (.inr h)}};{rintro(h|h|h);{exact .inr (.inl h)};{exact .inl h};{exact .inr (.inr h)}}}
theorem ab8:∀{s:LI}{id:Int},s.Pairwise (·<·)->(wG s id).Pairwise (·<·)
 |[],id,_=>by simp[wG]
 |y::r,id,h=>by
  unfold wG
  let⟨h1,h2⟩:=zQ.1 h
  split;{
 rename_i hle
 refine zQ.2 ⟨λz hz=>?_,OK h⟩
 let⟨jd,jJ⟩:=qY.1 hz
 rcases jv.1 jd with rfl|jd;{omega};{have:=h1 z jd;omega}};{
 rename_i hle
 refine zQ.2 ⟨λz hz=>?_,ab8 h2⟩;rcases Bf.1 hz with rfl|hz;{omega};{exact h1 z hz}}
def SM.del{w w':World}{id:Int}(hs:dL D s)(hp:s.Pairwise (·<·))(hn:n<=2097152)(o:w'.ownsMap prog 27 unitElem h n (D.del (.U id))):SM w' h (qZ s id):=by
 refine SM.of o hn (λk=>?_) (qM (OK hp));by_cases e:k=.U id;{subst e;rw[has_del_same];constructor;{intro hh;cases hh};{rintro⟨i,hi,e⟩;simp at e;exact absurd e.symm (qY.1 hi).2}};{rw[has_del_other e,hs k];constructor;{rintro⟨i,hi,rfl⟩;exact⟨i,qY.2 ⟨hi,λe2=>e (by rw[e2])⟩,rfl⟩};{rintro⟨i,hi,rfl⟩;exact⟨i,(qY.1 hi).1,rfl⟩}}
def SM.put{w w':World}{id:Int}(hs:dL D s)(hD:IsMap D)(hp:s.Pairwise (·<·))(hn:n<=2097152)(o:w'.ownsMap prog 27 unitElem h n (D.put (.U id) d)):SM w' h (wG s id):=by
 refine SM.of o hn (λk=>?_) (qM (ab8 hp));rw[(dL.put hs hD id d) k];constructor;{rintro⟨i,hi,rfl⟩;exact⟨i,Bf.2 (by simp at hi;exact hi.symm),rfl⟩};{rintro⟨i,hi,rfl⟩;exact⟨i,by have:=Bf.1 hi;simp;exact this.symm,rfl⟩}
theorem lg(hN:Hid (PN w0 w g hh uu nd)){id:Int}(hid:0<=id/\id<2^64){B:Bool}(eB:Hid (nd.holders.contains id=B)):Calls prog 324 #[.pointer (some (Ad g 0)),.U id] w (Rb (.bool B) w):=by
 obtain⟨V,-,-,-,-,-,n3,-⟩:=hN.cells
 let⟨D,n,o,hn,hs,hz⟩:=hN.Xp
 have cW:=keyOf_int_mk underlying27 (ni hid);have hB:Maps.has D (.U id)=B:=(hs.has id).trans eB
 go_in
 go_wp2_with(first
  |(at_lookup;refine wpList_lookup_own_unit _ rfl _ _ 141 rfl 27 _ jI underlying141 bg hh n D rfl o _ _ rfl cW ?_;rw[hB])
  |go_in)
 go_ret;exact⟨rfl,aA.alloc ay _⟩
theorem aO2(nd:aD)(id:Int):mV nd id=(decide (nd.mode=0)||(decide (nd.holders.length=1)&&nd.holders.contains id)):=by
 unfold mV
 match nd.holders with
 |[]=>simp
 |[y]=>
  congr 1
  simp only[List.length_singleton,decide_true,pQ,List.headD_cons];rw[GO];simp;exact⟨λe=>(QA e).symm,λe=>BJ e.symm⟩
 |y::z::r=>simp
def YT(hN:Hid (PN w0 w g hh uu nd)){id:Int}(hid:0<=id/\id<2^64){B:Bool}(eB:Hid (mV nd id=B)):Calls prog 317 #[.pointer (some (Ad g 0)),.U id] w (Rb (.bool B) w):=by
 obtain⟨V,-,-,-,-,n2,n3,-⟩:=hN.cells
 let⟨D,n,o,hn,hs,hz⟩:=hN.Xp
 have e:=ae eB;rw[aO2]at e;have hlen:=o.len underlying141 3;rw[hz]at hlen;by_cases hm:nd.mode=0;{
 have hm':(nd.mode==0)=true:=by simp[hm]
 have eB':B=true:=by rw[<-e];simp[hm]
 subst eB'
 go_in
 go_wp2;go_ret;exact⟨rfl,cQ _ _⟩};{
 have hm':(nd.mode==0)=false:=by simp[hm]
 by_cases hl:nd.holders.length=1;{
 rw[hl]at hlen;have eB':nd.holders.contains id=B:=by rw[<-e];simp[hm,hl]
 have EB:=ag eB'
 go_in
 go_wp2_with fail;refine(lg hN hid EB).mono ?_;rintro r w1⟨rfl,aG⟩;go_wp2;go_ret;exact⟨rfl,aG⟩};{
 let⟨nl,lK⟩:=aL nd.holders.length
 rw[lK]at hlen hl;have eB':B=false:=by rw[<-e,lK];simp[hm,hl]
 subst eB';have Fb:((nl:Int)==1)=false:=by simp;omega
 go_in
 go_wp2;go_ret;exact⟨rfl,cQ _ _⟩}}
def KD(ns:List aD):Prop:=∀(i j:Nat)(a c:aD),ns[i]?=some a->ns[j]?=some c->cL a.path=cL c.path->i=j
def KD.set(h:KD ns){nd':aD}(hk:ns[k]?=some nd)(hp:nd'.path=nd.path):KD (ns.set k nd'):=λi j a c ha hc e=>by
 have key:∀(i:Nat)(a:aD),(ns.set k nd')[i]?=some a->∃a0,ns[i]?=some a0/\a0.path=a.path:=λi a ha=>by rw[vX]at ha;by_cases ei:k=i;{subst ei;rw[bO rfl,bO (aV.1 hk).1]at ha;cases ha;exact⟨nd,hk,hp.symm⟩};{rw[bH ei]at ha;exact⟨a,ha,rfl⟩}
 let⟨a0,h1,e1⟩:=key i a ha
 let⟨c0,h2,e2⟩:=key j c hc
 exact h i j a0 c0 h1 h2 (by rw[e1,e2,e])
variable {D:SD}
def PM{SB NB HB UB:List Nat}(h:Hid (PS w0 w b bs bn D SB NB HB UB))(hk:Hid (D.ns[k]?=some nd))(hS:Hid (Fm D.ss))(hT:Hid (NT D.ss nd))(hD:Hid (KD D.ns)):Calls prog 326 #[.pointer (some (Ad b 0)),.string (aP nd.path)] w λr w'=>PS w0 w' b bs bn (Tf (dW D k 2) k) SB (NB.eraseIdx k) (HB.eraseIdx k) (UB.eraseIdx k)/\(Fr T3 w w'/\Kb (PL b bs bn SB NB HB UB) w w')/\∃v,r=.returned v:=by
 go_in
 go_wp2_with fail;refine(TQ h nd hk 2 hS hT).mono ?_;rintro r w1⟨hP,hF,v,rfl⟩;replace hF:=ag hF;have hns:(dW D k 2).ns=D.ns.set k {nd with watchers:=[]}:=by unfold dW;rw[ae hk]
 have mT:(dW D k 2).ns[k]?=some {nd with watchers:=[]}:=hns▸bM (ae hk) _;have hD1:KD (dW D k 2).ns:=hns▸hD.set (ae hk) rfl;obtain⟨-,-,-,-,-,h5,-⟩:=hP.fq;obtain⟨M,n,o,-,-,-⟩:=hP.lY;have cW:keyOf prog 9 (.string (aP nd.path))=some (cL nd.path):=by rw[WideMaps.keyOf_string_mk underlying9 (by rw[gQ];have:=hT.pl;unfold maxLen;omega),oW]
 have HP:=ag (ai hP (ai mT hD1))
 let⟨w',dK,ho,Ag⟩:=o.drop ox underlying155 cW 0
 have HT:=ag (ai ho Ag);have O:=ag o;go_wp2
 go_end0
 have On:=One.ZJ HP.1.be HT.2.grown HP.1.lo.2.2 (ownsMap_at O);refine⟨?_,⟨hF.1.trans On.fr,hF.2.trans (On.kb (by simp[PL])) hF.1.1⟩,_,rfl⟩;refine HP.1.cO4 HP.2.1 On (λj z hz e=>HP.2.2 j k z _ hz HP.2.1 e) (λM' n' o'=>?_);obtain⟨w2,Rl,qy,-⟩:=o'.drop ox underlying155 cW 0;rw[dK]at Rl;cases Rl;exact qy
def af7{SB NB HB UB:List Nat}(h:Hid (PS w0 w b bs bn D SB NB HB UB))(hk:Hid (D.ns[k]?=some nd))(hS:Hid (Fm D.ss))(hT:Hid (NT D.ss nd))(hD:Hid (KD D.ns)):Cp 326 #[.pointer (some (Ad b 0)),.string (aP nd.path)] w λr w'=>PS w0 w' b bs bn (Tf (dW D k 2) k) SB (NB.eraseIdx k) (HB.eraseIdx k) (UB.eraseIdx k)/\Fr T3 w w'/\∃v,r=.returned v:=(PM h hk hS hT hD).mono λr w'⟨h1,h2,h3⟩=>⟨h1,h2.1,h3⟩
def PS.ah6{SB NB HB UB:List Nat}(h:PS w0 w b bs bn D SB NB HB UB)(hi:D.ns[i]?=some nd)(hg:NB[i]?=some g)(nH:HB[i]?=some hh)(nM:UB[i]?=some uu)(O:One w0 w w' g)(V:Value)(vl:LI)(ow mo ep ge:Int)(hc:w'.heap[g]?=some (.cells #[V,.U ow,.I mo,.map (some hh),.U ep,.U ge,.map (some uu)] 162))(hV:AB w0 w' V vl):PS w0 w' b bs bn {D with ns:=D.ns.set i {nd with value:=vl,owner:=ow,mode:=mo,aE:=ep,gen:=ge}} SB NB HB UB:=by
 obtain⟨lo,⟨V0,q1,-⟩,q3,q4⟩:=h.nw i nd g hh uu hi hg nH nM
 let⟨es,c,m3⟩:=q3.at
 let⟨es',c',m4⟩:=q4.at
 refine h.ac5 hi hg nH nM (.inl rfl) O rfl ⟨lo,⟨V,hc,hV⟩,q3.keep O (λe=>?_),q4.keep O (λe=>?_)⟩;{rw[e,q1]at m3;cases m3};{rw[e,q1]at m4;cases m4}
def One.ofC(be:Bw w0 w)(hb:Below g w w')(hg:w.heap[g]?=some (.cells cs ty))(ZR:w0.heap.size<=g)(ht:ty∈[132,162,157])(hk:∀z,z<w.heap.size->z≠g->w'.heap[z]?=w.heap[z]?):One w0 w w' g:=by
 refine⟨hb.mono ZR,hk,λcur ty' m hc=>?_⟩;rw[hg]at hc;simp at hc;rw[<-hc.2.1];exact ht
def qR{α:Type}(l:List α)(k:Nat)(a c:α):(l.set k a).set k c=l.set k c:=by simp
def J6{SB NB HB UB:List Nat}(h:Hid (PS w0 w b bs bn D SB NB HB UB))(hk:Hid (D.ns[k]?=some nd))(hS:Hid (Fm D.ss))(hT:Hid (NT D.ss nd)){id:Int}(hid:0<=id/\id<2^64)(hhp:Hid (nd.holders.Pairwise (·<·)))(hhl:nd.holders.length<=1048576)(Dy:Hid (nd.holders.contains id=true)):Calls prog 325 #[.pointer (some (Ad b 0)),.string (aP nd.path),.U id] w λr w'=>PS w0 w' b bs bn (dS D k id) SB NB HB UB/\(Fr T3 w w'/\Kb (PL b bs bn SB NB HB UB) w w')/\∃v,r=.returned v:=by
 let⟨g,hh,uu,hg,nH,nM,hN,hlk⟩:=h.QU hk hT.pl
 obtain⟨V,hV,gc,-,n1,n2,n3,n4,n5,n6,nf⟩:=hN.cells;obtain⟨-,-,-,-,-,h5,-⟩:=h.fq
 let⟨M,nn,oM,hnn,sM,zM⟩:=hN.Xp
 have cW:=keyOf_int_mk underlying27 (ni hid)
 let⟨w1,dK,ho,Ag⟩:=oM.drop jI underlying141 cW 0
 have O1:=One.ZJ h.be Ag.grown hN.lo.2.1 (ownsMap_at oM);have S1:=SM.del (w:=w) sM hhp hnn ho;have P1:=h.Xp hk hg nH nM O1 S1;have mT:=bM hk {nd with holders:=qZ nd.holders id}
 let⟨V1,hV1,gc1,m0,m1,m2,m3,m4,m5,m6,mf⟩:=(P1.nw k _ g hh uu mT hg nH nM).cells
 obtain⟨M1,nn1,oM1,-,-,zM1⟩:=S1;have hlen:=oM1.len underlying141 3;rw[zM1]at hlen
 let⟨nl,lK⟩:=bG (qZ nd.holders id).length
 rw[ae lK]at hlen;have HP1:=ag (ai P1 mT);have F1:=ag O1.fr;have K1:=ag (O1.kb (L:=PL b bs bn SB NB HB UB) (by simp[PL,aT nH]));have JL:=ag (ai hg (ai nH nM));have br7:=ag (ai gc1 hV1);have glo:=hN.lo.1
 go_in
 by_cases h0:nl=0;{
 subst h0;have me:qZ nd.holders id=[]:=r8.1 lK
 let⟨Z,hZ⟩:=aB (((w1.setCell (Ad g 2) (.I 0)).setCell (Ad g 4) (.U 0)).setCell (Ad g 5) (.U 0))
 have Oj:Z.heap[g]?=some (.cells #[V1,.U nd.owner,.I 0,.map (some hh),.U 0,.U 0,.map (some uu)] 162):=by rw[hZ];simp[World.setCell,BS,br7.1]
 have bZ:Below g w1 Z:=by rw[hZ];exact((aA.setCell (p:=(Ad g 2)) ay _).setCell (p:=(Ad g 4)) ay _).setCell (p:=(Ad g 5)) ay _
 have kZ:∀z,z<w1.heap.size->z≠g->Z.heap[z]?=w1.heap[z]?:=λz _ bS=>by rw[hZ];iterate 3 rw[ga _ _ _ _ (show z≠_ from bS)]
 have OZ:=One.ofC HP1.1.be bZ br7.1 glo al kZ;have PZ:=HP1.1.ah6 HP1.2 JL.1 JL.2.1 JL.2.2 OZ V1 nd.value nd.owner 0 0 0 Oj (br7.2.fr OZ.fr);simp only[qR,me]at PZ;have HPZ:=ag PZ;have FZ:=ag (F1.trans OZ.fr);have KZ:=ag (K1.trans (OZ.kb (by simp[PL,aT JL.1])) F1.1);have hkz:=ag (bM hk {nd with holders:=[],mode:=0,aE:=0,gen:=0});have fz2:=mf 2;have fz4:=mf 4;have fz5:=mf 5;go_wp2_with fail;rw[<-hZ];refine(TQ HPZ (k:=k) {nd with holders:=[],mode:=0,aE:=0,gen:=0} hkz 3 hS (ag ⟨hT.by',hT.pl,hT.wpw,hT.TD,hT.OM⟩)).mono ?_;rintro r w5⟨hP5,hF5,v5,rfl⟩;replace hF5:=ag hF5;go_wp2
 go_end0
 refine⟨?_,⟨FZ.trans hF5.1,KZ.trans hF5.2 FZ.1⟩,_,rfl⟩;unfold dS;rw[ae hk];simp only[ae Dy,pM,me];exact hP5};{have h0':=mW 0 nl;go_wp2;refine dJ (uO aJ _ _ _) rfl ?_;refine⟨?_,⟨F1,K1⟩,_,rfl⟩;have bS:qZ nd.holders id≠[]:=λe=>h0 (by rw[<-ae lK,e];rfl);unfold dS;rw[ae hk];simp only[ae Dy,pM,bH bS];exact HP1.1}
def Yi{SB NB HB UB:List Nat}(h:Hid (PS w0 w b bs bn D SB NB HB UB))(hk:Hid (D.ns[k]?=some nd))(hS:Hid (Fm D.ss))(hT:Hid (NT D.ss nd)){id:Int}(hid:0<=id/\id<2^64)(hhp:Hid (nd.holders.Pairwise (·<·)))(hhl:nd.holders.length<=1048576)(Dy:Hid (nd.holders.contains id=true)):Cp 325 #[.pointer (some (Ad b 0)),.string (aP nd.path),.U id] w λr w'=>PS w0 w' b bs bn (dS D k id) SB NB HB UB/\Fr T3 w w'/\∃v,r=.returned v:=(J6 h hk hS hT hid hhp hhl Dy).mono λr w'⟨h1,h2,h3⟩=>⟨h1,h2.1,h3⟩
def Tryz.infoStr:(Tryz.prog.info? 9).map (λi=>(i.zero,i.size,i.bytes))=some (some (.string ByteArray.empty),1,16):=by kernel_rfl
def ya(ns:List aD)(P:LI):List LI:=(ns.filter λnd=>decide (eG nd.path=P)).map (·.path)
def YD(ns:List aD)(P:LI):jH ns P=(ya ns P).map Ha:=by
 unfold jH ya;rw[sR]
 rfl
def YC(h:ns[k]?=some nd):ya (ns.take (k+1)) P=if eG nd.path=P then ya (ns.take k) P++[nd.path]else ya (ns.take k) P:=by
 rw[od,h,ya,WQ,l8];by_cases e:eG nd.path=P<;>simp[ya,e]
def an5:(ya ns P).length<=ns.length:=by
 rw[ya,fN];exact QD _ _
def Ii(_:World)(l:LI)(c:List Value):Prop:=c=[.string (aP l)]
def yJ{Q:Exit->Act->World->Prop}(ng:o.guard=none){s x:Operand}(ho:o.op=.call {callee:=.builtin .append,args:=#[s,x],argTypes:=#[165,165]})(ek:Le ls k)(hs:a.eval s=v)(bR:RT Ii 9 1 B w v ls)(hx:a.eval x=.T g 1 1)(iU:w.cell? (Ad g 0)=some (.string (aP l)))(hk:k<4194304)(hB:B<=w.heap.size)(h:∀p' c' w',RT Ii 9 1 B w' (.S p' (k+1) c') (ls++[l])->w.grownBy w' v.ownBlock->wpList Tryz.prog ops Q rest (a.put o.dst (.S p' (k+1) c')) w'):wpList Tryz.prog ops Q (o::rest) a w:=by
 let⟨i,hi,qx,jd,jJ⟩:=fD Tryz.infoStr
 obtain⟨rs,h1,h2,h3,h4⟩:=bR;rw[ae ek]at h3;refine cR ng 165 ho i 1 Tryz.underlying165 hi qx jd jJ rfl bj v hs h3 g 1 1 [.string (aP l)] hx rfl (λj u hu=>by
  have e:j=0:=by have:=(aV.1 hu).1;simpa using this
  subst e;simp at hu;subst hu;exact iU) (λu hu=>by simp at hu;rw[hu];rfl) iB af hB ?_
 intro v' w' fo hg _;have sn:RT Ii 9 1 B w' v' (ls++[l]):=RT.snoc h1 h2 h4 (λ_ _ h=>h) rfl rfl (ae ek▸fo);obtain⟨p',c',rfl,-⟩:=RT.form sn;rw[gU,ae ek]at sn⊢;exact h p' c' w' sn hg
def RT.bo7(h:RT Ii 9 1 B w v ls)(hb:Bw w w'):RT Ii 9 1 B w' v ls:=h.keep (λ_ _ h=>h) (λb bN=>hb.block b (h.lt b bN).2)
variable {L:List LI}
def NJ{SB NB HB UB:List Nat}(h:Hid (PS w0 w b bs bn D SB NB HB UB))(KM:Hid ((D.ns.map λnd=>rD nd.path).Pairwise (·<·)))(gh:Hid (∀nd∈D.ns,aN nd.path/\nd.path.length<=1048576))(bP:Hid (aN P))(eL:Hid (ya D.ns P=L)):Calls Tryz.prog 335 #[.pointer (some (Ad b 0)),.string (aP P)] w λr w'=>∃p c,r=.returned (.S p L.length c)/\RT Ii 9 1 w.heap.size w' (.S p L.length c) L/\Bw w w':=by
 obtain⟨-,-,-,-,-,h5,-⟩:=h.fq
 let⟨M,nn,oM,hnn,mM,zM⟩:=h.lY
 have hNM:=h.sto.qw;go_enter Tryz.func335,Tryz.ntmps335;go_wp2_with fail;refine(T.kH bn nn M w oM (aI oM.size_le)).mono ?_;rintro r w1⟨kv,ks,rfl,Tv,Oh,aG⟩;obtain rfl:=xQ hNM KM mM Tv;obtain⟨p,c,rfl,Hr⟩:=Mo Oh
 let⟨m,em⟩:=bG D.ns.length
 have hm:m<=1048576:=by have:=oM.size_le;rw[zM,ae em]at this;omega
 rw[ae em];have HK:=ag Hr;have B1:=ag aG;go_wp2
 go_loopw[5,14](λov iv wr=>∃(j:Nat)(N:List LI),j<=m/\iv=.I j/\Hid (ya (D.ns.take j) P=N)/\Hid (RT Ii 9 1 w1.heap.size wr ov N)/\Hid (Bw w1 wr)) (λ_ iv _=>m-(intOf iv).toNat)
 exact⟨0,[],gr _,rfl,(by show _=_;simp[ya]),RT.nil _ _ _ _ _,cQ _ _⟩;{
 obtain⟨j,N,hj,rfl,hN,hT,aM⟩:=hrel;obtain⟨po,co,rfl,-⟩:=RT.form hT;have zr:=aM.size;have hnl:N.length<=j:=by have h1:=an5 (ns:=D.ns.take j) (P:=P);have h2:=GM j D.ns;rw[ae hN]at h1;omega
 by_cases bf:j<m;{
 have bL:=aU j m;obtain⟨nd,hx⟩:∃nd,D.ns[j]?=some nd:=⟨_,aY (ae em▸bf)⟩;obtain⟨gk,rfl,hck⟩:∃gk,p=some (Ad gk 0)/\wr.cell? (Ad gk j)=some (.string (aP nd.path)):=by rcases ae HK with h0|⟨gk,rfl,h1,h2,h3⟩;{rw[h0]at hx;simp at hx};{exact⟨gk,rfl,ah (by have:=h3 j nd hx;rwa [ly]at this) (ae aM)⟩}
 let⟨aG,aK⟩:=ae gh nd (aT hx)
 have qV:=ag (YC (P:=P) hx)
 let⟨nP,eN⟩:=bG nd.path.length
 rw[ae eN]at aK;have qW:=ag aG;have heq:=qU (rW aG) bP;go_wp2_with fail;refine(sO eN qW aK).mono ?_;rintro r w2⟨rfl,rfl⟩;by_cases hq:eG nd.path=P;{
 have um:decide (eG nd.path=P)=true:=by simp[hq]
 rw[um]at heq;have E1:=ag (by have:=ae qV;rwa [bO hq,ae hN]at this:ya (D.ns.take (j+1)) P=N++[nd.path]);go_wp2_with(at_builtin;refine yJ rfl rfl (v:=.S po N.length co) (l:=nd.path) (ag rfl) rfl (RT.bo7 (ae hT) (aA.alloc ay _)) (g:=w2.heap.size) rfl al af bq ?_);intro p' c' w5 T5 vZ;have bA:Bw w2 (w2.alloc (.cells #[.string (aP nd.path)] 9)):=aA.alloc ay _;have B5:=ag ((aj (ae aM) bA).grown vZ bq (λb' e=>(hT.lt b' e).1));have T5':=ag T5;go_wp2;go_roundw;exact⟨j+1,_,af,by go_num,E1,T5',B5⟩;exact cg};{
 have um:decide (eG nd.path=P)=false:=by simp[hq]
 rw[um]at heq;have E1:=ag (by have:=ae qV;rwa [bH hq,ae hN]at this:ya (D.ns.take (j+1)) P=N);go_wp2;go_roundw;exact⟨j+1,N,af,by go_num,E1,hT,aM⟩;exact cg}};{have bL:=dB j m;have e1:=ae hN;rw[lD (by rw[ae em];omega),ae eL]at e1;subst e1;go_wp2;go_ret;exact⟨_,_,rfl,RT.mono hT B1.size,aj B1 aM⟩}}
def QB(w:World)(b:Nat)(st op rs rp:List Value):Prop:=BX w b st/\ar w (b+1) op/\BX w (b+1+1) rs/\RX w (b+1+1+1) rp
def QB.keep{w'':World}{st op rs rp:List Value}(h:QB w' b st op rs rp)(hk:∀j,b<=j->j<b+4->w''.heap[j]?=w'.heap[j]?):QB w'' b st op rs rp:=
 ⟨h.1.de (hk _ af af),h.2.1.de (hk _ af af),h.2.2.1.de (hk _ af af),h.2.2.2.de (hk _ af af)⟩
def aH7{o6 o7:Value}(hc:ar w b [o0,o1,o2,o3,o4,o5,o6,o7]):ar (lu w b v0 v1 v2 v3 v4 v5 v6 v7) b [v0,v1,v2,v3,v4,v5,v6,v7]:=
 (((((((hc.dH 0 al v0).dH 1 al v1).dH 2 al v2).dH 3 al v3).dH 4 al v4).dH 5 al v5).dH 6 al v6).dH 7 al v7
def Ka{b':Nat}(bS:b'≠b):(lu w b v0 v1 v2 v3 v4 v5 v6 v7).heap[b']?=w.heap[b']?:=by
 unfold lu;rw[ga _ _ _ _ (show b'≠_ from bS),ga _ _ _ _ (show b'≠_ from bS),jX bS]
def PX(h:∃cur,w.heap[b]?=some (.cells cur ty)):(∃cur,(lu w b v0 v1 v2 v3 v4 v5 v6 v7).heap[b]?=some (.cells cur ty))/\Fr [ty] w (lu w b v0 v1 v2 v3 v4 v5 v6 v7):=by
 have t6:=Gi h (v0:=v0) (v1:=v1) (v2:=v2) (v3:=v3) (v4:=v4) (v5:=v5);have a6:=dy (j:=6) (u:=v6) t6;have a7:=dy (j:=7) (u:=v7) a6.1;obtain⟨cur,ht⟩:=h;exact⟨a7.1,((ju ht).trans a6.2).trans a7.2⟩
def QB.fin{st op:List Value}{p0 p1 p2 p3 p4 p5 p6 p7:Value}(h:QB w b st op [o0,o1,o2,o3,o4,o5] [p0,p1,p2,p3,p4,p5,p6,p7])(j:Nat)(u v0 v1 v2 v3 v4 v5 r0 r1 r2 r3 r4 r5 r6 r7:Value):Fr [41,127] w (lu (dG (w.setCell (Ad b j) u) (b+1+1) v0 v1 v2 v3 v4 v5) (b+1+1+1) r0 r1 r2 r3 r4 r5 r6 r7)/\Below b w (lu (dG (w.setCell (Ad b j) u) (b+1+1) v0 v1 v2 v3 v4 v5) (b+1+1+1) r0 r1 r2 r3 r4 r5 r6 r7):=by
 have f1:=(dy (j:=j) (u:=u) h.1.2).2;have h2:BX (w.setCell (Ad b j) u) (b+1+1) _:=h.2.2.1.FQ af;have f2:Fr [41] (w.setCell (Ad b j) u) (dG (w.setCell (Ad b j) u) (b+1+1) v0 v1 v2 v3 v4 v5):=by obtain⟨-,cur,ht⟩:=h2;exact ju ht
 have f3:=(((h.2.2.2.fr f1).fr f2).put r0 r1 r2 r3 r4 r5 r6 r7).2;exact⟨(f1.sub al).trans ((f2.sub al).trans (f3.sub al)),(((cQ b w).setCell (p:=(Ad b j)) ay u).trans ((dr _ _ _ _ _ _ _).mono af)).trans ((dm).mono af)⟩
variable {g:Int}{c d:Nat}{q:OA}
theorem VB(en:Le ss n)(em:Le ns m)(eP:Le P np)(eV:Le V nv)(hS:Hid (kq B w (.S p n c) ss Qs))(hN:Hid (AI B w (.S q m d) ns))(hP:Hid (Rd w (.S pp np cp) P))(hV:Hid (Rd w (.S pq nv cv) V))(hB:B<=w.heap.size)(hm:Mg m)(hp:np<=1048576)(hv:nv<=1048576)(jt:np<=cp)(ku:cp<=maxLen)(gh:Hid (aN P/\∀nd∈ns,aN nd.path)){R:SD×RP}(eR:Hid (my ⟨e,g,x,t,ss,ns⟩ P V S F=R)):Calls prog 190 #[dZ e g x t (.S p n c) (.S q m d),IE K S (.S pp np cp) F (.S pq nv cv) E G] w λr w'=>QR B w w' r R.1 R.2:=by
 let⟨W0,fL,b0,z0,C0⟩:=jB w (.U e) (.U g) (.U x) (.I t) (.S p n c) (.S q m d)
 obtain⟨W1,mg,b1,z1,C1,-⟩:=au W0 #[.I K,.U S,.S pp np cp,.I F,.S pq nv cv,.U E,.U G] 121
 let⟨W2,mu,b2,z2,C2⟩:=sr W1
 let⟨W3,we,b3,z3,C3⟩:=rE W2 (.I 0) (.U 0) (.U 0) (.U 0) (.I 0) aS aS aS
 rw[z0]at C1 z1;rw[z1]at C2 z2;rw[z2]at C3 z3;have LQ:QB W3 w.heap.size _ _ _ _:=⟨((C0.below b1).below b2).below b3,(C1.below af b2).below af b3,C2.below b3,C3⟩;have bW:=aj (aj (aj b0 b1) b2) b3;have HA:=ag (λ(v:World)(hv:Below W3.heap.size W3 v)=>ai (QB.keep LQ (λj h1 h2=>hv.block j af)) (ai (hS.fr (aO (aj bW hv))) (ai (gq.fr (ae hN) (aO (aj bW hv))) (ai (hP.below (aj bW hv)) (ai (hV.below (aj bW hv)) (aj bW hv))))));have hR:=ae eR;unfold my at hR;have HR:=ag hR
 go_in
 go_wp2_with fail;rw[<-fL,<-mg,<-mu,<-we];refine(xX em eP (gq.rdn (ae HA W3 aA).2.2.1) (ae HA W3 aA).2.2.2.1 hm af gh).mono ?_;rintro r w1⟨hr,aG⟩;have qW:=ag aG;have z1':=aG.size;rcases hr with⟨k,nd,rfl,hkm,hk,uW⟩|⟨rfl,me⟩;{have e9:=ae HR;simp only[uW,Option.isSome_some,pM]at e9;have E9:=ag e9;have Tn:=dC 0 k;go_wp2_with fail;obtain⟨LW,SW,NW,-,-,BW⟩:=ae HA w1 qW;exact rq 2 4 5 15 16 6 results190 LW.1 LW.2.2.1 LW.2.2.2 en em SW NW (Fr.below BW) (BW.mono hB) hB E9};{
 have e9:=ae HR;simp only[me,aV9,MI,Cb]at e9;have E8:=ag e9;have Tn:¬((0:Int)<=-1):=af
 let⟨C,eC⟩:=bG (dV ns (eG P))
 go_wp2_with fail
 let⟨vA,je⟩:=aB w1.drew
 have gL:Below W3.heap.size W3 vA:=aj (ae qW) (by rw[je];exact aA.drew);have BA:=ag gL;have SS:=ag (λ(v:World)(hv:Below W3.heap.size W3 v)=>ai (ae HA v hv).1.1.six ((ae HA v hv).1.2.1.1 2 _ rfl));refine du (λw'=>(w'.cell? (Ad w.heap.size 0)=some (.U e)/\w'.cell? (Ad w.heap.size 1)=some (.U g)/\w'.cell? (Ad w.heap.size 2)=some (.U x)/\w'.cell? (Ad w.heap.size 3)=some (.I t)/\w'.cell? (Ad w.heap.size 4)=some (.S p n c)/\w'.cell? (Ad w.heap.size 5)=some (.S q m d))/\w'.cell? (Ad (w.heap.size+1) 2)=some (.S pp np cp)) (by rw[<-je];exact ae SS vA gL) λhS=>?_;rw[<-je]at hS⊢;refine jR 0 1 hS ?_;refine tn 2 hS ?_;refine cX 3 λKK hK=>?_;refine iw (kY eP (ae HA vA BA).2.2.2.1 hp jt ku) ?_;rintro r v1⟨qq,mm,dd,rfl,hmm,cz6,Rm,aK⟩;refine⟨_,rfl,?_⟩;have B1:=ag (aj BA aK);refine fh hK (by exact SS v1 B1) λhS=>?_;refine cX 4 λKK hK=>?_;refine vU (jN em (ag hmm) (gq.rdn (ae HA v1 B1).2.2.1) Rm hm af (ag ⟨rW gh.1,gh.2⟩) eC) ?_;rintro r v2⟨rfl,aK⟩;refine⟨_,rfl,?_⟩;have B2:=ag (aj B1 aK);refine fh hK (by exact SS v2 B2) λhS=>?_;refine tn 5 hS ?_;refine cY ?_;have z2':=B2.size;have e9:=ae E8;simp only[ae eC]at e9;cases C;{simp only[pM]at e9;have E9:=ag e9;go_wp2_with fail;obtain⟨LW,SW,NW,-,-,BW⟩:=ae HA v2 B2;exact rq 2 4 5 23 24 7 results190 LW.1 LW.2.2.1 LW.2.2.2 en em SW NW (Fr.below BW) (BW.mono hB) hB E9};{
 have em':=ae em;simp only[Bool.true_eq_false,Cb,em']at e9;clear em';have k5:=(ae SS v2 B2).1.2.2.2.2.2;by_cases bQ2:200<=m;{rw[bO bQ2]at e9;have E9:=ag e9;have bQ1:=dC 200 m;clear e9 E8;go_wp2_with fail;obtain⟨LW,SW,NW,-,-,BW⟩:=ae HA v2 B2;exact rq 2 4 5 29 30 11 results190 LW.1 LW.2.2.1 LW.2.2.2 en em SW NW (Fr.below BW) (BW.mono hB) hB E9};{
 rw[bH bQ2]at e9;have E9:=ag e9;have bQ1:¬(200:Int)<=(m:Int):=af;clear e9 E8;go_wp2_with fail;clear k5
 let⟨vA,je⟩:=aB v2.drew
 have gL:Below W3.heap.size W3 vA:=aj (ae B2) (by rw[je];exact aA.drew);have BA:=ag gL;have zA:=gL.size;have BR:=ag (cQ vA.heap.size vA);have SA:=ag (λ(v:World)(hv:Below vA.heap.size vA v)=>ai ((ae HA v (aj (ae BA) hv)).1.2.1.1 2 _ rfl) ((ae HA v (aj (ae BA) hv)).1.2.1.1 4 _ rfl));have RW:=ag (λ(v:World)(hv:Below vA.heap.size vA v)=>ai (ae HA v (aj (ae BA) hv)).2.2.2.1 (ae HA v (aj (ae BA) hv)).2.2.2.2.1)
 go_cut[6](λbv wc=>∃bz pa ca pb cb,bv=.pointer (some (Ad bz 0))/\Hid (vA.heap.size<=bz)/\Hid (bz<wc.heap.size)/\Hid (ar wc bz [.S pa np ca,.S pb nv cb,.U 0,.I 0,aq,.U 0,.U 0,aq])/\Hid (∃cur,wc.heap[bz]?=some (.cells cur 133))/\Hid (TB wc (.S pa np ca) P)/\Hid (TB wc (.S pb nv cb) V)/\Hid (Below vA.heap.size vA wc))
 case first=>(
 refine du (λw'=>w'.cell? (Ad (w.heap.size+1) 2)=some (.S pp np cp)/\w'.cell? (Ad (w.heap.size+1) 4)=some (.S pq nv cv)) (by rw[<-je];exact ae SA vA (ae BR)) λhS=>?_;rw[<-je]at hS⊢;clear je gL
 let⟨v,hvv⟩:=aB vA
 have BV:Hid (Below vA.heap.size vA v):=by rw[hvv];exact ae BR
 rw[<-hvv]at hS⊢;clear hvv;refine lG 0 1 3 4 hS ?_
 iterate 3 (
  all_goals(first|refine I0 2 (λKK hK=>?_)|refine I0 5 (λKK hK=>?_)|refine I0 7 (λKK hK=>?_)|refine Tg 2 7 (λKK hK=>?_) (λKK hK=>?_)|refine Tg 5 7 (λKK hK=>?_) (λKK hK=>?_))
  all_goals(first
   |(
    refine Tag.go 2 ?_;refine iw (iT eP (ae RW _ BV).1 af) ?_;rintro r v'⟨pa,ca,rfl,o,hb⟩;refine⟨_,rfl,?_⟩;have OA:=ag o.tb;clear o)
   |(
    refine Tag.go 5 ?_;refine iw (iT eV (ae RW _ BV).2 af) ?_;rintro r v'⟨pb,cb,rfl,o,hb⟩;refine⟨_,rfl,?_⟩;have OB:=ag o.tb;have T6:=km;clear o)
   |(
    refine Tag.go 7 ?_;go_simp
    let⟨v',hZ,hb,z9,CZ0,CT0⟩:=au v #[aq,aq,.U 0,.I 0,aq,.U 0,.U 0,aq] 133
    rw[<-hZ];have jd:=ag (show vA.heap.size<=v.heap.size from BV.size)
    let⟨bz,ebz⟩:=aB v.heap.size
    rw[<-ebz]at CZ0 CT0 jd⊢;have CZ:=ag (ai (by omega:bz<v'.heap.size) (ai CZ0 (⟨_,CT0⟩:∃cur,v'.heap[bz]?=some (.cells cur 133))));clear hZ CZ0 CT0 ebz z9))
  all_goals(
   have zb:=hb.size
   try have OA:=ag (OA.fr (aO hb))
   try have OB:=ag (OB.fr (aO hb))
   try have CZ:=ag (ai (iq CZ.1 zb) (ai (CZ.2.1.below CZ.1 hb) (CZ.2.2.imp λcur hc=>(hb.block _ CZ.1).trans hc)))
   have BV:=ag (BV.trans (hb.mono BV.size));refine fh hK (by exact SA _ BV) λhS=>?_;clear hK KK hb zb
   try(
    clear T6;refine tk 6 hS (h:=?_);simp only[Act.put,xa,xb,xc])
   rename World=>v
   skip))
 all_goals(
  refine cX 8 (λKK hK=>?_);obtain⟨c0,c1,c2,c3,c4,c5,c6,c7,cf⟩:_/\_/\_/\_/\_/\_/\_/\_/\_:=⟨CZ.2.1.1 0 _ rfl,CZ.2.1.1 1 _ rfl,CZ.2.1.1 2 _ rfl,CZ.2.1.1 3 _ rfl,CZ.2.1.1 4 _ rfl,CZ.2.1.1 5 _ rfl,CZ.2.1.1 6 _ rfl,CZ.2.1.1 7 _ rfl,CZ.2.1.2⟩;go_simp
  let⟨Y,hY⟩:=aB (lu v bz (.S pa np ca) (.S pb nv cb) (.U 0) (.I 0) aq (.U 0) (.U 0) aq)
  have NY:=ag (aH7 CZ.2.1 (v0:=.S pa np ca) (v1:=.S pb nv cb) (v2:=.U 0) (v3:=.I 0) (v4:=aq) (v5:=.U 0) (v6:=.U 0) (v7:=aq));have bY:=dm (w:=v) (b:=bz) (v0:=.S pa np ca) (v1:=.S pb nv cb) (v2:=.U 0) (v3:=.I 0) (v4:=aq) (v5:=.U 0) (v6:=.U 0) (v7:=aq);rw[<-hY]at NY bY
  let⟨TY,FY⟩:=PX (v0:=.S pa np ca) (v1:=.S pb nv cb) (v2:=.U 0) (v3:=.I 0) (v4:=aq) (v5:=.U 0) (v6:=.U 0) (v7:=aq) CZ.2.2
  rw[<-hY]at TY FY;unfold lu dG at hY;rw[<-hY];have BY:=ag (BV.trans (bY.mono jd));refine hK.out _ _ (by exact SA Y BY) (λhS=>?_);clear hK KK hY c0 c1 c2 c3 c4 c5 c6 c7 cf;refine cY ?_;clear hS;go_wp2_with fail;go_meet;exact⟨bz,pa,ca,pb,cb,rfl,jd,ag (iq CZ.1 bY.size),NY,ag TY,ag (OA.fr FY),ag (OB.fr FY),BY⟩))
 case rest=>(
 obtain⟨bz,pa,ca,pb,cb,rfl,jd,jJ,CZ,CT,OA,OB,BC⟩:=hcut;have zC:=BC.size;have bg3:=ae jJ;have cv4:=ae jd;obtain⟨O,eO⟩:∃O,Hid ((if F=1 then S else 0)=O):=⟨_,ag rfl⟩;have e9:=ae E9;rw[ae eO]at e9;have E7:=ag e9;clear e9 E9;have o1:=(ae HA wc (aj BA BC)).1.2.1.1 1 _ rfl;have o3:=(ae HA wc (aj BA BC)).1.2.1.1 3 _ rfl;have n2:=CZ.1 2 _ rfl;have nf:=CZ.2
 go_upto_if 40 with fail
 go_cut[](λwd=>Hid (ar wd bz [.S pa np ca,.S pb nv cb,.U O,.I 0,aq,.U 0,.U 0,aq])/\Hid (∃cur,wd.heap[bz]?=some (.cells cur 133))/\Hid (TB wd (.S pa np ca) P)/\Hid (TB wd (.S pb nv cb) V)/\Hid (Below vA.heap.size vA wd)/\Hid (bz<wd.heap.size))
 case first=>(
 by_cases hF:F=1;{
 have hF':(F==1)=true:=by simp[hF]
 have eO':O=S:=by rw[<-ae eO,bO hF]
 subst eO';clear hF;go_wp2_with fail;go_meet;have ts:=dy (j:=2) (u:=.U O) CT;exact⟨ag (CZ.dH 2 al (.U O)),ag ts.1,ag (OA.fr ts.2),ag (OB.fr ts.2),ag (BC.setCell (p:=(Ad bz 2)) cv4 _),ag bq⟩};{
 have hF':(F==1)=false:=by simp[hF]
 have eO':O=0:=by rw[<-ae eO,bH hF]
 subst eO';clear hF;go_wp2_with fail;go_meet;exact⟨CZ,CT,OA,OB,BC,jJ⟩})
 case rest=>(
 obtain⟨wd,rfl⟩:=aB wc;clear CZ CT OA OB BC jJ bg3 zC o1 o3 n2 nf;obtain⟨CZ,-,OA,OB,BC,jJ⟩:=hcut;have bg3:=ae jJ;have zD:=BC.size;have BD:=ag (aj BA BC);have HD:=ag (λ(v:World)(hv:Below wd.heap.size wd v)=>ai (ae HA v (aj (ae BD) hv)) (ai (CZ.below bg3 hv) (ai (OA.fr (aO hv)) (OB.fr (aO hv)))));clear CZ OA OB BC HA SA RW;go_wp2_with fail
 go_loopw[7,8,9](λov dv iv wr=>∃(j:Nat)(L:List aD)(dn:Bool)(nl:Nat)(po:OA)(co:Nat),j<=m/\iv=.I j/\dv=.bool dn/\ov=.S po nl co/\Le L nl/\Hid (Jk (ns.take j) (mH P V O)=(L,dn))/\Hid (gq B wd.heap.size wr (.S po nl co) L)/\Hid (Below wd.heap.size wd wr)) (λ_ _ iv _=>m-(intOf iv).toNat)
 exact⟨0,[],false,0,none,0,gr _,rfl,rfl,rfl,ag rfl,bD,RT.nil _ _ _ _ _,cQ _ _⟩;{
 obtain⟨j,L,dn,nl,po,co,hj,rfl,rfl,rfl,lK,hL,ho,aM⟩:=hrel;have zr:=aM.size;have Rp:nl<4194300:=by have h1:=Re (mH P V O) (ns.take j) ([],false);have h2:=GM j ns;have h3:=ae hL;unfold Jk at h3;rw[h3,ae lK]at h1;simp only[BO]at h1;omega
 have s5:=(ae HD wr aM).1.1.1.1.1 5 _ rfl;by_cases bf:j<m;{
 have bL:=aU j m;obtain⟨x0,hx⟩:∃x0,ns[j]?=some x0:=⟨_,aY (by rw[ae em];exact bf)⟩;have db:=YF (nd:=(mH P V O)) hx;rw[ae hL]at db;have qV:=ag db;obtain⟨gn,Pv,Vv,Hv,Uv,rfl,-,-,c0,c1,c2,c3,c4,c5,c6,c7,tP,tV,tH,tU,-⟩:=gq.at (ae HD wr aM).1.2.2.1 hx;obtain⟨pP,cP,rfl⟩:=tP.gF;obtain⟨pV,cV,rfl⟩:=tV.gF;obtain⟨pH,cH,rfl⟩:=tH.gF;obtain⟨pU,cU,rfl⟩:=tU.gF;have TT:=ag (ai tP (ai tV (ai tH tU)));have CC:=ag (ai c0 (ai c1 (ai c2 (ai c3 (ai c4 (ai c5 (ai c6 c7)))))));have HX0:=ag hx
 let⟨T,eT⟩:=bG (!dn&&ltB P x0.path)
 clear db hx tP tV tH tU c0 c1 c2 c3 c4 c5 c6 c7;go_wp2_with fail;clear s5
 go_cut[65](λrv wc=>rv=.bool T/\Hid (Below wr.heap.size wr wc))
 case first=>(
 refine Qw ?_
 let⟨vB,hvB⟩:=aB wr.drew
 have Tp:=mX hvB;have BB:=ag Tp;have hD:=ae HD vB (aj aM Tp);refine WI (S:=λw'=>w'.cell? (Ad w.heap.size 5)=some (.T gn m d)/\w'.cell? (Ad gn (j*8))=some (.S pP x0.path.length cP)/\w'.cell? (Ad bz 0)=some (.S pa np ca)/\Rd w' (.S pP x0.path.length cP) x0.path/\Rd w' (.S pa np ca) P) bg (by rw[<-hvB];exact⟨hD.1.1.1.1.1 5 _ rfl,ah CC.1 Tp,hD.2.1.1 0 _ rfl,TT.1.1.below Tp,hD.2.2.1.1⟩) (λhS=>?_);rw[<-hvB]at hS⊢;clear hvB Tp hD;cases dn;{
 have HLT:Hid ((!Op.bytesLess (aP x0.path).toList (aP P).toList&&!(aP x0.path).toList==(aP P).toList)=T):=eT;refine mj 0 1 2 3 4 5 6 7 hS ?_;refine tn 8 hS ?_;refine xh (i:=9) (oi:=_) (v:=?_) (by simp only[xU,BM,BK];rfl) bg bg bg (λ_ _ _ h=>h) (Or.inl ⟨aJ,?_⟩) hS ?_;rotate_left;{(intro w' xx;(try dsimp only at xx);have hcv:=dQ rfl xx.2.2.2.1;go_simp;try with_reducible rfl)}
 simp only[Act.put,xa,xb,xc];refine jR 10 11 hS ?_;refine xh (i:=12) (oi:=_) (v:=?_) (by simp only[xU,BM,BK];rfl) bg bg bg (λ_ _ _ h=>h) (Or.inl ⟨aJ,?_⟩) hS ?_;rotate_left;{(intro w' xx;(try dsimp only at xx);have hcv:=dQ (ae eP) xx.2.2.2.2;go_simp;try with_reducible rfl)}
 simp only[Act.put,xa,xb,xc];refine xh (i:=13) (oi:=_) (v:=?_) (by simp only[xU,BM,BK];rfl) bg bg bg (λ_ _ _ h=>h) (Or.inl ⟨aJ,?_⟩) hS ?_;rotate_left;{(intro w' xx;(try dsimp only at xx);have hle:=ae HLT;go_simp;try with_reducible rfl)}
 simp only[Act.put,xa,xb,xc];refine tn 14 hS ?_;refine cY ?_;clear hS;go_wp2_with fail;go_meet;exact⟨rfl,BB⟩};{have Za:T=false:=eT.symm;subst Za;refine jR 0 1 hS ?_;refine tn 2 hS ?_;refine oQ 3 4 5 6 hS ?_;refine oQ 7 8 9 10 hS ?_;refine sn 11 hS ?_;refine sn 12 hS ?_;refine sn 13 hS ?_;refine tn 14 hS ?_;refine cY ?_;clear hS;go_wp2_with fail;go_meet;exact⟨rfl,BB⟩})
 case rest=>(
 obtain⟨wx,rfl⟩:=aB wc;obtain⟨rfl,hbx⟩:=hcut;have AR:=ag (aj aM hbx);have HO1:=ag (gq.fr ho (aO hbx));have zx:=hbx.size;clear TT CC ho;have s5:=(ae HD wx AR).1.1.1.1.1 5 _ rfl;cases T;{
 have E1:=ag (by have:=ae qV;rw[tY,bH (λh=>by obtain⟨ha,hb⟩:=h;have h2:=ae eT;rw[show dn=false from ha,show ltB P x0.path=true from hb]at h2;cases h2)]at this;exact this:Jk (ns.take (j+1)) (mH P V O)=(L++[x0],dn));obtain⟨gn',Pv,Vv,Hv,Uv,eg,-,-,c0,c1,c2,c3,c4,c5,c6,c7,tP,tV,tH,tU,-⟩:=gq.at (ae HD wx AR).1.2.2.1 HX0;obtain⟨rfl,-⟩:=yz eg;obtain⟨pP,cP,rfl⟩:=tP.gF;obtain⟨pV,cV,rfl⟩:=tV.gF;obtain⟨pH,cH,rfl⟩:=tH.gF;obtain⟨pU,cU,rfl⟩:=tU.gF;have TT:=ag (ai tP (ai tV (ai tH tU)));clear tP tV tH tU
 let⟨v8,Rj⟩:=aB (wx.alloc (.cells #[.S pP x0.path.length cP,.S pV x0.value.length cV,.U x0.owner,.I x0.mode,.S pH x0.holders.length cH,.U x0.aE,.U x0.gen,.S pU x0.watchers.length cU] 133))
 have b3:=dX Rj;have XP:=ag (ai (gq.fr (ae HO1) (aO b3)) (ai (show nQ B v8 x0 [.S pP x0.path.length cP,.S pV x0.value.length cV,.U x0.owner,.I x0.mode,.S pH x0.holders.length cH,.U x0.aE,.U x0.gen,.S pU x0.watchers.length cU]from⟨_,_,_,_,rfl,TB.fr TT.1 (aO b3),TB.fr TT.2.1 (aO b3),TU.fr TT.2.2.1 (aO b3),TU.fr TT.2.2.2 (aO b3)⟩) (show ar v8 wx.heap.size _ by rw[Rj];exact ar.alloc _ _ _)));have Rn:=ag λb e=>(HO1.lt b e).1;have b38:=ag b3;have z38:=b3.size;have zw8:=AR.size;clear b3;go_wp2_with(at_builtin;rw[<-Rj];refine gM rfl rfl (.S po nl co) lK rfl XP.1 wx.heap.size rfl XP.2.1 XP.2.2.1 af af ?_);intro p8 c8 w8 o2 gI _;rw[<-Rj]at gI;have b8:=ag ((aj AR b38).grown gI af Rn);have O8:=ag o2;clear gI o2 Rj XP Rn b38 c0 c1 c2 c3 c4 c5 c6 c7 s5;go_wp2;go_roundw;exact⟨j+1,_,dn,nl+1,_,_,af,by go_num,rfl,rfl,ag (by rw[gU,ae lK];rfl),E1,O8,b8⟩;exact cg};{
 have hdn:dn=false/\ltB P x0.path=true:=by have:=ae eT;cases dn<;>simp_all
 obtain⟨rfl,MZ⟩:=hdn;have E1:=ag (by have:=ae qV;rw[tY,bO ⟨rfl,MZ⟩]at this;exact this:Jk (ns.take (j+1)) (mH P V O)=(L++[(mH P V O)]++[x0],true));clear MZ;have CZ:=ag (ae HD wx AR).2.1;have n0:=CZ.1 0 _ rfl;have n1:=CZ.1 1 _ rfl;have n2:=CZ.1 2 _ rfl;have n3:=CZ.1 3 _ rfl;have n4:=CZ.1 4 _ rfl;have n5:=CZ.1 5 _ rfl;have n6:=CZ.1 6 _ rfl;have n7:=CZ.1 7 _ rfl
 let⟨v8,Rj⟩:=aB (wx.alloc (.cells #[.S pa np ca,.S pb nv cb,.U O,.I 0,aq,.U 0,.U 0,aq] 133))
 have b3:=dX Rj;have XP:=ag (ai (gq.fr (ae HO1) (aO b3)) (ai (show nQ B v8 (mH P V O) [.S pa np ca,.S pb nv cb,.U O,.I 0,aq,.U 0,.U 0,aq]from⟨_,_,_,_,rfl,TB.fr (ae HD wx (ae AR)).2.2.1 (aO b3),TB.fr (ae HD wx (ae AR)).2.2.2 (aO b3),TU.nil _,TU.nil _⟩) (show ar v8 wx.heap.size _ by rw[Rj];exact ar.alloc _ _ _)));have Rn:=ag λb e=>(HO1.lt b e).1;have b38:=ag b3;have z38:=b3.size;have zw8:=AR.size;clear b3;go_wp2_with(at_builtin;rw[<-Rj];refine gM rfl rfl (.S po nl co) lK rfl XP.1 wx.heap.size rfl XP.2.1 XP.2.2.1 af af ?_);intro p8 c8 w8 o2 gI _;rw[<-Rj]at gI;have b8:=ag ((aj AR b38).grown gI af Rn);have O8:=ag o2;clear gI o2 Rj XP Rn b38 n0 n1 n2 n3 n4 n5 n6 n7 s5 CZ;have bR6:=ag (by rw[gU,ae lK];rfl:(L++[(mH P V O)]).length=nl+1);have s5:=(ae HD w8 b8).1.1.1.1.1 5 _ rfl;obtain⟨gn',Pv,Vv,Hv,Uv,eg,-,-,c0,c1,c2,c3,c4,c5,c6,c7,tP,tV,tH,tU,-⟩:=gq.at (ae HD w8 b8).1.2.2.1 HX0;obtain⟨rfl,-⟩:=yz eg;obtain⟨pP,cP,rfl⟩:=tP.gF;obtain⟨pV,cV,rfl⟩:=tV.gF;obtain⟨pH,cH,rfl⟩:=tH.gF;obtain⟨pU,cU,rfl⟩:=tU.gF;have TT:=ag (ai tP (ai tV (ai tH tU)));clear tP tV tH tU
 let⟨v9,hv9⟩:=aB (w8.alloc (.cells #[.S pP x0.path.length cP,.S pV x0.value.length cV,.U x0.owner,.I x0.mode,.S pH x0.holders.length cH,.U x0.aE,.U x0.gen,.S pU x0.watchers.length cU] 133))
 have b3:=dX hv9;have HX9:=ag (ai (gq.fr (ae O8) (aO b3)) (ai (show nQ B v9 x0 [.S pP x0.path.length cP,.S pV x0.value.length cV,.U x0.owner,.I x0.mode,.S pH x0.holders.length cH,.U x0.aE,.U x0.gen,.S pU x0.watchers.length cU]from⟨_,_,_,_,rfl,TB.fr TT.1 (aO b3),TB.fr TT.2.1 (aO b3),TU.fr TT.2.2.1 (aO b3),TU.fr TT.2.2.2 (aO b3)⟩) (show ar v9 w8.heap.size _ by rw[hv9];exact ar.alloc _ _ _)));have bJ3:=ag λb e=>(O8.lt b e).1;have b39:=ag b3;have z39:=b3.size;have zw9:=b8.size;clear b3;go_wp2_with(at_builtin;rw[<-hv9];refine gM rfl rfl (.S p8 (nl+1) c8) bR6 rfl HX9.1 w8.heap.size rfl HX9.2.1 HX9.2.2.1 af af ?_);intro p9 c9 w9 o2 gI _;rw[<-hv9]at gI;have b9:=ag ((aj b8 b39).grown gI af bJ3);have O9:=ag o2;clear gI o2 hv9 HX9 bJ3 b39 c0 c1 c2 c3 c4 c5 c6 c7 s5;go_wp2;go_roundw;exact⟨j+1,_,true,nl+1+1,_,_,af,by go_num,rfl,rfl,ag (by rw[gU,ae bR6];rfl),E1,ag (by rw[sX];exact ae O9),b9⟩
 case measure=>simp[intOf];omega})}
 {
 have bL:=dB j m;have e1:=ae hL;rw[lD (by rw[ae em];omega)]at e1;have e2:=aL3 ns (mH P V O);rw[e1]at e2;have E2:=ag e2
 let⟨N,eN⟩:=bG (mQ (mH P V O) ns).length
 clear e1 e2
 go_upto_if 79 with fail
 clear s5
 go_cut[7](λov wc=>∃p' c',ov=.S p' N c'/\Hid (gq B wd.heap.size wc (.S p' N c') (mQ (mH P V O) ns))/\Hid (Below wd.heap.size wd wc))
 case first=>(
 cases dn;{
 have e2:L++[(mH P V O)]=mQ (mH P V O) ns:=ae E2;have eN1:nl+1=N:=by rw[<-ae eN,<-e2,gU,ae lK];rfl
 have EN:=ag (ai e2 eN1);clear e2 eN1;have CZ:=ag (ae HD wr aM).2.1;have n0:=CZ.1 0 _ rfl;have n1:=CZ.1 1 _ rfl;have n2:=CZ.1 2 _ rfl;have n3:=CZ.1 3 _ rfl;have n4:=CZ.1 4 _ rfl;have n5:=CZ.1 5 _ rfl;have n6:=CZ.1 6 _ rfl;have n7:=CZ.1 7 _ rfl
 let⟨v8,Rj⟩:=aB (wr.alloc (.cells #[.S pa np ca,.S pb nv cb,.U O,.I 0,aq,.U 0,.U 0,aq] 133))
 have b3:=dX Rj;have XP:=ag (ai (gq.fr (ae ho) (aO b3)) (ai (show nQ B v8 (mH P V O) [.S pa np ca,.S pb nv cb,.U O,.I 0,aq,.U 0,.U 0,aq]from⟨_,_,_,_,rfl,TB.fr (ae HD wr (ae aM)).2.2.1 (aO b3),TB.fr (ae HD wr (ae aM)).2.2.2 (aO b3),TU.nil _,TU.nil _⟩) (show ar v8 wr.heap.size _ by rw[Rj];exact ar.alloc _ _ _)));have Rn:=ag λb e=>(ho.lt b e).1;have b38:=ag b3;have z38:=b3.size;have zw8:=aM.size;clear b3;go_wp2_with(at_builtin;rw[<-Rj];refine gM rfl rfl (.S po nl co) lK rfl XP.1 wr.heap.size rfl XP.2.1 XP.2.2.1 af af ?_);intro p8 c8 w8 o2 gI _;rw[<-Rj]at gI;have b8:=ag ((aj aM b38).grown gI af Rn);have O8:=ag o2;clear gI o2 Rj XP Rn b38 n0 n1 n2 n3 n4 n5 n6 n7 CZ;go_wp2_with fail;go_meet;have o8:=ae O8;rw[EN.2,EN.1]at o8;exact⟨p8,c8,by rw[EN.2],ag o8,b8⟩};{
 have e2:L=mQ (mH P V O) ns:=ae E2;have eN1:nl=N:=by rw[<-ae eN,<-e2,ae lK]
 go_wp2_with fail;go_meet;have o8:=ae ho;rw[eN1,e2]at o8;exact⟨po,co,rfl,ag o8,aM⟩})
 case rest=>(
 obtain⟨wy,rfl⟩:=aB wc;obtain⟨p',c',rfl,NY,BY⟩:=hcut;obtain⟨LW,SW,-,-,-,BW⟩:=(ae HD wy BY).1
 let⟨k0,k1,k2,k3,k4,k5,kf⟩:=LW.1.cells
 let⟨q0,q1,q2,q3,q4,q5,qf⟩:=LW.2.2.1.cells
 let⟨r0,r1,r2,r3,r4,r5,r6,r7,rf⟩:=LW.2.2.2.cells
 let⟨fF,bF⟩:=LW.fin 5 (.S p' N c') (.U e) (.U g) (.U x) (.I t) (.S p n c) (.S p' N c') (.I 0) (.U 0) (.U 0) (.U 0) (.I 0) aS aS aS
 have HF:=ag (ai fF (ai bF (ai SW BW)));have zB:=BW.size;clear LW SW BW fF bF;go_wp2;refine dJ (v:=.tuple #[dZ e g x t (.S p n c) (.S p' N c'),yC 0 0 0 0 0 aS aS aS]) (by simp[results,results190,go_sem,k0,k1,k2,k3,k4,k5,q0,q1,q2,q3,q4,q5,r0,r1,r2,r3,r4,r5,r6,r7]) rfl ?_;rw[<-ae E7];exact QR.num en eN HF.2.2.1 (RT.mono NY af) (Fr.below HF.2.2.2) (HF.2.2.2.mono hB) HF.1 HF.2.1 hB 0 0 0 0 0)}}))}}}
def TX(w:World)(b:Nat)(st rs rp:List Value):Prop:=BX w b st/\BX w (b+1+1) rs/\RX w (b+1+1+1) rp
def TX.fr{T:List TypeId}{st rs rp:List Value}(h:TX w b st rs rp)(hf:Fr T w w')(ht:41∉T/\127∉T:=by decide):TX w' b st rs rp:=⟨h.1.fr hf ht.1,h.2.1.fr hf ht.1,h.2.2.fr hf ht.2⟩
def TX.fin{st:List Value}{p0 p1 p2 p3 p4 p5 p6 p7:Value}(h:TX w b st [o0,o1,o2,o3,o4,o5] [p0,p1,p2,p3,p4,p5,p6,p7])(v0 v1 v2 v3 v4 v5 r0 r1 r2 r3 r4 r5 r6 r7:Value):Fr [41,127] w (lu (dG w (b+1+1) v0 v1 v2 v3 v4 v5) (b+1+1+1) r0 r1 r2 r3 r4 r5 r6 r7)/\Below b w (lu (dG w (b+1+1) v0 v1 v2 v3 v4 v5) (b+1+1+1) r0 r1 r2 r3 r4 r5 r6 r7):=by
 have f2:Fr [41] w (dG w (b+1+1) v0 v1 v2 v3 v4 v5):=by obtain⟨-,cur,ht⟩:=h.2.1;exact ju ht
 have f3:=((h.2.2.fr f2).put r0 r1 r2 r3 r4 r5 r6 r7).2;exact⟨(f2.sub al).trans (f3.sub al),((dr _ _ _ _ _ _ _).mono af).trans ((dm).mono af)⟩
def TX.put{s0 s1 s2 s3 s4 s5:Value}(h:TX w b [s0,s1,s2,s3,s4,s5] rs rp)(v0 v1 v2 v3 v4 v5:Value):TX (dG w b v0 v1 v2 v3 v4 v5) b [v0,v1,v2,v3,v4,v5] rs rp/\Fr [41] w (dG w b v0 v1 v2 v3 v4 v5)/\Below b w (dG w b v0 v1 v2 v3 v4 v5):=by
 have f2:Fr [41] w (dG w b v0 v1 v2 v3 v4 v5):=by obtain⟨-,cur,ht⟩:=h.1;exact ju ht
 exact⟨⟨h.1.put _ _ _ _ _ _,h.2.1.yv af _ _ _ _ _ _,h.2.2.fr f2⟩,f2,dr _ _ _ _ _ _ _⟩
def QR.low{w3:World}(h:QR B w1 w2 r D R)(hF:Fr [189,132,133] w w1)(hB:Below B w w1)(f:Fr [41,127] w2 w3)(b:Below w.heap.size w2 w3)(hle:B<=w.heap.size):QR B w w3 r D R:=by
 obtain⟨p,c,q,d,Dv,Nv,Ev,Qs,e,hS,hN,tD,tN,tE,hF2,jg⟩:=h;exact⟨p,c,q,d,Dv,Nv,Ev,Qs,e,hS.fr f,gq.fr hN f,tD.fr f,TN.fr tN f bj,Ll.fr tE f,(hF.trans hF2).low b,(hB.trans jg).trans (b.mono hle)⟩
def UI(en:Le ss n)(em:Le ns m)(hk:Hid (ns[k]?=some nd))(eV:Le V nv)(hS:Hid (kq B w (.S p n c) ss Qs))(hN:Hid (AI B w (.S q m d) ns))(hV:Hid (Rd w (.S pq nv cv) V))(hB:B<=w.heap.size)(hn:Mg n)(hm:Mg m)(hnb:Hid (NBo nd))(hvl:Hid (nd.value.length<=1048576))(hv:nv<=1048576)(hPB:Hid (PPB ns))(hg:0<=g/\g<=2^62)(hex:Hid (nd.mode=1->nd.holders≠[])){R:SD×RP}(hj:Hid (K=5\/K=7\/K=8\/K=9))(eR:Hid (xg ⟨e,g,x,t,ss,ns⟩ k K S F V=R)):Calls prog 193 #[dZ e g x t (.S p n c) (.S q m d),.I k,IE K S (.S pp np cp) F (.S pq nv cv) E G] w λr w'=>QR B w w' r R.1 R.2:=by
 obtain⟨gn,Pv,Vv,Hv,Uv,rfl,-,-,c0,c1,c2,c3,c4,c5,c6,c7,tP,tV,tH,tU,-⟩:=gq.at hN hk;have hkm:k<m:=by rw[<-ae em];exact(aV.1 (ae hk)).1
 have bi2:=aU k m;obtain⟨pP,cP,rfl⟩:=tP.gF;obtain⟨pV,cV,rfl⟩:=tV.gF;obtain⟨pH,cH,rfl⟩:=tH.gF;obtain⟨pU,cU,rfl⟩:=tU.gF
 let⟨nP,eP⟩:=bG nd.path.length
 let⟨nV,eW⟩:=bG nd.value.length
 let⟨nU,eU⟩:=bG nd.watchers.length
 let⟨nh,eH⟩:=bG nd.holders.length
 let⟨aG,aK,br⟩:=ae hnb
 have fy:=ae hvl;rw[ae eP]at c0 tP aG;rw[ae eW]at c1 tV fy;rw[ae eH]at c4 tH br;rw[ae eU]at c7 tU aK;have ZW:gn<w.heap.size:=(hN.lt gn rfl).2;have Oq:=(hN.lt gn rfl).1
 let⟨W0,fL,b0,z0,C0⟩:=jB w (.U e) (.U g) (.U x) (.I t) (.S p n c) (.T gn m d)
 obtain⟨W1,mg,b1,z1,C1,-⟩:=au W0 #[.I K,.U S,.S pp np cp,.I F,.S pq nv cv,.U E,.U G] 121
 let⟨W2,mu,b2,z2,C2⟩:=sr W1
 let⟨W3,we,b3,z3,C3⟩:=rE W2 (.I 0) (.U 0) (.U 0) (.U 0) (.I 0) aS aS aS
 let⟨W4,hW4,b4,z4,C4,T4⟩:=au W3 #[.S pP nP cP,.S pV nV cV,.U nd.owner,.I nd.mode,.S pH nh cH,.U nd.aE,.U nd.gen,.S pU nU cU] 133
 rw[z0]at C1 z1;rw[z1]at C2 z2;rw[z2]at C3 z3;rw[z3]at C4 T4 z4;have NT4:=ag T4;have LQ:LB W4 w.heap.size _ _ _ _ _:=⟨(((C0.below b1).below b2).below b3).below b4,((C1.below af b2).below af b3).below af b4,(C2.below b3).below b4,C3.below b4,C4⟩;have bW:=aj (aj (aj (aj b0 b1) b2) b3) b4;have HA:=ag (λ(v:World)(hv:Bw W4 v)=>ai (LB.keep LQ (λj h1 h2=>hv.block j af)) (ai (hS.fr (aO (aj bW hv))) (ai (gq.fr (ae hN) (aO (aj bW hv))) (ai (ai (tP.fr (aO (aj bW hv))) (ai (tV.fr (aO (aj bW hv))) (ai (tH.fr (aO (aj bW hv))) (tU.fr (aO (aj bW hv)))))) (ai (hV.below (aj bW hv)) (aj bW hv))))));have aW:=λ(o1 o2 o3 o4:Obj)=>((((cQ w.heap.size w).alloc ay o1).alloc al o2).alloc bq o3).alloc bq o4;have m0:=λ(o1 o2 o3 o4:Obj)=>ah c0 (aW o1 o2 o3 o4);have m1:=λ(o1 o2 o3 o4:Obj)=>ah c1 (aW o1 o2 o3 o4);have m2:=λ(o1 o2 o3 o4:Obj)=>ah c2 (aW o1 o2 o3 o4);have m3:=λ(o1 o2 o3 o4:Obj)=>ah c3 (aW o1 o2 o3 o4);have m4:=λ(o1 o2 o3 o4:Obj)=>ah c4 (aW o1 o2 o3 o4);have m5:=λ(o1 o2 o3 o4:Obj)=>ah c5 (aW o1 o2 o3 o4);have m6:=λ(o1 o2 o3 o4:Obj)=>ah c6 (aW o1 o2 o3 o4);have m7:=λ(o1 o2 o3 o4:Obj)=>ah c7 (aW o1 o2 o3 o4);clear b0 b1 b2 b3 b4 C0 C1 C2 C3 C4 T4 c0 c1 c2 c3 c4 c5 c6 c7 tP tV tH tU aW LQ bW;have hR:=ae eR;unfold xg at hR;simp only[ae hk]at hR;have HR:=ag hR;clear hR
 go_in
 go_upto_if 16 with fail
 rw[<-fL,<-mg,<-mu,<-we,<-hW4];clear fL mg mu we hW4 m0 m1 m2 m3 m4 m5 m6 m7;have BR:=ag (cQ W4.heap.size W4);obtain⟨L4,-,-,-,-,-⟩:=ae HA W4 BR;have o0:=L4.2.1.1 0 _ rfl;have o1:=L4.2.1.1 1 _ rfl;have o2:=L4.2.1.1 2 _ rfl;have o3:=L4.2.1.1 3 _ rfl;have o4:=L4.2.1.1 4 _ rfl;have o5:=L4.2.1.1 5 _ rfl;have o6:=L4.2.1.1 6 _ rfl;have n0:=L4.2.2.2.2.1 0 _ rfl;have n4:=L4.2.2.2.2.1 4 _ rfl
 let⟨k0,k1,k2,k3,k4,k5,kf⟩:=L4.1.cells
 clear L4;by_cases hK5:K=5;{
 have bk8:(K==5)=true:=by simp[hK5]
 have e9:=ae HR;rw[bO hK5]at e9;have E8:=ag e9;clear e9 HR hK5
 let⟨L,eL⟩:=bG (jH ns nd.path)
 let⟨nl,lK⟩:=bG L.length
 go_wp2_with fail;obtain⟨-,-,N4,T4,-,-⟩:=ae HA W4 BR;refine(NI em eP (ag N4) (ag T4.1.1) (ae hPB nd (aT (ae hk))).2.1 hPB hm eL).mono ?_;rintro r w1⟨p1,c1,rfl,-,aG⟩;have B1:=ag aG;rw[ae lK];clear N4 T4 aG o0 o1 o2 o3 o4 o5 o6 n0 n4 k0 k1 k2 k3 k4 k5 kf;have e9:=ae E8;by_cases Fa:nl=0;{
 have hL0:L=[]:=r8.1 (lK.trans Fa);rw[ae eL,hL0,bH al]at e9;have E7:=ag e9;have cA5:¬(0:Int)<(nl:Int):=af;clear e9 E8 Fa;obtain⟨L1,-,-,T1,-,-⟩:=ae HA w1 B1;have o1:=L1.2.1.1 1 _ rfl;have n0:=L1.2.2.2.2.1 0 _ rfl;have n1:=L1.2.2.2.2.1 1 _ rfl;have n2:=L1.2.2.2.2.1 2 _ rfl;have n3:=L1.2.2.2.2.1 3 _ rfl;have n4:=L1.2.2.2.2.1 4 _ rfl;have n5:=L1.2.2.2.2.1 5 _ rfl;have n6:=L1.2.2.2.2.1 6 _ rfl;have n7:=L1.2.2.2.2.1 7 _ rfl;have HU:=ag T1.2.2.1.1;clear L1 T1;go_wp2_with fail;refine(au2 (P:=.S pP nP cP) (V:=.S pV nV cV) (H:=.S pH nh cH) (U:=.S pU nU cU) eH HU rfl rfl rfl).mono ?_;rintro r w2⟨rfl,aK⟩;have B2:=ag (aj B1 aK)
 let⟨fb,efb⟩:=bG (mV nd S)
 have e9:=ae E7;rw[ae efb]at e9⊢;clear aK B1 o1 n0 n1 n2 n3 n4 n5 n6 n7 E7;cases fb;{rw[bO rfl]at e9;have E9:=ag e9;clear e9;go_wp2_with fail;obtain⟨LW,SW,NW,-,-,BW⟩:=ae HA w2 B2;exact rq 3 6 7 30 31 9 results193 LW.1 LW.2.2.1 LW.2.2.2.1 en em SW NW (Fr.below BW) (BW.mono hB) hB E9};{
 rw[bH al]at e9;have E9:=ag e9;clear e9;obtain⟨L2,S2,N2,-,-,bw2⟩:=ae HA w2 B2;have z2':=bw2.size;have TX2:=ag (show TX w2 w.heap.size _ _ _ from⟨L2.1,L2.2.2.1,L2.2.2.2.1⟩)
 let⟨k0,k1,k2,k3,k4,k5,kf⟩:=L2.1.cells
 have AO:=ag bw2;have tJ:=ag S2;have AZ:=ag N2;go_wp2_with fail;refine(yO e g x t en 2 nd hk B w2 tJ AZ af hn hm (by rw[ae eP];exact aG) (by rw[ae eU];exact aK)).mono ?_;rintro r w3⟨rfl,⟨Q3,hS3⟩,JA,Ht,Jz⟩;have TX3:=ag (TX.fr TX2 Ht bj)
 let⟨TXp,fp,bp⟩:=TX.put TX3 (.U e) (.U g) (.U x) (.I t) (.S p n c) (.T gn m d)
 let⟨X,hX⟩:=aB (dG w3 w.heap.size (.U e) (.U g) (.U x) (.I t) (.S p n c) (.T gn m d))
 rw[<-hX]at TXp fp bp;have zX:=bp.size;have zf:=Ht.1;have HX:=ag (ai TXp (ai (hS3.fr fp) (ai (gq.fr JA fp) (ai (Fr.low ((Fr.below (ae AO)).trans Ht) bp) (((AO.mono hB).trans Jz).trans (bp.mono hB))))))
 let⟨s0,s1,s2,s3,s4,s5,sf⟩:=TX3.1.cells
 let⟨y0,y1,y2,y3,y4,y5,yf⟩:=TXp.1.cells
 unfold dG at hX;go_wp2_with fail;rw[<-hX];refine(Ge (ag (by rw[pR];exact ae em)) (ag HX.2.2.1) hm).mono ?_;rintro r w4⟨p4,c4,rfl,hN4,aN2⟩;obtain⟨M,eM⟩:∃M,M=(ns.set k {nd with watchers:=[]}).eraseIdx k:=⟨_,rfl⟩
 let⟨N,eN⟩:=bG M.length
 rw[<-eM,ae eN]at hN4⊢;have rF:=ag (TX.fr HX.1 (aO aN2) bj)
 let⟨k0,k1,k2,k3,k4,k5,kf⟩:=rF.1.cells
 let⟨q0,q1,q2,q3,q4,q5,qf⟩:=rF.2.1.cells
 let⟨r0,r1,r2,r3,r4,r5,r6,r7,rf⟩:=rF.2.2.cells
 have HZ:=ag (ai (HX.2.1.fr (aO aN2)) (ai (RT.mono hN4 af:AI B w4 (.S p4 N c4) M) (ai (HX.2.2.2.1.trans (Fr.below aN2)) (HX.2.2.2.2.trans (aN2.mono af)))));have HE:=ag eM;go_wp2
 let⟨fF,bF⟩:=TX.fin rF (.U e) (.U g) (.U x) (.I t) (.S p n c) (.S p4 N c4) (.I 0) (.U 0) (.U 0) (.U 0) (.I 0) aS aS aS
 refine dJ (v:=.tuple #[dZ e g x t (.S p n c) (.S p4 N c4),yC 0 0 0 0 0 aS aS aS]) (by simp[results,results193,go_sem,k0,k1,k2,k3,k4,k5,q0,q1,q2,q3,q4,q5,r0,r1,r2,r3,r4,r5,r6,r7]) rfl ?_;rw[<-ae E9,Fz (ae hk)];have hQ:=QR.num (e:=e) (g:=g) (x:=x) (t:=t) (ag ((vw _ _ _).trans en)) eN HZ.1 HZ.2.1 HZ.2.2.1 HZ.2.2.2 fF bF hB 0 0 0 0 0;rw[ae HE]at hQ;exact hQ}};{have hL0:¬L=[]:=λh=>Fa (by rw[<-ae lK,h];rfl);rw[ae eL,bO hL0]at e9;have E9:=ag e9;have cA5:=mW 0 nl;go_wp2_with fail;obtain⟨LW,SW,NW,-,-,BW⟩:=ae HA w1 B1;exact rq 3 6 7 23 24 8 results193 LW.1 LW.2.2.1 LW.2.2.2.1 en em SW NW (Fr.below BW) (BW.mono hB) hB E9}};{
 by_cases hK6:K=6;{have h9:=ae hj;omega};{
 by_cases hK7:K=7;{
 skip
 have bk8:(K==5)=false:=by simp[hK5]
 have bO7:(K==6)=false:=by simp[hK6]
 have bO6:(K==7)=true:=by simp[hK7]
 have e9:=ae HR;rw[bH hK5,bH hK6,bO hK7]at e9;have E8:=ag e9;obtain⟨T,eT⟩:∃T,Hid ((decide (nd.mode=1)&&!(nd.holders.headD 0==S))=T):=⟨_,ag rfl⟩;go_wp2_with fail
 go_cut[69](λrv wc=>rv=.bool T/\Hid (Bw W4 wc))
 case first=>(
 let⟨vA,je⟩:=aB W4.drew
 have gL:=mX je;have BA:=ag gL;obtain⟨L1,-,-,T1,-,-⟩:=ae HA vA gL;have N3:=ag (ai (L1.2.2.2.2.1 3 _ rfl) (ai (L1.2.2.2.2.1 4 _ rfl) (L1.2.1.1 1 _ rfl)));have TH:=ag T1.2.2.1.1;refine Qw ?_;by_cases EW:nd.mode=1;{
 have bi0:(nd.mode==1)=true:=by simp[EW]
 let⟨hd,tl,ehd⟩:=bE9 (ae hex EW)
 have hT:(!(hd==S))=T:=by rw[<-ae eT,ehd];simp[EW]
 let⟨bh,oh,ebh,ch⟩:=TH.at (k:=0) (x:=hd) (by rw[ehd];rfl)
 have hnh:0<nh:=by rw[<-ae eH,ehd];simp
 have dQ2:=mW 0 nh;rw[uP]at ch;subst ebh;refine WI (S:=λw'=>w'.cell? (Ad (w.heap.size+1+1+1+1) 3)=some (.I nd.mode)/\w'.cell? (Ad (w.heap.size+1+1+1+1) 4)=some (.S (some (Ad bh oh)) nh cH)/\w'.cell? (Ad (w.heap.size+1) 1)=some (.U S)/\w'.cell? (Ad bh oh)=some (.U hd)) bg (by rw[<-je];exact⟨N3.1,N3.2.1,N3.2.2,ch⟩) (λhS=>?_);rw[<-je]at hS⊢;by_cases hx:hd=S;{
 have YI:(hd != S)=false:=by simp[hx]
 have Za:T=false:=by rw[<-hT];simp[hx]
 subst Za;refine mj 0 1 2 3 4 5 6 7 hS ?_;refine lG 8 9 10 11 hS ?_;refine cY ?_;go_wp2_with fail;go_meet;exact⟨rfl,BA⟩};{
 have YI:(hd != S)=true:=by simp[hx]
 have Za:T=true:=by rw[<-hT];simp[hx]
 subst Za;refine mj 0 1 2 3 4 5 6 7 hS ?_;refine lG 8 9 10 11 hS ?_;refine cY ?_;go_wp2_with fail;go_meet;exact⟨rfl,BA⟩}};{
 have bi0:(nd.mode==1)=false:=by simp[EW]
 have Za:T=false:=by rw[<-ae eT];simp[EW]
 subst Za;refine WI (S:=λw'=>w'.cell? (Ad (w.heap.size+1+1+1+1) 3)=some (.I nd.mode)) bg (by rw[<-je];exact N3.1) (λhS=>?_);rw[<-je]at hS⊢;refine lG 0 1 2 3 hS ?_;refine oQ 4 5 6 7 hS ?_;refine sn 8 hS ?_;refine sn 9 hS ?_;refine sn 10 hS ?_;refine tn 11 hS ?_;refine cY ?_;go_wp2_with fail;go_meet;exact⟨rfl,BA⟩})
 case rest=>(
 obtain⟨w1,rfl⟩:=aB wc;obtain⟨rfl,B1⟩:=hcut;have e9:=ae E8;have z1':=B1.size;cases T;{
 rw[bH (λh=>by have h3:=ae eT;rw[BJ h.1,pQ]at h3;exact h.2 (eq_of_beq (by cases hh:(nd.holders.headD 0==S)with|true=>rfl|false=>rw[hh]at h3;cases h3)))]at e9;have E9:=ag e9;go_wp2_with fail
 let⟨vA,je⟩:=aB w1.drew
 have gL:Bw W4 vA:=aj (ae B1) (by rw[je];exact aA.drew);have BA:=ag gL;have SA:=ag (λ(v:World)(hL:LB v w.heap.size [.U e,.U g,.U x,.I t,.S p n c,.T gn m d] [.I K,.U S,.S pp np cp,.I F,.S pq nv cv,.U E,.U G] [.U 0,.U 0,.U 0,.I 0,aq,aq] [.I 0,.U 0,.U 0,.U 0,.I 0,aS,aS,aS] [.S pP nP cP,.S pV nV cV,.U nd.owner,.I nd.mode,.S pH nh cH,.U nd.aE,.U nd.gen,.S pU nU cU])=>ai (hL.1.1.1 5 _ rfl) (hL.2.1.1 4 _ rfl));refine du (λw'=>w'.cell? (Ad w.heap.size 5)=some (.T gn m d)/\w'.cell? (Ad (w.heap.size+1) 4)=some (.S pq nv cv)) (by rw[<-je];exact ae SA vA (ae HA vA gL).1) λhS=>?_;rw[<-je]at hS⊢;refine lG 0 1 2 3 hS ?_;refine tn 4 hS ?_;refine cX 5 λKK hK=>?_;refine iw (iT eV (ae HA vA BA).2.2.2.2.1 af) ?_;rintro r v1⟨pa,ca,rfl,oa,DE⟩;refine⟨_,rfl,?_⟩;have B2:=ag (aj BA DE);have OA:=ag oa.tb;have z2':=B2.size;refine fh hK (by exact SA v1 (ae HA v1 B2).1) λhS=>?_;clear hK KK DE oa;refine jR 6 7 hS ?_;refine cX 8 λKK hK=>?_;obtain⟨LV,SV,NV,-,-,bV⟩:=ae HA v1 B2;obtain⟨gn',P',V',H',U',eg,-,-,-,d1,-,-,-,-,-,-,-,-,-,-,dfz⟩:=gq.at NV hk;obtain⟨rfl,-⟩:=yz eg;have fz4:=dfz (k*8+1);have HV1:=ag (ai LV (ai SV (ai NV bV)));clear NV LV SV bV dfz;go_simp
 let⟨N4,F4⟩:=gq.put HV1.2.2.1 hk (j:=1) af (.S pa nv ca) {nd with value:=V} (λw' P V H U h1 h2 h3 h4 hf=>⟨P,.S pa nv ca,H,U,rfl,h1,OA.fr hf,h3,h4⟩)
 let⟨Z,hZ⟩:=aB (v1.setCell (Ad gn (k*8+1)) (.S pa nv ca))
 have LZ:=LB.keep (w'':=Z) HV1.1 (λj h1 h2=>by rw[hZ];exact ga _ _ _ _ (by show j≠gn;omega));have BZ:Below B w Z:=by rw[hZ];exact(HV1.2.2.2.mono hB).setCell (p:=(Ad gn _)) Oq _
 rw[<-hZ]at N4 F4⊢;have zZ:=F4.1;have HZ:=ag (ai (show TX Z w.heap.size _ _ _ from⟨LZ.1,LZ.2.2.1,LZ.2.2.2.1⟩) (ai (HV1.2.1.fr F4) (ai N4 (ai ((Fr.below (T:=[189,132,133]) HV1.2.2.2).trans (F4.sub al)) BZ))));refine fh hK (by exact SA Z LZ) λhS=>?_;clear hK KK hZ N4 F4 LZ BZ d1 fz4 HV1;refine cY ?_;clear hS SA
 let⟨k0,k1,k2,k3,k4,k5,kf⟩:=HZ.1.1.cells
 have hk':=ag (bM hk {nd with value:=V});go_wp2_with fail;refine(yO e g x t (p:=p) (c:=c) (q:=some (Ad gn 0)) (m:=m) (d:=d) (Qs:=Qs) (ns:=ns.set k {nd with value:=V}) en (k:=k) 1 {nd with value:=V} hk' B Z (ag HZ.2.1) (ag HZ.2.2.1) af hn hm (by show nd.path.length<=_;rw[ae eP];exact aG) (by show nd.watchers.length<=_;rw[ae eU];exact aK)).mono ?_;rintro r w3⟨rfl,⟨Q3,hS3⟩,JA,Ht,Jz⟩;have rF:=ag (TX.fr HZ.1 Ht bj);clear k0 k1 k2 k3 k4 k5 kf
 let⟨k0,k1,k2,k3,k4,k5,kf⟩:=rF.1.cells
 let⟨q0,q1,q2,q3,q4,q5,qf⟩:=rF.2.1.cells
 let⟨r0,r1,r2,r3,r4,r5,r6,r7,rf⟩:=rF.2.2.cells
 have HY:=ag (ai hS3 (ai JA (ai (HZ.2.2.2.1.trans Ht) (HZ.2.2.2.2.trans Jz))));clear hS3 JA Ht Jz;go_wp2
 let⟨fF,bF⟩:=TX.fin rF (.U e) (.U g) (.U x) (.I t) (.S p n c) (.T gn m d) (.I 0) (.U 0) (.U 0) (.U 0) (.I 0) aS aS aS
 refine dJ (v:=.tuple #[dZ e g x t (.S p n c) (.T gn m d),yC 0 0 0 0 0 aS aS aS]) (by simp[results,results193,go_sem,q0,q1,q2,q3,q4,q5,r0,r1,r2,r3,r4,r5,r6,r7]) rfl ?_;rw[<-ae E9,Fz (ae hk')];exact QR.num (e:=e) (g:=g) (x:=x) (t:=t) (ag ((vw _ _ _).trans (ae en))) (ag (by rw[pR,pR];exact ae em)) HY.1 HY.2.1 HY.2.2.1 HY.2.2.2 fF bF hB 0 0 0 0 0};{rw[bO (by have h3:=ae eT;obtain⟨ha,hb⟩:=Bool.and_eq_true_iff.1 h3;exact⟨QA ha,λhc=>by rw[hc]at hb;simp at hb⟩)]at e9;have E9:=ag e9;go_wp2_with fail;obtain⟨LW,SW,NW,-,-,BW⟩:=ae HA w1 B1;exact rq 3 6 7 70 71 9 results193 LW.1 LW.2.2.1 LW.2.2.2.1 en em SW NW (Fr.below BW) (BW.mono hB) hB E9})}
 {
 by_cases hK8:K=8;{
 skip
 have bk8:(K==5)=false:=by simp[hK5]
 have bO7:(K==6)=false:=by simp[hK6]
 have bO6:(K==7)=false:=by simp[hK7]
 have cI0:(K==8)=true:=by simp[hK8]
 have e9:=ae HR;rw[bH hK5,bH hK6,bH hK7,bO hK8]at e9;have E8:=ag e9;go_wp2_with fail;obtain⟨L4,S4,N4,-,-,bw4⟩:=ae HA W4 BR;have z4':=bw4.size;refine(am3 en em hk (ag S4) (ag N4) af hm (by rw[ae eH];exact br) hg E8).mono ?_;rintro r w2⟨p',c',q',d',Dv,Nv,Ev,Wc,rfl,IJ,DG,tD,tN,tE,hF,rI⟩;have rF:=ag (TX.fr (show TX W4 w.heap.size _ _ _ from⟨L4.1,L4.2.2.1,L4.2.2.2.1⟩) hF bj);have HQ:=ag (show QR B W4 w2 _ R.1 R.2 from⟨p',c',q',d',Dv,Nv,Ev,Wc,rfl,IJ,DG,tD,tN,tE,hF,rI⟩);obtain⟨dp,dc,rfl⟩:=tD.gF;obtain⟨xp,xc,rfl,-⟩:=RT.form tN;obtain⟨yp,yc,rfl,-⟩:=RT.form tE;have BW:=ag bw4
 let⟨k0,k1,k2,k3,k4,k5,kf⟩:=rF.1.cells
 let⟨q0,q1,q2,q3,q4,q5,qf⟩:=rF.2.1.cells
 let⟨r0,r1,r2,r3,r4,r5,r6,r7,rf⟩:=rF.2.2.cells
 go_wp2
 let⟨fF,bF⟩:=TX.fin rF (.U R.1.e) (.U R.1.g) (.U R.1.x) (.I R.1.t) (.S p' R.1.ss.length c') (.S q' R.1.ns.length d') (.I R.2.k) (.U R.2.i) (.U R.2.e) (.U R.2.g) (.I R.2.n) (.S dp R.2.Oy.length dc) (.S xp R.2.nms.length xc) (.S yp R.2.Np.length yc)
 refine dJ (v:=.tuple #[dZ R.1.e R.1.g R.1.x R.1.t (.S p' R.1.ss.length c') (.S q' R.1.ns.length d'),yC R.2.k R.2.i R.2.e R.2.g R.2.n (.S dp R.2.Oy.length dc) (.S xp R.2.nms.length xc) (.S yp R.2.Np.length yc)]) (by simp[results,results193,go_sem,q0,q1,q2,q3,q4,q5,r0,r1,r2,r3,r4,r5,r6,r7]) rfl ?_;exact QR.low HQ (Fr.below BW) (BW.mono hB) fF bF hB};{
 by_cases hK9:K=9;{
 skip
 have bk8:(K==5)=false:=by simp[hK5]
 have bO7:(K==6)=false:=by simp[hK6]
 have bO6:(K==7)=false:=by simp[hK7]
 have cI0:(K==8)=false:=by simp[hK8]
 have dY2:(K==9)=true:=by simp[hK9]
 have e9:=ae HR;rw[bH hK5,bH hK6,bH hK7,bH hK8,bO hK9]at e9;have E8:=ag e9
 let⟨bo,YP⟩:=bG (nd.holders.contains S)
 go_wp2_with fail;refine(Cg eH (ae HA W4 BR).2.2.2.1.2.2.1.1 br YP).mono ?_;rintro r w1⟨rfl,bM8⟩;have B1:=ag bM8;have z1':=bM8.size;have e9:=ae E8;rw[ae YP]at e9;cases bo;{rw[bH al]at e9;have E9:=ag e9;go_wp2_with fail;obtain⟨LW,SW,NW,-,-,BW⟩:=ae HA w1 B1;exact rq 3 6 7 102 103 10 results193 LW.1 LW.2.2.1 LW.2.2.2.1 en em SW NW (Fr.below BW) (BW.mono hB) hB E9};{
 rw[bO rfl]at e9;have E9:=ag e9;obtain⟨L1,S1,N1,-,-,bw1⟩:=ae HA w1 B1
 let⟨k0,k1,k2,k3,k4,k5,kf⟩:=L1.1.cells
 have o1:=L1.2.1.1 1 _ rfl;have TX1:=ag (show TX w1 w.heap.size _ _ _ from⟨L1.1,L1.2.2.1,L1.2.2.2.1⟩);have H1:=ag (ai S1 (ai N1 bw1));have zb1:=bw1.size;go_wp2_with fail;refine(Sc en hk (ag H1.1) (ag H1.2.1) af hn hm (by rw[ae eP];exact aG) (by rw[ae eU];exact aK) (by rw[ae eH];exact br)).mono ?_;rintro r w3⟨rfl,⟨Q3,hS3⟩,JA,Ht,Jz⟩;obtain⟨JS,ns1,lr,eD,el1,el2,-,-,-⟩:=Sd (e:=e) (g:=g) (x:=x) (t:=t) (ss:=ss) hk S;rw[eD]at hS3 JA;have rF:=ag (TX.fr TX1 Ht bj)
 let⟨k0,k1,k2,k3,k4,k5,kf⟩:=rF.1.cells
 let⟨q0,q1,q2,q3,q4,q5,qf⟩:=rF.2.1.cells
 let⟨r0,r1,r2,r3,r4,r5,r6,r7,rf⟩:=rF.2.2.cells
 have HY:=ag (ai hS3 (ai JA (ai ((Fr.below H1.2.2).trans Ht) ((H1.2.2.mono hB).trans Jz))));have HE:=ag (ai eD (ai el1 el2));go_wp2
 let⟨fF,bF⟩:=TX.fin rF (.U e) (.U g) (.U x) (.I t) (.S p n c) (.T gn m d) (.I 0) (.U 0) (.U 0) (.U 0) (.I 0) aS aS aS
 refine dJ (v:=.tuple #[dZ e g x t (.S p n c) (.T gn m d),yC 0 0 0 0 0 aS aS aS]) (by simp[results,results193,go_sem,q0,q1,q2,q3,q4,q5,r0,r1,r2,r3,r4,r5,r6,r7]) rfl ?_;rw[<-ae E9,HE.1];exact QR.num (e:=e) (g:=g) (x:=x) (t:=t) (ag (HE.2.1.trans en)) (ag (HE.2.2.trans em)) HY.1 HY.2.1 HY.2.2.1 HY.2.2.2 fF bF hB 0 0 0 0 0}};{have h9:=ae hj;omega}}}}}
def ag8(en:Le ss n)(em:Le ns m)(hS:Hid (kq B w (.S p n c) ss Qs))(hN:Hid (AI B w (.S q m d) ns))(hB:B<=w.heap.size)(hn:Mg n)(hx:0<=x/\x<=2^62)(ht:0<=t/\t<=1000000):Calls prog 187 #[dZ e g x t (.S p n c) (.S q m d)] w λr w'=>QR B w w' r (pL ⟨e,g,x,t,ss,ns⟩).1 (pL ⟨e,g,x,t,ss,ns⟩).2:=by
 let⟨W0,fL,b0,z0,C0⟩:=jB w (.U e) (.U g) (.U x) (.I t) (.S p n c) (.S q m d)
 let⟨W1,mg,b1,z1,C1⟩:=sr W0
 let⟨W2,mu,b2,z2,C2⟩:=rE W1 (.I 0) (.U 0) (.U 0) (.U 0) (.I 0) aS aS aS
 rw[z0]at C1 z1;rw[z1]at C2 z2;have HC:=ag (ai ((C0.below b1).below b2) (ai (C1.below b2) C2));have bW:=ag (aj (aj b0 b1) b2);have HS:=ag (ai (hS.fr (aO (ae bW))) (hN.fr (aO (ae bW))))
 go_in
 by_cases h50:50<=n;{
 have bl9:decide ((50:Int)<=(n:Int))=true:=by simp;omega
 have hI:pL ⟨e,g,x,t,ss,ns⟩=(⟨e,g,x,t,ss,ns⟩,AV 11):=by unfold pL;rw[bO (by simpa[ae en]using h50)]
 rw[hI];go_wp2_with fail;rw[<-fL,<-mg,<-mu];refine Gd 1 w.heap.size bg rfl (λ_ _=>rfl) (λ_ _=>rfl) (λ_ _=>rfl) (λ_ _=>rfl) HC.1 HC.2.1 HC.2.2 af (B:=w.heap.size) af af ?_;intro w' aG KL f1 bl1;have HQ:=ag (QR.num (e:=e) (g:=g) (x:=x) (t:=t) en em HS.1 HS.2 (Fr.below bW) (bW.mono hB) f1 bl1 hB 11 0 0 0 0)
 let⟨q0,q1,q2,q3,q4,q5,qf⟩:=aG.cells
 let⟨r0,r1,r2,r3,r4,r5,r6,r7,rf⟩:=KL.cells
 simp only[Act.put,xa,xb,xc];go_wp2;exact dJ (v:=.tuple #[dZ e g x t (.S p n c) (.S q m d),yC 11 0 0 0 0 aS aS aS]) (by simp[results,results187,go_sem,q0,q1,q2,q3,q4,q5,r0,r1,r2,r3,r4,r5,r6,r7]) rfl (ae HQ)};{
 have bl9:decide ((50:Int)<=(n:Int))=false:=by simp;omega
 by_cases hx2:4611686018427387904<=x;{
 have cv8:decide (4611686018427387904<=x)=true:=by simp;omega
 have hI:pL ⟨e,g,x,t,ss,ns⟩=(⟨e,g,x,t,ss,ns⟩,AV 12):=by unfold pL;rw[bH (by simpa[ae en]using h50),bO hx2]
 rw[hI];go_wp2_with fail;rw[<-fL,<-mg,<-mu];refine Gd 1 w.heap.size bg rfl (λ_ _=>rfl) (λ_ _=>rfl) (λ_ _=>rfl) (λ_ _=>rfl) HC.1 HC.2.1 HC.2.2 af (B:=w.heap.size) af af ?_;intro w' aG KL f1 bl1;have HQ:=ag (QR.num (e:=e) (g:=g) (x:=x) (t:=t) en em HS.1 HS.2 (Fr.below bW) (bW.mono hB) f1 bl1 hB 12 0 0 0 0)
 let⟨q0,q1,q2,q3,q4,q5,qf⟩:=aG.cells
 let⟨r0,r1,r2,r3,r4,r5,r6,r7,rf⟩:=KL.cells
 simp only[Act.put,xa,xb,xc];go_wp2;exact dJ (v:=.tuple #[dZ e g x t (.S p n c) (.S q m d),yC 12 0 0 0 0 aS aS aS]) (by simp[results,results187,go_sem,q0,q1,q2,q3,q4,q5,r0,r1,r2,r3,r4,r5,r6,r7]) rfl (ae HQ)};{
 have cv8:decide (4611686018427387904<=x)=false:=by simp;omega
 have hI:pL ⟨e,g,x,t,ss,ns⟩=(⟨e,g,x+1,t,ss++[(x+1,t+10,[])],ns⟩,⟨0,x+1,0,0,t+10,[],[],[]⟩):=by unfold pL;rw[bH (by simpa[ae en]using h50),bH hx2];rfl
 rw[hI];have wx:IntKind.u64.wrap (x+1)=x+1:=IntWalk.u64_in _ af;have wt:IntKind.i64.wrap (t+10)=t+10:=kU _ af
 let⟨V0,hV0,b0,z0,C0⟩:=jB w (.U e) (.U g) (.U (x+1)) (.I t) (.S p n c) (.S q m d)
 let⟨V1,hV1,b1,z1,C1⟩:=sr V0
 let⟨V2,hV2,b2,z2,C2⟩:=rE V1 (.I 0) (.U 0) (.U 0) (.U 0) (.I 0) aS aS aS
 obtain⟨V3,hV3,b3,z3,C3,-⟩:=au V2 #[.U (x+1),.I (t+10),aq] 132;rw[z0]at C1 z1;rw[z1]at C2 z2;rw[z2]at C3 z3;have HC:=ag (ai (((C0.below b1).below b2).below b3) (ai ((C1.below b2).below b3) (C2.below b3)));have bW:=ag (aj (aj (aj b0 b1) b2) b3);have HS:=ag (ai (hS.fr (aO (ae bW))) (hN.fr (aO (ae bW))));have HC3:=ag C3;have lz:Hid ((ss.zip Qs).length=n):=by show _=_;rw[QC,hS.len,ae en];simp
 have ZR:Hid (∀b,(Value.slice p n c).ownBlock=some b->B<=b/\b<w.heap.size):=λb hb=>hS.row.lt b hb;go_wp2_with(at_builtin;rw[<-hV0,<-hV1,<-hV2,<-hV3];refine rJ rfl rfl (v:=.S p n c) (z:=((x+1,t+10,[]),aS)) lz rfl HS.1.row (w.heap.size+1+1+1) rfl rfl HC3.1 af af ?_);intro p' c' w9 hr9 AY hf9;rw[<-hV0,<-hV1,<-hV2,<-hV3]at AY hf9;have S9:=HS.1.bC5 hf9 _ _ hr9;have N9:=gq.fr HS.2 hf9;have B9:Below B w w9:=(bW.mono hB).grown AY af (λb hb=>(ae ZR b hb).1);have F9:Fr [189,132,133] w w9:=(Fr.below (ae bW)).trans (hf9.sub al);have X0:=HC.1.fr hf9;have X1:=HC.2.1.fr hf9;have X2:=HC.2.2.fr hf9
 let⟨k0,k1,k2,k3,k4,k5,kf⟩:=X0.cells
 let⟨fA,bA,gA⟩:=X0.bQ8 (j:=4) F9 B9 ay hB (.S p' (n+1) c')
 let⟨Z,hZ⟩:=aB (w9.setCell (Ad w.heap.size 4) (.S p' (n+1) c'))
 have CZ:ar Z w.heap.size [.U e,.U g,.U (x+1),.I t,.S p' (n+1) c',.S q m d]:=hZ▸X0.1.dH 4 al _;have X1':=X1.FQ (b:=w.heap.size) (j:=4) (u:=.S p' (n+1) c') af;rw[<-hZ]at fA bA gA X1';have X2':=X2.fr gA;have HZ:=ag (ai CZ (ai X1' X2'));have HS9:=ag (ai (S9.fr gA) (ai (gq.fr N9 gA) (ai fA bA)));have zZ:w.heap.size+3<Z.heap.size+1:=by have:=X2'.1;have:=fA.1;have h9:=hf9.1;have:=gA.1;omega
 go_wp2_with fail;rw[<-hZ]
 let⟨vA,je⟩:=aB Z.drew
 have gL:=mX je;have HA:=ag (ai (HZ.1.below af gL) (ai (HZ.2.1.below gL) (HZ.2.2.below gL)));have BA:=ag gL;refine du (λw'=>w'.cell? (Ad w.heap.size 0)=some (.U e)/\w'.cell? (Ad w.heap.size 1)=some (.U g)/\w'.cell? (Ad w.heap.size 2)=some (.U (x+1))/\w'.cell? (Ad w.heap.size 3)=some (.I t)/\w'.cell? (Ad w.heap.size 4)=some (.S p' (n+1) c')/\w'.cell? (Ad w.heap.size 5)=some (.S q m d)) (by rw[<-je];exact⟨HA.1.1 0 _ rfl,HA.1.1 1 _ rfl,HA.1.1 2 _ rfl,HA.1.1 3 _ rfl,HA.1.1 4 _ rfl,HA.1.1 5 _ rfl⟩) λhS=>?_;rw[<-je]at hS⊢;clear je gL;refine lG 0 1 2 3 hS ?_;refine tn 4 hS ?_;refine cX 5 λKK hK=>?_
 let⟨k0,k1,k2,k3,k4,k5,kf⟩:=HA.2.1.cells
 go_simp
 let⟨X,hX⟩:=aB (dG vA (w.heap.size+1) (.U e) (.U g) (.U (x+1)) (.I t) (.S p' (n+1) c') (.S q m d))
 have bX:Below (w.heap.size+1) vA X:=hX▸dr _ _ _ _ _ _ _;have AR:=HA.2.1.put (.U e) (.U g) (.U (x+1)) (.I t) (.S p' (n+1) c') (.S q m d);have CX:=P8 HA.1 (b:=w.heap.size+1) af (v0:=.U e) (v1:=.U g) (v2:=.U (x+1)) (v3:=.I t) (v4:=.S p' (n+1) c') (v5:=.S q m d);have fX:Fr [41] vA X:=by obtain⟨-,cur,ht⟩:=HA.2.1;rw[hX];exact ju ht
 rw[<-hX]at AR CX;have RX1:=HA.2.2.fr fX;unfold dG at hX;rw[<-hX];have HX:=ag (ai AR (ai CX (ai RX1 (ai fX bX))));refine fh hK (by exact⟨CX.1 0 _ rfl,CX.1 1 _ rfl,CX.1 2 _ rfl,CX.1 3 _ rfl,CX.1 4 _ rfl,CX.1 5 _ rfl⟩) λhS=>?_;clear hK KK hX k0 k1 k2 k3 k4 k5 kf AR CX RX1 fX bX;refine cX 6 λKK hK=>?_
 let⟨k0,k1,k2,k3,k4,k5,k6,k7,kf⟩:=HX.2.2.1.cells
 go_simp
 let⟨RXY,fY⟩:=HX.2.2.1.put (.I 0) (.U (x+1)) (.U 0) (.U 0) (.I (t+10)) aS aS aS
 have bY:=dm (w:=X) (b:=w.heap.size+1+1) (v0:=.I 0) (v1:=.U (x+1)) (v2:=.U 0) (v3:=.U 0) (v4:=.I (t+10)) (v5:=aS) (v6:=aS) (v7:=aS)
 let⟨Y,hY⟩:=aB (lu X (w.heap.size+1+1) (.I 0) (.U (x+1)) (.U 0) (.U 0) (.I (t+10)) aS aS aS)
 rw[<-hY]at RXY fY bY;unfold lu dG at hY;rw[<-hY];have CY:=HX.2.1.de (bY.block _ af);have BY:=ag (ai (HX.1.fr fY) (ai RXY (ai ((Fr.below (T:=[41,127]) (ae BA)).trans ((HX.2.2.2.1.sub al).trans (fY.sub al))) ((BA.mono af).trans ((HX.2.2.2.2.mono (Qz _)).trans (bY.mono af))))));refine fh hK (by exact⟨CY.1 0 _ rfl,CY.1 1 _ rfl,CY.1 2 _ rfl,CY.1 3 _ rfl,CY.1 4 _ rfl,CY.1 5 _ rfl⟩) λhS=>?_;clear hK KK hY k0 k1 k2 k3 k4 k5 k6 k7 kf RXY fY bY CY;refine cY ?_;clear hS
 let⟨aG,KL,f1,bl1⟩:=ae BY
 have HQ:=ag (QR.num (e:=e) (g:=g) (x:=x+1) (t:=t) (ag (by rw[gU,ae en];rfl)) em HS9.1 HS9.2.1 HS9.2.2.1 HS9.2.2.2 f1 bl1 hB 0 (x+1) 0 0 (t+10));clear f1 bl1
 let⟨q0,q1,q2,q3,q4,q5,qf⟩:=aG.cells
 let⟨r0,r1,r2,r3,r4,r5,r6,r7,rf⟩:=KL.cells
 go_wp2;exact dJ (v:=.tuple #[dZ e g (x+1) t (.S p' (n+1) c') (.S q m d),yC 0 (x+1) 0 0 (t+10) aS aS aS]) (by simp[results,results187,go_sem,q0,q1,q2,q3,q4,q5,r0,r1,r2,r3,r4,r5,r6,r7]) rfl (ae HQ)}}
end Go.Proofs.YtnhnbpkfpaondaaGreatDoor
