import Derived.Test.YtjjnidignljppaaGreatDoorK18
import Derived.Test.YtjjnidignljppaaGreatDoorK20
namespace Go.Proofs.YtjjnidignljppaaGreatDoor
set_option maxHeartbeats 6400000
set_option linter.all false
set_option maxRecDepth 100000
open Go.ChangeShapes Go.WideShapes Go.ChangeAt Go.RowKit Go.Maps Go.Proofs.Tryz
variable {B b bn bs g gb h hh i k sb uu z:Nat}{D:DataW Unit}{L SB:List Nat}{P l s:LI}{e t x:Int}{es:List Ev}{ls:List LI}{nd nd':aB}{ns:List aB}{row:Option Nat}{ss:List aR}{u v:Value}{w0:World}
structure WN(w:World)(bs:Nat)(ss:List aR)(SB:List Nat):Prop where
 len:SB.length=ss.length
 own:∃D n,w.ownsMap prog 28 aV bs n D/\n<=1048576/\gM D (List.zipWith (fun(s:aR)g=>(Lit.U s.1,g)) ss SB)
 blk:∀(i:Nat)(s:aR)(g:Nat),ss[i]?=some s->SB[i]?=some g->∃u,w.heap[g]?=some (.cells #[.U s.1,.I s.2.1,u] 86)/\pX w u s.2.2
structure WR(w:World)(bn:Nat)(ns:List aB)(NB:List Nat):Prop where
 len:NB.length=ns.length
 own:∃D n,w.ownsMap prog 9 aV bn n D/\n<=1048576/\gM D (List.zipWith (fun(nd:aB)g=>(bQ nd.path,g)) ns NB)
 blk:∀(i:Nat)(nd:aB)(g:Nat),ns[i]?=some nd->NB[i]?=some g->∃V h u,KN w g h u V nd
def KN.below{w w':World}{u:Nat}{V:Value}(k:KN w g h u V nd)(hb:Bw w w'):KN w' g h u V nd:=by
 obtain⟨h1,h2,⟨D1,o1,s1⟩,⟨D2,o2,s2⟩⟩:=k;exact⟨(hb.block g (aL h1)).trans h1,h2.below hb,⟨D1,o1.kept (az hb none) ai,s1⟩,⟨D2,o2.kept (az hb none) ai,s2⟩⟩
def WN.below{w w':World}(h:WN w bs ss SB)(hb:Bw w w'):WN w' bs ss SB:=by
 obtain⟨h1,⟨D,n,o,hn,m⟩,h3⟩:=h;refine⟨h1,⟨D,n,o.kept (az hb none) ai,hn,m⟩,fun i s g hs hg=>?_⟩;obtain⟨u,q1,q2⟩:=h3 i s g hs hg;exact⟨u,(hb.block g (aL q1)).trans q1,q2.below hb⟩
def WR.below{w w':World}{NB:List Nat}(h:WR w bn ns NB)(hb:Bw w w'):WR w' bn ns NB:=by
 obtain⟨h1,⟨D,n,o,hn,m⟩,h3⟩:=h;refine⟨h1,⟨D,n,o.kept (az hb none) ai,hn,m⟩,fun i s g hs hg=>?_⟩;obtain⟨V,h,u,q⟩:=h3 i s g hs hg;exact⟨V,h,u,q.below hb⟩
structure Sto(w:World)(b bs bn:Nat)(e g x t:Int)(ss:List aR)(ns:List aB)(SB NB:List Nat):Prop where
 hd:w.heap[b]?=some (.cells #[.U e,.U g,.U x,.I t,.map (some bs),.map (some bn)] 114)
 tI:WN w bs ss SB
 gy:WR w bn ns NB
def Sto.below{w w':World}{g:Int}{SB NB:List Nat}(h:Sto w b bs bn e g x t ss ns SB NB)(hb:Bw w w'):Sto w' b bs bn e g x t ss ns SB NB:=
 ⟨(hb.block b (aL h.hd)).trans h.hd,h.tI.below hb,h.gy.below hb⟩
def Fu{w:World}(h:WN w bs ss SB){s:aR}(hs:ss[i]?=some s):∃g,SB[i]?=some g/\(Lit.U s.1,g)∈List.zipWith (fun(s:aR)g=>(Lit.U s.1,g)) ss SB:=by
 have hi:=(aT.1 hs).1;obtain⟨g,hg⟩:∃g,SB[i]?=some g:=⟨_,aO (by rw[h.len];exact hi)⟩;refine⟨g,hg,aS (i:=i) ?_⟩;rw[jT,hs,hg]
def Fv{w:World}{NB:List Nat}(h:WR w bn ns NB)(hs:ns[i]?=some nd):∃g,NB[i]?=some g/\(bQ nd.path,g)∈List.zipWith (fun(nd:aB)g=>(bQ nd.path,g)) ns NB:=by
 have hi:=(aT.1 hs).1;obtain⟨g,hg⟩:∃g,NB[i]?=some g:=⟨_,aO (by rw[h.len];exact hi)⟩;refine⟨g,hg,aS (i:=i) ?_⟩;rw[jT,hs,hg]
theorem TQ{α β γ:Type}{f:α->β->γ}{l:List α}{m:List β}{z:γ}(h:z∈List.zipWith f l m):∃a∈l,∃b,z=f a b:=by
 induction l generalizing m with
 |nil=>simp at h
 | cons a l ih=>
  cases m with
  |nil=>simp at h
  |cons b m=>
   simp only[aD4,jA]at h;rcases h with rfl|h;{exact⟨a,ai,b,rfl⟩};{obtain⟨a',ha,b',e⟩:=ih h;exact⟨a',by simp[ha],b',e⟩}
def Q4{w:World}(h:WN w bs ss SB)(hs:ss.Pairwise (fun s s'=>s.1<s'.1))(m:gM D (List.zipWith (fun(s:aR)g=>(Lit.U s.1,g)) ss SB)){ids:LI}(ha:Q.Asc D ids):ids=ss.map (·.1):=by
 refine sK ha.lt (Ap.2 hs) fun x=>?_;rw[ha.mem x,m.hs];constructor;{rintro⟨p,hp,e⟩;obtain⟨s,tv,g,rfl⟩:=TQ hp;simp only[Lit.int.injEq,Rl]at e;exact iJ.2 ⟨s,tv,e⟩};{intro hx;obtain⟨s,tv,rfl⟩:=iJ.1 hx;obtain⟨i,hi,e⟩:=BG tv;obtain⟨g,hg,hm⟩:=Fu h (i:=i) (s:=s) (by rw[aO hi,e]);exact⟨_,hm,rfl⟩}
def qw(l:LI):List UInt8:=l.map fun n=>UInt8.ofNat n.toNat
theorem IP{α:Type}[LT α](irr:∀a:α,¬a<a)(tr:∀a b c:α,a<b->b<c->a<c):∀{l m:List α},l.Pairwise (·<·)->m.Pairwise (·<·)->(∀x,x∈l↔x∈m)->l=m
 |[],[],_,_,_=>rfl
 |[],b::m,_,_,h=>absurd ((h b).2 ai) ai
 |a::l,[],_,_,h=>absurd ((h a).1 ai) ai
 |a::l,b::m,h1,h2,h=>by
  rw[yB]at h1 h2;have Ql:a=b:=by rcases jA.1 ((h a).1 ai)with e|e;{exact e};{rcases jA.1 ((h b).2 ai)with e'|e';{exact e'.symm};{exact absurd (tr _ _ _ (h2.1 a e) (h1.1 b e')) (irr _)}}
  subst Ql;rw[IP irr tr h1.2 h2.2 (fun x=>?_)];constructor;{intro hx;rcases jA.1 ((h x).1 (by simp[hx]))with e|e;{subst e;exact absurd (h1.1 _ hx) (irr _)};{exact e}};{intro hx;rcases jA.1 ((h x).2 (by simp[hx]))with e|e;{subst e;exact absurd (h2.1 _ hx) (irr _)};{exact e}}
def vY{w:World}{NB:List Nat}(h:WR w bn ns NB)(hs:(ns.map fun nd=>qw nd.path).Pairwise (·<·))(m:gM D (List.zipWith (fun(nd:aB)g=>(bQ nd.path,g)) ns NB)){ks:List (List UInt8)}(ha:T.Asc D ks):ks=ns.map fun nd=>qw nd.path:=by
 refine IP (fun a=>List.lt_irrefl a) (fun a b c=>List.lt_trans) ha.lt hs fun x=>?_;rw[ha.mem x,m.hs];constructor;{rintro⟨p,hp,e⟩;obtain⟨s,tv,g,rfl⟩:=TQ hp;simp only[bQ,Lit.string.injEq]at e;exact iJ.2 ⟨s,tv,e⟩};{intro hx;obtain⟨s,tv,rfl⟩:=iJ.1 hx;obtain⟨i,hi,e⟩:=BG tv;obtain⟨g,hg,hm⟩:=Fv h (i:=i) (nd:=s) (by rw[aO hi,e]);exact⟨_,hm,rfl⟩}
def Mu{w:World}:(zeroValue 115).run prog w=.ok (.pointer none) w:=by kernel_rfl
def Zk{w:World}{bs n:Nat}{l:List (Lit×Nat)}(o:w.ownsMap prog 28 aV bs n D)(m:gM D l){I:Int}(hp:(Lit.U I,g)∈l)(hI:0<=I/\I<18446744073709551616):(Instr.lookup 111 (.map (some bs)) (.U I) false).run prog w=.ok (.pointer (some ⟨g,0,none⟩)) w:=by
 obtain⟨v,ps,hr,hv⟩:=o.lookup iI underlying111 (Mu (w:=w)) (zd:=.nil) (zp:=[]) rfl (key:=.U I) (keyOf_int_mk underlying28 (nT hI));rw[m.at' _ hp]at hv;obtain rfl:=jO hv;exact hr
def Od{w:World}{bn n:Nat}{l:List (Lit×Nat)}(o:w.ownsMap prog 9 aV bn n D)(m:gM D l)(hp:(bQ P,g)∈l)(hP:P.length<=1048576):(Instr.lookup 112 (.map (some bn)) (.string (aN P)) false).run prog w=.ok (.pointer (some ⟨g,0,none⟩)) w:=by
 obtain⟨v,ps,hr,hv⟩:=o.lookup me underlying112 (nJ w) (zd:=.nil) (zp:=[]) rfl (key:=.string (aN P)) (kl:=bQ P) (by rw[WideMaps.keyOf_string_mk underlying9 (by rw[gS];unfold maxLen;omega),nR])
 rw[m.at' _ hp]at hv;obtain rfl:=jO hv;exact hr
def iZ{w w1 w2:World}(h:w.grownBy w1 (some sb))(k:w1.grownBy w2 row)(hr:∀b,row=some b->w.heap.size<=b\/b=sb):w.grownBy w2 (some sb):=
 ⟨k.os.trans h.os,k.tape.trans h.tape,k.output.trans h.output,fW h.size k.size,fun i hi cg=>(k.block i (kV hi h.size) (fun e=>by rcases hr i e.symm with h'|h';{omega};{exact cg (by rw[h'])})).trans (h.block i hi cg)⟩
def aD(w:World)(a:Addr)(v:Value):w.grownBy (w.setCell a v) (some a.block):=
 ⟨rfl,rfl,rfl,ai,fun k _ hk=>fy _ _ _ _ (fun e=>hk (by rw[e]))⟩
def sJ{w w1 w2:World}(h:Bw w w1)(k:w1.grownBy w2 (some sb))(hs:w.heap.size<=sb):Bw w w2:=h.grown k h.size (fun b e=>by cases e;exact hs)
def je{w w':World}{k:TypeId}{R:Value->Option (DataW Unit×List MemPlace)}{b n:Nat}(h:w.ownsMap prog k R b n D)(hh:w'.heap[b]?=w.heap[b]?):w'.ownsMap prog k R b n D:=by
 obtain⟨es,clock,h1,h2⟩:=h;exact⟨es,clock,hh.trans h1,h2⟩
def al.grown{w w':World}{vs:List Value}(h:al w b vs)(hb:b<w.heap.size)(hg:w.grownBy w' row)(cg:some b≠row):al w' b vs:=by
 have hh:=hg.block b hb cg;refine⟨fun i v hi=>(aE hh _).trans (h.1 i v hi),fun o=>?_⟩;have:w'.frozen? ⟨b,o,none⟩=w.frozen? ⟨b,o,none⟩:=World.frozen?_of_block hh;rw[this];exact h.2 o
theorem ah1(l:LI):(⟨(qw l).toArray⟩:ByteArray)=aN l:=by
 have h:(aN l).data=(qw l).toArray:=by rw[<-Zi];simpa[qw]using jK (l:=l)
 cases hb:aN l with
 |mk d=>rw[hb]at h;simp only at h;rw[h]
def Ka{w:World}(h:T.RdK B w v (ns.map fun nd=>qw nd.path)):∃p c,v=.S p ns.length c/\(ns=[]\/∃g,p=some ⟨g,0,none⟩/\B<=g/\g<w.heap.size/\∀(j:Nat)(nd:aB),ns[j]?=some nd->w.cell? ⟨g,0+j,none⟩=some (.string (aN nd.path))):=by
 rcases h with⟨rfl,h0⟩|⟨g,cap,rfl,hb,hl,hH⟩;{
 have:ns=[]:=by simpa using h0
 subst this;exact⟨none,0,rfl,.inl rfl⟩};{
 refine⟨some ⟨g,0,none⟩,cap,by rw[fe],.inr ⟨g,rfl,hb,hl,fun j nd hj=>?_⟩⟩;have zw:=(aT.1 hj).1;have:=(hH j (by simpa using zw)).1;rw[this,<-ah1];have e:(ns.map fun nd=>qw nd.path).toArray[j]! = qw nd.path:=by have e2:ns[j]=nd:=(aT.1 hj).2;simp[zw,e2]
 rw[e]}
def jj.cells{w:World}{c:Array Value}{l:List Lf}(h:jj w nd c.toList l):∃q0 q1 q2 q3 q4 q5 q6 q7,c=#[q0,q1,q2,q3,q4,q5,q6,q7]/\∀u∈[q0,q1,q2,q3,q4,q5,q6,q7],u.oneCell'=true:=by
 obtain⟨p0,c0,p1,c1,p4,c4,p7,c7,l0,l1,l4,l7,-,h2,-⟩:=h;refine⟨_,_,_,_,_,_,_,_,by rw[<-Zi,h2],fun u hu=>?_⟩;simp only[jA,I9,Bv]at hu;rcases hu with rfl|rfl|rfl|rfl|rfl|rfl|rfl|rfl<;>rfl
def IE{g:Int}{SB NB:List Nat}{w:World}(h:Sto w b bs bn e g x t ss ns SB NB)(hs:Hid (ss.Pairwise (fun s s'=>s.1<s'.1)))(hn:Hid ((ns.map fun nd=>qw nd.path).Pairwise (·<·)))(ls:ss.length<=1048576)(ln:ns.length<=1048576)(hls:Hid (∀s∈ss,(0<=s.1/\s.1<18446744073709551616)/\s.2.2.length<=1048576/\∀e∈s.2.2,e.2.length<=1048576))(hln:Hid (∀nd∈ns,aM nd.path/\nd.path.length<=1048576/\nd.value.length<=1048576/\nd.holders.length<=1048576/\nd.watchers.length<=1048576/\nd.holders.Pairwise (·<·)/\nd.watchers.Pairwise (·<·))):Cp 28 #[.pointer (some ⟨b,0,none⟩)] w fun r w'=>∃p c q d A1 A2,r=.returned (gh e g x t (.S p ss.length c) (.S q ns.length d))/\nI w' (.S p ss.length c) ss/\qz w' (.S q ns.length d) ns/\xt w' (.S p ss.length c) ss A1/\xD w' (.S q ns.length d) ns A2/\mL w.heap.size w' (A1++A2)/\Bw w w':=by
 have k0:w.cell? ⟨b,0,none⟩=some (.U e):=aq h.hd 0;have k1:w.cell? ⟨b,1,none⟩=some (.U g):=aq h.hd 1;have k2:w.cell? ⟨b,2,none⟩=some (.U x):=aq h.hd 2;have k3:w.cell? ⟨b,3,none⟩=some (.I t):=aq h.hd 3;obtain⟨is,his,sz0,sz1,sz2⟩:=info_parts Tryz.infoSes;obtain⟨io,hio,oz0,oz1,oz2⟩:=info_parts Tryz.infoNod;obtain⟨W0,dV⟩:=au (w.alloc (.cells #[.U 0,.U 0,.U 0,.I 0,.S none 0 0,.S none 0 0] 32));have b0:=dO dV;have z0:W0.heap.size=w.heap.size+1:=by rw[dV];simp
 have r0:al W0 w.heap.size [.U 0,.U 0,.U 0,.I 0,.S none 0 0,.S none 0 0]:=by rw[dV];exact al.alloc w #[.U 0,.U 0,.U 0,.I 0,.S none 0 0,.S none 0 0] _
 go_enter func28,ntmps28;go_wp2_with fail;rw[<-dV];obtain⟨v0,oK⟩:=au W0.drew;have bv:Bw w v0:=by rw[oK];exact b0.drew
 have zv:v0.heap.size=w.heap.size+1:=by rw[oK];exact z0
 have R0:Hid (al v0 w.heap.size [.U 0,.U 0,.U 0,.I 0,.S none 0 0,.S none 0 0]):=by rw[oK];exact r0
 have S0:=af (ah (ag k0 bv) (ah (ag k1 bv) (ah (ag k2 bv) (ag k3 bv))));have H0:=af (h.below bv);have ZV:=af zv;refine dy (fun w'=>w'.cell? ⟨b,0,none⟩=some (.U e)/\w'.cell? ⟨b,1,none⟩=some (.U g)/\w'.cell? ⟨b,2,none⟩=some (.U x)/\w'.cell? ⟨b,3,none⟩=some (.I t)) (by rw[<-oK];exact aa S0) fun hS=>?_;rw[<-oK]at hS⊢;clear oK dV b0 z0 r0 k0 k1 k2 k3 zv;refine mn 0 1 2 3 4 5 6 7 hS ?_;refine mn 8 9 10 11 12 13 14 15 hS ?_;refine tn 16 hS ?_;refine dE 17 fun KK hK=>?_;go_simp;obtain⟨v1,Xc⟩:=au (v0.alloc (.cells #[.U 0,.U 0,.U 0,.I 0,.S none 0 0,.S none 0 0] 32));have aA:=dO Xc;have c1:al v1 v0.heap.size [.U 0,.U 0,.U 0,.I 0,.S none 0 0,.S none 0 0]:=by rw[Xc];exact al.alloc v0 #[.U 0,.U 0,.U 0,.I 0,.S none 0 0,.S none 0 0] _
 have z1:v1.heap.size=v0.heap.size+1:=by rw[Xc];simp
 rw[<-Xc];obtain⟨sb,RI⟩:=au v0.heap.size;rw[<-RI]at c1⊢;have S1:=af (ah (ag S0.1 aA) (ah (ag S0.2.1 aA) (ah (ag S0.2.2.1 aA) (ag S0.2.2.2 aA))));have H1:=af (H0.below aA);have R1:=af (R0.below (by have:=aa ZV;omega) aA);have b1:=aj bv aA;have HZ:=af (ah (aa ZV) (ah RI z1));refine gr hK (by exact S1) fun hS=>?_;have rc0:=c1.1 0 _ rfl;have rc1:=c1.1 1 _ rfl;have rc2:=c1.1 2 _ rfl;have rc3:=c1.1 3 _ rfl;have rc4:=c1.1 4 _ rfl;have rc5:=c1.1 5 _ rfl;have rf:=c1.2;clear hK KK Xc aA RI z1;refine dE 18 fun KK hK=>?_;go_simp;obtain⟨Z,hZ⟩:=au ((((((v1.setCell ⟨sb,0,none⟩ (.U e)).setCell ⟨sb,1,none⟩ (.U g)).setCell ⟨sb,2,none⟩ (.U x)).setCell ⟨sb,3,none⟩ (.I t)).setCell ⟨sb,4,none⟩ (.S none 0 0)).setCell ⟨sb,5,none⟩ (.S none 0 0));obtain⟨zz0,zz1,zz2⟩:=aa HZ;have CZ:al Z sb [.U e,.U g,.U x,.I t,.S none 0 0,.S none 0 0]:=by rw[hZ];exact((((((c1.fK 0 ai _).fK 1 ai _).fK 2 ai _).fK 3 ai _).fK 4 ai _).fK 5 ai _)
 have hgZ:v1.grownBy Z (some sb):=by rw[hZ];exact gH (gH (gH (gH (gH (aD _ _ _) (aD _ _ _)) (aD _ _ _)) (aD _ _ _)) (aD _ _ _)) (aD _ _ _)
 have bZ:Bw w Z:=sJ b1 hgZ ae;have RZ:=R1.grown ae hgZ bj;have SZ:Z.cell? ⟨b,0,none⟩=some (.U e)/\Z.cell? ⟨b,1,none⟩=some (.U g)/\Z.cell? ⟨b,2,none⟩=some (.U x)/\Z.cell? ⟨b,3,none⟩=some (.I t):=⟨aq (h.below bZ).hd 0,aq (h.below bZ).hd 1,aq (h.below bZ).hd 2,aq (h.below bZ).hd 3⟩;have zZ:sb<Z.heap.size:=by have:=hgZ.size;omega
 rw[<-hZ];refine gr hK (by exact SZ) fun hS=>?_;clear hK KK hZ hgZ SZ c1 rc0 rc1 rc2 rc3 rc4 rc5 rf S1 H1 R1 S0 H0 R0;refine di ?_;have RH:w.heap.size<sb:=ae;have CZ':=af CZ;have RZ':=af RZ;have HS:=af fun(w':World)(hb:Bw w w')=>h.below hb;have HLW:Hid (∀k s gs,ss[k]?=some s->SB[k]?=some gs->b<w.heap.size/\bs<w.heap.size/\gs<w.heap.size):=fun k s gs hy Mn=>by obtain⟨_,_,o,_,_⟩:=h.tI.own;obtain⟨_,y3,_⟩:=h.tI.blk k _ gs hy Mn;exact⟨aL h.hd,o.lt,aL y3⟩
 have HLN:Hid (∀k s gs,ns[k]?=some s->NB[k]?=some gs->b<w.heap.size/\bn<w.heap.size/\gs<w.heap.size):=fun k s gs hy Mn=>by obtain⟨_,_,o,_,_⟩:=h.gy.own;obtain⟨_,_,_,y3⟩:=h.gy.blk k _ gs hy Mn;exact⟨aL h.hd,o.lt,aL y3.blk⟩
 have BZ:=af bZ;clear hS CZ RZ h bv b1 zz0 zz1 zz2 HZ ZV;obtain⟨hHd,aT0,ab8⟩:=aa HS _ BZ;obtain⟨D,nD,oD,hnD,mD⟩:=id aT0.own;have k4:Z.cell? ⟨b,4,none⟩=some (.map (some bs)):=aq hHd 4;have MD:=af mD;have OD:=af oD;clear hHd ab8 mD;go_wp2_with fail;refine(Q.ka bs nD D _ oD (fW oD.size_le hnD)).mono ?_;rintro r w1⟨kv,ids,rfl,Qt,Mf,aA⟩;obtain rfl:=Q4 aT0 hs MD Qt;obtain⟨pk,ck,Ak,rfl,rk,lk,ak⟩:=Kc Mf;have Uz:(ss.map (·.1)).length=ss.length:=fe _;obtain⟨nk,enk⟩:=au ((ss.map (·.1)).length);rw[<-enk]at rk lk⊢;have bx8:nk=ss.length:=by rw[enk,Uz]
 have ENK:=af bx8;have dp0:nk<=1048576:=ae;have HKV:=af (ah rk (ah lk ak));have b1:=aj BZ aA;have z1:=aA.size;have C1:=af (CZ'.below zZ aA);have R1:=af (RZ'.below ae aA);clear rk lk ak Mf Qt aA k4 aT0 oD enk bx8 Uz CZ' RZ';go_wp2_with fail
 go_loopw[31](fun iv wr=>∃(k:Nat)(Sv:Value)(Ls:List (List Lf)),k<=nk/\iv=.I k/\Hid (al wr sb [.U e,.U g,.U x,.I t,Sv,.S none 0 0]/\OwnT kK 86 3 w1.heap.size wr Sv (ss.take k) Ls)/\Hid (w1.grownBy wr (some sb))) (fun iv _=>nk-(intOf iv).toNat)
 exact⟨0,_,[],gq _,rfl,⟨C1,OwnT.nil _ _ _ _ _⟩,oR⟩;{
 obtain⟨k,Sv,Ls,hk,rfl,jr,xA⟩:=hrel;have BB:=sJ b1 xA ae;by_cases aX:k<nk;{
 have bu:=aP k nk;have dA:k<ss.length:=by rw[<-aa ENK];exact aX
 obtain⟨⟨I,Dl,Qu⟩,hy⟩:∃y,ss[k]?=some y:=⟨_,aO dA⟩;obtain⟨hH,hSe,-⟩:=aa HS _ BB;obtain⟨gs,Mn,iY⟩:=Fu hSe hy;obtain⟨u,hbu,hru⟩:=hSe.blk k _ gs hy Mn;dsimp only at hbu hru iY;obtain⟨pq,cq,rfl,-⟩:=id hru;obtain⟨nq,enq⟩:=aI Qu.length;rw[enq]at hru hbu;have ENQ:=af enq;obtain⟨hI,hq1,hq2⟩:=aa hls _ (aS hy);dsimp only at hI hq1 hq2;have hnq:nq<=1048576:=by rw[<-enq];exact hq1
 have HQ2:Hid (∀e∈Qu,e.2.length<=1048576):=hq2;obtain⟨gk,ok,rfl,hck⟩:∃gk ok,pk=some ⟨gk,ok,none⟩/\wr.cell? ⟨gk,ok+k,none⟩=some (.U I):=by obtain⟨rk,lk,ak⟩:=aa HKV;have rk':=rk.dH lk (w':=wr) (fun a ha=>xA.block a.b (ak.vj.lt ha) (by have:=ak.lo a ha;simp;omega));obtain⟨p',c',ee,hd⟩:=rk';simp only[dU]at ee;obtain⟨rfl,-,-⟩:=ee;rcases hd with hd|⟨b',o',rfl,hd⟩;{have:=wF List.length hd;simp at this;rw[this]at dA;simp at dA};{refine⟨b',o',rfl,?_⟩;rw[hd k (by simpa using dA)];simp[gj,hy]}
 have HY:=af hy;obtain⟨hC,hO⟩:=aa jr;have cS4:=hC.1 4 _ rfl;have kb4:wr.cell? ⟨b,4,none⟩=some (.map (some bs)):=aq hH 4;obtain⟨D',n',oD',hn',mD'⟩:=hSe.own;have HLK:=af (ah mD' (ah iY hI));have hLT:b<w1.heap.size/\bs<w1.heap.size/\gs<w1.heap.size:=by obtain⟨y1,y2,-⟩:=aa HS _ b1;obtain⟨_,_,o,_,_⟩:=y2.own;obtain⟨_,y3,_⟩:=y2.blk k _ gs hy Mn;exact⟨aL y1,o.lt,aL y3⟩
 have HLT:=af hLT;have hLW:b<w.heap.size/\bs<w.heap.size/\gs<w.heap.size:=aa HLW k _ gs hy Mn;have t3b:b≠sb:=ae;have t4b:bs≠sb:=ae;have t5b:gs≠sb:=ae;obtain⟨vA,iw⟩:=au wr.drew;have gx:=mi iw;have SXA:=af (ah (ag kb4 gx) (ah (oD'.kept (az gx none) ai) (ah (ag (aq hbu 0) gx) (ah (ag (aq hbu 1) gx) (ag (aq hbu 2) gx)))));have RQ:=af (hru.below gx);have OA:=af (hO.below kK.keep gx);have CXA:=af (hC.below (by have:=xA.size;omega) gx);have gA:Hid (w1.grownBy vA (some sb)):=iZ xA (az gx none) (fun b e=>by cases e);have BXA:=af (cW vA.heap.size vA);have zxA:sb<vA.heap.size:=by have:=gA.size;omega
 clear enq hq1 hq2 dA Mn hLT hLW cS4;go_wp2_with fail;clear hck;refine dy (fun w'=>w'.cell? ⟨b,4,none⟩=some (.map (some bs))/\w'.ownsMap prog 28 aV bs n' D'/\w'.cell? ⟨gs,0,none⟩=some (.U I)/\w'.cell? ⟨gs,1,none⟩=some (.I Dl)/\w'.cell? ⟨gs,2,none⟩=some (.S pq nq cq)) (by rw[<-iw];exact aa SXA) fun hS=>?_;rw[<-iw]at hS⊢;clear iw gx hbu hru iY hI oD' mD' hC hO kb4 hH hSe;refine mu 0 2 3 4 hS ?_;refine jZ 5 6 hS ?_;refine wpAnyH_take (i:=7) (oi:=_) (v:=?_) (by simp only[wC,As,Ar];rfl) bg bg bg (fun _ _ _ h=>h) (Or.inl ⟨aH,?_⟩) hS ?_;rotate_left;{(intro w' vJ;(try dsimp only at vJ);(have hlk:=Zk vJ.2.1 HLK.1 HLK.2.1 HLK.2.2);go_simp;try with_reducible rfl)}
 simp only[Act.put,xa,xb,xc];refine jZ 8 9 hS ?_;refine ry [1,10] (cn (fun KK hK=>?_) (cn (fun KK hK=>?_) AllReadyH.nil));have cl:=CXA.1 4 _ rfl;go_simp;refine gr hK (by exact SXA) fun hS=>?_;clear hK KK cl;refine ry [10] (cn (fun KK hK=>?_) AllReadyH.nil)
 all_goals(
  refine jJ (SL ENQ (RQ.below BXA) hnq HQ2) ?_;rintro r v1⟨pe,ce,Ae,rfl,WZ,VB,GW,aA⟩;refine⟨_,rfl,?_⟩;have HE1:=af (ah WZ (ah VB (GW.mono (B':=vA.heap.size) BXA.size)));obtain⟨s1,s2,s3,s4,s5⟩:=aa SXA;have SX1:=af (ah (ag s1 aA) (ah (s2.kept (az aA none) ai) (ah (ag s3 aA) (ah (ag s4 aA) (ag s5 aA)))));have CX1:=af (CXA.below ae aA);have zk:=af (aj BXA aA);have zx1:vA.heap.size<=v1.heap.size:=zk.size;clear s1 s2 s3 s4 s5;refine gr hK (by exact SX1) fun hS=>?_;clear hK KK aA WZ VB GW
  skip)
 refine ry [11] (cn (fun KK hK=>?_) AllReadyH.nil);rotate_left;refine ry [1,11] (cn (fun KK hK=>?_) (cn (fun KK hK=>?_) AllReadyH.nil));have cl:=CX1.1 4 _ rfl;go_simp;refine gr hK (by exact SX1) fun hS=>?_;clear hK KK cl;refine ry [11] (cn (fun KK hK=>?_) AllReadyH.nil)
 all_goals(
  go_simp;obtain⟨v2,Rz⟩:=au (v1.alloc (.cells #[.U I,.I Dl,.S pe nq ce] 86));have aF:=dO Rz;have BS:∀j u,([.U I,.I Dl,.S pe nq ce]:List Value)[j]?=some u->v2.cell? ⟨v1.heap.size,j,none⟩=some u:=fun j u hu=>by rw[Rz];exact(al.alloc v1 #[.U I,.I Dl,.S pe nq ce] 86).1 j u (by simpa using hu)
  rw[<-Rz];obtain⟨gE,hgE⟩:=au v1.heap.size;rw[<-hgE]at BS⊢;obtain⟨WZ,VB,GW⟩:=aa HE1;have kE:∀a∈Ae,v2.heap[a.b]?=v1.heap[a.b]?:=fun a ha=>aF.block _ (GW.vj.lt ha);have EL2:Hid (kK v2 (I,Dl,Qu) [.U I,.I Dl,.S pe nq ce] Ae/\mL vA.heap.size v2 Ae):=⟨⟨pe,ce,by rw[aa ENQ],by rw[aa ENQ];exact WZ.dH VB kE,by rw[aa ENQ];exact Da.keep VB kE⟩,GW.keep kE⟩;have tF:=af BS;obtain⟨s1,s2,s3,s4,s5⟩:=aa SX1;have SX2:=af (ah (ag s1 aF) (ah (s2.kept (az aF none) ai) (ah (ag s3 aF) (ah (ag s4 aF) (ag s5 aF)))));have CX2:=af (CX1.below ae aF);have XA:=af (aj zk aF);have zx2:vA.heap.size<=v2.heap.size:=XA.size;clear s1 s2 s3 s4 s5;refine gr hK (by exact SX2) fun hS=>?_;clear hK KK Rz aF BS hgE WZ VB GW kE
  skip)
 rotate_left;refine ry [1] (cn (fun KK hK=>?_) AllReadyH.nil);have cl:=CX2.1 4 _ rfl;go_simp;refine gr hK (by exact SX2) fun hS=>?_;clear hK KK cl
 all_goals(
  have OC:=OA.below kK.keep XA;obtain⟨elC,apC⟩:=aa EL2;obtain⟨cs,g1,g2,g3,g4,g5,g6,g7⟩:=id OC;have ZW:=OA.lt;have hle:(ss.take k).length<=1048576:=by rw[pK];omega
  have zA1:=gA.size;have zA:w1.heap.size<=v2.heap.size:=ae;refine ry [12] ?_;refine cn (fun KK hK=>?_) ?_;{
 refine j9 aH aH is 3 underlying29 his sz0 sz1 sz2 rfl aU aH g4 1 1 [.U I,.I Dl,.S pe nq ce] aH rfl (aa tF) (fun u hu=>by simp at hu;rcases hu with rfl|rfl|rfl<;>rfl) ic ae zA ?_;intro v' w9 dh hg lG;have sn:=OwnT.snoc g1 g2 g3 g5 g6 g7 kK.keep elC rfl apC zA1 (fun a ha=>(ZW.2 a ha).2) (fun b hb=>(ZW.1 b hb).2) dh hg lG;rw[<-ru (aa HY)]at sn;obtain⟨pN,cN,evN,-⟩:=id sn.read;obtain⟨lN,hlN⟩:=au ((ss.take (k+1)).length);rw[<-hlN]at evN;subst evN;clear hlN;have H6:∀z,z<w1.heap.size->some z≠Sv.ownBlock:=fun z hz e=>by have:=(ZW.1 z e.symm).1;omega
 have xd:w1.grownBy w9 (some sb):=iZ (iZ gA (az XA none) (fun b e=>by cases e)) hg (fun b e=>.inl (ZW.1 b e).1);have C9:=CX2.grown ae hg (H6 sb ae);obtain⟨t1,t2,t3⟩:=aa HLT;obtain⟨s1,s2,s3,s4,s5⟩:=aa SX2;have S9:=af (ah (hg.cell s1 (H6 (b) t1)) (ah (s2.kept hg (H6 (bs) t2)) (ah (hg.cell s3 (H6 (gs) t3)) (ah (hg.cell s4 (H6 (gs) t3)) (hg.cell s5 (H6 (gs) t3))))));refine gr hK (by exact S9) fun hS=>?_;have SN:=af sn;have cc:=C9.1 4 _ rfl;have cf:=C9.2;have ZU:=sn.lt;clear hK KK sn dh lG g1 g2 g3 g4 g5 g6 g7 elC apC OC s1 s2 s3 s4 s5;refine tn 13 hS ?_;refine dE 14 fun KK hK=>?_;go_simp;obtain⟨wT,ZI⟩:=au (w9.setCell ⟨sb,4,none⟩ (.S pN lN cN));have CT:=C9.fK 4 ai (.S pN lN cN);have Z6:∀z,z≠sb->wT.heap[z]?=w9.heap[z]?:=fun z hz=>by rw[ZI];exact fy _ _ _ _ hz
 have gT:Hid (w1.grownBy wT (some sb)):=by show World.grownBy _ _ _;rw[ZI];exact gH xd (aD _ _ _)
 have zT:w9.heap.size<=wT.heap.size:=by rw[ZI];simp
 have OT:Hid (OwnT kK 86 3 w1.heap.size wT (.S pN lN cN) (ss.take (k+1)) (Ls++[Ae])):=SN.keep (kK.keep _ _) zT (fun z hz=>Z6 z (by have:=(ZU.1 z hz).1;omega)) (fun y hy=>Z6 _ (by have:=(ZU.2 y hy).1;omega));rw[<-ZI]at CT⊢;have hcT:=fun z(hz:z≠sb)o=>aE (Z6 z hz) o;obtain⟨s1,s2,s3,s4,s5⟩:=aa S9;have ST:=ah ((hcT _ t3b _).trans s1) (ah (je s2 (Z6 _ t4b)) (ah ((hcT _ t5b _).trans s3) (ah ((hcT _ t5b _).trans s4) ((hcT _ t5b _).trans s5))));refine gr hK (by exact ST) fun hS=>?_;have CT2:=af CT;clear hK KK ZI Z6 hcT C9 cc cf CT hg xd zT ST s1 s2 s3 s4 s5;refine di ?_;clear hS ZU ZW;go_wp2;go_roundw;exact⟨k+1,_,_,ae,by go_num,⟨CT2,OT⟩,gT⟩;exact bG};exact AllReadyH.nil
  skip)}
 {
 have bu:=du k nk;have vL:k=nk:=ae;subst vL;obtain⟨hC,hO⟩:=aa jr;rw[kq (by rw[aa ENK];exact jS _)]at hO;obtain⟨w2,ew2⟩:=au wr;subst ew2;have R2:=af (R1.grown ae (aa xA) bj);obtain⟨pS,cS,evS,-⟩:=id hO.read;obtain⟨lS,ZU⟩:=au ss.length;rw[<-ZU]at evS;subst evS;have HLS:=af ZU;obtain⟨rdS,A1,lvS,apS⟩:=hO.se;have HA1:=af fun a ha=>apS.vj.lt (a:=a) ha;have OS:=af (ah rdS (ah lvS apS));clear rdS lvS apS;have CS:=af hC;have z12:=xA.size;obtain⟨hHd,-,ab8⟩:=aa HS _ BB;obtain⟨DN,nN,oN,hnN,mN⟩:=id ab8.own;have k5:w2.cell? ⟨b,5,none⟩=some (.map (some bn)):=aq hHd 5;have MN:=af mN;clear hO hC ZU hHd mN jr hk aX bu R1 C1 HKV xA;go_wp2_with fail;refine(T.ka bn nN DN _ oN (fW oN.size_le hnN)).mono ?_;rintro r w3⟨kv,ks,rfl,Qt,Mf,bf⟩;obtain rfl:=vY ab8 hn MN Qt;obtain⟨pk2,ck2,rfl,FD⟩:=Ka Mf;obtain⟨nk2,aV4⟩:=au ns.length;rw[<-aV4];have bF6:=af aV4;have cK0:nk2<=1048576:=ae;have HKN:=af FD;have b3:=aj BB bf;have z3:=bf.size;have C3:=af (CS.below ae bf);have R3:=af (R2.below ae bf);have kS3:∀a∈A1,w3.heap[a.b]?=w2.heap[a.b]?:=fun a ha=>bf.block _ (aa HA1 a ha);have O3:=af (ah (OS.1.dH OS.2.1 kS3) (ah (xt.keep OS.2.1 kS3) (OS.2.2.keep kS3)));clear FD Mf Qt bf k5 ab8 oN aV4 CS R2 OS BB kS3;go_wp2_with fail
 go_loopw[56](fun iv wr=>∃(k:Nat)(Sv:Value)(Ls:List (List Lf)),k<=nk2/\iv=.I k/\Hid (al wr sb [.U e,.U g,.U x,.I t,.S pS lS cS,Sv]/\OwnT jj 93 8 w3.heap.size wr Sv (ns.take k) Ls)/\Hid (w3.grownBy wr (some sb))) (fun iv _=>nk2-(intOf iv).toNat)
 exact⟨0,_,[],gq _,rfl,⟨C3,OwnT.nil _ _ _ _ _⟩,oR⟩;{
 obtain⟨k,Sv,Ls,hk,rfl,jr,xA⟩:=hrel;have BB:=sJ b3 xA ae;by_cases aX:k<nk2;{
 have bu:=aP k nk2;have dA:k<ns.length:=by rw[<-aa bF6];exact aX
 obtain⟨nd,hy⟩:∃y,ns[k]?=some y:=⟨_,aO dA⟩;obtain⟨hH,-,hNo⟩:=aa HS _ BB;obtain⟨gs,Mn,iY⟩:=Fv hNo hy;obtain⟨Vb,hb,ub,hkn⟩:=hNo.blk k _ gs hy Mn;obtain⟨Jq,KY,Dw,AD,hl5,hl6,hl7⟩:=aa hln _ (aS hy);obtain⟨gk,rfl,hck⟩:∃gk,pk2=some ⟨gk,0,none⟩/\wr.cell? ⟨gk,k,none⟩=some (.string (aN nd.path)):=by rcases aa HKN with h0|⟨gk,rfl,h1,h2,h3⟩;{rw[h0]at dA;simp at dA};{exact⟨gk,rfl,(aE (xA.block gk h2 bj) _).trans (by have:=h3 k nd hy;rwa [lu]at this)⟩}
 have HY:=af hy;obtain⟨hC,hO⟩:=aa jr;have kb4:wr.cell? ⟨b,5,none⟩=some (.map (some bn)):=aq hH 5;obtain⟨D',n',oD',hn',mD'⟩:=hNo.own;have HLK:=af (ah mD' (ah iY KY));have hLW:b<w.heap.size/\bn<w.heap.size/\gs<w.heap.size:=aa HLN k _ gs hy Mn;have hLT:b<w3.heap.size/\bn<w3.heap.size/\gs<w3.heap.size:=by have:=b3.size;omega
 have HLT:=af hLT;have t3b:b≠sb:=ae;have t4b:bn≠sb:=ae;have t5b:gs≠sb:=ae;obtain⟨vA,iw⟩:=au wr.drew;have gx:=mi iw;have SXA:=af (ah (ag kb4 gx) (oD'.kept (az gx none) ai));have RQ:=af (hkn.below gx);have OA:=af (hO.below jj.keep gx);have CXA:=af (hC.below (by have:=xA.size;omega) gx);have gA:Hid (w3.grownBy vA (some sb)):=iZ xA (az gx none) (fun b e=>by cases e);have BXA:=af (cW vA.heap.size vA);have zxA:sb<vA.heap.size:=by have:=gA.size;omega
 clear dA Mn hLT hLW;go_wp2_with fail;clear hck;refine dy (fun w'=>w'.cell? ⟨b,5,none⟩=some (.map (some bn))/\w'.ownsMap prog 9 aV bn n' D') (by rw[<-iw];exact aa SXA) fun hS=>?_;rw[<-iw]at hS⊢;clear iw gx hkn iY oD' mD' hC hO kb4 hH hNo;refine mu 0 2 3 4 hS ?_;refine jZ 5 6 hS ?_;refine wpAnyH_take (i:=7) (oi:=_) (v:=?_) (by simp only[wC,As,Ar];rfl) bg bg bg (fun _ _ _ h=>h) (Or.inl ⟨aH,?_⟩) hS ?_;rotate_left;{(intro w' vJ;(try dsimp only at vJ);(have hlk:=Od vJ.2 HLK.1 HLK.2.1 HLK.2.2);go_simp;try with_reducible rfl)}
 simp only[Act.put,xa,xb,xc];refine tn 8 hS ?_;refine ry [1,9] (cn (fun KK hK=>?_) (cn (fun KK hK=>?_) AllReadyH.nil));have cl:=CXA.1 5 _ rfl;go_simp;refine gr hK (by exact SXA) fun hS=>?_;clear hK KK cl;refine ry [9] (cn (fun KK hK=>?_) AllReadyH.nil)
 all_goals(
  refine xR (YF (RQ.below BXA) hl6 hl7 KY Dw AD hl5 Jq) ?_;rintro r v1⟨cn,Ae,rfl,eln,GW,aA⟩;obtain⟨q0,q1,q2,q3,q4,q5,q6,q7,ecn,one⟩:=eln.cells;subst ecn;refine⟨_,rfl,?_⟩;have HE1:=af (ah eln (ah one (GW.mono (B':=vA.heap.size) BXA.size)));obtain⟨s1,s2⟩:=aa SXA;have SX1:=af (ah (ag s1 aA) (s2.kept (az aA none) ai));have CX1:=af (CXA.below ae aA);have zk:=af (aj BXA aA);have zx1:vA.heap.size<=v1.heap.size:=zk.size;clear s1 s2;refine gr hK (by exact SX1) fun hS=>?_;clear hK KK aA eln GW one
  skip)
 refine ry [10] (cn (fun KK hK=>?_) AllReadyH.nil);rotate_left;refine ry [1,10] (cn (fun KK hK=>?_) (cn (fun KK hK=>?_) AllReadyH.nil));have cl:=CX1.1 5 _ rfl;go_simp;refine gr hK (by exact SX1) fun hS=>?_;clear hK KK cl;refine ry [10] (cn (fun KK hK=>?_) AllReadyH.nil)
 all_goals(
  go_simp;obtain⟨v2,Rz⟩:=au (v1.alloc (.cells #[q0,q1,q2,q3,q4,q5,q6,q7] 93));have aF:=dO Rz;have BS:∀j u,([q0,q1,q2,q3,q4,q5,q6,q7]:List Value)[j]?=some u->v2.cell? ⟨v1.heap.size,j,none⟩=some u:=fun j u hu=>by rw[Rz];exact(al.alloc v1 #[q0,q1,q2,q3,q4,q5,q6,q7] 93).1 j u (by simpa using hu)
  rw[<-Rz];obtain⟨gE,hgE⟩:=au v1.heap.size;rw[<-hgE]at BS⊢;obtain⟨eln,one,GW⟩:=aa HE1;have kE:∀a∈Ae,v2.heap[a.b]?=v1.heap[a.b]?:=fun a ha=>aF.block _ (GW.vj.lt ha);have EL2:Hid (jj v2 nd [q0,q1,q2,q3,q4,q5,q6,q7] Ae/\mL vA.heap.size v2 Ae):=⟨jj.keep _ _ _ _ _ eln kE,GW.keep kE⟩;have ONE:=af one;have tF:=af BS;obtain⟨s1,s2⟩:=aa SX1;have SX2:=af (ah (ag s1 aF) (s2.kept (az aF none) ai));have CX2:=af (CX1.below ae aF);have XA:=af (aj zk aF);have zx2:vA.heap.size<=v2.heap.size:=XA.size;clear s1 s2;refine gr hK (by exact SX2) fun hS=>?_;clear hK KK Rz aF BS hgE eln GW kE one
  skip)
 rotate_left;refine ry [1] (cn (fun KK hK=>?_) AllReadyH.nil);have cl:=CX2.1 5 _ rfl;go_simp;refine gr hK (by exact SX2) fun hS=>?_;clear hK KK cl
 all_goals(
  have OC:=OA.below jj.keep XA;obtain⟨elC,apC⟩:=aa EL2;obtain⟨cs,g1,g2,g3,g4,g5,g6,g7⟩:=id OC;have ZW:=OA.lt;have hle:(ns.take k).length<=1048576:=by rw[pK];omega
  have zA1:=gA.size;have zA:w3.heap.size<=v2.heap.size:=ae;refine ry [11] ?_;refine cn (fun KK hK=>?_) ?_;{
 refine j9 aH aH io 8 underlying30 hio oz0 oz1 oz2 rfl aU aH g4 1 1 [q0,q1,q2,q3,q4,q5,q6,q7] aH rfl tF ONE ic ae zA ?_;intro v' w9 dh hg lG;have sn:=OwnT.snoc g1 g2 g3 g5 g6 g7 jj.keep elC rfl apC zA1 (fun a ha=>(ZW.2 a ha).2) (fun b hb=>(ZW.1 b hb).2) dh hg lG;rw[<-ru (aa HY)]at sn;obtain⟨pN,cN,evN,-⟩:=id sn.read;obtain⟨lN,hlN⟩:=au ((ns.take (k+1)).length);rw[<-hlN]at evN;subst evN;clear hlN;have H6:∀z,z<w3.heap.size->some z≠Sv.ownBlock:=fun z hz e=>by have:=(ZW.1 z e.symm).1;omega
 have xd:w3.grownBy w9 (some sb):=iZ (iZ gA (az XA none) (fun b e=>by cases e)) hg (fun b e=>.inl (ZW.1 b e).1);have C9:=CX2.grown ae hg (H6 sb ae);obtain⟨t1,t2,t3⟩:=aa HLT;obtain⟨s1,s2⟩:=aa SX2;have S9:=af (ah (hg.cell s1 (H6 (b) t1)) (s2.kept hg (H6 (bn) t2)));refine gr hK (by exact S9) fun hS=>?_;have SN:=af sn;have cc:=C9.1 5 _ rfl;have cf:=C9.2;have ZU:=sn.lt;clear hK KK sn dh lG g1 g2 g3 g4 g5 g6 g7 elC apC OC s1 s2;refine tn 12 hS ?_;refine dE 13 fun KK hK=>?_;go_simp;obtain⟨wT,ZI⟩:=au (w9.setCell ⟨sb,5,none⟩ (.S pN lN cN));have CT:=C9.fK 5 ai (.S pN lN cN);have Z6:∀z,z≠sb->wT.heap[z]?=w9.heap[z]?:=fun z hz=>by rw[ZI];exact fy _ _ _ _ hz
 have gT:Hid (w3.grownBy wT (some sb)):=by show World.grownBy _ _ _;rw[ZI];exact gH xd (aD _ _ _)
 have zT:w9.heap.size<=wT.heap.size:=by rw[ZI];simp
 have OT:Hid (OwnT jj 93 8 w3.heap.size wT (.S pN lN cN) (ns.take (k+1)) (Ls++[Ae])):=SN.keep (jj.keep _ _) zT (fun z hz=>Z6 z (by have:=(ZU.1 z hz).1;omega)) (fun y hy=>Z6 _ (by have:=(ZU.2 y hy).1;omega));rw[<-ZI]at CT⊢;have hcT:=fun z(hz:z≠sb)o=>aE (Z6 z hz) o;obtain⟨s1,s2⟩:=aa S9;have ST:=ah ((hcT _ t3b _).trans s1) (je s2 (Z6 _ t4b));refine gr hK (by exact ST) fun hS=>?_;have CT2:=af CT;clear hK KK ZI Z6 hcT C9 cc cf CT hg xd zT ST s1 s2;refine di ?_;clear hS ZU ZW;go_wp2;go_roundw;exact⟨k+1,_,_,ae,by go_num,⟨CT2,OT⟩,gT⟩;exact bG};exact AllReadyH.nil
  skip)}
 {
 have bu:=du k nk2;have vL:k=nk2:=ae;subst vL;obtain⟨hC,hO⟩:=aa jr;rw[kq (by rw[aa bF6];exact jS _)]at hO;obtain⟨pN,cN,evN,-⟩:=id hO.read;obtain⟨lN,hlN⟩:=au ns.length;rw[<-hlN]at evN;subst evN;obtain⟨rdN,A2,lvN,apN⟩:=hO.no;obtain⟨rdS,lvS,apS⟩:=aa O3;have R4:=R3.grown ae (aa xA) bj;have c0:=hC.1 0 _ rfl;have c1:=hC.1 1 _ rfl;have c2:=hC.1 2 _ rfl;have c3:=hC.1 3 _ rfl;have c4:=hC.1 4 _ rfl;have c5:=hC.1 5 _ rfl;have r0:=R4.1 0 _ rfl;have r1:=R4.1 1 _ rfl;have r2:=R4.1 2 _ rfl;have r3:=R4.1 3 _ rfl;have r4:=R4.1 4 _ rfl;have r5:=R4.1 5 _ rfl;have rf:=R4.2;have Xf:¬w.heap.size=sb:=ae;have hsn:¬sb=w.heap.size:=ae;have FIN:=af (ah rdN (ah lvN apN));have FIS:=af (ah rdS (ah lvS apS));have cx4:=af hlN;have z3r:=xA.size;clear rdN lvN apN rdS lvS apS hO hC R4 jr hlN;go_wp2;obtain⟨rdN,lvN,apN⟩:=aa FIN;obtain⟨rdS,lvS,apS⟩:=aa FIS;obtain⟨Z,hZ⟩:=au ((((((wr.setCell ⟨w.heap.size,0,none⟩ (.U e)).setCell ⟨w.heap.size,1,none⟩ (.U g)).setCell ⟨w.heap.size,2,none⟩ (.U x)).setCell ⟨w.heap.size,3,none⟩ (.I t)).setCell ⟨w.heap.size,4,none⟩ (.S pS lS cS)).setCell ⟨w.heap.size,5,none⟩ (.S pN lN cN));have hkZ:∀z,z≠w.heap.size->Z.heap[z]?=wr.heap[z]?:=fun z hz=>by
  rw[hZ]
  iterate 6 rw[fy _ _ _ _ hz]
 have k1:∀a∈A1,Z.heap[a.b]?=w3.heap[a.b]?:=fun a ha=>by have h1:=aa HA1 a ha;have h2:=apS.lo a ha;rw[hkZ _ ae];exact xA.block _ ae bj
 have k2:∀a∈A2,Z.heap[a.b]?=wr.heap[a.b]?:=fun a ha=>by have h2:=apN.lo a ha;exact hkZ _ (by have:=b3.size;omega)
 have hbZ:Bw w Z:=by rw[hZ];exact(((((BB.setCell ao _).setCell ao _).setCell ao _).setCell ao _).setCell ao _).setCell ao _
 have eS:=aa HLS;have eN:=aa cx4;refine fL (v:=gh e g x t (.S pS lS cS) (.S pN lN cN)) (by simp[results,results28,go_sem,r0,r1,r2,r3,r4,r5,c0,c1,c2,c3,c4,c5]) rfl ?_;rw[<-hZ];subst eS eN;refine⟨pS,cS,pN,cN,rfl,rdS.dH lvS k1,rdN.dH lvN k2,A1,xt.keep lvS k1,A2,xD.keep lvN k2,?_,hbZ⟩;exact((apS.keep k1).app (apN.keep k2) ae (fun a ha=>by have:=aa HA1 a ha;omega)).mono ae}}}}
def TK{α:Type}{R:α->α->Prop}{l:List α}(h:∀(i j:Nat)(a b:α),l[i]?=some a->l[j]?=some b->i<j->R a b):l.Pairwise R:=by
 rw[Ez];intro i j hi hj kF;exact h i j _ _ (aO hi) (aO hj) kF
def ao4(h:lg x ss=true):ss.Pairwise (fun s s'=>s.1<s'.1):=by
 refine TK fun i j s s' hi hj kF=>?_;rw[lg,fu]at h;have:=yY h.2 (fun i j k h1 h2=>by simp at h1 h2⊢;omega) j i (aT.1 hj).1 kF;simpa only[gj,hi,hj,qI,jg]using this
def aq4{g:Int}(h:km e g ns=true):(ns.map fun nd=>qw nd.path).Pairwise (·<·):=by
 rw[Ap];refine TK fun i j s s' hi hj kF=>?_;rw[km,fu]at h;have:=yY h.2 (fun i j k h1 h2=>mY.2 (yX (mY.1 h1) (mY.1 h2))) j i (aT.1 hj).1 kF;simp only[gj,hi,hj,qI]at this;rw[mY,T.nG,jg,fE,fE]at this;exact this
def Gr(h:PO l=true):l.Pairwise (·<·):=by
 refine TK fun i j s s' hi hj kF=>?_;rw[PO]at h;have:=yY h (fun i j k h1 h2=>by simp at h1 h2⊢;omega) j i (aT.1 hj).1 kF;simpa only[gj,hi,hj,qI,jg]using this
def No{g:Int}(h:km e g ns=true):∀nd∈ns,nd.holders.Pairwise (·<·)/\nd.watchers.Pairwise (·<·):=by
 intro nd br;rw[km,fu]at h;have h1:∀y∈ns,vf e g y=true:=(lW ns gu (vf e g)).1 fun i hi=>iT.1 h.1 i (yv.2 hi);have:=h1 nd br;simp only[vf,fu]at this;exact⟨Gr this.2.2.2.1,Gr this.2.2.2.2⟩
structure AY(ss:List aR)(ns:List aB):Prop where
 s1:ss.Pairwise (fun s s'=>s.1<s'.1)
 n1:(ns.map fun nd=>qw nd.path).Pairwise (·<·)
 s2:∀s∈ss,(0<=s.1/\s.1<18446744073709551616)/\s.2.2.length<=1048576/\∀e∈s.2.2,e.2.length<=1048576
 n2:∀nd∈ns,aM nd.path/\nd.path.length<=1048576/\nd.value.length<=1048576/\nd.holders.length<=1048576/\nd.watchers.length<=1048576/\nd.holders.Pairwise (·<·)/\nd.watchers.Pairwise (·<·)
 s3:∀(i j:Nat)(s s':aR),ss[i]?=some s->ss[j]?=some s'->i<j->s.1≠s'.1
 n3:∀(i j:Nat)(z z':aB),ns[i]?=some z->ns[j]?=some z'->i<j->z.path≠z'.path
def DB{g:Int}(h:mw e g x t ss ns=true)(qi:∀s∈ss,s.2.2.length<=1048576/\∀e∈s.2.2,aM e.2/\e.2.length<=1048576)(fS:∀nd∈ns,aM nd.path/\nd.path.length<=1048576/\nd.value.length<=1048576/\nd.holders.length<=1048576/\nd.watchers.length<=1048576):AY ss ns:=by
 obtain⟨h1,h2,h3,h4,h5⟩:=(DW e g x t (ss:=ss) (ns:=ns)).1 h;have hx:x<=4611686018427387904:=by simp only[BI,jg]at h1;exact h1.2.2.1
 refine⟨ao4 h2,aq4 h3,fun s hs=>⟨JS h2 hx s hs,(qi s hs).1,fun e he=>((qi s hs).2 e he).2⟩,fun nd br=>?_,IM h2,IV h3⟩;obtain⟨a,b,c,d,f⟩:=fS nd br;exact⟨a,b,c,d,f,(No h3 nd br).1,(No h3 nd br).2⟩
def aL6{w0 w:World}{g:Int}{SB NB HB UB:List Nat}(h:cT w0 w b bs bn e g x t ss ns SB NB HB UB)(hb:Bw w0 w)(l1:ss.length<=1048576)(l2:ns.length<=1048576):Sto w b bs bn e g x t ss ns SB NB:=by
 refine⟨h.hd,⟨h.tI.len,?_,fun i s gb hs hg=>?_⟩,⟨h.gy.len,?_,fun i nd gb hs hg=>?_⟩⟩;{obtain⟨D,o,m⟩:=h.tI.own;exact⟨D,_,o,l1,m⟩};{obtain⟨-,u,q1,q2⟩:=h.tI.blk i s gb hs hg;exact⟨u,q1,q2.below hb⟩};{obtain⟨D,o,m⟩:=h.gy.own;exact⟨D,_,o,l2,m⟩};{have hi:=(aT.1 hs).1;obtain⟨hh,mQ⟩:∃y,HB[i]?=some y:=⟨_,aO (by rw[h.gy.CJ];exact hi)⟩;obtain⟨uu,nj⟩:∃y,UB[i]?=some y:=⟨_,aO (by rw[h.gy.CH];exact hi)⟩;obtain⟨-,-,-,⟨V,q1,q2⟩,q3,q4⟩:=h.gy.blk i nd gb hh uu hs hg mQ nj;exact⟨V,hh,uu,q1,q2.below hb,q3,q4⟩}
def AB(w0 w:World)(v:Value)(l:LI):Prop:=Rd w0 v l\/TB w v l
def AB.rd{w0 w:World}(h:AB w0 w v l)(be:Bw w0 w):Rd w v l:=by
 rcases h with h|h;{exact h.below be};{exact h.1}
def AB.fr{T:List TypeId}{w0 w w':World}(h:AB w0 w v l)(hf:Fr T w w')(ht:5∉T:=by decide):AB w0 w' v l:=by
 rcases h with h|h;{exact .inl h};{exact .inr (h.fr hf ht)}
def AQ(w0 w:World)(u:Value)(es:List Ev):Prop:=
 ∃(p:OA)(c:Nat),u=.S p es.length c/\(es=[]\/∃b o,p=some ⟨b,o,none⟩/\(b<w0.heap.size\/∃cur m,w.heap[b]?=some (.cells cur 165 m))/\∀i e,es[i]?=some e->w.cell? ⟨b,o+i*2,none⟩=some (.I e.1)/\∃u,w.cell? ⟨b,o+i*2+1,none⟩=some u/\AB w0 w u e.2/\px u)
def AQ.rdc{w0 w:World}(h:AQ w0 w u es)(be:Bw w0 w):pX w u es:=by
 obtain⟨p,c,rfl,h⟩:=h;refine⟨p,c,rfl,?_⟩;rcases h with h|⟨b,o,rfl,-,h⟩;{exact .inl h};{refine .inr ⟨b,o,rfl,fun i e he=>?_⟩;obtain⟨h1,u,h2,h3,h4⟩:=h i e he;exact⟨h1,u,h2,h3.rd be,h4⟩}
def AQ.of{w0 w:World}(h:pX w0 u es)(be:Bw w0 w):AQ w0 w u es:=by
 obtain⟨p,c,rfl,h⟩:=h;refine⟨p,c,rfl,?_⟩;rcases h with h|⟨b,o,rfl,h⟩;{exact .inl h};{by_cases h0:es=[];{exact .inl h0};{obtain⟨e0,he0⟩:∃e0,es[0]?=some e0:=⟨_,aO (Ub.2 h0)⟩;refine .inr ⟨b,o,rfl,.inl (pI w0 _ (h 0 e0 he0).1),fun i e he=>?_⟩;obtain⟨h1,u,h2,h3,h4⟩:=h i e he;exact⟨ag h1 be,u,ag h2 be,.inl h3,h4⟩}}
def AQ.fr{T:List TypeId}{w0 w w':World}(h:AQ w0 w u es)(hb:Below w0.heap.size w w')(hf:Fr T w w')(ht:5∉T/\165∉T:=by decide):AQ w0 w' u es:=by
 obtain⟨p,c,rfl,h⟩:=h;refine⟨p,c,rfl,?_⟩;rcases h with h|⟨b,o,rfl,hd,h⟩;{exact .inl h};{
 have hk:w'.heap[b]?=w.heap[b]?:=by rcases hd with hd|⟨cur,m,hd⟩;{exact hb.block b hd};{exact(hf.2 _ _ _ _ ht.2 hd).trans hd.symm}
 refine .inr ⟨b,o,rfl,hd.imp id (fun⟨cur,m,hd⟩=>⟨cur,m,hk.trans hd⟩),fun i e he=>?_⟩;obtain⟨h1,u,h2,h3,h4⟩:=h i e he;exact⟨(aE hk _).trans h1,u,(aE hk _).trans h2,h3.fr hf ht.1,h4⟩}
def AQ.nil(w0 w:World):AQ w0 w (.S none 0 0) []:=⟨none,0,rfl,.inl rfl⟩
def fq{w:World}{k:TypeId}{R:Value->Option (DataW Unit×List MemPlace)}{b n:Nat}(h:w.ownsMap prog k R b n D):w.ownsMap prog k R b (Maps.size D) D:=by
 obtain⟨es,clock,hb,F,hs,rfl⟩:=h;refine⟨es,clock,hb,F,?_,rfl⟩;rw[Maps.size_eq,length_sorted];simp
def mX{w:World}{k:TypeId}{R:Value->Option (DataW Unit×List MemPlace)}{b n:Nat}(h:w.ownsMap prog k R b n D)(K:Keyed prog k):Tidy D:=by
 obtain⟨es,e,hp,-⟩:=h.entries K;exact⟨es,e,hp⟩
def sa{w:World}{k:TypeId}{R:Value->Option (DataW Unit×List MemPlace)}{b n:Nat}(h:w.ownsMap prog k R b n D)(K:Keyed prog k){L:List Lit}(hn:L.Nodup)(hh:∀x,Maps.has D x=true↔x∈L):Maps.size D=L.length:=by
 obtain⟨es,rfl,hp,hk⟩:=h.entries K;rw[Maps.size_eq,<-fe (f:=Prod.fst)];refine List.Perm.length_eq ((List.perm_ext_iff_of_nodup (Ap.2 hp) hn).2 fun x=>?_);rw[<-hh x,Maps.has_eq,Ob,iJ];constructor;{rintro⟨p,hp1,rfl⟩;exact⟨p,hp1,WideAt.sameKey_self (hk p hp1)⟩};{rintro⟨p,hp1,hs⟩;refine⟨p,hp1,aD3 fun cg=>?_⟩;rw[sameKey_ne cg]at hs;cases hs}
def SM(w:World)(h:Nat)(s:LI):Prop:=∃D n,w.ownsMap prog 28 unitElem h n D/\n<=2097152/\dD D s/\Maps.size D=s.length
structure PN(w0 w:World)(g h u:Nat)(nd:aB):Prop where
 lo:w0.heap.size<=g/\w0.heap.size<=h/\w0.heap.size<=u
 blk:∃V,w.heap[g]?=some (.cells #[V,.U nd.owner,.I nd.mode,.map (some h),.U nd.aJ,.U nd.gen,.map (some u)] 121)/\AB w0 w V nd.value
 UD:SM w h nd.holders
 Vc:SM w u nd.watchers
def PE(w0 w:World)(g:Nat)(s:aR):Prop:=w0.heap.size<=g/\∃u,w.heap[g]?=some (.cells #[.U s.1,.I s.2.1,u] 86)/\AQ w0 w u s.2.2
structure PS(w0 w:World)(b bs bn:Nat)(D:SD)(SB NB HB UB:List Nat):Prop where
 be:Bw w0 w
 hd:w.heap[b]?=some (.cells #[.U D.e,.U D.g,.U D.x,.I D.t,.map (some bs),.map (some bn)] 114)
 tc:SB.length=D.ss.length
 rZ:∃M n,w.ownsMap prog 28 aV bs n M/\n<=1048576/\gM M (List.zipWith (fun(s:aR)g=>(Lit.U s.1,g)) D.ss SB)/\Maps.size M=D.ss.length
 ve:∀(i:Nat)(s:aR)(g:Nat),D.ss[i]?=some s->SB[i]?=some g->PE w0 w g s
 snd:SB.Nodup
 te:NB.length=D.ns.length
 hlen:HB.length=D.ns.length
 tR:UB.length=D.ns.length
 lr:∃M n,w.ownsMap prog 9 aV bn n M/\n<=1048576/\gM M (List.zipWith (fun(nd:aB)g=>(bQ nd.path,g)) D.ns NB)/\Maps.size M=D.ns.length
 my:∀(i:Nat)(nd:aB)(g h u:Nat),D.ns[i]?=some nd->NB[i]?=some g->HB[i]?=some h->UB[i]?=some u->PN w0 w g h u nd
 YI:NB.Nodup
 lo:w0.heap.size<=b/\w0.heap.size<=bs/\w0.heap.size<=bn
 yQ:(bs::bn::(HB++UB)).Nodup
def SM.of{w:World}{h n:Nat}(o:w.ownsMap prog 28 unitElem h n D)(hn:n<=2097152)(hs:dD D s)(hd:s.Nodup):SM w h s:=by
 refine⟨D,n,o,hn,hs,?_⟩;have hl:(s.map fun i:Int=>Lit.U i).length=s.length:=fe _;rw[<-hl];refine sa o iI (Ap.2 (hd.imp fun cg e=>cg (by simpa using e))) fun x=>?_;rw[hs x,iJ];constructor;{rintro⟨i,hi,rfl⟩;exact⟨i,hi,rfl⟩};{rintro⟨i,hi,rfl⟩;exact⟨i,hi,rfl⟩}
def SM.kept{w w':World}(k:SM w h s)(hk:w'.heap[h]?=w.heap[h]?):SM w' h s:=by
 obtain⟨D,n,o,h1,h2,h3⟩:=k;exact⟨D,n,cY o (fun es c hh=>hk.trans hh),h1,h2,h3⟩
def qe(h:s.Pairwise (·<·)):s.Nodup:=h.imp fun hl e=>by omega
def PS.of{w0 w:World}{g:Int}{SB NB HB UB:List Nat}(h:cT w0 w b bs bn e g x t ss ns SB NB HB UB)(be:Bw w0 w)(hF:AY ss ns)(ls:ss.length<=1048576)(ln:ns.length<=1048576):PS w0 w b bs bn ⟨e,g,x,t,ss,ns⟩ SB NB HB UB:=by
 refine⟨be,h.hd,h.tI.len,?_,fun i s gb hs hg=>?_,h.tI.gy,h.gy.len,h.gy.CJ,h.gy.CH,?_,fun i nd gb hh uu hs hg h1 h2=>?_,h.gy.gy,h.lo,h.yQ⟩;{obtain⟨D,o,m⟩:=h.tI.own;refine⟨D,_,o,ls,m,?_⟩;have hl:(ss.map fun s=>Lit.U s.1).length=ss.length:=fe _;rw[<-hl];refine sa o iI (Ap.2 (hF.s1.imp fun aX e=>by simp at e;omega)) fun k=>?_;rw[m.hs k,iJ];constructor;{rintro⟨p,hp,rfl⟩;obtain⟨i,s,y,h1,-,rfl⟩:=gF hp;exact⟨s,aS h1,rfl⟩};{rintro⟨s,hs,rfl⟩;obtain⟨i,hi⟩:=gv.1 hs;obtain⟨y,hy⟩:∃y,SB[i]?=some y:=⟨_,aO (by rw[h.tI.len];exact(aT.1 hi).1)⟩;exact⟨_,aS (i:=i) (by rw[jT,hi,hy]),rfl⟩}};{obtain⟨q0,u,q1,q2⟩:=h.tI.blk i s gb hs hg;exact⟨q0,u,q1,AQ.of q2 be⟩};{obtain⟨D,o,m⟩:=h.gy.own;refine⟨D,_,o,ln,m,?_⟩;have hl:(ns.map fun nd=>bQ nd.path).length=ns.length:=fe _;rw[<-hl];refine sa o me (Ap.2 (TK fun i j a c ha hc kF e=>hF.n3 i j a c ha hc kF (l8 (hF.n2 a (aS ha)).1 (hF.n2 c (aS hc)).1 e))) fun k=>?_;rw[m.hs k,iJ];constructor;{rintro⟨p,hp,rfl⟩;obtain⟨i,s,y,h1,-,rfl⟩:=gF hp;exact⟨s,aS h1,rfl⟩};{rintro⟨s,hs,rfl⟩;obtain⟨i,hi⟩:=gv.1 hs;obtain⟨y,hy⟩:∃y,NB[i]?=some y:=⟨_,aO (by rw[h.gy.len];exact(aT.1 hi).1)⟩;exact⟨_,aS (i:=i) (by rw[jT,hi,hy]),rfl⟩}};{obtain⟨q0,q1,q2,⟨V,q3,q4⟩,⟨D1,o1,m1⟩,⟨D2,o2,m2⟩⟩:=h.gy.blk i nd gb hh uu hs hg h1 h2;obtain⟨-,-,-,l1,l2,n1,n2⟩:=hF.n2 nd (aS hs);exact⟨⟨q0,q1,q2⟩,⟨V,q3,.inl q4⟩,SM.of o1 ae m1 (qe n1),SM.of o2 ae m2 (qe n2)⟩}
def PS.sto{w0 w:World}{D:SD}{SB NB HB UB:List Nat}(h:PS w0 w b bs bn D SB NB HB UB):Sto w b bs bn D.e D.g D.x D.t D.ss D.ns SB NB:=by
 refine⟨h.hd,⟨h.tc,?_,fun i s gb hs hg=>?_⟩,⟨h.te,?_,fun i nd gb hs hg=>?_⟩⟩;{obtain⟨M,n,o,hn,m,-⟩:=h.rZ;exact⟨M,n,o,hn,m⟩};{obtain⟨-,u,q1,q2⟩:=h.ve i s gb hs hg;exact⟨u,q1,q2.rdc h.be⟩};{obtain⟨M,n,o,hn,m,-⟩:=h.lr;exact⟨M,n,o,hn,m⟩};{have hi:=(aT.1 hs).1;obtain⟨hh,mQ⟩:∃y,HB[i]?=some y:=⟨_,aO (by rw[h.hlen];exact hi)⟩;obtain⟨uu,nj⟩:∃y,UB[i]?=some y:=⟨_,aO (by rw[h.tR];exact hi)⟩;obtain⟨-,⟨V,q1,q2⟩,⟨D1,n1,o1,-,s1,z1⟩,⟨D2,n2,o2,-,s2,z2⟩⟩:=h.my i nd gb hh uu hs hg mQ nj;exact⟨V,hh,uu,q1,q2.rd h.be,⟨D1,z1▸fq o1,s1⟩,⟨D2,z2▸fq o2,s2⟩⟩}
structure One(w0 w w':World)(g:Nat):Prop where
 b:Below w0.heap.size w w'
 k:∀z,z<w.heap.size->z≠g->w'.heap[z]?=w.heap[z]?
 t:∀cur ty m,w.heap[g]?=some (.cells cur ty m)->ty∈[86,121,114]
def One.fr{w0 w w':World}(h:One w0 w w' g):Fr [86,121,114] w w':=by
 refine⟨h.b.size,fun b cur ty m hn hb=>?_⟩;by_cases e:b=g;{subst e;exact absurd (h.t _ _ _ hb) hn};{exact(h.k b (aL hb) e).trans hb}
def One.obj{w0 w w':World}{o:Obj}(h:One w0 w w' g)(hz:w.heap[z]?=some o)(cg:z≠g):w'.heap[z]?=some o:=(h.k z (aL hz) cg).trans hz
def ownsMap_at{w:World}{k:TypeId}{R:Value->Option (DataW Unit×List MemPlace)}{b n:Nat}(h:w.ownsMap prog k R b n D):∃es c,w.heap[b]?=some (.map es c):=by
 obtain⟨es,c,h1,-⟩:=h;exact⟨es,c,h1⟩
def One.map{w0 w w':World}{g z n:Nat}{k:TypeId}{R:Value->Option (DataW Unit×List MemPlace)}(h:One w0 w w' g)(hz:w.ownsMap prog k R z n D)(cg:z≠g):w'.ownsMap prog k R z n D:=
 cY hz (fun es c hh=>h.obj hh cg)
def SM.keep{w0 w w':World}(k:SM w h s)(O:One w0 w w' g)(cg:h≠g):SM w' h s:=by
 obtain⟨D,n,o,h1,h2,h3⟩:=k;exact⟨D,n,O.map o cg,h1,h2,h3⟩
def SM.at{w:World}(k:SM w h s):∃es c,w.heap[h]?=some (.map es c):=by
 obtain⟨D,n,o,-⟩:=k;exact ownsMap_at o
def PE.keep{w0 w w':World}{s:aR}(h:PE w0 w gb s)(O:One w0 w w' g)(cg:gb≠g):PE w0 w' gb s:=by
 obtain⟨h0,u,h1,h2⟩:=h;exact⟨h0,u,O.obj h1 cg,h2.fr O.b O.fr aU⟩
def PN.keep{w0 w w':World}(h:PN w0 w gb hh uu nd)(O:One w0 w w' g)(h1:gb≠g)(h2:hh≠g)(h3:uu≠g):PN w0 w' gb hh uu nd:=by
 obtain⟨h0,⟨V,q1,q2⟩,q3,q4⟩:=h;exact⟨h0,⟨V,O.obj q1 h1,q2.fr O.fr⟩,q3.keep O h2,q4.keep O h3⟩
section
variable {w0 w w':World}{b bs bn:Nat}{D:SD}{SB NB HB UB:List Nat}
def PS.nat(h:PS w0 w b bs bn D SB NB HB UB)(hi:D.ns[i]?=some nd):∃g hh uu,NB[i]?=some g/\HB[i]?=some hh/\UB[i]?=some uu/\PN w0 w g hh uu nd:=by
 have hl:=(aT.1 hi).1;obtain⟨g,hg⟩:∃y,NB[i]?=some y:=⟨_,aO (by rw[h.te];exact hl)⟩;obtain⟨hh,mQ⟩:∃y,HB[i]?=some y:=⟨_,aO (by rw[h.hlen];exact hl)⟩;obtain⟨uu,nj⟩:∃y,UB[i]?=some y:=⟨_,aO (by rw[h.tR];exact hl)⟩;exact⟨g,hh,uu,hg,mQ,nj,h.my i nd g hh uu hi hg mQ nj⟩
def PS.sat(h:PS w0 w b bs bn D SB NB HB UB){s:aR}(hi:D.ss[i]?=some s):∃g,SB[i]?=some g/\PE w0 w g s:=by
 have hl:=(aT.1 hi).1;obtain⟨g,hg⟩:∃y,SB[i]?=some y:=⟨_,aO (by rw[h.tc];exact hl)⟩;exact⟨g,hg,h.ve i s g hi hg⟩
def PS.bl5(h:PS w0 w b bs bn D SB NB HB UB)(hg:NB[i]?=some g):∃nd,D.ns[i]?=some nd:=⟨_,aO (by rw[<-h.te];exact(aT.1 hg).1)⟩
def PS.below(h:PS w0 w b bs bn D SB NB HB UB)(hb:Bw w w'):PS w0 w' b bs bn D SB NB HB UB:=by
 have O:One w0 w w' w.heap.size:=⟨hb.mono h.be.size,fun z hz _=>hb.block z hz,fun cur ty m hc=>absurd (aL hc) (Nat.lt_irrefl _)⟩;have hn:∀{z:Nat}{o:Obj},w.heap[z]?=some o->z≠w.heap.size:=fun hz e=>by have:=aL hz;omega
 refine⟨h.be.trans (hb.mono h.be.size),O.obj h.hd (hn h.hd),h.tc,?_,fun i s g hs hg=>?_,h.snd,h.te,h.hlen,h.tR,?_,fun i nd g hh uu hs hg h1 h2=>?_,h.YI,h.lo,h.yQ⟩;{obtain⟨M,n,o,r⟩:=h.rZ;obtain⟨es,c,hm⟩:=ownsMap_at o;exact⟨M,n,O.map o (hn hm),r⟩};{have q:=h.ve i s g hs hg;obtain⟨-,u,h1,-⟩:=id q;exact q.keep O (hn h1)};{obtain⟨M,n,o,r⟩:=h.lr;obtain⟨es,c,hm⟩:=ownsMap_at o;exact⟨M,n,O.map o (hn hm),r⟩};{have q:=h.my i nd g hh uu hs hg h1 h2;obtain⟨-,⟨V,q1,-⟩,q3,q4⟩:=id q;obtain⟨es,c,m3⟩:=q3.at;obtain⟨es',c',m4⟩:=q4.at;exact q.keep O (hn q1) (hn m3) (hn m4)}
def KP{l:List Nat}(hn:l.Nodup){j a c:Nat}(hi:l[i]?=some a)(hj:l[j]?=some c)(kF:i≠j):a≠c:=fun e=>kF (IU hn hi (e▸hj))
def PS.hu(h:PS w0 w b bs bn D SB NB HB UB):bs≠bn/\(∀z∈HB,z≠bs/\z≠bn)/\(∀z∈UB,z≠bs/\z≠bn)/\HB.Nodup/\UB.Nodup/\∀y∈HB,∀z∈UB,y≠z:=by
 have hd:=h.yQ;simp only[vg,jA,gR,Ey]at hd;obtain⟨⟨d0,d1,d2⟩,⟨d3,d4⟩,d5⟩:=hd;rw[yk]at d5;exact⟨d0,fun z hz=>⟨fun e=>d1 (e▸hz),fun e=>d3 (e▸hz)⟩,fun z hz=>⟨fun e=>d2 (e▸hz),fun e=>d4 (e▸hz)⟩,d5.1,d5.2.1,fun y hy z hz=>d5.2.2 y hy z hz⟩
def PS.nW(h:PS w0 w b bs bn D SB NB HB UB){s s':aR}(hs:D.ss[i]?=some s)(hg:SB[i]?=some g)(O:One w0 w w' g)(hid:s'.1=s.1)(hE:PE w0 w' g s'):PS w0 w' b bs bn {D with ss:=D.ss.set i s'} SB NB HB UB:=by
 obtain⟨g0,u0,gc,-⟩:=h.ve i s g hs hg;have zy:=(aT.1 hs).1;have nc:∀{z:Nat}{cs:Array Value}{ty:TypeId},w.heap[z]?=some (.cells cs ty)->ty≠86->z≠g:=fun hz ht e=>by rw[e,gc]at hz;simp at hz;exact ht hz.2.symm
 have nm:∀{z:Nat}{es:Array MapEntry}{c:Nat},w.heap[z]?=some (.map es c)->z≠g:=fun hz e=>by rw[e,gc]at hz;cases hz
 refine⟨h.be.trans O.b,O.obj h.hd (nc h.hd aU),by rw[mB];exact h.tc,?_,fun j s1 g1 ik fU=>?_,h.snd,h.te,h.hlen,h.tR,?_,fun j nd gb hh uu ik fU h1 h2=>?_,h.YI,h.lo,h.yQ⟩;{
 obtain⟨M,n,o,hn,m,hz⟩:=h.rZ;obtain⟨es,c,hm⟩:=ownsMap_at o;refine⟨M,n,O.map o (nm hm),hn,?_,by simp only[mB];exact hz⟩;have e:List.zipWith (fun(s:aR)g=>(Lit.U s.1,g)) (D.ss.set i s') SB=List.zipWith (fun(s:aR)g=>(Lit.U s.1,g)) D.ss SB:=by refine EY fun j=>?_;rw[jT,jT,qH];by_cases ej:i=j;{subst ej;rw[bN rfl,bN zy,hs,hg];simp[hid]};{simp[ej]}
 rw[e];exact m};{simp only[qH]at ik;by_cases ej:i=j;{subst ej;rw[hg]at fU;cases fU;simp[zy]at ik;subst ik;exact hE};{simp[ej]at ik;exact(h.ve j s1 g1 ik fU).keep O (KP h.snd fU hg (fun e=>ej e.symm))}};{obtain⟨M,n,o,r⟩:=h.lr;obtain⟨es,c,hm⟩:=ownsMap_at o;exact⟨M,n,O.map o (nm hm),r⟩};{have q:=h.my j nd gb hh uu ik fU h1 h2;obtain⟨-,⟨V,q1,-⟩,q3,q4⟩:=id q;obtain⟨es,c,m3⟩:=q3.at;obtain⟨es',c',m4⟩:=q4.at;exact q.keep O (nc q1 aU) (nm m3) (nm m4)}
end
def gM.same{l l':List (Lit×Nat)}(h:gM D l)(hp:∀p,p∈l'↔p∈l):gM D l':=by
 refine⟨fun k=>?_,fun p h1 z=>h.at' p ((hp p).1 h1) z⟩;rw[h.hs k];exact⟨fun⟨p,h1,h2⟩=>⟨p,(hp p).2 h1,h2⟩,fun⟨p,h1,h2⟩=>⟨p,(hp p).1 h1,h2⟩⟩
def gM.del{l:List (Lit×Nat)}(h:gM D l){k:Lit}(hi:l[i]?=some (k,g))(hd:∀(j:Nat)(p:Lit×Nat),l[j]?=some p->p.1=k->j=i):gM (D.del k) (l.eraseIdx i):=by
 have iY:∀p,p∈l.eraseIdx i↔p∈l/\p.1≠k:=fun p=>by
  rw[aD2];constructor;{rintro⟨j,hj,e⟩;exact⟨aS e,fun e2=>hj (hd j p e e2)⟩};{
 rintro⟨hp,cg⟩;obtain⟨j,hj⟩:=gv.1 hp;refine⟨j,fun e=>cg ?_,hj⟩;subst e;rw[hi]at hj;cases hj
 rfl}
 refine⟨fun k'=>?_,fun p hp z=>?_⟩;{by_cases e:k'=k;{subst e;rw[has_del_same];constructor;{intro hh;cases hh};{rintro⟨p,hp,e2⟩;exact absurd e2 ((iY p).1 hp).2}};{rw[has_del_other e,h.hs k'];constructor;{rintro⟨p,hp,rfl⟩;exact⟨p,(iY p).2 ⟨hp,e⟩,rfl⟩};{rintro⟨p,hp,rfl⟩;exact⟨p,((iY p).1 hp).1,rfl⟩}}};{obtain⟨h1,h2⟩:=(iY p).1 hp;rw[atKey_del_other h2];exact h.at' p h1 z}
theorem zL{α β γ:Type}(f:α->β->γ):∀(l:List α)(m:List β)(i:Nat),l.length=m.length->List.zipWith f (l.eraseIdx i) (m.eraseIdx i)=(List.zipWith f l m).eraseIdx i
 |[],[],i,_=>ai
 |a::l,c::m,0,_=>ai
 |a::l,c::m,i+1,h=>by simp[zL f l m i (by simpa using h)]
section
variable {w0 w w':World}{b bs bn:Nat}{D:SD}{SB NB HB UB:List Nat}
def PS.nY(h:PS w0 w b bs bn D SB NB HB UB)(hi:D.ns[i]?=some nd)(hg:NB[i]?=some g)(mQ:HB[i]?=some hh)(nj:UB[i]?=some uu)(hz:z=g\/z=hh\/z=uu)(O:One w0 w w' z)(hp:nd'.path=nd.path)(hN:PN w0 w' g hh uu nd'):PS w0 w' b bs bn {D with ns:=D.ns.set i nd'} SB NB HB UB:=by
 obtain⟨-,⟨V0,gc,-⟩,q3,q4⟩:=h.my i nd g hh uu hi hg mQ nj;obtain⟨es3,c3,m3⟩:=q3.at;obtain⟨es4,c4,m4⟩:=q4.at;obtain⟨d0,d1,d2,d3,d4,d5⟩:=h.hu;have zy:=(aT.1 hi).1;have hhm:=aS mQ;have hum:=aS nj;have nc:∀{y:Nat}{cs:Array Value}{ty:TypeId},w.heap[y]?=some (.cells cs ty)->(ty≠121\/y≠g)->y≠z:=fun{y cs ty}hy ht e=>by rcases hz with rfl|rfl|rfl;{rcases ht with ht|ht;{rw[e,gc]at hy;simp at hy;exact ht hy.2.symm};{exact ht e}};{rw[e,m3]at hy;cases hy};{rw[e,m4]at hy;cases hy}
 have nm:∀{y:Nat}{es:Array MapEntry}{c:Nat},w.heap[y]?=some (.map es c)->y≠hh->y≠uu->y≠z:=fun{y es c}hy h1 h2 e=>by rcases hz with rfl|rfl|rfl;{rw[e,gc]at hy;cases hy};{exact h1 e};{exact h2 e}
 refine⟨h.be.trans O.b,O.obj h.hd (nc h.hd (.inl aU)),h.tc,?_,fun j s1 g1 ik fU=>?_,h.snd,by rw[mB];exact h.te,by rw[mB];exact h.hlen,by rw[mB];exact h.tR,?_,fun j kP gb h1 u1 ik fU xy qX=>?_,h.YI,h.lo,h.yQ⟩;{obtain⟨M,n,o,r⟩:=h.rZ;obtain⟨es,c,hm⟩:=ownsMap_at o;exact⟨M,n,O.map o (nm hm (fun e=>(d1 _ hhm).1 e.symm) (fun e=>(d2 _ hum).1 e.symm)),r⟩};{have q:=h.ve j s1 g1 ik fU;obtain⟨-,u,h1,-⟩:=id q;exact q.keep O (nc h1 (.inl aU))};{
 obtain⟨M,n,o,hn,m,hs⟩:=h.lr;obtain⟨es,c,hm⟩:=ownsMap_at o;refine⟨M,n,O.map o (nm hm (fun e=>(d1 _ hhm).2 e.symm) (fun e=>(d2 _ hum).2 e.symm)),hn,?_,by simp only[mB];exact hs⟩;have e:List.zipWith (fun(nd:aB)g=>(bQ nd.path,g)) (D.ns.set i nd') NB=List.zipWith (fun(nd:aB)g=>(bQ nd.path,g)) D.ns NB:=by refine EY fun j=>?_;rw[jT,jT,qH];by_cases ej:i=j;{subst ej;rw[bN rfl,bN zy,hi,hg];simp[hp]};{simp[ej]}
 rw[e];exact m};{simp only[qH]at ik;by_cases ej:i=j;{subst ej;rw[hg]at fU;rw[mQ]at xy;rw[nj]at qX;cases fU;cases xy;cases qX;simp[zy]at ik;subst ik;exact hN};{simp[ej]at ik;have q:=h.my j kP gb h1 u1 ik fU xy qX;obtain⟨-,⟨V,q1,-⟩,p3,p4⟩:=id q;obtain⟨es,c,m5⟩:=p3.at;obtain⟨es',c',m6⟩:=p4.at;have ej':¬j=i:=fun e=>ej e.symm;exact q.keep O (nc q1 (.inr (KP h.YI fU hg ej'))) (nm m5 (KP d3 xy mQ ej') (d5 _ (aS xy) _ hum)) (nm m6 (fun e=>d5 _ hhm _ (aS qX) e.symm) (KP d4 qX nj ej'))}}
def PS.XL(h:PS w0 w b bs bn D SB NB HB UB)(O:One w0 w w' b)(e g x t:Int)(hd:w'.heap[b]?=some (.cells #[.U e,.U g,.U x,.I t,.map (some bs),.map (some bn)] 114)):PS w0 w' b bs bn ⟨e,g,x,t,D.ss,D.ns⟩ SB NB HB UB:=by
 have nc:∀{y:Nat}{cs:Array Value}{ty:TypeId},w.heap[y]?=some (.cells cs ty)->ty≠114->y≠b:=fun{y cs ty}hy ht e=>by rw[e,h.hd]at hy;simp at hy;exact ht hy.2.symm
 have nm:∀{y:Nat}{es:Array MapEntry}{c:Nat},w.heap[y]?=some (.map es c)->y≠b:=fun{y es c}hy e=>by rw[e,h.hd]at hy;cases hy
 refine⟨h.be.trans O.b,hd,h.tc,?_,fun j s1 g1 ik fU=>?_,h.snd,h.te,h.hlen,h.tR,?_,fun j nd gb hh uu ik fU h1 h2=>?_,h.YI,h.lo,h.yQ⟩;{obtain⟨M,n,o,r⟩:=h.rZ;obtain⟨es,c,hm⟩:=ownsMap_at o;exact⟨M,n,O.map o (nm hm),r⟩};{have q:=h.ve j s1 g1 ik fU;obtain⟨-,u,h1,-⟩:=id q;exact q.keep O (nc h1 aU)};{obtain⟨M,n,o,r⟩:=h.lr;obtain⟨es,c,hm⟩:=ownsMap_at o;exact⟨M,n,O.map o (nm hm),r⟩};{have q:=h.my j nd gb hh uu ik fU h1 h2;obtain⟨-,⟨V,q1,-⟩,q3,q4⟩:=id q;obtain⟨es,c,m3⟩:=q3.at;obtain⟨es',c',m4⟩:=q4.at;exact q.keep O (nc q1 aU) (nm m3) (nm m4)}
theorem PS.cq8(h:PS w0 w b bs bn D SB NB HB UB)(hi:D.ns[i]?=some nd)(O:One w0 w w' bn)(hd:∀(j:Nat)(z:aB),D.ns[j]?=some z->bQ z.path=bQ nd.path->j=i)(hM:∀M n,w.ownsMap prog 9 aV bn n M->w'.ownsMap prog 9 aV bn n (M.del (bQ nd.path))):PS w0 w' b bs bn {D with ns:=D.ns.eraseIdx i} SB (NB.eraseIdx i) (HB.eraseIdx i) (UB.eraseIdx i):=by
 obtain⟨g,hh,uu,hg,mQ,nj,-⟩:=h.nat hi;obtain⟨d0,d1,d2,d3,d4,d5⟩:=h.hu;obtain⟨M,n,o,hn,m,hs⟩:=h.lr;obtain⟨es0,c0,m0⟩:=ownsMap_at o;have zy:=(aT.1 hi).1;have nc:∀{y:Nat}{cs:Array Value}{ty:TypeId},w.heap[y]?=some (.cells cs ty)->y≠bn:=fun{y cs ty}hy e=>by rw[e,m0]at hy;cases hy
 have hz:(List.zipWith (fun(nd:aB)g=>(bQ nd.path,g)) D.ns NB)[i]?=some (bQ nd.path,g):=by rw[jT,hi,hg]
 have hdz:∀(j:Nat)(p:Lit×Nat),(List.zipWith (fun(nd:aB)g=>(bQ nd.path,g)) D.ns NB)[j]?=some p->p.1=bQ nd.path->j=i:=fun j p hj e=>by
  rw[jT]at hj;cases ha:D.ns[j]? with
  |none=>rw[ha]at hj;cases hj
  | some a=>
   cases hc:NB[j]? with
   |none=>rw[ha,hc]at hj;cases hj
   |some c=>
    rw[ha,hc]at hj;cases hj;exact hd j a ha e
 have el:∀{l:List Nat},l.length=D.ns.length->(l.eraseIdx i).length=(D.ns.eraseIdx i).length:=fun hl=>by rw[EU,EU,hl]
 refine⟨h.be.trans O.b,O.obj h.hd (nc h.hd),h.tc,?_,fun j s1 g1 ik fU=>?_,h.snd,el h.te,el h.hlen,el h.tR,⟨_,n,hM M n o,hn,?_,?_⟩,fun j kP gb h1 u1 ik fU xy qX=>?_,h.YI.sublist (EP _ _),h.lo,?_⟩;{obtain⟨M,n,o,r⟩:=h.rZ;exact⟨M,n,O.map o d0,r⟩};{have q:=h.ve j s1 g1 ik fU;obtain⟨-,u,h1,-⟩:=id q;exact q.keep O (nc h1)};{rw[zL _ _ _ _ h.te.symm];exact m.del hz hdz};{have Sc:Maps.has M (bQ nd.path)=true:=(m.hs _).2 ⟨_,aS hz,rfl⟩;have:=size_del (k:=bQ nd.path) (mX o me);rw[Sc]at this;simp only[pG]at this;simp only[EU,zy,pG];omega};{
 rw[YS]at ik fU xy qX;obtain⟨j',GI,ga,hh2,Qd⟩:∃j',D.ns[j']?=some kP/\NB[j']?=some gb/\HB[j']?=some h1/\UB[j']?=some u1:=by by_cases hj:j<i;{rw[bN hj]at ik fU xy qX;exact⟨j,ik,fU,xy,qX⟩};{rw[bH hj]at ik fU xy qX;exact⟨j+1,ik,fU,xy,qX⟩}
 have q:=h.my j' kP gb h1 u1 GI ga hh2 Qd;obtain⟨-,⟨V,q1,-⟩,p3,p4⟩:=id q;exact q.keep O (nc q1) (d1 _ (aS hh2)).2 (d2 _ (aS Qd)).2};{exact h.yQ.sublist (((EP HB i).append (EP UB i)).cons_cons bn |>.cons_cons bs)}
theorem PS.cq7(h:PS w0 w b bs bn D SB NB HB UB){s:aR}(hi:D.ss[i]?=some s)(O:One w0 w w' bs)(hd:∀(j:Nat)(z:aR),D.ss[j]?=some z->z.1=s.1->j=i)(hM:∀M n,w.ownsMap prog 28 aV bs n M->w'.ownsMap prog 28 aV bs n (M.del (.U s.1))):PS w0 w' b bs bn {D with ss:=D.ss.eraseIdx i} (SB.eraseIdx i) NB HB UB:=by
 obtain⟨g,hg,-⟩:=h.sat hi;obtain⟨d0,d1,d2,d3,d4,d5⟩:=h.hu;obtain⟨M,n,o,hn,m,hs⟩:=h.rZ;obtain⟨es0,c0,m0⟩:=ownsMap_at o;have zy:=(aT.1 hi).1;have nc:∀{y:Nat}{cs:Array Value}{ty:TypeId},w.heap[y]?=some (.cells cs ty)->y≠bs:=fun{y cs ty}hy e=>by rw[e,m0]at hy;cases hy
 have hz:(List.zipWith (fun(s:aR)g=>(Lit.U s.1,g)) D.ss SB)[i]?=some (.U s.1,g):=by rw[jT,hi,hg]
 have hdz:∀(j:Nat)(p:Lit×Nat),(List.zipWith (fun(s:aR)g=>(Lit.U s.1,g)) D.ss SB)[j]?=some p->p.1=.U s.1->j=i:=fun j p hj e=>by
  rw[jT]at hj;cases ha:D.ss[j]? with
  |none=>rw[ha]at hj;cases hj
  | some a=>
   cases hc:SB[j]? with
   |none=>rw[ha,hc]at hj;cases hj
   |some c=>
    rw[ha,hc]at hj;cases hj;exact hd j a ha (by simpa using e)
 refine⟨h.be.trans O.b,O.obj h.hd (nc h.hd),by rw[EU,EU,h.tc],⟨_,n,hM M n o,hn,?_,?_⟩,fun j s1 g1 ik fU=>?_,h.snd.sublist (EP _ _),h.te,h.hlen,h.tR,?_,fun j kP gb h1 u1 ik fU xy qX=>?_,h.YI,h.lo,h.yQ⟩;{rw[zL _ _ _ _ h.tc.symm];exact m.del hz hdz};{have Sc:Maps.has M (.U s.1)=true:=(m.hs _).2 ⟨_,aS hz,rfl⟩;have:=size_del (k:=.U s.1) (mX o iI);rw[Sc]at this;simp only[pG]at this;simp only[EU,zy,pG];omega};{
 rw[YS]at ik fU;obtain⟨j',GI,ga⟩:∃j',D.ss[j']?=some s1/\SB[j']?=some g1:=by by_cases hj:j<i;{rw[bN hj]at ik fU;exact⟨j,ik,fU⟩};{rw[bH hj]at ik fU;exact⟨j+1,ik,fU⟩}
 have q:=h.ve j' s1 g1 GI ga;obtain⟨-,u,h1,-⟩:=id q;exact q.keep O (nc h1)};{obtain⟨M,n,o,r⟩:=h.lr;exact⟨M,n,O.map o (fun e=>d0 e.symm),r⟩};{have q:=h.my j kP gb h1 u1 ik fU xy qX;obtain⟨-,⟨V,q1,-⟩,p3,p4⟩:=id q;exact q.keep O (nc q1) (d1 _ (aS xy)).1 (d2 _ (aS qX)).1}
end
structure DE(ss:List aR):Prop where
 pw:ss.Pairwise (fun s s'=>s.1<s'.1)
 rg:∀s∈ss,0<=s.1/\s.1<18446744073709551616
 ql:∀s∈ss,s.2.2.length<=8
def Vs{q:List Ev}{ev:Ev}(h:q.length<=8):(Ek q ev).length<=8:=by
 unfold Ek;split;{simp;omega};{split;{simp;omega};{exact h}}
def Jt(ss:List aR)(id:Int)(ev:Ev):(FM ss id ev).map (·.1)=ss.map (·.1):=by
 unfold FM;rw[uj];refine yz fun s _=>?_;simp only[Function.comp];split<;>rfl
def DE.cm9(h:DE ss)(id:Int)(ev:Ev):DE (FM ss id ev):=by
 refine⟨?_,fun s hs=>?_,fun s hs=>?_⟩;{have:=h.pw;rw[<-Ap (f:=fun s:aR=>s.1) (R:=(·<·))]at this⊢;rw[Jt];exact this};{obtain⟨s0,h0,rfl⟩:=iJ.1 hs;split<;>exact h.rg s0 h0}
 {obtain⟨s0,h0,rfl⟩:=iJ.1 hs;split;{exact Vs (h.ql s0 h0)};{exact h.ql s0 h0}}
theorem uO(ids:LI)(ev:Ev):∀ss:List aR,(rr ss ids ev).map (·.1)=ss.map (·.1):=by
 unfold rr
 induction ids with
 |nil=>intro ss;rfl
 |cons a r ih=>intro ss;rw[Kq,ih,Jt]
def PS.Oe{w0 w:World}{D:SD}{SB NB HB UB:List Nat}(h:PS w0 w b bs bn D SB NB HB UB)(hi:D.ns[i]?=some nd)(hl:nd.path.length<=1048576):∃g hh uu,NB[i]?=some g/\HB[i]?=some hh/\UB[i]?=some uu/\PN w0 w g hh uu nd/\(Instr.lookup 112 (.map (some bn)) (.string (aN nd.path)) false).run Tryz.prog w=.ok (.pointer (some ⟨g,0,none⟩)) w:=by
 obtain⟨g,hh,uu,hg,mQ,nj,hN⟩:=h.nat hi;obtain⟨M,n,o,-,m,-⟩:=h.lr;exact⟨g,hh,uu,hg,mQ,nj,hN,Od o m (aS (i:=i) (by rw[jT,hi,hg])) hl⟩
def PN.cells{w0 w:World}{u:Nat}(k:PN w0 w g h u nd):∃V,AB w0 w V nd.value/\w.heap[g]?=some (.cells #[V,.U nd.owner,.I nd.mode,.map (some h),.U nd.aJ,.U nd.gen,.map (some u)] 121)/\w.cell? ⟨g,0,none⟩=some V/\w.cell? ⟨g,1,none⟩=some (.U nd.owner)/\w.cell? ⟨g,2,none⟩=some (.I nd.mode)/\w.cell? ⟨g,3,none⟩=some (.map (some h))/\w.cell? ⟨g,4,none⟩=some (.U nd.aJ)/\w.cell? ⟨g,5,none⟩=some (.U nd.gen)/\w.cell? ⟨g,6,none⟩=some (.map (some u))/\∀o,w.frozen? ⟨g,o,none⟩=false:=by
 obtain⟨V,h1,h2⟩:=k.blk;exact⟨V,h2,h1,aq h1 0,aq h1 1,aq h1 2,aq h1 3,aq h1 4,aq h1 5,aq h1 6,fun o=>by simp[World.frozen?,h1]⟩
def PS.fh{w0 w:World}{D:SD}{SB NB HB UB:List Nat}(h:PS w0 w b bs bn D SB NB HB UB):w.cell? ⟨b,0,none⟩=some (.U D.e)/\w.cell? ⟨b,1,none⟩=some (.U D.g)/\w.cell? ⟨b,2,none⟩=some (.U D.x)/\w.cell? ⟨b,3,none⟩=some (.I D.t)/\w.cell? ⟨b,4,none⟩=some (.map (some bs))/\w.cell? ⟨b,5,none⟩=some (.map (some bn))/\∀o,w.frozen? ⟨b,o,none⟩=false:=
 ⟨aq h.hd 0,aq h.hd 1,aq h.hd 2,aq h.hd 3,aq h.hd 4,aq h.hd 5,fun o=>by simp[World.frozen?,h.hd]⟩
structure NT(ss:List aR)(nd:aB):Prop where
 by':aM nd.path
 pl:nd.path.length<=1048576
 wpw:nd.watchers.Pairwise (·<·)
 QF:nd.watchers.length<=0
 Mx:∀i∈nd.watchers,∃s∈ss,s.1=i
def ar0{DX:List aR}(h:DX.map (·.1)=ss.map (·.1)){i:Int}(hi:∃s∈ss,s.1=i):∃(j:Nat)(s:aR),DX[j]?=some s/\s.1=i:=by
 obtain⟨s,hs,rfl⟩:=hi;have:s.1∈DX.map (·.1):=by rw[h];exact iJ.2 ⟨s,hs,rfl⟩
 obtain⟨s',tv,e⟩:=iJ.1 this;obtain⟨j,hj⟩:=gv.1 tv;exact⟨j,s',hj,e⟩
def ar9{w:World}{ss:LI}(h:Q.RdK B w v ss):∃p c gk,v=.S p ss.length c/\B<=gk/\∀(j:Nat)(x:Int),ss[j]?=some x->p=some ⟨gk,0,none⟩/\gk<w.heap.size/\w.cell? ⟨gk,j,none⟩=some (.U x):=by
 rcases h with⟨rfl,rfl⟩|⟨g,cap,rfl,hB,aX,hu⟩;{exact⟨none,0,B,rfl,jS _,fun j x hx=>by simp at hx⟩};{refine⟨_,cap,g,rfl,hB,fun j x hx=>⟨rfl,aX,?_⟩⟩;have:=hu j (by simpa using(aT.1 hx).1);have h2:=this.1;simpa[hx]using h2}
def One.YA{w0 w w':World}(be:Bw w0 w)(hg:w.grownBy w' (some z))(hz:w0.heap.size<=z)(hm:∃es c,w.heap[z]?=some (.map es c)):One w0 w w' z:=by
 refine⟨(cW w0.heap.size w).grown hg be.size (fun b e=>by cases e;exact hz),fun y hy cg=>hg.block y hy (fun e=>cg (by cases e;rfl)),fun cur ty m hc=>?_⟩;obtain⟨es,c,hm⟩:=hm;rw[hm]at hc;cases hc
def PS.Vc{w0 w w':World}{D:SD}{SB NB HB UB:List Nat}(h:PS w0 w b bs bn D SB NB HB UB)(hi:D.ns[i]?=some nd)(hg:NB[i]?=some g)(mQ:HB[i]?=some hh)(nj:UB[i]?=some uu)(O:One w0 w w' uu)(hs:SM w' uu s):PS w0 w' b bs bn {D with ns:=D.ns.set i {nd with watchers:=s}} SB NB HB UB:=by
 obtain⟨lo,⟨V,q1,q2⟩,q3,q4⟩:=h.my i nd g hh uu hi hg mQ nj;obtain⟨es,c,m4⟩:=q4.at;refine h.nY hi hg mQ nj (.inr (.inr rfl)) O rfl ⟨lo,⟨V,O.obj q1 (fun e=>?_),q2.fr O.fr⟩,q3.keep O (h.hu.2.2.2.2.2 _ (aS mQ) _ (aS nj)),hs⟩;rw[e,m4]at q1;cases q1
def PS.UD{w0 w w':World}{D:SD}{SB NB HB UB:List Nat}(h:PS w0 w b bs bn D SB NB HB UB)(hi:D.ns[i]?=some nd)(hg:NB[i]?=some g)(mQ:HB[i]?=some hh)(nj:UB[i]?=some uu)(O:One w0 w w' hh)(hs:SM w' hh s):PS w0 w' b bs bn {D with ns:=D.ns.set i {nd with holders:=s}} SB NB HB UB:=by
 obtain⟨lo,⟨V,q1,q2⟩,q3,q4⟩:=h.my i nd g hh uu hi hg mQ nj;obtain⟨es,c,m3⟩:=q3.at;refine h.nY hi hg mQ nj (.inr (.inl rfl)) O rfl ⟨lo,⟨V,O.obj q1 (fun e=>?_),q2.fr O.fr⟩,hs,q4.keep O (fun e=>h.hu.2.2.2.2.2 _ (aS mQ) _ (aS nj) e.symm)⟩;rw[e,m3]at q1;cases q1
abbrev T3:List TypeId:=[86,121,114]
def PL(b bs bn:Nat)(SB NB HB UB:List Nat):List Nat:=b::bs::bn::(SB++(NB++(HB++UB)))
def Kb(L:List Nat)(w w':World):Prop:=∀z,z<w.heap.size->z∉L->w'.heap[z]?=w.heap[z]?
def Kb.below{w w':World}(h:Bw w w'):Kb L w w':=fun z hz _=>h.block z hz
def Kb.trans{w w1 w2:World}(h:Kb L w w1)(h2:Kb L w1 w2)(hs:w.heap.size<=w1.heap.size):Kb L w w2:=fun z hz hn=>(h2 z (by omega) hn).trans (h z hz hn)
def Kb.mono{L':List Nat}{w w':World}(h:Kb L w w')(hs:∀z∈L,z∈L'):Kb L' w w':=fun z hz hn=>h z hz (fun hm=>hn (hs z hm))
def One.kb{w0 w w':World}(O:One w0 w w' g)(hg:g∈L):Kb L w w':=fun z hz hn=>O.k z hz (fun e=>hn (e▸hg))
def QJ{w:World}{D:SD}{SB NB HB UB:List Nat}(h:Hid (PS w0 w b bs bn D SB NB HB UB))(nd:aB)(hk:Hid (D.ns[k]?=some nd))(kd:Int)(hS:Hid (DE D.ss))(hT:Hid (NT D.ss nd)):Cp 277 #[.pointer (some ⟨b,0,none⟩),.I kd,.string (aN nd.path)] w fun r w'=>PS w0 w' b bs bn (dR D k kd) SB NB HB UB/\(Fr T3 w w'/\Kb (PL b bs bn SB NB HB UB) w w')/\∃v,r=.returned v:=by
 obtain⟨g,hh,uu,hg,mQ,nj,hN,hlk⟩:=h.Oe hk hT.pl;obtain⟨V,-,-,-,-,-,-,-,-,n6,-⟩:=hN.cells;obtain⟨-,-,-,-,-,h5,-⟩:=h.fh;obtain⟨M,nn,oM,hnn,sM,zM⟩:=hN.Vc;have WW:=af (ah hg (ah mQ nj));have hgl:g<w.heap.size:=by obtain⟨V,hb,-⟩:=hN.blk;exact aL hb
 go_enter func277,ntmps277;go_wp2_with fail;refine(Q.r8 uu nn M w oM (by rw[zM];have:=hT.QF;omega)).mono ?_;rintro r w1⟨v,ws,rfl,hA,hK,aA⟩;have ews:ws=nd.watchers:=sK hA.lt hT.wpw fun x=>by rw[hA.mem x,sM];simp
 subst ews;obtain⟨p,c,gk,rfl,hgk,cL⟩:=ar9 hK;obtain⟨m,em⟩:=cK nd.watchers.length;rw[aa em];have Mb:=af cL;have P1:=af (h.below aA);have F1:=af (Fr.below (T:=T3) aA);have K1:=af (Kb.below (L:=PL b bs bn SB NB HB UB) aA);have z1:=aA.size;have hm:m<=0:=by rw[<-aa em];exact hT.QF
 go_wp2
 go_loopw[21](fun iv wr=>∃(j:Nat)(SS:List aR),j<=m/\iv=.I j/\Hid (rr D.ss (nd.watchers.take j) (kd,nd.path)=SS)/\Hid (PS w0 wr b bs bn {D with ss:=SS} SB NB HB UB)/\Hid (DE SS)/\Hid (Fr T3 w wr)/\Hid (wr.heap[gk]?=w1.heap[gk]?)/\Hid (w1.heap.size<=wr.heap.size)/\Hid (Kb (PL b bs bn SB NB HB UB) w wr)) (fun iv _=>m-(intOf iv).toNat)
 exact⟨0,D.ss,gq _,rfl,bq,P1,hS,F1,bq,jS _,K1⟩;{
 obtain⟨j,SS,hj,rfl,hSS,hP,hSO,hFR,hGK,Ry,hKB⟩:=hrel;obtain⟨-,-,-,-,h4,h5,-⟩:=hP.fh;by_cases aX:j<m;{omega};{
 have bu:=du j m;have e1:=aa hSS;rw[kq (by rw[aa em];omega)]at e1;have hN5:=hP.my k nd g hh uu hk WW.1 WW.2.1 WW.2.2;obtain⟨V,-,-,-,-,-,-,-,-,n6,-⟩:=hN5.cells;obtain⟨M5,n5,o5,-,-,-⟩:=hN5.Vc;obtain⟨vv,w5,dI,GK,ra,hs5⟩:=Am underlying118 o5 0;have HN5:=af hN5;have HO5:=af (ah GK (ah ra hs5));have H5:=af o5;go_wp2
 go_end0
 have O:=One.YA hP.be HO5.2.1 HN5.lo.2.2 (ownsMap_at H5);have hQ:=PS.Vc (s:=[]) hP hk WW.1 WW.2.1 WW.2.2 O ⟨_,0,HO5.1,ae,dD.nil,rfl⟩;refine⟨?_,⟨hFR.trans O.fr,hKB.trans (O.kb (by simp[PL,aS WW.2.2])) hFR.1⟩,_,rfl⟩;unfold dR;rw[aa hk];simp only[e1];exact hQ}}
def aL3{w:World}{D:SD}{SB NB HB UB:List Nat}(h:Hid (PS w0 w b bs bn D SB NB HB UB))(nd:aB)(hk:Hid (D.ns[k]?=some nd))(kd:Int)(hS:Hid (DE D.ss))(hT:Hid (NT D.ss nd)):Cp 277 #[.pointer (some ⟨b,0,none⟩),.I kd,.string (aN nd.path)] w fun r w'=>PS w0 w' b bs bn (dR D k kd) SB NB HB UB/\Fr T3 w w'/\∃v,r=.returned v:=(QJ h nd hk kd hS hT).mono fun r w'⟨h1,h2,h3⟩=>⟨h1,h2.1,h3⟩
def dD.has(h:dD D s)(id:Int):Maps.has D (.U id)=s.contains id:=by
 rw[Jg,h];simp
def qD{id x:Int}:x∈qE s id↔x∈s/\x≠id:=by
 unfold qE;simp
def Mw{id:Int}(h:s.Pairwise (·<·)):(qE s id).Pairwise (·<·):=h.filter _
theorem zQ:∀{s:LI}{id x:Int},x∈vR s id↔x=id\/x∈s
 |[],id,x=>by simp[vR]
 |y::r,id,x=>by
  unfold vR;split;{rw[jA,qD];by_cases e:x=id<;>simp[e]}
  {rw[jA,zQ,jA];constructor;{rintro(h|h|h);{exact .inr (.inl h)};{exact .inl h};{exact .inr (.inr h)}};{rintro(h|h|h);{exact .inr (.inl h)};{exact .inl h};{exact .inr (.inr h)}}}
theorem XF:∀{s:LI}{id:Int},s.Pairwise (·<·)->(vR s id).Pairwise (·<·)
 |[],id,_=>by simp[vR]
 |y::r,id,h=>by
  unfold vR;obtain⟨h1,h2⟩:=yB.1 h;split;{
 rename_i hle
 refine yB.2 ⟨fun z hz=>?_,Mw h⟩;obtain⟨iL,ju⟩:=qD.1 hz;rcases jA.1 iL with rfl|iL;{omega};{have:=h1 z iL;omega}};{
 rename_i hle
 refine yB.2 ⟨fun z hz=>?_,XF h2⟩;rcases zQ.1 hz with rfl|hz;{omega};{exact h1 z hz}}
def SM.del{w w':World}{h n:Nat}{id:Int}(hs:dD D s)(hp:s.Pairwise (·<·))(hn:n<=2097152)(o:w'.ownsMap prog 28 unitElem h n (D.del (.U id))):SM w' h (qE s id):=by
 refine SM.of o hn (fun k=>?_) (qe (Mw hp));by_cases e:k=.U id;{subst e;rw[has_del_same];constructor;{intro hh;cases hh};{rintro⟨i,hi,e⟩;simp at e;exact absurd e.symm (qD.1 hi).2}};{rw[has_del_other e,hs k];constructor;{rintro⟨i,hi,rfl⟩;exact⟨i,qD.2 ⟨hi,fun e2=>e (by rw[e2])⟩,rfl⟩};{rintro⟨i,hi,rfl⟩;exact⟨i,(qD.1 hi).1,rfl⟩}}
def SM.put{w w':World}{h n:Nat}{id:Int}(hs:dD D s)(hD:IsMap D)(hp:s.Pairwise (·<·))(hn:n<=2097152){d:DataW Unit}(o:w'.ownsMap prog 28 unitElem h n (D.put (.U id) d)):SM w' h (vR s id):=by
 refine SM.of o hn (fun k=>?_) (qe (XF hp));rw[(dD.put hs hD id d) k];constructor;{rintro⟨i,hi,rfl⟩;exact⟨i,zQ.2 (by simp at hi;exact hi.symm),rfl⟩};{rintro⟨i,hi,rfl⟩;exact⟨i,by have:=zQ.1 hi;simp;exact this.symm,rfl⟩}
theorem kG{w:World}(hN:Hid (PN w0 w g hh uu nd)){id:Int}(hid:0<=id/\id<18446744073709551616){B:Bool}(eB:Hid (nd.holders.contains id=B)):Cp 274 #[.pointer (some ⟨g,0,none⟩),.U id] w fun r w'=>r=.returned (.bool B)/\Bw w w':=by
 obtain⟨V,-,-,-,-,-,n3,-⟩:=hN.cells;obtain⟨D,n,o,hn,hs,hz⟩:=hN.UD;have cL:=keyOf_int_mk underlying28 (nT hid);have hB:Maps.has D (.U id)=B:=(hs.has id).trans eB;go_enter func274,ntmps274;go_wp2_with(first
  |(at_lookup;refine wpList_lookup_own_unit _ rfl _ _ 118 rfl 28 _ iI underlying118 bg hh n D rfl o _ _ rfl cL ?_;rw[hB])
  |go_in)
 go_ret;exact⟨rfl,ay.alloc ao _⟩
theorem aw3(nd:aB)(id:Int):mh nd id=(decide (nd.mode=0)||(decide (nd.holders.length=1)&&nd.holders.contains id)):=by
 unfold mh
 match nd.holders with
 |[]=>simp
 |[y]=>
  congr 1
  simp only[List.length_singleton,decide_true,ox,List.headD_cons];rw[Jg];simp;exact⟨fun e=>(NF e).symm,fun e=>Aq e.symm⟩
 |y::z::r=>simp
def Wk{w:World}(hN:Hid (PN w0 w g hh uu nd)){id:Int}(hid:0<=id/\id<18446744073709551616){B:Bool}(eB:Hid (mh nd id=B)):Cp 267 #[.pointer (some ⟨g,0,none⟩),.U id] w fun r w'=>r=.returned (.bool B)/\Bw w w':=by
 obtain⟨V,-,-,-,-,n2,n3,-⟩:=hN.cells;obtain⟨D,n,o,hn,hs,hz⟩:=hN.UD;have e:=aa eB;rw[aw3]at e;have hlen:=o.len underlying118 3;rw[hz]at hlen;by_cases hm:nd.mode=0;{
 have hm':(nd.mode==0)=true:=by simp[hm]
 have eB':B=true:=by rw[<-e];simp[hm]
 subst eB';go_enter func267,ntmps267;go_wp2;go_ret;exact⟨rfl,cW _ _⟩};{
 have hm':(nd.mode==0)=false:=by simp[hm]
 by_cases hl:nd.holders.length=1;{
 rw[hl]at hlen;have eB':nd.holders.contains id=B:=by rw[<-e];simp[hm,hl]
 have EB:=af eB';go_enter func267,ntmps267;go_wp2_with fail;refine(kG hN hid EB).mono ?_;rintro r w1⟨rfl,aA⟩;go_wp2;go_ret;exact⟨rfl,aA⟩};{
 obtain⟨nl,jH⟩:=aI nd.holders.length;rw[jH]at hlen hl;have eB':B=false:=by rw[<-e,jH];simp[hm,hl]
 subst eB';have Dx:((nl:Int)==1)=false:=by simp;omega
 go_enter func267,ntmps267;go_wp2;go_ret;exact⟨rfl,cW _ _⟩}}
def KD(ns:List aB):Prop:=∀(i j:Nat)(a c:aB),ns[i]?=some a->ns[j]?=some c->bQ a.path=bQ c.path->i=j
def KD.set(h:KD ns)(hk:ns[k]?=some nd)(hp:nd'.path=nd.path):KD (ns.set k nd'):=fun i j a c ha hc e=>by
 have key:∀(i:Nat)(a:aB),(ns.set k nd')[i]?=some a->∃a0,ns[i]?=some a0/\a0.path=a.path:=fun i a ha=>by rw[qH]at ha;by_cases ei:k=i;{subst ei;rw[bN rfl,bN (aT.1 hk).1]at ha;cases ha;exact⟨nd,hk,hp.symm⟩};{rw[bH ei]at ha;exact⟨a,ha,rfl⟩}
 obtain⟨a0,h1,e1⟩:=key i a ha;obtain⟨c0,h2,e2⟩:=key j c hc;exact h i j a0 c0 h1 h2 (by rw[e1,e2,e])
def M8{w:World}{D:SD}{SB NB HB UB:List Nat}(h:Hid (PS w0 w b bs bn D SB NB HB UB))(hk:Hid (D.ns[k]?=some nd))(hS:Hid (DE D.ss))(hT:Hid (NT D.ss nd))(hD:Hid (KD D.ns)):Cp 276 #[.pointer (some ⟨b,0,none⟩),.string (aN nd.path)] w fun r w'=>PS w0 w' b bs bn (Qa (dR D k 2) k) SB (NB.eraseIdx k) (HB.eraseIdx k) (UB.eraseIdx k)/\(Fr T3 w w'/\Kb (PL b bs bn SB NB HB UB) w w')/\∃v,r=.returned v:=by
 go_enter func276,ntmps276;go_wp2_with fail;refine(QJ h nd hk 2 hS hT).mono ?_;rintro r w1⟨hP,hF,v,rfl⟩;replace hF:=af hF;have Xf:(dR D k 2).ns=D.ns.set k {nd with watchers:=[]}:=by unfold dR;rw[aa hk]
 have jQ:(dR D k 2).ns[k]?=some {nd with watchers:=[]}:=by rw[Xf];exact bM (aa hk) _
 have hD1:KD (dR D k 2).ns:=by rw[Xf];exact hD.set (aa hk) rfl
 obtain⟨-,-,-,-,-,h5,-⟩:=hP.fh;obtain⟨M,n,o,-,-,-⟩:=hP.lr;have cL:keyOf prog 9 (.string (aN nd.path))=some (bQ nd.path):=by rw[WideMaps.keyOf_string_mk underlying9 (by rw[gS];have:=hT.pl;unfold maxLen;omega),nR]
 have HP:=af (ah hP (ah jQ hD1));obtain⟨w',dI,ho,yF⟩:=o.drop me underlying112 cL 0;have HT:=af (ah ho yF);have O:=af o;go_wp2
 go_end0
 have On:=One.YA HP.1.be HT.2.grown HP.1.lo.2.2 (ownsMap_at O);refine⟨?_,⟨hF.1.trans On.fr,hF.2.trans (On.kb (by simp[PL])) hF.1.1⟩,_,rfl⟩;refine HP.1.cq8 HP.2.1 On (fun j z hz e=>HP.2.2 j k z _ hz HP.2.1 e) (fun M' n' o'=>?_);obtain⟨w2,OG,mP,-⟩:=o'.drop me underlying112 cL 0;rw[dI]at OG;cases OG;exact mP
def Yo{w:World}{D:SD}{SB NB HB UB:List Nat}(h:Hid (PS w0 w b bs bn D SB NB HB UB))(hk:Hid (D.ns[k]?=some nd))(hS:Hid (DE D.ss))(hT:Hid (NT D.ss nd))(hD:Hid (KD D.ns)):Cp 276 #[.pointer (some ⟨b,0,none⟩),.string (aN nd.path)] w fun r w'=>PS w0 w' b bs bn (Qa (dR D k 2) k) SB (NB.eraseIdx k) (HB.eraseIdx k) (UB.eraseIdx k)/\Fr T3 w w'/\∃v,r=.returned v:=(M8 h hk hS hT hD).mono fun r w'⟨h1,h2,h3⟩=>⟨h1,h2.1,h3⟩
def PS.YH{w0 w w':World}{D:SD}{SB NB HB UB:List Nat}(h:PS w0 w b bs bn D SB NB HB UB)(hi:D.ns[i]?=some nd)(hg:NB[i]?=some g)(mQ:HB[i]?=some hh)(nj:UB[i]?=some uu)(O:One w0 w w' g)(V:Value)(vl:LI)(ow mo ep ge:Int)(hc:w'.heap[g]?=some (.cells #[V,.U ow,.I mo,.map (some hh),.U ep,.U ge,.map (some uu)] 121))(hV:AB w0 w' V vl):PS w0 w' b bs bn {D with ns:=D.ns.set i {nd with value:=vl,owner:=ow,mode:=mo,aJ:=ep,gen:=ge}} SB NB HB UB:=by
 obtain⟨lo,⟨V0,q1,-⟩,q3,q4⟩:=h.my i nd g hh uu hi hg mQ nj;obtain⟨es,c,m3⟩:=q3.at;obtain⟨es',c',m4⟩:=q4.at;refine h.nY hi hg mQ nj (.inl rfl) O rfl ⟨lo,⟨V,hc,hV⟩,q3.keep O (fun e=>?_),q4.keep O (fun e=>?_)⟩;{rw[e,q1]at m3;cases m3};{rw[e,q1]at m4;cases m4}
def One.ofC{w0 w w':World}{cs:Array Value}{ty:TypeId}(be:Bw w0 w)(hb:Below g w w')(hg:w.heap[g]?=some (.cells cs ty))(UC:w0.heap.size<=g)(ht:ty∈[86,121,114])(hk:∀z,z<w.heap.size->z≠g->w'.heap[z]?=w.heap[z]?):One w0 w w' g:=by
 refine⟨hb.mono UC,hk,fun cur ty' m hc=>?_⟩;rw[hg]at hc;simp at hc;rw[<-hc.2.1];exact ht
def qn{α:Type}(l:List α)(k:Nat)(a c:α):(l.set k a).set k c=l.set k c:=by simp
def IN{w:World}{D:SD}{SB NB HB UB:List Nat}(h:Hid (PS w0 w b bs bn D SB NB HB UB))(hk:Hid (D.ns[k]?=some nd))(hS:Hid (DE D.ss))(hT:Hid (NT D.ss nd)){id:Int}(hid:0<=id/\id<18446744073709551616)(hhp:Hid (nd.holders.Pairwise (·<·)))(hhl:nd.holders.length<=1048576)(BQ:Hid (nd.holders.contains id=true)):Cp 275 #[.pointer (some ⟨b,0,none⟩),.string (aN nd.path),.U id] w fun r w'=>PS w0 w' b bs bn (dN D k id) SB NB HB UB/\(Fr T3 w w'/\Kb (PL b bs bn SB NB HB UB) w w')/\∃v,r=.returned v:=by
 obtain⟨g,hh,uu,hg,mQ,nj,hN,hlk⟩:=h.Oe hk hT.pl;obtain⟨V,hV,gc,-,n1,n2,n3,n4,n5,n6,nf⟩:=hN.cells;obtain⟨-,-,-,-,-,h5,-⟩:=h.fh;obtain⟨M,nn,oM,hnn,sM,zM⟩:=hN.UD;have cL:=keyOf_int_mk underlying28 (nT hid);obtain⟨w1,dI,ho,yF⟩:=oM.drop iI underlying118 cL 0;have O1:=One.YA h.be yF.grown hN.lo.2.1 (ownsMap_at oM);have S1:=SM.del (w:=w) sM hhp hnn ho;have P1:=h.UD hk hg mQ nj O1 S1;have jQ:=bM hk {nd with holders:=qE nd.holders id}
 obtain⟨V1,Wh,gc1,m0,m1,m2,m3,m4,m5,m6,mf⟩:=(P1.my k _ g hh uu jQ hg mQ nj).cells;obtain⟨M1,nn1,oM1,-,-,zM1⟩:=S1;have hlen:=oM1.len underlying118 3;rw[zM1]at hlen;obtain⟨nl,jH⟩:=cK (qE nd.holders id).length;rw[aa jH]at hlen;have HP1:=af (ah P1 jQ);have F1:=af O1.fr;have K1:=af (O1.kb (L:=PL b bs bn SB NB HB UB) (by simp[PL,aS mQ]));have Is:=af (ah hg (ah mQ nj));have ba6:=af (ah gc1 Wh);have glo:=hN.lo.1;go_enter func275,ntmps275;by_cases h0:nl=0;{
 subst h0;have la:qE nd.holders id=[]:=tp.1 jH;obtain⟨Z,hZ⟩:=au (((w1.setCell ⟨g,2,none⟩ (.I 0)).setCell ⟨g,4,none⟩ (.U 0)).setCell ⟨g,5,none⟩ (.U 0));have KQ:Z.heap[g]?=some (.cells #[V1,.U nd.owner,.I 0,.map (some hh),.U 0,.U 0,.map (some uu)] 121):=by rw[hZ];simp[World.setCell,we,ba6.1]
 have bZ:Below g w1 Z:=by rw[hZ];exact((ay.setCell (p:=⟨g,2,none⟩) ao _).setCell (p:=⟨g,4,none⟩) ao _).setCell (p:=⟨g,5,none⟩) ao _
 have kZ:∀z,z<w1.heap.size->z≠g->Z.heap[z]?=w1.heap[z]?:=fun z _ cg=>by rw[hZ];iterate 3 rw[fy _ _ _ _ (show z≠_ from cg)]
 have OZ:=One.ofC HP1.1.be bZ ba6.1 glo ai kZ;have PZ:=HP1.1.YH HP1.2 Is.1 Is.2.1 Is.2.2 OZ V1 nd.value nd.owner 0 0 0 KQ (ba6.2.fr OZ.fr);simp only[qn,la]at PZ;have HPZ:=af PZ;have FZ:=af (F1.trans OZ.fr);have KZ:=af (K1.trans (OZ.kb (by simp[PL,aS Is.1])) F1.1);have Xj:=af (bM hk {nd with holders:=[],mode:=0,aJ:=0,gen:=0});have fz2:=mf 2;have fz4:=mf 4;have fz5:=mf 5;go_wp2_with fail;rw[<-hZ];refine(QJ HPZ (k:=k) {nd with holders:=[],mode:=0,aJ:=0,gen:=0} Xj 3 hS (af ⟨hT.by',hT.pl,hT.wpw,hT.QF,hT.Mx⟩)).mono ?_;rintro r w5⟨hP5,hF5,v5,rfl⟩;replace hF5:=af hF5;go_wp2
 go_end0
 refine⟨?_,⟨FZ.trans hF5.1,KZ.trans hF5.2 FZ.1⟩,_,rfl⟩;unfold dN;rw[aa hk];simp only[aa BQ,pG,la];exact hP5};{have h0':=pW 0 nl;go_wp2;refine fL (wD aH _ _ _) rfl ?_;refine⟨?_,⟨F1,K1⟩,_,rfl⟩;have cg:qE nd.holders id≠[]:=fun e=>h0 (by rw[<-aa jH,e];rfl);unfold dN;rw[aa hk];simp only[aa BQ,pG,bH cg];exact HP1.1}
def Vp{w:World}{D:SD}{SB NB HB UB:List Nat}(h:Hid (PS w0 w b bs bn D SB NB HB UB))(hk:Hid (D.ns[k]?=some nd))(hS:Hid (DE D.ss))(hT:Hid (NT D.ss nd)){id:Int}(hid:0<=id/\id<18446744073709551616)(hhp:Hid (nd.holders.Pairwise (·<·)))(hhl:nd.holders.length<=1048576)(BQ:Hid (nd.holders.contains id=true)):Cp 275 #[.pointer (some ⟨b,0,none⟩),.string (aN nd.path),.U id] w fun r w'=>PS w0 w' b bs bn (dN D k id) SB NB HB UB/\Fr T3 w w'/\∃v,r=.returned v:=(IN h hk hS hT hid hhp hhl BQ).mono fun r w'⟨h1,h2,h3⟩=>⟨h1,h2.1,h3⟩
def Tryz.infoStr:(Tryz.prog.info? 9).map (fun i=>(i.zero,i.size,i.bytes))=some (some (.string ByteArray.empty),1,16):=by kernel_rfl
def wR(ns:List aB)(P:LI):List LI:=(ns.filter fun nd=>decide (dY nd.path=P)).map (·.path)
def VM(ns:List aB)(P:LI):jB ns P=(wR ns P).map Fg:=by
 unfold jB wR;rw[uj]
 rfl
def VK(h:ns[k]?=some nd):wR (ns.take (k+1)) P=if dY nd.path=P then wR (ns.take k) P++[nd.path]else wR (ns.take k) P:=by
 rw[ng,h,wR,Ua,ko];by_cases e:dY nd.path=P<;>simp[wR,e]
def Zx:(wR ns P).length<=ns.length:=by
 rw[wR,fe];exact NI _ _
def Gh(_:World)(l:LI)(c:List Value):Prop:=c=[.string (aN l)]
def xF{w:World}{ops:Array Oper}{rest:List Oper}{o:Oper}{a:Act}{Q:Exit->Act->World->Prop}(mr:o.guard=none){s x:Operand}(ho:o.op=.call {callee:=.builtin .append,args:=#[s,x],argTypes:=#[125,125]})(ek:Hid (ls.length=k))(hs:a.eval s=v)(bO:RT Gh 9 1 B w v ls)(hx:a.eval x=.T g 1 1)(iW:w.cell? ⟨g,0,none⟩=some (.string (aN l)))(hk:k<4194304)(hB:B<=w.heap.size)(h:∀p' c' w',RT Gh 9 1 B w' (.S p' (k+1) c') (ls++[l])->w.grownBy w' v.ownBlock->wpList Tryz.prog ops Q rest (a.put o.dst (.S p' (k+1) c')) w'):wpList Tryz.prog ops Q (o::rest) a w:=by
 obtain⟨i,hi,nO,iL,ju⟩:=info_parts Tryz.infoStr;obtain⟨rs,h1,h2,h3,h4⟩:=bO;rw[aa ek]at h3;refine cI mr 125 ho i 1 Tryz.underlying125 hi nO iL ju rfl aU v hs h3 g 1 1 [.string (aN l)] hx rfl (fun j u hu=>by
  have e:j=0:=by have:=(aT.1 hu).1;simpa using this
  subst e;simp at hu;subst hu;exact iW) (fun u hu=>by simp at hu;rw[hu];rfl) ic ae hB ?_
 intro v' w' dh hg _;have sn:RT Gh 9 1 B w' v' (ls++[l]):=RT.snoc h1 h2 h4 (fun _ _ h=>h) rfl rfl (by rw[aa ek];exact dh);obtain⟨p',c',rfl,-⟩:=RT.form sn;rw[ig,aa ek]at sn⊢;exact h p' c' w' sn hg
def RT.aY1{w w':World}(h:RT Gh 9 1 B w v ls)(hb:Bw w w'):RT Gh 9 1 B w' v ls:=h.keep (fun _ _ h=>h) (fun b bL=>hb.block b (h.lt b bL).2)
def LU{w:World}{D:SD}{SB NB HB UB:List Nat}(h:Hid (PS w0 w b bs bn D SB NB HB UB))(Hx:Hid ((D.ns.map fun nd=>qw nd.path).Pairwise (·<·)))(fS:Hid (∀nd∈D.ns,aM nd.path/\nd.path.length<=1048576))(bP:Hid (aM P)){L:List LI}(eL:Hid (wR D.ns P=L)):Calls Tryz.prog 285 #[.pointer (some ⟨b,0,none⟩),.string (aN P)] w fun r w'=>∃p c,r=.returned (.S p L.length c)/\RT Gh 9 1 w.heap.size w' (.S p L.length c) L/\Bw w w':=by
 obtain⟨-,-,-,-,-,h5,-⟩:=h.fh;obtain⟨M,nn,oM,hnn,mM,zM⟩:=h.lr;have hNM:=h.sto.gy;go_enter Tryz.func285,Tryz.ntmps285;go_wp2_with fail;refine(T.ka bn nn M w oM (by have:=oM.size_le;omega)).mono ?_;rintro r w1⟨kv,ks,rfl,Qt,Mf,aA⟩;obtain rfl:=vY hNM Hx mM Qt;obtain⟨p,c,rfl,FD⟩:=Ka Mf;obtain⟨m,em⟩:=cK D.ns.length;have hm:m<=1048576:=by have:=oM.size_le;rw[zM,aa em]at this;omega
 rw[aa em];have HK:=af FD;have B1:=af aA;go_wp2
 go_loopw[5,14](fun ov iv wr=>∃(j:Nat)(N:List LI),j<=m/\iv=.I j/\Hid (wR (D.ns.take j) P=N)/\Hid (RT Gh 9 1 w1.heap.size wr ov N)/\Hid (Bw w1 wr)) (fun _ iv _=>m-(intOf iv).toNat)
 exact⟨0,[],gq _,rfl,(by show _=_;simp[wR]),RT.nil _ _ _ _ _,cW _ _⟩;{
 obtain⟨j,N,hj,rfl,hN,hT,aG⟩:=hrel;obtain⟨po,co,rfl,-⟩:=RT.form hT;have zr:=aG.size;have hnl:N.length<=j:=by have h1:=Zx (ns:=D.ns.take j) (P:=P);have h2:=EW j D.ns;rw[aa hN]at h1;omega
 by_cases aX:j<m;{
 have bu:=aP j m;obtain⟨nd,hx⟩:∃nd,D.ns[j]?=some nd:=⟨_,aO (by rw[aa em];exact aX)⟩;obtain⟨gk,rfl,hck⟩:∃gk,p=some ⟨gk,0,none⟩/\wr.cell? ⟨gk,j,none⟩=some (.string (aN nd.path)):=by rcases aa HK with h0|⟨gk,rfl,h1,h2,h3⟩;{rw[h0]at hx;simp at hx};{exact⟨gk,rfl,ag (by have:=h3 j nd hx;rwa [lu]at this) (aa aG)⟩}
 obtain⟨aA,aF⟩:=aa fS nd (aS hx);have pY:=af (VK (P:=P) hx);obtain⟨nP,eN⟩:=cK nd.path.length;rw[aa eN]at aF;have mK:=af aA;have heq:=qx (rH aA) bP;go_wp2_with fail;refine(sg eN mK aF).mono ?_;rintro r w2⟨rfl,rfl⟩;by_cases hq:dY nd.path=P;{
 have uw:decide (dY nd.path=P)=true:=by simp[hq]
 rw[uw]at heq;have E1:=af (by have:=aa pY;rwa [bN hq,aa hN]at this:wR (D.ns.take (j+1)) P=N++[nd.path]);go_wp2_with(at_builtin;refine xF rfl rfl (v:=.S po N.length co) (l:=nd.path) (af rfl) rfl (RT.aY1 (aa hT) (ay.alloc ao _)) (g:=w2.heap.size) rfl ai ae bj ?_);intro p' c' w5 T5 ra;have bA:Bw w2 (w2.alloc (.cells #[.string (aN nd.path)] 9)):=ay.alloc ao _;have B5:=af ((aj (aa aG) bA).grown ra bj (fun b' e=>(hT.lt b' e).1));have T5':=af T5;go_wp2;go_roundw;exact⟨j+1,_,ae,by go_num,E1,T5',B5⟩;exact bG};{
 have uw:decide (dY nd.path=P)=false:=by simp[hq]
 rw[uw]at heq;have E1:=af (by have:=aa pY;rwa [bH hq,aa hN]at this:wR (D.ns.take (j+1)) P=N);go_wp2;go_roundw;exact⟨j+1,N,ae,by go_num,E1,hT,aG⟩;exact bG}};{have bu:=du j m;have e1:=aa hN;rw[kq (by rw[aa em];omega),aa eL]at e1;subst e1;go_wp2;go_ret;exact⟨_,_,rfl,RT.mono hT B1.size,aj B1 aG⟩}}
def Yy{g:Int}{p:OA}{n c:Nat}{q:OA}{m d:Nat}{Qs:List Value}(en:Hid (ss.length=n))(em:Hid (ns.length=m)){w:World}(hS:Hid (kL B w (.S p n c) ss Qs))(hN:Hid (AW B w (.S q m d) ns))(hB:B<=w.heap.size)(hn:n<=1048576)(hx:0<=x/\x<=4611686018427387904)(ht:0<=t/\t<=1000000):Cp 86 #[gh e g x t (.S p n c) (.S q m d)] w fun r w'=>QR B w w' r (og ⟨e,g,x,t,ss,ns⟩).1 (og ⟨e,g,x,t,ss,ns⟩).2:=by
 obtain⟨W0,dV,b0,z0,C0⟩:=jL w (.U e) (.U g) (.U x) (.I t) (.S p n c) (.S q m d);obtain⟨W1,mR,b1,z1,C1⟩:=sY W0;obtain⟨W2,pR,b2,z2,C2⟩:=qQ W1 (.I 0) (.U 0) (.U 0) (.U 0) (.I 0) aQ aQ aQ;rw[z0]at C1 z1;rw[z1]at C2 z2;have HC:=af (ah ((C0.below b1).below b2) (ah (C1.below b2) C2));have bW:=af (aj (aj b0 b1) b2);have HS:=af (ah (hS.fr (aK (aa bW))) (hN.fr (aK (aa bW))));clear b0 b1 b2 C0 C1 C2;go_enter func86,ntmps86;by_cases h50:50<=n;{
 have aU6:decide ((50:Int)<=(n:Int))=true:=by simp;omega
 have hI:og ⟨e,g,x,t,ss,ns⟩=(⟨e,g,x,t,ss,ns⟩,zl 11):=by unfold og;rw[bN (by simpa[aa en]using h50)]
 rw[hI];go_wp2_with fail;rw[<-dV,<-mR,<-pR];refine Ed 1 w.heap.size bg rfl (fun _ _=>rfl) (fun _ _=>rfl) (fun _ _=>rfl) (fun _ _=>rfl) HC.1 HC.2.1 HC.2.2 ae (B:=w.heap.size) ae ae ?_;intro w' aA Hw f1 WM;have HQ:=af (QR.num (e:=e) (g:=g) (x:=x) (t:=t) en em HS.1 HS.2 (Fr.below bW) (bW.mono hB) f1 WM hB 11 0 0 0 0);clear dV mR pR f1 WM;obtain⟨q0,q1,q2,q3,q4,q5,qf⟩:=aA.cells;obtain⟨r0,r1,r2,r3,r4,r5,r6,r7,rf⟩:=Hw.cells;simp only[Act.put,xa,xb,xc];go_wp2;exact fL (v:=.tuple #[gh e g x t (.S p n c) (.S q m d),xw 11 0 0 0 0 aQ aQ aQ]) (by simp[results,results86,go_sem,q0,q1,q2,q3,q4,q5,r0,r1,r2,r3,r4,r5,r6,r7]) rfl (aa HQ)};{
 have aU6:decide ((50:Int)<=(n:Int))=false:=by simp;omega
 by_cases hx2:4611686018427387904<=x;{
 have ca0:decide (4611686018427387904<=x)=true:=by simp;omega
 have hI:og ⟨e,g,x,t,ss,ns⟩=(⟨e,g,x,t,ss,ns⟩,zl 12):=by unfold og;rw[bH (by simpa[aa en]using h50),bN hx2]
 rw[hI];go_wp2_with fail;rw[<-dV,<-mR,<-pR];refine Ed 1 w.heap.size bg rfl (fun _ _=>rfl) (fun _ _=>rfl) (fun _ _=>rfl) (fun _ _=>rfl) HC.1 HC.2.1 HC.2.2 ae (B:=w.heap.size) ae ae ?_;intro w' aA Hw f1 WM;have HQ:=af (QR.num (e:=e) (g:=g) (x:=x) (t:=t) en em HS.1 HS.2 (Fr.below bW) (bW.mono hB) f1 WM hB 12 0 0 0 0);clear dV mR pR f1 WM;obtain⟨q0,q1,q2,q3,q4,q5,qf⟩:=aA.cells;obtain⟨r0,r1,r2,r3,r4,r5,r6,r7,rf⟩:=Hw.cells;simp only[Act.put,xa,xb,xc];go_wp2;exact fL (v:=.tuple #[gh e g x t (.S p n c) (.S q m d),xw 12 0 0 0 0 aQ aQ aQ]) (by simp[results,results86,go_sem,q0,q1,q2,q3,q4,q5,r0,r1,r2,r3,r4,r5,r6,r7]) rfl (aa HQ)};{
 have ca0:decide (4611686018427387904<=x)=false:=by simp;omega
 have hI:og ⟨e,g,x,t,ss,ns⟩=(⟨e,g,x+1,t,ss++[(x+1,t+10,[])],ns⟩,⟨0,x+1,0,0,t+10,[],[],[]⟩):=by unfold og;rw[bH (by simpa[aa en]using h50),bH hx2];rfl
 rw[hI];have wx:IntKind.u64.wrap (x+1)=x+1:=IntWalk.u64_in _ ae;have wt:IntKind.i64.wrap (t+10)=t+10:=ni _ ae;clear dV mR pR z0 z1 z2 HC HS bW;obtain⟨V0,hV0,b0,z0,C0⟩:=jL w (.U e) (.U g) (.U (x+1)) (.I t) (.S p n c) (.S q m d);obtain⟨V1,Wh,b1,z1,C1⟩:=sY V0;obtain⟨V2,hV2,b2,z2,C2⟩:=qQ V1 (.I 0) (.U 0) (.U 0) (.U 0) (.I 0) aQ aQ aQ;obtain⟨V3,hV3,b3,z3,C3,-⟩:=aC V2 #[.U (x+1),.I (t+10),.S none 0 0] 86;rw[z0]at C1 z1;rw[z1]at C2 z2;rw[z2]at C3 z3;have HC:=af (ah (((C0.below b1).below b2).below b3) (ah ((C1.below b2).below b3) (C2.below b3)));have bW:=af (aj (aj (aj b0 b1) b2) b3);have HS:=af (ah (hS.fr (aK (aa bW))) (hN.fr (aK (aa bW))));have HC3:=af C3;have lz:Hid ((ss.zip Qs).length=n):=by show _=_;rw[NG,hS.len,aa en];simp
 have UC:Hid (∀b,(Value.slice p n c).ownBlock=some b->B<=b/\b<w.heap.size):=fun b hb=>hS.row.lt b hb;clear b0 b1 b2 b3 C0 C1 C2 C3 z0 z1 z2;go_wp2_with(at_builtin;rw[<-hV0,<-Wh,<-hV2,<-hV3];refine rh rfl rfl (v:=.S p n c) (z:=((x+1,t+10,[]),aQ)) lz rfl HS.1.row (w.heap.size+1+1+1) rfl rfl HC3.1 ae ae ?_);intro p' c' w9 hr9 xd hf9;rw[<-hV0,<-Wh,<-hV2,<-hV3]at xd hf9;have S9:=HS.1.bi9 hf9 _ _ hr9;have N9:=gK.fr HS.2 hf9;have B9:Below B w w9:=(bW.mono hB).grown xd ae (fun b hb=>(aa UC b hb).1);have F9:Fr [165,86,93] w w9:=(Fr.below (aa bW)).trans (hf9.sub ai);have X0:=HC.1.fr hf9;have X1:=HC.2.1.fr hf9;have X2:=HC.2.2.fr hf9;obtain⟨k0,k1,k2,k3,k4,k5,kf⟩:=X0.cells;obtain⟨fA,bA,gA⟩:=X0.bw0 (j:=4) F9 B9 ao hB (.S p' (n+1) c');obtain⟨Z,hZ⟩:=au (w9.setCell ⟨w.heap.size,4,none⟩ (.S p' (n+1) c'));have CZ:al Z w.heap.size [.U e,.U g,.U (x+1),.I t,.S p' (n+1) c',.S q m d]:=by rw[hZ];exact X0.1.fK 4 ai _
 have X1':=X1.D7 (b:=w.heap.size) (j:=4) (u:=.S p' (n+1) c') ae;rw[<-hZ]at fA bA gA X1';have X2':=X2.fr gA;have HZ:=af (ah CZ (ah X1' X2'));have HS9:=af (ah (S9.fr gA) (ah (gK.fr N9 gA) (ah fA bA)));have zZ:w.heap.size+3<Z.heap.size+1:=by have:=X2'.1;have:=fA.1;have h9:=hf9.1;have:=gA.1;omega
 clear hr9 xd hf9 S9 N9 B9 F9 X0 X1 X2 fA bA gA CZ X1' X2' hV0 Wh hV2 hV3 HC HS HC3 lz UC bW;go_wp2_with fail;rw[<-hZ];clear hZ k0 k1 k2 k3 k4 k5 kf;obtain⟨vA,iw⟩:=au Z.drew;have gx:=mi iw;have HA:=af (ah (HZ.1.below ae gx) (ah (HZ.2.1.below gx) (HZ.2.2.below gx)));have BA:=af gx;refine dy (fun w'=>w'.cell? ⟨w.heap.size,0,none⟩=some (.U e)/\w'.cell? ⟨w.heap.size,1,none⟩=some (.U g)/\w'.cell? ⟨w.heap.size,2,none⟩=some (.U (x+1))/\w'.cell? ⟨w.heap.size,3,none⟩=some (.I t)/\w'.cell? ⟨w.heap.size,4,none⟩=some (.S p' (n+1) c')/\w'.cell? ⟨w.heap.size,5,none⟩=some (.S q m d)) (by rw[<-iw];exact⟨HA.1.1 0 _ rfl,HA.1.1 1 _ rfl,HA.1.1 2 _ rfl,HA.1.1 3 _ rfl,HA.1.1 4 _ rfl,HA.1.1 5 _ rfl⟩) fun hS=>?_;rw[<-iw]at hS⊢;clear iw gx;refine mu 0 1 2 3 hS ?_;refine tn 4 hS ?_;refine dE 5 fun KK hK=>?_;obtain⟨k0,k1,k2,k3,k4,k5,kf⟩:=HA.2.1.cells;go_simp;obtain⟨X,hX⟩:=au (dX vA (w.heap.size+1) (.U e) (.U g) (.U (x+1)) (.I t) (.S p' (n+1) c') (.S q m d));have bX:Below (w.heap.size+1) vA X:=by rw[hX];exact dz _ _ _ _ _ _ _
 have zk:=HA.2.1.put (.U e) (.U g) (.U (x+1)) (.I t) (.S p' (n+1) c') (.S q m d);have CX:=Nh HA.1 (b:=w.heap.size+1) ae (v0:=.U e) (v1:=.U g) (v2:=.U (x+1)) (v3:=.I t) (v4:=.S p' (n+1) c') (v5:=.S q m d);have fX:Fr [32] vA X:=by obtain⟨-,cur,ht⟩:=HA.2.1;rw[hX];exact jq ht
 rw[<-hX]at zk CX;have RX1:=HA.2.2.fr fX;unfold dX at hX;rw[<-hX];have HX:=af (ah zk (ah CX (ah RX1 (ah fX bX))));refine gr hK (by exact⟨CX.1 0 _ rfl,CX.1 1 _ rfl,CX.1 2 _ rfl,CX.1 3 _ rfl,CX.1 4 _ rfl,CX.1 5 _ rfl⟩) fun hS=>?_;clear hK KK hX k0 k1 k2 k3 k4 k5 kf zk CX RX1 fX bX;refine dE 6 fun KK hK=>?_;obtain⟨k0,k1,k2,k3,k4,k5,k6,k7,kf⟩:=HX.2.2.1.cells;go_simp;obtain⟨RXY,fY⟩:=HX.2.2.1.put (.I 0) (.U (x+1)) (.U 0) (.U 0) (.I (t+10)) aQ aQ aQ;have bY:=de (w:=X) (b:=w.heap.size+1+1) (.I 0) (.U (x+1)) (.U 0) (.U 0) (.I (t+10)) aQ aQ aQ;obtain⟨Y,hY⟩:=au (kS X (w.heap.size+1+1) (.I 0) (.U (x+1)) (.U 0) (.U 0) (.I (t+10)) aQ aQ aQ);rw[<-hY]at RXY fY bY;unfold kS dX at hY;rw[<-hY];have CY:=HX.2.1.dM (bY.block _ ae);have BY:=af (ah (HX.1.fr fY) (ah RXY (ah ((Fr.below (T:=[32,62]) (aa BA)).trans ((HX.2.2.2.1.sub ai).trans (fY.sub ai))) ((BA.mono ae).trans ((HX.2.2.2.2.mono (TW _)).trans (bY.mono ae))))));refine gr hK (by exact⟨CY.1 0 _ rfl,CY.1 1 _ rfl,CY.1 2 _ rfl,CY.1 3 _ rfl,CY.1 4 _ rfl,CY.1 5 _ rfl⟩) fun hS=>?_;clear hK KK hY k0 k1 k2 k3 k4 k5 k6 k7 kf RXY fY bY CY;refine di ?_;clear hS;obtain⟨aA,Hw,f1,WM⟩:=aa BY;have HQ:=af (QR.num (e:=e) (g:=g) (x:=x+1) (t:=t) (af (by rw[ig,aa en];rfl)) em HS9.1 HS9.2.1 HS9.2.2.1 HS9.2.2.2 f1 WM hB 0 (x+1) 0 0 (t+10));clear f1 WM;obtain⟨q0,q1,q2,q3,q4,q5,qf⟩:=aA.cells;obtain⟨r0,r1,r2,r3,r4,r5,r6,r7,rf⟩:=Hw.cells;go_wp2;exact fL (v:=.tuple #[gh e g (x+1) t (.S p' (n+1) c') (.S q m d),xw 0 (x+1) 0 0 (t+10) aQ aQ aQ]) (by simp[results,results86,go_sem,q0,q1,q2,q3,q4,q5,r0,r1,r2,r3,r4,r5,r6,r7]) rfl (aa HQ)}}
end Go.Proofs.YtjjnidignljppaaGreatDoor
