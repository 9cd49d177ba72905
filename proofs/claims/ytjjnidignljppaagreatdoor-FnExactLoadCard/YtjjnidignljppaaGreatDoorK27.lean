import Derived.Test.YtjjnidignljppaaGreatDoorK8
import Derived.Test.YtjjnidignljppaaGreatDoorK14
import Derived.Shelf.Abstract
import Derived.Shelf.RegionOpen
import Derived.Lib.SlBytesConst
import Derived.OrdersHeld
import Derived.Scope
import Derived.WalkMore
namespace Go.Proofs.YtjjnidignljppaaGreatDoor
set_option maxHeartbeats 4000000
set_option linter.all false
set_option maxRecDepth 100000
open Go.ChangeShapes Go.WideShapes Go.ChangeAt Go.RowKit Go.Proofs.Tryz
variable {B B' N R b f g:Nat}{E:Prop}{Hf om:Option LI}{K:Act->World->Prop}{P:Program}{W W':World}{a:Act}{l l0 l1 l2 m m':LI}{ns:List aB}{o:Oper}{ops:Array Oper}{p:OA}{row:Option Nat}{s t x:Int}{sh sh':Bool}{ss:List aR}{u v v0 v1 v2:Value}{vs:List Value}
def Ci{p q:OA}{c d n:Nat}(en:Hid (l.length=n)){w:World}(h1:qT w (.S p n c) l)(h2:qT w (.S q n d) l)(hn:n<=1048576):Cp 118 #[.S p n c,.S q n d] w fun r w'=>r=.returned (.bool true)/\Bw w w':=by
 have HR:=af fun(w':World)(hb:Bw w w')=>ah (h1.below hb) (h2.below hb);have cg:((n:Int) != (n:Int))=false:=ai;go_enter func118,ntmps118;go_wp2
 go_loopw[5](fun i wr=>∃k:Nat,k<=n/\i=.I k/\Bw w wr) (fun i _=>n-(intOf i).toNat)
 exact⟨0,gq _,rfl,cW _ _⟩;{
 obtain⟨k,hk,rfl,aG⟩:=hrel;by_cases aX:k<n;{
 have i1:=aP k n;have dA:k<l.length:=by rw[aa en];exact aX
 have key:∀(p:OA)(c:Nat),qT wr (.S p n c) l->∃b o,p=some ⟨b,o,none⟩/\wr.cell? ⟨b,o+k,none⟩=some (.U (l.getD k 0)):=fun p c h=>by obtain⟨p',c',ev,hd⟩:=h;simp only[dU]at ev;obtain⟨rfl,-,-⟩:=ev;rcases hd with h0|⟨b,o,h1,h2⟩;{rw[h0]at dA;simp at dA};{exact⟨b,o,h1,h2 k dA⟩}
 obtain⟨b1,o1,rfl,g1⟩:=key p c (aa HR _ aG).1;obtain⟨b2,o2,rfl,g2⟩:=key q d (aa HR _ aG).2;obtain⟨y,ey⟩:=aI (l.getD k 0);rw[ey]at g1 g2;have hb:(y != y)=false:=ai;go_wp2
 go_quiet (fail)
 go_wp2;go_roundw;exact⟨k+1,ae,by go_num,below_drewN aG⟩;exact bG};{have dA:=du k n;go_wp2;go_ret;exact⟨rfl,aG⟩}}
def Wq{K:Int}{p q:OA}{c d n:Nat}{P:LI}(en:Hid (P.length=n)){w:World}(h1:Rd w (.S p n c) P)(h2:Rd w (.S q n d) P)(hn:n<=1048576):Cp 162 #[.agg #[.I K,.S p n c],.agg #[.I K,.S q n d]] w fun r w'=>r=.returned (.bool true)/\Bw w w':=by
 have b1:Bw w ((w.alloc (.cells #[.I K,.S p n c] 165)).alloc (.cells #[.I K,.S q n d] 165)):=(ay.alloc ao _).alloc ai _;have HR:=af (ah (h1.below b1) (h2.below b1));have e1:(K != K)=false:=ai;go_enter func162,ntmps162;go_wp2_with fail;refine(AM en (by exact HR.1) (by exact HR.2) ae).mono ?_;rintro r w1⟨rfl,aA⟩;have b2:=aj b1 aA;go_wp2;go_ret;exact⟨rfl,b2⟩
def Sx{p q:OA}{c d n:Nat}{l:List Ev}(en:Hid (l.length=n)){w:World}(h1:Io w (.S p n c) l)(h2:Io w (.S q n d) l)(hn:n<=1048576)(tL:Hid (∀y∈l,y.2.length<=1048576)):Cp 117 #[.S p n c,.S q n d] w fun r w'=>r=.returned (.bool true)/\Bw w w':=by
 have HR:=af fun(w':World)(hb:Bw w w')=>ah (h1.below hb) (h2.below hb);have cg:((n:Int) != (n:Int))=false:=ai;go_enter func117,ntmps117;go_wp2_with fail
 go_loopw[5](fun i wr=>∃k:Nat,k<=n/\i=.I k/\Bw w wr) (fun i _=>n-(intOf i).toNat)
 exact⟨0,gq _,rfl,cW _ _⟩;{
 obtain⟨k,hk,rfl,aG⟩:=hrel;by_cases aX:k<n;{
 have i1:=aP k n;have dA:k<l.length:=by rw[aa en];exact aX
 obtain⟨y,hy⟩:∃y,l[k]?=some y:=⟨_,aO dA⟩;have fS:=aa tL y (aS hy);obtain⟨K,P⟩:=y;have key:∀(p:OA)(c:Nat),Io wr (.S p n c) l->∃b o,p=some ⟨b,o,none⟩/\wr.cell? ⟨b,o+k*2,none⟩=some (.I K)/\∃u,wr.cell? ⟨b,o+k*2+1,none⟩=some u/\Rd wr u P:=fun p c h=>by obtain⟨p',c',ev,hd⟩:=h;simp only[dU]at ev;obtain⟨rfl,-,-⟩:=ev;rcases hd with h0|⟨b,o,h1,h2⟩;{rw[h0]at dA;simp at dA};{exact⟨b,o,h1,h2 k _ hy⟩}
 obtain⟨b1,o1,rfl,z1,u1,z2,r1⟩:=key p c (aa HR _ aG).1;obtain⟨b2,o2,rfl,x1,u2,x2,r2⟩:=key q d (aa HR _ aG).2;obtain⟨p1,c1,rfl,-⟩:=id r1;obtain⟨p2,c2,rfl,-⟩:=id r2;obtain⟨m,em⟩:=aI P.length;rw[em]at r1 r2 z2 x2;have hm:m<=1048576:=by rw[<-em];exact fS
 have EM:=af em;have HRR:=af (ah r1 r2);have K0:=af (ah z1 (ah z2 (ah x1 x2)));go_wp2_with fail;refine dy (fun w'=>w'.cell? ⟨b1,o1+k*2,none⟩=some (.I K)/\w'.cell? ⟨b1,o1+k*2+1,none⟩=some (.S p1 m c1)/\w'.cell? ⟨b2,o2+k*2,none⟩=some (.I K)/\w'.cell? ⟨b2,o2+k*2+1,none⟩=some (.S p2 m c2)) (by exact K0) fun hS=>?_;refine mn 0 1 2 3 4 5 6 7 hS ?_;refine dE 8 fun KK hK=>?_;refine xR (Wq EM (HRR.1.below ay.drew) (HRR.2.below ay.drew) hm) ?_;rintro r w2⟨rfl,aF⟩;refine⟨_,rfl,?_⟩;have bL:Bw wr w2:=aj (cW wr.heap.size wr).drew aF;refine gr hK (by obtain⟨k0,k1,k2,k3⟩:=aa K0;exact⟨ag k0 bL,ag k1 bL,ag k2 bL,ag k3 bL⟩) fun hS=>?_;refine tn 9 hS ?_;refine di ?_;have b2:=aj aG bL;go_wp2;go_roundw;exact⟨k+1,ae,by go_num,b2⟩;exact bG};{have dA:=du k n;go_wp2;go_ret;exact⟨rfl,aG⟩}}
def Po{I D:Int}{p q:OA}{c d n:Nat}{Q:List Ev}(en:Hid (Q.length=n)){w:World}(h1:Io w (.S p n c) Q)(h2:Io w (.S q n d) Q)(hn:n<=1048576)(tL:Hid (∀y∈Q,y.2.length<=1048576)):Cp 69 #[.agg #[.U I,.I D,.S p n c],.agg #[.U I,.I D,.S q n d]] w fun r w'=>r=.returned (.bool true)/\Bw w w':=by
 have b1:Bw w ((w.alloc (.cells #[.U I,.I D,.S p n c] 86)).alloc (.cells #[.U I,.I D,.S q n d] 86)):=(ay.alloc ao _).alloc ai _;have HR:=af (ah (h1.below b1) (h2.below b1));have e1:(I != I)=false:=ai;have e2:(D != D)=false:=ai;go_enter func69,ntmps69;go_wp2_with fail;refine(Sx en (by exact HR.1) (by exact HR.2) hn tL).mono ?_;rintro r w1⟨rfl,aA⟩;have b2:=aj b1 aA;go_wp2;go_ret;exact⟨rfl,b2⟩
def Lx{p q:OA}{c d n:Nat}{l:List aR}(en:Hid (l.length=n)){w:World}(h1:yZ w (.S p n c) l)(h2:yZ w (.S q n d) l)(hn:n<=1048576)(tL:Hid (∀y∈l,y.2.2.length<=1048576/\∀e∈y.2.2,e.2.length<=1048576)):Cp 29 #[.S p n c,.S q n d] w fun r w'=>r=.returned (.bool true)/\Bw w w':=by
 have HR:=af fun(w':World)(hb:Bw w w')=>ah (h1.below hb) (h2.below hb);have cg:((n:Int) != (n:Int))=false:=ai;go_enter func29,ntmps29;go_wp2_with fail
 go_loopw[5](fun i wr=>∃k:Nat,k<=n/\i=.I k/\Bw w wr) (fun i _=>n-(intOf i).toNat)
 exact⟨0,gq _,rfl,cW _ _⟩;{
 obtain⟨k,hk,rfl,aG⟩:=hrel;by_cases aX:k<n;{
 have i1:=aP k n;have dA:k<l.length:=by rw[aa en];exact aX
 obtain⟨y,hy⟩:∃y,l[k]?=some y:=⟨_,aO dA⟩;have fS:=aa tL y (aS hy);obtain⟨I,D,Q⟩:=y;have key:∀(p:OA)(c:Nat),yZ wr (.S p n c) l->∃b o,p=some ⟨b,o,none⟩/\wr.cell? ⟨b,o+k*3,none⟩=some (.U I)/\wr.cell? ⟨b,o+k*3+1,none⟩=some (.I D)/\∃u,wr.cell? ⟨b,o+k*3+2,none⟩=some u/\Io wr u Q:=fun p c h=>by obtain⟨p',c',ev,hd⟩:=h;simp only[dU]at ev;obtain⟨rfl,-,-⟩:=ev;rcases hd with h0|⟨b,o,h1,h2⟩;{rw[h0]at dA;simp at dA};{exact⟨b,o,h1,h2 k _ hy⟩}
 obtain⟨b1,o1,rfl,z1,z2,u1,z3,r1⟩:=key p c (aa HR _ aG).1;obtain⟨b2,o2,rfl,x1,x2,u2,x3,r2⟩:=key q d (aa HR _ aG).2;obtain⟨p1,c1,rfl,-⟩:=id r1;obtain⟨p2,c2,rfl,-⟩:=id r2;obtain⟨m,em⟩:=aI Q.length;rw[em]at r1 r2 z3 x3;have hm:m<=1048576:=by rw[<-em];exact fS.1
 have EM:=af em;have HEL:Hid (∀y∈Q,y.2.length<=1048576):=fS.2;have HRR:=af (ah r1 r2);have K0:=af (ah z1 (ah z2 (ah z3 (ah x1 (ah x2 x3)))));go_wp2_with fail;refine dy (fun w'=>w'.cell? ⟨b1,o1+k*3,none⟩=some (.U I)/\w'.cell? ⟨b1,o1+k*3+1,none⟩=some (.I D)/\w'.cell? ⟨b1,o1+k*3+2,none⟩=some (.S p1 m c1)/\w'.cell? ⟨b2,o2+k*3,none⟩=some (.U I)/\w'.cell? ⟨b2,o2+k*3+1,none⟩=some (.I D)/\w'.cell? ⟨b2,o2+k*3+2,none⟩=some (.S p2 m c2)) (by exact K0) fun hS=>?_;refine mn 0 1 2 3 4 5 6 7 hS ?_;refine dE 8 fun KK hK=>?_;refine xR (Po EM (HRR.1.below ay.drew) (HRR.2.below ay.drew) hm HEL) ?_;rintro r w2⟨rfl,aF⟩;refine⟨_,rfl,?_⟩;have bL:Bw wr w2:=aj (cW wr.heap.size wr).drew aF;refine gr hK (by obtain⟨k0,k1,k2,k3,k4,k5⟩:=aa K0;exact⟨ag k0 bL,ag k1 bL,ag k2 bL,ag k3 bL,ag k4 bL,ag k5 bL⟩) fun hS=>?_;refine tn 9 hS ?_;refine di ?_;have b2:=aj aG bL;go_wp2;go_roundw;exact⟨k+1,ae,by go_num,b2⟩;exact bG};{have dA:=du k n;go_wp2;go_ret;exact⟨rfl,aG⟩}}
def ad9{ow mo ep ge:Int}{pp pv ph pu qp qv qh qu:OA}{a1 a2 a3 a4 d1 d2 d3 d4 n1 n2 n3 n4:Nat}{P V H U:LI}(e1:Hid (P.length=n1))(e2:Hid (V.length=n2))(e3:Hid (H.length=n3))(e4:Hid (U.length=n4)){w:World}(h1:Rd w (.S pp n1 a1) P/\Rd w (.S pv n2 a2) V/\qT w (.S ph n3 a3) H/\qT w (.S pu n4 a4) U)(h2:Rd w (.S qp n1 d1) P/\Rd w (.S qv n2 d2) V/\qT w (.S qh n3 d3) H/\qT w (.S qu n4 d4) U)(m1:n1<=1048576)(m2:n2<=1048576)(m3:n3<=1048576)(m4:n4<=1048576):Cp 70 #[YL (.S pp n1 a1) (.S pv n2 a2) ow mo (.S ph n3 a3) ep ge (.S pu n4 a4),YL (.S qp n1 d1) (.S qv n2 d2) ow mo (.S qh n3 d3) ep ge (.S qu n4 d4)] w fun r w'=>r=.returned (.bool true)/\Bw w w':=by
 obtain⟨W,hW⟩:=au ((w.alloc (.cells #[.S pp n1 a1,.S pv n2 a2,.U ow,.I mo,.S ph n3 a3,.U ep,.U ge,.S pu n4 a4] 93)).alloc (.cells #[.S qp n1 d1,.S qv n2 d2,.U ow,.I mo,.S qh n3 d3,.U ep,.U ge,.S qu n4 d4] 93));have bW:Bw w W:=by rw[hW];exact(ay.alloc ao _).alloc ai _
 have HR:=af fun(w':World)(hb:Bw w w')=>ah (ah (h1.1.below hb) (ah (h1.2.1.below hb) (ah (h1.2.2.1.below hb) (h1.2.2.2.below hb)))) (ah (h2.1.below hb) (ah (h2.2.1.below hb) (ah (h2.2.2.1.below hb) (h2.2.2.2.below hb))));have k0:W.cell? ⟨w.heap.size,0,none⟩=some (.S pp n1 a1):=by rw[hW];simp
 have k1:W.cell? ⟨w.heap.size,1,none⟩=some (.S pv n2 a2):=by rw[hW];simp
 have k2:W.cell? ⟨w.heap.size,2,none⟩=some (.U ow):=by rw[hW];simp
 have k3:W.cell? ⟨w.heap.size,3,none⟩=some (.I mo):=by rw[hW];simp
 have k4:W.cell? ⟨w.heap.size,4,none⟩=some (.S ph n3 a3):=by rw[hW];simp
 have k5:W.cell? ⟨w.heap.size,5,none⟩=some (.U ep):=by rw[hW];simp
 have k6:W.cell? ⟨w.heap.size,6,none⟩=some (.U ge):=by rw[hW];simp
 have k7:W.cell? ⟨w.heap.size,7,none⟩=some (.S pu n4 a4):=by rw[hW];simp
 have j0:W.cell? ⟨w.heap.size+1,0,none⟩=some (.S qp n1 d1):=by rw[hW];simp
 have j1:W.cell? ⟨w.heap.size+1,1,none⟩=some (.S qv n2 d2):=by rw[hW];simp
 have j2:W.cell? ⟨w.heap.size+1,2,none⟩=some (.U ow):=by rw[hW];simp
 have j3:W.cell? ⟨w.heap.size+1,3,none⟩=some (.I mo):=by rw[hW];simp
 have j4:W.cell? ⟨w.heap.size+1,4,none⟩=some (.S qh n3 d3):=by rw[hW];simp
 have j5:W.cell? ⟨w.heap.size+1,5,none⟩=some (.U ep):=by rw[hW];simp
 have j6:W.cell? ⟨w.heap.size+1,6,none⟩=some (.U ge):=by rw[hW];simp
 have j7:W.cell? ⟨w.heap.size+1,7,none⟩=some (.S qu n4 d4):=by rw[hW];simp
 have q1:(ow != ow)=false:=ai;have q2:(mo != mo)=false:=ai;have q3:(ep != ep)=false:=ai;have q4:(ge != ge)=false:=ai;go_enter func70,ntmps70;go_wp2_with fail;rw[<-hW];refine(AM e1 (aa HR _ bW).1.1 (aa HR _ bW).2.1 ae).mono ?_;rintro r w1⟨rfl,aA⟩;have b1:=aj bW aA;replace k0:=ag k0 aA;replace k1:=ag k1 aA;replace k2:=ag k2 aA;replace k3:=ag k3 aA;replace k4:=ag k4 aA;replace k5:=ag k5 aA;replace k6:=ag k6 aA;replace k7:=ag k7 aA;replace j0:=ag j0 aA;replace j1:=ag j1 aA;replace j2:=ag j2 aA;replace j3:=ag j3 aA;replace j4:=ag j4 aA;replace j5:=ag j5 aA;replace j6:=ag j6 aA;replace j7:=ag j7 aA;go_wp2_with fail;refine(AM e2 (aa HR _ b1).1.2.1 (aa HR _ b1).2.2.1 ae).mono ?_;rintro r w2⟨rfl,aF⟩;have b2:=aj b1 aF;replace k0:=ag k0 aF;replace k1:=ag k1 aF;replace k2:=ag k2 aF;replace k3:=ag k3 aF;replace k4:=ag k4 aF;replace k5:=ag k5 aF;replace k6:=ag k6 aF;replace k7:=ag k7 aF;replace j0:=ag j0 aF;replace j1:=ag j1 aF;replace j2:=ag j2 aF;replace j3:=ag j3 aF;replace j4:=ag j4 aF;replace j5:=ag j5 aF;replace j6:=ag j6 aF;replace j7:=ag j7 aF;go_wp2_with fail;refine(Ci e3 (aa HR _ b2).1.2.2.1 (aa HR _ b2).2.2.2.1 m3).mono ?_;rintro r w3⟨rfl,bf⟩;have b3:=aj b2 bf;replace k0:=ag k0 bf;replace k1:=ag k1 bf;replace k2:=ag k2 bf;replace k3:=ag k3 bf;replace k4:=ag k4 bf;replace k5:=ag k5 bf;replace k6:=ag k6 bf;replace k7:=ag k7 bf;replace j0:=ag j0 bf;replace j1:=ag j1 bf;replace j2:=ag j2 bf;replace j3:=ag j3 bf;replace j4:=ag j4 bf;replace j5:=ag j5 bf;replace j6:=ag j6 bf;replace j7:=ag j7 bf;go_wp2_with fail;refine(Ci e4 (aa HR _ b3).1.2.2.2 (aa HR _ b3).2.2.2.2 m4).mono ?_;rintro r w4⟨rfl,fk⟩;have b4:=aj b3 fk;go_wp2;go_ret;exact⟨rfl,b4⟩
def Wp{p q:OA}{c d n:Nat}{l:List aB}(en:Hid (l.length=n)){w:World}(h1:qz w (.S p n c) l)(h2:qz w (.S q n d) l)(hn:n<=1048576)(tL:Hid (∀y∈l,y.path.length<=1048576/\y.value.length<=1048576/\y.holders.length<=1048576/\y.watchers.length<=1048576)):Cp 30 #[.S p n c,.S q n d] w fun r w'=>r=.returned (.bool true)/\Bw w w':=by
 have HR:=af fun(w':World)(hb:Bw w w')=>ah (h1.below hb) (h2.below hb);have cg:((n:Int) != (n:Int))=false:=ai;go_enter func30,ntmps30;go_wp2_with fail
 go_loopw[5](fun i wr=>∃k:Nat,k<=n/\i=.I k/\Bw w wr) (fun i _=>n-(intOf i).toNat)
 exact⟨0,gq _,rfl,cW _ _⟩;{
 obtain⟨k,hk,rfl,aG⟩:=hrel;by_cases aX:k<n;{
 have i1:=aP k n;have dA:k<l.length:=by rw[aa en];exact aX
 obtain⟨y,hy⟩:∃y,l[k]?=some y:=⟨_,aO dA⟩;have fS:=aa tL y (aS hy);obtain⟨b1,o1,rfl,hA⟩:=(aa HR _ aG).1.at ae;obtain⟨b2,o2,rfl,hB⟩:=(aa HR _ aG).2.at ae;obtain⟨P1,V1,H1,U1,na⟩:=hA k y hy;obtain⟨P2,V2,H2,U2,nb⟩:=hB k y hy;obtain⟨pp,a1,n1,rfl,e1⟩:=na.r0.iB;obtain⟨pv,a2,n2,rfl,e2⟩:=na.r1.iB;obtain⟨ph,a3,n3,rfl,e3⟩:=na.r4.iB;obtain⟨pu,a4,n4,rfl,e4⟩:=na.r7.iB;obtain⟨qp,d1,n1',rfl,e1'⟩:=nb.r0.iB;obtain⟨qv,d2,n2',rfl,e2'⟩:=nb.r1.iB;obtain⟨qh,d3,n3',rfl,e3'⟩:=nb.r4.iB;obtain⟨qu,d4,n4',rfl,e4'⟩:=nb.r7.iB;obtain rfl:n1=n1':=e1.symm.trans e1';obtain rfl:n2=n2':=e2.symm.trans e2';obtain rfl:n3=n3':=e3.symm.trans e3';obtain rfl:n4=n4':=e4.symm.trans e4';have m1:n1<=1048576:=by rw[<-aa e1];exact fS.1
 have m2:n2<=1048576:=by rw[<-aa e2];exact fS.2.1
 have m3:n3<=1048576:=by rw[<-aa e3];exact fS.2.2.1
 have m4:n4<=1048576:=by rw[<-aa e4];exact fS.2.2.2
 have HA:=af (ah na.r0 (ah na.r1 (ah na.r4 na.r7)));have HB:=af (ah nb.r0 (ah nb.r1 (ah nb.r4 nb.r7)));obtain⟨z0,z1,z2,z3,z4,z5,z6,z7,-,-,-,-,-⟩:=na;obtain⟨x0,x1,x2,x3,x4,x5,x6,x7,-,-,-,-,-⟩:=nb;obtain⟨ow,mo,ep,ge,g1,g2,g3,g4⟩:∃a b c d,y.owner=a/\y.mode=b/\y.aJ=c/\y.gen=d:=⟨_,_,_,_,rfl,rfl,rfl,rfl⟩;rw[g1]at z2 x2;rw[g2]at z3 x3;rw[g3]at z5 x5;rw[g4]at z6 x6;have K0:=af (ah z0 (ah z1 (ah z2 (ah z3 (ah z4 (ah z5 (ah z6 (ah z7 (ah x0 (ah x1 (ah x2 (ah x3 (ah x4 (ah x5 (ah x6 x7)))))))))))))));go_wp2_with fail;refine dy (fun w'=>w'.cell? ⟨b1,o1+k*8,none⟩=some (.S pp n1 a1)/\w'.cell? ⟨b1,o1+k*8+1,none⟩=some (.S pv n2 a2)/\w'.cell? ⟨b1,o1+k*8+2,none⟩=some (.U ow)/\w'.cell? ⟨b1,o1+k*8+3,none⟩=some (.I mo)/\w'.cell? ⟨b1,o1+k*8+4,none⟩=some (.S ph n3 a3)/\w'.cell? ⟨b1,o1+k*8+5,none⟩=some (.U ep)/\w'.cell? ⟨b1,o1+k*8+6,none⟩=some (.U ge)/\w'.cell? ⟨b1,o1+k*8+7,none⟩=some (.S pu n4 a4)/\w'.cell? ⟨b2,o2+k*8,none⟩=some (.S qp n1 d1)/\w'.cell? ⟨b2,o2+k*8+1,none⟩=some (.S qv n2 d2)/\w'.cell? ⟨b2,o2+k*8+2,none⟩=some (.U ow)/\w'.cell? ⟨b2,o2+k*8+3,none⟩=some (.I mo)/\w'.cell? ⟨b2,o2+k*8+4,none⟩=some (.S qh n3 d3)/\w'.cell? ⟨b2,o2+k*8+5,none⟩=some (.U ep)/\w'.cell? ⟨b2,o2+k*8+6,none⟩=some (.U ge)/\w'.cell? ⟨b2,o2+k*8+7,none⟩=some (.S qu n4 d4)) (by exact K0) fun hS=>?_;refine mn 0 1 2 3 4 5 6 7 hS ?_;refine dE 8 fun KK hK=>?_;refine xR (ad9 e1 e2 e3 e4 ⟨HA.1.below ay.drew,HA.2.1.below ay.drew,HA.2.2.1.below ay.drew,HA.2.2.2.below ay.drew⟩ ⟨HB.1.below ay.drew,HB.2.1.below ay.drew,HB.2.2.1.below ay.drew,HB.2.2.2.below ay.drew⟩ m1 m2 m3 m4) ?_;rintro r w2⟨rfl,aF⟩;refine⟨_,rfl,?_⟩;have bL:Bw wr w2:=aj (cW wr.heap.size wr).drew aF;refine gr hK (by obtain⟨k0,k1,k2,k3,k4,k5,k6,k7,k8,k9,k10,k11,k12,k13,k14,k15⟩:=aa K0;exact⟨ag k0 bL,ag k1 bL,ag k2 bL,ag k3 bL,ag k4 bL,ag k5 bL,ag k6 bL,ag k7 bL,ag k8 bL,ag k9 bL,ag k10 bL,ag k11 bL,ag k12 bL,ag k13 bL,ag k14 bL,ag k15 bL⟩) fun hS=>?_;refine tn 9 hS ?_;refine di ?_;have b2:=aj aG bL;go_wp2;go_roundw;exact⟨k+1,ae,by go_num,b2⟩;exact bG};{have dA:=du k n;go_wp2;go_ret;exact⟨rfl,aG⟩}}
def AL{e g:Int}{p q p' q':OA}{c n d m c' d':Nat}(en:Hid (ss.length=n))(em:Hid (ns.length=m)){w:World}(h:yZ w (.S p n c) ss)(hN:qz w (.S q m d) ns)(h':yZ w (.S p' n c') ss)(Ln:qz w (.S q' m d') ns)(hn:n<=1048576)(hm:m<=1048576)(he1:Hid (∀y∈ss,y.2.2.length<=1048576/\∀e∈y.2.2,e.2.length<=1048576))(he2:Hid (∀y∈ns,y.path.length<=1048576/\y.value.length<=1048576/\y.holders.length<=1048576/\y.watchers.length<=1048576)):Cp 8 #[gh e g x t (.S p n c) (.S q m d),gh e g x t (.S p' n c') (.S q' m d')] w fun r w'=>r=.returned (.bool true)/\Bw w w':=by
 obtain⟨W,hW⟩:=au ((w.alloc (.cells #[.U e,.U g,.U x,.I t,.S p n c,.S q m d] 32)).alloc (.cells #[.U e,.U g,.U x,.I t,.S p' n c',.S q' m d'] 32));have bW:Bw w W:=by rw[hW];exact(ay.alloc ao _).alloc ai _
 have HR:=af fun(w':World)(hb:Bw w w')=>ah (ah (h.below hb) (hN.below hb)) (ah (h'.below hb) (Ln.below hb));have k5:W.cell? ⟨w.heap.size,5,none⟩=some (.S q m d):=by rw[hW];simp
 have j5:W.cell? ⟨w.heap.size+1,5,none⟩=some (.S q' m d'):=by rw[hW];simp
 have q1:(e != e)=false:=ai;have q2:(g != g)=false:=ai;have q3:(x != x)=false:=ai;have q4:(t != t)=false:=ai;go_enter func8,ntmps8;go_wp2_with fail;rw[<-hW];refine(Lx en (aa HR _ bW).1.1 (aa HR _ bW).2.1 hn he1).mono ?_;rintro r w1⟨rfl,aA⟩;have b1:=aj bW aA;replace k5:=ag k5 aA;replace j5:=ag j5 aA;go_wp2_with fail;refine(Wp em (aa HR _ b1).1.2 (aa HR _ b1).2.2 hm he2).mono ?_;rintro r w2⟨rfl,aF⟩;have b2:=aj b1 aF;go_wp2;go_ret;exact⟨rfl,b2⟩
def iy{α:Type}(F:α->Nat)(l:List α):Nat:=(l.map F).sum
def Vi{α:Type}(F:α->Nat){l:List α}{k:Nat}{y:α}(h:l[k]?=some y):iy F (l.take (k+1))=iy F (l.take k)+F y:=by
 rw[ng,h];simp[iy]
def IA(s:aR):Nat:=s.2.2.length+iy (fun e:Ev=>e.2.length) s.2.2
def DS(nd:aB):Nat:=nd.path.length+nd.value.length+nd.holders.length+nd.watchers.length
def JN(ss:List aR)(ns:List aB):Nat:=ss.length+iy IA ss+(ns.length+iy DS ns)
def le(v:Int):Nat->LI
 |0=>[]
 |n+1=>v % 256::le (v / 256) n
def dB(v:Int)(n:Nat):(le v n).length=n:=by induction n generalizing v with|zero=>rfl|succ n ih=>simp[le,ih]
theorem Fk(v:Int)(n:Nat):aM (le v n):=by
 induction n generalizing v with
 |zero=>intro z hz;simp[le]at hz
 |succ n ih=>
  intro z hz;simp only[le,jA]at hz;rcases hz with rfl|hz;{omega};{exact ih _ z hz}
theorem ar6(v:Int)(n:Nat):le v (n+1)=le v n++[v / 256 ^ n % 256]:=by
 induction n generalizing v with
 |zero=>simp[le]
 |succ n ih=>
  rw[le,ih,le,Kw];rw[aC7 ae,Zh,Int.mul_comm]
def aM.append(h:aM l)(k:aM m):aM (l++m):=fun z hz=>by
 rcases gR.1 hz with a|a;{exact h z a};{exact k z a}
theorem oy(n:Nat)(v:Int)(w:World)(hn:n<=8)(h0:0<=v)(h1:v<18446744073709551616):Cp 78 #[.U v,.I n] w fun e w'=>∃p c,e=.returned (.S p n c)/\Own w.heap.size w' (.S p n c) (le v n)/\Bw w w':=by
 induction n generalizing v w with
 |zero=>
  go_enter func78,ntmps78;go_wp2;go_ret;exact⟨none,0,rfl,World.ownsRow_nil _ _ _ _,cW _ _⟩
 |succ n ih=>
  have cg:(((n+1:Nat):Int)==0)=false:=Uh.2 ae;go_enter func78,ntmps78;go_wp2_with fail;refine(ih (v / 256) _ ae ae ae).mono ?_;rintro e w1⟨p1,c1,rfl,o1,aA⟩;have b1:Bw w w1:=aj (ay.alloc ao _) aA;have o2:Own w.heap.size w1 (.T w.heap.size 1 1) [v % 256]:=Own.below (Own.one w (v % 256)) aA;have r1:=o1.rd;have hz:=b1.size;clear o1 aA;go_wp2_with(at_builtin;refine bS rfl rfl (.T w.heap.size 1 1) (lm:=le v (n+1)) bq p1 c1 n (by show _=_;exact dB _ _) rfl rfl o2 r1 (by rw[dB];simp;omega) hz ?_);intro p' c' w2 ho hg;have b2:=dt b1 hg o2 ao hz;rw[dB]at ho⊢;clear b1 hg o2 r1;go_wp2;go_ret;exact⟨p',c',rfl,ho,b2⟩
def kr{n:Nat}{v:Int}{w:World}(hn:n<=8)(h0:0<=v)(h1:v<18446744073709551616):Cp 138 #[.U v,.I n] w fun e w'=>∃p c,e=.returned (.S p n c)/\Own w.heap.size w' (.S p n c) (le v n)/\Bw w w':=by
 go_enter func138,ntmps138;go_wp2
 go_loopw[0,5,7](fun nn ov i wr=>∃(k:Nat)(p:OA)(c:Nat)(l:LI)(u:Int),k<=n/\i=.I k/\nn=.U u/\Hid (u=v / 256 ^ k)/\0<=u/\u<18446744073709551616/\Hid (l=le v k)/\l.length=k/\ov=.S p k c/\Own w.heap.size wr (.S p k c) l/\Bw w wr) (fun _ _ i _=>n-(intOf i).toNat)
 exact⟨0,none,0,[],v,gq _,rfl,rfl,by show _=_;simp,h0,h1,rfl,rfl,rfl,World.ownsRow_nil _ _ _ _,cW _ _⟩;{
 obtain⟨k,p,c,l,u,hk,rfl,rfl,eu,u0,u1,el,hl,rfl,ho,aG⟩:=hrel;by_cases aX:k<n;{
 obtain⟨lm,ax1⟩:=au (l++[u % 256]);have hlm:lm.length=k+1:=by simp[ax1,hl]
 have HLM:=af hlm;have el2:Hid (lm=le v (k+1)):=by show _=_;rw[ax1,aa el,aa eu,ar6]
 have eu2:Hid (u / 256=v / 256 ^ (k+1)):=by show _=_;rw[aa eu,aC7 (Int.pow_nonneg ae),Zh]
 have GR:=af ax1;clear hlm el ax1 eu;go_wp2_with(at_builtin;refine eh rfl rfl (.S p k c) GR wr.heap.size rfl rfl (Own.below ho (ay.alloc ao _)) ai ae (by have:=aG.size;simp;omega) ?_);intro p' c' w2 mP ga;have b2:Bw w w2:=(aG.alloc aG.size (.cells #[.int .u8 (u % 256)] 5)).grown ga (by have:=aG.size;simp;omega) (fun k hk=>(ho.lt k hk).1);simp only[aa HLM];have ho3:Own w.heap.size w2 (.S p' (k+1) c') lm:=by have h2:=mP;simp only[aa HLM]at h2;exact h2
 clear mP ga ho aG hl GR;go_wp2;go_roundw;exact⟨k+1,p',c',lm,u / 256,ae,by go_num,by first|rfl|go_num,eu2,ae,ae,el2,HLM,rfl,ho3,b2⟩;exact bG};{have e:k=n:=ae;subst e;rw[aa el]at ho;clear el hl eu;go_wp2;go_ret;exact⟨p,c,rfl,ho,aG⟩}}
def cr4(a b c:LI):cat [a,b,c]=a++b++c:=by simp[cat]
def cr3(a b c d:LI):cat [a,b,c,d]=a++b++c++d:=by simp[cat]
def num:LI->Int
 |[]=>0
 |b::l=>b+256*num l
theorem Et(h:aM l):0<=num l/\num l<256 ^ l.length:=by
 induction l with
 |nil=>simp[num]
 |cons b l ih=>
  obtain⟨h0,h1⟩:=ih (fun z hz=>h z (by simp[hz]));obtain⟨b0,b1⟩:=h b ai;simp only[num,iU,Zh];omega
def ki(h:aM l)(hl:l.length<=8):0<=num l/\num l<18446744073709551616:=by
 obtain⟨a,b⟩:=Et h;refine⟨a,Int.lt_of_lt_of_le b ?_⟩;have h9:((256 ^ l.length:Nat):Int)<=18446744073709551616:=by have h8:=aD8 (n:=256) ae hl;have e:256 ^ 8=18446744073709551616:=rfl;omega
 rw[Int.natCast_pow]at h9;exact h9
def Tq{z k:Int}(z0:0<=z)(z1:z<256)(k0:0<=k)(h:z+256*k<18446744073709551616):IntKind.u64.wrap (IntKind.u64.wrap z+IntKind.u64.wrap (256*k))=z+256*k:=by
 rw[u64_wrap_id z z0 ae,u64_wrap_id (256*k) ae ae,u64_wrap_id _ ae h]
theorem sy(l:LI)(p:OA)(c n:Nat)(en:Hid (l.length=n))(w:World)(h:Rd w (.S p n c) l)(hb:aM l)(hn:n<=8)(hc:n<=c)(hm:c<=maxLen):Cp 39 #[.S p n c] w fun e w'=>e=.returned (.U (num l))/\Bw w w':=by
 induction l generalizing p c n w with
 |nil=>
  have e:=aa en;subst e;clear h;go_enter func39,ntmps39;go_wp2;go_ret;exact⟨rfl,cW _ _⟩
 |cons z l ih=>
  have e:n=l.length+1:=en.symm;have HE:=af e;obtain⟨b,o,rfl,-,cO⟩:=h.at ai;obtain⟨z0,z1⟩:=hb z ai;obtain⟨n0,n1⟩:=ki (l:=l) (fun z hz=>hb z (by simp[hz])) ae;obtain⟨m0,m1⟩:=ki (l:=z::l) hb bj;have EN:num (z::l)=z+256*num l:=rfl;have c0:=cO 0 ai;simp at c0;have cg:((n:Int)==0)=false:=Uh.2 ae;have iD:=iE n c;have js:=dw 1 n;have Cb:=pW 0 n;have GM:0<n:=ae;have yK:1<=n:=ae;by_cases h1:c=1;{
 have vH:n=1:=ae;subst h1 vH;have IH:Hid (∀(w':World),Bw w w'->Cp 39 #[.S (some ⟨b,o,none⟩) 0 0] w' fun e w''=>e=.returned (.U (num l))/\Bw w' w''):=by intro w' bL;refine ih _ 0 0 (by show _=_;omega) w' ?_ (fun z hz=>hb z (by simp[hz])) ae ae ae;refine(h.below bL).cut 1 1 ae ai _ (.inl ae) _ l ?_;rw[Ku (l:=l) ae];rfl
 have HN:=af EN;rw[EN]at m1;clear e ih h hb cO EN m0;unfold maxLen at hm;go_enter func39,ntmps39;go_wp2_with fail
 go_region_held3 (fun w'=>w'.cell? ⟨b,o,none⟩=some (.int .u8 z)) (first|with_reducible exact c0|with_reducible exact c1|go_keep)
  (first|(go_at_call 39;refine(aa IH _ (by first|exact cW _ _|exact ay.drew)).mono ?_;rintro e w1⟨rfl,aA⟩;have b1:Bw w w1:=(by first|exact aA|exact aj (cW w.heap.size w).drew aA);have c1:=ag c0 b1))
 clear IH c1;go_wp2;go_ret;exact⟨by rw[aa HN,<-Tq z0 z1 n0 m1];rfl,b1⟩};{
 have hcn:(c==1)=false:=by simp[h1]
 have IH:Hid (∀(w':World),Bw w w'->Cp 39 #[.S (some ⟨b,o+1,none⟩) (n-1) (c-1)] w' fun e w''=>e=.returned (.U (num l))/\Bw w' w''):=by intro w' bL;refine ih _ (c-1) (n-1) (by show _=_;omega) w' ?_ (fun z hz=>hb z (by simp[hz])) ae ae ae;refine(h.below bL).cut 1 n ae bj _ (.inr rfl) _ l ?_;rw[e];simp
 have HN:=af EN;rw[EN]at m1;clear e ih h hb cO EN m0;unfold maxLen at hm;go_enter func39,ntmps39;go_wp2_with fail
 go_region_held3 (fun w'=>w'.cell? ⟨b,o,none⟩=some (.int .u8 z)) (first|with_reducible exact c0|with_reducible exact c1|go_keep)
  (first|(go_at_call 39;refine(aa IH _ (by first|exact cW _ _|exact ay.drew)).mono ?_;rintro e w1⟨rfl,aA⟩;have b1:Bw w w1:=(by first|exact aA|exact aj (cW w.heap.size w).drew aA);have c1:=ag c0 b1))
 clear IH c1;go_wp2;go_ret;exact⟨by rw[aa HN,<-Tq z0 z1 n0 m1];rfl,b1⟩}
open Go.Shelf
attribute [local go_sem] Oper.semAt_some
abbrev IB:={z:Int×Int // 0<=z.2/\z.2<256}
def upto{α:Type}(f:Nat->α)(k:Nat):List α:=(List.range k).map f
def Iw{α:Type}(f:Nat->α)(k:Nat):upto f (k+1)=upto f k++[f k]:=by simp[upto,List.range_succ]
def MA{α:Type}(f:Nat->α)(k:Nat):(upto f k).length=k:=by simp[upto]
def aM.get(h:aM l)(i:Nat):0<=l[i]?.getD 0/\l[i]?.getD 0<256:=by
 by_cases hi:i<l.length;{simp[hi];exact h _ (List.getElem_mem hi)};{simp[hi]}
def Db(n Bs:Nat)(A B:World):Prop:=Below n A B/\B.cell? ⟨Bs,0,none⟩=A.cell? ⟨Bs,0,none⟩
def Db.trans{n Bs:Nat}{A B C:World}(h:Db n Bs A B)(k:Db n Bs B C):Db n Bs A C:=⟨h.1.trans k.1,k.2.trans h.2⟩
def Db.refl(n Bs:Nat)(A:World):Db n Bs A A:=⟨Below.refl _ _,rfl⟩
def Db.put{n Bs:Nat}{w:World}(hn:n<=w.heap.size)(hB:Bs<w.heap.size)(W:World)(l:Nat)(o o':Obj)(hl:w.heap.size<=l)(h:W.heap[l]?=some o)(h1:o.isCells=false)(h2:o.isWalk=false):Db n Bs W (W.putObj l o'):=
 ⟨belowK_b hn W l o o' hl h h1 h2,World.cell?_of_block (a:=⟨Bs,0,none⟩) (World.putObj_heap_other (by show Bs≠l;omega))⟩
def PI(l:LI)(h:aM l)(j:Nat):IB:=⟨((l.length:Int)-1-j,l[l.length-1-j]?.getD 0),h.get _⟩
set_option maxRecDepth 100000 in
def aX8(F:Fence){n:Nat}(h7:F.fn 165)(hro:F.round=none)(hn:1<=n){L Bs Rg b o len cap:Nat}(hB:aM l)(el:l.length=len)(hlen:len<=8)(hb:b<Rg)(J Jx:List IB->World->Prop)(hY:∀pre x W,J pre W->pre.length<len->YieldAt F (n-1) prog L #[.I x.1.1,.int .u8 x.1.2] W fun e W'=>
   (e=.returned (.bool true)/\J (pre++[x]) W'/\Db Rg Bs W W')\/(e=.returned (.bool false)/\Jx (pre++[x]) W'))(hBs:W.cell? ⟨Bs,0,none⟩=some (.S (some ⟨b,o,none⟩) len cap))(hc:∀j,j<len->W.cell? ⟨b,o+j,none⟩=some (.int .u8 (l[j]?.getD 0)))(h0:J [] W):CallsIn F n prog 165 #[.func (.yield L) #[] #[],.pointer (some ⟨Bs,0,none⟩)] W fun e W'=>(∃v,e=.returned v)∧
   ((∃ys,ys=upto (PI l hB) len/\J ys W')\/(∃pre,Jx pre W')):=by
 refine callsIn_of_wp func165 rfl h7 ?_ hro;simp only[ntmps165,qR,Nat.reduceAdd,Nat.reduceSub]
 gi_wp2
 gi_loopw [3] (fun i wr=>∃k:Nat,k<=len/\i=.I ((len:Int)-1-k)/\J (upto (PI l hB) k) wr/\Db Rg Bs W wr) (fun i _=>(intOf i+1).toNat)
 case atStart=>exact⟨0,Nat.zero_le _,ai,h0,Db.refl _ _ _⟩
 case round=>(
 obtain⟨k,hk,rfl,hJs,hnx⟩:=hrel;by_cases aX:k<len;{
 obtain⟨m,em⟩:∃m:Nat,m=len-1-k:=⟨_,rfl⟩;have e1:(len:Int)-1-k=(m:Int):=ae;have hm:m<len:=ae;obtain⟨z,ez⟩:=au (l[m]?.getD 0);have zE:wr.cell? ⟨b,o+m,none⟩=some (.int .u8 z):=(hnx.1.cell (p:=⟨b,o+m,none⟩) hb).trans ((hc m hm).trans (by rw[ez]));have hbx:wr.cell? ⟨Bs,0,none⟩=some (.S (some ⟨b,o,none⟩) len cap):=hnx.2.trans hBs;obtain⟨fn,tmps,assign,body,hy,hR⟩:=hY _ (PI l hB k) wr hJs (by rw[MA];exact aX);have ex:(PI l hB k).1=((m:Int),z):=by simp only[PI,el,e1,em,ez]
 rw[ex]at hy;dsimp only at hy;rw[e1];have hmi:=aP m len;have EM:=af em;have E1:=af e1;have HK:=af aX;have HC:=af hc;clear em e1 ex aX hc ez
 gi_wp2
 refine hR.mono ?_;rintro e W3(⟨rfl,Qo,qZ⟩|⟨rfl,AH⟩);{
 gi_wp2
 go_roundw;exact⟨k+1,aa HK,by have:=aa E1;congr 1;omega,by rw[Iw];exact Qo,hnx.trans qZ⟩
 case measure=>simp[intOf]<;>omega}
 {
 gi_wp2
 refine bodyPost_ret (results_none rfl _ _ _) rfl ?_;exact⟨⟨_,rfl⟩,.inr ⟨_,AH⟩⟩}};{
 obtain rfl:k=len:=ae
 gi_wp2
 go_end0
 exact⟨⟨_,rfl⟩,.inl ⟨_,rfl,hJs⟩⟩})
def bA7(F:Fence){n:Nat}(h5:F.fn 137)(hro:F.round=none){a:OA}{len cap:Nat}{w:World}:CallsIn F n prog 137 #[.S a len cap] w fun e w'=>e=.returned (.func (.func 165) #[] #[.pointer (some ⟨w.heap.size,0,none⟩)])/\w'=w.alloc (.cells #[.S a len cap] 22):=by
 refine callsIn_of_wp func137 rfl h5 ?_ hro;simp only[ntmps137,qR,Nat.reduceAdd,Nat.reduceSub]
 gi_wp2
 go_ret;exact⟨rfl,rfl⟩
def ah0(F:Fence){n:Nat}(h7:F.fn 165)(hro:F.round=none)(hn:1<=n){Bs Rg b o len cap:Nat}(hB:aM l)(el:l.length=len)(hlen:len<=8)(hb:b<Rg){w:World}(hBn:Bs<w.heap.size)(cJ8:Rg<=w.heap.size)(hBs:w.cell? ⟨Bs,0,none⟩=some (.S (some ⟨b,o,none⟩) len cap))(hc:∀j,j<len->w.cell? ⟨b,o+j,none⟩=some (.int .u8 (l[j]?.getD 0))):SeqStopsK F n prog 165 #[.pointer (some ⟨Bs,0,none⟩)] (fun x:IB=>#[.I x.1.1,.int .u8 x.1.2]) (Db Rg Bs) (fun ys=>ys=upto (PI l hB) len) (fun _=>True) len w:=fun L J Jx W hW _ _ hY h0=>by
 refine(aX8 F h7 hro hn (o:=o) (cap:=cap) hB el hlen hb J Jx hY ((hW.cell (p:=⟨Bs,0,none⟩) (by show Bs<_;omega)).trans hBs) (fun j hj=>(hW.cell (p:=⟨b,o+j,none⟩) (by show b<_;omega)).trans (hc j hj)) h0).mono ?_;rintro e W'⟨he,⟨ys,hy,hj⟩|⟨pre,hj⟩⟩;{exact⟨he,.inl ⟨_,hy,hj⟩⟩};{exact⟨he,.inr ⟨_,trivial,hj⟩⟩}
def acc(pre:List IB):Int:=pre.foldl (fun a x=>a*256+x.1.2) 0
def Gs{pre:List IB}(x:IB):acc (pre++[x])=acc pre*256+x.1.2:=by simp[acc]
theorem PQ(k:Nat):∀pre:List IB,pre.length=k->0<=acc pre/\acc pre<256 ^ k:=by
 induction k with
 |zero=>intro pre h;rw[List.eq_nil_of_length_eq_zero h];simp[acc]
 |succ k ih=>
  intro pre h;rcases pre.eq_nil_or_concat with rfl|⟨m,x,rfl⟩;{simp at h};{rw[List.concat_eq_append]at h⊢;rw[Gs];obtain⟨h0,h1⟩:=ih m (by simpa using h);have:=x.2;rw[Int.pow_succ];omega}
def aY9{pre:List IB}(h:pre.length<8):0<=acc pre/\acc pre*256+256<=18446744073709551616:=by
 obtain⟨h0,h1⟩:=PQ pre.length pre rfl;refine⟨h0,?_⟩;have h9:((256 ^ pre.length:Nat):Int)<=72057594037927936:=by have h8:=Nat.pow_le_pow_right (n:=256) ae (show pre.length<=7 by omega);have e:256 ^ 7=72057594037927936:=rfl;omega
 rw[Int.natCast_pow]at h9;have h10:acc pre<72057594037927936:=Int.lt_of_lt_of_le h1 h9;omega
theorem aZ0(l:LI)(hB:aM l)(k:Nat)(hk:k<=l.length):acc (upto (PI l hB) k)=num (l.drop (l.length-k)):=by
 induction k with
 |zero=>simp[upto,acc,num]
 | succ k ih=>
  rw[Iw,Gs,ih ae];have aX:l.length-1-k<l.length:=ae;have e:l.drop (l.length-(k+1))=l[l.length-1-k]::l.drop (l.length-k):=by
   rw[show l.length-(k+1)=l.length-1-k by omega,List.drop_eq_getElem_cons aX]
   congr 2;omega
  rw[e,num];simp[PI,aX];omega
set_option maxRecDepth 100000 in
def Nn(F:Fence){n:Nat}(h3:F.fn 98)(h5:F.fn 137)(h6:F.fn 165)(hro:F.round=none)(hn:3<=n){b o len cap:Nat}(hB:aM l)(el:l.length=len)(hlen:len<=8)(hb0:0<len){w:World}(hc:∀j,j<len->w.cell? ⟨b,o+j,none⟩=some (.int .u8 (l[j]?.getD 0))):CallsIn F n prog 98 #[.S (some ⟨b,o,none⟩) len cap] w fun e W'=>e=.returned (.U (num l))/\Bw w W':=by
 have h1:1<=n:=ae;refine callsIn_of_wp_marks func98 rfl h3 ?_ hro;simp only[ntmps98,qR,Nat.reduceAdd,Nat.reduceSub]
 gi_wp2_with(gi_at_call 137;refine(bA7 F h5 hro).mono ?_;rintro e w'⟨rfl,rfl⟩)
 obtain⟨W0,dV⟩:=au ((w.alloc (.cells #[.U 0] 28)).alloc (.cells #[.S (some ⟨b,o,none⟩) len cap] 22));have z0:W0.heap.size=w.heap.size+2:=by rw[dV];simp
 have k0:W0.cell? ⟨w.heap.size,0,none⟩=some (.U 0):=by rw[dV];simp
 have f0:W0.frozen? ⟨w.heap.size,0,none⟩=false:=by rw[dV];simp
 have k1:W0.cell? ⟨w.heap.size+1,0,none⟩=some (.S (some ⟨b,o,none⟩) len cap):=by rw[dV];simp
 have hB0:Bw w W0:=by rw[dV];exact(ay.alloc ao _).alloc ai _
 have hbw:b<w.heap.size:=World.block_lt_of_cell? w _ (hc 0 hb0);rw[<-dV];clear dV;refine wpIn_rangeFunc_ownF hro h1 (gf:=165) (lb:=#[.pointer (some ⟨w.heap.size+1,0,none⟩)]) rfl h6 (enters_of func165 bg rfl)
  (ah0 F (n:=n-1) h6 hro ae hB el hlen hbw ae ae k1 (fun j hj=>(hB0.cell (p:=⟨b,o+j,none⟩) hbw).trans (hc j hj))) (fun h k=>h.trans k) (Db.put ae ae) ay (fun _=>rfl)
  (fun pre W=>(W.cell? ⟨w.heap.size,0,none⟩=some (.U (acc pre))/\W.frozen? ⟨w.heap.size,0,none⟩=false)/\Bw w W)
  (fun _ _ _=>False)
  (OwnFrom.and (Own.from (fun s A B row hs hg hr=>⟨cell_kept hs.1 hg hr,(frozen_kept hs.1 hg hr).trans hs.2⟩) _) (ownFrom_below ao ae))
  (fun _ _ _ _ _ hs _ _=>hs)
  ⟨⟨k0,f0⟩,hB0⟩
  (fun x=>{tmps:=#[.S (some ⟨b,o,none⟩) len cap,undef,.U 0,.pointer (some ⟨w.heap.size,0,none⟩),undef,.int .u8 x.1.2,.S (some ⟨b,o,none⟩) len cap,.func (.func 165) #[] #[.pointer (some ⟨w.heap.size+1,0,none⟩)],.I x.1.1,.int .u8 x.1.2,undef,undef,undef,undef,undef,undef],defers:=[]}) ?assign ?body ?done ?stop
 case assign=>(
 intro l x W K hK
 gi_wp2
 exact hK)
 case body=>(
 rintro L pre x W⟨⟨Qh,hf⟩,nF⟩qY;obtain⟨a0,a1⟩:=aY9 (pre:=pre) ae;obtain⟨x0,x1⟩:=x.2;have HS:=af (Gs (pre:=pre) x);generalize acc pre=a at*;generalize x.1.2=y at*;have aI2:bits .or .u64 (a*256) y=a*256+y:=by exact bits_join .u64 64 aU wraps_u64 8 (a*256) y ae ae ae x0 ae ae
 have EJ:=af aI2;clear aI2
 gi_wp2
 refine⟨KeepsOthers.setCell _ _ _,⟨(Below.refl w.heap.size W).setCell (p:=⟨w.heap.size,0,none⟩) ao _,World.cell?_setCell_far _ _ _ _ ai⟩,⟨?_,by rw[World.frozen?_setCell];exact hf⟩,nF.setCell (p:=⟨w.heap.size,0,none⟩) ao _⟩;rw[aa HS,<-aa EJ];exact World.cell?_setCell_same' _ _ _ (by rw[Qh];rfl))
 case done=>(
 rintro D ys W hD rfl⟨⟨Qh,hf⟩,nF⟩hK
 gi_wp2
 refine⟨ai,.inl ⟨_,_,rfl,run_takeDeferred hK,?_⟩⟩;exact⟨_,results_tmp rfl _ _ _,by rw[<-el,aZ0 l hB l.length ao];simp,nF.trans (belowK_b (w:=w) ao W D _ _ ae hK rfl rfl)⟩)
 case stop=>(
 rintro D c pre W _ _ h _;exact h.elim)
def kh{c n:Nat}(en:Hid (l.length=n)){w:World}(h:Rd w (.S p n c) l)(hb:aM l)(hn:n<=8)(h0:0<n):Cp 98 #[.S p n c] w fun e w'=>e=.returned (.U (num l))/\Bw w w':=by
 have e:=aa en;obtain⟨b,o,rfl,-,hc⟩:=h.at ae;refine callsIn_wide.1 (Nn Fence.wide (n:=3) trivial trivial trivial rfl ae (b:=b) (o:=o) (len:=n) (cap:=c) (l:=l) hb e hn h0 (w:=w) (fun j hj=>?_));rw[hc j ae]
 rfl
def sm(l:LI):LI:=l++le (ck l) 4
def uR:(sm l).length=l.length+4:=by simp[sm,dB]
def Ya(h:aM l):aM (sm l):=h.append (Fk _ _)
theorem aN2{w:World}(c0:w.cell? ⟨g,0,none⟩=some v0)(c1:w.cell? ⟨g,1,none⟩=some v1)(c2:w.cell? ⟨g,2,none⟩=some v2)(r0:Rd w v0 l0)(r1:Rd w v1 l1)(r2:Rd w v2 l2):mU w g [v0,v1,v2] [l0,l1,l2]:=by
 refine⟨rfl,fun j v x e1 e2=>?_⟩
 match j,e1,e2 with
 |0,e1,e2=>simp at e1 e2;subst e1 e2;exact⟨c0,r0⟩
 |1,e1,e2=>simp at e1 e2;subst e1 e2;exact⟨c1,r1⟩
 |2,e1,e2=>simp at e1 e2;subst e1 e2;exact⟨c2,r2⟩
theorem aN1{w:World}{v3:Value}{l3:LI}(c0:w.cell? ⟨g,0,none⟩=some v0)(c1:w.cell? ⟨g,1,none⟩=some v1)(c2:w.cell? ⟨g,2,none⟩=some v2)(c3:w.cell? ⟨g,3,none⟩=some v3)(r0:Rd w v0 l0)(r1:Rd w v1 l1)(r2:Rd w v2 l2)(r3:Rd w v3 l3):mU w g [v0,v1,v2,v3] [l0,l1,l2,l3]:=by
 refine⟨rfl,fun j v x e1 e2=>?_⟩
 match j,e1,e2 with
 |0,e1,e2=>simp at e1 e2;subst e1 e2;exact⟨c0,r0⟩
 |1,e1,e2=>simp at e1 e2;subst e1 e2;exact⟨c1,r1⟩
 |2,e1,e2=>simp at e1 e2;subst e1 e2;exact⟨c2,r2⟩
 |3,e1,e2=>simp at e1 e2;subst e1 e2;exact⟨c3,r3⟩
def DI{c n:Nat}(en:Hid (l.length=n)){w:World}(h:Rd w (.S p n c) l)(hb:aM l)(hl:n<=2097152):Cp 139 #[.S p n c] w fun e w'=>∃p' c',e=.returned (.S p' (n+4) c')/\Own w.heap.size w' (.S p' (n+4) c') (sm l)/\Bw w w':=by
 have e1:=aa en;subst e1;obtain⟨k0,k1⟩:=UQ l;go_enter func139,ntmps139;go_wp2_with fail;refine(Rw (p:=p) (c:=c) (l:=l) h hb ae).mono ?_;rintro e w1⟨rfl,b1⟩;go_wp2_with fail;refine(kr (n:=4) (v:=ck l) ae k0 ae).mono ?_;rintro e w2⟨p2,c2,rfl,o2,aF⟩;have b2:=aj b1 aF;have r0:=h.below b2;have r2:=o2.rd;clear h b1 aF o2;go_wp2_with fail;refine(fM (g:=w2.heap.size) (vs:=[.S p l.length c,.S p2 4 c2]) [l,le (ck l) 4] (lm:=sm l) (n:=l.length+4) 2 rfl (by show _=_;rw[ay7];rfl) (by show _=_;exact uR (l:=l)) (Yu ai ai (r0.below (ay.alloc ao _)) (r2.below (ay.alloc ao _))) ae ae).mono ?_;rintro e w3⟨p3,c3,rfl,o3,bf⟩;have b3:=aj (b2.alloc b2.size _) bf;have o4:Own w.heap.size w3 (.S p3 (l.length+4) c3) (sm l):=Own.mono o3 (by have:=b2.size;simp;omega);clear r0 r2 b2 bf o3;go_wp2;go_ret;exact⟨p3,c3,rfl,o4,b3⟩
def DT{c n:Nat}(en:Hid (l.length=n)){w:World}(h:Rd w (.S p n c) l)(hb:aM l)(hl:n<=2097152):Cp 79 #[.S p n c] w fun e w'=>∃p' c',e=.returned (.S p' (n+4) c')/\Own w.heap.size w' (.S p' (n+4) c') (sm l)/\Bw w w':=by
 have e1:=aa en;subst e1;obtain⟨k0,k1⟩:=UQ l;go_enter func79,ntmps79;go_wp2_with fail;refine(Fs h ae).mono ?_;rintro e w1⟨p1,c1,rfl,o1,b1⟩;go_wp2_with fail;refine(QT (h.below b1) hb ae).mono ?_;rintro e w2⟨rfl,aF⟩;have b2:=aj b1 aF;have o2:=Own.below o1 aF;clear h b1 aF o1;go_wp2_with fail;refine(oy 4 (ck l) _ ae k0 ae).mono ?_;rintro e w3⟨p3,c3,rfl,o3,bf⟩;have b3:=aj b2 bf;have o4:=Own.below o2 bf;have r3:=o3.rd;have hz:=b3.size;clear b2 bf o2 o3;go_wp2_with(at_builtin;refine bS rfl rfl (.S p1 l.length c1) (lm:=sm l) bq p3 c3 4 (by show _=_;exact dB _ _) rfl rfl o4 r3 (by rw[dB];omega) hz ?_);intro p' c' w5 ho hg;have b5:=dt b3 hg o4 ao hz;rw[uR]at ho⊢;clear b3 hg o4 r3;go_wp2;go_ret;exact⟨p',c',rfl,ho,b5⟩
abbrev xZ(s:Int)(v:Value):Value:=.agg #[.U s,v]
def lM(s:Int)(l:LI):LI:=le l.length 2++le s 8++l
def Cu(s:Int)(l:LI):LI:=sm (lM s l)
def Ax:LI:=[76,72,83,49]
def l9:Ax.length=4:=rfl
def iR(s:Int)(l:LI):LI:=Ax++le s 8++le l.length 4++l
def iA(s:Int)(l:LI):LI:=sm (iR s l)
def kc(s:Int)(l:LI):(lM s l).length=l.length+10:=by simp[lM,dB];omega
def Bl(s:Int)(l:LI):(Cu s l).length=l.length+14:=by rw[Cu,uR,kc]
def jF(s:Int)(l:LI):(iR s l).length=l.length+16:=by simp[iR,dB,l9];omega
def xO(s:Int)(l:LI):(iA s l).length=l.length+20:=by rw[iA,uR,jF]
def tZ(h:aM l):aM (lM s l):=((Fk _ _).append (Fk _ _)).append h
def Na(h:aM l):aM (Cu s l):=Ya (tZ h)
def r9(h:aM l):aM (iR s l):=by
 refine aM.append (aM.append (aM.append ?_ (Fk _ _)) (Fk _ _)) h;intro z hz;simp[Ax]at hz;omega
def II(h:aM l):aM (iA s l):=Ya (r9 h)
def yT(w:World)(C:Array Value)(e:TypeId)(fr:Nat×Nat)(i:Nat):(w.alloc (.cells C e fr)).cell? ⟨w.heap.size,i,none⟩=C[i]?:=by
 have h:(w.alloc (.cells C e fr)).heap[w.heap.size]?=some (.cells C e fr):=by show(w.heap.push (.cells C e fr))[w.heap.size]?=_;simp
 unfold World.cell?;rw[h]
 rfl
theorem Ov{c n:Nat}(en:Hid (l.length=n)){w:World}(h:Rd w (.S p n c) l)(hb:aM l)(hl:n<=2000000)(s0:0<=s)(s1:s<18446744073709551616):Cp 100 #[.U s,.S p n c] w fun e w'=>∃p' c',e=.returned (.S p' (n+20) c')/\Own w.heap.size w' (.S p' (n+20) c') (iA s l)/\Bw w w':=by
 go_enter func100,ntmps100;go_wp2_with fail;refine(kr (n:=4) (v:=n) ae ae ae).mono ?_;rintro e w1⟨p1,c1,rfl,o1,aA⟩;have hcv:=Lib.run_convert_bytes_const (P:=prog) w1 22 5 #[.int .u8 76,.int .u8 72,.int .u8 83,.int .u8 49] 4 4 underlying22 underlying5;simp only[show(#[Value.int .u8 76,.int .u8 72,.int .u8 83,.int .u8 49]:Array Value).size=4 from rfl]at hcv;have r0:Rd (w1.alloc (.cells #[.int .u8 76,.int .u8 72,.int .u8 83,.int .u8 49] 5 (4,5))) (.T w1.heap.size 4 4) Ax:=by
  refine⟨_,_,rfl,.inr ⟨w1.heap.size,0,rfl,fun i hi=>?_⟩⟩;rw[l9]at hi
  match i,hi with
  |0,_=>(rw[lu,yT];rfl)
  |1,_=>(rw[lu,yT];rfl)
  |2,_=>(rw[lu,yT];rfl)
  |3,_=>(rw[lu,yT];rfl)
 have HR:=af r0;have bA:Bw w1 (w1.alloc (.cells #[.int .u8 76,.int .u8 72,.int .u8 83,.int .u8 49] 5 (4,5))):=ay.alloc ao _;have b0:=aj aA bA;clear r0;go_wp2_with fail;refine(kr (n:=8) (v:=s) ae s0 s1).mono ?_;rintro e w2⟨p2,c2,rfl,o2,aF⟩;have b2:=aj b0 aF;have rm:=HR.below aF;have rb:=h.below b2;have r1:=(o1.rd.below bA).below aF;have r2:=o2.rd;have HB:=af hb;have enn:=aa en;clear aA o1 bA b0 aF o2 h hb HR;go_wp2_with fail;refine(fM (g:=w2.heap.size) (vs:=[.T w1.heap.size 4 4,.S p2 8 c2,.S p1 4 c1,.S p n c]) [Ax,le s 8,le n 4,l] (lm:=iR s l) (n:=n+16) 4 rfl (by show _=_;rw[cr3,iR,aa en]) (by show _=_;rw[jF,aa en]) (aN1 ai ai ai ai (rm.below (ay.alloc ao _)) (r2.below (ay.alloc ao _)) (r1.below (ay.alloc ao _)) (rb.below (ay.alloc ao _))) ae ae).mono ?_;rintro e w3⟨p3,c3,rfl,o3,bf⟩;have b3:=aj (b2.alloc b2.size _) bf;have r3:=o3.rd;clear b2 bf o3 rm r2 r1 rb;go_wp2_with fail;refine(DI (p:=p3) (c:=c3) (n:=n+16) (l:=iR s l) (by show _=_;rw[jF,aa en]) r3 (r9 (aa HB)) ae).mono ?_;rintro e w4⟨p4,c4,rfl,o4,fk⟩;have b4:=aj b3 fk;have o5:Own w.heap.size w4 (.S p4 (n+20) c4) (iA s l):=Own.mono o4 b3.size;clear b3 fk o4 r3;go_wp2;go_ret;exact⟨p4,c4,rfl,o5,b4⟩
def MQ{c n:Nat}(en:Hid (l.length=n)){w:World}(h:Rd w (.S p n c) l)(hb:aM l)(hl:n<=2000000)(s0:0<=s)(s1:s<18446744073709551616):Cp 41 #[.U s,.S p n c] w fun e w'=>∃p' c',e=.returned (.S p' (n+20) c')/\Own w.heap.size w' (.S p' (n+20) c') (iA s l)/\Bw w w':=by
 have enn:=aa en;have HH:=af h;clear h;have r0:Own w.heap.size (w.alloc (.cells #[.int .u8 76,.int .u8 72,.int .u8 83,.int .u8 49] 5)) (.T w.heap.size 4 4) Ax:=
  World.ownsRow_lit w #[.int .u8 76,.int .u8 72,.int .u8 83,.int .u8 49] 4 ao ic rfl
 have HR:=af r0;clear r0;go_enter func41,ntmps41;go_wp2_with fail;refine(oy 8 s _ ae s0 s1).mono ?_;rintro e w1⟨p1,c1,rfl,o1,aA⟩;have b1:Bw w w1:=aj (ay.alloc ao _) aA;have q1:=Own.below HR aA;have r1:=o1.rd;have z1:=b1.size;have el1:(Ax++le s 8).length=12:=by simp[dB,l9]
 clear HR o1 aA;go_wp2_with(at_builtin;refine bS rfl rfl (B:=w.heap.size) (.T w.heap.size 4 4) (l:=Ax) (m:=le s 8) (lm:=Ax++le s 8) bq p1 c1 8 (by show _=_;exact dB _ _) rfl rfl q1 r1 (by rw[dB,l9];omega) z1 ?_);intro p2 c2 w2 o2 ga;have b2:=dt b1 ga q1 ao z1;have z2:=b2.size;clear b1 ga q1 r1
 try rw[el1]at o2⊢
 go_wp2_with fail;refine(oy 4 n _ ae ae ae).mono ?_;rintro e w3⟨p3,c3,rfl,o3,bf⟩;have b3:=aj b2 bf;have q3:=Own.below o2 bf;have r3:=o3.rd;have z3:=b3.size;have el3:(Ax++le s 8++le n 4).length=16:=by simp[dB,l9]
 clear b2 bf o2 o3;go_wp2_with(at_builtin;refine bS rfl rfl (B:=w.heap.size) (.S p2 12 c2) (l:=Ax++le s 8) (m:=le n 4) (lm:=Ax++le s 8++le n 4) bq p3 c3 4 (by show _=_;exact dB _ _) rfl rfl q3 r3 (by rw[dB,el1];omega) z3 ?_);intro p4 c4 w4 o4 sS;have b4:=dt b3 sS q3 ao z3;have z4:=b4.size;have r4:Rd w4 (.S p n c) l:=HH.below b4;have el4:(iR s l).length=n+16:=by rw[jF,aa en]
 clear b3 sS q3 r3
 try rw[el3]at o4⊢
 go_wp2_with(at_builtin;refine bS rfl rfl (B:=w.heap.size) (.S p4 16 c4) (l:=Ax++le s 8++le n 4) (m:=l) (lm:=iR s l) (by show _=_;rw[iR,aa en]) p c n en rfl rfl o4 r4 (by rw[el3];omega) z4 ?_);intro p5 c5 w5 o5 ra;have b5:=dt b4 ra o4 ao z4;have HB:=af hb;clear b4 ra o4 r4 hb
 try rw[el4]at o5⊢
 go_wp2_with fail;refine(DT (p:=p5) (c:=c5) (n:=n+16) (l:=iR s l) (by show _=_;exact el4) o5.rd (r9 HB) ae).mono ?_;rintro e w6⟨p6,c6,rfl,o6,jX⟩;have b6:=aj b5 jX;have o7:Own w.heap.size w6 (.S p6 (n+20) c6) (iA s l):=Own.mono o6 b5.size;clear b5 jX o6 o5;go_wp2;go_ret;exact⟨p6,c6,rfl,o7,b6⟩
def sub(l:LI)(i j:Nat):LI:=(l.take j).drop i
def dF{i j:Nat}(hj:j<=l.length):(sub l i j).length=j-i:=by simp[sub];omega
def aM.sub(h:aM l)(i j:Nat):aM (sub l i j):=fun z hz=>h z (Jh (Un hz))
theorem Yv{w:World}(c0:w.cell? ⟨g,0,none⟩=some v0)(r0:Rd w v0 l0):mU w g [v0] [l0]:=by
 refine⟨rfl,fun j v x e1 e2=>?_⟩
 match j,e1,e2 with
 |0,e1,e2=>simp at e1 e2;subst e1 e2;exact⟨c0,r0⟩
def U9(w:World)(S:Int)(R:LI)(N:Nat)(code:Int)(e:Ending)(w':World):Prop:=
 ∃p c,e=.returned (.tuple #[.U S,.S p N c,.I code])/\Own w.heap.size w' (.S p N c) R/\Bw w w'
def qB(w:World)(l:LI)(n:Nat)(e:Ending)(w':World):Prop:=
 if iA (num (sub l 4 12)) (sub l 16 (n-4))=l then U9 w (num (sub l 4 12)) (sub l 16 (n-4)) (n-20) 0 e w' else U9 w 0 [] 0 13 e w'
def Hs{c n:Nat}{w:World}(hn:n<20):Cp 58 #[.S p n c] w (U9 w 0 [] 0 13):=by
 have hn':(n:Int)<20:=ae;go_enter func58,ntmps58;go_wp2;refine fL (v:=.tuple #[.U 0,.S none 0 0,.I 13]) (by simp[results,results58,go_sem]) rfl ⟨none,0,rfl,World.ownsRow_nil _ _ _ _,cW _ _⟩
def Hc{c n:Nat}{w:World}(hn:n<20):Cp 15 #[.S p n c] w (U9 w 0 [] 0 13):=by
 have hn':(n:Int)<20:=ae;go_enter func15,ntmps15;go_wp2;refine fL (v:=.tuple #[.U 0,.S none 0 0,.I 13]) (by simp[results,results15,go_sem]) rfl ⟨none,0,rfl,World.ownsRow_nil _ _ _ _,cW _ _⟩
def at1{b o c n:Nat}(en:Hid (l.length=n)){w:World}(h:Rd w (.S (some ⟨b,o,none⟩) n c) l)(hb:aM l)(hn:20<=n)(hm:n<=1048576)(hc:n<=c)(Dy:c<=maxLen):Cp 58 #[.S (some ⟨b,o,none⟩) n c] w (qB w l n):=by
 have hn':¬(n:Int)<20:=ae;obtain⟨k,ek⟩:∃k:Nat,(n:Int)-4=(k:Int):=⟨n-4,ae⟩;have g1:=iE n c;have g2:=dw 12 c;have g3:=iE k c;have g4:=dw 16 k;have g5:c≠4:=ae;have g6:c≠16:=ae;have enn:=aa en;have vL:n=k+4:=ae;have MJ:(sub l 4 12).length=8:=dF ae;have MI:(sub l 16 k).length=k-16:=dF ae;have r1:∀(d:Nat)(w':World),Bw w w'->Rd w' (.S (some ⟨b,o+4,none⟩) 8 d) (sub l 4 12):=fun d w' bL=>(h.below bL).cut 4 12 ae ae _ (.inr rfl) d _ rfl;have r2:∀(d:Nat)(w':World),Bw w w'->Rd w' (.S (some ⟨b,o+16,none⟩) (k-16) d) (sub l 16 k):=fun d w' bL=>(h.below bL).cut 16 k ae ae _ (.inr rfl) d _ rfl;obtain⟨s0,s1⟩:=ki (hb.sub 4 12) ae;have HB:=af hb;have H1:=af MJ;have H2:=af MI;have HK:=af vL;have Cr:=af r1;have U8:=af r2;have HH:=af h;have eb:iA (num (sub l 4 12)) (sub l 16 (n-4))=iA (num (sub l 4 12)) (sub l 16 k):=by rw[vL];rfl
 have HE:=af eb;clear hb MJ MI r1 r2 h enn vL eb;go_enter func58,ntmps58;go_wp2_with fail;refine(kh (l:=sub l 4 12) (n:=8) H1 (aa Cr _ _ ay) (HB.sub 4 12) ae ae).mono ?_;rintro e w1⟨rfl,b1⟩;go_wp2_with fail;refine(Ov (s:=num (sub l 4 12)) (n:=k-16) (l:=sub l 16 k) H2 (aa U8 _ _ b1) (HB.sub 16 k) ae s0 s1).mono ?_;rintro e w2⟨p2,c2,rfl,o2,aF⟩;have b2:=aj b1 aF;clear b1 aF;go_wp2_with fail;refine(ja (k:=n) (l:=iA (num (sub l 4 12)) (sub l 16 k)) (m:=l) (by show _=_;rw[xO,aa H2]) en o2.rd (HH.below b2) (II (HB.sub 16 k)) (aa HB)).mono ?_;rintro e w3⟨rfl,bf⟩;have b3:=aj b2 bf;clear b2 bf o2;by_cases hq:iA (num (sub l 4 12)) (sub l 16 k)=l;{
 have hd:decide (iA (num (sub l 4 12)) (sub l 16 k)=l)=true:=by simp[hq]
 rw[hd];have HQ:=af hq;clear hq hd;go_wp2_with fail;refine(fM (g:=w3.heap.size) (vs:=[.S (some ⟨b,o+16,none⟩) (k-16) (c-16)]) [sub l 16 k] (lm:=sub l 16 k) (n:=k-16) 1 rfl (by show _=_;rw[UW]) H2 (Yv ai ((aa U8 _ _ b3).below (ay.alloc ao _))) ae ae).mono ?_;rintro e w4⟨p4,c4,rfl,o4,fk⟩;have b4:=aj (b3.alloc b3.size _) fk;have o5:Own w.heap.size w4 (.S p4 (k-16) c4) (sub l 16 k):=Own.mono o4 (by have:=b3.size;simp;omega);clear b3 fk o4;go_wp2;refine fL (v:=.tuple #[.U (num (sub l 4 12)),.S p4 (k-16) c4,.I 0]) (by simp[results,results58,go_sem]) rfl ?_;unfold qB;rw[aa HE,bN (aa HQ)];have e1:n-20=k-16:=by have:=aa HK;omega
 have e2:n-4=k:=by have:=aa HK;omega
 rw[e1,e2];exact⟨p4,c4,rfl,o5,b4⟩};{
 have hd:decide (iA (num (sub l 4 12)) (sub l 16 k)=l)=false:=by simp[hq]
 rw[hd];have HQ:=af hq;clear hq hd;go_wp2;refine fL (v:=.tuple #[.U 0,.S none 0 0,.I 13]) (by simp[results,results58,go_sem]) rfl ?_;unfold qB;rw[aa HE,bH (aa HQ)];exact⟨none,0,rfl,World.ownsRow_nil _ _ _ _,b3⟩}
theorem Vm{b o c n:Nat}(en:Hid (l.length=n)){w:World}(h:Rd w (.S (some ⟨b,o,none⟩) n c) l)(hb:aM l)(hn:20<=n)(hm:n<=1048576)(hc:n<=c)(Dy:c<=maxLen):Cp 15 #[.S (some ⟨b,o,none⟩) n c] w (qB w l n):=by
 have hn':¬(n:Int)<20:=ae;obtain⟨k,ek⟩:∃k:Nat,(n:Int)-4=(k:Int):=⟨n-4,ae⟩;have g1:=iE n c;have g2:=dw 12 c;have g3:=iE k c;have g4:=dw 16 k;have g5:c≠4:=ae;have g6:c≠16:=ae;have enn:=aa en;have vL:n=k+4:=ae;have MJ:(sub l 4 12).length=8:=dF ae;have MI:(sub l 16 k).length=k-16:=dF ae;have r1:∀(d:Nat)(w':World),Bw w w'->Rd w' (.S (some ⟨b,o+4,none⟩) 8 d) (sub l 4 12):=fun d w' bL=>(h.below bL).cut 4 12 ae ae _ (.inr rfl) d _ rfl;have r2:∀(d:Nat)(w':World),Bw w w'->Rd w' (.S (some ⟨b,o+16,none⟩) (k-16) d) (sub l 16 k):=fun d w' bL=>(h.below bL).cut 16 k ae ae _ (.inr rfl) d _ rfl;obtain⟨s0,s1⟩:=ki (hb.sub 4 12) ae;have HB:=af hb;have H1:=af MJ;have H2:=af MI;have HK:=af vL;have Cr:=af r1;have U8:=af r2;have HH:=af h;have eb:iA (num (sub l 4 12)) (sub l 16 (n-4))=iA (num (sub l 4 12)) (sub l 16 k):=by rw[vL];rfl
 have HE:=af eb;clear hb MJ MI r1 r2 h enn vL eb;go_enter func15,ntmps15;go_wp2_with fail;refine(sy (sub l 4 12) _ _ 8 H1 _ (aa Cr _ _ ay) (HB.sub 4 12) ae ae ae).mono ?_;rintro e w1⟨rfl,b1⟩;go_wp2_with fail;refine(iV H2 (aa U8 _ _ b1) ae).mono ?_;rintro e w2⟨p2,c2,rfl,o2,aF⟩;have b2:=aj b1 aF;have z2:=b1.size;clear b1 aF;go_wp2_with fail;have xB:∀(vs:Array Value)(w:World),(callFunc 41 vs).run prog w=.ok (.enter 41 vs) w:=fun vs w=>bg;have u2:=dK en (HH.below b2);have u2d:=dK en (HH.below b2.drew);have r2d:Rd w2.drew (.S p2 (k-16) c2) (sub l 16 k):=o2.rd.below ay.drew;have HC:=af (qx (II (s:=num (sub l 4 12)) (HB.sub 16 k)) HB)
 go_region_law(first
  |(refine jI aH aH aH aH (fun _=>xB _ _) (MQ H2 r2d (HB.sub 16 k) ae s0 s1) ?_;rintro e w3⟨p3,c3,rfl,o3,yM⟩;refine⟨_,rfl,?_⟩;have bf:Below w2.heap.size w2 w3:=aj (cW w2.heap.size w2).drew yM;have u3:=dK (aa en) (HH.below (aj b2 bf));have e1:=dK (l:=iA (num (sub l 4 12)) (sub l 16 k)) (by rw[xO,aa H2]) o3.rd))
 all_goals
  have b3:=aj b2 bf;have q3:Own w.heap.size w3 (.S p2 (k-16) c2) (sub l 16 k):=Own.mono (Own.below o2 bf) z2;clear b2 bf yM o2 o3 z2 u2 u2d r2d;go_wp2;{
 rename_i hd
 have hq:¬iA (num (sub l 4 12)) (sub l 16 k)=l:=by intro e;rw[aa HC,Aq e]at hd;cases hd
 refine fL (v:=.tuple #[.U 0,.S none 0 0,.I 13]) (by simp[results,results15,go_sem]) rfl ?_;unfold qB;rw[aa HE,bH hq];exact⟨none,0,rfl,World.ownsRow_nil _ _ _ _,b3⟩};{
 rename_i hd
 have hq:iA (num (sub l 4 12)) (sub l 16 k)=l:=by by_cases e:iA (num (sub l 4 12)) (sub l 16 k)=l;{exact e};{rw[aa HC,tg e]at hd;cases hd}
 refine fL (v:=.tuple #[.U (num (sub l 4 12)),.S p2 (k-16) c2,.I 0]) (by simp[results,results15,go_sem]) rfl ?_;unfold qB;rw[aa HE,bN hq];have e1:n-20=k-16:=by have:=aa HK;omega
 have e2:n-4=k:=by have:=aa HK;omega
 rw[e1,e2];exact⟨p2,c2,rfl,q3,b3⟩}
def CM{c n:Nat}{w:World}(hl:1000<n):Cp 150 #[xZ s (.S p n c)] w fun e w'=>e=.returned (.S none 0 0)/\Bw w w':=by
 have Dx:=pW 1000 n;go_enter func150,ntmps150;go_wp2;go_ret;exact⟨rfl,ay.alloc ao _⟩
theorem Ru{c n:Nat}(en:Hid (l.length=n)){w:World}(h:Rd w (.S p n c) l)(hb:aM l)(hl:n<=1000)(s0:0<=s)(s1:s<18446744073709551616):Cp 150 #[xZ s (.S p n c)] w fun e w'=>∃p' c',e=.returned (.S p' (n+14) c')/\Own w.heap.size w' (.S p' (n+14) c') (Cu s l)/\Bw w w':=by
 have Dx:¬(1000:Int)<(n:Int):=ae;go_enter func150,ntmps150;go_wp2_with fail;obtain⟨W,hW⟩:=au (w.alloc (.cells #[.U s,.S p n c] 54));have bW:=dO hW;have k0:W.cell? ⟨w.heap.size,0,none⟩=some (.U s):=by rw[hW];simp
 have k1:W.cell? ⟨w.heap.size,1,none⟩=some (.S p n c):=by rw[hW];simp
 rw[<-hW];clear hW;refine(kr (n:=2) (v:=n) ae ae ae).mono ?_;rintro e w1⟨p1,c1,rfl,o1,aA⟩;have b1:=aj bW aA;have j0:=ag k0 aA;have j1:=ag k1 aA;have r0:=h.below b1;have r1:=o1.rd;have enn:=aa en;have HB:=af hb;clear h aA bW k0 k1 o1 hb;go_wp2_with fail
 go_region_held3 (fun w'=>w'.cell? ⟨w.heap.size,0,none⟩=some (.U s)/\w'.cell? ⟨w.heap.size,1,none⟩=some (.S p n c)) (first|with_reducible exact⟨j0,j1⟩|with_reducible exact⟨i0,i1⟩|with_reducible exact⟨g0,g1⟩|with_reducible exact⟨f0,f1⟩|go_keep)
  (first
   |(go_at_call 138;refine(kr (n:=8) (v:=s) ae s0 s1).mono ?_;rintro e w2⟨p2,c2,rfl,o2,aF⟩;have b2:Below w1.heap.size w1 w2:=(by first|exact aF|exact aj (cW w1.heap.size w1).drew aF);have i0:=ag j0 b2;have i1:=ag j1 b2)
   |(go_at_call 62;refine(fM (g:=w2.heap.size) (vs:=[.slice p1 2 c1,.slice p2 8 c2,.slice p n c]) [le n 2,le s 8,l] (lm:=lM s l) (n:=n+10) 3 rfl (by show _=_;rw[cr4,lM,aa en]) (by show _=_;rw[kc,aa en]) (aN2 ai ai ai ((r1.below b2).below (ay.alloc ao _)) (o2.rd.below (ay.alloc ao _)) ((r0.below b2).below (ay.alloc ao _))) ae ae).mono ?_;rintro e w3⟨p3,c3,rfl,o3,bf⟩;have b3:=aj (ay.alloc (jS w2.heap.size) _) bf;have g0:=ag i0 b3;have g1:=ag i1 b3)
   |(go_at_call 139;refine(DI (p:=p3) (c:=c3) (n:=n+10) (l:=lM s l) (by show _=_;rw[kc,aa en]) (by exact o3.rd) (tZ (aa HB)) ae).mono ?_;rintro e w4⟨p4,c4,rfl,o4,fk⟩;have f0:=ag g0 fk;have f1:=ag g1 fk))
 have b4:=aj (aj (aj b1 b2) b3) fk;have o5:Own w.heap.size w4 (.S p4 (n+14) c4) (Cu s l):=Own.mono o4 (by have:=(aj (aj b1 b2) b3).size;omega);clear b1 b2 b3 fk bf aF o4 o3 o2 r0 r1 j0 j1 i0 i1 g0 g1;go_wp2;go_ret;exact⟨p4,c4,rfl,o5,b4⟩
def QP{c n:Nat}(en:Hid (l.length=n)){w:World}(h:Rd w (.S p n c) l)(hb:aM l)(hl:n<=1000)(s0:0<=s)(s1:s<18446744073709551616):Cp 48 #[xZ s (.S p n c)] w fun e w'=>∃p' c',e=.returned (.S p' (n+14) c')/\Own w.heap.size w' (.S p' (n+14) c') (Cu s l)/\Bw w w':=by
 have Dx:¬(1000:Int)<(n:Int):=ae;go_enter func48,ntmps48;go_wp2_with fail;obtain⟨W,hW⟩:=au (w.alloc (.cells #[.U s,.S p n c] 54));have bW:=dO hW;have k0:W.cell? ⟨w.heap.size,0,none⟩=some (.U s):=by rw[hW];simp
 have k1:W.cell? ⟨w.heap.size,1,none⟩=some (.S p n c):=by rw[hW];simp
 have zW:w.heap.size<W.heap.size:=by rw[hW];simp
 rw[<-hW];clear hW;refine(oy 2 n _ ae ae ae).mono ?_;rintro e w1⟨p1,c1,rfl,o1,aA⟩;have b1:=aj bW aA;have j0:=ag k0 aA;have j1:=ag k1 aA;have r0:=h.below b1;have enn:=aa en;have HB:=af hb;have HH:=af h;have z1:=aA.size;clear h aA bW k0 k1 hb;go_wp2_with fail;refine(oy 8 s _ ae s0 s1).mono ?_;rintro e w2⟨p2,c2,rfl,o2,aF⟩;have b2:=aj b1 aF;have i0:=ag j0 aF;have i1:=ag j1 aF;have r2:=r0.below aF;have Vx:=Own.below o1 aF;have ro2:=o2.rd;have z2:=aF.size;have el:(le (↑n) 2++le s 8).length=10:=by simp[dB]
 clear aF b1 j0 j1 r0 o1 o2;go_wp2_with(at_builtin;refine bS rfl rfl (.S p1 2 c1) (lm:=le n 2++le s 8) bq p2 c2 8 (by show _=_;exact dB _ _) rfl rfl Vx ro2 (by rw[dB,dB];omega) ae ?_);intro p3 c3 w3 o3 tz;have b3:=dt b2 tz Vx ae ae;have g0:=(cW W.heap.size w2).grown tz ae (fun k e=>(Vx.lt k e).1);have f0:=(g0.cell (p:=⟨w.heap.size,0,none⟩) zW).trans i0;have f1:=(g0.cell (p:=⟨w.heap.size,1,none⟩) zW).trans i1;have r3:Rd w3 (.S p n c) l:=HH.below b3;have z3:=g0.size;clear b2 tz Vx ro2 i0 i1 r2 g0;have el2:(lM s l).length=n+10:=by rw[kc,aa en]
 go_wp2_with(at_builtin;refine bS rfl rfl (.S p3 10 c3) (lm:=lM s l) (by show _=_;rw[lM,aa en]) p c n en rfl rfl o3 r3 (by rw[el];omega) ae ?_);intro p4 c4 w4 o4 sS;have b4:=dt b3 sS o3 ae ae;have z4:=sS.size;clear b3 sS r3 f0 f1 o3;go_wp2_with fail;refine(DT (by show _=_;exact el2) o4.rd (tZ HB) ae).mono ?_;rintro e w5⟨p5,c5,rfl,o5,dS⟩;have b5:=aj b4 dS;have o6:Own w.heap.size w5 (.S p5 (n+14) c5) (Cu s l):=Own.mono o5 ae;clear b4 dS o5 o4;go_wp2;go_ret;exact⟨p5,c5,rfl,o6,b5⟩
abbrev R1:=Int×LI
def jy:List R1->List Value->List Value
 |r::rs,v::vs=>.int .u64 r.1::v::jy rs vs
 |_,_=>[]
theorem mW:∀(rs:List R1)(vs:List Value)(i:Nat)(r:R1)(v:Value),rs[i]?=some r->vs[i]?=some v->(jy rs vs)[2*i]?=some (.U r.1)/\(jy rs vs)[2*i+1]?=some v
 |[],vs,i,r,v,h,_=>by simp at h
 |r'::rs,[],i,r,v,_,h=>by simp at h
 |r'::rs,v'::vs,0,r,v,h1,h2=>by simp at h1 h2;subst h1 h2;simp[jy]
 |r'::rs,v'::vs,i+1,r,v,h1,h2=>by have:=mW rs vs i r v (by simpa using h1) (by simpa using h2);rw[show 2*(i+1)=2*i+1+1 by omega];simpa[jy]using this
theorem vw:∀(rs:List R1)(vs:List Value)(r:R1)(v:Value),vs.length=rs.length->jy (rs++[r]) (vs++[v])=jy rs vs++[.U r.1,v]
 |[],[],r,v,_=>rfl
 |[],_::_,r,v,h=>by simp at h
 |_::_,[],r,v,h=>by simp at h
 |r'::rs,v'::vs,r,v,h=>by simp[jy,vw rs vs r v (by simpa using h)]
abbrev GC(u v:Value):Prop:=∀b,u.ownBlock=some b->v.ownBlock≠some b
structure gU(B:Nat)(w:World)(v:Value)(rs:List R1)(vs:List Value):Prop where
 len:vs.length=rs.length
 row:w.ownsRow B 54 2 v rs.length (jy rs vs)
 own:∀(i:Nat)r u,rs[i]?=some r->vs[i]?=some u->Own B w u r.2
 ap:vs.Pairwise GC
def gU.form{w:World}{rs:List R1}(h:gU B w v rs vs):∃p c,v=.S p rs.length c:=by
 rcases h.row.2 with⟨rfl,h0⟩|⟨g,cap,cur,rfl,_⟩;{exact⟨none,0,by rw[h0]⟩};{exact⟨_,_,rfl⟩}
def gU.below{w w':World}{rs:List R1}(h:gU B w v rs vs)(hb:Bw w w'):gU B w' v rs vs:=
 ⟨h.len,h.row.kept (row:=none) ⟨hb.os,hb.tape,hb.output,hb.size,fun k hk _=>hb.block k hk⟩ (by cases hv:v.ownBlock<;>simp),fun i r u h1 h2=>Own.below (h.own i r u h1 h2) hb,h.ap⟩
def gU.mono{w:World}{rs:List R1}(h:gU B w v rs vs)(hB:B'<=B):gU B' w v rs vs:=by
 refine⟨h.len,⟨h.row.1,?_⟩,fun i r u h1 h2=>Own.mono (h.own i r u h1 h2) hB,h.ap⟩;rcases h.row.2 with e|⟨g,cap,cur,rfl,hb,r⟩;{exact .inl e};{exact .inr ⟨g,cap,cur,rfl,ae,r⟩}
def gU.nil(B:Nat)(w:World):gU B w (.S none 0 0) [] []:=⟨rfl,World.ownsRow_nil _ _ _ _,by simp,List.Pairwise.nil⟩
def gU.apart{w:World}{rs:List R1}(h:gU B w v rs vs)(ho:Own B' w u l):GC v u:=by
 intro b e1 e2;rcases h.row.2 with⟨rfl,_⟩|⟨g,cap,cur,rfl,_,hg,_⟩;{simp[Value.ownBlock]at e1};{rcases ho.2 with⟨rfl,_⟩|⟨g',xq,ay2,rfl,_,sU,_⟩;{simp[Value.ownBlock]at e2};{simp[Value.ownBlock]at e1 e2;subst e1 e2;rw[hg]at sU;simp at sU}}
def CK(l:LI):Nat:=(num (sub l 0 2)).toNat
def ke(l:LI):Option R1:=
 if l.length<14+CK l\/1000<CK l then none
 else if Cu (num (sub l 2 10)) (sub l 10 (10+CK l))=sub l 0 (14+CK l)then some (num (sub l 2 10),sub l 10 (10+CK l))else none
def Up(h:aM l):num (sub l 0 2)=(CK l:Int)/\CK l<65536:=by
 have hb:=h.sub 0 2;obtain⟨h0,h1⟩:=Et hb;have hl:(sub l 0 2).length<=2:=by simp[sub];omega
 have h2:(256:Int) ^ (sub l 0 2).length<=65536:=by rcases(by omega:(sub l 0 2).length=0\/(sub l 0 2).length=1\/(sub l 0 2).length=2)with e|e|e<;>rw[e]<;>decide
 unfold CK;omega
def rF(hB:aM l){b:LI}(h:ke l=some (s,b)):b.length+14<=l.length/\b.length<=1000/\CK l=b.length/\s=num (sub l 2 10)/\b=sub l 10 (10+b.length)/\Cu s b=sub l 0 (14+b.length):=by
 unfold ke at h;split at h;{simp at h};{
 split at h;{
 rename_i h1 h2
 simp only[jU,fO]at h;obtain⟨e1,e2⟩:=h;have hl:b.length=CK l:=by rw[<-e2,dF ae];omega
 refine⟨ae,ae,hl.symm,e1.symm,by rw[hl,e2],by rw[hl,<-e1,<-e2];exact h2⟩};{simp at h}}
def bb4(w:World)(b o c:Nat)(l:LI)(e:Ending)(w':World):Prop:=
 Bw w w'/\match ke l with
  |none=>e=.returned (.tuple #[xZ 0 (.slice none 0 0),.int .i64 0])
  |some r=>e=.returned (.tuple #[xZ r.1 (.slice (some ⟨b,o+10,none⟩) r.2.length (c-10)),.int .i64 ((r.2.length+14:Nat):Int)])
def Pl{c n:Nat}{w:World}(hn:n<10):Cp 108 #[.S p n c] w fun e w'=>e=.returned (.tuple #[xZ 0 (.S none 0 0),.I 0])/\Bw w w':=by
 have hn':(n:Int)<10:=ae;go_enter func108,ntmps108;go_wp2;refine fL (v:=.tuple #[xZ 0 (.S none 0 0),.I 0]) (by simp[results,results108,go_sem]) rfl ⟨rfl,ay.alloc ao _⟩
theorem Wl{b o c n:Nat}(en:Hid (l.length=n)){w:World}(h:Rd w (.S (some ⟨b,o,none⟩) n c) l)(hb:aM l)(hn:10<=n)(hm:n<=2097152)(hc:n<=c)(Dy:c<=maxLen):Cp 108 #[.S (some ⟨b,o,none⟩) n c] w (bb4 w b o c l):=by
 have hn':¬(n:Int)<10:=ae;have g1:=iE n c;have g2:=dw 10 c;have g3:=dw 2 c;have g5:c≠2:=ae;have g6:c≠0:=ae;obtain⟨N,eN⟩:=au (CK l);obtain⟨eK,hK⟩:=Up hb;rw[<-eN]at eK hK;have HN:=af eN;clear eN;have enn:=aa en;have MJ:(sub l 0 2).length=2:=dF ae;have r1:∀(d:Nat)(w':World),Bw w w'->Rd w' (.S (some ⟨b,o,none⟩) 2 d) (sub l 0 2):=fun d w' bL=>(h.below bL).cut 0 2 ae ae _ (.inr rfl) d _ rfl;have Cr:=af r1;have H1:=af MJ;have HB:=af hb;have EK:=af eK;clear r1 MJ hb eK;obtain⟨M,eM⟩:∃M:Nat,(10:Int)+(N:Int)=(M:Int):=⟨10+N,ae⟩;obtain⟨Z,eZ⟩:∃Z:Nat,(M:Int)+4=(Z:Int):=⟨M+4,ae⟩;have hZN:Z=14+N:=ae;have hMN:M=10+N:=ae;have HZ:=af (ah hZN hMN);clear hZN hMN;by_cases hs:n<Z;{
 have tv:=aP n Z;go_enter func108,ntmps108;go_wp2_with fail;refine(kh H1 (aa Cr _ _ (by exact ay.alloc ao _)) (HB.sub 0 2) ae ae).mono ?_;rintro e w1⟨rfl,aA⟩;rw[aa EK];have c0:w1.cell? ⟨w.heap.size,0,none⟩=some (.U 0):=ag ai aA;have c1:w1.cell? ⟨w.heap.size,1,none⟩=some (.S none 0 0):=ag ai aA;have f1:∀o,w1.frozen? ⟨w.heap.size,o,none⟩=false:=kJ ai aA ai;have b1:Bw w w1:=aj (ay.alloc ao _) aA;clear aA;go_wp2;refine fL (v:=.tuple #[xZ 0 (.S none 0 0),.I 0]) (by simp[results,results108,go_sem,c0,c1]) rfl ?_;refine⟨?_,?_⟩;{
 repeat(refine Av ?_ ai _)
 exact b1};{
 have e:ke l=none:=by unfold ke;have:=aa HZ;have:=aa HN;rw[bN ae]
 rw[e]}};{
 have tv:=du n Z;have q1:=iE M c;have q2:=iE Z c;have q3:=dw 10 M;have q4:c≠10:=ae;have q5:=dw 0 Z;have MI:(sub l 2 10).length=8:=dF ae;have bi5:(sub l 10 M).length=N:=by rw[dF ae];have:=aa HZ;omega
 have bi4:(sub l 0 Z).length=Z:=by rw[dF ae];omega
 have eMN:M-10=N:=by have:=aa HZ;omega
 have r2:∀(d:Nat)(w':World),Bw w w'->Rd w' (.S (some ⟨b,o+2,none⟩) 8 d) (sub l 2 10):=fun d w' bL=>(h.below bL).cut 2 10 ae ae _ (.inr rfl) d _ rfl;have r3:∀(d:Nat)(w':World),Bw w w'->Rd w' (.S (some ⟨b,o+10,none⟩) (M-10) d) (sub l 10 M):=fun d w' bL=>(h.below bL).cut 10 M ae ae _ (.inr rfl) d _ rfl;have r4:∀(d:Nat)(w':World),Bw w w'->Rd w' (.S (some ⟨b,o,none⟩) Z d) (sub l 0 Z):=fun d w' bL=>(h.below bL).cut 0 Z ae ae _ (.inr rfl) d _ rfl;obtain⟨s0,s1⟩:=ki (HB.sub 2 10) ae;have U8:=af r2;have zI:=af r3;have HR4:=af r4;have H2:=af MI;have H3:=af bi5;have H4:=af bi4;clear r2 r3 r4 MI bi5 bi4;go_enter func108,ntmps108;go_wp2_with fail;refine(kh H1 (aa Cr _ _ (by exact ay.alloc ao _)) (HB.sub 0 2) ae ae).mono ?_;rintro e w1⟨rfl,aA⟩;rw[aa EK];have c0:w1.cell? ⟨w.heap.size,0,none⟩=some (.U 0):=ag ai aA;have c1:w1.cell? ⟨w.heap.size,1,none⟩=some (.S none 0 0):=ag ai aA;have f1:∀o,w1.frozen? ⟨w.heap.size,o,none⟩=false:=kJ ai aA ai;have b1:Bw w w1:=aj (ay.alloc ao _) aA;clear aA;have xB:∀(vs:Array Value)(w:World),(callFunc 98 vs).run prog w=.ok (.enter 98 vs) w:=fun vs w=>bg
 go_upto_region 7 with fail
 go_cut[6](fun rp wc=>∃R,rp=.pointer (some ⟨R,0,none⟩)/\w1.heap.size<=R/\QA wc R (.U (num (sub l 2 10))) (.S (some ⟨b,o+10,none⟩) N (c-10))/\Bw w1 wc)
 case first=>(
 go_region_law(first
  |(refine iq aH aH aH (fun _=>xB _ _) (kh H2 (aa U8 _ _ (by first|exact(b1.alloc b1.size _).drew|exact b1.drew.alloc b1.size _)) (HB.sub 2 10) ae ae) ?_;rintro e w2⟨rfl,aF⟩;refine⟨_,rfl,?_⟩;have m0:w2.cell? ⟨w1.heap.size,0,none⟩=some (.int .u64 0):=ag ai aF;have m1:w2.cell? ⟨w1.heap.size,1,none⟩=some (.slice none 0 0):=ag ai aF;have mf:∀o,w2.frozen? ⟨w1.heap.size,o,none⟩=false:=kJ ai aF ai;have Qj:Below w1.heap.size w1 w2:=aj (by first|exact(ay.alloc ao _).drew|exact ay.drew.alloc ao _) aF)
  |(refine iq aH aH aH (fun _=>xB _ _) (kh H2 (aa U8 _ _ (by exact b1.drew)) (HB.sub 2 10) ae ae) ?_;rintro e w2⟨rfl,aF⟩;refine⟨_,rfl,?_⟩;have Qj:Below w1.heap.size w1 w2:=aj (cW w1.heap.size w1).drew aF))
 {go_wp2_with fail;go_meet;exact⟨w2.heap.size,rfl,Qj.size,by simp[QA],Qj.alloc Qj.size _⟩};{go_wp2_with fail;go_meet;refine⟨w1.heap.size,rfl,jS _,⟨?_,?_⟩,(Qj.setCell ai _).setCell ai _⟩;{simp[go_sem,m0,m1]};{simp[go_sem,m0,m1]}})
 case rest=>(
 obtain⟨R,rfl,hR,A0,Cc⟩:=hcut;have cc0:=ag c0 Cc;have cc1:=ag c1 Cc;have ff:=kJ f1 Cc (pI w1 _ c0);have bc:=aj b1 Cc;have hRw:w.heap.size<R:=kV (pI w1 _ c0) hR;clear c0 c1 f1 Cc b1 Cr xB U8 H1 H2;obtain⟨K,E,eE,bE,hC,vk⟩:∃(K:Nat)(E:LI),E.length=K/\aM E/\(∀w':World,Bw w w'->Cp 150 #[xZ (num (sub l 2 10)) (.S (some ⟨b,o+10,none⟩) N (c-10))] w' fun e w''=>∃p' c',e=.returned (.S p' K c')/\Own w'.heap.size w'' (.S p' K c') E/\Bw w' w'')/\(ke l=if E=sub l 0 Z then some (num (sub l 2 10),sub l 10 M)else none):=by
  obtain⟨iL,ju⟩:=aa HZ;have hN:=aa HN;by_cases Sg:N<=1000;{refine⟨N+14,Cu (num (sub l 2 10)) (sub l 10 M),by rw[Bl,aa H3],Na (HB.sub 10 M),fun w' bL=>?_,?_⟩;{have hr:=aa zI (c-10) w' bL;rw[eMN]at hr;exact Ru H3 hr (HB.sub 10 M) Sg s0 s1};{unfold ke;rw[<-hN,<-ju,<-iL,bH ae]}};{
 refine⟨0,[],rfl,by intro z hz;simp at hz,fun w' bL=>?_,?_⟩;{refine(CM ae).mono ?_;rintro e w''⟨rfl,ci4⟩;exact⟨none,0,rfl,World.ownsRow_nil _ _ _ _,ci4⟩};{
 have cg:¬[]=sub l 0 Z:=by intro e;have:=wF List.length e;rw[aa H4]at this;simp at this;omega
 unfold ke;rw[<-hN,bN ae,bH cg]}}
 have HC:=af hC;have HE:=af (ah eE (ah bE vk));clear hC eE bE vk;go_wp2_with fail
 go_region_held3 (fun w'=>QA w' R (.U (num (sub l 2 10))) (.S (some ⟨b,o+10,none⟩) N (c-10))) (first|exact A0|exact A1|exact A2)
  (first
   |(go_at_call 150;refine(aa HC _ (by exact bc.drew)).mono ?_;rintro e w2⟨p2,c2,rfl,o2,xg⟩;have aF:Below wc.heap.size wc w2:=aj (cW wc.heap.size wc).drew xg;have A1:=A0.below aF)
   |(go_at_call 99;refine(ja HE.1 H4 (by exact o2.rd) (by exact HR4 _ _ (aj bc aF)) HE.2.1 (HB.sub 0 Z)).mono ?_;rintro e w3⟨rfl,bf⟩;have A2:=A1.below bf))
 have ab2:=aj aF bf;have b3:=aj bc ab2;have d0:=ag cc0 ab2;have d1:=ag cc1 ab2;have df:=kJ ff ab2 (pI wc _ cc0);obtain⟨-,-,vk⟩:=aa HE;clear A0 A1 cc0 cc1 ff bc aF xg bf ab2 o2 HC HE zI HR4;by_cases hq:E=sub l 0 Z;{
 rw[bN hq]at vk;have hd:decide (E=sub l 0 Z)=true:=by simp[hq]
 rw[hd];have Tn:=af vk;have HQ:=af hq;obtain⟨A3,A4⟩:=A2;clear hd hq vk;go_wp2;have cg:w.heap.size≠R:=ae;refine fL (v:=.tuple #[xZ (num (sub l 2 10)) (.S (some ⟨b,o+10,none⟩) N (c-10)),.I Z]) (by simp[results,results108,go_sem,d0,d1,A3,A4,cg]) rfl ?_;refine⟨?_,?_⟩;{
 repeat(refine Av ?_ ai _)
 exact b3};{rw[aa Tn];obtain⟨iL,ju⟩:=aa HZ;simp only[aa H3];rw[show N+14=Z by omega]}};{
 rw[bH hq]at vk;have hd:decide (E=sub l 0 Z)=false:=by simp[hq]
 rw[hd];have Tn:=af vk;clear hd hq vk A2;go_wp2;refine fL (v:=.tuple #[xZ 0 (.S none 0 0),.I 0]) (by simp[results,results108,go_sem,d0,d1]) rfl ?_;refine⟨?_,?_⟩;{
 repeat(refine Av ?_ ai _)
 exact b3};{rw[aa Tn]}})}
attribute [local go_sem] Oper.semAt_some
structure It where
 s:Int
 q:OA
 d:Nat
 b:LI
 z:Nat
def Good(w:World)(x:It):Prop:=x.z=0\/(x.z=x.b.length+14/\x.b.length<=1000/\aM x.b/\0<=x.s/\x.s<18446744073709551616/\Rd w (.S x.q x.b.length x.d) x.b)
abbrev Xw(w:World):={x:It // Good w x}
def key(x:It):Option R1:=if x.z=0 then none else some (x.s,x.b)
abbrev Zy{w:World}(x:Xw w):Array Value:=#[xZ x.1.s (.S x.1.q x.1.b.length x.1.d),.I x.1.z]
def yl:Nat->LI->List (Option R1)
 |0,_=>[none]
 |f+1,l=>match ke l with
  |none=>[none]
  |some r=>some r::yl f (l.drop (r.2.length+14))
def JD(h:ke l=none):yl f l=[none]:=by cases f<;>simp[yl,h]
def rY{r:R1}(h:ke l=some r):yl (f+1) l=some r::yl f (l.drop (r.2.length+14)):=by simp[yl,h]
theorem JE(hf:0<f):[ke l] <+: yl f l:=by
 obtain⟨f',rfl⟩:∃f',f=f'+1:=⟨f-1,ae⟩;cases h:ke l with
 |none=>rw[JD h];exact List.prefix_refl _
 |some r=>rw[rY h];exact⟨_,rfl⟩
def Ef(h:l.length<14):ke l=none:=by unfold ke;rw[bN (by omega)]
def aM.drop(h:aM l)(n:Nat):aM (l.drop n):=fun z hz=>h z (Un hz)
theorem FT{w wr:World}{q:OA}{m d:Nat}(em:l.length=m)(hr:Rd w (.S q m d) l)(hb:Bw w wr)(hB:aM l)(hm:m<=2097152)(hd:m<=d)(hdm:d<=maxLen):Cp 108 #[.S q m d] wr fun e w'=>Bw wr w'/\∃x:Xw w,key x.1=ke l/\e=.returned (.tuple (Zy x)):=by
 by_cases h10:m<10;{refine(Pl h10).mono ?_;rintro e w'⟨rfl,bL⟩;refine⟨bL,⟨⟨0,none,0,[],0⟩,.inl rfl⟩,?_,rfl⟩;rw[Ef ae];rfl};{
 obtain⟨b,o,rfl,-,-⟩:=hr.at ae;refine(Wl em (hr.below hb) hB ae hm hd hdm).mono ?_;rintro e w'⟨bL,h⟩;refine⟨bL,?_⟩;cases vk:ke l with
 |none=>
  rw[vk]at h;exact⟨⟨⟨0,none,0,[],0⟩,.inl rfl⟩,rfl,h⟩
 |some r=>
  rw[vk]at h;obtain⟨s,bd⟩:=r;obtain⟨h1,h2,h3,h4,h5,h6⟩:=rF hB vk;obtain⟨s0,s1⟩:=ki (hB.sub 2 10) (by simp[sub];omega);refine⟨⟨⟨s,some ⟨b,o+10,none⟩,d-10,bd,bd.length+14⟩,.inr ⟨rfl,h2,?_,by rw[h4];exact s0,by rw[h4];exact s1,?_⟩⟩,by simp[key],h⟩;{show aM bd;rw[h5];exact hB.sub _ _};{have:=hr.cut 10 (10+bd.length) ae ae (some ⟨b,o+10,none⟩) (.inr rfl) (d-10) bd h5;rw[show 10+bd.length-10=bd.length by omega]at this;exact this}}
def lQ{w w':World}(hb:Bw w w'):w.grownBy w' none:=⟨hb.os,hb.tape,hb.output,hb.size,fun k hk _=>hb.block k hk⟩
def J3{a:OA}{len cap n:Nat}{w:World}:CallsIn Fence.wide n prog 60 #[.S a len cap] w fun e w'=>e=.returned (.func (.func 107) #[] #[.pointer (some ⟨w.heap.size,0,none⟩)])/\w'=w.alloc (.cells #[.S a len cap] 22):=by
 refine callsIn_of_wp func60 rfl jW ?_ rfl;simp only[ntmps60,qR,Nat.reduceAdd,Nat.reduceSub]
 gi_wp2
 go_ret;exact⟨rfl,rfl⟩
set_option maxRecDepth 100000 in
def bm6{n:Nat}(hn:1<=n){L Bs len cap:Nat}{w:World}(hR:Rd w (.S p len cap) l)(hB:aM l)(el:l.length=len)(hlen:len<=1048576)(sG:len<=cap)(Dy:cap<=maxLen)(hp:(p=none/\cap=0)\/∃b o,p=some ⟨b,o,none⟩)(J Jx:List (Xw w)->World->Prop)(hJ:AbidesFrom W.heap.size J)(hY:∀pre x W,J pre W->pre.length<len+2->YieldAt Fence.wide (n-1) prog L (Zy x) W fun e W'=>
   (e=.returned (.bool true)/\J (pre++[x]) W'/\Db w.heap.size Bs W W')\/(e=.returned (.bool false)/\Jx (pre++[x]) W'))(hBs:W.cell? ⟨Bs,0,none⟩=some (.S p len cap))(hbW:Bw w W)(h0:J [] W):CallsIn Fence.wide n prog 107 #[.func (.yield L) #[] #[],.pointer (some ⟨Bs,0,none⟩)] W fun e W'=>(∃v,e=.returned v)∧
   ((∃ys:List (Xw w),(∃pre x,ys=pre++[x]/\x.1.z=0)/\J ys W')\/(∃pre:List (Xw w),(pre.map fun x=>key x.1) <+: yl (len+1) l/\Jx pre W')):=by
 refine callsIn_of_wp func107 rfl jW ?_ rfl;simp only[ntmps107,qR,Nat.reduceAdd,Nat.reduceSub]
 gi_wp2
 gi_loopw [3] (fun i wr=>∃(pre:List (Xw w))(a f:Nat),a<=len/\i=.I a/\f+pre.length=len+1/\pre.length<=a/\(pre.map fun x=>key x.1)++yl f (l.drop a)=yl (len+1) l/\J pre wr/\Db w.heap.size Bs W wr) (fun i _=>len+1-(intOf i).toNat)
 case atStart=>exact⟨[],0,len+1,gq _,rfl,rfl,jS _,rfl,h0,Db.refl _ _ _⟩
 case round=>(
 obtain⟨pre,a,f,Sn,rfl,Ia,BN,gC,hJp,hkp⟩:=hrel;have qO:Bw w wr:=hbW.trans hkp.1;have qi:wr.cell? ⟨Bs,0,none⟩=some (.S p len cap):=hkp.2.trans hBs;have g1:=iE a len;have g2:=iE len cap;have g3:=dw 0 a;clear hbW;rcases hp with⟨rfl,rfl⟩|⟨b,o,rfl⟩;{
 obtain rfl:len=0:=ae;obtain rfl:a=0:=ae;have yI:Rd w (.S (none) (0) (0)) (l.drop 0):=by rw[tf];exact hR
 have HF:=af (FT (by rw[Aw];omega) yI qO (hB.drop _) ae ae ae);have HX:=af (ah gC (ah Ia BN));have HJ:=af hJp;have HK:=af hkp;have HBR:=af (ah hB qO);clear yI gC Ia BN hJp hkp hR hB qO;unfold maxLen at Dy
 gi_wp2_with fail
 refine⟨jW,?_⟩;refine(callsIn_wide.2 HF).mono ?_;rintro e w1⟨aA,⟨x,xz⟩,cL,rfl⟩;obtain⟨gC,Ia,BN⟩:=aa HX;obtain⟨hB,qO⟩:=aa HBR;have Pc:w1.cell? ⟨Bs,0,none⟩=wr.cell? ⟨Bs,0,none⟩:=(ag qi aA).trans qi.symm;have OR:Db w.heap.size Bs W w1:=HK.trans ⟨aA.mono qO.size,Pc⟩;have hJ1:J pre w1:=hJ pre _ _ none HJ (lQ aA) (fun r e=>by cases e);have UI:J pre (w1.alloc (.cells #[.U x.s,.S x.q x.b.length x.d] 54)):=hJ pre _ _ none hJ1 (World.grownBy_alloc _ _ none) (fun r e=>by cases e);have Xa:=(aj qO aA).size;have Pb:=ag (ag qi aA) ((cW w1.heap.size w1).alloc ao (.cells #[.U x.s,.S x.q x.b.length x.d] 54));have OQ:Db w.heap.size Bs W (w1.alloc (.cells #[.U x.s,.S x.q x.b.length x.d] 54)):=OR.trans ⟨ay.alloc Xa _,Pb.trans (ag qi aA).symm⟩;obtain⟨fn,tmps,assign,body,hy,hRd⟩:=hY pre ⟨x,xz⟩ _ UI ae
 try dsimp only at hy
 have hxz:x.z<=1014:=by rcases xz with h|⟨h,h',_⟩<;>omega
 have HM:=af (ah gC (ah Ia (ah BN (ah hB (ah cL xz)))));have H2:=af OQ;clear gC Ia BN hB cL hJ1 UI OR OQ Pc Pb Xa HF HX HJ HK HBR hY aA qO
 gi_wp2
 refine hRd.mono ?_;rintro e W3(⟨rfl,Qo,qZ⟩|⟨rfl,AH⟩);{
 by_cases hz:x.z=0;{
 have Mi:((x.z:Int)==0)=true:=by simp[hz]
 gi_wp2
 refine fL (wD rfl _ _ _) rfl ?_;exact⟨⟨_,rfl⟩,.inl ⟨_,⟨pre,⟨x,xz⟩,rfl,hz⟩,Qo⟩⟩};{
 have Mi:((x.z:Int)==0)=false:=by simp[hz]
 gi_wp2
 go_roundw
 case rel=>(
 obtain⟨gC,Ia,BN,hB,cL,_⟩:=aa HM;have hk:ke (l.drop 0)=some (x.s,x.b):=by rw[<-cL];simp[key,hz]
 obtain⟨r1,r2,_⟩:=rF (hB.drop _) hk;rcases id xz with h|⟨h,_⟩;{exact absurd h hz};{rw[Aw]at r1;refine⟨pre++[⟨x,xz⟩],0+x.z,f-1,ae,by go_num,bj,bj,?_,Qo,H2.trans qZ⟩;obtain⟨f',rfl⟩:∃f',f=f'+1:=⟨f-1,ae⟩;rw[rY hk]at gC;rw[ko,tj,yC,h,<-ND];rw[<-gC];simp[key,hz]})
 case measure=>simp[intOf];omega}}
 {
 gi_wp2
 refine fL (wD rfl _ _ _) rfl ?_;refine⟨⟨_,rfl⟩,.inr ⟨_,?_,AH⟩⟩;obtain⟨gC,Ia,BN,hB,cL,_⟩:=aa HM;rw[ko,<-gC];refine(YN _).2 ?_;simp only[iH,Cx,cL];exact JE ae}};{
 by_cases hq:cap=a;{
 obtain rfl:len=a:=ae;obtain rfl:cap=len:=hq;have yI:Rd w (.S (some ⟨b,o,none⟩) (0) (0)) (l.drop cap):=⟨_,0,by rw[YT ae];rfl,.inl (YT ae)⟩;have HF:=af (FT (by rw[Aw];omega) yI qO (hB.drop _) ae ae ae);have HX:=af (ah gC (ah Ia BN));have HJ:=af hJp;have HK:=af hkp;have HBR:=af (ah hB qO);clear yI gC Ia BN hJp hkp hR hB qO;unfold maxLen at Dy
 gi_wp2_with fail
 refine⟨jW,?_⟩;refine(callsIn_wide.2 HF).mono ?_;rintro e w1⟨aA,⟨x,xz⟩,cL,rfl⟩;obtain⟨gC,Ia,BN⟩:=aa HX;obtain⟨hB,qO⟩:=aa HBR;have Pc:w1.cell? ⟨Bs,0,none⟩=wr.cell? ⟨Bs,0,none⟩:=(ag qi aA).trans qi.symm;have OR:Db w.heap.size Bs W w1:=HK.trans ⟨aA.mono qO.size,Pc⟩;have hJ1:J pre w1:=hJ pre _ _ none HJ (lQ aA) (fun r e=>by cases e);have UI:J pre (w1.alloc (.cells #[.U x.s,.S x.q x.b.length x.d] 54)):=hJ pre _ _ none hJ1 (World.grownBy_alloc _ _ none) (fun r e=>by cases e);have Xa:=(aj qO aA).size;have Pb:=ag (ag qi aA) ((cW w1.heap.size w1).alloc ao (.cells #[.U x.s,.S x.q x.b.length x.d] 54));have OQ:Db w.heap.size Bs W (w1.alloc (.cells #[.U x.s,.S x.q x.b.length x.d] 54)):=OR.trans ⟨ay.alloc Xa _,Pb.trans (ag qi aA).symm⟩;obtain⟨fn,tmps,assign,body,hy,hRd⟩:=hY pre ⟨x,xz⟩ _ UI ae
 try dsimp only at hy
 have hxz:x.z<=1014:=by rcases xz with h|⟨h,h',_⟩<;>omega
 have HM:=af (ah gC (ah Ia (ah BN (ah hB (ah cL xz)))));have H2:=af OQ;clear gC Ia BN hB cL hJ1 UI OR OQ Pc Pb Xa HF HX HJ HK HBR hY aA qO
 gi_wp2
 refine hRd.mono ?_;rintro e W3(⟨rfl,Qo,qZ⟩|⟨rfl,AH⟩);{
 by_cases hz:x.z=0;{
 have Mi:((x.z:Int)==0)=true:=by simp[hz]
 gi_wp2
 refine fL (wD rfl _ _ _) rfl ?_;exact⟨⟨_,rfl⟩,.inl ⟨_,⟨pre,⟨x,xz⟩,rfl,hz⟩,Qo⟩⟩};{
 have Mi:((x.z:Int)==0)=false:=by simp[hz]
 gi_wp2
 go_roundw
 case rel=>(
 obtain⟨gC,Ia,BN,hB,cL,_⟩:=aa HM;have hk:ke (l.drop cap)=some (x.s,x.b):=by rw[<-cL];simp[key,hz]
 obtain⟨r1,r2,_⟩:=rF (hB.drop _) hk;rcases id xz with h|⟨h,_⟩;{exact absurd h hz};{rw[Aw]at r1;refine⟨pre++[⟨x,xz⟩],cap+x.z,f-1,ae,by go_num,bj,bj,?_,Qo,H2.trans qZ⟩;obtain⟨f',rfl⟩:∃f',f=f'+1:=⟨f-1,ae⟩;rw[rY hk]at gC;rw[ko,tj,yC,h,<-ND];rw[<-gC];simp[key,hz]})
 case measure=>simp[intOf];omega}}
 {
 gi_wp2
 refine fL (wD rfl _ _ _) rfl ?_;refine⟨⟨_,rfl⟩,.inr ⟨_,?_,AH⟩⟩;obtain⟨gC,Ia,BN,hB,cL,_⟩:=aa HM;rw[ko,<-gC];refine(YN _).2 ?_;simp only[iH,Cx,cL];exact JE ae}};{
 have uw:cap≠a:=hq;have yI:Rd w (.S (some ⟨b,o+a,none⟩) (len-a) (cap-a)) (l.drop a):=hR.cut a len Sn ae _ (.inr rfl) _ _ (by rw[kq ae]);have HF:=af (FT (by rw[Aw];omega) yI qO (hB.drop _) ae ae ae);have HX:=af (ah gC (ah Ia BN));have HJ:=af hJp;have HK:=af hkp;have HBR:=af (ah hB qO);clear yI gC Ia BN hJp hkp hR hB qO;unfold maxLen at Dy
 gi_wp2_with fail
 refine⟨jW,?_⟩;refine(callsIn_wide.2 HF).mono ?_;rintro e w1⟨aA,⟨x,xz⟩,cL,rfl⟩;obtain⟨gC,Ia,BN⟩:=aa HX;obtain⟨hB,qO⟩:=aa HBR;have Pc:w1.cell? ⟨Bs,0,none⟩=wr.cell? ⟨Bs,0,none⟩:=(ag qi aA).trans qi.symm;have OR:Db w.heap.size Bs W w1:=HK.trans ⟨aA.mono qO.size,Pc⟩;have hJ1:J pre w1:=hJ pre _ _ none HJ (lQ aA) (fun r e=>by cases e);have UI:J pre (w1.alloc (.cells #[.U x.s,.S x.q x.b.length x.d] 54)):=hJ pre _ _ none hJ1 (World.grownBy_alloc _ _ none) (fun r e=>by cases e);have Xa:=(aj qO aA).size;have Pb:=ag (ag qi aA) ((cW w1.heap.size w1).alloc ao (.cells #[.U x.s,.S x.q x.b.length x.d] 54));have OQ:Db w.heap.size Bs W (w1.alloc (.cells #[.U x.s,.S x.q x.b.length x.d] 54)):=OR.trans ⟨ay.alloc Xa _,Pb.trans (ag qi aA).symm⟩;obtain⟨fn,tmps,assign,body,hy,hRd⟩:=hY pre ⟨x,xz⟩ _ UI ae
 try dsimp only at hy
 have hxz:x.z<=1014:=by rcases xz with h|⟨h,h',_⟩<;>omega
 have HM:=af (ah gC (ah Ia (ah BN (ah hB (ah cL xz)))));have H2:=af OQ;clear gC Ia BN hB cL hJ1 UI OR OQ Pc Pb Xa HF HX HJ HK HBR hY aA qO
 gi_wp2
 refine hRd.mono ?_;rintro e W3(⟨rfl,Qo,qZ⟩|⟨rfl,AH⟩);{
 by_cases hz:x.z=0;{
 have Mi:((x.z:Int)==0)=true:=by simp[hz]
 gi_wp2
 refine fL (wD rfl _ _ _) rfl ?_;exact⟨⟨_,rfl⟩,.inl ⟨_,⟨pre,⟨x,xz⟩,rfl,hz⟩,Qo⟩⟩};{
 have Mi:((x.z:Int)==0)=false:=by simp[hz]
 gi_wp2
 go_roundw
 case rel=>(
 obtain⟨gC,Ia,BN,hB,cL,_⟩:=aa HM;have hk:ke (l.drop a)=some (x.s,x.b):=by rw[<-cL];simp[key,hz]
 obtain⟨r1,r2,_⟩:=rF (hB.drop _) hk;rcases id xz with h|⟨h,_⟩;{exact absurd h hz};{rw[Aw]at r1;refine⟨pre++[⟨x,xz⟩],a+x.z,f-1,ae,by go_num,bj,bj,?_,Qo,H2.trans qZ⟩;obtain⟨f',rfl⟩:∃f',f=f'+1:=⟨f-1,ae⟩;rw[rY hk]at gC;rw[ko,tj,yC,h,<-ND];rw[<-gC];simp[key,hz]})
 case measure=>simp[intOf];omega}}
 {
 gi_wp2
 refine fL (wD rfl _ _ _) rfl ?_;refine⟨⟨_,rfl⟩,.inr ⟨_,?_,AH⟩⟩;obtain⟨gC,Ia,BN,hB,cL,_⟩:=aa HM;rw[ko,<-gC];refine(YN _).2 ?_;simp only[iH,Cx,cL];exact JE ae}}})
theorem Kf{l n:Nat}{w:World}{Q:Exit->Act->World->Prop}(hd:∀c,o.op≠.defer c)(h:o.wp P a w K Q):o.wpIn (Fence.wide.inRound l) n P a w K Q:=by
 refine⟨fun _ _=>trivial,?_⟩;have e:o.semAt (Fence.wide.inRound l).round a.eval=execOp a.eval o:=Oper.semAt_eq _ _ _ hd;rw[e];unfold Oper.wp at h;generalize(execOp a.eval o).run P w=r at*;cases r with
 |ok x w'=>
  cases x<;>simp only[Oper.uponIn,Oper.upon]at h⊢
  case value=>exact h
  case skip=>exact h
  case defer=>exact h
  case enter f args=>exact⟨fun h0=>(by cases h0),CallsIn.inRound l (callsIn_wide.2 h)⟩
  case row row args=>exact⟨fun h0=>(by cases h0),fun c cs _=>let⟨v,w2,r,s⟩:=h c cs;⟨v,w2,r,stepsIn_wide.2 s⟩⟩
 |halt x w'=>cases x<;>simp only[Oper.uponIn,Oper.upon]at h⊢<;>exact h
theorem iP{l n:Nat}{md:Region.Mode}{Q:Exit->Act->World->Prop}(hd:∀o∈ops.toList,∀c,o.op≠.defer c)(hl:¬LetsOut Q):∀(fuel:Nat)(listed:Array Bool)(a:Act)(w:World),
  wpAny P md ops Q fuel listed a w->wpAnyIn (Fence.wide.inRound l) n P md ops Q fuel listed a w
 |0,_,_,_,h=>h
 | fuel+1,listed,a,w,h=>by
  refine⟨h.1,fun i hi=>?_⟩;have h1:=h.2 i hi;unfold wpOp at h1;unfold wpOpIn;cases ho:ops[i]? with
  |none=>
   simp only[ho]at h1⊢;exact iP hd hl fuel _ a w h1
  |some o=>
   simp only[ho]at h1⊢;split;{
 rename_i hw
 rw[bN hw]at h1;rcases h1 with h1|⟨_,h1⟩;{exact Oper.wpIn_mono (fun a w h=>iP hd hl fuel _ a w h) (Kf (hd o (by rw[Array.mem_toList_iff];exact Array.mem_of_getElem? ho)) h1)};{exact absurd h1 hl}};{
 rename_i hw
 rw[bH hw]at h1;exact⟨fun _ _=>trivial,iP hd hl fuel _ _ w h1⟩}
def Kj(ops:Array Oper):Bool:=ops.toList.all fun o=>match o.op with| .defer _=>false|_=>true
def yb(h:Kj ops=true):∀o∈ops.toList,∀c,o.op≠.defer c:=by
 intro o ho c e;have:=iT.1 h o ho;rw[e]at this;cases this
def qc{l n:Nat}(S:World->Prop){id:Nat}{Q:Exit->Act->World->Prop}{w:World}(hm:P.follows .mixedOrders=true)(hd:Kj ops=true)(hl:¬LetsOut Q)(hS:S w.drew)(h:S w.drew->wpAnyH P .any ops Q S ops.size (Array.replicate ops.size false) a w.drew):(Code.region id ops true).wpIn (Fence.wide.inRound l) n P Q a w:=
 wpIn_region_any hm (iP (yb hd) hl _ _ _ _ (wpAny_of_held _ _ _ _ (h hS)))
def GH:Option Int->Int->Bool
 |none,_=>true
 |some t,s=>decide (t≠18446744073709551615)&&decide (s=t+1)
def FQ:Option Int->List (Option R1)->List R1
 |_,[]=>[]
 |_,none::_=>[]
 |t,some r::rest=>if GH t r.1 then r::FQ (some r.1) rest else[]
def mc(rs:List R1):Option Int:=rs.getLast?.map (·.1)
def xK:List R1->Nat
 |[]=>0
 |r::rs=>r.2.length+14+xK rs
def vT(a b:List R1):xK (a++b)=xK a+xK b:=by induction a with|nil=>simp[xK]|cons r a ih=>simp[xK,ih];omega
def Fm(rs:List R1)(r:R1):mc (rs++[r])=some r.1:=by simp[mc]
def Cf{w:World}(s0:0<=s)(s1:s<18446744073709551616)(t0:0<=t)(t1:t<18446744073709551616):Calls Tryz.prog 61 #[.U s,.U t] w fun e w'=>e=.returned (.bool (GH (some t) s))/\w'=w:=by
 by_cases h:t=18446744073709551615;{
 have e:GH (some t) s=false:=by simp[GH,h]
 rw[e];have hb:(t != 18446744073709551615)=false:=by simp[h]
 clear e;subst h;go_enter Tryz.func61,Tryz.ntmps61;go_wp2;go_ret;exact⟨rfl,rfl⟩};{
 have e:GH (some t) s=decide (s=t+1):=by simp[GH,h]
 rw[e];have hb:(t != 18446744073709551615)=true:=by simp[h]
 have hw:IntKind.u64.wrap (t+1)=t+1:=u64_wrap_id _ ae ae;by_cases hs:s=t+1;{
 have h2:(s==t+1)=true:=by simp[hs]
 have h3:decide (s=t+1)=true:=by simp[hs]
 rw[h3];clear e h hs h3;go_enter Tryz.func61,Tryz.ntmps61;go_wp2;go_ret;exact⟨rfl,rfl⟩};{
 have h2:(s==t+1)=false:=by simp[hs]
 have h3:decide (s=t+1)=false:=by simp[hs]
 rw[h3];clear e h hs h3;go_enter Tryz.func61,Tryz.ntmps61;go_wp2;go_ret;exact⟨rfl,rfl⟩}}
def Tryz.infoRec:(Tryz.prog.info? 54).map (fun i=>(i.zero,i.size,i.bytes))=some (some (.agg #[.U 0,.S none 0 0]),2,32):=by kernel_rfl
def Jz{w w':World}{v':Value}{rs:List R1}{r:R1}(h:gU B w v rs vs)(hu:Own B w u r.2)(Xo:∀u'∈vs,GC u' u)(h1:w'.ownsRow B 54 2 v' (rs.length+1) (jy rs vs++[.U r.1,u]))(hg:w.grownBy w' v.ownBlock):gU B w' v' (rs++[r]) (vs++[u]):=by
 have kp:∀{x:Value}{m:LI},Own B w x m->Own B w' x m:=fun{x m}hx=>Own.sA (vs:=[v]) hx (Kept.En hg ai) (fun y hy b e1 e2=>by simp only[yx]at hy;subst hy;exact h.apart hx b e2 e1);refine⟨by simp[h.len],?_,?_,?_⟩;{rw[vw rs vs r u h.len,ig];exact h1};{
 intro i r' x hr hx;by_cases hi:i<rs.length;{rw[kT hi]at hr;rw[kT (by rw[h.len];exact hi)]at hx;exact kp (h.own i r' x hr hx)};{
 have Sb:i=rs.length:=by have:=(aT.1 hr).1;simp at this;omega
 subst Sb;rw[mE ao,Au]at hr;rw[mE (by rw[h.len];exact jS _),h.len,Au]at hx;simp at hr hx;subst hr hx;exact kp hu}};{rw[List.pairwise_append];exact⟨h.ap,List.pairwise_singleton _ _,fun a ha b hb=>by simp only[yx]at hb;subst hb;exact Xo a ha⟩}
theorem Nq{w:World}(qL:w.cell? ⟨g,0,none⟩=some (.U s))(iD:w.cell? ⟨g,1,none⟩=some u):∀j x,([Value.U s,u]:List Value)[j]?=some x->w.cell? ((⟨g,0,none⟩:Addr).add j)=some x:=by
 intro j x hj
 match j,hj with
 |0,hj=>simp at hj;subst hj;simpa[Addr.add_lit]using qL
 |1,hj=>simp at hj;subst hj;simpa[Addr.add_lit]using iD
 |j+2,hj=>simp at hj
def JQ{w:World}{Q:Exit->Act->World->Prop}(mr:o.guard=none){s x:Operand}(ho:o.op=.call {callee:=.builtin .append,args:=#[s,x],argTypes:=#[50,50]}){rs:List R1}{n:Nat}(en:Hid (rs.length=n))(hs:a.eval s=v)(hx:a.eval x=.T g 1 1)(h:gU B w v rs vs){r:R1}(qL:w.cell? ⟨g,0,none⟩=some (.U r.1))(iD:w.cell? ⟨g,1,none⟩=some u)(hu:Own B w u r.2)(Xo:∀u'∈vs,GC u' u)(hl:n<=2097152)(hB:B<=w.heap.size)(hK:∀p' c' w',gU B w' (.S p' (n+1) c') (rs++[r]) (vs++[u])->w.grownBy w' v.ownBlock->K (a.put o.dst (.S p' (n+1) c')) w'):if Region.wanted o (yielded ops a.tmps)=true then Oper.wp Tryz.prog o a w K Q else E:=by
 have hw:Region.wanted o (yielded ops a.tmps)=true:=by simp[Region.wanted,mr]
 rw[bN hw];obtain⟨i,hi,nO,iL,ju⟩:=info_parts Tryz.infoRec;have e:=aa en;subst e;obtain⟨pu,cu,eu⟩:=hu.form;refine wp_append_own w s x 50 ho B 54 i _ 2 32 Tryz.underlying50 hi nO iL ju rfl aU v _ _ hs h.row ⟨g,0,none⟩ 1 1 [.U r.1,u] hx rfl (Nq qL iD) ?_ ic ae hB ?_;{
 intro y hy;simp only[jA,I9,Bv]at hy;rcases hy with rfl|rfl;{rfl}
 {rw[eu];rfl}};{intro v' w' h1 h2 _;have hR:=Jz h hu Xo h1 h2;obtain⟨p',c',rfl⟩:=hR.form;have:=hK p' c' w';rw[ig]at hR;exact(by simpa using this hR h2)}
def JP{w:World}{Q:Exit->Act->World->Prop}{R:Ending->World->Prop}(hw:Region.wanted o (yielded ops a.tmps)=true){f:FuncId}{x1 x2:Operand}{Vf:Array TypeId}(ho:o.op=.call {callee:=.value (.func f),args:=#[x1,x2],argTypes:=Vf})(h1:a.eval x1=v1)(h2:a.eval x2=v2)(xB:∀vs,(callFunc f vs).run P w=.ok (.enter f vs) w)(hc:Calls P f #[v1,v2] w R)(hR:∀e w',R e w'->∃v,e=.returned v/\K (a.put o.dst v) w'):if Region.wanted o (yielded ops a.tmps)=true then Oper.wp P o a w K Q else E:=by
 rw[bN hw];have dI:(execOp a.eval o).run P w=.ok (.enter f #[v1,v2]) w:=by subst h1 h2;unfold execOp;simp[go_sem,ho,resolve,invoke,xB]
 show o.upon P a K Q _;rw[dI,Oper.upon_enter];refine hc.mono ?_;intro e w' h;obtain⟨v,rfl,hk⟩:=hR e w' h;exact hk
def gU.lt{w:World}{rs:List R1}(h:gU B w v rs vs):∀u∈vs,∀b,u.ownBlock=some b->b<w.heap.size:=by
 intro u hu b e;obtain⟨i,hi⟩:=wo hu;obtain⟨r,hr⟩:∃r,rs[i]?=some r:=⟨_,aO (by rw[<-h.len];exact(aT.1 hi).1)⟩;exact(Own.lt (h.own i r u hr hi) b e).2
def gU.TG{w:World}{rs:List R1}(h:gU B w v rs vs):∀b,v.ownBlock=some b->B<=b/\b<w.heap.size:=World.ownsRow.lt h.row
def gU.Yl{w:World}{rs:List R1}(h:gU B w v rs vs):∀(j:Nat)(o:Obj),v.ownBlock=some j->w.heap[j]?=some o->o.isCells=true:=by
 intro j o e ho;rcases h.row.2 with⟨rfl,_⟩|⟨g,cap,cur,rfl,_,hg,_⟩;{simp[Value.ownBlock]at e};{
 simp[Value.ownBlock]at e;subst e;rw[hg]at ho;cases ho
 rfl}
def tO{w:World}{rest:List Oper}{Q:Exit->Act->World->Prop}(mr:o.guard=none){s x:Operand}(ho:o.op=.call {callee:=.builtin .append,args:=#[s,x],argTypes:=#[50,50]}){rs:List R1}{n:Nat}(en:Hid (rs.length=n))(g:Nat)(hs:a.eval s=v)(hx:a.eval x=.T g 1 1)(h:gU B w v rs vs){r:R1}(qL:w.cell? ⟨g,0,none⟩=some (.U r.1))(iD:w.cell? ⟨g,1,none⟩=some u)(hu:Own B w u r.2)(Xo:∀u'∈vs,GC u' u)(hl:n<=2097152)(hB:B<=w.heap.size)(hK:∀p' c' w',gU B w' (.S p' (n+1) c') (rs++[r]) (vs++[u])->w.grownBy w' v.ownBlock->wpList Tryz.prog ops Q rest (a.put o.dst (.S p' (n+1) c')) w'):wpList Tryz.prog ops Q (o::rest) a w:=by
 obtain⟨i,hi,nO,iL,ju⟩:=info_parts Tryz.infoRec;have e:=aa en;subst e;obtain⟨pu,cu,eu⟩:=hu.form;refine wpList_append_own w mr s x 50 ho B 54 i _ 2 32 Tryz.underlying50 hi nO iL ju rfl aU v _ _ hs h.row ⟨g,0,none⟩ 1 1 [.U r.1,u] hx rfl (Nq qL iD) ?_ ic ae hB ?_;{
 intro y hy;simp only[jA,I9,Bv]at hy;rcases hy with rfl|rfl;{rfl}
 {rw[eu];rfl}};{intro v' w' h1 h2 _;have hR:=Jz h hu Xo h1 h2;obtain⟨p',c',rfl⟩:=hR.form;have:=hK p' c' w';rw[ig]at hR;exact(by simpa using this hR h2)}
def KeepsOthers.dL(h:Bw W W'):KeepsOthers W W':=⟨h.size,fun k o hk _=>(h.block k (EF.1 hk).1).trans hk⟩
def Own.uq(h:Own B W v l)(hg:W.grownBy W' row)(hr:∀r,row=some r->∃o:Obj,W.heap[r]?=some o/\o.isCells=false):Own B W' v l:=by
 refine World.ownsRow.kept h hg ?_;rcases h.2 with⟨rfl,_⟩|⟨g,cap,cur,rfl,_,hgg,_⟩;{exact .inl rfl};{refine .inr fun e=>?_;obtain⟨o,ho,hc⟩:=hr g e.symm;rw[hgg]at ho;cases ho;cases hc}
def gU.uq{rs:List R1}(h:gU B W v rs vs)(hg:W.grownBy W' row)(hr:∀r,row=some r->∃o:Obj,W.heap[r]?=some o/\o.isCells=false):gU B W' v rs vs:=by
 refine⟨h.len,World.ownsRow.kept h.row hg ?_,fun i r u h1 h2=>Own.uq (h.own i r u h1 h2) hg hr,h.ap⟩;rcases h.row.2 with⟨rfl,_⟩|⟨g,cap,cur,rfl,_,hgg,_⟩;{exact .inl rfl};{refine .inr fun e=>?_;obtain⟨o,ho,hc⟩:=hr g e.symm;rw[hgg]at ho;cases ho;cases hc}
def gU.set{w:World}{rs:List R1}(h:gU B w v rs vs){a:Addr}(ha:a.block<B)(u:Value):gU B (w.setCell a u) v rs vs:=
 ⟨h.len,Ky h.row ha u,fun i r x h1 h2=>Own.set (h.own i r x h1 h2) ha u,h.ap⟩
attribute [local go_sem] Oper.semAt_some
def U0(w:World)(rs:List R1)(e:Ending)(w':World):Prop:=
 ∃p c vs,e=.returned (.tuple #[.S p rs.length c,.I (xK rs:Nat)])/\gU w.heap.size w' (.S p rs.length c) rs vs/\Bw w w'
def rl(l:LI):List R1:=FQ none (yl (l.length+1) l)
abbrev keys{w:World}(pre:List (Xw w)):List (Option R1):=pre.map fun x=>key x.1
def P8(w W:World)(rs:List R1)(v:Value)(vs:List Value):Prop:=
 W.cell? ⟨w.heap.size,0,none⟩=some v/\W.frozen? ⟨w.heap.size,0,none⟩=false/\W.cell? ⟨w.heap.size+1,0,none⟩=some (.I (xK rs:Nat))/\W.frozen? ⟨w.heap.size+1,0,none⟩=false/\gU (w.heap.size+3) W v rs vs
def Inv(w:World)(pre:List (Xw w))(W:World):Prop:=
 ∃rs v vs,P8 w W rs v vs/\(∀rest,FQ none (keys pre++rest)=rs++FQ (mc rs) rest)/\(∀x∈pre,x.1.z≠0)/\rs.length=pre.length/\xK rs<=1014*pre.length/\(∀r∈rs,r.2.length<=1000/\0<=r.1/\r.1<18446744073709551616)
def aA4(w:World)(c:Code)(ys:List (Xw w))(W:World):Prop:=
 c=.exit 0/\∃rs v vs,P8 w W rs v vs/\(∀rest,FQ none (keys ys++rest)=rs)
def P8.uq{w W W':World}{rs:List R1}(h:P8 w W rs v vs)(hg:W.grownBy W' row)(hr:∀r,row=some r->∃o:Obj,W.heap[r]?=some o/\o.isCells=false):P8 w W' rs v vs:=
 ⟨cell_kept h.1 hg hr,(frozen_kept h.1 hg hr).trans h.2.1,cell_kept h.2.2.1 hg hr,(frozen_kept h.2.2.1 hg hr).trans h.2.2.2.1,h.2.2.2.2.uq hg hr⟩
def P8.below{w W W':World}{rs:List R1}(h:P8 w W rs v vs)(hb:Bw W W'):P8 w W' rs v vs:=
 h.uq (row:=none) (lQ hb) (fun r e=>by cases e)
def Inv.own(w:World)(B:Nat):OwnFrom B (Inv w):=by
 rintro s W W' row⟨rs,v,vs,hd,hp⟩hg hr;exact⟨rs,v,vs,hd.uq hg (fun r e=>(hr r e).2),hp⟩
def aA4.own(w:World)(c:Code)(B:Nat):OwnFrom B (aA4 w c):=by
 rintro s W W' row⟨hc,rs,v,vs,hd,hp⟩hg hr;exact⟨hc,rs,v,vs,hd.uq hg (fun r e=>(hr r e).2),hp⟩
def Inv.below{w W W':World}{pre:List (Xw w)}(h:Inv w pre W)(hb:Bw W W'):Inv w pre W':=by
 obtain⟨rs,v,vs,hd,hp⟩:=h;exact⟨rs,v,vs,hd.below hb,hp⟩
def az3{w W V w9:World}{W0s:Nat}{x:It}(xz:Good w x){pre:List (Xw w)}{rs:List R1}{p9:OA}{c9 K:Nat}(z0:W0s=w.heap.size+3)(hz:W0s<=W.heap.size)(KV:KeepsOthers W V)(BV:Bw W V)(hb:Bw w V)(c0:V.cell? ⟨w.heap.size,0,none⟩=some v)(c1:V.frozen? ⟨w.heap.size,0,none⟩=false)(c2:V.cell? ⟨w.heap.size+1,0,none⟩=some (.I (xK rs:Nat)))(c3:V.frozen? ⟨w.heap.size+1,0,none⟩=false)(ho:gU (w.heap.size+3) V v rs vs)(UJ:Below (w.heap.size+3) V w9)(KO9:KeepsOthers V w9)(hR9:gU (w.heap.size+3) w9 (.S p9 (K+1) c9) (rs++[(x.s,x.b)]) (vs++[u]))(eK:Hid (rs.length=K))(HX:Hid (x.z=x.b.length+14/\aM x.b/\key x=some (x.s,x.b)))(HF:Hid ((∀rest,FQ none (keys pre++rest)=rs++FQ (mc rs) rest)/\(∀y∈pre,y.1.z≠0)/\K=pre.length/\xK rs<=1014*pre.length/\(∀r∈rs,r.2.length<=1000/\0<=r.1/\r.1<18446744073709551616)))(ta:Hid (GH (mc rs) x.s=true))(hxl:x.b.length<=1000)(xs0:0<=x.s)(xs1:x.s<18446744073709551616):KeepsFrom W0s W ((w9.setCell ⟨w.heap.size,0,none⟩ (.S p9 (K+1) c9)).setCell ⟨w.heap.size+1,0,none⟩ (.I ((xK rs:Int)+(x.z:Int))))∧
  Db w.heap.size (w.heap.size+2) W ((w9.setCell ⟨w.heap.size,0,none⟩ (.S p9 (K+1) c9)).setCell ⟨w.heap.size+1,0,none⟩ (.I ((xK rs:Int)+(x.z:Int))))∧
  Inv w (pre++[⟨x,xz⟩]) ((w9.setCell ⟨w.heap.size,0,none⟩ (.S p9 (K+1) c9)).setCell ⟨w.heap.size+1,0,none⟩ (.I ((xK rs:Int)+(x.z:Int))))∧
  Bw w ((w9.setCell ⟨w.heap.size,0,none⟩ (.S p9 (K+1) c9)).setCell ⟨w.heap.size+1,0,none⟩ (.I ((xK rs:Int)+(x.z:Int))))/\W0s<=((w9.setCell ⟨w.heap.size,0,none⟩ (.S p9 (K+1) c9)).setCell ⟨w.heap.size+1,0,none⟩ (.I ((xK rs:Int)+(x.z:Int)))).heap.size:=by
 obtain⟨hxz,hxB,hkx⟩:=aa HX;obtain⟨Ib,hnz,hrl,Qe,CQ⟩:=aa HF;have iC:=aa ta;have eK':=aa eK;have hV3:w.heap.size+3<=V.heap.size:=by have:=BV.size;omega
 have q0:=(UJ.cell (p:=⟨w.heap.size,0,none⟩) (by show w.heap.size<_;omega)).trans c0;have q1:=(UJ.frozen (p:=⟨w.heap.size,0,none⟩) (by show w.heap.size<_;omega)).trans c1;have q2:=(UJ.cell (p:=⟨w.heap.size+1,0,none⟩) (by show w.heap.size+1<_;omega)).trans c2;have q3:=(UJ.frozen (p:=⟨w.heap.size+1,0,none⟩) (by show w.heap.size+1<_;omega)).trans c3;have q4:=UJ.cell (p:=⟨w.heap.size+2,0,none⟩) (by show w.heap.size+2<_;omega);have hbW:Below w.heap.size W w9:=(BV.mono ae).trans (UJ.mono ae);have vI:Bw w w9:=hb.trans (UJ.mono ae);refine⟨((KV.trans KO9).trans ((KeepsOthers.setCell _ _ _).trans (KeepsOthers.setCell _ _ _))).from _,⟨(hbW.setCell ao _).setCell ai _,?_⟩,⟨rs++[(x.s,x.b)],.S p9 (K+1) c9,vs++[u],⟨?_,?_,?_,?_,?_⟩,?_,?_,?_,?_,?_⟩,(vI.setCell ao _).setCell ai _,?_⟩;{rw[World.cell?_setCell_far _ _ _ _ ai,World.cell?_setCell_far _ _ _ _ ai,q4];exact World.cell?_of_block (a:=⟨w.heap.size+2,0,none⟩) (BV.block _ (by show w.heap.size+2<_;omega))};{rw[World.cell?_setCell_far _ _ _ _ ai];exact World.cell?_setCell_same' _ _ _ (by rw[q0];rfl)};{rw[CF,CF];exact q1};{
 have:((xK (rs++[(x.s,x.b)]):Nat):Int)=(xK rs:Int)+(x.z:Int):=by rw[vT];simp[xK];omega
 rw[this];refine World.cell?_setCell_same' _ _ _ ?_;rw[World.cell?_setCell_far _ _ _ _ ai,q2];rfl};{rw[CF,CF];exact q3};{exact(hR9.set (by show w.heap.size<_;omega) _).set (by show w.heap.size+1<_;omega) _};{intro rest;simp only[ko,iH,Cx,tj,Kw,Kv];rw[hkx,Ib (some (x.s,x.b)::rest),Fm];simp[FQ,iC]};{intro y hy;rcases gR.1 hy with h|h;{exact hnz y h};{simp at h;subst h;show x.z≠0;omega}};{simp;omega};{rw[vT];simp[xK];omega};{intro r hr;rcases gR.1 hr with h|h;{exact CQ r h};{simp at h;subst h;exact⟨hxl,xs0,xs1⟩}};{show W0s<=_;have:=hbW.size;have:=UJ.size;simp;omega}
def GX{l n:Nat}{Q:Exit->Act->World->Prop}{S:World->Prop}{x:Nat}{id:Nat}{w:World}(hl:¬LetsOut Q)(hS:S w.drew)(h:S w.drew->GY P .any ops Q S x ops.size (Array.replicate ops.size false) a w.drew)(hm:P.follows .mixedOrders=true:=by kernel_rfl)(hd:Kj ops=true:=by kernel_rfl):(Code.region id ops true).wpIn (Fence.wide.inRound l) n P Q a w:=
 wpIn_region_any hm (iP (yb hd) hl _ _ _ _ (JF _ _ _ _ (h hS)))
set_option maxRecDepth 100000 in
def Fw{n:Nat}(hn:3<=n){len cap:Nat}{w:World}(hR:Rd w (.S p len cap) l)(hB:aM l)(el:l.length=len)(hlen:len<=1048576)(sG:len<=cap)(Dy:cap<=maxLen)(hp:(p=none/\cap=0)\/∃b o,p=some ⟨b,o,none⟩):CallsIn Fence.wide n prog 24 #[.S p len cap] w (U0 w (rl l)):=by
 have h1:1<=n:=ae;refine callsIn_of_wp_marks func24 rfl jW ?_ rfl;simp only[ntmps24,qR,Nat.reduceAdd,Nat.reduceSub];refine wpIn_wide.2 ?_;go_wp2_with fail;refine wp_scope_straight ?_;go_wp2_with fail
 go_step3
 go_wp2_with fail;refine(callsIn_wide.1 (J3 (n:=0))).mono ?_;rintro e w1⟨rfl,rfl⟩;go_wp2_with fail;obtain⟨W0,dV⟩:=au (((w.alloc (.cells #[.S none 0 0] 50)).alloc (.cells #[.I 0] 3)).alloc (.cells #[.S p len cap] 22));have z0:W0.heap.size=w.heap.size+3:=by rw[dV];simp
 have k0:W0.cell? ⟨w.heap.size,0,none⟩=some (.S none 0 0):=by rw[dV];simp[go_sem]
 have f0:W0.frozen? ⟨w.heap.size,0,none⟩=false:=by rw[dV];simp[go_sem]
 have k1:W0.cell? ⟨w.heap.size+1,0,none⟩=some (.I 0):=by rw[dV];simp[go_sem]
 have f1:W0.frozen? ⟨w.heap.size+1,0,none⟩=false:=by rw[dV];simp[go_sem]
 have k2:W0.cell? ⟨w.heap.size+2,0,none⟩=some (.S p len cap):=by rw[dV];simp[go_sem]
 have hB0:Bw w W0:=by rw[dV];exact((ay.alloc ao _).alloc ai _).alloc bj _
 rw[<-dV];clear dV;refine(wpIn_wide (n:=n)).1 ?_;refine wpIn_rangeFunc_ownH (F:=Fence.wide) rfl h1 (gf:=107) (lb:=#[.pointer (some ⟨w.heap.size+2,0,none⟩)]) rfl jW (enters_of func107 bg rfl)
  (α:=Xw w) (encs:=Zy) (Kp:=Db w.heap.size (w.heap.size+2)) (S:=fun ys=>∃pre x,ys=pre++[x]/\x.1.z=0) (Sp:=fun pre=>keys pre <+: yl (len+1) l) (N:=len+2) (w0:=W0) ?seq (fun h k=>h.trans k) (Db.put ae ae) ay (fun _=>rfl)
  (fun pre W=>Inv w pre W/\Bw w W/\W0.heap.size<=W.heap.size) (fun c pre W=>aA4 w c pre W/\Bw w W)
  (OwnFrom.and (Inv.own w _) (OwnFrom.and (ownFrom_below ao ae) (fun _ _ _ _ h hg _=>fW h hg.size)))
  (fun c=>OwnFrom.and (aA4.own w c _) (ownFrom_below ao ae))
  ⟨⟨[],_,[],⟨k0,f0,k1,f1,gU.nil _ _⟩,by simp[mc],ai,rfl,by simp[xK],ai⟩,hB0,jS _⟩
  (fun x a' W=>∃R,W0.heap.size<=R/\QA W R (.U x.1.s) (.S x.1.q x.1.b.length x.1.d)/\(∃v0,W.cell? ⟨w.heap.size,0,none⟩=some v0/\v0.ownBlock≠some R)/\a'={tmps:=#[.S p len cap,undef,.S none 0 0,.I 0,.pointer (some ⟨w.heap.size,0,none⟩),.pointer (some ⟨w.heap.size+1,0,none⟩),.pointer (some ⟨R,0,none⟩),.I x.1.z,.S p len cap,.func (.func 107) #[] #[.pointer (some ⟨w.heap.size+2,0,none⟩)],xZ x.1.s (.S x.1.q x.1.b.length x.1.d),.I x.1.z,undef,undef,undef,undef,undef,undef,undef,undef,undef,undef,undef,undef,undef,undef,undef,undef,undef,undef,undef,undef,undef,undef,undef,undef,undef,undef,undef,undef,undef,undef,undef,undef,undef,undef,undef],defers:=[]})
  ?ax ?assign ?body ?done ?stop
 case seq=>(
 intro L J Jx W hW hJ hJx hY h0;refine(bm6 (n:=n-1) ae (L:=L) (Bs:=w.heap.size+2) (len:=len) (cap:=cap) (p:=p) (l:=l) (w:=w) hR hB el hlen sG Dy hp J Jx (W:=W) hJ hY ((hW.cell (p:=⟨w.heap.size+2,0,none⟩) (by show w.heap.size+2<_;omega)).trans k2) (hB0.trans (hW.mono ae)) h0).mono ?_;rintro e W'⟨he,h⟩;exact⟨he,h⟩)
 case ax=>(
 rintro x a' _ W W' row⟨R,oQ,hA,⟨v0,oK,Xc⟩,ha⟩hg hr;exact⟨R,oQ,⟨cell_kept hA.1 hg (fun r e=>(hr r e).2),cell_kept hA.2 hg (fun r e=>(hr r e).2)⟩,⟨v0,cell_kept oK hg (fun r e=>(hr r e).2),Xc⟩,ha⟩)
 case assign=>(
 rintro L pre x W K⟨hi,hb,hz⟩hK
 gi_wp2
 obtain⟨rs,v,vs,⟨c0,_,_,_,ho⟩,_⟩:=id hi;exact hK _ _ ((KeepsOthers.alloc _ _).from _) ⟨(cW _ W).alloc (by have:=hb.size;omega) _,World.cell?_of_block (a:=⟨w.heap.size+2,0,none⟩) (Ks W _ _ (by show w.heap.size+2<_;omega))⟩ ⟨hi.below (ay.alloc ao _),hb.alloc hb.size _,bj⟩ ⟨W.heap.size,hz,by simp[QA],⟨v,ag c0 (ay.alloc ao _),fun e=>by have:=(ho.TG _ e).2;omega⟩,rfl⟩)
 case body=>(
 rintro L pre⟨x,xz⟩a' W hL⟨r,hr⟩⟨⟨rs,v,vs,⟨c0,c1,c2,c3,ho⟩,Ib,hnz,hrl,Qe,CQ⟩,hb,hz⟩⟨R,oQ,hA,cl4,rfl⟩qY;obtain⟨pv,cv,rfl⟩:=ho.form;obtain⟨v0,d0,hAv⟩:=cl4;rw[c0]at d0;obtain rfl:.S pv rs.length cv=v0:=by simpa using d0
 clear d0;obtain⟨K,eK⟩:=aI rs.length;rw[eK]at ho c0 hrl hAv;dsimp only at*;have xB:∀(vs:Array Value)(w:World),(callFunc 62 vs).run prog w=.ok (.enter 62 vs) w:=fun vs w=>bg;have hcg:∀(vs:Array Value)(w:World),(callFunc 61 vs).run prog w=.ok (.enter 61 vs) w:=fun vs w=>bg;by_cases hx:x.z=0;{
 have VR:((x.z:Int)==0)=true:=by simp[hx]
 gi_wp2
 refine⟨KeepsFrom.refl _ _,⟨rfl,rs,_,vs,⟨c0,c1,c2,c3,ho⟩,fun rest=>?_⟩,hb⟩;have:=Ib (none::rest);simp only[ko,iH,Cx,tj,Kw,Kv];rw[show key x=none by simp[key,hx],this];simp[FQ]};{
 have VR:((x.z:Int)==0)=false:=by simp[hx]
 have hkx:key x=some (x.s,x.b):=by simp[key,hx]
 obtain⟨hxz,hxl,hxB,xs0,xs1,hRx⟩:x.z=x.b.length+14/\x.b.length<=1000/\aM x.b/\0<=x.s/\x.s<18446744073709551616/\Rd w (.S x.q x.b.length x.d) x.b:=by rcases xz with h|h;{exact absurd h hx};{exact h}
 gi_wp2_with fail
 have HX:=af (ah hxz (ah hxB hkx));have HF:=af (ah Ib (ah hnz (ah hrl (ah Qe CQ))));have eKh:=af eK;have hKn:K<=1048578:=ae;have dn6:(xK rs:Int)<=1100000000:=ae;have dn0:(x.z:Int)<=1014:=ae;clear Ib hnz hrl Qe CQ hxz hxB hkx;obtain⟨vv,evv⟩:=aI (Value.slice pv K cv);have c0':=c0;have HO:=af ho;have HV:Hid (W.cell? ⟨w.heap.size,0,none⟩=some vv/\gU (w.heap.size+3) W vv rs vs/\vv.ownBlock≠some R):=by rw[<-evv];exact⟨c0,ho,hAv⟩
 clear evv ho hAv c0;by_cases hK0:K=0;rotate_left;have hkr:K-1<rs.length:=ae;obtain⟨⟨t,bt⟩,Fx⟩:∃r,rs[K-1]?=some r:=⟨_,aO hkr⟩;have HL:Hid (mc rs=some t):=by show _=_;unfold mc;rw[YQ,eK,Fx];rfl
 obtain⟨t0,t1⟩:=HF.2.2.2.2 _ (aS Fx) |>.2;obtain⟨u,hu⟩:∃u,vs[K-1]?=some u:=⟨_,aO (by rw[HO.len];exact hkr)⟩;rcases id HO.row.2 with⟨_,h0⟩|⟨g,xq,cur,ev,La,hgg,_,_,_,_⟩;{omega};simp only[dU]at ev;obtain⟨rfl,-,rfl⟩:=ev;have Q8:=HO.row;rw[eK]at Q8;have d0:=(Q8.cellAt (2*(K-1)) ae).trans (mW rs vs (K-1) _ u Fx hu).1;rw[Zj]at d0;dsimp only at d0;obtain⟨K1,eK1⟩:=aI (K-1);rw[eK1]at d0;have Ph:(K:Int)-1=(K1:Int):=ae;have UG:=pW 0 K;have UF:=aP K1 K;have hK4:0<K:=ae;have Sr:K1<=1048578:=ae;have Xq:(K1:Int)<=1048578:=ae;have Xp:=dZ K1;clear eK hkr Fx hu Q8 hgg eK1;refine qc (fun w'=>w'.cell? ⟨w.heap.size,0,none⟩=some (.T g K cv)/\QA w' R (.U x.s) (.S x.q x.b.length x.d)/\w'.cell? ⟨g,K1*2,none⟩=some (.U t)) bg bg (by rintro⟨_,_,h⟩;exact h) (ah c0' (ah hA d0)) (fun hS=>?_);refine jZ 0 1 hS ?_;refine tk 2 hS (v:=.bool true) (h:=?_);simp only[Act.put,xa,xb,xc];refine mn 3 4 5 6 7 8 9 10 hS ?_;refine jZ 11 12 hS ?_;refine ry [13] ?_;refine cn (fun KK hK=>?_) ?_;rotate_left;exact AllReadyH.nil;rotate_left;refine JP aH (f:=61) aH (v1:=.U x.s) (v2:=.U t) aH aH (fun _=>hcg _ _) (Cf (s:=x.s) (t:=t) xs0 xs1 t0 t1) ?_;rintro e w7⟨rfl,rfl⟩;refine⟨_,rfl,?_⟩;refine gr hK hS fun hS=>?_;clear hK KK;generalize hbk:GH (some t) x.s=bk;refine jZ 14 15 hS ?_;refine tn 16 hS ?_;refine bB3 ?_;cases bk;{
 gi_wp2
 obtain⟨c0,ho,-⟩:=aa HV;refine⟨(KeepsOthers.drew _).from _,⟨rfl,rs,_,vs,⟨c0,c1,c2,c3,ho.below ay.drew⟩,fun rest=>?_⟩,hb.drew⟩;obtain⟨Ib,-⟩:=aa HF;obtain⟨-,-,hkx⟩:=aa HX;have h2:=Ib (some (x.s,x.b)::rest);simp only[ko,iH,Cx,tj,Kw,Kv];rw[hkx,h2,aa HL];simp[FQ,hbk]};have ta:Hid (GH (mc rs) x.s=true):=by show _=_;rw[aa HL];exact hbk
 clear Ph UG UF hK4 Sr Xq Xp d0 hbk HL La;rotate_left;have ta:Hid (GH (mc rs) x.s=true):=by show _=_;rw[Ku (eK.trans hK0)];rfl
 refine qc (fun w'=>w'.cell? ⟨w.heap.size,0,none⟩=some (.S pv K cv)) bg bg (by rintro⟨_,_,h⟩;exact h) c0' (fun hS=>?_);refine jZ 0 1 hS ?_;refine tk 2 hS (v:=.bool false) (h:=?_);simp only[Act.put,xa,xb,xc];refine tn 3 hS ?_;refine nK 4 5 6 7 hS ?_;refine nK 8 9 10 11 hS ?_;refine sn 12 hS ?_;refine sn 13 hS ?_;refine sn 14 hS ?_;refine jZ 15 16 hS ?_;refine bB3 ?_;clear eK
 all_goals
  clear hS c0' HO hK0;obtain⟨c0,ho,hAv⟩:=aa HV;clear HV
  gi_wp2_with fail
  replace c0:W.drew.cell? ⟨w.heap.size,0,none⟩=some _:=c0;replace c1:W.drew.frozen? ⟨w.heap.size,0,none⟩=false:=c1;replace c2:W.drew.cell? ⟨w.heap.size+1,0,none⟩=some _:=c2;replace c3:W.drew.frozen? ⟨w.heap.size+1,0,none⟩=false:=c3;replace ho:=ho.below (cW W.heap.size W).drew;replace hA:QA W.drew R (.U x.s) (.S x.q x.b.length x.d):=hA;replace hb:Bw w W.drew:=hb.drew;have KV:KeepsOthers W W.drew:=KeepsOthers.drew W;have BV:Bw W W.drew:=ay.drew;have hzV:W0.heap.size<=W.drew.heap.size:=hz;generalize W.drew=V at*;have B5:Bw V (V.drew.alloc (.cells #[.S x.q x.b.length x.d] 22)):=((cW V.heap.size V).drew).alloc ao _;refine GX (x:=10) (S:=fun w'=>w'.cell? ⟨w.heap.size,0,none⟩=some vv/\QA w' R (.U x.s) (.S x.q x.b.length x.d)) (by rintro⟨_,_,h⟩;exact h) ⟨c0,hA⟩ (fun hS=>?_);refine tED 0 1 2 3 hS ?_;refine tEn 4 hS ?_;refine jd 5 (fun KK hK=>?_);go_simp;refine oGS hK ⟨ag c0 B5,hA.below B5⟩ fun hS=>?_;clear hK KK;refine jd 6 (fun KK hK=>?_);refine iq aH (f:=62) aH (v1:=.T V.heap.size 1 1) aH (fun _=>xB _ _) (fM (g:=V.heap.size) (vs:=[.S x.q x.b.length x.d]) [x.b] (lm:=x.b) (n:=x.b.length) 1 rfl (by show _=_;rw[UW]) rfl (Yv ai (hRx.below (Below.trans hb (B5.mono ae)))) ae ae) ?_;rintro e w6⟨p6,c6,rfl,o6,jX⟩;refine⟨_,rfl,?_⟩;have B6:=aj B5 jX;have z6:=B6.size;have z6':=jX.size;have ci5:∀u'∈vs,GC u' (.S p6 x.b.length c6):=fun u' hu' b e1 e2=>by have h1:=ho.lt u' hu' b e1;have h2:=(Own.lt o6 b e2).1;simp at h2;omega
  refine oGS hK ⟨ag c0 B6,hA.below B6⟩ fun hS=>?_;clear hK KK;refine tEo 7 hS ?_;refine jd 8 (fun KK hK=>?_);go_simp;have B8:Bw V (w6.alloc (.cells #[.U x.s,.S p6 x.b.length c6] 54)):=B6.alloc ae _;refine oGS hK ⟨ag c0 B8,hA.below B8⟩ fun hS=>?_;clear hK KK;refine jd 9 (fun KK hK=>?_);refine JQ aH aH (B:=w.heap.size+3) (v:=vv) (rs:=rs) (vs:=vs) (n:=K) eKh (g:=w6.heap.size) aH aH (ho.below B8) (r:=(x.s,x.b)) (u:=.S p6 x.b.length c6) ai ai (Own.mono (Own.below o6 (ay.alloc ao _)) bj) ci5 ae bj ?_;intro p9 c9 w9 hR9 xd;have UJ:Below (w.heap.size+3) V w9:=(B8.mono ae).grown xd (by have:=B8.size;omega) (fun b e=>(ho.TG b e).1);have q0:=(UJ.cell (p:=⟨w.heap.size,0,none⟩) (by show w.heap.size<_;omega)).trans c0;have q1:∀o,w9.frozen? ⟨w.heap.size,o,none⟩=V.frozen? ⟨w.heap.size,o,none⟩:=fun o=>UJ.frozen (p:=⟨w.heap.size,o,none⟩) (by show w.heap.size<_;omega);refine oGS hK ⟨q0,xd.cell hS.2.1 (fun e=>hAv e.symm),xd.cell hS.2.2 (fun e=>hAv e.symm)⟩ fun hS=>?_;clear hK KK;refine jd 10 (fun KK hK=>?_);go_simp;refine oGX hK ?_;clear hK KK hS;refine DG ?_;have q2:=(UJ.cell (p:=⟨w.heap.size+1,0,none⟩) (by show w.heap.size+1<_;omega)).trans c2;have q3:=(UJ.frozen (p:=⟨w.heap.size+1,0,none⟩) (by show w.heap.size+1<_;omega)).trans c3;have KO9:=af ((KeepsOthers.dL B8).trans (KeepsOthers.of_grownBy xd (ho.below B8).Yl))
  gi_wp2
  exact az3 (w:=w) (W:=W) (V:=V) (w9:=w9) (W0s:=W0.heap.size) (x:=x) xz (pre:=pre) (rs:=rs) (vs:=vs) (p9:=p9) (c9:=c9) (K:=K) z0 hz KV BV hb c0 c1 c2 c3 ho UJ KO9 hR9 eKh HX HF ta hxl xs0 xs1})
 case done=>(
 rintro D ys W hD⟨pre,x,rfl,hx⟩⟨⟨rs,v,vs,_,_,hnz,_⟩,_⟩hK;exact absurd hx (hnz x ai))
 case stop=>(
 rintro D c ys W hD hSp⟨⟨rfl,rs,v,vs,⟨c0,c1,c2,c3,ho⟩,Ib⟩,hb⟩hK;obtain⟨rest,aE6⟩:=hSp;have erl:rl l=rs:=by unfold rl;rw[el,<-aE6];exact Ib rest
 obtain⟨pv,cv,rfl⟩:=ho.form;refine wpIn_wide.2 ?_;clear Ib aE6;go_wp2_with fail;have k0:=ah c0 c2
 go_region_held3 (fun w'=>w'.cell? ⟨w.heap.size,0,none⟩=some (.S pv rs.length cv)/\w'.cell? ⟨w.heap.size+1,0,none⟩=some (.I (xK rs:Nat))) (exact k0) (fail)
 go_wp2
 try rw[Exit.noGoto_ret]
 refine⟨ai,.inl ⟨_,_,rfl,run_takeDeferred (w:=W.drew) hK,?_⟩⟩;have hKd:W.drew.heap[D]?=some (.deferred (some [])):=hK;refine⟨.tuple #[.S pv rs.length cv,.I (xK rs:Nat)],by simp[results,results24,go_sem],?_⟩;rw[erl];refine⟨pv,cv,vs,rfl,((ho.below ay.drew).uq (grownBy_putObj' W.drew D (.deferred none)) (fun r e=>by cases e;exact⟨_,hKd,rfl⟩)).mono ae,?_⟩;exact hb.drew.trans (belowK_b (w:=w) ao W.drew D _ _ ae hKd rfl rfl))
def Ot{len cap:Nat}{w:World}(hR:Rd w (.S p len cap) l)(hB:aM l)(el:l.length=len)(hlen:len<=1048576)(sG:len<=cap)(Dy:cap<=maxLen)(hp:(p=none/\cap=0)\/∃b o,p=some ⟨b,o,none⟩):Cp 24 #[.S p len cap] w (U0 w (rl l)):=
 callsIn_wide.1 (Fw (n:=3) ae hR hB el hlen sG Dy hp)
def oB:Option LI->Int×Option LI
 |some (c::t)=>(c,some t)
 |_=>(0,none)
def oV:Option LI->Int×Option LI
 |some m=>(match rv m with|some x=>(x.1,some x.2)|none=>(0,none))
 |none=>(0,none)
def oT:Option LI->LI×Option LI
 |some m=>(match rt m with|some x=>(x.1,some x.2)|none=>([],none))
 |none=>([],none)
def mI(n:Nat):Option LI->Int
 |some m=>(n:Int)-m.length
 |none=>-1
def jM(n:Nat)(l:LI)(om:Option LI):Prop:=∀m,om=some m->m.length<=n/\m=l.drop (n-m.length)
def jM.start{n:Nat}(h:l.length=n):jM n l (some l):=fun m e=>by
 simp at e;subst e;exact⟨ae,by rw[h,Nat.sub_self];rfl⟩
def jM.none{n:Nat}:jM n l none:=fun m e=>by cases e
def jM.Kg{n:Nat}(hl:l.length=n)(h:jM n l (some m)){t:LI}(ht:t.length<=m.length)(e:t=m.drop (m.length-t.length)):jM n l (some t):=fun x ex=>by
 simp at ex;subst ex;obtain⟨h1,h2⟩:=h m rfl;refine⟨ae,?_⟩
 conv=>lhs;rw[e,h2,List.drop_drop,List.length_drop,hl]
 congr 1
 omega
theorem Ao{n:Nat}(hl:l.length=n)(h:jM n l om):jM n l (oB om).2:=by
 match om,h with
 |none,_=>exact jM.none
 |some [],_=>exact jM.none
 |some (c::t),h=>exact jM.Kg hl h ai ai
theorem gQ{n:Nat}(hl:l.length=n)(h:jM n l om):jM n l (oV om).2:=by
 match om,h with
 |none,_=>exact jM.none
 | some m,h=>
  show jM n l (match rv m with|some x=>(x.1,some x.2)|none=>(0,none):Int×Option LI).2;cases e:rv m with
  |none=>exact jM.none
  |some x=>
   obtain⟨v,t⟩:=x;obtain⟨_,_,h3,h4⟩:=uS 10 0 0 m v t e;exact jM.Kg (t:=t) hl h (Nat.le_of_lt h3) h4
theorem Yk{x:LI×LI}(h:rt m=some x):x.2.length<=m.length/\x.2=m.drop (m.length-x.2.length)/\∃a b,x.1=(m.drop a).take b:=by
 unfold rt at h;cases e:rv m with
 |none=>rw[e]at h;simp at h
 |some y=>
  obtain⟨v,t⟩:=y;rw[e]at h;simp only at h;obtain⟨v0,_,h3,h4⟩:=uS 10 0 0 m v t e;split at h;{cases h};{
 next hv=>
 simp at h;subst h;simp only[List.length_drop];refine⟨ae,?_,m.length-t.length,v.toNat,by rw[<-h4]⟩
 conv=>lhs;rw[h4,List.drop_drop]
 congr 1
 omega}
theorem Es{n:Nat}(hl:l.length=n)(h:jM n l om):jM n l (oT om).2:=by
 match om,h with
 |none,_=>exact jM.none
 | some m,h=>
  show jM n l (match rt m with|some x=>(x.1,some x.2)|none=>([],none):LI×Option LI).2;cases e:rt m with
  |none=>exact jM.none
  |some x=>
   obtain⟨h1,h2,_⟩:=Yk e;exact jM.Kg hl h h1 h2
theorem qF{n:Nat}(hb:aM l)(h:jM n l om):aM (oT om).1/\(oT om).1.length<=n:=by
 match om,h with
 |none,_=>exact⟨fun z hz=>by simp[oT]at hz,by simp[oT]⟩
 | some m,h=>
  obtain⟨h1,h2⟩:=h m rfl;have hm:aM m:=by rw[h2];exact fun z hz=>hb z (List.mem_of_mem_drop hz)
  show aM (match rt m with|some x=>(x.1,some x.2)|none=>([],none):LI×Option LI).1/\(match rt m with|some x=>(x.1,some x.2)|none=>([],none):LI×Option LI).1.length<=n;cases e:rt m with
  |none=>exact⟨fun z hz=>by simp at hz,ai⟩
  |some x=>
   obtain⟨_,_,a,b,h3⟩:=Yk e;refine⟨?_,?_⟩;{show aM x.1;rw[h3];exact fun z hz=>hm z (List.mem_of_mem_drop (List.mem_of_mem_take hz))};{show x.1.length<=n;rw[h3,List.length_take,List.length_drop];omega}
theorem YD{n:Nat}(hb:aM l)(h:jM n l om):0<=(oB om).1/\(oB om).1<256:=by
 match om,h with
 |none,_=>simp[oB]
 |some [],_=>simp[oB]
 |some (c::t),h=>
  obtain⟨h1,h2⟩:=h _ rfl;exact hb c (List.mem_of_mem_drop (by rw[<-h2];simp))
theorem Er:0<=(oV om).1/\(oV om).1<18446744073709551616:=by
 cases om with
 |none=>simp[oV]
 | some m=>
  show 0<=(match rv m with|some x=>(x.1,some x.2)|none=>(0,none):Int×Option LI).1/\(match rv m with|some x=>(x.1,some x.2)|none=>(0,none):Int×Option LI).1<_;cases e:rv m with
  |none=>simp
  |some x=>
   obtain⟨v,t⟩:=x;obtain⟨h1,h2,_⟩:=uS 10 0 0 m v t e;exact⟨h1,h2⟩
def Yj{P:LI}(rest:LI)(h:P.length<18446744073709551616):rt (tx P++rest)=some (P,rest):=by
 rw[rt,tx,List.append_assoc,TF _ h];simp only[List.length_append];rw[if_neg ae];simp
theorem oe{c n:Nat}(en:Hid (l.length=n)){w:World}(h:Rd w (.S p n c) l)(hb:aM l)(hl:n<=1048576)(hs:jM n l om)(e:Hid (oB om=(x,Hf))):Cp 44 #[.S p n c,.I (mI n om)] w fun e w'=>e=.returned (.tuple #[.I x,.I (mI n Hf)])/\w'=w:=by
 have e:=aa e
 match om,hs with
 |none,_=>
  simp[oB]at e;obtain⟨rfl,rfl⟩:=e;exact J6
 |some [],hs=>
  simp[oB]at e;obtain⟨rfl,rfl⟩:=e;have ea:mI n (some [])=(n:Int):=by simp[mI]
  rw[ea];exact J7 hl
 |some (y::t),hs=>
  simp[oB]at e;obtain⟨rfl,rfl⟩:=e;obtain⟨h1,h2⟩:=hs _ rfl;simp only[List.length_cons]at h1 h2;obtain⟨a,ea⟩:=aI (n-(t.length+1));rw[ea]at h2;have e1:mI n (some (y::t))=(a:Int):=by simp[mI];omega
  have e2:mI n (some t)=((a+1:Nat):Int):=by simp[mI];omega
  have e3:l.getD a 0=y:=by have:=congrArg (fun z=>z.getD 0 0) h2;simp[List.getD]at this;simp[List.getD,<-this]
  have:=Nc (a:=a) en h hb hl ae;rw[e3]at this;rw[e1,e2];exact this
theorem An{c n:Nat}(en:Hid (l.length=n)){w:World}(h:Rd w (.S p n c) l)(hb:aM l)(hl:n<=1048576)(hs:jM n l om)(e:Hid (oV om=(x,Hf))):Cp 42 #[.S p n c,.I (mI n om)] w fun e w'=>e=.returned (.tuple #[.U x,.I (mI n Hf)])/\w'=w:=by
 have e:=aa e
 match om,hs with
 |none,_=>
  simp[oV]at e;obtain⟨rfl,rfl⟩:=e;exact Bo
 |some m,hs=>
  obtain⟨h1,h2⟩:=hs _ rfl;obtain⟨a,ea⟩:=aI (n-m.length);rw[ea]at h2;have e1:mI n (some m)=(a:Int):=by simp[mI];omega
  have:=Eg (a:=a) en h hb hl ae (r:=rv m) (by show _=_;rw[<-h2]);rw[e1];refine this.mono ?_;rintro r w'⟨rfl,rfl⟩;refine⟨?_,rfl⟩;unfold oV at e;dsimp only at e;cases er:rv m with
  |none=>rw[er]at e;simp at e;obtain⟨rfl,rfl⟩:=e;rfl
  |some y=>rw[er]at e;simp at e;obtain⟨rfl,rfl⟩:=e;rfl
theorem od{c n:Nat}(en:Hid (l.length=n)){w:World}(h:Rd w (.S p n c) l)(hb:aM l)(hl:n<=1048576)(vG:n<=c)(hs:jM n l om){x:LI}(e:Hid (oT om=(x,Hf)))(eN:Hid (x.length=N)):Cp 43 #[.S p n c,.I (mI n om)] w fun e w'=>∃p' c',e=.returned (.tuple #[.S p' N c',.I (mI n Hf)])/\Own w.heap.size w' (.S p' N c') x/\Bw w w':=by
 have e:=aa e
 match om,hs with
 |none,_=>
  simp[oT]at e;obtain⟨rfl,rfl⟩:=e;have hN:N=0:=by rw[<-aa eN];rfl
  subst hN;refine(J4).mono ?_;rintro r w'⟨rfl,rfl⟩;exact⟨none,0,rfl,World.ownsRow_nil _ _ _ _,Below.refl _ _⟩
 | some m,hs=>
  obtain⟨h1,h2⟩:=hs _ rfl;obtain⟨a,ea⟩:=aI (n-m.length);rw[ea]at h2;have e1:mI n (some m)=(a:Int):=by simp[mI];omega
  have e2:tOf (rt m)=x/\bOf n (rt m)=mI n Hf:=by
   unfold oT at e;dsimp only at e;cases er:rt m with
   |none=>rw[er]at e;simp at e;obtain⟨rfl,rfl⟩:=e;exact⟨rfl,rfl⟩
   |some y=>rw[er]at e;simp at e;obtain⟨rfl,rfl⟩:=e;exact⟨rfl,rfl⟩
  have:=Nb (a:=a) en h hb hl vG ae (r:=rt m) (by show _=_;rw[<-h2]) (N:=N) (by show _=_;rw[e2.1];exact aa eN);rw[e1];rw[e2.1,e2.2]at this;exact this
abbrev blk(g:Nat):Value:=.T g 0 0
def Mr(R:Nat)(w:World)(p:OA)(m:LI):Prop:=m=[]\/∃b o,b<R/\p=some ⟨b,o,none⟩/\∀i,i<m.length->w.cell? ⟨b,o+i,none⟩=some (.int .u8 (m.getD i 0))
def Mr.rd{w:World}{n c:Nat}(h:Mr R w p m)(e:m.length=n):Rd w (.S p n c) m:=by
 refine⟨p,c,by rw[e],?_⟩;rcases h with h|⟨b,o,_,h2,h3⟩;{exact .inl h};{exact .inr ⟨b,o,h2,h3⟩}
def Mr.set{w:World}(h:Mr R w p m)(o:Nat)(v:Value):Mr R (w.setCell ⟨R,o,none⟩ v) p m:=by
 rcases h with h|⟨b,o',h1,h2,h3⟩;{exact .inl h};{refine .inr ⟨b,o',h1,h2,fun i hi=>?_⟩;rw[Fb _ _ _ _ (by simp;try omega)];exact h3 i hi}
def Mr.tail{w:World}{o:Nat}(h:Mr R w (some ⟨b,o,none⟩) (x::m)):Mr R w (some ⟨b,o+1,none⟩) m:=by
 rcases h with h|⟨b',o',h1,h2,h3⟩;{cases h};{simp at h2;obtain⟨rfl,rfl⟩:=h2;refine .inr ⟨b,o+1,h1,rfl,fun i hi=>?_⟩;have:=h3 (i+1) bj;rw[show o+1+i=o+(i+1) by omega,this];simp}
def qy(w:World)(R:Nat)(m:LI)(n:Nat)(sh:Bool):Prop:=
 m.length=n/\(∀o,w.frozen? ⟨R,o,none⟩=false)/\∃p c,QA w R (.S p n c) (.bool sh)/\Mr R w p m/\n<=c/\((p=none/\c=0)\/∃b o,p=some ⟨b,o,none⟩)
def oG{w:World}{o:Nat}:Kept [blk R] w (w.setCell ⟨R,o,none⟩ v):=by
 refine⟨rfl,rfl,rfl,ai,fun k hk cg=>?_⟩;have:k≠R:=fun e=>cg (blk R) ai (by rw[e];rfl);simp[World.setCell,we];intro e;exact absurd e.symm this
def QW{n:Nat}{w:World}(h:qy w R (x::m) (n+1) sh)(hx:0<=x/\x<256)(hl:n<=1048576):Cp 140 #[.pointer (some ⟨R,0,none⟩)] w fun e w'=>e=.returned (.I x)/\qy w' R m n sh/\Kept [blk R] w w':=by
 obtain⟨hlen,hf,p,c,⟨h0,h1⟩,hr,hc,hp⟩:=h;have hlm:m.length=n:=by simpa using hlen
 obtain⟨b,o,rfl⟩:∃b o,p=some ⟨b,o,none⟩:=by rcases hp with h|h;{omega};{exact h}
 have hbR:b<R:=by rcases hr with h|⟨b',o',h1,h2,_⟩;{cases h};{simp at h2;omega}
 have qL:w.cell? ⟨b,o,none⟩=some (.int .u8 x):=by rcases hr with h|⟨b',o',h1,h2,h3⟩;{cases h};{simp at h2;obtain⟨rfl,rfl⟩:=h2;simpa using h3 0 ai}
 have g1:((n:Int)+1==0)=false:=by simp;omega
 have wx:IntKind.i64.wrap x=x:=ni _ ae;have k1:(1:Int)<=(n:Int)+1:=ae;have k2:(n:Int)+1<=(c:Int):=ae;have k3:=dw 1 c;have HR:=af hr;clear hr hp hlen;by_cases iD:c=1;{subst iD;have Jo:n=0:=ae;subst Jo;have Jp:m=[]:=tp.1 hlm;subst Jp;go_enter func140,ntmps140;go_wp2;go_ret;refine⟨rfl,⟨rfl,fun o=>by simp[hf],some ⟨b,o,none⟩,0,⟨by simp[go_sem,h0],by simp[go_sem,h1]⟩,.inl rfl,ae,.inr ⟨b,o,rfl⟩⟩,oG⟩};{have ci0:¬(c:Int)=1:=ae;go_enter func140,ntmps140;go_wp2;go_ret;exact⟨rfl,⟨hlm,fun o=>by simp[hf],some ⟨b,o+1,none⟩,c-1,⟨by simp[go_sem,h0],by simp[go_sem,h1]⟩,HR.tail.set _ _,ae,.inr ⟨b,o+1,rfl⟩⟩,oG⟩}
def QY{w:World}(h:qy w R [] 0 sh):Cp 140 #[.pointer (some ⟨R,0,none⟩)] w fun e w'=>e=.returned (.I 0)/\qy w' R [] 0 true/\Kept [blk R] w w':=by
 obtain⟨hlen,hf,p,c,⟨h0,h1⟩,hr,hc,hp⟩:=h;go_enter func140,ntmps140;go_wp2;go_ret;exact⟨rfl,⟨rfl,fun o=>by simp[hf],p,c,⟨by simp[go_sem,h0],by simp[go_sem,h1]⟩,.inl rfl,hc,hp⟩,oG⟩
def sB:LI->Bool->Int×LI×Bool
 |[],_=>(0,[],true)
 |c::t,sh=>(c,t,sh)
theorem Ah{n:Nat}{w:World}(h:qy w R m n sh)(hb:aM m)(hl:n<=1048576)(e:Hid (sB m sh=(x,m',sh'))):Cp 140 #[.pointer (some ⟨R,0,none⟩)] w fun e w'=>e=.returned (.I x)/\qy w' R m' m'.length sh'/\Kept [blk R] w w':=by
 have e:=aa e;cases m with
 |nil=>
  simp[sB]at e;obtain⟨rfl,rfl,rfl⟩:=e;have hn:n=0:=h.1.symm;subst hn;exact QY h
 |cons c t=>
  simp[sB]at e;obtain⟨rfl,rfl,rfl⟩:=e;have hn:n=t.length+1:=by have:=h.1;simpa using this.symm
  subst hn;exact QW h (hb c ai) ae
def sN:Nat->Nat->Int->LI->Bool->Int×LI×Bool
 |0,_,a,m,sh=>(a,m,sh)
 |f+1,k,a,m,sh=>if(sB m sh).1<128 then(tA k a (sB m sh).1,(sB m sh).2)else sN f (k+1) (tA k a (sB m sh).1) (sB m sh).2.1 (sB m sh).2.2
theorem Al(h:aM m):aM (sB m sh).2.1/\0<=(sB m sh).1/\(sB m sh).1<256/\(sB m sh).2.1.length<=m.length:=by
 cases m with
 |nil=>exact⟨fun z hz=>by simp[sB]at hz,by simp[sB],by simp[sB],by simp[sB]⟩
 |cons c t=>exact⟨fun z hz=>h z (by simp[sB]at hz;simp[hz]),(h c ai).1,(h c ai).2,by simp[sB]⟩
def eG{n:Nat}{w:World}(h:qy w R m n sh)(hb:aM m)(hl:n<=1048576)(e:Hid (sN 10 0 0 m sh=(x,m',sh'))):Cp 101 #[.pointer (some ⟨R,0,none⟩)] w fun e w'=>e=.returned (.U x)/\qy w' R m' m'.length sh'/\Kept [blk R] w w':=by
 go_enter func101,ntmps101;go_wp2_with fail
 go_loopw[3,6](fun nv iv wr=>∃(v:Int)(k:Nat)(m1:LI)(sh1:Bool)(n1:Nat),nv=.U v/\k<=10/\iv=.I k/\Hid (sN (10-k) k v m1 sh1=(x,m',sh'))/\Hid (aM m1)/\n1<=n/\Hid (qy wr R m1 n1 sh1)/\Kept [blk R] w wr) (fun _ iv _=>10-(intOf iv).toNat)
 exact⟨0,0,m,sh,n,rfl,ae,rfl,e,hb,jS _,h,Kept.refl _ _⟩;{
 obtain⟨v,k,m1,sh1,n1,rfl,hk,rfl,hN,zG,vH,hR,hK⟩:=hrel;by_cases h10:k<10;{
 have aU8:(k:Int)<10:=ae;have xi:=aa hN;rw[show 10-k=(9-k)+1 by omega,sN]at xi;have fS:=Al (sh:=sh1) zG;obtain⟨⟨c,m2,sh2⟩,eS⟩:∃y,sB m1 sh1=y:=⟨_,rfl⟩;rw[eS]at xi fS;obtain⟨jc,qL,iD,KY⟩:=fS;dsimp only at xi jc qL iD KY;have xx:m1.length=n1:=hR.1;have Dw:m2.length<=n:=ae;have w7:IntKind.i64.wrap (7*(k:Int))=7*(k:Int):=ni _ ae;have w70:¬7*(k:Int)<0:=ae;have vO:=af jc;clear hN jc xx KY;go_wp2_with fail;refine(Ah hR zG ae eS).mono ?_;rintro r w2⟨rfl,UE,UG⟩;have U8:=af UE;have Xy:=af (hK.trans UG);clear UE UG eS;by_cases hc:c<128;{rw[bN hc]at xi;simp only[fO]at xi;obtain⟨e1,rfl,rfl⟩:=xi;have E1:=af e1;clear e1;go_wp2;go_ret;exact⟨by rw[<-aa E1];rfl,aa U8,aa Xy⟩};{
 have qM:¬c<128:=hc;rw[bH hc]at xi;have Cd:Hid (sN (10-(k+1)) (k+1) (tA k v c) m2 sh2=(x,m',sh')):=by show _=_;rw[show 10-(k+1)=9-k by omega];exact xi
 clear xi;go_wp2;go_roundw;exact⟨tA k v c,k+1,m2,sh2,m2.length,rfl,ae,by go_num,Cd,vO,Dw,U8,Xy⟩;exact bG}};{have aU8:¬(k:Int)<10:=ae;have xi:=aa hN;rw[show 10-k=0 by omega,sN]at xi;simp only[fO]at xi;obtain⟨rfl,rfl,rfl⟩:=xi;have xx:m1.length=n1:=hR.1;subst xx;clear hN;go_wp2;go_ret;exact⟨rfl,hR,hK⟩}}
def sT(m:LI)(sh:Bool):LI×LI×Bool:=
 if((sN 10 0 0 m sh).2.1.length:Int)<(sN 10 0 0 m sh).1 then([],(sN 10 0 0 m sh).2.1,true)
 else((sN 10 0 0 m sh).2.1.take (sN 10 0 0 m sh).1.toNat,(sN 10 0 0 m sh).2.1.drop (sN 10 0 0 m sh).1.toNat,(sN 10 0 0 m sh).2.2)
theorem Ec(f:Nat):∀(k:Nat)(a:Int)(m:LI)(sh:Bool),aM m->(0<=a/\a<18446744073709551616)->aM (sN f k a m sh).2.1/\(sN f k a m sh).2.1.length<=m.length/\0<=(sN f k a m sh).1/\(sN f k a m sh).1<18446744073709551616:=by
 induction f with
 |zero=>intro k a m sh hb ha;exact⟨hb,jS _,ha.1,ha.2⟩
 |succ f ih=>
  intro k a m sh hb ha;rw[sN];obtain⟨h1,h2,h3,h4⟩:=Al (sh:=sh) hb;split;{exact⟨h1,h4,sO⟩};{obtain⟨i1,i2,i3⟩:=ih (k+1) (tA k a (sB m sh).1) _ (sB m sh).2.2 h1 (sO);exact⟨i1,ae,i3⟩}
theorem as5{X:World}(en:Hid (l0.length=N))(r0:Rd X v0 l0)(hl:N<=4194304):Cp 62 #[.T X.heap.size 1 1] (X.alloc (.cells #[v0] 22)) fun e w'=>∃p' c',e=.returned (.S p' N c')/\Own X.heap.size w' (.S p' N c') l0/\Bw X w':=by
 have ba:Bw X (X.alloc (.cells #[v0] 22)):=ay.alloc ao _;refine(fM (g:=X.heap.size) (vs:=[v0]) [l0] (lm:=l0) (n:=N) 1 rfl (by show _=_;simp[cat]) en ⟨rfl,fun j v x e1 e2=>?_⟩ hl ae).mono ?_;{
 match j,e1,e2 with
 |0,e1,e2=>simp at e1 e2;subst e1 e2;exact⟨ai,r0.below ba⟩}
 {rintro e w'⟨p',c',rfl,o,hb⟩;exact⟨p',c',rfl,Own.mono o ai,aj ba hb⟩}
def Mr.below{w w':World}(h:Mr R w p m)(hb:Bw w w'):Mr R w' p m:=by
 rcases h with h|⟨b,o',h1,h2,h3⟩;{exact .inl h};{exact .inr ⟨b,o',h1,h2,fun i hi=>ag (h3 i hi) hb⟩}
def Mr.take{w:World}(h:Mr R w p m)(V:Nat):Mr R w p (m.take V):=by
 rcases h with h|⟨b,o',h1,h2,h3⟩;{exact .inl (by rw[h];simp)};{refine .inr ⟨b,o',h1,h2,fun i hi=>?_⟩;rw[pK]at hi;rw[h3 i ae];simp[List.getD,Fc,show i<V by omega]}
def Mr.drop{w:World}{o:Nat}(h:Mr R w (some ⟨b,o,none⟩) m)(V:Nat):Mr R w (some ⟨b,o+V,none⟩) (m.drop V):=by
 rcases h with h|⟨b',o',h1,h2,h3⟩;{exact .inl (by rw[h];simp)};{simp at h2;obtain⟨rfl,rfl⟩:=h2;refine .inr ⟨b,o+V,h1,rfl,fun i hi=>?_⟩;rw[Aw]at hi;rw[Je,h3 (V+i) ae];simp[List.getD]}
def DQ{n:Nat}{w:World}(h:qy w R m n sh)(hb:aM m)(hl:n<=1048576)(hRw:R<w.heap.size){x:LI}(e:Hid (sT m sh=(x,m',sh')))(eN:Hid (x.length=N)):Cp 141 #[.pointer (some ⟨R,0,none⟩)] w fun r w'=>∃p' c',r=.returned (.S p' N c')/\Own w.heap.size w' (.S p' N c') x/\qy w' R m' m'.length sh'/\Kept [blk R] w w':=by
 have fS:=Ec 10 0 0 m sh hb ae;obtain⟨⟨v,m1,sh1⟩,eS⟩:∃y,sN 10 0 0 m sh=y:=⟨_,rfl⟩;have e2:=aa e;rw[sT,eS]at e2;rw[eS]at fS;obtain⟨zG,Jq,v0,v1⟩:=fS;dsimp only at e2 zG Jq v0 v1;rw[h.1]at Jq;obtain⟨n1,Mo⟩:=aI m1.length;rw[Mo]at e2 Jq;have wn:IntKind.u64.wrap (n1:Int)=(n1:Int):=by rw[IntKind.wrap_u64];omega
 go_enter func141,ntmps141;go_wp2_with fail;refine(eG h hb hl eS).mono ?_;rintro r w1⟨rfl,oQ,Ph⟩;rw[Mo]at oQ;have Cr:=af oQ;obtain⟨_,hf,p,c,⟨h0,h1⟩,hr,hc,hp⟩:=oQ;by_cases hv:(n1:Int)<v;{
 rw[bN hv]at e2;simp only[fO]at e2;obtain⟨rfl,rfl,rfl⟩:=e2;have Lm:N=0:=by rw[<-aa eN];rfl
 subst Lm;have HV1:=af v1;clear v1;go_wp2;go_ret;refine⟨none,0,rfl,World.ownsRow_nil _ _ _ _,?_,Ph.trans oG⟩;rw[Mo];exact⟨Mo,fun o=>by simp[hf],p,c,⟨by simp[go_sem,h0],by simp[go_sem,h1]⟩,hr.set _ _,hc,hp⟩};{
 rw[bH hv]at e2;obtain⟨V,rfl⟩:∃V:Nat,v=(V:Int):=⟨v.toNat,ae⟩;have eV:((V:Int)).toNat=V:=ae;rw[eV]at e2;simp only[fO]at e2;obtain⟨ex,em,es⟩:=e2;have hVn:V<=n1:=ae;have hNV:N=V:=by rw[<-aa eN,<-ex,pK,Mo];omega
 subst hNV;have hml:m'.length=n1-N:=by rw[<-em,Aw,Mo]
 have hv':¬(n1:Int)<(N:Int):=hv;have k2:=iE N c;have k3:=iE N n1;have k4:=iE n1 c;have cj3:R<w1.heap.size:=pI w1 _ h0;have HX:=af (ah ex (ah em hml));have rx:Rd w1 (.S p N c) x:=by rw[<-ex];exact(hr.take N).rd (by rw[ex];exact aa eN)
 have HRX:=af rx;have HRR:=af hr;have zK:=Ph.size;have hNb:N<=4194304:=ae;clear v0 v1 eV hb zG ex em rx hr h eS e;go_wp2_with fail;refine(as5 eN HRX hNb).mono ?_;rintro r w2⟨p2,c2,rfl,o2,b2⟩;have i0:=ag h0 b2;have i1:=ag h1 b2;have if':=cG hf cj3 b2;have z2:=b2.size;have Xy:=af (Ph.trans (Kept.dL b2));have HO2:=af o2;have kY:=af (HRR.below b2);clear h0 h1 hf b2 o2 Ph HRR HRX;rcases hp with⟨rfl,rfl⟩|⟨b,o,rfl⟩;{have Jo:n1=0:=ae;subst Jo;have Lm:N=0:=ae;subst Lm;go_wp2;go_ret;refine⟨p2,c2,rfl,Own.mono (B:=w1.heap.size) ?_ ae,?_,Xy.trans oG⟩;{exact Ky (aa HO2) bj _};{have Jp:m'=[]:=tp.1 HX.2.2;rw[Jp,<-es];exact⟨rfl,fun o=>by simp[if'],none,0,⟨by simp[go_sem,i0],by simp[go_sem,i1]⟩,.inl rfl,ai,.inl ⟨rfl,rfl⟩⟩}};{by_cases hcN:c=N;{subst hcN;have vH:n1=c:=ae;subst vH;go_wp2;go_ret;refine⟨p2,c2,rfl,Own.mono (B:=w1.heap.size) ?_ ae,?_,Xy.trans oG⟩;{exact Ky (aa HO2) bj _};{have Jp:m'=[]:=tp.1 (by rw[HX.2.2];omega);rw[Jp,<-es];exact⟨rfl,fun o=>by simp[if'],some ⟨b,o,none⟩,0,⟨by simp[go_sem,i0],by simp[go_sem,i1]⟩,.inl rfl,ai,.inr ⟨b,o,rfl⟩⟩}};{have dt1:¬(c:Int)=(N:Int):=ae;go_wp2;go_ret;refine⟨p2,c2,rfl,Own.mono (B:=w1.heap.size) ?_ ae,?_,Xy.trans oG⟩;{exact Ky (aa HO2) bj _};{rw[<-es,HX.2.2];refine⟨HX.2.2,fun o=>by simp[if'],some ⟨b,o+N,none⟩,c-N,⟨by simp[go_sem,i0],by simp[go_sem,i1]⟩,?_,ae,.inr ⟨b,o+N,rfl⟩⟩;have:=kY.drop N;rw[HX.2.1]at this;exact this.set _ _}}}}
theorem Vo(f:Nat):∀(k:Nat)(a:Int)(m:LI)(v:Int)(t:LI)(sh:Bool),JX f k a m=some (v,t)->sN f k a m sh=(v,t,sh):=by
 induction f with
 |zero=>intro k a m v t sh h;simp[JX]at h
 | succ f ih=>
  intro k a m v t sh h;cases m with
  |nil=>simp[JX]at h
  |cons c m=>
   rw[JX]at h;rw[sN];show(if c<128 then(tA k a c,m,sh)else sN f (k+1) (tA k a c) m sh)=_;split at h;{next hc=>rw[bN hc];simp at h;rw[h.1,h.2]}
   {next hc=>rw[bH hc];exact ih _ _ _ _ _ _ h}
def Yf{s:Nat}{rest:LI}(hs:s<18446744073709551616):sN 10 0 0 (vi s++rest) sh=((s:Int),rest,sh):=Vo 10 0 0 _ _ _ sh (TF rest hs)
def TC(P:LI){rest:LI}(h:P.length<18446744073709551616):sT (tx P++rest) sh=(P,rest,sh):=by
 rw[sT,tx,tj,Yf h];simp only[ig];rw[bH ae];simp
theorem Di(h:sh=true):(sB m sh).2.2=true:=by
 cases m with
 |nil=>rfl
 |cons c t=>exact h
theorem JW(f:Nat):∀(k:Nat)(a:Int)(m:LI)(sh:Bool),sh=true->(sN f k a m sh).2.2=true:=by
 induction f with
 |zero=>intro k a m sh h;exact h
 |succ f ih=>
  intro k a m sh h;rw[sN];split;{exact Di h};{exact ih _ _ _ _ (Di h)}
def Dg(h:sh=true):(sT m sh).2.2=true:=by
 rw[sT];split;{rfl}
 {exact JW _ _ _ _ _ h}
def Aj(h:aM m):aM (sT m sh).1/\aM (sT m sh).2.1/\(sT m sh).1.length<=m.length/\(sT m sh).2.1.length<=m.length:=by
 obtain⟨h1,h2,h3,h4⟩:=Ec 10 0 0 m sh h ae;rw[sT];split;{exact⟨fun z hz=>by simp at hz,h1,ai,h2⟩};{refine⟨fun z hz=>h1 z (Jh hz),fun z hz=>h1 z (Un hz),?_,?_⟩;{rw[pK];omega};{rw[Aw];omega}}
def ft{w w':World}(h:∀o,w.frozen? ⟨b,o,none⟩=false)(hk:Kept [blk R] w w')(hb:b<w.heap.size)(cg:b≠R):∀o,w'.frozen? ⟨b,o,none⟩=false:=fun o=>
 (World.frozen?_of_block (hk.block b hb (fun x hx e=>by simp only[yx]at hx;subst hx;simp[Value.ownBlock]at e;exact cg e.symm))).trans (h o)
def Own.db{w w':World}(h:Own B w v l)(hk:Kept [blk R] w w')(hR:R<B):Own B w' v l:=by
 refine Own.sA (vs:=[blk R]) h hk ?_;intro x hx k e1 e2;simp only[yx]at hx;subst hx;simp[Value.ownBlock]at e2;have:=h.lt k e1;omega
def fw{w0 w w':World}(h:Bw w0 w)(hk:Kept [blk R] w w')(hR:w0.heap.size<=R):Bw w0 w':=
 h.trans (hk.below h.size (fun v hv b e=>by simp only[yx]at hv;subst hv;simp[Value.ownBlock]at e;omega))
def NM(nd:aB):Prop:=(nd.path.length<=136/\nd.value.length<=41/\nd.holders.length<=51)/\(0<=nd.mode/\nd.mode<=3)/\(0<=nd.owner/\nd.owner<18446744073709551616)/\(0<=nd.aJ/\nd.aJ<18446744073709551616)/\(0<=nd.gen/\nd.gen<18446744073709551616)/\∀i∈nd.holders,0<=i/\i<18446744073709551616
structure SmW(ss:List aR)(ns:List aB):Prop where
 n1:ss.length<=51
 n2:ns.length<=201
 s:∀s∈ss,0<=s.1/\s.1<18446744073709551616
 d:∀nd∈ns,NM nd
theorem DU{α:Type}(F:α->Nat){l:List α}{y:α}(h:y∈l):F y<=iy F l:=by
 induction l with
 |nil=>cases h
 |cons z l ih=>
  have e:iy F (z::l)=F z+iy F l:=by simp[iy]
  rcases jA.1 h with rfl|h;{omega};{have:=ih h;omega}
def aL5(h:JN ss ns<=1048576):ss.length<=1048576/\ns.length<=1048576/\(∀s∈ss,s.2.2.length<=1048576/\∀e∈s.2.2,e.2.length<=1048576)/\∀nd∈ns,nd.path.length<=1048576/\nd.value.length<=1048576/\nd.holders.length<=1048576/\nd.watchers.length<=1048576:=by
 unfold JN at h;refine⟨ae,ae,fun s hs=>?_,fun nd br=>?_⟩;{have h1:=DU IA hs;have h0:IA s=s.2.2.length+iy (fun e:Ev=>e.2.length) s.2.2:=rfl;refine⟨ae,fun e he=>?_⟩;have h2:e.2.length<=iy (fun e:Ev=>e.2.length) s.2.2:=DU (fun e:Ev=>e.2.length) he;omega};{have h1:=DU DS br;have h0:DS nd=nd.path.length+nd.value.length+nd.holders.length+nd.watchers.length:=rfl;omega}
end Go.Proofs.YtjjnidignljppaaGreatDoor
