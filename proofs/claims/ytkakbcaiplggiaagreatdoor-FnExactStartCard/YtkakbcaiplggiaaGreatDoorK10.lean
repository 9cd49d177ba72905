import Derived.Test.YtkakbcaiplggiaaGreatDoorK4
import Derived.Test.YtkakbcaiplggiaaGreatDoorK5
import Derived.Lib.SlBytesConst
import Derived.Shelf.Abstract
import Derived.Shelf.RegionOpen
import Derived.OrdersHeld
import Derived.Scope
import Derived.WalkMore
namespace Go.Proofs.YtkakbcaiplggiaaGreatDoor
set_option maxHeartbeats 4000000
set_option linter.all false
set_option maxRecDepth 100000
variable {B B' N R b f g:Nat}{E:Prop}{EF om:Option LI}{K:Act->World->Prop}{P:Program}{W W':World}{a:Act}{l l0 l1 l2 m m':LI}{o:Oper}{ops:Array Oper}{p:OA}{row:Option Nat}{s x:Int}{sh sh':Bool}{u v v0 v1 v2:Value}{vs:List Value}
def NM(nd:aC):Prop:=(nd.path.length<=136/\nd.value.length<=41/\nd.holders.length<=51)/\(0<=nd.mode/\nd.mode<=3)/\(0<=nd.owner/\nd.owner<18446744073709551616)/\(0<=nd.aJ/\nd.aJ<18446744073709551616)/\(0<=nd.gen/\nd.gen<18446744073709551616)/\∀i∈nd.holders,0<=i/\i<18446744073709551616
structure SmW(ss:List aP)(ns:List aC):Prop where
 n1:ss.length<=51
 n2:ns.length<=201
 s:∀s∈ss,0<=s.1/\s.1<18446744073709551616
 d:∀nd∈ns,NM nd
open Go.ChangeShapes Go.WideShapes Go.ChangeAt Go.RowKit Go.Proofs.Tryz
def le(v:Int):Nat->LI
 |0=>[]
 |n+1=>v % 256::le (v / 256) n
def dE(v:Int)(n:Nat):(le v n).length=n:=by induction n generalizing v with|zero=>rfl|succ n ih=>simp[le,ih]
theorem GW(v:Int)(n:Nat):aN (le v n):=by
 induction n generalizing v with
 |zero=>intro z hz;simp[le]at hz
 |succ n ih=>
  intro z hz;simp only[le,jG]at hz;rcases hz with rfl|hz;{omega};{exact ih _ z hz}
theorem aD2(v:Int)(n:Nat):le v (n+1)=le v n++[v / 256 ^ n % 256]:=by
 induction n generalizing v with
 |zero=>simp[le]
 |succ n ih=>
  rw[le,ih,le,D6];rw[aO2 ae,VQ,Int.mul_comm]
def aN.append(h:aN l)(k:aN m):aN (l++m):=λz hz=>by
 rcases gM.1 hz with a|a;{exact h z a};{exact k z a}
theorem pR(n:Nat)(v:Int)(w:World)(hn:n<=8)(h0:0<=v)(h1:v<18446744073709551616):Calls prog 79 #[.U v,.I n] w λe w'=>∃p c,e=.returned (.S p n c)/\Own w.heap.size w' (.S p n c) (le v n)/\Bw w w':=by
 induction n generalizing v w with
 |zero=>
  go_in
  go_wp2;go_ret;exact⟨none,0,rfl,gC _ _ _ _,cR _ _⟩
 |succ n ih=>
  have cg:(((n+1:Nat):Int)==0)=false:=Wd.2 ae
  go_in
  go_wp2_with fail;refine(ih (v / 256) _ ae ae ae).mono ?_;rintro e w1⟨p1,c1,rfl,o1,aA⟩;have b1:Bw w w1:=aj (au.alloc ao _) aA;have o2:Own w.heap.size w1 (.T w.heap.size 1 1) [v % 256]:=Own.below (Own.one w (v % 256)) aA;have r1:=o1.rd;have hz:=b1.size;clear o1 aA;go_wp2_with(at_builtin;refine bQ rfl rfl (.T w.heap.size 1 1) (lm:=le v (n+1)) bq p1 c1 n (by show _=_;exact dE _ _) rfl rfl o2 r1 (by rw[dE];simp;omega) hz ?_);intro p' c' w2 ho hg;have b2:=dz b1 hg o2 ao hz;rw[dE]at ho⊢;clear b1 hg o2 r1;go_wp2;go_ret;exact⟨p',c',rfl,ho,b2⟩
def kV{n:Nat}{v:Int}{w:World}(hn:n<=8)(h0:0<=v)(h1:v<18446744073709551616):Calls prog 163 #[.U v,.I n] w λe w'=>∃p c,e=.returned (.S p n c)/\Own w.heap.size w' (.S p n c) (le v n)/\Bw w w':=by
 go_in
 go_wp2
 go_loopw[0,5,7](λnn ov i wr=>∃(k:Nat)(p:OA)(c:Nat)(l:LI)(u:Int),k<=n/\i=.I k/\nn=.U u/\Hid (u=v / 256 ^ k)/\0<=u/\u<18446744073709551616/\Hid (l=le v k)/\l.length=k/\ov=.S p k c/\Own w.heap.size wr (.S p k c) l/\Bw w wr) (λ_ _ i _=>n-(intOf i).toNat)
 exact⟨0,none,0,[],v,fN _,rfl,rfl,by show _=_;simp,h0,h1,rfl,rfl,rfl,gC _ _ _ _,cR _ _⟩;{
 obtain⟨k,p,c,l,u,hk,rfl,rfl,eu,u0,u1,el,hl,rfl,ho,aK⟩:=hrel;by_cases aT:k<n;{
 obtain⟨lm,aI3⟩:=az (l++[u % 256]);have Uk:lm.length=k+1:=by simp[aI3,hl]
 have HLM:=af Uk;have el2:Hid (lm=le v (k+1)):=by show _=_;rw[aI3,aa el,aa eu,aD2]
 have eu2:Hid (u / 256=v / 256 ^ (k+1)):=by show _=_;rw[aa eu,aO2 (Int.pow_nonneg ae),VQ]
 have vr:=af aI3;clear Uk el aI3 eu;go_wp2_with(at_builtin;refine fo rfl rfl (.S p k c) vr wr.heap.size rfl rfl (Own.below ho (au.alloc ao _)) ai ae (by have:=aK.size;simp;omega) ?_);intro p' c' w2 mV gi;have b2:Bw w w2:=(aK.alloc aK.size (.cells #[.int .u8 (u % 256)] 5)).grown gi (by have:=aK.size;simp;omega) (λk hk=>(ho.lt k hk).1);simp only[aa HLM];have ho3:Own w.heap.size w2 (.S p' (k+1) c') lm:=by have h2:=mV;simp only[aa HLM]at h2;exact h2
 clear mV gi ho aK hl vr;go_wp2;go_roundw;exact⟨k+1,p',c',lm,u / 256,ae,by go_num,by first|rfl|go_num,eu2,ae,ae,el2,HLM,rfl,ho3,b2⟩;exact bM};{have e:k=n:=ae;subst e;rw[aa el]at ho;clear el hl eu;go_wp2;go_ret;exact⟨p,c,rfl,ho,aK⟩}}
def cE3(a b c:LI):cat [a,b,c]=a++b++c:=by simp[cat]
def cE2(a b c d:LI):cat [a,b,c,d]=a++b++c++d:=by simp[cat]
def sm(l:LI):LI:=l++le (ck l) 4
def vK:(sm l).length=l.length+4:=by simp[sm,dE]
def ZG(h:aN l):aN (sm l):=h.append (GW _ _)
theorem aX5{w:World}(c0:w.cell? (Ad g 0)=some v0)(c1:w.cell? (Ad g 1)=some v1)(c2:w.cell? (Ad g 2)=some v2)(r0:Rd w v0 l0)(r1:Rd w v1 l1)(r2:Rd w v2 l2):lQ w g [v0,v1,v2] [l0,l1,l2]:=by
 refine⟨rfl,λj v x e1 e2=>?_⟩
 match j,e1,e2 with
 |0,e1,e2=>simp at e1 e2;subst e1 e2;exact⟨c0,r0⟩
 |1,e1,e2=>simp at e1 e2;subst e1 e2;exact⟨c1,r1⟩
 |2,e1,e2=>simp at e1 e2;subst e1 e2;exact⟨c2,r2⟩
theorem aX4{w:World}{v3:Value}{l3:LI}(c0:w.cell? (Ad g 0)=some v0)(c1:w.cell? (Ad g 1)=some v1)(c2:w.cell? (Ad g 2)=some v2)(c3:w.cell? (Ad g 3)=some v3)(r0:Rd w v0 l0)(r1:Rd w v1 l1)(r2:Rd w v2 l2)(r3:Rd w v3 l3):lQ w g [v0,v1,v2,v3] [l0,l1,l2,l3]:=by
 refine⟨rfl,λj v x e1 e2=>?_⟩
 match j,e1,e2 with
 |0,e1,e2=>simp at e1 e2;subst e1 e2;exact⟨c0,r0⟩
 |1,e1,e2=>simp at e1 e2;subst e1 e2;exact⟨c1,r1⟩
 |2,e1,e2=>simp at e1 e2;subst e1 e2;exact⟨c2,r2⟩
 |3,e1,e2=>simp at e1 e2;subst e1 e2;exact⟨c3,r3⟩
def Fj{c n:Nat}(en:Hid (l.length=n)){w:World}(h:Rd w (.S p n c) l)(hb:aN l)(hl:n<=2097152):Calls prog 164 #[.S p n c] w λe w'=>∃p' c',e=.returned (.S p' (n+4) c')/\Own w.heap.size w' (.S p' (n+4) c') (sm l)/\Bw w w':=by
 have e1:=aa en;subst e1;obtain⟨k0,k1⟩:=WE l
 go_in
 go_wp2_with fail;refine(Ud (p:=p) (c:=c) (l:=l) h hb ae).mono ?_;rintro e w1⟨rfl,b1⟩;go_wp2_with fail;refine(kV (n:=4) (v:=ck l) ae k0 ae).mono ?_;rintro e w2⟨p2,c2,rfl,o2,aD⟩;have b2:=aj b1 aD;have r0:=h.below b2;have r2:=o2.rd;clear h b1 aD o2;go_wp2_with fail;refine(gv (g:=w2.heap.size) (vs:=[.S p l.length c,.S p2 4 c2]) [l,le (ck l) 4] (lm:=sm l) (n:=l.length+4) 2 rfl (by show _=_;rw[Ny];rfl) (by show _=_;exact vK (l:=l)) (aa4 ai ai (r0.below (au.alloc ao _)) (r2.below (au.alloc ao _))) ae ae).mono ?_;rintro e w3⟨p3,c3,rfl,o3,aL⟩;have b3:=aj (b2.alloc b2.size _) aL;have o4:Own w.heap.size w3 (.S p3 (l.length+4) c3) (sm l):=Own.mono o3 (by have:=b2.size;simp;omega);clear r0 r2 b2 aL o3;go_wp2;go_ret;exact⟨p3,c3,rfl,o4,b3⟩
def Fx{c n:Nat}(en:Hid (l.length=n)){w:World}(h:Rd w (.S p n c) l)(hb:aN l)(hl:n<=2097152):Calls prog 80 #[.S p n c] w λe w'=>∃p' c',e=.returned (.S p' (n+4) c')/\Own w.heap.size w' (.S p' (n+4) c') (sm l)/\Bw w w':=by
 have e1:=aa en;subst e1;obtain⟨k0,k1⟩:=WE l
 go_in
 go_wp2_with fail;refine(xT h ae).mono ?_;rintro e w1⟨p1,c1,rfl,o1,b1⟩;go_wp2_with fail;refine(Tm (h.below b1) hb ae).mono ?_;rintro e w2⟨rfl,aD⟩;have b2:=aj b1 aD;have o2:=Own.below o1 aD;clear h b1 aD o1;go_wp2_with fail;refine(pR 4 (ck l) _ ae k0 ae).mono ?_;rintro e w3⟨p3,c3,rfl,o3,aL⟩;have b3:=aj b2 aL;have o4:=Own.below o2 aL;have r3:=o3.rd;have hz:=b3.size;clear b2 aL o2 o3;go_wp2_with(at_builtin;refine bQ rfl rfl (.S p1 l.length c1) (lm:=sm l) bq p3 c3 4 (by show _=_;exact dE _ _) rfl rfl o4 r3 (by rw[dE];omega) hz ?_);intro p' c' w5 ho hg;have b5:=dz b3 hg o4 ao hz;rw[vK]at ho⊢;clear b3 hg o4 r3;go_wp2;go_ret;exact⟨p',c',rfl,ho,b5⟩
abbrev zE(s:Int)(v:Value):Value:=.agg #[.U s,v]
def kJ(s:Int)(l:LI):LI:=le l.length 2++le s 8++l
def DT(s:Int)(l:LI):LI:=sm (kJ s l)
def Cf:LI:=[76,72,83,49]
def mI:Cf.length=4:=rfl
def jg(s:Int)(l:LI):LI:=Cf++le s 8++le l.length 4++l
def dr(s:Int)(l:LI):LI:=sm (jg s l)
def kI(s:Int)(l:LI):(kJ s l).length=l.length+10:=by simp[kJ,dE];omega
def CK(s:Int)(l:LI):(DT s l).length=l.length+14:=by rw[DT,vK,kI]
def jY(s:Int)(l:LI):(jg s l).length=l.length+16:=by simp[jg,dE,mI];omega
def ju(s:Int)(l:LI):(dr s l).length=l.length+20:=by rw[dr,vK,jY]
def uG(h:aN l):aN (kJ s l):=((GW _ _).append (GW _ _)).append h
def Pl(h:aN l):aN (DT s l):=ZG (uG h)
def sK(h:aN l):aN (jg s l):=by
 refine aN.append (aN.append (aN.append ?_ (GW _ _)) (GW _ _)) h;intro z hz;simp[Cf]at hz;omega
def JQ(h:aN l):aN (dr s l):=ZG (sK h)
def AG(w:World)(C:Array Value)(e:TypeId)(fr:Nat×Nat)(i:Nat):(w.alloc (.cells C e fr)).cell? (Ad w.heap.size i)=C[i]?:=by
 have h:(w.alloc (.cells C e fr)).heap[w.heap.size]?=some (.cells C e fr):=by show(w.heap.push (.cells C e fr))[w.heap.size]?=_;simp
 unfold World.cell?;rw[h]
 rfl
theorem Dn{c n:Nat}(en:Hid (l.length=n)){w:World}(h:Rd w (.S p n c) l)(hb:aN l)(hl:n<=2000000)(s0:0<=s)(s1:s<18446744073709551616):Calls prog 101 #[.U s,.S p n c] w λe w'=>∃p' c',e=.returned (.S p' (n+20) c')/\Own w.heap.size w' (.S p' (n+20) c') (dr s l)/\Bw w w':=by
 go_in
 go_wp2_with fail;refine(kV (n:=4) (v:=n) ae ae ae).mono ?_;rintro e w1⟨p1,c1,rfl,o1,aA⟩;have hcv:=Lib.run_convert_bytes_const (P:=prog) w1 22 5 #[.int .u8 76,.int .u8 72,.int .u8 83,.int .u8 49] 4 4 underlying22 underlying5;simp only[show(#[Value.int .u8 76,.int .u8 72,.int .u8 83,.int .u8 49]:Array Value).size=4 from rfl]at hcv;have r0:Rd (w1.alloc (.cells #[.int .u8 76,.int .u8 72,.int .u8 83,.int .u8 49] 5 (4,5))) (.T w1.heap.size 4 4) Cf:=by
  refine⟨_,_,rfl,.inr ⟨w1.heap.size,0,rfl,λi hi=>?_⟩⟩;rw[mI]at hi
  match i,hi with
  |0,_=>(rw[kS,AG];rfl)
  |1,_=>(rw[kS,AG];rfl)
  |2,_=>(rw[kS,AG];rfl)
  |3,_=>(rw[kS,AG];rfl)
 have HR:=af r0;have bA:Bw w1 (w1.alloc (.cells #[.int .u8 76,.int .u8 72,.int .u8 83,.int .u8 49] 5 (4,5))):=au.alloc ao _;have b0:=aj aA bA;clear r0;go_wp2_with fail;refine(kV (n:=8) (v:=s) ae s0 s1).mono ?_;rintro e w2⟨p2,c2,rfl,o2,aD⟩;have b2:=aj b0 aD;have rm:=HR.below aD;have rb:=h.below b2;have r1:=(o1.rd.below bA).below aD;have r2:=o2.rd;have HB:=af hb;have enn:=aa en;clear aA o1 bA b0 aD o2 h hb HR;go_wp2_with fail;refine(gv (g:=w2.heap.size) (vs:=[.T w1.heap.size 4 4,.S p2 8 c2,.S p1 4 c1,.S p n c]) [Cf,le s 8,le n 4,l] (lm:=jg s l) (n:=n+16) 4 rfl (by show _=_;rw[cE2,jg,aa en]) (by show _=_;rw[jY,aa en]) (aX4 ai ai ai ai (rm.below (au.alloc ao _)) (r2.below (au.alloc ao _)) (r1.below (au.alloc ao _)) (rb.below (au.alloc ao _))) ae ae).mono ?_;rintro e w3⟨p3,c3,rfl,o3,aL⟩;have b3:=aj (b2.alloc b2.size _) aL;have r3:=o3.rd;clear b2 aL o3 rm r2 r1 rb;go_wp2_with fail;refine(Fj (p:=p3) (c:=c3) (n:=n+16) (l:=jg s l) (by show _=_;rw[jY,aa en]) r3 (sK (aa HB)) ae).mono ?_;rintro e w4⟨p4,c4,rfl,o4,dS⟩;have b4:=aj b3 dS;have o5:Own w.heap.size w4 (.S p4 (n+20) c4) (dr s l):=Own.mono o4 b3.size;clear b3 dS o4 r3;go_wp2;go_ret;exact⟨p4,c4,rfl,o5,b4⟩
def CF{c n:Nat}(en:Hid (l.length=n)){w:World}(h:Rd w (.S p n c) l)(hb:aN l)(hl:n<=2000000)(s0:0<=s)(s1:s<18446744073709551616):Calls prog 40 #[.U s,.S p n c] w λe w'=>∃p' c',e=.returned (.S p' (n+20) c')/\Own w.heap.size w' (.S p' (n+20) c') (dr s l)/\Bw w w':=by
 have enn:=aa en;have HH:=af h;clear h;have r0:Own w.heap.size (w.alloc (.cells #[.int .u8 76,.int .u8 72,.int .u8 83,.int .u8 49] 5)) (.T w.heap.size 4 4) Cf:=
  ad1 w #[.int .u8 76,.int .u8 72,.int .u8 83,.int .u8 49] 4 ao iF rfl
 have HR:=af r0;clear r0
 go_in
 go_wp2_with fail;refine(pR 8 s _ ae s0 s1).mono ?_;rintro e w1⟨p1,c1,rfl,o1,aA⟩;have b1:Bw w w1:=aj (au.alloc ao _) aA;have q1:=Own.below HR aA;have r1:=o1.rd;have z1:=b1.size;have el1:(Cf++le s 8).length=12:=by simp[dE,mI]
 clear HR o1 aA;go_wp2_with(at_builtin;refine bQ rfl rfl (B:=w.heap.size) (.T w.heap.size 4 4) (l:=Cf) (m:=le s 8) (lm:=Cf++le s 8) bq p1 c1 8 (by show _=_;exact dE _ _) rfl rfl q1 r1 (by rw[dE,mI];omega) z1 ?_);intro p2 c2 w2 o2 gi;have b2:=dz b1 gi q1 ao z1;have z2:=b2.size;clear b1 gi q1 r1
 try rw[el1]at o2⊢
 go_wp2_with fail;refine(pR 4 n _ ae ae ae).mono ?_;rintro e w3⟨p3,c3,rfl,o3,aL⟩;have b3:=aj b2 aL;have q3:=Own.below o2 aL;have r3:=o3.rd;have z3:=b3.size;have el3:(Cf++le s 8++le n 4).length=16:=by simp[dE,mI]
 clear b2 aL o2 o3;go_wp2_with(at_builtin;refine bQ rfl rfl (B:=w.heap.size) (.S p2 12 c2) (l:=Cf++le s 8) (m:=le n 4) (lm:=Cf++le s 8++le n 4) bq p3 c3 4 (by show _=_;exact dE _ _) rfl rfl q3 r3 (by rw[dE,el1];omega) z3 ?_);intro p4 c4 w4 o4 tL;have b4:=dz b3 tL q3 ao z3;have z4:=b4.size;have r4:Rd w4 (.S p n c) l:=HH.below b4;have el4:(jg s l).length=n+16:=by rw[jY,aa en]
 clear b3 tL q3 r3
 try rw[el3]at o4⊢
 go_wp2_with(at_builtin;refine bQ rfl rfl (B:=w.heap.size) (.S p4 16 c4) (l:=Cf++le s 8++le n 4) (m:=l) (lm:=jg s l) (by show _=_;rw[jg,aa en]) p c n en rfl rfl o4 r4 (by rw[el3];omega) z4 ?_);intro p5 c5 w5 o5 uo;have b5:=dz b4 uo o4 ao z4;have HB:=af hb;clear b4 uo o4 r4 hb
 try rw[el4]at o5⊢
 go_wp2_with fail;refine(Fx (p:=p5) (c:=c5) (n:=n+16) (l:=jg s l) (by show _=_;exact el4) o5.rd (sK HB) ae).mono ?_;rintro e w6⟨p6,c6,rfl,o6,ky⟩;have b6:=aj b5 ky;have o7:Own w.heap.size w6 (.S p6 (n+20) c6) (dr s l):=Own.mono o6 b5.size;clear b5 ky o6 o5;go_wp2;go_ret;exact⟨p6,c6,rfl,o7,b6⟩
def DG{p q:OA}{c d n:Nat}(en:Hid (l.length=n)){w:World}(h1:rD w (.S p n c) l)(h2:rD w (.S q n d) l)(hn:Mg n):Calls prog 176 #[.S p n c,.S q n d] w (Rb (.bool true) w):=by
 have HR:=af λ(w':World)(hb:Bw w w')=>ah (h1.below hb) (h2.below hb);have cg:((n:Int) != (n:Int))=false:=ai
 go_in
 go_wp2
 go_loopw[5](λi wr=>∃k:Nat,k<=n/\i=.I k/\Bw w wr) (λi _=>n-(intOf i).toNat)
 exact⟨0,fN _,rfl,cR _ _⟩;{
 obtain⟨k,hk,rfl,aK⟩:=hrel;by_cases aT:k<n;{
 have i1:=aS k n;have fh:k<l.length:=aa en▸aT;have key:∀(p:OA)(c:Nat),rD wr (.S p n c) l->∃b o,p=some (Ad b o)/\wr.cell? (Ad b (o+k))=some (.U (l.getD k 0)):=λp c h=>by obtain⟨p',c',ev,hd⟩:=h;obtain⟨rfl,-,-⟩:=js ev;rcases hd with h0|⟨b,o,h1,h2⟩;{rw[h0]at fh;simp at fh};{exact⟨b,o,h1,h2 k fh⟩}
 obtain⟨b1,o1,rfl,g1⟩:=key p c (aa HR _ aK).1;obtain⟨b2,o2,rfl,g2⟩:=key q d (aa HR _ aK).2;obtain⟨y,ey⟩:=aI (l.getD k 0);rw[ey]at g1 g2;have hb:(y != y)=false:=ai;go_wp2
 go_quiet (fail)
 go_wp2;go_roundw;exact⟨k+1,ae,by go_num,below_drewN aK⟩;exact bM};{have fh:=dm k n;go_wp2;go_ret;exact⟨rfl,aK⟩}}
def UG{p q:OA}{c d n:Nat}{l:List Ev}(en:Hid (l.length=n)){w:World}(h1:Oo w (.S p n c) l)(h2:Oo w (.S q n d) l)(hn:n<=0)(vd:Hid (∀y∈l,y.2.length<=1048576)):Calls prog 175 #[.S p n c,.S q n d] w (Rb (.bool true) w):=by
 have HR:=af λ(w':World)(hb:Bw w w')=>ah (h1.below hb) (h2.below hb);have cg:((n:Int) != (n:Int))=false:=ai
 go_in
 go_wp2_with fail
 go_loopw[5](λi wr=>∃k:Nat,k<=n/\i=.I k/\Bw w wr) (λi _=>n-(intOf i).toNat)
 exact⟨0,fN _,rfl,cR _ _⟩;{obtain⟨k,hk,rfl,aK⟩:=hrel;by_cases aT:k<n;{exact absurd aT ae};{have fh:=dm k n;go_wp2;go_ret;exact⟨rfl,aK⟩}}
def Rg{I D:Int}{p q:OA}{c d n:Nat}{Q:List Ev}(en:Hid (Q.length=n)){w:World}(h1:Oo w (.S p n c) Q)(h2:Oo w (.S q n d) Q)(hn:n<=0)(vd:Hid (∀y∈Q,y.2.length<=1048576)):Calls prog 112 #[.agg #[.U I,.I D,.S p n c],.agg #[.U I,.I D,.S q n d]] w (Rb (.bool true) w):=by
 have b1:Bw w ((w.alloc (.cells #[.U I,.I D,.S p n c] 84)).alloc (.cells #[.U I,.I D,.S q n d] 84)):=(au.alloc ao _).alloc ai _;have HR:=af (ah (h1.below b1) (h2.below b1));have e1:(I != I)=false:=ai;have e2:(D != D)=false:=ai
 go_in
 go_wp2_with fail;refine(UG en (by exact HR.1) (by exact HR.2) hn vd).mono ?_;rintro r w1⟨rfl,aA⟩;have b2:=aj b1 aA;go_wp2;go_ret;exact⟨rfl,b2⟩
def Ni{p q:OA}{c d n:Nat}{l:List aP}(en:Hid (l.length=n)){w:World}(h1:yL w (.S p n c) l)(h2:yL w (.S q n d) l)(hn:Mg n)(vd:Hid (∀y∈l,y.2.2.length<=0/\∀e∈y.2.2,e.2.length<=1048576)):Calls prog 55 #[.S p n c,.S q n d] w (Rb (.bool true) w):=by
 have HR:=af λ(w':World)(hb:Bw w w')=>ah (h1.below hb) (h2.below hb);have cg:((n:Int) != (n:Int))=false:=ai
 go_in
 go_wp2_with fail
 go_loopw[5](λi wr=>∃k:Nat,k<=n/\i=.I k/\Bw w wr) (λi _=>n-(intOf i).toNat)
 exact⟨0,fN _,rfl,cR _ _⟩;{
 obtain⟨k,hk,rfl,aK⟩:=hrel;by_cases aT:k<n;{
 have i1:=aS k n;have fh:k<l.length:=aa en▸aT;obtain⟨y,hy⟩:=mR fh;have gq:=aa vd y (aY hy);obtain⟨I,D,Q⟩:=y;have key:∀(p:OA)(c:Nat),yL wr (.S p n c) l->∃b o,p=some (Ad b o)/\wr.cell? (Ad b (o+k*3))=some (.U I)/\wr.cell? (Ad b (o+k*3+1))=some (.I D)/\∃u,wr.cell? (Ad b (o+k*3+2))=some u/\Oo wr u Q:=λp c h=>by obtain⟨p',c',ev,hd⟩:=h;obtain⟨rfl,-,-⟩:=js ev;rcases hd with h0|⟨b,o,h1,h2⟩;{rw[h0]at fh;simp at fh};{exact⟨b,o,h1,h2 k _ hy⟩}
 obtain⟨b1,o1,rfl,z1,z2,u1,z3,r1⟩:=key p c (aa HR _ aK).1;obtain⟨b2,o2,rfl,x1,x2,u2,x3,r2⟩:=key q d (aa HR _ aK).2;obtain⟨p1,c1,rfl,-⟩:=id r1;obtain⟨p2,c2,rfl,-⟩:=id r2;obtain⟨m,em⟩:=aI Q.length;rw[em]at r1 r2 z3 x3;have hm:m<=0:=em▸gq.1;have EM:=af em;have HEL:Hid (∀y∈Q,y.2.length<=1048576):=gq.2;have HRR:=af (ah r1 r2);have K0:=af (ah z1 (ah z2 (ah z3 (ah x1 (ah x2 x3)))));go_wp2_with fail;refine dC (λw'=>w'.cell? (Ad b1 (o1+k*3))=some (.U I)/\w'.cell? (Ad b1 (o1+k*3+1))=some (.I D)/\w'.cell? (Ad b1 (o1+k*3+2))=some (.S p1 m c1)/\w'.cell? (Ad b2 (o2+k*3))=some (.U I)/\w'.cell? (Ad b2 (o2+k*3+1))=some (.I D)/\w'.cell? (Ad b2 (o2+k*3+2))=some (.S p2 m c2)) (by exact K0) λhS=>?_;refine nK 0 1 2 3 4 5 6 7 hS ?_;refine dM 8 λKK hK=>?_;refine yZ (Rg EM (HRR.1.below au.drew) (HRR.2.below au.drew) hm HEL) ?_;rintro r w2⟨rfl,aD⟩;refine⟨_,rfl,?_⟩;have bR:Bw wr w2:=aj (cR wr.heap.size wr).drew aD;refine gr hK (by obtain⟨k0,k1,k2,k3,k4,k5⟩:=aa K0;exact⟨ag k0 bR,ag k1 bR,ag k2 bR,ag k3 bR,ag k4 bR,ag k5 bR⟩) λhS=>?_;refine tn 9 hS ?_;refine dw ?_;have b2:=aj aK bR;go_wp2;go_roundw;exact⟨k+1,ae,by go_num,b2⟩;exact bM};{have fh:=dm k n;go_wp2;go_ret;exact⟨rfl,aK⟩}}
def ap4{ow mo ep ge:Int}{pp pv ph pu qp qv qh qu:OA}{a1 a2 a3 a4 d1 d2 d3 d4 n1 n2 n3 n4:Nat}{P V H U:LI}(e1:Hid (P.length=n1))(e2:Hid (V.length=n2))(e3:Hid (H.length=n3))(e4:Hid (U.length=n4)){w:World}(h1:Rd w (.S pp n1 a1) P/\Rd w (.S pv n2 a2) V/\rD w (.S ph n3 a3) H/\rD w (.S pu n4 a4) U)(h2:Rd w (.S qp n1 d1) P/\Rd w (.S qv n2 d2) V/\rD w (.S qh n3 d3) H/\rD w (.S qu n4 d4) U)(m1:Mg n1)(m2:Mg n2)(m3:Mg n3)(m4:Mg n4):Calls prog 113 #[ndV (.S pp n1 a1) (.S pv n2 a2) ow mo (.S ph n3 a3) ep ge (.S pu n4 a4),ndV (.S qp n1 d1) (.S qv n2 d2) ow mo (.S qh n3 d3) ep ge (.S qu n4 d4)] w (Rb (.bool true) w):=by
 obtain⟨W,hW⟩:=az ((w.alloc (.cells #[.S pp n1 a1,.S pv n2 a2,.U ow,.I mo,.S ph n3 a3,.U ep,.U ge,.S pu n4 a4] 119)).alloc (.cells #[.S qp n1 d1,.S qv n2 d2,.U ow,.I mo,.S qh n3 d3,.U ep,.U ge,.S qu n4 d4] 119));have bW:Bw w W:=hW▸(au.alloc ao _).alloc ai _;have HR:=af λ(w':World)(hb:Bw w w')=>ah (ah (h1.1.below hb) (ah (h1.2.1.below hb) (ah (h1.2.2.1.below hb) (h1.2.2.2.below hb)))) (ah (h2.1.below hb) (ah (h2.2.1.below hb) (ah (h2.2.2.1.below hb) (h2.2.2.2.below hb))));have k0:W.cell? (Ad w.heap.size 0)=some (.S pp n1 a1):=by rw[hW];simp
 have k1:W.cell? (Ad w.heap.size 1)=some (.S pv n2 a2):=by rw[hW];simp
 have k2:W.cell? (Ad w.heap.size 2)=some (.U ow):=by rw[hW];simp
 have k3:W.cell? (Ad w.heap.size 3)=some (.I mo):=by rw[hW];simp
 have k4:W.cell? (Ad w.heap.size 4)=some (.S ph n3 a3):=by rw[hW];simp
 have k5:W.cell? (Ad w.heap.size 5)=some (.U ep):=by rw[hW];simp
 have k6:W.cell? (Ad w.heap.size 6)=some (.U ge):=by rw[hW];simp
 have k7:W.cell? (Ad w.heap.size 7)=some (.S pu n4 a4):=by rw[hW];simp
 have j0:W.cell? (Ad (w.heap.size+1) 0)=some (.S qp n1 d1):=by rw[hW];simp
 have j1:W.cell? (Ad (w.heap.size+1) 1)=some (.S qv n2 d2):=by rw[hW];simp
 have j2:W.cell? (Ad (w.heap.size+1) 2)=some (.U ow):=by rw[hW];simp
 have j3:W.cell? (Ad (w.heap.size+1) 3)=some (.I mo):=by rw[hW];simp
 have j4:W.cell? (Ad (w.heap.size+1) 4)=some (.S qh n3 d3):=by rw[hW];simp
 have j5:W.cell? (Ad (w.heap.size+1) 5)=some (.U ep):=by rw[hW];simp
 have j6:W.cell? (Ad (w.heap.size+1) 6)=some (.U ge):=by rw[hW];simp
 have j7:W.cell? (Ad (w.heap.size+1) 7)=some (.S qu n4 d4):=by rw[hW];simp
 have q1:(ow != ow)=false:=ai;have q2:(mo != mo)=false:=ai;have q3:(ep != ep)=false:=ai;have q4:(ge != ge)=false:=ai
 go_in
 go_wp2_with fail;rw[<-hW];refine(KP e1 (aa HR _ bW).1.1 (aa HR _ bW).2.1 ae).mono ?_;rintro r w1⟨rfl,aA⟩;have b1:=aj bW aA;replace k0:=ag k0 aA;replace k1:=ag k1 aA;replace k2:=ag k2 aA;replace k3:=ag k3 aA;replace k4:=ag k4 aA;replace k5:=ag k5 aA;replace k6:=ag k6 aA;replace k7:=ag k7 aA;replace j0:=ag j0 aA;replace j1:=ag j1 aA;replace j2:=ag j2 aA;replace j3:=ag j3 aA;replace j4:=ag j4 aA;replace j5:=ag j5 aA;replace j6:=ag j6 aA;replace j7:=ag j7 aA;go_wp2_with fail;refine(KP e2 (aa HR _ b1).1.2.1 (aa HR _ b1).2.2.1 ae).mono ?_;rintro r w2⟨rfl,aD⟩;have b2:=aj b1 aD;replace k0:=ag k0 aD;replace k1:=ag k1 aD;replace k2:=ag k2 aD;replace k3:=ag k3 aD;replace k4:=ag k4 aD;replace k5:=ag k5 aD;replace k6:=ag k6 aD;replace k7:=ag k7 aD;replace j0:=ag j0 aD;replace j1:=ag j1 aD;replace j2:=ag j2 aD;replace j3:=ag j3 aD;replace j4:=ag j4 aD;replace j5:=ag j5 aD;replace j6:=ag j6 aD;replace j7:=ag j7 aD;go_wp2_with fail;refine(DG e3 (aa HR _ b2).1.2.2.1 (aa HR _ b2).2.2.2.1 m3).mono ?_;rintro r w3⟨rfl,aL⟩;have b3:=aj b2 aL;replace k0:=ag k0 aL;replace k1:=ag k1 aL;replace k2:=ag k2 aL;replace k3:=ag k3 aL;replace k4:=ag k4 aL;replace k5:=ag k5 aL;replace k6:=ag k6 aL;replace k7:=ag k7 aL;replace j0:=ag j0 aL;replace j1:=ag j1 aL;replace j2:=ag j2 aL;replace j3:=ag j3 aL;replace j4:=ag j4 aL;replace j5:=ag j5 aL;replace j6:=ag j6 aL;replace j7:=ag j7 aL;go_wp2_with fail;refine(DG e4 (aa HR _ b3).1.2.2.2 (aa HR _ b3).2.2.2.2 m4).mono ?_;rintro r w4⟨rfl,dS⟩;have b4:=aj b3 dS;go_wp2;go_ret;exact⟨rfl,b4⟩
def Yb{p q:OA}{c d n:Nat}{l:List aC}(en:Hid (l.length=n)){w:World}(h1:oU w (.S p n c) l)(h2:oU w (.S q n d) l)(hn:Mg n)(vd:Hid (∀y∈l,y.path.length<=1048576/\y.value.length<=1048576/\y.holders.length<=1048576/\y.watchers.length<=1048576)):Calls prog 56 #[.S p n c,.S q n d] w (Rb (.bool true) w):=by
 have HR:=af λ(w':World)(hb:Bw w w')=>ah (h1.below hb) (h2.below hb);have cg:((n:Int) != (n:Int))=false:=ai
 go_in
 go_wp2_with fail
 go_loopw[5](λi wr=>∃k:Nat,k<=n/\i=.I k/\Bw w wr) (λi _=>n-(intOf i).toNat)
 exact⟨0,fN _,rfl,cR _ _⟩;{obtain⟨k,hk,rfl,aK⟩:=hrel;by_cases aT:k<n;{have i1:=aS k n;have fh:k<l.length:=aa en▸aT;obtain⟨y,hy⟩:=mR fh;have gq:=aa vd y (aY hy);obtain⟨b1,o1,rfl,hA⟩:=(aa HR _ aK).1.at ae;obtain⟨b2,o2,rfl,hB⟩:=(aa HR _ aK).2.at ae;obtain⟨P1,V1,H1,U1,na⟩:=hA k y hy;obtain⟨P2,V2,H2,U2,nb⟩:=hB k y hy;obtain⟨pp,a1,n1,rfl,e1⟩:=na.r0.iK;obtain⟨pv,a2,n2,rfl,e2⟩:=na.r1.iK;obtain⟨ph,a3,n3,rfl,e3⟩:=na.r4.iK;obtain⟨pu,a4,n4,rfl,e4⟩:=na.r7.iK;obtain⟨qp,d1,n1',rfl,e1'⟩:=nb.r0.iK;obtain⟨qv,d2,n2',rfl,e2'⟩:=nb.r1.iK;obtain⟨qh,d3,n3',rfl,e3'⟩:=nb.r4.iK;obtain⟨qu,d4,n4',rfl,e4'⟩:=nb.r7.iK;obtain rfl:n1=n1':=e1.symm.trans e1';obtain rfl:n2=n2':=e2.symm.trans e2';obtain rfl:n3=n3':=e3.symm.trans e3';obtain rfl:n4=n4':=e4.symm.trans e4';have m1:n1<=1048576:=aa e1▸gq.1;have m2:n2<=1048576:=aa e2▸gq.2.1;have m3:n3<=1048576:=aa e3▸gq.2.2.1;have m4:n4<=1048576:=aa e4▸gq.2.2.2;have HA:=af (ah na.r0 (ah na.r1 (ah na.r4 na.r7)));have HB:=af (ah nb.r0 (ah nb.r1 (ah nb.r4 nb.r7)));obtain⟨z0,z1,z2,z3,z4,z5,z6,z7,-,-,-,-,-⟩:=na;obtain⟨x0,x1,x2,x3,x4,x5,x6,x7,-,-,-,-,-⟩:=nb;obtain⟨ow,mo,ep,ge,g1,g2,g3,g4⟩:∃a b c d,y.owner=a/\y.mode=b/\y.aJ=c/\y.gen=d:=⟨_,_,_,_,rfl,rfl,rfl,rfl⟩;rw[g1]at z2 x2;rw[g2]at z3 x3;rw[g3]at z5 x5;rw[g4]at z6 x6;have K0:=af (ah z0 (ah z1 (ah z2 (ah z3 (ah z4 (ah z5 (ah z6 (ah z7 (ah x0 (ah x1 (ah x2 (ah x3 (ah x4 (ah x5 (ah x6 x7)))))))))))))));go_wp2_with fail;refine dC (λw'=>w'.cell? (Ad b1 (o1+k*8))=some (.S pp n1 a1)/\w'.cell? (Ad b1 (o1+k*8+1))=some (.S pv n2 a2)/\w'.cell? (Ad b1 (o1+k*8+2))=some (.U ow)/\w'.cell? (Ad b1 (o1+k*8+3))=some (.I mo)/\w'.cell? (Ad b1 (o1+k*8+4))=some (.S ph n3 a3)/\w'.cell? (Ad b1 (o1+k*8+5))=some (.U ep)/\w'.cell? (Ad b1 (o1+k*8+6))=some (.U ge)/\w'.cell? (Ad b1 (o1+k*8+7))=some (.S pu n4 a4)/\w'.cell? (Ad b2 (o2+k*8))=some (.S qp n1 d1)/\w'.cell? (Ad b2 (o2+k*8+1))=some (.S qv n2 d2)/\w'.cell? (Ad b2 (o2+k*8+2))=some (.U ow)/\w'.cell? (Ad b2 (o2+k*8+3))=some (.I mo)/\w'.cell? (Ad b2 (o2+k*8+4))=some (.S qh n3 d3)/\w'.cell? (Ad b2 (o2+k*8+5))=some (.U ep)/\w'.cell? (Ad b2 (o2+k*8+6))=some (.U ge)/\w'.cell? (Ad b2 (o2+k*8+7))=some (.S qu n4 d4)) (by exact K0) λhS=>?_;refine nK 0 1 2 3 4 5 6 7 hS ?_;refine dM 8 λKK hK=>?_;refine yZ (ap4 e1 e2 e3 e4 ⟨HA.1.below au.drew,HA.2.1.below au.drew,HA.2.2.1.below au.drew,HA.2.2.2.below au.drew⟩ ⟨HB.1.below au.drew,HB.2.1.below au.drew,HB.2.2.1.below au.drew,HB.2.2.2.below au.drew⟩ m1 m2 m3 m4) ?_;rintro r w2⟨rfl,aD⟩;refine⟨_,rfl,?_⟩;have bR:Bw wr w2:=aj (cR wr.heap.size wr).drew aD;refine gr hK (by obtain⟨k0,k1,k2,k3,k4,k5,k6,k7,k8,k9,k10,k11,k12,k13,k14,k15⟩:=aa K0;exact⟨ag k0 bR,ag k1 bR,ag k2 bR,ag k3 bR,ag k4 bR,ag k5 bR,ag k6 bR,ag k7 bR,ag k8 bR,ag k9 bR,ag k10 bR,ag k11 bR,ag k12 bR,ag k13 bR,ag k14 bR,ag k15 bR⟩) λhS=>?_;refine tn 9 hS ?_;refine dw ?_;have b2:=aj aK bR;go_wp2;go_roundw;exact⟨k+1,ae,by go_num,b2⟩;exact bM};{have fh:=dm k n;go_wp2;go_ret;exact⟨rfl,aK⟩}}
def Ya(e g x t:Int)(p q p' q':OA)(c n d m c' d':Nat)(ss:List aP)(ns:List aC)(en:Hid (ss.length=n))(em:Hid (ns.length=m))(w:World)(h:yL w (.S p n c) ss)(hN:oU w (.S q m d) ns)(h':yL w (.S p' n c') ss)(MX:oU w (.S q' m d') ns)(hn:Mg n)(hm:Mg m)(he1:Hid (∀y∈ss,y.2.2.length<=0/\∀e∈y.2.2,e.2.length<=1048576))(he2:Hid (∀y∈ns,y.path.length<=1048576/\y.value.length<=1048576/\y.holders.length<=1048576/\y.watchers.length<=1048576)):Calls prog 25 #[ft e g x t (.S p n c) (.S q m d),ft e g x t (.S p' n c') (.S q' m d')] w (Rb (.bool true) w):=by
 obtain⟨W,hW⟩:=az ((w.alloc (.cells #[.U e,.U g,.U x,.I t,.S p n c,.S q m d] 35)).alloc (.cells #[.U e,.U g,.U x,.I t,.S p' n c',.S q' m d'] 35));have bW:Bw w W:=hW▸(au.alloc ao _).alloc ai _;have HR:=af λ(w':World)(hb:Bw w w')=>ah (ah (h.below hb) (hN.below hb)) (ah (h'.below hb) (MX.below hb));have k5:W.cell? (Ad w.heap.size 5)=some (.S q m d):=by rw[hW];simp
 have j5:W.cell? (Ad (w.heap.size+1) 5)=some (.S q' m d'):=by rw[hW];simp
 have q1:(e != e)=false:=ai;have q2:(g != g)=false:=ai;have q3:(x != x)=false:=ai;have q4:(t != t)=false:=ai
 go_in
 go_wp2_with fail;rw[<-hW];refine(Ni en (aa HR _ bW).1.1 (aa HR _ bW).2.1 hn he1).mono ?_;rintro r w1⟨rfl,aA⟩;have b1:=aj bW aA;replace k5:=ag k5 aA;replace j5:=ag j5 aA;go_wp2_with fail;refine(Yb em (aa HR _ b1).1.2 (aa HR _ b1).2.2 hm he2).mono ?_;rintro r w2⟨rfl,aD⟩;have b2:=aj b1 aD;go_wp2;go_ret;exact⟨rfl,b2⟩
def iB{α:Type}(F:α->Nat)(l:List α):Nat:=(l.map F).sum
def WY{α:Type}(F:α->Nat){l:List α}{k:Nat}{y:α}(h:l[k]?=some y):iB F (l.take (k+1))=iB F (l.take k)+F y:=by
 rw[ni,h];simp[iB]
def Fv(s:aP):Nat:=s.2.2.length+iB (λe:Ev=>e.2.length) s.2.2
def Fw(nd:aC):Nat:=nd.path.length+nd.value.length+nd.holders.length+nd.watchers.length
def OJ(ss:List aP)(ns:List aC):Nat:=ss.length+iB Fv ss+(ns.length+iB Fw ns)
def num:LI->Int
 |[]=>0
 |b::l=>b+256*num l
theorem Gi(h:aN l):0<=num l/\num l<256 ^ l.length:=by
 induction l with
 |nil=>simp[num]
 |cons b l ih=>
  obtain⟨h0,h1⟩:=ih (λz hz=>h z (by simp[hz]));obtain⟨b0,b1⟩:=h b ai;simp only[num,iT,VQ];omega
def kM(h:aN l)(hl:l.length<=8):0<=num l/\num l<18446744073709551616:=by
 obtain⟨a,b⟩:=Gi h;refine⟨a,Int.lt_of_lt_of_le b ?_⟩;have h9:((256 ^ l.length:Nat):Int)<=18446744073709551616:=by have h8:=ad4 (n:=256) ae hl;have e:256 ^ 8=18446744073709551616:=rfl;omega
 rw[Int.natCast_pow]at h9;exact h9
def Vm{z k:Int}(z0:0<=z)(z1:z<256)(k0:0<=k)(h:z+256*k<18446744073709551616):IntKind.u64.wrap (IntKind.u64.wrap z+IntKind.u64.wrap (256*k))=z+256*k:=by
 rw[u64_wrap_id z z0 ae,u64_wrap_id (256*k) ae ae,u64_wrap_id _ ae h]
theorem tc(l:LI)(p:OA)(c n:Nat)(en:Hid (l.length=n))(w:World)(h:Rd w (.S p n c) l)(hb:aN l)(hn:n<=8)(hc:n<=c)(hm:c<=maxLen):Calls prog 64 #[.S p n c] w (Rb (.U (num l)) w):=by
 induction l generalizing p c n w with
 |nil=>
  have e:=aa en;subst e;clear h
  go_in
  go_wp2;go_ret;exact⟨rfl,cR _ _⟩
 |cons z l ih=>
  have e:n=l.length+1:=en.symm;have HE:=af e;obtain⟨b,o,rfl,-,cW⟩:=h.at ai;obtain⟨z0,z1⟩:=hb z ai;obtain⟨n0,n1⟩:=kM (l:=l) (λz hz=>hb z (by simp[hz])) ae;obtain⟨m0,m1⟩:=kM (l:=z::l) hb aU;have EN:num (z::l)=z+256*num l:=rfl;have c0:=cW 0 ai;simp at c0;have cg:((n:Int)==0)=false:=Wd.2 ae;have iW:=iH n c;have ku:=dA 1 n;have Ho:=qi 0 n;have Og:0<n:=ae;have Dz:1<=n:=ae;by_cases h1:c=1;{
 have um:n=1:=ae;subst h1 um;have IH:Hid (∀(w':World),Bw w w'->Cp 64 #[.S (some (Ad b o)) 0 0] w' λe w''=>e=.returned (.U (num l))/\Bw w' w''):=by intro w' bR;refine ih _ 0 0 (by show _=_;omega) w' ?_ (λz hz=>hb z (by simp[hz])) ae ae ae;refine(h.below bR).cut 1 1 ae ai _ (.inl ae) _ l ?_;rw[Jd (l:=l) ae];rfl
 have HN:=af EN;rw[EN]at m1;clear e ih h hb cW EN m0;unfold maxLen at hm
 go_in
 go_wp2_with fail
 go_region_held3 (λw'=>w'.cell? (Ad b o)=some (.int .u8 z)) (first|with_reducible exact c0|with_reducible exact c1|go_keep)
  (first|(go_at_call 64;refine(aa IH _ (by first|exact cR _ _|exact au.drew)).mono ?_;rintro e w1⟨rfl,aA⟩;have b1:Bw w w1:=(by first|exact aA|exact aj (cR w.heap.size w).drew aA);have c1:=ag c0 b1))
 clear IH c1;go_wp2;go_ret;exact⟨by rw[aa HN,<-Vm z0 z1 n0 m1];rfl,b1⟩};{
 have hcn:(c==1)=false:=by simp[h1]
 have IH:Hid (∀(w':World),Bw w w'->Cp 64 #[.S (some (Ad b (o+1))) (n-1) (c-1)] w' λe w''=>e=.returned (.U (num l))/\Bw w' w''):=by intro w' bR;refine ih _ (c-1) (n-1) (by show _=_;omega) w' ?_ (λz hz=>hb z (by simp[hz])) ae ae ae;refine(h.below bR).cut 1 n ae aU _ (.inr rfl) _ l ?_;rw[e];simp
 have HN:=af EN;rw[EN]at m1;clear e ih h hb cW EN m0;unfold maxLen at hm
 go_in
 go_wp2_with fail
 go_region_held3 (λw'=>w'.cell? (Ad b o)=some (.int .u8 z)) (first|with_reducible exact c0|with_reducible exact c1|go_keep)
  (first|(go_at_call 64;refine(aa IH _ (by first|exact cR _ _|exact au.drew)).mono ?_;rintro e w1⟨rfl,aA⟩;have b1:Bw w w1:=(by first|exact aA|exact aj (cR w.heap.size w).drew aA);have c1:=ag c0 b1))
 clear IH c1;go_wp2;go_ret;exact⟨by rw[aa HN,<-Vm z0 z1 n0 m1];rfl,b1⟩}
open Go.Shelf
attribute [local go_sem] Oper.semAt_some
abbrev IB:={z:Int×Int // 0<=z.2/\z.2<256}
def upto{α:Type}(f:Nat->α)(k:Nat):List α:=(List.range k).map f
def JH{α:Type}(f:Nat->α)(k:Nat):upto f (k+1)=upto f k++[f k]:=by simp[upto,af7]
def Oz{α:Type}(f:Nat->α)(k:Nat):(upto f k).length=k:=by simp[upto]
def aN.get(h:aN l)(i:Nat):0<=l[i]?.getD 0/\l[i]?.getD 0<256:=by
 by_cases hi:i<l.length;{simp[hi];exact h _ (Ac hi)};{simp[hi]}
def Er(n Bs:Nat)(A B:World):Prop:=Below n A B/\B.cell? (Ad Bs 0)=A.cell? (Ad Bs 0)
def Er.trans{n Bs:Nat}{A B C:World}(h:Er n Bs A B)(k:Er n Bs B C):Er n Bs A C:=⟨h.1.trans k.1,k.2.trans h.2⟩
def Er.refl(n Bs:Nat)(A:World):Er n Bs A A:=⟨cR _ _,rfl⟩
def Er.put{n Bs:Nat}{w:World}(hn:n<=w.heap.size)(hB:Bs<w.heap.size)(W:World)(l:Nat)(o o':Obj)(hl:w.heap.size<=l)(h:W.heap[l]?=some o)(h1:o.isCells=false)(h2:o.isWalk=false):Er n Bs W (W.putObj l o'):=
 ⟨belowK_b hn W l o o' hl h h1 h2,tJ (a:=(Ad Bs 0)) (World.putObj_heap_other (by show Bs≠l;omega))⟩
def Rw(l:LI)(h:aN l)(j:Nat):IB:=⟨((l.length:Int)-1-j,l[l.length-1-j]?.getD 0),h.get _⟩
set_option maxRecDepth 100000 in
def bg9(F:Fence){n:Nat}(h7:F.fn 223)(hro:F.round=none)(hn:1<=n){L Bs TI b o len cap:Nat}(hB:aN l)(el:l.length=len)(hlen:len<=8)(hb:b<TI)(J Jx:List IB->World->Prop)(hY:∀pre x W,J pre W->pre.length<len->YieldAt F (n-1) prog L #[.I x.1.1,.int .u8 x.1.2] W λe W'=>
   (e=.returned (.bool true)/\J (pre++[x]) W'/\Er TI Bs W W')\/(e=.returned (.bool false)/\Jx (pre++[x]) W'))(hBs:W.cell? (Ad Bs 0)=some (.S (some (Ad b o)) len cap))(hc:∀j,j<len->W.cell? (Ad b (o+j))=some (.int .u8 (l[j]?.getD 0)))(h0:J [] W):CallsIn F n prog 223 #[.func (.yield L) #[] #[],.pointer (some (Ad Bs 0))] W λe W'=>(∃v,e=.returned v)∧
   ((∃ys,ys=upto (Rw l hB) len/\J ys W')\/(∃pre,Jx pre W')):=by
 refine mG func223 rfl h7 ?_ hro;simp only[ntmps223,rB,Nat.reduceAdd,Nat.reduceSub]
 gi_wp2
 gi_loopw [3] (λi wr=>∃k:Nat,k<=len/\i=.I ((len:Int)-1-k)/\J (upto (Rw l hB) k) wr/\Er TI Bs W wr) (λi _=>(intOf i+1).toNat)
 case atStart=>exact⟨0,fN _,ai,h0,Er.refl _ _ _⟩
 case round=>(
 obtain⟨k,hk,rfl,hJs,hnx⟩:=hrel;by_cases aT:k<len;{
 obtain⟨m,em⟩:∃m:Nat,m=len-1-k:=⟨_,rfl⟩;have e1:(len:Int)-1-k=(m:Int):=ae;have hm:m<len:=ae;obtain⟨z,ez⟩:=az (l[m]?.getD 0);have Dx:wr.cell? (Ad b (o+m))=some (.int .u8 z):=(hnx.1.cell (p:=(Ad b (o+m))) hb).trans ((hc m hm).trans (by rw[ez]));have hbx:wr.cell? (Ad Bs 0)=some (.S (some (Ad b o)) len cap):=hnx.2.trans hBs;obtain⟨fn,tmps,assign,body,hy,hR⟩:=hY _ (Rw l hB k) wr hJs (by rw[Oz];exact aT);have ex:(Rw l hB k).1=((m:Int),z):=by simp only[Rw,el,e1,em,ez]
 rw[ex]at hy;dsimp only at hy;rw[e1];have hmi:=aS m len;have EM:=af em;have E1:=af e1;have HK:=af aT;have HC:=af hc;clear em e1 ex aT hc ez
 gi_wp2
 refine hR.mono ?_;rintro e W3(⟨rfl,SC,rM⟩|⟨rfl,Cm⟩);{
 gi_wp2
 go_roundw;exact⟨k+1,aa HK,by have:=aa E1;congr 1;omega,by rw[JH];exact SC,hnx.trans rM⟩
 case measure=>simp[intOf]<;>omega}
 {
 gi_wp2
 refine dD (sS rfl _ _ _) rfl ?_;exact⟨⟨_,rfl⟩,.inr ⟨_,Cm⟩⟩}};{
 obtain rfl:k=len:=ae
 gi_wp2
 go_end0
 exact⟨⟨_,rfl⟩,.inl ⟨_,rfl,hJs⟩⟩})
def bL5(F:Fence){n:Nat}(h5:F.fn 194)(hro:F.round=none){a:OA}{len cap:Nat}{w:World}:CallsIn F n prog 194 #[.S a len cap] w λe w'=>e=.returned (.func (.func 223) #[] #[.pointer (some (Ad w.heap.size 0))])/\w'=w.alloc (.cells #[.S a len cap] 22):=by
 refine mG func194 rfl h5 ?_ hro;simp only[ntmps194,rB,Nat.reduceAdd,Nat.reduceSub]
 gi_wp2
 go_ret;exact⟨rfl,rfl⟩
def as2(F:Fence){n:Nat}(h7:F.fn 223)(hro:F.round=none)(hn:1<=n){Bs TI b o len cap:Nat}(hB:aN l)(el:l.length=len)(hlen:len<=8)(hb:b<TI){w:World}(hBn:Bs<w.heap.size)(cW8:TI<=w.heap.size)(hBs:w.cell? (Ad Bs 0)=some (.S (some (Ad b o)) len cap))(hc:∀j,j<len->w.cell? (Ad b (o+j))=some (.int .u8 (l[j]?.getD 0))):SeqStopsK F n prog 223 #[.pointer (some (Ad Bs 0))] (λx:IB=>#[.I x.1.1,.int .u8 x.1.2]) (Er TI Bs) (λys=>ys=upto (Rw l hB) len) (λ_=>True) len w:=λL J Jx W hW _ _ hY h0=>by
 refine(bg9 F h7 hro hn (o:=o) (cap:=cap) hB el hlen hb J Jx hY ((hW.cell (p:=(Ad Bs 0)) (by show Bs<_;omega)).trans hBs) (λj hj=>(hW.cell (p:=(Ad b (o+j))) (by show b<_;omega)).trans (hc j hj)) h0).mono ?_;rintro e W'⟨he,⟨ys,hy,hj⟩|⟨pre,hj⟩⟩;{exact⟨he,.inl ⟨_,hy,hj⟩⟩};{exact⟨he,.inr ⟨_,jR,hj⟩⟩}
def acc(pre:List IB):Int:=pre.foldl (λa x=>a*256+x.1.2) 0
def Ir{pre:List IB}(x:IB):acc (pre++[x])=acc pre*256+x.1.2:=by simp[acc]
theorem RJ(k:Nat):∀pre:List IB,pre.length=k->0<=acc pre/\acc pre<256 ^ k:=by
 induction k with
 |zero=>intro pre h;rw[Jd h];simp[acc]
 |succ k ih=>
  intro pre h;rcases pre.eq_nil_or_concat with rfl|⟨m,x,rfl⟩;{simp at h};{rw[List.concat_eq_append]at h⊢;rw[Ir];obtain⟨h0,h1⟩:=ih m (by simpa using h);have:=x.2;rw[VQ];omega}
def bh9{pre:List IB}(h:pre.length<8):0<=acc pre/\acc pre*256+256<=18446744073709551616:=by
 obtain⟨h0,h1⟩:=RJ pre.length pre rfl;refine⟨h0,?_⟩;have h9:((256 ^ pre.length:Nat):Int)<=72057594037927936:=by have h8:=ad4 (n:=256) ae (show pre.length<=7 by omega);have e:256 ^ 7=72057594037927936:=rfl;omega
 rw[Int.natCast_pow]at h9;have h10:acc pre<72057594037927936:=Int.lt_of_lt_of_le h1 h9;omega
theorem bi0(l:LI)(hB:aN l)(k:Nat)(hk:k<=l.length):acc (upto (Rw l hB) k)=num (l.drop (l.length-k)):=by
 induction k with
 |zero=>simp[upto,acc,num]
 | succ k ih=>
  rw[JH,Ir,ih ae];have aT:l.length-1-k<l.length:=ae;have e:l.drop (l.length-(k+1))=l[l.length-1-k]::l.drop (l.length-k):=by
   rw[show l.length-(k+1)=l.length-1-k by omega,Mr aT]
   congr 2;omega
  rw[e,num];simp[Rw,aT];omega
set_option maxRecDepth 100000 in
def Py(F:Fence){n:Nat}(h3:F.fn 135)(h5:F.fn 194)(h6:F.fn 223)(hro:F.round=none)(hn:3<=n){b o len cap:Nat}(hB:aN l)(el:l.length=len)(hlen:len<=8)(hb0:0<len){w:World}(hc:∀j,j<len->w.cell? (Ad b (o+j))=some (.int .u8 (l[j]?.getD 0))):CallsIn F n prog 135 #[.S (some (Ad b o)) len cap] w λe W'=>e=.returned (.U (num l))/\Bw w W':=by
 have h1:1<=n:=ae;refine callsIn_of_wp_marks func135 rfl h3 ?_ hro;simp only[ntmps135,rB,Nat.reduceAdd,Nat.reduceSub]
 gi_wp2_with(gi_at_call 194;refine(bL5 F h5 hro).mono ?_;rintro e w'⟨rfl,rfl⟩)
 obtain⟨W0,dP⟩:=az ((w.alloc (.cells #[.U 0] 31)).alloc (.cells #[.S (some (Ad b o)) len cap] 22));have z0:W0.heap.size=w.heap.size+2:=by rw[dP];simp
 have k0:W0.cell? (Ad w.heap.size 0)=some (.U 0):=by rw[dP];simp
 have f0:W0.frozen? (Ad w.heap.size 0)=false:=by rw[dP];simp
 have k1:W0.cell? (Ad (w.heap.size+1) 0)=some (.S (some (Ad b o)) len cap):=by rw[dP];simp
 have XS:Bw w W0:=by rw[dP];exact(au.alloc ao _).alloc ai _
 have hbw:b<w.heap.size:=nY w _ (hc 0 hb0);rw[<-dP];clear dP;refine wpIn_rangeFunc_ownF hro h1 (gf:=223) (lb:=#[.pointer (some (Ad (w.heap.size+1) 0))]) rfl h6 (enters_of func223 bg rfl)
  (as2 F (n:=n-1) h6 hro ae hB el hlen hbw ae ae k1 (λj hj=>(XS.cell (p:=(Ad b (o+j))) hbw).trans (hc j hj))) (λh k=>h.trans k) (Er.put ae ae) au (λ_=>rfl)
  (λpre W=>(W.cell? (Ad w.heap.size 0)=some (.U (acc pre))/\W.frozen? (Ad w.heap.size 0)=false)/\Bw w W)
  (λ_ _ _=>False)
  (OwnFrom.and (Own.from (λs A B row hs hg hr=>⟨cell_kept hs.1 hg hr,(frozen_kept hs.1 hg hr).trans hs.2⟩) _) (ownFrom_below ao ae))
  (λ_ _ _ _ _ hs _ _=>hs)
  ⟨⟨k0,f0⟩,XS⟩
  (λx=>{tmps:=#[.S (some (Ad b o)) len cap,undef,.U 0,.pointer (some (Ad w.heap.size 0)),undef,.int .u8 x.1.2,.S (some (Ad b o)) len cap,.func (.func 223) #[] #[.pointer (some (Ad (w.heap.size+1) 0))],.I x.1.1,.int .u8 x.1.2,undef,undef,undef,undef,undef,undef],defers:=[]}) ?assign ?body ?done ?stop
 case assign=>(
 intro l x W K hK
 gi_wp2
 exact hK)
 case body=>(
 rintro L pre x W⟨⟨Su,hf⟩,ox⟩rK;obtain⟨a0,a1⟩:=bh9 (pre:=pre) ae;obtain⟨x0,x1⟩:=x.2;have HS:=af (Ir (pre:=pre) x);generalize acc pre=a at*;generalize x.1.2=y at*;have aS4:bits .or .u64 (a*256) y=a*256+y:=by exact bits_join .u64 64 aZ wraps_u64 8 (a*256) y ae ae ae x0 ae ae
 have EJ:=af aS4;clear aS4
 gi_wp2
 refine⟨KeepsOthers.setCell _ _ _,⟨(cR w.heap.size W).setCell (p:=(Ad w.heap.size 0)) ao _,P8 _ _ _ _ ai⟩,⟨?_,by rw[BM];exact hf⟩,ox.setCell (p:=(Ad w.heap.size 0)) ao _⟩;rw[aa HS,<-aa EJ];exact PX _ _ _ (by rw[Su];rfl))
 case done=>(
 rintro D ys W hD rfl⟨⟨Su,hf⟩,ox⟩hK
 gi_wp2
 refine⟨ai,.inl ⟨_,_,rfl,run_takeDeferred hK,?_⟩⟩;exact⟨_,results_tmp rfl _ _ _,by rw[<-el,bi0 l hB l.length ao];simp,ox.trans (belowK_b (w:=w) ao W D _ _ ae hK rfl rfl)⟩)
 case stop=>(
 rintro D c pre W _ _ h _;exact h.elim)
def kL{c n:Nat}(en:Hid (l.length=n)){w:World}(h:Rd w (.S p n c) l)(hb:aN l)(hn:n<=8)(h0:0<n):Cp 135 #[.S p n c] w (Rb (.U (num l)) w):=by
 have e:=aa en;obtain⟨b,o,rfl,-,hc⟩:=h.at ae;refine qG.1 (Py Fence.wide (n:=3) jR jR jR rfl ae (b:=b) (o:=o) (len:=n) (cap:=c) (l:=l) hb e hn h0 (w:=w) (λj hj=>?_));rw[hc j ae]
 rfl
def sub(l:LI)(i j:Nat):LI:=(l.take j).drop i
def dI{i j:Nat}(hj:j<=l.length):(sub l i j).length=j-i:=by simp[sub];omega
def aN.sub(h:aN l)(i j:Nat):aN (sub l i j):=λz hz=>h z (GI (GJ hz))
theorem aa5{w:World}(c0:w.cell? (Ad g 0)=some v0)(r0:Rd w v0 l0):lQ w g [v0] [l0]:=by
 refine⟨rfl,λj v x e1 e2=>?_⟩
 match j,e1,e2 with
 |0,e1,e2=>simp at e1 e2;subst e1 e2;exact⟨c0,r0⟩
def WR(w:World)(S:Int)(R:LI)(N:Nat)(code:Int)(e:Ending)(w':World):Prop:=
 ∃p c,e=.returned (.tuple #[.U S,.S p N c,.I code])/\Own w.heap.size w' (.S p N c) R/\Bw w w'
def qR(w:World)(l:LI)(n:Nat)(e:Ending)(w':World):Prop:=
 if dr (num (sub l 4 12)) (sub l 16 (n-4))=l then WR w (num (sub l 4 12)) (sub l 16 (n-4)) (n-20) 0 e w' else WR w 0 [] 0 13 e w'
def Jl{c n:Nat}{w:World}(hn:n<20):Calls prog 84 #[.S p n c] w (WR w 0 [] 0 13):=by
 have hn':(n:Int)<20:=ae
 go_in
 go_wp2;refine dD (v:=.tuple #[.U 0,.S none 0 0,.I 13]) (by simp[results,results84,go_sem]) rfl ⟨none,0,rfl,gC _ _ _ _,cR _ _⟩
def IT{c n:Nat}{w:World}(hn:n<20):Calls prog 33 #[.S p n c] w (WR w 0 [] 0 13):=by
 have hn':(n:Int)<20:=ae
 go_in
 go_wp2;refine dD (v:=.tuple #[.U 0,.S none 0 0,.I 13]) (by simp[results,results33,go_sem]) rfl ⟨none,0,rfl,gC _ _ _ _,cR _ _⟩
def aE6{b o c n:Nat}(en:Hid (l.length=n)){w:World}(h:Rd w (.S (some (Ad b o)) n c) l)(hb:aN l)(hn:20<=n)(hm:Mg n)(hc:n<=c)(EU:c<=maxLen):Calls prog 84 #[.S (some (Ad b o)) n c] w (qR w l n):=by
 have hn':¬(n:Int)<20:=ae;obtain⟨k,ek⟩:∃k:Nat,(n:Int)-4=(k:Int):=⟨n-4,ae⟩;have g1:=iH n c;have g2:=dA 12 c;have g3:=iH k c;have g4:=dA 16 k;have g5:c≠4:=ae;have g6:c≠16:=ae;have enn:=aa en;have yx:n=k+4:=ae;have OO:(sub l 4 12).length=8:=dI ae;have ON:(sub l 16 k).length=k-16:=dI ae;have r1:∀(d:Nat)(w':World),Bw w w'->Rd w' (.S (some (Ad b (o+4))) 8 d) (sub l 4 12):=λd w' bR=>(h.below bR).cut 4 12 ae ae _ (.inr rfl) d _ rfl;have r2:∀(d:Nat)(w':World),Bw w w'->Rd w' (.S (some (Ad b (o+16))) (k-16) d) (sub l 16 k):=λd w' bR=>(h.below bR).cut 16 k ae ae _ (.inr rfl) d _ rfl;obtain⟨s0,s1⟩:=kM (hb.sub 4 12) ae;have HB:=af hb;have H1:=af OO;have H2:=af ON;have HK:=af yx;have DQ:=af r1;have WQ:=af r2;have HH:=af h;have eb:dr (num (sub l 4 12)) (sub l 16 (n-4))=dr (num (sub l 4 12)) (sub l 16 k):=by rw[yx];rfl
 have HE:=af eb;clear hb OO ON r1 r2 h enn yx eb
 go_in
 go_wp2_with fail;refine(kL (l:=sub l 4 12) (n:=8) H1 (aa DQ _ _ au) (HB.sub 4 12) ae ae).mono ?_;rintro e w1⟨rfl,b1⟩;go_wp2_with fail;refine(Dn (s:=num (sub l 4 12)) (n:=k-16) (l:=sub l 16 k) H2 (aa WQ _ _ b1) (HB.sub 16 k) ae s0 s1).mono ?_;rintro e w2⟨p2,c2,rfl,o2,aD⟩;have b2:=aj b1 aD;clear b1 aD;go_wp2_with fail;refine(jr (k:=n) (l:=dr (num (sub l 4 12)) (sub l 16 k)) (m:=l) (by show _=_;rw[ju,aa H2]) en o2.rd (HH.below b2) (JQ (HB.sub 16 k)) (aa HB)).mono ?_;rintro e w3⟨rfl,aL⟩;have b3:=aj b2 aL;clear b2 aL o2;by_cases hq:dr (num (sub l 4 12)) (sub l 16 k)=l;{
 have hd:decide (dr (num (sub l 4 12)) (sub l 16 k)=l)=true:=by simp[hq]
 rw[hd];have HQ:=af hq;clear hq hd;go_wp2_with fail;refine(gv (g:=w3.heap.size) (vs:=[.S (some (Ad b (o+16))) (k-16) (c-16)]) [sub l 16 k] (lm:=sub l 16 k) (n:=k-16) 1 rfl (by show _=_;rw[Fc]) H2 (aa5 ai ((aa WQ _ _ b3).below (au.alloc ao _))) ae ae).mono ?_;rintro e w4⟨p4,c4,rfl,o4,dS⟩;have b4:=aj (b3.alloc b3.size _) dS;have o5:Own w.heap.size w4 (.S p4 (k-16) c4) (sub l 16 k):=Own.mono o4 (by have:=b3.size;simp;omega);clear b3 dS o4;go_wp2;refine dD (v:=.tuple #[.U (num (sub l 4 12)),.S p4 (k-16) c4,.I 0]) (by simp[results,results84,go_sem]) rfl ?_;unfold qR;rw[aa HE,bN (aa HQ)];have e1:n-20=k-16:=aG (aa HK);have e2:n-4=k:=aG (aa HK);rw[e1,e2];exact⟨p4,c4,rfl,o5,b4⟩};{
 have hd:decide (dr (num (sub l 4 12)) (sub l 16 k)=l)=false:=by simp[hq]
 rw[hd];have HQ:=af hq;clear hq hd;go_wp2;refine dD (v:=.tuple #[.U 0,.S none 0 0,.I 13]) (by simp[results,results84,go_sem]) rfl ?_;unfold qR;rw[aa HE,bG (aa HQ)];exact⟨none,0,rfl,gC _ _ _ _,b3⟩}
theorem Xc{b o c n:Nat}(en:Hid (l.length=n)){w:World}(h:Rd w (.S (some (Ad b o)) n c) l)(hb:aN l)(hn:20<=n)(hm:Mg n)(hc:n<=c)(EU:c<=maxLen):Calls prog 33 #[.S (some (Ad b o)) n c] w (qR w l n):=by
 have hn':¬(n:Int)<20:=ae;obtain⟨k,ek⟩:∃k:Nat,(n:Int)-4=(k:Int):=⟨n-4,ae⟩;have g1:=iH n c;have g2:=dA 12 c;have g3:=iH k c;have g4:=dA 16 k;have g5:c≠4:=ae;have g6:c≠16:=ae;have enn:=aa en;have yx:n=k+4:=ae;have OO:(sub l 4 12).length=8:=dI ae;have ON:(sub l 16 k).length=k-16:=dI ae;have r1:∀(d:Nat)(w':World),Bw w w'->Rd w' (.S (some (Ad b (o+4))) 8 d) (sub l 4 12):=λd w' bR=>(h.below bR).cut 4 12 ae ae _ (.inr rfl) d _ rfl;have r2:∀(d:Nat)(w':World),Bw w w'->Rd w' (.S (some (Ad b (o+16))) (k-16) d) (sub l 16 k):=λd w' bR=>(h.below bR).cut 16 k ae ae _ (.inr rfl) d _ rfl;obtain⟨s0,s1⟩:=kM (hb.sub 4 12) ae;have HB:=af hb;have H1:=af OO;have H2:=af ON;have HK:=af yx;have DQ:=af r1;have WQ:=af r2;have HH:=af h;have eb:dr (num (sub l 4 12)) (sub l 16 (n-4))=dr (num (sub l 4 12)) (sub l 16 k):=by rw[yx];rfl
 have HE:=af eb;clear hb OO ON r1 r2 h enn yx eb
 go_in
 go_wp2_with fail;refine(tc (sub l 4 12) _ _ 8 H1 _ (aa DQ _ _ au) (HB.sub 4 12) ae ae ae).mono ?_;rintro e w1⟨rfl,b1⟩;go_wp2_with fail;refine(jS H2 (aa WQ _ _ b1) ae).mono ?_;rintro e w2⟨p2,c2,rfl,o2,aD⟩;have b2:=aj b1 aD;have z2:=b1.size;clear b1 aD;go_wp2_with fail;have yK:∀(vs:Array Value)(w:World),(callFunc 40 vs).run prog w=.ok (.enter 40 vs) w:=λvs w=>bg;have u2:=dL en (HH.below b2);have u2d:=dL en (HH.below b2.drew);have r2d:Rd w2.drew (.S p2 (k-16) c2) (sub l 16 k):=o2.rd.below au.drew;have HC:=af (qN (JQ (s:=num (sub l 4 12)) (HB.sub 16 k)) HB)
 go_region_law(first
  |(refine kc aH aH aH aH (λ_=>yK _ _) (CF H2 r2d (HB.sub 16 k) ae s0 s1) ?_;rintro e w3⟨p3,c3,rfl,o3,Hp⟩;refine⟨_,rfl,?_⟩;have aL:Below w2.heap.size w2 w3:=aj (cR w2.heap.size w2).drew Hp;have u3:=dL (aa en) (HH.below (aj b2 aL));have e1:=dL (l:=dr (num (sub l 4 12)) (sub l 16 k)) (by rw[ju,aa H2]) o3.rd))
 all_goals
  have b3:=aj b2 aL;have q3:Own w.heap.size w3 (.S p2 (k-16) c2) (sub l 16 k):=Own.mono (Own.below o2 aL) z2;clear b2 aL Hp o2 o3 z2 u2 u2d r2d;go_wp2;{
 rename_i hd
 have hq:¬dr (num (sub l 4 12)) (sub l 16 k)=l:=by intro e;rw[aa HC,BN e]at hd;cases hd
 refine dD (v:=.tuple #[.U 0,.S none 0 0,.I 13]) (by simp[results,results33,go_sem]) rfl ?_;unfold qR;rw[aa HE,bG hq];exact⟨none,0,rfl,gC _ _ _ _,b3⟩};{
 rename_i hd
 have hq:dr (num (sub l 4 12)) (sub l 16 k)=l:=by by_cases e:dr (num (sub l 4 12)) (sub l 16 k)=l;{exact e};{rw[aa HC,tX e]at hd;cases hd}
 refine dD (v:=.tuple #[.U (num (sub l 4 12)),.S p2 (k-16) c2,.I 0]) (by simp[results,results33,go_sem]) rfl ?_;unfold qR;rw[aa HE,bN hq];have e1:n-20=k-16:=aG (aa HK);have e2:n-4=k:=aG (aa HK);rw[e1,e2];exact⟨p2,c2,rfl,q3,b3⟩}
def Eb{c n:Nat}{w:World}(hl:1000<n):Calls prog 198 #[zE s (.S p n c)] w (Rb (.S none 0 0) w):=by
 have EP:=qi 1000 n
 go_in
 go_wp2;go_ret;exact⟨rfl,au.alloc ao _⟩
theorem Ub{c n:Nat}(en:Hid (l.length=n)){w:World}(h:Rd w (.S p n c) l)(hb:aN l)(hl:n<=1000)(s0:0<=s)(s1:s<18446744073709551616):Calls prog 198 #[zE s (.S p n c)] w λe w'=>∃p' c',e=.returned (.S p' (n+14) c')/\Own w.heap.size w' (.S p' (n+14) c') (DT s l)/\Bw w w':=by
 have EP:¬(1000:Int)<(n:Int):=ae
 go_in
 go_wp2_with fail;obtain⟨W,hW⟩:=az (w.alloc (.cells #[.U s,.S p n c] 71));have bW:=ew hW;have k0:W.cell? (Ad w.heap.size 0)=some (.U s):=by rw[hW];simp
 have k1:W.cell? (Ad w.heap.size 1)=some (.S p n c):=by rw[hW];simp
 rw[<-hW];clear hW;refine(kV (n:=2) (v:=n) ae ae ae).mono ?_;rintro e w1⟨p1,c1,rfl,o1,aA⟩;have b1:=aj bW aA;have j0:=ag k0 aA;have j1:=ag k1 aA;have r0:=h.below b1;have r1:=o1.rd;have enn:=aa en;have HB:=af hb;clear h aA bW k0 k1 o1 hb;go_wp2_with fail
 go_region_held3 (λw'=>w'.cell? (Ad w.heap.size 0)=some (.U s)/\w'.cell? (Ad w.heap.size 1)=some (.S p n c)) (first|with_reducible exact⟨j0,j1⟩|with_reducible exact⟨i0,i1⟩|with_reducible exact⟨g0,g1⟩|with_reducible exact⟨f0,f1⟩|go_keep)
  (first
   |(go_at_call 163;refine(kV (n:=8) (v:=s) ae s0 s1).mono ?_;rintro e w2⟨p2,c2,rfl,o2,aD⟩;have b2:Below w1.heap.size w1 w2:=(by first|exact aD|exact aj (cR w1.heap.size w1).drew aD);have i0:=ag j0 b2;have i1:=ag j1 b2)
   |(go_at_call 88;refine(gv (g:=w2.heap.size) (vs:=[.slice p1 2 c1,.slice p2 8 c2,.slice p n c]) [le n 2,le s 8,l] (lm:=kJ s l) (n:=n+10) 3 rfl (by show _=_;rw[cE3,kJ,aa en]) (by show _=_;rw[kI,aa en]) (aX5 ai ai ai ((r1.below b2).below (au.alloc ao _)) (o2.rd.below (au.alloc ao _)) ((r0.below b2).below (au.alloc ao _))) ae ae).mono ?_;rintro e w3⟨p3,c3,rfl,o3,aL⟩;have b3:=aj (au.alloc (iP w2.heap.size) _) aL;have g0:=ag i0 b3;have g1:=ag i1 b3)
   |(go_at_call 164;refine(Fj (p:=p3) (c:=c3) (n:=n+10) (l:=kJ s l) (by show _=_;rw[kI,aa en]) (by exact o3.rd) (uG (aa HB)) ae).mono ?_;rintro e w4⟨p4,c4,rfl,o4,dS⟩;have f0:=ag g0 dS;have f1:=ag g1 dS))
 have b4:=aj (aj (aj b1 b2) b3) dS;have o5:Own w.heap.size w4 (.S p4 (n+14) c4) (DT s l):=Own.mono o4 (aG (aj (aj b1 b2) b3).size);clear b1 b2 b3 dS aL aD o4 o3 o2 r0 r1 j0 j1 i0 i1 g0 g1;go_wp2;go_ret;exact⟨p4,c4,rfl,o5,b4⟩
def Tj{c n:Nat}(en:Hid (l.length=n)){w:World}(h:Rd w (.S p n c) l)(hb:aN l)(hl:n<=1000)(s0:0<=s)(s1:s<18446744073709551616):Calls prog 71 #[zE s (.S p n c)] w λe w'=>∃p' c',e=.returned (.S p' (n+14) c')/\Own w.heap.size w' (.S p' (n+14) c') (DT s l)/\Bw w w':=by
 have EP:¬(1000:Int)<(n:Int):=ae
 go_in
 go_wp2_with fail;obtain⟨W,hW⟩:=az (w.alloc (.cells #[.U s,.S p n c] 71));have bW:=ew hW;have k0:W.cell? (Ad w.heap.size 0)=some (.U s):=by rw[hW];simp
 have k1:W.cell? (Ad w.heap.size 1)=some (.S p n c):=by rw[hW];simp
 have zW:w.heap.size<W.heap.size:=by rw[hW];simp
 rw[<-hW];clear hW;refine(pR 2 n _ ae ae ae).mono ?_;rintro e w1⟨p1,c1,rfl,o1,aA⟩;have b1:=aj bW aA;have j0:=ag k0 aA;have j1:=ag k1 aA;have r0:=h.below b1;have enn:=aa en;have HB:=af hb;have HH:=af h;have z1:=aA.size;clear h aA bW k0 k1 hb;go_wp2_with fail;refine(pR 8 s _ ae s0 s1).mono ?_;rintro e w2⟨p2,c2,rfl,o2,aD⟩;have b2:=aj b1 aD;have i0:=ag j0 aD;have i1:=ag j1 aD;have r2:=r0.below aD;have YK:=Own.below o1 aD;have ro2:=o2.rd;have z2:=aD.size;have el:(le (↑n) 2++le s 8).length=10:=by simp[dE]
 clear aD b1 j0 j1 r0 o1 o2;go_wp2_with(at_builtin;refine bQ rfl rfl (B:=W.heap.size) (.S p1 2 c1) (l:=le n 2) (m:=le s 8) (lm:=le n 2++le s 8) bq p2 c2 8 (by show _=_;exact dE _ _) rfl rfl YK ro2 (by rw[dE,dE];omega) ae ?_);intro p3 c3 w3 o3 wC;have b3:=dz b2 wC YK ae ae;have g0:=(cR W.heap.size w2).grown wC ae (λk e=>(YK.lt k e).1);have f0:=(g0.cell (p:=(Ad w.heap.size 0)) zW).trans i0;have f1:=(g0.cell (p:=(Ad w.heap.size 1)) zW).trans i1;have r3:Rd w3 (.S p n c) l:=HH.below b3;have z3:=g0.size;clear b2 wC YK ro2 i0 i1 r2 g0;have el2:(kJ s l).length=n+10:=by rw[kI,aa en]
 go_wp2_with(at_builtin;refine bQ rfl rfl (B:=W.heap.size) (.S p3 10 c3) (l:=le n 2++le s 8) (m:=l) (lm:=kJ s l) (by show _=_;rw[kJ,aa en]) p c n en rfl rfl o3 r3 (by rw[el];omega) ae ?_);intro p4 c4 w4 o4 tL;have b4:=dz b3 tL o3 ae ae;have z4:=tL.size;clear b3 tL r3 f0 f1 o3;go_wp2_with fail;refine(Fx (p:=p4) (c:=c4) (n:=n+10) (l:=kJ s l) (by show _=_;exact el2) o4.rd (uG HB) ae).mono ?_;rintro e w5⟨p5,c5,rfl,o5,e8⟩;have b5:=aj b4 e8;have o6:Own w.heap.size w5 (.S p5 (n+14) c5) (DT s l):=Own.mono o5 ae;clear b4 e8 o5 o4;go_wp2;go_ret;exact⟨p5,c5,rfl,o6,b5⟩
abbrev R1:=Int×LI
def jQ:List R1->List Value->List Value
 |r::rs,v::vs=>.int .u64 r.1::v::jQ rs vs
 |_,_=>[]
theorem nQ:∀(rs:List R1)(vs:List Value)(i:Nat)(r:R1)(v:Value),rs[i]?=some r->vs[i]?=some v->(jQ rs vs)[2*i]?=some (.U r.1)/\(jQ rs vs)[2*i+1]?=some v
 |[],vs,i,r,v,h,_=>by simp at h
 |r'::rs,[],i,r,v,_,h=>by simp at h
 |r'::rs,v'::vs,0,r,v,h1,h2=>by simp at h1 h2;subst h1 h2;simp[jQ]
 |r'::rs,v'::vs,i+1,r,v,h1,h2=>by have:=nQ rs vs i r v (by simpa using h1) (by simpa using h2);rw[show 2*(i+1)=2*i+1+1 by omega];simpa[jQ]using this
theorem wY:∀(rs:List R1)(vs:List Value)(r:R1)(v:Value),vs.length=rs.length->jQ (rs++[r]) (vs++[v])=jQ rs vs++[.U r.1,v]
 |[],[],r,v,_=>rfl
 |[],_::_,r,v,h=>by simp at h
 |_::_,[],r,v,h=>by simp at h
 |r'::rs,v'::vs,r,v,h=>by simp[jQ,wY rs vs r v (by simpa using h)]
abbrev IC(u v:Value):Prop:=∀b,u.ownBlock=some b->v.ownBlock≠some b
structure il(B:Nat)(w:World)(v:Value)(rs:List R1)(vs:List Value):Prop where
 len:vs.length=rs.length
 row:w.ownsRow B 71 2 v rs.length (jQ rs vs)
 own:∀(i:Nat)r u,rs[i]?=some r->vs[i]?=some u->Own B w u r.2
 ap:vs.Pairwise IC
def il.form{w:World}{rs:List R1}(h:il B w v rs vs):∃p c,v=.S p rs.length c:=by
 rcases h.row.2 with⟨rfl,h0⟩|⟨g,cap,cur,rfl,_⟩;{exact⟨none,0,by rw[h0]⟩};{exact⟨_,_,rfl⟩}
def il.below{w w':World}{rs:List R1}(h:il B w v rs vs)(hb:Bw w w'):il B w' v rs vs:=
 ⟨h.len,h.row.kept (row:=none) ⟨hb.os,hb.tape,hb.output,hb.size,λk hk _=>hb.block k hk⟩ (by cases hv:v.ownBlock<;>simp),λi r u h1 h2=>Own.below (h.own i r u h1 h2) hb,h.ap⟩
def il.mono{w:World}{rs:List R1}(h:il B w v rs vs)(hB:B'<=B):il B' w v rs vs:=by
 refine⟨h.len,⟨h.row.1,?_⟩,λi r u h1 h2=>Own.mono (h.own i r u h1 h2) hB,h.ap⟩;rcases h.row.2 with e|⟨g,cap,cur,rfl,hb,r⟩;{exact .inl e};{exact .inr ⟨g,cap,cur,rfl,ae,r⟩}
def il.nil(B:Nat)(w:World):il B w (.S none 0 0) [] []:=⟨rfl,gC _ _ _ _,by simp,List.Pairwise.nil⟩
def il.apart{w:World}{rs:List R1}(h:il B w v rs vs)(ho:Own B' w u l):IC v u:=by
 intro b e1 e2;rcases h.row.2 with⟨rfl,_⟩|⟨g,cap,cur,rfl,_,hg,_⟩;{simp[Value.ownBlock]at e1};{rcases ho.2 with⟨rfl,_⟩|⟨g',yC,aJ2,rfl,_,yJ,_⟩;{simp[Value.ownBlock]at e2};{simp[Value.ownBlock]at e1 e2;subst e1 e2;rw[hg]at yJ;simp at yJ}}
def D8(l:LI):Nat:=(num (sub l 0 2)).toNat
def kK(l:LI):Option R1:=
 if l.length<14+D8 l\/1000<D8 l then none
 else if DT (num (sub l 2 10)) (sub l 10 (10+D8 l))=sub l 0 (14+D8 l)then some (num (sub l 2 10),sub l 10 (10+D8 l))else none
def Wk(h:aN l):num (sub l 0 2)=(D8 l:Int)/\D8 l<65536:=by
 have hb:=h.sub 0 2;obtain⟨h0,h1⟩:=Gi hb;have hl:(sub l 0 2).length<=2:=by simp[sub];omega
 have h2:(256:Int) ^ (sub l 0 2).length<=65536:=by rcases(by omega:(sub l 0 2).length=0\/(sub l 0 2).length=1\/(sub l 0 2).length=2)with e|e|e<;>rw[e]<;>decide
 unfold D8;omega
def r8(hB:aN l){b:LI}(h:kK l=some (s,b)):b.length+14<=l.length/\b.length<=1000/\D8 l=b.length/\s=num (sub l 2 10)/\b=sub l 10 (10+b.length)/\DT s b=sub l 0 (14+b.length):=by
 unfold kK at h;split at h;{simp at h};{
 split at h;{
 rename_i h1 h2
 simp only[kU,fQ]at h;obtain⟨e1,e2⟩:=h;have hl:b.length=D8 l:=by rw[<-e2,dI ae];omega
 refine⟨ae,ae,hl.symm,e1.symm,by rw[hl,e2],by rw[hl,<-e1,<-e2];exact h2⟩};{simp at h}}
def bk4(w:World)(b o c:Nat)(l:LI)(e:Ending)(w':World):Prop:=
 Bw w w'/\match kK l with
  |none=>e=.returned (.tuple #[zE 0 (.slice none 0 0),.int .i64 0])
  |some r=>e=.returned (.tuple #[zE r.1 (.slice (some ⟨b,o+10,none⟩) r.2.length (c-10)),.int .i64 ((r.2.length+14:Nat):Int)])
def Re{c n:Nat}{w:World}(hn:n<10):Calls prog 143 #[.S p n c] w (Rb (.tuple #[zE 0 (.S none 0 0),.I 0]) w):=by
 have hn':(n:Int)<10:=ae
 go_in
 go_wp2;refine dD (v:=.tuple #[zE 0 (.S none 0 0),.I 0]) (by simp[results,results143,go_sem]) rfl ⟨rfl,au.alloc ao _⟩
theorem XV{b o c n:Nat}(en:Hid (l.length=n)){w:World}(h:Rd w (.S (some (Ad b o)) n c) l)(hb:aN l)(hn:10<=n)(hm:n<=2097152)(hc:n<=c)(EU:c<=maxLen):Calls prog 143 #[.S (some (Ad b o)) n c] w (bk4 w b o c l):=by
 have hn':¬(n:Int)<10:=ae;have g1:=iH n c;have g2:=dA 10 c;have g3:=dA 2 c;have g5:c≠2:=ae;have g6:c≠0:=ae;obtain⟨N,eN⟩:=az (D8 l);obtain⟨eK,hK⟩:=Wk hb;rw[<-eN]at eK hK;have HN:=af eN;clear eN;have enn:=aa en;have OO:(sub l 0 2).length=2:=dI ae;have r1:∀(d:Nat)(w':World),Bw w w'->Rd w' (.S (some (Ad b o)) 2 d) (sub l 0 2):=λd w' bR=>(h.below bR).cut 0 2 ae ae _ (.inr rfl) d _ rfl;have DQ:=af r1;have H1:=af OO;have HB:=af hb;have EK:=af eK;clear r1 OO hb eK;obtain⟨M,eM⟩:∃M:Nat,(10:Int)+(N:Int)=(M:Int):=⟨10+N,ae⟩;obtain⟨Z,eZ⟩:∃Z:Nat,(M:Int)+4=(Z:Int):=⟨M+4,ae⟩;have hZN:Z=14+N:=ae;have hMN:M=10+N:=ae;have HZ:=af (ah hZN hMN);clear hZN hMN;by_cases hs:n<Z;{
 have Hg:=aS n Z
 go_in
 go_wp2_with fail;refine(kL H1 (aa DQ _ _ (by exact au.alloc ao _)) (HB.sub 0 2) ae ae).mono ?_;rintro e w1⟨rfl,aA⟩;rw[aa EK];have c0:w1.cell? (Ad w.heap.size 0)=some (.U 0):=ag ai aA;have c1:w1.cell? (Ad w.heap.size 1)=some (.S none 0 0):=ag ai aA;have f1:∀o,w1.frozen? (Ad w.heap.size o)=false:=cG ai aA ai;have b1:Bw w w1:=aj (au.alloc ao _) aA;clear aA;go_wp2;refine dD (v:=.tuple #[zE 0 (.S none 0 0),.I 0]) (by simp[results,results143,go_sem,c0,c1]) rfl ?_;refine⟨?_,?_⟩;{
 repeat(refine gF ?_ ai _)
 exact b1};{
 have e:kK l=none:=by unfold kK;have:=aa HZ;have:=aa HN;rw[bN ae]
 rw[e]}};{
 have Hg:=dm n Z;have q1:=iH M c;have q2:=iH Z c;have q3:=dA 10 M;have q4:c≠10:=ae;have q5:=dA 0 Z;have ON:(sub l 2 10).length=8:=dI ae;have bs5:(sub l 10 M).length=N:=by rw[dI ae];have:=aa HZ;omega
 have bs4:(sub l 0 Z).length=Z:=by rw[dI ae];omega
 have eMN:M-10=N:=aG (aa HZ);have r2:∀(d:Nat)(w':World),Bw w w'->Rd w' (.S (some (Ad b (o+2))) 8 d) (sub l 2 10):=λd w' bR=>(h.below bR).cut 2 10 ae ae _ (.inr rfl) d _ rfl;have r3:∀(d:Nat)(w':World),Bw w w'->Rd w' (.S (some (Ad b (o+10))) (M-10) d) (sub l 10 M):=λd w' bR=>(h.below bR).cut 10 M ae ae _ (.inr rfl) d _ rfl;have r4:∀(d:Nat)(w':World),Bw w w'->Rd w' (.S (some (Ad b o)) Z d) (sub l 0 Z):=λd w' bR=>(h.below bR).cut 0 Z ae ae _ (.inr rfl) d _ rfl;obtain⟨s0,s1⟩:=kM (HB.sub 2 10) ae;have WQ:=af r2;have A9:=af r3;have HR4:=af r4;have H2:=af ON;have H3:=af bs5;have H4:=af bs4;clear r2 r3 r4 ON bs5 bs4
 go_in
 go_wp2_with fail;refine(kL H1 (aa DQ _ _ (by exact au.alloc ao _)) (HB.sub 0 2) ae ae).mono ?_;rintro e w1⟨rfl,aA⟩;rw[aa EK];have c0:w1.cell? (Ad w.heap.size 0)=some (.U 0):=ag ai aA;have c1:w1.cell? (Ad w.heap.size 1)=some (.S none 0 0):=ag ai aA;have f1:∀o,w1.frozen? (Ad w.heap.size o)=false:=cG ai aA ai;have b1:Bw w w1:=aj (au.alloc ao _) aA;clear aA;have yK:∀(vs:Array Value)(w:World),(callFunc 135 vs).run prog w=.ok (.enter 135 vs) w:=λvs w=>bg
 go_upto_region 7 with fail
 go_cut[6](λrp wc=>∃R,rp=.pointer (some (Ad R 0))/\w1.heap.size<=R/\SR wc R (.U (num (sub l 2 10))) (.S (some (Ad b (o+10))) N (c-10))/\Bw w1 wc)
 case first=>(
 go_region_law(first
  |(refine iC aH aH aH (λ_=>yK _ _) (kL H2 (aa WQ _ _ (by first|exact(b1.alloc b1.size _).drew|exact b1.drew.alloc b1.size _)) (HB.sub 2 10) ae ae) ?_;rintro e w2⟨rfl,aD⟩;refine⟨_,rfl,?_⟩;have m0:w2.cell? ⟨w1.heap.size,0,none⟩=some (.int .u64 0):=ag ai aD;have m1:w2.cell? ⟨w1.heap.size,1,none⟩=some (.slice none 0 0):=ag ai aD;have mf:∀o,w2.frozen? ⟨w1.heap.size,o,none⟩=false:=cG ai aD ai;have Sx:Below w1.heap.size w1 w2:=aj (by first|exact(au.alloc ao _).drew|exact au.drew.alloc ao _) aD)
  |(refine iC aH aH aH (λ_=>yK _ _) (kL H2 (aa WQ _ _ (by exact b1.drew)) (HB.sub 2 10) ae ae) ?_;rintro e w2⟨rfl,aD⟩;refine⟨_,rfl,?_⟩;have Sx:Below w1.heap.size w1 w2:=aj (cR w1.heap.size w1).drew aD))
 {go_wp2_with fail;go_meet;exact⟨w2.heap.size,rfl,Sx.size,by simp[SR],Sx.alloc Sx.size _⟩};{go_wp2_with fail;go_meet;refine⟨w1.heap.size,rfl,iP _,⟨?_,?_⟩,(Sx.setCell ai _).setCell ai _⟩;{simp[go_sem,m0,m1]};{simp[go_sem,m0,m1]}})
 case rest=>(
 obtain⟨R,rfl,hR,A0,DA⟩:=hcut;have cc0:=ag c0 DA;have cc1:=ag c1 DA;have ff:=cG f1 DA (nY w1 _ c0);have bc:=aj b1 DA;have hRw:w.heap.size<R:=gQ (nY w1 _ c0) hR;clear c0 c1 f1 DA b1 DQ yK WQ H1 H2;obtain⟨K,E,eE,bE,hC,wo⟩:∃(K:Nat)(E:LI),E.length=K/\aN E/\(∀w':World,Bw w w'->Cp 198 #[zE (num (sub l 2 10)) (.S (some (Ad b (o+10))) N (c-10))] w' λe w''=>∃p' c',e=.returned (.S p' K c')/\Own w'.heap.size w'' (.S p' K c') E/\Bw w' w'')/\(kK l=if E=sub l 0 Z then some (num (sub l 2 10),sub l 10 M)else none):=by
  obtain⟨iU,jU⟩:=aa HZ;have hN:=aa HN;by_cases Us:N<=1000;{refine⟨N+14,DT (num (sub l 2 10)) (sub l 10 M),by rw[CK,aa H3],Pl (HB.sub 10 M),λw' bR=>?_,?_⟩;{have hr:=aa A9 (c-10) w' bR;rw[eMN]at hr;exact Ub H3 hr (HB.sub 10 M) Us s0 s1};{unfold kK;rw[<-hN,<-jU,<-iU,bG ae]}};{
 refine⟨0,[],rfl,by intro z hz;simp at hz,λw' bR=>?_,?_⟩;{refine(Eb ae).mono ?_;rintro e w''⟨rfl,cu3⟩;exact⟨none,0,rfl,gC _ _ _ _,cu3⟩};{
 have cg:¬[]=sub l 0 Z:=by intro e;have:=uO List.length e;rw[aa H4]at this;simp at this;omega
 unfold kK;rw[<-hN,bN ae,bG cg]}}
 have HC:=af hC;have HE:=af (ah eE (ah bE wo));clear hC eE bE wo;go_wp2_with fail
 go_region_held3 (λw'=>SR w' R (.U (num (sub l 2 10))) (.S (some (Ad b (o+10))) N (c-10))) (first|exact A0|exact A1|exact A2)
  (first
   |(go_at_call 198;refine(aa HC _ (by exact bc.drew)).mono ?_;rintro e w2⟨p2,c2,rfl,o2,yj⟩;have aD:Below wc.heap.size wc w2:=aj (cR wc.heap.size wc).drew yj;have A1:=A0.below aD)
   |(go_at_call 136;refine(jr HE.1 H4 (by exact o2.rd) (by exact HR4 _ _ (aj bc aD)) HE.2.1 (HB.sub 0 Z)).mono ?_;rintro e w3⟨rfl,aL⟩;have A2:=A1.below aL))
 have am7:=aj aD aL;have b3:=aj bc am7;have d0:=ag cc0 am7;have d1:=ag cc1 am7;have df:=cG ff am7 (nY wc _ cc0);obtain⟨-,-,wo⟩:=aa HE;clear A0 A1 cc0 cc1 ff bc aD yj aL am7 o2 HC HE A9 HR4;by_cases hq:E=sub l 0 Z;{
 rw[bN hq]at wo;have hd:decide (E=sub l 0 Z)=true:=by simp[hq]
 rw[hd];have Vi:=af wo;have HQ:=af hq;obtain⟨A3,A4⟩:=A2;clear hd hq wo;go_wp2;have cg:w.heap.size≠R:=ae;refine dD (v:=.tuple #[zE (num (sub l 2 10)) (.S (some (Ad b (o+10))) N (c-10)),.I Z]) (by simp[results,results143,go_sem,d0,d1,A3,A4,cg]) rfl ?_;refine⟨?_,?_⟩;{
 repeat(refine gF ?_ ai _)
 exact b3};{rw[aa Vi];obtain⟨iU,jU⟩:=aa HZ;simp only[aa H3];rw[show N+14=Z by omega]}};{
 rw[bG hq]at wo;have hd:decide (E=sub l 0 Z)=false:=by simp[hq]
 rw[hd];have Vi:=af wo;clear hd hq wo A2;go_wp2;refine dD (v:=.tuple #[zE 0 (.S none 0 0),.I 0]) (by simp[results,results143,go_sem,d0,d1]) rfl ?_;refine⟨?_,?_⟩;{
 repeat(refine gF ?_ ai _)
 exact b3};{rw[aa Vi]}})}
attribute [local go_sem] Oper.semAt_some
structure It where
 s:Int
 q:OA
 d:Nat
 b:LI
 z:Nat
def Good(w:World)(x:It):Prop:=x.z=0\/(x.z=x.b.length+14/\x.b.length<=1000/\aN x.b/\0<=x.s/\x.s<18446744073709551616/\Rd w (.S x.q x.b.length x.d) x.b)
abbrev Zg(w:World):={x:It // Good w x}
def key(x:It):Option R1:=if x.z=0 then none else some (x.s,x.b)
abbrev ah7{w:World}(x:Zg w):Array Value:=#[zE x.1.s (.S x.1.q x.1.b.length x.1.d),.I x.1.z]
def yl:Nat->LI->List (Option R1)
 |0,_=>[none]
 |f+1,l=>match kK l with
  |none=>[none]
  |some r=>some r::yl f (l.drop (r.2.length+14))
def Ld(h:kK l=none):yl f l=[none]:=by cases f<;>simp[yl,h]
def sH{r:R1}(h:kK l=some r):yl (f+1) l=some r::yl f (l.drop (r.2.length+14)):=by simp[yl,h]
theorem Le(hf:0<f):[kK l] <+: yl f l:=by
 obtain⟨f',rfl⟩:∃f',f=f'+1:=⟨f-1,ae⟩;cases h:kK l with
 |none=>rw[Ld h];exact List.prefix_refl _
 |some r=>rw[sH h];exact⟨_,rfl⟩
def FR(h:l.length<14):kK l=none:=by unfold kK;rw[bN (by omega)]
def aN.drop(h:aN l)(n:Nat):aN (l.drop n):=λz hz=>h z (GJ hz)
theorem Hz{w wr:World}{q:OA}{m d:Nat}(em:l.length=m)(hr:Rd w (.S q m d) l)(hb:Bw w wr)(hB:aN l)(hm:m<=2097152)(hd:m<=d)(hdm:d<=maxLen):Cp 143 #[.S q m d] wr λe w'=>Bw wr w'/\∃x:Zg w,key x.1=kK l/\e=.returned (.tuple (ah7 x)):=by
 by_cases h10:m<10;{refine(Re h10).mono ?_;rintro e w'⟨rfl,bR⟩;refine⟨bR,⟨⟨0,none,0,[],0⟩,.inl rfl⟩,?_,rfl⟩;rw[FR ae];rfl};{
 obtain⟨b,o,rfl,-,-⟩:=hr.at ae;refine(XV em (hr.below hb) hB ae hm hd hdm).mono ?_;rintro e w'⟨bR,h⟩;refine⟨bR,?_⟩;cases wo:kK l with
 |none=>
  rw[wo]at h;exact⟨⟨⟨0,none,0,[],0⟩,.inl rfl⟩,rfl,h⟩
 |some r=>
  rw[wo]at h;obtain⟨s,bd⟩:=r;obtain⟨h1,h2,h3,h4,h5,h6⟩:=r8 hB wo;obtain⟨s0,s1⟩:=kM (hB.sub 2 10) (by simp[sub];omega);refine⟨⟨⟨s,some (Ad b (o+10)),d-10,bd,bd.length+14⟩,.inr ⟨rfl,h2,?_,by rw[h4];exact s0,by rw[h4];exact s1,?_⟩⟩,by simp[key],h⟩;{show aN bd;rw[h5];exact hB.sub _ _};{have:=hr.cut 10 (10+bd.length) ae ae (some (Ad b (o+10))) (.inr rfl) (d-10) bd h5;rw[show 10+bd.length-10=bd.length by omega]at this;exact this}}
def mn{w w':World}(hb:Bw w w'):w.grownBy w' none:=⟨hb.os,hb.tape,hb.output,hb.size,λk hk _=>hb.block k hk⟩
def LR{a:OA}{len cap n:Nat}{w:World}:CallsIn Fence.wide n prog 86 #[.S a len cap] w λe w'=>e=.returned (.func (.func 142) #[] #[.pointer (some (Ad w.heap.size 0))])/\w'=w.alloc (.cells #[.S a len cap] 22):=by
 refine mG func86 rfl jR ?_ rfl;simp only[ntmps86,rB,Nat.reduceAdd,Nat.reduceSub]
 gi_wp2
 go_ret;exact⟨rfl,rfl⟩
set_option maxRecDepth 100000 in
def bw6{n:Nat}(hn:1<=n){L Bs len cap:Nat}{w:World}(hR:Rd w (.S p len cap) l)(hB:aN l)(el:l.length=len)(hlen:len<=1048576)(Eh:len<=cap)(EU:cap<=maxLen)(hp:(p=none/\cap=0)\/∃b o,p=some (Ad b o))(J Jx:List (Zg w)->World->Prop)(hJ:AbidesFrom W.heap.size J)(hY:∀pre x W,J pre W->pre.length<len+2->YieldAt Fence.wide (n-1) prog L (ah7 x) W λe W'=>
   (e=.returned (.bool true)/\J (pre++[x]) W'/\Er w.heap.size Bs W W')\/(e=.returned (.bool false)/\Jx (pre++[x]) W'))(hBs:W.cell? (Ad Bs 0)=some (.S p len cap))(hbW:Bw w W)(h0:J [] W):CallsIn Fence.wide n prog 142 #[.func (.yield L) #[] #[],.pointer (some (Ad Bs 0))] W λe W'=>(∃v,e=.returned v)∧
   ((∃ys:List (Zg w),(∃pre x,ys=pre++[x]/\x.1.z=0)/\J ys W')\/(∃pre:List (Zg w),(pre.map λx=>key x.1) <+: yl (len+1) l/\Jx pre W')):=by
 refine mG func142 rfl jR ?_ rfl;simp only[ntmps142,rB,Nat.reduceAdd,Nat.reduceSub]
 gi_wp2
 gi_loopw [3] (λi wr=>∃(pre:List (Zg w))(a f:Nat),a<=len/\i=.I a/\f+pre.length=len+1/\pre.length<=a/\(pre.map λx=>key x.1)++yl f (l.drop a)=yl (len+1) l/\J pre wr/\Er w.heap.size Bs W wr) (λi _=>len+1-(intOf i).toNat)
 case atStart=>exact⟨[],0,len+1,fN _,rfl,rfl,iP _,rfl,h0,Er.refl _ _ _⟩
 case round=>(
 obtain⟨pre,a,f,Uw,rfl,Uo,KE,iS,hJp,hkp⟩:=hrel;have yi:Bw w wr:=hbW.trans hkp.1;have mj:wr.cell? (Ad Bs 0)=some (.S p len cap):=hkp.2.trans hBs;have g1:=iH a len;have g2:=iH len cap;have g3:=dA 0 a;rcases hp with⟨rfl,rfl⟩|⟨b,o,rfl⟩;{
 obtain rfl:len=0:=ae;obtain rfl:a=0:=ae;have II:Rd w (.S (none) (0) (0)) (l.drop 0):=tW▸hR;have HF:=af (Hz (by rw[sX];omega) II yi (hB.drop _) ae ae ae);have HX:=af (ah iS (ah Uo KE));have HJ:=af hJp;have HK:=af hkp;have HBR:=af (ah hB yi);unfold maxLen at EU
 gi_wp2_with fail
 refine⟨jR,?_⟩;refine(qG.2 HF).mono ?_;rintro e w1⟨aA,⟨x,yG⟩,cQ,rfl⟩;obtain⟨iS,Uo,KE⟩:=aa HX;obtain⟨hB,yi⟩:=aa HBR;have am3:w1.cell? (Ad Bs 0)=wr.cell? (Ad Bs 0):=(ag mj aA).trans mj.symm;have ak7:Er w.heap.size Bs W w1:=HK.trans ⟨aA.mono yi.size,am3⟩;have hJ1:J pre w1:=hJ pre _ _ none HJ (mn aA) (λr e=>by cases e);have hJ2:J pre (w1.alloc (.cells #[.U x.s,.S x.q x.b.length x.d] 71)):=hJ pre _ _ none hJ1 (Qb _ _ none) (λr e=>by cases e);have hzw:=(aj yi aA).size;have am2:=ag (ag mj aA) ((cR w1.heap.size w1).alloc ao (.cells #[.U x.s,.S x.q x.b.length x.d] 71));have ak6:Er w.heap.size Bs W (w1.alloc (.cells #[.U x.s,.S x.q x.b.length x.d] 71)):=ak7.trans ⟨au.alloc hzw _,am2.trans (ag mj aA).symm⟩;obtain⟨fn,tmps,assign,body,hy,hRd⟩:=hY pre ⟨x,yG⟩ _ hJ2 ae
 try dsimp only at hy
 have hxz:x.z<=1014:=by rcases yG with h|⟨h,h',_⟩<;>omega
 have HM:=af (ah iS (ah Uo (ah KE (ah hB (ah cQ yG)))));have H2:=af ak6
 gi_wp2
 refine hRd.mono ?_;rintro e W3(⟨rfl,SC,rM⟩|⟨rfl,Cm⟩);{
 by_cases hz:x.z=0;{
 have Od:((x.z:Int)==0)=true:=by simp[hz]
 gi_wp2
 refine dD (sS rfl _ _ _) rfl ?_;exact⟨⟨_,rfl⟩,.inl ⟨_,⟨pre,⟨x,yG⟩,rfl,hz⟩,SC⟩⟩};{
 have Od:((x.z:Int)==0)=false:=by simp[hz]
 gi_wp2
 go_roundw
 case rel=>(
 obtain⟨iS,Uo,KE,hB,cQ,_⟩:=aa HM;have hk:kK (l.drop 0)=some (x.s,x.b):=by rw[<-cQ];simp[key,hz]
 obtain⟨r1,r2,_⟩:=r8 (hB.drop _) hk;rcases id yG with h|⟨h,_⟩;{exact absurd h hz};{rw[sX]at r1;refine⟨pre++[⟨x,yG⟩],0+x.z,f-1,ae,by go_num,aU,aU,?_,SC,H2.trans rM⟩;obtain⟨f',rfl⟩:∃f',f=f'+1:=⟨f-1,ae⟩;rw[sH hk]at iS;rw[kT,sU,Am,h,<-Gn];rw[<-iS];simp[key,hz]})
 case measure=>simp[intOf];omega}}
 {
 gi_wp2
 refine dD (sS rfl _ _ _) rfl ?_;refine⟨⟨_,rfl⟩,.inr ⟨_,?_,Cm⟩⟩;obtain⟨iS,Uo,KE,hB,cQ,_⟩:=aa HM;rw[kT,<-iS];refine(ad3 _).2 ?_;simp only[iM,DX,cQ];exact Le ae}};{
 by_cases hq:cap=a;{
 obtain rfl:len=a:=ae;obtain rfl:cap=len:=hq;have II:Rd w (.S (some (Ad b o)) (0) (0)) (l.drop cap):=⟨_,0,by rw[ad9 ae];rfl,.inl (ad9 ae)⟩;have HF:=af (Hz (by rw[sX];omega) II yi (hB.drop _) ae ae ae);have HX:=af (ah iS (ah Uo KE));have HJ:=af hJp;have HK:=af hkp;have HBR:=af (ah hB yi);unfold maxLen at EU
 gi_wp2_with fail
 refine⟨jR,?_⟩;refine(qG.2 HF).mono ?_;rintro e w1⟨aA,⟨x,yG⟩,cQ,rfl⟩;obtain⟨iS,Uo,KE⟩:=aa HX;obtain⟨hB,yi⟩:=aa HBR;have am3:w1.cell? (Ad Bs 0)=wr.cell? (Ad Bs 0):=(ag mj aA).trans mj.symm;have ak7:Er w.heap.size Bs W w1:=HK.trans ⟨aA.mono yi.size,am3⟩;have hJ1:J pre w1:=hJ pre _ _ none HJ (mn aA) (λr e=>by cases e);have hJ2:J pre (w1.alloc (.cells #[.U x.s,.S x.q x.b.length x.d] 71)):=hJ pre _ _ none hJ1 (Qb _ _ none) (λr e=>by cases e);have hzw:=(aj yi aA).size;have am2:=ag (ag mj aA) ((cR w1.heap.size w1).alloc ao (.cells #[.U x.s,.S x.q x.b.length x.d] 71));have ak6:Er w.heap.size Bs W (w1.alloc (.cells #[.U x.s,.S x.q x.b.length x.d] 71)):=ak7.trans ⟨au.alloc hzw _,am2.trans (ag mj aA).symm⟩;obtain⟨fn,tmps,assign,body,hy,hRd⟩:=hY pre ⟨x,yG⟩ _ hJ2 ae
 try dsimp only at hy
 have hxz:x.z<=1014:=by rcases yG with h|⟨h,h',_⟩<;>omega
 have HM:=af (ah iS (ah Uo (ah KE (ah hB (ah cQ yG)))));have H2:=af ak6
 gi_wp2
 refine hRd.mono ?_;rintro e W3(⟨rfl,SC,rM⟩|⟨rfl,Cm⟩);{
 by_cases hz:x.z=0;{
 have Od:((x.z:Int)==0)=true:=by simp[hz]
 gi_wp2
 refine dD (sS rfl _ _ _) rfl ?_;exact⟨⟨_,rfl⟩,.inl ⟨_,⟨pre,⟨x,yG⟩,rfl,hz⟩,SC⟩⟩};{
 have Od:((x.z:Int)==0)=false:=by simp[hz]
 gi_wp2
 go_roundw
 case rel=>(
 obtain⟨iS,Uo,KE,hB,cQ,_⟩:=aa HM;have hk:kK (l.drop cap)=some (x.s,x.b):=by rw[<-cQ];simp[key,hz]
 obtain⟨r1,r2,_⟩:=r8 (hB.drop _) hk;rcases id yG with h|⟨h,_⟩;{exact absurd h hz};{rw[sX]at r1;refine⟨pre++[⟨x,yG⟩],cap+x.z,f-1,ae,by go_num,aU,aU,?_,SC,H2.trans rM⟩;obtain⟨f',rfl⟩:∃f',f=f'+1:=⟨f-1,ae⟩;rw[sH hk]at iS;rw[kT,sU,Am,h,<-Gn];rw[<-iS];simp[key,hz]})
 case measure=>simp[intOf];omega}}
 {
 gi_wp2
 refine dD (sS rfl _ _ _) rfl ?_;refine⟨⟨_,rfl⟩,.inr ⟨_,?_,Cm⟩⟩;obtain⟨iS,Uo,KE,hB,cQ,_⟩:=aa HM;rw[kT,<-iS];refine(ad3 _).2 ?_;simp only[iM,DX,cQ];exact Le ae}};{
 have wu:cap≠a:=hq;have II:Rd w (.S (some (Ad b (o+a))) (len-a) (cap-a)) (l.drop a):=hR.cut a len Uw ae _ (.inr rfl) _ _ (by rw[ke ae]);have HF:=af (Hz (by rw[sX];omega) II yi (hB.drop _) ae ae ae);have HX:=af (ah iS (ah Uo KE));have HJ:=af hJp;have HK:=af hkp;have HBR:=af (ah hB yi);unfold maxLen at EU
 gi_wp2_with fail
 refine⟨jR,?_⟩;refine(qG.2 HF).mono ?_;rintro e w1⟨aA,⟨x,yG⟩,cQ,rfl⟩;obtain⟨iS,Uo,KE⟩:=aa HX;obtain⟨hB,yi⟩:=aa HBR;have am3:w1.cell? (Ad Bs 0)=wr.cell? (Ad Bs 0):=(ag mj aA).trans mj.symm;have ak7:Er w.heap.size Bs W w1:=HK.trans ⟨aA.mono yi.size,am3⟩;have hJ1:J pre w1:=hJ pre _ _ none HJ (mn aA) (λr e=>by cases e);have hJ2:J pre (w1.alloc (.cells #[.U x.s,.S x.q x.b.length x.d] 71)):=hJ pre _ _ none hJ1 (Qb _ _ none) (λr e=>by cases e);have hzw:=(aj yi aA).size;have am2:=ag (ag mj aA) ((cR w1.heap.size w1).alloc ao (.cells #[.U x.s,.S x.q x.b.length x.d] 71));have ak6:Er w.heap.size Bs W (w1.alloc (.cells #[.U x.s,.S x.q x.b.length x.d] 71)):=ak7.trans ⟨au.alloc hzw _,am2.trans (ag mj aA).symm⟩;obtain⟨fn,tmps,assign,body,hy,hRd⟩:=hY pre ⟨x,yG⟩ _ hJ2 ae
 try dsimp only at hy
 have hxz:x.z<=1014:=by rcases yG with h|⟨h,h',_⟩<;>omega
 have HM:=af (ah iS (ah Uo (ah KE (ah hB (ah cQ yG)))));have H2:=af ak6
 gi_wp2
 refine hRd.mono ?_;rintro e W3(⟨rfl,SC,rM⟩|⟨rfl,Cm⟩);{
 by_cases hz:x.z=0;{
 have Od:((x.z:Int)==0)=true:=by simp[hz]
 gi_wp2
 refine dD (sS rfl _ _ _) rfl ?_;exact⟨⟨_,rfl⟩,.inl ⟨_,⟨pre,⟨x,yG⟩,rfl,hz⟩,SC⟩⟩};{
 have Od:((x.z:Int)==0)=false:=by simp[hz]
 gi_wp2
 go_roundw
 case rel=>(
 obtain⟨iS,Uo,KE,hB,cQ,_⟩:=aa HM;have hk:kK (l.drop a)=some (x.s,x.b):=by rw[<-cQ];simp[key,hz]
 obtain⟨r1,r2,_⟩:=r8 (hB.drop _) hk;rcases id yG with h|⟨h,_⟩;{exact absurd h hz};{rw[sX]at r1;refine⟨pre++[⟨x,yG⟩],a+x.z,f-1,ae,by go_num,aU,aU,?_,SC,H2.trans rM⟩;obtain⟨f',rfl⟩:∃f',f=f'+1:=⟨f-1,ae⟩;rw[sH hk]at iS;rw[kT,sU,Am,h,<-Gn];rw[<-iS];simp[key,hz]})
 case measure=>simp[intOf];omega}}
 {
 gi_wp2
 refine dD (sS rfl _ _ _) rfl ?_;refine⟨⟨_,rfl⟩,.inr ⟨_,?_,Cm⟩⟩;obtain⟨iS,Uo,KE,hB,cQ,_⟩:=aa HM;rw[kT,<-iS];refine(ad3 _).2 ?_;simp only[iM,DX,cQ];exact Le ae}}})
theorem Mb{l n:Nat}{w:World}{Q:Exit->Act->World->Prop}(hd:∀c,o.op≠.defer c)(h:o.wp P a w K Q):o.wpIn (Fence.wide.inRound l) n P a w K Q:=by
 refine⟨λ_ _=>trivial,?_⟩;have e:o.semAt (Fence.wide.inRound l).round a.eval=execOp a.eval o:=Qa _ _ _ hd;rw[e];unfold Oper.wp at h;generalize(execOp a.eval o).run P w=r at*;cases r with
 |ok x w'=>
  cases x<;>simp only[Oper.uponIn,Oper.upon]at h⊢
  case value=>exact h
  case skip=>exact h
  case defer=>exact h
  case enter f args=>exact⟨λh0=>(by cases h0),CallsIn.inRound l (qG.2 h)⟩
  case row row args=>exact⟨λh0=>(by cases h0),λc cs _=>let⟨v,w2,r,s⟩:=h c cs;⟨v,w2,r,stepsIn_wide.2 s⟩⟩
 |halt x w'=>cases x<;>simp only[Oper.uponIn,Oper.upon]at h⊢<;>exact h
theorem iZ{l n:Nat}{md:Region.Mode}{Q:Exit->Act->World->Prop}(hd:∀o∈ops.toList,∀c,o.op≠.defer c)(hl:¬LetsOut Q):∀(fuel:Nat)(listed:Array Bool)(a:Act)(w:World),
  wpAny P md ops Q fuel listed a w->wpAnyIn (Fence.wide.inRound l) n P md ops Q fuel listed a w
 |0,_,_,_,h=>h
 | fuel+1,listed,a,w,h=>by
  refine⟨h.1,λi hi=>?_⟩;have h1:=h.2 i hi;unfold wpOp at h1;unfold wpOpIn;cases ho:ops[i]? with
  |none=>
   simp only[ho]at h1⊢;exact iZ hd hl fuel _ a w h1
  |some o=>
   simp only[ho]at h1⊢;split;{
 rename_i hw
 rw[bN hw]at h1;rcases h1 with h1|⟨_,h1⟩;{exact Oper.wpIn_mono (λa w h=>iZ hd hl fuel _ a w h) (Mb (hd o (by rw[Array.mem_toList_iff];exact ac4 ho)) h1)};{exact absurd h1 hl}};{
 rename_i hw
 rw[bG hw]at h1;exact⟨λ_ _=>trivial,iZ hd hl fuel _ _ w h1⟩}
def Mf(ops:Array Oper):Bool:=ops.toList.all λo=>match o.op with| .defer _=>false|_=>true
def zJ(h:Mf ops=true):∀o∈ops.toList,∀c,o.op≠.defer c:=by
 intro o ho c e;have:=jy.1 h o ho;rw[e]at this;cases this
def qD{l n:Nat}(S:World->Prop){id:Nat}{Q:Exit->Act->World->Prop}{w:World}(hm:P.follows .mixedOrders=true)(hd:Mf ops=true)(hl:¬LetsOut Q)(hS:S w.drew)(h:S w.drew->wpAnyH P .any ops Q S ops.size (Array.replicate ops.size false) a w.drew):(Code.region id ops true).wpIn (Fence.wide.inRound l) n P Q a w:=
 wpIn_region_any hm (iZ (zJ hd) hl _ _ _ _ (wpAny_of_held _ _ _ _ (h hS)))
def IE:Option Int->Int->Bool
 |none,_=>true
 |some t,s=>decide (t≠18446744073709551615)&&decide (s=t+1)
def Hx:Option Int->List (Option R1)->List R1
 |_,[]=>[]
 |_,none::_=>[]
 |t,some r::rest=>if IE t r.1 then r::Hx (some r.1) rest else[]
def mJ(rs:List R1):Option Int:=rs.getLast?.map (·.1)
def yT:List R1->Nat
 |[]=>0
 |r::rs=>r.2.length+14+yT rs
def xC(a b:List R1):yT (a++b)=yT a+yT b:=by induction a with|nil=>simp[yT]|cons r a ih=>simp[yT,ih];omega
def GY(rs:List R1)(r:R1):mJ (rs++[r])=some r.1:=by simp[mJ]
def DD{t:Int}{w:World}(s0:0<=s)(s1:s<18446744073709551616)(t0:0<=t)(t1:t<18446744073709551616):Calls Tryz.prog 87 #[.U s,.U t] w λe w'=>e=.returned (.bool (IE (some t) s))/\w'=w:=by
 by_cases h:t=18446744073709551615;{
 have e:IE (some t) s=false:=by simp[IE,h]
 rw[e];have hb:(t != 18446744073709551615)=false:=by simp[h]
 clear e;subst h;go_enter Tryz.func87,Tryz.ntmps87;go_wp2;go_ret;exact⟨rfl,rfl⟩};{
 have e:IE (some t) s=decide (s=t+1):=by simp[IE,h]
 rw[e];have hb:(t != 18446744073709551615)=true:=by simp[h]
 have hw:IntKind.u64.wrap (t+1)=t+1:=u64_wrap_id _ ae ae;by_cases hs:s=t+1;{
 have h2:(s==t+1)=true:=by simp[hs]
 have h3:decide (s=t+1)=true:=by simp[hs]
 rw[h3];clear e h hs h3;go_enter Tryz.func87,Tryz.ntmps87;go_wp2;go_ret;exact⟨rfl,rfl⟩};{
 have h2:(s==t+1)=false:=by simp[hs]
 have h3:decide (s=t+1)=false:=by simp[hs]
 rw[h3];clear e h hs h3;go_enter Tryz.func87,Tryz.ntmps87;go_wp2;go_ret;exact⟨rfl,rfl⟩}}
def Tryz.infoRec:(Tryz.prog.info? 71).map (λi=>(i.zero,i.size,i.bytes))=some (some (.agg #[.U 0,.S none 0 0]),2,32):=by kernel_rfl
def K8{w w':World}{v':Value}{rs:List R1}{r:R1}(h:il B w v rs vs)(hu:Own B w u r.2)(Y6:∀u'∈vs,IC u' u)(h1:w'.ownsRow B 71 2 v' (rs.length+1) (jQ rs vs++[.U r.1,u]))(hg:w.grownBy w' v.ownBlock):il B w' v' (rs++[r]) (vs++[u]):=by
 have kp:∀{x:Value}{m:LI},Own B w x m->Own B w' x m:=λ{x m}hx=>Own.td (vs:=[v]) hx (Kept.Gd hg ai) (λy hy b e1 e2=>by simp only[nW]at hy;subst hy;exact h.apart hx b e2 e1);refine⟨by simp[h.len],?_,?_,?_⟩;{rw[wY rs vs r u h.len,ir];exact h1};{
 intro i r' x hr hx;by_cases hi:i<rs.length;{rw[lE hi]at hr;rw[lE (h.len▸hi)]at hx;exact kp (h.own i r' x hr hx)};{
 have hi':i=rs.length:=by have:=(bf.1 hr).1;simp at this;omega
 subst hi';rw[nZ ao,Cb]at hr;rw[nZ (h.len▸iP _),h.len,Cb]at hx;simp at hr hx;subst hr hx;exact kp hu}};{rw[aN3];exact⟨h.ap,List.pairwise_singleton _ _,λa ha b hb=>by simp only[nW]at hb;subst hb;exact Y6 a ha⟩}
theorem PF{w:World}(wF:w.cell? (Ad g 0)=some (.U s))(iW:w.cell? (Ad g 1)=some u):∀j x,([Value.U s,u]:List Value)[j]?=some x->w.cell? (((Ad g 0):Addr).add j)=some x:=by
 intro j x hj
 match j,hj with
 |0,hj=>simp at hj;subst hj;simpa[CO]using wF
 |1,hj=>simp at hj;subst hj;simpa[CO]using iW
 |j+2,hj=>simp at hj
def Lq{w:World}{Q:Exit->Act->World->Prop}(mW:o.guard=none){s x:Operand}(ho:o.op=.call {callee:=.builtin .append,args:=#[s,x],argTypes:=#[67,67]}){rs:List R1}{n:Nat}(en:Hid (rs.length=n))(hs:a.eval s=v)(hx:a.eval x=.T g 1 1)(h:il B w v rs vs){r:R1}(wF:w.cell? (Ad g 0)=some (.U r.1))(iW:w.cell? (Ad g 1)=some u)(hu:Own B w u r.2)(Y6:∀u'∈vs,IC u' u)(hl:n<=2097152)(hB:B<=w.heap.size)(hK:∀p' c' w',il B w' (.S p' (n+1) c') (rs++[r]) (vs++[u])->w.grownBy w' v.ownBlock->K (a.put o.dst (.S p' (n+1) c')) w'):if Region.wanted o (yielded ops a.tmps)=true then Oper.wp Tryz.prog o a w K Q else E:=by
 have hw:Region.wanted o (yielded ops a.tmps)=true:=by simp[Region.wanted,mW]
 rw[bN hw];obtain⟨i,hi,qc,iU,jU⟩:=gh Tryz.infoRec;have e:=aa en;subst e;obtain⟨pu,cu,eu⟩:=hu.form;refine wp_append_own w s x 67 ho B 71 i _ 2 32 Tryz.underlying67 hi qc iU jU rfl aZ v _ _ hs h.row (Ad g 0) 1 1 [.U r.1,u] hx rfl (PF wF iW) ?_ iF ae hB ?_;{
 intro y hy;simp only[jG,Ki,uP]at hy;rcases hy with rfl|rfl;{rfl}
 {rw[eu];rfl}};{intro v' w' h1 h2 _;have hR:=K8 h hu Y6 h1 h2;obtain⟨p',c',rfl⟩:=hR.form;have:=hK p' c' w';rw[ir]at hR;exact(by simpa using this hR h2)}
def Lp{w:World}{Q:Exit->Act->World->Prop}{R:Ending->World->Prop}(hw:Region.wanted o (yielded ops a.tmps)=true){f:FuncId}{x1 x2:Operand}{WW:Array TypeId}(ho:o.op=.call {callee:=.value (.func f),args:=#[x1,x2],argTypes:=WW})(h1:a.eval x1=v1)(h2:a.eval x2=v2)(yK:∀vs,(callFunc f vs).run P w=.ok (.enter f vs) w)(hc:Calls P f #[v1,v2] w R)(hR:∀e w',R e w'->∃v,e=.returned v/\K (a.put o.dst v) w'):if Region.wanted o (yielded ops a.tmps)=true then Oper.wp P o a w K Q else E:=by
 rw[bN hw];have dN:(execOp a.eval o).run P w=.ok (.enter f #[v1,v2]) w:=by subst h1 h2;unfold execOp;simp[go_sem,ho,resolve,invoke,yK]
 show o.upon P a K Q _;rw[dN,Qd];refine hc.mono ?_;intro e w' h;obtain⟨v,rfl,hk⟩:=hR e w' h;exact hk
def il.lt{w:World}{rs:List R1}(h:il B w v rs vs):∀u∈vs,∀b,u.ownBlock=some b->b<w.heap.size:=by
 intro u hu b e;obtain⟨i,hi⟩:=Cc hu;obtain⟨r,hr⟩:∃r,rs[i]?=some r:=⟨_,bD (h.len▸(bf.1 hi).1)⟩;exact(Own.lt (h.own i r u hr hi) b e).2
def il.VB{w:World}{rs:List R1}(h:il B w v rs vs):∀b,v.ownBlock=some b->B<=b/\b<w.heap.size:=Gt h.row
def il.ZR{w:World}{rs:List R1}(h:il B w v rs vs):∀(j:Nat)(o:Obj),v.ownBlock=some j->w.heap[j]?=some o->o.isCells=true:=by
 intro j o e ho;rcases h.row.2 with⟨rfl,_⟩|⟨g,cap,cur,rfl,_,hg,_⟩;{simp[Value.ownBlock]at e};{
 simp[Value.ownBlock]at e;subst e;rw[hg]at ho;cases ho
 rfl}
def uv{w:World}{rest:List Oper}{Q:Exit->Act->World->Prop}(mW:o.guard=none){s x:Operand}(ho:o.op=.call {callee:=.builtin .append,args:=#[s,x],argTypes:=#[67,67]}){rs:List R1}{n:Nat}(en:Hid (rs.length=n))(g:Nat)(hs:a.eval s=v)(hx:a.eval x=.T g 1 1)(h:il B w v rs vs){r:R1}(wF:w.cell? (Ad g 0)=some (.U r.1))(iW:w.cell? (Ad g 1)=some u)(hu:Own B w u r.2)(Y6:∀u'∈vs,IC u' u)(hl:n<=2097152)(hB:B<=w.heap.size)(hK:∀p' c' w',il B w' (.S p' (n+1) c') (rs++[r]) (vs++[u])->w.grownBy w' v.ownBlock->wpList Tryz.prog ops Q rest (a.put o.dst (.S p' (n+1) c')) w'):wpList Tryz.prog ops Q (o::rest) a w:=by
 obtain⟨i,hi,qc,iU,jU⟩:=gh Tryz.infoRec;have e:=aa en;subst e;obtain⟨pu,cu,eu⟩:=hu.form;refine Kc w mW s x 67 ho B 71 i _ 2 32 Tryz.underlying67 hi qc iU jU rfl aZ v _ _ hs h.row (Ad g 0) 1 1 [.U r.1,u] hx rfl (PF wF iW) ?_ iF ae hB ?_;{
 intro y hy;simp only[jG,Ki,uP]at hy;rcases hy with rfl|rfl;{rfl}
 {rw[eu];rfl}};{intro v' w' h1 h2 _;have hR:=K8 h hu Y6 h1 h2;obtain⟨p',c',rfl⟩:=hR.form;have:=hK p' c' w';rw[ir]at hR;exact(by simpa using this hR h2)}
def KeepsOthers.dY(h:Bw W W'):KeepsOthers W W':=⟨h.size,λk o hk _=>(h.block k (Gq.1 hk).1).trans hk⟩
def Own.uS(h:Own B W v l)(hg:W.grownBy W' row)(hr:∀r,row=some r->∃o:Obj,W.heap[r]?=some o/\o.isCells=false):Own B W' v l:=by
 refine Gs h hg ?_;rcases h.2 with⟨rfl,_⟩|⟨g,cap,cur,rfl,_,hgg,_⟩;{exact .inl rfl};{refine .inr λe=>?_;obtain⟨o,ho,hc⟩:=hr g e.symm;rw[hgg]at ho;cases ho;cases hc}
def il.uS{rs:List R1}(h:il B W v rs vs)(hg:W.grownBy W' row)(hr:∀r,row=some r->∃o:Obj,W.heap[r]?=some o/\o.isCells=false):il B W' v rs vs:=by
 refine⟨h.len,Gs h.row hg ?_,λi r u h1 h2=>Own.uS (h.own i r u h1 h2) hg hr,h.ap⟩;rcases h.row.2 with⟨rfl,_⟩|⟨g,cap,cur,rfl,_,hgg,_⟩;{exact .inl rfl};{refine .inr λe=>?_;obtain⟨o,ho,hc⟩:=hr g e.symm;rw[hgg]at ho;cases ho;cases hc}
def il.set{w:World}{rs:List R1}(h:il B w v rs vs){a:Addr}(ha:a.block<B)(u:Value):il B (w.setCell a u) v rs vs:=
 ⟨h.len,qn h.row ha u,λi r x h1 h2=>Own.set (h.own i r x h1 h2) ha u,h.ap⟩
attribute [local go_sem] Oper.semAt_some
def WM(w:World)(rs:List R1)(e:Ending)(w':World):Prop:=
 ∃p c vs,e=.returned (.tuple #[.S p rs.length c,.I (yT rs:Nat)])/\il w.heap.size w' (.S p rs.length c) rs vs/\Bw w w'
def rl(l:LI):List R1:=Hx none (yl (l.length+1) l)
abbrev keys{w:World}(pre:List (Zg w)):List (Option R1):=pre.map λx=>key x.1
def Sc(w W:World)(rs:List R1)(v:Value)(vs:List Value):Prop:=
 W.cell? (Ad w.heap.size 0)=some v/\W.frozen? (Ad w.heap.size 0)=false/\W.cell? (Ad (w.heap.size+1) 0)=some (.I (yT rs:Nat))/\W.frozen? (Ad (w.heap.size+1) 0)=false/\il (w.heap.size+3) W v rs vs
def Inv(w:World)(pre:List (Zg w))(W:World):Prop:=
 ∃rs v vs,Sc w W rs v vs/\(∀rest,Hx none (keys pre++rest)=rs++Hx (mJ rs) rest)/\(∀x∈pre,x.1.z≠0)/\rs.length=pre.length/\yT rs<=1014*pre.length/\(∀r∈rs,r.2.length<=1000/\0<=r.1/\r.1<18446744073709551616)
def aL4(w:World)(c:Code)(ys:List (Zg w))(W:World):Prop:=
 c=.exit 0/\∃rs v vs,Sc w W rs v vs/\(∀rest,Hx none (keys ys++rest)=rs)
def Sc.uS{w W W':World}{rs:List R1}(h:Sc w W rs v vs)(hg:W.grownBy W' row)(hr:∀r,row=some r->∃o:Obj,W.heap[r]?=some o/\o.isCells=false):Sc w W' rs v vs:=
 ⟨cell_kept h.1 hg hr,(frozen_kept h.1 hg hr).trans h.2.1,cell_kept h.2.2.1 hg hr,(frozen_kept h.2.2.1 hg hr).trans h.2.2.2.1,h.2.2.2.2.uS hg hr⟩
def Sc.below{w W W':World}{rs:List R1}(h:Sc w W rs v vs)(hb:Bw W W'):Sc w W' rs v vs:=
 h.uS (row:=none) (mn hb) (λr e=>by cases e)
def Inv.own(w:World)(B:Nat):OwnFrom B (Inv w):=by
 rintro s W W' row⟨rs,v,vs,hd,hp⟩hg hr;exact⟨rs,v,vs,hd.uS hg (λr e=>(hr r e).2),hp⟩
def aL4.own(w:World)(c:Code)(B:Nat):OwnFrom B (aL4 w c):=by
 rintro s W W' row⟨hc,rs,v,vs,hd,hp⟩hg hr;exact⟨hc,rs,v,vs,hd.uS hg (λr e=>(hr r e).2),hp⟩
def Inv.below{w W W':World}{pre:List (Zg w)}(h:Inv w pre W)(hb:Bw W W'):Inv w pre W':=by
 obtain⟨rs,v,vs,hd,hp⟩:=h;exact⟨rs,v,vs,hd.below hb,hp⟩
def aK3{w W V w9:World}{W0s:Nat}{x:It}(yG:Good w x){pre:List (Zg w)}{rs:List R1}{p9:OA}{c9 K:Nat}(z0:W0s=w.heap.size+3)(hz:W0s<=W.heap.size)(KV:KeepsOthers W V)(BV:Bw W V)(hb:Bw w V)(c0:V.cell? (Ad w.heap.size 0)=some v)(c1:V.frozen? (Ad w.heap.size 0)=false)(c2:V.cell? (Ad (w.heap.size+1) 0)=some (.I (yT rs:Nat)))(c3:V.frozen? (Ad (w.heap.size+1) 0)=false)(ho:il (w.heap.size+3) V v rs vs)(Wx:Below (w.heap.size+3) V w9)(KO9:KeepsOthers V w9)(hR9:il (w.heap.size+3) w9 (.S p9 (K+1) c9) (rs++[(x.s,x.b)]) (vs++[u]))(eK:Hid (rs.length=K))(HX:Hid (x.z=x.b.length+14/\aN x.b/\key x=some (x.s,x.b)))(HF:Hid ((∀rest,Hx none (keys pre++rest)=rs++Hx (mJ rs) rest)/\(∀y∈pre,y.1.z≠0)/\K=pre.length/\yT rs<=1014*pre.length/\(∀r∈rs,r.2.length<=1000/\0<=r.1/\r.1<18446744073709551616)))(vz:Hid (IE (mJ rs) x.s=true))(hxl:x.b.length<=1000)(xs0:0<=x.s)(xs1:x.s<18446744073709551616):KeepsFrom W0s W ((w9.setCell (Ad w.heap.size 0) (.S p9 (K+1) c9)).setCell (Ad (w.heap.size+1) 0) (.I ((yT rs:Int)+(x.z:Int))))∧
  Er w.heap.size (w.heap.size+2) W ((w9.setCell (Ad w.heap.size 0) (.S p9 (K+1) c9)).setCell (Ad (w.heap.size+1) 0) (.I ((yT rs:Int)+(x.z:Int))))∧
  Inv w (pre++[⟨x,yG⟩]) ((w9.setCell (Ad w.heap.size 0) (.S p9 (K+1) c9)).setCell (Ad (w.heap.size+1) 0) (.I ((yT rs:Int)+(x.z:Int))))∧
  Bw w ((w9.setCell (Ad w.heap.size 0) (.S p9 (K+1) c9)).setCell (Ad (w.heap.size+1) 0) (.I ((yT rs:Int)+(x.z:Int))))/\W0s<=((w9.setCell (Ad w.heap.size 0) (.S p9 (K+1) c9)).setCell (Ad (w.heap.size+1) 0) (.I ((yT rs:Int)+(x.z:Int)))).heap.size:=by
 obtain⟨hxz,hxB,hkx⟩:=aa HX;obtain⟨Js,hnz,hrl,Ss,Ej⟩:=aa HF;have iV:=aa vz;have eK':=aa eK;have hV3:w.heap.size+3<=V.heap.size:=by have:=BV.size;omega
 have q0:=(Wx.cell (p:=(Ad w.heap.size 0)) (by show w.heap.size<_;omega)).trans c0;have q1:=(Wx.frozen (p:=(Ad w.heap.size 0)) (by show w.heap.size<_;omega)).trans c1;have q2:=(Wx.cell (p:=(Ad (w.heap.size+1) 0)) (by show w.heap.size+1<_;omega)).trans c2;have q3:=(Wx.frozen (p:=(Ad (w.heap.size+1) 0)) (by show w.heap.size+1<_;omega)).trans c3;have q4:=Wx.cell (p:=(Ad (w.heap.size+2) 0)) (by show w.heap.size+2<_;omega);have hbW:Below w.heap.size W w9:=(BV.mono ae).trans (Wx.mono ae);have AY:Bw w w9:=hb.trans (Wx.mono ae);refine⟨((KV.trans KO9).trans ((KeepsOthers.setCell _ _ _).trans (KeepsOthers.setCell _ _ _))).from _,⟨(hbW.setCell ao _).setCell ai _,?_⟩,⟨rs++[(x.s,x.b)],.S p9 (K+1) c9,vs++[u],⟨?_,?_,?_,?_,?_⟩,?_,?_,?_,?_,?_⟩,(AY.setCell ao _).setCell ai _,?_⟩;{rw[P8 _ _ _ _ ai,P8 _ _ _ _ ai,q4];exact tJ (a:=(Ad (w.heap.size+2) 0)) (BV.block _ (by show w.heap.size+2<_;omega))};{rw[P8 _ _ _ _ ai];exact PX _ _ _ (by rw[q0];rfl)};{rw[BM,BM];exact q1};{
 have:((yT (rs++[(x.s,x.b)]):Nat):Int)=(yT rs:Int)+(x.z:Int):=by rw[xC];simp[yT];omega
 rw[this];refine PX _ _ _ ?_;rw[P8 _ _ _ _ ai,q2];rfl};{rw[BM,BM];exact q3};{exact(hR9.set (by show w.heap.size<_;omega) _).set (by show w.heap.size+1<_;omega) _};{intro rest;simp only[kT,iM,DX,sU,D6,Gp];rw[hkx,Js (some (x.s,x.b)::rest),GY];simp[Hx,iV]};{intro y hy;rcases gM.1 hy with h|h;{exact hnz y h};{simp at h;subst h;show x.z≠0;omega}};{simp;omega};{rw[xC];simp[yT];omega};{intro r hr;rcases gM.1 hr with h|h;{exact Ej r h};{simp at h;subst h;exact⟨hxl,xs0,xs1⟩}};{show W0s<=_;have:=hbW.size;have:=Wx.size;simp;omega}
def IN{l n:Nat}{Q:Exit->Act->World->Prop}{S:World->Prop}{x:Nat}{id:Nat}{w:World}(hl:¬LetsOut Q)(hS:S w.drew)(h:S w.drew->IP P .any ops Q S x ops.size (Array.replicate ops.size false) a w.drew)(hm:P.follows .mixedOrders=true:=by kernel_rfl)(hd:Mf ops=true:=by kernel_rfl):(Code.region id ops true).wpIn (Fence.wide.inRound l) n P Q a w:=
 wpIn_region_any hm (iZ (zJ hd) hl _ _ _ _ (Lg _ _ _ _ (h hS)))
set_option maxRecDepth 100000 in
def He{n:Nat}(hn:3<=n){len cap:Nat}{w:World}(hR:Rd w (.S p len cap) l)(hB:aN l)(el:l.length=len)(hlen:len<=1048576)(Eh:len<=cap)(EU:cap<=maxLen)(hp:(p=none/\cap=0)\/∃b o,p=some (Ad b o)):CallsIn Fence.wide n prog 46 #[.S p len cap] w (WM w (rl l)):=by
 have h1:1<=n:=ae;refine callsIn_of_wp_marks func46 rfl jR ?_ rfl;simp only[ntmps46,rB,Nat.reduceAdd,Nat.reduceSub];refine wpIn_wide.2 ?_;go_wp2_with fail;refine wp_scope_straight ?_;go_wp2_with fail
 go_step3
 go_wp2_with fail;refine(qG.1 (LR (n:=0))).mono ?_;rintro e w1⟨rfl,rfl⟩;go_wp2_with fail;obtain⟨W0,dP⟩:=az (((w.alloc (.cells #[.S none 0 0] 67)).alloc (.cells #[.I 0] 3)).alloc (.cells #[.S p len cap] 22));have z0:W0.heap.size=w.heap.size+3:=by rw[dP];simp
 have k0:W0.cell? (Ad w.heap.size 0)=some (.S none 0 0):=by rw[dP];simp[go_sem]
 have f0:W0.frozen? (Ad w.heap.size 0)=false:=by rw[dP];simp[go_sem]
 have k1:W0.cell? (Ad (w.heap.size+1) 0)=some (.I 0):=by rw[dP];simp[go_sem]
 have f1:W0.frozen? (Ad (w.heap.size+1) 0)=false:=by rw[dP];simp[go_sem]
 have k2:W0.cell? (Ad (w.heap.size+2) 0)=some (.S p len cap):=by rw[dP];simp[go_sem]
 have XS:Bw w W0:=by rw[dP];exact((au.alloc ao _).alloc ai _).alloc aU _
 rw[<-dP];clear dP;refine(wpIn_wide (n:=n)).1 ?_;refine wpIn_rangeFunc_ownH (F:=Fence.wide) rfl h1 (gf:=142) (lb:=#[.pointer (some (Ad (w.heap.size+2) 0))]) rfl jR (enters_of func142 bg rfl)
  (α:=Zg w) (encs:=ah7) (Kp:=Er w.heap.size (w.heap.size+2)) (S:=λys=>∃pre x,ys=pre++[x]/\x.1.z=0) (Sp:=λpre=>keys pre <+: yl (len+1) l) (N:=len+2) (w0:=W0) ?seq (λh k=>h.trans k) (Er.put ae ae) au (λ_=>rfl)
  (λpre W=>Inv w pre W/\Bw w W/\W0.heap.size<=W.heap.size) (λc pre W=>aL4 w c pre W/\Bw w W)
  (OwnFrom.and (Inv.own w _) (OwnFrom.and (ownFrom_below ao ae) (λ_ _ _ _ h hg _=>dQ h hg.size)))
  (λc=>OwnFrom.and (aL4.own w c _) (ownFrom_below ao ae))
  ⟨⟨[],_,[],⟨k0,f0,k1,f1,il.nil _ _⟩,by simp[mJ],ai,rfl,by simp[yT],ai⟩,XS,iP _⟩
  (λx a' W=>∃R,W0.heap.size<=R/\SR W R (.U x.1.s) (.S x.1.q x.1.b.length x.1.d)/\(∃v0,W.cell? (Ad w.heap.size 0)=some v0/\v0.ownBlock≠some R)/\a'={tmps:=#[.S p len cap,undef,.S none 0 0,.I 0,.pointer (some (Ad w.heap.size 0)),.pointer (some (Ad (w.heap.size+1) 0)),.pointer (some (Ad R 0)),.I x.1.z,.S p len cap,.func (.func 142) #[] #[.pointer (some (Ad (w.heap.size+2) 0))],zE x.1.s (.S x.1.q x.1.b.length x.1.d),.I x.1.z,undef,undef,undef,undef,undef,undef,undef,undef,undef,undef,undef,undef,undef,undef,undef,undef,undef,undef,undef,undef,undef,undef,undef,undef,undef,undef,undef,undef,undef,undef,undef,undef,undef,undef,undef],defers:=[]})
  ?ax ?assign ?body ?done ?stop
 case seq=>(
 intro L J Jx W hW hJ hJx hY h0;refine(bw6 (n:=n-1) ae (L:=L) (Bs:=w.heap.size+2) (len:=len) (cap:=cap) (p:=p) (l:=l) (w:=w) hR hB el hlen Eh EU hp J Jx (W:=W) hJ hY ((hW.cell (p:=(Ad (w.heap.size+2) 0)) (by show w.heap.size+2<_;omega)).trans k2) (XS.trans (hW.mono ae)) h0).mono ?_;rintro e W'⟨he,h⟩;exact⟨he,h⟩)
 case ax=>(
 rintro x a' _ W W' row⟨R,rr,hA,⟨v0,mL,YP⟩,ha⟩hg hr;exact⟨R,rr,⟨cell_kept hA.1 hg (λr e=>(hr r e).2),cell_kept hA.2 hg (λr e=>(hr r e).2)⟩,⟨v0,cell_kept mL hg (λr e=>(hr r e).2),YP⟩,ha⟩)
 case assign=>(
 rintro L pre x W K⟨hi,hb,hz⟩hK
 gi_wp2
 obtain⟨rs,v,vs,⟨c0,_,_,_,ho⟩,_⟩:=id hi;exact hK _ _ ((KeepsOthers.alloc _ _).from _) ⟨(cR _ W).alloc (by have:=hb.size;omega) _,tJ (a:=(Ad (w.heap.size+2) 0)) (Mp W _ _ (by show w.heap.size+2<_;omega))⟩ ⟨hi.below (au.alloc ao _),hb.alloc hb.size _,aU⟩ ⟨W.heap.size,hz,by simp[SR],⟨v,ag c0 (au.alloc ao _),λe=>by have:=(ho.VB _ e).2;omega⟩,rfl⟩)
 case body=>(
 rintro L pre⟨x,yG⟩a' W hL⟨r,hr⟩⟨⟨rs,v,vs,⟨c0,c1,c2,c3,ho⟩,Js,hnz,hrl,Ss,Ej⟩,hb,hz⟩⟨R,rr,hA,cx5,rfl⟩rK;obtain⟨pv,cv,rfl⟩:=ho.form;obtain⟨v0,d0,hAv⟩:=cx5;rw[c0]at d0;obtain rfl:.S pv rs.length cv=v0:=by simpa using d0
 clear d0;obtain⟨K,eK⟩:=aI rs.length;rw[eK]at ho c0 hrl hAv;dsimp only at*;have yK:∀(vs:Array Value)(w:World),(callFunc 88 vs).run prog w=.ok (.enter 88 vs) w:=λvs w=>bg;have hcg:∀(vs:Array Value)(w:World),(callFunc 87 vs).run prog w=.ok (.enter 87 vs) w:=λvs w=>bg;by_cases hx:x.z=0;{
 have XC:((x.z:Int)==0)=true:=by simp[hx]
 gi_wp2
 refine⟨KeepsFrom.refl _ _,⟨rfl,rs,_,vs,⟨c0,c1,c2,c3,ho⟩,λrest=>?_⟩,hb⟩;have:=Js (none::rest);simp only[kT,iM,DX,sU,D6,Gp];rw[show key x=none by simp[key,hx],this];simp[Hx]};{
 have XC:((x.z:Int)==0)=false:=by simp[hx]
 have hkx:key x=some (x.s,x.b):=by simp[key,hx]
 obtain⟨hxz,hxl,hxB,xs0,xs1,hRx⟩:x.z=x.b.length+14/\x.b.length<=1000/\aN x.b/\0<=x.s/\x.s<18446744073709551616/\Rd w (.S x.q x.b.length x.d) x.b:=by rcases yG with h|h;{exact absurd h hx};{exact h}
 gi_wp2_with fail
 have HX:=af (ah hxz (ah hxB hkx));have HF:=af (ah Js (ah hnz (ah hrl (ah Ss Ej))));have eKh:=af eK;have hKn:K<=1048578:=ae;have dD9:(yT rs:Int)<=1100000000:=ae;have dD1:(x.z:Int)<=1014:=ae;clear Js hnz hrl Ss Ej hxz hxB hkx;obtain⟨vv,evv⟩:=aI (Value.slice pv K cv);have Zc:=c0;have HO:=af ho;have HV:Hid (W.cell? (Ad w.heap.size 0)=some vv/\il (w.heap.size+3) W vv rs vs/\vv.ownBlock≠some R):=by rw[<-evv];exact⟨c0,ho,hAv⟩
 clear evv ho hAv c0;by_cases hK0:K=0;rotate_left;have hkr:K-1<rs.length:=ae;obtain⟨⟨t,bt⟩,IG⟩:∃r,rs[K-1]?=some r:=⟨_,bD hkr⟩;have HL:Hid (mJ rs=some t):=by show _=_;unfold mJ;rw[ad6,eK,IG];rfl
 obtain⟨t0,t1⟩:=HF.2.2.2.2 _ (aY IG) |>.2;obtain⟨u,hu⟩:∃u,vs[K-1]?=some u:=⟨_,bD (by rw[HO.len];exact hkr)⟩;rcases id HO.row.2 with⟨_,h0⟩|⟨g,yC,cur,ev,MI,hgg,_,_,_,_⟩;{omega};simp only[qZ]at ev;obtain⟨rfl,-,rfl⟩:=ev;have Tz:=HO.row;rw[eK]at Tz;have d0:=(Tz.cellAt (2*(K-1)) ae).trans (nQ rs vs (K-1) _ u IG hu).1;rw[Qq]at d0;dsimp only at d0;obtain⟨K1,eK1⟩:=aI (K-1);rw[eK1]at d0;have Uy:(K:Int)-1=(K1:Int):=ae;have XP:=qi 0 K;have XO:=aS K1 K;have hK4:0<K:=ae;have Y8:K1<=1048578:=ae;have hK6:(K1:Int)<=1048578:=ae;have hK7:=fk K1;clear eK hkr IG hu Tz hgg eK1;refine qD (λw'=>w'.cell? (Ad w.heap.size 0)=some (.T g K cv)/\SR w' R (.U x.s) (.S x.q x.b.length x.d)/\w'.cell? (Ad g (K1*2))=some (.U t)) bg bg (by rintro⟨_,_,h⟩;exact h) (ah Zc (ah hA d0)) (λhS=>?_);refine kG 0 1 hS ?_;refine tk 2 hS (v:=.bool true) (h:=?_);simp only[Act.put,xa,xb,xc];refine nK 3 4 5 6 7 8 9 10 hS ?_;refine kG 11 12 hS ?_;refine ry [13] ?_;refine cn (λKK hK=>?_) ?_;rotate_left;exact eG;rotate_left;refine Lp aH (f:=87) aH (v1:=.U x.s) (v2:=.U t) aH aH (λ_=>hcg _ _) (DD (s:=x.s) (t:=t) xs0 xs1 t0 t1) ?_;rintro e w7⟨rfl,rfl⟩;refine⟨_,rfl,?_⟩;refine gr hK hS λhS=>?_;clear hK KK;generalize hbk:IE (some t) x.s=bk;refine kG 14 15 hS ?_;refine tn 16 hS ?_;refine bM5 ?_;cases bk;{
 gi_wp2
 obtain⟨c0,ho,-⟩:=aa HV;refine⟨(KeepsOthers.drew _).from _,⟨rfl,rs,_,vs,⟨c0,c1,c2,c3,ho.below au.drew⟩,λrest=>?_⟩,hb.drew⟩;obtain⟨Js,-⟩:=aa HF;obtain⟨-,-,hkx⟩:=aa HX;have h2:=Js (some (x.s,x.b)::rest);simp only[kT,iM,DX,sU,D6,Gp];rw[hkx,h2,aa HL];simp[Hx,hbk]};have vz:Hid (IE (mJ rs) x.s=true):=by show _=_;rw[aa HL];exact hbk
 clear Uy XP XO hK4 Y8 hK6 hK7 d0 hbk HL MI;rotate_left;have vz:Hid (IE (mJ rs) x.s=true):=by show _=_;rw[Jd (eK.trans hK0)];rfl
 refine qD (λw'=>w'.cell? (Ad w.heap.size 0)=some (.S pv K cv)) bg bg (by rintro⟨_,_,h⟩;exact h) Zc (λhS=>?_);refine kG 0 1 hS ?_;refine tk 2 hS (v:=.bool false) (h:=?_);simp only[Act.put,xa,xb,xc];refine tn 3 hS ?_;refine oI 4 5 6 7 hS ?_;refine oI 8 9 10 11 hS ?_;refine sn 12 hS ?_;refine sn 13 hS ?_;refine sn 14 hS ?_;refine kG 15 16 hS ?_;refine bM5 ?_;clear eK
 all_goals
  clear hS Zc HO hK0;obtain⟨c0,ho,hAv⟩:=aa HV;clear HV
  gi_wp2_with fail
  replace c0:W.drew.cell? (Ad w.heap.size 0)=some _:=c0;replace c1:W.drew.frozen? (Ad w.heap.size 0)=false:=c1;replace c2:W.drew.cell? (Ad (w.heap.size+1) 0)=some _:=c2;replace c3:W.drew.frozen? (Ad (w.heap.size+1) 0)=false:=c3;replace ho:=ho.below (cR W.heap.size W).drew;replace hA:SR W.drew R (.U x.s) (.S x.q x.b.length x.d):=hA;replace hb:Bw w W.drew:=hb.drew;have KV:KeepsOthers W W.drew:=KeepsOthers.drew W;have BV:Bw W W.drew:=au.drew;have hzV:W0.heap.size<=W.drew.heap.size:=hz;generalize W.drew=V at*;have B5:Bw V (V.drew.alloc (.cells #[.S x.q x.b.length x.d] 22)):=((cR V.heap.size V).drew).alloc ao _;refine IN (x:=10) (S:=λw'=>w'.cell? (Ad w.heap.size 0)=some vv/\SR w' R (.U x.s) (.S x.q x.b.length x.d)) (by rintro⟨_,_,h⟩;exact h) ⟨c0,hA⟩ (λhS=>?_);refine tED 0 1 2 3 hS ?_;refine tEn 4 hS ?_;refine jt 5 (λKK hK=>?_);go_simp;refine oGS hK ⟨ag c0 B5,hA.below B5⟩ λhS=>?_;clear hK KK;refine jt 6 (λKK hK=>?_);refine iC aH (f:=88) aH (v1:=.T V.heap.size 1 1) aH (λ_=>yK _ _) (gv (g:=V.heap.size) (vs:=[.S x.q x.b.length x.d]) [x.b] (lm:=x.b) (n:=x.b.length) 1 rfl (by show _=_;rw[Fc]) rfl (aa5 ai (hRx.below (Below.trans hb (B5.mono ae)))) ae ae) ?_;rintro e w6⟨p6,c6,rfl,o6,ky⟩;refine⟨_,rfl,?_⟩;have B6:=aj B5 ky;have z6:=B6.size;have z6':=ky.size;have cu4:∀u'∈vs,IC u' (.S p6 x.b.length c6):=λu' hu' b e1 e2=>by have h1:=ho.lt u' hu' b e1;have h2:=(Own.lt o6 b e2).1;simp at h2;omega
  refine oGS hK ⟨ag c0 B6,hA.below B6⟩ λhS=>?_;clear hK KK;refine tEo 7 hS ?_;refine jt 8 (λKK hK=>?_);go_simp;have B8:Bw V (w6.alloc (.cells #[.U x.s,.S p6 x.b.length c6] 71)):=B6.alloc ae _;refine oGS hK ⟨ag c0 B8,hA.below B8⟩ λhS=>?_;clear hK KK;refine jt 9 (λKK hK=>?_);refine Lq aH aH (B:=w.heap.size+3) (v:=vv) (rs:=rs) (vs:=vs) (n:=K) eKh (g:=w6.heap.size) aH aH (ho.below B8) (r:=(x.s,x.b)) (u:=.S p6 x.b.length c6) ai ai (Own.mono (Own.below o6 (au.alloc ao _)) aU) cu4 ae aU ?_;intro p9 c9 w9 hR9 AW;have Wx:Below (w.heap.size+3) V w9:=(B8.mono ae).grown AW (by have:=B8.size;omega) (λb e=>(ho.VB b e).1);have q0:=(Wx.cell (p:=(Ad w.heap.size 0)) (by show w.heap.size<_;omega)).trans c0;have q1:∀o,w9.frozen? (Ad w.heap.size o)=V.frozen? (Ad w.heap.size o):=λo=>Wx.frozen (p:=(Ad w.heap.size o)) (by show w.heap.size<_;omega);refine oGS hK ⟨q0,AW.cell hS.2.1 (λe=>hAv e.symm),AW.cell hS.2.2 (λe=>hAv e.symm)⟩ λhS=>?_;clear hK KK;refine jt 10 (λKK hK=>?_);go_simp;refine oGX hK ?_;clear hK KK hS;refine Fh ?_;have q2:=(Wx.cell (p:=(Ad (w.heap.size+1) 0)) (by show w.heap.size+1<_;omega)).trans c2;have q3:=(Wx.frozen (p:=(Ad (w.heap.size+1) 0)) (by show w.heap.size+1<_;omega)).trans c3;have KO9:=af ((KeepsOthers.dY B8).trans (KeepsOthers.of_grownBy AW (ho.below B8).ZR))
  gi_wp2
  exact aK3 (w:=w) (W:=W) (V:=V) (w9:=w9) (W0s:=W0.heap.size) (x:=x) yG (pre:=pre) (rs:=rs) (vs:=vs) (p9:=p9) (c9:=c9) (K:=K) z0 hz KV BV hb c0 c1 c2 c3 ho Wx KO9 hR9 eKh HX HF vz hxl xs0 xs1})
 case done=>(
 rintro D ys W hD⟨pre,x,rfl,hx⟩⟨⟨rs,v,vs,_,_,hnz,_⟩,_⟩hK;exact absurd hx (hnz x ai))
 case stop=>(
 rintro D c ys W hD hSp⟨⟨rfl,rs,v,vs,⟨c0,c1,c2,c3,ho⟩,Js⟩,hb⟩hK;obtain⟨rest,aP8⟩:=hSp;have erl:rl l=rs:=by unfold rl;rw[el,<-aP8];exact Js rest
 obtain⟨pv,cv,rfl⟩:=ho.form;refine wpIn_wide.2 ?_;clear Js aP8;go_wp2_with fail;have k0:=ah c0 c2
 go_region_held3 (λw'=>w'.cell? (Ad w.heap.size 0)=some (.S pv rs.length cv)/\w'.cell? (Ad (w.heap.size+1) 0)=some (.I (yT rs:Nat))) (exact k0) (fail)
 go_wp2
 try rw[Exit.noGoto_ret]
 refine⟨ai,.inl ⟨_,_,rfl,run_takeDeferred (w:=W.drew) hK,?_⟩⟩;have hKd:W.drew.heap[D]?=some (.deferred (some [])):=hK;refine⟨.tuple #[.S pv rs.length cv,.I (yT rs:Nat)],by simp[results,results46,go_sem],?_⟩;rw[erl];refine⟨pv,cv,vs,rfl,((ho.below au.drew).uS (grownBy_putObj' W.drew D (.deferred none)) (λr e=>by cases e;exact⟨_,hKd,rfl⟩)).mono ae,?_⟩;exact hb.drew.trans (belowK_b (w:=w) ao W.drew D _ _ ae hKd rfl rfl))
def QL{len cap:Nat}{w:World}(hR:Rd w (.S p len cap) l)(hB:aN l)(el:l.length=len)(hlen:len<=1048576)(Eh:len<=cap)(EU:cap<=maxLen)(hp:(p=none/\cap=0)\/∃b o,p=some (Ad b o)):Cp 46 #[.S p len cap] w (WM w (rl l)):=
 qG.1 (He (n:=3) ae hR hB el hlen Eh EU hp)
def oB:Option LI->Int×Option LI
 |some (c::t)=>(c,some t)
 |_=>(0,none)
def oV:Option LI->Int×Option LI
 |some m=>(match rv m with|some x=>(x.1,some x.2)|none=>(0,none))
 |none=>(0,none)
def oT:Option LI->LI×Option LI
 |some m=>(match rt m with|some x=>(x.1,some x.2)|none=>([],none))
 |none=>([],none)
def nG(n:Nat):Option LI->Int
 |some m=>(n:Int)-m.length
 |none=>-1
def ki(n:Nat)(l:LI)(om:Option LI):Prop:=∀m,om=some m->m.length<=n/\m=l.drop (n-m.length)
def ki.start{n:Nat}(h:l.length=n):ki n l (some l):=λm e=>by
 simp at e;subst e;exact⟨ae,by rw[h,Cb];rfl⟩
def ki.none{n:Nat}:ki n l none:=λm e=>by cases e
def ki.Mc{n:Nat}(hl:l.length=n)(h:ki n l (some m)){t:LI}(ht:t.length<=m.length)(e:t=m.drop (m.length-t.length)):ki n l (some t):=λx ex=>by
 simp at ex;subst ex;obtain⟨h1,h2⟩:=h m rfl;refine⟨ae,?_⟩
 conv=>lhs;rw[e,h2,Gn,sX,hl]
 congr 1
 omega
theorem BK{n:Nat}(hl:l.length=n)(h:ki n l om):ki n l (oB om).2:=by
 match om,h with
 |none,_=>exact ki.none
 |some [],_=>exact ki.none
 |some (c::t),h=>exact ki.Mc hl h ai ai
theorem ig{n:Nat}(hl:l.length=n)(h:ki n l om):ki n l (oV om).2:=by
 match om,h with
 |none,_=>exact ki.none
 | some m,h=>
  show ki n l (match rv m with|some x=>(x.1,some x.2)|none=>(0,none):Int×Option LI).2;cases e:rv m with
  |none=>exact ki.none
  |some x=>
   obtain⟨v,t⟩:=x;obtain⟨_,_,h3,h4⟩:=vL 10 0 0 m v t e;exact ki.Mc (t:=t) hl h (V8 h3) h4
theorem ZQ{x:LI×LI}(h:rt m=some x):x.2.length<=m.length/\x.2=m.drop (m.length-x.2.length)/\∃a b,x.1=(m.drop a).take b:=by
 unfold rt at h;cases e:rv m with
 |none=>rw[e]at h;simp at h
 |some y=>
  obtain⟨v,t⟩:=y;rw[e]at h;simp only at h;obtain⟨v0,_,h3,h4⟩:=vL 10 0 0 m v t e;split at h;{cases h};{
 next hv=>
 simp at h;subst h;simp only[sX];refine⟨ae,?_,m.length-t.length,v.toNat,by rw[<-h4]⟩
 conv=>lhs;rw[h4,Gn]
 congr 1
 omega}
theorem Gh{n:Nat}(hl:l.length=n)(h:ki n l om):ki n l (oT om).2:=by
 match om,h with
 |none,_=>exact ki.none
 | some m,h=>
  show ki n l (match rt m with|some x=>(x.1,some x.2)|none=>([],none):LI×Option LI).2;cases e:rt m with
  |none=>exact ki.none
  |some x=>
   obtain⟨h1,h2,_⟩:=ZQ e;exact ki.Mc hl h h1 h2
theorem qV{n:Nat}(hb:aN l)(h:ki n l om):aN (oT om).1/\(oT om).1.length<=n:=by
 match om,h with
 |none,_=>exact⟨λz hz=>by simp[oT]at hz,by simp[oT]⟩
 | some m,h=>
  obtain⟨h1,h2⟩:=h m rfl;have hm:aN m:=by rw[h2];exactλz hz=>hb z (GJ hz)
  show aN (match rt m with|some x=>(x.1,some x.2)|none=>([],none):LI×Option LI).1/\(match rt m with|some x=>(x.1,some x.2)|none=>([],none):LI×Option LI).1.length<=n;cases e:rt m with
  |none=>exact⟨λz hz=>by simp at hz,ai⟩
  |some x=>
   obtain⟨_,_,a,b,h3⟩:=ZQ e;refine⟨?_,?_⟩;{show aN x.1;rw[h3];exactλz hz=>hm z (GJ (GI hz))};{show x.1.length<=n;rw[h3,od,sX];omega}
theorem ab3{n:Nat}(hb:aN l)(h:ki n l om):0<=(oB om).1/\(oB om).1<256:=by
 match om,h with
 |none,_=>simp[oB]
 |some [],_=>simp[oB]
 |some (c::t),h=>
  obtain⟨h1,h2⟩:=h _ rfl;exact hb c (GJ (by rw[<-h2];simp))
theorem Gg:0<=(oV om).1/\(oV om).1<18446744073709551616:=by
 cases om with
 |none=>simp[oV]
 | some m=>
  show 0<=(match rv m with|some x=>(x.1,some x.2)|none=>(0,none):Int×Option LI).1/\(match rv m with|some x=>(x.1,some x.2)|none=>(0,none):Int×Option LI).1<_;cases e:rv m with
  |none=>simp
  |some x=>
   obtain⟨v,t⟩:=x;obtain⟨h1,h2,_⟩:=vL 10 0 0 m v t e;exact⟨h1,h2⟩
def ZP{P:LI}(rest:LI)(h:P.length<18446744073709551616):rt (tx P++rest)=some (P,rest):=by
 rw[rt,tx,sU,VA _ h];simp only[ir];rw[bG ae];simp
theorem pI{c n:Nat}(en:Hid (l.length=n)){w:World}(h:Rd w (.S p n c) l)(hb:aN l)(hl:Mg n)(hs:ki n l om)(e:Hid (oB om=(x,EF))):Cp 68 #[.S p n c,.I (nG n om)] w λe w'=>e=.returned (.tuple #[.I x,.I (nG n EF)])/\w'=w:=by
 have e:=aa e
 match om,hs with
 |none,_=>
  simp[oB]at e;obtain⟨rfl,rfl⟩:=e;exact LY
 |some [],hs=>
  simp[oB]at e;obtain⟨rfl,rfl⟩:=e;have ea:nG n (some [])=(n:Int):=by simp[nG]
  rw[ea];exact L5 hl
 |some (y::t),hs=>
  simp[oB]at e;obtain⟨rfl,rfl⟩:=e;obtain⟨h1,h2⟩:=hs _ rfl;simp only[iT]at h1 h2;obtain⟨a,ea⟩:=aI (n-(t.length+1));rw[ea]at h2;have e1:nG n (some (y::t))=(a:Int):=by simp[nG];omega
  have e2:nG n (some t)=((a+1:Nat):Int):=by simp[nG];omega
  have e3:l.getD a 0=y:=by have:=uO (λz=>z.getD 0 0) h2;simp[List.getD]at this;simp[List.getD,<-this]
  have:=Po (a:=a) en h hb hl ae;rw[e3]at this;rw[e1,e2];exact this
theorem BJ{c n:Nat}(en:Hid (l.length=n)){w:World}(h:Rd w (.S p n c) l)(hb:aN l)(hl:Mg n)(hs:ki n l om)(e:Hid (oV om=(x,EF))):Cp 66 #[.S p n c,.I (nG n om)] w λe w'=>e=.returned (.tuple #[.U x,.I (nG n EF)])/\w'=w:=by
 have e:=aa e
 match om,hs with
 |none,_=>
  simp[oV]at e;obtain⟨rfl,rfl⟩:=e;exact CL
 |some m,hs=>
  obtain⟨h1,h2⟩:=hs _ rfl;obtain⟨a,ea⟩:=aI (n-m.length);rw[ea]at h2;have e1:nG n (some m)=(a:Int):=by simp[nG];omega
  have:=FT (a:=a) en h hb hl ae (r:=rv m) (by show _=_;rw[<-h2]);rw[e1];refine this.mono ?_;rintro r w'⟨rfl,rfl⟩;refine⟨?_,rfl⟩;unfold oV at e;dsimp only at e;cases er:rv m with
  |none=>rw[er]at e;simp at e;obtain⟨rfl,rfl⟩:=e;rfl
  |some y=>rw[er]at e;simp at e;obtain⟨rfl,rfl⟩:=e;rfl
theorem pG{c n:Nat}(en:Hid (l.length=n)){w:World}(h:Rd w (.S p n c) l)(hb:aN l)(hl:Mg n)(xq:n<=c)(hs:ki n l om){x:LI}(e:Hid (oT om=(x,EF)))(eN:Hid (x.length=N)):Cp 67 #[.S p n c,.I (nG n om)] w λe w'=>∃p' c',e=.returned (.tuple #[.S p' N c',.I (nG n EF)])/\Own w.heap.size w' (.S p' N c') x/\Bw w w':=by
 have e:=aa e
 match om,hs with
 |none,_=>
  simp[oT]at e;obtain⟨rfl,rfl⟩:=e;have hN:N=0:=by rw[<-aa eN];rfl
  subst hN;refine(LU).mono ?_;rintro r w'⟨rfl,rfl⟩;exact⟨none,0,rfl,gC _ _ _ _,cR _ _⟩
 | some m,hs=>
  obtain⟨h1,h2⟩:=hs _ rfl;obtain⟨a,ea⟩:=aI (n-m.length);rw[ea]at h2;have e1:nG n (some m)=(a:Int):=by simp[nG];omega
  have e2:tOf (rt m)=x/\bOf n (rt m)=nG n EF:=by
   unfold oT at e;dsimp only at e;cases er:rt m with
   |none=>rw[er]at e;simp at e;obtain⟨rfl,rfl⟩:=e;exact⟨rfl,rfl⟩
   |some y=>rw[er]at e;simp at e;obtain⟨rfl,rfl⟩:=e;exact⟨rfl,rfl⟩
  have:=Pm (a:=a) en h hb hl xq ae (r:=rt m) (by show _=_;rw[<-h2]) (N:=N) (by show _=_;rw[e2.1];exact aa eN);rw[e1];rw[e2.1,e2.2]at this;exact this
abbrev blk(g:Nat):Value:=.T g 0 0
def Oq(R:Nat)(w:World)(p:OA)(m:LI):Prop:=m=[]\/∃b o,b<R/\p=some (Ad b o)/\∀i,i<m.length->w.cell? (Ad b (o+i))=some (.int .u8 (m.getD i 0))
def Oq.rd{w:World}{n c:Nat}(h:Oq R w p m)(e:m.length=n):Rd w (.S p n c) m:=by
 refine⟨p,c,by rw[e],?_⟩;rcases h with h|⟨b,o,_,h2,h3⟩;{exact .inl h};{exact .inr ⟨b,o,h2,h3⟩}
def Oq.set{w:World}(h:Oq R w p m)(o:Nat)(v:Value):Oq R (w.setCell (Ad R o) v) p m:=by
 rcases h with h|⟨b,o',h1,h2,h3⟩;{exact .inl h};{refine .inr ⟨b,o',h1,h2,λi hi=>?_⟩;rw[CQ _ _ _ _ (by simp;try omega)];exact h3 i hi}
def Oq.tail{w:World}{o:Nat}(h:Oq R w (some (Ad b o)) (x::m)):Oq R w (some (Ad b (o+1))) m:=by
 rcases h with h|⟨b',o',h1,h2,h3⟩;{cases h};{simp at h2;obtain⟨rfl,rfl⟩:=h2;refine .inr ⟨b,o+1,h1,rfl,λi hi=>?_⟩;have:=h3 (i+1) aU;rw[show o+1+i=o+(i+1) by omega,this];simp}
def qP(w:World)(R:Nat)(m:LI)(n:Nat)(sh:Bool):Prop:=
 m.length=n/\(∀o,w.frozen? (Ad R o)=false)/\∃p c,SR w R (.S p n c) (.bool sh)/\Oq R w p m/\n<=c/\((p=none/\c=0)\/∃b o,p=some (Ad b o))
def pY{w:World}{o:Nat}:Kept [blk R] w (w.setCell (Ad R o) v):=by
 refine⟨rfl,rfl,rfl,ai,λk hk cg=>?_⟩;have:k≠R:=λe=>cg (blk R) ai (by rw[e];rfl);simp[World.setCell,xM];intro e;exact absurd e.symm this
def Tq{n:Nat}{w:World}(h:qP w R (x::m) (n+1) sh)(hx:0<=x/\x<256)(hl:Mg n):Calls prog 195 #[.pointer (some (Ad R 0))] w λe w'=>e=.returned (.I x)/\qP w' R m n sh/\Kept [blk R] w w':=by
 obtain⟨hlen,hf,p,c,⟨h0,h1⟩,hr,hc,hp⟩:=h;have Uk:m.length=n:=by simpa using hlen
 obtain⟨b,o,rfl⟩:∃b o,p=some (Ad b o):=by rcases hp with h|h;{omega};{exact h}
 have hbR:b<R:=by rcases hr with h|⟨b',o',h1,h2,_⟩;{cases h};{simp at h2;omega}
 have wF:w.cell? (Ad b o)=some (.int .u8 x):=by rcases hr with h|⟨b',o',h1,h2,h3⟩;{cases h};{simp at h2;obtain⟨rfl,rfl⟩:=h2;simpa using h3 0 ai}
 have g1:((n:Int)+1==0)=false:=by simp;omega
 have wx:IntKind.i64.wrap x=x:=jL _ ae;have k1:(1:Int)<=(n:Int)+1:=ae;have k2:(n:Int)+1<=(c:Int):=ae;have k3:=dA 1 c;have HR:=af hr;clear hr hp hlen;by_cases iW:c=1;{
 subst iW;have KH:n=0:=ae;subst KH;have XH:m=[]:=sV.1 Uk;subst XH
 go_in
 go_wp2;go_ret;refine⟨rfl,⟨rfl,λo=>by simp[hf],some (Ad b o),0,⟨by simp[go_sem,h0],by simp[go_sem,h1]⟩,.inl rfl,ae,.inr ⟨b,o,rfl⟩⟩,pY⟩};{
 have ct6:¬(c:Int)=1:=ae
 go_in
 go_wp2;go_ret;exact⟨rfl,⟨Uk,λo=>by simp[hf],some (Ad b (o+1)),c-1,⟨by simp[go_sem,h0],by simp[go_sem,h1]⟩,HR.tail.set _ _,ae,.inr ⟨b,o+1,rfl⟩⟩,pY⟩}
def Tr{w:World}(h:qP w R [] 0 sh):Calls prog 195 #[.pointer (some (Ad R 0))] w λe w'=>e=.returned (.I 0)/\qP w' R [] 0 true/\Kept [blk R] w w':=by
 obtain⟨hlen,hf,p,c,⟨h0,h1⟩,hr,hc,hp⟩:=h
 go_in
 go_wp2;go_ret;exact⟨rfl,⟨rfl,λo=>by simp[hf],p,c,⟨by simp[go_sem,h0],by simp[go_sem,h1]⟩,.inl rfl,hc,hp⟩,pY⟩
def sB:LI->Bool->Int×LI×Bool
 |[],_=>(0,[],true)
 |c::t,sh=>(c,t,sh)
theorem By{n:Nat}{w:World}(h:qP w R m n sh)(hb:aN m)(hl:Mg n)(e:Hid (sB m sh=(x,m',sh'))):Cp 195 #[.pointer (some (Ad R 0))] w λe w'=>e=.returned (.I x)/\qP w' R m' m'.length sh'/\Kept [blk R] w w':=by
 have e:=aa e;cases m with
 |nil=>
  simp[sB]at e;obtain⟨rfl,rfl,rfl⟩:=e;have hn:n=0:=h.1.symm;subst hn;exact Tr h
 |cons c t=>
  simp[sB]at e;obtain⟨rfl,rfl,rfl⟩:=e;have hn:n=t.length+1:=by have:=h.1;simpa using this.symm
  subst hn;exact Tq h (hb c ai) ae
def sN:Nat->Nat->Int->LI->Bool->Int×LI×Bool
 |0,_,a,m,sh=>(a,m,sh)
 |f+1,k,a,m,sh=>if(sB m sh).1<128 then(uf k a (sB m sh).1,(sB m sh).2)else sN f (k+1) (uf k a (sB m sh).1) (sB m sh).2.1 (sB m sh).2.2
theorem BH(h:aN m):aN (sB m sh).2.1/\0<=(sB m sh).1/\(sB m sh).1<256/\(sB m sh).2.1.length<=m.length:=by
 cases m with
 |nil=>exact⟨λz hz=>by simp[sB]at hz,by simp[sB],by simp[sB],by simp[sB]⟩
 |cons c t=>exact⟨λz hz=>h z (by simp[sB]at hz;simp[hz]),(h c ai).1,(h c ai).2,by simp[sB]⟩
def fu{n:Nat}{w:World}(h:qP w R m n sh)(hb:aN m)(hl:Mg n)(e:Hid (sN 10 0 0 m sh=(x,m',sh'))):Calls prog 137 #[.pointer (some (Ad R 0))] w λe w'=>e=.returned (.U x)/\qP w' R m' m'.length sh'/\Kept [blk R] w w':=by
 go_in
 go_wp2_with fail
 go_loopw[3,6](λnv iv wr=>∃(v:Int)(k:Nat)(m1:LI)(sh1:Bool)(n1:Nat),nv=.U v/\k<=10/\iv=.I k/\Hid (sN (10-k) k v m1 sh1=(x,m',sh'))/\Hid (aN m1)/\n1<=n/\Hid (qP wr R m1 n1 sh1)/\Kept [blk R] w wr) (λ_ iv _=>10-(intOf iv).toNat)
 exact⟨0,0,m,sh,n,rfl,ae,rfl,e,hb,iP _,h,Kept.refl _ _⟩;{
 obtain⟨v,k,m1,sh1,n1,rfl,hk,rfl,hN,Cq,um,hR,hK⟩:=hrel;by_cases h10:k<10;{
 have bf1:(k:Int)<10:=ae;have DB:=aa hN;rw[show 10-k=(9-k)+1 by omega,sN]at DB;have gq:=BH (sh:=sh1) Cq;obtain⟨⟨c,m2,sh2⟩,eS⟩:∃y,sB m1 sh1=y:=⟨_,rfl⟩;rw[eS]at DB gq;obtain⟨iY,wF,iW,KI⟩:=gq;dsimp only at DB iY wF iW KI;have Dt:m1.length=n1:=hR.1;have EO:m2.length<=n:=ae;have w7:IntKind.i64.wrap (7*(k:Int))=7*(k:Int):=jL _ ae;have w70:¬7*(k:Int)<0:=ae;have Bf:=af iY;clear hN iY Dt KI;go_wp2_with fail;refine(By hR Cq ae eS).mono ?_;rintro r w2⟨rfl,Ww,XP⟩;have WQ:=af Ww;have Zh:=af (hK.trans XP);clear Ww XP eS;by_cases hc:c<128;{rw[bN hc]at DB;simp only[fQ]at DB;obtain⟨e1,rfl,rfl⟩:=DB;have E1:=af e1;clear e1;go_wp2;go_ret;exact⟨by rw[<-aa E1];rfl,aa WQ,aa Zh⟩};{
 have ri:¬c<128:=hc;rw[bG hc]at DB;have Jv:Hid (sN (10-(k+1)) (k+1) (uf k v c) m2 sh2=(x,m',sh')):=by show _=_;rw[show 10-(k+1)=9-k by omega];exact DB
 clear DB;go_wp2;go_roundw;exact⟨uf k v c,k+1,m2,sh2,m2.length,rfl,ae,by go_num,Jv,Bf,EO,WQ,Zh⟩;exact bM}};{have bf1:¬(k:Int)<10:=ae;have DB:=aa hN;rw[show 10-k=0 by omega,sN]at DB;simp only[fQ]at DB;obtain⟨rfl,rfl,rfl⟩:=DB;have Dt:m1.length=n1:=hR.1;subst Dt;clear hN;go_wp2;go_ret;exact⟨rfl,hR,hK⟩}}
def sT(m:LI)(sh:Bool):LI×LI×Bool:=
 if((sN 10 0 0 m sh).2.1.length:Int)<(sN 10 0 0 m sh).1 then([],(sN 10 0 0 m sh).2.1,true)
 else((sN 10 0 0 m sh).2.1.take (sN 10 0 0 m sh).1.toNat,(sN 10 0 0 m sh).2.1.drop (sN 10 0 0 m sh).1.toNat,(sN 10 0 0 m sh).2.2)
theorem FN(f:Nat):∀(k:Nat)(a:Int)(m:LI)(sh:Bool),aN m->(0<=a/\a<18446744073709551616)->aN (sN f k a m sh).2.1/\(sN f k a m sh).2.1.length<=m.length/\0<=(sN f k a m sh).1/\(sN f k a m sh).1<18446744073709551616:=by
 induction f with
 |zero=>intro k a m sh hb ha;exact⟨hb,iP _,ha.1,ha.2⟩
 |succ f ih=>
  intro k a m sh hb ha;rw[sN];obtain⟨h1,h2,h3,h4⟩:=BH (sh:=sh) hb;split;{exact⟨h1,h4,tC⟩};{obtain⟨i1,i2,i3⟩:=ih (k+1) (uf k a (sB m sh).1) _ (sB m sh).2.2 h1 (tC);exact⟨i1,ae,i3⟩}
theorem aE0{X:World}(en:Hid (l0.length=N))(r0:Rd X v0 l0)(hl:N<=4194304):Cp 88 #[.T X.heap.size 1 1] (X.alloc (.cells #[v0] 22)) λe w'=>∃p' c',e=.returned (.S p' N c')/\Own X.heap.size w' (.S p' N c') l0/\Bw X w':=by
 have ba:Bw X (X.alloc (.cells #[v0] 22)):=au.alloc ao _;refine(gv (g:=X.heap.size) (vs:=[v0]) [l0] (lm:=l0) (n:=N) 1 rfl (by show _=_;simp[cat]) en ⟨rfl,λj v x e1 e2=>?_⟩ hl ae).mono ?_;{
 match j,e1,e2 with
 |0,e1,e2=>simp at e1 e2;subst e1 e2;exact⟨ai,r0.below ba⟩}
 {rintro e w'⟨p',c',rfl,o,hb⟩;exact⟨p',c',rfl,Own.mono o ai,aj ba hb⟩}
def Oq.below{w w':World}(h:Oq R w p m)(hb:Bw w w'):Oq R w' p m:=by
 rcases h with h|⟨b,o',h1,h2,h3⟩;{exact .inl h};{exact .inr ⟨b,o',h1,h2,λi hi=>ag (h3 i hi) hb⟩}
def Oq.take{w:World}(h:Oq R w p m)(V:Nat):Oq R w p (m.take V):=by
 rcases h with h|⟨b,o',h1,h2,h3⟩;{exact .inl (by rw[h];simp)};{refine .inr ⟨b,o',h1,h2,λi hi=>?_⟩;rw[od]at hi;rw[h3 i ae];simp[List.getD,GH,show i<V by omega]}
def Oq.drop{w:World}{o:Nat}(h:Oq R w (some (Ad b o)) m)(V:Nat):Oq R w (some (Ad b (o+V))) (m.drop V):=by
 rcases h with h|⟨b',o',h1,h2,h3⟩;{exact .inl (by rw[h];simp)};{simp at h2;obtain⟨rfl,rfl⟩:=h2;refine .inr ⟨b,o+V,h1,rfl,λi hi=>?_⟩;rw[sX]at hi;rw[Km,h3 (V+i) ae];simp[List.getD]}
def Fs{n:Nat}{w:World}(h:qP w R m n sh)(hb:aN m)(hl:Mg n)(hRw:R<w.heap.size){x:LI}(e:Hid (sT m sh=(x,m',sh')))(eN:Hid (x.length=N)):Calls prog 196 #[.pointer (some (Ad R 0))] w λr w'=>∃p' c',r=.returned (.S p' N c')/\Own w.heap.size w' (.S p' N c') x/\qP w' R m' m'.length sh'/\Kept [blk R] w w':=by
 have gq:=FN 10 0 0 m sh hb ae;obtain⟨⟨v,m1,sh1⟩,eS⟩:∃y,sN 10 0 0 m sh=y:=⟨_,rfl⟩;have e2:=aa e;rw[sT,eS]at e2;rw[eS]at gq;obtain⟨Cq,KJ,v0,v1⟩:=gq;dsimp only at e2 Cq KJ v0 v1;rw[h.1]at KJ;obtain⟨n1,Oj⟩:=aI m1.length;rw[Oj]at e2 KJ;have wn:IntKind.u64.wrap (n1:Int)=(n1:Int):=by rw[jj];omega
 go_in
 go_wp2_with fail;refine(fu h hb hl eS).mono ?_;rintro r w1⟨rfl,rr,Uy⟩;rw[Oj]at rr;have DQ:=af rr;obtain⟨_,hf,p,c,⟨h0,h1⟩,hr,hc,hp⟩:=rr;by_cases hv:(n1:Int)<v;{
 rw[bN hv]at e2;simp only[fQ]at e2;obtain⟨rfl,rfl,rfl⟩:=e2;have MW:N=0:=by rw[<-aa eN];rfl
 subst MW;have HV1:=af v1;clear v1;go_wp2;go_ret;refine⟨none,0,rfl,gC _ _ _ _,?_,Uy.trans pY⟩;rw[Oj];exact⟨Oj,λo=>by simp[hf],p,c,⟨by simp[go_sem,h0],by simp[go_sem,h1]⟩,hr.set _ _,hc,hp⟩};{
 rw[bG hv]at e2;obtain⟨V,rfl⟩:∃V:Nat,v=(V:Int):=⟨v.toNat,ae⟩;have eV:((V:Int)).toNat=V:=ae;rw[eV]at e2;simp only[fQ]at e2;obtain⟨ex,em,es⟩:=e2;have hVn:V<=n1:=ae;have hNV:N=V:=by rw[<-aa eN,<-ex,od,Oj];omega
 subst hNV;have hml:m'.length=n1-N:=by rw[<-em,sX,Oj]
 have hv':¬(n1:Int)<(N:Int):=hv;have k2:=iH N c;have k3:=iH N n1;have k4:=iH n1 c;have cv3:R<w1.heap.size:=nY w1 _ h0;have HX:=af (ah ex (ah em hml));have rx:Rd w1 (.S p N c) x:=by rw[<-ex];exact(hr.take N).rd (ex▸aa eN)
 have HRX:=af rx;have HRR:=af hr;have zK:=Uy.size;have hNb:N<=4194304:=ae;clear v0 v1 eV hb Cq ex em rx hr h eS e;go_wp2_with fail;refine(aE0 eN HRX hNb).mono ?_;rintro r w2⟨p2,c2,rfl,o2,b2⟩;have i0:=ag h0 b2;have i1:=ag h1 b2;have if':=cI hf cv3 b2;have z2:=b2.size;have Zh:=af (Uy.trans (Kept.dY b2));have HO2:=af o2;have lK:=af (HRR.below b2);clear h0 h1 hf b2 o2 Uy HRR HRX;rcases hp with⟨rfl,rfl⟩|⟨b,o,rfl⟩;{have KH:n1=0:=ae;subst KH;have MW:N=0:=ae;subst MW;go_wp2;go_ret;refine⟨p2,c2,rfl,Own.mono (B:=w1.heap.size) ?_ ae,?_,Zh.trans pY⟩;{exact qn (aa HO2) aU _};{have XH:m'=[]:=sV.1 HX.2.2;rw[XH,<-es];exact⟨rfl,λo=>by simp[if'],none,0,⟨by simp[go_sem,i0],by simp[go_sem,i1]⟩,.inl rfl,ai,.inl ⟨rfl,rfl⟩⟩}};{by_cases hcN:c=N;{subst hcN;have um:n1=c:=ae;subst um;go_wp2;go_ret;refine⟨p2,c2,rfl,Own.mono (B:=w1.heap.size) ?_ ae,?_,Zh.trans pY⟩;{exact qn (aa HO2) aU _};{have XH:m'=[]:=sV.1 (by rw[HX.2.2];omega);rw[XH,<-es];exact⟨rfl,λo=>by simp[if'],some (Ad b o),0,⟨by simp[go_sem,i0],by simp[go_sem,i1]⟩,.inl rfl,ai,.inr ⟨b,o,rfl⟩⟩}};{have dJ7:¬(c:Int)=(N:Int):=ae;go_wp2;go_ret;refine⟨p2,c2,rfl,Own.mono (B:=w1.heap.size) ?_ ae,?_,Zh.trans pY⟩;{exact qn (aa HO2) aU _};{rw[<-es,HX.2.2];refine⟨HX.2.2,λo=>by simp[if'],some (Ad b (o+N)),c-N,⟨by simp[go_sem,i0],by simp[go_sem,i1]⟩,?_,ae,.inr ⟨b,o+N,rfl⟩⟩;have:=lK.drop N;rw[HX.2.1]at this;exact this.set _ _}}}}
theorem Xe(f:Nat):∀(k:Nat)(a:Int)(m:LI)(v:Int)(t:LI)(sh:Bool),LJ f k a m=some (v,t)->sN f k a m sh=(v,t,sh):=by
 induction f with
 |zero=>intro k a m v t sh h;simp[LJ]at h
 | succ f ih=>
  intro k a m v t sh h;cases m with
  |nil=>simp[LJ]at h
  |cons c m=>
   rw[LJ]at h;rw[sN];show(if c<128 then(uf k a c,m,sh)else sN f (k+1) (uf k a c) m sh)=_;split at h;{next hc=>rw[bN hc];simp at h;rw[h.1,h.2]}
   {next hc=>rw[bG hc];exact ih _ _ _ _ _ _ h}
def ZL{s:Nat}{rest:LI}(hs:s<18446744073709551616):sN 10 0 0 (vi s++rest) sh=((s:Int),rest,sh):=Xe 10 0 0 _ _ _ sh (VA rest hs)
def Vy(P:LI){rest:LI}(h:P.length<18446744073709551616):sT (tx P++rest) sh=(P,rest,sh):=by
 rw[sT,tx,sU,ZL h];simp only[ir];rw[bG ae];simp
theorem Ew(h:sh=true):(sB m sh).2.2=true:=by
 cases m with
 |nil=>rfl
 |cons c t=>exact h
theorem LH(f:Nat):∀(k:Nat)(a:Int)(m:LI)(sh:Bool),sh=true->(sN f k a m sh).2.2=true:=by
 induction f with
 |zero=>intro k a m sh h;exact h
 |succ f ih=>
  intro k a m sh h;rw[sN];split;{exact Ew h};{exact ih _ _ _ _ (Ew h)}
def Eu(h:sh=true):(sT m sh).2.2=true:=by
 rw[sT];split;{rfl}
 {exact LH _ _ _ _ _ h}
def BG(h:aN m):aN (sT m sh).1/\aN (sT m sh).2.1/\(sT m sh).1.length<=m.length/\(sT m sh).2.1.length<=m.length:=by
 obtain⟨h1,h2,h3,h4⟩:=FN 10 0 0 m sh h ae;rw[sT];split;{exact⟨λz hz=>by simp at hz,h1,ai,h2⟩};{refine⟨λz hz=>h1 z (GI hz),λz hz=>h1 z (GJ hz),?_,?_⟩;{rw[od];omega};{rw[sX];omega}}
def fw{w w':World}(h:∀o,w.frozen? (Ad b o)=false)(hk:Kept [blk R] w w')(hb:b<w.heap.size)(cg:b≠R):∀o,w'.frozen? (Ad b o)=false:=λo=>
 (sj (hk.block b hb (λx hx e=>by simp only[nW]at hx;subst hx;simp[Value.ownBlock]at e;exact cg e.symm))).trans (h o)
def Own.dh{w w':World}(h:Own B w v l)(hk:Kept [blk R] w w')(hR:R<B):Own B w' v l:=by
 refine Own.td (vs:=[blk R]) h hk ?_;intro x hx k e1 e2;simp only[nW]at hx;subst hx;simp[Value.ownBlock]at e2;have:=h.lt k e1;omega
def fD{w0 w w':World}(h:Bw w0 w)(hk:Kept [blk R] w w')(hR:w0.heap.size<=R):Bw w0 w':=
 h.trans (hk.below h.size (λv hv b e=>by simp only[nW]at hv;subst hv;simp[Value.ownBlock]at e;omega))
def Mj(p:OA)(c n:Nat)(xs:List aC)(A:List Lf)(k:Int)(w:World)(h:xy w (.S p n c) xs A)(hA:db w A)(k0:0<=k)(k1:k+A.length<=100000000):Calls prog 60 #[.S p n c,.I k] w λe w'=>e=.returned (.I (k+A.length))/\Mk w w' A k:=by
 have QU:=h.len (λx b a l hl=>hl.pos);obtain⟨Ls,en,lL,eA,fT⟩:=h.at;have yN:=af fT;have HA:=af hA;have EA:=af eA;have K1:k+(Ls.flatten.length:Int)<=100000000:=eA▸k1;have hn:n<=100000000:=ae;have LL:=af lL;clear h fT hA eA en lL QU
 go_in
 go_wp2
 go_loopw[1,5](λkk i wr=>∃j:Nat,j<=n/\i=.I j/\kk=.I (k+(((Ls.take j).flatten.length:Nat):Int))/\Hid (Mk w wr (Ls.take j).flatten k)) (λ_ i _=>n-(intOf i).toNat)
 exact⟨0,fN _,rfl,ai,Mk.refl _ _⟩;{
 obtain⟨j,hj,rfl,rfl,hM⟩:=hrel;have hle:=br Ls j;by_cases aT:j<n;{
 have bu:=aS j n;obtain⟨b,o,x,l,rfl,hx,hl,hP,sA,iE⟩:=aa yN j aT;have qy:db w (Ls.take j).flatten:=HA.sub (λa ha=>by rw[aa EA];exact gj ha);have XI:db w l:=HA.sub iE;have ka:db wr l:=XI.mk hM qy;have hP':=hP.mk hM qy;have Ux:(Ls.take (j+1)).flatten.length=(Ls.take j).flatten.length+l.length:=by rw[sA,ir]
 have uY:k+((Ls.take j).flatten.length:Int)+(l.length:Int)<=100000000:=by have:=br Ls (j+1);omega
 have HT:=af Ux;have HPW:Hid (∀w',Mk wr w' l (k+((Ls.take j).flatten.length:Int))->Mk w w' (Ls.take (j+1)).flatten k):=by intro w' hw';rw[sA];exact hM.trans hw' qy XI
 generalize hT:(Ls.take j).flatten.length=T at*;clear hT hx hl hP sA iE qy hM Ux XI;have hT0:0<=k+(T:Int):=ae;obtain⟨p0,c0,p1,c1,p4,c4,p7,c7,l0,l1,l4,l7,rfl,⟨h1,h2⟩,⟨h3,h4⟩,⟨h5,h6⟩,⟨h7,h8⟩⟩:=hP';have HD:=af (ah h1 (ah h3 (ah h5 h7)));have NQ:=af (ah h2 (ah h4 (ah h6 h8)));clear h1 h2 h3 h4 h5 h6 h7 h8;have hlen:k+(T:Int)+(4+(l0.length:Int)+(l1.length:Int)+(l4.length:Int)+(l7.length:Int))<=100000000:=by simp only[ir,iT]at uY;omega
 clear uY;have rH:=af ka;have AC0:Hid (Mk wr wr [] (k+(T:Int))):=Mk.refl _ _;clear ka;have IN0:db wr (l0++(l1++(⟨b,o+j*8+2,.u64⟩::⟨b,o+j*8+3,.i64⟩::(l4++(⟨b,o+j*8+5,.u64⟩::⟨b,o+j*8+6,.u64⟩::l7))))):=rH.mk (aa AC0) (rH.sub me);have hh0:wr.cell? (Ad b (o+j*8))=some (.S p0 x.path.length c0):=AC0.head (rH.sub me) HD.1;have AX0:Hid (Mk wr wr [] (k+(T:Int))):=(aa AC0);have HV0:Hid (db wr l0):=(rH.sub (by intro a ha;simp[ha])).mk (aa AX0) (rH.sub me);clear IN0;go_wp2_with fail;clear hh0;refine(zQ NQ.1 HV0 ae ae).mono ?_;rintro e v0⟨rfl,N0⟩;have AC1:Hid (Mk wr v0 ([]++l0) (k+(T:Int))):=Mk.call (aa AX0) N0 (aa rH) me (by intro a ha;simp[ha]) (by simp;try omega);clear N0 AX0 HV0;have IN1:db v0 (l0++(l1++(⟨b,o+j*8+2,.u64⟩::⟨b,o+j*8+3,.i64⟩::(l4++(⟨b,o+j*8+5,.u64⟩::⟨b,o+j*8+6,.u64⟩::l7))))):=rH.mk (aa AC1) (rH.sub me);have AV:v0.cell? (Ad b (o+j*8+1))=some (.S p1 x.value.length c1):=AC1.head (rH.sub me) HD.2.1;have AX1:Hid (Mk wr v0 ([]++l0) (k+(T:Int))):=(aa AC1);have HV1:Hid (db v0 l1):=(rH.sub (by intro a ha;simp[ha])).mk (aa AX1) (rH.sub me);clear IN1;go_wp2_with fail;clear AV;refine(zQ NQ.2.1 HV1 ae ae).mono ?_;rintro e v1⟨rfl,N1⟩;have AC2:Hid (Mk wr v1 (([]++l0)++l1) (k+(T:Int))):=Mk.call (aa AX1) N1 (aa rH) me (by intro a ha;simp[ha]) (by simp;try omega);clear N1 AX1 HV1;have IN2:db v1 (l0++(l1++(⟨b,o+j*8+2,.u64⟩::⟨b,o+j*8+3,.i64⟩::(l4++(⟨b,o+j*8+5,.u64⟩::⟨b,o+j*8+6,.u64⟩::l7))))):=rH.mk (aa AC2) (rH.sub me);obtain⟨⟨m2,ku⟩,Q4⟩:=IN2 ⟨b,o+j*8+2,.u64⟩ ai;obtain⟨⟨m3,Ho⟩,Ee⟩:=IN2 ⟨b,o+j*8+3,.i64⟩ ai;dsimp only at ku Q4 Ho Ee;have hh4:v1.cell? (Ad b (o+j*8+4))=some (.S p4 x.holders.length c4):=AC2.head (rH.sub me) HD.2.2.1;have AX2:Hid (Mk wr ((v1.setCell (Ad b (o+j*8+2)) (.U (k+(T:Int)+(l0.length:Int)+(l1.length:Int)))).setCell (Ad b (o+j*8+3)) (.I (k+(T:Int)+(l0.length:Int)+(l1.length:Int)+1))) (((([]++l0)++l1)++[⟨b,o+j*8+2,.u64⟩])++[⟨b,o+j*8+3,.i64⟩]) (k+(T:Int))):=(Mk.set (Mk.set (aa AC2) (aa rH) me (b:=b) (o:=o+j*8+2) (kd:=.u64) ai (K:=k+(T:Int)+(l0.length:Int)+(l1.length:Int)) (by simp;try omega)) (aa rH) me (b:=b) (o:=o+j*8+3) (kd:=.i64) ai (K:=k+(T:Int)+(l0.length:Int)+(l1.length:Int)+1) (by simp;try omega));have HV2:Hid (db ((v1.setCell (Ad b (o+j*8+2)) (.U (k+(T:Int)+(l0.length:Int)+(l1.length:Int)))).setCell (Ad b (o+j*8+3)) (.I (k+(T:Int)+(l0.length:Int)+(l1.length:Int)+1))) l4):=(rH.sub (by intro a ha;simp[ha])).mk (aa AX2) (rH.sub me);clear IN2;go_wp2_with fail;clear ku Q4 Ho Ee hh4;refine(uL p4 c4 x.holders.length (x.holders) l4 (k+(T:Int)+(l0.length:Int)+(l1.length:Int)+1+1) _ NQ.2.2.1 HV2 ae ae).mono ?_;rintro e v2⟨rfl,N2⟩;have AC3:Hid (Mk wr v2 ((((([]++l0)++l1)++[⟨b,o+j*8+2,.u64⟩])++[⟨b,o+j*8+3,.i64⟩])++l4) (k+(T:Int))):=Mk.call (aa AX2) N2 (aa rH) me (by intro a ha;simp[ha]) (by simp;try omega);clear N2 AX2 HV2;have IN3:db v2 (l0++(l1++(⟨b,o+j*8+2,.u64⟩::⟨b,o+j*8+3,.i64⟩::(l4++(⟨b,o+j*8+5,.u64⟩::⟨b,o+j*8+6,.u64⟩::l7))))):=rH.mk (aa AC3) (rH.sub me);obtain⟨⟨m5,Dz⟩,hf5⟩:=IN3 ⟨b,o+j*8+5,.u64⟩ ai;obtain⟨⟨m6,yh⟩,hf6⟩:=IN3 ⟨b,o+j*8+6,.u64⟩ ai;dsimp only at Dz hf5 yh hf6;have hh7:v2.cell? (Ad b (o+j*8+7))=some (.S p7 x.watchers.length c7):=AC3.head (rH.sub me) HD.2.2.2;have AX3:Hid (Mk wr ((v2.setCell (Ad b (o+j*8+5)) (.U (k+(T:Int)+(l0.length:Int)+(l1.length:Int)+1+1+(l4.length:Int)))).setCell (Ad b (o+j*8+6)) (.U (k+(T:Int)+(l0.length:Int)+(l1.length:Int)+1+1+(l4.length:Int)+1))) ((((((([]++l0)++l1)++[⟨b,o+j*8+2,.u64⟩])++[⟨b,o+j*8+3,.i64⟩])++l4)++[⟨b,o+j*8+5,.u64⟩])++[⟨b,o+j*8+6,.u64⟩]) (k+(T:Int))):=(Mk.set (Mk.set (aa AC3) (aa rH) me (b:=b) (o:=o+j*8+5) (kd:=.u64) ai (K:=k+(T:Int)+(l0.length:Int)+(l1.length:Int)+1+1+(l4.length:Int)) (by simp;try omega)) (aa rH) me (b:=b) (o:=o+j*8+6) (kd:=.u64) ai (K:=k+(T:Int)+(l0.length:Int)+(l1.length:Int)+1+1+(l4.length:Int)+1) (by simp;try omega));have HV3:Hid (db ((v2.setCell (Ad b (o+j*8+5)) (.U (k+(T:Int)+(l0.length:Int)+(l1.length:Int)+1+1+(l4.length:Int)))).setCell (Ad b (o+j*8+6)) (.U (k+(T:Int)+(l0.length:Int)+(l1.length:Int)+1+1+(l4.length:Int)+1))) l7):=(rH.sub (by intro a ha;simp[ha])).mk (aa AX3) (rH.sub me);clear IN3;go_wp2_with fail;clear Dz hf5 yh hf6 hh7;refine(uL p7 c7 x.watchers.length (x.watchers) l7 (k+(T:Int)+(l0.length:Int)+(l1.length:Int)+1+1+(l4.length:Int)+1+1) _ NQ.2.2.2 HV3 ae ae).mono ?_;rintro e v3⟨rfl,N3⟩;have AC4:Hid (Mk wr v3 (((((((([]++l0)++l1)++[⟨b,o+j*8+2,.u64⟩])++[⟨b,o+j*8+3,.i64⟩])++l4)++[⟨b,o+j*8+5,.u64⟩])++[⟨b,o+j*8+6,.u64⟩])++l7) (k+(T:Int))):=Mk.call (aa AX3) N3 (aa rH) me (by intro a ha;simp[ha]) (by simp;try omega);clear N3 AX3 HV3;have FIN:=af (aa HPW _ (by simpa using aa AC4));go_wp2;go_roundw;exact⟨j+1,ae,by go_num,by rw[aa HT];first|(simp;omega)|(congr 1;simp;omega),FIN⟩;exact bM};{
 have e:j=n:=ae;subst e;have e2:(Ls.take j).flatten=A:=by rw[<-aa LL,ng];exact EA.symm
 rw[e2]at hM⊢;clear hle yN HA;go_wp2;go_ret;exact⟨rfl,hM⟩}}
end Go.Proofs.YtkakbcaiplggiaaGreatDoor
