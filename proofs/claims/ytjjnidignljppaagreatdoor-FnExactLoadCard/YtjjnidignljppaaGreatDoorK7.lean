import Derived.Test.YtjjnidignljppaaGreatDoorOPa
import Derived.Test.YtjjnidignljppaaGreatDoorK3
import Derived.Lib.EndianBits
import Derived.Laws.Closers25b
import Derived.Laws.BytesString
import Derived.Maps.RangeWalk
import Derived.Maps.Ext
import Derived.Deep.DeepCutAuto
import Derived.Sort.AssemblyPlain
import Derived.Sort.Row
namespace Go.Proofs.YtjjnidignljppaaGreatDoor
set_option maxHeartbeats 1600000
set_option linter.all false
set_option maxRecDepth 100000
open Go.ChangeShapes Go.WideShapes Go.ChangeAt Go.RowKit Go.Proofs.Tryz
variable {D:DataW Unit}{E:Prop}{K:Act->World->Prop}{P:Program}{a:Act}{b base bytes k:Nat}{d:Array Int}{e t:TypeId}{l m s:LI}{o:Oper}{ops:Array Oper}{p:OA}{ps:List MemPlace}{row:Option Nat}{v z:Value}{vs xs:List Value}{x y:Int}
def Ct:Nat->Nat->LI
 |0,n=>[(n:Int)]
 |f+1,n=>if n<128 then[(n:Int)]else((n % 128+128:Nat):Int)::Ct f (n / 128)
def vi(n:Nat):LI:=Ct 9 n
theorem Ab{f n:Nat}(h:n<128):Ct f n=[(n:Int)]:=by
 cases f with
 |zero=>rfl
 |succ f=>rw[Ct,if_pos h]
def JG{f n:Nat}(h:¬n<128):Ct (f+1) n=((n % 128+128:Nat):Int)::Ct f (n / 128):=by rw[Ct,if_neg h]
theorem Ts(f:Nat):∀n,1<=(Ct f n).length/\(Ct f n).length<=f+1:=by
 induction f with
 |zero=>intro n;simp[Ct]
 |succ f ih=>
  intro n;rw[Ct];split;{simp};{have:=ih (n / 128);simp;omega}
theorem an2(f:Nat):∀n,n<128 ^ (f+1)->aM (Ct f n):=by
 induction f with
 |zero=>intro n hn z hz;simp[Ct]at hz;subst hz;simp at hn;omega
 |succ f ih=>
  intro n hn;rw[Ct];split;{intro z hz;simp at hz;subst hz;omega};{intro z hz;rcases List.mem_cons.1 hz with rfl|hz;{omega};{exact ih (n / 128) (by rw[Nat.div_lt_iff_lt_mul ae];rw[Nat.pow_succ]at hn;exact hn) z hz}}
def jY{n:Nat}(h:n<18446744073709551616):aM (vi n):=an2 9 n (by omega)
def ew(n:Nat):1<=(vi n).length/\(vi n).length<=10:=Ts 9 n
def aM.app(h:aM l)(k:aM m):aM (l++m):=fun z hz=>by
 rcases List.mem_append.1 hz with hz|hz;{exact h z hz};{exact k z hz}
def aN3:((List.range 256).all fun y=>bits .or .u8 (y:Int) 128==((y % 128+128:Nat):Int))=true:=by decide +kernel
def bk8{x:Nat}:bits .or .u8 ((x:Int) % 256) 128=((x % 128+128:Nat):Int):=by
 have h:=List.all_eq_true.1 aN3 (x % 256) (List.mem_range.2 (Nat.mod_lt _ ae));have h2:=beq_iff_eq.1 h;rw[show((x:Int) % 256)=((x % 256:Nat):Int) by omega,h2]
 congr 1
 omega
theorem Ay(f:Nat):∀(v:Nat)(w:World),v<128 ^ (f+1)->v<18446744073709551616->f<=9->∀(N:Nat),Hid ((Ct f v).length=N)→
  Cp 82 #[.U v] w fun e w'=>∃p' c',e=.returned (.S p' N c')/\Own w.heap.size w' (.S p' N c') (Ct f v)/\Bw w w':=by
 induction f with
 |zero=>
  intro v w hv h64 hf N hN;have h:v<128:=by simpa using hv
  have Jr:N=1:=by rw[<-aa hN];rfl
  subst Jr;have h':(v:Int)<128:=ae;have wv:IntKind.u8.wrap (v:Int)=(v:Int):=by rw[IntKind.wrap_u8];omega
  go_enter func82,ntmps82;go_wp2;go_ret;exact⟨_,_,rfl,(by have:=Own.one w (v:Int);exact this),ay.alloc ao _⟩
 |succ f ih=>
  intro v w hv h64 hf N hN;by_cases h:v<128;{
 have e:Ct (f+1) v=[(v:Int)]:=Ab h;have Jr:N=1:=by rw[<-aa hN,e];rfl
 subst Jr;rw[e];have h':(v:Int)<128:=ae;have wv:IntKind.u8.wrap (v:Int)=(v:Int):=by rw[IntKind.wrap_u8];omega
 clear e hN ih;go_enter func82,ntmps82;go_wp2;go_ret;exact⟨_,_,rfl,(by have:=Own.one w (v:Int);exact this),ay.alloc ao _⟩};{
 have h':¬(v:Int)<128:=ae;obtain⟨V,eV⟩:=aI (v / 128);have hd:(v:Int) / 128=(V:Int):=ae;have Wh:V<128 ^ (f+1):=by rw[<-eV,Nat.div_lt_iff_lt_mul ae];rw[Nat.pow_succ]at hv;exact hv
 obtain⟨M,eM⟩:=aI ((Ct f V).length);have hM:=Ts f V;have hih:∀w:World,_:=fun w=>ih V w Wh ae ae M eM;have e:Ct (f+1) v=[((v % 128+128:Nat):Int)]++Ct f V:=by rw[JG h,eV];rfl
 obtain⟨y,ey⟩:∃y:Int,(v:Int) % 128+128=y:=⟨_,rfl⟩;have ey2:(((v % 128+128:Nat)):Int)=y:=by rw[<-ey];omega
 rw[ey2]at e;have hNM:N=1+M:=by rw[<-aa hN,e,List.length_append,eM];rfl
 have HIH:=af hih;have EE:=af e;have EM:=af eM;rw[eM]at hM;clear hih e eV ih hN eM;go_enter func82,ntmps82;go_wp2_with fail
 try rw[hd]
 try rw[ey]
 refine(aa HIH _).mono ?_;rintro e w1⟨p1,c1,rfl,o1,aA⟩;have oo:Own w.heap.size (w.alloc (.cells #[.int .u8 y] 5)) (.T w.heap.size 1 1) [y]:=Own.one w y;have oo1:=Own.below oo aA;have bA:Bw w (w.alloc (.cells #[.int .u8 y] 5)):=ay.alloc ao _;have b1:=aj bA aA;have z1:=b1.size;have r1:=o1.rd;clear oo aA bA o1;go_wp2_with(at_builtin;refine bS rfl rfl (.T w.heap.size 1 1) EE p1 c1 M EM rfl rfl oo1 r1 (by rw[aa EM];simp;omega) ae ?_);intro p2 c2 w2 o2 ga;have b2:=dt b1 ga oo1 ao ae;have eL:(Ct (f+1) v).length=N:=by rw[aa EE,List.length_append,aa EM,hNM];rfl
 rw[eL]at o2⊢;clear ga oo1 r1 b1;go_wp2;go_ret;exact⟨p2,c2,rfl,o2,b2⟩}
theorem iQ{v:Nat}{w:World}(h64:v<18446744073709551616):Cp 145 #[.U v] w fun e w'=>∃p' c',e=.returned (.S p' (vi v).length c')/\Own w.heap.size w' (.S p' (vi v).length c') (vi v)/\Bw w w':=by
 go_enter func145,ntmps145;go_wp2
 go_loopw[0,3](fun nv ov wr=>∃(x f N:Nat)(pre:LI)(pv:OA)(cv:Nat),nv=.U x/\x<18446744073709551616/\Hid (x<128 ^ (f+1))/\N+f<=9/\ov=.S pv N cv/\Hid (pre.length=N)/\Hid (vi v=pre++Ct f x)/\Own w.heap.size wr (.S pv N cv) pre/\Bw w wr) (fun nv _ _=>(intOf nv).toNat)
 exact⟨v,9,0,[],none,0,rfl,h64,(by show _<_;omega),ae,rfl,rfl,rfl,World.ownsRow_nil _ _ _ _,Below.refl _ _⟩;{
 obtain⟨x,f,N,pre,pv,cv,rfl,hx,hxf,hNf,rfl,eN,eV,ho,aG⟩:=hrel;have zr:=aG.size;by_cases h:x<128;{
 have h':¬(128:Int)<=(x:Int):=ae;have wx:IntKind.u8.wrap (x:Int)=(x:Int):=by rw[IntKind.wrap_u8];omega
 have eE:Hid (vi v=pre++[(x:Int)]):=by show _=_;rw[aa eV,Ab h]
 go_wp2_with(at_builtin;refine eh rfl rfl (.S pv N cv) eE wr.heap.size rfl rfl (Own.below ho (ay.alloc ao _)) ai (by rw[aa eN];omega) bj ?_);intro p2 c2 w2 o2 ga;have b2:Bw w w2:=(aG.alloc aG.size _).grown ga bj (fun k hk=>(ho.lt k hk).1);clear ga;go_wp2;go_ret;exact⟨p2,c2,rfl,o2,b2⟩};{
 have h':=dw 128 x;obtain⟨f',rfl⟩:∃f',f=f'+1:=by
  cases f with
  |zero=>have:=aa hxf;simp at this;omega
  |succ f'=>exact⟨f',rfl⟩
 obtain⟨X,eX⟩:=aI (x / 128);have hX:Hid (X<128 ^ (f'+1)):=by show _<_;have:=aa hxf;rw[<-eX,Nat.div_lt_iff_lt_mul ae];rw[Nat.pow_succ]at this;exact this
 obtain⟨y,ey⟩:∃y:Int,((x % 128+128:Nat):Int)=y:=⟨_,rfl⟩;have VY:=bk8 (x:=x);rw[ey]at VY;have hd:(x:Int) / 128=(X:Int):=ae;have eV2:Hid (vi v=(pre++[y])++Ct f' X):=by show _=_;rw[aa eV,JG h,eX,ey];simp
 have hXx:X<x:=ae;have hy:ey=ey:=rfl;obtain⟨bj8,ep0⟩:=au (pre++[y]);have eP:=af ep0;have eN2:Hid (bj8.length=N+1):=by show _=_;rw[ep0,List.length_append,aa eN];rfl
 rw[<-ep0]at eV2;clear ep0 eX ey hy;go_wp2_with(at_builtin;refine eh rfl rfl (.S pv N cv) eP wr.heap.size rfl rfl (Own.below ho (ay.alloc ao _)) ai (by rw[aa eN];omega) bj ?_);intro p2 c2 w2 o2 ga;have b2:Bw w w2:=(aG.alloc aG.size _).grown ga bj (fun k hk=>(ho.lt k hk).1);rw[aa eN2]at o2⊢;clear ga;go_wp2;go_roundw;exact⟨X,f',N+1,bj8,p2,c2,by go_num,ae,hX,ae,rfl,eN2,eV2,o2,b2⟩
 case measure=>simp[intOf];omega}}
def tA(k:Nat)(v x:Int):Int:=bits .or .u64 v (IntKind.u64.wrap (x % 128*2 ^ (7*k)))
def sO{v:Int}:0<=tA k v x/\tA k v x<18446744073709551616:=by
 have h1:=bits_lo_u64 .or v (IntKind.u64.wrap (x % 128*2 ^ (7*k)));have h2:=bits_hi_u64 .or v (IntKind.u64.wrap (x % 128*2 ^ (7*k)));unfold tA;omega
def tm(x:Nat):(x:Int) % 128=((x % 128:Nat):Int):=by omega
def Gt{a x:Nat}{c:Int}(hc:c % 128=(x:Int))(hx:x<128)(ha:a<2 ^ (7*k))(hs:a+x*2 ^ (7*k)<18446744073709551616):tA k a c=((a+x*2 ^ (7*k):Nat):Int):=by
 unfold tA;rw[hc];have e2:IntKind.u64.wrap ((x:Int)*2 ^ (7*k))=((x*2 ^ (7*k):Nat):Int):=by
  rw[IntKind.wrap_u64];have:((x:Int)*2 ^ (7*k))=((x*2 ^ (7*k):Nat):Int):=by push_cast;rfl
  rw[this];omega
 rw[e2];have hj:=bits_join_low .u64 64 aU wraps_u64 (7*k) (a:Int) ((x*2 ^ (7*k):Nat):Int) ae (by exact_mod_cast ha) ae ae (by
  have:((x*2 ^ (7*k):Nat):Int) % 2 ^ (7*k)=((x*2 ^ (7*k) % 2 ^ (7*k):Nat):Int):=by push_cast;rfl
  rw[this,Nat.mul_mod_left]
  rfl) ae
 rw[hj]
 push_cast
 rfl
def JX:Nat->Nat->Int->LI->Option (Int×LI)
 |0,_,_,_=>none
 |_+1,_,_,[]=>none
 |f+1,k,a,c::t=>if c<128 then some (tA k a c,t)else JX f (k+1) (tA k a c) t
def rv(m:LI):Option (Int×LI):=JX 10 0 0 m
def Ni(k:Nat):2 ^ (7*(k+1))=128*2 ^ (7*k):=by
 rw[Nat.mul_add,Nat.pow_add,Nat.mul_comm]
theorem aM7(f:Nat):∀(k a x:Nat)(rest:LI),x<128 ^ (f+1)->a<2 ^ (7*k)->a+x*2 ^ (7*k)<18446744073709551616->JX (f+1) k a (Ct f x++rest)=some (((a+x*2 ^ (7*k):Nat):Int),rest):=by
 induction f with
 |zero=>
  intro k a x rest hx ha hs;have VR:x<128:=by simpa using hx
  rw[Ct];simp only[List.cons_append,List.nil_append,JX];rw[if_pos ae,Gt (by rw[tm];omega) VR ha hs]
 |succ f ih=>
  intro k a x rest hx ha hs;by_cases h:x<128;{rw[Ab h];simp only[List.cons_append,List.nil_append,JX];rw[if_pos ae,Gt (by rw[tm];omega) h ha hs]};{
 rw[JG h];simp only[List.cons_append,JX];have hdm:=Nat.div_add_mod x 128;have hml:=Nat.mod_lt x (show 0<128 by omega);generalize x / 128=q at*;generalize x % 128=r at*;subst hdm;have aP3:(128*q+r)*2 ^ (7*k)=q*2 ^ (7*(k+1))+r*2 ^ (7*k):=by rw[Ni,Nat.add_mul,Nat.mul_comm 128 q,Nat.mul_assoc]
 rw[if_neg ae,Gt (by rw[tm];omega) hml ha (by rw[aP3]at hs;omega),ih (k+1) (a+r*2 ^ (7*k)) q rest ?_ ?_ ?_];{
 rw[aP3]
 congr 2
 simp;omega};{rw[Nat.pow_succ]at hx;omega};{rw[Ni];have:r*2 ^ (7*k)<=127*2 ^ (7*k):=Nat.mul_le_mul_right _ ae;omega};{rw[aP3]at hs;omega}}
def TF{s:Nat}(rest:LI)(hs:s<18446744073709551616):rv (vi s++rest)=some ((s:Int),rest):=by
 have:=aM7 9 0 0 s rest ae aU ae;simpa[rv,vi]using this
theorem uS(f:Nat):∀(k:Nat)(a:Int)(m:LI)(v:Int)(t:LI),JX f k a m=some (v,t)->0<=v/\v<18446744073709551616/\t.length<m.length/\t=m.drop (m.length-t.length):=by
 induction f with
 |zero=>intro k a m v t h;simp[JX]at h
 | succ f ih=>
  intro k a m v t h;cases m with
  |nil=>simp[JX]at h
  |cons c m=>
   rw[JX]at h;split at h;{
 simp at h;obtain⟨rfl,rfl⟩:=h;have:=sO (k:=k) (v:=a) (x:=c);refine⟨this.1,this.2,ai,?_⟩;rw[List.length_cons,show m.length+1-m.length=1 by omega]
 rfl}
   {obtain⟨h1,h2,h3,h4⟩:=ih _ _ _ _ _ h;refine⟨h1,h2,bj,?_⟩;rw[List.length_cons,show m.length+1-t.length=(m.length-t.length)+1 by omega,List.drop_succ_cons];exact h4}
def vOf:Option (Int×LI)->Int
 |some x=>x.1
 |none=>0
def aOf(n:Nat):Option (Int×LI)->Int
 |some x=>(n:Int)-x.2.length
 |none=>-1
def J6{c n:Nat}{w:World}:Cp 44 #[.S p n c,.I (-1)] w fun e w'=>e=.returned (.tuple #[.I 0,.I (-1)])/\w'=w:=by
 go_enter func44,ntmps44;go_wp2
 go_ret2
 exact⟨rfl,rfl⟩
def J7{c n:Nat}{w:World}(hl:n<=1048576):Cp 44 #[.S p n c,.I n] w fun e w'=>e=.returned (.tuple #[.I 0,.I (-1)])/\w'=w:=by
 have h0:¬(n:Int)<0:=ae;have h1:=iE n n;go_enter func44,ntmps44;go_wp2
 go_ret2
 exact⟨rfl,rfl⟩
def Nc{c n a:Nat}(en:Hid (l.length=n)){w:World}(h:Rd w (.S p n c) l)(hb:aM l)(hl:n<=1048576)(ha:a<n):Cp 44 #[.S p n c,.I a] w fun e w'=>e=.returned (.tuple #[.I (l.getD a 0),.I ((a+1:Nat):Int)])/\w'=w:=by
 obtain⟨b,o,rfl,-,hc⟩:=h.at (by rw[aa en];omega);have zE:=hc a (by rw[aa en];exact ha);have hx:0<=l.getD a 0/\l.getD a 0<256:=by
  have Sn:a<l.length:=by rw[aa en];exact ha
  rw[show l.getD a 0=l[a] by simp[List.getD,Sn]];exact hb _ (List.getElem_mem Sn)
 obtain⟨x,ex⟩:=aI (l.getD a 0);rw[ex]at zE hx⊢;have h0:¬(a:Int)<0:=ae;have h1:¬(n:Int)<=(a:Int):=ae;have h2:=aP a n;have wx:IntKind.i64.wrap x=x:=IntWalk.i64_in _ ae;clear hc ex;go_enter func44,ntmps44;go_wp2
 go_ret2
 exact⟨ai,rfl⟩
def Bo{c n:Nat}{w:World}:Cp 42 #[.S p n c,.I (-1)] w fun e w'=>e=.returned (.tuple #[.U 0,.I (-1)])/\w'=w:=by
 go_enter func42,ntmps42;go_wp2_with fail
 go_loopw[6,7](fun nv iv wr=>nv=.U 0/\iv=.I 0/\wr=w) (fun _ iv _=>10-(intOf iv).toNat)
 exact⟨rfl,rfl,rfl⟩;{
 obtain⟨rfl,rfl,rfl⟩:=hrel;go_wp2
 go_ret2
 exact⟨rfl,rfl⟩}
def SE{a:Nat}(h:a<l.length):l.drop a=l.getD a 0::l.drop (a+1):=by
 rw[List.drop_eq_getElem_cons h];simp[List.getD,h]
def Eg{c n a:Nat}(en:Hid (l.length=n)){w:World}(h:Rd w (.S p n c) l)(hb:aM l)(hl:n<=1048576)(ha:a<=n){r:Option (Int×LI)}(er:Hid (rv (l.drop a)=r)):Cp 42 #[.S p n c,.I a] w fun e w'=>e=.returned (.tuple #[.U (vOf r),.I (aOf n r)])/\w'=w:=by
 have HR:=af h;have HB:=af hb;have ha0:¬(a:Int)<0:=ae;clear h hb;go_enter func42,ntmps42;go_wp2_with fail
 go_loopw[6,7](fun nv iv wr=>∃(v:Int)(k:Nat),nv=.U v/\k<=10/\iv=.I k/\Hid (r=JX (10-k) k v (l.drop (a+k)))/\wr=w) (fun _ iv _=>10-(intOf iv).toNat)
 exact⟨0,0,rfl,ae,rfl,(by show _=_;rw[<-aa er];rfl),rfl⟩;{
 obtain⟨v,k,rfl,hk,rfl,hr,rfl⟩:=hrel;by_cases h10:k<10;{
 have aU8:(k:Int)<10:=ae;obtain⟨A,eA⟩:∃A:Nat,(a:Int)+(k:Int)=(A:Int):=⟨a+k,ae⟩;have eA2:a+k=A:=ae;have kY:=aa hr;rw[eA2,show 10-k=(9-k)+1 by omega]at kY;by_cases jr:A<n;{
 have hA:=aP A n;have Pk:¬(n:Int)<=(A:Int):=ae;obtain⟨b,o,rfl,-,hc⟩:=HR.at (by rw[aa en];omega);have zE:=hc A (by rw[aa en];exact jr);have hx:0<=l.getD A 0/\l.getD A 0<256:=by
  have Sn:A<l.length:=by rw[aa en];exact jr
  rw[show l.getD A 0=l[A] by simp[List.getD,Sn]];exact HB _ (List.getElem_mem Sn)
 rw[SE (by rw[aa en];exact jr)]at kY;obtain⟨x,ex⟩:=aI (l.getD A 0);rw[ex]at zE hx kY;have w7:IntKind.i64.wrap (7*(k:Int))=7*(k:Int):=IntWalk.i64_in _ ae;rw[JX]at kY;clear hc ex hr;by_cases ZH:x<128;{
 rw[if_pos ZH]at kY;have e1:vOf r=tA k v x:=by rw[kY];rfl
 have e2:aOf n r=(A:Int)+1:=by rw[kY];show(n:Int)-((l.drop (A+1)).length:Nat)=_;rw[List.length_drop,aa en];omega
 have E:=af (ah e1 e2);clear e1 e2 kY;go_wp2
 go_ret2
 rw[E.1,E.2];exact⟨rfl,rfl⟩};{
 have ca2:¬x<128:=ZH;rw[if_neg ZH]at kY;have GJ:Hid (r=JX (10-(k+1)) (k+1) (tA k v x) (l.drop (a+(k+1)))):=by show _=_;rw[kY,show 10-(k+1)=9-k by omega,show a+(k+1)=A+1 by omega]
 clear kY;go_wp2;go_roundw;exact⟨tA k v x,k+1,rfl,ae,by go_num,GJ,by first|rfl|trivial⟩;exact bG}};{
 have Pk:=iE n A;rw[List.drop_eq_nil_of_le (by rw[aa en];omega),JX]at kY;subst kY;clear hr;go_wp2
 go_ret2
 exact⟨rfl,rfl⟩}};{
 have aU8:¬(k:Int)<10:=ae;have kY:=aa hr;rw[show 10-k=0 by omega,JX]at kY;subst kY;clear hr;go_wp2
 go_ret2
 exact⟨rfl,rfl⟩}}
def aN(l:LI):ByteArray:=l.foldl (fun r n=>r.push (UInt8.ofNat n.toNat)) ByteArray.empty
theorem Jw(l:LI)(s:ByteArray):(l.foldl (fun r n=>r.push (UInt8.ofNat n.toNat)) s).data.toList=s.data.toList++l.map (fun n=>UInt8.ofNat n.toNat):=by
 induction l generalizing s with
 |nil=>simp
 |cons b l ih=>rw[Kq,ih];simp[ByteArray.push]
theorem map_inj(hl:aM l)(hm:aM m)(h:l.map (fun n=>UInt8.ofNat n.toNat)=m.map (fun n=>UInt8.ofNat n.toNat)):l=m:=by
 induction l generalizing m with
 |nil=>cases m with
  |nil=>rfl
  |cons b m=>simp at h
 | cons a l ih=>cases m with
  |nil=>simp at h
  |cons b m=>
   simp only[iH,List.cons.injEq]at h;obtain⟨a0,a1⟩:=hl a ai;obtain⟨b0,b1⟩:=hm b ai;have e:=wF UInt8.toNat h.1;simp at e;have e2:a=b:=ae;rw[e2,ih (fun z hz=>hl z (by simp[hz])) (fun z hz=>hm z (by simp[hz])) h.2]
def fE(l:LI):(aN l).toList=l.map (fun n=>UInt8.ofNat n.toNat):=by
 rw[ByteArray.toList_eq,aN,Jw];rfl
def qx(hl:aM l)(hm:aM m):((aN l).toList==(aN m).toList)=decide (l=m):=by
 rw[fE,fE];by_cases h:l=m;{simp[h]};{simp only[h,Ui,Uh];exact fun e=>h (map_inj hl hm e)}
theorem dK{w:World}{c n:Nat}(en:l.length=n)(h:Rd w (.S p n c) l):(convert 22 9 (.S p n c)).run prog w=.ok (.string (aN l)) w:=by
 subst en;rw[run_convert_bytes_string w 22 9 5 p l.length c underlying22 underlying5 underlying9];cases p with
 |none=>
  have e:=h.rI;subst e;simp[Conv.bytesToString,aN,Sem.run_pure]
 |some a=>
  obtain⟨n1,n2,n3⟩:=h.news;have hl:=run_loadCells_list (P:=prog) w a (U l) (fun j v hj=>n2 j v hj);simp only[fe]at hl;exact run_bytesToString w a l.length c l hl
def ja{p q:OA}{c d n k:Nat}(el:Hid (l.length=n))(em:Hid (m.length=k)){w:World}(h1:Rd w (.S p n c) l)(h2:Rd w (.S q k d) m)(b1:aM l)(b2:aM m):Cp 99 #[.S p n c,.S q k d] w fun e w'=>e=.returned (.bool (decide (l=m)))/\Bw w w':=by
 have e1:=dK el h1;have e2:=dK em h2;have HE:=af (qx b1 b2);clear h1 h2 b1 b2;go_enter func99,ntmps99;go_wp2;go_ret;exact⟨by rw[aa HE];rfl,cW _ _⟩
def Rd.cut{w:World}{b o n c:Nat}(h:Rd w (.S (some ⟨b,o,none⟩) n c) l)(i j:Nat)(hi:i<=j)(hj:j<=l.length)(q:OA)(hq:j=i\/q=some ⟨b,o+i,none⟩)(d:Nat)(m:LI)(em:m=(l.take j).drop i):Rd w (.S q (j-i) d) m:=by
 have hm:m.length=j-i:=by rw[em];simp;omega
 refine⟨q,d,by rw[hm],?_⟩;rcases hq with rfl|rfl;{left;exact Ku ae}
 {
 obtain⟨p',c',e,h⟩:=h;simp only[dU]at e;obtain⟨e1,-,-⟩:=e;rcases h with rfl|⟨b',o',e2,hc⟩;{left;exact Ku (by simp at hj;omega)}
 {
 right
 rw[e2]at e1;simp only[jU,Addr.mk.injEq]at e1;obtain⟨rfl,rfl,-⟩:=e1;refine⟨b,o+i,rfl,fun k hk=>?_⟩;have:=hc (i+k) ae;rw[Je,this,em];simp[List.getD,Fc,show i+k<j by omega]}}
def ly{p q:OA}{c d n k:Nat}(el:Hid (l.length=n))(em:Hid (m.length=k)){w:World}(h1:Rd w (.S p n c) l)(h2:Rd w (.S q k d) m)(b1:aM l)(b2:aM m):Cp 46 #[.S p n c,.S q k d] w fun e w'=>e=.returned (.bool (decide (l=m)))/\Bw w w':=by
 have e1:=dK el h1;have e2:=dK em h2;have HE:=af (qx b1 b2);clear h1 h2 b1 b2;go_enter func46,ntmps46;go_wp2;go_ret;exact⟨by rw[aa HE];rfl,cW _ _⟩
def iV{c n:Nat}(en:Hid (l.length=n)){w:World}(h:Rd w (.S p n c) l)(hl:n<=2097152):Cp 40 #[.S p n c] w fun e w'=>∃p' c',e=.returned (.S p' n c')/\Own w.heap.size w' (.S p' n c') l/\Bw w w':=by
 have e:=aa en;subst e;exact Fs h hl
def rt(m:LI):Option (LI×LI):=
 match rv m with
 |none=>none
 |some x=>if(x.2.length:Int)<x.1 then none else some (x.2.take x.1.toNat,x.2.drop x.1.toNat)
def tOf:Option (LI×LI)->LI
 |some x=>x.1
 |none=>[]
def bOf(n:Nat):Option (LI×LI)->Int
 |some x=>(n:Int)-x.2.length
 |none=>-1
def J4{c n:Nat}{w:World}:Cp 43 #[.S p n c,.I (-1)] w fun e w'=>e=.returned (.tuple #[.S none 0 0,.I (-1)])/\w'=w:=by
 go_enter func43,ntmps43;go_wp2_with fail;refine(Bo).mono ?_;rintro e w'⟨rfl,rfl⟩;go_wp2
 go_ret2
 exact⟨rfl,rfl⟩
theorem Nb{c n a:Nat}(en:Hid (l.length=n)){w:World}(h:Rd w (.S p n c) l)(hb:aM l)(hl:n<=1048576)(vG:n<=c)(ha:a<=n){r:Option (LI×LI)}(er:Hid (rt (l.drop a)=r)){N:Nat}(eN:Hid ((tOf r).length=N)):Cp 43 #[.S p n c,.I a] w fun e w'=>∃p' c',e=.returned (.tuple #[.S p' N c',.I (bOf n r)])/\Own w.heap.size w' (.S p' N c') (tOf r)/\Bw w w':=by
 obtain⟨x,ex⟩:=aI (rv (l.drop a));have Lw:=aa er;rw[rt,ex]at Lw;go_enter func43,ntmps43;go_wp2_with fail;refine(Eg en h hb hl ha ex).mono ?_;rintro e w'⟨rfl,rfl⟩;cases x with
 |none=>
  subst Lw;have Lm:N=0:=by rw[<-aa eN];rfl
  subst Lm;dsimp only[vOf,aOf];go_wp2
  go_ret2
  exact⟨none,0,rfl,World.ownsRow_nil _ _ _ _,Below.refl _ _⟩
 | some x=>
  obtain⟨v,t⟩:=x;have jb:=uS 10 0 0 _ v t ex;rw[List.length_drop,aa en]at jb;obtain⟨v0,v1,htl,at5⟩:=jb;obtain⟨T,eT⟩:=aI t.length;dsimp only at Lw;rw[eT]at Lw htl at5;obtain⟨A,eA⟩:=aI (n-T);have hte:t=l.drop A:=by
   rw[at5,List.drop_drop]
   congr 1
   omega
  have ea:aOf n (some (v,t))=(A:Int):=by show(n:Int)-(t.length:Nat)=_;rw[eT];omega
  have ev:vOf (some (v,t))=v:=rfl;rw[ea,ev];have hA0:¬(A:Int)<0:=ae;have hAn:(n:Int)-(A:Int)=(T:Int):=ae;have wT:IntKind.u64.wrap (T:Int)=(T:Int):=by rw[IntKind.wrap_u64];omega
  by_cases hv:(T:Int)<v;{
 rw[if_pos hv]at Lw;subst Lw;have Lm:N=0:=by rw[<-aa eN];rfl
 subst Lm;clear er ea ev ex at5 hte;go_wp2
 go_ret2
 exact⟨none,0,rfl,World.ownsRow_nil _ _ _ _,Below.refl _ _⟩};{
 rw[if_neg hv]at Lw;obtain⟨V,rfl⟩:∃V:Nat,v=(V:Int):=⟨v.toNat,ae⟩;have eV:((V:Int)).toNat=V:=ae;rw[eV]at Lw;have Jr:N=V:=by rw[<-aa eN,<-Lw];show(t.take V).length=V;rw[List.length_take,eT];omega
 subst Jr;have Wf:bOf n r=((A+N:Nat):Int):=by rw[<-Lw];show(n:Int)-((t.drop N).length:Nat)=_;rw[List.length_drop,eT];omega
 have Qe:tOf r=(l.take (A+N)).drop A:=by rw[<-Lw];show t.take N=_;rw[hte,List.drop_take,Nat.add_sub_cancel_left]
 obtain⟨b,o,rfl,-,-⟩:=h.at (by rw[aa en];omega);have hcut:∀(q:OA)(d:Nat),(A+N=A\/q=some ⟨b,o+A,none⟩)->Rd w' (.S q N d) (tOf r):=fun q d hq=>by have:=h.cut A (A+N) ae (by rw[aa en];omega) q hq d (tOf r) Qe;rwa [Nat.add_sub_cancel_left]at this
 obtain⟨E,eE⟩:=aI (A+N);rw[eE]at hcut;have wN:=dZ N;have hAE:(A:Int)+(N:Int)=(E:Int):=ae;have hE1:=iE A E;have hE2:=iE E c;have hE4:E-A=N:=ae;have hvv:¬(T:Int)<(N:Int):=hv;have HC:=af hcut;have HS:=af (ah Wf (ah Qe (ah eE (ah eT eA))));clear er Lw ea ev ex at5 hte hcut Wf Qe eE eT eA hv eV h hb;by_cases We:c=A;{
 have hEA:A=E:=ae;have Lm:N=0:=ae;subst We;subst hEA;subst Lm;go_wp2_with fail;refine(iV eN (aa HC _ _ (.inl (by first|rfl|trivial))) ae).mono ?_;rintro e w2⟨p2,c2,rfl,o2,b2⟩;go_wp2
 go_ret2
 exact⟨p2,c2,by rw[HS.1,HS.2.2.1];rfl,o2,b2⟩};{
 have ch6:¬(c:Int)=(A:Int):=ae;have dt3:c≠A:=We;have wE:=dZ E;have hNb:N<=2097152:=ae;have HE4:=af hE4;clear htl We hE4 ch6 v0 v1;go_wp2_with fail;rw[aa HE4];refine(iV eN (aa HC _ _ (.inr rfl)) ae).mono ?_;rintro e w2⟨p2,c2,rfl,o2,b2⟩;go_wp2
 go_ret2
 exact⟨p2,c2,by rw[HS.1,HS.2.2.1];rfl,o2,b2⟩}}
open Go.Maps (Keyed IsMap)
def aV:Value->Option (DataW Unit×List MemPlace)
 | .pointer (some ⟨b,0,none⟩)=>some (.lit (.int .i64 b),[])
 | .pointer none=>some (.nil,[])
 |_=>none
def lp(b:Nat):aV (.pointer (some ⟨b,0,none⟩))=some (.lit (.I b),[]):=rfl
def jO(h:aV v=some (.lit (.I b),ps)):v=.pointer (some ⟨b,0,none⟩):=by
 unfold aV at h;split at h;{simp only[Option.some.injEq,Prod.mk.injEq,DataW.lit.injEq,Lit.int.injEq,true_and,Int.natCast_inj]at h;rw[h.1]};{simp at h};{simp at h}
def ud(h:aV v=some (.nil,ps)):v=.pointer none:=by
 unfold aV at h;split at h;{simp at h};{rfl}
 {simp at h}
structure gM(D:DataW Unit)(l:List (Lit×Nat)):Prop where
 hs:∀k,Maps.has D k=true↔∃p∈l,p.1=k
 at':∀p∈l,∀z,D.atKey p.1 z=.lit (.I p.2)
def gM.nil:gM (.map []) []:=⟨fun k=>by simp[Maps.has],fun p hp=>by simp at hp⟩
def gM.put{l:List (Lit×Nat)}(h:gM D l)(hD:IsMap D){k:Lit}(hk:WideAt.IsKeyLit k)(hn:∀p∈l,p.1≠k)(g:Nat):gM (D.put k (.lit (.I g))) (l++[(k,g)]):=by
 refine⟨fun k'=>?_,fun p hp z=>?_⟩;{by_cases e:k'=k;{subst e;simp[Maps.has_put_same hD hk]};{rw[Maps.has_put_other e,h.hs k'];constructor;{rintro⟨p,hp,rfl⟩;exact⟨p,by simp[hp],rfl⟩};{rintro⟨p,hp,rfl⟩;rcases List.mem_append.1 hp with hp|hp;{exact⟨p,hp,rfl⟩};{simp at hp;subst hp;exact absurd rfl e}}}};{rcases List.mem_append.1 hp with hp|hp;{rw[Maps.atKey_put_other (hn p hp)];exact h.at' p hp z};{simp at hp;subst hp;exact Maps.atKey_put_same hD hk _ _}}
def dD(D:DataW Unit)(s:LI):Prop:=∀k,Maps.has D k=true↔∃i∈s,k=.U i
def dD.nil:dD (.map []) []:=fun k=>by simp[Maps.has]
def dD.put(h:dD D s)(hD:IsMap D)(i:Int)(d:DataW Unit):dD (D.put (.U i) d) (s++[i]):=by
 intro k';by_cases e:k'=.U i;{subst e;rw[Maps.has_put_same hD (by trivial)];simp};{rw[Maps.has_put_other e,h k'];constructor;{rintro⟨j,hj,rfl⟩;exact⟨j,by simp[hj],rfl⟩};{rintro⟨j,hj,rfl⟩;rcases List.mem_append.1 hj with hj|hj;{exact⟨j,hj,rfl⟩};{simp at hj;subst hj;exact absurd rfl e}}}
theorem dD.bj0(h:dD D s)(hD:IsMap D)(hk:∀es,D=.map es->∀p∈es,WideAt.IsKeyLit p.1):Maps.size D=0↔s=[]:=by
 obtain⟨es,rfl⟩:=hD;constructor;{
 intro h0;have e0:es=[]:=List.length_eq_zero_iff.1 h0;subst e0;cases s with
 |nil=>rfl
 |cons i s=>
  have:=(h (.U i)).2 ⟨i,ai,rfl⟩;simp[Maps.has]at this};{
 rintro rfl;cases es with
 |nil=>rfl
 |cons p es=>
  have:=(h p.1).1 (by rw[Maps.has_eq];simp[WideAt.sameKey_self (hk _ rfl p ai)]);simp at this}
section
variable {P:Program}(w:World){ops:Array Oper}{rest:List Oper}{o:Oper}{a:Act}{Q:Exit->Act->World->Prop}
def dW{α:Type}(hg:o.guard=none)(it:Operand)(Hy:o.op=Op.next it false)(k:TypeId)(K:Keyed P k)(mkK:α->Value)(bZ3:∀key kl,keyOf P k key=some kl->∃x,key=mkK x)(b r n:Nat)(D:DataW Unit)(l:List (Lit×Nat))(hM:gM D l)(left:Lit->Bool)(iM:Nat)(hit:a.eval it=.pointer (some ⟨r,0,none⟩))(h:w.ranges P k aV b r n D left iM)(ac3:iM=0->(∀kl,left kl=false)->wpList P ops Q rest (a.put o.dst (.tuple #[.bool false])) w)(ab9:∀(x:α)(p:Lit×Nat)(w':World)(LM:Nat),keyOf P k (mkK x)=some p.1->p∈l->left p.1=true->w'.ranges P k aV b r n D (fun z=>left z&&!z.sameKey p.1) LM->LM<iM→
   w.grownBy w' (some r)->w'.heap.size=w.heap.size->(Instr.entry (.pointer (some ⟨r,0,none⟩))).run P w'=.ok (.tuple #[mkK x,.pointer (some ⟨p.2,0,none⟩)]) w'->wpList P ops Q rest (a.put o.dst (.tuple #[.bool true,mkK x,.pointer (some ⟨p.2,0,none⟩)])) w'):wpList P ops Q (o::rest) a w:=by
 refine wpList_plain hg fun K' hK'=>?_;unfold Oper.wp;rcases h.next K o.type with⟨h0,hl,dI⟩|⟨key,v,kl,y,w',LM,cL,hlk,hv,fD,dI,jb,aX,xA,iO,AF⟩;{simp[execOp,Hy,hit,dI,Result.andThen];exact hK' _ _ (ac3 h0 hl)};{
 obtain⟨x,rfl⟩:=bZ3 key kl cL;obtain⟨p,hp,rfl⟩:=(hM.hs kl).1 (Maps.has_true_of_atKey fD);have e1:y.1=.lit (.I p.2):=by rw[<-fD .nil];exact hM.at' p hp _
 obtain⟨y1,y2⟩:=y;simp only at e1;subst e1;obtain rfl:=jO hv;simp[execOp,Hy,hit,dI,Result.andThen];exact hK' _ _ (ab9 x p w' LM cL hp hlk jb aX xA iO AF)}
def Cs(hg:o.guard=none)(it:Operand)(Hy:o.op=Op.next it false)(k:TypeId)(K:Keyed P k)(hk:P.underlying k=some (.int .u64))(b r n:Nat)(D:DataW Unit)(s:LI)(hM:dD D s)(left:Lit->Bool)(iM:Nat)(hit:a.eval it=.pointer (some ⟨r,0,none⟩))(h:w.ranges P k unitElem b r n D left iM)(ac3:iM=0->(∀kl,left kl=false)->wpList P ops Q rest (a.put o.dst (.tuple #[.bool false])) w)(ab9:∀(x:Int)(w':World)(LM:Nat),(Lit.U x).wf=true->x∈s->left (.U x)=true->w'.ranges P k unitElem b r n D (fun z=>left z&&!z.sameKey (.U x)) LM->LM<iM→
   w.grownBy w' (some r)->w'.heap.size=w.heap.size->(Instr.entry (.pointer (some ⟨r,0,none⟩))).run P w'=.ok (.tuple #[.U x,.agg #[]]) w'->wpList P ops Q rest (a.put o.dst (.tuple #[.bool true,.U x,.agg #[]])) w'):wpList P ops Q (o::rest) a w:=by
 refine wpList_plain hg fun K' hK'=>?_;unfold Oper.wp;rcases h.next K o.type with⟨h0,hl,dI⟩|⟨key,v,kl,y,w',LM,cL,hlk,hv,fD,dI,jb,aX,xA,iO,AF⟩;{simp[execOp,Hy,hit,dI,Result.andThen];exact hK' _ _ (ac3 h0 hl)};{obtain⟨x,rfl,rfl,hwx⟩:=Maps.keyOf_int_inv hk cL;obtain⟨i,hi,ei⟩:=(hM _).1 (Maps.has_true_of_atKey fD);simp only[Lit.int.injEq,true_and]at ei;subst ei;obtain⟨rfl,_⟩:=unitElem_inv hv;simp[execOp,Hy,hit,dI,Result.andThen];exact hK' _ _ (ab9 x w' LM hwx hi hlk jb aX xA iO AF)}
end
def bQ(l:LI):Lit:=.string (l.map fun n=>UInt8.ofNat n.toNat)
def l8(hl:aM l)(hm:aM m)(h:bQ l=bQ m):l=m:=by
 simp only[bQ,Lit.string.injEq]at h;exact map_inj hl hm h
def nR(l:LI):Lit.string (aN l).data.toList=bQ l:=by rw[<-ByteArray.toList_eq,fE];rfl
def Zq{s:ByteArray}(h:Lit.string s.data.toList=bQ l):s=aN l:=by
 rw[<-nR]at h;simp only[Lit.string.injEq]at h;cases s with|mk d=>cases hb:aN l with|mk d'=>(rw[hb]at h;simp only at h;congr;exact Array.toList_inj.1 h)
def aE{w w':World}(h:w'.heap[b]?=w.heap[b]?)(o:Nat):w'.cell? ⟨b,o,none⟩=w.cell? ⟨b,o,none⟩:=by
 unfold World.cell?;rw[h]
def al(w:World)(b:Nat)(vs:List Value):Prop:=(∀i v,vs[i]?=some v->w.cell? ⟨b,i,none⟩=some v)/\∀o,w.frozen? ⟨b,o,none⟩=false
def al.alloc(w:World)(cs:Array Value)(t:TypeId):al (w.alloc (.cells cs t)) w.heap.size cs.toList:=by
 refine⟨fun i v h=>?_,fun o=>?_⟩;{rw[Ug]at h;simp[h]};{simp[go_sem]}
def al.below{w w':World}(h:al w b vs)(hb:b<w.heap.size)(CQ:Bw w w'):al w' b vs:=
 ⟨fun i v hi=>(CQ.cell (p:=⟨b,i,none⟩) hb).trans (h.1 i v hi),fun o=>(CQ.frozen (p:=⟨b,o,none⟩) hb).trans (h.2 o)⟩
def al.xk{w:World}(h:al w b vs){a:Addr}(ha:b≠a.block)(u:Value):al (w.setCell a u) b vs:=by
 have hh:(w.setCell a u).heap[b]?=w.heap[b]?:=fy _ _ _ _ ha;refine⟨fun i v hi=>(aE hh _).trans (h.1 i v hi),fun o=>?_⟩;have:(w.setCell a u).frozen? ⟨b,o,none⟩=w.frozen? ⟨b,o,none⟩:=World.frozen?_of_block hh;rw[this];exact h.2 o
def al.fK{w:World}(h:al w b vs)(j:Nat)(hj:j<vs.length)(u:Value):al (w.setCell ⟨b,j,none⟩ u) b (vs.set j u):=by
 have hc:=h.1 j _ (aO hj);refine⟨fun i v hi=>?_,fun o=>by simp[h.2 o]⟩;by_cases e:j=i;{subst e;rw[Y8 hj]at hi;cases hi;exact Bx _ _ _ hc};{rw[cs7 e]at hi;have:=h.1 i v hi;simp[go_sem,e,this]}
def vu{w:World}(ty:TypeId)(i:TypeInfo){size bytes:Nat}(ht:P.underlying t=some (.slice e))(hi:P.info? e=some i)(hz:i.zero=some z)(yG:i.size=size)(fS:i.bytes=bytes)(hzs:z.cells.size=size)(iO:0<size){n:Nat}(bO:w.ownsRow base e size v n xs){a:Addr}{m:Nat}(c:Nat){news:List Value}(hl:news.length=m*size)(iW:∀j u,news[j]?=some u->w.cell? (a.add j)=some u)(h1:∀u∈news,u.oneCell'=true)(h63:n+m<=maxLen)(qN:(n+m)*bytes<=140737488355328)(yL:base<=w.heap.size):∃v' w',(Builtin.append_ #[t,t] ty #[v,.S (some a) m c]).run P w=.ok v' w'/\w'.ownsRow base e size v' (n+m) (xs++news)/\w.grownBy w' v.ownBlock/\∀g,v'.ownBlock=some g->v.ownBlock=some g\/w.heap.size<=g:=by
 obtain⟨v',w',hr,h2,h3,-⟩:=run_append_own (P:=P) w base t ty e i z size bytes ht hi hz yG fS hzs iO v n xs bO a m c news hl iW h1 h63 qN yL;refine⟨v',w',hr,h2,h3,fun g' sU=>?_⟩;rcases id bO.2 with⟨rfl,rfl⟩|⟨g,cap,cur,rfl,hbg,hg,vG,Dy,hcs,bn3⟩;{have hx:xs=[]:=Ku (by simpa using bO.1);subst hx;obtain⟨v2,w2,kY,k2,-,-⟩:=run_append_own (P:=P) w w.heap.size t ty e i z size bytes ht hi hz yG fS hzs iO (.S none 0 0) 0 [] (World.ownsRow_nil w _ e size) a m c news hl iW h1 h63 qN ao;rw[hr]at kY;simp only[Result.ok.injEq]at kY;obtain⟨rfl,rfl⟩:=kY;exact .inr (k2.lt g' sU).1};{
 subst yG;subst fS;by_cases Uw:n+m<=cap;{
 have aS1:n*i.size+news.length<=cur.size:=by rw[hl,hcs,<-Nat.add_mul];exact Um _ Uw
 rw[run_append_room (P:=P) w t ty e i ht hi g n cap cur hg a m c news hl iW h1 Uw aS1]at hr;simp only[Result.ok.injEq]at hr;obtain⟨rfl,-⟩:=hr;exact .inl sU};{have holds:∀j u,xs[j]?=some u->w.cell? ((⟨g,0,none⟩:Addr).add j)=some u:=bO.cells (g:=g) rfl;rw[run_append_grow (P:=P) w t ty e i z ht hi hz ⟨g,0,none⟩ n cap xs bO.1 holds a m c news hl iW ae (by simp only[maxLen]at h63;omega) (growslice_fits ae qN)]at hr;simp only[Result.ok.injEq]at hr;obtain⟨rfl,-⟩:=hr;simp only[Value.ownBlock,jU]at sU;exact .inr ae}}
def cI{w:World}{rest:List Oper}{Q:Exit->Act->World->Prop}(mr:o.guard=none){s x:Operand}(t:TypeId)(ho:o.op=.call {callee:=.builtin .append,args:=#[s,x],argTypes:=#[t,t]})(i:TypeInfo)(size:Nat)(ht:P.underlying t=some (.slice e))(hi:P.info? e=some i)(hz:i.zero=some z)(yG:i.size=size)(fS:i.bytes=bytes)(hzs:z.cells.size=size)(iO:0<size)(v:Value){n:Nat}(hs:a.eval s=v)(bO:w.ownsRow base e size v n xs)(g m c:Nat)(news:List Value)(hx:a.eval x=.T g m c)(hl:news.length=m*size)(iW:∀j u,news[j]?=some u->w.cell? ⟨g,j,none⟩=some u)(h1:∀u∈news,u.oneCell'=true)(h63:n+m<=maxLen)(qN:(n+m)*bytes<=140737488355328)(yL:base<=w.heap.size)(h:∀v' w',w'.ownsRow base e size v' (n+m) (xs++news)->w.grownBy w' v.ownBlock->(∀g,v'.ownBlock=some g->v.ownBlock=some g\/w.heap.size<=g)->wpList P ops Q rest (a.put o.dst v') w'):wpList P ops Q (o::rest) a w:=by
 obtain⟨v',w',hr,h2,h3,h4⟩:=vu (P:=P) o.type i ht hi hz yG fS hzs iO bO (a:=⟨g,0,none⟩) c hl (fun j u hu=>by rw[Addr.add_lit,lu];exact iW j u hu) h1 h63 qN yL;exact Lib.wpList_append_run w mr s x t t ho _ _ hs hx _ _ hr (h v' w' h2 h3 h4)
def j9{w:World}{Q:Exit->Act->World->Prop}(mr:o.guard=none){s x:Operand} (ho:o.op=.call {callee:=.builtin .append,args:=#[s,x],argTypes:=#[t,t]})(i:TypeInfo)(size:Nat)(ht:P.underlying t=some (.slice e))(hi:P.info? e=some i)(hz:i.zero=some z)(yG:i.size=size)(fS:i.bytes=bytes)(hzs:z.cells.size=size)(iO:0<size){n:Nat}(hs:a.eval s=v)(bO:w.ownsRow base e size v n xs){g:Nat}(m c:Nat)(news:List Value)(hx:a.eval x=.T g m c)(hl:news.length=m*size)(iW:∀j u,news[j]?=some u->w.cell? ⟨g,j,none⟩=some u)(h1:∀u∈news,u.oneCell'=true)(h63:n+m<=maxLen)(qN:(n+m)*bytes<=140737488355328)(yL:base<=w.heap.size)(h:∀v' w',w'.ownsRow base e size v' (n+m) (xs++news)->w.grownBy w' v.ownBlock->(∀g,v'.ownBlock=some g->v.ownBlock=some g\/w.heap.size<=g)->K (a.put o.dst v') w'):if Region.wanted o (yielded ops a.tmps)=true then Oper.wp P o a w K Q else E:=by
 have hw:Region.wanted o (yielded ops a.tmps)=true:=by simp[Region.wanted,mr]
 rw[bN hw];obtain⟨v',w',hr,h2,h3,h4⟩:=vu (P:=P) o.type i ht hi hz yG fS hzs iO bO (a:=⟨g,0,none⟩) c hl (fun j u hu=>by rw[Addr.add_lit,lu];exact iW j u hu) h1 h63 qN yL;exact Lib.wp_append_run w s x t t ho _ _ hs hx _ _ hr (h v' w' h2 h3 h4)
namespace Q
open Go.Sort
def af{p:Prop}(h:p):Hid p:=h
def aa{p:Prop}(h:Hid p):p:=h
def cK{α:Sort _}(x:α):∃y,Hid (x=y):=⟨x,af rfl⟩
abbrev HU(w:World)(blk off:Nat)(d:Array Int):Prop:=Holds (fun x:Int=>Value.U x) w blk off d
def qj{w:World}:w.grownBy w row:=⟨rfl,rfl,rfl,jS _,fun _ _ _=>rfl⟩
def aY{w w1 w2:World}(h:w.grownBy w1 row)(k:w1.grownBy w2 row):w.grownBy w2 row:=
 ⟨k.os.trans h.os,k.tape.trans h.tape,k.output.trans h.output,fW h.size k.size,fun i hi cg=>(k.block i (kV hi h.size) cg).trans (h.block i hi cg)⟩
def aD(w:World)(b o:Nat)(v:Value):w.grownBy (w.setCell ⟨b,o,none⟩ v) (some b):=
 ⟨rfl,rfl,rfl,ai,fun i _ cg=>fy _ _ _ _ (fun e=>cg (by rw[e]))⟩
def ar{w w':World}(h:w.grownBy w' row):w.grownBy w'.drew row:=⟨h.os,h.tape,h.output,h.size,h.block⟩
def HU.swap{w:World}{blk off:Nat}(h:HU w blk off d){i j:Nat}(hi:i<d.size)(hj:j<d.size)(hx:x=d[j]!)(hy:y=d[i]!):HU ((w.setCell ⟨blk,off+i,none⟩ (.U x)).setCell ⟨blk,off+j,none⟩ (.U y)) blk off (swp d i j):=by
 subst hx hy;have e:=putRow_self (fun x:Int=>Value.U x) w blk off d h;have e2:=putRow_swp (fun x:Int=>Value.U x) w blk off d i j hi hj;rw[e]at e2;show Holds _ _ _ _ _;rw[e2];exact holds_putRow _ w blk off d _ h (by rw[size_swp])
def jw{w:World}{p q:Addr}{t u:Value}(h:w.cell? p=some t):∃s,(w.setCell q u).cell? p=some s:=by
 by_cases e:q=p;{subst e;exact⟨u,Bx _ _ _ h⟩};{exact⟨t,(Fb _ _ _ _ e).trans h⟩}
def HU.drew{w:World}{blk off:Nat}(h:HU w blk off d):HU w.drew blk off d:=h
def HU.kept{w w':World}{blk off:Nat}(h:HU w blk off d)(hb:w'.heap[blk]?=w.heap[blk]?):HU w' blk off d:=fun j hj=>
 ⟨(World.cell?_of_block (a:=⟨blk,off+j,none⟩) hb).trans (h j hj).1,(World.frozen?_of_block (a:=⟨blk,off+j,none⟩) hb).trans (h j hj).2⟩
def aq6{w:World}:Cp 217 #[.U x] w fun e w'=>e=.returned (.bool false)/\w'=w:=by
 go_enter func217,ntmps217;go_wp2;go_ret;exact⟨ai,rfl⟩
def fQ{w:World}:Cp 202 #[.U x,.U y] w fun e w'=>e=.returned (.bool (ltInt x y))/\w'=w:=by
 go_enter func202,ntmps202;go_wp2_with fail;refine(aq6).mono ?_;rintro e w'⟨rfl,rfl⟩;go_wp2;go_ret;exact⟨rfl,rfl⟩
def fT{vs:Array Value}{w:World}:(callFunc 202 vs).run prog w=.ok (.enter 202 vs) w:=by kernel_rfl
def cX{w:World}{Q:Exit->Act->World->Prop}{R:Ending->World->Prop}(hw:Region.wanted o (yielded ops a.tmps)=true){f:FuncId}{x1 x2:Operand}{Vf:Array TypeId}(ho:o.op=.call {callee:=.value (.func f),args:=#[x1,x2],argTypes:=Vf}){v1 v2:Value}(h1:a.eval x1=v1)(h2:a.eval x2=v2)(xB:∀vs,(callFunc f vs).run P w=.ok (.enter f vs) w)(hc:Calls P f #[v1,v2] w R)(hR:∀e w',R e w'->∃v,e=.returned v/\K (a.put o.dst v) w'):if Region.wanted o (yielded ops a.tmps)=true then Oper.wp P o a w K Q else E:=by
 rw[bN hw];have dI:(execOp a.eval o).run P w=.ok (.enter f #[v1,v2]) w:=by subst h1 h2;unfold execOp;simp[go_sem,ho,resolve,invoke,xB]
 show o.upon P a K Q _;rw[dI,Oper.upon_enter];refine hc.mono ?_;intro e w' h;obtain⟨v,rfl,hk⟩:=hR e w' h;exact hk
def ao9{blk off cap N a b:Nat}(hN:Hid (d.size=N)){w:World}(h:HU w blk off d)(Ql:a<=b)(hb:b<=N)(iO:N<=1048576):Cp 200 #[.S (some ⟨blk,off,none⟩) N cap,.I a,.I b] w fun e w'=>e=.returned (.tuple #[])/\HU w' blk off (reverseRange d a b)/\w.grownBy w' (some blk):=by
 obtain⟨D,eD⟩:=aI (reverseRange d a b);rw[eD];have ED:Hid (reverseLoop a (b-1) d=D):=eD;clear eD;have H0:=af h;clear h;go_enter func200,ntmps200;go_wp2_with fail
 go_loopw[6,7](fun s6 s7 wr=>∃(i jn:Nat)(jz:Int)(dk:Array Int),s6=.I i/\s7=.I jz/\jz<=1048576/\-1<=jz/\i<=1048577/\Hid ((i:Int)<jz->jz=jn/\jn<N)/\Hid (¬(i:Int)<jz->¬i<jn)/\Hid (dk.size=N)/\Hid (HU wr blk off dk)/\Hid (reverseLoop i jn dk=D)/\Hid (w.grownBy wr (some blk))) (fun s6 s7 _=>(intOf s7-intOf s6).toNat)
 exact⟨a,b-1,(b:Int)-1,d,rfl,by first|rfl|go_num,ae,ae,ae,fun h=>⟨ae,ae⟩,(fun h=>ae),hN,H0,ED,qj⟩;{
 obtain⟨i,jn,jz,dk,rfl,rfl,q1,q2,q3,h1,h2,xf,FL,heq,hg⟩:=hrel;by_cases aX:(i:Int)<jz;{
 obtain⟨ej,hjn⟩:=aa h1 aX;subst ej;have kF:i<jn:=ae;have Lh:=aa xf;obtain⟨ci,fi⟩:=aa FL i ae;obtain⟨cj,fj⟩:=aa FL jn ae;obtain⟨y,ey⟩:=aI dk[i]!;obtain⟨z,ez⟩:=aI dk[jn]!;have RH:=af (FL.swap (i:=i) (j:=jn) ae ae ez.symm ey.symm);rw[ey]at ci;rw[ez]at cj;have hq:=aa heq;rw[reverseLoop,bN kF]at hq;have HQ:=af hq;have tC:Hid ((swp dk i jn).size=N):=by show _=_;rw[size_swp];exact Lh
 have HG:=af (aY (aY hg (aD wr blk (off+i) (.U z))) (aD _ blk (off+jn) (.U y)));have i1:=aP jn N;have i2:=aP i N;have i3:=dw 0 jn;clear h1 h2 FL heq hg ey ez hq Lh;go_wp2_with fail
 go_region
 go_wp2;go_roundw;exact⟨i+1,jn-1,(jn:Int)-1,swp dk i jn,by go_num,by first|rfl|go_num,ae,ae,ae,fun h=>⟨ae,ae⟩,(fun h=>ae),tC,RH.drew,HQ,ar HG⟩;exact bG};{
 have cc6:=aa h2 aX;have hq:=aa heq;rw[reverseLoop,bH cc6]at hq;subst hq;go_wp2
 go_end0
 exact⟨rfl,FL,hg⟩}}
end Q
end Go.Proofs.YtjjnidignljppaaGreatDoor
