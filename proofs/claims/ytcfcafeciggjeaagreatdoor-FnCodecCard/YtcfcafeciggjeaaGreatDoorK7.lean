import Derived.Test.YtcfcafeciggjeaaGreatDoorK5
import Derived.Test.YtcfcafeciggjeaaGreatDoorK4
import Derived.Lib.EndianBits
import Derived.Laws.Closers25b
import Derived.Laws.BytesString
namespace Go.Proofs.YtcfcafeciggjeaaGreatDoor
set_option maxHeartbeats 1600000
set_option linter.all false
set_option maxRecDepth 100000
open Go.ChangeShapes Go.WideShapes Go.ChangeAt Go.RowKit Go.Proofs.Tryz
variable {l m:List Int}
def zw:Nat->Nat->List Int
 | 0,n=>[(n:Int)]
 | f+1,n=>if n<128 then [(n:Int)] else ((n % 128+128:Nat):Int)::zw f (n / 128)
def vi (n:Nat):List Int:=zw 9 n
theorem zl (f n:Nat) (h:n<128):zw f n=[(n:Int)]:=by
 cases f with
 | zero=>rfl
 | succ f=>rw [zw,if_pos h]
theorem GV (f n:Nat) (h:¬ n<128):zw (f+1) n=((n % 128+128:Nat):Int)::zw f (n / 128):=by rw [zw,if_neg h]
theorem QK (f:Nat):∀ n,1<=(zw f n).length/\(zw f n).length<=f+1:=by
 induction f with
 | zero=>intro n;simp [zw]
 | succ f ih=>
  intro n;rw [zw];split;{simp};{have:=ih (n / 128);simp;omega}
theorem Zw (f:Nat):∀ n,n<128 ^ (f+1)->bM (zw f n):=by
 induction f with
 | zero=>intro n hn z hz;simp [zw] at hz;subst hz;simp at hn;omega
 | succ f ih=>
  intro n hn;rw [zw];split;{intro z hz;simp at hz;subst hz;omega};{intro z hz;rcases List.mem_cons.1 hz with rfl | hz;{omega};{exact ih (n / 128) (by rw [Nat.div_lt_iff_lt_mul ab];rw [Nat.pow_succ] at hn;exact hn) z hz}}
theorem jQ {n:Nat} (h:n<18446744073709551616):bM (vi n):=Zw 9 n (by omega)
theorem gh (n:Nat):1<=(vi n).length/\(vi n).length<=10:=QK 9 n
theorem bM.app (h:bM l) (k:bM m):bM (l++m):=fun z hz=>by
 rcases List.mem_append.1 hz with hz | hz;{exact h z hz};{exact k z hz}
theorem am7:((List.range 256).all fun y=>bits .or .u8 (y:Int) 128==((y % 128+128:Nat):Int))=true:=by decide +kernel
theorem ag6 (x:Nat):bits .or .u8 ((x:Int) % 256) 128=((x % 128+128:Nat):Int):=by
 have h:=List.all_eq_true.1 am7 (x % 256) (List.mem_range.2 (Nat.mod_lt _ ab));have h2:=beq_iff_eq.1 h;rw [show ((x:Int) % 256)=((x % 256:Nat):Int) by omega,h2]
 congr 1
 omega
theorem Ct (f:Nat):∀ (v:Nat) (w:World),v<128 ^ (f+1)->v<18446744073709551616->f<=9->∀ (N:Nat),Hid ((zw f v).length=N) →
  Calls prog 124 #[.U v] w fun e w'=>∃ p' c',e=.returned (.S p' N c')/\Own w.heap.size w' (.S p' N c') (zw f v)/\Bw w w':=by
 induction f with
 | zero=>
  intro v w hv XF hf N hN;have h:v<128:=by simpa using hv
  have Pg:N=1:=by rw [<-aa hN];rfl
  subst Pg;have h':(v:Int)<128:=ab;have wv:IntKind.u8.wrap (v:Int)=(v:Int):=by rw [IntKind.wrap_u8];omega
  go_enter func124,ntmps124;go_wp2;go_ret;exact ⟨_,_,rfl,(by have:=Own.one w (v:Int);exact this),aJ.alloc aA _⟩
 | succ f ih=>
  intro v w hv XF hf N hN;by_cases h:v<128;{
 have e:zw (f+1) v=[(v:Int)]:=zl _ _ h;have Pg:N=1:=by rw [<-aa hN,e];rfl
 subst Pg;rw [e];have h':(v:Int)<128:=ab;have wv:IntKind.u8.wrap (v:Int)=(v:Int):=by rw [IntKind.wrap_u8];omega
 clear e hN ih;go_enter func124,ntmps124;go_wp2;go_ret;exact ⟨_,_,rfl,(by have:=Own.one w (v:Int);exact this),aJ.alloc aA _⟩};{
 have h':¬ (v:Int)<128:=ab;obtain ⟨V,eV⟩:=aH (v / 128);have hd:(v:Int) / 128=(V:Int):=ab;have Hp:V<128 ^ (f+1):=by rw [<-eV,Nat.div_lt_iff_lt_mul ab];rw [Nat.pow_succ] at hv;exact hv
 obtain ⟨M,eM⟩:=aH ((zw f V).length);have hM:=QK f V;have hih:∀ w:World,_:=fun w=>ih V w Hp ab ab M eM;have e:zw (f+1) v=[((v % 128+128:Nat):Int)]++zw f V:=by rw [GV _ _ h,eV];rfl
 obtain ⟨y,ey⟩:∃ y:Int,(v:Int) % 128+128=y:=⟨_,rfl⟩;have ey2:(((v % 128+128:Nat)):Int)=y:=by rw [<-ey];omega
 rw [ey2] at e;have hNM:N=1+M:=by rw [<-aa hN,e,List.length_append,eM];rfl
 have HIH:=ae hih;have EE:=ae e;have EM:=ae eM;rw [eM] at hM;clear hih e eV ih hN eM;go_enter func124,ntmps124;go_wp2_with fail
 try rw [hd]
 try rw [ey]
 refine (aa HIH _).mono ?_;rintro e w1 ⟨p1,c1,rfl,o1,bq⟩;have oo:Own w.heap.size (w.alloc (.cells #[.int .u8 y] 5)) (.S (some ⟨w.heap.size,0,none⟩) 1 1) [y]:=Own.one w y;have oo1:=Own.below oo bq;have bA:Bw w (w.alloc (.cells #[.int .u8 y] 5)):=aJ.alloc aA _;have b1:=ah bA bq;have z1:=b1.size;have r1:=o1.rd;clear oo bq bA o1;go_wp2_with (at_builtin;refine ru rfl _ _ rfl w.heap.size (.S (some ⟨w.heap.size,0,none⟩) 1 1) [y] (zw f V) (zw (f+1) v) EE p1 c1 M EM rfl rfl oo1 r1 (by rw [aa EM];simp;omega) ab ?_);intro p2 c2 w2 o2 fU;have b2:=below_grown b1 fU oo1 aA ab;have eL:(zw (f+1) v).length=N:=by rw [aa EE,List.length_append,aa EM,hNM];rfl
 rw [eL] at o2 ⊢;clear fU oo1 r1 b1;go_wp2;go_ret;exact ⟨p2,c2,rfl,o2,b2⟩}
theorem ku (v:Nat) (w:World) (XF:v<18446744073709551616) :
  Calls prog 62 #[.U v] w fun e w'=>∃ p' c',e=.returned (.S p' (vi v).length c')/\Own w.heap.size w' (.S p' (vi v).length c') (vi v)/\Bw w w':=by
 go_enter func62,ntmps62;go_wp2
 go_loopw [0,3] (fun nv ov wr=>∃ (x f N:Nat) (pre:List Int) (pv:Option Addr) (cv:Nat),nv=.U x/\x<18446744073709551616/\Hid (x<128 ^ (f+1))/\N+f<=9/\ov=.S pv N cv/\Hid (pre.length=N)/\Hid (vi v=pre++zw f x)/\Own w.heap.size wr (.S pv N cv) pre/\Bw w wr) (fun nv _ _=>(intOf nv).toNat)
 case atStart=>exact ⟨v,9,0,[],none,0,rfl,XF,(by show _<_;omega),ab,rfl,rfl,rfl,World.ownsRow_nil _ _ _ _,Below.refl _ _⟩
 case round =>(
 obtain ⟨x,f,N,pre,pv,cv,rfl,hx,hxf,hNf,rfl,eN,eV,ho,aR⟩:=hrel;have zr:=aR.size;by_cases h:x<128;{
 have h':¬ (128:Int)<=(x:Int):=ab;have wx:IntKind.u8.wrap (x:Int)=(x:Int):=by rw [IntKind.wrap_u8];omega
 have eE:Hid (vi v=pre++[(x:Int)]):=by show _=_;rw [aa eV,zl _ _ h]
 go_wp2_with (at_builtin;refine ga rfl _ _ rfl w.heap.size (.S pv N cv) pre (vi v) (x:Int) eE wr.heap.size rfl rfl (Own.below ho (aJ.alloc aA _)) aU (by rw [aa eN];omega) dx ?_);intro p2 c2 w2 o2 fU;have b2:Bw w w2:=(aR.alloc aR.size _).grown fU dx (fun k hk=>(ho.lt k hk).1);clear fU;go_wp2;go_ret;exact ⟨p2,c2,rfl,o2,b2⟩};{
 have h':=dE 128 x;obtain ⟨f',rfl⟩:∃ f',f=f'+1:=by
  cases f with
  | zero=>have:=aa hxf;simp at this;omega
  | succ f'=>exact ⟨f',rfl⟩
 obtain ⟨X,eX⟩:=aH (x / 128);have hX:Hid (X<128 ^ (f'+1)):=by show _<_;have:=aa hxf;rw [<-eX,Nat.div_lt_iff_lt_mul ab];rw [Nat.pow_succ] at this;exact this
 obtain ⟨y,ey⟩:∃ y:Int,((x % 128+128:Nat):Int)=y:=⟨_,rfl⟩;have hor:=ag6 x;rw [ey] at hor;have hd:(x:Int) / 128=(X:Int):=ab;have eV2:Hid (vi v=(pre++[y])++zw f' X):=by show _=_;rw [aa eV,GV _ _ h,eX,ey];simp
 have hXx:X<x:=ab;have hy:ey=ey:=rfl;obtain ⟨am2,ep0⟩:=ax (pre++[y]);have eP:=ae ep0;have eN2:Hid (am2.length=N+1):=by show _=_;rw [ep0,List.length_append,aa eN];rfl
 rw [<-ep0] at eV2;clear ep0 eX ey hy;go_wp2_with (at_builtin;refine ga rfl _ _ rfl w.heap.size (.S pv N cv) pre am2 y eP wr.heap.size rfl rfl (Own.below ho (aJ.alloc aA _)) aU (by rw [aa eN];omega) dx ?_);intro p2 c2 w2 o2 fU;have b2:Bw w w2:=(aR.alloc aR.size _).grown fU dx (fun k hk=>(ho.lt k hk).1);rw [aa eN2] at o2 ⊢;clear fU;go_wp2;go_roundw
 case rel=>exact ⟨X,f',N+1,am2,p2,c2,by go_num,ab,hX,ab,rfl,eN2,eV2,o2,b2⟩
 case measure=>simp [intOf];omega})
def al6 (k:Nat) (v x:Int):Int:=bits .or .u64 v (IntKind.u64.wrap (x % 128*2 ^ (7*k)))
theorem sK (k:Nat) (v x:Int):0<=al6 k v x/\al6 k v x<18446744073709551616:=by
 have h1:=bits_lo_u64 .or v (IntKind.u64.wrap (x % 128*2 ^ (7*k)));have h2:=bits_hi_u64 .or v (IntKind.u64.wrap (x % 128*2 ^ (7*k)));unfold al6;omega
theorem tm (x:Nat):(x:Int) % 128=((x % 128:Nat):Int):=by omega
theorem El (k:Nat) (a x:Nat) (c:Int) (hc:c % 128=(x:Int)) (hx:x<128) (ha:a<2 ^ (7*k)) (hs:a+x*2 ^ (7*k)<18446744073709551616):al6 k a c=((a+x*2 ^ (7*k):Nat):Int):=by
 unfold al6;rw [hc];have e2:IntKind.u64.wrap ((x:Int)*2 ^ (7*k))=((x*2 ^ (7*k):Nat):Int):=by
  rw [IntKind.wrap_u64];have:((x:Int)*2 ^ (7*k))=((x*2 ^ (7*k):Nat):Int):=by push_cast;rfl
  rw [this];omega
 rw [e2];have hj:=bits_join_low .u64 64 bl wraps_u64 (7*k) (a:Int) ((x*2 ^ (7*k):Nat):Int) ab (by exact_mod_cast ha) ab ab (by
  have:((x*2 ^ (7*k):Nat):Int) % 2 ^ (7*k)=((x*2 ^ (7*k) % 2 ^ (7*k):Nat):Int):=by push_cast;rfl
  rw [this,Nat.mul_mod_left]
  rfl) ab
 rw [hj]
 push_cast
 rfl
def Ia:Nat->Nat->Int->List Int->Option (Int × List Int)
 | 0,_,_,_=>none
 | _+1,_,_,[]=>none
 | f+1,k,a,c::t=>if c<128 then some (al6 k a c,t) else Ia f (k+1) (al6 k a c) t
def rv (m:List Int):Option (Int × List Int):=Ia 10 0 0 m
theorem KM (k:Nat):2 ^ (7*(k+1))=128*2 ^ (7*k):=by
 rw [Nat.mul_add,Nat.pow_add,Nat.mul_comm]
theorem am1 (f:Nat):∀ (k a x:Nat) (rest:List Int),x<128 ^ (f+1)->a<2 ^ (7*k)->a+x*2 ^ (7*k)<18446744073709551616->Ia (f+1) k a (zw f x++rest)=some (((a+x*2 ^ (7*k):Nat):Int),rest):=by
 induction f with
 | zero=>
  intro k a x rest hx ha hs;have LO:x<128:=by simpa using hx
  rw [zw];simp only [List.cons_append,List.nil_append,Ia];rw [if_pos ab,El k a x _ (by rw [tm];omega) LO ha hs]
 | succ f ih=>
  intro k a x rest hx ha hs;by_cases h:x<128;{rw [zl _ _ h];simp only [List.cons_append,List.nil_append,Ia];rw [if_pos ab,El k a x _ (by rw [tm];omega) h ha hs]};{
 rw [GV _ _ h];simp only [List.cons_append,Ia];have hdm:=Nat.div_add_mod x 128;have hml:=Nat.mod_lt x (show 0<128 by omega);generalize x / 128=q at *;generalize x % 128=r at *;subst hdm;have an3:(128*q+r)*2 ^ (7*k)=q*2 ^ (7*(k+1))+r*2 ^ (7*k):=by rw [KM,Nat.add_mul,Nat.mul_comm 128 q,Nat.mul_assoc]
 rw [if_neg ab,El k a r _ (by rw [tm];omega) hml ha (by rw [an3] at hs;omega),ih (k+1) (a+r*2 ^ (7*k)) q rest ?_ ?_ ?_];{
 rw [an3]
 congr 2
 simp;omega};{rw [Nat.pow_succ] at hx;omega};{rw [KM];have:r*2 ^ (7*k)<=127*2 ^ (7*k):=Nat.mul_le_mul_right _ ab;omega};{rw [an3] at hs;omega}}
theorem QZ (s:Nat) (rest:List Int) (hs:s<18446744073709551616):rv (vi s++rest)=some ((s:Int),rest):=by
 have:=am1 9 0 0 s rest ab bl ab;simpa [rv,vi] using this
theorem uz (f:Nat):∀ (k:Nat) (a:Int) (m:List Int) (v:Int) (t:List Int),Ia f k a m=some (v,t)->0<=v/\v<18446744073709551616/\t.length<m.length/\t=m.drop (m.length-t.length):=by
 induction f with
 | zero=>intro k a m v t h;simp [Ia] at h
 | succ f ih=>
  intro k a m v t h;cases m with
  | nil=>simp [Ia] at h
  | cons c m=>
   rw [Ia] at h;split at h;{
 simp at h;obtain ⟨rfl,rfl⟩:=h;have:=sK k a c;refine ⟨this.1,this.2,aU,?_⟩;rw [List.length_cons,show m.length+1-m.length=1 by omega]
 rfl}
   {obtain ⟨h1,h2,h3,h4⟩:=ih _ _ _ _ _ h;refine ⟨h1,h2,dx,?_⟩;rw [List.length_cons,show m.length+1-t.length=(m.length-t.length)+1 by omega,List.drop_succ_cons];exact h4}
def vOf:Option (Int × List Int)->Int
 | some x=>x.1
 | none=>0
def aOf (n:Nat):Option (Int × List Int)->Int
 | some x=>(n:Int)-x.2.length
 | none=>-1
theorem Ic (p:Option Addr) (c n:Nat) (w:World) :
  Calls prog 50 #[.S p n c,.I (-1)] w fun e w'=>e=.returned (.tuple #[.I 0,.I (-1)])/\w'=w:=by
 go_enter func50,ntmps50;go_wp2
 go_ret2
 exact ⟨rfl,rfl⟩
theorem Ii (p:Option Addr) (c n:Nat) (w:World) (hl:n<=1048576) :
  Calls prog 50 #[.S p n c,.I n] w fun e w'=>e=.returned (.tuple #[.I 0,.I (-1)])/\w'=w:=by
 have h0:¬ (n:Int)<0:=ab;have h1:=vj n n;go_enter func50,ntmps50;go_wp2
 go_ret2
 exact ⟨rfl,rfl⟩
theorem KE (p:Option Addr) (c n a:Nat) (l:List Int) (en:Hid (l.length=n)) (w:World) (h:Rd w (.S p n c) l) (hb:bM l) (hl:n<=1048576) (ha:a<n) :
  Calls prog 50 #[.S p n c,.I a] w fun e w'=>e=.returned (.tuple #[.I (l.getD a 0),.I ((a+1:Nat):Int)])/\w'=w:=by
 obtain ⟨b,o,rfl,-,hc⟩:=h.at (by rw [aa en];omega);have zO:=hc a (by rw [aa en];exact ha);have hx:0<=l.getD a 0/\l.getD a 0<256:=by
  have hal:a<l.length:=by rw [aa en];exact ha
  rw [show l.getD a 0=l[a] by simp [List.getD,hal]];exact hb _ (List.getElem_mem hal)
 obtain ⟨x,ex⟩:=aH (l.getD a 0);rw [ex] at zO hx ⊢;have h0:¬ (a:Int)<0:=ab;have h1:¬ (n:Int)<=(a:Int):=ab;have h2:=aT a n;have wx:IntKind.i64.wrap x=x:=IntWalk.i64_in _ ab;clear hc ex;go_enter func50,ntmps50;go_wp2
 go_ret2
 exact ⟨aU,rfl⟩
theorem Cr (p:Option Addr) (c n:Nat) (w:World) :
  Calls prog 51 #[.S p n c,.I (-1)] w fun e w'=>e=.returned (.tuple #[.U 0,.I (-1)])/\w'=w:=by
 go_enter func51,ntmps51;go_wp2_with fail
 go_loopw [6,7] (fun nv iv wr=>nv=.U 0/\iv=.I 0/\wr=w) (fun _ iv _=>10-(intOf iv).toNat)
 case atStart=>exact ⟨rfl,rfl,rfl⟩
 case round =>(
 obtain ⟨rfl,rfl,rfl⟩:=hrel;go_wp2
 go_ret2
 exact ⟨rfl,rfl⟩)
theorem P9 {a:Nat} (h:a<l.length):l.drop a=l.getD a 0::l.drop (a+1):=by
 rw [List.drop_eq_getElem_cons h];simp [List.getD,h]
theorem DV (p:Option Addr) (c n a:Nat) (l:List Int) (en:Hid (l.length=n)) (w:World) (h:Rd w (.S p n c) l) (hb:bM l) (hl:n<=1048576) (ha:a<=n) (r:Option (Int × List Int)) (er:Hid (rv (l.drop a)=r)) :
  Calls prog 51 #[.S p n c,.I a] w fun e w'=>e=.returned (.tuple #[.U (vOf r),.I (aOf n r)])/\w'=w:=by
 have HR:=ae h;have HB:=ae hb;have ha0:¬ (a:Int)<0:=ab;clear h hb;go_enter func51,ntmps51;go_wp2_with fail
 go_loopw [6,7] (fun nv iv wr=>∃ (v:Int) (k:Nat),nv=.U v/\k<=10/\iv=.I k/\Hid (r=Ia (10-k) k v (l.drop (a+k)))/\wr=w) (fun _ iv _=>10-(intOf iv).toNat)
 case atStart=>exact ⟨0,0,rfl,ab,rfl,(by show _=_;rw [<-aa er];rfl),rfl⟩
 case round =>(
 obtain ⟨v,k,rfl,hk,rfl,hr,rfl⟩:=hrel;by_cases h10:k<10;{
 have ao5:(k:Int)<10:=ab;obtain ⟨A,eA⟩:∃ A:Nat,(a:Int)+(k:Int)=(A:Int):=⟨a+k,ab⟩;have eA2:a+k=A:=ab;have mG:=aa hr;rw [eA2,show 10-k=(9-k)+1 by omega] at mG;by_cases pK:A<n;{
 have hA:=aT A n;have MI:¬ (n:Int)<=(A:Int):=ab;obtain ⟨b,o,rfl,-,hc⟩:=HR.at (by rw [aa en];omega);have zO:=hc A (by rw [aa en];exact pK);have hx:0<=l.getD A 0/\l.getD A 0<256:=by
  have hal:A<l.length:=by rw [aa en];exact pK
  rw [show l.getD A 0=l[A] by simp [List.getD,hal]];exact HB _ (List.getElem_mem hal)
 rw [P9 (by rw [aa en];exact pK)] at mG;obtain ⟨x,ex⟩:=aH (l.getD A 0);rw [ex] at zO hx mG;have w7:IntKind.i64.wrap (7*(k:Int))=7*(k:Int):=IntWalk.i64_in _ ab;rw [Ia] at mG;clear hc ex hr;by_cases Xi:x<128;{
 rw [if_pos Xi] at mG;have e1:vOf r=al6 k v x:=by rw [mG];rfl
 have e2:aOf n r=(A:Int)+1:=by rw [mG];show (n:Int)-((l.drop (A+1)).length:Nat)=_;rw [List.length_drop,aa en];omega
 have E:=ae (ag e1 e2);clear e1 e2 mG;go_wp2
 go_ret2
 rw [E.1,E.2];exact ⟨rfl,rfl⟩};{
 have bm6:¬ x<128:=Xi;rw [if_neg Xi] at mG;have EH:Hid (r=Ia (10-(k+1)) (k+1) (al6 k v x) (l.drop (a+(k+1)))):=by show _=_;rw [mG,show 10-(k+1)=9-k by omega,show a+(k+1)=A+1 by omega]
 clear mG;go_wp2;go_roundw
 case rel=>exact ⟨al6 k v x,k+1,rfl,ab,by go_num,EH,by first | rfl | trivial⟩
 exact dC}};{
 have MI:=vj n A;rw [List.drop_eq_nil_of_le (by rw [aa en];omega),Ia] at mG;subst mG;clear hr;go_wp2
 go_ret2
 exact ⟨rfl,rfl⟩}};{
 have ao5:¬ (k:Int)<10:=ab;have mG:=aa hr;rw [show 10-k=0 by omega,Ia] at mG;subst mG;clear hr;go_wp2
 go_ret2
 exact ⟨rfl,rfl⟩})
def aC (l:List Int):ByteArray:=l.foldl (fun r n=>r.push (UInt8.ofNat n.toNat)) ByteArray.empty
theorem Am (l:List Int) (s:ByteArray):(l.foldl (fun r n=>r.push (UInt8.ofNat n.toNat)) s).data.toList=s.data.toList++l.map (fun n=>UInt8.ofNat n.toNat):=by
 induction l generalizing s with
 | nil=>simp
 | cons b l ih=>rw [List.foldl_cons,ih];simp [ByteArray.push]
theorem map_inj (hl:bM l) (hm:bM m) (h:l.map (fun n=>UInt8.ofNat n.toNat)=m.map (fun n=>UInt8.ofNat n.toNat)):l=m:=by
 induction l generalizing m with
 | nil=>cases m with
  | nil=>rfl
  | cons b m=>simp at h
 | cons a l ih=>cases m with
  | nil=>simp at h
  | cons b m=>
   simp only [List.map_cons,List.cons.injEq] at h;obtain ⟨a0,a1⟩:=hl a aU;obtain ⟨b0,b1⟩:=hm b aU;have e:=congrArg UInt8.toNat h.1;simp at e;have e2:a=b:=ab;rw [e2,ih (fun z hz=>hl z (by simp [hz])) (fun z hz=>hm z (by simp [hz])) h.2]
theorem dR (l:List Int):(aC l).toList=l.map (fun n=>UInt8.ofNat n.toNat):=by
 rw [ByteArray.toList_eq,aC,Am];rfl
theorem sL (hl:bM l) (hm:bM m):((aC l).toList==(aC m).toList)=decide (l=m):=by
 rw [dR,dR];by_cases h:l=m;{simp [h]};{simp only [h,decide_false,beq_eq_false_iff_ne];exact fun e=>h (map_inj hl hm e)}
theorem gH {w:World} {p:Option Addr} {c n:Nat} (en:l.length=n) (h:Rd w (.S p n c) l) :
  (convert 22 9 (.S p n c)).run prog w=.ok (.string (aC l)) w:=by
 subst en;rw [run_convert_bytes_string w 22 9 5 p l.length c underlying22 underlying5 underlying9];cases p with
 | none=>
  have e:=h.oz;subst e;simp [Conv.bytesToString,aC,Sem.run_pure]
 | some a=>
  obtain ⟨n1,n2,n3⟩:=h.news;have hl:=run_loadCells_list (P:=prog) w a (U l) (fun j v hj=>n2 j v hj);simp only [List.length_map] at hl;exact run_bytesToString w a l.length c l hl
theorem mA (p q:Option Addr) (c d n k:Nat) (l m:List Int) (el:Hid (l.length=n)) (em:Hid (m.length=k)) (w:World) (h1:Rd w (.S p n c) l) (h2:Rd w (.S q k d) m) (b1:bM l) (b2:bM m) :
  Calls prog 59 #[.S p n c,.S q k d] w fun e w'=>e=.returned (.bool (decide (l=m)))/\Bw w w':=by
 have e1:=gH el h1;have e2:=gH em h2;have HE:=ae (sL b1 b2);clear h1 h2 b1 b2;go_enter func59,ntmps59;go_wp2;go_ret;exact ⟨by rw [aa HE];rfl,Below.refl _ _⟩
theorem Rd.cut {w:World} {b o n c:Nat} (h:Rd w (.S (some ⟨b,o,none⟩) n c) l) (i j:Nat) (hi:i<=j) (hj:j<=l.length) (q:Option Addr) (hq:j=i\/q=some ⟨b,o+i,none⟩) (d:Nat) (m:List Int) (em:m=(l.take j).drop i):Rd w (.S q (j-i) d) m:=by
 have hm:m.length=j-i:=by rw [em];simp;omega
 refine ⟨q,d,by rw [hm],?_⟩;rcases hq with rfl | rfl;{left;exact List.eq_nil_of_length_eq_zero ab}
 {
 obtain ⟨p',c',e,h⟩:=h;simp only [Value.slice.injEq] at e;obtain ⟨e1,-,-⟩:=e;rcases h with rfl | ⟨b',o',e2,hc⟩;{left;exact List.eq_nil_of_length_eq_zero (by simp at hj;omega)}
 {
 right
 rw [e2] at e1;simp only [Option.some.injEq,Addr.mk.injEq] at e1;obtain ⟨rfl,rfl,-⟩:=e1;refine ⟨b,o+i,rfl,fun k hk=>?_⟩;have:=hc (i+k) ab;rw [Nat.add_assoc,this,em];simp [List.getD,List.getElem?_take,show i+k<j by omega]}}
theorem mL (p q:Option Addr) (c d n k:Nat) (l m:List Int) (el:Hid (l.length=n)) (em:Hid (m.length=k)) (w:World) (h1:Rd w (.S p n c) l) (h2:Rd w (.S q k d) m) (b1:bM l) (b2:bM m) :
  Calls prog 55 #[.S p n c,.S q k d] w fun e w'=>e=.returned (.bool (decide (l=m)))/\Bw w w':=by
 have e1:=gH el h1;have e2:=gH em h2;have HE:=ae (sL b1 b2);clear h1 h2 b1 b2;go_enter func55,ntmps55;go_wp2;go_ret;exact ⟨by rw [aa HE];rfl,Below.refl _ _⟩
theorem fT (p:Option Addr) (c n:Nat) (l:List Int) (en:Hid (l.length=n)) (w:World) (h:Rd w (.S p n c) l) (hl:n<=2097152) :
  Calls prog 126 #[.S p n c] w fun e w'=>∃ p' c',e=.returned (.S p' n c')/\Own w.heap.size w' (.S p' n c') l/\Bw w w':=by
 have e:=aa en;subst e;exact Fu p c l w h hl
def rt (m:List Int):Option (List Int × List Int):=
 match rv m with
 | none=>none
 | some x=>if (x.2.length:Int)<x.1 then none else some (x.2.take x.1.toNat,x.2.drop x.1.toNat)
def tOf:Option (List Int × List Int)->List Int
 | some x=>x.1
 | none=>[]
def bOf (n:Nat):Option (List Int × List Int)->Int
 | some x=>(n:Int)-x.2.length
 | none=>-1
theorem Ib (p:Option Addr) (c n:Nat) (w:World) :
  Calls prog 52 #[.S p n c,.I (-1)] w fun e w'=>e=.returned (.tuple #[.S none 0 0,.I (-1)])/\w'=w:=by
 go_enter func52,ntmps52;go_wp2_with fail;refine (Cr p c n _).mono ?_;rintro e w' ⟨rfl,rfl⟩;go_wp2
 go_ret2
 exact ⟨rfl,rfl⟩
theorem Kz (p:Option Addr) (c n a:Nat) (l:List Int) (en:Hid (l.length=n)) (w:World) (h:Rd w (.S p n c) l) (hb:bM l) (hl:n<=1048576) (Q6:n<=c) (ha:a<=n) (r:Option (List Int × List Int)) (er:Hid (rt (l.drop a)=r)) (N:Nat) (eN:Hid ((tOf r).length=N)) :
  Calls prog 52 #[.S p n c,.I a] w fun e w'=>∃ p' c',e=.returned (.tuple #[.S p' N c',.I (bOf n r)])/\Own w.heap.size w' (.S p' N c') (tOf r)/\Bw w w':=by
 obtain ⟨x,ex⟩:=aH (rv (l.drop a));have Ob:=aa er;rw [rt,ex] at Ob;go_enter func52,ntmps52;go_wp2_with fail;refine (DV p c n a l en _ h hb hl ha x ex).mono ?_;rintro e w' ⟨rfl,rfl⟩;cases x with
 | none=>
  subst Ob;have I9:N=0:=by rw [<-aa eN];rfl
  subst I9;dsimp only [vOf,aOf];go_wp2
  go_ret2
  exact ⟨none,0,rfl,World.ownsRow_nil _ _ _ _,Below.refl _ _⟩
 | some x=>
  obtain ⟨v,t⟩:=x;have nM:=uz 10 0 0 _ v t ex;rw [List.length_drop,aa en] at nM;obtain ⟨v0,v1,htl,ac2⟩:=nM;obtain ⟨T,eT⟩:=aH t.length;dsimp only at Ob;rw [eT] at Ob htl ac2;obtain ⟨A,eA⟩:=aH (n-T);have hte:t=l.drop A:=by
   rw [ac2,List.drop_drop]
   congr 1
   omega
  have ea:aOf n (some (v,t))=(A:Int):=by show (n:Int)-(t.length:Nat)=_;rw [eT];omega
  have ev:vOf (some (v,t))=v:=rfl;rw [ea,ev];have MW:¬ (A:Int)<0:=ab;have hAn:(n:Int)-(A:Int)=(T:Int):=ab;have wT:IntKind.u64.wrap (T:Int)=(T:Int):=by rw [IntKind.wrap_u64];omega
  by_cases hv:(T:Int)<v;{
 rw [if_pos hv] at Ob;subst Ob;have I9:N=0:=by rw [<-aa eN];rfl
 subst I9;clear er ea ev ex ac2 hte;go_wp2
 go_ret2
 exact ⟨none,0,rfl,World.ownsRow_nil _ _ _ _,Below.refl _ _⟩};{
 rw [if_neg hv] at Ob;obtain ⟨V,rfl⟩:∃ V:Nat,v=(V:Int):=⟨v.toNat,ab⟩;have eV:((V:Int)).toNat=V:=ab;rw [eV] at Ob;have Pg:N=V:=by rw [<-aa eN,<-Ob];show (t.take V).length=V;rw [List.length_take,eT];omega
 subst Pg;have Pc:bOf n r=((A+N:Nat):Int):=by rw [<-Ob];show (n:Int)-((t.drop N).length:Nat)=_;rw [List.length_drop,eT];omega
 have htk:tOf r=(l.take (A+N)).drop A:=by rw [<-Ob];show t.take N=_;rw [hte,List.drop_take,Nat.add_sub_cancel_left]
 obtain ⟨b,o,rfl,-,-⟩:=h.at (by rw [aa en];omega);have hcut:∀ (q:Option Addr) (d:Nat),(A+N=A\/q=some ⟨b,o+A,none⟩)->Rd w' (.S q N d) (tOf r):=fun q d hq=>by have:=h.cut A (A+N) ab (by rw [aa en];omega) q hq d (tOf r) htk;rwa [Nat.add_sub_cancel_left] at this
 obtain ⟨E,eE⟩:=aH (A+N);rw [eE] at hcut;have wN:=ji N;have hAE:(A:Int)+(N:Int)=(E:Int):=ab;have Rw:=vj A E;have hE2:=vj E c;have hE4:E-A=N:=ab;have hvv:¬ (T:Int)<(N:Int):=hv;have HC:=ae hcut;have HS:=ae (ag Pc (ag htk (ag eE (ag eT eA))));clear er Ob ea ev ex ac2 hte hcut Pc htk eE eT eA hv eV h hb;by_cases Rm:c=A;{
 have hEA:A=E:=ab;have I9:N=0:=ab;subst Rm;subst hEA;subst I9;go_wp2_with fail;refine (fT _ _ 0 (tOf r) eN _ (aa HC _ _ (.inl (by first | rfl | trivial))) ab).mono ?_;rintro e w2 ⟨p2,c2,rfl,o2,b2⟩;go_wp2
 go_ret2
 exact ⟨p2,c2,by rw [HS.1,HS.2.2.1];rfl,o2,b2⟩};{
 have bq1:¬ (c:Int)=(A:Int):=ab;have cx2:c≠A:=Rm;have wE:=ji E;have hNb:N<=2097152:=ab;have HE4:=ae hE4;clear htl Rm hE4 bq1 v0 v1;go_wp2_with fail;rw [aa HE4];refine (fT _ _ N (tOf r) eN _ (aa HC _ _ (.inr rfl)) ab).mono ?_;rintro e w2 ⟨p2,c2,rfl,o2,b2⟩;go_wp2
 go_ret2
 exact ⟨p2,c2,by rw [HS.1,HS.2.2.1];rfl,o2,b2⟩}}
end Go.Proofs.YtcfcafeciggjeaaGreatDoor
