import Derived.Test.YtpkakgkipopiaaaGreatDoorK3
import Derived.RangeFuncNested
import Derived.RangeFuncBound
import Derived.RangeFuncCalls
import Derived.RangeFuncLeaves
import Derived.Shelf.Abstract
import Derived.Shelf.RegionOpen
import Derived.OwnWalkIn
import Derived.TacticsInMore
import Derived.LoopNIn
import Derived.LoopIn
import Derived.Lib.SlBytesConst
import Derived.OrdersHeld
import Derived.Maps.AppendAt
import Derived.Scope
import Derived.WalkMore
import Derived.LaidEql
import Derived.Stop.Asserts
import Derived.RowKitTokens
import Derived.Test.YtpkakgkipopiaaaGreatDoorRows
import Derived.ShutString
import Derived.ChangeOld
import Derived.HandedShaped
import Derived.Shelf.Vars
import Derived.LaidMore
import Derived.Lay
import Derived.Stop.Joined
import Derived.OpenVars
open Array renaming setIfInBounds->jI,size->U
open Bool renaming false->dF,true->dY
open Decidable renaming decide->dD
open Go renaming undef->jQ,Calls->dQ,Value->dV,World->G
open Go.Ending renaming returned->dR
open Go.IntKind renaming u64->jU,i64->jV,wrap->jY
open Go.Obj renaming cells->dO
open Go.Proofs.Tryz renaming prog->dG
open Go.Region renaming wanted->jW
open Go.RowKit renaming Hid->O
open Go.Value renaming ownBlock->jB,slice->jC,string->jJ,int->jK,bool->jO,agg->jP,I->dI,T->dK,pointer->dP,S->dS,tuple->dT,U->dU
open Go.World renaming alloc->jA,frozen?->jF,grownBy->jG,heap->Q,setCell->jS,cell?->I
open Int renaming toNat->jN
open List renaming drop->jD,getD->jE,range->jR,take->jT,length->J
open Option renaming none->dN,some->Y
namespace Go.Proofs.YtpkakgkipopiaaaGreatDoor
set_option maxHeartbeats 4000000
set_option linter.all false
set_option maxRecDepth 100000
open Go.ChangeShapes Go.WideShapes Go.ChangeAt Go.RowKit Go.Proofs.Tryz
def LF(h b:Int):Int:=((jN h ^^^ jN b:Nat):Int)*16777619 % 4294967296
def aA3(h:Int)(l:LI):Int:=l.foldl LF h
def ck(l:LI):Int:=aA3 2166136261 l
theorem ew9{h b:Int}:0<=LF h b/\LF h b<2^32:=by unfold LF;omega
variable {l l0 l1 l2:LI}{k j c n len cap b o g B B' f m d W0s n0 c0 n1 c1 n2 c2 base fuel:Nat}{z s s0 s1 s2:Int}{p a q p9 p0 p1 p2:OA}{w w' wr:G}{v0 v1 v2 v3 v u:dV}{vs cs:List dV}{P:Program}{K:Act->G->Prop}{md:Region.Mode}{ops:iQ}{E:Prop}{x x1 x2:Operand}{R:Ending->G->Prop}{sX:Array TypeId}{rest:List Oper}{row:Option Nat}{S:iP}{C:Checked}{os:Os}{fn:Func}{conds:List PathCond}{X:G->Array dV->Prop}{t:TypeId}{spare:Nat->Bool}{held:Bool}
theorem cE6(h:k<J l):ck (jT (k+1) l)=LF (ck (jT k l)) l[k]:=by
 unfold ck aA3;rw[ao3 h,Un];rfl
theorem aA2(l:LI):0<=ck l/\ck l<2^32:=by
 obtain rfl|⟨m,x,rfl⟩:=l.eq_nil_or_concat;{unfold ck aA3;simp};{unfold ck aA3;rw[List.concat_eq_append,Un];exact ew9}
theorem cV7{h b:Nat}(i:h<2^32)(j:b<256):h ^^^ b<2^32:=
 XE (n:=32) i ae
theorem bH8(k:IntKind)(u:j<=k.bits)(s:∀n:Int,0<=n->n<2 ^ j->k.wrap n=n)(a b:Nat)(q:a<2 ^ j)(o:b<2 ^ j):bits .xor k a b=((a ^^^ b:Nat):Int):=by
 have m:2 ^ j<=2 ^ k.bits:=aT2 aX u;have r:a % 2 ^ k.bits=a:=Nat.mod_eq_of_lt (mj q m);have x:b % 2 ^ k.bits=b:=Nat.mod_eq_of_lt (mj o m);have i:∀n:Nat,n<2 ^ j->((n:Nat):Int)<2 ^ j:=λn h=>by exact_mod_cast h
 simp only[bits,BitVec.ofInt_natCast,BitVec.toNat_xor,BitVec.toNat_ofNat,r,x];exact s _ (Int.natCast_nonneg _) (i _ (XE q o))
theorem ew7{a:Int}(c0:0<=a)(o:a<2^32)(z0:0<=z)(i:z<256):(jY jU (bits .xor jU a z*16777619)).tmod 4294967296=LF a z:=by
 obtain⟨m,rfl⟩:=ID c0;obtain⟨n,rfl⟩:=ID z0;have j:=cV7 (h:=m) (b:=n) ae ae;rw[bH8 jU aX wraps_u64 m n ae ae];unfold LF;simp only[Int.ofNat_eq_natCast,sC];generalize m ^^^ n=y at*;rw[u64_wrap_id _ ae ae,Int.tmod_eq_emod_of_nonneg ae]
theorem ew8{a:Int}(c0:0<=a)(j:a<2^32)(z0:0<=z)(i:z<256):IntKind.u32.wrap (bits .xor .u32 a z*16777619)=LF a z:=by
 obtain⟨m,rfl⟩:=ID c0;obtain⟨n,rfl⟩:=ID z0;rw[bH8 .u32 aX wraps_u32 m n ae ae,IntKind.wrap_u32];unfold LF;simp only[Int.ofNat_eq_natCast,sC]
theorem de8(h:Rd w (.S p (J l) c) l)(q:aA l)(hl:J l<=2^22):dQ dG 129 #[.S p (J l) c] w (Rb (jK .u32 (ck l)) w):=by
 obtain⟨D,M,ev,h⟩:=h;obtain⟨rfl,-,rfl⟩:=mg ev;go_in;go_wp2
 go_loopw[3,4](λs i wr=>∃k:Nat,k<=J l/\i=.I k/\s=.U (ck (jT k l))/\Bw w wr) (λ_ i _=>J l-(jN (intOf i)))
 exact⟨0,cT _,rfl,rfl,aR _ _⟩;{obtain⟨k,E,rfl,rfl,m⟩:=hrel;let⟨x,u⟩:=aA2 (jT k l);by_cases j:k<J l;{obtain rfl|⟨b,o,rfl,hc⟩:=h;{simp at j};{have B:I wr (Ad b (o+k))=Y (jK .u8 l[k]):=(m.cell (p:=(Ad b (o+k))) (nI w _ (hc k j))).Z (by rw[hc k j];simp[List.getD,j]);let⟨z0,r⟩:=q l[k] (Ao j);have y:=af (cE6 j);have N:=af j;clear hc q;generalize l[k]=z at*;generalize ck (jT k l)=a at*;go_wp2;go_roundw;exact⟨k+1,ae,by go_num,by rw[aa y,ew7 x u z0 r],m⟩;exact dh}};{obtain rfl:k=J l:=ae;rw[Kg]at*;go_wp2;go_ret;exact⟨rfl,m⟩}}
theorem dJ5(h:Rd w (.S p (J l) c) l)(q:aA l)(hl:J l<=2^22):dQ dG 207 #[.S p (J l) c] w (Rb (jK .u32 (ck l)) w):=by
 obtain⟨D,M,ev,h⟩:=h;obtain⟨rfl,-,rfl⟩:=mg ev;go_in;go_wp2
 go_loopw[3,8](λs i wr=>∃k:Nat,k<=J l/\i=.I k/\s=jK .u32 (ck (jT k l))/\Bw w wr) (λ_ i _=>J l-(jN (intOf i)))
 exact⟨0,cT _,rfl,rfl,aR _ _⟩;{obtain⟨k,E,rfl,rfl,m⟩:=hrel;let⟨x,u⟩:=aA2 (jT k l);by_cases j:k<J l;{obtain rfl|⟨b,o,rfl,hc⟩:=h;{simp at j};{have B:I wr (Ad b (o+k))=Y (jK .u8 l[k]):=(m.cell (p:=(Ad b (o+k))) (nI w _ (hc k j))).Z (by rw[hc k j];simp[List.getD,j]);let⟨z0,r⟩:=q l[k] (Ao j);have y:=af (cE6 j);have N:=af j;clear hc q;generalize l[k]=z at*;generalize ck (jT k l)=a at*;go_wp2;go_roundw;exact⟨k+1,ae,by go_num,by rw[aa y,<-ew8 x u z0 r,IntKind.wrap_u32],m⟩;exact dh}};{obtain rfl:k=J l:=ae;rw[Kg]at*;go_wp2;go_ret;exact⟨rfl,m⟩}}
def le(v:Int):Nat->LI
 |0=>[]
 |n+1=>v % 256::le (v / 256) n
theorem qW(v:Int)(n:Nat):J (le v n)=n:=by induction n generalizing v with|zero=>rfl|succ n ih=>simp[le,ih]
theorem XV(v:Int)(n:Nat):aA (le v n):=by
 induction n generalizing v with
 |zero=>intro z i;simp[le]at i
 |succ n ih=>
  intro z i;simp only[le,gv]at i;obtain rfl|i:=i;{omega};{exact ih _ z i}
theorem dC3(v:Int)(n:Nat):le v (n+1)=le v n++[v / 256 ^ n % 256]:=by
 induction n generalizing v with
 |zero=>simp[le]
 |succ n ih=>
  rw[le,ih,le,Al];rw[ca3 ae,Xy,Int.mul_comm]
theorem aA.append{m:LI}(h:aA l)(k:aA m):aA (l++m):=λz i=>by
 obtain a|a:=jg.1 i;{exact h z a};{exact k z a}
theorem XQ(n:Nat)(v:Int)(w:G)(W:n<=8)(Z:0<=v)(X:v<2^64):dQ dG 72 #[.U v,.I n] w λe w'=>∃p c,e=dR (.S p n c)/\Own (U (Q w)) w' (.S p n c) (le v n)/\Bw w w':=by
 induction n generalizing v w with
 |zero=>
  go_in;go_wp2;go_ret;exact⟨dN,0,rfl,nK _ _ _ _,aR _ _⟩
 |succ n ih=>
  have aN:(((n+1:Nat):Int)==0)=dF:=XA.2 ae;go_in
  go_wp21
  refine(ih (v / 256) _ ae ae ae).h ?_;rintro e r⟨M,N,rfl,y,q⟩;have j:Bw w r:=ah (aH.alloc az _) q;have i:Ow w r (.T (U (Q w)) 1 1) [v % 256]:=Own.H (Own.one w (v % 256)) q;have u:=y.rd;have D:=j.size;clear y q;go_wp2_with(at_builtin;refine CD rfl rfl (.T (U (Q w)) 1 1) (lm:=le v (n+1)) cO M N n (by show _=_;exact qW _ _) rfl rfl i u (by rw[qW];simp;omega) D ?_);intro p' c' V ho E;have R:=Bp j E i az D;rw[qW]at ho⊢;clear j E i u;go_wp2;go_ret;exact⟨p',c',rfl,ho,R⟩
theorem XO{v:Int}(hn:n<=8)(h0:0<=v)(h1:v<2^64):dQ dG 156 #[.U v,.I n] w λe w'=>∃p c,e=dR (.S p n c)/\Own (U (Q w)) w' (.S p n c) (le v n)/\Bw w w':=by
 go_in;go_wp2
 go_loopw[0,5,7](λnn Z i wr=>∃(k:Nat)(p:OA)(c:Nat)(l:LI)(u:Int),k<=n/\i=.I k/\nn=.U u/\O (u=v / 256 ^ k)/\0<=u/\u<2^64/\O (l=le v k)/\J l=k/\Z=.S p k c/\Ow w wr (.S p k c) l/\Bw w wr) (λ_ _ i _=>n-(jN (intOf i)))
 exact⟨0,dN,0,[],v,cT _,rfl,rfl,by show _=_;simp,h0,h1,rfl,rfl,rfl,nK _ _ _ _,aR _ _⟩;{
 obtain⟨k,p,c,l,u,V,rfl,rfl,m,u0,u1,q,hl,rfl,ho,j⟩:=hrel;by_cases aL:k<n;{
 let⟨lm,r⟩:=aF (l++[u % 256]);have N:J lm=k+1:=by simp[r,hl]
 have E:=af N;have Vr:O (lm=le v (k+1)):=by show _=_;rw[r,aa q,aa m,dC3]
 have D:O (u / 256=v / 256 ^ (k+1)):=by show _=_;rw[aa m,ca3 (Int.pow_nonneg ae),Xy]
 have lK:=af r;clear N q r m;go_wp2_with(at_builtin;refine OQ rfl rfl (.S p k c) lK (U (Q wr)) rfl rfl (Own.H ho (aH.alloc az _)) ai ae (by have:=j.size;simp;omega) ?_);intro p' c' M R X;have b2:Bw w M:=(j.alloc j.size (dO #[jK .u8 (u % 256)] 5)).grown X (by have:=j.size;simp;omega) (λk V=>(ho.lt k V).1);simp only[aa E];have Qq:Ow w M (.S p' (k+1) c') lm:=by have W:=R;simp only[aa E]at W;exact W
 clear R X ho j hl lK;go_wp2;go_roundw;exact⟨k+1,p',c',lm,u / 256,ae,by go_num,by first|rfl|go_num,D,ae,ae,Vr,E,rfl,Qq,b2⟩;exact dh};{obtain rfl:k=n:=ae;rw[aa q]at ho;clear q hl m;go_wp2;go_ret;exact⟨p,c,rfl,ho,j⟩}}
theorem ey1(a b c:LI):cat [a,b,c]=a++b++c:=by simp[cat]
theorem ey0(a b c d:LI):cat [a,b,c,d]=a++b++c++d:=by simp[cat]
theorem gdR(i:LI)(j:∀z∈i,0<=z/\z<256)(t:Nat):0<=jE i t 0/\jE i t 0<256:=by
 by_cases h:t<J i;{rw[List.getD,bN h];exact j _ (Ao h)};{rw[List.getD,List.getElem?_eq_none ae];simp}
theorem da1(p:OA)(c n k:Nat)(D:k<=100)(l:LI)(B:Le l n)(w:G)(h:Rd w (.S p n c) l)(u:aA l)(hl:Mg n):dQ dG 4 #[.S p n c,.I k] w λe w'=>∃y:Int,(0<=y/\y<256)/\e=dR (.I y)/\Bw w w':=by
 by_cases x:n=0;{subst x;go_in;go_wp2;go_ret;exact⟨0,⟨ae,ae⟩,rfl,aR _ _⟩};{obtain⟨b,o,rfl,e,hc⟩:=h.at (by rw[aa B];omega);obtain⟨i,M⟩:∃i:Nat,(k:Int) % (n:Int)=(i:Int):=⟨k % n,ai⟩;have E:i<n:=aM (Int.emod_lt_of_pos (k:Int) (show(0:Int)<n by omega));have r:=hc i ae;have j:=gdR l u i;let⟨y,m⟩:=aZ (jE l i 0);rw[m]at r j;have N:((n:Int)==0)=dF:=XA.2 ae;have s:=bR i n;clear hc m h e;go_in;go_wp2;go_ret;exact⟨y,j,rfl,by first|exact aR _ _|exact below_drewN aH⟩}
def num:LI->Int
 |[]=>0
 |b::l=>b+256*num l
theorem bW9(h:aA l):0<=num l/\num l<256 ^ J l:=by
 induction l with
 |nil=>simp[num]
 |cons b l ih=>
  let⟨m,j⟩:=ih (λz i=>h z (by simp[i]));let⟨r,q⟩:=h b ai;simp only[num,ni,Xy];omega
theorem FL(h:aA l)(hl:J l<=8):0<=num l/\num l<2^64:=by
 let⟨a,b⟩:=bW9 h;refine⟨a,Int.lt_of_lt_of_le b ?_⟩;have i:((256 ^ J l:Nat):Int)<=2^64:=by have j:=aT2 (n:=256) ae hl;have e:256 ^ 8=2^64:=rfl;omega
 rw[Int.natCast_pow]at i;exact i
theorem aQ4(v:Int)(n:Nat)(o:0<=v):num (le v n)=v % 256 ^ n:=by
 induction n generalizing v with
 |zero=>simp[le,num,Int.emod_one]
 | succ n ih=>
  rw[le,num,ih _ ae,Xy];have i:(0:Int)<256 ^ n:=Int.pow_pos ae;generalize(256:Int) ^ n=P at*;have r:=Int.emod_add_mul_ediv v 256;have q:=Int.emod_add_mul_ediv (v / 256) P;have m:=Int.emod_nonneg (v / 256) (by omega:P≠0);have j:=Int.emod_lt_of_pos (v / 256) i;have ev:v=(v % 256+256*((v / 256) % P))+(P*256)*(v / 256 / P):=by
   have:(P*256)*(v / 256 / P)=256*(P*(v / 256 / P)):=by rw[Int.mul_comm P 256,Int.mul_assoc]
   rw[this];omega
  conv=>rhs;rw[ev]
  rw[Int.add_mul_emod_self_left,aR9 (a:=v % 256+256*(v / 256 % P)) ae ae]
theorem bI4{k:Int}(z0:0<=z)(i:z<256)(j:0<=k)(h:z+256*k<2^64):jY jU (jY jU z+jY jU (256*k))=z+256*k:=by
 rw[u64_wrap_id z z0 ae,u64_wrap_id (256*k) ae ae,u64_wrap_id _ ae h]
theorem aY2(l:LI)(p:OA)(c n:Nat)(en:Le l n)(w:G)(h:Rd w (.S p n c) l)(m:aA l)(hn:n<=8)(hc:n<=c)(hm:c<=maxLen):dQ dG 65 #[.S p n c] w (Rb (.U (num l)) w):=by
 induction l generalizing p c n w with
 |nil=>
  obtain rfl:=aa en;clear h;go_in;go_wp2;go_ret;exact⟨rfl,aR _ _⟩
 |cons z l ih=>
  have e:n=J l+1:=en.C;have HE:=af e;obtain⟨b,o,rfl,-,N⟩:=h.at ai;let⟨z0,W⟩:=m z ai;let⟨X,n1⟩:=FL (l:=l) (λz r=>m z (by simp[r])) ae;let⟨Z,E⟩:=FL (l:=z::l) m cg;have q:num (z::l)=z+256*num l:=rfl;have x:=N 0 ai;simp at x;have aN:((n:Int)==0)=dF:=XA.2 ae;have gL:=nT n c;have ju:=gr 1 n;have Gu:=rr 0 n;have AM:0<n:=ae;have xv:1<=n:=ae;by_cases h1:c=1;{
 have qz:n=1:=ae;subst h1 qz;have D:O (∀(i:G),Bw w i->Cp 65 #[.S (Ad b o) 0 0] i λe j=>e=dR (.U (num l))/\Bw i j):=by intro i R;refine ih _ 0 0 (by show _=_;omega) i ?_ (λz r=>m z (by simp[r])) ae ae ae;refine(h.H R).cut 1 1 ae ai _ (.L ae) _ l ?_;rw[Is (l:=l) ae];rfl
 have V:=af q;rw[q]at E;clear e ih h m N q Z;unfold maxLen at hm;go_in
 go_wp21
 go_region_held3 (λi=>I i (Ad b o)=Y (jK .u8 z)) (first|with_reducible exact x|with_reducible exact s|go_keep)
  (first|(go_at_call 65;refine cK (aa D _ (by first|exact aR _ _|exact aH.drew)) λM B=>?_;have y:Bw w M:=(by first|exact B|exact ah (aR (U (Q w)) w).drew B);have s:=aj x y))
 clear D s;go_wp2;go_ret;exact⟨by rw[aa V,<-bI4 z0 W X E];rfl,y⟩};{
 have hcn:(c==1)=dF:=by simp[h1]
 have D:O (∀(i:G),Bw w i->Cp 65 #[.S (Ad b (o+1)) (n-1) (c-1)] i λe j=>e=dR (.U (num l))/\Bw i j):=by intro i R;refine ih _ (c-1) (n-1) (by show _=_;omega) i ?_ (λz r=>m z (by simp[r])) ae ae ae;refine(h.H R).cut 1 n ae cg _ (.R rfl) _ l ?_;rw[e];simp
 have V:=af q;rw[q]at E;clear e ih h m N q Z;unfold maxLen at hm;go_in
 go_wp21
 go_region_held3 (λi=>I i (Ad b o)=Y (jK .u8 z)) (first|with_reducible exact x|with_reducible exact s|go_keep)
  (first|(go_at_call 65;refine cK (aa D _ (by first|exact aR _ _|exact aH.drew)) λM B=>?_;have y:Bw w M:=(by first|exact B|exact ah (aR (U (Q w)) w).drew B);have s:=aj x y))
 clear D s;go_wp2;go_ret;exact⟨by rw[aa V,<-bI4 z0 W X E];rfl,y⟩}
open Go.Shelf
attribute [local go_sem] Oper.semAt_some
abbrev IB:={z:Int×Int // 0<=z.2/\z.2<256}
def upto{α:Type}(f:Nat->α)(k:Nat):List α:=(jR k).map f
theorem bJ9{α:Type}(f:Nat->α)(k:Nat):upto f (k+1)=upto f k++[f k]:=by simp[upto,aV1]
theorem cZ3{α:Type}(f:Nat->α)(k:Nat):J (upto f k)=k:=by simp[upto]
theorem aA.get(h:aA l)(i:Nat):0<=l[i]?.getD 0/\l[i]?.getD 0<256:=by
 by_cases j:i<J l;{simp[j];exact h _ (Ao j)};{simp[j]}
def sk(n Bs:Nat)(A B:G):Prop:=Below n A B/\I B (Ad Bs 0)=I A (Ad Bs 0)
theorem sk.Z{n Bs:Nat}{A B C:G}(h:sk n Bs A B)(k:sk n Bs B C):sk n Bs A C:=⟨h.1.Z k.1,k.2.Z h.2⟩
theorem sk.refl(n Bs:Nat)(A:G):sk n Bs A A:=⟨aR _ _,rfl⟩
theorem sk.put{n Bs:Nat}(j:n<=U (Q w))(r:Bs<U (Q w))(W:G)(l:Nat)(o i:Obj)(hl:U (Q w)<=l)(h:W.heap[l]?=o)(q:o.isCells=dF)(m:o.isWalk=dF):sk n Bs W (W.putObj l i):=
 ⟨belowK_b j W l o i hl h q m,Iz (a:=(Ad Bs 0)) (World.putObj_heap_other (by show Bs≠l;omega))⟩
def NR(l:LI)(h:aA l)(j:Nat):IB:=⟨((J l:Int)-1-j,l[J l-1-j]?.getD 0),h.get _⟩
set_option maxRecDepth 100000 in
theorem eB4(F:Fence)(h7:F.fn 215)(IL:F.round=dN)(hn:1<=n){L Bs R b o len cap:Nat}(u:aA l)(el:J l=len)(Z:len<=8)(hb:b<R)(s Jx:List IB->G->Prop)(hY:∀q x W,s q W->J q<len->YieldAt F (n-1) dG L #[.I x.1.1,jK .u8 x.1.2] W λe r=>
   (e=dR (jO dY)/\s (q++[x]) r/\sk R Bs W r)\/(e=dR (jO dF)/\Jx (q++[x]) r)){W:G}(Zv:I W (Ad Bs 0)=dS (Ad b o) len cap)(hc:∀j,j<len->I W (Ad b (o+j))=Y (jK .u8 (l[j]?.getD 0)))(h0:s [] W):CallsIn F n dG 215 #[.func (.yield L) #[] #[],Pz Bs] W λe r=>(∃v,e=dR v)∧
   ((∃S,S=upto (NR l u) len/\s S r)\/(∃q,Jx q r)):=by
 refine xL func215 rfl h7 ?_ IL;simp only[ntmps215,Ff,Nat.reduceAdd,Nat.reduceSub];gi_wp2
 gi_loopw [3] (λi wr=>∃k:Nat,k<=len/\i=.I ((len:Int)-1-k)/\s (upto (NR l u) k) wr/\sk R Bs W wr) (λi _=>jN (intOf i+1))
 case atStart=>exact⟨0,cT _,ai,h0,sk.refl _ _ _⟩
 case round=>(
 obtain⟨k,hk,rfl,Zl,N⟩:=hrel;by_cases M:k<len;{
 obtain⟨m,E⟩:∃m:Nat,m=len-1-k:=⟨_,rfl⟩;have y:(len:Int)-1-k=(m:Int):=ae;have hm:m<len:=ae;let⟨z,D⟩:=aF (l[m]?.getD 0);have sL:I wr (Ad b (o+m))=Y (jK .u8 z):=(N.1.cell (p:=(Ad b (o+m))) hb).Z ((hc m hm).Z (by rw[D]));have hbx:I wr (Ad Bs 0)=dS (Ad b o) len cap:=N.2.Z Zv;let⟨fn,V,B,body,X,hR⟩:=hY _ (NR l u k) wr Zl (by rw[cZ3];exact M);have ex:(NR l u k).1=((m:Int),z):=by simp only[NR,el,y,E,D]
 rw[ex]at X;dsimp only at X;rw[y];have hmi:=bR m len;have EM:=af E;have E1:=af y;have HK:=af M;have HC:=af hc;clear E y ex M hc D;gi_wp2;refine hR.h ?_;rintro e W3(⟨rfl,EH,mc⟩|⟨rfl,La⟩);{
 gi_wp2;go_roundw;exact⟨k+1,HK,by have:=aa E1;congr 1;omega,by rw[bJ9];exact EH,N.Z mc⟩
 case measure=>simp[intOf]<;>omega}
 {gi_wp2;refine bO (xK rfl _ _ _) rfl ?_;exact⟨⟨_,rfl⟩,.R ⟨_,La⟩⟩}};{obtain rfl:k=len:=ae;gi_wp2;go_end0;exact⟨⟨_,rfl⟩,.L ⟨_,rfl,Zl⟩⟩})
theorem eB3(F:Fence)(i:F.fn 188)(j:F.round=dN):CallsIn F n dG 188 #[.S a len cap] w λe w'=>e=dR (.func (.func 215) #[] #[Pz (U (Q w))])/\w'=jA w (dO #[.S a len cap] 22):=by
 refine xL func188 rfl i ?_ j;simp only[ntmps188,Ff,Nat.reduceAdd,Nat.reduceSub];gi_wp2;go_ret;exact⟨rfl,rfl⟩
theorem eA9(F:Fence)(S:F.fn 215)(IL:F.round=dN)(E:1<=n){Bs q b o len cap:Nat}(u:aA l)(Z:J l=len)(i:len<=8)(M:b<q)(R:Bs<U (Q w))(X:q<=U (Q w))(Zv:I w (Ad Bs 0)=dS (Ad b o) len cap)(hc:∀j,j<len->I w (Ad b (o+j))=Y (jK .u8 (l[j]?.getD 0))):SeqStopsK F n dG 215 #[Pz Bs] (λx:IB=>#[.I x.1.1,jK .u8 x.1.2]) (sk q Bs) (λr=>r=upto (NR l u) len) (λ_=>True) len w:=λL B Jx W s _ _ N V=>by
 refine(eB4 F S IL E (o:=o) (cap:=cap) u Z i M B Jx N ((s.cell (p:=(Ad Bs 0)) (by show Bs<_;omega)).Z Zv) (λj m=>(s.cell (p:=(Ad b (o+j))) (by show b<_;omega)).Z (hc j m)) V).h ?_;rintro e W'⟨he,⟨r,D,m⟩|⟨y,m⟩⟩;{exact⟨he,.L ⟨_,D,m⟩⟩};{exact⟨he,.R ⟨_,gQ,m⟩⟩}
def acc(pre:List IB):Int:=pre.foldl (λa x=>a*256+x.1.2) 0
theorem bw7{pre:List IB}(x:IB):acc (pre++[x])=acc pre*256+x.1.2:=by simp[acc]
theorem eE5(k:Nat):∀i:List IB,J i=k->0<=acc i/\acc i<256 ^ k:=by
 induction k with
 |zero=>intro i h;rw[Is h];simp[acc]
 |succ k ih=>
  intro i h;obtain rfl|⟨m,x,rfl⟩:=i.eq_nil_or_concat;{simp at h};{rw[List.concat_eq_append]at h⊢;rw[bw7];let⟨o,j⟩:=ih m (by simpa using h);have:=x.2;rw[Xy];omega}
theorem eE3{pre:List IB}(h:J pre<8):0<=acc pre/\acc pre*256+256<=2^64:=by
 let⟨m,j⟩:=eE5 (J pre) pre rfl;refine⟨m,?_⟩;have i:((256 ^ J pre:Nat):Int)<=72057594037927936:=by have o:=aT2 (n:=256) ae (show J pre<=7 by omega);have e:256 ^ 7=72057594037927936:=rfl;omega
 rw[Int.natCast_pow]at i;have q:acc pre<72057594037927936:=Int.lt_of_lt_of_le j i;omega
theorem eE4(l:LI)(j:aA l)(k:Nat)(m:k<=J l):acc (upto (NR l j) k)=num (jD (J l-k) l):=by
 induction k with
 |zero=>simp[upto,acc,num]
 |succ k ih=>
  rw[bJ9,bw7,ih ae];have i:J l-1-k<J l:=ae;have e:jD (J l-(k+1)) l=l[J l-1-k]::jD (J l-k) l:=by rw[show J l-(k+1)=J l-1-k by omega,Mm i];congr 2;omega
  rw[e,num];simp[NR,i];omega
set_option maxRecDepth 100000 in
theorem dw5(F:Fence)(h3:F.fn 130)(h5:F.fn 188)(h6:F.fn 215)(N:F.round=dN)(hn:3<=n)(hB:aA l)(el:J l=len)(r:len<=8)(V:0<len) (hc:∀j,j<len->I w (Ad b (o+j))=Y (jK .u8 (l[j]?.getD 0))):CallsIn F n dG 130 #[.S (Ad b o) len cap] w λe W'=>e=dR (.U (num l))/\Bw w W':=by
 have h1:1<=n:=ae;refine callsIn_of_wp_marks func130 rfl h3 ?_ N;simp only[ntmps130,Ff,Nat.reduceAdd,Nat.reduceSub]
 gi_wp2_with(gi_at_call 188;refine(eB3 F h5 N).h ?_;rintro e w'⟨rfl,rfl⟩)
 let⟨M,m⟩:=aF (jA (jA w (dO #[.U 0] 24)) (dO #[.S (Ad b o) len cap] 22));have z0:U (Q M)=U (Q w)+2:=by rw[m];simp
 have k0:I M (Aw w 0)=dU 0:=by rw[m];simp
 have f0:jF M (Aw w 0)=dF:=by rw[m];simp
 have k1:I M (Ax w 0)=dS (Ad b o) len cap:=by rw[m];simp
 have EO:Bw w M:=by rw[m];exact(aH.alloc az _).alloc ai _
 have u:b<U (Q w):=nI w _ (hc 0 V);rw[<-m];clear m;refine wpIn_rangeFunc_ownF N h1 (gf:=215) (lb:=#[Pz (U (Q w)+1)]) rfl h6 (enters_of func215 aU rfl)
  (eA9 F (n:=n-1) h6 N ae hB el r u ae ae k1 (λj hj=>(EO.cell (p:=(Ad b (o+j))) u).Z (hc j hj))) (λh k=>h.Z k) (sk.put ae ae) aH (λ_=>rfl)
  (λi W=>(I W (Aw w 0)=dU (acc i)/\jF W (Aw w 0)=dF)/\Bw w W)
  (λ_ _ _=>False)
  (OwnFrom.and (Own.from (λs A B row q hg Z=>⟨cell_kept q.1 hg Z,(frozen_kept q.1 hg Z).Z q.2⟩) _) (ownFrom_below az ae))
  (λ_ _ _ _ _ q _ _=>q)
  ⟨⟨k0,f0⟩,EO⟩
  (λx=>{tmps:=#[.S (Ad b o) len cap,jQ,.U 0,Pz (U (Q w)),jQ,jK .u8 x.1.2,.S (Ad b o) len cap,.func (.func 215) #[] #[Pz (U (Q w)+1)],.I x.1.1,jK .u8 x.1.2,jQ,jQ,jQ,jQ,jQ,jQ],defers:=[]}) ?assign ?body ?done ?stop
 case assign=>(
 intro l x W K hK;gi_wp2;exact hK)
 case body=>(
 rintro L i x W⟨⟨X,hf⟩,R⟩kx;let⟨a0,a1⟩:=eE3 (pre:=i) ae;let⟨x0,x1⟩:=x.2;have HS:=af (bw7 (pre:=i) x);generalize acc i=a at*;generalize x.1.2=y at*;have E:bits .or jU (a*256) y=a*256+y:=by exact bits_join jU 64 aX wraps_u64 8 (a*256) y ae ae ae x0 ae ae
 have EJ:=af E;clear E;gi_wp2;refine⟨KeepsOthers.setCell _ _ _,⟨(aR (U (Q w)) W).setCell (p:=(Aw w 0)) az _,Xu _ _ _ _ ai⟩,⟨?_,by rw[Ej];exact hf⟩,R.setCell (p:=(Aw w 0)) az _⟩;rw[aa HS,<-aa EJ];exact Xt _ _ _ (by rw[X];rfl))
 case done=>(
 rintro D ys W hD rfl⟨⟨X,hf⟩,R⟩hK;gi_wp2;refine⟨ai,.L ⟨_,_,rfl,run_takeDeferred hK,?_⟩⟩;exact⟨_,results_tmp rfl _ _ _,by rw[<-el,eE4 l hB (J l) az];simp,R.Z (belowK_b (w:=w) az W D _ _ ae hK rfl rfl)⟩)
 case stop=>(
 rintro D c i W _ _ h _;exact h.elim)
theorem Xk(r:Le l n)(h:Rd w (.S p n c) l)(m:aA l)(i:n<=8)(q:0<n):Cp 130 #[.S p n c] w (Rb (.U (num l)) w):=by
 have e:=aa r;obtain⟨b,o,rfl,-,hc⟩:=h.at ae;refine IC.1 (dw5 Fence.wide (n:=3) gQ gQ gQ rfl ae (b:=b) (o:=o) (len:=n) (cap:=c) (l:=l) m e i q (w:=w) (λj s=>?_));rw[hc j ae];rfl
def sm(l:LI):LI:=l++le (ck l) 4
theorem ai4:J (sm l)=J l+4:=by simp[sm,qW]
theorem bP1(h:aA l):aA (sm l):=h.append (XV _ _)
theorem dr6(c0:I w (Ad g 0)=v0)(s:I w (Ad g 1)=v1)(c2:I w (Ad g 2)=v2)(r:Rd w v0 l0)(q:Rd w v1 l1)(o:Rd w v2 l2):wF w g [v0,v1,v2] [l0,l1,l2]:=by
 refine⟨rfl,λj v x m i=>?_⟩
 match j,m,i with
 |0,m,i=>simp at m i;subst m i;exact⟨c0,r⟩
 |1,m,i=>simp at m i;subst m i;exact⟨s,q⟩
 |2,m,i=>simp at m i;subst m i;exact⟨c2,o⟩
theorem dr5{o:LI}(c0:I w (Ad g 0)=v0)(B:I w (Ad g 1)=v1)(c2:I w (Ad g 2)=v2)(y:I w (Ad g 3)=v3)(u:Rd w v0 l0)(s:Rd w v1 l1)(r:Rd w v2 l2)(q:Rd w v3 o):wF w g [v0,v1,v2,v3] [l0,l1,l2,o]:=by
 refine⟨rfl,λj v x m i=>?_⟩
 match j,m,i with
 |0,m,i=>simp at m i;subst m i;exact⟨c0,u⟩
 |1,m,i=>simp at m i;subst m i;exact⟨B,s⟩
 |2,m,i=>simp at m i;subst m i;exact⟨c2,r⟩
 |3,m,i=>simp at m i;subst m i;exact⟨y,q⟩
theorem bJ1(X:Le l n)(h:Rd w (.S p n c) l)(W:aA l)(hl:n<=2^21):dQ dG 157 #[.S p n c] w λe w'=>∃q x,e=dR (.S q (n+4) x)/\Own (U (Q w)) w' (.S q (n+4) x) (sm l)/\Bw w w':=by
 obtain rfl:=aa X;let⟨V,k1⟩:=aA2 l;go_in
 go_wp21
 refine cK (dJ5 (p:=p) (c:=c) (l:=l) h W ae) λw1 y=>?_
 go_wp21
 refine(XO (n:=4) (v:=ck l) ae V ae).h ?_;rintro e M⟨N,Z,rfl,s,B⟩;have i:=ah y B;have m:=h.H i;have j:=s.rd;clear h y B s
 go_wp21
 refine(Ep (g:=U (Q M)) (vs:=[.S p (J l) c,.S N 4 Z]) [l,le (ck l) 4] (lm:=sm l) (n:=J l+4) 2 rfl (by show _=_;rw[bt3];rfl) (by show _=_;exact ai4 (l:=l)) (bV1 ai ai (m.H (aH.alloc az _)) (j.H (aH.alloc az _))) ae ae).h ?_;rintro e E⟨o,u,rfl,r,D⟩;have b3:=ah (i.alloc i.size _) D;have R:Ow w E (.S o (J l+4) u) (sm l):=Own.h r (by have:=i.size;simp;omega);clear m j i D r;go_wp2;go_ret;exact⟨o,u,rfl,R,b3⟩
theorem bL9(en:Le l n)(h:Rd w (.S p n c) l)(hb:aA l)(hl:n<=2^21):dQ dG 73 #[.S p n c] w λe w'=>∃p' c',e=dR (.S p' (n+4) c')/\Own (U (Q w)) w' (.S p' (n+4) c') (sm l)/\Bw w w':=by
 obtain rfl:=aa en;let⟨Z,k1⟩:=aA2 l;go_in
 go_wp21
 refine(aY4 h ae).h ?_;rintro e w1⟨X,c1,rfl,M,q⟩
 go_wp21
 refine cK (de8 (h.H q) hb ae) λw2 r=>?_;have V:=ah q r;have E:=Own.H M r;clear h q r M
 go_wp21
 refine(XQ 4 (ck l) _ ae Z ae).h ?_;rintro e w3⟨W,c3,rfl,D,u⟩;have j:=ah V u;have i:=Own.H E u;have y:=D.rd;have N:=j.size;clear V u E D;go_wp2_with(at_builtin;refine CD rfl rfl (.S X (J l) c1) (lm:=sm l) cO W c3 4 (by show _=_;exact qW _ _) rfl rfl i y (by rw[qW];omega) N ?_);intro p' c' w5 ho R;have b5:=Bp j R i az N;rw[ai4]at ho⊢;clear j R i y;go_wp2;go_ret;exact⟨p',c',rfl,ho,b5⟩
abbrev yy(s:Int)(v:dV):dV:=jP #[.U s,v]
def yz(s:Int)(l:LI):LI:=le (J l) 2++le s 8++l
def nH(s:Int)(l:LI):LI:=sm (yz s l)
def Aq:LI:=[76,72,83,49]
theorem Qa:J Aq=4:=rfl
def BK(s:Int)(l:LI):LI:=Aq++le s 8++le (J l) 4++l
def iM(s:Int)(l:LI):LI:=sm (BK s l)
theorem aj8(s:Int)(l:LI):J (yz s l)=J l+10:=by simp[yz,qW];omega
theorem D7(s:Int)(l:LI):J (nH s l)=J l+14:=by rw[nH,ai4,aj8]
theorem ah9(s:Int)(l:LI):J (BK s l)=J l+16:=by simp[BK,qW,Qa];omega
theorem Ie(s:Int)(l:LI):J (iM s l)=J l+20:=by rw[iM,ai4,ah9]
theorem aN8(h:aA l):aA (yz s l):=((XV _ _).append (XV _ _)).append h
theorem aO0(h:aA l):aA (nH s l):=bP1 (aN8 h)
theorem aL5(h:aA l):aA (BK s l):=by
 refine aA.append (aA.append (aA.append ?_ (XV _ _)) (XV _ _)) h;intro z i;simp[Aq]at i;omega
theorem ai0(h:aA l):aA (iM s l):=bP1 (aL5 h)
theorem aA4(w:G)(C:iA)(e:TypeId)(fr:Nat×Nat)(i:Nat):I (jA w (dO C e fr)) (Aw w i)=C[i]?:=by
 have h:(jA w (dO C e fr)).heap[U (Q w)]?=dO C e fr:=by show(w.heap.push (dO C e fr))[U (Q w)]?=_;simp
 unfold World.cell?;rw[h];rfl
theorem cg2(m:Le l n)(h:Rd w (.S p n c) l)(hb:aA l)(hl:n<=2000000)(s0:0<=s)(s1:s<2^64):dQ dG 94 #[.U s,.S p n c] w λe w'=>∃u B,e=dR (.S u (n+20) B)/\Own (U (Q w)) w' (.S u (n+20) B) (iM s l)/\Bw w w':=by
 go_in
 go_wp21
 refine(XO (n:=4) (v:=n) ae ae ae).h ?_;rintro e j⟨p1,c1,rfl,o1,ao⟩;have hcv:=Lib.run_convert_bytes_const (P:=dG) j 22 5 #[jK .u8 76,jK .u8 72,jK .u8 83,jK .u8 49] 4 4 underlying22 underlying5;simp only[show(#[Value.int .u8 76,jK .u8 72,jK .u8 83,jK .u8 49]:iA).size=4 from rfl]at hcv;have r0:Rd (jA j (dO #[jK .u8 76,jK .u8 72,jK .u8 83,jK .u8 49] 5 (4,5))) (.T (U (Q j)) 4 4) Aq:=by
  refine⟨_,_,rfl,.R ⟨U (Q j),0,rfl,λi x=>?_⟩⟩;rw[Qa]at x
  match i,x with
  |0,_=>(rw[l9,aA4];rfl)
  |1,_=>(rw[l9,aA4];rfl)
  |2,_=>(rw[l9,aA4];rfl)
  |3,_=>(rw[l9,aA4];rfl)
 have HR:=af r0;have D:Bw j (jA j (dO #[jK .u8 76,jK .u8 72,jK .u8 83,jK .u8 49] 5 (4,5))):=aH.alloc az _;have b0:=ah ao D
 go_wp21
 refine(XO (n:=8) (v:=s) ae s0 s1).h ?_;rintro e N⟨p2,c2,rfl,o2,q⟩;have o:=ah b0 q;have R:=HR.H q;have V:=h.H o;have Z:=(o1.rd.H D).H q;have X:=o2.rd;have HB:=af hb;have yT:=aa m
 go_wp21
 refine(Ep (g:=U (Q N)) (vs:=[.T (U (Q j)) 4 4,.S p2 8 c2,.S p1 4 c1,.S p n c]) [Aq,le s 8,le n 4,l] (lm:=BK s l) (n:=n+16) 4 rfl (by show _=_;rw[ey0,BK,aa m]) (by show _=_;rw[ah9,aa m]) (dr5 ai ai ai ai (R.H (aH.alloc az _)) (X.H (aH.alloc az _)) (Z.H (aH.alloc az _)) (V.H (aH.alloc az _))) ae ae).h ?_;rintro e w3⟨p3,c3,rfl,o3,aE⟩;have E:=ah (o.alloc o.size _) aE;have W:=o3.rd
 go_wp21
 refine(bJ1 (p:=p3) (c:=c3) (n:=n+16) (l:=BK s l) (by show _=_;rw[ah9,aa m]) W (aL5 HB) ae).h ?_;rintro e M⟨r,y,rfl,o4,cG⟩;have b4:=ah E cG;have o5:Ow w M (.S r (n+20) y) (iM s l):=Own.h o4 E.size;go_wp2;go_ret;exact⟨r,y,rfl,o5,b4⟩
theorem bN5(q:Le l n)(h:Rd w (.S p n c) l)(hb:aA l)(hl:n<=2000000)(s0:0<=s)(s1:s<2^64):dQ dG 37 #[.U s,.S p n c] w λe w'=>∃p' c',e=dR (.S p' (n+20) c')/\Own (U (Q w)) w' (.S p' (n+20) c') (iM s l)/\Bw w w':=by
 have yT:=aa q;have HH:=af h;have r0:Ow w (jA w (dO #[jK .u8 76,jK .u8 72,jK .u8 83,jK .u8 49] 5)) (.T (U (Q w)) 4 4) Aq:=
  aS7 w #[jK .u8 76,jK .u8 72,jK .u8 83,jK .u8 49] 4 az kL rfl
 have HR:=af r0;go_in
 go_wp21
 refine(XQ 8 s _ ae s0 s1).h ?_;rintro e w1⟨p1,c1,rfl,o1,ao⟩;have b1:Bw w w1:=ah (aH.alloc az _) ao;have N:=Own.H HR ao;have r1:=o1.rd;have E:=b1.size;have ZH:J (Aq++le s 8)=12:=by simp[qW,Qa]
 go_wp2_with(at_builtin;refine CD rfl rfl (B:=U (Q w)) (.T (U (Q w)) 4 4) (l:=Aq) (m:=le s 8) (lm:=Aq++le s 8) cO p1 c1 8 (by show _=_;exact qW _ _) rfl rfl N r1 (by rw[qW,Qa];omega) E ?_);intro p2 c2 w2 W dz;have b2:=Bp b1 dz N az E;have z2:=b2.size
 try rw[ZH]at W⊢
 go_wp21
 refine(XQ 4 n _ ae ae ae).h ?_;rintro e w3⟨p3,c3,rfl,o3,aE⟩;have b3:=ah b2 aE;have M:=Own.H W aE;have r3:=o3.rd;have D:=b3.size;have j:J (Aq++le s 8++le n 4)=16:=by simp[qW,Qa]
 go_wp2_with(at_builtin;refine CD rfl rfl (B:=U (Q w)) (.S p2 12 c2) (l:=Aq++le s 8) (m:=le n 4) (lm:=Aq++le s 8++le n 4) cO p3 c3 4 (by show _=_;exact qW _ _) rfl rfl M r3 (by rw[qW,ZH];omega) D ?_);intro p4 c4 w4 r mG;have u:=Bp b3 mG M az D;have y:=u.size;have r4:Rd w4 (.S p n c) l:=HH.H u;have i:J (BK s l)=n+16:=by rw[ah9,aa q]
 try rw[j]at r⊢
 go_wp2_with(at_builtin;refine CD rfl rfl (B:=U (Q w)) (.S p4 16 c4) (l:=Aq++le s 8++le n 4) (m:=l) (lm:=BK s l) (by show _=_;rw[BK,aa q]) p c n q rfl rfl r r4 (by rw[j];omega) y ?_);intro p5 c5 w5 V nj;have Z:=Bp u nj r az y;have HB:=af hb
 try rw[i]at V⊢
 go_wp21
 refine(bL9 (p:=p5) (c:=c5) (n:=n+16) (l:=BK s l) (by show _=_;exact i) V.rd (aL5 HB) ae).h ?_;rintro e w6⟨R,X,rfl,o6,gj⟩;have b6:=ah Z gj;have o7:Ow w w6 (.S R (n+20) X) (iM s l):=Own.h o6 Z.size;go_wp2;go_ret;exact⟨R,X,rfl,o7,b6⟩
def sub(l:LI)(i j:Nat):LI:=jD i (jT j l)
theorem zQ{i:Nat}(m:j<=J l):J (sub l i j)=j-i:=by simp[sub];omega
theorem aA.sub(h:aA l)(i j:Nat):aA (sub l i j):=λz m=>h z (PT (PX m))
theorem bV3(c0:I w (Ad g 0)=v0)(o:Rd w v0 l0):wF w g [v0] [l0]:=by
 refine⟨rfl,λj v x m i=>?_⟩
 match j,m,i with
 |0,m,i=>simp at m i;subst m i;exact⟨c0,o⟩
def aG5(w:G)(S:Int)(R:LI)(N:Nat)(code:Int)(e:Ending)(w':G):Prop:=
 ∃p c,e=dR (dT #[.U S,.S p N c,.I code])/\Own (U (Q w)) w' (.S p N c) R/\Bw w w'
def OJ(w:G)(l:LI)(n:Nat)(e:Ending)(w':G):Prop:=
 if iM (num (sub l 4 12)) (sub l 16 (n-4))=l then aG5 w (num (sub l 4 12)) (sub l 16 (n-4)) (n-20) 0 e w' else aG5 w 0 [] 0 13 e w'
theorem dJ2(j:n<20):dQ dG 77 #[.S p n c] w (aG5 w 0 [] 0 13):=by
 have i:(n:Int)<20:=ae;go_in;go_wp2;refine bO (v:=dT #[.U 0,aq,.I 13]) (by simp[results,results77,go_sem]) rfl ⟨dN,0,rfl,nK _ _ _ _,aR _ _⟩
theorem de5(j:n<20):dQ dG 30 #[.S p n c] w (aG5 w 0 [] 0 13):=by
 have i:(n:Int)<20:=ae;go_in;go_wp2;refine bO (v:=dT #[.U 0,aq,.I 13]) (by simp[results,results30,go_sem]) rfl ⟨dN,0,rfl,nK _ _ _ _,aR _ _⟩
theorem dJ4(W:Le l n)(h:Rd w (.S (Ad b o) n c) l)(y:aA l)(hn:20<=n)(hm:Mg n)(hc:n<=c)(oY:c<=maxLen):dQ dG 77 #[.S (Ad b o) n c] w (OJ w l n):=by
 have tX:¬(n:Int)<20:=ae;obtain⟨k,ek⟩:∃k:Nat,(n:Int)-4=(k:Int):=⟨n-4,ae⟩;have g1:=nT n c;have g2:=gr 12 c;have g3:=nT k c;have g4:=gr 16 k;have g5:c≠4:=ae;have g6:c≠16:=ae;have yT:=aa W;have N:n=k+4:=ae;have Pb:J (sub l 4 12)=8:=zQ ae;have Pa:J (sub l 16 k)=k-16:=zQ ae;have V:∀(d:Nat)(i:G),Bw w i->Rd i (.S (Ad b (o+4)) 8 d) (sub l 4 12):=λd i D=>(h.H D).cut 4 12 ae ae _ (.R rfl) d _ rfl;have R:∀(d:Nat)(i:G),Bw w i->Rd i (.S (Ad b (o+16)) (k-16) d) (sub l 16 k):=λd i D=>(h.H D).cut 16 k ae ae _ (.R rfl) d _ rfl;let⟨s0,s1⟩:=FL (y.sub 4 12) ae;have r:=af y;have H1:=af Pb;have M:=af Pa;have HK:=af N;have wG:=af V;have DT:=af R;have HH:=af h;have X:iM (num (sub l 4 12)) (sub l 16 (n-4))=iM (num (sub l 4 12)) (sub l 16 k):=by rw[N];rfl
 have HE:=af X;clear y Pb Pa V R h yT N X;go_in
 go_wp21
 refine cK (Xk (l:=sub l 4 12) (n:=8) H1 (aa wG _ _ aH) (r.sub 4 12) ae ae) λw1 b1=>?_
 go_wp21
 refine(cg2 (s:=num (sub l 4 12)) (n:=k-16) (l:=sub l 16 k) M (aa DT _ _ b1) (r.sub 16 k) ae s0 s1).h ?_;rintro e w2⟨p2,c2,rfl,o2,ay⟩;have Z:=ah b1 ay
 go_wp21
 refine(ZR (k:=n) (l:=iM (num (sub l 4 12)) (sub l 16 k)) (m:=l) (by show _=_;rw[Ie,aa M]) W o2.rd (HH.H Z) (ai0 (r.sub 16 k)) r).h ?_;rintro e w3⟨rfl,aE⟩;have j:=ah Z aE;by_cases hq:iM (num (sub l 4 12)) (sub l 16 k)=l;{
 have x:dD (iM (num (sub l 4 12)) (sub l 16 k)=l):=by simp[hq]
 rw[x];have E:=af hq
 go_wp21
 refine(Ep (g:=U (Q w3)) (vs:=[.S (Ad b (o+16)) (k-16) (c-16)]) [sub l 16 k] (lm:=sub l 16 k) (n:=k-16) 1 rfl (by show _=_;rw[aA6]) M (bV3 ai ((aa DT _ _ j).H (aH.alloc az _))) ae ae).h ?_;rintro e w4⟨u,B,rfl,o4,cG⟩;have b4:=ah (j.alloc j.size _) cG;have o5:Ow w w4 (.S u (k-16) B) (sub l 16 k):=Own.h o4 (by have:=j.size;simp;omega);go_wp2;refine bO (v:=dT #[.U (num (sub l 4 12)),.S u (k-16) B,.I 0]) (by simp[results,results77,go_sem]) rfl ?_;unfold OJ;rw[aa HE,aK (aa E)];have e1:n-20=k-16:=aM (aa HK);have e2:n-4=k:=aM (aa HK);rw[e1,e2];exact⟨u,B,rfl,o5,b4⟩};{
 have x:dD (iM (num (sub l 4 12)) (sub l 16 k)=l)=dF:=by simp[hq]
 rw[x];have E:=af hq;go_wp2;refine bO (v:=dT #[.U 0,aq,.I 13]) (by simp[results,results77,go_sem]) rfl ?_;unfold OJ;rw[aa HE,aJ (aa E)];exact⟨dN,0,rfl,nK _ _ _ _,j⟩}
theorem de6(m:Le l n)(h:Rd w (.S (Ad b o) n c) l)(B:aA l)(hn:20<=n)(hm:Mg n)(hc:n<=c)(oY:c<=maxLen):dQ dG 30 #[.S (Ad b o) n c] w (OJ w l n):=by
 have tX:¬(n:Int)<20:=ae;obtain⟨k,ek⟩:∃k:Nat,(n:Int)-4=(k:Int):=⟨n-4,ae⟩;have g1:=nT n c;have g2:=gr 12 c;have g3:=nT k c;have g4:=gr 16 k;have g5:c≠4:=ae;have g6:c≠16:=ae;have yT:=aa m;have X:n=k+4:=ae;have Pb:J (sub l 4 12)=8:=zQ ae;have Pa:J (sub l 16 k)=k-16:=zQ ae;have r1:∀(d:Nat)(w':G),Bw w w'->Rd w' (.S (Ad b (o+4)) 8 d) (sub l 4 12):=λd w' M=>(h.H M).cut 4 12 ae ae _ (.R rfl) d _ rfl;have r2:∀(d:Nat)(w':G),Bw w w'->Rd w' (.S (Ad b (o+16)) (k-16) d) (sub l 16 k):=λd w' M=>(h.H M).cut 16 k ae ae _ (.R rfl) d _ rfl;let⟨s0,s1⟩:=FL (B.sub 4 12) ae;have x:=af B;have H1:=af Pb;have W:=af Pa;have HK:=af X;have wG:=af r1;have DT:=af r2;have V:=af h;have eb:iM (num (sub l 4 12)) (sub l 16 (n-4))=iM (num (sub l 4 12)) (sub l 16 k):=by rw[X];rfl
 have HE:=af eb;clear B Pb Pa r1 r2 h yT X eb;go_in
 go_wp21
 refine cK (aY2 (sub l 4 12) _ _ 8 H1 _ (aa wG _ _ aH) (x.sub 4 12) ae ae ae) λw1 D=>?_
 go_wp21
 refine(Dp W (aa DT _ _ D) ae).h ?_;rintro e i⟨j,r,rfl,o2,ay⟩;have u:=ah D ay;have z2:=D.size
 go_wp21
 have kn:∀(vs:iA)(w:G),(callFunc 37 vs).run dG w=.ok (.enter 37 vs) w:=λvs w=>aU;have u2:=uS m (V.H u);have u2d:=uS m (V.H u.drew);have y:Rd i.drew (.S j (k-16) r) (sub l 16 k):=o2.rd.H aH.drew;have HC:=af (NU (ai0 (s:=num (sub l 4 12)) (x.sub 16 k)) x)
 go_region_law(first
  |(refine Tz aP aP aP aP (λ_=>kn _ _) (bN5 W y (x.sub 16 k) ae s0 s1) ?_;rintro e Z⟨p3,c3,rfl,o3,DC⟩;refine⟨_,rfl,?_⟩;have N:Below (U (Q i)) i Z:=ah (aR (U (Q i)) i).drew DC;have u3:=uS m (V.H (ah u N));have e1:=uS (l:=iM (num (sub l 4 12)) (sub l 16 k)) (by rw[Ie,aa W]) o3.rd))
 all_goals
  have b3:=ah u N;have q3:Ow w Z (.S j (k-16) r) (sub l 16 k):=Own.h (Own.H o2 N) z2;go_wp2;{
 rename_i hd;have hq:¬iM (num (sub l 4 12)) (sub l 16 k)=l:=by intro e;rw[aa HC,Df e]at hd;cases hd
 refine bO (v:=dT #[.U 0,aq,.I 13]) (by simp[results,results30,go_sem]) rfl ?_;unfold OJ;rw[aa HE,aJ hq];exact⟨dN,0,rfl,nK _ _ _ _,b3⟩};{
 rename_i hd;have hq:iM (num (sub l 4 12)) (sub l 16 k)=l:=by by_cases e:iM (num (sub l 4 12)) (sub l 16 k)=l;{exact e};{rw[aa HC,Cb e]at hd;cases hd}
 refine bO (v:=dT #[.U (num (sub l 4 12)),.S j (k-16) r,.I 0]) (by simp[results,results30,go_sem]) rfl ?_;unfold OJ;rw[aa HE,aK hq];have e1:n-20=k-16:=aM (aa HK);have e2:n-4=k:=aM (aa HK);rw[e1,e2];exact⟨j,r,rfl,q3,b3⟩}
theorem dI9(hl:1000<n):dQ dG 126 #[yy s (.S p n c)] w (Rb aq w):=by
 have i:=rr 1000 n;go_in;go_wp2;go_ret;exact⟨rfl,aH.alloc az _⟩
theorem cg3(o:Le l n)(h:Rd w (.S p n c) l)(hb:aA l)(hl:n<=1000)(s0:0<=s)(s1:s<2^64):dQ dG 126 #[yy s (.S p n c)] w λe w'=>∃E c',e=dR (.S E (n+14) c')/\Own (U (Q w)) w' (.S E (n+14) c') (nH s l)/\Bw w w':=by
 have rQ:¬(1000:Int)<(n:Int):=ae;go_in
 go_wp21
 let⟨W,m⟩:=aF (jA w (dO #[.U s,.S p n c] 79));have bW:=ij m;have k0:I W (Aw w 0)=dU s:=by rw[m];simp
 have k1:I W (Aw w 1)=dS p n c:=by rw[m];simp
 rw[<-m];refine(XO (n:=2) (v:=n) ae ae ae).h ?_;rintro e j⟨p1,c1,rfl,o1,B⟩;have y:=ah bW B;have N:=aj k0 B;have M:=aj k1 B;have r0:=h.H y;have r1:=o1.rd;have yT:=aa o;have HB:=af hb
 go_wp21
 go_region_held3 (λw'=>I w' (Aw w 0)=dU s/\I w' (Aw w 1)=dS p n c) (first|with_reducible exact⟨N,M⟩|with_reducible exact⟨V,R⟩|with_reducible exact⟨Z,X⟩|with_reducible exact⟨f0,f1⟩|go_keep)
  (first
   |(go_at_call 156;refine(XO (n:=8) (v:=s) ae s0 s1).h ?_;rintro e u⟨p2,c2,rfl,o2,ay⟩;have i:Below (U (Q j)) j u:=(by first|exact ay|exact ah (aR (U (Q j)) j).drew ay);have V:=aj N i;have R:=aj M i)
   |(go_at_call 81;refine(Ep (g:=U (Q u)) (vs:=[jC p1 2 c1,jC p2 8 c2,jC p n c]) [le n 2,le s 8,l] (lm:=yz s l) (n:=n+10) 3 rfl (by show _=_;rw[ey1,yz,aa o]) (by show _=_;rw[aj8,aa o]) (dr6 ai ai ai ((r1.H i).H (aH.alloc az _)) (o2.rd.H (aH.alloc az _)) ((r0.H i).H (aH.alloc az _))) ae ae).h ?_;rintro e w3⟨p3,c3,rfl,o3,aE⟩;have r:=ah (aH.alloc (fq (U (Q u))) _) aE;have Z:=aj V r;have X:=aj R r)
   |(go_at_call 157;refine(bJ1 (p:=p3) (c:=c3) (n:=n+10) (l:=yz s l) (by show _=_;rw[aj8,aa o]) (by exact o3.rd) (aN8 HB) ae).h ?_;rintro e w4⟨D,c4,rfl,o4,x⟩;have f0:=aj Z x;have f1:=aj X x))
 have b4:=ah (ah (ah y i) r) x;have o5:Ow w w4 (.S D (n+14) c4) (nH s l):=Own.h o4 (aM (ah (ah y i) r).size);go_wp2;go_ret;exact⟨D,c4,rfl,o5,b4⟩
theorem bN6(q:Le l n)(h:Rd w (.S p n c) l)(hb:aA l)(hl:n<=1000)(s0:0<=s)(s1:s<2^64):dQ dG 57 #[yy s (.S p n c)] w λe w'=>∃p' c',e=dR (.S p' (n+14) c')/\Own (U (Q w)) w' (.S p' (n+14) c') (nH s l)/\Bw w w':=by
 have rQ:¬(1000:Int)<(n:Int):=ae;go_in
 go_wp21
 let⟨W,i⟩:=aF (jA w (dO #[.U s,.S p n c] 79));have bW:=ij i;have k0:I W (Aw w 0)=dU s:=by rw[i];simp
 have k1:I W (Aw w 1)=dS p n c:=by rw[i];simp
 have E:U (Q w)<U (Q W):=by rw[i];simp
 rw[<-i];clear i;refine(XQ 2 n _ ae ae ae).h ?_;rintro e w1⟨p1,c1,rfl,o1,r⟩;have b1:=ah bW r;have j0:=aj k0 r;have j1:=aj k1 r;have r0:=h.H b1;have yT:=aa q;have HB:=af hb;have HH:=af h;have z1:=r.size
 go_wp21
 refine(XQ 8 s _ ae s0 s1).h ?_;rintro e w2⟨p2,c2,rfl,o2,j⟩;have b2:=ah b1 j;have i0:=aj j0 j;have i1:=aj j1 j;have r2:=r0.H j;have D:=Own.H o1 j;have u:=o2.rd;have z2:=j.size;have el:J (le (↑n) 2++le s 8)=10:=by simp[qW]
 go_wp2_with(at_builtin;refine CD rfl rfl (B:=U (Q W)) (.S p1 2 c1) (l:=le n 2) (m:=le s 8) (lm:=le n 2++le s 8) cO p2 c2 8 (by show _=_;exact qW _ _) rfl rfl D u (by rw[qW,qW];omega) ae ?_);intro p3 c3 w3 R M;have Z:=Bp b2 M D ae ae;have y:=(aR (U (Q W)) w2).grown M ae (λk e=>(D.lt k e).1);have f0:=(y.cell (p:=(Aw w 0)) E).Z i0;have f1:=(y.cell (p:=(Aw w 1)) E).Z i1;have r3:Rd w3 (.S p n c) l:=HH.H Z;have z3:=y.size;have Vr:J (yz s l)=n+10:=by rw[aj8,aa q]
 go_wp2_with(at_builtin;refine CD rfl rfl (B:=U (Q W)) (.S p3 10 c3) (l:=le n 2++le s 8) (m:=l) (lm:=yz s l) (by show _=_;rw[yz,aa q]) p c n q rfl rfl R r3 (by rw[el];omega) ae ?_);intro p4 c4 w4 o4 V;have b4:=Bp Z V R ae ae;have z4:=V.size
 go_wp21
 refine(bL9 (p:=p4) (c:=c4) (n:=n+10) (l:=yz s l) (by show _=_;exact Vr) o4.rd (aN8 HB) ae).h ?_;rintro e w5⟨N,X,rfl,o5,cR⟩;have b5:=ah b4 cR;have o6:Ow w w5 (.S N (n+14) X) (nH s l):=Own.h o5 ae;go_wp2;go_ret;exact⟨N,X,rfl,o6,b5⟩
abbrev R1:=Int×LI
def Ii:List R1->List dV->List dV
 |r::rs,v::vs=>.int jU r.1::v::Ii rs vs
 |_,_=>[]
theorem aj9:∀(j:List R1)(vs:List dV)(i:Nat)(r:R1)(v:dV),j[i]?=r->vs[i]?=v->(Ii j vs)[2*i]?=dU r.1/\(Ii j vs)[2*i+1]?=v
 |[],vs,i,r,v,h,_=>by simp at h
 |r'::j,[],i,r,v,_,h=>by simp at h
 |r'::j,v'::vs,0,r,v,h1,h2=>by simp at h1 h2;subst h1 h2;simp[Ii]
 |r'::j,v'::vs,i+1,r,v,h1,h2=>by have:=aj9 j vs i r v (by simpa using h1) (by simpa using h2);rw[show 2*(i+1)=2*i+1+1 by omega];simpa[Ii]using this
theorem bS5:∀(i:List R1)(vs:List dV)(r:R1)(v:dV),J vs=J i->Ii (i++[r]) (vs++[v])=Ii i vs++[.U r.1,v]
 |[],[],r,v,_=>rfl
 |[],_::_,r,v,h=>by simp at h
 |_::_,[],r,v,h=>by simp at h
 |r'::i,v'::vs,r,v,h=>by simp[Ii,bS5 i vs r v (by simpa using h)]
abbrev Tj(u v:dV):Prop:=∀b,jB u=Y b->jB v≠Y b
structure lf(B:Nat)(w:G)(v:dV)(rs:List R1)(vs:List dV):Prop where
 len:J vs=J rs
 row:w.ownsRow B 79 2 v (J rs) (Ii rs vs)
 own:∀(i:Nat)r u,rs[i]?=Y r->vs[i]?=Y u->Own B w u r.2
 ap:vs.Pairwise Tj
theorem lf.form{rs:List R1}(h:lf B w v rs vs):∃p c,v=.S p (J rs) c:=by
 obtain⟨rfl,i⟩|⟨g,m,j,rfl,_⟩:=h.row.2;{exact⟨dN,0,by rw[i]⟩};{exact⟨_,_,rfl⟩}
theorem lf.H{rs:List R1}(h:lf B w v rs vs)(j:Bw w w'):lf B w' v rs vs:=
 ⟨h.len,h.row.kept (row:=dN) ⟨j.os,j.tape,j.output,j.size,λk m _=>j.block k m⟩ (by cases s:jB v<;>simp),λi r u q o=>Own.H (h.own i r u q o) j,h.ap⟩
theorem lf.h{rs:List R1}(h:lf B w v rs vs)(o:B'<=B):lf B' w v rs vs:=by
 refine⟨h.len,⟨h.row.1,?_⟩,λi r u s q=>Own.h (h.own i r u s q) o,h.ap⟩;obtain e|⟨g,m,j,rfl,x,r⟩:=h.row.2;{exact .L e};{exact .R ⟨g,m,j,rfl,ae,r⟩}
theorem lf.nil(B:Nat)(w:G):lf B w aq [] []:=⟨rfl,nK _ _ _ _,by simp,List.Pairwise.nil⟩
theorem lf.apart{rs:List R1}(h:lf B w v rs vs)(o:Own B' w u l):Tj v u:=by
 intro b j i;obtain⟨rfl,_⟩|⟨g,s,r,rfl,_,q,_⟩:=h.row.2;{simp[jB]at j};{obtain⟨rfl,_⟩|⟨x,y,D,rfl,_,m,_⟩:=o.2;{simp[jB]at i};{simp[jB]at j i;subst j i;rw[q]at m;simp at m}}
def Ar(l:LI):Nat:=jN (num (sub l 0 2))
def ng(l:LI):Option R1:=
 if J l<14+Ar l\/1000<Ar l then dN
 else if nH (num (sub l 2 10)) (sub l 10 (10+Ar l))=sub l 0 (14+Ar l)then Y (num (sub l 2 10),sub l 10 (10+Ar l))else dN
theorem cc9(h:aA l):num (sub l 0 2)=(Ar l:Int)/\Ar l<65536:=by
 have i:=h.sub 0 2;let⟨q,o⟩:=bW9 i;have j:J (sub l 0 2)<=2:=by simp[sub];omega
 have m:(256:Int) ^ J (sub l 0 2)<=65536:=by obtain e|e|e:=(by omega:J (sub l 0 2)=0\/J (sub l 0 2)=1\/J (sub l 0 2)=2)<;>rw[e]<;>decide
 unfold Ar;omega
theorem T9(o:aA l){b:LI}(h:ng l=Y (s,b)):J b+14<=J l/\J b<=1000/\Ar l=J b/\s=num (sub l 2 10)/\b=sub l 10 (10+J b)/\nH s b=sub l 0 (14+J b):=by
 unfold ng at h;split at h;{simp at h};{
 split at h;{
 rename_i h1 h2;simp only[nJ,jk]at h;obtain⟨m,j⟩:=h;have i:J b=Ar l:=by rw[<-j,zQ ae];omega
 refine⟨ae,ae,i.C,m.C,by rw[i,j],by rw[i,<-m,<-j];exact h2⟩};{simp at h}}
def eT6(w:G)(b o c:Nat)(l:LI)(e:Ending)(w':G):Prop:=
 Bw w w'/\match ng l with
  |none=>e=dR (dT #[yy 0 (jC dN 0 0),jK jV 0])
  |some r=>e=dR (dT #[yy r.1 (jC (Y ⟨b,o+10,dN⟩) (J r.2) (c-10)),jK jV ((J r.2+14:Nat):Int)])
theorem ee5(j:n<10):dQ dG 137 #[.S p n c] w (Rb (dT #[yy 0 aq,.I 0]) w):=by
 have i:(n:Int)<10:=ae;go_in;go_wp2;refine bO (v:=dT #[yy 0 aq,.I 0]) (by simp[results,results137,go_sem]) rfl ⟨rfl,aH.alloc az _⟩
theorem ee6(en:Le l n)(h:Rd w (.S (Ad b o) n c) l)(hb:aA l)(hn:10<=n)(hm:n<=2^21)(hc:n<=c)(oY:c<=maxLen):dQ dG 137 #[.S (Ad b o) n c] w (eT6 w b o c l):=by
 have tX:¬(n:Int)<10:=ae;have g1:=nT n c;have g2:=gr 10 c;have g3:=gr 2 c;have g5:c≠2:=ae;have g6:c≠0:=ae;let⟨N,eN⟩:=aF (Ar l);let⟨eK,hK⟩:=cc9 hb;rw[<-eN]at eK hK;have HN:=af eN;clear eN;have yT:=aa en;have Pb:J (sub l 0 2)=2:=zQ ae;have r1:∀(d:Nat)(w':G),Bw w w'->Rd w' (.S (Ad b o) 2 d) (sub l 0 2):=λd w' m=>(h.H m).cut 0 2 ae ae _ (.R rfl) d _ rfl;have wG:=af r1;have H1:=af Pb;have y:=af hb;have EK:=af eK;obtain⟨M,eM⟩:∃M:Nat,(10:Int)+(N:Int)=(M:Int):=⟨10+N,ae⟩;obtain⟨Z,eZ⟩:∃Z:Nat,(M:Int)+4=(Z:Int):=⟨M+4,ae⟩;have W:Z=14+N:=ae;have X:M=10+N:=ae;have HZ:=br W X;clear W X;by_cases hs:n<Z;{
 have qK:=bR n Z;go_in
 go_wp21
 refine cK (Xk H1 (aa wG _ _ (by exact aH.alloc az _)) (y.sub 0 2) ae ae) λi u=>?_;rw[aa EK];have c0:I i (Aw w 0)=dU 0:=aj ai u;have c1:I i (Aw w 1)=aq:=aj ai u;have f1:∀o,jF i (Aw w o)=dF:=rY ai u ai;have x:Bw w i:=ah (aH.alloc az _) u;go_wp2;refine bO (v:=dT #[yy 0 aq,.I 0]) (by simp[results,results137,go_sem,c0,c1]) rfl ⟨?_,?_⟩;{
 repeat(refine kV ?_ ai _)
 exact x};{
 have e:ng l=dN:=by unfold ng;have:=aa HZ;have:=aa HN;rw[aK ae]
 rw[e]}};{
 have qK:=fG n Z;have q1:=nT M c;have q2:=nT Z c;have q3:=gr 10 M;have q4:c≠10:=ae;have q5:=gr 0 Z;have Pa:J (sub l 2 10)=8:=zQ ae;have db0:J (sub l 10 M)=N:=by rw[zQ ae];have:=aa HZ;omega
 have da9:J (sub l 0 Z)=Z:=by rw[zQ ae];omega
 have eMN:M-10=N:=aM (aa HZ);have r2:∀(d:Nat)(w':G),Bw w w'->Rd w' (.S (Ad b (o+2)) 8 d) (sub l 2 10):=λd w' m=>(h.H m).cut 2 10 ae ae _ (.R rfl) d _ rfl;have r3:∀(d:Nat)(w':G),Bw w w'->Rd w' (.S (Ad b (o+10)) (M-10) d) (sub l 10 M):=λd w' m=>(h.H m).cut 10 M ae ae _ (.R rfl) d _ rfl;have r4:∀(d:Nat)(w':G),Bw w w'->Rd w' (.S (Ad b o) Z d) (sub l 0 Z):=λd w' m=>(h.H m).cut 0 Z ae ae _ (.R rfl) d _ rfl;let⟨s0,s1⟩:=FL (y.sub 2 10) ae;have DT:=af r2;have uQ:=af r3;have DS:=af r4;have H2:=af Pa;have H3:=af db0;have H4:=af da9;go_in
 go_wp21
 refine cK (Xk H1 (aa wG _ _ (by exact aH.alloc az _)) (y.sub 0 2) ae ae) λi u=>?_;rw[aa EK];have c0:I i (Aw w 0)=dU 0:=aj ai u;have c1:I i (Aw w 1)=aq:=aj ai u;have f1:∀o,jF i (Aw w o)=dF:=rY ai u ai;have x:Bw w i:=ah (aH.alloc az _) u;have kn:∀(vs:iA)(w:G),(callFunc 130 vs).run dG w=.ok (.enter 130 vs) w:=λvs w=>aU
 go_upto_region 7 with fail
 go_cut[6](λrp wc=>∃R,rp=Pz R/\U (Q i)<=R/\BG wc R (.U (num (sub l 2 10))) (.S (Ad b (o+10)) N (c-10))/\Bw i wc)
 case first=>(
 go_region_law(first
  |(refine Ic aP aP aP (λ_=>kn _ _) (Xk H2 (aa DT _ _ (by first|exact(x.alloc x.size _).drew|exact x.drew.alloc x.size _)) (y.sub 2 10) ae ae) ?_;rintro e r⟨rfl,j⟩;refine⟨_,rfl,?_⟩;have m0:I r ⟨U (Q i),0,dN⟩=Y (jK jU 0):=aj ai j;have m1:I r ⟨U (Q i),1,dN⟩=Y (jC dN 0 0):=aj ai j;have mf:∀o,jF r ⟨U (Q i),o,dN⟩=dF:=rY ai j ai;have V:Below (U (Q i)) i r:=ah (by first|exact(aH.alloc az _).drew|exact aH.drew.alloc az _) j)
  |(refine Ic aP aP aP (λ_=>kn _ _) (Xk H2 (aa DT _ _ (by exact x.drew)) (y.sub 2 10) ae ae) ?_;rintro e r⟨rfl,j⟩;refine⟨_,rfl,?_⟩;have V:Below (U (Q i)) i r:=ah (aR (U (Q i)) i).drew j))
 {
 go_wp21
 go_meet;exact⟨U (Q r),rfl,V.size,by simp[BG],V.alloc V.size _⟩};{
 go_wp21
 go_meet;refine⟨U (Q i),rfl,fq _,⟨?_,?_⟩,(V.setCell ai _).setCell ai _⟩;{simp[go_sem,m0,m1]};{simp[go_sem,m0,m1]}})
 case rest=>(
 obtain⟨R,rfl,hR,A0,pf⟩:=hcut;have cc0:=aj c0 pf;have cc1:=aj c1 pf;have ff:=rY f1 pf (nI i _ c0);have bc:=ah x pf;have hRw:U (Q w)<R:=mj (nI i _ c0) hR;obtain⟨K,E,eE,bE,hC,D⟩:∃(K:Nat)(E:LI),J E=K/\aA E/\(∀w':G,Bw w w'->Cp 126 #[yy (num (sub l 2 10)) (.S (Ad b (o+10)) N (c-10))] w' λe B=>∃p' c',e=dR (.S p' K c')/\Ow w' B (.S p' K c') E/\Bw w' B)/\(ng l=if E=sub l 0 Z then Y (num (sub l 2 10),sub l 10 M)else dN):=by
  let⟨fy,gJ⟩:=aa HZ;have hN:=aa HN;by_cases QN:N<=1000;{refine⟨N+14,nH (num (sub l 2 10)) (sub l 10 M),by rw[D7,aa H3],aO0 (y.sub 10 M),λw' m=>?_,?_⟩;{have hr:=aa uQ (c-10) w' m;rw[eMN]at hr;exact cg3 H3 hr (y.sub 10 M) QN s0 s1};{unfold ng;rw[<-hN,<-gJ,<-fy,aJ ae]}};{
 refine⟨0,[],rfl,by intro z hz;simp at hz,λw' m=>?_,?_⟩;{refine cK (dI9 ae) λB dW1=>?_;exact⟨dN,0,rfl,nK _ _ _ _,dW1⟩};{
 have aN:¬[]=sub l 0 Z:=by intro e;have:=tg List.length e;rw[aa H4]at this;simp at this;omega
 unfold ng;rw[<-hN,aK ae,aJ aN]}}
 have HC:=af hC;have HE:=dy eE bE D
 go_wp21
 go_region_held3 (λw'=>BG w' R (.U (num (sub l 2 10))) (.S (Ad b (o+10)) N (c-10))) (first|exact A0|exact A1|exact A2)
  (first
   |(go_at_call 126;refine(aa HC _ (by exact bc.drew)).h ?_;rintro e r⟨p2,c2,rfl,o2,Cj⟩;have j:Below (U (Q wc)) wc r:=ah (aR (U (Q wc)) wc).drew Cj;have A1:=A0.H j)
   |(go_at_call 60;refine cK (ZR HE.1 H4 (by exact o2.rd) (by exact DS _ _ (ah bc j)) HE.2.1 (y.sub 0 Z)) λw3 aE=>?_;have A2:=A1.H aE))
 have s:=ah j aE;have b3:=ah bc s;have d0:=aj cc0 s;have d1:=aj cc1 s;have df:=rY ff s (nI wc _ cc0);obtain⟨-,-,D⟩:=aa HE;by_cases hq:E=sub l 0 Z;{
 rw[aK hq]at D;have hd:dD (E=sub l 0 Z):=by simp[hq]
 rw[hd];have SP:=af D;have HQ:=af hq;obtain⟨A3,A4⟩:=A2;go_wp2;have aN:U (Q w)≠R:=ae;refine bO (v:=dT #[yy (num (sub l 2 10)) (.S (Ad b (o+10)) N (c-10)),.I Z]) (by simp[results,results137,go_sem,d0,d1,A3,A4,aN]) rfl ⟨?_,?_⟩;{
 repeat(refine kV ?_ ai _)
 exact b3};{rw[aa SP];let⟨fy,gJ⟩:=aa HZ;simp only[aa H3];rw[show N+14=Z by omega]}};{
 rw[aJ hq]at D;have hd:dD (E=sub l 0 Z)=dF:=by simp[hq]
 rw[hd];have SP:=af D;go_wp2;refine bO (v:=dT #[yy 0 aq,.I 0]) (by simp[results,results137,go_sem,d0,d1]) rfl ⟨?_,?_⟩;{
 repeat(refine kV ?_ ai _)
 exact b3};{rw[aa SP]}})}
attribute [local go_sem] Oper.semAt_some
structure It where
 s:Int
 q:OA
 d:Nat
 b:LI
 z:Nat
def Good(w:G)(x:It):Prop:=x.z=0\/(x.z=J x.b+14/\J x.b<=1000/\aA x.b/\0<=x.s/\x.s<2^64/\Rd w (.S x.q (J x.b) x.d) x.b)
abbrev Fj(w:G):={x:It // Good w x}
def key(x:It):Option R1:=if x.z=0 then dN else Y (x.s,x.b)
abbrev aZ0{w:G}(x:Fj w):iA:=#[yy x.1.s (.S x.1.q (J x.1.b) x.1.d),.I x.1.z]
def yl:Nat->LI->List (Option R1)
 |0,_=>[dN]
 |f+1,l=>match ng l with
  |none=>[dN]
  |some r=>Y r::yl f (jD (J r.2+14) l)
theorem Ww(h:ng l=dN):yl f l=[dN]:=by cases f<;>simp[yl,h]
theorem JQ{r:R1}(h:ng l=r):yl (f+1) l=Y r::yl f (jD (J r.2+14) l):=by simp[yl,h]
theorem aH4(hf:0<f):[ng l] <+: yl f l:=by
 obtain⟨i,rfl⟩:∃i,f=i+1:=⟨f-1,ae⟩;cases h:ng l with
 |none=>rw[Ww h];exact List.prefix_refl _
 |some r=>rw[JQ h];exact⟨_,rfl⟩
theorem aO1(h:J l<14):ng l=dN:=by unfold ng;rw[aK (by omega)]
theorem aA.drop(h:aA l)(n:Nat):aA (jD n l):=λz i=>h z (PX i)
theorem bn3(V:J l=m)(hr:Rd w (.S q m d) l)(N:Bw w wr)(j:aA l)(hm:m<=2^21)(hd:m<=d)(u:d<=maxLen):Cp 137 #[.S q m d] wr λe w'=>Bw wr w'/\∃x:Fj w,key x.1=ng l/\e=dR (dT (aZ0 x)):=by
 by_cases W:m<10;{refine cK (ee5 W) λw' y=>?_;refine⟨y,⟨⟨0,dN,0,[],0⟩,.L rfl⟩,?_,rfl⟩;rw[aO1 ae];rfl};{
 obtain⟨b,o,rfl,-,-⟩:=hr.at ae;refine(ee6 V (hr.H N) j ae hm hd u).h ?_;rintro e w'⟨y,h⟩;refine⟨y,?_⟩;cases Dq:ng l with
 |none=>
  rw[Dq]at h;exact⟨⟨⟨0,dN,0,[],0⟩,.L rfl⟩,rfl,h⟩
 |some r=>
  rw[Dq]at h;obtain⟨s,i⟩:=r;let⟨h1,R,Z,D,B,X⟩:=T9 j Dq;let⟨M,E⟩:=FL (j.sub 2 10) (by simp[sub];omega);refine⟨⟨⟨s,Y (Ad b (o+10)),d-10,i,J i+14⟩,.R ⟨rfl,R,?_,by rw[D];exact M,by rw[D];exact E,?_⟩⟩,by simp[key],h⟩;{show aA i;rw[B];exact j.sub _ _};{have:=hr.cut 10 (10+J i) ae ae (Ad b (o+10)) (.R rfl) (d-10) i B;rw[show 10+J i-10=J i by omega]at this;exact this}}
theorem aw6(i:Bw w w'):jG w w' dN:=⟨i.os,i.tape,i.output,i.size,λk j _=>i.block k j⟩
theorem dn9:CallsIn Fence.wide n dG 79 #[.S a len cap] w λe w'=>e=dR (.func (.func 136) #[] #[Pz (U (Q w))])/\w'=jA w (dO #[.S a len cap] 22):=by
 refine xL func79 rfl gQ ?_ rfl;simp only[ntmps79,Ff,Nat.reduceAdd,Nat.reduceSub];gi_wp2;go_ret;exact⟨rfl,rfl⟩
set_option maxRecDepth 100000 in
theorem dH3(hn:1<=n){L Bs len cap:Nat}(hR:Rd w (.S p len cap) l)(y:aA l)(el:J l=len)(hlen:len<=2^20)(vg:len<=cap)(oY:cap<=maxLen)(hp:(p=dN/\cap=0)\/∃b o,p=(Ad b o))(Z Jx:List (Fj w)->G->Prop){W:G}(hJ:AbidesFrom (U (Q W)) Z)(hY:∀j x W,Z j W->J j<len+2->YieldAt Fence.wide (n-1) dG L (aZ0 x) W λe W'=>
   (e=dR (jO dY)/\Z (j++[x]) W'/\sk (U (Q w)) Bs W W')\/(e=dR (jO dF)/\Jx (j++[x]) W'))(Zv:I W (Ad Bs 0)=dS p len cap)(QO:Bw w W)(h0:Z [] W):CallsIn Fence.wide n dG 136 #[.func (.yield L) #[] #[],Pz Bs] W λe W'=>(∃v,e=dR v)∧
   ((∃ys:List (Fj w),(∃j x,ys=j++[x]/\x.1.z=0)/\Z ys W')\/(∃j:List (Fj w),(j.map λx=>key x.1) <+: yl (len+1) l/\Jx j W')):=by
 refine xL func136 rfl gQ ?_ rfl;simp only[ntmps136,Ff,Nat.reduceAdd,Nat.reduceSub];gi_wp2
 gi_loopw [3] (λi wr=>∃(j:List (Fj w))(a f:Nat),a<=len/\i=.I a/\f+J j=len+1/\J j<=a/\(j.map λx=>key x.1)++yl f (l.drop a)=yl (len+1) l/\Z j wr/\sk (U (Q w)) Bs W wr) (λi _=>len+1-(jN (intOf i)))
 case atStart=>exact⟨[],0,len+1,cT _,rfl,rfl,fq _,rfl,h0,sk.refl _ _ _⟩
 case round=>(
 obtain⟨j,a,f,AU,rfl,V,N,m,hJp,Yz⟩:=hrel;have R:Bw w wr:=QO.Z Yz.1;have gy:I wr (Ad Bs 0)=dS p len cap:=Yz.2.Z Zv;have g1:=nT a len;have g2:=nT len cap;have g3:=gr 0 a;obtain⟨rfl,rfl⟩|⟨b,o,rfl⟩:=hp;{
 obtain rfl:len=0:=ae;obtain rfl:a=0:=ae;have AE:Rd w (.S (dN) (0) (0)) (l.drop 0):=vG▸hR;have HF:=af (bn3 (by rw[uC];omega) AE R (y.drop _) ae ae ae);have HX:=dy m V N;have HJ:=af hJp;have HK:=af Yz;have HBR:=br y R;unfold maxLen at oY
 gi_wp2_with fail
 refine⟨gQ,?_⟩;refine(IC.2 HF).h ?_;rintro e u⟨E,⟨x,B⟩,M,rfl⟩;let⟨m,V,N⟩:=aa HX;let⟨y,R⟩:=aa HBR;have YR:I u (Ad Bs 0)=I wr (Ad Bs 0):=(aj gy E).Z gy.C;have Yy:sk (U (Q w)) Bs W u:=HK.Z ⟨E.h R.size,YR⟩;have Zm:Z j u:=hJ j _ _ dN HJ (aw6 E) (λr e=>by cases e);have Q6:Z j (jA u (dO #[.U x.s,.S x.q (J x.b) x.d] 79)):=hJ j _ _ dN Zm (Xw _ _ dN) (λr e=>by cases e);have Qf:=(ah R E).size;have YQ:=aj (aj gy E) ((aR (U (Q u)) u).alloc az (dO #[.U x.s,.S x.q (J x.b) x.d] 79));have Yx:sk (U (Q w)) Bs W (jA u (dO #[.U x.s,.S x.q (J x.b) x.d] 79)):=Yy.Z ⟨aH.alloc Qf _,YQ.Z (aj gy E).C⟩;let⟨fn,tmps,X,body,hy,Nd⟩:=hY j ⟨x,B⟩ _ Q6 ae
 try dsimp only at hy
 have UE:x.z<=1014:=by obtain h|⟨h,h',_⟩:=B<;>omega
 have HM:=Sh m V N y M B;have H2:=af Yx;gi_wp2;refine Nd.h ?_;rintro e W3(⟨rfl,EH,mc⟩|⟨rfl,La⟩);{
 by_cases D:x.z=0;{
 have vM:((x.z:Int)==0):=by simp[D]
 gi_wp2;refine bO (xK rfl _ _ _) rfl ?_;exact⟨⟨_,rfl⟩,.L ⟨_,⟨j,⟨x,B⟩,rfl,D⟩,EH⟩⟩};{
 have vM:((x.z:Int)==0)=dF:=by simp[D]
 gi_wp2;go_roundw
 case rel=>(
 let⟨m,V,N,y,M,_⟩:=aa HM;have hk:ng (l.drop 0)=Y (x.s,x.b):=by rw[<-M];simp[key,D]
 let⟨r1,r2,_⟩:=T9 (y.drop _) hk;obtain h|⟨h,_⟩:=id B;{exact absurd h D};{rw[uC]at r1;refine⟨j++[⟨x,B⟩],0+x.z,f-1,ae,by go_num,cg,cg,?_,EH,H2.Z mc⟩;obtain⟨f',rfl⟩:∃f',f=f'+1:=⟨f-1,ae⟩;rw[JQ hk]at m;rw[rI,pO,Kn,h,<-FQ];rw[<-m];simp[key,D]})
 case measure=>simp[intOf];omega}}
 {gi_wp2;refine bO (xK rfl _ _ _) rfl ⟨⟨_,rfl⟩,.R ⟨_,?_,La⟩⟩;let⟨m,V,N,y,M,_⟩:=aa HM;rw[rI,<-m];refine(aT1 _).2 ?_;simp only[mR,Eg,M];exact aH4 ae}};{
 by_cases hq:cap=a;{
 obtain rfl:len=a:=ae;obtain rfl:cap=len:=hq;have AE:Rd w (.S (Ad b o) (0) (0)) (l.drop cap):=⟨_,0,by rw[aT5 ae];rfl,.L (aT5 ae)⟩;have HF:=af (bn3 (by rw[uC];omega) AE R (y.drop _) ae ae ae);have HX:=dy m V N;have HJ:=af hJp;have HK:=af Yz;have HBR:=br y R;unfold maxLen at oY
 gi_wp2_with fail
 refine⟨gQ,?_⟩;refine(IC.2 HF).h ?_;rintro e u⟨E,⟨x,B⟩,M,rfl⟩;let⟨m,V,N⟩:=aa HX;let⟨y,R⟩:=aa HBR;have YR:I u (Ad Bs 0)=I wr (Ad Bs 0):=(aj gy E).Z gy.C;have Yy:sk (U (Q w)) Bs W u:=HK.Z ⟨E.h R.size,YR⟩;have Zm:Z j u:=hJ j _ _ dN HJ (aw6 E) (λr e=>by cases e);have Q6:Z j (jA u (dO #[.U x.s,.S x.q (J x.b) x.d] 79)):=hJ j _ _ dN Zm (Xw _ _ dN) (λr e=>by cases e);have Qf:=(ah R E).size;have YQ:=aj (aj gy E) ((aR (U (Q u)) u).alloc az (dO #[.U x.s,.S x.q (J x.b) x.d] 79));have Yx:sk (U (Q w)) Bs W (jA u (dO #[.U x.s,.S x.q (J x.b) x.d] 79)):=Yy.Z ⟨aH.alloc Qf _,YQ.Z (aj gy E).C⟩;let⟨fn,tmps,X,body,hy,Nd⟩:=hY j ⟨x,B⟩ _ Q6 ae
 try dsimp only at hy
 have UE:x.z<=1014:=by obtain h|⟨h,h',_⟩:=B<;>omega
 have HM:=Sh m V N y M B;have H2:=af Yx;gi_wp2;refine Nd.h ?_;rintro e W3(⟨rfl,EH,mc⟩|⟨rfl,La⟩);{
 by_cases D:x.z=0;{
 have vM:((x.z:Int)==0):=by simp[D]
 gi_wp2;refine bO (xK rfl _ _ _) rfl ?_;exact⟨⟨_,rfl⟩,.L ⟨_,⟨j,⟨x,B⟩,rfl,D⟩,EH⟩⟩};{
 have vM:((x.z:Int)==0)=dF:=by simp[D]
 gi_wp2;go_roundw
 case rel=>(
 let⟨m,V,N,y,M,_⟩:=aa HM;have hk:ng (l.drop cap)=Y (x.s,x.b):=by rw[<-M];simp[key,D]
 let⟨r1,r2,_⟩:=T9 (y.drop _) hk;obtain h|⟨h,_⟩:=id B;{exact absurd h D};{rw[uC]at r1;refine⟨j++[⟨x,B⟩],cap+x.z,f-1,ae,by go_num,cg,cg,?_,EH,H2.Z mc⟩;obtain⟨f',rfl⟩:∃f',f=f'+1:=⟨f-1,ae⟩;rw[JQ hk]at m;rw[rI,pO,Kn,h,<-FQ];rw[<-m];simp[key,D]})
 case measure=>simp[intOf];omega}}
 {gi_wp2;refine bO (xK rfl _ _ _) rfl ⟨⟨_,rfl⟩,.R ⟨_,?_,La⟩⟩;let⟨m,V,N,y,M,_⟩:=aa HM;rw[rI,<-m];refine(aT1 _).2 ?_;simp only[mR,Eg,M];exact aH4 ae}};{
 have lG:cap≠a:=hq;have AE:Rd w (.S (Ad b (o+a)) (len-a) (cap-a)) (l.drop a):=hR.cut a len AU ae _ (.R rfl) _ _ (by rw[od ae]);have HF:=af (bn3 (by rw[uC];omega) AE R (y.drop _) ae ae ae);have HX:=dy m V N;have HJ:=af hJp;have HK:=af Yz;have HBR:=br y R;unfold maxLen at oY
 gi_wp2_with fail
 refine⟨gQ,?_⟩;refine(IC.2 HF).h ?_;rintro e u⟨E,⟨x,B⟩,M,rfl⟩;let⟨m,V,N⟩:=aa HX;let⟨y,R⟩:=aa HBR;have YR:I u (Ad Bs 0)=I wr (Ad Bs 0):=(aj gy E).Z gy.C;have Yy:sk (U (Q w)) Bs W u:=HK.Z ⟨E.h R.size,YR⟩;have Zm:Z j u:=hJ j _ _ dN HJ (aw6 E) (λr e=>by cases e);have Q6:Z j (jA u (dO #[.U x.s,.S x.q (J x.b) x.d] 79)):=hJ j _ _ dN Zm (Xw _ _ dN) (λr e=>by cases e);have Qf:=(ah R E).size;have YQ:=aj (aj gy E) ((aR (U (Q u)) u).alloc az (dO #[.U x.s,.S x.q (J x.b) x.d] 79));have Yx:sk (U (Q w)) Bs W (jA u (dO #[.U x.s,.S x.q (J x.b) x.d] 79)):=Yy.Z ⟨aH.alloc Qf _,YQ.Z (aj gy E).C⟩;let⟨fn,tmps,X,body,hy,Nd⟩:=hY j ⟨x,B⟩ _ Q6 ae
 try dsimp only at hy
 have UE:x.z<=1014:=by obtain h|⟨h,h',_⟩:=B<;>omega
 have HM:=Sh m V N y M B;have H2:=af Yx;gi_wp2;refine Nd.h ?_;rintro e W3(⟨rfl,EH,mc⟩|⟨rfl,La⟩);{
 by_cases D:x.z=0;{
 have vM:((x.z:Int)==0):=by simp[D]
 gi_wp2;refine bO (xK rfl _ _ _) rfl ?_;exact⟨⟨_,rfl⟩,.L ⟨_,⟨j,⟨x,B⟩,rfl,D⟩,EH⟩⟩};{
 have vM:((x.z:Int)==0)=dF:=by simp[D]
 gi_wp2;go_roundw
 case rel=>(
 let⟨m,V,N,y,M,_⟩:=aa HM;have hk:ng (l.drop a)=Y (x.s,x.b):=by rw[<-M];simp[key,D]
 let⟨r1,r2,_⟩:=T9 (y.drop _) hk;obtain h|⟨h,_⟩:=id B;{exact absurd h D};{rw[uC]at r1;refine⟨j++[⟨x,B⟩],a+x.z,f-1,ae,by go_num,cg,cg,?_,EH,H2.Z mc⟩;obtain⟨f',rfl⟩:∃f',f=f'+1:=⟨f-1,ae⟩;rw[JQ hk]at m;rw[rI,pO,Kn,h,<-FQ];rw[<-m];simp[key,D]})
 case measure=>simp[intOf];omega}}
 {gi_wp2;refine bO (xK rfl _ _ _) rfl ⟨⟨_,rfl⟩,.R ⟨_,?_,La⟩⟩;let⟨m,V,N,y,M,_⟩:=aa HM;rw[rI,<-m];refine(aT1 _).2 ?_;simp only[mR,Eg,M];exact aH4 ae}}})
variable {a:Act}{o:Oper}
theorem du3{l:Nat}{j:iE}(hd:∀c,o.op≠.defer c)(h:o.wp P a w K j):o.wpIn (Fence.wide.inRound l) n P a w K j:=by
 refine⟨λ_ _=>trivial,?_⟩;have e:o.semAt (Fence.wide.inRound l).round a.eval=execOp a.eval o:=aT0 _ _ _ hd;rw[e];unfold Oper.wp at h;generalize(execOp a.eval o).run P w=r at*;cases r with
 |ok x w'=>
  cases x<;>simp only[Oper.uponIn,Oper.upon]at h⊢
  case value=>exact h
  case skip=>exact h
  case defer=>exact h
  case enter f args=>exact⟨λi=>(by cases i),CallsIn.inRound l (IC.2 h)⟩
  case row row args=>exact⟨λi=>(by cases i),λc cs _=>let⟨v,m,r,s⟩:=h c cs;⟨v,m,r,stepsIn_wide.2 s⟩⟩
 |halt x w'=>cases x<;>simp only[Oper.uponIn,Oper.upon]at h⊢<;>exact h
theorem WA{l:Nat}{m:iE}(hd:∀o∈ops.toList,∀c,o.op≠.defer c)(hl:¬LetsOut m):∀(fuel:Nat)(listed:Array Bool)(a:Act)(w:G),
  wpAny P md ops m fuel listed a w->wpAnyIn (Fence.wide.inRound l) n P md ops m fuel listed a w
 |0,_,_,_,h=>h
 | fuel+1,listed,a,w,h=>by
  refine⟨h.1,λi q=>?_⟩;have j:=h.2 i q;unfold wpOp at j;unfold wpOpIn;cases ho:ops[i]? with
  |none=>
   simp only[ho]at j⊢;exact WA hd hl fuel _ a w j
  |some o=>
   simp only[ho]at j⊢;split;{rename_i hw;rw[aK hw]at j;obtain j|⟨_,j⟩:=j;{exact Oper.wpIn_mono (λa w h=>WA hd hl fuel _ a w h) (du3 (hd o (by rw[Array.mem_toList_iff];exact aR8 ho)) j)};{exact absurd j hl}};{rename_i hw;rw[aJ hw]at j;exact⟨λ_ _=>trivial,WA hd hl fuel _ _ w j⟩}
def aQ8(i:iQ):Bool:=i.toList.all λo=>match o.op with| .defer _=>dF|_=>dY
theorem bX6(h:aQ8 ops):∀o∈ops.toList,∀c,o.op≠.defer c:=by
 intro o i c e;have:=lW.1 h o i;rw[e]at this;cases this
theorem bJ0{l:Nat}(S:iP){id:Nat}{i:iE}(hm:P.follows .mixedOrders)(hd:aQ8 ops)(hl:¬LetsOut i)(j:S w.drew)(h:S w.drew->wpAnyH P .any ops i S ops.size (Array.replicate ops.size dF) a w.drew):(Code.region id ops dY).wpIn (Fence.wide.inRound l) n P i a w:=
 wpIn_region_any hm (WA (bX6 hd) hl _ _ _ _ (wpAny_of_held _ _ _ _ (h j)))
def sy:Option Int->Int->Bool
 |none,_=>dY
 |some t,s=>dD (t≠18446744073709551615)&&dD (s=t+1)
def qd:Option Int->List (Option R1)->List R1
 |_,[]=>[]
 |_,dN::_=>[]
 |t,Y r::rest=>if sy t r.1 then r::qd r.1 rest else[]
def sF(rs:List R1):Option Int:=rs.getLast?.map (·.1)
def kH:List R1->Nat
 |[]=>0
 |r::rs=>J r.2+14+kH rs
theorem aJ2(a b:List R1):kH (a++b)=kH a+kH b:=by induction a with|nil=>simp[kH]|cons r a ih=>simp[kH,ih];omega
theorem aX2(rs:List R1)(r:R1):sF (rs++[r])=r.1:=by simp[sF]
theorem cv1{t:Int}(s0:0<=s)(s1:s<2^64)(r:0<=t)(q:t<2^64):dQ dG 80 #[.U s,.U t] w λe w'=>e=dR (jO (sy t s))/\w'=w:=by
 by_cases h:t=18446744073709551615;{
 have e:sy t s=dF:=by simp[sy,h]
 rw[e];have m:(t != 18446744073709551615)=dF:=by simp[h]
 clear e;subst h;go_enter Tryz.func80,Tryz.ntmps80;go_wp2;go_ret;exact⟨rfl,rfl⟩};{
 have e:sy t s=dD (s=t+1):=by simp[sy,h]
 rw[e];have m:(t != 18446744073709551615):=by simp[h]
 have u:jY jU (t+1)=t+1:=u64_wrap_id _ ae ae;by_cases i:s=t+1;{
 have o:(s==t+1):=by simp[i]
 have j:dD (s=t+1):=by simp[i]
 rw[j];clear e h i j;go_enter Tryz.func80,Tryz.ntmps80;go_wp2;go_ret;exact⟨rfl,rfl⟩};{
 have o:(s==t+1)=dF:=by simp[i]
 have j:dD (s=t+1)=dF:=by simp[i]
 rw[j];clear e h i j;go_enter Tryz.func80,Tryz.ntmps80;go_wp2;go_ret;exact⟨rfl,rfl⟩}}
theorem Tryz.infoRec:(Tryz.prog.info? 79).map (λi=>(i.zero,i.size,i.bytes))=Y (Y (jP #[.U 0,aq]),2,32):=by kernel_rfl
theorem cI1{v':dV}{rs:List R1}{r:R1}(h:lf B w v rs vs)(R:Own B w u r.2)(EF:∀M∈vs,Tj M u)(W:w'.ownsRow B 79 2 v' (J rs+1) (Ii rs vs++[.U r.1,u]))(S:jG w w' (jB v)):lf B w' v' (rs++[r]) (vs++[u]):=by
 have q:∀{x:dV}{m:LI},Own B w x m->Own B w' x m:=λ{x m}j=>Own.aY5 (vs:=[v]) j (Kept.bV8 S ai) (λy s b Z X=>by simp only[td]at s;subst s;exact h.apart j b X Z);refine⟨by simp[h.len],?_,?_,?_⟩;{rw[bS5 rs vs r u h.len,eG];exact W};{
 intro i N x o j;by_cases D:i<J rs;{rw[qw D]at o;rw[qw (h.len▸D)]at j;exact q (h.own i N x o j)};{
 have Gs:i=J rs:=by have:=(bu.1 o).1;simp at this;omega
 subst Gs;rw[rG az,BQ]at o;rw[rG (h.len▸fq _),h.len,BQ]at j;simp at o j;subst o j;exact q R}};{rw[aS0];exact⟨h.ap,List.pairwise_singleton _ _,λa V b E=>by simp only[td]at E;subst E;exact EF a V⟩}
theorem bY1(m:I w (Ad g 0)=dU s)(o:I w (Ad g 1)=u):∀j x,([Value.U s,u]:List dV)[j]?=Y x->I w (((Ad g 0):Addr).add j)=Y x:=by
 intro j x i
 match j,i with
 |0,i=>simp at i;subst i;simpa[Ix]using m
 |1,i=>simp at i;subst i;simpa[Ix]using o
 |j+2,i=>simp at i
theorem dc3{iZ:iE}(iq:o.guard=dN){s:Operand}(ho:o.op=.call {callee:=.builtin .append,args:=#[s,x],argTypes:=#[75,75]}){rs:List R1}(en:Le rs n)(hs:a.eval s=v)(hx:a.eval x=.T g 1 1)(h:lf B w v rs vs){r:R1}(yQ:I w (Ad g 0)=dU r.1)(gL:I w (Ad g 1)=u)(hu:Own B w u r.2)(EF:∀u'∈vs,Tj u' u)(hl:n<=2^21)(hB:B<=U (Q w))(hK:∀p' c' w',lf B w' (.S p' (n+1) c') (rs++[r]) (vs++[u])->jG w w' (jB v)->K (a.put o.dst (.S p' (n+1) c')) w'):if jW o (yielded ops a.tmps)then Oper.wp dG o a w K iZ else E:=by
 have hw:jW o (yielded ops a.tmps):=by simp[jW,iq]
 rw[aK hw];let⟨i,hi,ki,fy,gJ⟩:=og Tryz.infoRec;obtain rfl:=aa en;let⟨pu,cu,eu⟩:=hu.form;refine wp_append_own w s x 75 ho B 79 i _ 2 32 Tryz.underlying75 hi ki fy gJ rfl aX v _ _ hs h.row (Ad g 0) 1 1 [.U r.1,u] hx rfl (bY1 yQ gL) ?_ kL ae hB ?_;{intro y hy;simp only[gv,Up,Uw]at hy;obtain rfl|rfl:=hy;{rfl};{rw[eu];rfl}};{intro v' w' h1 h2 _;have hR:=cI1 h hu EF h1 h2;obtain⟨p',c',rfl⟩:=hR.form;have:=hK p' c' w';rw[eG]at hR;exact(by simpa using this hR h2)}
theorem db9{iZ:iE}(hw:jW o (yielded ops a.tmps)){f:FuncId} (ho:o.op=.call {callee:=.value (.func f),args:=#[x1,x2],argTypes:=sX})(h1:a.eval x1=v1)(h2:a.eval x2=v2)(kn:∀vs,(callFunc f vs).run P w=.ok (.enter f vs) w)(hc:dQ P f #[v1,v2] w R)(hR:∀e w',R e w'->∃v,e=dR v/\K (a.put o.dst v) w'):if jW o (yielded ops a.tmps)then Oper.wp P o a w K iZ else E:=by
 rw[aK hw];have fW:(execOp a.eval o).run P w=.ok (.enter f #[v1,v2]) w:=by subst h1 h2;unfold execOp;simp[go_sem,ho,resolve,invoke,kn]
 show o.upon P a K iZ _;rw[fW,Mo];refine hc.h ?_;intro e w' h;obtain⟨v,rfl,hk⟩:=hR e w' h;exact hk
theorem lf.lt{rs:List R1}(h:lf B w v rs vs):∀u∈vs,∀b,jB u=Y b->b<U (Q w):=by
 intro u m b e;let⟨i,j⟩:=Dg m;obtain⟨r,o⟩:∃r,rs[i]?=Y r:=⟨_,bN (h.len▸(bu.1 j).1)⟩;exact(Own.lt (h.own i r u o j) b e).2
theorem lf.aj3{rs:List R1}(h:lf B w v rs vs):∀b,jB v=Y b->B<=b/\b<U (Q w):=Mp h.row
theorem lf.dk3{rs:List R1}(h:lf B w v rs vs):∀(j:Nat)(o:Obj),jB v=j->w.heap[j]?=o->o.isCells:=by
 intro j o e i;obtain⟨rfl,_⟩|⟨g,r,q,rfl,_,m,_⟩:=h.row.2;{simp[jB]at e};{simp[jB]at e;subst e;rw[m]at i;cases i;rfl}
theorem bI9{iZ:iE}(iq:o.guard=dN){s:Operand}(ho:o.op=.call {callee:=.builtin .append,args:=#[s,x],argTypes:=#[75,75]}){rs:List R1}(en:Le rs n)(g:Nat)(hs:a.eval s=v)(hx:a.eval x=.T g 1 1)(h:lf B w v rs vs){r:R1}(yQ:I w (Ad g 0)=dU r.1)(gL:I w (Ad g 1)=u)(hu:Own B w u r.2)(EF:∀u'∈vs,Tj u' u)(hl:n<=2^21)(hB:B<=U (Q w))(hK:∀p' c' w',lf B w' (.S p' (n+1) c') (rs++[r]) (vs++[u])->jG w w' (jB v)->wpList dG ops iZ rest (a.put o.dst (.S p' (n+1) c')) w'):wpList dG ops iZ (o::rest) a w:=by
 let⟨i,hi,ki,fy,gJ⟩:=og Tryz.infoRec;obtain rfl:=aa en;let⟨pu,cu,eu⟩:=hu.form;refine Uj w iq s x 75 ho B 79 i _ 2 32 Tryz.underlying75 hi ki fy gJ rfl aX v _ _ hs h.row (Ad g 0) 1 1 [.U r.1,u] hx rfl (bY1 yQ gL) ?_ kL ae hB ?_;{intro y hy;simp only[gv,Up,Uw]at hy;obtain rfl|rfl:=hy;{rfl};{rw[eu];rfl}};{intro v' w' h1 h2 _;have hR:=cI1 h hu EF h1 h2;obtain⟨p',c',rfl⟩:=hR.form;have:=hK p' c' w';rw[eG]at hR;exact(by simpa using this hR h2)}
theorem KeepsOthers.J3{W j:G}(h:Bw W j):KeepsOthers W j:=⟨h.size,λk o i _=>(h.block k (Ke.1 i).1).Z i⟩
theorem Own.MH{W j:G}(h:Own B W v l)(m:jG W j row)(hr:∀r,row=Y r->∃o:Obj,W.heap[r]?=o/\o.isCells=dF):Own B j v l:=by
 refine Px h m ?_;obtain⟨rfl,_⟩|⟨g,s,q,rfl,_,u,_⟩:=h.2;{exact .L rfl};{refine .R λe=>?_;let⟨o,i,hc⟩:=hr g e.C;rw[u]at i;cases i;cases hc}
theorem lf.MH{W q:G}{rs:List R1}(h:lf B W v rs vs)(m:jG W q row)(hr:∀r,row=Y r->∃o:Obj,W.heap[r]?=o/\o.isCells=dF):lf B q v rs vs:=by
 refine⟨h.len,Px h.row m ?_,λi r u x s=>Own.MH (h.own i r u x s) m hr,h.ap⟩;obtain⟨rfl,_⟩|⟨g,D,y,rfl,_,E,_⟩:=h.row.2;{exact .L rfl};{refine .R λe=>?_;let⟨o,j,hc⟩:=hr g e.C;rw[E]at j;cases j;cases hc}
theorem lf.set{rs:List R1}(h:lf B w v rs vs){a:Addr}(j:a.block<B)(u:dV):lf B (w.setCell a u) v rs vs:=
 ⟨h.len,xj h.row j u,λi r x o m=>Own.set (h.own i r x o m) j u,h.ap⟩
def uv(P:Program)(m:Region.Mode)(j:iQ)(o:iE)(S:iP)(x:Nat):Nat->Array Bool->Act->G->Prop
 |0,l,a,w=>Region.ready m j l=[]/\o .normal a w
 |n+1,l,a,w=>(Region.ready m j l=[]->o .normal a w)/\∀i∈Region.ready m j l,wpOp P j o i (λr q=>(i=x\/S q)/\uv P m j o S x n (jI l i dY) r q) a w
section
variable {P:Program}{md:Region.Mode}{ops:iQ}{iZ:Exit->Act->World->Prop}{S:World->Prop}{x:Nat}
theorem aH9:∀(n:Nat)(l:Array Bool)(a:Act)(w:G),uv P md ops iZ S x n l a w->wpAny P md ops iZ n l a w
 |0,_,_,_,h=>h
 |n+1,_,_,_,h=>⟨h.1,λi m=>wpOp_mono (λo j k=>aH9 n _ o j k.2) (h.2 i m)⟩
variable {v:dV}{i:Nat}{oi:Oper}
theorem cX1(W:ops[i]?=oi)(hs:∀(j:Nat)(o:Oper)cs b,ops[j]?=Y o->o.op≠.select cs b)(hQ:∀c a w,iZ (.panic c) (a.put oi.dst v) w->iZ (.panic c) a w)(hx:∀o,ops[x]?=Y o->∃e∈o.after,Region.binds md e/\e.on=i):∀(n:Nat)(l:Array Bool)(a:Act)(w:G),(∀j q,ops[j]?=Y q->j≠i->l.getD j dY=dF->(∀e∈q.after,Region.binds md e->e.on≠i)->oi.apart ops q)->i∈Region.ready md ops l->YieldsIf P ops S oi v a->S w->uv P md ops iZ S x n (jI l i dY) (a.put oi.dst v) w->uv P md ops iZ S x (n+1) l a w:=by
 intro n
 induction n with
 |zero=>
  intro l a w _ s E B H;refine⟨λe=>(by rw[e]at s;cases s),λj M=>?_⟩;by_cases e:j=i;{rw[e];exact E.wpOp W B ⟨.R B,H⟩};{have k:=ready_mono M e;rw[H.1]at k;cases k}
 |succ n ih=>
  intro l a w hf s E B H;refine⟨λe=>(by rw[e]at s;cases s),λj M=>?_⟩;by_cases e:j=i;{rw[e];exact E.wpOp W B ⟨.R B,H⟩};{
 let⟨D,q,m,KP⟩:=mem_ready.1 M;have iT:∀z∈q.after,Region.binds md z->z.on≠i:=λz N X r=>by have u:=KP z N X;have k0:=(mem_ready.1 s).1;rw[r]at u;by_cases hl:i<l.size;{simp[hl]at k0 u;rw[k0]at u;cases u};{simp[dz3 (Nat.le_of_not_lt hl)]at u}
 have V:j≠x:=λex=>by subst ex;let⟨z,N,X,r⟩:=hx q m;exact iT z N X r
 refine wpOp_mono (λa' Z k=>?_) (wpOp_putIf m (hf j q m e D iT) (λcs b=>hs i oi cs b W) (λcs b=>hs j q cs b m) hQ E (H.2 j (ready_mono M e)));have AW:S Z:=k.2.1.resolve_left V;refine⟨.R AW,ih (jI l j dY) a' Z (λk' ok hk R Es hn=>hf k' ok hk R ?_ hn) (ready_mono s (El e)) k.1 AW ?_⟩;{by_cases y:j=k';{rw[<-y];exact D};{rw[getD_set_ne dY y]at Es;exact Es}};{rw[Array.setIfInBounds_comm _ _ e];exact k.2.2}}
variable {l:Array Bool}{a:Act}{w:G}
theorem aH8{n:Nat}(h:iZ .normal a w)(hr:Region.ready md ops l=[]:=by kernel_rfl):uv P md ops iZ S x n l a w:=by
 cases n with
 |zero=>exact⟨hr,h⟩
 |succ n=>exact⟨λ_=>h,by rw[hr];simp⟩
variable {n:Nat}{o:Oper}
theorem CE(i:Nat) (h:∀K':Act->G->Prop,Shut (∀a w,(i=x\/S w)->((i=x\/S w)->uv P md ops iZ S x n (jI l i dY) a w)->K' a w)->if jW o (yielded ops a.tmps)then Oper.wp P o a w K' iZ else K' (a.put o.dst jQ) w)(hi:ops[i]?=o:=by(simp only[uB,vF,vE];rfl))(hr:Region.ready md ops l=[i]:=by kernel_rfl):uv P md ops iZ S x (n+1) l a w:=by
 refine⟨λe=>?_,λj hj=>?_⟩;{rw[hr]at e;cases e};{rw[hr]at hj;obtain rfl:=td.1 hj;exact wpOp_step hi (λK' hK=>h K' (λa w hS hW=>hK a w ⟨hS,hW hS⟩))}
def TE(P:Program)(m:Region.Mode)(j:iQ)(o:iE)(S:iP)(x:Nat)(l:Array Bool)(i:Nat)(a a':Act):Prop:=∀n w,S w->uv P m j o S x n (jI l i dY) a' w->uv P m j o S x (n+1) l a w
theorem WL{v:dV}{l:Array Bool}{a a':Act}(hi:ops[i]?=oi:=by(simp only[uB,vF,vE];rfl))(hs:Region.noSelect ops:=by kernel_rfl)(hf:Region.free md ops l i:=by kernel_rfl)(hr:(Region.ready md ops l).contains i:=by kernel_rfl)(hx:((ops[x]?.map λo=>o.after.toList.any λe=>Region.binds md e&&e.on==i).getD dF)=dY:=by kernel_rfl)(hQ:∀c a w,iZ (.panic c) (a.put oi.dst v) w->iZ (.panic c) a w:=by exactλ_ _ _ h=>h)(hg:jW oi (yielded ops a.tmps):=by rfl)(hy:∀w,S w->(execOp a.eval oi).run P w=.ok (.value v) w:=by(intro w' nR;(try dsimp only at nR);go_simp;try with_reducible rfl))(ha:a.put oi.dst v=a':=by(simp only[Act.put,xa,xb,xc];rfl)):TE P md ops iZ S x l i a a':=
 λn w hS h=>cX1 hi (Region.noSelect_spec hs) hQ (λo ho=>by rw[ho]at hx;simp only[Iv,ta,Ur,gI,Ee]at hx;obtain⟨e,he,h1,h2⟩:=hx;exact⟨e,by simpa using he,h1,h2⟩) n l a w (Region.free_spec hi hf) (by simpa using hr) (Or.L ⟨hg,hy⟩) hS (ha▸h)
theorem tEo(i:Nat){v:dV}{a a':Act}(hS:S w)(h:uv P md ops iZ S x n (jI l i dY) a' w)(hi:ops[i]?=oi:=by(simp only[uB,vF,vE];rfl))(hr:Region.ready md ops l=[i]:=by kernel_rfl)(hg:jW oi (yielded ops a.tmps):=by rfl)(hy:∀w,S w->(execOp a.eval oi).run P w=.ok (.value v) w:=by(intro w' nR;(try dsimp only at nR);go_simp;try with_reducible rfl))(ha:a.put oi.dst v=a':=by(simp only[Act.put,xa,xb,xc];rfl)):uv P md ops iZ S x (n+1) l a w:=by
 refine⟨λe=>(by rw[hr]at e;cases e),λj hj=>?_⟩;rw[hr]at hj;obtain rfl:=td.1 hj;have hY:YieldsIf P ops S oi v a:=Or.L ⟨hg,hy⟩;exact hY.wpOp hi hS ⟨.R hS,ha▸h⟩
variable {a':Act}
theorem tEn(i:Nat)(hS:S w)(h:uv P md ops iZ S x n (jI l i dY) a' w)(t:TE P md ops iZ S x l i a a':=by exact WL):uv P md ops iZ S x (n+1) l a w:=t _ _ hS h
theorem tED(i0 i1 i2 i3:Nat){a0 a1 a2 a3 a4:Act}(hS:S w)(h:uv P md ops iZ S x n (jI (jI (jI (jI l i0 dY) i1 dY) i2 dY) i3 dY) a4 w)(x0:TE P md ops iZ S x l i0 a0 a1:=by exact WL)(x1:TE P md ops iZ S x (jI l i0 dY) i1 a1 a2:=by exact WL)(x2:TE P md ops iZ S x (jI (jI l i0 dY) i1 dY) i2 a2 a3:=by exact WL)(x3:TE P md ops iZ S x (jI (jI (jI l i0 dY) i1 dY) i2 dY) i3 a3 a4:=by exact WL):uv P md ops iZ S x (n+4) l a0 w:=x0 _ _ hS (x1 _ _ hS (x2 _ _ hS (x3 _ _ hS h)))
variable {K:Act->G->Prop}
theorem Io(hK:Shut (∀a w,(i=x\/S w)->((i=x\/S w)->uv P md ops iZ S x n l a w)->K a w))(hS:S w)(h:S w->uv P md ops iZ S x n l a' w)(ha:a=a':=by((try simp only[Act.put,xa,xb,xc]);rfl)):K a w:=hK.out _ _ (.R hS) λ_=>ha▸h hS
theorem oGX(hK:Shut (∀a w,(x=x\/S w)->((x=x\/S w)->uv P md ops iZ S x n l a w)->K a w))(h:uv P md ops iZ S x n l a w):K a w:=hK.out _ _ (.L rfl) λ_=>h
theorem bI5(x:Nat){id:Nat}(hS:S w.drew)(h:S w.drew->uv P .any ops iZ S x ops.size (Array.replicate ops.size dF) a w.drew)(hm:P.follows .mixedOrders:=by kernel_rfl):(Code.region id ops dY).wp P iZ a w:=
 wp_region_any hm (aH9 _ _ _ _ (h hS))
end
attribute [local go_sem] Oper.semAt_some
def aD1(w:G)(rs:List R1)(e:Ending)(w':G):Prop:=
 ∃p c i,e=dR (dT #[.S p (J rs) c,.I (kH rs:Nat)])/\lf (U (Q w)) w' (.S p (J rs) c) rs i/\Bw w w'
def rl(l:LI):List R1:=qd dN (yl (J l+1) l)
abbrev keys{w:G}(pre:List (Fj w)):List (Option R1):=pre.map λx=>key x.1
def Oo(w W:G)(rs:List R1)(v:dV)(vs:List dV):Prop:=
 I W (Aw w 0)=v/\jF W (Aw w 0)=dF/\I W (Ax w 0)=dI (kH rs:Nat)/\jF W (Ax w 0)=dF/\lf (U (Q w)+3) W v rs vs
def Inv(w:G)(pre:List (Fj w))(W:G):Prop:=
 ∃j v m,Oo w W j v m/\(∀i,qd dN (keys pre++i)=j++qd (sF j) i)/\(∀x∈pre,x.1.z≠0)/\J j=J pre/\kH j<=1014*J pre/\(∀r∈j,J r.2<=1000/\0<=r.1/\r.1<2^64)
def aD7(w:G)(c:Code)(m:List (Fj w))(W:G):Prop:=
 c=.exit 0/\∃j v o,Oo w W j v o/\(∀i,qd dN (keys m++i)=j)
theorem Oo.MH{w W j:G}{rs:List R1}(h:Oo w W rs v vs)(i:jG W j row)(hr:∀r,row=Y r->∃o:Obj,W.heap[r]?=o/\o.isCells=dF):Oo w j rs v vs:=
 ⟨cell_kept h.1 i hr,(frozen_kept h.1 i hr).Z h.2.1,cell_kept h.2.2.1 i hr,(frozen_kept h.2.2.1 i hr).Z h.2.2.2.1,h.2.2.2.2.MH i hr⟩
theorem Oo.H{w W i:G}{rs:List R1}(h:Oo w W rs v vs)(j:Bw W i):Oo w i rs v vs:=
 h.MH (row:=dN) (aw6 j) (λr e=>by cases e)
theorem Inv.own(w:G)(B:Nat):OwnFrom B (Inv w):=by
 rintro s W x row⟨j,v,i,u,o⟩q m;exact⟨j,v,i,u.MH q (λr e=>(m r e).2),o⟩
theorem aD7.own(w:G)(c:Code)(B:Nat):OwnFrom B (aD7 w c):=by
 rintro s W x row⟨hc,j,v,i,u,o⟩q m;exact⟨hc,j,v,i,u.MH q (λr e=>(m r e).2),o⟩
theorem Inv.H{w W i:G}{pre:List (Fj w)}(h:Inv w pre W)(r:Bw W i):Inv w pre i:=by
 obtain⟨m,v,j,q,o⟩:=h;exact⟨m,v,j,q.H r,o⟩
theorem eC4{w W V w9:G}{x:It}(Z:Good w x){pre:List (Fj w)}{rs:List R1}{c9 K:Nat}(z0:W0s=U (Q w)+3)(hz:W0s<=U (Q W))(KV:KeepsOthers W V)(q:Bw W V)(hb:Bw w V)(c0:I V (Aw w 0)=v)(c1:jF V (Aw w 0)=dF)(c2:I V (Ax w 0)=dI (kH rs:Nat))(c3:jF V (Ax w 0)=dF)(ho:lf (U (Q w)+3) V v rs vs)(i:Below (U (Q w)+3) V w9)(o:KeepsOthers V w9)(QS:lf (U (Q w)+3) w9 (.S p9 (K+1) c9) (rs++[(x.s,x.b)]) (vs++[u]))(eK:Le rs K)(HX:O (x.z=J x.b+14/\aA x.b/\key x=Y (x.s,x.b)))(HF:O ((∀rest,qd dN (keys pre++rest)=rs++qd (sF rs) rest)/\(∀y∈pre,y.1.z≠0)/\K=J pre/\kH rs<=1014*J pre/\(∀r∈rs,J r.2<=1000/\0<=r.1/\r.1<2^64)))(lh:O (sy (sF rs) x.s))(UF:J x.b<=1000)(m:0<=x.s)(j:x.s<2^64):KeepsFrom W0s W (jS (jS w9 (Aw w 0) (.S p9 (K+1) c9)) (Ax w 0) (.I ((kH rs:Int)+(x.z:Int))))∧
  sk (U (Q w)) (U (Q w)+2) W (jS (jS w9 (Aw w 0) (.S p9 (K+1) c9)) (Ax w 0) (.I ((kH rs:Int)+(x.z:Int))))∧
  Inv w (pre++[⟨x,Z⟩]) (jS (jS w9 (Aw w 0) (.S p9 (K+1) c9)) (Ax w 0) (.I ((kH rs:Int)+(x.z:Int))))∧
  Bw w (jS (jS w9 (Aw w 0) (.S p9 (K+1) c9)) (Ax w 0) (.I ((kH rs:Int)+(x.z:Int))))/\W0s<=U (Q (jS (jS w9 (Aw w 0) (.S p9 (K+1) c9)) (Ax w 0) (.I ((kH rs:Int)+(x.z:Int))))):=by
 let⟨UE,hxB,UR⟩:=aa HX;let⟨IZ,UN,hrl,yJ,D⟩:=aa HF;have fk:=aa lh;have eK':=aa eK;have KQ:U (Q w)+3<=U (Q V):=by have:=q.size;omega
 have X:=(i.cell (p:=(Aw w 0)) (by show U (Q w)<_;omega)).Z c0;have R:=(i.frozen (p:=(Aw w 0)) (by show U (Q w)<_;omega)).Z c1;have N:=(i.cell (p:=(Ax w 0)) (by show U (Q w)+1<_;omega)).Z c2;have M:=(i.frozen (p:=(Ax w 0)) (by show U (Q w)+1<_;omega)).Z c3;have E:=i.cell (p:=(Ad (U (Q w)+2) 0)) (by show U (Q w)+2<_;omega);have B:Below (U (Q w)) W w9:=(q.h ae).Z (i.h ae);have me:Bw w w9:=hb.Z (i.h ae);refine⟨((KV.Z o).Z ((KeepsOthers.setCell _ _ _).Z (KeepsOthers.setCell _ _ _))).from _,⟨(B.setCell az _).setCell ai _,?_⟩,⟨rs++[(x.s,x.b)],.S p9 (K+1) c9,vs++[u],⟨?_,?_,?_,?_,?_⟩,?_,?_,?_,?_,?_⟩,(me.setCell az _).setCell ai _,?_⟩;{rw[Xu _ _ _ _ ai,Xu _ _ _ _ ai,E];exact Iz (a:=(Ad (U (Q w)+2) 0)) (q.block _ (by show U (Q w)+2<_;omega))};{rw[Xu _ _ _ _ ai];exact Xt _ _ _ (by rw[X];rfl)};{rw[Ej,Ej];exact R};{
 have:((kH (rs++[(x.s,x.b)]):Nat):Int)=(kH rs:Int)+(x.z:Int):=by rw[aJ2];simp[kH];omega
 rw[this];refine Xt _ _ _ ?_;rw[Xu _ _ _ _ ai,N];rfl};{rw[Ej,Ej];exact M};{exact(QS.set (by show U (Q w)<_;omega) _).set (by show U (Q w)+1<_;omega) _};{intro rest;simp only[rI,mR,Eg,pO,Al,Ef];rw[UR,IZ (Y (x.s,x.b)::rest),aX2];simp[qd,fk]};{intro y hy;obtain h|h:=jg.1 hy;{exact UN y h};{simp at h;subst h;show x.z≠0;omega}};{simp;omega};{rw[aJ2];simp[kH];omega};{intro r hr;obtain h|h:=jg.1 hr;{exact D r h};{simp at h;subst h;exact⟨UF,m,j⟩}};{show W0s<=_;have:=B.size;have:=i.size;simp;omega}
theorem cX0{l n:Nat}{iZ:iE}{x:Nat}{id:Nat}(hl:¬LetsOut iZ)(hS:S w.drew)(h:S w.drew->uv P .any ops iZ S x ops.size (Array.replicate ops.size dF) a w.drew)(hm:P.follows .mixedOrders:=by kernel_rfl)(hd:aQ8 ops:=by kernel_rfl):(Code.region id ops dY).wpIn (Fence.wide.inRound l) n P iZ a w:=
 wpIn_region_any hm (WA (bX6 hd) hl _ _ _ _ (aH9 _ _ _ _ (h hS)))
set_option maxRecDepth 100000 in
theorem dI8(hn:3<=n)(hR:Rd w (.S p len cap) l)(hB:aA l)(el:J l=len)(hlen:len<=2^20)(vg:len<=cap)(oY:cap<=maxLen)(hp:(p=dN/\cap=0)\/∃b o,p=(Ad b o)):CallsIn Fence.wide n dG 42 #[.S p len cap] w (aD1 w (rl l)):=by
 have h1:1<=n:=ae;refine callsIn_of_wp_marks func42 rfl gQ ?_ rfl;simp only[ntmps42,Ff,Nat.reduceAdd,Nat.reduceSub];refine wpIn_wide.2 ?_
 go_wp21
 refine wp_scope_straight ?_
 go_wp21
 go_step3
 go_wp21
 refine(IC.1 (dn9 (n:=0))).h ?_;rintro e w1⟨rfl,rfl⟩
 go_wp21
 let⟨W0,bG⟩:=aF (jA (jA (jA w (dO #[aq] 75)) (dO #[.I 0] 3)) (dO #[.S p len cap] 22));have z0:U (Q W0)=U (Q w)+3:=by rw[bG];simp
 have k0:I W0 (Aw w 0)=aq:=by rw[bG];simp[go_sem]
 have f0:jF W0 (Aw w 0)=dF:=by rw[bG];simp[go_sem]
 have k1:I W0 (Ax w 0)=dI 0:=by rw[bG];simp[go_sem]
 have f1:jF W0 (Ax w 0)=dF:=by rw[bG];simp[go_sem]
 have k2:I W0 (Ad (U (Q w)+2) 0)=dS p len cap:=by rw[bG];simp[go_sem]
 have EO:Bw w W0:=by rw[bG];exact((aH.alloc az _).alloc ai _).alloc cg _
 rw[<-bG];clear bG;refine(wpIn_wide (n:=n)).1 ?_;refine wpIn_rangeFunc_ownH (F:=Fence.wide) rfl h1 (gf:=136) (lb:=#[Pz (U (Q w)+2)]) rfl gQ (enters_of func136 aU rfl)
  (α:=Fj w) (encs:=aZ0) (Kp:=sk (U (Q w)) (U (Q w)+2)) (S:=λys=>∃m x,ys=m++[x]/\x.1.z=0) (Sp:=λm=>keys m <+: yl (len+1) l) (N:=len+2) (w0:=W0) ?seq (λh k=>h.Z k) (sk.put ae ae) aH (λ_=>rfl)
  (λm W=>Inv w m W/\Bw w W/\U (Q W0)<=U (Q W)) (λc m W=>aD7 w c m W/\Bw w W)
  (OwnFrom.and (Inv.own w _) (OwnFrom.and (ownFrom_below az ae) (λ_ _ _ _ h hg _=>fx h hg.size)))
  (λc=>OwnFrom.and (aD7.own w c _) (ownFrom_below az ae))
  ⟨⟨[],_,[],⟨k0,f0,k1,f1,lf.nil _ _⟩,by simp[sF],ai,rfl,by simp[kH],ai⟩,EO,fq _⟩
  (λx a' W=>∃R,U (Q W0)<=R/\BG W R (.U x.1.s) (.S x.1.q (J x.1.b) x.1.d)/\(∃v0,I W (Aw w 0)=Y v0/\jB v0≠Y R)/\a'={tmps:=#[.S p len cap,jQ,aq,.I 0,Pz (U (Q w)),Pz (U (Q w)+1),Pz R,.I x.1.z,.S p len cap,.func (.func 136) #[] #[Pz (U (Q w)+2)],yy x.1.s (.S x.1.q (J x.1.b) x.1.d),.I x.1.z,jQ,jQ,jQ,jQ,jQ,jQ,jQ,jQ,jQ,jQ,jQ,jQ,jQ,jQ,jQ,jQ,jQ,jQ,jQ,jQ,jQ,jQ,jQ,jQ,jQ,jQ,jQ,jQ,jQ,jQ,jQ,jQ,jQ,jQ,jQ],defers:=[]})
  ?ax ?assign ?body ?done ?stop
 case seq=>(
 intro L iJ Jx W hW hJ hJx hY h0;refine(dH3 (n:=n-1) ae (L:=L) (Bs:=U (Q w)+2) (len:=len) (cap:=cap) (p:=p) (l:=l) (w:=w) hR hB el hlen vg oY hp iJ Jx (W:=W) hJ hY ((hW.cell (p:=(Ad (U (Q w)+2) 0)) (by show U (Q w)+2<_;omega)).Z k2) (EO.Z (hW.h ae)) h0).h ?_;rintro e W'⟨he,h⟩;exact⟨he,h⟩)
 case ax=>(
 rintro x a' _ W W' row⟨R,rT,hA,⟨v0,fU,Gg⟩,ha⟩hg hr;exact⟨R,rT,⟨cell_kept hA.1 hg (λr e=>(hr r e).2),cell_kept hA.2 hg (λr e=>(hr r e).2)⟩,⟨v0,cell_kept fU hg (λr e=>(hr r e).2),Gg⟩,ha⟩)
 case assign=>(
 rintro L m x W K⟨hi,Z,hz⟩hK;gi_wp2;let⟨rs,v,vs,⟨M,_,_,_,ho⟩,_⟩:=id hi;exact hK _ _ ((KeepsOthers.alloc _ _).from _) ⟨(aR _ W).alloc (by have:=Z.size;omega) _,Iz (a:=(Ad (U (Q w)+2) 0)) (Xp W _ _ (by show U (Q w)+2<_;omega))⟩ ⟨hi.H (aH.alloc az _),Z.alloc Z.size _,cg⟩ ⟨U (Q W),hz,by simp[BG],⟨v,aj M (aH.alloc az _),λe=>by have:=(ho.aj3 _ e).2;omega⟩,rfl⟩)
 case body=>(
 rintro L m⟨x,oW⟩a' W hL⟨r,hr⟩⟨⟨rs,v,vs,⟨M,c1,c2,c3,ho⟩,IZ,UN,hrl,yJ,xW⟩,Z,hz⟩⟨R,rT,hA,ea7,rfl⟩kx;obtain⟨pv,cv,rfl⟩:=ho.form;obtain⟨v0,d0,Vi⟩:=ea7;rw[M]at d0;obtain rfl:.S pv (J rs) cv=v0:=by simpa using d0
 clear d0;let⟨K,eK⟩:=aZ (J rs);rw[eK]at ho M hrl Vi;dsimp only at*;have kn:∀(vs:iA)(w:G),(callFunc 81 vs).run dG w=.ok (.enter 81 vs) w:=λvs w=>aU;have hcg:∀(vs:iA)(w:G),(callFunc 80 vs).run dG w=.ok (.enter 80 vs) w:=λvs w=>aU;by_cases hx:x.z=0;{
 have Av:((x.z:Int)==0):=by simp[hx]
 gi_wp2;refine⟨KeepsFrom.refl _ _,⟨rfl,rs,_,vs,⟨M,c1,c2,c3,ho⟩,λX=>?_⟩,Z⟩;have:=IZ (dN::X);simp only[rI,mR,Eg,pO,Al,Ef];rw[show key x=dN by simp[key,hx],this];simp[qd]};{
 have Av:((x.z:Int)==0)=dF:=by simp[hx]
 have UR:key x=Y (x.s,x.b):=by simp[key,hx]
 obtain⟨UE,UF,hxB,xs0,xs1,hRx⟩:x.z=J x.b+14/\J x.b<=1000/\aA x.b/\0<=x.s/\x.s<2^64/\Rd w (.S x.q (J x.b) x.d) x.b:=by obtain h|h:=oW;{exact absurd h hx};{exact h}
 gi_wp2_with fail
 have HX:=dy UE hxB UR;have HF:=nF IZ UN hrl yJ xW;have eKh:=af eK;have hKn:K<=1048578:=ae;have fh4:(kH rs:Int)<=1100000000:=ae;have fg8:(x.z:Int)<=1014:=ae;clear IZ UN hrl yJ xW UE hxB UR;let⟨vv,evv⟩:=aZ (Value.slice pv K cv);have VB:=M;have HO:=af ho;have HV:O (I W (Aw w 0)=vv/\lf (U (Q w)+3) W vv rs vs/\jB vv≠Y R):=by rw[<-evv];exact⟨M,ho,Vi⟩
 clear evv ho Vi M;by_cases hK0:K=0;rotate_left;have US:K-1<J rs:=ae;obtain⟨⟨t,bt⟩,vO⟩:∃r,rs[K-1]?=Y r:=⟨_,bN US⟩;have HL:O (sF rs=t):=by show _=_;unfold sF;rw[an3,eK,vO];rfl
 let⟨t0,t1⟩:=HF.2.2.2.2 _ (bq vO) |>.2;obtain⟨u,hu⟩:∃u,vs[K-1]?=Y u:=⟨_,bN (by rw[HO.len];exact US)⟩;obtain⟨_,h0⟩|⟨g,LG,cur,ev,xu,IY,_,_,_,_⟩:=id HO.row.2;{omega};simp only[ti]at ev;obtain⟨rfl,-,rfl⟩:=ev;have TM:=HO.row;rw[eK]at TM;have d0:=(TM.cellAt (2*(K-1)) ae).Z (aj9 rs vs (K-1) _ u vO hu).1;rw[XH]at d0;dsimp only at d0;let⟨K1,eK1⟩:=aZ (K-1);rw[eK1]at d0;have uk:(K:Int)-1=(K1:Int):=ae;have uj:=rr 0 K;have GF:=bR K1 K;have KT:0<K:=ae;have Cl:K1<=1048578:=ae;have GC:(K1:Int)<=1048578:=ae;have Gz:=iw K1;refine bJ0 (λw'=>I w' (Aw w 0)=dK g K cv/\BG w' R (.U x.s) (.S x.q (J x.b) x.d)/\I w' (Ad g (K1*2))=dU t) aU aU (by rintro⟨_,_,h⟩;exact h) (aD VB (aD hA d0)) (λhS=>?_);refine gh 0 1 hS ?_;refine tk 2 hS (v:=jO dY) (h:=?_);simp only[Act.put,xa,xb,xc];refine jh 3 4 5 6 7 8 9 10 hS ?_;refine gh 11 12 hS ?_;refine ry [13] ?_;refine cn (λKK hK=>?_) ?_;rotate_left;exact fI;rotate_left;refine db9 aP (f:=80) aP (v1:=.U x.s) (v2:=.U t) aP aP (λ_=>hcg _ _) (cv1 (s:=x.s) (t:=t) xs0 xs1 t0 t1) ?_;rintro e w7⟨rfl,rfl⟩;refine⟨_,rfl,?_⟩;refine bQ hK hS λhS=>?_;generalize M6:sy t x.s=bk;refine gh 14 15 hS ?_;refine tn 16 hS ?_;refine cI4 ?_;cases bk;{gi_wp2;obtain⟨M,ho,-⟩:=aa HV;refine⟨(KeepsOthers.drew _).from _,⟨rfl,rs,_,vs,⟨M,c1,c2,c3,ho.H aH.drew⟩,λX=>?_⟩,Z.drew⟩;obtain⟨IZ,-⟩:=aa HF;obtain⟨-,-,UR⟩:=aa HX;have h2:=IZ (Y (x.s,x.b)::X);simp only[rI,mR,Eg,pO,Al,Ef];rw[UR,h2,aa HL];simp[qd,M6]};have lh:O (sy (sF rs) x.s):=by show _=_;rw[aa HL];exact M6
 rotate_left;have lh:O (sy (sF rs) x.s):=by show _=_;rw[Is (eK.Z hK0)];rfl
 refine bJ0 (λw'=>I w' (Aw w 0)=dS pv K cv) aU aU (by rintro⟨_,_,h⟩;exact h) VB (λhS=>?_);refine gh 0 1 hS ?_;refine tk 2 hS (v:=jO dF) (h:=?_);simp only[Act.put,xa,xb,xc];refine tn 3 hS ?_;refine lT 4 5 6 7 hS ?_;refine lT 8 9 10 11 hS ?_;refine sn 12 hS ?_;refine sn 13 hS ?_;refine sn 14 hS ?_;refine gh 15 16 hS ?_;refine cI4 ?_
 all_goals
  clear hS VB HO hK0;let⟨M,ho,Vi⟩:=aa HV;clear HV
  gi_wp2_with fail
  replace M:I W.drew (Aw w 0)=Y _:=M;replace c1:jF W.drew (Aw w 0)=dF:=c1;replace c2:I W.drew (Ax w 0)=Y _:=c2;replace c3:jF W.drew (Ax w 0)=dF:=c3;replace ho:=ho.H (aR (U (Q W)) W).drew;replace hA:BG W.drew R (.U x.s) (.S x.q (J x.b) x.d):=hA;replace Z:Bw w W.drew:=Z.drew;have KV:KeepsOthers W W.drew:=KeepsOthers.drew W;have BV:Bw W W.drew:=aH.drew;have hzV:U (Q W0)<=U (Q W.drew):=hz;generalize W.drew=V at*;have B5:Bw V (jA V.drew (dO #[.S x.q (J x.b) x.d] 22)):=((aR (U (Q V)) V).drew).alloc az _;refine cX0 (x:=10) (S:=λw'=>I w' (Aw w 0)=vv/\BG w' R (.U x.s) (.S x.q (J x.b) x.d)) (by rintro⟨_,_,h⟩;exact h) ⟨M,hA⟩ (λhS=>?_);refine tED 0 1 2 3 hS ?_;refine tEn 4 hS ?_;refine CE 5 (λKK hK=>?_);go_simp;refine Io hK ⟨aj M B5,hA.H B5⟩ λhS=>?_;clear hK KK;refine CE 6 (λKK hK=>?_);refine Ic aP (f:=81) aP (v1:=.T (U (Q V)) 1 1) aP (λ_=>kn _ _) (Ep (g:=U (Q V)) (vs:=[.S x.q (J x.b) x.d]) [x.b] (lm:=x.b) (n:=J x.b) 1 rfl (by show _=_;rw[aA6]) rfl (bV3 ai (hRx.H (Xs Z (B5.h ae)))) ae ae) ?_;rintro e w6⟨p6,c6,rfl,o6,gj⟩;refine⟨_,rfl,?_⟩;have B6:=ah B5 gj;have z6:=B6.size;have z6':=gj.size;have dW3:∀u'∈vs,Tj u' (.S p6 (J x.b) c6):=λu' Qg b e1 e2=>by have h1:=ho.lt u' Qg b e1;have h2:=(Own.lt o6 b e2).1;simp at h2;omega
  refine Io hK ⟨aj M B6,hA.H B6⟩ λhS=>?_;clear hK KK;refine tEo 7 hS ?_;refine CE 8 (λKK hK=>?_);go_simp;have B8:Bw V (jA w6 (dO #[.U x.s,.S p6 (J x.b) c6] 79)):=B6.alloc ae _;refine Io hK ⟨aj M B8,hA.H B8⟩ λhS=>?_;clear hK KK;refine CE 9 (λKK hK=>?_);refine dc3 aP aP (B:=U (Q w)+3) (v:=vv) (rs:=rs) (vs:=vs) (n:=K) eKh (g:=U (Q w6)) aP aP (ho.H B8) (r:=(x.s,x.b)) (u:=.S p6 (J x.b) c6) ai ai (Own.h (Own.H o6 (aH.alloc az _)) cg) dW3 ae cg ?_;intro p9 c9 w9 QS qA;have Cm:Below (U (Q w)+3) V w9:=(B8.h ae).grown qA (by have:=B8.size;omega) (λb e=>(ho.aj3 b e).1);have q0:=(Cm.cell (p:=(Aw w 0)) (by show U (Q w)<_;omega)).Z M;have q1:∀o,jF w9 (Aw w o)=jF V (Aw w o):=λo=>Cm.frozen (p:=(Aw w o)) (by show U (Q w)<_;omega);refine Io hK ⟨q0,qA.cell hS.2.1 (λe=>Vi e.C),qA.cell hS.2.2 (λe=>Vi e.C)⟩ λhS=>?_;clear hK KK;refine CE 10 (λKK hK=>?_);go_simp;refine oGX hK ?_;clear hK KK hS;refine aH8 ?_;have q2:=(Cm.cell (p:=(Ax w 0)) (by show U (Q w)+1<_;omega)).Z c2;have q3:=(Cm.frozen (p:=(Ax w 0)) (by show U (Q w)+1<_;omega)).Z c3;have KO9:=af ((KeepsOthers.J3 B8).Z (KeepsOthers.of_grownBy qA (ho.H B8).dk3));gi_wp2;exact eC4 (w:=w) (W:=W) (V:=V) (w9:=w9) (W0s:=U (Q W0)) (x:=x) oW (pre:=m) (rs:=rs) (vs:=vs) (p9:=p9) (c9:=c9) (K:=K) z0 hz KV BV Z M c1 c2 c3 ho Cm KO9 QS eKh HX HF lh UF xs0 xs1})
 case done=>(
 rintro D ys W hD⟨m,x,rfl,hx⟩⟨⟨rs,v,vs,_,_,UN,_⟩,_⟩hK;exact absurd hx (UN x ai))
 case stop=>(
 rintro D c ys W hD hSp⟨⟨rfl,rs,v,vs,⟨M,c1,c2,c3,ho⟩,IZ⟩,Z⟩hK;obtain⟨X,ci6⟩:=hSp;have erl:rl l=rs:=by unfold rl;rw[el,<-ci6];exact IZ X
 obtain⟨pv,cv,rfl⟩:=ho.form;refine wpIn_wide.2 ?_;clear IZ ci6
 go_wp21
 have k0:=aD M c2
 go_region_held3 (λw'=>I w' (Aw w 0)=dS pv (J rs) cv/\I w' (Ax w 0)=dI (kH rs:Nat)) (exact k0) (fail)
 go_wp2
 try rw[Exit.noGoto_ret]
 refine⟨ai,.L ⟨_,_,rfl,run_takeDeferred (w:=W.drew) hK,?_⟩⟩;have hKd:W.drew.heap[D]?=Y (.deferred (Y [])):=hK;refine⟨dT #[.S pv (J rs) cv,.I (kH rs:Nat)],by simp[results,results42,go_sem],?_⟩;rw[erl];refine⟨pv,cv,vs,rfl,((ho.H aH.drew).MH (grownBy_putObj' W.drew D (.deferred dN)) (λr e=>by cases e;exact⟨_,hKd,rfl⟩)).h ae,?_⟩;exact Z.drew.Z (belowK_b (w:=w) az W.drew D _ _ ae hKd rfl rfl))
theorem cg0(r:Rd w (.S p len cap) l)(s:aA l)(u:J l=len)(i:len<=2^20)(j:len<=cap)(m:cap<=maxLen)(q:(p=dN/\cap=0)\/∃b o,p=(Ad b o)):Cp 42 #[.S p len cap] w (aD1 w (rl l)):=
 IC.1 (dI8 (n:=3) ae r s u i j m q)
theorem Own.dg7{R:Nat}(h:Own B w v l)(o:∀b,jB v=Y b->b≠R)(x y:dV):Own B (jS (jS w (Ad R 0) x) (Ad R 1) y) v l:=by
 refine⟨h.1,?_⟩;obtain s|⟨g,m,j,rfl,r,q,i⟩:=h.2;{exact .L s};{exact .R ⟨g,m,j,rfl,r,((Xz _ _ _ _ (o g rfl)).Z (Xz _ _ _ _ (o g rfl))).Z q,i⟩}
variable {a:Nat}
theorem TQ{rs:List R1}{K:Nat}(e:rl l=rs)(m:Le rs K)(o:O (kH rs=a))(i:lf (U (Q w)) wr (.S p K c) rs vs)(j:Bw w wr):aD1 w (rl l) (dR (dT #[.S p K c,.I (a:Int)])) wr:=by
 have r:=aa m;have q:=aa o;subst r q;rw[e];exact⟨p,c,vs,rfl,i,j⟩
def Og(l:LI)(rs:List R1)(a f:Nat):Prop:=
 qd dN (yl (J l+1) l)=rs++qd (sF rs) (yl f (jD a l))/\kH rs=a/\f+J rs=J l+1/\J rs<=a/\(∀r∈rs,J r.2<=1000/\0<=r.1/\r.1<2^64)
theorem Og.stop{rs:List R1}(h:Og l rs a f)(i:ng (jD a l)=dN):rl l=rs:=by
 unfold rl;rw[h.1,Ww i];simp[qd]
theorem Og.db5{rs:List R1}(h:Og l rs a f)(o:a<=J l){r:R1}(m:ng (jD a l)=r)(j:sy (sF rs) r.1=dF):rl l=rs:=by
 obtain⟨i,rfl⟩:∃i,f=i+1:=⟨f-1,by have:=h.2.2.1;have:=h.2.2.2.1;omega⟩;unfold rl;rw[h.1,JQ m];simp[qd,j]
theorem Og.next{rs:List R1}(h:Og l rs a f)(y:a<=J l){b:LI}(x:ng (jD a l)=Y (s,b))(u:sy (sF rs) s)(m:J b<=1000/\0<=s/\s<2^64):Og l (rs++[(s,b)]) (a+(14+J b)) (f-1):=by
 obtain⟨q,E,D,B,o⟩:=h;obtain⟨i,rfl⟩:∃i,f=i+1:=⟨f-1,ae⟩;refine⟨?_,by rw[aJ2];simp[kH];omega,cg,cg,?_⟩;{rw[q,JQ x,aX2,Kn,show a+(14+J b)=a+(J b+14) by omega,<-FQ];simp[qd,u,Us]};{intro r j;obtain h|h:=jg.1 j;{exact o r h};{simp at h;subst h;exact m}}
set_option maxRecDepth 100000 in
theorem bN3(hR:Rd w (.S p len cap) l)(hB:aA l)(el:Le l len)(hlen:len<=2^20)(vg:len<=cap)(oY:cap<=maxLen):dQ dG 32 #[.S p len cap] w (aD1 w (rl l)):=by
 have HRB:=br hR hB;clear hR hB;go_in;go_wp2
 go_loopw[4,5](λov i wr=>∃(a f K:Nat)(rs:List R1)(pv:OA)(cv:Nat)(vs:List dV),a<=len/\i=.I a/\ov=.S pv K cv/\Le rs K/\O (Og l rs a f)/\lf (U (Q w)) wr (.S pv K cv) rs vs/\Bw w wr) (λ_ i _=>len+1-(jN (intOf i)))
 exact⟨0,len+1,0,[],dN,0,[],cT _,rfl,rfl,rfl,⟨by rw[<-aa el];rfl,rfl,by rw[<-aa el];rfl,fq _,ai⟩,lf.nil _ _,aR _ _⟩;{
 obtain⟨a,f,K,rs,pv,cv,vs,AU,rfl,rfl,M,q,ho,aB⟩:=hrel;have hKa:K<=2^20:=by have:=q.2.2.2.1;have:=aa M;omega
 obtain⟨Tl,e14⟩:∃A:Nat,(a:Int)+14=(A:Int):=⟨a+14,ae⟩;obtain⟨A2,e2⟩:∃A:Nat,(a:Int)+2=(A:Int):=⟨a+2,ae⟩;obtain⟨Fs,e10⟩:∃A:Nat,(a:Int)+10=(A:Int):=⟨a+10,ae⟩;have bl4:Tl=a+14:=ae;have Jf:A2=a+2:=ae;have bl5:Fs=a+10:=ae;have HA:=dy bl4 Jf bl5;by_cases h14:Tl<=len;{
 have ct7:=nT Tl len;have GN:=aa el;obtain⟨b,o,rfl,-,-⟩:=HRB.1.at ae;let⟨m,em⟩:=aF (l.drop a);have Rc:aA m:=by rw[em];exact HRB.2.drop a
 have IS:J m=len-a:=by rw[em,uC];omega
 have hRm:∀d,Rd w (.S (Ad b (o+a)) (len-a) d) m:=λd=>HRB.1.cut a len AU ae _ (.R rfl) d m (by rw[em,od ae]);let⟨N,eN⟩:=aF (Ar m);let⟨GR,uj⟩:=cc9 Rc;rw[<-eN]at GR uj;obtain⟨Z,eZ⟩:∃Z:Nat,(Tl:Int)+(N:Int)=(Z:Int):=⟨Tl+N,ae⟩;obtain⟨E,eE⟩:∃E:Nat,(Fs:Int)+(N:Int)=(E:Int):=⟨Fs+N,ae⟩;have r1:∀(d:Nat)(w':G),Bw w w'->Rd w' (.S (Ad b (o+a)) 2 d) (sub m 0 2):=λd w' aQ=>((hRm d).H aQ).cut 0 2 ae ae _ (.R rfl) d _ rfl;have s1:J (sub m 0 2)=2:=zQ ae;have g1:=nT a A2;have g2:=nT A2 cap;have g3:cap≠a:=ae;have g4:A2-a=2:=ae;have D:=Sh em Rc IS hRm eN GR;have HZ:=br eZ eE;have wG:=af r1;have qR:=af s1;clear em Rc IS hRm eN GR r1 s1 bl4 Jf bl5 GN;unfold maxLen at oY
 go_wp21
 refine cK (aY2 (sub m 0 2) _ _ 2 qR _ (aa wG _ _ aB) (D.2.1.sub 0 2) ae ae kL) λw1 ao=>?_;rw[D.2.2.2.2.2];have b1:=ah aB ao;have UM:=ho.H ao;clear aB ao ho wG qR;by_cases KO:len<Z\/1000<N;{
 have vT:=af (q.stop (by obtain⟨em,-,IS,-,eN,-⟩:=aa D;have:=aa HA;rw[<-em];unfold ng;rw[<-eN,aK ae]))
 have yJ:=af q.2.1;by_cases hN:1000<N;{have xX:=rr 1000 N;go_wp2;refine bO (v:=dT #[.S pv K cv,.I (a:Int)]) (by simp[results,results32,go_sem]) rfl (TQ vT M yJ UM b1)};{have xX:¬(1000:Int)<(N:Int):=ae;have hZ':=bR len Z;go_wp2;refine bO (v:=dT #[.S pv K cv,.I (a:Int)]) (by simp[results,results32,go_sem]) rfl (TQ vT M yJ UM b1)}};{
 have xX:¬(1000:Int)<(N:Int):=ae;have hZ':=fG len Z;have sO:N<=1000:=ae;have k1:=nT A2 Fs;have k2:=nT Fs cap;have k3:cap≠A2:=ae;have k4:=nT Fs E;have k5:=nT E cap;have k6:cap≠Fs:=ae;have k7:=nT a Z;have k8:=nT Z cap;have k9:Fs-A2=8:=ae;have k10:E-Fs=N:=ae;have k11:Z-a=14+N:=ae;have r2:∀(d:Nat)(w':G),Bw w w'->Rd w' (.S (Ad b (o+A2)) 8 d) (sub m 2 10):=λd w' aQ=>by have:=(((D.2.2.2.1 d).H aQ).cut 2 10 ae (by have:=D.2.2.1;omega) (Ad b (o+a+2)) (.R rfl) d _ rfl);rw[show o+A2=o+a+2 by have:=aa HA;omega];exact this
 have r3:∀(d:Nat)(w':G),Bw w w'->Rd w' (.S (Ad b (o+Fs)) N d) (sub m 10 (10+N)):=λd w' aQ=>by have:=(((D.2.2.2.1 d).H aQ).cut 10 (10+N) ae (by have:=D.2.2.1;omega) (Ad b (o+a+10)) (.R rfl) d _ rfl);rw[show 10+N-10=N by omega]at this;rw[show o+Fs=o+a+10 by have:=aa HA;omega];exact this
 have r4:∀(d:Nat)(w':G),Bw w w'->Rd w' (.S (Ad b (o+a)) (14+N) d) (sub m 0 (14+N)):=λd w' aQ=>
  ((D.2.2.2.1 d).H aQ).cut 0 (14+N) ae (by have:=D.2.2.1;omega) (Ad b (o+a)) (.R rfl) d _ rfl
 have DT:=af r2;have uQ:=af r3;have DS:=af r4;have lD:O (J (sub m 2 10)=8):=zQ (by have:=D.2.2.1;omega);have Hq:O (J (sub m 10 (10+N))=N):=by show _=_;rw[zQ (by have:=D.2.2.1;omega)];omega
 have VY:O (J (sub m 0 (14+N))=14+N):=by show _=_;rw[zQ (by have:=D.2.2.1;omega)];omega
 let⟨sq0,sq1⟩:=FL (D.2.1.sub 2 10) (by rw[aa lD];omega);clear r2 r3 r4;have wA2:=iw A2;have cY2:=iw Fs;have cY1:=iw Tl;have wE:=iw E;have wZ:=iw Z;have fw:=D.2.1.sub 2 10;have hl8:(8:Nat)<=8:=fq _;have hl9:8<=cap-A2:=ae;have ck9:cap-A2<=maxLen:=by unfold maxLen;omega
 have ck8:N<=2^21:=ae;have kn:∀(vs:iA)(w:G),(callFunc 65 vs).run dG w=.ok (.enter 65 vs) w:=λvs w=>aU;have hcg:∀(vs:iA)(w:G),(callFunc 66 vs).run dG w=.ok (.enter 66 vs) w:=λvs w=>aU
 go_upto_region 6 with fail
 go_cut[7](λrp wc=>∃R pb cb,rp=Pz R/\U (Q w1)<=R/\BG wc R (.U (num (sub m 2 10))) (.S pb N cb)/\Ow w1 wc (.S pb N cb) (sub m 10 (10+N))/\Bw w1 wc)
 case first=>(
 let⟨v,fU⟩:=aF w1.drew;have BV:O (Bw w1 v):=by rw[fU];exact aH.drew
 refine fK (λ_=>True) gQ λhS=>?_;rw[<-fU];clear fU;refine jh 0 1 2 3 4 5 7 8 hS ?_;refine iL 9 10 11 12 hS ?_;refine gh 13 14 hS ?_
 iterate 3 (
  all_goals(first|refine uz 6 (λW hK=>?_)|refine uz 15 (λW hK=>?_)|refine uz 17 (λW hK=>?_)|refine yA 6 17 (λW hK=>?_) (λW hK=>?_)|refine yA 15 17 (λW hK=>?_) (λW hK=>?_))
  all_goals(first
   |(
    refine Tag.go 6 (js (aY2 (sub m 2 10) _ _ 8 lD _ (aa DT _ _ (ah b1 BV)) fw hl8 hl9 ck9) ?_);rintro z9 v'⟨rfl,hb⟩;refine⟨_,rfl,?_⟩)
   |(
    refine Tag.go 15 (js (Dp (n:=N) (l:=sub m 10 (10+N)) Hq (aa uQ _ _ (ah b1 BV)) ck8) ?_);rintro z9 v'⟨p3,c3,rfl,o3,hb⟩;refine⟨_,rfl,?_⟩
    try have RN:=af (λb e=>show b≠R by have:=(Own.lt o3 b e).1;have:=RC.1;omega)
    have RO:=br (Own.h o3 BV.size) (λb e=>(Own.lt o3 b e).2);have T16:=gQ;clear o3)
   |(
    refine Tag.go 17 ?_;go_simp;obtain⟨v',hv,hb,zv,Rz,-⟩:=bM v #[.U 0,aq] 79;rw[<-hv]
    try have RN:=af (λb e=>show b≠U v.heap by have:=RO.2 b e;omega)
    have RB:=af BV.size;let⟨R,hR⟩:=aF (U (Q v));rw[<-hR]at Rz⊢
    try rw[<-hR]at RN
    rw[<-hR]at RB;have RC:=br (by omega:R<U (Q v')) Rz;clear hv zv Rz hR))
  all_goals(
   have zb:=hb.size
   try have RO:=br (Own.H RO.1 hb) (λb e=>mj (RO.2 b e) zb)
   try have RC:=br (mj RC.1 zb) (RC.2.H RC.1 hb)
   have BV:=af (ah BV hb);refine bQ hK gQ λhS=>?_;clear hK W hb zb
   try(
    clear T16;refine tk 16 hS (h:=?_);simp only[Act.put,xa,xb,xc])
   rename G=>v
   skip))
 all_goals(
  refine ft 18 (λW hK=>?_);have n0:=RC.2.1 0 _ rfl;have n1:=RC.2.1 1 _ rfl;have nf:=RC.2.2;go_simp;refine bQ hK gQ λhS=>?_;clear hK W hS;refine ga ?_
  go_wp21
  go_meet;refine⟨R,p3,c3,rfl,RB,⟨by simp[go_sem,n0,n1],by simp[go_sem,n0,n1]⟩,?_,(aa BV |>.setCell (by exact aa RB) _).setCell (by exact aa RB) _⟩;exact Own.dg7 RO.1 RN _ _))
 case rest=>(
 obtain⟨R,pb,cb,rfl,rT,hA,oB,pf⟩:=hcut;have bc:=ah b1 pf;have km:=UM.H pf;have ct0:=D.2.1.sub 10 (10+N);have u4:=uS VY (aa DS (cap-a) _ bc.drew);have hch:∀(vs:iA)(w:G),(callFunc 57 vs).run dG w=.ok (.enter 57 vs) w:=λvs w=>aU;clear pf kn hcg DT uQ lD
 go_wp21
 refine fK (λw'=>BG w' R (.U (num (sub m 2 10))) (.S pb N cb)/\(convert 22 9 (.S (Ad b (o+a)) (14+N) (cap-a))).run dG w'=.ok (jJ (bf (sub m 0 (14+N)))) w') ⟨hA,u4⟩ λhS=>?_;refine jh 0 3 4 5 6 7 8 9 hS ?_;refine tn 10 hS ?_;refine ry [1] ?_;refine cn (λW hK=>?_) ?_;{
 refine Ic aP (f:=57) aP (v1:=yy (num (sub m 2 10)) (.S pb N cb)) aP (λ_=>hch _ _) (bN6 (s:=num (sub m 2 10)) (p:=pb) (c:=cb) (n:=N) (l:=sub m 10 (10+N)) Hq (oB.rd.H (aR (U (Q wc)) wc).drew) ct0 sO sq0 sq1) ?_;rintro e w5⟨p5,c5,rfl,o5,cn8⟩;refine⟨_,rfl,?_⟩;have cR:Bw wc w5:=ah (aR (U (Q wc)) wc).drew cn8;have A5:=hA.H cR;have u5:=uS VY (aa DS (cap-a) _ (ah bc cR));have e5:=uS (l:=nH (num (sub m 2 10)) (sub m 10 (10+N))) (by rw[D7,aa Hq]) o5.rd;refine hK.out _ _ ?_ (λhS=>?_);{exact⟨A5,u5⟩};clear hK W
 try simp only[Act.put,ca2,XL,aT7]
 refine ft 2 λW hK=>?_;go_simp;refine hK.out _ _ ?_ (λhS=>?_);{exact⟨A5,u5⟩};clear hK W
 try simp only[Act.put,ca2,XL,aT7]
 refine tn 11 hS ?_;refine ga ?_;have V:=ah bc cR;have X:=km.H cR;have oB5:Ow w w5 (.S pb N cb) (sub m 10 (10+N)):=Own.h (Own.H oB cR) b1.size;have au4:∀u'∈vs,Tj u' (.S pb N cb):=λu' Qg bb e1 e2=>by have h1:=UM.lt u' Qg bb e1;have h2:=(Own.lt oB bb e2).1;omega
 have HC:=af (NU (aO0 (s:=num (sub m 2 10)) ct0) (D.2.1.sub 0 (14+N)));have HNB:=af (show¬(J m<14+N\/1000<N) by have:=D.2.2.1;have:=aa HA;omega);have qh:=af (show a+(14+N)<=len by have:=aa HA;omega);clear cR cn8 o5 hA u4 km bc oB hS u5 e5 k1 k2 k3 k4 k5 k6 k7 k8 k9 k10 k11 g1 g2 g3 g4 wA2 cY2 cY1 wE wZ DS VY hch hl8 hl9 ck9 ck8 fw UM KO hZ' e2 e10 e14 eZ eE ct7 HZ;have yJ:=af q.2.1;rw[aa HC];clear HC;by_cases hq:nH (num (sub m 2 10)) (sub m 10 (10+N))=sub m 0 (14+N);{
 have Dq:ng (l.drop a)=Y (num (sub m 2 10),sub m 10 (10+N)):=by obtain⟨em,-,IS,-,eN,-⟩:=aa D;have:=aa HA;rw[<-em];unfold ng;rw[<-eN,aJ (aa HNB),aK hq]
 have SP:=af Dq;rw[Df hq,Bool.not_true];clear hq Dq;by_cases hK0:K=0;{
 subst hK0;have fk:sy (sF rs) (num (sub m 2 10)):=by rw[Is (aa M)];rfl
 have lh:=af fk;clear fk;go_wp2_with(at_builtin;refine bI9 rfl rfl (B:=U (Q w)) (v:=.S pv 0 cv) (rs:=rs) (vs:=vs) (n:=0) M (U (Q w5)) rfl rfl (X.H (aH.alloc az _)) (r:=(num (sub m 2 10),sub m 10 (10+N))) (u:=.S pb N cb) ai ai (Own.H oB5 (aH.alloc az _)) au4 ae (by have:=V.size;simp;omega) ?_);intro p9 c9 w9 QS qA;have b9:Bw w w9:=(V.alloc V.size _).grown qA (by have:=V.size;simp;omega) (λbb e=>(X.aj3 bb e).1);have eN3:=aa Hq;have Qt:=af (q.next (by rw[aa el];exact AU) SP lh ⟨ae,sq0,sq1⟩);have eKn:O (J (rs++[(num (sub m 2 10),sub m 10 (10+N))])=0+1):=by show _=_;rw[eG,aa M];rfl
 clear qA X oB5 au4 V A5;go_wp2;go_roundw
 case rel=>(
 refine⟨a+(14+N),f-1,0+1,_,p9,c9,_,qh,by go_num,rfl,eKn,?_,QS,b9⟩;have:=aa Qt;rw[eN3]at this;exact this)
 case measure=>simp[intOf];omega}
 {
 have US:K-1<J rs:=by rw[aa M];omega
 obtain⟨⟨t,bt⟩,vO⟩:∃r,rs[K-1]?=Y r:=⟨_,bN US⟩;have Yv:sF rs=t:=by unfold sF;rw[an3,aa M,vO];rfl
 let⟨t0,t1⟩:=q.2.2.2.2 _ (bq vO) |>.2;obtain⟨u,hu⟩:∃u,vs[K-1]?=Y u:=⟨_,bN (by rw[X.len];exact US)⟩;obtain⟨_,h0⟩|⟨g,LG,cur,ev,xu,IY,_,_,_,_⟩:=id X.row.2;{have:=aa M;omega};{
 simp only[ti]at ev;obtain⟨rfl,-,rfl⟩:=ev;have TM:=X.row;rw[aa M]at TM;have d0:=(TM.cellAt (2*(K-1)) ae).Z (aj9 rs vs (K-1) _ u vO hu).1;rw[XH]at d0;dsimp only at d0;let⟨K1,eK1⟩:=aZ (K-1);rw[eK1]at d0;have uk:(K:Int)-1=(K1:Int):=ae;have uj:=rr 0 K;have GF:=bR K1 K;have KT:0<K:=ae;have Cl:K1<=1048578:=ae;have GC:(K1:Int)<=1048578:=ae;have Gz:=iw K1;clear US vO hu TM IY eK1;by_cases fk:sy t (num (sub m 2 10))=dY;{
 have lh:O (sy (sF rs) (num (sub m 2 10))):=by show _=_;rw[Yv];exact fk
 have e1:t≠18446744073709551615/\num (sub m 2 10)=t+1:=by simpa[sy]using fk
 have f1:(t==18446744073709551615)=dF:=by simp[e1.1]
 have f2:jY jU (t+1)=t+1:=u64_wrap_id _ ae ae;have f3:(num (sub m 2 10) != t+1)=dF:=by simp[e1.2]
 clear fk Yv e1;go_wp2_with(at_builtin;refine bI9 rfl rfl (B:=U (Q w)) (v:=.T g K cv) (rs:=rs) (vs:=vs) (n:=K) M (U (Q w5)) rfl rfl (X.H (aH.alloc az _)) (r:=(num (sub m 2 10),sub m 10 (10+N))) (u:=.S pb N cb) ai ai (Own.H oB5 (aH.alloc az _)) au4 ae (by have:=V.size;simp;omega) ?_);intro p9 c9 w9 QS qA;have b9:Bw w w9:=(V.alloc V.size _).grown qA (by have:=V.size;simp;omega) (λbb e=>(X.aj3 bb e).1);have eN3:=aa Hq;have Qt:=af (q.next (by rw[aa el];exact AU) SP lh ⟨ae,sq0,sq1⟩);have eKn:O (J (rs++[(num (sub m 2 10),sub m 10 (10+N))])=K+1):=by show _=_;rw[eG,aa M];rfl
 clear qA X oB5 au4 V A5;go_wp2;go_roundw
 case rel=>(
 refine⟨a+(14+N),f-1,K+1,_,p9,c9,_,qh,by go_num,rfl,eKn,?_,QS,b9⟩;have:=aa Qt;rw[eN3]at this;exact this)
 case measure=>simp[intOf];omega}
 {
 have bc8:sy t (num (sub m 2 10))=dF:=by simpa using fk
 have vT:=af (q.db5 (by rw[aa el];exact AU) SP (by rw[Yv];exact bc8));by_cases ht:t=18446744073709551615;{
 have f1:(t==18446744073709551615):=by simp[ht]
 clear fk bc8 Yv ht;go_wp2;refine bO (v:=dT #[.T g K cv,.I (a:Int)]) (by simp[results,results32,go_sem]) rfl (TQ vT M yJ X V)};{
 have aN:num (sub m 2 10)≠t+1:=by intro e;apply fk;simp[sy,ht,e]
 have f1:(t==18446744073709551615)=dF:=by simp[ht]
 have f2:jY jU (t+1)=t+1:=u64_wrap_id _ ae ae;have f3:(num (sub m 2 10) != t+1):=by simp[aN]
 clear fk bc8 Yv ht aN;go_wp2;refine bO (v:=dT #[.T g K cv,.I (a:Int)]) (by simp[results,results32,go_sem]) rfl (TQ vT M yJ X V)}}}}};{
 have vT:=af (q.stop (by obtain⟨em,-,IS,-,eN,-⟩:=aa D;have:=aa HA;rw[<-em];unfold ng;rw[<-eN,aJ (aa HNB),aJ hq]))
 rw[Cb hq,aU7];clear hq;go_wp2;refine bO (v:=dT #[.S pv K cv,.I (a:Int)]) (by simp[results,results32,go_sem]) rfl (TQ vT M yJ X V)}};exact fI)}}
 {have ct7:¬(Tl:Int)<=(len:Int):=ae;have vT:=af (q.stop (aO1 (by rw[uC,aa el];omega)));have yJ:=af q.2.1;clear bl4 Jf bl5;go_wp2;refine bO (v:=dT #[.S pv K cv,.I (a:Int)]) (by simp[results,results32,go_sem]) rfl (TQ vT M yJ ho aB)}}
open Go.Deep
theorem Rd.dv3{H:Type}{enc:TypeId×dV->H}{x:DataW H×List MemPlace}(h:DataW.trod enc dG w 0 (λ_=>dY) dY n 22 cs=x):∃(p:OA)(l:LI)(c:Nat),cs=[.S p (J l) c]/\Rd w (.S p (J l) c) l/\J l<=maxLen/\(∀z∈l,(Lit.int .u8 z).wf):=by
 obtain⟨rfl,_⟩|⟨a,len,m,zs,rfl,_,D,hm,y,_,r,q⟩:=open_ints underlying22 underlying5 aU h;{exact⟨dN,[],0,rfl,Rd.nil w,ai,ai⟩};{
 simp only[pQ]at y;have e:J (jT len zs)=len:=by simp;omega
 refine⟨Y a,jT len zs,m,by rw[e],?_,ae,λz h=>q z (PT h)⟩;refine⟨Y a,m,rfl,?_⟩;by_cases B:len=0;{left;subst B;simp};{
 right;obtain⟨b,o,j⟩:=a;obtain rfl:j=dN:=by simpa[Addr.add]using World.cell?_spot (r 0 ae)
 refine⟨b,o,rfl,λi s=>?_⟩;rw[e]at s;have:=r i ae;simp only[Ix]at this;rw[this];simp[List.getD,PR,s]}}
theorem Rd.dv2{H:Type}{enc:TypeId×dV->H}{x:DataW H×List MemPlace}(h:DataW.trod enc dG w 0 (λ_=>dY) dY n 22 cs=x):∃(p:OA)(l:LI)(c:Nat),cs=[.S p (J l) c]/\Rd w (.S p (J l) c) l/\J l<=maxLen/\J l<=c/\(∀z∈l,0<=z/\z<256):=by
 let⟨p,l,c,e,m,hm,j⟩:=Rd.dv3 h;refine⟨p,l,c,e,m,hm,?_,λz i=>?_⟩;{obtain⟨rfl,_⟩|⟨a,len,o,zs,rfl,_,q,_⟩:=open_ints underlying22 underlying5 aU h;{simp at e;omega};{simp at e;omega}};{have:=j z i;simp[Lit.wf,IntKind.min,IntKind.max,IntKind.signed,IntKind.bits]at this;omega}
abbrev xx(v:dV)(n:Int):dV:=jP #[v,.I n]
abbrev mu(v0:dV)(n0:Int)(v1:dV)(n1:Int)(v2:dV)(n2:Int):dV:=jP #[v0,.I n0,v1,.I n1,v2,.I n2]
structure my(B:Nat)(w:G)(v0 v1 v2:dV)(l0 l1 l2:LI):Prop where
 o0:Own B w v0 l0
 o1:Own B w v1 l1
 o2:Own B w v2 l2
 n01:∀b,jB v0=Y b->jB v1≠Y b
 n02:∀b,jB v0=Y b->jB v2≠Y b
 n12:∀b,jB v1=Y b->jB v2≠Y b
theorem my.mk'{B1 B2:Nat}{w1 m:G}(o:Own B w1 v0 l0)(r:Own B1 m v1 l1)(o0:Own B w v0 l0)(o1:Own B1 w v1 l1)(o2:Own B2 w v2 l2)(u:U (Q w1)<=B1)(s:U (Q m)<=B2)(q:B<=B1)(x:B1<=B2):my B w v0 v1 v2 l0 l1 l2:=
 ⟨o0,o1.h q,o2.h ae,λb j i=>by have:=o.lt b j;have:=o1.lt b i;omega,λb j i=>by have:=o.lt b j;have:=o2.lt b i;omega,λb j i=>by have:=r.lt b j;have:=o2.lt b i;omega⟩
def mr(n:Nat)(s:Int):Bool:=dD (n<=200000)&&dD (0<=s)&&dD (s<=n)
theorem Rk(a:n<=200000)(b:0<=s)(c:s<=n):mr n s:=by simp[mr,a,b,c]
theorem Vm(a:¬(n<=200000/\0<=s/\s<=n)):mr n s=dF:=by
 unfold mr;rw[Di,Di];simp only[Iw];omega
theorem aw9(h:mr n s):n<=200000/\0<=s/\s<=n:=by
 simp[mr]at h;omega
theorem UC(i:n<=2^21):dQ dG 29 #[xx (.S p n c) s] w (Rb (jO (mr n s)) w):=by
 by_cases a:n<=200000;{by_cases b:0<=s;{by_cases c:s<=n;{rw[Rk a b c];go_in;go_wp2;go_ret;exact⟨rfl,aH.alloc az _⟩};{rw[Vm ae];go_in;go_wp2;go_ret;exact⟨rfl,aH.alloc az _⟩}};{rw[Vm ae];go_in;go_wp2;go_ret;exact⟨rfl,aH.alloc az _⟩}};{rw[Vm ae];go_in;go_wp2;go_ret;exact⟨rfl,aH.alloc az _⟩}
def oK(n0:Nat)(s0:Int)(n1:Nat)(s1:Int)(n2:Nat)(s2:Int):Bool:=mr n0 s0&&mr n1 s1&&mr n2 s2
theorem aL1(q:n0<=2^21)(x:n1<=2^21)(D:n2<=2^21):dQ dG 12 #[mu (.S p0 n0 c0) s0 (.S p1 n1 c1) s1 (.S p2 n2 c2) s2] w (Rb (jO (oK n0 s0 n1 s1 n2 s2)) w):=by
 cases e0:mr n0 s0;{
 rw[show oK n0 s0 n1 s1 n2 s2=dF by simp[oK,e0]];have m:O (mr n0 s0=dF):=e0;go_in
 go_wp21
 refine cK (UC q) λo j=>?_;rw[m.out];have R:Bw w o:=(aH.alloc az _).Z (j.h ai);go_wp2;go_ret;exact⟨rfl,R⟩};{
 have m:O (mr n0 s0):=e0;cases e1:mr n1 s1;{
 rw[show oK n0 s0 n1 s1 n2 s2=dF by simp[oK,e1]];have s:O (mr n1 s1=dF):=e1;go_in
 go_wp21
 refine cK (UC q) λo j=>?_;rw[m.out];let⟨E,y⟩:=aB6 j
 go_wp21
 refine cK (UC x) λu i=>?_;rw[s.out];replace i:=ah j i;have N:Bw w u:=(aH.alloc az _).Z (i.h ai);go_wp2;go_ret;exact⟨rfl,N⟩};{
 rw[show oK n0 s0 n1 s1 n2 s2=mr n2 s2 by simp[oK,e0,e1]];have s:O (mr n1 s1):=e1;go_in
 go_wp21
 refine cK (UC q) λo j=>?_;rw[m.out];let⟨E,y⟩:=aB6 j
 go_wp21
 refine cK (UC x) λu i=>?_;rw[s.out];replace i:=ah j i;let⟨V,W⟩:=aB6 i
 go_wp21
 refine cK (UC D) λB r=>?_;replace r:=ah i r;have M:Bw w B:=(aH.alloc az _).Z (r.h ai);go_wp2;go_ret;exact⟨rfl,M⟩}}
theorem ax4(p0 i p2:OA)(c0:Nat)(j:Nat)(c2:Nat)(q:v0=.S p0 n0 c0)(o:v1=.S i n1 j)(m:v2=.S p2 n2 c2):dQ dG 39 #[mu v0 s0 v1 s1 v2 s2] w (Rb (mu v0 s0 v1 s1 v2 s2) w):=by
 subst q o m;go_in;go_wp2;refine bO (v:=mu (.S p0 n0 c0) s0 (.S i n1 j) s1 (.S p2 n2 c2) s2) (by simp[results,results39,go_sem]) rfl ⟨rfl,?_⟩
 repeat(refine kV ?_ ai _)
 exact(aH.alloc az _).alloc ai _
theorem Vn(i:n<=2^21):dQ dG 76 #[xx (.S p n c) s] w (Rb (jO (mr n s)) w):=by
 by_cases a:n<=200000;{by_cases b:0<=s;{by_cases c:s<=n;{rw[Rk a b c];go_in;go_wp2;go_ret;exact⟨rfl,aH.alloc az _⟩};{rw[Vm ae];go_in;go_wp2;go_ret;exact⟨rfl,aH.alloc az _⟩}};{rw[Vm ae];go_in;go_wp2;go_ret;exact⟨rfl,aH.alloc az _⟩}};{rw[Vm ae];go_in;go_wp2;go_ret;exact⟨rfl,aH.alloc az _⟩}
theorem er8(h:mr n0 s0=dF):oK n0 s0 n1 s1 n2 s2=dF:=by simp[oK,h]
theorem er7(h:mr n1 s1=dF):oK n0 s0 n1 s1 n2 s2=dF:=by simp[oK,h]
theorem er6(h:mr n2 s2=dF):oK n0 s0 n1 s1 n2 s2=dF:=by simp[oK,h]
theorem NF(a:mr n0 s0)(b:mr n1 s1)(c:mr n2 s2):oK n0 s0 n1 s1 n2 s2:=by simp[oK,a,b,c]
theorem bn7(D:n0<=2^21)(B:n1<=2^21)(y:n2<=2^21):dQ dG 40 #[mu (.S p0 n0 c0) s0 (.S p1 n1 c1) s1 (.S p2 n2 c2) s2] w (Rb (jO (oK n0 s0 n1 s1 n2 s2)) w):=by
 have W:∀w:G,(Instr.index 89 (mu (.S p0 n0 c0) s0 (.S p1 n1 c1) s1 (.S p2 n2 c2) s2) (.I 0)).run dG w=.ok (xx (.S p0 n0 c0) s0) w:=λ_=>aU;have V:∀w:G,(Instr.index 89 (mu (.S p0 n0 c0) s0 (.S p1 n1 c1) s1 (.S p2 n2 c2) s2) (.I 1)).run dG w=.ok (xx (.S p1 n1 c1) s1) w:=λ_=>aU;have R:∀w:G,(Instr.index 89 (mu (.S p0 n0 c0) s0 (.S p1 n1 c1) s1 (.S p2 n2 c2) s2) (.I 2)).run dG w=.ok (xx (.S p2 n2 c2) s2) w:=λ_=>aU;go_in;go_wp2
 go_loopw[6](λi wr=>Bw w wr/\(i=.I 0\/(i=.I 1/\mr n0 s0)\/(i=.I 2/\mr n0 s0/\mr n1 s1)\/(i=.I 3/\mr n0 s0/\mr n1 s1/\mr n2 s2))) (λi _=>3-(jN (intOf i)))
 exact⟨aH.alloc az _,.L rfl⟩;{
 obtain⟨j,rfl|⟨rfl,s⟩|⟨rfl,s,u⟩|⟨rfl,s,u,M⟩⟩:=hrel;{
 skip
 cases e0:mr n0 s0;{
 have E:=af (er8 (n0:=n0) (n1:=n1) (n2:=n2) (s0:=s0) (s1:=s1) (s2:=s2) e0);have r:=af e0
 go_wp21
 refine cK (Vn D) λm q=>?_;rw[aa r];have o:Bw w m:=(j.alloc j.size _).Z (q.h (by have:=j.size;simp;omega));go_wp2;go_ret;exact⟨by rw[aa E];rfl,o⟩};{
 have r:=af e0
 go_wp21
 refine cK (Vn D) λm q=>?_;rw[aa r];have o:Bw w m:=(j.alloc j.size _).Z (q.h (by have:=j.size;simp;omega));go_wp2;go_roundw;exact⟨o,.R (.L ⟨rfl,by trivial⟩)⟩
 case measure=>simp[intOf]}}
 {
 have x:=af s;clear s;cases e1:mr n1 s1;{
 have E:=af (er7 (n0:=n0) (n1:=n1) (n2:=n2) (s0:=s0) (s1:=s1) (s2:=s2) e1);have r:=af e1
 go_wp21
 refine cK (Vn B) λm q=>?_;rw[aa r];have o:Bw w m:=(j.alloc j.size _).Z (q.h (by have:=j.size;simp;omega));go_wp2;go_ret;exact⟨by rw[aa E];rfl,o⟩};{
 have r:=af e1
 go_wp21
 refine cK (Vn B) λm q=>?_;rw[aa r];have o:Bw w m:=(j.alloc j.size _).Z (q.h (by have:=j.size;simp;omega));go_wp2;go_roundw;exact⟨o,.R (.R (.L ⟨rfl,x,by trivial⟩))⟩
 case measure=>simp[intOf]}}
 {
 have x:=af s;have N:=af u;clear s u;cases e2:mr n2 s2;{
 have E:=af (er6 (n0:=n0) (n1:=n1) (n2:=n2) (s0:=s0) (s1:=s1) (s2:=s2) e2);have r:=af e2
 go_wp21
 refine cK (Vn y) λm q=>?_;rw[aa r];have o:Bw w m:=(j.alloc j.size _).Z (q.h (by have:=j.size;simp;omega));go_wp2;go_ret;exact⟨by rw[aa E];rfl,o⟩};{
 have r:=af e2
 go_wp21
 refine cK (Vn y) λm q=>?_;rw[aa r];have o:Bw w m:=(j.alloc j.size _).Z (q.h (by have:=j.size;simp;omega));go_wp2;go_roundw;exact⟨o,.R (.R (.R ⟨rfl,x,N,by trivial⟩))⟩
 case measure=>simp[intOf]}}
 {have E:=af (NF s u M);go_wp2;go_ret;exact⟨by rw[aa E];rfl,j⟩}}
theorem aZ6(o:n0<=2^21)(m:n1<=2^21)(j:n2<=2^21):dQ dG 16 #[mu (.S p0 n0 c0) s0 (.S p1 n1 c1) s1 (.S p2 n2 c2) s2] w (Rb (jO (oK n0 s0 n1 s1 n2 s2)) w):=by
 go_in
 go_wp21
 refine cK (ax4 p0 p1 p2 (n0:=n0) c0 (n1:=n1) c1 (n2:=n2) c2 rfl rfl rfl) λi u=>?_;have r:Bw w i:=(aH.alloc az _).Z (u.h ai)
 go_wp21
 refine cK (bn7 o m j) λx s=>?_;have q:=ah r s;go_wp2;go_ret;exact⟨rfl,q⟩
theorem my.H(h:my B w v0 v1 v2 l0 l1 l2)(i:Bw w w'):my B w' v0 v1 v2 l0 l1 l2:=
 ⟨Own.H h.o0 i,Own.H h.o1 i,Own.H h.o2 i,h.n01,h.n02,h.n12⟩
abbrev lu(w:G)(b:Nat)(v0 v1 v2 v3 v4 v5:dV):Prop:=
 I w (Ad b 0)=v0/\I w (Ad b 1)=v1/\I w (Ad b 2)=v2/\I w (Ad b 3)=v3/\I w (Ad b 4)=v4/\I w (Ad b 5)=v5
theorem lu.H{v4 v5:dV}(h:lu w b v0 v1 v2 v3 v4 v5)(i:Bw w w'):lu w' b v0 v1 v2 v3 v4 v5:=
 ⟨aj h.1 i,aj h.2.1 i,aj h.2.2.1 i,aj h.2.2.2.1 i,aj h.2.2.2.2.1 i,aj h.2.2.2.2.2 i⟩
theorem XU:∀(l m:LI),l.Nodup->(∀x∈l,x∈m)->J l<=J m
 |[],m,_,_=>cT _
 |x::l,m,hd,hs=>by rw[BS]at hd;have j:=hs x ai;have h:=XU l (m.erase x) hd.2 λy i=>(List.mem_erase_of_ne (λe=>hd.1 (by rw[<-e];exact i))).2 (hs y (by simp[i]));rw[List.length_erase_of_mem j]at h;have:=ca4 j;rw[ni];omega
theorem et5{α:Type}[DecidableEq α](c:α)(s:List α):((gO c s).map λn=>J n+1).sum=J s+1:=by
 induction s with
 |nil=>rfl
 |cons x l ih=>
  rw[gO];split;{rw[mR,aW0,ih,ni,xk];omega};{
 cases h:gO c l with
 |nil=>have:=et3 c (s:=l);rw[h]at this;simp at this
 |cons n ns=>
  rw[h]at ih;simp only[mR,aW0,ni]at ih⊢;omega}
theorem bM0(C:Nat):∀l:iN,(∀x∈l,x<=C)->l.sum<=C*J l
 |[],_=>cT _
 |x::l,h=>by have m:=bM0 C l λy i=>h y (by simp[i]);have j:=h x ai;rw[aW0,ni,cb5];omega
theorem JR{p:LI}(h:vp p):J p<=136:=by
 cases p with
 |nil=>simp
 |cons c t=>
  rw[vp,st,gI,gI,lx,lW]at h;obtain⟨-,r,q⟩:=h;have m:=bM0 17 ((gO 47 t).map λn=>J n+1) (λx i=>by obtain⟨n,j,rfl⟩:=fg.1 i;have:=q n j;simp only[pM,gI,lx]at this;omega)
  rw[et5,iH]at m;rw[ni];omega
theorem bn9(p:OA)(c:Nat)(n:Int)(l:LI)(w:G)(h:Rd w (jC p (J l) c) l)(hl:J l<=2^21):dQ dG 103 #[xx (jC p (J l) c) n] w λe w'=>∃j m,e=dR (xx (jC j (J l) m) n)/\Own (U (Q w)) w' (jC j (J l) m) l/\Below (U (Q w)) w w':=by
 go_in
 go_wp21
 let⟨W,i⟩:=aF (jA (jA w (dO #[jC p (J l) c,jK jV n] 28)) (dO #[jC dN 0 0,jK jV 0] 28));have x:Bw w W:=by rw[i];exact(aH.alloc az _).alloc ai _
 have u:I W (Aw w 0)=Y (jC p (J l) c):=by rw[i];simp
 have s:I W (Aw w 1)=Y (jK jV n):=by rw[i];simp
 have N:I W (Ax w 0)=Y (jC dN 0 0):=by rw[i];simp
 have M:I W (Ax w 1)=Y (jK jV 0):=by rw[i];simp
 have Z:∀o,jF W (Ax w o)=dF:=by intro o;rw[i];simp
 have zW:U (Q w)+2=U (Q W):=by rw[i];simp
 rw[<-i];clear i;have y:∀o:Obj,Bw W (jA W o).drew:=λo=>(aH.alloc az _).drew;have e0:=h.H x
 go_region_held3 (λw'=>I w' (Aw w 0)=Y (jC p (J l) c)/\I w' (Aw w 1)=Y (jK jV n)) (first|with_reducible exact⟨u,s⟩|with_reducible exact⟨X,V⟩|go_keep)
  (first|(go_at_call 138;refine(ev5 (p:=p) (c:=c) ai (by exact e0.H (y _)) hl).h ?_;rintro e r⟨j,m,rfl,S,ao⟩;have q:=ah (y _) ao;have X:=aj u q;have V:=aj s q;have E:=aj N q;have D:=aj M q;have f1:=rY Z q ae))
 have bb:Bw w r:=ah x q;have R:Ow W r (jC j (J l) m) l:=Own.h S ai;go_wp2;refine bO (v:=xx (jC j (J l) m) n) (by simp[results,results103,go_sem,E,D]) rfl ⟨j,m,rfl,Own.h (B:=U (Q W)) ?_ ae,?_⟩;{
 repeat(refine xj ?_ cg _)
 exact R};{
 repeat(refine kV ?_ ai _)
 exact bb}
theorem cw5(p q:OA)(c d:Nat)(n:Int)(l m lm:LI)(Z:O (lm=l++m))(w:G)(h:Rd w (jC p (J l) c) l)(k:Rd w (jC q (J m) d) m)(hl:J l+J m<=2^22):dQ dG 160 #[xx (jC p (J l) c) n,jC q (J m) d] w λe w'=>∃j r,e=dR (xx (jC j (J lm) r) n)/\Own (U (Q w)) w' (jC j (J lm) r) lm/\Below (U (Q w)) w w':=by
 go_in
 go_wp21
 let⟨W,i⟩:=aF (jA (jA w (dO #[jC p (J l) c,jK jV n] 28)) (dO #[jC dN 0 0,jK jV 0] 28));have u:Bw w W:=by rw[i];exact(aH.alloc az _).alloc ai _
 have E:I W (Aw w 0)=Y (jC p (J l) c):=by rw[i];simp
 have D:I W (Aw w 1)=Y (jK jV n):=by rw[i];simp
 have S:I W (Ax w 0)=Y (jC dN 0 0):=by rw[i];simp
 have R:I W (Ax w 1)=Y (jK jV 0):=by rw[i];simp
 have f0:∀o,jF W (Ax w o)=dF:=by intro o;rw[i];simp
 have zW:U (Q w)+2=U (Q W):=by rw[i];simp
 rw[<-i];clear i;have x:∀o:Obj,Bw W (jA W o).drew:=λo=>(aH.alloc az _).drew;have e0:=h.H u;have e1:=k.H u
 go_region_held3 (λw'=>I w' (Aw w 0)=Y (jC p (J l) c)/\I w' (Aw w 1)=Y (jK jV n)) (first|with_reducible exact⟨E,D⟩|with_reducible exact⟨g0,g1⟩|go_keep)
  (first|(go_at_call 138;refine(ev4 (p:=p) (q:=q) (c:=c) (d:=d) Z ai ai (by exact e0.H (x _)) (by exact e1.H (x _)) hl).h ?_;rintro e y⟨j,r,rfl,X,ao⟩;have s:=ah (x _) ao;have g0:=aj E s;have g1:=aj D s;have N:=aj S s;have M:=aj R s;have f1:=rY f0 s ae))
 have bb:Bw w y:=ah u s;have V:Ow W y (jC j (J lm) r) lm:=Own.h X ai;go_wp2;refine bO (v:=xx (jC j (J lm) r) n) (by simp[results,results160,go_sem,N,M]) rfl ⟨j,r,rfl,Own.h (B:=U (Q W)) ?_ ae,?_⟩;{
 repeat(refine xj ?_ cg _)
 exact V};{
 repeat(refine kV ?_ ai _)
 exact bb}
variable {n:Int}
theorem eE0:dQ dG 161 #[xx (jC p k c) n] w λe w'=>e=dR (xx (jC p k c) k)/\Below (U (Q w)) w w':=by
 go_in;go_wp2;refine bO (v:=xx (jC p k c) k) (by simp[results,results161,go_sem]) rfl ⟨rfl,?_⟩
 repeat(refine kV ?_ ai _)
 exact(aH.alloc az _).alloc ai _
def Yc(f:Int):Bool:=dD (0<=f)&&dD (f<3)
variable {f:Int}
theorem aZ1(a:0<=f)(b:f<3):Yc f:=by simp[Yc,a,b]
theorem cf3(a:¬(0<=f/\f<3)):Yc f=dF:=by
 unfold Yc;rw[Di];simp only[Iw];omega
theorem cw3(p0 i p2:OA)(n0 c0 n1 j n2 c2:Nat)(s0 s1 s2 f:Int)(w:G):dQ dG 158 #[mu (jC p0 n0 c0) s0 (jC i n1 j) s1 (jC p2 n2 c2) s2,jK jV f] w λe w'=>e=dR (jO (Yc f))/\Below (U (Q w)) w w':=by
 by_cases a:0<=f;{by_cases b:f<3;{rw[aZ1 a b];go_in;go_wp2;go_ret;exact⟨rfl,aH.alloc az _⟩};{rw[cf3 ae];go_in;go_wp2;go_ret;exact⟨rfl,aH.alloc az _⟩}};{rw[cf3 ae];go_in;go_wp2;go_ret;exact⟨rfl,aH.alloc az _⟩}
theorem cn9(i:k<=200000)(hm:m<=2^21):dQ dG 159 #[xx (jC p k c) n,jC q m d] w λe w'=>e=dR (jO (dD (m+k<=200000)))/\Below (U (Q w)) w w':=by
 by_cases h:(m:Int)<=200000-k;{
 have e:dD (m+k<=200000):=by simp;omega
 rw[e];go_in;go_wp2;go_ret;exact⟨ai,aH.alloc az _⟩};{
 have e:dD (m+k<=200000)=dF:=by simp;omega
 rw[e];go_in;go_wp2;go_ret;exact⟨ai,aH.alloc az _⟩}
variable {n0 n1 n2:Int}
theorem bn8(h0:Rd w (jC p0 (J l0) c0) l0)(h1:Rd w (jC p1 (J l1) c1) l1)(h2:Rd w (jC p2 (J l2) c2) l2)(m0:J l0<=2^21)(m1:J l1<=2^21)(m2:J l2<=2^21):dQ dG 50 #[mu (jC p0 (J l0) c0) n0 (jC p1 (J l1) c1) n1 (jC p2 (J l2) c2) n2] w λe w'=>
   ∃i m q r u y,e=dR (mu (jC i (J l0) m) n0 (jC q (J l1) r) n1 (jC u (J l2) y) n2)∧
    my (U (Q w)) w' (jC i (J l0) m) (jC q (J l1) r) (jC u (J l2) y) l0 l1 l2/\Below (U (Q w)) w w':=by
 go_in
 go_wp21
 let⟨W,j⟩:=aF (jA (jA w (dO #[jC p0 (J l0) c0,jK jV n0,jC p1 (J l1) c1,jK jV n1,jC p2 (J l2) c2,jK jV n2] 89)) (dO #[jC dN 0 0,jK jV 0,jC dN 0 0,jK jV 0,jC dN 0 0,jK jV 0] 30));have D:Bw w W:=by rw[j];exact(aH.alloc az _).alloc ai _
 have x:lu W (U (Q w)) (jC p0 (J l0) c0) (jK jV n0) (jC p1 (J l1) c1) (jK jV n1) (jC p2 (J l2) c2) (jK jV n2):=by rw[j];simp[lu]
 have r0:lu W (U (Q w)+1) (jC dN 0 0) (jK jV 0) (jC dN 0 0) (jK jV 0) (jC dN 0 0) (jK jV 0):=by rw[j];simp[lu]
 have f0:∀o,jF W (Ax w o)=dF:=by intro o;rw[j];simp
 have zW:U (Q w)+2=U (Q W):=by rw[j];simp
 rw[<-j];clear j;have e0:=h0.H D.drew;have e1:=h1.H D;have e2:=h2.H D;have UD:lu W.drew (U (Q w)) (jC p0 (J l0) c0) (jK jV n0) (jC p1 (J l1) c1) (jK jV n1) (jC p2 (J l2) c2) (jK jV n2):=x
 go_region_held3 (λw'=>lu w' (U (Q w)) (jC p0 (J l0) c0) (jK jV n0) (jC p1 (J l1) c1) (jK jV n1) (jC p2 (J l2) c2) (jK jV n2)) (first|with_reducible exact UD|with_reducible exact k1|with_reducible exact k2|with_reducible exact k3|(clear x UD k1 k2 S R E f3 e0 e1 e2 o0 o1 o2 ao V M r0 f0 D;refine⟨?_,?_,?_,?_,?_,?_⟩<;>go_keep))
  (first
   |(go_at_call_of 103 (Value.agg #[jC p0 (J l0) c0,jK jV n0]);refine(bn9 p0 c0 n0 l0 _ (by exact e0) m0).h ?_;rintro e s⟨i,m,rfl,o0,ao⟩;have S:=ah (aR (U (Q W)) W).drew ao;have k1:=lu.H x S)
   |(go_at_call_of 103 (Value.agg #[jC p1 (J l1) c1,jK jV n1]);refine(bn9 p1 c1 n1 l1 _ (by exact e1.H S) m1).h ?_;rintro e X⟨q,r,rfl,o1,V⟩;have R:=ah S V;have k2:=lu.H x R)
   |(go_at_call_of 103 (Value.agg #[jC p2 (J l2) c2,jK jV n2]);refine(bn9 p2 c2 n2 l2 _ (by exact e2.H R) m2).h ?_;rintro e N⟨u,y,rfl,o2,M⟩;have E:=ah R M;have k3:=lu.H x E;have r3:=lu.H r0 E;have f3:=rY f0 E ae))
 have z1:U (Q w)+2<=U (Q s):=by have:=ao.size;simp at this;omega
 have z2:U (Q s)<=U (Q X):=V.size;have z3:U (Q X)<=U (Q N):=M.size;have bb:Bw w N:=ah D E;have u0:Ow W N (jC i (J l0) m) l0:=Own.H (Own.H (by simpa using o0) V) M;have u1:Ow s N (jC q (J l1) r) l1:=Own.H o1 M;have Z:Ow W s (jC i (J l0) m) l0:=by simpa using o0
 have ra:=r3;go_wp2;refine bO (v:=mu (jC i (J l0) m) n0 (jC q (J l1) r) n1 (jC u (J l2) y) n2) (by simp[results,results50,go_sem,ra]) rfl ⟨i,m,q,r,u,y,rfl,?_,?_⟩;{
 refine my.mk' (B:=U (Q w)) (B1:=U (Q s)) (B2:=U (Q X)) (Z.h ae) o1 (Own.h (B:=U (Q W)) ?_ ae) ?_ ?_ az az ae ae;{
 repeat(refine xj ?_ cg _)
 exact u0};{
 repeat(refine xj ?_ cg _)
 exact u1};{
 repeat(refine xj ?_ cg _)
 exact o2}};{
 repeat(refine kV ?_ ai _)
 exact bb}
theorem my.set(h:my B w v0 v1 v2 l0 l1 l2){a:Addr}(i:a.block<B)(u:dV):my B (w.setCell a u) v0 v1 v2 l0 l1 l2:=
 ⟨h.o0.set i u,h.o1.set i u,h.o2.set i u,h.n01,h.n02,h.n12⟩
theorem my.h(h:my B w v0 v1 v2 l0 l1 l2)(i:B'<=B):my B' w v0 v1 v2 l0 l1 l2:=
 ⟨h.o0.h i,h.o1.h i,h.o2.h i,h.n01,h.n02,h.n12⟩
def JN(w:G)(m j i:LI)(D B y code:Int)(e:Ending)(w':G):Prop:=
 ∃r x q u o s,e=dR (dT #[mu (jC r (J m) x) D (jC q (J j) u) B (jC o (J i) s) y,jK jV code])∧
  my (U (Q w)) w' (jC r (J m) x) (jC q (J j) u) (jC o (J i) s) m j i/\Below (U (Q w)) w w'
variable {v:G}
theorem cw4(u:Below (U (Q w)) w v)(B:Rd w (jC p0 (J l0) c0) l0)(y:Rd w (jC p1 (J l1) c1) l1)(x:Rd v (jC p2 (J l2) c2) l2)(M:J l0<=200000)(E:J l1<=200000)(D:J l2<=200000):Cp 50 #[jP #[jC p0 (J l0) c0,jK jV n0,jC p1 (J l1) c1,jK jV n1,jC p2 (J l2) c2,jK jV n2]] v λe w'=>
   ∃m s j r i q,e=dR (mu (jC m (J l0) s) n0 (jC j (J l1) r) n1 (jC i (J l2) q) n2)/\my (U (Q v)) w' (jC m (J l0) s) (jC j (J l1) r) (jC i (J l2) q) l0 l1 l2/\Below (U (Q w)) w w':=
 (bn8 (n0:=n0) (n1:=n1) (n2:=n2) (B.H u) (y.H u) x ae ae ae).h λe w'⟨m,s,j,r,i,q,h,o,b⟩=>⟨m,s,j,r,i,q,h,o,ah u b⟩
theorem ax5(o:Below (U (Q w)) w v)(E:Rd w (jC p0 (J l0) c0) l0)(D:Rd w (jC p1 (J l1) c1) l1)(B:Rd w (jC p2 (J l2) c2) l2)(y:J l0<=200000)(x:J l1<=200000)(u:J l2<=200000):Cp 50 #[jP #[jC p0 (J l0) c0,jK jV n0,jC p1 (J l1) c1,jK jV n1,jC p2 (J l2) c2,jK jV n2]] v λe w'=>
   ∃m s j r i q,e=dR (mu (jC m (J l0) s) n0 (jC j (J l1) r) n1 (jC i (J l2) q) n2)/\my (U (Q v)) w' (jC m (J l0) s) (jC j (J l1) r) (jC i (J l2) q) l0 l1 l2/\Below (U (Q w)) w w':=cw4 o E D (B.H o) y x u
theorem cC8(p0 y p2:OA)(c0 D c2:Nat)(n0 n1 n2:Int)(l0 l1 l2:LI)(w:G)(h0:Rd w (jC p0 (J l0) c0) l0)(h1:Rd w (jC y (J l1) D) l1)(h2:Rd w (jC p2 (J l2) c2) l2)(hd:O (oK (J l0) n0 (J l1) n1 (J l2) n2))(hs:J l0<=200000)(fh:J l1<=200000)(xQ:J l2<=200000):dQ dG 96 #[mu (jC p0 (J l0) c0) n0 (jC y (J l1) D) n1 (jC p2 (J l2) c2) n2,jK jV 0] w (JN w [] l1 l2 0 n1 n2 0)/\dQ dG 96 #[mu (jC p0 (J l0) c0) n0 (jC y (J l1) D) n1 (jC p2 (J l2) c2) n2,jK jV 2] w (JN w l0 l1 [] n0 n1 0 0)/\dQ dG 100 #[mu (jC p0 (J l0) c0) n0 (jC y (J l1) D) n1 (jC p2 (J l2) c2) n2,jK jV 2] w (JN w l0 l1 l2 n0 n1 (J l2) 0)/\(∀(V:OA)(R E:LI)(lK:O (E=l2++R))(W:Nat)(hB:Rd w (jC V (J R) W) R)(vf:O (J E<=200000)),dQ dG 98 #[mu (jC p0 (J l0) c0) n0 (jC y (J l1) D) n1 (jC p2 (J l2) c2) n2,jK jV 2,jC V (J R) W] w (JN w l0 l1 E n0 n1 n2 0))/\dQ dG 101 #[mu (jC p0 (J l0) c0) n0 (jC y (J l1) D) n1 (jC p2 (J l2) c2) n2] w (JN w l0 l2 [] n0 n2 0 0):=by
 refine⟨?_,?_,?_,λV R E lK W hB vf=>?_,?_⟩
 all_goals(
  go_in
  go_wp21
  refine cK (ax4 p0 y p2 c0 D c2 rfl rfl rfl) λj Z=>?_;have S:Bw w j:=((aH.alloc az _).alloc ai _).Z (Z.h cg);have z1:U (Q w)+1<U (Q j):=by have:=Z.size;simp at this;omega
  have R1:=br (show lu j (U (Q w)+1) (jC dN 0 0) (jK jV 0) (jC dN 0 0) (jK jV 0) (jC dN 0 0) (jK jV 0)from lu.H (by simp[lu]) Z) (rY (b:=U (Q w)+1) (by intro o;simp) Z ai);have r:=dy (h0.H S) (h1.H S) (h2.H S)
  try have eb:=af (hB.H S)
  go_wp21
  refine cK (bn7 ae ae ae) λw2 X=>?_;rw[aa hd];have M:lu w2 (U (Q j)) (jC p0 (J l0) c0) (jK jV n0) (jC y (J l1) D) (jK jV n1) (jC p2 (J l2) c2) (jK jV n2):=lu.H (by simp[lu]) X;have N:=rY (b:=U (Q j)) (by intro o;simp) X ai;have m:Bw j w2:=(aH.alloc az _).Z (X.h ai);have s:U (Q j)<U (Q w2):=by have:=X.size;simp at this;omega
  go_wp21)
 iterate 4 (
  focus (
   refine cK (cw3 p0 y p2 _ c0 _ D _ c2 n0 n1 n2 _ _) λx i=>?_;rw[aZ1 ae ae];replace M:=M.H i;replace N:=rY N i s;replace m:Bw j x:=ah m i;replace s:U (Q j)<U (Q x):=aM i.size
   go_wp21)
  rotate_left)
 rotate_left 3
 focus (
  refine cK (eE0) λx i=>?_;replace M:=M.H i;replace N:=rY N i s;replace m:Bw j x:=ah m i;replace s:U (Q j)<U (Q x):=aM i.size
  go_wp21
  refine Xq (ax5 (by repeat(first|refine kV ?_ ai _|exact m)) r.1 r.2.1 r.2.2 ae ae ae) ?_)
 rotate_left
 focus (
  have el:=tg List.length lK;rw[eG]at el;have rM:=aa vf;have hr:dD (J R+J l2<=200000):=by simp;omega
  refine cK (cn9 ae ae) λx i=>?_;rw[hr];replace M:=M.H i;replace N:=rY N i s;replace m:Bw j x:=ah m i;replace s:U (Q j)<U (Q x):=aM i.size
  go_wp21
  refine(cw5 p2 V c2 W n2 l2 R E lK _ (r.2.2.H m) (eb.H m) ae).h ?_;rintro e w4⟨pm,cm,rfl,om,i⟩;replace M:=M.H i;replace N:=rY N i s;replace m:Bw j w4:=ah m i;clear i el
  go_wp21
  have qG:Ow x _ (jC pm (J E) cm) E:=(om.set (a:=(Aw j 4)) s (jC pm (J E) cm)).set (a:=(Aw j 5)) s (jK jV n2);refine Xq (cw4 (by repeat(first|refine kV ?_ ai _|exact m)) r.1 r.2.1 qG.rd ae ae ae) ?_)
 rotate_left;refine Xq (ax5 (p2:=dN) (c2:=0) (l2:=[]) (by repeat(first|refine kV ?_ ai _|exact m)) r.1 r.2.2 (Rd.nil _) ae ae ai) ?_;rotate_left;refine Xq (ax5 (p0:=dN) (c0:=0) (l0:=[]) (by repeat(first|refine kV ?_ ai _|exact m)) (Rd.nil _) r.2.1 r.2.2 ai ae ae) ?_;rotate_left;refine Xq (ax5 (p2:=dN) (c2:=0) (l2:=[]) (by repeat(first|refine kV ?_ ai _|exact m)) r.1 r.2.1 (Rd.nil _) ae ae ai) ?_;rotate_left
 all_goals(
  rintro e w6⟨q0,d0,q1,d1,q2,d2,rfl,o6,b6⟩;have o7:=o6.h (B':=U (Q w)+2) (by simp;have:=m.size;omega);have bb:=ah S b6;have ra:=R1.1.H b6;have F6:=rY R1.2 b6 z1
  try clear om qG eb
  go_wp2;refine bO (by simp[results,results96,results100,results98,results101,go_sem,ra]) rfl ⟨q0,d0,q1,d1,q2,d2,rfl,?_,?_⟩;{
 refine my.h (B:=U (Q w)+2) ?_ ae
 repeat(refine my.set ?_ ai _)
 exact o7};{
 repeat(refine kV ?_ ai _)
 exact bb})
theorem eq5(p0 y p2:OA)(c0 D c2:Nat)(n0 n1 n2:Int)(l0 l1 l2:LI)(w:G)(h0:Rd w (.S p0 (J l0) c0) l0)(h1:Rd w (.S y (J l1) D) l1)(h2:Rd w (.S p2 (J l2) c2) l2)(hd:O (oK (J l0) n0 (J l1) n1 (J l2) n2))(hs:J l0<=200000)(fh:J l1<=200000)(xQ:J l2<=200000)(pb:OA)(lb lm:LI)(lK:O (lm=l0++lb))(cb:Nat)(hB:Rd w (.S pb (J lb) cb) lb)(vf:O (J lm<=200000)):dQ dG 98 #[mu (.S p0 (J l0) c0) n0 (.S y (J l1) D) n1 (.S p2 (J l2) c2) n2,.I 0,.S pb (J lb) cb] w (JN w lm l1 l2 n0 n1 n2 0):=by
 go_in
 go_wp21
 refine cK (ax4 p0 y p2 c0 D c2 rfl rfl rfl) λi N=>?_;have E:Bw w i:=((aH.alloc az _).alloc ai _).Z (N.h cg);have z1:U (Q w)+1<U (Q i):=by have:=N.size;simp at this;omega
 have R1:=br (show lu i (U (Q w)+1) aq (.I 0) aq (.I 0) aq (.I 0)from lu.H (by simp[lu]) N) (rY (b:=U (Q w)+1) (by intro o;simp) N ai);have V:=dy (h0.H E) (h1.H E) (h2.H E);have eb:=af (hB.H E);clear N
 go_wp21
 refine cK (bn7 ae ae ae) λX M=>?_;rw[aa hd];have s:lu X (U (Q i)) (.S p0 (J l0) c0) (.I n0) (.S y (J l1) D) (.I n1) (.S p2 (J l2) c2) (.I n2):=lu.H (by simp[lu]) M;have u:=rY (b:=U (Q i)) (by intro o;simp) M ai;have m:Bw i X:=(aH.alloc az _).Z (M.h ai);have r:U (Q i)<U (Q X):=by have:=M.size;simp at this;omega
 clear M
 go_wp21
 refine cK (cw3 p0 y p2 _ c0 _ D _ c2 n0 n1 n2 _ _) λw3 j=>?_;rw[aZ1 ae ae];replace s:=s.H j;replace u:=rY u j r;replace m:Bw i w3:=ah m j;replace r:U (Q i)<U (Q w3):=aM j.size;clear j
 go_wp21
 have el:=tg List.length lK;rw[eG]at el;have rM:=aa vf;have hr:dD (J lb+J l0<=200000):=by simp;omega
 refine cK (cn9 ae ae) λW j=>?_;rw[hr];replace s:=s.H j;replace u:=rY u j r;replace m:Bw i W:=ah m j;replace r:U (Q i)<U (Q W):=aM j.size;clear j hr
 go_wp21
 refine(cw5 p0 pb c0 cb n0 l0 lb lm lK _ (V.1.H m) (eb.H m) ae).h ?_;rintro e w5⟨Z,cm,rfl,om,j⟩;replace s:=s.H j;replace u:=rY u j r;replace m:Bw i w5:=ah m j;clear j el
 go_wp21
 have qG:Ow W _ (.S Z (J lm) cm) lm:=(om.set (a:=(Aw i 0)) r (.S Z (J lm) cm)).set (a:=(Aw i 1)) r (.I n0);have R:=(m.setCell (p:=(Aw i 0)) az (.S Z (J lm) cm)).setCell (p:=(Aw i 1)) az (.I n0);refine(bn8 qG.rd (V.2.1.H R) (V.2.2.H R) ae ae ae).h ?_;rintro e w6⟨q0,d0,q1,d1,q2,d2,rfl,o6,x⟩;have o7:=o6.h (B':=U (Q w)+2) (by simp;have:=m.size;omega);have x:=ah R x;have bb:=ah E x;have ra:=R1.1.H x;have F6:=rY R1.2 x z1;clear s u m R V o6 x R1 om qG eb;go_wp2;refine bO (by simp[results,results98,go_sem,ra]) rfl ⟨q0,d0,q1,d1,q2,d2,rfl,?_,?_⟩;{
 refine my.h (B:=U (Q w)+2) ?_ ae
 repeat(refine my.set ?_ ai _)
 exact o7};{
 repeat(refine kV ?_ ai _)
 exact bb}
theorem db7(p0 q p2:OA)(c0 r c2:Nat)(n0 n1 n2:Int)(l0 l1 l2:LI)(w:G)(h0:Rd w (.S p0 (J l0) c0) l0)(Z:Rd w (.S q (J l1) r) l1)(X:Rd w (.S p2 (J l2) c2) l2)(hd:O (oK (J l0) n0 (J l1) n1 (J l2) n2))(m0:J l0<=200000)(m1:J l1<=200000)(m2:J l2<=200000):dQ dG 95 #[mu (.S p0 (J l0) c0) n0 (.S q (J l1) r) n1 (.S p2 (J l2) c2) n2] w (JN w l0 l1 [] n0 n1 0 0)/\dQ dG 99 #[mu (.S p0 (J l0) c0) n0 (.S q (J l1) r) n1 (.S p2 (J l2) c2) n2] w (JN w l0 l1 l2 n0 n1 (J l2) 0)/\dQ dG 102 #[mu (.S p0 (J l0) c0) n0 (.S q (J l1) r) n1 (.S p2 (J l2) c2) n2] w (JN w [] l1 l2 0 n1 n2 0)∧
  ∀(E:Nat)(x:OA)(D:Nat)(j s:LI)(W:O (s=l2++j))(N:I w (Ad E 0)=dS x (J j) D)(R:Rd w (.S x (J j) D) j)(M:J j<=200000)(V:J s<=200000),dQ dG 97 #[mu (.S p0 (J l0) c0) n0 (.S q (J l1) r) n1 (.S p2 (J l2) c2) n2,Pz E] w (JN w l0 l1 s n0 n1 n2 0):=by
 have m:∀o i:Obj,Bw w ((jA w o).alloc i):=λo i=>(aH.alloc az _).alloc ai _;have u:=af (λo i=>cC8 p0 q p2 c0 r c2 n0 n1 n2 l0 l1 l2 ((jA w o).alloc i) (h0.H (m o i)) (Z.H (m o i)) (X.H (m o i)) hd m0 m1 m2);refine⟨?_,?_,?_,λE x D j s W N R M V=>?_⟩
 all_goals(
  try have Lb:=λo i=>aj N (m o i)
  go_in
  go_wp21)
 refine(aa u _ _).2.1.h ?_;rotate_left;refine(aa u _ _).2.2.1.h ?_;rotate_left;refine(aa u _ _).1.h ?_;rotate_left;refine((aa u _ _).2.2.2.1 x j s W D (R.H (m _ _)) V).h ?_;rotate_left
 all_goals(
  rintro e w2⟨q0,d0,q1,d1,q2,d2,rfl,o,y⟩;have F:=rY (b:=U (Q w)+1) (by intro o;simp) y ai;obtain⟨ra,rb,rc,rd,re,rf⟩:lu w2 (U (Q w)+1) aq (.I 0) aq (.I 0) aq (.I 0):=lu.H (by simp[lu]) y;have bb:=ah (m _ _) y;clear h0 Z X m y u
  try clear R N Lb
  go_wp2;refine bO (by simp[results,results95,results97,results99,results102,go_sem,ra,rb,rc,rd,re,rf]) rfl ⟨q0,d0,q1,d1,q2,d2,rfl,?_,?_⟩;{
 refine my.h (B:=U (Q w)+2) ?_ ae
 repeat(refine my.set ?_ ai _)
 simpa using o};{
 repeat(refine kV ?_ ai _)
 exact bb})
def Cr{α:Type}(f:α->α)(k:Nat)(xs:List α):List α:=(jT k xs).map f++jD k xs
theorem bn4{α:Type}(f:α->α)(xs:List α):Cr f 0 xs=xs:=by simp[Cr]
theorem bn6{α:Type}(f:α->α){xs:List α}(h:J xs<=k):Cr f k xs=xs.map f:=by
 rw[Cr,od h,Ut h,De]
theorem Rl{α:Type}(f:α->α){xs:List α}{x:α}(h:xs[k]?=x):(Cr f k xs)[k]?=x:=by
 have i:=(bu.1 h).1;rw[Cr,rG cg,Kd,iH,te,show k+(k-min k (J xs))=k by omega];exact h
theorem bn5{α:Type}(f:α->α){xs:List α}{x:α}(h:xs[k]?=x):(Cr f k xs).set k (f x)=Cr f (k+1) xs:=by
 have i:=(bu.1 h).1;have j:=(bu.1 h).2;rw[Cr,Cr,aV9 _ _ cg,iH,te,show k-min k (J xs)=0 by omega,Mm i,XL,sE,h];simp
theorem aY3(h:Rd w (jC p (J l) c) l)(hl:J l<=2^21):dQ dG 71 #[xx (jC p (J l) c) n] w λe w'=>∃i j,e=dR (xx (jC i (J l) j) n)/\Own (U (Q w)) w' (jC i (J l) j) l/\Below (U (Q w)) w w':=by
 have q:Bw w (jA (jA w (dO #[jC p (J l) c,jK jV n] 28)) (dO #[jC dN 0 0,jK jV 0] 28)):=(aH.alloc az _).alloc ai _;have u:=af (h.H q.drew);clear h;go_in
 go_wp21
 go_region_held3 (λw'=>I w' (Aw w 0)=Y (jC p (J l) c)/\I w' (Aw w 1)=Y (jK jV n)) (first|go_keep|(simp[y,x];done))
  (first|(go_at_call 66;refine(aY4 (by exact aa u) hl).h ?_;rintro e m⟨i,j,rfl,s,r⟩;obtain⟨o,M⟩:=aB6 r;have y:I m (Aw w 0)=Y (jC p (J l) c):=(o _ _ cg).Z ai;have x:I m (Aw w 1)=Y (jK jV n):=(o _ _ cg).Z ai))
 have E:Bw w m:=q.drew.Z (r.h cg);have D:Own (U (Q w)+2) m (jC i (J l) j) l:=by simpa using s
 clear u q s r y x;go_wp2;refine bO (v:=xx (jC i (J l) j) n) (by simp[results,results71,go_sem,o]) rfl ⟨i,j,rfl,Own.h (B:=U (Q w)+2) ?_ ae,?_⟩;{
 repeat(refine xj ?_ ai _)
 exact D};{
 repeat(refine kV ?_ (by simp<;>omega) _)
 exact E}
theorem ce1(p0 j p2:OA)(c0 r c2:Nat)(n0 n1 n2:Int)(l0 l1 l2:LI)(w:G)(h0:Rd w (jC p0 (J l0) c0) l0)(h1:Rd w (jC j (J l1) r) l1)(h2:Rd w (jC p2 (J l2) c2) l2)(m0:J l0<=2^21)(m1:J l1<=2^21)(m2:J l2<=2^21):dQ dG 36 #[mu (jC p0 (J l0) c0) n0 (jC j (J l1) r) n1 (jC p2 (J l2) c2) n2] w λe w'=>
   ∃i q s x M N,e=dR (mu (jC i (J l0) q) n0 (jC s (J l1) x) n1 (jC M (J l2) N) n2)∧
    my (U (Q w)) w' (jC i (J l0) q) (jC s (J l1) x) (jC M (J l2) N) l0 l1 l2/\Below (U (Q w)) w w':=by
 go_in
 go_wp21
 let⟨W,m⟩:=aF (jA (jA w (dO #[jC p0 (J l0) c0,jK jV n0,jC j (J l1) r,jK jV n1,jC p2 (J l2) c2,jK jV n2] 30)) (dO #[jC dN 0 0,jK jV 0,jC dN 0 0,jK jV 0,jC dN 0 0,jK jV 0] 30));have R:Bw w W:=m▸(aH.alloc az _).alloc ai _;have u:lu W (U (Q w)) (jC p0 (J l0) c0) (jK jV n0) (jC j (J l1) r) (jK jV n1) (jC p2 (J l2) c2) (jK jV n2):=by rw[m];simp[lu]
 have r0:lu W (U (Q w)+1) (jC dN 0 0) (jK jV 0) (jC dN 0 0) (jK jV 0) (jC dN 0 0) (jK jV 0):=by rw[m];simp[lu]
 have f0:∀o,jF W (Ax w o)=dF:=by intro o;rw[m];simp
 have zW:U (Q w)+2=U (Q W):=by rw[m];simp
 rw[<-m];clear m;have e0:=h0.H R.drew;have e1:=h1.H R;have e2:=h2.H R;clear h0 h1 h2;have UD:lu W.drew (U (Q w)) (jC p0 (J l0) c0) (jK jV n0) (jC j (J l1) r) (jK jV n1) (jC p2 (J l2) c2) (jK jV n2):=u
 go_region_held3 (λw'=>lu w' (U (Q w)) (jC p0 (J l0) c0) (jK jV n0) (jC j (J l1) r) (jK jV n1) (jC p2 (J l2) c2) (jK jV n2)) (first|with_reducible exact UD|with_reducible exact k1|with_reducible exact k2|with_reducible exact k3|(clear u UD k1 k2 V S y f3 e0 e1 e2 o0 o1 o2 ao X D r0 f0 R;refine⟨?_,?_,?_,?_,?_,?_⟩<;>go_keep))
  (first
   |(go_at_call_of 71 (Value.agg #[jC p0 (J l0) c0,jK jV n0]);refine(aY3 (by exact e0) m0).h ?_;rintro e E⟨i,q,rfl,o0,ao⟩;have V:=ah (aR (U (Q W)) W).drew ao;have k1:=lu.H u V)
   |(go_at_call_of 71 (Value.agg #[jC j (J l1) r,jK jV n1]);refine(aY3 (by exact e1.H V) m1).h ?_;rintro e w2⟨s,x,rfl,o1,X⟩;have S:=ah V X;have k2:=lu.H u S)
   |(go_at_call_of 71 (Value.agg #[jC p2 (J l2) c2,jK jV n2]);refine(aY3 (by exact e2.H S) m2).h ?_;rintro e Z⟨M,N,rfl,o2,D⟩;have y:=ah S D;have k3:=lu.H u y;have r3:=lu.H r0 y;have f3:=rY f0 y ae))
 have z1:U (Q w)+2<=U (Q E):=by have:=ao.size;simp at this;omega
 have z2:U (Q E)<=U (Q w2):=X.size;have z3:U (Q w2)<=U (Q Z):=D.size;have bb:Bw w Z:=ah R y;have u0:Ow W Z (jC i (J l0) q) l0:=Own.H (Own.H (by simpa using o0) X) D;have u1:Ow E Z (jC s (J l1) x) l1:=Own.H o1 D;have u0':Ow W E (jC i (J l0) q) l0:=by simpa using o0
 have ra:=r3;clear u UD k1 k2 k3 V S y e0 e1 e2 ao X D r0 f0 o0;go_wp2;refine bO (v:=mu (jC i (J l0) q) n0 (jC s (J l1) x) n1 (jC M (J l2) N) n2) (by simp[results,results36,go_sem,ra]) rfl ⟨i,q,s,x,M,N,rfl,?_,?_⟩;{
 refine my.mk' (B:=U (Q w)) (B1:=U (Q E)) (B2:=U (Q w2)) (u0'.h ae) o1 (Own.h (B:=U (Q W)) ?_ ae) ?_ ?_ az az ae ae;{
 repeat(refine xj ?_ cg _)
 exact u0};{
 repeat(refine xj ?_ cg _)
 exact u1};{
 repeat(refine xj ?_ cg _)
 exact o2}};{
 repeat(refine kV ?_ ai _)
 exact bb}
open Go.Maps Go.Extern.Stop Go.Stop Go.Extern
theorem eD4(t:dV)(w:G):dQ dG 125 #[.nilIface,t] w λe w'=>e=dR (jO dF)/\w'=w:=by
 go_in;go_wp2;go_ret;exact⟨rfl,rfl⟩
theorem dk6(t:Addr)(w:G):(ReflectliteValue.unpack (.iface 172 (dP t))).run dG w=.ok (jP #[dP (Ad 5 172),Pz (U (Q w)),.U 150]) (jA w (dO #[dP t] 172)):=by kernel_rfl
theorem dk8(a : Addr)(w : World):(ReflectliteValue.methodAny (ReflectliteValue.valueError "reflectlite.Value.Type" 0) (λt _ _ _=>ReflectliteType.toType t) #[.agg #[.pointer (some ⟨5,172,none⟩), .pointer (some a), .U 150]]).run prog w = .ok (.iface 279 (.agg #[.pointer (some ⟨5,172,none⟩)])) w:=by kernel_rfl
theorem dl5(h : Value)(w : World):(Go.method 476 279 (.agg #[h]) "Kind").run prog w = .ok (286,h) w:=by kernel_rfl
theorem dl7(h : Value)(w : World):(Go.method 476 279 (.agg #[h]) "Elem").run prog w = .ok (325, .agg #[h]) w:=by kernel_rfl
theorem dl6(h : Value)(w : World):(Go.method 476 279 (.agg #[h]) "Implements").run prog w = .ok (326, .agg #[h]) w:=by kernel_rfl
theorem dl8(h : Value)(w : World):(Go.method 476 279 (.agg #[h]) "AssignableTo").run prog w = .ok (323, .agg #[h]) w:=by kernel_rfl
theorem dm0(w:G):((ReflectliteType.abiMethod λt=>Functor.map (λ a:Nat=>Value.int IntKind.u8 (a:Int)) (Rtype.kind t)) #[dP (Ad 5 172)]).run dG w=.ok (jK .u8 22) w:=by kernel_rfl
theorem dl9(w:G):((ReflectliteType.abiMethod λt=>Functor.map (λ a:Nat=>Value.int IntKind.u8 (a:Int)) (Rtype.kind t)) #[dP (Ad 5 107)]).run dG w=.ok (jK .u8 25) w:=by kernel_rfl
theorem bR8(a:Addr)(w:G):(ReflectliteValue.parts (jP #[dP (Ad 5 172),dP a,.U 150])).run dG w=.ok (Y (172,a,150)) w:=by kernel_rfl
theorem dl3(a p : Addr)(W : World)(i : W.cell? a = some (.pointer (some p))):(ReflectliteValue.method (ReflectliteValue.valueError "reflectlite.Value.IsNil" 0) ReflectliteValue.isNil #[.agg #[.pointer (some ⟨5,172,none⟩), .pointer (some a), .U 150]]).run prog W = .ok (.bool false) W:=by
 show Sem.run _ (ReflectliteValue.parts (.agg #[.pointer (some (Ad 5 172)),.pointer (some a),.U 150]) >>=_) _=_;rw[Mn,bR8];simp[ReflectliteValue.isNil,loadVar,isAgg,underlying,underlying172,i,Result.andThen]
theorem dm5(w:G):(ReflectliteType.method ReflectliteType.elem #[jP #[dP (Ad 5 172)]]).run dG w=.ok (.iface 279 (jP #[dP (Ad 5 107)])) w:=by kernel_rfl
theorem dm1(w : World):(ReflectliteType.relation "Implements" ReflectliteType.implements_ #[.agg #[.pointer (some ⟨5,107,none⟩)], .iface 279 (.agg #[.pointer (some ⟨5,168,none⟩)])]).run prog w = .ok (.bool true) w:=by kernel_rfl
theorem dk9(v:dV)(w:G):(ReflectliteType.typeOf #[.iface 107 v]).run dG w=.ok (.iface 279 (jP #[dP (Ad 5 107)])) w:=by kernel_rfl
theorem dm7(w : World):(ReflectliteType.relation "AssignableTo" ReflectliteType.assignableTo #[.agg #[.pointer (some ⟨5,107,none⟩)], .iface 279 (.agg #[.pointer (some ⟨5,107,none⟩)])]).run prog w = .ok (.bool true) w:=by kernel_rfl
theorem dk7(C:Int)(w:G):(ReflectliteValue.unpack (.iface 107 (jP #[.I C]))).run dG w=.ok (jP #[dP (Ad 5 107),Pz (U (Q w)),.U 153]) (jA w (dO #[.I C] 107)):=by kernel_rfl
theorem dm4(w:G):(Rtype.elem? 172).run dG w=.ok (Y 107) w:=by kernel_rfl
theorem dl4(p:Addr)(w:G):(ReflectliteValue.mk 107 p ReflectliteValue.flagAddr).run dG w=.ok (jP #[dP (Ad 5 107),dP p,.U 409]) w:=by kernel_rfl
theorem dm3(a p : Addr)(W : World)(i : W.cell? a = some (.pointer (some p))):(ReflectliteValue.method (ReflectliteValue.valueError "reflectlite.Value.Elem" 0) ReflectliteValue.elem #[.agg #[.pointer (some ⟨5,172,none⟩), .pointer (some a), .U 150]]).run prog W = .ok (.agg #[.pointer (some ⟨5,107,none⟩), .pointer (some p), .U 409]) W:=by
 show Sem.run _ (ReflectliteValue.parts (.agg #[.pointer (some (Ad 5 172)),.pointer (some a),.U 150]) >>=_) _=_;rw[Mn,bR8];simp[ReflectliteValue.elem,loadVar,isAgg,underlying,underlying172,i,Result.andThen,dm4,dl4]
theorem dl2(a:Addr)(w:G):(ReflectliteValue.parts (jP #[dP (Ad 5 107),dP a,.U 409])).run dG w=.ok (Y (107,a,409)) w:=by kernel_rfl
theorem dl1(a:Addr)(w:G):(ReflectliteValue.parts (jP #[dP (Ad 5 107),dP a,.U 153])).run dG w=.ok (Y (107,a,153)) w:=by kernel_rfl
theorem dm6(w:G):(Rtype.directlyAssignable 107 107).run dG w=.ok dY w:=by kernel_rfl
theorem dl0(i g:Nat)(C:Int)(m:dV)(W:G)(s:I W (Ad g 0)=dI C)(q:I W (Ad i 0)=m)(hf:jF W (Ad i 0)=dF):(ReflectliteValue.set #[jP #[dP (Ad 5 107),Pz i,.U 409],jP #[dP (Ad 5 107),Pz g,.U 153]]).run dG W=.ok (dT #[]) (jS W (Ad i 0) (.I C)):=by
 show Sem.run _ (ReflectliteValue.parts (jP #[dP (Ad 5 107),Pz i,.U 409]) >>=_) _=_;rw[Mn,dl2,am3,Mn];show((Sem.run _ (ReflectliteValue.parts (jP #[dP (Ad 5 107),Pz g,.U 153])) _).andThen _)=_;rw[dl1,am3];have r:(loadCells (Ad g 0) 1).run dG W=.ok #[.I C] W:=run_loadCells_list W (Ad g 0) [.I C] (λj v o=>by
  have e:j=0:=by have:=(bu.1 o).1;simpa using this
  subst e;simp at o;subst o;exact s)
 simp[ReflectliteValue.flagAddr,loadVar,isAgg,underlying,underlying107,r,Result.andThen,dm6,storeVar,Value.cells,storeCells,Addr.add];rw[run_store dG W _ _ _ aP];simp[q,hf]
theorem eD5(i:Nat)(C:Int)(j:Value)(w:World)(m:w.cell? (Ad 1 0)=some (.iface 279 (.agg #[.pointer (some (Ad 5 168))])))(q:w.cell? (Ad i 0)=some j)(S:w.frozen? (Ad i 0)=false):Calls prog 125 #[.iface 107 (.agg #[.I C]),.iface 172 (Pz i)] w λev w'=>ev=.returned (.bool true)/\w'=((((w.alloc (.cells #[Pz i] 172)).alloc (.cells #[.pointer (some (Ad 5 172)),Pz w.heap.size,.U 150] 230)).alloc (.cells #[.pointer (some (Ad 5 172)),Pz w.heap.size,.U 150] 230)).alloc (.cells #[.I C] 107)).setCell (Ad i 0) (.I C):=by
 have h6:=@FR prog 183 _ (λargs=>ReflectliteValue.unpack (args.getD 0 (.tuple #[]))) func183 aU aU aU aU;have h7:=@FR prog 184 _ (ReflectliteValue.methodAny (ReflectliteValue.valueError "reflectlite.Value.Type" 0) (λt _ _ _=>ReflectliteType.toType t)) func184 aU aU aU aU;have h8:=@FR prog 185 _ (ReflectliteValue.method (ReflectliteValue.valueError "reflectlite.Value.IsNil" 0) ReflectliteValue.isNil) func185 aU aU aU aU;have E:=@FR prog 286 _ (ReflectliteType.abiMethod λt=>do pure (.int .u8 (<-Rtype.kind t))) func286 aU aU aU aU;have B:=@FR prog 325 _ (ReflectliteType.method ReflectliteType.elem) func325 aU aU aU aU;have y:=@FR prog 326 _ (ReflectliteType.relation "Implements" ReflectliteType.implements_) func326 aU aU aU aU;have EP:=@FR prog 211 _ ReflectliteType.typeOf func211 aU aU aU aU;have D:=@FR prog 323 _ (ReflectliteType.relation "AssignableTo" ReflectliteType.assignableTo) func323 aU aU aU aU;have Lj:=@FR prog 212 _ (ReflectliteValue.method (ReflectliteValue.valueError "reflectlite.Value.Elem" 0) ReflectliteValue.elem) func212 aU aU aU aU;have Rg:=@FR prog 213 _ ReflectliteValue.set func213 aU aU aU aU;have V:=dk9;have mA:=dl8;have R:=dm7;have r:=dk7;have f6:=dk6;have f7:=dk8;have X:=dl5;have mE:=dl7;have Z:=dl6;have s:=dm0;have u:=dl9;have M:=dm5;have x:=dm1;have W:=dl3 (Aw w 0) (Ad i 0) ((w.alloc (.cells #[Pz i] 172)).alloc (.cells #[.pointer (some (Ad 5 172)),Pz w.heap.size,.U 150] 230)) ai;have N:1<w.heap.size:=nI w _ m;have dz:((w.alloc (.cells #[Pz i] 172)).alloc (.cells #[.pointer (some (Ad 5 172)),Pz w.heap.size,.U 150] 230)).cell? (Ad 1 0)=some (.iface 279 (.agg #[.pointer (some (Ad 5 168))])):=by rw[Pw _ _ (Ad 1 0) cg,Pw _ _ (Ad 1 0) N];exact m
 have o:i<w.heap.size:=nI w _ q;have el:=dm3 (Aw w 0) (Ad i 0) (((w.alloc (.cells #[Pz i] 172)).alloc (.cells #[.pointer (some (Ad 5 172)),Pz w.heap.size,.U 150] 230)).alloc (.cells #[.pointer (some (Ad 5 172)),Pz w.heap.size,.U 150] 230)) (by rw[Pw _ _ (Aw w 0) cg];simp);have st:=dl0 i (w.heap.size+1+1+1) C j ((((w.alloc (.cells #[Pz i] 172)).alloc (.cells #[.pointer (some (Ad 5 172)),Pz w.heap.size,.U 150] 230)).alloc (.cells #[.pointer (some (Ad 5 172)),Pz w.heap.size,.U 150] 230)).alloc (.cells #[.I C] 107))
  (by rw[World.cell?_alloc_at _ _ _ _ ai];rfl)
  (by rw[Pw _ _ (Ad i 0) cg,Pw _ _ (Ad i 0) cg,Pw _ _ (Ad i 0) cg,Pw _ _ (Ad i 0) o];exact q)
  (by rw[am1 _ _ (Ad i 0) cg,am1 _ _ (Ad i 0) cg,am1 _ _ (Ad i 0) cg,am1 _ _ (Ad i 0) (Nat.ne_of_lt o)];exact S)
 go_in;go_wp2;refine wp_loop_rounds 1 ?_;rw[rounds_succ];go_wp2;go_ret;exact⟨rfl,rfl⟩
theorem ai6(v1 v2:dV)(l1 l2:LI)(w:G)(x:Rd w v1 l1)(u:Rd w v2 l2)(yM:J l1<=2^21)(rM:J l2<=2^21):dQ dG 10 #[v1,v2] w (Rb (jO (dD (l1=l2))) w):=by
 obtain⟨p1,X,rfl,x⟩:=x;obtain⟨p2,Z,rfl,u⟩:=u;by_cases j:J l1=J l2;{
 have aN:((J l1:Int) != (J l2:Int))=dF:=by simp;omega
 go_in;go_wp2
 go_loopw[5](λi wr=>∃k:Nat,k<=J l1/\i=.I k/\jT k l1=jT k l2/\Bw w wr) (λi _=>J l1-(jN (intOf i)))
 exact⟨0,cT _,rfl,rfl,aR _ _⟩;{
 obtain⟨k,hk,rfl,M,q⟩:=hrel;have HT:O (jT k l1=jT k l2):=M;clear M;by_cases o:k<J l1;{
 obtain rfl|⟨S,E,rfl,y⟩:=x;{simp at o};{
 obtain rfl|⟨R,D,rfl,s⟩:=u;{simp at j;subst j;simp at o};{
 have r:k<J l2:=ae;have g1:I wr (Ad S (E+k))=Y (jK .u8 (jE l1 k 0)):=(q.cell (p:=(Ad S (E+k))) (nI w _ (y k o))).Z (y k o);have g2:I wr (Ad R (D+k))=Y (jK .u8 (jE l2 k 0)):=(q.cell (p:=(Ad R (D+k))) (nI w _ (s k r))).Z (s k r);have i1:(k:Int)<(J l1:Int):=ae;have i2:(k:Int)<(J l2:Int):=ae;have HL:O (J l1=J l2):=j;clear y s j;by_cases m:l1[k]=l2[k];{
 have W:(l1[k] != l2[k])=dF:=by simp only[bne_eq_false_iff_eq];exact m
 have HX:O (l1[k]?.getD 0=l2[k]?.getD 0):=by show _=_;simpa[o,r]using m
 clear m;go_wp2
 go_quiet (fail)
 go_wp2;go_roundw;exact⟨k+1,ae,by go_num,da2 o r HT.out HX.out,below_drewN q⟩;exact dh};{
 have W:(l1[k] != l2[k]):=by simp only[bne_iff_ne];exact m
 have B:O (dD (l1=l2)=dF):=by show _=_;simp only[Iw];intro e;apply m;simp[e]
 clear m;go_wp2
 go_quiet (fail)
 go_wp2;go_ret;exact⟨by rw[B.out];rfl,below_drewN q⟩}}}};{
 have N:k=J l1:=ae;have B:O (dD (l1=l2)):=by have:=HT.out;rw[N,Kg,j,Kg]at this;show _=_;simp[this]
 subst N;clear HT j;go_wp2;go_ret;exact⟨by rw[B.out];rfl,q⟩}}};{
 have aN:((J l1:Int) != (J l2:Int)):=by simp;omega
 have V:dD (l1=l2)=dF:=by simp only[Iw];intro e;apply j;rw[e]
 rw[V];go_in;go_wp2;go_ret;exact⟨rfl,aR _ _⟩}
theorem di4(p q:OA)(c d:Nat)(l:LI)(w:G)(m:Rd w (.S p (J l) c) l)(j:Rd w (.S q (J l) d) l)(hl:J l<=2^21):Cp 10 #[.S p (J l) c,.S q (J l) d] w (Rb (jO dY) w):=by
 refine cK (ai6 _ _ l l w m j hl hl) λo i=>?_;exact⟨ai,i⟩
theorem own:ownKnob Tryz.prog.godebug=dN:=by kernel_rfl
theorem laidOut:laidOutB dG:=by kernel_rfl
variable {a:Assume}{s:ChangeSpec}{f:FuncId}
theorem dW4{H:Type}{enc:TypeId×dV->H}{m x q y:Bool} (hX:∀(w w':G)(args:iA),Q w=Q w'->X w args->X w' args)(own:ownKnob C.prog.godebug=dN)(u:os.Started)(N:C.prog.inits.idxOf? f=dN)(B:C.prog.funcs[f]?=fn)(r:∃(w:G)(tape:Tape)(i:Input),w.os=os/\(w.forCall tape i).Shaped C.prog/\i.vars=[]/\Input.okWide C.prog (w.forCall tape i) .any (U (Q w)) f i∧
   ((s.pre enc C.prog fn conds m (w.forCall tape i).memory i.args/\X (w.forCall tape i).memory i.args)/\sizedMet enc C.prog fn (OpenSpec.ofChange s) m (w.forCall tape i).memory i.args)/\a.holds C.prog (lone (Frame.enter C.prog f i.args .normal) [] (w.forCall tape i)))(M:∀(W:G)(base:Nat)(args:iA)(R D:List (DataW H))(o:List MemPlace),
   (∀(j:Nat)t v,fn.params[j]?=Y t->args[j]?=Y v->Value.okWide C.prog W .any base t v)→
   DataW.Whole enc C.prog fn.params.toList s.vars m W args.toList R D o→
   X W args->W.ShapedOpen C.prog→
   dQ C.prog f args W λe Z=>∃v,e=dR v/\s.post enc C.prog fn m x q y W args v Z):ReturnsInHanded a C os f .any (λw args=>(s.pre enc C.prog fn conds m w args/\X w args)/\sizedMet enc C.prog fn (OpenSpec.ofChange s) m w args) (s.post enc C.prog fn m x q y):=by
 refine returnsInHanded_of_calls own u N r ?_;intro w tape i _ UJ _ fk V fk2;obtain⟨_,_,_,E,S,_,_,_,_,Er⟩:=fk;obtain rfl:E=fn:=BN (S.C.Z B);obtain⟨⟨⟨R,D,o,hw,hc⟩,hx⟩,hz⟩:=V;refine(M (w.forCall tape i) (U (Q w)) i.args R D o Er (DataW.Whole.of_heap (w':=w.forCall tape i) aP hw) (hX _ _ _ aP hx) UJ).h λe Z⟨v,he,hp⟩=>?_;subst he;exact ChangeSpec.post_blind hp
theorem dy8(h:w.ShapedOpen dG):∃m,I w (Ad 2 0)=dI m:=
 cell_of_shapedOpen_int (t:=3) (zero:=#[.I 0]) h (XC aU) aU rfl aU aU Tryz.underlying3
theorem cE7:Tryz.prog.cellsOf 110=7:=by kernel_rfl
theorem ex4:Tryz.prog.cellsOf 3=1:=by kernel_rfl
theorem ex5:Tryz.prog.cellsOf 4=1:=by kernel_rfl
theorem cZ9{H:Type}{enc:TypeId×dV->H}{u s r q o m j:Field}{x:DataW H×List MemPlace}(V:P.underlying t=Y (.struct #[u,s,r,q,o,m,j]))(h:DataW.trod enc P w base spare held fuel t cs=x):∃R N M E D B y n,x.1=.agg [R.1,N.1,M.1,E.1,D.1,B.1,y.1]/\J cs=P.cellsOf t∧
   DataW.trod enc P w base spare held n u.type (jT (P.cellsOf u.type) (jD u.offset cs))=Y R/\DataW.trod enc P w base spare held n s.type (jT (P.cellsOf s.type) (jD s.offset cs))=Y N∧
   DataW.trod enc P w base spare held n r.type (jT (P.cellsOf r.type) (jD r.offset cs))=Y M/\DataW.trod enc P w base spare held n q.type (jT (P.cellsOf q.type) (jD q.offset cs))=Y E∧
   DataW.trod enc P w base spare held n o.type (jT (P.cellsOf o.type) (jD o.offset cs))=Y D/\DataW.trod enc P w base spare held n m.type (jT (P.cellsOf m.type) (jD m.offset cs))=Y B∧
   DataW.trod enc P w base spare held n j.type (jT (P.cellsOf j.type) (jD j.offset cs))=Y y:=by
 obtain⟨S,n,_,rfl,W,i,hf⟩:=DataW.trod_struct V h
 match S,i with
 |[R,N,M,E,D,B,y],_=>exact⟨R,N,M,E,D,B,y,n,rfl,W,by simpa using hf 0 u rfl,by simpa using hf 1 s rfl,by simpa using hf 2 r rfl,by simpa using hf 3 q rfl,by simpa using hf 4 o rfl,by simpa using hf 5 m rfl,by simpa using hf 6 j rfl⟩
theorem ed9{n:Nat}{x:DataW Unit×List MemPlace}{D E B N:Bool}{M S vs:Int}(h:DataW.trod (λ_=>()) dG w 0 (λ_=>dY) dF n 110 cs=x)(i:x.1=.agg [.lit (.bool D),.lit (.bool E),.lit (.I M),.lit (.I S),.lit (.I vs),.lit (.bool B),.lit (.bool N)]):cs=[.bool D,.bool E,.I M,.I S,.I vs,.bool B,.bool N]:=by
 let⟨y0,y1,y2,y3,y4,y5,y6,m,e,R,h0,h1,h2,Z,X,W,V⟩:=cZ9 Tryz.underlying110 h;rw[cE7]at R;obtain⟨y,u,s,r,q,o,j,rfl⟩:∃y u s r q o j,cs=[y,u,s,r,q,o,j]:=by
  match cs,R with
  |[a,b,c,d,e,f,g],_=>exact⟨a,b,c,d,e,f,g,rfl⟩
 simp[ex5,ex4]at h0 h1 h2 Z X W V;let⟨b0,e0,f0⟩:=am8 Tryz.underlying4 h0;let⟨b1,e1,f1⟩:=am8 Tryz.underlying4 h1;let⟨b2,e2,f2,_⟩:=aS9 Tryz.underlying3 h2;let⟨b3,e3,f3,_⟩:=aS9 Tryz.underlying3 Z;let⟨b4,e4,f4,_⟩:=aS9 Tryz.underlying3 X;let⟨b5,e5,f5⟩:=am8 Tryz.underlying4 W;let⟨b6,e6,f6⟩:=am8 Tryz.underlying4 V;rw[e,f0,f1,f2,f3,f4,f5,f6]at i;simp at i e0 e1 e2 e3 e4 e5 e6;obtain⟨rfl,rfl,rfl,rfl,rfl,rfl,rfl⟩:=i;subst e0 e1 e2 e3 e4 e5 e6;rfl
end Go.Proofs.YtpkakgkipopiaaaGreatDoor
