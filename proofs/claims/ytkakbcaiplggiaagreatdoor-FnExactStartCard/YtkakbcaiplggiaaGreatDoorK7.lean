import Derived.Test.YtkakbcaiplggiaaGreatDoorK5
import Derived.Test.YtkakbcaiplggiaaGreatDoorK4
import Derived.Lib.LastIndexByte
import Derived.Laws.IdiomRangeMap
namespace Go.Proofs.YtkakbcaiplggiaaGreatDoor
set_option maxHeartbeats 12800000
set_option linter.all false
set_option maxRecDepth 100000
open Go.ChangeShapes Go.WideShapes Go.ChangeAt Go.RowKit Go.Maps Go.Proofs.Tryz
variable {B:Bool}{D:DataW Unit}{E:Prop}{K:Act->World->Prop}{P:Program}{SB:List Nat}{a:Act}{b bn bs i j m:Nat}{cs:Array Value}{e g t x:Int}{f:aP->aP}{k:TypeId}{l:LI}{left:Lit->Bool}{nd:aC}{ns:List aC}{o:Oper}{ops:Array Oper}{p:OA}{row:Option Nat}{s:ByteArray}{ss:List aP}{w0:World}
def iO:Keyed prog 31:=int_keyed underlying31
def oe:Keyed prog 9:=string_keyed underlying9
def oY{i:Int}(h:0<=i/\i<18446744073709551616):(Lit.U i).wf=true:=by
 simp only[Lit.wf,IntKind.min,IntKind.max,IntKind.signed,IntKind.bits,fx,jw];simp;omega
def aB{w w':World}(h:Bw w w')(row:Option Nat):w.grownBy w' row:=⟨h.os,h.tape,h.output,h.size,λi hi _=>h.block i hi⟩
def cO{B:Nat}{w0 w w':World}(h:Below B w0 w)(hg:w.grownBy w' row)(hB:B<=w.heap.size)(hr:∀j,row=some j->B<=j):Below B w0 w':=
 ⟨hg.os.trans h.os,hg.tape.trans h.tape,hg.output.trans h.output,dQ h.size hg.size,λk hk=>(hg.block k (gQ hk hB) (λe=>aG (hr k e.symm))).trans (h.block k hk)⟩
theorem JT{c n:Nat}{ids:LI}(en:Hid (ids.length=n)){w:World}(h:rD w (.S p n c) ids)(hn:Mg n)(hU:Hid (∀i∈ids,0<=i/\i<18446744073709551616)):Calls prog 89 #[.S p n c] w λr w'=>∃D,r=.returned (.map (some w.heap.size))/\w'.ownsMap prog 31 unitElem w.heap.size n D/\dH D ids/\Bw w w'/\w.heap.size<w'.heap.size:=by
 have HR:=af λ(w':World)(hb:Bw w w')=>h.below hb;have hmm:=@VO prog
 go_in
 go_wp2
 go_loopw[9](λiv wr=>∃(k:Nat)(D:DataW Unit),k<=n/\iv=.I k/\wr.ownsMap prog 31 unitElem w.heap.size k D/\Hid (dH D (ids.take k))/\Bw w wr) (λiv _=>n-(intOf iv).toNat)
 exact⟨0,_,fN _,rfl,World.ownsMap_made _ _ _ _,dH.nil,au.alloc ao _⟩;{
 obtain⟨k,D,hk,rfl,bO,xY,aK⟩:=hrel;by_cases aT:k<n;{
 have bu:=aS k n;have fh:k<ids.length:=aa en▸aT;obtain⟨b,o,rfl,cW⟩:∃b o,p=some (Ad b o)/\wr.cell? (Ad b (o+k))=some (.U (ids.getD k 0)):=by obtain⟨p',c',ev,hd⟩:=aa HR _ aK;obtain⟨rfl,-,-⟩:=js ev;rcases hd with h0|⟨b,o,h1,h2⟩;{rw[h0]at fh;simp at fh};{exact⟨b,o,h1,h2 k fh⟩}
 have e1:ids.take (k+1)=ids.take k++[ids.getD k 0]:=by rw[ni,gK,bD fh];rfl
 have hy:=aa hU (ids.getD k 0) (by rw[gK,bD fh];exact Ac fh);have Wq:=xY.put bO.isMap (ids.getD k 0) (.agg []);rw[<-e1]at Wq;have tF:=af Wq;obtain⟨y,ey⟩:=aI (ids.getD k 0);rw[ey]at cW hy tF;have cQ:keyOf prog 31 (.U y)=some (.U y):=keyOf_int_mk underlying31 (oY hy);go_wp2_with(first
  |(at_mapUpdate;refine wpList_mapUpdate_own _ rfl _ _ _ 139 rfl 31 _ iO underlying139 unitElem w.heap.size k _ rfl bO iF _ _ _ rfl rfl cQ (.agg []) [] unitElem_mk ?_;intro w1 tK bc2)
  |go_in)
 go_roundw;exact⟨k+1,_,ae,by go_num,tK,tF,cO aK bc2 (V8 (Nat.lt_of_le_of_lt ao bO.lt)) (λj hj=>by cases hj;exact iP _)⟩;exact bM};{
 have bu:=dm k n;have:k=n:=by omega
 subst this;have HS:=aa xY;rw[ke (aa en▸iP _)]at HS;go_wp2;go_ret;exact⟨rfl,D,bO,HS,aK,bO.lt⟩}}
theorem vT{bd nd ns:Nat}{Dd Ds:DataW Unit}{sd ss:LI}{w:World}(hd:w.ownsMap prog 31 unitElem bd nd Dd)(hs:w.ownsMap prog 31 unitElem bs ns Ds)(hsd:Hid (dH Dd sd))(hss:Hid (dH Ds ss))(cg:bd≠bs)(hn:nd<=4611686018427387904)(hm:ns<=1048576):Calls prog 162 #[.map (some bd),.map (some bs)] w λr w'=>∃D s,r=.returned (.tuple #[])/\w'.ownsMap prog 31 unitElem bd (nd+ns) D/\dH D s/\(∀i,i∈s↔i∈sd\/i∈ss)/\w.grownBy w' (some bd):=by
 have HS:=hs
 go_in
 go_wp2_with(first
  |(at_range;refine wpList_range_own _ rfl _ 139 rfl 31 _ iO underlying139 _ bs ns _ rfl hs ?_;intro w0 mP Ed Kz)
  |go_in)
 go_frame
 go_loopw[4](λ_ wr=>∃(left:Lit->Bool)(jD k:Nat)(D:DataW Unit)(s:LI),wr.ranges prog 31 unitElem bs w.heap.size ns Ds left jD/\k+jD<=nd+ns/\wr.ownsMap prog 31 unitElem bd k D/\Hid (dH D s)/\Hid (∀i,i∈s↔i∈sd\/(i∈ss/\left (.U i)=false))/\w.grownBy wr (some bd)) (λ_ wr=>wr.rangeLeft bs w.heap.size)
 case atStart=>(
 refine⟨_,_,nd,Dd,sd,mP,?_,hd.kept Ed ai,hsd,?_,Ed.but _⟩;{have:=hs.size_le;omega};{intro i;constructor;{exactλh=>.inl h};{rintro(h|⟨h1,h2⟩);{exact h};{rw[(aa hss (.U i)).2 ⟨i,h1,rfl⟩]at h2;cases h2}}})
 case round=>(
 obtain⟨left,jD,k,D,s,jN,hkc,bO,xY,jl,hgw⟩:=hrel;go_wp2_with(first
  |(at_next;refine DR _ rfl _ rfl 31 iO underlying31 bs w.heap.size ns _ ss hss _ _ rfl jN ?_ ?_)
  |go_in)
 {
 intro _ yb;go_wp2
 go_end0
 refine⟨D,s,rfl,bO.mono ae,xY,λi=>?_,hgw⟩;rw[aa jl i,yb];simp};{
 intro x w1 ud hwx hx hlx tf aT gx ij Ef;have cr1:=hgw.andThen gx (λj hj=>by cases hj;exact Or.inl ao);have hr:=jN.lt;have tK:=bO.kept gx (λe=>by cases e;exact absurd hd.lt ae);have cQ:keyOf prog 31 (.U x)=some (.U x):=keyOf_int_mk underlying31 hwx;have Wq:=af (xY.put bO.isMap x (.agg []));have bz8:Hid (∀i,i∈s++[x]↔i∈sd\/(i∈ss/\(λz=>left z&&!z.sameKey (.U x)) (.U i)=false)):=by
  intro i;rw[gM,aa jl i];simp only[nW];have hk:((Lit.U i).sameKey (.U x)=true)↔i=x:=by rw[VN (by trivial)];simp
  by_cases e:i=x;{subst e;rw[hk.2 rfl];simp[hx]};{rw[show(Lit.U i).sameKey (.U x)=false by(rw[DY];exactλh=>e (hk.1 h))];simp[e]}
 go_wp2_with(first
  |(at_mapUpdate;refine wpList_mapUpdate_own _ rfl _ _ _ 139 rfl 31 _ iO underlying139 unitElem bd k _ rfl (tK.alloc _) iF _ _ _ rfl rfl cQ (.agg []) [] unitElem_mk ?_;intro w2 Hk al5)
  |go_in)
 have Hh:=(tf.alloc _).kept al5 (by simp;exactλe=>cg e.symm) (by simp;intro e;exact absurd hd.lt ae);go_roundw;exact⟨_,ud,Hh,k+1,ae,_,Hk,_,Wq,bz8,(cr1.andThen (Qb _ _ none) (λj hj=>by cases hj)).andThen al5 (λj hj=>by cases hj;exact Or.inr rfl)⟩
 case measure=>rw[Hh.left_eq,jN.left_eq];omega})
def kh:(aO l).data.toList=l.map (λn=>UInt8.ofNat n.toNat):=by rw[aO,KU];rfl
def ik:(aO l).size=l.length:=by
 show(aO l).data.size=_;rw[<-Array.length_toList,kh,dZ]
def Ry(hB:aN l)(hj:j<(aO l).size):(((aO l)[j]'hj).toNat:Int)=l.getD j 0:=by
 have hl:j<l.length:=by rw[<-ik];exact hj
 have e1:(aO l)[j]'hj=(aO l).data.toList[j]'(by rw[kh,dZ];exact hl):=by rw[Array.getElem_toList];rfl
 rw[e1];simp only[kh,ae7];rw[gK,bD hl,si];have:=hB l[j] (Ac hl);rw[UInt8.toNat_ofNat'];omega
def Mv{n:Nat}(es:Hid (s=aO l))(en:s.size=n)(hB:Hid (aN l))(hn:n<=2097152){w:World}:Calls prog 234 #[.string s,.int .u8 47] w λe w'=>((∃k:Nat,e=.returned (.I k)/\k<n/\Ob l n=k)\/(e=.returned (.I (-1))/\Ob l n=0/\∀j,j<n->l.getD j 0≠47))/\w'=w:=by
 have bc3:Hid (∀(j:Nat)(hj:j<s.size),((s[j]'hj).toNat:Int)=l.getD j 0):=by have e:=aa es;subst e;exactλj hj=>Ry hB hj
 subst en
 go_in
 go_wp2
 go_loop [5](λvi=>∃k:Nat,k<=s.size/\vi=.I ((k:Int)-1)/\Hid (Ob l s.size=Ob l k)/\Hid (∀j,k<=j->j<s.size->l.getD j 0≠47)) (λvi=>((RowKit.intOf vi)+1).toNat)
 case atStart=>exact⟨s.size,iP _,by first|rfl|go_num|(congr 1;omega),bq,λj h1 h2=>ae⟩
 case round=>(
 obtain⟨k,hk,rfl,hh,hq⟩:=hrel;go_wp2;{
 have hc:(((s[k-1]).toNat:Int)==47)=true:=by assumption
 have k1:1<=k:=ae;have e1:Ob l k=k-1:=by have:=uQ l (k-1);rw[show k-1+1=k by omega]at this;rw[this,bN];rw[<-aa bc3 (k-1) ae];simpa using hc
 have e2:((k-1:Nat):Int)=(k:Int)-1:=ae;go_ret;refine⟨.inl ⟨k-1,by rw[e2];rfl,ae,by rw[aa hh,e1]⟩,rfl⟩};{
 have hc:(((s[k-1]).toNat:Int)==47)=false:=by assumption
 have k1:1<=k:=ae;have e1:Ob l k=Ob l (k-1):=by have:=uQ l (k-1);rw[show k-1+1=k by omega]at this;rw[this,bG];rw[<-aa bc3 (k-1) ae];simpa using hc
 have e3:l.getD (k-1) 0≠47:=by rw[<-aa bc3 (k-1) ae];simpa using hc
 refine⟨⟨k-1,ae,by congr 1;omega,hh.trans e1,λj h1 h2=>?_⟩,?_⟩;{by_cases ej:j=k-1;{rw[ej];exact e3};{exact hq j ae h2}};simp[RowKit.intOf];omega};{have k0:k=0:=ae;subst k0;go_ret;exact⟨.inr ⟨rfl,hh,λj hj=>aa hq j (fN _) hj⟩,rfl⟩})
def QF{n:Nat}(es:Hid (s=aO l))(en:s.size=n)(hB:Hid (aN l))(hn:n<=2097152){w:World}:Calls prog 216 #[.string s,.int .u8 47] w λe w'=>((∃k:Nat,e=.returned (.I k)/\k<n/\Ob l n=k)\/(e=.returned (.I (-1))/\Ob l n=0/\∀j,j<n->l.getD j 0≠47))/\w'=w:=by
 go_in
 go_wp2_with fail;refine(Mv es en hB hn).mono ?_;rintro e w'⟨hr,rfl⟩;rcases hr with⟨k,rfl,hk,hl⟩|⟨rfl,hl⟩;{have HL:=af hl;go_wp2;go_ret;exact⟨.inl ⟨k,rfl,hk,HL⟩,rfl⟩};{have HL:=af hl;go_wp2;go_ret;exact⟨.inr ⟨rfl,HL⟩,rfl⟩}
def sQ{n:Nat}(en:Hid (l.length=n))(hB:Hid (aN l))(hn:Mg n){w:World}:Calls prog 161 #[.string (aO l)] w λe w'=>e=.returned (.string (aO (fg l)))/\w'=w:=by
 obtain⟨s,es⟩:=az (aO l);have hs:s.size=n:=by rw[es,ik];exact aa en
 rw[<-es];have ES:=af es;clear es
 go_in
 go_wp2_with fail;refine(QF ES hs hB ae).mono ?_;rintro e w'⟨hr,rfl⟩;rcases hr with⟨k,rfl,hk,hl⟩|⟨rfl,hl,-⟩;{
 by_cases k0:k=0;{
 subst k0;have e1:fg l=[47]:=by rw[fg,aa en,hl,bN rfl]
 have E1:=af e1;clear hl e1;go_wp2;go_ret;exact⟨by rw[aa E1];rfl,rfl⟩};{
 have e1:fg l=l.take k:=by rw[fg,aa en,hl,bG k0]
 have E1:=af e1;clear e1;have g1:¬(k:Int)<1:=ae;have g2:=iH k n;have g3:k<=s.size:=ae;have ex:Hid (s.extract 0 k=aO (l.take k)):=by show _=_;rw[aa ES];apply aN4;apply Wc.1;rw[kh,List.map_take,<-kh];simp[bu9]
 clear hl;go_wp2;go_ret;exact⟨by rw[aa E1,<-aa ex];rfl,rfl⟩}};{
 have e1:fg l=[47]:=by rw[fg,aa en,hl,bN rfl]
 have E1:=af e1;clear hl e1;go_wp2;go_ret;exact⟨by rw[aa E1];rfl,rfl⟩}
structure wG(w0 w:World)(bs:Nat)(ss:List aP)(SB:List Nat):Prop where
 len:SB.length=ss.length
 own:∃D,w.ownsMap prog 31 aV bs ss.length D/\gP D (List.zipWith (λ(s:aP)g=>(Lit.U s.1,g)) ss SB)
 blk:∀(i:Nat)(s:aP)(g:Nat),ss[i]?=some s->SB[i]?=some g->w0.heap.size<=g/\∃u,w.heap[g]?=some (.cells #[.U s.1,.I s.2.1,u] 84)/\rE w0 u s.2.2
 qj:SB.Nodup
structure uh(w0 w:World)(bn:Nat)(ns:List aC)(NB HB UB:List Nat):Prop where
 len:NB.length=ns.length
 QE:HB.length=ns.length
 QD:UB.length=ns.length
 own:∃D,w.ownsMap prog 9 aV bn ns.length D/\gP D (List.zipWith (λ(nd:aC)g=>(cL nd.path,g)) ns NB)
 blk:∀(i:Nat)(nd:aC)(g h u:Nat),ns[i]?=some nd->NB[i]?=some g->HB[i]?=some h->UB[i]?=some u->w0.heap.size<=g/\w0.heap.size<=h/\w0.heap.size<=u∧
  (∃V,w.heap[g]?=some (.cells #[V,.U nd.owner,.I nd.mode,.map (some h),.U nd.aJ,.U nd.gen,.map (some u)] 142)/\Rd w0 V nd.value)∧
  (∃D,w.ownsMap prog 31 unitElem h nd.holders.length D/\dH D nd.holders)/\(∃D,w.ownsMap prog 31 unitElem u nd.watchers.length D/\dH D nd.watchers)
 qj:NB.Nodup
 Np:(bn::(HB++UB)).Nodup
def mi{R:Value->Option (DataW Unit×List MemPlace)}{w:World}{b n g:Nat}{t:TypeId}(h:w.ownsMap P k R b n D)(hg:w.heap[g]?=some (.cells cs t)):g≠b:=by
 rintro rfl;obtain⟨es,cl,hb,_⟩:=h;rw[hb]at hg;cases hg
def aQ{w:World}{g:Nat}{o:Obj}(h:w.heap[g]?=some o):g<w.heap.size:=(Gq.1 h).1
def wG.kept{w0 w w':World}(h:wG w0 w bs ss SB)(hg:w.grownBy w' row)(h1:some bs≠row)(h2:∀g∈SB,some g≠row):wG w0 w' bs ss SB:=by
 refine⟨h.len,?_,λi s g hi Jr=>?_,h.qj⟩;{obtain⟨D,hD,hM⟩:=h.own;exact⟨D,hD.kept hg h1,hM⟩};{obtain⟨a1,u,a2,a3⟩:=h.blk i s g hi Jr;exact⟨a1,u,(hg.block g (aQ a2) (h2 g (aY Jr))).trans a2,a3⟩}
def uh.kept{w0 w w':World}{NB HB UB:List Nat}(h:uh w0 w bn ns NB HB UB)(hg:w.grownBy w' row)(h1:some bn≠row)(h2:∀g∈NB,some g≠row)(h3:∀g∈HB++UB,some g≠row):uh w0 w' bn ns NB HB UB:=by
 refine⟨h.len,h.QE,h.QD,?_,λi nd g hh u hi Jr hhi hui=>?_,h.qj,h.Np⟩;{obtain⟨D,hD,hM⟩:=h.own;exact⟨D,hD.kept hg h1,hM⟩};{obtain⟨a1,a2,a3,⟨V,a4,a5⟩,⟨D1,a6,a7⟩,⟨D2,a8,a9⟩⟩:=h.blk i nd g hh u hi Jr hhi hui;exact⟨a1,a2,a3,⟨V,(hg.block g (aQ a4) (h2 g (aY Jr))).trans a4,a5⟩,⟨D1,a6.kept hg (h3 _ (gM.2 (.inl (aY hhi)))),a7⟩,⟨D2,a8.kept hg (h3 _ (gM.2 (.inr (aY hui)))),a9⟩⟩}
def xu{α:Type}{l:List α}{x y:α}(h:(l++[x])[i]?=some y):l[i]?=some y\/(i=l.length/\x=y):=by
 by_cases hi:i<l.length;{rw[lE hi]at h;exact .inl h};{
 rw[nZ ae]at h
 right
 obtain⟨aT,e⟩:=bf.1 h;simp at aT;refine⟨ae,?_⟩;simpa[show i-l.length=0 by omega]using h}
def Ot{α β γ:Type}(f:α->β->γ){l:List α}{m:List β}(h:m.length=l.length)(x:α)(y:β):List.zipWith f (l++[x]) (m++[y])=List.zipWith f l m++[f x y]:=by
 rw[ae6 ae]
 rfl
def gR{α β γ:Type}{f:α->β->γ}{l:List α}{m:List β}{z:γ}(h:z∈List.zipWith f l m):∃(i:Nat)(x:α)(y:β),l[i]?=some x/\m[i]?=some y/\z=f x y:=by
 obtain⟨i,hi,rfl⟩:=Df h;rw[List.length_zipWith]at hi;refine⟨i,l[i]'(by omega),m[i]'(by omega),bD _,bD _,?_⟩;simp
def wG.empty{w0 w:World}(h:w.ownsMap prog 31 aV bs 0 (.map [])):wG w0 w bs [] []:=
 ⟨rfl,⟨_,h,gP.nil⟩,λi s g hi=>by simp at hi,VY⟩
def uh.empty{w0 w:World}(h:w.ownsMap prog 9 aV bn 0 (.map [])):uh w0 w bn [] [] [] []:=
 ⟨rfl,rfl,rfl,⟨_,h,gP.nil⟩,λi s g _ _ hi=>by simp at hi,VY,ai⟩
def wG.lt{w0 w:World}(h:wG w0 w bs ss SB):∀g∈SB,g<w.heap.size:=by
 intro g hg;obtain⟨i,hi⟩:=Cc hg;have hl:=(bf.1 hi).1;obtain⟨s,hs⟩:∃s,ss[i]?=some s:=⟨_,bD (h.len▸hl)⟩;obtain⟨_,u,a2,_⟩:=h.blk i s g hs hi;exact aQ a2
def uh.at{w0 w:World}{NB HB UB:List Nat}(h:uh w0 w bn ns NB HB UB)(hi:ns[i]?=some nd):∃g hh u,NB[i]?=some g/\HB[i]?=some hh/\UB[i]?=some u:=by
 have hl:=(bf.1 hi).1;exact⟨_,_,_,bD (h.len▸hl),bD (h.QE▸hl),bD (h.QD▸hl)⟩
def uh.lt{w0 w:World}{NB HB UB:List Nat}(h:uh w0 w bn ns NB HB UB):(∀g∈NB,g<w.heap.size)/\∀g∈HB++UB,g<w.heap.size:=by
 have key:∀i,i<ns.length->∃g hh u,NB[i]?=some g/\HB[i]?=some hh/\UB[i]?=some u/\g<w.heap.size/\hh<w.heap.size/\u<w.heap.size:=λi hi=>by obtain⟨nd,bj⟩:=mR hi;obtain⟨g,hh,u,e1,e2,e3⟩:=h.at bj;obtain⟨_,_,_,⟨V,a4,_⟩,⟨D1,a6,_⟩,⟨D2,a8,_⟩⟩:=h.blk i nd g hh u bj e1 e2 e3;exact⟨g,hh,u,e1,e2,e3,aQ a4,a6.lt,a8.lt⟩
 refine⟨λg hg=>?_,λg hg=>?_⟩;{obtain⟨i,hi⟩:=Cc hg;have hl:=(bf.1 hi).1;obtain⟨g',_,_,e1,_,_,a,_,_⟩:=key i (h.len▸hl);rw[hi]at e1;cases e1;exact a};{rcases gM.1 hg with hg|hg;{obtain⟨i,hi⟩:=Cc hg;have hl:=(bf.1 hi).1;obtain⟨_,g',_,_,e1,_,_,a,_⟩:=key i (h.QE▸hl);rw[hi]at e1;cases e1;exact a};{obtain⟨i,hi⟩:=Cc hg;have hl:=(bf.1 hi).1;obtain⟨_,_,g',_,_,e1,_,_,a⟩:=key i (h.QD▸hl);rw[hi]at e1;cases e1;exact a}}
def Gj{l:List Nat}{x:Nat}(h:l.Nodup)(hx:∀y∈l,y≠x):(l++[x]).Nodup:=by
 rw[BS];exact⟨h,ai,λa ha b hb=>by simp at hb;subst hb;exact hx a ha⟩
def wG.step{w0 w w1 w2:World}(h:wG w0 w bs ss SB)(s:aP)(g:Nat)(hg:w.grownBy w1 none)(Y4:w.heap.size<=g)(hw:w0.heap.size<=w.heap.size)(u:Value)(hu:rE w0 u s.2.2)(hb:w1.heap[g]?=some (.cells #[.U s.1,.I s.2.1,u] 84))(hid:∀z∈ss,z.1≠s.1)(hM:gP D (List.zipWith (λ(s:aP)g=>(Lit.U s.1,g)) ss SB))(hD:IsMap D)(bO:w2.ownsMap prog 31 aV bs (ss.length+1) (D.put (.U s.1) (.lit (.I g))))(gi:w1.grownBy w2 (some bs)):wG w0 w2 bs (ss++[s]) (SB++[g]):=by
 have mj:bs<w.heap.size:=by obtain⟨D,hD,_⟩:=h.own;exact hD.lt
 refine⟨by simp[h.len],⟨_,by rw[ir];exact bO,?_⟩,λi z g' hi Jr=>?_,Gj h.qj (λy hy=>aG (h.lt y hy))⟩;{rw[Ot _ h.len];refine hM.put hD (by trivial) (λp hp=>?_) g;obtain⟨i,x,y,hx,hy,rfl⟩:=gR hp;intro e;simp only[CN,Mm]at e;exact hid x (aY hx) e};{rcases xu hi with hi'|⟨e1,rfl⟩;{have hl:=(bf.1 hi').1;rw[lE (h.len▸hl)]at Jr;obtain⟨a1,v,a2,a3⟩:=h.blk i z g' hi' Jr;refine⟨a1,v,?_,a3⟩;have b1:=(hg.block g' (aQ a2) ai).trans a2;refine(gi.block g' (aQ b1) ?_).trans b1;obtain⟨D',hD',_⟩:=h.own;have:=mi hD' a2;simpa using this};{rw[e1,<-h.len,nZ ao]at Jr;simp at Jr;subst Jr;refine⟨ae,u,?_,hu⟩;exact(gi.block _ (aQ hb) aU).trans hb}}
structure mw(w0 w:World)(b bs bn:Nat)(e g x t:Int)(ss:List aP)(ns:List aC)(SB NB HB UB:List Nat):Prop where
 hd:w.heap[b]?=some (.cells #[.U e,.U g,.U x,.I t,.map (some bs),.map (some bn)] 135)
 Tv:wG w0 w bs ss SB
 qj:uh w0 w bn ns NB HB UB
 lo:w0.heap.size<=b/\w0.heap.size<=bs/\w0.heap.size<=bn
 Np:(bs::bn::(HB++UB)).Nodup
def mw.below{w0 w w':World}{SB NB HB UB:List Nat}(h:mw w0 w b bs bn e g x t ss ns SB NB HB UB)(hb:Bw w w'):mw w0 w' b bs bn e g x t ss ns SB NB HB UB:=
 ⟨(hb.block b (aQ h.hd)).trans h.hd,h.Tv.kept (aB hb none) ai ai,h.qj.kept (aB hb none) ai ai ai,h.lo,h.Np⟩
def aq{w:World}{g:Nat}{t:TypeId}(h:w.heap[g]?=some (.cells cs t))(i:Nat):w.cell? (Ad g i)=cs[i]?:=by
 unfold World.cell?;rw[h]
 rfl
def uh.step{w0 w w1 w2:World}{NB HB UB:List Nat}(h:uh w0 w bn ns NB HB UB)(nd:aC)(g hb ub:Nat)(hg:w.grownBy w1 none)(Y4:w.heap.size<=g)(YX:w.heap.size<=hb)(YQ:w.heap.size<=ub)(cg:hb≠ub)(hw:w0.heap.size<=w.heap.size)(V:Value)(hV:Rd w0 V nd.value)(hbk:w1.heap[g]?=some (.cells #[V,.U nd.owner,.I nd.mode,.map (some hb),.U nd.aJ,.U nd.gen,.map (some ub)] 142)){D1 D2:DataW Unit}(hH:w1.ownsMap prog 31 unitElem hb nd.holders.length D1)(hHs:dH D1 nd.holders)(hU:w1.ownsMap prog 31 unitElem ub nd.watchers.length D2)(hUs:dH D2 nd.watchers)(hid:∀z∈ns,cL z.path≠cL nd.path)(hM:gP D (List.zipWith (λ(nd:aC)g=>(cL nd.path,g)) ns NB))(hD:IsMap D)(bO:w2.ownsMap prog 9 aV bn (ns.length+1) (D.put (cL nd.path) (.lit (.I g))))(gi:w1.grownBy w2 (some bn)):uh w0 w2 bn (ns++[nd]) (NB++[g]) (HB++[hb]) (UB++[ub]):=by
 have xr:bn<w.heap.size:=by obtain⟨D,hD,_⟩:=h.own;exact hD.lt
 have aT:=h.lt;refine⟨by simp[h.len],by simp[h.QE],by simp[h.QD],⟨_,by rw[ir];exact bO,?_⟩,λi z g' h' u' hi Jr hhi hui=>?_,Gj h.qj (λy hy=>aG (aT.1 y hy)),?_⟩;{rw[Ot _ h.len];refine hM.put hD (by trivial) (λp hp=>?_) g;obtain⟨i,x,y,hx,hy,rfl⟩:=gR hp;exactλe=>hid x (aY hx) e};{
 rcases xu hi with hi'|⟨e1,rfl⟩;{
 have hl:=(bf.1 hi').1;rw[lE (h.len▸hl)]at Jr;rw[lE (h.QE▸hl)]at hhi;rw[lE (h.QD▸hl)]at hui;obtain⟨a1,a2,a3,⟨V',a4,a5⟩,⟨E1,a6,a7⟩,⟨E2,a8,a9⟩⟩:=h.blk i z g' h' u' hi' Jr hhi hui;have bc9:=h.Np;rw[Ah]at bc9;have n1:some h'≠some bn:=by intro e;cases e;exact bc9.1 (gM.2 (.inl (aY hhi)))
 have n2:some u'≠some bn:=by intro e;cases e;exact bc9.1 (gM.2 (.inr (aY hui)))
 have b1:=(hg.block g' (aQ a4) ai).trans a4;refine⟨a1,a2,a3,⟨V',(gi.block g' (aQ b1) ?_).trans b1,a5⟩,⟨E1,(a6.kept hg ai).kept gi n1,a7⟩,⟨E2,(a8.kept hg ai).kept gi n2,a9⟩⟩;obtain⟨D',hD',_⟩:=h.own;have:=mi hD' a4;simpa using this};{rw[e1,<-h.len,nZ ao]at Jr;rw[e1,<-h.QE,nZ ao]at hhi;rw[e1,<-h.QD,nZ ao]at hui;simp at Jr hhi hui;subst Jr hhi hui;exact⟨ae,ae,ae,⟨V,(gi.block _ (aQ hbk) aU).trans hbk,hV⟩,⟨D1,hH.kept gi aU,hHs⟩,⟨D2,hU.kept gi aU,hUs⟩⟩}};{
 have hp:((HB++[hb])++(UB++[ub])).Perm ((HB++UB)++[hb,ub]):=by rw[sU,sU];exact List.Perm.append_left HB (show(hb::(UB++[ub])).Perm (UB++hb::[ub])from ae5.symm)
 have hq:(bn::((HB++[hb])++(UB++[ub]))).Perm ((bn::(HB++UB))++[hb,ub]):=hp.cons bn;rw[hq.nodup_iff,BS];refine⟨h.Np,by simp[cg],λa ha c hc=>?_⟩;have Uw:a<w.heap.size:=by rcases jG.1 ha with rfl|ha;{exact xr};{exact aT.2 a ha}
 simp at hc;rcases hc with rfl|rfl<;>omega}
def uB{w:World}{Q:Exit->Act->World->Prop}(mW:o.guard=none){m x v:Operand}{t:TypeId}(Jn:o.op=Op.mapUpdate t m x v){e:TypeId}(KK:Keyed P k)(ht:P.underlying t=some (.map k e))(R:Value->Option (DataW Unit×List MemPlace))(b n:Nat) (hm:a.eval m=.map (some b))(bO:w.ownsMap P k R b n D)(hn:n<maxLen){key:Value}(val:Value){kl:Lit}(hx:a.eval x=key)(hv:a.eval v=val)(cQ:keyOf P k key=some kl){d:DataW Unit}{ps:List MemPlace}(Ec:R val=some (d,ps))(hK:∀w',w'.ownsMap P k R b (n+1) (D.put kl d)->w.grownBy w' (some b)->K (a.put o.dst undef) w'):if Region.wanted o (yielded ops a.tmps)=true then Oper.wp P o a w K Q else E:=by
 have hw:Region.wanted o (yielded ops a.tmps)=true:=by simp[Region.wanted,mW]
 rw[bN hw];obtain⟨w',dN,r1,r2⟩:=bO.update KK ht hn cQ Ec;unfold Oper.wp;simp[execOp,Jn,hm,hx,hv,dN,Result.andThen];exact hK w' r1 r2
def Zs{w:World}{Q:Exit->Act->World->Prop}(mW:o.guard=none){t:TypeId}{x:Operand}(Jn:o.op=Op.box t x){v:Value}(hx:a.eval x=v){r:Value}{w':World}(dN:(Instr.box t v).run P w=.ok r w')(hK:K (a.put o.dst r) w'):if Region.wanted o (yielded ops a.tmps)=true then Oper.wp P o a w K Q else E:=by
 have hw:Region.wanted o (yielded ops a.tmps)=true:=by simp[Region.wanted,mW]
 rw[bN hw];unfold Oper.wp;simp[execOp,Jn,hx,dN,Result.andThen];exact hK
def Pg{w:World}{V:Value}{ow mo ep ge:Int}{h u:Nat}:(Instr.box 142 (.agg #[V,.U ow,.I mo,.map (some h),.U ep,.U ge,.map (some u)])).run prog w=.ok (.pointer (some (Ad w.heap.size 0))) (w.alloc (.cells #[V,.U ow,.I mo,.map (some h),.U ep,.U ge,.map (some u)] 142)):=by
 go_simp
def vH{α:Type}{l:List α}{k:Nat}{y:α}(h:l[k]?=some y):l.take (k+1)=l.take k++[y]:=by rw[ni,h];rfl
def zL{α:Type}{l:List α}{k:Nat}{z:α}(h:z∈l.take k):∃i,i<k/\l[i]?=some z:=by
 obtain⟨i,hi⟩:=Cc h;rw[GH]at hi;split at hi;{exact⟨i,by assumption,hi⟩};{cases hi}
def cM{w w':World}(h:w'.heap[b]?=w.heap[b]?){o:Nat}:w'.cell? (Ad b o)=w.cell? (Ad b o):=by
 unfold World.cell?;rw[h]
def jO.heap{w w':World}{S N:Value}(h:jO w b e g x t S N)(hb:w'.heap[b]?=w.heap[b]?):jO w' b e g x t S N:=
 ⟨(cM hb).trans h.1,(cM hb).trans h.2.1,(cM hb).trans h.2.2.1,(cM hb).trans h.2.2.2.1,(cM hb).trans h.2.2.2.2.1,(cM hb).trans h.2.2.2.2.2⟩
def ay{X w2:World}(h:X.drew.grownBy w2 row):X.grownBy w2 row:=⟨h.os,h.tape,h.output,h.size,h.block⟩
def my{p q:OA}{c n d m:Nat}(en:Hid (ss.length=n))(em:Hid (ns.length=m)){w:World}(h:mg w (.S p n c) ss)(hN:oU w (.S q m d) ns)(hn:Mg n)(hm:Mg m)(hsu:Hid (∀s∈ss,0<=s.1/\s.1<18446744073709551616))(hsd:Hid (∀(i j:Nat)(s s':aP),ss[i]?=some s->ss[j]?=some s'->i<j->s.1≠s'.1))(gq:Hid (∀nd∈ns,aN nd.path/\nd.path.length<=1048576/\nd.value.length<=1048576/\nd.holders.length<=1048576/\nd.watchers.length<=1048576))(Ci:Hid (∀nd∈ns,(∀i∈nd.holders,0<=i/\i<18446744073709551616)/\∀i∈nd.watchers,0<=i/\i<18446744073709551616))(bj:Hid (∀(i j:Nat)(z z':aC),ns[i]?=some z->ns[j]?=some z'->i<j->z.path≠z'.path)):Calls prog 47 #[ft e g x t (.S p n c) (.S q m d)] w λr w'=>∃b bs bn SB NB HB UB,r=.returned (.pointer (some (Ad b 0)))/\mw w w' b bs bn e g x t ss ns SB NB HB UB/\Bw w w':=by
 have HR:=af λ(w':World)(hb:Bw w w')=>ah (h.below hb) (hN.below hb);have HS0:=af h;have HN0:=af hN;clear h hN;have hmm:=@VO prog
 go_in
 go_wp2_with fail;obtain⟨b,eb⟩:=az (w.heap.size+1+1+1);obtain⟨bn,ebn⟩:=az (w.heap.size+1+1);obtain⟨bs,ebs⟩:=az (w.heap.size+1);rw[<-eb,<-ebn,<-ebs];obtain⟨W,hW⟩:=az ((((w.alloc (.cells #[.U e,.U g,.U x,.I t,.S p n c,.S q m d] 35)).alloc (.map #[] 0)).alloc (.map #[] 0)).alloc (.cells #[.U e,.U g,.U x,.I t,.map (some bs),.map (some bn)] 135));have bW:Bw w W:=by rw[hW];exact(((au.alloc ao _).alloc ai _).alloc aU _).alloc aU _
 have zW:W.heap.size=w.heap.size+4:=by rw[hW];simp
 have hdW:W.heap[b]?=some (.cells #[.U e,.U g,.U x,.I t,.map (some bs),.map (some bn)] 135):=by rw[hW,eb];have:=(ac6 (((w.alloc (.cells #[.U e,.U g,.U x,.I t,.S p n c,.S q m d] 35)).alloc (.map #[] 0)).alloc (.map #[] 0)) (.cells #[.U e,.U g,.U x,.I t,.map (some bs),.map (some bn)] 135)).1;simpa using this
 have oS:W.ownsMap prog 31 aV bs 0 (.map []):=by rw[hW,ebs];have:=((World.ownsMap_made (w.alloc (.cells #[.U e,.U g,.U x,.I t,.S p n c,.S q m d] 35)) prog 31 aV).alloc (.map #[] 0)).alloc (.cells #[.U e,.U g,.U x,.I t,.map (some (w.heap.size+1)),.map (some bn)] 135);simpa using this
 have oN:W.ownsMap prog 9 aV bn 0 (.map []):=by rw[hW,ebn];have:=(World.ownsMap_made ((w.alloc (.cells #[.U e,.U g,.U x,.I t,.S p n c,.S q m d] 35)).alloc (.map #[] 0)) prog 9 aV).alloc (.cells #[.U e,.U g,.U x,.I t,.map (some bs),.map (some (w.heap.size+1+1))] 135);simpa using this
 have c6:jO W w.heap.size e g x t (.S p n c) (.S q m d):=by
  have c0:jO (w.alloc (.cells #[.U e,.U g,.U x,.I t,.S p n c,.S q m d] 35)) w.heap.size e g x t (.S p n c) (.S q m d):=by simp[jO]
  rw[hW];exact c0.below (((au.alloc ao _).alloc ai _).alloc ai _)
 rw[<-hW];have HEQ:=af (ah eb (ah ebn (ah ebs zW)));have BW:=af bW;have YF:=af c6;have HN1:=af (ah hdW (ah oS oN));clear hW eb ebn ebs zW bW hdW oS oN c6 hmm
 go_loopw[23](λiv wr=>∃(k:Nat)(SB:List Nat),k<=n/\iv=.I k/\Hid (wG w wr bs (ss.take k) SB/\wr.heap[b]?=some (.cells #[.U e,.U g,.U x,.I t,.map (some bs),.map (some bn)] 135)/\wr.ownsMap prog 9 aV bn 0 (.map [])/\jO wr w.heap.size e g x t (.S p n c) (.S q m d))/\Bw w wr/\W.heap.size<=wr.heap.size) (λiv _=>n-(intOf iv).toNat)
 exact⟨0,[],fN _,rfl,⟨wG.empty HN1.2.1,HN1.1,HN1.2.2,YF⟩,BW,iP _⟩;{
 obtain⟨k,SB,hk,rfl,ka,aK,Ue⟩:=hrel;by_cases aT:k<n;{
 have bu:=aS k n;have fh:k<ss.length:=by rw[aa en];exact aT
 obtain⟨⟨I,D,Q⟩,hy⟩:=mR fh;obtain⟨b0,o,rfl,hcI,hcD,u,hcQ,hrQ⟩:∃b o,p=some (Ad b o)/\w.cell? (Ad b (o+k*3))=some (.U I)/\w.cell? (Ad b (o+k*3+1))=some (.I D)/\∃u,w.cell? (Ad b (o+k*3+2))=some u/\rE w u Q:=by obtain⟨p',c',ev,hd⟩:=aa HS0;obtain⟨rfl,-,-⟩:=js ev;rcases hd with h0|⟨b,o,h1,h2⟩;{rw[h0]at fh;simp at fh};{exact⟨b,o,h1,h2 k _ hy⟩}
 obtain⟨pq,cq,rfl,-⟩:=id hrQ;obtain⟨mq,emq⟩:=aI Q.length;rw[emq]at hrQ hcQ;clear emq;replace hcI:=ag hcI aK;replace hcD:=ag hcD aK;replace hcQ:=ag hcQ aK;have HRQ:=af hrQ;have HY:=af hy;have hI:=aa hsu _ (aY hy);have cQ:keyOf prog 31 (.U I)=some (.U I):=keyOf_int_mk underlying31 (oY hI);have NR:=af cQ;go_wp2_with fail;obtain⟨X,hX⟩:=az (wr.alloc (.cells #[.U I,.I D,.S pq mq cq] 84));have bX:=ew hX;have MT:X.heap[wr.heap.size]?=some (.cells #[.U I,.I D,.S pq mq cq] 84):=by rw[hX];exact(ac6 wr _).1
 have hcX:X.cell? (Ad wr.heap.size 0)=some (.U I):=by rw[hX];simp
 obtain⟨i1,i2,i3,i4⟩:=aa ka;have oq:X.heap[b]?=some (.cells #[.U e,.U g,.U x,.I t,.map (some bs),.map (some bn)] 135):=(bX.block b (aQ i2)).trans i2;have Og:X.cell? (Ad b 4)=some (.map (some bs)):=aq oq 4;rw[<-hX];have zX:X.heap.size=wr.heap.size+1:=by rw[hX];simp
 obtain⟨D0,oD,mD⟩:=i1.own;have hlen:(ss.take k).length=k:=by rw[od,aa en];omega
 rw[hlen]at oD;have oX:X.ownsMap prog 31 aV bs k D0:=oD.kept (aB bX none) ai;have mj:bs<wr.heap.size:=oD.lt;have bD5:bs≠b:=λe=>mi oD i2 e.symm;have KX:=af (ah Og hcX);have OX:=af oX;refine dC (λw'=>w'.cell? (Ad b 4)=some (.map (some bs))/\w'.cell? (Ad wr.heap.size 0)=some (.U I)) (by exact KX) λhS=>?_;refine mU 0 1 2 3 hS ?_;refine kG 4 5 hS ?_;refine dM 6 λKK hK=>?_;refine uB aH (t:=132) aH (k:=31) iO underlying132 aV bs k (D:=D0) aH (by exact OX.drew) iF (key:=.U I) (.pointer (some (Ad wr.heap.size 0))) (kl:=.U I) aH aH NR (d:=.lit (.I wr.heap.size)) (ps:=[]) rfl ?_;intro w2 Hk gi;have MK:X.grownBy w2 (some bs):=ay gi;refine gr hK (by exact⟨(cM (MK.block b (aQ oq) (by simpa using bD5.symm))).trans KX.1,(cM (MK.block wr.heap.size (aQ MT) aU)).trans KX.2⟩) λhS=>?_;clear hK KK;refine dw ?_;have cX:wG w w2 bs (ss.take (k+1)) (SB++[wr.heap.size]):=by rw[vH (aa HY)];refine i1.step (I,D,Q) wr.heap.size (aB bX none) ao aK.size (.S pq mq cq) (aa HRQ) MT (λz hz=>?_) mD oD.isMap (by rw[hlen];exact Hk) MK;obtain⟨i,hi,Od⟩:=zL hz;exact hsd i k z (I,D,Q) Od (aa HY) hi
 have Jq:w2.ownsMap prog 9 aV bn 0 (.map []):=(i3.kept (aB bX none) ai).kept MK (by have:=(aa HEQ);simp;omega)
 have aD:w2.heap[b]?=some (.cells #[.U e,.U g,.U x,.I t,.map (some bs),.map (some bn)] 135):=(MK.block b (aQ oq) (by simpa using bD5.symm)).trans oq;have h62:jO w2 w.heap.size e g x t (.S (some (Ad b0 o)) n c) (.S q m d):=(i4.below bX).heap (MK.block w.heap.size (aG aK.size) (by have:=aa HEQ;simp;omega));have iY:Bw w w2:=cO (aj aK bX) MK (aG aK.size) (λj hj=>by cases hj;have:=aa HEQ;omega);have jU:W.heap.size<=w2.heap.size:=aG MK.size;have rH:=af (ah cX (ah aD (ah Jq h62)));clear cX aD Jq h62 hS Hk gi MK i1 i2 i3 i4 oq oD mD MT bX;go_wp2;go_roundw;exact⟨k+1,_,ae,by go_num,rH,iY,jU⟩;exact bM};{
 have bu:=dm k n;have yx:k=n:=ae;subst yx;obtain⟨i1,i2,i3,i4⟩:=aa ka;rw[ke (by rw[aa en];exact iP _)]at i1;obtain⟨j0,j1,j2,j3,j4,j5⟩:=id i4;have I1:=af i1;have I2:=af i2;have I3:=af i3;have I4:=af i4;clear i1 i2 i3 i4 ka;go_wp2_with fail;clear j0 j1 j2 j3 j4 j5;obtain⟨Y,eY⟩:=az wr;subst eY;have BY:=af aK;have ZY:=af Ue;clear aK Ue aT bu hk
 go_loopw[37](λiv wr=>∃(k:Nat)(NB HB UB:List Nat),k<=m/\iv=.I k/\Hid (uh w wr bn (ns.take k) NB HB UB/\wG w wr bs ss SB/\wr.heap[b]?=some (.cells #[.U e,.U g,.U x,.I t,.map (some bs),.map (some bn)] 135)/\∀y∈HB++UB,y≠bs)/\Bw w wr/\W.heap.size<=wr.heap.size) (λiv _=>m-(intOf iv).toNat)
 exact⟨0,[],[],[],fN _,rfl,⟨uh.empty (aa I3),aa I1,aa I2,ai⟩,aa BY,aa ZY⟩;{
 obtain⟨j,NB,HB,UB,hk,rfl,ka,aK,Ue⟩:=hrel;by_cases aT:j<m;{
 have bu:=aS j m;have fh:j<ns.length:=by rw[aa em];exact aT
 obtain⟨nd,hy⟩:=mR fh;obtain⟨b0,o,rfl,hA⟩:=HN0.at ae;obtain⟨P,V,H,U,Uj⟩:=hA j nd hy;obtain⟨Cq,iY,hB3,hB4,hB5⟩:=aa gq _ (aY hy);obtain⟨hU1,hU2⟩:=aa Ci _ (aY hy);obtain⟨pp,pc,pn,rfl,Nk⟩:=Uj.r0.iK;obtain⟨vq,vc,vn,rfl,eVn⟩:=Uj.r1.iK;obtain⟨hp,hc,hh,rfl,UK⟩:=Uj.r4.iK;obtain⟨up,uc,un,rfl,Ye⟩:=Uj.r7.iK;have XF:pn<=1048576:=by rw[<-aa Nk];exact iY
 have YX:hh<=1048576:=by rw[<-aa UK];exact hB4
 have YQ:un<=1048576:=by rw[<-aa Ye];exact hB5
 have at7:=af Uj;have HY:=af hy;have HU1:Hid (∀i∈nd.holders,0<=i/\i<18446744073709551616):=hU1;have HU2:Hid (∀i∈nd.watchers,0<=i/\i<18446744073709551616):=hU2;have hnr:=Uj.below aK;obtain⟨c0,c1,c2,c3,c4,c5,c6,c7,-,-,-,-,-⟩:=hnr;obtain⟨ow,mo,ep,ge,e1,e2,e3,e4⟩:∃a b c d,nd.owner=a/\nd.mode=b/\nd.aJ=c/\nd.gen=d:=⟨_,_,_,_,rfl,rfl,rfl,rfl⟩
 rw[e1]at c2;rw[e2]at c3;rw[e3]at c5;rw[e4]at c6;have HE:=af (ah e1 (ah e2 (ah e3 e4)));clear fh hy hA Uj Cq iY hB3 hB4 hB5 hU1 hU2 e1 e2 e3 e4;go_wp2_with fail;obtain⟨X,hX⟩:=az (wr.alloc (.cells #[.S pp pn pc,.S vq vn vc,.U ow,.I mo,.S hp hh hc,.U ep,.U ge,.S up un uc] 119));obtain⟨C,eC⟩:=az wr.heap.size;have bX:=ew hX;have zX:X.heap.size=wr.heap.size+1:=by rw[hX];simp
 obtain⟨i1,i2,i3,i4⟩:=aa ka;have oq:X.heap[b]?=some (.cells #[.U e,.U g,.U x,.I t,.map (some bs),.map (some bn)] 135):=(bX.block b (aQ i3)).trans i3;have rX:Rd X (.S pp pn pc) nd.path:=at7.r0.below (aj aK bX);have KX:Hid (X.cell? (Ad b 5)=some (.map (some bn))/\X.cell? (Ad C 0)=some (.S pp pn pc)/\X.cell? (Ad C 1)=some (.S vq vn vc)/\X.cell? (Ad C 2)=some (.U ow)/\X.cell? (Ad C 3)=some (.I mo)/\X.cell? (Ad C 4)=some (.S hp hh hc)/\X.cell? (Ad C 5)=some (.U ep)/\X.cell? (Ad C 6)=some (.U ge)/\X.cell? (Ad C 7)=some (.S up un uc)/\Rd X (.S pp pn pc) nd.path):=by refine⟨aq oq 5,?_,?_,?_,?_,?_,?_,?_,?_,rX⟩<;>(rw[hX,eC];simp)
 have uH:rD X (.S hp hh hc) nd.holders:=at7.r4.below (aj aK bX);have uU:rD X (.S up un uc) nd.watchers:=at7.r7.below (aj aK bX);rw[<-hX,<-eC];have UH:=af uH;have UU:=af uU;have HX:=af (ah bX (ah zX oq));have rH:=ka;clear hX c0 c1 c2 c3 c4 c5 c6 c7 uH uU rX bX zX oq i1 i2 i3 i4 ka;have HCE:=af eC;clear eC;have cQ:keyOf prog 9 (.string (aO nd.path))=some (cL nd.path):=by rw[WideMaps.keyOf_string_mk underlying9 (by rw[ik,aa Nk];unfold maxLen;omega),oR]
 have NR:=af cQ;clear cQ;refine dC (λw'=>w'.cell? (Ad b 5)=some (.map (some bn))/\w'.cell? (Ad C 0)=some (.S pp pn pc)/\w'.cell? (Ad C 1)=some (.S vq vn vc)/\w'.cell? (Ad C 2)=some (.U ow)/\w'.cell? (Ad C 3)=some (.I mo)/\w'.cell? (Ad C 4)=some (.S hp hh hc)/\w'.cell? (Ad C 5)=some (.U ep)/\w'.cell? (Ad C 6)=some (.U ge)/\w'.cell? (Ad C 7)=some (.S up un uc)/\Rd w' (.S pp pn pc) nd.path) (by exact KX) λhS=>?_;refine mU 0 1 2 3 hS ?_;refine kG 4 5 hS ?_;refine xh (i:=6) (oi:=_) (v:=?_) (by simp only[xQ,BQ,BO];rfl) bg bg bg (λ_ _ _ h=>h) (Or.inl ⟨aH,?_⟩) hS ?_;rotate_left;{(intro w' xt;(try dsimp only at xt);(have hcv:=dL (aa Nk) xt.2.2.2.2.2.2.2.2.2);go_simp;try with_reducible rfl)}
 simp only[Act.put,xa,xb,xc];refine nK 7 8 9 10 11 12 13 14 hS ?_;refine mU 15 16 17 18 hS ?_;refine kG 20 21 hS ?_;refine dM 19 λKK hK=>?_;refine jv (JT (p:=hp) (c:=hc) (n:=hh) (ids:=nd.holders) UK (UH.below au.drew) YX HU1) ?_;rintro r w2⟨D1,rfl,o1,s1,aD,KI⟩;refine⟨_,rfl,?_⟩;have yj:Bw X w2:=aj (cR X.heap.size X).drew aD;have KX2:Hid (w2.cell? (Ad b 5)=some (.map (some bn))/\w2.cell? (Ad C 0)=some (.S pp pn pc)/\w2.cell? (Ad C 1)=some (.S vq vn vc)/\w2.cell? (Ad C 2)=some (.U ow)/\w2.cell? (Ad C 3)=some (.I mo)/\w2.cell? (Ad C 4)=some (.S hp hh hc)/\w2.cell? (Ad C 5)=some (.U ep)/\w2.cell? (Ad C 6)=some (.U ge)/\w2.cell? (Ad C 7)=some (.S up un uc)/\Rd w2 (.S pp pn pc) nd.path):=by obtain⟨k0,k1,k2,k3,k4,k5,k6,k7,k8,k9⟩:=aa KX;exact⟨ag k0 yj,ag k1 yj,ag k2 yj,ag k3 yj,ag k4 yj,ag k5 yj,ag k6 yj,ag k7 yj,ag k8 yj,k9.below yj⟩
 refine gr hK (by exact KX2) λhS=>?_;clear hK KK;have zd:X.drew.heap.size=X.heap.size:=rfl;rw[zd]at o1 KI⊢;obtain⟨h1,eh1⟩:=az X.heap.size;rw[<-eh1]at o1 KI⊢;have HO1:=af (ah o1 (ah s1 (ah KI eh1)));have Bf:=af yj;clear o1 s1 aD KI yj zd eh1;refine dM 22 λKK hK=>?_;refine jv (JT (p:=up) (c:=uc) (n:=un) (ids:=nd.watchers) Ye (UU.below Bf) YQ HU2) ?_;rintro r w3⟨D2,rfl,o2,s2,aL,EO⟩;refine⟨_,rfl,?_⟩;have KX3:Hid (w3.cell? (Ad b 5)=some (.map (some bn))/\w3.cell? (Ad C 0)=some (.S pp pn pc)/\w3.cell? (Ad C 1)=some (.S vq vn vc)/\w3.cell? (Ad C 2)=some (.U ow)/\w3.cell? (Ad C 3)=some (.I mo)/\w3.cell? (Ad C 4)=some (.S hp hh hc)/\w3.cell? (Ad C 5)=some (.U ep)/\w3.cell? (Ad C 6)=some (.U ge)/\w3.cell? (Ad C 7)=some (.S up un uc)/\Rd w3 (.S pp pn pc) nd.path):=by obtain⟨k0,k1,k2,k3,k4,k5,k6,k7,k8,k9⟩:=aa KX2;exact⟨ag k0 aL,ag k1 aL,ag k2 aL,ag k3 aL,ag k4 aL,ag k5 aL,ag k6 aL,ag k7 aL,ag k8 aL,k9.below aL⟩
 refine gr hK (by exact KX3) λhS=>?_;clear hK KK;obtain⟨u1,eu1⟩:=az w2.heap.size;rw[<-eu1]at o2 EO⊢;have HO2:=af (ah o2 (ah s2 (ah EO eu1)));have vD:=af aL;clear o2 s2 aL EO eu1;refine tn 23 hS ?_;refine dM 24 λKK hK=>?_;refine Zs aH (t:=142) aH (v:=.agg #[.S vq vn vc,.U ow,.I mo,.map (some h1),.U ep,.U ge,.map (some u1)]) aH (Pg) ?_;obtain⟨Z,eZ⟩:=az (w3.alloc (.cells #[.S vq vn vc,.U ow,.I mo,.map (some h1),.U ep,.U ge,.map (some u1)] 142));have bZ:=ew eZ;have hZ:Z.heap[w3.heap.size]?=some (.cells #[.S vq vn vc,.U ow,.I mo,.map (some h1),.U ep,.U ge,.map (some u1)] 142):=by rw[eZ];exact(ac6 w3 _).1
 rw[<-eZ];clear eZ;have KX4:Hid (Z.cell? (Ad b 5)=some (.map (some bn))/\Z.cell? (Ad C 0)=some (.S pp pn pc)/\Z.cell? (Ad C 1)=some (.S vq vn vc)/\Z.cell? (Ad C 2)=some (.U ow)/\Z.cell? (Ad C 3)=some (.I mo)/\Z.cell? (Ad C 4)=some (.S hp hh hc)/\Z.cell? (Ad C 5)=some (.U ep)/\Z.cell? (Ad C 6)=some (.U ge)/\Z.cell? (Ad C 7)=some (.S up un uc)/\Rd Z (.S pp pn pc) nd.path):=by obtain⟨k0,k1,k2,k3,k4,k5,k6,k7,k8,k9⟩:=aa KX3;exact⟨ag k0 bZ,ag k1 bZ,ag k2 bZ,ag k3 bZ,ag k4 bZ,ag k5 bZ,ag k6 bZ,ag k7 bZ,ag k8 bZ,k9.below bZ⟩
 refine gr hK (by exact KX4) λhS=>?_;clear hK KK;obtain⟨g1,eg1⟩:=az w3.heap.size;rw[<-eg1]at hZ⊢;have BXZ:Bw X Z:=aj (aj Bf vD) bZ;obtain⟨i1,i2,i3,i4⟩:=aa rH;obtain⟨bX,zX,oq⟩:=aa HX;obtain⟨o1,s1,KI,eh1⟩:=aa HO1;obtain⟨o2,s2,EO,eu1⟩:=aa HO2;have bRZ:Bw wr Z:=aj bX BXZ;obtain⟨D0,oD,mD⟩:=i1.own;have hlen:(ns.take j).length=j:=by rw[od,aa em];omega
 rw[hlen]at oD;have oZ:Z.ownsMap prog 9 aV bn j D0:=oD.kept (aB bRZ none) ai;have q1:Z.ownsMap prog 31 unitElem h1 hh D1:=(o1.kept (aB (aa vD) none) ai).kept (aB bZ none) ai;have q2:Z.ownsMap prog 31 unitElem u1 un D2:=o2.kept (aB bZ none) ai;have lt3:=vD.size;have lt2:=Bf.size;have xr:=oD.lt;have HQ:=af (ah q1 (ah q2 (ah s1 s2)));have cL0:=af (ah KI (ah eh1 (ah EO (ah eu1 (ah eg1 (ah zX (ah lt2 (ah lt3 xr))))))));have HOZ:=af oZ;have bO1:=af (ah hZ (ah bRZ (ah oD mD)));clear q1 q2 s1 s2 KI eh1 EO eu1 eg1 zX lt2 lt3 xr oZ hZ bRZ oD mD i1 i2 i3 i4 bX oq o1 o2 BXZ bZ;refine dM 25 λKK hK=>?_;refine uB aH (t:=133) aH (k:=9) oe underlying133 aV bn j (D:=D0) aH (by exact HOZ) iF (key:=.string (aO nd.path)) (.pointer (some (Ad g1 0))) (kl:=cL nd.path) aH aH NR (d:=.lit (.I g1)) (ps:=[]) rfl ?_;intro w4 Dr tL;obtain⟨hZ,bRZ,oD,mD⟩:=aa bO1;obtain⟨i1,i2,i3,i4⟩:=aa rH;obtain⟨q1,q2,s1,s2⟩:=aa HQ;obtain⟨KI,eh1,EO,eu1,eg1,zX,lt2,lt3,xr⟩:=aa cL0;have cn1:=tL.size;have zZ:=aQ hZ;have zRZ:=bRZ.size;have cu1:=aK.size;obtain⟨eb,ebn,ebs,zW⟩:=aa HEQ;have hCe:=aa HCE;have aG1:Z.heap[b]?=some (.cells #[.U e,.U g,.U x,.I t,.map (some bs),.map (some bn)] 135):=(bRZ.block b (aQ i3)).trans i3;have nb:b≠bn:=ae;have nC:C≠bn:=ae;have KX5:Hid (w4.cell? (Ad b 5)=some (.map (some bn))/\w4.cell? (Ad C 0)=some (.S pp pn pc)/\w4.cell? (Ad C 1)=some (.S vq vn vc)/\w4.cell? (Ad C 2)=some (.U ow)/\w4.cell? (Ad C 3)=some (.I mo)/\w4.cell? (Ad C 4)=some (.S hp hh hc)/\w4.cell? (Ad C 5)=some (.U ep)/\w4.cell? (Ad C 6)=some (.U ge)/\w4.cell? (Ad C 7)=some (.S up un uc)/\Rd w4 (.S pp pn pc) nd.path):=by
  obtain⟨k0,k1,k2,k3,k4,k5,k6,k7,k8,k9⟩:=aa KX4;have hC:=tL.block C ae (by simpa using nC);exact⟨(cM (tL.block b (aQ aG1) (by simpa using nb))).trans k0,(cM hC).trans k1,(cM hC).trans k2,(cM hC).trans k3,(cM hC).trans k4,(cM hC).trans k5,(cM hC).trans k6,(cM hC).trans k7,(cM hC).trans k8,
   at7.r0.below (cO (aj aK bRZ) tL ae (λj hj=>by cases hj;omega))⟩
 refine gr hK (by exact KX5) λhS=>?_;clear hK KK;refine dw ?_;obtain⟨e1,e2,e3,e4⟩:=aa HE;have cX:uh w w4 bn (ns.take (j+1)) (NB++[g1]) (HB++[h1]) (UB++[u1]):=by rw[vH (aa HY)];refine i1.step nd g1 h1 u1 (aB bRZ none) ae ae ae ae aK.size (.S vq vn vc) at7.r1 (by rw[e1,e2,e3,e4];exact hZ) (by rw[aa UK];exact q1) s1 (by rw[aa Ye];exact q2) s2 (λz hz=>?_) mD oD.isMap (by rw[hlen];exact Dr) tL;obtain⟨i,hi,Od⟩:=zL hz;intro ee;exact bj i j z nd Od (aa HY) hi (mH (aa gq z (aY Od)).1 (aa gq nd (aY (aa HY))).1 ee)
 have hse:wG w w4 bs ss SB:=(i2.kept (aB bRZ none) ai ai).kept tL aU (λy hy=>by obtain⟨i,hi⟩:=Cc hy;obtain⟨s,hs⟩:∃s,ss[i]?=some s:=⟨_,bD (by rw[<-i2.len];exact(bf.1 hi).1)⟩;obtain⟨_,u,a2,_⟩:=i2.blk i s y hs hi;have:=mi oD a2;simpa using this)
 have dS:w4.heap[b]?=some (.cells #[.U e,.U g,.U x,.I t,.map (some bs),.map (some bn)] 135):=(tL.block b (aQ aG1) (by simpa using nb)).trans aG1;have hB4:Bw w w4:=cO (aj aK bRZ) tL ae (λj hj=>by cases hj;omega);have QN:W.heap.size<=w4.heap.size:=ae;have hd4:∀y∈(HB++[h1])++(UB++[u1]),y≠bs:=by intro y hy;simp only[gM,nW]at hy;rcases hy with(hy|rfl)|(hy|rfl);{exact i4 y (gM.2 (.inl hy))};{omega};{exact i4 y (gM.2 (.inr hy))};{omega}
 have cM0:=af (ah cX (ah hse (ah dS hd4)));clear cX hse dS hd4 hS Dr tL i1 i2 i3 i4 q1 q2 s1 s2 KI eh1 EO eu1 eg1 zX lt2 lt3 xr eb ebn ebs zW hCe hZ bRZ oD mD aG1 e1 e2 e3 e4 cn1 cu1 nb nC zZ zRZ KX KX2 KX3 KX4 KX5;go_wp2;go_roundw;exact⟨j+1,_,_,_,ae,by go_num,cM0,hB4,QN⟩;exact bM};{
 have bu:=dm j m;have ekm:j=m:=ae;subst ekm;obtain⟨i1,i2,i3,i4⟩:=aa ka;rw[ke (by rw[aa em];exact iP _)]at i1;obtain⟨eb,ebn,ebs,zW⟩:=aa HEQ;have tg:mw w wr b bs bn e g x t ss ns SB NB HB UB:=⟨i3,i2,i1,ae,by rw[Ah];refine⟨λjl=>?_,i1.Np⟩;rcases jG.1 jl with hh|hh;{omega};{exact i4 _ hh rfl}⟩
 have cM5:=af tg;clear i1 i2 i3 i4 eb ebn ebs zW tg;go_wp2;go_ret;exact⟨b,rfl,⟨bs,bn,SB,NB,HB,UB,cM5⟩,aK⟩}}}}
namespace Q
open Go.Sort
def CE:SWO ltInt:=swo_ltInt
abbrev Left(a b a1 b1:Nat)(d dk:Array Int):Prop:=∀R,PermIn a1 b1 dk R->SortedIn ltInt a1 b1 R->PermIn a b d R/\SortedIn ltInt a b R
theorem aB3(blk off cap N:Nat)(jI:N<=1048576):∀(n a b:Nat)(QA:Int)(d:Array Int)(w:World),Hid (b-a=n)->Hid (d.size=N)->HU w blk off d->blk<w.heap.size->a<=b->b<=N->0<=QA->QA<=64->Go.Sort.Below ltInt a b d→
  Calls prog 227 #[.S (some (Ad blk off)) N cap,.I a,.I b,.I QA] w λe w'=>
   e=.returned (.tuple #[])/\∃d',HU w' blk off d'/\PermIn a b d d'/\SortedIn ltInt a b d'/\w.grownBy w' (some blk):=by
 intro n
 induction n using Nat.strongRecOn with
 |_ n ih=>
  intro a b QA d w hn hN h jB Sy hb yb KJ hB;have IH:=af ih;have H0:=af h;have B0:=af hB
  go_in
  go_wp2_with fail
  go_loopw[1,2,3,8,9](λs1 s2 s3 s8 s9 wr=>∃(a1 b1:Nat)(li:Int)(p q:Bool)(dk:Array Int),s1=.I a1/\s2=.I b1/\s3=.I li/\s8=.bool p/\s9=.bool q/\a<=a1/\a1<=b1/\b1<=b/\0<=li/\li<=64/\Hid (dk.size=N)/\Hid (HU wr blk off dk)/\Hid (Go.Sort.Below ltInt a1 b1 dk)/\Hid (Left a b a1 b1 d dk)/\Hid (w.grownBy wr (some blk))) (λs1 s2 _ _ _ _=>(intOf s2-intOf s1).toNat)
  exact⟨a,b,QA,true,true,d,rfl,rfl,rfl,rfl,rfl,iP _,Sy,iP _,yb,KJ,hN,H0,B0,λR h1 h2=>⟨h1,h2⟩,qI⟩;{
 obtain⟨a1,b1,li,p,q,dk,rfl,rfl,rfl,rfl,rfl,z1,z2,z3,z4,z5,hD,hH,hB,hF,hG⟩:=hrel;obtain⟨L,eL⟩:∃x:Nat,(b1:Int)-(a1:Int)=(x:Int):=⟨b1-a1,ae⟩;have wL:=fk L;have NF:b1<=N:=ae;by_cases h12:L<=12;{have cz0:(L:Int)<=12:=ae;go_wp2_with fail;refine(aE3 (blk:=blk) (off:=off) (cap:=cap) (N:=N) (a:=a1) (b:=b1) (d:=dk) hD hH z2 NF jI).mono ?_;rintro e w1⟨rfl,Co,gx⟩;have HH1:=af Co;have HG1:=af (aX hG gx);go_wp2;refine dD (sS (h:=rfl) _ _ _) rfl ⟨rfl,_,HH1,?_,?_,HG1⟩;{have:=insertionSort_holds CE dk a1 b1 z2 (aa hD▸NF);exact(aa hF _ this.1 this.2).1};{have:=insertionSort_holds CE dk a1 b1 z2 (aa hD▸NF);exact(aa hF _ this.1 this.2).2}};{
 have cz0:¬(L:Int)<=12:=ae;by_cases hli:li=0;{subst hli;go_wp2_with fail;refine(al9 (blk:=blk) (off:=off) (cap:=cap) (N:=N) (a:=a1) (b:=b1) (d:=dk) hD hH z2 NF jI).mono ?_;rintro e w1⟨rfl,Co,gx⟩;have HH1:=af Co;have HG1:=af (aX hG gx);go_wp2;refine dD (sS (h:=rfl) _ _ _) rfl ⟨rfl,_,HH1,?_,?_,HG1⟩;{have:=heapSort_holds CE dk a1 b1 z2 (aa hD▸NF);exact(aa hF _ this.1 this.2).1};{have:=heapSort_holds CE dk a1 b1 z2 (aa hD▸NF);exact(aa hF _ this.1 this.2).2}};{
 have h8:a1+8<=b1:=ae
 go_upto_if 35 with fail
 go_cut[3](λs3 wc=>∃(lj:Int)(d1:Array Int),s3=.I lj/\0<=lj/\lj<=64/\Hid (d1.size=N)/\Hid (HU wc blk off d1)/\Hid (PermIn a1 b1 dk d1)/\Hid (w.grownBy wc (some blk)))
 case first=>(
 cases p with
 |true=>
  go_wp2_with fail;go_meet;exact⟨li,dk,rfl,z4,z5,hD,hH,permIn_refl dk a1 b1,hG⟩
 |false=>
  go_wp2_with fail;refine(Yv (blk:=blk) (off:=off) (cap:=cap) (N:=N) (a:=a1) (b:=b1) (d:=dk) hD hH (gQ jB hG.size) h8 NF jI).mono ?_;rintro e w1⟨rfl,d1,Co,hP1,gx⟩;have HH1:=af Co;have HP1:=af hP1;have HG1:=af (aX hG gx);go_wp2_with fail;go_meet;exact⟨li-1,d1,by first|rfl|go_num,ae,ae,HP1.1.trans hD,HH1,HP1,HG1⟩)
 obtain⟨lj,d1,rfl,y1,y2,hD1,Co,hP1,hG1⟩:=hcut;obtain⟨Y1,eY1⟩:=az wc;subst eY1;go_wp2_with fail;refine(Xk (blk:=blk) (off:=off) (cap:=cap) (N:=N) (a:=a1) (b:=b1) (d:=d1) hD1 Co (gQ jB hG1.size) h8 NF jI).mono ?_;rintro e w2⟨pv,t,rfl,v1,v2,AZ,gi⟩;have HH2:=af AZ;have HG2:=af (aX hG1 gi)
 go_upto_if 50 with fail
 go_cut[11,12](λs11 s12 wc=>∃(pw:Nat)(tt:Int)(d2:Array Int),s11=.I pw/\s12=.I tt/\a1<=pw/\pw<b1/\Hid (d2.size=N)/\Hid (HU wc blk off d2)/\Hid (PermIn a1 b1 d1 d2)/\Hid (w.grownBy wc (some blk)))
 case first=>(
 by_cases ht:t=2;{
 subst ht;have q1:IntKind.i64.wrap ((b1:Int)-1)=(b1:Int)-1:=jL _ ae;have q2:IntKind.i64.wrap ((pv:Int)-(a1:Int))=(pv:Int)-(a1:Int):=jL _ ae;obtain⟨nv,env⟩:∃x:Nat,(b1:Int)-1-((pv:Int)-(a1:Int))=(x:Int):=⟨b1-1-(pv-a1),ae⟩;have q3:=fk nv;have bn:a1<=nv/\nv<b1:=ae
 go_wp2_with fail;refine(aA8 (blk:=blk) (off:=off) (cap:=cap) (N:=N) (a:=a1) (b:=b1) (d:=d1) hD1 HH2 z2 NF jI).mono ?_;rintro e w3⟨rfl,MY,wC⟩;have HH3:=af MY;have HG3:=af (aX HG2 wC);have HP3:=af (reverseRange_holds d1 a1 b1 z2 (aa hD1▸NF));go_wp2_with fail;go_meet;exact⟨nv,1,_,rfl,rfl,bn.1,bn.2,HP3.1.trans hD1,HH3,HP3,HG3⟩};{
 have ht':(t==2)=false:=by simp[ht]
 go_wp2_with fail;go_meet;exact⟨pv,t,d1,rfl,rfl,v1,v2,hD1,HH2,permIn_refl d1 a1 b1,HG2⟩})
 obtain⟨pw,tt,d2,rfl,rfl,x1,x2,hD2,AZ,MV,hG2⟩:=hcut;obtain⟨Y2,eY2⟩:=az wc;subst eY2
 go_upto_region 15 with fail
 go_cut[68](λs68 wc=>∃Bq:Bool,s68=.bool Bq/\wc=Y2)
 case first=>(
 cases p<;>cases q
 all_goals
  go_wp2_with fail;go_meet;exact⟨_,rfl,rfl⟩)
 obtain⟨Bq,rfl,rfl⟩:=hcut
 go_upto_if 68 with fail
 go_cut[72](λs72 wc=>∃d3:Array Int,Hid (d3.size=N)/\Hid (HU wc blk off d3)/\Hid (PermIn a1 b1 d2 d3)/\Hid (w.grownBy wc (some blk)))
 case first=>(
 cases Bq with
 |false=>
  go_wp2_with fail;go_meet;exact⟨d2,hD2,AZ,permIn_refl d2 a1 b1,hG2⟩
 | true=>
  go_wp2_with fail;refine(Xl (blk:=blk) (off:=off) (cap:=cap) (N:=N) (a:=a1) (b:=b1) (d:=d2) hD2 AZ ae NF jI).mono ?_;have iY:Go.Sort.Below ltInt a1 b1 d2:=(hB.perm (aa hD▸NF) (aa hP1)).perm (aa hD1▸NF) (aa MV);have HPI:=af (partialInsertionSort_holds CE d2 a1 b1 ae (aa hD2▸NF) iY);generalize partialInsertionSort ltInt d2 a1 b1=R at HPI;obtain⟨R1,R2⟩:=R;rintro e w3⟨rfl,MY,wC⟩;have HH3:=af MY;have HG3:=af (aX hG2 wC);cases R2 with
  |true=>
   go_wp2;refine dD (sS (h:=rfl) _ _ _) rfl ⟨rfl,R1,HH3,?_,?_,HG3⟩;{exact(aa hF R1 (permIn_trans _ _ _ a1 b1 (permIn_trans _ _ _ a1 b1 hP1 MV) HPI.1) (HPI.2 (by first|trivial|rfl))).1};{exact(aa hF R1 (permIn_trans _ _ _ a1 b1 (permIn_trans _ _ _ a1 b1 hP1 MV) HPI.1) (HPI.2 (by first|trivial|rfl))).2}
  |false=>
   go_wp2_with fail;go_meet;exact⟨R1,HPI.1.1.trans hD2,HH3,HPI.1,HG3⟩)
 obtain⟨d3,hD3,MY,cv6,hG3⟩:=hcut;obtain⟨Y3,eY3⟩:=az wc;subst eY3;have hP3:Hid (PermIn a1 b1 dk d3):=permIn_trans _ _ _ a1 b1 (permIn_trans _ _ _ a1 b1 hP1 MV) cv6;have hB3:Hid (Go.Sort.Below ltInt a1 b1 d3):=hB.perm (aa hD▸NF) (aa hP3)
 go_upto_region 17 with fail
 go_cut[87](λs87 wc=>∃B:Bool,s87=.bool B/\Hid (B=true->0<a1/\ltInt d3[a1-1]! d3[pw]! = false)/\wc=Y3.drew)
 case first=>(
 by_cases ha:0<a1;{have Oh:=qi 0 a1;have Ax:(a1:Int)>0:=ae;obtain⟨m,em⟩:∃x:Nat,(a1:Int)-1=(x:Int):=⟨a1-1,ae⟩;have em0:a1-1=m:=ae;have wm:=fk m;have wD:=aa hD3;obtain⟨c1,-⟩:=aa MY m ae;obtain⟨c2,-⟩:=aa MY pw ae;obtain⟨x,ex⟩:=aI d3[m]!;obtain⟨y,ey⟩:=aI d3[pw]!;rw[ex]at c1;rw[ey]at c2;have k1:=aS m N;have k2:=aS pw N;have k3:=dA 0 m;obtain⟨Lt,eLt⟩:=aI (ltInt x y);have EL:=af eLt;have HX:Hid ((!Lt)=true->0<a1/\ltInt d3[a1-1]! d3[pw]! = false):=λbR=>⟨ha,by rw[em0,ex,ey,eLt];simpa using bR⟩;have K0:=af (ah c1 c2);refine dC (λw'=>w'.cell? (Ad blk (off+m))=some (.U x)/\w'.cell? (Ad blk (off+pw))=some (.U y)) (by exact K0) λhS=>?_;refine nK 0 1 2 3 4 5 6 7 hS ?_;refine mU 8 9 10 11 hS ?_;refine dM 12 λKK hK=>?_;refine de aH (f:=243) aH (v1:=.U x) (v2:=.U y) aH aH (λ_=>fU) (fS (x:=x) (y:=y)) ?_;rintro r' w2'⟨rfl,rfl⟩;refine⟨_,rfl,?_⟩;rw[aa EL];refine gr hK (by exact K0) λhS=>?_;refine kG 13 14 hS ?_;refine dw ?_;go_wp2_with fail;go_meet;exact⟨_,rfl,HX,rfl⟩};{have Oh:¬(0:Int)<(a1:Int):=ae;refine dC (λw'=>True) jR λhS=>?_;refine kG 0 1 hS ?_;refine tn 2 hS ?_;refine oI 3 4 5 6 hS ?_;refine oI 7 8 9 10 hS ?_;refine sn 11 hS ?_;refine sn 12 hS ?_;refine sn 13 hS ?_;refine tn 14 hS ?_;refine dw ?_;go_wp2_with fail;go_meet;exact⟨false,rfl,(λh=>by cases h),rfl⟩})
 obtain⟨B,rfl,hBB,rfl⟩:=hcut;cases B with
 |true=>
  obtain⟨⟨mid,d4⟩,ePE⟩:∃R,partitionEqual ltInt d3 a1 b1 pw=R:=⟨_,rfl⟩;have hc:=TG (blk:=blk) (off:=off) (cap:=cap) (N:=N) (a:=a1) (b:=b1) (piv:=pw) (d:=d3) hD3 (w:=Y3.drew) MY x1 x2 NF jI;rw[ePE]at hc;obtain⟨m1,m2,m3,m4,m5⟩:=round_eq CE (partitionEqual_holds ltInt) (aa hBB rfl).1 x1 x2 (aa hD3▸NF) (aa hB3) (aa hBB rfl).2 ePE;have HD4:Hid (d4.size=N):=m3.trans hD3;have Se:=af m4;have HL4:Hid (Left a b mid b1 d d4):=λR r1 r2=>by have:=m5 R r1 r2;exact hF R (permIn_trans _ _ _ a1 b1 hP3 this.1) this.2
  go_wp2_with fail;refine hc.mono ?_;rintro e w4⟨rfl,Ra,tL⟩;have HH4:=af Ra;have HG4:=af (aX (ay hG3) tL);go_wp2;go_roundw;exact⟨mid,b1,lj,p,q,d4,rfl,rfl,rfl,rfl,rfl,ae,ae,ae,ae,ae,HD4,HH4,Se,HL4,HG4⟩;exact bM
 |false=>
  obtain⟨⟨mid,ap,d4⟩,ePE⟩:∃R,partition ltInt d3 a1 b1 pw=R:=⟨_,rfl⟩;have hc:=aa6 (blk:=blk) (off:=off) (cap:=cap) (N:=N) (a:=a1) (b:=b1) (piv:=pw) (d:=d3) hD3 (w:=Y3.drew) MY x1 x2 NF jI;rw[ePE]at hc;obtain⟨m1,m2,m3,m4,m5,m6,m7⟩:=round_part CE (partition_holds ltInt) x1 x2 (aa hD3▸NF) (aa hB3) ePE;have HD4:Hid (d4.size=N):=m3.trans hD3;have Se:=af m4;have ui:=af m5;have HL6:=af m6;have HL7:=af m7;obtain⟨lL,elL⟩:∃x:Nat,(mid:Int)-(a1:Int)=(x:Int):=⟨mid-a1,ae⟩;obtain⟨rL,erL⟩:∃x:Nat,(b1:Int)-(mid:Int)=(x:Int):=⟨b1-mid,ae⟩;have wlL:=fk lL;have wrL:=fk rL;obtain⟨th,eth⟩:∃x:Nat,(L:Int) / 8=(x:Int):=⟨L / 8,ae⟩;have dP1:Int.tdiv (L:Int) 8=(th:Int):=eth▸Int.tdiv_eq_ediv_of_nonneg ae;have wth:=fk th;go_wp2_with fail;refine hc.mono ?_;rintro e w4⟨rfl,Ra,tL⟩;have HH4:=af Ra;have HG4:=af (aX (ay hG3) tL);by_cases hlr:lL<rL;{
 have cp5:=aS lL rL;go_wp2_with fail;refine(aa IH (mid-a1) (aG (aa hn)) a1 mid lj d4 _ rfl HD4 HH4 (gQ jB HG4.size) m1 ae y1 y2 Se).mono ?_;rintro e w5⟨rfl,d5,Jw,hP5,hS5,uo⟩;have HH5:=af Jw;have HG5:=af (aX HG4 uo);obtain⟨o1,o2⟩:=aa HL6 d5 hP5 hS5;have bk2:=af o1;have HD5:Hid (d5.size=N):=hP5.1.trans HD4;have HL5:Hid (Left a b (mid+1) b1 d d5):=λR r1 r2=>by have:=o2 R r1 r2;exact hF R (permIn_trans _ _ _ a1 b1 hP3 this.1) this.2
 go_wp2;go_roundw;exact⟨mid+1,b1,lj,_,ap,d5,by first|rfl|go_num,rfl,rfl,rfl,rfl,ae,ae,ae,ae,ae,HD5,HH5,bk2,HL5,HG5⟩;exact bM};{
 have cp5:=dm lL rL;obtain⟨mp,emp⟩:∃x:Nat,(mid:Int)+1=(x:Int):=⟨mid+1,ae⟩;have cA5:mid+1=mp:=ae;have wmp:=fk mp;rw[cA5]at ui HL7;go_wp2_with fail;refine(aa IH (b1-mp) (aG (aa hn)) mp b1 lj d4 _ rfl HD4 HH4 (gQ jB HG4.size) ae ae y1 y2 ui).mono ?_;rintro e w5⟨rfl,d5,Jw,hP5,hS5,uo⟩;have HH5:=af Jw;have HG5:=af (aX HG4 uo);obtain⟨o1,o2⟩:=aa HL7 d5 hP5 hS5;have bk2:=af o1;have HD5:Hid (d5.size=N):=hP5.1.trans HD4;have HL5:Hid (Left a b a1 mid d d5):=λR r1 r2=>by have:=o2 R r1 r2;exact hF R (permIn_trans _ _ _ a1 b1 hP3 this.1) this.2
 go_wp2;go_roundw;exact⟨a1,mid,lj,_,ap,d5,rfl,rfl,rfl,rfl,rfl,ae,ae,ae,ae,ae,HD5,HH5,bk2,HL5,HG5⟩
 case measure=>simp[intOf];omega}}}}
end Q
namespace Q
open Go.Sort
def aE2{cap:Nat}{w:World}:Calls prog 237 #[.S none 0 cap,.I 0,.I 0] w λe w'=>e=.returned (.tuple #[])/\w'=w:=by
 go_in
 go_wp2_with fail
 go_loopw[6](λs6 wr=>s6=.I 1/\wr=w) (λ_ _=>0)
 exact⟨rfl,rfl⟩;{
 obtain⟨rfl,rfl⟩:=hrel;go_wp2
 go_end0
 exact⟨rfl,rfl⟩}
def aB2{cap:Nat}{w:World}:Calls prog 227 #[.S none 0 cap,.I 0,.I 0,.I 0] w λe w'=>e=.returned (.tuple #[])/\w'=w:=by
 go_in
 go_wp2_with fail
 go_loopw[1,2,3,8,9](λs1 s2 s3 s8 s9 wr=>s1=.I 0/\s2=.I 0/\s3=.I 0/\s8=.bool true/\s9=.bool true/\wr=w) (λ_ _ _ _ _ _=>0)
 exact⟨rfl,rfl,rfl,rfl,rfl,rfl⟩;{obtain⟨rfl,rfl,rfl,rfl,rfl,rfl⟩:=hrel;go_wp2_with fail;refine(aE2).mono ?_;rintro e w1⟨rfl,rfl⟩;go_wp2;exact dD (sS (h:=rfl) _ _ _) rfl ⟨rfl,rfl⟩}
def FE(cap:Nat)(w:World):Calls prog 204 #[.S none 0 cap] w λe w'=>e=.returned (.tuple #[])/\w'=w:=by
 have hL:=Ms (n:=0) ae;have e0:Lib.bitLen 0=0:=aZ;rw[e0]at hL
 go_in
 go_wp2_with fail;refine(hL _).mono ?_;rintro e w1⟨rfl,rfl⟩;go_wp2_with fail;refine(aB2).mono ?_;rintro e w1⟨rfl,rfl⟩;go_wp2
 go_end0
 exact⟨rfl,rfl⟩
def ZE{blk off cap N:Nat}{d:Array Int}(hN:Hid (d.size=N))(jI:N<=1048576){w:World}(h:HU w blk off d)(jB:blk<w.heap.size):Calls prog 204 #[.S (some (Ad blk off)) N cap] w λe w'=>
   e=.returned (.tuple #[])/\∃d',HU w' blk off d'/\PermIn 0 N d d'/\SortedIn ltInt 0 N d'/\w.grownBy w' (some blk):=by
 have hL:=Ms jI;have hK:Lib.bitLen N<=21:=Lib.bitLen_le N 21 ae ae;generalize Lib.bitLen N=K at hL hK;have wU:IntKind.u64.wrap (N:Int)=(N:Int):=by rw[jj];omega
 have H0:=af h;clear h
 go_in
 go_wp2_with fail;refine(hL _).mono ?_;rintro e w1⟨rfl,rfl⟩;go_wp2_with fail;refine(aB3 blk off cap N jI N 0 N K d _ (by show _=_;omega) hN H0 jB (fN _) ao ae ae (Or.inl rfl)).mono ?_;rintro e w2⟨rfl,d',hH,hP,hS,hg⟩;have HH:=af hH;have HP:=af hP;have HS:=af hS;have HG:=af hg;clear hH hP hS hg;go_wp2
 go_end0
 exact⟨rfl,d',HH,HP,HS,HG⟩
def Bx(blk off cap:Nat)(l:LI)(jI:Mg l.length)(w:World)(h:HU w blk off l.toArray)(jB:blk<w.heap.size):Cp 204 #[.S (some (Ad blk off)) l.length cap] w λe w'=>
   e=.returned (.tuple #[])/\HU w' blk off (l.mergeSort (λx y=>decide (x<=y))).toArray/\w.grownBy w' (some blk):=by
 refine(ZE (by show _=_;simp) jI h jB).mono ?_;rintro e w'⟨rfl,d',hH,hP,hS,hg⟩;refine⟨rfl,?_,hg⟩;have e:=sorted_unique_holds CE (λx y h1 h2=>by simp[ltInt]at h1 h2;omega) l.toArray d' (by simpa using hP) (by simpa using hS);have e2:(λx y:Int=>!ltInt y x)=(λx y=>decide (x<=y)):=by
  funext x y
  by_cases hh:x<=y;{rw[BN hh];simp[ltInt];omega};{rw[tX hh];simp[ltInt];omega}
 rw[e2]at e;have e3:d'=(l.mergeSort (λx y=>decide (x<=y))).toArray:=by rw[<-show d'.toList.toArray=d' from by simp,e]
 rw[<-e3];exact hH
end Q
namespace Q
open Go.Sort
def yA(n:Nat)(hn:3<=n)(g:Nat)(lb:Array Value)(eg:∀args w,(callFunc g args).run prog w=.ok (.enter g args) w)(S Sp:LI->Prop)(N:Nat)(hN:N<=1048576)(w:World)(uW:SeqStopsK Fence.wide (n-1-1) prog g lb (λx:Int=>#[fy x]) KeepsWalks S Sp N w):CallsIn Fence.wide n prog 203 #[.func (.func g) #[] lb] w λe w'=>∃(v:Value)(ss:LI),e=.returned v/\S ss/\w'.ownsRow (w.heap.size+1) 31 1 v ss.length (ss.map fy)/\(v=.S none 0 0↔ss=[])/\Bw w w':=by
 have h1:1<=n:=ae;have hfS:Fence.wide.fn 226:=jR;refine mG func203 rfl jR ?_ rfl;simp only[ntmps203,rB,Nat.reduceAdd,Nat.reduceSub]
 gi_wp2_with(gi_at_call 226;refine(tB (n-1) ae g lb eg S Sp N hN _ uW).mono ?_;rintro e w'⟨v,ss,rfl,hS,du,Jo,hb⟩)
 go_ret;exact⟨v,ss,rfl,hS,du,Jo,hb⟩
def Ug{w:World}{g:Nat}{cur:Array Value}{e:TypeId}{ss:LI}(hb:w.heap[g]?=some (.cells cur e (0,0)))(ht:cur.toList.take ss.length=ss.map fy):HU w g 0 ss.toArray:=by
 intro j hj;have hj':j<ss.length:=by simpa using hj
 refine⟨?_,by simp[World.frozen?,hb]⟩;have h1:(cur.toList.take ss.length)[j]?=(ss.map fy)[j]?:=by rw[ht]
 rw[aP2 hj']at h1;simp only[World.cell?,hb,kS];simp only[ae3,I9,Ag];rw[<-V9,h1];simp[hj',fy]
def RdK(B:Nat)(w:World)(v:Value)(ss:LI):Prop:=(v=.S none 0 0/\ss=[])\/∃g cap,v=.T g ss.length cap/\B<=g/\g<w.heap.size/\HU w g 0 ss.toArray
structure Asc{H:Type}(D0:DataW H)(ss:LI):Prop where
 lt:ss.Pairwise (·<·)
 mem:∀x,x∈ss↔has D0 (.U x)=true
 size:ss.length<=Maps.size D0
def NG{H:Type}{D0:DataW H}{ss:LI}(h:lu D0 ss):Asc D0 (ss.mergeSort (λx y=>decide (x<=y))):=by
 have hp:=List.mergeSort_perm ss (λx y=>decide (x<=y));refine⟨?_,λx=>(hp.mem_iff).trans (h.2.1 x),by rw[hp.length_eq];exact h.2.2⟩;have h1:=aP1 (le:=λx y:Int=>decide (x<=y)) (λa b c h1 h2=>by simp at*;omega) (λa b=>by simp;omega) ss;have h2:(ss.mergeSort (λx y=>decide (x<=y))).Pairwise (·≠·):=hp.nodup_iff.2 h.1;exact(h1.and h2).imp (λ{a b}⟨x,y⟩=>by simp at x;omega)
def vJ(n:Nat)(hn:4<=n)(g:Nat)(lb:Array Value)(eg:∀args w,(callFunc g args).run prog w=.ok (.enter g args) w)(S Sp:LI->Prop)(N:Nat)(hN:N<=1048576)(hS:∀ss,S ss->Mg ss.length)(w:World)(uW:SeqStopsK Fence.wide (n-1-1-1) prog g lb (λx:Int=>#[fy x]) KeepsWalks S Sp N w):CallsIn Fence.wide n prog 147 #[.func (.func g) #[] lb] w λe w'=>∃(v:Value)(ss:LI),e=.returned v/\S ss/\RdK w.heap.size w' v (ss.mergeSort (λx y=>decide (x<=y)))/\Bw w w':=by
 have h1:1<=n:=ae;have hfC:Fence.wide.fn 203:=jR;have hfS:Fence.wide.fn 204:=jR;refine mG func147 rfl jR ?_ rfl;simp only[ntmps147,rB,Nat.reduceAdd,Nat.reduceSub]
 gi_wp2_with(gi_at_call 203;refine(yA (n-1) ae g lb eg S Sp N hN _ uW).mono ?_;rintro e w'⟨v,ss,rfl,hSs,du,Jo,hb⟩)
 rcases du.2 with⟨rfl,_⟩|⟨gb,cap,cur,rfl,Aw,hgb,Hi,lK,IJ,XE⟩;{
 have e0:ss=[]:=Jo.1 rfl;subst e0
 gi_wp2_with(gi_at_call 204;refine(qG.2 (FE 0 _)).mono ?_;rintro e w2⟨rfl,rfl⟩)
 go_ret;exact⟨_,[],rfl,hSs,.inl ⟨rfl,ai⟩,hb⟩};{
 have aT:gb<w'.heap.size:=(Gq.1 hgb).1;have hH:=Ug hgb (by simpa using XE)
 gi_wp2_with(gi_at_call 204;refine(qG.2 (Bx gb 0 cap ss (hS ss hSs) _ hH aT)).mono ?_;rintro e w2⟨rfl,AZ,gi⟩)
 go_ret;refine⟨_,ss,rfl,hSs,.inr ⟨gb,cap,by rw[List.length_mergeSort];rfl,ae,gQ aT gi.size,AZ⟩,?_⟩;exact hb.grown gi hb.size (λk e=>by cases e;omega)}
theorem kH{H:Type}(b nn:Nat)(D0:DataW H){R:Value->Option (DataW H×List MemPlace)}(w:World)(bO:w.ownsMap prog 31 R b nn D0)(jI:Maps.size D0<=1048576):Cp 91 #[.map (some b)] w λe w'=>∃(v:Value)(ss:LI),e=.returned v/\Asc D0 ss/\RdK w.heap.size w' v ss/\Bw w w':=by
 refine(qG (n:=6)).1 ?_;have hfK:Fence.wide.fn 148:=jR;have hfS:Fence.wide.fn 147:=jR;have Ej:=bO.lt;have tK:(w.alloc (.cells #[.map (some b)] 132)).ownsMap prog 31 R b nn D0:=by obtain⟨es,clock,hb,Ft,hs,hD⟩:=bO;exact⟨es,clock,(Mp _ _ b Ej).trans hb,Ft,hs,hD⟩
 have uW:=Lo 2 ae w.heap.size b nn D0 (w.alloc (.cells #[.map (some b)] 132)) ai ai tK;refine mG func91 rfl jR ?_ rfl;simp only[ntmps91,rB,Nat.reduceAdd,Nat.reduceSub]
 gi_wp2_with(first
  |(gi_at_call 148;refine(Ua _ _ _).mono ?_;rintro e w'⟨rfl,rfl⟩)
  |(gi_at_call 147;refine(vJ 5 ae _ _ (λargs w=>(by kernel_rfl:(callFunc 205 args).run prog w=.ok (.enter 205 args) w)) _ _ _ jI (λss h=>dQ h.2.2 jI) _ uW).mono ?_;rintro e w'⟨v,ss,rfl,hS,II,hb⟩))
 go_ret;refine⟨v,_,rfl,NG hS,?_,((cR _ w).alloc ao _).trans (hb.mono ai)⟩;rcases II with h|⟨g,cap,h1,h2,h3,h4⟩;{exact .inl h};{exact .inr ⟨g,cap,h1,by simp at h2;omega,h3,h4⟩}
theorem sJ{H:Type}(b nn:Nat)(D0:DataW H){R:Value->Option (DataW H×List MemPlace)}(w:World)(bO:w.ownsMap prog 31 R b nn D0)(jI:Maps.size D0<=1048576):Cp 151 #[.map (some b)] w λe w'=>∃(v:Value)(ss:LI),e=.returned v/\Asc D0 ss/\RdK w.heap.size w' v ss/\Bw w w':=by
 refine(qG (n:=6)).1 ?_;have hfK:Fence.wide.fn 209:=jR;have hfS:Fence.wide.fn 147:=jR;have Ej:=bO.lt;have tK:(w.alloc (.cells #[.map (some b)] 138)).ownsMap prog 31 R b nn D0:=by obtain⟨es,clock,hb,Ft,hs,hD⟩:=bO;exact⟨es,clock,(Mp _ _ b Ej).trans hb,Ft,hs,hD⟩
 have uW:=az2 (n:=2) ae (Bm:=w.heap.size) ai ai tK;refine mG func151 rfl jR ?_ rfl;simp only[ntmps151,rB,Nat.reduceAdd,Nat.reduceSub]
 gi_wp2_with(first
  |(gi_at_call 209;refine(aY5).mono ?_;rintro e w'⟨rfl,rfl⟩)
  |(gi_at_call 147;refine(vJ 5 ae _ _ (λargs w=>(by kernel_rfl:(callFunc 231 args).run prog w=.ok (.enter 231 args) w)) _ _ _ jI (λss h=>dQ h.2.2 jI) _ uW).mono ?_;rintro e w'⟨v,ss,rfl,hS,II,hb⟩))
 go_ret;refine⟨v,_,rfl,NG hS,?_,((cR _ w).alloc ao _).trans (hb.mono ai)⟩;rcases II with h|⟨g,cap,h1,h2,h3,h4⟩;{exact .inl h};{exact .inr ⟨g,cap,h1,by simp at h2;omega,h3,h4⟩}
end Q
section
variable {P:Program}(w:World){ops:Array Oper}{rest:List Oper}{o:Oper}{a:Act}{Q:Exit->Act->World->Prop}
def qB(hg:o.guard=none)(m x:Operand)(t:TypeId)(Jn:o.op=Op.lookup t m x true)(k e:TypeId)(K:Keyed P k)(ht:P.underlying t=some (.map k e))(hz:(zeroValue e).run P w=.ok (.pointer none) w)(b n:Nat)(D:DataW Unit)(l:List (Lit×Nat))(hM:gP D l)(hm:a.eval m=.map (some b))(bO:w.ownsMap P k aV b n D)(key:Value)(p:Lit×Nat)(hp:p∈l)(hx:a.eval x=key)(cQ:keyOf P k key=some p.1)(hK:wpList P ops Q rest (a.put o.dst (.tuple #[.pointer (some (Ad p.2 0)),.bool true])) w):wpList P ops Q (o::rest) a w:=
 wpList_lookup_own_ok w hg m x t Jn k e K ht aV hz .nil [] rfl b n D hm bO key p.1 hx cQ (λv ps hv=>by rw[hM.at' p hp]at hv;obtain rfl:=kn hv;rw[(hM.hs p.1).2 ⟨p,hp,rfl⟩];exact hK)
def xz(hg:o.guard=none)(m x:Operand)(t:TypeId)(Jn:o.op=Op.lookup t m x true)(k e:TypeId)(K:Keyed P k)(ht:P.underlying t=some (.map k e))(hz:(zeroValue e).run P w=.ok (.pointer none) w)(b n:Nat)(D:DataW Unit)(l:List (Lit×Nat))(hM:gP D l)(hm:a.eval m=.map (some b))(bO:w.ownsMap P k aV b n D)(key:Value)(kl:Lit)(l9:∀p∈l,p.1≠kl)(hx:a.eval x=key)(cQ:keyOf P k key=some kl)(hK:wpList P ops Q rest (a.put o.dst (.tuple #[.pointer none,.bool false])) w):wpList P ops Q (o::rest) a w:=
 wpList_lookup_own_ok w hg m x t Jn k e K ht aV hz .nil [] rfl b n D hm bO key kl hx cQ (λv ps hv=>by
  have hh:Maps.has D kl=false:=by rw[DY];intro h;obtain⟨p,hp,e⟩:=(hM.hs kl).1 h;exact l9 p hp e
  rw[Maps.atKey_of_not_has hh]at hv;obtain rfl:=uI hv;rw[hh];exact hK)
end
def oG(w:World):(zeroValue 137).run prog w=.ok (.pointer none) w:=by kernel_rfl
def vP(h:iq ns l=some nd):nd.path=l/\∃i:Nat,ns[i]?=some nd:=by
 have h1:=Qj h;have h2:=VX h;exact⟨by simpa using h1,Cc h2⟩
def J4(h:iq ns l=none):∀nd∈ns,nd.path≠l:=by
 intro nd bj e;have:=Qi.1 h nd bj;simp[e]at this
theorem Rv{SB NB HB UB:List Nat}(l:LI)(w:World)(cX:Hid (mw w0 w b bs bn e g x t ss ns SB NB HB UB))(hB:Hid (aN l))(xr:Hid (∀nd∈ns,aN nd.path))(hl:l.length<=1048577)(B:Bool)(eB:Hid (dU ns l=B)):Calls prog 160 #[.pointer (some (Ad b 0)),.string (aO l)] w (Rb (.bool B) w):=by
 have Dz:w.cell? (Ad b 5)=some (.map (some bn)):=aq cX.hd 5;obtain⟨D,oD,mD⟩:=cX.qj.own;have cQ:keyOf prog 9 (.string (aO l))=some (cL l):=by rw[WideMaps.keyOf_string_mk underlying9 (by rw[ik];unfold maxLen;omega),oR]
 have OD:=af oD;have MD:=af mD;have NR:=af cQ;have kY:((aO l).toList==(aO [47]).toList)=decide (l=[47]):=qN (aa hB) (by intro y hy;simp at hy;omega);rw[show(aO [47]).toList=[47]from fI [47]]at kY;clear oD mD cQ;obtain⟨s,es⟩:=az (aO l);rw[<-es]at kY NR⊢;clear es;by_cases qm:l=[47];{
 have eT:B=true:=by rw[<-aa eB,dU,bN qm]
 subst eT;have hr:(s.toList==[47])=true:=by rw[kY];simp[qm]
 clear kY qm
 go_in
 go_wp2;go_ret;exact⟨rfl,cR _ _⟩};{
 have hr:(s.toList==[47])=false:=by rw[kY];simp[qm]
 have iY:(match iq ns l with|some nd=>nd.owner==0|none=>false)=B:=by rw[<-aa eB,dU,bG qm];rfl
 clear kY qm;cases hF:iq ns l with
 | none=>
  rw[hF]at iY;have eF:B=false:=iY.symm;subst eF;have l9:Hid (∀p∈List.zipWith (λ(nd:aC)g=>(cL nd.path,g)) ns NB,p.1≠cL l):=by intro p hp;obtain⟨i,nd,y,hx,hy,rfl⟩:=gR hp;intro ee;have hm:=aY hx;exact J4 hF nd hm (mH (aa xr nd hm) hB ee)
  clear hF iY
  go_in
  go_wp2_with(first
   |(at_lookup;refine xz _ rfl _ _ 133 rfl 9 _ oe underlying133 (oG _) bn _ D _ MD rfl OD _ (cL l) l9 rfl NR ?_)
   |go_in)
  go_ret;exact⟨rfl,cR _ _⟩
 | some nd=>
  rw[hF]at iY;replace iY:(nd.owner==0)=B:=iY;obtain⟨hp,i,hi⟩:=vP hF;obtain⟨g1,h1,u1,q1,q2,q3⟩:=cX.qj.at hi;obtain⟨_,_,_,⟨V,a4,_⟩,_,_⟩:=cX.qj.blk i nd g1 h1 u1 hi q1 q2 q3;have hcO:w.cell? (Ad g1 1)=some (.U nd.owner):=aq a4 1;have jl:Hid ((cL l,g1)∈List.zipWith (λ(nd:aC)g=>(cL nd.path,g)) ns NB):=by show _∈_;rw[gH];refine⟨i,?_⟩;rw[nw,hi,q1];show some (cL nd.path,g1)=some (cL l,g1);rw[hp]
  obtain⟨ow,Y9⟩:=aI nd.owner;rw[Y9]at hcO iY;clear hF hp hi q1 q2 q3 a4 Y9;cases B with
  | true=>
   have ho:ow=0:=by simpa using iY
   subst ho;clear iY
   go_in
   go_wp2_with(first
    |(at_lookup;refine qB _ rfl _ _ 133 rfl 9 _ oe underlying133 (oG _) bn _ D _ MD rfl OD _ (cL l,g1) jl rfl NR ?_)
    |go_in)
   go_ret;exact⟨rfl,cR _ _⟩
  | false=>
   have ho:(ow==0)=false:=iY;clear iY
   go_in
   go_wp2_with(first
    |(at_lookup;refine qB _ rfl _ _ 133 rfl 9 _ oe underlying133 (oG _) bn _ D _ MD rfl OD _ (cL l,g1) jl rfl NR ?_)
    |go_in)
   go_ret;exact⟨rfl,cR _ _⟩}
def Dj(e g x t:Int)(n m:Nat):Bool:=decide (e<=4611686018427387904/\g<=4611686018427387904/\x<=4611686018427387904/\0<=t/\t<=1000000/\n<=50/\m<=200)
def TM{p q:OA}{c n d m:Nat}{w:World}(hn:Mg n)(hm:Mg m)(eB:Hid (Dj e g x t n m=B)):Calls prog 95 #[ft e g x t (.S p n c) (.S q m d)] w (Rb (.bool B) w):=by
 go_in
 go_wp2_with fail
 all_goals(
  go_ret;refine⟨?_,au.alloc ao _⟩;rw[<-aa eB];simp only[Dj,ad0,af5])
 all_goals first|(simp_all;done)|(simp_all;omega)|(show Value.bool (decide ((m:Int)<=200))=Value.bool _;congr 1;rw[GF,pL,pL];omega)|skip
def IQ{e g ow mo ep ge:Int}{P V U:Value}{c n:Nat}{w:World}(hn:Mg n)(eB:Hid (fe e g mo n ep ge=B)):Calls prog 213 #[ndV P V ow mo (.S p n c) ep ge U,.U e,.U g] w (Rb (.bool B) w):=by
 go_in
 go_wp2_with fail
 all_goals(
  go_ret;refine⟨?_,au.alloc ao _⟩;rw[<-aa eB];simp only[fe,ad0,af5])
 all_goals first|(simp_all;done)|(simp_all;omega)|skip
def RH(l:LI):Bool:=kq l.length (λi j=>decide (l.getD i 0<l.getD j 0))
def vY(e g:Int)(nd:aC):Bool:=vp nd.path&&(decide (nd.value.length<=40)&&(fe e g nd.mode nd.holders.length nd.aJ nd.gen&&(RH nd.holders&&RH nd.watchers)))
theorem Oy{S N:Value}{pp vq hp up:OA}{pc pn vc vn hc hh uc un:Nat}(Nk:Hid (nd.path.length=pn))(eVn:Hid (nd.value.length=vn))(UK:Hid (nd.holders.length=hh))(Ye:Hid (nd.watchers.length=un)){w:World}(h0:Rd w (.S pp pn pc) nd.path)(h4:rD w (.S hp hh hc) nd.holders)(h7:rD w (.S up un uc) nd.watchers)(hBP:Hid (aN nd.path))(XF:pn<=1048576)(hvn:vn<=1048576)(YX:hh<=1048576)(YQ:un<=1048576)(Eh:tQ (.S pp pn pc))(Ek:ML w)(eB:Hid (vY e g nd=B)):Calls prog 156 #[ndV (.S pp pn pc) (.S vq vn vc) nd.owner nd.mode (.S hp hh hc) nd.aJ nd.gen (.S up un uc),ft e g x t S N] w (Rb (.bool B) w):=by
 obtain⟨iW,ku⟩:=Eh.of;obtain⟨ow,mo,ep,ge,e1,e2,e3,e4⟩:∃a b c d,nd.owner=a/\nd.mode=b/\nd.aJ=c/\nd.gen=d:=⟨_,_,_,_,rfl,rfl,rfl,rfl⟩
 rw[e1,e2,e3,e4];have HR:=af λ(w':World)(hb:Bw w w')=>ah (h0.below hb) (ah (h4.below hb) (ah (h7.below hb) (Ek.below hb)));obtain⟨T1,E1⟩:∃T,Hid (vp nd.path=T):=⟨_,bq⟩;obtain⟨T3,E3⟩:∃T,Hid (fe e g mo hh ep ge=T):=⟨_,bq⟩;obtain⟨T4,E4⟩:∃T,Hid (kq hh (λi j=>decide (nd.holders.getD i 0<nd.holders.getD j 0))=T):=⟨_,bq⟩;obtain⟨T5,E5⟩:∃T,Hid (kq un (λi j=>decide (nd.watchers.getD i 0<nd.watchers.getD j 0))=T):=⟨_,bq⟩;have hB:B=(T1&&(decide (vn<=40)&&(T3&&(T4&&T5)))):=by rw[<-aa eB,vY,RH,RH,e2,e3,e4,aa eVn,aa UK,aa Ye,aa E1,aa E3,aa E4,aa E5]
 have HB:=af hB;clear h0 h4 h7 Ek hB eB e1 e2 e3 e4 Eh;obtain⟨W,hW⟩:=az ((w.alloc (.cells #[.S pp pn pc,.S vq vn vc,.U ow,.I mo,.S hp hh hc,.U ep,.U ge,.S up un uc] 119)).alloc (.cells #[.U e,.U g,.U x,.I t,S,N] 35));have bW:Bw w W:=hW▸(au.alloc ao _).alloc ai _;have k0:W.cell? (Ad w.heap.size 0)=some (.S pp pn pc):=by rw[hW];simp
 have k1:W.cell? (Ad w.heap.size 1)=some (.S vq vn vc):=by rw[hW];simp
 have k2:W.cell? (Ad w.heap.size 2)=some (.U ow):=by rw[hW];simp
 have k3:W.cell? (Ad w.heap.size 3)=some (.I mo):=by rw[hW];simp
 have k4:W.cell? (Ad w.heap.size 4)=some (.S hp hh hc):=by rw[hW];simp
 have k5:W.cell? (Ad w.heap.size 5)=some (.U ep):=by rw[hW];simp
 have k6:W.cell? (Ad w.heap.size 6)=some (.U ge):=by rw[hW];simp
 have k7:W.cell? (Ad w.heap.size 7)=some (.S up un uc):=by rw[hW];simp
 have k8:W.cell? (Ad (w.heap.size+1) 0)=some (.U e):=by rw[hW];simp
 have k9:W.cell? (Ad (w.heap.size+1) 1)=some (.U g):=by rw[hW];simp
 go_in
 go_wp2_with fail;rw[<-hW];clear hW;refine(ai3 Nk (aa HR _ bW).1 hBP XF iW ku (aa HR _ bW).2.2.2 E1).mono ?_;rintro r w1⟨rfl,aA⟩;have b1:=aj bW aA;cases T1 with
 |false=>
  have eF:B=false:=by rw[aa HB];rfl
  subst eF;clear k0 k1 k2 k3 k4 k5 k6 k7 k8 k9;go_wp2;go_ret;exact⟨rfl,b1⟩
 |true=>
  replace k0:=ag k0 aA;replace k1:=ag k1 aA;replace k2:=ag k2 aA;replace k3:=ag k3 aA;replace k4:=ag k4 aA;replace k5:=ag k5 aA;replace k6:=ag k6 aA;replace k7:=ag k7 aA;replace k8:=ag k8 aA;replace k9:=ag k9 aA;clear aA bW;by_cases hv:(vn:Int)<=40;{
 have Bf:Hid (B=(T3&&(T4&&T5))):=by
  show _=_;rw[aa HB,show decide (vn<=40)=true by(rw[pL];omega)]
  rfl
 clear HB;go_wp2_with fail;refine(IQ YX E3).mono ?_;rintro r w2⟨rfl,aD⟩;have b2:=aj b1 aD;cases T3 with
 |false=>
  have eF:B=false:=by rw[aa Bf];rfl
  subst eF;clear k0 k1 k2 k3 k4 k5 k6 k7 k8 k9;go_wp2;go_ret;exact⟨rfl,b2⟩
 | true=>
  replace k4:=ag k4 aD;replace k7:=ag k7 aD;clear k0 k1 k2 k3 k5 k6 k8 k9 aD;go_wp2_with fail;refine(RG UK (aa HR _ b2).2.1 YX E4).mono ?_;rintro r w3⟨rfl,aL⟩;have b3:=aj b2 aL;cases T4 with
  |false=>
   have eF:B=false:=by rw[aa Bf];rfl
   subst eF;clear k4 k7;go_wp2;go_ret;exact⟨rfl,b3⟩
  |true=>
   have eT:B=T5:=by rw[aa Bf];rfl
   subst eT;replace k7:=ag k7 aL;clear k4 aL;go_wp2_with fail;refine(RG Ye (aa HR _ b3).2.2.1 YQ E5).mono ?_;rintro r w4⟨rfl,dS⟩;have b4:=aj b3 dS;clear k7;go_wp2;go_ret;exact⟨rfl,b4⟩};{
 have eF:B=false:=by rw[aa HB,show decide (vn<=40)=false by(rw[xL];omega)];rfl
 subst eF;clear k2 k3 k4 k5 k6 k7 k8 k9;go_wp2;go_ret;exact⟨rfl,b1⟩}
def lW(x:Int)(ss:List aP):Bool:=(List.range ss.length).all (λi=>FL x (ss.getD i (0,0,[])))&&kq ss.length (λi j=>decide ((ss.getD i (0,0,[])).1<(ss.getD j (0,0,[])).1))
def kO(e g:Int)(ns:List aC):Bool:=(List.range ns.length).all (λi=>vY e g (ns.getD i gu))&&kq ns.length (λi j=>!leB (ns.getD j gu).path (ns.getD i gu).path)
theorem yS{c n:Nat}{N:Value}(en:Hid (ss.length=n)){w:World}(h:mg w (.S p n c) ss)(hn:Mg n)(mj:Hid (∀s∈ss,s.2.2.length<=0/\∀e∈s.2.2,aN e.2/\e.2.length<=1048576))(Ek:ML w)(eB:Hid (lW x ss=B)):Calls prog 96 #[ft e g x t (.S p n c) N] w (Rb (.bool B) w):=by
 have HR:=af λ(w':World)(hb:Bw w w')=>ah (h.below hb) (Ek.below hb);obtain⟨T2,E2⟩:∃T,Hid (kq n (λi j=>decide ((ss.getD i (0,0,[])).1<(ss.getD j (0,0,[])).1))=T):=⟨_,bq⟩;have HB:Hid (B=((List.range n).all (λi=>FL x (ss.getD i (0,0,[])))&&T2)):=by show _=_;rw[<-aa eB,lW,aa en,aa E2]
 go_in
 go_wp2_with fail;obtain⟨W,hW⟩:=az (w.alloc (.cells #[.U e,.U g,.U x,.I t,.S p n c,N] 35));have bW:=ew hW;have ku:W.cell? (Ad w.heap.size 2)=some (.U x):=by rw[hW];simp
 have Og:W.cell? (Ad w.heap.size 4)=some (.S p n c):=by rw[hW];simp
 rw[<-hW];have BW:=af bW;have SQ:=af (ah ku Og)
 go_loopw[8](λiv wr=>∃k:Nat,k<=n/\iv=.I k/\Hid ((List.range k).all (λi=>FL x (ss.getD i (0,0,[])))=true)/\Bw W wr) (λiv _=>n-(intOf iv).toNat)
 exact⟨0,fN _,rfl,bq,cR _ _⟩;{
 obtain⟨k,hk,rfl,iV,aK⟩:=hrel;have BB:=aj BW aK;have i2:=ag SQ.1 aK;have i4:=ag SQ.2 aK;by_cases aT:k<n;{
 have bu:=aS k n;have fh:k<ss.length:=aa en▸aT;obtain⟨⟨I,D,Q⟩,hy⟩:=mR fh;have hyD:ss.getD k (0,0,[])=(I,D,Q):=by rw[gK,hy];rfl
 obtain⟨b,o,rfl,hcI,hcD,u,hcQ,hrQ⟩:∃b o,p=some (Ad b o)/\wr.cell? (Ad b (o+k*3))=some (.U I)/\wr.cell? (Ad b (o+k*3+1))=some (.I D)/\∃u,wr.cell? (Ad b (o+k*3+2))=some u/\rE wr u Q:=by obtain⟨p',c',ev,hd⟩:=(aa HR _ BB).1;obtain⟨rfl,-,-⟩:=js ev;rcases hd with h0|⟨b,o,h1,h2⟩;{rw[h0]at fh;simp at fh};{exact⟨b,o,h1,h2 k _ hy⟩}
 obtain⟨hQl,hQb⟩:=aa mj _ (aY hy);obtain⟨pq,cq,rfl,-⟩:=id hrQ;obtain⟨m,em⟩:=aI Q.length;rw[em]at hrQ hcQ;have hm:m<=0:=em▸hQl;have EM:=af em;have HBQ:Hid (∀e∈Q,aN e.2/\e.2.length<=1048576):=hQb;obtain⟨V,eV⟩:=aI (FL x (I,D,Q));have EV:=af eV;have HF:Hid (V=false->B=false):=λh=>by rw[aa HB,gJ aT (by rw[hyD,eV];exact h)];rfl
 have HT:Hid (V=true->Hid ((List.range (k+1)).all (λi=>FL x (ss.getD i (0,0,[])))=true)):=λh=>dX (aa iV) (by rw[hyD,eV];exact h);have b2:Bw wr ((wr.alloc (.cells #[.U I,.I D,.S pq m cq] 84))):=au.alloc ao _;have HRQ:=af (hrQ.below b2);have HML:=af ((aa HR _ BB).2.below b2);have j2:=ag i2 b2;go_wp2_with fail;refine(LD EM (by exact HRQ) hm HBQ (by exact HML) EV).mono ?_;rintro r w2⟨rfl,aD⟩;have b3:=aj aK (aj b2 aD);have B3:=aj BW b3;cases V with
 |false=>
  have eF:=aa HF rfl;subst eF;go_wp2;go_ret;exact⟨rfl,B3⟩
 |true=>
  have vz:=aa HT rfl;go_wp2;go_roundw;exact⟨k+1,ae,by go_num,vz,b3⟩;exact bM};{
 have bu:=dm k n;have yx:k=n:=ae;have eT:B=T2:=by rw[aa HB,show(List.range n).all (λi=>FL x (ss.getD i (0,0,[])))=true from yx▸aa iV,pM]
 subst eT;go_wp2_with fail;refine(as7 en (aa HR _ BB).1.rd hn E2).mono ?_;rintro r w2⟨rfl,aD⟩;have b3:=aj BB aD;go_wp2;go_ret;exact⟨rfl,b3⟩}}
theorem Fo{S:Value}{q:OA}{d:Nat}(em:Hid (ns.length=m)){w:World}(h:oU w (.S q m d) ns)(hm:Mg m)(gq:Hid (∀nd∈ns,aN nd.path/\nd.path.length<=1048576/\nd.value.length<=1048576/\nd.holders.length<=1048576/\nd.watchers.length<=1048576))(Ek:ML w)(eB:Hid (kO e g ns=B)):Calls prog 97 #[ft e g x t S (.S q m d)] w (Rb (.bool B) w):=by
 have HR:=af λ(w':World)(hb:Bw w w')=>ah (h.below hb) (Ek.below hb);obtain⟨T2,E2⟩:∃T,Hid (kq m (λi j=>!leB (ns.getD j gu).path (ns.getD i gu).path)=T):=⟨_,bq⟩;have HB:Hid (B=((List.range m).all (λi=>vY e g (ns.getD i gu))&&T2)):=by show _=_;rw[<-aa eB,kO,aa em,aa E2]
 go_in
 go_wp2_with fail;obtain⟨W,hW⟩:=az (w.alloc (.cells #[.U e,.U g,.U x,.I t,S,.S q m d] 35));have bW:=ew hW;have yh:jO W w.heap.size e g x t S (.S q m d):=by rw[hW];simp[jO]
 rw[<-hW];have BW:=af bW;have YF:=af yh
 go_loopw[8](λiv wr=>∃k:Nat,k<=m/\iv=.I k/\Hid ((List.range k).all (λi=>vY e g (ns.getD i gu))=true)/\Bw W wr) (λiv _=>m-(intOf iv).toNat)
 exact⟨0,fN _,rfl,bq,cR _ _⟩;{
 obtain⟨k,hk,rfl,iV,aK⟩:=hrel;have BB:=aj BW aK;obtain⟨i0,i1,i2,i3,i4,i5⟩:=YF.below aK;by_cases aT:k<m;{
 have bu:=aS k m;have fh:k<ns.length:=aa em▸aT;obtain⟨nd,hy⟩:=mR fh;have hyD:ns.getD k gu=nd:=by rw[gK,hy];rfl
 obtain⟨b,o,rfl,hA⟩:=(aa HR _ BB).1.at ae;obtain⟨P,V,H,U,bj⟩:=hA k nd hy;obtain⟨Cq,iY,hB3,hB4,hB5⟩:=aa gq _ (aY hy);obtain⟨pp,pc,pn,rfl,Nk⟩:=bj.r0.iK;obtain⟨vp',vc,vn,rfl,eVn⟩:=bj.r1.iK;obtain⟨hp,hc,hh,rfl,UK⟩:=bj.r4.iK;obtain⟨up,uc,un,rfl,Ye⟩:=bj.r7.iK;have XF:pn<=1048576:=aa Nk▸iY;have hvn:vn<=1048576:=aa eVn▸hB3;have YX:hh<=1048576:=aa UK▸hB4;have YQ:un<=1048576:=aa Ye▸hB5;have HBP:Hid (aN nd.path):=Cq;obtain⟨T,eV⟩:=aI (vY e g nd);have EV:=af eV;have HF:Hid (T=false->B=false):=λh=>by rw[aa HB,gJ aT (by rw[hyD,eV];exact h)];rfl
 have HT:Hid (T=true->Hid ((List.range (k+1)).all (λi=>vY e g (ns.getD i gu))=true)):=λh=>dX (aa iV) (by rw[hyD,eV];exact h);have b2:Bw wr (wr.alloc (.cells #[.S pp pn pc,.S vp' vn vc,.U nd.owner,.I nd.mode,.S hp hh hc,.U nd.aJ,.U nd.gen,.S up un uc] 119)):=au.alloc ao _;have HND:=af (bj.below b2);have HML:=af ((aa HR _ BB).2.below b2);obtain⟨c0,c1,c2,c3,c4,c5,c6,c7,-,-,-,-,-⟩:=bj;have j0:=ag i0 b2;have j1:=ag i1 b2;have j2:=ag i2 b2;have j3:=ag i3 b2;have j4:=ag i4 b2;have j5:=ag i5 b2;go_wp2_with fail;refine(Oy Nk eVn UK Ye (by exact HND.r0) (by exact HND.r4) (by exact HND.r7) HBP XF hvn YX YQ HND.k0 (by exact HML) EV).mono ?_;rintro r w2⟨rfl,aD⟩;have b3:=aj aK (aj b2 aD);have B3:=aj BW b3;cases T with
 |false=>
  have eF:=aa HF rfl;subst eF;go_wp2;go_ret;exact⟨rfl,B3⟩
 |true=>
  have vz:=aa HT rfl;go_wp2;go_roundw;exact⟨k+1,ae,by go_num,vz,b3⟩;exact bM};{
 have bu:=dm k m;have yx:k=m:=ae;have eT:B=T2:=by rw[aa HB,show(List.range m).all (λi=>vY e g (ns.getD i gu))=true from yx▸aa iV,pM]
 subst eT;go_wp2_with fail;refine(as8 em (aa HR _ BB).1 hm E2).mono ?_;rintro r w2⟨rfl,aD⟩;have b3:=aj BB aD;go_wp2;go_ret;exact⟨rfl,b3⟩}}
def aE1:∀(key:Value)(kl:Lit),keyOf prog 9 key=some kl->∃s:ByteArray,key=.string s:=by
 intro key kl hk;cases key<;>simp[keyOf,underlying9,mapKey]at hk
 exact⟨_,rfl⟩
def QI(h:keyOf prog 9 (.string s)=some (cL l)):s=aO l:=by
 simp[keyOf,underlying9,mapKey]at h;exact ag8 h.2
def sw{m:LI}(hl:aN l)(hm:aN m):(cL l).sameKey (cL m)=decide (l=m):=by
 rw[GF,VN (by trivial),pL];exact⟨λh=>mH hl hm h,λh=>by rw[h]⟩
theorem Uu{SB NB HB UB:List Nat}{w:World}(cX:Hid (mw w0 w b bs bn e g x t ss ns SB NB HB UB))(xr:Hid (∀nd∈ns,aN nd.path/\nd.path.length<=1048576))(eB:Hid (ns.all (λnd=>dU ns (fg nd.path))=B)):Calls prog 98 #[.pointer (some (Ad b 0))] w (Rb (.bool B) w):=by
 have Dz:w.cell? (Ad b 5)=some (.map (some bn)):=aq cX.hd 5;obtain⟨D,oD,mD⟩:=cX.qj.own;obtain⟨m,em⟩:=aI ns.length;rw[em]at oD;have cu2:Hid (∀nd∈ns,aN nd.path):=λnd h=>(aa xr nd h).1;have MD:=af mD
 go_in
 go_wp2_with(first
  |(at_range;refine wpList_range_own _ rfl _ 133 rfl 9 _ oe underlying133 _ bn m _ rfl oD ?_;intro w1 mP Ed Kz)
  |go_in)
 go_frame
 go_loopw[3](λ_ wr=>∃(left:Lit->Bool)(jD:Nat),wr.ranges prog 9 aV bn w.heap.size m D left jD/\Hid (∀nd∈ns,left (cL nd.path)=false->dU ns (fg nd.path)=true)/\Bw w wr) (λ_ wr=>wr.rangeLeft bn w.heap.size)
 case atStart=>(
 refine⟨_,_,mP,λnd bj hl=>?_,qJ Ed⟩;exfalso;obtain⟨i,hi⟩:=Cc bj;obtain⟨g1,h1,u1,q1,q2,q3⟩:=cX.qj.at hi;have:Maps.has D (cL nd.path)=true:=(MD.hs _).2 ⟨(cL nd.path,g1),by rw[gH];refine⟨i,?_⟩;rw[nw,hi,q1],rfl⟩
 rw[this]at hl;cases hl)
 case round=>(
 obtain⟨left,jD,jN,iV,aK⟩:=hrel;have qz:=af (cX.below aK);go_wp2_with(first
  |(at_next;refine fK _ rfl _ rfl 9 oe (λs:ByteArray=>.string s) aE1 bn w.heap.size m _ _ MD _ _ rfl jN ?_ ?_)
  |go_in)
 {
 intro _ yb;have eT:B=true:=by rw[<-aa eB,jy];exactλnd bj=>aa iV nd bj (yb _)
 subst eT;go_wp2;go_ret;exact⟨rfl,aK⟩};{
 intro s pl g1 w2 ud cQ hp hlp tf aT gx ij Ef;obtain⟨i,nd,g1',hi,Jr,ee⟩:=gR hp;simp only[fQ]at ee;obtain⟨rfl,rfl⟩:=ee;have aD:Bw w w2:=cO aK gx aK.size (λj hj=>by cases hj;exact iP _);obtain rfl:=QI cQ;have bj:=aY hi;obtain⟨Cq,iY⟩:=aa xr nd bj;obtain⟨T,eT⟩:=aI (dU ns (fg nd.path));have ET:=af eT;have HF:Hid (T=false->B=false):=λh=>by rw[<-aa eB,Qv];exact⟨nd,bj,by rw[eT,h];simp⟩
 have HT:Hid (T=true->Hid (∀nd'∈ns,(λz=>left z&&!z.sameKey (cL nd.path)) (cL nd'.path)=false->dU ns (fg nd'.path)=true)):=λh nd' aF3 hl=>by simp only[sw (aa xr nd' aF3).1 Cq]at hl;by_cases ep:nd'.path=nd.path;{rw[ep,eT,h]};{simp[ep]at hl;exact iV nd' aF3 hl}
 have nO:Hid (aN nd.path):=Cq;have vD:=af (sa Cq);have rK:(fg nd.path).length<=1048577:=by unfold fg;split;{simp};{rw[od];omega}
 have aL6:=af (cX.below aD);have XL:(Instr.entry (.pointer (some (Ad w.heap.size 0)))).run prog w2=.ok (.tuple #[.string (aO nd.path),.pointer (some (Ad g1 0))]) w2:=Ef;go_wp2_with fail;refine(sQ bq nO iY).mono ?_;rintro r w3⟨rfl,rfl⟩;go_wp2_with fail;refine(Rv (fg nd.path) _ aL6 vD cu2 rK T ET).mono ?_;rintro r w4⟨rfl,dS⟩;have b4:=aj aD dS;cases T with
 |false=>
  have eF:=aa HF rfl;subst eF;go_wp2;go_ret;exact⟨rfl,b4⟩
 |true=>
  have vz:=aa HT rfl;have Hh:=tf.kept (aB dS none) ai ai;go_wp2;go_roundw;exact⟨_,ud,Hh,vz,b4⟩
  case measure=>rw[Hh.left_eq,jN.left_eq];exact aT})
def xx(nd:aC)(i:Int):Prop:=(nd.owner≠0/\i=nd.owner)\/i∈nd.holders\/i∈nd.watchers
def dH.del{s:LI}(h:dH D s)(i:Int):dH (D.del (.U i)) (s.filter λj=>decide (j≠i)):=by
 intro k';by_cases e:k'=.U i;{subst e;rw[Maps.has_del_same];simp};{rw[Maps.has_del_other e,h k'];constructor;{rintro⟨j,hj,rfl⟩;refine⟨j,?_,rfl⟩;rw[Kh];exact⟨hj,by simpa using λhh=>e (by rw[hh])⟩};{rintro⟨j,hj,rfl⟩;exact⟨j,(Kh.1 hj).1,rfl⟩}}
def aY7:∀(key:Value)(kl:Lit),keyOf prog 31 key=some kl->∃i:Int,key=.U i:=by
 intro key kl hk;obtain⟨x,rfl,_⟩:=keyOf_int_inv underlying31 hk;exact⟨x,rfl⟩
def uh.uniq{w0 w:World}{NB HB UB:List Nat}(h:uh w0 w bn ns NB HB UB){nd':aC}(hi:ns[i]?=some nd)(hj:ns[j]?=some nd')(hp:nd.path=nd'.path):nd=nd':=by
 obtain⟨D,_,mD⟩:=h.own;obtain⟨g1,_,_,q1,_,_⟩:=h.at hi;obtain⟨g2,_,_,q2,_,_⟩:=h.at hj;have m1:(cL nd.path,g1)∈List.zipWith (λ(nd:aC)g=>(cL nd.path,g)) ns NB:=by rw[gH];exact⟨i,by rw[nw,hi,q1]⟩
 have m2:(cL nd'.path,g2)∈List.zipWith (λ(nd:aC)g=>(cL nd.path,g)) ns NB:=by rw[gH];exact⟨j,by rw[nw,hj,q2]⟩
 have e1:=mD.at' _ m1 .nil;have e2:=mD.at' _ m2 .nil;simp only[hp]at e1;simp only at e2;rw[e1]at e2;simp only[DataW.lit.injEq,CN,Mm,Int.natCast_inj]at e2;subst e2;have l1:=(bf.1 q1).1;have l2:=(bf.1 q2).1;have Oe:=Jf.1 h.qj;have v1:=(bf.1 q1).2;have v2:=(bf.1 q2).2;have:i=j:=by rcases GN i j with hh|hh|hh;{exact absurd (v1.trans v2.symm) (Oe i j l1 l2 hh)};{exact hh};{exact absurd (v2.trans v1.symm) (Oe j i l2 l1 hh)}
 subst this;rw[hi]at hj;cases hj
 rfl
theorem IS{SB NB HB UB:List Nat}{w:World}(cX:Hid (mw w0 w b bs bn e g x t ss ns SB NB HB UB))(xr:Hid (∀nd∈ns,aN nd.path/\nd.holders.length<=1048576/\nd.watchers.length<=1048576))(QT:Hid (∀nd∈ns,0<=nd.owner/\nd.owner<18446744073709551616))(em:Hid (ns.length=m))(hm:Mg m){n:Nat}(en:Hid (ss.length=n)):Calls prog 99 #[.pointer (some (Ad b 0))] w λr w'=>∃nb k D s,r=.returned (.map (some nb))/\w'.ownsMap prog 31 unitElem nb k D/\dH D s/\(∀i,i∈s↔(∃nd∈ns,xx nd i)/\¬∃z∈ss,z.1=i)/\Bw w w':=by
 have Dz:w.cell? (Ad b 5)=some (.map (some bn)):=aq cX.hd 5;have Og:w.cell? (Ad b 4)=some (.map (some bs)):=aq cX.hd 4;have Ej:b<w.heap.size:=aQ cX.hd;obtain⟨D,oD,mD⟩:=cX.qj.own;obtain⟨Ds,oS,mS⟩:=cX.Tv.own;rw[aa em]at oD;rw[aa en]at oS;have MD:=af mD;have MS:=af mS;have OS:=af oS;have HC4:=af Og;have hmm:=@VO prog;have b1:Bw w (w.alloc (.map #[] 0)):=au.alloc ao _;have dK0:=ag Dz b1;have oD1:=oD.alloc (.map #[] 0)
 go_in
 go_wp2_with(first
  |(at_range;refine wpList_range_own _ rfl _ 133 rfl 9 _ oe underlying133 _ bn m _ rfl oD1 ?_;intro w1 mP Ed Kz)
  |go_in)
 go_frame
 have iU:(w.alloc (.map #[] 0)).heap.size=w.heap.size+1:=ai;have aA:Bw w w1:=aj b1 (qJ Ed);have o0:w1.ownsMap prog 31 (unitElem (H:=Unit)) w.heap.size 0 (.map []):=(World.ownsMap_made w _ _ _).kept Ed ai;rw[iU]at mP⊢;have HZ1:=af iU
 go_loopw[5](λ_ wr=>∃(left:Lit->Bool)(jD k:Nat)(E:DataW Unit)(s:LI),wr.ranges prog 9 aV bn (w.heap.size+1) m D left jD/\k+jD*2097153<=m*2097153/\wr.ownsMap prog 31 unitElem w.heap.size k E/\Hid (dH E s/\∀i,i∈s↔∃nd∈ns,left (cL nd.path)=false/\xx nd i)/\Bw w wr) (λ_ wr=>wr.rangeLeft bn (w.heap.size+1))
 case atStart=>(
 refine⟨_,_,0,_,[],mP,?_,o0,⟨dH.nil,λi=>?_⟩,aA⟩;{have:=oD.size_le;omega};{
 constructor;{intro h;cases h};{
 rintro⟨nd,bj,hl,_⟩;exfalso;obtain⟨i,hi⟩:=Cc bj;obtain⟨g1,h1,u1,q1,q2,q3⟩:=cX.qj.at hi;have:Maps.has D (cL nd.path)=true:=(MD.hs _).2 ⟨(cL nd.path,g1),by rw[gH];refine⟨i,?_⟩;rw[nw,hi,q1],rfl⟩
 rw[this]at hl;cases hl}})
 case round=>(
 obtain⟨left,jD,k,E,s,jN,hkc,bO,xY,aK⟩:=hrel;go_wp2_with(first
  |(at_next;refine fK _ rfl _ rfl 9 oe (λs:ByteArray=>.string s) aE1 bn (w.heap.size+1) m _ _ (aa MD) _ _ (by first|rfl|(rw[<-aa HZ1];rfl)) jN ?_ ?_)
  |go_in)
 {
 intro _ yb;have ij:Hid (∀i,i∈s↔∃nd∈ns,xx nd i):=λi=>by rw[xY.2 i];constructor;{rintro⟨nd,h1,_,h2⟩;exact⟨nd,h1,h2⟩};{rintro⟨nd,h1,h2⟩;exact⟨nd,h1,yb _,h2⟩}
 have Hf:=af xY.1;have Og:=ag HC4 aK;have oS1:=OS.kept (aB aK none) ai;obtain⟨Y,eY⟩:=az wr;subst eY;go_wp2_with(first
  |(at_range;refine wpList_range_own _ rfl _ 132 rfl 31 _ iO underlying132 _ bs n _ rfl oS1 ?_;intro w3 ua wC hs3)
  |go_in)
 go_frame
 have KF:=bO.kept wC ai;have aL:Bw w w3:=cO aK wC aK.size (λj hj=>by cases hj);have lK:w.heap.size<Y.heap.size:=bO.lt
 go_loopw[6](λ_ wr=>∃(left:Lit->Bool)(jD:Nat)(E:DataW Unit)(s':LI),wr.ranges prog 31 aV bs Y.heap.size n Ds left jD/\wr.ownsMap prog 31 unitElem w.heap.size k E/\Hid (dH E s'/\∀i,i∈s'↔i∈s/\¬∃z∈ss,z.1=i/\left (.U i)=false)/\Bw w wr) (λ_ wr=>wr.rangeLeft bs Y.heap.size)
 case atStart=>(
 refine⟨_,_,E,s,ua,KF,⟨Hf,λi=>?_⟩,aL⟩;constructor;{
 intro hi;refine⟨hi,?_⟩;rintro⟨z,hz,rfl,hl⟩;obtain⟨j,hj⟩:=Cc hz;obtain⟨gz,hgz⟩:∃gz,SB[j]?=some gz:=⟨_,bD (cX.Tv.len▸(bf.1 hj).1)⟩;have:Maps.has Ds (.U z.1)=true:=(MS.hs _).2 ⟨(.U z.1,gz),by rw[gH];exact⟨j,by rw[nw,hj,hgz]⟩,rfl⟩
 rw[this]at hl;cases hl};{exactλh=>h.1})
 case round=>(
 obtain⟨left,jD,E1,s',jN,tK,xY,aK⟩:=hrel;go_wp2_with(first
  |(at_next;refine fK _ rfl _ rfl 31 iO (λi:Int=>.int .u64 i) aY7 bs Y.heap.size n _ _ MS _ _ rfl jN ?_ ?_)
  |go_in)
 {intro _ yb;have HS:=aa xY;go_wp2;go_ret;refine⟨w.heap.size,k,E1,s',rfl,tK,HS.1,λi=>?_,aK⟩;rw[HS.2 i,aa ij i];constructor;{rintro⟨h1,h2⟩;exact⟨h1,λ⟨z,hz,e⟩=>h2 ⟨z,hz,e,yb _⟩⟩};{rintro⟨h1,h2⟩;exact⟨h1,λ⟨z,hz,e,_⟩=>h2 ⟨z,hz,e⟩⟩}};{
 intro i0 pl g1 w4 ud cQ hp hlp tf aT gx aj5 Ef;obtain⟨j,z,g1',hj,XK,ee⟩:=gR hp;simp only[fQ]at ee;obtain⟨rfl,rfl⟩:=ee;obtain⟨i1,e1,e2,hwx⟩:=keyOf_int_inv underlying31 cQ;simp only[af0,Mm]at e1;simp only[CN,Mm]at e2;subst e1;subst e2;have dS:Bw w w4:=cO aK gx aK.size (λj hj=>by cases hj;omega);have Dr:=tK.kept gx aU;have XL:(Instr.entry (.pointer (some (Ad Y.heap.size 0)))).run prog w4=.ok (.tuple #[.U z.1,.pointer (some (Ad g1 0))]) w4:=Ef;have Vh:Hid (dH (E1.del (.U z.1)) (s'.filter λj=>decide (j≠z.1))/\∀i,i∈(s'.filter λj=>decide (j≠z.1))↔i∈s/\¬∃y∈ss,y.1=i/\(λq=>left q&&!q.sameKey (.U z.1)) (.U i)=false):=by
  refine⟨xY.1.del z.1,λi=>?_⟩;rw[Kh,xY.2 i];have hk:((Lit.U i).sameKey (.U z.1)=true)↔i=z.1:=by rw[VN (by trivial)];simp
  by_cases ei:i=z.1;{subst ei;simp only[ne_eq,ae2,We,I9,and_false,false_iff];rintro⟨_,h2⟩;exact h2 ⟨z,aY hj,rfl,by simp[hk.2 rfl]⟩};{simp[ei,show(Lit.U i).sameKey (.U z.1)=false by(rw[DY];exactλh=>ei (hk.1 h))]}
 go_wp2_with(first
  |(at_delete;refine wpList_delete_own _ rfl _ _ 139 31 rfl _ iO underlying139 unitElem w.heap.size k _ rfl Dr _ _ rfl (keyOf_int_mk underlying31 hwx) ?_;intro w5 Hj aY9;go_frame)
  |go_in)
 have uo:=aY9.grown;have e8:Bw w w5:=cO dS uo dS.size (λj hj=>by cases hj;exact iP _);have qx:=tf.kept uo (by have:=OS.lt;simp;omega) aU;go_roundw;exact⟨_,ud,_,_,qx,Hj,Vh,e8⟩
 case measure=>rw[qx.left_eq,jN.left_eq];exact aT})}
 {
 intro sb pl g1 w2 ud cQ hp hlp tf aT gx ij Ef;obtain⟨i,nd,g1',hi,Jr,ee⟩:=gR hp;simp only[fQ]at ee;obtain⟨rfl,rfl⟩:=ee;have aD:Bw w w2:=cO aK gx aK.size (λj hj=>by cases hj;omega);obtain rfl:=QI cQ;have bj:=aY hi;obtain⟨Cq,KJ,KI⟩:=aa xr nd bj;obtain⟨g2,h1,u1,q1,q2,q3⟩:=cX.qj.at hi;rw[Jr]at q1;cases q1;obtain⟨_,_,_,⟨V,a4,_⟩,⟨Dh,oh,sh⟩,⟨Du,ou,su⟩⟩:=cX.qj.blk i nd g1 h1 u1 hi Jr q2 q3;have Q0:g1<w.heap.size:=aQ a4;have k1:w.cell? (Ad g1 1)=some (.U nd.owner):=aq a4 1;have k3:w.cell? (Ad g1 3)=some (.map (some h1)):=aq a4 3;have k6:w.cell? (Ad g1 6)=some (.map (some u1)):=aq a4 6;have SH:=af sh;have SU:=af su;have Hk:=bO.kept gx (by first|(simp;done)|(simp;omega));have XL:(Instr.entry (.pointer (some (Ad (w.heap.size+1) 0)))).run prog w2=.ok (.tuple #[.string (aO nd.path),.pointer (some (Ad g1 0))]) w2:=Ef;have FIN:∀i:Int,((i∈s\/(nd.owner≠0/\i=nd.owner))\/i∈nd.holders)\/i∈nd.watchers↔∃nd'∈ns,(λz=>left z&&!z.sameKey (cL nd.path)) (cL nd'.path)=false/\xx nd' i:=by intro i0;rw[xY.2 i0];constructor;{rintro(((⟨nd',h1,h2,h3⟩|h)|h)|h);{exact⟨nd',h1,by simp[h2],h3⟩};{exact⟨nd,bj,by simp[sw Cq Cq],.inl h⟩};{exact⟨nd,bj,by simp[sw Cq Cq],.inr (.inl h)⟩};{exact⟨nd,bj,by simp[sw Cq Cq],.inr (.inr h)⟩}};{rintro⟨nd',h1,h2,h3⟩;by_cases ep:nd'.path=nd.path;{obtain⟨j,hj⟩:=Cc h1;have:=cX.qj.uniq hj hi ep;subst this;rcases h3 with h3|h3|h3;{exact .inl (.inl (.inr h3))};{exact .inl (.inr h3)};{exact .inr h3}};{refine .inl (.inl (.inl ⟨nd',h1,?_,h3⟩));simpa[sw (aa xr nd' h1).1 Cq,ep]using h2}}
 have hO:=aa QT nd bj;by_cases ho:nd.owner=0;{
 have d1:=(cM (aD.block g1 Q0) (o:=1)).trans k1;have d3:=(cM (aD.block g1 Q0) (o:=3)).trans k3;have d6:=(cM (aD.block g1 Q0) (o:=6)).trans k6;rw[ho]at d1;have M3:∀i,i∈s↔i∈s\/(nd.owner≠0/\i=nd.owner):=λi=>by simp[ho]
 have S3:=af xY.1;have aL:=aD;have KF:=Hk;have ua:=tf;obtain⟨w3,e3⟩:=az w2;obtain⟨K3,eK⟩:=az k;obtain⟨E3,eE⟩:=az E;obtain⟨s3,eS⟩:=az s;have XO:K3<=k+1:=ae;subst e3 eK eE eS;go_wp2_with fail;refine(vT KF (oh.kept (aB aL none) ai) S3 SH (aG oh.lt) ae KJ).mono ?_;rintro r w4⟨E4,s4,rfl,Dr,aj3,ak2,tL⟩;have dS:Bw w w4:=cO aL tL aL.size (λj hj=>by cases hj;exact iP _);have f6:=(cM (dS.block g1 Q0) (o:=6)).trans k6;have S4:=af aj3;go_wp2_with fail;refine(vT Dr (ou.kept (aB dS none) ai) S4 SU (aG ou.lt) ae KI).mono ?_;rintro r w5⟨E5,s5,rfl,Hj,aj2,ak1,uo⟩;have e8:Bw w w5:=cO dS uo dS.size (λj hj=>by cases hj;exact iP _);have qx:=(ua.kept tL (by have:=oD.lt;simp;omega) (by first|(simp;done)|(simp;omega))).kept uo (by have:=oD.lt;simp;omega) (by first|(simp;done)|(simp;omega));have Vh:Hid (dH E5 s5/\∀i,i∈s5↔∃nd'∈ns,(λz=>left z&&!z.sameKey (cL nd.path)) (cL nd'.path)=false/\xx nd' i):=⟨aj2,λi=>by rw[ak1,ak2,M3,FIN]⟩
 go_wp2;go_roundw
 case rel=>first|exact⟨_,ud,qx,_,ae,E5,Hj,s5,Vh,e8⟩|exact⟨_,ud,_,E5,s5,qx,ae,Hj,Vh,e8⟩
 case measure=>rw[qx.left_eq,jN.left_eq];exact aT}
 {
 have Wt:(nd.owner != 0)=true:=by simp[ho]
 have d1:=(cM (aD.block g1 Q0) (o:=1)).trans k1;have bA9:keyOf prog 31 (.U nd.owner)=some (.U nd.owner):=keyOf_int_mk underlying31 (oY hO);have M3:∀i,i∈s++[nd.owner]↔i∈s\/(nd.owner≠0/\i=nd.owner):=λi=>by simp[ho]
 have S3:=af (xY.1.put bO.isMap nd.owner (.agg []));go_wp2_with(first
  |(at_mapUpdate;refine wpList_mapUpdate_own _ rfl _ _ _ 139 rfl 31 _ iO underlying139 unitElem w.heap.size k _ rfl Hk iF _ _ _ rfl rfl bA9 (.agg []) [] unitElem_mk ?_;intro w3 KF al4;have aL:Below w.heap.size w w3:=cO aD al4 aD.size (λj hj=>by cases hj;exact iP _);have d3:=(cM (aL.block g1 Q0) (o:=3)).trans k3;have d6:=(cM (aL.block g1 Q0) (o:=6)).trans k6)
  |fail)
 have ua:=tf.kept al4 (by have:=oD.lt;simp;omega) (by first|(simp;done)|(simp;omega));obtain⟨K3,eK⟩:=az (k+1);obtain⟨E3,eE⟩:=az (E.put (.U nd.owner) (.agg []));obtain⟨s3,eS⟩:=az (s++[nd.owner]);have XO:K3<=k+1:=ae;rw[<-eK,<-eE]at KF;rw[<-eE,<-eS]at S3;rw[<-eS]at M3;refine(vT KF (oh.kept (aB aL none) ai) S3 SH (aG oh.lt) ae KJ).mono ?_;rintro r w4⟨E4,s4,rfl,Dr,aj3,ak2,tL⟩;have dS:Bw w w4:=cO aL tL aL.size (λj hj=>by cases hj;exact iP _);have f6:=(cM (dS.block g1 Q0) (o:=6)).trans k6;have S4:=af aj3;go_wp2_with fail;refine(vT Dr (ou.kept (aB dS none) ai) S4 SU (aG ou.lt) ae KI).mono ?_;rintro r w5⟨E5,s5,rfl,Hj,aj2,ak1,uo⟩;have e8:Bw w w5:=cO dS uo dS.size (λj hj=>by cases hj;exact iP _);have qx:=(ua.kept tL (by have:=oD.lt;simp;omega) (by first|(simp;done)|(simp;omega))).kept uo (by have:=oD.lt;simp;omega) (by first|(simp;done)|(simp;omega));have Vh:Hid (dH E5 s5/\∀i,i∈s5↔∃nd'∈ns,(λz=>left z&&!z.sameKey (cL nd.path)) (cL nd'.path)=false/\xx nd' i):=⟨aj2,λi=>by rw[ak1,ak2,M3,FIN]⟩
 go_wp2;go_roundw
 case rel=>first|exact⟨_,ud,qx,_,ae,E5,Hj,s5,Vh,e8⟩|exact⟨_,ud,_,E5,s5,qx,ae,Hj,Vh,e8⟩
 case measure=>rw[qx.left_eq,jN.left_eq];exact aT}})
def aE7(ss:List aP)(ids:LI):iR ss ids=true↔RH ids=true/\∀i∈ids,live ss i=true:=by
 simp only[iR,RH,kq,jy,Cd,Jm,fx];constructor;{intro h;refine⟨λi hi=>(h i hi).2,λy hy=>?_⟩;obtain⟨i,hi,rfl⟩:=Df hy;have:=(h i hi).1;rwa [gK,bD hi]at this};{rintro⟨h1,h2⟩i hi;refine⟨h2 _ ?_,h1 i hi⟩;rw[gK,bD hi];exact Ac hi}
def mu{α:Type}(l:List α)(d:α)(f:α->Bool):(∀i,i<l.length->f (l.getD i d)=true)↔∀y∈l,f y=true:=by
 constructor;{intro h y hy;obtain⟨i,hi,rfl⟩:=Df hy;have:=h i hi;rwa [gK,bD hi]at this};{intro h i hi;rw[gK,bD hi];exact h _ (Ac hi)}
def aA0(x:Int)(ss:List aP):(List.range ss.length).all (mB x ss)=true↔lW x ss=true:=by
 simp only[lW,kq,jy,Cd,mB,FL,fx];constructor;{intro h;exact⟨λi hi=>⟨(h i hi).1,(h i hi).2.1,(h i hi).2.2.2⟩,λi hi=>(h i hi).2.2.1⟩};{rintro⟨h1,h2⟩i hi;exact⟨(h1 i hi).1,(h1 i hi).2.1,h2 i hi,(h1 i hi).2.2⟩}
def aB9(e g:Int)(ss:List aP)(ns:List aC):(List.range ns.length).all (lI e g ss ns)=true↔kO e g ns=true/\ns.all (λnd=>dU ns (fg nd.path))=true/\∀nd∈ns,∀i,xx nd i->live ss i=true:=by
 have key:∀k,lI e g ss ns k=true↔(vY e g (ns.getD k gu)=true/\(k==0||!leB (ns.getD k gu).path (ns.getD (k-1) gu).path)=true)/\dU ns (fg (ns.getD k gu).path)=true/\(λnd=>decide (nd.owner=0)||live ss nd.owner) (ns.getD k gu)=true/\(λnd:aC=>nd.holders.all (live ss)) (ns.getD k gu)=true/\(λnd:aC=>nd.watchers.all (live ss)) (ns.getD k gu)=true:=by
  intro k;simp only[lI,vY,fx,aE7,jy];have:((ns.getD k gu).owner==0||live ss (ns.getD k gu).owner)=(decide ((ns.getD k gu).owner=0)||live ss (ns.getD k gu).owner):=by
   congr 1
  rw[this];constructor;{rintro⟨⟨a1,a2⟩,a3,a4,a5,⟨a6,a7⟩,⟨a8,a9⟩,a10⟩;exact⟨⟨⟨a1,a4,a10,a6,a8⟩,a2⟩,a3,a5,a7,a9⟩};{rintro⟨⟨⟨a1,a4,a10,a6,a8⟩,a2⟩,a3,a5,a7,a9⟩;exact⟨⟨a1,a2⟩,a3,a4,a5,⟨a6,a7⟩,⟨a8,a9⟩,a10⟩}
 simp only[kO,kq,jy,Cd,fx,key];rw[<-mu ns gu];constructor;{intro h;refine⟨⟨λi hi=>(h i hi).1.1,λi hi=>(h i hi).1.2⟩,λi hi=>(h i hi).2.1,?_⟩;have h3:=(mu ns gu (λnd=>decide (nd.owner=0)||live ss nd.owner)).1 (λi hi=>(h i hi).2.2.1);have h4:=(mu ns gu (λnd:aC=>nd.holders.all (live ss))).1 (λi hi=>jy.2 (h i hi).2.2.2.1);have h5:=(mu ns gu (λnd:aC=>nd.watchers.all (live ss))).1 (λi hi=>jy.2 (h i hi).2.2.2.2);rintro nd bj i(⟨h1,rfl⟩|h1|h1);{have:=h3 nd bj;simpa[h1]using this};{exact jy.1 (h4 nd bj) i h1};{exact jy.1 (h5 nd bj) i h1}};{rintro⟨⟨h1,h2⟩,h3,h4⟩i hi;refine⟨⟨h1 i hi,h2 i hi⟩,h3 i hi,?_,?_,?_⟩;{refine(mu ns gu (λnd=>decide (nd.owner=0)||live ss nd.owner)).2 (λnd bj=>?_) i hi;by_cases ho:nd.owner=0;{simp[ho]};{simp[ho,h4 nd bj nd.owner (.inl ⟨ho,rfl⟩)]}};{exact jy.1 ((mu ns gu (λnd:aC=>nd.holders.all (live ss))).2 (λnd bj=>jy.2 λj hj=>h4 nd bj j (.inr (.inl hj))) i hi)};{exact jy.1 ((mu ns gu (λnd:aC=>nd.watchers.all (live ss))).2 (λnd bj=>jy.2 λj hj=>h4 nd bj j (.inr (.inr hj))) i hi)}}
def FB(e g x t:Int)(ss:List aP)(ns:List aC):mY e g x t ss ns=true↔Dj e g x t ss.length ns.length=true/\lW x ss=true/\kO e g ns=true/\ns.all (λnd=>dU ns (fg nd.path))=true/\∀nd∈ns,∀i,xx nd i->live ss i=true:=by
 rw[mY,fx,fx,aA0,aB9];exact Iff.rfl
def GR{i:Int}:live ss i=true↔∃z∈ss,z.1=i:=by
 rw[live,Kl];simp
theorem vV:∀a:List UInt8,Op.bytesLess a a=false
 |[]=>rfl
 |x::a=>by simp[Op.bytesLess,vV a,af2]
theorem AI:∀{a b c:List UInt8},Op.bytesLess a b=true->Op.bytesLess b c=true->Op.bytesLess a c=true
 |_,[],_,h,_=>by simp[Op.bytesLess]at h
 |_,_::_,[],_,h=>by simp[Op.bytesLess]at h
 |[],_::_,_::_,_,_=>rfl
 |x::a,y::b,z::c,h,k=>by simp only[Op.bytesLess,Kj,jw,fx,Mo]at h k⊢;rcases h with h|⟨rfl,h⟩;{rcases k with k|⟨rfl,k⟩;{exact .inl (UInt8.lt_trans h k)};{exact .inl h}};{rcases k with k|⟨rfl,k⟩;{exact .inl k};{exact .inr ⟨rfl,AI h k⟩}}
theorem Rz:∀{a b:List UInt8},Op.bytesLess a b=false->a≠b->Op.bytesLess b a=true
 |[],[],_,h=>absurd rfl h
 |[],_::_,h,_=>by simp[Op.bytesLess]at h
 |_::_,[],_,_=>rfl
 |x::a,y::b,h,cg=>by
  simp only[Op.bytesLess,Bool.or_eq_false_iff,xL]at h;simp only[Op.bytesLess,Kj,jw,fx,Mo];by_cases hxy:x=y;{
 subst hxy
 right
 refine⟨rfl,Rz ?_ (λe=>cg (by rw[e]))⟩;simpa using h.2};{exact .inl (UInt8.lt_of_le_of_ne (af1.1 h.1) (aO0 hxy))}
theorem AJ{n:Nat}{lt:Nat->Nat->Bool}(h:kq n lt=true)(tr:∀i j k,lt i j=true->lt j k=true->lt i k=true):∀(j i:Nat),j<n->i<j->lt i j=true:=by
 have hs:∀j,j+1<n->lt j (j+1)=true:=λj hj=>by have:=jy.1 h (j+1) (Cd.2 hj);simpa using this
 intro j
 induction j with
 |zero=>intro i _ hi;omega
 |succ j ih=>
  intro i hj hi;by_cases e:i=j;{subst e;exact hs i hj};{exact tr i j (j+1) (ih i ae ae) (hs j hj)}
def JU(h:lW x ss=true):∀(i j:Nat)(s s':aP),ss[i]?=some s->ss[j]?=some s'->i<j->s.1≠s'.1:=by
 intro i j s s' hi hj kr;rw[lW,fx]at h;have:=AJ h.2 (λi j k h1 h2=>by simp at h1 h2⊢;omega) j i (bf.1 hj).1 kr;simp only[gK,hi,hj,si,jw]at this;omega
def nT{m:LI}:(!leB l m)=true↔Op.bytesLess (aO m).toList (aO l).toList=true:=by
 simp only[leB,Bool.not_eq_true',Bool.or_eq_false_iff,Wd];constructor;{rintro⟨h1,h2⟩;exact Rz h1 h2};{intro h;refine⟨?_,λe=>?_⟩;{rw[DY];intro h2;have:=AI h h2;rw[vV]at this;cases this};{rw[e,vV]at h;cases h}}
def J3(h:kO e g ns=true):∀(i j:Nat)(z z':aC),ns[i]?=some z->ns[j]?=some z'->i<j->z.path≠z'.path:=by
 intro i j z z' hi hj kr;rw[kO,fx]at h;have:=AJ h.2 (λi j k h1 h2=>nT.2 (AI (nT.1 h1) (nT.1 h2))) j i (bf.1 hj).1 kr;simp only[gK,hi,hj,si]at this;intro e;rw[e,nT,vV]at this;cases this
def Ly(h:lW x ss=true)(hx:x<=4611686018427387904):∀s∈ss,0<=s.1/\s.1<18446744073709551616:=by
 rw[lW,fx,jy]at h;have H:=(mu ss (0,0,[]) (FL x)).1 λi hi=>h.1 i (Cd.2 hi);intro s hs;have:=H s hs;simp only[FL,fx,jw]at this;omega
theorem ai2{p q:OA}{c n d m:Nat}(en:Hid (ss.length=n))(em:Hid (ns.length=m)){w:World}(h:mg w (.S p n c) ss)(hN:oU w (.S q m d) ns)(hn:Mg n)(hm:Mg m)(mj:Hid (∀s∈ss,s.2.2.length<=0/\∀e∈s.2.2,aN e.2/\e.2.length<=1048576))(gq:Hid (∀nd∈ns,aN nd.path/\nd.path.length<=1048576/\nd.value.length<=1048576/\nd.holders.length<=1048576/\nd.watchers.length<=1048576))(Ci:Hid (∀nd∈ns,(∀i∈nd.holders,0<=i/\i<18446744073709551616)/\∀i∈nd.watchers,0<=i/\i<18446744073709551616))(QT:Hid (∀nd∈ns,0<=nd.owner/\nd.owner<18446744073709551616))(Ek:ML w)(eB:Hid (mY e g x t ss ns=B)):Calls prog 51 #[ft e g x t (.S p n c) (.S q m d)] w (Rb (.bool B) w):=by
 have HR:=af λ(w':World)(hb:Bw w w')=>ah (h.below hb) (ah (hN.below hb) (Ek.below hb));have HI:Hid (B=true↔Dj e g x t n m=true/\lW x ss=true/\kO e g ns=true/\ns.all (λnd=>dU ns (fg nd.path))=true/\∀nd∈ns,∀i,xx nd i->live ss i=true):=by show _↔_;rw[<-aa eB,FB,aa en,aa em]
 obtain⟨T1,E1⟩:∃T,Hid (Dj e g x t n m=T):=⟨_,bq⟩;obtain⟨T2,E2⟩:∃T,Hid (lW x ss=T):=⟨_,bq⟩;obtain⟨T3,E3⟩:∃T,Hid (kO e g ns=T):=⟨_,bq⟩;obtain⟨T4,E4⟩:∃T,Hid (ns.all (λnd=>dU ns (fg nd.path))=T):=⟨_,bq⟩;obtain⟨W,hW⟩:=az (w.alloc (.cells #[.U e,.U g,.U x,.I t,.S p n c,.S q m d] 35));have bW:=ew hW;have yh:jO W w.heap.size e g x t (.S p n c) (.S q m d):=by rw[hW];simp[jO]
 have YF:=af yh
 go_in
 go_wp2_with fail;rw[<-hW];refine(TM hn hm E1).mono ?_;rintro r w1⟨rfl,aA⟩;have b1:=aj bW aA;cases T1 with
 |false=>
  have eF:B=false:=by rw[DY];intro hB;have:=(HI.1 hB).1;rw[aa E1]at this;cases this
  subst eF;go_wp2;go_ret;exact⟨rfl,b1⟩
 | true=>
  obtain⟨i0,i1,i2,i3,i4,i5⟩:=YF.below aA;go_wp2_with fail;refine(yS en (aa HR _ b1).1 hn mj (aa HR _ b1).2.2 E2).mono ?_;rintro r w2⟨rfl,aD⟩;have b2:=aj b1 aD;cases T2 with
  |false=>
   have eF:B=false:=by rw[DY];intro hB;have:=(HI.1 hB).2.1;rw[aa E2]at this;cases this
   subst eF;go_wp2;go_ret;exact⟨rfl,b2⟩
  | true=>
   replace i0:=ag i0 aD;replace i1:=ag i1 aD;replace i2:=ag i2 aD;replace i3:=ag i3 aD;replace i4:=ag i4 aD;replace i5:=ag i5 aD;go_wp2_with fail;refine(Fo em (aa HR _ b2).2.1 hm gq (aa HR _ b2).2.2 E3).mono ?_;rintro r w3⟨rfl,aL⟩;have b3:=aj b2 aL;cases T3 with
   |false=>
    have eF:B=false:=by rw[DY];intro hB;have:=(HI.1 hB).2.2.1;rw[aa E3]at this;cases this
    subst eF;go_wp2;go_ret;exact⟨rfl,b3⟩
   | true=>
    replace i0:=ag i0 aL;replace i1:=ag i1 aL;replace i2:=ag i2 aL;replace i3:=ag i3 aL;replace i4:=ag i4 aL;replace i5:=ag i5 aL;have hx:x<=4611686018427387904:=by have:=aa E1;simp only[Dj,jw]at this;exact this.2.2.1
    have H1:=af (Ly E2 hx);have H2:=af (JU E2);have H3:=af (J3 E3);go_wp2_with fail;refine(my en em (aa HR _ b3).1 (aa HR _ b3).2.1 hn hm H1 H2 gq Ci H3).mono ?_;rintro r w4⟨b,bs,bn,SB,NB,HB,UB,rfl,cX,dS⟩;have b4:=aj b3 dS;have qz:=af cX;go_wp2_with fail;refine(Uu qz (λnd bj=>⟨(aa gq nd bj).1,(aa gq nd bj).2.1⟩) E4).mono ?_;rintro r w5⟨rfl,e8⟩;have b5:=aj b4 e8;cases T4 with
    |false=>
     have eF:B=false:=by rw[DY];intro hB;have:=(HI.1 hB).2.2.2.1;rw[aa E4]at this;cases this
     subst eF;go_wp2;go_ret;exact⟨rfl,b5⟩
    |true=>
     have bj4:=af (qz.below e8);go_wp2_with fail;refine(IS bj4 (λnd bj=>⟨(aa gq nd bj).1,(aa gq nd bj).2.2.2⟩) QT em hm en).mono ?_;rintro r w6⟨nb,k,D,s,rfl,oD,sD,hs,ky⟩;have b6:=aj b5 ky;have hlen:∀ty,(Builtin.len_ #[139] ty #[.map (some nb)]).run prog w6=.ok (.I (Maps.size D)) w6:=λty=>oD.len underlying139 ty;have jI:Maps.size D=0↔s=[]:=sD.bt0 oD.isMap (λes ee p hp=>by obtain⟨es',e',_,hk⟩:=oD.entries iO;rw[ee]at e';cases e';exact hk p hp)
     have hB:B=true↔s=[]:=by rw[aa HI];constructor;{rintro⟨_,_,_,_,h5⟩;apply List.eq_nil_iff_forall_not_mem.2;intro i hi;obtain⟨⟨nd,bj,hN⟩,l9⟩:=(hs i).1 hi;exact l9 ((GR).1 (h5 nd bj i hN))};{intro Kz;refine⟨E1,E2,E3,E4,λnd bj i hN=>?_⟩;rw[GR];by_cases hh:∃z∈ss,z.1=i;{exact hh};{have:=(hs i).2 ⟨⟨nd,bj,hN⟩,hh⟩;rw[Kz]at this;cases this}}
     have hb:((Maps.size D:Int)==0)=B:=by rw[GF,hB,<-jI];simp
     go_wp2;go_ret;exact⟨rfl,b6⟩
def jh(s:aP):aP:=(s.1,0,[])
def iG(nd:aC):aC:={nd with watchers:=[]}
def uJ{w w':World}{R:Value->Option (DataW Unit×List MemPlace)}{b n:Nat}(h:w.ownsMap Tryz.prog k R b n D)(K:∀es c,w.heap[b]?=some (.map es c)->w'.heap[b]?=some (.map es c)):w'.ownsMap Tryz.prog k R b n D:=by
 obtain⟨es,clock,h1,h2⟩:=h;exact⟨es,clock,K _ _ h1,h2⟩
def CM{w w':World}{R:Value->Option (DataW Unit×List MemPlace)}{b r n:Nat}{jD:Nat}(h:w.ranges P k R b r n D left jD)(h1:w'.heap[b]?=w.heap[b]?)(h2:w'.heap[r]?=w.heap[r]?):w'.ranges P k R b r n D left jD:=by
 obtain⟨es,clock,since,seen,c0,hb,F,hs,hD,hr,rest⟩:=h;exact⟨es,clock,since,seen,c0,h1.trans hb,F,hs,hD,h2.trans hr,rest⟩
def Xm{l:List Nat}(h:l.Nodup){a:Nat}(hi:l[i]?=some a)(hj:l[j]?=some a):i=j:=by
 have l1:=(bf.1 hi).1;have l2:=(bf.1 hj).1;have Oe:=Jf.1 h;have v1:=(bf.1 hi).2;have v2:=(bf.1 hj).2;rcases GN i j with hh|hh|hh;{exact absurd (v1.trans v2.symm) (Oe i j l1 l2 hh)};{exact hh};{exact absurd (v2.trans v1.symm) (Oe j i l2 l1 hh)}
def nJ(f:aP->aP)(left:Lit->Bool)(ss:List aP):List aP:=ss.map λs=>if left (.U s.1)then s else f s
def Cz(h:∀s∈ss,left (.U s.1)=true):nJ f left ss=ss:=by
 unfold nJ;rw[Di (g:=id) (λs hs=>by rw[bN (h s hs)];rfl),ag1]
def JK(h:∀k,left k=false):nJ f left ss=ss.map f:=by
 unfold nJ;exact Di λs _=>by rw[bG (by rw[h];simp)]
def OG{s:aP}(hs:ss[i]?=some s)(hl:left (.U s.1)=true):(nJ f left ss)[i]?=some s:=by
 unfold nJ;rw[nj,hs,Jg,bN hl]
theorem Fq(hd:∀(i j:Nat)(s s':aP),ss[i]?=some s->ss[j]?=some s'->i<j->s.1≠s'.1){s:aP}(hs:ss[i]?=some s):(nJ f left ss).set i (f s)=nJ f (λz=>left z&&!z.sameKey (.U s.1)) ss:=by
 have KL:=(bf.1 hs).1;refine Wi λj=>?_;rw[vZ];unfold nJ;by_cases ej:i=j;{subst ej;have hkk:(Lit.U s.1).sameKey (.U s.1)=true:=VP (by trivial);rw[bN rfl,bN (by simpa using KL),nj,hs,Jg,bG (by simp[hkk])]};{
 simp only[ej,Ag];rw[nj,nj];cases hj:ss[j]? with
 |none=>rfl
 | some s'=>
  have cg:s'.1≠s.1:=by rcases GN i j with hh|hh|hh;{exactλe=>hd i j s s' hs hj hh e.symm};{exact absurd hh ej};{exact hd j i s' s hj hs hh}
  have:(Lit.U s'.1).sameKey (.U s.1)=false:=by
   cases hq:(Lit.U s'.1).sameKey (.U s.1)with
   |false=>rfl
   |true=>rw[VN (by trivial)]at hq;simp at hq;exact absurd hq cg
  simp[this]}
def JV{w:World}{mty kt et:TypeId}{R:Value->Option (DataW Unit×List MemPlace)}{b n:Nat}(hm:P.underlying mty=some (.map kt et))(h:w.ownsMap P k R b n D)(ty:TypeId):∃v w',(Builtin.clear_ #[mty] ty #[.map (some b)]).run P w=.ok v w'/\w'.ownsMap P k R b 0 (.map [])/\w.grownBy w' (some b)/\w'.heap.size=w.heap.size:=by
 obtain⟨es,clock,hb,F,hs,hD⟩:=h;have dN:∃v,(Builtin.clear_ #[mty] ty #[.map (some b)]).run P w=.ok v {w with heap:=w.heap.setIfInBounds b (.map #[] clock)}:=by simp[Builtin.clear_,ad2 hm,MapKept.run_getObj_map hb,MapKept.run_setObj_map _ hb,Result.andThen]
 obtain⟨v,hv⟩:=dN;refine⟨v,_,hv,?_,⟨rfl,rfl,rfl,ai,λi _ cg=>(MapKept.heap_set hb).2 i (λe=>cg (by rw[e]))⟩,ai⟩;exact⟨#[],clock,(MapKept.heap_set hb).1,⟨ai,MapKept.stamped_empty _,ai⟩,iP _,rfl⟩
end Go.Proofs.YtkakbcaiplggiaaGreatDoor
